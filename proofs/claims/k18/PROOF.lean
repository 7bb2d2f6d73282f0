import PyProof.Rows.All
import Wide.All
import OpenK.AllK
import Wide.FinOn
import Lean
import PyProof.EqAt
import PyProof.EqKinds
import PyProof.TupleCall
import PyProof.ListRange
import PyProof.TupleOfSeq
import PyProof.Draws
import PyProof.EnumMake
import PyProof.TupleIter
import PyProof.Rows.SetFrom
import PyProof.SetRoads
import PyProof.WalksMore
import PyProof.Rows.SortShell
import KE.KMinBuiltin
import PyProof.Rows.CallKwBuiltin
import KE.KRevIter
import PyProof.Rows.Tup
import PyProof.Rows.Range3
import PyProof.DictWalks
import PyProof.DictTruth
import PyProof.TupleKey
import PyProof.Rows.SeqMore2
import PySem.Challenge.RW_hueshare_k18_whole_folds_of_webs_made
set_option Elab.async false
set_option linter.all false
set_option maxRecDepth 100000
namespace Hd
open PySem PySem.W PySem.Calls PyProof.Rows
-- a run of the text's top over the heap as a tree, as one fold
noncomputable def runT(tb:String->Option Builtin)(p:Program)(w:World)(m:Nat)(ann:Option Value)(n:Nat):SharedT->Thread->Option SharedT:=
 @Nat.rec (fun _=>SharedT->Thread->Option SharedT) (fun _ _=>none)
  (fun _ ih s t=> @Bool.rec (fun _=>Option SharedT)
   (@Bool.rec (fun _=>Option SharedT) none
    (@Option.rec (SharedT×Thread) (fun _=>Option SharedT) none (fun r=>ih r.1 r.2) (stepT (denote tb) p w s t)) (stepOk m ann t))
   (some s) (through t)) n
theorem run_abs{tb:String->Option Builtin}{p:Program}{w:World}{m:Nat}{ann:Option Value}:∀(n:Nat) (s s':SharedT) (t:Thread),
  runT tb p w m ann n s t=some s'->topRun tb p w m ann n s.abs t=some s'.abs:=by
 intro n
 induction n with
 |zero=>intro s s' t h;exact absurd h (by intro h;cases h)
 |succ n ih=>
  intro s s' t h
  have h1: @Bool.rec (fun _=>Option SharedT) (@Bool.rec (fun _=>Option SharedT) none
    (@Option.rec (SharedT×Thread) (fun _=>Option SharedT) none (fun r=>runT tb p w m ann n r.1 r.2) (stepT (denote tb) p w s t)) (stepOk m ann t))
    (some s) (through t)=some s':=h
  unfold topRun
  cases e1:through t with
  |true=>rw[e1]at h1;injection h1 with h1;rw[h1]
  |false=>
   rw[e1]at h1
   cases e2:stepOk m ann t with
   |false=>rw[e2]at h1;cases h1
   |true=>
    rw[e2]at h1
    cases e3:stepT (denote tb) p w s t with
    |none=>rw[e3]at h1;cases h1
    |some r=>
     rw[e3]at h1
     have e4:=stepT_spec (s':=r.1) (t':=r.2) e3
     show(match step (denote tb) p w s.abs t with | .go a b=>topRun tb p w m ann n a b| .halt _ _=>none)=_
     rw[e4]
     exact ih _ _ _ h1
noncomputable def treeOf(l:List Obj):BT:=(l.foldl (fun x o=>(x.1.ins x.2 o,x.2+1)) ((BT.nil,0):BT×Nat)).1
-- the run from the start that the kit has laid
noncomputable def ran(p:Program)(N:Nat)(w:World)(os:OsState):Option SharedT:=
 runT treeTable p w 11 (some (.ref 6)) N ⟨treeOf (boot_heap w.params).objs.toList,11,{},Array.mk [],boot_drawn,boot_toks,os⟩ (topStub p)
-- what is looked at behind the run
noncomputable def looked(p q:Program)(loose:List Str)(Xt:Shared->Bool)(g0:Bool)(h:Heap)(s:Shared):=
 ((staticsOk (importedModules p.main.body) h s.heap&&namesBound p s.heap&&gensDone s&&laidKept h s.heap),openSeen q loose (importedModules p.main.body) Xt g0 s)
noncomputable def LooksWell(p q:Program)(loose:List Str)(Xt:Shared->Bool)(g0:Bool)(N:Nat):Prop:=
 ∀(w:World) (os:OsState),(ran p N w os).map (fun s=>looked p q loose Xt g0 (boot_heap w.params) s.abs)=some (true,openGood q loose)
theorem left_of{p q:Program}{loose:List Str}{Xt:Shared->Bool}{α:Type}{Yf:Shared->α}{Ya:World->α}{N:Nat}{g0:Bool}(r:LooksWell p q loose Xt g0 N)(e:opening p=plainProg p.main.scope.names)(hN:Nat.ble 600 N=true)(f:∀s,fenceModules? p s=some s)(y:∀(w:World) (os:OsState),(ran p N w os).map (fun s=>Yf s.abs)=some (Ya w)):
  LeftO p q loose Xt Yf Ya N g0:=fun w=>by
 have b:((boot_heap w.params).isNs mainGlobals&&(Array.mk []:Array GenState).size==0,(boot_heap w.params).objs.size,(boot_heap w.params).nsMap mainGlobals "__annotations__")=(true,11,some (.ref 6)):=by kernel_rfl
 have c:absHeap (treeOf (boot_heap w.params).objs.toList) 11 {}=boot_heap w.params:=by kernel_rfl
 obtain⟨⟨h,gs',d',k',os⟩,e1,e'⟩:=Option.map_eq_some_iff.mp (boot_open e hN f w)
 obtain⟨rfl,rfl,rfl,rfl⟩:h=boot_heap w.params/\gs'=Array.mk []/\d'=boot_drawn/\k'=boot_toks:=by simpa using e'
 obtain⟨b1,b2,b3⟩:_/\_/\_:=by simpa only[Prod.mk.injEq]using b
 obtain⟨s,r1,r2⟩:=Option.map_eq_some_iff.mp (r w os)
 obtain⟨s',y1,y2⟩:=Option.map_eq_some_iff.mp (y w os)
 have es:s'=s:=by rw[r1]at y1;injection y1 with y1;exact y1.symm
 subst es
 obtain⟨l1,l2⟩:_/\_:=by simpa only[looked,Prod.mk.injEq]using r2
 have t1:=run_abs N _ _ _ r1
 have ab:SharedT.abs ⟨treeOf (boot_heap w.params).objs.toList,11,{},Array.mk [],boot_drawn,boot_toks,os⟩=⟨boot_heap w.params,Array.mk [],boot_drawn,boot_toks,os⟩:=by unfold SharedT.abs;rw[c]
 rw[ab]at t1
 have t:topFrom treeTable p w N ⟨boot_heap w.params,Array.mk [],boot_drawn,boot_toks,os⟩=some s'.abs:=by
  unfold topFrom
  dsimp only
  rw[b1,b2,b3,t1]
  show(match staticsOk (importedModules p.main.body) (boot_heap w.params) s'.abs.heap&&namesBound p s'.abs.heap&&gensDone s'.abs&&laidKept (boot_heap w.params) s'.abs.heap with |true=>_|false=>_)=_
  rw[l1]
 unfold openEnds
 rw[e1]
 show(topFrom treeTable p w N _).map _=_
 rw[t]
 show some (_,_)=_
 rw[l2,y2]
end Hd
section
open PySem PySem.W PyProof.Rows
namespace Hd
noncomputable abbrev L:=PySem.Challenge.rw_hueshare_k18_whole_folds_of_webs_made
noncomputable def Q:Program:=view L.row.toRowW.prog [1,2,3,4,5,7,8,9,10,11,12,13,14,15,16,17,18,19,20,21,22,24,25,26,27,28,29,30,31,32,34,35,36,37,38,39,40,41,42,43,44,46,47,48,50,51,52,53,54,55,56,57,58]
noncomputable abbrev X:Shared->Bool:=fun s=>xlAt Q [] s&&recOk (RowW.records L.row.toRowW) s
set_option maxRecDepth 100000 in
theorem looks:LooksWell L.row.toRowW.prog Q [] X true 4948:=fun w os=>by kernel_rfl
end Hd
local macro_rules
 |`(tactic|o_head $H)=>`(tactic|
  refine holds_open (q:=Hd.Q) (loose:=[]) (N:=4948) (Xt:=Hd.X) (XP:=XL Hd.Q [])
   (Yf:=Hook.obs $H) (Ya:=Hook.val $H) (YP:=Hook.says $H)
   (Hd.left_of Hd.looks (by kernel_rfl) rfl (fun _=>by kernel_rfl) (fun _ _=>by kernel_rfl))
   (Hook.of $H) (Hook.keeps $H) (fun s e=>xl_of s (Bool.and_eq_true_iff.mp e).1) XL.keeps
   (by rfl) (by rfl) (by rfl) (fun s e=>recFacts_of (Bool.and_eq_true_iff.mp e).2) (by rfl)
   (by first |assumption|decide+kernel) (by decide+kernel) ⟨rfl,rfl,rfl,rfl,rfl,by decide+kernel⟩ ?hw ?hc)
set_option maxRecDepth 100000 in
set_option maxHeartbeats 0 in
noncomputable def Hd.early:PSigma fun P:Prop=>P->PySem.Challenge.rw_hueshare_k18_whole_folds_of_webs_made.Holds:=by
 refine⟨?P,fun W=> ?_⟩
 rotate_left
 w_on;o_law;k_head;(case hw=>w_witness2)
 exact W
end
namespace L2
open PySem PySem.Spec PyProof.Rows
noncomputable abbrev Key:=Sum Int Str
noncomputable def keyIs:Key->Value->Bool
 | .inl k,v=>Value.isInt k v
 | .inr x,v=>Value.isStrOf x v
noncomputable def keyH(w:World):Key->Int
 | .inl k=>hashInt k
 | .inr x=>hashStr w x
theorem zbv:∀{k:Key} {v:Value},keyIs k v=true->(∃i t,k=Sum.inl i/\v=Value.int i t)\/(∃x t,k=Sum.inr x/\v=Value.str x t)
 | .inl i,v,h=>by
  obtain⟨t,e⟩:=Value.isInt_shape (k:=i) (v:=v) h
  exact .inl ⟨i,t,rfl,e⟩
 | .inr x,v,h=>by
  obtain⟨t,e⟩:=Value.isStrOf_shape (x:=x) (v:=v) h
  exact .inr ⟨x,t,rfl,e⟩
theorem keyIs_int(i:Int)(t:Tok):keyIs (.inl i) (.int i t)=true:=by simp[keyIs,Value.isInt]
theorem keyIs_str(x:Str)(t:Tok):keyIs (.inr x) (.str x t)=true:=by simp[keyIs,Value.isStrOf]
theorem key_ll(a b:Int):decide ((Sum.inl a:Key)=Sum.inl b)=(a==b):=by
 by_cases e:a=b
 ·subst e;simp
 ·have h:¬(Sum.inl a:Key)=Sum.inl b:=fun q=>e (Sum.inl.inj q)
  rw[decide_eq_false h]
  exact(beq_eq_false_iff_ne.mpr e).symm
theorem key_rr(a b:Str):decide ((Sum.inr a:Key)=Sum.inr b)=decide (a=b):=by
 by_cases e:a=b
 ·subst e;simp
 ·have h:¬(Sum.inr a:Key)=Sum.inr b:=fun q=>e (Sum.inr.inj q)
  rw[decide_eq_false h,decide_eq_false e]
theorem key_lr(a:Int)(b:Str):decide ((Sum.inl a:Key)=Sum.inr b)=false:=decide_eq_false (fun q=>nomatch q)
theorem key_rl(a:Str)(b:Int):decide ((Sum.inr a:Key)=Sum.inl b)=false:=decide_eq_false (fun q=>nomatch q)
noncomputable def mixKind(prog:Program)(w:World):PySem.KeyKind prog w Key where
 is:=keyIs
 hash:=keyH w
 inj:=fun v a b ha hb=>by
  rcases zbv ha with⟨i,t,rfl,rfl⟩|⟨x,t,rfl,rfl⟩
  ·rcases zbv hb with⟨j,u,rfl,e⟩|⟨y,u,rfl,e⟩
   ·injection e with e1 _;rw[e1]
   ·exact nomatch e
  ·rcases zbv hb with⟨j,u,rfl,e⟩|⟨y,u,rfl,e⟩
   ·exact nomatch e
   ·injection e with e1 _;rw[e1]
 byValue:=fun k v h=>by
  rcases zbv h with⟨i,t,rfl,rfl⟩|⟨x,t,rfl,rfl⟩<;>rfl
 pyHash:=fun hv h=>by
  rcases zbv hv with⟨i,t,rfl,rfl⟩|⟨x,t,rfl,rfl⟩
  ·exact wpAny_pyHash_int h
  ·exact wpAny_pyHash_str h
 eqBool:=fun hu hv h=>by
  rcases zbv hu with⟨i,t,rfl,rfl⟩|⟨x,t,rfl,rfl⟩
  ·rcases zbv hv with⟨j,u,rfl,rfl⟩|⟨y,u,rfl,rfl⟩
   ·rw[key_ll]at h;exact wpAny_eqBool_int h
   ·rw[key_lr]at h;exact SeqAt.EqAt.int_str i t y u _ _ _ _ h
  ·rcases zbv hv with⟨j,u,rfl,rfl⟩|⟨y,u,rfl,rfl⟩
   ·rw[key_rl]at h;exact SeqAt.EqAt.str_int x t j u _ _ _ _ h
   ·rw[key_rr]at h;exact wpAny_eqBool_str h
 «strs»:=fun k x t v h=>by
  rcases zbv h with⟨i,u,rfl,e⟩|⟨y,u,rfl,e⟩
  ·exact nomatch e
  ·injection e with e1 _
   subst e1
   cases v<;>rfl
theorem mixKind_int(prog:Program)(w:World)(i:Int)(t:Tok):(mixKind prog w).is (.inl i) (.int i t)=true:=keyIs_int i t
theorem mixKind_str(prog:Program)(w:World)(x:Str)(t:Tok):(mixKind prog w).is (.inr x) (.str x t)=true:=keyIs_str x t
end L2
namespace L2
open PySem PySem.Spec PyProof.Rows
inductive V where
 |non|bl (b:Bool)|int (i:Int)|str (x:Str)|byt (b:Array UInt8)|flt (b:UInt64)|ref (a:Addr)|ty (n:String)
 deriving DecidableEq
noncomputable def RelV:V->Value->Prop
 | .non,u=>u=Value.none
 | .bl b,u=>u=Value.bool b
 | .int i,u=>∃t,u=Value.int i t
 | .str x,u=>∃t,u=Value.str x t
 | .byt b,u=>∃t,u=Value.bytes b t
 | .flt b,u=>∃t,u=Value.float b t
 | .ref a,u=>u=Value.ref a
 | .ty n,u=>u=Value.type n
noncomputable abbrev Vals:List V->List Value->Prop:=Paired RelV
theorem Vals.length{xs:List V}{us:List Value}(r:Vals xs us):xs.length=us.length:=Paired.length r
theorem Vals.get:∀{xs:List V} {us:List Value} {i:Nat} {x:V},Vals xs us->xs[i]? =some x->∃u,us[i]? =some u/\RelV x u
 |_,_,_,_,.nil,e=>by simp at e
 |_,_,0,_,.cons r _,e=>by simp at e;subst e;exact⟨_,rfl,r⟩
 |_,_,i+1,x,.cons _ t,e=>by
  obtain⟨u,h1,h2⟩:=Vals.get (i:=i) (x:=x) t (by simpa using e)
  exact⟨u,by simpa using h1,h2⟩
theorem Vals.set{x:V}{u:Value}(r:RelV x u):∀{xs:List V} {us:List Value} (i:Nat),Vals xs us->Vals (xs.set i x) (us.set i u)
 |_,_,_,.nil=> .nil
 |_,_,0,.cons _ t=> .cons r t
 |_,_,i+1,.cons q t=> .cons q (Vals.set r i t)
theorem Vals.append:∀{xs ys:List V} {us ws:List Value},Vals xs us->Vals ys ws->Vals (xs++ys) (us++ws)
 |_,_,_,_,.nil,s=>s
 |_,_,_,_,.cons r t,s=> .cons r (Vals.append t s)
theorem Vals.take:∀{xs:List V} {us:List Value} (n:Nat),Vals xs us->Vals (xs.take n) (us.take n)
 |_,_,0,_=> .nil
 |_,_,_+1,.nil=> .nil
 |_,_,n+1,.cons r t=> .cons r (Vals.take n t)
theorem Vals.drop:∀{xs:List V} {us:List Value} (n:Nat),Vals xs us->Vals (xs.drop n) (us.drop n)
 |_,_,0,r=>r
 |_,_,_+1,.nil=> .nil
 |_,_,n+1,.cons _ t=>Vals.drop n t
noncomputable def RelO:Option V->Option Value->Prop
 |some v,some u=>RelV v u
 |none,none=>True
 |_,_=>False
noncomputable def KV{κ:Type}:List (κ×V)->List (κ×Value)->Prop:=Paired fun(p:κ×V) (q:κ×Value)=>p.1=q.1/\RelV p.2 q.2
noncomputable def kV:Key->V
 | .inl i=> .int i
 | .inr x=> .str x
inductive HO where
 /-- a list -/
 |lst (xs:List V)
 /-- a tuple (never changes) -/
 |tup (xs:List V)
 /-- a dict whose keys are ints and texts; one whose keys are tuples of ints and texts (the empty one is both) -/
 |dK (kvs:List (Key×V))|dT (kvs:List (List Key×V))
 /-- a set of ints: its members, its size -/
 |set (S:Int->Bool) (n:Nat)
 /-- an instance of the class at C, its dict at dx, its attributes -/
 |ins (C dx:Addr) (fs:List (Str×V))
 /-- the dict of the instance at x -/
 |own (x:Addr)
 /-- the dict of an exception -/
 |xd (fs:List (Str×V))
 /-- a bound method, f of x -/
 |met (f x:Addr)
 /-- a range object lo, lo + 1, .. below hi -/
 |rng (lo hi:Int)
 /-- a thing that is known to the object (the script; a dict while a loop walks it): read, never written while it is so -/
 |frz (o:Obj) (u:HO)
 /-- a code object's table -/
 |tbl (ps:Array Value)
 /-- any other thing, by what is true of its one object (a def of one's own: SetO a S n := HO.ext fun h => ..) -/
 |ext (φ:Heap->Prop)
noncomputable abbrev Hp:=Addr->Option HO
noncomputable def upd(H:Hp)(a:Addr)(o:HO):Hp:=fun b=>if b=a then some o else H b
theorem zac{H:Hp}{a:Addr}{o:HO}:upd H a o a=some o:=by unfold upd;rw[if_pos rfl]
theorem zap{H:Hp}{a b:Addr}{o:HO}(h:b≠a):upd H a o b=H b:=by unfold upd;rw[if_neg h]
theorem ne_of{H:Hp}{a b:Addr}{o u:HO}(h:H a=some o)(h':H b=some u)(d:o≠u):a≠b:=by
 intro e;subst e;rw[h]at h';exact d (Option.some.inj h')
theorem zbt{H:Hp}{a b:Addr}{o:HO}(h:H a=some o)(h':H b=none):a≠b:=by
 intro e;subst e;rw[h]at h';cases h'
section
variable(P:Program)(w:World)
noncomputable def ObjOk(H:Hp)(h:Heap)(a:Addr):HO->Prop
 | .lst xs=>xs.length<=sizeLine/\∃(its:List Value) (n:Nat),Vals xs its/\h.get? a=some {cls:= .type "list",data:= .seq its.toArray n}
 | .tup xs=>xs.length<=sizeLine/\∃its:List Value,Vals xs its/\IsTup h a its.toArray
 | .dK kvs=>kvs.length<=sizeLine/\(a==sysModules)=false/\∃vs,KV kvs vs/\h.DictOf (mixKind P w) a vs
 | .dT kvs=>kvs.length<=sizeLine/\(a==sysModules)=false/\∃xs:List (List Key×Addr×Value),
   Paired (fun(p:List Key×V) (q:List Key×Addr×Value)=>p.1=q.1/\H q.2.1=some (.tup (p.1.map kV))/\RelV p.2 q.2.2) kvs xs/\
   ∃o es ep,h.get? a=some o/\o.ExactDict/\o.data= .dict es ep/\es.toList=xs.map (entryOfKey (tupleKind (mixKind P w)))/\(xs.map (·.1)).Nodup
 | .set S n=>h.SetOf (intKind P w) a S n
 | .ins C dx fs=>H dx=some (.own a)/\fs.length<=1000/\dx≠a/\h.get? a=some (PySem.W.instObj C dx)/\
   ∃mA,h.Ns1 dx mA/\(∀f,RelO (fs.lookup f) (mA f))/\PySem.Within mA (fs.map (·.1))
 | .own _=>∃o,h.get? a=some o
 | .xd fs=>∃mA,h.Ns1 a mA/\∀f,RelO (fs.lookup f) (mA f)
 | .rng lo hi=>∃t u v,h.get? a=some {cls:= .type "range",data:= .fields #[.int lo t,.int hi u,.int 1 v]}
 | .frz o u=>h.get? a=some o/\ObjOk H h a u
 | .tbl ps=>h.get? a=some {cls:= .none,data:= .fields ps}
 | .met f x=>h.get? a=some (PySem.W.methodObj (.ref f) (.ref x))
 | .ext φ=>φ h/\(∃o,h.get? a=some o)/\∀h1 h2:Heap,φ h1->(∀o,h1.get? a=some o->h2.get? a=some o)->φ h2
noncomputable def HOk(H:Hp)(h:Heap):Prop:=∀a o,H a=some o->ObjOk P w H h a o
end
section
variable{P:Program}{w:World}{H H':Hp}{h h':Heap}{a:Addr}{o:HO}
theorem ObjOk.lt(x:ObjOk P w H h a o):a<h.objs.size:=by
 cases o with
 |lst xs=>obtain⟨_,_,_,_,e⟩:=x;exact Heap.lt_size e
 |tup xs=>obtain⟨_,_,_,p⟩:=x;exact p.lt
 |dK kvs=>obtain⟨_,_,_,_,o,_,_,e,_⟩:=x;exact Heap.lt_size e
 |dT kvs=>obtain⟨_,_,_,_,o,_,_,e,_⟩:=x;exact Heap.lt_size e
 |set S n=>obtain⟨o,_,_,_,e,_⟩:=x;exact Heap.lt_size e
 |ins C dx fs=>obtain⟨_,_,_,e,_⟩:=x;exact Heap.lt_size e
 |own y=>obtain⟨_,e⟩:=x;exact Heap.lt_size e
 |xd fs=>obtain⟨_,⟨_,_,_,e,_⟩,_⟩:=x;exact Heap.lt_size e
 |rng lo hi=>obtain⟨_,_,_,e⟩:=x;exact Heap.lt_size e
 |frz ob u=>obtain⟨e,_⟩:=x;exact Heap.lt_size e
 |tbl ps=>exact Heap.lt_size (show h.get? a=some _ from x)
 |met f y=>exact Heap.lt_size (show h.get? a=some _ from x)
 |ext φ=>obtain⟨_,⟨_,e⟩,_⟩:=x;exact Heap.lt_size e
theorem Paired.mapP{α β:Type}{F G:α->β->Prop}:∀{l₁:List α} {l₂:List β},Paired F l₁ l₂->(∀a b,F a b->G a b)->Paired G l₁ l₂
 |_,_,.nil,_=> .nil
 |_,_,.cons r t,f=> .cons (f _ _ r) (Paired.mapP t f)
theorem ObjOk.stay(x:ObjOk P w H h a o)(k:∀b u,(b=a\/H b=some (.own a))->h.get? b=some u->h'.get? b=some u)(ho:∀b,H b=some (.own a)->H' b=some (.own a))(ht:∀b xs,H b=some (.tup xs)->H' b=some (.tup xs)):ObjOk P w H' h' a o:=by
 induction o with
 |lst xs=>obtain⟨z,its,n,r,e⟩:=x;exact⟨z,its,n,r,k _ _ (.inl rfl) e⟩
 |tup xs=>obtain⟨z,its,r,ob,e,c⟩:=x;exact⟨z,its,r,ob,k _ _ (.inl rfl) e,c⟩
 |dK kvs=>obtain⟨z,y,vs,r,ob,es,ep,e,c⟩:=x;exact⟨z,y,vs,r,ob,es,ep,k _ _ (.inl rfl) e,c⟩
 |dT kvs=>
  obtain⟨z,y,xs,r,ob,es,ep,e,c⟩:=x
  exact⟨z,y,xs,Paired.mapP r fun p q z=>⟨z.1,ht _ _ z.2.1,z.2.2⟩,ob,es,ep,k _ _ (.inl rfl) e,c⟩
 |set S n=>obtain⟨ob,es,ep,t,e,c⟩:=x;exact⟨ob,es,ep,t,k _ _ (.inl rfl) e,c⟩
 |ins C dx fs=>
  obtain⟨d,z,ne,e,mA,⟨od,es,ep,e2,c⟩,r⟩:=x
  exact⟨ho _ d,z,ne,k _ _ (.inl rfl) e,mA,⟨od,es,ep,k _ _ (.inr d) e2,c⟩,r⟩
 |own y=>obtain⟨ob,e⟩:=x;exact⟨ob,k _ _ (.inl rfl) e⟩
 |xd fs=>obtain⟨mA,⟨od,es,ep,e,c⟩,r⟩:=x;exact⟨mA,⟨od,es,ep,k _ _ (.inl rfl) e,c⟩,r⟩
 |rng lo hi=>obtain⟨t,u,v,e⟩:=x;exact⟨t,u,v,k _ _ (.inl rfl) e⟩
 |frz ob u ih=>obtain⟨e,q⟩:=x;exact⟨k _ _ (.inl rfl) e,ih q⟩
 |tbl ps=>
  have e:h.get? a=some {cls:= .none,data:= .fields ps}:=x
  show h'.get? a=some {cls:= .none,data:= .fields ps}
  exact k a _ (.inl rfl) e
 |met f y=>
  have e:h.get? a=some (PySem.W.methodObj (.ref f) (.ref y)):=x
  show h'.get? a=some (PySem.W.methodObj (.ref f) (.ref y))
  exact k a _ (.inl rfl) e
 |ext φ=>obtain⟨p,⟨o,e⟩,st⟩:=x;exact⟨st _ _ p fun o q=>k _ _ (.inl rfl) q,⟨o,k _ _ (.inl rfl) e⟩,st⟩
theorem HOk.lt(x:HOk P w H h)(e:H a=some o):a<h.objs.size:=(x a o e).lt
theorem HOk.fresh(x:HOk P w H h)(e:h.objs.size<=a):H a=none:=by
 cases q:H a with
 |none=>rfl
 |some u=>exact absurd (Nat.lt_of_lt_of_le (x.lt q) e) (Nat.lt_irrefl _)
theorem HOk.kept(x:HOk P w H h)(k:∀b u,h.get? b=some u->h'.get? b=some u):HOk P w H h':=fun a o e=>
 (x a o e).stay (fun b u _ q=>k b u q) (fun _ q=>q) fun _ _ q=>q
theorem HOk.laid(x:HOk P w H h)(k:∀b u,h.get? b=some u->h'.get? b=some u)(hp:h.objs.size<=a)(new:ObjOk P w (upd H a o) h' a o):HOk P w (upd H a o) h':=fun b u e=>by
 have hn:=x.fresh hp
 by_cases hb:b=a
 ·subst hb;rw[zac]at e;cases e;exact new
 ·rw[zap hb]at e
  exact(x b u e).stay (fun c v _ q=>k c v q) (fun c q=>by rw[zap (zbt q hn)];exact q) fun c xs q=>by rw[zap (zbt q hn)];exact q
end
noncomputable def Rd(H:Hp)(a:Addr)(u:HO):Prop:=H a=some u\/∃o,H a=some (.frz o u)
theorem Rd.of{H:Hp}{a:Addr}{u:HO}(h:H a=some u):Rd H a u:= .inl h
theorem Rd.ok{P:Program}{w:World}{H:Hp}{h:Heap}{a:Addr}{u:HO}(r:Rd H a u)(x:HOk P w H h):ObjOk P w H h a u:=by
 rcases r with r|⟨o,r⟩
 ·exact x a u r
 ·obtain⟨_,q⟩:=x a _ r
  exact q
noncomputable def Mut:Option HO->Prop
 |some (.lst _)=>True
 |some (.dK _)=>True
 |some (.dT _)=>True
 |some (.set _ _)=>True
 |some (.ins _ _ _)=>True
 |some (.ext _)=>True
 |_=>False
section
variable{P:Program}{w:World}{H:Hp}{h h':Heap}{x e:Addr}{o':HO}
theorem HOk.write(ok:HOk P w H h)(mu:Mut (H x))(he:e=x\/H e=some (.own x))(k:∀b u,b≠e->h.get? b=some u->h'.get? b=some u)(heo:∃u,h'.get? e=some u)(new:ObjOk P w (upd H x o') h' x o'):HOk P w (upd H x o') h':=fun b u q=>by
 have nown:∀c y,H c=some (.own y)->c≠x:=fun c y r z=>by subst z;rw[r]at mu;exact mu
 have ntup:∀c xs,H c=some (.tup xs)->c≠x:=fun c xs r z=>by subst z;rw[r]at mu;exact mu
 by_cases hb:b=x
 ·subst hb;rw[zac]at q;cases q;exact new
 ·rw[zap hb]at q
  by_cases hbe:b=e
  ·have q':H b=some (.own x):=by
    rcases he with z|z
    ·exact absurd (hbe.trans z) hb
    ·rw[hbe];exact z
   rw[q]at q';cases q'
   obtain⟨v,hv⟩:=heo
   exact⟨v,by rw[hbe];exact hv⟩
  ·refine(ok b u q).stay (fun c v hc r=>k c v ?_ r) (fun c r=>by rw[zap (nown c b r)];exact r) fun c xs r=>by rw[zap (ntup c xs r)];exact r
   rcases hc with rfl|hc
   ·exact hbe
   ·rintro rfl
    rcases he with z|z
    ·exact nown c b hc z
    ·rw[hc]at z;cases z;exact hb rfl
end
structure Un(fs ex:List Addr)(H H':Hp)(h h':Heap):Prop where
 keep:∀b o,h.get? b=some o->H b=none->b∉fs->b∉ex->h'.get? b=some o
 slot:∀b o,h.get? b=some o->H b=none->b∈fs->b∉ex->∃sl,h'.get? b=some {o with slots:=sl}
 free:∀b o,h.get? b=some o->H b=none->b∉ex->H' b=none
 there:∀b o,h.get? b=some o->b∉ex->∃o',h'.get? b=some o'
 tups:∀b xs,H b=some (.tup xs)->H' b=some (.tup xs)
 frzs:∀b o u,H b=some (.frz o u)->H' b=some (.frz o u)
 tbls:∀b ps,H b=some (.tbl ps)->∃more,H' b=some (.tbl (ps++more))
section
variable{fs fs' ex ex':List Addr}{H H1 H2:Hp}{h h1 h2 h':Heap}{a x e:Addr}{o:HO}
theorem Un.any(u:Un fs ex H H1 h h1){b:Addr}{ob:Obj}(q:h.get? b=some ob)(n:H b=none)(hx:b∉ex):∃sl,h1.get? b=some {ob with slots:=sl}:=by
 by_cases hb:b∈fs
 ·exact u.slot b ob q n hb hx
 ·exact⟨ob.slots,u.keep b ob q n hb hx⟩
theorem Un.trans(a:Un fs ex H H1 h h1)(b:Un fs ex H1 H2 h1 h2):Un fs ex H H2 h h2 where
 keep:=fun c ob q n hc hx=>b.keep c ob (a.keep c ob q n hc hx) (a.free c ob q n hx) hc hx
 slot:=fun c ob q n hc hx=>by
  obtain⟨sl,e1⟩:=a.slot c ob q n hc hx
  obtain⟨sl',e2⟩:=b.slot c _ e1 (a.free c ob q n hx) hc hx
  exact⟨sl',e2⟩
 free:=fun c ob q n hx=>by
  obtain⟨o',e1⟩:=a.there c ob q hx
  exact b.free c o' e1 (a.free c ob q n hx) hx
 there:=fun c ob q hx=>by
  obtain⟨o',e1⟩:=a.there c ob q hx
  exact b.there c o' e1 hx
 tups:=fun c xs q=>b.tups c xs (a.tups c xs q)
 frzs:=fun c ob xs q=>b.frzs c ob xs (a.frzs c ob xs q)
 tbls:=fun c ps q=>by
  obtain⟨m1,e1⟩:=a.tbls c ps q
  obtain⟨m2,e2⟩:=b.tbls c _ e1
  exact⟨m1++m2,by rw[e2,Array.append_assoc]⟩
theorem Un.kept(k:∀b u,h.get? b=some u->h'.get? b=some u):Un fs ex H H h h':=
 ⟨fun b ob q _ _ _=>k b ob q,fun b ob q _ _ _=>⟨ob.slots,k b ob q⟩,fun _ _ _ n _=>n,fun b ob q _=>⟨ob,k b ob q⟩,fun _ _ q=>q,fun _ _ _ q=>q,fun _ ps q=>⟨#[],by rw[q];simp⟩⟩
theorem Un.refl:Un fs ex H H h h:=Un.kept fun _ _ q=>q
theorem Un.laid(k:∀b u,h.get? b=some u->h'.get? b=some u)(hp:h.objs.size<=a)(hn:H a=none):Un fs ex H (upd H a o) h h' where
 keep:=fun b u q _ _ _=>k b u q
 slot:=fun b u q _ _ _=>⟨u.slots,k b u q⟩
 free:=fun b u q n _=>by rw[zap (Nat.ne_of_lt (Nat.lt_of_lt_of_le (Heap.lt_size q) hp))];exact n
 there:=fun b u q _=>⟨u,k b u q⟩
 tups:=fun b xs q=>by rw[zap (zbt q hn)];exact q
 frzs:=fun b u xs q=>by rw[zap (zbt q hn)];exact q
 tbls:=fun b ps q=>⟨#[],by rw[zap (zbt q hn),q];simp⟩
theorem Un.write(mu:Mut (H x))(he:e=x\/H e=some (.own x))(k:∀b u,b≠e->h.get? b=some u->h'.get? b=some u)(heo:∃u,h'.get? e=some u):Un fs ex H (upd H x o) h h':=by
 have hx:∀b,H b=none->b≠x:=fun b n z=>by subst z;rw[n]at mu;exact mu
 have hb:∀b,H b=none->b≠e:=fun b n z=>by
  subst z
  rcases he with r|r
  ·exact hx b n r
  ·rw[n]at r;cases r
 have hm:∀b u,H b=some u->¬Mut (some u)->b≠x:=fun b u q nm z=>by subst z;rw[q]at mu;exact nm mu
 refine⟨fun b u q n _ _=>k b u (hb b n) q,fun b u q n _ _=>⟨u.slots,k b u (hb b n) q⟩,fun b u q n _=>by rw[zap (hx b n)];exact n,fun b u q _=> ?_,
  fun b xs q=>by rw[zap (hm b _ q fun z=>z)];exact q,fun b u xs q=>by rw[zap (hm b _ q fun z=>z)];exact q,fun b ps q=>⟨#[],by rw[zap (hm b _ q fun z=>z),q];simp⟩⟩
 by_cases hbe:b=e
 ·subst hbe;exact heo
 ·exact⟨u,k b u hbe q⟩
theorem Un.mono(u:Un fs ex H H1 h h1)(hs:∀b∈fs,b∈fs')(hx:∀b∈ex,b∈ex'):Un fs' ex' H H1 h h1:=
 ⟨fun b ob q n hb he=>u.keep b ob q n (fun z=>hb (hs b z)) fun z=>he (hx b z),fun _ _ q n _ he=>u.any q n fun z=>he (hx _ z),fun b ob q n he=>u.free b ob q n fun z=>he (hx b z),fun b ob q he=>u.there b ob q fun z=>he (hx b z),u.tups,u.frzs,u.tbls⟩
end
noncomputable def trk(h:Heap)(H:Hp):List Addr:=(List.range h.objs.size).filter fun a=>(H a).isSome
noncomputable def hidT(h:Heap)(H:Hp):Heap:=PySem.W.hideAll h (trk h H)
theorem hidT_size(h:Heap)(H:Hp):(hidT h H).objs.size=h.objs.size:=PySem.W.hideAll_size _ _
theorem hidT_get{h:Heap}{H:Hp}{b:Addr}{o:Obj}(e:h.get? b=some o)(n:H b=none):(hidT h H).get? b=some o:=
 PySem.W.hideAll_get _ e fun hm=>by
  have q:(H b).isSome=true:=(List.mem_filter.mp hm).2
  rw[n]at q;simp at q
theorem of_hidT{h:Heap}{H:Hp}{b:Addr}{o:Obj}(e:(hidT h H).get? b=some o):h.get? b=some o/\H b=none:=by
 have e':h.get? b=some o:=PySem.W.of_hideAll (trk h H) e
 refine⟨e',?_⟩
 cases q:H b with
 |none=>rfl
 |some x=>
  have hm:b∈trk h H:=List.mem_filter.mpr ⟨List.mem_range.mpr (Heap.lt_size e'),by simp[q]⟩
  have z:(hidT h H).get? b=none:=PySem.W.hideAll_none (trk h H) hm
  rw[z]at e;cases e
noncomputable def allNews(g h:Heap)(L:Addr):List (Addr×Obj):=(List.range h.objs.size).filterMap fun a=>if a=L\/(g.get? a).isSome=true then none else(h.get? a).map fun o=>(a,o)
noncomputable def rest(g h:Heap)(L d:Addr):List (Addr×Obj):=(allNews g h L).filter fun p=>decide (p.1≠d)
end L2
namespace L2
open PySem PySem.Spec PyProof.Rows
structure Mod(K:W.Frag)(mg:Str->Option Value)(base:Heap):Prop where
 kin:K.In base
 glob:base.Ns mainGlobals mg
 blt:∃mb,base.Ns builtinsNs mb/\∀x:Str,x≠"__name__"->mb x=bootBuiltins x
 nolimit:base.NoLimit
structure Cx where
 prog:Program
 w:World
 K:W.Frag
 mg:Str->Option Value
 base:Heap
 A:Around
 N:List Str
 s₀:Shared
 H₀:Hp
 env:Env
 outer:List Env
 stack:List Env
 ex:List Addr
 fn:Str->Bool
 calm:Bool
 pn:List (Addr×Obj)
 xe:Value->Shared->Prop
noncomputable def frs(l:List Env):List Addr:=l.filterMap (·.frame)
noncomputable abbrev Cx.fs(X:Cx):List Addr:=frs X.outer
noncomputable def Vis(sc:Scope)(x:Str):Prop:=sc.names.lookup x=some .local\/sc.names.lookup x=some .cell\/sc.names.lookup x=some .free
noncomputable def Loc(sc:Scope)(x:Str):Prop:=sc.names.lookup x=some .local\/sc.names.lookup x=some .cell
noncomputable def Look(env:Env)(h:Heap)(m:Str->Option Value)(x:Str)(u:Value):Prop:=
 (env.kindOf x=some .local/\m x=some u)\/((env.kindOf x=some .cell\/env.kindOf x=some .free)/\∃c,env.cells.lookup x=some c/\h.IsCell c (some u))
structure Cx.Ok(X:Cx):Prop where
 mod:Mod X.K X.mg X.base
 kind:X.env.scope.kind= .function
 glob:X.env.globals=mainGlobals
 blt:X.env.builtins=builtinsNs
 above:X.s₀.heap.objs.size<=X.env.locals
 inj:∀x y c,X.env.cells.lookup x=some c->X.env.cells.lookup y=some c->x=y
 has:∀x,(X.env.kindOf x=some .cell\/X.env.kindOf x=some .free)->∃c,X.env.cells.lookup x=some c
 cab:∀x c,X.fn x=true->X.env.cells.lookup x=some c->X.s₀.heap.objs.size<=c
 hd:X.calm=true->X.A.handled=none
 frames:X.A.frames=some X.stack
 stk:X.stack=X.outer\/(X.stack=X.env::X.outer/\X.env.frame=some X.env.locals)
 exf:∀b∈X.ex,b≠X.env.locals/\∀x c,X.env.cells.lookup x=some c->c≠b
 bs:∀b o,X.base.get? b=some o->X.s₀.heap.get? b=some o/\X.H₀ b=none
 bsz:X.base.objs.size<=X.s₀.heap.objs.size
 noex:∀b o,X.base.get? b=some o->b∉X.ex
 exfs:∀b∈X.ex,b∉X.fs
 funs:X.s₀.heap.FunFrames X.base X.outer
 frf:∀b∈X.fs,X.H₀ b=none
structure Inv(X:Cx)(pins:List (Addr×Obj))(σ:List (Option V))(H:Hp)(s:Shared):Prop where
 ok:X.Ok
 os:s.os=X.s₀.os
 bare:AllBare s.gens
 base:Un X.fs X.ex X.H₀ H X.s₀.heap s.heap
 loc:∃m,s.heap.Ns X.env.locals m/\∀(i:Nat) (x:Str) (v:V),X.N[i]? =some x->σ[i]? =some (some v)->Vis X.env.scope x->∃u,RelV v u/\Look X.env s.heap m x u
 cell:∀x c,X.env.cells.lookup x=some c->∃v,s.heap.IsCell c v
 free:H X.env.locals=none
 freeC:∀x c,X.env.cells.lookup x=some c->H c=none
 pin:∀p∈X.pn++pins,s.heap.get? p.1=some p.2/\H p.1=none/\p.1≠X.env.locals/\p.1∉X.fs/\∀v,p.2.data≠.cell v
 hok:HOk X.prog X.w H s.heap
 len:σ.length=X.N.length
section
variable{X:Cx}{pins:List (Addr×Obj)}{σ:List (Option V)}{H H':Hp}{s:Shared}{h':Heap}
theorem Cx.Ok.nofr(ok:X.Ok){b:Addr}{o:Obj}(e:X.base.get? b=some o):b∉X.fs:=fun hb=>by
 have:=(ok.funs.mem hb).1
 rw[e]at this;cases this
theorem Inv.bs(I:Inv X pins σ H s):∀b o,X.base.get? b=some o->s.heap.get? b=some o/\H b=none:=fun b o e=>
 ⟨I.base.keep b o (I.ok.bs b o e).1 (I.ok.bs b o e).2 (I.ok.nofr e) (I.ok.noex b o e),I.base.free b o (I.ok.bs b o e).1 (I.ok.bs b o e).2 (I.ok.noex b o e)⟩
theorem Inv.bk(I:Inv X pins σ H s):∀b o,X.base.get? b=some o->s.heap.get? b=some o:=fun b o e=>(I.bs b o e).1
theorem Inv.mod(I:Inv X pins σ H s):Mod X.K X.mg X.base:=I.ok.mod
theorem Inv.kIn(I:Inv X pins σ H s):X.K.In s.heap:=I.ok.mod.kin.keeps I.bk
theorem Inv.nolimit(I:Inv X pins σ H s):s.heap.NoLimit:=I.ok.mod.nolimit.keeps I.bk
theorem Inv.lt(I:Inv X pins σ H s):X.env.locals<s.heap.objs.size:=let⟨_,hn,_⟩:=I.loc;hn.lt
theorem Inv.sz(I:Inv X pins σ H s):X.s₀.heap.objs.size<=s.heap.objs.size:=Nat.le_trans I.ok.above (Nat.le_of_lt I.lt)
theorem Inv.nofs(I:Inv X pins σ H s){a:Addr}(h:s.heap.objs.size<=a):a∉X.fs:=fun hb=>by
 obtain⟨_,o,ho,_⟩:=I.ok.funs.mem hb
 exact absurd (Nat.lt_of_lt_of_le (Heap.lt_size ho) (Nat.le_trans I.sz h)) (Nat.lt_irrefl _)
theorem Inv.cne(I:Inv X pins σ H s):∀x c,X.env.cells.lookup x=some c->c≠X.env.locals:=fun x c e z=>by
 obtain⟨v,o,ho,hd⟩:=I.cell x c e
 obtain⟨m,⟨o',es,ep,ho',hd',_⟩,_⟩:=I.loc
 rw[z,ho']at ho;cases ho;rw[hd']at hd;cases hd
theorem Inv.funs(I:Inv X pins σ H s):s.heap.FunFrames X.base X.outer:=by
 have all:∀(l:List Env),(∀b∈frs l,b∈X.fs)->X.s₀.heap.FunFrames X.base l->s.heap.FunFrames X.base l:=by
  intro l
  induction l with
  |nil=>intro _ _;trivial
  |cons env r ih=>
   intro hs hl
   obtain⟨hk,⟨L,o,hf,hn,ho,hd⟩,hr⟩:=hl
   have hL:L∈X.fs:=hs L (by unfold frs;rw[List.filterMap_cons,hf];exact List.mem_cons_self)
   obtain⟨sl,e⟩:=I.base.slot L o ho (I.ok.frf L hL) hL fun z=>I.ok.exfs L z hL
   exact⟨hk,⟨L,_,hf,hn,e,hd⟩,ih (fun b hb=>hs b (by unfold frs;rw[List.filterMap_cons,hf];exact List.mem_cons_of_mem _ hb)) hr⟩
 exact all X.outer (fun _ hb=>hb) I.ok.funs
theorem Inv.stack(I:Inv X pins σ H s):s.heap.FunFrames X.base X.stack:=by
 rcases I.ok.stk with e|⟨e,hf⟩
 ·rw[e];exact I.funs
 ·rw[e]
  obtain⟨m,hn,_⟩:=I.loc
  refine .cons (by rw[I.ok.kind];decide) hf hn ?_ I.funs
  exact Heap.get?_none_of_le (Nat.le_trans I.ok.bsz I.ok.above)
theorem Inv.stkSub(I:Inv X pins σ H s):∀b∈frs X.stack,b∈X.env.locals::X.fs:=fun b hb=>by
 rcases I.ok.stk with e|⟨e,hf⟩
 ·rw[e]at hb;exact List.mem_cons_of_mem _ hb
 ·rw[e]at hb
  unfold frs at hb
  rw[List.filterMap_cons,hf]at hb
  exact hb
theorem Inv.stkFree(I:Inv X pins σ H s):∀b∈frs X.stack,H b=none:=fun b hb=>by
 rcases List.mem_cons.mp (I.stkSub b hb)with e|hb
 ·rw[e];exact I.free
 ·obtain⟨_,o,ho,_⟩:=I.ok.funs.mem hb
  exact I.base.free b o ho (I.ok.frf b hb) fun z=>I.ok.exfs b z hb
theorem Inv.step{g':Array GenState}{t':Nat}{d':Drawn}{ch:List Addr}(I:Inv X pins σ H s)(hch:∀b∈ch,(b∈X.ex\/X.s₀.heap.objs.size<=b)/\b≠X.env.locals/\(∀x c,X.env.cells.lookup x=some c->c≠b)/\∀p∈X.pn++pins,p.1≠b)(keep:∀b o,b≠X.env.locals->b∉X.fs->b∉ch->s.heap.get? b=some o->H b=none->h'.get? b=some o)(slot:∀b o,b≠X.env.locals->b∈X.fs->b∉ch->s.heap.get? b=some o->H b=none->∃sl,h'.get? b=some {o with slots:=sl})(free:∀b o,b∉ch->s.heap.get? b=some o->H b=none->H' b=none)(there:∀b o,b∉ch->s.heap.get? b=some o->∃o',h'.get? b=some o')(tups:∀b xs,H b=some (.tup xs)->H' b=some (.tup xs))(frzs:∀b o u,H b=some (.frz o u)->H' b=some (.frz o u))(tbls:∀b ps,H b=some (.tbl ps)->∃more,H' b=some (.tbl (ps++more)))(ns:∀m,s.heap.Ns X.env.locals m->h'.Ns X.env.locals m)(hok:HOk X.prog X.w H' h')(hg:AllBare g'):
  Inv X pins σ H' {s with heap:=h',gens:=g',drawn:=d',toks:=t'}:=by
 have neL:∀b o,X.s₀.heap.get? b=some o->b≠X.env.locals:=fun b o e=>Nat.ne_of_lt (Nat.lt_of_lt_of_le (Heap.lt_size e) I.ok.above)
 have neC:∀b o,X.s₀.heap.get? b=some o->b∉X.ex->b∉ch:=fun b o e hx hb=>by
  rcases(hch b hb).1 with z|z
  ·exact hx z
  ·exact absurd (Nat.lt_of_lt_of_le (Heap.lt_size e) z) (Nat.lt_irrefl _)
 have cellK:∀x c,X.env.cells.lookup x=some c->∀v,s.heap.IsCell c v->h'.IsCell c v:=fun x c e v ⟨o,ho,hd⟩=>by
  have nch:c∉ch:=fun z=>(hch c z).2.2.1 x c e rfl
  by_cases hc:c∈X.fs
  ·obtain⟨sl,q⟩:=slot c o (I.cne x c e) hc nch ho (I.freeC x c e)
   exact⟨_,q,hd⟩
  ·exact⟨o,keep c o (I.cne x c e) hc nch ho (I.freeC x c e),hd⟩
 refine⟨I.ok,I.os,hg,⟨fun b o e n hb hx=> ?_,fun b o e n hb hx=> ?_,fun b o e n hx=> ?_,fun b o e hx=> ?_,fun b xs e=>tups b xs (I.base.tups b xs e),fun b o xs e=>frzs b o xs (I.base.frzs b o xs e),fun b ps e=> ?_⟩,?_,fun x c e=> ?_,?_,fun x c e=> ?_,fun p hp=> ?_,hok,I.len⟩
 ·exact keep b o (neL b o e) hb (neC b o e hx) (I.base.keep b o e n hb hx) (I.base.free b o e n hx)
 ·obtain⟨sl,e1⟩:=I.base.slot b o e n hb hx
  obtain⟨sl',e2⟩:=slot b _ (neL b o e) hb (neC b o e hx) e1 (I.base.free b o e n hx)
  exact⟨sl',e2⟩
 ·obtain⟨o',e1⟩:=I.base.there b o e hx
  exact free b o' (neC b o e hx) e1 (I.base.free b o e n hx)
 ·obtain⟨o',e1⟩:=I.base.there b o e hx
  exact there b o' (neC b o e hx) e1
 ·obtain⟨m1,e1⟩:=I.base.tbls b ps e
  obtain⟨m2,e2⟩:=tbls b _ e1
  exact⟨m1++m2,by rw[e2,Array.append_assoc]⟩
 ·obtain⟨m,hn,hl⟩:=I.loc
  refine⟨m,ns m hn,fun i x v e1 e2 e3=> ?_⟩
  obtain⟨u,r,l⟩:=hl i x v e1 e2 e3
  refine⟨u,r,?_⟩
  rcases l with l|⟨k,c,e,z⟩
  ·exact .inl l
  ·exact .inr ⟨k,c,e,cellK x c e _ z⟩
 ·obtain⟨v,z⟩:=I.cell x c e
  exact⟨v,cellK x c e v z⟩
 ·obtain⟨m,⟨o,_,_,ho,_⟩,_⟩:=I.loc
  exact free _ o (fun z=>(hch _ z).2.1 rfl) ho I.free
 ·obtain⟨v,o,ho,hd⟩:=I.cell x c e
  exact free c o (fun z=>(hch c z).2.2.1 x c e rfl) ho (I.freeC x c e)
 ·obtain⟨e,n,ne,nf,d⟩:=I.pin p hp
  have nch:p.1∉ch:=fun z=>(hch p.1 z).2.2.2 p hp rfl
  exact⟨keep p.1 p.2 ne nf nch e n,free p.1 p.2 nch e n,ne,nf,d⟩
theorem Inv.un{t':Nat}(I:Inv X pins σ H s)(u:Un X.fs [] H H' s.heap h')(hok:HOk X.prog X.w H' h'):Inv X pins σ H' {s with heap:=h',toks:=t'}:=by
 obtain⟨m,⟨o,es,ep,ho,r⟩,_⟩:=id I.loc
 obtain⟨sl,hL⟩:=u.any ho I.free (by simp)
 exact I.step (g':=s.gens) (d':=s.drawn) (ch:=[]) (fun _ z=>nomatch z) (fun b o _ hb _ e n=>u.keep b o e n hb (by simp)) (fun b o _ hb _ e n=>u.slot b o e n hb (by simp)) (fun b o _ e n=>u.free b o e n (by simp)) (fun b o _ e=>u.there b o e (by simp)) u.tups u.frzs u.tbls (fun m' hm=>by
  obtain⟨o',es',ep',ho',r'⟩:=hm
  rw[ho]at ho';cases ho'
  exact⟨_,es',ep',hL,r'⟩) hok I.bare
theorem Inv.call{g':Array GenState}{t':Nat}{d':Drawn}{ch:List Addr}(I:Inv X pins σ H s)(u:Un (frs X.stack) ch H H' s.heap h')(hok:HOk X.prog X.w H' h')(hg:AllBare g')(hch:∀b∈ch,(b∈X.ex\/X.s₀.heap.objs.size<=b)/\b≠X.env.locals/\(∀x c,X.env.cells.lookup x=some c->c≠b)/\∀p∈X.pn++pins,p.1≠b):
  Inv X pins σ H' {s with heap:=h',gens:=g',drawn:=d',toks:=t'}:=by
 obtain⟨m,⟨o,es,ep,ho,r⟩,_⟩:=id I.loc
 obtain⟨sl,hL⟩:=u.any ho I.free fun z=>(hch _ z).2.1 rfl
 exact I.step (ch:=ch) hch (fun b o hL hb hc e n=>u.keep b o e n (fun z=>(List.mem_cons.mp (I.stkSub b z)).elim hL hb) hc) (fun b o _ _ hc e n=>u.any e n hc) (fun b o hc e n=>u.free b o e n hc) (fun b o hc e=>u.there b o e hc) u.tups u.frzs u.tbls (fun m' hm=>by
  obtain⟨o',es',ep',ho',r'⟩:=hm
  rw[ho]at ho';cases ho'
  exact⟨_,es',ep',hL,r'⟩) hok hg
theorem Inv.turned{t':Nat}{it:Addr}(I:Inv X pins σ H s)(k:∀b o,b≠it->s.heap.get? b=some o->h'.get? b=some o)(hn:H it=none)(hL:it≠X.env.locals)(h1:it∈X.ex\/X.s₀.heap.objs.size<=it)(h2:∀x c,X.env.cells.lookup x=some c->c≠it)(h3:∀p∈X.pn++pins,p.1≠it):Inv X pins σ H {s with heap:=h',toks:=t'}:=by
 have nit:∀b u,H b=some u->b≠it:=fun b u e z=>by rw[z,hn]at e;cases e
 refine I.step (g':=s.gens) (d':=s.drawn) (ch:=[it]) (fun b hb=> ?_) (fun b o _ _ hc e _=>k b o (fun z=>hc (by simp[z])) e) (fun b o _ _ hc e _=>⟨o.slots,k b o (fun z=>hc (by simp[z])) e⟩) (fun _ _ _ _ n=>n)
  (fun b o hc e=>⟨o,k b o (fun z=>hc (by simp[z])) e⟩) (fun _ _ e=>e) (fun _ _ _ e=>e) (fun b ps e=>⟨#[],by rw[e];simp⟩) (fun m hm=> ?_) (fun b u e=> ?_) I.bare
 ·have e:b=it:=by simpa using hb
  subst e
  exact⟨h1,hL,h2,h3⟩
 ·obtain⟨o,es,ep,ho,r⟩:=hm
  exact⟨o,es,ep,k _ o (Ne.symm hL) ho,r⟩
 ·refine(I.hok b u e).stay (fun c v hc q=>k c v ?_ q) (fun _ q=>q) fun _ _ q=>q
  rcases hc with z|z
  ·rw[z];exact nit b u e
  ·exact nit c _ z
theorem Inv.tok(I:Inv X pins σ H s)(t:Nat):Inv X pins σ H {s with toks:=t}:=I.un (h':=s.heap) (t':=t) Un.refl I.hok
theorem Inv.kept{t':Nat}(I:Inv X pins σ H s)(k:∀b u,s.heap.get? b=some u->h'.get? b=some u):Inv X pins σ H {s with heap:=h',toks:=t'}:=I.un (Un.kept k) (I.hok.kept k)
theorem Inv.laid{a:Addr}{o:HO}{t':Nat}(I:Inv X pins σ H s)(k:∀b u,s.heap.get? b=some u->h'.get? b=some u)(hp:s.heap.objs.size<=a)(new:ObjOk X.prog X.w (upd H a o) h' a o):
  Inv X pins σ (upd H a o) {s with heap:=h',toks:=t'}:=I.un (Un.laid k hp (I.hok.fresh hp)) (I.hok.laid k hp new)
theorem Inv.write{x e:Addr}{o:HO}{t':Nat}(I:Inv X pins σ H s)(mu:Mut (H x))(he:e=x\/H e=some (.own x))(k:∀b u,b≠e->s.heap.get? b=some u->h'.get? b=some u)(heo:∃u,h'.get? e=some u)(new:ObjOk X.prog X.w (upd H x o) h' x o):Inv X pins σ (upd H x o) {s with heap:=h',toks:=t'}:=I.un (Un.write mu he k heo) (I.hok.write mu he k heo new)
theorem Inv.pins_of{pins':List (Addr×Obj)}(I:Inv X pins σ H s)(h:∀p∈pins',s.heap.get? p.1=some p.2/\H p.1=none/\p.1≠X.env.locals/\p.1∉X.fs/\∀v,p.2.data≠.cell v):Inv X pins' σ H s:=
 ⟨I.ok,I.os,I.bare,I.base,I.loc,I.cell,I.free,I.freeC,fun p hp=>(List.mem_append.mp hp).elim (fun z=>I.pin p (List.mem_append_left _ z)) (h p),I.hok,I.len⟩
theorem nodup_ix{N:List Str}(hN:N.Nodup){i j:Nat}{x:Str}(a:N[i]? =some x)(b:N[j]? =some x):i=j:=by
 obtain⟨h1,e1⟩:=List.getElem?_eq_some_iff.mp a
 obtain⟨h2,e2⟩:=List.getElem?_eq_some_iff.mp b
 exact(List.getElem_inj hN).mp (e1.trans e2.symm)
theorem store_ok2{M:Model}{A:Around}{E:Value->Shared->Prop}{i:Nat}{x:Str}{v:V}{u:Value}{Q:Unit->Shared->Prop}(I:Inv X pins σ H s)(hN:X.N.Nodup)(hi:X.N[i]? =some x)(hx:Loc X.env.scope x)(r:RelV v u)(h:∀s',Inv X pins (σ.set i (some v)) H s'->(∃a,Heap.SameBut a s.heap s'.heap/\(a=X.env.locals\/X.env.cells.lookup x=some a))->Q () s')(hf:X.fn x=true\/X.env.scope.names.lookup x=some .local:=by first |exact .inl rfl|exact .inr rfl|assumption):wpAny M A (storeName X.env x u) Q E s:=by
 obtain⟨m,hn,hl⟩:=id I.loc
 have hcls:(X.env.scope.kind== .class||(X.env.scope.kind== .module&&X.env.locals !=X.env.globals))=false:=by rw[I.ok.kind];rfl
 have hiσ:i<σ.length:=by rw[I.len];exact(List.getElem?_eq_some_iff.mp hi).1
 have cne:=I.cne
 have tracked:∀{a:Addr} {h':Heap},(∃o,s.heap.get? a=some o/\H a=none)->Heap.SameBut a s.heap h'->HOk X.prog X.w H h':=fun{a h'} ha hs b ob e=>by
  obtain⟨_,_,hfree⟩:=ha
  refine(I.hok b ob e).stay (fun c w' hc q=>(hs.2 c ?_).trans q) (fun _ q=>q) fun _ _ q=>q
  rintro rfl
  rcases hc with rfl|hc
  ·rw[hfree]at e;cases e
  ·rw[hfree]at hc;cases hc
 rcases hx with hk|hk
 ·refine wpAny_storeName_local hk hn (fun h' hn' hs=> ?_) hcls
  obtain⟨oL,_,_,hoL,_⟩:=id hn
  refine h _ ⟨I.ok,I.os,I.bare,⟨fun b o e n hb hx=> ?_,fun b o e n hb hx=> ?_,I.base.free,fun b o e hx=> ?_,I.base.tups,I.base.frzs,I.base.tbls⟩,⟨_,hn',fun j y v' e1 e2 e3=> ?_⟩,fun y c e=> ?_,I.free,I.freeC,fun p hp=> ?_,tracked ⟨oL,hoL,I.free⟩ hs,by simpa using I.len⟩ ⟨_,hs,.inl rfl⟩
  ·exact(hs.2 b (Nat.ne_of_lt (Nat.lt_of_lt_of_le (Heap.lt_size e) I.ok.above))).trans (I.base.keep b o e n hb hx)
  ·obtain⟨sl,e1⟩:=I.base.slot b o e n hb hx
   exact⟨sl,(hs.2 b (Nat.ne_of_lt (Nat.lt_of_lt_of_le (Heap.lt_size e) I.ok.above))).trans e1⟩
  ·obtain⟨o',e1⟩:=I.base.there b o e hx
   exact⟨o',(hs.2 b (Nat.ne_of_lt (Nat.lt_of_lt_of_le (Heap.lt_size e) I.ok.above))).trans e1⟩
  ·by_cases hj:j=i
   ·subst hj
    rw[hi]at e1;cases e1
    rw[List.getElem?_set_self hiσ]at e2
    cases e2
    exact⟨u,r,.inl ⟨hk,by simp⟩⟩
   ·rw[List.getElem?_set_ne (Ne.symm hj)]at e2
    obtain⟨u',r',q⟩:=hl j y v' e1 e2 e3
    refine⟨u',r',?_⟩
    rcases q with⟨k,e⟩|⟨k,c,e,z⟩
    ·refine .inl ⟨k,?_⟩
     have:y≠x:=fun e=>hj (nodup_ix hN e1 (e▸hi))
     simp[this,e]
    ·exact .inr ⟨k,c,e,z.sameBut hs (cne y c e)⟩
  ·obtain⟨w',z⟩:=I.cell y c e
   exact⟨w',z.sameBut hs (cne y c e)⟩
  ·obtain⟨e,n,ne,nf,d⟩:=I.pin p hp
   exact⟨(hs.2 p.1 ne).trans e,n,ne,nf,d⟩
 ·have hfn:X.fn x=true:=by
   rcases hf with z|z
   ·exact z
   ·rw[z]at hk;cases hk
  obtain⟨c,hc⟩:=I.ok.has x (.inl hk)
  obtain⟨w',z⟩:=I.cell x c hc
  refine wpAny_storeName_cell I.ok.kind hk hc z (fun h' hc' hs=> ?_)
  obtain⟨oc,hoc,hocd⟩:=id z
  refine h {s with heap:=h'} ⟨I.ok,I.os,I.bare,⟨fun b o e n hb hx=> ?_,fun b o e n hb hx=> ?_,I.base.free,fun b o e hx=> ?_,I.base.tups,I.base.frzs,I.base.tbls⟩,⟨m,hn.sameBut hs (Ne.symm (cne x c hc)),fun j y v' e1 e2 e3=> ?_⟩,fun y c' e=> ?_,I.free,I.freeC,fun p hp=> ?_,tracked ⟨oc,hoc,I.freeC x c hc⟩ hs,by simpa using I.len⟩ ⟨c,hs,.inr hc⟩
  ·exact(hs.2 b (Nat.ne_of_lt (Nat.lt_of_lt_of_le (Heap.lt_size e) (I.ok.cab x c hfn hc)))).trans (I.base.keep b o e n hb hx)
  ·obtain⟨sl,e1⟩:=I.base.slot b o e n hb hx
   exact⟨sl,(hs.2 b (Nat.ne_of_lt (Nat.lt_of_lt_of_le (Heap.lt_size e) (I.ok.cab x c hfn hc)))).trans e1⟩
  ·obtain⟨o',e1⟩:=I.base.there b o e hx
   exact⟨o',(hs.2 b (Nat.ne_of_lt (Nat.lt_of_lt_of_le (Heap.lt_size e) (I.ok.cab x c hfn hc)))).trans e1⟩
  ·by_cases hj:j=i
   ·subst hj
    rw[hi]at e1;cases e1
    rw[List.getElem?_set_self hiσ]at e2
    cases e2
    exact⟨u,r,.inr ⟨.inl hk,c,hc,hc'⟩⟩
   ·rw[List.getElem?_set_ne (Ne.symm hj)]at e2
    obtain⟨u',r',q⟩:=hl j y v' e1 e2 e3
    refine⟨u',r',?_⟩
    rcases q with q|⟨k,c',e,z'⟩
    ·exact .inl q
    ·refine .inr ⟨k,c',e,z'.sameBut hs ?_⟩
     rintro rfl
     exact hj (nodup_ix hN e1 (I.ok.inj _ _ _ e hc▸hi))
  ·by_cases hcc:c'=c
   ·subst hcc;exact⟨_,hc'⟩
   ·obtain⟨w2,z2⟩:=I.cell y c' e
    exact⟨w2,z2.sameBut hs hcc⟩
  ·obtain⟨e,n,ne,nf,d⟩:=I.pin p hp
   refine⟨(hs.2 p.1 ?_).trans e,n,ne,nf,d⟩
   intro q
   rw[q,hoc]at e
   have q':oc=p.2:=Option.some.inj e
   exact d w' (by rw[<-q'];exact hocd)
theorem store_ok{M:Model}{A:Around}{E:Value->Shared->Prop}{i:Nat}{x:Str}{v:V}{u:Value}{Q:Unit->Shared->Prop}(I:Inv X pins σ H s)(hN:X.N.Nodup)(hi:X.N[i]? =some x)(hx:Loc X.env.scope x)(r:RelV v u)(h:∀s',Inv X pins (σ.set i (some v)) H s'->Q () s')(hf:X.fn x=true\/X.env.scope.names.lookup x=some .local:=by first |exact .inl rfl|exact .inr rfl|assumption):wpAny M A (storeName X.env x u) Q E s:=
 store_ok2 I hN hi hx r (fun s' I' _=>h s' I') hf
theorem Inv.call'{s':Shared}{ch:List Addr}(I:Inv X pins σ H s)(ho:s'.os=s.os)(u:Un (frs X.stack) ch H H' s.heap s'.heap)(hok:HOk X.prog X.w H' s'.heap)(hg:AllBare s'.gens)(hch:∀b∈ch,(b∈X.ex\/X.s₀.heap.objs.size<=b)/\b≠X.env.locals/\(∀x c,X.env.cells.lookup x=some c->c≠b)/\∀p∈X.pn++pins,p.1≠b):Inv X pins σ H' s':=by
 obtain⟨h',g',d',t',o'⟩:=s'
 have e:o'=s.os:=ho
 subst e
 exact I.call (g':=g') (t':=t') (d':=d') u hok hg hch
end
noncomputable abbrev XK:=Value->Option Addr->Hp->Prop
noncomputable abbrev St:=List (Option V)
noncomputable abbrev VK:=V->Hp->Prop
noncomputable abbrev TE:=St->Hp->VK->Prop
noncomputable abbrev TT:=St->Hp->(Bool->Hp->Prop)->Prop
noncomputable abbrev TA:=St->Hp->(List V->Hp->Prop)->Prop
structure Ends where
 nx:St->Hp->Prop
 rt:VK
 bk:St->Hp->Prop:=fun _ _=>False
 ct:St->Hp->Prop:=fun _ _=>False
noncomputable abbrev TS:=Ends->St->Hp->Prop
noncomputable def EP(X:Cx)(pins:List (Addr×Obj))(σ:St)(Q:VK)(u:Value)(s':Shared):Prop:=∃v H',Inv X pins σ H' s'/\RelV v u/\Q v H'
noncomputable def TP(X:Cx)(pins:List (Addr×Obj))(σ:St)(Q:Bool->Hp->Prop)(b:Bool)(s':Shared):Prop:=∃H',Inv X pins σ H' s'/\Q b H'
noncomputable def AP(X:Cx)(pins:List (Addr×Obj))(σ:St)(Q:List V->Hp->Prop)(us:List Value)(s':Shared):Prop:=∃vs H',Inv X pins σ H' s'/\Vals vs us/\Q vs H'
noncomputable def SP(X:Cx)(pins:List (Addr×Obj))(D:Ends)(f:Flow)(s':Shared):Prop:=
 match f with
 | .next=>∃σ' H',Inv X pins σ' H' s'/\D.nx σ' H'
 | .brk=>∃σ' H',Inv X pins σ' H' s'/\D.bk σ' H'
 | .cont=>∃σ' H',Inv X pins σ' H' s'/\D.ct σ' H'
 | .ret u=>∃v σ' H',Inv X pins σ' H' s'/\RelV v u/\D.rt v H'
noncomputable def PE(X:Cx)(e:Expr)(t:TE):Prop:=
 ∀(pins:List (Addr×Obj)) (s:Shared) (σ:St) (H:Hp) (Q:VK),Inv X pins σ H s->t σ H Q->wpAny (model X.prog X.w) X.A (eval e X.env) (EP X pins σ Q) X.xe s
noncomputable def PT(X:Cx)(e:Expr)(t:TT):Prop:=
 ∀(pins:List (Addr×Obj)) (s:Shared) (σ:St) (H:Hp) (Q:Bool->Hp->Prop),Inv X pins σ H s->t σ H Q->wpAny (model X.prog X.w) X.A (isTrue e X.env (eval e X.env)) (TP X pins σ Q) X.xe s
noncomputable def PW(X:Cx)(e:Expr)(t:TT):Prop:=
 ∀(whole:Sem Value) (pins:List (Addr×Obj)) (s:Shared) (σ:St) (H:Hp) (Q:Bool->Hp->Prop),Inv X pins σ H s->t σ H Q->wpAny (model X.prog X.w) X.A (isTrue e X.env whole) (TP X pins σ Q) X.xe s
theorem PW.pt{X:Cx}{e:Expr}{t:TT}(h:PW X e t):PT X e t:=h _
noncomputable def PA(X:Cx)(es:List Expr)(t:TA):Prop:=
 ∀(pos:Pos) (pins:List (Addr×Obj)) (s:Shared) (σ:St) (H:Hp) (Q:List V->Hp->Prop),Inv X pins σ H s->t σ H Q->wpAny (model X.prog X.w) X.A (spliced (backTo pos (starEach es X.env))) (AP X pins σ Q) X.xe s
noncomputable def PS(X:Cx)(st:Stmt)(t:TS):Prop:=
 ∀(pins:List (Addr×Obj)) (s:Shared) (σ:St) (H:Hp) (D:Ends),Inv X pins σ H s->t D σ H->wpAny (model X.prog X.w) X.A (exec st X.env) (SP X pins D) X.xe s
noncomputable def PSs(X:Cx)(st:List Stmt)(t:TS):Prop:=
 ∀(pins:List (Addr×Obj)) (s:Shared) (σ:St) (H:Hp) (D:Ends),Inv X pins σ H s->t D σ H->wpAny (model X.prog X.w) X.A (execs st X.env) (SP X pins D) X.xe s
theorem thn{α:Type}{t:Sem α}{Q Q':α->Shared->Prop}{M:Model}{A:Around}{E:Value->Shared->Prop}{s:Shared}(h:wpAny M A t Q E s)(hQ:∀a s,Q a s->Q' a s):wpAny M A t Q' E s:=wpAny_mono h hQ fun _ _ x=>x
end L2
namespace L2
open PySem PySem.Spec PyProof.Rows
section
variable{X:Cx}
noncomputable def tVar(i:Nat):TE:=fun σ H Q=>∃v,σ[i]? =some (some v)/\Q v H
noncomputable def tC(v:V):TE:=fun _ H Q=>Q v H
theorem pe_var{i:Nat}{x:Str}{pos:Pos}(hN:X.N[i]? =some x)(hv:Vis X.env.scope x)(hd:(x==("__debug__":Str))=false:=by decide)(hcd:(x==("__classdict__":Str))=false:=by decide):PE X (.Name x pos) (tVar i):=by
 intro pins s σ H Q I h
 obtain⟨v,e,h⟩:=h
 obtain⟨m,hn,hl⟩:=I.loc
 obtain⟨u,r,l⟩:=hl i x v hN e hv
 have fin:EP X pins σ Q u s:=⟨v,H,I,r,h⟩
 rcases l with⟨hk,hm⟩|⟨hk,c,hc,hcell⟩
 ·exact wpAny_Name (wpAny_loadName_local I.ok.kind hk hn hm fin) hd
 ·rcases hk with hk|hk
  ·exact wpAny_Name (wpAny_loadName_cell I.ok.kind hk hc hcell fin) hd
  ·exact wpAny_Name (wpAny_loadName_free I.ok.kind hk hc hcell fin hcd) hd
theorem zag{i j pos}:PE X (.Constant (.int i) j pos) (tC (.int i)):=fun _ _ _ H _ I h=>wpAny_Constant_int ⟨.int i,H,I.tok _,⟨_,rfl⟩,h⟩
theorem pe_bl{b j pos}:PE X (.Constant (.bool b) j pos) (tC (.bl b)):=fun _ _ _ H _ I h=>Constant_bool ⟨.bl b,H,I,rfl,h⟩
theorem pe_non{j pos}:PE X (.Constant .none j pos) (tC .non):=fun _ _ _ H _ I h=>Constant_none ⟨.non,H,I,rfl,h⟩
theorem pe_str{x j pos}:PE X (.Constant (.str x) j pos) (tC (.str x)):=fun _ _ _ H _ I h=>Calls.Constant_str ⟨.str x,H,I.tok _,⟨_,rfl⟩,h⟩
noncomputable def Gl(X:Cx)(x:Str):Prop:=X.env.kindOf x=some .globalImplicit
theorem ld_glob{E:Value->Shared->Prop}{pins:List (Addr×Obj)}{s:Shared}{σ:St}{H:Hp}{x:Str}{u:Value}{pos:Pos}{Q:Value->Shared->Prop}(I:Inv X pins σ H s)(hg:Gl X x)(hm:X.mg x=some u)(h:Q u s)(hd:(x==("__debug__":Str))=false:=by decide):wpAny (model X.prog X.w) X.A (eval (.Name x pos) X.env) Q E s:=
 Calls.Name_function_global I.ok.kind hg (Calls.loadGlobal_global (by rw[I.ok.glob];exact I.mod.glob.keeps I.bk) hm h) hd
theorem ld_blt{E:Value->Shared->Prop}{pins:List (Addr×Obj)}{s:Shared}{σ:St}{H:Hp}{x:Str}{u:Value}{pos:Pos}{Q:Value->Shared->Prop}(I:Inv X pins σ H s)(hg:Gl X x)(hm:X.mg x=none)(hv:bootBuiltins x=some u)(h:Q u s)(hn:x≠"__name__":=by decide)(hd:(x==("__debug__":Str))=false:=by decide):wpAny (model X.prog X.w) X.A (eval (.Name x pos) X.env) Q E s:=by
 obtain⟨mb,h1,h2⟩:=I.mod.blt
 exact Calls.Name_function_global I.ok.kind hg (Calls.loadGlobal_builtin (by rw[I.ok.glob];exact I.mod.glob.keeps I.bk) hm (by rw[I.ok.blt];exact h1.keeps I.bk) ((h2 x hn).trans hv) h) hd
theorem pe_glob{x:Str}{v:V}{u:Value}{pos:Pos}(hg:Gl X x)(hm:X.mg x=some u)(r:RelV v u)(hd:(x==("__debug__":Str))=false:=by decide):PE X (.Name x pos) (tC v):=
 fun _ _ _ H _ I h=>ld_glob I hg hm ⟨v,H,I,r,h⟩ hd
theorem pe_bltn{x:Str}{v:V}{u:Value}{pos:Pos}(hg:Gl X x)(hm:X.mg x=none)(hv:bootBuiltins x=some u)(r:RelV v u)(hn:x≠"__name__":=by decide)(hd:(x==("__debug__":Str))=false:=by decide):PE X (.Name x pos) (tC v):=
 fun _ _ _ H _ I h=>ld_blt I hg hm hv ⟨v,H,I,r,h⟩ hn hd
variable{a b:Expr}{ta tb:TE}{pos:Pos}
noncomputable def tB(t:TE):TT:=fun σ H Q=>t σ H fun x H1=>∃c,x= .bl c/\Q c H1
theorem zcy{e:Expr}{t:TE}(h:PE X e t)(he:∀whole,isTrue e X.env whole=(do let v<-whole;standAt e.pos;holding [v] (truthy v)):=by intro _;rfl):PT X e (tB t):=by
 intro pins s σ H Q I hw
 refine isTrue_plain (thn (h pins s σ H _ I hw) fun v s1 ⟨x,H1,I1,r1,q1⟩=> ?_) (he _)
 obtain⟨d,rfl,q⟩:=q1
 cases r1
 exact wpAny_truthy_bool ⟨H1,I1,q⟩
variable{tA tB':TT}{rest:List Expr}
noncomputable def tAnd(t u:TT):TT:=fun σ H Q=>t σ H fun c H1=>if c=true then u σ H1 Q else Q false H1
noncomputable def tOr(t u:TT):TT:=fun σ H Q=>t σ H fun c H1=>if c=true then Q true H1 else u σ H1 Q
noncomputable def tNot(t:TT):TT:=fun σ H Q=>t σ H fun c H1=>Q (!c) H1
theorem pw_and1(ha:PT X a tA):PW X (.BoolOp .And [a] pos) tA:=by
 intro wh pins s σ H Q I h
 refine isTrue_and (thn (ha pins s σ H Q I h) fun c s1 e=> ?_)
 cases c with
 |true=>exact isTrue_and_nil e
 |false=>exact e
theorem pw_or1(ha:PT X a tA):PW X (.BoolOp .Or [a] pos) tA:=by
 intro wh pins s σ H Q I h
 refine isTrue_or (thn (ha pins s σ H Q I h) fun c s1 e=> ?_)
 cases c with
 |false=>exact isTrue_or_nil e
 |true=>exact e
theorem pw_and(ha:PT X a tA)(hb:PW X (.BoolOp .And (b::rest) pos) tB'):PW X (.BoolOp .And (a::b::rest) pos) (tAnd tA tB'):=by
 intro wh pins s σ H Q I h
 refine isTrue_and (thn (ha pins s σ H _ I h) fun c s1 ⟨H1,I1,q1⟩=> ?_)
 cases c with
 |true=>exact hb wh pins s1 σ H1 Q I1 q1
 |false=>exact⟨H1,I1,q1⟩
theorem pw_or(ha:PT X a tA)(hb:PW X (.BoolOp .Or (b::rest) pos) tB'):PW X (.BoolOp .Or (a::b::rest) pos) (tOr tA tB'):=by
 intro wh pins s σ H Q I h
 refine isTrue_or (thn (ha pins s σ H _ I h) fun c s1 ⟨H1,I1,q1⟩=> ?_)
 cases c with
 |true=>exact⟨H1,I1,q1⟩
 |false=>exact hb wh pins s1 σ H1 Q I1 q1
theorem pt_not(ha:PT X a tA):PT X (.UnaryOp .Not a pos) (tNot tA):=by
 intro pins s σ H Q I h
 exact isTrue_not (ha pins s σ H (fun c H1=>Q (!c) H1) I h)
noncomputable def tAndV(ta tb:TE):TE:=fun σ H Q=>ta σ H fun x H1=>∃c,x= .bl c/\if c=true then tb σ H1 Q else Q (.bl false) H1
noncomputable def tNotV(ta:TE):TE:=fun σ H Q=>ta σ H fun x H1=>∃c,x= .bl c/\Q (.bl (!c)) H1
theorem pe_one{op}{t:TE}(h:PE X a t):PE X (.BoolOp op [a] pos) t:=fun pins s σ H Q I hw=>BoolOp_one (h pins s σ H Q I hw)
theorem pe_and(ha:PE X a ta)(hb:PE X (.BoolOp .And (b::rest) pos) tb):PE X (.BoolOp .And (a::b::rest) pos) (tAndV ta tb):=by
 intro pins s σ H Q I h
 refine BoolOp_and (thn (ha pins s σ H _ I h) fun v s1 ⟨x,H1,I1,r1,q1⟩=> ?_)
 obtain⟨c,rfl,q1⟩:=q1
 cases r1
 refine wpAny_truthy_bool ?_
 cases c with
 |true=>exact hb pins s1 σ H1 Q I1 q1
 |false=>exact⟨.bl false,H1,I1,rfl,q1⟩
theorem pe_not(ha:PE X a ta):PE X (.UnaryOp .Not a pos) (tNotV ta):=by
 intro pins s σ H Q I h
 refine UnaryOp_ (thn (ha pins s σ H _ I h) fun v s1 ⟨x,H1,I1,r1,q1⟩=> ?_)
 obtain⟨c,rfl,q1⟩:=q1
 cases r1
 exact not_of (wpAny_truthy_bool ⟨.bl (!c),H1,I1,rfl,q1⟩)
end
end L2
namespace L2
open PySem PySem.Spec PyProof.Rows
noncomputable def SqL(K:W.Frag)(H:Hp)(a:Addr)(xs:List V):Prop:=
 Rd H a (.lst xs)\/
  ∃(o:Obj) (its:Array Value) (n:Nat),K.lookup a=some o/\o.cls= .type "list"/\o.dict=none/\o.data= .seq its n/\its.size<=sizeLine/\Vals xs its.toList
noncomputable def SqT(K:W.Frag)(H:Hp)(a:Addr)(xs:List V):Prop:=
 Rd H a (.tup xs)\/
  ∃(o:Obj) (its:Array Value) (n:Nat),K.lookup a=some o/\o.cls= .type "tuple"/\o.data= .seq its n/\its.size<=sizeLine/\Vals xs its.toList
noncomputable def absV:Value->Option V
 | .none=>some .non
 | .bool b=>some (.bl b)
 | .int i _=>some (.int i)
 | .str x _=>some (.str x)
 | .bytes b _=>some (.byt b)
 | .float b _=>some (.flt b)
 | .ref a=>some (.ref a)
 | .type n=>some (.ty n)
 |_=>none
theorem RelV.abs{x:V}{u:Value}(r:RelV x u):absV u=some x:=by
 cases x with
 |non=>cases r;rfl
 |bl _=>cases r;rfl
 |int _=>obtain⟨t,rfl⟩:=r;rfl
 |str _=>obtain⟨t,rfl⟩:=r;rfl
 |byt _=>obtain⟨t,rfl⟩:=r;rfl
 |flt _=>obtain⟨t,rfl⟩:=r;rfl
 |ref _=>cases r;rfl
 |ty _=>cases r;rfl
theorem RelV.inj{x y:V}{u:Value}(r:RelV x u)(q:RelV y u):x=y:=Option.some.inj (r.abs.symm.trans q.abs)
theorem Vals.inj{xs ys:List V}{us:List Value}(h:Vals xs us)(h':Vals ys us):xs=ys:=by
 induction h generalizing ys with
 |nil=>cases h';rfl
 |cons r _ ih=>cases h' with |cons r' t'=>rw[r.inj r',ih t']
section
variable{X:Cx}{pins:List (Addr×Obj)}{σ:St}{H:Hp}{s:Shared}{a:Addr}{xs ys:List V}
theorem SqL.of{K:W.Frag}(h:H a=some (.lst xs)):SqL K H a xs:= .inl (.inl h)
theorem SqT.of{K:W.Frag}(h:H a=some (.tup xs)):SqT K H a xs:= .inl (.inl h)
theorem Inv.list(I:Inv X pins σ H s)(h:SqL X.K H a xs):∃its:List Value,Vals xs its/\PlainL s.heap a its.toArray/\xs.length<=sizeLine:=by
 rcases h with h|⟨o,its,n,hk,hc,hd,hs,hz,r⟩
 ·obtain⟨z,its,n,r,e⟩:=h.ok I.hok
  exact⟨its,r,⟨_,n,e,rfl,rfl,rfl⟩,z⟩
 ·refine⟨its.toList,r,⟨o,n,I.kIn a o hk,hc,hd,by simpa using hs⟩,?_⟩
  have e:=r.length
  simp only[Array.length_toList]at e
  omega
theorem Inv.tuple(I:Inv X pins σ H s)(h:SqT X.K H a xs):∃its:List Value,Vals xs its/\IsTup s.heap a its.toArray/\xs.length<=sizeLine:=by
 rcases h with h|⟨o,its,n,hk,hc,hs,hz,r⟩
 ·obtain⟨z,its,r,p⟩:=h.ok I.hok
  exact⟨its,r,p,z⟩
 ·refine⟨its.toList,r,⟨o,I.kIn a o hk,hc,n,by simpa using hs⟩,?_⟩
  have e:=r.length
  simp only[Array.length_toList]at e
  omega
theorem Inv.list_inj(I:Inv X pins σ H s)(h:SqL X.K H a xs)(h':SqL X.K H a ys):xs=ys:=by
 obtain⟨its,r,⟨o,n,e,_,_,d⟩,_⟩:=I.list h
 obtain⟨its',r',⟨o',n',e',_,_,d'⟩,_⟩:=I.list h'
 rw[e]at e';cases e'
 rw[d]at d'
 injection d' with d1 _
 have:its=its':=by simpa using congrArg Array.toList d1
 subst this
 exact r.inj r'
theorem Inv.tuple_inj(I:Inv X pins σ H s)(h:SqT X.K H a xs)(h':SqT X.K H a ys):xs=ys:=by
 obtain⟨its,r,⟨o,e,_,n,d⟩,_⟩:=I.tuple h
 obtain⟨its',r',⟨o',e',_,n',d'⟩,_⟩:=I.tuple h'
 rw[e]at e';cases e'
 rw[d]at d'
 injection d' with d1 _
 have:its=its':=by simpa using congrArg Array.toList d1
 subst this
 exact r.inj r'
end
noncomputable abbrev Cx.wish(X:Cx)(E:Value->Shared->Prop):Cx:={X with xe:=E}
noncomputable abbrev Cx.nox(X:Cx):Cx:=X.wish fun _ _=>False
theorem Cx.Ok.wish{X:Cx}(ok:X.Ok)(E:Value->Shared->Prop):(X.wish E).Ok:=
 ⟨ok.mod,ok.kind,ok.glob,ok.blt,ok.above,ok.inj,ok.has,ok.cab,ok.hd,ok.frames,ok.stk,ok.exf,ok.bs,ok.bsz,ok.noex,ok.exfs,ok.funs,ok.frf⟩
theorem Cx.Ok.unwish{X:Cx}{E:Value->Shared->Prop}(ok:(X.wish E).Ok):X.Ok:=
 ⟨ok.mod,ok.kind,ok.glob,ok.blt,ok.above,ok.inj,ok.has,ok.cab,ok.hd,ok.frames,ok.stk,ok.exf,ok.bs,ok.bsz,ok.noex,ok.exfs,ok.funs,ok.frf⟩
section
variable{X:Cx}{pins:List (Addr×Obj)}{σ:St}{H:Hp}{s:Shared}{E:Value->Shared->Prop}
theorem Inv.wish(I:Inv X pins σ H s)(E:Value->Shared->Prop):Inv (X.wish E) pins σ H s:=⟨I.ok.wish E,I.os,I.bare,I.base,I.loc,I.cell,I.free,I.freeC,I.pin,I.hok,I.len⟩
theorem Inv.unwish(I:Inv (X.wish E) pins σ H s):Inv X pins σ H s:=⟨I.ok.unwish,I.os,I.bare,I.base,I.loc,I.cell,I.free,I.freeC,I.pin,I.hok,I.len⟩
theorem SP.unwish{D:Ends}{f:Flow}{s':Shared}(h:SP (X.wish E) pins D f s'):SP X pins D f s':=by
 cases f with
 |next=>obtain⟨σ',H',I,q⟩:=h;exact⟨σ',H',I.unwish,q⟩
 |brk=>obtain⟨σ',H',I,q⟩:=h;exact⟨σ',H',I.unwish,q⟩
 |cont=>obtain⟨σ',H',I,q⟩:=h;exact⟨σ',H',I.unwish,q⟩
 |ret u=>obtain⟨v,σ',H',I,r,q⟩:=h;exact⟨v,σ',H',I.unwish,r,q⟩
theorem PE.nox{e:Expr}{t:TE}(h:PE X.nox e t):PE X e t:=fun pins s σ H Q I hw=>
 wpAny_mono (h pins s σ H Q (I.wish _) hw) (fun _ _ ⟨v,H',I',r,q⟩=>⟨v,H',I'.unwish,r,q⟩) fun _ _ z=>False.elim z
theorem PT.nox{e:Expr}{t:TT}(h:PT X.nox e t):PT X e t:=fun pins s σ H Q I hw=>
 wpAny_mono (h pins s σ H Q (I.wish _) hw) (fun _ _ ⟨H',I',q⟩=>⟨H',I'.unwish,q⟩) fun _ _ z=>False.elim z
theorem PSs.nox{st:List Stmt}{t:TS}(h:PSs X.nox st t):PSs X st t:=fun pins s σ H D I hw=>
 wpAny_mono (h pins s σ H D (I.wish _) hw) (fun _ _ q=>q.unwish) fun _ _ z=>False.elim z
end
section
variable{X:Cx}{st:Stmt}{rest:List Stmt}{t u:TS}{e:Expr}{te:TE}{pos:Pos}
noncomputable def tNext:TS:=fun D σ H=>D.nx σ H
noncomputable def tSeq(t u:TS):TS:=fun D σ H=>t {D with nx:=u D} σ H
theorem zay:PSs X [] tNext:=fun _ _ σ H _ I h=>wpAny_execs_nil ⟨σ,H,I,h⟩
theorem zae(h1:PS X st t)(h2:PSs X rest u):PSs X (st::rest) (tSeq t u):=by
 intro pins s σ H D I h
 refine wpAny_execs_cons (thn (h1 pins s σ H {D with nx:=u D} I h) fun f s1 q=> ?_)
 cases f with
 |next=>
  obtain⟨σ',H',I',q⟩:=q
  exact h2 pins s1 σ' H' D I' q
 |ret v=>exact q
 |brk=>exact q
 |cont=>exact q
theorem zah(h1:PS X st t):PSs X [st] t:=by
 intro pins s σ H D I h
 refine wpAny_execs_cons (thn (h1 pins s σ H D I h) fun f s1 q=> ?_)
 cases f with
 |next=>exact wpAny_execs_nil q
 |ret v=>exact q
 |brk=>exact q
 |cont=>exact q
noncomputable def tBreak:TS:=fun D σ H=>D.bk σ H
theorem ps_break:PS X (.Break pos) tBreak:=fun _ _ σ H _ I h=>wpAny_Break ⟨σ,H,I,h⟩
theorem Inv.quiet{pins:List (Addr×Obj)}{σ:St}{H:Hp}{s:Shared}(I:Inv X pins σ H s):interactive X.env=false:=by simp[interactive,I.ok.kind]
noncomputable def tDrop(te:TE):TS:=fun D σ H=>te σ H fun _ H1=>D.nx σ H1
theorem zcb(he:PE X e te)(hs:swapsWith e none pos.line X.env=pure false:=by rfl):PS X (.Expr e pos) (tDrop te):=by
 intro pins s σ H D I h
 exact wpAny_Expr_any (thn (he pins s σ H _ I h) fun v s1 ⟨x,H1,I1,r1,q1⟩=>⟨σ,H1,I1,q1⟩) I.quiet hs
noncomputable def tRet(te:TE):TS:=fun D σ H=>te σ H D.rt
theorem zal(he:PE X e te):PS X (.Return (some e) pos) (tRet te):=by
 intro pins s σ H D I h
 exact wpAny_Return_some (thn (he pins s σ H _ I h) fun v s1 ⟨x,H1,I1,r1,q1⟩=>⟨x,σ,H1,I1,r1,q1⟩)
noncomputable def tIfS(c:TT)(t u:TS):TS:=fun D σ H=>c σ H fun b H1=>if b=true then t D σ H1 else u D σ H1
theorem zcs{c:Expr}{a b:List Stmt}{tc:TT}(hc:PT X c tc)(ha:PSs X a t)(hb:PSs X b u):PS X (.If c a b pos) (tIfS tc t u):=by
 intro pins s σ H D I h
 refine wpAny_If (thn (hc pins s σ H _ I h) fun d s1 ⟨H1,I1,q1⟩=> ?_)
 cases d with
 |true=>exact ha pins s1 σ H1 D I1 q1
 |false=>exact hb pins s1 σ H1 D I1 q1
noncomputable def tNever:TS:=fun _ _ _=>False
theorem pss_never{sts:List Stmt}:PSs X sts tNever:=fun _ _ _ _ _ _ h=>h.elim
end
noncomputable abbrev TG:=V->St->Hp->(St->Hp->Prop)->Prop
noncomputable abbrev TGs:=List V->St->Hp->(St->Hp->Prop)->Prop
noncomputable def PG(X:Cx)(target:Expr)(t:TG):Prop:=
 ∀(pins:List (Addr×Obj)) (s:Shared) (σ:St) (H:Hp) (v:V) (u:Value) (Q:St->Hp->Prop),Inv X pins σ H s->RelV v u->t v σ H Q->
  wpAny (model X.prog X.w) X.A (assign target X.env u) (fun _ s'=>∃σ' H',Inv X pins σ' H' s'/\Q σ' H') X.xe s
noncomputable def PGs(X:Cx)(ts:List Expr)(t:TGs):Prop:=
 ∀(pins:List (Addr×Obj)) (s:Shared) (σ:St) (H:Hp) (vs:List V) (us:List Value) (Q:St->Hp->Prop),Inv X pins σ H s->Vals vs us->t vs σ H Q->
  wpAny (model X.prog X.w) X.A (assignInOrder ((assignEach ts X.env).map (·.2)) us) (fun _ s'=>∃σ' H',Inv X pins σ' H' s'/\Q σ' H') X.xe s
noncomputable abbrev TSet:=V->V->V->Hp->(Hp->Prop)->Prop
noncomputable def PSet(X:Cx)(t:TSet):Prop:=
 ∀(pins:List (Addr×Obj)) (s:Shared) (σ:St) (H:Hp) (o i v:V) (ov iv u:Value) (Q:Hp->Prop),Inv X pins σ H s->RelV o ov->RelV i iv->RelV v u->t o i v H Q->
  wpAny (model X.prog X.w) X.A (setItem ov iv u) (fun _ s'=>∃H',Inv X pins σ H' s'/\Q H') X.xe s
section
variable{X:Cx}{pos:Pos}
noncomputable def gName(i:Nat):TG:=fun v σ H Q=>Q (σ.set i (some v)) H
theorem zaj{i:Nat}{x:Str}(hN:X.N.Nodup)(hi:X.N[i]? =some x)(hx:Loc X.env.scope x)(hf:X.fn x=true\/X.env.scope.names.lookup x=some .local:=by first |exact .inl rfl|exact .inr rfl|assumption):PG X (.Name x pos) (gName i):=by
 intro pins s σ H v u Q I r h
 exact wpAny_assign_Name (store_ok I hN hi hx r (fun s' I'=>⟨_,H,I',h⟩) hf)
noncomputable def gNil:TGs:=fun vs σ H Q=>vs=[]/\Q σ H
noncomputable def gCons(t:TG)(u:TGs):TGs:=fun vs σ H Q=>∃v r,vs=v::r/\t v σ H fun σ' H'=>u r σ' H' Q
theorem pgs_nil:PGs X [] gNil:=by
 intro pins s σ H vs us Q I r h
 obtain⟨e,h⟩:=h
 subst e
 cases r
 exact assignInOrder_nil ⟨σ,H,I,h⟩
theorem zcc{e:Expr}{es:List Expr}{t:TG}{u:TGs}(h1:PG X e t)(h2:PGs X es u)(hs:(assignEach (e::es) X.env).map (·.2)=assign e X.env::(assignEach es X.env).map (·.2):=by rfl):PGs X (e::es) (gCons t u):=by
 intro pins s σ H vs us Q I r h
 obtain⟨v,vr,e1,h⟩:=h
 subst e1
 cases r with
 |cons r rr=>
  rw[hs]
  refine assignInOrder_cons (thn (h1 pins s σ H _ _ _ I r h) fun _ s1 ⟨σ1,H1,I1,q1⟩=> ?_)
  exact h2 pins s1 σ1 H1 _ _ Q I1 rr q1
noncomputable def gTup(K:W.Frag)(n:Nat)(t:TGs):TG:=fun v σ H Q=>∃a xs,v= .ref a/\SqT K H a xs/\xs.length=n/\t xs σ H Q
theorem pg_tup{es:List Expr}{k:Nat}{t:TGs}{n:Nat}(hc:X.calm=true)(h:PGs X es t)(hn:(assignEach es X.env).length=n:=by rfl)(hst:(assignEach es X.env).findIdx? (·.1)=none:=by rfl):PG X (.Tuple es k pos) (gTup X.K n t):=by
 intro pins s σ H v u Q I r hw
 obtain⟨a,xs,e1,hq,hl,hw⟩:=hw
 subst e1
 cases r
 obtain⟨its,rv,ht,hz⟩:=I.tuple hq
 refine assign_Tuple_tuple (I.ok.hd hc) ht (by simp[hn,<-hl,rv.length]) hst fun h' hx=> ?_
 have I1:Inv X pins σ H {s with heap:=h'}:=I.kept (t':=s.toks) fun b o e=>hx b o (Nat.ne_of_lt (Heap.lt_size e)) e
 exact h pins _ σ H xs _ Q I1 (by simpa using rv) hw
noncomputable def gSub(to ti:TE)(t:TSet):TG:=fun v σ H Q=>to σ H fun o H1=>ti σ H1 fun i H2=>t o i v H2 fun H3=>Q σ H3
theorem pg_sub{o i:Expr}{to ti:TE}{t:TSet}(ho:PE X o to)(hi:PE X i ti)(hs:PSet X t)(ha:∀v,assign (.Subscript o i pos) X.env v=(do
   let ov<-holding [v] (eval o X.env)
   let iv<-holding [v,ov] (eval i X.env)
   standAt pos
   holding [v,ov,iv] (setItem ov iv v)
   release [v,ov,iv] []):=by intro _;rfl):PG X (.Subscript o i pos) (gSub to ti t):=by
 intro pins s σ H v u Q I r h
 rw[ha]
 refine wpAny_bind (wpAny_holding (thn (ho pins s σ H _ I h) fun ov s1 ⟨x,H1,I1,r1,q1⟩=> ?_))
 refine wpAny_bind (wpAny_holding (thn (hi pins s1 σ H1 _ I1 q1) fun iv s2 ⟨y,H2,I2,r2,q2⟩=> ?_))
 refine wpAny_bind (wpAny_standAt (wpAny_bind (wpAny_holding (thn (hs pins s2 σ H2 x y v ov iv u _ I2 r1 r2 r q2) fun _ s3 ⟨H3,I3,q3⟩=> ?_))))
 exact wpAny_release ⟨σ,H3,I3,q3⟩
noncomputable def tAsg(te:TE)(g:TG):TS:=fun D σ H=>te σ H fun x H1=>g x σ H1 D.nx
theorem ps_asg{tg e:Expr}{te:TE}{g:TG}(he:PE X e te)(hg:PG X tg g)(hs:swapsWithSole [tg] e pos.line X.env=pure false:=by rfl)(hw:swappedStores [tg] e X.env=pure none:=by rfl)(h1:(assignEach [tg] X.env).map (·.2)=[assign tg X.env]:=by rfl):PS X (.Assign [tg] e pos) (tAsg te g):=by
 intro pins s σ H D I h
 refine wpAny_Assign_stores (thn (he pins s σ H _ I h) fun v s1 ⟨x,H1,I1,r1,q1⟩=> ?_) hs hw
 rw[h1]
 exact thn (hg pins s1 σ H1 x v _ I1 r1 q1) fun _ s2 q=>q
theorem zas{i:Nat}{x:Str}{e:Expr}{te:TE}{pos':Pos}(hN:X.N.Nodup)(hi:X.N[i]? =some x)(hx:Loc X.env.scope x)(he:PE X e te)(hs:swapsWith e (some (.Name x pos')) pos.line X.env=pure false:=by rfl)(hf:X.fn x=true\/X.env.scope.names.lookup x=some .local:=by first |exact .inl rfl|exact .inr rfl|assumption):
  PS X (.Assign [.Name x pos'] e pos) (tAsg te (gName i)):=by
 intro pins s σ H D I h
 refine wpAny_Assign_Name (thn (he pins s σ H _ I h) fun v s1 ⟨y,H1,I1,r1,q1⟩=> ?_) hs
 exact store_ok I1 hN hi hx r1 (fun s2 I2=>⟨_,H1,I2,q1⟩) hf
end
section
variable{X:Cx}{pos:Pos}
noncomputable def tWhile(c:TT)(tb:TS):TS:=fun D σ H=>∃W:Nat->St->Hp->Prop,(∃m,W m σ H)/\∀m σ H,W m σ H->
 c σ H fun b H1=>if b=true then∃N:St->Hp->Prop,(∀σ' H',N σ' H'->∃m',m'<m/\W m' σ' H')/\tb {D with nx:=N,ct:=N,bk:=D.nx} σ H1 else D.nx σ H1
theorem ps_while{c:Expr}{body:List Stmt}{tc:TT}{tb:TS}(hp:PassesOwn (model X.prog X.w) X.A X.env X.xe)(hc:PT X c tc)(hb:PSs X body tb):PS X (.While c body [] pos) (tWhile tc tb):=by
 intro pins s σ H D I h
 obtain⟨W,⟨m0,w0⟩,turn⟩:=h
 refine wpAny_While (codeAny_whileLoop (fun n s'=>∃σ' H',Inv X pins σ' H' s'/\W n σ' H') ?_ m0 ⟨σ,H,I,w0⟩)
 rintro n s1 ⟨σ1,H1,I1,w1⟩
 refine wpAny_passesOwn hp (thn (hc pins s1 σ1 H1 _ I1 (turn n σ1 H1 w1)) fun b s2 ⟨H2,I2,q2⟩=> ?_)
 cases b with
 |true=>
  obtain⟨N,hN,q2⟩:=q2
  rw[if_pos rfl]
  refine wpAny_passesOwn hp (thn (hb pins s2 σ1 H2 _ I2 q2) fun f s3 q3=> ?_)
  cases f with
  |next=>
   obtain⟨σ3,H3,I3,n3⟩:=q3
   obtain⟨m',hm,w3⟩:=hN σ3 H3 n3
   exact⟨m',hm,σ3,H3,I3,w3⟩
  |cont=>
   obtain⟨σ3,H3,I3,n3⟩:=q3
   obtain⟨m',hm,w3⟩:=hN σ3 H3 n3
   exact⟨m',hm,σ3,H3,I3,w3⟩
  |brk=>exact q3
  |ret v=>exact q3
 |false=>
  rw[if_neg Bool.false_ne_true]
  exact wpAny_execs_nil ⟨σ1,H2,I2,q2⟩
end
structure It where
 go:Nat->Hp->Prop
 yld:Nat->Hp->V->Hp->Prop
 stop:Nat->Hp->Prop
noncomputable def FpOk(X:Cx)(pins:List (Addr×Obj))(H:Hp)(b:Addr):Prop:=
 H b=none/\b≠X.env.locals/\b∉X.fs/\(b∈X.ex\/X.s₀.heap.objs.size<=b)/\(∀x c,X.env.cells.lookup x=some c->c≠b)/\∀p∈X.pn++pins,p.1≠b
theorem Inv.fpOk{X:Cx}{pins:List (Addr×Obj)}{σ:St}{H H':Hp}{s:Shared}{b:Addr}(I:Inv X pins σ H s)(hb:s.heap.objs.size<=b)(hn:H' b=none):FpOk X pins H' b:=by
 refine⟨hn,Nat.ne_of_gt (Nat.lt_of_lt_of_le I.lt hb),I.nofs hb,.inr (Nat.le_trans I.sz hb),fun x c e z=> ?_,fun p hp z=> ?_⟩
 ·obtain⟨v,q⟩:=I.cell x c e
  exact absurd (Nat.lt_of_lt_of_le q.lt (by rw[z];exact hb)) (Nat.lt_irrefl _)
 ·exact absurd (Nat.lt_of_lt_of_le (Heap.lt_size (I.pin p hp).1) (by rw[z];exact hb)) (Nat.lt_irrefl _)
structure Turn(P:Program)(w:World)(K:W.Frag)(tg:Expr)(J:It)(fp:List Addr)(it:Addr)(tn:Nat->Heap->Prop):Prop where
 mem:it∈fp
 obj:∀i h,tn i h->∀b∈fp,∃o,h.get? b=some o/\∀v,o.data≠.cell v
 keep:∀i h h',tn i h->(∀b∈fp,∀o,h.get? b=some o->h'.get? b=some o)->tn i h'
 item:∀(X:Cx),X.prog=P->X.w=w->X.K=K->X.calm=true->∀(i:Nat) (pins:List (Addr×Obj)) (s:Shared) (σ:St) (H:Hp) (E:Value->Shared->Prop),Inv X pins σ H s->(∀b∈fp,FpOk X pins H b)->tn i s.heap->J.go i H->
  wpAny (model P w) X.A (pyNext (.ref it)) (fun r s1=>∃u,r=some u/\
   wpAny (model P w) X.A (letOwnedTupleGo tg (.ref it) u) (fun _ s2=>∃x H',Inv X pins σ H' s2/\RelV x u/\J.yld i H x H'/\tn (i+1) s2.heap/\∀b∈fp,H' b=none) E s1) E s
 done:∀(X:Cx),X.prog=P->X.w=w->X.K=K->X.calm=true->∀(i:Nat) (pins:List (Addr×Obj)) (s:Shared) (σ:St) (H:Hp) (E:Value->Shared->Prop),Inv X pins σ H s->(∀b∈fp,FpOk X pins H b)->tn i s.heap->J.stop i H->
  wpAny (model P w) X.A (pyNext (.ref it)) (fun r s1=>r=none/\Inv X pins σ H s1) E s
 self:∀(A:Around) (i:Nat) (s:Shared) (Q:Value->Shared->Prop) (E:Value->Shared->Prop),tn i s.heap->Q (.ref it) s->wpAny (model P w) A (pyIter (.ref it)) Q E s
noncomputable abbrev TI:=St->Hp->(It->Hp->Prop)->Prop
noncomputable def PIE(X:Cx)(pins:List (Addr×Obj))(σ:St)(tg:Expr)(R:It->Hp->Prop)(itv:Value)(s2:Shared):Prop:=
 ∃(it:Addr) (fp:List Addr) (tn:Nat->Heap->Prop) (J:It) (H':Hp),itv= .ref it/\Inv X pins σ H' s2/\Turn X.prog X.w X.K tg J fp it tn/\tn 0 s2.heap/\(∀b∈fp,FpOk X pins H' b)/\R J H'
noncomputable def PI(X:Cx)(tg iter:Expr)(wi:TI):Prop:=
 ∀(pins:List (Addr×Obj)) (s:Shared) (σ:St) (H:Hp) (R:It->Hp->Prop),Inv X pins σ H s->wi σ H R->
  wpAny (model X.prog X.w) X.A (eval iter X.env) (fun v s1=>wpAny (model X.prog X.w) X.A (pyIter v) (PIE X pins σ tg R) X.xe s1) X.xe s
theorem go_of{M:Model}{A:Around}{E:Value->Shared->Prop}{s:Shared}{tg:Expr}{it:Addr}{u:Value}{o:Obj}{n:String}{vs:Array Value}{Q:Unit->Shared->Prop}(ho:s.heap.get? it=some o)(hc:o.cls= .type n)(hd:o.data= .fields vs)(hn:["enumerate","zip","dict_itemiterator","dict_reverseitemiterator","odict_iterator","itertools.zip_longest","itertools.pairwise"].contains n=false)(hQ:Q () s):wpAny M A (letOwnedTupleGo tg (.ref it) u) Q E s:=by
 unfold letOwnedTupleGo
 cases tg<;>first
  |exact wpAny_pure hQ
  |(cases u<;>first
    |exact wpAny_pure hQ
    |(refine wpAny_bind (wpAny_load ho ?_)
      rw[hc,hd]
      show wpAny M A (if(["enumerate","zip","dict_itemiterator","dict_reverseitemiterator","odict_iterator","itertools.zip_longest","itertools.pairwise"].contains n&&vs[0]? ==some (rawInt _))=true then _ else _) Q E s
      rw[if_neg (by intro h;rw[hn,Bool.false_and]at h;cases h)]
      exact wpAny_pure hQ))
noncomputable def Itl(K:W.Frag)(a:Addr):It:=
 ⟨fun i H=>∃xs x,SqL K H a xs/\xs[i]? =some x,fun i H x H'=>H'=H/\∀xs,SqL K H a xs->xs[i]? =some x,fun i H=>∃xs,SqL K H a xs/\xs.length<=i⟩
noncomputable def Itt(K:W.Frag)(a:Addr):It:=
 ⟨fun i H=>∃xs x,SqT K H a xs/\xs[i]? =some x,fun i H x H'=>H'=H/\∀xs,SqT K H a xs->xs[i]? =some x,fun i H=>∃xs,SqT K H a xs/\xs.length<=i⟩
noncomputable def Itr(lo:Int)(n:Nat):It:=⟨fun i _=>i<n,fun i H x H'=>H'=H/\x= .int (lo+i),fun i _=>n<=i⟩
theorem turn_list{P:Program}{w:World}{K:W.Frag}{tg:Expr}(a it:Addr):Turn P w K tg (Itl K a) [it] it (fun i h=>h.IsListIter it a i) where
 mem:=by simp
 obj:=fun i h st b hb=>by
  have e:b=it:=by simpa using hb
  subst e
  obtain⟨o,e,c,d⟩:=st
  exact⟨o,e,fun v z=>by rw[d]at z;cases z⟩
 keep:=fun i h h' st k=>st.at fun o e=>k it (by simp) o e
 item:=by
  intro X hP hw hK hc i pins s σ H E I hf st hg
  subst hP hw hK
  obtain⟨xs,x,hq,hx⟩:=hg
  obtain⟨its,rv,p,hz⟩:=I.list hq
  obtain⟨u,hu,ru⟩:=rv.get hx
  obtain⟨f0,f1,f2,f3,f4,f5⟩:=hf it (by simp)
  refine wpAny_pyNext_list_item st p.isList (x:=u) (by simpa using hu) fun h' st' sb=> ?_
  have I1:Inv X pins σ H {s with heap:=h'}:=I.turned (t':=s.toks) (fun b o hb e=>(sb.2 b hb).trans e) f0 f1 f3 f4 f5
  obtain⟨o,e,c,d⟩:=id st'
  exact⟨u,rfl,go_of (s:={s with heap:=h'}) e c d (by decide) ⟨x,H,I1,ru,⟨rfl,fun ys hy=>by rw[I.list_inj hy hq];exact hx⟩,st',fun b hb=>(hf b hb).1⟩⟩
 done:=by
  intro X hP hw hK hc i pins s σ H E I hf st hg
  subst hP hw hK
  obtain⟨xs,hq,hx⟩:=hg
  obtain⟨its,rv,p,hz⟩:=I.list hq
  obtain⟨f0,f1,f2,f3,f4,f5⟩:=hf it (by simp)
  have hl:=rv.length
  exact wpAny_pyNext_list_end (I.ok.hd hc) st p.isList (by simp;omega) fun h' eb=>⟨rfl,I.turned (t':=s.toks) (fun b o hb e=>eb b o hb e) f0 f1 f3 f4 f5⟩
 self:=fun _ _ _ _ _ st h=>wpAny_pyIter_listiter st h
theorem turn_tuple{P:Program}{w:World}{K:W.Frag}{tg:Expr}(a it:Addr):Turn P w K tg (Itt K a) [it] it (fun i h=>h.IsTupleIter it a i) where
 mem:=by simp
 obj:=fun i h st b hb=>by
  have e:b=it:=by simpa using hb
  subst e
  obtain⟨o,e,c,d⟩:=st
  exact⟨o,e,fun v z=>by rw[d]at z;cases z⟩
 keep:=fun i h h' st k=>st.at fun o e=>k it (by simp) o e
 item:=by
  intro X hP hw hK hc i pins s σ H E I hf st hg
  subst hP hw hK
  obtain⟨xs,x,hq,hx⟩:=hg
  obtain⟨its,rv,p,hz⟩:=I.tuple hq
  obtain⟨u,hu,ru⟩:=rv.get hx
  obtain⟨f0,f1,f2,f3,f4,f5⟩:=hf it (by simp)
  refine wpAny_pyNext_tuple_item st (show s.heap.IsTuple a its.toArray from p) (x:=u) (by simpa using hu) fun h' st' sb=> ?_
  have I1:Inv X pins σ H {s with heap:=h'}:=I.turned (t':=s.toks) (fun b o hb e=>(sb.2 b hb).trans e) f0 f1 f3 f4 f5
  obtain⟨o,e,c,d⟩:=id st'
  exact⟨u,rfl,go_of (s:={s with heap:=h'}) e c d (by decide) ⟨x,H,I1,ru,⟨rfl,fun ys hy=>by rw[I.tuple_inj hy hq];exact hx⟩,st',fun b hb=>(hf b hb).1⟩⟩
 done:=by
  intro X hP hw hK hc i pins s σ H E I hf st hg
  subst hP hw hK
  obtain⟨xs,hq,hx⟩:=hg
  obtain⟨its,rv,p,hz⟩:=I.tuple hq
  obtain⟨f0,f1,f2,f3,f4,f5⟩:=hf it (by simp)
  have hl:=rv.length
  exact wpAny_pyNext_tuple_end (I.ok.hd hc) st (show s.heap.IsTuple a its.toArray from p) (by simp;omega) fun h' eb=>⟨rfl,I.turned (t':=s.toks) (fun b o hb e=>eb b o hb e) f0 f1 f3 f4 f5⟩
 self:=fun _ _ _ _ _ st h=>wpAny_pyIter_tupleiter st h
theorem turn_range{P:Program}{w:World}{K:W.Frag}{tg:Expr}(it:Addr)(lo:Int)(n:Nat):Turn P w K tg (Itr lo n) [it] it (fun i h=>IsRangeIter h it (lo+(i:Nat)*1) ((n:Int)-(i:Nat)) 1) where
 mem:=by simp
 obj:=fun i h st b hb=>by
  have e:b=it:=by simpa using hb
  subst e
  exact⟨_,st,fun v z=>by
   have z':Data.fields _=Data.cell v:=z
   cases z'⟩
 keep:=fun i h h' st k=>k it (by simp) _ st
 item:=by
  intro X hP hw hK hc i pins s σ H E I hf st hg
  subst hP hw hK
  obtain⟨f0,f1,f2,f3,f4,f5⟩:=hf it (by simp)
  have W:=Walks.range (prog:=X.prog) (w:=X.w) (I.ok.hd hc) it lo 1 n
  refine W.item i s _ _ hg st fun v h' tk hv st' kk=> ?_
  obtain⟨t,rfl⟩:=hv
  have I1:Inv X pins σ H {s with heap:=h',toks:=tk}:=I.turned (fun b o hb e=>kk b o (by simpa using hb) e) f0 f1 f3 f4 f5
  refine⟨_,rfl,go_of (s:={s with heap:=h',toks:=tk}) (n:="range_iterator") st' rfl rfl (by decide) ⟨.int (lo+i),H,I1,⟨t,?_⟩,⟨rfl,rfl⟩,st',fun b hb=>(hf b hb).1⟩⟩
  rw[Int.mul_one]
 done:=by
  intro X hP hw hK hc i pins s σ H E I hf st hg
  subst hP hw hK
  obtain⟨f0,f1,f2,f3,f4,f5⟩:=hf it (by simp)
  exact wpAny_pyNext_range_end (I.ok.hd hc) st (by have:n<=i:=hg;omega) fun h' eb=>⟨rfl,I.turned (t':=s.toks) (fun b o hb e=>eb b o hb e) f0 f1 f3 f4 f5⟩
 self:=fun _ _ _ _ _ st h=>wpAny_pyIter_rangeiter st h
end L2
namespace L2
open PySem PySem.Spec PyProof.Rows
section
variable{X:Cx}{tg:Expr}
theorem range_it{pins:List (Addr×Obj)}{σ:St}{H:Hp}{s:Shared}{R:It->Hp->Prop}{E:Value->Shared->Prop}{lo hi:Int}{t u v:Tok}{tk:Nat}(I:Inv X pins σ H s)(h1: -(2^62)<=lo)(h2:lo<2^62)(h3: -(2^62)<=hi)(h4:hi<2^62)(q:R (Itr lo (hi-lo).toNat) H):wpAny (model X.prog X.w) X.A (pyIter (.ref s.heap.objs.size)) (PIE X pins σ tg R) E {s with heap:=s.heap.push {cls:= .type "range",data:= .fields #[.int lo t,.int hi u,.int 1 v]},toks:=tk}:=by
 refine wpAny_pyIter_range (IsRange.new ..) (small_one h1 h2 h3 h4) ?_
 have I1:Inv X pins σ H {s with heap:=s.heap.push {cls:= .type "range",data:= .fields #[.int lo t,.int hi u,.int 1 v]},toks:=tk}:=I.kept fun b o e=>Heap.get?_push_of_some _ e
 refine⟨(s.heap.push {cls:= .type "range",data:= .fields #[.int lo t,.int hi u,.int 1 v]}).objs.size,[(s.heap.push {cls:= .type "range",data:= .fields #[.int lo t,.int hi u,.int 1 v]}).objs.size],_,_,H,rfl,
  I1.kept (t':=tk) fun b o e=>Heap.get?_push_of_some _ e,turn_range _ lo (hi-lo).toNat,?_,fun b hb=> ?_,q⟩
 ·have e1:lo+((0:Nat):Int)*1=lo:=by simp
  have e2:(((hi-lo).toNat:Nat):Int)-((0:Nat):Int)=Builtin.Range.rangeSize lo hi 1:=by rw[rangeSize_one];split<;>omega
  show IsRangeIter _ _ (lo+((0:Nat):Int)*1) ((((hi-lo).toNat:Nat):Int)-((0:Nat):Int)) 1
  rw[e1,e2]
  exact Heap.get?_push_size _ rfl
 ·have e:b=(s.heap.push {cls:= .type "range",data:= .fields #[.int lo t,.int hi u,.int 1 v]}).objs.size:=by simpa using hb
  subst e
  exact I1.fpOk (Nat.le_refl _) (I1.hok.fresh (Nat.le_refl _))
noncomputable def iRng1(ta:TA):TI:=fun σ H R=>ta σ H fun vs H1=>∃j:Int,vs=[.int j]/\ -(2^62)<=j/\j<2^62/\R (Itr 0 j.toNat) H1
noncomputable def iRng2(ta:TA):TI:=fun σ H R=>ta σ H fun vs H1=>∃i j:Int,vs=[.int i,.int j]/\(-(2^62)<=i/\i<2^62/\ -(2^62)<=j/\j<2^62)/\R (Itr i (j-i).toNat) H1
theorem zba{a:Expr}{ta:TA}{p pos:Pos}(hg:Gl X "range")(hm:X.mg "range"=none)(ha:PA X [a] ta)(hs:starEach [a] X.env=[(false,eval a X.env)]:=by rfl):PI X tg (.Call (.Name "range" p) [a] [] pos) (iRng1 ta):=by
 intro pins s σ H R I h
 refine Call_ (ld_blt I hg hm boot_range (PyProof.Rows.callWith_type1 (thn (ha pos pins s σ H _ I h) fun us s1 ⟨vs,H1,I1,r1,q1⟩=> ?_) hs rfl))
 obtain⟨j,e,q1,q2,q⟩:=q1
 subst e
 cases r1 with
 |cons r rr=>
  cases rr
  obtain⟨t,rfl⟩:=r
  exact call_range_1 (range_it I1 (by omega) (by omega) q1 q2 (by simpa using q))
theorem pi_range2{a b:Expr}{ta:TA}{p pos:Pos}(hg:Gl X "range")(hm:X.mg "range"=none)(ha:PA X [a,b] ta)(hs:starEach [a,b] X.env=[(false,eval a X.env),(false,eval b X.env)]:=by rfl)(hs2:starEach [b] X.env=[(false,eval b X.env)]:=by rfl):
  PI X tg (.Call (.Name "range" p) [a,b] [] pos) (iRng2 ta):=by
 intro pins s σ H R I h
 refine Call_ (ld_blt I hg hm boot_range (PyProof.Rows.callWith_type1 (thn (ha pos pins s σ H _ I h) fun us s1 ⟨vs,H1,I1,r1,q1⟩=> ?_) (by rw[hs,hs2]) (by rw[hs2];rfl)))
 obtain⟨i,j,e,⟨q1,q2,q3,q4⟩,q⟩:=q1
 subst e
 cases r1 with
 |cons r rr=>
  cases rr with
  |cons r' rr=>
   cases rr
   obtain⟨t,rfl⟩:=r
   obtain⟨t',rfl⟩:=r'
   exact call_range_2 (range_it I1 q1 q2 q3 q4 q)
noncomputable def tFor(wi:TI)(g:TG)(tb:TS):TS:=fun D σ H=>wi σ H fun J H1=>∃W:Nat->Nat->St->Hp->Prop,(∃m,W 0 m σ H1)/\∀i m σ H,W i m σ H->
 (J.stop i H/\D.nx σ H)\/(J.go i H/\∃N:St->Hp->Prop,(∀σ' H',N σ' H'->∃m',m'<m/\W (i+1) m' σ' H')/\∀x H',J.yld i H x H'->g x σ H' fun σ2 H2=>tb {D with nx:=N,ct:=N,bk:=D.nx} σ2 H2)
noncomputable def pinsAt(fp:List Addr)(h:Heap):List (Addr×Obj):=fp.filterMap fun b=>(h.get? b).map fun o=>(b,o)
theorem mem_pinsAt{fp:List Addr}{h:Heap}{b:Addr}{o:Obj}(hb:b∈fp)(e:h.get? b=some o):(b,o)∈pinsAt fp h:=List.mem_filterMap.mpr ⟨b,hb,by rw[e];rfl⟩
theorem of_pinsAt{fp:List Addr}{h:Heap}{p:Addr×Obj}(hp:p∈pinsAt fp h):p.1∈fp/\h.get? p.1=some p.2:=by
 obtain⟨b,hb,e⟩:=List.mem_filterMap.mp hp
 cases q:h.get? b with
 |none=>rw[q]at e;cases e
 |some o=>
  rw[q]at e
  have e':(b,o)=p:=Option.some.inj e
  subst e'
  exact⟨hb,q⟩
theorem Inv.pinned{pins:List (Addr×Obj)}{σ:St}{H:Hp}{s:Shared}{fp:List Addr}(I:Inv X pins σ H s)(hf:∀b∈fp,FpOk X pins H b)(ho:∀b∈fp,∃o,s.heap.get? b=some o/\∀v,o.data≠.cell v):Inv X (pins++pinsAt fp s.heap) σ H s:=
 I.pins_of fun p hp=>(List.mem_append.mp hp).elim (fun z=>I.pin p (List.mem_append_right _ z)) fun z=>by
  obtain⟨hb,e⟩:=of_pinsAt z
  obtain⟨f0,f1,f2,_⟩:=hf p.1 hb
  obtain⟨o,e',d⟩:=ho p.1 hb
  rw[e]at e';cases e'
  exact⟨e,f0,f1,f2,d⟩
theorem Inv.unpinned{pins pl:List (Addr×Obj)}{σ:St}{H:Hp}{s:Shared}(I:Inv X (pins++pl) σ H s):Inv X pins σ H s:=I.pins_of fun p hp=>I.pin p (List.mem_append_right _ (List.mem_append_left _ hp))
theorem ps_for{iter:Expr}{body:List Stmt}{wi:TI}{g:TG}{tb:TS}{pos:Pos}(hp:PassesOwn (model X.prog X.w) X.A X.env X.xe)(hc:X.calm=true)(hi:PI X tg iter wi)(hg:PG X tg g)(hb:PSs X body tb)(hs:∀x,foldedSetIterable iter X.env x=pure x:=by intro _;rfl):PS X (.For tg iter body [] pos) (tFor wi g tb):=by
 intro pins s σ H D I h
 refine wpAny_For (thn (hi pins s σ H _ I h) fun v s1 h1=>thn h1 fun itv s2 h2=> ?_) hs
 obtain⟨it,fp,tn,J,H2,e,I2,T,st2,f2,W,⟨m0,w0⟩,turn⟩:=h2
 subst e
 -- what stays true of the iterator's objects through the loop
 have stat:∀{H':Hp},(∀b∈fp,H' b=none)->∀b∈fp,FpOk X pins H' b:=fun hn b hb=>⟨hn b hb,(f2 b hb).2⟩
 refine codeAny_forLoop_any (fun n s'=>∃i σ' H',Inv X pins σ' H' s'/\tn i s'.heap/\(∀b∈fp,H' b=none)/\W i n σ' H') ?_ m0 ⟨0,σ,H2,I2,st2,fun b hb=>(f2 b hb).1,w0⟩
 rintro n s3 ⟨i,σ3,H3,I3,st3,fr3,w3⟩
 rcases turn i n σ3 H3 w3 with⟨stop,qn⟩|⟨go,N,hN,step⟩
 ·refine wpAny_passesOwn hp (thn (T.done X rfl rfl rfl hc i pins s3 σ3 H3 X.xe I3 (stat fr3) st3 stop) fun r s4 ⟨hr,I4⟩=> ?_)
  subst hr
  exact wpAny_execs_nil ⟨σ3,H3,I4,qn⟩
 ·refine wpAny_passesOwn hp (thn (T.item X rfl rfl rfl hc i pins s3 σ3 H3 X.xe I3 (stat fr3) st3 go) fun r s4 ⟨u,hr,h4⟩=> ?_)
  subst hr
  refine wpAny_passesOwn hp (thn h4 fun _ s5 ⟨x,H5,I5,r5,y5,st5,fr5⟩=> ?_)
  have I5':=I5.pinned (stat fr5) (T.obj _ _ st5)
  refine wpAny_passesOwn hp (thn (hg _ s5 σ3 H5 x u _ I5' r5 (step x H5 y5)) fun _ s6 ⟨σ6,H6,I6,q6⟩=> ?_)
  refine wpAny_passesOwn hp (thn (hb _ s6 σ6 H6 _ I6 q6) fun f s7 q7=> ?_)
  have again:∀{σ7:St} {H7:Hp},Inv X (pins++pinsAt fp s5.heap) σ7 H7 s7->N σ7 H7->∃m,m<n/\∃i σ' H',Inv X pins σ' H' s7/\tn i s7.heap/\(∀b∈fp,H' b=none)/\W i m σ' H':=fun{σ7 H7} I7 n7=>by
   obtain⟨m',hm,w7⟩:=hN σ7 H7 n7
   refine⟨m',hm,i+1,σ7,H7,I7.unpinned,T.keep _ _ _ st5 fun b hb o e=>(I7.pin (b,o) (List.mem_append_right _ (List.mem_append_right _ (mem_pinsAt hb e)))).1,fun b hb=> ?_,w7⟩
   obtain⟨o,e,d⟩:=T.obj _ _ st5 b hb
   exact(I7.pin (b,o) (List.mem_append_right _ (List.mem_append_right _ (mem_pinsAt hb e)))).2.1
  cases f with
  |next=>obtain⟨σ7,H7,I7,n7⟩:=q7;exact again I7 n7
  |cont=>obtain⟨σ7,H7,I7,n7⟩:=q7;exact again I7 n7
  |brk=>obtain⟨σ7,H7,I7,q7⟩:=q7;exact⟨σ7,H7,I7.unpinned,q7⟩
  |ret v=>obtain⟨x7,σ7,H7,I7,r7,q7⟩:=q7;exact⟨x7,σ7,H7,I7.unpinned,r7,q7⟩
end
theorem for_list{K:W.Frag}{a:Addr}{xs:List V}{g:TG}{tb:TS}{D:Ends}{σ:St}{H:Hp}(Pv:Nat->St->Hp->Prop)(h0:Pv 0 σ H)(hl:∀i σ H,i<=xs.length->Pv i σ H->SqL K H a xs)(hs:∀i x σ H,xs[i]? =some x->Pv i σ H->g x σ H fun σ2 H2=>tb {D with nx:=Pv (i+1),ct:=Pv (i+1),bk:=D.nx} σ2 H2)(hd:∀σ H,Pv xs.length σ H->D.nx σ H):
  ∃W:Nat->Nat->St->Hp->Prop,(∃m,W 0 m σ H)/\∀i m σ H,W i m σ H->
   ((Itl K a).stop i H/\D.nx σ H)\/((Itl K a).go i H/\∃N:St->Hp->Prop,(∀σ' H',N σ' H'->∃m',m'<m/\W (i+1) m' σ' H')/\∀x H',(Itl K a).yld i H x H'->g x σ H' fun σ2 H2=>tb {D with nx:=N,ct:=N,bk:=D.nx} σ2 H2):=by
 refine⟨fun i m σ H=>m=xs.length-i/\i<=xs.length/\Pv i σ H,⟨xs.length,by simp,Nat.zero_le _,h0⟩,?_⟩
 rintro i m σ H ⟨rfl,hi,p⟩
 have q:=hl i σ H hi p
 by_cases hlt:i<xs.length
 ·refine .inr ⟨⟨xs,xs[i],q,by simp[hlt]⟩,Pv (i+1),fun σ' H' p'=>⟨xs.length-(i+1),by omega,rfl,hlt,p'⟩,fun x H' y=> ?_⟩
  obtain⟨e,y⟩:=y
  subst e
  exact hs i x σ _ (y xs q) p
 ·have e:i=xs.length:=by omega
  subst e
  exact .inl ⟨⟨xs,q,Nat.le_refl _⟩,hd σ H p⟩
theorem for_tup{K:W.Frag}{a:Addr}{xs:List V}{g:TG}{tb:TS}{D:Ends}{σ:St}{H:Hp}(Pv:Nat->St->Hp->Prop)(h0:Pv 0 σ H)(hl:∀i σ H,i<=xs.length->Pv i σ H->SqT K H a xs)(hs:∀i x σ H,xs[i]? =some x->Pv i σ H->g x σ H fun σ2 H2=>tb {D with nx:=Pv (i+1),ct:=Pv (i+1),bk:=D.nx} σ2 H2)(hd:∀σ H,Pv xs.length σ H->D.nx σ H):
  ∃W:Nat->Nat->St->Hp->Prop,(∃m,W 0 m σ H)/\∀i m σ H,W i m σ H->
   ((Itt K a).stop i H/\D.nx σ H)\/((Itt K a).go i H/\∃N:St->Hp->Prop,(∀σ' H',N σ' H'->∃m',m'<m/\W (i+1) m' σ' H')/\∀x H',(Itt K a).yld i H x H'->g x σ H' fun σ2 H2=>tb {D with nx:=N,ct:=N,bk:=D.nx} σ2 H2):=by
 refine⟨fun i m σ H=>m=xs.length-i/\i<=xs.length/\Pv i σ H,⟨xs.length,by simp,Nat.zero_le _,h0⟩,?_⟩
 rintro i m σ H ⟨rfl,hi,p⟩
 have q:=hl i σ H hi p
 by_cases hlt:i<xs.length
 ·refine .inr ⟨⟨xs,xs[i],q,by simp[hlt]⟩,Pv (i+1),fun σ' H' p'=>⟨xs.length-(i+1),by omega,rfl,hlt,p'⟩,fun x H' y=> ?_⟩
  obtain⟨e,y⟩:=y
  subst e
  exact hs i x σ _ (y xs q) p
 ·have e:i=xs.length:=by omega
  subst e
  exact .inl ⟨⟨xs,q,Nat.le_refl _⟩,hd σ H p⟩
theorem for_range{lo:Int}{n:Nat}{g:TG}{tb:TS}{D:Ends}{σ:St}{H:Hp}(Pv:Nat->St->Hp->Prop)(h0:Pv 0 σ H)(hs:∀i σ H,i<n->Pv i σ H->g (.int (lo+i)) σ H fun σ2 H2=>tb {D with nx:=Pv (i+1),ct:=Pv (i+1),bk:=D.nx} σ2 H2)(hd:∀σ H,Pv n σ H->D.nx σ H):
  ∃W:Nat->Nat->St->Hp->Prop,(∃m,W 0 m σ H)/\∀i m σ H,W i m σ H->
   ((Itr lo n).stop i H/\D.nx σ H)\/((Itr lo n).go i H/\∃N:St->Hp->Prop,(∀σ' H',N σ' H'->∃m',m'<m/\W (i+1) m' σ' H')/\∀x H',(Itr lo n).yld i H x H'->g x σ H' fun σ2 H2=>tb {D with nx:=N,ct:=N,bk:=D.nx} σ2 H2):=by
 refine⟨fun i m σ H=>m=n-i/\i<=n/\Pv i σ H,⟨n,by simp,Nat.zero_le _,h0⟩,?_⟩
 rintro i m σ H ⟨rfl,hi,p⟩
 by_cases hlt:i<n
 ·refine .inr ⟨hlt,Pv (i+1),fun σ' H' p'=>⟨n-(i+1),by omega,rfl,hlt,p'⟩,fun x H' y=> ?_⟩
  obtain⟨e,y⟩:=y
  subst e y
  exact hs i σ _ hlt p
 ·have e:i=n:=by omega
  subst e
  exact .inl ⟨Nat.le_refl _,hd σ H p⟩
end L2
namespace L2
open PySem PySem.Spec PyProof.Rows
noncomputable abbrev R2:=V->V->Hp->VK->Prop
noncomputable def OpR(X:Cx)(f:Value->Value->Sem Value)(r:R2):Prop:=
 ∀(pins:List (Addr×Obj)) (s:Shared) (σ:St) (H:Hp) (x y:V) (v u:Value) (Q:VK),Inv X pins σ H s->RelV x v->RelV y u->r x y H Q->
  wpAny (model X.prog X.w) X.A (f v u) (EP X pins σ Q) X.xe s
noncomputable def UnR(X:Cx)(f:Value->Sem Value)(r:V->Hp->VK->Prop):Prop:=
 ∀(pins:List (Addr×Obj)) (s:Shared) (σ:St) (H:Hp) (x:V) (v:Value) (Q:VK),Inv X pins σ H s->RelV x v->r x H Q->
  wpAny (model X.prog X.w) X.A (f v) (EP X pins σ Q) X.xe s
noncomputable def CallR(X:Cx)(f:Value)(r:List V->Hp->VK->Prop):Prop:=
 ∀(pins:List (Addr×Obj)) (s:Shared) (σ:St) (H:Hp) (xs:List V) (us:List Value) (Q:VK),Inv X pins σ H s->Vals xs us->r xs H Q->
  wpAny (model X.prog X.w) X.A (call f us) (EP X pins σ Q) X.xe s
noncomputable def TruR(X:Cx)(r:V->Hp->(Bool->Hp->Prop)->Prop):Prop:=
 ∀(pins:List (Addr×Obj)) (s:Shared) (σ:St) (H:Hp) (x:V) (v:Value) (Q:Bool->Hp->Prop),Inv X pins σ H s->RelV x v->r x H Q->
  wpAny (model X.prog X.w) X.A (truthy v) (TP X pins σ Q) X.xe s
noncomputable def tOp(r:R2)(ta tb:TE):TE:=fun σ H Q=>ta σ H fun x H1=>tb σ H1 fun y H2=>r x y H2 Q
noncomputable def tUn(r:V->Hp->VK->Prop)(ta:TE):TE:=fun σ H Q=>ta σ H fun x H1=>r x H1 Q
noncomputable def rI(C:Int->Int->Prop)(g:Int->Int->V):R2:=fun x y H Q=>∃i j,x= .int i/\y= .int j/\C i j/\Q (g i j) H
noncomputable def rI0(g:Int->Int->V):R2:=fun x y H Q=>∃i j,x= .int i/\y= .int j/\Q (g i j) H
noncomputable def rU(g:Int->V):V->Hp->VK->Prop:=fun x H Q=>∃i,x= .int i/\Q (g i) H
section
variable{X:Cx}{a b c:Expr}{ta tb tc:TE}{pos:Pos}
theorem binT(ha:PE X a ta)(hb:PE X b tb){pins:List (Addr×Obj)}{s:Shared}{σ:St}{H:Hp}{R:V->V->Hp->Prop}(I:Inv X pins σ H s)(h:ta σ H fun x H1=>tb σ H1 fun y H2=>R x y H2){Q:Value->Shared->Prop}{f:Value->Value->Sem Value}(hf:∀v u s2 x y H2,Inv X pins σ H2 s2->RelV x v->RelV y u->R x y H2->wpAny (model X.prog X.w) X.A (f v u) Q X.xe s2):
  wpAny (model X.prog X.w) X.A (eval a X.env) (fun v s₁=>wpAny (model X.prog X.w) X.A (eval b X.env) (fun u s₂=>wpAny (model X.prog X.w) X.A (f v u) Q X.xe s₂) X.xe s₁) X.xe s:=by
 refine thn (ha pins s σ H _ I h) fun v s1 ⟨x,H1,I1,r1,q1⟩=> ?_
 refine thn (hb pins s1 σ H1 _ I1 q1) fun u s2 ⟨y,H2,I2,r2,q2⟩=> ?_
 exact hf v u s2 x y H2 I2 r1 r2 q2
theorem zbb{op:Operator}{r:R2}(ho:OpR X (binaryOp op) r)(ha:PE X a ta)(hb:PE X b tb):PE X (.BinOp a op b pos) (tOp r ta tb):=by
 intro pins s σ H Q I h
 exact wpAny_BinOp (binT ha hb I h fun v u s2 x y H2 I2 rx ry q=>ho pins s2 σ H2 x y v u Q I2 rx ry q)
theorem pe_un{op:UnaryOp}{r:V->Hp->VK->Prop}(ho:UnR X (unaryOp op) r)(ha:PE X a ta):PE X (.UnaryOp op a pos) (tUn r ta):=by
 intro pins s σ H Q I h
 exact UnaryOp_ (thn (ha pins s σ H _ I h) fun v s1 ⟨x,H1,I1,r1,q1⟩=>ho pins s1 σ H1 x v Q I1 r1 q1)
theorem opI{f:Value->Value->Sem Value}{C:Int->Int->Prop}{g:Int->Int->Int}(rule:∀(i j:Int) (t u:Tok) (s:Shared) (Q:Value->Shared->Prop) (E:Value->Shared->Prop),C i j->Q (.int (g i j) s.toks) {s with toks:=s.toks+1}->wpAny (model X.prog X.w) X.A (f (.int i t) (.int j u)) Q E s):
  OpR X f (rI C fun i j=> .int (g i j)):=by
 intro pins s σ H x y v u Q I rx ry h
 obtain⟨i,j,rfl,rfl,hc,q⟩:=h
 obtain⟨t,rfl⟩:=rx
 obtain⟨t',rfl⟩:=ry
 exact rule i j t t' s _ _ hc ⟨.int (g i j),H,I.tok _,⟨_,rfl⟩,q⟩
theorem opI0{f:Value->Value->Sem Value}{g:Int->Int->Int}(rule:∀(i j:Int) (t u:Tok) (s:Shared) (Q:Value->Shared->Prop) (E:Value->Shared->Prop),Q (.int (g i j) s.toks) {s with toks:=s.toks+1}->wpAny (model X.prog X.w) X.A (f (.int i t) (.int j u)) Q E s):
  OpR X f (rI0 fun i j=> .int (g i j)):=by
 intro pins s σ H x y v u Q I rx ry h
 obtain⟨i,j,rfl,rfl,q⟩:=h
 obtain⟨t,rfl⟩:=rx
 obtain⟨t',rfl⟩:=ry
 exact rule i j t t' s _ _ ⟨.int (g i j),H,I.tok _,⟨_,rfl⟩,q⟩
theorem opB0{f:Value->Value->Sem Value}{g:Int->Int->Bool}(rule:∀(i j:Int) (t u:Tok) (s:Shared) (Q:Value->Shared->Prop) (E:Value->Shared->Prop),Q (.bool (g i j)) s->wpAny (model X.prog X.w) X.A (f (.int i t) (.int j u)) Q E s):
  OpR X f (rI0 fun i j=> .bl (g i j)):=by
 intro pins s σ H x y v u Q I rx ry h
 obtain⟨i,j,rfl,rfl,q⟩:=h
 obtain⟨t,rfl⟩:=rx
 obtain⟨t',rfl⟩:=ry
 exact rule i j t t' s _ _ ⟨.bl (g i j),H,I,rfl,q⟩
noncomputable def CDiv(i j:Int):Prop:=0<j/\j<1073741824
noncomputable def CPow(i j:Int):Prop:=0<=j/\j<=1000000/\i.natAbs<2^64
noncomputable def CMul(i j:Int):Prop:=(-(2^64)<i/\i<2^64)\/(-(2^64)<j/\j<2^64)
theorem CMul.ok{i j:Int}(h:CMul i j):IntMulOk i j:=by
 rcases h with⟨h1,h2⟩|⟨h1,h2⟩
 ·exact .of_left (intBits_le_64 h1 h2)
 ·exact .of_right (intBits_le_64 h1 h2)
theorem zcz:OpR X (binaryOp .Add) (rI0 fun i j=> .int (i+j)):=opI0 fun _ _ _ _ _ _ _ q=>add_int q
theorem op_sub:OpR X (binaryOp .Sub) (rI0 fun i j=> .int (i-j)):=opI0 fun _ _ _ _ _ _ _ q=>sub_int q
theorem op_mul:OpR X (binaryOp .Mult) (rI CMul fun i j=> .int (i*j)):=opI fun _ _ _ _ _ _ _ hc q=>mul_int q hc.ok
theorem op_fdiv:OpR X (binaryOp .FloorDiv) (rI CDiv fun i j=> .int (i/j)):=opI fun i j _ _ _ _ _ hc q=>by
 have h1:(0:Int)<j:=hc.1
 have h2:j<1073741824:=hc.2
 exact floordiv_int (by omega) (by rw[Int.fdiv_eq_ediv_of_nonneg i (by omega)];exact q) (.inl (PyProof.noPylong_small (by omega)))
theorem op_mod:OpR X (binaryOp .Mod) (rI (fun _ j=>0<j) fun i j=> .int (i %j)):=opI fun i j _ _ _ _ _ hc q=>by
 have h1:(0:Int)<j:=hc
 exact mod_int' (by omega) (by rw[Int.fmod_eq_emod_of_nonneg i (by omega)];exact q)
theorem op_pow:OpR X (binaryOp .Pow) (rI CPow fun i j=> .int (i^j.toNat)):=opI fun _ _ _ _ _ _ _ hc q=>pow_int_small hc.1 hc.2.1 hc.2.2 q
theorem unI{f:Value->Sem Value}{g:Int->Int}(rule:∀(i:Int) (t:Tok) (s:Shared) (Q:Value->Shared->Prop) (E:Value->Shared->Prop),Q (.int (g i) s.toks) {s with toks:=s.toks+1}->wpAny (model X.prog X.w) X.A (f (.int i t)) Q E s):
  UnR X f (rU fun i=> .int (g i)):=by
 intro pins s σ H x v Q I rx h
 obtain⟨i,rfl,q⟩:=h
 obtain⟨t,rfl⟩:=rx
 exact rule i t s _ _ ⟨.int (g i),H,I.tok _,⟨_,rfl⟩,q⟩
theorem un_neg:UnR X (unaryOp .USub) (rU fun i=> .int (-i)):=unI fun _ _ _ _ _ q=>neg_int q
end
noncomputable def scal:V->V->Bool
 | .non,.non=>true| .non,.int _=>true| .int _,.non=>true| .non,.bl _=>true| .bl _,.non=>true| .non,.str _=>true| .str _,.non=>true
 | .int _,.int _=>true| .bl _,.bl _=>true| .str _,.str _=>true| .byt _,.byt _=>true
 | .int _,.str _=>true| .str _,.int _=>true| .bl _,.str _=>true| .str _,.bl _=>true
 |_,_=>false
noncomputable def rEq:R2:=fun x y H Q=>scal x y=true/\Q (.bl (decide (x=y))) H
noncomputable def rNe:R2:=fun x y H Q=>scal x y=true/\Q (.bl (!decide (x=y))) H
theorem dec_int{i j:Int}:decide (V.int i=V.int j)=(i==j):=by
 rw[Bool.eq_iff_iff]
 simp
theorem dec_bl{i j:Bool}:decide (V.bl i=V.bl j)=(i==j):=by
 rw[Bool.eq_iff_iff]
 simp
theorem dec_str{i j:Str}:decide (V.str i=V.str j)=(i==j):=by
 rw[Bool.eq_iff_iff]
 simp
theorem dec_byt{i j:Array UInt8}:decide (V.byt i=V.byt j)=(i.toList==j.toList):=by
 rw[Bool.eq_iff_iff]
 cases i
 cases j
 simp
section
variable{X:Cx}{a b c:Expr}{ta tb tc:TE}{pos:Pos}
theorem zbw{pins:List (Addr×Obj)}{σ:St}{H:Hp}{s:Shared}{Q:VK}{k k':Bool}(I:Inv X pins σ H s)(q:Q (.bl k) H)(e:k=k'):EP X pins σ Q (.bool k') s:=by
 subst e
 exact⟨.bl k,H,I,rfl,q⟩
theorem op_eq:OpR X (compareOp .Eq) rEq:=by
 intro pins s σ H x y v u Q I rx ry h
 obtain⟨hs,q⟩:=h
 cases x with
 |non=>
  cases rx
  cases y with
  |non=>cases ry;exact PySem.EqNone.eq_none_none (zbw I q (by simp))
  |bl j=>cases ry;exact PySem.EqNone.eq_none_bool (zbw I q (by simp))
  |int j=>obtain⟨t',rfl⟩:=ry;exact PySem.EqNone.eq_none_int (zbw I q (by simp))
  |str j=>obtain⟨t',rfl⟩:=ry;exact PySem.EqNone.eq_none_str (zbw I q (by simp))
  |_=>exact absurd (show false=true from hs) Bool.false_ne_true
 |bl i=>
  cases rx
  cases y with
  |non=>cases ry;exact PySem.EqNone.eq_bool_none (zbw I q (by simp))
  |bl j=>cases ry;exact eq_bool (zbw I q dec_bl)
  |str j=>obtain⟨t',rfl⟩:=ry;exact PySem.EqMixed.eq_bool_str (zbw I q (by simp))
  |_=>exact absurd (show false=true from hs) Bool.false_ne_true
 |int i=>
  obtain⟨t,rfl⟩:=rx
  cases y with
  |non=>cases ry;exact PySem.EqNone.eq_int_none (zbw I q (by simp))
  |int j=>obtain⟨t',rfl⟩:=ry;exact eq_int (zbw I q dec_int)
  |str j=>obtain⟨t',rfl⟩:=ry;exact PySem.EqMixed.eq_int_str (zbw I q (by simp))
  |_=>exact absurd (show false=true from hs) Bool.false_ne_true
 |str i=>
  obtain⟨t,rfl⟩:=rx
  cases y with
  |non=>cases ry;exact PySem.EqNone.eq_str_none (zbw I q (by simp))
  |bl j=>cases ry;exact PySem.EqMixed.eq_str_bool (zbw I q (by simp))
  |int j=>obtain⟨t',rfl⟩:=ry;exact PySem.EqMixed.eq_str_int (zbw I q (by simp))
  |str j=>obtain⟨t',rfl⟩:=ry;exact eq_str (zbw I q dec_str)
  |_=>exact absurd (show false=true from hs) Bool.false_ne_true
 |byt i=>
  obtain⟨t,rfl⟩:=rx
  cases y with
  |byt j=>obtain⟨t',rfl⟩:=ry;exact PySem.W.eq_bytes (zbw I q dec_byt)
  |_=>exact absurd (show false=true from hs) Bool.false_ne_true
 |_=>cases y<;>exact absurd (show false=true from hs) Bool.false_ne_true
theorem op_ne:OpR X (compareOp .NotEq) rNe:=by
 intro pins s σ H x y v u Q I rx ry h
 obtain⟨hs,q⟩:=h
 cases x with
 |non=>
  cases rx
  cases y with
  |non=>cases ry;exact PySem.EqNone.ne_none_none (zbw I q (by simp))
  |bl j=>cases ry;exact PySem.EqNone.ne_none_bool (zbw I q (by simp))
  |int j=>obtain⟨t',rfl⟩:=ry;exact PySem.EqNone.ne_none_int (zbw I q (by simp))
  |str j=>obtain⟨t',rfl⟩:=ry;exact PySem.EqNone.ne_none_str (zbw I q (by simp))
  |_=>exact absurd (show false=true from hs) Bool.false_ne_true
 |bl i=>
  cases rx
  cases y with
  |non=>cases ry;exact PySem.EqNone.ne_bool_none (zbw I q (by simp))
  |bl j=>cases ry;exact ne_bool (zbw I q (congrArg not dec_bl))
  |str j=>obtain⟨t',rfl⟩:=ry;exact PySem.EqMixed.ne_bool_str (zbw I q (by simp))
  |_=>exact absurd (show false=true from hs) Bool.false_ne_true
 |int i=>
  obtain⟨t,rfl⟩:=rx
  cases y with
  |non=>cases ry;exact PySem.EqNone.ne_int_none (zbw I q (by simp))
  |int j=>obtain⟨t',rfl⟩:=ry;exact ne_int (zbw I q (congrArg not dec_int))
  |str j=>obtain⟨t',rfl⟩:=ry;exact PySem.EqMixed.ne_int_str (zbw I q (by simp))
  |_=>exact absurd (show false=true from hs) Bool.false_ne_true
 |str i=>
  obtain⟨t,rfl⟩:=rx
  cases y with
  |non=>cases ry;exact PySem.EqNone.ne_str_none (zbw I q (by simp))
  |bl j=>cases ry;exact PySem.EqMixed.ne_str_bool (zbw I q (by simp))
  |int j=>obtain⟨t',rfl⟩:=ry;exact PySem.EqMixed.ne_str_int (zbw I q (by simp))
  |str j=>obtain⟨t',rfl⟩:=ry;exact ne_str (zbw I q (congrArg not dec_str))
  |_=>exact absurd (show false=true from hs) Bool.false_ne_true
 |byt i=>
  obtain⟨t,rfl⟩:=rx
  cases y with
  |byt j=>obtain⟨t',rfl⟩:=ry;exact PySem.W.ne_bytes (zbw I q (congrArg not dec_byt))
  |_=>exact absurd (show false=true from hs) Bool.false_ne_true
 |_=>cases y<;>exact absurd (show false=true from hs) Bool.false_ne_true
theorem op_lt:OpR X (compareOp .Lt) (rI0 fun i j=> .bl (decide (i<j))):=opB0 fun _ _ _ _ _ _ _ q=>lt_int q
theorem op_le:OpR X (compareOp .LtE) (rI0 fun i j=> .bl (decide (i<=j))):=opB0 fun _ _ _ _ _ _ _ q=>le_int q
theorem op_gt:OpR X (compareOp .Gt) (rI0 fun i j=> .bl (decide (j<i))):=opB0 fun _ _ _ _ _ _ _ q=>gt_int q
theorem op_ge:OpR X (compareOp .GtE) (rI0 fun i j=> .bl (decide (j<=i))):=opB0 fun _ _ _ _ _ _ _ q=>ge_int q
theorem op_isN:OpR X (compareOp .Is) (fun x y H Q=>y= .non/\Q (.bl (decide (x= .non))) H):=by
 intro pins s σ H x y v u Q I rx ry h
 obtain⟨rfl,q⟩:=h
 cases ry
 refine is_none_gen (zbw I q ?_)
 cases x<;>first
  |(cases rx;rfl)
  |(obtain⟨t,rfl⟩:=rx;rfl)
theorem OpR.or{f:Value->Value->Sem Value}{r r':R2}(h:OpR X f r)(h':OpR X f r'):OpR X f (fun x y H Q=>r x y H Q\/r' x y H Q):=by
 intro pins s σ H x y v u Q I rx ry q
 rcases q with q|q
 ·exact h pins s σ H x y v u Q I rx ry q
 ·exact h' pins s σ H x y v u Q I rx ry q
theorem nomark(b:Expr){op:CmpOp}(h:op≠.In:=by decide)(h2:op≠.NotIn:=by decide):behindInMarks op b=false:=by
 have e1:(op==CmpOp.In)=false:=by cases op<;>first |rfl|exact absurd rfl h
 have e2:(op==CmpOp.NotIn)=false:=by cases op<;>first |rfl|exact absurd rfl h2
 cases b<;>simp[behindInMarks,e1,e2]
theorem pe_cmpR{op:CmpOp}{r:R2}(ho:OpR X (compareOp op) r)(ha:PE X a ta)(hb:PE X b tb)(hm:behindInMarks op b=false):PE X (.Compare a [op] [b] pos) (tOp r ta tb):=by
 intro pins s σ H Q I h
 exact wpAny_Compare1 (binT ha hb I h fun v u s2 x y H2 I2 rx ry q=>ho pins s2 σ H2 x y v u Q I2 rx ry q) hm
noncomputable def tTest(t:TE):TT:=fun σ H Q=>t σ H fun x H'=>∃k,x= .bl k/\Q k H'
theorem zam{op:CmpOp}{r:R2}(ho:OpR X (compareOp op) r)(ha:PE X a ta)(hb:PE X b tb)(hm:behindInMarks op b=false):PT X (.Compare a [op] [b] pos) (tTest (tOp r ta tb)):=by
 intro pins s σ H Q I h
 refine wpAny_isTrue_Compare1 (thn (ha pins s σ H _ I h) fun v s1 ⟨x,H1,I1,r1,q1⟩=>thn (hb pins s1 σ H1 _ I1 q1) fun u s2 ⟨y,H2,I2,r2,q2⟩=>
  thn (ho pins s2 σ H2 x y v u _ I2 r1 r2 q2) fun c s3 ⟨z,H3,I3,r3,k,e,q3⟩=> ?_) hm
 subst e
 cases r3
 exact wpAny_truthy_bool ⟨H3,I3,q3⟩
noncomputable def tChain(r r':R2)(ta tb tc:TE):TE:=fun σ H Q=>ta σ H fun x H1=>tb σ H1 fun y H2=>r x y H2 fun z H3=>∃k,z= .bl k/\
 (if k=true then tc σ H3 fun w' H4=>r' y w' H4 Q else Q (.bl false) H3)
theorem pe_chain{op op':CmpOp}{r r':R2}(ho:OpR X (compareOp op) r)(ho':OpR X (compareOp op') r')(ha:PE X a ta)(hb:PE X b tb)(hc:PE X c tc)(hm:lastMarks [op,op'] [b,c]=false:=by with_unfolding_all rfl):PE X (.Compare a [op,op'] [b,c] pos) (tChain r r' ta tb tc):=by
 intro pins s σ H Q I h
 refine Compare_chain (thn (ha pins s σ H _ I h) fun v s1 ⟨x,H1,I1,r1,q1⟩=>chain_link (thn (hb pins s1 σ H1 _ I1 q1) fun u s2 ⟨y,H2,I2,r2,q2⟩=>
  thn (ho pins s2 σ H2 x y v u _ I2 r1 r2 q2) fun d s3 ⟨z,H3,I3,r3,k,e,q3⟩=> ?_)) hm
 subst e
 cases r3
 refine wpAny_truthy_bool ?_
 cases k with
 |false=>exact ite_ff ⟨.bl false,H3,I3,rfl,q3⟩
 |true=>exact ite_tt (chain_last (thn (hc pins s3 σ H3 _ I3 q3) fun w' s4 ⟨z',H4,I4,r4,q4⟩=>ho' pins s4 σ H4 y z' u w' Q I4 r2 r4 q4))
noncomputable def TruV(K:W.Frag)(x:V)(H:Hp)(k:Bool):Prop:=
 match x with
 | .non=>k=false
 | .bl b=>k=b
 | .int i=>k=(i !=0)
 | .str y=>y.length<=sizeLine/\k=((y.length:Int) !=0)
 | .byt y=>y.size<=sizeLine/\k=((y.size:Int) !=0)
 | .ref p=>(∃xs,SqL K H p xs/\k= !xs.isEmpty)\/(∃xs,SqT K H p xs/\k= !xs.isEmpty)\/∃kvs,H p=some (.dK kvs)/\k= !kvs.isEmpty
 |_=>False
theorem isEmpty_kv{κ:Type}{kvs:List (κ×V)}{vs:List (κ×Value)}(r:KV kvs vs):(!vs.isEmpty)= !kvs.isEmpty:=by
 cases r<;>rfl
theorem isEmpty_of{xs:List V}{its:List Value}(r:Vals xs its):(!its.toArray.isEmpty)= !xs.isEmpty:=by
 cases r<;>simp
theorem line63:(sizeLine:Nat)<2^63:=by rw[sizeLine_eq];decide
theorem tru_ok:TruR X (fun x H Q=>∃k,TruV X.K x H k/\Q k H):=by
 intro pins s σ H x v Q I rx h
 obtain⟨k,e,q⟩:=h
 have hl:=line63
 have hs:sizeLine=16777216:=sizeLine_eq
 cases x with
 |non=>
  cases rx
  have e':k=false:=e
  subst e'
  exact truthy_none ⟨H,I,q⟩
 |bl b=>
  cases rx
  have e':k=b:=e
  subst e'
  exact wpAny_truthy_bool ⟨H,I,q⟩
 |int i=>
  obtain⟨t,rfl⟩:=rx
  have e':k=(i !=0):=e
  subst e'
  exact PySem.P.truthy_int ⟨H,I,q⟩
 |str y=>
  obtain⟨t,rfl⟩:=rx
  obtain⟨hy,e'⟩:y.length<=sizeLine/\k=((y.length:Int) !=0):=e
  subst e'
  exact PySem.P.truthy_str (by omega) ⟨H,I.tok _,q⟩
 |byt y=>
  obtain⟨t,rfl⟩:=rx
  obtain⟨hy,e'⟩:y.size<=sizeLine/\k=((y.size:Int) !=0):=e
  subst e'
  exact PySem.W.truthy_bytes (by omega) ⟨H,I.tok _,q⟩
 |ref p=>
  cases rx
  have e':(∃xs,SqL X.K H p xs/\k= !xs.isEmpty)\/(∃xs,SqT X.K H p xs/\k= !xs.isEmpty)\/∃kvs,H p=some (.dK kvs)/\k= !kvs.isEmpty:=e
  rcases e' with⟨xs,hx,e'⟩|⟨xs,hx,e'⟩|⟨kvs,hx,e'⟩
  ·subst e'
   obtain⟨its,r,pl,hz⟩:=I.list hx
   have hlen:=r.length
   exact wpAny_truthy_list pl.isList (by simp only[List.size_toArray];omega) ⟨H,I.tok _,by rw[isEmpty_of r];exact q⟩
  ·subst e'
   obtain⟨its,r,pl,hz⟩:=I.tuple hx
   have hlen:=r.length
   exact truthy_tuple pl (by simp only[List.size_toArray];omega) ⟨H,I.tok _,by rw[isEmpty_of r];exact q⟩
  ·subst e'
   obtain⟨hz,hS,vs,r,m⟩:kvs.length<=sizeLine/\(p==sysModules)=false/\∃vs,KV kvs vs/\s.heap.DictOf (mixKind X.prog X.w) p vs:=I.hok p _ hx
   have hlen:kvs.length=vs.length:=Paired.length r
   exact wpAny_truthy_dict hS m (by omega) ⟨H,I.tok _,by rw[isEmpty_kv r];exact q⟩
 |_=>exact(show False from e).elim
theorem pt_truth(ha:PE X a ta)(he:∀whole,isTrue a X.env whole=(do let v<-whole;standAt a.pos;holding [v] (truthy v))):
  PT X a (fun σ H Q=>ta σ H fun x H'=>∃k,TruV X.K x H' k/\Q k H'):=by
 intro pins s σ H Q I h
 exact isTrue_plain (thn (ha pins s σ H _ I h) fun v s1 ⟨x,H1,I1,r1,q1⟩=>tru_ok pins s1 σ H1 x v Q I1 r1 q1) (he _)
theorem vals1{x:V}{us:List Value}(r:Vals [x] us):∃u,us=[u]/\RelV x u:=by
 cases r with
 |cons r1 r2=>cases r2;exact⟨_,rfl,r1⟩
theorem vals2{x y:V}{us:List Value}(r:Vals [x,y] us):∃u w',us=[u,w']/\RelV x u/\RelV y w':=by
 cases r with
 |cons r1 r2=>
  cases r2 with
  |cons r3 r4=>cases r4;exact⟨_,_,rfl,r1,r3⟩
theorem call_max2(hc:X.calm=true):CallR X (.builtin "max") (fun xs H Q=>∃i j,xs=[.int i,.int j]/\Q (.int (if j>i then j else i)) H):=by
 intro pins s σ H xs us Q I r h
 obtain⟨i,j,rfl,q⟩:=h
 obtain⟨u,w',rfl,⟨t,rfl⟩,⟨t',rfl⟩⟩:=vals2 r
 refine max_two_ints (I.ok.hd hc) fun h' tk k=>⟨_,H,I.kept k,?_,q⟩
 by_cases hj:j>i
 ·rw[if_pos hj,if_pos hj];exact⟨_,rfl⟩
 ·rw[if_neg hj,if_neg hj];exact⟨_,rfl⟩
theorem call_min2(hc:X.calm=true):CallR X (.builtin "min") (fun xs H Q=>∃i j,xs=[.int i,.int j]/\Q (.int (if j<i then j else i)) H):=by
 intro pins s σ H xs us Q I r h
 obtain⟨i,j,rfl,q⟩:=h
 obtain⟨u,w',rfl,⟨t,rfl⟩,⟨t',rfl⟩⟩:=vals2 r
 refine min_two_ints (I.ok.hd hc) fun h' tk k=>⟨_,H,I.kept k,?_,q⟩
 by_cases hj:j<i
 ·rw[if_pos hj,if_pos hj];exact⟨_,rfl⟩
 ·rw[if_neg hj,if_neg hj];exact⟨_,rfl⟩
theorem call_int1:CallR X (.type "int") (fun xs H Q=>(∃i,xs=[.int i]/\Q (.int i) H)\/∃k,xs=[.bl k]/\Q (.int (if k then 1 else 0)) H):=by
 intro pins s σ H xs us Q I r h
 rcases h with⟨i,rfl,q⟩|⟨k,rfl,q⟩
 ·obtain⟨u,rfl,t,rfl⟩:=vals1 r
  exact call_int_int ⟨.int i,H,I,⟨_,rfl⟩,q⟩
 ·obtain⟨u,rfl,r1⟩:=vals1 r
  cases r1
  exact call_int_bool ⟨.int (if k then 1 else 0),H,I.tok _,⟨_,rfl⟩,q⟩
end
end L2
namespace L2
open PySem PySem.Spec PyProof.Rows
section
variable{prog:Program}{w:World}{A:Around}{E:Value->Shared->Prop}{s:Shared}{K:W.Frag}{x dx C f:Addr}{mA:Str->Option Value}{name:Str}{v:Value}
end
theorem RelO.some_of{v:V}{o:Option Value}(r:RelO (some v) o):∃u,o=some u/\RelV v u:=by
 cases o with
 |none=>exact(show False from r).elim
 |some u=>exact⟨u,rfl,r⟩
section
variable{P:Program}{w:World}{H H':Hp}{h h':Heap}{a C dx:Addr}{fs fs':List (Str×V)}
end
structure Cls(K:W.Frag)(C:Addr):Prop where
 pg:PySem.W.plainGet K C Str.empty=true
 hd:PySem.W.hasDictIn K C=true
 po:PySem.W.plainOver K C=true
 sa:PySem.W.findIn K (.ref C) "__setattr__"=some (some (.builtin "object.__setattr__"))
theorem Cls.get{K:W.Frag}{C:Addr}(c:Cls K C)(f:Str):PySem.W.plainGet K C f=true:=c.pg
section
variable{X:Cx}{pins:List (Addr×Obj)}{σ:St}{H:Hp}{s:Shared}{a C dx:Addr}{fs:List (Str×V)}{f:Str}{v:V}{A:Around}{E:Value->Shared->Prop}
theorem Inv.made(I:Inv X pins σ H s):Inv X pins σ (upd (upd H s.heap.objs.size (.own (s.heap.objs.size+1))) (s.heap.objs.size+1) (.ins C s.heap.objs.size []))
  {s with heap:=(s.heap.push PySem.W.emptyDict).push (PySem.W.instObj C s.heap.objs.size)}:=by
 have e1:(s.heap.push PySem.W.emptyDict).get? s.heap.objs.size=some PySem.W.emptyDict:=Heap.get?_push_size s.heap rfl
 have e2:((s.heap.push PySem.W.emptyDict).push (PySem.W.instObj C s.heap.objs.size)).get? (s.heap.objs.size+1)=some (PySem.W.instObj C s.heap.objs.size):=by
  have:=Heap.get?_push_size (s.heap.push PySem.W.emptyDict) (o:=PySem.W.instObj C s.heap.objs.size) rfl
  rwa [Heap.size_push]at this
 have e3:(s.heap.push PySem.W.emptyDict).Ns s.heap.objs.size (fun _=>none):=⟨PySem.W.emptyDict,#[],_,e1,rfl,(fun e he=>absurd he (by simp)),fun _=>rfl⟩
 have I1:=I.laid (a:=s.heap.objs.size) (o:= .own (s.heap.objs.size+1)) (h':=s.heap.push PySem.W.emptyDict) (t':=s.toks) (fun b u q=>Heap.get?_push_of_some _ q) (Nat.le_refl _) ⟨_,e1⟩
 refine I1.laid (a:=s.heap.objs.size+1) (o:= .ins C s.heap.objs.size []) (t':=s.toks) (fun b u q=>Heap.get?_push_of_some _ q) (Nat.le_of_eq (Heap.size_push _ _)) ?_
 have ne:s.heap.objs.size≠s.heap.objs.size+1:=Nat.ne_of_lt (Nat.lt_succ_self _)
 refine⟨by rw[zap ne,zac],Nat.zero_le _,ne,e2,fun _=>none,(Heap.Ns1.of_empty e3).at fun o q=>Heap.get?_push_of_some _ q,fun _=>True.intro,fun y hy=>absurd rfl hy⟩
end
section
variable{X:Cx}{o e value:Expr}{f:Str}{pos pos' tpos:Pos}{ta tv:TE}
end
section
variable{X:Cx}{pins:List (Addr×Obj)}{σ:St}{H:Hp}{s:Shared}{A:Around}{E:Value->Shared->Prop}{Q:Value->Shared->Prop}{c:Value}{b:Bool}
end
end L2
namespace L2
open PySem PySem.Spec PyProof.Rows
structure Room(k:Nat)(A:Around):Prop where
 hd:A.handled=none
 dp:A.depth+3*k+5<recursionLimit
 un:A.units+16*k+200<cLine
 gd:A.guards=some []
theorem Room.mono{j k:Nat}{A:Around}(r:Room k A)(h:j<=k):Room j A:=⟨r.hd,by have:=r.dp;omega,by have:=r.un;omega,r.gd⟩
theorem Room.deeper{k:Nat}{A:Around}(r:Room (k+1) A)(env:Env):Room k (A.deeper env):=
 ⟨r.hd,by have:=r.dp;show A.depth+1+3*k+5<_;omega,by have:=r.un;show A.units+3+16*k+200<_;omega,r.gd⟩
theorem Room.in1{k:Nat}{A:Around}(r:Room (k+1) A):Room k A.in1:=
 ⟨r.hd,by have:=r.dp;show A.depth+3*k+5<_;omega,by have:=r.un;show A.units+1+16*k+200<_;omega,r.gd⟩
theorem Room.depth{k:Nat}{A:Around}(r:Room k A):A.depth<recursionLimit:=by have:=r.dp;omega
theorem Room.units{k:Nat}{A:Around}(r:Room k A):A.units+64<cLine:=by have:=r.un;omega
theorem Room.units0{k:Nat}{A:Around}(r:Room k A):A.units<cLine:=by have:=r.un;omega
noncomputable def tNil:TA:=fun _ H Q=>Q [] H
noncomputable def tCons(ta:TE)(tr:TA):TA:=fun σ H Q=>ta σ H fun x H1=>tr σ H1 fun xs H2=>Q (x::xs) H2
section
variable{X:Cx}{e:Expr}{es:List Expr}{te:TE}{t:TA}{pos:Pos}
theorem zab:PA X [] tNil:=fun _ _ _ _ H Q I h=>Calls.spliced_nil ⟨[],H,I,.nil,h⟩
theorem zaa(ha:PE X e te)(hr:PA X es t)(hs:starEach (e::es) X.env=(false,eval e X.env)::starEach es X.env:=by rfl):PA X (e::es) (tCons te t):=by
 intro pos pins s σ H Q I h
 rw[hs]
 show wpAny _ _ (spliced ((false,eval e X.env)::backTo pos (starEach es X.env))) _ _ s
 refine Calls.spliced_cons (thn (ha pins s σ H _ I h) fun u s1 ⟨x,H1,I1,r1,q1⟩=> ?_)
 exact thn (hr pos pins s1 σ H1 _ I1 q1) fun us s2 ⟨xs,H2,I2,r2,q2⟩=>⟨x::xs,H2,I2,.cons r1 r2,q2⟩
noncomputable def tTup(t:TA):TE:=fun σ H Q=>t σ H fun xs H1=>xs.length<=sizeLine/\∀p,H1 p=none->Q (.ref p) (upd H1 p (.tup xs))
noncomputable def tLst(t:TA):TE:=fun σ H Q=>t σ H fun xs H1=>xs.length<=sizeLine/\∀p,H1 p=none->Q (.ref p) (upd H1 p (.lst xs))
theorem zck{x1}(h:PA X es t):PE X (.Tuple es x1 pos) (tTup t):=by
 intro pins s σ H Q I hq
 refine wpAny_Tuple_spliced (thn (h pos pins s σ H _ I hq) fun us s1 ⟨xs,H1,I1,r,z,q⟩=>⟨by rw[<-r.length];exact z,?_⟩)
 have hf:H1 s1.heap.objs.size=none:=I1.hok.fresh (Nat.le_refl _)
 refine⟨.ref s1.heap.objs.size,upd H1 s1.heap.objs.size (.tup xs),I1.laid (t':=s1.toks) (fun b u e=>Heap.get?_push_of_some _ e) (Nat.le_refl _) ?_,rfl,q _ hf⟩
 exact⟨z,us,r,⟨_,Heap.get?_push_size _ rfl,rfl,_,rfl⟩⟩
theorem pe_lst(h:PA X es t):PE X (.List es pos) (tLst t):=by
 intro pins s σ H Q I hq
 refine wpAny_List_spliced (thn (h pos pins s σ H _ I hq) fun us s1 ⟨xs,H1,I1,r,z,q⟩=>⟨by rw[<-r.length];exact z,?_⟩)
 have hf:H1 s1.heap.objs.size=none:=I1.hok.fresh (Nat.le_refl _)
 refine⟨.ref s1.heap.objs.size,upd H1 s1.heap.objs.size (.lst xs),I1.laid (t':=s1.toks) (fun b u e=>Heap.get?_push_of_some _ e) (Nat.le_refl _) ?_,rfl,q _ hf⟩
 exact⟨z,us,0,r,Heap.get?_push_size _ rfl⟩
end
noncomputable abbrev Sp:=List V->Hp->VK->XK->Prop
noncomputable abbrev CXT:=List Env->Hp->Shared->XK->Value->Shared->Prop
structure Env0(P:Program)(w:World)(K:W.Frag)(mg:Str->Option Value)(base:Heap)(A:Around)(outer:List Env)(s:Shared)(H:Hp):Prop where
 frames:A.frames=some outer
 mod:Mod K mg base
 bs:∀b o,base.get? b=some o->s.heap.get? b=some o/\H b=none
 bsz:base.objs.size<=s.heap.objs.size
 funs:s.heap.FunFrames base outer
 frf:∀b∈frs outer,H b=none
 hok:HOk P w H s.heap
 bare:AllBare s.gens
noncomputable def CE(outer:List Env)(P:Program)(w:World)(H:Hp)(s:Shared)(Q:VK)(u:Value)(s':Shared):Prop:=
 ∃v H',s'.os=s.os/\AllBare s'.gens/\Un (frs outer) [] H H' s.heap s'.heap/\HOk P w H' s'.heap/\RelV v u/\Q v H'
noncomputable def CR(CX:CXT)(outer:List Env)(P:Program)(w:World)(H:Hp)(s:Shared)(Q:VK)(E:XK)(r:Result)(s':Shared):Prop:=
 match r with
 | .ok (.ret u)=>CE outer P w H s Q u s'
 | .ok _=>False
 | .error e=>CX outer H s E e s'
structure FnOk(P:Program)(w:World)(K:W.Frag)(mg:Str->Option Value)(base:Heap)(CX:CXT)(k:Nat)(f:Addr)(fd:FuncData)(ps:List Str)(sp:Sp):Prop where
 len:∀vs H Q E,sp vs H Q E->vs.length=ps.length
 run:∀(A:Around) (outer:List Env) (s:Shared) (H:Hp) (args:Args) (us:List Value) (vs:List V) (Q:VK) (E:XK),Room k A->Env0 P w K mg base A outer s H->BindsTo s fd args (ps.zip us)->Vals vs us->sp vs H Q E->
  codeAny (model P w) A (.call (.ref f) args) (CR CX outer P w H s Q E) s
theorem FnOk.mono{P:Program}{w:World}{K:W.Frag}{mg:Str->Option Value}{base:Heap}{CX:CXT}{j k:Nat}{f:Addr}{fd:FuncData}{ps:List Str}{sp:Sp}(F:FnOk P w K mg base CX j f fd ps sp)(h:j<=k):
  FnOk P w K mg base CX k f fd ps sp:=⟨F.len,fun A outer s H args us vs Q E hr=>F.run A outer s H args us vs Q E (hr.mono h)⟩
theorem FnOk.imp{P:Program}{w:World}{K:W.Frag}{mg:Str->Option Value}{base:Heap}{CX:CXT}{k:Nat}{f:Addr}{fd:FuncData}{ps:List Str}{sp sp':Sp}(F:FnOk P w K mg base CX k f fd ps sp)(h:∀vs H Q E,sp' vs H Q E->sp vs H Q E):FnOk P w K mg base CX k f fd ps sp':=
 ⟨fun vs H Q E q=>F.len vs H Q E (h _ _ _ _ q),fun A outer s H args us vs Q E hr he hb hv hs=>F.run A outer s H args us vs Q E hr he hb hv (h _ _ _ _ hs)⟩
theorem Env0.in1{P:Program}{w:World}{K:W.Frag}{mg:Str->Option Value}{base:Heap}{A:Around}{outer:List Env}{s:Shared}{H:Hp}(e:Env0 P w K mg base A outer s H):
  Env0 P w K mg base A.in1 outer s H:=⟨e.frames,e.mod,e.bs,e.bsz,e.funs,e.frf,e.hok,e.bare⟩
section
variable{X:Cx}{pins:List (Addr×Obj)}{σ:St}{H:Hp}{s s':Shared}
theorem Inv.env0(I:Inv X pins σ H s):Env0 X.prog X.w X.K X.mg X.base X.A X.stack s H:=
 ⟨I.ok.frames,I.ok.mod,I.bs,Nat.le_trans I.ok.bsz I.sz,I.stack,I.stkFree,I.hok,I.bare⟩
theorem Inv.after{Q:VK}{u:Value}(I:Inv X pins σ H s)(h:CE X.stack X.prog X.w H s Q u s'):EP X pins σ Q u s':=by
 obtain⟨v,H',os,bare,un,hok,r,q⟩:=h
 obtain⟨hh,g,d,t,os'⟩:=s'
 obtain rfl:os'=s.os:=os
 exact⟨v,H',I.call (h':=hh) (g':=g) (d':=d) (t':=t) (ch:=[]) un hok bare (fun b z=>absurd z (by simp)),r,q⟩
end
noncomputable def tCall(sp:Sp)(dvs:List V)(E:XK)(t:TA):TE:=fun σ H Q=>t σ H fun vs H1=>sp (vs++dvs) H1 Q E
noncomputable def Binds(K:W.Frag)(fd:FuncData)(ps:List Str)(ds:List Value):Prop:=
 ∀(s:Shared) (us:List Value),K.In s.heap->(us++ds).length=ps.length->BindsTo s fd ⟨us,[]⟩ (ps.zip (us++ds))
theorem Binds.all{K:W.Frag}{fd:FuncData}{ps:List Str}(h:∀us:List Value,us.length=ps.length->bindArgs fd ⟨us,[]⟩=pure (ps.zip us)):Binds K fd ps []:=fun s us _ hl=>by
 rw[List.append_nil]at hl⊢
 exact .of_eq (h us hl)
noncomputable def Passes(CX:CXT)(X:Cx)(E:XK):Prop:=∀(pins:List (Addr×Obj)) (σ:St) (H:Hp) (s:Shared) (e:Value) (s':Shared),Inv X pins σ H s->CX X.stack H s E e s'->X.xe e s'
section
variable{X:Cx}{CX:CXT}{k:Nat}{f C:Addr}{fd:FuncData}{ps:List Str}{sp:Sp}{dvs:List V}{ds:List Value}{E:XK}{x m:Str}{p pos apos:Pos}{e o:Expr}{es:List Expr}{ta:TE}{t:TA}
theorem run_fn{pins:List (Addr×Obj)}{σ:St}{H:Hp}{s:Shared}{Q:VK}{us:List Value}{vs:List V}(F:FnOk X.prog X.w X.K X.mg X.base CX k f fd ps sp)(hr:Room k X.A)(hb:Binds X.K fd ps ds)(hd:Vals dvs ds)(hx:Passes CX X E)
  (I:Inv X pins σ H s)(r:Vals vs us)(h:sp (vs++dvs) H Q E):wpAny (model X.prog X.w) X.A (call (.ref f) us) (EP X pins σ Q) X.xe s:=by
 have r2:Vals (vs++dvs) (us++ds):=r.append hd
 have hl:(us++ds).length=ps.length:=by rw[<-r2.length];exact F.len _ _ _ _ h
 refine wpAny_call (codeAny_mono (F.run X.A X.stack s H ⟨us,[]⟩ (us++ds) (vs++dvs) Q E hr I.env0 (hb s us I.kIn hl) r2 h) fun r s' hq=> ?_)
 cases r with
 |error e=>exact hx pins σ H s e s' I hq
 |ok fl=>
  cases fl with
  |ret u=>exact I.after hq
  |next=>exact False.elim hq
  |brk=>exact False.elim hq
  |cont=>exact False.elim hq
theorem zaf(F:FnOk X.prog X.w X.K X.mg X.base CX k f fd ps sp)(hr:Room k X.A)(hg:Gl X x)(hm:X.mg x=some (.ref f))(hk:PySem.W.keepIn X.K (.ref f)=true)(hb:Binds X.K fd ps ds)(hd:Vals dvs ds)(hx:Passes CX X E)(ha:PA X (e::es) t)(hdb:(x==("__debug__":Str))=false:=by decide)(he:starEach (e::es) X.env=(false,eval e X.env)::starEach es X.env:=by rfl)(hpl:(backTo pos (starEach es X.env)).any (·.1)=false:=by rfl):
  PE X (.Call (.Name x p) (e::es) [] pos) (tCall sp dvs E t):=by
 intro pins s σ H Q I h
 refine wpAny_Call_Name_kw (ld_glob I hg hm ?_ hdb)
 refine PySem.W.callWith_K (h₀:=X.base) I.ok.mod.kin hk (thn (ha pos pins s σ H _ I h) fun us s1 ⟨vs,H1,I1,r,q⟩=>⟨I1.kIn,?_⟩) he hpl
 exact run_fn F hr hb hd hx I1 r q
end
section
variable{X:Cx}{CX:CXT}{k:Nat}{f C:Addr}{fd:FuncData}{ps ks:List Str}{sp:Sp}{E:XK}{x m:Str}{p pos apos kpos:Pos}{e o:Expr}{es:List Expr}{kws:List Keyword}{te ta:TE}{t tk:TA}{nm:Option Str}
variable{g:List Value->List Value->List Value}{gV:List V->List V->List V}
end
structure FnScope(N P:List Str)(sc:Scope):Prop where
 kind:sc.kind= .function
 co:sc.isCoroutine=false
 gen:sc.isGenerator=false
 nd:N.Nodup
 pre:N.take P.length=P
 par:∀x∈P,sc.names.lookup x=some .local\/sc.names.lookup x=some .cell
 nofree:∀y∈sc.names,y.2≠.free
theorem bindL_out{kindOf:Str->Option NameKind}{x:Str}:∀{binds:List (Str×Value)} {m:Str->Option Value},(∀v,(x,v)∉binds)->bindL kindOf binds m x=m x
 |[],_,_=>rfl
 |(n,v)::r,m,h=>by
  unfold bindL
  rw[bindL_out fun w hw=>h w (List.mem_cons_of_mem _ hw)]
  split
  ·have:x≠n:=by rintro rfl;exact h v List.mem_cons_self
   simp[this]
  ·rfl
theorem bindC_out{kindOf:Str->Option NameKind}{x:Str}:∀{binds:List (Str×Value)} {m:Str->Option Value},(∀v,(x,v)∉binds)->bindC kindOf binds m x=m x
 |[],_,_=>rfl
 |(n,v)::r,m,h=>by
  unfold bindC
  rw[bindC_out fun w hw=>h w (List.mem_cons_of_mem _ hw)]
  split
  ·rfl
  ·have:x≠n:=by rintro rfl;exact h v List.mem_cons_self
   simp[this]
theorem bindL_get{kindOf:Str->Option NameKind}{x:Str}{v:Value}:∀{P:List Str} {vs:List Value} {i:Nat} {m:Str->Option Value},P.Nodup->P[i]? =some x->vs[i]? =some v->kindOf x=some .local->
  bindL kindOf (P.zip vs) m x=some v
 |[],_,_,_,_,h,_,_=>by simp at h
 |_::_,[],_,_,_,_,h,_=>by simp at h
 |p::P,w::vs,0,m,nd,h1,h2,hk=>by
  simp at h1 h2;subst h1;subst h2
  show bindL kindOf ((p,w)::P.zip vs) m p=_
  unfold bindL
  rw[bindL_out fun v hv=>(List.nodup_cons.mp nd).1 (List.of_mem_zip hv).1,if_pos hk]
  simp
 |p::P,w::vs,i+1,m,nd,h1,h2,hk=>by
  show bindL kindOf ((p,w)::P.zip vs) m x=_
  unfold bindL
  exact bindL_get (i:=i) (List.nodup_cons.mp nd).2 (by simpa using h1) (by simpa using h2) hk
theorem bindC_get{kindOf:Str->Option NameKind}{x:Str}{v:Value}:∀{P:List Str} {vs:List Value} {i:Nat} {m:Str->Option Value},P.Nodup->P[i]? =some x->vs[i]? =some v->kindOf x≠some .local->
  bindC kindOf (P.zip vs) m x=some v
 |[],_,_,_,_,h,_,_=>by simp at h
 |_::_,[],_,_,_,_,h,_=>by simp at h
 |p::P,w::vs,0,m,nd,h1,h2,hk=>by
  simp at h1 h2;subst h1;subst h2
  show bindC kindOf ((p,w)::P.zip vs) m p=_
  unfold bindC
  rw[bindC_out fun v hv=>(List.nodup_cons.mp nd).1 (List.of_mem_zip hv).1,if_neg hk]
  simp
 |p::P,w::vs,i+1,m,nd,h1,h2,hk=>by
  show bindC kindOf ((p,w)::P.zip vs) m x=_
  unfold bindC
  exact bindC_get (i:=i) (List.nodup_cons.mp nd).2 (by simpa using h1) (by simpa using h2) hk
noncomputable def start(N:List Str)(vs:List V):St:=vs.map some++List.replicate (N.length-vs.length) none
noncomputable def cxOf(CX:CXT)(P:Program)(w:World)(K:W.Frag)(mg:Str->Option Value)(base:Heap)(N:List Str)(qual:Str)(scope:Scope)(f:Addr)(cd:Value)(A:Around)(outer:List Env)(s:Shared)(H:Hp)(E:XK):Cx where
 prog:=P
 w:=w
 K:=K
 mg:=mg
 base:=base
 A:=A.deeper (envOfC qual scope s.heap.objs.size f cd)
 N:=N
 s₀:=s
 H₀:=H
 env:=envOfC qual scope s.heap.objs.size f cd
 outer:=outer
 stack:=envOfC qual scope s.heap.objs.size f cd::outer
 ex:=[]
 calm:=true
 fn:=fun _=>true
 pn:=[]
 xe:=fun e s'=>wpAny (model P w) (A.deeper (envOfC qual scope s.heap.objs.size f cd)) (leaving (envOfC qual scope s.heap.objs.size f cd) e) (fun _ s''=>CX outer H s E e s'') (fun e' s''=>CX outer H s E e' s'') s'
theorem cell_has{sc:Scope}{n:Nat}{x:Str}(h:sc.names.lookup x=some .cell):∃c,(cellsFrom n sc.names []).lookup x=some c:=by
 have q:=PySem.W.cellsFrom_some sc.names n [] (.inl h)
 exact Option.isSome_iff_exists.mp q
theorem inv_start{CX:CXT}{P:Program}{w:World}{K:W.Frag}{mg:Str->Option Value}{base:Heap}{N ps:List Str}{qual:Str}{scope:Scope}{f:Addr}{cd:Value}{A:Around}{outer:List Env}{s s1:Shared}{H:Hp}{E:XK}{us:List Value}{vs:List V}
  (S:FnScope N ps scope)(hd:A.handled=none)(e0:Env0 P w K mg base A outer s H)(hl:vs.length=ps.length)(r:Vals vs us)(x:InCallC s s.heap.objs.size (bindL (envOfC qual scope s.heap.objs.size f cd).kindOf (ps.zip us) fun _=>none) (cellsFrom (s.heap.objs.size+1) scope.names []) (bindC (envOfC qual scope s.heap.objs.size f cd).kindOf (ps.zip us) fun _=>none) s1):
  Inv (cxOf CX P w K mg base N qual scope f cd A outer s H E) [] (start N vs) H s1:=by
 have hpl:ps.length<=N.length:=by have:=congrArg List.length S.pre;rw[List.length_take]at this;omega
 obtain⟨h1,tk,rfl,hk⟩:=x.done
 have noA:∀b:Addr,b∉(cxOf CX P w K mg base N qual scope f cd A outer s H E).ex:=fun b z=>absurd (show b∈([]:List Addr)from z) (by simp)
 refine⟨⟨e0.mod,S.kind,rfl,rfl,Nat.le_refl _,fun y z c h1 h2=> ?_,fun y hy=> ?_,fun y c _ h=> ?_,fun _=>hd,Around.frames_deeper e0.frames,.inr ⟨rfl,rfl⟩,fun b z=>absurd z (noA b),e0.bs,e0.bsz,fun b _ _=>noA b,fun b z=>absurd z (noA b),e0.funs,e0.frf⟩,
  rfl,e0.bare,Un.kept hk,⟨_,x.toInCall.ns,fun i y v h1 h2 h3=> ?_⟩,fun y c h=>⟨_,x.cell y c h⟩,e0.hok.fresh (Nat.le_refl _),fun y c h=> ?_,fun p hp=>absurd (show p∈([]:List (Addr×Obj))from hp) (by simp),e0.hok.kept hk,?_⟩
 ·exact name_of_addr x.apart (PySem.mem_of_lookup h1) (PySem.mem_of_lookup h2)
 ·have hy:scope.names.lookup y=some .cell\/scope.names.lookup y=some .free:=hy
  rcases hy with hy|hy
  ·exact cell_has hy
  ·exact absurd rfl (S.nofree _ (PySem.mem_of_lookup hy))
 ·exact Nat.le_of_lt (x.above y c (PySem.mem_of_lookup h))
 ·have hi:i<vs.length:=by
   unfold start at h2
   by_cases hi:i<vs.length
   ·exact hi
   ·rw[List.getElem?_append_right (by simpa using hi)]at h2
    rw[List.getElem?_replicate]at h2
    split at h2<;>cases h2
  have ha:vs[i]? =some v:=by
   unfold start at h2
   rw[List.getElem?_append_left (by simpa using hi),List.getElem?_map]at h2
   cases e:vs[i]? with
   |none=>rw[e]at h2;cases h2
   |some a=>rw[e]at h2;cases h2;rfl
  obtain⟨u,hu,rv⟩:=r.get ha
  have hp:ps[i]? =some y:=by
   rw[<-S.pre,List.getElem?_take_of_lt (by omega)];exact h1
  have ndP:ps.Nodup:=by rw[<-S.pre];exact S.nd.sublist (List.take_sublist _ _)
  refine⟨u,rv,?_⟩
  rcases S.par y (List.mem_of_getElem? hp)with k|k
  ·exact .inl ⟨k,bindL_get ndP hp hu k⟩
  ·obtain⟨c,e⟩:=cell_has (n:=s.heap.objs.size+1) k
   refine .inr ⟨.inl k,c,e,?_⟩
   have q:=x.cell y c e
   rw[bindC_get ndP hp hu (by show scope.names.lookup y≠_;rw[k];decide)]at q
   exact q
 ·exact e0.hok.fresh (Nat.le_of_lt (x.above y c (PySem.mem_of_lookup h)))
 ·unfold start
  show _=N.length
  rw[List.length_append,List.length_map,List.length_replicate]
  omega
theorem fn_of{CX:CXT}{P:Program}{w:World}{K:W.Frag}{mg:Str->Option Value}{base:Heap}{k:Nat}{f:Addr}{name qual:Str}{params:Arguments}{body:List Stmt}{scope:Scope}{dV kV doc pm cdv ct oc:Value}{an od:Option Addr}{osl:Array (Option Value)}{N ps:List Str}{sp:Sp}(lk:K.lookup f=some ⟨oc,od,.func (PySem.W.fnOf name qual params body scope dV kV doc pm an cdv ct),osl⟩)(hcd:PySem.W.codeIn K cdv qual=true)(S:FnScope N ps scope)(len:∀vs H Q E,sp vs H Q E->vs.length=ps.length)(hbody:∀(A:Around) (outer:List Env) (s:Shared) (H:Hp) (vs:List V) (Q:VK) (E:XK),Room k (A.deeper (envOfC qual scope s.heap.objs.size f cdv))->sp vs H Q E->
   ∃t,PSs (cxOf CX P w K mg base N qual scope f cdv A outer s H E) body t/\t {nx:=fun _ H'=>Q .non H',rt:=Q} (start N vs) H):
  FnOk P w K mg base CX (k+1) f (PySem.W.fnOf name qual params body scope dV kV doc pm an cdv ct) ps sp:=by
 refine⟨len,fun A outer s H args us vs Q E hr e0 hb r hsp=> ?_⟩
 have hl:=len _ _ _ _ hsp
 have KX:K.In s.heap:=e0.mod.kin.keeps fun b o e=>(e0.bs b o e).1
 have lim:s.heap.NoLimit:=e0.mod.nolimit.keeps fun b o e=>(e0.bs b o e).1
 have hkind:∀y∈ps.zip us,scope.names.lookup y.1=some .local\/(scope.names.lookup y.1=some .cell/\((cellsFrom (s.heap.objs.size+1) scope.names []).lookup y.1).isSome=true):=fun⟨n,v⟩ hy=>by
  rcases S.par n (List.of_mem_zip hy).1 with q|q
  ·exact .inl q
  ·exact .inr ⟨q,PySem.W.cellsFrom_some _ _ _ (.inl q)⟩
 refine codeAny_call_function hr.depth (KX _ _ lk) rfl S.co S.gen rfl (PySem.W.codeRec_of KX hcd) (hb _ _ _ _ ?_)
 refine wpAny_newFunctionEnv_cells S.kind hkind fun env he s1 x=> ?_
 subst he
 refine⟨lim.keeps x.toInCall.keep,codeAny_func ?_⟩
 obtain⟨t,ht,hq⟩:=hbody A outer s H vs Q E (hr.deeper _) hsp
 have I:Inv (cxOf CX P w K mg base N qual scope f cdv A outer s H E) [] (start N vs) H s1:=inv_start S hr.hd e0 hl r x
 refine wpAny_mono (ht [] s1 (start N vs) H _ I hq) (fun fl s' hs=> ?_) fun e s' hs=>hs
 have fin:∀{σ':St} {H':Hp} {v:V} {u:Value},Inv (cxOf CX P w K mg base N qual scope f cdv A outer s H E) [] σ' H' s'->RelV v u->Q v H'->CE outer P w H s Q u s':=
  fun{σ' H' v u} J rv q=>⟨v,H',J.os,J.bare,J.base,J.hok,rv,q⟩
 cases fl with
 |ret u=>
  obtain⟨v,σ',H',J,rv,q⟩:=hs
  exact fin J rv q
 |next=>
  obtain⟨σ',H',J,q⟩:=hs
  exact fin (v:=V.non) (u:=Value.none) J rfl q
 |brk=>
  obtain⟨_,_,_,q⟩:=hs
  exact False.elim q
 |cont=>
  obtain⟨_,_,_,q⟩:=hs
  exact False.elim q
end L2
namespace L2
open PySem PySem.Spec PyProof.Rows
section
variable{X:Cx}{x:Str}{p pos:Pos}{e:Expr}{es:List Expr}{t:TA}{id T:String}{r:List V->Hp->VK->Prop}
noncomputable def tCB(r:List V->Hp->VK->Prop)(t:TA):TE:=fun σ H Q=>t σ H fun vs H1=>r vs H1 Q
theorem zai(hc:CallR X (.builtin id) r)(hg:Gl X x)(hm:X.mg x=none)(hv:bootBuiltins x=some (.builtin id))(ha:PA X (e::es) t)(hn:x≠"__name__":=by decide)(hdb:(x==("__debug__":Str))=false:=by decide)(he:starEach (e::es) X.env=(false,eval e X.env)::starEach es X.env:=by rfl)(hpl:(backTo pos (starEach es X.env)).any (·.1)=false:=by rfl):PE X (.Call (.Name x p) (e::es) [] pos) (tCB r t):=by
 intro pins s σ H Q I h
 refine wpAny_Call_Name_kw (ld_blt I hg hm hv ?_ hn hdb)
 exact PyProof.Rows.callWith_builtin1 (thn (ha pos pins s σ H _ I h) fun us s1 ⟨vs,H1,I1,r1,q1⟩=>hc pins s1 σ H1 vs us Q I1 r1 q1) he hpl
theorem zbp(hc:CallR X (.type T) r)(hg:Gl X x)(hm:X.mg x=none)(hv:bootBuiltins x=some (.type T))(ha:PA X (e::es) t)(hn:x≠"__name__":=by decide)(hdb:(x==("__debug__":Str))=false:=by decide)(he:starEach (e::es) X.env=(false,eval e X.env)::starEach es X.env:=by rfl)(hpl:(backTo pos (starEach es X.env)).any (·.1)=false:=by rfl):PE X (.Call (.Name x p) (e::es) [] pos) (tCB r t):=by
 intro pins s σ H Q I h
 refine wpAny_Call_Name_kw (ld_blt I hg hm hv ?_ hn hdb)
 exact PyProof.Rows.callWith_type1 (thn (ha pos pins s σ H _ I h) fun us s1 ⟨vs,H1,I1,r1,q1⟩=>hc pins s1 σ H1 vs us Q I1 r1 q1) he hpl
end
end L2
namespace HT
open PySem PyProof.Rows
noncomputable def lexLt:List Int->List Int->Bool
 |[],[]=>false
 |[],_::_=>true
 |_::_,[]=>false
 |x::xs,y::ys=>if x=y then lexLt xs ys else decide (x<y)
theorem lexLt_cons(x y:Int)(xs ys:List Int):lexLt (x::xs) (y::ys)=if x=y then lexLt xs ys else decide (x<y):=rfl
theorem lexLt_nil_nil:lexLt [] []=false:=rfl
theorem lexLt_nil_cons(y:Int)(ys:List Int):lexLt [] (y::ys)=true:=rfl
theorem lexLt_cons_nil(x:Int)(xs:List Int):lexLt (x::xs) []=false:=rfl
theorem eqAt_int(A:Around)(s:Shared)(a:Int)(t:Tok)(c:Int)(u:Tok):∃e,SeqAt.EqAt A s (.int a t) (.int c u) e/\(e=true↔a=c):=
 ⟨(a==c),SeqAt.EqAt.int_int a t c u,by simp⟩
theorem rcLt_int(A:Around)(s:Shared)(a:Int)(t:Tok)(c:Int)(u:Tok)(prog:Program)(w:World)(E:Value->Shared->Prop)(Q:Value->Shared->Prop)(h:Q (.bool (decide (a<c))) s):
  wpAny (model prog w) A (richCompare .Lt (.int a t) (.int c u)) Q E s:=
 (PyProof.Rows.lt_int h:wpAny (model prog w) A (compareOp .Lt (.int a t) (.int c u)) Q E s)
section
open PySem.SeqAt
open PySem.AutoSeq1 (wpAny_loadPart')
open PySem.MeetsSeq PySem.MeetsSeq2 PySem.MeetsSeq3
theorem tuple_lt_ints(l b:Addr)(items items2:Array Value)(n n2:Nat)(dd dd2:Option Addr)(sl sl2:Array (Option Value))(ns ms:List Int)(hi:IntsAre items.toList ns)(hj:IntsAre items2.toList ms):
  Meets (Builtin.«tuple.__lt__» ⟨[.ref l,.ref b],[]⟩)
   (fun _ R s=>s.heap.get? l=some {cls:= .type "tuple",dict:=dd,data:= .seq items n,slots:=sl}/\s.heap.get? b=some {cls:= .type "tuple",dict:=dd2,data:= .seq items2 n2,slots:=sl2}/\
    R (.ok (.ret (.bool (lexLt ns ms)))) s):=
 .of_wp fun prog w A R s h=>by
  obtain⟨hp,g,d,tk,os⟩:=s;obtain⟨hl,hb,h⟩:=h
  have f2:=AutoSeq1.sub_tuple_tuple
  have z1:items.size=ns.length:=by rw[<-hi.length];simp
  have z2:items2.size=ms.length:=by rw[<-hj.length];simp
  wp_walk using wpAny_loadPart' hl,wpAny_loadPart' hb,wpAny_forIn_list _ (fun rest b s'=>b.1=none/\s'=⟨hp,g,d,tk,os⟩/\∃(vs ws:List Value) (ns' ms':List Int),rest=vs.zip ws/\
   IntsAre vs ns'/\IntsAre ws ms'/\ns'.length+items2.size=ms'.length+items.size/\R (.ok (.ret (.bool (lexLt ns' ms')))) ⟨hp,g,d,tk,os⟩) _
  case turn=>
   rintro⟨y,x⟩ rest b s' ⟨hb',rfl,vs,ws,ns',ms',hz,hvi,hwi,hlen,hR⟩
   cases hvi with
   |nil=>rw[List.zip_nil_left]at hz;cases hz
   |cons a t hvi'=>
    cases hwi with
    |nil=>rw[List.zip_nil_right]at hz;cases hz
    |cons c u hwi'=>
     rw[List.zip_cons_cons]at hz
     injection hz with hyx hrest
     injection hyx with hy hx
     subst hy hx
     rw[lexLt_cons]at hR
     simp only[List.length_cons]at hlen
     obtain⟨e,he,hiff⟩:=eqAt_int A.in1 ⟨hp,g,d,tk,os⟩ a t c u
     refine wpAny_bind (he prog w _ _ ?_)
     cases e with
     |true=>
      rw[if_pos (hiff.mp rfl)]at hR
      wp_walk
      exact⟨rfl,rfl,_,_,_,_,hrest,hvi',hwi',by omega,hR⟩
     |false=>
      rw[if_neg (fun q=>absurd (hiff.mpr q) Bool.false_ne_true)]at hR
      have hri:=rcLt_int A.in1 ⟨hp,g,d,tk,os⟩ a t c u prog w
      wp_walk using hri
      exact⟨_,rfl,by simpa using hR⟩
  case fin=>
   rintro⟨b1,b2⟩ s' ⟨hb',rfl,vs,ws,ns',ms',hz,hvi,hwi,hlen,hR⟩
   simp only at hb'
   subst hb'
   have hv:lexLt ns' ms'=decide (items.size<items2.size):=by
    cases hvi with
    |nil=>
     cases hwi with
     |nil=>
      simp only[List.length_nil]at hlen
      rw[lexLt_nil_nil]
      exact(decide_eq_false (by omega)).symm
     |cons c u hw=>
      simp only[List.length_nil,List.length_cons]at hlen
      rw[lexLt_nil_cons]
      exact(decide_eq_true (by omega)).symm
    |cons a t hv=>
     cases hwi with
     |nil=>
      simp only[List.length_nil,List.length_cons]at hlen
      rw[lexLt_cons_nil]
      exact(decide_eq_false (by omega)).symm
     |cons c u hw=>
      rw[List.zip_cons_cons]at hz
      cases hz
   rw[hv]at hR
   wp_walk
   exact⟨_,rfl,by simpa[Builtin.Tuple.tupleCompareSizes]using hR⟩
  case h=>
   exact⟨rfl,rfl,items.toList,items2.toList,ns,ms,rfl,hi,hj,by omega,h⟩
end
section
variable{prog:Program}{w:World}{A:Around}{E:Value->Shared->Prop}{s:Shared}
theorem lt_tupInts{l b:Addr}{items items2:Array Value}{ns ms:List Int}{Q:Value->Shared->Prop}(hl:IsTup s.heap l items)(hb:IsTup s.heap b items2)(hi:IntsAre items.toList ns)(hj:IntsAre items2.toList ms)(hu:A.units<cLine)(h:Q (.bool (lexLt ns ms)) s):wpAny (model prog w) A (compareOp .Lt (.ref l) (.ref b)) Q E s:=by
 obtain⟨⟨cls,dd,data,sl⟩,ho,hc,n,hd⟩:=id hl
 obtain⟨⟨cls2,dd2,data2,sl2⟩,ho2,hc2,n2,hd2⟩:=id hb
 simp only at hc hd hc2 hd2
 subst hc hd hc2 hd2
 exact richCompare_meets_room (op:= .Lt) ⟨_,ho,rfl⟩ ⟨_,ho2,rfl⟩ PySem.F.slot_tuple_lt PySem.F.entry_tuple_lt (PySem.F.args_tuple_lt_2 _ _) (tuple_lt_ints l b items items2 n n2 dd dd2 sl sl2 ns ms hi hj)
  ⟨ho,ho2,show Value.bool (lexLt ns ms)≠Value.notImplemented/\Q (.bool (lexLt ns ms)) s from⟨(fun x=>nomatch x),h⟩⟩ hu
theorem cat_tup{t b:Addr}{vs ws:List Value}{Q:Value->Shared->Prop}(ht:IsTup s.heap t vs.toArray)(hb:IsTup s.heap b ws.toArray)(hv:vs≠[])(h1:ws=[]->Q (.ref t) s)(h2:ws≠[]->Q (.ref s.heap.objs.size) {s with heap:=s.heap.push {cls:= .type "tuple",data:= .seq (vs++ws).toArray}})(hsz:vs.length+ws.length<=sizeLine):wpAny (model prog w) A (binaryOp .Add (.ref t) (.ref b)) Q E s:=by
 obtain⟨⟨cls,dd,data,sl⟩,ho,hc,n,hd⟩:=id ht
 obtain⟨⟨cls2,dd2,data2,sl2⟩,ho2,hc2,n2,hd2⟩:=id hb
 simp only at hc hd hc2 hd2
 subst hc hd hc2 hd2
 have e:vs.toArray++ws.toArray=(vs++ws).toArray:=by simp
 by_cases hw:ws=[]
 ·exact concat_meets ⟨_,ho,rfl⟩ ⟨_,ho2,rfl⟩ noFill_tuple_add seq_tuple_add PySem.F.slot_tuple_add PySem.F.entry_tuple_add (PySem.F.args_tuple_add_2 _ _)
   (tuple_addW1 t b vs.toArray ws.toArray n n2 dd dd2 sl sl2 (by simpa using hv) (by simp[hw])) ⟨ho,ho2,h1 hw⟩
 ·refine concat_meets ⟨_,ho,rfl⟩ ⟨_,ho2,rfl⟩ noFill_tuple_add seq_tuple_add PySem.F.slot_tuple_add PySem.F.entry_tuple_add (PySem.F.args_tuple_add_2 _ _)
   (tuple_addW2 t b vs.toArray ws.toArray n n2 dd dd2 sl sl2 (by simpa using hv) (by simpa using hw) (by rw[List.size_toArray,List.size_toArray];exact hsz)) ⟨ho,ho2,?_⟩
  rw[e]
  exact h2 hw
noncomputable def sIx(n d:Nat):Option Int->Nat
 |none=>d
 |some v=>if v<0 then(v+(n:Int)).toNat else min v.toNat n
theorem sIx_none(n d:Nat):sIx n d none=d:=rfl
theorem sIx_nat(n d k:Nat):sIx n d (some (k:Int))=min k n:=by
 show(if(k:Int)<0 then((k:Int)+(n:Int)).toNat else min (k:Int).toNat n)=min k n
 rw[if_neg (by omega),Int.toNat_natCast]
theorem sIx_le(n d:Nat)(hd:d<=n)(o:Option Int):sIx n d o<=n:=by
 cases o with
 |none=>exact hd
 |some v=>
  show(if v<0 then(v+(n:Int)).toNat else min v.toNat n)<=n
  by_cases hv:v<0
  ·rw[if_pos hv];omega
  ·rw[if_neg hv];exact Nat.min_le_right _ _
theorem clip_eq(v:Int)(n d:Nat):(if v<0 then max (v+(n:Int)) 0 else min v (n:Int))=((sIx n d (some v):Nat):Int):=by
 show(if v<0 then max (v+(n:Int)) 0 else min v (n:Int))=(((if v<0 then(v+(n:Int)).toNat else min v.toNat n):Nat):Int)
 by_cases hv:v<0
 ·simp only[if_pos hv];omega
 ·simp only[if_neg hv];omega
theorem adjust_gen(lo hi:Option Int)(n:Nat):Builtin.Slice.sliceAdjust lo hi 1 (n:Int)=(((sIx n 0 lo:Nat):Int),((sIx n n hi:Nat):Int)):=by
 have h1:¬((1:Int)<0):=by omega
 unfold Builtin.Slice.sliceAdjust
 simp only[h1,if_false]
 refine Prod.ext ?_ ?_
 ·cases lo with
  |none=>rfl
  |some v=>exact clip_eq v n 0
 ·cases hi with
  |none=>rfl
  |some v=>exact clip_eq v n n
theorem places_gen(i j:Nat):Builtin.Slice.slicePlaces (i:Int) (j:Int) 1=j-i:=by
 unfold Builtin.Slice.slicePlaces
 have h1:(1:Int)>0:=by omega
 simp only[h1,if_true,Int.ediv_one]
 split<;>omega
theorem slicePart_{v:Value}{o:Option Int}{Q:Option Int->Shared->Prop}(p:IsPart v o)(h:Q o s):wpAny (model prog w) A (Builtin.Slice.slicePartIndex v) Q E s:=by
 cases p with
 |none=>exact slicePart_none h
 |int i t=>exact slicePart_int h
theorem sliceApplied_gen{sl:Addr}{vl vu:Value}{lo hi:Option Int}{n:Nat}{Q:Int×Int×Nat->Shared->Prop}(hs:s.heap.IsSliceOf sl vl vu .none)(pl:IsPart vl lo)(pu:IsPart vu hi)(h:Q (((sIx n 0 lo:Nat):Int),1,sIx n n hi-sIx n 0 lo) s):wpAny (model prog w) A (Builtin.Slice.sliceApplied (.ref sl) (pure (n:Int))) Q E s:=by
 obtain⟨os,hos,hcs,hds⟩:=id hs
 unfold Builtin.Slice.sliceApplied Builtin.Slice.sliceFields
 refine wpAny_bind (wpAny_bind (wpAny_field hos hds (x:=vl) rfl (wpAny_bind (wpAny_field hos hds (x:=vu) rfl (wpAny_bind (wpAny_field hos hds (x:= .none) rfl (wpAny_pure ?_)))))))
 refine wpAny_bind (slicePart_none ?_)
 show wpAny _ _ (if((1:Int)==0)=true then _ else _) _ _ s
 rw[if_neg (by decide)]
 refine wpAny_bind (slicePart_ pl (wpAny_bind (slicePart_ pu (wpAny_bind (wpAny_pure ?_)))))
 show wpAny _ _ (match Builtin.Slice.sliceAdjust lo hi 1 (n:Int)with |(lo,hi)=>pure (lo,(1:Int),Builtin.Slice.slicePlaces lo hi 1)) _ _ s
 rw[adjust_gen lo hi n]
 show wpAny _ _ (pure (((sIx n 0 lo:Nat):Int),(1:Int),Builtin.Slice.slicePlaces ((sIx n 0 lo:Nat):Int) ((sIx n n hi:Nat):Int) 1)) _ _ s
 rw[places_gen]
 exact wpAny_pure h
theorem pick_gen(xs:Array Value)(i k:Nat):((List.range k).filterMap fun(m:Nat)=>xs[((i:Int)+(m:Int)*1).toNat]?).toArray=((xs.toList.drop i).take k).toArray:=by
 have e:(fun(m:Nat)=>xs[((i:Int)+(m:Int)*1).toNat]?)=fun m=>xs[i+m]? :=by
  funext m
  have:((i:Int)+(m:Int)*1).toNat=i+m:=by omega
  rw[this]
 rw[e]
 have:=pick_run xs i k
 rw[List.filterMap_map]at this
 have e2:((fun x=>xs[x]?)∘fun x=>i+x)=fun m=>xs[i+m]? :=rfl
 rw[e2]at this
 rw[this]
theorem getItem_tuple_cut{t sl:Addr}{items:Array Value}{vl vu:Value}{lo hi:Option Int}{Q:Value->Shared->Prop}(ht:IsTup s.heap t items)(hs:s.heap.IsSliceOf sl vl vu .none)(pl:IsPart vl lo)(pu:IsPart vu hi)(hw:¬(sIx items.size 0 lo=0/\sIx items.size items.size hi=items.size))(h:Q (.ref s.heap.objs.size) {s with heap:=s.heap.push {cls:= .type "tuple",data:= .seq ((items.toList.drop (sIx items.size 0 lo)).take (sIx items.size items.size hi-sIx items.size 0 lo)).toArray}})(hsz:items.size<=sizeLine):wpAny (model prog w) A (getItem (.ref t) (.ref sl)) Q E s:=by
 have htake:sizeOk (.seq ((items.toList.drop (sIx items.size 0 lo)).take (sIx items.size items.size hi-sIx items.size 0 lo)).toArray):=by
  show((items.toList.drop (sIx items.size 0 lo)).take (sIx items.size items.size hi-sIx items.size 0 lo)).toArray.size<=sizeLine
  rw[List.size_toArray,List.length_take,List.length_drop,Array.length_toList]
  omega
 have hj:sIx items.size items.size hi<=items.size:=sIx_le _ _ (Nat.le_refl _) hi
 obtain⟨os,hos,hcs,hds⟩:=id hs
 have hTs:s.TypeIs (.ref sl) "slice":=⟨os,hos,hcs⟩
 unfold getItem
 try with_reducible refine wpAny_holding ?_
 first |refine wpAny_bind (wpAny_pure ?_)|skip
 refine wpAny_bind (wpAny_sequenceKey ht.typeIs (by decide) ?_)
 refine wpAny_bind (wpAny_callSpecial?_slot (name:=Str.ofString "__getitem__") ht.typeIs PyProof.Rows.slot_tuple_getitem
  (wpAny_call_entry PyProof.Rows.slot_tuple_getitem ht.typeIs entry_tuple_getitem ?_ (args_tuple_getitem _ _)))
 show wpAny _ _ (Builtin.Tuple.tupleItemsOf (.ref t)>>=_) _ _ s
 refine wpAny_bind (tupleItemsOf_ ht ?_)
 refine wpAny_bind (wpAny_typeOf hTs ?_)
 rw[if_pos (by decide)]
 refine wpAny_bind (sliceApplied_gen hs pl pu ?_)
 have hno:¬((((sIx items.size 0 lo:Nat):Int)==0&&(1:Int)==1&&(sIx items.size items.size hi-sIx items.size 0 lo)==items.size)=true):=by
  intro q
  rw[Bool.and_eq_true,Bool.and_eq_true]at q
  have q1:((sIx items.size 0 lo:Nat):Int)=0:=eq_of_beq q.1.1
  have q2:sIx items.size items.size hi-sIx items.size 0 lo=items.size:=eq_of_beq q.2
  exact hw ⟨by omega,by omega⟩
 show wpAny _ _ (if(((sIx items.size 0 lo:Nat):Int)==0&&(1:Int)==1&&(sIx items.size items.size hi-sIx items.size 0 lo)==items.size)=true then _ else _) _ _ s
 rw[if_neg hno,pick_gen]
 first
  |exact wpAny_bind (m:=Builtin.Tuple.tupleExact _) (wpAny_newObj_type (wpAny_pure ⟨_,rfl,wpAny_pure h⟩) htake)
  |exact wpAny_bind (m:=Builtin.Tuple.tupleExact _) (wpAny_newObj_type (wpAny_bind (wpAny_pure (wpAny_pure ⟨_,rfl,wpAny_pure h⟩))) htake)
  |exact wpAny_bind (wpAny_bind (m:=Builtin.Tuple.tupleExact _) (wpAny_newObj_type (wpAny_pure (wpAny_pure ⟨_,rfl,wpAny_pure h⟩)) htake))
  |exact wpAny_bind (wpAny_bind (m:=Builtin.Tuple.tupleExact _) (wpAny_newObj_type (wpAny_pure ⟨_,rfl,wpAny_pure h⟩) htake))
end
end HT
namespace L2
open PySem PySem.Spec PyProof.Rows
noncomputable abbrev TO:=St->Hp->(Option Int->Hp->Prop)->Prop
noncomputable def PO(X:Cx)(e:Option Expr)(t:TO):Prop:=
 ∀(pins:List (Addr×Obj)) (s:Shared) (σ:St) (H:Hp) (Q:Option Int->Hp->Prop),Inv X pins σ H s->t σ H Q->
  wpAny (model X.prog X.w) X.A (evalPart e X.env) (fun u s'=>∃o H',Inv X pins σ H' s'/\IsPart u o/\Q o H') X.xe s
noncomputable def tNoPart:TO:=fun _ H Q=>Q none H
noncomputable def tPart(t:TE):TO:=fun σ H Q=>t σ H fun x H1=>∃i,x= .int i/\Q (some i) H1
theorem zda{ns:List Int}:∀{us:List Value},Vals (ns.map V.int) us->IntsAre us ns:=by
 induction ns with
 |nil=>intro us r;rw[List.map_nil]at r;cases r;exact .nil
 |cons n ns ih=>
  intro us r
  rw[List.map_cons]at r
  cases r with
  |cons r1 r2=>
   obtain⟨t,e⟩:=r1
   subst e
   exact .cons n t (ih r2)
section
variable{X:Cx}{e:Expr}{te:TE}{lo hi:Option Expr}{tl th:TO}{pos p2:Pos}
theorem po_none:PO X none tNoPart:=by
 intro pins s σ H Q I h
 rw[evalPart_none]
 exact wpAny_pure ⟨none,H,I,.none,h⟩
theorem po_some(h:PE X e te):PO X (some e) (tPart te):=by
 intro pins s σ H Q I hw
 rw[evalPart_some]
 refine thn (h pins s σ H _ I hw) fun u s1 ⟨x,H1,I1,r1,q1⟩=> ?_
 obtain⟨i,rfl,q⟩:=q1
 obtain⟨t,rfl⟩:=r1
 exact⟨some i,H1,I1,.int i t,q⟩
noncomputable def SlR(X:Cx)(r:V->Option Int->Option Int->Hp->VK->Prop):Prop:=
 ∀(pins:List (Addr×Obj)) (s:Shared) (σ:St) (H:Hp) (x:V) (v vl vu:Value) (lo hi:Option Int) (sl:Addr) (Q:VK),Inv X pins σ H s->RelV x v->s.heap.IsSliceOf sl vl vu .none->IsPart vl lo->IsPart vu hi->r x lo hi H Q->
  ∃T id,typeLookup (.type T) "__getitem__"=pure (some (.builtin id))/\s.TypeIs v T/\wpAny (model X.prog X.w) X.A (getItem v (.ref sl)) (EP X pins σ Q) X.xe s
theorem SlR.or{r r':V->Option Int->Option Int->Hp->VK->Prop}(h:SlR X r)(h':SlR X r'):SlR X (fun x lo hi H Q=>r x lo hi H Q\/r' x lo hi H Q):=by
 intro pins s σ H x v vl vu lo hi sl Q I rx hs pl pu q
 rcases q with q|q
 ·exact h pins s σ H x v vl vu lo hi sl Q I rx hs pl pu q
 ·exact h' pins s σ H x v vl vu lo hi sl Q I rx hs pl pu q
noncomputable def tSl(r:V->Option Int->Option Int->Hp->VK->Prop)(te:TE)(tl th:TO):TE:=fun σ H Q=>te σ H fun x H1=>tl σ H1 fun l H2=>th σ H2 fun u H3=>r x l u H3 Q
theorem pe_slice{r:V->Option Int->Option Int->Hp->VK->Prop}(hr:SlR X r)(he:PE X e te)(hl:PO X lo tl)(hu:PO X hi th):PE X (.Subscript e (.Slice lo hi none p2) pos) (tSl r te tl th):=by
 intro pins s σ H Q I h
 refine Subscript_ (thn (he pins s σ H _ I h) fun v s1 ⟨x,H1,I1,r1,q1⟩=> ?_)
 refine wpAny_Slice (thn (hl pins s1 σ H1 _ I1 q1) fun vl s2 ⟨l,H2,I2,pl,q2⟩=>thn (hu pins s2 σ H2 _ I2 q2) fun vu s3 ⟨u,H3,I3,pu,q3⟩=> ?_)
 rw[evalPart_none]
 refine wpAny_pure ?_
 have I4:Inv X pins σ H3 {s3 with heap:=s3.heap.push {cls:= .type "slice",data:= .fields #[vl,vu,.none]}}:=I3.kept (t':=s3.toks) fun b ob q=>Heap.get?_push_of_some _ q
 obtain⟨T,id,hT,ht,hg⟩:=hr pins {s3 with heap:=s3.heap.push {cls:= .type "slice",data:= .fields #[vl,vu,.none]}} σ H3 x v vl vu l u s3.heap.objs.size Q I4 r1 (Heap.IsSliceOf.new ..) pl pu q3
 show wpAny (model X.prog X.w) X.A (subscriptTail e (.Slice lo hi none p2) v (.ref s3.heap.objs.size)) (EP X pins σ Q) X.xe {s3 with heap:=s3.heap.push {cls:= .type "slice",data:= .fields #[vl,vu,.none]}}
 exact tail_any (ops:=[.ref s3.heap.objs.size,v]) ht hT hg (by with_unfolding_all rfl)
noncomputable def cutV(xs:List V)(lo hi:Option Int):List V:=(xs.drop (HT.sIx xs.length 0 lo)).take (HT.sIx xs.length xs.length hi-HT.sIx xs.length 0 lo)
theorem cutV_length(xs:List V)(lo hi:Option Int):(cutV xs lo hi).length<=xs.length:=by
 unfold cutV
 rw[List.length_take,List.length_drop]
 omega
noncomputable def rSlT(K:W.Frag):V->Option Int->Option Int->Hp->VK->Prop:=fun x lo hi H Q=>∃a xs,x= .ref a/\SqT K H a xs/\
 ¬(HT.sIx xs.length 0 lo=0/\HT.sIx xs.length xs.length hi=xs.length)/\∀p,H p=none->Q (.ref p) (upd H p (.tup (cutV xs lo hi)))
theorem sl_tup:SlR X (rSlT X.K):=by
 intro pins s σ H x v vl vu lo hi sl Q I rx hs pl pu h
 obtain⟨a,xs,rfl,hx,hw,q⟩:=h
 cases rx
 obtain⟨its,r,ht,hz⟩:=I.tuple hx
 have hlen:its.toArray.size=xs.length:=by rw[List.size_toArray];exact r.length.symm
 refine⟨"tuple",_,PyProof.Rows.slot_tuple_getitem.lookup,ht.typeIs,?_⟩
 refine HT.getItem_tuple_cut ht hs pl pu (by rw[hlen];exact hw) ?_ (by rw[hlen];exact hz)
 rw[hlen]
 refine⟨.ref s.heap.objs.size,_,I.laid (t':=s.toks) (o:= .tup (cutV xs lo hi)) (fun b ob q=>Heap.get?_push_of_some _ q) (Nat.le_refl _) ?_,rfl,q _ (I.hok.fresh (Nat.le_refl _))⟩
 exact⟨Nat.le_trans (cutV_length xs lo hi) hz,_,(r.drop (HT.sIx xs.length 0 lo)).take (HT.sIx xs.length xs.length hi-HT.sIx xs.length 0 lo),IsTup.new _ _⟩
noncomputable def rLtT(K:W.Frag):R2:=fun x y H Q=>∃a b ns ms,x= .ref a/\y= .ref b/\SqT K H a (ns.map V.int)/\SqT K H b (ms.map V.int)/\Q (.bl (HT.lexLt ns ms)) H
theorem op_ltT(hu:X.A.units<cLine):OpR X (compareOp .Lt) (rLtT X.K):=by
 intro pins s σ H x y v u Q I rx ry h
 obtain⟨a,b,ns,ms,rfl,rfl,ha,hb,q⟩:=h
 cases rx
 cases ry
 obtain⟨its,r1,p1,_⟩:=I.tuple ha
 obtain⟨its2,r2,p2,_⟩:=I.tuple hb
 have i1:IntsAre its.toArray.toList ns:=zda r1
 have i2:IntsAre its2.toArray.toList ms:=zda r2
 exact HT.lt_tupInts p1 p2 i1 i2 hu ⟨.bl (HT.lexLt ns ms),H,I,rfl,q⟩
noncomputable def rCatT(K:W.Frag):R2:=fun x y H Q=>∃a b xs ys,x= .ref a/\y= .ref b/\SqT K H a xs/\SqT K H b ys/\xs≠[]/\xs.length+ys.length<=sizeLine/\
 (ys=[]->Q (.ref a) H)/\(ys≠[]->∀p,H p=none->Q (.ref p) (upd H p (.tup (xs++ys))))
theorem Vals.nil_iff{xs:List V}{us:List Value}(r:Vals xs us):us=[]↔xs=[]:=by
 cases r with
 |nil=>simp
 |cons _ _=>simp
theorem op_catT:OpR X (binaryOp .Add) (rCatT X.K):=by
 intro pins s σ H x y v u Q I rx ry h
 obtain⟨a,b,xs,ys,rfl,rfl,ha,hb,hx,hz,q1,q2⟩:=h
 cases rx
 cases ry
 obtain⟨its,r1,p1,_⟩:=I.tuple ha
 obtain⟨its2,r2,p2,_⟩:=I.tuple hb
 refine HT.cat_tup p1 p2 (fun z=>hx (r1.nil_iff.mp z)) (fun z=>⟨.ref a,H,I,rfl,q1 (r2.nil_iff.mp z)⟩) (fun z=> ?_) (by rw[<-r1.length,<-r2.length];exact hz)
 refine⟨.ref s.heap.objs.size,_,I.laid (t':=s.toks) (o:= .tup (xs++ys)) (fun b ob q=>Heap.get?_push_of_some _ q) (Nat.le_refl _) ?_,rfl,q2 (fun w=>z (r2.nil_iff.mpr w)) _ (I.hok.fresh (Nat.le_refl _))⟩
 exact⟨by rw[List.length_append];exact hz,_,r1.append r2,IsTup.new _ _⟩
end
end L2
namespace L2
open PySem PySem.Spec PyProof.Rows
noncomputable def ixN(n:Nat)(i:Int):Option Nat:=if 0<=i then(if i<n then some i.toNat else none)else if -(n:Int)<=i then some (i+n).toNat else none
noncomputable def atI{α:Type}(xs:List α)(i:Int):Option α:=(ixN xs.length i).bind fun j=>xs[j]?
theorem ixN_seq{n:Nat}{i:Int}{j:Nat}(h:ixN n i=some j):seqIndex? i n=some j/\j<n/\ -(n:Int)<=i/\i<n:=by
 unfold ixN at h
 by_cases h0:0<=i
 ·rw[if_pos h0]at h
  by_cases h1:i<n
  ·rw[if_pos h1]at h
   have e:i.toNat=j:=Option.some.inj h
   exact⟨by rw[seqIndex_of h0 h1,e],by omega,by omega,h1⟩
  ·rw[if_neg h1]at h;cases h
 ·rw[if_neg h0]at h
  by_cases h1: -(n:Int)<=i
  ·rw[if_pos h1]at h
   have e:(i+n).toNat=j:=Option.some.inj h
   exact⟨by rw[seqIndex_neg (by omega) h1,e],by omega,h1,by omega⟩
  ·rw[if_neg h1]at h;cases h
theorem atI_get{α:Type}{xs:List α}{i:Int}{v:α}(h:atI xs i=some v):∃j,seqIndex? i xs.length=some j/\xs[j]? =some v/\j<xs.length/\ -(xs.length:Int)<=i/\i<xs.length:=by
 unfold atI at h
 cases e:ixN xs.length i with
 |none=>rw[e]at h;cases h
 |some j=>
  rw[e]at h
  obtain⟨h1,h2,h3,h4⟩:=ixN_seq e
  exact⟨j,h1,h,h2,h3,h4⟩
theorem atI_nat{α:Type}{xs:List α}{j:Nat}{v:α}(h:xs[j]? =some v):atI xs (j:Int)=some v:=by
 have hj:j<xs.length:=(List.getElem?_eq_some_iff.mp h).1
 have e:ixN xs.length (j:Int)=some j:=by
  unfold ixN
  rw[if_pos (by omega),if_pos (by omega)];simp
 unfold atI;rw[e];exact h
theorem atI_last{α:Type}(xs:List α)(v:α):atI (xs++[v]) (-1)=some v:=by
 have hl:(xs++[v]).length=xs.length+1:=by simp
 have e:ixN (xs++[v]).length (-1)=some xs.length:=by
  unfold ixN
  rw[hl,if_neg (by decide),if_pos (by omega)]
  congr 1
  omega
 unfold atI
 rw[e]
 show(xs++[v])[xs.length]? =some v
 simp
noncomputable def PlainIx(b:Expr):Prop:=∀o i,subscripted b false o i=operate [o,i] (getItem o i)
noncomputable def IxR(X:Cx)(r:R2):Prop:=
 ∀(value slice:Expr) (pins:List (Addr×Obj)) (s:Shared) (σ:St) (H:Hp) (x y:V) (v u:Value) (Q:VK),Inv X pins σ H s->RelV x v->RelV y u->r x y H Q->
  subscripted slice false v u=operate [v,u] (getItem v u)->wpAny (model X.prog X.w) X.A (subscriptTail value slice v u) (EP X pins σ Q) X.xe s
noncomputable def MtR(X:Cx)(id:String)(r:V->List V->Hp->VK->Prop):Prop:=
 ∀(pins:List (Addr×Obj)) (s:Shared) (σ:St) (H:Hp) (x:V) (xs:List V) (v:Value) (us:List Value) (Q:VK),Inv X pins σ H s->RelV x v->Vals xs us->r x xs H Q->
  wpAny (model X.prog X.w) X.A (call (.builtin id) (v::us)) (EP X pins σ Q) X.xe s
section
variable{X:Cx}{a b:Expr}{ta tb:TE}{pos:Pos}
theorem IxR.or{r r':R2}(h:IxR X r)(h':IxR X r'):IxR X (fun x y H Q=>r x y H Q\/r' x y H Q):=by
 intro value slice pins s σ H x y v u Q I rx ry q hs
 rcases q with q|q
 ·exact h value slice pins s σ H x y v u Q I rx ry q hs
 ·exact h' value slice pins s σ H x y v u Q I rx ry q hs
theorem MtR.or{id:String}{r r':V->List V->Hp->VK->Prop}(h:MtR X id r)(h':MtR X id r'):MtR X id (fun x xs H Q=>r x xs H Q\/r' x xs H Q):=by
 intro pins s σ H x xs v us Q I rx rs q
 rcases q with q|q
 ·exact h pins s σ H x xs v us Q I rx rs q
 ·exact h' pins s σ H x xs v us Q I rx rs q
theorem zan{r:R2}(hr:IxR X r)(ha:PE X a ta)(hb:PE X b tb)(hs:PlainIx b):PE X (.Subscript a b pos) (tOp r ta tb):=by
 intro pins s σ H Q I h
 exact Subscript_ (binT ha hb I h fun v u s2 x y H2 I2 rx ry q=>hr a b pins s2 σ H2 x y v u Q I2 rx ry q (hs _ _))
noncomputable def rIxL(K:W.Frag):R2:=fun x y H Q=>∃p xs i v,x= .ref p/\y= .int i/\SqL K H p xs/\atI xs i=some v/\Q v H
noncomputable def rIxT(K:W.Frag):R2:=fun x y H Q=>∃p xs i v,x= .ref p/\y= .int i/\SqT K H p xs/\atI xs i=some v/\Q v H
theorem zce:IxR X (rIxL X.K):=by
 intro value slice pins s σ H x y v u Q I rx ry h hs
 obtain⟨p,xs,i,z,rfl,rfl,hq,he,q⟩:=h
 cases rx
 obtain⟨t,rfl⟩:=ry
 obtain⟨its,r,pl,hz⟩:=I.list hq
 obtain⟨j,h1,h2,h3,h4,h5⟩:=atI_get he
 obtain⟨w,ew,rw'⟩:=r.get h2
 have hl:=r.length
 have hn:=line63
 have fin:EP X pins σ Q w s:=⟨z,H,I,rw',q⟩
 by_cases h0:0<=i
 ·have hj:i.toNat=j:=by
   rw[seqIndex_of h0 h5]at h1
   exact Option.some.inj h1
  exact item_listR pl.isList h0 (by omega) (by rw[hj];simpa using ew) fin hs
 ·have hj:(i+(its.toArray.size:Int)).toNat=j:=by
   rw[seqIndex_neg (by omega) h4]at h1
   rw[List.size_toArray,<-hl]
   exact Option.some.inj h1
  exact subscriptTail_builtinR (x:=w) pl.isList.typeIs slot_list_getitem.lookup
   (wpAny_getItem_list_neg (Q:=fun r s'=>r=w/\EP X pins σ Q r s') pl.isList (by omega) (by rw[List.size_toArray]<;>omega) (by omega) (by rw[hj];simpa using ew) ⟨rfl,fin⟩) hs
theorem zaw:IxR X (rIxT X.K):=by
 intro value slice pins s σ H x y v u Q I rx ry h hs
 obtain⟨p,xs,i,z,rfl,rfl,hq,he,q⟩:=h
 cases rx
 obtain⟨t,rfl⟩:=ry
 obtain⟨its,r,pl,hz⟩:=I.tuple hq
 obtain⟨j,h1,h2,h3,h4,h5⟩:=atI_get he
 obtain⟨w,ew,rw'⟩:=r.get h2
 have hl:=r.length
 have hn:=line63
 have fin:EP X pins σ Q w s:=⟨z,H,I,rw',q⟩
 exact subscriptTail_builtinR (x:=w) pl.typeIs slot_tuple_getitem.lookup
  (getItem_tuple (j:=j) (Q:=fun r s'=>r=w/\EP X pins σ Q r s') pl (by omega) (by omega) (by rw[List.size_toArray,<-hl];exact h1) (by simpa using ew) ⟨rfl,fin⟩) hs
theorem mapSeq_set(its:List Value)(n j:Nat)(u:Value):Obj.mapSeq (·.setIfInBounds j u) {cls:= .type "list",data:= .seq its.toArray n}={cls:= .type "list",data:= .seq (its.set j u).toArray n}:=by
 simp[Obj.mapSeq]
theorem Inv.lst{pins:List (Addr×Obj)}{σ:St}{H:Hp}{s:Shared}{p:Addr}{xs:List V}(I:Inv X pins σ H s)(h:H p=some (.lst xs)):
  ∃(its:List Value) (n:Nat),Vals xs its/\s.heap.get? p=some {cls:= .type "list",data:= .seq its.toArray n}/\xs.length<=sizeLine:=by
 obtain⟨z,its,n,r,e⟩:=I.hok p _ h
 exact⟨its,n,r,e,z⟩
theorem Inv.lstUpd{pins:List (Addr×Obj)}{σ:St}{H:Hp}{s:Shared}{p:Addr}{xs ys:List V}{its its':List Value}{n n':Nat}{f:Obj->Obj}(I:Inv X pins σ H s)(h:H p=some (.lst xs))(ho:s.heap.get? p=some {cls:= .type "list",data:= .seq its.toArray n})(hf:f {cls:= .type "list",data:= .seq its.toArray n}={cls:= .type "list",data:= .seq its'.toArray n'})(r:Vals ys its')(hz:ys.length<=sizeLine)(t:Nat):
  Inv X pins σ (upd H p (.lst ys)) {s with heap:=s.heap.update p f,toks:=t}:=by
 have e:(s.heap.update p f).get? p=some {cls:= .type "list",data:= .seq its'.toArray n'}:=by
  rw[Heap.get?_update_self f ho (by rw[hf]<;>rfl),hf]
 refine I.write (x:=p) (e:=p) (by rw[h];trivial) (.inl rfl) (fun b u hb q=>(Heap.get?_update_other _ _ (Ne.symm hb)).trans q) ⟨_,e⟩ ?_
 exact⟨hz,its',n',r,e⟩
noncomputable def rSetL:V->V->V->Hp->(Hp->Prop)->Prop:=fun o i v H Q=>∃p xs k j,o= .ref p/\i= .int k/\H p=some (.lst xs)/\ixN xs.length k=some j/\Q (upd H p (.lst (xs.set j v)))
theorem set_list:PSet X rSetL:=by
 intro pins s σ H o i v ov iv u Q I ro ri rv h
 obtain⟨p,xs,k,j,rfl,rfl,hp,hj,q⟩:=h
 cases ro
 obtain⟨t,rfl⟩:=ri
 obtain⟨its,n,r,ho,hz⟩:=I.lst hp
 obtain⟨h1,h2,h3,h4⟩:=ixN_seq hj
 have hl:=r.length
 have hn:=line63
 have I':Inv X pins σ (upd H p (.lst (xs.set j v))) {s with heap:=s.heap.update p (Obj.mapSeq (·.setIfInBounds j u))}:=
  I.lstUpd hp ho (mapSeq_set its n j u) (r.set rv j) (by rw[List.length_set];exact hz) s.toks
 by_cases h0:0<=k
 ·have hk:k.toNat=j:=by
   rw[seqIndex_of h0 h4]at h1
   exact Option.some.inj h1
  exact PySem.W.ki_setAt ho h0 (by omega) (by rw[List.size_toArray,<-hl];exact h4) (by rw[hk];exact⟨_,I',q⟩)
 ·have hk:(k+(its.toArray.size:Int)).toNat=j:=by
   rw[seqIndex_neg (by omega) h3]at h1
   rw[List.size_toArray,<-hl]
   exact Option.some.inj h1
  exact PySem.W.ki_setBack ho (by omega) (by rw[List.size_toArray,<-hl];exact h3) (by omega) (by rw[hk];exact⟨_,I',q⟩)
theorem slice_bounds(lo hi:Option Int)(n:Nat):(sliceBounds lo hi none n).1=((HT.sIx n 0 lo:Nat):Int)/\(sliceBounds lo hi none n).2.1=((HT.sIx n n hi:Nat):Int)/\(sliceBounds lo hi none n).2.2=1:=by
 refine⟨?_,?_,rfl⟩
 ·cases lo with
  |none=>simp[sliceBounds,HT.sIx]
  |some i=>
   simp only[sliceBounds,HT.sIx,Option.getD_none,show(1:Int)>0 by decide,if_true]
   by_cases h:i<0
   ·simp only[h,if_true]<;>omega
   ·simp only[h,if_false]<;>omega
 ·cases hi with
  |none=>simp[sliceBounds,HT.sIx]
  |some i=>
   simp only[sliceBounds,HT.sIx,Option.getD_none,show(1:Int)>0 by decide,if_true]
   by_cases h:i<0
   ·simp only[h,if_true]<;>omega
   ·simp only[h,if_false]<;>omega
theorem slicePick_cut(its:List Value)(lo hi:Option Int):slicePick its.toArray lo hi none=((its.drop (HT.sIx its.length 0 lo)).take (HT.sIx its.length its.length hi-HT.sIx its.length 0 lo)).toArray:=by
 obtain⟨h1,h2,h3⟩:=slice_bounds lo hi its.toArray.size
 unfold slicePick
 rw[h1,h2,h3]
 simp only[sliceRange_one,pick_run,List.size_toArray]<;>rfl
noncomputable def rSlL(K:W.Frag):V->Option Int->Option Int->Hp->VK->Prop:=fun x lo hi H Q=>∃a xs,x= .ref a/\SqL K H a xs/\∀p,H p=none->Q (.ref p) (upd H p (.lst (cutV xs lo hi)))
theorem sl_list:SlR X (rSlL X.K):=by
 intro pins s σ H x v vl vu lo hi sl Q I rx hs pl pu h
 obtain⟨a,xs,rfl,hx,q⟩:=h
 cases rx
 obtain⟨its,r,ht,hz⟩:=I.list hx
 have hlen:=r.length
 refine⟨"list",_,slot_list_getitem.lookup,ht.isList.typeIs,?_⟩
 refine wpAny_getItem_list_slice ht.isList hs pl pu .none (by simp) ?_ (by rw[List.size_toArray]<;>omega)
 rw[slicePick_cut,<-hlen]
 refine⟨.ref s.heap.objs.size,_,I.laid (t':=s.toks) (o:= .lst (cutV xs lo hi)) (fun b ob q=>Heap.get?_push_of_some _ q) (Nat.le_refl _) ?_,rfl,q _ (I.hok.fresh (Nat.le_refl _))⟩
 exact⟨Nat.le_trans (cutV_length xs lo hi) hz,_,0,(r.drop (HT.sIx xs.length 0 lo)).take (HT.sIx xs.length xs.length hi-HT.sIx xs.length 0 lo),Heap.get?_push_size _ rfl⟩
theorem call_len_seq:CallR X (.builtin "len") (fun xs H Q=>∃p ys,xs=[.ref p]/\(SqL X.K H p ys\/SqT X.K H p ys)/\Q (.int ys.length) H):=by
 intro pins s σ H xs us Q I r h
 obtain⟨p,ys,rfl,hq,q⟩:=h
 obtain⟨u,rfl,rx⟩:=vals1 r
 cases rx
 have hn:=line63
 rcases hq with hq|hq
 ·obtain⟨its,r',pl,hz⟩:=I.list hq
  have hlen:=r'.length
  exact Calls.call_len_list pl.isList (by simp only[List.size_toArray]<;>omega) ⟨.int ys.length,H,I.tok _,⟨s.toks+1,by rw[List.size_toArray,hlen]⟩,q⟩
 ·obtain⟨its,r',pl,hz⟩:=I.tuple hq
  have hlen:=r'.length
  exact len_tuple pl (by simp only[List.size_toArray]<;>omega) ⟨.int ys.length,H,I.tok _,⟨s.toks+1,by rw[List.size_toArray,hlen]⟩,q⟩
theorem CallR.or{f:Value}{r r':List V->Hp->VK->Prop}(h:CallR X f r)(h':CallR X f r'):CallR X f (fun xs H Q=>r xs H Q\/r' xs H Q):=by
 intro pins s σ H xs us Q I rs q
 rcases q with q|q
 ·exact h pins s σ H xs us Q I rs q
 ·exact h' pins s σ H xs us Q I rs q
theorem call_list_of:CallR X (.type "list") (fun xs H Q=>∃p ys,xs=[.ref p]/\(SqL X.K H p ys\/SqT X.K H p ys)/\∀l,H l=none->Q (.ref l) (upd H l (.lst ys))):=by
 intro pins s σ H xs us Q I r h
 obtain⟨p,ys,rfl,hq,q⟩:=h
 obtain⟨u,rfl,rx⟩:=vals1 r
 cases rx
 have fin:∀(its:List Value),Vals ys its->ys.length<=sizeLine->∀(h':Heap) (c':Nat),(∀b o',s.heap.get? b=some o'->h'.get? b=some o')->
   h'.get? s.heap.objs.size=some {cls:= .type "list",dict:=none,data:= .seq its.toArray c',slots:=#[]}->EP X pins σ Q (.ref s.heap.objs.size) {s with heap:=h'}:=fun its r' hz h' c' kp e=>
  ⟨.ref s.heap.objs.size,_,I.laid (t':=s.toks) kp (Nat.le_refl _) (show ObjOk X.prog X.w _ h' _ (.lst ys)from⟨hz,its,c',r',e⟩),rfl,q _ (I.hok.fresh (Nat.le_refl _))⟩
 rcases hq with hq|hq
 ·obtain⟨its,r',pl,hz⟩:=I.list hq
  have hlen:=r'.length
  obtain⟨o,ho,hc,n,hd⟩:=pl.isList
  exact call_list_seq p (.inl rfl) ho hc hd (fun h' c' kp e=>fin its r' hz h' c' kp e) (by simp only[List.size_toArray]<;>omega)
 ·obtain⟨its,r',pl,hz⟩:=I.tuple hq
  have hlen:=r'.length
  obtain⟨o,ho,hc,n,hd⟩:=pl
  exact call_list_seq p (.inr rfl) ho hc hd (fun h' c' kp e=>fin its r' hz h' c' kp e) (by simp only[List.size_toArray]<;>omega)
theorem zav:CallR X (.type "tuple") (fun xs H Q=>∃p ys,xs=[.ref p]/\((SqL X.K H p ys/\∀l,H l=none->Q (.ref l) (upd H l (.tup ys)))\/(SqT X.K H p ys/\Q (.ref p) H))):=by
 intro pins s σ H xs us Q I r h
 obtain⟨p,ys,rfl,h⟩:=h
 obtain⟨u,rfl,rx⟩:=vals1 r
 cases rx
 rcases h with⟨hq,q⟩|⟨hq,q⟩
 ·obtain⟨its,r',pl,hz⟩:=I.list hq
  have hlen:=r'.length
  refine call_tuple_list pl.isList (fun h' kp=> ?_) (by simp only[List.size_toArray]<;>omega)
  have I1:Inv X pins σ H {s with heap:=h'}:=I.kept (t':=s.toks) kp
  have I2:Inv X pins σ (upd H h'.objs.size (.tup ys)) {s with heap:=h'.push {cls:= .type "tuple",data:= .seq its.toArray}}:=
   I1.laid (t':=s.toks) (fun b o e=>Heap.get?_push_of_some _ e) (Nat.le_refl _) (show ObjOk X.prog X.w _ _ _ (.tup ys)from⟨hz,its,r',IsTup.new _ _⟩)
  exact⟨.ref h'.objs.size,_,I2,rfl,q _ (I1.hok.fresh (Nat.le_refl _))⟩
 ·obtain⟨its,r',pl,hz⟩:=I.tuple hq
  exact call_tuple_same pl ⟨.ref p,H,I,rfl,q⟩
noncomputable def tyV(K:W.Frag)(T:String)(x:V)(H:Hp):Prop:=match x with
 | .str _=>T="str"
 | .int _=>T="int"
 | .ref p=>(T="list"/\∃xs,SqL K H p xs)\/(T="tuple"/\∃o,K.lookup p=some o/\o.cls= .type "tuple"/\o.dict=none)\/
   (T="dict"/\((∃kvs,H p=some (.dK kvs))\/∃kvs,H p=some (.dT kvs)))\/(T="set"/\∃S n,H p=some (.set S n))
 |_=>False
theorem tyV_is{pins:List (Addr×Obj)}{σ:St}{H:Hp}{s:Shared}{T:String}{x:V}{v:Value}(I:Inv X pins σ H s)(r:RelV x v)(ty:tyV X.K T x H):
  s.TypeIs v T/\∀a,v= .ref a->∃ob,s.heap.get? a=some ob/\ob.dict=none:=by
 cases x with
 |str z=>
  obtain⟨t,rfl⟩:=r
  cases(show T="str" from ty)
  exact⟨typeIs_str s z t,fun _ e=>nomatch e⟩
 |int i=>
  obtain⟨t,rfl⟩:=r
  cases(show T="int" from ty)
  exact⟨typeIs_int s i t,fun _ e=>nomatch e⟩
 |ref p=>
  cases r
  rcases ty with⟨rfl,xs,hq⟩|⟨rfl,o,hk,hc,hd⟩|⟨rfl,hk⟩|⟨rfl,S,n,hk⟩
  ·obtain⟨its,_,pl,_⟩:=I.list hq
   refine⟨pl.isList.typeIs,fun a e=> ?_⟩
   cases e
   obtain⟨o,n,e,c,hd,_⟩:=pl
   exact⟨o,e,hd⟩
  ·refine⟨⟨o,I.kIn p o hk,hc⟩,fun a e=> ?_⟩
   cases e
   exact⟨o,I.kIn _ o hk,hd⟩
  ·have z:∃o,s.heap.get? p=some o/\o.ExactDict:=by
    rcases hk with⟨kvs,hk⟩|⟨kvs,hk⟩
    ·obtain⟨_,_,_,_,o,_,_,e,ex,_⟩:=I.hok p _ hk
     exact⟨o,e,ex⟩
    ·obtain⟨_,_,_,_,o,_,_,e,ex,_⟩:=I.hok p _ hk
     exact⟨o,e,ex⟩
   obtain⟨o,e,ex⟩:=z
   refine⟨⟨o,e,ex.1⟩,fun a e2=> ?_⟩
   cases e2
   exact⟨o,e,ex.2.1⟩
  ·obtain⟨o,_,_,_,e,ex,_⟩:=I.hok p _ hk
   refine⟨⟨o,e,ex.1⟩,fun a e2=> ?_⟩
   cases e2
   exact⟨o,e,ex.2.1⟩
 |_=>exact False.elim ty
noncomputable def tBM0(K:W.Frag)(T:String)(r:V->List V->Hp->VK->Prop)(to:TE):TE:=fun σ H Q=>to σ H fun x H1=>tyV K T x H1/\r x [] H1 Q
noncomputable def tBM(K:W.Frag)(T:String)(r:V->List V->Hp->VK->Prop)(to:TE)(t:TA):TE:=fun σ H Q=>to σ H fun x H1=>tyV K T x H1/\t σ H1 fun xs H2=>r x xs H2 Q
variable{o e:Expr}{es:List Expr}{to:TE}{t:TA}{name:Str}{apos cpos:Pos}{T id:String}{r:V->List V->Hp->VK->Prop}
theorem pe_bm0(pa:PlainAttrs T)(slot:Slot T name id)(hty:typeOf (.builtin id)=pure (.type "method_descriptor"))(hm:MtR X id r)(ho:PE X o to)(hbase:attributeBase o name X.env (eval o X.env)=eval o X.env:=by rfl)(hline:(apos.endLine==cpos.line)=true:=by rfl):PE X (.Call (.Attribute o name apos) [] [] cpos) (tBM0 X.K T r to):=by
 intro pins s σ H Q I h
 refine wpAny_Call_method0_late hbase hline (thn (ho pins s σ H _ I h) fun v s1 ⟨x,H1,I1,r1,ty,q1⟩=> ?_)
 obtain⟨h1,h2⟩:=tyV_is I1 r1 ty
 exact⟨T,id,pa,slot,hty,h1,h2,Calls.callWith_builtin rfl (PySem.evalArgs_none (hm pins s1 σ H1 x [] v [] Q I1 r1 .nil q1))⟩
theorem pe_bm(pa:PlainAttrs T)(slot:Slot T name id)(hty:typeOf (.builtin id)=pure (.type "method_descriptor"))(hm:MtR X id r)(ho:PE X o to)(ha:PA X (e::es) t)(hbase:attributeBase o name X.env (eval o X.env)=eval o X.env:=by rfl)(hfew:((backTo cpos (starEach (e::es) X.env)).all (fun x=> !x.1)&&(backToKw cpos (keywordEach [] X.env)).all (fun x=>x.1.isSome)
   &&decide ((e::es).length+([]:List Keyword).length+(if([]:List Keyword).isEmpty then 0 else 1)<30))=true:=by rfl)(hline:(apos.endLine==cpos.line)=true:=by rfl)(hs:starEach (e::es) X.env=(false,eval e X.env)::starEach es X.env:=by rfl)(hplain:(backTo cpos (starEach es X.env)).any (·.1)=false:=by rfl):
  PE X (.Call (.Attribute o name apos) (e::es) [] cpos) (tBM X.K T r to t):=by
 intro pins s σ H Q I h
 refine wpAny_Call_method_late hbase hfew hline rfl (thn (ho pins s σ H _ I h) fun v s1 ⟨x,H1,I1,r1,ty,q1⟩=> ?_)
 obtain⟨h1,h2⟩:=tyV_is I1 r1 ty
 refine⟨T,id,pa,slot,hty,h1,h2,?_⟩
 have hA:=ha cpos pins s1 σ H1 _ I1 q1
 rw[hs]at hA⊢
 refine Calls.callWith_builtin (by show(false||(backTo cpos (starEach es X.env)).any (·.1))=false;rw[hplain]<;>rfl) (Calls.evalArgs_plain ?_)
 exact thn hA fun us s2 ⟨vs,H2,I2,r2,q2⟩=>hm pins s2 σ H2 x vs v us Q I2 r1 r2 q2
end
end L2
namespace L2
open PySem PySem.Spec PyProof.Rows
noncomputable def MtM(X:Cx)(id:String)(r:V->List V->Hp->VK->Prop):Prop:=
 ∀(pins:List (Addr×Obj)) (s:Shared) (σ:St) (H:Hp) (x:V) (xs:List V) (v:Value) (us:List Value) (Q:VK),Inv X pins σ H s->RelV x v->Vals xs us->r x xs H Q->
  wpAny (model X.prog X.w) X.A (call (.builtin id) (v::us)) (EP X pins σ Q) X.xe s
theorem Vals.one{x:V}{us:List Value}(h:Vals [x] us):∃u,us=[u]/\RelV x u:=by
 cases h with
 |cons r h=>cases h;exact⟨_,rfl,r⟩
theorem Vals.two{x y:V}{us:List Value}(h:Vals [x,y] us):∃u v,us=[u,v]/\RelV x u/\RelV y v:=by
 cases h with
 |cons r h=>obtain⟨v,rfl,q⟩:=Vals.one h;exact⟨_,_,rfl,r,q⟩
theorem Vals.zero:∀{us:List Value},Vals [] us->us=[]
 |_,.nil=>rfl
theorem Vals.dropLast{xs:List V}{us:List Value}(h:Vals xs us):Vals xs.dropLast us.dropLast:=by
 induction h with
 |nil=>exact .nil
 |cons r t ih=>
  cases t with
  |nil=>exact .nil
  |cons q t'=>exact .cons r ih
theorem Vals.eraseIdx:∀{xs:List V} {us:List Value} (i:Nat),Vals xs us->Vals (xs.eraseIdx i) (us.eraseIdx i)
 |_,_,_,.nil=> .nil
 |_,_,0,.cons _ t=>t
 |_,_,i+1,.cons r t=> .cons r (Vals.eraseIdx i t)
theorem Vals.reverse{xs:List V}{us:List Value}(h:Vals xs us):Vals xs.reverse us.reverse:=by
 induction h with
 |nil=>exact .nil
 |cons r t ih=>rw[List.reverse_cons,List.reverse_cons];exact Vals.append ih (.cons r .nil)
theorem Vals.rep{xs:List V}{us:List Value}(h:Vals xs us):∀k:Nat,Vals (List.replicate k xs).flatten (List.replicate k us).flatten
 |0=> .nil
 |k+1=>by
  rw[List.replicate_succ,List.replicate_succ,List.flatten_cons,List.flatten_cons]
  exact Vals.append h (Vals.rep h k)
theorem erase_last{α:Type}(l:List α):l.eraseIdx (l.length-1)=l.dropLast:=by
 induction l with
 |nil=>rfl
 |cons a r ih=>
  cases r with
  |nil=>rfl
  |cons b r=>
   have e:(a::b::r).length-1=((b::r).length-1)+1:=by
    have h1:(a::b::r).length=r.length+2:=rfl
    have h2:(b::r).length=r.length+1:=rfl
    omega
   rw[e,List.eraseIdx_cons_succ,ih]
   all_goals rfl
theorem foldl_rep(its:List Value):∀(k:Nat) (acc:List Value),
  List.foldl (fun x1 x2=>x1++x2) acc.toArray (List.replicate k its.toArray)=(acc++(List.replicate k its).flatten).toArray
 |0,acc=>by simp
 |k+1,acc=>by
  have e:acc.toArray++its.toArray=(acc++its).toArray:=by simp
  have e2:(acc++its)++(List.replicate k its).flatten=acc++(List.replicate (k+1) its).flatten:=by
   rw[List.replicate_succ,List.flatten_cons,List.append_assoc]
  rw[<-e2,<-foldl_rep its k (acc++its),<-e,List.replicate_succ,List.foldl_cons]
section
variable{X:Cx}{pins:List (Addr×Obj)}{σ:St}{H:Hp}{s:Shared}{l b:Addr}{xs ys zs:List V}
theorem Inv.lset{its its':List Value}{n:Nat}{f:Array Value->Array Value}{t':Nat}(I:Inv X pins σ H s)(hH:H l=some (.lst xs))(e:s.heap.get? l=some {cls:= .type "list",data:= .seq its.toArray n})(hf:f its.toArray=its'.toArray)(hv:Vals ys its')(hz:ys.length<=sizeLine):
  Inv X pins σ (upd H l (.lst ys)) {s with heap:=s.heap.update l (Obj.mapSeq f),toks:=t'}:=by
 have q:=PySem.IsL.update e f
 rw[hf]at q
 refine I.write (x:=l) (e:=l) (by rw[hH];exact trivial) (.inl rfl) (fun b' u hb hu=>(Heap.get?_update_other s.heap (Obj.mapSeq f) (Ne.symm hb)).trans hu) ⟨_,q⟩ ?_
 exact⟨hz,its',_,hv,q⟩
theorem Inv.lnew{its:List Value}{t':Nat}(I:Inv X pins σ H s)(hv:Vals ys its)(hz:ys.length<=sizeLine):
  Inv X pins σ (upd H s.heap.objs.size (.lst ys)) {s with heap:=s.heap.push {cls:= .type "list",data:= .seq its.toArray},toks:=t'}:=
 I.laid (fun _ _ q=>Heap.get?_push_of_some _ q) (Nat.le_refl _) ⟨hz,its,0,hv,Heap.get?_push_size _ rfl⟩
theorem Inv.fresh(I:Inv X pins σ H s):H s.heap.objs.size=none:=I.hok.fresh (Nat.le_refl _)
theorem Inv.lstM(I:Inv X pins σ H s)(hH:H l=some (.lst xs)):xs.length<=sizeLine/\∃(its:List Value) (n:Nat),Vals xs its/\xs.length=its.length/\s.heap.get? l=some {cls:= .type "list",data:= .seq its.toArray n}:=by
 obtain⟨z,its,n,r,e⟩:=I.hok l _ hH
 exact⟨z,its,n,r,r.length,e⟩
theorem notLongL{n:Nat}(h:n<=sizeLine):Builtin.List.listTooLong n=false:=by
 unfold Builtin.List.listTooLong
 exact decide_eq_false (by omega)
end
section
variable{X:Cx}
noncomputable def rAppend:V->List V->Hp->VK->Prop:=fun x vs H Q=>∃l xs y,x= .ref l/\vs=[y]/\H l=some (.lst xs)/\xs.length<sizeLine/\Q .non (upd H l (.lst (xs++[y])))
theorem mt_append:MtM X "list.append" rAppend:=by
 intro pins s σ H x vs v us Q I rx rv h
 obtain⟨l,xs,y,rfl,rfl,hH,hz,q⟩:=h
 cases rx
 obtain⟨u,rfl,ru⟩:=rv.one
 obtain⟨z,its,n,r,hl,e⟩:=I.lstM hH
 refine call_meets F.slot_list_append ⟨_,e,rfl⟩ F.entry_list_append (F.args_list_append_2 _ _) (PySem.list_append l its.toArray n u (by rw[List.size_toArray];omega)) ⟨e,?_⟩
 refine⟨.non,_,I.lset (its':=its++[u]) hH e (by simp) (r.append (.cons ru .nil)) ?_,rfl,q⟩
 rw[List.length_append,List.length_singleton]
 omega
noncomputable def rExtend:V->List V->Hp->VK->Prop:=fun x vs H Q=>∃l b xs zs,x= .ref l/\vs=[.ref b]/\H l=some (.lst xs)/\H b=some (.lst zs)/\xs.length+zs.length<=sizeLine/\Q .non (upd H l (.lst (xs++zs)))
theorem mt_extend:MtM X "list.extend" rExtend:=by
 intro pins s σ H x vs v us Q I rx rv h
 obtain⟨l,b,xs,zs,rfl,rfl,hH,hB,hz,q⟩:=h
 cases rx
 obtain⟨u,rfl,ru⟩:=rv.one
 cases ru
 obtain⟨z,its,n,r,hl,e⟩:=I.lstM hH
 obtain⟨z2,its2,n2,r2,hl2,e2⟩:=I.lstM hB
 have hsz:its.toArray.size+its2.toArray.size<=sizeLine:=by rw[List.size_toArray,List.size_toArray];omega
 have hlong:¬(!its.toArray.isEmpty&&Builtin.List.listTooLong (its.toArray.size+its2.toArray.size))=true:=by
  rw[notLongL hsz,Bool.and_false]
  exact Bool.false_ne_true
 refine call_meets F.slot_list_extend ⟨_,e,rfl⟩ F.entry_list_extend (F.args_list_extend_2 _ _)
  (AutoSeq1.list_extend_list_list_0 l its.toArray n b its2.toArray n2 hlong (by rw[List.size_toArray];omega) (by omega)) ⟨e,e2,?_⟩
 refine⟨.non,_,I.lset (its':=its++its2) hH e (by simp) (r.append r2) ?_,rfl,q⟩
 rw[List.length_append]
 omega
noncomputable def rPop:V->List V->Hp->VK->Prop:=fun x vs H Q=>∃l xs y,x= .ref l/\vs=[]/\H l=some (.lst xs)/\xs[xs.length-1]? =some y/\Q y (upd H l (.lst xs.dropLast))
theorem mt_pop:MtM X "list.pop" rPop:=by
 intro pins s σ H x vs v us Q I rx rv h
 obtain⟨l,xs,y,rfl,rfl,hH,hy,q⟩:=h
 cases rx
 have hus:=rv.zero
 subst hus
 obtain⟨z,its,n,r,hl,e⟩:=I.lstM hH
 obtain⟨u,hu,ru⟩:=r.get hy
 have hy':its.toArray[its.toArray.size-1]? =some u:=by
  show its.toArray[its.length-1]? =some u
  rw[<-Array.getElem?_toList,<-hl]
  exact hu
 refine call_meets F.slot_list_pop ⟨_,e,rfl⟩ F.entry_list_pop (F.args_list_pop_1 _) (MeetsSeq.list_pop_last l its.toArray n u hy' (by rw[List.size_toArray];omega)) ⟨e,?_⟩
 refine⟨y,_,I.lset (its':=its.dropLast) hH e ?_ r.dropLast ?_,ru,q⟩
 ·show its.toArray.eraseIdxIfInBounds (its.toArray.size-1)=its.dropLast.toArray
  rw[List.size_toArray,List.eraseIdxIfInBounds_toArray,erase_last]
 ·rw[List.length_dropLast]
  omega
noncomputable def rCat:R2:=fun x y H Q=>∃l b xs zs,x= .ref l/\y= .ref b/\H l=some (.lst xs)/\H b=some (.lst zs)/\xs.length+zs.length<=sizeLine/\∀p,H p=none->Q (.ref p) (upd H p (.lst (xs++zs)))
theorem op_cat:OpR X (binaryOp .Add) rCat:=by
 intro pins s σ H x y v u Q I rx ry h
 obtain⟨l,b,xs,zs,rfl,rfl,hH,hB,hz,q⟩:=h
 cases rx
 cases ry
 obtain⟨z,its,n,r,hl,e⟩:=I.lstM hH
 obtain⟨z2,its2,n2,r2,hl2,e2⟩:=I.lstM hB
 refine PySem.P.add_list e e2 ?_ (by rw[List.size_toArray,List.size_toArray];omega)
 have ea:its.toArray++its2.toArray=(its++its2).toArray:=by simp
 rw[ea]
 exact⟨.ref _,_,I.lnew (t':=s.toks) (r.append r2) (by rw[List.length_append];omega),rfl,q _ I.fresh⟩
noncomputable def rRep:R2:=fun x y H Q=>∃l k xs,x= .ref l/\y= .int k/\H l=some (.lst xs)/\ -(2^63)<=k/\k<2^63/\xs.length*k.toNat<=sizeLine/\
 ∀p,H p=none->Q (.ref p) (upd H p (.lst (List.replicate k.toNat xs).flatten))
theorem len_rep{α:Type}(xs:List α)(k:Nat):(List.replicate k xs).flatten.length=k*xs.length:=by
 induction k with
 |zero=>simp
 |succ k ih=>rw[List.replicate_succ,List.flatten_cons,List.length_append,ih,Nat.succ_mul,Nat.add_comm]
theorem op_rep:OpR X (binaryOp .Mult) rRep:=by
 intro pins s σ H x y v u Q I rx ry h
 obtain⟨l,k,xs,rfl,rfl,hH,h1,h2,hz,q⟩:=h
 cases rx
 obtain⟨t,rfl⟩:=ry
 obtain⟨z,its,n,r,hl,e⟩:=I.lstM hH
 have hlen:its.toArray.size*k.toNat<=sizeLine:=by rw[List.size_toArray,<-hl];exact hz
 have hcap:¬its.toArray.size*k.toNat>(2^63-1)/8:=by
  have:(sizeLine:Nat)<=(2^63-1)/8:=by decide
  omega
 have hfit:¬(!Builtin.List.listFitsIndex k)=true:=by
  rw[fitsIndex_both h1 h2]
  exact Bool.false_ne_true
 have hlong:¬Builtin.List.listTooLong (its.toArray.size*k.toNat)=true:=by
  rw[notLongL hlen]
  exact Bool.false_ne_true
 have hnew:List.foldl (fun x1 x2=>x1++x2) #[] (List.replicate (if its.toArray.isEmpty=true then 0 else k.toNat) its.toArray)=(List.replicate k.toNat its).flatten.toArray:=by
  have f0:∀m:Nat,List.foldl (fun x1 x2=>x1++x2) #[] (List.replicate m its.toArray)=(List.replicate m its).flatten.toArray:=fun m=>by
   have:=foldl_rep its m []
   rw[List.nil_append]at this
   exact this
  rw[f0]
  cases its with
  |nil=>simp
  |cons a r'=>rw[if_neg (by simp)]
 refine wpAny_binaryOp_repeat_ref (T:="list") (U:="int") (by decide) ⟨_,e,rfl⟩ (fun s'=>typeIs_int s' k t) noFill_list_mul F.fills_int_mul F.slot_int_rmul repeat_list F.slot_int_index.lookup
  (call_meets F.slot_int_rmul (typeIs_int s k t) F.entry_int_rmul (F.args_int_rmul_2 _ _) (int___rmul___int_list k t l its.toArray n)
   ⟨e,rfl,⟨_,e,rfl⟩,call_meets F.slot_list_mul ⟨_,e,rfl⟩ F.entry_list_mul (F.args_list_mul_2 _ _) (AutoListH.list___mul___list_int_3 l its.toArray n k t hfit hcap hlong) ⟨e,?_⟩⟩)
 rw[hnew]
 exact⟨.ref _,_,I.lnew (t':=s.toks) (r.rep k.toNat) (by rw[len_rep,Nat.mul_comm];exact hz),rfl,q _ I.fresh⟩
end
section
variable{prog:Program}{w:World}{A:Around}{E:Value->Shared->Prop}{s:Shared}
end
section
variable{X:Cx}
end
end L2
namespace Att
open PySem PySem.W PySem.Calls PyProof.Rows
theorem ints_of_wellAll{P:Params}{h:Heap}:∀(ns:List Int) (vs:List Value),WellAll P h vs (ns.map WData.int)->IntsAre vs ns:=by
 intro ns
 induction ns with
 |nil=>
  intro vs w
  rw[List.map_nil]at w
  cases w
  exact .nil
 |cons n ns ih=>
  intro vs w
  rw[List.map_cons]at w
  cases w with
  |cons a b=>
   cases a
   exact .cons _ _ (ih _ b)
theorem script_of{l:OpenLaw}{n:Nat}(hn:l.most=some n){P:Params}{h:Heap}{args:List WData}{vals:List Value}(hpre:l.row.toRowW.claim.pre args=true)(hwl:WellAll P h vals args):
  ∃a vs ns,vals=[Value.ref a]/\args=[WData.list (ns.map WData.int)]/\h.get? a=some {cls:= .type "list",data:= .seq vs.toArray}/\IntsAre vs ns/\ns.length<=n:=by
 have hsh:WShape.hasAll [] args [.list .int]=true:=(pre_splitW hpre).1
 have hc:l.pre.holds [] {args:=args}=true:=(pre_splitW hpre).2
 obtain⟨d,r,rfl,h1,h2⟩:=hasAllW_cons hsh
 obtain rfl:=hasAllW_nil h2
 obtain⟨xs,rfl,h3⟩:=hasW_list h1
 obtain⟨ns,rfl⟩:=items_int h3
 have hlen:ns.length<=n:=by
  unfold OpenLaw.pre at hc
  have h4:(WTm.not (.lt (.lit (.int (n:Int))) (.len (.arg 0)))).holds [] {args:=[.list (ns.map .int)]}=true:=by
   have h4:=(holds_andW hc).1
   rw[hn]at h4
   exact h4
  have h5:=condW_of h4 (w_not (w_lt w_lit (w_len_list (w_arg rfl))))
  rw[List.length_map]at h5
  refine Nat.le_of_not_lt fun q=> ?_
  have q':(n:Int)<((ns.length:Nat):Int):=by omega
  first
   |(rw[decide_eq_true q']at h5;exact absurd h5 (by decide))
   |(simp at h5;omega)
 cases hwl with
 |cons w1 w2=>
  cases w2
  cases w1 with
  |list ho hall=>exact⟨_,_,ns,rfl,rfl,ho,ints_of_wellAll ns _ hall,hlen⟩
theorem post_true(l:OpenLaw)(args:List WData):l.row.toRowW.claim.post args (.bool true) args=true:=
 postW_of (r:=l.row.toRowW) (X:=(true==true))
  (show WShape.has [] (.bool true) .bool=true by first |rfl|decide|simp[WShape.has,WShape.arms,WShape.armsAll])
  (show(WTm.eq .res (.lit (.bool true))).value [] {args:=args,res:=some (.bool true),after:=args}=some (.bool (true==true))from w_eq_bool (w_res rfl) w_lit) rfl
theorem attach_call{l:OpenLaw}{n:Nat}{q:Program}{loose:List Str}{XP:(Str->Option Value)->Heap->Prop}{YP:World->Heap->Prop}{d:DefRec}(hn:l.most=some n)(hdf:d.params.defaults=[])(call:∀(w:World) (s₀ s₁:Shared) (mg mb:Str->Option Value) (fa:Addr) (o:Obj) (pm cd doc:Value) (a:Addr) (vs:List Value) (ns:List Int),
   Ground q loose [] XP w s₀ mg mb s₁.heap->YP w s₁.heap->
   s₁.heap.get? fa=some o->o.data= .func (docDef d.name d.params d.body d.scope pm cd doc)->s₁.heap.CodeRec cd d.name->mg d.name=some (.ref fa)->
   s₁.heap.get? a=some {cls:= .type "list",data:= .seq vs.toArray}->IntsAre vs ns->ns.length<=n->s₁.gens=#[]->
   codeAny (model l.prog w) callerA (.call (.ref fa) ⟨[.ref a],[]⟩) (fun r s'=>r= .ok (.ret (.bool true))/\OldK s₁.heap s'.heap/\s'.os=s₁.os/\AllBare s'.gens) s₁):
  WalkO q loose XP YP l.row.toRowW d [] (fun f vs=>PySem.call f vs):=by
 intro w s₀ s₁ mg mb G Y fa o pm cd doc dV kV ho hd hcd hD hmg hg args vals as hpre hlay hrd hwl hlo
 obtain rfl:dV= .none:=Dflts.none hD hdf
 obtain rfl:kV= .none:=Dflts.noKw hD
 obtain⟨a,vs,ns,rfl,rfl,hobj,hints,hlen⟩:=script_of hn hpre hwl
 refine enter_call (codeAny_mono (call w s₀ s₁ mg mb fa o pm cd doc a vs ns G Y ho (fd_plain hd) hcd hmg hobj hints hlen hg) fun r s' hq=> ?_)
 obtain⟨rfl,h2,h3,h4⟩:=hq
 exact⟨.inl ⟨.bool true,.bool true,[],rfl,fun _=>rfl,.bool true,post_true l _,fun _=>⟨List.Pairwise.nil,fun _ hm=>(nomatch hm)⟩⟩,h2,h3,h4⟩
section
variable{prog:Program}{w:World}{A:Around}{E:Value->Shared->Prop}{s:Shared}{K:Frag}
end
end Att
namespace L2
open PySem PySem.Spec PyProof.Rows
theorem vals_ints:∀{vs:List Value} {ns:List Int},IntsAre vs ns->Vals (ns.map V.int) vs
 |_,_,.nil=> .nil
 |_,_,.cons n t h=> .cons ⟨t,rfl⟩ (vals_ints h)
noncomputable def Only(H:Hp):Prop:=∀b,H b=none\/∃o xs,H b=some (.frz o (.lst xs))
theorem law_call{P:Program}{w:World}{K:W.Frag}{mg mb:Str->Option Value}{CX:CXT}{k:Nat}{fa a:Addr}{fd:FuncData}{x:Str}{sp:Sp}{s₁:Shared}{vs:List Value}{ns:List Int}
  (KX:K.In s₁.heap)(hns:s₁.heap.Ns mainGlobals mg)(hb:s₁.heap.Ns builtinsNs mb)(hbb:∀x:Str,x≠"__name__"->mb x=bootBuiltins x)(hlim:s₁.heap.NoLimit)(hg:s₁.gens=#[])(ha:s₁.heap.get? a=some {cls:= .type "list",data:= .seq vs.toArray})(hi:IntsAre vs ns)(hl:ns.length<=sizeLine)(hr:Room k callerA)
  (F:∀base:Heap,K.In base->base.Ns mainGlobals mg->FnOk P w K mg base CX k fa fd [x] sp)(hbind:∀(s:Shared) (u:Value),BindsTo s fd ⟨[u],[]⟩ [(x,u)])(hsp:∀H:Hp,Only H->SqL K H a (ns.map V.int)->sp [.ref a] H (fun v _=>v= .bl true) fun _ _ _=>False)(hCX:∀H e s',CX [] H s₁ (fun _ _ _=>False) e s'->False):
  codeAny (model P w) callerA (.call (.ref fa) ⟨[.ref a],[]⟩) (fun r s'=>r= .ok (.ret (.bool true))/\OldK s₁.heap s'.heap/\s'.os=s₁.os/\AllBare s'.gens) s₁:=by
 have rv:=vals_ints hi
 have lenV:=hi.length
 -- from an abstract heap in which nothing but the script may be tracked
 have core:∀H:Hp,Only H->SqL K H a (ns.map V.int)->HOk P w H s₁.heap->(∀b,H b≠none->b=a)->(H a≠none->K.lookup a=none)->
   codeAny (model P w) callerA (.call (.ref fa) ⟨[.ref a],[]⟩) (fun r s'=>r= .ok (.ret (.bool true))/\OldK s₁.heap s'.heap/\s'.os=s₁.os/\AllBare s'.gens) s₁:=by
  intro H hO hS hok hA hK
  have base_of:∀{b:Addr} {o:Obj},s₁.heap.get? b=some o->H b=none->(hidT s₁.heap H).get? b=some o:=fun e n=>hidT_get e n
  have noA:∀{b:Addr} {o:Obj} {es:Array DictEntry} {ep:Nat},s₁.heap.get? b=some o->o.data= .dict es ep->H b=none:=fun{b o es ep} e d=>by
   cases q:H b with
   |none=>rfl
   |some u=>
    have e':b=a:=hA b (by rw[q];simp)
    subst e'
    rw[ha]at e;cases e
    have d':Data.seq vs.toArray _=Data.dict es ep:=d
    cases d'
  have nsK:∀{b:Addr} {m:Str->Option Value},s₁.heap.Ns b m->(hidT s₁.heap H).Ns b m:=fun{b m} ⟨o,es,ep,e,d,r⟩=>⟨o,es,ep,base_of e (noA e d),d,r⟩
  have hKb:K.In (hidT s₁.heap H):=fun b o e=>base_of (KX b o e) (by
   cases q:H b with
   |none=>rfl
   |some u=>
    have e':b=a:=hA b (by rw[q];simp)
    subst e'
    rw[hK (by rw[q];simp)]at e;cases e)
  have hM:Mod K mg (hidT s₁.heap H):=⟨hKb,nsK hns,⟨mb,nsK hb,hbb⟩,let⟨mc,h1,h2⟩:=hlim;⟨mc,nsK h1,h2⟩⟩
  have e0:Env0 P w K mg (hidT s₁.heap H) callerA [] s₁ H:=⟨rfl,hM,fun b o e=>of_hidT e,Nat.le_of_eq (hidT_size _ _),trivial,fun b hb=>absurd (show b∈([]:List Addr)from hb) (by simp),hok,.of_eq hg⟩
  refine codeAny_mono ((F _ hKb (nsK hns)).run callerA [] s₁ H ⟨[.ref a],[]⟩ [.ref a] [.ref a] _ _ hr e0 (hbind s₁ (.ref a)) (.cons rfl .nil) (hsp H hO hS)) fun r s' h=> ?_
  cases r with
  |error e=>exact(hCX H e s' h).elim
  |ok fl=>
   cases fl with
   |next=>exact False.elim h
   |brk=>exact False.elim h
   |cont=>exact False.elim h
   |ret u=>
    obtain⟨v,H',os,bare,un,hok',r',q⟩:=h
    have q':v= .bl true:=q
    subst q'
    obtain rfl:u=Value.bool true:=r'
    refine⟨rfl,OldK.of_keep fun b o e=> ?_,os,bare⟩
    cases q:H b with
    |none=>exact un.keep b o e q (by intro z;exact absurd (show b∈([]:List Addr)from z) (by simp)) (by simp)
    |some u=>
     rcases hO b with z|⟨ob,xs,z⟩
     ·rw[q]at z;cases z
     ·have z2:=un.frzs b ob _ z
      obtain⟨e1,_⟩:=hok b _ z
      obtain⟨e2,_⟩:=hok' b _ z2
      rw[e]at e1;cases e1
      exact e2
 cases hk:K.lookup a with
 |some o=>
  -- the script is one of the module's own objects
  have e:=KX a o hk
  rw[ha]at e
  cases e
  refine core (fun _=>none) (fun _=> .inl rfl) (.inr ⟨_,vs.toArray,_,hk,rfl,rfl,rfl,by rw[List.size_toArray,lenV];exact hl,by simpa using rv⟩) (fun b u z=>by have z':(none:Option HO)=some u:=z;cases z') (fun b z=>absurd rfl z) fun z=>absurd rfl z
 |none=>
  refine core (fun b=>if b=a then some (.frz {cls:= .type "list",data:= .seq vs.toArray} (.lst (ns.map V.int)))else none) (fun b=> ?_) (.inl (.inr ⟨{cls:= .type "list",data:= .seq vs.toArray},if_pos rfl⟩)) (fun b u z=> ?_) (fun b z=> ?_) fun _=>hk
  ·by_cases hb:b=a
   ·exact .inr ⟨_,_,if_pos hb⟩
   ·exact .inl (if_neg hb)
  ·by_cases hb:b=a
   ·have z':=(if_pos hb).symm.trans z
    cases z'
    subst hb
    exact⟨ha,by rw[List.length_map];exact hl,vs,_,rv,ha⟩
   ·have z':=(if_neg hb).symm.trans z
    cases z'
  ·by_cases hb:b=a
   ·exact hb
   ·exact absurd (if_neg hb) z
end L2
namespace L2
open PySem PySem.Spec PyProof.Rows
theorem walk_of{l:PySem.W.OpenLaw}{n k:Nat}{q:Program}{loose:List Str}{XP:(Str->Option Value)->Heap->Prop}{YP:World->Heap->Prop}{d:DefRec}{K:Params->PySem.W.Frag}{CX:World->CXT}{sp:World->Sp}{x:Str}(hn:l.most=some n)(hn2:n<=sizeLine)(hdf:d.params.defaults=[])(hr:Room k callerA)(hY:∀(w:World) (h:Heap),YP w h->(K w.params).In h)
  (F:∀(w:World) (mg:Str->Option Value) (fa:Addr) (h:Heap),(K w.params).In h->h.Ns mainGlobals mg->mg d.name=some (.ref fa)->
   ∃fd:FuncData,(∀(s:Shared) (u:Value),BindsTo s fd ⟨[u],[]⟩ [(x,u)])/\
    ∀base:Heap,(K w.params).In base->base.Ns mainGlobals mg->FnOk l.prog w (K w.params) mg base (CX w) k fa fd [x] (sp w))(hsp:∀(w:World) (H:Hp) (a:Addr) (ns:List Int),ns.length<=n->Only H->SqL (K w.params) H a (ns.map V.int)->sp w [.ref a] H (fun v _=>v= .bl true) fun _ _ _=>False)(hCX:∀(w:World) (H:Hp) (s:Shared) (e:Value) (s':Shared),CX w [] H s (fun _ _ _=>False) e s'->False):
  PySem.W.WalkO q loose XP YP l.row.toRowW d [] (fun f vs=>PySem.call f vs):=by
 refine Att.attach_call hn hdf fun w s₀ s₁ mg mb fa o pm cd doc a vs ns G Y ho hd hcd hmg hobj hints hlen hg=> ?_
 have KX:=hY w _ Y
 obtain⟨fd,hb,hF⟩:=F w mg fa _ KX G.T.g hmg
 exact law_call KX G.T.g G.T.b G.T.builtins G.T.nolimit hg hobj hints (Nat.le_trans hlen hn2) hr hF hb (fun H hO hS=>hsp w H a ns hlen hO hS) fun H e s'=>hCX w H s₁ e s'
end L2
namespace L2
open PySem PySem.Spec PyProof.Rows
noncomputable def defArgs(s:Stmt):Arguments:=match s with
 | .FunctionDef _ a _ _ _ _ _ _ _ _=>a
 |_=>{posonlyargs:=[],args:=[],vararg:=none,kwonlyargs:=[],kw_defaults:=[],kwarg:=none,defaults:=[]}
noncomputable def defBody(s:Stmt):List Stmt:=match s with
 | .FunctionDef _ _ b _ _ _ _ _ _ _=>b
 |_=>[]
noncomputable def defScope(s:Stmt):Scope:=match s with
 | .FunctionDef _ _ _ _ _ _ sc _ _ _=>sc
 |_=>{kind:= .function,names:=[],isGenerator:=false,isCoroutine:=false}
noncomputable abbrev CX0:CXT:=fun _ _ _ _ _ _=>False
noncomputable abbrev E0:XK:=fun _ _ _=>False
theorem pass0{X:Cx}:Passes CX0 X E0:=fun _ _ _ _ _ _ _ h=>h.elim
structure Fun(K:W.Frag)(x qual:Str)(st:Stmt)(f:Addr)(fd:FuncData):Prop where
 ex:∃(oc:Value) (od:Option Addr) (kV doc pm:Value) (an:Option Addr) (cdv ct:Value) (osl:Array (Option Value)),
  fd=PySem.W.fnOf x qual (defArgs st) (defBody st) (defScope st) .none kV doc pm an cdv ct/\K.lookup f=some ⟨oc,od,.func fd,osl⟩/\PySem.W.codeIn K cdv qual=true
 kp:PySem.W.keepIn K (.ref f)=true
section
variable{P:Program}{w:World}{K:W.Frag}{mg:Str->Option Value}{base:Heap}
theorem Fun.ok{x qual:Str}{st:Stmt}{f:Addr}{fd:FuncData}{N ps:List Str}{k:Nat}{sp:Sp}(F:Fun K x qual st f fd)(S:FnScope N ps (defScope st))(len:∀vs H Q E,sp vs H Q E->vs.length=ps.length)(hbody:∀(cdv:Value) (A:Around) (outer:List Env) (s:Shared) (H:Hp) (vs:List V) (Q:VK) (E:XK),Room k (A.deeper (envOfC qual (defScope st) s.heap.objs.size f cdv))->sp vs H Q E->
   ∃t,PSs (cxOf CX0 P w K mg base N qual (defScope st) f cdv A outer s H E).nox (defBody st) t/\t {nx:=fun _ H'=>Q .non H',rt:=Q} (start N vs) H):FnOk P w K mg base CX0 (k+1) f fd ps sp:=by
 obtain⟨oc,od,kV,doc,pm,an,cdv,ct,osl,rfl,lk,hcd⟩:=F.ex
 refine fn_of lk hcd S len fun A outer s H vs Q E hr hsp=> ?_
 obtain⟨t,h,q⟩:=hbody cdv A outer s H vs Q E hr hsp
 exact⟨t,h.nox,q⟩
theorem Fun.binds{x qual:Str}{st:Stmt}{f:Addr}{fd:FuncData}{ps:List Str}(F:Fun K x qual st f fd)(h:∀(kV doc pm:Value) (an:Option Addr) (cdv ct:Value) (us:List Value),us.length=ps.length->bindArgs (PySem.W.fnOf x qual (defArgs st) (defBody st) (defScope st) .none kV doc pm an cdv ct) ⟨us,[]⟩=pure (ps.zip us)):Binds K fd ps []:=by
 obtain⟨oc,od,kV,doc,pm,an,cdv,ct,osl,rfl,lk,hcd⟩:=F.ex
 exact .all (h kV doc pm an cdv ct)
theorem zaq{x qual:Str}{st:Stmt}{f:Addr}{oc:Value}{od an:Option Addr}{osl:Array (Option Value)}{kV doc pm cdv ct:Value}(l:K.lookup f=some ⟨oc,od,.func (PySem.W.fnOf x qual (defArgs st) (defBody st) (defScope st) .none kV doc pm an cdv ct),osl⟩)(c:PySem.W.codeIn K cdv qual=true)(k:PySem.W.keepIn K (.ref f)=true):Fun K x qual st f (PySem.W.fnOf x qual (defArgs st) (defBody st) (defScope st) .none kV doc pm an cdv ct):=⟨⟨oc,od,kV,doc,pm,an,cdv,ct,osl,rfl,l,c⟩,k⟩
end
theorem small1000{n:Nat}(h:n<=1000):n<sizeLine:=Nat.lt_of_le_of_lt h (by decide)
section
variable{X:Cx}
theorem pv(i:Nat){x:Str}{pos:Pos}(hN:X.N[i]? =some x:=by rfl)(hv:Vis X.env.scope x:=by first |exact Or.inl rfl|exact Or.inr (Or.inl rfl)|exact Or.inr (Or.inr rfl))(hd:(x==("__debug__":Str))=false:=by decide)(hcd:(x==("__classdict__":Str))=false:=by decide):PE X (.Name x pos) (tVar i):=pe_var hN hv hd hcd
end
theorem iteF{A B:Prop}(h:B):if false=true then A else B:=by
 rw[if_neg Bool.false_ne_true]
 exact h
theorem iteT{A B:Prop}(h:A):if true=true then A else B:=by
 rw[if_pos rfl]
 exact h
theorem ite2{c A B:Prop} [Decidable c](h1:c->A)(h2:¬c->B):if c then A else B:=by
 by_cases h:c
 ·rw[if_pos h]
  exact h1 h
 ·rw[if_neg h]
  exact h2 h
noncomputable def Same(H H':Hp):Prop:=∀b o,H b=some o->H' b=some o
theorem Same.refl(H:Hp):Same H H:=fun _ _ h=>h
theorem Same.trans{H H1 H2:Hp}(a:Same H H1)(b:Same H1 H2):Same H H2:=fun c o h=>b c o (a c o h)
theorem Same.free{H H':Hp}(e:Same H H'){l:Addr}(h:H' l=Option.none):H l=Option.none:=by
 cases q:H l with
 |none=>rfl
 |some o=>
  rw[e l o q]at h
  cases h
theorem Same.seq{K:W.Frag}{H H':Hp}{a:Addr}{xs:List V}(e:Same H H')(h:SqL K H a xs):SqL K H' a xs:=by
 rcases h with(h|⟨o,h⟩)|h
 ·exact .inl (.inl (e _ _ h))
 ·exact .inl (.inr ⟨o,e _ _ h⟩)
 ·exact .inr h
end L2
set_option maxHeartbeats 4000000
namespace L2
open PySem PySem.Spec PyProof.Rows
noncomputable def clOf(cells:List (Str×Addr)):List (Str×NameKind)->List (Str×Addr)->List (Str×Addr)
 |[],acc=>acc
 |p::r,acc=>clOf cells r (if(p.2==NameKind.free)=true then(p.1,(cells.lookup p.1).getD 0)::acc else acc)
theorem clOf_mem{cells:List (Str×Addr)}:∀{names:List (Str×NameKind)} {acc:List (Str×Addr)} {x:Str} {c:Addr},(x,c)∈clOf cells names acc->(x,c)∈acc\/c=(cells.lookup x).getD 0/\(x,NameKind.free)∈names
 |[],_,_,_,h=> .inl h
 |(n,k)::r,acc,x,c,h=>by
  rcases clOf_mem (names:=r) h with q|⟨q,m⟩
  ·dsimp only at q
   split at q
   ·rename_i hk
    rcases List.mem_cons.mp q with e|e
    ·cases e
     have:k=NameKind.free:=by simpa using hk
     subst this
     exact .inr ⟨rfl,List.mem_cons_self⟩
    ·exact .inl e
   ·exact .inl q
  ·exact .inr ⟨q,List.mem_cons_of_mem _ m⟩
theorem clOf_acc{cells:List (Str×Addr)}:∀{names:List (Str×NameKind)} {acc:List (Str×Addr)} {p:Str×Addr},p∈acc->p∈clOf cells names acc
 |[],_,_,h=>h
 |(n,k)::r,acc,p,h=>by
  refine clOf_acc (names:=r) ?_
  split
  ·exact List.mem_cons_of_mem _ h
  ·exact h
theorem clOf_has{cells:List (Str×Addr)}:∀{names:List (Str×NameKind)} {acc:List (Str×Addr)} {x:Str},(x,NameKind.free)∈names->∃c,(x,c)∈clOf cells names acc
 |(n,k)::r,acc,x,h=>by
  rcases List.mem_cons.mp h with e|e
  ·cases e
   refine⟨(cells.lookup n).getD 0,clOf_acc (names:=r) ?_⟩
   rw[if_pos (show(NameKind.free==NameKind.free)=true from rfl)]
   exact List.mem_cons_self
  ·exact clOf_has (names:=r) e
theorem lookup_some_of_mem{β:Type}:∀{l:List (Str×β)} {x:Str} {c:β},(x,c)∈l->∃d,l.lookup x=some d/\(x,d)∈l
 |(n,k)::r,x,c,h=>by
  cases hx:x==n with
  |true=>
   have e:x=n:=by simpa using hx
   subst e
   exact⟨k,by simp[List.lookup_cons],List.mem_cons_self⟩
  |false=>
   rcases List.mem_cons.mp h with e|e
   ·cases e;simp at hx
   ·obtain⟨d,h1,h2⟩:=lookup_some_of_mem e
    exact⟨d,by simp only[List.lookup_cons,hx];exact h1,List.mem_cons_of_mem _ h2⟩
noncomputable def compOk(sc scope:Scope):Bool:=scope.names.all fun p=>(p.2 !=NameKind.cell)&&(p.2 !=NameKind.local||scope.names.lookup p.1==some NameKind.local)&&
 (p.2 !=NameKind.free||sc.names.lookup p.1==some NameKind.cell||sc.names.lookup p.1==some NameKind.free)
section
variable{sc scope:Scope}
theorem compOk.cell(h:compOk sc scope=true):∀y∈scope.names,y.2≠.cell:=fun y hy e=>by
 have q:=List.all_eq_true.mp h y hy
 simp[e]at q
theorem compOk.names(h:compOk sc scope=true):∀y∈scope.names,y.2= .local->scope.names.lookup y.1=some .local:=fun y hy e=>by
 have q:=List.all_eq_true.mp h y hy
 simpa[e]using q
theorem compOk.free(h:compOk sc scope=true){x:Str}(hy:(x,NameKind.free)∈scope.names):sc.names.lookup x=some .cell\/sc.names.lookup x=some .free:=by
 have q:=List.all_eq_true.mp h _ hy
 simpa using q
end
theorem closure_of{scope:Scope}{env:Env}(h:∀x,(x,NameKind.free)∈scope.names->∃c,env.cells.lookup x=some c):closureFor scope env=pure (clOf env.cells scope.names []):=by
 have key:∀(names:List (Str×NameKind)) (acc:List (Str×Addr)),(∀x,(x,NameKind.free)∈names->∃c,env.cells.lookup x=some c)->
   (forIn names acc fun(x:Str×NameKind) (cs:List (Str×Addr))=>if(x.2==NameKind.free)=true then(do let y<-cellOf env x.1;pure (ForInStep.yield ((x.1,y)::cs)))else pure (ForInStep.yield cs):Sem (List (Str×Addr)))=pure (clOf env.cells names acc):=by
  intro names
  induction names with
  |nil=>intro acc _;rfl
  |cons p r ih=>
   intro acc hh
   obtain⟨n,k⟩:=p
   rw[List.forIn_cons]
   dsimp only
   by_cases hk:(k==NameKind.free)=true
   ·have e:k=NameKind.free:=by simpa using hk
    subst e
    obtain⟨c,hc⟩:=hh n List.mem_cons_self
    rw[if_pos hk]
    unfold cellOf
    rw[hc]
    simp only[pure_bind]
    refine Eq.trans (ih _ fun x hx=>hh x (List.mem_cons_of_mem _ hx)) ?_
    show _=pure (clOf env.cells r (if(NameKind.free==NameKind.free)=true then(n,(env.cells.lookup n).getD 0)::acc else acc))
    rw[if_pos hk,hc]
    rfl
   ·rw[if_neg hk]
    simp only[pure_bind]
    refine Eq.trans (ih _ fun x hx=>hh x (List.mem_cons_of_mem _ hx)) ?_
    show _=pure (clOf env.cells r (if(k==NameKind.free)=true then(n,(env.cells.lookup n).getD 0)::acc else acc))
    rw[if_neg hk]
 have q:=key scope.names [] h
 unfold closureFor
 simp only[bind_pure]
 exact q
theorem relab_look{env:Env}:∀{names:List (Str×NameKind)} {x:Str} {k:NameKind},names.lookup x=some k->
  (names.map fun(n,k)=>if(k==NameKind.free&&env.scope.kind== .function&&env.kindOf n==some .cell)then(n,NameKind.cell)else(n,k)).lookup x=some (if(k==NameKind.free&&env.scope.kind== .function&&env.kindOf x==some .cell)=true then .cell else k)
 |[],_,_,h=>by simp at h
 |(n,k)::r,x,k',h=>by
  have ih:= @relab_look env r x k'
  show List.lookup x ((if(k==NameKind.free&&env.scope.kind== .function&&env.kindOf n==some .cell)=true then(n,NameKind.cell)else(n,k))::_)=_
  cases hx:x==n with
  |true=>
   have e:x=n:=by simpa using hx
   subst e
   simp only[List.lookup_cons,hx]at h
   cases h
   by_cases hc:(k==NameKind.free&&env.scope.kind== .function&&env.kindOf x==some .cell)=true
   ·rw[if_pos hc,if_pos hc];simp[List.lookup_cons]
   ·rw[if_neg hc,if_neg hc];simp[List.lookup_cons]
  |false=>
   simp only[List.lookup_cons,hx]at h
   by_cases hc:(k==NameKind.free&&env.scope.kind== .function&&env.kindOf n==some .cell)=true
   ·rw[if_pos hc];simp only[List.lookup_cons,hx];exact ih h
   ·rw[if_neg hc];simp only[List.lookup_cons,hx];exact ih h
theorem relab_none{env:Env}:∀{names:List (Str×NameKind)} {x:Str},names.lookup x=none->
  (names.map fun(n,k)=>if(k==NameKind.free&&env.scope.kind== .function&&env.kindOf n==some .cell)then(n,NameKind.cell)else(n,k)).lookup x=none
 |[],_,_=>rfl
 |(n,k)::r,x,h=>by
  have ih:= @relab_none env r x
  show List.lookup x ((if(k==NameKind.free&&env.scope.kind== .function&&env.kindOf n==some .cell)=true then(n,NameKind.cell)else(n,k))::_)=_
  cases hx:x==n with
  |true=>simp only[List.lookup_cons,hx]at h;cases h
  |false=>
   simp only[List.lookup_cons,hx]at h
   by_cases hc:(k==NameKind.free&&env.scope.kind== .function&&env.kindOf n==some .cell)=true
   ·rw[if_pos hc];simp only[List.lookup_cons,hx];exact ih h
   ·rw[if_neg hc];simp only[List.lookup_cons,hx];exact ih h
theorem relab_cell{scope:Scope}{env:Env}{x:Str}(hc:∀y∈scope.names,y.2≠.cell)(h:(relabel scope env).names.lookup x=some .cell\/(relabel scope env).names.lookup x=some .free):(x,NameKind.free)∈scope.names:=by
 cases e:scope.names.lookup x with
 |none=>
  have q:=relab_none (env:=env) e
  rcases h with h|h
  ·rw[show(relabel scope env).names.lookup x=none from q]at h;cases h
  ·rw[show(relabel scope env).names.lookup x=none from q]at h;cases h
 |some k=>
  have q:=relab_look (env:=env) e
  have m:=PySem.mem_of_lookup e
  by_cases hk:k= .free
  ·subst hk;exact m
  ·have q':(relabel scope env).names.lookup x=some k:=by
    refine Eq.trans q ?_
    have:(k==NameKind.free)=false:=by simpa using hk
    simp[this]
   rw[q']at h
   rcases h with h|h
   ·cases h;exact absurd rfl (hc _ m)
   ·cases h;exact absurd rfl hk
theorem relab_free{scope:Scope}{env:Env}{x:Str}(h:scope.names.lookup x=some .free):(relabel scope env).names.lookup x=some .cell\/(relabel scope env).names.lookup x=some .free:=by
 have q:=relab_look (env:=env) h
 by_cases hc:((NameKind.free==NameKind.free)&&env.scope.kind== .function&&env.kindOf x==some .cell)=true
 ·rw[if_pos hc]at q;exact .inl q
 ·rw[if_neg hc]at q;exact .inr q
noncomputable def compCx(X:Cx)(scope:Scope)(N:List Str)(s:Shared)(H:Hp)(cl:List (Str×Addr))(C:Addr)(ex:List Addr):Cx:=
 {X with N:=N,s₀:=s,H₀:=H,env:=compEnvC scope cl C X.env,outer:=X.stack,ex:=ex,fn:=fun _=>false,pn:=[],xe:=fun _ _=>False}
inductive Caps(X:Cx)(scope:Scope):List Str->List Nat->Prop
 |nil:Caps X scope [] []
 |cons {x:Str} {j:Nat} {xs:List Str} {js:List Nat} (hN:X.N[j]? =some x) (hf:scope.names.lookup x=some .free) (t:Caps X scope xs js):Caps X scope (x::xs) (j::js)
theorem Caps.get{X:Cx}{scope:Scope}:∀{xs:List Str} {js:List Nat} {k:Nat} {x:Str},Caps X scope xs js->xs[k]? =some x->∃j,js[k]? =some j/\X.N[j]? =some x/\scope.names.lookup x=some .free
 |_,_,k,x,.nil,h=>by simp at h
 |_,_,0,x,.cons h1 h2 _,h=>by simp at h;subst h;exact⟨_,rfl,h1,h2⟩
 |_,_,k+1,x,.cons _ _ t,h=>by
  obtain⟨j,a,b⟩:=Caps.get (k:=k) t (by simpa using h)
  exact⟨j,by simpa using a,b⟩
theorem Caps.len{X:Cx}{scope:Scope}:∀{xs:List Str} {js:List Nat},Caps X scope xs js->xs.length=js.length
 |_,_,.nil=>rfl
 |_,_,.cons _ _ t=>by simp[Caps.len t]
noncomputable def iniOf(own:List Str)(ix:List Nat)(σ:St):St:=own.map (fun _=>none)++ix.map fun j=>(σ[j]?).join
noncomputable def PTs(X:Cx)(ifs:List Expr)(t:TT):Prop:=
 ∀(pins:List (Addr×Obj)) (s:Shared) (σ:St) (H:Hp) (Q:Bool->Hp->Prop),Inv X pins σ H s->t σ H Q->
  wpAny (model X.prog X.w) X.A (forIn ifs true fun c r=>if r=true then do let ok<-isTrue c X.env (eval c X.env);pure (ForInStep.yield ok)else pure (ForInStep.yield r)) (TP X pins σ Q) X.xe s
theorem zcn{X:Cx}:PTs X [] (fun _ H Q=>Q true H):=fun _ _ _ H _ I h=>wpAny_tests_nil ⟨H,I,h⟩
theorem zcr{X:Cx}{c:Expr}{t:TT}(h:PT X c t):PTs X [c] t:=fun pins s σ H Q I hq=>wpAny_tests_one (h pins s σ H Q I hq)
theorem HOk.add{P:Program}{w:World}{H:Hp}{h:Heap}{a:Addr}{o:HO}(x:HOk P w H h)(hn:H a=none)(new:ObjOk P w (upd H a o) h a o):HOk P w (upd H a o) h:=fun b u e=>by
 by_cases hb:b=a
 ·subst hb;rw[zac]at e;cases e;exact new
 ·rw[zap hb]at e
  exact(x b u e).stay (fun c v _ q=>q) (fun c q=>by rw[zap (zbt q hn)];exact q) fun c xs q=>by rw[zap (zbt q hn)];exact q
theorem Un.add{fs ex:List Addr}{H H':Hp}{h h':Heap}{a:Addr}{o:HO}(u:Un fs ex H H' h h')(ha:h.objs.size<=a)(hn:H' a=none):Un fs ex H (upd H' a o) h h' where
 keep:=u.keep
 slot:=u.slot
 free:=fun b ob q n hx=>by rw[zap (Nat.ne_of_lt (Nat.lt_of_lt_of_le (Heap.lt_size q) ha))];exact u.free b ob q n hx
 there:=u.there
 tups:=fun b xs q=>by have:=u.tups b xs q;rw[zap (zbt this hn)];exact this
 frzs:=fun b ob xs q=>by have:=u.frzs b ob xs q;rw[zap (zbt this hn)];exact this
 tbls:=fun b ps q=>by obtain⟨m,e⟩:=u.tbls b ps q;exact⟨m,by rw[zap (zbt e hn)];exact e⟩
end L2
namespace L2
open PySem PySem.Spec PyProof.Rows
section
variable{X:Cx}{tg iter elt:Expr}{ifs:List Expr}{scope:Scope}{pos:Pos}{own caps:List Str}{ix:List Nat}{g:TG}{tc:TT}{te:TE}
theorem comp_entry{pins:List (Addr×Obj)}{s s':Shared}{σ:St}{H:Hp}{fp:List Addr}{C:Addr}{m:Str->Option Value}(ck:compOk X.env.scope scope=true)(hkind:scope.kind= .function)(hcap:Caps X scope caps ix)
  (I:Inv X pins σ H s)(f2:∀b∈fp,FpOk X pins H b)(hlt:∀b∈fp,b<s.heap.objs.size)(hC:s.heap.objs.size<=C)(hos:s'.os=s.os)(hg:AllBare s'.gens)(hk:∀b o,s.heap.get? b=some o->s'.heap.get? b=some o)(hn:s'.heap.Ns C m):
  Inv (compCx X scope (own++caps) s H (clOf X.env.cells scope.names []) C fp) [] (iniOf own ix σ) H s':=by
 have cl1:∀x c,(clOf X.env.cells scope.names []).lookup x=some c->X.env.cells.lookup x=some c:=fun x c e=>by
  rcases clOf_mem (PySem.mem_of_lookup e)with q|⟨q,mm⟩
  ·cases q
  ·obtain⟨d,hd⟩:=I.ok.has x (compOk.free ck mm)
   rw[hd]at q
   rw[hd,q];rfl
 have cl2:∀x,(x,NameKind.free)∈scope.names->∃c,(clOf X.env.cells scope.names []).lookup x=some c:=fun x mm=>by
  obtain⟨c,hc⟩:=clOf_has (cells:=X.env.cells) (acc:=[]) mm
  obtain⟨d,hd,_⟩:=lookup_some_of_mem hc
  exact⟨d,hd⟩
 have bsz:X.base.objs.size<=s.heap.objs.size:=Nat.le_trans I.ok.bsz I.sz
 refine⟨⟨I.ok.mod,hkind,I.ok.glob,I.ok.blt,hC,fun x y c h1 h2=>I.ok.inj x y c (cl1 x c h1) (cl1 y c h2),fun x hx=>cl2 x (relab_cell (compOk.cell ck) hx),fun x c h=>(nomatch h),I.ok.hd,I.ok.frames,.inl rfl,fun b hb=>⟨Nat.ne_of_lt (Nat.lt_of_lt_of_le (hlt b hb) hC),fun x c e=>(f2 b hb).2.2.2.2.1 x c (cl1 x c e)⟩,I.bs,bsz,
  fun b o e hb=> ?_,fun b hb hz=> ?_,I.stack,I.stkFree⟩,?_,hg,Un.kept hk,⟨m,hn,fun i x v h1 h2 h3=> ?_⟩,fun x c e=> ?_,I.hok.fresh hC,fun x c e=>I.freeC x c (cl1 x c e),fun p hp=>absurd (show p∈([]:List (Addr×Obj))from hp) (by simp),I.hok.kept hk,?_⟩
 ·rcases(f2 b hb).2.2.2.1 with z|z
  ·exact I.ok.noex b o e z
  ·exact absurd (Nat.lt_of_lt_of_le (Heap.lt_size e) (Nat.le_trans I.ok.bsz z)) (Nat.lt_irrefl _)
 ·rcases List.mem_cons.mp (I.stkSub b hz)with z|z
  ·exact(f2 b hb).2.1 z
  ·exact(f2 b hb).2.2.1 z
 ·exact hos
 ·have h1:(own++caps)[i]? =some x:=h1
  have h2:(own.map (fun _=>(none:Option V))++ix.map fun j=>(σ[j]?).join)[i]? =some (some v):=h2
  by_cases hi:i<own.length
  ·rw[List.getElem?_append_left (by simpa using hi),List.getElem?_map]at h2
   cases e:own[i]? <;>rw[e]at h2<;>simp at h2
  ·rw[List.getElem?_append_right (by simpa using hi)]at h2
   rw[List.getElem?_append_right (by omega)]at h1
   rw[List.length_map]at h2
   obtain⟨j,e1,e2,e3⟩:=hcap.get h1
   rw[List.getElem?_map,e1]at h2
   have h2':(σ[j]?).join=some v:=by simpa using h2
   have h4:σ[j]? =some (some v):=by
    cases q:σ[j]? with
    |none=>rw[q]at h2';cases h2'
    |some w=>rw[q]at h2';exact congrArg some h2'
   obtain⟨m0,hn0,hl0⟩:=I.loc
   have mm:=PySem.mem_of_lookup e3
   have vis:=compOk.free ck mm
   obtain⟨u,r,l⟩:=hl0 j x v e2 h4 (.inr vis)
   refine⟨u,r,.inr ?_⟩
   rcases l with⟨k,_⟩|⟨k,c,e,z⟩
   ·rcases vis with q|q
    ·rw[show X.env.kindOf x=some .cell from q]at k;cases k
    ·rw[show X.env.kindOf x=some .free from q]at k;cases k
   ·obtain⟨d,hd⟩:=cl2 x mm
    have:=cl1 x d hd
    rw[e]at this
    cases this
    exact⟨relab_free e3,c,hd,z.keeps hk⟩
 ·obtain⟨v,z⟩:=I.cell x c (cl1 x c e)
  exact⟨v,z.keeps hk⟩
 ·show(own.map (fun _=>(none:Option V))++ix.map fun j=>(σ[j]?).join).length=(own++caps).length
  simp[hcap.len]
theorem comp_core(ck:compOk X.env.scope scope=true)(hkind:scope.kind= .function)(hcap:Caps X scope caps ix)(hc:X.calm=true)(hg:∀s H cl C ex,PG (compCx X scope (own++caps) s H cl C ex) tg g)(ht:∀s H cl C ex,PTs (compCx X scope (own++caps) s H cl C ex) ifs tc)(he:∀s H cl C ex,PE (compCx X scope (own++caps) s H cl C ex) elt te){pins:List (Addr×Obj)}{s2:Shared}{σ:St}{H2:Hp}{E:Value->Shared->Prop}(I2:Inv X pins σ H2 s2){it:Addr}{fp:List Addr}{tn:Nat->Heap->Prop}{J:It}(T:Turn X.prog X.w X.K tg J fp it tn)(st2:tn 0 s2.heap)(f2:∀b∈fp,FpOk X pins H2 b)
  {W:Nat->Nat->List V->St->Hp->Prop}{m0:Nat}(w0:W 0 m0 [] (iniOf own ix σ) H2){Fin:List V->Hp->Prop}(turn:∀i m acc σ H,W i m acc σ H->(J.stop i H/\acc.length<=sizeLine/\Fin acc H)\/(J.go i H/\acc.length<sizeLine/\∃N:List V->St->Hp->Prop,(∀acc' σ' H',N acc' σ' H'->∃m',m'<m/\W (i+1) m' acc' σ' H')/\∀x H',J.yld i H x H'->g x σ H' fun σ2 H2=>tc σ2 H2 fun b H3=>
   if b=true then te σ2 H3 fun v H4=>N (acc++[v]) σ2 H4 else N acc σ2 H3))
  {RR:Value->Addr->Result->Shared->Prop}(hRR:∀D C s' acc Hf m,Inv X pins σ (upd Hf D (.lst acc)) s'->Hf D=none->s'.heap.Ns C m->FpOk X pins (upd Hf D (.lst acc)) C->Fin acc Hf->RR (.ref D) C (.ok .next) s'):
  wpAny (model X.prog X.w) X.A (newList []) (fun acc s₃=>wpAny (model X.prog X.w) X.A (newFunctionEnv scope X.env.globals (clOf X.env.cells scope.names []) [] X.env.qual none .none (some X.env)) (fun cenv s₄=>
   codeAny (model X.prog X.w) X.A (.compStart (.ListComp elt [⟨tg,iter,ifs,0⟩] scope pos) 0 (.ref it) acc {cenv with scope:=relabel scope X.env}) (RR acc cenv.locals) s₄) E s₃) E s2:=by
 refine wpAny_newObj_type (wpAny_newFunctionEnv (compOk.cell ck) (by intro y hy;simp at hy) (fun h₁ hns₁ hsb₁=> ?_) hkind)
 dsimp only at hns₁ hsb₁⊢
 generalize hP:s2.heap.push {cls:= .type "list",dict:=none,data:= .seq ([]:List Value).toArray}=P1 at hns₁ hsb₁⊢
 have hC:P1.objs.size=s2.heap.objs.size+1:=by rw[<-hP,Heap.size_push]
 have hlt:∀b∈fp,b<s2.heap.objs.size:=fun b hb=>by
  obtain⟨o,e,_⟩:=T.obj _ _ st2 b hb
  exact Heap.lt_size e
 have old:∀b o,s2.heap.get? b=some o->h₁.get? b=some o:=fun b o e=>
  hsb₁.extBut b o (by rw[hC];exact Nat.ne_of_lt (Nat.lt_succ_of_lt (Heap.lt_size e))) (Heap.get?_push_of_some _ (hP▸Heap.get?_push_of_some _ e))
 have hD1:h₁.get? s2.heap.objs.size=some {cls:= .type "list",data:= .seq ([]:List Value).toArray 0}:=
  hsb₁.extBut _ _ (by rw[hC];exact Nat.ne_of_lt (Nat.lt_succ_self _)) (Heap.get?_push_of_some _ (hP▸Heap.get?_push_size _ rfl))
 generalize hDD:s2.heap.objs.size=D at *
 rw[hC]at hns₁⊢
 have entry:Inv (compCx X scope (own++caps) s2 H2 (clOf X.env.cells scope.names []) (D+1) fp) [] (iniOf own ix σ) H2 {s2 with heap:=h₁,toks:=s2.toks+([]:List (Str×Value)).length}:=
  comp_entry ck hkind hcap I2 f2 (by rw[hDD];exact hlt) (by rw[hDD];exact Nat.le_succ _) rfl I2.bare old hns₁
 generalize hX':compCx X scope (own++caps) s2 H2 (clOf X.env.cells scope.names []) (D+1) fp=X' at entry
 have eP:X'.prog=X.prog:=by rw[<-hX'];rfl
 have ew:X'.w=X.w:=by rw[<-hX'];rfl
 have eK:X'.K=X.K:=by rw[<-hX'];rfl
 have eA:X'.A=X.A:=by rw[<-hX'];rfl
 have ecalm:X'.calm=true:=by rw[<-hX'];exact hc
 have efs:X'.fs=frs X.stack:=by rw[<-hX'];rfl
 have eex:X'.ex=fp:=by rw[<-hX'];rfl
 have epn:X'.pn=[]:=by rw[<-hX'];rfl
 have es0:X'.s₀=s2:=by rw[<-hX'];rfl
 have eH0:X'.H₀=H2:=by rw[<-hX'];rfl
 have exe:X'.xe=fun _ _=>False:=by rw[<-hX'];rfl
 have eenv:X'.env=compEnvC scope (clOf X.env.cells scope.names []) (D+1) X.env:=by rw[<-hX'];rfl
 have eloc:X'.env.locals=D+1:=by rw[eenv];rfl
 have hg':PG X' tg g:=by rw[<-hX'];exact hg _ _ _ _ _
 have ht':PTs X' ifs tc:=by rw[<-hX'];exact ht _ _ _ _ _
 have he':PE X' elt te:=by rw[<-hX'];exact he _ _ _ _ _
 have ecl:∀x c,X'.env.cells.lookup x=some c->c<D:=fun x c e=>by
  obtain⟨v,o,ho,_⟩:=entry.cell x c e
  have hcn:=entry.freeC x c e
  -- a cell of the enclosing frame: it lies in s2's heap
  rw[eenv]at e
  rcases clOf_mem (PySem.mem_of_lookup e)with q|⟨q,mm⟩
  ·cases q
  ·obtain⟨d,hd⟩:=I2.ok.has x (compOk.free ck mm)
   rw[hd]at q
   have q:c=d:=q
   subst q
   obtain⟨v',o',ho',_⟩:=I2.cell x c hd
   rw[<-hDD]
   exact Heap.lt_size ho'
 have dfs:D∉frs X.stack:=fun hb=>by
  rcases List.mem_cons.mp (I2.stkSub D hb)with z|z
  ·exact absurd (Nat.lt_of_lt_of_eq I2.lt hDD) (by rw[z];exact Nat.lt_irrefl _)
  ·exact I2.nofs (Nat.le_of_eq hDD) z
 have fpn:∀{H':Hp} {o:Obj},(∀b∈fp,H' b=none)->∀b∈fp,FpOk X' [(D,o)] H' b:=fun{H' o} hn b hb=>by
  have hbl:=hlt b hb
  refine⟨hn b hb,by rw[eloc];exact Nat.ne_of_lt (Nat.lt_succ_of_lt hbl),?_,.inl (by rw[eex];exact hb),fun x c e=> ?_,fun p hp=> ?_⟩
  ·rw[efs]
   intro z
   rcases List.mem_cons.mp (I2.stkSub b z)with z|z
   ·exact(f2 b hb).2.1 z
   ·exact(f2 b hb).2.2.1 z
  ·rw[eenv]at e
   rcases clOf_mem (PySem.mem_of_lookup e)with q|⟨q,mm⟩
   ·cases q
   ·obtain⟨d,hd⟩:=I2.ok.has x (compOk.free ck mm)
    rw[hd]at q
    have q:c=d:=q
    subst q
    exact(f2 b hb).2.2.2.2.1 x c hd
  ·rw[epn]at hp
   have:p=(D,o):=by simpa using hp
   rw[this]
   exact Nat.ne_of_gt hbl
 have pinD:∀{σ':St} {H':Hp} {s':Shared} {o:Obj},Inv X' [] σ' H' s'->s'.heap.get? D=some o->H' D=none->(∀v,o.data≠.cell v)->Inv X' [(D,o)] σ' H' s':=fun{σ' H' s' o} I e n d=>
  I.pins_of fun p hp=>by
   have:p=(D,o):=by simpa using hp
   subst this
   exact⟨e,n,by rw[eloc];exact Nat.ne_of_lt (Nat.lt_succ_self D),by rw[efs];exact dfs,d⟩
 have loop:∀s₃:Shared,s₃={s2 with heap:=h₁,toks:=s2.toks+([]:List (Str×Value)).length}->
   codeAny (model X.prog X.w) X.A (.compLoop (.ListComp elt [⟨tg,iter,ifs,0⟩] scope pos) 0 (.ref it) (.ref D) X'.env) (RR (.ref D) (D+1)) s₃:=by
  intro s₃ hs₃
  refine codeAny_loop rfl (fun n s'=>∃i acc its k σ' H',Inv X' [] σ' H' s'/\tn i s'.heap/\(∀b∈fp,H' b=none)/\s'.heap.get? D=some {cls:= .type "list",data:= .seq (List.toArray its) k}/\Vals acc its/\H' D=none/\W i n acc σ' H') ?_ m0
   ⟨0,[],[],0,iniOf own ix σ,H2,by rw[hs₃];exact entry,by rw[hs₃];exact T.keep _ _ _ st2 fun b _ o e=>old b o e,fun b hb=>(f2 b hb).1,by rw[hs₃];exact hD1,.nil,I2.hok.fresh (Nat.le_of_eq hDD),w0⟩
  rintro n s3 ⟨i,acc,its,k,σ3,H3,I3,st3,fr3,eD,rv,nD,w3⟩
  show wpAny _ X.A ((compTurn (.ListComp elt [⟨tg,iter,ifs,0⟩] scope pos) 0 (.ref it) (.ref D) X'.env).onRaise (fun x=>do noteFrame x X'.env;theTreesLotGoes x)) _ _ s3
  refine wpAny_noted ?_
  rw[compTurn_list]
  have noE:∀{α:Type} {t:Sem α} {Q:α->Shared->Prop} {E':Value->Shared->Prop} {s:Shared},wpAny (model X'.prog X'.w) X'.A t Q X'.xe s->wpAny (model X.prog X.w) X.A t Q E' s:=fun{α t Q E' s} h=>by
   rw[eP,ew,eA,exe]at h
   exact wpAny_mono h (fun _ _ q=>q) fun _ _ z=>z.elim
  have I3':=pinD (o:={cls:= .type "list",data:= .seq (List.toArray its) k}) I3 eD nD (fun v z=>by
   have z':Data.seq (List.toArray its) k=Data.cell v:=z
   cases z')
  refine wpAny_bind (wpAny_standAt (wpAny_bind ?_))
  rcases turn i n acc σ3 H3 w3 with⟨stop,hz,fin⟩|⟨go,hz,Nn,hN,step⟩
  ·have q:=T.done X' eP ew eK ecalm i [(D,_)] s3 σ3 H3 (notedBy (model X.prog X.w) X.A X'.env fun e s'=>RR (.ref D) (D+1) (.error e) s') I3' (fpn fr3) st3 stop
   rw[eA]at q
   refine thn q fun r s4 ⟨hr,I4⟩=> ?_
   subst hr
   refine wpAny_pure ?_
   obtain⟨e4,_⟩:=I4.pin (D,_) (List.mem_append_right _ List.mem_cons_self)
   obtain⟨mC,hnC,_⟩:=I4.loc
   have u4:=I4.base
   rw[efs,eex,eH0,es0]at u4
   have ok4:=I4.hok
   rw[eP,ew]at ok4
   have nC:H3 (D+1)=none:=by have:=I4.free;rw[eloc]at this;exact this
   have hok:HOk X.prog X.w (upd H3 D (.lst acc)) s4.heap:=ok4.add nD ⟨hz,its,k,rv,e4⟩
   refine hRR D (D+1) s4 acc H3 mC ?_ nD (by rw[eloc]at hnC;exact hnC) ?_ fin
   ·refine I2.call' (s':=s4) (ch:=fp) ?_ (u4.add (by rw[hDD];exact Nat.le_refl _) nD) hok I4.bare fun b hb=> ?_
    ·have:=I4.os;rw[es0]at this;exact this
    ·obtain⟨f0,f1,f3,f4,f5,f6⟩:=f2 b hb
     exact⟨f4,f1,f5,f6⟩
   ·refine I2.fpOk (by rw[hDD];exact Nat.le_succ _) ?_
    rw[zap (Nat.ne_of_gt (Nat.lt_succ_self D))]
    exact nC
  ·have q:=T.item X' eP ew eK ecalm i [(D,_)] s3 σ3 H3 (notedBy (model X.prog X.w) X.A X'.env fun e s'=>RR (.ref D) (D+1) (.error e) s') I3' (fpn fr3) st3 go
   rw[eA]at q
   refine thn q fun r s4 ⟨u,hr,h4⟩=> ?_
   subst hr
   dsimp only
   refine wpAny_bind (thn h4 fun _ s5 ⟨x,H5,I5,r5,y5,st5,fr5⟩=> ?_)
   have I5':=I5.pinned (fpn fr5) (T.obj _ _ st5)
   have again:∀{σ7:St} {H7:Hp} {s7:Shared},Inv X' ([(D,{cls:= .type "list",data:= .seq (List.toArray its) k})]++pinsAt fp s5.heap) σ7 H7 s7->tn (i+1) s7.heap/\(∀b∈fp,H7 b=none)/\s7.heap.get? D=some {cls:= .type "list",data:= .seq (List.toArray its) k}/\H7 D=none:=fun{σ7 H7 s7} I7=>by
    refine⟨T.keep _ _ _ st5 fun b hb o e=>(I7.pin (b,o) (List.mem_append_right _ (List.mem_append_right _ (mem_pinsAt hb e)))).1,fun b hb=> ?_,?_⟩
    ·obtain⟨o,e,d⟩:=T.obj _ _ st5 b hb
     exact(I7.pin (b,o) (List.mem_append_right _ (List.mem_append_right _ (mem_pinsAt hb e)))).2.1
    ·have:=I7.pin (D,_) (List.mem_append_right _ (List.mem_append_left _ List.mem_cons_self))
     exact⟨this.1,this.2.1⟩
   refine wpAny_bind (thn (noE (hg' _ s5 σ3 H5 x u _ I5' r5 (step x H5 y5))) fun _ s6 ⟨σ6,H6,I6,q6⟩=> ?_)
   refine wpAny_bind (thn (noE (ht' _ s6 σ6 H6 _ I6 q6)) fun ok s7 ⟨H7,I7,q7⟩=> ?_)
   cases ok with
   |false=>
    rw[if_neg Bool.false_ne_true]at q7
    obtain⟨m',hm,w7⟩:=hN _ _ _ q7
    obtain⟨a1,a2,a3,a4⟩:=again I7
    exact wpAny_pure ⟨rfl,m',hm,i+1,acc,its,k,σ6,H7,I7.pins_of (fun p hp=>nomatch hp),a1,a2,a3,rv,a4,w7⟩
   |true=>
    rw[if_pos rfl]at q7
    refine wpAny_bind (wpAny_bind (thn (noE (he' _ s7 σ6 H7 _ I7 q7)) fun v s8 ⟨y,H8,I8,r8,q8⟩=> ?_))
    obtain⟨m',hm,w8⟩:=hN _ _ _ q8
    obtain⟨a1,a2,a3,a4⟩:=again I8
    have hl:=rv.length
    refine wpAny_bind (call_meets F.slot_list_append ⟨_,a3,rfl⟩ F.entry_list_append (F.args_list_append_2 _ _) (PySem.list_append D its.toArray k v (by rw[List.size_toArray];omega)) ⟨a3,?_⟩)
    refine wpAny_pure (wpAny_pure ⟨rfl,m',hm,i+1,acc++[y],its++[v],?_⟩)
    have qD:=PySem.IsL.update a3 (fun a:Array Value=>a.push v)
    rw[List.push_toArray]at qD
    have kp:∀b o,b≠D->s8.heap.get? b=some o->(s8.heap.update D (Obj.mapSeq fun a=>a.push v)).get? b=some o:=fun b o hb e=>(Heap.get?_update_other s8.heap _ (Ne.symm hb)).trans e
    have I8':Inv X' [] σ6 H8 {s8 with heap:=s8.heap.update D (Obj.mapSeq fun a=>a.push v)}:=by
     refine(I8.pins_of (pins':=[]) (fun p hp=>nomatch hp)).turned (t':=s8.toks) (it:=D) kp a4 (by rw[eloc];exact Nat.ne_of_lt (Nat.lt_succ_self D)) (.inr (by rw[es0,hDD];exact Nat.le_refl _)) (fun x c e=>Nat.ne_of_lt (ecl x c e)) (fun p hp=> ?_)
     rw[epn]at hp
     exact nomatch hp
    exact⟨_,σ6,H8,I8',T.keep _ _ _ a1 fun b hb o e=>kp b o (Nat.ne_of_lt (hlt b hb)) e,a2,qD,rv.append (.cons r8 .nil),a4,w8⟩
 have eenv':({newEnv scope (D+1) X.env.globals (clOf X.env.cells scope.names []) X.env.qual none Value.none (some X.env) 0 with scope:=relabel scope X.env}:Env)=X'.env:=by rw[eenv];rfl
 have L:=loop _ rfl
 rw[<-eenv']at L
 exact codeAny_compStart_list L (T.self X.A 0 _ _ _ (T.keep _ _ _ st2 fun b _ o e=>old b o e) L)
end
end L2
namespace L2
open PySem PySem.Spec PyProof.Rows
noncomputable def CompW(J:It)(ini:St)(H:Hp)(g:TG)(tc:TT)(te:TE)(Fin:List V->Hp->Prop):Prop:=
 ∃W:Nat->Nat->List V->St->Hp->Prop,(∃m,W 0 m [] ini H)/\∀i m acc σ H,W i m acc σ H->
  (J.stop i H/\acc.length<=sizeLine/\Fin acc H)\/(J.go i H/\acc.length<sizeLine/\∃N:List V->St->Hp->Prop,(∀acc' σ' H',N acc' σ' H'->∃m',m'<m/\W (i+1) m' acc' σ' H')/\∀x H',J.yld i H x H'->g x σ H' fun σ2 H2=>tc σ2 H2 fun b H3=>
   if b=true then te σ2 H3 fun v H4=>N (acc++[v]) σ2 H4 else N acc σ2 H3)
noncomputable def tComp(wi:TI)(own:List Str)(ix:List Nat)(g:TG)(tc:TT)(te:TE):TE:=fun σ H Q=>wi σ H fun J H1=>
 CompW J (iniOf own ix σ) H1 g tc te fun acc H'=>∀p,H' p=none->Q (.ref p) (upd H' p (.lst acc))
section
variable{X:Cx}{tg iter elt:Expr}{ifs:List Expr}{scope:Scope}{pos:Pos}{own caps:List Str}{ix:List Nat}{wi:TI}{g:TG}{tc:TT}{te:TE}
theorem zbo(hc:X.calm=true)(hi:PI X tg iter wi)(ck:compOk X.env.scope scope=true)(hkind:scope.kind= .function)(hcap:Caps X scope caps ix)(hg:∀s H cl C ex,PG (compCx X scope (own++caps) s H cl C ex) tg g)(ht:∀s H cl C ex,PTs (compCx X scope (own++caps) s H cl C ex) ifs tc)(he:∀s H cl C ex,PE (compCx X scope (own++caps) s H cl C ex) elt te)(hs:∀x,foldedSetIterable iter X.env x=pure x:=by intro _;rfl):PE X (.ListComp elt [⟨tg,iter,ifs,0⟩] scope pos) (tComp wi own ix g tc te):=by
 intro pins s σ H Q I h
 rw[eval_ListComp]
 refine wpAny_comprehension_free (use:=none) rfl hs (closure_of fun x hx=>I.ok.has x (compOk.free ck hx)) hkind (compOk.names ck) (thn (hi pins s σ H _ I h) fun xv s1 h1=>thn h1 fun itv s2 h2=> ?_)
 obtain⟨it,fp,tn,J,H2,e,I2,T,st2,f2,W,⟨m0,w0⟩,turn⟩:=h2
 subst e
 refine comp_core (RR:=fun acc C=>compPost (model X.prog X.w) X.A X.xe none (EP X pins σ Q) acc C) ck hkind hcap hc hg ht he I2 T st2 f2 w0 turn ?_
 intro D C s' acc Hf m I' nD hn fC fin
 refine⟨m,hn,fun h' sb=> ?_⟩
 obtain⟨f0,f1,f3,f4,f5,f6⟩:=fC
 exact⟨.ref D,_,I'.turned (t':=s'.toks) (it:=C) (fun b o hb e=>(sb.2 b hb).trans e) f0 f1 f4 f5 f6,rfl,fin D nD⟩
theorem zdh{i:Nat}{y:Str}{py spos:Pos}(hN:X.N.Nodup)(hiN:X.N[i]? =some y)(hx:Loc X.env.scope y)(hc:X.calm=true)(hi:PI X tg iter wi)(ck:compOk X.env.scope scope=true)(hkind:scope.kind= .function)(hcap:Caps X scope caps ix)(hg:∀s H cl C ex,PG (compCx X scope (own++caps) s H cl C ex) tg g)(ht:∀s H cl C ex,PTs (compCx X scope (own++caps) s H cl C ex) ifs tc)(he:∀s H cl C ex,PE (compCx X scope (own++caps) s H cl C ex) elt te)(hsw:swapsWith (.ListComp elt [⟨tg,iter,ifs,0⟩] scope pos) (some (.Name y py)) spos.line X.env=pure true:=by rfl)(hf:X.fn y=true\/X.env.scope.names.lookup y=some .local:=by first |exact .inl rfl|exact .inr rfl|assumption)(hs:∀x,foldedSetIterable iter X.env x=pure x:=by intro _;rfl):PS X (.Assign [.Name y py] (.ListComp elt [⟨tg,iter,ifs,0⟩] scope pos) spos) (tAsg (tComp wi own ix g tc te) (gName i)):=by
 intro pins s σ H Dn I h
 rw[exec_Assign_Name_used _ _ _ _ hsw]
 refine wpAny_bind (wpAny_standAt (wpAny_bind ?_))
 show wpAny _ X.A (do let _<-comprehension (.ListComp elt [⟨tg,iter,ifs,0⟩] scope pos) scope X.env _ (newList []) false (eval iter X.env) (some (assign (.Name y py) X.env))) _ _ s
 refine wpAny_bind (wpAny_mono (wpAny_comprehension_free (use:=some (assign (.Name y py) X.env)) (Q:=fun _ s'=>SP X pins Dn .next s') rfl hs (closure_of fun x hx=>I.ok.has x (compOk.free ck hx)) hkind (compOk.names ck)
  (thn (hi pins s σ H _ I h) fun xv s1 h1=>thn h1 fun itv s2 h2=> ?_)) (fun _ s' hq=>wpAny_pure (wpAny_pure hq)) fun _ _ e=>e)
 obtain⟨it,fp,tn,J,H2,e,I2,T,st2,f2,W,⟨m0,w0⟩,turn⟩:=h2
 subst e
 refine comp_core (RR:=fun acc C=>compPost (model X.prog X.w) X.A X.xe (some (assign (.Name y py) X.env)) (fun _ s'=>SP X pins Dn .next s') acc C) ck hkind hcap hc hg ht he I2 T st2 f2 w0 turn ?_
 intro D C s' acc Hf m I' nD hn fC fin
 obtain⟨f0,f1,f3,f4,f5,f6⟩:=fC
 show wpAny _ X.A (assign (.Name y py) X.env (.ref D)) _ _ _
 refine wpAny_assign_Name (store_ok2 I' hN hiN hx (show RelV (.ref D) (.ref D)from rfl) (fun s'' I'' ⟨a,sb,ha⟩=> ?_) hf)
 have hCa:C≠a:=by
  rcases ha with ha|ha
  ·rw[ha];exact f1
  ·exact fun z=>f5 y a ha z.symm
 refine⟨m,hn.sameBut sb hCa,fun h' sb'=> ?_⟩
 exact⟨_,_,I''.turned (t':=s''.toks) (it:=C) (fun b o hb e=>(sb'.2 b hb).trans e) f0 f1 f4 f5 f6,fin D nD⟩
end
section
variable{K:W.Frag}{a:Addr}{xs:List V}{g:TG}{tc:TT}{te:TE}{Fin:List V->Hp->Prop}{ini:St}{H:Hp}
theorem zde(Pv:Nat->List V->St->Hp->Prop)(h0:Pv 0 [] ini H)(hl:∀(i:Nat) acc σ H,i<=xs.length->Pv i acc σ H->SqL K H a xs)(hz:∀(i:Nat) acc σ H,i<=xs.length->Pv i acc σ H->acc.length<=i)(hx:xs.length<=sizeLine)(hs:∀(i:Nat) x acc σ H,xs[i]? =some x->Pv i acc σ H->g x σ H fun σ2 H2=>tc σ2 H2 fun b H3=>if b=true then te σ2 H3 fun v H4=>Pv (i+1) (acc++[v]) σ2 H4 else Pv (i+1) acc σ2 H3)(hd:∀acc σ H,Pv xs.length acc σ H->Fin acc H):CompW (Itl K a) ini H g tc te Fin:=by
 refine⟨fun i m acc σ H=>m=xs.length-i/\i<=xs.length/\Pv i acc σ H,⟨xs.length,by simp,Nat.zero_le _,h0⟩,?_⟩
 rintro i m acc σ H ⟨rfl,hi,p⟩
 have q:=hl i acc σ H hi p
 have z:=hz i acc σ H hi p
 by_cases hlt:i<xs.length
 ·refine .inr ⟨⟨xs,xs[i],q,by simp[hlt]⟩,by omega,fun acc σ H=>Pv (i+1) acc σ H,fun acc' σ' H' r=>⟨_,by omega,rfl,hlt,r⟩,fun x H' y=> ?_⟩
  obtain⟨e,y⟩:=y
  subst e
  exact hs i x acc σ _ (y xs q) p
 ·have e:i=xs.length:=by omega
  subst e
  exact .inl ⟨⟨xs,q,Nat.le_refl _⟩,by omega,hd acc σ H p⟩
theorem comp_tup(Pv:Nat->List V->St->Hp->Prop)(h0:Pv 0 [] ini H)(hl:∀(i:Nat) acc σ H,i<=xs.length->Pv i acc σ H->SqT K H a xs)(hz:∀(i:Nat) acc σ H,i<=xs.length->Pv i acc σ H->acc.length<=i)(hx:xs.length<=sizeLine)(hs:∀(i:Nat) x acc σ H,xs[i]? =some x->Pv i acc σ H->g x σ H fun σ2 H2=>tc σ2 H2 fun b H3=>if b=true then te σ2 H3 fun v H4=>Pv (i+1) (acc++[v]) σ2 H4 else Pv (i+1) acc σ2 H3)(hd:∀acc σ H,Pv xs.length acc σ H->Fin acc H):CompW (Itt K a) ini H g tc te Fin:=by
 refine⟨fun i m acc σ H=>m=xs.length-i/\i<=xs.length/\Pv i acc σ H,⟨xs.length,by simp,Nat.zero_le _,h0⟩,?_⟩
 rintro i m acc σ H ⟨rfl,hi,p⟩
 have q:=hl i acc σ H hi p
 have z:=hz i acc σ H hi p
 by_cases hlt:i<xs.length
 ·refine .inr ⟨⟨xs,xs[i],q,by simp[hlt]⟩,by omega,fun acc σ H=>Pv (i+1) acc σ H,fun acc' σ' H' r=>⟨_,by omega,rfl,hlt,r⟩,fun x H' y=> ?_⟩
  obtain⟨e,y⟩:=y
  subst e
  exact hs i x acc σ _ (y xs q) p
 ·have e:i=xs.length:=by omega
  subst e
  exact .inl ⟨⟨xs,q,Nat.le_refl _⟩,by omega,hd acc σ H p⟩
theorem zbu{lo:Int}{n:Nat}(Pv:Nat->List V->St->Hp->Prop)(h0:Pv 0 [] ini H)(hz:∀(i:Nat) acc σ H,i<=n->Pv i acc σ H->acc.length<=i)(hx:n<=sizeLine)(hs:∀(i:Nat) acc σ H,i<n->Pv i acc σ H->g (.int (lo+i)) σ H fun σ2 H2=>tc σ2 H2 fun b H3=>if b=true then te σ2 H3 fun v H4=>Pv (i+1) (acc++[v]) σ2 H4 else Pv (i+1) acc σ2 H3)(hd:∀acc σ H,Pv n acc σ H->Fin acc H):CompW (Itr lo n) ini H g tc te Fin:=by
 refine⟨fun i m acc σ H=>m=n-i/\i<=n/\Pv i acc σ H,⟨n,by simp,Nat.zero_le _,h0⟩,?_⟩
 rintro i m acc σ H ⟨rfl,hi,p⟩
 have z:=hz i acc σ H hi p
 by_cases hlt:i<n
 ·refine .inr ⟨hlt,by omega,fun acc σ H=>Pv (i+1) acc σ H,fun acc' σ' H' r=>⟨_,by omega,rfl,hlt,r⟩,fun x H' y=> ?_⟩
  obtain⟨e,y⟩:=y
  subst e y
  exact hs i acc σ _ hlt p
 ·have e:i=n:=by omega
  subst e
  exact .inl ⟨Nat.le_refl _,by omega,hd acc σ H p⟩
end
end L2
namespace Srt
open PySem PySem.W PyProof.Rows
section
variable{O:KeyOrd}{key:Nat->O.α}{N:Nat}{cmp:Nat->Nat->(Bool->Shared->Prop)->Shared->Prop}{s:Shared}
noncomputable def AskOk(O:KeyOrd)(key:Nat->O.α)(N:Nat)(cmp:Nat->Nat->(Bool->Shared->Prop)->Shared->Prop)(s:Shared):Prop:=
 ∀i j (C:Bool->Shared->Prop),i<N->j<N->C (O.blt (key i) (key j)) s->cmp i j C s
noncomputable def KN(key:Nat->O.α)(p:Array Nat)(i:Nat):O.α:=key (p.getD i 0)
noncomputable def So(key:Nat->O.α)(p:Array Nat)(k:Nat):Prop:=∀i j,i<=j->j<k->O.kle (KN key p i) (KN key p j)
noncomputable def Ni(key:Nat->O.α)(p:Array Nat)(k:Nat):Prop:=∀i j,i<=j->j<k->O.kle (KN key p j) (KN key p i)
structure Ord(N:Nat)(p:Array Nat):Prop where
 perm:p.Perm (List.toArray (List.range N))
theorem Ord.size{p:Array Nat}(h:Ord N p):p.size=N:=by have:=h.perm.size_eq;simpa using this
theorem Ord.lt{p:Array Nat}(h:Ord N p){i:Nat}(hi:i<N):p.getD i 0<N:=by
 have hi':i<p.size:=by rw[h.size];exact hi
 have e:p.getD i 0=p[i]:=by simp[Array.getD,hi']
 rw[e]
 have m:p[i]∈p.toList:=by simp
 have:=(Array.perm_iff_toList_perm.mp h.perm).mem_iff.mp m
 simpa using this
theorem Ord.rev{p:Array Nat}(h:Ord N p)(i j:Nat):Ord N (kas_rev p i j):=⟨(mirror_perm _ _ _ _).trans h.perm⟩
theorem Ord.bub{p:Array Nat}(h:Ord N p)(i j:Nat):Ord N (bubble p i j):=⟨(bubble_perm _ _ _).trans h.perm⟩
theorem getD_q(p:Array Nat)(i:Nat):p.getD i 0=(p[i]?).getD 0:=by simp
theorem KN_rev{p:Array Nat}{i j:Nat}(hj:j<=p.size)(k:Nat):KN key (kas_rev p i j) k=if i<=k/\k<j then KN key p (i+j-1-k)else KN key p k:=by
 have e:=getElem?_mirror_all (i:=i) hj k
 unfold KN kas_rev
 rw[getD_q,e]
 split
 ·rw[getD_q]
 ·rw[getD_q]
theorem KN_rev_equal{p:Array Nat}{i j:Nat}(hj:j<=p.size)(heq:∀k,i<=k->k<j->KN key p k=KN key p (j-1))(k:Nat):KN key (kas_rev p i j) k=KN key p k:=by
 rw[KN_rev hj]
 split
 ·rename_i h
  rw[heq k h.1 h.2,heq _ (by omega) (by omega)]
 ·rfl
theorem KN_bub{p:Array Nat}{src d:Nat}(hs:src<p.size)(hd:d<=src)(k:Nat):KN key (bubble p src d) k=if k=src-d then KN key p src else if src-d<k/\k<=src then KN key p (k-1)else KN key p k:=by
 have e:=getElem?_bubble hs d hd k
 have q:KN key (bubble p src d) k=key (((bubble p src d)[k]?).getD 0):=congrArg key (getD_q _ _)
 have q2:∀i,KN key p i=key ((p[i]?).getD 0):=fun i=>congrArg key (getD_q _ _)
 rw[q,e,q2,q2,q2]
 by_cases h1:k=src-d
 ·rw[if_pos h1,if_pos h1]
 ·rw[if_neg h1,if_neg h1]
  by_cases h2:src-d<k/\k<=src
  ·rw[if_pos h2,if_pos h2]
  ·rw[if_neg h2,if_neg h2]
theorem lt_pred{i j:Nat}(h:i<=j)(hn:¬i=j):i<=j-1:=Nat.le_sub_one_of_lt (Nat.lt_of_le_of_ne h hn)
theorem eq_top{j n:Nat}(h:j<n+1)(hn:¬j<n):j=n:=Nat.le_antisymm (Nat.le_of_lt_succ h) (Nat.not_lt.mp hn)
theorem pred_lt'{x k:Nat}(h:1<=x)(hk:x<=k):x-1<k:=Nat.sub_one_lt_of_le h hk
theorem lt_mid{x f N:Nat}(h:x+(f+1)<=N):x<N:=Nat.lt_of_lt_of_le (Nat.lt_add_of_pos_right (Nat.succ_pos f)) h
theorem up_one{x f N:Nat}(h:x+(f+1)<=N):x+1+f<=N:=Nat.le_trans (Nat.le_of_eq (Nat.succ_add_eq_add_succ x f)) h
theorem up_le{x f m:Nat}(h:m<=x+1+f):m<=x+(f+1):=Nat.le_trans h (Nat.le_of_eq (Nat.succ_add_eq_add_succ x f))
theorem rev_le{i j n:Nat}(h:i<=j):0+n-1-j<=0+n-1-i:=Nat.sub_le_sub_left h _
theorem rev_lt{i n:Nat}(h:i<n):0+n-1-i<n:=by
 rw[Nat.zero_add]
 exact Nat.lt_of_le_of_lt (Nat.sub_le _ _) (Nat.sub_one_lt_of_le (Nat.lt_of_le_of_lt (Nat.zero_le _) h) (Nat.le_refl _))
theorem asc(ok:AskOk O key N cmp s){p:Array Nat}(hp:Ord N p){Q:Nat->Shared->Prop}:∀(f n:Nat),1<=n->n+f<=N->So key p n->(∀m,n<=m->m<=n+f->So key p m->(m=n+f\/O.klt (KN key p m) (KN key p (m-1)))->Q m s)->(kas_asc p f n).kasWp cmp Q s
 |0,n,_,_,hs,h=>h n (Nat.le_refl _) (Nat.le_refl _) hs (.inl rfl)
 |f+1,n,h1,hn,hs,h=>by
  have hnN:n<N:=lt_mid hn
  refine ok _ _ _ (hp.lt hnN) (hp.lt (pred_lt' h1 (Nat.le_of_lt hnN))) ?_
  cases hless:O.blt (key (p.getD n 0)) (key (p.getD (n-1) 0))with
  |true=>
   show Q n s
   exact h n (Nat.le_refl _) (Nat.le_add_right _ _) hs (.inr hless)
  |false=>
   show(kas_asc p f (n+1)).kasWp cmp Q s
   refine asc ok hp f (n+1) (Nat.succ_pos _) (up_one hn) (fun i j hij hj=> ?_) fun m a b c d=>h m (Nat.le_of_succ_le a) (up_le b) c (d.imp (fun z=>z.trans (Nat.succ_add_eq_add_succ n f)) id)
   by_cases hjn:j<n
   ·exact hs i j hij hjn
   ·have hj':j=n:=eq_top hj hjn
    subst hj'
    by_cases hi':i=j
    ·subst hi';exact KeyOrd.kle_refl _
    ·exact KeyOrd.kle_trans (hs i (j-1) (lt_pred hij hi') (pred_lt' h1 (Nat.le_refl _))) hless
theorem tail3(ok:AskOk O key N cmp s){p:Array Nat}(hp:Ord N p){n:Nat}{Q:Nat×Array Nat->Shared->Prop}(h1:1<=n)(hn:n<=N)(hs:Ni key p n)(h:∀m p',Ord N p'->1<=m->m<=N->So key p' m->Q (m,p') s):(kas_tail3 n N p).kasWp cmp Q s:=by
 unfold kas_tail3
 rw[KasT.kasWp_bind]
 have hsz:n<=p.size:=by rw[hp.size];exact hn
 have hN:n+(N-n)=N:=Nat.add_sub_cancel' hn
 refine asc ok (hp.rev 0 n) (N-n) n h1 (Nat.le_of_eq hN) (fun i j hij hj=> ?_) fun m a b c _=>h m _ (hp.rev 0 n) (Nat.le_trans h1 a) (Nat.le_trans b (Nat.le_of_eq hN)) c
 rw[KN_rev hsz,KN_rev hsz,if_pos ⟨Nat.zero_le _,Nat.lt_of_le_of_lt hij hj⟩,if_pos ⟨Nat.zero_le _,hj⟩]
 exact hs _ _ (rev_le hij) (rev_lt (Nat.lt_of_le_of_lt hij hj))
theorem desc1{p p':Array Nat}{x:Nat}(h1:1<=x)(hs:Ni key p x)(hless:O.kle (KN key p x) (KN key p (x-1)))(hk:∀k,KN key p' k=KN key p k):Ni key p' (x+1):=by
 intro i j hij hj
 rw[hk,hk]
 by_cases hjx:j<x
 ·exact hs i j hij hjx
 ·have hj':j=x:=eq_top hj hjx
  subst hj'
  by_cases hi':i=j
  ·subst hi';exact KeyOrd.kle_refl _
  ·exact KeyOrd.kle_trans hless (hs i (j-1) (lt_pred hij hi') (pred_lt' h1 (Nat.le_refl _)))
theorem one_eq{p:Array Nat}{x i:Nat}(h1:x+1-(0+1)<=i)(h2:i<x+1):KN key p i=KN key p (x+1-1):=congrArg _ (Nat.le_antisymm (Nat.le_of_lt_succ h2) h1)
theorem desc(ok:AskOk O key N cmp s){Q:Array Nat×Nat×Nat->Shared->Prop}:∀(f:Nat) (p:Array Nat) (x neq:Nat),Ord N p->1<=x->x+f<=N->Ni key p x->neq+1<=x->(∀i,x-(neq+1)<=i->i<x->KN key p i=KN key p (x-1))->
  (∀p' m q,Ord N p'->x<=m->m<=x+f->Ni key p' m->q+1<=m->(∀i,m-(q+1)<=i->i<m->KN key p' i=KN key p' (m-1))->Q (p',m,q) s)->(kas_desc f p x neq).kasWp cmp Q s
 |0,p,x,neq,hp,_,_,hs,hq,he,h=>h p x neq hp (Nat.le_refl _) (Nat.le_refl _) hs hq he
 |f+1,p,x,neq,hp,h1,hn,hs,hq,he,h=>by
  have hxN:x<N:=lt_mid hn
  have hsz:x<=p.size:=by rw[hp.size];exact Nat.le_of_lt hxN
  have hx1:x-1<N:=pred_lt' h1 (Nat.le_of_lt hxN)
  have hh:∀p' m q,Ord N p'->x+1<=m->m<=x+1+f->Ni key p' m->q+1<=m->(∀i,m-(q+1)<=i->i<m->KN key p' i=KN key p' (m-1))->Q (p',m,q) s:=fun p' m q a b c d e g=>h p' m q a (Nat.le_of_succ_le b) (up_le c) d e g
  refine ok _ _ _ (hp.lt hxN) (hp.lt hx1) ?_
  cases hless:O.blt (key (p.getD x 0)) (key (p.getD (x-1) 0))with
  |true=>
   show(if neq>0 then kas_desc f (kas_rev p (x-(neq+1)) x) (x+1) 0 else kas_desc f p (x+1) 0).kasWp cmp Q s
   by_cases hneq:neq>0
   ·rw[if_pos hneq]
    exact desc ok f _ (x+1) 0 (hp.rev _ _) (Nat.succ_pos _) (up_one hn) (desc1 h1 hs (KeyOrd.kle_of_klt hless) (KN_rev_equal hsz he)) (Nat.succ_pos _) (fun i h1 h2=>one_eq h1 h2) hh
   ·rw[if_neg hneq]
    exact desc ok f _ (x+1) 0 hp (Nat.succ_pos _) (up_one hn) (desc1 h1 hs (KeyOrd.kle_of_klt hless) fun _=>rfl) (Nat.succ_pos _) (fun i h1 h2=>one_eq h1 h2) hh
  |false=>
   show(KasT.ask (p.getD (x-1) 0) (p.getD x 0) fun d=>if d=true then KasT.ret (p,x,neq)else kas_desc f p (x+1) (neq+1)).kasWp cmp Q s
   refine ok _ _ _ (hp.lt hx1) (hp.lt hxN) ?_
   cases hl:O.blt (key (p.getD (x-1) 0)) (key (p.getD x 0))with
   |true=>exact h p x neq hp (Nat.le_refl _) (Nat.le_add_right _ _) hs hq he
   |false=>
    show(kas_desc f p (x+1) (neq+1)).kasWp cmp Q s
    have heqx:KN key p x=KN key p (x-1):=KeyOrd.kle_antisymm hl hless
    refine desc ok f _ (x+1) (neq+1) hp (Nat.succ_pos _) (up_one hn) (desc1 h1 hs (by rw[heqx];exact KeyOrd.kle_refl _) fun _=>rfl) (Nat.succ_le_succ hq) (fun i h1 h2=> ?_) hh
    show KN key p i=KN key p x
    by_cases hix:i=x
    ·subst hix;rfl
    ·rw[heqx];exact he i (Nat.le_trans (Nat.le_of_eq (Nat.succ_sub_succ x (neq+1)).symm) h1) (Nat.lt_of_le_of_ne (Nat.le_of_lt_succ h2) hix)
theorem descPart(ok:AskOk O key N cmp s){p:Array Nat}(hp:Ord N p){n:Nat}{Q:Nat×Array Nat->Shared->Prop}(hn:n+1<=N)(hs:Ni key p (n+1))(h:∀m p',Ord N p'->1<=m->m<=N->So key p' m->Q (m,p') s):(kas_descPart n N p).kasWp cmp Q s:=by
 unfold kas_descPart
 rw[KasT.kasWp_bind]
 have hN:n+1+(N-(n+1))<=N:=Nat.le_of_eq (Nat.add_sub_cancel' hn)
 refine desc ok _ _ _ _ hp (Nat.succ_pos _) hN hs (Nat.succ_pos _) (fun i h1 h2=>one_eq h1 h2) fun p' m q a b c d e g=> ?_
 have hm:m<=N:=Nat.le_trans c hN
 have hm1:1<=m:=Nat.le_trans (Nat.succ_pos _) b
 have hsz:m<=p'.size:=by rw[a.size];exact hm
 dsimp only
 by_cases hq:q>0
 ·rw[if_pos hq]
  refine tail3 ok (a.rev _ _) hm1 hm (fun i j hij hj=> ?_) h
  rw[KN_rev_equal hsz g,KN_rev_equal hsz g]
  exact d i j hij hj
 ·rw[if_neg hq]
  exact tail3 ok a hm1 hm d h
theorem count(ok:AskOk O key N cmp s){p:Array Nat}(hp:Ord N p){Q:Nat×Array Nat->Shared->Prop}(h1:1<=N)(h:∀m p',Ord N p'->1<=m->m<=N->So key p' m->Q (m,p') s):(kas_count N p).kasWp cmp Q s:=by
 unfold kas_count
 rw[KasT.kasWp_bind]
 have hN:1+(N-1)=N:=Nat.add_sub_cancel' h1
 refine asc ok hp (N-1) 1 (Nat.le_refl _) (Nat.le_of_eq hN) (fun i j hij hj=>by
  have hj0:j=0:=Nat.lt_one_iff.mp hj
  subst hj0
  have hi0:i=0:=Nat.le_zero.mp hij
  subst hi0;exact KeyOrd.kle_refl _) fun n a b hsn hor=> ?_
 have hnN:n<=N:=Nat.le_trans b (Nat.le_of_eq hN)
 by_cases hnn:n=N
 ·rw[if_pos (by simpa using hnn)]
  exact h n p hp a hnN hsn
 ·rw[if_neg (by simpa using hnn)]
  have hlt:O.klt (KN key p n) (KN key p (n-1)):=hor.resolve_left fun z=>hnn (z.trans hN)
  have hln:n<N:=Nat.lt_of_le_of_ne hnN hnn
  by_cases hgt:n>1
  ·rw[if_pos hgt]
   have hn1:n-1<n:=pred_lt' a (Nat.le_refl _)
   refine ok _ _ _ (hp.lt h1) (hp.lt (Nat.lt_trans hn1 hln)) ?_
   cases hrose:O.blt (key (p.getD 0 0)) (key (p.getD (n-1) 0))with
   |true=>exact h n p hp a hnN hsn
   |false=>
    show(kas_descPart n N (kas_rev p 0 n)).kasWp cmp Q s
    have hsz:n<=p.size:=by rw[hp.size];exact hnN
    have hall:∀k,0<=k->k<n->KN key p k=KN key p (n-1):=fun k _ hk=>
     KeyOrd.kle_antisymm (hsn k (n-1) (Nat.le_sub_one_of_lt hk) hn1) (KeyOrd.kle_trans hrose (hsn 0 k (Nat.zero_le _) hk))
    refine descPart ok (hp.rev 0 n) hln (fun i j hij hj=> ?_) h
    rw[KN_rev_equal hsz hall,KN_rev_equal hsz hall]
    by_cases hjn:j<n
    ·rw[hall i (Nat.zero_le _) (Nat.lt_of_le_of_lt hij hjn),hall j (Nat.zero_le _) hjn];exact KeyOrd.kle_refl _
    ·have hj':j=n:=eq_top hj hjn
     subst hj'
     by_cases hi':i=j
     ·subst hi';exact KeyOrd.kle_refl _
     ·rw[hall i (Nat.zero_le _) (Nat.lt_of_le_of_ne hij hi')];exact KeyOrd.kle_of_klt hlt
  ·rw[if_neg hgt]
   have hn1':n=1:=Nat.le_antisymm (Nat.not_lt.mp hgt) a
   subst hn1'
   refine descPart ok hp hln (fun i j hij hj=> ?_) h
   by_cases hi':i=j
   ·subst hi';exact KeyOrd.kle_refl _
   ·have hij':i<j:=Nat.lt_of_le_of_ne hij hi'
    have hj1:j=1:=Nat.le_antisymm (Nat.le_of_lt_succ hj) (Nat.lt_of_le_of_lt (Nat.zero_le i) hij')
    subst hj1
    have hi0:i=0:=Nat.lt_one_iff.mp hij'
    subst hi0
    exact KeyOrd.kle_of_klt hlt
theorem half_lt{l r:Nat}(h:l<r):(l+r)/2<r:=by omega
theorem half_ge{l r:Nat}(h:l<r):l<=(l+r)/2:=by omega
theorem place(ok:AskOk O key N cmp s){p:Array Nat}(hp:Ord N p){k:Nat}{Q:Nat->Shared->Prop}(hk:k<N)(hs:So key p k):∀(f l r:Nat),l<=r->r<=k->r-l<=f->(∀i,i<l->O.kle (KN key p i) (KN key p k))->(∀i,r<=i->i<k->O.klt (KN key p k) (KN key p i))->
  (∀l,l<=k->(∀i,i<l->O.kle (KN key p i) (KN key p k))->(∀i,l<=i->i<k->O.klt (KN key p k) (KN key p i))->Q l s)->(kas_place p k f l r).kasWp cmp Q s
 |0,l,r,hlr,hrk,hm,hlo,hhi,h=>by
  have e:l=r:=Nat.le_antisymm hlr (Nat.sub_eq_zero_iff_le.mp (Nat.le_zero.mp hm))
  subst e
  exact h l hrk hlo hhi
 |f+1,l,r,hlr,hrk,hm,hlo,hhi,h=>by
  show(if l≥r then KasT.ret l else KasT.ask (p.getD k 0) (p.getD ((l+r)/2) 0) fun c=>if c=true then kas_place p k f l ((l+r)/2)else kas_place p k f ((l+r)/2+1) r).kasWp cmp Q s
  by_cases hge:l≥r
  ·rw[if_pos hge]
   have e:l=r:=Nat.le_antisymm hlr hge
   subst e
   exact h l hrk hlo hhi
  ·rw[if_neg hge]
   have hc:(l+r)/2<r:=half_lt (Nat.not_le.mp hge)
   have hd:l<=(l+r)/2:=half_ge (Nat.not_le.mp hge)
   generalize (l+r)/2=c at hc hd⊢
   refine ok _ _ _ (hp.lt hk) (hp.lt (Nat.lt_trans (Nat.lt_of_lt_of_le hc hrk) hk)) ?_
   cases hless:O.blt (key (p.getD k 0)) (key (p.getD c 0))with
   |true=>
    refine place ok hp hk hs f l c hd (Nat.le_of_lt (Nat.lt_of_lt_of_le hc hrk)) (Nat.le_of_lt_succ (Nat.lt_of_lt_of_le (Nat.sub_lt_sub_right hd hc) hm)) hlo (fun i h1 h2=> ?_) h
    by_cases hi:i=c
    ·subst hi;exact hless
    ·exact KeyOrd.klt_of_klt_of_kle hless (hs c i h1 h2)
   |false=>
    refine place ok hp hk hs f (c+1) r hc hrk (Nat.le_of_lt_succ (Nat.lt_of_lt_of_le (Nat.sub_lt_sub_left (Nat.lt_of_le_of_lt hd hc) (Nat.lt_succ_of_le hd)) hm)) (fun i h1=> ?_) hhi h
    by_cases hi:i=c
    ·subst hi;exact hless
    ·exact KeyOrd.kle_trans (hs i c (Nat.le_of_lt_succ h1) (Nat.lt_of_lt_of_le hc hrk)) hless
theorem bins1{p:Array Nat}{k l:Nat}(hs:So key p k)(hl:l<=k)(hsz:k<p.size)(hlo:∀i,i<l->O.kle (KN key p i) (KN key p k))(hhi:∀i,l<=i->i<k->O.klt (KN key p k) (KN key p i)):So key (bubble p k (k-l)) (k+1):=by
 intro i j hij hj
 have e:k-(k-l)=l:=Nat.sub_sub_self hl
 rw[KN_bub hsz (Nat.sub_le _ _),KN_bub hsz (Nat.sub_le _ _),e]
 have hjk:j<=k:=Nat.le_of_lt_succ hj
 by_cases hi1:i=l
 ·rw[if_pos hi1]
  by_cases hj1:j=l
  ·rw[if_pos hj1];exact KeyOrd.kle_refl _
  ·have lj:l<j:=Nat.lt_of_le_of_ne (hi1▸hij) (Ne.symm hj1)
   rw[if_neg hj1,if_pos ⟨lj,hjk⟩]
   exact KeyOrd.kle_of_klt (hhi (j-1) (Nat.le_sub_one_of_lt lj) (Nat.sub_one_lt_of_le (Nat.lt_of_le_of_lt (Nat.zero_le _) lj) hjk))
 ·rw[if_neg hi1]
  by_cases hi2:l<i/\i<=k
  ·have lj:l<j:=Nat.lt_of_lt_of_le hi2.1 hij
   rw[if_pos hi2,if_neg (Ne.symm (Nat.ne_of_lt lj)),if_pos ⟨lj,hjk⟩]
   exact hs _ _ (Nat.sub_le_sub_right hij 1) (Nat.sub_one_lt_of_le (Nat.lt_of_le_of_lt (Nat.zero_le _) lj) hjk)
  ·rw[if_neg hi2]
   have il:i<l:=Nat.lt_of_le_of_ne (Nat.not_lt.mp fun z=>hi2 ⟨z,Nat.le_trans hij hjk⟩) hi1
   by_cases hj1:j=l
   ·rw[if_pos hj1];exact hlo i il
   ·rw[if_neg hj1]
    by_cases hj2:l<j/\j<=k
    ·rw[if_pos hj2];exact hs _ _ (Nat.le_sub_one_of_lt (Nat.lt_trans il hj2.1)) (Nat.sub_one_lt_of_le (Nat.lt_of_le_of_lt (Nat.zero_le _) hj2.1) hjk)
    ·rw[if_neg hj2];exact hs _ _ hij (Nat.lt_of_lt_of_le (Nat.lt_of_le_of_ne (Nat.not_lt.mp fun z=>hj2 ⟨z,hjk⟩) hj1) hl)
theorem bins(ok:AskOk O key N cmp s){Q:Array Nat->Shared->Prop}:∀(f:Nat) (p:Array Nat) (k:Nat),Ord N p->1<=k->k+f=N->So key p k->(∀p',Ord N p'->So key p' N->Q p' s)->(kas_bin f p k).kasWp cmp Q s
 |0,p,k,hp,_,hf,hs,h=>h p hp ((show k=N from hf)▸hs)
 |f+1,p,k,hp,h1,hf,hs,h=>by
  show((kas_place p k k 0 k).bind fun l=>kas_bin f (bubble p k (k-l)) (k+1)).kasWp cmp Q s
  rw[KasT.kasWp_bind]
  have hk:k<N:=lt_mid (Nat.le_of_eq hf)
  have hsz:k<p.size:=by rw[hp.size];exact hk
  refine place ok hp hk hs k 0 k (Nat.zero_le _) (Nat.le_refl _) (Nat.sub_le _ _) (fun i hi=>absurd hi (Nat.not_lt_zero _)) (fun i h1 h2=>absurd h2 (Nat.not_lt.mpr h1)) fun l hl hlo hhi=> ?_
  exact bins ok f _ (k+1) (hp.bub _ _) (Nat.succ_pos _) ((Nat.succ_add_eq_add_succ k f).trans hf) (bins1 hs hl hsz hlo hhi) h
theorem sort(ok:AskOk O key N cmp s){Q:Array Nat->Shared->Prop}(h1:1<=N)(h:∀p',Ord N p'->So key p' N->Q p' s):(kas_sort N).kasWp cmp Q s:=by
 unfold kas_sort
 rw[KasT.kasWp_bind]
 refine count ok ⟨Array.Perm.refl _⟩ h1 fun m p' hp hm1 hm2 hs=> ?_
 dsimp only
 by_cases hlt:m<N
 ·rw[if_pos hlt]
  have e:max m 1=m:=by omega
  rw[e]
  exact bins ok _ _ _ hp hm1 (by omega) hs h
 ·rw[if_neg hlt]
  have e:m=N:=by omega
  subst e
  exact h p' hp hs
end
end Srt
namespace Srt
open PySem PySem.W PyProof.Rows PySem.Calls
noncomputable def Outs{O:KeyOrd}(key:Nat->O.α)(vs out:List Value):Prop:=∃p:Array Nat,Ord vs.length p/\So key p vs.length/\out=p.toList.map fun i=>vs.getD i Value.none
section
variable{prog:Program}{w:World}{A:Around}{E:Value->Shared->Prop}{s:Shared}{O:KeyOrd}{key:Nat->O.α}{κ:SortKind}{vs:List Value}
theorem outs_small(h2:vs.length<2):Outs key vs vs:=by
 refine⟨List.toArray (List.range vs.length),⟨Array.Perm.refl _⟩,fun i j hij hj=> ?_,?_⟩
 ·have e:i=j:=by omega
  subst e;exact KeyOrd.kle_refl _
 ·match vs,h2 with
  |[],_=>rfl
  |[v],_=>rfl
  |_::_::_,h=>simp at h;omega
theorem list_sort_own{a:Addr}{n:Nat}{P:PySem.Fin->Shared->Prop}(ho:s.heap.get? a=some (seqObj "list" vs.toArray n))(h64:vs.length<64)(hkind:2<=vs.length->∀h',(∀b o,b≠a->s.heap.get? b=some o->h'.get? b=some o)->∀Q:SortKind->Shared->Prop,Q κ {s with heap:=h'}->wpAny (model prog w) A (keyKind' vs.toArray) Q E {s with heap:=h'})(hask:2<=vs.length->∀h',(∀b o,b≠a->s.heap.get? b=some o->h'.get? b=some o)->AskOk O key vs.length (kas_ask prog w A κ vs) {s with heap:=h'})(h:∀h' out c,Outs key vs out->(∀b o,b≠a->s.heap.get? b=some o->h'.get? b=some o)->h'.get? a=some (seqObj "list" (List.toArray out) c)->P (.done (.ret .none)) {s with heap:=h'}):
  wpAny (model prog w) A (Builtin.«list.sort» ⟨[.ref a],[]⟩) P E s:=by
 have ha:a<s.heap.objs.size:=Heap.lt_size ho
 have s1:=Heap.SameBut.update s.heap a (Obj.mapSeq fun _=>(#[]:Array Value))
 obtain⟨e1,ho1⟩:∃e1,(s.heap.update a (Obj.mapSeq fun _=>(#[]:Array Value))).get? a=some (seqObj "list" #[] e1):=⟨_,get?_update_seq ho fun _=>#[]⟩
 have keep:∀b o,b≠a->s.heap.get? b=some o->(((s.heap.update a (Obj.mapSeq fun _=>(#[]:Array Value))).push (seqObj "tuple" vs.toArray 0)).push (seqObj "list" #[] 0)).get? b=some o:=fun b o hb e=>
  Heap.get?_push_of_some _ (Heap.get?_push_of_some _ ((s1.2 b hb).trans e))
 have ho6:(((s.heap.update a (Obj.mapSeq fun _=>(#[]:Array Value))).push (seqObj "tuple" vs.toArray 0)).push (seqObj "list" #[] 0)).get? a=some (seqObj "list" #[] e1):=Heap.get?_push_of_some _ (Heap.get?_push_of_some _ ho1)
 rw[list_sort_plain]
 refine wpAny_bind (listItems_at ho rfl ?_)
 refine wpAny_bind (listUpdate_at ho rfl ?_ (by rw[List.size_toArray,sizeLine_eq];omega) (Nat.zero_le _))
 refine wpAny_bind (seqEpoch_at ho1 rfl ?_)
 refine wpAny_bind (wpAny_newTuple ?_ (by show vs.length<=_;rw[sizeLine_eq];omega))
 refine wpAny_bind (wpAny_newList ?_ (Nat.zero_le _))
 refine wpAny_holding ?_
 show wpAny (model prog w) A _ P E {s with heap:=((s.heap.update a (Obj.mapSeq fun _=>(#[]:Array Value))).push (seqObj "tuple" vs.toArray 0)).push (seqObj "list" #[] 0)}
 dsimp only
 by_cases h2:vs.toArray.size<2
 ·have h2':vs.length<2:=by simpa using h2
  rw[if_pos h2,if_pos h2]
  refine wpAny_bind (wpAny_pure ?_)
  rw[StateT.run_pure]
  refine wpAny_bind (wpAny_pure ?_)
  dsimp only
  refine wpAny_bind (seqEpoch_at ho6 rfl ?_)
  refine wpAny_bind (listUpdate_at ho6 rfl ?_ (Nat.zero_le _) (by rw[Array.size_map];show(pairsOf vs).size<=_;rw[pairsOf_size,sizeLine_eq];omega))
  simp only[bne_self_eq_false,Bool.false_eq_true,if_false]
  refine wpAny_pure ?_
  have eo:(vs.toArray.zip vs.toArray).map (·.2)=List.toArray vs:=by
   apply Array.toList_inj.mp
   simp[List.map_snd_zip]
  have s2:=Heap.SameBut.update (((s.heap.update a (Obj.mapSeq fun _=>(#[]:Array Value))).push (seqObj "tuple" vs.toArray 0)).push (seqObj "list" #[] 0)) a (Obj.mapSeq fun _=>List.toArray vs)
  obtain⟨c2,hc2⟩:∃c2,((((s.heap.update a (Obj.mapSeq fun _=>(#[]:Array Value))).push (seqObj "tuple" vs.toArray 0)).push (seqObj "list" #[] 0)).update a (Obj.mapSeq fun _=>List.toArray vs)).get? a=some (seqObj "list" (List.toArray vs) c2):=⟨_,get?_update_seq ho6 fun _=>List.toArray vs⟩
  have fin:=h _ vs c2 (outs_small h2') (fun b o hb e=>(s2.2 b hb).trans (keep b o hb e)) hc2
  first
   |exact fin
   |(rw[<-eo]at fin;exact fin)
   |(show P _ {s with heap:=Heap.update _ a (Obj.mapSeq fun _=>(vs.toArray.zip vs.toArray).map (·.2))};rw[eo];exact fin)
 ·have h2':2<=vs.length:=by rw[List.size_toArray]at h2;omega
  rw[if_neg h2,if_neg h2]
  refine wpAny_bind (hkind h2' _ keep _ ?_)
  refine wpAny_bind (wpAny_mono (kat_run (Q:=fun st' s'=>s'={s with heap:=((s.heap.update a (Obj.mapSeq fun _=>(#[]:Array Value))).push (seqObj "tuple" vs.toArray 0)).push (seqObj "list" #[] 0)}/\∃p:Array Nat,p.size=vs.length/\arrOf st'=p.map (kas_item (vs.toArray.zip vs.toArray))/\failedOf st'=none/\Ord vs.length p/\So key p vs.length)
   (G:=fun p s'=>s'={s with heap:=((s.heap.update a (Obj.mapSeq fun _=>(#[]:Array Value))).push (seqObj "tuple" vs.toArray 0)).push (seqObj "list" #[] 0)}/\Ord vs.length p/\So key p vs.length)
   rfl h2' h64 (fun p' st' s' a1 a2 a3 a4=>⟨a4.1,p',a1,a2,a3,a4.2.1,a4.2.2⟩) (sort (hask h2' _ keep) (by omega) fun p' hp hs=>⟨rfl,hp,hs⟩)) ?_ fun _ _ e=>e)
  rintro⟨⟨⟩,st'⟩ s' ⟨rfl,p,hp,har,hf,hor,hso⟩
  dsimp only
  have hout:=kat_snds rfl har
  have hsz:(List.toArray (p.toList.map fun i=>vs.getD i Value.none)).size=vs.length:=by rw[List.size_toArray,List.length_map,Array.length_toList,hp]
  rw[hout]
  refine wpAny_bind (seqEpoch_at ho6 rfl ?_)
  refine wpAny_bind (listUpdate_at ho6 rfl ?_ (Nat.zero_le _) (Nat.le_trans (Nat.le_of_eq hsz) (by rw[sizeLine_eq];omega)))
  rw[hf]
  simp only[bne_self_eq_false,Bool.false_eq_true,if_false]
  have s2:=Heap.SameBut.update (((s.heap.update a (Obj.mapSeq fun _=>(#[]:Array Value))).push (seqObj "tuple" vs.toArray 0)).push (seqObj "list" #[] 0)) a (Obj.mapSeq fun _=>List.toArray (p.toList.map fun i=>vs.getD i Value.none))
  obtain⟨c2,hc2⟩:∃c2,((((s.heap.update a (Obj.mapSeq fun _=>(#[]:Array Value))).push (seqObj "tuple" vs.toArray 0)).push (seqObj "list" #[] 0)).update a (Obj.mapSeq fun _=>List.toArray (p.toList.map fun i=>vs.getD i Value.none))).get? a=some (seqObj "list" (List.toArray (p.toList.map fun i=>vs.getD i Value.none)) c2):=⟨_,get?_update_seq ho6 fun _=>_⟩
  exact wpAny_pure (h _ _ c2 ⟨p,hor,hso,rfl⟩ (fun b o hb e=>(s2.2 b hb).trans (keep b o hb e)) hc2)
theorem sorted_own{l:Addr}{Q:Value->Shared->Prop}(hl:s.heap.IsList l vs.toArray)(h64:vs.length<64)(hkind:2<=vs.length->∀h',(∀b o,s.heap.get? b=some o->h'.get? b=some o)->∀(E:Value->Shared->Prop) (Q:SortKind->Shared->Prop),Q κ {s with heap:=h'}->wpAny (model prog w) A.in1.in1 (keyKind' vs.toArray) Q E {s with heap:=h'})(hask:2<=vs.length->∀h',(∀b o,s.heap.get? b=some o->h'.get? b=some o)->AskOk O key vs.length (kas_ask prog w A.in1.in1 κ vs) {s with heap:=h'})(h:∀D h' out c,Outs key vs out->s.heap.objs.size<=D->(∀b o,s.heap.get? b=some o->h'.get? b=some o)->h'.get? D=some (seqObj "list" (List.toArray out) c)->Q (.ref D) {s with heap:=h'}):
  wpAny (model prog w) A (call (.builtin "sorted") [.ref l]) Q E s:=by
 refine Calls.call_function_entry kind_sorted plain_sorted entry_sorted (args_sorted1 _) ?_
 unfold Builtin.«sorted»
 refine wpAny_bind (m:=checkCount "sorted" 1 1 _) (wpAny_pure ?_)
 refine wpAny_bind (collect_list hl ?_ (by rw[sizeLine_eq];omega))
 refine wpAny_bind (wpAny_newList ?_ (by rw[sizeLine_eq];omega))
 have hsz:((s.heap.push (seqObj "list" #[] 0)).update s.heap.objs.size (Obj.mapSeq (· ++vs.toArray))).objs.size=s.heap.objs.size+1:=by
  rw[Heap.size_update,size_push']
 have hoL:(((s.heap.push (seqObj "list" #[] 0)).update s.heap.objs.size (Obj.mapSeq (· ++vs.toArray))).push (seqObj "list" vs.toArray 0)).get? (s.heap.objs.size+1)=some (seqObj "list" vs.toArray 0):=by
  rw[<-hsz];exact Heap.get?_push_size _ rfl
 have keep:∀b o,s.heap.get? b=some o->(((s.heap.push (seqObj "list" #[] 0)).update s.heap.objs.size (Obj.mapSeq (· ++vs.toArray))).push (seqObj "list" vs.toArray 0)).get? b=some o:=fun b o q=>by
  have hlt:b<s.heap.objs.size:=Heap.lt_size q
  rw[Heap.get?_push_ne _ _ _ (by rw[hsz];exact Nat.ne_of_lt (Nat.lt_succ_of_lt hlt)),Heap.get?_update_ne _ _ _ _ (Nat.ne_of_lt hlt),Heap.get?_push_ne _ _ _ (Nat.ne_of_lt hlt)]
  exact q
 have ne:∀b o,s.heap.get? b=some o->b≠s.heap.objs.size+1:=fun b o q=>Nat.ne_of_lt (Nat.lt_succ_of_lt (Heap.lt_size q))
 show wpAny _ _ _ _ _ {s with heap:=((s.heap.push (seqObj "list" #[] 0)).update s.heap.objs.size (Obj.mapSeq (· ++vs.toArray))).push (seqObj "list" vs.toArray 0)}
 rw[hsz]
 refine wpAny_bind (wpAny_holding (wpAny_call_entry slot_list_sort ⟨_,hoL,rfl⟩ entry_list_sort ?body (args_list_sort _)))
 case body=>
  refine list_sort_own (key:=key) (κ:=κ) (s:={s with heap:=((s.heap.push (seqObj "list" #[] 0)).update s.heap.objs.size (Obj.mapSeq (· ++vs.toArray))).push (seqObj "list" vs.toArray 0)}) hoL h64
   (fun h2 h' k Q hq=>hkind h2 h' (fun b o q=>k b o (ne b o q) (keep b o q)) _ Q hq) (fun h2 h' k=>hask h2 h' fun b o q=>k b o (ne b o q) (keep b o q)) fun h' out c ho k hc=> ?_
  exact⟨_,rfl,wpAny_pure ⟨_,rfl,h _ h' out c ho (Nat.le_succ _) (fun b o q=>k b o (ne b o q) (keep b o q)) hc⟩⟩
end
end Srt
namespace HT
open PySem PyProof.Rows
theorem lexLt_iff:∀(a b:List Int),lexLt a b=decide (a<b)
 |[],[]=>by simp[lexLt]
 |[],_::_=>by simp[lexLt]
 |_::_,[]=>by simp[lexLt]
 |x::xs,y::ys=>by
  rw[lexLt_cons,lexLt_iff xs ys]
  by_cases e:x=y
  ·subst e;simp
  ·rw[if_neg e]
   by_cases l:x<y
   ·simp[l,List.cons_lt_cons_iff]
   ·have:¬(x::xs<y::ys):=by rw[List.cons_lt_cons_iff];simp[l,e]
    simp[l,this]
end HT
namespace Srt
open PySem PySem.W PyProof.Rows PySem.Calls
noncomputable def lexOrd:KeyOrd where
 α:=List Int
 blt a b:=decide (a<b)
 irrefl a:=by simpa using List.lt_irrefl a
 trans a b c h1 h2:=by simp only[decide_eq_true_eq]at *;exact List.lt_trans h1 h2
 negTrans a b c h:=by
  simp only[decide_eq_true_eq]at *
  by_cases hab:a<b
  ·exact .inl hab
  ·exact .inr (List.lt_of_le_of_lt (List.not_lt.mp hab) h)
 total a b h1 h2:=by simp only[decide_eq_false_iff_not]at *;exact List.le_antisymm (List.not_lt.mp h2) (List.not_lt.mp h1)
noncomputable def intOrd:KeyOrd where
 α:=Int
 blt a b:=decide (a<b)
 irrefl a:=by simp
 trans a b c h1 h2:=by simp only[decide_eq_true_eq]at *;omega
 negTrans a b c h:=by simp only[decide_eq_true_eq]at *;omega
 total a b h1 h2:=by simp only[decide_eq_false_iff_not]at *;omega
section
variable{prog:Program}{w:World}{A:Around}{E:Value->Shared->Prop}{s:Shared}{Q:Bool->Shared->Prop}
theorem lex_ints{na nb:Nat}{xs ys:List Value}{ns ms:List Int}(i:Nat)(hx:IntsAre xs ns)(hy:IntsAre ys ms)(hl:ns.length+nb=ms.length+na)(h:Q (HT.lexLt ns ms) s):KatLex prog w A true (decide (na<nb)) Q (xs.zip ys) i s:=by
 induction hx generalizing ys ms i with
 |nil=>
  rw[List.zip_nil_left]
  refine kat_nil ?_
  cases hy with
  |nil=>
   rw[HT.lexLt_nil_nil]at h
   rw[decide_eq_false (by simp only[List.length_nil]at hl;omega)];exact h
  |cons c u hw=>
   rw[HT.lexLt_nil_cons]at h
   rw[decide_eq_true (by simp only[List.length_nil,List.length_cons]at hl;omega)];exact h
 |cons a t hv ih=>
  cases hy with
  |nil=>
   rw[List.zip_nil_right]
   refine kat_nil ?_
   rw[HT.lexLt_cons_nil]at h
   rw[decide_eq_false (by simp only[List.length_nil,List.length_cons]at hl;omega)];exact h
  |cons c u hw=>
   rw[List.zip_cons_cons]
   rw[HT.lexLt_cons]at h
   refine kat_cons (wpAny_eqBool_int ?_)
   refine kat_go (fun e=> ?_) fun e=> ?_
   ·have e':a=c:=by simpa using e
    rw[if_pos e']at h
    exact kat_yes (ih (i+1) hw (by simp only[List.length_cons]at hl;omega) h)
   ·have e':a≠c:=by simpa using e
    rw[if_neg e']at h
    refine kat_no ?_
    cases i with
    |zero=>exact oneLt_int h
    |succ i=>exact kat_one _ _ (lt_int (show PySem.W.BoolBack Q (.bool (decide (a<c))) s from h))
end
theorem outs_of{O:KeyOrd}{key:Nat->O.α}{α:Type}{vs out:List Value}{its:List α}{d:α}{f:α->O.α}{R:α->Value->Prop}(hR:Paired R its vs)(hk:∀i (hi:i<its.length),key i=f its[i])(h:Outs key vs out):
  ∃its':List α,its'.Perm its/\Paired R its' out/\its'.Pairwise fun x y=>O.kle (f x) (f y):=by
 obtain⟨p,hp,hs,rfl⟩:=h
 have hl:=hR.length
 have get:∀{l₁:List α} {l₂:List Value} {i:Nat},Paired R l₁ l₂->(h:i<l₁.length)->∃v,l₂[i]? =some v/\R l₁[i] v:=by
  intro l₁ l₂ i q
  induction q generalizing i with
  |nil=>intro h;simp at h
  |cons r t ih=>
   intro h
   cases i with
   |zero=>exact⟨_,rfl,r⟩
   |succ i=>
    obtain⟨v,e,rv⟩:=ih (i:=i) (by simpa using h)
    exact⟨v,by simpa using e,by simpa using rv⟩
 have hlt:∀i∈p.toList,i<its.length:=fun i hi=>by
  have:=(Array.perm_iff_toList_perm.mp hp.perm).mem_iff.mp hi
  rw[hl];simpa using this
 refine⟨p.toList.map fun i=>its.getD i d,?_,?_,?_⟩
 ·have q:=(Array.perm_iff_toList_perm.mp hp.perm).map (fun i=>its.getD i d)
  refine q.trans ?_
  have e:(List.toArray (List.range vs.length)).toList.map (fun i=>its.getD i d)=its:=by
   rw[<-hl]
   apply List.ext_getElem?
   intro i
   simp only[List.getElem?_map]
   by_cases hi:i<its.length
   ·simp[hi]
   ·simp[hi]
  rw[e]
 ·have mk:∀l:List Nat,(∀i∈l,i<its.length)->Paired R (l.map fun i=>its.getD i d) (l.map fun i=>vs.getD i Value.none):=by
   intro l
   induction l with
   |nil=>intro _;exact .nil
   |cons i l ih=>
    intro hb
    refine .cons ?_ (ih fun j hj=>hb j (List.mem_cons_of_mem _ hj))
    have hi:=hb i List.mem_cons_self
    obtain⟨v,e,r⟩:=get hR hi
    have e1:its.getD i d=its[i]:=by simp[hi]
    have e2:vs.getD i Value.none=v:=by rw[List.getD_eq_getElem?_getD,e];rfl
    show R (its.getD i d) (vs.getD i Value.none)
    rw[e1,e2];exact r
  exact mk _ hlt
 ·rw[List.pairwise_iff_getElem]
  intro i j hi hj hij
  simp only[List.length_map,Array.length_toList]at hi hj
  simp only[List.getElem_map]
  have hsz:=hp.size
  have q:=hs i j (by omega) (by omega)
  have e:∀k (hk':k<p.size),KN key p k=f (its.getD p.toList[k] d):=fun k hk'=>by
   have e1:p.getD k 0=p.toList[k]:=by simp[Array.getD,hk']
   have hb:=hlt p.toList[k] (List.getElem_mem _)
   have e2:its.getD p.toList[k] d=its[p.toList[k]]:=by simp only[List.getD_eq_getElem?_getD,List.getElem?_eq_getElem hb,Option.getD_some]
   unfold KN
   rw[e1,e2]
   exact hk _ hb
  rw[e i hi,e j hj]at q
  exact q
end Srt
namespace L2
open PySem PySem.Spec PyProof.Rows PySem.W
section
variable{X:Cx}
theorem call_sortedT:CallR X (.builtin "sorted") (fun xs H Q=>∃(a:Addr) (its:List (Addr×List Int)),xs=[.ref a]/\SqL X.K H a (its.map fun p=>V.ref p.1)/\(∀p∈its,SqT X.K H p.1 (p.2.map V.int)/\p.2≠[])/\its.length<64/\
  ∀(l:Addr) (its':List (Addr×List Int)),H l=none->its'.Perm its->its'.Pairwise (fun p q=>HT.lexLt q.2 p.2=false)->Q (.ref l) (upd H l (.lst (its'.map fun p=>V.ref p.1)))):=by
 intro pins s σ H xs us Q I r h
 obtain⟨a,its,rfl,hS,hT,h64,q⟩:=h
 obtain⟨u,rfl,ru⟩:=r.one
 cases ru
 obtain⟨vs,rv,pl,hz⟩:=I.list hS
 have hlen:its.length=vs.length:=by have:=rv.length;simpa using this
 -- the values beside the tuples
 have pr:Paired (fun(p:Addr×List Int) (v:Value)=>v= .ref p.1) its vs:=by
  have go:∀(l:List (Addr×List Int)) (us:List Value),Vals (l.map fun p=>V.ref p.1) us->Paired (fun(p:Addr×List Int) (v:Value)=>v= .ref p.1) l us:=by
   intro l
   induction l with
   |nil=>intro us h;cases h;exact .nil
   |cons p l ih=>
    intro us h
    cases h with
    |cons r t=>exact .cons r (ih _ t)
  exact go its vs rv
 have tup:∀p∈its,∃(items:List Value),IntsAre items p.2/\IsTup s.heap p.1 items.toArray:=fun p hp=>by
  obtain⟨its',r',t',_⟩:=I.tuple (hT p hp).1
  exact⟨its',zda r',t'⟩
 refine Srt.sorted_own (O:=Srt.lexOrd) (key:=fun i=>(its.getD i (0,[])).2) (κ:=tuples' true) (s:=s) pl.isList (by omega) (fun h2 h' k E' Q' hq=> ?_) (fun h2 h' k=> ?_) (fun D h' out c ho hD k hc=> ?_)
 ·have kt:∀(l:List (Addr×List Int)) (us:List Value),Paired (fun(p:Addr×List Int) (v:Value)=>v= .ref p.1) l us->(∀p∈l,p∈its)->∃fs:List Value,KatTups h' us fs/\fs.length=us.length/\∀v∈fs,∃i t,v=Value.int i t:=by
   intro l us h
   induction h with
   |nil=>intro _;exact⟨[],trivial,rfl,fun _ hv=>nomatch hv⟩
   | @cons p v l us r t ih=>
    intro hs
    obtain⟨fs,k1,k2,k3⟩:=ih fun p hp=>hs p (List.mem_cons_of_mem _ hp)
    obtain⟨items,hi,o,e,hc,n,hd⟩:=tup p (hs p List.mem_cons_self)
    have hne:=(hT p (hs p List.mem_cons_self)).2
    obtain⟨pa,pn⟩:=p
    dsimp only at hi hne e r
    cases hi with
    |nil=>exact absurd rfl hne
    |cons i t hi'=>
     rw[r]
     refine⟨Value.int i t::fs,KatTups.cons (k _ _ e) hc hd (by simp) k1,by simp[k2],fun v hv=> ?_⟩
     rcases List.mem_cons.mp hv with e|e
     ·exact⟨i,t,e⟩
     ·exact k3 v e
  obtain⟨fs,k1,k2,k3⟩:=kt its vs pr fun _ hp=>hp
  refine kat_kind (s:={s with heap:=h'}) (T:= .type "int") k1 (by omega) (fun v hv=> ?_) (by rfl) hq
  obtain⟨i,t,rfl⟩:=k3 v hv
  exact fun A Q E s _ q=>wpAny_pure q
 ·intro i j C hi hj hC
  rw[<-hlen]at hi hj
  have get:∀i (hi:i<its.length),vs.getD i Value.none= .ref its[i].1:=by
   have go:∀(l:List (Addr×List Int)) (us:List Value),Paired (fun(p:Addr×List Int) (v:Value)=>v= .ref p.1) l us->∀i (hi:i<l.length),us.getD i Value.none= .ref l[i].1:=by
    intro l us h
    induction h with
    |nil=>intro i hi;simp at hi
    |cons r t ih=>
     intro i hi
     cases i with
     |zero=>exact r
     |succ i=>simpa using ih i (by simpa using hi)
   exact go its vs pr
  unfold kas_ask
  rw[get i hi,get j hj]
  obtain⟨xi,hxi,oi,ei,ci,ni,di⟩:=tup its[i] (List.getElem_mem _)
  obtain⟨xj,hxj,oj,ej,cj,nj,dj⟩:=tup its[j] (List.getElem_mem _)
  refine kat_lt (s:={s with heap:=h'}) (k _ _ ei) di (k _ _ ej) dj ?_
  refine Srt.lex_ints 0 hxi hxj ?_ ?_
  ·have:=hxi.length;have:=hxj.length
   simp only[List.size_toArray]
   omega
  ·rw[HT.lexLt_iff]
   have e1:its.getD i (0,[])=its[i]:=by simp[hi]
   have e2:its.getD j (0,[])=its[j]:=by simp[hj]
   have hC':C (decide ((its.getD i (0,[])).2<(its.getD j (0,[])).2)) {s with heap:=h'}:=hC
   rw[e1,e2]at hC'
   exact hC'
 ·obtain⟨its',hp,hr,hw⟩:=Srt.outs_of (d:=((0,[]):Addr×List Int)) (f:=fun p=>p.2) pr (fun i hi=>by show(its.getD i (0,[])).2=_;simp[hi]) ho
  have hn:H D=none:=I.hok.fresh hD
  have rv':Vals (its'.map fun p=>V.ref p.1) out:=by
   have go:∀(l:List (Addr×List Int)) (us:List Value),Paired (fun(p:Addr×List Int) (v:Value)=>v= .ref p.1) l us->Vals (l.map fun p=>V.ref p.1) us:=by
    intro l us h
    induction h with
    |nil=>exact .nil
    |cons r t ih=>exact .cons r ih
   exact go its' out hr
  have zl:(its'.map fun p=>V.ref p.1).length<=sizeLine:=by
   have:=hp.length_eq
   rw[List.length_map]
   exact Nat.le_of_lt (small1000 (by omega))
  have J:Inv X pins σ (upd H D (.lst (its'.map fun p=>V.ref p.1))) {s with heap:=h',toks:=s.toks}:=I.laid k hD ⟨zl,out,c,rv',hc⟩
  refine⟨.ref D,_,J,rfl,q D its' hn hp (hw.imp fun{x y} hxy=> ?_)⟩
  rw[HT.lexLt_iff];exact hxy
end
end L2
namespace L2
open PySem PySem.Spec PyProof.Rows
section
variable{X:Cx}
theorem bools_of:∀{bs:List Bool} {us:List Value},Vals (bs.map V.bl) us->us=bs.map Value.bool
 |[],_,h=>by cases h;rfl
 |b::bs,_,h=>by
  cases h with
  |cons r t=>rw[List.map_cons,bools_of t];exact congrArg (· ::_) r
theorem call_all(hc:X.calm=true):CallR X (.builtin "all") (fun xs H Q=>∃(a:Addr) (bs:List Bool),xs=[.ref a]/\SqL X.K H a (bs.map V.bl)/\Q (.bl (bs.all id)) H):=by
 intro pins s σ H xs us Q I r h
 obtain⟨a,bs,rfl,hS,q⟩:=h
 obtain⟨u,rfl,ru⟩:=r.one
 cases ru
 obtain⟨vs,rv,pl,hz⟩:=I.list hS
 have hv:=bools_of rv
 have hl:=pl.isList
 have hlt:a<s.heap.objs.size:=by obtain⟨_,e,_⟩:=hl;exact Heap.lt_size e
 refine call_all_walk (wpAny_pyIter_list hl ?_)
 refine⟨s.heap.objs.size,[s.heap.objs.size,a],[s.heap.objs.size],vs.toArray.size,_,_,fun i=>(bs[i]?).getD true,rfl,Walks.list (A:=X.A.in1) (I.ok.hd hc) _ a (Nat.ne_of_lt hlt) vs.toArray,
  ⟨⟨_,Heap.get?_push_size _ rfl,rfl,rfl⟩,hl.push _⟩,fun i v s' Q' E' hP hQ=> ?_,fun h' tk hk=> ?_⟩
 ·have hP':vs[i]? =some v:=by simpa using hP
  rw[hv,List.getElem?_map]at hP'
  cases e:bs[i]? with
  |none=>rw[e]at hP';cases hP'
  |some b=>
   rw[e]at hP'
   cases hP'
   simp only[e,Option.getD_some]at hQ
   exact wpAny_truthy_bool hQ
 ·have e:((List.range vs.toArray.size).all fun i=>(bs[i]?).getD true)=bs.all id:=by
   rw[List.size_toArray,hv,List.length_map];exact LSm.range_all bs
  rw[e]
  exact⟨.bl _,H,I.kept (LSm.kept_iter hk),rfl,q⟩
theorem call_any(hc:X.calm=true):CallR X (.builtin "any") (fun xs H Q=>∃(a:Addr) (bs:List Bool),xs=[.ref a]/\SqL X.K H a (bs.map V.bl)/\Q (.bl (bs.any id)) H):=by
 intro pins s σ H xs us Q I r h
 obtain⟨a,bs,rfl,hS,q⟩:=h
 obtain⟨u,rfl,ru⟩:=r.one
 cases ru
 obtain⟨vs,rv,pl,hz⟩:=I.list hS
 have hv:=bools_of rv
 have hl:=pl.isList
 have hlt:a<s.heap.objs.size:=by obtain⟨_,e,_⟩:=hl;exact Heap.lt_size e
 refine call_any_walk (wpAny_pyIter_list hl ?_)
 refine⟨s.heap.objs.size,[s.heap.objs.size,a],[s.heap.objs.size],vs.toArray.size,_,_,fun i=>(bs[i]?).getD false,rfl,Walks.list (A:=X.A.in1) (I.ok.hd hc) _ a (Nat.ne_of_lt hlt) vs.toArray,
  ⟨⟨_,Heap.get?_push_size _ rfl,rfl,rfl⟩,hl.push _⟩,fun i v s' Q' E' hP hQ=> ?_,fun h' tk hk=> ?_⟩
 ·have hP':vs[i]? =some v:=by simpa using hP
  rw[hv,List.getElem?_map]at hP'
  cases e:bs[i]? with
  |none=>rw[e]at hP';cases hP'
  |some b=>
   rw[e]at hP'
   cases hP'
   simp only[e,Option.getD_some]at hQ
   exact wpAny_truthy_bool hQ
 ·have e:((List.range vs.toArray.size).any fun i=>(bs[i]?).getD false)=bs.any id:=by
   rw[List.size_toArray,hv,List.length_map];exact LSm.range_any bs
  rw[e]
  exact⟨.bl _,H,I.kept (LSm.kept_iter hk),rfl,q⟩
noncomputable def KindV(K:W.Frag)(H:Hp):V->String->Prop
 | .non,T=>T="NoneType"
 | .bl _,T=>T="bool"
 | .int _,T=>T="int"
 | .str _,T=>T="str"
 | .ref a,T=>(T="tuple"/\∃xs,SqT K H a xs)\/(T="list"/\∃xs,SqL K H a xs)\/(T="dict"/\∃kvs,H a=some (.dK kvs))
 |_,_=>False
noncomputable def isiB(T C:String):Bool:=T==C||(T=="bool"&&C=="int")
theorem call_isi:CallR X (.builtin "isinstance") (fun xs H Q=>∃(x:V) (T C:String),xs=[x,.ty C]/\KindV X.K H x T/\(C="int"\/C="bool"\/C="tuple"\/C="list")/\Q (.bl (isiB T C)) H):=by
 intro pins s σ H xs us Q I r h
 obtain⟨x,T,C,rfl,hk,hC,q⟩:=h
 obtain⟨u,v,rfl,ru,rv⟩:=r.two
 cases rv
 have fin0:∀b,b=isiB T C->EP X pins σ Q (.bool b) s:=fun b e=>⟨.bl b,H,I,rfl,by rw[e];exact q⟩
 have fin1:∀b,b=isiB T C->EP X pins σ Q (.bool b) {s with toks:=s.toks+1}:=fun b e=>⟨.bl b,H,I.tok _,rfl,by rw[e];exact q⟩
 cases x with
 |non=>
  cases ru;cases hk
  rcases hC with rfl|rfl|rfl|rfl
  ·exact IsiPair.NoneType_int (fin1 _ rfl)
  ·exact IsiPair.NoneType_bool (fin1 _ rfl)
  ·exact IsiPair.NoneType_tuple (fin1 _ rfl)
  ·exact IsiPair.NoneType_list (fin1 _ rfl)
 |bl b=>
  cases ru;cases hk
  rcases hC with rfl|rfl|rfl|rfl
  ·exact IsiPair.bool_int (fin0 _ rfl)
  ·exact IsiPair.bool_bool (fin0 _ rfl)
  ·exact IsiPair.bool_tuple (fin1 _ rfl)
  ·exact IsiPair.bool_list (fin1 _ rfl)
 |int i=>
  obtain⟨t,rfl⟩:=ru;cases hk
  rcases hC with rfl|rfl|rfl|rfl
  ·exact IsiPair.int_int (fin0 _ rfl)
  ·exact IsiPair.int_bool (fin1 _ rfl)
  ·exact IsiPair.int_tuple (fin1 _ rfl)
  ·exact IsiPair.int_list (fin1 _ rfl)
 |str z=>
  obtain⟨t,rfl⟩:=ru;cases hk
  rcases hC with rfl|rfl|rfl|rfl
  ·exact IsiPair.str_int (fin1 _ rfl)
  ·exact IsiPair.str_bool (fin1 _ rfl)
  ·exact IsiPair.str_tuple (fin1 _ rfl)
  ·exact IsiPair.str_list (fin1 _ rfl)
 |ref a=>
  cases ru
  rcases hk with⟨rfl,xs,hS⟩|⟨rfl,xs,hS⟩|⟨rfl,kvs,hS⟩
  ·obtain⟨its,_,⟨o,e,c,n,d⟩,_⟩:=I.tuple hS
   rcases hC with rfl|rfl|rfl|rfl
   ·exact IsiPair.tuple_int e c (fin1 _ rfl)
   ·exact IsiPair.tuple_bool e c (fin1 _ rfl)
   ·exact IsiPair.tuple_tuple e c (fin0 _ rfl)
   ·exact IsiPair.tuple_list e c (fin1 _ rfl)
  ·obtain⟨its,_,⟨o,n,e,c,d,_⟩,_⟩:=I.list hS
   rcases hC with rfl|rfl|rfl|rfl
   ·exact IsiPair.list_int e c (fin1 _ rfl)
   ·exact IsiPair.list_bool e c (fin1 _ rfl)
   ·exact IsiPair.list_tuple e c (fin1 _ rfl)
   ·exact IsiPair.list_list e c (fin0 _ rfl)
  ·obtain⟨_,_,vs,_,o,es,ep,e,c,_⟩:=I.hok a _ hS
   have c':o.cls= .type "dict":=c.1
   rcases hC with rfl|rfl|rfl|rfl
   ·exact IsiPair.dict_int e c' (fin1 _ rfl)
   ·exact IsiPair.dict_bool e c' (fin1 _ rfl)
   ·exact IsiPair.dict_tuple e c' (fin1 _ rfl)
   ·exact IsiPair.dict_list e c' (fin1 _ rfl)
 |_=>exact hk.elim
noncomputable def insV(xs:List V)(k:Nat)(y:V):List V:=xs.take k++y::xs.drop k
theorem mt_insert:MtM X "list.insert" (fun x vs H Q=>∃(l:Addr) (xs:List V) (k:Nat) (y:V),x= .ref l/\vs=[.int (k:Int),y]/\H l=some (.lst xs)/\k<=xs.length/\xs.length<1000/\Q .non (upd H l (.lst (insV xs k y)))):=by
 intro pins s σ H x vs v us Q I rx rv h
 obtain⟨l,xs,k,y,rfl,rfl,hH,hk,hz,q⟩:=h
 cases rx
 obtain⟨u,u2,rfl,⟨t,rfl⟩,ru⟩:=rv.two
 obtain⟨z,its,n,r,hl,e⟩:=I.lstM hH
 obtain⟨xi,hxi⟩:∃xi:Int,xi=(k:Int):=⟨_,rfl⟩
 rw[<-hxi]
 have hf:Builtin.List.listFitsIndex xi=true:=by
  unfold Builtin.List.listFitsIndex
  simp
  omega
 have hsz:its.toArray.size<=sizeLine:=by rw[List.size_toArray,<-hl];exact z
 have M:=PySem.AutoSeq1.list_insert_list_int_val_1 l its.toArray n xi t u2 (by simp[hf]) hsz
 refine call_meets F.slot_list_insert ⟨_,e,rfl⟩ F.entry_list_insert (F.args_list_insert_3 _ _ _) M ⟨e,?_⟩
 refine⟨.non,_,I.lset (its':=its.take k++u2::its.drop k) hH e ?_ ((r.take k).append (.cons ru (r.drop k))) ?_,rfl,q⟩
 ·have h0:¬(xi<0):=by omega
  have hm:min xi.toNat its.toArray.size=k:=by rw[List.size_toArray];omega
  show(its.toArray.extract 0 (if xi<0 then(xi+(its.toArray.size:Int)).toNat else min xi.toNat its.toArray.size)).push u2++its.toArray.extract (if xi<0 then(xi+(its.toArray.size:Int)).toNat else min xi.toNat its.toArray.size)=_
  rw[if_neg h0,hm]
  apply Array.toList_inj.mp
  simp only[Array.toList_append,Array.toList_push,Array.toList_extract,List.extract_eq_take_drop,List.size_toArray,Nat.sub_zero,List.drop_zero,List.append_assoc,List.singleton_append]
  rw[List.take_of_length_le (l:=List.drop k its) (by rw[List.length_drop];exact Nat.le_refl _)]
 ·have:(insV xs k y).length=xs.length+1:=by unfold insV;simp;omega
  show(insV xs k y).length<=sizeLine
  rw[this]
  exact Nat.le_of_lt (small1000 (by omega))
end
end L2
namespace L2
open PySem PySem.Spec PyProof.Rows
mutual
inductive DV(K:W.Frag)(H:Hp):V->PyData->Prop
 |non:DV K H .non .none
 |bl (b:Bool):DV K H (.bl b) (.bool b)
 |int (i:Int):DV K H (.int i) (.int i)
 |str (x:Str):DV K H (.str x) (.str x)
 |tup {a:Addr} {xs:List V} {ds:List PyData} (h:SqT K H a xs) (t:DVs K H xs ds):DV K H (.ref a) (.tuple ds)
 |lst {a:Addr} {xs:List V} {ds:List PyData} (h:SqL K H a xs) (t:DVs K H xs ds):DV K H (.ref a) (.list ds)
 |dc0 {a:Addr} (h:H a=some (.dK [])):DV K H (.ref a) (.dict [])
 |dc1 {a b:Addr} {i:Int} (h:H a=some (.dK [(Sum.inl i,.ref b)])) (t:SqT K H b []):DV K H (.ref a) (.dict [(.int i,.tuple [])])
inductive DVs(K:W.Frag)(H:Hp):List V->List PyData->Prop
 |nil:DVs K H [] []
 |cons {x:V} {d:PyData} {xs:List V} {ds:List PyData} (h:DV K H x d) (t:DVs K H xs ds):DVs K H (x::xs) (d::ds)
end
theorem Same.tup{K:W.Frag}{H H':Hp}{a:Addr}{xs:List V}(e:Same H H')(h:SqT K H a xs):SqT K H' a xs:=by
 rcases h with(h|⟨o,h⟩)|h
 ·exact .inl (.inl (e _ _ h))
 ·exact .inl (.inr ⟨o,e _ _ h⟩)
 ·exact .inr h
theorem DV.same{K:W.Frag}{H H':Hp}(e:Same H H'){x:V}{d:PyData}(h:DV K H x d):DV K H' x d:=
 DV.rec (motive_1:=fun x d _=>DV K H' x d) (motive_2:=fun xs ds _=>DVs K H' xs ds) .non (fun b=> .bl b) (fun i=> .int i) (fun x=> .str x) (fun h _ t=> .tup (e.tup h) t) (fun h _ t=> .lst (e.seq h) t) (fun h=> .dc0 (e _ _ h)) (fun h t=> .dc1 (e _ _ h) (e.tup t)) .nil (fun _ _ h t=> .cons h t) h
theorem DVs.same{K:W.Frag}{H H':Hp}(e:Same H H'){xs:List V}{ds:List PyData}(h:DVs K H xs ds):DVs K H' xs ds:=
 DVs.rec (motive_1:=fun x d _=>DV K H' x d) (motive_2:=fun xs ds _=>DVs K H' xs ds) .non (fun b=> .bl b) (fun i=> .int i) (fun x=> .str x) (fun h _ t=> .tup (e.tup h) t) (fun h _ t=> .lst (e.seq h) t) (fun h=> .dc0 (e _ _ h)) (fun h t=> .dc1 (e _ _ h) (e.tup t)) .nil (fun _ _ h t=> .cons h t) h
theorem pairs_nil{P:Program}{w:World}{es:List DictEntry}(h:Pairs (mixKind P w) es []):es=[]:=by
 cases h;rfl
theorem pairs_one{P:Program}{w:World}{es:List DictEntry}{k:Key}{u:Value}(h:Pairs (mixKind P w) es [(k,u)]):∃e,es=[e]/\keyIs k e.key=true/\e.val=u:=by
 cases h with
 |cons h1 h2 h3=>
  cases h3
  exact⟨_,rfl,h1,h2⟩
section
variable{X:Cx}{pins:List (Addr×Obj)}{σ:St}{H:Hp}{s:Shared}
theorem dc0_reads(I:Inv X pins σ H s){a:Addr}(h:H a=some (.dK [])):Reads s.heap (.ref a) (.dict []) (a::[]++[])/\(a==sysModules)=false:=by
 obtain⟨_,hne,vs,r0,o,es,ep,e,c,d,_,pr,_⟩:=I.hok _ _ h
 cases r0
 have hes:es.toList=[]:=pairs_nil pr
 refine⟨.dict (kvs:=[]) (as:=[]) (bs:=[]) e c.1 d ?_ ?_,hne⟩
 ·rw[hes];exact .nil
 ·rw[hes];exact .nil
theorem dc1_reads(I:Inv X pins σ H s){a b:Addr}{i:Int}(h:H a=some (.dK [(Sum.inl i,.ref b)]))(t:SqT X.K H b []):Reads s.heap (.ref a) (.dict [(.int i,.tuple [])]) (a::([]++[])++([]++[]))/\(a==sysModules)=false:=by
 obtain⟨_,hne,vs,r0,o,es,ep,e,c,d,_,pr,_⟩:=I.hok _ _ h
 obtain⟨its,rv,⟨o2,e2,c2,n2,d2⟩,_⟩:=I.tuple t
 cases rv
 cases r0 with
 | @cons p q ps qs hq tl=>
  cases tl
  obtain⟨en,he,hk,hv⟩:=pairs_one pr
  obtain⟨k,u⟩:=q
  dsimp only at hq
  obtain⟨hk1,hu1⟩:=hq
  subst hk1
  cases hu1
  obtain⟨tk,ek⟩:∃tk,en.key=Value.int i tk:=by
   rcases zbv hk with⟨i',t',e3,e4⟩|⟨x,t',e3,e4⟩
   ·cases e3;exact⟨t',e4⟩
   ·cases e3
  refine⟨.dict (kvs:=[(.int i,.tuple [])]) (as:=[]++[]) (bs:=[]++[]) e c.1 d ?_ ?_,hne⟩
  ·rw[he]
   show ReadsAll s.heap [en.key] [PyData.int i] _
   rw[ek]
   exact .cons (.int i tk) .nil
  ·rw[he]
   show ReadsAll s.heap [en.val] [PyData.tuple []] _
   rw[hv]
   exact .cons (.tuple e2 c2 d2 .nil) .nil
end
section
variable{X:Cx}{pins:List (Addr×Obj)}{σ:St}{H:Hp}{s:Shared}
theorem reads_tup(I:Inv X pins σ H s){a:Addr}{xs:List V}{ds:List PyData}(h:SqT X.K H a xs)(t:∀{us:List Value},Vals xs us->∃as,ReadsAll s.heap us ds as){u:Value}(r:RelV (.ref a) u):∃as,Reads s.heap u (.tuple ds) as:=by
 cases r
 obtain⟨its,rv,⟨o,e,c,n,d⟩,_⟩:=I.tuple h
 obtain⟨as,ra⟩:=t rv
 exact⟨_,.tuple e c d (by simpa using ra)⟩
theorem reads_lst(I:Inv X pins σ H s){a:Addr}{xs:List V}{ds:List PyData}(h:SqL X.K H a xs)(t:∀{us:List Value},Vals xs us->∃as,ReadsAll s.heap us ds as){u:Value}(r:RelV (.ref a) u):∃as,Reads s.heap u (.list ds) as:=by
 cases r
 obtain⟨its,rv,⟨o,n,e,c,_,d⟩,_⟩:=I.list h
 obtain⟨as,ra⟩:=t rv
 exact⟨_,.list e c d (by simpa using ra)⟩
theorem DV.reads(I:Inv X pins σ H s){x:V}{d:PyData}{u:Value}(h:DV X.K H x d)(r:RelV x u):∃as,Reads s.heap u d as:=
 DV.rec (motive_1:=fun x d _=>∀{u:Value},RelV x u->∃as,Reads s.heap u d as) (motive_2:=fun xs ds _=>∀{us:List Value},Vals xs us->∃as,ReadsAll s.heap us ds as)
  (fun r=>by cases r;exact⟨_,.none⟩) (fun b _ r=>by cases r;exact⟨_,.bool b⟩) (fun i _ r=>by obtain⟨t,rfl⟩:=r;exact⟨_,.int i t⟩) (fun x _ r=>by obtain⟨t,rfl⟩:=r;exact⟨_,.str x t⟩)
  (fun h _ t _ r=>reads_tup I h t r) (fun h _ t _ r=>reads_lst I h t r) (fun h _ r=>by cases r;exact⟨_,(dc0_reads I h).1⟩) (fun h t _ r=>by cases r;exact⟨_,(dc1_reads I h t).1⟩)
  (fun r=>by cases r;exact⟨_,.nil⟩) (fun _ _ h t _ r=>by
   cases r with
   |cons r rr=>
    obtain⟨as,ra⟩:=h r
    obtain⟨bs,rb⟩:=t rr
    exact⟨_,.cons ra rb⟩) h r
theorem DVs.reads(I:Inv X pins σ H s){xs:List V}{ds:List PyData}{us:List Value}(h:DVs X.K H xs ds)(r:Vals xs us):∃as,ReadsAll s.heap us ds as:=
 DVs.rec (motive_1:=fun _ _ _=>True) (motive_2:=fun xs ds _=>∀{us:List Value},Vals xs us->∃as,ReadsAll s.heap us ds as) trivial (fun _=>trivial) (fun _=>trivial) (fun _=>trivial) (fun _ _ _=>trivial) (fun _ _ _=>trivial) (fun _=>trivial) (fun _ _=>trivial)
  (fun r=>by cases r;exact⟨_,.nil⟩) (fun h _ _ t _ r=>by
   cases r with
   |cons r rr=>
    obtain⟨as,ra⟩:=DV.reads I h r
    obtain⟨bs,rb⟩:=t rr
    exact⟨_,.cons ra rb⟩) h r
end
mutual
noncomputable def noL:PyData->Bool
 | .list _=>false
 | .tuple ds=>noLs ds
 |_=>true
noncomputable def noLs:List PyData->Bool
 |[]=>true
 |d::ds=>noL d&&noLs ds
end
section
variable{X:Cx}{pins:List (Addr×Obj)}{σ:St}{H:Hp}{s:Shared}
end
theorem DVs.ints{K:W.Frag}{H:Hp}:∀(ns:List Int),DVs K H (ns.map V.int) (ns.map PyData.int)
 |[]=> .nil
 |n::ns=> .cons (.int n) (DVs.ints ns)
theorem DVs.len{K:W.Frag}{H:Hp}{xs:List V}{ds:List PyData}(h:DVs K H xs ds):xs.length=ds.length:=
 DVs.rec (motive_1:=fun _ _ _=>True) (motive_2:=fun xs ds _=>xs.length=ds.length) trivial (fun _=>trivial) (fun _=>trivial) (fun _=>trivial) (fun _ _ _=>trivial) (fun _ _ _=>trivial) (fun _=>trivial) (fun _ _=>trivial) rfl (fun _ _ _ t=>congrArg Nat.succ t) h
section
variable{X:Cx}
theorem op_neD(hu:X.A.units+64<cLine):OpR X (compareOp .NotEq) (fun x y H Q=>∃da db,DV X.K H x da/\DV X.K H y db/\da.canLay0=true/\db.canLay0=true/\min da.depth db.depth<=64/\Q (.bl (!PyData.eqv da db)) H):=by
 intro pins s σ H x y v u Q I rx ry h
 obtain⟨da,db,hx,hy,ca,cb,hd,q⟩:=h
 obtain⟨as,ra⟩:=DV.reads I hx rx
 obtain⟨bs,rb⟩:=DV.reads I hy ry
 exact SeqAt.rcNeAt_reads ra rb ca cb (by omega) _ _ _ _ ⟨.bl _,H,I,rfl,q⟩
theorem allLay:∀{ds:List PyData},PyData.canLayAll0 ds=true->∀d∈ds,d.canLay0=true
 |[],_,d,h=>nomatch h
 |e::ds,h,d,hd=>by
  have h':(e.canLay0&&PyData.canLayAll0 ds)=true:=h
  rw[Bool.and_eq_true]at h'
  rcases List.mem_cons.mp hd with rfl|hd
  ·exact h'.1
  ·exact allLay h'.2 d hd
open Classical in
theorem op_inD(hu:X.A.units+64<cLine):OpR X (compareOp .In) (fun x y H Q=>∃(p:Addr) (xs:List V) (ds:List PyData) (dx:PyData),y= .ref p/\(SqL X.K H p xs\/SqT X.K H p xs)/\DVs X.K H xs ds/\DV X.K H x dx/\PyData.canLayAll0 ds=true/\dx.canLay0=true/\dx.depth<=60/\
  Q (.bl (ds.any fun d=>PyData.eqv d dx)) H):=by
 intro pins s σ H x y v u Q I rx ry h
 obtain⟨p,xs,ds,dx,rfl,hq,hds,hx,ca,cb,hd,q⟩:=h
 cases ry
 obtain⟨bs,rb⟩:=DV.reads I hx rx
 have key:∀{its:List Value},Vals xs its->(∀y∈its,SeqAt.EqAt X.A.in1 s y v (decide (∃d as,Reads s.heap y d as/\d∈ds/\PyData.eqv d dx=true)))/\(its.any fun y=>decide (∃d as,Reads s.heap y d as/\d∈ds/\PyData.eqv d dx=true))=ds.any fun d=>PyData.eqv d dx:=by
  intro its rv
  obtain⟨as,ra⟩:=DVs.reads I hds rv
  have each:∀{us:List Value} {es:List PyData} {as:List Addr},ReadsAll s.heap us es as->(∀e∈es,e∈ds)->(∀y∈us,SeqAt.EqAt X.A.in1 s y v (decide (∃d as,Reads s.heap y d as/\d∈ds/\PyData.eqv d dx=true)))/\(us.any fun y=>decide (∃d as,Reads s.heap y d as/\d∈ds/\PyData.eqv d dx=true))=es.any fun d=>PyData.eqv d dx:=by
   intro us
   induction us with
   |nil=>intro es as h _;cases h;exact⟨(fun y hy=>(nomatch hy)),rfl⟩
   |cons y us ih=>
    intro es as h hs
    cases h with
    | @cons _ _ d ds' as' bs' r rr=>
     obtain⟨i1,i2⟩:=ih rr fun e he=>hs e (List.mem_cons_of_mem _ he)
     have cl:=allLay ca d (hs d List.mem_cons_self)
     have e:decide (∃d as,Reads s.heap y d as/\d∈ds/\PyData.eqv d dx=true)=PyData.eqv d dx:=by
      rw[Bool.eq_iff_iff,decide_eq_true_eq]
      constructor
      ·rintro⟨d',as'',r',_,q'⟩
       obtain⟨rfl,_⟩:=(PySem.Reads.unique r _ _ r')
       exact q'
      ·intro q'
       exact⟨d,_,r,hs d List.mem_cons_self,q'⟩
     refine⟨fun z hz=> ?_,?_⟩
     ·rcases List.mem_cons.mp hz with rfl|hz
      ·rw[e]
       exact SeqAt.eqAt_reads d dx _ s _ _ _ _ r rb cl cb (by show X.A.units+1+min d.depth dx.depth<cLine;omega)
      ·exact i1 z hz
     ·rw[List.any_cons,List.any_cons,i2,e]
  exact each ra fun e he=>he
 rcases hq with hq|hq
 ·obtain⟨its,r,pl,hz⟩:=I.list hq
  obtain⟨k1,k2⟩:=key r
  refine SeqAt.in_listAt _ pl.isList (fun w hw=>k1 w (by simpa using hw)) ⟨.bl _,H,I,rfl,?_⟩
  rw[show∀f:Value->Bool,its.toArray.any f=its.any f from fun f=>by simp,k2]
  exact q
 ·obtain⟨its,r,pl,hz⟩:=I.tuple hq
  obtain⟨k1,k2⟩:=key r
  refine SeqAt.in_tupleAt _ pl (fun w hw=>k1 w (by simpa using hw)) ⟨.bl _,H,I,rfl,?_⟩
  rw[show∀f:Value->Bool,its.toArray.any f=its.any f from fun f=>by simp,k2]
  exact q
end
end L2
namespace HT
open PySem PyProof.Rows
section
open PySem.SeqAt
open PySem.AutoSeq1 (wpAny_loadPart')
open PySem.MeetsSeq PySem.MeetsSeq2 PySem.MeetsSeq3
end
section
variable{prog:Program}{w:World}{A:Around}{E:Value->Shared->Prop}{s:Shared}
theorem getItem_tuple_whole{t sl:Addr}{items:Array Value}{vl vu:Value}{lo hi:Option Int}{Q:Value->Shared->Prop}(ht:IsTup s.heap t items)(hs:s.heap.IsSliceOf sl vl vu .none)(pl:IsPart vl lo)(pu:IsPart vu hi)(hw:sIx items.size 0 lo=0/\sIx items.size items.size hi=items.size)(h:Q (.ref t) s):wpAny (model prog w) A (getItem (.ref t) (.ref sl)) Q E s:=by
 obtain⟨os,hos,hcs,hds⟩:=id hs
 have hTs:s.TypeIs (.ref sl) "slice":=⟨os,hos,hcs⟩
 unfold getItem
 try with_reducible refine wpAny_holding ?_
 first |refine wpAny_bind (wpAny_pure ?_)|skip
 refine wpAny_bind (wpAny_sequenceKey ht.typeIs (by decide) ?_)
 refine wpAny_bind (wpAny_callSpecial?_slot (name:=Str.ofString "__getitem__") ht.typeIs PyProof.Rows.slot_tuple_getitem
  (wpAny_call_entry PyProof.Rows.slot_tuple_getitem ht.typeIs entry_tuple_getitem ?_ (args_tuple_getitem _ _)))
 show wpAny _ _ (Builtin.Tuple.tupleItemsOf (.ref t)>>=_) _ _ s
 refine wpAny_bind (tupleItemsOf_ ht ?_)
 refine wpAny_bind (wpAny_typeOf hTs ?_)
 rw[if_pos (by decide)]
 refine wpAny_bind (sliceApplied_gen hs pl pu ?_)
 have hyes:((((sIx items.size 0 lo:Nat):Int)==0&&(1:Int)==1&&(sIx items.size items.size hi-sIx items.size 0 lo)==items.size)=true):=by
  rw[hw.1,hw.2];simp
 show wpAny _ _ (if(((sIx items.size 0 lo:Nat):Int)==0&&(1:Int)==1&&(sIx items.size items.size hi-sIx items.size 0 lo)==items.size)=true then _ else _) _ _ s
 rw[if_pos hyes]
 obtain⟨o,ho,hc,n,hd⟩:=id ht
 refine wpAny_bind ?_
 show wpAny _ _ (Builtin.Tuple.tupleIsExact (.ref t)) _ _ s
 unfold Builtin.Tuple.tupleIsExact
 refine wpAny_bind (wpAny_typeOf ht.typeIs ?_)
 refine wpAny_pure ?_
 rw[if_pos (by decide)]
 first
  |exact wpAny_bind (wpAny_rule (wpAny_bind (wpAny_pure ⟨_,rfl,wpAny_pure h⟩)))
  |exact wpAny_bind (wpAny_rule (wpAny_pure ⟨_,rfl,wpAny_pure h⟩))
  |exact wpAny_bind (wpAny_rule (wpAny_bind (wpAny_pure (wpAny_pure ⟨_,rfl,wpAny_pure h⟩))))
  |(trace_state;exact wpAny_bind (wpAny_bind (wpAny_rule (wpAny_pure ⟨_,rfl,wpAny_pure h⟩))))
end
end HT
namespace L2
open PySem PySem.Spec PyProof.Rows
section
variable{X:Cx}
theorem op_isnotB:OpR X (compareOp .IsNot) (fun x y H Q=>∃a b,x= .bl a/\y= .bl b/\Q (.bl (a !=b)) H):=by
 intro pins s σ H x y v u Q I rx ry h
 obtain⟨a,b,rfl,rfl,q⟩:=h
 cases rx;cases ry
 exact isnot_bool ⟨.bl _,H,I,rfl,q⟩
theorem op_fdivL:OpR X (binaryOp .FloorDiv) (rI (fun _ j=>0<j/\j<1000000000000000000000000000000) fun i j=> .int (i/j)):=opI fun i j _ _ _ _ _ hc q=>by
 have h1:(0:Int)<j:=hc.1
 have h2:j<1000000000000000000000000000000:=hc.2
 refine floordiv_int (by omega) ?_ (Or.inl (PyProof.noPylong_of_log2 ?_))
 ·rw[Int.fdiv_eq_ediv_of_nonneg _ (by omega)]
  exact q
 ·have h3:j.natAbs≠0:=by omega
  have h4:j.natAbs<2^100:=by
   have:(2:Nat)^100=1267650600228229401496703205376:=by decide
   omega
  have:=(Nat.log2_lt h3).mpr h4
  omega
noncomputable def rCatE(K:W.Frag):R2:=fun x y H Q=>∃a b xs ys,x= .ref a/\y= .ref b/\SqT K H a xs/\SqT K H b ys/\xs.length+ys.length<=sizeLine/\∀r H',Same H H'->SqT K H' r (xs++ys)->Q (.ref r) H'
theorem op_catE:OpR X (binaryOp .Add) (rCatE X.K):=by
 intro pins s σ H x y v u Q I rx ry h
 obtain⟨a,b,xs,ys,rfl,rfl,ha,hb,hz,q⟩:=h
 by_cases hx:xs=[]
 ·subst hx
  cases rx
  cases ry
  obtain⟨its,r1,p1,_⟩:=I.tuple ha
  obtain⟨its2,r2,p2,_⟩:=I.tuple hb
  cases r1
  obtain⟨⟨cls,dd,data,sl⟩,ho,hc,n,hd⟩:=id p1
  obtain⟨⟨cls2,dd2,data2,sl2⟩,ho2,hc2,n2,hd2⟩:=id p2
  simp only at hc hd hc2 hd2
  subst hc hd hc2 hd2
  exact concat_meets ⟨_,ho,rfl⟩ ⟨_,ho2,rfl⟩ noFill_tuple_add seq_tuple_add PySem.F.slot_tuple_add PySem.F.entry_tuple_add (PySem.F.args_tuple_add_2 _ _)
   (tuple_addW0 a b _ _ n n2 dd dd2 sl sl2 (by simp)) ⟨ho,ho2,⟨.ref b,H,I,rfl,q b H (Same.refl _) hb⟩⟩
 ·refine op_catT pins s σ H _ _ v u Q I rx ry ⟨a,b,xs,ys,rfl,rfl,ha,hb,hx,hz,fun e=> ?_,fun e p hp=> ?_⟩
  ·subst e
   exact q a H (Same.refl _) (by rw[List.append_nil];exact ha)
  ·exact q p _ (fun c o e=>by rw[zap (zbt e hp)];exact e) (SqT.of zac)
noncomputable def rSlE(K:W.Frag):V->Option Int->Option Int->Hp->VK->Prop:=fun x lo hi H Q=>∃a xs,x= .ref a/\SqT K H a xs/\∀r H',Same H H'->SqT K H' r (cutV xs lo hi)->Q (.ref r) H'
theorem sl_tupE:SlR X (rSlE X.K):=by
 intro pins s σ H x v vl vu lo hi sl Q I rx hs pl pu h
 obtain⟨a,xs,rfl,hx,q⟩:=h
 by_cases hw:HT.sIx xs.length 0 lo=0/\HT.sIx xs.length xs.length hi=xs.length
 ·cases rx
  obtain⟨its,r,ht,hz⟩:=I.tuple hx
  have hlen:its.toArray.size=xs.length:=by rw[List.size_toArray];exact r.length.symm
  refine⟨"tuple",_,PyProof.Rows.slot_tuple_getitem.lookup,ht.typeIs,?_⟩
  refine HT.getItem_tuple_whole ht hs pl pu (by rw[hlen];exact hw) ⟨.ref a,H,I,rfl,q a H (Same.refl _) ?_⟩
  have e:cutV xs lo hi=xs:=by
   unfold cutV
   rw[hw.1,hw.2]
   simp
  rw[e];exact hx
 ·exact sl_tup pins s σ H _ v vl vu lo hi sl Q I rx hs pl pu ⟨a,xs,rfl,hx,hw,fun p hp=>q p _ (fun c o e=>by rw[zap (zbt e hp)];exact e) (SqT.of zac)⟩
end
end L2
namespace HT
open PySem PySem.Calls PySem.Spec PyProof.Rows PySem.W
section
variable{prog:Program}{w:World}{A:Around}{E:Value->Shared->Prop}{s:Shared}
end
end HT
namespace L2
open PySem PySem.Spec PyProof.Rows
section
variable{X:Cx}{e m:Expr}{te:TE}{tm:TO}{pos p2:Pos}
end
end L2
namespace L2
open PySem PySem.Spec PyProof.Rows
section
variable{X:Cx}{tg:Expr}
noncomputable def iListL(K:W.Frag)(tl:TE):TI:=fun σ H R=>tl σ H fun x H1=>∃a xs,x= .ref a/\SqL K H1 a xs/\(xs.length<=sizeLine->R (Itl K a) H1)
noncomputable def iTupL(K:W.Frag)(tl:TE):TI:=fun σ H R=>tl σ H fun x H1=>∃a xs,x= .ref a/\SqT K H1 a xs/\(xs.length<=sizeLine->R (Itt K a) H1)
theorem zdc{l:Expr}{tl:TE}(hl:PE X l tl):PI X tg l (iListL X.K tl):=by
 intro pins s σ H R I h
 refine thn (hl pins s σ H _ I h) fun v s1 ⟨x,H1,I1,r1,q1⟩=> ?_
 obtain⟨a,xs,e,hq,q⟩:=q1
 subst e
 cases r1
 obtain⟨its,rv,p,hz⟩:=I1.list hq
 refine wpAny_pyIter_list p.isList ?_
 refine⟨s1.heap.objs.size,[s1.heap.objs.size],_,_,H1,rfl,I1.kept (t':=s1.toks) fun b o e=>Heap.get?_push_of_some _ e,turn_list a _,⟨_,Heap.get?_push_size _ rfl,rfl,rfl⟩,fun b hb=> ?_,q hz⟩
 have e:b=s1.heap.objs.size:=by simpa using hb
 subst e
 exact I1.fpOk (Nat.le_refl _) (I1.hok.fresh (Nat.le_refl _))
theorem pi_tupL{l:Expr}{tl:TE}(hl:PE X l tl):PI X tg l (iTupL X.K tl):=by
 intro pins s σ H R I h
 refine thn (hl pins s σ H _ I h) fun v s1 ⟨x,H1,I1,r1,q1⟩=> ?_
 obtain⟨a,xs,e,hq,q⟩:=q1
 subst e
 cases r1
 obtain⟨its,rv,p,hz⟩:=I1.tuple hq
 refine wpAny_pyIter_tuple (show s1.heap.IsTuple a its.toArray from p) ?_
 refine⟨s1.heap.objs.size,[s1.heap.objs.size],_,_,H1,rfl,I1.kept (t':=s1.toks) fun b o e=>Heap.get?_push_of_some _ e,turn_tuple a _,⟨_,Heap.get?_push_size _ rfl,rfl,rfl⟩,fun b hb=> ?_,q hz⟩
 have e:b=s1.heap.objs.size:=by simpa using hb
 subst e
 exact I1.fpOk (Nat.le_refl _) (I1.hok.fresh (Nat.le_refl _))
theorem zao:CallR X (.builtin "len") (fun xs H Q=>∃p ys,xs=[.ref p]/\(SqL X.K H p ys\/SqT X.K H p ys)/\(ys.length<=16777216->Q (.int ys.length) H)):=by
 intro pins s σ H xs us Q I r h
 obtain⟨p,ys,rfl,hq,q⟩:=h
 have hz:ys.length<=16777216:=by
  rw[<-sizeLine_eq]
  rcases hq with hq|hq
  ·exact(I.list hq).choose_spec.2.2
  ·exact(I.tuple hq).choose_spec.2.2
 exact call_len_seq pins s σ H _ us Q I r ⟨p,ys,rfl,hq,q hz⟩
end
mutual
inductive DX(K:W.Frag)(H:Hp):V->PyData->Prop
 |non:DX K H .non .none
 |bl (b:Bool):DX K H (.bl b) (.bool b)
 |int (i:Int):DX K H (.int i) (.int i)
 |str (x:Str):DX K H (.str x) (.str x)
 |tup {a:Addr} {xs:List V} {ds:List PyData} (h:SqT K H a xs) (t:DXs K H xs ds):DX K H (.ref a) (.tuple ds)
 |lst {a:Addr} {xs:List V} {ds:List PyData} (h:SqL K H a xs) (t:DXs K H xs ds):DX K H (.ref a) (.list ds)
 |dct {a:Addr} {kvs:List (Key×V)} (ds:List (PyData×PyData)) (h:H a=some (.dK kvs)):DX K H (.ref a) (.dict ds)
inductive DXs(K:W.Frag)(H:Hp):List V->List PyData->Prop
 |nil:DXs K H [] []
 |cons {x:V} {d:PyData} {xs:List V} {ds:List PyData} (h:DX K H x d) (t:DXs K H xs ds):DXs K H (x::xs) (d::ds)
end
theorem DX.same{K:W.Frag}{H H':Hp}(e:Same H H'){x:V}{d:PyData}(h:DX K H x d):DX K H' x d:=
 DX.rec (motive_1:=fun x d _=>DX K H' x d) (motive_2:=fun xs ds _=>DXs K H' xs ds) .non (fun b=> .bl b) (fun i=> .int i) (fun x=> .str x) (fun h _ t=> .tup (e.tup h) t) (fun h _ t=> .lst (e.seq h) t) (fun ds h=> .dct ds (e _ _ h)) .nil (fun _ _ h t=> .cons h t) h
theorem DXs.same{K:W.Frag}{H H':Hp}(e:Same H H'){xs:List V}{ds:List PyData}(h:DXs K H xs ds):DXs K H' xs ds:=
 DXs.rec (motive_1:=fun x d _=>DX K H' x d) (motive_2:=fun xs ds _=>DXs K H' xs ds) .non (fun b=> .bl b) (fun i=> .int i) (fun x=> .str x) (fun h _ t=> .tup (e.tup h) t) (fun h _ t=> .lst (e.seq h) t) (fun ds h=> .dct ds (e _ _ h)) .nil (fun _ _ h t=> .cons h t) h
theorem DV.dx{K:W.Frag}{H:Hp}{x:V}{d:PyData}(h:DV K H x d):DX K H x d:=
 DV.rec (motive_1:=fun x d _=>DX K H x d) (motive_2:=fun xs ds _=>DXs K H xs ds) .non (fun b=> .bl b) (fun i=> .int i) (fun x=> .str x) (fun h _ t=> .tup h t) (fun h _ t=> .lst h t) (fun h=> .dct [] h) (fun h _=> .dct _ h) .nil (fun _ _ h t=> .cons h t) h
theorem DVs.dx{K:W.Frag}{H:Hp}{xs:List V}{ds:List PyData}(h:DVs K H xs ds):DXs K H xs ds:=
 DVs.rec (motive_1:=fun _ _ _=>True) (motive_2:=fun xs ds _=>DXs K H xs ds) trivial (fun _=>trivial) (fun _=>trivial) (fun _=>trivial) (fun _ _ _=>trivial) (fun _ _ _=>trivial) (fun _=>trivial) (fun _ _=>trivial) .nil (fun h _ _ t=> .cons h.dx t) h
noncomputable def kindD:PyData->String
 | .none=>"NoneType"
 | .bool _=>"bool"
 | .int _=>"int"
 | .str _=>"str"
 | .list _=>"list"
 | .tuple _=>"tuple"
 | .dict _=>"dict"
theorem DX.kind{K:W.Frag}{H:Hp}:∀{x:V} {d:PyData},DX K H x d->KindV K H x (kindD d)
 |_,_,.non=>rfl
 |_,_,.bl _=>rfl
 |_,_,.int _=>rfl
 |_,_,.str _=>rfl
 |_,_,.tup h _=> .inl ⟨rfl,_,h⟩
 |_,_,.lst h _=> .inr (.inl ⟨rfl,_,h⟩)
 |_,_,.dct _ h=> .inr (.inr ⟨rfl,_,h⟩)
theorem DXs.len{K:W.Frag}{H:Hp}{xs:List V}{ds:List PyData}(h:DXs K H xs ds):xs.length=ds.length:=
 DXs.rec (motive_1:=fun _ _ _=>True) (motive_2:=fun xs ds _=>xs.length=ds.length) trivial (fun _=>trivial) (fun _=>trivial) (fun _=>trivial) (fun _ _ _=>trivial) (fun _ _ _=>trivial) (fun _ _=>trivial) rfl (fun _ _ _ t=>congrArg Nat.succ t) h
theorem DXs.get{K:W.Frag}{H:Hp}:∀{xs:List V} {ds:List PyData} {i:Nat} {x:V},DXs K H xs ds->xs[i]? =some x->∃d,ds[i]? =some d/\DX K H x d
 |_,_,_,_,.nil,e=>by simp at e
 |_,_,0,_,.cons h _,e=>by simp at e;subst e;exact⟨_,rfl,h⟩
 |_,_,i+1,x,.cons _ t,e=>by
  obtain⟨d,h1,h2⟩:=DXs.get (i:=i) t (by simpa using e)
  exact⟨d,by simpa using h1,h2⟩
structure Dfn(K:W.Frag)(mg:Str->Option Value)(x:Str)(st:Stmt)(ps:List Str)(f:Addr)(fd:FuncData):Prop where
 F:Fun K x x st f fd
 b:Binds K fd ps []
 m:mg x=some (.ref f)
theorem zad{H:Hp}{p:Addr}(h:H p=none)(o:HO):Same H (upd H p o):=fun b u q=>by rw[zap (zbt q h)];exact q
end L2
namespace HsD
open PySem L2
noncomputable def wholeD:PyData->Bool
 | .int _=>true
 |_=>false
noncomputable def placeD(n:Int):PyData->Bool
 | .int i=>decide (0<=i)&&decide (i<n)
 |_=>false
noncomputable def intD:PyData->Int
 | .int i=>i
 |_=>0
noncomputable def kids:PyData->List PyData
 | .tuple ds=>ds
 |_=>[]
noncomputable def risesI(ns:List Int):Bool:=(List.range (ns.length-1)).all fun k=>decide (ns.getD k 0<ns.getD (k+1) 0)
noncomputable def risesT(ts:List (List Int)):Bool:=(List.range (ts.length-1)).all fun k=>HT.lexLt (ts.getD k []) (ts.getD (k+1) [])
noncomputable def setD(n:Int):PyData->Bool
 | .tuple ds=>ds.all (placeD n)&&risesI (ds.map intD)
 |_=>false
noncomputable def tieD(n:Int)(d:PyData):Bool:=setD n d&&decide ((kids d).length=2)
noncomputable def tiesD(n:Int):PyData->Bool
 | .tuple ds=>ds.all (tieD n)&&risesT (ds.map fun t=>(kids t).map intD)
 |_=>false
noncomputable def webD:PyData->Bool
 | .tuple [n,t]=>wholeD n&&(decide (0<=intD n)&&decide (intD n<=10))&&tiesD (intD n) t
 |_=>false
theorem placeD_int{n:Int}:∀{d:PyData},placeD n d=true->∃i,d= .int i/\0<=i/\i<n
 | .int i,h=>⟨i,rfl,by simpa[placeD]using h⟩
end HsD
namespace L2
open PySem PySem.Spec PyProof.Rows
section
variable{X:Cx}
theorem ix_tupK(K:W.Frag)(h:X.K=K:=by rfl):IxR X (rIxT K):=by subst h;exact zaw
theorem ix_listK(K:W.Frag)(h:X.K=K:=by rfl):IxR X (rIxL K):=by subst h;exact zce
theorem call_lenK(K:W.Frag)(h:X.K=K:=by rfl):CallR X (.builtin "len") (fun xs H Q=>∃p ys,xs=[.ref p]/\(SqL K H p ys\/SqT K H p ys)/\(ys.length<=16777216->Q (.int ys.length) H)):=by subst h;exact zao
theorem op_ltTK(K:W.Frag)(hu:X.A.units<cLine)(h:X.K=K:=by rfl):OpR X (compareOp .Lt) (rLtT K):=by subst h;exact op_ltT hu
theorem op_inDK(K:W.Frag)(hu:X.A.units+64<cLine)(h:X.K=K:=by rfl):OpR X (compareOp .In) (fun x y H Q=>∃(p:Addr) (xs:List V) (ds:List PyData) (dx:PyData),y= .ref p/\(SqL K H p xs\/SqT K H p xs)/\DVs K H xs ds/\DV K H x dx/\PyData.canLayAll0 ds=true/\dx.canLay0=true/\dx.depth<=60/\
  Q (.bl (ds.any fun d=>PyData.eqv d dx)) H):=by subst h;exact op_inD hu
theorem pg_tupK(K:W.Frag){es:List Expr}{k:Nat}{t:TGs}{n:Nat}{pos:Pos}(hc:X.calm=true)(h:PGs X es t)(hn:(assignEach es X.env).length=n:=by rfl)(hst:(assignEach es X.env).findIdx? (·.1)=none:=by rfl)(hK:X.K=K:=by rfl):PG X (.Tuple es k pos) (gTup K n t):=by subst hK;exact pg_tup hc h hn hst
end
end L2
namespace PySem
open Sem (wp)
open AutoSeq1 (wpAny_loadPart')
section
variable{prog:Program}{w:World}{A:Around}{E:Value->Shared->Prop}{s:Shared}
theorem wpAny_collect_range{Q:List Value->Shared->Prop}{r:Addr}{a b c:Int}{t u v:Tok}{n:Nat}(hh:A.handled=none)(hr:IsRange s.heap r a b c t u v)(hsmall:Builtin.Range.small a b c=true)(hn:Builtin.Range.rangeSize a b c=n)(hlen:n<=2^24)(hQ:∀h' tk acc,(∀b o',s.heap.get? b=some o'->h'.get? b=some o')->ItemsOf (fun i v=>∃t,v= .int (a+i*c) t) acc n->Q acc.toList {s with heap:=h',toks:=tk}):
  wpAny (model prog w) A (collect (.ref r)) Q E s:=by
 unfold collect
 refine wpAny_bind (wpAny_runValue (codeAny_builtin F.entry_proto_collect ?_));rw[Around.under_plainId F.plain_proto_collect _];show wpAny _ A.in1 (newList []>>=fun l=>again (.builtin "list.__iadd__" ⟨[l,.ref r],[]⟩)) _ _ s;refine wpAny_bind (wpAny_newObj_type ?_);refine wpAny_pure ⟨plainId_quiet F.plain_list_iadd _,codeAny_builtin F.entry_list_iadd ?_⟩;rw[Around.under_plainId F.plain_list_iadd _]
 show wpAny _ A.in1 (Builtin.List.listExtendWith (.ref s.heap.objs.size) (.ref r) (.ref s.heap.objs.size)) _ _ _;have hS:(s.heap.push {cls:= .type "list",data:= .seq ([]:List Value).toArray}).get? s.heap.objs.size=some {cls:= .type "list",data:= .seq #[] 0}:=Heap.get?_push_size _ rfl;have fin':∀h' tk acc' c',(∀b o,b≠s.heap.objs.size->(s.heap.push {cls:= .type "list",data:= .seq ([]:List Value).toArray}).get? b=some o->h'.get? b=some o)->
   h'.get? s.heap.objs.size=some {cls:= .type "list",dict:=none,data:= .seq acc' c',slots:=#[]}->ItemsOf (fun i v=>∃t,v= .int (a+i*c) t) acc' n->wpAny (model prog w) A (match Value.ref s.heap.objs.size with
   |Value.ref a=>do
    match(<-load a).data with
     |Data.seq xs _=>pure xs.toList
     |_=>unsupported "internal:collect"
   |_=>unsupported "internal:collect") Q E {s with heap:=h',toks:=tk}:=fun h' tk acc' c' hk hS' hacc=>by
  show wpAny _ A (load s.heap.objs.size>>=_) _ _ _
  refine wpAny_bind (wpAny_load hS' ?_)
  refine wpAny_pure ?_
  exact hQ h' tk acc' (fun b o e=>hk b o (Nat.ne_of_lt (Heap.lt_size e)) (Heap.get?_push_of_some _ e)) hacc
 refine wpAny_mono (wpAny_extend_range (A:=A) (R:=fun r s'=>r= .ok (.ret (.ref s.heap.objs.size))/\∃h' tk acc' c',s'={s with heap:=h',toks:=tk}/\(∀b o,b≠s.heap.objs.size->(s.heap.push {cls:= .type "list",data:= .seq ([]:List Value).toArray}).get? b=some o->h'.get? b=some o)/\
   h'.get? s.heap.objs.size=some {cls:= .type "list",dict:=none,data:= .seq acc' c',slots:=#[]}/\ItemsOf (fun i v=>∃t,v= .int (a+i*c) t) acc' n) (s:={s with heap:=s.heap.push {cls:= .type "list",data:= .seq ([]:List Value).toArray}}) hh (Heap.get?_push_of_some _ hr) hsmall hn hlen s.heap.objs.size (.ref s.heap.objs.size) 0 hS (fun h' tk acc' c' hk hS' hacc=>⟨rfl,h',tk,acc',c',rfl,hk,hS',hacc⟩)) (fun fin s' h=> ?_) (fun e s' h=> ?_)
 ·cases fin with
  |done f=>
   obtain⟨e,h',tk,acc',c',rfl,h1,h2,h3⟩:=h
   cases e
   exact fin' h' tk acc' c' h1 h2 h3
  |again c'=>exact⟨h.1,codeAny_mono h.2 fun r s'' hr=>by obtain⟨rfl,h',tk,acc',c',rfl,h1,h2,h3⟩:=hr;exact fin' h' tk acc' c' h1 h2 h3⟩
 ·exact absurd h.1 (by simp)
end
theorem meets_tuple_new_range(r:Addr)(a b c:Int)(t u v:Tok)(n:Nat)(hsmall:Builtin.Range.small a b c=true)(hn:Builtin.Range.rangeSize a b c=n)(hlen:n<=2^24):
  Meets (Builtin.«tuple.__new__» ⟨[.type "tuple",.ref r],[]⟩)
   (fun A R s=>A.handled=none/\IsRange s.heap r a b c t u v/\∀(h':Heap) tk acc,(∀b o',s.heap.get? b=some o'->h'.get? b=some o')->ItemsOf (fun i v=>∃t,v= .int (a+i*c) t) acc n->R (.ok (.ret (.ref h'.objs.size))) {s with heap:=h'.push {cls:= .type "tuple",data:= .seq acc},toks:=tk}):=
 .of_wp fun prog w A R s h=>by
  obtain⟨hp,g,d,tk,os⟩:=s;obtain⟨hh,ht,h⟩:=h
  have hsub:=sub_tuple_self
  have hinit:=init_tuple_lookup
  have hmh:=madeHere_tuple
  have hT:Shared.TypeIs ⟨hp,g,d,tk,os⟩ (.ref r) "range":=⟨_,ht,rfl⟩
  wp_walk using wpAny_loadPart' ht,wpAny_typeOf hT,wpAny_collect_range (A:=A.in1) hh ht hsmall hn hlen
  intro h' tk' acc hk hacc
  show wpAny _ _ (Builtin.Tuple.tupleExact acc.toList.toArray>>=fun v=>ret v) _ _ _
  unfold Builtin.Tuple.tupleExact
  refine wpAny_bind (wpAny_newObj_type ?_ (by show acc.toList.toArray.size<=sizeLine;rw[sizeLine_eq];simp;rw[hacc.1];omega))
  refine wpAny_pure ⟨_,rfl,?_⟩
  have e:acc.toList.toArray=acc:=by simp
  rw[e]
  exact h h' tk' acc hk hacc
section
variable{prog:Program}{w:World}{A:Around}{E:Value->Shared->Prop}{s:Shared}
theorem call_tuple_range{Q:Value->Shared->Prop}{r:Addr}{a b c:Int}{t u v:Tok}{n:Nat}(hh:A.handled=none)(hr:IsRange s.heap r a b c t u v)(hsmall:Builtin.Range.small a b c=true)(hn:Builtin.Range.rangeSize a b c=n)(hlen:n<=2^24)(h:∀(h':Heap) tk acc,(∀b o',s.heap.get? b=some o'->h'.get? b=some o')->ItemsOf (fun i v=>∃t,v= .int (a+i*c) t) acc n->Q (.ref h'.objs.size) {s with heap:=h'.push {cls:= .type "tuple",data:= .seq acc},toks:=tk}):
  wpAny (model prog w) A (call (.type "tuple") [.ref r]) Q E s:=
 callType_new F.called_tuple (by decide) (F.typeCall_tuple_1 _) (F.newCall_tuple_1 _) (fun obj=>F.args_object_init_2 obj _) F.entry_tuple_new
  (meets_tuple_new_range r a b c t u v n hsmall hn hlen) ⟨hh,hr,fun h' tk acc hk hacc=>⟨⟨_,Heap.get?_push_size _ rfl,rfl⟩,h h' tk acc hk hacc⟩⟩
end
end PySem
namespace L2
open PySem PySem.Spec PyProof.Rows
section
variable{X:Cx}{p p' pos pos':Pos}{a:Expr}{ta:TA}
noncomputable def tupR(n:Nat):List V:=(List.range n).map fun(k:Nat)=>V.int (k:Int)
noncomputable def tTupR(ta:TA):TE:=fun σ H Q=>ta σ H fun vs H1=>∃j:Int,vs=[.int j]/\0<=j/\j<=16777216/\∀l,H1 l=none->Q (.ref l) (upd H1 l (.tup (tupR j.toNat)))
theorem vals_items:∀{n:Nat} {us:List Value},us.length=n->(∀(j:Nat) (u:Value),us[j]? =some u->∃t:Tok,u=Value.int (0+((j:Nat):Int)*1) t)->Vals (tupR n) us:=by
 intro n us hl hi
 have go:∀(us:List Value) (k:Nat),(∀(j:Nat) (u:Value),us[j]? =some u->∃t:Tok,u=Value.int (0+((j+k:Nat):Int)*1) t)->Vals ((List.range' k us.length).map fun(k:Nat)=>V.int (k:Int)) us:=by
  intro us
  induction us with
  |nil=>intro k _;exact .nil
  |cons u us ih=>
   intro k h
   obtain⟨t,e⟩:=h 0 u rfl
   refine .cons ⟨t,?_⟩ (ih (k+1) fun j u' hj=> ?_)
   ·rw[e];congr 1;omega
   ·obtain⟨t',e'⟩:=h (j+1) u' (by simpa using hj)
    refine⟨t',?_⟩
    rw[e'];congr 1;omega
 have:=go us 0 (fun j u hj=>by obtain⟨t,e⟩:=hi j u hj;exact⟨t,by rw[e];rfl⟩)
 unfold tupR
 rw[List.range_eq_range',<-hl]
 exact this
theorem pe_tupRange(hc:X.calm=true)(hgT:Gl X "tuple")(hmT:X.mg "tuple"=none)(hg:Gl X "range")(hm:X.mg "range"=none)(ha:PA X [a] ta)(hs:starEach [a] X.env=[(false,eval a X.env)]:=by rfl)(hs2:starEach [Expr.Call (.Name "range" p') [a] [] pos'] X.env=[(false,eval (Expr.Call (.Name "range" p') [a] [] pos') X.env)]:=by rfl):
  PE X (.Call (.Name "tuple" p) [.Call (.Name "range" p') [a] [] pos'] [] pos) (tTupR ta):=by
 intro pins s σ H Q I h
 refine wpAny_Call_Name_kw (ld_blt I hgT hmT (show bootBuiltins "tuple"=some (.type "tuple")from by decide+kernel) ?_ (by decide) (by decide))
 refine PyProof.Rows.callWith_type1 ?_ hs2 rfl
 rw[hs2]
 refine Calls.spliced_cons ?_
 refine Call_ (ld_blt I hg hm boot_range (PyProof.Rows.callWith_type1 (thn (ha pos' pins s σ H _ I h) fun us s1 ⟨vs,H1,I1,r1,q1⟩=> ?_) hs rfl))
 obtain⟨j,e,q1,q2,q⟩:=q1
 subst e
 cases r1 with
 |cons r rr=>
  cases rr
  obtain⟨t,rfl⟩:=r
  refine call_range_1 ?_
  refine Calls.spliced_nil ?_
  have hn:Builtin.Range.rangeSize 0 j 1=((j.toNat:Nat):Int):=by rw[rangeSize_one];split<;>omega
  refine call_tuple_range (I.ok.hd hc) (IsRange.new ..) (small_one (by decide) (by decide) (by omega) (by omega)) hn (by omega) fun h' tk acc hk hacc=> ?_
  have I2:Inv X pins σ H1 {s1 with heap:=h',toks:=tk}:=I1.kept fun b o e=>hk b o (Heap.get?_push_of_some _ e)
  have hv:Vals (tupR j.toNat) acc.toList:=vals_items (by rw[Array.length_toList];exact hacc.1) (fun i u hu=>hacc.2 i u (by simpa using hu))
  have hz:(tupR j.toNat).length<=sizeLine:=by unfold tupR;rw[sizeLine_eq];simp;omega
  have I3:Inv X pins σ (upd H1 h'.objs.size (.tup (tupR j.toNat))) {s1 with heap:=h'.push {cls:= .type "tuple",data:= .seq acc},toks:=tk}:=
   I2.laid (t':=tk) (fun b o e=>Heap.get?_push_of_some _ e) (Nat.le_refl _) (show ObjOk X.prog X.w _ _ _ (.tup (tupR j.toNat))from⟨hz,acc.toList,hv,by rw[show acc=acc.toList.toArray by simp];exact IsTup.new _ _⟩)
  exact⟨.ref h'.objs.size,_,I3,rfl,q _ (I2.hok.fresh (Nat.le_refl _))⟩
open Classical in
theorem op_notInD(hu:X.A.units+64<cLine):OpR X (compareOp .NotIn) (fun x y H Q=>∃(p:Addr) (xs:List V) (ds:List PyData) (dx:PyData),y= .ref p/\(SqL X.K H p xs\/SqT X.K H p xs)/\DVs X.K H xs ds/\DV X.K H x dx/\PyData.canLayAll0 ds=true/\dx.canLay0=true/\dx.depth<=60/\
  Q (.bl (!(ds.any fun d=>PyData.eqv d dx))) H):=by
 intro pins s σ H x y v u Q I rx ry h
 obtain⟨p,xs,ds,dx,rfl,hq,hds,hx,ca,cb,hd,q⟩:=h
 cases ry
 obtain⟨bs,rb⟩:=DV.reads I hx rx
 have key:∀{its:List Value},Vals xs its->(∀y∈its,SeqAt.EqAt X.A.in1 s y v (decide (∃d as,Reads s.heap y d as/\d∈ds/\PyData.eqv d dx=true)))/\(its.any fun y=>decide (∃d as,Reads s.heap y d as/\d∈ds/\PyData.eqv d dx=true))=ds.any fun d=>PyData.eqv d dx:=by
  intro its rv
  obtain⟨as,ra⟩:=DVs.reads I hds rv
  have each:∀{us:List Value} {es:List PyData} {as:List Addr},ReadsAll s.heap us es as->(∀e∈es,e∈ds)->(∀y∈us,SeqAt.EqAt X.A.in1 s y v (decide (∃d as,Reads s.heap y d as/\d∈ds/\PyData.eqv d dx=true)))/\(us.any fun y=>decide (∃d as,Reads s.heap y d as/\d∈ds/\PyData.eqv d dx=true))=es.any fun d=>PyData.eqv d dx:=by
   intro us
   induction us with
   |nil=>intro es as h _;cases h;exact⟨(fun y hy=>(nomatch hy)),rfl⟩
   |cons y us ih=>
    intro es as h hs
    cases h with
    | @cons _ _ d ds' as' bs' r rr=>
     obtain⟨i1,i2⟩:=ih rr fun e he=>hs e (List.mem_cons_of_mem _ he)
     have cl:=allLay ca d (hs d List.mem_cons_self)
     have e:decide (∃d as,Reads s.heap y d as/\d∈ds/\PyData.eqv d dx=true)=PyData.eqv d dx:=by
      rw[Bool.eq_iff_iff,decide_eq_true_eq]
      constructor
      ·rintro⟨d',as'',r',_,q'⟩
       obtain⟨rfl,_⟩:=(PySem.Reads.unique r _ _ r')
       exact q'
      ·intro q'
       exact⟨d,_,r,hs d List.mem_cons_self,q'⟩
     refine⟨fun z hz=> ?_,?_⟩
     ·rcases List.mem_cons.mp hz with rfl|hz
      ·rw[e]
       exact SeqAt.eqAt_reads d dx _ s _ _ _ _ r rb cl cb (by show X.A.units+1+min d.depth dx.depth<cLine;omega)
      ·exact i1 z hz
     ·rw[List.any_cons,List.any_cons,i2,e]
  exact each ra fun e he=>he
 rcases hq with hq|hq
 ·obtain⟨its,r,pl,hz⟩:=I.list hq
  obtain⟨k1,k2⟩:=key r
  refine SeqAt.notIn_listAt _ pl.isList (fun w hw=>k1 w (by simpa using hw)) ⟨.bl _,H,I,rfl,?_⟩
  rw[show∀f:Value->Bool,its.toArray.any f=its.any f from fun f=>by simp,k2]
  exact q
 ·obtain⟨its,r,pl,hz⟩:=I.tuple hq
  obtain⟨k1,k2⟩:=key r
  refine SeqAt.notIn_tupleAt _ pl (fun w hw=>k1 w (by simpa using hw)) ⟨.bl _,H,I,rfl,?_⟩
  rw[show∀f:Value->Bool,its.toArray.any f=its.any f from fun f=>by simp,k2]
  exact q
theorem op_notInDK(K:W.Frag)(hu:X.A.units+64<cLine)(h:X.K=K:=by rfl):OpR X (compareOp .NotIn) (fun x y H Q=>∃(p:Addr) (xs:List V) (ds:List PyData) (dx:PyData),y= .ref p/\(SqL K H p xs\/SqT K H p xs)/\DVs K H xs ds/\DV K H x dx/\PyData.canLayAll0 ds=true/\dx.canLay0=true/\dx.depth<=60/\
  Q (.bl (!(ds.any fun d=>PyData.eqv d dx))) H):=by subst h;exact op_notInD hu
end
end L2
namespace PySem
open Sem (wp)
open Builtin
open AutoSeq1 (wpAny_loadPart')
end PySem
namespace L2
open PySem PySem.Spec PyProof.Rows
section
variable{X:Cx}{p p' pos pos':Pos}{a:Expr}{ta:TA}
noncomputable def tLstR(ta:TA):TE:=fun σ H Q=>ta σ H fun vs H1=>∃j:Int,vs=[.int j]/\0<=j/\j<=16777216/\∀l,H1 l=none->Q (.ref l) (upd H1 l (.lst (tupR j.toNat)))
theorem pe_lstRange(hc:X.calm=true)(hgT:Gl X "list")(hmT:X.mg "list"=none)(hg:Gl X "range")(hm:X.mg "range"=none)(ha:PA X [a] ta)(hs:starEach [a] X.env=[(false,eval a X.env)]:=by rfl)(hs2:starEach [Expr.Call (.Name "range" p') [a] [] pos'] X.env=[(false,eval (Expr.Call (.Name "range" p') [a] [] pos') X.env)]:=by rfl):
  PE X (.Call (.Name "list" p) [.Call (.Name "range" p') [a] [] pos'] [] pos) (tLstR ta):=by
 intro pins s σ H Q I h
 refine wpAny_Call_Name_kw (ld_blt I hgT hmT (show bootBuiltins "list"=some (.type "list")from by decide+kernel) ?_ (by decide) (by decide))
 refine PyProof.Rows.callWith_type1 ?_ hs2 rfl
 rw[hs2]
 refine Calls.spliced_cons ?_
 refine Call_ (ld_blt I hg hm boot_range (PyProof.Rows.callWith_type1 (thn (ha pos' pins s σ H _ I h) fun us s1 ⟨vs,H1,I1,r1,q1⟩=> ?_) hs rfl))
 obtain⟨j,e,q1,q2,q⟩:=q1
 subst e
 cases r1 with
 |cons r rr=>
  cases rr
  obtain⟨t,rfl⟩:=r
  refine call_range_1 ?_
  refine Calls.spliced_nil ?_
  have hn:Builtin.Range.rangeSize 0 j 1=((j.toNat:Nat):Int):=by rw[rangeSize_one];split<;>omega
  refine call_list_range (I.ok.hd hc) (IsRange.new ..) (small_one (by decide) (by decide) (by omega) (by omega)) hn (by omega) fun h' tk acc c hk hS hacc=> ?_
  have hv:Vals (tupR j.toNat) acc.toList:=vals_items (by rw[Array.length_toList];exact hacc.1) (fun i u hu=>hacc.2 i u (by simpa using hu))
  have hz:(tupR j.toNat).length<=sizeLine:=by unfold tupR;rw[sizeLine_eq];simp;omega
  have I2:Inv X pins σ H1 {s1 with heap:=s1.heap.push {cls:=Value.type "range",data:=Data.fields #[Value.int 0 s1.toks,Value.int j t,Value.int 1 (s1.toks+1)]},toks:=s1.toks+1+1}:=I1.kept fun b o e=>Heap.get?_push_of_some _ e
  exact⟨.ref _,_,I2.laid (t':=tk) (o:= .lst (tupR j.toNat)) hk (Nat.le_refl _) ⟨hz,acc.toList,c,hv,by simpa using hS⟩,rfl,q _ (I2.hok.fresh (Nat.le_refl _))⟩
end
end L2
namespace PySem
open Sem (wp)
open AutoSeq1 (wpAny_loadPart')
theorem enum_new_tup(l:Addr)(items:Array Value)(n:Nat)(dct:Option Addr)(sl:Array (Option Value)):
  Meets (Builtin.«enumerate.__new__» ⟨[.type "enumerate",.ref l],[]⟩) (fun _ R s=>s.heap.get? l=some {cls:= .type "tuple",dict:=dct,data:= .seq items n,slots:=sl}/\
   R (.ok (.ret (.ref (s.heap.push {cls:= .type "tuple_iterator",data:= .fields #[.ref l,.int 0 0]}).objs.size)))
    {s with heap:=(s.heap.push {cls:= .type "tuple_iterator",data:= .fields #[.ref l,.int 0 0]}).push {cls:= .type "enumerate",data:= .fields #[.none,.bool false,.ref s.heap.objs.size,rawInt 0,.none,.none]}}):=
 .of_wp fun prog w A R s h=>by
  obtain⟨hp,g,d,tk,os⟩:=s;obtain⟨hl,h⟩:=h;have hsub:=sub_enumerate
  have hL:Heap.IsTuple (Shared.heap ⟨hp,g,d,tk,os⟩) l items:=⟨_,hl,rfl,n,rfl⟩
  wp_walk using wpAny_loadPart' hl
  refine wpAny_stack_any fun st=>wpAny_pure ?_;split
  ·rename_i c _ _ _ _ _
   cases(c==Value.type "enumerate")
   ·wp_walk using wpAny_loadPart' hl,wpAny_pyIter_tuple hL;exact⟨_,rfl,h⟩
   ·wp_walk using wpAny_loadPart' hl,wpAny_pyIter_tuple hL;exact⟨_,rfl,h⟩
  ·wp_walk using wpAny_loadPart' hl,wpAny_pyIter_tuple hL;exact⟨_,rfl,h⟩
section
variable{prog:Program}{w:World}{A:Around}{E:Value->Shared->Prop}{s:Shared}
theorem nextOf_tup{it t:Addr}{i:Nat}{items:Array Value}{x:Value}{Q:Value->Shared->Prop}(hit:s.heap.IsTupleIter it t i)(ht:s.heap.IsTuple t items)(hx:items[i]? =some x)(hQ:∀h',h'.IsTupleIter it t (i+1)->Heap.SameBut it s.heap h'->Q x {s with heap:=h'}):wpAny (model prog w) A (Builtin.SmallTypes.nextOf (.ref it)) Q E s:=by
 obtain⟨o,ho,hc,hd⟩:=id hit;obtain⟨ol,hol,_,nl,hdl⟩:=ht;unfold Builtin.SmallTypes.nextOf
 refine wpAny_bind (wpAny_callSpecial?_slot (name:=Str.ofString "__next__") hit.typeIs F.slot_tuple_iterator_next (wpAny_call_entry F.slot_tuple_iterator_next hit.typeIs F.entry_tuple_iterator_next ?_ (F.args_tuple_iterator_next_1 _)))
 show wpAny _ _ (field (.ref it) 0>>=_) _ _ s;refine wpAny_bind (wpAny_field ho hd (x:= .ref t) rfl ?_)
 show wpAny _ _ (if(Value.ref t==Value.none)=true then _ else _) _ _ s;rw[if_neg (show¬((Value.ref t==Value.none)=true)from Bool.false_ne_true)]
 show wpAny _ _ (field (.ref it) 1>>=_) _ _ s;refine wpAny_bind (wpAny_field ho hd (x:= .int i 0) rfl ?_)
 show wpAny _ _ (seqItems? (.ref t)>>=_) _ _ s;refine wpAny_bind (wpAny_seqItems hol hdl ?_)
 simp only[Int.toNat_natCast,hx];refine wpAny_bind (wpAny_setField ho hd (by simp) (wpAny_pure ⟨x,rfl,wpAny_pure (hQ _ ?_ (Heap.SameBut.update ..))⟩))
 exact⟨_,Heap.get?_update_self _ ho (Obj.isFreed_of_fields (Obj.data_mapFields hd _)),(Obj.cls_mapFields ..).trans hc,by rw[Obj.data_mapFields hd];simp[rawInt]⟩
theorem nextOf_tup_end{it t:Addr}{i:Nat}{items:Array Value}{Q:Value->Shared->Prop}(hh:A.handled=none)(hit:s.heap.IsTupleIter it t i)(ht:s.heap.IsTuple t items)(hx:items[i]? =none)(hE:∀h' e,Heap.ExtBut it s.heap h'->(∃o,h'.get? e=some o/\o.cls= .type "StopIteration")->E (.ref e) {s with heap:=h'}):wpAny (model prog w) A (Builtin.SmallTypes.nextOf (.ref it)) Q E s:=by
 obtain⟨o,ho,hc,hd⟩:=id hit;obtain⟨ol,hol,_,nl,hdl⟩:=ht;unfold Builtin.SmallTypes.nextOf
 refine wpAny_bind (wpAny_callSpecial?_slot (name:=Str.ofString "__next__") hit.typeIs F.slot_tuple_iterator_next (wpAny_call_entry F.slot_tuple_iterator_next hit.typeIs F.entry_tuple_iterator_next ?_ (F.args_tuple_iterator_next_1 _)))
 show wpAny _ _ (field (.ref it) 0>>=_) _ _ s;refine wpAny_bind (wpAny_field ho hd (x:= .ref t) rfl ?_)
 show wpAny _ _ (if(Value.ref t==Value.none)=true then _ else _) _ _ s;rw[if_neg (show¬((Value.ref t==Value.none)=true)from Bool.false_ne_true)]
 show wpAny _ _ (field (.ref it) 1>>=_) _ _ s;refine wpAny_bind (wpAny_field ho hd (x:= .int i 0) rfl ?_)
 show wpAny _ _ (seqItems? (.ref t)>>=_) _ _ s;refine wpAny_bind (wpAny_seqItems hol hdl ?_)
 simp only[Int.toNat_natCast,hx];refine wpAny_bind (wpAny_rule (wpAny_bind (wpAny_setField ho hd (by simp) ?_)))
 show wpAny _ _ (newExc (.type "StopIteration") []>>=_) _ _ _;refine wpAny_bind ?_;simp only[newExc,newTuple];refine wpAny_bind (wpAny_newObj_type ?_ (by size_fits))
 refine wpAny_bind (m:=firstArgMember _ _) (wpAny_of_eq (a:=Value.none) (by first |rfl|(simp only[firstArgMember];rfl)) ?_);refine wpAny_newObj_type ?_ (by size_fits)
 simp only[raiseNew];refine wpAny_bind (wpAny_handled ?_);first |rw[show A.in1.handled=none from hh]|rw[hh]
 refine wpAny_bind (wpAny_pure (wpAny_throw ?_));exact hE _ _ (((Heap.SameBut.update ..).extBut.push _).push _) ⟨_,Heap.get?_push_size _ rfl,rfl⟩
end
theorem Draws.tup{prog:Program}{w:World}{A:Around}(hh:A.handled=none)(it l:Addr)(hne:l≠it)(items:Array Value):
  Draws prog w A it [it,l] items.size (fun i v=>items[i]? =some v) (fun i h=>h.IsTupleIter it l i/\h.IsTuple l items) where
 live:=fun i h st=>by obtain⟨⟨o,e,_⟩,_⟩:=st;exact⟨o,e⟩
 frame:=fun i h h' st k=>⟨st.1.at fun o e=>k it (by simp) o e,st.2.at fun o e=>k l (by simp) o e⟩
 item:=fun i s Q E hi st hQ=>by
  have hx:items[i]? =some items[i]:=Array.getElem?_eq_getElem hi
  exact nextOf_tup st.1 st.2 hx fun h' hit' hs=>hQ _ h' s.toks hx ⟨hit',st.2.at fun o e=>(hs.2 l hne).trans e⟩ hs
 done:=fun s Q E st hE=>nextOf_tup_end hh st.1 st.2 (Array.getElem?_eq_none (Nat.le_refl _)) hE
section
variable{prog:Program}{w:World}{A:Around}{E:Value->Shared->Prop}{s:Shared}
theorem call_enum_tup{l:Addr}{items:Array Value}{Q:Value->Shared->Prop}(hL:s.heap.IsTuple l items)(h:∀h',IsEnum h' (s.heap.objs.size+1) s.heap.objs.size 0 .none->h'.IsTupleIter s.heap.objs.size l 0->h'.objs.size=s.heap.objs.size+2->(∀b o,s.heap.get? b=some o->h'.get? b=some o)->Q (.ref (s.heap.objs.size+1)) {s with heap:=h'}):
  wpAny (model prog w) A (call (.type "enumerate") [.ref l]) Q E s:=by
 obtain⟨⟨c,dct,dt,sl⟩,hl,hc,n,hd⟩:=hL;replace hc:c= .type "tuple":=hc;replace hd:dt= .seq items n:=hd;subst hc hd
 refine callType_new F.called_enumerate (by decide) (F.typeCall_enumerate_1 _) (F.newCall_enumerate_1 _) (fun obj=>F.args_object_init_2 obj _) F.entry_enumerate_new (enum_new_tup l items n dct sl) ⟨hl,?_⟩
 have hz:(s.heap.push {cls:= .type "tuple_iterator",data:= .fields #[.ref l,.int 0 0]}).objs.size=s.heap.objs.size+1:=Heap.size_push ..
 show _/\_
 rw[hz]
 have he:IsEnum ((s.heap.push {cls:= .type "tuple_iterator",data:= .fields #[.ref l,.int 0 0]}).push {cls:= .type "enumerate",data:= .fields #[.none,.bool false,.ref s.heap.objs.size,rawInt 0,.none,.none]}) (s.heap.objs.size+1) s.heap.objs.size 0 .none:=by
  have:=Heap.get?_push_size (s.heap.push {cls:= .type "tuple_iterator",data:= .fields #[.ref l,.int 0 0]}) (o:={cls:= .type "enumerate",data:= .fields #[.none,.bool false,.ref s.heap.objs.size,rawInt 0,.none,.none]}) rfl
  rw[hz]at this;exact this
 exact⟨⟨_,he,rfl⟩,h _ he ⟨_,Heap.get?_push_of_some _ (Heap.get?_push_size _ rfl),rfl,rfl⟩ (by rw[Heap.size_push,hz]) fun b o x=>Heap.get?_push_of_some _ (Heap.get?_push_of_some _ x)⟩
end
end PySem
namespace L2
open PySem PySem.Spec PyProof.Rows
section
variable{X:Cx}{pins:List (Addr×Obj)}{σ:St}{H:Hp}{s:Shared}{h':Heap}
theorem Inv.turnsLaid{t':Nat}{fp:List Addr}{T:Addr}{o:HO}(I:Inv X pins σ H s)(k:∀b o,b∉fp->s.heap.get? b=some o->h'.get? b=some o)(hf:∀b∈fp,FpOk X pins H b)(hT:s.heap.objs.size<=T)(new:ObjOk X.prog X.w (upd H T o) h' T o):
  Inv X pins σ (upd H T o) {s with heap:=h',toks:=t'}:=by
 have hTn:H T=none:=I.hok.fresh hT
 have nfp:∀b u,H b=some u->b∉fp:=fun b u e z=>by rw[(hf b z).1]at e;cases e
 have neT:∀b o,s.heap.get? b=some o->b≠T:=fun b o e=>Nat.ne_of_lt (Nat.lt_of_lt_of_le (Heap.lt_size e) hT)
 have neU:∀b u,H b=some u->b≠T:=fun b u e z=>by rw[z,hTn]at e;cases e
 refine I.step (g':=s.gens) (d':=s.drawn) (ch:=fp) (fun b hb=> ?_) (fun b o _ _ hc e _=>k b o hc e) (fun b o _ _ hc e _=>⟨o.slots,k b o hc e⟩) (fun b o _ e n=>by rw[zap (neT b o e)];exact n)
  (fun b o hc e=>⟨o,k b o hc e⟩) (fun b xs e=>by rw[zap (neU b _ e)];exact e) (fun b o u e=>by rw[zap (neU b _ e)];exact e) (fun b ps e=>⟨#[],by rw[zap (neU b _ e),e];simp⟩) (fun m hm=> ?_) (fun b u e=> ?_) I.bare
 ·obtain⟨f0,f1,f2,f3,f4,f5⟩:=hf b hb
  exact⟨f3,f1,f4,f5⟩
 ·obtain⟨o,es,ep,ho,r⟩:=hm
  exact⟨o,es,ep,k _ o (fun z=>(hf _ z).2.1 rfl) ho,r⟩
 ·by_cases hb:b=T
  ·subst hb
   rw[zac]at e
   cases e
   exact new
  ·rw[zap hb]at e
   refine(I.hok b u e).stay (fun c v hc q=>k c v ?_ q) (fun c q=>by rw[zap (neU c _ q)];exact q) fun c xs q=>by rw[zap (neU c _ q)];exact q
   rcases hc with z|z
   ·rw[z];exact nfp b u e
   ·exact nfp c _ z
theorem Inv.turns{t':Nat}{fp:List Addr}(I:Inv X pins σ H s)(k:∀b o,b∉fp->s.heap.get? b=some o->h'.get? b=some o)(hf:∀b∈fp,FpOk X pins H b):Inv X pins σ H {s with heap:=h',toks:=t'}:=by
 have nfp:∀b u,H b=some u->b∉fp:=fun b u e z=>by rw[(hf b z).1]at e;cases e
 refine I.step (g':=s.gens) (d':=s.drawn) (ch:=fp) (fun b hb=> ?_) (fun b o _ _ hc e _=>k b o hc e) (fun b o _ _ hc e _=>⟨o.slots,k b o hc e⟩) (fun b o _ e n=>n)
  (fun b o hc e=>⟨o,k b o hc e⟩) (fun b xs e=>e) (fun b o u e=>e) (fun b ps e=>⟨#[],by rw[e];simp⟩) (fun m hm=> ?_) (fun b u e=> ?_) I.bare
 ·obtain⟨f0,f1,f2,f3,f4,f5⟩:=hf b hb
  exact⟨f3,f1,f4,f5⟩
 ·obtain⟨o,es,ep,ho,r⟩:=hm
  exact⟨o,es,ep,k _ o (fun z=>(hf _ z).2.1 rfl) ho,r⟩
 ·refine(I.hok b u e).stay (fun c v hc q=>k c v ?_ q) (fun c q=>q) fun c xs q=>q
  rcases hc with z|z
  ·rw[z];exact nfp b u e
  ·exact nfp c _ z
end
noncomputable def SqE(K:W.Frag)(b:Bool)(H:Hp)(a:Addr)(xs:List V):Prop:=match b with
 |false=>SqL K H a xs
 |true=>SqT K H a xs
noncomputable def Ite(K:W.Frag)(b:Bool)(a:Addr)(xs:List V):It:=
 ⟨fun i H=>SqE K b H a xs/\i<xs.length,fun i H x H'=>∃t v,x= .ref t/\H t=none/\H'=upd H t (.tup [.int (i:Int),v])/\xs[i]? =some v,fun i H=>SqE K b H a xs/\i=xs.length⟩
theorem turn_enumL{P:Program}{w:World}{K:W.Frag}{es:List Expr}{k:Nat}{pos:Pos}(a e it:Addr)(xs:List V)(hne:e≠it):
  Turn P w K (.Tuple es k pos) (Ite K false a xs) [e,it] e (fun i h=>(∃old,IsEnum h e it (i:Int) old)/\h.IsListIter it a i) where
 mem:=by simp
 obj:=fun i h st b hb=>by
  obtain⟨⟨old,he⟩,o,e1,c,d⟩:=st
  rcases List.mem_cons.mp hb with z|hb
  ·subst z;exact⟨_,he,fun v z=>by cases z⟩
  ·have z:b=it:=by simpa using hb
   subst z
   exact⟨o,e1,fun v z=>by rw[d]at z;cases z⟩
 keep:=fun i h h' st k=>⟨st.1.imp fun old he=>k e (by simp) _ he,st.2.at fun o e=>k it (by simp) o e⟩
 item:=by
  intro X hP hw hK hc i pins s σ H E I hf st hg
  subst hP hw hK
  obtain⟨hq0,hi⟩:=hg
  have hq:SqL X.K H a xs:=hq0
  obtain⟨its,rv,p,hz⟩:=I.list hq
  have hx:xs[i]? =some xs[i]:=List.getElem?_eq_getElem hi
  obtain⟨u,hu,ru⟩:=rv.get hx
  obtain⟨⟨old,he⟩,hit⟩:=st
  refine wpAny_pyNext_enum_item he hit p.isList (x:=u) (by simpa using hu) hne fun h1 ho hit1 hT hsz hk=>⟨_,rfl,?_⟩
  refine wpAny_letOwnedTupleGo_enum ho fun h2 he2 hs2=> ?_
  have hs2':Heap.SameBut e h1 h2:=hs2
  have nTe:s.heap.objs.size≠e:=fun z=>absurd (Heap.lt_size he) (by rw[<-z];exact Nat.lt_irrefl _)
  have keep:∀b o,b∉[e,it]->s.heap.get? b=some o->h2.get? b=some o:=fun b o hb q=>(hs2'.2 b fun z=>hb (by simp[z])).trans (hk b o (fun z=>hb (by simp[z])) (fun z=>hb (by simp[z])) q)
  have hT2:h2.get? s.heap.objs.size=some {cls:= .type "tuple",data:= .seq #[.int i s.toks,u]}:=(hs2'.2 _ nTe).trans hT
  have I2:=I.turnsLaid (h':=h2) (t':=s.toks+1) (o:= .tup [.int (i:Int),xs[i]]) keep hf (Nat.le_refl _) ⟨(by show 2<=sizeLine;decide),[.int i s.toks,u],.cons ⟨_,rfl⟩ (.cons ru .nil),_,hT2,rfl,_,rfl⟩
  exact⟨.ref s.heap.objs.size,_,I2,rfl,⟨_,_,rfl,I.hok.fresh (Nat.le_refl _),rfl,hx⟩,⟨⟨_,by simpa using he2⟩,hit1.at fun o q=>(hs2'.2 it hne.symm).trans q⟩,fun b hb=>by
   rw[zap (fun z=> ?_)]
   ·exact(hf b hb).1
   ·obtain⟨_,q1,_⟩:=hit
    rcases List.mem_cons.mp hb with y|y
    ·exact nTe (z.symm.trans y)
    ·have y:b=it:=by simpa using y
     rw[<-y,z]at q1
     exact absurd (Heap.lt_size q1) (Nat.lt_irrefl _)⟩
 done:=by
  intro X hP hw hK hc i pins s σ H E I hf st hg
  subst hP hw hK
  obtain⟨hq0,hi⟩:=hg
  have hq:SqL X.K H a xs:=hq0
  obtain⟨its,rv,p,hz⟩:=I.list hq
  have hl:=rv.length
  obtain⟨⟨old,he⟩,hit⟩:=st
  exact wpAny_pyNext_enum_end (I.ok.hd hc) he hit p.isList (by simp;omega) fun h' eb=>⟨rfl,I.turns (t':=s.toks) (fp:=[e,it]) (fun b o hb q=>eb b o (fun z=>hb (by simp[z])) q) hf⟩
 self:=fun _ _ _ _ _ st h=>by
  obtain⟨⟨old,he⟩,_⟩:=st
  exact wpAny_pyIter_enum he h
theorem turn_enumT{P:Program}{w:World}{K:W.Frag}{es:List Expr}{k:Nat}{pos:Pos}(a e it:Addr)(xs:List V)(hne:e≠it)(hat:a≠it)(hae:a≠e):
  Turn P w K (.Tuple es k pos) (Ite K true a xs) [e,it] e (fun i h=>(∃old,IsEnum h e it (i:Int) old)/\h.IsTupleIter it a i) where
 mem:=by simp
 obj:=fun i h st b hb=>by
  obtain⟨⟨old,he⟩,o,e1,c,d⟩:=st
  rcases List.mem_cons.mp hb with z|hb
  ·subst z;exact⟨_,he,fun v z=>by cases z⟩
  ·have z:b=it:=by simpa using hb
   subst z
   exact⟨o,e1,fun v z=>by rw[d]at z;cases z⟩
 keep:=fun i h h' st k=>⟨st.1.imp fun old he=>k e (by simp) _ he,st.2.at fun o e=>k it (by simp) o e⟩
 item:=by
  intro X hP hw hK hc i pins s σ H E I hf st hg
  subst hP hw hK
  obtain⟨hq0,hi⟩:=hg
  have hq:SqT X.K H a xs:=hq0
  obtain⟨its,rv,p,hz⟩:=I.tuple hq
  have hx:xs[i]? =some xs[i]:=List.getElem?_eq_getElem hi
  obtain⟨u,hu,ru⟩:=rv.get hx
  obtain⟨⟨old,he⟩,hit⟩:=st
  have hl:=rv.length
  have pt:s.heap.IsTuple a its.toArray:=p
  have D:=Draws.tup (prog:=X.prog) (w:=X.w) (A:=X.A.in1) (I.ok.hd hc) it a hat its.toArray
  refine wpAny_pyNext_enum_itemD D he ⟨hit,pt⟩ (by simp;omega) hne (by simp;exact⟨hne,fun z=>hae z.symm⟩) fun y h1 tk hy ho hst1 hT hsz hk=>⟨_,rfl,?_⟩
  have ey:y=u:=by
   have hu':its.toArray[i]? =some u:=by simpa using hu
   rw[hu']at hy
   exact(Option.some.inj hy).symm
  subst ey
  refine wpAny_letOwnedTupleGo_enum ho fun h2 he2 hs2=> ?_
  have hs2':Heap.SameBut e h1 h2:=hs2
  have nTe:s.heap.objs.size≠e:=fun z=>absurd (Heap.lt_size he) (by rw[<-z];exact Nat.lt_irrefl _)
  have keep:∀b o,b∉[e,it]->s.heap.get? b=some o->h2.get? b=some o:=fun b o hb q=>(hs2'.2 b fun z=>hb (by simp[z])).trans (hk b o (fun z=>hb (by simp[z])) (fun z=>hb (by simp[z])) q)
  have hT2:h2.get? s.heap.objs.size=some {cls:= .type "tuple",data:= .seq #[.int i tk,y]}:=(hs2'.2 _ nTe).trans hT
  have I2:=I.turnsLaid (h':=h2) (t':=tk+1) (o:= .tup [.int (i:Int),xs[i]]) keep hf (Nat.le_refl _) ⟨(by show 2<=sizeLine;decide),[.int i tk,y],.cons ⟨_,rfl⟩ (.cons ru .nil),_,hT2,rfl,_,rfl⟩
  exact⟨.ref s.heap.objs.size,_,I2,rfl,⟨_,_,rfl,I.hok.fresh (Nat.le_refl _),rfl,hx⟩,⟨⟨_,by simpa using he2⟩,hst1.1.at fun o q=>(hs2'.2 it hne.symm).trans q⟩,fun b hb=>by
   rw[zap (fun z=> ?_)]
   ·exact(hf b hb).1
   ·obtain⟨_,q1,_⟩:=hit
    rcases List.mem_cons.mp hb with y|y
    ·exact nTe (z.symm.trans y)
    ·have y:b=it:=by simpa using y
     rw[<-y,z]at q1
     exact absurd (Heap.lt_size q1) (Nat.lt_irrefl _)⟩
 done:=by
  intro X hP hw hK hc i pins s σ H E I hf st hg
  subst hP hw hK
  obtain⟨hq0,hi⟩:=hg
  have hq:SqT X.K H a xs:=hq0
  obtain⟨its,rv,p,hz⟩:=I.tuple hq
  have hl:=rv.length
  obtain⟨⟨old,he⟩,hit⟩:=st
  have pt:s.heap.IsTuple a its.toArray:=p
  have ei:i=its.toArray.size:=by rw[List.size_toArray];omega
  subst ei
  have D:=Draws.tup (prog:=X.prog) (w:=X.w) (A:=X.A.in1) (I.ok.hd hc) it a hat its.toArray
  exact wpAny_pyNext_enum_endD D he ⟨hit,pt⟩ fun h' eb=>⟨rfl,I.turns (t':=s.toks) (fp:=[e,it]) (fun b o hb q=>eb b o (fun z=>hb (by simp[z])) q) hf⟩
 self:=fun _ _ _ _ _ st h=>by
  obtain⟨⟨old,he⟩,_⟩:=st
  exact wpAny_pyIter_enum he h
section
variable{X:Cx}{es:List Expr}{k:Nat}{pos0:Pos}
noncomputable def iEnum(K:W.Frag)(ta:TA):TI:=fun σ H R=>ta σ H fun vs H1=>∃(b:Bool) (a:Addr) (xs:List V),vs=[.ref a]/\SqE K b H1 a xs/\(xs.length<=sizeLine->R (Ite K b a xs) H1)
theorem pi_enum{a:Expr}{ta:TA}{p pos:Pos}(hg:Gl X "enumerate")(hm:X.mg "enumerate"=none)(ha:PA X [a] ta)(hs:starEach [a] X.env=[(false,eval a X.env)]:=by rfl):
  PI X (.Tuple es k pos0) (.Call (.Name "enumerate" p) [a] [] pos) (iEnum X.K ta):=by
 intro pins s σ H R I h
 refine Call_ (ld_blt I hg hm (show bootBuiltins "enumerate"=some (.type "enumerate")from by decide+kernel) (PyProof.Rows.callWith_type1 (thn (ha pos pins s σ H _ I h) fun us s1 ⟨vs,H1,I1,r1,q1⟩=> ?_) hs rfl))
 obtain⟨b,l,xs,e,hq,q⟩:=q1
 subst e
 cases r1 with
 |cons r rr=>
  cases rr
  cases r
  cases b with
  |false=>
   obtain⟨its,rv,pl,hz⟩:=I1.list (show SqL X.K H1 l xs from hq)
   refine call_enumerate_list pl.isList fun h' he hit hsz hk=> ?_
   refine wpAny_pyIter_enum he ?_
   have I2:Inv X pins σ H1 {s1 with heap:=h'}:=I1.kept (t':=s1.toks) hk
   have hne:s1.heap.objs.size+1≠s1.heap.objs.size:=Nat.succ_ne_self _
   refine⟨s1.heap.objs.size+1,[s1.heap.objs.size+1,s1.heap.objs.size],_,_,H1,rfl,I2,turn_enumL l _ _ xs hne,⟨⟨_,he⟩,hit⟩,fun c hc=> ?_,q hz⟩
   rcases List.mem_cons.mp hc with z|z
   ·subst z;exact I1.fpOk (Nat.le_succ _) (I1.hok.fresh (Nat.le_succ _))
   ·have z:c=s1.heap.objs.size:=by simpa using z
    subst z;exact I1.fpOk (Nat.le_refl _) (I1.hok.fresh (Nat.le_refl _))
  |true=>
   obtain⟨its,rv,pl,hz⟩:=I1.tuple (show SqT X.K H1 l xs from hq)
   have pt:s1.heap.IsTuple l its.toArray:=pl
   have hlt:l<s1.heap.objs.size:=by obtain⟨_,e,_⟩:=id pt;exact Heap.lt_size e
   refine call_enum_tup pt fun h' he hit hsz hk=> ?_
   refine wpAny_pyIter_enum he ?_
   have I2:Inv X pins σ H1 {s1 with heap:=h'}:=I1.kept (t':=s1.toks) hk
   have hne:s1.heap.objs.size+1≠s1.heap.objs.size:=Nat.succ_ne_self _
   refine⟨s1.heap.objs.size+1,[s1.heap.objs.size+1,s1.heap.objs.size],_,_,H1,rfl,I2,turn_enumT l _ _ xs hne (Nat.ne_of_lt hlt) (Nat.ne_of_lt (Nat.lt_succ_of_lt hlt)),⟨⟨_,he⟩,hit⟩,fun c hc=> ?_,q hz⟩
   rcases List.mem_cons.mp hc with z|z
   ·subst z;exact I1.fpOk (Nat.le_succ _) (I1.hok.fresh (Nat.le_succ _))
   ·have z:c=s1.heap.objs.size:=by simpa using z
    subst z;exact I1.fpOk (Nat.le_refl _) (I1.hok.fresh (Nat.le_refl _))
end
section
variable{ini:St}{H:Hp}{g:TG}{tc:TT}{te:TE}{Fin:List V->Hp->Prop}{K:W.Frag}{b:Bool}{a:Addr}{xs:List V}
theorem comp_enum(Pv:Nat->List V->St->Hp->Prop)(h0:Pv 0 [] ini H)(hl:∀(i:Nat) acc σ H,i<=xs.length->Pv i acc σ H->SqE K b H a xs)(hz:∀(i:Nat) acc σ H,i<=xs.length->Pv i acc σ H->acc.length<=i)(hx:xs.length<=sizeLine)(hs:∀(i:Nat) v t acc σ H,xs[i]? =some v->Pv i acc σ H->H t=none->g (.ref t) σ (upd H t (.tup [.int (i:Int),v])) fun σ2 H2=>tc σ2 H2 fun b H3=>if b=true then te σ2 H3 fun v H4=>Pv (i+1) (acc++[v]) σ2 H4 else Pv (i+1) acc σ2 H3)(hd:∀acc σ H,Pv xs.length acc σ H->Fin acc H):CompW (Ite K b a xs) ini H g tc te Fin:=by
 refine⟨fun i m acc σ H=>m=xs.length-i/\i<=xs.length/\Pv i acc σ H,⟨xs.length,by simp,Nat.zero_le _,h0⟩,?_⟩
 rintro i m acc σ H ⟨rfl,hi,p⟩
 have q:=hl i acc σ H hi p
 have z:=hz i acc σ H hi p
 by_cases hlt:i<xs.length
 ·refine .inr ⟨⟨q,hlt⟩,by omega,fun acc σ H=>Pv (i+1) acc σ H,fun acc' σ' H' r=>⟨_,by omega,rfl,hlt,r⟩,fun x H' y=> ?_⟩
  obtain⟨t,v,rfl,ht,rfl,hv⟩:=y
  exact hs i v t acc σ H hv p ht
 ·have e:i=xs.length:=by omega
  subst e
  exact .inl ⟨⟨q,rfl⟩,by omega,hd acc σ H p⟩
end
end L2
namespace L2
open PySem PySem.Spec PyProof.Rows
section
variable{X:Cx}{e m a:Expr}{te:TE}{tm:TO}{ta:TA}{p p' pos pos' p2:Pos}
noncomputable def distinct(ns:List Int):Nat:=(firstMet (fun i=>ns.getD i 0) ns.length).length
noncomputable def tLenSet(K:W.Frag)(ta:TA):TE:=fun σ H Q=>ta σ H fun vs H1=>∃(l:Addr) (ns:List Int),vs=[.ref l]/\SqL K H1 l (ns.map V.int)/\ns.length<1000/\Q (.int (distinct ns:Int)) H1
theorem pe_lenSet(hc:X.calm=true)(hgL:Gl X "len")(hmL:X.mg "len"=none)(hg:Gl X "set")(hm:X.mg "set"=none)(ha:PA X [a] ta)(hs:starEach [a] X.env=[(false,eval a X.env)]:=by rfl)(hs2:starEach [Expr.Call (.Name "set" p') [a] [] pos'] X.env=[(false,eval (Expr.Call (.Name "set" p') [a] [] pos') X.env)]:=by rfl):
  PE X (.Call (.Name "len" p) [.Call (.Name "set" p') [a] [] pos'] [] pos) (tLenSet X.K ta):=by
 intro pins s σ H Q I h
 refine wpAny_Call_Name_kw (ld_blt I hgL hmL PySem.boot_len ?_ (by decide) (by decide))
 refine PyProof.Rows.callWith_builtin1 ?_ hs2 rfl
 rw[hs2]
 refine Calls.spliced_cons ?_
 refine Call_ (ld_blt I hg hm (show bootBuiltins "set"=some (.type "set")from by decide+kernel) (PyProof.Rows.callWith_type1 (thn (ha pos' pins s σ H _ I h) fun us s1 ⟨vs,H1,I1,r1,q1⟩=> ?_) hs rfl))
 obtain⟨l,ns,e,hq,hz,q⟩:=q1
 subst e
 cases r1 with
 |cons r rr=>
  cases rr
  cases r
  obtain⟨its,rv,pl,_⟩:=I1.list hq
  have hi:IntsAre its ns:=zda rv
  have hln:its.length=ns.length:=IntsAre.length hi
  refine PySem.call_set_list (ns:=ns) (I.ok.hd hc) pl.isList (by simpa using hi) (by unfold scanBound;simp;omega) fun h' tk hS hk=> ?_
  refine Calls.spliced_nil ?_
  obtain⟨o,ho,hex,es,ep,t,hd,hel,hmem,hn,hf⟩:=hS.objOf
  have hsz:its.toArray.size=ns.length:=by rw[List.size_toArray];exact hln
  rw[hsz]at hn
  have hle:=firstMet_length_le (fun i=>ns.getD i 0) ns.length
  refine call_len_set ho hex hd hf (by omega) ?_
  have e2:(es.size:Int)=(distinct ns:Int):=by rw[hn];rfl
  rw[e2]
  have I2:Inv X pins σ H1 {s1 with heap:=h',toks:=tk}:=I1.kept fun b o e=>hk b o (Heap.lt_size e) e
  exact⟨.int _,H1,I2.tok _,⟨_,rfl⟩,q⟩
theorem step_in{l:List Int}{k:Int}(h:k∈l):step_dedup l k=l:=by unfold step_dedup;simp[h]
theorem step_out{l:List Int}{k:Int}(h:¬k∈l):step_dedup l k=l++[k]:=by unfold step_dedup;simp[h]
theorem firstMet_mem(ns:List Int):∀(i:Nat),i<=ns.length->∀k,k∈firstMet (fun i=>ns.getD i 0) i↔k∈ns.take i
 |0,_,k=>by rw[firstMet_zero,List.take_zero]
 |i+1,h,k=>by
  have ih:=firstMet_mem ns i (by omega) k
  have e1:ns.getD i 0=ns[i]:=by simp[show i<ns.length by omega]
  rw[firstMet_succ,List.take_add_one,List.getElem?_eq_getElem (by omega),List.mem_append,<-ih]
  try dsimp only
  rw[e1]
  by_cases hm:ns[i]∈firstMet (fun i=>ns.getD i 0) i
  ·rw[step_in hm]
   constructor
   ·exact .inl
   ·rintro(z|z)
    ·exact z
    ·have:k=ns[i]:=by simpa using z
     rw[this];exact hm
  ·rw[step_out hm,List.mem_append]
   simp
theorem distinct_iff(ns:List Int):distinct ns=ns.length↔ns.Nodup:=by
 have key:∀i:Nat,i<=ns.length->((firstMet (fun i=>ns.getD i 0) i).length=i↔(ns.take i).Nodup):=by
  intro i
  induction i with
  |zero=>intro _;simp[firstMet_zero]
  |succ i ih=>
   intro h
   have ih:=ih (by omega)
   have hle:=firstMet_length_le (fun i=>ns.getD i 0) i
   have e1:ns.getD i 0=ns[i]:=by simp[show i<ns.length by omega]
   have hm:=firstMet_mem ns i (by omega) ns[i]
   rw[firstMet_succ,List.take_add_one,List.getElem?_eq_getElem (by omega)]
   try dsimp only
   rw[e1]
   by_cases c:ns[i]∈firstMet (fun i=>ns.getD i 0) i
   ·rw[step_in c]
    constructor
    ·intro z;omega
    ·intro z
     exfalso
     rw[List.nodup_append]at z
     exact z.2.2 ns[i] (hm.mp c) ns[i] (by simp) rfl
   ·rw[step_out c,List.length_append]
    constructor
    ·intro z
     have z':(firstMet (fun i=>ns.getD i 0) i).length+1=i+1:=z
     refine List.nodup_append.mpr ⟨ih.mp (by omega),by simp,fun a ha b hb e=> ?_⟩
     have eb:b=ns[i]:=by simpa using hb
     exact c (hm.mpr (by rw[<-eb,<-e];exact ha))
    ·intro z
     rw[List.nodup_append]at z
     show(firstMet (fun i=>ns.getD i 0) i).length+1=i+1
     rw[ih.mpr z.1]
 have:=key ns.length (Nat.le_refl _)
 rw[List.take_length]at this
 exact this
theorem pi_listLK(K:W.Frag){tg l:Expr}{tl:TE}(hl:PE X l tl)(h:X.K=K:=by rfl):PI X tg l (iListL K tl):=by subst h;exact zdc hl
theorem sl_listK(K:W.Frag)(h:X.K=K:=by rfl):SlR X (rSlL K):=by subst h;exact sl_list
theorem sl_tupEK(K:W.Frag)(h:X.K=K:=by rfl):SlR X (rSlE K):=by subst h;exact sl_tupE
theorem op_catEK(K:W.Frag)(h:X.K=K:=by rfl):OpR X (binaryOp .Add) (rCatE K):=by subst h;exact op_catE
noncomputable def Its(K:W.Frag)(b:Bool)(a:Addr)(xs:List V):It:=⟨fun i H=>SqE K b H a xs/\i<xs.length,fun i H x H'=>H'=H/\xs[i]? =some x,fun i H=>SqE K b H a xs/\i=xs.length⟩
noncomputable def iSeqL(K:W.Frag)(tl:TE):TI:=fun σ H R=>tl σ H fun x H1=>∃(b:Bool) (a:Addr) (xs:List V),x= .ref a/\SqE K b H1 a xs/\(xs.length<=sizeLine->R (Its K b a xs) H1)
theorem Turn.its{P:Program}{w:World}{K:W.Frag}{tg:Expr}{J:It}{fp:List Addr}{it:Addr}{tn:Nat->Heap->Prop}{b:Bool}{a:Addr}{xs:List V}(T:Turn P w K tg J fp it tn)(hg:∀i H,(Its K b a xs).go i H->J.go i H/\∀x H',J.yld i H x H'->(Its K b a xs).yld i H x H')(hs:∀i H,(Its K b a xs).stop i H->J.stop i H):Turn P w K tg (Its K b a xs) fp it tn where
 mem:=T.mem
 obj:=T.obj
 keep:=T.keep
 item:=fun X h1 h2 h3 h4 i pins s σ H E I hf st g=>by
  obtain⟨g1,g2⟩:=hg i H g
  refine wpAny_mono (T.item X h1 h2 h3 h4 i pins s σ H E I hf st g1) (fun r s1 ⟨u,e,q⟩=>⟨u,e,wpAny_mono q (fun _ s2 ⟨x,H',a1,a2,a3,a4⟩=>⟨x,H',a1,a2,g2 x H' a3,a4⟩) fun _ _ e=>e⟩) fun _ _ e=>e
 done:=fun X h1 h2 h3 h4 i pins s σ H E I hf st g=>T.done X h1 h2 h3 h4 i pins s σ H E I hf st (hs i H g)
 self:=T.self
theorem pi_seqL{tg l:Expr}{tl:TE}(hl:PE X l tl):PI X tg l (iSeqL X.K tl):=by
 intro pins s σ H R I h
 refine thn (hl pins s σ H _ I h) fun v s1 ⟨x,H1,I1,r1,q1⟩=> ?_
 obtain⟨b,a,xs,e,hq,q⟩:=q1
 subst e
 cases r1
 cases b with
 |false=>
  have hq':SqL X.K H1 a xs:=hq
  obtain⟨its,rv,p,hz⟩:=I1.list hq'
  refine wpAny_pyIter_list p.isList ?_
  refine⟨s1.heap.objs.size,[s1.heap.objs.size],_,_,H1,rfl,I1.kept (t':=s1.toks) fun b o e=>Heap.get?_push_of_some _ e,Turn.its (b:=false) (a:=a) (xs:=xs) (turn_list a _) (fun i H g=>⟨⟨xs,xs[i]'g.2,g.1,List.getElem?_eq_getElem g.2⟩,fun x H' y=>⟨y.1,y.2 xs g.1⟩⟩) (fun i H g=>⟨xs,g.1,Nat.le_of_eq g.2.symm⟩),⟨_,Heap.get?_push_size _ rfl,rfl,rfl⟩,fun b hb=> ?_,q hz⟩
  have e:b=s1.heap.objs.size:=by simpa using hb
  subst e
  exact I1.fpOk (Nat.le_refl _) (I1.hok.fresh (Nat.le_refl _))
 |true=>
  have hq':SqT X.K H1 a xs:=hq
  obtain⟨its,rv,p,hz⟩:=I1.tuple hq'
  refine wpAny_pyIter_tuple (show s1.heap.IsTuple a its.toArray from p) ?_
  refine⟨s1.heap.objs.size,[s1.heap.objs.size],_,_,H1,rfl,I1.kept (t':=s1.toks) fun b o e=>Heap.get?_push_of_some _ e,Turn.its (b:=true) (a:=a) (xs:=xs) (turn_tuple a _) (fun i H g=>⟨⟨xs,xs[i]'g.2,g.1,List.getElem?_eq_getElem g.2⟩,fun x H' y=>⟨y.1,y.2 xs g.1⟩⟩) (fun i H g=>⟨xs,g.1,Nat.le_of_eq g.2.symm⟩),⟨_,Heap.get?_push_size _ rfl,rfl,rfl⟩,fun b hb=> ?_,q hz⟩
  have e:b=s1.heap.objs.size:=by simpa using hb
  subst e
  exact I1.fpOk (Nat.le_refl _) (I1.hok.fresh (Nat.le_refl _))
end
section
variable{ini:St}{H:Hp}{g:TG}{tc:TT}{te:TE}{Fin:List V->Hp->Prop}{K:W.Frag}{b:Bool}{a:Addr}{xs:List V}
theorem comp_seq(Pv:Nat->List V->St->Hp->Prop)(h0:Pv 0 [] ini H)(hl:∀(i:Nat) acc σ H,i<=xs.length->Pv i acc σ H->SqE K b H a xs)(hz:∀(i:Nat) acc σ H,i<=xs.length->Pv i acc σ H->acc.length<=i)(hx:xs.length<=sizeLine)(hs:∀(i:Nat) x acc σ H,xs[i]? =some x->Pv i acc σ H->g x σ H fun σ2 H2=>tc σ2 H2 fun b H3=>if b=true then te σ2 H3 fun v H4=>Pv (i+1) (acc++[v]) σ2 H4 else Pv (i+1) acc σ2 H3)(hd:∀acc σ H,Pv xs.length acc σ H->Fin acc H):CompW (Its K b a xs) ini H g tc te Fin:=by
 refine⟨fun i m acc σ H=>m=xs.length-i/\i<=xs.length/\Pv i acc σ H,⟨xs.length,by simp,Nat.zero_le _,h0⟩,?_⟩
 rintro i m acc σ H ⟨rfl,hi,p⟩
 have q:=hl i acc σ H hi p
 have z:=hz i acc σ H hi p
 by_cases hlt:i<xs.length
 ·refine .inr ⟨⟨q,hlt⟩,by omega,fun acc σ H=>Pv (i+1) acc σ H,fun acc' σ' H' r=>⟨_,by omega,rfl,hlt,r⟩,fun x H' y=> ?_⟩
  obtain⟨rfl,hv⟩:=y
  exact hs i x acc σ _ hv p
 ·have e:i=xs.length:=by omega
  subst e
  exact .inl ⟨⟨q,rfl⟩,by omega,hd acc σ H p⟩
end
theorem SqE.same{K:W.Frag}{b:Bool}{H H':Hp}{a:Addr}{xs:List V}(h:SqE K b H a xs)(e:Same H H'):SqE K b H' a xs:=by
 cases b with
 |false=>exact e.seq (show SqL K H a xs from h)
 |true=>exact e.tup (show SqT K H a xs from h)
theorem seq_mid{s u:TS}{D:Ends}{σ:St}{H:Hp}(I:St->Hp->Prop)(h1:∀N:St->Hp->Prop,(∀σ' H',I σ' H'->N σ' H')->s {D with nx:=N} σ H)(h2:∀σ' H',I σ' H'->u D σ' H'):tSeq s u D σ H:=h1 (u D) h2
section
variable{K:W.Frag}{σ:St}{H0:Hp}{tp:Addr}
noncomputable def ListsA(H:Hp)(tp:Addr)(its:List (Addr×List Int)):Prop:=∀p∈its,H p.1=some (.lst (p.2.map V.int))/\p.1≠tp/\p.2.length<=40
theorem ListsA.same{H H':Hp}{its:List (Addr×List Int)}(h:ListsA H tp its)(e:Same H H'):ListsA H' tp its:=fun p hp=>⟨e _ _ (h p hp).1,(h p hp).2⟩
theorem ListsA.step{H H':Hp}{its:List (Addr×List Int)}(h:ListsA H tp its)(e:∀b o,b≠tp->H b=some o->H' b=some o):ListsA H' tp its:=fun p hp=>⟨e _ _ (h p hp).2.1 (h p hp).1,(h p hp).2⟩
theorem ListsA.app{H:Hp}{its its':List (Addr×List Int)}(h:ListsA H tp its)(h':ListsA H tp its'):ListsA H tp (its++its'):=fun p hp=>by
 rcases List.mem_append.mp hp with q|q
 ·exact h p q
 ·exact h' p q
end
end L2
namespace L2
open PySem PySem.Spec PyProof.Rows
noncomputable def compOkC(sc scope:Scope):Bool:=scope.names.all fun p=>(p.2 !=NameKind.cell||scope.names.lookup p.1==some NameKind.cell)&&(p.2 !=NameKind.local||scope.names.lookup p.1==some NameKind.local)&&
 (p.2 !=NameKind.free||(scope.names.lookup p.1==some NameKind.free&&(sc.names.lookup p.1==some NameKind.cell||sc.names.lookup p.1==some NameKind.free)))
section
variable{sc scope:Scope}
theorem compOkC.cell(h:compOkC sc scope=true){x:Str}(hy:(x,NameKind.cell)∈scope.names):scope.names.lookup x=some .cell:=by
 have q:=List.all_eq_true.mp h _ hy
 simpa using q
theorem compOkC.names(h:compOkC sc scope=true):∀y∈scope.names,y.2= .local->scope.names.lookup y.1=some .local:=fun y hy e=>by
 have q:=List.all_eq_true.mp h y hy
 simpa[e]using q
theorem compOkC.free(h:compOkC sc scope=true){x:Str}(hy:(x,NameKind.free)∈scope.names):scope.names.lookup x=some .free/\(sc.names.lookup x=some .cell\/sc.names.lookup x=some .free):=by
 have q:=List.all_eq_true.mp h _ hy
 simpa using q
end
section
variable{X:Cx}{tg iter elt:Expr}{ifs:List Expr}{scope:Scope}{pos:Pos}{own caps:List Str}{ix:List Nat}{g:TG}{tc:TT}{te:TE}
end
section
variable{X:Cx}{tg iter elt:Expr}{ifs:List Expr}{scope:Scope}{pos:Pos}{own caps:List Str}{ix:List Nat}{wi:TI}{g:TG}{tc:TT}{te:TE}
end
end L2
namespace L2
open PySem PySem.Spec PyProof.Rows
section
variable{prog:Program}{w:World}{A:Around}{E:Value->Shared->Prop}{s:Shared}
noncomputable def bare(led:Bool):Obj:={cls:= .type "set",dict:=none,data:= .set #[] 0 (.fresh 0 0 led)}
theorem set_tuple{t:Addr}{its:Array Value}{ns:List Int}{Q:Value->Shared->Prop}(hA:A.handled=none)(ht:s.heap.IsTuple t its)(hI:PyProof.Rows.IntsAre its.toList ns)(hz:its.size+1<scanBound)(fin:∀(g:Heap) (tk:Nat),g.SetOf (intKind prog w) s.heap.objs.size (fun k'=>(firstMet (fun i=>ns.getD i 0) its.size).any (· ==k')) (firstMet (fun i=>ns.getD i 0) its.size).length->(∀b o,b<s.heap.objs.size->s.heap.get? b=some o->g.get? b=some o)->Q (.ref s.heap.objs.size) {s with heap:=g,toks:=tk}):
  wpAny (model prog w) A (call (.type "set") [.ref t]) Q E s:=by
 obtain⟨c,tl,q1⟩:=F.called_set.mro
 have q2:=F.called_set.made
 have q3:=F.called_set.sub
 refine wpAny_call (codeAny_of_tree ?_)
 show wpAny _ _ (callAny (.type "set") _) _ _ _
 refine wpAny_pure ⟨Code.quiet_builtin _ (by decide+kernel),codeAny_builtin PySem.F.entry_type_call ?_⟩
 rw[Around.under_plain (weight_type_call_type "set" [.ref t] []) rfl]
 have q4:=F.called_set.notType
 have q5:=F.called_set.canCreate
 have q6:=F.typeCall_set_1 (.ref t)
 repeat(any_goals(first |assumption|wp_step))
 refine codeAny_mono (code_set_new_1 (.ref t) (E:=E) (Q₁:=fun ob u=>∃led:Bool,ob= .ref s.heap.objs.size/\u={s with heap:=s.heap.push {cls:= .type "set",dict:=none,data:= .set #[] 0 (.fresh 0 0 led)}}) fun led=>⟨led,rfl,rfl⟩) fun r u hr=> ?_
 cases r with
 |error e=>exact hr
 |ok fl=>
  cases fl with
  |ret obj=>
   obtain⟨led,rfl,rfl⟩:=hr
   have g0:(s.heap.push {cls:= .type "set",dict:=none,data:= .set #[] 0 (.fresh 0 0 led)}).get? s.heap.objs.size=some {cls:= .type "set",dict:=none,data:= .set #[] 0 (.fresh 0 0 led)}:=Heap.get?_push_size _ rfl
   have g1:Shared.TypeIs {s with heap:=s.heap.push {cls:= .type "set",dict:=none,data:= .set #[] 0 (.fresh 0 0 led)}} (.ref s.heap.objs.size) "set":=⟨_,g0,rfl⟩
   have q7:=F.called_set.init.lookup
   have q8:=F.called_set.init.bind (.ref s.heap.objs.size)
   repeat(any_goals(first |assumption|wp_step))
   refine codeAny_mono (codeAny_call_builtin (R:=wants (fun r s₂=>r= .none/\∃g tk,s₂={s with heap:=g,toks:=tk}/\g.SetOf (intKind prog w) s.heap.objs.size (fun k'=>(firstMet (fun i=>ns.getD i 0) its.size).any (· ==k')) (firstMet (fun i=>ns.getD i 0) its.size).length/\(∀b o,b<s.heap.objs.size->s.heap.get? b=some o->g.get? b=some o)) E) F.called_set.init.plain F.entry_set_init (check_set_init_1 g1 ?_)) fun r₂ s₂ hr₂=> ?_
   ·obtain⟨⟨oc,od,oda,os⟩,ho,hc,nl,hd⟩:=ht
    simp only at hc hd
    subst hc hd
    have ho':(s.heap.push {cls:= .type "set",dict:=none,data:= .set #[] 0 (.fresh 0 0 led)}).get? t=some {cls:= .type "tuple",dict:=od,data:= .seq its nl,slots:=os}:=Heap.get?_push_of_some _ ho
    have b1:=PySem.F.sub_tuple_set
    have b2:=PySem.F.sub_tuple_frozenset
    have b3:(Value.type "tuple"==Value.type "dict")=false:=by decide
    have ht1:(s.heap.push {cls:= .type "set",dict:=none,data:= .set #[] 0 (.fresh 0 0 led)}).IsTuple t its:=⟨_,ho',rfl,nl,rfl⟩
    unfold Builtin.«set.__init__» noKeywords Builtin.Frozenset.updateFrom
    generalize hPI:pyIter=PI
    wp_walk
    subst hPI
    refine wpAny_pyIter_tuple ht1 (wpAny_bind (wpAny_runValue ?_))
    have lt:t<s.heap.objs.size:=Heap.lt_size ho
    have hA3:A.in1.in1.in1.handled=none:=by simp[hA]
    have nI:t≠(s.heap.push {cls:= .type "set",dict:=none,data:= .set #[] 0 (.fresh 0 0 led)}).objs.size:=by rw[Heap.size_push];exact Nat.ne_of_lt (Nat.lt_succ_of_lt lt)
    have nf:s.heap.objs.size∉[(s.heap.push {cls:= .type "set",dict:=none,data:= .set #[] 0 (.fresh 0 0 led)}).objs.size,t]:=by
     rw[Heap.size_push];simp only[List.mem_cons,List.mem_singleton,List.not_mem_nil,or_false,not_or];exact⟨Nat.ne_of_lt (Nat.lt_succ_self _),Nat.ne_of_gt lt⟩
    refine codeAny_set_update_loopS ((Walks.tuple hA3 _ t nI its).toS) s.heap.objs.size nf (fun i=>ns.getD i 0) (fun i v hv=>IntsAre.int_at hI i v (by rw[Array.getElem?_toList];exact hv)) hz (its.size-0) 0 _ (by omega) (Nat.zero_le _)
     ⟨⟨_,Heap.get?_push_size _ rfl,rfl,rfl⟩,ht1.at fun o e=>Heap.get?_push_of_some _ e⟩ ?hS0 ?hR
    case hS0=>exact SetOf_congr ((setObjOf_fresh (knd:=intKind prog w) led).setOf (Heap.get?_push_of_some _ g0) (by unfold scanBound;omega)) (fun _=>rfl) rfl
    case hR=>
     intro s' hm hS'
     obtain⟨g,g',d',tk',os'⟩:=s'
     obtain⟨rfl,rfl,rfl⟩:g'=s.gens/\d'=s.drawn/\os'=s.os:=⟨hm.gens,hm.drawn,hm.os⟩
     show wpAny _ _ _ _ _ _
     refine wpAny_pure ?_
     show wpAny _ _ (ret Value.none) _ _ _
     refine wpAny_pure ⟨rfl,g,tk',rfl,hS',fun b o hb e=>hm.heap b o ?_ (Heap.get?_push_of_some _ (Heap.get?_push_of_some _ e))⟩
     have n1:b≠s.heap.objs.size:=Nat.ne_of_lt hb
     have n2:b≠(s.heap.push {cls:= .type "set",dict:=none,data:= .set #[] 0 (.fresh 0 0 led)}).objs.size:=by rw[Heap.size_push];exact Nat.ne_of_lt (Nat.lt_succ_of_lt hb)
     simp only[List.mem_cons,List.mem_singleton,List.not_mem_nil,or_false,not_or];exact⟨n1,n2⟩
   ·cases r₂ with
    |error e=>exact hr₂
    |ok fl₂=>
     cases fl₂ with
     |ret r=>
      obtain⟨rfl,g,tk,rfl,hS',hk'⟩:=hr₂
      repeat(any_goals(first |assumption|wp_step))
      exact fin _ _ hS' hk'
     |_=>exact hr₂.elim
  |_=>exact hr.elim
end
section
variable{X:Cx}{a:Expr}{ta:TA}{p p' pos pos':Pos}
noncomputable def tLenSetT(K:W.Frag)(ta:TA):TE:=fun σ H Q=>ta σ H fun vs H1=>∃(l:Addr) (ns:List Int),vs=[.ref l]/\SqT K H1 l (ns.map V.int)/\ns.length<1000/\Q (.int (distinct ns:Int)) H1
theorem pe_lenSetT(hc:X.calm=true)(hgL:Gl X "len")(hmL:X.mg "len"=none)(hg:Gl X "set")(hm:X.mg "set"=none)(ha:PA X [a] ta)(hs:starEach [a] X.env=[(false,eval a X.env)]:=by rfl)(hs2:starEach [Expr.Call (.Name "set" p') [a] [] pos'] X.env=[(false,eval (Expr.Call (.Name "set" p') [a] [] pos') X.env)]:=by rfl):
  PE X (.Call (.Name "len" p) [.Call (.Name "set" p') [a] [] pos'] [] pos) (tLenSetT X.K ta):=by
 intro pins s σ H Q I h
 refine wpAny_Call_Name_kw (ld_blt I hgL hmL PySem.boot_len ?_ (by decide) (by decide))
 refine PyProof.Rows.callWith_builtin1 ?_ hs2 rfl
 rw[hs2]
 refine Calls.spliced_cons ?_
 refine Call_ (ld_blt I hg hm (show bootBuiltins "set"=some (.type "set")from by decide+kernel) (PyProof.Rows.callWith_type1 (thn (ha pos' pins s σ H _ I h) fun us s1 ⟨vs,H1,I1,r1,q1⟩=> ?_) hs rfl))
 obtain⟨l,ns,e,hq,hz,q⟩:=q1
 subst e
 cases r1 with
 |cons r rr=>
  cases rr
  cases r
  obtain⟨its,rv,pl,_⟩:=I1.tuple hq
  have hi:IntsAre its ns:=zda rv
  have hln:its.length=ns.length:=IntsAre.length hi
  refine set_tuple (ns:=ns) (I.ok.hd hc) (show s1.heap.IsTuple l its.toArray from pl) (by simpa using hi) (by unfold scanBound;simp;omega) fun h' tk hS hk=> ?_
  refine Calls.spliced_nil ?_
  obtain⟨o,ho,hex,es,ep,t,hd,hel,hmem,hn,hf⟩:=hS.objOf
  have hsz:its.toArray.size=ns.length:=by rw[List.size_toArray];exact hln
  rw[hsz]at hn
  have hle:=firstMet_length_le (fun i=>ns.getD i 0) ns.length
  refine call_len_set ho hex hd hf (by omega) ?_
  have e2:(es.size:Int)=(distinct ns:Int):=by rw[hn];rfl
  rw[e2]
  have I2:Inv X pins σ H1 {s1 with heap:=h',toks:=tk}:=I1.kept fun b o e=>hk b o (Heap.lt_size e) e
  exact⟨.int _,H1,I2.tok _,⟨_,rfl⟩,q⟩
end
end L2
namespace Srt
open PySem PySem.W PyProof.Rows PySem.Calls
section
variable{prog:Program}{w:World}{A:Around}{E:Value->Shared->Prop}{s:Shared}{O:KeyOrd}{key:Nat->O.α}{κ:SortKind}{vs:List Value}
theorem collect_tup{t:Addr}{Q:List Value->Shared->Prop}(ht:s.heap.IsTuple t vs.toArray)(h:Q vs {s with heap:=(s.heap.push (seqObj "list" #[] 0)).update s.heap.objs.size (Obj.mapSeq (· ++vs.toArray))})(hz:vs.length<=sizeLine):
  wpAny (model prog w) A (collect (.ref t)) Q E s:=by
 obtain⟨o,ho,hc,n,hd⟩:=id ht
 unfold collect
 refine wpAny_bind (wpAny_runValue (codeAny_builtin entry_proto_collect' ?_))
 show wpAny _ _ (do again (.builtin "list.__iadd__" ⟨[<-newList [],.ref t],[]⟩)) _ _ s
 refine wpAny_bind (wpAny_newList (wpAny_pure ⟨Code.quiet_builtin _ (by decide+kernel),codeAny_builtin entry_list_iadd' ?_⟩))
 show wpAny _ _ (Builtin.List.listExtendWith (.ref s.heap.objs.size) (.ref t) (.ref s.heap.objs.size)) _ _ {s with heap:=s.heap.push (seqObj "list" #[] 0)}
 unfold Builtin.List.listExtendWith
 have h1:(s.heap.push (seqObj "list" #[] 0)).get? t=some o:=Heap.get?_push_of_some _ ho
 have h2:(Value.type "tuple"==Value.type "tuple")=true:=by rfl
 refine wpAny_bind (wpAny_typeOf (T:="tuple") ⟨o,h1,hc⟩ ?_)
 rw[if_pos (by rw[h2];simp)]
 refine wpAny_bind (listItems_at h1 hd (wpAny_bind (listItems_at (xs:=#[]) (n:=0) (Heap.get?_push_size _ rfl) rfl ?_)))
 rw[if_neg (by simp)]
 refine wpAny_bind (listUpdate_at (xs:=#[]) (n:=0) (Heap.get?_push_size _ rfl) rfl (wpAny_pure ?_) (Nat.zero_le _) (by show(#[]++vs.toArray).size<=sizeLine+1;simp only[Array.size_append,List.size_toArray,List.length_nil];omega))
 show wpAny (model prog w) A (load s.heap.objs.size>>=_) Q E {s with heap:=(s.heap.push (seqObj "list" #[] 0)).update s.heap.objs.size (Obj.mapSeq (· ++vs.toArray))}
 refine wpAny_bind (wpAny_load (get?_update_seq (Heap.get?_push_size _ rfl) _) ?_)
 show wpAny _ _ (pure ((#[]:Array Value)++vs.toArray).toList) Q E _
 have e:((#[]:Array Value)++vs.toArray).toList=vs:=by simp
 rw[e]
 exact wpAny_pure h
theorem sorted_tup{l:Addr}{Q:Value->Shared->Prop}(hl:s.heap.IsTuple l vs.toArray)(h64:vs.length<64)(hkind:2<=vs.length->∀h',(∀b o,s.heap.get? b=some o->h'.get? b=some o)->∀(E:Value->Shared->Prop) (Q:SortKind->Shared->Prop),Q κ {s with heap:=h'}->wpAny (model prog w) A.in1.in1 (keyKind' vs.toArray) Q E {s with heap:=h'})(hask:2<=vs.length->∀h',(∀b o,s.heap.get? b=some o->h'.get? b=some o)->AskOk O key vs.length (kas_ask prog w A.in1.in1 κ vs) {s with heap:=h'})(h:∀D h' out c,Outs key vs out->s.heap.objs.size<=D->(∀b o,s.heap.get? b=some o->h'.get? b=some o)->h'.get? D=some (seqObj "list" (List.toArray out) c)->Q (.ref D) {s with heap:=h'}):
  wpAny (model prog w) A (call (.builtin "sorted") [.ref l]) Q E s:=by
 refine Calls.call_function_entry kind_sorted plain_sorted entry_sorted (args_sorted1 _) ?_
 unfold Builtin.«sorted»
 refine wpAny_bind (m:=checkCount "sorted" 1 1 _) (wpAny_pure (wpAny_bind (collect_tup hl (wpAny_bind (wpAny_newList ?_ (by rw[sizeLine_eq];omega))) (by rw[sizeLine_eq];omega))))
 have hsz:((s.heap.push (seqObj "list" #[] 0)).update s.heap.objs.size (Obj.mapSeq (· ++vs.toArray))).objs.size=s.heap.objs.size+1:=by
  rw[Heap.size_update,size_push']
 have hoL:(((s.heap.push (seqObj "list" #[] 0)).update s.heap.objs.size (Obj.mapSeq (· ++vs.toArray))).push (seqObj "list" vs.toArray 0)).get? (s.heap.objs.size+1)=some (seqObj "list" vs.toArray 0):=by
  rw[<-hsz];exact Heap.get?_push_size _ rfl
 have keep:∀b o,s.heap.get? b=some o->(((s.heap.push (seqObj "list" #[] 0)).update s.heap.objs.size (Obj.mapSeq (· ++vs.toArray))).push (seqObj "list" vs.toArray 0)).get? b=some o:=fun b o q=>by
  have hlt:b<s.heap.objs.size:=Heap.lt_size q
  rw[Heap.get?_push_ne _ _ _ (by rw[hsz];exact Nat.ne_of_lt (Nat.lt_succ_of_lt hlt)),Heap.get?_update_ne _ _ _ _ (Nat.ne_of_lt hlt),Heap.get?_push_ne _ _ _ (Nat.ne_of_lt hlt)]
  exact q
 have ne:∀b o,s.heap.get? b=some o->b≠s.heap.objs.size+1:=fun b o q=>Nat.ne_of_lt (Nat.lt_succ_of_lt (Heap.lt_size q))
 show wpAny _ _ _ _ _ {s with heap:=((s.heap.push (seqObj "list" #[] 0)).update s.heap.objs.size (Obj.mapSeq (· ++vs.toArray))).push (seqObj "list" vs.toArray 0)}
 rw[hsz]
 refine wpAny_bind (wpAny_holding (wpAny_call_entry slot_list_sort ⟨_,hoL,rfl⟩ entry_list_sort ?body (args_list_sort _)))
 case body=>
  refine list_sort_own (key:=key) (κ:=κ) (s:={s with heap:=((s.heap.push (seqObj "list" #[] 0)).update s.heap.objs.size (Obj.mapSeq (· ++vs.toArray))).push (seqObj "list" vs.toArray 0)}) hoL h64
   (fun h2 h' k Q hq=>hkind h2 h' (fun b o q=>k b o (ne b o q) (keep b o q)) _ Q hq) (fun h2 h' k=>hask h2 h' fun b o q=>k b o (ne b o q) (keep b o q)) fun h' out c ho k hc=> ?_
  exact⟨_,rfl,wpAny_pure ⟨_,rfl,h _ h' out c ho (Nat.le_succ _) (fun b o q=>k b o (ne b o q) (keep b o q)) hc⟩⟩
end
end Srt
namespace L2
open PySem PySem.Spec PyProof.Rows
section
variable{X:Cx}
theorem vals_paired:∀{xs:List Int} {us:List Value},Vals (xs.map V.int) us->Paired (fun(i:Int) (v:Value)=>∃t,v= .int i t) xs us
 |[],_,h=>by cases h;exact .nil
 |_::_,_,h=>by
  cases h with
  |cons r t=>exact .cons r (vals_paired t)
theorem paired_vals:∀{xs:List Int} {us:List Value},Paired (fun(i:Int) (v:Value)=>∃t,v= .int i t) xs us->Vals (xs.map V.int) us
 |_,_,.nil=> .nil
 |_,_,.cons r t=> .cons r (paired_vals t)
theorem ints_at{xs:List Int}{us:List Value}(h:Paired (fun(i:Int) (v:Value)=>∃t,v= .int i t) xs us):∀i (hi:i<xs.length),∃t,us.getD i Value.none= .int xs[i] t:=by
 induction h with
 |nil=>intro i hi;simp at hi
 |cons r t ih=>
  intro i hi
  cases i with
  |zero=>exact r
  |succ i=>simpa using ih i (by simpa using hi)
theorem call_sortedI:CallR X (.builtin "sorted") (fun vs H Q=>∃(b:Bool) (a:Addr) (xs:List Int),vs=[.ref a]/\SqE X.K b H a (xs.map V.int)/\xs.length<64/\
  ∀(l:Addr) (ys:List Int),H l=none->ys.Perm xs->ys.Pairwise (· <= ·)->Q (.ref l) (upd H l (.lst (ys.map V.int)))):=by
 intro pins s σ H xs us Q I r h
 obtain⟨b,a,ns,rfl,hS,h64,q⟩:=h
 obtain⟨u,rfl,ru⟩:=r.one
 cases ru
 have main:∀vs:List Value,Vals (ns.map V.int) vs->(b=false/\s.heap.IsList a vs.toArray\/b=true/\s.heap.IsTuple a vs.toArray)->wpAny (model X.prog X.w) X.A (call (.builtin "sorted") [.ref a]) (EP X pins σ Q) X.xe s:=by
  intro vs rv hb
  have hlen:ns.length=vs.length:=by have:=rv.length;simpa using this
  have pr:=vals_paired rv
  have hi:IntsAre vs ns:=zda rv
  have p1:2<=vs.length->∀h',(∀b o,s.heap.get? b=some o->h'.get? b=some o)->∀(E:Value->Shared->Prop) (Q:SortKind->Shared->Prop),Q oneType' {s with heap:=h'}->wpAny (model X.prog X.w) X.A.in1.in1 (keyKind' vs.toArray) Q E {s with heap:=h'}:=fun h2 h' k E' Q' hq=>by
   rw[ksk_kind (kz:=ns) (by simpa using hi) (by simpa using h2)]
   exact wpAny_pure hq
  have p2:2<=vs.length->∀h',(∀b o,s.heap.get? b=some o->h'.get? b=some o)->Srt.AskOk Srt.intOrd (fun i=>ns.getD i 0) vs.length (PySem.W.kas_ask X.prog X.w X.A.in1.in1 oneType' vs) {s with heap:=h'}:=fun h2 h' k=>by
   intro i j C hi hj hC
   rw[<-hlen]at hi hj
   unfold PySem.W.kas_ask
   obtain⟨t1,e1⟩:=ints_at pr i hi
   obtain⟨t2,e2⟩:=ints_at pr j hj
   rw[e1,e2]
   refine PySem.W.kat_lt_int ?_
   have hC':C (decide (ns.getD i 0<ns.getD j 0)) {s with heap:=h'}:=hC
   have e3:ns.getD i 0=ns[i]:=by simp[hi]
   have e4:ns.getD j 0=ns[j]:=by simp[hj]
   rw[e3,e4]at hC'
   exact hC'
  have p3:∀D h' out c,Srt.Outs (O:=Srt.intOrd) (fun i=>ns.getD i 0) vs out->s.heap.objs.size<=D->(∀b o,s.heap.get? b=some o->h'.get? b=some o)->h'.get? D=some (seqObj "list" (List.toArray out) c)->EP X pins σ Q (.ref D) {s with heap:=h'}:=fun D h' out c ho hD k hc=>by
   obtain⟨ys,hp,hr,hw⟩:=Srt.outs_of (d:=(0:Int)) (f:=fun p=>p) pr (fun i hi=>by show ns.getD i 0=_;simp[hi]) ho
   have zl:(ys.map V.int).length<=sizeLine:=by
    have:=hp.length_eq
    rw[List.length_map]
    exact Nat.le_of_lt (small1000 (by omega))
   have J:Inv X pins σ (upd H D (.lst (ys.map V.int))) {s with heap:=h',toks:=s.toks}:=I.laid k hD ⟨zl,out,c,paired_vals hr,hc⟩
   refine⟨.ref D,_,J,rfl,q D ys (I.hok.fresh hD) hp (hw.imp fun{x y} hxy=> ?_)⟩
   have:decide (y<x)=false:=hxy
   have:=of_decide_eq_false this
   omega
  rcases hb with⟨_,hb⟩|⟨_,hb⟩
  ·exact Srt.sorted_own (O:=Srt.intOrd) (key:=fun i=>ns.getD i 0) (κ:=oneType') hb (by omega) p1 p2 p3
  ·exact Srt.sorted_tup (O:=Srt.intOrd) (key:=fun i=>ns.getD i 0) (κ:=oneType') hb (by omega) p1 p2 p3
 cases b with
 |false=>
  obtain⟨vs,rv,pl,hz⟩:=I.list (show SqL X.K H a (ns.map V.int)from hS)
  exact main vs rv (.inl ⟨rfl,pl.isList⟩)
 |true=>
  obtain⟨vs,rv,pl,hz⟩:=I.tuple (show SqT X.K H a (ns.map V.int)from hS)
  exact main vs rv (.inr ⟨rfl,pl⟩)
end
noncomputable def IB:V->Prop
 | .int _=>True
 | .bl _=>True
 |_=>False
noncomputable def IBs(xs:List V):Prop:=∀x∈xs,IB x
theorem IBs.ints(xs:List Int):IBs (xs.map V.int):=fun x hx=>by
 obtain⟨i,_,rfl⟩:=List.mem_map.mp hx
 trivial
theorem IBs.app{xs ys:List V}(h:IBs xs)(h':IBs ys):IBs (xs++ys):=fun x hx=>by
 rcases List.mem_append.mp hx with q|q
 ·exact h x q
 ·exact h' x q
theorem IBs.cut{xs:List V}(h:IBs xs)(lo hi:Option Int):IBs (cutV xs lo hi):=fun x hx=>h x (List.mem_of_mem_drop (List.mem_of_mem_take hx))
section
variable{K:W.Frag}{σ:St}{H0:Hp}
noncomputable def TupsM(K:W.Frag)(H:Hp)(l:Addr)(k:Nat):Prop:=∃its:List (Addr×List V),H l=some (.lst (its.map fun p=>V.ref p.1))/\(∀p∈its,SqT K H p.1 p.2/\IBs p.2/\p.2.length<=60)/\its.length<=k
theorem TupsM.same{H H':Hp}{l:Addr}{k:Nat}(h:TupsM K H l k)(e:Same H H'):TupsM K H' l k:=by
 obtain⟨its,h1,h2,h3⟩:=h
 exact⟨its,e _ _ h1,fun p hp=>⟨e.tup (h2 p hp).1,(h2 p hp).2⟩,h3⟩
end
end L2
namespace L2
open PySem PySem.W PySem.Spec PyProof.Rows
section
variable{X:Cx}
theorem call_sortedE:CallR X (.builtin "sorted") (fun xs H Q=>∃(a:Addr) (its:List (Addr×List Int)),xs=[.ref a]/\SqL X.K H a (its.map fun p=>V.ref p.1)/\(∀p∈its,SqT X.K H p.1 (p.2.map V.int)/\(2<=its.length->p.2≠[]))/\its.length<64/\
  ∀(l:Addr) (its':List (Addr×List Int)),H l=none->its'.Perm its->its'.Pairwise (fun p q=>HT.lexLt q.2 p.2=false)->Q (.ref l) (upd H l (.lst (its'.map fun p=>V.ref p.1)))):=by
 intro pins s σ H xs us Q I r h
 obtain⟨a,its,rfl,hS,hT,h64,q⟩:=h
 obtain⟨u,rfl,ru⟩:=r.one
 cases ru
 obtain⟨vs,rv,pl,hz⟩:=I.list hS
 have hlen:its.length=vs.length:=by have:=rv.length;simpa using this
 -- the values beside the tuples
 have pr:Paired (fun(p:Addr×List Int) (v:Value)=>v= .ref p.1) its vs:=by
  have go:∀(l:List (Addr×List Int)) (us:List Value),Vals (l.map fun p=>V.ref p.1) us->Paired (fun(p:Addr×List Int) (v:Value)=>v= .ref p.1) l us:=by
   intro l
   induction l with
   |nil=>intro us h;cases h;exact .nil
   |cons p l ih=>
    intro us h
    cases h with
    |cons r t=>exact .cons r (ih _ t)
  exact go its vs rv
 have tup:∀p∈its,∃(items:List Value),IntsAre items p.2/\IsTup s.heap p.1 items.toArray:=fun p hp=>by
  obtain⟨its',r',t',_⟩:=I.tuple (hT p hp).1
  exact⟨its',zda r',t'⟩
 refine Srt.sorted_own (O:=Srt.lexOrd) (key:=fun i=>(its.getD i (0,[])).2) (κ:=tuples' true) (s:=s) pl.isList (by omega) (fun h2 h' k E' Q' hq=> ?_) (fun h2 h' k=> ?_) (fun D h' out c ho hD k hc=> ?_)
 ·have kt:∀(l:List (Addr×List Int)) (us:List Value),Paired (fun(p:Addr×List Int) (v:Value)=>v= .ref p.1) l us->(∀p∈l,p∈its)->∃fs:List Value,KatTups h' us fs/\fs.length=us.length/\∀v∈fs,∃i t,v=Value.int i t:=by
   intro l us h
   induction h with
   |nil=>intro _;exact⟨[],trivial,rfl,fun _ hv=>nomatch hv⟩
   | @cons p v l us r t ih=>
    intro hs
    obtain⟨fs,k1,k2,k3⟩:=ih fun p hp=>hs p (List.mem_cons_of_mem _ hp)
    obtain⟨items,hi,o,e,hc,n,hd⟩:=tup p (hs p List.mem_cons_self)
    have hne:=(hT p (hs p List.mem_cons_self)).2 (by omega)
    obtain⟨pa,pn⟩:=p
    dsimp only at hi hne e r
    cases hi with
    |nil=>exact absurd rfl hne
    |cons i t hi'=>
     rw[r]
     refine⟨Value.int i t::fs,KatTups.cons (k _ _ e) hc hd (by simp) k1,by simp[k2],fun v hv=> ?_⟩
     rcases List.mem_cons.mp hv with e|e
     ·exact⟨i,t,e⟩
     ·exact k3 v e
  obtain⟨fs,k1,k2,k3⟩:=kt its vs pr fun _ hp=>hp
  refine kat_kind (s:={s with heap:=h'}) (T:= .type "int") k1 (by omega) (fun v hv=> ?_) (by rfl) hq
  obtain⟨i,t,rfl⟩:=k3 v hv
  exact fun A Q E s _ q=>wpAny_pure q
 ·intro i j C hi hj hC
  rw[<-hlen]at hi hj
  have get:∀i (hi:i<its.length),vs.getD i Value.none= .ref its[i].1:=by
   have go:∀(l:List (Addr×List Int)) (us:List Value),Paired (fun(p:Addr×List Int) (v:Value)=>v= .ref p.1) l us->∀i (hi:i<l.length),us.getD i Value.none= .ref l[i].1:=by
    intro l us h
    induction h with
    |nil=>intro i hi;simp at hi
    |cons r t ih=>
     intro i hi
     cases i with
     |zero=>exact r
     |succ i=>simpa using ih i (by simpa using hi)
   exact go its vs pr
  unfold kas_ask
  rw[get i hi,get j hj]
  obtain⟨xi,hxi,oi,ei,ci,ni,di⟩:=tup its[i] (List.getElem_mem _)
  obtain⟨xj,hxj,oj,ej,cj,nj,dj⟩:=tup its[j] (List.getElem_mem _)
  refine kat_lt (s:={s with heap:=h'}) (k _ _ ei) di (k _ _ ej) dj ?_
  refine Srt.lex_ints 0 hxi hxj ?_ ?_
  ·have:=hxi.length;have:=hxj.length
   simp only[List.size_toArray]
   omega
  ·rw[HT.lexLt_iff]
   have e1:its.getD i (0,[])=its[i]:=by simp[hi]
   have e2:its.getD j (0,[])=its[j]:=by simp[hj]
   have hC':C (decide ((its.getD i (0,[])).2<(its.getD j (0,[])).2)) {s with heap:=h'}:=hC
   rw[e1,e2]at hC'
   exact hC'
 ·obtain⟨its',hp,hr,hw⟩:=Srt.outs_of (d:=((0,[]):Addr×List Int)) (f:=fun p=>p.2) pr (fun i hi=>by show(its.getD i (0,[])).2=_;simp[hi]) ho
  have hn:H D=none:=I.hok.fresh hD
  have rv':Vals (its'.map fun p=>V.ref p.1) out:=by
   have go:∀(l:List (Addr×List Int)) (us:List Value),Paired (fun(p:Addr×List Int) (v:Value)=>v= .ref p.1) l us->Vals (l.map fun p=>V.ref p.1) us:=by
    intro l us h
    induction h with
    |nil=>exact .nil
    |cons r t ih=>exact .cons r ih
   exact go its' out hr
  have zl:(its'.map fun p=>V.ref p.1).length<=sizeLine:=by
   have:=hp.length_eq
   rw[List.length_map]
   exact Nat.le_of_lt (small1000 (by omega))
  have J:Inv X pins σ (upd H D (.lst (its'.map fun p=>V.ref p.1))) {s with heap:=h',toks:=s.toks}:=I.laid k hD ⟨zl,out,c,rv',hc⟩
  refine⟨.ref D,_,J,rfl,q D its' hn hp (hw.imp fun{x y} hxy=> ?_)⟩
  rw[HT.lexLt_iff];exact hxy
theorem pt_truthK(K:W.Frag){a:Expr}{ta:TE}(ha:PE X a ta)(he:∀whole,isTrue a X.env whole=(do let v<-whole;standAt a.pos;holding [v] (truthy v)))(h:X.K=K:=by rfl):
  PT X a (fun σ H Q=>ta σ H fun x H'=>∃k,TruV K x H' k/\Q k H'):=by subst h;exact pt_truth ha he
end
end L2
namespace L2
open PySem PySem.Spec PyProof.Rows
section
variable{prog:Program}{w:World}{A:Around}{E:Value->Shared->Prop}{s:Shared}{l:Addr}{kid:String}{vs:List Value}{R:Result->Shared->Prop}{Q:Value->Shared->Prop}
noncomputable def Kp(s:Shared)(h:Heap):Prop:=∀b o,s.heap.get? b=some o->h.get? b=some o
theorem max_go(kf:Nat->Int)(hA:A.handled=none)(hl:s.heap.IsList l vs.toArray)(turn:∀(i:Nat) (v:Value),vs[i]? =some v->∀(h:Heap) (tk:Nat),Kp s h->∀Q E:Value->Shared->Prop,(∀t tk',Q (.int (kf i) t) {s with heap:=h,toks:=tk'})->wpAny (model prog w) A.in1 (call (.builtin kid) [v]) Q E {s with heap:=h,toks:=tk})(hR:∀i v h' tk',vs[i]? =some v->(∀j,j<vs.length->kf j<=kf i/\(j<i->kf j<kf i))->Kp s h'->R (.ok (.ret v)) {s with heap:=h',toks:=tk'}):
  ∀(r j i:Nat) (h:Heap) (tk:Nat) (vb:Value) (tb:Tok) (c:Nat),vs.length-(j+1)=r->j+1<=vs.length->Kp s h->h.get? (s.heap.objs.size+1)=some (seqObj "list" #[vb,.int (kf i) tb] c)->h.IsListIter s.heap.objs.size l (j+1)->vs[i]? =some vb->i<=j->(∀j',j'<=j->kf j'<=kf i/\(j'<i->kf j'<kf i))->
   codeAny (model prog w) A (.builtin "max.loop" ⟨[.ref s.heap.objs.size,.builtin kid,.ref (s.heap.objs.size+1)],[]⟩) R {s with heap:=h,toks:=tk}:=by
 have nm:(toString "max"++toString ".loop":String)="max.loop":=by decide
 obtain⟨ol,hol,hlc,hln,hld⟩:=id hl
 have nlI:l≠s.heap.objs.size:=Nat.ne_of_lt (Heap.lt_size hol)
 have W:=Walks.list (prog:=prog) (w:=w) (A:=A.in1) hA s.heap.objs.size l nlI vs.toArray
 have zs:vs.toArray.size=vs.length:=List.size_toArray ..
 have nSI:s.heap.objs.size+1≠s.heap.objs.size:=Nat.ne_of_gt (Nat.lt_succ_self _)
 have hlK:∀h,Kp s h->h.IsList l vs.toArray:=fun h k=>⟨ol,k _ _ hol,hlc,hln,hld⟩
 have kI:∀h h',Kp s h->(∀b o,b∉[s.heap.objs.size]->h.get? b=some o->h'.get? b=some o)->Kp s h':=fun h h' k q b o e=>q b o (fun z=>Nat.lt_irrefl _ ((List.mem_singleton.mp z)▸Heap.lt_size e)) (k b o e)
 have kS:∀h h',Kp s h->(∀b,b≠s.heap.objs.size+1->h'.get? b=h.get? b)->Kp s h':=fun h h' k q b o e=>(q b (Nat.ne_of_lt (Nat.lt_succ_of_lt (Heap.lt_size e)))).trans (k b o e)
 intro r
 induction r with
 |zero=>
  intro j i h tk vb tb c hr hj k hS hit hvb hij hbest
  refine codeAny_builtin PySem.F.entry_max_loop (by
   rw[Around.under_plainId PySem.F.plain_max_loop _]
   show wpAny _ A.in1 (seqItems? (.ref (s.heap.objs.size+1))>>=_) _ _ _
   refine wpAny_bind (wpAny_seqItems hS rfl (?_))
   show wpAny _ A.in1 (tryCatch (pyNext (.ref s.heap.objs.size)) _>>=_) _ _ _
   refine wpAny_bind (wpAny_tryCatch (W.done _ _ _ ⟨by rw[zs,<-show j+1=vs.length by omega];exact hit,hlK h k⟩ fun h' tk' hk'=> ?_))
   have g:=hk' (s.heap.objs.size+1) _ (by simp) hS
   show wpAny _ A.in1 (updateSeq (s.heap.objs.size+1) (fun _=>#[])>>=_) _ _ _
   refine wpAny_bind (wpAny_updateSeq g rfl (wpAny_bind (wpAny_letGo (wpAny_pure ?_))))
   exact hR i vb _ _ hvb (fun j' hj'=>hbest j' (by omega)) (kS _ _ (kI _ _ k hk') (Heap.SameBut.update h' (s.heap.objs.size+1) (Obj.mapSeq fun _=>(#[]:Array Value))).2))
 |succ r ih=>
  intro j i h tk vb tb c hr hj k hS hit hvb hij hbest
  have hlt:j+1<vs.length:=by omega
  refine codeAny_builtin PySem.F.entry_max_loop (by
   rw[Around.under_plainId PySem.F.plain_max_loop _]
   show wpAny _ A.in1 (seqItems? (.ref (s.heap.objs.size+1))>>=_) _ _ _
   refine wpAny_bind (wpAny_seqItems hS rfl (?_))
   show wpAny _ A.in1 (tryCatch (pyNext (.ref s.heap.objs.size)) _>>=_) _ _ _
   refine wpAny_bind (wpAny_tryCatch (W.item (j+1) _ _ _ (by rw[zs];exact hlt) ⟨hit,hlK h k⟩ fun v h' tk' hP hst' hk'=> ?_))
   have hv:vs[j+1]? =some v:=(by simpa using hP)
   have k1:=kI _ _ k hk'
   have g:=hk' (s.heap.objs.size+1) _ (by simp) hS
   show wpAny _ A.in1 (tryCatch (holding [v] (call (.builtin kid) [v])) _>>=_) _ _ _
   refine wpAny_bind (wpAny_tryCatch (wpAny_holding (turn (j+1) v hv h' tk' k1 _ _ fun t2 tk2=> ?_)))
   show wpAny _ A.in1 (tryCatch (holding [v,.int (kf (j+1)) t2] (richCompare .Gt (.int (kf (j+1)) t2) (.int (kf i) tb)>>=_)) _>>=_) _ _ _
   refine wpAny_bind (wpAny_tryCatch (wpAny_holding (wpAny_bind (CmpOf.ints_gt (prog:=prog) (w:=w) (A:=A.in1) (P:=fun i v=>∃t,v= .int (kf i) t) kf (fun i v h=>h) (j+1) i _ _ _ _ _ ⟨t2,rfl⟩ ⟨tb,rfl⟩ (wpAny_bind (wpAny_holding (wpAny_truthy_bool (wpAny_bind (wpAny_letGo (wpAny_pure ?_))))))))))
   by_cases hb:kf (j+1)>kf i
   ·have sb:=Heap.SameBut.update h' (s.heap.objs.size+1) (Obj.mapSeq fun _=>#[v,.int (kf (j+1)) t2])
    obtain⟨c2,hc2⟩:∃c2,(h'.update (s.heap.objs.size+1) (Obj.mapSeq fun _=>#[v,.int (kf (j+1)) t2])).get? (s.heap.objs.size+1)=some (seqObj "list" #[v,.int (kf (j+1)) t2] c2):=⟨_,get?_update_seq g fun _=>#[v,.int (kf (j+1)) t2]⟩
    simp only[hb,decide_true,if_true]
    refine wpAny_bind (wpAny_updateSeq g rfl (wpAny_bind (wpAny_letGo ?_)))
    obtain⟨oI,hoI,hoc,hod⟩:=id hst'.1
    rw[nm]
    refine wpAny_pure ⟨plainId_quiet PySem.F.plain_max_loop _,ih (j+1) (j+1) _ _ v t2 c2 (by omega) hlt (kS _ _ k1 sb.2) hc2 ⟨oI,(sb.2 _ nSI.symm).trans hoI,hoc,hod⟩ hv (Nat.le_refl _) fun j' hj'=> ?_⟩
    by_cases e:j'=j+1
    ·subst e;exact⟨Int.le_refl _,fun z=>absurd z (Nat.lt_irrefl _)⟩
    ·have q:=(hbest j' (by omega)).1
     exact⟨by omega,fun _=>by omega⟩
   ·simp only[hb,decide_false,Bool.false_eq_true,if_false]
    refine wpAny_bind (wpAny_letGo (?_))
    rw[nm]
    refine wpAny_pure ⟨plainId_quiet PySem.F.plain_max_loop _,ih (j+1) i _ _ vb tb c (by omega) hlt k1 g hst'.1 hvb (by omega) fun j' hj'=> ?_⟩
    by_cases e:j'=j+1
    ·subst e;exact⟨by omega,fun z=>by omega⟩
    ·exact hbest j' (by omega))
theorem max_own(kf:Nat->Int)(hA:A.handled=none)(hl:s.heap.IsList l vs.toArray)(hne:0<vs.length)(turn:∀(i:Nat) (v:Value),vs[i]? =some v->∀(h:Heap) (tk:Nat),Kp s h->∀Q E:Value->Shared->Prop,(∀t tk',Q (.int (kf i) t) {s with heap:=h,toks:=tk'})->wpAny (model prog w) A.in1 (call (.builtin kid) [v]) Q E {s with heap:=h,toks:=tk})(hQ:∀i v h' tk',vs[i]? =some v->(∀j,j<vs.length->kf j<=kf i/\(j<i->kf j<kf i))->Kp s h'->Q v {s with heap:=h',toks:=tk'}):
  wpAny (model prog w) A (call (.builtin "max") [.ref l] [(Str.ofString "key",.builtin kid)]) Q E s:=by
 have nm:(toString "max"++toString ".loop":String)="max.loop":=by decide
 obtain⟨ol,hol,hlc,hln,hld⟩:=id hl
 have nlI:l≠s.heap.objs.size:=Nat.ne_of_lt (Heap.lt_size hol)
 refine kmb_tree PySem.F.kind_max PySem.F.plain_max PySem.F.entry_max (kmb_max_key _ _) (by
  show wpAny _ A.in1 (Builtin.Builtins.bindParams "max" ["key","default"] 0 ⟨[],[(Str.ofString "key",.builtin kid)]⟩>>=_) _ _ s
  refine wpAny_bind (wpAny_of_eq (show Builtin.Builtins.bindParams "max" ["key","default"] 0 ⟨[],[(Str.ofString "key",.builtin kid)]⟩=pure [some (.builtin kid),none]from rfl) (wpAny_bind (wpAny_pure (wpAny_bind (wpAny_pyIter_list hl (wpAny_bind (wpAny_newList ?_ (Nat.zero_le _))))))))
  rw[nm]
  have zS:(s.heap.push {cls:= .type "list_iterator",data:= .fields #[.ref l,.int 0 0]}).objs.size=s.heap.objs.size+1:=size_push' ..
  rw[zS]
  have k0:Kp s ((s.heap.push {cls:= .type "list_iterator",data:= .fields #[.ref l,.int 0 0]}).push (seqObj "list" #[] 0)):=fun b o e=>Heap.get?_push_of_some _ (Heap.get?_push_of_some _ e)
  have gI:((s.heap.push {cls:= .type "list_iterator",data:= .fields #[.ref l,.int 0 0]}).push (seqObj "list" #[] 0)).IsListIter s.heap.objs.size l 0:=⟨_,Heap.get?_push_of_some _ (Heap.get?_push_size _ rfl),rfl,rfl⟩
  have gS:((s.heap.push {cls:= .type "list_iterator",data:= .fields #[.ref l,.int 0 0]}).push (seqObj "list" #[] 0)).get? (s.heap.objs.size+1)=some (seqObj "list" #[] 0):=by rw[<-zS];exact Heap.get?_push_size _ rfl
  have W:=Walks.list (prog:=prog) (w:=w) (A:=A.in1) hA s.heap.objs.size l nlI vs.toArray
  refine wpAny_pure ⟨plainId_quiet PySem.F.plain_max_loop _,codeAny_builtin PySem.F.entry_max_loop ?_⟩
  rw[Around.under_plainId PySem.F.plain_max_loop _]
  show wpAny _ A.in1 (seqItems? (.ref (s.heap.objs.size+1))>>=_) _ _ _
  refine wpAny_bind (wpAny_seqItems gS rfl (?_))
  show wpAny _ A.in1 (tryCatch (pyNext (.ref s.heap.objs.size)) _>>=_) _ _ _
  refine wpAny_bind (wpAny_tryCatch (W.item 0 _ _ _ (by rw[List.size_toArray];exact hne) ⟨gI,⟨ol,k0 _ _ hol,hlc,hln,hld⟩⟩ fun v h' tk' hP hst' hk'=> ?_))
  have hv:vs[0]? =some v:=(by simpa using hP)
  have k1:Kp s h':=fun b o e=>hk' b o (fun z=>Nat.lt_irrefl _ ((List.mem_singleton.mp z)▸Heap.lt_size e)) (k0 b o e)
  have g:=hk' (s.heap.objs.size+1) _ (by simp) gS
  show wpAny _ A.in1 (tryCatch (holding [v] (call (.builtin kid) [v])) _>>=_) _ _ _
  refine wpAny_bind (wpAny_tryCatch (wpAny_holding (turn 0 v hv h' tk' k1 _ _ fun t2 tk2=> ?_)))
  have sb:=Heap.SameBut.update h' (s.heap.objs.size+1) (Obj.mapSeq fun _=>#[v,.int (kf 0) t2])
  obtain⟨c2,hc2⟩:∃c2,(h'.update (s.heap.objs.size+1) (Obj.mapSeq fun _=>#[v,.int (kf 0) t2])).get? (s.heap.objs.size+1)=some (seqObj "list" #[v,.int (kf 0) t2] c2):=⟨_,get?_update_seq g fun _=>#[v,.int (kf 0) t2]⟩
  obtain⟨oI,hoI,hoc,hod⟩:=id hst'.1
  show wpAny _ A.in1 (updateSeq (s.heap.objs.size+1) (fun _=>#[v,.int (kf 0) t2])>>=_) _ _ _
  refine wpAny_bind (wpAny_updateSeq g rfl ?_)
  rw[nm]
  exact wpAny_pure ⟨plainId_quiet PySem.F.plain_max_loop _,max_go kf hA hl turn hQ _ 0 0 _ _ v t2 c2 rfl hne (fun b o e=>(sb.2 b (Nat.ne_of_lt (Nat.lt_succ_of_lt (Heap.lt_size e)))).trans (k1 b o e)) hc2 ⟨oI,(sb.2 _ (Nat.ne_of_lt (Nat.lt_succ_self _))).trans hoI,hoc,hod⟩ hv (Nat.le_refl _) fun j' hj'=>by
   have e:j'=0:=by omega
   subst e
   exact⟨Int.le_refl _,fun z=>absurd z (Nat.lt_irrefl _)⟩⟩)
end
end L2
namespace L2
open PySem PySem.Spec PyProof.Rows
section
variable{X:Cx}{a:Expr}{ta:TA}{p p2 kp pos:Pos}
noncomputable def tMaxLen(K:W.Frag)(ta:TA):TE:=fun σ H Q=>ta σ H fun vs H1=>∃(l:Addr) (its:List (Addr×List Int)),vs=[.ref l]/\SqL K H1 l (its.map fun p=>V.ref p.1)/\(∀p∈its,SqT K H1 p.1 (p.2.map V.int))/\its≠[]/\
 ∀(i:Nat) (p:Addr×List Int),its[i]? =some p->(∀(j:Nat) r,its[j]? =some r->r.2.length<=p.2.length/\(j<i->r.2.length<p.2.length))->Q (.ref p.1) H1
theorem vals_ref:∀{its:List (Addr×List Int)} {us:List Value} {i:Nat} {v:Value},Vals (its.map fun p=>V.ref p.1) us->us[i]? =some v->∃p,its[i]? =some p/\v= .ref p.1
 |[],_,i,v,h,e=>by cases h;simp at e
 |p::its,_,0,v,h,e=>by
  cases h with
  |cons r t=>
   cases r
   simp at e
   exact⟨p,rfl,e.symm⟩
 |p::its,_,i+1,v,h,e=>by
  cases h with
  |cons r t=>exact vals_ref (i:=i) t (by simpa using e)
theorem pe_maxLen(hc:X.calm=true)(hg:Gl X "max")(hm:X.mg "max"=none)(hgL:Gl X "len")(hmL:X.mg "len"=none)(ha:PA X [a] ta)(hs:starEach [a] X.env=[(false,eval a X.env)]:=by rfl)(he:backTo pos (starEach [a] X.env)=(false,eval a X.env)::backTo pos (starEach [] X.env):=by rfl)(hp:(backTo pos (starEach [a] X.env)).any (·.1)=false:=by rfl):PE X (.Call (.Name "max" p) [a] [⟨some "key",.Name "len" p2,kp⟩] pos) (tMaxLen X.K ta):=by
 intro pins s σ H Q I h
 refine wpAny_Call_Name_kw (ld_blt I hg hm (show bootBuiltins "max"=some (.builtin "max")from by decide+kernel) ?_ (by decide) (by decide))
 refine PyProof.Rows.callWith_kw (thn (ha pos pins s σ H _ I h) fun us s1 ⟨vs,H1,I1,r1,q1⟩=>kws_cons (ld_blt I1 hgL hmL PySem.boot_len (kws_nil ?_) (by decide) (by decide))) he hp
 obtain⟨l,its,e,hq,hT,hne,q⟩:=q1
 subst e
 cases r1 with
 |cons r rr=>
  cases rr
  cases r
  obtain⟨ws,rv,pl,hz⟩:=I1.list hq
  have hlen:its.length=ws.length:=by have:=rv.length;simpa using this
  have hpos:0<ws.length:=by
   rw[<-hlen]
   cases its with
   |nil=>exact absurd rfl hne
   |cons _ _=>simp
  have kf:∀i p,its[i]? =some p->its.getD i (0,[])=p:=fun i p e=>by rw[List.getD_eq_getElem?_getD,e];rfl
  show wpAny (model X.prog X.w) X.A (call (.builtin "max") [.ref l] [(Str.ofString "key",.builtin "len")]) (EP X pins σ Q) X.xe s1
  refine max_own (fun i=>((its.getD i (0,[])).2.length:Int)) (I.ok.hd hc) pl.isList hpos (fun i v hv h' tk k Q' E' hq'=> ?_) (fun i v h' tk' hv hb k=> ?_)
  ·obtain⟨p,e1,rfl⟩:=vals_ref rv hv
   obtain⟨xs,rx,px,hx⟩:=I1.tuple (hT p (List.mem_of_getElem? e1))
   obtain⟨o,ho,ho2,n,hd⟩:=id px
   have hxl:xs.length=p.2.length:=by have:=rx.length;simpa using this.symm
   have hz2:xs.toArray.size=p.2.length:=by rw[List.size_toArray];exact hxl
   refine len_tuple (s:={s1 with heap:=h',toks:=tk}) (t:=p.1) (items:=xs.toArray) ⟨o,k _ _ ho,ho2,n,hd⟩ ?_ ?_
   ·rw[List.size_toArray]
    have:xs.length<=sizeLine:=by rw[hxl];simpa using hx
    rw[sizeLine_eq]at this
    omega
   ·have z:=hq' (tk+1) (tk+1+1)
    rw[kf i p e1]at z
    rw[hz2]
    exact z
  ·obtain⟨p,e1,rfl⟩:=vals_ref rv hv
   have I2:Inv X pins σ H1 {s1 with heap:=h',toks:=tk'}:=I1.kept k
   refine⟨.ref p.1,H1,I2,rfl,q i p e1 fun j r hr=> ?_⟩
   have hj:j<ws.length:=by rw[<-hlen];exact(List.getElem?_eq_some_iff.mp hr).1
   have z:=hb j hj
   rw[kf i p e1,kf j r hr]at z
   exact⟨by omega,fun hji=>by have:=z.2 hji;omega⟩
end
end L2
namespace L2
open PySem PySem.Spec PyProof.Rows
theorem ObjOk.any{P:Program}{w:World}{H:Hp}{h:Heap}{a:Addr}{o:HO}(x:ObjOk P w H h a o):∃u,h.get? a=some u:=by
 cases o with
 |lst xs=>obtain⟨_,_,_,_,e⟩:=x;exact⟨_,e⟩
 |tup xs=>obtain⟨_,_,_,ob,e,_⟩:=x;exact⟨_,e⟩
 |dK kvs=>obtain⟨_,_,_,_,o,_,_,e,_⟩:=x;exact⟨_,e⟩
 |dT kvs=>obtain⟨_,_,_,_,o,_,_,e,_⟩:=x;exact⟨_,e⟩
 |set S n=>obtain⟨o,_,_,_,e,_⟩:=x;exact⟨_,e⟩
 |ins C dx fs=>obtain⟨_,_,_,e,_⟩:=x;exact⟨_,e⟩
 |own y=>exact x
 |xd fs=>obtain⟨_,⟨_,_,_,e,_⟩,_⟩:=x;exact⟨_,e⟩
 |rng lo hi=>obtain⟨_,_,_,e⟩:=x;exact⟨_,e⟩
 |frz ob u=>obtain⟨e,_⟩:=x;exact⟨_,e⟩
 |tbl ps=>exact⟨_,x⟩
 |met f y=>exact⟨_,x⟩
 |ext φ=>exact x.2.1
theorem HOk.none{P:Program}{w:World}{H:Hp}{h:Heap}{a:Addr}(x:HOk P w H h)(e:h.get? a=none):H a=none:=by
 cases q:H a with
 |none=>rfl
 |some u=>
  obtain⟨o,z⟩:=(x a u q).any
  rw[e]at z;cases z
section
variable{P:Program}{w:World}{K:W.Frag}{mg:Str->Option Value}{base:Heap}{N:List Str}{qual:Str}{scope:Scope}{f:Addr}{cd:Value}{A:Around}{outer:List Env}{s:Shared}{H:Hp}{E:XK}
end
section
variable{P:Program}{w:World}{K:W.Frag}{mg:Str->Option Value}{base:Heap}{N:List Str}{qual:Str}{scope:Scope}{f:Addr}{cd:Value}{A:Around}{outer:List Env}{s:Shared}{H:Hp}{E:XK}
end
end L2
namespace L2
open PySem PySem.Spec PySem.Calls PyProof.Rows PySem.W PySem.Builtin.Getset_descriptor
section
variable{prog:Program}{w:World}{A:Around}{E:Value->Shared->Prop}{s:Shared}{K:Frag}{x D:Addr}
noncomputable def OfCls(x D:Addr)(h:Heap):Prop:=∃o,h.get? x=some o/\o.cls= .ref D
theorem OfCls.ty{M:Model}{h:Heap}(p:OfCls x D h):Looks M h (typeOf (.ref x)) (.ref D):=by
 obtain⟨o,e,c⟩:=p
 exact c▸(Looks.ld e).andThen .now
end
end L2
namespace L2
open PySem PySem.Spec PyProof.Rows
section
variable{X:Cx}{pins:List (Addr×Obj)}{σ:St}{H H':Hp}{s s':Shared}{e C:Addr}{B:Heap}
end
section
variable{X:Cx}{k:Nat}{f D:Addr}{fd:FuncData}{ps:List Str}{sp:Sp}{fn x n:Str}{p cpos epos np hpos pos:Pos}{a:Expr}{as:List Expr}{t:TA}{ts:TS}{b₀:Stmt}{suite:List Stmt}{i:Nat}
end
end L2
namespace L2
open PySem PySem.Spec PyProof.Rows
section
variable{X:Cx}
end
end L2
namespace L2
open PySem PySem.Spec PyProof.Rows
mutual
noncomputable def litF:Nat->Expr->Option PyData
 |0,_=>none
 |n+1,e=>match e with
  | .Constant (.int i) _ _=>some (.int i)
  | .Constant (.bool b) _ _=>some (.bool b)
  | .Constant .none _ _=>some .none
  | .Constant (.str x) _ _=>some (.str x)
  | .UnaryOp .USub (.Constant (.int i) _ _) _=>some (.int (-i))
  | .Tuple es _ _=>(litsF n es).map .tuple
  | .List es _=>(litsF n es).map .list
  | .Dict [] [] _=>some (.dict [])
  |_=>none
noncomputable def litsF:Nat->List Expr->Option (List PyData)
 |0,_=>none
 |_+1,[]=>some []
 |n+1,e::es=>match litF n e,litsF n es with
  |some d,some ds=>some (d::ds)
  |_,_=>none
end
section
variable{X:Cx}
end
theorem FnOk.up{P:Program}{w:World}{K:W.Frag}{mg:Str->Option Value}{base:Heap}{CX:CXT}{k:Nat}{f:Addr}{fd:FuncData}{ps:List Str}{sp:Sp}(F:FnOk P w K mg base CX0 k f fd ps sp):FnOk P w K mg base CX k f fd ps sp:=
 ⟨F.len,fun A outer s H args us vs Q E hr e0 hb hv hs=>codeAny_mono (F.run A outer s H args us vs Q E hr e0 hb hv hs) fun r s' z=>by
  cases r with
  |error e=>exact False.elim z
  |ok fl=>cases fl<;>exact z⟩
end L2
namespace L2
open PySem PySem.Spec PyProof.Rows
section
variable{κ:Type} [DecidableEq κ]
noncomputable def valV(kvs:List (κ×V))(k:κ):Option V:=(kvs.find? fun kv=>decide (kv.1=k)).map (·.2)
noncomputable def putK(kvs:List (κ×V))(k:κ)(v:V):List (κ×V):=
 if(kvs.any fun kv=>decide (kv.1=k))=true then kvs.map (fun kv=>if kv.1=k then(kv.1,v)else kv)else kvs++[(k,v)]
noncomputable def dropK(kvs:List (κ×V))(k:κ):List (κ×V):=kvs.filter fun kv=>decide (kv.1≠k)
theorem valV_pos{p:κ×V}{r:List (κ×V)}{k:κ}(e:p.1=k):valV (p::r) k=some p.2:=by simp[valV,List.find?_cons,e]
theorem valV_neg{p:κ×V}{r:List (κ×V)}{k:κ}(e:¬p.1=k):valV (p::r) k=valV r k:=by simp[valV,List.find?_cons,e]
theorem valV_any(k:κ):∀kvs:List (κ×V),(kvs.any fun kv=>decide (kv.1=k))=(valV kvs k).isSome
 |[]=>rfl
 |p::r=>by
  rw[List.any_cons]
  by_cases e:p.1=k
  ·simp only[valV_pos e,decide_eq_true e,Bool.true_or,Option.isSome_some]
  ·rw[valV_neg e,decide_eq_false e,Bool.false_or];exact valV_any k r
theorem length_putK(kvs:List (κ×V))(k:κ)(v:V):(putK kvs k v).length<=kvs.length+1:=by
 unfold putK
 split
 ·rw[List.length_map];omega
 ·rw[List.length_append,List.length_cons,List.length_nil];omega
theorem putK_new{kvs:List (κ×V)}{k:κ}(v:V)(h:valV kvs k=none):putK kvs k v=kvs++[(k,v)]:=by
 unfold putK
 rw[valV_any,h]
 exact if_neg (by decide)
theorem RelO.isSome_eq{o:Option V}{u:Option Value}(r:RelO o u):o.isSome=u.isSome:=by
 cases o with
 |none=>cases u with
  |none=>rfl
  |some _=>exact(show False from r).elim
 |some _=>cases u with
  |none=>exact(show False from r).elim
  |some _=>rfl
theorem RelO.getD{o:Option V}{u:Option Value}{d:V}{d':Value}(r:RelO o u)(rd:RelV d d'):RelV (o.getD d) (u.getD d'):=by
 cases o with
 |none=>cases u with
  |none=>exact rd
  |some _=>exact(show False from r).elim
 |some _=>cases u with
  |none=>exact(show False from r).elim
  |some _=>exact r
theorem KV.val{kvs:List (κ×V)}{vs:List (κ×Value)}(r:KV kvs vs)(k:κ):RelO (valV kvs k) (valueAt vs k):=by
 unfold KV at r
 induction r with
 |nil=>exact True.intro
 | @cons p q ps qs h t ih=>
  obtain⟨h1,h2⟩:=h
  by_cases e:p.1=k
  ·have e':q.1=k:=h1.symm.trans e
   have b:valueAt (q::qs) k=some q.2:=by simp[valueAt,List.find?_cons,e']
   rw[valV_pos e,b];exact h2
  ·have e':¬q.1=k:=fun z=>e (h1.trans z)
   have b:valueAt (q::qs) k=valueAt qs k:=by simp[valueAt,List.find?_cons,e']
   rw[valV_neg e,b];exact ih
theorem KV.any{kvs:List (κ×V)}{vs:List (κ×Value)}(r:KV kvs vs)(k:κ):(kvs.any fun kv=>decide (kv.1=k))=vs.any fun kv=>decide (kv.1=k):=by
 unfold KV at r
 induction r with
 |nil=>rfl
 |cons h t ih=>rw[List.any_cons,List.any_cons,ih,h.1]
theorem KV.repl{kvs:List (κ×V)}{vs:List (κ×Value)}(r:KV kvs vs)(k:κ){y:V}{u:Value}(ry:RelV y u):
  KV (kvs.map fun kv=>if kv.1=k then(kv.1,y)else kv) (vs.map fun kv=>if kv.1=k then(kv.1,u)else kv):=by
 unfold KV at r⊢
 induction r with
 |nil=>exact .nil
 | @cons p q ps qs h t ih=>
  rw[List.map_cons,List.map_cons]
  refine .cons ?_ ih
  obtain⟨h1,h2⟩:=h
  by_cases e:p.1=k
  ·rw[if_pos e,if_pos (h1.symm.trans e)];exact⟨h1,ry⟩
  ·rw[if_neg e,if_neg (fun z=>e (h1.trans z))];exact⟨h1,h2⟩
theorem KV.put{kvs:List (κ×V)}{vs:List (κ×Value)}(r:KV kvs vs)(k:κ){y:V}{u:Value}(ry:RelV y u):KV (putK kvs k y) (stored vs k u):=by
 unfold putK stored
 rw[r.any k]
 by_cases e:(vs.any fun kv=>decide (kv.1=k))=true
 ·rw[if_pos e,if_pos e];exact r.repl k ry
 ·rw[if_neg e,if_neg e];exact Paired.snoc r ⟨rfl,ry⟩
theorem KV.drop{kvs:List (κ×V)}{vs:List (κ×Value)}(r:KV kvs vs)(k:κ):KV (dropK kvs k) (without vs k):=by
 unfold KV at r⊢
 unfold dropK without
 induction r with
 |nil=>exact .nil
 | @cons p q ps qs h t ih=>
  obtain⟨h1,h2⟩:=h
  rw[List.filter_cons,List.filter_cons]
  by_cases e:p.1=k
  ·have a:¬decide (p.1≠k)=true:=by simp[e]
   have b:¬decide (q.1≠k)=true:=by simp[h1.symm.trans e]
   rw[if_neg a,if_neg b];exact ih
  ·have e':¬q.1=k:=fun z=>e (h1.trans z)
   have a:decide (p.1≠k)=true:=by simp[e]
   have b:decide (q.1≠k)=true:=by simp[e']
   rw[if_pos a,if_pos b];exact .cons ⟨h1,h2⟩ ih
theorem KV.keys{kvs:List (κ×V)}{vs:List (κ×Value)}(r:KV kvs vs):kvs.map (·.1)=vs.map (·.1):=by
 unfold KV at r
 induction r with
 |nil=>rfl
 |cons h t ih=>rw[List.map_cons,List.map_cons,ih,h.1]
theorem KV.length{kvs:List (κ×V)}{vs:List (κ×Value)}(r:KV kvs vs):kvs.length=vs.length:=Paired.length r
end
theorem kV_is{P:Program}{w:World}{k:Key}{u:Value}(r:RelV (kV k) u):(mixKind P w).is k u=true:=by
 cases k with
 |inl i=>obtain⟨t,e⟩:=(show∃t,u=Value.int i t from r);subst e;exact mixKind_int P w i t
 |inr x=>obtain⟨t,e⟩:=(show∃t,u=Value.str x t from r);subst e;exact mixKind_str P w x t
theorem items_are{P:Program}{w:World}:∀{ks:List Key} {us:List Value},Vals (ks.map kV) us->ItemsAre (mixKind P w) ks us
 |[],_,r=>by rw[List.map_nil]at r;cases r;exact .nil
 |k::ks,_,r=>by
  rw[List.map_cons]at r
  cases r with
  |cons h t=>exact .cons (kV_is h) (items_are t)
noncomputable abbrev KT(H:Hp):List (List Key×V)->List (List Key×Addr×Value)->Prop:=Paired fun p q=>p.1=q.1/\H q.2.1=some (.tup (p.1.map kV))/\RelV p.2 q.2.2
theorem KT.val{H:Hp}{kvs:List (List Key×V)}{xs:List (List Key×Addr×Value)}(r:KT H kvs xs)(k:List Key):RelO (valV kvs k) ((atKey xs k).map (·.2)):=by
 induction r with
 |nil=>exact True.intro
 | @cons p q ps qs h t ih=>
  obtain⟨h1,_,h2⟩:=h
  by_cases e:p.1=k
  ·have e':q.1=k:=h1.symm.trans e
   have b:atKey (q::qs) k=some q.2:=by simp[atKey,List.find?_cons,e']
   rw[valV_pos e,b];exact h2
  ·have e':¬q.1=k:=fun z=>e (h1.trans z)
   have b:atKey (q::qs) k=atKey qs k:=by simp[atKey,List.find?_cons,e']
   rw[valV_neg e,b];exact ih
theorem KT.repl{H:Hp}{kvs:List (List Key×V)}{xs:List (List Key×Addr×Value)}(r:KT H kvs xs)(k:List Key){y:V}{u:Value}(ry:RelV y u):
  KT H (kvs.map fun kv=>if kv.1=k then(kv.1,y)else kv) (xs.map (putAt k u)):=by
 induction r with
 |nil=>exact .nil
 | @cons p q ps qs h t ih=>
  rw[List.map_cons,List.map_cons]
  refine .cons ?_ ih
  obtain⟨h1,h2,h3⟩:=h
  unfold putAt
  by_cases e:p.1=k
  ·rw[if_pos e,if_pos (h1.symm.trans e)];exact⟨h1,h2,ry⟩
  ·rw[if_neg e,if_neg (fun z=>e (h1.trans z))];exact⟨h1,h2,h3⟩
theorem KT.put{H:Hp}{kvs:List (List Key×V)}{xs:List (List Key×Addr×Value)}(r:KT H kvs xs)(k:List Key){b:Addr}{y:V}{u:Value}(hb:H b=some (.tup (k.map kV)))(ry:RelV y u):
  KT H (putK kvs k y) (storedH xs k b u):=by
 have e:(kvs.any fun kv=>decide (kv.1=k))=(atKey xs k).isSome:=by
  rw[valV_any,(r.val k).isSome_eq,Option.isSome_map]
 unfold putK storedH
 rw[e]
 by_cases q:(atKey xs k).isSome=true
 ·rw[if_pos q,if_pos q];exact r.repl k ry
 ·rw[if_neg q,if_neg q];exact Paired.snoc r ⟨rfl,hb,ry⟩
theorem KT.keeps{H H':Hp}{kvs:List (List Key×V)}{xs:List (List Key×Addr×Value)}(r:KT H kvs xs)(ht:∀b ys,H b=some (.tup ys)->H' b=some (.tup ys)):KT H' kvs xs:=
 Paired.mapP r fun _ _ z=>⟨z.1,ht _ _ z.2.1,z.2.2⟩
section
variable{P:Program}{w:World}{H:Hp}{h:Heap}{a:Addr}
theorem rd_of{u:HO}(ok:HOk P w H h)(e:Rd H a u):ObjOk P w H h a u:=e.ok ok
theorem dk_rd{kvs:List (Key×V)}(ok:HOk P w H h)(e:Rd H a (.dK kvs)):kvs.length<=sizeLine/\(a==sysModules)=false/\∃vs,KV kvs vs/\h.DictOf (mixKind P w) a vs:=
 show ObjOk P w H h a (.dK kvs)from rd_of ok e
theorem dk_of{kvs:List (Key×V)}(ok:HOk P w H h)(e:H a=some (.dK kvs)):kvs.length<=sizeLine/\(a==sysModules)=false/\∃vs,KV kvs vs/\h.DictOf (mixKind P w) a vs:=dk_rd ok (.inl e)
theorem key_of{ks:List Key}(ok:HOk P w H h)(e:H a=some (.tup (ks.map kV))):(tupleKind (mixKind P w)).is h ks a:=by
 obtain⟨_,its,r,o,h1,h2,n,h3⟩:=(show ObjOk P w H h a (.tup (ks.map kV))from ok a _ e)
 exact⟨o,its.toArray,n,h1,h2,h3,by simpa using items_are r⟩
theorem dt_rd{kvs:List (List Key×V)}(ok:HOk P w H h)(e:Rd H a (.dT kvs)):kvs.length<=sizeLine/\(a==sysModules)=false/\
  ∃xs,KT H kvs xs/\h.DictOfH (tupleKind (mixKind P w)) a xs:=by
 obtain⟨z,y,xs,r,o,es,ep,h1,h2,h3,h4,h5⟩:=(show ObjOk P w H h a (.dT kvs)from rd_of ok e)
 refine⟨z,y,xs,r,o,es,ep,h1,h2,h3,h4,fun x hx=> ?_,h5⟩
 have all:∀{l:List (List Key×V)} {m:List (List Key×Addr×Value)},KT H l m->∀x∈m,(tupleKind (mixKind P w)).is h x.1 x.2.1:=by
  intro l m q
  induction q with
  |nil=>intro x hx;exact nomatch hx
  | @cons p q ps qs hq t ih=>
   intro x hx
   rcases List.mem_cons.mp hx with e|hx
   ·subst e
    exact key_of ok (by rw[<-hq.1];exact hq.2.1)
   ·exact ih x hx
 exact all r x hx
theorem dt_of{kvs:List (List Key×V)}(ok:HOk P w H h)(e:H a=some (.dT kvs)):kvs.length<=sizeLine/\(a==sysModules)=false/\
  ∃xs,KT H kvs xs/\h.DictOfH (tupleKind (mixKind P w)) a xs:=dt_rd ok (.inl e)
end
noncomputable def DGet(H:Hp)(a:Addr)(y:V)(r:Option V):Prop:=
 (∃kvs k,Rd H a (.dK kvs)/\y=kV k/\r=valV kvs k)\/∃kvs k b,Rd H a (.dT kvs)/\y= .ref b/\H b=some (.tup (k.map kV))/\r=valV kvs k
noncomputable def DPut(H:Hp)(a:Addr)(y v:V)(H':Hp):Prop:=
 (∃kvs k,H a=some (.dK kvs)/\y=kV k/\kvs.length<sizeLine/\H'=upd H a (.dK (putK kvs k v)))\/
 ∃kvs k b,H a=some (.dT kvs)/\y= .ref b/\H b=some (.tup (k.map kV))/\kvs.length<sizeLine/\H'=upd H a (.dT (putK kvs k v))
theorem DGet.k{H:Hp}{a:Addr}{kvs:List (Key×V)}{k:Key}(e:H a=some (.dK kvs)):DGet H a (kV k) (valV kvs k):= .inl ⟨kvs,k,.inl e,rfl,rfl⟩
theorem DGet.t{H:Hp}{a b:Addr}{kvs:List (List Key×V)}{k:List Key}(e:H a=some (.dT kvs))(eb:H b=some (.tup (k.map kV))):DGet H a (.ref b) (valV kvs k):= .inr ⟨kvs,k,b,.inl e,rfl,eb,rfl⟩
theorem DPut.k{H:Hp}{a:Addr}{kvs:List (Key×V)}{k:Key}{v:V}(e:H a=some (.dK kvs))(hl:kvs.length<sizeLine):DPut H a (kV k) v (upd H a (.dK (putK kvs k v))):= .inl ⟨kvs,k,e,rfl,hl,rfl⟩
theorem DPut.t{H:Hp}{a b:Addr}{kvs:List (List Key×V)}{k:List Key}{v:V}(e:H a=some (.dT kvs))(eb:H b=some (.tup (k.map kV)))(hl:kvs.length<sizeLine):
  DPut H a (.ref b) v (upd H a (.dT (putK kvs k v))):= .inr ⟨kvs,k,b,e,rfl,eb,hl,rfl⟩
section
variable{X:Cx}{pins:List (Addr×Obj)}{σ:St}{H:Hp}{s:Shared}{a:Addr}{y v:V}{u r:Value}{o:Option V}{A:Around}{E:Value->Shared->Prop}
theorem Inv.big(I:Inv X pins σ H s):sysModules<s.heap.objs.size:=by
 have h:mainGlobals<s.heap.objs.size:=(I.mod.glob.keeps I.bk).lt
 exact Nat.lt_trans (by decide) h
theorem d_getItem{Q:Value->Shared->Prop}(hu:A.units+1<cLine)(I:Inv X pins σ H s)(g:DGet H a y (some v))(ry:RelV y u)(h:∀w' s',Inv X pins σ H s'->RelV v w'->Q w' s'):
  wpAny (model X.prog X.w) A (getItem (.ref a) u) Q E s:=by
 rcases g with⟨kvs,k,e,ey,l⟩|⟨kvs,k,b,e,ey,eb,l⟩
 ·subst ey
  obtain⟨z,hd,vs,rel,dd⟩:=dk_rd I.hok e
  obtain⟨w',hw,rw'⟩:=RelO.some_of (v:=v) (o:=valueAt vs k) (by rw[l];exact rel.val k)
  exact wpAny_getItem_of (kV_is ry) dd.mapOf hw (h w' _ (I.tok _) rw')
 ·subst ey
  cases(show u=Value.ref b from ry)
  obtain⟨z,hd,xs,rel,dd⟩:=dt_rd I.hok e
  obtain⟨w',hw,rw'⟩:=RelO.some_of (v:=v) (o:=(atKey xs k).map (·.2)) (by rw[l];exact rel.val k)
  obtain⟨p,hp,hp2⟩:=Option.map_eq_some_iff.mp hw
  refine wpAny_getItem_heap (tupleKind_room_in1 hu) (key_of I.hok eb) dd hp ?_
  rw[hp2]
  exact h w' _ (I.tok _) rw'
theorem d_write{h':Heap}{t':Nat}{ob:HO}(I:Inv X pins σ H s)(mu:Mut (H a))(hs:Heap.SameBut a s.heap h')(he:∃q,h'.get? a=some q)(new:ObjOk X.prog X.w (upd H a ob) h' a ob):
  Inv X pins σ (upd H a ob) {s with heap:=h',toks:=t'}:=
 I.write (x:=a) (e:=a) mu (.inl rfl) (fun b q hb z=>(hs.2 b hb).trans z) he new
theorem dk_new{P:Program}{w:World}{H':Hp}{h':Heap}{kvs:List (Key×V)}{vs:List (Key×Value)}(z:kvs.length<=sizeLine)(hd:(a==sysModules)=false)(rel:KV kvs vs)(dd:h'.DictOf (mixKind P w) a vs):
  ObjOk P w H' h' a (.dK kvs):=⟨z,hd,vs,rel,dd⟩
theorem d_setItem{H':Hp}{Q:Unit->Shared->Prop}(hu:A.units+1<cLine)(I:Inv X pins σ H s)(g:DPut H a y v H')(ry:RelV y u)(rv:RelV v r)(h:∀s',Inv X pins σ H' s'->Q () s'):
  wpAny (model X.prog X.w) A (setItem (.ref a) u r) Q E s:=by
 rcases g with⟨kvs,k,e,ey,l,eH⟩|⟨kvs,k,b,e,ey,eb,l,eH⟩
 ·subst ey eH
  obtain⟨z,hd,vs,rel,dd⟩:=dk_of I.hok e
  have hz:vs.length<=sizeLine:=by rw[<-rel.length];exact z
  have hl:(putK kvs k v).length<=sizeLine:=by have:=length_putK kvs k v;omega
  refine wpAny_setItem_pairs (hsz:=hz) (kV_is ry) dd fun h' dd' hs=>h _ ?_
  have he:∃q,h'.get? a=some q:=let⟨q,_,_,hq,_⟩:=dd';⟨q,hq⟩
  exact d_write I (by rw[e];exact True.intro) hs he (dk_new hl hd (rel.put k rv) dd')
 ·subst ey eH
  cases(show u=Value.ref b from ry)
  obtain⟨z,hd,xs,rel,dd⟩:=dt_of I.hok e
  have hz:xs.length<=sizeLine:=by rw[<-Paired.length rel];exact z
  have hl:(putK kvs k v).length<=sizeLine:=by have:=length_putK kvs k v;omega
  refine wpAny_setItem_heap (hsz:=hz) (tupleKind_room_in1 hu) (key_of I.hok eb) dd fun h' dd' hs=>h _ ?_
  obtain⟨q,es,ep,hq,h2,h3,h4,_,h5⟩:=dd'
  refine d_write I (by rw[e];exact True.intro) hs ⟨q,hq⟩ ⟨hl,hd,_,(rel.put k eb rv).keeps fun c ys ec=> ?_,q,es,ep,hq,h2,h3,h4,h5⟩
  rw[zap (ne_of ec e (fun z=>nomatch z))]
  exact ec
end
section
variable{X:Cx}{pins:List (Addr×Obj)}{σ:St}{H:Hp}{s:Shared}{a:Addr}{kvs:List (Key×V)}{k:Key}{u:Value}{A:Around}{E:Value->Shared->Prop}
end
noncomputable def NoSl(i:Expr):Prop:=∀ov iv,subscripted i false ov iv=operate [ov,iv] (getItem ov iv)
theorem subD_of{prog:Program}{w:World}{A:Around}{E:Value->Shared->Prop}{s:Shared}{env:Env}{value slice:Expr}{pos:Pos}{T id:String}{Q:Value->Shared->Prop}(hl:typeLookup (.type T) "__getitem__"=pure (some (.builtin id)))(hs:NoSl slice)(h:wpAny (model prog w) A (eval value env) (fun o s₁=>wpAny (model prog w) A (eval slice env) (fun i s₂=>s₂.TypeIs o T/\wpAny (model prog w) A (getItem o i) Q E s₂) E s₁) E s):
  wpAny (model prog w) A (eval (.Subscript value slice pos) env) Q E s:=by
 refine Subscript_ (wpAny_mono h (fun o s₁ h₁=>wpAny_mono h₁ (fun i s₂ h₂=> ?_) fun _ _ x=>x) fun _ _ x=>x)
 obtain⟨hT,h₂⟩:=h₂
 unfold subscriptTail
 refine wpAny_bind ?_
 rw[getitemInPython_of_ne hT.not_modules]
 refine wpAny_bind (wpAny_specialOf hT hl ?_)
 have fin:wpAny (model prog w) A (subscripted slice false o i) (fun r s₃=>wpAny (model prog w) A (letTemporaryGo value o r>>=fun _=>pure r) Q E s₃) E s₂:=by
  rw[hs o i]
  exact wpAny_operating (wpAny_mono h₂ (fun r s₃ h₃=>wpAny_bind (wpAny_letTemporaryGo (wpAny_pure h₃))) fun _ _ x=>x)
 first
  |exact wpAny_pure (wpAny_bind fin)
  |exact wpAny_bind (wpAny_pure (wpAny_bind fin))
  |exact wpAny_bind fin
theorem dict_typeIs{X:Cx}{pins:List (Addr×Obj)}{σ:St}{H:Hp}{s:Shared}{a:Addr}{y:V}{o:Option V}(I:Inv X pins σ H s)(g:DGet H a y o):s.TypeIs (.ref a) "dict":=by
 rcases g with⟨kvs,k,e,_,_⟩|⟨kvs,k,b,e,_,_,_⟩
 ·obtain⟨_,_,vs,_,dd⟩:=dk_rd I.hok e
  exact dd.typeIs
 ·obtain⟨_,_,xs,_,dd⟩:=dt_rd I.hok e
  exact dd.typeIs
noncomputable def tDGet(td ty:TE):TE:=fun σ H Q=>td σ H fun x H1=>ty σ H1 fun y H2=>∃a v,x= .ref a/\DGet H2 a y (some v)/\Q v H2
noncomputable def sDPut(td ty tv:TE):TS:=fun D σ H=>tv σ H fun v H1=>td σ H1 fun x H2=>ty σ H2 fun y H3=>∃a H4,x= .ref a/\DPut H3 a y v H4/\D.nx σ H4
section
variable{X:Cx}{o i e value:Expr}{pos pos' tpos:Pos}{td ty tv:TE}
theorem pe_dget(hu:X.A.units+1<cLine)(ho:PE X o td)(hi:PE X i ty)(hs:NoSl i):PE X (.Subscript o i pos) (tDGet td ty):=by
 intro pins s σ H Q I h
 refine subD_of PySem.F.slot_dict_getitem.lookup hs (thn (ho pins s σ H _ I h) fun u s1 ⟨x,H1,I1,rx,q1⟩=>thn (hi pins s1 σ H1 _ I1 q1) fun iv s2 ⟨y,H2,I2,ry,a,v,ex,g,q2⟩=> ?_)
 subst ex
 obtain rfl:u=Value.ref a:=rx
 exact⟨dict_typeIs I2 g,d_getItem hu I2 g ry fun w' s3 I3 rw'=>⟨v,H2,I3,rw',q2⟩⟩
theorem ps_dput(hu:X.A.units+1<cLine)(ho:PE X o td)(hi:PE X i ty)(hv:PE X value tv)(hs:swapsWith value (some (.Subscript o i pos')) pos.line X.env=pure false):
  PS X (.Assign [.Subscript o i pos'] value pos) (sDPut td ty tv):=by
 intro pins s σ H D I h
 refine wpAny_Assign_Subscript (thn (hv pins s σ H _ I h) fun r s1 ⟨v,H1,I1,rv,q1⟩=>thn (ho pins s1 σ H1 _ I1 q1) fun u s2 ⟨x,H2,I2,rx,q2⟩=>thn (hi pins s2 σ H2 _ I2 q2) fun iv s3 ⟨y,H3,I3,ry,a,H4,ex,g,q3⟩=> ?_) hs
 subst ex
 obtain rfl:u=Value.ref a:=rx
 exact d_setItem hu I3 g ry rv fun s4 I4=>⟨σ,H4,I4,q3⟩
end
theorem dk_empty{P:Program}{w:World}{H:Hp}(h:Heap)(hb:sysModules<h.objs.size):ObjOk P w H (h.push {cls:= .type "dict",data:= .dict #[]}) h.objs.size (.dK []):=
 ⟨Nat.zero_le _,beq_eq_false_iff_ne.mpr (Ne.symm (Nat.ne_of_lt hb)),[],.nil,Heap.DictOf.new h⟩
noncomputable def tDNewK:TE:=fun _ H Q=>∀p,H p=none->Q (.ref p) (upd H p (.dK []))
section
variable{X:Cx}{pos:Pos}
theorem pe_dnewK:PE X (.Dict [] [] pos) tDNewK:=fun pins s σ H Q I h=>
 wpAny_Dict_empty ⟨.ref s.heap.objs.size,_,I.laid (a:=s.heap.objs.size) (o:= .dK []) (t':=s.toks) (fun _ _ q=>Heap.get?_push_of_some _ q) (Nat.le_refl _) (dk_empty s.heap I.big),rfl,h _ (I.hok.fresh (Nat.le_refl _))⟩
end
end L2
namespace PySem
namespace F
theorem owner_rvd:Manifest.owners.lookup (String.ofList ['d','e','s','r','e','v','e','r'].reverse)=some Manifest.sig_reversed:=by kernel_rfl
theorem slot_rvd_next:Slot "reversed" "__next__" "reversed.__next__":=
 .of (owner:="reversed") (n:="__next__") (by rw[typeLookup_type,builtinLookup_eq_fast];kernel_rfl) (by decide+kernel) (by decide+kernel) (by decide+kernel)
  (by first |exact .inl (by decide+kernel)|exact .inr (by decide+kernel)) (by rw[isSubtype_type];kernel_rfl)
theorem entry_rvd_next:entryFor table "reversed.__next__"=some Builtin.«reversed.__next__»:=entryFor_of_tree (by kernel_rfl)
theorem args_rvd_next_1(a:Value):argsOk "reversed.__next__" ⟨[a],[]⟩:=by
 unfold argsOk;rw[signature?_of (id:="reversed.__next__") (n:=['_','_','t','x','e','n','_','_']) (o:=['d','e','s','r','e','v','e','r']) (by kernel_rfl) owner_rvd];kernel_rfl
theorem slot_rvd_iter:Slot "reversed" "__iter__" "reversed.__iter__":=
 .of (owner:="reversed") (n:="__iter__") (by rw[typeLookup_type,builtinLookup_eq_fast];kernel_rfl) (by decide+kernel) (by decide+kernel) (by decide+kernel)
  (by first |exact .inl (by decide+kernel)|exact .inr (by decide+kernel)) (by rw[isSubtype_type];kernel_rfl)
theorem args_rvd_iter_1(a:Value):argsOk "reversed.__iter__" ⟨[a],[]⟩:=by
 unfold argsOk;rw[signature?_of (id:="reversed.__iter__") (n:=['_','_','r','e','t','i','_','_']) (o:=['d','e','s','r','e','v','e','r']) (by kernel_rfl) owner_rvd];kernel_rfl
theorem entry_rvd_iter:entryFor table "reversed.__iter__"=some Builtin.«dict_keyiterator.__iter__»:=
 entryFor_alias (id':="dict_keyiterator.__iter__") (by kernel_rfl) (by first |rfl|decide+kernel|(unfold String.splitOn;simp +decide [String.splitOnAux])) (by decide+kernel) (by kernel_rfl)
theorem tuple_norev:typeLookup (.type "tuple") "__reversed__"=pure none:=by rw[typeLookup_type,builtinLookup_eq_fast];kernel_rfl
end F
section
variable{prog:Program}{w:World}{A:Around}{E:Value->Shared->Prop}{s:Shared}
noncomputable def rvdObj(l:Addr)(i:Int):Obj:={cls:= .type "reversed",data:= .fields #[.ref l,rawInt i]}
noncomputable def Heap.IsRvd(h:Heap)(a l:Addr)(i:Int):Prop:=∃o,h.get? a=some o/\o.cls= .type "reversed"/\o.data= .fields #[.ref l,rawInt i]
theorem Heap.IsRvd.typeIs{a l:Addr}{i:Int}(x:s.heap.IsRvd a l i):s.TypeIs (.ref a) "reversed":=let⟨o,ho,hc,_⟩:=x;⟨o,ho,hc⟩
theorem Heap.IsRvd.at{h h':Heap}{a l:Addr}{i:Int}(x:h.IsRvd a l i)(e:∀o,h.get? a=some o->h'.get? a=some o):h'.IsRvd a l i:=let⟨o,ho,r⟩:=x;⟨o,e _ ho,r⟩
theorem called_rvd:TypeCalled "reversed" "reversed.__new__" "object.__init__":=
 ⟨by decide+kernel,by decide+kernel,⟨_,_,F.mro_reversed⟩,F.made_reversed,by decide+kernel,F.sub_reversed_self,
  .of (owner:="object") (n:="__init__") (by rw[typeLookup_type,builtinLookup_eq_fast];kernel_rfl) (by decide+kernel) (by decide+kernel) (by decide+kernel)
  (by first |exact .inl (by decide+kernel)|exact .inr (by decide+kernel)) (by rw[isSubtype_type];kernel_rfl)⟩
theorem rvd_new_in(l:Addr)(items:Array Value):MeetsIn prog w (Builtin.«reversed.__new__» ⟨[.type "reversed",.ref l],[]⟩) (fun _ R s=>(PyProof.Rows.IsTup s.heap l items/\(items.size:Int)<2^62)/\
  ∀tk,R (.ok (.ret (.ref s.heap.objs.size))) {s with heap:=s.heap.push (rvdObj l ((items.size:Int)-1)),toks:=tk}):= .of_wp fun A R s h=>by
 obtain⟨⟨hl,hz⟩,h⟩:=h
 unfold Builtin.«reversed.__new__»
 refine wpAny_bind (wpAny_of_eq (newClass_reversed _) ?_)
 try dsimp only
 refine wpAny_bind (wpAny_of_eq (a:=()) (by first |rfl|kernel_rfl) ?_)
 refine wpAny_bind (wpAny_of_eq (a:=()) (by first |rfl|kernel_rfl) ?_)
 try dsimp only
 refine wpAny_bind (wpAny_specialOf hl.typeIs F.tuple_norev ?_)
 try dsimp only
 refine wpAny_bind ?_
 show wpAny _ _ (isInstance (Value.ref l) (.type "dict")>>=_) _ _ s
 refine wpAny_bind (wpAny_isInstance hl.typeIs F.sub_tuple_dict ?_)
 show wpAny _ _ (specialOf (Value.ref l) "__getitem__">>=_) _ _ s
 refine wpAny_bind (wpAny_specialOf hl.typeIs F.slot_tuple_getitem.lookup ?_)
 refine wpAny_of_eq (a:=true) (by first |rfl|kernel_rfl) ?_
 show wpAny _ _ (call (.builtin "len") [Value.ref l]>>=_) _ _ s
 refine wpAny_bind (PyProof.Rows.len_tuple hl (by omega) ?_)
 refine wpAny_bind (wpAny_of_eq (a:=some (items.size:Int)) (by first |rfl|kernel_rfl) ?_)
 show wpAny _ _ (Builtin.SmallTypes.newRecord (.type "reversed") [Value.ref l,rawInt ((items.size:Int)-1)]>>=_) _ _ _
 unfold Builtin.SmallTypes.newRecord
 refine wpAny_bind (wpAny_newObj_type (wpAny_pure ?_))
 exact⟨_,rfl,h _⟩
theorem call_reversed_tup{l:Addr}{items:Array Value}{Q:Value->Shared->Prop}(hl:PyProof.Rows.IsTup s.heap l items)(hz:(items.size:Int)<2^62)(h:∀tk,Q (.ref s.heap.objs.size) {s with heap:=s.heap.push (rvdObj l ((items.size:Int)-1)),toks:=tk}):wpAny (model prog w) A (call (.type "reversed") [.ref l]) Q E s:=
 callType_newIn called_rvd (by decide) (F.typeCall_reversed_1 _) (F.newCall_reversed_1 _) (fun obj=>F.args_object_init_2 obj _) F.entry_reversed_new (rvd_new_in l items) ⟨⟨hl,hz⟩,fun tk=>⟨⟨_,Heap.get?_push_size _ rfl,rfl⟩,h tk⟩⟩
theorem next_rvd{it l:Addr}{i:Nat}{items:Array Value}{x:Value}{Q:Option Value->Shared->Prop}(hit:s.heap.IsRvd it l (i:Int))(hl:PyProof.Rows.IsTup s.heap l items)(hx:items[i]? =some x)(hz:(items.size:Int)<2^62)(hQ:∀h' tk,h'.IsRvd it l ((i:Int)-1)->Heap.SameBut it s.heap h'->Q (some x) {s with heap:=h',toks:=tk}):wpAny (model prog w) A (pyNext (.ref it)) Q E s:=by
 obtain⟨o,ho,hc,hd⟩:=id hit
 have hi:i<items.size:=(Array.getElem?_eq_some_iff.mp hx).1
 unfold pyNext
 refine wpAny_bind (wpAny_attempt (wpAny_callSpecial?_slot (name:=Str.ofString "__next__") hit.typeIs F.slot_rvd_next
  (wpAny_call_entry F.slot_rvd_next hit.typeIs F.entry_rvd_next ?_ (F.args_rvd_next_1 _))))
 unfold Builtin.«reversed.__next__»
 refine wpAny_bind (wpAny_of_eq (a:=(Value.ref it,[])) rfl ?_)
 try dsimp only
 refine wpAny_bind (wpAny_field ho hd (x:= .ref l) rfl ?_)
 refine wpAny_bind (wpAny_field ho hd (x:=rawInt (i:Int)) rfl ?_)
 show wpAny _ _ (if(i:Int)<0 then _ else _) _ _ s
 rw[if_neg (by omega)]
 show wpAny _ _ (specialOf (Value.ref l) "__getitem__">>=_) _ _ s
 refine wpAny_bind (wpAny_specialOf hl.typeIs F.slot_tuple_getitem.lookup ?_)
 show wpAny _ _ (mkInt (i:Int)>>=_) _ _ s
 refine wpAny_bind (wpAny_mkInt ?_)
 refine wpAny_bind (wpAny_attempt (PyProof.Rows.getItem_tuple (s:={s with toks:=s.toks+1}) hl (j:=i) (by omega) (by omega) ?_ hx ?_))
 ·unfold seqIndex?
  simp
  omega
 show wpAny _ _ (field (Value.ref it) 1>>=_) _ _ _
 refine wpAny_bind (wpAny_field (s:={s with toks:=s.toks+1}) ho hd (x:=rawInt (i:Int)) rfl ?_)
 show wpAny _ _ (setField (Value.ref it) 1 (rawInt ((i:Int)-1))>>=_) _ _ _
 refine wpAny_bind (wpAny_setField (s:={s with toks:=s.toks+1}) ho hd (by simp) ?_)
 refine wpAny_pure ⟨x,rfl,wpAny_pure (hQ _ _ ?_ (Heap.SameBut.update ..))⟩
 exact⟨_,Heap.get?_update_self _ ho (Obj.isFreed_of_fields (Obj.data_mapFields hd _)),(Obj.cls_mapFields ..).trans hc,by
  rw[Obj.data_mapFields hd];simp⟩
theorem iter_rvd{it l:Addr}{i:Int}{Q:Value->Shared->Prop}(hit:s.heap.IsRvd it l i)(h:Q (.ref it) s):wpAny (model prog w) A (pyIter (.ref it)) Q E s:=by
 refine wpAny_pyIter_slot hit.typeIs F.slot_rvd_iter (wpAny_call_entry F.slot_rvd_iter hit.typeIs F.entry_rvd_iter ?_ (F.args_rvd_iter_1 _))
 show wpAny _ _ (ret (.ref it)) _ _ s
 exact wpAny_pure ⟨_,rfl,"reversed",_,hit.typeIs,F.slot_rvd_next.lookup,h⟩
theorem next_rvd_end{it l:Addr}{Q:Option Value->Shared->Prop}(hh:A.handled=none)(hit:s.heap.IsRvd it l (-1))(hQ:∀h',Heap.ExtBut it s.heap h'->Q none {s with heap:=h'}):wpAny (model prog w) A (pyNext (.ref it)) Q E s:=by
 obtain⟨o,ho,hc,hd⟩:=id hit
 unfold pyNext
 refine wpAny_bind (wpAny_attempt (wpAny_callSpecial?_slot (name:=Str.ofString "__next__") hit.typeIs F.slot_rvd_next
  (wpAny_call_entry F.slot_rvd_next hit.typeIs F.entry_rvd_next ?_ (F.args_rvd_next_1 _))))
 unfold Builtin.«reversed.__next__»
 refine wpAny_bind (wpAny_of_eq (a:=(Value.ref it,[])) rfl ?_)
 try dsimp only
 refine wpAny_bind (wpAny_field ho hd (x:= .ref l) rfl ?_)
 refine wpAny_bind (wpAny_field ho hd (x:=rawInt (-1)) rfl ?_)
 show wpAny _ _ (if(-1:Int)<0 then _ else _) _ _ s
 rw[if_pos (by decide)]
 refine wpAny_bind (wpAny_rule ?_)
 refine wpAny_bind ?_
 show wpAny _ _ (setField (Value.ref it) 1 (rawInt (-1))>>=_) _ _ _
 refine wpAny_bind (wpAny_setField ho hd (by simp) ?_)
 have e1:=Heap.get?_update_self (Obj.mapFields (·.setIfInBounds 1 (rawInt (-1)))) ho (Obj.isFreed_of_fields (Obj.data_mapFields hd _))
 refine wpAny_setField (s:={s with heap:=_}) e1 (Obj.data_mapFields hd _) (by simp) ?_
 first
 |show wpAny _ _ (newExc (.type "StopIteration") []>>=_) _ _ _
 |(refine wpAny_bind ?_;show wpAny _ _ (newExc (.type "StopIteration") []>>=_) _ _ _)
 refine wpAny_bind ?_
 simp only[newExc,newTuple]
 refine wpAny_bind (wpAny_newObj_type ?_ (by size_fits))
 refine wpAny_bind (m:=firstArgMember _ _) (wpAny_of_eq (a:=Value.none) (by first |rfl|(simp only[firstArgMember];rfl)) ?_)
 refine wpAny_newObj_type ?_ (by size_fits)
 simp only[raiseNew]
 refine wpAny_bind (wpAny_handled ?_)
 first |rw[show A.in1.handled=none from hh]|rw[hh]
 refine wpAny_bind (wpAny_pure (wpAny_throw ?_))
 refine wpAny_bind (wpAny_isInstance (T:="StopIteration") (b:=true) ⟨_,Heap.get?_push_size _ rfl,rfl⟩ isSubtype_stop ?_)
 exact wpAny_pure (hQ _ ((((Heap.SameBut.update ..).extBut.trans (Heap.SameBut.update ..).extBut).push _).push _))
end
end PySem
namespace L2
open PySem PySem.Spec PyProof.Rows
noncomputable def Itv(K:W.Frag)(a:Addr)(xs:List V):It:=
 ⟨fun i H=>SqT K H a xs/\i<xs.length,fun i H x H'=>H'=H/\xs.reverse[i]? =some x,fun i H=>SqT K H a xs/\i=xs.length⟩
theorem turn_rev{P:Program}{w:World}{K:W.Frag}{tg:Expr}(a it:Addr)(xs:List V)(hz:xs.length<=sizeLine):Turn P w K tg (Itv K a xs) [it] it (fun i h=>i<=xs.length/\h.IsRvd it a ((xs.length:Int)-1-(i:Int))) where
 mem:=by simp
 obj:=fun i h st b hb=>by
  have e:b=it:=by simpa using hb
  subst e
  obtain⟨_,o,e,c,d⟩:=st
  exact⟨o,e,fun v z=>by rw[d]at z;cases z⟩
 keep:=fun i h h' st k=>⟨st.1,st.2.at fun o e=>k it (by simp) o e⟩
 item:=by
  intro X hP hw hK hc i pins s σ H E I hf st hg
  subst hP hw hK
  obtain⟨hq,hi⟩:=hg
  obtain⟨its,rv,p,_⟩:=I.tuple hq
  have hl:=rv.length
  have hj:xs.length-1-i<xs.length:=by omega
  have hx:xs[xs.length-1-i]? =some xs[xs.length-1-i]:=List.getElem?_eq_getElem hj
  obtain⟨u,hu,ru⟩:=rv.get hx
  obtain⟨f0,f1,f2,f3,f4,f5⟩:=hf it (by simp)
  have e1:(xs.length:Int)-1-(i:Int)=((xs.length-1-i:Nat):Int):=by omega
  have hit:=st.2
  rw[e1]at hit
  rw[sizeLine_eq]at hz
  refine next_rvd hit (show PyProof.Rows.IsTup s.heap a its.toArray from p) (x:=u) (by simpa using hu) (by rw[List.size_toArray];omega) fun h' tk st' sb=> ?_
  have I1:Inv X pins σ H {s with heap:=h',toks:=tk}:=I.turned (t':=tk) (fun b o hb e=>(sb.2 b hb).trans e) f0 f1 f3 f4 f5
  obtain⟨o,e,c,d⟩:=id st'
  have e2:((xs.length-1-i:Nat):Int)-1=(xs.length:Int)-1-((i+1:Nat):Int):=by omega
  rw[e2]at st'
  refine⟨u,rfl,go_of (s:={s with heap:=h',toks:=tk}) e c d (by decide) ⟨xs[xs.length-1-i],H,I1,ru,⟨rfl,?_⟩,⟨hi,st'⟩,fun b hb=>(hf b hb).1⟩⟩
  rw[List.getElem?_reverse hi];exact hx
 done:=by
  intro X hP hw hK hc i pins s σ H E I hf st hg
  subst hP hw hK
  obtain⟨hq,hi⟩:=hg
  obtain⟨f0,f1,f2,f3,f4,f5⟩:=hf it (by simp)
  have e1:(xs.length:Int)-1-(i:Int)= -1:=by omega
  have hit:=st.2
  rw[e1]at hit
  exact next_rvd_end (I.ok.hd hc) hit fun h' eb=>⟨rfl,I.turned (t':=s.toks) (fun b o hb e=>eb b o hb e) f0 f1 f3 f4 f5⟩
 self:=fun _ _ _ _ _ st h=>iter_rvd st.2 h
section
variable{X:Cx}{tg:Expr}
noncomputable def iRev(K:W.Frag)(ta:TA):TI:=fun σ H R=>ta σ H fun vs H1=>∃(a:Addr) (xs:List V),vs=[.ref a]/\SqT K H1 a xs/\(xs.length<=sizeLine->R (Itv K a xs) H1)
theorem pi_rev{a:Expr}{ta:TA}{p pos:Pos}(hg:Gl X "reversed")(hm:X.mg "reversed"=none)(ha:PA X [a] ta)(hs:starEach [a] X.env=[(false,eval a X.env)]:=by rfl):
  PI X tg (.Call (.Name "reversed" p) [a] [] pos) (iRev X.K ta):=by
 intro pins s σ H R I h
 refine Call_ (ld_blt I hg hm (show bootBuiltins "reversed"=some (.type "reversed")from by decide+kernel) (PyProof.Rows.callWith_type1 (thn (ha pos pins s σ H _ I h) fun us s1 ⟨vs,H1,I1,r1,q1⟩=> ?_) hs rfl))
 obtain⟨l,xs,e,hq,q⟩:=q1
 subst e
 cases r1 with
 |cons r rr=>
  cases rr
  cases r
  obtain⟨its,rv,pl,hz⟩:=I1.tuple hq
  have hl:=rv.length
  have hz':=hz
  rw[sizeLine_eq]at hz'
  refine call_reversed_tup (show PyProof.Rows.IsTup s1.heap l its.toArray from pl) (by rw[List.size_toArray];omega) fun tk=> ?_
  have gi:(s1.heap.push (rvdObj l ((its.toArray.size:Int)-1))).IsRvd s1.heap.objs.size l ((its.toArray.size:Int)-1):=⟨_,Heap.get?_push_size _ rfl,rfl,rfl⟩
  refine iter_rvd (s:={s1 with heap:=_,toks:=tk}) gi ?_
  have e1:(its.toArray.size:Int)-1=(xs.length:Int)-1-((0:Nat):Int):=by rw[List.size_toArray];omega
  rw[e1]at gi⊢
  refine⟨s1.heap.objs.size,[s1.heap.objs.size],_,_,H1,rfl,I1.kept (t':=tk) fun b o e=>Heap.get?_push_of_some _ e,turn_rev l _ xs hz,⟨Nat.zero_le _,gi⟩,fun b hb=> ?_,q hz⟩
  have e:b=s1.heap.objs.size:=by simpa using hb
  subst e
  exact I1.fpOk (Nat.le_refl _) (I1.hok.fresh (Nat.le_refl _))
end
theorem for_rev{K:W.Frag}{a:Addr}{xs:List V}{g:TG}{tb:TS}{D:Ends}{σ:St}{H:Hp}(Pv:Nat->St->Hp->Prop)(h0:Pv 0 σ H)(hl:∀i σ H,i<=xs.length->Pv i σ H->SqT K H a xs)(hs:∀i x σ H,xs.reverse[i]? =some x->Pv i σ H->g x σ H fun σ2 H2=>tb {D with nx:=Pv (i+1),ct:=Pv (i+1),bk:=D.nx} σ2 H2)(hd:∀σ H,Pv xs.length σ H->D.nx σ H):
  ∃W:Nat->Nat->St->Hp->Prop,(∃m,W 0 m σ H)/\∀i m σ H,W i m σ H->
   ((Itv K a xs).stop i H/\D.nx σ H)\/((Itv K a xs).go i H/\∃N:St->Hp->Prop,(∀σ' H',N σ' H'->∃m',m'<m/\W (i+1) m' σ' H')/\∀x H',(Itv K a xs).yld i H x H'->g x σ H' fun σ2 H2=>tb {D with nx:=N,ct:=N,bk:=D.nx} σ2 H2):=by
 refine⟨fun i m σ H=>m=xs.length-i/\i<=xs.length/\Pv i σ H,⟨xs.length,by simp,Nat.zero_le _,h0⟩,?_⟩
 rintro i m σ H ⟨rfl,hi,p⟩
 have q:=hl i σ H hi p
 by_cases e:i=xs.length
 ·subst e
  exact .inl ⟨⟨q,rfl⟩,hd σ H p⟩
 ·refine .inr ⟨⟨q,by omega⟩,Pv (i+1),fun σ' H' w=>⟨xs.length-(i+1),by omega,rfl,by omega,w⟩,fun x H' y=> ?_⟩
  obtain⟨rfl,hv⟩:=y
  exact hs i x σ _ hv p
section
variable{X:Cx}
theorem call_minL(hc:X.calm=true):CallR X (.builtin "min") (fun xs H Q=>∃(a:Addr) (ns:List Int),xs=[.ref a]/\SqL X.K H a (ns.map V.int)/\ns≠[]/\∀m∈ns,(∀n∈ns,m<=n)->Q (.int m) H):=by
 intro pins s σ H xs us Q I r h
 obtain⟨a,ns,rfl,hS,hne,q⟩:=h
 obtain⟨u,rfl,ru⟩:=r.one
 cases ru
 obtain⟨vs,rv,pl,hz⟩:=I.list hS
 have hl:=pl.isList
 have hlt:a<s.heap.objs.size:=by obtain⟨_,e,_⟩:=hl;exact Heap.lt_size e
 have hlen:=rv.length
 rw[List.length_map]at hlen
 have hI:∀(i:Nat) (v:Value),vs.toArray[i]? =some v->∃t,v= .int (ns.getD i 0) t:=fun i v hv=>by
  have hv':vs[i]? =some v:=by simpa using hv
  have hi:i<ns.length:=by have:=(List.getElem?_eq_some_iff.mp hv').1;omega
  have hn:(ns.map V.int)[i]? =some (.int (ns.getD i 0)):=by rw[List.getElem?_map,List.getElem?_eq_getElem hi,List.getD_eq_getElem?_getD,List.getElem?_eq_getElem hi];rfl
  obtain⟨u,hu,ru⟩:=rv.get hn
  rw[hv']at hu
  cases hu
  obtain⟨t,rfl⟩:=ru
  exact⟨t,rfl⟩
 refine call_min_walk (wpAny_pyIter_list hl ?_)
 refine⟨s.heap.objs.size,[s.heap.objs.size,a],[s.heap.objs.size],vs.toArray.size,_,_,_,rfl,Walks.list (A:=X.A.in1) (I.ok.hd hc) _ a (Nat.ne_of_lt hlt) vs.toArray,
  ⟨⟨_,Heap.get?_push_size _ rfl,rfl,rfl⟩,hl.push _⟩,?_,?_,CmpOf.ints_lt (fun i=>ns.getD i 0) hI,fun v h' tk hP hk=> ?_⟩
 ·intro b hb
  show b<(s.heap.push _).objs.size
  rw[Heap.size_push]
  rcases List.mem_cons.mp hb with rfl|hb
  ·exact Nat.lt_succ_self _
  ·rw[List.mem_singleton.mp hb];exact Nat.lt_succ_of_lt hlt
 ·rw[List.size_toArray,<-hlen];exact List.length_pos_iff.mpr hne
 ·obtain⟨t,rfl⟩:=hI _ v hP
  obtain⟨h1,h2⟩:=argBest_lt (fun i=>ns.getD i 0) (vs.toArray.size-1)
  have hn0:0<ns.length:=List.length_pos_iff.mpr hne
  have hb:argBest (fun i j=>decide (ns.getD i 0<ns.getD j 0)) (vs.toArray.size-1)<ns.length:=by
   have:vs.toArray.size=ns.length:=by rw[List.size_toArray];omega
   omega
  refine⟨.int _,H,I.kept (LSm.kept_iter hk),⟨t,rfl⟩,q _ ?_ fun n hn=> ?_⟩
  ·rw[List.getD_eq_getElem?_getD,List.getElem?_eq_getElem hb];exact List.getElem_mem hb
  ·obtain⟨j,hj,rfl⟩:=List.getElem_of_mem hn
   have:=h2 j (by rw[List.size_toArray];omega)
   rw[List.getD_eq_getElem?_getD (i:=j),List.getElem?_eq_getElem hj]at this
   exact this
end
end L2
namespace PySem
section
variable{prog:Program}{w:World}{Ky:Type} [DecidableEq Ky]{knd:KeyKind prog w Ky}{A:Around}{E:Value->Shared->Prop}{s:Shared}
theorem hint_dict{d:Addr}{kvs:List (Ky×Value)}{Q:Bool->Shared->Prop}(hm:s.heap.DictOf knd d kvs)(h:Q false s):wpAny (model prog w) A (Builtin.List.listLengthHint (.ref d)) Q E s:=by
 have hT:s.TypeIs (.ref d) "dict":=hm.typeIs
 unfold Builtin.List.listLengthHint
 refine wpAny_bind (wpAny_specialOf hT F.slot_dict_len.lookup ?_)
 generalize hid:("dict.__len__":String)=id0
 wp_delta
 rw[show splitId id0=some ("dict","__len__")from by subst hid;decide+kernel]
 subst hid
 refine wpAny_bind (wpAny_isInstance (T:="dict") (b:=true) hT (by rw[isSubtype_type];kernel_rfl) ?_)
 refine wpAny_ite_split (fun hab=>absurd hab (by decide)) (fun _=> ?_)
 refine wpAny_ite_split (fun _=> ?_) (fun hab=>absurd (by decide+kernel) hab)
 refine wpAny_bind (wpAny_typeOf hT ?_)
 exact wpAny_pure h
theorem extend_dict{R:Result->Shared->Prop}{d:Addr}{kvs:List (Ky×Value)}(hh:A.handled=none)(hd:(d==sysModules)=false)(hm:s.heap.DictOf knd d kvs)(hlen:kvs.length<=2^24)(S:Addr)(res:Value)(c₀:Nat)(hS:s.heap.get? S=some {cls:= .type "list",data:= .seq #[] c₀})(hR:∀h' tk acc' c',(∀b o,b≠S->s.heap.get? b=some o->h'.get? b=some o)->h'.get? S=some {cls:= .type "list",dict:=none,data:= .seq acc' c',slots:=#[]}->
   ItemsOf (fun i v=>∃k x,kvs[i]? =some (k,x)/\knd.is k v=true) acc' kvs.length->R (.ok (.ret res)) {s with heap:=h',toks:=tk}):
  wpAny (model prog w) A.in1 (Builtin.List.listExtendWith (.ref S) (.ref d) res)
   (fun fin s'=>match fin with | .done f=>R (.ok f) s'| .again c'=>c'.quiet=true/\codeAny (model prog w) A c' R s') (fun e s'=>R (.error e) s') s:=by
 obtain⟨od,es,ep,ho,hx,hdat,hk,hp,hn⟩:=id hm
 have hat:s.heap.DictAt knd d kvs ep:=⟨od,es,ho,hx,hdat,hk,hp,hn⟩
 have hSd:S≠d:=fun e=>by
  rw[e,ho]at hS
  cases hS
  cases hdat
 have hSlt:S<s.heap.objs.size:=Heap.lt_size hS
 have hdlt:d<s.heap.objs.size:=Heap.lt_size ho
 have hSI:S≠s.heap.objs.size:=Nat.ne_of_lt hSlt
 have hSf:S∉[s.heap.objs.size,d]:=fun z=>by
  rcases List.mem_cons.mp z with z|z
  ·exact hSI z
  ·exact hSd (List.mem_singleton.mp z)
 have W:=(Walks.dictKeys (prog:=prog) (w:=w) (A:=A.in1) (knd:=knd) hh s.heap.objs.size d (Nat.ne_of_lt hdlt) kvs ep).toS
 have key:∀(h:Heap) (c₁ tk:Nat),h.IsKeyIter s.heap.objs.size d 0 kvs.length ep->h.DictAt knd d kvs ep->(∀b o,b≠S->s.heap.get? b=some o->h.get? b=some o)->
   h.get? S=some {cls:= .type "list",data:= .seq #[] c₁}->codeAny (model prog w) A (.builtin "list.extend.loop" ⟨[.ref S,.ref s.heap.objs.size,res],[]⟩) R {s with heap:=h,toks:=tk}:=by
  intro h c₁ tk hit hda hk' hS₁
  refine codeAny_extend_loopS W (by rw[sizeLine_eq];omega) S hSf res kvs.length 0 _ #[] c₁ rfl (Nat.zero_le _) ⟨hit,hda⟩ hS₁ (ItemsOf.nil _) fun s' acc' c' hmv hS' hacc=> ?_
  rw[Moved.eq_with hmv]
  refine hR s'.heap s'.toks acc' c' (fun b o hb e=>hmv.heap b o (fun hmem=> ?_) (hk' b o hb e)) hS' hacc
  rcases List.mem_cons.mp hmem with e'|hmem
  ·exact hb e'
  ·exact absurd (Heap.lt_size e) (by rw[List.mem_singleton.mp hmem];exact Nat.lt_irrefl _)
 unfold Builtin.List.listExtendWith
 refine wpAny_bind (wpAny_typeOf (T:="dict") hm.typeIs ?_)
 have h1:Builtin.List.listSameRef (.ref S) (.ref d)=false:=by simp[Builtin.List.listSameRef,hSd]
 have h2:(Value.type "dict"==Value.type "list")=false:=by decide
 have h3:(Value.type "dict"==Value.type "tuple")=false:=by decide
 simp only[h1,h2,h3,Bool.or_false,Bool.false_eq_true,if_false]
 refine wpAny_bind (wpAny_pyIter_dict hd hat ?_)
 have g1:=hat.push {cls:= .type "dict_keyiterator",data:= .fields #[.ref d,.int 0 0,.int kvs.length 0,.int ep 0]}
 have g2:(s.heap.push {cls:= .type "dict_keyiterator",data:= .fields #[.ref d,.int 0 0,.int kvs.length 0,.int ep 0]}).DictOf knd d kvs:=let⟨o,es,r1,r2,r3,r4⟩:=g1;⟨o,es,ep,r1,r2,r3,r4⟩
 refine wpAny_bind (wpAny_holding (hint_dict (s:={s with heap:=_}) g2 ?_))
 have hit₁:(s.heap.push {cls:= .type "dict_keyiterator",data:= .fields #[.ref d,.int 0 0,.int kvs.length 0,.int ep 0]}).IsKeyIter s.heap.objs.size d 0 kvs.length ep:=⟨_,Heap.get?_push_size _ rfl,rfl,rfl⟩
 have hS₁:=Heap.get?_push_of_some {cls:= .type "dict_keyiterator",data:= .fields #[.ref d,.int 0 0,.int kvs.length 0,.int ep 0]} hS
 refine wpAny_ite_split (fun _=> ?_) (fun _=>wpAny_pure ⟨plainId_quiet F.plain_extend_loop _,key _ c₀ _ hit₁ g1 (fun b o _ e=>Heap.get?_push_of_some _ e) hS₁⟩)
 refine wpAny_bind (wpAny_rule ?_)
 refine wpAny_bind ?_
 show wpAny _ _ (updateSeq S (·.push .none)>>=fun _=>updateSeq S (·.pop)) _ _ _
 refine wpAny_bind (wpAny_updateSeq hS₁ rfl ?_)
 have hS₂:=Heap.get?_update_self (Obj.mapSeq (·.push Value.none)) hS₁ rfl
 refine wpAny_updateSeq (hz:=by seq_fits) hS₂ rfl ?_
 have hS₃:=Heap.get?_update_self (Obj.mapSeq (·.pop)) hS₂ rfl
 refine wpAny_pure ⟨plainId_quiet F.plain_extend_loop _,key _ _ _ (hit₁.at fun o e=> ?_) (g1.at' fun o e=> ?_) (fun b o hb e=> ?_) hS₃⟩
 ·exact(Heap.get?_update_other _ _ hSI).trans ((Heap.get?_update_other _ _ hSI).trans e)
 ·exact(Heap.get?_update_other _ _ hSd).trans ((Heap.get?_update_other _ _ hSd).trans e)
 ·exact(Heap.get?_update_other _ _ (Ne.symm hb)).trans ((Heap.get?_update_other _ _ (Ne.symm hb)).trans (Heap.get?_push_of_some _ e))
theorem call_list_dict{Q:Value->Shared->Prop}{d:Addr}{kvs:List (Ky×Value)}(hh:A.handled=none)(hd:(d==sysModules)=false)(hm:s.heap.DictOf knd d kvs)(hlen:kvs.length<=2^24)(hQ:∀h' tk acc' c',(∀b o,s.heap.get? b=some o->h'.get? b=some o)->
   h'.get? s.heap.objs.size=some {cls:= .type "list",dict:=none,data:= .seq acc' c',slots:=#[]}->ItemsOf (fun i v=>∃k x,kvs[i]? =some (k,x)/\knd.is k v=true) acc' kvs.length->Q (.ref s.heap.objs.size) {s with heap:=h',toks:=tk}):
  wpAny (model prog w) A (call (.type "list") [.ref d]) Q E s:=by
 refine callType_codes (Q₁:=fun obj s₁=>obj= .ref s.heap.objs.size/\s₁={s with heap:=s.heap.push {cls:= .type "list",data:= .seq #[]}}) F.called_list (F.typeCall_list_1 _) F.entry_list_init
  (code_list_new _ ⟨rfl,rfl⟩) fun obj s₁ h₁=> ?_
 obtain⟨rfl,rfl⟩:=h₁
 have hS:(s.heap.push {cls:= .type "list",data:= .seq #[]}).get? s.heap.objs.size=some {cls:= .type "list",data:= .seq #[]}:=Heap.get?_push_size _ rfl
 obtain⟨od,es,ep,ho,r⟩:=id hm
 have hm':(s.heap.push {cls:= .type "list",data:= .seq #[]}).DictOf knd d kvs:=⟨od,es,ep,Heap.get?_push_of_some _ ho,r⟩
 refine⟨⟨_,hS,rfl⟩,F.args_list_init_2 _ _,?_⟩
 show wpAny _ _ (do let old<-Builtin.List.listItems (.ref s.heap.objs.size);Builtin.List.listUpdate (.ref s.heap.objs.size) (fun _=>#[]);letGo old.toList.reverse;Builtin.List.listExtendWith (.ref s.heap.objs.size) (.ref d) .none) _ _ _
 refine wpAny_bind ?_
 unfold Builtin.List.listItems
 refine wpAny_bind (wpAny_seqItems hS rfl (wpAny_pure ?_))
 show wpAny _ _ (updateSeq s.heap.objs.size (fun _=>#[])>>=fun _=>letGo (#[]:Array Value).toList.reverse>>=fun _=>Builtin.List.listExtendWith (.ref s.heap.objs.size) (.ref d) .none) _ _ _
 refine wpAny_bind (wpAny_updateSeq hS rfl ?_)
 have hS₂:=Heap.get?_update_self (Obj.mapSeq (fun _=>(#[]:Array Value))) hS rfl
 have oth:∀b o,b≠s.heap.objs.size->(s.heap.push {cls:= .type "list",data:= .seq #[]}).get? b=some o->((s.heap.push {cls:= .type "list",data:= .seq #[]}).update s.heap.objs.size (Obj.mapSeq (fun _=>(#[]:Array Value)))).get? b=some o:=
  fun b o hb e=>(Heap.get?_update_other _ _ (Ne.symm hb)).trans e
 refine wpAny_bind (wpAny_letGo ?_)
 have hm2:((s.heap.push {cls:= .type "list",data:= .seq #[]}).update s.heap.objs.size (Obj.mapSeq (fun _=>(#[]:Array Value)))).DictOf knd d kvs:=⟨od,es,ep,oth d _ (Nat.ne_of_lt (Heap.lt_size ho)) (Heap.get?_push_of_some _ ho),r⟩
 refine extend_dict (A:=A.in1) (knd:=knd) hh hd hm2 hlen s.heap.objs.size .none _ hS₂ fun h' tk acc' c' hk hS' hacc=> ?_
 exact⟨rfl,hQ h' tk acc' c' (fun b o e=>hk b o (Nat.ne_of_lt (Heap.lt_size e)) (oth b o (Nat.ne_of_lt (Heap.lt_size e)) (Heap.get?_push_of_some _ e))) hS' hacc⟩
end
end PySem
namespace L2
open PySem PySem.Spec PyProof.Rows
section
variable{X:Cx}
theorem call_listD(hc:X.calm=true):CallR X (.type "list") (fun xs H Q=>∃(a:Addr) (kvs:List (Key×V)) (ns:List Int),xs=[.ref a]/\H a=some (.dK kvs)/\kvs.length<=1000/\kvs.map (·.1)=ns.map Sum.inl/\∀l,H l=none->Q (.ref l) (upd H l (.lst (ns.map V.int)))):=by
 intro pins s σ H xs us Q I r h
 obtain⟨a,kvs,ns,rfl,ha,hl,hn,q⟩:=h
 obtain⟨u,rfl,rx⟩:=vals1 r
 cases rx
 obtain⟨z,hd,vs,rel,dd⟩:=dk_of I.hok ha
 have hkv:vs.map (·.1)=ns.map Sum.inl:=by rw[<-rel.keys];exact hn
 have hlen:=rel.length
 refine call_list_dict (I.ok.hd hc) hd dd (by omega) fun h' tk acc c hk hS hacc=> ?_
 have nl:ns.length=vs.length:=by
  have:=congrArg List.length hkv
  rw[List.length_map,List.length_map]at this
  exact this.symm
 have hv:Vals (ns.map V.int) acc.toList:=by
  have aux:∀(ms:List Int) (us:List Value),us.length=ms.length->(∀(i:Nat) (v:Value),us[i]? =some v->∃t,v= .int (ms.getD i 0) t)->Vals (ms.map V.int) us:=by
   intro ms
   induction ms with
   |nil=>intro us h1 _;rw[List.eq_nil_of_length_eq_zero h1];exact .nil
   |cons m ms ih=>
    intro us h1 h2
    rcases us with _|⟨v,us⟩
    ·cases h1
    ·obtain⟨t,rfl⟩:=h2 0 v rfl
     exact .cons ⟨t,rfl⟩ (ih us (Nat.succ.inj h1) fun i v hv=>h2 (i+1) v hv)
  refine aux ns acc.toList (by rw[Array.length_toList,hacc.1];omega) fun i v hv=> ?_
  obtain⟨k,x,hk1,hk2⟩:=hacc.2 i v (by simpa using hv)
  have e1:(vs.map (·.1))[i]? =some k:=by rw[List.getElem?_map,hk1];rfl
  rw[hkv,List.getElem?_map]at e1
  cases en:ns[i]? with
  |none=>rw[en]at e1;cases e1
  |some n=>
   rw[en]at e1
   injection e1 with e1
   subst e1
   have hg:ns.getD i 0=n:=by rw[List.getD_eq_getElem?_getD,en];rfl
   rw[hg]
   rcases zbv (show keyIs (Sum.inl n) v=true from hk2)with⟨j,t,e,rfl⟩|⟨y,t,e,rfl⟩
   ·injection e with e;subst e;exact⟨t,rfl⟩
   ·cases e
 have hz:(ns.map V.int).length<=sizeLine:=by rw[List.length_map,sizeLine_eq];omega
 exact⟨.ref _,_,I.laid (t':=tk) (o:= .lst (ns.map V.int)) hk (Nat.le_refl _) ⟨hz,acc.toList,c,hv,by simpa using hS⟩,rfl,q _ (I.hok.fresh (Nat.le_refl _))⟩
end
end L2
namespace L2
open PySem
noncomputable def Rise(xs:Array Nat):Prop:=xs.toList.Pairwise (· < ·)
theorem Rise.at{xs:Array Nat}(h:Rise xs){i k:Nat}(hk:k<xs.size)(hik:i<k):xs.toList[i]'(by simp;omega)<xs.toList[k]'(by simpa using hk):=List.pairwise_iff_getElem.mp h i k _ _ hik
theorem getD_at{xs:Array Nat}{i d:Nat}(h:i<xs.size):xs.getD i d=xs.toList[i]'(by simpa using h):=by
 rw[Array.getElem_toList]
 simp[Array.getD,h]
theorem below_go{xs:Array Nat}(hx:Rise xs)(j:Nat):∀(fuel lo hi:Nat),lo<=hi->hi<=xs.size->hi-lo<=fuel->(∀i (h:i<xs.size),i<lo->xs.toList[i]'(by simpa using h)<j)->(∀i (h:i<xs.size),hi<=i->j<=xs.toList[i]'(by simpa using h))->
  SetTable.below.go xs j fuel lo hi<=xs.size/\(∀i (h:i<xs.size),i<SetTable.below.go xs j fuel lo hi->xs.toList[i]'(by simpa using h)<j)/\(∀i (h:i<xs.size),SetTable.below.go xs j fuel lo hi<=i->j<=xs.toList[i]'(by simpa using h))
 |0,lo,hi,h1,h2,h3,a,b=>by
  have e:lo=hi:=by omega
  subst e
  unfold SetTable.below.go
  exact⟨h2,a,b⟩
 |fuel+1,lo,hi,h1,h2,h3,a,b=>by
  unfold SetTable.below.go
  by_cases c:lo<hi
  ·rw[if_pos c]
   have hm:(lo+hi)/2<xs.size:=by omega
   dsimp only
   rw[getD_at hm]
   by_cases q:xs.toList[(lo+hi)/2]'(by simpa using hm)<j
   ·rw[if_pos q]
    refine below_go hx j fuel _ hi (by omega) h2 (by omega) (fun i hi' hlt=> ?_) b
    by_cases e:i=(lo+hi)/2
    ·subst e;exact q
    ·exact Nat.lt_trans (hx.at hm (by omega)) q
   ·rw[if_neg q]
    refine below_go hx j fuel lo _ (by omega) (by omega) (by omega) a (fun i hi' hle=> ?_)
    by_cases e:i=(lo+hi)/2
    ·subst e;omega
    ·have:=hx.at hi' (show(lo+hi)/2<i by omega)
     omega
  ·rw[if_neg c]
   have e:lo=hi:=by omega
   subst e
   exact⟨h2,a,b⟩
theorem below_ok{xs:Array Nat}(hx:Rise xs)(j:Nat):SetTable.below xs j<=xs.size/\(∀i (h:i<xs.size),i<SetTable.below xs j->xs.toList[i]'(by simpa using h)<j)/\(∀i (h:i<xs.size),SetTable.below xs j<=i->j<=xs.toList[i]'(by simpa using h)):=
 below_go hx j xs.size 0 xs.size (Nat.zero_le _) (Nat.le_refl _) (Nat.le_refl _) (fun i _ h=>absurd h (Nat.not_lt_zero _)) (fun i h h'=>absurd h (Nat.not_lt.mpr h'))
theorem insert_list{α:Type}(xs:Array α)(p:Nat)(x:α):(SetTable.insertAt xs p x).toList=xs.toList.take p++x::xs.toList.drop p:=by
 unfold SetTable.insertAt
 simp
 exact List.take_of_length_le (by simp)
theorem insert_rise{xs:Array Nat}(hx:Rise xs){j:Nat}(hn:xs[SetTable.below xs j]? ≠some j):Rise (SetTable.insertAt xs (SetTable.below xs j) j):=by
 obtain⟨b1,b2,b3⟩:=below_ok hx j
 unfold Rise
 rw[insert_list,List.pairwise_append]
 have lt1:∀a∈xs.toList.take (SetTable.below xs j),a<j:=fun a ha=>by
  obtain⟨i,hi,e⟩:=List.mem_take_iff_getElem.mp ha
  rw[<-e]
  exact b2 i (by simp at hi;omega) (by omega)
 have lt2:∀a∈xs.toList.drop (SetTable.below xs j),j<a:=fun a ha=>by
  obtain⟨i,hi,e⟩:=List.mem_drop_iff_getElem.mp ha
  have hs0:i+SetTable.below xs j<xs.size:=by simpa using hi
  have hs:SetTable.below xs j+i<xs.size:=by omega
  have z:=b3 (SetTable.below xs j+i) hs (Nat.le_add_right _ _)
  have e':xs.toList[SetTable.below xs j+i]'(by simpa using hs)=a:=by rw[<-e]
  rw[e']at z
  by_cases c:i=0
  ·subst c
   refine Nat.lt_of_le_of_ne z fun ej=>hn ?_
   rw[<-Array.getElem?_toList,List.getElem?_eq_getElem (by simpa using hs)]
   exact congrArg some (e'.trans ej.symm)
  ·have hs0:SetTable.below xs j<xs.size:=by omega
   have z0:=b3 (SetTable.below xs j) hs0 (Nat.le_refl _)
   have:=hx.at hs (show SetTable.below xs j<SetTable.below xs j+i by omega)
   rw[e']at this
   omega
 refine⟨hx.sublist (List.take_sublist _ _),List.pairwise_cons.mpr ⟨lt2,hx.sublist (List.drop_sublist _ _)⟩,fun a ha b hb=> ?_⟩
 rcases List.mem_cons.mp hb with e|e
 ·rw[e];exact lt1 a ha
 ·exact Nat.lt_trans (lt1 a ha) (lt2 b e)
structure TabOk(b:Bool)(t:SetTable):Prop where
 rise:Rise t.place
 nod:t.dummies=#[]
 led:t.led=b
theorem has_none(j:Nat):SetTable.has #[] j=false:=by
 unfold SetTable.has
 simp
theorem slot_empty{t:SetTable}{j:Nat}(h:t.slot j= .empty):t.place[SetTable.below t.place j]? ≠some j:=fun e=>by
 unfold SetTable.slot at h
 dsimp only at h
 rw[e]at h
 simp at h
theorem probe_go{t:SetTable}(ht:t.dummies=#[])(ha:Nat->Int)(h:Int):∀(fuel:Nat) (p:SetTable.Probe) (j:Nat) (d:Option Nat),p.dummy=none->SetTable.probe.go t ha h fuel p=some (.empty j d)->d=none/\t.slot j= .empty
 |0,p,j,d,_,e=>by unfold SetTable.probe.go at e;cases e
 |fuel+1,p,j,d,hp,e=>by
  unfold SetTable.probe.go at e
  have adv:(t.advance p).dummy=none:=by
   unfold SetTable.advance
   split
   ·exact hp
   ·exact hp
  cases z:t.slot p.j with
  |empty=>
   rw[z]at e
   cases e
   exact⟨hp,z⟩
  |dummy=>
   exfalso
   unfold SetTable.slot at z
   dsimp only at z
   rw[ht,has_none]at z
   split at z
   ·cases z
   ·simp at z
  |live i=>
   rw[z]at e
   dsimp only at e
   split at e
   ·cases e
   ·exact probe_go ht ha h fuel _ j d adv e
theorem range_rise(n:Nat):Rise (Array.range n):=by
 unfold Rise
 rw[Array.toList_range]
 exact List.pairwise_lt_range
theorem standIn_ok{b:Bool}{t:SetTable}(h:TabOk b t)(n:Nat):TabOk b (t.standIn n):=⟨range_rise n,rfl,h.led⟩
theorem lay_ok{b:Bool}{t:SetTable}(h:TabOk b t)(es:Array (Int×Value))(hh:Int)(x:Value):TabOk b (layNew t es hh x).2.1:=by
 unfold layNew
 cases z:t.freeSlot hh with
 |none=>exact standIn_ok h _
 |some q=>
  obtain⟨slot,was⟩:=q
  have emp:t.slot slot= .empty:=by
   unfold SetTable.freeSlot SetTable.probe at z
   cases y:SetTable.probe.go t (fun _=>hh+1) hh (10*SetTable.turns t.mask) (t.probeStart hh)with
   |none=>rw[y]at z;cases z
   |some m=>
    rw[y]at z
    cases m with
    |candidate _ _ _=>cases z
    |empty j d=>
     obtain⟨rfl,e⟩:=probe_go h.nod _ _ _ _ _ _ rfl y
     cases z
     exact e
  have put_ok:TabOk b (t.put slot).1:=by
   refine⟨insert_rise h.rise (slot_empty emp),?_,h.led⟩
   show(if SetTable.has t.dummies slot then _ else t.dummies)=#[]
   rw[h.nod,has_none]
   rfl
  dsimp only
  unfold SetTable.orStandIn
  split
  ·exact put_ok
  ·exact standIn_ok put_ok _
theorem laid_ok{mask finger moves:Nat}{b plain:Bool}{hs:Array Int}{t':SetTable}{order:Array Nat}(e:SetTable.laid mask finger moves b plain hs=some (t',order)):TabOk b t':=by
 unfold SetTable.laid at e
 cases z:SetTable.layClean mask hs with
 |none=>rw[z]at e;cases e
 |some owner=>
  rw[z]at e
  cases e
  refine⟨?_,rfl,rfl⟩
  unfold Rise
  show(((List.range (mask+1)).filterMap fun j=>(owner.getD j none).map (j, ·)).map (·.1)).Pairwise (· < ·)
  rw[List.map_filterMap]
  refine List.Pairwise.filterMap _ (R:=(· < ·)) (fun a a' haa' c hc c' hc'=> ?_) List.pairwise_lt_range
  cases y:owner.getD a none with
  |none=>simp[y]at hc
  |some k=>
   cases y':owner.getD a' none with
   |none=>simp[y']at hc'
   |some k'=>
    simp[y]at hc
    simp[y']at hc'
    omega
theorem relay_ok{b:Bool}{t:SetTable}(h:TabOk b t)(es:Array (Int×Value))(wanted:Nat):TabOk b (relayAll t es wanted).2.1:=by
 unfold relayAll
 cases z:t.relaid (es.map (·.1)) wanted with
 |none=>exact standIn_ok h _
 |some q=>
  obtain⟨t',order⟩:=q
  dsimp only
  split
  ·unfold SetTable.relaid at z
   have:=laid_ok z
   rw[h.led]at this
   exact this
  ·exact standIn_ok h _
theorem unplain_ok{b:Bool}{t:SetTable}(h:TabOk b t):TabOk b {t with plain:=false}:=⟨h.rise,h.nod,h.led⟩
end L2
namespace PySem
namespace F
end F
end PySem
namespace PySem
open L2 (TabOk Rise)
section
variable{prog:Program}{w:World}{A:Around}{E:Value->Shared->Prop}{s:Shared}
structure SetAt(w:World)(h:Heap)(d:Addr)(es:Array (Int×Value))(ep:Nat)(t:SetTable):Prop where
 ob:∃o,h.get? d=some o/\o.ExactSet/\o.data= .set es ep t
 fits:t.fits es.size=true
 tab:TabOk (!w.params.followText "set-order") t
theorem SetAt.at{h h':Heap}{d:Addr}{es:Array (Int×Value)}{ep:Nat}{t:SetTable}(S:SetAt w h d es ep t)(e:∀o,h.get? d=some o->h'.get? d=some o):SetAt w h' d es ep t:=
 let⟨o,ho,r⟩:=S.ob;⟨⟨o,e _ ho,r⟩,S.fits,S.tab⟩
theorem SetAt.typeIs{d:Addr}{es:Array (Int×Value)}{ep:Nat}{t:SetTable}(S:SetAt w s.heap d es ep t):s.TypeIs (.ref d) "set":=let⟨o,ho,hx,_⟩:=S.ob;⟨o,ho,hx.1⟩
noncomputable def IsSetIter(h:Heap)(I d:Addr)(first:Value)(i n ep:Nat):Prop:=∃o,h.get? I=some o/\o.cls= .type "set_iterator"/\o.data= .fields #[first,.int i 0,.ref d,.int n 0,.int ep 0]
theorem IsSetIter.at{h h':Heap}{I d:Addr}{first:Value}{i n ep:Nat}(x:IsSetIter h I d first i n ep)(e:∀o,h.get? I=some o->h'.get? I=some o):IsSetIter h' I d first i n ep:=let⟨o,ho,r⟩:=x;⟨o,e _ ho,r⟩
theorem IsSetIter.typeIs{I d:Addr}{first:Value}{i n ep:Nat}(x:IsSetIter s.heap I d first i n ep):s.TypeIs (.ref I) "set_iterator":=let⟨o,ho,hc,_⟩:=x;⟨o,ho,hc⟩
end
end PySem
namespace PySem
open L2 (TabOk Rise)
section
variable{prog:Program}{w:World}{A:Around}{E:Value->Shared->Prop}{s:Shared}
theorem SetAt.push{h:Heap}{d:Addr}{es:Array (Int×Value)}{ep:Nat}{t:SetTable}(S:SetAt w h d es ep t)(o:Obj):SetAt w (h.push o) d es ep t:=S.at fun _ e=>Heap.get?_push_of_some _ e
end
end PySem
namespace PySem
open L2 (TabOk Rise lay_ok relay_ok unplain_ok)
section
variable{prog:Program}{w:World}{A:Around}{E:Value->Shared->Prop}{s:Shared}
noncomputable def SetG(prog:Program)(w:World)(h:Heap)(d:Addr)(S:Int->Bool)(n:Nat):Prop:=
 ∃o es ep t,h.get? d=some o/\o.ExactSet/\o.data= .set es ep t/\ElemsOf (intKind prog w) es.toList/\(∀k,S k=true↔∃e∈es.toList,(intKind prog w).is k e.2=true)/\es.size<scanBound/\t.fits es.size=true/\es.size=n/\TabOk (!w.params.followText "set-order") t
theorem SetG.at{h h':Heap}{d:Addr}{S:Int->Bool}{n:Nat}(g:SetG prog w h d S n)(e:∀o,h.get? d=some o->h'.get? d=some o):SetG prog w h' d S n:=let⟨o,es,ep,t,ho,r⟩:=g;⟨o,es,ep,t,e _ ho,r⟩
theorem SetG.congr{h:Heap}{d:Addr}{S S':Int->Bool}{n n':Nat}(g:SetG prog w h d S n)(e:∀k,S k=S' k)(en:n=n'):SetG prog w h d S' n':=by
 have:S=S':=funext e
 subst this;subst en;exact g
end
end PySem
namespace L2
open PySem PySem.Spec PyProof.Rows
section
variable{prog:Program}{w:World}{A:Around}{E:Value->Shared->Prop}{s:Shared}
end
section
variable{prog:Program}{w:World}{A:Around}{R:Result->Shared->Prop}{I:Addr}{fp wr:List Addr}{G:Array GenState->Array GenState->Prop}{n:Nat}{P:Nat->Value->Prop}{St:Nat->Shared->Prop}
end
section
variable{prog:Program}{w:World}{A:Around}{E:Value->Shared->Prop}{s:Shared}
end
end L2
namespace Srt
open PySem PySem.W PyProof.Rows PySem.Calls
section
variable{prog:Program}{w:World}{A:Around}{E:Value->Shared->Prop}{s:Shared}
end
end Srt
namespace L2
open PySem PySem.Spec PyProof.Rows
noncomputable def iv:Value->Int
 | .int k _=>k
 |_=>0
section
variable{prog:Program}{w:World}{A:Around}{E:Value->Shared->Prop}{s:Shared}
end
end L2
namespace Srt
open PySem PySem.W PyProof.Rows PySem.Calls
section
variable{prog:Program}{w:World}{A:Around}{E:Value->Shared->Prop}{s:Shared}
end
end Srt
namespace L2
open PySem PySem.Spec PyProof.Rows
section
variable{X:Cx}{a:Expr}{ta:TA}{p p' pos pos':Pos}
end
end L2
namespace L2
open PySem PySem.Spec PyProof.Rows
section
variable{prog:Program}{w:World}{A:Around}{E:Value->Shared->Prop}{s:Shared}
theorem tup_index{t:Addr}{items:Array Value}{ns:List Int}{k:Int}{tk:Tok}{Q:Value->Shared->Prop}(hl:IsTup s.heap t items)(hi:IntsAre items.toList ns)(hk:k∈ns)(h:Q (.int (ns.idxOf k:Nat) s.toks) {s with toks:=s.toks+1}):
  wpAny (model prog w) A (call (.builtin "tuple.index") [.ref t,.int k tk]) Q E s:=by
 obtain⟨o,ho,hc,n,hd⟩:=hl
 refine wpAny_call_entry F.slot_tuple_index ⟨o,ho,hc⟩ F.entry_tuple_index ?_ (F.args_tuple_index_2 _ _)
 unfold Builtin.«tuple.index»
 refine wpAny_bind (wpAny_pure ?_)
 refine wpAny_bind (wpAny_tupleItemsOf ho hd ?_)
 have hlen:items.toList.length=ns.length:=hi.length
 have hsz:items.size=ns.length:=by rw[<-hlen];exact Array.length_toList.symm
 have hj:ns.idxOf k<ns.length:=List.idxOf_lt_length_iff.mpr hk
 refine wpAny_bind (wpAny_pure ?_)
 refine wpAny_bind (wpAny_pure ?_)
 refine wpAny_bind ?_
 rw[Std.Legacy.Range.forIn_eq_forIn_range']
 have hm:min items.size items.size=items.size:=Nat.min_self _
 show wpAny _ _ (forIn (List.range' 0 ((min items.size items.size-0+1-1)/1) 1) _ _) _ _ _
 rw[hm,Nat.sub_zero,Nat.add_sub_cancel,Nat.div_one]
 refine wpAny_forIn_list _ (fun rest b s'=>b.1=none/\s'=s/\∃i,i<=ns.idxOf k/\rest=List.range' i (items.size-i)) _ ?_ ?_ _ _ ⟨rfl,rfl,0,Nat.zero_le _,by rw[Nat.sub_zero]⟩
 ·rintro x rest b s' ⟨hb,rfl,i,hij,hr⟩
  have hlt:i<items.size:=by omega
  have e1:items.size-i=(items.size-(i+1))+1:=by omega
  rw[e1,List.range'_succ]at hr
  injection hr with hx hr
  subst hx
  have hi2:items[x]? =some items[x]:=Array.getElem?_eq_getElem hlt
  show wpAny _ _ (match items[x]? with |some y=>_|x=>_) _ _ _
  rw[hi2]
  refine wpAny_bind ((eq_isInt k tk hi items[x] (by simp)).at _ _ prog w _ _ ?_)
  have e2:=isInt_at k hi x (by omega) (by omega)
  have e3:items.toList[x]'(by omega)=items[x]:=by simp
  rw[e3]at e2
  rw[e2]
  by_cases he:ns[x]'(by omega)=k
  ·have ex:x=ns.idxOf k:=by
    rcases Nat.lt_or_eq_of_le hij with z|z
    ·have:=ne_of_lt_idxOf z (by omega)
     rw[beq_eq_false_iff_ne]at this
     exact absurd he this
    ·exact z
   rw[if_pos (by rw[he];exact beq_self_eq_true k)]
   rw[<-ex]at h
   refine wpAny_bind ?_
   show wpAny _ _ (do ret (<-mkInt _)) _ _ _
   exact wpAny_bind (wpAny_mkInt (wpAny_pure (wpAny_pure (wpAny_pure ⟨_,rfl,h⟩))))
  ·rw[if_neg (by rw[beq_iff_eq];exact he)]
   refine wpAny_pure ⟨rfl,rfl,x+1,?_,hr⟩
   rcases Nat.lt_or_eq_of_le hij with z|z
   ·exact z
   ·exact absurd (by subst z;exact List.getElem_idxOf hj) he
 ·rintro b s' ⟨hb,rfl,i,hij,hr⟩
  have:items.size-i=0:=by
   have:=congrArg List.length hr
   simpa using this.symm
  omega
end
section
variable{X:Cx}{o e:Expr}{to:TE}{t:TA}{apos cpos:Pos}
theorem call_tuple_ofF:CallR X (.type "tuple") (fun xs H Q=>∃p ys,xs=[.ref p]/\SqL X.K H p ys/\∀l ob,H l=none->ob.dict=none->Q (.ref l) (upd H l (.frz ob (.tup ys)))):=by
 intro pins s σ H xs us Q I r h
 obtain⟨p,ys,rfl,hq,q⟩:=h
 obtain⟨u,rfl,rx⟩:=vals1 r
 cases rx
 obtain⟨its,r',pl,hz⟩:=I.list hq
 have hlen:=r'.length
 refine call_tuple_list pl.isList (fun h' kp=> ?_) (by simp only[List.size_toArray]<;>omega)
 have I1:Inv X pins σ H {s with heap:=h'}:=I.kept (t':=s.toks) kp
 have I2:Inv X pins σ (upd H h'.objs.size (.frz {cls:= .type "tuple",data:= .seq its.toArray} (.tup ys))) {s with heap:=h'.push {cls:= .type "tuple",data:= .seq its.toArray}}:=
  I1.laid (t':=s.toks) (fun b o e=>Heap.get?_push_of_some _ e) (Nat.le_refl _) (show ObjOk X.prog X.w _ _ _ (.frz _ (.tup ys))from⟨Heap.get?_push_size _ rfl,hz,its,r',IsTup.new _ _⟩)
 exact⟨.ref h'.objs.size,_,I2,rfl,q _ _ (I1.hok.fresh (Nat.le_refl _)) rfl⟩
noncomputable def tTix(to:TE)(t:TA):TE:=fun σ H Q=>to σ H fun x H1=>(∃(a:Addr) (ob:Obj) (u:HO),x= .ref a/\H1 a=some (.frz ob u)/\ob.dict=none/\∃xs:List Int,u= .tup (xs.map V.int)/\t σ H1 fun vs H2=>∃k:Int,vs=[.int k]/\H2 a=some (.frz ob u)/\k∈xs/\Q (.int (xs.idxOf k:Nat)) H2)
theorem pe_tix(ho:PE X o to)(ha:PA X [e] t)(hbase:attributeBase o "index" X.env (eval o X.env)=eval o X.env:=by rfl)(hfew:((backTo cpos (starEach [e] X.env)).all (fun x=> !x.1)&&(backToKw cpos (keywordEach [] X.env)).all (fun x=>x.1.isSome)
   &&decide ([e].length+([]:List Keyword).length+(if([]:List Keyword).isEmpty then 0 else 1)<30))=true:=by rfl)(hline:(apos.endLine==cpos.line)=true:=by rfl)(hs:starEach [e] X.env=[(false,eval e X.env)]:=by rfl):
  PE X (.Call (.Attribute o "index" apos) [e] [] cpos) (tTix to t):=by
 intro pins s σ H Q I h
 refine wpAny_Call_method_late hbase hfew hline rfl (thn (ho pins s σ H _ I h) fun v s1 ⟨x,H1,I1,r1,a,ob,u,hx,ha1,hd,xs,hu,q1⟩=> ?_)
 subst hx
 cases r1
 obtain⟨g1,_⟩:=(show ObjOk X.prog X.w H1 s1.heap a (.frz ob u)from I1.hok a _ ha1)
 have hT1:SqT X.K H1 a (xs.map V.int):= .inl (.inr ⟨ob,by rw[ha1,hu]⟩)
 obtain⟨its1,rv1,pl1,_⟩:=I1.tuple hT1
 refine⟨"tuple","tuple.index",PySem.F.plainAttrs_tuple,PySem.F.slot_tuple_index,PySem.F.type_tuple_index,pl1.typeIs,fun b eb=> ?_,?_⟩
 ·cases eb;exact⟨ob,g1,hd⟩
 have hA:=ha cpos pins s1 σ H1 _ I1 q1
 rw[hs]at hA⊢
 refine Calls.callWith_builtin rfl (Calls.evalArgs_plain ?_)
 refine thn hA fun us s2 ⟨vs,H2,I2,r2,k,hv,ha2,hk,q2⟩=> ?_
 subst hv
 obtain⟨uv,rfl,ru⟩:=vals1 r2
 obtain⟨tk,rfl⟩:=ru
 have hT2:SqT X.K H2 a (xs.map V.int):= .inl (.inr ⟨ob,by rw[ha2,hu]⟩)
 obtain⟨its2,rv2,pl2,_⟩:=I2.tuple hT2
 refine tup_index pl2 (zda rv2) hk ?_
 exact⟨.int (xs.idxOf k:Nat),H2,I2.kept (t':=s2.toks+1) (fun _ _ e=>e),⟨_,rfl⟩,q2⟩
end
end L2
namespace Hs
open PySem L2 HsD
noncomputable def top(i:Nat):Stmt:=PySem.Challenge.pw_hueshare_k18_whole_folds_of_webs_made.main.body.getD i (.Pass ⟨0,0,0,0⟩)
noncomputable abbrev zcp:Stmt:=top 8
noncomputable abbrev zcj:Stmt:=top 9
noncomputable abbrev zbg:Stmt:=top 10
noncomputable abbrev zci:Stmt:=top 11
noncomputable abbrev s_is_set:Stmt:=top 12
noncomputable abbrev zcx:Stmt:=top 13
noncomputable abbrev s_is_web:Stmt:=top 14
noncomputable abbrev zbi:Stmt:=top 15
noncomputable abbrev zcg:Stmt:=top 16
noncomputable abbrev zco:Stmt:=top 17
noncomputable abbrev zcv:Stmt:=top 18
noncomputable abbrev s_pairs:Stmt:=top 19
noncomputable abbrev zdj:Stmt:=top 20
noncomputable abbrev zcd:Stmt:=top 21
noncomputable abbrev zbx:Stmt:=top 22
noncomputable abbrev zbn:Stmt:=top 24
noncomputable abbrev zaz:Stmt:=top 25
noncomputable abbrev zcw:Stmt:=top 26
noncomputable abbrev zbk:Stmt:=top 27
noncomputable abbrev zdk:Stmt:=top 28
noncomputable abbrev zcm:Stmt:=top 29
noncomputable abbrev zbz:Stmt:=top 30
noncomputable abbrev zbe:Stmt:=top 31
noncomputable abbrev zau:Stmt:=top 32
noncomputable abbrev zak:Stmt:=top 35
noncomputable abbrev zbj:Stmt:=top 36
noncomputable abbrev zca:Stmt:=top 37
noncomputable abbrev zcf:Stmt:=top 38
noncomputable abbrev zbf:Stmt:=top 39
noncomputable abbrev s_fold:Stmt:=top 40
noncomputable abbrev zdb:Stmt:=top 41
noncomputable abbrev zbs:Stmt:=top 42
noncomputable abbrev zbm:Stmt:=top 43
noncomputable abbrev zdl:Stmt:=top 44
noncomputable abbrev zch:Stmt:=top 46
noncomputable abbrev s_beside:Stmt:=top 47
noncomputable abbrev zcq:Stmt:=top 48
noncomputable abbrev zbl:Stmt:=top 50
noncomputable abbrev zat:Stmt:=top 51
noncomputable abbrev zby:Stmt:=top 52
noncomputable abbrev zcl:Stmt:=top 53
noncomputable abbrev zbq:Stmt:=top 54
noncomputable abbrev zbr:Stmt:=top 55
noncomputable abbrev zbd:Stmt:=top 56
noncomputable abbrev zax:Stmt:=top 57
noncomputable abbrev s_law:Stmt:=top 58
end Hs
namespace Hs
open PySem L2 HsD
section
variable{P:Program}{w:World}{K:W.Frag}{mg:Str->Option Value}{base:Heap}
noncomputable def spWhole(K:W.Frag):Sp:=fun vs H Q _=>∃x d,vs=[x]/\DX K H x d/\Q (.bl (wholeD d)) H
theorem sc_whole:FnScope ["thing"] ["thing"] (defScope zcp):=⟨rfl,rfl,rfl,by decide+kernel,rfl,by decide+kernel,by decide+kernel⟩
theorem ok_whole{f:Addr}{fd:FuncData}(F:Fun K "is_whole" "is_whole" zcp f fd)(mi:mg "isinstance"=none)(mI:mg "int"=none)(mB:mg "bool"=none):FnOk P w K mg base CX0 1 f fd ["thing"] (spWhole K):=by
 refine F.ok sc_whole (fun vs H Q E h=> ?_) (fun cdv A outer s H vs Q E hr h=> ?_)
 ·obtain⟨x,d,rfl,_⟩:=h
  rfl
 obtain⟨x,d,rfl,hx,q⟩:=h
 refine⟨_,zah (zal (pe_and (zai call_isi rfl mi (by decide+kernel) (zaa (pv 0) (zaa (pe_bltn rfl mI (v:= .ty "int") (by decide+kernel) rfl) zab)))
  (pe_one (pe_not (zai call_isi rfl mi (by decide+kernel) (zaa (pv 0) (zaa (pe_bltn rfl mB (v:= .ty "bool") (by decide+kernel) rfl) zab))))))),?_⟩
 refine⟨_,rfl,x,_,_,rfl,hx.kind,.inl rfl,_,rfl,?_⟩
 refine ite2 (fun c=> ?_) (fun c=> ?_)
 ·refine⟨_,rfl,x,_,_,rfl,hx.kind,.inr (.inl rfl),_,rfl,?_⟩
  cases d<;>first |exact q|(simp[isiB,kindD]at c;done)
 ·cases d<;>first |exact q|(exfalso;exact c rfl)
noncomputable def spPlace(K:W.Frag):Sp:=fun vs H Q _=>∃(n:Int) (x:V) (d:PyData),vs=[.int n,x]/\DX K H x d/\Q (.bl (placeD n d)) H
theorem sc_place:FnScope ["n","thing"] ["n","thing"] (defScope zcj):=⟨rfl,rfl,rfl,by decide+kernel,rfl,by decide+kernel,by decide+kernel⟩
theorem ok_place{f g:Addr}{fd gd:FuncData}(F:Fun K "is_place" "is_place" zcj f fd)(D:Dfn K mg "is_whole" zcp ["thing"] g gd)(G:FnOk P w K mg base CX0 1 g gd ["thing"] (spWhole K)):FnOk P w K mg base CX0 2 f fd ["n","thing"] (spPlace K):=by
 refine F.ok sc_place (fun vs H Q E h=> ?_) (fun cdv A outer s H vs Q E hr h=> ?_)
 ·obtain⟨n,x,d,rfl,_⟩:=h
  rfl
 obtain⟨n,x,d,rfl,hx,q⟩:=h
 refine⟨_,zah (zal (pe_and (zaf G hr rfl D.m D.F.kp D.b .nil pass0 (zaa (pv 1) zab)) (pe_one (pe_chain op_le op_lt zag (pv 1) (pv 0))))),?_⟩
 refine⟨_,rfl,x,d,rfl,hx,_,rfl,?_⟩
 refine ite2 (fun c=> ?_) (fun c=> ?_)
 ·cases hx with
  |int i=>
   refine⟨_,rfl,_,_,rfl,rfl,_,rfl,?_⟩
   refine ite2 (fun c2=> ?_) (fun c2=> ?_)
   ·refine⟨_,rfl,_,_,rfl,rfl,?_⟩
    have e:placeD n (.int i)=decide (i<n):=by show(decide (0<=i)&&decide (i<n))=_;rw[c2];rfl
    rw[e]at q;exact q
   ·have e:placeD n (.int i)=false:=by show(decide (0<=i)&&decide (i<n))=_;rw[Bool.eq_false_iff.mpr c2];rfl
    rw[e]at q;exact q
  |_=>simp[wholeD]at c
 ·have e:placeD n d=false:=by
   cases d<;>first |rfl|(exfalso;exact c rfl)
  rw[e]at q;exact q
noncomputable def spPlaces(K:W.Frag):Sp:=fun vs H Q _=>∃(n:Int) (a:Addr) (xs:List V) (ds:List PyData),vs=[.int n,.ref a]/\SqT K H a xs/\DXs K H xs ds/\∀H',Same H H'->Q (.bl (ds.all (placeD n))) H'
theorem sc_places:FnScope ["n","things"] ["n","things"] (defScope zbg):=⟨rfl,rfl,rfl,by decide+kernel,rfl,by decide+kernel,by decide+kernel⟩
theorem all_take{α:Type}(ds:List α)(p:α->Bool):(ds.map p).all id=ds.all p:=by rw[List.all_map];rfl
theorem ok_places{f g:Addr}{fd gd:FuncData}(F:Fun K "are_places" "are_places" zbg f fd)(D:Dfn K mg "is_place" zcj ["n","thing"] g gd)(G:FnOk P w K mg base CX0 2 g gd ["n","thing"] (spPlace K))(mA:mg "all"=none):FnOk P w K mg base CX0 3 f fd ["n","things"] (spPlaces K):=by
 refine F.ok sc_places (fun vs H Q E h=> ?_) (fun cdv A outer s H vs Q E hr h=> ?_)
 ·obtain⟨n,a,xs,ds,rfl,_⟩:=h
  rfl
 obtain⟨n,a,xs,ds,rfl,hS,hd,q⟩:=h
 refine⟨_,zah (zal (zai (call_all rfl) rfl mA (by decide+kernel) (zaa (zbo (own:=["thing"]) (caps:=["n"]) (ix:=[0]) rfl (pi_tupL (pv 1)) rfl rfl (.cons rfl rfl .nil) (fun _ _ _ _ _=>zaj (i:=0) (show(["thing","n"]:List Str).Nodup from by decide+kernel) rfl (Or.inl rfl)) (fun _ _ _ _ _=>zcn) (fun _ _ _ _ _=>zaf G hr rfl D.m D.F.kp D.b .nil pass0 (zaa (pv 1) (zaa (pv 0) zab)))) zab))),?_⟩
 refine⟨_,rfl,a,xs,rfl,hS,fun hz=> ?_⟩
 have hl:=hd.len
 refine comp_tup (xs:=xs) (fun i acc σ H'=>acc=((ds.take i).map (placeD n)).map V.bl/\Same H H'/\∃o,σ=[o,some (.int n)]) ⟨rfl,Same.refl _,_,rfl⟩ (fun i acc σ H' _ p=>p.2.1.tup hS) (fun i acc σ H' hi p=> ?_) hz (fun i x acc σ H' hx p=> ?_) (fun acc σ H' p=> ?_)
 ·rw[p.1];simp;omega
 ·obtain⟨rfl,sm,o,rfl⟩:=p
  obtain⟨d,e1,e2⟩:=hd.get hx
  refine⟨_,rfl,_,rfl,n,x,d,rfl,DX.same sm e2,?_,sm,_,rfl⟩
  rw[List.take_add_one,e1]
  simp
 ·intro p1 hp1
  obtain⟨rfl,sm,_⟩:=p
  refine⟨p1,(ds.map (placeD n)),rfl,SqL.of (by rw[zac,hl,List.take_length]),?_⟩
  rw[all_take]
  exact q _ (sm.trans (zad hp1 _))
end
end Hs
namespace Hs
open PySem L2 HsD
section
variable{P:Program}{w:World}{K:W.Frag}{mg:Str->Option Value}{base:Heap}
noncomputable def RisV(K:W.Frag)(H:Hp)(x y:V)(b:Bool):Prop:=(∃i j,x= .int i/\y= .int j/\b=decide (i<j))\/(∃p q ns ms,x= .ref p/\y= .ref q/\SqT K H p (ns.map V.int)/\SqT K H q (ms.map V.int)/\b=HT.lexLt ns ms)
noncomputable def spRising(K:W.Frag):Sp:=fun vs H Q _=>∃(a:Addr) (xs:List V) (bs:Nat->Bool),vs=[.ref a]/\SqT K H a xs/\(∀k,k+1<xs.length->∃x y,xs[k]? =some x/\xs[k+1]? =some y/\RisV K H x y (bs k))/\
 ∀H',Same H H'->Q (.bl ((List.range (xs.length-1)).all bs)) H'
theorem sc_rising:FnScope ["things"] ["things"] (defScope zci):=⟨rfl,rfl,rfl,by decide+kernel,rfl,by decide+kernel,by decide+kernel⟩
theorem ok_rising{f:Addr}{fd:FuncData}(F:Fun K "is_rising" "is_rising" zci f fd)(mA:mg "all"=none)(mR:mg "range"=none)(mL:mg "len"=none):FnOk P w K mg base CX0 1 f fd ["things"] (spRising K):=by
 refine F.ok sc_rising (fun vs H Q E h=> ?_) (fun cdv A outer s H vs Q E hr h=> ?_)
 ·obtain⟨a,xs,bs,rfl,_⟩:=h
  rfl
 obtain⟨a,xs,bs,rfl,hS,hb,q⟩:=h
 refine⟨_,zah (zal (zai (call_all rfl) rfl mA (by decide+kernel) (zaa (zbo (own:=["k"]) (caps:=["things"]) (ix:=[0]) rfl
  (pi_range2 rfl mR (zaa zag (zaa (zai zao rfl mL PySem.boot_len (zaa (pv 0) zab)) zab))) rfl rfl (.cons rfl rfl .nil) (fun _ _ _ _ _=>zaj (i:=0) (show(["k","things"]:List Str).Nodup from by decide+kernel) rfl (Or.inl rfl)) (fun _ _ _ _ _=>zcn) (fun _ _ _ _ _=>pe_cmpR (op_lt.or (op_ltTK K hr.units0)) (zan (ix_tupK K) (pv 1) (zbb op_sub (pv 0) zag) (fun _ _=>rfl)) (zan (ix_tupK K) (pv 1) (pv 0) (fun _ _=>rfl)) (nomark _))) zab))),?_⟩
 refine⟨_,rfl,a,xs,rfl,.inr hS,fun hz=>⟨1,_,rfl,⟨by omega,by omega,by omega,by omega⟩,?_⟩⟩
 have en:((xs.length:Int)-1).toNat=xs.length-1:=by omega
 rw[en]
 refine zbu (fun i acc σ H'=>acc=((List.range i).map bs).map V.bl/\Same H H'/\∃o,σ=[o,some (.ref a)]) ⟨rfl,Same.refl _,_,rfl⟩ (fun i acc σ H' hi p=>by rw[p.1];simp) (by rw[sizeLine_eq];omega) (fun i acc σ H' hi p=> ?_) (fun acc σ H' p=> ?_)
 ·obtain⟨rfl,sm,o,rfl⟩:=p
  obtain⟨x,y,hx,hy,hxy⟩:=hb i (by omega)
  have e1:(1+(i:Int))-1=((i:Nat):Int):=by omega
  have e2:(1+(i:Int))=((i+1:Nat):Int):=by omega
  have a1:atI xs (1+(i:Int)-1)=some x:=by rw[e1];exact atI_nat hx
  have a2:atI xs (1+(i:Int))=some y:=by rw[e2];exact atI_nat hy
  refine⟨_,rfl,_,rfl,_,_,rfl,rfl,a,xs,_,x,rfl,rfl,sm.tup hS,a1,_,rfl,_,rfl,a,xs,_,y,rfl,rfl,sm.tup hS,a2,?_⟩
  have ea:((List.range i).map bs).map V.bl++[V.bl (bs i)]=((List.range (i+1)).map bs).map V.bl:=by rw[List.range_succ];simp
  rcases hxy with⟨u,v,rfl,rfl,e⟩|⟨p,p',ns,ms,rfl,rfl,h1,h2,e⟩
  ·refine .inl ⟨u,v,rfl,rfl,?_,sm,_,rfl⟩
   show _++[V.bl (decide (u<v))]=_
   rw[<-e];exact ea
  ·refine .inr ⟨p,p',ns,ms,rfl,rfl,sm.tup h1,sm.tup h2,?_,sm,_,rfl⟩
   show _++[V.bl (HT.lexLt ns ms)]=_
   rw[<-e];exact ea
 ·intro p1 hp1
  obtain⟨rfl,sm,_⟩:=p
  refine⟨p1,(List.range (xs.length-1)).map bs,rfl,SqL.of zac,?_⟩
  rw[all_take]
  exact q _ (sm.trans (zad hp1 _))
theorem ints_of{H:Hp}{n:Int}{xs:List V}{ds:List PyData}(h:DXs K H xs ds)(hp:ds.all (placeD n)=true):xs=(ds.map intD).map V.int:=by
 induction ds generalizing xs with
 |nil=>cases h;rfl
 |cons d ds ih=>
  rw[List.all_cons,Bool.and_eq_true]at hp
  cases h with
  |cons h t=>
   obtain⟨i,rfl,_⟩:=placeD_int hp.1
   cases h
   rw[List.map_cons,List.map_cons,<-ih t hp.2]
   rfl
theorem rises_int{H:Hp}(ns:List Int):∀k,k+1<(ns.map V.int).length->∃x y,(ns.map V.int)[k]? =some x/\(ns.map V.int)[k+1]? =some y/\RisV K H x y (decide (ns.getD k 0<ns.getD (k+1) 0)):=fun k hk=>by
 rw[List.length_map]at hk
 have h1:k<ns.length:=by omega
 refine⟨.int (ns.getD k 0),.int (ns.getD (k+1) 0),by simp[h1],by simp[hk],.inl ⟨_,_,rfl,rfl,rfl⟩⟩
noncomputable def spSet(K:W.Frag):Sp:=fun vs H Q _=>∃(n:Int) (x:V) (d:PyData),vs=[.int n,x]/\DX K H x d/\∀H',Same H H'->Q (.bl (setD n d)) H'
theorem sc_set:FnScope ["n","thing"] ["n","thing"] (defScope s_is_set):=⟨rfl,rfl,rfl,by decide+kernel,rfl,by decide+kernel,by decide+kernel⟩
theorem ok_set{f f1 f2:Addr}{fd d1 d2:FuncData}(F:Fun K "is_set" "is_set" s_is_set f fd)(D1:Dfn K mg "are_places" zbg ["n","things"] f1 d1)(G1:FnOk P w K mg base CX0 3 f1 d1 ["n","things"] (spPlaces K))(D2:Dfn K mg "is_rising" zci ["things"] f2 d2)(G2:FnOk P w K mg base CX0 1 f2 d2 ["things"] (spRising K))(mi:mg "isinstance"=none)(mT:mg "tuple"=none):FnOk P w K mg base CX0 4 f fd ["n","thing"] (spSet K):=by
 refine F.ok sc_set (fun vs H Q E h=> ?_) (fun cdv A outer s H vs Q E hr h=> ?_)
 ·obtain⟨n,x,d,rfl,_⟩:=h
  rfl
 obtain⟨n,x,d,rfl,hx,q⟩:=h
 refine⟨_,zah (zal (pe_and (zai call_isi rfl mi (by decide+kernel) (zaa (pv 1) (zaa (pe_bltn rfl mT (v:= .ty "tuple") (by decide+kernel) rfl) zab)))
  (pe_and (zaf G1 hr rfl D1.m D1.F.kp D1.b .nil pass0 (zaa (pv 0) (zaa (pv 1) zab))) (pe_one (zaf (G2.mono (by decide)) hr rfl D2.m D2.F.kp D2.b .nil pass0 (zaa (pv 1) zab)))))),?_⟩
 refine⟨_,rfl,x,_,_,rfl,hx.kind,.inr (.inr (.inl rfl)),_,rfl,?_⟩
 refine ite2 (fun c=> ?_) (fun c=> ?_)
 ·cases hx with
  | @tup a xs ds h t=>
   refine⟨_,rfl,_,rfl,n,a,xs,ds,rfl,h,t,fun H1 sm=>⟨_,rfl,?_⟩⟩
   refine ite2 (fun c2=> ?_) (fun c2=> ?_)
   ·have ex:=ints_of t c2
    refine⟨_,rfl,a,xs,fun k=>decide ((ds.map intD).getD k 0<(ds.map intD).getD (k+1) 0),rfl,sm.tup h,?_,fun H2 sm2=> ?_⟩
    ·rw[ex];exact rises_int _
    ·have e:setD n (.tuple ds)=(List.range (xs.length-1)).all fun k=>decide ((ds.map intD).getD k 0<(ds.map intD).getD (k+1) 0):=by
      show(ds.all (placeD n)&&risesI (ds.map intD))=_
      rw[c2,t.len]
      show risesI (ds.map intD)=_
      unfold risesI
      rw[List.length_map]
     have:=q H2 (sm.trans sm2)
     rw[e]at this;exact this
   ·have e:setD n (.tuple ds)=false:=by
     show(ds.all (placeD n)&&risesI (ds.map intD))=_
     rw[Bool.eq_false_iff.mpr c2];rfl
    have:=q H1 sm
    rw[e]at this;exact this
  |_=>simp[isiB,kindD]at c
 ·have e:setD n d=false:=by
   cases d<;>first |rfl|(exfalso;exact c rfl)
  have:=q H (Same.refl _)
  rw[e]at this;exact this
noncomputable def spTies(K:W.Frag):Sp:=fun vs H Q _=>∃(n:Int) (x:V) (d:PyData),vs=[.int n,x]/\DX K H x d/\∀H',Same H H'->Q (.bl (tiesD n d)) H'
theorem sc_ties:FnScope ["n","thing"] ["n","thing"] (defScope zcx):=⟨rfl,rfl,rfl,by decide+kernel,rfl,by decide+kernel,by decide+kernel⟩
theorem tie_tup{H:Hp}{n:Int}{x:V}{d:PyData}(h:DX K H x d)(ht:tieD n d=true):∃p,x= .ref p/\SqT K H p (((kids d).map intD).map V.int):=by
 cases h with
 | @tup a xs ds h t=>
  have q:(ds.all (placeD n)&&risesI (ds.map intD)&&decide (ds.length=2))=true:=ht
  rw[Bool.and_eq_true,Bool.and_eq_true]at q
  exact⟨a,rfl,by rw[ints_of t q.1.1]at h;exact h⟩
 |_=>simp[tieD,setD]at ht
theorem rises_tup{H:Hp}{n:Int}{xs:List V}{ds:List PyData}(t:DXs K H xs ds)(ha:ds.all (tieD n)=true):∀k,k+1<xs.length->∃x y,xs[k]? =some x/\xs[k+1]? =some y/\
  RisV K H x y (HT.lexLt ((ds.map fun t=>(kids t).map intD).getD k []) ((ds.map fun t=>(kids t).map intD).getD (k+1) [])):=fun k hk=>by
 have hl:=t.len
 have h1:k<xs.length:=by omega
 obtain⟨d1,e1,x1⟩:=t.get (i:=k) (x:=xs[k]) (by simp[h1])
 obtain⟨d2,e2,x2⟩:=t.get (i:=k+1) (x:=xs[k+1]) (by simp[hk])
 have m1:=List.all_eq_true.mp ha d1 (List.mem_of_getElem? e1)
 have m2:=List.all_eq_true.mp ha d2 (List.mem_of_getElem? e2)
 obtain⟨p1,q1,s1⟩:=tie_tup x1 m1
 obtain⟨p2,q2,s2⟩:=tie_tup x2 m2
 refine⟨xs[k],xs[k+1],by simp[h1],by simp[hk],.inr ⟨p1,p2,_,_,q1,q2,s1,s2,?_⟩⟩
 have g1:(ds.map fun t=>(kids t).map intD).getD k []=(kids d1).map intD:=by rw[List.getD_eq_getElem?_getD,List.getElem?_map,e1];rfl
 have g2:(ds.map fun t=>(kids t).map intD).getD (k+1) []=(kids d2).map intD:=by rw[List.getD_eq_getElem?_getD,List.getElem?_map,e2];rfl
 rw[g1,g2]
theorem ok_ties{f f1 f2:Addr}{fd d1 d2:FuncData}(F:Fun K "are_ties" "are_ties" zcx f fd)(D1:Dfn K mg "is_set" s_is_set ["n","thing"] f1 d1)(G1:FnOk P w K mg base CX0 4 f1 d1 ["n","thing"] (spSet K))(D2:Dfn K mg "is_rising" zci ["things"] f2 d2)(G2:FnOk P w K mg base CX0 1 f2 d2 ["things"] (spRising K))(mi:mg "isinstance"=none)(mT:mg "tuple"=none)(mA:mg "all"=none)(mL:mg "len"=none):FnOk P w K mg base CX0 5 f fd ["n","thing"] (spTies K):=by
 refine F.ok sc_ties (fun vs H Q E h=> ?_) (fun cdv A outer s H vs Q E hr h=> ?_)
 ·obtain⟨n,x,d,rfl,_⟩:=h
  rfl
 obtain⟨n,x,d,rfl,hx,q⟩:=h
 refine⟨_,zae (zcs (pt_not (zcy (zai call_isi rfl mi (by decide+kernel) (zaa (pv 1) (zaa (pe_bltn rfl mT (v:= .ty "tuple") (by decide+kernel) rfl) zab))))) (zah (zal pe_bl)) zay) (zah (zal (pe_and (zai (call_all rfl) rfl mA (by decide+kernel) (zaa (zbo (own:=["tie"]) (caps:=["n"]) (ix:=[0]) rfl (pi_tupL (pv 1)) rfl rfl (.cons rfl rfl .nil) (fun _ _ _ _ _=>zaj (i:=0) (show(["tie","n"]:List Str).Nodup from by decide+kernel) rfl (Or.inl rfl)) (fun _ _ _ _ _=>zcn) (fun _ _ _ _ _=>pe_and (zaf G1 hr rfl D1.m D1.F.kp D1.b .nil pass0 (zaa (pv 1) (zaa (pv 0) zab))) (pe_one (pe_cmpR op_eq (zai (call_lenK K) rfl mL PySem.boot_len (zaa (pv 0) zab)) zag (nomark _))))) zab))
  (pe_one (zaf (G2.mono (by decide)) hr rfl D2.m D2.F.kp D2.b .nil pass0 (zaa (pv 1) zab)))))),?_⟩
 refine⟨_,rfl,x,_,_,rfl,hx.kind,.inr (.inr (.inl rfl)),_,rfl,?_⟩
 refine ite2 (fun c=> ?_) (fun c=> ?_)
 ·have e:tiesD n d=false:=by
   cases d<;>first |rfl|(exfalso;simp[isiB,kindD]at c;done)
  have:=q H (Same.refl _)
  rw[e]at this;exact this
 ·cases hx with
  | @tup a xs ds h t=>
   refine⟨_,rfl,a,xs,rfl,h,fun hz=> ?_⟩
   have hl:=t.len
   refine comp_tup (xs:=xs) (fun i acc σ H'=>acc=((ds.take i).map (tieD n)).map V.bl/\Same H H'/\∃o,σ=[o,some (.int n)]) ⟨rfl,Same.refl _,_,rfl⟩ (fun i acc σ H' _ p=>p.2.1.tup h) (fun i acc σ H' hi p=> ?_) hz (fun i x acc σ H' hx p=> ?_) (fun acc σ H' p=> ?_)
   ·rw[p.1];simp;omega
   ·obtain⟨rfl,sm,o,rfl⟩:=p
    obtain⟨d,e1,e2⟩:=t.get hx
    refine⟨_,rfl,_,rfl,n,x,d,rfl,DX.same sm e2,fun H1 sm1=>⟨_,rfl,?_⟩⟩
    have ea:∀b,b=tieD n d->((ds.take i).map (tieD n)).map V.bl++[V.bl b]=((ds.take (i+1)).map (tieD n)).map V.bl:=fun b hb=>by
     rw[List.take_add_one,e1,hb];simp
    refine ite2 (fun c2=> ?_) (fun c2=> ?_)
    ·cases e2 with
     | @tup a2 xs2 ds2 h2 t2=>
      refine⟨_,rfl,a2,xs2,rfl,.inr (sm1.tup (sm.tup h2)),fun hz2=>⟨rfl,ea _ ?_,sm.trans sm1,_,rfl⟩⟩
      show decide (V.int (xs2.length:Int)=V.int 2)=(setD n (.tuple ds2)&&decide (ds2.length=2))
      rw[c2,t2.len]
      by_cases e3:ds2.length=2
      ·rw[e3];rfl
      ·rw[decide_eq_false e3,decide_eq_false (by intro z;injection z with z;exact e3 (by omega))];rfl
     |_=>simp[setD]at c2
    ·refine⟨ea _ ?_,sm.trans sm1,_,rfl⟩
     show false=(setD n d&&decide ((kids d).length=2))
     rw[Bool.eq_false_iff.mpr c2];rfl
   ·intro p1 hp1
    obtain⟨rfl,sm,_⟩:=p
    have sm':Same H (upd H' p1 (.lst (((ds.take xs.length).map (tieD n)).map V.bl))):=sm.trans (zad hp1 _)
    refine⟨p1,(ds.map (tieD n)),rfl,SqL.of (by rw[zac,hl,List.take_length]),_,rfl,?_⟩
    rw[all_take]
    refine ite2 (fun c2=> ?_) (fun c2=> ?_)
    ·refine⟨_,rfl,a,xs,fun k=>HT.lexLt ((ds.map fun t=>(kids t).map intD).getD k []) ((ds.map fun t=>(kids t).map intD).getD (k+1) []),rfl,sm'.tup h,?_,fun H2 sm2=> ?_⟩
     ·exact rises_tup (DXs.same sm' t) c2
     ·have e:tiesD n (.tuple ds)=(List.range (xs.length-1)).all fun k=>HT.lexLt ((ds.map fun t=>(kids t).map intD).getD k []) ((ds.map fun t=>(kids t).map intD).getD (k+1) []):=by
       show(ds.all (tieD n)&&risesT (ds.map fun t=>(kids t).map intD))=_
       rw[c2,hl]
       show risesT (ds.map fun t=>(kids t).map intD)=_
       unfold risesT
       rw[List.length_map]
      have:=q H2 (sm'.trans sm2)
      rw[e]at this;exact this
    ·have e:tiesD n (.tuple ds)=false:=by
      show(ds.all (tieD n)&&risesT (ds.map fun t=>(kids t).map intD))=_
      rw[Bool.eq_false_iff.mpr c2];rfl
     have:=q _ sm'
     rw[e]at this;exact this
  |_=>exfalso;exact c rfl
end
end Hs
namespace HsD
open PySem L2
noncomputable def pairD(p:Int×Int):PyData:= .tuple [.int p.1,.int p.2]
noncomputable def webDat(n:Int)(ts:List (Int×Int)):PyData:= .tuple [.int n,.tuple (ts.map pairD)]
noncomputable def WebV(K:W.Frag)(H:Hp)(a:Addr)(n:Int)(ts:List (Int×Int)):Prop:=∃t rs,SqT K H a [.int n,.ref t]/\SqT K H t rs/\DVs K H rs (ts.map pairD)
theorem WebV.dv{K:W.Frag}{H:Hp}{a:Addr}{n:Int}{ts:List (Int×Int)}(h:WebV K H a n ts):DV K H (.ref a) (webDat n ts):=by
 obtain⟨t,rs,h1,h2,h3⟩:=h
 exact .tup h1 (.cons (.int n) (.cons (.tup h2 h3) .nil))
theorem WebV.same{K:W.Frag}{H H':Hp}{a:Addr}{n:Int}{ts:List (Int×Int)}(h:WebV K H a n ts)(e:Same H H'):WebV K H' a n ts:=by
 obtain⟨t,rs,h1,h2,h3⟩:=h
 exact⟨t,rs,e.tup h1,e.tup h2,DVs.same e h3⟩
noncomputable def hasTie(ts:List (Int×Int))(i j:Int):Bool:=decide ((if j<i then j else i,if j>i then j else i)∈ts)
theorem eqv_pair(p q:Int×Int):PyData.eqv (pairD p) (pairD q)=decide (p=q):=by
 obtain⟨a,b⟩:=p
 obtain⟨c,d⟩:=q
 show((a==c)&&((b==d)&&true))=_
 rw[Bool.eq_iff_iff]
 simp
theorem lay_pairs:∀ts:List (Int×Int),PyData.canLayAll0 (ts.map pairD)=true
 |[]=>rfl
 |p::ts=>by
  show(PyData.canLay0 (pairD p)&&PyData.canLayAll0 (ts.map pairD))=true
  rw[lay_pairs ts];rfl
theorem any_pair(ts:List (Int×Int))(q:Int×Int):((ts.map pairD).any fun d=>PyData.eqv d (pairD q))=decide (q∈ts):=by
 rw[List.any_map,Bool.eq_iff_iff,List.any_eq_true]
 constructor
 ·rintro⟨p,hp,h⟩
  have h':PyData.eqv (pairD p) (pairD q)=true:=h
  rw[eqv_pair]at h'
  have e:p=q:=of_decide_eq_true h'
  subst e
  exact decide_eq_true hp
 ·intro h
  refine⟨q,of_decide_eq_true h,?_⟩
  show PyData.eqv (pairD q) (pairD q)=true
  rw[eqv_pair]
  exact decide_eq_true rfl
noncomputable def neigh(n:Int)(ts:List (Int×Int))(i:Int):List Int:=((List.range n.toNat).map fun k=>(0+(k:Nat):Int)).filter fun j=>hasTie ts i j
end HsD
namespace Hs
open PySem L2 HsD
section
variable{P:Program}{w:World}{K:W.Frag}{mg:Str->Option Value}{base:Heap}
noncomputable def spWeb(K:W.Frag):Sp:=fun vs H Q _=>∃(x:V) (d:PyData),vs=[x]/\DX K H x d/\∀H',Same H H'->Q (.bl (webD d)) H'
theorem sc_web:FnScope ["thing","n"] ["thing"] (defScope s_is_web):=⟨rfl,rfl,rfl,by decide+kernel,rfl,by decide+kernel,by decide+kernel⟩
theorem ok_web{f f1 f2:Addr}{fd d1 d2:FuncData}{tk:Tok}(F:Fun K "is_web" "is_web" s_is_web f fd)(D1:Dfn K mg "is_whole" zcp ["thing"] f1 d1)(G1:FnOk P w K mg base CX0 1 f1 d1 ["thing"] (spWhole K))(D2:Dfn K mg "are_ties" zcx ["n","thing"] f2 d2)(G2:FnOk P w K mg base CX0 5 f2 d2 ["n","thing"] (spTies K))(mi:mg "isinstance"=none)(mT:mg "tuple"=none)(mL:mg "len"=none)(mM:mg "MOST_PLACES"=some (.int 10 tk)):FnOk P w K mg base CX0 6 f fd ["thing"] (spWeb K):=by
 refine F.ok sc_web (fun vs H Q E h=> ?_) (fun cdv A outer s H vs Q E hr h=> ?_)
 ·obtain⟨x,d,rfl,_⟩:=h
  rfl
 obtain⟨x,d,rfl,hx,q⟩:=h
 refine⟨_,zae (zcs (PW.pt (pw_or (pt_not (zcy (zai call_isi rfl mi (by decide+kernel) (zaa (pv 0) (zaa (pe_bltn rfl mT (v:= .ty "tuple") (by decide+kernel) rfl) zab)))))
   (pw_or1 (zam op_ne (zai zao rfl mL PySem.boot_len (zaa (pv 0) zab)) zag (nomark _))))) (zah (zal pe_bl)) zay) (zae (zas (i:=1) sc_web.nd rfl (Or.inl rfl) (zan zaw (pv 0) zag (fun _ _=>rfl))) (zah (zal (pe_and (zaf (G1.mono (by decide)) hr rfl D1.m D1.F.kp D1.b .nil pass0 (zaa (pv 1) zab)) (pe_and (pe_chain op_le op_le zag (pv 1) (pe_glob rfl mM (v:= .int 10) ⟨_,rfl⟩))
   (pe_one (zaf G2 hr rfl D2.m D2.F.kp D2.b .nil pass0 (zaa (pv 1) (zaa (zan zaw (pv 0) zag (fun _ _=>rfl)) zab))))))))),?_⟩
 refine⟨_,rfl,x,_,_,rfl,hx.kind,.inr (.inr (.inl rfl)),_,rfl,?_⟩
 refine ite2 (fun c=> ?_) (fun c=> ?_)
 ·have e:webD d=false:=by
   cases d<;>first |rfl|(exfalso;simp[isiB,kindD]at c;done)
  have:=q H (Same.refl _)
  rw[e]at this;exact this
 ·cases hx with
  | @tup a xs ds h t=>
   have hl:=t.len
   refine⟨_,rfl,a,xs,rfl,.inr h,fun hz=>⟨rfl,_,rfl,?_⟩⟩
   refine ite2 (fun c2=> ?_) (fun c2=> ?_)
   ·have e:webD (.tuple ds)=false:=by
     match ds,hl with
     |[],_=>rfl
     |[_],_=>rfl
     |[_,_],hl=>
      exfalso
      have e2:(!decide (V.int (xs.length:Int)=V.int 2))=true:=c2
      rw[hl]at e2
      simp at e2
     |_::_::_::_,_=>rfl
    have:=q H (Same.refl _)
    rw[e]at this;exact this
   ·have e2:xs.length=2:=by
     have e2:¬(!decide (V.int (xs.length:Int)=V.int 2))=true:=c2
     simp at e2
     omega
    cases t with
    |nil=>simp at e2
    |cons h0 t0=>
     cases t0 with
     |nil=>simp at e2
     | @cons x1 dd1 xs1 ds1 h1 t1=>
      cases t1 with
      |cons _ _=>simp at e2
      |nil=>
       rename_i x0 dd0
       refine⟨_,rfl,a,_,_,x0,rfl,rfl,h,by rfl,?_⟩
       refine⟨_,rfl,x0,dd0,rfl,h0,_,rfl,?_⟩
       refine ite2 (fun c3=> ?_) (fun c3=> ?_)
       ·cases h0 with
        |int n=>
         refine⟨_,rfl,_,_,rfl,rfl,_,rfl,?_⟩
         have fin:∀b,b=webD (.tuple [.int n,dd1])->∀H',Same H H'->Q (.bl b) H':=fun b hb H' sm=>by rw[hb];exact q H' sm
         have wd:webD (.tuple [.int n,dd1])=((decide (0<=n)&&decide (n<=10))&&tiesD n dd1):=rfl
         refine ite2 (fun c4=> ?_) (fun c4=> ?_)
         ·refine⟨_,_,rfl,rfl,_,rfl,?_⟩
          refine ite2 (fun c5=> ?_) (fun c5=> ?_)
          ·refine⟨_,rfl,_,rfl,a,_,_,x1,rfl,rfl,h,by rfl,n,x1,dd1,rfl,h1,fun H' sm=>fin _ ?_ H' sm⟩
           rw[wd,c4,c5];rfl
          ·refine fin _ ?_ H (Same.refl _)
           rw[wd,Bool.eq_false_iff.mpr c5,Bool.and_false];rfl
         ·refine⟨_,rfl,?_⟩
          refine iteF (fin _ ?_ H (Same.refl _))
          rw[wd,Bool.eq_false_iff.mpr c4];rfl
        |_=>simp[wholeD]at c3
       ·have e:webD (.tuple [dd0,dd1])=false:=by
         show(wholeD dd0&&(decide (0<=intD dd0)&&decide (intD dd0<=10))&&tiesD (intD dd0) dd1)=false
         rw[Bool.eq_false_iff.mpr c3];rfl
        have:=q H (Same.refl _)
        rw[e]at this;exact this
  |_=>exfalso;exact c rfl
end
end Hs
namespace Hs
open PySem L2 HsD
section
variable{P:Program}{w:World}{K:W.Frag}{mg:Str->Option Value}{base:Heap}
noncomputable def spNeedWeb(K:W.Frag):Sp:=fun vs H Q _=>∃(x:V) (d:PyData),vs=[x]/\DX K H x d/\webD d=true/\∀H',Same H H'->Q .non H'
theorem sc_needWeb:FnScope ["thing"] ["thing"] (defScope zbi):=⟨rfl,rfl,rfl,by decide+kernel,rfl,by decide+kernel,by decide+kernel⟩
theorem ok_needWeb{f f1:Addr}{fd d1:FuncData}(F:Fun K "need_web" "need_web" zbi f fd)(D1:Dfn K mg "is_web" s_is_web ["thing"] f1 d1)(G1:FnOk P w K mg base CX0 6 f1 d1 ["thing"] (spWeb K)):FnOk P w K mg base CX0 7 f fd ["thing"] (spNeedWeb K):=by
 refine F.ok sc_needWeb (fun vs H Q E h=> ?_) (fun cdv A outer s H vs Q E hr h=> ?_)
 ·obtain⟨x,d,rfl,_⟩:=h
  rfl
 obtain⟨x,d,rfl,hx,hw,q⟩:=h
 refine⟨_,zah (zcs (pt_not (zcy (zaf G1 hr rfl D1.m D1.F.kp D1.b .nil pass0 (zaa (pv 0) zab)))) pss_never zay),?_⟩
 refine⟨_,rfl,x,d,rfl,hx,fun H' sm=>⟨_,rfl,?_⟩⟩
 rw[hw]
 exact iteF (q H' sm)
noncomputable def spNeedPlace(K:W.Frag):Sp:=fun vs H Q _=>∃(a:Addr) (n i:Int) (t:V),vs=[.ref a,.int i]/\SqT K H a [.int n,t]/\0<=i/\i<n/\Q .non H
theorem sc_needPlace:FnScope ["web","thing"] ["web","thing"] (defScope zcg):=⟨rfl,rfl,rfl,by decide+kernel,rfl,by decide+kernel,by decide+kernel⟩
theorem ok_needPlace{f f1:Addr}{fd d1:FuncData}(F:Fun K "need_place" "need_place" zcg f fd)(D1:Dfn K mg "is_place" zcj ["n","thing"] f1 d1)(G1:FnOk P w K mg base CX0 2 f1 d1 ["n","thing"] (spPlace K)):FnOk P w K mg base CX0 3 f fd ["web","thing"] (spNeedPlace K):=by
 refine F.ok sc_needPlace (fun vs H Q E h=> ?_) (fun cdv A outer s H vs Q E hr h=> ?_)
 ·obtain⟨a,n,i,t,rfl,_⟩:=h
  rfl
 obtain⟨a,n,i,t,rfl,hS,h0,h1,q⟩:=h
 refine⟨_,zah (zcs (pt_not (zcy (zaf G1 hr rfl D1.m D1.F.kp D1.b .nil pass0 (zaa (zan zaw (pv 0) zag (fun _ _=>rfl)) (zaa (pv 1) zab))))) pss_never zay),?_⟩
 refine⟨_,rfl,a,_,_,.int n,rfl,rfl,hS,rfl,_,rfl,n,.int i,.int i,rfl,.int i,_,rfl,?_⟩
 have e:placeD n (.int i)=true:=by show(decide (0<=i)&&decide (i<n))=true;rw[decide_eq_true h0,decide_eq_true h1];rfl
 rw[e]
 exact iteF q
noncomputable def spNeedSet(K:W.Frag):Sp:=fun vs H Q _=>∃(a:Addr) (n:Int) (t x:V) (d:PyData),vs=[.ref a,x]/\SqT K H a [.int n,t]/\DX K H x d/\setD n d=true/\∀H',Same H H'->Q .non H'
theorem sc_needSet:FnScope ["web","thing"] ["web","thing"] (defScope zco):=⟨rfl,rfl,rfl,by decide+kernel,rfl,by decide+kernel,by decide+kernel⟩
theorem ok_needSet{f f1:Addr}{fd d1:FuncData}(F:Fun K "need_set" "need_set" zco f fd)(D1:Dfn K mg "is_set" s_is_set ["n","thing"] f1 d1)(G1:FnOk P w K mg base CX0 4 f1 d1 ["n","thing"] (spSet K)):FnOk P w K mg base CX0 5 f fd ["web","thing"] (spNeedSet K):=by
 refine F.ok sc_needSet (fun vs H Q E h=> ?_) (fun cdv A outer s H vs Q E hr h=> ?_)
 ·obtain⟨a,n,t,x,d,rfl,_⟩:=h
  rfl
 obtain⟨a,n,t,x,d,rfl,ha,hx,hd,q⟩:=h
 refine⟨_,zah (zcs (pt_not (zcy (zaf G1 hr rfl D1.m D1.F.kp D1.b .nil pass0 (zaa (zan zaw (pv 0) zag (fun _ _=>rfl)) (zaa (pv 1) zab))))) pss_never zay),?_⟩
 refine⟨_,rfl,a,_,_,.int n,rfl,rfl,ha,rfl,_,rfl,n,x,d,rfl,hx,fun H' sm=>⟨_,rfl,?_⟩⟩
 rw[hd]
 exact iteF (q H' sm)
noncomputable def spNeedFew(K:W.Frag):Sp:=fun vs H Q _=>∃(n:Int),vs=[.int n]/\n<=10/\Q .non H
theorem sc_needFew:FnScope ["n"] ["n"] (defScope zcv):=⟨rfl,rfl,rfl,by decide+kernel,rfl,by decide+kernel,by decide+kernel⟩
theorem ok_needFew{f:Addr}{fd:FuncData}{tk:Tok}(F:Fun K "need_few" "need_few" zcv f fd)(mM:mg "MOST_PLACES"=some (.int 10 tk)):FnOk P w K mg base CX0 1 f fd ["n"] (spNeedFew K):=by
 refine F.ok sc_needFew (fun vs H Q E h=> ?_) (fun cdv A outer s H vs Q E hr h=> ?_)
 ·obtain⟨n,rfl,_⟩:=h
  rfl
 obtain⟨n,rfl,hn,q⟩:=h
 refine⟨_,zah (zcs (zam op_gt (pv 0) (pe_glob rfl mM (v:= .int 10) ⟨_,rfl⟩) (nomark _)) pss_never zay),?_⟩
 refine⟨_,rfl,_,_,rfl,rfl,_,rfl,?_⟩
 rw[decide_eq_false (show¬(10:Int)<n by omega)]
 exact iteF q
noncomputable def spHas(K:W.Frag):Sp:=fun vs H Q _=>∃(a:Addr) (n i j:Int) (ts:List (Int×Int)),vs=[.ref a,.int i,.int j]/\WebV K H a n ts/\∀H',Same H H'->Q (.bl (hasTie ts i j)) H'
theorem sc_has:FnScope ["web","one","other"] ["web","one","other"] (defScope zcd):=⟨rfl,rfl,rfl,by decide+kernel,rfl,by decide+kernel,by decide+kernel⟩
theorem ok_has{f:Addr}{fd:FuncData}(F:Fun K "has_tie" "has_tie" zcd f fd)(mi:mg "min"=none)(ma:mg "max"=none):FnOk P w K mg base CX0 1 f fd ["web","one","other"] (spHas K):=by
 refine F.ok sc_has (fun vs H Q E h=> ?_) (fun cdv A outer s H vs Q E hr h=> ?_)
 ·obtain⟨a,n,i,j,ts,rfl,_⟩:=h
  rfl
 obtain⟨a,n,i,j,ts,rfl,hW,q⟩:=h
 refine⟨_,zah (zal (pe_cmpR (op_inD hr.units) (zck (zaa (zai (call_min2 rfl) rfl mi (by decide+kernel) (zaa (pv 1) (zaa (pv 2) zab))) (zaa (zai (call_max2 rfl) rfl ma (by decide+kernel) (zaa (pv 1) (zaa (pv 2) zab))) zab)))
  (zan zaw (pv 0) zag (fun _ _=>rfl)) (by with_unfolding_all rfl))),?_⟩
 refine⟨_,rfl,_,rfl,_,_,rfl,_,rfl,_,rfl,_,_,rfl,(by show 2<=sizeLine;decide),fun p hp=> ?_⟩
 have sm:=zad hp (.tup [.int (if j<i then j else i),.int (if j>i then j else i)])
 obtain⟨t,rs,h1,h2,h3⟩:=hW.same sm
 refine⟨_,rfl,a,_,_,.ref t,rfl,rfl,h1,rfl,t,rs,_,pairD (if j<i then j else i,if j>i then j else i),rfl,.inr h2,h3,.tup (SqT.of zac) (.cons (.int _) (.cons (.int _) .nil)),lay_pairs ts,rfl,(by show max 0 (max 0 0)+1<=60;decide),?_⟩
 rw[any_pair]
 exact q _ sm
noncomputable def WebOk(n:Int)(ts:List (Int×Int)):Prop:=webD (webDat n ts)=true
noncomputable def spNeigh(K:W.Frag):Sp:=fun vs H Q _=>∃(a:Addr) (n i:Int) (ts:List (Int×Int)),vs=[.ref a,.int i]/\WebV K H a n ts/\WebOk n ts/\(0<=i/\i<n)/\n<=10/\∀r H',Same H H'->H' r=some (.tup ((neigh n ts i).map V.int))->Q (.ref r) H'
theorem sc_neigh:FnScope ["web","place"] ["web","place"] (defScope zbx):=⟨rfl,rfl,rfl,by decide+kernel,rfl,by decide+kernel,by decide+kernel⟩
theorem ok_neigh{f f1 f2 f3:Addr}{fd d1 d2 d3:FuncData}(F:Fun K "neighbours" "neighbours" zbx f fd)(D1:Dfn K mg "need_web" zbi ["thing"] f1 d1)(G1:FnOk P w K mg base CX0 7 f1 d1 ["thing"] (spNeedWeb K))(D2:Dfn K mg "need_place" zcg ["web","thing"] f2 d2)(G2:FnOk P w K mg base CX0 3 f2 d2 ["web","thing"] (spNeedPlace K))(D3:Dfn K mg "has_tie" zcd ["web","one","other"] f3 d3)(G3:FnOk P w K mg base CX0 1 f3 d3 ["web","one","other"] (spHas K))(mT:mg "tuple"=none)(mR:mg "range"=none):FnOk P w K mg base CX0 8 f fd ["web","place"] (spNeigh K):=by
 refine F.ok sc_neigh (fun vs H Q E h=> ?_) (fun cdv A outer s H vs Q E hr h=> ?_)
 ·obtain⟨a,n,i,ts,rfl,_⟩:=h
  rfl
 obtain⟨a,n,i,ts,rfl,hW,hok,hi,hn,q⟩:=h
 refine⟨_,zae (zcb (zaf G1 hr rfl D1.m D1.F.kp D1.b .nil pass0 (zaa (pv 0) zab))) (zae (zcb (zaf (G2.mono (by decide)) hr rfl D2.m D2.F.kp D2.b .nil pass0 (zaa (pv 0) (zaa (pv 1) zab)))) (zah (zal (zbp zav rfl mT (by decide+kernel) (zaa (zbo (own:=["other"]) (caps:=["web","place"]) (ix:=[0,1]) rfl (zba rfl mR (zaa (zan zaw (pv 0) zag (fun _ _=>rfl)) zab)) rfl rfl (.cons rfl rfl (.cons rfl rfl .nil)) (fun _ _ _ _ _=>zaj (i:=0) (show(["other","web","place"]:List Str).Nodup from by decide+kernel) rfl (Or.inl rfl)) (fun _ _ _ _ _=>zcr (zcy (zaf (G3.mono (by decide)) hr rfl D3.m D3.F.kp D3.b .nil pass0 (zaa (pv 1) (zaa (pv 2) (zaa (pv 0) zab)))))) (fun _ _ _ _ _=>pv 0)) zab))))),?_⟩
 refine⟨_,rfl,_,_,rfl,hW.dv.dx,hok,fun H1 s1=> ?_⟩
 obtain⟨t,rs,h1,h2,h3⟩:=hW.same s1
 refine⟨_,rfl,_,rfl,a,n,i,_,rfl,h1,hi.1,hi.2,?_⟩
 refine⟨_,rfl,a,_,_,.int n,rfl,rfl,h1,rfl,n,rfl,by omega,by omega,?_⟩
 refine zbu (fun k acc σ H'=>acc=(((List.range k).map fun k=>(0+(k:Nat):Int)).filter fun j=>hasTie ts i j).map V.int/\Same H1 H'/\∃o,σ=[o,some (.ref a),some (.int i)]) ⟨rfl,Same.refl _,_,rfl⟩ (fun k acc σ H' hk p=> ?_) (by rw[sizeLine_eq];omega) (fun k acc σ H' hk p=> ?_) (fun acc σ H' p=> ?_)
 ·rw[p.1,List.length_map]
  refine Nat.le_trans (List.length_filter_le _ _) ?_
  simp
 ·obtain⟨rfl,sm,o,rfl⟩:=p
  refine⟨_,rfl,_,rfl,_,rfl,a,n,i,_,ts,rfl,hW.same (s1.trans sm),fun H2 s2=>⟨_,rfl,?_⟩⟩
  have ea:((List.range (k+1)).map fun k=>(0+(k:Nat):Int)).filter (fun j=>hasTie ts i j)=((List.range k).map fun k=>(0+(k:Nat):Int)).filter (fun j=>hasTie ts i j)++(if hasTie ts i (0+(k:Int))=true then[0+(k:Int)]else[]):=by
   rw[List.range_succ,List.map_append,List.filter_append]
   congr 1
   show List.filter _ [0+(k:Int)]=_
   rw[List.filter_cons]
   rfl
  rw[ea]
  refine ite2 (fun c=> ?_) (fun c=> ?_)
  ·refine⟨_,rfl,?_,sm.trans s2,_,rfl⟩
   rw[if_pos c,List.map_append];rfl
  ·refine⟨?_,sm.trans s2,_,rfl⟩
   rw[if_neg c,List.append_nil]
 ·intro p1 hp1
  obtain⟨rfl,sm,_⟩:=p
  refine⟨p1,_,rfl,.inl ⟨SqL.of zac,fun l hl=> ?_⟩⟩
  exact q l _ (s1.trans (sm.trans ((zad hp1 _).trans (zad hl _)))) zac
end
end Hs
namespace L2
open PySem
noncomputable def SameX(t:Addr)(H H':Hp):Prop:=∀b o,b≠t->H b=some o->H' b=some o
theorem SameX.refl(t:Addr)(H:Hp):SameX t H H:=fun _ _ _ h=>h
theorem SameX.trans{t:Addr}{H H1 H2:Hp}(a:SameX t H H1)(b:SameX t H1 H2):SameX t H H2:=fun c o n h=>b c o n (a c o n h)
theorem Same.x{H H':Hp}(h:Same H H')(t:Addr):SameX t H H':=fun b o _ e=>h b o e
theorem SameX.upd{t:Addr}{H H':Hp}{o:HO}(h:SameX t H H'):SameX t H (upd H' t o):=fun b u n e=>by rw[zap n];exact h b u n e
noncomputable def ScrV(K:W.Frag)(H:Hp)(scr:Addr)(ns:List Int):Prop:=(∃o,H scr=some (.frz o (.lst (ns.map V.int))))\/
 ∃(o:Obj) (its:Array Value) (n:Nat),K.lookup scr=some o/\o.cls= .type "list"/\o.dict=none/\o.data= .seq its n/\its.size<=sizeLine/\Vals (ns.map V.int) its.toList
theorem ScrV.sq{K:W.Frag}{H:Hp}{scr:Addr}{ns:List Int}(h:ScrV K H scr ns):SqL K H scr (ns.map V.int):=by
 rcases h with⟨o,h⟩|h
 ·exact .inl (.inr ⟨o,h⟩)
 ·exact .inr h
theorem ScrV.samex{K:W.Frag}{H H':Hp}{scr t:Addr}{ns:List Int}{zs:List V}(h:ScrV K H scr ns)(e:SameX t H H')(n:H t=some (.lst zs)):ScrV K H' scr ns:=by
 rcases h with⟨o,h⟩|h
 ·exact .inl ⟨o,e _ _ (ne_of h n (by intro z;cases z)) h⟩
 ·exact .inr h
theorem ScrV.same{K:W.Frag}{H H':Hp}{scr:Addr}{ns:List Int}(h:ScrV K H scr ns)(e:Same H H'):ScrV K H' scr ns:=by
 rcases h with⟨o,h⟩|h
 ·exact .inl ⟨o,e _ _ h⟩
 ·exact .inr h
structure TapeV(K:W.Frag)(H:Hp)(tp scr:Addr)(ns:List Int):Prop where
 at_:∃(i r:Int),H tp=some (.lst [.ref scr,.int i,.int r])/\0<=i/\0<=r
 scr_:ScrV K H scr ns
 len:ns.length<=63
theorem SameX.sq{K:W.Frag}{t:Addr}{H H':Hp}{a:Addr}{xs:List V}(e:SameX t H H')(n:a≠t)(h:SqL K H a xs):SqL K H' a xs:=by
 rcases h with(h|⟨o,h⟩)|h
 ·exact .inl (.inl (e _ _ n h))
 ·exact .inl (.inr ⟨o,e _ _ n h⟩)
 ·exact .inr h
theorem TapeV.same{K:W.Frag}{H H':Hp}{tp scr:Addr}{ns:List Int}(h:TapeV K H tp scr ns)(e:Same H H'):TapeV K H' tp scr ns:=by
 obtain⟨⟨i,r,h1,h2,h3⟩,h4,h5⟩:=h
 exact⟨⟨i,r,e _ _ h1,h2,h3⟩,h4.same e,h5⟩
theorem TapeV.other{K:W.Frag}{H H':Hp}{tp scr c:Addr}{ns:List Int}{zs:List V}(h:TapeV K H tp scr ns)(e:SameX c H H')(hc:H c=some (.lst zs))(n:tp≠c):TapeV K H' tp scr ns:=by
 obtain⟨⟨i,r,h1,h2,h3⟩,h4,h5⟩:=h
 exact⟨⟨i,r,e _ _ n h1,h2,h3⟩,h4.samex e hc,h5⟩
theorem lay_ints:∀ns:List Int,PyData.canLayAll0 (ns.map PyData.int)=true
 |[]=>rfl
 |n::ns=>by
  show(true&&PyData.canLayAll0 (ns.map PyData.int))=true
  rw[lay_ints ns];rfl
end L2
namespace Hs
open PySem L2 HsD
section
variable{P:Program}{w:World}{K:W.Frag}{mg:Str->Option Value}{base:Heap}
noncomputable def spStir(K:W.Frag):Sp:=fun vs H Q _=>∃(c i:Int),vs=[.int c,.int i]/\∀r,0<=r->Q (.int r) H
theorem sc_stir:FnScope ["cell","at","first","second","third"] ["cell","at"] (defScope zbl):=⟨rfl,rfl,rfl,by decide+kernel,rfl,by decide+kernel,by decide+kernel⟩
theorem mod_nn(a:Int){b:Int}(h:0<b):0<=a %b:=Int.emod_nonneg _ (by omega)
theorem mod_lt(a:Int){b:Int}(h:0<b):a %b<b:=Int.emod_lt_of_pos _ h
theorem ok_stir{f:Addr}{fd:FuncData}(F:Fun K "_law_b_stirred" "_law_b_stirred" zbl f fd):FnOk P w K mg base CX0 1 f fd ["cell","at"] (spStir K):=by
 refine F.ok sc_stir (fun vs H Q E h=> ?_) (fun cdv A outer s H vs Q E hr h=> ?_)
 ·obtain⟨c,i,rfl,_⟩:=h
  rfl
 obtain⟨c,i,rfl,q⟩:=h
 refine⟨_,zae (zcs (zam op_ge (pv 0) (zbb op_pow zag zag) (nomark _)) (zah (zal (pv 0))) zay) (zae (zas (i:=2) sc_stir.nd rfl (Or.inl rfl) (zbb op_mod (zbb zcz (zbb zcz (zbb op_mul (zbb op_mod (pv 0) zag) zag) (zbb op_mul (pv 1) zag)) zag) zag)) (zae (zas (i:=3) sc_stir.nd rfl (Or.inl rfl) (zbb op_mod (zbb zcz (zbb zcz (zbb op_mul (pv 2) (pv 2)) (zbb op_mul zag (pv 1))) zag) zag)) (zae (zas (i:=4) sc_stir.nd rfl (Or.inl rfl) (zbb op_mod (zbb zcz (zbb zcz (zbb op_mul (pv 3) (pv 3)) (zbb op_mul zag (pv 2))) (pv 1)) zag)) (zah (zal (zbb zcz (zbb op_mul (pv 3) zag) (pv 4))))))),?_⟩
 refine⟨_,rfl,_,_,rfl,rfl,⟨by decide,by decide,by decide⟩,_,_,rfl,rfl,_,rfl,?_⟩
 refine ite2 (fun c1=> ?_) (fun c1=> ?_)
 ·have c2:(10:Int)^(18:Int).toNat<=c:=of_decide_eq_true c1
  have c3:(0:Int)<=10^(18:Int).toNat:=by decide
  exact⟨_,rfl,q c (by omega)⟩
 ·refine⟨_,rfl,_,_,rfl,rfl,(by show(0:Int)<2147483629;decide),_,_,rfl,rfl,.inr ⟨by decide,by decide⟩,_,rfl,_,_,rfl,rfl,.inr ⟨by decide,by decide⟩,_,_,rfl,rfl,_,_,rfl,rfl,_,_,rfl,rfl,(by show(0:Int)<2147483587;decide),?_⟩
  generalize hfirst:((fun i j=>V.int (i %j)) _ _:V)=vf
  obtain⟨a1,e1,a2,a3⟩:∃a:Int,vf= .int a/\0<=a/\a<2147483587:=⟨_,hfirst.symm,mod_nn _ (by decide),mod_lt _ (by decide)⟩
  rw[e1]
  refine⟨_,rfl,_,rfl,_,_,rfl,rfl,.inl ⟨by omega,by omega⟩,_,rfl,_,_,rfl,rfl,.inl ⟨by decide,by decide⟩,_,_,rfl,rfl,_,_,rfl,rfl,_,_,rfl,rfl,(by show(0:Int)<2147483579;decide),?_⟩
  generalize hsec:((fun i j=>V.int (i %j)) _ _:V)=vs
  obtain⟨b1,f1,b2,b3⟩:∃a:Int,vs= .int a/\0<=a/\a<2147483579:=⟨_,hsec.symm,mod_nn _ (by decide),mod_lt _ (by decide)⟩
  rw[f1]
  refine⟨_,rfl,_,rfl,_,_,rfl,rfl,.inl ⟨by omega,by omega⟩,_,rfl,_,_,rfl,rfl,.inl ⟨by decide,by decide⟩,_,_,rfl,rfl,_,rfl,_,_,rfl,rfl,_,_,rfl,rfl,(by show(0:Int)<2147483563;decide),?_⟩
  generalize hthd:((fun i j=>V.int (i %j)) _ _:V)=vt
  obtain⟨c1',g1,c2,c3⟩:∃a:Int,vt= .int a/\0<=a/\a<2147483563:=⟨_,hthd.symm,mod_nn _ (by decide),mod_lt _ (by decide)⟩
  rw[g1]
  refine⟨_,rfl,_,_,rfl,rfl,.inr ⟨by decide,by decide⟩,_,rfl,_,_,rfl,rfl,q _ ?_⟩
  have:=Int.mul_nonneg b2 (show(0:Int)<=2147483563 by decide)
  omega
end
end Hs
namespace Hs
open PySem L2 HsD
section
variable{P:Program}{w:World}{K:W.Frag}{mg:Str->Option Value}{base:Heap}
theorem at_ints{ns:List Int}{k:Int}(h0:0<=k)(h1:k<(ns.length:Int)):∃v:Int,atI (ns.map V.int) k=some (.int v)/\ns[k.toNat]? =some v:=by
 have hk:k.toNat<ns.length:=by omega
 have ek:((k.toNat:Nat):Int)=k:=by omega
 have q:atI (ns.map V.int) ((k.toNat:Nat):Int)=some (.int ns[k.toNat]):=atI_nat (by rw[List.getElem?_map,List.getElem?_eq_getElem hk];rfl)
 rw[ek]at q
 exact⟨_,q,List.getElem?_eq_getElem hk⟩
noncomputable def spDigit(K:W.Frag):Sp:=fun vs H Q _=>∃(tp scr:Addr) (ns:List Int) (m:Int),vs=[.ref tp,.int m]/\TapeV K H tp scr ns/\0<m/\m<1000000000000000000000000000000/\
 ∀r H',0<=r->r<m->SameX tp H H'->TapeV K H' tp scr ns->Q (.int r) H'
theorem sc_digit:FnScope ["tape","many","at","cell","found"] ["tape","many"] (defScope zat):=⟨rfl,rfl,rfl,by decide+kernel,rfl,by decide+kernel,by decide+kernel⟩
theorem ok_digit{f f1:Addr}{fd d1:FuncData}(F:Fun K "_law_b_digit" "_law_b_digit" zat f fd)(D1:Dfn K mg "_law_b_stirred" zbl ["cell","at"] f1 d1)(G1:FnOk P w K mg base CX0 1 f1 d1 ["cell","at"] (spStir K))(mL:mg "len"=none):
  FnOk P w K mg base CX0 2 f fd ["tape","many"] (spDigit K):=by
 refine F.ok sc_digit (fun vs H Q E h=> ?_) (fun cdv A outer s H vs Q E hr h=> ?_)
 ·obtain⟨tp,scr,ns,m,rfl,_⟩:=h
  rfl
 obtain⟨tp,scr,ns,m,rfl,hT,hm0,hm1,q⟩:=h
 refine⟨_,zae (zcs (zam op_lt (zan zce (pv 0) zag (fun _ _=>rfl)) (pv 1) (nomark _)) (zae (zas (i:=2) sc_digit.nd rfl (Or.inl rfl) (zan zce (pv 0) zag (fun _ _=>rfl))) (zae (zas (i:=3) sc_digit.nd rfl (Or.inl rfl) (zbb zcz (zbb op_mul zag (pv 2)) zag)) (zae (zcs (zam op_lt (pv 2) (zai zao rfl mL PySem.boot_len (zaa (zan zce (pv 0) zag (fun _ _=>rfl)) zab)) (nomark _)) (zah (zas (i:=3) sc_digit.nd rfl (Or.inl rfl) (zan zce (zan zce (pv 0) zag (fun _ _=>rfl)) (pv 2) (fun _ _=>rfl)))) (zah (zcs (zam (op_neD hr.units) (zan zce (pv 0) zag (fun _ _=>rfl)) (pe_lst zab) (nomark _)) (zah (zas (i:=3) sc_digit.nd rfl (Or.inl rfl) (zbb zcz (zbb op_mod (zan zce (zan zce (pv 0) zag (fun _ _=>rfl)) (zbb op_mod (zbb op_mul (pv 2) zag) (zai zao rfl mL PySem.boot_len (zaa (zan zce (pv 0) zag (fun _ _=>rfl)) zab))) (fun _ _=>rfl)) zag) (zbb op_mul (pv 2) zag))))
      zay))) (zae (ps_asg (zbb zcz (pv 2) zag) (pg_sub (pv 0) zag set_list)) (zah (ps_asg (zaf G1 hr rfl D1.m D1.F.kp D1.b .nil pass0 (zaa (pv 3) (zaa (pv 2) zab))) (pg_sub (pv 0) zag set_list))))))) zay) (zae (zas (i:=4) sc_digit.nd rfl (Or.inl rfl) (zbb op_mod (zan zce (pv 0) zag (fun _ _=>rfl)) (pv 1))) (zae (ps_asg (zbb op_fdivL (zan zce (pv 0) zag (fun _ _=>rfl)) (pv 1)) (pg_sub (pv 0) zag set_list)) (zah (zal (pv 4))))),?_⟩
 obtain⟨⟨i,r,hH,hi,hr0⟩,hS0,h63⟩:=hT
 have hS:=hS0.sq
 refine⟨_,rfl,tp,_,_,.int r,rfl,rfl,SqL.of hH,rfl,_,rfl,_,_,rfl,rfl,_,rfl,?_⟩
 refine ite2 (fun c=> ?_) (fun c=> ?_)
 ·refine⟨_,rfl,tp,_,_,.int i,rfl,rfl,SqL.of hH,rfl,?_⟩
  refine⟨_,rfl,_,_,rfl,rfl,.inl ⟨by decide,by decide⟩,_,_,rfl,rfl,?_⟩
  refine⟨_,rfl,_,rfl,tp,_,_,.ref scr,rfl,rfl,SqL.of hH,rfl,scr,_,rfl,.inl hS,fun hz=>⟨_,_,rfl,rfl,_,rfl,?_⟩⟩
  have go:∀(H2:Hp) (tl:V),SameX tp H H2->H2 tp=some (.lst [.ref scr,.int i,.int r])->∀r',0<=r'->∀q',q'=r'/m->
    ((0:Int)<=r' %m/\r' %m<m)/\SameX tp H (upd (upd (upd H2 tp (.lst [.ref scr,.int (i+1),.int r])) tp (.lst [.ref scr,.int (i+1),.int r'])) tp (.lst [.ref scr,.int (i+1),.int q']))/\
    TapeV K (upd (upd (upd H2 tp (.lst [.ref scr,.int (i+1),.int r])) tp (.lst [.ref scr,.int (i+1),.int r'])) tp (.lst [.ref scr,.int (i+1),.int q'])) tp scr ns:=fun H2 _ sm e r' h0 q' hq=>by
   have sx:SameX tp H (upd (upd (upd H2 tp (.lst [.ref scr,.int (i+1),.int r])) tp (.lst [.ref scr,.int (i+1),.int r'])) tp (.lst [.ref scr,.int (i+1),.int q'])):=sm.upd.upd.upd
   refine⟨⟨mod_nn _ hm0,mod_lt _ hm0⟩,sx,⟨i+1,q',zac,by omega,?_⟩,hS0.samex sx hH,h63⟩
   rw[hq]
   exact Int.ediv_nonneg h0 (by omega)
  refine ite2 (fun c2=> ?_) (fun c2=> ?_)
  ·have c3:i<((ns.map V.int).length:Int):=of_decide_eq_true c2
   rw[List.length_map]at c3
   obtain⟨v,hx,_⟩:=at_ints hi c3
   refine⟨_,rfl,tp,_,_,.ref scr,rfl,rfl,SqL.of hH,rfl,_,rfl,scr,_,_,_,rfl,rfl,hS,hx,?_⟩
   refine⟨_,rfl,_,_,rfl,rfl,_,rfl,tp,_,_,1,rfl,rfl,hH,rfl,?_⟩
   refine⟨_,rfl,_,rfl,_,_,rfl,fun r' h0=>⟨_,rfl,tp,_,_,2,rfl,rfl,zac,rfl,?_⟩⟩
   obtain⟨⟨g1,g2⟩,g3,g4⟩:=go H (.non) (SameX.refl _ _) hH r' h0 _ rfl
   refine⟨_,rfl,tp,_,_,.int r',rfl,rfl,SqL.of zac,rfl,_,rfl,_,_,rfl,rfl,hm0,?_⟩
   refine⟨_,rfl,tp,_,_,.int r',rfl,rfl,SqL.of zac,rfl,_,rfl,_,_,rfl,rfl,⟨hm0,hm1⟩,_,rfl,tp,_,_,2,rfl,rfl,zac,rfl,?_⟩
   exact⟨_,rfl,q _ _ g1 g2 g3 g4⟩
  ·refine⟨_,rfl,tp,_,_,.ref scr,rfl,rfl,SqL.of hH,rfl,(by show 0<=sizeLine;decide),fun pe hpe=> ?_⟩
   have sm:=zad hpe (.lst [])
   have hH2:=sm _ _ hH
   have hS2:=sm.seq hS
   refine⟨.list (ns.map PyData.int),.list [],.lst hS2 (DVs.ints ns),.lst (SqL.of zac) .nil,lay_ints ns,rfl,(by show min _ (0+1)<=64;omega),_,rfl,?_⟩
   refine ite2 (fun c4=> ?_) (fun c4=> ?_)
   ·have hpos:0<ns.length:=by
     cases ns with
     |nil=>simp[PyData.eqv,PyData.eqvAll]at c4
     |cons _ _=>simp
    have e3:(0:Int)<((ns.map V.int).length:Int):=by rw[List.length_map];omega
    have hk1:=mod_nn (i*3) e3
    have hk2:=mod_lt (i*3) e3
    rw[List.length_map]at hk1 hk2
    obtain⟨v,hx,_⟩:=at_ints hk1 hk2
    rw[<-List.length_map (f:=V.int)]at hx
    refine⟨_,rfl,tp,_,_,.ref scr,rfl,rfl,SqL.of hH2,rfl,_,rfl,_,_,rfl,rfl,.inr ⟨by decide,by decide⟩,_,rfl,tp,_,_,.ref scr,rfl,rfl,SqL.of hH2,rfl,scr,_,rfl,.inl hS2,fun hz2=>⟨_,_,rfl,rfl,e3,scr,_,_,_,rfl,rfl,hS2,hx,?_⟩⟩
    refine⟨_,_,rfl,rfl,(by show(0:Int)<999999883;decide),_,rfl,_,_,rfl,rfl,.inr ⟨by decide,by decide⟩,_,_,rfl,rfl,?_⟩
    refine⟨_,rfl,_,_,rfl,rfl,_,rfl,tp,_,_,1,rfl,rfl,hH2,rfl,?_⟩
    refine⟨_,rfl,_,rfl,_,_,rfl,fun r' h0=>⟨_,rfl,tp,_,_,2,rfl,rfl,zac,rfl,?_⟩⟩
    obtain⟨⟨g1,g2⟩,g3,g4⟩:=go _ (.non) (sm.x _) hH2 r' h0 _ rfl
    refine⟨_,rfl,tp,_,_,.int r',rfl,rfl,SqL.of zac,rfl,_,rfl,_,_,rfl,rfl,hm0,?_⟩
    refine⟨_,rfl,tp,_,_,.int r',rfl,rfl,SqL.of zac,rfl,_,rfl,_,_,rfl,rfl,⟨hm0,hm1⟩,_,rfl,tp,_,_,2,rfl,rfl,zac,rfl,?_⟩
    exact⟨_,rfl,q _ _ g1 g2 g3 g4⟩
   ·refine⟨_,rfl,_,_,rfl,rfl,_,rfl,tp,_,_,1,rfl,rfl,hH2,rfl,?_⟩
    refine⟨_,rfl,_,rfl,_,_,rfl,fun r' h0=>⟨_,rfl,tp,_,_,2,rfl,rfl,zac,rfl,?_⟩⟩
    obtain⟨⟨g1,g2⟩,g3,g4⟩:=go _ (.non) (sm.x _) hH2 r' h0 _ rfl
    refine⟨_,rfl,tp,_,_,.int r',rfl,rfl,SqL.of zac,rfl,_,rfl,_,_,rfl,rfl,hm0,?_⟩
    refine⟨_,rfl,tp,_,_,.int r',rfl,rfl,SqL.of zac,rfl,_,rfl,_,_,rfl,rfl,⟨hm0,hm1⟩,_,rfl,tp,_,_,2,rfl,rfl,zac,rfl,?_⟩
    exact⟨_,rfl,q _ _ g1 g2 g3 g4⟩
 ·refine⟨_,rfl,tp,_,_,.int r,rfl,rfl,SqL.of hH,rfl,_,rfl,_,_,rfl,rfl,hm0,?_⟩
  refine⟨_,rfl,tp,_,_,.int r,rfl,rfl,SqL.of hH,rfl,_,rfl,_,_,rfl,rfl,⟨hm0,hm1⟩,_,rfl,tp,_,_,2,rfl,rfl,hH,rfl,?_⟩
  have sx:SameX tp H (upd H tp (.lst [.ref scr,.int i,.int (r/m)])):=(SameX.refl _ _).upd
  exact⟨_,rfl,q _ _ (mod_nn _ hm0) (mod_lt _ hm0) sx ⟨⟨i,r/m,zac,hi,Int.ediv_nonneg hr0 (by omega)⟩,hS0.samex sx hH,h63⟩⟩
end
end Hs
namespace L2
open PySem
theorem DVs.append{K:W.Frag}{H:Hp}{xs ys:List V}{ds es:List PyData}(h:DVs K H xs ds)(h':DVs K H ys es):DVs K H (xs++ys) (ds++es):=
 DVs.rec (motive_1:=fun _ _ _=>True) (motive_2:=fun xs ds _=>DVs K H (xs++ys) (ds++es)) trivial (fun _=>trivial) (fun _=>trivial) (fun _=>trivial) (fun _ _ _=>trivial) (fun _ _ _=>trivial) (fun _=>trivial) (fun _ _=>trivial) h' (fun h _ _ t=> .cons h t) h
theorem DVs.snoc{K:W.Frag}{H:Hp}{xs:List V}{ds:List PyData}{x:V}{d:PyData}(h:DVs K H xs ds)(h':DV K H x d):DVs K H (xs++[x]) (ds++[d]):=h.append (.cons h' .nil)
theorem SameX.tup{K:W.Frag}{t:Addr}{H H':Hp}{a:Addr}{xs zs:List V}(e:SameX t H H')(n:H t=some (.lst zs))(h:SqT K H a xs):SqT K H' a xs:=by
 rcases h with(h|⟨o,h⟩)|h
 ·exact .inl (.inl (e _ _ (ne_of h n (by intro z;cases z)) h))
 ·exact .inl (.inr ⟨o,e _ _ (ne_of h n (by intro z;cases z)) h⟩)
 ·exact .inr h
end L2
namespace HsD
open PySem L2
theorem pairs_samex{K:W.Frag}{t:Addr}{H H':Hp}{zs:List V}(e:SameX t H H')(n:H t=some (.lst zs)){rs:List V}{ps:List (Int×Int)}(h:DVs K H rs (ps.map pairD)):DVs K H' rs (ps.map pairD):=by
 induction ps generalizing rs with
 |nil=>cases h;exact .nil
 |cons p ps ih=>
  cases h with
  |cons h tl=>
   refine .cons ?_ (ih tl)
   cases h with
   |tup h hd=>
    cases hd with
    |cons a1 t1=>
     cases a1
     cases t1 with
     |cons a2 t2=>
      cases a2
      cases t2
      exact .tup (e.tup n h) (.cons (.int _) (.cons (.int _) .nil))
theorem WebV.samex{K:W.Frag}{t:Addr}{H H':Hp}{zs:List V}{a:Addr}{n:Int}{ts:List (Int×Int)}(h:WebV K H a n ts)(e:SameX t H H')(hn:H t=some (.lst zs)):WebV K H' a n ts:=by
 obtain⟨u,rs,h1,h2,h3⟩:=h
 exact⟨u,rs,e.tup hn h1,e.tup hn h2,pairs_samex e hn h3⟩
structure Sub(j:Nat)(l:List Int):Prop where
 nd:l.Nodup
 lt:∀i∈l,0<=i/\i<(j:Int)
theorem Sub.nil(j:Nat):Sub j []:=⟨List.nodup_nil,fun i h=>(nomatch h)⟩
theorem Sub.sub{j:Nat}{l l':List Int}(h:Sub j l)(s:l'.Sublist l):Sub j l':=⟨h.nd.sublist s,fun i hi=>h.lt i (s.subset hi)⟩
theorem Sub.mono{j k:Nat}{l:List Int}(h:Sub j l)(e:j<=k):Sub k l:=⟨h.nd,fun i hi=>⟨(h.lt i hi).1,by have:=(h.lt i hi).2;omega⟩⟩
theorem Sub.snoc{j:Nat}{l:List Int}(h:Sub j l):Sub (j+1) (l++[(j:Int)]):=by
 refine⟨List.nodup_append.mpr ⟨h.nd,by simp,fun a ha b hb e=> ?_⟩,fun i hi=> ?_⟩
 ·have:=(h.lt a ha).2
  simp at hb
  omega
 ·rcases List.mem_append.mp hi with q|q
  ·exact⟨(h.lt i q).1,by have:=(h.lt i q).2;omega⟩
  ·simp at q;omega
theorem Sub.range(j:Nat):Sub j ((List.range j).map fun(k:Nat)=>(0+(k:Nat):Int)):=by
 refine⟨?_,fun i hi=> ?_⟩
 ·rw[List.nodup_iff_pairwise_ne,List.pairwise_map]
  exact(List.nodup_iff_pairwise_ne.mp List.nodup_range).imp fun{a b} h e=>h (by omega)
 ·obtain⟨k,hk,rfl⟩:=List.mem_map.mp hi
  have:=List.mem_range.mp hk
  omega
theorem zdd{α:Type} [DecidableEq α]:∀{l m:List α},l.Nodup->(∀a∈l,a∈m)->l.length<=m.length
 |[],m,_,_=>Nat.zero_le _
 |a::l,m,nd,h=>by
  have ha:=h a List.mem_cons_self
  have nd':=List.nodup_cons.mp nd
  have q:∀b∈l,b∈m.erase a:=fun b hb=>by
   have hne:b≠a:=fun e=>nd'.1 (e▸hb)
   exact(List.mem_erase_of_ne hne).mpr (h b (List.mem_cons_of_mem _ hb))
  have:=zdd nd'.2 q
  have e:=List.length_erase_of_mem ha
  have:0<m.length:=List.length_pos_of_mem ha
  simp only[List.length_cons]
  omega
theorem Sub.len{j:Nat}{l:List Int}(h:Sub j l):l.length<=j:=by
 have q:=zdd (m:=(List.range j).map fun(k:Nat)=>(k:Int)) h.nd fun i hi=>by
  have:=h.lt i hi
  exact List.mem_map.mpr ⟨i.toNat,List.mem_range.mpr (by omega),by omega⟩
 simpa using q
structure PairsOk(n:Int)(ps:List (Int×Int)):Prop where
 nd:ps.Nodup
 lt:∀p∈ps,0<=p.1/\p.1<p.2/\p.2<n
theorem PairsOk.nil(n:Int):PairsOk n []:=⟨List.nodup_nil,fun p h=>(nomatch h)⟩
theorem PairsOk.grow{j:Nat}{ps:List (Int×Int)}{l:List Int}(h:PairsOk j ps)(s:Sub j l):PairsOk (j+1:Nat) (ps++l.map fun i=>(i,(j:Int))):=by
 refine⟨List.nodup_append.mpr ⟨h.nd,?_,fun a ha b hb e=> ?_⟩,fun p hp=> ?_⟩
 ·rw[List.nodup_iff_pairwise_ne,List.pairwise_map]
  exact(List.nodup_iff_pairwise_ne.mp s.nd).imp fun{a b} h e=>h (by injection e)
 ·obtain⟨i,hi,rfl⟩:=List.mem_map.mp hb
  subst e
  have:=(h.lt _ ha).2.2
  simp at this
 ·rcases List.mem_append.mp hp with q|q
  ·have:=h.lt p q
   omega
  ·obtain⟨i,hi,rfl⟩:=List.mem_map.mp q
   have:=s.lt i hi
   refine⟨this.1,this.2,?_⟩
   show(j:Int)<((j+1:Nat):Int)
   omega
noncomputable def ringP(k:Nat):List (Int×Int):=(List.range k).map fun(i:Nat)=>((0+(i:Nat):Int),(0+(i:Nat):Int)+1)
theorem ringP_succ(k:Nat):ringP (k+1)=ringP k++[((0+(k:Nat):Int),(0+(k:Nat):Int)+1)]:=by
 unfold ringP
 rw[List.range_succ,List.map_append]
 rfl
theorem ringP_ok{n:Int}(k:Nat)(h:(k:Int)<n\/k=0):PairsOk n (ringP k):=by
 refine⟨?_,fun p hp=> ?_⟩
 ·unfold ringP
  rw[List.nodup_iff_pairwise_ne,List.pairwise_map]
  exact(List.nodup_iff_pairwise_ne.mp List.nodup_range).imp fun{a b} h e=>h (by injection e with e1 _;omega)
 ·obtain⟨i,hi,rfl⟩:=List.mem_map.mp hp
  have:=List.mem_range.mp hi
  refine⟨by omega,by omega,?_⟩
  show 0+(i:Int)+1<n
  omega
theorem ringP_closed{n:Int}{k:Nat}(hk:(k:Int)=n-1)(h2:2<n):PairsOk n (ringP k++[(0,n-1)]):=by
 have o:=ringP_ok (n:=n) k (.inl (by omega))
 refine⟨List.nodup_append.mpr ⟨o.nd,by simp,fun a ha b hb e=> ?_⟩,fun p hp=> ?_⟩
 ·simp at hb
  subst hb
  obtain⟨i,hi,rfl⟩:=List.mem_map.mp ha
  injection e with e1 e2
  omega
 ·rcases List.mem_append.mp hp with q|q
  ·exact o.lt p q
  ·simp at q
   subst q
   refine⟨Int.le_refl _,?_,?_⟩
   ·show(0:Int)<n-1;omega
   ·show n-1<n;omega
noncomputable def allP(n:Nat):List (Int×Int):=((List.range n).map fun(j:Nat)=>(List.range j).map fun(i:Nat)=>((i:Int),(j:Int))).flatten
theorem pairs_len{n:Int}{ps:List (Int×Int)}(h:PairsOk n ps)(hn:n<=10):ps.length<=45:=by
 have q:=zdd (m:=allP 10) h.nd fun p hp=>by
  obtain⟨h0,h1,h2⟩:=h.lt p hp
  obtain⟨a,b⟩:=p
  dsimp only at h0 h1 h2
  refine List.mem_flatten.mpr ⟨(List.range b.toNat).map fun(i:Nat)=>((i:Int),((b.toNat:Nat):Int)),List.mem_map.mpr ⟨b.toNat,List.mem_range.mpr (by omega),rfl⟩,List.mem_map.mpr ⟨a.toNat,List.mem_range.mpr (by omega),?_⟩⟩
  have e1:((a.toNat:Nat):Int)=a:=by omega
  have e2:((b.toNat:Nat):Int)=b:=by omega
  rw[e1,e2]
 have e:(allP 10).length=45:=by decide
 omega
end HsD
namespace Hs
open PySem L2 HsD
section
variable{P:Program}{w:World}{K:W.Frag}{mg:Str->Option Value}{base:Heap}
noncomputable def spPairs(K:W.Frag):Sp:=fun vs H Q _=>∃(tp scr:Addr) (ns:List Int) (n kind:Int),vs=[.ref tp,.int n,.int kind]/\TapeV K H tp scr ns/\0<=n/\n<=10/\0<=kind/\kind<6/\
 ∀r rs ps H',SameX tp H H'->TapeV K H' tp scr ns->r≠tp->H r=none->H' r=some (.lst rs)->DVs K H' rs (ps.map pairD)->PairsOk n ps->Q (.ref r) H'
theorem zdi:FnScope ["tape","n","kind","found","wide","crowds","j","base","some"] ["tape","n","kind"] (defScope zby):=⟨rfl,rfl,rfl,by decide+kernel,rfl,by decide+kernel,by decide+kernel⟩
structure PB(K:W.Frag)(H0 H:Hp)(tp scr:Addr)(ns:List Int)(fnd crw:Addr)(j L:Nat)(jc:Nat):Prop where
 sx:SameX tp H0 H
 tv:TapeV K H tp scr ns
 ft:fnd≠tp
 ct:crw≠tp
 fc:fnd≠crw
 f0:H0 fnd=none
 c0:H0 crw=none
 fd:∃rs ps,H fnd=some (.lst rs)/\DVs K H rs (ps.map pairD)/\PairsOk (j:Int) ps
 cr:∃cs,H crw=some (.lst cs)/\cs.length=L/\∀x∈cs,∃a l,x= .ref a/\a≠tp/\a≠crw/\H a=some (.lst (l.map V.int))/\Sub jc l
theorem TapeV.lst{H:Hp}{tp scr:Addr}{ns:List Int}(h:TapeV K H tp scr ns):∃zs,H tp=some (.lst zs):=by
 obtain⟨⟨i,r,h1,_⟩,_⟩:=h
 exact⟨_,h1⟩
theorem PB.step{H0 H H':Hp}{tp scr:Addr}{ns:List Int}{fnd crw:Addr}{j L jc:Nat}(p:PB K H0 H tp scr ns fnd crw j L jc)(sx:SameX tp H H')(tv:TapeV K H' tp scr ns):PB K H0 H' tp scr ns fnd crw j L jc:=by
 obtain⟨zs,hz⟩:=TapeV.lst p.tv
 obtain⟨rs,ps,e1,e2,e3⟩:=p.fd
 obtain⟨cs,c1,c2,c3⟩:=p.cr
 refine⟨p.sx.trans sx,tv,p.ft,p.ct,p.fc,p.f0,p.c0,⟨rs,ps,sx _ _ p.ft e1,pairs_samex sx hz e2,e3⟩,⟨cs,sx _ _ p.ct c1,c2,fun x hx=> ?_⟩⟩
 obtain⟨a,l,f1,f2,f3,f4,f5⟩:=c3 x hx
 exact⟨a,l,f1,f2,f3,sx _ _ f2 f4,f5⟩
theorem PB.same{H0 H H':Hp}{tp scr:Addr}{ns:List Int}{fnd crw:Addr}{j L jc:Nat}(p:PB K H0 H tp scr ns fnd crw j L jc)(s:Same H H'):PB K H0 H' tp scr ns fnd crw j L jc:=p.step (s.x _) (p.tv.same s)
theorem zbc{H:Hp}{a b:Addr}{o:HO}(h:H a=some o)(n:H b=none):b≠a:=fun e=>by rw[e,h]at n;cases n
noncomputable def sg(tp:Addr)(n kind:Int)(fnd:Addr)(wide:Int)(crw:Addr)(a b c:Option V):St:=[some (.ref tp),some (.int n),some (.int kind),some (.ref fnd),some (.int wide),some (.ref crw),a,b,c]
noncomputable def JP(K:W.Frag)(H0:Hp)(tp scr:Addr)(ns:List Int)(n kind wide:Int)(j:Nat)(σ:St)(H:Hp):Prop:=
 ∃fnd crw a b c,σ=sg tp n kind fnd wide crw a b c/\PB K H0 H tp scr ns fnd crw j (j+1) j
noncomputable def rTail(K:W.Frag):TS:=tAsg (tOp rCat (tVar 3) (tComp (iListL K (tVar 8)) ["i"] [6] (gName 0) (fun _ H Q=>Q true H) (tTup (tCons (tVar 0) (tCons (tVar 1) tNil))))) (gName 3)
theorem rd_tail{H0 H:Hp}{tp scr:Addr}{ns:List Int}{n kind wide:Int}{fnd crw sm:Addr}{j:Nat}{b:Option V}{l:List Int}{D:Ends}(hj:j<10)(p:PB K H0 H tp scr ns fnd crw j (j+2) (j+1))(hs:H sm=some (.lst (l.map V.int)))(hst:sm≠tp)(hl:Sub j l)(q:∀σ' H',JP K H0 tp scr ns n kind wide (j+1) σ' H'->D.nx σ' H'):rTail K D (sg tp n kind fnd wide crw (some (.int (j:Int))) b (some (.ref sm))) H:=by
 have hll:=hl.len
 refine⟨_,rfl,_,rfl,sm,_,rfl,SqL.of hs,fun hz=> ?_⟩
 refine zde (xs:=l.map V.int) (fun i acc σ H'=>DVs K H' acc (((l.take i).map fun i=>(i,(j:Int))).map pairD)/\Same H H'/\acc.length=i/\∃o,σ=[o,some (.int (j:Int))]) ⟨.nil,Same.refl _,rfl,_,rfl⟩ (fun i acc σ H' _ p=>p.2.1.seq (SqL.of hs)) (fun i acc σ H' hi p=>by rw[p.2.2.1];exact Nat.le_refl _) hz (fun i x acc σ H' hx p'=> ?_) (fun acc σ H' p'=> ?_)
 ·obtain⟨dv,s',hlen,o,rfl⟩:=p'
  rw[List.getElem?_map]at hx
  cases e:l[i]? with
  |none=>rw[e]at hx;cases hx
  |some v=>
   rw[e]at hx
   cases hx
   refine⟨_,rfl,_,rfl,(by show 2<=sizeLine;decide),fun pn hpn=> ?_⟩
   have sn:=zad hpn (.tup [.int v,.int (j:Int)])
   refine⟨?_,s'.trans sn,by simp[hlen],_,rfl⟩
   have ea:((l.take (i+1)).map fun i=>(i,(j:Int))).map pairD=((l.take i).map fun i=>(i,(j:Int))).map pairD++[pairD (v,(j:Int))]:=by
    rw[List.take_add_one,e];simp
   rw[ea]
   exact(DVs.same sn dv).snoc (.tup (SqT.of zac) (.cons (.int _) (.cons (.int _) .nil)))
 ·intro p1 hp1
  obtain⟨dv,s',hlen,_⟩:=p'
  rw[List.length_map,List.take_length]at dv
  rw[List.length_map]at hlen
  have s1:=zad hp1 (.lst acc)
  have p2:=(p.same s').same s1
  obtain⟨rs,ps,e1,e2,e3⟩:=p2.fd
  have hrl:rs.length<=45:=by
   have:=pairs_len e3 (by omega)
   have e4:=e2.len
   rw[List.length_map]at e4
   omega
  refine⟨fnd,p1,rs,acc,rfl,rfl,e1,zac,(by rw[sizeLine_eq];omega),fun pr hpr=>q _ _ ?_⟩
  have s2:=zad hpr (.lst (rs++acc))
  have p3:=p2.same s2
  refine⟨pr,crw,_,_,_,rfl,?_⟩
  obtain⟨zs,hz'⟩:=TapeV.lst p2.tv
  obtain⟨cs,c1,c2,c3⟩:=p3.cr
  refine⟨p3.sx,p3.tv,zbc hz' hpr,p3.ct,?_,?_,p3.c0,⟨rs++acc,ps++l.map fun i=>(i,(j:Int)),zac,?_,e3.grow hl⟩,⟨cs,c1,c2,c3⟩⟩
  ·obtain⟨cs',c1',_⟩:=p2.cr
   exact zbc c1' hpr
  ·cases e:H0 pr with
   |none=>rfl
   |some o=>
    have:=p2.sx pr o (zbc hz' hpr) e
    rw[this]at hpr;cases hpr
  ·rw[List.map_append]
   exact(DVs.same s2 e2).append (DVs.same s2 (DVs.same s1 dv))
noncomputable def rIf5(K:W.Frag):TS:=tIfS (tTest (tOp rEq (tVar 2) (tC (.int 5)))) (tAsg (tComp (iRng1 (tCons (tVar 6) tNil)) ["i"] [6,4] (gName 0) (tTest (tOp (rI0 fun i j=> .bl (decide (i<=j))) (tOp (rI0 fun i j=> .int (i-j)) (tVar 1) (tVar 0)) (tVar 2))) (tVar 0)) (gName 8)) tNext
theorem rd_if5{H0 H:Hp}{tp scr:Addr}{ns:List Int}{n kind wide:Int}{fnd crw sm:Addr}{j:Nat}{b:Option V}{l:List Int}{D:Ends}(hj:j<10)(p:PB K H0 H tp scr ns fnd crw j (j+2) (j+1))(hs:H sm=some (.lst (l.map V.int)))(hst:sm≠tp)(hl:Sub j l)(q:∀σ' H',JP K H0 tp scr ns n kind wide (j+1) σ' H'->D.nx σ' H'):tSeq (rIf5 K) (rTail K) D (sg tp n kind fnd wide crw (some (.int (j:Int))) b (some (.ref sm))) H:=by
 refine⟨_,rfl,rfl,_,rfl,?_⟩
 refine ite2 (fun c=> ?_) (fun c=> ?_)
 ·refine⟨_,rfl,_,rfl,by omega,by omega,?_⟩
  have en:((j:Int)).toNat=j:=by omega
  rw[en]
  refine zbu (fun i acc σ H'=>(∃l',acc=l'.map V.int/\l'.Sublist ((List.range i).map fun(k:Nat)=>(0+(k:Nat):Int)))/\Same H H'/\∃o,σ=[o,some (.int (j:Int)),some (.int wide)]) ⟨⟨[],rfl,List.Sublist.refl _⟩,Same.refl _,_,rfl⟩ (fun i acc σ H' hi p'=> ?_) (by rw[sizeLine_eq];omega) (fun i acc σ H' hi p'=> ?_) (fun acc σ H' p'=> ?_)
  ·obtain⟨⟨l',e,sl⟩,_⟩:=p'
   rw[e,List.length_map]
   have:=sl.length_le
   simpa using this
  ·obtain⟨⟨l',rfl,sl⟩,s',o,rfl⟩:=p'
   refine⟨_,rfl,_,rfl,_,_,rfl,rfl,_,rfl,_,_,rfl,rfl,_,rfl,?_⟩
   have er:(List.range (i+1)).map (fun(k:Nat)=>(0+(k:Nat):Int))=(List.range i).map (fun(k:Nat)=>(0+(k:Nat):Int))++[0+(i:Int)]:=by rw[List.range_succ,List.map_append];rfl
   refine ite2 (fun c2=> ?_) (fun c2=> ?_)
   ·refine⟨_,rfl,⟨l'++[0+(i:Int)],by rw[List.map_append];rfl,?_⟩,s',_,rfl⟩
    rw[er];exact sl.append (List.Sublist.refl _)
   ·refine⟨⟨l',rfl,?_⟩,s',_,rfl⟩
    rw[er];exact sl.trans (List.sublist_append_left _ _)
  ·intro p1 hp1
   obtain⟨⟨l',rfl,sl⟩,s',_⟩:=p'
   have p2:=(p.same s').same (zad hp1 (.lst (l'.map V.int)))
   obtain⟨zs,hz'⟩:=TapeV.lst (p.same s').tv
   exact rd_tail (kind:=kind) hj p2 zac (zbc hz' hp1) ((Sub.range j).sub sl) q
 ·exact rd_tail hj p hs hst hl q
noncomputable def rIf3(K:W.Frag):TS:=tIfS (tTest (tOp (rI0 fun i j=> .bl (decide (i<j))) (tVar 2) (tC (.int 3))))
 (tAsg (tComp (iRng1 (tCons (tVar 6) tNil)) ["i"] [2,0] (gName 0) (tTest (tOp (rI0 fun i j=> .bl (decide (i<j))) (tCall (spDigit K) [] E0 (tCons (tVar 2) (tCons (tC (.int 4)) tNil))) (tOp (rI0 fun i j=> .int (i+j)) (tVar 1) (tC (.int 1))))) (tVar 0)) (gName 8)) tNext
theorem rd_if3{H0 H:Hp}{tp scr:Addr}{ns:List Int}{n kind wide:Int}{fnd crw sm:Addr}{j:Nat}{b:Option V}{l:List Int}{D:Ends}(hj:j<10)(p:PB K H0 H tp scr ns fnd crw j (j+2) (j+1))(hs:H sm=some (.lst (l.map V.int)))(hst:sm≠tp)(hl:Sub j l)(q:∀σ' H',JP K H0 tp scr ns n kind wide (j+1) σ' H'->D.nx σ' H'):tSeq (rIf3 K) (tSeq (rIf5 K) (rTail K)) D (sg tp n kind fnd wide crw (some (.int (j:Int))) b (some (.ref sm))) H:=by
 refine⟨_,rfl,_,_,rfl,rfl,_,rfl,?_⟩
 refine ite2 (fun c=> ?_) (fun c=> ?_)
 ·refine⟨_,rfl,_,rfl,by omega,by omega,?_⟩
  have en:((j:Int)).toNat=j:=by omega
  rw[en]
  refine zbu (fun i acc σ H'=>(∃l',acc=l'.map V.int/\l'.Sublist ((List.range i).map fun(k:Nat)=>(0+(k:Nat):Int)))/\SameX tp H H'/\TapeV K H' tp scr ns/\∃o,σ=[o,some (.int kind),some (.ref tp)]) ⟨⟨[],rfl,List.Sublist.refl _⟩,SameX.refl _ _,p.tv,_,rfl⟩ (fun i acc σ H' hi p'=> ?_) (by rw[sizeLine_eq];omega) (fun i acc σ H' hi p'=> ?_) (fun acc σ H' p'=> ?_)
  ·obtain⟨⟨l',e,sl⟩,_⟩:=p'
   rw[e,List.length_map]
   have:=sl.length_le
   simpa using this
  ·obtain⟨⟨l',rfl,sl⟩,s',tv',o,rfl⟩:=p'
   refine⟨_,rfl,tp,scr,ns,4,rfl,tv',by decide,by decide,fun r H2 hr0 hr1 s2 tv2=>⟨_,rfl,_,_,rfl,rfl,_,_,rfl,rfl,_,rfl,?_⟩⟩
   have er:(List.range (i+1)).map (fun(k:Nat)=>(0+(k:Nat):Int))=(List.range i).map (fun(k:Nat)=>(0+(k:Nat):Int))++[0+(i:Int)]:=by rw[List.range_succ,List.map_append];rfl
   refine ite2 (fun c2=> ?_) (fun c2=> ?_)
   ·refine⟨_,rfl,⟨l'++[0+(i:Int)],by rw[List.map_append];rfl,?_⟩,s'.trans s2,tv2,_,rfl⟩
    rw[er];exact sl.append (List.Sublist.refl _)
   ·refine⟨⟨l',rfl,?_⟩,s'.trans s2,tv2,_,rfl⟩
    rw[er];exact sl.trans (List.sublist_append_left _ _)
  ·intro p1 hp1
   obtain⟨⟨l',rfl,sl⟩,s',tv',_⟩:=p'
   have p2:=(p.step s' tv').same (zad hp1 (.lst (l'.map V.int)))
   obtain⟨zs,hz'⟩:=TapeV.lst tv'
   exact rd_if5 (kind:=kind) hj p2 zac (zbc hz' hp1) ((Sub.range j).sub sl) q
 ·exact rd_if5 hj p hs hst hl q
end
end Hs
namespace Hs
open PySem L2 HsD
section
variable{P:Program}{w:World}{K:W.Frag}{mg:Str->Option Value}{base:Heap}
theorem PB.push{H0 H:Hp}{tp scr:Addr}{ns:List Int}{fnd crw pn:Addr}{j L jc jd:Nat}{cs:List V}{l':List Int}(p:PB K H0 H tp scr ns fnd crw j L jc)(m1:H crw=some (.lst cs))(hpn:H pn=some (.lst (l'.map V.int)))(npt:pn≠tp)(npc:pn≠crw)(hs:Sub jd l')(le:jc<=jd)(hL:0<L):PB K H0 (upd H crw (.lst (cs++[.ref pn]))) tp scr ns fnd crw j (L+1) jd:=by
 have xw:SameX crw H (upd H crw (.lst (cs++[.ref pn]))):=(SameX.refl _ _).upd
 obtain⟨rs,ps,f1,f2,f3⟩:=p.fd
 obtain⟨cs',c1,c2,c3⟩:=p.cr
 have ecs:cs'=cs:=by
  rw[m1]at c1
  injection c1 with c1
  injection c1 with c1
  exact c1.symm
 subst ecs
 refine⟨fun b o hb e=> ?_,p.tv.other xw m1 p.ct.symm,p.ft,p.ct,p.fc,p.f0,p.c0,⟨rs,ps,xw _ _ p.fc f1,pairs_samex xw m1 f2,f3⟩,⟨cs'++[.ref pn],zac,by simp[c2],fun x hx=> ?_⟩⟩
 ·have nb:b≠crw:=fun z=>by rw[z,p.c0]at e;cases e
  exact xw _ _ nb (p.sx b o hb e)
 ·rcases List.mem_append.mp hx with hx|hx
  ·obtain⟨a,l,f1,f2,f3,f4,f5⟩:=c3 x hx
   exact⟨a,l,f1,f2,f3,xw _ _ f3 f4,f5.mono le⟩
  ·have ex:x= .ref pn:=by simpa using hx
   exact⟨pn,l',ex,npt,npc,xw _ _ npc hpn,hs⟩
theorem ok_pairs{f f1:Addr}{fd d1:FuncData}(F:Fun K "_law_b_pairs" "_law_b_pairs" zby f fd)(D1:Dfn K mg "_law_b_digit" zat ["tape","many"] f1 d1)(G1:FnOk P w K mg base CX0 2 f1 d1 ["tape","many"] (spDigit K))(mR:mg "range"=none)(mI:mg "int"=none)(mL:mg "len"=none):FnOk P w K mg base CX0 3 f fd ["tape","n","kind"] (spPairs K):=by
 refine F.ok zdi (fun vs H Q E h=> ?_) (fun cdv A outer s H vs Q E hr h=> ?_)
 ·obtain⟨tp,scr,ns,n,kind,rfl,_⟩:=h
  rfl
 obtain⟨tp,scr,ns,n,kind,rfl,hT,hn0,hn1,hk0,hk1,q⟩:=h
 refine⟨_,zae (zcs (zam op_eq (pv 2) zag (nomark _)) (zah (zal (zbb op_cat
    (zbo (own:=["k"]) (caps:=[]) (ix:=[]) rfl (zba rfl mR (zaa (zbb op_sub (pv 1) zag) zab)) rfl rfl .nil (fun _ _ _ _ _=>zaj (i:=0) (show(["k"]:List Str).Nodup from by decide+kernel) rfl (Or.inl rfl)) (fun _ _ _ _ _=>zcn) (fun _ _ _ _ _=>zck (zaa (pv 0) (zaa (zbb zcz (pv 0) zag) zab))))
    (zbb op_rep (pe_lst (zaa (zck (zaa zag (zaa (zbb op_sub (pv 1) zag) zab))) zab)) (zbp call_int1 rfl mI (by decide+kernel) (zaa (pe_cmpR op_gt (pv 1) zag (nomark _)) zab)))))) zay) (zae (zas (i:=3) zdi.nd rfl (Or.inl rfl) (pe_lst zab)) (zae (zas (i:=4) zdi.nd rfl (Or.inr rfl) (zaf G1 hr rfl D1.m D1.F.kp D1.b .nil pass0 (zaa (pv 0) (zaa zag zab)))) (zae (zas (i:=5) zdi.nd rfl (Or.inl rfl) (pe_lst (zaa (pe_lst zab) zab))) (zae (ps_for PassesOwn.never rfl (zba rfl mR (zaa (pv 1) zab)) (zaj (i:=6) zdi.nd rfl (Or.inr rfl)) (zae (zas (i:=7) zdi.nd rfl (Or.inl rfl) (zan zce (pv 5) (zaf G1 hr rfl D1.m D1.F.kp D1.b .nil pass0 (zaa (pv 0) (zaa (zai zao rfl mL PySem.boot_len (zaa (pv 5) zab)) zab))) (fun _ _=>rfl))) (zae (zdh (i:=8) (own:=["i"]) (caps:=["tape"]) (ix:=[0]) zdi.nd rfl (Or.inl rfl) rfl (zdc (pv 7)) rfl rfl (.cons rfl rfl .nil) (fun _ _ _ _ _=>zaj (i:=0) (show(["i","tape"]:List Str).Nodup from by decide+kernel) rfl (Or.inl rfl)) (fun _ _ _ _ _=>zcr (zam op_gt (zaf G1 hr rfl D1.m D1.F.kp D1.b .nil pass0 (zaa (pv 1) (zaa zag zab))) zag (nomark _))) (fun _ _ _ _ _=>pv 0)) (zae (zcb (pe_bm PySem.F.plainAttrs_list PySem.F.slot_list_append PySem.F.type_list_append mt_append (pv 5) (zaa (zbb op_cat (pv 8) (pe_lst (zaa (pv 6) zab))) zab))) (zae (zcs (zam op_lt (pv 2) zag (nomark _)) (zah (zdh (i:=8) (own:=["i"]) (caps:=["kind","tape"]) (ix:=[2,0]) zdi.nd rfl (Or.inl rfl) rfl (zba rfl mR (zaa (pv 6) zab)) rfl rfl (.cons rfl rfl (.cons rfl rfl .nil)) (fun _ _ _ _ _=>zaj (i:=0) (show(["i","kind","tape"]:List Str).Nodup from by decide+kernel) rfl (Or.inl rfl)) (fun _ _ _ _ _=>zcr (zam op_lt (zaf G1 hr rfl D1.m D1.F.kp D1.b .nil pass0 (zaa (pv 2) (zaa zag zab))) (zbb zcz (pv 1) zag) (nomark _))) (fun _ _ _ _ _=>pv 0))) zay) (zae (zcs (zam op_eq (pv 2) zag (nomark _)) (zah (zdh (i:=8) (own:=["i"]) (caps:=["j","wide"]) (ix:=[6,4]) zdi.nd rfl (Or.inl rfl) rfl (zba rfl mR (zaa (pv 6) zab)) rfl rfl (.cons rfl rfl (.cons rfl rfl .nil)) (fun _ _ _ _ _=>zaj (i:=0) (show(["i","j","wide"]:List Str).Nodup from by decide+kernel) rfl (Or.inl rfl)) (fun _ _ _ _ _=>zcr (zam op_le (zbb op_sub (pv 1) (pv 0)) (pv 2) (nomark _))) (fun _ _ _ _ _=>pv 0))) zay) (zah (zas (i:=3) zdi.nd rfl (Or.inl rfl) (zbb op_cat (pv 3) (zbo (own:=["i"]) (caps:=["j"]) (ix:=[6]) rfl (zdc (pv 8)) rfl rfl (.cons rfl rfl .nil) (fun _ _ _ _ _=>zaj (i:=0) (show(["i","j"]:List Str).Nodup from by decide+kernel) rfl (Or.inl rfl)) (fun _ _ _ _ _=>zcn) (fun _ _ _ _ _=>zck (zaa (pv 0) (zaa (pv 1) zab))))))))))))) (zah (zal (pv 3))))))),?_⟩
 obtain⟨z0,hz0⟩:=TapeV.lst hT
 refine⟨_,rfl,rfl,_,rfl,?_⟩
 refine ite2 (fun c=> ?_) (fun c=> ?_)
 ·refine⟨_,rfl,_,_,rfl,rfl,_,rfl,by omega,by omega,?_⟩
  refine zbu (fun i acc σ H'=>DVs K H' acc ((ringP i).map pairD)/\Same H H'/\acc.length=i/\∃o,σ=[o]) ⟨.nil,Same.refl _,rfl,_,rfl⟩ (fun i acc σ H' hi p'=>by rw[p'.2.2.1];exact Nat.le_refl _) (by rw[sizeLine_eq];omega) (fun i acc σ H' hi p'=> ?_) (fun acc σ H' p'=> ?_)
  ·obtain⟨dv,s',hlen,o,rfl⟩:=p'
   refine⟨_,rfl,_,rfl,_,_,rfl,rfl,(by show 2<=sizeLine;decide),fun pn hpn=> ?_⟩
   have sn:=zad hpn (.tup [.int (0+(i:Int)),.int (0+(i:Int)+1)])
   refine⟨?_,s'.trans sn,by simp[hlen],_,rfl⟩
   rw[ringP_succ,List.map_append]
   exact(DVs.same sn dv).snoc (.tup (SqT.of zac) (.cons (.int _) (.cons (.int _) .nil)))
  ·intro p1 hp1
   obtain⟨dv,s',hlen,_⟩:=p'
   have s1:=zad hp1 (.lst acc)
   refine⟨_,rfl,_,_,rfl,rfl,(by show 2<=sizeLine;decide),fun p2 hp2=>⟨(by show 1<=sizeLine;decide),fun p3 hp3=>⟨_,rfl,_,_,rfl,rfl,.inr ⟨_,rfl,?_⟩⟩⟩⟩
   have s2:=zad hp2 (.tup [.int 0,.int (n-1)])
   have s3:=zad hp3 (.lst [.ref p2])
   refine⟨p3,_,_,rfl,rfl,zac,?_,?_,?_,fun p4 hp4=> ?_⟩
   ·split<;>decide
   ·split<;>decide
   ·rw[sizeLine_eq];split<;>simp
   ·generalize hrep:(List.replicate ((if decide (2<n)=true then(1:Int)else 0)).toNat [V.ref p2]).flatten=rep at *
    have s4:=zad hp4 (.lst rep)
    have hrl:rep.length<=1:=by rw[<-hrep];split<;>simp
    refine⟨p1,p4,acc,rep,rfl,rfl,s4 _ _ (s3 _ _ (s2 _ _ zac)),zac,?_,fun p5 hp5=> ?_⟩
    ·rw[hlen,sizeLine_eq];omega
    ·have s5:=zad hp5 (.lst (acc++rep))
     have sall:=s'.trans (s1.trans (s2.trans (s3.trans (s4.trans s5))))
     have dv5:=DVs.same (s1.trans (s2.trans (s3.trans (s4.trans s5)))) dv
     have h5:H p5=none:=Same.free (s'.trans (s1.trans (s2.trans (s3.trans s4)))) hp5
     by_cases h2:2<n
     ·have er:rep=[.ref p2]:=by rw[<-hrep,decide_eq_true h2];rfl
      refine q p5 _ (ringP (n-1).toNat++[(0,n-1)]) _ (sall.x _) (hT.same sall) (zbc hz0 h5) h5 zac ?_ (ringP_closed (by omega) h2)
      subst er
      rw[List.map_append]
      exact dv5.append (.cons (.tup (SqT.of ((s3.trans (s4.trans s5)) _ _ zac)) (.cons (.int _) (.cons (.int _) .nil))) .nil)
     ·have er:rep=[]:=by rw[<-hrep,decide_eq_false h2];rfl
      refine q p5 _ (ringP (n-1).toNat++[]) _ (sall.x _) (hT.same sall) (zbc hz0 h5) h5 zac ?_ (by rw[List.append_nil];exact ringP_ok _ (by omega))
      subst er
      rw[List.map_append]
      exact dv5.append .nil
 ·refine⟨(by show 0<=sizeLine;decide),fun fnd hf=> ?_⟩
  have s1:=zad hf (.lst [])
  have hT1:=hT.same s1
  obtain⟨z1,hz1⟩:=TapeV.lst hT1
  refine⟨_,rfl,tp,scr,ns,4,rfl,hT1,by decide,by decide,fun wide H2 hw0 hw1 sx2 tv2=> ?_⟩
  refine⟨(by show 0<=sizeLine;decide),fun ep hep=>⟨(by show 1<=sizeLine;decide),fun crw hcr=> ?_⟩⟩
  have s3:=zad hep (.lst [])
  have s4:=zad hcr (.lst [.ref ep])
  obtain⟨z2,hz2⟩:=TapeV.lst tv2
  have nft:fnd≠tp:=zbc hz0 hf
  have hfn2:H2 fnd=some (.lst []):=sx2 _ _ nft zac
  have net:ep≠tp:=zbc hz2 hep
  have nct:crw≠tp:=zbc (s3 _ _ hz2) hcr
  have nef:ep≠fnd:=zbc hfn2 hep
  have ncf:crw≠fnd:=zbc (s3 _ _ hfn2) hcr
  have nce:crw≠ep:=zbc zac hcr
  have x4:SameX tp H (upd (upd H2 ep (.lst [])) crw (.lst [.ref ep])):=((s1.x _).trans sx2).trans ((s3.trans s4).x _)
  have free:∀b,b≠tp->(upd H2 ep (.lst [])) b=none->H b=none:=fun b hb e=>by
   cases e':H b with
   |none=>rfl
   |some o=>
    have:=((s1.x tp).trans (sx2.trans (s3.x tp))) b o hb e'
    rw[this]at e;cases e
  refine⟨_,rfl,n,rfl,by omega,by omega,?_⟩
  refine for_range (n:=n.toNat) (fun j σ H'=>JP K H tp scr ns n kind wide j σ H') ⟨fnd,crw,_,_,_,rfl,?_⟩ (fun j σ H' hj p=> ?_) (fun σ H' p=> ?_)
  ·refine⟨x4,(tv2.same s3).same s4,nft,nct,fun e=>ncf e.symm,hf,free crw nct hcr,⟨[],[],s4 _ _ (s3 _ _ hfn2),.nil,PairsOk.nil _⟩,⟨[.ref ep],zac,rfl,fun x hx=> ?_⟩⟩
   have ex:x= .ref ep:=by simpa using hx
   exact⟨ep,[],ex,net,fun e=>nce e.symm,s4 _ _ zac,Sub.nil _⟩
  ·obtain⟨fnd,crw,a,b,c',rfl,p⟩:=p
   obtain⟨cs,c1,c2,c3⟩:=p.cr
   have ez:(0:Int)+(j:Int)=(j:Int):=by omega
   rw[ez]
   refine⟨_,rfl,_,rfl,_,rfl,crw,cs,rfl,.inl (SqL.of c1),fun hz=>⟨tp,scr,ns,_,rfl,p.tv,by omega,by omega,fun r H2 hr0 hr1 sx2 tv2=> ?_⟩⟩
   have p2:=p.step sx2 tv2
   obtain⟨cs2,k1,k2,k3⟩:=p2.cr
   have ecs:cs2=cs:=by
    have:=sx2 _ _ p.ct c1
    rw[k1]at this
    injection this with this
    injection this
   subst ecs
   have hrn:r.toNat<cs2.length:=by omega
   have er:((r.toNat:Nat):Int)=r:=by omega
   obtain⟨ba,l,e1,e2,e3,e4,e5⟩:=k3 cs2[r.toNat] (List.getElem_mem _)
   have hat:atI cs2 r=some (.ref ba):=by
    have:=atI_nat (xs:=cs2) (j:=r.toNat) (v:= .ref ba) (by rw[List.getElem?_eq_getElem hrn,e1])
    rw[er]at this;exact this
   refine⟨crw,cs2,_,_,rfl,rfl,SqL.of k1,hat,?_⟩
   refine⟨_,rfl,ba,_,rfl,SqL.of e4,fun hz2=> ?_⟩
   refine zde (xs:=l.map V.int) (fun i acc σ H'=>(∃l',acc=l'.map V.int/\l'.Sublist (l.take i))/\SameX tp H2 H'/\TapeV K H' tp scr ns/\∃o,σ=[o,some (.ref tp)]) ⟨⟨[],rfl,List.Sublist.refl _⟩,SameX.refl _ _,tv2,_,rfl⟩ (fun i acc σ H' _ p'=>p'.2.1.sq e2 (SqL.of e4)) (fun i acc σ H' hi p'=> ?_) hz2 (fun i x acc σ H' hx p'=> ?_) (fun acc σ H' p'=> ?_)
   ·obtain⟨⟨l',e,sl⟩,_⟩:=p'
    rw[e,List.length_map]
    have:=sl.length_le
    rw[List.length_take]at this
    omega
   ·obtain⟨⟨l',rfl,sl⟩,s',tv',o,rfl⟩:=p'
    rw[List.getElem?_map]at hx
    cases e:l[i]? with
    |none=>rw[e]at hx;cases hx
    |some v=>
     rw[e]at hx
     cases hx
     refine⟨_,rfl,tp,scr,ns,3,rfl,tv',by decide,by decide,fun r H2 hr0 hr1 s2 tv2=>⟨_,_,rfl,rfl,_,rfl,?_⟩⟩
     have er:l.take (i+1)=l.take i++[v]:=by rw[List.take_add_one,e];rfl
     refine ite2 (fun c2=> ?_) (fun c2=> ?_)
     ·refine⟨_,rfl,⟨l'++[v],by rw[List.map_append];rfl,?_⟩,s'.trans s2,tv2,_,rfl⟩
      rw[er];exact sl.append (List.Sublist.refl _)
     ·refine⟨⟨l',rfl,?_⟩,s'.trans s2,tv2,_,rfl⟩
      rw[er];exact sl.trans (List.sublist_append_left _ _)
   ·intro sm hsm
    obtain⟨⟨l',rfl,sl⟩,s',tv',_⟩:=p'
    rw[List.length_map,List.take_length]at sl
    have hsub:=e5.sub sl
    have hsl:=hsub.len
    have p3:=p2.step s' tv'
    have sn:=zad hsm (.lst (l'.map V.int))
    have p4:=p3.same sn
    obtain⟨z3,hz3⟩:=TapeV.lst tv'
    have nst:sm≠tp:=zbc hz3 hsm
    obtain⟨cs3,k1',k2',k3'⟩:=p4.cr
    obtain⟨cs3',k1'',_⟩:=p3.cr
    have nsc:sm≠crw:=zbc k1'' hsm
    refine⟨_,rfl,.inl ⟨rfl,_,SqL.of k1'⟩,_,rfl,_,rfl,(by show 1<=sizeLine;decide),fun pj hpj=> ?_⟩
    have s5:=zad hpj (.lst [.int (j:Int)])
    refine⟨sm,pj,_,_,rfl,rfl,s5 _ _ zac,zac,(by rw[List.length_map,sizeLine_eq,List.length_singleton];omega),fun pn hpn=> ?_⟩
    have s6:=zad hpn (.lst (l'.map V.int++[.int (j:Int)]))
    have p5:=(p4.same s5).same s6
    obtain⟨cs4,m1,m2,m3⟩:=p5.cr
    refine⟨crw,cs4,_,rfl,rfl,m1,(by rw[m2,sizeLine_eq];omega),?_⟩
    have npt:pn≠tp:=zbc (s5 _ _ (sn _ _ hz3)) hpn
    obtain⟨cs5,n1,_⟩:=(p4.same s5).cr
    have npc:pn≠crw:=zbc n1 hpn
    refine rd_if3 (kind:=kind) (n:=n) (wide:=wide) (fnd:=fnd) (crw:=crw) (sm:=sm) (l:=l') (by omega) ?_ ?_ nst hsub (fun σ' H' h=>h)
    ·refine p5.push (l':=l'++[(j:Int)]) m1 (by rw[zac,List.map_append];rfl) npt npc hsub.snoc (by omega) (by omega)
    ·rw[zap nsc,zap,zap,zac]
     ·exact(zbc zac hpj).symm
     ·exact(zbc (s5 _ _ zac) hpn).symm
  ·obtain⟨fnd,crw,a,b,c',rfl,p⟩:=p
   obtain⟨rs,ps,e1,e2,e3⟩:=p.fd
   have en:((n.toNat:Nat):Int)=n:=by omega
   rw[en]at e3
   exact⟨_,rfl,q fnd rs ps H' p.sx p.tv p.ft p.f0 e1 e2 e3⟩
end
end Hs
namespace HsD
open PySem L2
noncomputable def mp(l:List Int)(p:Int×Int):Int×Int:=
 (if l.getD p.2.toNat 0<l.getD p.1.toNat 0 then l.getD p.2.toNat 0 else l.getD p.1.toNat 0,if l.getD p.2.toNat 0>l.getD p.1.toNat 0 then l.getD p.2.toNat 0 else l.getD p.1.toNat 0)
theorem getD_inj{l:List Int}(nd:l.Nodup){i j:Nat}(hi:i<l.length)(hj:j<l.length)(e:l.getD i 0=l.getD j 0):i=j:=by
 have e1:l.getD i 0=l[i]:=by simp[hi]
 have e2:l.getD j 0=l[j]:=by simp[hj]
 rw[e1,e2]at e
 exact(List.getElem_inj nd).mp e
theorem zcu{l:List Int}{i:Nat}(hi:i<l.length):l.getD i 0∈l:=by
 have e1:l.getD i 0=l[i]:=by simp[hi]
 rw[e1];exact List.getElem_mem _
theorem mm_of(a b:Int):(a<=b/\(if b<a then b else a)=a/\(if b>a then b else a)=b)\/(b<=a/\(if b<a then b else a)=b/\(if b>a then b else a)=a):=by
 rcases Int.lt_trichotomy a b with h|h|h
 ·exact .inl ⟨Int.le_of_lt h,if_neg (Int.lt_asymm h),if_pos h⟩
 ·subst h;exact .inl ⟨Int.le_refl _,if_neg (Int.lt_irrefl _),if_neg (Int.lt_irrefl _)⟩
 ·exact .inr ⟨Int.le_of_lt h,if_pos h,if_neg (Int.lt_asymm h)⟩
theorem mm_eq{a b c d:Int}(e1:(if b<a then b else a)=if d<c then d else c)(e2:(if b>a then b else a)=if d>c then d else c):(a=c/\b=d)\/(a=d/\b=c):=by
 rcases mm_of a b with⟨_,p,q⟩|⟨_,p,q⟩<;>rcases mm_of c d with⟨_,r,s⟩|⟨_,r,s⟩<;>rw[p,r]at e1<;>rw[q,s]at e2
 ·exact .inl ⟨e1,e2⟩
 ·exact .inr ⟨e1,e2⟩
 ·exact .inr ⟨e2,e1⟩
 ·exact .inl ⟨e2,e1⟩
theorem toNat_in{x:Int}{n:Nat}(h0:0<=x)(h:x<n):x.toNat<n:=(Int.toNat_lt h0).mpr h
theorem toNat_eq{a b:Int}(ha:0<=a)(hb:0<=b)(h:a.toNat=b.toNat):a=b:=by rw[<-Int.toNat_of_nonneg ha,<-Int.toNat_of_nonneg hb,h]
theorem mp_ok{n:Nat}{l:List Int}(hl:Sub n l)(hlen:l.length=n){ps:List (Int×Int)}(h:PairsOk (n:Int) ps):PairsOk (n:Int) (ps.map (mp l)):=by
 have hin:∀p∈ps,p.1.toNat<l.length/\p.2.toNat<l.length/\0<=p.1/\0<=p.2/\p.1<p.2:=fun p hp=>by
  obtain⟨a0,a1,a2⟩:=h.lt p hp
  rw[hlen]
  exact⟨toNat_in a0 (Int.lt_trans a1 a2),toNat_in (Int.le_trans a0 (Int.le_of_lt a1)) a2,a0,Int.le_trans a0 (Int.le_of_lt a1),a1⟩
 refine⟨?_,fun q hq=> ?_⟩
 ·rw[List.nodup_iff_pairwise_ne,List.pairwise_map]
  refine(List.nodup_iff_pairwise_ne.mp h.nd).imp_of_mem fun{a b} ha hb hne e=>hne ?_
  obtain⟨hx1,hx2,n1,n2,hlt⟩:=hin a ha
  obtain⟨hy1,hy2,m1,m2,hlt'⟩:=hin b hb
  rcases mm_eq (Prod.mk.inj e).1 (Prod.mk.inj e).2 with⟨k1,k2⟩|⟨k1,k2⟩
  ·exact Prod.ext (toNat_eq n1 m1 (getD_inj hl.nd hx1 hy1 k1)) (toNat_eq n2 m2 (getD_inj hl.nd hx2 hy2 k2))
  ·rw[toNat_eq n1 m2 (getD_inj hl.nd hx1 hy2 k1),toNat_eq n2 m1 (getD_inj hl.nd hx2 hy1 k2)]at hlt
   exact absurd hlt' (Int.lt_asymm hlt)
 ·obtain⟨p,hp,rfl⟩:=List.mem_map.mp hq
  obtain⟨hx1,hx2,n1,n2,hlt⟩:=hin p hp
  have m1:=hl.lt _ (zcu (l:=l) (i:=p.1.toNat) hx1)
  have m2:=hl.lt _ (zcu (l:=l) (i:=p.2.toNat) hx2)
  have hne:l.getD p.1.toNat 0≠l.getD p.2.toNat 0:=fun z=>Int.ne_of_lt hlt (toNat_eq n1 n2 (getD_inj hl.nd hx1 hx2 z))
  unfold mp
  dsimp only
  rcases mm_of (l.getD p.1.toNat 0) (l.getD p.2.toNat 0)with⟨o,r,s⟩|⟨o,r,s⟩<;>rw[r,s]
  ·exact⟨m1.1,Int.lt_iff_le_and_ne.mpr ⟨o,hne⟩,m2.2⟩
  ·exact⟨m2.1,Int.lt_iff_le_and_ne.mpr ⟨o,Ne.symm hne⟩,m1.2⟩
theorem PairsOk.perm{n:Int}{ps qs:List (Int×Int)}(h:PairsOk n ps)(e:qs.Perm ps):PairsOk n qs:=⟨e.nodup_iff.mpr h.nd,fun p hp=>h.lt p (e.mem_iff.mp hp)⟩
noncomputable def pl(p:Int×Int):List Int:=[p.1,p.2]
theorem pl_inj{p q:Int×Int}(h:pl p=pl q):p=q:=by
 obtain⟨a,b⟩:=p
 obtain⟨c,d⟩:=q
 unfold pl at h
 simp at h
 rw[h.1,h.2]
theorem lex_of{a b:List Int}(h:HT.lexLt b a=false)(ne:a≠b):HT.lexLt a b=true:=by
 rw[HT.lexLt_iff]at h⊢
 have h1:¬b<a:=of_decide_eq_false h
 have h2:a<=b:=List.not_lt.mp h1
 refine decide_eq_true ?_
 rcases Classical.em (a<b)with h3|h3
 ·exact h3
 ·exact absurd (List.le_antisymm h2 (List.not_lt.mp h3)) ne
theorem tie_pair{n:Int}{p:Int×Int}(h0:0<=p.1)(h1:p.1<p.2)(h2:p.2<n):tieD n (pairD p)=true:=by
 show((placeD n (.int p.1)&&(placeD n (.int p.2)&&true))&&risesI [p.1,p.2]&&decide (([PyData.int p.1,PyData.int p.2]).length=2))=true
 have e1:placeD n (.int p.1)=true:=by
  show(decide (0<=p.1)&&decide (p.1<n))=true
  rw[decide_eq_true h0,decide_eq_true (by omega)];rfl
 have e2:placeD n (.int p.2)=true:=by
  show(decide (0<=p.2)&&decide (p.2<n))=true
  rw[decide_eq_true (by omega),decide_eq_true h2];rfl
 have e3:risesI [p.1,p.2]=true:=by
  show(decide (p.1<p.2)&&true)=true
  rw[decide_eq_true h1];rfl
 rw[e1,e2,e3];rfl
theorem web_ok{n:Int}{ts:List (Int×Int)}(hn0:0<=n)(hn1:n<=10)(h:PairsOk n ts)(hs:ts.Pairwise fun p q=>HT.lexLt (pl q) (pl p)=false):webD (webDat n ts)=true:=by
 show(true&&(decide (0<=n)&&decide (n<=10))&&((ts.map pairD).all (tieD n)&&risesT ((ts.map pairD).map fun t=>(kids t).map intD)))=true
 have e1:(ts.map pairD).all (tieD n)=true:=by
  rw[List.all_map,List.all_eq_true]
  intro p hp
  obtain⟨h0,h1,h2⟩:=h.lt p hp
  exact tie_pair h0 h1 h2
 have e2:(ts.map pairD).map (fun t=>(kids t).map intD)=ts.map pl:=by rw[List.map_map];rfl
 have e3:risesT (ts.map pl)=true:=by
  unfold risesT
  rw[List.all_eq_true]
  intro k hk
  have hk':k<ts.length-1:=by simpa using hk
  have g1:(ts.map pl).getD k []=pl ts[k]:=by rw[List.getD_eq_getElem?_getD,List.getElem?_map,List.getElem?_eq_getElem (by omega)];rfl
  have g2:(ts.map pl).getD (k+1) []=pl ts[k+1]:=by rw[List.getD_eq_getElem?_getD,List.getElem?_map,List.getElem?_eq_getElem (by omega)];rfl
  rw[g1,g2]
  refine lex_of (List.pairwise_iff_getElem.mp hs k (k+1) (by omega) (by omega) (by omega)) fun e=> ?_
  have:=(List.getElem_inj h.nd).mp (pl_inj e)
  omega
 rw[decide_eq_true hn0,decide_eq_true hn1,e1,e2,e3];rfl
theorem items_of{K:W.Frag}{H:Hp}{rs:List V}{ps:List (Int×Int)}(h:DVs K H rs (ps.map pairD)):∃its:List (Addr×(Int×Int)),rs=its.map (fun p=>V.ref p.1)/\its.map (·.2)=ps/\∀p∈its,SqT K H p.1 ((pl p.2).map V.int):=by
 induction ps generalizing rs with
 |nil=>cases h;exact⟨[],rfl,rfl,fun p h=>(nomatch h)⟩
 |cons p ps ih=>
  cases h with
  |cons h tl=>
   obtain⟨its,e1,e2,e3⟩:=ih tl
   cases h with
   | @tup a _ _ h hd=>
    cases hd with
    |cons a1 t1=>
     cases a1
     cases t1 with
     |cons a2 t2=>
      cases a2
      cases t2
      refine⟨(a,p)::its,by rw[e1];rfl,by rw[<-e2];rfl,fun q hq=> ?_⟩
      rcases List.mem_cons.mp hq with e|e
      ·rw[e];exact h
      ·exact e3 q e
theorem of_items{K:W.Frag}{H:Hp}:∀(its:List (Addr×(Int×Int))),(∀p∈its,SqT K H p.1 ((pl p.2).map V.int))->DVs K H (its.map fun p=>V.ref p.1) ((its.map (·.2)).map pairD)
 |[],_=> .nil
 |p::its,h=> .cons (.tup (h p List.mem_cons_self) (.cons (.int _) (.cons (.int _) .nil))) (of_items its fun q hq=>h q (List.mem_cons_of_mem _ hq))
theorem ins_sub{k r:Nat}{l:List Int}(h:Sub k l)(hr:r<=l.length):Sub (k+1) (l.take r++(k:Int)::l.drop r):=by
 have e:(l.take r++(k:Int)::l.drop r).Perm (l++[(k:Int)]):=by
  have h1:(l.take r++(k:Int)::l.drop r).Perm ((k:Int)::(l.take r++l.drop r)):=List.perm_middle
  rw[List.take_append_drop]at h1
  exact h1.trans (List.perm_append_comm (l₁:=[(k:Int)]) (l₂:=l))
 exact⟨e.nodup_iff.mpr h.snoc.nd,fun i hi=>h.snoc.lt i (e.mem_iff.mp hi)⟩
end HsD
namespace Hs
open PySem L2 HsD
section
variable{P:Program}{w:World}{K:W.Frag}{mg:Str->Option Value}{base:Heap}
noncomputable def spLWeb(K:W.Frag):Sp:=fun vs H Q _=>∃(tp scr:Addr) (ns:List Int) (m:Int),vs=[.ref tp,.int m]/\TapeV K H tp scr ns/\0<=m/\m<=10/\
 ∀r n ts H',SameX tp H H'->TapeV K H' tp scr ns->WebV K H' r n ts->0<=n->n<=m->PairsOk n ts->WebOk n ts->Q (.ref r) H'
theorem sc_lweb:FnScope ["tape","most","n","called","k","found","i","j"] ["tape","most"] (defScope zcl):=⟨rfl,rfl,rfl,by decide+kernel,rfl,by decide+kernel,by decide+kernel⟩
noncomputable def sw(tp:Addr)(m n:Int)(cl:Addr)(k:Option V)(fd i j:Option V):St:=[some (.ref tp),some (.int m),some (.int n),some (.ref cl),k,fd,i,j]
theorem ok_lweb{f f1 f2:Addr}{fd d1 d2:FuncData}(F:Fun K "_law_b_web" "_law_b_web" zcl f fd)(D1:Dfn K mg "_law_b_digit" zat ["tape","many"] f1 d1)(G1:FnOk P w K mg base CX0 2 f1 d1 ["tape","many"] (spDigit K))(D2:Dfn K mg "_law_b_pairs" zby ["tape","n","kind"] f2 d2)(G2:FnOk P w K mg base CX0 3 f2 d2 ["tape","n","kind"] (spPairs K))(mR:mg "range"=none)(mi:mg "min"=none)(ma:mg "max"=none)(mT:mg "tuple"=none)(mS:mg "sorted"=none):FnOk P w K mg base CX0 4 f fd ["tape","most"] (spLWeb K):=by
 refine F.ok sc_lweb (fun vs H Q E h=> ?_) (fun cdv A outer s H vs Q E hr h=> ?_)
 ·obtain⟨tp,scr,ns,m,rfl,_⟩:=h
  rfl
 obtain⟨tp,scr,ns,m,rfl,hT,hm0,hm1,q⟩:=h
 refine⟨_,zae (zas (i:=2) sc_lweb.nd rfl (Or.inl rfl) (zaf (G1.mono (by decide)) hr rfl D1.m D1.F.kp D1.b .nil pass0 (zaa (pv 0) (zaa (zbb zcz (pv 1) zag) zab)))) (zae (zas (i:=3) sc_lweb.nd rfl (Or.inl rfl) (pe_lst zab)) (zae (ps_for PassesOwn.never rfl (zba rfl mR (zaa (pv 2) zab)) (zaj (i:=4) sc_lweb.nd rfl (Or.inl rfl)) (zah (zcb (pe_bm PySem.F.plainAttrs_list PySem.F.slot_list_insert PySem.F.type_list_insert mt_insert (pv 3) (zaa (zaf (G1.mono (by decide)) hr rfl D1.m D1.F.kp D1.b .nil pass0 (zaa (pv 0) (zaa (zbb zcz (pv 4) zag) zab))) (zaa (pv 4) zab)))))) (zae (zas (i:=5) sc_lweb.nd rfl (Or.inl rfl) (pe_lst zab)) (zae (ps_for PassesOwn.never rfl (zdc (zaf G2 hr rfl D2.m D2.F.kp D2.b .nil pass0 (zaa (pv 0) (zaa (pv 2) (zaa (zaf (G1.mono (by decide)) hr rfl D1.m D1.F.kp D1.b .nil pass0 (zaa (pv 0) (zaa zag zab))) zab)))))
    (pg_tup rfl (zcc (zaj (i:=6) sc_lweb.nd rfl (Or.inl rfl)) (zcc (zaj (i:=7) sc_lweb.nd rfl (Or.inl rfl)) pgs_nil))) (zah (zcb (pe_bm PySem.F.plainAttrs_list PySem.F.slot_list_append PySem.F.type_list_append mt_append (pv 5) (zaa (zck (zaa
    (zai (call_min2 rfl) rfl mi (by decide+kernel) (zaa (zan zce (pv 3) (pv 6) (fun _ _=>rfl)) (zaa (zan zce (pv 3) (pv 7) (fun _ _=>rfl)) zab))) (zaa
    (zai (call_max2 rfl) rfl ma (by decide+kernel) (zaa (zan zce (pv 3) (pv 6) (fun _ _=>rfl)) (zaa (zan zce (pv 3) (pv 7) (fun _ _=>rfl)) zab))) zab))) zab))))) (zah (zal (zck (zaa (pv 2) (zaa (zbp zav rfl mT (by decide+kernel) (zaa (zai call_sortedT rfl mS (by decide+kernel) (zaa (pv 5) zab)) zab)) zab))))))))),?_⟩
 refine⟨_,rfl,_,rfl,_,_,rfl,rfl,tp,scr,ns,m+1,rfl,hT,by omega,by omega,fun n H1 hn0 hn1 x1 tv1=> ?_⟩
 refine⟨(by show 0<=sizeLine;decide),fun cl hcl=> ?_⟩
 have s2:=zad hcl (.lst [])
 obtain⟨z1,hz1⟩:=TapeV.lst tv1
 have nct:cl≠tp:=zbc hz1 hcl
 have c0:H cl=none:=by
  cases e:H cl with
  |none=>rfl
  |some o=>rw[x1 cl o nct e]at hcl;cases hcl
 refine⟨_,rfl,n,rfl,by omega,by omega,?_⟩
 refine for_range (n:=n.toNat) (fun k σ H'=>∃l a,σ=sw tp m n cl a none none none/\SameX tp H H'/\TapeV K H' tp scr ns/\H' cl=some (.lst (l.map V.int))/\Sub k l/\l.length=k) ⟨[],_,rfl,x1.trans (s2.x _),tv1.same s2,zac,Sub.nil _,rfl⟩ (fun k σ H' hk p=> ?_) (fun σ H' p=> ?_)
 ·obtain⟨l,a,rfl,sx,tv,hl,hs,hlen⟩:=p
  refine⟨_,rfl,.inl ⟨rfl,_,SqL.of hl⟩,_,rfl,_,rfl,_,_,rfl,rfl,tp,scr,ns,_,rfl,tv,by omega,by omega,fun r H2 hr0 hr1 x2 tv2=>⟨_,rfl,?_⟩⟩
  have er:r=((r.toNat:Nat):Int):=by omega
  have hl2:=x2 _ _ nct hl
  refine⟨cl,l.map V.int,r.toNat,.int (0+(k:Int)),rfl,?_,hl2,by rw[List.length_map];omega,by rw[List.length_map];omega,?_⟩
  ·rw[<-er]
  ·have ei:insV (l.map V.int) r.toNat (.int (0+(k:Int)))=(l.take r.toNat++(k:Int)::l.drop r.toNat).map V.int:=by
    unfold insV
    rw[List.map_append,List.map_cons,List.map_take,List.map_drop]
    have:(0:Int)+(k:Int)=(k:Int):=by omega
    rw[this]
   have xw:SameX cl H2 (upd H2 cl (.lst (insV (l.map V.int) r.toNat (.int (0+(k:Int)))))):=(SameX.refl _ _).upd
   refine⟨l.take r.toNat++(k:Int)::l.drop r.toNat,_,rfl,?_,tv2.other xw hl2 nct.symm,by rw[zac,ei],ins_sub hs (by omega),by simp;omega⟩
   intro b o hb e
   have nb:b≠cl:=fun z=>by rw[z,c0]at e;cases e
   exact xw _ _ nb (x2 _ _ hb (sx b o hb e))
 ·obtain⟨l,kk,rfl,sx,tv,hl,hs,hlen⟩:=p
  have en:((n.toNat:Nat):Int)=n:=by omega
  refine⟨(by show 0<=sizeLine;decide),fun fd hfd=> ?_⟩
  have s3:=zad hfd (.lst [])
  have tv3:=tv.same s3
  obtain⟨z,hz⟩:=TapeV.lst tv
  have nft:fd≠tp:=zbc hz hfd
  have nfc:fd≠cl:=zbc hl hfd
  refine⟨_,rfl,_,rfl,_,rfl,tp,scr,ns,6,rfl,tv3,by decide,by decide,fun kind H4 hk0 hk1 x4 tv4=>⟨tp,scr,ns,n,kind,rfl,tv4,hn0,by omega,hk0,hk1,fun r rs ps H5 x5 tv5 nrt hr4 hr5 hdv hps=>⟨r,rs,rfl,SqL.of hr5,fun hz5=> ?_⟩⟩⟩
  have hf4:H4 fd=some (.lst []):=x4 _ _ nft zac
  have hf5:H5 fd=some (.lst []):=x5 _ _ nft hf4
  have nrf:r≠fd:=zbc hf4 hr4
  have hc5:H5 cl=some (.lst (l.map V.int)):=x5 _ _ nct (x4 _ _ nct (s3 _ _ hl))
  have x5':SameX tp H H5:=sx.trans ((s3.x _).trans (x4.trans x5))
  have f0:H fd=none:=by
   cases e:H fd with
   |none=>rfl
   |some o=>rw[sx fd o nft e]at hfd;cases hfd
  have hps':PairsOk ((n.toNat:Nat):Int) ps:=by rw[en];exact hps
  have hlen':rs.length=ps.length:=by have:=hdv.len;simpa using this
  refine for_list (K:=K) (a:=r) (xs:=rs) (fun idx σ H'=>∃fl a b,σ=sw tp m n cl kk (some (.ref fd)) a b/\SameX fd H5 H'/\H' fd=some (.lst fl)/\DVs K H' fl (((ps.take idx).map (mp l)).map pairD)/\fl.length=idx) ⟨[],_,_,rfl,SameX.refl _ _,hf5,.nil,rfl⟩ (fun idx σ H' _ p=> ?_) (fun idx x σ H' hx p=> ?_) (fun σ H' p=> ?_)
  ·obtain⟨fl,a,b,_,x6,_⟩:=p
   exact x6.sq nrf (SqL.of hr5)
  ·obtain⟨fl,a,b,rfl,x6,hf6,dv6,hfl⟩:=p
   have hidx:idx<rs.length:=(List.getElem?_eq_some_iff.mp hx).1
   have hps45:=pairs_len hps (by omega)
   obtain⟨its,e1,e2,e3⟩:=items_of hdv
   have hil:its.length=rs.length:=by rw[e1,List.length_map]
   have hx2:x= .ref its[idx].1:=by
    rw[e1,List.getElem?_map,List.getElem?_eq_getElem (by omega)]at hx
    exact(Option.some.inj hx).symm
   have hpi:ps[idx]? =some its[idx].2:=by
    have h0:(its.map (·.2))[idx]? =some its[idx].2:=by rw[List.getElem?_map,List.getElem?_eq_getElem (by omega)];rfl
    exact(congrArg (fun z:List (Int×Int)=>z[idx]?) e2).symm.trans h0
   have hmem:its[idx].2∈ps:=List.mem_of_getElem? hpi
   have hT6:SqT K H' its[idx].1 ((pl its[idx].2).map V.int):=x6.tup hf5 (e3 _ (List.getElem_mem _))
   generalize its[idx].2=pr at *
   obtain⟨p0,p1,p2⟩:=hps'.lt pr hmem
   obtain⟨v1,a1,g1⟩:=at_ints (ns:=l) (k:=pr.1) p0 (by omega)
   obtain⟨v2,a2,g2⟩:=at_ints (ns:=l) (k:=pr.2) (by omega) (by omega)
   have hc6:SqL K H' cl (l.map V.int):=x6.sq nfc.symm (SqL.of hc5)
   refine⟨its[idx].1,_,hx2,hT6,rfl,_,_,rfl,_,_,rfl,rfl,?_⟩
   refine⟨_,rfl,.inl ⟨rfl,_,SqL.of hf6⟩,_,rfl,_,rfl,cl,_,_,_,rfl,rfl,hc6,a1,_,rfl,_,rfl,cl,_,_,_,rfl,rfl,hc6,a2,_,_,rfl,_,rfl,_,rfl,cl,_,_,_,rfl,rfl,hc6,a1,_,rfl,_,rfl,cl,_,_,_,rfl,rfl,hc6,a2,_,_,rfl,(by show 2<=sizeLine;decide),fun pn hpn=> ?_⟩
   have sn:=zad hpn (.tup [.int (if v2<v1 then v2 else v1),.int (if v2>v1 then v2 else v1)])
   refine⟨fd,fl,_,rfl,rfl,sn _ _ hf6,(by rw[hfl,sizeLine_eq];omega),?_⟩
   have hnf:pn≠fd:=zbc hf6 hpn
   have xw:SameX fd (upd H' pn (.tup [.int (if v2<v1 then v2 else v1),.int (if v2>v1 then v2 else v1)])) (upd (upd H' pn (.tup [.int (if v2<v1 then v2 else v1),.int (if v2>v1 then v2 else v1)])) fd (.lst (fl++[.ref pn]))):=(SameX.refl _ _).upd
   refine⟨fl++[.ref pn],_,_,rfl,x6.trans ((sn.x _).trans xw),zac,?_,by simp[hfl]⟩
   have em:mp l pr=(if v2<v1 then v2 else v1,if v2>v1 then v2 else v1):=by
    unfold mp
    rw[List.getD_eq_getElem?_getD,List.getD_eq_getElem?_getD,g1,g2];rfl
   have ea:((ps.take (idx+1)).map (mp l)).map pairD=((ps.take idx).map (mp l)).map pairD++[pairD (if v2<v1 then v2 else v1,if v2>v1 then v2 else v1)]:=by
    rw[List.take_add_one,hpi,<-em];simp
   rw[ea]
   refine(pairs_samex xw (sn _ _ hf6) (DVs.same sn dv6)).snoc (.tup (SqT.of ?_) (.cons (.int _) (.cons (.int _) .nil)))
   rw[zap hnf,zac]
  ·obtain⟨fl,a,b,rfl,x6,hf6,dv6,hfl⟩:=p
   rw[hlen',List.take_length]at dv6
   have hq:=mp_ok hs hlen hps'
   rw[en]at hq
   have hq45:=pairs_len hq (by omega)
   obtain⟨its,e1,e2,e3⟩:=items_of dv6
   have hil:its.length=fl.length:=by rw[e1,List.length_map]
   have hil2:its.length<=45:=by rw[<-List.length_map (f:=(·.2)),e2];exact hq45
   refine⟨_,rfl,_,rfl,fd,its.map (fun p=>(p.1,pl p.2)),rfl,?_,?_,by rw[List.length_map];omega,fun l1 its' hl1 hperm hsort=> ?_⟩
   ·rw[List.map_map]
    have:=SqL.of (K:=K) hf6
    rw[e1]at this
    exact this
   ·intro p hp
    obtain⟨p',hp',rfl⟩:=List.mem_map.mp hp
    exact⟨e3 p' hp',by unfold pl;simp⟩
   ·have s7:=zad hl1 (.lst (its'.map fun p=>V.ref p.1))
    refine⟨l1,_,rfl,.inl ⟨SqL.of zac,fun t1 ht1=>⟨(by show 2<=sizeLine;decide),fun wb hwb=> ?_⟩⟩⟩
    have s8:=zad ht1 (.tup (its'.map fun p=>V.ref p.1))
    have s9:=zad hwb (.tup [.int n,.ref t1])
    have s789:=s7.trans (s8.trans s9)
    -- the pairs of the sorted tuples
    let un:List Int->Int×Int:=fun l=>(l.getD 0 0,l.getD 1 0)
    have back:∀p∈its',∃q∈its,p=(q.1,pl q.2):=fun p hp=>by
     obtain⟨q,hq,e⟩:=List.mem_map.mp (hperm.mem_iff.mp hp)
     exact⟨q,hq,e.symm⟩
    have eb:its'.map (fun p=>(p.1,pl (un p.2)))=its':=by
     have:∀p∈its',(p.1,pl (un p.2))=p:=fun p hp=>by
      obtain⟨q,_,rfl⟩:=back p hp
      rfl
     rw[List.map_congr_left (g:=id) this,List.map_id]
    have pts:(its'.map fun p=>un p.2).Perm (ps.map (mp l)):=by
     have h1:=hperm.map (fun p:Addr×List Int=>un p.2)
     rw[List.map_map]at h1
     have h2:its.map ((fun p:Addr×List Int=>un p.2)∘fun p=>(p.1,pl p.2))=ps.map (mp l):=by rw[<-e2];rfl
     rw[h2]at h1
     exact h1
    have pok:=hq.perm pts
    have psort:(its'.map fun p=>un p.2).Pairwise fun p q=>HT.lexLt (pl q) (pl p)=false:=by
     rw[List.pairwise_map]
     refine hsort.imp_of_mem fun{x y} hx hy hxy=> ?_
     obtain⟨qx,_,rfl⟩:=back x hx
     obtain⟨qy,_,rfl⟩:=back y hy
     exact hxy
    refine q wb n (its'.map fun p=>un p.2) _ ?_ ?_ ⟨t1,its'.map (fun p=>V.ref p.1),SqT.of zac,SqT.of (s9 _ _ zac),?_⟩ hn0 (by omega) pok (web_ok hn0 (by omega) pok psort)
    ·intro b o hb e
     have nb:b≠fd:=fun z=>by rw[z,f0]at e;cases e
     exact s789 _ _ (x6 _ _ nb (x5' b o hb e))
    ·exact(tv5.other x6 hf5 nft.symm).same s789
    ·have h1:=of_items (K:=K) (H:=upd (upd (upd H' l1 (.lst (its'.map fun p=>V.ref p.1))) t1 (.tup (its'.map fun p=>V.ref p.1))) wb (.tup [.int n,.ref t1])) (its'.map fun p=>(p.1,un p.2)) (fun p hp=>by
      obtain⟨p',hp',rfl⟩:=List.mem_map.mp hp
      obtain⟨q',hq',rfl⟩:=back p' hp'
      exact s789.tup (e3 q' hq'))
     have h2:(its'.map fun p=>(p.1,un p.2)).map (fun p=>V.ref p.1)=its'.map fun p=>V.ref p.1:=by rw[List.map_map];rfl
     have h3:(its'.map fun p=>(p.1,un p.2)).map (·.2)=its'.map fun p=>un p.2:=by rw[List.map_map];rfl
     rw[h2,h3]at h1
     exact h1
end
end Hs
namespace HsD
open PySem L2
noncomputable def tiedL(ts:List (Int×Int))(i j:Int):Bool:=decide ((i,j)∈ts)||decide ((j,i)∈ts)
theorem tied_eq{n:Int}{ts:List (Int×Int)}(h:PairsOk n ts)(i j:Int):hasTie ts i j=tiedL ts i j:=by
 unfold hasTie tiedL
 have no:∀{a b:Int},b<=a->decide ((a,b)∈ts)=false:=fun{a b} hab=>decide_eq_false fun hm=>by
  have:=(h.lt _ hm).2.1
  dsimp only at this
  omega
 rcases Int.lt_trichotomy i j with c|c|c
 ·rw[if_neg (show¬j<i by omega),if_pos (show j>i by omega),no (show i<=j by omega),Bool.or_false]
 ·subst c
  rw[if_neg (show¬i<i by omega),Bool.or_self]
  try rw[if_neg (show¬i>i by omega)]
 ·rw[if_pos (show j<i by omega),if_neg (show¬j>i by omega),no (show j<=i by omega),Bool.false_or]
end HsD
namespace Hs
open PySem L2 HsD
section
variable{P:Program}{w:World}{K:W.Frag}{mg:Str->Option Value}{base:Heap}
noncomputable def spLaw(K:W.Frag):Sp:=fun vs H Q _=>∃(a:Addr) (ns:List Int),vs=[.ref a]/\ScrV K H a ns/\ns.length<=63/\∀H',Q (.bl true) H'
theorem spLaw_of{H:Hp}{a:Addr}{ns:List Int}(hl:ns.length<=63)(hO:Only H)(hS:SqL K H a (ns.map V.int)):spLaw K [.ref a] H (fun v _=>v= .bl true) fun _ _ _=>False:=by
 refine⟨a,ns,rfl,?_,hl,fun _=>rfl⟩
 rcases hS with(h|⟨o,h⟩)|h
 ·rcases hO a with q|⟨o,xs,q⟩
  ·rw[q]at h;cases h
  ·rw[q]at h;cases h
 ·exact .inl ⟨o,h⟩
 ·exact .inr h
noncomputable def rLen(K:W.Frag):List V->Hp->VK->Prop:=fun xs H Q=>∃p ys,xs=[.ref p]/\(SqL K H p ys\/SqT K H p ys)/\(ys.length<=16777216->Q (.int ys.length) H)
theorem test_any{H:Hp}{tp scr:Addr}{ns:List Int}{k:Int}{r:St}{Q:Bool->Hp->Prop}(tv:TapeV K H tp scr ns)(hQ:∀b,Q b H):
  tAnd (tTest (tOp (rI0 fun i j=> .bl (decide (j<i))) (tVar 2) (tC (.int 1)))) (tTest (tOp (rI0 fun i j=> .bl (decide (j<=i))) (tOp (rIxL K) (tVar 1) (tC (.int 1))) (tCB (rLen K) (tCons (tVar 0) tNil)))) (some (.ref scr)::some (.ref tp)::some (.int k)::r) H Q:=by
 obtain⟨⟨i,rr,hH,_,_⟩,hS,_⟩:=tv
 refine⟨_,rfl,_,_,rfl,rfl,_,rfl,?_⟩
 refine ite2 (fun c=> ?_) (fun c=>hQ _)
 exact⟨_,rfl,tp,_,_,.int i,rfl,rfl,SqL.of hH,rfl,_,rfl,scr,_,rfl,.inl hS.sq,fun _=>⟨_,_,rfl,rfl,_,rfl,hQ _⟩⟩
theorem tape_new{H:Hp}{a p:Addr}{ns:List Int}(hS:ScrV K H a ns)(h63:ns.length<=63)(hp:H p=none):TapeV K (upd H p (.lst [.ref a,.int 0,.int 0])) p a ns:=
 ⟨⟨0,0,zac,Int.le_refl _,Int.le_refl _⟩,hS.same (zad hp _),h63⟩
end
end Hs
namespace Hs
open PySem L2 HsD
noncomputable def lt2(p q:Int×Int):Prop:=p.1<q.1\/(p.1=q.1/\p.2<q.2)
theorem lt2.trans{p q r:Int×Int}(a:lt2 p q)(b:lt2 q r):lt2 p r:=by
 unfold lt2 at *;omega
theorem lt2.irr{p:Int×Int}(a:lt2 p p):False:=by
 unfold lt2 at a;omega
theorem eq_of_sorted:∀{l m:List (Int×Int)},l.Pairwise lt2->m.Pairwise lt2->(∀p,p∈l↔p∈m)->l=m
 |[],[],_,_,_=>rfl
 |[],q::m,_,_,h=>absurd ((h q).mpr (List.mem_cons_self ..)) (by simp)
 |p::l,[],_,_,h=>absurd ((h p).mp (List.mem_cons_self ..)) (by simp)
 |p::l,q::m,hl,hm,h=>by
  rw[List.pairwise_cons]at hl hm
  have e:p=q:=by
   rcases List.mem_cons.mp ((h p).mp (List.mem_cons_self ..))with e|e
   ·exact e
   rcases List.mem_cons.mp ((h q).mpr (List.mem_cons_self ..))with e'|e'
   ·exact e'.symm
   exact(lt2.irr ((hl.1 _ e').trans (hm.1 _ e))).elim
  subst e
  have:l=m:=eq_of_sorted hl.2 hm.2 (fun r=>by
   have hr:=h r
   rw[List.mem_cons,List.mem_cons]at hr
   constructor
   ·intro hi
    rcases hr.mp (.inr hi)with e|e
    ·subst e;exact(lt2.irr (hl.1 _ hi)).elim
    ·exact e
   ·intro hi
    rcases hr.mpr (.inr hi)with e|e
    ·subst e;exact(lt2.irr (hm.1 _ hi)).elim
    ·exact e)
  rw[this]
theorem lex_lt2{p q:Int×Int}(h:HT.lexLt (pl p) (pl q)=true):lt2 p q:=by
 rw[HT.lexLt_iff]at h
 have:=of_decide_eq_true h
 unfold pl at this
 rw[List.cons_lt_cons_iff]at this
 rcases this with a|⟨a,b⟩
 ·exact .inl a
 ·rw[List.cons_lt_cons_iff]at b
  rcases b with b|⟨_,b⟩
  ·exact .inr ⟨a,b⟩
  ·exact absurd b (by simp)
theorem pairwise_of_adj{l:List (Int×Int)}(h:∀k,(hk:k+1<l.length)->lt2 l[k] l[k+1]):l.Pairwise lt2:=by
 rw[List.pairwise_iff_getElem]
 intro i j hi hj hij
 have go:∀d:Nat,(hd:i+1+d<l.length)->lt2 l[i] l[i+1+d]:=by
  intro d
  induction d with
  |zero=>intro hd;exact h i hd
  |succ d ih=>intro hd;exact(ih (by omega)).trans (h (i+1+d) hd)
 have e:j=i+1+(j-i-1):=by omega
 have:=go (j-i-1) (by omega)
 simpa[<-e]using this
theorem web_sorted{n:Int}{ts:List (Int×Int)}(h:WebOk n ts):ts.Pairwise lt2:=by
 have h1:tiesD n (.tuple (ts.map pairD))=true:=by
  unfold WebOk webDat webD at h
  rw[Bool.and_eq_true]at h
  exact h.2
 unfold tiesD at h1
 rw[Bool.and_eq_true]at h1
 have h2:=h1.2
 unfold risesT at h2
 rw[List.all_eq_true]at h2
 refine pairwise_of_adj fun k hk=> ?_
 have e:(List.map (fun t=>(kids t).map intD) (ts.map pairD))=ts.map pl:=by
  rw[List.map_map];rfl
 rw[e,List.length_map]at h2
 have h3:=h2 k (by rw[List.mem_range];omega)
 have g:∀j,(hj:j<ts.length)->(ts.map pl).getD j []=pl ts[j]:=fun j hj=>by
  rw[List.getD_eq_getElem?_getD,List.getElem?_map,List.getElem?_eq_getElem hj];rfl
 rw[g k (by omega),g (k+1) hk]at h3
 exact lex_lt2 h3
noncomputable def row(so:Int->Int->Bool)(i:Int)(k:Nat):List (Int×Int):=((List.range k).map fun(t:Nat)=>(i,i+1+(t:Int))).filter fun p=>so p.1 p.2
noncomputable def rows(so:Int->Int->Bool)(m:Int)(i:Nat):List (Int×Int):=((List.range i).map fun(t:Nat)=>row so (0+(t:Int)) (m-(0+(t:Int)+1)).toNat).flatten
theorem row_succ(so:Int->Int->Bool)(i:Int)(k:Nat):row so i (k+1)=row so i k++(if so i (i+1+(k:Int))=true then[(i,i+1+(k:Int))]else[]):=by
 unfold row
 rw[List.range_succ,List.map_append,List.filter_append]
 congr 1
 show List.filter _ [(i,i+1+(k:Int))]=_
 rw[List.filter_cons]
 rfl
theorem rows_succ(so:Int->Int->Bool)(m:Int)(i:Nat):rows so m (i+1)=rows so m i++row so (0+(i:Int)) (m-(0+(i:Int)+1)).toNat:=by
 unfold rows
 rw[List.range_succ,List.map_append,List.flatten_append]
 simp
theorem mem_row{so:Int->Int->Bool}{i:Int}{k:Nat}{p:Int×Int}:p∈row so i k↔p.1=i/\i<p.2/\p.2<i+1+(k:Int)/\so p.1 p.2=true:=by
 unfold row
 rw[List.mem_filter,List.mem_map]
 constructor
 ·rintro⟨⟨t,ht,rfl⟩,h⟩
  rw[List.mem_range]at ht
  exact⟨rfl,by show i<i+1+(t:Int);omega,by show i+1+(t:Int)<_;omega,h⟩
 ·rintro⟨h1,h2,h3,h4⟩
  refine⟨⟨(p.2-i-1).toNat,by rw[List.mem_range];omega,?_⟩,h4⟩
  apply Prod.ext
  ·exact h1.symm
  ·show i+1+(((p.2-i-1).toNat:Nat):Int)=p.2;omega
theorem zct{so:Int->Int->Bool}{m:Int}:∀{i:Nat} {p:Int×Int},p∈rows so m i↔0<=p.1/\p.1<(i:Int)/\p.1<p.2/\p.2<m/\so p.1 p.2=true
 |0,p=>by
  constructor
  ·intro h;simp[rows]at h
  ·intro h;omega
 |i+1,p=>by
  rw[rows_succ,List.mem_append,zct (i:=i),mem_row]
  constructor
  ·rintro(h|h)
   ·exact⟨h.1,by omega,h.2.2⟩
   ·exact⟨by omega,by omega,by omega,by omega,h.2.2.2⟩
  ·rintro⟨h1,h2,h3,h4,h5⟩
   by_cases e:p.1<(i:Int)
   ·exact .inl ⟨h1,e,h3,h4,h5⟩
   ·exact .inr ⟨by omega,by omega,by omega,h5⟩
theorem row_sorted(so:Int->Int->Bool)(i:Int)(k:Nat):(row so i k).Pairwise lt2:=by
 unfold row
 refine List.Pairwise.filter _ ?_
 rw[List.pairwise_map]
 exact List.pairwise_lt_range.imp fun h=> .inr ⟨rfl,by show i+1+_<i+1+_;omega⟩
theorem zdg(so:Int->Int->Bool)(m:Int):∀i:Nat,(rows so m i).Pairwise lt2
 |0=>by unfold rows;exact List.Pairwise.nil
 |i+1=>by
  rw[rows_succ,List.pairwise_append]
  refine⟨zdg so m i,row_sorted so _ _,fun p hp q hq=> ?_⟩
  rw[zct]at hp
  rw[mem_row]at hq
  exact .inl (by omega)
theorem rows_eq{so:Int->Int->Bool}{m:Int}{l:List (Int×Int)}(hm:0<=m)(hs:l.Pairwise lt2)(h:∀p:Int×Int,p∈l↔0<=p.1/\p.1<p.2/\p.2<m/\so p.1 p.2=true):l=rows so m m.toNat:=by
 refine eq_of_sorted hs (zdg so m _) fun p=> ?_
 rw[h,zct]
 constructor
 ·rintro⟨a,b,c,d⟩;exact⟨a,by omega,b,c,d⟩
 ·rintro⟨a,b,c,d,e⟩;exact⟨a,c,d,e⟩
theorem rows_ok{so:Int->Int->Bool}{m:Int}{i:Nat}:PairsOk m (rows so m i):=
 ⟨(zdg so m i).imp fun h e=>by subst e;exact lt2.irr h,fun p hp=>by rw[zct]at hp;exact⟨hp.1,hp.2.2.1,hp.2.2.2.1⟩⟩
end Hs
namespace L2
open PySem
theorem DVs.get'{K:W.Frag}{H:Hp}:∀{xs:List V} {ds:List PyData} {i:Nat},DVs K H xs ds->i<ds.length->∃x d,xs[i]? =some x/\ds[i]? =some d/\DV K H x d
 |_,_,i,.nil,h=>by simp at h
 |_,_,0,.cons h _,_=>⟨_,_,rfl,rfl,h⟩
 |_,_,i+1,.cons _ t,h=>by
  obtain⟨x,d,h1,h2,h3⟩:=DVs.get' (i:=i) t (by simpa using h)
  exact⟨x,d,by simpa using h1,by simpa using h2,h3⟩
end L2
namespace Hs
open PySem L2 HsD
theorem at_xs{xs:List Int}{i:Int}(h0:0<=i)(h1:i<(xs.length:Int)):atI (xs.map V.int) i=some (.int (xs.getD i.toNat 0)):=by
 have hk:i.toNat<xs.length:=by omega
 have ek:((i.toNat:Nat):Int)=i:=by omega
 have q:atI (xs.map V.int) ((i.toNat:Nat):Int)=some (.int (xs.getD i.toNat 0)):=atI_nat (by rw[List.getElem?_map,List.getElem?_eq_getElem hk,List.getD_eq_getElem?_getD,List.getElem?_eq_getElem hk];rfl)
 rw[ek]at q
 exact q
theorem map_take_succ{α β γ:Type}{f:α->β}{g:β->γ}{l:List α}{i:Nat}(hi:i<l.length):((l.take i).map f).map g++[g (f l[i])]=((l.take (i+1)).map f).map g:=by
 rw[List.take_add_one,List.getElem?_eq_getElem hi,List.map_append,List.map_append]
 rfl
structure WebIs(K:W.Frag)(H:Hp)(a:Addr)(n:Int)(ts:List (Int×Int)):Prop where
 web:WebV K H a n ts
 h0:0<=n
 h1:n<=10
 pk:PairsOk n ts
 ok:WebOk n ts
theorem WebIs.same{K:W.Frag}{H H':Hp}{a:Addr}{n:Int}{ts:List (Int×Int)}(h:WebIs K H a n ts)(e:Same H H'):WebIs K H' a n ts:=⟨h.web.same e,h.h0,h.h1,h.pk,h.ok⟩
theorem WebIs.len{K:W.Frag}{H:Hp}{a:Addr}{n:Int}{ts:List (Int×Int)}(h:WebIs K H a n ts):ts.length<=45:=pairs_len h.pk h.h1
theorem WebIs.srt{K:W.Frag}{H:Hp}{a:Addr}{n:Int}{ts:List (Int×Int)}(h:WebIs K H a n ts):ts.Pairwise lt2:=web_sorted h.ok
section
variable{K:W.Frag}{H:Hp}{a b:Addr}{n1 n2:Int}{t1 t2:List (Int×Int)}
end
end Hs
namespace Hs
open PySem L2 HsD
noncomputable def tt(_ _:Int):Bool:=true
theorem rows_filter{so:Int->Int->Bool}{m:Int}{i:Nat}:(rows tt m i).filter (fun p=>so p.1 p.2)=rows so m i:=by
 refine eq_of_sorted ((zdg _ _ _).filter _) (zdg _ _ _) fun p=> ?_
 rw[List.mem_filter,zct,zct]
 constructor
 ·rintro⟨⟨a,b,c,d,_⟩,e⟩;exact⟨a,b,c,d,e⟩
 ·rintro⟨a,b,c,d,e⟩;exact⟨⟨a,b,c,d,rfl⟩,e⟩
section
variable{P:Program}{w:World}{K:W.Frag}{mg:Str->Option Value}{base:Heap}
structure LstP(K:W.Frag)(H:Hp)(l:Addr)(ps:List (Int×Int)):Prop where
 ex:∃rs,H l=some (.lst rs)/\DVs K H rs (ps.map pairD)
theorem LstP.same{H H':Hp}{l:Addr}{ps:List (Int×Int)}(h:LstP K H l ps)(e:Same H H'):LstP K H' l ps:=by
 obtain⟨rs,h1,h2⟩:=h.ex
 exact⟨rs,e _ _ h1,h2.same e⟩
noncomputable def spAllP(K:W.Frag):Sp:=fun vs H Q _=>∃(n:Int),vs=[.int n]/\0<=n/\n<=10/\∀l H',Same H H'->LstP K H' l (rows tt n n.toNat)->Q (.ref l) H'
theorem sc_allp:FnScope ["n","found","one"] ["n"] (defScope s_pairs):=⟨rfl,rfl,rfl,by decide+kernel,rfl,by decide+kernel,by decide+kernel⟩
theorem ok_allp{f:Addr}{fd:FuncData}(F:Fun K "pairs" "pairs" s_pairs f fd)(mR:mg "range"=none):FnOk P w K mg base CX0 1 f fd ["n"] (spAllP K):=by
 refine F.ok sc_allp (fun vs H Q E h=> ?_) (fun cdv A outer s H vs Q E hr h=> ?_)
 ·obtain⟨n,rfl,_⟩:=h
  rfl
 obtain⟨n,rfl,hn0,hn1,q⟩:=h
 refine⟨_,zae (zas (i:=1) sc_allp.nd rfl (Or.inl rfl) (pe_lst zab)) (zae (ps_for PassesOwn.never rfl (zba rfl mR (zaa (pv 0) zab)) (zaj (i:=2) sc_allp.nd rfl (Or.inr rfl)) (zah (zcb (pe_bm PySem.F.plainAttrs_list PySem.F.slot_list_extend PySem.F.type_list_extend mt_extend (pv 1) (zaa
    (zbo (own:=["other"]) (caps:=["one"]) (ix:=[2]) rfl (pi_range2 rfl mR (zaa (zbb zcz (pv 2) zag) (zaa (pv 0) zab))) rfl rfl (.cons rfl rfl .nil) (fun _ _ _ _ _=>zaj (i:=0) (show(["other","one"]:List Str).Nodup from by decide+kernel) rfl (Or.inl rfl)) (fun _ _ _ _ _=>zcn) (fun _ _ _ _ _=>zck (zaa (pv 1) (zaa (pv 0) zab)))) zab))))) (zah (zal (pv 1)))),?_⟩
 refine⟨(by show 0<=sizeLine;decide),fun l hl=> ?_⟩
 refine⟨_,rfl,n,rfl,by omega,by omega,?_⟩
 refine for_range (n:=n.toNat) (fun i σ H'=>Same H H'/\(∃rs,H' l=some (.lst rs)/\DVs K H' rs ((rows tt n i).map pairD))/\∃o,σ=[some (.int n),some (.ref l),o]) ⟨zad hl _,⟨[],zac,.nil⟩,_,rfl⟩ (fun i σ H' hi p=> ?_) (fun σ H' p=> ?_)
 ·obtain⟨sm,⟨rs,hr1,hr2⟩,o,rfl⟩:=p
  have hlen:=hr2.len
  rw[List.length_map]at hlen
  have h45:=pairs_len (rows_ok (so:=tt) (m:=n) (i:=i)) hn1
  refine⟨_,rfl,.inl ⟨rfl,_,SqL.of hr1⟩,_,rfl,_,_,rfl,rfl,_,rfl,_,_,rfl,⟨by omega,by omega,by omega,by omega⟩,?_⟩
  refine zbu (n:=(n-(0+(i:Int)+1)).toNat) (fun k acc σ H2=>Same H' H2/\acc.length=k/\DVs K H2 acc ((row tt (0+(i:Int)) k).map pairD)/\∃o1,σ=[o1,some (.int (0+(i:Int)))]) ⟨Same.refl _,rfl,.nil,_,rfl⟩ (fun k acc σ H2 hk p=>by rw[p.2.1];exact Nat.le_refl _) (by rw[sizeLine_eq];omega) (fun k acc σ H2 hk p=> ?_) (fun acc σ H2 p=> ?_)
  ·obtain⟨s2,hl2,hd,o1,rfl⟩:=p
   refine⟨_,rfl,_,rfl,(by show 2<=sizeLine;decide),fun p hp=> ?_⟩
   have s3:=zad hp (.tup [.int (0+(i:Int)),.int (0+(i:Int)+1+(k:Int))])
   refine⟨s2.trans s3,by rw[List.length_append,hl2];rfl,?_,_,rfl⟩
   rw[row_succ,List.map_append,if_pos (show tt (0+(i:Int)) (0+(i:Int)+1+(k:Int))=true from rfl)]
   exact(hd.same s3).append (.cons (.tup (SqT.of zac) (.cons (.int _) (.cons (.int _) .nil))) .nil)
  ·intro p1 hp1
   obtain⟨s2,hl2,hd,_⟩:=p
   have s3:=zad hp1 (.lst acc)
   have hr3:=s3 _ _ (s2 _ _ hr1)
   refine⟨l,p1,rs,acc,rfl,rfl,hr3,zac,?_,?_⟩
   ·rw[sizeLine_eq];omega
   ·have x4:SameX l (upd H2 p1 (.lst acc)) (upd (upd H2 p1 (.lst acc)) l (.lst (rs++acc))):=(SameX.refl _ _).upd
    refine⟨?_,⟨_,zac,?_⟩,_,rfl⟩
    ·intro b o hb
     have nb:b≠l:=fun e=>by rw[e,hl]at hb;cases hb
     exact x4 _ _ nb (s3 _ _ (s2 _ _ (sm _ _ hb)))
    ·rw[rows_succ]
     exact pairs_samex x4 hr3 (by rw[List.map_append];exact((hr2.same s2).same s3).append (hd.same s3))
 ·obtain⟨sm,⟨rs,hr1,hr2⟩,o,rfl⟩:=p
  exact⟨_,rfl,q l _ sm ⟨rs,hr1,hr2⟩⟩
theorem pair_at{H:Hp}{rs:List V}{ps:List (Int×Int)}{i:Nat}{x:V}(h:DVs K H rs (ps.map pairD))(hx:rs[i]? =some x):∃(t:Addr) (hi:i<ps.length),x= .ref t/\SqT K H t [.int (ps[i]).1,.int (ps[i]).2]:=by
 have hlen:=h.len
 rw[List.length_map]at hlen
 have hi:i<ps.length:=by rw[<-hlen];exact(List.getElem?_eq_some_iff.mp hx).1
 obtain⟨x',d,e1,e2,e3⟩:=DVs.get' (i:=i) h (by rw[List.length_map];exact hi)
 rw[hx]at e1;cases e1
 rw[List.getElem?_map,List.getElem?_eq_getElem hi]at e2
 cases e2
 cases e3 with
 |tup hp tp=>
  cases tp with
  |cons ta tb=>
   cases tb with
   |cons tc td=>
    cases td
    cases ta
    cases tc
    exact⟨_,hi,rfl,hp⟩
theorem filter_take{so:Int×Int->Bool}{ps:List (Int×Int)}{i:Nat}(hi:i<ps.length):(ps.take (i+1)).filter so=(ps.take i).filter so++(if so ps[i]=true then[ps[i]]else[]):=by
 rw[List.take_add_one,List.getElem?_eq_getElem hi,List.filter_append]
 congr 1
 show List.filter so [ps[i]]=_
 rw[List.filter_cons]
 rfl
end
end Hs
namespace Hs
open PySem L2 HsD
section
variable{P:Program}{w:World}{K:W.Frag}{mg:Str->Option Value}{base:Heap}
noncomputable def sh(b:Int)(p:Int×Int):Int×Int:=(p.1+b,p.2+b)
theorem sh_sorted{b:Int}{ts:List (Int×Int)}(h:ts.Pairwise lt2):(ts.map (sh b)).Pairwise lt2:=by
 rw[List.pairwise_map]
 refine h.imp fun h=> ?_
 unfold lt2 sh at *
 omega
theorem mem_sh{b:Int}{ts:List (Int×Int)}{p:Int×Int}:p∈ts.map (sh b)↔(p.1-b,p.2-b)∈ts:=by
 rw[List.mem_map]
 constructor
 ·rintro⟨q,hq,rfl⟩
  have e:(q.1+b-b,q.2+b-b)=q:=Prod.ext (by show q.1+b-b=q.1;omega) (by show q.2+b-b=q.2;omega)
  show(q.1+b-b,q.2+b-b)∈ts
  rw[e];exact hq
 ·intro h
  exact⟨_,h,Prod.ext (by show p.1-b+b=p.1;omega) (by show p.2-b+b=p.2;omega)⟩
noncomputable def spMoved(K:W.Frag):Sp:=fun vs H Q _=>∃(a:Addr) (n b:Int) (ts:List (Int×Int)),vs=[.ref a,.int b]/\WebV K H a n ts/\∀l H',Same H H'->LstP K H' l (ts.map (sh b))->H l=none->Q (.ref l) H'
theorem sc_moved:FnScope ["web","by"] ["web","by"] (defScope zch):=⟨rfl,rfl,rfl,by decide+kernel,rfl,by decide+kernel,by decide+kernel⟩
theorem ok_moved{f:Addr}{fd:FuncData}(F:Fun K "moved_ties" "moved_ties" zch f fd):FnOk P w K mg base CX0 1 f fd ["web","by"] (spMoved K):=by
 refine F.ok sc_moved (fun vs H Q E h=> ?_) (fun cdv A outer s H vs Q E hr h=> ?_)
 ·obtain⟨a,n,b,ts,rfl,_⟩:=h
  rfl
 obtain⟨a,n,b,ts,rfl,hW,q⟩:=h
 refine⟨_,zah (zal (zbo (own:=["one","other"]) (caps:=["by"]) (ix:=[1]) rfl (pi_tupL (zan zaw (pv 0) zag (fun _ _=>rfl))) rfl rfl (.cons rfl rfl .nil) (fun _ _ _ _ _=>pg_tupK K (n:=2) rfl (zcc (zaj (i:=0) (show(["one","other","by"]:List Str).Nodup from by decide+kernel) rfl (Or.inl rfl)) (zcc (zaj (i:=1) (show(["one","other","by"]:List Str).Nodup from by decide+kernel) rfl (Or.inl rfl)) pgs_nil))) (fun _ _ _ _ _=>zcn) (fun _ _ _ _ _=>zck (zaa (zbb zcz (pv 0) (pv 2)) (zaa (zbb zcz (pv 1) (pv 2)) zab))))),?_⟩
 obtain⟨t,rs,h1,h2,h3⟩:=hW
 refine⟨_,rfl,a,_,_,.ref t,rfl,rfl,h1,rfl,t,rs,rfl,h2,fun hz=> ?_⟩
 have hlen:=h3.len
 rw[List.length_map]at hlen
 refine comp_tup (xs:=rs) (fun i acc σ H'=>Same H H'/\acc.length=i/\DVs K H' acc (((ts.take i).map (sh b)).map pairD)/\∃o1 o2,σ=[o1,o2,some (.int b)]) ⟨Same.refl _,rfl,.nil,_,_,rfl⟩ (fun i acc σ H' _ p=>p.1.tup h2) (fun i acc σ H' hi p=>by rw[p.2.1];exact Nat.le_refl _) hz (fun i x acc σ H' hx p=> ?_) (fun acc σ H' p=> ?_)
 ·obtain⟨sm,hl,hd,o1,o2,rfl⟩:=p
  have hi:i<ts.length:=by rw[<-hlen];exact(List.getElem?_eq_some_iff.mp hx).1
  obtain⟨x',d,e1,e2,e3⟩:=DVs.get' (i:=i) h3 (by rw[List.length_map];exact hi)
  rw[hx]at e1;cases e1
  rw[List.getElem?_map,List.getElem?_eq_getElem hi]at e2
  cases e2
  cases e3 with
  |tup hp tp=>
   cases tp with
   |cons ta tb=>
    cases tb with
    |cons tc td=>
     cases td
     cases ta
     cases tc
     refine⟨_,_,rfl,sm.tup hp,rfl,_,_,rfl,_,_,rfl,rfl,?_⟩
     refine⟨_,rfl,_,rfl,_,_,rfl,rfl,_,rfl,_,rfl,_,_,rfl,rfl,(by show 2<=sizeLine;decide),fun p hp'=> ?_⟩
     have s2:=zad hp' (.tup [.int (ts[i].1+b),.int (ts[i].2+b)])
     refine⟨sm.trans s2,by rw[List.length_append,hl];rfl,?_,_,_,rfl⟩
     rw[List.take_add_one,List.getElem?_eq_getElem hi]
     simp only[Option.toList_some,List.map_append]
     refine(hd.same s2).append (.cons (.tup (SqT.of zac) (.cons (.int _) (.cons (.int _) .nil))) .nil)
 ·intro p1 hp1
  obtain⟨sm,hl,hd,_⟩:=p
  rw[hlen,List.take_length]at hd
  have s2:=zad hp1 (.lst acc)
  exact q p1 _ (sm.trans s2) ⟨acc,zac,hd.same s2⟩ (sm.free hp1)
noncomputable def bes(n1:Int)(t1 t2:List (Int×Int)):List (Int×Int):=t1.map (sh 0)++t2.map (sh n1)
noncomputable def so7(n1:Int)(t1 t2:List (Int×Int))(tied:Bool)(i j:Int):Bool:=if j<n1 then decide ((i,j)∈t1)else if n1<=i then decide ((i-n1,j-n1)∈t2)else tied
theorem mem_bes{n1:Int}{t1 t2:List (Int×Int)}{p:Int×Int}:p∈bes n1 t1 t2↔p∈t1\/(p.1-n1,p.2-n1)∈t2:=by
 unfold bes
 rw[List.mem_append,mem_sh,mem_sh]
 have e:(p.1-0,p.2-0)=p:=Prod.ext (by show p.1-0=p.1;omega) (by show p.2-0=p.2;omega)
 rw[e]
theorem bes_sorted{n1 n2:Int}{t1 t2:List (Int×Int)}(h1:PairsOk n1 t1)(h2:PairsOk n2 t2)(s1:t1.Pairwise lt2)(s2:t2.Pairwise lt2):(bes n1 t1 t2).Pairwise lt2:=by
 unfold bes
 rw[List.pairwise_append]
 refine⟨sh_sorted s1,sh_sorted s2,fun p hp q hq=> ?_⟩
 rw[mem_sh]at hp hq
 have a:=h1.lt _ hp
 have b:=h2.lt _ hq
 exact .inl (by have a1:p.1-0<p.2-0:=a.2.1;have a2:p.2-0<n1:=a.2.2;have b1:0<=q.1-n1:=b.1;omega)
theorem bes_eq{n1 n2:Int}{t1 t2:List (Int×Int)}(h1:PairsOk n1 t1)(h2:PairsOk n2 t2)(hn1:0<=n1)(hn2:0<=n2)(s1:t1.Pairwise lt2)(s2:t2.Pairwise lt2):bes n1 t1 t2=rows (so7 n1 t1 t2 false) (n1+n2) (n1+n2).toNat:=by
 refine rows_eq (by omega) (bes_sorted h1 h2 s1 s2) fun p=> ?_
 rw[mem_bes]
 unfold so7
 constructor
 ·rintro(h|h)
  ·have a:=h1.lt _ h
   refine⟨a.1,a.2.1,by omega,?_⟩
   rw[if_pos a.2.2]
   exact decide_eq_true h
  ·obtain⟨b1,b2,b3⟩:=h2.lt _ h
   have b1':0<=p.1-n1:=b1
   have b2':p.1-n1<p.2-n1:=b2
   have b3':p.2-n1<n2:=b3
   refine⟨by omega,by omega,by omega,?_⟩
   rw[if_neg (by omega),if_pos (by omega)]
   exact decide_eq_true h
 ·rintro⟨a1,a2,a3,a4⟩
  split at a4
  ·exact .inl (of_decide_eq_true a4)
  ·split at a4
   ·exact .inr (of_decide_eq_true a4)
   ·cases a4
noncomputable def spBeside(K:W.Frag):Sp:=fun vs H Q _=>∃(a b:Addr) (n1 n2:Int) (t1 t2:List (Int×Int)),vs=[.ref a,.ref b]/\WebV K H a n1 t1/\WebV K H b n2 t2/\WebOk n1 t1/\WebOk n2 t2/\t1.length<=45/\t2.length<=45/\n1+n2<=10/\∀r H',Same H H'->WebV K H' r (n1+n2) (bes n1 t1 t2)->Q (.ref r) H'
theorem sc_beside:FnScope ["one","other","n"] ["one","other"] (defScope s_beside):=⟨rfl,rfl,rfl,by decide+kernel,rfl,by decide+kernel,by decide+kernel⟩
theorem ok_beside{f f1 f2 f3:Addr}{fd d1 d2 d3:FuncData}(F:Fun K "beside" "beside" s_beside f fd)(D1:Dfn K mg "need_web" zbi ["thing"] f1 d1)(G1:FnOk P w K mg base CX0 7 f1 d1 ["thing"] (spNeedWeb K))(D2:Dfn K mg "need_few" zcv ["n"] f2 d2)(G2:FnOk P w K mg base CX0 1 f2 d2 ["n"] (spNeedFew K))(D3:Dfn K mg "moved_ties" zch ["web","by"] f3 d3)(G3:FnOk P w K mg base CX0 1 f3 d3 ["web","by"] (spMoved K))(mT:mg "tuple"=none):
  FnOk P w K mg base CX0 8 f fd ["one","other"] (spBeside K):=by
 refine F.ok sc_beside (fun vs H Q E h=> ?_) (fun cdv A outer s H vs Q E hr h=> ?_)
 ·obtain⟨a,b,n1,n2,t1,t2,rfl,_⟩:=h
  rfl
 obtain⟨a,b,n1,n2,t1,t2,rfl,hA,hB,oA,oB,lA,lB,hn,q⟩:=h
 refine⟨_,zae (zcb (zaf G1 hr rfl D1.m D1.F.kp D1.b .nil pass0 (zaa (pv 0) zab))) (zae (zcb (zaf G1 hr rfl D1.m D1.F.kp D1.b .nil pass0 (zaa (pv 1) zab))) (zae (zas (i:=2) sc_beside.nd rfl (Or.inl rfl) (zbb zcz (zan zaw (pv 0) zag (fun _ _=>rfl)) (zan zaw (pv 1) zag (fun _ _=>rfl)))) (zae (zcb (zaf (G2.mono (by decide)) hr rfl D2.m D2.F.kp D2.b .nil pass0 (zaa (pv 2) zab))) (zah (zal (zck (zaa (pv 2) (zaa (zbp zav rfl mT (by decide+kernel) (zaa (zbb op_cat
   (zaf (G3.mono (by decide)) hr rfl D3.m D3.F.kp D3.b .nil pass0 (zaa (pv 0) (zaa zag zab)))
   (zaf (G3.mono (by decide)) hr rfl D3.m D3.F.kp D3.b .nil pass0 (zaa (pv 1) (zaa (zan zaw (pv 0) zag (fun _ _=>rfl)) zab)))) zab)) zab)))))))),?_⟩
 refine⟨_,rfl,_,_,rfl,hA.dv.dx,oA,fun H1 s1=> ?_⟩
 refine⟨_,rfl,_,_,rfl,(hB.same s1).dv.dx,oB,fun H2 s2=> ?_⟩
 have s12:=s1.trans s2
 obtain⟨ta,ra,a1,a2,a3⟩:=id (hA.same s12)
 obtain⟨tb,rb,b1,b2,b3⟩:=id (hB.same s12)
 refine⟨_,rfl,a,_,_,.int n1,rfl,rfl,a1,rfl,_,rfl,b,_,_,.int n2,rfl,rfl,b1,rfl,_,_,rfl,rfl,?_⟩
 refine⟨_,rfl,n1+n2,rfl,hn,?_⟩
 refine⟨_,rfl,_,rfl,a,n1,0,t1,rfl,hA.same s12,fun l1 H3 s3 p1 _=> ?_⟩
 refine⟨_,rfl,_,rfl,a,_,_,.int n1,rfl,rfl,s3.tup a1,rfl,b,n2,n1,t2,rfl,(hB.same s12).same s3,fun l2 H4 s4 p2 _=> ?_⟩
 obtain⟨r1,e1,v1⟩:=(p1.same s4).ex
 obtain⟨r2,e2,v2⟩:=p2.ex
 have hl1:=v1.len
 have hl2:=v2.len
 simp only[List.length_map]at hl1 hl2
 refine⟨l1,l2,r1,r2,rfl,rfl,e1,e2,by rw[sizeLine_eq];omega,fun p hp=> ?_⟩
 have s5:=zad hp (.lst (r1++r2))
 refine⟨p,_,rfl,.inl ⟨SqL.of zac,fun t ht=> ?_⟩⟩
 have s6:=zad ht (.tup (r1++r2))
 refine⟨(by show 2<=sizeLine;decide),fun r hr'=> ?_⟩
 have s7:=zad hr' (.tup [.int (n1+n2),.ref t])
 refine q r _ (s12.trans (s3.trans (s4.trans (s5.trans (s6.trans s7))))) ⟨t,r1++r2,SqT.of zac,SqT.of (s7 _ _ zac),?_⟩
 unfold bes
 rw[List.map_append]
 exact((v1.append v2).same s5).same (s6.trans s7)
theorem rows_web{so:Int->Int->Bool}{m:Int}(h0:0<=m)(h1:m<=10):WebOk m (rows so m m.toNat):=
 web_ok h0 h1 rows_ok ((zdg _ _ _).imp fun{p q} h=>by
  cases e:HT.lexLt (pl q) (pl p)with
  |false=>rfl
  |true=>exact(lt2.irr (lt2.trans h (lex_lt2 e))).elim)
theorem WebIs.rows{H:Hp}{a:Addr}{so:Int->Int->Bool}{m:Int}(h:WebV K H a m (rows so m m.toNat))(h0:0<=m)(h1:m<=10):WebIs K H a m (Hs.rows so m m.toNat):=⟨h,h0,h1,rows_ok,rows_web h0 h1⟩
end
end Hs
namespace Hs
open PySem L2 HsD
structure SetOk(n:Int)(xs:List Int):Prop where
 srt:xs.Pairwise (· < ·)
 lt:∀x∈xs,0<=x/\x<n
theorem SetOk.nil(n:Int):SetOk n []:=⟨.nil,fun _ h=>nomatch h⟩
theorem SetOk.len{n:Int}{xs:List Int}(h:SetOk n xs)(hn:n<=10):xs.length<=10:=by
 have h1:Sub n.toNat xs:=⟨h.srt.imp fun h e=>by omega,fun i hi=>by have:=h.lt i hi;omega⟩
 have:=h1.len
 omega
theorem SetOk.setD{n:Int}{xs:List Int}(h:SetOk n xs):HsD.setD n (.tuple (xs.map PyData.int))=true:=by
 unfold HsD.setD
 rw[Bool.and_eq_true]
 refine⟨?_,?_⟩
 ·rw[List.all_map,List.all_eq_true]
  intro x hx
  have:=h.lt x hx
  show(decide (0<=x)&&decide (x<n))=true
  rw[decide_eq_true this.1,decide_eq_true this.2];rfl
 ·rw[List.map_map]
  have e:xs.map (intD∘PyData.int)=xs:=(List.map_congr_left fun x _=>rfl).trans (List.map_id xs)
  rw[e]
  unfold risesI
  rw[List.all_eq_true]
  intro k hk
  rw[List.mem_range]at hk
  have h2:=List.pairwise_iff_getElem.mp h.srt k (k+1) (by omega) (by omega) (by omega)
  have g:∀j,(hj:j<xs.length)->xs.getD j 0=xs[j]:=fun j hj=>by rw[List.getD_eq_getElem?_getD,List.getElem?_eq_getElem hj];rfl
  rw[g k (by omega),g (k+1) (by omega)]
  exact decide_eq_true h2
noncomputable def so9(xs:List Int)(ts:List (Int×Int))(i j:Int):Bool:=hasTie ts (xs.getD i.toNat 0) (xs.getD j.toNat 0)
noncomputable def upto(n:Nat):List Int:=(List.range n).map fun(k:Nat)=>(k:Int)
theorem upto_ok(n:Int):SetOk n (upto n.toNat):=by
 unfold upto
 refine⟨?_,fun x hx=> ?_⟩
 ·rw[List.pairwise_map]
  exact List.pairwise_lt_range.imp fun h=>by omega
 ·obtain⟨k,hk,rfl⟩:=List.mem_map.mp hx
  rw[List.mem_range]at hk
  omega
section
variable{P:Program}{w:World}{K:W.Frag}{mg:Str->Option Value}{base:Heap}
noncomputable def spCut(K:W.Frag):Sp:=fun vs H Q _=>∃(a sm:Addr) (n:Int) (ts:List (Int×Int)) (xs:List Int),vs=[.ref a,.ref sm]/\WebIs K H a n ts/\SqT K H sm (xs.map V.int)/\SetOk n xs/\
 ∀r H',Same H H'->WebV K H' r (xs.length:Int) (rows (so9 xs ts) (xs.length:Int) (xs.length:Int).toNat)->Q (.ref r) H'
theorem sc_cut:FnScope ["web","some","kept"] ["web","some"] (defScope zcq):=⟨rfl,rfl,rfl,by decide+kernel,rfl,by decide+kernel,by decide+kernel⟩
theorem ok_cut{f f1 f2 f3 f4:Addr}{fd d1 d2 d3 d4:FuncData}(F:Fun K "cut_down" "cut_down" zcq f fd)(D1:Dfn K mg "need_web" zbi ["thing"] f1 d1)(G1:FnOk P w K mg base CX0 7 f1 d1 ["thing"] (spNeedWeb K))(D2:Dfn K mg "need_set" zco ["web","thing"] f2 d2)(G2':FnOk P w K mg base CX0 5 f2 d2 ["web","thing"] (spNeedSet K))(D3:Dfn K mg "pairs" s_pairs ["n"] f3 d3)(G3':FnOk P w K mg base CX0 1 f3 d3 ["n"] (spAllP K))(D4:Dfn K mg "has_tie" zcd ["web","one","other"] f4 d4)(G4':FnOk P w K mg base CX0 1 f4 d4 ["web","one","other"] (spHas K))(mT:mg "tuple"=none)(mL:mg "len"=none):
  FnOk P w K mg base CX0 8 f fd ["web","some"] (spCut K):=by
 have G2:FnOk P w K mg base CX0 7 f2 d2 ["web","thing"] (spNeedSet K):=G2'.mono (by decide)
 have G3:FnOk P w K mg base CX0 7 f3 d3 ["n"] (spAllP K):=G3'.mono (by decide)
 have G4:FnOk P w K mg base CX0 7 f4 d4 ["web","one","other"] (spHas K):=G4'.mono (by decide)
 refine F.ok sc_cut (fun vs H Q E h=> ?_) (fun cdv A outer s H vs Q E hr h=> ?_)
 ·obtain⟨a,sm,n,ts,xs,rfl,_⟩:=h
  rfl
 obtain⟨a,sm,n,ts,xs,rfl,hA,hX,hok,q⟩:=h
 refine⟨_,zae (zcb (zaf G1 hr rfl D1.m D1.F.kp D1.b .nil pass0 (zaa (pv 0) zab))) (zae (zcb (zaf G2 hr rfl D2.m D2.F.kp D2.b .nil pass0 (zaa (pv 0) (zaa (pv 1) zab)))) (zae (zdh (i:=2) (own:=["i","j"]) (caps:=["web","some"]) (ix:=[0,1]) sc_cut.nd rfl (Or.inl rfl) rfl (zdc (zaf G3 hr rfl D3.m D3.F.kp D3.b .nil pass0 (zaa (zai zao rfl mL PySem.boot_len (zaa (pv 1) zab)) zab))) rfl rfl (.cons rfl rfl (.cons rfl rfl .nil)) (fun _ _ _ _ _=>pg_tupK K (n:=2) rfl (zcc (zaj (i:=0) (show(["i","j","web","some"]:List Str).Nodup from by decide+kernel) rfl (Or.inl rfl)) (zcc (zaj (i:=1) (show(["i","j","web","some"]:List Str).Nodup from by decide+kernel) rfl (Or.inl rfl)) pgs_nil))) (fun _ _ _ _ _=>zcr (zcy (zaf G4 hr rfl D4.m D4.F.kp D4.b .nil pass0 (zaa (pv 2) (zaa (zan (ix_tupK K) (pv 3) (pv 0) (fun _ _=>rfl)) (zaa (zan (ix_tupK K) (pv 3) (pv 1) (fun _ _=>rfl)) zab)))))) (fun _ _ _ _ _=>zck (zaa (pv 0) (zaa (pv 1) zab)))) (zah (zal (zck (zaa (zai zao rfl mL PySem.boot_len (zaa (pv 1) zab)) (zaa (zbp zav rfl mT (by decide+kernel) (zaa (pv 2) zab)) zab))))))),?_⟩
 have hA1:=hA.h1
 have h10:=hok.len hA1
 refine⟨_,rfl,_,_,rfl,hA.web.dv.dx,hA.ok,fun H1 s1=> ?_⟩
 obtain⟨ta,ra,a1,a2,a3⟩:=id (hA.same s1).web
 have hDX:DX K H1 (.ref sm) (.tuple (xs.map PyData.int)):=(DV.tup (s1.tup hX) (DVs.ints xs)).dx
 refine⟨_,rfl,_,rfl,a,n,_,_,_,rfl,a1,hDX,hok.setD,fun H2 s2=> ?_⟩
 have s12:=s1.trans s2
 refine⟨_,rfl,sm,_,rfl,.inr (s12.tup hX),fun _=>⟨_,rfl,by omega,by rw[List.length_map];omega,fun l H3 s3 p1=> ?_⟩⟩
 rw[List.length_map]at p1
 obtain⟨rs,e1,v1⟩:=p1.ex
 refine⟨l,rs,rfl,SqL.of e1,fun hz=> ?_⟩
 have hlen:=v1.len
 rw[List.length_map]at hlen
 have s13:=s12.trans s3
 generalize hR:rows tt (xs.length:Int) (xs.length:Int).toNat=R at *
 have hR':∀p∈R,0<=p.1/\p.1<p.2/\p.2<(xs.length:Int):=fun p hp=>by rw[<-hR,zct]at hp;exact⟨hp.1,hp.2.2.1,hp.2.2.2.1⟩
 refine zde (xs:=rs) (fun i acc σ H'=>Same H3 H'/\acc.length<=i/\DVs K H' acc ((R.take i).filter (fun p=>so9 xs ts p.1 p.2)|>.map pairD)/\∃o1 o2,σ=[o1,o2,some (.ref a),some (.ref sm)]) ⟨Same.refl _,Nat.le_refl _,.nil,_,_,rfl⟩ (fun i acc σ H' _ p=>p.1.seq (SqL.of e1)) (fun i acc σ H' hi p=>p.2.1) hz (fun i x acc σ H' hx p=> ?_) (fun acc σ H' p=> ?_)
 ·obtain⟨sm',hl,hd,o1,o2,rfl⟩:=p
  obtain⟨t,hi,rfl,ht⟩:=pair_at v1 hx
  have sA:=s13.trans sm'
  have hb:=hR' _ (List.getElem_mem hi)
  refine⟨t,_,rfl,sm'.tup ht,rfl,_,_,rfl,_,_,rfl,rfl,?_⟩
  refine⟨_,rfl,_,rfl,_,rfl,sm,_,_,_,rfl,rfl,sA.tup hX,at_xs hb.1 (by omega),_,rfl,_,rfl,sm,_,_,_,rfl,rfl,sA.tup hX,at_xs (by omega) hb.2.2,?_⟩
  refine⟨a,n,_,_,ts,rfl,(hA.same sA).web,fun H5 s5=>⟨_,rfl,?_⟩⟩
  rw[filter_take hi]
  refine ite2 (fun c=> ?_) (fun c=> ?_)
  ·refine⟨_,rfl,_,rfl,(by show 2<=sizeLine;decide),fun p hp=> ?_⟩
   have s6:=zad hp (.tup [.int (R[i]).1,.int (R[i]).2])
   refine⟨sm'.trans (s5.trans s6),by rw[List.length_append];show acc.length+1<=i+1;omega,?_,_,_,rfl⟩
   rw[if_pos (show so9 xs ts _ _=true from c),List.map_append]
   exact(hd.same (s5.trans s6)).append (.cons (.tup (SqT.of zac) (.cons (.int _) (.cons (.int _) .nil))) .nil)
  ·refine⟨sm'.trans s5,by omega,?_,_,_,rfl⟩
   rw[if_neg (show¬so9 xs ts _ _=true from c),List.append_nil]
   exact hd.same s5
 ·intro p1 hp1
  obtain⟨sm',hl,hd,_⟩:=p
  rw[hlen,List.take_length,<-hR,rows_filter]at hd
  have s5:=zad hp1 (.lst acc)
  have sA:=s13.trans (sm'.trans s5)
  refine⟨_,rfl,sm,_,rfl,.inr (sA.tup hX),fun _=>⟨_,rfl,p1,_,rfl,.inl ⟨SqL.of zac,fun t ht=> ?_⟩⟩⟩
  have s6:=zad ht (.tup acc)
  refine⟨(by show 2<=sizeLine;decide),fun r hr'=> ?_⟩
  rw[List.length_map]
  have s7:=zad hr' (.tup [.int (xs.length:Int),.ref t])
  exact q r _ (sA.trans (s6.trans s7)) ⟨t,acc,SqT.of zac,SqT.of (s7 _ _ zac),hd.same (s5.trans (s6.trans s7))⟩
end
end Hs
namespace Hs
open HsD
noncomputable def prs:List Int->List (Int×Int)
 |[]=>[]
 |x::xs=>xs.map (fun y=>(x,y))++prs xs
theorem prs_len:∀xs:List Int,2*(prs xs).length+xs.length=xs.length*xs.length
 |[]=>rfl
 |x::xs=>by
  have ih:=prs_len xs
  show 2*((xs.map fun y=>(x,y))++prs xs).length+(xs.length+1)=(xs.length+1)*(xs.length+1)
  rw[List.length_append,List.length_map,Nat.add_mul,Nat.mul_add,Nat.one_mul,Nat.mul_add,Nat.mul_one]
  omega
theorem mem_prs{xs:List Int}(h:xs.Pairwise (· < ·)){p:Int×Int}:p∈prs xs↔p.1∈xs/\p.2∈xs/\p.1<p.2:=by
 induction xs with
 |nil=>simp[prs]
 |cons x xs ih=>
  rw[List.pairwise_cons]at h
  show p∈(xs.map fun y=>(x,y))++prs xs↔_
  rw[List.mem_append,ih h.2,List.mem_map,List.mem_cons,List.mem_cons]
  constructor
  ·rintro(⟨y,hy,rfl⟩|⟨a,b,c⟩)
   ·exact⟨.inl rfl,.inr hy,h.1 y hy⟩
   ·exact⟨.inr a,.inr b,c⟩
  ·rintro⟨a|a,b|b,c⟩
   ·omega
   ·exact .inl ⟨p.2,b,by rw[<-a]⟩
   ·have:=h.1 _ a;omega
   ·exact .inr ⟨a,b,c⟩
theorem prs_nodup{xs:List Int}(h:xs.Pairwise (· < ·)):(prs xs).Nodup:=by
 induction xs with
 |nil=>exact List.nodup_nil
 |cons x xs ih=>
  rw[List.pairwise_cons]at h
  show((xs.map fun y=>(x,y))++prs xs).Nodup
  refine List.nodup_append.mpr ⟨?_,ih h.2,fun a ha b hb e=> ?_⟩
  ·rw[List.nodup_iff_pairwise_ne,List.pairwise_map]
   exact h.2.imp fun{a b} h e=>by injection e with _ e2;omega
  ·obtain⟨y,hy,rfl⟩:=List.mem_map.mp ha
   subst e
   have:=h.1 _ ((mem_prs h.2).mp hb).1
   dsimp only at this
   omega
noncomputable def inB(xs:List Int)(p:Int×Int):Bool:=decide (p.1∈xs)&&decide (p.2∈xs)
theorem count_prs{n:Int}{ts:List (Int×Int)}{xs:List Int}(ht:PairsOk n ts)(h:xs.Pairwise (· < ·)):(ts.filter (inB xs)).length=((prs xs).filter fun p=>decide (p∈ts)).length:=by
 have m:∀p:Int×Int,p∈ts.filter (inB xs)↔p∈(prs xs).filter fun p=>decide (p∈ts):=fun p=>by
  rw[List.mem_filter,List.mem_filter,mem_prs h]
  unfold inB
  rw[Bool.and_eq_true,decide_eq_true_eq,decide_eq_true_eq,decide_eq_true_eq]
  constructor
  ·rintro⟨a,b,c⟩;exact⟨⟨b,c,(ht.lt p a).2.1⟩,a⟩
  ·rintro⟨⟨a,b,_⟩,c⟩;exact⟨c,a,b⟩
 exact Nat.le_antisymm (zdd (ht.nd.filter _) fun p hp=>(m p).mp hp) (zdd ((prs_nodup h).filter _) fun p hp=>(m p).mpr hp)
noncomputable def agreeB(ts:List (Int×Int))(xs:List Int)(w:Bool):Bool:=(List.range xs.length).all fun j=>(xs.take j).all fun o=>tiedL ts (xs.getD j 0) o==w
theorem agree_iff{ts:List (Int×Int)}{xs:List Int}{w:Bool}:agreeB ts xs w=true↔∀p∈prs xs,tiedL ts p.2 p.1=w:=by
 have key:∀xs:List Int,(∀j,j<xs.length->∀o∈xs.take j,tiedL ts (xs.getD j 0) o=w)↔∀p∈prs xs,tiedL ts p.2 p.1=w:=by
  intro xs
  induction xs with
  |nil=>simp[prs]
  |cons x xs ih=>
   constructor
   ·intro h p hp
    rcases List.mem_append.mp (show p∈(xs.map fun y=>(x,y))++prs xs from hp)with q|q
    ·obtain⟨y,hy,rfl⟩:=List.mem_map.mp q
     obtain⟨i,hi,rfl⟩:=List.getElem_of_mem hy
     have:=h (i+1) (by simpa using hi) x (by simp)
     simpa[hi]using this
    ·refine ih.mp (fun j hj o ho=> ?_) p q
     have:=h (j+1) (by simpa using hj) o (by simp[ho])
     simpa using this
   ·intro h j hj o ho
    cases j with
    |zero=>simp at ho
    |succ j=>
     have hj':j<xs.length:=by simpa using hj
     rw[List.take_succ_cons,List.mem_cons]at ho
     rcases ho with rfl|ho
     ·have:=h (o,xs[j]) (List.mem_append_left _ (List.mem_map.mpr ⟨xs[j],List.getElem_mem _,rfl⟩))
      simpa[hj']using this
     ·have:=ih.mpr (fun p hp=>h p (List.mem_append_right _ hp)) j hj' o ho
      simpa using this
 rw[<-key]
 unfold agreeB
 rw[List.all_eq_true]
 constructor
 ·intro h j hj o ho
  have:=List.all_eq_true.mp (h j (List.mem_range.mpr hj)) o ho
  simpa using this
 ·intro h j hj
  rw[List.all_eq_true]
  intro o ho
  simpa using h j (List.mem_range.mp hj) o ho
theorem tied_prs{n:Int}{ts:List (Int×Int)}{xs:List Int}(ht:PairsOk n ts)(h:xs.Pairwise (· < ·)){p:Int×Int}(hp:p∈prs xs):tiedL ts p.2 p.1=decide (p∈ts):=by
 have lt:=((mem_prs h).mp hp).2.2
 unfold tiedL
 have:decide ((p.2,p.1)∈ts)=false:=decide_eq_false fun z=>by have:=(ht.lt _ z).2.1;dsimp only at this;omega
 rw[this,Bool.false_or]
theorem crowd_eq{n:Int}{ts:List (Int×Int)}{xs:List Int}(ht:PairsOk n ts)(h:xs.Pairwise (· < ·)):decide (((ts.filter (inB xs)).length:Int)=(xs.length:Int)*((xs.length:Int)-1)/2)=agreeB ts xs true:=by
 have e:(xs.length:Int)*((xs.length:Int)-1)/2=((prs xs).length:Int):=by
  have:=prs_len xs
  have h2:(xs.length:Int)*((xs.length:Int)-1)=2*((prs xs).length:Int):=by
   rw[Int.mul_sub,Int.mul_one]
   have h3:(xs.length:Int)*(xs.length:Int)=((xs.length*xs.length:Nat):Int):=by simp
   rw[h3,<-this]
   omega
  rw[h2];omega
 rw[e,Bool.eq_iff_iff,decide_eq_true_eq,agree_iff,count_prs ht h]
 constructor
 ·intro a p hp
  rw[tied_prs ht h hp]
  have a':((prs xs).filter fun p=>decide (p∈ts)).length=(prs xs).length:=by omega
  exact List.length_filter_eq_length_iff.mp a' p hp
 ·intro a
  have:((prs xs).filter fun p=>decide (p∈ts)).length=(prs xs).length:=List.length_filter_eq_length_iff.mpr fun p hp=>by
   have:=a p hp;rw[tied_prs ht h hp]at this;exact this
  omega
end Hs
namespace Hs
open PySem HsD
noncomputable def inR(n:Int)(y:Int):Bool:=decide (0<=y)&&decide (y<n)
theorem rising_of{xs:List Int}(nd:xs.Nodup):∃ys:List Int,ys.Perm xs/\ys.Pairwise (· < ·):=by
 have hp:=List.mergeSort_perm xs (fun a b=>decide (a<=b))
 have hs:=List.pairwise_mergeSort (le:=fun a b:Int=>decide (a<=b)) (fun a b c h1 h2=>by simp only[decide_eq_true_eq]at *;omega) (fun a b=>by simp only[Bool.or_eq_true,decide_eq_true_eq];omega) xs
 refine⟨_,hp,(hs.and (List.nodup_iff_pairwise_ne.mp (hp.nodup_iff.mpr nd))).imp fun{a b} h=> ?_⟩
 have:=of_decide_eq_true h.1
 have:=h.2
 omega
theorem prs_pw{R:Int->Int->Prop}:∀xs:List Int,(∀p∈prs xs,R p.1 p.2)↔xs.Pairwise R
 |[]=>by simp[prs]
 |x::xs=>by
  rw[List.pairwise_cons,<-prs_pw xs]
  constructor
  ·intro h
   exact⟨fun y hy=>h (x,y) (List.mem_append_left _ (List.mem_map.mpr ⟨y,hy,rfl⟩)),fun p hp=>h p (List.mem_append_right _ hp)⟩
  ·rintro⟨h1,h2⟩ p hp
   rcases List.mem_append.mp (show p∈(xs.map fun y=>(x,y))++prs xs from hp)with q|q
   ·obtain⟨y,hy,rfl⟩:=List.mem_map.mp q
    exact h1 y hy
   ·exact h2 p q
theorem zar(ts:List (Int×Int))(i j:Int):tiedL ts i j=tiedL ts j i:=by unfold tiedL;rw[Bool.or_comm]
theorem agree_perm{ts:List (Int×Int)}{xs ys:List Int}{w:Bool}(h:ys.Perm xs):agreeB ts ys w=agreeB ts xs w:=by
 rw[Bool.eq_iff_iff,agree_iff,agree_iff]
 have a:=prs_pw (R:=fun x y=>tiedL ts y x=w) ys
 have b:=prs_pw (R:=fun x y=>tiedL ts y x=w) xs
 rw[a,b]
 exact h.pairwise_iff fun{x y} e=>by rw[zar];exact e
theorem crowd_nd{n:Int}{ts:List (Int×Int)}{xs:List Int}(ht:PairsOk n ts)(nd:xs.Nodup):decide (((ts.filter (inB xs)).length:Int)=(xs.length:Int)*((xs.length:Int)-1)/2)=agreeB ts xs true:=by
 obtain⟨ys,hp,hs⟩:=rising_of nd
 have e:=crowd_eq ht hs
 rw[agree_perm hp,hp.length_eq]at e
 rw[<-e]
 have ei:inB xs=inB ys:=by
  funext p
  unfold inB
  have a:=hp.mem_iff (a:=p.1)
  have b:=hp.mem_iff (a:=p.2)
  simp only[a,b]
 rw[ei]
theorem any_ints(xs:List Int)(k:Int):((xs.map PyData.int).any fun d=>PyData.eqv d (.int k))=decide (k∈xs):=by
 induction xs with
 |nil=>simp
 |cons x xs ih=>
  rw[List.map_cons,List.any_cons,ih]
  have e:PyData.eqv (.int x) (.int k)=decide (k=x):=by
   show(x==k)=_
   rw[Bool.eq_iff_iff];simp;exact⟨fun h=>h.symm,fun h=>h.symm⟩
  rw[e,Bool.eq_iff_iff]
  simp
noncomputable def rng(n:Nat):List Int:=(List.range n).map fun k=>((k:Nat):Int)
noncomputable def stepF(ts:List (Int×Int))(xs:List Int)(k:Nat):Bool:=agreeB ts ((xs.drop (k+1)).filter fun o=>tiedL ts (xs.getD k 0) o) true
noncomputable def foldB(n:Int)(ts:List (Int×Int))(xs:List Int):Bool:=decide ((xs.length:Int)=n)&&(xs.all (inR n)&&decide xs.Nodup)&&(List.range xs.length).all (stepF ts xs)
theorem tiedL_self{n:Int}{ts:List (Int×Int)}(ht:PairsOk n ts)(i:Int):tiedL ts i i=false:=by
 unfold tiedL
 have:decide ((i,i)∈ts)=false:=decide_eq_false fun z=>by have:=(ht.lt _ z).2.1;dsimp only at this;omega
 rw[this];rfl
theorem drop_self{n:Int}{ts:List (Int×Int)}{xs:List Int}{k:Nat}(ht:PairsOk n ts)(hk:k<xs.length):(xs.drop k).filter (fun o=>hasTie ts (xs.getD k 0) o)=(xs.drop (k+1)).filter fun o=>tiedL ts (xs.getD k 0) o:=by
 have e:xs.getD k 0=xs[k]:=by simp[hk]
 have ef:(fun o=>hasTie ts (xs.getD k 0) o)=fun o=>tiedL ts (xs.getD k 0) o:=by funext o;exact tied_eq ht _ _
 rw[ef,e,List.drop_eq_getElem_cons hk,List.filter_cons,tiedL_self ht]
 rfl
end Hs
namespace Dirac
section
variable{r:Int->Int->Bool}
noncomputable def Simp(r:Int->Int->Bool)(V:List Int)(x:Int):Prop:=∀a∈V,∀b∈V,a≠b->r x a=true->r x b=true->r a b=true
structure Bare(r:Int->Int->Bool)(c:List Int):Prop where
 len:4<=c.length
 nd:c.Nodup
 so:∀i j (hij:i<j) (hj:j<c.length),r (c[i]'(Nat.lt_trans hij hj)) c[j]=decide (j-i=1\/(i=0/\j+1=c.length))
inductive Ch(r:Int->Int->Bool):List Int->Prop
 |nil:Ch r []
 |one (a:Int):Ch r [a]
 |cons {a b:Int} {l:List Int} (h:r a b=true) (t:Ch r (b::l)):Ch r (a::b::l)
theorem ch_cc{a b:Int}{l:List Int}:Ch r (a::b::l)↔r a b=true/\Ch r (b::l):=⟨fun h=>by cases h with |cons h t=>exact⟨h,t⟩,fun h=> .cons h.1 h.2⟩
theorem ch_split{c:Int}{B:List Int}:∀{A:List Int},Ch r (A++c::B)↔Ch r (A++[c])/\Ch r (c::B)
 |[]=>⟨fun h=>⟨.one c,h⟩,fun h=>h.2⟩
 |[a]=>by
  show Ch r (a::c::B)↔Ch r [a,c]/\_
  rw[ch_cc]
  exact⟨fun h=>⟨.cons h.1 (.one c),h.2⟩,fun h=>⟨(ch_cc.mp h.1).1,h.2⟩⟩
 |a::b::A=>by
  show Ch r (a::b::(A++c::B))↔Ch r (a::b::(A++[c]))/\_
  have ih:=ch_split (c:=c) (B:=B) (A:=b::A)
  rw[ch_cc,ch_cc]
  exact⟨fun h=>⟨⟨h.1,(ih.mp h.2).1⟩,(ih.mp h.2).2⟩,fun h=>⟨h.1.1,ih.mpr ⟨h.1.2,h.2⟩⟩⟩
theorem ch_snoc{y z:Int}:∀{p:List Int},Ch r p->p.getLast? =some y->r y z=true->Ch r (p++[z])
 |[],_,h,_=>by cases h
 |[a],_,h,hr=>by cases h;exact .cons hr (.one z)
 |a::b::l,hc,h,hr=>by
  rw[List.getLast?_cons_cons]at h
  have:=ch_cc.mp hc
  exact .cons this.1 (ch_snoc this.2 h hr)
theorem ch_rev(sym:∀a b,r a b=r b a):∀{p:List Int},Ch r p->Ch r p.reverse
 |[],_=> .nil
 |[a],_=> .one a
 |a::b::l,hc=>by
  have:=ch_cc.mp hc
  rw[List.reverse_cons]
  exact ch_snoc (ch_rev sym this.2) (by rw[List.getLast?_reverse];rfl) (by rw[sym];exact this.1)
structure Pth(r:Int->Int->Bool)(P:Int->Prop)(x y:Int)(p:List Int):Prop where
 hd:p.head? =some x
 lt:p.getLast? =some y
 ch:Ch r p
 al:∀z∈p,P z
variable{P Q:Int->Prop}{x y z:Int}{p q:List Int}
theorem Pth.one(h:P x):Pth r P x x [x]:=⟨rfl,rfl,.one _,fun z hz=>by rw[List.mem_singleton.mp hz];exact h⟩
theorem Pth.cons(h:Pth r P y z p)(hx:P x)(hr:r x y=true):Pth r P x z (x::p):=by
 obtain⟨h1,h2,h3,h4⟩:=h
 cases p with
 |nil=>cases h1
 |cons a l=>
  cases h1
  refine⟨rfl,?_,ch_cc.mpr ⟨hr,h3⟩,fun w hw=> ?_⟩
  ·rw[List.getLast?_cons_cons];exact h2
  ·rcases List.mem_cons.mp hw with e|e
   ·rw[e];exact hx
   ·exact h4 w e
theorem Pth.snoc(h:Pth r P x y p)(hz:P z)(hr:r y z=true):Pth r P x z (p++[z]):=by
 obtain⟨h1,h2,h3,h4⟩:=h
 refine⟨?_,by simp,?_,fun w hw=> ?_⟩
 ·rw[List.head?_append,h1];rfl
 ·exact ch_snoc h3 h2 hr
 ·rcases List.mem_append.mp hw with e|e
  ·exact h4 w e
  ·rw[List.mem_singleton.mp e];exact hz
theorem Pth.mono(h:Pth r P x y p)(hq:∀z,P z->Q z):Pth r Q x y p:=⟨h.hd,h.lt,h.ch,fun z hz=>hq z (h.al z hz)⟩
theorem Pth.rev(sym:∀a b,r a b=r b a)(h:Pth r P x y p):Pth r P y x p.reverse:=by
 obtain⟨h1,h2,h3,h4⟩:=h
 refine⟨by rw[List.head?_reverse];exact h2,by rw[List.getLast?_reverse];exact h1,ch_rev sym h3,fun z hz=>h4 z (List.mem_reverse.mp hz)⟩
theorem Pth.trans(h:Pth r P x y p)(g:Pth r P y z q):∃w,Pth r P x z w:=by
 induction p generalizing x with
 |nil=>cases h.hd
 |cons a l ih=>
  have hx:=h.hd
  cases hx
  cases l with
  |nil=>
   have:=h.lt
   cases this
   exact⟨q,g⟩
  |cons b l=>
   have hc:=ch_cc.mp h.ch
   obtain⟨w,hw⟩:=ih ⟨rfl,by have:=h.lt;rw[List.getLast?_cons_cons]at this;exact this,hc.2,fun c hc=>h.al c (List.mem_cons_of_mem _ hc)⟩
   exact⟨a::w,hw.cons (h.al a List.mem_cons_self) hc.1⟩
structure Tight(r:Int->Int->Bool)(p:List Int):Prop where
 cut:∀A x M y B,p=A++x::(M++y::B)->M≠[]->r x y=false
 nd:∀A x M B,p=A++x::(M++x::B)->False
theorem tighten:∀(n:Nat) (p:List Int),p.length<=n->Pth r P x y p->∃q,Pth r P x y q/\Tight r q
 |0,p,hn,h=>by
  cases p with
  |nil=>cases h.hd
  |cons a l=>simp at hn
 |n+1,p,hn,h=>by
  by_cases c1:∃A a M b B,p=A++a::(M++b::B)/\M≠[]/\r a b=true
  ·obtain⟨A,a,M,b,B,rfl,hM,hr⟩:=c1
   refine tighten n (A++a::b::B) ?_ ⟨?_,?_,?_,fun z hz=>h.al z ?_⟩
   ·have:0<M.length:=List.length_pos_iff.mpr hM
    simp only[List.length_append,List.length_cons]at hn⊢
    omega
   ·have:=h.hd
    rw[List.head?_append]at this⊢
    exact this
   ·have:=h.lt
    simp only[List.getLast?_append,List.getLast?_cons,List.getLast?_cons_cons]at this⊢
    simpa using this
   ·have c:=ch_split.mp h.ch
    have d:=ch_split.mp (show Ch r ((a::M)++b::B)from c.2)
    exact ch_split.mpr ⟨c.1,ch_cc.mpr ⟨hr,d.2⟩⟩
   ·simp only[List.mem_append,List.mem_cons]at hz⊢
    rcases hz with z1|z1|z1|z1
    ·exact .inl z1
    ·exact .inr (.inl z1)
    ·exact .inr (.inr (.inr (.inl z1)))
    ·exact .inr (.inr (.inr (.inr z1)))
  ·by_cases c2:∃A a M B,p=A++a::(M++a::B)
   ·obtain⟨A,a,M,B,rfl⟩:=c2
    refine tighten n (A++a::B) ?_ ⟨?_,?_,?_,fun z hz=>h.al z ?_⟩
    ·simp only[List.length_append,List.length_cons]at hn⊢
     omega
    ·have:=h.hd
     rw[List.head?_append]at this⊢
     exact this
    ·have:=h.lt
     simp only[List.getLast?_append,List.getLast?_cons,List.getLast?_cons_cons]at this⊢
     simpa using this
    ·have c:=ch_split.mp h.ch
     have d:=ch_split.mp (show Ch r ((a::M)++a::B)from c.2)
     exact ch_split.mpr ⟨c.1,d.2⟩
    ·simp only[List.mem_append,List.mem_cons]at hz⊢
     rcases hz with z1|z1|z1
     ·exact .inl z1
     ·exact .inr (.inl z1)
     ·exact .inr (.inr (.inr (.inr z1)))
   ·refine⟨p,h,fun A a M b B e hM=> ?_,fun A a M B e=>c2 ⟨A,a,M,B,e⟩⟩
    cases z:r a b with
    |false=>rfl
    |true=>exact absurd ⟨A,a,M,b,B,e,hM,z⟩ c1
theorem split2{p:List Int}{i j:Nat}(hij:i<j)(hj:j<p.length):∃A M B,p=A++(p[i]'(Nat.lt_trans hij hj))::(M++p[j]::B)/\A.length=i/\M.length=j-i-1:=by
 refine⟨p.take i,(p.drop (i+1)).take (j-i-1),p.drop (j+1),?_,by rw[List.length_take];omega,by rw[List.length_take,List.length_drop];omega⟩
 have h1:p=p.take i++p.drop i:=(List.take_append_drop i p).symm
 have h2:p.drop i=p[i]::p.drop (i+1):=List.drop_eq_getElem_cons (by omega)
 have h3:p.drop (i+1)=(p.drop (i+1)).take (j-i-1)++(p.drop (i+1)).drop (j-i-1):=(List.take_append_drop _ _).symm
 have h4:(p.drop (i+1)).drop (j-i-1)=p.drop j:=by rw[List.drop_drop];congr 1;omega
 have h5:p.drop j=p[j]::p.drop (j+1):=List.drop_eq_getElem_cons hj
 rw[h4,h5]at h3
 rw[<-h3,<-h2]
 exact h1
theorem Tight.nodup(h:Tight r p):p.Nodup:=by
 rw[List.nodup_iff_pairwise_ne,List.pairwise_iff_getElem]
 intro i j hi hj hij e
 obtain⟨A,M,B,hp,_,_⟩:=split2 hij hj
 rw[<-e]at hp
 exact h.nd A _ M B hp
theorem Tight.so(h:Tight r p)(hc:Ch r p){i j:Nat}(hij:i<j)(hj:j<p.length):r (p[i]'(Nat.lt_trans hij hj)) p[j]=decide (j-i=1):=by
 obtain⟨A,M,B,hp,hA,hM⟩:=split2 hij hj
 by_cases c:j-i=1
 ·rw[decide_eq_true c]
  have hM0:M=[]:=List.length_eq_zero_iff.mp (by omega)
  rw[hM0,List.nil_append]at hp
  rw[hp]at hc
  exact(ch_cc.mp (ch_split.mp hc).2).1
 ·rw[decide_eq_false c]
  exact h.cut A _ M _ B hp (fun z=>by rw[z]at hM;simp at hM;omega)
theorem ring_of(sym:∀a b,r a b=r b a){v s t:Int}(C:Int->Prop)(hv:r v s=true)(hv2:r v t=true)(hst:s≠t)(nst:r s t=false)(nv:∀c,C c->r v c=false/\c≠v)(hvs:s≠v)(hvt:t≠v)(h:Pth r (fun z=>z=s\/z=t\/C z) s t p):
  ∃c,Bare r c/\∀z∈c,z=v\/z=s\/z=t\/C z:=by
 obtain⟨q,hq,T⟩:=tighten p.length p (Nat.le_refl _) h
 have nd:=T.nodup
 have hlen:3<=q.length:=by
  have h1:=hq.hd;have h2:=hq.lt
  match q,h1,h2,hq with
  |[a],h1,h2,_=>cases h1;cases h2;exact absurd rfl hst
  |[a,b],h1,h2,hq=>
   have ea:a=s:=by simpa using h1
   have eb:b=t:=by simpa using h2
   have:=(ch_cc.mp hq.ch).1
   rw[ea,eb,nst]at this;cases this
  |a::b::c::l,_,_,_=>simp
 have q0:q[0]'(by omega)=s:=by
  have h1:=hq.hd
  rw[List.head?_eq_getElem?,List.getElem?_eq_getElem (by omega)]at h1
  exact Option.some.inj h1
 have ql:q[q.length-1]'(by omega)=t:=by
  have h1:=hq.lt
  rw[List.getLast?_eq_getElem?,List.getElem?_eq_getElem (by omega)]at h1
  exact Option.some.inj h1
 have vnot:v∉q:=fun hm=>by
  rcases hq.al v hm with e|e|e
  ·exact hvs e.symm
  ·exact hvt e.symm
  ·exact(nv v e).2 rfl
 refine⟨v::q,⟨by simp;omega,List.nodup_cons.mpr ⟨vnot,nd⟩,fun i j hij hj=> ?_⟩,fun z hz=> ?_⟩
 ·cases j with
  |zero=>exact absurd hij (Nat.not_lt_zero _)
  |succ j=>
   have hj':j<q.length:=by simpa using hj
   cases i with
   |zero=>
    show r v q[j]=_
    by_cases c0:j=0
    ·subst c0
     rw[q0,hv];exact(decide_eq_true (.inl rfl)).symm
    ·by_cases c1:j+1=q.length
     ·have e:q[j]=t:=by rw[<-ql];congr 1;omega
      rw[e,hv2]
      exact(decide_eq_true (.inr ⟨rfl,by simp;omega⟩)).symm
     ·have hC:C q[j]:=by
       rcases hq.al q[j] (List.getElem_mem hj')with e|e|e
       ·rw[<-q0]at e
        exact absurd ((List.getElem_inj nd).mp e) c0
       ·rw[<-ql]at e
        have:=(List.getElem_inj nd).mp e
        omega
       ·exact e
      rw[(nv _ hC).1]
      refine(decide_eq_false ?_).symm
      rintro(z|⟨_,z⟩)
      ·omega
      ·simp at z;omega
   |succ i=>
    show r q[i] q[j]=_
    rw[T.so hq.ch (by omega) hj']
    refine decide_eq_decide.mpr ⟨fun z=> .inl (by omega),?_⟩
    rintro(z|⟨z,_⟩)
    ·omega
    ·cases z
 ·rcases List.mem_cons.mp hz with e|e
  ·exact .inl e
  ·exact .inr (hq.al z e)
open Classical in
theorem far(sym:∀a b,r a b=r b a)(irr:∀a,r a a=false):∀(n:Nat) (V:List Int),V.length<=n->(∀c,Bare r c->¬∀x∈c,x∈V)->∀v∈V,∀u∈V,u≠v->r v u=false->∃s∈V,s≠v/\r v s=false/\Simp r V s
 |0,V,hn,_,v,hv,_,_,_,_=>by
  cases V with
  |nil=>cases hv
  |cons a l=>simp at hn
 |n+1,V,hn,hno,v,hv,u,hu,huv,hru=>by
  -- the places of V that are not tied to v, and among them those that u reaches
  let W:Int->Prop:=fun x=>x∈V/\x≠v/\r v x=false
  let C:Int->Prop:=fun x=>∃p,Pth r W u x p
  have hWu:W u:=⟨hu,huv,hru⟩
  have CW:∀x,C x->W x:=fun x ⟨p,hp⟩=>hp.al x (List.mem_of_getLast? hp.lt)
  have Cu:C u:=⟨[u],.one hWu⟩
  have Cstep:∀x y,C x->W y->r x y=true->C y:=fun x y ⟨p,hp⟩ hy hr=>⟨p++[y],hp.snoc hy hr⟩
  let S:Int->Prop:=fun s=>s∈V/\r v s=true/\∃c,C c/\r s c=true
  have Sv:∀s,S s->s≠v:=fun s hs z=>by have:=hs.2.1;rw[z,irr]at this;cases this
  have clique:∀s t,S s->S t->s≠t->r s t=true:=fun s t hs ht hst=>by
   cases z:r s t with
   |true=>rfl
   |false=>
    obtain⟨c,⟨pc,hc⟩,hsc⟩:=hs.2.2
    obtain⟨d,⟨pd,hd⟩,htd⟩:=ht.2.2
    obtain⟨w,hw⟩:=(hc.rev sym).trans hd
    have Cw:∀x∈w,C x:=by
     -- all of w lies in what u reaches: follow w from c on
     intro x hx
     obtain⟨A,B,e⟩:=List.append_of_mem hx
     subst e
     have hcA:Ch r (A++[x]):=(ch_split.mp hw.ch).1
     have hAx:Pth r W c x (A++[x]):=by
      refine⟨?_,by simp,hcA,fun y hy=>hw.al y ?_⟩
      ·have:=hw.hd
       rw[List.head?_append]at this⊢
       exact this
      ·simp only[List.mem_append,List.mem_singleton,List.mem_cons]at hy⊢
       rcases hy with h|h|h
       ·exact .inl h
       ·exact .inr (.inl h)
       ·cases h
     obtain⟨w',hw'⟩:=hc.trans hAx
     exact⟨w',hw'⟩
    have hw2:Pth r (fun x=>x=s\/x=t\/C x) c d w:=⟨hw.hd,hw.lt,hw.ch,fun x hx=> .inr (.inr (Cw x hx))⟩
    have hp:=(hw2.cons (x:=s) (.inl rfl) hsc).snoc (z:=t) (.inr (.inl rfl)) (by rw[sym];exact htd)
    obtain⟨ring,hb,hal⟩:=ring_of sym C hs.2.1 ht.2.1 hst z (fun c hc=>⟨(CW c hc).2.2,(CW c hc).2.1⟩) (Sv s hs) (Sv t ht) hp
    refine absurd (fun x hx=> ?_) (hno ring hb)
    rcases hal x hx with e|e|e|e
    ·rw[e];exact hv
    ·rw[e];exact hs.1
    ·rw[e];exact ht.1
    ·exact(CW x e).1
  let H:=V.filter fun x=>decide (C x\/S x)
  have mH:∀x,x∈H↔C x\/S x:=fun x=>by
   show x∈V.filter _↔_
   rw[List.mem_filter]
   constructor
   ·exact fun z=>of_decide_eq_true z.2
   ·intro z
    refine⟨?_,decide_eq_true z⟩
    rcases z with z|z
    ·exact(CW x z).1
    ·exact z.1
  have vH:¬(C v\/S v):=by
   rintro(z|z)
   ·exact(CW v z).2.1 rfl
   ·exact Sv v z rfl
  have lH:H.length<=n:=by
   have:H.length<V.length:=List.length_filter_lt_length_iff_exists.mpr ⟨v,hv,by rw[decide_eq_false vH];exact Bool.false_ne_true⟩
   omega
  have noH:∀c,Bare r c->¬∀x∈c,x∈H:=fun c hb hall=>hno c hb fun x hx=>(List.mem_filter.mp (hall x hx)).1
  -- a place that u reaches and that can go within H can go within V
  have out:∀x,C x->Simp r H x->∃s∈V,s≠v/\r v s=false/\Simp r V s:=fun x hx hs=>by
   have wx:=CW x hx
   have near:∀y∈V,r x y=true->y∈H:=fun y hy hr=>by
    rw[mH]
    by_cases e:y=v
    ·rw[e,sym,wx.2.2]at hr;cases hr
    ·cases z:r v y with
     |true=>exact .inr ⟨hy,z,x,hx,by rw[sym];exact hr⟩
     |false=>exact .inl (Cstep x y hx ⟨hy,e,z⟩ hr)
   exact⟨x,wx.1,wx.2.1,wx.2.2,fun a ha b hb hab h1 h2=>hs a (near a ha h1) b (near b hb h2) hab h1 h2⟩
  by_cases cA:∃s g,S s/\g∈H/\g≠s/\r s g=false
  ·obtain⟨s,g,hs,hg,hgs,hr⟩:=cA
   obtain⟨x,hx,hxs,hrx,hsx⟩:=far sym irr n H lH noH s ((mH s).mpr (.inr hs)) g hg hgs hr
   rcases(mH x).mp hx with z|z
   ·exact out x z hsx
   ·rw[clique s x hs z (Ne.symm hxs)]at hrx;cases hrx
  ·by_cases cB:∃c g,C c/\g∈H/\g≠c/\r c g=false
   ·obtain⟨c,g,hc,hg,hgc,hr⟩:=cB
    obtain⟨x,hx,hxc,hrx,hsx⟩:=far sym irr n H lH noH c ((mH c).mpr (.inl hc)) g hg hgc hr
    rcases(mH x).mp hx with z|z
    ·exact out x z hsx
    ·exact absurd ⟨x,c,z,(mH c).mpr (.inl hc),Ne.symm hxc,by rw[sym];exact hrx⟩ cA
   ·refine out u Cu fun a ha b hb hab h1 h2=> ?_
    cases z:r a b with
    |true=>rfl
    |false=>
     rcases(mH a).mp ha with q|q
     ·exact absurd ⟨a,b,q,hb,Ne.symm hab,z⟩ cB
     ·exact absurd ⟨a,b,q,hb,Ne.symm hab,z⟩ cA
theorem ring_there(sym:∀a b,r a b=r b a)(irr:∀a,r a a=false){V:List Int}(hne:V≠[])(h:∀x∈V,¬Simp r V x):∃c,Bare r c/\∀x∈c,x∈V:=by
 apply Classical.byContradiction
 intro hno
 have hno':∀c,Bare r c->¬∀x∈c,x∈V:=fun c hb hall=>hno ⟨c,hb,hall⟩
 obtain⟨v,hv⟩:=List.exists_mem_of_ne_nil V hne
 by_cases c:∃a b,a∈V/\b∈V/\b≠a/\r a b=false
 ·obtain⟨a,b,ha,hb,hab,hr⟩:=c
  obtain⟨s,hs,_,_,hss⟩:=far sym irr V.length V (Nat.le_refl _) hno' a ha b hb hab hr
  exact h s hs hss
 ·refine h v hv fun a ha b hb hab _ _=> ?_
  cases z:r a b with
  |true=>rfl
  |false=>exact absurd ⟨a,b,ha,hb,Ne.symm hab,z⟩ c
end
end Dirac
namespace Hs
open HsD
noncomputable def stepB(L i j:Int):Bool:=decide (j-i=1)||decide (j-i=L-1)
noncomputable def soB(L i j:Int):Bool:=decide (j-i=1)||(decide (i=0)&&decide (j=L-1))
theorem step_so{L i j:Int}(h0:0<=i)(h1:i<j)(h2:j<L):stepB L i j=soB L i j:=by
 unfold stepB soB
 congr 1
 rw[Bool.eq_iff_iff,Bool.and_eq_true,decide_eq_true_eq,decide_eq_true_eq,decide_eq_true_eq]
 omega
noncomputable def bareB(n:Int)(ts:List (Int×Int))(xs:List Int):Bool:=decide (4<=xs.length)&&(xs.all (inR n)&&(decide xs.Nodup&&(rows tt (xs.length:Int) (xs.length:Int).toNat).all fun p=>hasTie ts (xs.getD p.1.toNat 0) (xs.getD p.2.toNat 0)==stepB (xs.length:Int) p.1 p.2))
theorem bare_short{n:Int}{ts:List (Int×Int)}{xs:List Int}(h:¬4<=xs.length):bareB n ts xs=false:=by unfold bareB;rw[decide_eq_false h];rfl
theorem bare_out{n:Int}{ts:List (Int×Int)}{xs:List Int}(h:xs.all (inR n)=false):bareB n ts xs=false:=by unfold bareB;rw[h];simp
theorem bare_dup{n:Int}{ts:List (Int×Int)}{xs:List Int}(h:¬xs.Nodup):bareB n ts xs=false:=by unfold bareB;rw[decide_eq_false h];simp
end Hs
namespace Hs
open PySem HsD
theorem agree_iffP{ts:List (Int×Int)}{xs:List Int}:agreeB ts xs true=true↔∀i j (hij:i<j) (hj:j<xs.length),tiedL ts (xs[i]'(Nat.lt_trans hij hj)) xs[j]=true:=by
 unfold agreeB
 rw[List.all_eq_true]
 constructor
 ·intro h i j hij hj
  have z:=List.all_eq_true.mp (h j (List.mem_range.mpr hj)) (xs[i]'(Nat.lt_trans hij hj)) (List.mem_take_iff_getElem.mpr ⟨i,by omega,rfl⟩)
  rw[List.getD_eq_getElem?_getD,List.getElem?_eq_getElem hj]at z
  rw[zar]
  simpa using z
 ·intro h j hj
  have hj:=List.mem_range.mp hj
  rw[List.all_eq_true]
  intro o ho
  obtain⟨i,hi,rfl⟩:=List.mem_take_iff_getElem.mp ho
  rw[List.getD_eq_getElem?_getD,List.getElem?_eq_getElem hj]
  have z:=h i j (by omega) hj
  rw[zar]at z
  simpa using z
theorem go_iff{ts:List (Int×Int)}{xs:List Int}{v:Int}(nd:xs.Nodup):agreeB ts (xs.filter fun o=>tiedL ts v o) true=true↔Dirac.Simp (tiedL ts) xs v:=by
 rw[agree_iffP]
 constructor
 ·intro h a ha b hb hab h1 h2
  obtain⟨i,hi,ei⟩:=List.getElem_of_mem (List.mem_filter.mpr ⟨ha,h1⟩)
  obtain⟨j,hj,ej⟩:=List.getElem_of_mem (List.mem_filter.mpr ⟨hb,h2⟩)
  rcases Nat.lt_trichotomy i j with c|c|c
  ·have z:=h i j c hj
   rw[ei,ej]at z;exact z
  ·subst c
   exact absurd (ei.symm.trans ej) hab
  ·have z:=h j i c hi
   rw[ei,ej]at z
   rw[zar];exact z
 ·intro h i j hij hj
  have mi:=List.mem_filter.mp (List.getElem_mem (l:=xs.filter fun o=>tiedL ts v o) (Nat.lt_trans hij hj))
  have mj:=List.mem_filter.mp (List.getElem_mem (l:=xs.filter fun o=>tiedL ts v o) hj)
  refine h _ mi.1 _ mj.1 (fun e=> ?_) mi.2 mj.2
  have:=(List.getElem_inj (nd.filter _)).mp e
  omega
noncomputable def NoRing(ts:List (Int×Int))(V:List Int):Prop:=∀c,Dirac.Bare (tiedL ts) c->¬∀x∈c,x∈V
theorem ring_stays{ts:List (Int×Int)}{V c:List Int}{v:Int}(hb:Dirac.Bare (tiedL ts) c)(hc:∀x∈c,x∈V)(hv:v∈c):¬Dirac.Simp (tiedL ts) V v:=fun h=>by
 obtain⟨i,hi,rfl⟩:=List.getElem_of_mem hv
 have l4:=hb.len
 -- the two beside it
 have two:∃a b,∃(ha:a<c.length) (hb':b<c.length),a≠b/\tiedL ts c[i] c[a]=true/\tiedL ts c[i] c[b]=true/\tiedL ts c[a] c[b]=false:=by
  by_cases e0:i=0
  ·subst e0
   refine⟨1,c.length-1,by omega,by omega,by omega,?_,?_,?_⟩
   ·rw[hb.so 0 1 (by omega) (by omega)];exact decide_eq_true (.inl rfl)
   ·rw[hb.so 0 (c.length-1) (by omega) (by omega)];exact decide_eq_true (.inr ⟨rfl,by omega⟩)
   ·rw[hb.so 1 (c.length-1) (by omega) (by omega)];exact decide_eq_false (by rintro(z|⟨z,_⟩)<;>omega)
  ·by_cases e1:i+1=c.length
   ·refine⟨0,i-1,by omega,by omega,by omega,?_,?_,?_⟩
    ·rw[zar,hb.so 0 i (by omega) hi];exact decide_eq_true (.inr ⟨rfl,e1⟩)
    ·rw[zar,hb.so (i-1) i (by omega) hi];exact decide_eq_true (.inl (by omega))
    ·rw[hb.so 0 (i-1) (by omega) (by omega)];exact decide_eq_false (by rintro(z|⟨_,z⟩)<;>omega)
   ·refine⟨i-1,i+1,by omega,by omega,by omega,?_,?_,?_⟩
    ·rw[zar,hb.so (i-1) i (by omega) hi];exact decide_eq_true (.inl (by omega))
    ·rw[hb.so i (i+1) (by omega) (by omega)];exact decide_eq_true (.inl (by omega))
    ·rw[hb.so (i-1) (i+1) (by omega) (by omega)];exact decide_eq_false (by rintro(z|⟨z,z'⟩)<;>omega)
 obtain⟨a,b,ha,hb',hab,h1,h2,h3⟩:=two
 have z:=h c[a] (hc _ (List.getElem_mem ha)) c[b] (hc _ (List.getElem_mem hb')) (fun e=>hab ((List.getElem_inj hb.nd).mp e)) h1 h2
 rw[h3]at z;cases z
theorem fold_no{ts:List (Int×Int)}{xs:List Int}(nd:xs.Nodup)(h:∀k (hk:k<xs.length),Dirac.Simp (tiedL ts) (xs.drop (k+1)) xs[k]):NoRing ts xs:=fun c hb hc=>by
 -- all of the ring lies behind each place, so it is empty
 have irr:∀v∈c,tiedL ts v v=false->True:=fun _ _ _=>trivial
 have all:∀k,k<=xs.length->∀x∈c,x∈xs.drop k:=by
  intro k
  induction k with
  |zero=>intro _ x hx;simpa using hc x hx
  |succ k ih=>
   intro hk x hx
   have prev:=ih (by omega)
   have e:xs.drop k=xs[k]::xs.drop (k+1):=List.drop_eq_getElem_cons (by omega)
   have nk:xs[k]∉c:=fun hm=>by
    refine ring_stays hb (V:=xs.drop k) (fun y hy=>prev y hy) hm ?_
    intro a ha b hb' hab h1 h2
    rw[e]at ha hb'
    have na:∀w,w∈xs[k]::xs.drop (k+1)->tiedL ts xs[k] w=true->w∈xs.drop (k+1)\/w=xs[k]:=fun w hw _=>(List.mem_cons.mp hw).symm
    rcases na a ha h1 with a1|a1
    ·rcases na b hb' h2 with b1|b1
     ·exact h k (by omega) a a1 b b1 hab h1 h2
     ·rw[b1,zar];exact h1
    ·rw[a1];exact h2
   have m:=prev x hx
   rw[e]at m
   rcases List.mem_cons.mp m with z|z
   ·exact absurd (z▸hx) nk
   ·exact z
 have l4:=hb.len
 have z:=all xs.length (Nat.le_refl _) (c[0]'(by omega)) (List.getElem_mem (by omega))
 simp at z
theorem bare_is{n:Int}{ts:List (Int×Int)}{c:List Int}(ht:PairsOk n ts)(hb:Dirac.Bare (tiedL ts) c)(hc:∀x∈c,0<=x/\x<n):bareB n ts c=true:=by
 unfold bareB
 rw[Bool.and_eq_true,Bool.and_eq_true,Bool.and_eq_true]
 refine⟨decide_eq_true hb.len,?_,decide_eq_true hb.nd,?_⟩
 ·rw[List.all_eq_true]
  intro x hx
  unfold inR
  rw[decide_eq_true (hc x hx).1,decide_eq_true (hc x hx).2];rfl
 ·rw[List.all_eq_true]
  intro p hp
  obtain⟨a,b,d,e,_⟩:=zct.mp hp
  have h1:p.1.toNat<p.2.toNat:=by omega
  have h2:p.2.toNat<c.length:=by omega
  have g1:c.getD p.1.toNat 0=c[p.1.toNat]'(Nat.lt_trans h1 h2):=by rw[List.getD_eq_getElem?_getD,List.getElem?_eq_getElem (Nat.lt_trans h1 h2)];rfl
  have g2:c.getD p.2.toNat 0=c[p.2.toNat]:=by rw[List.getD_eq_getElem?_getD,List.getElem?_eq_getElem h2];rfl
  rw[g1,g2,tied_eq ht,hb.so _ _ h1 h2,step_so a d (by omega)]
  unfold soB
  rw[beq_iff_eq,Bool.eq_iff_iff,decide_eq_true_eq,Bool.or_eq_true,Bool.and_eq_true,decide_eq_true_eq,decide_eq_true_eq,decide_eq_true_eq]
  constructor
  ·rintro(z|⟨z,z'⟩)
   ·exact .inl (by omega)
   ·exact .inr ⟨by omega,by omega⟩
  ·rintro(z|⟨z,z'⟩)
   ·exact .inl (by omega)
   ·exact .inr ⟨by omega,by omega⟩
end Hs
namespace Hs
open PySem L2 HsD
section
variable{P:Program}{w:World}{K:W.Frag}{mg:Str->Option Value}{base:Heap}
noncomputable def spPlacesS(K:W.Frag):Sp:=fun vs H Q _=>∃(b:Bool) (n:Int) (a:Addr) (xs:List V) (ds:List PyData),vs=[.int n,.ref a]/\SqE K b H a xs/\DXs K H xs ds/\∀H',Same H H'->Q (.bl (ds.all (placeD n))) H'
theorem sc_placesS:FnScope ["n","things"] ["n","things"] (defScope zbg):=⟨rfl,rfl,rfl,by decide+kernel,rfl,by decide+kernel,by decide+kernel⟩
theorem ok_placesS{f f1:Addr}{fd d1:FuncData}(F:Fun K "are_places" "are_places" zbg f fd)(D1:Dfn K mg "is_place" zcj ["n","thing"] f1 d1)(G1:FnOk P w K mg base CX0 2 f1 d1 ["n","thing"] (spPlace K))(m_all:mg "all"=none):
  FnOk P w K mg base CX0 3 f fd ["n","things"] (spPlacesS K):=by
 refine F.ok sc_placesS (fun vs H Q E h=> ?_) (fun cdv A outer s H vs Q E hr h=> ?_)
 ·obtain⟨b,n,a,xs,ds,rfl,_⟩:=h
  rfl
 obtain⟨b,n,a,xs,ds,rfl,hS,hd,q⟩:=h
 refine⟨_,(zah (zal (zai (call_all rfl) rfl m_all (by decide+kernel) (zaa (zbo (own:=["thing"]) (caps:=["n"]) (ix:=[0]) rfl (pi_seqL (pv 1)) rfl rfl (.cons rfl rfl .nil) (fun _ _ _ _ _=>(zaj (i:=0) (show(["thing","n"]:List Str).Nodup from by decide+kernel) rfl (Or.inl rfl))) (fun _ _ _ _ _=>zcn) (fun _ _ _ _ _=>(zaf G1 hr rfl D1.m D1.F.kp D1.b .nil pass0 (zaa (pv 1) (zaa (pv 0) zab))))) zab)))),?_⟩
 refine⟨_,rfl,b,a,xs,rfl,hS,fun hz=> ?_⟩
 have hl:=hd.len
 refine comp_seq (xs:=xs) (fun i acc σ H'=>acc=((ds.take i).map (placeD n)).map V.bl/\Same H H'/\∃o,σ=[o,some (.int n)]) ⟨rfl,Same.refl _,_,rfl⟩ (fun i acc σ H' _ p=>hS.same p.2.1) (fun i acc σ H' hi p=> ?_) hz (fun i x acc σ H' hx p=> ?_) (fun acc σ H' p=> ?_)
 ·rw[p.1];simp;omega
 ·obtain⟨rfl,sm,o,rfl⟩:=p
  obtain⟨d,e1,e2⟩:=hd.get hx
  refine⟨_,rfl,_,rfl,n,x,d,rfl,DX.same sm e2,?_,sm,_,rfl⟩
  rw[List.take_add_one,e1]
  simp
 ·intro p1 hp1
  obtain⟨rfl,sm,_⟩:=p
  refine⟨p1,(ds.map (placeD n)),rfl,SqL.of (by rw[zac,hl,List.take_length]),?_⟩
  rw[all_take]
  exact q _ (sm.trans (zad hp1 _))
theorem sqe_or{b:Bool}{H:Hp}{a:Addr}{xs:List V}(h:SqE K b H a xs):SqL K H a xs\/SqT K H a xs:=by
 cases b with
 |false=>exact .inl h
 |true=>exact .inr h
theorem blV_eq(a b:Bool):decide (V.bl a=V.bl b)=(a==b):=by cases a<;>cases b<;>rfl
theorem intV_eq(a b:Int):decide (V.int a=V.int b)=decide (a=b):=by
 by_cases e:a=b
 ·subst e;simp
 ·rw[decide_eq_false e,decide_eq_false (by intro z;injection z with z;exact e z)]
theorem intV_ne{a b:Int}:(!decide (V.int a=V.int b))= !decide (a=b):=by rw[intV_eq]
noncomputable def spCount(K:W.Frag):Sp:=fun vs H Q _=>∃(b:Bool) (a l:Addr) (n:Int) (ts:List (Int×Int)) (xs:List Int),vs=[.ref a,.ref l]/\WebIs K H a n ts/\SqE K b H l (xs.map V.int)/\∀H',Same H H'->Q (.int ((ts.filter (inB xs)).length:Int)) H'
theorem zbh{α:Type}{p:α->Bool}{l:List α}{i:Nat}(hi:i<l.length):(l.take (i+1)).filter p=(l.take i).filter p++(if p l[i]=true then[l[i]]else[]):=by
 rw[List.take_add_one,List.getElem?_eq_getElem hi,List.filter_append]
 congr 1
 show[l[i]].filter p=_
 rw[List.filter_cons]
 rfl
theorem sc_count:FnScope ["web","some"] ["web","some"] (defScope zbn):=⟨rfl,rfl,rfl,by decide+kernel,rfl,by decide+kernel,by decide+kernel⟩
theorem ok_count{f:Addr}{fd:FuncData}(F:Fun K "count_ties_in" "count_ties_in" zbn f fd)(m_len:mg "len"=none):
  FnOk P w K mg base CX0 1 f fd ["web","some"] (spCount K):=by
 refine F.ok sc_count (fun vs H Q E h=> ?_) (fun cdv A outer s H vs Q E hr h=> ?_)
 ·obtain⟨b,a,l,n,ts,xs,rfl,_⟩:=h
  rfl
 obtain⟨b,a,l,n,ts,xs,rfl,hA,hL,q⟩:=h
 refine⟨_,(zah (zal (zai zao rfl m_len PySem.boot_len (zaa (zbo (own:=["tie"]) (caps:=["some"]) (ix:=[1]) rfl (pi_tupL (zan zaw (pv 0) zag (fun _ _=>rfl))) rfl rfl (.cons rfl rfl .nil) (fun _ _ _ _ _=>(zaj (i:=0) (show(["tie","some"]:List Str).Nodup from by decide+kernel) rfl (Or.inl rfl))) (fun _ _ _ _ _=>zcr (PW.pt (pw_and (zam (op_inDK K hr.units) (zan (ix_tupK K) (pv 0) zag (fun _ _=>rfl)) (pv 1) (by with_unfolding_all rfl)) (pw_and1 (zam (op_inDK K hr.units) (zan (ix_tupK K) (pv 0) zag (fun _ _=>rfl)) (pv 1) (by with_unfolding_all rfl)))))) (fun _ _ _ _ _=>(pv 0))) zab)))),?_⟩
 obtain⟨ta,ra,a1,a2,a3⟩:=id hA.web
 have hra:=a3.len
 rw[List.length_map]at hra
 have h45:=hA.len
 refine⟨_,rfl,a,_,_,.ref ta,rfl,rfl,a1,rfl,ta,ra,rfl,a2,fun hz=> ?_⟩
 refine comp_tup (xs:=ra) (fun i acc σ H'=>acc.length=((ts.take i).filter (inB xs)).length/\Same H H'/\∃o,σ=[o,some (.ref l)]) ⟨rfl,Same.refl _,_,rfl⟩ (fun i acc σ H' _ p=>p.2.1.tup a2) (fun i acc σ H' hi p=> ?_) hz (fun i x acc σ H' hx p=> ?_) (fun acc σ H' p=> ?_)
 ·rw[p.1]
  exact Nat.le_trans (List.length_filter_le _ _) (by rw[List.length_take];exact Nat.min_le_left _ _)
 ·obtain⟨ea,sm,o,rfl⟩:=p
  obtain⟨t,hi,rfl,ht⟩:=pair_at a3 hx
  have hl:=sqe_or (hL.same sm)
  have e:∀(acc':List V) (c:Bool),c=inB xs ts[i]->acc'.length=acc.length+(if c=true then 1 else 0)->acc'.length=((ts.take (i+1)).filter (inB xs)).length:=fun acc' c hc hl=>by
   rw[zbh hi,List.length_append,<-ea,hl,<-hc]
   cases c<;>rfl
  refine⟨_,rfl,t,_,_,.int (ts[i]).1,rfl,rfl,sm.tup ht,rfl,_,rfl,l,_,_,.int (ts[i]).1,rfl,hl,DVs.ints xs,.int _,lay_ints xs,rfl,(by show 0<=60;decide),_,rfl,?_⟩
  rw[any_ints]
  refine ite2 (fun c=> ?_) (fun c=> ?_)
  ·refine⟨_,rfl,t,_,_,.int (ts[i]).2,rfl,rfl,sm.tup ht,rfl,_,rfl,l,_,_,.int (ts[i]).2,rfl,hl,DVs.ints xs,.int _,lay_ints xs,rfl,(by show 0<=60;decide),_,rfl,?_⟩
   rw[any_ints]
   refine ite2 (fun c2=> ?_) (fun c2=> ?_)
   ·exact⟨_,rfl,e _ true (by unfold inB;rw[c,c2];rfl) (by rw[List.length_append];rfl),sm,_,rfl⟩
   ·exact⟨e _ false (by unfold inB;rw[c,Bool.eq_false_iff.mpr c2];rfl) rfl,sm,_,rfl⟩
  ·exact⟨e _ false (by unfold inB;rw[Bool.eq_false_iff.mpr c];rfl) rfl,sm,_,rfl⟩
 ·intro p1 hp1
  obtain⟨ea,sm,_⟩:=p
  refine⟨p1,acc,rfl,.inl (SqL.of zac),fun _=> ?_⟩
  rw[ea,hra,List.take_length]
  exact q _ (sm.trans (zad hp1 (.lst acc)))
noncomputable def spAllTied(K:W.Frag):Sp:=fun vs H Q _=>∃(b:Bool) (a l:Addr) (n:Int) (ts:List (Int×Int)) (xs:List Int),vs=[.ref a,.ref l]/\WebIs K H a n ts/\SqE K b H l (xs.map V.int)/\xs.Nodup/\xs.length<1000/\∀H',Same H H'->Q (.bl (agreeB ts xs true)) H'
theorem sc_allTied:FnScope ["web","some"] ["web","some"] (defScope zaz):=⟨rfl,rfl,rfl,by decide+kernel,rfl,by decide+kernel,by decide+kernel⟩
theorem ok_allTied{f f1:Addr}{fd d1:FuncData}(F:Fun K "are_all_tied" "are_all_tied" zaz f fd)(D1:Dfn K mg "count_ties_in" zbn ["web","some"] f1 d1)(G1:FnOk P w K mg base CX0 1 f1 d1 ["web","some"] (spCount K))(m_len:mg "len"=none):
  FnOk P w K mg base CX0 2 f fd ["web","some"] (spAllTied K):=by
 refine F.ok sc_allTied (fun vs H Q E h=> ?_) (fun cdv A outer s H vs Q E hr h=> ?_)
 ·obtain⟨b,a,l,n,ts,xs,rfl,_⟩:=h
  rfl
 obtain⟨b,a,l,n,ts,xs,rfl,hA,hL,nd,hz,q⟩:=h
 refine⟨_,(zah (zal (pe_cmpR op_eq (zaf G1 hr rfl D1.m D1.F.kp D1.b .nil pass0 (zaa (pv 0) (zaa (pv 1) zab))) (zbb op_fdiv (zbb op_mul (zai zao rfl m_len PySem.boot_len (zaa (pv 1) zab)) (zbb op_sub (zai zao rfl m_len PySem.boot_len (zaa (pv 1) zab)) zag)) zag) (nomark _)))),?_⟩
 refine⟨_,rfl,_,rfl,b,a,l,n,ts,xs,rfl,hA,hL,fun H1 s1=> ?_⟩
 have hl:=sqe_or (hL.same s1)
 have el:((xs.map V.int).length:Int)=(xs.length:Int):=by rw[List.length_map]
 refine⟨_,rfl,l,_,rfl,hl,fun _=>⟨_,rfl,l,_,rfl,hl,fun _=>⟨_,_,rfl,rfl,_,_,rfl,rfl,.inl ⟨by rw[el];omega,by rw[el];omega⟩,_,_,rfl,rfl,⟨by decide,by decide⟩,rfl,?_⟩⟩⟩
 rw[intV_eq,el,crowd_nd hA.pk nd]
 exact q H1 s1
noncomputable def intsOf:List V->Option (List Int)
 |[]=>some []
 | .int i::xs=>(intsOf xs).map (i:: ·)
 |_::_=>none
theorem intsOf_map:∀ys:List Int,intsOf (ys.map V.int)=some ys
 |[]=>rfl
 |y::ys=>by show(intsOf (ys.map V.int)).map (y:: ·)=_;rw[intsOf_map ys];rfl
theorem intsOf_bl:∀{xs:List V} {b:Bool},V.bl b∈xs->intsOf xs=none
 |x::xs,b,h=>by
  rcases List.mem_cons.mp h with e|e
  ·rw[<-e];rfl
  ·cases x with
   |int i=>show(intsOf xs).map (i:: ·)=none;rw[intsOf_bl e];rfl
   |_=>rfl
theorem ib_cases:∀{xs:List V},IBs xs->(∃ys:List Int,xs=ys.map V.int)\/∃b,V.bl b∈xs
 |[],_=> .inl ⟨[],rfl⟩
 |x::xs,h=>by
  have hx:IB x:=h x List.mem_cons_self
  cases x with
  |int i=>
   rcases ib_cases (xs:=xs) (fun y hy=>h y (List.mem_cons_of_mem _ hy))with⟨ys,e⟩|⟨b,e⟩
   ·exact .inl ⟨i::ys,by rw[e];rfl⟩
   ·exact .inr ⟨b,List.mem_cons_of_mem _ e⟩
  |bl b=>exact .inr ⟨b,List.mem_cons_self⟩
  |_=>exact hx.elim
noncomputable def datV:V->PyData
 | .int i=> .int i
 | .bl b=> .bool b
 |_=> .none
theorem ibs_dx{H:Hp}:∀{xs:List V},IBs xs->DXs K H xs (xs.map datV)
 |[],_=> .nil
 |x::xs,h=>by
  have hx:IB x:=h x List.mem_cons_self
  have t:=ibs_dx (H:=H) (xs:=xs) fun y hy=>h y (List.mem_cons_of_mem _ hy)
  cases x with
  |int i=>exact .cons (.int i) t
  |bl b=>exact .cons (.bl b) t
  |_=>exact hx.elim
theorem all_inR(n:Int)(ys:List Int):((ys.map V.int).map datV).all (placeD n)=ys.all (inR n):=by rw[List.map_map,List.all_map];rfl
theorem bl_notAll{n:Int}{xs:List V}{b:Bool}(h:V.bl b∈xs):(xs.map datV).all (placeD n)=false:=by
 rw[Bool.eq_false_iff]
 intro z
 have:=List.all_eq_true.mp z (.bool b) (List.mem_map.mpr ⟨_,h,rfl⟩)
 cases this
noncomputable def unlikeV(n:Int)(xs:List V):Bool:=match intsOf xs with
 |some ys=>ys.all (inR n)&&decide ys.Nodup
 |none=>false
noncomputable def foldV(n:Int)(ts:List (Int×Int))(xs:List V):Bool:=match intsOf xs with
 |some ys=>foldB n ts ys
 |none=>false
theorem unlike_ints(n:Int)(ys:List Int):unlikeV n (ys.map V.int)=(ys.all (inR n)&&decide ys.Nodup):=by unfold unlikeV;rw[intsOf_map]
theorem fold_ints(n:Int)(ts:List (Int×Int))(ys:List Int):foldV n ts (ys.map V.int)=foldB n ts ys:=by unfold foldV;rw[intsOf_map]
theorem unlike_bl{n:Int}{xs:List V}{b:Bool}(h:V.bl b∈xs):unlikeV n xs=false:=by unfold unlikeV;rw[intsOf_bl h]
theorem fold_bl{n:Int}{ts:List (Int×Int)}{xs:List V}{b:Bool}(h:V.bl b∈xs):foldV n ts xs=false:=by unfold foldV;rw[intsOf_bl h]
noncomputable def spUnlikeT(K:W.Frag):Sp:=fun vs H Q _=>∃(n:Int) (a:Addr) (xs:List V),vs=[.int n,.ref a]/\SqT K H a xs/\IBs xs/\xs.length<1000/\∀H',Same H H'->Q (.bl (unlikeV n xs)) H'
theorem sc_unlikeT:FnScope ["n","things"] ["n","things"] (defScope zak):=⟨rfl,rfl,rfl,by decide+kernel,rfl,by decide+kernel,by decide+kernel⟩
theorem ok_unlikeT{f f1:Addr}{fd d1:FuncData}(F:Fun K "are_unlike_places" "are_unlike_places" zak f fd)(D1:Dfn K mg "are_places" zbg ["n","things"] f1 d1)(G1:FnOk P w K mg base CX0 3 f1 d1 ["n","things"] (spPlacesS K))(m_set:mg "set"=none)(m_len:mg "len"=none):
  FnOk P w K mg base CX0 4 f fd ["n","things"] (spUnlikeT K):=by
 refine F.ok sc_unlikeT (fun vs H Q E h=> ?_) (fun cdv A outer s H vs Q E hr h=> ?_)
 ·obtain⟨n,a,xs,rfl,_⟩:=h
  rfl
 obtain⟨n,a,xs,rfl,hS,hb,hz,q⟩:=h
 refine⟨_,(zah (zal (pe_and (zaf G1 hr rfl D1.m D1.F.kp D1.b .nil pass0 (zaa (pv 0) (zaa (pv 1) zab))) (pe_one (pe_cmpR op_eq (pe_lenSetT rfl rfl m_len rfl m_set (zaa (pv 1) zab)) (zai zao rfl m_len PySem.boot_len (zaa (pv 1) zab)) (nomark _)))))),?_⟩
 refine⟨_,rfl,_,rfl,true,n,a,xs,_,rfl,hS,ibs_dx hb,fun H1 s1=>⟨_,rfl,?_⟩⟩
 rcases ib_cases hb with⟨ys,rfl⟩|⟨b,hbl⟩
 ·rw[all_inR]
  rw[List.length_map]at hz
  rw[unlike_ints]at q
  refine ite2 (fun c=> ?_) (fun c=> ?_)
  ·refine⟨_,rfl,a,ys,rfl,s1.tup hS,hz,_,rfl,a,_,rfl,.inr (s1.tup hS),fun _=>⟨rfl,?_⟩⟩
   have e:decide (V.int (distinct ys:Int)=V.int ((ys.map V.int).length:Int))=(ys.all (inR n)&&decide ys.Nodup):=by
    rw[c,Bool.true_and,List.length_map,Bool.eq_iff_iff,decide_eq_true_eq,decide_eq_true_eq,<-distinct_iff]
    constructor
    ·intro z;injection z with z;omega
    ·intro z;rw[z]
   rw[e]
   exact q H1 s1
  ·have e:(ys.all (inR n)&&decide ys.Nodup)=false:=by rw[Bool.eq_false_iff.mpr c];rfl
   have:=q H1 s1
   rw[e]at this;exact this
 ·rw[bl_notAll hbl]
  have:=q H1 s1
  rw[unlike_bl hbl]at this
  exact iteF this
noncomputable def spAmong(K:W.Frag):Sp:=fun vs H Q _=>∃(b:Bool) (a l:Addr) (n i:Int) (ts:List (Int×Int)) (xs:List Int),vs=[.ref a,.int i,.ref l]/\WebIs K H a n ts/\SqE K b H l (xs.map V.int)/\∀r H',Same H H'->H' r=some (.lst ((xs.filter fun o=>hasTie ts i o).map V.int))->H r=none->Q (.ref r) H'
theorem sc_among:FnScope ["web","place","some"] ["web","place","some"] (defScope zbj):=⟨rfl,rfl,rfl,by decide+kernel,rfl,by decide+kernel,by decide+kernel⟩
theorem ok_among{f f1:Addr}{fd d1:FuncData}(F:Fun K "tied_among" "tied_among" zbj f fd)(D1:Dfn K mg "has_tie" zcd ["web","one","other"] f1 d1)(G1:FnOk P w K mg base CX0 1 f1 d1 ["web","one","other"] (spHas K)):
  FnOk P w K mg base CX0 2 f fd ["web","place","some"] (spAmong K):=by
 refine F.ok sc_among (fun vs H Q E h=> ?_) (fun cdv A outer s H vs Q E hr h=> ?_)
 ·obtain⟨b,a,l,n,i,ts,xs,rfl,_⟩:=h
  rfl
 obtain⟨b,a,l,n,i,ts,xs,rfl,hA,hL,q⟩:=h
 refine⟨_,(zah (zal (zbo (own:=["other"]) (caps:=["web","place"]) (ix:=[0,1]) rfl (pi_seqL (pv 2)) rfl rfl (.cons rfl rfl (.cons rfl rfl .nil)) (fun _ _ _ _ _=>(zaj (i:=0) (show(["other","web","place"]:List Str).Nodup from by decide+kernel) rfl (Or.inl rfl))) (fun _ _ _ _ _=>zcr (zcy (zaf G1 hr rfl D1.m D1.F.kp D1.b .nil pass0 (zaa (pv 1) (zaa (pv 2) (zaa (pv 0) zab)))))) (fun _ _ _ _ _=>(pv 0))))),?_⟩
 refine⟨_,rfl,b,l,_,rfl,hL,fun hz=> ?_⟩
 refine comp_seq (xs:=xs.map V.int) (fun k acc σ H'=>acc=((xs.take k).filter fun o=>hasTie ts i o).map V.int/\Same H H'/\∃o,σ=[o,some (.ref a),some (.int i)]) ⟨rfl,Same.refl _,_,rfl⟩ (fun k acc σ H' _ p=>hL.same p.2.1) (fun k acc σ H' hk p=> ?_) hz (fun k x acc σ H' hx p=> ?_) (fun acc σ H' p=> ?_)
 ·rw[p.1,List.length_map]
  exact Nat.le_trans (List.length_filter_le _ _) (by rw[List.length_take];exact Nat.min_le_left _ _)
 ·obtain⟨rfl,sm,o,rfl⟩:=p
  rw[List.getElem?_map]at hx
  cases ex:xs[k]? with
  |none=>rw[ex]at hx;cases hx
  |some y=>
   rw[ex]at hx
   cases hx
   obtain⟨hk,ey⟩:=List.getElem?_eq_some_iff.mp ex
   refine⟨_,rfl,_,rfl,_,rfl,a,n,_,_,ts,rfl,(hA.same sm).web,fun H5 s5=>⟨_,rfl,?_⟩⟩
   have e:=zbh (p:=fun o=>hasTie ts i o) hk
   rw[ey]at e
   refine ite2 (fun c=> ?_) (fun c=> ?_)
   ·exact⟨_,rfl,by rw[e,if_pos c,List.map_append];rfl,sm.trans s5,_,rfl⟩
   ·exact⟨by rw[e,if_neg c,List.append_nil],sm.trans s5,_,rfl⟩
 ·intro p1 hp1
  obtain⟨rfl,sm,_⟩:=p
  rw[List.length_map,List.take_length]
  exact q p1 _ (sm.trans (zad hp1 _)) zac (sm.free hp1)
theorem cut_from{xs:List Int}{k:Nat}(hk:k<=xs.length):cutV (xs.map V.int) (some (k:Int)) none=(xs.drop k).map V.int:=by
 unfold cutV
 rw[HT.sIx_nat,HT.sIx_none,List.length_map,Nat.min_eq_left hk,<-List.map_drop,List.take_of_length_le (by rw[List.length_map,List.length_drop];omega)]
noncomputable def spIsFold(K:W.Frag):Sp:=fun vs H Q _=>∃(a l:Addr) (n:Int) (ts:List (Int×Int)) (xs:List V),vs=[.ref a,.ref l]/\WebIs K H a n ts/\SqT K H l xs/\IBs xs/\xs.length<62/\∀H',Same H H'->Q (.bl (foldV n ts xs)) H'
theorem sc_isFold:FnScope ["web","order"] ["web","order"] (defScope zdb):=⟨rfl,rfl,rfl,by decide+kernel,rfl,by decide+kernel,by decide+kernel⟩
theorem ok_isFold{f f1 f2 f3 f4:Addr}{fd d1 d2 d3 d4:FuncData}(F:Fun K "is_fold" "is_fold" zdb f fd)(D1:Dfn K mg "need_web" zbi ["thing"] f1 d1)(G1:FnOk P w K mg base CX0 7 f1 d1 ["thing"] (spNeedWeb K))(D2:Dfn K mg "are_unlike_places" zak ["n","things"] f2 d2)(G2':FnOk P w K mg base CX0 4 f2 d2 ["n","things"] (spUnlikeT K))(D3:Dfn K mg "are_all_tied" zaz ["web","some"] f3 d3)(G3':FnOk P w K mg base CX0 2 f3 d3 ["web","some"] (spAllTied K))(D4:Dfn K mg "tied_among" zbj ["web","place","some"] f4 d4)(G4':FnOk P w K mg base CX0 2 f4 d4 ["web","place","some"] (spAmong K))(m_len:mg "len"=none)(m_isinstance:mg "isinstance"=none)(m_tuple:mg "tuple"=none)(m_all:mg "all"=none)(m_enumerate:mg "enumerate"=none):
  FnOk P w K mg base CX0 8 f fd ["web","order"] (spIsFold K):=by
 have G2:FnOk P w K mg base CX0 7 f2 d2 ["n","things"] (spUnlikeT K):=G2'.mono (by decide)
 have G3:FnOk P w K mg base CX0 7 f3 d3 ["web","some"] (spAllTied K):=G3'.mono (by decide)
 have G4:FnOk P w K mg base CX0 7 f4 d4 ["web","place","some"] (spAmong K):=G4'.mono (by decide)
 refine F.ok sc_isFold (fun vs H Q E h=> ?_) (fun cdv A outer s H vs Q E hr h=> ?_)
 ·obtain⟨a,l,n,ts,xs,rfl,_⟩:=h
  rfl
 obtain⟨a,l,n,ts,xs,rfl,hA,hL,hb,hz,q⟩:=h
 refine⟨_,(zae (zcb (zaf G1 hr rfl D1.m D1.F.kp D1.b .nil pass0 (zaa (pv 0) zab))) (zae (zcs (PW.pt (pw_or (pt_not (zcy (zai call_isi rfl m_isinstance (by decide+kernel) (zaa (pv 1) (zaa (pe_bltn rfl m_tuple (v:= .ty "tuple") (by decide+kernel) rfl) zab))))) (pw_or (zam op_ne (zai zao rfl m_len PySem.boot_len (zaa (pv 1) zab)) (zan zaw (pv 0) zag (fun _ _=>rfl)) (nomark _)) (pw_or1 (pt_not (zcy (zaf G2 hr rfl D2.m D2.F.kp D2.b .nil pass0 (zaa (zan zaw (pv 0) zag (fun _ _=>rfl)) (zaa (pv 1) zab))))))))) (zah (zal pe_bl)) zay) (zah (zal (zai (call_all rfl) rfl m_all (by decide+kernel) (zaa (zbo (own:=["k","place"]) (caps:=["web","order"]) (ix:=[0,1]) rfl (pi_enum rfl m_enumerate (zaa (pv 1) zab)) rfl rfl (.cons rfl rfl (.cons rfl rfl .nil)) (fun _ _ _ _ _=>(pg_tupK K (n:=2) rfl (zcc (zaj (i:=0) (show(["k","place","web","order"]:List Str).Nodup from by decide+kernel) rfl (Or.inl rfl)) (zcc (zaj (i:=1) (show(["k","place","web","order"]:List Str).Nodup from by decide+kernel) rfl (Or.inl rfl)) pgs_nil)))) (fun _ _ _ _ _=>zcn) (fun _ _ _ _ _=>(zaf G3 hr rfl D3.m D3.F.kp D3.b .nil pass0 (zaa (pv 2) (zaa (zaf G4 hr rfl D4.m D4.F.kp D4.b .nil pass0 (zaa (pv 2) (zaa (pv 1) (zaa (pe_slice (sl_tupEK K) (pv 3) (po_some (pv 0)) po_none) zab)))) zab))))) zab)))))),?_⟩
 refine⟨_,rfl,_,_,rfl,hA.web.dv.dx,hA.ok,fun H1 s1=> ?_⟩
 have hL1:=s1.tup hL
 obtain⟨ta,ra,a1,a2,a3⟩:=id (hA.same s1).web
 refine⟨_,rfl,.ref l,"tuple",_,rfl,.inl ⟨rfl,_,hL1⟩,.inr (.inr (.inl rfl)),_,rfl,?_⟩
 refine iteF ?_
 refine⟨_,rfl,l,_,rfl,.inr hL1,fun _=>⟨_,rfl,a,_,_,.int n,rfl,rfl,a1,rfl,rfl,_,rfl,?_⟩⟩
 rw[intV_ne]
 have no:∀ys:List Int,xs=ys.map V.int->foldB n ts ys=false->∀H',Same H H'->Q (.bl false) H':=fun ys e hf H' s=>by
  have:=q H' s
  rw[e,fold_ints,hf]at this;exact this
 have nob:∀b,V.bl b∈xs->∀H',Same H H'->Q (.bl false) H':=fun b e H' s=>by
  have:=q H' s
  rw[fold_bl e]at this;exact this
 refine ite2 (fun c=> ?_) (fun c=> ?_)
 ·rcases ib_cases hb with⟨ys,e⟩|⟨b,hbl⟩
  ·refine no ys e ?_ H1 s1
   unfold foldB
   rw[decide_eq_false (by rw[e,List.length_map]at c;simpa using c)]
   rfl
  ·exact nob b hbl H1 s1
 refine⟨_,rfl,a,_,_,.int n,rfl,rfl,a1,rfl,_,rfl,n,l,xs,rfl,hL1,hb,by omega,fun H2 s2=>⟨_,rfl,?_⟩⟩
 have s12:=s1.trans s2
 rcases ib_cases hb with⟨ys,rfl⟩|⟨b,hbl⟩
 ·rw[unlike_ints]
  rw[List.length_map]at c hz
  have hlen:(ys.length:Int)=n:=by simpa using c
  refine ite2 (fun c2=> ?_) (fun c2=> ?_)
  ·refine no ys rfl ?_ H2 s12
   unfold foldB
   rw[show(ys.all (inR n)&&decide ys.Nodup)=false from(Bool.not_eq_true' _).mp c2]
   simp
  have c3:(ys.all (inR n)&&decide ys.Nodup)=true:=by
   cases h:(ys.all (inR n)&&decide ys.Nodup)with
   |true=>rfl
   |false=>exact absurd (by rw[h];rfl) c2
  have nd:ys.Nodup:=by rw[Bool.and_eq_true]at c3;exact of_decide_eq_true c3.2
  have hL2:=s2.tup hL1
  refine⟨_,rfl,true,l,_,rfl,hL2,fun hz2=> ?_⟩
  refine comp_enum (K:=K) (b:=true) (a:=l) (xs:=ys.map V.int) (fun i acc σ H'=>acc=((List.range i).map (stepF ts ys)).map V.bl/\Same H2 H'/\∃o1 o2,σ=[o1,o2,some (.ref a),some (.ref l)]) ⟨rfl,Same.refl _,_,_,rfl⟩ (fun i acc σ H' _ p=>p.2.1.tup hL2) (fun i acc σ H' hi p=> ?_) hz2 (fun i v t acc σ H' hv p ht=> ?_) (fun acc σ H' p=> ?_)
  ·rw[p.1];simp
  ·obtain⟨rfl,sm,o1,o2,rfl⟩:=p
   rw[List.getElem?_map]at hv
   cases ey:ys[i]? with
   |none=>rw[ey]at hv;cases hv
   |some y=>
    rw[ey]at hv
    cases hv
    obtain⟨hi,e⟩:=List.getElem?_eq_some_iff.mp ey
    have egy:ys.getD i 0=y:=by rw[List.getD_eq_getElem?_getD,ey];rfl
    have s3:=zad ht (.tup [.int (i:Int),.int y])
    have s23:=sm.trans s3
    refine⟨t,_,rfl,SqT.of zac,rfl,_,_,rfl,_,_,rfl,rfl,?_⟩
    refine⟨_,rfl,_,rfl,_,rfl,_,rfl,_,rfl,(i:Int),rfl,l,_,rfl,s23.tup hL2,fun r H4 s4 h4=> ?_⟩
    rw[cut_from (by omega)]at h4
    have hA4:=hA.same (s12.trans (s23.trans s4))
    refine⟨true,a,r,n,y,ts,ys.drop i,rfl,hA4,h4,fun r5 H5 s5 h5 n5=> ?_⟩
    have ed:=drop_self (ts:=ts) (xs:=ys) (k:=i) hA.pk hi
    rw[egy]at ed
    rw[ed]at h5
    refine⟨false,a,r5,n,ts,_,rfl,hA4.same s5,SqL.of h5,?_,?_,fun H6 s6=>⟨?_,s23.trans (s4.trans (s5.trans s6)),_,_,rfl⟩⟩
    ·exact(nd.sublist (List.drop_sublist _ _)).filter _
    ·refine Nat.lt_of_le_of_lt (List.length_filter_le _ _) ?_
     rw[List.length_drop]
     omega
    ·rw[List.range_succ,List.map_append,List.map_append]
     have:stepF ts ys i=agreeB ts ((ys.drop (i+1)).filter fun o=>tiedL ts y o) true:=by unfold stepF;rw[egy]
     show _=_++[V.bl (stepF ts ys i)]
     rw[this]
  ·intro p1 hp1
   obtain⟨rfl,sm,_⟩:=p
   refine⟨p1,((List.range ys.length).map (stepF ts ys)),rfl,SqL.of (by rw[zac,List.length_map]),?_⟩
   have:=q _ (s12.trans (sm.trans (zad hp1 (.lst (((List.range (ys.map V.int).length).map (stepF ts ys)).map V.bl)))))
   rw[fold_ints]at this
   rw[all_take]
   have e:foldB n ts ys=(List.range ys.length).all (stepF ts ys):=by unfold foldB;rw[decide_eq_true hlen,c3];rfl
   rw[e]at this;exact this
 ·rw[unlike_bl hbl]
  refine ite2 (fun c2=> ?_) (fun c2=>absurd rfl c2)
  exact nob b hbl H2 s12
end
end Hs
namespace Hs
open PySem L2 HsD
section
variable{P:Program}{w:World}{K:W.Frag}{mg:Str->Option Value}{base:Heap}
theorem all_inRi(n:Int)(ys:List Int):(ys.map PyData.int).all (placeD n)=ys.all (inR n):=by rw[List.all_map];rfl
noncomputable def spUnlike(K:W.Frag):Sp:=fun vs H Q _=>∃(n:Int) (a:Addr) (xs:List Int),vs=[.int n,.ref a]/\SqL K H a (xs.map V.int)/\xs.length<1000/\∀H',Same H H'->Q (.bl (xs.all (inR n)&&decide xs.Nodup)) H'
theorem sc_unlike:FnScope ["n","things"] ["n","things"] (defScope zak):=⟨rfl,rfl,rfl,by decide+kernel,rfl,by decide+kernel,by decide+kernel⟩
theorem ok_unlike{f f1:Addr}{fd d1:FuncData}(F:Fun K "are_unlike_places" "are_unlike_places" zak f fd)(D1:Dfn K mg "are_places" zbg ["n","things"] f1 d1)(G1:FnOk P w K mg base CX0 3 f1 d1 ["n","things"] (spPlacesS K))(m_set:mg "set"=none)(m_len:mg "len"=none):
  FnOk P w K mg base CX0 4 f fd ["n","things"] (spUnlike K):=by
 refine F.ok sc_unlike (fun vs H Q E h=> ?_) (fun cdv A outer s H vs Q E hr h=> ?_)
 ·obtain⟨n,a,xs,rfl,_⟩:=h
  rfl
 obtain⟨n,a,xs,rfl,hS,hz,q⟩:=h
 refine⟨_,(zah (zal (pe_and (zaf G1 hr rfl D1.m D1.F.kp D1.b .nil pass0 (zaa (pv 0) (zaa (pv 1) zab))) (pe_one (pe_cmpR op_eq (pe_lenSet rfl rfl m_len rfl m_set (zaa (pv 1) zab)) (zai zao rfl m_len PySem.boot_len (zaa (pv 1) zab)) (nomark _)))))),?_⟩
 refine⟨_,rfl,_,rfl,false,n,a,_,_,rfl,hS,DVs.dx (DVs.ints xs),fun H1 s1=>⟨_,rfl,?_⟩⟩
 rw[all_inRi]
 refine ite2 (fun c=> ?_) (fun c=> ?_)
 ·refine⟨_,rfl,a,xs,rfl,s1.seq hS,hz,_,rfl,a,_,rfl,.inl (s1.seq hS),fun _=>⟨rfl,?_⟩⟩
  have e:decide (V.int (distinct xs:Int)=V.int ((xs.map V.int).length:Int))=(xs.all (inR n)&&decide xs.Nodup):=by
   rw[c,Bool.true_and,List.length_map,Bool.eq_iff_iff,decide_eq_true_eq,decide_eq_true_eq,<-distinct_iff]
   constructor
   ·intro z;injection z with z;omega
   ·intro z;rw[z]
  rw[e]
  exact q H1 s1
 ·have e:(xs.all (inR n)&&decide xs.Nodup)=false:=by rw[Bool.eq_false_iff.mpr c];rfl
  have:=q H1 s1
  rw[e]at this;exact this
theorem nodup10{n:Int}{xs:List Int}(hn:n<=10)(h:xs.all (inR n)=true)(nd:xs.Nodup):xs.length<=10:=by
 have h1:Sub n.toNat xs:=⟨nd,fun i hi=>by
  have:=List.all_eq_true.mp h i hi
  unfold inR at this
  simp at this
  omega⟩
 have:=h1.len
 omega
noncomputable def spBareRing(K:W.Frag):Sp:=fun vs H Q _=>∃(a l:Addr) (n:Int) (ts:List (Int×Int)) (xs:List Int),vs=[.ref a,.ref l]/\WebIs K H a n ts/\SqL K H l (xs.map V.int)/\xs.length<1000/\∀H',Same H H'->Q (.bl (bareB n ts xs)) H'
theorem two_any(x a b:Int):([PyData.int a,PyData.int b].any fun d=>PyData.eqv d (.int x))=(decide (x=a)||decide (x=b)):=by
 show((a==x)||((b==x)||false))=_
 rw[Bool.or_false]
 congr 1
 ·rw[Bool.eq_iff_iff];simp;exact⟨fun h=>h.symm,fun h=>h.symm⟩
 ·rw[Bool.eq_iff_iff];simp;exact⟨fun h=>h.symm,fun h=>h.symm⟩
theorem sc_bareRing:FnScope ["web","some","steps"] ["web","some"] (defScope zbs):=⟨rfl,rfl,rfl,by decide+kernel,rfl,by decide+kernel,by decide+kernel⟩
theorem ok_bareRing{f f1 f2 f3 f4:Addr}{fd d1 d2 d3 d4:FuncData}{tk0:Tok}(F:Fun K "is_bare_ring" "is_bare_ring" zbs f fd)(D1:Dfn K mg "need_web" zbi ["thing"] f1 d1)(G1:FnOk P w K mg base CX0 7 f1 d1 ["thing"] (spNeedWeb K))(D2:Dfn K mg "are_unlike_places" zak ["n","things"] f2 d2)(G2':FnOk P w K mg base CX0 4 f2 d2 ["n","things"] (spUnlike K))(D3:Dfn K mg "pairs" s_pairs ["n"] f3 d3)(G3':FnOk P w K mg base CX0 1 f3 d3 ["n"] (spAllP K))(D4:Dfn K mg "has_tie" zcd ["web","one","other"] f4 d4)(G4':FnOk P w K mg base CX0 1 f4 d4 ["web","one","other"] (spHas K))(m_len:mg "len"=none)(m_isinstance:mg "isinstance"=none)(m_list:mg "list"=none)(m_all:mg "all"=none)(m_LEAST_BARE_RING:mg "LEAST_BARE_RING"=some (.int 4 tk0)):
  FnOk P w K mg base CX0 8 f fd ["web","some"] (spBareRing K):=by
 have G2:FnOk P w K mg base CX0 7 f2 d2 ["n","things"] (spUnlike K):=G2'.mono (by decide)
 have G3:FnOk P w K mg base CX0 7 f3 d3 ["n"] (spAllP K):=G3'.mono (by decide)
 have G4:FnOk P w K mg base CX0 7 f4 d4 ["web","one","other"] (spHas K):=G4'.mono (by decide)
 refine F.ok sc_bareRing (fun vs H Q E h=> ?_) (fun cdv A outer s H vs Q E hr h=> ?_)
 ·obtain⟨a,l,n,ts,xs,rfl,_⟩:=h
  rfl
 obtain⟨a,l,n,ts,xs,rfl,hA,hL,hz,q⟩:=h
 refine⟨_,(zae (zcb (zaf G1 hr rfl D1.m D1.F.kp D1.b .nil pass0 (zaa (pv 0) zab))) (zae (zcs (PW.pt (pw_or (pt_not (zcy (zai call_isi rfl m_isinstance (by decide+kernel) (zaa (pv 1) (zaa (pe_bltn rfl m_list (v:= .ty "list") (by decide+kernel) rfl) zab))))) (pw_or (zam op_lt (zai zao rfl m_len PySem.boot_len (zaa (pv 1) zab)) (pe_glob rfl m_LEAST_BARE_RING (v:= .int 4) ⟨_,rfl⟩) (nomark _)) (pw_or1 (pt_not (zcy (zaf G2 hr rfl D2.m D2.F.kp D2.b .nil pass0 (zaa (zan zaw (pv 0) zag (fun _ _=>rfl)) (zaa (pv 1) zab))))))))) (zah (zal pe_bl)) zay) (zae (zas (i:=2) sc_bareRing.nd rfl (Or.inr rfl) (zck (zaa zag (zaa (zbb op_sub (zai zao rfl m_len PySem.boot_len (zaa (pv 1) zab)) zag) zab)))) (zah (zal (zai (call_all rfl) rfl m_all (by decide+kernel) (zaa (zbo (own:=["i","j"]) (caps:=["web","some","steps"]) (ix:=[0,1,2]) rfl (zdc (zaf G3 hr rfl D3.m D3.F.kp D3.b .nil pass0 (zaa (zai zao rfl m_len PySem.boot_len (zaa (pv 1) zab)) zab))) rfl rfl (.cons rfl rfl (.cons rfl rfl (.cons rfl rfl .nil))) (fun _ _ _ _ _=>(pg_tupK K (n:=2) rfl (zcc (zaj (i:=0) (show(["i","j","web","some","steps"]:List Str).Nodup from by decide+kernel) rfl (Or.inl rfl)) (zcc (zaj (i:=1) (show(["i","j","web","some","steps"]:List Str).Nodup from by decide+kernel) rfl (Or.inl rfl)) pgs_nil)))) (fun _ _ _ _ _=>zcn) (fun _ _ _ _ _=>(pe_cmpR op_eq (zaf G4 hr rfl D4.m D4.F.kp D4.b .nil pass0 (zaa (pv 2) (zaa (zan (ix_listK K) (pv 3) (pv 0) (fun _ _=>rfl)) (zaa (zan (ix_listK K) (pv 3) (pv 1) (fun _ _=>rfl)) zab)))) (pe_cmpR (op_inDK K hr.units) (zbb op_sub (pv 1) (pv 0)) (pv 4) (by with_unfolding_all rfl)) (nomark _)))) zab))))))),?_⟩
 have hA1:=hA.h1
 refine⟨_,rfl,_,_,rfl,hA.web.dv.dx,hA.ok,fun H1 s1=> ?_⟩
 have hL1:=s1.seq hL
 obtain⟨ta,ra,a1,a2,a3⟩:=id (hA.same s1).web
 refine⟨_,rfl,.ref l,"list",_,rfl,.inr (.inl ⟨rfl,_,hL1⟩),.inr (.inr (.inr rfl)),_,rfl,?_⟩
 refine iteF ?_
 refine⟨_,rfl,l,_,rfl,.inl hL1,fun _=>⟨_,_,rfl,rfl,_,rfl,?_⟩⟩
 refine ite2 (fun c=> ?_) (fun c=> ?_)
 ·have h4:((xs.map V.int).length:Int)<4:=of_decide_eq_true c
  rw[List.length_map]at h4
  have:=q H1 s1
  rw[bare_short (by omega)]at this;exact this
 have h4:4<=xs.length:=by
  have:¬((xs.map V.int).length:Int)<4:=fun z=>c (decide_eq_true z)
  rw[List.length_map]at this
  omega
 refine⟨_,rfl,a,_,_,.int n,rfl,rfl,a1,rfl,_,rfl,n,l,xs,rfl,hL1,hz,fun H2 s2=>⟨_,rfl,?_⟩⟩
 refine ite2 (fun c2=> ?_) (fun c2=> ?_)
 ·have e:bareB n ts xs=false:=by
   have c2:(xs.all (inR n)&&decide xs.Nodup)=false:=(Bool.not_eq_true' _).mp c2
   cases hr:xs.all (inR n)with
   |false=>exact bare_out hr
   |true=>rw[hr,Bool.true_and]at c2;exact bare_dup (of_decide_eq_false c2)
  have:=q H2 (s1.trans s2)
  rw[e]at this;exact this
 have c3:(xs.all (inR n)&&decide xs.Nodup)=true:=by
  cases h:(xs.all (inR n)&&decide xs.Nodup)with
  |true=>rfl
  |false=>exact absurd (by rw[h];rfl) c2
 rw[Bool.and_eq_true]at c3
 have h10:=nodup10 hA1 c3.1 (of_decide_eq_true c3.2)
 have hL2:=s2.seq hL1
 refine⟨_,rfl,l,_,rfl,.inl hL2,fun _=>⟨_,_,rfl,rfl,(by show 2<=sizeLine;decide),fun st hst=> ?_⟩⟩
 have s3:=zad hst (.tup [.int 1,.int (((xs.map V.int).length:Int)-1)])
 have hL3:=s3.seq hL2
 have hst3:SqT K (upd H2 st (.tup [.int 1,.int (((xs.map V.int).length:Int)-1)])) st [.int 1,.int (((xs.map V.int).length:Int)-1)]:=SqT.of zac
 have s03:=s1.trans (s2.trans s3)
 have el:((xs.map V.int).length:Int)=(xs.length:Int):=by rw[List.length_map]
 refine⟨_,rfl,l,_,rfl,.inl hL3,fun _=>⟨((xs.map V.int).length:Int),rfl,by omega,by rw[el];omega,fun pl H4 s4 p1=> ?_⟩⟩
 rw[el]at p1
 obtain⟨rs,e1,v1⟩:=p1.ex
 refine⟨pl,rs,rfl,SqL.of e1,fun hz4=> ?_⟩
 have hlen:=v1.len
 rw[List.length_map]at hlen
 have s04:=s03.trans s4
 generalize hR:rows tt (xs.length:Int) (xs.length:Int).toNat=R at *
 have hR':∀p∈R,0<=p.1/\p.1<p.2/\p.2<(xs.length:Int):=fun p hp=>by rw[<-hR,zct]at hp;exact⟨hp.1,hp.2.2.1,hp.2.2.2.1⟩
 refine zde (xs:=rs) (fun i acc σ H'=>acc=((R.take i).map fun p=>hasTie ts (xs.getD p.1.toNat 0) (xs.getD p.2.toNat 0)==stepB (xs.length:Int) p.1 p.2).map V.bl/\Same H4 H'/\∃o1 o2,σ=[o1,o2,some (.ref a),some (.ref l),some (.ref st)]) ⟨rfl,Same.refl _,_,_,rfl⟩ (fun i acc σ H' _ p=>p.2.1.seq (SqL.of e1)) (fun i acc σ H' hi p=> ?_) hz4 (fun i x acc σ H' hx p=> ?_) (fun acc σ H' p=> ?_)
 ·rw[p.1];simp;omega
 ·obtain⟨rfl,sm,b1,b2,rfl⟩:=p
  obtain⟨t,hi,rfl,ht⟩:=pair_at v1 hx
  have hp:=hR' R[i] (List.getElem_mem _)
  have s4m:=s4.trans sm
  refine⟨t,_,rfl,sm.tup ht,rfl,_,_,rfl,_,_,rfl,rfl,?_⟩
  refine⟨_,rfl,_,rfl,_,rfl,l,_,_,_,rfl,rfl,s4m.seq hL3,at_xs hp.1 (by omega),_,rfl,_,rfl,l,_,_,_,rfl,rfl,s4m.seq hL3,at_xs (by omega) hp.2.2,a,n,_,_,ts,rfl,(hA.same (s03.trans s4m)).web,fun H5 s5=> ?_⟩
  refine⟨_,rfl,_,rfl,_,_,rfl,rfl,_,rfl,st,_,[.int 1,.int (((xs.map V.int).length:Int)-1)],.int ((R[i]).2-(R[i]).1),rfl,.inr ((s4m.trans s5).tup hst3),.cons (.int _) (.cons (.int _) .nil),.int _,rfl,rfl,(by show 0<=60;decide),rfl,?_,sm.trans s5,_,_,rfl⟩
  rw[two_any,blV_eq,el]
  exact map_take_succ (f:=fun p:Int×Int=>hasTie ts (xs.getD p.1.toNat 0) (xs.getD p.2.toNat 0)==stepB (xs.length:Int) p.1 p.2) hi
 ·intro p1 hp1
  obtain⟨rfl,sm,_⟩:=p
  refine⟨p1,(R.map fun p=>hasTie ts (xs.getD p.1.toNat 0) (xs.getD p.2.toNat 0)==stepB (xs.length:Int) p.1 p.2),rfl,SqL.of (by rw[zac,hlen,List.take_length]),?_⟩
  have:=q _ (s04.trans (sm.trans (zad hp1 (.lst (((R.take rs.length).map fun p=>hasTie ts (xs.getD p.1.toNat 0) (xs.getD p.2.toNat 0)==stepB (xs.length:Int) p.1 p.2).map V.bl)))))
  rw[all_take]
  have e:bareB n ts xs=R.all fun p=>hasTie ts (xs.getD p.1.toNat 0) (xs.getD p.2.toNat 0)==stepB (xs.length:Int) p.1 p.2:=by unfold bareB;rw[hR,decide_eq_true h4,c3.1,c3.2];rfl
  rw[e]at this;exact this
end
end Hs
namespace Hs
open PySem L2 HsD
section
variable{P:Program}{w:World}{K:W.Frag}{mg:Str->Option Value}{base:Heap}
noncomputable def spWithout(K:W.Frag):Sp:=fun vs H Q _=>∃(a b:Addr) (xs:List Int) (p:Int),vs=[.ref a,.ref b]/\SqT K H a (xs.map V.int)/\SqT K H b [.int p]/\∀r H',Same H H'->SqT K H' r ((xs.filter fun o=> !decide (o∈[p])).map V.int)->Q (.ref r) H'
theorem sc_without:FnScope ["some","part"] ["some","part"] (defScope zdj):=⟨rfl,rfl,rfl,by decide+kernel,rfl,by decide+kernel,by decide+kernel⟩
theorem ok_without{f:Addr}{fd:FuncData}(F:Fun K "without" "without" zdj f fd)(m_tuple:mg "tuple"=none):
  FnOk P w K mg base CX0 1 f fd ["some","part"] (spWithout K):=by
 refine F.ok sc_without (fun vs H Q E h=> ?_) (fun cdv A outer s H vs Q E hr h=> ?_)
 ·obtain⟨a,b,xs,p,rfl,_⟩:=h
  rfl
 obtain⟨a,b,xs,p,rfl,hA,hB,q⟩:=h
 refine⟨_,(zah (zal (zbp zav rfl m_tuple (by decide+kernel) (zaa (zbo (own:=["place"]) (caps:=["part"]) (ix:=[1]) rfl (pi_tupL (pv 0)) rfl rfl (.cons rfl rfl .nil) (fun _ _ _ _ _=>(zaj (i:=0) (show(["place","part"]:List Str).Nodup from by decide+kernel) rfl (Or.inl rfl))) (fun _ _ _ _ _=>zcr (zam (op_notInDK K hr.units) (pv 0) (pv 1) (by with_unfolding_all rfl))) (fun _ _ _ _ _=>(pv 0))) zab)))),?_⟩
 refine⟨_,rfl,a,_,rfl,hA,fun hz=> ?_⟩
 refine comp_tup (xs:=xs.map V.int) (fun k acc σ H'=>acc=((xs.take k).filter fun o=> !decide (o∈[p])).map V.int/\Same H H'/\∃o,σ=[o,some (.ref b)]) ⟨rfl,Same.refl _,_,rfl⟩ (fun k acc σ H' _ p=>p.2.1.tup hA) (fun k acc σ H' hk p=> ?_) hz (fun k x acc σ H' hx pp=> ?_) (fun acc σ H' p=> ?_)
 ·rw[p.1,List.length_map]
  exact Nat.le_trans (List.length_filter_le _ _) (by rw[List.length_take];exact Nat.min_le_left _ _)
 ·obtain⟨rfl,sm,o,rfl⟩:=pp
  rw[List.getElem?_map]at hx
  cases ex:xs[k]? with
  |none=>rw[ex]at hx;cases hx
  |some y=>
   rw[ex]at hx
   cases hx
   obtain⟨hk,ey⟩:=List.getElem?_eq_some_iff.mp ex
   have e:=zbh (p:=fun o=> !decide (o∈[p])) hk
   rw[ey]at e
   refine⟨_,rfl,_,rfl,b,_,_,.int y,rfl,.inr (sm.tup hB),DVs.ints [p],.int _,lay_ints [p],rfl,(by show 0<=60;decide),_,rfl,?_⟩
   rw[any_ints]
   refine ite2 (fun c=> ?_) (fun c=> ?_)
   ·exact⟨_,rfl,by rw[e,if_pos c,List.map_append];rfl,sm,_,rfl⟩
   ·exact⟨by rw[e,if_neg c,List.append_nil],sm,_,rfl⟩
 ·intro p1 hp1
  obtain⟨rfl,sm,_⟩:=p
  refine⟨p1,_,rfl,.inl ⟨SqL.of zac,fun l hl=> ?_⟩⟩
  exact q l _ (sm.trans ((zad hp1 _).trans (zad hl _))) (SqT.of (by rw[zac,List.length_map,List.take_length]))
noncomputable def spFirst(K:W.Frag):Sp:=fun vs H Q _=>∃(a l:Addr) (n:Int) (ts:List (Int×Int)) (xs:List Int),vs=[.ref a,.ref l]/\WebIs K H a n ts/\SqT K H l (xs.map V.int)/\xs.Nodup/\xs.length<1000/\
 (∀v∈xs,Dirac.Simp (tiedL ts) xs v->∀H',Same H H'->Q (.int v) H')/\((∀v∈xs,¬Dirac.Simp (tiedL ts) xs v)->∀H',Same H H'->Q .non H')
theorem sc_first:FnScope ["web","left","place"] ["web","left"] (defScope zca):=⟨rfl,rfl,rfl,by decide+kernel,rfl,by decide+kernel,by decide+kernel⟩
theorem ok_first{f f1 f2:Addr}{fd d1 d2:FuncData}(F:Fun K "first_to_go" "first_to_go" zca f fd)(D1:Dfn K mg "are_all_tied" zaz ["web","some"] f1 d1)(G1:FnOk P w K mg base CX0 2 f1 d1 ["web","some"] (spAllTied K))(D2:Dfn K mg "tied_among" zbj ["web","place","some"] f2 d2)(G2:FnOk P w K mg base CX0 2 f2 d2 ["web","place","some"] (spAmong K)):
  FnOk P w K mg base CX0 3 f fd ["web","left"] (spFirst K):=by
 refine F.ok sc_first (fun vs H Q E h=> ?_) (fun cdv A outer s H vs Q E hr h=> ?_)
 ·obtain⟨a,l,n,ts,xs,rfl,_⟩:=h
  rfl
 obtain⟨a,l,n,ts,xs,rfl,hA,hL,nd,hz,q1,q2⟩:=h
 refine⟨_,(zae (ps_for PassesOwn.never rfl (pi_tupL (pv 1)) (zaj (i:=2) sc_first.nd rfl (Or.inl rfl)) (zah (zcs (zcy (zaf G1 hr rfl D1.m D1.F.kp D1.b .nil pass0 (zaa (pv 0) (zaa (zaf G2 hr rfl D2.m D2.F.kp D2.b .nil pass0 (zaa (pv 0) (zaa (pv 2) (zaa (pv 1) zab)))) zab)))) (zah (zal (pv 2))) zay))) (zah (zal pe_non))),?_⟩
 refine⟨_,rfl,l,_,rfl,hL,fun _=> ?_⟩
 refine for_tup (K:=K) (a:=l) (xs:=xs.map V.int) (fun i σ H'=>Same H H'/\(∀v∈xs.take i,¬Dirac.Simp (tiedL ts) xs v)/\∃o,σ=[some (.ref a),some (.ref l),o]) ⟨Same.refl _,(by intro v hv;simp at hv),_,rfl⟩ (fun i σ H' _ p=>p.1.tup hL) (fun i x σ H' hx p=> ?_) (fun σ H' p=> ?_)
 ·obtain⟨sm,no,o,rfl⟩:=p
  rw[List.getElem?_map]at hx
  cases ex:xs[i]? with
  |none=>rw[ex]at hx;cases hx
  |some y=>
   rw[ex]at hx
   cases hx
   have hm:=List.mem_of_getElem? ex
   have hA1:=hA.same sm
   refine⟨_,rfl,_,rfl,_,rfl,_,rfl,true,a,l,n,y,ts,xs,rfl,hA1,sm.tup hL,fun r H5 s5 h5 n5=> ?_⟩
   have ef:(xs.filter fun o=>hasTie ts y o)=xs.filter fun o=>tiedL ts y o:=List.filter_congr fun o _=>tied_eq hA.pk y o
   rw[ef]at h5
   refine⟨false,a,r,n,ts,_,rfl,hA1.same s5,SqL.of h5,nd.filter _,Nat.lt_of_le_of_lt (List.length_filter_le _ _) hz,fun H6 s6=>⟨_,rfl,?_⟩⟩
   have s16:=sm.trans (s5.trans s6)
   refine ite2 (fun c=> ?_) (fun c=> ?_)
   ·exact⟨_,rfl,q1 y hm ((go_iff nd).mp c) H6 s16⟩
   ·refine⟨s16,fun v hv=> ?_,_,rfl⟩
    rw[List.take_add_one,ex]at hv
    rcases List.mem_append.mp hv with z|z
    ·exact no v z
    ·rw[List.mem_singleton.mp z];exact fun z=>c ((go_iff nd).mpr z)
 ·obtain⟨sm,no,_⟩:=p
  rw[List.length_map,List.take_length]at no
  exact q2 no H' sm
noncomputable def steps(n:Int)(ts:List (Int×Int))(p:List Int)(y:Int):List Int:=(neigh n ts y).filter fun o=> !decide (o∈p++[y])&&(p.tail.filter fun z=>hasTie ts o z).isEmpty
theorem cut_mid(p:List Int)(y:Int):cutV ((p++[y]).map V.int) (some 1) (some (-1))=p.tail.map V.int:=by
 unfold cutV
 have e1:HT.sIx ((p++[y]).map V.int).length 0 (some 1)=1:=by
  have:=HT.sIx_nat ((p++[y]).map V.int).length 0 1
  rw[show((1:Nat):Int)=1 from rfl]at this
  rw[this];simp
 have e2:HT.sIx ((p++[y]).map V.int).length ((p++[y]).map V.int).length (some (-1))=p.length:=by
  show(if(-1:Int)<0 then((-1:Int)+(((p++[y]).map V.int).length:Int)).toNat else min (-1:Int).toNat ((p++[y]).map V.int).length)=p.length
  rw[if_pos (by decide),List.length_map,List.length_append,List.length_singleton]
  omega
 rw[e1,e2]
 cases p with
 |nil=>rfl
 |cons a p=>
  show(((p++[y]).map V.int).take (p.length+1-1))=_
  rw[Nat.add_sub_cancel,List.map_append,<-List.length_map (f:=V.int) (as:=p),List.take_left]
  rfl
noncomputable def spNext(K:W.Frag):Sp:=fun vs H Q _=>∃(a l:Addr) (n:Int) (ts:List (Int×Int)) (p:List Int) (y:Int),vs=[.ref a,.ref l]/\WebIs K H a n ts/\SqL K H l ((p++[y]).map V.int)/\(0<=y/\y<n)/\
 ∀r H',Same H H'->H' r=some (.lst ((steps n ts p y).map V.int))->H r=none->Q (.ref r) H'
theorem sc_next:FnScope ["web","path","near"] ["web","path"] (defScope zcf):=⟨rfl,rfl,rfl,by decide+kernel,rfl,by decide+kernel,by decide+kernel⟩
theorem ok_next{f f1 f2:Addr}{fd d1 d2:FuncData}(F:Fun K "next_steps" "next_steps" zcf f fd)(D1:Dfn K mg "neighbours" zbx ["web","place"] f1 d1)(G1:FnOk P w K mg base CX0 8 f1 d1 ["web","place"] (spNeigh K))(D2:Dfn K mg "tied_among" zbj ["web","place","some"] f2 d2)(G2':FnOk P w K mg base CX0 2 f2 d2 ["web","place","some"] (spAmong K)):
  FnOk P w K mg base CX0 9 f fd ["web","path"] (spNext K):=by
 have G2:FnOk P w K mg base CX0 8 f2 d2 ["web","place","some"] (spAmong K):=G2'.mono (by decide)
 refine F.ok sc_next (fun vs H Q E h=> ?_) (fun cdv A outer s H vs Q E hr h=> ?_)
 ·obtain⟨a,l,n,ts,p,y,rfl,_⟩:=h
  rfl
 obtain⟨a,l,n,ts,p,y,rfl,hA,hL,hy,q⟩:=h
 refine⟨_,(zae (zas (i:=2) sc_next.nd rfl (Or.inl rfl) (zaf G1 hr rfl D1.m D1.F.kp D1.b .nil pass0 (zaa (pv 0) (zaa (zan zce (pv 1) (pe_un un_neg zag) (fun _ _=>rfl)) zab)))) (zah (zal (zbo (own:=["place"]) (caps:=["path","web"]) (ix:=[1,0]) rfl (pi_tupL (pv 2)) rfl rfl (.cons rfl rfl (.cons rfl rfl .nil)) (fun _ _ _ _ _=>(zaj (i:=0) (show(["place","path","web"]:List Str).Nodup from by decide+kernel) rfl (Or.inl rfl))) (fun _ _ _ _ _=>zcr (PW.pt (pw_and (zam (op_notInDK K hr.units) (pv 0) (pv 1) (by with_unfolding_all rfl)) (pw_and1 (pt_not (pt_truthK K (zaf G2 hr rfl D2.m D2.F.kp D2.b .nil pass0 (zaa (pv 2) (zaa (pv 0) (zaa (pe_slice (sl_listK K) (pv 1) (po_some zag) (po_some (pe_un un_neg zag))) zab)))) (fun _=>rfl))))))) (fun _ _ _ _ _=>(pv 0)))))),?_⟩
 have hlast:atI ((p++[y]).map V.int) (-1)=some (.int y):=by rw[List.map_append];exact atI_last _ _
 refine⟨_,rfl,_,rfl,1,rfl,l,_, -1,.int y,rfl,rfl,hL,hlast,a,n,y,ts,rfl,hA.web,hA.ok,hy,hA.h1,fun t H1 s1 h1=> ?_⟩
 have hL1:=s1.seq hL
 refine⟨_,rfl,t,_,rfl,SqT.of h1,fun hz=> ?_⟩
 refine comp_tup (xs:=(neigh n ts y).map V.int) (fun k acc σ H'=>acc=(((neigh n ts y).take k).filter fun o=> !decide (o∈p++[y])&&(p.tail.filter fun z=>hasTie ts o z).isEmpty).map V.int/\Same H1 H'/\∃o,σ=[o,some (.ref l),some (.ref a)]) ⟨rfl,Same.refl _,_,rfl⟩ (fun k acc σ H' _ p=>p.2.1.tup (SqT.of h1)) (fun k acc σ H' hk p=> ?_) hz (fun k x acc σ H' hx pp=> ?_) (fun acc σ H' pp=> ?_)
 ·rw[p.1,List.length_map]
  exact Nat.le_trans (List.length_filter_le _ _) (by rw[List.length_take];exact Nat.min_le_left _ _)
 ·obtain⟨rfl,sm,o,rfl⟩:=pp
  rw[List.getElem?_map]at hx
  cases ex:(neigh n ts y)[k]? with
  |none=>rw[ex]at hx;cases hx
  |some z=>
   rw[ex]at hx
   cases hx
   obtain⟨hk,ey⟩:=List.getElem?_eq_some_iff.mp ex
   have e:=zbh (p:=fun o=> !decide (o∈p++[y])&&(p.tail.filter fun z=>hasTie ts o z).isEmpty) hk
   rw[ey]at e
   have hL2:=sm.seq hL1
   refine⟨_,rfl,_,rfl,l,_,_,.int z,rfl,.inl hL2,DVs.ints (p++[y]),.int _,lay_ints (p++[y]),rfl,(by show 0<=60;decide),_,rfl,?_⟩
   rw[any_ints]
   refine ite2 (fun c=> ?_) (fun c=> ?_)
   ·refine⟨_,rfl,_,rfl,_,rfl,1,rfl,_,rfl, -1,rfl,l,_,rfl,hL2,fun p3 hp3=> ?_⟩
    rw[cut_mid]
    have s3:=zad hp3 (.lst (p.tail.map V.int))
    have hA3:=hA.same (s1.trans (sm.trans s3))
    refine⟨false,a,p3,n,z,ts,p.tail,rfl,hA3,SqL.of zac,fun r5 H5 s5 h5 n5=>⟨_,.inl ⟨_,SqL.of h5,rfl⟩,?_⟩⟩
    have s15:=sm.trans (s3.trans s5)
    have eb:(!(!(((p.tail.filter fun o=>hasTie ts z o).map V.int).isEmpty)))=(p.tail.filter fun o=>hasTie ts z o).isEmpty:=by
     rw[Bool.not_not];cases(p.tail.filter fun o=>hasTie ts z o)<;>rfl
    dsimp only
    rw[eb]
    refine ite2 (fun c2=> ?_) (fun c2=> ?_)
    ·exact⟨_,rfl,by rw[e,if_pos (by rw[c,c2];rfl),List.map_append];rfl,s15,_,rfl⟩
    ·exact⟨by rw[e,if_neg (by rw[c,Bool.eq_false_iff.mpr c2];exact Bool.false_ne_true),List.append_nil],s15,_,rfl⟩
   ·exact⟨by rw[e,if_neg (by rw[Bool.eq_false_iff.mpr c];exact Bool.false_ne_true),List.append_nil],sm,_,rfl⟩
 ·intro p1 hp1
  obtain⟨rfl,sm,_⟩:=pp
  rw[List.length_map,List.take_length]
  have s01:=s1.trans sm
  exact q p1 _ (s01.trans (zad hp1 _)) zac (s01.free hp1)
end
end Hs
namespace Hs
open PySem HsD
structure PathOk(n:Int)(ts:List (Int×Int))(p:List Int):Prop where
 nd:p.Nodup
 rg:∀x∈p,0<=x/\x<n
 so:∀i j (hij:i<j) (hj:j<p.length),tiedL ts (p[i]'(Nat.lt_trans hij hj)) p[j]=decide (j-i=1)
section
variable{n:Int}{ts:List (Int×Int)}{p c:List Int}{y z:Int}
theorem mem_neigh:z∈neigh n ts y↔(0<=z/\z<n)/\hasTie ts y z=true:=by
 unfold neigh
 rw[List.mem_filter,List.mem_map]
 constructor
 ·rintro⟨⟨k,hk,rfl⟩,h⟩
  have:=List.mem_range.mp hk
  exact⟨⟨by omega,by omega⟩,h⟩
 ·rintro⟨⟨a,b⟩,h⟩
  exact⟨⟨z.toNat,List.mem_range.mpr (by omega),by omega⟩,h⟩
theorem neigh_nodup:(neigh n ts y).Nodup:=by
 unfold neigh
 refine List.Pairwise.filter _ ?_
 rw[List.pairwise_map]
 exact List.pairwise_lt_range.imp fun h=>by omega
theorem mem_steps(ht:PairsOk n ts):z∈steps n ts p y↔(0<=z/\z<n)/\tiedL ts y z=true/\z∉p++[y]/\∀x∈p.tail,tiedL ts z x=false:=by
 unfold steps
 rw[List.mem_filter,mem_neigh,Bool.and_eq_true,List.isEmpty_iff,List.filter_eq_nil_iff,tied_eq ht]
 constructor
 ·rintro⟨⟨h1,h2⟩,h3,h4⟩
  refine⟨h1,h2,fun hm=> ?_,fun x hx=> ?_⟩
  ·rw[decide_eq_true hm]at h3;cases h3
  ·have:=h4 x hx
   rw[tied_eq ht]at this
   exact Bool.eq_false_iff.mpr this
 ·rintro⟨h1,h2,h3,h4⟩
  refine⟨⟨h1,h2⟩,by rw[decide_eq_false h3];rfl,fun x hx=> ?_⟩
  rw[tied_eq ht,h4 x hx];exact Bool.false_ne_true
theorem in_range{xs:List Int}(h:∀x∈xs,0<=x/\x<n)(nd:xs.Nodup):xs.length<=n.toNat:=by
 have z:=zdd (m:=(List.range n.toNat).map fun(k:Nat)=>(k:Int)) nd (fun x hx=>by
  have:=h x hx
  exact List.mem_map.mpr ⟨x.toNat,List.mem_range.mpr (by omega),by omega⟩)
 rwa [List.length_map,List.length_range]at z
theorem steps_len(ht:PairsOk n ts)(h:PathOk n ts (p++[y])):(steps n ts p y).length+(p++[y]).length<=n.toNat:=by
 rw[<-List.length_append]
 refine in_range (fun x hx=> ?_) (List.nodup_append.mpr ⟨neigh_nodup.filter _,h.nd,fun a ha b hb e=>((mem_steps ht).mp ha).2.2.1 (e▸hb)⟩)
 rcases List.mem_append.mp hx with z|z
 ·exact((mem_steps ht).mp z).1
 ·exact h.rg x z
theorem last_tie(ht:PairsOk n ts)(hz:z∈steps n ts p y){i:Nat}(hi:i<(p++[y]).length)(h0:0<i\/p=[]):tiedL ts (p++[y])[i] z=decide (i+1=(p++[y]).length):=by
 obtain⟨_,h1,_,h2⟩:=(mem_steps ht).mp hz
 have el:(p++[y]).length=p.length+1:=by simp
 by_cases e:i=p.length
 ·subst e
  have:(p++[y])[p.length]=y:=by simp
  rw[this,h1,decide_eq_true (by omega)]
 ·have hi':i<p.length:=by omega
  have:(p++[y])[i]=p[i]:=List.getElem_append_left hi'
  rw[this,decide_eq_false (by omega),zar]
  refine h2 _ ?_
  cases p with
  |nil=>exact absurd hi' (Nat.not_lt_zero _)
  |cons a q=>
   cases i with
   |zero=>rcases h0 with z|z<;>cases z
   |succ i=>exact List.getElem_mem (Nat.lt_of_succ_lt_succ hi')
theorem grown(ht:PairsOk n ts)(h:PathOk n ts (p++[y]))(hz:z∈steps n ts p y):((p++[y])++[z]).Nodup/\∀x∈(p++[y])++[z],0<=x/\x<n:=by
 obtain⟨hr,_,h3,_⟩:=(mem_steps ht).mp hz
 refine⟨List.nodup_append.mpr ⟨h.nd,by simp,fun a ha b hb e=> ?_⟩,fun x hx=> ?_⟩
 ·rw[List.mem_singleton.mp hb]at e
  exact h3 (e▸ha)
 ·rcases List.mem_append.mp hx with z|z
  ·exact h.rg x z
  ·rw[List.mem_singleton.mp z];exact hr
theorem path_more(ht:PairsOk n ts)(h:PathOk n ts (p++[y]))(hz:z∈steps n ts p y)(h0:p=[]\/tiedL ts ((p++[y])[0]'(by simp)) z=false):PathOk n ts ((p++[y])++[z]):=by
 obtain⟨g1,g2⟩:=grown ht h hz
 refine⟨g1,g2,fun i j hij hj=> ?_⟩
 have el:(p++[y]).length=p.length+1:=by simp
 have hj':j<p.length+2:=by simpa using hj
 by_cases e:j<(p++[y]).length
 ·have e1:((p++[y])++[z])[j]=(p++[y])[j]:=List.getElem_append_left e
  have e2:((p++[y])++[z])[i]=(p++[y])[i]'(Nat.lt_trans hij e):=List.getElem_append_left (Nat.lt_trans hij e)
  rw[e1,e2]
  exact h.so i j hij e
 ·have ej:j=(p++[y]).length:=by omega
  subst ej
  have e1:((p++[y])++[z])[(p++[y]).length]=z:=by rw[List.getElem_append_right (Nat.le_refl _)];simp
  have e2:((p++[y])++[z])[i]=(p++[y])[i]:=List.getElem_append_left hij
  rw[e1,e2]
  by_cases hi:0<i\/p=[]
  ·rw[last_tie ht hz hij hi]
   congr 1
   exact propext ⟨fun z=>by omega,fun z=>by omega⟩
  ·have i0:i=0:=by omega
   subst i0
   rcases h0 with z|z
   ·exact absurd (.inr z) hi
   ·rw[z]
    have:p.length≠0:=fun z=>hi (.inr (List.eq_nil_of_length_eq_zero z))
    rw[decide_eq_false (by omega)]
theorem path_ring(ht:PairsOk n ts)(h:PathOk n ts (p++[y]))(hz:z∈steps n ts p y)(h1:tiedL ts ((p++[y])[0]'(by simp)) z=true)(h4:4<=((p++[y])++[z]).length):Dirac.Bare (tiedL ts) ((p++[y])++[z]):=by
 obtain⟨g1,g2⟩:=grown ht h hz
 refine⟨h4,g1,fun i j hij hj=> ?_⟩
 have el:(p++[y]).length=p.length+1:=by simp
 have el2:((p++[y])++[z]).length=p.length+2:=by simp
 have hj':j<p.length+2:=by omega
 by_cases e:j<(p++[y]).length
 ·have e1:((p++[y])++[z])[j]=(p++[y])[j]:=List.getElem_append_left e
  have e2:((p++[y])++[z])[i]=(p++[y])[i]'(Nat.lt_trans hij e):=List.getElem_append_left (Nat.lt_trans hij e)
  rw[e1,e2,h.so i j hij e]
  congr 1
  exact propext ⟨fun z=> .inl z,fun z=>by rcases z with z|⟨_,z⟩<;>omega⟩
 ·have ej:j=(p++[y]).length:=by omega
  subst ej
  have e1:((p++[y])++[z])[(p++[y]).length]=z:=by rw[List.getElem_append_right (Nat.le_refl _)];simp
  have e2:((p++[y])++[z])[i]=(p++[y])[i]:=List.getElem_append_left hij
  rw[e1,e2]
  by_cases hi:0<i
  ·rw[last_tie ht hz hij (.inl hi)]
   congr 1
   exact propext ⟨fun z=> .inl (by omega),fun z=>by rcases z with z|⟨z,_⟩<;>omega⟩
  ·have i0:i=0:=by omega
   subst i0
   rw[h1,decide_eq_true (.inr ⟨rfl,by omega⟩)]
theorem wit_step(ht:PairsOk n ts)(hb:Dirac.Bare (tiedL ts) c)(hr:∀x∈c,0<=x/\x<n){k:Nat}(h1:1<=k)(hk:k<c.length)(e:p++[y]=c.take k):c[k]∈steps n ts p y:=by
 have e1:c.take (k-1)++[c[k-1]]=c.take k:=by
  have:=List.take_append_getElem (l:=c) (i:=k-1) (by omega)
  rwa [show k-1+1=k by omega]at this
 obtain⟨ep,ey⟩:=List.append_inj' (e.trans e1.symm) rfl
 have ey:y=c[k-1]:=by injection ey
 rw[mem_steps ht]
 refine⟨hr _ (List.getElem_mem hk),?_,?_,fun x hx=> ?_⟩
 ·rw[ey,hb.so (k-1) k (by omega) hk]
  exact decide_eq_true (.inl (by omega))
 ·rw[e]
  intro hm
  obtain⟨i,hi,ei⟩:=List.mem_take_iff_getElem.mp hm
  have:=(List.getElem_inj hb.nd).mp ei
  omega
 ·rw[ep]at hx
  obtain⟨i,hi,ei⟩:=List.getElem_of_mem hx
  rw[List.length_tail,List.length_take]at hi
  rw[List.getElem_tail,List.getElem_take]at ei
  rw[<-ei,zar,hb.so (i+1) k (by omega) hk]
  exact decide_eq_false (by rintro(z|⟨z,_⟩)<;>omega)
end
noncomputable def Wit(c:List Int)(its:List (Addr×List Int)):Prop:=∃q∈its,∃k,1<=k/\k<c.length/\q.2=c.take k
theorem path_one{n:Int}{ts:List (Int×Int)}{x:Int}(h:0<=x/\x<n):PathOk n ts [x]:=⟨by simp,fun y hy=>by rw[List.mem_singleton.mp hy];exact h,fun i j hij hj=>by have:j<1:=hj;omega⟩
noncomputable def Wt:Nat->Nat
 |0=>1
 |r+1=>1+(r+1)*Wt r
theorem Wt_pos:∀r,1<=Wt r
 |0=>Nat.le_refl _
 |r+1=>Nat.le_add_right _ _
noncomputable def meas:List (Addr×List Int)->Nat
 |[]=>0
 |q::its=>Wt (10-q.2.length)+meas its
theorem meas_app:∀a b,meas (a++b)=meas a+meas b
 |[],b=>(Nat.zero_add _).symm
 |q::a,b=>by
  show Wt _+meas (a++b)=Wt _+meas a+meas b
  rw[meas_app a b,Nat.add_assoc]
theorem meas_one(q:Addr×List Int):meas [q]=Wt (10-q.2.length):=rfl
theorem len_meas:∀its:List (Addr×List Int),its.length<=meas its
 |[]=>Nat.le_refl _
 |q::its=>by
  have:=len_meas its
  have:=Wt_pos (10-q.2.length)
  show its.length+1<=Wt _+meas its
  omega
theorem meas_singles:∀{its:List (Addr×List Int)},(∀q∈its,q.2.length=1)->meas its=its.length*Wt 9
 |[],_=>(Nat.zero_mul _).symm
 |q::its,h=>by
  show Wt (10-q.2.length)+meas its=(its.length+1)*Wt 9
  rw[h q List.mem_cons_self,meas_singles fun p hp=>h p (List.mem_cons_of_mem _ hp),Nat.succ_mul,Nat.add_comm]
theorem Wt_9:Wt 9=986410:=by decide
theorem Wt_steps{s L:Nat}(h:s<=10-L):s*Wt (10-(L+1))<Wt (10-L):=by
 cases e:10-L with
 |zero=>
  rw[e]at h
  rw[Nat.le_zero.mp h,Nat.zero_mul]
  exact Nat.one_pos
 |succ r=>
  have:10-(L+1)=r:=by omega
  rw[this]
  show _<1+(r+1)*Wt r
  have:s*Wt r<=(r+1)*Wt r:=Nat.mul_le_mul_right _ (by omega)
  omega
end Hs
namespace Hs
open PySem L2 HsD
section
variable{P:Program}{w:World}{K:W.Frag}{mg:Str->Option Value}{base:Heap}
structure Stk(H0 H:Hp)(ps:Addr)(n:Int)(ts:List (Int×Int))(its:List (Addr×List Int)):Prop where
 sm:Same H0 H
 f0:H0 ps=none
 st:H ps=some (.lst (its.map fun q=>V.ref q.1))
 ok:∀q∈its,H q.1=some (.lst (q.2.map V.int))/\q.1≠ps/\q.2≠[]/\PathOk n ts q.2
section
variable{H0 H H':Hp}{ps:Addr}{n:Int}{ts:List (Int×Int)}{its:List (Addr×List Int)}
theorem Stk.same(h:Stk H0 H ps n ts its)(e:Same H H'):Stk H0 H' ps n ts its:=⟨h.sm.trans e,h.f0,e _ _ h.st,fun q hq=>⟨e _ _ (h.ok q hq).1,(h.ok q hq).2⟩⟩
theorem Stk.put(h:Stk H0 H ps n ts its){its':List (Addr×List Int)}(hs:∀q∈its',q∈its\/(H q.1=some (.lst (q.2.map V.int))/\q.1≠ps/\q.2≠[]/\PathOk n ts q.2)):Stk H0 (upd H ps (.lst (its'.map fun q=>V.ref q.1))) ps n ts its':=by
 refine⟨fun b o e=> ?_,h.f0,zac,fun q hq=> ?_⟩
 ·have nb:b≠ps:=fun z=>by rw[z,h.f0]at e;cases e
  rw[zap nb];exact h.sm _ _ e
 ·have z:H q.1=some (.lst (q.2.map V.int))/\q.1≠ps/\q.2≠[]/\PathOk n ts q.2:=by
   rcases hs q hq with z|z
   ·exact h.ok q z
   ·exact z
  exact⟨by rw[zap z.2.1];exact z.1,z.2⟩
end
noncomputable def RingW(a ps:Addr)(n:Int)(ts:List (Int×Int))(c:List Int)(H0:Hp)(m:Nat)(σ:St)(H:Hp):Prop:=
 ∃its b2 b3 b4,Stk H0 H ps n ts its/\Wit c its/\m=meas its/\m<=9864100/\σ=[some (.ref a),some (.ref ps),b2,b3,b4]
structure RingI(a ps r t:Addr)(n:Int)(ts:List (Int×Int))(c:List Int)(H0:Hp)(rest:List (Addr×List Int))(p:List Int)(y:Int)(i:Nat)(σ:St)(H:Hp)(new:List (Addr×List Int)):Prop where
 S:Stk H0 H ps n ts (rest++new)
 hr:H r=some (.lst ((p++[y]).map V.int))
 nr:r≠ps
 ht:H t=some (.lst ((steps n ts p y).map V.int))
 nt:t≠ps
 ms:meas new<=i*Wt (10-((p++[y]).length+1))
 wi:∀k,1<=k->∀hk:k<c.length,p++[y]=c.take k->c[k]∈(steps n ts p y).take i->Wit c new
 sg:∃b3 b4,σ=[some (.ref a),some (.ref ps),some (.ref r),b3,b4]
theorem ring_app{D:Ends}{σ:St}{H:Hp}{ps l:Addr}{xs:List V}(h1:σ[1]? =some (some (.ref ps)))(h4:σ[4]? =some (some (.ref l)))(st:H ps=some (.lst xs))(hz:xs.length<sizeLine)(q:D.nx σ (upd H ps (.lst (xs++[.ref l])))):
  tDrop (tBM K "list" rAppend (tVar 1) (tCons (tVar 4) tNil)) D σ H:=⟨_,h1,.inl ⟨rfl,_,SqL.of st⟩,_,h4,ps,xs,_,rfl,rfl,st,hz,q⟩
noncomputable def spRing(K:W.Frag):Sp:=fun vs H Q _=>∃(a:Addr) (n:Int) (ts:List (Int×Int)) (c:List Int),vs=[.ref a]/\WebIs K H a n ts/\Dirac.Bare (tiedL ts) c/\(∀x∈c,0<=x/\x<n)/\
 ∀r c' H',Same H H'->H' r=some (.lst (c'.map V.int))->H r=none->Dirac.Bare (tiedL ts) c'->(∀x∈c',0<=x/\x<n)->Q (.ref r) H'
theorem sc_ring:FnScope ["web","paths","path","place","longer"] ["web"] (defScope zbf):=⟨rfl,rfl,rfl,by decide+kernel,rfl,by decide+kernel,by decide+kernel⟩
theorem ok_ring{f f1 f2:Addr}{fd d1 d2:FuncData}{tk0:Tok}(F:Fun K "find_bare_ring" "find_bare_ring" zbf f fd)(D1:Dfn K mg "next_steps" zcf ["web","path"] f1 d1)(G1:FnOk P w K mg base CX0 9 f1 d1 ["web","path"] (spNext K))(D2:Dfn K mg "has_tie" zcd ["web","one","other"] f2 d2)(G2':FnOk P w K mg base CX0 1 f2 d2 ["web","one","other"] (spHas K))(m_range:mg "range"=none)(m_len:mg "len"=none)(m_LEAST_BARE_RING:mg "LEAST_BARE_RING"=some (.int 4 tk0)):
  FnOk P w K mg base CX0 10 f fd ["web"] (spRing K):=by
 have G2:FnOk P w K mg base CX0 9 f2 d2 ["web","one","other"] (spHas K):=G2'.mono (by decide)
 refine F.ok sc_ring (fun vs H Q E h=> ?_) (fun cdv A outer s H vs Q E hr h=> ?_)
 ·obtain⟨a,n,ts,c,rfl,_⟩:=h
  rfl
 obtain⟨a,n,ts,c,rfl,hA,hB,hc,q⟩:=h
 refine⟨_,(zae (zdh (i:=1) (own:=["place"]) (caps:=[]) (ix:=[]) sc_ring.nd rfl (Or.inl rfl) rfl (zba rfl m_range (zaa (zan zaw (pv 0) zag (fun _ _=>rfl)) zab)) rfl rfl .nil (fun _ _ _ _ _=>(zaj (i:=0) (show(["place"]:List Str).Nodup from by decide+kernel) rfl (Or.inl rfl))) (fun _ _ _ _ _=>zcn) (fun _ _ _ _ _=>(pe_lst (zaa (pv 0) zab)))) (zae (ps_while PassesOwn.never (pt_truthK K (pv 1) (fun _=>rfl)) (zae (zas (i:=2) sc_ring.nd rfl (Or.inl rfl) (pe_bm0 PySem.F.plainAttrs_list PySem.F.slot_list_pop PySem.F.type_list_pop mt_pop (pv 1))) (zah (ps_for PassesOwn.never rfl (pi_listLK K (zaf G1 hr rfl D1.m D1.F.kp D1.b .nil pass0 (zaa (pv 0) (zaa (pv 2) zab)))) (zaj (i:=3) sc_ring.nd rfl (Or.inl rfl)) (zae (zas (i:=4) sc_ring.nd rfl (Or.inl rfl) (zbb op_cat (pv 2) (pe_lst (zaa (pv 3) zab)))) (zah (zcs (PW.pt (pw_or (zam op_eq (zai zao rfl m_len PySem.boot_len (zaa (pv 2) zab)) zag (nomark _)) (pw_or1 (pt_not (zcy (zaf G2 hr rfl D2.m D2.F.kp D2.b .nil pass0 (zaa (pv 0) (zaa (zan zce (pv 2) zag (fun _ _=>rfl)) (zaa (pv 3) zab))))))))) (zah (zcb (pe_bm PySem.F.plainAttrs_list PySem.F.slot_list_append PySem.F.type_list_append mt_append (pv 1) (zaa (pv 4) zab)))) (zah (zcs (zam op_ge (zai zao rfl m_len PySem.boot_len (zaa (pv 4) zab)) (pe_glob rfl m_LEAST_BARE_RING (v:= .int 4) ⟨_,rfl⟩) (nomark _)) (zah (zal (pv 4))) zay))))))))) (zah (zal pe_non)))),?_⟩
 have h0:=hA.h0
 have h10:=hA.h1
 have l4:=hB.len
 obtain⟨ta,ra,a1,a2,a3⟩:=id hA.web
 refine⟨_,rfl,a,_,_,.int n,rfl,rfl,a1,rfl,n,rfl,by omega,by omega,?_⟩
 refine zbu (fun k acc σ H'=>∃its:List (Addr×List Int),acc=(its.map fun q=>V.ref q.1)/\its.map (fun q=>q.2)=(List.range k).map (fun(j:Nat)=>[0+(j:Int)])/\(∀q∈its,H' q.1=some (.lst (q.2.map V.int)))/\Same H H'/\∃o,σ=[o])
  ⟨[],rfl,rfl,(by intro q hq;cases hq),Same.refl _,_,rfl⟩ (fun k acc σ H' hk p=> ?_) (by rw[sizeLine_eq];omega) (fun k acc σ H' hk p=> ?_) (fun acc σ H' p=> ?_)
 ·obtain⟨its,rfl,e,_⟩:=p
  have:=congrArg List.length e
  rw[List.length_map,List.length_map,List.length_range]at this
  rw[List.length_map];omega
 ·obtain⟨its,rfl,e,hl,sm,o,rfl⟩:=p
  refine⟨_,rfl,(by show 1<=sizeLine;decide),fun l hl1=> ?_⟩
  have s1:=zad hl1 (.lst [.int (0+(k:Int))])
  refine⟨its++[(l,[0+(k:Int)])],by rw[List.map_append];rfl,by rw[List.map_append,e,List.range_succ,List.map_append];rfl,fun q hq=> ?_,sm.trans s1,_,rfl⟩
  rcases List.mem_append.mp hq with z|z
  ·exact s1 _ _ (hl q z)
  ·rw[List.mem_singleton.mp z];exact zac
 obtain⟨its,rfl,e,hl,sm,_⟩:=p
 intro ps hps
 have s1:=zad hps (.lst (its.map fun q=>V.ref q.1))
 have el:its.length=n.toNat:=by
  have:=congrArg List.length e
  rwa [List.length_map,List.length_map,List.length_range]at this
 have each:∀q∈its,∃j:Nat,j<n.toNat/\q.2=[0+(j:Int)]:=fun q hq=>by
  have:q.2∈its.map (fun q=>q.2):=List.mem_map.mpr ⟨q,hq,rfl⟩
  rw[e]at this
  obtain⟨j,hj,ej⟩:=List.mem_map.mp this
  exact⟨j,List.mem_range.mp hj,ej.symm⟩
 have S0:Stk H (upd H' ps (.lst (its.map fun q=>V.ref q.1))) ps n ts its:=⟨sm.trans s1,sm.free hps,zac,fun q hq=>by
  obtain⟨j,hj,ej⟩:=each q hq
  exact⟨s1 _ _ (hl q hq),(zbc (hl q hq) hps).symm,by rw[ej];simp,by rw[ej];exact path_one ⟨by omega,by omega⟩⟩⟩
 have W0:Wit c its:=by
  have hx:=hc _ (List.getElem_mem (show 0<c.length by omega))
  have:[c[0]]∈its.map (fun q=>q.2):=by
   rw[e]
   exact List.mem_map.mpr ⟨(c[0]).toNat,List.mem_range.mpr (by omega),by congr 1;omega⟩
  obtain⟨q,hq,eq⟩:=List.mem_map.mp this
  refine⟨q,hq,1,Nat.le_refl _,by omega,?_⟩
  rw[eq]
  exact List.take_append_getElem (l:=c) (i:=0) (by omega)
 have M0:meas its<=9864100:=by
  rw[meas_singles (fun q hq=>by obtain⟨j,_,ej⟩:=each q hq;rw[ej];rfl),Wt_9,el]
  omega
 refine⟨RingW a ps n ts c H,⟨_,its,_,_,_,S0,W0,rfl,M0,rfl⟩,?_⟩
 rintro m σ H1 ⟨its,b2,b3,b4,S,Wi,rfl,hm,rfl⟩
 refine⟨_,rfl,_,.inl ⟨_,SqL.of S.st,rfl⟩,?_⟩
 rcases List.eq_nil_or_concat its with e0|⟨rest,⟨r,p0⟩,e0⟩
 ·subst e0
  obtain⟨q,hq,_⟩:=Wi
  cases hq
 rw[List.concat_eq_append]at e0
 subst e0
 have hq0:=S.ok (r,p0) (List.mem_append_right _ List.mem_cons_self)
 rcases List.eq_nil_or_concat p0 with e0|⟨p,y,e0⟩
 ·exact absurd e0 hq0.2.2.1
 rw[List.concat_eq_append]at e0
 subst e0
 obtain⟨hr0,nr,_,hp⟩:=hq0
 dsimp only at hr0 nr hp
 have et:(!((rest++[(r,p++[y])]).map fun q=>V.ref q.1).isEmpty)=true:=by simp
 refine ite2 (fun _=> ?_) (fun z=>absurd et z)
 refine⟨fun σ' H'=>∃m',m'<meas (rest++[(r,p++[y])])/\RingW a ps n ts c H m' σ' H',fun σ' H' h=>h,?_⟩
 refine⟨_,rfl,.inl ⟨rfl,_,SqL.of S.st⟩,ps,_,.ref r,rfl,rfl,S.st,by simp,?_⟩
 have ed:((rest++[(r,p++[y])]).map fun q=>V.ref q.1).dropLast=rest.map fun q=>V.ref q.1:=by rw[List.map_append];exact List.dropLast_concat
 rw[ed]
 have S2:=S.put (its':=rest) (fun q hq=> .inl (List.mem_append_left _ hq))
 have hr2:upd H1 ps (.lst (rest.map fun q=>V.ref q.1)) r=some (.lst ((p++[y]).map V.int)):=by rw[zap nr];exact hr0
 generalize upd H1 ps (.lst (rest.map fun q=>V.ref q.1))=H2 at *
 have hmm:meas rest+Wt (10-(p++[y]).length)<=9864100:=by rw[meas_app,meas_one]at hm;exact hm
 have hsl:=steps_len hA.pk hp
 have hlp:(p++[y]).length=p.length+1:=by simp
 have hy:=hp.rg y (by simp)
 have H02:=S2.sm
 refine⟨_,rfl,_,rfl,a,r,n,ts,p,y,rfl,hA.same H02,SqL.of hr2,hy,fun t H3 s3 h3 n3=> ?_⟩
 refine⟨t,_,rfl,SqL.of h3,fun _=> ?_⟩
 refine for_list (K:=K) (a:=t) (xs:=(steps n ts p y).map V.int) (fun i σ H'=>∃new,RingI a ps r t n ts c H rest p y i σ H' new) ⟨[],?_⟩ (fun i σ H' _ p=>by obtain⟨new,I⟩:=p;exact SqL.of I.ht) (fun i x σ H4 hx p4=> ?_) (fun σ H4 p4=> ?_)
 ·exact⟨by rw[List.append_nil];exact S2.same s3,s3 _ _ hr2,nr,h3,(zbc S2.st n3),Nat.zero_le _,fun k _ _ _ hm=>by simp at hm,_,_,rfl⟩
 ·obtain⟨new,I⟩:=p4
  obtain⟨b3',b4',rfl⟩:=I.sg
  rw[List.getElem?_map]at hx
  cases ex:(steps n ts p y)[i]? with
  |none=>rw[ex]at hx;cases hx
  |some z=>
   rw[ex]at hx
   cases hx
   have hz:=List.mem_of_getElem? ex
   obtain⟨hi,_⟩:=List.getElem?_eq_some_iff.mp ex
   refine⟨_,rfl,_,rfl,(by show 1<=sizeLine;decide),fun l1 hl1=> ?_⟩
   have s5:=zad hl1 (.lst [.int z])
   refine⟨r,l1,_,_,rfl,rfl,s5 _ _ I.hr,zac,by rw[List.length_map,sizeLine_eq];show(p++[y]).length+1<=_;omega,fun l hl=> ?_⟩
   have s6:=s5.trans (zad hl (.lst ((p++[y]).map V.int++[.int z])))
   have hl6:upd (upd H4 l1 (.lst [.int z])) l (.lst ((p++[y]).map V.int++[.int z])) l=some (.lst (((p++[y])++[z]).map V.int)):=by rw[zac,List.map_append (l₁:=p++[y])];rfl
   have nl:l≠ps:=zbc (s5 _ _ I.S.st) hl
   have l0:H l=none:=I.S.sm.free (s5.free hl)
   generalize upd (upd H4 l1 (.lst [.int z])) l (.lst ((p++[y]).map V.int++[.int z]))=H6 at *
   have take1:∀x,x∈(steps n ts p y).take (i+1)->x∈(steps n ts p y).take i\/x=z:=fun x hx=>by
    rw[List.take_add_one,ex]at hx
    rcases List.mem_append.mp hx with h|h
    ·exact .inl h
    ·exact .inr (List.mem_singleton.mp h)
   have wt1:=Wt_steps (s:=i+1) (L:=(p++[y]).length) (by omega)
   have ms1:meas new+Wt (10-((p++[y]).length+1))<=(i+1)*Wt (10-((p++[y]).length+1)):=by
    have:=I.ms
    rw[Nat.succ_mul];omega
   -- it goes on to the stack
   have app:∀(σ:St) (H7:Hp),σ=[some (.ref a),some (.ref ps),some (.ref r),some (.int z),some (.ref l)]->Same H6 H7->(p=[]\/tiedL ts ((p++[y])[0]'(by simp)) z=false)->
     (((rest++new).map fun q=>V.ref q.1).length<sizeLine)/\∃new',RingI a ps r t n ts c H rest p y (i+1) σ (upd H7 ps (.lst (((rest++new).map fun q=>V.ref q.1)++[.ref l]))) new':=fun σ H7 eσ s7 hn=>by
    have s67:=s6.trans s7
    have S7:=I.S.same s67
    have eo:((rest++new).map fun q=>V.ref q.1)++[.ref l]=(rest++(new++[(l,(p++[y])++[z])])).map fun q=>V.ref q.1:=by rw[<-List.append_assoc,List.map_append (l₁:=rest++new)];rfl
    refine⟨?_,new++[(l,(p++[y])++[z])],?_⟩
    ·have:=len_meas (rest++new)
     rw[meas_app]at this
     rw[List.length_map,sizeLine_eq]
     have:=I.ms
     omega
    rw[eo]
    refine⟨S7.put fun q hq=> ?_,?_,I.nr,?_,I.nt,?_,fun k h1 hk ek hm=> ?_,_,_,eσ⟩
    ·rw[<-List.append_assoc]at hq
     rcases List.mem_append.mp hq with h|h
     ·exact .inl h
     ·rw[List.mem_singleton.mp h]
      exact .inr ⟨s7 _ _ hl6,nl,by simp,path_more hA.pk hp hz hn⟩
    ·rw[zap I.nr];exact s67 _ _ I.hr
    ·rw[zap I.nt];exact s67 _ _ I.ht
    ·rw[meas_app,meas_one]
     have:((p++[y])++[z]).length=(p++[y]).length+1:=by simp
     rw[this];exact ms1
    ·rcases take1 _ hm with h|h
     ·obtain⟨q,hq,w⟩:=I.wi k h1 hk ek h
      exact⟨q,List.mem_append_left _ hq,w⟩
     ·refine⟨(l,(p++[y])++[z]),List.mem_append_right _ List.mem_cons_self,k+1,by omega,?_,?_⟩
      ·rcases Nat.lt_or_ge (k+1) c.length with g|g
       ·exact g
       ·exfalso
        have lk:(p++[y]).length=k:=by rw[ek,List.length_take];omega
        rcases hn with hn|hn
        ·rw[hn]at lk;simp at lk;omega
        ·have e0:(p++[y])[0]'(by simp)=c[0]'(by omega):=by simp only[ek,List.getElem_take]
         rw[e0,<-h,hB.so 0 k (by omega) hk,decide_eq_true (.inr ⟨rfl,by omega⟩)]at hn
         cases hn
      ·show(p++[y])++[z]=_
       rw[ek,<-h];exact List.take_append_getElem hk
   -- it is let go
   have skip:∀(σ:St) (H7:Hp),σ=[some (.ref a),some (.ref ps),some (.ref r),some (.int z),some (.ref l)]->Same H6 H7->p≠[]->tiedL ts ((p++[y])[0]'(by simp)) z=true->(p++[y]).length+1<4->
     ∃new',RingI a ps r t n ts c H rest p y (i+1) σ H7 new':=fun σ H7 eσ s7 np hn h4=>by
    have s67:=s6.trans s7
    refine⟨new,I.S.same s67,s67 _ _ I.hr,I.nr,s67 _ _ I.ht,I.nt,Nat.le_trans (Nat.le_add_right _ _) ms1,fun k h1 hk ek hm=> ?_,_,_,eσ⟩
    rcases take1 _ hm with h|h
    ·exact I.wi k h1 hk ek h
    ·exfalso
     have lk:(p++[y]).length=k:=by rw[ek,List.length_take];omega
     have:p.length≠0:=fun z=>np (List.eq_nil_of_length_eq_zero z)
     have e0:(p++[y])[0]'(by simp)=c[0]'(by omega):=by simp only[ek,List.getElem_take]
     rw[e0,<-h,hB.so 0 k (by omega) hk,decide_eq_false (by rintro(z|⟨_,z⟩)<;>omega)]at hn
     cases hn
   have hr6:=s6 _ _ I.hr
   refine⟨_,rfl,r,_,rfl,.inl (SqL.of hr6),fun _=>⟨rfl,_,rfl,?_⟩⟩
   rw[intV_eq,List.length_map]
   refine ite2 (fun c1=> ?_) (fun c1=> ?_)
   ·have p0:p=[]:=by
     have:=of_decide_eq_true c1
     exact List.eq_nil_of_length_eq_zero (by omega)
    obtain⟨hz1,new',I'⟩:=app _ H6 rfl (Same.refl _) (.inl p0)
    exact iteT (ring_app rfl rfl (I.S.same s6).st hz1 ⟨new',I'⟩)
   ·have np:p≠[]:=fun e=>c1 (decide_eq_true (by rw[e];rfl))
    have hat:atI ((p++[y]).map V.int) 0=some (.int ((p++[y])[0]'(by simp))):=atI_nat (j:=0) (by rw[List.getElem?_map,List.getElem?_eq_getElem (by simp)];rfl)
    refine⟨_,rfl,_,rfl,r,_,_,_,rfl,rfl,SqL.of hr6,hat,_,rfl,a,n,_,z,ts,rfl,(hA.same (I.S.sm.trans s6)).web,fun H7 s7=>⟨_,rfl,?_⟩⟩
    rw[tied_eq hA.pk]
    refine ite2 (fun c2=> ?_) (fun c2=> ?_)
    ·obtain⟨hz1,new',I'⟩:=app _ H7 rfl s7 (.inr ((Bool.not_eq_true' _).mp c2))
     exact ring_app rfl rfl (I.S.same (s6.trans s7)).st hz1 ⟨new',I'⟩
    ·have ct:tiedL ts ((p++[y])[0]'(by simp)) z=true:=by
      cases h:tiedL ts ((p++[y])[0]'(by simp)) z with
      |true=>rfl
      |false=>exact absurd (by rw[h];rfl) c2
     have hl7:=s7 _ _ hl6
     refine⟨_,rfl,l,_,rfl,.inl (SqL.of hl7),fun _=>⟨_,_,rfl,rfl,_,rfl,?_⟩⟩
     refine ite2 (fun c3=> ?_) (fun c3=> ?_)
     ·have h4:4<=((p++[y])++[z]).length:=by
       have:=of_decide_eq_true c3
       rw[List.length_map]at this
       omega
      exact⟨_,rfl,q l _ H7 ((I.S.sm.trans s6).trans s7) hl7 l0 (path_ring hA.pk hp hz ct h4) (grown hA.pk hp hz).2⟩
     ·refine skip _ H7 rfl s7 np ct ?_
      have:¬(4:Int)<=((((p++[y])++[z]).map V.int).length:Int):=fun z=>c3 (decide_eq_true z)
      rw[List.length_map,List.length_append,List.length_singleton]at this
      omega
 ·obtain⟨new,I⟩:=p4
  obtain⟨b3',b4',rfl⟩:=I.sg
  rw[List.length_map]at I
  have wt:=Wt_steps (s:=(steps n ts p y).length) (L:=(p++[y]).length) (by omega)
  have ms:=I.ms
  have lt:meas (rest++new)<meas (rest++[(r,p++[y])]):=by rw[meas_app,meas_app,meas_one];dsimp only;omega
  refine⟨meas (rest++new),lt,rest++new,_,_,_,I.S,?_,rfl,by omega,rfl⟩
  obtain⟨q',hq',k,k1,k2,ek⟩:=Wi
  rcases List.mem_append.mp hq' with h|h
  ·exact⟨q',List.mem_append_left _ h,k,k1,k2,ek⟩
  ·rw[List.mem_singleton.mp h]at ek
   obtain⟨q2,h2,w2⟩:=I.wi k k1 k2 ek (by rw[List.take_length];exact wit_step hA.pk hB hc k1 k2 ek)
   exact⟨q2,List.mem_append_right _ h2,w2⟩
end
end Hs
namespace Hs
open PySem L2 HsD
noncomputable def rg(n:Int):List Int:=(List.range n.toNat).map fun(k:Nat)=>(k:Int)
theorem mem_rg{n x:Int}:x∈rg n↔0<=x/\x<n:=by
 unfold rg
 rw[List.mem_map]
 constructor
 ·rintro⟨k,hk,rfl⟩
  have:=List.mem_range.mp hk
  exact⟨by omega,by omega⟩
 ·rintro⟨a,b⟩
  exact⟨x.toNat,List.mem_range.mpr (by omega),by omega⟩
theorem rg_nodup(n:Int):(rg n).Nodup:=by
 unfold rg
 show List.Pairwise _ _
 rw[List.pairwise_map]
 exact List.pairwise_lt_range.imp fun h=>by omega
theorem rg_len(n:Int):(rg n).length=n.toNat:=by unfold rg;rw[List.length_map,List.length_range]
theorem tupR_rg(n:Int):tupR n.toNat=(rg n).map V.int:=by unfold tupR rg;rw[List.map_map];rfl
theorem simp_mono{r:Int->Int->Bool}{V V':List Int}{x:Int}(h:∀a∈V',a∈V)(s:Dirac.Simp r V x):Dirac.Simp r V' x:=fun a ha b hb=>s a (h a ha) b (h b hb)
theorem out_erase{V:List Int}{v:Int}(nd:V.Nodup):(V.filter fun o=> !decide (o∈[v]))=V.erase v:=by
 rw[nd.erase_eq_filter v]
 refine List.filter_congr fun o _=> ?_
 rw[Bool.eq_iff_iff];simp
structure FoldI(n:Int)(ts:List (Int×Int))(xs V:List Int):Prop where
 pm:(xs++V).Perm (rg n)
 go:∀k (hk:k<xs.length),Dirac.Simp (tiedL ts) (xs.drop (k+1)++V) xs[k]
section
variable{n:Int}{ts:List (Int×Int)}{xs V:List Int}{v:Int}
theorem FoldI.nd(h:FoldI n ts xs V):(xs++V).Nodup:=h.pm.nodup_iff.mpr (rg_nodup n)
theorem FoldI.ndV(h:FoldI n ts xs V):V.Nodup:=(List.nodup_append.mp h.nd).2.1
theorem FoldI.len(h:FoldI n ts xs V):xs.length+V.length=n.toNat:=by
 have:=h.pm.length_eq
 rwa [List.length_append,rg_len]at this
theorem FoldI.rgV(h:FoldI n ts xs V){x:Int}(hx:x∈V):0<=x/\x<n:=mem_rg.mp (h.pm.mem_iff.mp (List.mem_append_right _ hx))
theorem FoldI.start(n:Int)(ts:List (Int×Int)):FoldI n ts [] (rg n):=⟨List.Perm.refl _,fun k hk=>absurd hk (Nat.not_lt_zero _)⟩
theorem FoldI.step(h:FoldI n ts xs V)(hv:v∈V)(sv:Dirac.Simp (tiedL ts) V v):FoldI n ts (xs++[v]) (V.filter fun o=> !decide (o∈[v]))/\(V.filter fun o=> !decide (o∈[v])).length<V.length:=by
 have sub:∀a,a∈(V.filter fun o=> !decide (o∈[v]))->a∈V:=fun a ha=>(List.mem_filter.mp ha).1
 refine⟨⟨?_,fun k hk=> ?_⟩,?_⟩
 ·rw[out_erase h.ndV,List.append_assoc]
  exact(List.Perm.append_left xs (List.perm_cons_erase hv).symm).trans h.pm
 ·have hk':k<xs.length+1:=by simpa using hk
  by_cases e:k<xs.length
  ·have e1:(xs++[v])[k]=xs[k]:=List.getElem_append_left e
   rw[e1]
   refine simp_mono (fun a ha=> ?_) (h.go k e)
   rcases List.mem_append.mp ha with z|z
   ·rw[List.drop_append_of_le_length (by omega)]at z
    rcases List.mem_append.mp z with z|z
    ·exact List.mem_append_left _ z
    ·rw[List.mem_singleton.mp z];exact List.mem_append_right _ hv
   ·exact List.mem_append_right _ (sub a z)
  ·have ek:k=xs.length:=by omega
   subst ek
   have e1:(xs++[v])[xs.length]=v:=by simp
   rw[e1]
   refine simp_mono (fun a ha=> ?_) sv
   rcases List.mem_append.mp ha with z|z
   ·rw[List.drop_of_length_le (by simp)]at z;cases z
   ·exact sub a z
 ·rw[out_erase h.ndV,List.length_erase_of_mem hv]
  have:=List.length_pos_of_mem hv
  omega
theorem FoldI.noRing(h:FoldI n ts xs []){c:List Int}(hb:Dirac.Bare (tiedL ts) c)(hc:∀x∈c,0<=x/\x<n):False:=by
 have p:=h.pm
 have nd:=h.nd
 rw[List.append_nil]at p nd
 refine fold_no nd (fun k hk=> ?_) c hb (fun x hx=>p.mem_iff.mpr (mem_rg.mpr (hc x hx)))
 have:=h.go k hk
 rwa [List.append_nil]at this
theorem FoldI.isFold(h:FoldI n ts xs [])(h0:0<=n):foldB n ts xs=true:=by
 have p:=h.pm
 have nd:=h.nd
 rw[List.append_nil]at p nd
 unfold foldB
 rw[Bool.and_eq_true,Bool.and_eq_true,Bool.and_eq_true]
 have hl:=p.length_eq
 rw[rg_len]at hl
 refine⟨⟨decide_eq_true (by omega),?_,decide_eq_true nd⟩,?_⟩
 ·rw[List.all_eq_true]
  intro x hx
  have:=mem_rg.mp (p.mem_iff.mp hx)
  unfold inR
  rw[decide_eq_true this.1,decide_eq_true this.2];rfl
 ·rw[List.all_eq_true]
  intro k hk
  have hk:=List.mem_range.mp hk
  unfold stepF
  have e:xs.getD k 0=xs[k]:=by simp[hk]
  rw[e,go_iff (nd.sublist (List.drop_sublist _ _))]
  have:=h.go k hk
  rwa [List.append_nil]at this
theorem FoldI.ring(h:FoldI n ts xs V)(ht:PairsOk n ts)(hne:V≠[])(no:∀v∈V,¬Dirac.Simp (tiedL ts) V v):∃c,Dirac.Bare (tiedL ts) c/\∀x∈c,0<=x/\x<n:=by
 obtain⟨c,h1,h2⟩:=Dirac.ring_there (r:=tiedL ts) (zar ts) (tiedL_self ht) hne no
 exact⟨c,h1,fun x hx=>h.rgV (h2 x hx)⟩
end
end Hs
namespace Hs
open PySem L2 HsD
section
variable{P:Program}{w:World}{K:W.Frag}{mg:Str->Option Value}{base:Heap}
noncomputable def FoldW(K:W.Frag)(a o:Addr)(n:Int)(ts:List (Int×Int))(H0:Hp)(m:Nat)(σ:St)(H:Hp):Prop:=
 ∃(l:Addr) (xs us:List Int) (b3:Option V),σ=[some (.ref a),some (.ref o),some (.ref l),b3]/\Same H0 H/\H o=some (.lst (xs.map V.int))/\SqT K H l (us.map V.int)/\FoldI n ts xs us/\m=us.length
noncomputable def spFold(K:W.Frag):Sp:=fun vs H Q _=>∃(a:Addr) (n:Int) (ts:List (Int×Int)),vs=[.ref a]/\WebIs K H a n ts/\
 (∀r o xs H',Same H H'->SqT K H' r [.str "fold",.ref o]->SqT K H' o (xs.map V.int)->FoldI n ts xs []->Q (.ref r) H')/\
 (∀r l c H',Same H H'->SqT K H' r [.str "ring",.ref l]->H' l=some (.lst (c.map V.int))->H l=none->Dirac.Bare (tiedL ts) c->(∀x∈c,0<=x/\x<n)->Q (.ref r) H')
theorem sc_fold:FnScope ["web","order","left","place"] ["web"] (defScope s_fold):=⟨rfl,rfl,rfl,by decide+kernel,rfl,by decide+kernel,by decide+kernel⟩
theorem ok_fold{f f1 f2 f3 f4:Addr}{fd d1 d2 d3 d4:FuncData}(F:Fun K "fold" "fold" s_fold f fd)(D1:Dfn K mg "need_web" zbi ["thing"] f1 d1)(G1':FnOk P w K mg base CX0 7 f1 d1 ["thing"] (spNeedWeb K))(D2:Dfn K mg "first_to_go" zca ["web","left"] f2 d2)(G2':FnOk P w K mg base CX0 3 f2 d2 ["web","left"] (spFirst K))(D3:Dfn K mg "find_bare_ring" zbf ["web"] f3 d3)(G3:FnOk P w K mg base CX0 10 f3 d3 ["web"] (spRing K))(D4:Dfn K mg "without" zdj ["some","part"] f4 d4)(G4':FnOk P w K mg base CX0 1 f4 d4 ["some","part"] (spWithout K))(m_tuple:mg "tuple"=none)(m_range:mg "range"=none):
  FnOk P w K mg base CX0 11 f fd ["web"] (spFold K):=by
 have G1:FnOk P w K mg base CX0 10 f1 d1 ["thing"] (spNeedWeb K):=G1'.mono (by decide)
 have G2:FnOk P w K mg base CX0 10 f2 d2 ["web","left"] (spFirst K):=G2'.mono (by decide)
 have G4:FnOk P w K mg base CX0 10 f4 d4 ["some","part"] (spWithout K):=G4'.mono (by decide)
 refine F.ok sc_fold (fun vs H Q E h=> ?_) (fun cdv A outer s H vs Q E hr h=> ?_)
 ·obtain⟨a,n,ts,rfl,_⟩:=h
  rfl
 obtain⟨a,n,ts,rfl,hA,q1,q2⟩:=h
 refine⟨_,(zae (zcb (zaf G1 hr rfl D1.m D1.F.kp D1.b .nil pass0 (zaa (pv 0) zab))) (zae (zas (i:=1) sc_fold.nd rfl (Or.inl rfl) (pe_lst zab)) (zae (zas (i:=2) sc_fold.nd rfl (Or.inl rfl) (pe_tupRange rfl rfl m_tuple rfl m_range (zaa (zan zaw (pv 0) zag (fun _ _=>rfl)) zab))) (zae (ps_while PassesOwn.never (pt_truthK K (pv 2) (fun _=>rfl)) (zae (zas (i:=3) sc_fold.nd rfl (Or.inl rfl) (zaf G2 hr rfl D2.m D2.F.kp D2.b .nil pass0 (zaa (pv 0) (zaa (pv 2) zab)))) (zae (zcs (zam op_isN (pv 3) pe_non (nomark _)) (zah (zal (zck (zaa pe_str (zaa (zaf G3 hr rfl D3.m D3.F.kp D3.b .nil pass0 (zaa (pv 0) zab)) zab))))) zay) (zae (zcb (pe_bm PySem.F.plainAttrs_list PySem.F.slot_list_append PySem.F.type_list_append mt_append (pv 1) (zaa (pv 3) zab))) (zah (zas (i:=2) sc_fold.nd rfl (Or.inl rfl) (zaf G4 hr rfl D4.m D4.F.kp D4.b .nil pass0 (zaa (pv 2) (zaa (zck (zaa (pv 3) zab)) zab))))))))) (zah (zal (zck (zaa pe_str (zaa (zbp zav rfl m_tuple (by decide+kernel) (zaa (pv 1) zab)) zab))))))))),?_⟩
 have h0:=hA.h0
 have h10:=hA.h1
 refine⟨_,rfl,_,_,rfl,hA.web.dv.dx,hA.ok,fun H1 s1=> ?_⟩
 refine⟨(by show 0<=sizeLine;decide),fun o ho=> ?_⟩
 have s2:=s1.trans (zad ho (.lst []))
 have o0:H o=none:=s1.free ho
 have ho2:upd H1 o (.lst []) o=some (.lst []):=zac
 generalize upd H1 o (.lst [])=H2 at *
 obtain⟨ta,ra,a1,a2,a3⟩:=id (hA.same s2).web
 refine⟨_,rfl,a,_,_,.int n,rfl,rfl,a1,rfl,n,rfl,h0,by omega,fun l hl=> ?_⟩
 rw[tupR_rg]
 have s3:=s2.trans (zad hl (.tup ((rg n).map V.int)))
 have ho3:=(zad hl (.tup ((rg n).map V.int))) _ _ ho2
 have hl3:SqT K (upd H2 l (.tup ((rg n).map V.int))) l ((rg n).map V.int):=SqT.of zac
 generalize upd H2 l (.tup ((rg n).map V.int))=H3 at *
 refine⟨FoldW K a o n ts H,⟨_,l,[],rg n,_,rfl,s3,ho3,hl3,FoldI.start n ts,rfl⟩,?_⟩
 rintro m σ H4 ⟨l,xs,us,b3,rfl,sm,ho4,hl4,I,rfl⟩
 have hlen:=I.len
 refine⟨_,rfl,_,.inr (.inl ⟨_,hl4,rfl⟩),?_⟩
 refine ite2 (fun c=> ?_) (fun c=> ?_)
 ·have hne:us≠[]:=fun e=>by
   rw[e]at c
   exact absurd c (by decide)
  refine⟨fun σ' H'=>∃m',m'<us.length/\FoldW K a o n ts H m' σ' H',fun σ' H' h=>h,?_⟩
  refine⟨_,rfl,_,rfl,a,l,n,ts,us,rfl,hA.same sm,hl4,I.ndV,by omega,fun v hv sv H5 s5=> ?_,fun no H5 s5=> ?_⟩
  ·refine⟨_,rfl,rfl,_,rfl,?_⟩
   refine ite2 (fun c=>absurd (of_decide_eq_true c) (fun z=>by cases z)) (fun _=> ?_)
   have ho5:=s5 _ _ ho4
   refine⟨_,rfl,.inl ⟨rfl,_,SqL.of ho5⟩,_,rfl,o,_,_,rfl,rfl,ho5,by rw[List.length_map,sizeLine_eq];omega,?_⟩
   have x6:Same H (upd H5 o (.lst (xs.map V.int++[.int v]))):=fun b u e=>by
    have nb:b≠o:=fun z=>by rw[z,o0]at e;cases e
    rw[zap nb];exact(sm.trans s5) _ _ e
   have hl6:SqT K (upd H5 o (.lst (xs.map V.int++[.int v]))) l (us.map V.int):=SameX.tup ((SameX.refl o H5).upd) ho5 (s5.tup hl4)
   have ho6:upd H5 o (.lst (xs.map V.int++[.int v])) o=some (.lst ((xs++[v]).map V.int)):=by rw[zac,List.map_append];rfl
   generalize upd H5 o (.lst (xs.map V.int++[.int v]))=H6 at *
   refine⟨_,rfl,_,rfl,(by show 1<=sizeLine;decide),fun t ht=>⟨l,t,us,v,rfl,(zad ht _).tup hl6,SqT.of zac,fun r H8 s8 h8=> ?_⟩⟩
   obtain⟨I',lt⟩:=I.step hv sv
   exact⟨_,lt,r,xs++[v],_,_,rfl,x6.trans ((zad ht _).trans s8),s8 _ _ ((zad ht _) _ _ ho6),h8,I',rfl⟩
  ·refine⟨_,rfl,rfl,_,rfl,?_⟩
   refine ite2 (fun _=> ?_) (fun c=>absurd (decide_eq_true rfl) c)
   obtain⟨c,hb,hc⟩:=I.ring hA.pk hne no
   refine⟨_,rfl,a,n,ts,c,rfl,hA.same (sm.trans s5),hb,hc,fun r c' H6 s6 h6 n6 hb' hc'=>⟨(by show 2<=sizeLine;decide),fun t ht=> ?_⟩⟩
   have s7:=zad ht (.tup [.str "ring",.ref r])
   exact q2 t r c' _ (sm.trans (s5.trans (s6.trans s7))) (SqT.of zac) (s7 _ _ h6) ((sm.trans s5).free n6) hb' hc'
 ·have e:us=[]:=by
   cases us with
   |nil=>rfl
   |cons x us=>exact absurd rfl c
  subst e
  refine⟨_,rfl,o,_,rfl,.inl ⟨SqL.of ho4,fun t ht=>⟨(by show 2<=sizeLine;decide),fun r hr'=> ?_⟩⟩⟩
  have s5:=zad ht (.tup (xs.map V.int))
  have s6:=zad hr' (.tup [.str "fold",.ref t])
  exact q1 r t xs _ (sm.trans (s5.trans s6)) (SqT.of zac) (s6.tup (SqT.of zac)) I
end
end Hs
namespace Hs
noncomputable def ff:Nat->Nat
 |0=>1
 |1=>1
 |2=>2
 |3=>3
 |4=>4
 |5=>6
 |6=>9
 |7=>12
 |8=>18
 |9=>27
 |_=>36
theorem ff_mono:∀m n:Nat,m<=n->n<=10->ff m<=ff n:=by
 have h:∀n:Fin 11,∀m:Fin 11,m.val<=n.val->ff m.val<=ff n.val:=by decide
 intro m n hm hn
 exact h ⟨n,by omega⟩ ⟨m,by omega⟩ hm
theorem ff_step:∀n d:Nat,0<d->d<=n->n<=10->d*ff (n-d)<=ff n:=by
 have h:∀n:Fin 11,∀d:Fin 11,0<d.val->d.val<=n.val->d.val*ff (n.val-d.val)<=ff n.val:=by decide
 intro n d h0 hd hn
 exact h ⟨n,by omega⟩ ⟨d,by omega⟩ h0 hd
structure Full(r:Int->Int->Bool)(V:List Int)(s:List Int):Prop where
 up:s.Pairwise (· < ·)
 sub:∀x∈s,x∈V
 ind:∀x∈s,∀y∈s,x≠y->r x y=false
 max:∀v∈V,v∉s->∃x∈s,r x v=true
theorem least_at(g:Int->Nat):∀V:List Int,V≠[]->∃v∈V,∀u∈V,g v<=g u
 |[],h=>absurd rfl h
 |[x],_=>⟨x,by simp,fun u hu=>by rw[List.mem_singleton.mp hu];exact Nat.le_refl _⟩
 |x::y::V,_=>by
  obtain⟨v,hv,hm⟩:=least_at g (y::V) (by simp)
  by_cases c:g x<=g v
  ·refine⟨x,by simp,fun u hu=> ?_⟩
   rcases List.mem_cons.mp hu with e|e
   ·rw[e];exact Nat.le_refl _
   ·exact Nat.le_trans c (hm u e)
  ·refine⟨v,List.mem_cons_of_mem _ hv,fun u hu=> ?_⟩
   rcases List.mem_cons.mp hu with e|e
   ·rw[e];omega
   ·exact hm u e
theorem filter_two{α:Type}(p:α->Bool):∀l:List α,(l.filter p).length+(l.filter fun x=> !p x).length=l.length
 |[]=>rfl
 |x::l=>by
  have ih:=filter_two p l
  rw[List.filter_cons,List.filter_cons]
  cases p x<;>simp <;>omega
theorem cover_len{α β:Type}(p:β->α->Bool)(m:Nat):∀(us:List β) (fs:List α),(∀s∈fs,∃u∈us,p u s=true)->(∀u∈us,∀gs:List α,gs.Sublist fs->(∀s∈gs,p u s=true)->gs.length<=m)->fs.length<=us.length*m
 |[],fs,h,_=>by
  cases fs with
  |nil=>simp
  |cons s fs=>obtain⟨u,hu,_⟩:=h s (by simp);cases hu
 |u::us,fs,h,hm=>by
  have e:=filter_two (p u) fs
  have a:=hm u (by simp) (fs.filter (p u)) List.filter_sublist (fun s hs=>(List.mem_filter.mp hs).2)
  have b:=cover_len p m us (fs.filter fun x=> !p u x) (fun s hs=>by
   obtain⟨h1,h2⟩:=List.mem_filter.mp hs
   obtain⟨w,hw,hp⟩:=h s h1
   rcases List.mem_cons.mp hw with z|z
   ·rw[z]at hp;rw[hp]at h2;cases h2
   ·exact⟨w,z,hp⟩) (fun w hw gs hg hp=>hm w (List.mem_cons_of_mem _ hw) gs (hg.trans List.filter_sublist) hp)
  rw[List.length_cons,Nat.succ_mul]
  omega
theorem up_same:∀{xs ys:List Int},xs.Pairwise (· < ·)->ys.Pairwise (· < ·)->(∀k,k∈xs↔k∈ys)->xs=ys
 |[],[],_,_,_=>rfl
 |[],y::ys,_,_,h=>by have:=(h y).mpr (by simp);simp at this
 |x::xs,[],_,_,h=>by have:=(h x).mp (by simp);simp at this
 |x::xs,y::ys,hx,hy,h=>by
  rw[List.pairwise_cons]at hx hy
  have e:x=y:=by
   have a:=(h x).mp (by simp)
   have b:=(h y).mpr (by simp)
   rcases List.mem_cons.mp a with a|a
   ·exact a
   ·rcases List.mem_cons.mp b with b|b
    ·exact b.symm
    ·have:=hy.1 x a;have:=hx.1 y b;omega
  subst e
  rw[up_same hx.2 hy.2 fun k=> ?_]
  constructor
  ·intro hk
   rcases List.mem_cons.mp ((h k).mp (List.mem_cons_of_mem _ hk))with a|a
   ·have:=hx.1 k hk;omega
   ·exact a
  ·intro hk
   rcases List.mem_cons.mp ((h k).mpr (List.mem_cons_of_mem _ hk))with a|a
   ·have:=hy.1 k hk;omega
   ·exact a
theorem map_nodup{α β:Type}{g:α->β}:∀{l:List α},l.Nodup->(∀a∈l,∀b∈l,g a=g b->a=b)->(l.map g).Nodup
 |[],_,_=>List.nodup_nil
 |a::l,h,hi=>by
  rw[List.nodup_cons]at h
  rw[List.map_cons,List.nodup_cons]
  refine⟨fun hm=> ?_,map_nodup h.2 fun x hx y hy=>hi x (List.mem_cons_of_mem _ hx) y (List.mem_cons_of_mem _ hy)⟩
  obtain⟨b,hb,e⟩:=List.mem_map.mp hm
  have:=hi b (List.mem_cons_of_mem _ hb) a (by simp) e
  rw[this]at hb
  exact h.1 hb
noncomputable def nearTo(r:Int->Int->Bool)(v u:Int):Bool:=decide (u=v)||r u v
theorem full_count{r:Int->Int->Bool}(sym:∀i j,r i j=r j i):∀(n:Nat) (V:List Int),V.length=n->n<=10->∀fs:List (List Int),fs.Nodup->(∀s∈fs,Full r V s)->fs.length<=ff n:=by
 intro n
 induction n using Nat.strongRecOn with
 |ind n ih=>
  intro V hV hn fs nd hf
  by_cases hz:V=[]
  ·have e:∀s∈fs,s=[]:=fun s hs=>by
    cases s with
    |nil=>rfl
    |cons x s=>have:=(hf _ hs).sub x (by simp);rw[hz]at this;cases this
   have l1:fs.length<=1:=by
    match fs,nd,e with
    |[],_,_=>simp
    |[_],_,_=>simp
    |a::b::fs,nd,e=>
     exfalso
     rw[List.nodup_cons]at nd
     apply nd.1
     rw[e a (by simp),e b (by simp)]
     simp
   have:1<=ff n:=by
    have:=ff_mono 0 n (Nat.zero_le _) hn
    exact this
   omega
  obtain⟨v,hv,hmin⟩:=least_at (fun u=>(V.filter (nearTo r u)).length) V hz
  have key:=cover_len (fun(u:Int) (s:List Int)=>decide (u∈s)) (ff (n-(V.filter (nearTo r v)).length)) (V.filter (nearTo r v)) fs (fun s hs=> ?_) (fun u hu gs hg hp=> ?_)
  ·have hle:(V.filter (nearTo r v)).length<=n:=by rw[<-hV];exact List.length_filter_le _ _
   have hpos:0<(V.filter (nearTo r v)).length:=List.length_pos_of_mem (List.mem_filter.mpr ⟨hv,by unfold nearTo;simp⟩)
   exact Nat.le_trans key (ff_step n _ hpos hle hn)
  ·by_cases c:v∈s
   ·exact⟨v,List.mem_filter.mpr ⟨hv,by unfold nearTo;simp⟩,decide_eq_true c⟩
   ·obtain⟨x,hx,hr⟩:=(hf s hs).max v hv c
    exact⟨x,List.mem_filter.mpr ⟨(hf s hs).sub x hx,by unfold nearTo;rw[hr];simp⟩,decide_eq_true hx⟩
  ·have huV:u∈V:=(List.mem_filter.mp hu).1
   have fg:∀s∈gs,Full r V s/\u∈s:=fun s hs=>⟨hf s (hg.subset hs),of_decide_eq_true (hp s hs)⟩
   have hle:(V.filter (nearTo r u)).length<=n:=by rw[<-hV];exact List.length_filter_le _ _
   have hge:=hmin u huV
   have hpos:0<(V.filter (nearTo r u)).length:=List.length_pos_of_mem (List.mem_filter.mpr ⟨huV,by unfold nearTo;simp⟩)
   have hV2:(V.filter fun x=> !nearTo r u x).length=n-(V.filter (nearTo r u)).length:=by have:=filter_two (nearTo r u) V;omega
   have memf:∀(s:List Int) (x:Int),x∈s.filter (fun x=> !decide (x=u))↔x∈s/\x≠u:=fun s x=>by rw[List.mem_filter];simp
   have h1:=ih (n-(V.filter (nearTo r u)).length) (by omega) (V.filter fun x=> !nearTo r u x) hV2 (by omega) (gs.map fun s=>s.filter fun x=> !decide (x=u)) (map_nodup (nd.sublist hg) fun s hs t ht e=> ?_) (fun t ht=> ?_)
   ·rw[List.length_map]at h1
    exact Nat.le_trans h1 (ff_mono _ _ (by omega) (by omega))
   ·obtain⟨a1,a2⟩:=fg s hs
    obtain⟨b1,b2⟩:=fg t ht
    refine up_same a1.up b1.up fun k=> ?_
    have hk:k∈s.filter (fun x=> !decide (x=u))↔k∈t.filter (fun x=> !decide (x=u)):=by rw[show s.filter (fun x=> !decide (x=u))=t.filter (fun x=> !decide (x=u))from e]
    rw[memf,memf]at hk
    by_cases c:k=u
    ·rw[c];exact⟨fun _=>b2,fun _=>a2⟩
    ·exact⟨fun z=>(hk.mp ⟨z,c⟩).1,fun z=>(hk.mpr ⟨z,c⟩).1⟩
   ·obtain⟨s,hs,rfl⟩:=List.mem_map.mp ht
    obtain⟨a1,a2⟩:=fg s hs
    refine⟨a1.up.sublist List.filter_sublist,fun x hx=> ?_,fun x hx y hy=> ?_,fun w hw hn=> ?_⟩
    ·obtain⟨x1,x2⟩:=(memf s x).mp hx
     refine List.mem_filter.mpr ⟨a1.sub x x1,?_⟩
     unfold nearTo
     rw[a1.ind x x1 u a2 x2,decide_eq_false x2]
     rfl
    ·exact a1.ind x ((memf s x).mp hx).1 y ((memf s y).mp hy).1
    ·obtain⟨w1,w2⟩:=List.mem_filter.mp hw
     have w3:nearTo r u w=false:=by simpa using w2
     unfold nearTo at w3
     rw[Bool.or_eq_false_iff]at w3
     have wu:w≠u:=of_decide_eq_false w3.1
     have ws:w∉s:=fun z=>hn ((memf s w).mpr ⟨z,wu⟩)
     obtain⟨x,hx,hr⟩:=a1.max w w1 ws
     have xu:x≠u:=fun z=>by rw[z,sym u w,w3.2]at hr;cases hr
     exact⟨x,(memf s x).mpr ⟨hx,xu⟩,hr⟩
end Hs
namespace Hs
open PySem HsD
theorem mem_rng{n:Nat}{x:Int}:x∈rng n↔0<=x/\x<(n:Int):=by
 unfold rng
 rw[List.mem_map]
 constructor
 ·rintro⟨k,hk,rfl⟩
  have:=List.mem_range.mp hk
  omega
 ·rintro⟨h0,h1⟩
  exact⟨x.toNat,List.mem_range.mpr (by omega),by omega⟩
noncomputable def goB(ts:List (Int×Int))(w:Bool)(s:List Int)(p:Int):Bool:=s.all fun q=>tiedL ts p q==w
noncomputable def setsL(ts:List (Int×Int))(w:Bool):Nat->List (List Int)
 |0=>[[]]
 |k+1=>setsL ts w k++((setsL ts w k).filter fun s=>goB ts w s (k:Int)).map fun s=>s++[(k:Int)]
noncomputable def fullB(ts:List (Int×Int))(w:Bool)(n:Nat)(s:List Int):Bool:= !((rng n).any fun p=> !decide (p∈s)&&goB ts w s p)
noncomputable def fulls(ts:List (Int×Int))(w:Bool)(n:Nat):List (List Int):=(setsL ts w n).filter (fullB ts w n)
structure SetK(ts:List (Int×Int))(w:Bool)(k:Nat)(s:List Int):Prop where
 up:s.Pairwise (· < ·)
 lt:∀x∈s,0<=x/\x<(k:Int)
 all:∀x∈s,∀y∈s,x≠y->(tiedL ts x y==w)=true
theorem sets_k{ts:List (Int×Int)}{w:Bool}:∀(k:Nat) (s:List Int),s∈setsL ts w k->SetK ts w k s
 |0,s,h=>by
  rw[List.mem_singleton.mp (show s∈[[]]from h)]
  exact⟨List.Pairwise.nil,fun x hx=>(nomatch hx),fun x hx=>(nomatch hx)⟩
 |k+1,s,h=>by
  rcases List.mem_append.mp (show s∈setsL ts w k++((setsL ts w k).filter fun s=>goB ts w s (k:Int)).map fun s=>s++[(k:Int)]from h)with q|q
  ·have S:=sets_k k s q
   exact⟨S.up,fun x hx=>by have:=S.lt x hx;omega,S.all⟩
  ·obtain⟨t,ht,rfl⟩:=List.mem_map.mp q
   obtain⟨t1,t2⟩:=List.mem_filter.mp ht
   have S:=sets_k k t t1
   have g:∀y∈t,(tiedL ts (k:Int) y==w)=true:=fun y hy=>List.all_eq_true.mp t2 y hy
   refine⟨?_,fun x hx=> ?_,fun x hx y hy hne=> ?_⟩
   ·rw[List.pairwise_append]
    refine⟨S.up,List.pairwise_singleton _ _,fun x hx y hy=> ?_⟩
    rw[List.mem_singleton.mp hy]
    exact(S.lt x hx).2
   ·rcases List.mem_append.mp hx with z|z
    ·have:=S.lt x z;omega
    ·rw[List.mem_singleton.mp z];omega
   ·rcases List.mem_append.mp hx with z|z
    ·rcases List.mem_append.mp hy with z'|z'
     ·exact S.all x z y z' hne
     ·rw[List.mem_singleton.mp z',zar];exact g x z
    ·rw[List.mem_singleton.mp z]at hne⊢
     rcases List.mem_append.mp hy with z'|z'
     ·exact g y z'
     ·exact absurd (List.mem_singleton.mp z').symm hne
theorem sets_nodup{ts:List (Int×Int)}{w:Bool}:∀k:Nat,(setsL ts w k).Nodup
 |0=>by show([[]]:List (List Int)).Nodup;simp
 |k+1=>by
  show(setsL ts w k++((setsL ts w k).filter fun s=>goB ts w s (k:Int)).map fun s=>s++[(k:Int)]).Nodup
  refine List.nodup_append.mpr ⟨sets_nodup k,map_nodup ((sets_nodup k).filter _) (fun a _ b _ e=>List.append_cancel_right e),fun a ha b hb e=> ?_⟩
  obtain⟨t,_,rfl⟩:=List.mem_map.mp hb
  have:=(sets_k k a ha).lt (k:Int) (by rw[e];simp)
  omega
theorem sets_len{ts:List (Int×Int)}{w:Bool}:∀k:Nat,(setsL ts w k).length<=2^k
 |0=>Nat.le_refl _
 |k+1=>by
  show(setsL ts w k++((setsL ts w k).filter fun s=>goB ts w s (k:Int)).map fun s=>s++[(k:Int)]).length<=2^(k+1)
  rw[List.length_append,List.length_map,Nat.pow_succ]
  have a:=sets_len (ts:=ts) (w:=w) k
  have b:=List.length_filter_le (fun s=>goB ts w s (k:Int)) (setsL ts w k)
  omega
theorem full_of{ts:List (Int×Int)}{w:Bool}{n:Nat}{s:List Int}(h:s∈fulls ts w n):Full (fun i j=> !(tiedL ts i j==w)) (rng n) s:=by
 obtain⟨h1,h2⟩:=List.mem_filter.mp h
 have S:=sets_k n s h1
 refine⟨S.up,fun x hx=>mem_rng.mpr (S.lt x hx),fun x hx y hy hne=>by rw[S.all x hx y hy hne];rfl,fun v hv hn=> ?_⟩
 unfold fullB at h2
 apply Classical.byContradiction
 intro hc
 have h3:((rng n).any fun p=> !decide (p∈s)&&goB ts w s p)=false:=by simpa using h2
 rw[List.any_eq_false]at h3
 apply h3 v hv
 rw[decide_eq_false hn]
 show goB ts w s v=true
 unfold goB
 rw[List.all_eq_true]
 intro q hq
 cases e:(tiedL ts v q==w)with
 |true=>rfl
 |false=>exact absurd ⟨q,hq,by show(!(tiedL ts q v==w))=true;rw[zar,e];rfl⟩ hc
theorem fulls_len{ts:List (Int×Int)}{w:Bool}{n:Nat}(hn:n<=10):(fulls ts w n).length<=36:=by
 have h:=full_count (r:=fun i j=> !(tiedL ts i j==w)) (fun i j=>by rw[zar]) n (rng n) (by unfold rng;simp) hn (fulls ts w n) ((sets_nodup n).filter _) (fun s hs=>full_of hs)
 have:=ff_mono n 10 hn (Nat.le_refl _)
 exact Nat.le_trans h this
noncomputable def leftL(ts:List (Int×Int))(w:Bool)(n:Nat)(s:List Int):List Int:=(rng n).filter fun p=>s.all fun q=> !decide (p=q)&&(tiedL ts q p==w)
noncomputable def friendL(ts:List (Int×Int))(w:Bool)(n:Nat)(q:Int):List Int:=(rng n).filter fun p=> !decide (p=q)&&(tiedL ts q p==w)
theorem left_nil(ts:List (Int×Int))(w:Bool)(n:Nat):leftL ts w n []=rng n:=by unfold leftL;exact List.filter_eq_self.mpr fun _ _=>rfl
theorem left_snoc(ts:List (Int×Int))(w:Bool)(n:Nat)(s:List Int)(k:Int):leftL ts w n (s++[k])=(leftL ts w n s).filter fun p=>decide (p∈friendL ts w n k):=by
 unfold leftL
 rw[List.filter_filter]
 refine List.filter_congr fun p hp=> ?_
 rw[List.all_append,Bool.and_comm]
 congr 1
 unfold friendL
 rw[Bool.eq_iff_iff,decide_eq_true_eq,List.mem_filter]
 simp[hp]
theorem in_left{ts:List (Int×Int)}{w:Bool}{n k:Nat}{s:List Int}(hs:SetK ts w k s)(hk:k<n):decide ((k:Int)∈leftL ts w n s)=goB ts w s (k:Int):=by
 unfold leftL goB
 rw[Bool.eq_iff_iff,decide_eq_true_eq,List.mem_filter,List.all_eq_true,List.all_eq_true]
 constructor
 ·rintro⟨_,h⟩ q hq
  have:=h q hq
  rw[Bool.and_eq_true]at this
  rw[zar];exact this.2
 ·intro h
  refine⟨mem_rng.mpr ⟨by omega,by omega⟩,fun q hq=> ?_⟩
  have:=(hs.lt q hq).2
  rw[Bool.and_eq_true]
  refine⟨?_,by rw[zar];exact h q hq⟩
  rw[decide_eq_false (by omega)];rfl
theorem left_full(ts:List (Int×Int))(w:Bool)(n:Nat)(s:List Int):decide (leftL ts w n s=[])=fullB ts w n s:=by
 unfold leftL fullB
 rw[Bool.eq_iff_iff,decide_eq_true_eq,List.filter_eq_nil_iff,Bool.not_eq_true',List.any_eq_false]
 constructor
 ·intro h p hp hc
  rw[Bool.and_eq_true]at hc
  apply h p hp
  rw[List.all_eq_true]
  intro q hq
  have h1:p∉s:=by simpa using hc.1
  have h2:=List.all_eq_true.mp hc.2 q hq
  rw[Bool.and_eq_true]
  refine⟨?_,by rw[zar];exact h2⟩
  have ne:¬p=q:=fun e=>h1 (by rw[e];exact hq)
  rw[decide_eq_false ne];rfl
 ·intro h p hp hc
  apply h p hp
  rw[List.all_eq_true]at hc
  rw[Bool.and_eq_true]
  refine⟨?_,?_⟩
  ·have:p∉s:=fun z=>by
    have:=hc p z
    simp at this
   rw[decide_eq_false this];rfl
  ·unfold goB
   rw[List.all_eq_true]
   intro q hq
   have:=hc q hq
   rw[Bool.and_eq_true]at this
   rw[zar];exact this.2
theorem lex_one{xs ys:List (List Int)}(h:xs.Perm ys)(hx:xs.Pairwise fun a b=>HT.lexLt b a=false)(hy:ys.Pairwise fun a b=>HT.lexLt b a=false):xs=ys:=by
 refine List.Perm.eq_of_pairwise (le:=fun a b=>HT.lexLt b a=false) (fun a b _ _ h1 h2=> ?_) hx hy h
 rw[HT.lexLt_iff,decide_eq_false_iff_not]at h1 h2
 exact List.le_antisymm (List.not_lt.mp h1) (List.not_lt.mp h2)
end Hs
namespace Hs
open PySem L2 HsD
section
variable{P:Program}{w:World}{K:W.Frag}{mg:Str->Option Value}{base:Heap}
theorem rng_succ(k:Nat):rng (k+1)=rng k++[(k:Int)]:=by unfold rng;rw[List.range_succ,List.map_append];rfl
theorem tupR_rng(n:Nat):tupR n=(rng n).map V.int:=by unfold tupR rng;rw[List.map_map];rfl
noncomputable def spInBoth(K:W.Frag):Sp:=fun vs H Q _=>∃(l m:Addr) (xs ys:List Int),vs=[.ref l,.ref m]/\SqL K H l (xs.map V.int)/\SqL K H m (ys.map V.int)/\∀r H',Same H H'->H' r=some (.lst ((xs.filter fun p=>decide (p∈ys)).map V.int))->H r=none->Q (.ref r) H'
theorem sc_inBoth:FnScope ["ones","others"] ["ones","others"] (defScope zdk):=⟨rfl,rfl,rfl,by decide+kernel,rfl,by decide+kernel,by decide+kernel⟩
theorem ok_inBoth{f:Addr}{fd:FuncData}(F:Fun K "in_both" "in_both" zdk f fd):
  FnOk P w K mg base CX0 1 f fd ["ones","others"] (spInBoth K):=by
 refine F.ok sc_inBoth (fun vs H Q E h=> ?_) (fun cdv A outer s H vs Q E hr h=> ?_)
 ·obtain⟨l,m,xs,ys,rfl,_⟩:=h
  rfl
 obtain⟨l,m,xs,ys,rfl,hL,hM,q⟩:=h
 refine⟨_,(zah (zal (zbo (own:=["place"]) (caps:=["others"]) (ix:=[1]) rfl (zdc (pv 0)) rfl rfl (.cons rfl rfl .nil) (fun _ _ _ _ _=>(zaj (i:=0) (show(["place","others"]:List Str).Nodup from by decide+kernel) rfl (Or.inl rfl))) (fun _ _ _ _ _=>zcr (zam (op_inDK K hr.units) (pv 0) (pv 1) (by with_unfolding_all rfl))) (fun _ _ _ _ _=>(pv 0))))),?_⟩
 refine⟨_,rfl,l,_,rfl,hL,fun hz=> ?_⟩
 refine zde (xs:=xs.map V.int) (fun k acc σ H'=>acc=((xs.take k).filter fun p=>decide (p∈ys)).map V.int/\Same H H'/\∃o,σ=[o,some (.ref m)]) ⟨rfl,Same.refl _,_,rfl⟩ (fun k acc σ H' _ p=>p.2.1.seq hL) (fun k acc σ H' hk p=> ?_) hz (fun k x acc σ H' hx p=> ?_) (fun acc σ H' p=> ?_)
 ·rw[p.1,List.length_map]
  exact Nat.le_trans (List.length_filter_le _ _) (by rw[List.length_take];exact Nat.min_le_left _ _)
 ·obtain⟨rfl,sm,o,rfl⟩:=p
  rw[List.getElem?_map]at hx
  cases ex:xs[k]? with
  |none=>rw[ex]at hx;cases hx
  |some y=>
   rw[ex]at hx
   cases hx
   obtain⟨hk,ey⟩:=List.getElem?_eq_some_iff.mp ex
   have e:=zbh (p:=fun p=>decide (p∈ys)) hk
   rw[ey]at e
   refine⟨_,rfl,_,rfl,m,_,_,.int y,rfl,.inl (sm.seq hM),DVs.ints ys,.int _,lay_ints ys,rfl,(by show 0<=60;decide),_,rfl,?_⟩
   rw[any_ints]
   refine ite2 (fun c=> ?_) (fun c=> ?_)
   ·exact⟨_,rfl,by rw[e,if_pos c,List.map_append];rfl,sm,_,rfl⟩
   ·exact⟨by rw[e,if_neg c,List.append_nil],sm,_,rfl⟩
 ·intro p1 hp1
  obtain⟨rfl,sm,_⟩:=p
  rw[List.length_map,List.take_length]
  exact q p1 _ (sm.trans (zad hp1 _)) zac (sm.free hp1)
noncomputable def spByTie(K:W.Frag):Sp:=fun vs H Q _=>∃(a:Addr) (n i:Int) (ts:List (Int×Int)) (w:Bool),vs=[.ref a,.int i,.bl w]/\WebIs K H a n ts/\∀r H',Same H H'->H' r=some (.lst ((friendL ts w n.toNat i).map V.int))->H r=none->Q (.ref r) H'
theorem sc_byTie:FnScope ["web","place","tied"] ["web","place","tied"] (defScope zbk):=⟨rfl,rfl,rfl,by decide+kernel,rfl,by decide+kernel,by decide+kernel⟩
theorem ok_byTie{f f1:Addr}{fd d1:FuncData}(F:Fun K "places_by_tie" "places_by_tie" zbk f fd)(D1:Dfn K mg "has_tie" zcd ["web","one","other"] f1 d1)(G1:FnOk P w K mg base CX0 1 f1 d1 ["web","one","other"] (spHas K))(m_range:mg "range"=none):
  FnOk P w K mg base CX0 2 f fd ["web","place","tied"] (spByTie K):=by
 refine F.ok sc_byTie (fun vs H Q E h=> ?_) (fun cdv A outer s H vs Q E hr h=> ?_)
 ·obtain⟨a,n,i,ts,w,rfl,_⟩:=h
  rfl
 obtain⟨a,n,i,ts,w,rfl,hA,q⟩:=h
 refine⟨_,(zah (zal (zbo (own:=["other"]) (caps:=["place","web","tied"]) (ix:=[1,0,2]) rfl (zba rfl m_range (zaa (zan zaw (pv 0) zag (fun _ _=>rfl)) zab)) rfl rfl (.cons rfl rfl (.cons rfl rfl (.cons rfl rfl .nil))) (fun _ _ _ _ _=>(zaj (i:=0) (show(["other","place","web","tied"]:List Str).Nodup from by decide+kernel) rfl (Or.inl rfl))) (fun _ _ _ _ _=>zcr (PW.pt (pw_and (zam op_ne (pv 0) (pv 1) (nomark _)) (pw_and1 (zam op_eq (zaf G1 hr rfl D1.m D1.F.kp D1.b .nil pass0 (zaa (pv 2) (zaa (pv 1) (zaa (pv 0) zab)))) (pv 3) (nomark _)))))) (fun _ _ _ _ _=>(pv 0))))),?_⟩
 have h0:=hA.h0
 have h10:=hA.h1
 obtain⟨ta,ra,a1,a2,a3⟩:=id hA.web
 refine⟨_,rfl,a,_,_,.int n,rfl,rfl,a1,rfl,n,rfl,by omega,by omega,?_⟩
 refine zbu (n:=n.toNat) (fun k acc σ H'=>acc=((rng k).filter fun p=> !decide (p=i)&&(tiedL ts i p==w)).map V.int/\Same H H'/\∃o,σ=[o,some (.int i),some (.ref a),some (.bl w)]) ⟨rfl,Same.refl _,_,rfl⟩ (fun k acc σ H' hk p=> ?_) (by rw[sizeLine_eq];omega) (fun k acc σ H' hk p=> ?_) (fun acc σ H' p=> ?_)
 ·rw[p.1,List.length_map]
  exact Nat.le_trans (List.length_filter_le _ _) (by unfold rng;simp)
 ·obtain⟨rfl,sm,o,rfl⟩:=p
  have ek:(0+(k:Int))=(k:Int):=by omega
  rw[ek]
  have e:∀b,b=(!decide ((k:Int)=i)&&(tiedL ts i (k:Int)==w))->((rng (k+1)).filter fun p=> !decide (p=i)&&(tiedL ts i p==w))=((rng k).filter fun p=> !decide (p=i)&&(tiedL ts i p==w))++(if b=true then[(k:Int)]else[]):=fun b hb=>by
   rw[rng_succ,List.filter_append,List.filter_cons,hb];rfl
  refine⟨_,rfl,_,rfl,rfl,_,rfl,?_⟩
  rw[intV_ne]
  refine ite2 (fun c=> ?_) (fun c=> ?_)
  ·refine⟨_,rfl,_,rfl,_,rfl,a,n,_,_,ts,rfl,(hA.same sm).web,fun H5 s5=>⟨_,rfl,rfl,_,rfl,?_⟩⟩
   rw[blV_eq,tied_eq hA.pk]
   refine ite2 (fun c2=> ?_) (fun c2=> ?_)
   ·exact⟨_,rfl,by rw[e true (by rw[c,c2];rfl),List.map_append];rfl,sm.trans s5,_,rfl⟩
   ·exact⟨by rw[e false (by rw[c,Bool.eq_false_iff.mpr c2];rfl)];simp,sm.trans s5,_,rfl⟩
  ·exact⟨by rw[e false (by rw[Bool.eq_false_iff.mpr c];rfl)];simp,sm,_,rfl⟩
 ·intro p1 hp1
  obtain⟨rfl,sm,_⟩:=p
  exact q p1 _ (sm.trans (zad hp1 _)) zac (sm.free hp1)
end
end Hs
namespace Hs
open PySem L2 HsD
section
variable{P:Program}{w:World}{K:W.Frag}{mg:Str->Option Value}{base:Heap}
noncomputable def SetsAt(K:W.Frag)(H:Hp)(r:Addr)(ss:List (List Int)):Prop:=∃its:List (Addr×List Int),H r=some (.lst (its.map fun p=>V.ref p.1))/\(∀p∈its,SqT K H p.1 (p.2.map V.int))/\its.map (fun p=>p.2)=ss
theorem SetsAt.same{H H':Hp}{r:Addr}{ss:List (List Int)}(h:SetsAt K H r ss)(e:Same H H'):SetsAt K H' r ss:=by
 obtain⟨its,h1,h2,h3⟩:=h
 exact⟨its,e _ _ h1,fun p hp=>e.tup (h2 p hp),h3⟩
noncomputable def SortedF(ss:List (List Int))(ts:List (Int×Int))(w:Bool)(n:Nat):Prop:=ss.Perm (fulls ts w n)/\ss.Pairwise fun a b=>HT.lexLt b a=false
theorem full_ne{ts:List (Int×Int)}{w:Bool}{n:Nat}(h2:2<=(fulls ts w n).length):∀s∈fulls ts w n,s≠[]:=by
 intro s hs e
 subst e
 have F:=full_of hs
 cases n with
 |zero=>
  have:(fulls ts w 0).length<=1:=by
   show(([[]]:List (List Int)).filter (fullB ts w 0)).length<=1
   exact List.length_filter_le _ _
  omega
 |succ n=>
  obtain⟨x,hx,_⟩:=F.max 0 (mem_rng.mpr ⟨by omega,by omega⟩) (by simp)
  cases hx
structure Fit(K:W.Frag)(H:Hp)(ts:List (Int×Int))(w:Bool)(n:Nat)(q:Addr×Addr×Addr×List Int):Prop where
 pr:SqT K H q.1 [.ref q.2.1,.ref q.2.2.1]
 so:SqT K H q.2.1 (q.2.2.2.map V.int)
 le:H q.2.2.1=some (.lst ((leftL ts w n q.2.2.2).map V.int))
theorem Fit.same{H H':Hp}{ts:List (Int×Int)}{w:Bool}{n:Nat}{q:Addr×Addr×Addr×List Int}(h:Fit K H ts w n q)(e:Same H H'):Fit K H' ts w n q:=⟨e.tup h.pr,e.tup h.so,e _ _ h.le⟩
noncomputable def FoundV(K:W.Frag)(H:Hp)(fd:Addr)(ts:List (Int×Int))(w:Bool)(n:Nat)(ss:List (List Int)):Prop:=∃its:List (Addr×Addr×Addr×List Int),H fd=some (.lst (its.map fun q=>V.ref q.1))/\(∀q∈its,Fit K H ts w n q)/\its.map (fun q=>q.2.2.2)=ss
theorem FoundV.same{H H':Hp}{fd:Addr}{ts:List (Int×Int)}{w:Bool}{n:Nat}{ss:List (List Int)}(h:FoundV K H fd ts w n ss)(e:Same H H'):FoundV K H' fd ts w n ss:=by
 obtain⟨its,h1,h2,h3⟩:=h
 exact⟨its,e _ _ h1,fun q hq=>(h2 q hq).same e,h3⟩
noncomputable def spFullSets(K:W.Frag):Sp:=fun vs H Q _=>∃(fl:Addr) (fas:List Addr) (ts:List (Int×Int)) (w:Bool) (n:Nat),vs=[.ref fl]/\H fl=some (.lst (fas.map V.ref))/\fas.length=n/\n<=10/\(∀(i:Nat) f,fas[i]? =some f->H f=some (.lst ((friendL ts w n (i:Int)).map V.int)))/\
 ∀r ss H',Same H H'->SetsAt K H' r ss->SortedF ss ts w n->H r=none->Q (.ref r) H'
theorem sc_fullSets:FnScope ["friends","found","place","wider"] ["friends"] (defScope zcm):=⟨rfl,rfl,rfl,by decide+kernel,rfl,by decide+kernel,by decide+kernel⟩
theorem ok_fullSets{f f1:Addr}{fd d1:FuncData}(F:Fun K "full_sets" "full_sets" zcm f fd)(D1:Dfn K mg "in_both" zdk ["ones","others"] f1 d1)(G1:FnOk P w K mg base CX0 1 f1 d1 ["ones","others"] (spInBoth K))(m_list:mg "list"=none)(m_range:mg "range"=none)(m_len:mg "len"=none)(m_sorted:mg "sorted"=none):
  FnOk P w K mg base CX0 2 f fd ["friends"] (spFullSets K):=by
 refine F.ok sc_fullSets (fun vs H Q E h=> ?_) (fun cdv A outer s H vs Q E hr h=> ?_)
 ·obtain⟨fl,fas,ts,w,n,rfl,_⟩:=h
  rfl
 obtain⟨fl,fas,ts,w,n,rfl,hF,hn,h10,hfr,q⟩:=h
 refine⟨_,(zae (zas (i:=1) sc_fullSets.nd rfl (Or.inl rfl) (pe_lst (zaa (zck (zaa (zck zab) (zaa (pe_lstRange rfl rfl m_list rfl m_range (zaa (zai zao rfl m_len PySem.boot_len (zaa (pv 0) zab)) zab)) zab))) zab))) (zae (ps_for PassesOwn.never rfl (zba rfl m_range (zaa (zai zao rfl m_len PySem.boot_len (zaa (pv 0) zab)) zab)) (zaj (i:=2) sc_fullSets.nd rfl (Or.inr rfl)) (zae (zdh (i:=3) (own:=["some","left"]) (caps:=["place","friends"]) (ix:=[2,0]) sc_fullSets.nd rfl (Or.inl rfl) rfl (zdc (pv 1)) rfl rfl (.cons rfl rfl (.cons rfl rfl .nil)) (fun _ _ _ _ _=>(pg_tupK K (n:=2) rfl (zcc (zaj (i:=0) (show(["some","left","place","friends"]:List Str).Nodup from by decide+kernel) rfl (Or.inl rfl)) (zcc (zaj (i:=1) (show(["some","left","place","friends"]:List Str).Nodup from by decide+kernel) rfl (Or.inl rfl)) pgs_nil)))) (fun _ _ _ _ _=>zcr (zam (op_inDK K hr.units) (pv 2) (pv 1) (by with_unfolding_all rfl))) (fun _ _ _ _ _=>(zck (zaa (zbb (op_catEK K) (pv 0) (zck (zaa (pv 2) zab))) (zaa (zaf G1 hr rfl D1.m D1.F.kp D1.b .nil pass0 (zaa (pv 1) (zaa (zan (ix_listK K) (pv 3) (pv 2) (fun _ _=>rfl)) zab))) zab))))) (zah (zas (i:=1) sc_fullSets.nd rfl (Or.inl rfl) (zbb op_cat (pv 1) (pv 3)))))) (zah (zal (zai call_sortedE rfl m_sorted (by decide+kernel) (zaa (zbo (own:=["some","left"]) (caps:=[]) (ix:=[]) rfl (zdc (pv 1)) rfl rfl .nil (fun _ _ _ _ _=>(pg_tupK K (n:=2) rfl (zcc (zaj (i:=0) (show(["some","left"]:List Str).Nodup from by decide+kernel) rfl (Or.inl rfl)) (zcc (zaj (i:=1) (show(["some","left"]:List Str).Nodup from by decide+kernel) rfl (Or.inl rfl)) pgs_nil)))) (fun _ _ _ _ _=>zcr (pt_not (pt_truthK K (pv 1) (fun _=>rfl)))) (fun _ _ _ _ _=>(pv 0))) zab)))))),?_⟩
 have el:((fas.map V.ref).length:Int)=(n:Int):=by rw[List.length_map,hn]
 refine⟨(by show 0<=sizeLine;decide),fun e1 he1=> ?_⟩
 have s1:=zad he1 (.tup [])
 have t1:SqT K (upd H e1 (.tup [])) e1 []:=SqT.of zac
 generalize (upd H e1 (.tup []))=H1 at *
 refine⟨_,rfl,fl,_,rfl,.inl (SqL.of (s1 _ _ hF)),fun _=>⟨_,rfl,by omega,by rw[el];omega,fun rl hrl=> ?_⟩⟩
 have er:tupR ((fas.map V.ref).length:Int).toNat=(rng n).map V.int:=by rw[el,Int.toNat_natCast,tupR_rng]
 rw[er]
 have s2:=zad hrl (.lst ((rng n).map V.int))
 have t2:(upd H1 rl (.lst ((rng n).map V.int))) rl=some (.lst ((rng n).map V.int)):=zac
 generalize (upd H1 rl (.lst ((rng n).map V.int)))=H2 at *
 refine⟨(by show 2<=sizeLine;decide),fun e3 he3=> ?_⟩
 have s3:=zad he3 (.tup [.ref e1,.ref rl])
 have t3:SqT K (upd H2 e3 (.tup [.ref e1,.ref rl])) e3 [.ref e1,.ref rl]:=SqT.of zac
 generalize (upd H2 e3 (.tup [.ref e1,.ref rl]))=H3 at *
 refine⟨(by show 1<=sizeLine;decide),fun fd hfd=> ?_⟩
 have s4:=zad hfd (.lst [.ref e3])
 have F4:FoundV K (upd H3 fd (.lst [.ref e3])) fd ts w n (setsL ts w 0):=by
  refine⟨[(e3,e1,rl,[])],zac,fun q hq=> ?_,rfl⟩
  rw[List.mem_singleton.mp hq]
  exact⟨s4.tup t3,s4.tup (s3.tup (s2.tup t1)),by rw[left_nil];exact s4 _ _ (s3 _ _ t2)⟩
 have s04:=s1.trans (s2.trans (s3.trans s4))
 generalize (upd H3 fd (.lst [.ref e3]))=H4 at *
 refine⟨_,rfl,fl,_,rfl,.inl (SqL.of (s04 _ _ hF)),fun _=>⟨_,rfl,by omega,by rw[el];omega,?_⟩⟩
 have en:((fas.map V.ref).length:Int).toNat=n:=by rw[el,Int.toNat_natCast]
 rw[en]
 refine for_range (n:=n) (fun k σ H'=>Same H H'/\∃fd b2 b3,FoundV K H' fd ts w n (setsL ts w k)/\σ=[some (.ref fl),some (.ref fd),b2,b3]) ⟨s04,fd,_,_,F4,rfl⟩ (fun k σ H' hk p=> ?_) (fun σ H' p=> ?_)
 ·obtain⟨s5,fd,b2,b3,F5,rfl⟩:=p
  have ek:(0+(k:Int))=(k:Int):=by omega
  rw[ek]
  obtain⟨its,f1,f2,f3⟩:=F5
  have hlen:its.length<=1024:=by
   have a:=sets_len (ts:=ts) (w:=w) k
   rw[<-f3,List.length_map]at a
   have b:2^k<=2^10:=Nat.pow_le_pow_right (by decide) (by omega)
   have c:2^10=1024:=by decide
   omega
  have hkf:k<fas.length:=by omega
  have hfk:(fas.map V.ref)[k]? =some (.ref fas[k]):=by rw[List.getElem?_map,List.getElem?_eq_getElem hkf];rfl
  have hgk:=hfr k fas[k] (List.getElem?_eq_getElem hkf)
  refine⟨_,rfl,fd,_,rfl,SqL.of f1,fun hzf=> ?_⟩
  refine zde (xs:=its.map fun q=>V.ref q.1) (fun i acc σ H''=>(∃its2:List (Addr×Addr×Addr×List Int),acc=its2.map (fun q=>V.ref q.1)/\(∀q∈its2,Fit K H'' ts w n q)/\its2.map (fun q=>q.2.2.2)=(((setsL ts w k).take i).filter fun s=>goB ts w s (k:Int)).map fun s=>s++[(k:Int)])/\Same H' H''/\∃o1 o2,σ=[o1,o2,some (.int (k:Int)),some (.ref fl)]) ⟨⟨[],rfl,fun q hq=>(nomatch hq),rfl⟩,Same.refl _,_,_,rfl⟩ (fun i acc σ H'' _ p=>p.2.1.seq (SqL.of f1)) (fun i acc σ H'' hi p=> ?_) hzf (fun i x acc σ H'' hx p=> ?_) (fun acc σ H'' p=> ?_)
  ·obtain⟨⟨its2,rfl,g2,g3⟩,_⟩:=p
   have a:=congrArg List.length g3
   rw[List.length_map,List.length_map]at a
   rw[List.length_map,a]
   exact Nat.le_trans (List.length_filter_le _ _) (by rw[List.length_take];exact Nat.min_le_left _ _)
  ·obtain⟨⟨its2,rfl,g2,g3⟩,sm,o1,o2,rfl⟩:=p
   rw[List.getElem?_map]at hx
   cases ex:its[i]? with
   |none=>rw[ex]at hx;cases hx
   |some v=>
    rw[ex]at hx
    cases hx
    have fv:=(f2 v (List.mem_of_getElem? ex)).same sm
    have hsv:(setsL ts w k)[i]? =some v.2.2.2:=by rw[<-f3,List.getElem?_map,ex];rfl
    obtain⟨hi,esv⟩:=List.getElem?_eq_some_iff.mp hsv
    have Sv:=sets_k k v.2.2.2 (List.mem_of_getElem? hsv)
    have e:=zbh (p:=fun s=>goB ts w s (k:Int)) hi
    rw[esv]at e
    refine⟨v.1,_,rfl,fv.pr,rfl,_,_,rfl,_,_,rfl,rfl,?_⟩
    refine⟨_,rfl,_,rfl,v.2.2.1,_,_,.int (k:Int),rfl,.inl (SqL.of fv.le),DVs.ints _,.int _,lay_ints _,rfl,(by show 0<=60;decide),_,rfl,?_⟩
    rw[any_ints,in_left Sv hk]
    refine ite2 (fun c=> ?_) (fun c=> ?_)
    ·refine⟨_,rfl,_,rfl,(by show 1<=sizeLine;decide),fun e5 he5=> ?_⟩
     have s6:=zad he5 (.tup [.int (k:Int)])
     have t6:SqT K (upd H'' e5 (.tup [.int (k:Int)])) e5 [.int (k:Int)]:=SqT.of zac
     generalize (upd H'' e5 (.tup [.int (k:Int)]))=H6 at *
     have hvl:v.2.2.2.length<=10:=by
      have a:=zdd (l:=v.2.2.2) (m:=rng n) (Sv.up.imp fun{x y} h=>by omega) (fun x hx=>mem_rng.mpr (by have:=Sv.lt x hx;omega))
      have b:(rng n).length=n:=by unfold rng;simp
      omega
     refine⟨v.2.1,e5,_,_,rfl,rfl,s6.tup fv.so,t6,(by rw[List.length_map,sizeLine_eq];show v.2.2.2.length+1<=_;omega),fun r7 H7 s7 h7=> ?_⟩
     have s67:=s6.trans s7
     refine⟨_,rfl,_,rfl,_,rfl,fl,_,_,.ref fas[k],rfl,rfl,SqL.of ((s5.trans (sm.trans s67)) _ _ hF),atI_nat hfk,v.2.2.1,fas[k],_,_,rfl,SqL.of (s67 _ _ fv.le),SqL.of ((s5.trans (sm.trans s67)) _ _ hgk),fun r8 H8 s8 h8 n8=> ?_⟩
     refine⟨(by show 2<=sizeLine;decide),fun e9 he9=> ?_⟩
     have s9:=zad he9 (.tup [.ref r7,.ref r8])
     have s69:=s67.trans (s8.trans s9)
     refine⟨⟨its2++[(e9,r7,r8,v.2.2.2++[(k:Int)])],by rw[List.map_append];rfl,fun q hq=> ?_,by rw[List.map_append,g3,e,if_pos c,List.map_append];rfl⟩,sm.trans s69,_,_,rfl⟩
     rcases List.mem_append.mp hq with z|z
     ·exact(g2 q z).same s69
     ·rw[List.mem_singleton.mp z]
      refine⟨SqT.of zac,s9.tup (s8.tup ?_),by rw[left_snoc];exact s9 _ _ h8⟩
      rw[List.map_append];exact h7
    ·exact⟨⟨its2,rfl,g2,by rw[g3,e,if_neg c,List.append_nil]⟩,sm,_,_,rfl⟩
  ·intro p1 hp1
   obtain⟨⟨its2,rfl,g2,g3⟩,sm,o1,o2,rfl⟩:=p
   have hle:(its.map fun q=>V.ref q.1).length=(setsL ts w k).length:=by rw[List.length_map,<-f3,List.length_map]
   rw[hle,List.take_length]at g3
   have s6:=zad hp1 (.lst (its2.map fun q=>V.ref q.1))
   have l2:its2.length<=1024:=by
    have a:=congrArg List.length g3
    rw[List.length_map,List.length_map]at a
    have b:=List.length_filter_le (fun s=>goB ts w s (k:Int)) (setsL ts w k)
    rw[<-f3,List.length_map]at b
    rw[<-f3]at a
    omega
   refine⟨_,rfl,_,rfl,fd,p1,_,_,rfl,rfl,(sm.trans s6) _ _ f1,zac,by rw[List.length_map,List.length_map,sizeLine_eq];omega,fun p2 hp2=> ?_⟩
   have s7:=zad hp2 (.lst ((its.map fun q=>V.ref q.1)++(its2.map fun q=>V.ref q.1)))
   refine⟨s5.trans (sm.trans (s6.trans s7)),p2,_,_,⟨its++its2,by rw[zac,List.map_append],fun q hq=> ?_,by rw[List.map_append,f3,g3];rfl⟩,rfl⟩
   rcases List.mem_append.mp hq with z|z
   ·exact(f2 q z).same (sm.trans (s6.trans s7))
   ·exact(g2 q z).same (s6.trans s7)
 ·obtain⟨s5,fd,b2,b3,⟨its,f1,f2,f3⟩,rfl⟩:=p
  refine⟨_,rfl,fd,_,rfl,SqL.of f1,fun hzf=> ?_⟩
  refine zde (xs:=its.map fun q=>V.ref q.1) (fun i acc σ H''=>(∃its2:List (Addr×List Int),acc=its2.map (fun q=>V.ref q.1)/\(∀q∈its2,SqT K H' q.1 (q.2.map V.int))/\its2.map (fun q=>q.2)=((setsL ts w n).take i).filter (fullB ts w n))/\Same H' H''/\∃o1 o2,σ=[o1,o2]) ⟨⟨[],rfl,fun q hq=>(nomatch hq),rfl⟩,Same.refl _,_,_,rfl⟩ (fun i acc σ H'' _ p=>p.2.1.seq (SqL.of f1)) (fun i acc σ H'' hi p=> ?_) hzf (fun i x acc σ H'' hx p=> ?_) (fun acc σ H'' p=> ?_)
  ·obtain⟨⟨its2,rfl,g2,g3⟩,_⟩:=p
   have a:=congrArg List.length g3
   rw[List.length_map]at a
   rw[List.length_map,a]
   exact Nat.le_trans (List.length_filter_le _ _) (by rw[List.length_take];exact Nat.min_le_left _ _)
  ·obtain⟨⟨its2,rfl,g2,g3⟩,sm,o1,o2,rfl⟩:=p
   rw[List.getElem?_map]at hx
   cases ex:its[i]? with
   |none=>rw[ex]at hx;cases hx
   |some v=>
    rw[ex]at hx
    cases hx
    have fv:=f2 v (List.mem_of_getElem? ex)
    have hsv:(setsL ts w n)[i]? =some v.2.2.2:=by rw[<-f3,List.getElem?_map,ex];rfl
    obtain⟨hi,esv⟩:=List.getElem?_eq_some_iff.mp hsv
    have e:=zbh (p:=fullB ts w n) hi
    rw[esv]at e
    refine⟨v.1,_,rfl,sm.tup fv.pr,rfl,_,_,rfl,_,_,rfl,rfl,?_⟩
    refine⟨_,rfl,_,.inl ⟨_,SqL.of (sm _ _ fv.le),rfl⟩,?_⟩
    have eb:(!!((leftL ts w n v.2.2.2).map V.int).isEmpty)=fullB ts w n v.2.2.2:=by
     rw[Bool.not_not,<-left_full]
     cases leftL ts w n v.2.2.2<;>rfl
    dsimp only
    rw[eb]
    refine ite2 (fun c=> ?_) (fun c=> ?_)
    ·refine⟨_,rfl,⟨its2++[(v.2.1,v.2.2.2)],by rw[List.map_append];rfl,fun q hq=> ?_,by rw[List.map_append,g3,e,if_pos c];rfl⟩,sm,_,_,rfl⟩
     rcases List.mem_append.mp hq with z|z
     ·exact g2 q z
     ·rw[List.mem_singleton.mp z];exact fv.so
    ·exact⟨⟨its2,rfl,g2,by rw[g3,e,if_neg c,List.append_nil]⟩,sm,_,_,rfl⟩
  ·intro p1 hp1
   obtain⟨⟨its2,rfl,g2,g3⟩,sm,_⟩:=p
   have hle:(its.map fun q=>V.ref q.1).length=(setsL ts w n).length:=by rw[List.length_map,<-f3,List.length_map]
   rw[hle,List.take_length]at g3
   have g4:its2.map (fun q=>q.2)=fulls ts w n:=g3
   have hl2:its2.length=(fulls ts w n).length:=by rw[<-g4,List.length_map]
   have h36:=fulls_len (ts:=ts) (w:=w) h10
   have s6:=zad hp1 (.lst (its2.map fun q=>V.ref q.1))
   refine⟨p1,its2,rfl,SqL.of zac,fun p hp=>⟨(sm.trans s6).tup (g2 p hp),fun h2=> ?_⟩,by omega,fun l its' hl hpm hpw=> ?_⟩
   ·exact full_ne (ts:=ts) (w:=w) (n:=n) (by omega) p.2 (by rw[<-g4];exact List.mem_map.mpr ⟨p,hp,rfl⟩)
   ·have s7:=zad hl (.lst (its'.map fun q=>V.ref q.1))
    have s57:=s5.trans (sm.trans (s6.trans s7))
    refine q l (its'.map fun q=>q.2) _ s57 ⟨its',zac,fun p hp=>(sm.trans (s6.trans s7)).tup (g2 p (hpm.mem_iff.mp hp)),rfl⟩ ⟨?_,?_⟩ ((s5.trans (sm.trans s6)).free hl)
    ·rw[<-g4];exact hpm.map _
    ·rw[List.pairwise_map];exact hpw
end
end Hs
namespace Hs
open PySem L2 HsD
section
variable{P:Program}{w:World}{K:W.Frag}{mg:Str->Option Value}{base:Heap}
theorem WebIs.samex{H H':Hp}{t a:Addr}{zs:List V}{n:Int}{ts:List (Int×Int)}(h:WebIs K H a n ts)(e:SameX t H H')(hn:H t=some (.lst zs)):WebIs K H' a n ts:=⟨h.web.samex e hn,h.h0,h.h1,h.pk,h.ok⟩
noncomputable def spFullCrowds(K:W.Frag):Sp:=fun vs H Q _=>∃(a:Addr) (n:Int) (ts:List (Int×Int)),vs=[.ref a]/\WebIs K H a n ts/\∀r ss H',Same H H'->SetsAt K H' r ss->SortedF ss ts true n.toNat->H r=none->Q (.ref r) H'
theorem sc_fullCrowds:FnScope ["web"] ["web"] (defScope zbz):=⟨rfl,rfl,rfl,by decide+kernel,rfl,by decide+kernel,by decide+kernel⟩
theorem ok_fullCrowds{f f1 f2 f3:Addr}{fd d1 d2 d3:FuncData}(F:Fun K "full_crowds" "full_crowds" zbz f fd)(D1:Dfn K mg "need_web" zbi ["thing"] f1 d1)(G1:FnOk P w K mg base CX0 7 f1 d1 ["thing"] (spNeedWeb K))(D2:Dfn K mg "full_sets" zcm ["friends"] f2 d2)(G2':FnOk P w K mg base CX0 2 f2 d2 ["friends"] (spFullSets K))(D3:Dfn K mg "places_by_tie" zbk ["web","place","tied"] f3 d3)(G3':FnOk P w K mg base CX0 2 f3 d3 ["web","place","tied"] (spByTie K))(m_range:mg "range"=none):
  FnOk P w K mg base CX0 8 f fd ["web"] (spFullCrowds K):=by
 have G2:FnOk P w K mg base CX0 7 f2 d2 ["friends"] (spFullSets K):=G2'.mono (by decide)
 have G3:FnOk P w K mg base CX0 7 f3 d3 ["web","place","tied"] (spByTie K):=G3'.mono (by decide)
 refine F.ok sc_fullCrowds (fun vs H Q E h=> ?_) (fun cdv A outer s H vs Q E hr h=> ?_)
 ·obtain⟨a,n,ts,rfl,_⟩:=h
  rfl
 obtain⟨a,n,ts,rfl,hA,q⟩:=h
 refine⟨_,(zae (zcb (zaf G1 hr rfl D1.m D1.F.kp D1.b .nil pass0 (zaa (pv 0) zab))) (zah (zal (zaf G2 hr rfl D2.m D2.F.kp D2.b .nil pass0 (zaa (zbo (own:=["place"]) (caps:=["web"]) (ix:=[0]) rfl (zba rfl m_range (zaa (zan zaw (pv 0) zag (fun _ _=>rfl)) zab)) rfl rfl (.cons rfl rfl .nil) (fun _ _ _ _ _=>(zaj (i:=0) (show(["place","web"]:List Str).Nodup from by decide+kernel) rfl (Or.inl rfl))) (fun _ _ _ _ _=>zcn) (fun _ _ _ _ _=>(zaf G3 hr rfl D3.m D3.F.kp D3.b .nil pass0 (zaa (pv 1) (zaa (pv 0) (zaa pe_bl zab)))))) zab))))),?_⟩
 have h0:=hA.h0
 have h10:=hA.h1
 refine⟨_,rfl,_,_,rfl,hA.web.dv.dx,hA.ok,fun H1 s1=> ?_⟩
 have hA1:=hA.same s1
 obtain⟨ta,ra,a1,a2,a3⟩:=id hA1.web
 refine⟨_,rfl,a,_,_,.int n,rfl,rfl,a1,rfl,n,rfl,by omega,by omega,?_⟩
 refine zbu (n:=n.toNat) (fun k acc σ H'=>(∃fas:List Addr,acc=fas.map V.ref/\fas.length=k/\∀(i:Nat) f,fas[i]? =some f->H' f=some (.lst ((friendL ts true n.toNat (i:Int)).map V.int)))/\Same H1 H'/\∃o,σ=[o,some (.ref a)]) ⟨⟨[],rfl,rfl,fun i f h=>by simp at h⟩,Same.refl _,_,rfl⟩ (fun k acc σ H' hk p=> ?_) (by rw[sizeLine_eq];omega) (fun k acc σ H' hk p=> ?_) (fun acc σ H' p=> ?_)
 ·obtain⟨⟨fas,rfl,hl,_⟩,_⟩:=p
  rw[List.length_map];omega
 ·obtain⟨⟨fas,rfl,hl,hf⟩,sm,o,rfl⟩:=p
  have ek:(0+(k:Int))=(k:Int):=by omega
  rw[ek]
  refine⟨_,rfl,_,rfl,a,n,_,ts,true,rfl,hA1.same sm,fun r H5 s5 h5 n5=>⟨⟨fas++[r],by rw[List.map_append];rfl,by rw[List.length_append,hl];rfl,fun i f hi=> ?_⟩,sm.trans s5,_,rfl⟩⟩
  by_cases c:i<fas.length
  ·rw[List.getElem?_append_left c]at hi
   exact s5 _ _ (hf i f hi)
  ·have hb:i<(fas++[r]).length:=(List.getElem?_eq_some_iff.mp hi).1
   rw[List.length_append]at hb
   have e:i=fas.length:=by have:[r].length=1:=rfl;omega
   rw[e,List.getElem?_append_right (Nat.le_refl _),Nat.sub_self]at hi
   cases hi
   rw[e,hl];exact h5
 ·intro p1 hp1
  obtain⟨⟨fas,rfl,hl,hf⟩,sm,_⟩:=p
  have s6:=zad hp1 (.lst (fas.map V.ref))
  exact⟨p1,fas,ts,true,n.toNat,rfl,zac,hl,by omega,fun i f hi=>s6 _ _ (hf i f hi),fun r ss H7 s7 h7 h8 n7=>q r ss H7 (s1.trans (sm.trans (s6.trans s7))) h7 h8 ((s1.trans (sm.trans s6)).free n7)⟩
noncomputable def greed(ts:List (Int×Int))(w:Bool):Nat->List Int
 |0=>[]
 |k+1=>if goB ts w (greed ts w k) (k:Int)=true then greed ts w k++[(k:Int)]else greed ts w k
theorem greed_mem{ts:List (Int×Int)}{w:Bool}:∀k:Nat,greed ts w k∈setsL ts w k
 |0=>by show([]:List Int)∈[[]];simp
 |k+1=>by
  have ih:=greed_mem (ts:=ts) (w:=w) k
  show greed ts w (k+1)∈setsL ts w k++((setsL ts w k).filter fun s=>goB ts w s (k:Int)).map fun s=>s++[(k:Int)]
  unfold greed
  by_cases c:goB ts w (greed ts w k) (k:Int)=true
  ·rw[if_pos c]
   exact List.mem_append_right _ (List.mem_map.mpr ⟨_,List.mem_filter.mpr ⟨ih,c⟩,rfl⟩)
  ·rw[if_neg c]
   exact List.mem_append_left _ ih
theorem greed_mono{ts:List (Int×Int)}{w:Bool}{x:Int}{k:Nat}(h:x∈greed ts w k):∀m:Nat,x∈greed ts w (k+m)
 |0=>h
 |m+1=>by
  have ih:=greed_mono h m
  show x∈greed ts w (k+m+1)
  unfold greed
  split
  ·exact List.mem_append_left _ ih
  ·exact ih
theorem fulls_ne(ts:List (Int×Int))(w:Bool)(n:Nat):fulls ts w n≠[]:=by
 have h:greed ts w n∈fulls ts w n:=by
  refine List.mem_filter.mpr ⟨greed_mem n,?_⟩
  unfold fullB
  rw[Bool.not_eq_true',List.any_eq_false]
  intro p hp hc
  rw[Bool.and_eq_true]at hc
  have hn:p∉greed ts w n:=by simpa using hc.1
  obtain⟨p0,p1⟩:=mem_rng.mp hp
  have ep:((p.toNat:Nat):Int)=p:=by omega
  have hk:¬goB ts w (greed ts w p.toNat) p=true:=fun c=>by
   apply hn
   have h1:p∈greed ts w (p.toNat+1):=by
    unfold greed
    rw[ep,if_pos c]
    simp
   have h2:=greed_mono h1 (n-(p.toNat+1))
   rw[show p.toNat+1+(n-(p.toNat+1))=n by omega]at h2
   exact h2
  apply hk
  unfold goB
  rw[List.all_eq_true]
  intro q hq
  have h2:=greed_mono hq (n-p.toNat)
  rw[show p.toNat+(n-p.toNat)=n by omega]at h2
  exact List.all_eq_true.mp hc.2 q h2
 intro e
 rw[e]at h
 cases h
noncomputable def spFirstG(K:W.Frag):Sp:=fun vs H Q _=>∃(l:Addr) (its:List (Addr×List Int)),vs=[.ref l]/\SqL K H l (its.map fun p=>V.ref p.1)/\(∀p∈its,SqT K H p.1 (p.2.map V.int))/\its≠[]/\
 ∀(i:Nat) (p:Addr×List Int),its[i]? =some p->(∀(j:Nat) r,its[j]? =some r->r.2.length<=p.2.length/\(j<i->r.2.length<p.2.length))->Q (.ref p.1) H
theorem sc_firstG:FnScope ["sets"] ["sets"] (defScope zbe):=⟨rfl,rfl,rfl,by decide+kernel,rfl,by decide+kernel,by decide+kernel⟩
theorem ok_firstG{f:Addr}{fd:FuncData}(F:Fun K "first_greatest" "first_greatest" zbe f fd)(m_max:mg "max"=none)(m_len:mg "len"=none):
  FnOk P w K mg base CX0 1 f fd ["sets"] (spFirstG K):=by
 refine F.ok sc_firstG (fun vs H Q E h=> ?_) (fun cdv A outer s H vs Q E hr h=> ?_)
 ·obtain⟨l,its,rfl,_⟩:=h
  rfl
 obtain⟨l,its,rfl,hL,hT,hne,q⟩:=h
 refine⟨_,(zah (zal (pe_maxLen rfl rfl m_max rfl m_len (zaa (pv 0) zab)))),?_⟩
 exact⟨_,rfl,l,its,rfl,hL,hT,hne,q⟩
noncomputable def MostOf(s:List Int)(ts:List (Int×Int))(w:Bool)(n:Nat):Prop:=∃ss,SortedF ss ts w n/\∃i:Nat,ss[i]? =some s/\∀(j:Nat) t,ss[j]? =some t->t.length<=s.length/\(j<i->t.length<s.length)
theorem sorted_one{ss tt:List (List Int)}{ts:List (Int×Int)}{w:Bool}{n:Nat}(h:SortedF ss ts w n)(h':SortedF tt ts w n):ss=tt:=lex_one (h.1.trans h'.1.symm) h.2 h'.2
theorem most_one{s t:List Int}{ts:List (Int×Int)}{w:Bool}{n:Nat}(h:MostOf s ts w n)(h':MostOf t ts w n):s=t:=by
 obtain⟨ss,a1,i,a2,a3⟩:=h
 obtain⟨tt,b1,j,b2,b3⟩:=h'
 have e:=sorted_one a1 b1
 subst e
 have x:=a3 j t b2
 have y:=b3 i s a2
 have ij:i=j:=by
  rcases Nat.lt_trichotomy i j with z|z|z
  ·have:=y.2 z;omega
  ·exact z
  ·have:=x.2 z;omega
 subst ij
 rw[a2]at b2
 cases b2
 rfl
theorem sorted_ne{ss:List (List Int)}{ts:List (Int×Int)}{w:Bool}{n:Nat}(h:SortedF ss ts w n):ss≠[]:=fun e=>by
 have:=h.1.length_eq
 rw[e]at this
 exact fulls_ne ts w n (List.length_eq_zero_iff.mp this.symm)
noncomputable def spGreatC(K:W.Frag):Sp:=fun vs H Q _=>∃(a:Addr) (n:Int) (ts:List (Int×Int)),vs=[.ref a]/\WebIs K H a n ts/\∀(r:Addr) (s:List Int) H',Same H H'->SqT K H' r (s.map V.int)->MostOf s ts true n.toNat->Q (.ref r) H'
theorem sc_greatC:FnScope ["web"] ["web"] (defScope zau):=⟨rfl,rfl,rfl,by decide+kernel,rfl,by decide+kernel,by decide+kernel⟩
theorem ok_greatC{f f1 f2:Addr}{fd d1 d2:FuncData}(F:Fun K "greatest_crowd" "greatest_crowd" zau f fd)(D1:Dfn K mg "first_greatest" zbe ["sets"] f1 d1)(G1':FnOk P w K mg base CX0 1 f1 d1 ["sets"] (spFirstG K))(D2:Dfn K mg "full_crowds" zbz ["web"] f2 d2)(G2:FnOk P w K mg base CX0 8 f2 d2 ["web"] (spFullCrowds K)):
  FnOk P w K mg base CX0 9 f fd ["web"] (spGreatC K):=by
 have G1:FnOk P w K mg base CX0 8 f1 d1 ["sets"] (spFirstG K):=G1'.mono (by decide)
 refine F.ok sc_greatC (fun vs H Q E h=> ?_) (fun cdv A outer s H vs Q E hr h=> ?_)
 ·obtain⟨a,n,ts,rfl,_⟩:=h
  rfl
 obtain⟨a,n,ts,rfl,hA,q⟩:=h
 refine⟨_,(zah (zal (zaf G1 hr rfl D1.m D1.F.kp D1.b .nil pass0 (zaa (zaf G2 hr rfl D2.m D2.F.kp D2.b .nil pass0 (zaa (pv 0) zab)) zab)))),?_⟩
 refine⟨_,rfl,a,n,ts,rfl,hA,fun r ss H1 s1 h1 h2 n1=> ?_⟩
 obtain⟨its,g1,g2,g3⟩:=h1
 refine⟨r,its,rfl,SqL.of g1,g2,fun e=>sorted_ne h2 (by rw[<-g3,e];rfl),fun i p hi hb=>q p.1 p.2 H1 s1 (g2 p (List.mem_of_getElem? hi)) ⟨ss,h2,i,by rw[<-g3,List.getElem?_map,hi];rfl,fun j t ht=> ?_⟩⟩
 rw[<-g3,List.getElem?_map]at ht
 cases ej:its[j]? with
 |none=>rw[ej]at ht;cases ht
 |some r'=>
  rw[ej]at ht
  cases ht
  exact hb j r' ej
end
end Hs
namespace Hs
open PySem L2 HsD
section
variable{P:Program}{w:World}{K:W.Frag}{mg:Str->Option Value}{base:Heap}
theorem rng_upp(n:Nat):(rng n).Pairwise (· < ·):=by
 unfold rng
 rw[List.pairwise_map]
 exact List.pairwise_lt_range.imp fun{a b} h=>by omega
theorem rng_lenn(n:Nat):(rng n).length=n:=by unfold rng;simp
theorem lay_intsn:∀ns:List Int,PyData.canLayAll0 (ns.map PyData.int)=true
 |[]=>rfl
 |n::ns=>by
  show(true&&PyData.canLayAll0 (ns.map PyData.int))=true
  rw[lay_intsn ns];rfl
noncomputable def leastH(n:Nat)(taken:List Int):Int:=((rng n).filter fun h=> !decide (h∈taken)).headD 0
noncomputable def takenL(ts:List (Int×Int))(kv:List (Int×Int))(p:Int):List (Int×Int):=kv.filter fun q=>hasTie ts p q.1
noncomputable def hstep(n:Nat)(ts:List (Int×Int))(kv:List (Int×Int))(p:Int):List (Int×Int):=kv++[(p,leastH n ((takenL ts kv p).map (·.2)))]
noncomputable def hkv(n:Nat)(ts:List (Int×Int))(xs:List Int):List (Int×Int):=xs.foldl (hstep n ts) []
theorem hkv_snoc(n:Nat)(ts:List (Int×Int))(xs:List Int)(p:Int):hkv n ts (xs++[p])=hstep n ts (hkv n ts xs) p:=by unfold hkv;rw[List.foldl_append];rfl
theorem hkv_keys(n:Nat)(ts:List (Int×Int)):∀(k:Nat) (xs:List Int),xs.length=k->(hkv n ts xs).map (·.1)=xs
 |0,xs,h=>by rw[List.eq_nil_of_length_eq_zero h];rfl
 |k+1,l0,h=>by
  have hne:l0≠[]:=fun e=>by rw[e]at h;cases h
  obtain⟨l,p,rfl⟩:∃ys p,l0=ys++[p]:=⟨l0.dropLast,l0.getLast hne,(List.dropLast_concat_getLast hne).symm⟩
  rw[hkv_snoc]
  unfold hstep
  rw[List.map_append,hkv_keys n ts k l (by rw[List.length_append]at h;exact Nat.succ.inj h)]
  rfl
noncomputable def hueAt(kv:List (Int×Int))(p:Int):Int:=((kv.find? fun q=>decide (q.1=p)).map (·.2)).getD 0
noncomputable def conv(kv:List (Int×Int)):List (Key×V):=kv.map fun q=>(Sum.inl q.1,V.int q.2)
theorem conv_keys(kv:List (Int×Int)):(conv kv).map (·.1)=(kv.map (·.1)).map Sum.inl:=by unfold conv;rw[List.map_map,List.map_map];rfl
theorem valV_conv(p:Int):∀kv:List (Int×Int),valV (conv kv) (.inl p)=((kv.find? fun q=>decide (q.1=p)).map (·.2)).map V.int
 |[]=>rfl
 |q::kv=>by
  by_cases e:q.1=p
  ·have:valV (conv (q::kv)) (.inl p)=some (.int q.2):=valV_pos (p:=(Sum.inl q.1,V.int q.2)) (by rw[e])
   rw[this,List.find?_cons_of_pos (by rw[e];exact decide_eq_true rfl)];rfl
  ·have:valV (conv (q::kv)) (.inl p)=valV (conv kv) (.inl p):=valV_neg (p:=(Sum.inl q.1,V.int q.2)) (fun z=>e (Sum.inl.inj z))
   rw[this,valV_conv p kv,List.find?_cons_of_neg (by rw[decide_eq_false e];decide)]
theorem find_of{kv:List (Int×Int)}(nd:(kv.map (·.1)).Nodup){q:Int×Int}(hq:q∈kv):(kv.find? fun r=>decide (r.1=q.1))=some q:=by
 induction kv with
 |nil=>cases hq
 |cons a kv ih=>
  rw[List.map_cons,List.nodup_cons]at nd
  rcases List.mem_cons.mp hq with rfl|h
  ·exact List.find?_cons_of_pos (p:=fun r:Int×Int=>decide (r.1=q.1)) (by exact decide_eq_true rfl)
  ·have ne:a.1≠q.1:=fun e=>nd.1 (by rw[e];exact List.mem_map.mpr ⟨q,h,rfl⟩)
   rw[List.find?_cons_of_neg (by rw[decide_eq_false ne];decide)]
   exact ih nd.2 h
theorem valV_none{kv:List (Int×Int)}{p:Int}(h:p∉kv.map (·.1)):valV (conv kv) (.inl p)=none:=by
 rw[valV_conv]
 have:(kv.find? fun q=>decide (q.1=p))=none:=List.find?_eq_none.mpr fun q hq=>by
  rw[decide_eq_false (fun e=>h (List.mem_map.mpr ⟨q,hq,e⟩))];decide
 rw[this];rfl
theorem conv_put{kv:List (Int×Int)}{p k:Int}(h:p∉kv.map (·.1)):putK (conv kv) (.inl p) (.int k)=conv (kv++[(p,k)]):=by
 rw[putK_new _ (valV_none h)];unfold conv;rw[List.map_append];rfl
theorem free_hue{n:Nat}{ts:List (Int×Int)}{kv:List (Int×Int)}{p:Int}(nd:(kv.map (·.1)).Nodup)(hk:∀q∈kv,0<=q.1/\q.1<(n:Int))(hp:p∉kv.map (·.1))(hp0:0<=p)(hp1:p<(n:Int)):((rng n).filter fun h=> !decide (h∈(takenL ts kv p).map (·.2)))≠[]:=fun e=>by
 have hall:∀h∈rng n,h∈(takenL ts kv p).map (·.2):=fun h hh=>by
  have:=List.filter_eq_nil_iff.mp e h hh
  simpa using this
 have hnd:(rng n).Nodup:=(rng_upp n).imp fun h=>Int.ne_of_lt h
 have l1:=zdd hnd hall
 rw[List.length_map]at l1
 have l2:(takenL ts kv p).length<=kv.length:=List.length_filter_le _ _
 have l3:(p::kv.map (·.1)).length<=(rng n).length:=zdd (List.nodup_cons.mpr ⟨hp,nd⟩) fun x hx=>by
  rcases List.mem_cons.mp hx with rfl|hx
  ·exact mem_rng.mpr ⟨hp0,hp1⟩
  ·obtain⟨q,hq,rfl⟩:=List.mem_map.mp hx
   exact mem_rng.mpr (hk q hq)
 rw[List.length_cons,List.length_map]at l3
 omega
theorem least_is{n:Nat}{taken:List Int}{m:Int}(h1:m∈(rng n).filter fun h=> !decide (h∈taken))(h2:∀x∈(rng n).filter fun h=> !decide (h∈taken),m<=x):m=leastH n taken:=by
 unfold leastH
 have hs:((rng n).filter fun h=> !decide (h∈taken)).Pairwise (· < ·):=(rng_upp n).filter _
 generalize ((rng n).filter fun h=> !decide (h∈taken))=ys at *
 rcases ys with _|⟨y,ys⟩
 ·cases h1
 ·show m=y
  have a:=h2 y (List.mem_cons_self ..)
  rcases List.mem_cons.mp h1 with rfl|h1
  ·rfl
  ·have:=(List.pairwise_cons.mp hs).1 m h1
   omega
noncomputable def spHues(K:W.Frag):Sp:=fun vs H Q _=>∃(a o:Addr) (n:Int) (ts:List (Int×Int)) (xs:List Int),vs=[.ref a,.ref o]/\WebIs K H a n ts/\SqT K H o (xs.map V.int)/\xs.Perm (rng n.toNat)/\
 ∀r H',Same H H'->SqT K H' r (((rng n.toNat).map (hueAt (hkv n.toNat ts xs.reverse))).map V.int)->Q (.ref r) H'
theorem sc_hues:FnScope ["web","order","hues","place","taken"] ["web","order"] (defScope zbm):=⟨rfl,rfl,rfl,by decide+kernel,rfl,by decide+kernel,by decide+kernel⟩
theorem ok_hues{f f1:Addr}{fd d1:FuncData}(F:Fun K "hues_by_order" "hues_by_order" zbm f fd)(D1:Dfn K mg "tied_among" zbj ["web","place","some"] f1 d1)(G1:FnOk P w K mg base CX0 2 f1 d1 ["web","place","some"] (spAmong K))(m_reversed:mg "reversed"=none)(m_list:mg "list"=none)(m_min:mg "min"=none)(m_range:mg "range"=none)(m_tuple:mg "tuple"=none):
  FnOk P w K mg base CX0 3 f fd ["web","order"] (spHues K):=by
 refine F.ok sc_hues (fun vs H Q E h=> ?_) (fun cdv A outer s H vs Q E hr h=> ?_)
 ·obtain⟨a,o,n,ts,xs,rfl,_⟩:=h
  rfl
 obtain⟨a,o,n,ts,xs,rfl,hA,hO,hp,q⟩:=h
 refine⟨_,(zae (zas (i:=2) sc_hues.nd rfl (Or.inr rfl) pe_dnewK) (zae (ps_for PassesOwn.never rfl (pi_rev rfl m_reversed (zaa (pv 1) zab)) (zaj (i:=3) sc_hues.nd rfl (Or.inl rfl)) (zae (zas (i:=4) sc_hues.nd rfl (Or.inr rfl) (zbo (own:=["other"]) (caps:=["hues"]) (ix:=[2]) rfl (zdc (zaf G1 hr rfl D1.m D1.F.kp D1.b .nil pass0 (zaa (pv 0) (zaa (pv 3) (zaa (zbp (call_listD rfl) rfl m_list (by decide+kernel) (zaa (pv 2) zab)) zab))))) rfl rfl (.cons rfl rfl .nil) (fun _ _ _ _ _=>(zaj (i:=0) (show(["other","hues"]:List Str).Nodup from by decide+kernel) rfl (Or.inl rfl))) (fun _ _ _ _ _=>zcn) (fun _ _ _ _ _=>(pe_dget (Nat.lt_of_le_of_lt (Nat.add_le_add_left (by decide:1<=64) _) hr.units) (pv 1) (pv 0) (fun _ _=>rfl))))) (zah (ps_dput (Nat.lt_of_le_of_lt (Nat.add_le_add_left (by decide:1<=64) _) hr.units) (pv 2) (pv 3) (zai (call_minL rfl) rfl m_min (by decide+kernel) (zaa (zbo (own:=["hue"]) (caps:=["taken"]) (ix:=[4]) rfl (zba rfl m_range (zaa (zan zaw (pv 0) zag (fun _ _=>rfl)) zab)) rfl rfl (.cons rfl rfl .nil) (fun _ _ _ _ _=>(zaj (i:=0) (show(["hue","taken"]:List Str).Nodup from by decide+kernel) rfl (Or.inl rfl))) (fun _ _ _ _ _=>zcr (zam (op_notInDK K hr.units) (pv 0) (pv 1) (by with_unfolding_all rfl))) (fun _ _ _ _ _=>(pv 0))) zab)) rfl)))) (zah (zal (zbp zav rfl m_tuple (by decide+kernel) (zaa (zbo (own:=["place"]) (caps:=["hues"]) (ix:=[2]) rfl (zba rfl m_range (zaa (zan zaw (pv 0) zag (fun _ _=>rfl)) zab)) rfl rfl (.cons rfl rfl .nil) (fun _ _ _ _ _=>(zaj (i:=0) (show(["place","hues"]:List Str).Nodup from by decide+kernel) rfl (Or.inl rfl))) (fun _ _ _ _ _=>zcn) (fun _ _ _ _ _=>(pe_dget (Nat.lt_of_le_of_lt (Nat.add_le_add_left (by decide:1<=64) _) hr.units) (pv 1) (pv 0) (fun _ _=>rfl)))) zab)))))),?_⟩
 have h0:=hA.h0
 have h10:=hA.h1
 have xnd:xs.Nodup:=hp.nodup_iff.mpr ((rng_upp n.toNat).imp fun h=>Int.ne_of_lt h)
 have xm:∀x∈xs,0<=x/\x<(n.toNat:Int):=fun x hx=>mem_rng.mp (hp.mem_iff.mp hx)
 have xl:xs.length<=10:=by have:=hp.length_eq;rw[rng_lenn]at this;omega
 refine seq_mid (fun σ' H'=>∃d,σ'=[some (.ref a),some (.ref o),some (.ref d),none,none]/\H d=none/\Same H H'/\H' d=some (.dK [])) (fun N hN=>fun d hd=>hN _ _ ⟨d,rfl,hd,zad hd (.dK []),zac⟩) ?_
 rintro σ' H1 ⟨d,rfl,hd,s1,hd1⟩
 try dsimp only
 refine seq_mid (fun σ' H'=>∃o3 o4,σ'=[some (.ref a),some (.ref o),some (.ref d),o3,o4]/\Same H H'/\H' d=some (.dK (conv (hkv n.toNat ts xs.reverse)))) (fun N hN=> ?_) ?_
 ·refine⟨_,rfl,o,_,rfl,s1.tup hO,fun _=> ?_⟩
  refine for_rev (K:=K) (a:=o) (xs:=xs.map V.int) (fun i σ H'=>Same H H'/\H' d=some (.dK (conv (hkv n.toNat ts (xs.reverse.take i))))/\∃o3 o4,σ=[some (.ref a),some (.ref o),some (.ref d),o3,o4]) ⟨s1,hd1,_,_,rfl⟩ (fun i σ H' _ p=>p.1.tup hO) (fun i x σ H2 hx p=> ?_) (fun σ H2 p=> ?_)
  ·obtain⟨s2,hd2,o3,o4,rfl⟩:=p
   rw[<-List.map_reverse,List.getElem?_map]at hx
   cases ex:xs.reverse[i]? with
   |none=>rw[ex]at hx;cases hx
   |some p=>
    rw[ex]at hx
    cases hx
    have et:xs.reverse.take (i+1)=xs.reverse.take i++[p]:=by rw[List.take_add_one,ex];rfl
    have hpx:p∈xs:=List.mem_reverse.mp (List.mem_of_getElem? ex)
    have pb:=xm p hpx
    have key:=hkv_keys n.toNat ts _ (xs.reverse.take i) rfl
    have rnd:xs.reverse.Nodup:=(List.reverse_perm xs).nodup_iff.mpr xnd
    have knd:((hkv n.toNat ts (xs.reverse.take i)).map (·.1)).Nodup:=by rw[key];exact rnd.sublist (List.take_sublist _ _)
    have pn:p∉(hkv n.toNat ts (xs.reverse.take i)).map (·.1):=by
     rw[key]
     have q1:(xs.reverse.take i++[p]).Nodup:=by rw[<-et];exact rnd.sublist (List.take_sublist _ _)
     exact fun z=>(List.nodup_append.mp q1).2.2 p z p (List.mem_singleton.mpr rfl) rfl
    have kb:∀q∈hkv n.toNat ts (xs.reverse.take i),0<=q.1/\q.1<(n.toNat:Int):=fun q hq=>xm q.1 (by
     have:q.1∈(hkv n.toNat ts (xs.reverse.take i)).map (·.1):=List.mem_map.mpr ⟨q,hq,rfl⟩
     rw[key]at this
     exact List.mem_reverse.mp (List.mem_of_mem_take this))
    have kl:(hkv n.toNat ts (xs.reverse.take i)).length<=10:=by
     have:=congrArg List.length key
     rw[List.length_map]at this
     have l3:(xs.reverse.take i).length<=xs.length:=by rw[List.length_take,List.length_reverse];exact Nat.min_le_right _ _
     omega
    have eh:hkv n.toNat ts (xs.reverse.take (i+1))=hkv n.toNat ts (xs.reverse.take i)++[(p,leastH n.toNat ((takenL ts (hkv n.toNat ts (xs.reverse.take i)) p).map (·.2)))]:=by rw[et,hkv_snoc];rfl
    generalize hkv n.toNat ts (xs.reverse.take i)=kv at *
    have fh:=free_hue (ts:=ts) knd kb pn pb.1 pb.2
    refine⟨_,rfl,_,rfl,_,rfl,d,conv kv,kv.map (·.1),rfl,hd2,by unfold conv;rw[List.length_map];omega,conv_keys kv,fun lk hlk=> ?_⟩
    have s3:=zad hlk (.lst ((kv.map (·.1)).map V.int))
    refine⟨false,a,lk,n,p,ts,kv.map (·.1),rfl,hA.same (s2.trans s3),SqL.of zac,fun r4 H4 s4 h4 n4=> ?_⟩
    have s34:=s3.trans s4
    have hd4:=s34 _ _ hd2
    generalize upd H2 lk (.lst ((kv.map (·.1)).map V.int))=H3 at *
    have ef:((kv.map (·.1)).filter fun o=>hasTie ts p o)=(takenL ts kv p).map (·.1):=by unfold takenL;rw[List.filter_map];rfl
    rw[ef]at h4
    have tm:∀q∈takenL ts kv p,q∈kv:=fun q hq=>(List.mem_filter.mp hq).1
    generalize takenL ts kv p=L at *
    refine⟨r4,_,rfl,SqL.of h4,fun hz=> ?_⟩
    refine zde (xs:=(L.map (·.1)).map V.int) (fun k acc σ H'=>acc=((L.take k).map (·.2)).map V.int/\Same H4 H'/\∃o,σ=[o,some (.ref d)]) ⟨rfl,Same.refl _,_,rfl⟩ (fun k acc σ H' _ p=>p.2.1.seq (SqL.of h4)) (fun k acc σ H' hk p=>by rw[p.1,List.length_map,List.length_map,List.length_take];exact Nat.min_le_left _ _) hz (fun k x acc σ H5 hx pp=> ?_) (fun acc σ H5 pp=> ?_)
    ·obtain⟨rfl,s5,o5,rfl⟩:=pp
     rw[List.getElem?_map,List.getElem?_map]at hx
     cases ey:L[k]? with
     |none=>rw[ey]at hx;cases hx
     |some y=>
      rw[ey]at hx
      cases hx
      have hy:=tm y (List.mem_of_getElem? ey)
      have gv:valV (conv kv) (.inl y.1)=some (.int y.2):=by rw[valV_conv,find_of knd hy];rfl
      refine⟨_,rfl,_,rfl,d,_,rfl,.inl ⟨conv kv,.inl y.1,.inl (s5 _ _ hd4),rfl,gv.symm⟩,?_,s5,_,rfl⟩
      rw[List.take_add_one,ey,List.map_append,List.map_append];rfl
    ·intro p1 hp1
     obtain⟨rfl,s5,o5,rfl⟩:=pp
     have s6:=s5.trans (zad hp1 (.lst ((((L.take ((L.map (·.1)).map V.int).length)).map (·.2)).map V.int)))
     have e6:upd H5 p1 (.lst ((((L.take ((L.map (·.1)).map V.int).length)).map (·.2)).map V.int)) p1=some (.lst ((L.map (·.2)).map V.int)):=by rw[zac,List.length_map,List.length_map,List.take_length]
     generalize upd H5 p1 (.lst ((((L.take ((L.map (·.1)).map V.int).length)).map (·.2)).map V.int))=H6 at *
     have s26:=s2.trans (s34.trans s6)
     obtain⟨ta,ra,a1,a2,a3⟩:=id (hA.same s26).web
     refine⟨_,rfl,a,_,_,.int n,rfl,rfl,a1,rfl,_,rfl,by omega,by omega,?_⟩
     refine zbu (n:=n.toNat) (fun k acc σ H'=>acc=((rng k).filter fun h=> !decide (h∈L.map (·.2))).map V.int/\Same H6 H'/\∃o,σ=[o,some (.ref p1)]) ⟨rfl,Same.refl _,_,rfl⟩ (fun k acc σ H' _ p=>by rw[p.1,List.length_map];exact Nat.le_trans (List.length_filter_le _ _) (by rw[rng_lenn];exact Nat.le_refl _)) (by rw[sizeLine_eq];omega) (fun k acc σ H7 hk pp=> ?_) (fun acc σ H7 pp=> ?_)
     ·obtain⟨rfl,s7,o7,rfl⟩:=pp
      have e0:(0:Int)+(k:Int)=(k:Int):=by omega
      refine⟨_,rfl,_,rfl,p1,_,_,.int (0+(k:Int)),rfl,.inl (s7.seq (SqL.of e6)),DVs.ints (L.map (·.2)),.int _,lay_intsn (L.map (·.2)),rfl,(by show 0<=60;decide),_,rfl,?_⟩
      rw[any_ints,e0,rng_succ,List.filter_append,List.map_append]
      refine ite2 (fun c=> ?_) (fun c=> ?_)
      ·refine⟨_,rfl,?_,s7,_,rfl⟩
       rw[List.filter_cons_of_pos (p:=fun h:Int=> !decide (h∈L.map (·.2))) (by exact c)];rfl
      ·refine⟨?_,s7,_,rfl⟩
       rw[List.filter_cons_of_neg (p:=fun h:Int=> !decide (h∈L.map (·.2))) (by exact c)];simp
     ·intro p2 hp2
      obtain⟨rfl,s7,o7,rfl⟩:=pp
      have s8:=s7.trans (zad hp2 (.lst (((rng n.toNat).filter fun h=> !decide (h∈L.map (·.2))).map V.int)))
      refine⟨p2,_,rfl,SqL.of zac,fh,fun m hm hm2=> ?_⟩
      have em:=least_is hm hm2
      have hd8:=(s6.trans s8) _ _ hd4
      have s28:=s26.trans s8
      generalize upd H7 p2 (.lst (((rng n.toNat).filter fun h=> !decide (h∈L.map (·.2))).map V.int))=H8 at *
      refine⟨_,rfl,_,rfl,d,_,rfl,DPut.k (k:= .inl p) hd8 (by unfold conv;rw[List.length_map,sizeLine_eq];omega),?_⟩
      refine⟨fun b u e=>by rw[zap (fun z=>by rw[z,hd]at e;cases e)];exact s28 _ _ e,?_,_,_,rfl⟩
      rw[zac,eh,conv_put pn,em]
  ·obtain⟨s2,hd2,o3,o4,rfl⟩:=p
   have e:xs.reverse.take (xs.map V.int).length=xs.reverse:=by rw[List.length_map,<-List.length_reverse,List.take_length]
   rw[e]at hd2
   exact hN _ _ ⟨o3,o4,rfl,s2,hd2⟩
 rintro σ' H2 ⟨o3,o4,rfl,s2,hd2⟩
 try dsimp only
 obtain⟨ta,ra,a1,a2,a3⟩:=id (hA.same s2).web
 have key:=hkv_keys n.toNat ts _ xs.reverse rfl
 have knd:((hkv n.toNat ts xs.reverse).map (·.1)).Nodup:=by rw[key];exact(List.reverse_perm xs).nodup_iff.mpr xnd
 have kin:∀p:Int,0<=p->p<(n.toNat:Int)->valV (conv (hkv n.toNat ts xs.reverse)) (.inl p)=some (.int (hueAt (hkv n.toNat ts xs.reverse) p)):=fun p p0 p1=>by
  have:p∈(hkv n.toNat ts xs.reverse).map (·.1):=by rw[key];exact List.mem_reverse.mpr (hp.mem_iff.mpr (mem_rng.mpr ⟨p0,p1⟩))
  obtain⟨z,hz,rfl⟩:=List.mem_map.mp this
  have fz:=find_of knd hz
  rw[valV_conv]
  unfold hueAt
  rw[fz];rfl
 generalize hkv n.toNat ts xs.reverse=kv at *
 refine⟨_,rfl,a,_,_,.int n,rfl,rfl,a1,rfl,_,rfl,by omega,by omega,?_⟩
 refine zbu (n:=n.toNat) (fun k acc σ H'=>acc=((rng k).map (hueAt kv)).map V.int/\Same H2 H'/\∃o,σ=[o,some (.ref d)]) ⟨rfl,Same.refl _,_,rfl⟩ (fun k acc σ H' _ p=>by rw[p.1,List.length_map,List.length_map,rng_lenn];exact Nat.le_refl _) (by rw[sizeLine_eq];omega) (fun k acc σ H3 hk pp=> ?_) (fun acc σ H3 pp=> ?_)
 ·obtain⟨rfl,s3,o5,rfl⟩:=pp
  have e0:(0:Int)+(k:Int)=(k:Int):=by omega
  refine⟨_,rfl,_,rfl,d,_,rfl,.inl ⟨conv kv,.inl (0+(k:Int)),.inl (s3 _ _ hd2),rfl,by rw[e0,kin (k:Int) (by omega) (by omega)]⟩,?_,s3,_,rfl⟩
  rw[rng_succ,List.map_append,List.map_append];rfl
 ·intro p1 hp1
  obtain⟨rfl,s3,o5,rfl⟩:=pp
  refine⟨p1,_,rfl,.inl ⟨SqL.of zac,fun r hr'=> ?_⟩⟩
  exact q r _ (s2.trans (s3.trans ((zad hp1 _).trans (zad hr' _)))) (SqT.of zac)
end
end Hs
namespace Hs
open PySem HsD
theorem SetK.of{ts:List (Int×Int)}{w:Bool}{n:Nat}{s:List Int}(F:Full (fun i j=> !(tiedL ts i j==w)) (rng n) s):SetK ts w n s:=
 ⟨F.up,fun x hx=>mem_rng.mp (F.sub x hx),fun x hx y hy hne=>by
  have:=F.ind x hx y hy hne
  try dsimp only at this
  cases e:(tiedL ts x y==w)with
  |true=>rfl
  |false=>rw[e]at this;cases this⟩
theorem tied_rows{so:Int->Int->Bool}{m:Int}{i j:Int}(h0:0<=i)(h1:i<j)(h2:j<m):tiedL (rows so m m.toNat) i j=so i j:=by
 unfold tiedL
 have a:decide ((j,i)∈rows so m m.toNat)=false:=decide_eq_false fun z=>by
  rw[zct]at z
  have:=z.2.2.1
  try dsimp only at this
  omega
 rw[a,Bool.or_false,Bool.eq_iff_iff,decide_eq_true_eq,zct]
 constructor
 ·exact fun z=>z.2.2.2.2
 ·intro z
  exact⟨h0,by show i<_;omega,h1,h2,z⟩
end Hs
namespace Hs
open PySem L2 HsD
section
variable{P:Program}{w:World}{K:W.Frag}{mg:Str->Option Value}{base:Heap}
theorem rg_rng{n:Int}:rg n=rng n.toNat:=rfl
theorem FoldI.pmR{n:Int}{ts:List (Int×Int)}{xs:List Int}(h:FoldI n ts xs []):xs.Perm (rng n.toNat):=by
 have z:=h.pm
 rw[List.append_nil,rg_rng]at z
 exact z
theorem str_ne{i j:Str}{A B:Prop}(h:¬i=j)(hB:B):if decide (V.str i=V.str j)=true then A else B:=by
 rw[decide_eq_false fun z=>h (V.str.inj z)]
 exact iteF hB
theorem str_eq{i:Str}{A B:Prop}(hA:A):if decide (V.str i=V.str i)=true then A else B:=by
 rw[decide_eq_true rfl]
 exact iteT hA
noncomputable def HasRing(n:Int)(ts:List (Int×Int)):Prop:=∃c,Dirac.Bare (tiedL ts) c/\∀x∈c,0<=x/\x<n
noncomputable def spByFoldT(K:W.Frag):Sp:=fun vs H Q _=>∃(a:Addr) (n:Int) (ts:List (Int×Int)),vs=[.ref a]/\WebIs K H a n ts/\¬HasRing n ts/\
 ∀(r h c:Addr) (s xs:List Int) H',Same H H'->SqT K H' r [.int s.length,.ref h,.ref c]->SqT K H' h (((rng n.toNat).map (hueAt (hkv n.toNat ts xs.reverse))).map V.int)->SqT K H' c (s.map V.int)->MostOf s ts true n.toNat->FoldI n ts xs []->Q (.ref r) H'
theorem sc_byFold:FnScope ["web","told","crowd"] ["web"] (defScope zdl):=⟨rfl,rfl,rfl,by decide+kernel,rfl,by decide+kernel,by decide+kernel⟩
theorem ok_byFoldT{f f1 f2 f3:Addr}{fd d1 d2 d3:FuncData}(F:Fun K "by_fold" "by_fold" zdl f fd)(D1:Dfn K mg "fold" s_fold ["web"] f1 d1)(G1:FnOk P w K mg base CX0 11 f1 d1 ["web"] (spFold K))(D2:Dfn K mg "greatest_crowd" zau ["web"] f2 d2)(G2':FnOk P w K mg base CX0 9 f2 d2 ["web"] (spGreatC K))(D3:Dfn K mg "hues_by_order" zbm ["web","order"] f3 d3)(G3':FnOk P w K mg base CX0 3 f3 d3 ["web","order"] (spHues K))(m_len:mg "len"=none):
  FnOk P w K mg base CX0 12 f fd ["web"] (spByFoldT K):=by
 have G2:FnOk P w K mg base CX0 11 f2 d2 ["web"] (spGreatC K):=G2'.mono (by decide)
 have G3:FnOk P w K mg base CX0 11 f3 d3 ["web","order"] (spHues K):=G3'.mono (by decide)
 refine F.ok sc_byFold (fun vs H Q E h=> ?_) (fun cdv A outer s H vs Q E hr h=> ?_)
 ·obtain⟨_,_,_,rfl,_⟩:=h
  rfl
 obtain⟨a,n,ts,rfl,hA,no,q⟩:=h
 refine⟨_,(zae (zas (i:=1) sc_byFold.nd rfl (Or.inl rfl) (zaf G1 hr rfl D1.m D1.F.kp D1.b .nil pass0 (zaa (pv 0) zab))) (zae (zcs (zam op_eq (zan zaw (pv 1) zag (fun _ _=>rfl)) pe_str (nomark _)) pss_never zay) (zae (zas (i:=2) sc_byFold.nd rfl (Or.inl rfl) (zaf G2 hr rfl D2.m D2.F.kp D2.b .nil pass0 (zaa (pv 0) zab))) (zah (zal (zck (zaa (zai zao rfl m_len PySem.boot_len (zaa (pv 2) zab)) (zaa (zaf G3 hr rfl D3.m D3.F.kp D3.b .nil pass0 (zaa (pv 0) (zaa (zan zaw (pv 1) zag (fun _ _=>rfl)) zab))) (zaa (pv 2) zab))))))))),?_⟩
 refine⟨_,rfl,a,n,ts,rfl,hA,fun r o xs H1 s1 c1 c2 hf=> ?_,fun r l c H1 s1 c1 c2 nl hB hc=>(no ⟨c,hB,hc⟩).elim⟩
 refine⟨_,rfl,r,_,_,.str "fold",rfl,rfl,c1,rfl,?_⟩
 refine⟨rfl,_,rfl,str_ne (by decide) ?_⟩
 refine⟨_,rfl,a,n,ts,rfl,hA.same s1,fun g gs H2 s2 c3 hm=> ?_⟩
 refine⟨_,rfl,g,_,rfl,.inr c3,fun _=> ?_⟩
 refine⟨_,rfl,_,rfl,r,_,_,.ref o,rfl,rfl,s2.tup c1,rfl,a,o,n,ts,xs,rfl,(hA.same s1).same s2,s2.tup c2,hf.pmR,fun h H3 s3 c4=> ?_⟩
 refine⟨_,rfl,(by show 3<=sizeLine;decide),fun t ht=> ?_⟩
 have s4:=zad ht (.tup [.int (gs.map V.int).length,.ref h,.ref g])
 refine q t h g gs xs _ (s1.trans (s2.trans (s3.trans s4))) ?_ (s4.tup c4) ((s3.trans s4).tup c3) hm hf
 rw[List.length_map]
 exact SqT.of zac
noncomputable def spIsCrowd(K:W.Frag):Sp:=fun vs H Q _=>∃(a l:Addr) (n:Int) (ts:List (Int×Int)) (xs:List Int),vs=[.ref a,.ref l]/\WebIs K H a n ts/\SqT K H l (xs.map V.int)/\SetOk n xs/\∀H',Same H H'->Q (.bl (agreeB ts xs true)) H'
theorem sc_isCrowd:FnScope ["web","some"] ["web","some"] (defScope zcw):=⟨rfl,rfl,rfl,by decide+kernel,rfl,by decide+kernel,by decide+kernel⟩
theorem ok_isCrowd{f f1 f2 f3:Addr}{fd d1 d2 d3:FuncData}(F:Fun K "is_crowd" "is_crowd" zcw f fd)(D1:Dfn K mg "need_web" zbi ["thing"] f1 d1)(G1:FnOk P w K mg base CX0 7 f1 d1 ["thing"] (spNeedWeb K))(D2:Dfn K mg "need_set" zco ["web","thing"] f2 d2)(G2':FnOk P w K mg base CX0 5 f2 d2 ["web","thing"] (spNeedSet K))(D3:Dfn K mg "are_all_tied" zaz ["web","some"] f3 d3)(G3':FnOk P w K mg base CX0 2 f3 d3 ["web","some"] (spAllTied K)):
  FnOk P w K mg base CX0 8 f fd ["web","some"] (spIsCrowd K):=by
 have G2:FnOk P w K mg base CX0 7 f2 d2 ["web","thing"] (spNeedSet K):=G2'.mono (by decide)
 have G3:FnOk P w K mg base CX0 7 f3 d3 ["web","some"] (spAllTied K):=G3'.mono (by decide)
 refine F.ok sc_isCrowd (fun vs H Q E h=> ?_) (fun cdv A outer s H vs Q E hr h=> ?_)
 ·obtain⟨a,l,n,ts,xs,rfl,_⟩:=h
  rfl
 obtain⟨a,l,n,ts,xs,rfl,hA,hX,hok,q⟩:=h
 refine⟨_,(zae (zcb (zaf G1 hr rfl D1.m D1.F.kp D1.b .nil pass0 (zaa (pv 0) zab))) (zae (zcb (zaf G2 hr rfl D2.m D2.F.kp D2.b .nil pass0 (zaa (pv 0) (zaa (pv 1) zab)))) (zah (zal (zaf G3 hr rfl D3.m D3.F.kp D3.b .nil pass0 (zaa (pv 0) (zaa (pv 1) zab))))))),?_⟩
 refine⟨_,rfl,_,_,rfl,hA.web.dv.dx,hA.ok,fun H1 s1=> ?_⟩
 obtain⟨ta,ra,a1,a2,a3⟩:=id (hA.same s1).web
 have hDX:DX K H1 (.ref l) (.tuple (xs.map PyData.int)):=(DV.tup (s1.tup hX) (DVs.ints xs)).dx
 refine⟨_,rfl,_,rfl,a,n,_,_,_,rfl,a1,hDX,hok.setD,fun H2 s2=> ?_⟩
 have s12:=s1.trans s2
 have h10:=hok.len hA.h1
 exact⟨_,rfl,_,rfl,true,a,l,n,ts,xs,rfl,hA.same s12,s12.tup hX,hok.srt.imp (fun h e=>by omega),by omega,fun H3 s3=>q H3 (s12.trans s3)⟩
end
end Hs
namespace Hs
open PySem L2 HsD
theorem bare_map{r r':Int->Int->Bool}{c:List Int}{φ:Int->Int}(hb:Dirac.Bare r c)(inj:∀x∈c,∀y∈c,φ x=φ y->x=y)(hr:∀x∈c,∀y∈c,x≠y->r' (φ x) (φ y)=r x y):Dirac.Bare r' (c.map φ):=by
 refine⟨by rw[List.length_map];exact hb.len,?_,fun i j hij hj=> ?_⟩
 ·rw[List.nodup_iff_pairwise_ne,List.pairwise_map]
  exact(List.nodup_iff_pairwise_ne.mp hb.nd).imp_of_mem fun{a b} ha hb' hne e=>hne (inj a ha b hb' e)
 ·have hj':j<c.length:=by rw[List.length_map]at hj;exact hj
  have hi:=Nat.lt_trans hij hj'
  rw[List.getElem_map,List.getElem_map,hr _ (List.getElem_mem hi) _ (List.getElem_mem hj') (fun e=>by have:=(List.getElem_inj hb.nd).mp e;omega),hb.so i j hij hj',List.length_map]
theorem bare_as{r r':Int->Int->Bool}{c:List Int}(hb:Dirac.Bare r c)(hr:∀x∈c,∀y∈c,x≠y->r' x y=r x y):Dirac.Bare r' c:=by
 have:=bare_map (φ:=fun x=>x) hb (fun x _ y _ e=>e) hr
 rwa [List.map_id']at this
theorem ring_emb{n m:Int}{ts us:List (Int×Int)}(φ:Int->Int)(h:HasRing n ts)(hm:∀x,0<=x->x<n->0<=φ x/\φ x<m)(inj:∀x y,0<=x->x<n->0<=y->y<n->φ x=φ y->x=y)(hr:∀x y,0<=x->x<n->0<=y->y<n->x≠y->tiedL us (φ x) (φ y)=tiedL ts x y):HasRing m us:=by
 obtain⟨c,hb,hc⟩:=h
 refine⟨c.map φ,bare_map hb (fun x hx y hy=>inj x y (hc x hx).1 (hc x hx).2 (hc y hy).1 (hc y hy).2) (fun x hx y hy=>hr x y (hc x hx).1 (hc x hx).2 (hc y hy).1 (hc y hy).2),fun x hx=> ?_⟩
 obtain⟨y,hy,rfl⟩:=List.mem_map.mp hx
 exact hm y (hc y hy).1 (hc y hy).2
noncomputable def mm(a b:Int):Int×Int:=(if b<a then b else a,if b>a then b else a)
theorem mm_eq{a b c d:Int}:mm a b=mm c d↔(a=c/\b=d)\/(a=d/\b=c):=by
 unfold mm
 constructor
 ·intro h
  have h1:=congrArg Prod.fst h
  have h2:=congrArg Prod.snd h
  (try dsimp only at h1 h2)
  by_cases z:b<a
  ·rw[if_pos z]at h1
   rw[if_neg (by omega)]at h2
   by_cases y:d<c
   ·rw[if_pos y]at h1
    rw[if_neg (by omega)]at h2
    omega
   ·rw[if_neg y]at h1
    by_cases x:d>c
    ·rw[if_pos x]at h2
     omega
    ·rw[if_neg x]at h2
     omega
  ·rw[if_neg z]at h1
   by_cases y:d<c
   ·rw[if_pos y]at h1
    rw[if_neg (show¬d>c by omega)]at h2
    by_cases x:b>a
    ·rw[if_pos x]at h2;omega
    ·rw[if_neg x]at h2;omega
   ·rw[if_neg y]at h1
    by_cases x:b>a
    ·rw[if_pos x]at h2
     by_cases v:d>c
     ·rw[if_pos v]at h2;omega
     ·rw[if_neg v]at h2;omega
    ·rw[if_neg x]at h2
     by_cases v:d>c
     ·rw[if_pos v]at h2;omega
     ·rw[if_neg v]at h2;omega
 ·rintro(⟨rfl,rfl⟩|⟨rfl,rfl⟩)
  ·rfl
  ·rcases Int.lt_trichotomy a b with z|z|z
   ·rw[if_neg (by omega),if_pos (by omega),if_pos (by omega),if_neg (by omega)]
   ·subst z;rfl
   ·rw[if_pos (by omega),if_neg (by omega),if_neg (by omega),if_pos (by omega)]
structure CalledW(n:Int)(l:List Int)(ts us:List (Int×Int)):Prop where
 sub:Sub n.toNat l
 len:l.length=n.toNat
 ok:PairsOk n us
 mem:∀q,q∈us↔∃p∈ts,q=mm (l.getD p.1.toNat 0) (l.getD p.2.toNat 0)
theorem zcu{l:List Int}{i:Nat}(h:i<l.length):l.getD i 0=l[i]:=by rw[List.getD_eq_getElem?_getD,List.getElem?_eq_getElem h];rfl
theorem CalledW.inj{n:Int}{l:List Int}{ts us:List (Int×Int)}(h:CalledW n l ts us){x y:Int}(x0:0<=x)(x1:x<n)(y0:0<=y)(y1:y<n)(e:l.getD x.toNat 0=l.getD y.toNat 0):x=y:=by
 have hl:=h.len
 rw[zcu (by omega),zcu (by omega)]at e
 have:=(List.getElem_inj h.sub.nd).mp e
 omega
theorem CalledW.rng{n:Int}{l:List Int}{ts us:List (Int×Int)}(h:CalledW n l ts us){x:Int}(x0:0<=x)(x1:x<n):0<=l.getD x.toNat 0/\l.getD x.toNat 0<n:=by
 have hl:=h.len
 rw[zcu (by omega)]
 have:=h.sub.lt _ (List.getElem_mem (l:=l) (n:=x.toNat) (by omega))
 omega
theorem CalledW.so{n:Int}{l:List Int}{ts us:List (Int×Int)}(h:CalledW n l ts us)(hp:PairsOk n ts){x y:Int}(x0:0<=x)(x1:x<n)(y0:0<=y)(y1:y<n):tiedL us (l.getD x.toNat 0) (l.getD y.toNat 0)=tiedL ts x y:=by
 rw[<-tied_eq h.ok]
 unfold hasTie tiedL
 rw[Bool.eq_iff_iff,decide_eq_true_eq,Bool.or_eq_true,decide_eq_true_eq,decide_eq_true_eq]
 show mm (l.getD x.toNat 0) (l.getD y.toNat 0)∈us↔_
 rw[h.mem]
 constructor
 ·rintro⟨p,hp',e⟩
  obtain⟨p0,p1,p2⟩:=hp.lt p hp'
  rcases mm_eq.mp e with⟨e1,e2⟩|⟨e1,e2⟩
  ·have a1:=h.inj x0 x1 p0 (by omega) e1
   have a2:=h.inj y0 y1 (by omega) p2 e2
   left;rw[a1,a2];exact hp'
  ·have a1:=h.inj x0 x1 (by omega) p2 e1
   have a2:=h.inj y0 y1 p0 (by omega) e2
   right;rw[a1,a2];exact hp'
 ·rintro(z|z)
  ·exact⟨_,z,rfl⟩
  ·exact⟨_,z,mm_eq.mpr (.inr ⟨rfl,rfl⟩)⟩
theorem CalledW.sur{n:Int}{l:List Int}{ts us:List (Int×Int)}(h:CalledW n l ts us){y:Int}(y0:0<=y)(y1:y<n):∃x,0<=x/\x<n/\l.getD x.toNat 0=y:=by
 have hl:=h.len
 by_cases hm:y∈l
 ·obtain⟨i,hi,e⟩:=List.getElem_of_mem hm
  exact⟨(i:Int),by omega,by omega,by rw[show((i:Int)).toNat=i by omega,zcu hi];exact e⟩
 ·have s:Sub n.toNat (y::l):=⟨List.nodup_cons.mpr ⟨hm,h.sub.nd⟩,fun i hi=>by
   rcases List.mem_cons.mp hi with e|e
   ·subst e;omega
   ·exact h.sub.lt i e⟩
  have:=s.len
  rw[List.length_cons]at this
  omega
theorem CalledW.ring{n:Int}{l:List Int}{ts us:List (Int×Int)}(h:CalledW n l ts us)(hp:PairsOk n ts):HasRing n us↔HasRing n ts:=by
 constructor
 ·intro hr
  have ex:∀y,∃x,0<=y->y<n->0<=x/\x<n/\l.getD x.toNat 0=y:=fun y=>by
   by_cases c:0<=y/\y<n
   ·obtain⟨x,hx⟩:=h.sur c.1 c.2
    exact⟨x,fun _ _=>hx⟩
   ·exact⟨0,fun a b=>absurd ⟨a,b⟩ c⟩
  refine ring_emb (fun y=>Classical.choose (ex y)) hr (fun y y0 y1=> ?_) (fun x y x0 x1 y0 y1 e=> ?_) fun x y x0 x1 y0 y1 _=> ?_
  ·have:=Classical.choose_spec (ex y) y0 y1
   exact⟨this.1,this.2.1⟩
  ·have a:=Classical.choose_spec (ex x) x0 x1
   have b:=Classical.choose_spec (ex y) y0 y1
   (try dsimp only at e)
   rw[<-a.2.2,<-b.2.2,e]
  ·have a:=Classical.choose_spec (ex x) x0 x1
   have b:=Classical.choose_spec (ex y) y0 y1
   (try dsimp only)
   rw[<-h.so hp a.1 a.2.1 b.1 b.2.1,a.2.2,b.2.2]
 ·intro hr
  exact ring_emb (fun x=>l.getD x.toNat 0) hr (fun x a b=>h.rng a b) (fun x y a b c d e=>h.inj a b c d e) fun x y a b c d _=>h.so hp a b c d
noncomputable abbrev cts(xs:List Int)(ts:List (Int×Int)):List (Int×Int):=rows (so9 xs ts) (xs.length:Int) (xs.length:Int).toNat
theorem cut_tied{n:Int}{ts:List (Int×Int)}{xs:List Int}(hp:PairsOk n ts){i j:Int}(i0:0<=i)(i1:i<(xs.length:Int))(j0:0<=j)(j1:j<(xs.length:Int))(ne:i≠j):
  tiedL (cts xs ts) i j=tiedL ts (xs.getD i.toNat 0) (xs.getD j.toNat 0):=by
 rcases Int.lt_or_lt_of_ne ne with z|z
 ·rw[tied_rows i0 z j1];exact tied_eq hp _ _
 ·rw[zar,tied_rows j0 z i1,zar ts];exact tied_eq hp _ _
theorem SetOk.nd{n:Int}{xs:List Int}(h:SetOk n xs):xs.Nodup:=h.srt.imp fun h e=>by omega
theorem cut_ring{n:Int}{ts:List (Int×Int)}{xs:List Int}(hp:PairsOk n ts)(hs:SetOk n xs)(h:HasRing (xs.length:Int) (cts xs ts)):HasRing n ts:=by
 refine ring_emb (fun i=>xs.getD i.toNat 0) h (fun x a b=> ?_) (fun x y a b c d e=> ?_) fun x y a b c d ne=>(cut_tied hp a b c d ne).symm
 ·(try dsimp only)
  rw[zcu (by omega)]
  exact hs.lt _ (List.getElem_mem _)
 ·(try dsimp only at e)
  rw[zcu (by omega),zcu (by omega)]at e
  have:=(List.getElem_inj hs.nd).mp e
  omega
noncomputable abbrev idx(xs:List Int)(x:Int):Int:=(xs.idxOf x:Nat)
theorem idx_lt{xs:List Int}{x:Int}(h:x∈xs):0<=idx xs x/\idx xs x<(xs.length:Int):=by
 have:=List.idxOf_lt_length_iff.mpr h
 constructor
 ·exact Int.natCast_nonneg _
 ·show((xs.idxOf x:Nat):Int)<_;omega
theorem idx_at{xs:List Int}{x:Int}(h:x∈xs):xs.getD (idx xs x).toNat 0=x:=by
 have hl:=List.idxOf_lt_length_iff.mpr h
 rw[show(idx xs x).toNat=xs.idxOf x from Int.toNat_natCast _,zcu hl]
 exact List.getElem_idxOf hl
theorem idx_get{xs:List Int}(nd:xs.Nodup){k:Nat}(hk:k<xs.length):xs.idxOf xs[k]=k:=by
 have hl:=List.idxOf_lt_length_iff.mpr (List.getElem_mem hk)
 exact(List.getElem_inj nd).mp (List.getElem_idxOf hl)
theorem idx_inj{xs:List Int}{x y:Int}(hx:x∈xs)(hy:y∈xs)(e:idx xs x=idx xs y):x=y:=by
 rw[<-idx_at hx,<-idx_at hy,e]
theorem idx_tied{n:Int}{ts:List (Int×Int)}{xs:List Int}(hp:PairsOk n ts){x y:Int}(hx:x∈xs)(hy:y∈xs)(ne:x≠y):tiedL (cts xs ts) (idx xs x) (idx xs y)=tiedL ts x y:=by
 rw[cut_tied hp (idx_lt hx).1 (idx_lt hx).2 (idx_lt hy).1 (idx_lt hy).2 (fun e=>ne (idx_inj hx hy e)),idx_at hx,idx_at hy]
theorem ring_cut{n:Int}{ts:List (Int×Int)}{xs c:List Int}(hp:PairsOk n ts)(hb:Dirac.Bare (tiedL ts) c)(hc:∀x∈c,x∈xs):HasRing (xs.length:Int) (cts xs ts):=by
 refine⟨c.map (idx xs),bare_map hb (fun x hx y hy=>idx_inj (hc x hx) (hc y hy)) (fun x hx y hy=>idx_tied hp (hc x hx) (hc y hy)),fun x hx=> ?_⟩
 obtain⟨y,hy,rfl⟩:=List.mem_map.mp hx
 exact idx_lt (hc y hy)
theorem bare_two{r:Int->Int->Bool}(sym:∀a b,r a b=r b a){c:List Int}(hb:Dirac.Bare r c){i:Nat}(hi:i<c.length):
  ∃a b,∃(ha:a<c.length) (hb':b<c.length),a≠b/\a≠i/\b≠i/\∀j (hj:j<c.length),j≠i->(r c[i] c[j]=true↔j=a\/j=b):=by
 have l4:=hb.len
 have so:∀j (hj:j<c.length),j≠i->(r c[i] c[j]=true↔(j=i+1\/i=j+1\/(i=0/\j+1=c.length)\/(j=0/\i+1=c.length))):=fun j hj ne=>by
  rcases Nat.lt_or_gt_of_ne ne with z|z
  ·rw[sym,hb.so j i z hi,decide_eq_true_eq];omega
  ·rw[hb.so i j z hj,decide_eq_true_eq];omega
 by_cases e0:i=0
 ·refine⟨1,c.length-1,by omega,by omega,by omega,by omega,by omega,fun j hj ne=> ?_⟩
  rw[so j hj ne];omega
 ·by_cases e1:i+1=c.length
  ·refine⟨0,i-1,by omega,by omega,by omega,by omega,by omega,fun j hj ne=> ?_⟩
   rw[so j hj ne];omega
  ·refine⟨i-1,i+1,by omega,by omega,by omega,by omega,by omega,fun j hj ne=> ?_⟩
   rw[so j hj ne];omega
theorem len_two{l:List Int}{a b:Int}(nd:l.Nodup)(ne:a≠b)(h:∀x,x∈l↔x=a\/x=b):l.length=2:=by
 have p:l.Perm [a,b]:=by
  refine(List.perm_ext_iff_of_nodup nd (List.nodup_cons.mpr ⟨fun z=>ne (List.mem_singleton.mp z),List.nodup_cons.mpr ⟨fun z=>(nomatch z),List.nodup_nil⟩⟩)).mpr fun x=> ?_
  rw[h x,List.mem_cons,List.mem_singleton]
 exact p.length_eq
theorem ring_two{n:Int}{ts:List (Int×Int)}{xs c:List Int}(hp:PairsOk n ts)(hb:Dirac.Bare (tiedL ts) c)(hx:∀x,x∈xs↔x∈c)(nd:xs.Nodup){k:Int}(k0:0<=k)(k1:k<(xs.length:Int)):
  (neigh (xs.length:Int) (cts xs ts) k).length=2:=by
 have hk:k.toNat<xs.length:=by omega
 have mx:xs[k.toNat]∈xs:=List.getElem_mem hk
 obtain⟨i,hi,ei⟩:=List.getElem_of_mem ((hx _).mp mx)
 obtain⟨a,b,ha,hb',hab,hai,hbi,two⟩:=bare_two (fun a b=>zar ts a b) hb hi
 have ma:c[a]∈xs:=(hx _).mpr (List.getElem_mem ha)
 have mb:c[b]∈xs:=(hx _).mpr (List.getElem_mem hb')
 have ek:xs.getD k.toNat 0=c[i]:=by rw[zcu hk,ei]
 refine len_two (a:=idx xs c[a]) (b:=idx xs c[b]) ?_ (fun e=>hab ((List.getElem_inj hb.nd).mp (idx_inj ma mb e))) fun x=> ?_
 ·unfold neigh
  refine List.Pairwise.filter _ ?_
  rw[List.pairwise_map]
  exact List.nodup_range.imp fun h e=>h (by omega)
 ·have inl:x∈((List.range ((xs.length:Int)).toNat).map fun k=>(0+(k:Nat):Int))↔0<=x/\x<(xs.length:Int):=by
   rw[List.mem_map]
   constructor
   ·rintro⟨m,hm,rfl⟩
    have:=List.mem_range.mp hm
    omega
   ·rintro⟨x0,x1⟩
    exact⟨x.toNat,List.mem_range.mpr (by omega),by omega⟩
  unfold neigh
  rw[List.mem_filter,inl,tied_eq rows_ok]
  have at_:∀(j:Nat) (hj:j<c.length),c[j]∈xs:=fun j hj=>(hx _).mpr (List.getElem_mem hj)
  have val:∀(j:Nat) (hj:j<c.length),j≠i->(tiedL (cts xs ts) k (idx xs c[j])=true↔j=a\/j=b):=fun j hj ne=>by
   have nk:k≠idx xs c[j]:=fun e=>by
    have:=idx_at (at_ j hj)
    rw[<-e,ek]at this
    exact ne ((List.getElem_inj hb.nd).mp this).symm
   rw[cut_tied hp k0 k1 (idx_lt (at_ j hj)).1 (idx_lt (at_ j hj)).2 nk,ek,idx_at (at_ j hj)]
   exact two j hj ne
  constructor
  ·rintro⟨⟨x0,x1⟩,ht⟩
   have hx':x.toNat<xs.length:=by omega
   have ne:k≠x:=fun e=>by
    subst e
    unfold tiedL at ht
    have no:decide ((k,k)∈cts xs ts)=false:=decide_eq_false fun z=>by
     have:=(zct.mp z).2.2.1
     exact absurd this (Int.lt_irrefl _)
    rw[no]at ht;cases ht
   obtain⟨j,hj,ej⟩:=List.getElem_of_mem ((hx _).mp (List.getElem_mem hx'))
   have exj:idx xs c[j]=x:=by
    rw[ej]
    show((xs.idxOf xs[x.toNat]:Nat):Int)=x
    rw[idx_get nd]
    omega
   have nji:j≠i:=fun e=>by
    subst e
    rw[ei]at ej
    have:=(List.getElem_inj nd).mp ej
    omega
   rw[<-exj]at ht
   rcases(val j hj nji).mp ht with e|e
   ·left;subst e;exact exj.symm
   ·right;subst e;exact exj.symm
  ·rintro(e|e)
   ·subst e;exact⟨idx_lt ma,(val a ha hai).mpr (.inl rfl)⟩
   ·subst e;exact⟨idx_lt mb,(val b hb' hbi).mpr (.inr rfl)⟩
noncomputable def GoL(r:Int->Int->Bool):List Int->Prop
 |[]=>True
 |x::l=>Dirac.Simp r l x/\GoL r l
theorem go_of{r:Int->Int->Bool}:∀{xs:List Int},(∀k (hk:k<xs.length),Dirac.Simp r (xs.drop (k+1)) xs[k])->GoL r xs
 |[],_=>trivial
 |x::l,h=>⟨h 0 (by simp),go_of fun k hk=>h (k+1) (by simpa using hk)⟩
theorem of_go{r:Int->Int->Bool}:∀{xs:List Int},GoL r xs->∀k (hk:k<xs.length),Dirac.Simp r (xs.drop (k+1)) xs[k]
 |x::l,h,0,_=>h.1
 |x::l,h,k+1,hk=>of_go h.2 k (by simpa using hk)
theorem go_filter{r:Int->Int->Bool}{p:Int->Bool}:∀{xs:List Int},GoL r xs->GoL r (xs.filter p)
 |[],_=>trivial
 |x::l,h=>by
  rw[List.filter_cons]
  split
  ·exact⟨simp_mono (fun a ha=>(List.mem_filter.mp ha).1) h.1,go_filter h.2⟩
  ·exact go_filter h.2
theorem go_map{r r':Int->Int->Bool}{φ:Int->Int}:∀{xs:List Int},xs.Nodup->(∀x∈xs,∀y∈xs,x≠y->r' (φ x) (φ y)=r x y)->GoL r xs->GoL r' (xs.map φ)
 |[],_,_,_=>trivial
 |x::l,nd,hr,h=>by
  obtain⟨nx,nl⟩:=List.nodup_cons.mp nd
  refine⟨fun a ha b hb hab h1 h2=> ?_,go_map nl (fun y hy z hz=>hr y (List.mem_cons_of_mem _ hy) z (List.mem_cons_of_mem _ hz)) h.2⟩
  obtain⟨a',ha',rfl⟩:=List.mem_map.mp ha
  obtain⟨b',hb',rfl⟩:=List.mem_map.mp hb
  have nab:a'≠b':=fun e=>hab (by rw[e])
  rw[hr x List.mem_cons_self a' (List.mem_cons_of_mem _ ha') (fun e=>nx (e▸ha'))]at h1
  rw[hr x List.mem_cons_self b' (List.mem_cons_of_mem _ hb') (fun e=>nx (e▸hb'))]at h2
  rw[hr a' (List.mem_cons_of_mem _ ha') b' (List.mem_cons_of_mem _ hb') nab]
  exact h.1 a' ha' b' hb' nab h1 h2
theorem idx_all{xs:List Int}(nd:xs.Nodup):xs.map (idx xs)=rg (xs.length:Int):=by
 refine List.ext_getElem (by unfold rg;simp) fun k h1 h2=> ?_
 rw[List.getElem_map]
 have hk:k<xs.length:=by simpa using h1
 have e:(rg (xs.length:Int))[k]'h2=(k:Int):=by simp[rg]
 rw[e]
 show((xs.idxOf xs[k]:Nat):Int)=_
 rw[idx_get nd hk]
theorem fold_cut{n:Int}{ts:List (Int×Int)}{xs os:List Int}(hp:PairsOk n ts)(hs:SetOk n xs)(h:FoldI n ts os []):FoldI (xs.length:Int) (cts xs ts) ((os.filter fun o=>decide (o∈xs)).map (idx xs)) []:=by
 have nd:os.Nodup:=by have:=h.nd;rwa [List.append_nil]at this
 have pm:os.Perm (rg n):=by have:=h.pm;rwa [List.append_nil]at this
 have mem:∀x,x∈(os.filter fun o=>decide (o∈xs))↔x∈xs:=fun x=>by
  rw[List.mem_filter,decide_eq_true_eq]
  exact⟨fun z=>z.2,fun z=>⟨pm.mem_iff.mpr (mem_rg.mpr (hs.lt x z)),z⟩⟩
 have ndf:(os.filter fun o=>decide (o∈xs)).Nodup:=nd.filter _
 have pf:(os.filter fun o=>decide (o∈xs)).Perm xs:=(List.perm_ext_iff_of_nodup ndf hs.nd).mpr mem
 refine⟨?_,fun k hk=> ?_⟩
 ·rw[List.append_nil,<-idx_all hs.nd]
  exact pf.map _
 ·rw[List.append_nil]
  refine of_go (go_map ndf (fun x hx y hy ne=>idx_tied hp ((mem x).mp hx) ((mem y).mp hy) ne) (go_filter (go_of fun k hk=> ?_))) k hk
  have:=h.go k hk
  rwa [List.append_nil]at this
theorem fold_hasnt{n:Int}{ts:List (Int×Int)}{os:List Int}(h:FoldI n ts os []):¬HasRing n ts:=fun⟨c,hb,hc⟩=>h.noRing hb hc
theorem bes_lo{n1 n2:Int}{t1 t2:List (Int×Int)}(h1:PairsOk n1 t1)(h2:PairsOk n2 t2){x y:Int}(hx:x<n1)(hy:y<n1):tiedL (bes n1 t1 t2) x y=tiedL t1 x y:=by
 have e:∀a b:Int,a<n1->b<n1->((a,b)∈bes n1 t1 t2↔(a,b)∈t1):=fun a b ha hb=>by
  rw[mem_bes]
  refine⟨fun z=>z.elim id fun z=> ?_,.inl⟩
  have:=(h2.lt _ z).1
  (try dsimp only at this)
  omega
 unfold tiedL
 rw[Bool.eq_iff_iff,Bool.or_eq_true,Bool.or_eq_true,decide_eq_true_eq,decide_eq_true_eq,decide_eq_true_eq,decide_eq_true_eq,e x y hx hy,e y x hy hx]
theorem bes_hi{n1 n2:Int}{t1 t2:List (Int×Int)}(h1:PairsOk n1 t1)(h2:PairsOk n2 t2){x y:Int}(hx:0<=x)(hy:0<=y):tiedL (bes n1 t1 t2) (x+n1) (y+n1)=tiedL t2 x y:=by
 have e:∀a b:Int,0<=a->0<=b->((a+n1,b+n1)∈bes n1 t1 t2↔(a,b)∈t2):=fun a b ha hb=>by
  rw[mem_bes]
  (try dsimp only)
  rw[show a+n1-n1=a by omega,show b+n1-n1=b by omega]
  refine⟨fun z=>z.elim (fun z=> ?_) id,.inr⟩
  have:=(h1.lt _ z).2.2
  (try dsimp only at this)
  omega
 unfold tiedL
 rw[Bool.eq_iff_iff,Bool.or_eq_true,Bool.or_eq_true,decide_eq_true_eq,decide_eq_true_eq,decide_eq_true_eq,decide_eq_true_eq,e x y hx hy,e y x hy hx]
theorem bes_mix{n1 n2:Int}{t1 t2:List (Int×Int)}(h1:PairsOk n1 t1)(h2:PairsOk n2 t2){x y:Int}(h:tiedL (bes n1 t1 t2) x y=true):(x<n1↔y<n1):=by
 unfold tiedL at h
 rw[Bool.or_eq_true,decide_eq_true_eq,decide_eq_true_eq,mem_bes,mem_bes]at h
 rcases h with(z|z)|(z|z)
 ·have:=h1.lt _ z;(try dsimp only at this);omega
 ·have:=h2.lt _ z;(try dsimp only at this);omega
 ·have:=h1.lt _ z;(try dsimp only at this);omega
 ·have:=h2.lt _ z;(try dsimp only at this);omega
theorem ring_one_side{r:Int->Int->Bool}{c:List Int}(hb:Dirac.Bare r c){p:Int->Prop}(h:∀x y,r x y=true->(p x↔p y)):∀i (hi:i<c.length),p c[i]↔p (c[0]'(by omega)):=by
 intro i
 induction i with
 |zero=>intro _;exact Iff.rfl
 |succ i ih=>
  intro hi
  have z:=hb.so i (i+1) (by omega) hi
  rw[decide_eq_true (.inl (by omega))]at z
  exact(h _ _ z).symm.trans (ih (by omega))
theorem bes_ring{n1 n2:Int}{t1 t2:List (Int×Int)}(h1:PairsOk n1 t1)(h2:PairsOk n2 t2)(g1:0<=n1)(g2:0<=n2):HasRing (n1+n2) (bes n1 t1 t2)↔HasRing n1 t1\/HasRing n2 t2:=by
 constructor
 ·rintro⟨c,hb,hc⟩
  have l4:=hb.len
  have all:=ring_one_side hb (p:=fun x=>x<n1) fun x y h=>bes_mix h1 h2 h
  by_cases z:c[0]'(by omega)<n1
  ·left
   have lo:∀x∈c,x<n1:=fun x hx=>by
    obtain⟨i,hi,rfl⟩:=List.getElem_of_mem hx
    exact(all i hi).mpr z
   exact⟨c,bare_as hb fun x hx y hy _=>(bes_lo h1 h2 (lo x hx) (lo y hy)).symm,fun x hx=>⟨(hc x hx).1,lo x hx⟩⟩
  ·right
   have hi':∀x∈c,n1<=x:=fun x hx=>by
    obtain⟨i,hi,rfl⟩:=List.getElem_of_mem hx
    have:=mt (all i hi).mp z
    omega
   refine⟨c.map fun x=>x-n1,bare_map hb (fun x _ y _ e=>by(try dsimp only at e);omega) (fun x hx y hy _=> ?_),fun x hx=> ?_⟩
   ·have:=bes_hi h1 h2 (x:=x-n1) (y:=y-n1) (by have:=hi' x hx;omega) (by have:=hi' y hy;omega)
    rw[show x-n1+n1=x by omega,show y-n1+n1=y by omega]at this
    exact this.symm
   ·obtain⟨y,hy,rfl⟩:=List.mem_map.mp hx
    have:=hi' y hy
    have:=(hc y hy).2
    (try dsimp only)
    omega
 ·rintro(h|h)
  ·exact ring_emb (fun x=>x) h (fun x a b=>⟨a,by(try dsimp only);omega⟩) (fun x y _ _ _ _ e=>e) fun x y a b c d _=>bes_lo h1 h2 b d
  ·exact ring_emb (fun x=>x+n1) h (fun x a b=>by(try dsimp only);omega) (fun x y _ _ _ _ e=>by(try dsimp only at e);omega) fun x y a b c d _=>bes_hi h1 h2 a c
theorem one_ring{n:Int}{ts us:List (Int×Int)}{so:List Int}(hp:PairsOk n ts)(h0:0<=n)(hs:∀x∈so,0<=x/\x<n)(cr:∀x∈so,∀y∈so,x≠y->tiedL ts x y=true)(hu:∀q,q∈us↔q∈ts\/∃x∈so,q=(x,n)):
  HasRing (n+1) us↔HasRing n ts:=by
 have lo:∀x y:Int,x<n->y<n->tiedL us x y=tiedL ts x y:=fun x y hx hy=>by
  have e:∀a b:Int,a<n->b<n->((a,b)∈us↔(a,b)∈ts):=fun a b ha hb=>by
   rw[hu]
   refine⟨fun z=>z.elim id ?_,.inl⟩
   rintro⟨w,_,e⟩
   have:b=n:=congrArg Prod.snd e
   omega
  unfold tiedL
  rw[Bool.eq_iff_iff,Bool.or_eq_true,Bool.or_eq_true,decide_eq_true_eq,decide_eq_true_eq,decide_eq_true_eq,decide_eq_true_eq,e x y hx hy,e y x hy hx]
 have top:∀x:Int,tiedL us n x=true->x∈so:=fun x h=>by
  unfold tiedL at h
  rw[Bool.or_eq_true,decide_eq_true_eq,decide_eq_true_eq,hu,hu]at h
  rcases h with(z|⟨w,hw,e⟩)|(z|⟨w,hw,e⟩)
  ·have:=(hp.lt _ z);(try dsimp only at this);omega
  ·have e1:n=w:=congrArg Prod.fst e
   have:=hs w hw
   omega
  ·have:=(hp.lt _ z);(try dsimp only at this);omega
  ·have e1:x=w:=congrArg Prod.fst e
   rw[e1];exact hw
 constructor
 ·rintro⟨c,hb,hc⟩
  have nn:n∉c:=fun hm=>ring_stays hb (V:=c) (fun x hx=>hx) hm fun a ha b hb' hab h1 h2=>by
   have sa:=top a h1
   have sb:=top b h2
   rw[lo a b (hs a sa).2 (hs b sb).2]
   exact cr a sa b sb hab
  have lt:∀x∈c,x<n:=fun x hx=>by
   have:=(hc x hx).2
   have:x≠n:=fun e=>nn (e▸hx)
   omega
  exact⟨c,bare_as hb fun x hx y hy _=>(lo x y (lt x hx) (lt y hy)).symm,fun x hx=>⟨(hc x hx).1,lt x hx⟩⟩
 ·intro h
  exact ring_emb (fun x=>x) h (fun x a b=>⟨a,by(try dsimp only);omega⟩) (fun x y _ _ _ _ e=>e) fun x y a b c d _=>lo x y b d
end Hs
namespace Hs
open PySem L2 HsD
section
variable{P:Program}{w:World}{K:W.Frag}{mg:Str->Option Value}{base:Heap}
noncomputable def spFolds(K:W.Frag):Sp:=fun vs H Q _=>∃(a:Addr) (n:Int) (ts:List (Int×Int)),vs=[.ref a]/\WebIs K H a n ts/\∀b H',Same H H'->(b=true↔¬HasRing n ts)->Q (.bl b) H'
theorem set_of{n:Int}{ys zs:List Int}(hp:zs.Perm ys)(hs:zs.Pairwise (· <= ·))(nd:ys.Nodup)(lt:∀y∈ys,0<=y/\y<n):SetOk n zs:=by
 have both:=hs.and (hp.nodup_iff.mpr nd)
 exact⟨both.imp fun{x y} h=>by have:=h.1;have:=h.2;omega,fun x hx=>lt x (hp.mem_iff.mp hx)⟩
theorem len_le{n:Int}{c:List Int}(nd:c.Nodup)(lt:∀y∈c,0<=y/\y<n)(h1:n<=10):c.length<=10:=by
 have h1:Sub n.toNat c:=⟨nd,fun i hi=>by have:=lt i hi;omega⟩
 have:=h1.len
 omega
theorem sc_folds:FnScope ["web","told","small"] ["web"] (defScope zbq):=⟨rfl,rfl,rfl,by decide+kernel,rfl,by decide+kernel,by decide+kernel⟩
theorem ok_folds{f f1 f2 f3 f4 f5 f6 f7:Addr}{fd d1 d2 d3 d4 d5 d6 d7:FuncData}(F:Fun K "_law_b_folds" "_law_b_folds" zbq f fd)(D1:Dfn K mg "fold" s_fold ["web"] f1 d1)(G1':FnOk P w K mg base CX0 11 f1 d1 ["web"] (spFold K))(D2:Dfn K mg "by_fold" zdl ["web"] f2 d2)(G2:FnOk P w K mg base CX0 12 f2 d2 ["web"] (spByFoldT K))(D3:Dfn K mg "greatest_crowd" zau ["web"] f3 d3)(G3':FnOk P w K mg base CX0 9 f3 d3 ["web"] (spGreatC K))(D4:Dfn K mg "is_fold" zdb ["web","order"] f4 d4)(G4':FnOk P w K mg base CX0 8 f4 d4 ["web","order"] (spIsFold K))(D5:Dfn K mg "cut_down" zcq ["web","some"] f5 d5)(G5':FnOk P w K mg base CX0 8 f5 d5 ["web","some"] (spCut K))(D6:Dfn K mg "is_bare_ring" zbs ["web","some"] f6 d6)(G6':FnOk P w K mg base CX0 8 f6 d6 ["web","some"] (spBareRing K))(D7:Dfn K mg "neighbours" zbx ["web","place"] f7 d7)(G7':FnOk P w K mg base CX0 8 f7 d7 ["web","place"] (spNeigh K))(m_len:mg "len"=none)(m_tuple:mg "tuple"=none)(m_sorted:mg "sorted"=none)(m_any:mg "any"=none)(m_range:mg "range"=none):
  FnOk P w K mg base CX0 13 f fd ["web"] (spFolds K):=by
 have G1:FnOk P w K mg base CX0 12 f1 d1 ["web"] (spFold K):=G1'.mono (by decide)
 have G3:FnOk P w K mg base CX0 12 f3 d3 ["web"] (spGreatC K):=G3'.mono (by decide)
 have G4:FnOk P w K mg base CX0 12 f4 d4 ["web","order"] (spIsFold K):=G4'.mono (by decide)
 have G5:FnOk P w K mg base CX0 12 f5 d5 ["web","some"] (spCut K):=G5'.mono (by decide)
 have G6:FnOk P w K mg base CX0 12 f6 d6 ["web","some"] (spBareRing K):=G6'.mono (by decide)
 have G7:FnOk P w K mg base CX0 12 f7 d7 ["web","place"] (spNeigh K):=G7'.mono (by decide)
 refine F.ok sc_folds (fun vs H Q E h=> ?_) (fun cdv A outer s H vs Q E hr h=> ?_)
 ·obtain⟨a,n,ts,rfl,_⟩:=h
  rfl
 obtain⟨a,n,ts,rfl,hA,q⟩:=h
 refine⟨_,(zae (zas (i:=1) sc_folds.nd rfl (Or.inl rfl) (zaf G1 hr rfl D1.m D1.F.kp D1.b .nil pass0 (zaa (pv 0) zab))) (zae (zcs (PW.pt (pw_and (zam op_eq (zan zaw (pv 1) zag (fun _ _=>rfl)) pe_str (nomark _)) (pw_and1 (PW.pt (pw_or (zam op_isnotB (zaf G4 hr rfl D4.m D4.F.kp D4.b .nil pass0 (zaa (pv 0) (zaa (zan zaw (pv 1) zag (fun _ _=>rfl)) zab))) pe_bl (nomark _)) (pw_or1 (zam op_ne (zan zaw (zaf G2 hr rfl D2.m D2.F.kp D2.b .nil pass0 (zaa (pv 0) zab)) zag (fun _ _=>rfl)) (zai zao rfl m_len PySem.boot_len (zaa (zaf G3 hr rfl D3.m D3.F.kp D3.b .nil pass0 (zaa (pv 0) zab)) zab)) (nomark _)))))))) (zah (zal pe_non)) zay) (zae (zcs (zam op_eq (zan zaw (pv 1) zag (fun _ _=>rfl)) pe_str (nomark _)) (zae (zas (i:=2) sc_folds.nd rfl (Or.inr rfl) (zaf G5 hr rfl D5.m D5.F.kp D5.b .nil pass0 (zaa (pv 0) (zaa (zbp zav rfl m_tuple (by decide+kernel) (zaa (zai call_sortedI rfl m_sorted (by decide+kernel) (zaa (zan zaw (pv 1) zag (fun _ _=>rfl)) zab)) zab)) zab)))) (zae (zcs (PW.pt (pw_or (zam op_isnotB (zaf G6 hr rfl D6.m D6.F.kp D6.b .nil pass0 (zaa (pv 0) (zaa (zan zaw (pv 1) zag (fun _ _=>rfl)) zab))) pe_bl (nomark _)) (pw_or1 (zam op_ne (zan zaw (zaf G1 hr rfl D1.m D1.F.kp D1.b .nil pass0 (zaa (pv 2) zab)) zag (fun _ _=>rfl)) pe_str (nomark _))))) (zah (zal pe_non)) zay) (zah (zcs (zcy (zai (call_any rfl) rfl m_any (by decide+kernel) (zaa (zbo (own:=["place"]) (caps:=["small"]) (ix:=[2]) rfl (zba rfl m_range (zaa (zan zaw (pv 2) zag (fun _ _=>rfl)) zab)) rfl rfl (.cons rfl rfl .nil) (fun _ _ _ _ _=>(zaj (i:=0) (show(["place","small"]:List Str).Nodup from by decide+kernel) rfl (Or.inl rfl))) (fun _ _ _ _ _=>zcn) (fun _ _ _ _ _=>(pe_cmpR op_ne (zai (call_lenK K) rfl m_len PySem.boot_len (zaa (zaf G7 hr rfl D7.m D7.F.kp D7.b .nil pass0 (zaa (pv 1) (zaa (pv 0) zab))) zab)) zag (nomark _)))) zab))) (zah (zal pe_non)) zay)))) zay) (zah (zal (pe_cmpR op_eq (zan zaw (pv 1) zag (fun _ _=>rfl)) pe_str (nomark _))))))),?_⟩
 have h0:=hA.h0
 have h10:=hA.h1
 refine⟨_,rfl,a,n,ts,rfl,hA,fun r o xs H1 s1 c1 c2 hf=> ?_,fun r l c H1 s1 c1 c2 nl hB hc=> ?_⟩
 ·have no:=fold_hasnt hf
  have hl:=hf.len
  rw[List.length_nil]at hl
  refine⟨_,rfl,r,_,_,.str "fold",rfl,rfl,c1,rfl,?_⟩
  refine⟨rfl,_,rfl,str_eq ?_⟩
  refine⟨_,rfl,_,rfl,r,_,_,.ref o,rfl,rfl,c1,rfl,a,o,n,ts,xs.map V.int,rfl,hA.same s1,c2,IBs.ints xs,by rw[List.length_map];omega,fun H2 s2=>⟨_,_,rfl,rfl,_,rfl,?_⟩⟩
  rw[fold_ints,hf.isFold h0]
  refine iteF ?_
  have s12:=s1.trans s2
  refine⟨_,rfl,a,n,ts,rfl,hA.same s12,no,fun r2 h2 c3 sL xs2 H3 s3 hR hH hC hm hf2=>⟨r2,_,_,.int sL.length,rfl,rfl,hR,rfl,?_⟩⟩
  have s13:=s12.trans s3
  refine⟨_,rfl,a,n,ts,rfl,hA.same s13,fun g gs H4 s4 hg hm2=>⟨g,_,rfl,.inr hg,fun _=>⟨rfl,_,rfl,?_⟩⟩⟩
  have e:decide (V.int ((sL.length:Nat):Int)=V.int (((gs.map V.int).length:Nat):Int))=true:=decide_eq_true (by rw[most_one hm hm2,List.length_map])
  rw[e]
  refine iteF ?_
  have s24:=s2.trans (s3.trans s4)
  have d1:=s24.tup c1
  refine⟨_,rfl,r,_,_,.str "fold",rfl,rfl,d1,rfl,?_⟩
  refine⟨rfl,_,rfl,str_ne (by decide) ?_⟩
  refine⟨_,rfl,r,_,_,.str "fold",rfl,rfl,d1,rfl,rfl,?_⟩
  exact q _ H4 (s1.trans s24) ⟨fun _=>no,fun _=>decide_eq_true rfl⟩
 ·have yes:HasRing n ts:=⟨c,hB,hc⟩
  have hlen:=len_le hB.nd hc h10
  refine⟨_,rfl,r,_,_,.str "ring",rfl,rfl,c1,rfl,?_⟩
  refine⟨rfl,_,rfl,str_ne (by decide) ?_⟩
  refine iteF ?_
  dsimp only[tNext]
  refine seq_mid (fun σ' H'=>Same H1 H'/\∃b2,σ'=[some (.ref a),some (.ref r),b2]) (fun N hN=> ?_) (fun σ' H9 p=> ?_)
  ·refine⟨_,rfl,r,_,_,.str "ring",rfl,rfl,c1,rfl,?_⟩
   refine⟨rfl,_,rfl,str_eq ?_⟩
   refine⟨_,rfl,_,rfl,r,_,_,.ref l,rfl,rfl,c1,rfl,false,l,c,rfl,SqL.of c2,by omega,fun l2 ys hl2 hp hso=>⟨l2,_,rfl,.inl ⟨SqL.of zac,fun t ht=> ?_⟩⟩⟩
   have s2:=zad hl2 (.lst (ys.map V.int))
   have s3:=zad ht (.tup (ys.map V.int))
   have k3:SqT K (upd (upd H1 l2 (.lst (ys.map V.int))) t (.tup (ys.map V.int))) t (ys.map V.int):=SqT.of zac
   have s23:=s2.trans s3
   have s13:=s1.trans s23
   generalize (upd (upd H1 l2 (.lst (ys.map V.int))) t (.tup (ys.map V.int)))=H3 at *
   have hS:=set_of hp hso hB.nd hc
   have hyl:ys.length<=10:=by rw[hp.length_eq];exact hlen
   refine⟨a,t,n,ts,ys,rfl,hA.same s13,k3,hS,fun sm H4 s4 hW=> ?_⟩
   have hI:WebIs K H4 sm (ys.length:Int) (cts ys ts):=WebIs.rows hW (by omega) (by omega)
   have s24:=s23.trans s4
   have s14:=s1.trans s24
   have mem:∀x,x∈ys↔x∈c:=fun x=>hp.mem_iff
   refine⟨_,rfl,_,rfl,r,_,_,.ref l,rfl,rfl,s24.tup c1,rfl,a,l,n,ts,c,rfl,hA.same s14,SqL.of (s24 _ _ c2),by omega,fun H5 s5=>⟨_,_,rfl,rfl,_,rfl,?_⟩⟩
   rw[bare_is hA.pk hB hc]
   refine iteF ?_
   have rc:HasRing (ys.length:Int) (cts ys ts):=ring_cut hA.pk hB fun x hx=>(mem x).mpr hx
   refine⟨_,rfl,sm,_,_,rfl,hI.same s5,fun r' o' xs' H6 s6 e1 e2 hf'=>(fold_hasnt hf' rc).elim,fun r' l' c' H6 s6 e1 e2 nl' hB' hc'=>⟨r',_,_,.str "ring",rfl,rfl,e1,rfl,rfl,_,rfl,?_⟩⟩
   rw[decide_eq_true rfl]
   refine iteF ?_
   have hI6:=hI.same (s5.trans s6)
   obtain⟨tb,rb,b1,b2,b3⟩:=id hI6.web
   refine⟨_,rfl,sm,_,_,.int (ys.length:Int),rfl,rfl,b1,rfl,(ys.length:Int),rfl,by omega,by omega,?_⟩
   refine zbu (n:=(ys.length:Int).toNat) (fun k acc σ H'=>acc=(List.replicate k false).map V.bl/\Same H6 H'/\∃o,σ=[o,some (.ref sm)]) ⟨rfl,Same.refl _,_,rfl⟩ (fun k acc σ H' hk p=> ?_) (by rw[sizeLine_eq];omega) (fun k acc σ H' hk p=> ?_) (fun acc σ H' p=> ?_)
   ·rw[p.1,List.length_map,List.length_replicate];exact Nat.le_refl _
   ·obtain⟨rfl,sm',o,rfl⟩:=p
    have hI7:=hI6.same sm'
    refine⟨_,rfl,_,rfl,sm,_,0+(k:Int),_,rfl,hI7.web,hI7.ok,⟨by omega,by omega⟩,by omega,fun r7 H8 s8 h8=>⟨r7,_,rfl,.inr (SqT.of h8),fun _=>⟨rfl,?_⟩⟩⟩
    have e2:=ring_two hA.pk hB mem hS.nd (k:=0+(k:Int)) (by omega) (by omega)
    refine⟨?_,sm'.trans s8,_,rfl⟩
    rw[List.length_map,e2]
    rw[List.replicate_succ',List.map_append]
    rfl
   ·intro p1 hp1
    obtain⟨rfl,sm',o,rfl⟩:=p
    refine⟨p1,_,rfl,SqL.of zac,_,rfl,?_⟩
    have e3:(List.replicate (ys.length:Int).toNat false).any id=false:=by simp
    rw[e3]
    refine iteF ?_
    exact hN _ _ ⟨s24.trans (s5.trans (s6.trans (sm'.trans (zad hp1 _)))),_,rfl⟩
  obtain⟨s9,b2,rfl⟩:=p
  refine⟨_,rfl,r,_,_,.str "ring",rfl,rfl,s9.tup c1,rfl,rfl,?_⟩
  refine q _ H9 (s1.trans s9) ⟨fun z=> ?_,fun z=>absurd yes z⟩
  have:=of_decide_eq_true z
  exact absurd (V.str.inj this) (by decide)
end
end Hs
namespace Hs
open PySem L2 HsD
section
variable{P:Program}{w:World}{K:W.Frag}{mg:Str->Option Value}{base:Heap}
theorem sort_web{H:Hp}{fl:List V}{qs:List (Int×Int)}{n:Int}(dv:DVs K H fl (qs.map pairD))(pk:PairsOk n qs)(h0:0<=n)(h1:n<=10):∃its:List (Addr×List Int),fl=its.map (fun p=>V.ref p.1)/\(∀p∈its,SqT K H p.1 (p.2.map V.int)/\p.2≠[])/\its.length<64/\
  ∀its':List (Addr×List Int),its'.Perm its->its'.Pairwise (fun p q=>HT.lexLt q.2 p.2=false)->∀(H':Hp) (t1 wb:Addr),Same H H'->SqT K H' t1 (its'.map fun p=>V.ref p.1)->SqT K H' wb [.int n,.ref t1]->∃us:List (Int×Int),us.Perm qs/\WebIs K H' wb n us:=by
 have hq45:=pairs_len pk h1
 obtain⟨its,e1,e2,e3⟩:=items_of dv
 have hil2:its.length<=45:=by rw[<-List.length_map (f:=(·.2)),e2];exact hq45
 refine⟨its.map (fun p=>(p.1,pl p.2)),by rw[List.map_map];exact e1,fun p hp=> ?_,by rw[List.length_map];omega,fun its' hperm hsort H' t1 wb sm ht hw=> ?_⟩
 ·obtain⟨p',hp',rfl⟩:=List.mem_map.mp hp
  exact⟨e3 p' hp',by unfold pl;simp⟩
 let un:List Int->Int×Int:=fun l=>(l.getD 0 0,l.getD 1 0)
 have back:∀p∈its',∃q∈its,p=(q.1,pl q.2):=fun p hp=>by
  obtain⟨q,hq,e⟩:=List.mem_map.mp (hperm.mem_iff.mp hp)
  exact⟨q,hq,e.symm⟩
 have pts:(its'.map fun p=>un p.2).Perm qs:=by
  have h1:=hperm.map (fun p:Addr×List Int=>un p.2)
  rw[List.map_map]at h1
  have h2:its.map ((fun p:Addr×List Int=>un p.2)∘fun p=>(p.1,pl p.2))=qs:=by rw[<-e2];rfl
  rw[h2]at h1
  exact h1
 have pok:=pk.perm pts
 have psort:(its'.map fun p=>un p.2).Pairwise fun p q=>HT.lexLt (pl q) (pl p)=false:=by
  rw[List.pairwise_map]
  refine hsort.imp_of_mem fun{x y} hx hy hxy=> ?_
  obtain⟨qx,_,rfl⟩:=back x hx
  obtain⟨qy,_,rfl⟩:=back y hy
  exact hxy
 refine⟨its'.map (fun p=>un p.2),pts,⟨⟨t1,its'.map (fun p=>V.ref p.1),hw,ht,?_⟩,h0,h1,pok,web_ok h0 h1 pok psort⟩⟩
 have h1:=of_items (K:=K) (H:=H') (its'.map fun p=>(p.1,un p.2)) (fun p hp=>by
  obtain⟨p',hp',rfl⟩:=List.mem_map.mp hp
  obtain⟨q',hq',rfl⟩:=back p' hp'
  exact sm.tup (e3 q' hq'))
 have h2:(its'.map fun p=>(p.1,un p.2)).map (fun p=>V.ref p.1)=its'.map fun p=>V.ref p.1:=by rw[List.map_map];rfl
 have h3:(its'.map fun p=>(p.1,un p.2)).map (·.2)=its'.map fun p=>un p.2:=by rw[List.map_map];rfl
 rw[h2,h3]at h1
 exact h1
noncomputable def spCalled(K:W.Frag):Sp:=fun vs H Q _=>∃(tp scr a:Addr) (ns:List Int) (n:Int) (ts:List (Int×Int)),vs=[.ref tp,.ref a]/\TapeV K H tp scr ns/\WebIs K H a n ts/\
 ∀(r:Addr) (l:List Int) (us:List (Int×Int)) H',SameX tp H H'->TapeV K H' tp scr ns->WebIs K H' r n us->CalledW n l ts us->Q (.ref r) H'
theorem sc_called:FnScope ["tape","web","called","k","found"] ["tape","web"] (defScope zbr):=⟨rfl,rfl,rfl,by decide+kernel,rfl,by decide+kernel,by decide+kernel⟩
theorem ok_called{f f1:Addr}{fd d1:FuncData}(F:Fun K "_law_b_called" "_law_b_called" zbr f fd)(D1:Dfn K mg "_law_b_digit" zat ["tape","many"] f1 d1)(G1:FnOk P w K mg base CX0 2 f1 d1 ["tape","many"] (spDigit K))(m_range:mg "range"=none)(m_min:mg "min"=none)(m_max:mg "max"=none)(m_tuple:mg "tuple"=none)(m_sorted:mg "sorted"=none):
  FnOk P w K mg base CX0 3 f fd ["tape","web"] (spCalled K):=by
 refine F.ok sc_called (fun vs H Q E h=> ?_) (fun cdv A outer s H vs Q E hr h=> ?_)
 ·obtain⟨tp,scr,a,ns,n,ts,rfl,_⟩:=h
  rfl
 obtain⟨tp,scr,a,ns,n,ts,rfl,hT,hA,q⟩:=h
 refine⟨_,(zae (zas (i:=2) sc_called.nd rfl (Or.inr rfl) (pe_lst zab)) (zae (ps_for PassesOwn.never rfl (zba rfl m_range (zaa (zan zaw (pv 1) zag (fun _ _=>rfl)) zab)) (zaj (i:=3) sc_called.nd rfl (Or.inl rfl)) (zah (zcb (pe_bm PySem.F.plainAttrs_list PySem.F.slot_list_insert PySem.F.type_list_insert mt_insert (pv 2) (zaa (zaf G1 hr rfl D1.m D1.F.kp D1.b .nil pass0 (zaa (pv 0) (zaa (zbb zcz (pv 3) zag) zab))) (zaa (pv 3) zab)))))) (zae (zdh (i:=4) (own:=["i","j"]) (caps:=["called"]) (ix:=[2]) sc_called.nd rfl (Or.inl rfl) rfl (pi_tupL (zan zaw (pv 1) zag (fun _ _=>rfl))) rfl rfl (.cons rfl rfl .nil) (fun _ _ _ _ _=>(pg_tupK K (n:=2) rfl (zcc (zaj (i:=0) (show(["i","j","called"]:List Str).Nodup from by decide+kernel) rfl (Or.inl rfl)) (zcc (zaj (i:=1) (show(["i","j","called"]:List Str).Nodup from by decide+kernel) rfl (Or.inl rfl)) pgs_nil)))) (fun _ _ _ _ _=>zcn) (fun _ _ _ _ _=>(zck (zaa (zai (call_min2 rfl) rfl m_min (by decide+kernel) (zaa (zan (ix_listK K) (pv 2) (pv 0) (fun _ _=>rfl)) (zaa (zan (ix_listK K) (pv 2) (pv 1) (fun _ _=>rfl)) zab))) (zaa (zai (call_max2 rfl) rfl m_max (by decide+kernel) (zaa (zan (ix_listK K) (pv 2) (pv 0) (fun _ _=>rfl)) (zaa (zan (ix_listK K) (pv 2) (pv 1) (fun _ _=>rfl)) zab))) zab))))) (zah (zal (zck (zaa (zan zaw (pv 1) zag (fun _ _=>rfl)) (zaa (zbp zav rfl m_tuple (by decide+kernel) (zaa (zai call_sortedT rfl m_sorted (by decide+kernel) (zaa (pv 4) zab)) zab)) zab)))))))),?_⟩
 have h0:=hA.h0
 have h10:=hA.h1
 have h45:=hA.len
 obtain⟨ta,ra,a1,a2,a3⟩:=id hA.web
 obtain⟨z1,hz1⟩:=TapeV.lst hT
 refine⟨(by show 0<=sizeLine;decide),fun cl hcl=> ?_⟩
 have s2:=zad hcl (.lst [])
 have nct:cl≠tp:=zbc hz1 hcl
 refine⟨_,rfl,a,_,_,.int n,rfl,rfl,s2.tup a1,rfl,n,rfl,by omega,by omega,?_⟩
 refine for_range (n:=n.toNat) (fun k σ H'=>∃l b3,σ=[some (.ref tp),some (.ref a),some (.ref cl),b3,none]/\SameX tp H H'/\TapeV K H' tp scr ns/\WebIs K H' a n ts/\H' cl=some (.lst (l.map V.int))/\Sub k l/\l.length=k) ⟨[],_,rfl,s2.x _,hT.same s2,hA.same s2,zac,Sub.nil _,rfl⟩ (fun k σ H' hk p=> ?_) (fun σ H' p=> ?_)
 ·obtain⟨l,b3,rfl,sx,tv,hW,hl,hs,hlen⟩:=p
  obtain⟨z2,hz2⟩:=TapeV.lst tv
  refine⟨_,rfl,.inl ⟨rfl,_,SqL.of hl⟩,_,rfl,_,rfl,_,_,rfl,rfl,tp,scr,ns,_,rfl,tv,by omega,by omega,fun r H2 hr0 hr1 x2 tv2=>⟨_,rfl,?_⟩⟩
  have er:r=((r.toNat:Nat):Int):=by omega
  have hl2:=x2 _ _ nct hl
  have hW2:=hW.samex x2 hz2
  refine⟨cl,l.map V.int,r.toNat,.int (0+(k:Int)),rfl,?_,hl2,by rw[List.length_map];omega,by rw[List.length_map];omega,?_⟩
  ·rw[<-er]
  ·have ei:insV (l.map V.int) r.toNat (.int (0+(k:Int)))=(l.take r.toNat++(k:Int)::l.drop r.toNat).map V.int:=by
    unfold insV
    rw[List.map_append,List.map_cons,List.map_take,List.map_drop]
    have:(0:Int)+(k:Int)=(k:Int):=by omega
    rw[this]
   have xw:SameX cl H2 (upd H2 cl (.lst (insV (l.map V.int) r.toNat (.int (0+(k:Int)))))):=(SameX.refl _ _).upd
   refine⟨l.take r.toNat++(k:Int)::l.drop r.toNat,_,rfl,?_,tv2.other xw hl2 nct.symm,hW2.samex xw hl2,by rw[zac,ei],ins_sub hs (by omega),by simp;omega⟩
   intro b o hb e
   have nb:b≠cl:=fun z=>by rw[z,hcl]at e;cases e
   exact xw _ _ nb (x2 _ _ hb (sx b o hb e))
 obtain⟨l,b3,rfl,sx,tv,hW,hl,hs,hlen⟩:=p
 have en:((n.toNat:Nat):Int)=n:=by omega
 obtain⟨tb,rb,c1,c2,c3⟩:=id hW.web
 have hrl:=c3.len
 rw[List.length_map]at hrl
 have hps':PairsOk ((n.toNat:Nat):Int) ts:=by rw[en];exact hA.pk
 refine⟨_,rfl,a,_,_,.ref tb,rfl,rfl,c1,rfl,tb,rb,rfl,c2,fun hz=> ?_⟩
 refine comp_tup (xs:=rb) (fun i acc σ H2=>Same H' H2/\acc.length=i/\DVs K H2 acc (((ts.take i).map (mp l)).map pairD)/\∃o1 o2,σ=[o1,o2,some (.ref cl)]) ⟨Same.refl _,rfl,.nil,_,_,rfl⟩ (fun i acc σ H2 _ p=>p.1.tup c2) (fun i acc σ H2 hi p=>by rw[p.2.1];exact Nat.le_refl _) hz (fun i x acc σ H2 hx p=> ?_) (fun acc σ H2 p=> ?_)
 ·obtain⟨sm,hla,hd,o1,o2,rfl⟩:=p
  obtain⟨t,hi,rfl,hT2⟩:=pair_at c3 hx
  obtain⟨p0,p1,p2⟩:=hA.pk.lt ts[i] (List.getElem_mem hi)
  obtain⟨v1,g1,g1'⟩:=at_ints (ns:=l) (k:=ts[i].1) p0 (by omega)
  obtain⟨v2,g2,g2'⟩:=at_ints (ns:=l) (k:=ts[i].2) (by omega) (by omega)
  have hc6:SqL K H2 cl (l.map V.int):=SqL.of (sm _ _ hl)
  refine⟨t,_,rfl,sm.tup hT2,rfl,_,_,rfl,_,_,rfl,rfl,?_⟩
  refine⟨_,rfl,_,rfl,cl,_,_,_,rfl,rfl,hc6,g1,_,rfl,_,rfl,cl,_,_,_,rfl,rfl,hc6,g2,_,_,rfl,_,rfl,_,rfl,cl,_,_,_,rfl,rfl,hc6,g1,_,rfl,_,rfl,cl,_,_,_,rfl,rfl,hc6,g2,_,_,rfl,(by show 2<=sizeLine;decide),fun pn hpn=> ?_⟩
  have sn:=zad hpn (.tup [.int (if v2<v1 then v2 else v1),.int (if v2>v1 then v2 else v1)])
  refine⟨sm.trans sn,by rw[List.length_append,hla];rfl,?_,_,_,rfl⟩
  have em:mp l ts[i]=(if v2<v1 then v2 else v1,if v2>v1 then v2 else v1):=by
   unfold mp
   rw[List.getD_eq_getElem?_getD,List.getD_eq_getElem?_getD,g1',g2'];rfl
  have ea:((ts.take (i+1)).map (mp l)).map pairD=((ts.take i).map (mp l)).map pairD++[pairD (if v2<v1 then v2 else v1,if v2>v1 then v2 else v1)]:=by
   rw[List.take_add_one,List.getElem?_eq_getElem hi,<-em,List.map_append,List.map_append];rfl
  rw[ea]
  exact(DVs.same sn hd).snoc (.tup (SqT.of zac) (.cons (.int _) (.cons (.int _) .nil)))
 ·intro fd hfd
  obtain⟨sm,hla,hd,_⟩:=p
  rw[hrl,List.take_length]at hd
  have hq:=mp_ok hs hlen hps'
  rw[en]at hq
  have s3:=zad hfd (.lst acc)
  have hd3:=DVs.same s3 hd
  have k3:(upd H2 fd (.lst acc)) fd=some (.lst acc):=zac
  have s13:=sm.trans s3
  generalize (upd H2 fd (.lst acc))=H3 at *
  obtain⟨its,e1,e2,e3,fin⟩:=sort_web hd3 hq h0 h10
  refine⟨_,rfl,a,_,_,.int n,rfl,rfl,s13.tup c1,rfl,_,rfl,fd,its,rfl,by rw[<-e1];exact SqL.of k3,e2,e3,fun l1 its' hl1 hperm hsort=> ?_⟩
  have s7:=zad hl1 (.lst (its'.map fun p=>V.ref p.1))
  refine⟨l1,_,rfl,.inl ⟨SqL.of zac,fun t1 ht1=>⟨(by show 2<=sizeLine;decide),fun wb hwb=> ?_⟩⟩⟩
  have s8:=zad ht1 (.tup (its'.map fun p=>V.ref p.1))
  have s9:=zad hwb (.tup [.int n,.ref t1])
  have s789:=s7.trans (s8.trans s9)
  obtain⟨us,hu,hWu⟩:=fin its' hperm hsort _ t1 wb s789 (s9.tup (SqT.of zac)) (SqT.of zac)
  refine q wb l us _ (sx.trans ((s13.trans s789).x _)) (tv.same (s13.trans s789)) hWu ⟨hs,hlen,hWu.pk,fun qq=> ?_⟩
  rw[hu.mem_iff,List.mem_map]
  exact⟨fun⟨p,hp,e⟩=>⟨p,hp,e.symm⟩,fun⟨p,hp,e⟩=>⟨p,hp,e.symm⟩⟩
end
end Hs
namespace Hs
open PySem L2 HsD
section
variable{P:Program}{w:World}{K:W.Frag}{mg:Str->Option Value}{base:Heap}
noncomputable def spWithOne(K:W.Frag):Sp:=fun vs H Q _=>∃(tp scr a:Addr) (ns:List Int) (n:Int) (ts:List (Int×Int)),vs=[.ref tp,.ref a]/\TapeV K H tp scr ns/\WebIs K H a n ts/\n<10/\
 ∀(r:Addr) (so:List Int) (us:List (Int×Int)) H',SameX tp H H'->TapeV K H' tp scr ns->WebIs K H' r (n+1) us->SetOk n so->agreeB ts so true=true->(∀q,q∈us↔q∈ts\/∃x∈so,q=(x,n))->Q (.ref r) H'
theorem sc_withOne:FnScope ["tape","web","some","place"] ["tape","web"] (defScope zbd):=⟨rfl,rfl,rfl,by decide+kernel,rfl,by decide+kernel,by decide+kernel⟩
theorem ok_withOne{f f1 f2:Addr}{fd d1 d2:FuncData}(F:Fun K "_law_b_with_one" "_law_b_with_one" zbd f fd)(D1:Dfn K mg "is_crowd" zcw ["web","some"] f1 d1)(G1:FnOk P w K mg base CX0 8 f1 d1 ["web","some"] (spIsCrowd K))(D2:Dfn K mg "_law_b_digit" zat ["tape","many"] f2 d2)(G2':FnOk P w K mg base CX0 2 f2 d2 ["tape","many"] (spDigit K))(m_range:mg "range"=none)(m_tuple:mg "tuple"=none)(m_sorted:mg "sorted"=none)(m_list:mg "list"=none):
  FnOk P w K mg base CX0 9 f fd ["tape","web"] (spWithOne K):=by
 have G2:FnOk P w K mg base CX0 8 f2 d2 ["tape","many"] (spDigit K):=G2'.mono (by decide)
 refine F.ok sc_withOne (fun vs H Q E h=> ?_) (fun cdv A outer s H vs Q E hr h=> ?_)
 ·obtain⟨tp,scr,a,ns,n,ts,rfl,_⟩:=h
  rfl
 obtain⟨tp,scr,a,ns,n,ts,rfl,hT,hA,hn,q⟩:=h
 refine⟨_,(zae (zas (i:=2) sc_withOne.nd rfl (Or.inl rfl) (pe_lst zab)) (zae (ps_for PassesOwn.never rfl (zba rfl m_range (zaa (zan zaw (pv 1) zag (fun _ _=>rfl)) zab)) (zaj (i:=3) sc_withOne.nd rfl (Or.inl rfl)) (zah (zcs (PW.pt (pw_and (zam op_eq (zaf G2 hr rfl D2.m D2.F.kp D2.b .nil pass0 (zaa (pv 0) (zaa zag zab))) zag (nomark _)) (pw_and1 (zcy (zaf G1 hr rfl D1.m D1.F.kp D1.b .nil pass0 (zaa (pv 1) (zaa (zbp zav rfl m_tuple (by decide+kernel) (zaa (zbb op_cat (pv 2) (pe_lst (zaa (pv 3) zab))) zab)) zab))))))) (zah (zcb (pe_bm PySem.F.plainAttrs_list PySem.F.slot_list_append PySem.F.type_list_append mt_append (pv 2) (zaa (pv 3) zab)))) zay))) (zah (zal (zck (zaa (zbb zcz (zan zaw (pv 1) zag (fun _ _=>rfl)) zag) (zaa (zbp zav rfl m_tuple (by decide+kernel) (zaa (zai call_sortedT rfl m_sorted (by decide+kernel) (zaa (zbb op_cat (zbp call_list_of rfl m_list (by decide+kernel) (zaa (zan zaw (pv 1) zag (fun _ _=>rfl)) zab)) (zbo (own:=["place"]) (caps:=["web"]) (ix:=[1]) rfl (zdc (pv 2)) rfl rfl (.cons rfl rfl .nil) (fun _ _ _ _ _=>(zaj (i:=0) (show(["place","web"]:List Str).Nodup from by decide+kernel) rfl (Or.inl rfl))) (fun _ _ _ _ _=>zcn) (fun _ _ _ _ _=>(zck (zaa (pv 0) (zaa (zan (ix_tupK K) (pv 1) zag (fun _ _=>rfl)) zab)))))) zab)) zab)) zab))))))),?_⟩
 have h0:=hA.h0
 have h10:=hA.h1
 have h45:=hA.len
 obtain⟨ta,ra,a1,a2,a3⟩:=id hA.web
 obtain⟨z1,hz1⟩:=TapeV.lst hT
 refine⟨(by show 0<=sizeLine;decide),fun sl hsl=> ?_⟩
 have s2:=zad hsl (.lst [])
 have nst:sl≠tp:=zbc hz1 hsl
 refine⟨_,rfl,a,_,_,.int n,rfl,rfl,s2.tup a1,rfl,n,rfl,by omega,by omega,?_⟩
 refine for_range (n:=n.toNat) (fun k σ H'=>∃so b3,σ=[some (.ref tp),some (.ref a),some (.ref sl),b3]/\SameX tp H H'/\TapeV K H' tp scr ns/\WebIs K H' a n ts/\H' sl=some (.lst (so.map V.int))/\SetOk (k:Int) so/\agreeB ts so true=true) ⟨[],_,rfl,s2.x _,hT.same s2,hA.same s2,zac,SetOk.nil _,rfl⟩ (fun k σ H' hk p=> ?_) (fun σ H' p=> ?_)
 ·obtain⟨so,b3,rfl,sx,tv,hW,hl,hs,hag⟩:=p
  obtain⟨z2,hz2⟩:=TapeV.lst tv
  have ek:(0+(k:Int))=(k:Int):=by omega
  have hup:SetOk ((k+1:Nat):Int) so:=⟨hs.srt,fun x hx=>by have:=hs.lt x hx;omega⟩
  have hlk:=hs.len (n:=(k:Int)) (by omega)
  refine⟨_,rfl,tp,scr,ns,2,rfl,tv,by decide,by decide,fun d H2 d0 d1 x2 tv2=>⟨rfl,_,rfl,?_⟩⟩
  have hl2:=x2 _ _ nst hl
  have hW2:=hW.samex x2 hz2
  refine ite2 (fun c=> ?_) (fun c=> ?_)
  ·refine⟨_,rfl,_,rfl,_,rfl,(by show 1<=sizeLine;decide),fun p1 hp1=> ?_⟩
   have s3:=zad hp1 (.lst [.int (0+(k:Int))])
   refine⟨sl,p1,_,_,rfl,rfl,s3 _ _ hl2,zac,(by rw[List.length_map,sizeLine_eq];show _+1<=_;omega),fun p2 hp2=> ?_⟩
   have s4:=zad hp2 (.lst (so.map V.int++[.int (0+(k:Int))]))
   refine⟨p2,_,rfl,.inl ⟨SqL.of zac,fun t ht=> ?_⟩⟩
   have s5:=zad ht (.tup (so.map V.int++[.int (0+(k:Int))]))
   have k5:SqT K (upd (upd (upd H2 p1 (.lst [.int (0+(k:Int))])) p2 (.lst (so.map V.int++[.int (0+(k:Int))]))) t (.tup (so.map V.int++[.int (0+(k:Int))]))) t ((so++[(k:Int)]).map V.int):=by
    rw[List.map_append]
    show SqT K _ t (so.map V.int++[.int (k:Int)])
    rw[ek]
    exact SqT.of zac
   have s35:=s3.trans (s4.trans s5)
   generalize (upd (upd (upd H2 p1 (.lst [.int (0+(k:Int))])) p2 (.lst (so.map V.int++[.int (0+(k:Int))]))) t (.tup (so.map V.int++[.int (0+(k:Int))])))=H5 at *
   have okk:SetOk ((k+1:Nat):Int) (so++[(k:Int)]):=by
    refine⟨List.pairwise_append.mpr ⟨hs.srt,List.pairwise_singleton _ _,fun x hx y hy=> ?_⟩,fun x hx=> ?_⟩
    ·rw[List.mem_singleton.mp hy];exact(hs.lt x hx).2
    ·rcases List.mem_append.mp hx with z|z
     ·have:=hs.lt x z;omega
     ·rw[List.mem_singleton.mp z];omega
   have okn:SetOk n (so++[(k:Int)]):=⟨okk.srt,fun x hx=>by have:=okk.lt x hx;omega⟩
   refine⟨a,t,n,ts,so++[(k:Int)],rfl,hW2.same s35,k5,okn,fun H6 s6=>⟨_,rfl,?_⟩⟩
   have s26:=s35.trans s6
   have hl6:=s26 _ _ hl2
   refine ite2 (fun c2=> ?_) (fun c2=> ?_)
   ·refine⟨_,rfl,.inl ⟨rfl,_,SqL.of hl6⟩,_,rfl,?_⟩
    refine⟨sl,_,_,rfl,rfl,hl6,(by rw[List.length_map,sizeLine_eq];omega),?_⟩
    have xw:SameX sl H6 (upd H6 sl (.lst (so.map V.int++[.int (0+(k:Int))]))):=(SameX.refl _ _).upd
    refine⟨so++[(k:Int)],_,rfl,fun b o hb e=> ?_,(tv2.same s26).other xw hl6 nst.symm,(hW2.same s26).samex xw hl6,by rw[zac,List.map_append,ek];rfl,okk,c2⟩
    have nb:b≠sl:=fun z=>by rw[z,hsl]at e;cases e
    exact xw _ _ nb (s26 _ _ (x2 _ _ hb (sx b o hb e)))
   ·exact⟨so,_,rfl,sx.trans (x2.trans (s26.x _)),tv2.same s26,hW2.same s26,hl6,hup,hag⟩
  ·exact⟨so,_,rfl,sx.trans x2,tv2,hW2,hl2,hup,hag⟩
 obtain⟨so,b3,rfl,sx,tv,hW,hl,hs,hag⟩:=p
 have en:((n.toNat:Nat):Int)=n:=by omega
 rw[en]at hs
 have hs10:=hs.len h10
 obtain⟨tb,rb,c1,c2,c3⟩:=id hW.web
 have hrl:=c3.len
 rw[List.length_map]at hrl
 refine⟨_,rfl,a,_,_,.int n,rfl,rfl,c1,rfl,_,_,rfl,rfl,?_⟩
 refine⟨_,rfl,a,_,_,.ref tb,rfl,rfl,c1,rfl,tb,rb,rfl,.inr c2,fun p1 hp1=> ?_⟩
 have s3:=zad hp1 (.lst rb)
 have k3:(upd H' p1 (.lst rb)) p1=some (.lst rb):=zac
 generalize (upd H' p1 (.lst rb))=H3 at *
 refine⟨_,rfl,sl,_,rfl,SqL.of (s3 _ _ hl),fun hz=> ?_⟩
 refine zde (xs:=so.map V.int) (fun i acc σ H2=>Same H3 H2/\acc.length=i/\DVs K H2 acc (((so.take i).map fun x=>(x,n)).map pairD)/\∃o,σ=[o,some (.ref a)]) ⟨Same.refl _,rfl,.nil,_,rfl⟩ (fun i acc σ H2 _ p=>p.1.seq (SqL.of (s3 _ _ hl))) (fun i acc σ H2 hi p=>by rw[p.2.1];exact Nat.le_refl _) hz (fun i x acc σ H2 hx p=> ?_) (fun acc σ H2 p=> ?_)
 ·obtain⟨sm,hla,hd,o,rfl⟩:=p
  rw[List.getElem?_map]at hx
  cases ex:so[i]? with
  |none=>rw[ex]at hx;cases hx
  |some y=>
   rw[ex]at hx
   cases hx
   refine⟨_,rfl,_,rfl,a,_,_,.int n,rfl,rfl,(s3.trans sm).tup c1,rfl,(by show 2<=sizeLine;decide),fun pn hpn=> ?_⟩
   have sn:=zad hpn (.tup [.int y,.int n])
   refine⟨sm.trans sn,by rw[List.length_append,hla];rfl,?_,_,rfl⟩
   have ea:((so.take (i+1)).map fun x=>(x,n)).map pairD=((so.take i).map fun x=>(x,n)).map pairD++[pairD (y,n)]:=by
    rw[List.take_add_one,ex,List.map_append,List.map_append];rfl
   rw[ea]
   exact(DVs.same sn hd).snoc (.tup (SqT.of zac) (.cons (.int _) (.cons (.int _) .nil)))
 ·intro p2 hp2
  obtain⟨sm,hla,hd,_⟩:=p
  rw[List.length_map,List.take_length]at hd
  rw[List.length_map]at hla
  have s4:=zad hp2 (.lst acc)
  refine⟨p1,p2,_,_,rfl,rfl,s4 _ _ (sm _ _ k3),zac,(by rw[hla,hrl,sizeLine_eq];omega),fun fd hfd=> ?_⟩
  have s5:=zad hfd (.lst (rb++acc))
  have k5:(upd (upd H2 p2 (.lst acc)) fd (.lst (rb++acc))) fd=some (.lst (rb++acc)):=zac
  have s45:=s4.trans s5
  have s15:=s3.trans (sm.trans s45)
  generalize (upd (upd H2 p2 (.lst acc)) fd (.lst (rb++acc)))=H5 at *
  have hd5:DVs K H5 (rb++acc) ((ts++so.map fun x=>(x,n)).map pairD):=by
   rw[List.map_append]
   exact(DVs.same s15 c3).append (DVs.same s45 hd)
  have hq:PairsOk (n+1) (ts++so.map fun x=>(x,n)):=by
   refine⟨List.nodup_append.mpr ⟨hA.pk.nd,?_,fun x hx y hy e=> ?_⟩,fun p hp=> ?_⟩
   ·rw[List.nodup_iff_pairwise_ne,List.pairwise_map]
    exact hs.srt.imp fun h e=>by have:_=_:=congrArg Prod.fst e;dsimp only at this;omega
   ·obtain⟨w',_,rfl⟩:=List.mem_map.mp hy
    have:=(hA.pk.lt x hx).2.2
    rw[e]at this
    exact absurd this (Int.lt_irrefl _)
   ·rcases List.mem_append.mp hp with z|z
    ·have:=hA.pk.lt p z;omega
    ·obtain⟨x,hx,rfl⟩:=List.mem_map.mp z
     have:=hs.lt x hx
     dsimp only
     omega
  obtain⟨its,e1,e2,e3,fin⟩:=sort_web hd5 hq (by omega) (by omega)
  refine⟨fd,its,rfl,by rw[<-e1];exact SqL.of k5,e2,e3,fun l1 its' hl1 hperm hsort=> ?_⟩
  have s7:=zad hl1 (.lst (its'.map fun p=>V.ref p.1))
  refine⟨l1,_,rfl,.inl ⟨SqL.of zac,fun t1 ht1=>⟨(by show 2<=sizeLine;decide),fun wb hwb=> ?_⟩⟩⟩
  have s8:=zad ht1 (.tup (its'.map fun p=>V.ref p.1))
  have s9:=zad hwb (.tup [.int (n+1),.ref t1])
  have s789:=s7.trans (s8.trans s9)
  obtain⟨us,hu,hWu⟩:=fin its' hperm hsort _ t1 wb s789 (s9.tup (SqT.of zac)) (SqT.of zac)
  refine q wb so us _ (sx.trans ((s15.trans s789).x _)) (tv.same (s15.trans s789)) hWu hs hag fun qq=> ?_
  rw[hu.mem_iff,List.mem_append,List.mem_map]
  exact⟨fun z=>z.imp id fun⟨x,hx,e⟩=>⟨x,hx,e.symm⟩,fun z=>z.imp id fun⟨x,hx,e⟩=>⟨x,hx,e.symm⟩⟩
end
end Hs
namespace Hs
open PySem L2 HsD
section
variable{P:Program}{w:World}{K:W.Frag}{mg:Str->Option Value}{base:Heap}
noncomputable def spCutRight(K:W.Frag):Sp:=fun vs H Q _=>∃(tp scr a:Addr) (ns:List Int) (n:Int) (ts:List (Int×Int)) (so:Bool),vs=[.ref tp,.ref a,.bl so]/\TapeV K H tp scr ns/\WebIs K H a n ts/\(so=true↔¬HasRing n ts)/\
 ∀H',SameX tp H H'->TapeV K H' tp scr ns->Q (.bl true) H'
theorem rng_sub{k m:Nat}(h:k<=m):(rng k).Sublist (rng m):=by
 unfold rng
 exact(List.range_sublist.mpr h).map _
theorem rng_okS(n:Int):SetOk n (rng n.toNat):=upto_ok n
theorem zdf:FnScope ["tape","web","so","turn","some","small","told","order"] ["tape","web","so"] (defScope zax):=⟨rfl,rfl,rfl,by decide+kernel,rfl,by decide+kernel,by decide+kernel⟩
theorem ok_cutRight{f f1 f2 f3 f4 f5:Addr}{fd d1 d2 d3 d4 d5:FuncData}(F:Fun K "_law_b_cut_right" "_law_b_cut_right" zax f fd)(D1:Dfn K mg "_law_b_digit" zat ["tape","many"] f1 d1)(G1':FnOk P w K mg base CX0 2 f1 d1 ["tape","many"] (spDigit K))(D2:Dfn K mg "cut_down" zcq ["web","some"] f2 d2)(G2':FnOk P w K mg base CX0 8 f2 d2 ["web","some"] (spCut K))(D3:Dfn K mg "_law_b_folds" zbq ["web"] f3 d3)(G3:FnOk P w K mg base CX0 13 f3 d3 ["web"] (spFolds K))(D4:Dfn K mg "fold" s_fold ["web"] f4 d4)(G4':FnOk P w K mg base CX0 11 f4 d4 ["web"] (spFold K))(D5:Dfn K mg "is_fold" zdb ["web","order"] f5 d5)(G5':FnOk P w K mg base CX0 8 f5 d5 ["web","order"] (spIsFold K))(m_range:mg "range"=none)(m_tuple:mg "tuple"=none):
  FnOk P w K mg base CX0 14 f fd ["tape","web","so"] (spCutRight K):=by
 have G1:FnOk P w K mg base CX0 13 f1 d1 ["tape","many"] (spDigit K):=G1'.mono (by decide)
 have G2:FnOk P w K mg base CX0 13 f2 d2 ["web","some"] (spCut K):=G2'.mono (by decide)
 have G4:FnOk P w K mg base CX0 13 f4 d4 ["web"] (spFold K):=G4'.mono (by decide)
 have G5:FnOk P w K mg base CX0 13 f5 d5 ["web","order"] (spIsFold K):=G5'.mono (by decide)
 refine F.ok zdf (fun vs H Q E h=> ?_) (fun cdv A outer s H vs Q E hr h=> ?_)
 ·obtain⟨tp,scr,a,ns,n,ts,so,rfl,_⟩:=h
  rfl
 obtain⟨tp,scr,a,ns,n,ts,so,rfl,hT,hA,hso,q⟩:=h
 refine⟨_,(zae (ps_for PassesOwn.never rfl (zba rfl m_range (zaa zag zab)) (zaj (i:=3) zdf.nd rfl (Or.inl rfl)) (zae (zas (i:=4) zdf.nd rfl (Or.inr rfl) (zbp call_tuple_ofF rfl m_tuple (by decide+kernel) (zaa (zbo (own:=["place"]) (caps:=["tape"]) (ix:=[0]) rfl (zba rfl m_range (zaa (zan zaw (pv 1) zag (fun _ _=>rfl)) zab)) rfl rfl (.cons rfl rfl .nil) (fun _ _ _ _ _=>(zaj (i:=0) (show(["place","tape"]:List Str).Nodup from by decide+kernel) rfl (Or.inl rfl))) (fun _ _ _ _ _=>zcr (zam op_gt (zaf G1 hr rfl D1.m D1.F.kp D1.b .nil pass0 (zaa (pv 1) (zaa zag zab))) zag (nomark _))) (fun _ _ _ _ _=>(pv 0))) zab))) (zae (zas (i:=5) zdf.nd rfl (Or.inl rfl) (zaf G2 hr rfl D2.m D2.F.kp D2.b .nil pass0 (zaa (pv 1) (zaa (pv 4) zab)))) (zae (zas (i:=6) zdf.nd rfl (Or.inl rfl) (zaf G3 hr rfl D3.m D3.F.kp D3.b .nil pass0 (zaa (pv 5) zab))) (zae (zcs (PW.pt (pw_or (zam op_isN (pv 6) pe_non (nomark _)) (pw_or1 (PW.pt (pw_and (zcy (pv 2)) (pw_and1 (pt_not (zcy (pv 6))))))))) (zah (zal pe_bl)) zay) (zah (zcs (zcy (pv 2)) (zae (zas (i:=7) zdf.nd rfl (Or.inl rfl) (zbp zav rfl m_tuple (by decide+kernel) (zaa (zbo (own:=["place"]) (caps:=["some"]) (ix:=[4]) rfl (pi_tupL (zan zaw (zaf G4 hr rfl D4.m D4.F.kp D4.b .nil pass0 (zaa (pv 1) zab)) zag (fun _ _=>rfl))) rfl rfl (.cons rfl rfl .nil) (fun _ _ _ _ _=>(zaj (i:=0) (show(["place","some"]:List Str).Nodup from by decide+kernel) rfl (Or.inl rfl))) (fun _ _ _ _ _=>zcr (zam (op_inDK K hr.units) (pv 0) (pv 1) (by with_unfolding_all rfl))) (fun _ _ _ _ _=>(pe_tix (pv 1) (zaa (pv 0) zab)))) zab))) (zah (zcs (zam op_isnotB (zaf G5 hr rfl D5.m D5.F.kp D5.b .nil pass0 (zaa (pv 5) (zaa (pv 7) zab))) pe_bl (nomark _)) (zah (zal pe_bl)) zay))) zay))))))) (zah (zal pe_bl))),?_⟩
 have h0:=hA.h0
 have h10:=hA.h1
 refine⟨4,rfl,by decide,by decide,?_⟩
 refine for_range (n:=4) (fun i σ H'=>SameX tp H H'/\TapeV K H' tp scr ns/\WebIs K H' a n ts/\∃b3 b4 b5 b6 b7,σ=[some (.ref tp),some (.ref a),some (.bl so),b3,b4,b5,b6,b7]) ⟨SameX.refl _ _,hT,hA,_,_,_,_,_,rfl⟩ (fun i σ H1 hi p=> ?_) (fun σ H1 p=> ?_)
 ·obtain⟨x1,tv1,hA1,b3,b4,b5,b6,b7,rfl⟩:=p
  obtain⟨ta,ra,a1,a2,a3⟩:=id hA1.web
  refine⟨_,rfl,a,_,_,.int n,rfl,rfl,a1,rfl,n,rfl,by omega,by omega,?_⟩
  refine zbu (n:=n.toNat) (fun k acc σ H'=>∃ys:List Int,acc=ys.map V.int/\ys.Sublist (rng k)/\SameX tp H H'/\TapeV K H' tp scr ns/\WebIs K H' a n ts/\∃o,σ=[o,some (.ref tp)]) ⟨[],rfl,List.nil_sublist _,x1,tv1,hA1,_,rfl⟩ (fun k acc σ H' hk p=> ?_) (by rw[sizeLine_eq];omega) (fun k acc σ H2 hk p=> ?_) (fun acc σ H2 p=> ?_)
  ·obtain⟨ys,rfl,hs,_⟩:=p
   rw[List.length_map]
   have:=hs.length_le
   unfold rng at this
   simpa using this
  ·obtain⟨ys,rfl,hs,x2,tv2,hA2,o,rfl⟩:=p
   obtain⟨z2,hz2⟩:=TapeV.lst tv2
   refine⟨_,rfl,tp,scr,ns,3,rfl,tv2,by decide,by decide,fun d H3 d0 d1 x3 tv3=>⟨_,_,rfl,rfl,_,rfl,?_⟩⟩
   have hA3:=hA2.samex x3 hz2
   have ek:(0+(k:Int))=(k:Int):=by omega
   refine ite2 (fun c=> ?_) (fun c=> ?_)
   ·refine⟨_,rfl,ys++[(k:Int)],by rw[List.map_append,ek];rfl,?_,x2.trans x3,tv3,hA3,_,rfl⟩
    have:rng (k+1)=rng k++[(k:Int)]:=by unfold rng;rw[List.range_succ,List.map_append];rfl
    rw[this]
    exact List.Sublist.append hs (List.Sublist.refl _)
   ·exact⟨ys,rfl,hs.trans (rng_sub (Nat.le_succ k)),x2.trans x3,tv3,hA3,_,rfl⟩
  intro l hl
  obtain⟨ys,rfl,hs,x2,tv2,hA2,o,rfl⟩:=p
  refine⟨l,_,rfl,SqL.of zac,fun t ob ht hob=> ?_⟩
  have s3:=zad hl (.lst (ys.map V.int))
  have s4:=zad ht (.frz ob (.tup (ys.map V.int)))
  have s34:=s3.trans s4
  have k4:(upd (upd H2 l (.lst (ys.map V.int))) t (.frz ob (.tup (ys.map V.int)))) t=some (.frz ob (.tup (ys.map V.int))):=zac
  have x4:SameX tp H (upd (upd H2 l (.lst (ys.map V.int))) t (.frz ob (.tup (ys.map V.int)))):=x2.trans (s34.x _)
  have tv4:=tv2.same s34
  have hA4:=hA2.same s34
  generalize (upd (upd H2 l (.lst (ys.map V.int))) t (.frz ob (.tup (ys.map V.int))))=H4 at *
  have T4:SqT K H4 t (ys.map V.int):= .inl (.inr ⟨ob,k4⟩)
  have hS:SetOk n ys:=⟨(rng_okS n).srt.sublist hs,fun x hx=>(rng_okS n).lt x (hs.subset hx)⟩
  have hyl:=hS.len h10
  refine⟨_,rfl,_,rfl,a,t,n,ts,ys,rfl,hA4,T4,hS,fun sm H5 s5 hW=> ?_⟩
  have hI:WebIs K H5 sm (ys.length:Int) (cts ys ts):=WebIs.rows hW (by omega) (by omega)
  refine⟨_,rfl,sm,_,_,rfl,hI,fun b H6 s6 hb=> ?_⟩
  have s56:=s5.trans s6
  have hA6:=hA4.same s56
  have hI6:=hI.same s6
  have k6:=s56 _ _ k4
  have T6:SqT K H6 t (ys.map V.int):= .inl (.inr ⟨ob,k6⟩)
  refine⟨_,rfl,rfl,_,rfl,?_⟩
  rw[decide_eq_false (fun z=>nomatch z)]
  refine iteF ?_
  have up:so=true->b=true:=fun z=>hb.mpr fun hr=>(hso.mp z) (cut_ring hA.pk hS hr)
  have fin:∀H',Same H6 H'->∀b7',SameX tp H H'/\TapeV K H' tp scr ns/\WebIs K H' a n ts/\∃b3 b4 b5 b6 b7,([some (.ref tp),some (.ref a),some (.bl so),some (.int (0+(i:Int))),some (.ref t),some (.ref sm),some (.bl b),b7']:St)=[some (.ref tp),some (.ref a),some (.bl so),b3,b4,b5,b6,b7]:=fun H' s' b7'=>
   ⟨x4.trans ((s56.trans s').x _),tv4.same (s56.trans s'),hA4.same (s56.trans s'),_,_,_,_,_,rfl⟩
  cases so with
  |false=>
   refine⟨_,rfl,_,rfl,?_⟩
   refine iteF ?_
   refine⟨_,rfl,_,rfl,?_⟩
   refine iteF ?_
   exact fin H6 (Same.refl _) _
  |true=>
   have eb:=up rfl
   subst eb
   have no:=hso.mp rfl
   refine⟨_,rfl,_,rfl,?_⟩
   refine iteT ?_
   refine⟨_,rfl,_,rfl,?_⟩
   refine iteF ?_
   refine⟨_,rfl,_,rfl,?_⟩
   refine iteT ?_
   refine⟨_,rfl,a,n,ts,rfl,hA6,fun r o os H7 s7 e1 e2 hf=> ?_,fun r l c H7 s7 e1 e2 nl hB hc=>(no ⟨c,hB,hc⟩).elim⟩
   have hol:=hf.len
   rw[List.length_nil]at hol
   have T7:=s7.tup T6
   have k7:=s7 _ _ k6
   refine⟨r,_,_,.ref o,rfl,rfl,e1,rfl,o,_,rfl,e2,fun hz=> ?_⟩
   refine comp_tup (xs:=os.map V.int) (fun j acc σ H'=>acc=(((os.take j).filter fun x=>decide (x∈ys)).map (idx ys)).map V.int/\Same H7 H'/\∃o,σ=[o,some (.ref t)]) ⟨rfl,Same.refl _,_,rfl⟩ (fun j acc σ H' _ p=>p.2.1.tup e2) (fun j acc σ H' hj p=> ?_) hz (fun j x acc σ H' hx p=> ?_) (fun acc σ H' p=> ?_)
   ·rw[p.1,List.length_map,List.length_map]
    exact Nat.le_trans (List.length_filter_le _ _) (by rw[List.length_take];exact Nat.min_le_left _ _)
   ·obtain⟨rfl,sm',o',rfl⟩:=p
    rw[List.getElem?_map]at hx
    cases ex:os[j]? with
    |none=>rw[ex]at hx;cases hx
    |some y=>
     rw[ex]at hx
     cases hx
     obtain⟨hj,ey⟩:=List.getElem?_eq_some_iff.mp ex
     have e:=zbh (p:=fun x=>decide (x∈ys)) hj
     rw[ey]at e
     have T8:=sm'.tup T7
     have k8:=sm' _ _ k7
     refine⟨_,rfl,_,rfl,t,_,_,.int y,rfl,.inr T8,DVs.ints ys,.int _,lay_ints ys,rfl,(by show 0<=60;decide),_,rfl,?_⟩
     rw[any_ints]
     refine ite2 (fun c=> ?_) (fun c=> ?_)
     ·refine⟨_,rfl,t,ob,_,rfl,k8,hob,ys,rfl,_,rfl,y,rfl,k8,of_decide_eq_true c,?_⟩
      exact⟨by rw[e,if_pos c,List.map_append,List.map_append];rfl,sm',_,rfl⟩
     ·exact⟨by rw[e,if_neg c,List.append_nil],sm',_,rfl⟩
   ·intro p1 hp1
    obtain⟨rfl,sm',o',rfl⟩:=p
    rw[List.length_map,List.take_length]
    have s9:=zad hp1 (.lst (((os.filter fun x=>decide (x∈ys)).map (idx ys)).map V.int))
    refine⟨p1,_,rfl,.inl ⟨SqL.of zac,fun t2 ht2=> ?_⟩⟩
    have s10:=zad ht2 (.tup (((os.filter fun x=>decide (x∈ys)).map (idx ys)).map V.int))
    have s610:=s7.trans (sm'.trans (s9.trans s10))
    have hfc:=fold_cut hA.pk hS hf
    have hlf:((os.filter fun x=>decide (x∈ys)).map (idx ys)).length<=10:=by
     rw[List.length_map]
     exact Nat.le_trans (List.length_filter_le _ _) (by omega)
    refine⟨_,rfl,_,rfl,sm,t2,_,_,_,rfl,hI6.same s610,SqT.of zac,IBs.ints _,by rw[List.length_map];omega,fun H11 s11=>⟨_,_,rfl,rfl,_,rfl,?_⟩⟩
    rw[fold_ints,hfc.isFold (by omega)]
    refine iteF ?_
    exact fin H11 (s610.trans s11) _
 ·obtain⟨x1,tv1,hA1,b3,b4,b5,b6,b7,rfl⟩:=p
  exact q H1 x1 tv1
end
end Hs
namespace Hs
open PySem L2 HsD
section
variable{P:Program}{w:World}{K:W.Frag}{mg:Str->Option Value}{base:Heap}
theorem bl_same{a b:Bool}{A B:Prop}(e:a=b)(hB:B):if(!decide (V.bl a=V.bl b))=true then A else B:=by
 subst e
 rw[decide_eq_true rfl]
 exact iteF hB
theorem iff_eq{a b:Bool}{p:Prop}(h1:a=true↔p)(h2:b=true↔p):a=b:=Bool.eq_iff_iff.mpr (h1.trans h2.symm)
theorem crowd_pairs{n:Int}{ts:List (Int×Int)}{so:List Int}(hs:SetOk n so)(h:agreeB ts so true=true):∀x∈so,∀y∈so,x≠y->tiedL ts x y=true:=by
 intro x hx y hy ne
 obtain⟨i,hi,rfl⟩:=List.getElem_of_mem hx
 obtain⟨j,hj,rfl⟩:=List.getElem_of_mem hy
 rcases Nat.lt_trichotomy i j with z|z|z
 ·exact agree_iffP.mp h i j z hj
 ·subst z;exact absurd rfl ne
 ·rw[zar];exact agree_iffP.mp h j i z hi
theorem sc_law:FnScope ["script","tape","k","web","so","other"] ["script"] (defScope s_law):=⟨rfl,rfl,rfl,by decide+kernel,rfl,by decide+kernel,by decide+kernel⟩
theorem ok_law{f f1 f2 f3 f4 f5 f6:Addr}{fd d1 d2 d3 d4 d5 d6:FuncData}(F:Fun K "law" "law" s_law f fd)(D1:Dfn K mg "_law_b_web" zcl ["tape","most"] f1 d1)(G1':FnOk P w K mg base CX0 4 f1 d1 ["tape","most"] (spLWeb K))(D2:Dfn K mg "_law_b_folds" zbq ["web"] f2 d2)(G2':FnOk P w K mg base CX0 13 f2 d2 ["web"] (spFolds K))(D3:Dfn K mg "_law_b_cut_right" zax ["tape","web","so"] f3 d3)(G3':FnOk P w K mg base CX0 14 f3 d3 ["tape","web","so"] (spCutRight K))(D4:Dfn K mg "_law_b_called" zbr ["tape","web"] f4 d4)(G4':FnOk P w K mg base CX0 3 f4 d4 ["tape","web"] (spCalled K))(D5:Dfn K mg "beside" s_beside ["one","other"] f5 d5)(G5':FnOk P w K mg base CX0 8 f5 d5 ["one","other"] (spBeside K))(D6:Dfn K mg "_law_b_with_one" zbd ["tape","web"] f6 d6)(G6':FnOk P w K mg base CX0 9 f6 d6 ["tape","web"] (spWithOne K))(m_range:mg "range"=none)(m_len:mg "len"=none):
  FnOk P w K mg base CX0 16 f fd ["script"] (spLaw K):=by
 have G1:FnOk P w K mg base CX0 15 f1 d1 ["tape","most"] (spLWeb K):=G1'.mono (by decide)
 have G2:FnOk P w K mg base CX0 15 f2 d2 ["web"] (spFolds K):=G2'.mono (by decide)
 have G3:FnOk P w K mg base CX0 15 f3 d3 ["tape","web","so"] (spCutRight K):=G3'.mono (by decide)
 have G4:FnOk P w K mg base CX0 15 f4 d4 ["tape","web"] (spCalled K):=G4'.mono (by decide)
 have G5:FnOk P w K mg base CX0 15 f5 d5 ["one","other"] (spBeside K):=G5'.mono (by decide)
 have G6:FnOk P w K mg base CX0 15 f6 d6 ["tape","web"] (spWithOne K):=G6'.mono (by decide)
 refine F.ok sc_law (fun vs H Q E h=> ?_) (fun cdv A outer s H vs Q E hr h=> ?_)
 ·obtain⟨a,ns,rfl,_⟩:=h
  rfl
 obtain⟨a,ns,rfl,hS,h63,q⟩:=h
 refine⟨_,(zae (zas (i:=1) sc_law.nd rfl (Or.inl rfl) (pe_lst (zaa (pv 0) (zaa zag (zaa zag zab))))) (zae (ps_for PassesOwn.never rfl (zba rfl m_range (zaa zag zab)) (zaj (i:=2) sc_law.nd rfl (Or.inl rfl)) (zae (zcs (PW.pt (pw_and (zam op_gt (pv 2) zag (nomark _)) (pw_and1 (zam op_ge (zan zce (pv 1) zag (fun _ _=>rfl)) (zai zao rfl m_len PySem.boot_len (zaa (pv 0) zab)) (nomark _))))) (zah ps_break) zay) (zae (zas (i:=3) sc_law.nd rfl (Or.inl rfl) (zaf G1 hr rfl D1.m D1.F.kp D1.b .nil pass0 (zaa (pv 1) (zaa zag zab)))) (zae (zas (i:=4) sc_law.nd rfl (Or.inl rfl) (zaf G2 hr rfl D2.m D2.F.kp D2.b .nil pass0 (zaa (pv 3) zab))) (zae (zcs (PW.pt (pw_or (zam op_isN (pv 4) pe_non (nomark _)) (pw_or (zam op_ne (zaf G2 hr rfl D2.m D2.F.kp D2.b .nil pass0 (zaa (zaf G4 hr rfl D4.m D4.F.kp D4.b .nil pass0 (zaa (pv 1) (zaa (pv 3) zab))) zab)) (pv 4) (nomark _)) (pw_or1 (pt_not (zcy (zaf G3 hr rfl D3.m D3.F.kp D3.b .nil pass0 (zaa (pv 1) (zaa (pv 3) (zaa (pv 4) zab)))))))))) (zah (zal pe_bl)) zay) (zae (zas (i:=5) sc_law.nd rfl (Or.inl rfl) (zaf G1 hr rfl D1.m D1.F.kp D1.b .nil pass0 (zaa (pv 1) (zaa (zbb op_sub zag (zan zaw (pv 3) zag (fun _ _=>rfl))) zab)))) (zae (zcs (zam op_ne (zaf G2 hr rfl D2.m D2.F.kp D2.b .nil pass0 (zaa (zaf G5 hr rfl D5.m D5.F.kp D5.b .nil pass0 (zaa (pv 3) (zaa (pv 5) zab))) zab)) (pe_and (pv 4) (pe_one (zaf G2 hr rfl D2.m D2.F.kp D2.b .nil pass0 (zaa (pv 5) zab)))) (nomark _)) (zah (zal pe_bl)) zay) (zah (zcs (PW.pt (pw_and (zam op_lt (zan zaw (pv 3) zag (fun _ _=>rfl)) zag (nomark _)) (pw_and1 (zam op_ne (zaf G2 hr rfl D2.m D2.F.kp D2.b .nil pass0 (zaa (zaf G6 hr rfl D6.m D6.F.kp D6.b .nil pass0 (zaa (pv 1) (zaa (pv 3) zab))) zab)) (pv 4) (nomark _))))) (zah (zal pe_bl)) zay))))))))) (zah (zal pe_bl)))),?_⟩
 refine⟨_,rfl,(by show 3<=sizeLine;decide),fun tp htp=> ?_⟩
 have tv0:=tape_new hS h63 htp
 refine⟨3,rfl,by decide,by decide,?_⟩
 refine for_range (n:=3) (fun k σ H'=>TapeV K H' tp a ns/\∃b2 b3 b4 b5,σ=[some (.ref a),some (.ref tp),b2,b3,b4,b5]) ⟨tv0,_,_,_,_,rfl⟩ (fun k σ H' hk p=> ?_) (fun σ H' p=>q H')
 obtain⟨tv,b2,b3,b4,b5,rfl⟩:=p
 refine test_any (K:=K) (r:=[b3,b4,b5]) tv (fun b=> ?_)
 cases b with
 |true=>exact q H'
 |false=>
  refine⟨_,rfl,tp,a,ns,10,rfl,tv,by decide,by decide,fun wb n ts H2 x2 tv2 hW h0 h1 hP hok=> ?_⟩
  have hA:WebIs K H2 wb n ts:=⟨hW,h0,h1,hP,hok⟩
  refine⟨_,rfl,wb,n,ts,rfl,hA,fun so H3 s3 hso=> ?_⟩
  have tv3:=tv2.same s3
  have hA3:=hA.same s3
  obtain⟨z3,hz3⟩:=TapeV.lst tv3
  refine⟨_,rfl,rfl,_,rfl,?_⟩
  rw[decide_eq_false (fun z=>nomatch z)]
  refine iteF ?_
  refine⟨_,rfl,_,rfl,tp,a,wb,ns,n,ts,rfl,tv3,hA3,fun r l us H4 x4 tv4 hWu hC=> ?_⟩
  have hA4:=hA3.samex x4 hz3
  refine⟨r,n,us,rfl,hWu,fun so2 H5 s5 hso2=>⟨_,rfl,rfl,_,rfl,?_⟩⟩
  have tv5:=tv4.same s5
  have hA5:=hA4.same s5
  obtain⟨z5,hz5⟩:=TapeV.lst tv5
  refine bl_same (iff_eq (hso2.trans (not_congr (hC.ring hP))) hso) ?_
  refine⟨_,rfl,_,rfl,_,rfl,tp,a,wb,ns,n,ts,so,rfl,tv5,hA5,hso,fun H6 x6 tv6=>⟨_,rfl,?_⟩⟩
  refine iteF ?_
  have hA6:=hA5.samex x6 hz5
  obtain⟨tb,rb,c1,c2,c3⟩:=id hA6.web
  refine⟨_,rfl,_,rfl,wb,_,_,.int n,rfl,rfl,c1,rfl,_,_,rfl,rfl,tp,a,ns,10-n,rfl,tv6,by omega,by omega,fun wo n2 t2 H7 x7 tv7 hW2 g0 g1 hP2 hok2=> ?_⟩
  obtain⟨z6,hz6⟩:=TapeV.lst tv6
  have hA7:=hA6.samex x7 hz6
  have hB7:WebIs K H7 wo n2 t2:=⟨hW2,g0,by omega,hP2,hok2⟩
  try dsimp only
  refine seq_mid (fun σ' H'=>Same H7 H'/\σ'=[some (.ref a),some (.ref tp),some (.int (0+(k:Int))),some (.ref wb),some (.bl so),some (.ref wo)]) (fun N hN=> ?_) (fun σ' H10 p=> ?_)
  ·refine⟨_,rfl,_,rfl,wb,wo,n,n2,ts,t2,rfl,hA7.web,hB7.web,hok,hok2,hA7.len,hB7.len,by omega,fun rw8 H8 s8 hW8=> ?_⟩
   have e8:=bes_eq hP hP2 h0 g0 hA7.srt hB7.srt
   have hI8:WebIs K H8 rw8 (n+n2) (bes n ts t2):=by
    rw[e8]at hW8⊢
    exact WebIs.rows hW8 (by omega) (by omega)
   refine⟨rw8,_,_,rfl,hI8,fun so3 H9 s9 hso3=> ?_⟩
   have s89:=s8.trans s9
   have hB9:=hB7.same s89
   have brk:¬HasRing (n+n2) (bes n ts t2)↔¬HasRing n ts/\¬HasRing n2 t2:=(not_congr (bes_ring hP hP2 h0 g0)).trans not_or
   cases so with
   |true=>
    refine⟨_,rfl,true,rfl,iteT ?_⟩
    refine⟨_,rfl,wo,n2,t2,rfl,hB9,fun so4 H10 s10 hso4=>⟨rfl,_,rfl,?_⟩⟩
    refine bl_same (iff_eq (hso3.trans (brk.trans ⟨fun z=>z.2,fun z=>⟨hso.mp rfl,z⟩⟩)) hso4) ?_
    exact hN _ _ ⟨s89.trans s10,rfl⟩
   |false=>
    refine⟨_,rfl,false,rfl,iteF ?_⟩
    refine⟨rfl,_,rfl,?_⟩
    refine bl_same ?_ ?_
    ·cases so3 with
     |false=>rfl
     |true=>exact absurd (hso.mpr (brk.mp (hso3.mp rfl)).1) Bool.false_ne_true
    exact hN _ _ ⟨s89,rfl⟩
  obtain⟨s10,rfl⟩:=p
  have hA10:=hA7.same s10
  have tv10:=tv7.same s10
  obtain⟨td,rd,e1,e2,e3⟩:=id hA10.web
  refine⟨_,rfl,wb,_,_,.int n,rfl,rfl,e1,rfl,_,_,rfl,rfl,_,rfl,?_⟩
  refine ite2 (fun c=> ?_) (fun c=> ?_)
  ·have hn:n<10:=of_decide_eq_true c
   refine⟨_,rfl,_,rfl,tp,a,wb,ns,n,ts,rfl,tv10,hA10,hn,fun r6 so6 us6 H11 x11 tv11 hWu6 hs6 hag6 hm6=> ?_⟩
   refine⟨r6,_,us6,rfl,hWu6,fun so7 H12 s12 hso7=>⟨_,rfl,rfl,_,rfl,?_⟩⟩
   refine bl_same (iff_eq (hso7.trans (not_congr (one_ring hP h0 hs6.lt (crowd_pairs hs6 hag6) hm6))) hso) ?_
   exact⟨tv11.same s12,_,_,_,_,rfl⟩
  ·exact⟨tv10,_,_,_,_,rfl⟩
end
end Hs
namespace Hs
open PySem L2 HsD
theorem len_1{α:Type}:∀{us:List α},us.length=1->∃a,us=[a]
 |[a],_=>⟨a,rfl⟩
theorem len_2{α:Type}:∀{us:List α},us.length=2->∃a b,us=[a,b]
 |[a,b],_=>⟨a,b,rfl⟩
theorem len_3{α:Type}:∀{us:List α},us.length=3->∃a b c,us=[a,b,c]
 |[a,b,c],_=>⟨a,b,c,rfl⟩
theorem all_mk{l:W.OpenLaw}{w:World}{K:W.Frag}{h:Heap}{mg:Str->Option Value}{fa:Addr}(X:K.In h)(G:h.Ns mainGlobals mg)(hfa:mg "law"=some (.ref fa)){f0 f1 f2 f3 f4 f5 f6 f7 f8 f9 f10 f11 f12 f13 f14 f15 f16 f17 f18 f19 f20 f21 f22 f23 f24 f25 f26 f27 f28 f29 f30 f31 f32 f33 f34 f35 f36 f37 f38 f39 f40 f41 f42 f43 f44 f45:Addr}{od0 an0 od1 an1 od2 an2 od3 an3 od4 an4 od5 an5 od6 an6 od7 an7 od8 an8 od9 an9 od10 an10 od11 an11 od12 an12 od13 an13 od14 an14 od15 an15 od16 an16 od17 an17 od18 an18 od19 an19 od20 an20 od21 an21 od22 an22 od23 an23 od24 an24 od25 an25 od26 an26 od27 an27 od28 an28 od29 an29 od30 an30 od31 an31 od32 an32 od33 an33 od34 an34 od35 an35 od36 an36 od37 an37 od38 an38 od39 an39 od40 an40 od41 an41 od42 an42 od43 an43 od44 an44 od45 an45:Option Addr}{sl0 sl1 sl2 sl3 sl4 sl5 sl6 sl7 sl8 sl9 sl10 sl11 sl12 sl13 sl14 sl15 sl16 sl17 sl18 sl19 sl20 sl21 sl22 sl23 sl24 sl25 sl26 sl27 sl28 sl29 sl30 sl31 sl32 sl33 sl34 sl35 sl36 sl37 sl38 sl39 sl40 sl41 sl42 sl43 sl44 sl45:Array (Option Value)}{oc0 kV0 dc0 pm0 cd0 ct0 oc1 kV1 dc1 pm1 cd1 ct1 oc2 kV2 dc2 pm2 cd2 ct2 oc3 kV3 dc3 pm3 cd3 ct3 oc4 kV4 dc4 pm4 cd4 ct4 oc5 kV5 dc5 pm5 cd5 ct5 oc6 kV6 dc6 pm6 cd6 ct6 oc7 kV7 dc7 pm7 cd7 ct7 oc8 kV8 dc8 pm8 cd8 ct8 oc9 kV9 dc9 pm9 cd9 ct9 oc10 kV10 dc10 pm10 cd10 ct10 oc11 kV11 dc11 pm11 cd11 ct11 oc12 kV12 dc12 pm12 cd12 ct12 oc13 kV13 dc13 pm13 cd13 ct13 oc14 kV14 dc14 pm14 cd14 ct14 oc15 kV15 dc15 pm15 cd15 ct15 oc16 kV16 dc16 pm16 cd16 ct16 oc17 kV17 dc17 pm17 cd17 ct17 oc18 kV18 dc18 pm18 cd18 ct18 oc19 kV19 dc19 pm19 cd19 ct19 oc20 kV20 dc20 pm20 cd20 ct20 oc21 kV21 dc21 pm21 cd21 ct21 oc22 kV22 dc22 pm22 cd22 ct22 oc23 kV23 dc23 pm23 cd23 ct23 oc24 kV24 dc24 pm24 cd24 ct24 oc25 kV25 dc25 pm25 cd25 ct25 oc26 kV26 dc26 pm26 cd26 ct26 oc27 kV27 dc27 pm27 cd27 ct27 oc28 kV28 dc28 pm28 cd28 ct28 oc29 kV29 dc29 pm29 cd29 ct29 oc30 kV30 dc30 pm30 cd30 ct30 oc31 kV31 dc31 pm31 cd31 ct31 oc32 kV32 dc32 pm32 cd32 ct32 oc33 kV33 dc33 pm33 cd33 ct33 oc34 kV34 dc34 pm34 cd34 ct34 oc35 kV35 dc35 pm35 cd35 ct35 oc36 kV36 dc36 pm36 cd36 ct36 oc37 kV37 dc37 pm37 cd37 ct37 oc38 kV38 dc38 pm38 cd38 ct38 oc39 kV39 dc39 pm39 cd39 ct39 oc40 kV40 dc40 pm40 cd40 ct40 oc41 kV41 dc41 pm41 cd41 ct41 oc42 kV42 dc42 pm42 cd42 ct42 oc43 kV43 dc43 pm43 cd43 ct43 oc44 kV44 dc44 pm44 cd44 ct44 oc45 kV45 dc45 pm45 cd45 ct45:Value}{tk0:Tok}{tk1:Tok}(a0:W.nsIn K mainGlobals "is_whole"=some (some (.ref f0)))(l0:K.lookup f0=some ⟨oc0,od0,.func (W.fnOf "is_whole" "is_whole" (defArgs zcp) (defBody zcp) (defScope zcp) .none kV0 dc0 pm0 an0 cd0 ct0),sl0⟩)(c0:W.codeIn K cd0 "is_whole"=true)(k0:W.keepIn K (.ref f0)=true)(a1:W.nsIn K mainGlobals "is_place"=some (some (.ref f1)))(l1:K.lookup f1=some ⟨oc1,od1,.func (W.fnOf "is_place" "is_place" (defArgs zcj) (defBody zcj) (defScope zcj) .none kV1 dc1 pm1 an1 cd1 ct1),sl1⟩)(c1:W.codeIn K cd1 "is_place"=true)(k1:W.keepIn K (.ref f1)=true)(a2:W.nsIn K mainGlobals "are_places"=some (some (.ref f2)))(l2:K.lookup f2=some ⟨oc2,od2,.func (W.fnOf "are_places" "are_places" (defArgs zbg) (defBody zbg) (defScope zbg) .none kV2 dc2 pm2 an2 cd2 ct2),sl2⟩)(c2:W.codeIn K cd2 "are_places"=true)(k2:W.keepIn K (.ref f2)=true)(a3:W.nsIn K mainGlobals "is_rising"=some (some (.ref f3)))(l3:K.lookup f3=some ⟨oc3,od3,.func (W.fnOf "is_rising" "is_rising" (defArgs zci) (defBody zci) (defScope zci) .none kV3 dc3 pm3 an3 cd3 ct3),sl3⟩)(c3:W.codeIn K cd3 "is_rising"=true)(k3:W.keepIn K (.ref f3)=true)(a4:W.nsIn K mainGlobals "is_set"=some (some (.ref f4)))(l4:K.lookup f4=some ⟨oc4,od4,.func (W.fnOf "is_set" "is_set" (defArgs s_is_set) (defBody s_is_set) (defScope s_is_set) .none kV4 dc4 pm4 an4 cd4 ct4),sl4⟩)(c4:W.codeIn K cd4 "is_set"=true)(k4:W.keepIn K (.ref f4)=true)(a5:W.nsIn K mainGlobals "are_ties"=some (some (.ref f5)))(l5:K.lookup f5=some ⟨oc5,od5,.func (W.fnOf "are_ties" "are_ties" (defArgs zcx) (defBody zcx) (defScope zcx) .none kV5 dc5 pm5 an5 cd5 ct5),sl5⟩)(c5:W.codeIn K cd5 "are_ties"=true)(k5:W.keepIn K (.ref f5)=true)(a6:W.nsIn K mainGlobals "is_web"=some (some (.ref f6)))(l6:K.lookup f6=some ⟨oc6,od6,.func (W.fnOf "is_web" "is_web" (defArgs s_is_web) (defBody s_is_web) (defScope s_is_web) .none kV6 dc6 pm6 an6 cd6 ct6),sl6⟩)(c6:W.codeIn K cd6 "is_web"=true)(k6:W.keepIn K (.ref f6)=true)(a7:W.nsIn K mainGlobals "need_web"=some (some (.ref f7)))(l7:K.lookup f7=some ⟨oc7,od7,.func (W.fnOf "need_web" "need_web" (defArgs zbi) (defBody zbi) (defScope zbi) .none kV7 dc7 pm7 an7 cd7 ct7),sl7⟩)(c7:W.codeIn K cd7 "need_web"=true)(k7:W.keepIn K (.ref f7)=true)(a8:W.nsIn K mainGlobals "need_place"=some (some (.ref f8)))(l8:K.lookup f8=some ⟨oc8,od8,.func (W.fnOf "need_place" "need_place" (defArgs zcg) (defBody zcg) (defScope zcg) .none kV8 dc8 pm8 an8 cd8 ct8),sl8⟩)(c8:W.codeIn K cd8 "need_place"=true)(k8:W.keepIn K (.ref f8)=true)(a9:W.nsIn K mainGlobals "need_set"=some (some (.ref f9)))(l9:K.lookup f9=some ⟨oc9,od9,.func (W.fnOf "need_set" "need_set" (defArgs zco) (defBody zco) (defScope zco) .none kV9 dc9 pm9 an9 cd9 ct9),sl9⟩)(c9:W.codeIn K cd9 "need_set"=true)(k9:W.keepIn K (.ref f9)=true)(a10:W.nsIn K mainGlobals "need_few"=some (some (.ref f10)))(l10:K.lookup f10=some ⟨oc10,od10,.func (W.fnOf "need_few" "need_few" (defArgs zcv) (defBody zcv) (defScope zcv) .none kV10 dc10 pm10 an10 cd10 ct10),sl10⟩)(c10:W.codeIn K cd10 "need_few"=true)(k10:W.keepIn K (.ref f10)=true)(a11:W.nsIn K mainGlobals "pairs"=some (some (.ref f11)))(l11:K.lookup f11=some ⟨oc11,od11,.func (W.fnOf "pairs" "pairs" (defArgs s_pairs) (defBody s_pairs) (defScope s_pairs) .none kV11 dc11 pm11 an11 cd11 ct11),sl11⟩)(c11:W.codeIn K cd11 "pairs"=true)(k11:W.keepIn K (.ref f11)=true)(a12:W.nsIn K mainGlobals "without"=some (some (.ref f12)))(l12:K.lookup f12=some ⟨oc12,od12,.func (W.fnOf "without" "without" (defArgs zdj) (defBody zdj) (defScope zdj) .none kV12 dc12 pm12 an12 cd12 ct12),sl12⟩)(c12:W.codeIn K cd12 "without"=true)(k12:W.keepIn K (.ref f12)=true)(a13:W.nsIn K mainGlobals "has_tie"=some (some (.ref f13)))(l13:K.lookup f13=some ⟨oc13,od13,.func (W.fnOf "has_tie" "has_tie" (defArgs zcd) (defBody zcd) (defScope zcd) .none kV13 dc13 pm13 an13 cd13 ct13),sl13⟩)(c13:W.codeIn K cd13 "has_tie"=true)(k13:W.keepIn K (.ref f13)=true)(a14:W.nsIn K mainGlobals "neighbours"=some (some (.ref f14)))(l14:K.lookup f14=some ⟨oc14,od14,.func (W.fnOf "neighbours" "neighbours" (defArgs zbx) (defBody zbx) (defScope zbx) .none kV14 dc14 pm14 an14 cd14 ct14),sl14⟩)(c14:W.codeIn K cd14 "neighbours"=true)(k14:W.keepIn K (.ref f14)=true)(a15:W.nsIn K mainGlobals "count_ties_in"=some (some (.ref f15)))(l15:K.lookup f15=some ⟨oc15,od15,.func (W.fnOf "count_ties_in" "count_ties_in" (defArgs zbn) (defBody zbn) (defScope zbn) .none kV15 dc15 pm15 an15 cd15 ct15),sl15⟩)(c15:W.codeIn K cd15 "count_ties_in"=true)(k15:W.keepIn K (.ref f15)=true)(a16:W.nsIn K mainGlobals "are_all_tied"=some (some (.ref f16)))(l16:K.lookup f16=some ⟨oc16,od16,.func (W.fnOf "are_all_tied" "are_all_tied" (defArgs zaz) (defBody zaz) (defScope zaz) .none kV16 dc16 pm16 an16 cd16 ct16),sl16⟩)(c16:W.codeIn K cd16 "are_all_tied"=true)(k16:W.keepIn K (.ref f16)=true)(a17:W.nsIn K mainGlobals "is_crowd"=some (some (.ref f17)))(l17:K.lookup f17=some ⟨oc17,od17,.func (W.fnOf "is_crowd" "is_crowd" (defArgs zcw) (defBody zcw) (defScope zcw) .none kV17 dc17 pm17 an17 cd17 ct17),sl17⟩)(c17:W.codeIn K cd17 "is_crowd"=true)(k17:W.keepIn K (.ref f17)=true)(a18:W.nsIn K mainGlobals "places_by_tie"=some (some (.ref f18)))(l18:K.lookup f18=some ⟨oc18,od18,.func (W.fnOf "places_by_tie" "places_by_tie" (defArgs zbk) (defBody zbk) (defScope zbk) .none kV18 dc18 pm18 an18 cd18 ct18),sl18⟩)(c18:W.codeIn K cd18 "places_by_tie"=true)(k18:W.keepIn K (.ref f18)=true)(a19:W.nsIn K mainGlobals "in_both"=some (some (.ref f19)))(l19:K.lookup f19=some ⟨oc19,od19,.func (W.fnOf "in_both" "in_both" (defArgs zdk) (defBody zdk) (defScope zdk) .none kV19 dc19 pm19 an19 cd19 ct19),sl19⟩)(c19:W.codeIn K cd19 "in_both"=true)(k19:W.keepIn K (.ref f19)=true)(a20:W.nsIn K mainGlobals "full_sets"=some (some (.ref f20)))(l20:K.lookup f20=some ⟨oc20,od20,.func (W.fnOf "full_sets" "full_sets" (defArgs zcm) (defBody zcm) (defScope zcm) .none kV20 dc20 pm20 an20 cd20 ct20),sl20⟩)(c20:W.codeIn K cd20 "full_sets"=true)(k20:W.keepIn K (.ref f20)=true)(a21:W.nsIn K mainGlobals "full_crowds"=some (some (.ref f21)))(l21:K.lookup f21=some ⟨oc21,od21,.func (W.fnOf "full_crowds" "full_crowds" (defArgs zbz) (defBody zbz) (defScope zbz) .none kV21 dc21 pm21 an21 cd21 ct21),sl21⟩)(c21:W.codeIn K cd21 "full_crowds"=true)(k21:W.keepIn K (.ref f21)=true)(a22:W.nsIn K mainGlobals "first_greatest"=some (some (.ref f22)))(l22:K.lookup f22=some ⟨oc22,od22,.func (W.fnOf "first_greatest" "first_greatest" (defArgs zbe) (defBody zbe) (defScope zbe) .none kV22 dc22 pm22 an22 cd22 ct22),sl22⟩)(c22:W.codeIn K cd22 "first_greatest"=true)(k22:W.keepIn K (.ref f22)=true)(a23:W.nsIn K mainGlobals "greatest_crowd"=some (some (.ref f23)))(l23:K.lookup f23=some ⟨oc23,od23,.func (W.fnOf "greatest_crowd" "greatest_crowd" (defArgs zau) (defBody zau) (defScope zau) .none kV23 dc23 pm23 an23 cd23 ct23),sl23⟩)(c23:W.codeIn K cd23 "greatest_crowd"=true)(k23:W.keepIn K (.ref f23)=true)(a24:W.nsIn K mainGlobals "are_unlike_places"=some (some (.ref f24)))(l24:K.lookup f24=some ⟨oc24,od24,.func (W.fnOf "are_unlike_places" "are_unlike_places" (defArgs zak) (defBody zak) (defScope zak) .none kV24 dc24 pm24 an24 cd24 ct24),sl24⟩)(c24:W.codeIn K cd24 "are_unlike_places"=true)(k24:W.keepIn K (.ref f24)=true)(a25:W.nsIn K mainGlobals "tied_among"=some (some (.ref f25)))(l25:K.lookup f25=some ⟨oc25,od25,.func (W.fnOf "tied_among" "tied_among" (defArgs zbj) (defBody zbj) (defScope zbj) .none kV25 dc25 pm25 an25 cd25 ct25),sl25⟩)(c25:W.codeIn K cd25 "tied_among"=true)(k25:W.keepIn K (.ref f25)=true)(a26:W.nsIn K mainGlobals "first_to_go"=some (some (.ref f26)))(l26:K.lookup f26=some ⟨oc26,od26,.func (W.fnOf "first_to_go" "first_to_go" (defArgs zca) (defBody zca) (defScope zca) .none kV26 dc26 pm26 an26 cd26 ct26),sl26⟩)(c26:W.codeIn K cd26 "first_to_go"=true)(k26:W.keepIn K (.ref f26)=true)(a27:W.nsIn K mainGlobals "next_steps"=some (some (.ref f27)))(l27:K.lookup f27=some ⟨oc27,od27,.func (W.fnOf "next_steps" "next_steps" (defArgs zcf) (defBody zcf) (defScope zcf) .none kV27 dc27 pm27 an27 cd27 ct27),sl27⟩)(c27:W.codeIn K cd27 "next_steps"=true)(k27:W.keepIn K (.ref f27)=true)(a28:W.nsIn K mainGlobals "find_bare_ring"=some (some (.ref f28)))(l28:K.lookup f28=some ⟨oc28,od28,.func (W.fnOf "find_bare_ring" "find_bare_ring" (defArgs zbf) (defBody zbf) (defScope zbf) .none kV28 dc28 pm28 an28 cd28 ct28),sl28⟩)(c28:W.codeIn K cd28 "find_bare_ring"=true)(k28:W.keepIn K (.ref f28)=true)(a29:W.nsIn K mainGlobals "fold"=some (some (.ref f29)))(l29:K.lookup f29=some ⟨oc29,od29,.func (W.fnOf "fold" "fold" (defArgs s_fold) (defBody s_fold) (defScope s_fold) .none kV29 dc29 pm29 an29 cd29 ct29),sl29⟩)(c29:W.codeIn K cd29 "fold"=true)(k29:W.keepIn K (.ref f29)=true)(a30:W.nsIn K mainGlobals "is_fold"=some (some (.ref f30)))(l30:K.lookup f30=some ⟨oc30,od30,.func (W.fnOf "is_fold" "is_fold" (defArgs zdb) (defBody zdb) (defScope zdb) .none kV30 dc30 pm30 an30 cd30 ct30),sl30⟩)(c30:W.codeIn K cd30 "is_fold"=true)(k30:W.keepIn K (.ref f30)=true)(a31:W.nsIn K mainGlobals "is_bare_ring"=some (some (.ref f31)))(l31:K.lookup f31=some ⟨oc31,od31,.func (W.fnOf "is_bare_ring" "is_bare_ring" (defArgs zbs) (defBody zbs) (defScope zbs) .none kV31 dc31 pm31 an31 cd31 ct31),sl31⟩)(c31:W.codeIn K cd31 "is_bare_ring"=true)(k31:W.keepIn K (.ref f31)=true)(a32:W.nsIn K mainGlobals "hues_by_order"=some (some (.ref f32)))(l32:K.lookup f32=some ⟨oc32,od32,.func (W.fnOf "hues_by_order" "hues_by_order" (defArgs zbm) (defBody zbm) (defScope zbm) .none kV32 dc32 pm32 an32 cd32 ct32),sl32⟩)(c32:W.codeIn K cd32 "hues_by_order"=true)(k32:W.keepIn K (.ref f32)=true)(a33:W.nsIn K mainGlobals "by_fold"=some (some (.ref f33)))(l33:K.lookup f33=some ⟨oc33,od33,.func (W.fnOf "by_fold" "by_fold" (defArgs zdl) (defBody zdl) (defScope zdl) .none kV33 dc33 pm33 an33 cd33 ct33),sl33⟩)(c33:W.codeIn K cd33 "by_fold"=true)(k33:W.keepIn K (.ref f33)=true)(a34:W.nsIn K mainGlobals "moved_ties"=some (some (.ref f34)))(l34:K.lookup f34=some ⟨oc34,od34,.func (W.fnOf "moved_ties" "moved_ties" (defArgs zch) (defBody zch) (defScope zch) .none kV34 dc34 pm34 an34 cd34 ct34),sl34⟩)(c34:W.codeIn K cd34 "moved_ties"=true)(k34:W.keepIn K (.ref f34)=true)(a35:W.nsIn K mainGlobals "beside"=some (some (.ref f35)))(l35:K.lookup f35=some ⟨oc35,od35,.func (W.fnOf "beside" "beside" (defArgs s_beside) (defBody s_beside) (defScope s_beside) .none kV35 dc35 pm35 an35 cd35 ct35),sl35⟩)(c35:W.codeIn K cd35 "beside"=true)(k35:W.keepIn K (.ref f35)=true)(a36:W.nsIn K mainGlobals "cut_down"=some (some (.ref f36)))(l36:K.lookup f36=some ⟨oc36,od36,.func (W.fnOf "cut_down" "cut_down" (defArgs zcq) (defBody zcq) (defScope zcq) .none kV36 dc36 pm36 an36 cd36 ct36),sl36⟩)(c36:W.codeIn K cd36 "cut_down"=true)(k36:W.keepIn K (.ref f36)=true)(a37:W.nsIn K mainGlobals "_law_b_stirred"=some (some (.ref f37)))(l37:K.lookup f37=some ⟨oc37,od37,.func (W.fnOf "_law_b_stirred" "_law_b_stirred" (defArgs zbl) (defBody zbl) (defScope zbl) .none kV37 dc37 pm37 an37 cd37 ct37),sl37⟩)(c37:W.codeIn K cd37 "_law_b_stirred"=true)(k37:W.keepIn K (.ref f37)=true)(a38:W.nsIn K mainGlobals "_law_b_digit"=some (some (.ref f38)))(l38:K.lookup f38=some ⟨oc38,od38,.func (W.fnOf "_law_b_digit" "_law_b_digit" (defArgs zat) (defBody zat) (defScope zat) .none kV38 dc38 pm38 an38 cd38 ct38),sl38⟩)(c38:W.codeIn K cd38 "_law_b_digit"=true)(k38:W.keepIn K (.ref f38)=true)(a39:W.nsIn K mainGlobals "_law_b_pairs"=some (some (.ref f39)))(l39:K.lookup f39=some ⟨oc39,od39,.func (W.fnOf "_law_b_pairs" "_law_b_pairs" (defArgs zby) (defBody zby) (defScope zby) .none kV39 dc39 pm39 an39 cd39 ct39),sl39⟩)(c39:W.codeIn K cd39 "_law_b_pairs"=true)(k39:W.keepIn K (.ref f39)=true)(a40:W.nsIn K mainGlobals "_law_b_web"=some (some (.ref f40)))(l40:K.lookup f40=some ⟨oc40,od40,.func (W.fnOf "_law_b_web" "_law_b_web" (defArgs zcl) (defBody zcl) (defScope zcl) .none kV40 dc40 pm40 an40 cd40 ct40),sl40⟩)(c40:W.codeIn K cd40 "_law_b_web"=true)(k40:W.keepIn K (.ref f40)=true)(a41:W.nsIn K mainGlobals "_law_b_folds"=some (some (.ref f41)))(l41:K.lookup f41=some ⟨oc41,od41,.func (W.fnOf "_law_b_folds" "_law_b_folds" (defArgs zbq) (defBody zbq) (defScope zbq) .none kV41 dc41 pm41 an41 cd41 ct41),sl41⟩)(c41:W.codeIn K cd41 "_law_b_folds"=true)(k41:W.keepIn K (.ref f41)=true)(a42:W.nsIn K mainGlobals "_law_b_called"=some (some (.ref f42)))(l42:K.lookup f42=some ⟨oc42,od42,.func (W.fnOf "_law_b_called" "_law_b_called" (defArgs zbr) (defBody zbr) (defScope zbr) .none kV42 dc42 pm42 an42 cd42 ct42),sl42⟩)(c42:W.codeIn K cd42 "_law_b_called"=true)(k42:W.keepIn K (.ref f42)=true)(a43:W.nsIn K mainGlobals "_law_b_with_one"=some (some (.ref f43)))(l43:K.lookup f43=some ⟨oc43,od43,.func (W.fnOf "_law_b_with_one" "_law_b_with_one" (defArgs zbd) (defBody zbd) (defScope zbd) .none kV43 dc43 pm43 an43 cd43 ct43),sl43⟩)(c43:W.codeIn K cd43 "_law_b_with_one"=true)(k43:W.keepIn K (.ref f43)=true)(a44:W.nsIn K mainGlobals "_law_b_cut_right"=some (some (.ref f44)))(l44:K.lookup f44=some ⟨oc44,od44,.func (W.fnOf "_law_b_cut_right" "_law_b_cut_right" (defArgs zax) (defBody zax) (defScope zax) .none kV44 dc44 pm44 an44 cd44 ct44),sl44⟩)(c44:W.codeIn K cd44 "_law_b_cut_right"=true)(k44:W.keepIn K (.ref f44)=true)(a45:W.nsIn K mainGlobals "law"=some (some (.ref f45)))(l45:K.lookup f45=some ⟨oc45,od45,.func (W.fnOf "law" "law" (defArgs s_law) (defBody s_law) (defScope s_law) .none kV45 dc45 pm45 an45 cd45 ct45),sl45⟩)(c45:W.codeIn K cd45 "law"=true)(k45:W.keepIn K (.ref f45)=true)(x0:W.nsIn K mainGlobals "MOST_PLACES"=some (some (.int 10 tk0)))(x1:W.nsIn K mainGlobals "LEAST_BARE_RING"=some (some (.int 4 tk1)))(z0:W.nsIn K mainGlobals "all"=some none)(z1:W.nsIn K mainGlobals "any"=some none)(z2:W.nsIn K mainGlobals "bool"=some none)(z3:W.nsIn K mainGlobals "enumerate"=some none)(z4:W.nsIn K mainGlobals "int"=some none)(z5:W.nsIn K mainGlobals "isinstance"=some none)(z6:W.nsIn K mainGlobals "len"=some none)(z7:W.nsIn K mainGlobals "list"=some none)(z8:W.nsIn K mainGlobals "max"=some none)(z9:W.nsIn K mainGlobals "min"=some none)(z10:W.nsIn K mainGlobals "range"=some none)(z11:W.nsIn K mainGlobals "reversed"=some none)(z12:W.nsIn K mainGlobals "set"=some none)(z13:W.nsIn K mainGlobals "sorted"=some none)(z14:W.nsIn K mainGlobals "tuple"=some none):
  ∃fd:FuncData,(∀(s:Shared) (v:Value),BindsTo s fd ⟨[v],[]⟩ [("script",v)])/\∀base:Heap,K.In base->base.Ns mainGlobals mg->FnOk l.prog w K mg base CX0 16 fa fd ["script"] (spLaw K):=by
 have e:=hfa.symm.trans (W.mg_of X G a45)
 cases e
 have F0:=zaq (st:=zcp) l0 c0 k0
 have E_is_whole:Dfn K mg "is_whole" zcp ["thing"] f0 _:=⟨F0,F0.binds (fun _ _ _ _ _ _ us hl=>by obtain⟨u0,rfl⟩:=Hs.len_1 hl;rfl),W.mg_of X G a0⟩
 have F1:=zaq (st:=zcj) l1 c1 k1
 have E_is_place:Dfn K mg "is_place" zcj ["n","thing"] f1 _:=⟨F1,F1.binds (fun _ _ _ _ _ _ us hl=>by obtain⟨u0,u1,rfl⟩:=Hs.len_2 hl;rfl),W.mg_of X G a1⟩
 have F2:=zaq (st:=zbg) l2 c2 k2
 have E_are_places:Dfn K mg "are_places" zbg ["n","things"] f2 _:=⟨F2,F2.binds (fun _ _ _ _ _ _ us hl=>by obtain⟨u0,u1,rfl⟩:=Hs.len_2 hl;rfl),W.mg_of X G a2⟩
 have F3:=zaq (st:=zci) l3 c3 k3
 have E_is_rising:Dfn K mg "is_rising" zci ["things"] f3 _:=⟨F3,F3.binds (fun _ _ _ _ _ _ us hl=>by obtain⟨u0,rfl⟩:=Hs.len_1 hl;rfl),W.mg_of X G a3⟩
 have F4:=zaq (st:=s_is_set) l4 c4 k4
 have E_is_set:Dfn K mg "is_set" s_is_set ["n","thing"] f4 _:=⟨F4,F4.binds (fun _ _ _ _ _ _ us hl=>by obtain⟨u0,u1,rfl⟩:=Hs.len_2 hl;rfl),W.mg_of X G a4⟩
 have F5:=zaq (st:=zcx) l5 c5 k5
 have E_are_ties:Dfn K mg "are_ties" zcx ["n","thing"] f5 _:=⟨F5,F5.binds (fun _ _ _ _ _ _ us hl=>by obtain⟨u0,u1,rfl⟩:=Hs.len_2 hl;rfl),W.mg_of X G a5⟩
 have F6:=zaq (st:=s_is_web) l6 c6 k6
 have E_is_web:Dfn K mg "is_web" s_is_web ["thing"] f6 _:=⟨F6,F6.binds (fun _ _ _ _ _ _ us hl=>by obtain⟨u0,rfl⟩:=Hs.len_1 hl;rfl),W.mg_of X G a6⟩
 have F7:=zaq (st:=zbi) l7 c7 k7
 have E_need_web:Dfn K mg "need_web" zbi ["thing"] f7 _:=⟨F7,F7.binds (fun _ _ _ _ _ _ us hl=>by obtain⟨u0,rfl⟩:=Hs.len_1 hl;rfl),W.mg_of X G a7⟩
 have F8:=zaq (st:=zcg) l8 c8 k8
 have E_need_place:Dfn K mg "need_place" zcg ["web","thing"] f8 _:=⟨F8,F8.binds (fun _ _ _ _ _ _ us hl=>by obtain⟨u0,u1,rfl⟩:=Hs.len_2 hl;rfl),W.mg_of X G a8⟩
 have F9:=zaq (st:=zco) l9 c9 k9
 have E_need_set:Dfn K mg "need_set" zco ["web","thing"] f9 _:=⟨F9,F9.binds (fun _ _ _ _ _ _ us hl=>by obtain⟨u0,u1,rfl⟩:=Hs.len_2 hl;rfl),W.mg_of X G a9⟩
 have F10:=zaq (st:=zcv) l10 c10 k10
 have E_need_few:Dfn K mg "need_few" zcv ["n"] f10 _:=⟨F10,F10.binds (fun _ _ _ _ _ _ us hl=>by obtain⟨u0,rfl⟩:=Hs.len_1 hl;rfl),W.mg_of X G a10⟩
 have F11:=zaq (st:=s_pairs) l11 c11 k11
 have E_pairs:Dfn K mg "pairs" s_pairs ["n"] f11 _:=⟨F11,F11.binds (fun _ _ _ _ _ _ us hl=>by obtain⟨u0,rfl⟩:=Hs.len_1 hl;rfl),W.mg_of X G a11⟩
 have F12:=zaq (st:=zdj) l12 c12 k12
 have E_without:Dfn K mg "without" zdj ["some","part"] f12 _:=⟨F12,F12.binds (fun _ _ _ _ _ _ us hl=>by obtain⟨u0,u1,rfl⟩:=Hs.len_2 hl;rfl),W.mg_of X G a12⟩
 have F13:=zaq (st:=zcd) l13 c13 k13
 have E_has_tie:Dfn K mg "has_tie" zcd ["web","one","other"] f13 _:=⟨F13,F13.binds (fun _ _ _ _ _ _ us hl=>by obtain⟨u0,u1,u2,rfl⟩:=Hs.len_3 hl;rfl),W.mg_of X G a13⟩
 have F14:=zaq (st:=zbx) l14 c14 k14
 have E_neighbours:Dfn K mg "neighbours" zbx ["web","place"] f14 _:=⟨F14,F14.binds (fun _ _ _ _ _ _ us hl=>by obtain⟨u0,u1,rfl⟩:=Hs.len_2 hl;rfl),W.mg_of X G a14⟩
 have F15:=zaq (st:=zbn) l15 c15 k15
 have E_count_ties_in:Dfn K mg "count_ties_in" zbn ["web","some"] f15 _:=⟨F15,F15.binds (fun _ _ _ _ _ _ us hl=>by obtain⟨u0,u1,rfl⟩:=Hs.len_2 hl;rfl),W.mg_of X G a15⟩
 have F16:=zaq (st:=zaz) l16 c16 k16
 have E_are_all_tied:Dfn K mg "are_all_tied" zaz ["web","some"] f16 _:=⟨F16,F16.binds (fun _ _ _ _ _ _ us hl=>by obtain⟨u0,u1,rfl⟩:=Hs.len_2 hl;rfl),W.mg_of X G a16⟩
 have F17:=zaq (st:=zcw) l17 c17 k17
 have E_is_crowd:Dfn K mg "is_crowd" zcw ["web","some"] f17 _:=⟨F17,F17.binds (fun _ _ _ _ _ _ us hl=>by obtain⟨u0,u1,rfl⟩:=Hs.len_2 hl;rfl),W.mg_of X G a17⟩
 have F18:=zaq (st:=zbk) l18 c18 k18
 have E_places_by_tie:Dfn K mg "places_by_tie" zbk ["web","place","tied"] f18 _:=⟨F18,F18.binds (fun _ _ _ _ _ _ us hl=>by obtain⟨u0,u1,u2,rfl⟩:=Hs.len_3 hl;rfl),W.mg_of X G a18⟩
 have F19:=zaq (st:=zdk) l19 c19 k19
 have E_in_both:Dfn K mg "in_both" zdk ["ones","others"] f19 _:=⟨F19,F19.binds (fun _ _ _ _ _ _ us hl=>by obtain⟨u0,u1,rfl⟩:=Hs.len_2 hl;rfl),W.mg_of X G a19⟩
 have F20:=zaq (st:=zcm) l20 c20 k20
 have E_full_sets:Dfn K mg "full_sets" zcm ["friends"] f20 _:=⟨F20,F20.binds (fun _ _ _ _ _ _ us hl=>by obtain⟨u0,rfl⟩:=Hs.len_1 hl;rfl),W.mg_of X G a20⟩
 have F21:=zaq (st:=zbz) l21 c21 k21
 have E_full_crowds:Dfn K mg "full_crowds" zbz ["web"] f21 _:=⟨F21,F21.binds (fun _ _ _ _ _ _ us hl=>by obtain⟨u0,rfl⟩:=Hs.len_1 hl;rfl),W.mg_of X G a21⟩
 have F22:=zaq (st:=zbe) l22 c22 k22
 have E_first_greatest:Dfn K mg "first_greatest" zbe ["sets"] f22 _:=⟨F22,F22.binds (fun _ _ _ _ _ _ us hl=>by obtain⟨u0,rfl⟩:=Hs.len_1 hl;rfl),W.mg_of X G a22⟩
 have F23:=zaq (st:=zau) l23 c23 k23
 have E_greatest_crowd:Dfn K mg "greatest_crowd" zau ["web"] f23 _:=⟨F23,F23.binds (fun _ _ _ _ _ _ us hl=>by obtain⟨u0,rfl⟩:=Hs.len_1 hl;rfl),W.mg_of X G a23⟩
 have F24:=zaq (st:=zak) l24 c24 k24
 have E_are_unlike_places:Dfn K mg "are_unlike_places" zak ["n","things"] f24 _:=⟨F24,F24.binds (fun _ _ _ _ _ _ us hl=>by obtain⟨u0,u1,rfl⟩:=Hs.len_2 hl;rfl),W.mg_of X G a24⟩
 have F25:=zaq (st:=zbj) l25 c25 k25
 have E_tied_among:Dfn K mg "tied_among" zbj ["web","place","some"] f25 _:=⟨F25,F25.binds (fun _ _ _ _ _ _ us hl=>by obtain⟨u0,u1,u2,rfl⟩:=Hs.len_3 hl;rfl),W.mg_of X G a25⟩
 have F26:=zaq (st:=zca) l26 c26 k26
 have E_first_to_go:Dfn K mg "first_to_go" zca ["web","left"] f26 _:=⟨F26,F26.binds (fun _ _ _ _ _ _ us hl=>by obtain⟨u0,u1,rfl⟩:=Hs.len_2 hl;rfl),W.mg_of X G a26⟩
 have F27:=zaq (st:=zcf) l27 c27 k27
 have E_next_steps:Dfn K mg "next_steps" zcf ["web","path"] f27 _:=⟨F27,F27.binds (fun _ _ _ _ _ _ us hl=>by obtain⟨u0,u1,rfl⟩:=Hs.len_2 hl;rfl),W.mg_of X G a27⟩
 have F28:=zaq (st:=zbf) l28 c28 k28
 have E_find_bare_ring:Dfn K mg "find_bare_ring" zbf ["web"] f28 _:=⟨F28,F28.binds (fun _ _ _ _ _ _ us hl=>by obtain⟨u0,rfl⟩:=Hs.len_1 hl;rfl),W.mg_of X G a28⟩
 have F29:=zaq (st:=s_fold) l29 c29 k29
 have E_fold:Dfn K mg "fold" s_fold ["web"] f29 _:=⟨F29,F29.binds (fun _ _ _ _ _ _ us hl=>by obtain⟨u0,rfl⟩:=Hs.len_1 hl;rfl),W.mg_of X G a29⟩
 have F30:=zaq (st:=zdb) l30 c30 k30
 have E_is_fold:Dfn K mg "is_fold" zdb ["web","order"] f30 _:=⟨F30,F30.binds (fun _ _ _ _ _ _ us hl=>by obtain⟨u0,u1,rfl⟩:=Hs.len_2 hl;rfl),W.mg_of X G a30⟩
 have F31:=zaq (st:=zbs) l31 c31 k31
 have E_is_bare_ring:Dfn K mg "is_bare_ring" zbs ["web","some"] f31 _:=⟨F31,F31.binds (fun _ _ _ _ _ _ us hl=>by obtain⟨u0,u1,rfl⟩:=Hs.len_2 hl;rfl),W.mg_of X G a31⟩
 have F32:=zaq (st:=zbm) l32 c32 k32
 have E_hues_by_order:Dfn K mg "hues_by_order" zbm ["web","order"] f32 _:=⟨F32,F32.binds (fun _ _ _ _ _ _ us hl=>by obtain⟨u0,u1,rfl⟩:=Hs.len_2 hl;rfl),W.mg_of X G a32⟩
 have F33:=zaq (st:=zdl) l33 c33 k33
 have E_by_fold:Dfn K mg "by_fold" zdl ["web"] f33 _:=⟨F33,F33.binds (fun _ _ _ _ _ _ us hl=>by obtain⟨u0,rfl⟩:=Hs.len_1 hl;rfl),W.mg_of X G a33⟩
 have F34:=zaq (st:=zch) l34 c34 k34
 have E_moved_ties:Dfn K mg "moved_ties" zch ["web","by"] f34 _:=⟨F34,F34.binds (fun _ _ _ _ _ _ us hl=>by obtain⟨u0,u1,rfl⟩:=Hs.len_2 hl;rfl),W.mg_of X G a34⟩
 have F35:=zaq (st:=s_beside) l35 c35 k35
 have E_beside:Dfn K mg "beside" s_beside ["one","other"] f35 _:=⟨F35,F35.binds (fun _ _ _ _ _ _ us hl=>by obtain⟨u0,u1,rfl⟩:=Hs.len_2 hl;rfl),W.mg_of X G a35⟩
 have F36:=zaq (st:=zcq) l36 c36 k36
 have E_cut_down:Dfn K mg "cut_down" zcq ["web","some"] f36 _:=⟨F36,F36.binds (fun _ _ _ _ _ _ us hl=>by obtain⟨u0,u1,rfl⟩:=Hs.len_2 hl;rfl),W.mg_of X G a36⟩
 have F37:=zaq (st:=zbl) l37 c37 k37
 have E_law_b_stirred:Dfn K mg "_law_b_stirred" zbl ["cell","at"] f37 _:=⟨F37,F37.binds (fun _ _ _ _ _ _ us hl=>by obtain⟨u0,u1,rfl⟩:=Hs.len_2 hl;rfl),W.mg_of X G a37⟩
 have F38:=zaq (st:=zat) l38 c38 k38
 have E_law_b_digit:Dfn K mg "_law_b_digit" zat ["tape","many"] f38 _:=⟨F38,F38.binds (fun _ _ _ _ _ _ us hl=>by obtain⟨u0,u1,rfl⟩:=Hs.len_2 hl;rfl),W.mg_of X G a38⟩
 have F39:=zaq (st:=zby) l39 c39 k39
 have E_law_b_pairs:Dfn K mg "_law_b_pairs" zby ["tape","n","kind"] f39 _:=⟨F39,F39.binds (fun _ _ _ _ _ _ us hl=>by obtain⟨u0,u1,u2,rfl⟩:=Hs.len_3 hl;rfl),W.mg_of X G a39⟩
 have F40:=zaq (st:=zcl) l40 c40 k40
 have E_law_b_web:Dfn K mg "_law_b_web" zcl ["tape","most"] f40 _:=⟨F40,F40.binds (fun _ _ _ _ _ _ us hl=>by obtain⟨u0,u1,rfl⟩:=Hs.len_2 hl;rfl),W.mg_of X G a40⟩
 have F41:=zaq (st:=zbq) l41 c41 k41
 have E_law_b_folds:Dfn K mg "_law_b_folds" zbq ["web"] f41 _:=⟨F41,F41.binds (fun _ _ _ _ _ _ us hl=>by obtain⟨u0,rfl⟩:=Hs.len_1 hl;rfl),W.mg_of X G a41⟩
 have F42:=zaq (st:=zbr) l42 c42 k42
 have E_law_b_called:Dfn K mg "_law_b_called" zbr ["tape","web"] f42 _:=⟨F42,F42.binds (fun _ _ _ _ _ _ us hl=>by obtain⟨u0,u1,rfl⟩:=Hs.len_2 hl;rfl),W.mg_of X G a42⟩
 have F43:=zaq (st:=zbd) l43 c43 k43
 have E_law_b_with_one:Dfn K mg "_law_b_with_one" zbd ["tape","web"] f43 _:=⟨F43,F43.binds (fun _ _ _ _ _ _ us hl=>by obtain⟨u0,u1,rfl⟩:=Hs.len_2 hl;rfl),W.mg_of X G a43⟩
 have F44:=zaq (st:=zax) l44 c44 k44
 have E_law_b_cut_right:Dfn K mg "_law_b_cut_right" zax ["tape","web","so"] f44 _:=⟨F44,F44.binds (fun _ _ _ _ _ _ us hl=>by obtain⟨u0,u1,u2,rfl⟩:=Hs.len_3 hl;rfl),W.mg_of X G a44⟩
 have F45:=zaq (st:=s_law) l45 c45 k45
 have v_MOST_PLACES:=W.mg_of X G x0
 have v_LEAST_BARE_RING:=W.mg_of X G x1
 have n_all:=W.mg_none_of X G z0
 have n_any:=W.mg_none_of X G z1
 have n_bool:=W.mg_none_of X G z2
 have n_enumerate:=W.mg_none_of X G z3
 have n_int:=W.mg_none_of X G z4
 have n_isinstance:=W.mg_none_of X G z5
 have n_len:=W.mg_none_of X G z6
 have n_list:=W.mg_none_of X G z7
 have n_max:=W.mg_none_of X G z8
 have n_min:=W.mg_none_of X G z9
 have n_range:=W.mg_none_of X G z10
 have n_reversed:=W.mg_none_of X G z11
 have n_set:=W.mg_none_of X G z12
 have n_sorted:=W.mg_none_of X G z13
 have n_tuple:=W.mg_none_of X G z14
 refine⟨W.fnOf "law" "law" (defArgs s_law) (defBody s_law) (defScope s_law) .none kV45 dc45 pm45 an45 cd45 ct45,fun s v=> .of_eq rfl,fun base _ _=> ?_⟩
 have g_whole:=ok_whole (P:=l.prog) (w:=w) (base:=base) F0 n_isinstance n_int n_bool
 have g_place:=ok_place (P:=l.prog) (w:=w) (base:=base) F1 E_is_whole g_whole
 have g_places:=ok_places (P:=l.prog) (w:=w) (base:=base) F2 E_is_place g_place n_all
 have g_rising:=ok_rising (P:=l.prog) (w:=w) (mg:=mg) (base:=base) F3 n_all n_range n_len
 have g_set:=ok_set (P:=l.prog) (w:=w) (base:=base) F4 E_are_places g_places E_is_rising g_rising n_isinstance n_tuple
 have g_ties:=ok_ties (P:=l.prog) (w:=w) (base:=base) F5 E_is_set g_set E_is_rising g_rising n_isinstance n_tuple n_all n_len
 have g_web:=ok_web (P:=l.prog) (w:=w) (base:=base) F6 E_is_whole g_whole E_are_ties g_ties n_isinstance n_tuple n_len v_MOST_PLACES
 have g_needWeb:=ok_needWeb (P:=l.prog) (w:=w) (base:=base) F7 E_is_web g_web
 have g_needPlace:=ok_needPlace (P:=l.prog) (w:=w) (base:=base) F8 E_is_place g_place
 have g_needSet:=ok_needSet (P:=l.prog) (w:=w) (base:=base) F9 E_is_set g_set
 have g_needFew:=ok_needFew (P:=l.prog) (w:=w) (base:=base) F10 v_MOST_PLACES
 have g_has:=ok_has (P:=l.prog) (w:=w) (mg:=mg) (base:=base) F13 n_min n_max
 have g_neigh:=ok_neigh (P:=l.prog) (w:=w) (base:=base) F14 E_need_web g_needWeb E_need_place g_needPlace E_has_tie g_has n_tuple n_range
 have g_placesS:=ok_placesS (P:=l.prog) (w:=w) (mg:=mg) (base:=base) F2 E_is_place g_place n_all
 have g_stir:=ok_stir (P:=l.prog) (w:=w) (mg:=mg) (base:=base) F37
 have g_digit:=ok_digit (P:=l.prog) (w:=w) (base:=base) F38 E_law_b_stirred g_stir n_len
 have g_pairs:=ok_pairs (P:=l.prog) (w:=w) (base:=base) F39 E_law_b_digit g_digit n_range n_int n_len
 have g_lweb:=ok_lweb (P:=l.prog) (w:=w) (base:=base) F40 E_law_b_digit g_digit E_law_b_pairs g_pairs n_range n_min n_max n_tuple n_sorted
 have g_allp:=ok_allp (P:=l.prog) (w:=w) (base:=base) F11 n_range
 have g_moved:=ok_moved (P:=l.prog) (w:=w) (mg:=mg) (base:=base) F34
 have g_beside:=ok_beside (P:=l.prog) (w:=w) (base:=base) F35 E_need_web g_needWeb E_need_few g_needFew E_moved_ties g_moved n_tuple
 have g_cut:=ok_cut (P:=l.prog) (w:=w) (base:=base) F36 E_need_web g_needWeb E_need_set g_needSet E_pairs g_allp E_has_tie g_has n_tuple n_len
 have g_count:=ok_count (P:=l.prog) (w:=w) (mg:=mg) (base:=base) F15 n_len
 have g_allTied:=ok_allTied (P:=l.prog) (w:=w) (mg:=mg) (base:=base) F16 E_count_ties_in g_count n_len
 have g_isCrowd:=ok_isCrowd (P:=l.prog) (w:=w) (mg:=mg) (base:=base) F17 E_need_web g_needWeb E_need_set g_needSet E_are_all_tied g_allTied
 have g_unlikeT:=ok_unlikeT (P:=l.prog) (w:=w) (mg:=mg) (base:=base) F24 E_are_places g_placesS n_set n_len
 have g_unlike:=ok_unlike (P:=l.prog) (w:=w) (mg:=mg) (base:=base) F24 E_are_places g_placesS n_set n_len
 have g_among:=ok_among (P:=l.prog) (w:=w) (mg:=mg) (base:=base) F25 E_has_tie g_has
 have g_isFold:=ok_isFold (P:=l.prog) (w:=w) (mg:=mg) (base:=base) F30 E_need_web g_needWeb E_are_unlike_places g_unlikeT E_are_all_tied g_allTied E_tied_among g_among n_len n_isinstance n_tuple n_all n_enumerate
 have g_bareRing:=ok_bareRing (P:=l.prog) (w:=w) (mg:=mg) (base:=base) F31 E_need_web g_needWeb E_are_unlike_places g_unlike E_pairs g_allp E_has_tie g_has n_len n_isinstance n_list n_all v_LEAST_BARE_RING
 have g_without:=ok_without (P:=l.prog) (w:=w) (mg:=mg) (base:=base) F12 n_tuple
 have g_first:=ok_first (P:=l.prog) (w:=w) (mg:=mg) (base:=base) F26 E_are_all_tied g_allTied E_tied_among g_among
 have g_next:=ok_next (P:=l.prog) (w:=w) (mg:=mg) (base:=base) F27 E_neighbours g_neigh E_tied_among g_among
 have g_ring:=ok_ring (P:=l.prog) (w:=w) (mg:=mg) (base:=base) F28 E_next_steps g_next E_has_tie g_has n_range n_len v_LEAST_BARE_RING
 have g_fold:=ok_fold (P:=l.prog) (w:=w) (mg:=mg) (base:=base) F29 E_need_web g_needWeb E_first_to_go g_first E_find_bare_ring g_ring E_without g_without n_tuple n_range
 have g_byTie:=ok_byTie (P:=l.prog) (w:=w) (mg:=mg) (base:=base) F18 E_has_tie g_has n_range
 have g_inBoth:=ok_inBoth (P:=l.prog) (w:=w) (mg:=mg) (base:=base) F19
 have g_fullSets:=ok_fullSets (P:=l.prog) (w:=w) (mg:=mg) (base:=base) F20 E_in_both g_inBoth n_list n_range n_len n_sorted
 have g_fullCrowds:=ok_fullCrowds (P:=l.prog) (w:=w) (mg:=mg) (base:=base) F21 E_need_web g_needWeb E_full_sets g_fullSets E_places_by_tie g_byTie n_range
 have g_firstG:=ok_firstG (P:=l.prog) (w:=w) (mg:=mg) (base:=base) F22 n_max n_len
 have g_greatC:=ok_greatC (P:=l.prog) (w:=w) (mg:=mg) (base:=base) F23 E_first_greatest g_firstG E_full_crowds g_fullCrowds
 have g_hues:=ok_hues (P:=l.prog) (w:=w) (mg:=mg) (base:=base) F32 E_tied_among g_among n_reversed n_list n_min n_range n_tuple
 have g_byFoldT:=ok_byFoldT (P:=l.prog) (w:=w) (mg:=mg) (base:=base) F33 E_fold g_fold E_greatest_crowd g_greatC E_hues_by_order g_hues n_len
 have g_folds:=ok_folds (P:=l.prog) (w:=w) (mg:=mg) (base:=base) F41 E_fold g_fold E_by_fold g_byFoldT E_greatest_crowd g_greatC E_is_fold g_isFold E_cut_down g_cut E_is_bare_ring g_bareRing E_neighbours g_neigh n_len n_tuple n_sorted n_any n_range
 have g_called:=ok_called (P:=l.prog) (w:=w) (mg:=mg) (base:=base) F42 E_law_b_digit g_digit n_range n_min n_max n_tuple n_sorted
 have g_withOne:=ok_withOne (P:=l.prog) (w:=w) (mg:=mg) (base:=base) F43 E_is_crowd g_isCrowd E_law_b_digit g_digit n_range n_tuple n_sorted n_list
 have g_cutRight:=ok_cutRight (P:=l.prog) (w:=w) (mg:=mg) (base:=base) F44 E_law_b_digit g_digit E_cut_down g_cut E_law_b_folds g_folds E_fold g_fold E_is_fold g_isFold n_range n_tuple
 exact ok_law F45 E_law_b_web g_lweb E_law_b_folds g_folds E_law_b_cut_right g_cutRight E_law_b_called g_called E_beside g_beside E_law_b_with_one g_withOne n_range n_len
theorem walk{l:PySem.W.OpenLaw}{q:Program}{loose:List Str}{XP:(Str->Option Value)->Heap->Prop}{YP:World->Heap->Prop}{d:DefRec}{K:Params->PySem.W.Frag}(hn:l.most=some 63)(hdf:d.params.defaults=[])(hY:∀(w:World) (h:Heap),YP w h->(K w.params).In h)
  (F:∀(w:World) (mg:Str->Option Value) (fa:Addr) (h:Heap),(K w.params).In h->h.Ns mainGlobals mg->mg d.name=some (.ref fa)->
   ∃fd:FuncData,(∀(s:Shared) (u:Value),BindsTo s fd ⟨[u],[]⟩ [("script",u)])/\∀base:Heap,(K w.params).In base->base.Ns mainGlobals mg->FnOk l.prog w (K w.params) mg base CX0 16 fa fd ["script"] (spLaw (K w.params))):
  PySem.W.WalkO q loose XP YP l.row.toRowW d [] (fun f vs=>PySem.call f vs):=
 L2.walk_of (n:=63) (k:=16) (x:="script") (CX:=fun _=>CX0) (sp:=fun w=>spLaw (K w.params)) hn (by decide) hdf ⟨rfl,by decide,by decide,rfl⟩ hY F (fun _ _ a ns hl hO hS=>spLaw_of hl hO hS) fun _ _ _ _ _ z=>z
end Hs
open PySem PySem.W PyProof.Rows
set_option maxRecDepth 100000 in
set_option maxHeartbeats 0 in
theorem PySem.Challenge.cw_hueshare_k18_whole_folds_of_webs_made_holds : PySem.Challenge.rw_hueshare_k18_whole_folds_of_webs_made.Holds := by
 refine Hd.early.2 ?_
 unfold Hd.early
 dsimp only
 k_fill
 refine Hs.walk (l:=PySem.Challenge.rw_hueshare_k18_whole_folds_of_webs_made) rfl rfl (fun w h Y=>PySem.W.kIn_of Y) ?F
 case F=>
  intro w mg fa h KX G hmg
  refine' Hs.all_mk KX G hmg ?a0 ?l0 ?c0 ?k0 ?a1 ?l1 ?c1 ?k1 ?a2 ?l2 ?c2 ?k2 ?a3 ?l3 ?c3 ?k3 ?a4 ?l4 ?c4 ?k4 ?a5 ?l5 ?c5 ?k5 ?a6 ?l6 ?c6 ?k6 ?a7 ?l7 ?c7 ?k7 ?a8 ?l8 ?c8 ?k8 ?a9 ?l9 ?c9 ?k9 ?a10 ?l10 ?c10 ?k10 ?a11 ?l11 ?c11 ?k11 ?a12 ?l12 ?c12 ?k12 ?a13 ?l13 ?c13 ?k13 ?a14 ?l14 ?c14 ?k14 ?a15 ?l15 ?c15 ?k15 ?a16 ?l16 ?c16 ?k16 ?a17 ?l17 ?c17 ?k17 ?a18 ?l18 ?c18 ?k18 ?a19 ?l19 ?c19 ?k19 ?a20 ?l20 ?c20 ?k20 ?a21 ?l21 ?c21 ?k21 ?a22 ?l22 ?c22 ?k22 ?a23 ?l23 ?c23 ?k23 ?a24 ?l24 ?c24 ?k24 ?a25 ?l25 ?c25 ?k25 ?a26 ?l26 ?c26 ?k26 ?a27 ?l27 ?c27 ?k27 ?a28 ?l28 ?c28 ?k28 ?a29 ?l29 ?c29 ?k29 ?a30 ?l30 ?c30 ?k30 ?a31 ?l31 ?c31 ?k31 ?a32 ?l32 ?c32 ?k32 ?a33 ?l33 ?c33 ?k33 ?a34 ?l34 ?c34 ?k34 ?a35 ?l35 ?c35 ?k35 ?a36 ?l36 ?c36 ?k36 ?a37 ?l37 ?c37 ?k37 ?a38 ?l38 ?c38 ?k38 ?a39 ?l39 ?c39 ?k39 ?a40 ?l40 ?c40 ?k40 ?a41 ?l41 ?c41 ?k41 ?a42 ?l42 ?c42 ?k42 ?a43 ?l43 ?c43 ?k43 ?a44 ?l44 ?c44 ?k44 ?a45 ?l45 ?c45 ?k45 ?x0 ?x1 ?z0 ?z1 ?z2 ?z3 ?z4 ?z5 ?z6 ?z7 ?z8 ?z9 ?z10 ?z11 ?z12 ?z13 ?z14
  (case a0=>k_is)
  (case l0=>k_is)
  (case c0=>k_is)
  (case k0=>k_is)
  (case a1=>k_is)
  (case l1=>k_is)
  (case c1=>k_is)
  (case k1=>k_is)
  (case a2=>k_is)
  (case l2=>k_is)
  (case c2=>k_is)
  (case k2=>k_is)
  (case a3=>k_is)
  (case l3=>k_is)
  (case c3=>k_is)
  (case k3=>k_is)
  (case a4=>k_is)
  (case l4=>k_is)
  (case c4=>k_is)
  (case k4=>k_is)
  (case a5=>k_is)
  (case l5=>k_is)
  (case c5=>k_is)
  (case k5=>k_is)
  (case a6=>k_is)
  (case l6=>k_is)
  (case c6=>k_is)
  (case k6=>k_is)
  (case a7=>k_is)
  (case l7=>k_is)
  (case c7=>k_is)
  (case k7=>k_is)
  (case a8=>k_is)
  (case l8=>k_is)
  (case c8=>k_is)
  (case k8=>k_is)
  (case a9=>k_is)
  (case l9=>k_is)
  (case c9=>k_is)
  (case k9=>k_is)
  (case a10=>k_is)
  (case l10=>k_is)
  (case c10=>k_is)
  (case k10=>k_is)
  (case a11=>k_is)
  (case l11=>k_is)
  (case c11=>k_is)
  (case k11=>k_is)
  (case a12=>k_is)
  (case l12=>k_is)
  (case c12=>k_is)
  (case k12=>k_is)
  (case a13=>k_is)
  (case l13=>k_is)
  (case c13=>k_is)
  (case k13=>k_is)
  (case a14=>k_is)
  (case l14=>k_is)
  (case c14=>k_is)
  (case k14=>k_is)
  (case a15=>k_is)
  (case l15=>k_is)
  (case c15=>k_is)
  (case k15=>k_is)
  (case a16=>k_is)
  (case l16=>k_is)
  (case c16=>k_is)
  (case k16=>k_is)
  (case a17=>k_is)
  (case l17=>k_is)
  (case c17=>k_is)
  (case k17=>k_is)
  (case a18=>k_is)
  (case l18=>k_is)
  (case c18=>k_is)
  (case k18=>k_is)
  (case a19=>k_is)
  (case l19=>k_is)
  (case c19=>k_is)
  (case k19=>k_is)
  (case a20=>k_is)
  (case l20=>k_is)
  (case c20=>k_is)
  (case k20=>k_is)
  (case a21=>k_is)
  (case l21=>k_is)
  (case c21=>k_is)
  (case k21=>k_is)
  (case a22=>k_is)
  (case l22=>k_is)
  (case c22=>k_is)
  (case k22=>k_is)
  (case a23=>k_is)
  (case l23=>k_is)
  (case c23=>k_is)
  (case k23=>k_is)
  (case a24=>k_is)
  (case l24=>k_is)
  (case c24=>k_is)
  (case k24=>k_is)
  (case a25=>k_is)
  (case l25=>k_is)
  (case c25=>k_is)
  (case k25=>k_is)
  (case a26=>k_is)
  (case l26=>k_is)
  (case c26=>k_is)
  (case k26=>k_is)
  (case a27=>k_is)
  (case l27=>k_is)
  (case c27=>k_is)
  (case k27=>k_is)
  (case a28=>k_is)
  (case l28=>k_is)
  (case c28=>k_is)
  (case k28=>k_is)
  (case a29=>k_is)
  (case l29=>k_is)
  (case c29=>k_is)
  (case k29=>k_is)
  (case a30=>k_is)
  (case l30=>k_is)
  (case c30=>k_is)
  (case k30=>k_is)
  (case a31=>k_is)
  (case l31=>k_is)
  (case c31=>k_is)
  (case k31=>k_is)
  (case a32=>k_is)
  (case l32=>k_is)
  (case c32=>k_is)
  (case k32=>k_is)
  (case a33=>k_is)
  (case l33=>k_is)
  (case c33=>k_is)
  (case k33=>k_is)
  (case a34=>k_is)
  (case l34=>k_is)
  (case c34=>k_is)
  (case k34=>k_is)
  (case a35=>k_is)
  (case l35=>k_is)
  (case c35=>k_is)
  (case k35=>k_is)
  (case a36=>k_is)
  (case l36=>k_is)
  (case c36=>k_is)
  (case k36=>k_is)
  (case a37=>k_is)
  (case l37=>k_is)
  (case c37=>k_is)
  (case k37=>k_is)
  (case a38=>k_is)
  (case l38=>k_is)
  (case c38=>k_is)
  (case k38=>k_is)
  (case a39=>k_is)
  (case l39=>k_is)
  (case c39=>k_is)
  (case k39=>k_is)
  (case a40=>k_is)
  (case l40=>k_is)
  (case c40=>k_is)
  (case k40=>k_is)
  (case a41=>k_is)
  (case l41=>k_is)
  (case c41=>k_is)
  (case k41=>k_is)
  (case a42=>k_is)
  (case l42=>k_is)
  (case c42=>k_is)
  (case k42=>k_is)
  (case a43=>k_is)
  (case l43=>k_is)
  (case c43=>k_is)
  (case k43=>k_is)
  (case a44=>k_is)
  (case l44=>k_is)
  (case c44=>k_is)
  (case k44=>k_is)
  (case a45=>k_is)
  (case l45=>k_is)
  (case c45=>k_is)
  (case k45=>k_is)
  (case x0=>k_is)
  (case x1=>k_is)
  (case z0=>k_is)
  (case z1=>k_is)
  (case z2=>k_is)
  (case z3=>k_is)
  (case z4=>k_is)
  (case z5=>k_is)
  (case z6=>k_is)
  (case z7=>k_is)
  (case z8=>k_is)
  (case z9=>k_is)
  (case z10=>k_is)
  (case z11=>k_is)
  (case z12=>k_is)
  (case z13=>k_is)
  (case z14=>k_is)
