import PyProof.Rows.All
import Wide.All
import OpenK.AllK
import Wide.FinOn
import Lean
import PyProof.EqAt
import PyProof.EqKinds
import PyProof.TupleCall
import PyProof.ListRange
import PyProof.TupleOfSeq
import PyProof.Draws
import PyProof.EnumMake
import PyProof.TupleIter
import PyProof.Rows.SetFrom
import PyProof.SetRoads
import PyProof.WalksMore
import PyProof.Rows.SortShell
import KE.KMinBuiltin
import PyProof.Rows.CallKwBuiltin
import KE.KRevIter
import PyProof.Rows.Tup
import PyProof.Rows.Range3
import PyProof.DictWalks
import PyProof.DictTruth
import PyProof.TupleKey
import PyProof.Rows.SeqMore2
import PyProof.FString
import PyProof.StrWalks
import PyProof.StrBlockH
import PyProof.StrCalls2
import PyProof.SliceStr2
import KE.KIntText
import PyProof.StrLawsTight
import KE.KDictList
import PyProof.DictRoadsH
import PyProof.MinMaxWalk
import PyProof.MeetsSeq
import KE.IntBitsLaws
import PyProof.FitsBits
import PySem.Challenge.RW_hueshare_k48_alike_everywhere
set_option Elab.async false
set_option linter.all false
set_option maxRecDepth 100000
namespace Hd
open PySem PySem.W PySem.Calls PyProof.Rows
-- a run of the text's top over the heap as a tree, as one fold
noncomputable def runT(tb:String->Option Builtin)(p:Program)(w:World)(m:Nat)(ann:Option Value)(n:Nat):SharedT->Thread->Option SharedT:=
 @Nat.rec (fun _=>SharedT->Thread->Option SharedT) (fun _ _=>none)
  (fun _ ih s t=> @Bool.rec (fun _=>Option SharedT)
   (@Bool.rec (fun _=>Option SharedT) none
    (@Option.rec (SharedT×Thread) (fun _=>Option SharedT) none (fun r=>ih r.1 r.2) (stepT (denote tb) p w s t)) (stepOk m ann t))
   (some s) (through t)) n
theorem run_abs{tb:String->Option Builtin}{p:Program}{w:World}{m:Nat}{ann:Option Value}:∀(n:Nat) (s s':SharedT) (t:Thread),
  runT tb p w m ann n s t=some s'->topRun tb p w m ann n s.abs t=some s'.abs:=by
 intro n
 induction n with
 |zero=>intro s s' t h;exact absurd h (by intro h;cases h)
 |succ n ih=>
  intro s s' t h
  have h1: @Bool.rec (fun _=>Option SharedT) (@Bool.rec (fun _=>Option SharedT) none
    (@Option.rec (SharedT×Thread) (fun _=>Option SharedT) none (fun r=>runT tb p w m ann n r.1 r.2) (stepT (denote tb) p w s t)) (stepOk m ann t))
    (some s) (through t)=some s':=h
  unfold topRun
  cases e1:through t with
  |true=>rw[e1]at h1;injection h1 with h1;rw[h1]
  |false=>
   rw[e1]at h1
   cases e2:stepOk m ann t with
   |false=>rw[e2]at h1;cases h1
   |true=>
    rw[e2]at h1
    cases e3:stepT (denote tb) p w s t with
    |none=>rw[e3]at h1;cases h1
    |some r=>
     rw[e3]at h1
     have e4:=stepT_spec (s':=r.1) (t':=r.2) e3
     show(match step (denote tb) p w s.abs t with | .go a b=>topRun tb p w m ann n a b| .halt _ _=>none)=_
     rw[e4]
     exact ih _ _ _ h1
noncomputable def treeOf(l:List Obj):BT:=(l.foldl (fun x o=>(x.1.ins x.2 o,x.2+1)) ((BT.nil,0):BT×Nat)).1
-- the run from the start that the kit has laid
noncomputable def ran(p:Program)(N:Nat)(w:World)(os:OsState):Option SharedT:=
 runT treeTable p w 11 (some (.ref 6)) N ⟨treeOf (boot_heap w.params).objs.toList,11,{},Array.mk [],boot_drawn,boot_toks,os⟩ (topStub p)
-- what is looked at behind the run
noncomputable def looked(p q:Program)(loose:List Str)(Xt:Shared->Bool)(g0:Bool)(h:Heap)(s:Shared):=
 ((staticsOk (importedModules p.main.body) h s.heap&&namesBound p s.heap&&gensDone s&&laidKept h s.heap),openSeen q loose (importedModules p.main.body) Xt g0 s)
noncomputable def LooksWell(p q:Program)(loose:List Str)(Xt:Shared->Bool)(g0:Bool)(N:Nat):Prop:=
 ∀(w:World) (os:OsState),(ran p N w os).map (fun s=>looked p q loose Xt g0 (boot_heap w.params) s.abs)=some (true,openGood q loose)
theorem left_of{p q:Program}{loose:List Str}{Xt:Shared->Bool}{α:Type}{Yf:Shared->α}{Ya:World->α}{N:Nat}{g0:Bool}(r:LooksWell p q loose Xt g0 N)(e:opening p=plainProg p.main.scope.names)(hN:Nat.ble 600 N=true)(f:∀s,fenceModules? p s=some s)(y:∀(w:World) (os:OsState),(ran p N w os).map (fun s=>Yf s.abs)=some (Ya w)):
  LeftO p q loose Xt Yf Ya N g0:=fun w=>by
 have b:((boot_heap w.params).isNs mainGlobals&&(Array.mk []:Array GenState).size==0,(boot_heap w.params).objs.size,(boot_heap w.params).nsMap mainGlobals "__annotations__")=(true,11,some (.ref 6)):=by kernel_rfl
 have c:absHeap (treeOf (boot_heap w.params).objs.toList) 11 {}=boot_heap w.params:=by kernel_rfl
 obtain⟨⟨h,gs',d',k',os⟩,e1,e'⟩:=Option.map_eq_some_iff.mp (boot_open e hN f w)
 obtain⟨rfl,rfl,rfl,rfl⟩:h=boot_heap w.params/\gs'=Array.mk []/\d'=boot_drawn/\k'=boot_toks:=by simpa using e'
 obtain⟨b1,b2,b3⟩:_/\_/\_:=by simpa only[Prod.mk.injEq]using b
 obtain⟨s,r1,r2⟩:=Option.map_eq_some_iff.mp (r w os)
 obtain⟨s',y1,y2⟩:=Option.map_eq_some_iff.mp (y w os)
 have es:s'=s:=by rw[r1]at y1;injection y1 with y1;exact y1.symm
 subst es
 obtain⟨l1,l2⟩:_/\_:=by simpa only[looked,Prod.mk.injEq]using r2
 have t1:=run_abs N _ _ _ r1
 have ab:SharedT.abs ⟨treeOf (boot_heap w.params).objs.toList,11,{},Array.mk [],boot_drawn,boot_toks,os⟩=⟨boot_heap w.params,Array.mk [],boot_drawn,boot_toks,os⟩:=by unfold SharedT.abs;rw[c]
 rw[ab]at t1
 have t:topFrom treeTable p w N ⟨boot_heap w.params,Array.mk [],boot_drawn,boot_toks,os⟩=some s'.abs:=by
  unfold topFrom
  dsimp only
  rw[b1,b2,b3,t1]
  show(match staticsOk (importedModules p.main.body) (boot_heap w.params) s'.abs.heap&&namesBound p s'.abs.heap&&gensDone s'.abs&&laidKept (boot_heap w.params) s'.abs.heap with |true=>_|false=>_)=_
  rw[l1]
 unfold openEnds
 rw[e1]
 show(topFrom treeTable p w N _).map _=_
 rw[t]
 show some (_,_)=_
 rw[l2,y2]
end Hd
section
open PySem PySem.W PyProof.Rows
namespace Hd
noncomputable abbrev L:=PySem.Challenge.rw_hueshare_k48_alike_everywhere
noncomputable def Q:Program:=view L.row.toRowW.prog [1,2,4,5,6,7,8,9,10,11,12,13,15,16,17,18,19,20,22,23,25,26,27,28,29,30,32,33,34,35,36,37,38,39,40,41,42,43,44,45,46,47,48,49,50]
noncomputable abbrev X:Shared->Bool:=fun s=>xlAt Q [] s&&recOk (RowW.records L.row.toRowW) s
set_option maxRecDepth 100000 in
theorem looks:LooksWell L.row.toRowW.prog Q [] X true 3460:=fun w os=>by kernel_rfl
end Hd
local macro_rules
 |`(tactic|o_head $H)=>`(tactic|
  refine holds_open (q:=Hd.Q) (loose:=[]) (N:=3460) (Xt:=Hd.X) (XP:=XL Hd.Q [])
   (Yf:=Hook.obs $H) (Ya:=Hook.val $H) (YP:=Hook.says $H)
   (Hd.left_of Hd.looks (by kernel_rfl) rfl (fun _=>by kernel_rfl) (fun _ _=>by kernel_rfl))
   (Hook.of $H) (Hook.keeps $H) (fun s e=>xl_of s (Bool.and_eq_true_iff.mp e).1) XL.keeps
   (by rfl) (by rfl) (by rfl) (fun s e=>recFacts_of (Bool.and_eq_true_iff.mp e).2) (by rfl)
   (by first |assumption|decide+kernel) (by decide+kernel) ⟨rfl,rfl,rfl,rfl,rfl,by decide+kernel⟩ ?hw ?hc)
set_option maxRecDepth 100000 in
set_option maxHeartbeats 0 in
noncomputable def Hd.early:PSigma fun P:Prop=>P->PySem.Challenge.rw_hueshare_k48_alike_everywhere.Holds:=by
 refine⟨?P,fun W=> ?_⟩
 rotate_left
 w_on;o_law;k_head;(case hw=>w_witness2)
 exact W
end
namespace L2
open PySem PySem.Spec PyProof.Rows
noncomputable abbrev Key:=Sum Int Str
noncomputable def keyIs:Key->Value->Bool
 | .inl k,v=>Value.isInt k v
 | .inr x,v=>Value.isStrOf x v
noncomputable def keyH(w:World):Key->Int
 | .inl k=>hashInt k
 | .inr x=>hashStr w x
theorem zby:∀{k:Key} {v:Value},keyIs k v=true->(∃i t,k=Sum.inl i/\v=Value.int i t)\/(∃x t,k=Sum.inr x/\v=Value.str x t)
 | .inl i,v,h=>by
  obtain⟨t,e⟩:=Value.isInt_shape (k:=i) (v:=v) h
  exact .inl ⟨i,t,rfl,e⟩
 | .inr x,v,h=>by
  obtain⟨t,e⟩:=Value.isStrOf_shape (x:=x) (v:=v) h
  exact .inr ⟨x,t,rfl,e⟩
theorem key_ll(a b:Int):decide ((Sum.inl a:Key)=Sum.inl b)=(a==b):=by
 by_cases e:a=b
 ·subst e;simp
 ·have h:¬(Sum.inl a:Key)=Sum.inl b:=fun q=>e (Sum.inl.inj q)
  rw[decide_eq_false h]
  exact(beq_eq_false_iff_ne.mpr e).symm
theorem key_rr(a b:Str):decide ((Sum.inr a:Key)=Sum.inr b)=decide (a=b):=by
 by_cases e:a=b
 ·subst e;simp
 ·have h:¬(Sum.inr a:Key)=Sum.inr b:=fun q=>e (Sum.inr.inj q)
  rw[decide_eq_false h,decide_eq_false e]
theorem key_lr(a:Int)(b:Str):decide ((Sum.inl a:Key)=Sum.inr b)=false:=decide_eq_false (fun q=>nomatch q)
theorem key_rl(a:Str)(b:Int):decide ((Sum.inr a:Key)=Sum.inl b)=false:=decide_eq_false (fun q=>nomatch q)
noncomputable def mixKind(prog:Program)(w:World):PySem.KeyKind prog w Key where
 is:=keyIs
 hash:=keyH w
 inj:=fun v a b ha hb=>by
  rcases zby ha with⟨i,t,rfl,rfl⟩|⟨x,t,rfl,rfl⟩
  ·rcases zby hb with⟨j,u,rfl,e⟩|⟨y,u,rfl,e⟩
   ·injection e with e1 _;rw[e1]
   ·exact nomatch e
  ·rcases zby hb with⟨j,u,rfl,e⟩|⟨y,u,rfl,e⟩
   ·exact nomatch e
   ·injection e with e1 _;rw[e1]
 byValue:=fun k v h=>by
  rcases zby h with⟨i,t,rfl,rfl⟩|⟨x,t,rfl,rfl⟩<;>rfl
 pyHash:=fun hv h=>by
  rcases zby hv with⟨i,t,rfl,rfl⟩|⟨x,t,rfl,rfl⟩
  ·exact wpAny_pyHash_int h
  ·exact wpAny_pyHash_str h
 eqBool:=fun hu hv h=>by
  rcases zby hu with⟨i,t,rfl,rfl⟩|⟨x,t,rfl,rfl⟩
  ·rcases zby hv with⟨j,u,rfl,rfl⟩|⟨y,u,rfl,rfl⟩
   ·rw[key_ll]at h;exact wpAny_eqBool_int h
   ·rw[key_lr]at h;exact SeqAt.EqAt.int_str i t y u _ _ _ _ h
  ·rcases zby hv with⟨j,u,rfl,rfl⟩|⟨y,u,rfl,rfl⟩
   ·rw[key_rl]at h;exact SeqAt.EqAt.str_int x t j u _ _ _ _ h
   ·rw[key_rr]at h;exact wpAny_eqBool_str h
 «strs»:=fun k x t v h=>by
  rcases zby h with⟨i,u,rfl,e⟩|⟨y,u,rfl,e⟩
  ·exact nomatch e
  ·injection e with e1 _
   subst e1
   cases v<;>rfl
end L2
namespace L2
open PySem PySem.Spec PyProof.Rows
inductive V where
 |non|bl (b:Bool)|int (i:Int)|str (x:Str)|byt (b:Array UInt8)|flt (b:UInt64)|ref (a:Addr)|ty (n:String)
 deriving DecidableEq
noncomputable def RelV:V->Value->Prop
 | .non,u=>u=Value.none
 | .bl b,u=>u=Value.bool b
 | .int i,u=>∃t,u=Value.int i t
 | .str x,u=>∃t,u=Value.str x t
 | .byt b,u=>∃t,u=Value.bytes b t
 | .flt b,u=>∃t,u=Value.float b t
 | .ref a,u=>u=Value.ref a
 | .ty n,u=>u=Value.type n
noncomputable abbrev Vals:List V->List Value->Prop:=Paired RelV
theorem Vals.length{xs:List V}{us:List Value}(r:Vals xs us):xs.length=us.length:=Paired.length r
theorem Vals.get:∀{xs:List V} {us:List Value} {i:Nat} {x:V},Vals xs us->xs[i]? =some x->∃u,us[i]? =some u/\RelV x u
 |_,_,_,_,.nil,e=>by simp at e
 |_,_,0,_,.cons r _,e=>by simp at e;subst e;exact⟨_,rfl,r⟩
 |_,_,i+1,x,.cons _ t,e=>by
  obtain⟨u,h1,h2⟩:=Vals.get (i:=i) (x:=x) t (by simpa using e)
  exact⟨u,by simpa using h1,h2⟩
theorem Vals.set{x:V}{u:Value}(r:RelV x u):∀{xs:List V} {us:List Value} (i:Nat),Vals xs us->Vals (xs.set i x) (us.set i u)
 |_,_,_,.nil=> .nil
 |_,_,0,.cons _ t=> .cons r t
 |_,_,i+1,.cons q t=> .cons q (Vals.set r i t)
theorem Vals.append:∀{xs ys:List V} {us ws:List Value},Vals xs us->Vals ys ws->Vals (xs++ys) (us++ws)
 |_,_,_,_,.nil,s=>s
 |_,_,_,_,.cons r t,s=> .cons r (Vals.append t s)
theorem Vals.take:∀{xs:List V} {us:List Value} (n:Nat),Vals xs us->Vals (xs.take n) (us.take n)
 |_,_,0,_=> .nil
 |_,_,_+1,.nil=> .nil
 |_,_,n+1,.cons r t=> .cons r (Vals.take n t)
theorem Vals.drop:∀{xs:List V} {us:List Value} (n:Nat),Vals xs us->Vals (xs.drop n) (us.drop n)
 |_,_,0,r=>r
 |_,_,_+1,.nil=> .nil
 |_,_,n+1,.cons _ t=>Vals.drop n t
noncomputable def RelO:Option V->Option Value->Prop
 |some v,some u=>RelV v u
 |none,none=>True
 |_,_=>False
noncomputable def KV{κ:Type}:List (κ×V)->List (κ×Value)->Prop:=Paired fun(p:κ×V) (q:κ×Value)=>p.1=q.1/\RelV p.2 q.2
noncomputable def kV:Key->V
 | .inl i=> .int i
 | .inr x=> .str x
inductive HO where
 /-- a list -/
 |lst (xs:List V)
 /-- a tuple (never changes) -/
 |tup (xs:List V)
 /-- a dict whose keys are ints and texts; one whose keys are tuples of ints and texts (the empty one is both) -/
 |dK (kvs:List (Key×V))|dT (kvs:List (List Key×V))
 /-- a set of ints: its members, its size -/
 |set (S:Int->Bool) (n:Nat)
 /-- an instance of the class at C, its dict at dx, its attributes -/
 |ins (C dx:Addr) (fs:List (Str×V))
 /-- the dict of the instance at x -/
 |own (x:Addr)
 /-- the dict of an exception -/
 |xd (fs:List (Str×V))
 /-- a bound method, f of x -/
 |met (f x:Addr)
 /-- a range object lo, lo + 1, .. below hi -/
 |rng (lo hi:Int)
 /-- a thing that is known to the object (the script; a dict while a loop walks it): read, never written while it is so -/
 |frz (o:Obj) (u:HO)
 /-- a code object's table -/
 |tbl (ps:Array Value)
 /-- any other thing, by what is true of its one object (a def of one's own: SetO a S n := HO.ext fun h => ..) -/
 |ext (φ:Heap->Prop)
noncomputable abbrev Hp:=Addr->Option HO
noncomputable def upd(H:Hp)(a:Addr)(o:HO):Hp:=fun b=>if b=a then some o else H b
theorem zac{H:Hp}{a:Addr}{o:HO}:upd H a o a=some o:=by unfold upd;rw[if_pos rfl]
theorem zbz{H:Hp}{a b:Addr}{o:HO}(h:b≠a):upd H a o b=H b:=by unfold upd;rw[if_neg h]
theorem ne_of{H:Hp}{a b:Addr}{o u:HO}(h:H a=some o)(h':H b=some u)(d:o≠u):a≠b:=by
 intro e;subst e;rw[h]at h';exact d (Option.some.inj h')
theorem zbs{H:Hp}{a b:Addr}{o:HO}(h:H a=some o)(h':H b=none):a≠b:=by
 intro e;subst e;rw[h]at h';cases h'
section
variable(P:Program)(w:World)
noncomputable def ObjOk(H:Hp)(h:Heap)(a:Addr):HO->Prop
 | .lst xs=>xs.length<=sizeLine/\∃(its:List Value) (n:Nat),Vals xs its/\h.get? a=some {cls:= .type "list",data:= .seq its.toArray n}
 | .tup xs=>xs.length<=sizeLine/\∃its:List Value,Vals xs its/\IsTup h a its.toArray
 | .dK kvs=>kvs.length<=sizeLine/\(a==sysModules)=false/\∃vs,KV kvs vs/\h.DictOf (mixKind P w) a vs
 | .dT kvs=>kvs.length<=sizeLine/\(a==sysModules)=false/\∃xs:List (List Key×Addr×Value),
   Paired (fun(p:List Key×V) (q:List Key×Addr×Value)=>p.1=q.1/\H q.2.1=some (.tup (p.1.map kV))/\RelV p.2 q.2.2) kvs xs/\
   ∃o es ep,h.get? a=some o/\o.ExactDict/\o.data= .dict es ep/\es.toList=xs.map (entryOfKey (tupleKind (mixKind P w)))/\(xs.map (·.1)).Nodup
 | .set S n=>h.SetOf (intKind P w) a S n
 | .ins C dx fs=>H dx=some (.own a)/\fs.length<=1000/\dx≠a/\h.get? a=some (PySem.W.instObj C dx)/\
   ∃mA,h.Ns1 dx mA/\(∀f,RelO (fs.lookup f) (mA f))/\PySem.Within mA (fs.map (·.1))
 | .own _=>∃o,h.get? a=some o
 | .xd fs=>∃mA,h.Ns1 a mA/\∀f,RelO (fs.lookup f) (mA f)
 | .rng lo hi=>∃t u v,h.get? a=some {cls:= .type "range",data:= .fields #[.int lo t,.int hi u,.int 1 v]}
 | .frz o u=>h.get? a=some o/\ObjOk H h a u
 | .tbl ps=>h.get? a=some {cls:= .none,data:= .fields ps}
 | .met f x=>h.get? a=some (PySem.W.methodObj (.ref f) (.ref x))
 | .ext φ=>φ h/\(∃o,h.get? a=some o)/\∀h1 h2:Heap,φ h1->(∀o,h1.get? a=some o->h2.get? a=some o)->φ h2
noncomputable def HOk(H:Hp)(h:Heap):Prop:=∀a o,H a=some o->ObjOk P w H h a o
end
section
variable{P:Program}{w:World}{H H':Hp}{h h':Heap}{a:Addr}{o:HO}
theorem ObjOk.lt(x:ObjOk P w H h a o):a<h.objs.size:=by
 cases o with
 |lst xs=>obtain⟨_,_,_,_,e⟩:=x;exact Heap.lt_size e
 |tup xs=>obtain⟨_,_,_,p⟩:=x;exact p.lt
 |dK kvs=>obtain⟨_,_,_,_,o,_,_,e,_⟩:=x;exact Heap.lt_size e
 |dT kvs=>obtain⟨_,_,_,_,o,_,_,e,_⟩:=x;exact Heap.lt_size e
 |set S n=>obtain⟨o,_,_,_,e,_⟩:=x;exact Heap.lt_size e
 |ins C dx fs=>obtain⟨_,_,_,e,_⟩:=x;exact Heap.lt_size e
 |own y=>obtain⟨_,e⟩:=x;exact Heap.lt_size e
 |xd fs=>obtain⟨_,⟨_,_,_,e,_⟩,_⟩:=x;exact Heap.lt_size e
 |rng lo hi=>obtain⟨_,_,_,e⟩:=x;exact Heap.lt_size e
 |frz ob u=>obtain⟨e,_⟩:=x;exact Heap.lt_size e
 |tbl ps=>exact Heap.lt_size (show h.get? a=some _ from x)
 |met f y=>exact Heap.lt_size (show h.get? a=some _ from x)
 |ext φ=>obtain⟨_,⟨_,e⟩,_⟩:=x;exact Heap.lt_size e
theorem Paired.mapP{α β:Type}{F G:α->β->Prop}:∀{l₁:List α} {l₂:List β},Paired F l₁ l₂->(∀a b,F a b->G a b)->Paired G l₁ l₂
 |_,_,.nil,_=> .nil
 |_,_,.cons r t,f=> .cons (f _ _ r) (Paired.mapP t f)
theorem ObjOk.stay(x:ObjOk P w H h a o)(k:∀b u,(b=a\/H b=some (.own a))->h.get? b=some u->h'.get? b=some u)(ho:∀b,H b=some (.own a)->H' b=some (.own a))(ht:∀b xs,H b=some (.tup xs)->H' b=some (.tup xs)):ObjOk P w H' h' a o:=by
 induction o with
 |lst xs=>obtain⟨z,its,n,r,e⟩:=x;exact⟨z,its,n,r,k _ _ (.inl rfl) e⟩
 |tup xs=>obtain⟨z,its,r,ob,e,c⟩:=x;exact⟨z,its,r,ob,k _ _ (.inl rfl) e,c⟩
 |dK kvs=>obtain⟨z,y,vs,r,ob,es,ep,e,c⟩:=x;exact⟨z,y,vs,r,ob,es,ep,k _ _ (.inl rfl) e,c⟩
 |dT kvs=>
  obtain⟨z,y,xs,r,ob,es,ep,e,c⟩:=x
  exact⟨z,y,xs,Paired.mapP r fun p q z=>⟨z.1,ht _ _ z.2.1,z.2.2⟩,ob,es,ep,k _ _ (.inl rfl) e,c⟩
 |set S n=>obtain⟨ob,es,ep,t,e,c⟩:=x;exact⟨ob,es,ep,t,k _ _ (.inl rfl) e,c⟩
 |ins C dx fs=>
  obtain⟨d,z,ne,e,mA,⟨od,es,ep,e2,c⟩,r⟩:=x
  exact⟨ho _ d,z,ne,k _ _ (.inl rfl) e,mA,⟨od,es,ep,k _ _ (.inr d) e2,c⟩,r⟩
 |own y=>obtain⟨ob,e⟩:=x;exact⟨ob,k _ _ (.inl rfl) e⟩
 |xd fs=>obtain⟨mA,⟨od,es,ep,e,c⟩,r⟩:=x;exact⟨mA,⟨od,es,ep,k _ _ (.inl rfl) e,c⟩,r⟩
 |rng lo hi=>obtain⟨t,u,v,e⟩:=x;exact⟨t,u,v,k _ _ (.inl rfl) e⟩
 |frz ob u ih=>obtain⟨e,q⟩:=x;exact⟨k _ _ (.inl rfl) e,ih q⟩
 |tbl ps=>
  have e:h.get? a=some {cls:= .none,data:= .fields ps}:=x
  show h'.get? a=some {cls:= .none,data:= .fields ps}
  exact k a _ (.inl rfl) e
 |met f y=>
  have e:h.get? a=some (PySem.W.methodObj (.ref f) (.ref y)):=x
  show h'.get? a=some (PySem.W.methodObj (.ref f) (.ref y))
  exact k a _ (.inl rfl) e
 |ext φ=>obtain⟨p,⟨o,e⟩,st⟩:=x;exact⟨st _ _ p fun o q=>k _ _ (.inl rfl) q,⟨o,k _ _ (.inl rfl) e⟩,st⟩
theorem HOk.lt(x:HOk P w H h)(e:H a=some o):a<h.objs.size:=(x a o e).lt
theorem HOk.fresh(x:HOk P w H h)(e:h.objs.size<=a):H a=none:=by
 cases q:H a with
 |none=>rfl
 |some u=>exact absurd (Nat.lt_of_lt_of_le (x.lt q) e) (Nat.lt_irrefl _)
theorem HOk.kept(x:HOk P w H h)(k:∀b u,h.get? b=some u->h'.get? b=some u):HOk P w H h':=fun a o e=>
 (x a o e).stay (fun b u _ q=>k b u q) (fun _ q=>q) fun _ _ q=>q
theorem HOk.laid(x:HOk P w H h)(k:∀b u,h.get? b=some u->h'.get? b=some u)(hp:h.objs.size<=a)(new:ObjOk P w (upd H a o) h' a o):HOk P w (upd H a o) h':=fun b u e=>by
 have hn:=x.fresh hp
 by_cases hb:b=a
 ·subst hb;rw[zac]at e;cases e;exact new
 ·rw[zbz hb]at e
  exact(x b u e).stay (fun c v _ q=>k c v q) (fun c q=>by rw[zbz (zbs q hn)];exact q) fun c xs q=>by rw[zbz (zbs q hn)];exact q
end
noncomputable def Rd(H:Hp)(a:Addr)(u:HO):Prop:=H a=some u\/∃o,H a=some (.frz o u)
theorem Rd.of{H:Hp}{a:Addr}{u:HO}(h:H a=some u):Rd H a u:= .inl h
theorem Rd.ok{P:Program}{w:World}{H:Hp}{h:Heap}{a:Addr}{u:HO}(r:Rd H a u)(x:HOk P w H h):ObjOk P w H h a u:=by
 rcases r with r|⟨o,r⟩
 ·exact x a u r
 ·obtain⟨_,q⟩:=x a _ r
  exact q
noncomputable def Mut:Option HO->Prop
 |some (.lst _)=>True
 |some (.dK _)=>True
 |some (.dT _)=>True
 |some (.set _ _)=>True
 |some (.ins _ _ _)=>True
 |some (.ext _)=>True
 |_=>False
section
variable{P:Program}{w:World}{H:Hp}{h h':Heap}{x e:Addr}{o':HO}
theorem HOk.write(ok:HOk P w H h)(mu:Mut (H x))(he:e=x\/H e=some (.own x))(k:∀b u,b≠e->h.get? b=some u->h'.get? b=some u)(heo:∃u,h'.get? e=some u)(new:ObjOk P w (upd H x o') h' x o'):HOk P w (upd H x o') h':=fun b u q=>by
 have nown:∀c y,H c=some (.own y)->c≠x:=fun c y r z=>by subst z;rw[r]at mu;exact mu
 have ntup:∀c xs,H c=some (.tup xs)->c≠x:=fun c xs r z=>by subst z;rw[r]at mu;exact mu
 by_cases hb:b=x
 ·subst hb;rw[zac]at q;cases q;exact new
 ·rw[zbz hb]at q
  by_cases hbe:b=e
  ·have q':H b=some (.own x):=by
    rcases he with z|z
    ·exact absurd (hbe.trans z) hb
    ·rw[hbe];exact z
   rw[q]at q';cases q'
   obtain⟨v,hv⟩:=heo
   exact⟨v,by rw[hbe];exact hv⟩
  ·refine(ok b u q).stay (fun c v hc r=>k c v ?_ r) (fun c r=>by rw[zbz (nown c b r)];exact r) fun c xs r=>by rw[zbz (ntup c xs r)];exact r
   rcases hc with rfl|hc
   ·exact hbe
   ·rintro rfl
    rcases he with z|z
    ·exact nown c b hc z
    ·rw[hc]at z;cases z;exact hb rfl
end
structure Un(fs ex:List Addr)(H H':Hp)(h h':Heap):Prop where
 keep:∀b o,h.get? b=some o->H b=none->b∉fs->b∉ex->h'.get? b=some o
 slot:∀b o,h.get? b=some o->H b=none->b∈fs->b∉ex->∃sl,h'.get? b=some {o with slots:=sl}
 free:∀b o,h.get? b=some o->H b=none->b∉ex->H' b=none
 there:∀b o,h.get? b=some o->b∉ex->∃o',h'.get? b=some o'
 tups:∀b xs,H b=some (.tup xs)->H' b=some (.tup xs)
 frzs:∀b o u,H b=some (.frz o u)->H' b=some (.frz o u)
 tbls:∀b ps,H b=some (.tbl ps)->∃more,H' b=some (.tbl (ps++more))
section
variable{fs fs' ex ex':List Addr}{H H1 H2:Hp}{h h1 h2 h':Heap}{a x e:Addr}{o:HO}
theorem Un.any(u:Un fs ex H H1 h h1){b:Addr}{ob:Obj}(q:h.get? b=some ob)(n:H b=none)(hx:b∉ex):∃sl,h1.get? b=some {ob with slots:=sl}:=by
 by_cases hb:b∈fs
 ·exact u.slot b ob q n hb hx
 ·exact⟨ob.slots,u.keep b ob q n hb hx⟩
theorem Un.trans(a:Un fs ex H H1 h h1)(b:Un fs ex H1 H2 h1 h2):Un fs ex H H2 h h2 where
 keep:=fun c ob q n hc hx=>b.keep c ob (a.keep c ob q n hc hx) (a.free c ob q n hx) hc hx
 slot:=fun c ob q n hc hx=>by
  obtain⟨sl,e1⟩:=a.slot c ob q n hc hx
  obtain⟨sl',e2⟩:=b.slot c _ e1 (a.free c ob q n hx) hc hx
  exact⟨sl',e2⟩
 free:=fun c ob q n hx=>by
  obtain⟨o',e1⟩:=a.there c ob q hx
  exact b.free c o' e1 (a.free c ob q n hx) hx
 there:=fun c ob q hx=>by
  obtain⟨o',e1⟩:=a.there c ob q hx
  exact b.there c o' e1 hx
 tups:=fun c xs q=>b.tups c xs (a.tups c xs q)
 frzs:=fun c ob xs q=>b.frzs c ob xs (a.frzs c ob xs q)
 tbls:=fun c ps q=>by
  obtain⟨m1,e1⟩:=a.tbls c ps q
  obtain⟨m2,e2⟩:=b.tbls c _ e1
  exact⟨m1++m2,by rw[e2,Array.append_assoc]⟩
theorem Un.kept(k:∀b u,h.get? b=some u->h'.get? b=some u):Un fs ex H H h h':=
 ⟨fun b ob q _ _ _=>k b ob q,fun b ob q _ _ _=>⟨ob.slots,k b ob q⟩,fun _ _ _ n _=>n,fun b ob q _=>⟨ob,k b ob q⟩,fun _ _ q=>q,fun _ _ _ q=>q,fun _ ps q=>⟨#[],by rw[q];simp⟩⟩
theorem Un.refl:Un fs ex H H h h:=Un.kept fun _ _ q=>q
theorem Un.laid(k:∀b u,h.get? b=some u->h'.get? b=some u)(hp:h.objs.size<=a)(hn:H a=none):Un fs ex H (upd H a o) h h' where
 keep:=fun b u q _ _ _=>k b u q
 slot:=fun b u q _ _ _=>⟨u.slots,k b u q⟩
 free:=fun b u q n _=>by rw[zbz (Nat.ne_of_lt (Nat.lt_of_lt_of_le (Heap.lt_size q) hp))];exact n
 there:=fun b u q _=>⟨u,k b u q⟩
 tups:=fun b xs q=>by rw[zbz (zbs q hn)];exact q
 frzs:=fun b u xs q=>by rw[zbz (zbs q hn)];exact q
 tbls:=fun b ps q=>⟨#[],by rw[zbz (zbs q hn),q];simp⟩
theorem Un.write(mu:Mut (H x))(he:e=x\/H e=some (.own x))(k:∀b u,b≠e->h.get? b=some u->h'.get? b=some u)(heo:∃u,h'.get? e=some u):Un fs ex H (upd H x o) h h':=by
 have hx:∀b,H b=none->b≠x:=fun b n z=>by subst z;rw[n]at mu;exact mu
 have hb:∀b,H b=none->b≠e:=fun b n z=>by
  subst z
  rcases he with r|r
  ·exact hx b n r
  ·rw[n]at r;cases r
 have hm:∀b u,H b=some u->¬Mut (some u)->b≠x:=fun b u q nm z=>by subst z;rw[q]at mu;exact nm mu
 refine⟨fun b u q n _ _=>k b u (hb b n) q,fun b u q n _ _=>⟨u.slots,k b u (hb b n) q⟩,fun b u q n _=>by rw[zbz (hx b n)];exact n,fun b u q _=> ?_,
  fun b xs q=>by rw[zbz (hm b _ q fun z=>z)];exact q,fun b u xs q=>by rw[zbz (hm b _ q fun z=>z)];exact q,fun b ps q=>⟨#[],by rw[zbz (hm b _ q fun z=>z),q];simp⟩⟩
 by_cases hbe:b=e
 ·subst hbe;exact heo
 ·exact⟨u,k b u hbe q⟩
theorem Un.mono(u:Un fs ex H H1 h h1)(hs:∀b∈fs,b∈fs')(hx:∀b∈ex,b∈ex'):Un fs' ex' H H1 h h1:=
 ⟨fun b ob q n hb he=>u.keep b ob q n (fun z=>hb (hs b z)) fun z=>he (hx b z),fun _ _ q n _ he=>u.any q n fun z=>he (hx _ z),fun b ob q n he=>u.free b ob q n fun z=>he (hx b z),fun b ob q he=>u.there b ob q fun z=>he (hx b z),u.tups,u.frzs,u.tbls⟩
end
noncomputable def trk(h:Heap)(H:Hp):List Addr:=(List.range h.objs.size).filter fun a=>(H a).isSome
noncomputable def hidT(h:Heap)(H:Hp):Heap:=PySem.W.hideAll h (trk h H)
theorem hidT_size(h:Heap)(H:Hp):(hidT h H).objs.size=h.objs.size:=PySem.W.hideAll_size _ _
theorem hidT_get{h:Heap}{H:Hp}{b:Addr}{o:Obj}(e:h.get? b=some o)(n:H b=none):(hidT h H).get? b=some o:=
 PySem.W.hideAll_get _ e fun hm=>by
  have q:(H b).isSome=true:=(List.mem_filter.mp hm).2
  rw[n]at q;simp at q
theorem of_hidT{h:Heap}{H:Hp}{b:Addr}{o:Obj}(e:(hidT h H).get? b=some o):h.get? b=some o/\H b=none:=by
 have e':h.get? b=some o:=PySem.W.of_hideAll (trk h H) e
 refine⟨e',?_⟩
 cases q:H b with
 |none=>rfl
 |some x=>
  have hm:b∈trk h H:=List.mem_filter.mpr ⟨List.mem_range.mpr (Heap.lt_size e'),by simp[q]⟩
  have z:(hidT h H).get? b=none:=PySem.W.hideAll_none (trk h H) hm
  rw[z]at e;cases e
noncomputable def allNews(g h:Heap)(L:Addr):List (Addr×Obj):=(List.range h.objs.size).filterMap fun a=>if a=L\/(g.get? a).isSome=true then none else(h.get? a).map fun o=>(a,o)
noncomputable def rest(g h:Heap)(L d:Addr):List (Addr×Obj):=(allNews g h L).filter fun p=>decide (p.1≠d)
end L2
namespace L2
open PySem PySem.Spec PyProof.Rows
structure Mod(K:W.Frag)(mg:Str->Option Value)(base:Heap):Prop where
 kin:K.In base
 glob:base.Ns mainGlobals mg
 blt:∃mb,base.Ns builtinsNs mb/\∀x:Str,x≠"__name__"->mb x=bootBuiltins x
 nolimit:base.NoLimit
structure Cx where
 prog:Program
 w:World
 K:W.Frag
 mg:Str->Option Value
 base:Heap
 A:Around
 N:List Str
 s₀:Shared
 H₀:Hp
 env:Env
 outer:List Env
 stack:List Env
 ex:List Addr
 fn:Str->Bool
 calm:Bool
 pn:List (Addr×Obj)
 xe:Value->Shared->Prop
noncomputable def frs(l:List Env):List Addr:=l.filterMap (·.frame)
noncomputable abbrev Cx.fs(X:Cx):List Addr:=frs X.outer
noncomputable def Vis(sc:Scope)(x:Str):Prop:=sc.names.lookup x=some .local\/sc.names.lookup x=some .cell\/sc.names.lookup x=some .free
noncomputable def Loc(sc:Scope)(x:Str):Prop:=sc.names.lookup x=some .local\/sc.names.lookup x=some .cell
noncomputable def Look(env:Env)(h:Heap)(m:Str->Option Value)(x:Str)(u:Value):Prop:=
 (env.kindOf x=some .local/\m x=some u)\/((env.kindOf x=some .cell\/env.kindOf x=some .free)/\∃c,env.cells.lookup x=some c/\h.IsCell c (some u))
structure Cx.Ok(X:Cx):Prop where
 mod:Mod X.K X.mg X.base
 kind:X.env.scope.kind= .function
 glob:X.env.globals=mainGlobals
 blt:X.env.builtins=builtinsNs
 above:X.s₀.heap.objs.size<=X.env.locals
 inj:∀x y c,X.env.cells.lookup x=some c->X.env.cells.lookup y=some c->x=y
 has:∀x,(X.env.kindOf x=some .cell\/X.env.kindOf x=some .free)->∃c,X.env.cells.lookup x=some c
 cab:∀x c,X.fn x=true->X.env.cells.lookup x=some c->X.s₀.heap.objs.size<=c
 hd:X.calm=true->X.A.handled=none
 frames:X.A.frames=some X.stack
 stk:X.stack=X.outer\/(X.stack=X.env::X.outer/\X.env.frame=some X.env.locals)
 exf:∀b∈X.ex,b≠X.env.locals/\∀x c,X.env.cells.lookup x=some c->c≠b
 bs:∀b o,X.base.get? b=some o->X.s₀.heap.get? b=some o/\X.H₀ b=none
 bsz:X.base.objs.size<=X.s₀.heap.objs.size
 noex:∀b o,X.base.get? b=some o->b∉X.ex
 exfs:∀b∈X.ex,b∉X.fs
 funs:X.s₀.heap.FunFrames X.base X.outer
 frf:∀b∈X.fs,X.H₀ b=none
structure Inv(X:Cx)(pins:List (Addr×Obj))(σ:List (Option V))(H:Hp)(s:Shared):Prop where
 ok:X.Ok
 os:s.os=X.s₀.os
 bare:AllBare s.gens
 base:Un X.fs X.ex X.H₀ H X.s₀.heap s.heap
 loc:∃m,s.heap.Ns X.env.locals m/\∀(i:Nat) (x:Str) (v:V),X.N[i]? =some x->σ[i]? =some (some v)->Vis X.env.scope x->∃u,RelV v u/\Look X.env s.heap m x u
 cell:∀x c,X.env.cells.lookup x=some c->∃v,s.heap.IsCell c v
 free:H X.env.locals=none
 freeC:∀x c,X.env.cells.lookup x=some c->H c=none
 pin:∀p∈X.pn++pins,s.heap.get? p.1=some p.2/\H p.1=none/\p.1≠X.env.locals/\p.1∉X.fs/\∀v,p.2.data≠.cell v
 hok:HOk X.prog X.w H s.heap
 len:σ.length=X.N.length
section
variable{X:Cx}{pins:List (Addr×Obj)}{σ:List (Option V)}{H H':Hp}{s:Shared}{h':Heap}
theorem Cx.Ok.nofr(ok:X.Ok){b:Addr}{o:Obj}(e:X.base.get? b=some o):b∉X.fs:=fun hb=>by
 have:=(ok.funs.mem hb).1
 rw[e]at this;cases this
theorem Inv.bs(I:Inv X pins σ H s):∀b o,X.base.get? b=some o->s.heap.get? b=some o/\H b=none:=fun b o e=>
 ⟨I.base.keep b o (I.ok.bs b o e).1 (I.ok.bs b o e).2 (I.ok.nofr e) (I.ok.noex b o e),I.base.free b o (I.ok.bs b o e).1 (I.ok.bs b o e).2 (I.ok.noex b o e)⟩
theorem Inv.bk(I:Inv X pins σ H s):∀b o,X.base.get? b=some o->s.heap.get? b=some o:=fun b o e=>(I.bs b o e).1
theorem Inv.mod(I:Inv X pins σ H s):Mod X.K X.mg X.base:=I.ok.mod
theorem Inv.kIn(I:Inv X pins σ H s):X.K.In s.heap:=I.ok.mod.kin.keeps I.bk
theorem Inv.nolimit(I:Inv X pins σ H s):s.heap.NoLimit:=I.ok.mod.nolimit.keeps I.bk
theorem Inv.lt(I:Inv X pins σ H s):X.env.locals<s.heap.objs.size:=let⟨_,hn,_⟩:=I.loc;hn.lt
theorem Inv.sz(I:Inv X pins σ H s):X.s₀.heap.objs.size<=s.heap.objs.size:=Nat.le_trans I.ok.above (Nat.le_of_lt I.lt)
theorem Inv.nofs(I:Inv X pins σ H s){a:Addr}(h:s.heap.objs.size<=a):a∉X.fs:=fun hb=>by
 obtain⟨_,o,ho,_⟩:=I.ok.funs.mem hb
 exact absurd (Nat.lt_of_lt_of_le (Heap.lt_size ho) (Nat.le_trans I.sz h)) (Nat.lt_irrefl _)
theorem Inv.cne(I:Inv X pins σ H s):∀x c,X.env.cells.lookup x=some c->c≠X.env.locals:=fun x c e z=>by
 obtain⟨v,o,ho,hd⟩:=I.cell x c e
 obtain⟨m,⟨o',es,ep,ho',hd',_⟩,_⟩:=I.loc
 rw[z,ho']at ho;cases ho;rw[hd']at hd;cases hd
theorem Inv.funs(I:Inv X pins σ H s):s.heap.FunFrames X.base X.outer:=by
 have all:∀(l:List Env),(∀b∈frs l,b∈X.fs)->X.s₀.heap.FunFrames X.base l->s.heap.FunFrames X.base l:=by
  intro l
  induction l with
  |nil=>intro _ _;trivial
  |cons env r ih=>
   intro hs hl
   obtain⟨hk,⟨L,o,hf,hn,ho,hd⟩,hr⟩:=hl
   have hL:L∈X.fs:=hs L (by unfold frs;rw[List.filterMap_cons,hf];exact List.mem_cons_self)
   obtain⟨sl,e⟩:=I.base.slot L o ho (I.ok.frf L hL) hL fun z=>I.ok.exfs L z hL
   exact⟨hk,⟨L,_,hf,hn,e,hd⟩,ih (fun b hb=>hs b (by unfold frs;rw[List.filterMap_cons,hf];exact List.mem_cons_of_mem _ hb)) hr⟩
 exact all X.outer (fun _ hb=>hb) I.ok.funs
theorem Inv.stack(I:Inv X pins σ H s):s.heap.FunFrames X.base X.stack:=by
 rcases I.ok.stk with e|⟨e,hf⟩
 ·rw[e];exact I.funs
 ·rw[e]
  obtain⟨m,hn,_⟩:=I.loc
  refine .cons (by rw[I.ok.kind];decide) hf hn ?_ I.funs
  exact Heap.get?_none_of_le (Nat.le_trans I.ok.bsz I.ok.above)
theorem Inv.stkSub(I:Inv X pins σ H s):∀b∈frs X.stack,b∈X.env.locals::X.fs:=fun b hb=>by
 rcases I.ok.stk with e|⟨e,hf⟩
 ·rw[e]at hb;exact List.mem_cons_of_mem _ hb
 ·rw[e]at hb
  unfold frs at hb
  rw[List.filterMap_cons,hf]at hb
  exact hb
theorem Inv.stkFree(I:Inv X pins σ H s):∀b∈frs X.stack,H b=none:=fun b hb=>by
 rcases List.mem_cons.mp (I.stkSub b hb)with e|hb
 ·rw[e];exact I.free
 ·obtain⟨_,o,ho,_⟩:=I.ok.funs.mem hb
  exact I.base.free b o ho (I.ok.frf b hb) fun z=>I.ok.exfs b z hb
theorem Inv.step{g':Array GenState}{t':Nat}{d':Drawn}{ch:List Addr}(I:Inv X pins σ H s)(hch:∀b∈ch,(b∈X.ex\/X.s₀.heap.objs.size<=b)/\b≠X.env.locals/\(∀x c,X.env.cells.lookup x=some c->c≠b)/\∀p∈X.pn++pins,p.1≠b)(keep:∀b o,b≠X.env.locals->b∉X.fs->b∉ch->s.heap.get? b=some o->H b=none->h'.get? b=some o)(slot:∀b o,b≠X.env.locals->b∈X.fs->b∉ch->s.heap.get? b=some o->H b=none->∃sl,h'.get? b=some {o with slots:=sl})(free:∀b o,b∉ch->s.heap.get? b=some o->H b=none->H' b=none)(there:∀b o,b∉ch->s.heap.get? b=some o->∃o',h'.get? b=some o')(tups:∀b xs,H b=some (.tup xs)->H' b=some (.tup xs))(frzs:∀b o u,H b=some (.frz o u)->H' b=some (.frz o u))(tbls:∀b ps,H b=some (.tbl ps)->∃more,H' b=some (.tbl (ps++more)))(ns:∀m,s.heap.Ns X.env.locals m->h'.Ns X.env.locals m)(hok:HOk X.prog X.w H' h')(hg:AllBare g'):
  Inv X pins σ H' {s with heap:=h',gens:=g',drawn:=d',toks:=t'}:=by
 have neL:∀b o,X.s₀.heap.get? b=some o->b≠X.env.locals:=fun b o e=>Nat.ne_of_lt (Nat.lt_of_lt_of_le (Heap.lt_size e) I.ok.above)
 have neC:∀b o,X.s₀.heap.get? b=some o->b∉X.ex->b∉ch:=fun b o e hx hb=>by
  rcases(hch b hb).1 with z|z
  ·exact hx z
  ·exact absurd (Nat.lt_of_lt_of_le (Heap.lt_size e) z) (Nat.lt_irrefl _)
 have cellK:∀x c,X.env.cells.lookup x=some c->∀v,s.heap.IsCell c v->h'.IsCell c v:=fun x c e v ⟨o,ho,hd⟩=>by
  have nch:c∉ch:=fun z=>(hch c z).2.2.1 x c e rfl
  by_cases hc:c∈X.fs
  ·obtain⟨sl,q⟩:=slot c o (I.cne x c e) hc nch ho (I.freeC x c e)
   exact⟨_,q,hd⟩
  ·exact⟨o,keep c o (I.cne x c e) hc nch ho (I.freeC x c e),hd⟩
 refine⟨I.ok,I.os,hg,⟨fun b o e n hb hx=> ?_,fun b o e n hb hx=> ?_,fun b o e n hx=> ?_,fun b o e hx=> ?_,fun b xs e=>tups b xs (I.base.tups b xs e),fun b o xs e=>frzs b o xs (I.base.frzs b o xs e),fun b ps e=> ?_⟩,?_,fun x c e=> ?_,?_,fun x c e=> ?_,fun p hp=> ?_,hok,I.len⟩
 ·exact keep b o (neL b o e) hb (neC b o e hx) (I.base.keep b o e n hb hx) (I.base.free b o e n hx)
 ·obtain⟨sl,e1⟩:=I.base.slot b o e n hb hx
  obtain⟨sl',e2⟩:=slot b _ (neL b o e) hb (neC b o e hx) e1 (I.base.free b o e n hx)
  exact⟨sl',e2⟩
 ·obtain⟨o',e1⟩:=I.base.there b o e hx
  exact free b o' (neC b o e hx) e1 (I.base.free b o e n hx)
 ·obtain⟨o',e1⟩:=I.base.there b o e hx
  exact there b o' (neC b o e hx) e1
 ·obtain⟨m1,e1⟩:=I.base.tbls b ps e
  obtain⟨m2,e2⟩:=tbls b _ e1
  exact⟨m1++m2,by rw[e2,Array.append_assoc]⟩
 ·obtain⟨m,hn,hl⟩:=I.loc
  refine⟨m,ns m hn,fun i x v e1 e2 e3=> ?_⟩
  obtain⟨u,r,l⟩:=hl i x v e1 e2 e3
  refine⟨u,r,?_⟩
  rcases l with l|⟨k,c,e,z⟩
  ·exact .inl l
  ·exact .inr ⟨k,c,e,cellK x c e _ z⟩
 ·obtain⟨v,z⟩:=I.cell x c e
  exact⟨v,cellK x c e v z⟩
 ·obtain⟨m,⟨o,_,_,ho,_⟩,_⟩:=I.loc
  exact free _ o (fun z=>(hch _ z).2.1 rfl) ho I.free
 ·obtain⟨v,o,ho,hd⟩:=I.cell x c e
  exact free c o (fun z=>(hch c z).2.2.1 x c e rfl) ho (I.freeC x c e)
 ·obtain⟨e,n,ne,nf,d⟩:=I.pin p hp
  have nch:p.1∉ch:=fun z=>(hch p.1 z).2.2.2 p hp rfl
  exact⟨keep p.1 p.2 ne nf nch e n,free p.1 p.2 nch e n,ne,nf,d⟩
theorem Inv.un{t':Nat}(I:Inv X pins σ H s)(u:Un X.fs [] H H' s.heap h')(hok:HOk X.prog X.w H' h'):Inv X pins σ H' {s with heap:=h',toks:=t'}:=by
 obtain⟨m,⟨o,es,ep,ho,r⟩,_⟩:=id I.loc
 obtain⟨sl,hL⟩:=u.any ho I.free (by simp)
 exact I.step (g':=s.gens) (d':=s.drawn) (ch:=[]) (fun _ z=>nomatch z) (fun b o _ hb _ e n=>u.keep b o e n hb (by simp)) (fun b o _ hb _ e n=>u.slot b o e n hb (by simp)) (fun b o _ e n=>u.free b o e n (by simp)) (fun b o _ e=>u.there b o e (by simp)) u.tups u.frzs u.tbls (fun m' hm=>by
  obtain⟨o',es',ep',ho',r'⟩:=hm
  rw[ho]at ho';cases ho'
  exact⟨_,es',ep',hL,r'⟩) hok I.bare
theorem Inv.call{g':Array GenState}{t':Nat}{d':Drawn}{ch:List Addr}(I:Inv X pins σ H s)(u:Un (frs X.stack) ch H H' s.heap h')(hok:HOk X.prog X.w H' h')(hg:AllBare g')(hch:∀b∈ch,(b∈X.ex\/X.s₀.heap.objs.size<=b)/\b≠X.env.locals/\(∀x c,X.env.cells.lookup x=some c->c≠b)/\∀p∈X.pn++pins,p.1≠b):
  Inv X pins σ H' {s with heap:=h',gens:=g',drawn:=d',toks:=t'}:=by
 obtain⟨m,⟨o,es,ep,ho,r⟩,_⟩:=id I.loc
 obtain⟨sl,hL⟩:=u.any ho I.free fun z=>(hch _ z).2.1 rfl
 exact I.step (ch:=ch) hch (fun b o hL hb hc e n=>u.keep b o e n (fun z=>(List.mem_cons.mp (I.stkSub b z)).elim hL hb) hc) (fun b o _ _ hc e n=>u.any e n hc) (fun b o hc e n=>u.free b o e n hc) (fun b o hc e=>u.there b o e hc) u.tups u.frzs u.tbls (fun m' hm=>by
  obtain⟨o',es',ep',ho',r'⟩:=hm
  rw[ho]at ho';cases ho'
  exact⟨_,es',ep',hL,r'⟩) hok hg
theorem Inv.turned{t':Nat}{it:Addr}(I:Inv X pins σ H s)(k:∀b o,b≠it->s.heap.get? b=some o->h'.get? b=some o)(hn:H it=none)(hL:it≠X.env.locals)(h1:it∈X.ex\/X.s₀.heap.objs.size<=it)(h2:∀x c,X.env.cells.lookup x=some c->c≠it)(h3:∀p∈X.pn++pins,p.1≠it):Inv X pins σ H {s with heap:=h',toks:=t'}:=by
 have nit:∀b u,H b=some u->b≠it:=fun b u e z=>by rw[z,hn]at e;cases e
 refine I.step (g':=s.gens) (d':=s.drawn) (ch:=[it]) (fun b hb=> ?_) (fun b o _ _ hc e _=>k b o (fun z=>hc (by simp[z])) e) (fun b o _ _ hc e _=>⟨o.slots,k b o (fun z=>hc (by simp[z])) e⟩) (fun _ _ _ _ n=>n)
  (fun b o hc e=>⟨o,k b o (fun z=>hc (by simp[z])) e⟩) (fun _ _ e=>e) (fun _ _ _ e=>e) (fun b ps e=>⟨#[],by rw[e];simp⟩) (fun m hm=> ?_) (fun b u e=> ?_) I.bare
 ·have e:b=it:=by simpa using hb
  subst e
  exact⟨h1,hL,h2,h3⟩
 ·obtain⟨o,es,ep,ho,r⟩:=hm
  exact⟨o,es,ep,k _ o (Ne.symm hL) ho,r⟩
 ·refine(I.hok b u e).stay (fun c v hc q=>k c v ?_ q) (fun _ q=>q) fun _ _ q=>q
  rcases hc with z|z
  ·rw[z];exact nit b u e
  ·exact nit c _ z
theorem Inv.tok(I:Inv X pins σ H s)(t:Nat):Inv X pins σ H {s with toks:=t}:=I.un (h':=s.heap) (t':=t) Un.refl I.hok
theorem Inv.kept{t':Nat}(I:Inv X pins σ H s)(k:∀b u,s.heap.get? b=some u->h'.get? b=some u):Inv X pins σ H {s with heap:=h',toks:=t'}:=I.un (Un.kept k) (I.hok.kept k)
theorem Inv.laid{a:Addr}{o:HO}{t':Nat}(I:Inv X pins σ H s)(k:∀b u,s.heap.get? b=some u->h'.get? b=some u)(hp:s.heap.objs.size<=a)(new:ObjOk X.prog X.w (upd H a o) h' a o):
  Inv X pins σ (upd H a o) {s with heap:=h',toks:=t'}:=I.un (Un.laid k hp (I.hok.fresh hp)) (I.hok.laid k hp new)
theorem Inv.write{x e:Addr}{o:HO}{t':Nat}(I:Inv X pins σ H s)(mu:Mut (H x))(he:e=x\/H e=some (.own x))(k:∀b u,b≠e->s.heap.get? b=some u->h'.get? b=some u)(heo:∃u,h'.get? e=some u)(new:ObjOk X.prog X.w (upd H x o) h' x o):Inv X pins σ (upd H x o) {s with heap:=h',toks:=t'}:=I.un (Un.write mu he k heo) (I.hok.write mu he k heo new)
theorem Inv.pins_of{pins':List (Addr×Obj)}(I:Inv X pins σ H s)(h:∀p∈pins',s.heap.get? p.1=some p.2/\H p.1=none/\p.1≠X.env.locals/\p.1∉X.fs/\∀v,p.2.data≠.cell v):Inv X pins' σ H s:=
 ⟨I.ok,I.os,I.bare,I.base,I.loc,I.cell,I.free,I.freeC,fun p hp=>(List.mem_append.mp hp).elim (fun z=>I.pin p (List.mem_append_left _ z)) (h p),I.hok,I.len⟩
theorem nodup_ix{N:List Str}(hN:N.Nodup){i j:Nat}{x:Str}(a:N[i]? =some x)(b:N[j]? =some x):i=j:=by
 obtain⟨h1,e1⟩:=List.getElem?_eq_some_iff.mp a
 obtain⟨h2,e2⟩:=List.getElem?_eq_some_iff.mp b
 exact(List.getElem_inj hN).mp (e1.trans e2.symm)
theorem store_ok2{M:Model}{A:Around}{E:Value->Shared->Prop}{i:Nat}{x:Str}{v:V}{u:Value}{Q:Unit->Shared->Prop}(I:Inv X pins σ H s)(hN:X.N.Nodup)(hi:X.N[i]? =some x)(hx:Loc X.env.scope x)(r:RelV v u)(h:∀s',Inv X pins (σ.set i (some v)) H s'->(∃a,Heap.SameBut a s.heap s'.heap/\(a=X.env.locals\/X.env.cells.lookup x=some a))->Q () s')(hf:X.fn x=true\/X.env.scope.names.lookup x=some .local:=by first |exact .inl rfl|exact .inr rfl|assumption):wpAny M A (storeName X.env x u) Q E s:=by
 obtain⟨m,hn,hl⟩:=id I.loc
 have hcls:(X.env.scope.kind== .class||(X.env.scope.kind== .module&&X.env.locals !=X.env.globals))=false:=by rw[I.ok.kind];rfl
 have hiσ:i<σ.length:=by rw[I.len];exact(List.getElem?_eq_some_iff.mp hi).1
 have cne:=I.cne
 have tracked:∀{a:Addr} {h':Heap},(∃o,s.heap.get? a=some o/\H a=none)->Heap.SameBut a s.heap h'->HOk X.prog X.w H h':=fun{a h'} ha hs b ob e=>by
  obtain⟨_,_,hfree⟩:=ha
  refine(I.hok b ob e).stay (fun c w' hc q=>(hs.2 c ?_).trans q) (fun _ q=>q) fun _ _ q=>q
  rintro rfl
  rcases hc with rfl|hc
  ·rw[hfree]at e;cases e
  ·rw[hfree]at hc;cases hc
 rcases hx with hk|hk
 ·refine wpAny_storeName_local hk hn (fun h' hn' hs=> ?_) hcls
  obtain⟨oL,_,_,hoL,_⟩:=id hn
  refine h _ ⟨I.ok,I.os,I.bare,⟨fun b o e n hb hx=> ?_,fun b o e n hb hx=> ?_,I.base.free,fun b o e hx=> ?_,I.base.tups,I.base.frzs,I.base.tbls⟩,⟨_,hn',fun j y v' e1 e2 e3=> ?_⟩,fun y c e=> ?_,I.free,I.freeC,fun p hp=> ?_,tracked ⟨oL,hoL,I.free⟩ hs,by simpa using I.len⟩ ⟨_,hs,.inl rfl⟩
  ·exact(hs.2 b (Nat.ne_of_lt (Nat.lt_of_lt_of_le (Heap.lt_size e) I.ok.above))).trans (I.base.keep b o e n hb hx)
  ·obtain⟨sl,e1⟩:=I.base.slot b o e n hb hx
   exact⟨sl,(hs.2 b (Nat.ne_of_lt (Nat.lt_of_lt_of_le (Heap.lt_size e) I.ok.above))).trans e1⟩
  ·obtain⟨o',e1⟩:=I.base.there b o e hx
   exact⟨o',(hs.2 b (Nat.ne_of_lt (Nat.lt_of_lt_of_le (Heap.lt_size e) I.ok.above))).trans e1⟩
  ·by_cases hj:j=i
   ·subst hj
    rw[hi]at e1;cases e1
    rw[List.getElem?_set_self hiσ]at e2
    cases e2
    exact⟨u,r,.inl ⟨hk,by simp⟩⟩
   ·rw[List.getElem?_set_ne (Ne.symm hj)]at e2
    obtain⟨u',r',q⟩:=hl j y v' e1 e2 e3
    refine⟨u',r',?_⟩
    rcases q with⟨k,e⟩|⟨k,c,e,z⟩
    ·refine .inl ⟨k,?_⟩
     have:y≠x:=fun e=>hj (nodup_ix hN e1 (e▸hi))
     simp[this,e]
    ·exact .inr ⟨k,c,e,z.sameBut hs (cne y c e)⟩
  ·obtain⟨w',z⟩:=I.cell y c e
   exact⟨w',z.sameBut hs (cne y c e)⟩
  ·obtain⟨e,n,ne,nf,d⟩:=I.pin p hp
   exact⟨(hs.2 p.1 ne).trans e,n,ne,nf,d⟩
 ·have hfn:X.fn x=true:=by
   rcases hf with z|z
   ·exact z
   ·rw[z]at hk;cases hk
  obtain⟨c,hc⟩:=I.ok.has x (.inl hk)
  obtain⟨w',z⟩:=I.cell x c hc
  refine wpAny_storeName_cell I.ok.kind hk hc z (fun h' hc' hs=> ?_)
  obtain⟨oc,hoc,hocd⟩:=id z
  refine h {s with heap:=h'} ⟨I.ok,I.os,I.bare,⟨fun b o e n hb hx=> ?_,fun b o e n hb hx=> ?_,I.base.free,fun b o e hx=> ?_,I.base.tups,I.base.frzs,I.base.tbls⟩,⟨m,hn.sameBut hs (Ne.symm (cne x c hc)),fun j y v' e1 e2 e3=> ?_⟩,fun y c' e=> ?_,I.free,I.freeC,fun p hp=> ?_,tracked ⟨oc,hoc,I.freeC x c hc⟩ hs,by simpa using I.len⟩ ⟨c,hs,.inr hc⟩
  ·exact(hs.2 b (Nat.ne_of_lt (Nat.lt_of_lt_of_le (Heap.lt_size e) (I.ok.cab x c hfn hc)))).trans (I.base.keep b o e n hb hx)
  ·obtain⟨sl,e1⟩:=I.base.slot b o e n hb hx
   exact⟨sl,(hs.2 b (Nat.ne_of_lt (Nat.lt_of_lt_of_le (Heap.lt_size e) (I.ok.cab x c hfn hc)))).trans e1⟩
  ·obtain⟨o',e1⟩:=I.base.there b o e hx
   exact⟨o',(hs.2 b (Nat.ne_of_lt (Nat.lt_of_lt_of_le (Heap.lt_size e) (I.ok.cab x c hfn hc)))).trans e1⟩
  ·by_cases hj:j=i
   ·subst hj
    rw[hi]at e1;cases e1
    rw[List.getElem?_set_self hiσ]at e2
    cases e2
    exact⟨u,r,.inr ⟨.inl hk,c,hc,hc'⟩⟩
   ·rw[List.getElem?_set_ne (Ne.symm hj)]at e2
    obtain⟨u',r',q⟩:=hl j y v' e1 e2 e3
    refine⟨u',r',?_⟩
    rcases q with q|⟨k,c',e,z'⟩
    ·exact .inl q
    ·refine .inr ⟨k,c',e,z'.sameBut hs ?_⟩
     rintro rfl
     exact hj (nodup_ix hN e1 (I.ok.inj _ _ _ e hc▸hi))
  ·by_cases hcc:c'=c
   ·subst hcc;exact⟨_,hc'⟩
   ·obtain⟨w2,z2⟩:=I.cell y c' e
    exact⟨w2,z2.sameBut hs hcc⟩
  ·obtain⟨e,n,ne,nf,d⟩:=I.pin p hp
   refine⟨(hs.2 p.1 ?_).trans e,n,ne,nf,d⟩
   intro q
   rw[q,hoc]at e
   have q':oc=p.2:=Option.some.inj e
   exact d w' (by rw[<-q'];exact hocd)
theorem store_ok{M:Model}{A:Around}{E:Value->Shared->Prop}{i:Nat}{x:Str}{v:V}{u:Value}{Q:Unit->Shared->Prop}(I:Inv X pins σ H s)(hN:X.N.Nodup)(hi:X.N[i]? =some x)(hx:Loc X.env.scope x)(r:RelV v u)(h:∀s',Inv X pins (σ.set i (some v)) H s'->Q () s')(hf:X.fn x=true\/X.env.scope.names.lookup x=some .local:=by first |exact .inl rfl|exact .inr rfl|assumption):wpAny M A (storeName X.env x u) Q E s:=
 store_ok2 I hN hi hx r (fun s' I' _=>h s' I') hf
theorem Inv.call'{s':Shared}{ch:List Addr}(I:Inv X pins σ H s)(ho:s'.os=s.os)(u:Un (frs X.stack) ch H H' s.heap s'.heap)(hok:HOk X.prog X.w H' s'.heap)(hg:AllBare s'.gens)(hch:∀b∈ch,(b∈X.ex\/X.s₀.heap.objs.size<=b)/\b≠X.env.locals/\(∀x c,X.env.cells.lookup x=some c->c≠b)/\∀p∈X.pn++pins,p.1≠b):Inv X pins σ H' s':=by
 obtain⟨h',g',d',t',o'⟩:=s'
 have e:o'=s.os:=ho
 subst e
 exact I.call (g':=g') (t':=t') (d':=d') u hok hg hch
end
noncomputable abbrev XK:=Value->Option Addr->Hp->Prop
noncomputable abbrev St:=List (Option V)
noncomputable abbrev VK:=V->Hp->Prop
noncomputable abbrev TE:=St->Hp->VK->Prop
noncomputable abbrev TT:=St->Hp->(Bool->Hp->Prop)->Prop
noncomputable abbrev TA:=St->Hp->(List V->Hp->Prop)->Prop
structure Ends where
 nx:St->Hp->Prop
 rt:VK
 bk:St->Hp->Prop:=fun _ _=>False
 ct:St->Hp->Prop:=fun _ _=>False
noncomputable abbrev TS:=Ends->St->Hp->Prop
noncomputable def EP(X:Cx)(pins:List (Addr×Obj))(σ:St)(Q:VK)(u:Value)(s':Shared):Prop:=∃v H',Inv X pins σ H' s'/\RelV v u/\Q v H'
noncomputable def TP(X:Cx)(pins:List (Addr×Obj))(σ:St)(Q:Bool->Hp->Prop)(b:Bool)(s':Shared):Prop:=∃H',Inv X pins σ H' s'/\Q b H'
noncomputable def AP(X:Cx)(pins:List (Addr×Obj))(σ:St)(Q:List V->Hp->Prop)(us:List Value)(s':Shared):Prop:=∃vs H',Inv X pins σ H' s'/\Vals vs us/\Q vs H'
noncomputable def SP(X:Cx)(pins:List (Addr×Obj))(D:Ends)(f:Flow)(s':Shared):Prop:=
 match f with
 | .next=>∃σ' H',Inv X pins σ' H' s'/\D.nx σ' H'
 | .brk=>∃σ' H',Inv X pins σ' H' s'/\D.bk σ' H'
 | .cont=>∃σ' H',Inv X pins σ' H' s'/\D.ct σ' H'
 | .ret u=>∃v σ' H',Inv X pins σ' H' s'/\RelV v u/\D.rt v H'
noncomputable def PE(X:Cx)(e:Expr)(t:TE):Prop:=
 ∀(pins:List (Addr×Obj)) (s:Shared) (σ:St) (H:Hp) (Q:VK),Inv X pins σ H s->t σ H Q->wpAny (model X.prog X.w) X.A (eval e X.env) (EP X pins σ Q) X.xe s
noncomputable def PT(X:Cx)(e:Expr)(t:TT):Prop:=
 ∀(pins:List (Addr×Obj)) (s:Shared) (σ:St) (H:Hp) (Q:Bool->Hp->Prop),Inv X pins σ H s->t σ H Q->wpAny (model X.prog X.w) X.A (isTrue e X.env (eval e X.env)) (TP X pins σ Q) X.xe s
noncomputable def PW(X:Cx)(e:Expr)(t:TT):Prop:=
 ∀(whole:Sem Value) (pins:List (Addr×Obj)) (s:Shared) (σ:St) (H:Hp) (Q:Bool->Hp->Prop),Inv X pins σ H s->t σ H Q->wpAny (model X.prog X.w) X.A (isTrue e X.env whole) (TP X pins σ Q) X.xe s
theorem PW.pt{X:Cx}{e:Expr}{t:TT}(h:PW X e t):PT X e t:=h _
noncomputable def PA(X:Cx)(es:List Expr)(t:TA):Prop:=
 ∀(pos:Pos) (pins:List (Addr×Obj)) (s:Shared) (σ:St) (H:Hp) (Q:List V->Hp->Prop),Inv X pins σ H s->t σ H Q->wpAny (model X.prog X.w) X.A (spliced (backTo pos (starEach es X.env))) (AP X pins σ Q) X.xe s
noncomputable def PS(X:Cx)(st:Stmt)(t:TS):Prop:=
 ∀(pins:List (Addr×Obj)) (s:Shared) (σ:St) (H:Hp) (D:Ends),Inv X pins σ H s->t D σ H->wpAny (model X.prog X.w) X.A (exec st X.env) (SP X pins D) X.xe s
noncomputable def PSs(X:Cx)(st:List Stmt)(t:TS):Prop:=
 ∀(pins:List (Addr×Obj)) (s:Shared) (σ:St) (H:Hp) (D:Ends),Inv X pins σ H s->t D σ H->wpAny (model X.prog X.w) X.A (execs st X.env) (SP X pins D) X.xe s
theorem thn{α:Type}{t:Sem α}{Q Q':α->Shared->Prop}{M:Model}{A:Around}{E:Value->Shared->Prop}{s:Shared}(h:wpAny M A t Q E s)(hQ:∀a s,Q a s->Q' a s):wpAny M A t Q' E s:=wpAny_mono h hQ fun _ _ x=>x
end L2
namespace L2
open PySem PySem.Spec PyProof.Rows
section
variable{X:Cx}
noncomputable def tVar(i:Nat):TE:=fun σ H Q=>∃v,σ[i]? =some (some v)/\Q v H
noncomputable def tC(v:V):TE:=fun _ H Q=>Q v H
theorem pe_var{i:Nat}{x:Str}{pos:Pos}(hN:X.N[i]? =some x)(hv:Vis X.env.scope x)(hd:(x==("__debug__":Str))=false:=by decide)(hcd:(x==("__classdict__":Str))=false:=by decide):PE X (.Name x pos) (tVar i):=by
 intro pins s σ H Q I h
 obtain⟨v,e,h⟩:=h
 obtain⟨m,hn,hl⟩:=I.loc
 obtain⟨u,r,l⟩:=hl i x v hN e hv
 have fin:EP X pins σ Q u s:=⟨v,H,I,r,h⟩
 rcases l with⟨hk,hm⟩|⟨hk,c,hc,hcell⟩
 ·exact wpAny_Name (wpAny_loadName_local I.ok.kind hk hn hm fin) hd
 ·rcases hk with hk|hk
  ·exact wpAny_Name (wpAny_loadName_cell I.ok.kind hk hc hcell fin) hd
  ·exact wpAny_Name (wpAny_loadName_free I.ok.kind hk hc hcell fin hcd) hd
theorem zaf{i j pos}:PE X (.Constant (.int i) j pos) (tC (.int i)):=fun _ _ _ H _ I h=>wpAny_Constant_int ⟨.int i,H,I.tok _,⟨_,rfl⟩,h⟩
theorem pe_bl{b j pos}:PE X (.Constant (.bool b) j pos) (tC (.bl b)):=fun _ _ _ H _ I h=>Constant_bool ⟨.bl b,H,I,rfl,h⟩
theorem pe_non{j pos}:PE X (.Constant .none j pos) (tC .non):=fun _ _ _ H _ I h=>Constant_none ⟨.non,H,I,rfl,h⟩
noncomputable def Gl(X:Cx)(x:Str):Prop:=X.env.kindOf x=some .globalImplicit
theorem ld_glob{E:Value->Shared->Prop}{pins:List (Addr×Obj)}{s:Shared}{σ:St}{H:Hp}{x:Str}{u:Value}{pos:Pos}{Q:Value->Shared->Prop}(I:Inv X pins σ H s)(hg:Gl X x)(hm:X.mg x=some u)(h:Q u s)(hd:(x==("__debug__":Str))=false:=by decide):wpAny (model X.prog X.w) X.A (eval (.Name x pos) X.env) Q E s:=
 Calls.Name_function_global I.ok.kind hg (Calls.loadGlobal_global (by rw[I.ok.glob];exact I.mod.glob.keeps I.bk) hm h) hd
theorem ld_blt{E:Value->Shared->Prop}{pins:List (Addr×Obj)}{s:Shared}{σ:St}{H:Hp}{x:Str}{u:Value}{pos:Pos}{Q:Value->Shared->Prop}(I:Inv X pins σ H s)(hg:Gl X x)(hm:X.mg x=none)(hv:bootBuiltins x=some u)(h:Q u s)(hn:x≠"__name__":=by decide)(hd:(x==("__debug__":Str))=false:=by decide):wpAny (model X.prog X.w) X.A (eval (.Name x pos) X.env) Q E s:=by
 obtain⟨mb,h1,h2⟩:=I.mod.blt
 exact Calls.Name_function_global I.ok.kind hg (Calls.loadGlobal_builtin (by rw[I.ok.glob];exact I.mod.glob.keeps I.bk) hm (by rw[I.ok.blt];exact h1.keeps I.bk) ((h2 x hn).trans hv) h) hd
theorem pe_glob{x:Str}{v:V}{u:Value}{pos:Pos}(hg:Gl X x)(hm:X.mg x=some u)(r:RelV v u)(hd:(x==("__debug__":Str))=false:=by decide):PE X (.Name x pos) (tC v):=
 fun _ _ _ H _ I h=>ld_glob I hg hm ⟨v,H,I,r,h⟩ hd
theorem pe_bltn{x:Str}{v:V}{u:Value}{pos:Pos}(hg:Gl X x)(hm:X.mg x=none)(hv:bootBuiltins x=some u)(r:RelV v u)(hn:x≠"__name__":=by decide)(hd:(x==("__debug__":Str))=false:=by decide):PE X (.Name x pos) (tC v):=
 fun _ _ _ H _ I h=>ld_blt I hg hm hv ⟨v,H,I,r,h⟩ hn hd
variable{a b:Expr}{ta tb:TE}{pos:Pos}
noncomputable def tB(t:TE):TT:=fun σ H Q=>t σ H fun x H1=>∃c,x= .bl c/\Q c H1
theorem zdg{e:Expr}{t:TE}(h:PE X e t)(he:∀whole,isTrue e X.env whole=(do let v<-whole;standAt e.pos;holding [v] (truthy v)):=by intro _;rfl):PT X e (tB t):=by
 intro pins s σ H Q I hw
 refine isTrue_plain (thn (h pins s σ H _ I hw) fun v s1 ⟨x,H1,I1,r1,q1⟩=> ?_) (he _)
 obtain⟨d,rfl,q⟩:=q1
 cases r1
 exact wpAny_truthy_bool ⟨H1,I1,q⟩
variable{tA tB':TT}{rest:List Expr}
noncomputable def tAnd(t u:TT):TT:=fun σ H Q=>t σ H fun c H1=>if c=true then u σ H1 Q else Q false H1
noncomputable def tOr(t u:TT):TT:=fun σ H Q=>t σ H fun c H1=>if c=true then Q true H1 else u σ H1 Q
noncomputable def tNot(t:TT):TT:=fun σ H Q=>t σ H fun c H1=>Q (!c) H1
theorem pw_and1(ha:PT X a tA):PW X (.BoolOp .And [a] pos) tA:=by
 intro wh pins s σ H Q I h
 refine isTrue_and (thn (ha pins s σ H Q I h) fun c s1 e=> ?_)
 cases c with
 |true=>exact isTrue_and_nil e
 |false=>exact e
theorem pw_or1(ha:PT X a tA):PW X (.BoolOp .Or [a] pos) tA:=by
 intro wh pins s σ H Q I h
 refine isTrue_or (thn (ha pins s σ H Q I h) fun c s1 e=> ?_)
 cases c with
 |false=>exact isTrue_or_nil e
 |true=>exact e
theorem pw_and(ha:PT X a tA)(hb:PW X (.BoolOp .And (b::rest) pos) tB'):PW X (.BoolOp .And (a::b::rest) pos) (tAnd tA tB'):=by
 intro wh pins s σ H Q I h
 refine isTrue_and (thn (ha pins s σ H _ I h) fun c s1 ⟨H1,I1,q1⟩=> ?_)
 cases c with
 |true=>exact hb wh pins s1 σ H1 Q I1 q1
 |false=>exact⟨H1,I1,q1⟩
theorem pw_or(ha:PT X a tA)(hb:PW X (.BoolOp .Or (b::rest) pos) tB'):PW X (.BoolOp .Or (a::b::rest) pos) (tOr tA tB'):=by
 intro wh pins s σ H Q I h
 refine isTrue_or (thn (ha pins s σ H _ I h) fun c s1 ⟨H1,I1,q1⟩=> ?_)
 cases c with
 |true=>exact⟨H1,I1,q1⟩
 |false=>exact hb wh pins s1 σ H1 Q I1 q1
theorem pt_not(ha:PT X a tA):PT X (.UnaryOp .Not a pos) (tNot tA):=by
 intro pins s σ H Q I h
 exact isTrue_not (ha pins s σ H (fun c H1=>Q (!c) H1) I h)
noncomputable def tAndV(ta tb:TE):TE:=fun σ H Q=>ta σ H fun x H1=>∃c,x= .bl c/\if c=true then tb σ H1 Q else Q (.bl false) H1
noncomputable def tNotV(ta:TE):TE:=fun σ H Q=>ta σ H fun x H1=>∃c,x= .bl c/\Q (.bl (!c)) H1
theorem pe_one{op}{t:TE}(h:PE X a t):PE X (.BoolOp op [a] pos) t:=fun pins s σ H Q I hw=>BoolOp_one (h pins s σ H Q I hw)
theorem pe_and(ha:PE X a ta)(hb:PE X (.BoolOp .And (b::rest) pos) tb):PE X (.BoolOp .And (a::b::rest) pos) (tAndV ta tb):=by
 intro pins s σ H Q I h
 refine BoolOp_and (thn (ha pins s σ H _ I h) fun v s1 ⟨x,H1,I1,r1,q1⟩=> ?_)
 obtain⟨c,rfl,q1⟩:=q1
 cases r1
 refine wpAny_truthy_bool ?_
 cases c with
 |true=>exact hb pins s1 σ H1 Q I1 q1
 |false=>exact⟨.bl false,H1,I1,rfl,q1⟩
theorem pe_not(ha:PE X a ta):PE X (.UnaryOp .Not a pos) (tNotV ta):=by
 intro pins s σ H Q I h
 refine UnaryOp_ (thn (ha pins s σ H _ I h) fun v s1 ⟨x,H1,I1,r1,q1⟩=> ?_)
 obtain⟨c,rfl,q1⟩:=q1
 cases r1
 exact not_of (wpAny_truthy_bool ⟨.bl (!c),H1,I1,rfl,q1⟩)
end
end L2
namespace L2
open PySem PySem.Spec PyProof.Rows
noncomputable def SqL(K:W.Frag)(H:Hp)(a:Addr)(xs:List V):Prop:=
 Rd H a (.lst xs)\/
  ∃(o:Obj) (its:Array Value) (n:Nat),K.lookup a=some o/\o.cls= .type "list"/\o.dict=none/\o.data= .seq its n/\its.size<=sizeLine/\Vals xs its.toList
noncomputable def SqT(K:W.Frag)(H:Hp)(a:Addr)(xs:List V):Prop:=
 Rd H a (.tup xs)\/
  ∃(o:Obj) (its:Array Value) (n:Nat),K.lookup a=some o/\o.cls= .type "tuple"/\o.data= .seq its n/\its.size<=sizeLine/\Vals xs its.toList
noncomputable def absV:Value->Option V
 | .none=>some .non
 | .bool b=>some (.bl b)
 | .int i _=>some (.int i)
 | .str x _=>some (.str x)
 | .bytes b _=>some (.byt b)
 | .float b _=>some (.flt b)
 | .ref a=>some (.ref a)
 | .type n=>some (.ty n)
 |_=>none
theorem RelV.abs{x:V}{u:Value}(r:RelV x u):absV u=some x:=by
 cases x with
 |non=>cases r;rfl
 |bl _=>cases r;rfl
 |int _=>obtain⟨t,rfl⟩:=r;rfl
 |str _=>obtain⟨t,rfl⟩:=r;rfl
 |byt _=>obtain⟨t,rfl⟩:=r;rfl
 |flt _=>obtain⟨t,rfl⟩:=r;rfl
 |ref _=>cases r;rfl
 |ty _=>cases r;rfl
theorem RelV.inj{x y:V}{u:Value}(r:RelV x u)(q:RelV y u):x=y:=Option.some.inj (r.abs.symm.trans q.abs)
theorem Vals.inj{xs ys:List V}{us:List Value}(h:Vals xs us)(h':Vals ys us):xs=ys:=by
 induction h generalizing ys with
 |nil=>cases h';rfl
 |cons r _ ih=>cases h' with |cons r' t'=>rw[r.inj r',ih t']
section
variable{X:Cx}{pins:List (Addr×Obj)}{σ:St}{H:Hp}{s:Shared}{a:Addr}{xs ys:List V}
theorem SqL.of{K:W.Frag}(h:H a=some (.lst xs)):SqL K H a xs:= .inl (.inl h)
theorem SqT.of{K:W.Frag}(h:H a=some (.tup xs)):SqT K H a xs:= .inl (.inl h)
theorem Inv.list(I:Inv X pins σ H s)(h:SqL X.K H a xs):∃its:List Value,Vals xs its/\PlainL s.heap a its.toArray/\xs.length<=sizeLine:=by
 rcases h with h|⟨o,its,n,hk,hc,hd,hs,hz,r⟩
 ·obtain⟨z,its,n,r,e⟩:=h.ok I.hok
  exact⟨its,r,⟨_,n,e,rfl,rfl,rfl⟩,z⟩
 ·refine⟨its.toList,r,⟨o,n,I.kIn a o hk,hc,hd,by simpa using hs⟩,?_⟩
  have e:=r.length
  simp only[Array.length_toList]at e
  omega
theorem Inv.tuple(I:Inv X pins σ H s)(h:SqT X.K H a xs):∃its:List Value,Vals xs its/\IsTup s.heap a its.toArray/\xs.length<=sizeLine:=by
 rcases h with h|⟨o,its,n,hk,hc,hs,hz,r⟩
 ·obtain⟨z,its,r,p⟩:=h.ok I.hok
  exact⟨its,r,p,z⟩
 ·refine⟨its.toList,r,⟨o,I.kIn a o hk,hc,n,by simpa using hs⟩,?_⟩
  have e:=r.length
  simp only[Array.length_toList]at e
  omega
theorem Inv.list_inj(I:Inv X pins σ H s)(h:SqL X.K H a xs)(h':SqL X.K H a ys):xs=ys:=by
 obtain⟨its,r,⟨o,n,e,_,_,d⟩,_⟩:=I.list h
 obtain⟨its',r',⟨o',n',e',_,_,d'⟩,_⟩:=I.list h'
 rw[e]at e';cases e'
 rw[d]at d'
 injection d' with d1 _
 have:its=its':=by simpa using congrArg Array.toList d1
 subst this
 exact r.inj r'
theorem Inv.tuple_inj(I:Inv X pins σ H s)(h:SqT X.K H a xs)(h':SqT X.K H a ys):xs=ys:=by
 obtain⟨its,r,⟨o,e,_,n,d⟩,_⟩:=I.tuple h
 obtain⟨its',r',⟨o',e',_,n',d'⟩,_⟩:=I.tuple h'
 rw[e]at e';cases e'
 rw[d]at d'
 injection d' with d1 _
 have:its=its':=by simpa using congrArg Array.toList d1
 subst this
 exact r.inj r'
end
noncomputable abbrev Cx.wish(X:Cx)(E:Value->Shared->Prop):Cx:={X with xe:=E}
noncomputable abbrev Cx.nox(X:Cx):Cx:=X.wish fun _ _=>False
theorem Cx.Ok.wish{X:Cx}(ok:X.Ok)(E:Value->Shared->Prop):(X.wish E).Ok:=
 ⟨ok.mod,ok.kind,ok.glob,ok.blt,ok.above,ok.inj,ok.has,ok.cab,ok.hd,ok.frames,ok.stk,ok.exf,ok.bs,ok.bsz,ok.noex,ok.exfs,ok.funs,ok.frf⟩
theorem Cx.Ok.unwish{X:Cx}{E:Value->Shared->Prop}(ok:(X.wish E).Ok):X.Ok:=
 ⟨ok.mod,ok.kind,ok.glob,ok.blt,ok.above,ok.inj,ok.has,ok.cab,ok.hd,ok.frames,ok.stk,ok.exf,ok.bs,ok.bsz,ok.noex,ok.exfs,ok.funs,ok.frf⟩
section
variable{X:Cx}{pins:List (Addr×Obj)}{σ:St}{H:Hp}{s:Shared}{E:Value->Shared->Prop}
theorem Inv.wish(I:Inv X pins σ H s)(E:Value->Shared->Prop):Inv (X.wish E) pins σ H s:=⟨I.ok.wish E,I.os,I.bare,I.base,I.loc,I.cell,I.free,I.freeC,I.pin,I.hok,I.len⟩
theorem Inv.unwish(I:Inv (X.wish E) pins σ H s):Inv X pins σ H s:=⟨I.ok.unwish,I.os,I.bare,I.base,I.loc,I.cell,I.free,I.freeC,I.pin,I.hok,I.len⟩
theorem SP.unwish{D:Ends}{f:Flow}{s':Shared}(h:SP (X.wish E) pins D f s'):SP X pins D f s':=by
 cases f with
 |next=>obtain⟨σ',H',I,q⟩:=h;exact⟨σ',H',I.unwish,q⟩
 |brk=>obtain⟨σ',H',I,q⟩:=h;exact⟨σ',H',I.unwish,q⟩
 |cont=>obtain⟨σ',H',I,q⟩:=h;exact⟨σ',H',I.unwish,q⟩
 |ret u=>obtain⟨v,σ',H',I,r,q⟩:=h;exact⟨v,σ',H',I.unwish,r,q⟩
theorem PE.nox{e:Expr}{t:TE}(h:PE X.nox e t):PE X e t:=fun pins s σ H Q I hw=>
 wpAny_mono (h pins s σ H Q (I.wish _) hw) (fun _ _ ⟨v,H',I',r,q⟩=>⟨v,H',I'.unwish,r,q⟩) fun _ _ z=>False.elim z
theorem PT.nox{e:Expr}{t:TT}(h:PT X.nox e t):PT X e t:=fun pins s σ H Q I hw=>
 wpAny_mono (h pins s σ H Q (I.wish _) hw) (fun _ _ ⟨H',I',q⟩=>⟨H',I'.unwish,q⟩) fun _ _ z=>False.elim z
theorem PSs.nox{st:List Stmt}{t:TS}(h:PSs X.nox st t):PSs X st t:=fun pins s σ H D I hw=>
 wpAny_mono (h pins s σ H D (I.wish _) hw) (fun _ _ q=>q.unwish) fun _ _ z=>False.elim z
end
section
variable{X:Cx}{st:Stmt}{rest:List Stmt}{t u:TS}{e:Expr}{te:TE}{pos:Pos}
noncomputable def tNext:TS:=fun D σ H=>D.nx σ H
noncomputable def tSeq(t u:TS):TS:=fun D σ H=>t {D with nx:=u D} σ H
theorem zbg:PSs X [] tNext:=fun _ _ σ H _ I h=>wpAny_execs_nil ⟨σ,H,I,h⟩
theorem zae(h1:PS X st t)(h2:PSs X rest u):PSs X (st::rest) (tSeq t u):=by
 intro pins s σ H D I h
 refine wpAny_execs_cons (thn (h1 pins s σ H {D with nx:=u D} I h) fun f s1 q=> ?_)
 cases f with
 |next=>
  obtain⟨σ',H',I',q⟩:=q
  exact h2 pins s1 σ' H' D I' q
 |ret v=>exact q
 |brk=>exact q
 |cont=>exact q
theorem zag(h1:PS X st t):PSs X [st] t:=by
 intro pins s σ H D I h
 refine wpAny_execs_cons (thn (h1 pins s σ H D I h) fun f s1 q=> ?_)
 cases f with
 |next=>exact wpAny_execs_nil q
 |ret v=>exact q
 |brk=>exact q
 |cont=>exact q
noncomputable def tBreak:TS:=fun D σ H=>D.bk σ H
theorem ps_break:PS X (.Break pos) tBreak:=fun _ _ σ H _ I h=>wpAny_Break ⟨σ,H,I,h⟩
theorem Inv.quiet{pins:List (Addr×Obj)}{σ:St}{H:Hp}{s:Shared}(I:Inv X pins σ H s):interactive X.env=false:=by simp[interactive,I.ok.kind]
noncomputable def tDrop(te:TE):TS:=fun D σ H=>te σ H fun _ H1=>D.nx σ H1
theorem zdi(he:PE X e te)(hs:swapsWith e none pos.line X.env=pure false:=by rfl):PS X (.Expr e pos) (tDrop te):=by
 intro pins s σ H D I h
 exact wpAny_Expr_any (thn (he pins s σ H _ I h) fun v s1 ⟨x,H1,I1,r1,q1⟩=>⟨σ,H1,I1,q1⟩) I.quiet hs
noncomputable def tRet(te:TE):TS:=fun D σ H=>te σ H D.rt
theorem zak(he:PE X e te):PS X (.Return (some e) pos) (tRet te):=by
 intro pins s σ H D I h
 exact wpAny_Return_some (thn (he pins s σ H _ I h) fun v s1 ⟨x,H1,I1,r1,q1⟩=>⟨x,σ,H1,I1,r1,q1⟩)
noncomputable def tRetN:TS:=fun D _ H=>D.rt .non H
theorem ps_retN:PS X (.Return none pos) tRetN:=fun _ _ σ H _ I h=>wpAny_Return_none ⟨.non,σ,H,I,rfl,h⟩
noncomputable def tIfS(c:TT)(t u:TS):TS:=fun D σ H=>c σ H fun b H1=>if b=true then t D σ H1 else u D σ H1
theorem zcv{c:Expr}{a b:List Stmt}{tc:TT}(hc:PT X c tc)(ha:PSs X a t)(hb:PSs X b u):PS X (.If c a b pos) (tIfS tc t u):=by
 intro pins s σ H D I h
 refine wpAny_If (thn (hc pins s σ H _ I h) fun d s1 ⟨H1,I1,q1⟩=> ?_)
 cases d with
 |true=>exact ha pins s1 σ H1 D I1 q1
 |false=>exact hb pins s1 σ H1 D I1 q1
noncomputable def tNever:TS:=fun _ _ _=>False
theorem pss_never{sts:List Stmt}:PSs X sts tNever:=fun _ _ _ _ _ _ h=>h.elim
end
noncomputable abbrev TG:=V->St->Hp->(St->Hp->Prop)->Prop
noncomputable abbrev TGs:=List V->St->Hp->(St->Hp->Prop)->Prop
noncomputable def PG(X:Cx)(target:Expr)(t:TG):Prop:=
 ∀(pins:List (Addr×Obj)) (s:Shared) (σ:St) (H:Hp) (v:V) (u:Value) (Q:St->Hp->Prop),Inv X pins σ H s->RelV v u->t v σ H Q->
  wpAny (model X.prog X.w) X.A (assign target X.env u) (fun _ s'=>∃σ' H',Inv X pins σ' H' s'/\Q σ' H') X.xe s
noncomputable def PGs(X:Cx)(ts:List Expr)(t:TGs):Prop:=
 ∀(pins:List (Addr×Obj)) (s:Shared) (σ:St) (H:Hp) (vs:List V) (us:List Value) (Q:St->Hp->Prop),Inv X pins σ H s->Vals vs us->t vs σ H Q->
  wpAny (model X.prog X.w) X.A (assignInOrder ((assignEach ts X.env).map (·.2)) us) (fun _ s'=>∃σ' H',Inv X pins σ' H' s'/\Q σ' H') X.xe s
noncomputable abbrev TSet:=V->V->V->Hp->(Hp->Prop)->Prop
noncomputable def PSet(X:Cx)(t:TSet):Prop:=
 ∀(pins:List (Addr×Obj)) (s:Shared) (σ:St) (H:Hp) (o i v:V) (ov iv u:Value) (Q:Hp->Prop),Inv X pins σ H s->RelV o ov->RelV i iv->RelV v u->t o i v H Q->
  wpAny (model X.prog X.w) X.A (setItem ov iv u) (fun _ s'=>∃H',Inv X pins σ H' s'/\Q H') X.xe s
section
variable{X:Cx}{pos:Pos}
noncomputable def gName(i:Nat):TG:=fun v σ H Q=>Q (σ.set i (some v)) H
theorem zaj{i:Nat}{x:Str}(hN:X.N.Nodup)(hi:X.N[i]? =some x)(hx:Loc X.env.scope x)(hf:X.fn x=true\/X.env.scope.names.lookup x=some .local:=by first |exact .inl rfl|exact .inr rfl|assumption):PG X (.Name x pos) (gName i):=by
 intro pins s σ H v u Q I r h
 exact wpAny_assign_Name (store_ok I hN hi hx r (fun s' I'=>⟨_,H,I',h⟩) hf)
noncomputable def gNil:TGs:=fun vs σ H Q=>vs=[]/\Q σ H
noncomputable def gCons(t:TG)(u:TGs):TGs:=fun vs σ H Q=>∃v r,vs=v::r/\t v σ H fun σ' H'=>u r σ' H' Q
theorem pgs_nil:PGs X [] gNil:=by
 intro pins s σ H vs us Q I r h
 obtain⟨e,h⟩:=h
 subst e
 cases r
 exact assignInOrder_nil ⟨σ,H,I,h⟩
theorem pgs_cons{e:Expr}{es:List Expr}{t:TG}{u:TGs}(h1:PG X e t)(h2:PGs X es u)(hs:(assignEach (e::es) X.env).map (·.2)=assign e X.env::(assignEach es X.env).map (·.2):=by rfl):PGs X (e::es) (gCons t u):=by
 intro pins s σ H vs us Q I r h
 obtain⟨v,vr,e1,h⟩:=h
 subst e1
 cases r with
 |cons r rr=>
  rw[hs]
  refine assignInOrder_cons (thn (h1 pins s σ H _ _ _ I r h) fun _ s1 ⟨σ1,H1,I1,q1⟩=> ?_)
  exact h2 pins s1 σ1 H1 _ _ Q I1 rr q1
noncomputable def gTup(K:W.Frag)(n:Nat)(t:TGs):TG:=fun v σ H Q=>∃a xs,v= .ref a/\SqT K H a xs/\xs.length=n/\t xs σ H Q
theorem pg_tup{es:List Expr}{k:Nat}{t:TGs}{n:Nat}(hc:X.calm=true)(h:PGs X es t)(hn:(assignEach es X.env).length=n:=by rfl)(hst:(assignEach es X.env).findIdx? (·.1)=none:=by rfl):PG X (.Tuple es k pos) (gTup X.K n t):=by
 intro pins s σ H v u Q I r hw
 obtain⟨a,xs,e1,hq,hl,hw⟩:=hw
 subst e1
 cases r
 obtain⟨its,rv,ht,hz⟩:=I.tuple hq
 refine assign_Tuple_tuple (I.ok.hd hc) ht (by simp[hn,<-hl,rv.length]) hst fun h' hx=> ?_
 have I1:Inv X pins σ H {s with heap:=h'}:=I.kept (t':=s.toks) fun b o e=>hx b o (Nat.ne_of_lt (Heap.lt_size e)) e
 exact h pins _ σ H xs _ Q I1 (by simpa using rv) hw
noncomputable def gSub(to ti:TE)(t:TSet):TG:=fun v σ H Q=>to σ H fun o H1=>ti σ H1 fun i H2=>t o i v H2 fun H3=>Q σ H3
theorem pg_sub{o i:Expr}{to ti:TE}{t:TSet}(ho:PE X o to)(hi:PE X i ti)(hs:PSet X t)(ha:∀v,assign (.Subscript o i pos) X.env v=(do
   let ov<-holding [v] (eval o X.env)
   let iv<-holding [v,ov] (eval i X.env)
   standAt pos
   holding [v,ov,iv] (setItem ov iv v)
   release [v,ov,iv] []):=by intro _;rfl):PG X (.Subscript o i pos) (gSub to ti t):=by
 intro pins s σ H v u Q I r h
 rw[ha]
 refine wpAny_bind (wpAny_holding (thn (ho pins s σ H _ I h) fun ov s1 ⟨x,H1,I1,r1,q1⟩=> ?_))
 refine wpAny_bind (wpAny_holding (thn (hi pins s1 σ H1 _ I1 q1) fun iv s2 ⟨y,H2,I2,r2,q2⟩=> ?_))
 refine wpAny_bind (wpAny_standAt (wpAny_bind (wpAny_holding (thn (hs pins s2 σ H2 x y v ov iv u _ I2 r1 r2 r q2) fun _ s3 ⟨H3,I3,q3⟩=> ?_))))
 exact wpAny_release ⟨σ,H3,I3,q3⟩
noncomputable def tAsg(te:TE)(g:TG):TS:=fun D σ H=>te σ H fun x H1=>g x σ H1 D.nx
theorem ps_asg{tg e:Expr}{te:TE}{g:TG}(he:PE X e te)(hg:PG X tg g)(hs:swapsWithSole [tg] e pos.line X.env=pure false:=by rfl)(hw:swappedStores [tg] e X.env=pure none:=by rfl)(h1:(assignEach [tg] X.env).map (·.2)=[assign tg X.env]:=by rfl):PS X (.Assign [tg] e pos) (tAsg te g):=by
 intro pins s σ H D I h
 refine wpAny_Assign_stores (thn (he pins s σ H _ I h) fun v s1 ⟨x,H1,I1,r1,q1⟩=> ?_) hs hw
 rw[h1]
 exact thn (hg pins s1 σ H1 x v _ I1 r1 q1) fun _ s2 q=>q
theorem zaw{i:Nat}{x:Str}{e:Expr}{te:TE}{pos':Pos}(hN:X.N.Nodup)(hi:X.N[i]? =some x)(hx:Loc X.env.scope x)(he:PE X e te)(hs:swapsWith e (some (.Name x pos')) pos.line X.env=pure false:=by rfl)(hf:X.fn x=true\/X.env.scope.names.lookup x=some .local:=by first |exact .inl rfl|exact .inr rfl|assumption):
  PS X (.Assign [.Name x pos'] e pos) (tAsg te (gName i)):=by
 intro pins s σ H D I h
 refine wpAny_Assign_Name (thn (he pins s σ H _ I h) fun v s1 ⟨y,H1,I1,r1,q1⟩=> ?_) hs
 exact store_ok I1 hN hi hx r1 (fun s2 I2=>⟨_,H1,I2,q1⟩) hf
noncomputable def tPar(i j:Nat)(ta:TA):TS:=fun D σ H=>ta σ H fun vs H1=>∃v w,vs=[v,w]/\D.nx ((σ.set i (some v)).set j (some w)) H1
theorem ps_par{i j:Nat}{x y:Str}{a b:Expr}{ta:TA}{px py pt:Pos}{kt k2 pt2}(hc:X.calm=true)(hN:X.N.Nodup)(hi:X.N[i]? =some x)(hj:X.N[j]? =some y)(hij:i≠j)(hx:X.env.scope.names.lookup x=some .local)(hy:X.env.scope.names.lookup y=some .local)(ha:PA X [a,b] ta)(hw:swappedStores [.Tuple [.Name x px,.Name y py] kt pt] (.Tuple [a,b] k2 pt2) X.env=pure (some [x,y]))(hs:swapsWithSole [.Tuple [.Name x px,.Name y py] kt pt] (.Tuple [a,b] k2 pt2) pos.line X.env=pure false:=by rfl):
  PS X (.Assign [.Tuple [.Name x px,.Name y py] kt pt] (.Tuple [a,b] k2 pt2) pos) (tPar i j ta):=by
 intro pins s σ H D I h
 rw[exec_Assign_arm]
 refine wpAny_bind (wpAny_standAt ?_)
 rw[hs]
 refine wpAny_bind (wpAny_pure ?_)
 rw[if_neg (by decide)]
 refine wpAny_bind (Tuple_ (thn (ha _ pins s σ H _ I h) fun us s1 ⟨vs,H1,I1,r1,q1⟩=> ?_))
 obtain⟨v,w,e1,q1⟩:=q1
 subst e1
 obtain⟨u1,u2,rfl,rv,rw'⟩:∃u1 u2,us=[u1,u2]/\RelV v u1/\RelV w u2:=by
  cases r1 with
  |cons p q=>
   cases q with
   |cons p' q'=>
    cases q'
    exact⟨_,_,rfl,p,p'⟩
 refine wpAny_newObj_type ?_ (by show 2<=sizeLine;decide)
 have I2:Inv X pins σ H1 {s1 with heap:=s1.heap.push {cls:= .type "tuple",data:= .seq [u1,u2].toArray}}:=I1.kept (t':=s1.toks) fun b o e=>Heap.get?_push_of_some _ e
 rw[hw]
 refine wpAny_bind (wpAny_pure ?_)
 show wpAny (model X.prog X.w) X.A (do rule "assign.swapped-stores";let items<-unpackItems (.ref s1.heap.objs.size) 2 none;assignInOrder [fun v=>bindName X.env y v,fun v=>bindName X.env x v] items.reverse;pure Flow.next) _ _ _
 refine wpAny_bind (wpAny_rule (wpAny_bind (unpackItems_tuple (items:=#[u1,u2]) (I.ok.hd hc) (IsTup.new s1.heap _) fun h' hx'=> ?_)))
 have I3:=I2.kept (h':=h') (t':=s1.toks) fun b o e=>hx' b o (Nat.ne_of_lt (Heap.lt_size e)) e
 show wpAny _ _ (assignInOrder [fun v=>bindName X.env y v,fun v=>bindName X.env x v] [u2,u1]>>=fun _=>pure Flow.next) _ _ _
 refine wpAny_bind (assignInOrder_cons (wpAny_bindName (store_ok I3 hN hj (.inl hy) rw' (fun s2 I4=> ?_) (.inr hy))))
 refine assignInOrder_cons (wpAny_bindName (store_ok I4 hN hi (.inl hx) rv (fun s3 I5=>assignInOrder_nil (wpAny_pure ?_)) (.inr hx)))
 rw[List.set_comm _ _ (Ne.symm hij)]at I5
 exact⟨_,H1,I5,q1⟩
end
section
variable{X:Cx}{pos:Pos}
noncomputable def tWhile(c:TT)(tb:TS):TS:=fun D σ H=>∃W:Nat->St->Hp->Prop,(∃m,W m σ H)/\∀m σ H,W m σ H->
 c σ H fun b H1=>if b=true then∃N:St->Hp->Prop,(∀σ' H',N σ' H'->∃m',m'<m/\W m' σ' H')/\tb {D with nx:=N,ct:=N,bk:=D.nx} σ H1 else D.nx σ H1
theorem ps_while{c:Expr}{body:List Stmt}{tc:TT}{tb:TS}(hp:PassesOwn (model X.prog X.w) X.A X.env X.xe)(hc:PT X c tc)(hb:PSs X body tb):PS X (.While c body [] pos) (tWhile tc tb):=by
 intro pins s σ H D I h
 obtain⟨W,⟨m0,w0⟩,turn⟩:=h
 refine wpAny_While (codeAny_whileLoop (fun n s'=>∃σ' H',Inv X pins σ' H' s'/\W n σ' H') ?_ m0 ⟨σ,H,I,w0⟩)
 rintro n s1 ⟨σ1,H1,I1,w1⟩
 refine wpAny_passesOwn hp (thn (hc pins s1 σ1 H1 _ I1 (turn n σ1 H1 w1)) fun b s2 ⟨H2,I2,q2⟩=> ?_)
 cases b with
 |true=>
  obtain⟨N,hN,q2⟩:=q2
  rw[if_pos rfl]
  refine wpAny_passesOwn hp (thn (hb pins s2 σ1 H2 _ I2 q2) fun f s3 q3=> ?_)
  cases f with
  |next=>
   obtain⟨σ3,H3,I3,n3⟩:=q3
   obtain⟨m',hm,w3⟩:=hN σ3 H3 n3
   exact⟨m',hm,σ3,H3,I3,w3⟩
  |cont=>
   obtain⟨σ3,H3,I3,n3⟩:=q3
   obtain⟨m',hm,w3⟩:=hN σ3 H3 n3
   exact⟨m',hm,σ3,H3,I3,w3⟩
  |brk=>exact q3
  |ret v=>exact q3
 |false=>
  rw[if_neg Bool.false_ne_true]
  exact wpAny_execs_nil ⟨σ1,H2,I2,q2⟩
end
structure It where
 go:Nat->Hp->Prop
 yld:Nat->Hp->V->Hp->Prop
 stop:Nat->Hp->Prop
noncomputable def FpOk(X:Cx)(pins:List (Addr×Obj))(H:Hp)(b:Addr):Prop:=
 H b=none/\b≠X.env.locals/\b∉X.fs/\(b∈X.ex\/X.s₀.heap.objs.size<=b)/\(∀x c,X.env.cells.lookup x=some c->c≠b)/\∀p∈X.pn++pins,p.1≠b
theorem Inv.fpOk{X:Cx}{pins:List (Addr×Obj)}{σ:St}{H H':Hp}{s:Shared}{b:Addr}(I:Inv X pins σ H s)(hb:s.heap.objs.size<=b)(hn:H' b=none):FpOk X pins H' b:=by
 refine⟨hn,Nat.ne_of_gt (Nat.lt_of_lt_of_le I.lt hb),I.nofs hb,.inr (Nat.le_trans I.sz hb),fun x c e z=> ?_,fun p hp z=> ?_⟩
 ·obtain⟨v,q⟩:=I.cell x c e
  exact absurd (Nat.lt_of_lt_of_le q.lt (by rw[z];exact hb)) (Nat.lt_irrefl _)
 ·exact absurd (Nat.lt_of_lt_of_le (Heap.lt_size (I.pin p hp).1) (by rw[z];exact hb)) (Nat.lt_irrefl _)
structure Turn(P:Program)(w:World)(K:W.Frag)(tg:Expr)(J:It)(fp:List Addr)(it:Addr)(tn:Nat->Heap->Prop):Prop where
 mem:it∈fp
 obj:∀i h,tn i h->∀b∈fp,∃o,h.get? b=some o/\∀v,o.data≠.cell v
 keep:∀i h h',tn i h->(∀b∈fp,∀o,h.get? b=some o->h'.get? b=some o)->tn i h'
 item:∀(X:Cx),X.prog=P->X.w=w->X.K=K->X.calm=true->∀(i:Nat) (pins:List (Addr×Obj)) (s:Shared) (σ:St) (H:Hp) (E:Value->Shared->Prop),Inv X pins σ H s->(∀b∈fp,FpOk X pins H b)->tn i s.heap->J.go i H->
  wpAny (model P w) X.A (pyNext (.ref it)) (fun r s1=>∃u,r=some u/\
   wpAny (model P w) X.A (letOwnedTupleGo tg (.ref it) u) (fun _ s2=>∃x H',Inv X pins σ H' s2/\RelV x u/\J.yld i H x H'/\tn (i+1) s2.heap/\∀b∈fp,H' b=none) E s1) E s
 done:∀(X:Cx),X.prog=P->X.w=w->X.K=K->X.calm=true->∀(i:Nat) (pins:List (Addr×Obj)) (s:Shared) (σ:St) (H:Hp) (E:Value->Shared->Prop),Inv X pins σ H s->(∀b∈fp,FpOk X pins H b)->tn i s.heap->J.stop i H->
  wpAny (model P w) X.A (pyNext (.ref it)) (fun r s1=>r=none/\Inv X pins σ H s1) E s
 self:∀(A:Around) (i:Nat) (s:Shared) (Q:Value->Shared->Prop) (E:Value->Shared->Prop),tn i s.heap->Q (.ref it) s->wpAny (model P w) A (pyIter (.ref it)) Q E s
noncomputable abbrev TI:=St->Hp->(It->Hp->Prop)->Prop
noncomputable def PIE(X:Cx)(pins:List (Addr×Obj))(σ:St)(tg:Expr)(R:It->Hp->Prop)(itv:Value)(s2:Shared):Prop:=
 ∃(it:Addr) (fp:List Addr) (tn:Nat->Heap->Prop) (J:It) (H':Hp),itv= .ref it/\Inv X pins σ H' s2/\Turn X.prog X.w X.K tg J fp it tn/\tn 0 s2.heap/\(∀b∈fp,FpOk X pins H' b)/\R J H'
noncomputable def PI(X:Cx)(tg iter:Expr)(wi:TI):Prop:=
 ∀(pins:List (Addr×Obj)) (s:Shared) (σ:St) (H:Hp) (R:It->Hp->Prop),Inv X pins σ H s->wi σ H R->
  wpAny (model X.prog X.w) X.A (eval iter X.env) (fun v s1=>wpAny (model X.prog X.w) X.A (pyIter v) (PIE X pins σ tg R) X.xe s1) X.xe s
theorem go_of{M:Model}{A:Around}{E:Value->Shared->Prop}{s:Shared}{tg:Expr}{it:Addr}{u:Value}{o:Obj}{n:String}{vs:Array Value}{Q:Unit->Shared->Prop}(ho:s.heap.get? it=some o)(hc:o.cls= .type n)(hd:o.data= .fields vs)(hn:["enumerate","zip","dict_itemiterator","dict_reverseitemiterator","odict_iterator","itertools.zip_longest","itertools.pairwise"].contains n=false)(hQ:Q () s):wpAny M A (letOwnedTupleGo tg (.ref it) u) Q E s:=by
 unfold letOwnedTupleGo
 cases tg<;>first
  |exact wpAny_pure hQ
  |(cases u<;>first
    |exact wpAny_pure hQ
    |(refine wpAny_bind (wpAny_load ho ?_)
      rw[hc,hd]
      show wpAny M A (if(["enumerate","zip","dict_itemiterator","dict_reverseitemiterator","odict_iterator","itertools.zip_longest","itertools.pairwise"].contains n&&vs[0]? ==some (rawInt _))=true then _ else _) Q E s
      rw[if_neg (by intro h;rw[hn,Bool.false_and]at h;cases h)]
      exact wpAny_pure hQ))
noncomputable def Itl(K:W.Frag)(a:Addr):It:=
 ⟨fun i H=>∃xs x,SqL K H a xs/\xs[i]? =some x,fun i H x H'=>H'=H/\∀xs,SqL K H a xs->xs[i]? =some x,fun i H=>∃xs,SqL K H a xs/\xs.length<=i⟩
noncomputable def Itt(K:W.Frag)(a:Addr):It:=
 ⟨fun i H=>∃xs x,SqT K H a xs/\xs[i]? =some x,fun i H x H'=>H'=H/\∀xs,SqT K H a xs->xs[i]? =some x,fun i H=>∃xs,SqT K H a xs/\xs.length<=i⟩
noncomputable def Itr(lo:Int)(n:Nat):It:=⟨fun i _=>i<n,fun i H x H'=>H'=H/\x= .int (lo+i),fun i _=>n<=i⟩
theorem turn_list{P:Program}{w:World}{K:W.Frag}{tg:Expr}(a it:Addr):Turn P w K tg (Itl K a) [it] it (fun i h=>h.IsListIter it a i) where
 mem:=by simp
 obj:=fun i h st b hb=>by
  have e:b=it:=by simpa using hb
  subst e
  obtain⟨o,e,c,d⟩:=st
  exact⟨o,e,fun v z=>by rw[d]at z;cases z⟩
 keep:=fun i h h' st k=>st.at fun o e=>k it (by simp) o e
 item:=by
  intro X hP hw hK hc i pins s σ H E I hf st hg
  subst hP hw hK
  obtain⟨xs,x,hq,hx⟩:=hg
  obtain⟨its,rv,p,hz⟩:=I.list hq
  obtain⟨u,hu,ru⟩:=rv.get hx
  obtain⟨f0,f1,f2,f3,f4,f5⟩:=hf it (by simp)
  refine wpAny_pyNext_list_item st p.isList (x:=u) (by simpa using hu) fun h' st' sb=> ?_
  have I1:Inv X pins σ H {s with heap:=h'}:=I.turned (t':=s.toks) (fun b o hb e=>(sb.2 b hb).trans e) f0 f1 f3 f4 f5
  obtain⟨o,e,c,d⟩:=id st'
  exact⟨u,rfl,go_of (s:={s with heap:=h'}) e c d (by decide) ⟨x,H,I1,ru,⟨rfl,fun ys hy=>by rw[I.list_inj hy hq];exact hx⟩,st',fun b hb=>(hf b hb).1⟩⟩
 done:=by
  intro X hP hw hK hc i pins s σ H E I hf st hg
  subst hP hw hK
  obtain⟨xs,hq,hx⟩:=hg
  obtain⟨its,rv,p,hz⟩:=I.list hq
  obtain⟨f0,f1,f2,f3,f4,f5⟩:=hf it (by simp)
  have hl:=rv.length
  exact wpAny_pyNext_list_end (I.ok.hd hc) st p.isList (by simp;omega) fun h' eb=>⟨rfl,I.turned (t':=s.toks) (fun b o hb e=>eb b o hb e) f0 f1 f3 f4 f5⟩
 self:=fun _ _ _ _ _ st h=>wpAny_pyIter_listiter st h
theorem turn_tuple{P:Program}{w:World}{K:W.Frag}{tg:Expr}(a it:Addr):Turn P w K tg (Itt K a) [it] it (fun i h=>h.IsTupleIter it a i) where
 mem:=by simp
 obj:=fun i h st b hb=>by
  have e:b=it:=by simpa using hb
  subst e
  obtain⟨o,e,c,d⟩:=st
  exact⟨o,e,fun v z=>by rw[d]at z;cases z⟩
 keep:=fun i h h' st k=>st.at fun o e=>k it (by simp) o e
 item:=by
  intro X hP hw hK hc i pins s σ H E I hf st hg
  subst hP hw hK
  obtain⟨xs,x,hq,hx⟩:=hg
  obtain⟨its,rv,p,hz⟩:=I.tuple hq
  obtain⟨u,hu,ru⟩:=rv.get hx
  obtain⟨f0,f1,f2,f3,f4,f5⟩:=hf it (by simp)
  refine wpAny_pyNext_tuple_item st (show s.heap.IsTuple a its.toArray from p) (x:=u) (by simpa using hu) fun h' st' sb=> ?_
  have I1:Inv X pins σ H {s with heap:=h'}:=I.turned (t':=s.toks) (fun b o hb e=>(sb.2 b hb).trans e) f0 f1 f3 f4 f5
  obtain⟨o,e,c,d⟩:=id st'
  exact⟨u,rfl,go_of (s:={s with heap:=h'}) e c d (by decide) ⟨x,H,I1,ru,⟨rfl,fun ys hy=>by rw[I.tuple_inj hy hq];exact hx⟩,st',fun b hb=>(hf b hb).1⟩⟩
 done:=by
  intro X hP hw hK hc i pins s σ H E I hf st hg
  subst hP hw hK
  obtain⟨xs,hq,hx⟩:=hg
  obtain⟨its,rv,p,hz⟩:=I.tuple hq
  obtain⟨f0,f1,f2,f3,f4,f5⟩:=hf it (by simp)
  have hl:=rv.length
  exact wpAny_pyNext_tuple_end (I.ok.hd hc) st (show s.heap.IsTuple a its.toArray from p) (by simp;omega) fun h' eb=>⟨rfl,I.turned (t':=s.toks) (fun b o hb e=>eb b o hb e) f0 f1 f3 f4 f5⟩
 self:=fun _ _ _ _ _ st h=>wpAny_pyIter_tupleiter st h
theorem turn_range{P:Program}{w:World}{K:W.Frag}{tg:Expr}(it:Addr)(lo:Int)(n:Nat):Turn P w K tg (Itr lo n) [it] it (fun i h=>IsRangeIter h it (lo+(i:Nat)*1) ((n:Int)-(i:Nat)) 1) where
 mem:=by simp
 obj:=fun i h st b hb=>by
  have e:b=it:=by simpa using hb
  subst e
  exact⟨_,st,fun v z=>by
   have z':Data.fields _=Data.cell v:=z
   cases z'⟩
 keep:=fun i h h' st k=>k it (by simp) _ st
 item:=by
  intro X hP hw hK hc i pins s σ H E I hf st hg
  subst hP hw hK
  obtain⟨f0,f1,f2,f3,f4,f5⟩:=hf it (by simp)
  have W:=Walks.range (prog:=X.prog) (w:=X.w) (I.ok.hd hc) it lo 1 n
  refine W.item i s _ _ hg st fun v h' tk hv st' kk=> ?_
  obtain⟨t,rfl⟩:=hv
  have I1:Inv X pins σ H {s with heap:=h',toks:=tk}:=I.turned (fun b o hb e=>kk b o (by simpa using hb) e) f0 f1 f3 f4 f5
  refine⟨_,rfl,go_of (s:={s with heap:=h',toks:=tk}) (n:="range_iterator") st' rfl rfl (by decide) ⟨.int (lo+i),H,I1,⟨t,?_⟩,⟨rfl,rfl⟩,st',fun b hb=>(hf b hb).1⟩⟩
  rw[Int.mul_one]
 done:=by
  intro X hP hw hK hc i pins s σ H E I hf st hg
  subst hP hw hK
  obtain⟨f0,f1,f2,f3,f4,f5⟩:=hf it (by simp)
  exact wpAny_pyNext_range_end (I.ok.hd hc) st (by have:n<=i:=hg;omega) fun h' eb=>⟨rfl,I.turned (t':=s.toks) (fun b o hb e=>eb b o hb e) f0 f1 f3 f4 f5⟩
 self:=fun _ _ _ _ _ st h=>wpAny_pyIter_rangeiter st h
end L2
namespace L2
open PySem PySem.Spec PyProof.Rows
section
variable{X:Cx}{tg:Expr}
theorem range_it{pins:List (Addr×Obj)}{σ:St}{H:Hp}{s:Shared}{R:It->Hp->Prop}{E:Value->Shared->Prop}{lo hi:Int}{t u v:Tok}{tk:Nat}(I:Inv X pins σ H s)(h1: -(2^62)<=lo)(h2:lo<2^62)(h3: -(2^62)<=hi)(h4:hi<2^62)(q:R (Itr lo (hi-lo).toNat) H):wpAny (model X.prog X.w) X.A (pyIter (.ref s.heap.objs.size)) (PIE X pins σ tg R) E {s with heap:=s.heap.push {cls:= .type "range",data:= .fields #[.int lo t,.int hi u,.int 1 v]},toks:=tk}:=by
 refine wpAny_pyIter_range (IsRange.new ..) (small_one h1 h2 h3 h4) ?_
 have I1:Inv X pins σ H {s with heap:=s.heap.push {cls:= .type "range",data:= .fields #[.int lo t,.int hi u,.int 1 v]},toks:=tk}:=I.kept fun b o e=>Heap.get?_push_of_some _ e
 refine⟨(s.heap.push {cls:= .type "range",data:= .fields #[.int lo t,.int hi u,.int 1 v]}).objs.size,[(s.heap.push {cls:= .type "range",data:= .fields #[.int lo t,.int hi u,.int 1 v]}).objs.size],_,_,H,rfl,
  I1.kept (t':=tk) fun b o e=>Heap.get?_push_of_some _ e,turn_range _ lo (hi-lo).toNat,?_,fun b hb=> ?_,q⟩
 ·have e1:lo+((0:Nat):Int)*1=lo:=by simp
  have e2:(((hi-lo).toNat:Nat):Int)-((0:Nat):Int)=Builtin.Range.rangeSize lo hi 1:=by rw[rangeSize_one];split<;>omega
  show IsRangeIter _ _ (lo+((0:Nat):Int)*1) ((((hi-lo).toNat:Nat):Int)-((0:Nat):Int)) 1
  rw[e1,e2]
  exact Heap.get?_push_size _ rfl
 ·have e:b=(s.heap.push {cls:= .type "range",data:= .fields #[.int lo t,.int hi u,.int 1 v]}).objs.size:=by simpa using hb
  subst e
  exact I1.fpOk (Nat.le_refl _) (I1.hok.fresh (Nat.le_refl _))
noncomputable def iRng1(ta:TA):TI:=fun σ H R=>ta σ H fun vs H1=>∃j:Int,vs=[.int j]/\ -(2^62)<=j/\j<2^62/\R (Itr 0 j.toNat) H1
noncomputable def iRng2(ta:TA):TI:=fun σ H R=>ta σ H fun vs H1=>∃i j:Int,vs=[.int i,.int j]/\(-(2^62)<=i/\i<2^62/\ -(2^62)<=j/\j<2^62)/\R (Itr i (j-i).toNat) H1
theorem zbp{a:Expr}{ta:TA}{p pos:Pos}(hg:Gl X "range")(hm:X.mg "range"=none)(ha:PA X [a] ta)(hs:starEach [a] X.env=[(false,eval a X.env)]:=by rfl):PI X tg (.Call (.Name "range" p) [a] [] pos) (iRng1 ta):=by
 intro pins s σ H R I h
 refine Call_ (ld_blt I hg hm boot_range (PyProof.Rows.callWith_type1 (thn (ha pos pins s σ H _ I h) fun us s1 ⟨vs,H1,I1,r1,q1⟩=> ?_) hs rfl))
 obtain⟨j,e,q1,q2,q⟩:=q1
 subst e
 cases r1 with
 |cons r rr=>
  cases rr
  obtain⟨t,rfl⟩:=r
  exact call_range_1 (range_it I1 (by omega) (by omega) q1 q2 (by simpa using q))
theorem pi_range2{a b:Expr}{ta:TA}{p pos:Pos}(hg:Gl X "range")(hm:X.mg "range"=none)(ha:PA X [a,b] ta)(hs:starEach [a,b] X.env=[(false,eval a X.env),(false,eval b X.env)]:=by rfl)(hs2:starEach [b] X.env=[(false,eval b X.env)]:=by rfl):
  PI X tg (.Call (.Name "range" p) [a,b] [] pos) (iRng2 ta):=by
 intro pins s σ H R I h
 refine Call_ (ld_blt I hg hm boot_range (PyProof.Rows.callWith_type1 (thn (ha pos pins s σ H _ I h) fun us s1 ⟨vs,H1,I1,r1,q1⟩=> ?_) (by rw[hs,hs2]) (by rw[hs2];rfl)))
 obtain⟨i,j,e,⟨q1,q2,q3,q4⟩,q⟩:=q1
 subst e
 cases r1 with
 |cons r rr=>
  cases rr with
  |cons r' rr=>
   cases rr
   obtain⟨t,rfl⟩:=r
   obtain⟨t',rfl⟩:=r'
   exact call_range_2 (range_it I1 q1 q2 q3 q4 q)
noncomputable def tFor(wi:TI)(g:TG)(tb:TS):TS:=fun D σ H=>wi σ H fun J H1=>∃W:Nat->Nat->St->Hp->Prop,(∃m,W 0 m σ H1)/\∀i m σ H,W i m σ H->
 (J.stop i H/\D.nx σ H)\/(J.go i H/\∃N:St->Hp->Prop,(∀σ' H',N σ' H'->∃m',m'<m/\W (i+1) m' σ' H')/\∀x H',J.yld i H x H'->g x σ H' fun σ2 H2=>tb {D with nx:=N,ct:=N,bk:=D.nx} σ2 H2)
noncomputable def pinsAt(fp:List Addr)(h:Heap):List (Addr×Obj):=fp.filterMap fun b=>(h.get? b).map fun o=>(b,o)
theorem zdc{fp:List Addr}{h:Heap}{b:Addr}{o:Obj}(hb:b∈fp)(e:h.get? b=some o):(b,o)∈pinsAt fp h:=List.mem_filterMap.mpr ⟨b,hb,by rw[e];rfl⟩
theorem of_pinsAt{fp:List Addr}{h:Heap}{p:Addr×Obj}(hp:p∈pinsAt fp h):p.1∈fp/\h.get? p.1=some p.2:=by
 obtain⟨b,hb,e⟩:=List.mem_filterMap.mp hp
 cases q:h.get? b with
 |none=>rw[q]at e;cases e
 |some o=>
  rw[q]at e
  have e':(b,o)=p:=Option.some.inj e
  subst e'
  exact⟨hb,q⟩
theorem Inv.pinned{pins:List (Addr×Obj)}{σ:St}{H:Hp}{s:Shared}{fp:List Addr}(I:Inv X pins σ H s)(hf:∀b∈fp,FpOk X pins H b)(ho:∀b∈fp,∃o,s.heap.get? b=some o/\∀v,o.data≠.cell v):Inv X (pins++pinsAt fp s.heap) σ H s:=
 I.pins_of fun p hp=>(List.mem_append.mp hp).elim (fun z=>I.pin p (List.mem_append_right _ z)) fun z=>by
  obtain⟨hb,e⟩:=of_pinsAt z
  obtain⟨f0,f1,f2,_⟩:=hf p.1 hb
  obtain⟨o,e',d⟩:=ho p.1 hb
  rw[e]at e';cases e'
  exact⟨e,f0,f1,f2,d⟩
theorem Inv.unpinned{pins pl:List (Addr×Obj)}{σ:St}{H:Hp}{s:Shared}(I:Inv X (pins++pl) σ H s):Inv X pins σ H s:=I.pins_of fun p hp=>I.pin p (List.mem_append_right _ (List.mem_append_left _ hp))
theorem zdh{iter:Expr}{body:List Stmt}{wi:TI}{g:TG}{tb:TS}{pos:Pos}(hp:PassesOwn (model X.prog X.w) X.A X.env X.xe)(hc:X.calm=true)(hi:PI X tg iter wi)(hg:PG X tg g)(hb:PSs X body tb)(hs:∀x,foldedSetIterable iter X.env x=pure x:=by intro _;rfl):PS X (.For tg iter body [] pos) (tFor wi g tb):=by
 intro pins s σ H D I h
 refine wpAny_For (thn (hi pins s σ H _ I h) fun v s1 h1=>thn h1 fun itv s2 h2=> ?_) hs
 obtain⟨it,fp,tn,J,H2,e,I2,T,st2,f2,W,⟨m0,w0⟩,turn⟩:=h2
 subst e
 -- what stays true of the iterator's objects through the loop
 have stat:∀{H':Hp},(∀b∈fp,H' b=none)->∀b∈fp,FpOk X pins H' b:=fun hn b hb=>⟨hn b hb,(f2 b hb).2⟩
 refine codeAny_forLoop_any (fun n s'=>∃i σ' H',Inv X pins σ' H' s'/\tn i s'.heap/\(∀b∈fp,H' b=none)/\W i n σ' H') ?_ m0 ⟨0,σ,H2,I2,st2,fun b hb=>(f2 b hb).1,w0⟩
 rintro n s3 ⟨i,σ3,H3,I3,st3,fr3,w3⟩
 rcases turn i n σ3 H3 w3 with⟨stop,qn⟩|⟨go,N,hN,step⟩
 ·refine wpAny_passesOwn hp (thn (T.done X rfl rfl rfl hc i pins s3 σ3 H3 X.xe I3 (stat fr3) st3 stop) fun r s4 ⟨hr,I4⟩=> ?_)
  subst hr
  exact wpAny_execs_nil ⟨σ3,H3,I4,qn⟩
 ·refine wpAny_passesOwn hp (thn (T.item X rfl rfl rfl hc i pins s3 σ3 H3 X.xe I3 (stat fr3) st3 go) fun r s4 ⟨u,hr,h4⟩=> ?_)
  subst hr
  refine wpAny_passesOwn hp (thn h4 fun _ s5 ⟨x,H5,I5,r5,y5,st5,fr5⟩=> ?_)
  have I5':=I5.pinned (stat fr5) (T.obj _ _ st5)
  refine wpAny_passesOwn hp (thn (hg _ s5 σ3 H5 x u _ I5' r5 (step x H5 y5)) fun _ s6 ⟨σ6,H6,I6,q6⟩=> ?_)
  refine wpAny_passesOwn hp (thn (hb _ s6 σ6 H6 _ I6 q6) fun f s7 q7=> ?_)
  have again:∀{σ7:St} {H7:Hp},Inv X (pins++pinsAt fp s5.heap) σ7 H7 s7->N σ7 H7->∃m,m<n/\∃i σ' H',Inv X pins σ' H' s7/\tn i s7.heap/\(∀b∈fp,H' b=none)/\W i m σ' H':=fun{σ7 H7} I7 n7=>by
   obtain⟨m',hm,w7⟩:=hN σ7 H7 n7
   refine⟨m',hm,i+1,σ7,H7,I7.unpinned,T.keep _ _ _ st5 fun b hb o e=>(I7.pin (b,o) (List.mem_append_right _ (List.mem_append_right _ (zdc hb e)))).1,fun b hb=> ?_,w7⟩
   obtain⟨o,e,d⟩:=T.obj _ _ st5 b hb
   exact(I7.pin (b,o) (List.mem_append_right _ (List.mem_append_right _ (zdc hb e)))).2.1
  cases f with
  |next=>obtain⟨σ7,H7,I7,n7⟩:=q7;exact again I7 n7
  |cont=>obtain⟨σ7,H7,I7,n7⟩:=q7;exact again I7 n7
  |brk=>obtain⟨σ7,H7,I7,q7⟩:=q7;exact⟨σ7,H7,I7.unpinned,q7⟩
  |ret v=>obtain⟨x7,σ7,H7,I7,r7,q7⟩:=q7;exact⟨x7,σ7,H7,I7.unpinned,r7,q7⟩
end
theorem for_list{K:W.Frag}{a:Addr}{xs:List V}{g:TG}{tb:TS}{D:Ends}{σ:St}{H:Hp}(Pv:Nat->St->Hp->Prop)(h0:Pv 0 σ H)(hl:∀i σ H,i<=xs.length->Pv i σ H->SqL K H a xs)(hs:∀i x σ H,xs[i]? =some x->Pv i σ H->g x σ H fun σ2 H2=>tb {D with nx:=Pv (i+1),ct:=Pv (i+1),bk:=D.nx} σ2 H2)(hd:∀σ H,Pv xs.length σ H->D.nx σ H):
  ∃W:Nat->Nat->St->Hp->Prop,(∃m,W 0 m σ H)/\∀i m σ H,W i m σ H->
   ((Itl K a).stop i H/\D.nx σ H)\/((Itl K a).go i H/\∃N:St->Hp->Prop,(∀σ' H',N σ' H'->∃m',m'<m/\W (i+1) m' σ' H')/\∀x H',(Itl K a).yld i H x H'->g x σ H' fun σ2 H2=>tb {D with nx:=N,ct:=N,bk:=D.nx} σ2 H2):=by
 refine⟨fun i m σ H=>m=xs.length-i/\i<=xs.length/\Pv i σ H,⟨xs.length,by simp,Nat.zero_le _,h0⟩,?_⟩
 rintro i m σ H ⟨rfl,hi,p⟩
 have q:=hl i σ H hi p
 by_cases hlt:i<xs.length
 ·refine .inr ⟨⟨xs,xs[i],q,by simp[hlt]⟩,Pv (i+1),fun σ' H' p'=>⟨xs.length-(i+1),by omega,rfl,hlt,p'⟩,fun x H' y=> ?_⟩
  obtain⟨e,y⟩:=y
  subst e
  exact hs i x σ _ (y xs q) p
 ·have e:i=xs.length:=by omega
  subst e
  exact .inl ⟨⟨xs,q,Nat.le_refl _⟩,hd σ H p⟩
theorem for_tup{K:W.Frag}{a:Addr}{xs:List V}{g:TG}{tb:TS}{D:Ends}{σ:St}{H:Hp}(Pv:Nat->St->Hp->Prop)(h0:Pv 0 σ H)(hl:∀i σ H,i<=xs.length->Pv i σ H->SqT K H a xs)(hs:∀i x σ H,xs[i]? =some x->Pv i σ H->g x σ H fun σ2 H2=>tb {D with nx:=Pv (i+1),ct:=Pv (i+1),bk:=D.nx} σ2 H2)(hd:∀σ H,Pv xs.length σ H->D.nx σ H):
  ∃W:Nat->Nat->St->Hp->Prop,(∃m,W 0 m σ H)/\∀i m σ H,W i m σ H->
   ((Itt K a).stop i H/\D.nx σ H)\/((Itt K a).go i H/\∃N:St->Hp->Prop,(∀σ' H',N σ' H'->∃m',m'<m/\W (i+1) m' σ' H')/\∀x H',(Itt K a).yld i H x H'->g x σ H' fun σ2 H2=>tb {D with nx:=N,ct:=N,bk:=D.nx} σ2 H2):=by
 refine⟨fun i m σ H=>m=xs.length-i/\i<=xs.length/\Pv i σ H,⟨xs.length,by simp,Nat.zero_le _,h0⟩,?_⟩
 rintro i m σ H ⟨rfl,hi,p⟩
 have q:=hl i σ H hi p
 by_cases hlt:i<xs.length
 ·refine .inr ⟨⟨xs,xs[i],q,by simp[hlt]⟩,Pv (i+1),fun σ' H' p'=>⟨xs.length-(i+1),by omega,rfl,hlt,p'⟩,fun x H' y=> ?_⟩
  obtain⟨e,y⟩:=y
  subst e
  exact hs i x σ _ (y xs q) p
 ·have e:i=xs.length:=by omega
  subst e
  exact .inl ⟨⟨xs,q,Nat.le_refl _⟩,hd σ H p⟩
theorem zcq{lo:Int}{n:Nat}{g:TG}{tb:TS}{D:Ends}{σ:St}{H:Hp}(Pv:Nat->St->Hp->Prop)(h0:Pv 0 σ H)(hs:∀i σ H,i<n->Pv i σ H->g (.int (lo+i)) σ H fun σ2 H2=>tb {D with nx:=Pv (i+1),ct:=Pv (i+1),bk:=D.nx} σ2 H2)(hd:∀σ H,Pv n σ H->D.nx σ H):
  ∃W:Nat->Nat->St->Hp->Prop,(∃m,W 0 m σ H)/\∀i m σ H,W i m σ H->
   ((Itr lo n).stop i H/\D.nx σ H)\/((Itr lo n).go i H/\∃N:St->Hp->Prop,(∀σ' H',N σ' H'->∃m',m'<m/\W (i+1) m' σ' H')/\∀x H',(Itr lo n).yld i H x H'->g x σ H' fun σ2 H2=>tb {D with nx:=N,ct:=N,bk:=D.nx} σ2 H2):=by
 refine⟨fun i m σ H=>m=n-i/\i<=n/\Pv i σ H,⟨n,by simp,Nat.zero_le _,h0⟩,?_⟩
 rintro i m σ H ⟨rfl,hi,p⟩
 by_cases hlt:i<n
 ·refine .inr ⟨hlt,Pv (i+1),fun σ' H' p'=>⟨n-(i+1),by omega,rfl,hlt,p'⟩,fun x H' y=> ?_⟩
  obtain⟨e,y⟩:=y
  subst e y
  exact hs i σ _ hlt p
 ·have e:i=n:=by omega
  subst e
  exact .inl ⟨Nat.le_refl _,hd σ H p⟩
end L2
namespace L2
open PySem PySem.Spec PyProof.Rows
noncomputable abbrev R2:=V->V->Hp->VK->Prop
noncomputable def OpR(X:Cx)(f:Value->Value->Sem Value)(r:R2):Prop:=
 ∀(pins:List (Addr×Obj)) (s:Shared) (σ:St) (H:Hp) (x y:V) (v u:Value) (Q:VK),Inv X pins σ H s->RelV x v->RelV y u->r x y H Q->
  wpAny (model X.prog X.w) X.A (f v u) (EP X pins σ Q) X.xe s
noncomputable def UnR(X:Cx)(f:Value->Sem Value)(r:V->Hp->VK->Prop):Prop:=
 ∀(pins:List (Addr×Obj)) (s:Shared) (σ:St) (H:Hp) (x:V) (v:Value) (Q:VK),Inv X pins σ H s->RelV x v->r x H Q->
  wpAny (model X.prog X.w) X.A (f v) (EP X pins σ Q) X.xe s
noncomputable def CallR(X:Cx)(f:Value)(r:List V->Hp->VK->Prop):Prop:=
 ∀(pins:List (Addr×Obj)) (s:Shared) (σ:St) (H:Hp) (xs:List V) (us:List Value) (Q:VK),Inv X pins σ H s->Vals xs us->r xs H Q->
  wpAny (model X.prog X.w) X.A (call f us) (EP X pins σ Q) X.xe s
noncomputable def TruR(X:Cx)(r:V->Hp->(Bool->Hp->Prop)->Prop):Prop:=
 ∀(pins:List (Addr×Obj)) (s:Shared) (σ:St) (H:Hp) (x:V) (v:Value) (Q:Bool->Hp->Prop),Inv X pins σ H s->RelV x v->r x H Q->
  wpAny (model X.prog X.w) X.A (truthy v) (TP X pins σ Q) X.xe s
noncomputable def tOp(r:R2)(ta tb:TE):TE:=fun σ H Q=>ta σ H fun x H1=>tb σ H1 fun y H2=>r x y H2 Q
noncomputable def tUn(r:V->Hp->VK->Prop)(ta:TE):TE:=fun σ H Q=>ta σ H fun x H1=>r x H1 Q
noncomputable def rI(C:Int->Int->Prop)(g:Int->Int->V):R2:=fun x y H Q=>∃i j,x= .int i/\y= .int j/\C i j/\Q (g i j) H
noncomputable def rI0(g:Int->Int->V):R2:=fun x y H Q=>∃i j,x= .int i/\y= .int j/\Q (g i j) H
noncomputable def rU(g:Int->V):V->Hp->VK->Prop:=fun x H Q=>∃i,x= .int i/\Q (g i) H
section
variable{X:Cx}{a b c:Expr}{ta tb tc:TE}{pos:Pos}
theorem binT(ha:PE X a ta)(hb:PE X b tb){pins:List (Addr×Obj)}{s:Shared}{σ:St}{H:Hp}{R:V->V->Hp->Prop}(I:Inv X pins σ H s)(h:ta σ H fun x H1=>tb σ H1 fun y H2=>R x y H2){Q:Value->Shared->Prop}{f:Value->Value->Sem Value}(hf:∀v u s2 x y H2,Inv X pins σ H2 s2->RelV x v->RelV y u->R x y H2->wpAny (model X.prog X.w) X.A (f v u) Q X.xe s2):
  wpAny (model X.prog X.w) X.A (eval a X.env) (fun v s₁=>wpAny (model X.prog X.w) X.A (eval b X.env) (fun u s₂=>wpAny (model X.prog X.w) X.A (f v u) Q X.xe s₂) X.xe s₁) X.xe s:=by
 refine thn (ha pins s σ H _ I h) fun v s1 ⟨x,H1,I1,r1,q1⟩=> ?_
 refine thn (hb pins s1 σ H1 _ I1 q1) fun u s2 ⟨y,H2,I2,r2,q2⟩=> ?_
 exact hf v u s2 x y H2 I2 r1 r2 q2
theorem zan{op:Operator}{r:R2}(ho:OpR X (binaryOp op) r)(ha:PE X a ta)(hb:PE X b tb):PE X (.BinOp a op b pos) (tOp r ta tb):=by
 intro pins s σ H Q I h
 exact wpAny_BinOp (binT ha hb I h fun v u s2 x y H2 I2 rx ry q=>ho pins s2 σ H2 x y v u Q I2 rx ry q)
theorem pe_un{op:UnaryOp}{r:V->Hp->VK->Prop}(ho:UnR X (unaryOp op) r)(ha:PE X a ta):PE X (.UnaryOp op a pos) (tUn r ta):=by
 intro pins s σ H Q I h
 exact UnaryOp_ (thn (ha pins s σ H _ I h) fun v s1 ⟨x,H1,I1,r1,q1⟩=>ho pins s1 σ H1 x v Q I1 r1 q1)
theorem opI{f:Value->Value->Sem Value}{C:Int->Int->Prop}{g:Int->Int->Int}(rule:∀(i j:Int) (t u:Tok) (s:Shared) (Q:Value->Shared->Prop) (E:Value->Shared->Prop),C i j->Q (.int (g i j) s.toks) {s with toks:=s.toks+1}->wpAny (model X.prog X.w) X.A (f (.int i t) (.int j u)) Q E s):
  OpR X f (rI C fun i j=> .int (g i j)):=by
 intro pins s σ H x y v u Q I rx ry h
 obtain⟨i,j,rfl,rfl,hc,q⟩:=h
 obtain⟨t,rfl⟩:=rx
 obtain⟨t',rfl⟩:=ry
 exact rule i j t t' s _ _ hc ⟨.int (g i j),H,I.tok _,⟨_,rfl⟩,q⟩
theorem opI0{f:Value->Value->Sem Value}{g:Int->Int->Int}(rule:∀(i j:Int) (t u:Tok) (s:Shared) (Q:Value->Shared->Prop) (E:Value->Shared->Prop),Q (.int (g i j) s.toks) {s with toks:=s.toks+1}->wpAny (model X.prog X.w) X.A (f (.int i t) (.int j u)) Q E s):
  OpR X f (rI0 fun i j=> .int (g i j)):=by
 intro pins s σ H x y v u Q I rx ry h
 obtain⟨i,j,rfl,rfl,q⟩:=h
 obtain⟨t,rfl⟩:=rx
 obtain⟨t',rfl⟩:=ry
 exact rule i j t t' s _ _ ⟨.int (g i j),H,I.tok _,⟨_,rfl⟩,q⟩
theorem opB0{f:Value->Value->Sem Value}{g:Int->Int->Bool}(rule:∀(i j:Int) (t u:Tok) (s:Shared) (Q:Value->Shared->Prop) (E:Value->Shared->Prop),Q (.bool (g i j)) s->wpAny (model X.prog X.w) X.A (f (.int i t) (.int j u)) Q E s):
  OpR X f (rI0 fun i j=> .bl (g i j)):=by
 intro pins s σ H x y v u Q I rx ry h
 obtain⟨i,j,rfl,rfl,q⟩:=h
 obtain⟨t,rfl⟩:=rx
 obtain⟨t',rfl⟩:=ry
 exact rule i j t t' s _ _ ⟨.bl (g i j),H,I,rfl,q⟩
noncomputable def CDiv(i j:Int):Prop:=0<j/\j<1073741824
noncomputable def CPow(i j:Int):Prop:=0<=j/\j<=1000000/\i.natAbs<2^64
noncomputable def CMul(i j:Int):Prop:=(-(2^64)<i/\i<2^64)\/(-(2^64)<j/\j<2^64)
theorem CMul.ok{i j:Int}(h:CMul i j):IntMulOk i j:=by
 rcases h with⟨h1,h2⟩|⟨h1,h2⟩
 ·exact .of_left (intBits_le_64 h1 h2)
 ·exact .of_right (intBits_le_64 h1 h2)
theorem zbr:OpR X (binaryOp .Add) (rI0 fun i j=> .int (i+j)):=opI0 fun _ _ _ _ _ _ _ q=>add_int q
theorem op_sub:OpR X (binaryOp .Sub) (rI0 fun i j=> .int (i-j)):=opI0 fun _ _ _ _ _ _ _ q=>sub_int q
theorem zdj:OpR X (binaryOp .Mult) (rI CMul fun i j=> .int (i*j)):=opI fun _ _ _ _ _ _ _ hc q=>mul_int q hc.ok
theorem op_fdiv:OpR X (binaryOp .FloorDiv) (rI CDiv fun i j=> .int (i/j)):=opI fun i j _ _ _ _ _ hc q=>by
 have h1:(0:Int)<j:=hc.1
 have h2:j<1073741824:=hc.2
 exact floordiv_int (by omega) (by rw[Int.fdiv_eq_ediv_of_nonneg i (by omega)];exact q) (.inl (PyProof.noPylong_small (by omega)))
theorem op_mod:OpR X (binaryOp .Mod) (rI (fun _ j=>0<j) fun i j=> .int (i %j)):=opI fun i j _ _ _ _ _ hc q=>by
 have h1:(0:Int)<j:=hc
 exact mod_int' (by omega) (by rw[Int.fmod_eq_emod_of_nonneg i (by omega)];exact q)
theorem op_pow:OpR X (binaryOp .Pow) (rI CPow fun i j=> .int (i^j.toNat)):=opI fun _ _ _ _ _ _ _ hc q=>pow_int_small hc.1 hc.2.1 hc.2.2 q
theorem unI{f:Value->Sem Value}{g:Int->Int}(rule:∀(i:Int) (t:Tok) (s:Shared) (Q:Value->Shared->Prop) (E:Value->Shared->Prop),Q (.int (g i) s.toks) {s with toks:=s.toks+1}->wpAny (model X.prog X.w) X.A (f (.int i t)) Q E s):
  UnR X f (rU fun i=> .int (g i)):=by
 intro pins s σ H x v Q I rx h
 obtain⟨i,rfl,q⟩:=h
 obtain⟨t,rfl⟩:=rx
 exact rule i t s _ _ ⟨.int (g i),H,I.tok _,⟨_,rfl⟩,q⟩
theorem un_neg:UnR X (unaryOp .USub) (rU fun i=> .int (-i)):=unI fun _ _ _ _ _ q=>neg_int q
end
noncomputable def scal:V->V->Bool
 | .non,.non=>true| .non,.int _=>true| .int _,.non=>true| .non,.bl _=>true| .bl _,.non=>true| .non,.str _=>true| .str _,.non=>true
 | .int _,.int _=>true| .bl _,.bl _=>true| .str _,.str _=>true| .byt _,.byt _=>true
 | .int _,.str _=>true| .str _,.int _=>true| .bl _,.str _=>true| .str _,.bl _=>true
 |_,_=>false
noncomputable def rEq:R2:=fun x y H Q=>scal x y=true/\Q (.bl (decide (x=y))) H
noncomputable def rNe:R2:=fun x y H Q=>scal x y=true/\Q (.bl (!decide (x=y))) H
theorem dec_int{i j:Int}:decide (V.int i=V.int j)=(i==j):=by
 rw[Bool.eq_iff_iff]
 simp
theorem dec_bl{i j:Bool}:decide (V.bl i=V.bl j)=(i==j):=by
 rw[Bool.eq_iff_iff]
 simp
theorem dec_str{i j:Str}:decide (V.str i=V.str j)=(i==j):=by
 rw[Bool.eq_iff_iff]
 simp
theorem dec_byt{i j:Array UInt8}:decide (V.byt i=V.byt j)=(i.toList==j.toList):=by
 rw[Bool.eq_iff_iff]
 cases i
 cases j
 simp
section
variable{X:Cx}{a b c:Expr}{ta tb tc:TE}{pos:Pos}
theorem zbq{pins:List (Addr×Obj)}{σ:St}{H:Hp}{s:Shared}{Q:VK}{k k':Bool}(I:Inv X pins σ H s)(q:Q (.bl k) H)(e:k=k'):EP X pins σ Q (.bool k') s:=by
 subst e
 exact⟨.bl k,H,I,rfl,q⟩
theorem op_eq:OpR X (compareOp .Eq) rEq:=by
 intro pins s σ H x y v u Q I rx ry h
 obtain⟨hs,q⟩:=h
 cases x with
 |non=>
  cases rx
  cases y with
  |non=>cases ry;exact PySem.EqNone.eq_none_none (zbq I q (by simp))
  |bl j=>cases ry;exact PySem.EqNone.eq_none_bool (zbq I q (by simp))
  |int j=>obtain⟨t',rfl⟩:=ry;exact PySem.EqNone.eq_none_int (zbq I q (by simp))
  |str j=>obtain⟨t',rfl⟩:=ry;exact PySem.EqNone.eq_none_str (zbq I q (by simp))
  |_=>exact absurd (show false=true from hs) Bool.false_ne_true
 |bl i=>
  cases rx
  cases y with
  |non=>cases ry;exact PySem.EqNone.eq_bool_none (zbq I q (by simp))
  |bl j=>cases ry;exact eq_bool (zbq I q dec_bl)
  |str j=>obtain⟨t',rfl⟩:=ry;exact PySem.EqMixed.eq_bool_str (zbq I q (by simp))
  |_=>exact absurd (show false=true from hs) Bool.false_ne_true
 |int i=>
  obtain⟨t,rfl⟩:=rx
  cases y with
  |non=>cases ry;exact PySem.EqNone.eq_int_none (zbq I q (by simp))
  |int j=>obtain⟨t',rfl⟩:=ry;exact eq_int (zbq I q dec_int)
  |str j=>obtain⟨t',rfl⟩:=ry;exact PySem.EqMixed.eq_int_str (zbq I q (by simp))
  |_=>exact absurd (show false=true from hs) Bool.false_ne_true
 |str i=>
  obtain⟨t,rfl⟩:=rx
  cases y with
  |non=>cases ry;exact PySem.EqNone.eq_str_none (zbq I q (by simp))
  |bl j=>cases ry;exact PySem.EqMixed.eq_str_bool (zbq I q (by simp))
  |int j=>obtain⟨t',rfl⟩:=ry;exact PySem.EqMixed.eq_str_int (zbq I q (by simp))
  |str j=>obtain⟨t',rfl⟩:=ry;exact eq_str (zbq I q dec_str)
  |_=>exact absurd (show false=true from hs) Bool.false_ne_true
 |byt i=>
  obtain⟨t,rfl⟩:=rx
  cases y with
  |byt j=>obtain⟨t',rfl⟩:=ry;exact PySem.W.eq_bytes (zbq I q dec_byt)
  |_=>exact absurd (show false=true from hs) Bool.false_ne_true
 |_=>cases y<;>exact absurd (show false=true from hs) Bool.false_ne_true
theorem op_ne:OpR X (compareOp .NotEq) rNe:=by
 intro pins s σ H x y v u Q I rx ry h
 obtain⟨hs,q⟩:=h
 cases x with
 |non=>
  cases rx
  cases y with
  |non=>cases ry;exact PySem.EqNone.ne_none_none (zbq I q (by simp))
  |bl j=>cases ry;exact PySem.EqNone.ne_none_bool (zbq I q (by simp))
  |int j=>obtain⟨t',rfl⟩:=ry;exact PySem.EqNone.ne_none_int (zbq I q (by simp))
  |str j=>obtain⟨t',rfl⟩:=ry;exact PySem.EqNone.ne_none_str (zbq I q (by simp))
  |_=>exact absurd (show false=true from hs) Bool.false_ne_true
 |bl i=>
  cases rx
  cases y with
  |non=>cases ry;exact PySem.EqNone.ne_bool_none (zbq I q (by simp))
  |bl j=>cases ry;exact ne_bool (zbq I q (congrArg not dec_bl))
  |str j=>obtain⟨t',rfl⟩:=ry;exact PySem.EqMixed.ne_bool_str (zbq I q (by simp))
  |_=>exact absurd (show false=true from hs) Bool.false_ne_true
 |int i=>
  obtain⟨t,rfl⟩:=rx
  cases y with
  |non=>cases ry;exact PySem.EqNone.ne_int_none (zbq I q (by simp))
  |int j=>obtain⟨t',rfl⟩:=ry;exact ne_int (zbq I q (congrArg not dec_int))
  |str j=>obtain⟨t',rfl⟩:=ry;exact PySem.EqMixed.ne_int_str (zbq I q (by simp))
  |_=>exact absurd (show false=true from hs) Bool.false_ne_true
 |str i=>
  obtain⟨t,rfl⟩:=rx
  cases y with
  |non=>cases ry;exact PySem.EqNone.ne_str_none (zbq I q (by simp))
  |bl j=>cases ry;exact PySem.EqMixed.ne_str_bool (zbq I q (by simp))
  |int j=>obtain⟨t',rfl⟩:=ry;exact PySem.EqMixed.ne_str_int (zbq I q (by simp))
  |str j=>obtain⟨t',rfl⟩:=ry;exact ne_str (zbq I q (congrArg not dec_str))
  |_=>exact absurd (show false=true from hs) Bool.false_ne_true
 |byt i=>
  obtain⟨t,rfl⟩:=rx
  cases y with
  |byt j=>obtain⟨t',rfl⟩:=ry;exact PySem.W.ne_bytes (zbq I q (congrArg not dec_byt))
  |_=>exact absurd (show false=true from hs) Bool.false_ne_true
 |_=>cases y<;>exact absurd (show false=true from hs) Bool.false_ne_true
theorem op_lt:OpR X (compareOp .Lt) (rI0 fun i j=> .bl (decide (i<j))):=opB0 fun _ _ _ _ _ _ _ q=>lt_int q
theorem op_le:OpR X (compareOp .LtE) (rI0 fun i j=> .bl (decide (i<=j))):=opB0 fun _ _ _ _ _ _ _ q=>le_int q
theorem op_gt:OpR X (compareOp .Gt) (rI0 fun i j=> .bl (decide (j<i))):=opB0 fun _ _ _ _ _ _ _ q=>gt_int q
theorem op_ge:OpR X (compareOp .GtE) (rI0 fun i j=> .bl (decide (j<=i))):=opB0 fun _ _ _ _ _ _ _ q=>ge_int q
theorem op_notN:OpR X (compareOp .IsNot) (fun x y H Q=>y= .non/\Q (.bl (!decide (x= .non))) H):=by
 intro pins s σ H x y v u Q I rx ry h
 obtain⟨rfl,q⟩:=h
 cases ry
 refine isnot_none_gen (zbq I q ?_)
 cases x<;>first
  |(cases rx;rfl)
  |(obtain⟨t,rfl⟩:=rx;rfl)
theorem OpR.or{f:Value->Value->Sem Value}{r r':R2}(h:OpR X f r)(h':OpR X f r'):OpR X f (fun x y H Q=>r x y H Q\/r' x y H Q):=by
 intro pins s σ H x y v u Q I rx ry q
 rcases q with q|q
 ·exact h pins s σ H x y v u Q I rx ry q
 ·exact h' pins s σ H x y v u Q I rx ry q
theorem nomark(b:Expr){op:CmpOp}(h:op≠.In:=by decide)(h2:op≠.NotIn:=by decide):behindInMarks op b=false:=by
 have e1:(op==CmpOp.In)=false:=by cases op<;>first |rfl|exact absurd rfl h
 have e2:(op==CmpOp.NotIn)=false:=by cases op<;>first |rfl|exact absurd rfl h2
 cases b<;>simp[behindInMarks,e1,e2]
theorem pe_cmpR{op:CmpOp}{r:R2}(ho:OpR X (compareOp op) r)(ha:PE X a ta)(hb:PE X b tb)(hm:behindInMarks op b=false):PE X (.Compare a [op] [b] pos) (tOp r ta tb):=by
 intro pins s σ H Q I h
 exact wpAny_Compare1 (binT ha hb I h fun v u s2 x y H2 I2 rx ry q=>ho pins s2 σ H2 x y v u Q I2 rx ry q) hm
noncomputable def tTest(t:TE):TT:=fun σ H Q=>t σ H fun x H'=>∃k,x= .bl k/\Q k H'
theorem zaq{op:CmpOp}{r:R2}(ho:OpR X (compareOp op) r)(ha:PE X a ta)(hb:PE X b tb)(hm:behindInMarks op b=false):PT X (.Compare a [op] [b] pos) (tTest (tOp r ta tb)):=by
 intro pins s σ H Q I h
 refine wpAny_isTrue_Compare1 (thn (ha pins s σ H _ I h) fun v s1 ⟨x,H1,I1,r1,q1⟩=>thn (hb pins s1 σ H1 _ I1 q1) fun u s2 ⟨y,H2,I2,r2,q2⟩=>
  thn (ho pins s2 σ H2 x y v u _ I2 r1 r2 q2) fun c s3 ⟨z,H3,I3,r3,k,e,q3⟩=> ?_) hm
 subst e
 cases r3
 exact wpAny_truthy_bool ⟨H3,I3,q3⟩
noncomputable def tChain(r r':R2)(ta tb tc:TE):TE:=fun σ H Q=>ta σ H fun x H1=>tb σ H1 fun y H2=>r x y H2 fun z H3=>∃k,z= .bl k/\
 (if k=true then tc σ H3 fun w' H4=>r' y w' H4 Q else Q (.bl false) H3)
theorem pe_chain{op op':CmpOp}{r r':R2}(ho:OpR X (compareOp op) r)(ho':OpR X (compareOp op') r')(ha:PE X a ta)(hb:PE X b tb)(hc:PE X c tc)(hm:lastMarks [op,op'] [b,c]=false:=by with_unfolding_all rfl):PE X (.Compare a [op,op'] [b,c] pos) (tChain r r' ta tb tc):=by
 intro pins s σ H Q I h
 refine Compare_chain (thn (ha pins s σ H _ I h) fun v s1 ⟨x,H1,I1,r1,q1⟩=>chain_link (thn (hb pins s1 σ H1 _ I1 q1) fun u s2 ⟨y,H2,I2,r2,q2⟩=>
  thn (ho pins s2 σ H2 x y v u _ I2 r1 r2 q2) fun d s3 ⟨z,H3,I3,r3,k,e,q3⟩=> ?_)) hm
 subst e
 cases r3
 refine wpAny_truthy_bool ?_
 cases k with
 |false=>exact ite_ff ⟨.bl false,H3,I3,rfl,q3⟩
 |true=>exact ite_tt (chain_last (thn (hc pins s3 σ H3 _ I3 q3) fun w' s4 ⟨z',H4,I4,r4,q4⟩=>ho' pins s4 σ H4 y z' u w' Q I4 r2 r4 q4))
noncomputable def TruV(K:W.Frag)(x:V)(H:Hp)(k:Bool):Prop:=
 match x with
 | .non=>k=false
 | .bl b=>k=b
 | .int i=>k=(i !=0)
 | .str y=>y.length<=sizeLine/\k=((y.length:Int) !=0)
 | .byt y=>y.size<=sizeLine/\k=((y.size:Int) !=0)
 | .ref p=>(∃xs,SqL K H p xs/\k= !xs.isEmpty)\/(∃xs,SqT K H p xs/\k= !xs.isEmpty)\/∃kvs,H p=some (.dK kvs)/\k= !kvs.isEmpty
 |_=>False
theorem isEmpty_kv{κ:Type}{kvs:List (κ×V)}{vs:List (κ×Value)}(r:KV kvs vs):(!vs.isEmpty)= !kvs.isEmpty:=by
 cases r<;>rfl
theorem isEmpty_of{xs:List V}{its:List Value}(r:Vals xs its):(!its.toArray.isEmpty)= !xs.isEmpty:=by
 cases r<;>simp
theorem line63:(sizeLine:Nat)<2^63:=by rw[sizeLine_eq];decide
theorem tru_ok:TruR X (fun x H Q=>∃k,TruV X.K x H k/\Q k H):=by
 intro pins s σ H x v Q I rx h
 obtain⟨k,e,q⟩:=h
 have hl:=line63
 have hs:sizeLine=16777216:=sizeLine_eq
 cases x with
 |non=>
  cases rx
  have e':k=false:=e
  subst e'
  exact truthy_none ⟨H,I,q⟩
 |bl b=>
  cases rx
  have e':k=b:=e
  subst e'
  exact wpAny_truthy_bool ⟨H,I,q⟩
 |int i=>
  obtain⟨t,rfl⟩:=rx
  have e':k=(i !=0):=e
  subst e'
  exact PySem.P.truthy_int ⟨H,I,q⟩
 |str y=>
  obtain⟨t,rfl⟩:=rx
  obtain⟨hy,e'⟩:y.length<=sizeLine/\k=((y.length:Int) !=0):=e
  subst e'
  exact PySem.P.truthy_str (by omega) ⟨H,I.tok _,q⟩
 |byt y=>
  obtain⟨t,rfl⟩:=rx
  obtain⟨hy,e'⟩:y.size<=sizeLine/\k=((y.size:Int) !=0):=e
  subst e'
  exact PySem.W.truthy_bytes (by omega) ⟨H,I.tok _,q⟩
 |ref p=>
  cases rx
  have e':(∃xs,SqL X.K H p xs/\k= !xs.isEmpty)\/(∃xs,SqT X.K H p xs/\k= !xs.isEmpty)\/∃kvs,H p=some (.dK kvs)/\k= !kvs.isEmpty:=e
  rcases e' with⟨xs,hx,e'⟩|⟨xs,hx,e'⟩|⟨kvs,hx,e'⟩
  ·subst e'
   obtain⟨its,r,pl,hz⟩:=I.list hx
   have hlen:=r.length
   exact wpAny_truthy_list pl.isList (by simp only[List.size_toArray];omega) ⟨H,I.tok _,by rw[isEmpty_of r];exact q⟩
  ·subst e'
   obtain⟨its,r,pl,hz⟩:=I.tuple hx
   have hlen:=r.length
   exact truthy_tuple pl (by simp only[List.size_toArray];omega) ⟨H,I.tok _,by rw[isEmpty_of r];exact q⟩
  ·subst e'
   obtain⟨hz,hS,vs,r,m⟩:kvs.length<=sizeLine/\(p==sysModules)=false/\∃vs,KV kvs vs/\s.heap.DictOf (mixKind X.prog X.w) p vs:=I.hok p _ hx
   have hlen:kvs.length=vs.length:=Paired.length r
   exact wpAny_truthy_dict hS m (by omega) ⟨H,I.tok _,by rw[isEmpty_kv r];exact q⟩
 |_=>exact(show False from e).elim
theorem pt_truth(ha:PE X a ta)(he:∀whole,isTrue a X.env whole=(do let v<-whole;standAt a.pos;holding [v] (truthy v))):
  PT X a (fun σ H Q=>ta σ H fun x H'=>∃k,TruV X.K x H' k/\Q k H'):=by
 intro pins s σ H Q I h
 exact isTrue_plain (thn (ha pins s σ H _ I h) fun v s1 ⟨x,H1,I1,r1,q1⟩=>tru_ok pins s1 σ H1 x v Q I1 r1 q1) (he _)
theorem vals1{x:V}{us:List Value}(r:Vals [x] us):∃u,us=[u]/\RelV x u:=by
 cases r with
 |cons r1 r2=>cases r2;exact⟨_,rfl,r1⟩
theorem vals2{x y:V}{us:List Value}(r:Vals [x,y] us):∃u w',us=[u,w']/\RelV x u/\RelV y w':=by
 cases r with
 |cons r1 r2=>
  cases r2 with
  |cons r3 r4=>cases r4;exact⟨_,_,rfl,r1,r3⟩
theorem call_abs:CallR X (.builtin "abs") (fun xs H Q=>∃i,xs=[.int i]/\Q (.int (if i<0 then -i else i)) H):=by
 intro pins s σ H xs us Q I r h
 obtain⟨i,rfl,q⟩:=h
 obtain⟨u,rfl,t,rfl⟩:=vals1 r
 exact call_abs_int fun u tk=>⟨.int (if i<0 then -i else i),H,I.tok _,⟨_,rfl⟩,q⟩
theorem call_max2(hc:X.calm=true):CallR X (.builtin "max") (fun xs H Q=>∃i j,xs=[.int i,.int j]/\Q (.int (if j>i then j else i)) H):=by
 intro pins s σ H xs us Q I r h
 obtain⟨i,j,rfl,q⟩:=h
 obtain⟨u,w',rfl,⟨t,rfl⟩,⟨t',rfl⟩⟩:=vals2 r
 refine max_two_ints (I.ok.hd hc) fun h' tk k=>⟨_,H,I.kept k,?_,q⟩
 by_cases hj:j>i
 ·rw[if_pos hj,if_pos hj];exact⟨_,rfl⟩
 ·rw[if_neg hj,if_neg hj];exact⟨_,rfl⟩
theorem call_min2(hc:X.calm=true):CallR X (.builtin "min") (fun xs H Q=>∃i j,xs=[.int i,.int j]/\Q (.int (if j<i then j else i)) H):=by
 intro pins s σ H xs us Q I r h
 obtain⟨i,j,rfl,q⟩:=h
 obtain⟨u,w',rfl,⟨t,rfl⟩,⟨t',rfl⟩⟩:=vals2 r
 refine min_two_ints (I.ok.hd hc) fun h' tk k=>⟨_,H,I.kept k,?_,q⟩
 by_cases hj:j<i
 ·rw[if_pos hj,if_pos hj];exact⟨_,rfl⟩
 ·rw[if_neg hj,if_neg hj];exact⟨_,rfl⟩
end
end L2
namespace L2
open PySem PySem.Spec PyProof.Rows
section
variable{prog:Program}{w:World}{A:Around}{E:Value->Shared->Prop}{s:Shared}{K:W.Frag}{x dx C f:Addr}{mA:Str->Option Value}{name:Str}{v:Value}
end
section
variable{P:Program}{w:World}{H H':Hp}{h h':Heap}{a C dx:Addr}{fs fs':List (Str×V)}
end
structure Cls(K:W.Frag)(C:Addr):Prop where
 pg:PySem.W.plainGet K C Str.empty=true
 hd:PySem.W.hasDictIn K C=true
 po:PySem.W.plainOver K C=true
 sa:PySem.W.findIn K (.ref C) "__setattr__"=some (some (.builtin "object.__setattr__"))
theorem Cls.get{K:W.Frag}{C:Addr}(c:Cls K C)(f:Str):PySem.W.plainGet K C f=true:=c.pg
section
variable{X:Cx}{pins:List (Addr×Obj)}{σ:St}{H:Hp}{s:Shared}{a C dx:Addr}{fs:List (Str×V)}{f:Str}{v:V}{A:Around}{E:Value->Shared->Prop}
end
section
variable{X:Cx}{o e value:Expr}{f:Str}{pos pos' tpos:Pos}{ta tv:TE}
end
section
variable{X:Cx}{pins:List (Addr×Obj)}{σ:St}{H:Hp}{s:Shared}{A:Around}{E:Value->Shared->Prop}{Q:Value->Shared->Prop}{c:Value}{b:Bool}
end
end L2
namespace L2
open PySem PySem.Spec PyProof.Rows
structure Room(k:Nat)(A:Around):Prop where
 hd:A.handled=none
 dp:A.depth+3*k+5<recursionLimit
 un:A.units+16*k+200<cLine
 gd:A.guards=some []
theorem Room.mono{j k:Nat}{A:Around}(r:Room k A)(h:j<=k):Room j A:=⟨r.hd,by have:=r.dp;omega,by have:=r.un;omega,r.gd⟩
theorem Room.deeper{k:Nat}{A:Around}(r:Room (k+1) A)(env:Env):Room k (A.deeper env):=
 ⟨r.hd,by have:=r.dp;show A.depth+1+3*k+5<_;omega,by have:=r.un;show A.units+3+16*k+200<_;omega,r.gd⟩
theorem Room.in1{k:Nat}{A:Around}(r:Room (k+1) A):Room k A.in1:=
 ⟨r.hd,by have:=r.dp;show A.depth+3*k+5<_;omega,by have:=r.un;show A.units+1+16*k+200<_;omega,r.gd⟩
theorem Room.depth{k:Nat}{A:Around}(r:Room k A):A.depth<recursionLimit:=by have:=r.dp;omega
theorem Room.units{k:Nat}{A:Around}(r:Room k A):A.units+64<cLine:=by have:=r.un;omega
theorem Room.units0{k:Nat}{A:Around}(r:Room k A):A.units<cLine:=by have:=r.un;omega
noncomputable def tNil:TA:=fun _ H Q=>Q [] H
noncomputable def tCons(ta:TE)(tr:TA):TA:=fun σ H Q=>ta σ H fun x H1=>tr σ H1 fun xs H2=>Q (x::xs) H2
section
variable{X:Cx}{e:Expr}{es:List Expr}{te:TE}{t:TA}{pos:Pos}
theorem zab:PA X [] tNil:=fun _ _ _ _ H Q I h=>Calls.spliced_nil ⟨[],H,I,.nil,h⟩
theorem zaa(ha:PE X e te)(hr:PA X es t)(hs:starEach (e::es) X.env=(false,eval e X.env)::starEach es X.env:=by rfl):PA X (e::es) (tCons te t):=by
 intro pos pins s σ H Q I h
 rw[hs]
 show wpAny _ _ (spliced ((false,eval e X.env)::backTo pos (starEach es X.env))) _ _ s
 refine Calls.spliced_cons (thn (ha pins s σ H _ I h) fun u s1 ⟨x,H1,I1,r1,q1⟩=> ?_)
 exact thn (hr pos pins s1 σ H1 _ I1 q1) fun us s2 ⟨xs,H2,I2,r2,q2⟩=>⟨x::xs,H2,I2,.cons r1 r2,q2⟩
noncomputable def tTup(t:TA):TE:=fun σ H Q=>t σ H fun xs H1=>xs.length<=sizeLine/\∀p,H1 p=none->Q (.ref p) (upd H1 p (.tup xs))
noncomputable def tLst(t:TA):TE:=fun σ H Q=>t σ H fun xs H1=>xs.length<=sizeLine/\∀p,H1 p=none->Q (.ref p) (upd H1 p (.lst xs))
theorem zbk{x1}(h:PA X es t):PE X (.Tuple es x1 pos) (tTup t):=by
 intro pins s σ H Q I hq
 refine wpAny_Tuple_spliced (thn (h pos pins s σ H _ I hq) fun us s1 ⟨xs,H1,I1,r,z,q⟩=>⟨by rw[<-r.length];exact z,?_⟩)
 have hf:H1 s1.heap.objs.size=none:=I1.hok.fresh (Nat.le_refl _)
 refine⟨.ref s1.heap.objs.size,upd H1 s1.heap.objs.size (.tup xs),I1.laid (t':=s1.toks) (fun b u e=>Heap.get?_push_of_some _ e) (Nat.le_refl _) ?_,rfl,q _ hf⟩
 exact⟨z,us,r,⟨_,Heap.get?_push_size _ rfl,rfl,_,rfl⟩⟩
theorem zda(h:PA X es t):PE X (.List es pos) (tLst t):=by
 intro pins s σ H Q I hq
 refine wpAny_List_spliced (thn (h pos pins s σ H _ I hq) fun us s1 ⟨xs,H1,I1,r,z,q⟩=>⟨by rw[<-r.length];exact z,?_⟩)
 have hf:H1 s1.heap.objs.size=none:=I1.hok.fresh (Nat.le_refl _)
 refine⟨.ref s1.heap.objs.size,upd H1 s1.heap.objs.size (.lst xs),I1.laid (t':=s1.toks) (fun b u e=>Heap.get?_push_of_some _ e) (Nat.le_refl _) ?_,rfl,q _ hf⟩
 exact⟨z,us,0,r,Heap.get?_push_size _ rfl⟩
end
noncomputable abbrev Sp:=List V->Hp->VK->XK->Prop
noncomputable abbrev CXT:=List Env->Hp->Shared->XK->Value->Shared->Prop
structure Env0(P:Program)(w:World)(K:W.Frag)(mg:Str->Option Value)(base:Heap)(A:Around)(outer:List Env)(s:Shared)(H:Hp):Prop where
 frames:A.frames=some outer
 mod:Mod K mg base
 bs:∀b o,base.get? b=some o->s.heap.get? b=some o/\H b=none
 bsz:base.objs.size<=s.heap.objs.size
 funs:s.heap.FunFrames base outer
 frf:∀b∈frs outer,H b=none
 hok:HOk P w H s.heap
 bare:AllBare s.gens
noncomputable def CE(outer:List Env)(P:Program)(w:World)(H:Hp)(s:Shared)(Q:VK)(u:Value)(s':Shared):Prop:=
 ∃v H',s'.os=s.os/\AllBare s'.gens/\Un (frs outer) [] H H' s.heap s'.heap/\HOk P w H' s'.heap/\RelV v u/\Q v H'
noncomputable def CR(CX:CXT)(outer:List Env)(P:Program)(w:World)(H:Hp)(s:Shared)(Q:VK)(E:XK)(r:Result)(s':Shared):Prop:=
 match r with
 | .ok (.ret u)=>CE outer P w H s Q u s'
 | .ok _=>False
 | .error e=>CX outer H s E e s'
structure FnOk(P:Program)(w:World)(K:W.Frag)(mg:Str->Option Value)(base:Heap)(CX:CXT)(k:Nat)(f:Addr)(fd:FuncData)(ps:List Str)(sp:Sp):Prop where
 len:∀vs H Q E,sp vs H Q E->vs.length=ps.length
 run:∀(A:Around) (outer:List Env) (s:Shared) (H:Hp) (args:Args) (us:List Value) (vs:List V) (Q:VK) (E:XK),Room k A->Env0 P w K mg base A outer s H->BindsTo s fd args (ps.zip us)->Vals vs us->sp vs H Q E->
  codeAny (model P w) A (.call (.ref f) args) (CR CX outer P w H s Q E) s
theorem FnOk.mono{P:Program}{w:World}{K:W.Frag}{mg:Str->Option Value}{base:Heap}{CX:CXT}{j k:Nat}{f:Addr}{fd:FuncData}{ps:List Str}{sp:Sp}(F:FnOk P w K mg base CX j f fd ps sp)(h:j<=k):
  FnOk P w K mg base CX k f fd ps sp:=⟨F.len,fun A outer s H args us vs Q E hr=>F.run A outer s H args us vs Q E (hr.mono h)⟩
theorem FnOk.imp{P:Program}{w:World}{K:W.Frag}{mg:Str->Option Value}{base:Heap}{CX:CXT}{k:Nat}{f:Addr}{fd:FuncData}{ps:List Str}{sp sp':Sp}(F:FnOk P w K mg base CX k f fd ps sp)(h:∀vs H Q E,sp' vs H Q E->sp vs H Q E):FnOk P w K mg base CX k f fd ps sp':=
 ⟨fun vs H Q E q=>F.len vs H Q E (h _ _ _ _ q),fun A outer s H args us vs Q E hr he hb hv hs=>F.run A outer s H args us vs Q E hr he hb hv (h _ _ _ _ hs)⟩
theorem Env0.in1{P:Program}{w:World}{K:W.Frag}{mg:Str->Option Value}{base:Heap}{A:Around}{outer:List Env}{s:Shared}{H:Hp}(e:Env0 P w K mg base A outer s H):
  Env0 P w K mg base A.in1 outer s H:=⟨e.frames,e.mod,e.bs,e.bsz,e.funs,e.frf,e.hok,e.bare⟩
section
variable{X:Cx}{pins:List (Addr×Obj)}{σ:St}{H:Hp}{s s':Shared}
theorem Inv.env0(I:Inv X pins σ H s):Env0 X.prog X.w X.K X.mg X.base X.A X.stack s H:=
 ⟨I.ok.frames,I.ok.mod,I.bs,Nat.le_trans I.ok.bsz I.sz,I.stack,I.stkFree,I.hok,I.bare⟩
theorem Inv.after{Q:VK}{u:Value}(I:Inv X pins σ H s)(h:CE X.stack X.prog X.w H s Q u s'):EP X pins σ Q u s':=by
 obtain⟨v,H',os,bare,un,hok,r,q⟩:=h
 obtain⟨hh,g,d,t,os'⟩:=s'
 obtain rfl:os'=s.os:=os
 exact⟨v,H',I.call (h':=hh) (g':=g) (d':=d) (t':=t) (ch:=[]) un hok bare (fun b z=>absurd z (by simp)),r,q⟩
end
noncomputable def tCall(sp:Sp)(dvs:List V)(E:XK)(t:TA):TE:=fun σ H Q=>t σ H fun vs H1=>sp (vs++dvs) H1 Q E
noncomputable def Binds(K:W.Frag)(fd:FuncData)(ps:List Str)(ds:List Value):Prop:=
 ∀(s:Shared) (us:List Value),K.In s.heap->(us++ds).length=ps.length->BindsTo s fd ⟨us,[]⟩ (ps.zip (us++ds))
theorem Binds.all{K:W.Frag}{fd:FuncData}{ps:List Str}(h:∀us:List Value,us.length=ps.length->bindArgs fd ⟨us,[]⟩=pure (ps.zip us)):Binds K fd ps []:=fun s us _ hl=>by
 rw[List.append_nil]at hl⊢
 exact .of_eq (h us hl)
noncomputable def Passes(CX:CXT)(X:Cx)(E:XK):Prop:=∀(pins:List (Addr×Obj)) (σ:St) (H:Hp) (s:Shared) (e:Value) (s':Shared),Inv X pins σ H s->CX X.stack H s E e s'->X.xe e s'
section
variable{X:Cx}{CX:CXT}{k:Nat}{f C:Addr}{fd:FuncData}{ps:List Str}{sp:Sp}{dvs:List V}{ds:List Value}{E:XK}{x m:Str}{p pos apos:Pos}{e o:Expr}{es:List Expr}{ta:TE}{t:TA}
theorem run_fn{pins:List (Addr×Obj)}{σ:St}{H:Hp}{s:Shared}{Q:VK}{us:List Value}{vs:List V}(F:FnOk X.prog X.w X.K X.mg X.base CX k f fd ps sp)(hr:Room k X.A)(hb:Binds X.K fd ps ds)(hd:Vals dvs ds)(hx:Passes CX X E)
  (I:Inv X pins σ H s)(r:Vals vs us)(h:sp (vs++dvs) H Q E):wpAny (model X.prog X.w) X.A (call (.ref f) us) (EP X pins σ Q) X.xe s:=by
 have r2:Vals (vs++dvs) (us++ds):=r.append hd
 have hl:(us++ds).length=ps.length:=by rw[<-r2.length];exact F.len _ _ _ _ h
 refine wpAny_call (codeAny_mono (F.run X.A X.stack s H ⟨us,[]⟩ (us++ds) (vs++dvs) Q E hr I.env0 (hb s us I.kIn hl) r2 h) fun r s' hq=> ?_)
 cases r with
 |error e=>exact hx pins σ H s e s' I hq
 |ok fl=>
  cases fl with
  |ret u=>exact I.after hq
  |next=>exact False.elim hq
  |brk=>exact False.elim hq
  |cont=>exact False.elim hq
theorem zah(F:FnOk X.prog X.w X.K X.mg X.base CX k f fd ps sp)(hr:Room k X.A)(hg:Gl X x)(hm:X.mg x=some (.ref f))(hk:PySem.W.keepIn X.K (.ref f)=true)(hb:Binds X.K fd ps ds)(hd:Vals dvs ds)(hx:Passes CX X E)(ha:PA X (e::es) t)(hdb:(x==("__debug__":Str))=false:=by decide)(he:starEach (e::es) X.env=(false,eval e X.env)::starEach es X.env:=by rfl)(hpl:(backTo pos (starEach es X.env)).any (·.1)=false:=by rfl):
  PE X (.Call (.Name x p) (e::es) [] pos) (tCall sp dvs E t):=by
 intro pins s σ H Q I h
 refine wpAny_Call_Name_kw (ld_glob I hg hm ?_ hdb)
 refine PySem.W.callWith_K (h₀:=X.base) I.ok.mod.kin hk (thn (ha pos pins s σ H _ I h) fun us s1 ⟨vs,H1,I1,r,q⟩=>⟨I1.kIn,?_⟩) he hpl
 exact run_fn F hr hb hd hx I1 r q
end
section
variable{X:Cx}{CX:CXT}{k:Nat}{f C:Addr}{fd:FuncData}{ps ks:List Str}{sp:Sp}{E:XK}{x m:Str}{p pos apos kpos:Pos}{e o:Expr}{es:List Expr}{kws:List Keyword}{te ta:TE}{t tk:TA}{nm:Option Str}
variable{g:List Value->List Value->List Value}{gV:List V->List V->List V}
end
structure FnScope(N P:List Str)(sc:Scope):Prop where
 kind:sc.kind= .function
 co:sc.isCoroutine=false
 gen:sc.isGenerator=false
 nd:N.Nodup
 pre:N.take P.length=P
 par:∀x∈P,sc.names.lookup x=some .local\/sc.names.lookup x=some .cell
 nofree:∀y∈sc.names,y.2≠.free
theorem bindL_out{kindOf:Str->Option NameKind}{x:Str}:∀{binds:List (Str×Value)} {m:Str->Option Value},(∀v,(x,v)∉binds)->bindL kindOf binds m x=m x
 |[],_,_=>rfl
 |(n,v)::r,m,h=>by
  unfold bindL
  rw[bindL_out fun w hw=>h w (List.mem_cons_of_mem _ hw)]
  split
  ·have:x≠n:=by rintro rfl;exact h v List.mem_cons_self
   simp[this]
  ·rfl
theorem bindC_out{kindOf:Str->Option NameKind}{x:Str}:∀{binds:List (Str×Value)} {m:Str->Option Value},(∀v,(x,v)∉binds)->bindC kindOf binds m x=m x
 |[],_,_=>rfl
 |(n,v)::r,m,h=>by
  unfold bindC
  rw[bindC_out fun w hw=>h w (List.mem_cons_of_mem _ hw)]
  split
  ·rfl
  ·have:x≠n:=by rintro rfl;exact h v List.mem_cons_self
   simp[this]
theorem bindL_get{kindOf:Str->Option NameKind}{x:Str}{v:Value}:∀{P:List Str} {vs:List Value} {i:Nat} {m:Str->Option Value},P.Nodup->P[i]? =some x->vs[i]? =some v->kindOf x=some .local->
  bindL kindOf (P.zip vs) m x=some v
 |[],_,_,_,_,h,_,_=>by simp at h
 |_::_,[],_,_,_,_,h,_=>by simp at h
 |p::P,w::vs,0,m,nd,h1,h2,hk=>by
  simp at h1 h2;subst h1;subst h2
  show bindL kindOf ((p,w)::P.zip vs) m p=_
  unfold bindL
  rw[bindL_out fun v hv=>(List.nodup_cons.mp nd).1 (List.of_mem_zip hv).1,if_pos hk]
  simp
 |p::P,w::vs,i+1,m,nd,h1,h2,hk=>by
  show bindL kindOf ((p,w)::P.zip vs) m x=_
  unfold bindL
  exact bindL_get (i:=i) (List.nodup_cons.mp nd).2 (by simpa using h1) (by simpa using h2) hk
theorem bindC_get{kindOf:Str->Option NameKind}{x:Str}{v:Value}:∀{P:List Str} {vs:List Value} {i:Nat} {m:Str->Option Value},P.Nodup->P[i]? =some x->vs[i]? =some v->kindOf x≠some .local->
  bindC kindOf (P.zip vs) m x=some v
 |[],_,_,_,_,h,_,_=>by simp at h
 |_::_,[],_,_,_,_,h,_=>by simp at h
 |p::P,w::vs,0,m,nd,h1,h2,hk=>by
  simp at h1 h2;subst h1;subst h2
  show bindC kindOf ((p,w)::P.zip vs) m p=_
  unfold bindC
  rw[bindC_out fun v hv=>(List.nodup_cons.mp nd).1 (List.of_mem_zip hv).1,if_neg hk]
  simp
 |p::P,w::vs,i+1,m,nd,h1,h2,hk=>by
  show bindC kindOf ((p,w)::P.zip vs) m x=_
  unfold bindC
  exact bindC_get (i:=i) (List.nodup_cons.mp nd).2 (by simpa using h1) (by simpa using h2) hk
noncomputable def start(N:List Str)(vs:List V):St:=vs.map some++List.replicate (N.length-vs.length) none
noncomputable def cxOf(CX:CXT)(P:Program)(w:World)(K:W.Frag)(mg:Str->Option Value)(base:Heap)(N:List Str)(qual:Str)(scope:Scope)(f:Addr)(cd:Value)(A:Around)(outer:List Env)(s:Shared)(H:Hp)(E:XK):Cx where
 prog:=P
 w:=w
 K:=K
 mg:=mg
 base:=base
 A:=A.deeper (envOfC qual scope s.heap.objs.size f cd)
 N:=N
 s₀:=s
 H₀:=H
 env:=envOfC qual scope s.heap.objs.size f cd
 outer:=outer
 stack:=envOfC qual scope s.heap.objs.size f cd::outer
 ex:=[]
 calm:=true
 fn:=fun _=>true
 pn:=[]
 xe:=fun e s'=>wpAny (model P w) (A.deeper (envOfC qual scope s.heap.objs.size f cd)) (leaving (envOfC qual scope s.heap.objs.size f cd) e) (fun _ s''=>CX outer H s E e s'') (fun e' s''=>CX outer H s E e' s'') s'
theorem cell_has{sc:Scope}{n:Nat}{x:Str}(h:sc.names.lookup x=some .cell):∃c,(cellsFrom n sc.names []).lookup x=some c:=by
 have q:=PySem.W.cellsFrom_some sc.names n [] (.inl h)
 exact Option.isSome_iff_exists.mp q
theorem inv_start{CX:CXT}{P:Program}{w:World}{K:W.Frag}{mg:Str->Option Value}{base:Heap}{N ps:List Str}{qual:Str}{scope:Scope}{f:Addr}{cd:Value}{A:Around}{outer:List Env}{s s1:Shared}{H:Hp}{E:XK}{us:List Value}{vs:List V}
  (S:FnScope N ps scope)(hd:A.handled=none)(e0:Env0 P w K mg base A outer s H)(hl:vs.length=ps.length)(r:Vals vs us)(x:InCallC s s.heap.objs.size (bindL (envOfC qual scope s.heap.objs.size f cd).kindOf (ps.zip us) fun _=>none) (cellsFrom (s.heap.objs.size+1) scope.names []) (bindC (envOfC qual scope s.heap.objs.size f cd).kindOf (ps.zip us) fun _=>none) s1):
  Inv (cxOf CX P w K mg base N qual scope f cd A outer s H E) [] (start N vs) H s1:=by
 have hpl:ps.length<=N.length:=by have:=congrArg List.length S.pre;rw[List.length_take]at this;omega
 obtain⟨h1,tk,rfl,hk⟩:=x.done
 have noA:∀b:Addr,b∉(cxOf CX P w K mg base N qual scope f cd A outer s H E).ex:=fun b z=>absurd (show b∈([]:List Addr)from z) (by simp)
 refine⟨⟨e0.mod,S.kind,rfl,rfl,Nat.le_refl _,fun y z c h1 h2=> ?_,fun y hy=> ?_,fun y c _ h=> ?_,fun _=>hd,Around.frames_deeper e0.frames,.inr ⟨rfl,rfl⟩,fun b z=>absurd z (noA b),e0.bs,e0.bsz,fun b _ _=>noA b,fun b z=>absurd z (noA b),e0.funs,e0.frf⟩,
  rfl,e0.bare,Un.kept hk,⟨_,x.toInCall.ns,fun i y v h1 h2 h3=> ?_⟩,fun y c h=>⟨_,x.cell y c h⟩,e0.hok.fresh (Nat.le_refl _),fun y c h=> ?_,fun p hp=>absurd (show p∈([]:List (Addr×Obj))from hp) (by simp),e0.hok.kept hk,?_⟩
 ·exact name_of_addr x.apart (PySem.mem_of_lookup h1) (PySem.mem_of_lookup h2)
 ·have hy:scope.names.lookup y=some .cell\/scope.names.lookup y=some .free:=hy
  rcases hy with hy|hy
  ·exact cell_has hy
  ·exact absurd rfl (S.nofree _ (PySem.mem_of_lookup hy))
 ·exact Nat.le_of_lt (x.above y c (PySem.mem_of_lookup h))
 ·have hi:i<vs.length:=by
   unfold start at h2
   by_cases hi:i<vs.length
   ·exact hi
   ·rw[List.getElem?_append_right (by simpa using hi)]at h2
    rw[List.getElem?_replicate]at h2
    split at h2<;>cases h2
  have ha:vs[i]? =some v:=by
   unfold start at h2
   rw[List.getElem?_append_left (by simpa using hi),List.getElem?_map]at h2
   cases e:vs[i]? with
   |none=>rw[e]at h2;cases h2
   |some a=>rw[e]at h2;cases h2;rfl
  obtain⟨u,hu,rv⟩:=r.get ha
  have hp:ps[i]? =some y:=by
   rw[<-S.pre,List.getElem?_take_of_lt (by omega)];exact h1
  have ndP:ps.Nodup:=by rw[<-S.pre];exact S.nd.sublist (List.take_sublist _ _)
  refine⟨u,rv,?_⟩
  rcases S.par y (List.mem_of_getElem? hp)with k|k
  ·exact .inl ⟨k,bindL_get ndP hp hu k⟩
  ·obtain⟨c,e⟩:=cell_has (n:=s.heap.objs.size+1) k
   refine .inr ⟨.inl k,c,e,?_⟩
   have q:=x.cell y c e
   rw[bindC_get ndP hp hu (by show scope.names.lookup y≠_;rw[k];decide)]at q
   exact q
 ·exact e0.hok.fresh (Nat.le_of_lt (x.above y c (PySem.mem_of_lookup h)))
 ·unfold start
  show _=N.length
  rw[List.length_append,List.length_map,List.length_replicate]
  omega
theorem fn_of{CX:CXT}{P:Program}{w:World}{K:W.Frag}{mg:Str->Option Value}{base:Heap}{k:Nat}{f:Addr}{name qual:Str}{params:Arguments}{body:List Stmt}{scope:Scope}{dV kV doc pm cdv ct oc:Value}{an od:Option Addr}{osl:Array (Option Value)}{N ps:List Str}{sp:Sp}(lk:K.lookup f=some ⟨oc,od,.func (PySem.W.fnOf name qual params body scope dV kV doc pm an cdv ct),osl⟩)(hcd:PySem.W.codeIn K cdv qual=true)(S:FnScope N ps scope)(len:∀vs H Q E,sp vs H Q E->vs.length=ps.length)(hbody:∀(A:Around) (outer:List Env) (s:Shared) (H:Hp) (vs:List V) (Q:VK) (E:XK),Room k (A.deeper (envOfC qual scope s.heap.objs.size f cdv))->sp vs H Q E->
   ∃t,PSs (cxOf CX P w K mg base N qual scope f cdv A outer s H E) body t/\t {nx:=fun _ H'=>Q .non H',rt:=Q} (start N vs) H):
  FnOk P w K mg base CX (k+1) f (PySem.W.fnOf name qual params body scope dV kV doc pm an cdv ct) ps sp:=by
 refine⟨len,fun A outer s H args us vs Q E hr e0 hb r hsp=> ?_⟩
 have hl:=len _ _ _ _ hsp
 have KX:K.In s.heap:=e0.mod.kin.keeps fun b o e=>(e0.bs b o e).1
 have lim:s.heap.NoLimit:=e0.mod.nolimit.keeps fun b o e=>(e0.bs b o e).1
 have hkind:∀y∈ps.zip us,scope.names.lookup y.1=some .local\/(scope.names.lookup y.1=some .cell/\((cellsFrom (s.heap.objs.size+1) scope.names []).lookup y.1).isSome=true):=fun⟨n,v⟩ hy=>by
  rcases S.par n (List.of_mem_zip hy).1 with q|q
  ·exact .inl q
  ·exact .inr ⟨q,PySem.W.cellsFrom_some _ _ _ (.inl q)⟩
 refine codeAny_call_function hr.depth (KX _ _ lk) rfl S.co S.gen rfl (PySem.W.codeRec_of KX hcd) (hb _ _ _ _ ?_)
 refine wpAny_newFunctionEnv_cells S.kind hkind fun env he s1 x=> ?_
 subst he
 refine⟨lim.keeps x.toInCall.keep,codeAny_func ?_⟩
 obtain⟨t,ht,hq⟩:=hbody A outer s H vs Q E (hr.deeper _) hsp
 have I:Inv (cxOf CX P w K mg base N qual scope f cdv A outer s H E) [] (start N vs) H s1:=inv_start S hr.hd e0 hl r x
 refine wpAny_mono (ht [] s1 (start N vs) H _ I hq) (fun fl s' hs=> ?_) fun e s' hs=>hs
 have fin:∀{σ':St} {H':Hp} {v:V} {u:Value},Inv (cxOf CX P w K mg base N qual scope f cdv A outer s H E) [] σ' H' s'->RelV v u->Q v H'->CE outer P w H s Q u s':=
  fun{σ' H' v u} J rv q=>⟨v,H',J.os,J.bare,J.base,J.hok,rv,q⟩
 cases fl with
 |ret u=>
  obtain⟨v,σ',H',J,rv,q⟩:=hs
  exact fin J rv q
 |next=>
  obtain⟨σ',H',J,q⟩:=hs
  exact fin (v:=V.non) (u:=Value.none) J rfl q
 |brk=>
  obtain⟨_,_,_,q⟩:=hs
  exact False.elim q
 |cont=>
  obtain⟨_,_,_,q⟩:=hs
  exact False.elim q
end L2
namespace L2
open PySem PySem.Spec PyProof.Rows
section
variable{X:Cx}{x:Str}{p pos:Pos}{e:Expr}{es:List Expr}{t:TA}{id T:String}{r:List V->Hp->VK->Prop}
noncomputable def tCB(r:List V->Hp->VK->Prop)(t:TA):TE:=fun σ H Q=>t σ H fun vs H1=>r vs H1 Q
theorem zai(hc:CallR X (.builtin id) r)(hg:Gl X x)(hm:X.mg x=none)(hv:bootBuiltins x=some (.builtin id))(ha:PA X (e::es) t)(hn:x≠"__name__":=by decide)(hdb:(x==("__debug__":Str))=false:=by decide)(he:starEach (e::es) X.env=(false,eval e X.env)::starEach es X.env:=by rfl)(hpl:(backTo pos (starEach es X.env)).any (·.1)=false:=by rfl):PE X (.Call (.Name x p) (e::es) [] pos) (tCB r t):=by
 intro pins s σ H Q I h
 refine wpAny_Call_Name_kw (ld_blt I hg hm hv ?_ hn hdb)
 exact PyProof.Rows.callWith_builtin1 (thn (ha pos pins s σ H _ I h) fun us s1 ⟨vs,H1,I1,r1,q1⟩=>hc pins s1 σ H1 vs us Q I1 r1 q1) he hpl
theorem zcl(hc:CallR X (.type T) r)(hg:Gl X x)(hm:X.mg x=none)(hv:bootBuiltins x=some (.type T))(ha:PA X (e::es) t)(hn:x≠"__name__":=by decide)(hdb:(x==("__debug__":Str))=false:=by decide)(he:starEach (e::es) X.env=(false,eval e X.env)::starEach es X.env:=by rfl)(hpl:(backTo pos (starEach es X.env)).any (·.1)=false:=by rfl):PE X (.Call (.Name x p) (e::es) [] pos) (tCB r t):=by
 intro pins s σ H Q I h
 refine wpAny_Call_Name_kw (ld_blt I hg hm hv ?_ hn hdb)
 exact PyProof.Rows.callWith_type1 (thn (ha pos pins s σ H _ I h) fun us s1 ⟨vs,H1,I1,r1,q1⟩=>hc pins s1 σ H1 vs us Q I1 r1 q1) he hpl
end
end L2
namespace HT
open PySem PyProof.Rows
noncomputable def lexLt:List Int->List Int->Bool
 |[],[]=>false
 |[],_::_=>true
 |_::_,[]=>false
 |x::xs,y::ys=>if x=y then lexLt xs ys else decide (x<y)
theorem lexLt_cons(x y:Int)(xs ys:List Int):lexLt (x::xs) (y::ys)=if x=y then lexLt xs ys else decide (x<y):=rfl
theorem lexLt_nil_nil:lexLt [] []=false:=rfl
theorem lexLt_nil_cons(y:Int)(ys:List Int):lexLt [] (y::ys)=true:=rfl
theorem lexLt_cons_nil(x:Int)(xs:List Int):lexLt (x::xs) []=false:=rfl
theorem eqAt_int(A:Around)(s:Shared)(a:Int)(t:Tok)(c:Int)(u:Tok):∃e,SeqAt.EqAt A s (.int a t) (.int c u) e/\(e=true↔a=c):=
 ⟨(a==c),SeqAt.EqAt.int_int a t c u,by simp⟩
theorem rcLt_int(A:Around)(s:Shared)(a:Int)(t:Tok)(c:Int)(u:Tok)(prog:Program)(w:World)(E:Value->Shared->Prop)(Q:Value->Shared->Prop)(h:Q (.bool (decide (a<c))) s):
  wpAny (model prog w) A (richCompare .Lt (.int a t) (.int c u)) Q E s:=
 (PyProof.Rows.lt_int h:wpAny (model prog w) A (compareOp .Lt (.int a t) (.int c u)) Q E s)
section
open PySem.SeqAt
open PySem.AutoSeq1 (wpAny_loadPart')
open PySem.MeetsSeq PySem.MeetsSeq2 PySem.MeetsSeq3
theorem tuple_lt_ints(l b:Addr)(items items2:Array Value)(n n2:Nat)(dd dd2:Option Addr)(sl sl2:Array (Option Value))(ns ms:List Int)(hi:IntsAre items.toList ns)(hj:IntsAre items2.toList ms):
  Meets (Builtin.«tuple.__lt__» ⟨[.ref l,.ref b],[]⟩)
   (fun _ R s=>s.heap.get? l=some {cls:= .type "tuple",dict:=dd,data:= .seq items n,slots:=sl}/\s.heap.get? b=some {cls:= .type "tuple",dict:=dd2,data:= .seq items2 n2,slots:=sl2}/\
    R (.ok (.ret (.bool (lexLt ns ms)))) s):=
 .of_wp fun prog w A R s h=>by
  obtain⟨hp,g,d,tk,os⟩:=s;obtain⟨hl,hb,h⟩:=h
  have f2:=AutoSeq1.sub_tuple_tuple
  have z1:items.size=ns.length:=by rw[<-hi.length];simp
  have z2:items2.size=ms.length:=by rw[<-hj.length];simp
  wp_walk using wpAny_loadPart' hl,wpAny_loadPart' hb,wpAny_forIn_list _ (fun rest b s'=>b.1=none/\s'=⟨hp,g,d,tk,os⟩/\∃(vs ws:List Value) (ns' ms':List Int),rest=vs.zip ws/\
   IntsAre vs ns'/\IntsAre ws ms'/\ns'.length+items2.size=ms'.length+items.size/\R (.ok (.ret (.bool (lexLt ns' ms')))) ⟨hp,g,d,tk,os⟩) _
  case turn=>
   rintro⟨y,x⟩ rest b s' ⟨hb',rfl,vs,ws,ns',ms',hz,hvi,hwi,hlen,hR⟩
   cases hvi with
   |nil=>rw[List.zip_nil_left]at hz;cases hz
   |cons a t hvi'=>
    cases hwi with
    |nil=>rw[List.zip_nil_right]at hz;cases hz
    |cons c u hwi'=>
     rw[List.zip_cons_cons]at hz
     injection hz with hyx hrest
     injection hyx with hy hx
     subst hy hx
     rw[lexLt_cons]at hR
     simp only[List.length_cons]at hlen
     obtain⟨e,he,hiff⟩:=eqAt_int A.in1 ⟨hp,g,d,tk,os⟩ a t c u
     refine wpAny_bind (he prog w _ _ ?_)
     cases e with
     |true=>
      rw[if_pos (hiff.mp rfl)]at hR
      wp_walk
      exact⟨rfl,rfl,_,_,_,_,hrest,hvi',hwi',by omega,hR⟩
     |false=>
      rw[if_neg (fun q=>absurd (hiff.mpr q) Bool.false_ne_true)]at hR
      have hri:=rcLt_int A.in1 ⟨hp,g,d,tk,os⟩ a t c u prog w
      wp_walk using hri
      exact⟨_,rfl,by simpa using hR⟩
  case fin=>
   rintro⟨b1,b2⟩ s' ⟨hb',rfl,vs,ws,ns',ms',hz,hvi,hwi,hlen,hR⟩
   simp only at hb'
   subst hb'
   have hv:lexLt ns' ms'=decide (items.size<items2.size):=by
    cases hvi with
    |nil=>
     cases hwi with
     |nil=>
      simp only[List.length_nil]at hlen
      rw[lexLt_nil_nil]
      exact(decide_eq_false (by omega)).symm
     |cons c u hw=>
      simp only[List.length_nil,List.length_cons]at hlen
      rw[lexLt_nil_cons]
      exact(decide_eq_true (by omega)).symm
    |cons a t hv=>
     cases hwi with
     |nil=>
      simp only[List.length_nil,List.length_cons]at hlen
      rw[lexLt_cons_nil]
      exact(decide_eq_false (by omega)).symm
     |cons c u hw=>
      rw[List.zip_cons_cons]at hz
      cases hz
   rw[hv]at hR
   wp_walk
   exact⟨_,rfl,by simpa[Builtin.Tuple.tupleCompareSizes]using hR⟩
  case h=>
   exact⟨rfl,rfl,items.toList,items2.toList,ns,ms,rfl,hi,hj,by omega,h⟩
end
section
variable{prog:Program}{w:World}{A:Around}{E:Value->Shared->Prop}{s:Shared}
theorem lt_tupInts{l b:Addr}{items items2:Array Value}{ns ms:List Int}{Q:Value->Shared->Prop}(hl:IsTup s.heap l items)(hb:IsTup s.heap b items2)(hi:IntsAre items.toList ns)(hj:IntsAre items2.toList ms)(hu:A.units<cLine)(h:Q (.bool (lexLt ns ms)) s):wpAny (model prog w) A (compareOp .Lt (.ref l) (.ref b)) Q E s:=by
 obtain⟨⟨cls,dd,data,sl⟩,ho,hc,n,hd⟩:=id hl
 obtain⟨⟨cls2,dd2,data2,sl2⟩,ho2,hc2,n2,hd2⟩:=id hb
 simp only at hc hd hc2 hd2
 subst hc hd hc2 hd2
 exact richCompare_meets_room (op:= .Lt) ⟨_,ho,rfl⟩ ⟨_,ho2,rfl⟩ PySem.F.slot_tuple_lt PySem.F.entry_tuple_lt (PySem.F.args_tuple_lt_2 _ _) (tuple_lt_ints l b items items2 n n2 dd dd2 sl sl2 ns ms hi hj)
  ⟨ho,ho2,show Value.bool (lexLt ns ms)≠Value.notImplemented/\Q (.bool (lexLt ns ms)) s from⟨(fun x=>nomatch x),h⟩⟩ hu
theorem cat_tup{t b:Addr}{vs ws:List Value}{Q:Value->Shared->Prop}(ht:IsTup s.heap t vs.toArray)(hb:IsTup s.heap b ws.toArray)(hv:vs≠[])(h1:ws=[]->Q (.ref t) s)(h2:ws≠[]->Q (.ref s.heap.objs.size) {s with heap:=s.heap.push {cls:= .type "tuple",data:= .seq (vs++ws).toArray}})(hsz:vs.length+ws.length<=sizeLine):wpAny (model prog w) A (binaryOp .Add (.ref t) (.ref b)) Q E s:=by
 obtain⟨⟨cls,dd,data,sl⟩,ho,hc,n,hd⟩:=id ht
 obtain⟨⟨cls2,dd2,data2,sl2⟩,ho2,hc2,n2,hd2⟩:=id hb
 simp only at hc hd hc2 hd2
 subst hc hd hc2 hd2
 have e:vs.toArray++ws.toArray=(vs++ws).toArray:=by simp
 by_cases hw:ws=[]
 ·exact concat_meets ⟨_,ho,rfl⟩ ⟨_,ho2,rfl⟩ noFill_tuple_add seq_tuple_add PySem.F.slot_tuple_add PySem.F.entry_tuple_add (PySem.F.args_tuple_add_2 _ _)
   (tuple_addW1 t b vs.toArray ws.toArray n n2 dd dd2 sl sl2 (by simpa using hv) (by simp[hw])) ⟨ho,ho2,h1 hw⟩
 ·refine concat_meets ⟨_,ho,rfl⟩ ⟨_,ho2,rfl⟩ noFill_tuple_add seq_tuple_add PySem.F.slot_tuple_add PySem.F.entry_tuple_add (PySem.F.args_tuple_add_2 _ _)
   (tuple_addW2 t b vs.toArray ws.toArray n n2 dd dd2 sl sl2 (by simpa using hv) (by simpa using hw) (by rw[List.size_toArray,List.size_toArray];exact hsz)) ⟨ho,ho2,?_⟩
  rw[e]
  exact h2 hw
end
end HT
namespace L2
open PySem PySem.Spec PyProof.Rows
noncomputable abbrev TO:=St->Hp->(Option Int->Hp->Prop)->Prop
theorem zdd{ns:List Int}:∀{us:List Value},Vals (ns.map V.int) us->IntsAre us ns:=by
 induction ns with
 |nil=>intro us r;rw[List.map_nil]at r;cases r;exact .nil
 |cons n ns ih=>
  intro us r
  rw[List.map_cons]at r
  cases r with
  |cons r1 r2=>
   obtain⟨t,e⟩:=r1
   subst e
   exact .cons n t (ih r2)
section
variable{X:Cx}{e:Expr}{te:TE}{lo hi:Option Expr}{tl th:TO}{pos p2:Pos}
noncomputable def SlR(X:Cx)(r:V->Option Int->Option Int->Hp->VK->Prop):Prop:=
 ∀(pins:List (Addr×Obj)) (s:Shared) (σ:St) (H:Hp) (x:V) (v vl vu:Value) (lo hi:Option Int) (sl:Addr) (Q:VK),Inv X pins σ H s->RelV x v->s.heap.IsSliceOf sl vl vu .none->IsPart vl lo->IsPart vu hi->r x lo hi H Q->
  ∃T id,typeLookup (.type T) "__getitem__"=pure (some (.builtin id))/\s.TypeIs v T/\wpAny (model X.prog X.w) X.A (getItem v (.ref sl)) (EP X pins σ Q) X.xe s
theorem SlR.or{r r':V->Option Int->Option Int->Hp->VK->Prop}(h:SlR X r)(h':SlR X r'):SlR X (fun x lo hi H Q=>r x lo hi H Q\/r' x lo hi H Q):=by
 intro pins s σ H x v vl vu lo hi sl Q I rx hs pl pu q
 rcases q with q|q
 ·exact h pins s σ H x v vl vu lo hi sl Q I rx hs pl pu q
 ·exact h' pins s σ H x v vl vu lo hi sl Q I rx hs pl pu q
noncomputable def rLtT(K:W.Frag):R2:=fun x y H Q=>∃a b ns ms,x= .ref a/\y= .ref b/\SqT K H a (ns.map V.int)/\SqT K H b (ms.map V.int)/\Q (.bl (HT.lexLt ns ms)) H
theorem op_ltT(hu:X.A.units<cLine):OpR X (compareOp .Lt) (rLtT X.K):=by
 intro pins s σ H x y v u Q I rx ry h
 obtain⟨a,b,ns,ms,rfl,rfl,ha,hb,q⟩:=h
 cases rx
 cases ry
 obtain⟨its,r1,p1,_⟩:=I.tuple ha
 obtain⟨its2,r2,p2,_⟩:=I.tuple hb
 have i1:IntsAre its.toArray.toList ns:=zdd r1
 have i2:IntsAre its2.toArray.toList ms:=zdd r2
 exact HT.lt_tupInts p1 p2 i1 i2 hu ⟨.bl (HT.lexLt ns ms),H,I,rfl,q⟩
noncomputable def rCatT(K:W.Frag):R2:=fun x y H Q=>∃a b xs ys,x= .ref a/\y= .ref b/\SqT K H a xs/\SqT K H b ys/\xs≠[]/\xs.length+ys.length<=sizeLine/\
 (ys=[]->Q (.ref a) H)/\(ys≠[]->∀p,H p=none->Q (.ref p) (upd H p (.tup (xs++ys))))
theorem Vals.nil_iff{xs:List V}{us:List Value}(r:Vals xs us):us=[]↔xs=[]:=by
 cases r with
 |nil=>simp
 |cons _ _=>simp
theorem op_catT:OpR X (binaryOp .Add) (rCatT X.K):=by
 intro pins s σ H x y v u Q I rx ry h
 obtain⟨a,b,xs,ys,rfl,rfl,ha,hb,hx,hz,q1,q2⟩:=h
 cases rx
 cases ry
 obtain⟨its,r1,p1,_⟩:=I.tuple ha
 obtain⟨its2,r2,p2,_⟩:=I.tuple hb
 refine HT.cat_tup p1 p2 (fun z=>hx (r1.nil_iff.mp z)) (fun z=>⟨.ref a,H,I,rfl,q1 (r2.nil_iff.mp z)⟩) (fun z=> ?_) (by rw[<-r1.length,<-r2.length];exact hz)
 refine⟨.ref s.heap.objs.size,_,I.laid (t':=s.toks) (o:= .tup (xs++ys)) (fun b ob q=>Heap.get?_push_of_some _ q) (Nat.le_refl _) ?_,rfl,q2 (fun w=>z (r2.nil_iff.mpr w)) _ (I.hok.fresh (Nat.le_refl _))⟩
 exact⟨by rw[List.length_append];exact hz,_,r1.append r2,IsTup.new _ _⟩
end
end L2
namespace L2
open PySem PySem.Spec PyProof.Rows
noncomputable def ixN(n:Nat)(i:Int):Option Nat:=if 0<=i then(if i<n then some i.toNat else none)else if -(n:Int)<=i then some (i+n).toNat else none
noncomputable def atI{α:Type}(xs:List α)(i:Int):Option α:=(ixN xs.length i).bind fun j=>xs[j]?
theorem ixN_seq{n:Nat}{i:Int}{j:Nat}(h:ixN n i=some j):seqIndex? i n=some j/\j<n/\ -(n:Int)<=i/\i<n:=by
 unfold ixN at h
 by_cases h0:0<=i
 ·rw[if_pos h0]at h
  by_cases h1:i<n
  ·rw[if_pos h1]at h
   have e:i.toNat=j:=Option.some.inj h
   exact⟨by rw[seqIndex_of h0 h1,e],by omega,by omega,h1⟩
  ·rw[if_neg h1]at h;cases h
 ·rw[if_neg h0]at h
  by_cases h1: -(n:Int)<=i
  ·rw[if_pos h1]at h
   have e:(i+n).toNat=j:=Option.some.inj h
   exact⟨by rw[seqIndex_neg (by omega) h1,e],by omega,h1,by omega⟩
  ·rw[if_neg h1]at h;cases h
theorem atI_get{α:Type}{xs:List α}{i:Int}{v:α}(h:atI xs i=some v):∃j,seqIndex? i xs.length=some j/\xs[j]? =some v/\j<xs.length/\ -(xs.length:Int)<=i/\i<xs.length:=by
 unfold atI at h
 cases e:ixN xs.length i with
 |none=>rw[e]at h;cases h
 |some j=>
  rw[e]at h
  obtain⟨h1,h2,h3,h4⟩:=ixN_seq e
  exact⟨j,h1,h,h2,h3,h4⟩
theorem atI_nat{α:Type}{xs:List α}{j:Nat}{v:α}(h:xs[j]? =some v):atI xs (j:Int)=some v:=by
 have hj:j<xs.length:=(List.getElem?_eq_some_iff.mp h).1
 have e:ixN xs.length (j:Int)=some j:=by
  unfold ixN
  rw[if_pos (by omega),if_pos (by omega)];simp
 unfold atI;rw[e];exact h
noncomputable def PlainIx(b:Expr):Prop:=∀o i,subscripted b false o i=operate [o,i] (getItem o i)
noncomputable def IxR(X:Cx)(r:R2):Prop:=
 ∀(value slice:Expr) (pins:List (Addr×Obj)) (s:Shared) (σ:St) (H:Hp) (x y:V) (v u:Value) (Q:VK),Inv X pins σ H s->RelV x v->RelV y u->r x y H Q->
  subscripted slice false v u=operate [v,u] (getItem v u)->wpAny (model X.prog X.w) X.A (subscriptTail value slice v u) (EP X pins σ Q) X.xe s
noncomputable def MtR(X:Cx)(id:String)(r:V->List V->Hp->VK->Prop):Prop:=
 ∀(pins:List (Addr×Obj)) (s:Shared) (σ:St) (H:Hp) (x:V) (xs:List V) (v:Value) (us:List Value) (Q:VK),Inv X pins σ H s->RelV x v->Vals xs us->r x xs H Q->
  wpAny (model X.prog X.w) X.A (call (.builtin id) (v::us)) (EP X pins σ Q) X.xe s
section
variable{X:Cx}{a b:Expr}{ta tb:TE}{pos:Pos}
theorem IxR.or{r r':R2}(h:IxR X r)(h':IxR X r'):IxR X (fun x y H Q=>r x y H Q\/r' x y H Q):=by
 intro value slice pins s σ H x y v u Q I rx ry q hs
 rcases q with q|q
 ·exact h value slice pins s σ H x y v u Q I rx ry q hs
 ·exact h' value slice pins s σ H x y v u Q I rx ry q hs
theorem MtR.or{id:String}{r r':V->List V->Hp->VK->Prop}(h:MtR X id r)(h':MtR X id r'):MtR X id (fun x xs H Q=>r x xs H Q\/r' x xs H Q):=by
 intro pins s σ H x xs v us Q I rx rs q
 rcases q with q|q
 ·exact h pins s σ H x xs v us Q I rx rs q
 ·exact h' pins s σ H x xs v us Q I rx rs q
theorem zat{r:R2}(hr:IxR X r)(ha:PE X a ta)(hb:PE X b tb)(hs:PlainIx b):PE X (.Subscript a b pos) (tOp r ta tb):=by
 intro pins s σ H Q I h
 exact Subscript_ (binT ha hb I h fun v u s2 x y H2 I2 rx ry q=>hr a b pins s2 σ H2 x y v u Q I2 rx ry q (hs _ _))
noncomputable def rIxL(K:W.Frag):R2:=fun x y H Q=>∃p xs i v,x= .ref p/\y= .int i/\SqL K H p xs/\atI xs i=some v/\Q v H
noncomputable def rIxT(K:W.Frag):R2:=fun x y H Q=>∃p xs i v,x= .ref p/\y= .int i/\SqT K H p xs/\atI xs i=some v/\Q v H
theorem zcr:IxR X (rIxL X.K):=by
 intro value slice pins s σ H x y v u Q I rx ry h hs
 obtain⟨p,xs,i,z,rfl,rfl,hq,he,q⟩:=h
 cases rx
 obtain⟨t,rfl⟩:=ry
 obtain⟨its,r,pl,hz⟩:=I.list hq
 obtain⟨j,h1,h2,h3,h4,h5⟩:=atI_get he
 obtain⟨w,ew,rw'⟩:=r.get h2
 have hl:=r.length
 have hn:=line63
 have fin:EP X pins σ Q w s:=⟨z,H,I,rw',q⟩
 by_cases h0:0<=i
 ·have hj:i.toNat=j:=by
   rw[seqIndex_of h0 h5]at h1
   exact Option.some.inj h1
  exact item_listR pl.isList h0 (by omega) (by rw[hj];simpa using ew) fin hs
 ·have hj:(i+(its.toArray.size:Int)).toNat=j:=by
   rw[seqIndex_neg (by omega) h4]at h1
   rw[List.size_toArray,<-hl]
   exact Option.some.inj h1
  exact subscriptTail_builtinR (x:=w) pl.isList.typeIs slot_list_getitem.lookup
   (wpAny_getItem_list_neg (Q:=fun r s'=>r=w/\EP X pins σ Q r s') pl.isList (by omega) (by rw[List.size_toArray]<;>omega) (by omega) (by rw[hj];simpa using ew) ⟨rfl,fin⟩) hs
theorem zar:IxR X (rIxT X.K):=by
 intro value slice pins s σ H x y v u Q I rx ry h hs
 obtain⟨p,xs,i,z,rfl,rfl,hq,he,q⟩:=h
 cases rx
 obtain⟨t,rfl⟩:=ry
 obtain⟨its,r,pl,hz⟩:=I.tuple hq
 obtain⟨j,h1,h2,h3,h4,h5⟩:=atI_get he
 obtain⟨w,ew,rw'⟩:=r.get h2
 have hl:=r.length
 have hn:=line63
 have fin:EP X pins σ Q w s:=⟨z,H,I,rw',q⟩
 exact subscriptTail_builtinR (x:=w) pl.typeIs slot_tuple_getitem.lookup
  (getItem_tuple (j:=j) (Q:=fun r s'=>r=w/\EP X pins σ Q r s') pl (by omega) (by omega) (by rw[List.size_toArray,<-hl];exact h1) (by simpa using ew) ⟨rfl,fin⟩) hs
theorem mapSeq_set(its:List Value)(n j:Nat)(u:Value):Obj.mapSeq (·.setIfInBounds j u) {cls:= .type "list",data:= .seq its.toArray n}={cls:= .type "list",data:= .seq (its.set j u).toArray n}:=by
 simp[Obj.mapSeq]
theorem Inv.lst{pins:List (Addr×Obj)}{σ:St}{H:Hp}{s:Shared}{p:Addr}{xs:List V}(I:Inv X pins σ H s)(h:H p=some (.lst xs)):
  ∃(its:List Value) (n:Nat),Vals xs its/\s.heap.get? p=some {cls:= .type "list",data:= .seq its.toArray n}/\xs.length<=sizeLine:=by
 obtain⟨z,its,n,r,e⟩:=I.hok p _ h
 exact⟨its,n,r,e,z⟩
theorem Inv.lstUpd{pins:List (Addr×Obj)}{σ:St}{H:Hp}{s:Shared}{p:Addr}{xs ys:List V}{its its':List Value}{n n':Nat}{f:Obj->Obj}(I:Inv X pins σ H s)(h:H p=some (.lst xs))(ho:s.heap.get? p=some {cls:= .type "list",data:= .seq its.toArray n})(hf:f {cls:= .type "list",data:= .seq its.toArray n}={cls:= .type "list",data:= .seq its'.toArray n'})(r:Vals ys its')(hz:ys.length<=sizeLine)(t:Nat):
  Inv X pins σ (upd H p (.lst ys)) {s with heap:=s.heap.update p f,toks:=t}:=by
 have e:(s.heap.update p f).get? p=some {cls:= .type "list",data:= .seq its'.toArray n'}:=by
  rw[Heap.get?_update_self f ho (by rw[hf]<;>rfl),hf]
 refine I.write (x:=p) (e:=p) (by rw[h];trivial) (.inl rfl) (fun b u hb q=>(Heap.get?_update_other _ _ (Ne.symm hb)).trans q) ⟨_,e⟩ ?_
 exact⟨hz,its',n',r,e⟩
noncomputable def rSetL:V->V->V->Hp->(Hp->Prop)->Prop:=fun o i v H Q=>∃p xs k j,o= .ref p/\i= .int k/\H p=some (.lst xs)/\ixN xs.length k=some j/\Q (upd H p (.lst (xs.set j v)))
theorem set_list:PSet X rSetL:=by
 intro pins s σ H o i v ov iv u Q I ro ri rv h
 obtain⟨p,xs,k,j,rfl,rfl,hp,hj,q⟩:=h
 cases ro
 obtain⟨t,rfl⟩:=ri
 obtain⟨its,n,r,ho,hz⟩:=I.lst hp
 obtain⟨h1,h2,h3,h4⟩:=ixN_seq hj
 have hl:=r.length
 have hn:=line63
 have I':Inv X pins σ (upd H p (.lst (xs.set j v))) {s with heap:=s.heap.update p (Obj.mapSeq (·.setIfInBounds j u))}:=
  I.lstUpd hp ho (mapSeq_set its n j u) (r.set rv j) (by rw[List.length_set];exact hz) s.toks
 by_cases h0:0<=k
 ·have hk:k.toNat=j:=by
   rw[seqIndex_of h0 h4]at h1
   exact Option.some.inj h1
  exact PySem.W.ki_setAt ho h0 (by omega) (by rw[List.size_toArray,<-hl];exact h4) (by rw[hk];exact⟨_,I',q⟩)
 ·have hk:(k+(its.toArray.size:Int)).toNat=j:=by
   rw[seqIndex_neg (by omega) h3]at h1
   rw[List.size_toArray,<-hl]
   exact Option.some.inj h1
  exact PySem.W.ki_setBack ho (by omega) (by rw[List.size_toArray,<-hl];exact h3) (by omega) (by rw[hk];exact⟨_,I',q⟩)
theorem call_len_seq:CallR X (.builtin "len") (fun xs H Q=>∃p ys,xs=[.ref p]/\(SqL X.K H p ys\/SqT X.K H p ys)/\Q (.int ys.length) H):=by
 intro pins s σ H xs us Q I r h
 obtain⟨p,ys,rfl,hq,q⟩:=h
 obtain⟨u,rfl,rx⟩:=vals1 r
 cases rx
 have hn:=line63
 rcases hq with hq|hq
 ·obtain⟨its,r',pl,hz⟩:=I.list hq
  have hlen:=r'.length
  exact Calls.call_len_list pl.isList (by simp only[List.size_toArray]<;>omega) ⟨.int ys.length,H,I.tok _,⟨s.toks+1,by rw[List.size_toArray,hlen]⟩,q⟩
 ·obtain⟨its,r',pl,hz⟩:=I.tuple hq
  have hlen:=r'.length
  exact len_tuple pl (by simp only[List.size_toArray]<;>omega) ⟨.int ys.length,H,I.tok _,⟨s.toks+1,by rw[List.size_toArray,hlen]⟩,q⟩
theorem CallR.or{f:Value}{r r':List V->Hp->VK->Prop}(h:CallR X f r)(h':CallR X f r'):CallR X f (fun xs H Q=>r xs H Q\/r' xs H Q):=by
 intro pins s σ H xs us Q I rs q
 rcases q with q|q
 ·exact h pins s σ H xs us Q I rs q
 ·exact h' pins s σ H xs us Q I rs q
theorem call_list_of:CallR X (.type "list") (fun xs H Q=>∃p ys,xs=[.ref p]/\(SqL X.K H p ys\/SqT X.K H p ys)/\∀l,H l=none->Q (.ref l) (upd H l (.lst ys))):=by
 intro pins s σ H xs us Q I r h
 obtain⟨p,ys,rfl,hq,q⟩:=h
 obtain⟨u,rfl,rx⟩:=vals1 r
 cases rx
 have fin:∀(its:List Value),Vals ys its->ys.length<=sizeLine->∀(h':Heap) (c':Nat),(∀b o',s.heap.get? b=some o'->h'.get? b=some o')->
   h'.get? s.heap.objs.size=some {cls:= .type "list",dict:=none,data:= .seq its.toArray c',slots:=#[]}->EP X pins σ Q (.ref s.heap.objs.size) {s with heap:=h'}:=fun its r' hz h' c' kp e=>
  ⟨.ref s.heap.objs.size,_,I.laid (t':=s.toks) kp (Nat.le_refl _) (show ObjOk X.prog X.w _ h' _ (.lst ys)from⟨hz,its,c',r',e⟩),rfl,q _ (I.hok.fresh (Nat.le_refl _))⟩
 rcases hq with hq|hq
 ·obtain⟨its,r',pl,hz⟩:=I.list hq
  have hlen:=r'.length
  obtain⟨o,ho,hc,n,hd⟩:=pl.isList
  exact call_list_seq p (.inl rfl) ho hc hd (fun h' c' kp e=>fin its r' hz h' c' kp e) (by simp only[List.size_toArray]<;>omega)
 ·obtain⟨its,r',pl,hz⟩:=I.tuple hq
  have hlen:=r'.length
  obtain⟨o,ho,hc,n,hd⟩:=pl
  exact call_list_seq p (.inr rfl) ho hc hd (fun h' c' kp e=>fin its r' hz h' c' kp e) (by simp only[List.size_toArray]<;>omega)
theorem zbn:CallR X (.type "tuple") (fun xs H Q=>∃p ys,xs=[.ref p]/\((SqL X.K H p ys/\∀l,H l=none->Q (.ref l) (upd H l (.tup ys)))\/(SqT X.K H p ys/\Q (.ref p) H))):=by
 intro pins s σ H xs us Q I r h
 obtain⟨p,ys,rfl,h⟩:=h
 obtain⟨u,rfl,rx⟩:=vals1 r
 cases rx
 rcases h with⟨hq,q⟩|⟨hq,q⟩
 ·obtain⟨its,r',pl,hz⟩:=I.list hq
  have hlen:=r'.length
  refine call_tuple_list pl.isList (fun h' kp=> ?_) (by simp only[List.size_toArray]<;>omega)
  have I1:Inv X pins σ H {s with heap:=h'}:=I.kept (t':=s.toks) kp
  have I2:Inv X pins σ (upd H h'.objs.size (.tup ys)) {s with heap:=h'.push {cls:= .type "tuple",data:= .seq its.toArray}}:=
   I1.laid (t':=s.toks) (fun b o e=>Heap.get?_push_of_some _ e) (Nat.le_refl _) (show ObjOk X.prog X.w _ _ _ (.tup ys)from⟨hz,its,r',IsTup.new _ _⟩)
  exact⟨.ref h'.objs.size,_,I2,rfl,q _ (I1.hok.fresh (Nat.le_refl _))⟩
 ·obtain⟨its,r',pl,hz⟩:=I.tuple hq
  exact call_tuple_same pl ⟨.ref p,H,I,rfl,q⟩
noncomputable def tyV(K:W.Frag)(T:String)(x:V)(H:Hp):Prop:=match x with
 | .str _=>T="str"
 | .int _=>T="int"
 | .ref p=>(T="list"/\∃xs,SqL K H p xs)\/(T="tuple"/\∃o,K.lookup p=some o/\o.cls= .type "tuple"/\o.dict=none)\/
   (T="dict"/\((∃kvs,H p=some (.dK kvs))\/∃kvs,H p=some (.dT kvs)))\/(T="set"/\∃S n,H p=some (.set S n))
 |_=>False
theorem tyV_is{pins:List (Addr×Obj)}{σ:St}{H:Hp}{s:Shared}{T:String}{x:V}{v:Value}(I:Inv X pins σ H s)(r:RelV x v)(ty:tyV X.K T x H):
  s.TypeIs v T/\∀a,v= .ref a->∃ob,s.heap.get? a=some ob/\ob.dict=none:=by
 cases x with
 |str z=>
  obtain⟨t,rfl⟩:=r
  cases(show T="str" from ty)
  exact⟨typeIs_str s z t,fun _ e=>nomatch e⟩
 |int i=>
  obtain⟨t,rfl⟩:=r
  cases(show T="int" from ty)
  exact⟨typeIs_int s i t,fun _ e=>nomatch e⟩
 |ref p=>
  cases r
  rcases ty with⟨rfl,xs,hq⟩|⟨rfl,o,hk,hc,hd⟩|⟨rfl,hk⟩|⟨rfl,S,n,hk⟩
  ·obtain⟨its,_,pl,_⟩:=I.list hq
   refine⟨pl.isList.typeIs,fun a e=> ?_⟩
   cases e
   obtain⟨o,n,e,c,hd,_⟩:=pl
   exact⟨o,e,hd⟩
  ·refine⟨⟨o,I.kIn p o hk,hc⟩,fun a e=> ?_⟩
   cases e
   exact⟨o,I.kIn _ o hk,hd⟩
  ·have z:∃o,s.heap.get? p=some o/\o.ExactDict:=by
    rcases hk with⟨kvs,hk⟩|⟨kvs,hk⟩
    ·obtain⟨_,_,_,_,o,_,_,e,ex,_⟩:=I.hok p _ hk
     exact⟨o,e,ex⟩
    ·obtain⟨_,_,_,_,o,_,_,e,ex,_⟩:=I.hok p _ hk
     exact⟨o,e,ex⟩
   obtain⟨o,e,ex⟩:=z
   refine⟨⟨o,e,ex.1⟩,fun a e2=> ?_⟩
   cases e2
   exact⟨o,e,ex.2.1⟩
  ·obtain⟨o,_,_,_,e,ex,_⟩:=I.hok p _ hk
   refine⟨⟨o,e,ex.1⟩,fun a e2=> ?_⟩
   cases e2
   exact⟨o,e,ex.2.1⟩
 |_=>exact False.elim ty
noncomputable def tBM(K:W.Frag)(T:String)(r:V->List V->Hp->VK->Prop)(to:TE)(t:TA):TE:=fun σ H Q=>to σ H fun x H1=>tyV K T x H1/\t σ H1 fun xs H2=>r x xs H2 Q
variable{o e:Expr}{es:List Expr}{to:TE}{t:TA}{name:Str}{apos cpos:Pos}{T id:String}{r:V->List V->Hp->VK->Prop}
theorem pe_bm(pa:PlainAttrs T)(slot:Slot T name id)(hty:typeOf (.builtin id)=pure (.type "method_descriptor"))(hm:MtR X id r)(ho:PE X o to)(ha:PA X (e::es) t)(hbase:attributeBase o name X.env (eval o X.env)=eval o X.env:=by rfl)(hfew:((backTo cpos (starEach (e::es) X.env)).all (fun x=> !x.1)&&(backToKw cpos (keywordEach [] X.env)).all (fun x=>x.1.isSome)
   &&decide ((e::es).length+([]:List Keyword).length+(if([]:List Keyword).isEmpty then 0 else 1)<30))=true:=by rfl)(hline:(apos.endLine==cpos.line)=true:=by rfl)(hs:starEach (e::es) X.env=(false,eval e X.env)::starEach es X.env:=by rfl)(hplain:(backTo cpos (starEach es X.env)).any (·.1)=false:=by rfl):
  PE X (.Call (.Attribute o name apos) (e::es) [] cpos) (tBM X.K T r to t):=by
 intro pins s σ H Q I h
 refine wpAny_Call_method_late hbase hfew hline rfl (thn (ho pins s σ H _ I h) fun v s1 ⟨x,H1,I1,r1,ty,q1⟩=> ?_)
 obtain⟨h1,h2⟩:=tyV_is I1 r1 ty
 refine⟨T,id,pa,slot,hty,h1,h2,?_⟩
 have hA:=ha cpos pins s1 σ H1 _ I1 q1
 rw[hs]at hA⊢
 refine Calls.callWith_builtin (by show(false||(backTo cpos (starEach es X.env)).any (·.1))=false;rw[hplain]<;>rfl) (Calls.evalArgs_plain ?_)
 exact thn hA fun us s2 ⟨vs,H2,I2,r2,q2⟩=>hm pins s2 σ H2 x vs v us Q I2 r1 r2 q2
end
end L2
namespace L2
open PySem PySem.Spec PyProof.Rows
noncomputable def MtM(X:Cx)(id:String)(r:V->List V->Hp->VK->Prop):Prop:=
 ∀(pins:List (Addr×Obj)) (s:Shared) (σ:St) (H:Hp) (x:V) (xs:List V) (v:Value) (us:List Value) (Q:VK),Inv X pins σ H s->RelV x v->Vals xs us->r x xs H Q->
  wpAny (model X.prog X.w) X.A (call (.builtin id) (v::us)) (EP X pins σ Q) X.xe s
theorem Vals.one{x:V}{us:List Value}(h:Vals [x] us):∃u,us=[u]/\RelV x u:=by
 cases h with
 |cons r h=>cases h;exact⟨_,rfl,r⟩
theorem Vals.two{x y:V}{us:List Value}(h:Vals [x,y] us):∃u v,us=[u,v]/\RelV x u/\RelV y v:=by
 cases h with
 |cons r h=>obtain⟨v,rfl,q⟩:=Vals.one h;exact⟨_,_,rfl,r,q⟩
theorem Vals.zero:∀{us:List Value},Vals [] us->us=[]
 |_,.nil=>rfl
theorem Vals.dropLast{xs:List V}{us:List Value}(h:Vals xs us):Vals xs.dropLast us.dropLast:=by
 induction h with
 |nil=>exact .nil
 |cons r t ih=>
  cases t with
  |nil=>exact .nil
  |cons q t'=>exact .cons r ih
theorem Vals.eraseIdx:∀{xs:List V} {us:List Value} (i:Nat),Vals xs us->Vals (xs.eraseIdx i) (us.eraseIdx i)
 |_,_,_,.nil=> .nil
 |_,_,0,.cons _ t=>t
 |_,_,i+1,.cons r t=> .cons r (Vals.eraseIdx i t)
theorem Vals.reverse{xs:List V}{us:List Value}(h:Vals xs us):Vals xs.reverse us.reverse:=by
 induction h with
 |nil=>exact .nil
 |cons r t ih=>rw[List.reverse_cons,List.reverse_cons];exact Vals.append ih (.cons r .nil)
theorem len_erase{α:Type}:∀(l:List α) (i:Nat),(l.eraseIdx i).length<=l.length
 |[],_=>Nat.le_refl _
 |_::_,0=>Nat.le_succ _
 |_::r,i+1=>Nat.succ_le_succ (len_erase r i)
section
variable{X:Cx}{pins:List (Addr×Obj)}{σ:St}{H:Hp}{s:Shared}{l b:Addr}{xs ys zs:List V}
theorem Inv.lset{its its':List Value}{n:Nat}{f:Array Value->Array Value}{t':Nat}(I:Inv X pins σ H s)(hH:H l=some (.lst xs))(e:s.heap.get? l=some {cls:= .type "list",data:= .seq its.toArray n})(hf:f its.toArray=its'.toArray)(hv:Vals ys its')(hz:ys.length<=sizeLine):
  Inv X pins σ (upd H l (.lst ys)) {s with heap:=s.heap.update l (Obj.mapSeq f),toks:=t'}:=by
 have q:=PySem.IsL.update e f
 rw[hf]at q
 refine I.write (x:=l) (e:=l) (by rw[hH];exact trivial) (.inl rfl) (fun b' u hb hu=>(Heap.get?_update_other s.heap (Obj.mapSeq f) (Ne.symm hb)).trans hu) ⟨_,q⟩ ?_
 exact⟨hz,its',_,hv,q⟩
theorem Inv.lnew{its:List Value}{t':Nat}(I:Inv X pins σ H s)(hv:Vals ys its)(hz:ys.length<=sizeLine):
  Inv X pins σ (upd H s.heap.objs.size (.lst ys)) {s with heap:=s.heap.push {cls:= .type "list",data:= .seq its.toArray},toks:=t'}:=
 I.laid (fun _ _ q=>Heap.get?_push_of_some _ q) (Nat.le_refl _) ⟨hz,its,0,hv,Heap.get?_push_size _ rfl⟩
theorem Inv.fresh(I:Inv X pins σ H s):H s.heap.objs.size=none:=I.hok.fresh (Nat.le_refl _)
theorem Inv.lstM(I:Inv X pins σ H s)(hH:H l=some (.lst xs)):xs.length<=sizeLine/\∃(its:List Value) (n:Nat),Vals xs its/\xs.length=its.length/\s.heap.get? l=some {cls:= .type "list",data:= .seq its.toArray n}:=by
 obtain⟨z,its,n,r,e⟩:=I.hok l _ hH
 exact⟨z,its,n,r,r.length,e⟩
theorem notLongL{n:Nat}(h:n<=sizeLine):Builtin.List.listTooLong n=false:=by
 unfold Builtin.List.listTooLong
 exact decide_eq_false (by omega)
end
section
variable{X:Cx}
noncomputable def rAppend:V->List V->Hp->VK->Prop:=fun x vs H Q=>∃l xs y,x= .ref l/\vs=[y]/\H l=some (.lst xs)/\xs.length<sizeLine/\Q .non (upd H l (.lst (xs++[y])))
theorem mt_append:MtM X "list.append" rAppend:=by
 intro pins s σ H x vs v us Q I rx rv h
 obtain⟨l,xs,y,rfl,rfl,hH,hz,q⟩:=h
 cases rx
 obtain⟨u,rfl,ru⟩:=rv.one
 obtain⟨z,its,n,r,hl,e⟩:=I.lstM hH
 refine call_meets F.slot_list_append ⟨_,e,rfl⟩ F.entry_list_append (F.args_list_append_2 _ _) (PySem.list_append l its.toArray n u (by rw[List.size_toArray];omega)) ⟨e,?_⟩
 refine⟨.non,_,I.lset (its':=its++[u]) hH e (by simp) (r.append (.cons ru .nil)) ?_,rfl,q⟩
 rw[List.length_append,List.length_singleton]
 omega
noncomputable def rExtend:V->List V->Hp->VK->Prop:=fun x vs H Q=>∃l b xs zs,x= .ref l/\vs=[.ref b]/\H l=some (.lst xs)/\H b=some (.lst zs)/\xs.length+zs.length<=sizeLine/\Q .non (upd H l (.lst (xs++zs)))
theorem mt_extend:MtM X "list.extend" rExtend:=by
 intro pins s σ H x vs v us Q I rx rv h
 obtain⟨l,b,xs,zs,rfl,rfl,hH,hB,hz,q⟩:=h
 cases rx
 obtain⟨u,rfl,ru⟩:=rv.one
 cases ru
 obtain⟨z,its,n,r,hl,e⟩:=I.lstM hH
 obtain⟨z2,its2,n2,r2,hl2,e2⟩:=I.lstM hB
 have hsz:its.toArray.size+its2.toArray.size<=sizeLine:=by rw[List.size_toArray,List.size_toArray];omega
 have hlong:¬(!its.toArray.isEmpty&&Builtin.List.listTooLong (its.toArray.size+its2.toArray.size))=true:=by
  rw[notLongL hsz,Bool.and_false]
  exact Bool.false_ne_true
 refine call_meets F.slot_list_extend ⟨_,e,rfl⟩ F.entry_list_extend (F.args_list_extend_2 _ _)
  (AutoSeq1.list_extend_list_list_0 l its.toArray n b its2.toArray n2 hlong (by rw[List.size_toArray];omega) (by omega)) ⟨e,e2,?_⟩
 refine⟨.non,_,I.lset (its':=its++its2) hH e (by simp) (r.append r2) ?_,rfl,q⟩
 rw[List.length_append]
 omega
noncomputable def rPopAt:V->List V->Hp->VK->Prop:=fun x vs H Q=>∃l xs i k y,x= .ref l/\vs=[.int i]/\H l=some (.lst xs)/\ -(2^63)<=i/\i<2^63/\seqIndex? i xs.length=some k/\xs[k]? =some y/\Q y (upd H l (.lst (xs.eraseIdx k)))
theorem mt_popAt:MtM X "list.pop" rPopAt:=by
 intro pins s σ H x vs v us Q I rx rv h
 obtain⟨l,xs,i,k,y,rfl,rfl,hH,h1,h2,hk,hy,q⟩:=h
 cases rx
 obtain⟨u,rfl,ru⟩:=rv.one
 obtain⟨t,rfl⟩:=ru
 obtain⟨z,its,n,r,hl,e⟩:=I.lstM hH
 obtain⟨w,hw,rw'⟩:=r.get hy
 refine call_meets F.slot_list_pop ⟨_,e,rfl⟩ F.entry_list_pop (F.args_list_pop_2 _ _)
  (MeetsSeq.list_pop_at l its.toArray n i t k w (fitsIndex_both h1 h2) (by rw[List.size_toArray,<-hl];exact hk) (by rw[<-Array.getElem?_toList];exact hw) (by rw[List.size_toArray];omega)) ⟨e,?_⟩
 refine⟨y,_,I.lset (its':=its.eraseIdx k) hH e ?_ (r.eraseIdx k) ?_,rw',q⟩
 ·show its.toArray.eraseIdxIfInBounds k=(its.eraseIdx k).toArray
  rw[List.eraseIdxIfInBounds_toArray]
 ·have:=len_erase xs k
  omega
noncomputable def rCat:R2:=fun x y H Q=>∃l b xs zs,x= .ref l/\y= .ref b/\H l=some (.lst xs)/\H b=some (.lst zs)/\xs.length+zs.length<=sizeLine/\∀p,H p=none->Q (.ref p) (upd H p (.lst (xs++zs)))
theorem op_cat:OpR X (binaryOp .Add) rCat:=by
 intro pins s σ H x y v u Q I rx ry h
 obtain⟨l,b,xs,zs,rfl,rfl,hH,hB,hz,q⟩:=h
 cases rx
 cases ry
 obtain⟨z,its,n,r,hl,e⟩:=I.lstM hH
 obtain⟨z2,its2,n2,r2,hl2,e2⟩:=I.lstM hB
 refine PySem.P.add_list e e2 ?_ (by rw[List.size_toArray,List.size_toArray];omega)
 have ea:its.toArray++its2.toArray=(its++its2).toArray:=by simp
 rw[ea]
 exact⟨.ref _,_,I.lnew (t':=s.toks) (r.append r2) (by rw[List.length_append];omega),rfl,q _ I.fresh⟩
end
section
variable{prog:Program}{w:World}{A:Around}{E:Value->Shared->Prop}{s:Shared}
end
section
variable{X:Cx}
end
end L2
namespace Att
open PySem PySem.W PySem.Calls PyProof.Rows
theorem ints_of_wellAll{P:Params}{h:Heap}:∀(ns:List Int) (vs:List Value),WellAll P h vs (ns.map WData.int)->IntsAre vs ns:=by
 intro ns
 induction ns with
 |nil=>
  intro vs w
  rw[List.map_nil]at w
  cases w
  exact .nil
 |cons n ns ih=>
  intro vs w
  rw[List.map_cons]at w
  cases w with
  |cons a b=>
   cases a
   exact .cons _ _ (ih _ b)
theorem script_of{l:OpenLaw}{n:Nat}(hn:l.most=some n){P:Params}{h:Heap}{args:List WData}{vals:List Value}(hpre:l.row.toRowW.claim.pre args=true)(hwl:WellAll P h vals args):
  ∃a vs ns,vals=[Value.ref a]/\args=[WData.list (ns.map WData.int)]/\h.get? a=some {cls:= .type "list",data:= .seq vs.toArray}/\IntsAre vs ns/\ns.length<=n:=by
 have hsh:WShape.hasAll [] args [.list .int]=true:=(pre_splitW hpre).1
 have hc:l.pre.holds [] {args:=args}=true:=(pre_splitW hpre).2
 obtain⟨d,r,rfl,h1,h2⟩:=hasAllW_cons hsh
 obtain rfl:=hasAllW_nil h2
 obtain⟨xs,rfl,h3⟩:=hasW_list h1
 obtain⟨ns,rfl⟩:=items_int h3
 have hlen:ns.length<=n:=by
  unfold OpenLaw.pre at hc
  have h4:(WTm.not (.lt (.lit (.int (n:Int))) (.len (.arg 0)))).holds [] {args:=[.list (ns.map .int)]}=true:=by
   have h4:=(holds_andW hc).1
   rw[hn]at h4
   exact h4
  have h5:=condW_of h4 (w_not (w_lt w_lit (w_len_list (w_arg rfl))))
  rw[List.length_map]at h5
  refine Nat.le_of_not_lt fun q=> ?_
  have q':(n:Int)<((ns.length:Nat):Int):=by omega
  first
   |(rw[decide_eq_true q']at h5;exact absurd h5 (by decide))
   |(simp at h5;omega)
 cases hwl with
 |cons w1 w2=>
  cases w2
  cases w1 with
  |list ho hall=>exact⟨_,_,ns,rfl,rfl,ho,ints_of_wellAll ns _ hall,hlen⟩
theorem post_true(l:OpenLaw)(args:List WData):l.row.toRowW.claim.post args (.bool true) args=true:=
 postW_of (r:=l.row.toRowW) (X:=(true==true))
  (show WShape.has [] (.bool true) .bool=true by first |rfl|decide|simp[WShape.has,WShape.arms,WShape.armsAll])
  (show(WTm.eq .res (.lit (.bool true))).value [] {args:=args,res:=some (.bool true),after:=args}=some (.bool (true==true))from w_eq_bool (w_res rfl) w_lit) rfl
theorem attach_call{l:OpenLaw}{n:Nat}{q:Program}{loose:List Str}{XP:(Str->Option Value)->Heap->Prop}{YP:World->Heap->Prop}{d:DefRec}(hn:l.most=some n)(hdf:d.params.defaults=[])(call:∀(w:World) (s₀ s₁:Shared) (mg mb:Str->Option Value) (fa:Addr) (o:Obj) (pm cd doc:Value) (a:Addr) (vs:List Value) (ns:List Int),
   Ground q loose [] XP w s₀ mg mb s₁.heap->YP w s₁.heap->
   s₁.heap.get? fa=some o->o.data= .func (docDef d.name d.params d.body d.scope pm cd doc)->s₁.heap.CodeRec cd d.name->mg d.name=some (.ref fa)->
   s₁.heap.get? a=some {cls:= .type "list",data:= .seq vs.toArray}->IntsAre vs ns->ns.length<=n->s₁.gens=#[]->
   codeAny (model l.prog w) callerA (.call (.ref fa) ⟨[.ref a],[]⟩) (fun r s'=>r= .ok (.ret (.bool true))/\OldK s₁.heap s'.heap/\s'.os=s₁.os/\AllBare s'.gens) s₁):
  WalkO q loose XP YP l.row.toRowW d [] (fun f vs=>PySem.call f vs):=by
 intro w s₀ s₁ mg mb G Y fa o pm cd doc dV kV ho hd hcd hD hmg hg args vals as hpre hlay hrd hwl hlo
 obtain rfl:dV= .none:=Dflts.none hD hdf
 obtain rfl:kV= .none:=Dflts.noKw hD
 obtain⟨a,vs,ns,rfl,rfl,hobj,hints,hlen⟩:=script_of hn hpre hwl
 refine enter_call (codeAny_mono (call w s₀ s₁ mg mb fa o pm cd doc a vs ns G Y ho (fd_plain hd) hcd hmg hobj hints hlen hg) fun r s' hq=> ?_)
 obtain⟨rfl,h2,h3,h4⟩:=hq
 exact⟨.inl ⟨.bool true,.bool true,[],rfl,fun _=>rfl,.bool true,post_true l _,fun _=>⟨List.Pairwise.nil,fun _ hm=>(nomatch hm)⟩⟩,h2,h3,h4⟩
section
variable{prog:Program}{w:World}{A:Around}{E:Value->Shared->Prop}{s:Shared}{K:Frag}
end
end Att
namespace L2
open PySem PySem.Spec PyProof.Rows
theorem vals_ints:∀{vs:List Value} {ns:List Int},IntsAre vs ns->Vals (ns.map V.int) vs
 |_,_,.nil=> .nil
 |_,_,.cons n t h=> .cons ⟨t,rfl⟩ (vals_ints h)
noncomputable def Only(H:Hp):Prop:=∀b,H b=none\/∃o xs,H b=some (.frz o (.lst xs))
theorem law_call{P:Program}{w:World}{K:W.Frag}{mg mb:Str->Option Value}{CX:CXT}{k:Nat}{fa a:Addr}{fd:FuncData}{x:Str}{sp:Sp}{s₁:Shared}{vs:List Value}{ns:List Int}
  (KX:K.In s₁.heap)(hns:s₁.heap.Ns mainGlobals mg)(hb:s₁.heap.Ns builtinsNs mb)(hbb:∀x:Str,x≠"__name__"->mb x=bootBuiltins x)(hlim:s₁.heap.NoLimit)(hg:s₁.gens=#[])(ha:s₁.heap.get? a=some {cls:= .type "list",data:= .seq vs.toArray})(hi:IntsAre vs ns)(hl:ns.length<=sizeLine)(hr:Room k callerA)
  (F:∀base:Heap,K.In base->base.Ns mainGlobals mg->FnOk P w K mg base CX k fa fd [x] sp)(hbind:∀(s:Shared) (u:Value),BindsTo s fd ⟨[u],[]⟩ [(x,u)])(hsp:∀H:Hp,Only H->SqL K H a (ns.map V.int)->sp [.ref a] H (fun v _=>v= .bl true) fun _ _ _=>False)(hCX:∀H e s',CX [] H s₁ (fun _ _ _=>False) e s'->False):
  codeAny (model P w) callerA (.call (.ref fa) ⟨[.ref a],[]⟩) (fun r s'=>r= .ok (.ret (.bool true))/\OldK s₁.heap s'.heap/\s'.os=s₁.os/\AllBare s'.gens) s₁:=by
 have rv:=vals_ints hi
 have lenV:=hi.length
 -- from an abstract heap in which nothing but the script may be tracked
 have core:∀H:Hp,Only H->SqL K H a (ns.map V.int)->HOk P w H s₁.heap->(∀b,H b≠none->b=a)->(H a≠none->K.lookup a=none)->
   codeAny (model P w) callerA (.call (.ref fa) ⟨[.ref a],[]⟩) (fun r s'=>r= .ok (.ret (.bool true))/\OldK s₁.heap s'.heap/\s'.os=s₁.os/\AllBare s'.gens) s₁:=by
  intro H hO hS hok hA hK
  have base_of:∀{b:Addr} {o:Obj},s₁.heap.get? b=some o->H b=none->(hidT s₁.heap H).get? b=some o:=fun e n=>hidT_get e n
  have noA:∀{b:Addr} {o:Obj} {es:Array DictEntry} {ep:Nat},s₁.heap.get? b=some o->o.data= .dict es ep->H b=none:=fun{b o es ep} e d=>by
   cases q:H b with
   |none=>rfl
   |some u=>
    have e':b=a:=hA b (by rw[q];simp)
    subst e'
    rw[ha]at e;cases e
    have d':Data.seq vs.toArray _=Data.dict es ep:=d
    cases d'
  have nsK:∀{b:Addr} {m:Str->Option Value},s₁.heap.Ns b m->(hidT s₁.heap H).Ns b m:=fun{b m} ⟨o,es,ep,e,d,r⟩=>⟨o,es,ep,base_of e (noA e d),d,r⟩
  have hKb:K.In (hidT s₁.heap H):=fun b o e=>base_of (KX b o e) (by
   cases q:H b with
   |none=>rfl
   |some u=>
    have e':b=a:=hA b (by rw[q];simp)
    subst e'
    rw[hK (by rw[q];simp)]at e;cases e)
  have hM:Mod K mg (hidT s₁.heap H):=⟨hKb,nsK hns,⟨mb,nsK hb,hbb⟩,let⟨mc,h1,h2⟩:=hlim;⟨mc,nsK h1,h2⟩⟩
  have e0:Env0 P w K mg (hidT s₁.heap H) callerA [] s₁ H:=⟨rfl,hM,fun b o e=>of_hidT e,Nat.le_of_eq (hidT_size _ _),trivial,fun b hb=>absurd (show b∈([]:List Addr)from hb) (by simp),hok,.of_eq hg⟩
  refine codeAny_mono ((F _ hKb (nsK hns)).run callerA [] s₁ H ⟨[.ref a],[]⟩ [.ref a] [.ref a] _ _ hr e0 (hbind s₁ (.ref a)) (.cons rfl .nil) (hsp H hO hS)) fun r s' h=> ?_
  cases r with
  |error e=>exact(hCX H e s' h).elim
  |ok fl=>
   cases fl with
   |next=>exact False.elim h
   |brk=>exact False.elim h
   |cont=>exact False.elim h
   |ret u=>
    obtain⟨v,H',os,bare,un,hok',r',q⟩:=h
    have q':v= .bl true:=q
    subst q'
    obtain rfl:u=Value.bool true:=r'
    refine⟨rfl,OldK.of_keep fun b o e=> ?_,os,bare⟩
    cases q:H b with
    |none=>exact un.keep b o e q (by intro z;exact absurd (show b∈([]:List Addr)from z) (by simp)) (by simp)
    |some u=>
     rcases hO b with z|⟨ob,xs,z⟩
     ·rw[q]at z;cases z
     ·have z2:=un.frzs b ob _ z
      obtain⟨e1,_⟩:=hok b _ z
      obtain⟨e2,_⟩:=hok' b _ z2
      rw[e]at e1;cases e1
      exact e2
 cases hk:K.lookup a with
 |some o=>
  -- the script is one of the module's own objects
  have e:=KX a o hk
  rw[ha]at e
  cases e
  refine core (fun _=>none) (fun _=> .inl rfl) (.inr ⟨_,vs.toArray,_,hk,rfl,rfl,rfl,by rw[List.size_toArray,lenV];exact hl,by simpa using rv⟩) (fun b u z=>by have z':(none:Option HO)=some u:=z;cases z') (fun b z=>absurd rfl z) fun z=>absurd rfl z
 |none=>
  refine core (fun b=>if b=a then some (.frz {cls:= .type "list",data:= .seq vs.toArray} (.lst (ns.map V.int)))else none) (fun b=> ?_) (.inl (.inr ⟨{cls:= .type "list",data:= .seq vs.toArray},if_pos rfl⟩)) (fun b u z=> ?_) (fun b z=> ?_) fun _=>hk
  ·by_cases hb:b=a
   ·exact .inr ⟨_,_,if_pos hb⟩
   ·exact .inl (if_neg hb)
  ·by_cases hb:b=a
   ·have z':=(if_pos hb).symm.trans z
    cases z'
    subst hb
    exact⟨ha,by rw[List.length_map];exact hl,vs,_,rv,ha⟩
   ·have z':=(if_neg hb).symm.trans z
    cases z'
  ·by_cases hb:b=a
   ·exact hb
   ·exact absurd (if_neg hb) z
end L2
namespace L2
open PySem PySem.Spec PyProof.Rows
theorem walk_of{l:PySem.W.OpenLaw}{n k:Nat}{q:Program}{loose:List Str}{XP:(Str->Option Value)->Heap->Prop}{YP:World->Heap->Prop}{d:DefRec}{K:Params->PySem.W.Frag}{CX:World->CXT}{sp:World->Sp}{x:Str}(hn:l.most=some n)(hn2:n<=sizeLine)(hdf:d.params.defaults=[])(hr:Room k callerA)(hY:∀(w:World) (h:Heap),YP w h->(K w.params).In h)
  (F:∀(w:World) (mg:Str->Option Value) (fa:Addr) (h:Heap),(K w.params).In h->h.Ns mainGlobals mg->mg d.name=some (.ref fa)->
   ∃fd:FuncData,(∀(s:Shared) (u:Value),BindsTo s fd ⟨[u],[]⟩ [(x,u)])/\
    ∀base:Heap,(K w.params).In base->base.Ns mainGlobals mg->FnOk l.prog w (K w.params) mg base (CX w) k fa fd [x] (sp w))(hsp:∀(w:World) (H:Hp) (a:Addr) (ns:List Int),ns.length<=n->Only H->SqL (K w.params) H a (ns.map V.int)->sp w [.ref a] H (fun v _=>v= .bl true) fun _ _ _=>False)(hCX:∀(w:World) (H:Hp) (s:Shared) (e:Value) (s':Shared),CX w [] H s (fun _ _ _=>False) e s'->False):
  PySem.W.WalkO q loose XP YP l.row.toRowW d [] (fun f vs=>PySem.call f vs):=by
 refine Att.attach_call hn hdf fun w s₀ s₁ mg mb fa o pm cd doc a vs ns G Y ho hd hcd hmg hobj hints hlen hg=> ?_
 have KX:=hY w _ Y
 obtain⟨fd,hb,hF⟩:=F w mg fa _ KX G.T.g hmg
 exact law_call KX G.T.g G.T.b G.T.builtins G.T.nolimit hg hobj hints (Nat.le_trans hlen hn2) hr hF hb (fun H hO hS=>hsp w H a ns hlen hO hS) fun H e s'=>hCX w H s₁ e s'
end L2
namespace L2
open PySem PySem.Spec PyProof.Rows
noncomputable def defArgs(s:Stmt):Arguments:=match s with
 | .FunctionDef _ a _ _ _ _ _ _ _ _=>a
 |_=>{posonlyargs:=[],args:=[],vararg:=none,kwonlyargs:=[],kw_defaults:=[],kwarg:=none,defaults:=[]}
noncomputable def defBody(s:Stmt):List Stmt:=match s with
 | .FunctionDef _ _ b _ _ _ _ _ _ _=>b
 |_=>[]
noncomputable def defScope(s:Stmt):Scope:=match s with
 | .FunctionDef _ _ _ _ _ _ sc _ _ _=>sc
 |_=>{kind:= .function,names:=[],isGenerator:=false,isCoroutine:=false}
noncomputable abbrev CX0:CXT:=fun _ _ _ _ _ _=>False
noncomputable abbrev E0:XK:=fun _ _ _=>False
theorem pass0{X:Cx}:Passes CX0 X E0:=fun _ _ _ _ _ _ _ h=>h.elim
structure Fun(K:W.Frag)(x qual:Str)(st:Stmt)(f:Addr)(fd:FuncData):Prop where
 ex:∃(oc:Value) (od:Option Addr) (kV doc pm:Value) (an:Option Addr) (cdv ct:Value) (osl:Array (Option Value)),
  fd=PySem.W.fnOf x qual (defArgs st) (defBody st) (defScope st) .none kV doc pm an cdv ct/\K.lookup f=some ⟨oc,od,.func fd,osl⟩/\PySem.W.codeIn K cdv qual=true
 kp:PySem.W.keepIn K (.ref f)=true
section
variable{P:Program}{w:World}{K:W.Frag}{mg:Str->Option Value}{base:Heap}
theorem Fun.ok{x qual:Str}{st:Stmt}{f:Addr}{fd:FuncData}{N ps:List Str}{k:Nat}{sp:Sp}(F:Fun K x qual st f fd)(S:FnScope N ps (defScope st))(len:∀vs H Q E,sp vs H Q E->vs.length=ps.length)(hbody:∀(cdv:Value) (A:Around) (outer:List Env) (s:Shared) (H:Hp) (vs:List V) (Q:VK) (E:XK),Room k (A.deeper (envOfC qual (defScope st) s.heap.objs.size f cdv))->sp vs H Q E->
   ∃t,PSs (cxOf CX0 P w K mg base N qual (defScope st) f cdv A outer s H E).nox (defBody st) t/\t {nx:=fun _ H'=>Q .non H',rt:=Q} (start N vs) H):FnOk P w K mg base CX0 (k+1) f fd ps sp:=by
 obtain⟨oc,od,kV,doc,pm,an,cdv,ct,osl,rfl,lk,hcd⟩:=F.ex
 refine fn_of lk hcd S len fun A outer s H vs Q E hr hsp=> ?_
 obtain⟨t,h,q⟩:=hbody cdv A outer s H vs Q E hr hsp
 exact⟨t,h.nox,q⟩
theorem Fun.binds{x qual:Str}{st:Stmt}{f:Addr}{fd:FuncData}{ps:List Str}(F:Fun K x qual st f fd)(h:∀(kV doc pm:Value) (an:Option Addr) (cdv ct:Value) (us:List Value),us.length=ps.length->bindArgs (PySem.W.fnOf x qual (defArgs st) (defBody st) (defScope st) .none kV doc pm an cdv ct) ⟨us,[]⟩=pure (ps.zip us)):Binds K fd ps []:=by
 obtain⟨oc,od,kV,doc,pm,an,cdv,ct,osl,rfl,lk,hcd⟩:=F.ex
 exact .all (h kV doc pm an cdv ct)
theorem zax{x qual:Str}{st:Stmt}{f:Addr}{oc:Value}{od an:Option Addr}{osl:Array (Option Value)}{kV doc pm cdv ct:Value}(l:K.lookup f=some ⟨oc,od,.func (PySem.W.fnOf x qual (defArgs st) (defBody st) (defScope st) .none kV doc pm an cdv ct),osl⟩)(c:PySem.W.codeIn K cdv qual=true)(k:PySem.W.keepIn K (.ref f)=true):Fun K x qual st f (PySem.W.fnOf x qual (defArgs st) (defBody st) (defScope st) .none kV doc pm an cdv ct):=⟨⟨oc,od,kV,doc,pm,an,cdv,ct,osl,rfl,l,c⟩,k⟩
end
theorem small1000{n:Nat}(h:n<=1000):n<sizeLine:=Nat.lt_of_le_of_lt h (by decide)
section
variable{X:Cx}
theorem pv(i:Nat){x:Str}{pos:Pos}(hN:X.N[i]? =some x:=by rfl)(hv:Vis X.env.scope x:=by first |exact Or.inl rfl|exact Or.inr (Or.inl rfl)|exact Or.inr (Or.inr rfl))(hd:(x==("__debug__":Str))=false:=by decide)(hcd:(x==("__classdict__":Str))=false:=by decide):PE X (.Name x pos) (tVar i):=pe_var hN hv hd hcd
end
theorem iteF{A B:Prop}(h:B):if false=true then A else B:=by
 rw[if_neg Bool.false_ne_true]
 exact h
theorem iteT{A B:Prop}(h:A):if true=true then A else B:=by
 rw[if_pos rfl]
 exact h
theorem ite2{c A B:Prop} [Decidable c](h1:c->A)(h2:¬c->B):if c then A else B:=by
 by_cases h:c
 ·rw[if_pos h]
  exact h1 h
 ·rw[if_neg h]
  exact h2 h
theorem iteNS{c A B:Prop} [Decidable c](hc:c)(h:B):if(!decide c)=true then A else B:=by
 rw[decide_eq_true hc]
 exact iteF h
noncomputable def Same(H H':Hp):Prop:=∀b o,H b=some o->H' b=some o
theorem Same.refl(H:Hp):Same H H:=fun _ _ h=>h
theorem Same.trans{H H1 H2:Hp}(a:Same H H1)(b:Same H1 H2):Same H H2:=fun c o h=>b c o (a c o h)
theorem Same.free{H H':Hp}(e:Same H H'){l:Addr}(h:H' l=Option.none):H l=Option.none:=by
 cases q:H l with
 |none=>rfl
 |some o=>
  rw[e l o q]at h
  cases h
theorem Same.seq{K:W.Frag}{H H':Hp}{a:Addr}{xs:List V}(e:Same H H')(h:SqL K H a xs):SqL K H' a xs:=by
 rcases h with(h|⟨o,h⟩)|h
 ·exact .inl (.inl (e _ _ h))
 ·exact .inl (.inr ⟨o,e _ _ h⟩)
 ·exact .inr h
end L2
set_option maxHeartbeats 4000000
namespace L2
open PySem PySem.Spec PyProof.Rows
noncomputable def clOf(cells:List (Str×Addr)):List (Str×NameKind)->List (Str×Addr)->List (Str×Addr)
 |[],acc=>acc
 |p::r,acc=>clOf cells r (if(p.2==NameKind.free)=true then(p.1,(cells.lookup p.1).getD 0)::acc else acc)
theorem clOf_mem{cells:List (Str×Addr)}:∀{names:List (Str×NameKind)} {acc:List (Str×Addr)} {x:Str} {c:Addr},(x,c)∈clOf cells names acc->(x,c)∈acc\/c=(cells.lookup x).getD 0/\(x,NameKind.free)∈names
 |[],_,_,_,h=> .inl h
 |(n,k)::r,acc,x,c,h=>by
  rcases clOf_mem (names:=r) h with q|⟨q,m⟩
  ·dsimp only at q
   split at q
   ·rename_i hk
    rcases List.mem_cons.mp q with e|e
    ·cases e
     have:k=NameKind.free:=by simpa using hk
     subst this
     exact .inr ⟨rfl,List.mem_cons_self⟩
    ·exact .inl e
   ·exact .inl q
  ·exact .inr ⟨q,List.mem_cons_of_mem _ m⟩
theorem clOf_acc{cells:List (Str×Addr)}:∀{names:List (Str×NameKind)} {acc:List (Str×Addr)} {p:Str×Addr},p∈acc->p∈clOf cells names acc
 |[],_,_,h=>h
 |(n,k)::r,acc,p,h=>by
  refine clOf_acc (names:=r) ?_
  split
  ·exact List.mem_cons_of_mem _ h
  ·exact h
theorem clOf_has{cells:List (Str×Addr)}:∀{names:List (Str×NameKind)} {acc:List (Str×Addr)} {x:Str},(x,NameKind.free)∈names->∃c,(x,c)∈clOf cells names acc
 |(n,k)::r,acc,x,h=>by
  rcases List.mem_cons.mp h with e|e
  ·cases e
   refine⟨(cells.lookup n).getD 0,clOf_acc (names:=r) ?_⟩
   rw[if_pos (show(NameKind.free==NameKind.free)=true from rfl)]
   exact List.mem_cons_self
  ·exact clOf_has (names:=r) e
theorem zbw{β:Type}:∀{l:List (Str×β)} {x:Str} {c:β},(x,c)∈l->∃d,l.lookup x=some d/\(x,d)∈l
 |(n,k)::r,x,c,h=>by
  cases hx:x==n with
  |true=>
   have e:x=n:=by simpa using hx
   subst e
   exact⟨k,by simp[List.lookup_cons],List.mem_cons_self⟩
  |false=>
   rcases List.mem_cons.mp h with e|e
   ·cases e;simp at hx
   ·obtain⟨d,h1,h2⟩:=zbw e
    exact⟨d,by simp only[List.lookup_cons,hx];exact h1,List.mem_cons_of_mem _ h2⟩
noncomputable def compOk(sc scope:Scope):Bool:=scope.names.all fun p=>(p.2 !=NameKind.cell)&&(p.2 !=NameKind.local||scope.names.lookup p.1==some NameKind.local)&&
 (p.2 !=NameKind.free||sc.names.lookup p.1==some NameKind.cell||sc.names.lookup p.1==some NameKind.free)
section
variable{sc scope:Scope}
theorem compOk.cell(h:compOk sc scope=true):∀y∈scope.names,y.2≠.cell:=fun y hy e=>by
 have q:=List.all_eq_true.mp h y hy
 simp[e]at q
theorem compOk.names(h:compOk sc scope=true):∀y∈scope.names,y.2= .local->scope.names.lookup y.1=some .local:=fun y hy e=>by
 have q:=List.all_eq_true.mp h y hy
 simpa[e]using q
theorem compOk.free(h:compOk sc scope=true){x:Str}(hy:(x,NameKind.free)∈scope.names):sc.names.lookup x=some .cell\/sc.names.lookup x=some .free:=by
 have q:=List.all_eq_true.mp h _ hy
 simpa using q
end
theorem closure_of{scope:Scope}{env:Env}(h:∀x,(x,NameKind.free)∈scope.names->∃c,env.cells.lookup x=some c):closureFor scope env=pure (clOf env.cells scope.names []):=by
 have key:∀(names:List (Str×NameKind)) (acc:List (Str×Addr)),(∀x,(x,NameKind.free)∈names->∃c,env.cells.lookup x=some c)->
   (forIn names acc fun(x:Str×NameKind) (cs:List (Str×Addr))=>if(x.2==NameKind.free)=true then(do let y<-cellOf env x.1;pure (ForInStep.yield ((x.1,y)::cs)))else pure (ForInStep.yield cs):Sem (List (Str×Addr)))=pure (clOf env.cells names acc):=by
  intro names
  induction names with
  |nil=>intro acc _;rfl
  |cons p r ih=>
   intro acc hh
   obtain⟨n,k⟩:=p
   rw[List.forIn_cons]
   dsimp only
   by_cases hk:(k==NameKind.free)=true
   ·have e:k=NameKind.free:=by simpa using hk
    subst e
    obtain⟨c,hc⟩:=hh n List.mem_cons_self
    rw[if_pos hk]
    unfold cellOf
    rw[hc]
    simp only[pure_bind]
    refine Eq.trans (ih _ fun x hx=>hh x (List.mem_cons_of_mem _ hx)) ?_
    show _=pure (clOf env.cells r (if(NameKind.free==NameKind.free)=true then(n,(env.cells.lookup n).getD 0)::acc else acc))
    rw[if_pos hk,hc]
    rfl
   ·rw[if_neg hk]
    simp only[pure_bind]
    refine Eq.trans (ih _ fun x hx=>hh x (List.mem_cons_of_mem _ hx)) ?_
    show _=pure (clOf env.cells r (if(k==NameKind.free)=true then(n,(env.cells.lookup n).getD 0)::acc else acc))
    rw[if_neg hk]
 have q:=key scope.names [] h
 unfold closureFor
 simp only[bind_pure]
 exact q
theorem relab_look{env:Env}:∀{names:List (Str×NameKind)} {x:Str} {k:NameKind},names.lookup x=some k->
  (names.map fun(n,k)=>if(k==NameKind.free&&env.scope.kind== .function&&env.kindOf n==some .cell)then(n,NameKind.cell)else(n,k)).lookup x=some (if(k==NameKind.free&&env.scope.kind== .function&&env.kindOf x==some .cell)=true then .cell else k)
 |[],_,_,h=>by simp at h
 |(n,k)::r,x,k',h=>by
  have ih:= @relab_look env r x k'
  show List.lookup x ((if(k==NameKind.free&&env.scope.kind== .function&&env.kindOf n==some .cell)=true then(n,NameKind.cell)else(n,k))::_)=_
  cases hx:x==n with
  |true=>
   have e:x=n:=by simpa using hx
   subst e
   simp only[List.lookup_cons,hx]at h
   cases h
   by_cases hc:(k==NameKind.free&&env.scope.kind== .function&&env.kindOf x==some .cell)=true
   ·rw[if_pos hc,if_pos hc];simp[List.lookup_cons]
   ·rw[if_neg hc,if_neg hc];simp[List.lookup_cons]
  |false=>
   simp only[List.lookup_cons,hx]at h
   by_cases hc:(k==NameKind.free&&env.scope.kind== .function&&env.kindOf n==some .cell)=true
   ·rw[if_pos hc];simp only[List.lookup_cons,hx];exact ih h
   ·rw[if_neg hc];simp only[List.lookup_cons,hx];exact ih h
theorem relab_none{env:Env}:∀{names:List (Str×NameKind)} {x:Str},names.lookup x=none->
  (names.map fun(n,k)=>if(k==NameKind.free&&env.scope.kind== .function&&env.kindOf n==some .cell)then(n,NameKind.cell)else(n,k)).lookup x=none
 |[],_,_=>rfl
 |(n,k)::r,x,h=>by
  have ih:= @relab_none env r x
  show List.lookup x ((if(k==NameKind.free&&env.scope.kind== .function&&env.kindOf n==some .cell)=true then(n,NameKind.cell)else(n,k))::_)=_
  cases hx:x==n with
  |true=>simp only[List.lookup_cons,hx]at h;cases h
  |false=>
   simp only[List.lookup_cons,hx]at h
   by_cases hc:(k==NameKind.free&&env.scope.kind== .function&&env.kindOf n==some .cell)=true
   ·rw[if_pos hc];simp only[List.lookup_cons,hx];exact ih h
   ·rw[if_neg hc];simp only[List.lookup_cons,hx];exact ih h
theorem relab_cell{scope:Scope}{env:Env}{x:Str}(hc:∀y∈scope.names,y.2≠.cell)(h:(relabel scope env).names.lookup x=some .cell\/(relabel scope env).names.lookup x=some .free):(x,NameKind.free)∈scope.names:=by
 cases e:scope.names.lookup x with
 |none=>
  have q:=relab_none (env:=env) e
  rcases h with h|h
  ·rw[show(relabel scope env).names.lookup x=none from q]at h;cases h
  ·rw[show(relabel scope env).names.lookup x=none from q]at h;cases h
 |some k=>
  have q:=relab_look (env:=env) e
  have m:=PySem.mem_of_lookup e
  by_cases hk:k= .free
  ·subst hk;exact m
  ·have q':(relabel scope env).names.lookup x=some k:=by
    refine Eq.trans q ?_
    have:(k==NameKind.free)=false:=by simpa using hk
    simp[this]
   rw[q']at h
   rcases h with h|h
   ·cases h;exact absurd rfl (hc _ m)
   ·cases h;exact absurd rfl hk
theorem relab_free{scope:Scope}{env:Env}{x:Str}(h:scope.names.lookup x=some .free):(relabel scope env).names.lookup x=some .cell\/(relabel scope env).names.lookup x=some .free:=by
 have q:=relab_look (env:=env) h
 by_cases hc:((NameKind.free==NameKind.free)&&env.scope.kind== .function&&env.kindOf x==some .cell)=true
 ·rw[if_pos hc]at q;exact .inl q
 ·rw[if_neg hc]at q;exact .inr q
noncomputable def compCx(X:Cx)(scope:Scope)(N:List Str)(s:Shared)(H:Hp)(cl:List (Str×Addr))(C:Addr)(ex:List Addr):Cx:=
 {X with N:=N,s₀:=s,H₀:=H,env:=compEnvC scope cl C X.env,outer:=X.stack,ex:=ex,fn:=fun _=>false,pn:=[],xe:=fun _ _=>False}
inductive Caps(X:Cx)(scope:Scope):List Str->List Nat->Prop
 |nil:Caps X scope [] []
 |cons {x:Str} {j:Nat} {xs:List Str} {js:List Nat} (hN:X.N[j]? =some x) (hf:scope.names.lookup x=some .free) (t:Caps X scope xs js):Caps X scope (x::xs) (j::js)
theorem Caps.get{X:Cx}{scope:Scope}:∀{xs:List Str} {js:List Nat} {k:Nat} {x:Str},Caps X scope xs js->xs[k]? =some x->∃j,js[k]? =some j/\X.N[j]? =some x/\scope.names.lookup x=some .free
 |_,_,k,x,.nil,h=>by simp at h
 |_,_,0,x,.cons h1 h2 _,h=>by simp at h;subst h;exact⟨_,rfl,h1,h2⟩
 |_,_,k+1,x,.cons _ _ t,h=>by
  obtain⟨j,a,b⟩:=Caps.get (k:=k) t (by simpa using h)
  exact⟨j,by simpa using a,b⟩
theorem Caps.len{X:Cx}{scope:Scope}:∀{xs:List Str} {js:List Nat},Caps X scope xs js->xs.length=js.length
 |_,_,.nil=>rfl
 |_,_,.cons _ _ t=>by simp[Caps.len t]
noncomputable def iniOf(own:List Str)(ix:List Nat)(σ:St):St:=own.map (fun _=>none)++ix.map fun j=>(σ[j]?).join
noncomputable def PTs(X:Cx)(ifs:List Expr)(t:TT):Prop:=
 ∀(pins:List (Addr×Obj)) (s:Shared) (σ:St) (H:Hp) (Q:Bool->Hp->Prop),Inv X pins σ H s->t σ H Q->
  wpAny (model X.prog X.w) X.A (forIn ifs true fun c r=>if r=true then do let ok<-isTrue c X.env (eval c X.env);pure (ForInStep.yield ok)else pure (ForInStep.yield r)) (TP X pins σ Q) X.xe s
theorem zcx{X:Cx}:PTs X [] (fun _ H Q=>Q true H):=fun _ _ _ H _ I h=>wpAny_tests_nil ⟨H,I,h⟩
theorem pts_one{X:Cx}{c:Expr}{t:TT}(h:PT X c t):PTs X [c] t:=fun pins s σ H Q I hq=>wpAny_tests_one (h pins s σ H Q I hq)
theorem HOk.add{P:Program}{w:World}{H:Hp}{h:Heap}{a:Addr}{o:HO}(x:HOk P w H h)(hn:H a=none)(new:ObjOk P w (upd H a o) h a o):HOk P w (upd H a o) h:=fun b u e=>by
 by_cases hb:b=a
 ·subst hb;rw[zac]at e;cases e;exact new
 ·rw[zbz hb]at e
  exact(x b u e).stay (fun c v _ q=>q) (fun c q=>by rw[zbz (zbs q hn)];exact q) fun c xs q=>by rw[zbz (zbs q hn)];exact q
theorem Un.add{fs ex:List Addr}{H H':Hp}{h h':Heap}{a:Addr}{o:HO}(u:Un fs ex H H' h h')(ha:h.objs.size<=a)(hn:H' a=none):Un fs ex H (upd H' a o) h h' where
 keep:=u.keep
 slot:=u.slot
 free:=fun b ob q n hx=>by rw[zbz (Nat.ne_of_lt (Nat.lt_of_lt_of_le (Heap.lt_size q) ha))];exact u.free b ob q n hx
 there:=u.there
 tups:=fun b xs q=>by have:=u.tups b xs q;rw[zbz (zbs this hn)];exact this
 frzs:=fun b ob xs q=>by have:=u.frzs b ob xs q;rw[zbz (zbs this hn)];exact this
 tbls:=fun b ps q=>by obtain⟨m,e⟩:=u.tbls b ps q;exact⟨m,by rw[zbz (zbs e hn)];exact e⟩
end L2
namespace L2
open PySem PySem.Spec PyProof.Rows
section
variable{X:Cx}{tg iter elt:Expr}{ifs:List Expr}{scope:Scope}{pos:Pos}{own caps:List Str}{ix:List Nat}{g:TG}{tc:TT}{te:TE}
theorem comp_entry{pins:List (Addr×Obj)}{s s':Shared}{σ:St}{H:Hp}{fp:List Addr}{C:Addr}{m:Str->Option Value}(ck:compOk X.env.scope scope=true)(hkind:scope.kind= .function)(hcap:Caps X scope caps ix)
  (I:Inv X pins σ H s)(f2:∀b∈fp,FpOk X pins H b)(hlt:∀b∈fp,b<s.heap.objs.size)(hC:s.heap.objs.size<=C)(hos:s'.os=s.os)(hg:AllBare s'.gens)(hk:∀b o,s.heap.get? b=some o->s'.heap.get? b=some o)(hn:s'.heap.Ns C m):
  Inv (compCx X scope (own++caps) s H (clOf X.env.cells scope.names []) C fp) [] (iniOf own ix σ) H s':=by
 have cl1:∀x c,(clOf X.env.cells scope.names []).lookup x=some c->X.env.cells.lookup x=some c:=fun x c e=>by
  rcases clOf_mem (PySem.mem_of_lookup e)with q|⟨q,mm⟩
  ·cases q
  ·obtain⟨d,hd⟩:=I.ok.has x (compOk.free ck mm)
   rw[hd]at q
   rw[hd,q];rfl
 have cl2:∀x,(x,NameKind.free)∈scope.names->∃c,(clOf X.env.cells scope.names []).lookup x=some c:=fun x mm=>by
  obtain⟨c,hc⟩:=clOf_has (cells:=X.env.cells) (acc:=[]) mm
  obtain⟨d,hd,_⟩:=zbw hc
  exact⟨d,hd⟩
 have bsz:X.base.objs.size<=s.heap.objs.size:=Nat.le_trans I.ok.bsz I.sz
 refine⟨⟨I.ok.mod,hkind,I.ok.glob,I.ok.blt,hC,fun x y c h1 h2=>I.ok.inj x y c (cl1 x c h1) (cl1 y c h2),fun x hx=>cl2 x (relab_cell (compOk.cell ck) hx),fun x c h=>(nomatch h),I.ok.hd,I.ok.frames,.inl rfl,fun b hb=>⟨Nat.ne_of_lt (Nat.lt_of_lt_of_le (hlt b hb) hC),fun x c e=>(f2 b hb).2.2.2.2.1 x c (cl1 x c e)⟩,I.bs,bsz,
  fun b o e hb=> ?_,fun b hb hz=> ?_,I.stack,I.stkFree⟩,?_,hg,Un.kept hk,⟨m,hn,fun i x v h1 h2 h3=> ?_⟩,fun x c e=> ?_,I.hok.fresh hC,fun x c e=>I.freeC x c (cl1 x c e),fun p hp=>absurd (show p∈([]:List (Addr×Obj))from hp) (by simp),I.hok.kept hk,?_⟩
 ·rcases(f2 b hb).2.2.2.1 with z|z
  ·exact I.ok.noex b o e z
  ·exact absurd (Nat.lt_of_lt_of_le (Heap.lt_size e) (Nat.le_trans I.ok.bsz z)) (Nat.lt_irrefl _)
 ·rcases List.mem_cons.mp (I.stkSub b hz)with z|z
  ·exact(f2 b hb).2.1 z
  ·exact(f2 b hb).2.2.1 z
 ·exact hos
 ·have h1:(own++caps)[i]? =some x:=h1
  have h2:(own.map (fun _=>(none:Option V))++ix.map fun j=>(σ[j]?).join)[i]? =some (some v):=h2
  by_cases hi:i<own.length
  ·rw[List.getElem?_append_left (by simpa using hi),List.getElem?_map]at h2
   cases e:own[i]? <;>rw[e]at h2<;>simp at h2
  ·rw[List.getElem?_append_right (by simpa using hi)]at h2
   rw[List.getElem?_append_right (by omega)]at h1
   rw[List.length_map]at h2
   obtain⟨j,e1,e2,e3⟩:=hcap.get h1
   rw[List.getElem?_map,e1]at h2
   have h2':(σ[j]?).join=some v:=by simpa using h2
   have h4:σ[j]? =some (some v):=by
    cases q:σ[j]? with
    |none=>rw[q]at h2';cases h2'
    |some w=>rw[q]at h2';exact congrArg some h2'
   obtain⟨m0,hn0,hl0⟩:=I.loc
   have mm:=PySem.mem_of_lookup e3
   have vis:=compOk.free ck mm
   obtain⟨u,r,l⟩:=hl0 j x v e2 h4 (.inr vis)
   refine⟨u,r,.inr ?_⟩
   rcases l with⟨k,_⟩|⟨k,c,e,z⟩
   ·rcases vis with q|q
    ·rw[show X.env.kindOf x=some .cell from q]at k;cases k
    ·rw[show X.env.kindOf x=some .free from q]at k;cases k
   ·obtain⟨d,hd⟩:=cl2 x mm
    have:=cl1 x d hd
    rw[e]at this
    cases this
    exact⟨relab_free e3,c,hd,z.keeps hk⟩
 ·obtain⟨v,z⟩:=I.cell x c (cl1 x c e)
  exact⟨v,z.keeps hk⟩
 ·show(own.map (fun _=>(none:Option V))++ix.map fun j=>(σ[j]?).join).length=(own++caps).length
  simp[hcap.len]
theorem comp_core(ck:compOk X.env.scope scope=true)(hkind:scope.kind= .function)(hcap:Caps X scope caps ix)(hc:X.calm=true)(hg:∀s H cl C ex,PG (compCx X scope (own++caps) s H cl C ex) tg g)(ht:∀s H cl C ex,PTs (compCx X scope (own++caps) s H cl C ex) ifs tc)(he:∀s H cl C ex,PE (compCx X scope (own++caps) s H cl C ex) elt te){pins:List (Addr×Obj)}{s2:Shared}{σ:St}{H2:Hp}{E:Value->Shared->Prop}(I2:Inv X pins σ H2 s2){it:Addr}{fp:List Addr}{tn:Nat->Heap->Prop}{J:It}(T:Turn X.prog X.w X.K tg J fp it tn)(st2:tn 0 s2.heap)(f2:∀b∈fp,FpOk X pins H2 b)
  {W:Nat->Nat->List V->St->Hp->Prop}{m0:Nat}(w0:W 0 m0 [] (iniOf own ix σ) H2){Fin:List V->Hp->Prop}(turn:∀i m acc σ H,W i m acc σ H->(J.stop i H/\acc.length<=sizeLine/\Fin acc H)\/(J.go i H/\acc.length<sizeLine/\∃N:List V->St->Hp->Prop,(∀acc' σ' H',N acc' σ' H'->∃m',m'<m/\W (i+1) m' acc' σ' H')/\∀x H',J.yld i H x H'->g x σ H' fun σ2 H2=>tc σ2 H2 fun b H3=>
   if b=true then te σ2 H3 fun v H4=>N (acc++[v]) σ2 H4 else N acc σ2 H3))
  {RR:Value->Addr->Result->Shared->Prop}(hRR:∀D C s' acc Hf m,Inv X pins σ (upd Hf D (.lst acc)) s'->Hf D=none->s'.heap.Ns C m->FpOk X pins (upd Hf D (.lst acc)) C->Fin acc Hf->RR (.ref D) C (.ok .next) s'):
  wpAny (model X.prog X.w) X.A (newList []) (fun acc s₃=>wpAny (model X.prog X.w) X.A (newFunctionEnv scope X.env.globals (clOf X.env.cells scope.names []) [] X.env.qual none .none (some X.env)) (fun cenv s₄=>
   codeAny (model X.prog X.w) X.A (.compStart (.ListComp elt [⟨tg,iter,ifs,0⟩] scope pos) 0 (.ref it) acc {cenv with scope:=relabel scope X.env}) (RR acc cenv.locals) s₄) E s₃) E s2:=by
 refine wpAny_newObj_type (wpAny_newFunctionEnv (compOk.cell ck) (by intro y hy;simp at hy) (fun h₁ hns₁ hsb₁=> ?_) hkind)
 dsimp only at hns₁ hsb₁⊢
 generalize hP:s2.heap.push {cls:= .type "list",dict:=none,data:= .seq ([]:List Value).toArray}=P1 at hns₁ hsb₁⊢
 have hC:P1.objs.size=s2.heap.objs.size+1:=by rw[<-hP,Heap.size_push]
 have hlt:∀b∈fp,b<s2.heap.objs.size:=fun b hb=>by
  obtain⟨o,e,_⟩:=T.obj _ _ st2 b hb
  exact Heap.lt_size e
 have old:∀b o,s2.heap.get? b=some o->h₁.get? b=some o:=fun b o e=>
  hsb₁.extBut b o (by rw[hC];exact Nat.ne_of_lt (Nat.lt_succ_of_lt (Heap.lt_size e))) (Heap.get?_push_of_some _ (hP▸Heap.get?_push_of_some _ e))
 have hD1:h₁.get? s2.heap.objs.size=some {cls:= .type "list",data:= .seq ([]:List Value).toArray 0}:=
  hsb₁.extBut _ _ (by rw[hC];exact Nat.ne_of_lt (Nat.lt_succ_self _)) (Heap.get?_push_of_some _ (hP▸Heap.get?_push_size _ rfl))
 generalize hDD:s2.heap.objs.size=D at *
 rw[hC]at hns₁⊢
 have entry:Inv (compCx X scope (own++caps) s2 H2 (clOf X.env.cells scope.names []) (D+1) fp) [] (iniOf own ix σ) H2 {s2 with heap:=h₁,toks:=s2.toks+([]:List (Str×Value)).length}:=
  comp_entry ck hkind hcap I2 f2 (by rw[hDD];exact hlt) (by rw[hDD];exact Nat.le_succ _) rfl I2.bare old hns₁
 generalize hX':compCx X scope (own++caps) s2 H2 (clOf X.env.cells scope.names []) (D+1) fp=X' at entry
 have eP:X'.prog=X.prog:=by rw[<-hX'];rfl
 have ew:X'.w=X.w:=by rw[<-hX'];rfl
 have eK:X'.K=X.K:=by rw[<-hX'];rfl
 have eA:X'.A=X.A:=by rw[<-hX'];rfl
 have ecalm:X'.calm=true:=by rw[<-hX'];exact hc
 have efs:X'.fs=frs X.stack:=by rw[<-hX'];rfl
 have eex:X'.ex=fp:=by rw[<-hX'];rfl
 have epn:X'.pn=[]:=by rw[<-hX'];rfl
 have es0:X'.s₀=s2:=by rw[<-hX'];rfl
 have eH0:X'.H₀=H2:=by rw[<-hX'];rfl
 have exe:X'.xe=fun _ _=>False:=by rw[<-hX'];rfl
 have eenv:X'.env=compEnvC scope (clOf X.env.cells scope.names []) (D+1) X.env:=by rw[<-hX'];rfl
 have eloc:X'.env.locals=D+1:=by rw[eenv];rfl
 have hg':PG X' tg g:=by rw[<-hX'];exact hg _ _ _ _ _
 have ht':PTs X' ifs tc:=by rw[<-hX'];exact ht _ _ _ _ _
 have he':PE X' elt te:=by rw[<-hX'];exact he _ _ _ _ _
 have ecl:∀x c,X'.env.cells.lookup x=some c->c<D:=fun x c e=>by
  obtain⟨v,o,ho,_⟩:=entry.cell x c e
  have hcn:=entry.freeC x c e
  -- a cell of the enclosing frame: it lies in s2's heap
  rw[eenv]at e
  rcases clOf_mem (PySem.mem_of_lookup e)with q|⟨q,mm⟩
  ·cases q
  ·obtain⟨d,hd⟩:=I2.ok.has x (compOk.free ck mm)
   rw[hd]at q
   have q:c=d:=q
   subst q
   obtain⟨v',o',ho',_⟩:=I2.cell x c hd
   rw[<-hDD]
   exact Heap.lt_size ho'
 have dfs:D∉frs X.stack:=fun hb=>by
  rcases List.mem_cons.mp (I2.stkSub D hb)with z|z
  ·exact absurd (Nat.lt_of_lt_of_eq I2.lt hDD) (by rw[z];exact Nat.lt_irrefl _)
  ·exact I2.nofs (Nat.le_of_eq hDD) z
 have fpn:∀{H':Hp} {o:Obj},(∀b∈fp,H' b=none)->∀b∈fp,FpOk X' [(D,o)] H' b:=fun{H' o} hn b hb=>by
  have hbl:=hlt b hb
  refine⟨hn b hb,by rw[eloc];exact Nat.ne_of_lt (Nat.lt_succ_of_lt hbl),?_,.inl (by rw[eex];exact hb),fun x c e=> ?_,fun p hp=> ?_⟩
  ·rw[efs]
   intro z
   rcases List.mem_cons.mp (I2.stkSub b z)with z|z
   ·exact(f2 b hb).2.1 z
   ·exact(f2 b hb).2.2.1 z
  ·rw[eenv]at e
   rcases clOf_mem (PySem.mem_of_lookup e)with q|⟨q,mm⟩
   ·cases q
   ·obtain⟨d,hd⟩:=I2.ok.has x (compOk.free ck mm)
    rw[hd]at q
    have q:c=d:=q
    subst q
    exact(f2 b hb).2.2.2.2.1 x c hd
  ·rw[epn]at hp
   have:p=(D,o):=by simpa using hp
   rw[this]
   exact Nat.ne_of_gt hbl
 have pinD:∀{σ':St} {H':Hp} {s':Shared} {o:Obj},Inv X' [] σ' H' s'->s'.heap.get? D=some o->H' D=none->(∀v,o.data≠.cell v)->Inv X' [(D,o)] σ' H' s':=fun{σ' H' s' o} I e n d=>
  I.pins_of fun p hp=>by
   have:p=(D,o):=by simpa using hp
   subst this
   exact⟨e,n,by rw[eloc];exact Nat.ne_of_lt (Nat.lt_succ_self D),by rw[efs];exact dfs,d⟩
 have loop:∀s₃:Shared,s₃={s2 with heap:=h₁,toks:=s2.toks+([]:List (Str×Value)).length}->
   codeAny (model X.prog X.w) X.A (.compLoop (.ListComp elt [⟨tg,iter,ifs,0⟩] scope pos) 0 (.ref it) (.ref D) X'.env) (RR (.ref D) (D+1)) s₃:=by
  intro s₃ hs₃
  refine codeAny_loop rfl (fun n s'=>∃i acc its k σ' H',Inv X' [] σ' H' s'/\tn i s'.heap/\(∀b∈fp,H' b=none)/\s'.heap.get? D=some {cls:= .type "list",data:= .seq (List.toArray its) k}/\Vals acc its/\H' D=none/\W i n acc σ' H') ?_ m0
   ⟨0,[],[],0,iniOf own ix σ,H2,by rw[hs₃];exact entry,by rw[hs₃];exact T.keep _ _ _ st2 fun b _ o e=>old b o e,fun b hb=>(f2 b hb).1,by rw[hs₃];exact hD1,.nil,I2.hok.fresh (Nat.le_of_eq hDD),w0⟩
  rintro n s3 ⟨i,acc,its,k,σ3,H3,I3,st3,fr3,eD,rv,nD,w3⟩
  show wpAny _ X.A ((compTurn (.ListComp elt [⟨tg,iter,ifs,0⟩] scope pos) 0 (.ref it) (.ref D) X'.env).onRaise (fun x=>do noteFrame x X'.env;theTreesLotGoes x)) _ _ s3
  refine wpAny_noted ?_
  rw[compTurn_list]
  have noE:∀{α:Type} {t:Sem α} {Q:α->Shared->Prop} {E':Value->Shared->Prop} {s:Shared},wpAny (model X'.prog X'.w) X'.A t Q X'.xe s->wpAny (model X.prog X.w) X.A t Q E' s:=fun{α t Q E' s} h=>by
   rw[eP,ew,eA,exe]at h
   exact wpAny_mono h (fun _ _ q=>q) fun _ _ z=>z.elim
  have I3':=pinD (o:={cls:= .type "list",data:= .seq (List.toArray its) k}) I3 eD nD (fun v z=>by
   have z':Data.seq (List.toArray its) k=Data.cell v:=z
   cases z')
  refine wpAny_bind (wpAny_standAt (wpAny_bind ?_))
  rcases turn i n acc σ3 H3 w3 with⟨stop,hz,fin⟩|⟨go,hz,Nn,hN,step⟩
  ·have q:=T.done X' eP ew eK ecalm i [(D,_)] s3 σ3 H3 (notedBy (model X.prog X.w) X.A X'.env fun e s'=>RR (.ref D) (D+1) (.error e) s') I3' (fpn fr3) st3 stop
   rw[eA]at q
   refine thn q fun r s4 ⟨hr,I4⟩=> ?_
   subst hr
   refine wpAny_pure ?_
   obtain⟨e4,_⟩:=I4.pin (D,_) (List.mem_append_right _ List.mem_cons_self)
   obtain⟨mC,hnC,_⟩:=I4.loc
   have u4:=I4.base
   rw[efs,eex,eH0,es0]at u4
   have ok4:=I4.hok
   rw[eP,ew]at ok4
   have nC:H3 (D+1)=none:=by have:=I4.free;rw[eloc]at this;exact this
   have hok:HOk X.prog X.w (upd H3 D (.lst acc)) s4.heap:=ok4.add nD ⟨hz,its,k,rv,e4⟩
   refine hRR D (D+1) s4 acc H3 mC ?_ nD (by rw[eloc]at hnC;exact hnC) ?_ fin
   ·refine I2.call' (s':=s4) (ch:=fp) ?_ (u4.add (by rw[hDD];exact Nat.le_refl _) nD) hok I4.bare fun b hb=> ?_
    ·have:=I4.os;rw[es0]at this;exact this
    ·obtain⟨f0,f1,f3,f4,f5,f6⟩:=f2 b hb
     exact⟨f4,f1,f5,f6⟩
   ·refine I2.fpOk (by rw[hDD];exact Nat.le_succ _) ?_
    rw[zbz (Nat.ne_of_gt (Nat.lt_succ_self D))]
    exact nC
  ·have q:=T.item X' eP ew eK ecalm i [(D,_)] s3 σ3 H3 (notedBy (model X.prog X.w) X.A X'.env fun e s'=>RR (.ref D) (D+1) (.error e) s') I3' (fpn fr3) st3 go
   rw[eA]at q
   refine thn q fun r s4 ⟨u,hr,h4⟩=> ?_
   subst hr
   dsimp only
   refine wpAny_bind (thn h4 fun _ s5 ⟨x,H5,I5,r5,y5,st5,fr5⟩=> ?_)
   have I5':=I5.pinned (fpn fr5) (T.obj _ _ st5)
   have again:∀{σ7:St} {H7:Hp} {s7:Shared},Inv X' ([(D,{cls:= .type "list",data:= .seq (List.toArray its) k})]++pinsAt fp s5.heap) σ7 H7 s7->tn (i+1) s7.heap/\(∀b∈fp,H7 b=none)/\s7.heap.get? D=some {cls:= .type "list",data:= .seq (List.toArray its) k}/\H7 D=none:=fun{σ7 H7 s7} I7=>by
    refine⟨T.keep _ _ _ st5 fun b hb o e=>(I7.pin (b,o) (List.mem_append_right _ (List.mem_append_right _ (zdc hb e)))).1,fun b hb=> ?_,?_⟩
    ·obtain⟨o,e,d⟩:=T.obj _ _ st5 b hb
     exact(I7.pin (b,o) (List.mem_append_right _ (List.mem_append_right _ (zdc hb e)))).2.1
    ·have:=I7.pin (D,_) (List.mem_append_right _ (List.mem_append_left _ List.mem_cons_self))
     exact⟨this.1,this.2.1⟩
   refine wpAny_bind (thn (noE (hg' _ s5 σ3 H5 x u _ I5' r5 (step x H5 y5))) fun _ s6 ⟨σ6,H6,I6,q6⟩=> ?_)
   refine wpAny_bind (thn (noE (ht' _ s6 σ6 H6 _ I6 q6)) fun ok s7 ⟨H7,I7,q7⟩=> ?_)
   cases ok with
   |false=>
    rw[if_neg Bool.false_ne_true]at q7
    obtain⟨m',hm,w7⟩:=hN _ _ _ q7
    obtain⟨a1,a2,a3,a4⟩:=again I7
    exact wpAny_pure ⟨rfl,m',hm,i+1,acc,its,k,σ6,H7,I7.pins_of (fun p hp=>nomatch hp),a1,a2,a3,rv,a4,w7⟩
   |true=>
    rw[if_pos rfl]at q7
    refine wpAny_bind (wpAny_bind (thn (noE (he' _ s7 σ6 H7 _ I7 q7)) fun v s8 ⟨y,H8,I8,r8,q8⟩=> ?_))
    obtain⟨m',hm,w8⟩:=hN _ _ _ q8
    obtain⟨a1,a2,a3,a4⟩:=again I8
    have hl:=rv.length
    refine wpAny_bind (call_meets F.slot_list_append ⟨_,a3,rfl⟩ F.entry_list_append (F.args_list_append_2 _ _) (PySem.list_append D its.toArray k v (by rw[List.size_toArray];omega)) ⟨a3,?_⟩)
    refine wpAny_pure (wpAny_pure ⟨rfl,m',hm,i+1,acc++[y],its++[v],?_⟩)
    have qD:=PySem.IsL.update a3 (fun a:Array Value=>a.push v)
    rw[List.push_toArray]at qD
    have kp:∀b o,b≠D->s8.heap.get? b=some o->(s8.heap.update D (Obj.mapSeq fun a=>a.push v)).get? b=some o:=fun b o hb e=>(Heap.get?_update_other s8.heap _ (Ne.symm hb)).trans e
    have I8':Inv X' [] σ6 H8 {s8 with heap:=s8.heap.update D (Obj.mapSeq fun a=>a.push v)}:=by
     refine(I8.pins_of (pins':=[]) (fun p hp=>nomatch hp)).turned (t':=s8.toks) (it:=D) kp a4 (by rw[eloc];exact Nat.ne_of_lt (Nat.lt_succ_self D)) (.inr (by rw[es0,hDD];exact Nat.le_refl _)) (fun x c e=>Nat.ne_of_lt (ecl x c e)) (fun p hp=> ?_)
     rw[epn]at hp
     exact nomatch hp
    exact⟨_,σ6,H8,I8',T.keep _ _ _ a1 fun b hb o e=>kp b o (Nat.ne_of_lt (hlt b hb)) e,a2,qD,rv.append (.cons r8 .nil),a4,w8⟩
 have eenv':({newEnv scope (D+1) X.env.globals (clOf X.env.cells scope.names []) X.env.qual none Value.none (some X.env) 0 with scope:=relabel scope X.env}:Env)=X'.env:=by rw[eenv];rfl
 have L:=loop _ rfl
 rw[<-eenv']at L
 exact codeAny_compStart_list L (T.self X.A 0 _ _ _ (T.keep _ _ _ st2 fun b _ o e=>old b o e) L)
end
end L2
namespace L2
open PySem PySem.Spec PyProof.Rows
noncomputable def CompW(J:It)(ini:St)(H:Hp)(g:TG)(tc:TT)(te:TE)(Fin:List V->Hp->Prop):Prop:=
 ∃W:Nat->Nat->List V->St->Hp->Prop,(∃m,W 0 m [] ini H)/\∀i m acc σ H,W i m acc σ H->
  (J.stop i H/\acc.length<=sizeLine/\Fin acc H)\/(J.go i H/\acc.length<sizeLine/\∃N:List V->St->Hp->Prop,(∀acc' σ' H',N acc' σ' H'->∃m',m'<m/\W (i+1) m' acc' σ' H')/\∀x H',J.yld i H x H'->g x σ H' fun σ2 H2=>tc σ2 H2 fun b H3=>
   if b=true then te σ2 H3 fun v H4=>N (acc++[v]) σ2 H4 else N acc σ2 H3)
noncomputable def tComp(wi:TI)(own:List Str)(ix:List Nat)(g:TG)(tc:TT)(te:TE):TE:=fun σ H Q=>wi σ H fun J H1=>
 CompW J (iniOf own ix σ) H1 g tc te fun acc H'=>∀p,H' p=none->Q (.ref p) (upd H' p (.lst acc))
section
variable{X:Cx}{tg iter elt:Expr}{ifs:List Expr}{scope:Scope}{pos:Pos}{own caps:List Str}{ix:List Nat}{wi:TI}{g:TG}{tc:TT}{te:TE}
theorem zck(hc:X.calm=true)(hi:PI X tg iter wi)(ck:compOk X.env.scope scope=true)(hkind:scope.kind= .function)(hcap:Caps X scope caps ix)(hg:∀s H cl C ex,PG (compCx X scope (own++caps) s H cl C ex) tg g)(ht:∀s H cl C ex,PTs (compCx X scope (own++caps) s H cl C ex) ifs tc)(he:∀s H cl C ex,PE (compCx X scope (own++caps) s H cl C ex) elt te)(hs:∀x,foldedSetIterable iter X.env x=pure x:=by intro _;rfl):PE X (.ListComp elt [⟨tg,iter,ifs,0⟩] scope pos) (tComp wi own ix g tc te):=by
 intro pins s σ H Q I h
 rw[eval_ListComp]
 refine wpAny_comprehension_free (use:=none) rfl hs (closure_of fun x hx=>I.ok.has x (compOk.free ck hx)) hkind (compOk.names ck) (thn (hi pins s σ H _ I h) fun xv s1 h1=>thn h1 fun itv s2 h2=> ?_)
 obtain⟨it,fp,tn,J,H2,e,I2,T,st2,f2,W,⟨m0,w0⟩,turn⟩:=h2
 subst e
 refine comp_core (RR:=fun acc C=>compPost (model X.prog X.w) X.A X.xe none (EP X pins σ Q) acc C) ck hkind hcap hc hg ht he I2 T st2 f2 w0 turn ?_
 intro D C s' acc Hf m I' nD hn fC fin
 refine⟨m,hn,fun h' sb=> ?_⟩
 obtain⟨f0,f1,f3,f4,f5,f6⟩:=fC
 exact⟨.ref D,_,I'.turned (t':=s'.toks) (it:=C) (fun b o hb e=>(sb.2 b hb).trans e) f0 f1 f4 f5 f6,rfl,fin D nD⟩
theorem ps_setComp{i:Nat}{y:Str}{py spos:Pos}(hN:X.N.Nodup)(hiN:X.N[i]? =some y)(hx:Loc X.env.scope y)(hc:X.calm=true)(hi:PI X tg iter wi)(ck:compOk X.env.scope scope=true)(hkind:scope.kind= .function)(hcap:Caps X scope caps ix)(hg:∀s H cl C ex,PG (compCx X scope (own++caps) s H cl C ex) tg g)(ht:∀s H cl C ex,PTs (compCx X scope (own++caps) s H cl C ex) ifs tc)(he:∀s H cl C ex,PE (compCx X scope (own++caps) s H cl C ex) elt te)(hsw:swapsWith (.ListComp elt [⟨tg,iter,ifs,0⟩] scope pos) (some (.Name y py)) spos.line X.env=pure true:=by rfl)(hf:X.fn y=true\/X.env.scope.names.lookup y=some .local:=by first |exact .inl rfl|exact .inr rfl|assumption)(hs:∀x,foldedSetIterable iter X.env x=pure x:=by intro _;rfl):PS X (.Assign [.Name y py] (.ListComp elt [⟨tg,iter,ifs,0⟩] scope pos) spos) (tAsg (tComp wi own ix g tc te) (gName i)):=by
 intro pins s σ H Dn I h
 rw[exec_Assign_Name_used _ _ _ _ hsw]
 refine wpAny_bind (wpAny_standAt (wpAny_bind ?_))
 show wpAny _ X.A (do let _<-comprehension (.ListComp elt [⟨tg,iter,ifs,0⟩] scope pos) scope X.env _ (newList []) false (eval iter X.env) (some (assign (.Name y py) X.env))) _ _ s
 refine wpAny_bind (wpAny_mono (wpAny_comprehension_free (use:=some (assign (.Name y py) X.env)) (Q:=fun _ s'=>SP X pins Dn .next s') rfl hs (closure_of fun x hx=>I.ok.has x (compOk.free ck hx)) hkind (compOk.names ck)
  (thn (hi pins s σ H _ I h) fun xv s1 h1=>thn h1 fun itv s2 h2=> ?_)) (fun _ s' hq=>wpAny_pure (wpAny_pure hq)) fun _ _ e=>e)
 obtain⟨it,fp,tn,J,H2,e,I2,T,st2,f2,W,⟨m0,w0⟩,turn⟩:=h2
 subst e
 refine comp_core (RR:=fun acc C=>compPost (model X.prog X.w) X.A X.xe (some (assign (.Name y py) X.env)) (fun _ s'=>SP X pins Dn .next s') acc C) ck hkind hcap hc hg ht he I2 T st2 f2 w0 turn ?_
 intro D C s' acc Hf m I' nD hn fC fin
 obtain⟨f0,f1,f3,f4,f5,f6⟩:=fC
 show wpAny _ X.A (assign (.Name y py) X.env (.ref D)) _ _ _
 refine wpAny_assign_Name (store_ok2 I' hN hiN hx (show RelV (.ref D) (.ref D)from rfl) (fun s'' I'' ⟨a,sb,ha⟩=> ?_) hf)
 have hCa:C≠a:=by
  rcases ha with ha|ha
  ·rw[ha];exact f1
  ·exact fun z=>f5 y a ha z.symm
 refine⟨m,hn.sameBut sb hCa,fun h' sb'=> ?_⟩
 exact⟨_,_,I''.turned (t':=s''.toks) (it:=C) (fun b o hb e=>(sb'.2 b hb).trans e) f0 f1 f4 f5 f6,fin D nD⟩
end
section
variable{K:W.Frag}{a:Addr}{xs:List V}{g:TG}{tc:TT}{te:TE}{Fin:List V->Hp->Prop}{ini:St}{H:Hp}
theorem comp_list(Pv:Nat->List V->St->Hp->Prop)(h0:Pv 0 [] ini H)(hl:∀(i:Nat) acc σ H,i<=xs.length->Pv i acc σ H->SqL K H a xs)(hz:∀(i:Nat) acc σ H,i<=xs.length->Pv i acc σ H->acc.length<=i)(hx:xs.length<=sizeLine)(hs:∀(i:Nat) x acc σ H,xs[i]? =some x->Pv i acc σ H->g x σ H fun σ2 H2=>tc σ2 H2 fun b H3=>if b=true then te σ2 H3 fun v H4=>Pv (i+1) (acc++[v]) σ2 H4 else Pv (i+1) acc σ2 H3)(hd:∀acc σ H,Pv xs.length acc σ H->Fin acc H):CompW (Itl K a) ini H g tc te Fin:=by
 refine⟨fun i m acc σ H=>m=xs.length-i/\i<=xs.length/\Pv i acc σ H,⟨xs.length,by simp,Nat.zero_le _,h0⟩,?_⟩
 rintro i m acc σ H ⟨rfl,hi,p⟩
 have q:=hl i acc σ H hi p
 have z:=hz i acc σ H hi p
 by_cases hlt:i<xs.length
 ·refine .inr ⟨⟨xs,xs[i],q,by simp[hlt]⟩,by omega,fun acc σ H=>Pv (i+1) acc σ H,fun acc' σ' H' r=>⟨_,by omega,rfl,hlt,r⟩,fun x H' y=> ?_⟩
  obtain⟨e,y⟩:=y
  subst e
  exact hs i x acc σ _ (y xs q) p
 ·have e:i=xs.length:=by omega
  subst e
  exact .inl ⟨⟨xs,q,Nat.le_refl _⟩,by omega,hd acc σ H p⟩
theorem comp_tup(Pv:Nat->List V->St->Hp->Prop)(h0:Pv 0 [] ini H)(hl:∀(i:Nat) acc σ H,i<=xs.length->Pv i acc σ H->SqT K H a xs)(hz:∀(i:Nat) acc σ H,i<=xs.length->Pv i acc σ H->acc.length<=i)(hx:xs.length<=sizeLine)(hs:∀(i:Nat) x acc σ H,xs[i]? =some x->Pv i acc σ H->g x σ H fun σ2 H2=>tc σ2 H2 fun b H3=>if b=true then te σ2 H3 fun v H4=>Pv (i+1) (acc++[v]) σ2 H4 else Pv (i+1) acc σ2 H3)(hd:∀acc σ H,Pv xs.length acc σ H->Fin acc H):CompW (Itt K a) ini H g tc te Fin:=by
 refine⟨fun i m acc σ H=>m=xs.length-i/\i<=xs.length/\Pv i acc σ H,⟨xs.length,by simp,Nat.zero_le _,h0⟩,?_⟩
 rintro i m acc σ H ⟨rfl,hi,p⟩
 have q:=hl i acc σ H hi p
 have z:=hz i acc σ H hi p
 by_cases hlt:i<xs.length
 ·refine .inr ⟨⟨xs,xs[i],q,by simp[hlt]⟩,by omega,fun acc σ H=>Pv (i+1) acc σ H,fun acc' σ' H' r=>⟨_,by omega,rfl,hlt,r⟩,fun x H' y=> ?_⟩
  obtain⟨e,y⟩:=y
  subst e
  exact hs i x acc σ _ (y xs q) p
 ·have e:i=xs.length:=by omega
  subst e
  exact .inl ⟨⟨xs,q,Nat.le_refl _⟩,by omega,hd acc σ H p⟩
theorem zch{lo:Int}{n:Nat}(Pv:Nat->List V->St->Hp->Prop)(h0:Pv 0 [] ini H)(hz:∀(i:Nat) acc σ H,i<=n->Pv i acc σ H->acc.length<=i)(hx:n<=sizeLine)(hs:∀(i:Nat) acc σ H,i<n->Pv i acc σ H->g (.int (lo+i)) σ H fun σ2 H2=>tc σ2 H2 fun b H3=>if b=true then te σ2 H3 fun v H4=>Pv (i+1) (acc++[v]) σ2 H4 else Pv (i+1) acc σ2 H3)(hd:∀acc σ H,Pv n acc σ H->Fin acc H):CompW (Itr lo n) ini H g tc te Fin:=by
 refine⟨fun i m acc σ H=>m=n-i/\i<=n/\Pv i acc σ H,⟨n,by simp,Nat.zero_le _,h0⟩,?_⟩
 rintro i m acc σ H ⟨rfl,hi,p⟩
 have z:=hz i acc σ H hi p
 by_cases hlt:i<n
 ·refine .inr ⟨hlt,by omega,fun acc σ H=>Pv (i+1) acc σ H,fun acc' σ' H' r=>⟨_,by omega,rfl,hlt,r⟩,fun x H' y=> ?_⟩
  obtain⟨e,y⟩:=y
  subst e y
  exact hs i acc σ _ hlt p
 ·have e:i=n:=by omega
  subst e
  exact .inl ⟨Nat.le_refl _,by omega,hd acc σ H p⟩
end
end L2
namespace Srt
open PySem PySem.W PyProof.Rows
section
variable{O:KeyOrd}{key:Nat->O.α}{N:Nat}{cmp:Nat->Nat->(Bool->Shared->Prop)->Shared->Prop}{s:Shared}
noncomputable def AskOk(O:KeyOrd)(key:Nat->O.α)(N:Nat)(cmp:Nat->Nat->(Bool->Shared->Prop)->Shared->Prop)(s:Shared):Prop:=
 ∀i j (C:Bool->Shared->Prop),i<N->j<N->C (O.blt (key i) (key j)) s->cmp i j C s
noncomputable def KN(key:Nat->O.α)(p:Array Nat)(i:Nat):O.α:=key (p.getD i 0)
noncomputable def So(key:Nat->O.α)(p:Array Nat)(k:Nat):Prop:=∀i j,i<=j->j<k->O.kle (KN key p i) (KN key p j)
noncomputable def Ni(key:Nat->O.α)(p:Array Nat)(k:Nat):Prop:=∀i j,i<=j->j<k->O.kle (KN key p j) (KN key p i)
structure Ord(N:Nat)(p:Array Nat):Prop where
 perm:p.Perm (List.toArray (List.range N))
theorem Ord.size{p:Array Nat}(h:Ord N p):p.size=N:=by have:=h.perm.size_eq;simpa using this
theorem Ord.lt{p:Array Nat}(h:Ord N p){i:Nat}(hi:i<N):p.getD i 0<N:=by
 have hi':i<p.size:=by rw[h.size];exact hi
 have e:p.getD i 0=p[i]:=by simp[Array.getD,hi']
 rw[e]
 have m:p[i]∈p.toList:=by simp
 have:=(Array.perm_iff_toList_perm.mp h.perm).mem_iff.mp m
 simpa using this
theorem Ord.rev{p:Array Nat}(h:Ord N p)(i j:Nat):Ord N (kas_rev p i j):=⟨(mirror_perm _ _ _ _).trans h.perm⟩
theorem Ord.bub{p:Array Nat}(h:Ord N p)(i j:Nat):Ord N (bubble p i j):=⟨(bubble_perm _ _ _).trans h.perm⟩
theorem getD_q(p:Array Nat)(i:Nat):p.getD i 0=(p[i]?).getD 0:=by simp
theorem KN_rev{p:Array Nat}{i j:Nat}(hj:j<=p.size)(k:Nat):KN key (kas_rev p i j) k=if i<=k/\k<j then KN key p (i+j-1-k)else KN key p k:=by
 have e:=getElem?_mirror_all (i:=i) hj k
 unfold KN kas_rev
 rw[getD_q,e]
 split
 ·rw[getD_q]
 ·rw[getD_q]
theorem zdb{p:Array Nat}{i j:Nat}(hj:j<=p.size)(heq:∀k,i<=k->k<j->KN key p k=KN key p (j-1))(k:Nat):KN key (kas_rev p i j) k=KN key p k:=by
 rw[KN_rev hj]
 split
 ·rename_i h
  rw[heq k h.1 h.2,heq _ (by omega) (by omega)]
 ·rfl
theorem KN_bub{p:Array Nat}{src d:Nat}(hs:src<p.size)(hd:d<=src)(k:Nat):KN key (bubble p src d) k=if k=src-d then KN key p src else if src-d<k/\k<=src then KN key p (k-1)else KN key p k:=by
 have e:=getElem?_bubble hs d hd k
 have q:KN key (bubble p src d) k=key (((bubble p src d)[k]?).getD 0):=congrArg key (getD_q _ _)
 have q2:∀i,KN key p i=key ((p[i]?).getD 0):=fun i=>congrArg key (getD_q _ _)
 rw[q,e,q2,q2,q2]
 by_cases h1:k=src-d
 ·rw[if_pos h1,if_pos h1]
 ·rw[if_neg h1,if_neg h1]
  by_cases h2:src-d<k/\k<=src
  ·rw[if_pos h2,if_pos h2]
  ·rw[if_neg h2,if_neg h2]
theorem lt_pred{i j:Nat}(h:i<=j)(hn:¬i=j):i<=j-1:=Nat.le_sub_one_of_lt (Nat.lt_of_le_of_ne h hn)
theorem eq_top{j n:Nat}(h:j<n+1)(hn:¬j<n):j=n:=Nat.le_antisymm (Nat.le_of_lt_succ h) (Nat.not_lt.mp hn)
theorem pred_lt'{x k:Nat}(h:1<=x)(hk:x<=k):x-1<k:=Nat.sub_one_lt_of_le h hk
theorem lt_mid{x f N:Nat}(h:x+(f+1)<=N):x<N:=Nat.lt_of_lt_of_le (Nat.lt_add_of_pos_right (Nat.succ_pos f)) h
theorem up_one{x f N:Nat}(h:x+(f+1)<=N):x+1+f<=N:=Nat.le_trans (Nat.le_of_eq (Nat.succ_add_eq_add_succ x f)) h
theorem up_le{x f m:Nat}(h:m<=x+1+f):m<=x+(f+1):=Nat.le_trans h (Nat.le_of_eq (Nat.succ_add_eq_add_succ x f))
theorem rev_le{i j n:Nat}(h:i<=j):0+n-1-j<=0+n-1-i:=Nat.sub_le_sub_left h _
theorem rev_lt{i n:Nat}(h:i<n):0+n-1-i<n:=by
 rw[Nat.zero_add]
 exact Nat.lt_of_le_of_lt (Nat.sub_le _ _) (Nat.sub_one_lt_of_le (Nat.lt_of_le_of_lt (Nat.zero_le _) h) (Nat.le_refl _))
theorem asc(ok:AskOk O key N cmp s){p:Array Nat}(hp:Ord N p){Q:Nat->Shared->Prop}:∀(f n:Nat),1<=n->n+f<=N->So key p n->(∀m,n<=m->m<=n+f->So key p m->(m=n+f\/O.klt (KN key p m) (KN key p (m-1)))->Q m s)->(kas_asc p f n).kasWp cmp Q s
 |0,n,_,_,hs,h=>h n (Nat.le_refl _) (Nat.le_refl _) hs (.inl rfl)
 |f+1,n,h1,hn,hs,h=>by
  have hnN:n<N:=lt_mid hn
  refine ok _ _ _ (hp.lt hnN) (hp.lt (pred_lt' h1 (Nat.le_of_lt hnN))) ?_
  cases hless:O.blt (key (p.getD n 0)) (key (p.getD (n-1) 0))with
  |true=>
   show Q n s
   exact h n (Nat.le_refl _) (Nat.le_add_right _ _) hs (.inr hless)
  |false=>
   show(kas_asc p f (n+1)).kasWp cmp Q s
   refine asc ok hp f (n+1) (Nat.succ_pos _) (up_one hn) (fun i j hij hj=> ?_) fun m a b c d=>h m (Nat.le_of_succ_le a) (up_le b) c (d.imp (fun z=>z.trans (Nat.succ_add_eq_add_succ n f)) id)
   by_cases hjn:j<n
   ·exact hs i j hij hjn
   ·have hj':j=n:=eq_top hj hjn
    subst hj'
    by_cases hi':i=j
    ·subst hi';exact KeyOrd.kle_refl _
    ·exact KeyOrd.kle_trans (hs i (j-1) (lt_pred hij hi') (pred_lt' h1 (Nat.le_refl _))) hless
theorem tail3(ok:AskOk O key N cmp s){p:Array Nat}(hp:Ord N p){n:Nat}{Q:Nat×Array Nat->Shared->Prop}(h1:1<=n)(hn:n<=N)(hs:Ni key p n)(h:∀m p',Ord N p'->1<=m->m<=N->So key p' m->Q (m,p') s):(kas_tail3 n N p).kasWp cmp Q s:=by
 unfold kas_tail3
 rw[KasT.kasWp_bind]
 have hsz:n<=p.size:=by rw[hp.size];exact hn
 have hN:n+(N-n)=N:=Nat.add_sub_cancel' hn
 refine asc ok (hp.rev 0 n) (N-n) n h1 (Nat.le_of_eq hN) (fun i j hij hj=> ?_) fun m a b c _=>h m _ (hp.rev 0 n) (Nat.le_trans h1 a) (Nat.le_trans b (Nat.le_of_eq hN)) c
 rw[KN_rev hsz,KN_rev hsz,if_pos ⟨Nat.zero_le _,Nat.lt_of_le_of_lt hij hj⟩,if_pos ⟨Nat.zero_le _,hj⟩]
 exact hs _ _ (rev_le hij) (rev_lt (Nat.lt_of_le_of_lt hij hj))
theorem desc1{p p':Array Nat}{x:Nat}(h1:1<=x)(hs:Ni key p x)(hless:O.kle (KN key p x) (KN key p (x-1)))(hk:∀k,KN key p' k=KN key p k):Ni key p' (x+1):=by
 intro i j hij hj
 rw[hk,hk]
 by_cases hjx:j<x
 ·exact hs i j hij hjx
 ·have hj':j=x:=eq_top hj hjx
  subst hj'
  by_cases hi':i=j
  ·subst hi';exact KeyOrd.kle_refl _
  ·exact KeyOrd.kle_trans hless (hs i (j-1) (lt_pred hij hi') (pred_lt' h1 (Nat.le_refl _)))
theorem one_eq{p:Array Nat}{x i:Nat}(h1:x+1-(0+1)<=i)(h2:i<x+1):KN key p i=KN key p (x+1-1):=congrArg _ (Nat.le_antisymm (Nat.le_of_lt_succ h2) h1)
theorem desc(ok:AskOk O key N cmp s){Q:Array Nat×Nat×Nat->Shared->Prop}:∀(f:Nat) (p:Array Nat) (x neq:Nat),Ord N p->1<=x->x+f<=N->Ni key p x->neq+1<=x->(∀i,x-(neq+1)<=i->i<x->KN key p i=KN key p (x-1))->
  (∀p' m q,Ord N p'->x<=m->m<=x+f->Ni key p' m->q+1<=m->(∀i,m-(q+1)<=i->i<m->KN key p' i=KN key p' (m-1))->Q (p',m,q) s)->(kas_desc f p x neq).kasWp cmp Q s
 |0,p,x,neq,hp,_,_,hs,hq,he,h=>h p x neq hp (Nat.le_refl _) (Nat.le_refl _) hs hq he
 |f+1,p,x,neq,hp,h1,hn,hs,hq,he,h=>by
  have hxN:x<N:=lt_mid hn
  have hsz:x<=p.size:=by rw[hp.size];exact Nat.le_of_lt hxN
  have hx1:x-1<N:=pred_lt' h1 (Nat.le_of_lt hxN)
  have hh:∀p' m q,Ord N p'->x+1<=m->m<=x+1+f->Ni key p' m->q+1<=m->(∀i,m-(q+1)<=i->i<m->KN key p' i=KN key p' (m-1))->Q (p',m,q) s:=fun p' m q a b c d e g=>h p' m q a (Nat.le_of_succ_le b) (up_le c) d e g
  refine ok _ _ _ (hp.lt hxN) (hp.lt hx1) ?_
  cases hless:O.blt (key (p.getD x 0)) (key (p.getD (x-1) 0))with
  |true=>
   show(if neq>0 then kas_desc f (kas_rev p (x-(neq+1)) x) (x+1) 0 else kas_desc f p (x+1) 0).kasWp cmp Q s
   by_cases hneq:neq>0
   ·rw[if_pos hneq]
    exact desc ok f _ (x+1) 0 (hp.rev _ _) (Nat.succ_pos _) (up_one hn) (desc1 h1 hs (KeyOrd.kle_of_klt hless) (zdb hsz he)) (Nat.succ_pos _) (fun i h1 h2=>one_eq h1 h2) hh
   ·rw[if_neg hneq]
    exact desc ok f _ (x+1) 0 hp (Nat.succ_pos _) (up_one hn) (desc1 h1 hs (KeyOrd.kle_of_klt hless) fun _=>rfl) (Nat.succ_pos _) (fun i h1 h2=>one_eq h1 h2) hh
  |false=>
   show(KasT.ask (p.getD (x-1) 0) (p.getD x 0) fun d=>if d=true then KasT.ret (p,x,neq)else kas_desc f p (x+1) (neq+1)).kasWp cmp Q s
   refine ok _ _ _ (hp.lt hx1) (hp.lt hxN) ?_
   cases hl:O.blt (key (p.getD (x-1) 0)) (key (p.getD x 0))with
   |true=>exact h p x neq hp (Nat.le_refl _) (Nat.le_add_right _ _) hs hq he
   |false=>
    show(kas_desc f p (x+1) (neq+1)).kasWp cmp Q s
    have heqx:KN key p x=KN key p (x-1):=KeyOrd.kle_antisymm hl hless
    refine desc ok f _ (x+1) (neq+1) hp (Nat.succ_pos _) (up_one hn) (desc1 h1 hs (by rw[heqx];exact KeyOrd.kle_refl _) fun _=>rfl) (Nat.succ_le_succ hq) (fun i h1 h2=> ?_) hh
    show KN key p i=KN key p x
    by_cases hix:i=x
    ·subst hix;rfl
    ·rw[heqx];exact he i (Nat.le_trans (Nat.le_of_eq (Nat.succ_sub_succ x (neq+1)).symm) h1) (Nat.lt_of_le_of_ne (Nat.le_of_lt_succ h2) hix)
theorem descPart(ok:AskOk O key N cmp s){p:Array Nat}(hp:Ord N p){n:Nat}{Q:Nat×Array Nat->Shared->Prop}(hn:n+1<=N)(hs:Ni key p (n+1))(h:∀m p',Ord N p'->1<=m->m<=N->So key p' m->Q (m,p') s):(kas_descPart n N p).kasWp cmp Q s:=by
 unfold kas_descPart
 rw[KasT.kasWp_bind]
 have hN:n+1+(N-(n+1))<=N:=Nat.le_of_eq (Nat.add_sub_cancel' hn)
 refine desc ok _ _ _ _ hp (Nat.succ_pos _) hN hs (Nat.succ_pos _) (fun i h1 h2=>one_eq h1 h2) fun p' m q a b c d e g=> ?_
 have hm:m<=N:=Nat.le_trans c hN
 have hm1:1<=m:=Nat.le_trans (Nat.succ_pos _) b
 have hsz:m<=p'.size:=by rw[a.size];exact hm
 dsimp only
 by_cases hq:q>0
 ·rw[if_pos hq]
  refine tail3 ok (a.rev _ _) hm1 hm (fun i j hij hj=> ?_) h
  rw[zdb hsz g,zdb hsz g]
  exact d i j hij hj
 ·rw[if_neg hq]
  exact tail3 ok a hm1 hm d h
theorem count(ok:AskOk O key N cmp s){p:Array Nat}(hp:Ord N p){Q:Nat×Array Nat->Shared->Prop}(h1:1<=N)(h:∀m p',Ord N p'->1<=m->m<=N->So key p' m->Q (m,p') s):(kas_count N p).kasWp cmp Q s:=by
 unfold kas_count
 rw[KasT.kasWp_bind]
 have hN:1+(N-1)=N:=Nat.add_sub_cancel' h1
 refine asc ok hp (N-1) 1 (Nat.le_refl _) (Nat.le_of_eq hN) (fun i j hij hj=>by
  have hj0:j=0:=Nat.lt_one_iff.mp hj
  subst hj0
  have hi0:i=0:=Nat.le_zero.mp hij
  subst hi0;exact KeyOrd.kle_refl _) fun n a b hsn hor=> ?_
 have hnN:n<=N:=Nat.le_trans b (Nat.le_of_eq hN)
 by_cases hnn:n=N
 ·rw[if_pos (by simpa using hnn)]
  exact h n p hp a hnN hsn
 ·rw[if_neg (by simpa using hnn)]
  have hlt:O.klt (KN key p n) (KN key p (n-1)):=hor.resolve_left fun z=>hnn (z.trans hN)
  have hln:n<N:=Nat.lt_of_le_of_ne hnN hnn
  by_cases hgt:n>1
  ·rw[if_pos hgt]
   have hn1:n-1<n:=pred_lt' a (Nat.le_refl _)
   refine ok _ _ _ (hp.lt h1) (hp.lt (Nat.lt_trans hn1 hln)) ?_
   cases hrose:O.blt (key (p.getD 0 0)) (key (p.getD (n-1) 0))with
   |true=>exact h n p hp a hnN hsn
   |false=>
    show(kas_descPart n N (kas_rev p 0 n)).kasWp cmp Q s
    have hsz:n<=p.size:=by rw[hp.size];exact hnN
    have hall:∀k,0<=k->k<n->KN key p k=KN key p (n-1):=fun k _ hk=>
     KeyOrd.kle_antisymm (hsn k (n-1) (Nat.le_sub_one_of_lt hk) hn1) (KeyOrd.kle_trans hrose (hsn 0 k (Nat.zero_le _) hk))
    refine descPart ok (hp.rev 0 n) hln (fun i j hij hj=> ?_) h
    rw[zdb hsz hall,zdb hsz hall]
    by_cases hjn:j<n
    ·rw[hall i (Nat.zero_le _) (Nat.lt_of_le_of_lt hij hjn),hall j (Nat.zero_le _) hjn];exact KeyOrd.kle_refl _
    ·have hj':j=n:=eq_top hj hjn
     subst hj'
     by_cases hi':i=j
     ·subst hi';exact KeyOrd.kle_refl _
     ·rw[hall i (Nat.zero_le _) (Nat.lt_of_le_of_ne hij hi')];exact KeyOrd.kle_of_klt hlt
  ·rw[if_neg hgt]
   have hn1':n=1:=Nat.le_antisymm (Nat.not_lt.mp hgt) a
   subst hn1'
   refine descPart ok hp hln (fun i j hij hj=> ?_) h
   by_cases hi':i=j
   ·subst hi';exact KeyOrd.kle_refl _
   ·have hij':i<j:=Nat.lt_of_le_of_ne hij hi'
    have hj1:j=1:=Nat.le_antisymm (Nat.le_of_lt_succ hj) (Nat.lt_of_le_of_lt (Nat.zero_le i) hij')
    subst hj1
    have hi0:i=0:=Nat.lt_one_iff.mp hij'
    subst hi0
    exact KeyOrd.kle_of_klt hlt
theorem half_lt{l r:Nat}(h:l<r):(l+r)/2<r:=by omega
theorem half_ge{l r:Nat}(h:l<r):l<=(l+r)/2:=by omega
theorem place(ok:AskOk O key N cmp s){p:Array Nat}(hp:Ord N p){k:Nat}{Q:Nat->Shared->Prop}(hk:k<N)(hs:So key p k):∀(f l r:Nat),l<=r->r<=k->r-l<=f->(∀i,i<l->O.kle (KN key p i) (KN key p k))->(∀i,r<=i->i<k->O.klt (KN key p k) (KN key p i))->
  (∀l,l<=k->(∀i,i<l->O.kle (KN key p i) (KN key p k))->(∀i,l<=i->i<k->O.klt (KN key p k) (KN key p i))->Q l s)->(kas_place p k f l r).kasWp cmp Q s
 |0,l,r,hlr,hrk,hm,hlo,hhi,h=>by
  have e:l=r:=Nat.le_antisymm hlr (Nat.sub_eq_zero_iff_le.mp (Nat.le_zero.mp hm))
  subst e
  exact h l hrk hlo hhi
 |f+1,l,r,hlr,hrk,hm,hlo,hhi,h=>by
  show(if l≥r then KasT.ret l else KasT.ask (p.getD k 0) (p.getD ((l+r)/2) 0) fun c=>if c=true then kas_place p k f l ((l+r)/2)else kas_place p k f ((l+r)/2+1) r).kasWp cmp Q s
  by_cases hge:l≥r
  ·rw[if_pos hge]
   have e:l=r:=Nat.le_antisymm hlr hge
   subst e
   exact h l hrk hlo hhi
  ·rw[if_neg hge]
   have hc:(l+r)/2<r:=half_lt (Nat.not_le.mp hge)
   have hd:l<=(l+r)/2:=half_ge (Nat.not_le.mp hge)
   generalize (l+r)/2=c at hc hd⊢
   refine ok _ _ _ (hp.lt hk) (hp.lt (Nat.lt_trans (Nat.lt_of_lt_of_le hc hrk) hk)) ?_
   cases hless:O.blt (key (p.getD k 0)) (key (p.getD c 0))with
   |true=>
    refine place ok hp hk hs f l c hd (Nat.le_of_lt (Nat.lt_of_lt_of_le hc hrk)) (Nat.le_of_lt_succ (Nat.lt_of_lt_of_le (Nat.sub_lt_sub_right hd hc) hm)) hlo (fun i h1 h2=> ?_) h
    by_cases hi:i=c
    ·subst hi;exact hless
    ·exact KeyOrd.klt_of_klt_of_kle hless (hs c i h1 h2)
   |false=>
    refine place ok hp hk hs f (c+1) r hc hrk (Nat.le_of_lt_succ (Nat.lt_of_lt_of_le (Nat.sub_lt_sub_left (Nat.lt_of_le_of_lt hd hc) (Nat.lt_succ_of_le hd)) hm)) (fun i h1=> ?_) hhi h
    by_cases hi:i=c
    ·subst hi;exact hless
    ·exact KeyOrd.kle_trans (hs i c (Nat.le_of_lt_succ h1) (Nat.lt_of_lt_of_le hc hrk)) hless
theorem bins1{p:Array Nat}{k l:Nat}(hs:So key p k)(hl:l<=k)(hsz:k<p.size)(hlo:∀i,i<l->O.kle (KN key p i) (KN key p k))(hhi:∀i,l<=i->i<k->O.klt (KN key p k) (KN key p i)):So key (bubble p k (k-l)) (k+1):=by
 intro i j hij hj
 have e:k-(k-l)=l:=Nat.sub_sub_self hl
 rw[KN_bub hsz (Nat.sub_le _ _),KN_bub hsz (Nat.sub_le _ _),e]
 have hjk:j<=k:=Nat.le_of_lt_succ hj
 by_cases hi1:i=l
 ·rw[if_pos hi1]
  by_cases hj1:j=l
  ·rw[if_pos hj1];exact KeyOrd.kle_refl _
  ·have lj:l<j:=Nat.lt_of_le_of_ne (hi1▸hij) (Ne.symm hj1)
   rw[if_neg hj1,if_pos ⟨lj,hjk⟩]
   exact KeyOrd.kle_of_klt (hhi (j-1) (Nat.le_sub_one_of_lt lj) (Nat.sub_one_lt_of_le (Nat.lt_of_le_of_lt (Nat.zero_le _) lj) hjk))
 ·rw[if_neg hi1]
  by_cases hi2:l<i/\i<=k
  ·have lj:l<j:=Nat.lt_of_lt_of_le hi2.1 hij
   rw[if_pos hi2,if_neg (Ne.symm (Nat.ne_of_lt lj)),if_pos ⟨lj,hjk⟩]
   exact hs _ _ (Nat.sub_le_sub_right hij 1) (Nat.sub_one_lt_of_le (Nat.lt_of_le_of_lt (Nat.zero_le _) lj) hjk)
  ·rw[if_neg hi2]
   have il:i<l:=Nat.lt_of_le_of_ne (Nat.not_lt.mp fun z=>hi2 ⟨z,Nat.le_trans hij hjk⟩) hi1
   by_cases hj1:j=l
   ·rw[if_pos hj1];exact hlo i il
   ·rw[if_neg hj1]
    by_cases hj2:l<j/\j<=k
    ·rw[if_pos hj2];exact hs _ _ (Nat.le_sub_one_of_lt (Nat.lt_trans il hj2.1)) (Nat.sub_one_lt_of_le (Nat.lt_of_le_of_lt (Nat.zero_le _) hj2.1) hjk)
    ·rw[if_neg hj2];exact hs _ _ hij (Nat.lt_of_lt_of_le (Nat.lt_of_le_of_ne (Nat.not_lt.mp fun z=>hj2 ⟨z,hjk⟩) hj1) hl)
theorem bins(ok:AskOk O key N cmp s){Q:Array Nat->Shared->Prop}:∀(f:Nat) (p:Array Nat) (k:Nat),Ord N p->1<=k->k+f=N->So key p k->(∀p',Ord N p'->So key p' N->Q p' s)->(kas_bin f p k).kasWp cmp Q s
 |0,p,k,hp,_,hf,hs,h=>h p hp ((show k=N from hf)▸hs)
 |f+1,p,k,hp,h1,hf,hs,h=>by
  show((kas_place p k k 0 k).bind fun l=>kas_bin f (bubble p k (k-l)) (k+1)).kasWp cmp Q s
  rw[KasT.kasWp_bind]
  have hk:k<N:=lt_mid (Nat.le_of_eq hf)
  have hsz:k<p.size:=by rw[hp.size];exact hk
  refine place ok hp hk hs k 0 k (Nat.zero_le _) (Nat.le_refl _) (Nat.sub_le _ _) (fun i hi=>absurd hi (Nat.not_lt_zero _)) (fun i h1 h2=>absurd h2 (Nat.not_lt.mpr h1)) fun l hl hlo hhi=> ?_
  exact bins ok f _ (k+1) (hp.bub _ _) (Nat.succ_pos _) ((Nat.succ_add_eq_add_succ k f).trans hf) (bins1 hs hl hsz hlo hhi) h
theorem sort(ok:AskOk O key N cmp s){Q:Array Nat->Shared->Prop}(h1:1<=N)(h:∀p',Ord N p'->So key p' N->Q p' s):(kas_sort N).kasWp cmp Q s:=by
 unfold kas_sort
 rw[KasT.kasWp_bind]
 refine count ok ⟨Array.Perm.refl _⟩ h1 fun m p' hp hm1 hm2 hs=> ?_
 dsimp only
 by_cases hlt:m<N
 ·rw[if_pos hlt]
  have e:max m 1=m:=by omega
  rw[e]
  exact bins ok _ _ _ hp hm1 (by omega) hs h
 ·rw[if_neg hlt]
  have e:m=N:=by omega
  subst e
  exact h p' hp hs
end
end Srt
namespace Srt
open PySem PySem.W PyProof.Rows PySem.Calls
noncomputable def Outs{O:KeyOrd}(key:Nat->O.α)(vs out:List Value):Prop:=∃p:Array Nat,Ord vs.length p/\So key p vs.length/\out=p.toList.map fun i=>vs.getD i Value.none
section
variable{prog:Program}{w:World}{A:Around}{E:Value->Shared->Prop}{s:Shared}{O:KeyOrd}{key:Nat->O.α}{κ:SortKind}{vs:List Value}
theorem outs_small(h2:vs.length<2):Outs key vs vs:=by
 refine⟨List.toArray (List.range vs.length),⟨Array.Perm.refl _⟩,fun i j hij hj=> ?_,?_⟩
 ·have e:i=j:=by omega
  subst e;exact KeyOrd.kle_refl _
 ·match vs,h2 with
  |[],_=>rfl
  |[v],_=>rfl
  |_::_::_,h=>simp at h;omega
theorem list_sort_own{a:Addr}{n:Nat}{P:PySem.Fin->Shared->Prop}(ho:s.heap.get? a=some (seqObj "list" vs.toArray n))(h64:vs.length<64)(hkind:2<=vs.length->∀h',(∀b o,b≠a->s.heap.get? b=some o->h'.get? b=some o)->∀Q:SortKind->Shared->Prop,Q κ {s with heap:=h'}->wpAny (model prog w) A (keyKind' vs.toArray) Q E {s with heap:=h'})(hask:2<=vs.length->∀h',(∀b o,b≠a->s.heap.get? b=some o->h'.get? b=some o)->AskOk O key vs.length (kas_ask prog w A κ vs) {s with heap:=h'})(h:∀h' out c,Outs key vs out->(∀b o,b≠a->s.heap.get? b=some o->h'.get? b=some o)->h'.get? a=some (seqObj "list" (List.toArray out) c)->P (.done (.ret .none)) {s with heap:=h'}):
  wpAny (model prog w) A (Builtin.«list.sort» ⟨[.ref a],[]⟩) P E s:=by
 have ha:a<s.heap.objs.size:=Heap.lt_size ho
 have s1:=Heap.SameBut.update s.heap a (Obj.mapSeq fun _=>(#[]:Array Value))
 obtain⟨e1,ho1⟩:∃e1,(s.heap.update a (Obj.mapSeq fun _=>(#[]:Array Value))).get? a=some (seqObj "list" #[] e1):=⟨_,get?_update_seq ho fun _=>#[]⟩
 have keep:∀b o,b≠a->s.heap.get? b=some o->(((s.heap.update a (Obj.mapSeq fun _=>(#[]:Array Value))).push (seqObj "tuple" vs.toArray 0)).push (seqObj "list" #[] 0)).get? b=some o:=fun b o hb e=>
  Heap.get?_push_of_some _ (Heap.get?_push_of_some _ ((s1.2 b hb).trans e))
 have ho6:(((s.heap.update a (Obj.mapSeq fun _=>(#[]:Array Value))).push (seqObj "tuple" vs.toArray 0)).push (seqObj "list" #[] 0)).get? a=some (seqObj "list" #[] e1):=Heap.get?_push_of_some _ (Heap.get?_push_of_some _ ho1)
 rw[list_sort_plain]
 refine wpAny_bind (listItems_at ho rfl ?_)
 refine wpAny_bind (listUpdate_at ho rfl ?_ (by rw[List.size_toArray,sizeLine_eq];omega) (Nat.zero_le _))
 refine wpAny_bind (seqEpoch_at ho1 rfl ?_)
 refine wpAny_bind (wpAny_newTuple ?_ (by show vs.length<=_;rw[sizeLine_eq];omega))
 refine wpAny_bind (wpAny_newList ?_ (Nat.zero_le _))
 refine wpAny_holding ?_
 show wpAny (model prog w) A _ P E {s with heap:=((s.heap.update a (Obj.mapSeq fun _=>(#[]:Array Value))).push (seqObj "tuple" vs.toArray 0)).push (seqObj "list" #[] 0)}
 dsimp only
 by_cases h2:vs.toArray.size<2
 ·have h2':vs.length<2:=by simpa using h2
  rw[if_pos h2,if_pos h2]
  refine wpAny_bind (wpAny_pure ?_)
  rw[StateT.run_pure]
  refine wpAny_bind (wpAny_pure ?_)
  dsimp only
  refine wpAny_bind (seqEpoch_at ho6 rfl ?_)
  refine wpAny_bind (listUpdate_at ho6 rfl ?_ (Nat.zero_le _) (by rw[Array.size_map];show(pairsOf vs).size<=_;rw[pairsOf_size,sizeLine_eq];omega))
  simp only[bne_self_eq_false,Bool.false_eq_true,if_false]
  refine wpAny_pure ?_
  have eo:(vs.toArray.zip vs.toArray).map (·.2)=List.toArray vs:=by
   apply Array.toList_inj.mp
   simp[List.map_snd_zip]
  have s2:=Heap.SameBut.update (((s.heap.update a (Obj.mapSeq fun _=>(#[]:Array Value))).push (seqObj "tuple" vs.toArray 0)).push (seqObj "list" #[] 0)) a (Obj.mapSeq fun _=>List.toArray vs)
  obtain⟨c2,hc2⟩:∃c2,((((s.heap.update a (Obj.mapSeq fun _=>(#[]:Array Value))).push (seqObj "tuple" vs.toArray 0)).push (seqObj "list" #[] 0)).update a (Obj.mapSeq fun _=>List.toArray vs)).get? a=some (seqObj "list" (List.toArray vs) c2):=⟨_,get?_update_seq ho6 fun _=>List.toArray vs⟩
  have fin:=h _ vs c2 (outs_small h2') (fun b o hb e=>(s2.2 b hb).trans (keep b o hb e)) hc2
  first
   |exact fin
   |(rw[<-eo]at fin;exact fin)
   |(show P _ {s with heap:=Heap.update _ a (Obj.mapSeq fun _=>(vs.toArray.zip vs.toArray).map (·.2))};rw[eo];exact fin)
 ·have h2':2<=vs.length:=by rw[List.size_toArray]at h2;omega
  rw[if_neg h2,if_neg h2]
  refine wpAny_bind (hkind h2' _ keep _ ?_)
  refine wpAny_bind (wpAny_mono (kat_run (Q:=fun st' s'=>s'={s with heap:=((s.heap.update a (Obj.mapSeq fun _=>(#[]:Array Value))).push (seqObj "tuple" vs.toArray 0)).push (seqObj "list" #[] 0)}/\∃p:Array Nat,p.size=vs.length/\arrOf st'=p.map (kas_item (vs.toArray.zip vs.toArray))/\failedOf st'=none/\Ord vs.length p/\So key p vs.length)
   (G:=fun p s'=>s'={s with heap:=((s.heap.update a (Obj.mapSeq fun _=>(#[]:Array Value))).push (seqObj "tuple" vs.toArray 0)).push (seqObj "list" #[] 0)}/\Ord vs.length p/\So key p vs.length)
   rfl h2' h64 (fun p' st' s' a1 a2 a3 a4=>⟨a4.1,p',a1,a2,a3,a4.2.1,a4.2.2⟩) (sort (hask h2' _ keep) (by omega) fun p' hp hs=>⟨rfl,hp,hs⟩)) ?_ fun _ _ e=>e)
  rintro⟨⟨⟩,st'⟩ s' ⟨rfl,p,hp,har,hf,hor,hso⟩
  dsimp only
  have hout:=kat_snds rfl har
  have hsz:(List.toArray (p.toList.map fun i=>vs.getD i Value.none)).size=vs.length:=by rw[List.size_toArray,List.length_map,Array.length_toList,hp]
  rw[hout]
  refine wpAny_bind (seqEpoch_at ho6 rfl ?_)
  refine wpAny_bind (listUpdate_at ho6 rfl ?_ (Nat.zero_le _) (Nat.le_trans (Nat.le_of_eq hsz) (by rw[sizeLine_eq];omega)))
  rw[hf]
  simp only[bne_self_eq_false,Bool.false_eq_true,if_false]
  have s2:=Heap.SameBut.update (((s.heap.update a (Obj.mapSeq fun _=>(#[]:Array Value))).push (seqObj "tuple" vs.toArray 0)).push (seqObj "list" #[] 0)) a (Obj.mapSeq fun _=>List.toArray (p.toList.map fun i=>vs.getD i Value.none))
  obtain⟨c2,hc2⟩:∃c2,((((s.heap.update a (Obj.mapSeq fun _=>(#[]:Array Value))).push (seqObj "tuple" vs.toArray 0)).push (seqObj "list" #[] 0)).update a (Obj.mapSeq fun _=>List.toArray (p.toList.map fun i=>vs.getD i Value.none))).get? a=some (seqObj "list" (List.toArray (p.toList.map fun i=>vs.getD i Value.none)) c2):=⟨_,get?_update_seq ho6 fun _=>_⟩
  exact wpAny_pure (h _ _ c2 ⟨p,hor,hso,rfl⟩ (fun b o hb e=>(s2.2 b hb).trans (keep b o hb e)) hc2)
theorem sorted_own{l:Addr}{Q:Value->Shared->Prop}(hl:s.heap.IsList l vs.toArray)(h64:vs.length<64)(hkind:2<=vs.length->∀h',(∀b o,s.heap.get? b=some o->h'.get? b=some o)->∀(E:Value->Shared->Prop) (Q:SortKind->Shared->Prop),Q κ {s with heap:=h'}->wpAny (model prog w) A.in1.in1 (keyKind' vs.toArray) Q E {s with heap:=h'})(hask:2<=vs.length->∀h',(∀b o,s.heap.get? b=some o->h'.get? b=some o)->AskOk O key vs.length (kas_ask prog w A.in1.in1 κ vs) {s with heap:=h'})(h:∀D h' out c,Outs key vs out->s.heap.objs.size<=D->(∀b o,s.heap.get? b=some o->h'.get? b=some o)->h'.get? D=some (seqObj "list" (List.toArray out) c)->Q (.ref D) {s with heap:=h'}):
  wpAny (model prog w) A (call (.builtin "sorted") [.ref l]) Q E s:=by
 refine Calls.call_function_entry kind_sorted plain_sorted entry_sorted (args_sorted1 _) ?_
 unfold Builtin.«sorted»
 refine wpAny_bind (m:=checkCount "sorted" 1 1 _) (wpAny_pure ?_)
 refine wpAny_bind (collect_list hl ?_ (by rw[sizeLine_eq];omega))
 refine wpAny_bind (wpAny_newList ?_ (by rw[sizeLine_eq];omega))
 have hsz:((s.heap.push (seqObj "list" #[] 0)).update s.heap.objs.size (Obj.mapSeq (· ++vs.toArray))).objs.size=s.heap.objs.size+1:=by
  rw[Heap.size_update,size_push']
 have hoL:(((s.heap.push (seqObj "list" #[] 0)).update s.heap.objs.size (Obj.mapSeq (· ++vs.toArray))).push (seqObj "list" vs.toArray 0)).get? (s.heap.objs.size+1)=some (seqObj "list" vs.toArray 0):=by
  rw[<-hsz];exact Heap.get?_push_size _ rfl
 have keep:∀b o,s.heap.get? b=some o->(((s.heap.push (seqObj "list" #[] 0)).update s.heap.objs.size (Obj.mapSeq (· ++vs.toArray))).push (seqObj "list" vs.toArray 0)).get? b=some o:=fun b o q=>by
  have hlt:b<s.heap.objs.size:=Heap.lt_size q
  rw[Heap.get?_push_ne _ _ _ (by rw[hsz];exact Nat.ne_of_lt (Nat.lt_succ_of_lt hlt)),Heap.get?_update_ne _ _ _ _ (Nat.ne_of_lt hlt),Heap.get?_push_ne _ _ _ (Nat.ne_of_lt hlt)]
  exact q
 have ne:∀b o,s.heap.get? b=some o->b≠s.heap.objs.size+1:=fun b o q=>Nat.ne_of_lt (Nat.lt_succ_of_lt (Heap.lt_size q))
 show wpAny _ _ _ _ _ {s with heap:=((s.heap.push (seqObj "list" #[] 0)).update s.heap.objs.size (Obj.mapSeq (· ++vs.toArray))).push (seqObj "list" vs.toArray 0)}
 rw[hsz]
 refine wpAny_bind (wpAny_holding (wpAny_call_entry slot_list_sort ⟨_,hoL,rfl⟩ entry_list_sort ?body (args_list_sort _)))
 case body=>
  refine list_sort_own (key:=key) (κ:=κ) (s:={s with heap:=((s.heap.push (seqObj "list" #[] 0)).update s.heap.objs.size (Obj.mapSeq (· ++vs.toArray))).push (seqObj "list" vs.toArray 0)}) hoL h64
   (fun h2 h' k Q hq=>hkind h2 h' (fun b o q=>k b o (ne b o q) (keep b o q)) _ Q hq) (fun h2 h' k=>hask h2 h' fun b o q=>k b o (ne b o q) (keep b o q)) fun h' out c ho k hc=> ?_
  exact⟨_,rfl,wpAny_pure ⟨_,rfl,h _ h' out c ho (Nat.le_succ _) (fun b o q=>k b o (ne b o q) (keep b o q)) hc⟩⟩
end
end Srt
namespace HT
open PySem PyProof.Rows
theorem lexLt_iff:∀(a b:List Int),lexLt a b=decide (a<b)
 |[],[]=>by simp[lexLt]
 |[],_::_=>by simp[lexLt]
 |_::_,[]=>by simp[lexLt]
 |x::xs,y::ys=>by
  rw[lexLt_cons,lexLt_iff xs ys]
  by_cases e:x=y
  ·subst e;simp
  ·rw[if_neg e]
   by_cases l:x<y
   ·simp[l,List.cons_lt_cons_iff]
   ·have:¬(x::xs<y::ys):=by rw[List.cons_lt_cons_iff];simp[l,e]
    simp[l,this]
end HT
namespace Srt
open PySem PySem.W PyProof.Rows PySem.Calls
noncomputable def lexOrd:KeyOrd where
 α:=List Int
 blt a b:=decide (a<b)
 irrefl a:=by simpa using List.lt_irrefl a
 trans a b c h1 h2:=by simp only[decide_eq_true_eq]at *;exact List.lt_trans h1 h2
 negTrans a b c h:=by
  simp only[decide_eq_true_eq]at *
  by_cases hab:a<b
  ·exact .inl hab
  ·exact .inr (List.lt_of_le_of_lt (List.not_lt.mp hab) h)
 total a b h1 h2:=by simp only[decide_eq_false_iff_not]at *;exact List.le_antisymm (List.not_lt.mp h2) (List.not_lt.mp h1)
section
variable{prog:Program}{w:World}{A:Around}{E:Value->Shared->Prop}{s:Shared}{Q:Bool->Shared->Prop}
theorem lex_ints{na nb:Nat}{xs ys:List Value}{ns ms:List Int}(i:Nat)(hx:IntsAre xs ns)(hy:IntsAre ys ms)(hl:ns.length+nb=ms.length+na)(h:Q (HT.lexLt ns ms) s):KatLex prog w A true (decide (na<nb)) Q (xs.zip ys) i s:=by
 induction hx generalizing ys ms i with
 |nil=>
  rw[List.zip_nil_left]
  refine kat_nil ?_
  cases hy with
  |nil=>
   rw[HT.lexLt_nil_nil]at h
   rw[decide_eq_false (by simp only[List.length_nil]at hl;omega)];exact h
  |cons c u hw=>
   rw[HT.lexLt_nil_cons]at h
   rw[decide_eq_true (by simp only[List.length_nil,List.length_cons]at hl;omega)];exact h
 |cons a t hv ih=>
  cases hy with
  |nil=>
   rw[List.zip_nil_right]
   refine kat_nil ?_
   rw[HT.lexLt_cons_nil]at h
   rw[decide_eq_false (by simp only[List.length_nil,List.length_cons]at hl;omega)];exact h
  |cons c u hw=>
   rw[List.zip_cons_cons]
   rw[HT.lexLt_cons]at h
   refine kat_cons (wpAny_eqBool_int ?_)
   refine kat_go (fun e=> ?_) fun e=> ?_
   ·have e':a=c:=by simpa using e
    rw[if_pos e']at h
    exact kat_yes (ih (i+1) hw (by simp only[List.length_cons]at hl;omega) h)
   ·have e':a≠c:=by simpa using e
    rw[if_neg e']at h
    refine kat_no ?_
    cases i with
    |zero=>exact oneLt_int h
    |succ i=>exact kat_one _ _ (lt_int (show PySem.W.BoolBack Q (.bool (decide (a<c))) s from h))
end
theorem outs_of{O:KeyOrd}{key:Nat->O.α}{α:Type}{vs out:List Value}{its:List α}{d:α}{f:α->O.α}{R:α->Value->Prop}(hR:Paired R its vs)(hk:∀i (hi:i<its.length),key i=f its[i])(h:Outs key vs out):
  ∃its':List α,its'.Perm its/\Paired R its' out/\its'.Pairwise fun x y=>O.kle (f x) (f y):=by
 obtain⟨p,hp,hs,rfl⟩:=h
 have hl:=hR.length
 have get:∀{l₁:List α} {l₂:List Value} {i:Nat},Paired R l₁ l₂->(h:i<l₁.length)->∃v,l₂[i]? =some v/\R l₁[i] v:=by
  intro l₁ l₂ i q
  induction q generalizing i with
  |nil=>intro h;simp at h
  |cons r t ih=>
   intro h
   cases i with
   |zero=>exact⟨_,rfl,r⟩
   |succ i=>
    obtain⟨v,e,rv⟩:=ih (i:=i) (by simpa using h)
    exact⟨v,by simpa using e,by simpa using rv⟩
 have hlt:∀i∈p.toList,i<its.length:=fun i hi=>by
  have:=(Array.perm_iff_toList_perm.mp hp.perm).mem_iff.mp hi
  rw[hl];simpa using this
 refine⟨p.toList.map fun i=>its.getD i d,?_,?_,?_⟩
 ·have q:=(Array.perm_iff_toList_perm.mp hp.perm).map (fun i=>its.getD i d)
  refine q.trans ?_
  have e:(List.toArray (List.range vs.length)).toList.map (fun i=>its.getD i d)=its:=by
   rw[<-hl]
   apply List.ext_getElem?
   intro i
   simp only[List.getElem?_map]
   by_cases hi:i<its.length
   ·simp[hi]
   ·simp[hi]
  rw[e]
 ·have mk:∀l:List Nat,(∀i∈l,i<its.length)->Paired R (l.map fun i=>its.getD i d) (l.map fun i=>vs.getD i Value.none):=by
   intro l
   induction l with
   |nil=>intro _;exact .nil
   |cons i l ih=>
    intro hb
    refine .cons ?_ (ih fun j hj=>hb j (List.mem_cons_of_mem _ hj))
    have hi:=hb i List.mem_cons_self
    obtain⟨v,e,r⟩:=get hR hi
    have e1:its.getD i d=its[i]:=by simp[hi]
    have e2:vs.getD i Value.none=v:=by rw[List.getD_eq_getElem?_getD,e];rfl
    show R (its.getD i d) (vs.getD i Value.none)
    rw[e1,e2];exact r
  exact mk _ hlt
 ·rw[List.pairwise_iff_getElem]
  intro i j hi hj hij
  simp only[List.length_map,Array.length_toList]at hi hj
  simp only[List.getElem_map]
  have hsz:=hp.size
  have q:=hs i j (by omega) (by omega)
  have e:∀k (hk':k<p.size),KN key p k=f (its.getD p.toList[k] d):=fun k hk'=>by
   have e1:p.getD k 0=p.toList[k]:=by simp[Array.getD,hk']
   have hb:=hlt p.toList[k] (List.getElem_mem _)
   have e2:its.getD p.toList[k] d=its[p.toList[k]]:=by simp only[List.getD_eq_getElem?_getD,List.getElem?_eq_getElem hb,Option.getD_some]
   unfold KN
   rw[e1,e2]
   exact hk _ hb
  rw[e i hi,e j hj]at q
  exact q
end Srt
namespace L2
open PySem PySem.Spec PyProof.Rows PySem.W
section
variable{X:Cx}
theorem call_sortedT:CallR X (.builtin "sorted") (fun xs H Q=>∃(a:Addr) (its:List (Addr×List Int)),xs=[.ref a]/\SqL X.K H a (its.map fun p=>V.ref p.1)/\(∀p∈its,SqT X.K H p.1 (p.2.map V.int)/\p.2≠[])/\its.length<64/\
  ∀(l:Addr) (its':List (Addr×List Int)),H l=none->its'.Perm its->its'.Pairwise (fun p q=>HT.lexLt q.2 p.2=false)->Q (.ref l) (upd H l (.lst (its'.map fun p=>V.ref p.1)))):=by
 intro pins s σ H xs us Q I r h
 obtain⟨a,its,rfl,hS,hT,h64,q⟩:=h
 obtain⟨u,rfl,ru⟩:=r.one
 cases ru
 obtain⟨vs,rv,pl,hz⟩:=I.list hS
 have hlen:its.length=vs.length:=by have:=rv.length;simpa using this
 -- the values beside the tuples
 have pr:Paired (fun(p:Addr×List Int) (v:Value)=>v= .ref p.1) its vs:=by
  have go:∀(l:List (Addr×List Int)) (us:List Value),Vals (l.map fun p=>V.ref p.1) us->Paired (fun(p:Addr×List Int) (v:Value)=>v= .ref p.1) l us:=by
   intro l
   induction l with
   |nil=>intro us h;cases h;exact .nil
   |cons p l ih=>
    intro us h
    cases h with
    |cons r t=>exact .cons r (ih _ t)
  exact go its vs rv
 have tup:∀p∈its,∃(items:List Value),IntsAre items p.2/\IsTup s.heap p.1 items.toArray:=fun p hp=>by
  obtain⟨its',r',t',_⟩:=I.tuple (hT p hp).1
  exact⟨its',zdd r',t'⟩
 refine Srt.sorted_own (O:=Srt.lexOrd) (key:=fun i=>(its.getD i (0,[])).2) (κ:=tuples' true) (s:=s) pl.isList (by omega) (fun h2 h' k E' Q' hq=> ?_) (fun h2 h' k=> ?_) (fun D h' out c ho hD k hc=> ?_)
 ·have kt:∀(l:List (Addr×List Int)) (us:List Value),Paired (fun(p:Addr×List Int) (v:Value)=>v= .ref p.1) l us->(∀p∈l,p∈its)->∃fs:List Value,KatTups h' us fs/\fs.length=us.length/\∀v∈fs,∃i t,v=Value.int i t:=by
   intro l us h
   induction h with
   |nil=>intro _;exact⟨[],trivial,rfl,fun _ hv=>nomatch hv⟩
   | @cons p v l us r t ih=>
    intro hs
    obtain⟨fs,k1,k2,k3⟩:=ih fun p hp=>hs p (List.mem_cons_of_mem _ hp)
    obtain⟨items,hi,o,e,hc,n,hd⟩:=tup p (hs p List.mem_cons_self)
    have hne:=(hT p (hs p List.mem_cons_self)).2
    obtain⟨pa,pn⟩:=p
    dsimp only at hi hne e r
    cases hi with
    |nil=>exact absurd rfl hne
    |cons i t hi'=>
     rw[r]
     refine⟨Value.int i t::fs,KatTups.cons (k _ _ e) hc hd (by simp) k1,by simp[k2],fun v hv=> ?_⟩
     rcases List.mem_cons.mp hv with e|e
     ·exact⟨i,t,e⟩
     ·exact k3 v e
  obtain⟨fs,k1,k2,k3⟩:=kt its vs pr fun _ hp=>hp
  refine kat_kind (s:={s with heap:=h'}) (T:= .type "int") k1 (by omega) (fun v hv=> ?_) (by rfl) hq
  obtain⟨i,t,rfl⟩:=k3 v hv
  exact fun A Q E s _ q=>wpAny_pure q
 ·intro i j C hi hj hC
  rw[<-hlen]at hi hj
  have get:∀i (hi:i<its.length),vs.getD i Value.none= .ref its[i].1:=by
   have go:∀(l:List (Addr×List Int)) (us:List Value),Paired (fun(p:Addr×List Int) (v:Value)=>v= .ref p.1) l us->∀i (hi:i<l.length),us.getD i Value.none= .ref l[i].1:=by
    intro l us h
    induction h with
    |nil=>intro i hi;simp at hi
    |cons r t ih=>
     intro i hi
     cases i with
     |zero=>exact r
     |succ i=>simpa using ih i (by simpa using hi)
   exact go its vs pr
  unfold kas_ask
  rw[get i hi,get j hj]
  obtain⟨xi,hxi,oi,ei,ci,ni,di⟩:=tup its[i] (List.getElem_mem _)
  obtain⟨xj,hxj,oj,ej,cj,nj,dj⟩:=tup its[j] (List.getElem_mem _)
  refine kat_lt (s:={s with heap:=h'}) (k _ _ ei) di (k _ _ ej) dj ?_
  refine Srt.lex_ints 0 hxi hxj ?_ ?_
  ·have:=hxi.length;have:=hxj.length
   simp only[List.size_toArray]
   omega
  ·rw[HT.lexLt_iff]
   have e1:its.getD i (0,[])=its[i]:=by simp[hi]
   have e2:its.getD j (0,[])=its[j]:=by simp[hj]
   have hC':C (decide ((its.getD i (0,[])).2<(its.getD j (0,[])).2)) {s with heap:=h'}:=hC
   rw[e1,e2]at hC'
   exact hC'
 ·obtain⟨its',hp,hr,hw⟩:=Srt.outs_of (d:=((0,[]):Addr×List Int)) (f:=fun p=>p.2) pr (fun i hi=>by show(its.getD i (0,[])).2=_;simp[hi]) ho
  have hn:H D=none:=I.hok.fresh hD
  have rv':Vals (its'.map fun p=>V.ref p.1) out:=by
   have go:∀(l:List (Addr×List Int)) (us:List Value),Paired (fun(p:Addr×List Int) (v:Value)=>v= .ref p.1) l us->Vals (l.map fun p=>V.ref p.1) us:=by
    intro l us h
    induction h with
    |nil=>exact .nil
    |cons r t ih=>exact .cons r ih
   exact go its' out hr
  have zl:(its'.map fun p=>V.ref p.1).length<=sizeLine:=by
   have:=hp.length_eq
   rw[List.length_map]
   exact Nat.le_of_lt (small1000 (by omega))
  have J:Inv X pins σ (upd H D (.lst (its'.map fun p=>V.ref p.1))) {s with heap:=h',toks:=s.toks}:=I.laid k hD ⟨zl,out,c,rv',hc⟩
  refine⟨.ref D,_,J,rfl,q D its' hn hp (hw.imp fun{x y} hxy=> ?_)⟩
  rw[HT.lexLt_iff];exact hxy
end
end L2
namespace L2
open PySem PySem.Spec PyProof.Rows
section
variable{X:Cx}
theorem bools_of:∀{bs:List Bool} {us:List Value},Vals (bs.map V.bl) us->us=bs.map Value.bool
 |[],_,h=>by cases h;rfl
 |b::bs,_,h=>by
  cases h with
  |cons r t=>rw[List.map_cons,bools_of t];exact congrArg (· ::_) r
theorem call_all(hc:X.calm=true):CallR X (.builtin "all") (fun xs H Q=>∃(a:Addr) (bs:List Bool),xs=[.ref a]/\SqL X.K H a (bs.map V.bl)/\Q (.bl (bs.all id)) H):=by
 intro pins s σ H xs us Q I r h
 obtain⟨a,bs,rfl,hS,q⟩:=h
 obtain⟨u,rfl,ru⟩:=r.one
 cases ru
 obtain⟨vs,rv,pl,hz⟩:=I.list hS
 have hv:=bools_of rv
 have hl:=pl.isList
 have hlt:a<s.heap.objs.size:=by obtain⟨_,e,_⟩:=hl;exact Heap.lt_size e
 refine call_all_walk (wpAny_pyIter_list hl ?_)
 refine⟨s.heap.objs.size,[s.heap.objs.size,a],[s.heap.objs.size],vs.toArray.size,_,_,fun i=>(bs[i]?).getD true,rfl,Walks.list (A:=X.A.in1) (I.ok.hd hc) _ a (Nat.ne_of_lt hlt) vs.toArray,
  ⟨⟨_,Heap.get?_push_size _ rfl,rfl,rfl⟩,hl.push _⟩,fun i v s' Q' E' hP hQ=> ?_,fun h' tk hk=> ?_⟩
 ·have hP':vs[i]? =some v:=by simpa using hP
  rw[hv,List.getElem?_map]at hP'
  cases e:bs[i]? with
  |none=>rw[e]at hP';cases hP'
  |some b=>
   rw[e]at hP'
   cases hP'
   simp only[e,Option.getD_some]at hQ
   exact wpAny_truthy_bool hQ
 ·have e:((List.range vs.toArray.size).all fun i=>(bs[i]?).getD true)=bs.all id:=by
   rw[List.size_toArray,hv,List.length_map];exact LSm.range_all bs
  rw[e]
  exact⟨.bl _,H,I.kept (LSm.kept_iter hk),rfl,q⟩
theorem call_any(hc:X.calm=true):CallR X (.builtin "any") (fun xs H Q=>∃(a:Addr) (bs:List Bool),xs=[.ref a]/\SqL X.K H a (bs.map V.bl)/\Q (.bl (bs.any id)) H):=by
 intro pins s σ H xs us Q I r h
 obtain⟨a,bs,rfl,hS,q⟩:=h
 obtain⟨u,rfl,ru⟩:=r.one
 cases ru
 obtain⟨vs,rv,pl,hz⟩:=I.list hS
 have hv:=bools_of rv
 have hl:=pl.isList
 have hlt:a<s.heap.objs.size:=by obtain⟨_,e,_⟩:=hl;exact Heap.lt_size e
 refine call_any_walk (wpAny_pyIter_list hl ?_)
 refine⟨s.heap.objs.size,[s.heap.objs.size,a],[s.heap.objs.size],vs.toArray.size,_,_,fun i=>(bs[i]?).getD false,rfl,Walks.list (A:=X.A.in1) (I.ok.hd hc) _ a (Nat.ne_of_lt hlt) vs.toArray,
  ⟨⟨_,Heap.get?_push_size _ rfl,rfl,rfl⟩,hl.push _⟩,fun i v s' Q' E' hP hQ=> ?_,fun h' tk hk=> ?_⟩
 ·have hP':vs[i]? =some v:=by simpa using hP
  rw[hv,List.getElem?_map]at hP'
  cases e:bs[i]? with
  |none=>rw[e]at hP';cases hP'
  |some b=>
   rw[e]at hP'
   cases hP'
   simp only[e,Option.getD_some]at hQ
   exact wpAny_truthy_bool hQ
 ·have e:((List.range vs.toArray.size).any fun i=>(bs[i]?).getD false)=bs.any id:=by
   rw[List.size_toArray,hv,List.length_map];exact LSm.range_any bs
  rw[e]
  exact⟨.bl _,H,I.kept (LSm.kept_iter hk),rfl,q⟩
noncomputable def KindV(K:W.Frag)(H:Hp):V->String->Prop
 | .non,T=>T="NoneType"
 | .bl _,T=>T="bool"
 | .int _,T=>T="int"
 | .str _,T=>T="str"
 | .ref a,T=>(T="tuple"/\∃xs,SqT K H a xs)\/(T="list"/\∃xs,SqL K H a xs)\/(T="dict"/\∃kvs,H a=some (.dK kvs))
 |_,_=>False
noncomputable def isiB(T C:String):Bool:=T==C||(T=="bool"&&C=="int")
theorem call_isi:CallR X (.builtin "isinstance") (fun xs H Q=>∃(x:V) (T C:String),xs=[x,.ty C]/\KindV X.K H x T/\(C="int"\/C="bool"\/C="tuple"\/C="list")/\Q (.bl (isiB T C)) H):=by
 intro pins s σ H xs us Q I r h
 obtain⟨x,T,C,rfl,hk,hC,q⟩:=h
 obtain⟨u,v,rfl,ru,rv⟩:=r.two
 cases rv
 have fin0:∀b,b=isiB T C->EP X pins σ Q (.bool b) s:=fun b e=>⟨.bl b,H,I,rfl,by rw[e];exact q⟩
 have fin1:∀b,b=isiB T C->EP X pins σ Q (.bool b) {s with toks:=s.toks+1}:=fun b e=>⟨.bl b,H,I.tok _,rfl,by rw[e];exact q⟩
 cases x with
 |non=>
  cases ru;cases hk
  rcases hC with rfl|rfl|rfl|rfl
  ·exact IsiPair.NoneType_int (fin1 _ rfl)
  ·exact IsiPair.NoneType_bool (fin1 _ rfl)
  ·exact IsiPair.NoneType_tuple (fin1 _ rfl)
  ·exact IsiPair.NoneType_list (fin1 _ rfl)
 |bl b=>
  cases ru;cases hk
  rcases hC with rfl|rfl|rfl|rfl
  ·exact IsiPair.bool_int (fin0 _ rfl)
  ·exact IsiPair.bool_bool (fin0 _ rfl)
  ·exact IsiPair.bool_tuple (fin1 _ rfl)
  ·exact IsiPair.bool_list (fin1 _ rfl)
 |int i=>
  obtain⟨t,rfl⟩:=ru;cases hk
  rcases hC with rfl|rfl|rfl|rfl
  ·exact IsiPair.int_int (fin0 _ rfl)
  ·exact IsiPair.int_bool (fin1 _ rfl)
  ·exact IsiPair.int_tuple (fin1 _ rfl)
  ·exact IsiPair.int_list (fin1 _ rfl)
 |str z=>
  obtain⟨t,rfl⟩:=ru;cases hk
  rcases hC with rfl|rfl|rfl|rfl
  ·exact IsiPair.str_int (fin1 _ rfl)
  ·exact IsiPair.str_bool (fin1 _ rfl)
  ·exact IsiPair.str_tuple (fin1 _ rfl)
  ·exact IsiPair.str_list (fin1 _ rfl)
 |ref a=>
  cases ru
  rcases hk with⟨rfl,xs,hS⟩|⟨rfl,xs,hS⟩|⟨rfl,kvs,hS⟩
  ·obtain⟨its,_,⟨o,e,c,n,d⟩,_⟩:=I.tuple hS
   rcases hC with rfl|rfl|rfl|rfl
   ·exact IsiPair.tuple_int e c (fin1 _ rfl)
   ·exact IsiPair.tuple_bool e c (fin1 _ rfl)
   ·exact IsiPair.tuple_tuple e c (fin0 _ rfl)
   ·exact IsiPair.tuple_list e c (fin1 _ rfl)
  ·obtain⟨its,_,⟨o,n,e,c,d,_⟩,_⟩:=I.list hS
   rcases hC with rfl|rfl|rfl|rfl
   ·exact IsiPair.list_int e c (fin1 _ rfl)
   ·exact IsiPair.list_bool e c (fin1 _ rfl)
   ·exact IsiPair.list_tuple e c (fin1 _ rfl)
   ·exact IsiPair.list_list e c (fin0 _ rfl)
  ·obtain⟨_,_,vs,_,o,es,ep,e,c,_⟩:=I.hok a _ hS
   have c':o.cls= .type "dict":=c.1
   rcases hC with rfl|rfl|rfl|rfl
   ·exact IsiPair.dict_int e c' (fin1 _ rfl)
   ·exact IsiPair.dict_bool e c' (fin1 _ rfl)
   ·exact IsiPair.dict_tuple e c' (fin1 _ rfl)
   ·exact IsiPair.dict_list e c' (fin1 _ rfl)
 |_=>exact hk.elim
end
end L2
namespace L2
open PySem PySem.Spec PyProof.Rows
mutual
inductive DV(K:W.Frag)(H:Hp):V->PyData->Prop
 |non:DV K H .non .none
 |bl (b:Bool):DV K H (.bl b) (.bool b)
 |int (i:Int):DV K H (.int i) (.int i)
 |str (x:Str):DV K H (.str x) (.str x)
 |tup {a:Addr} {xs:List V} {ds:List PyData} (h:SqT K H a xs) (t:DVs K H xs ds):DV K H (.ref a) (.tuple ds)
 |lst {a:Addr} {xs:List V} {ds:List PyData} (h:SqL K H a xs) (t:DVs K H xs ds):DV K H (.ref a) (.list ds)
 |dc0 {a:Addr} (h:H a=some (.dK [])):DV K H (.ref a) (.dict [])
 |dc1 {a b:Addr} {i:Int} (h:H a=some (.dK [(Sum.inl i,.ref b)])) (t:SqT K H b []):DV K H (.ref a) (.dict [(.int i,.tuple [])])
inductive DVs(K:W.Frag)(H:Hp):List V->List PyData->Prop
 |nil:DVs K H [] []
 |cons {x:V} {d:PyData} {xs:List V} {ds:List PyData} (h:DV K H x d) (t:DVs K H xs ds):DVs K H (x::xs) (d::ds)
end
theorem Same.tup{K:W.Frag}{H H':Hp}{a:Addr}{xs:List V}(e:Same H H')(h:SqT K H a xs):SqT K H' a xs:=by
 rcases h with(h|⟨o,h⟩)|h
 ·exact .inl (.inl (e _ _ h))
 ·exact .inl (.inr ⟨o,e _ _ h⟩)
 ·exact .inr h
theorem DV.same{K:W.Frag}{H H':Hp}(e:Same H H'){x:V}{d:PyData}(h:DV K H x d):DV K H' x d:=
 DV.rec (motive_1:=fun x d _=>DV K H' x d) (motive_2:=fun xs ds _=>DVs K H' xs ds) .non (fun b=> .bl b) (fun i=> .int i) (fun x=> .str x) (fun h _ t=> .tup (e.tup h) t) (fun h _ t=> .lst (e.seq h) t) (fun h=> .dc0 (e _ _ h)) (fun h t=> .dc1 (e _ _ h) (e.tup t)) .nil (fun _ _ h t=> .cons h t) h
theorem DVs.same{K:W.Frag}{H H':Hp}(e:Same H H'){xs:List V}{ds:List PyData}(h:DVs K H xs ds):DVs K H' xs ds:=
 DVs.rec (motive_1:=fun x d _=>DV K H' x d) (motive_2:=fun xs ds _=>DVs K H' xs ds) .non (fun b=> .bl b) (fun i=> .int i) (fun x=> .str x) (fun h _ t=> .tup (e.tup h) t) (fun h _ t=> .lst (e.seq h) t) (fun h=> .dc0 (e _ _ h)) (fun h t=> .dc1 (e _ _ h) (e.tup t)) .nil (fun _ _ h t=> .cons h t) h
theorem pairs_nil{P:Program}{w:World}{es:List DictEntry}(h:Pairs (mixKind P w) es []):es=[]:=by
 cases h;rfl
theorem pairs_one{P:Program}{w:World}{es:List DictEntry}{k:Key}{u:Value}(h:Pairs (mixKind P w) es [(k,u)]):∃e,es=[e]/\keyIs k e.key=true/\e.val=u:=by
 cases h with
 |cons h1 h2 h3=>
  cases h3
  exact⟨_,rfl,h1,h2⟩
section
variable{X:Cx}{pins:List (Addr×Obj)}{σ:St}{H:Hp}{s:Shared}
theorem dc0_reads(I:Inv X pins σ H s){a:Addr}(h:H a=some (.dK [])):Reads s.heap (.ref a) (.dict []) (a::[]++[])/\(a==sysModules)=false:=by
 obtain⟨_,hne,vs,r0,o,es,ep,e,c,d,_,pr,_⟩:=I.hok _ _ h
 cases r0
 have hes:es.toList=[]:=pairs_nil pr
 refine⟨.dict (kvs:=[]) (as:=[]) (bs:=[]) e c.1 d ?_ ?_,hne⟩
 ·rw[hes];exact .nil
 ·rw[hes];exact .nil
theorem dc1_reads(I:Inv X pins σ H s){a b:Addr}{i:Int}(h:H a=some (.dK [(Sum.inl i,.ref b)]))(t:SqT X.K H b []):Reads s.heap (.ref a) (.dict [(.int i,.tuple [])]) (a::([]++[])++([]++[]))/\(a==sysModules)=false:=by
 obtain⟨_,hne,vs,r0,o,es,ep,e,c,d,_,pr,_⟩:=I.hok _ _ h
 obtain⟨its,rv,⟨o2,e2,c2,n2,d2⟩,_⟩:=I.tuple t
 cases rv
 cases r0 with
 | @cons p q ps qs hq tl=>
  cases tl
  obtain⟨en,he,hk,hv⟩:=pairs_one pr
  obtain⟨k,u⟩:=q
  dsimp only at hq
  obtain⟨hk1,hu1⟩:=hq
  subst hk1
  cases hu1
  obtain⟨tk,ek⟩:∃tk,en.key=Value.int i tk:=by
   rcases zby hk with⟨i',t',e3,e4⟩|⟨x,t',e3,e4⟩
   ·cases e3;exact⟨t',e4⟩
   ·cases e3
  refine⟨.dict (kvs:=[(.int i,.tuple [])]) (as:=[]++[]) (bs:=[]++[]) e c.1 d ?_ ?_,hne⟩
  ·rw[he]
   show ReadsAll s.heap [en.key] [PyData.int i] _
   rw[ek]
   exact .cons (.int i tk) .nil
  ·rw[he]
   show ReadsAll s.heap [en.val] [PyData.tuple []] _
   rw[hv]
   exact .cons (.tuple e2 c2 d2 .nil) .nil
end
section
variable{X:Cx}{pins:List (Addr×Obj)}{σ:St}{H:Hp}{s:Shared}
theorem reads_tup(I:Inv X pins σ H s){a:Addr}{xs:List V}{ds:List PyData}(h:SqT X.K H a xs)(t:∀{us:List Value},Vals xs us->∃as,ReadsAll s.heap us ds as){u:Value}(r:RelV (.ref a) u):∃as,Reads s.heap u (.tuple ds) as:=by
 cases r
 obtain⟨its,rv,⟨o,e,c,n,d⟩,_⟩:=I.tuple h
 obtain⟨as,ra⟩:=t rv
 exact⟨_,.tuple e c d (by simpa using ra)⟩
theorem reads_lst(I:Inv X pins σ H s){a:Addr}{xs:List V}{ds:List PyData}(h:SqL X.K H a xs)(t:∀{us:List Value},Vals xs us->∃as,ReadsAll s.heap us ds as){u:Value}(r:RelV (.ref a) u):∃as,Reads s.heap u (.list ds) as:=by
 cases r
 obtain⟨its,rv,⟨o,n,e,c,_,d⟩,_⟩:=I.list h
 obtain⟨as,ra⟩:=t rv
 exact⟨_,.list e c d (by simpa using ra)⟩
theorem DV.reads(I:Inv X pins σ H s){x:V}{d:PyData}{u:Value}(h:DV X.K H x d)(r:RelV x u):∃as,Reads s.heap u d as:=
 DV.rec (motive_1:=fun x d _=>∀{u:Value},RelV x u->∃as,Reads s.heap u d as) (motive_2:=fun xs ds _=>∀{us:List Value},Vals xs us->∃as,ReadsAll s.heap us ds as)
  (fun r=>by cases r;exact⟨_,.none⟩) (fun b _ r=>by cases r;exact⟨_,.bool b⟩) (fun i _ r=>by obtain⟨t,rfl⟩:=r;exact⟨_,.int i t⟩) (fun x _ r=>by obtain⟨t,rfl⟩:=r;exact⟨_,.str x t⟩)
  (fun h _ t _ r=>reads_tup I h t r) (fun h _ t _ r=>reads_lst I h t r) (fun h _ r=>by cases r;exact⟨_,(dc0_reads I h).1⟩) (fun h t _ r=>by cases r;exact⟨_,(dc1_reads I h t).1⟩)
  (fun r=>by cases r;exact⟨_,.nil⟩) (fun _ _ h t _ r=>by
   cases r with
   |cons r rr=>
    obtain⟨as,ra⟩:=h r
    obtain⟨bs,rb⟩:=t rr
    exact⟨_,.cons ra rb⟩) h r
theorem DVs.reads(I:Inv X pins σ H s){xs:List V}{ds:List PyData}{us:List Value}(h:DVs X.K H xs ds)(r:Vals xs us):∃as,ReadsAll s.heap us ds as:=
 DVs.rec (motive_1:=fun _ _ _=>True) (motive_2:=fun xs ds _=>∀{us:List Value},Vals xs us->∃as,ReadsAll s.heap us ds as) trivial (fun _=>trivial) (fun _=>trivial) (fun _=>trivial) (fun _ _ _=>trivial) (fun _ _ _=>trivial) (fun _=>trivial) (fun _ _=>trivial)
  (fun r=>by cases r;exact⟨_,.nil⟩) (fun h _ _ t _ r=>by
   cases r with
   |cons r rr=>
    obtain⟨as,ra⟩:=DV.reads I h r
    obtain⟨bs,rb⟩:=t rr
    exact⟨_,.cons ra rb⟩) h r
end
mutual
noncomputable def noL:PyData->Bool
 | .list _=>false
 | .tuple ds=>noLs ds
 |_=>true
noncomputable def noLs:List PyData->Bool
 |[]=>true
 |d::ds=>noL d&&noLs ds
end
section
variable{X:Cx}{pins:List (Addr×Obj)}{σ:St}{H:Hp}{s:Shared}
end
theorem DVs.ints{K:W.Frag}{H:Hp}:∀(ns:List Int),DVs K H (ns.map V.int) (ns.map PyData.int)
 |[]=> .nil
 |n::ns=> .cons (.int n) (DVs.ints ns)
theorem DVs.len{K:W.Frag}{H:Hp}{xs:List V}{ds:List PyData}(h:DVs K H xs ds):xs.length=ds.length:=
 DVs.rec (motive_1:=fun _ _ _=>True) (motive_2:=fun xs ds _=>xs.length=ds.length) trivial (fun _=>trivial) (fun _=>trivial) (fun _=>trivial) (fun _ _ _=>trivial) (fun _ _ _=>trivial) (fun _=>trivial) (fun _ _=>trivial) rfl (fun _ _ _ t=>congrArg Nat.succ t) h
section
variable{X:Cx}
theorem op_eqD(hu:X.A.units+64<cLine):OpR X (compareOp .Eq) (fun x y H Q=>∃da db,DV X.K H x da/\DV X.K H y db/\da.canLay0=true/\db.canLay0=true/\min da.depth db.depth<=64/\Q (.bl (PyData.eqv da db)) H):=by
 intro pins s σ H x y v u Q I rx ry h
 obtain⟨da,db,hx,hy,ca,cb,hd,q⟩:=h
 obtain⟨as,ra⟩:=DV.reads I hx rx
 obtain⟨bs,rb⟩:=DV.reads I hy ry
 exact SeqAt.rcAt_reads ra rb ca cb (by omega) _ _ _ _ ⟨.bl _,H,I,rfl,q⟩
theorem op_neD(hu:X.A.units+64<cLine):OpR X (compareOp .NotEq) (fun x y H Q=>∃da db,DV X.K H x da/\DV X.K H y db/\da.canLay0=true/\db.canLay0=true/\min da.depth db.depth<=64/\Q (.bl (!PyData.eqv da db)) H):=by
 intro pins s σ H x y v u Q I rx ry h
 obtain⟨da,db,hx,hy,ca,cb,hd,q⟩:=h
 obtain⟨as,ra⟩:=DV.reads I hx rx
 obtain⟨bs,rb⟩:=DV.reads I hy ry
 exact SeqAt.rcNeAt_reads ra rb ca cb (by omega) _ _ _ _ ⟨.bl _,H,I,rfl,q⟩
theorem allLay:∀{ds:List PyData},PyData.canLayAll0 ds=true->∀d∈ds,d.canLay0=true
 |[],_,d,h=>nomatch h
 |e::ds,h,d,hd=>by
  have h':(e.canLay0&&PyData.canLayAll0 ds)=true:=h
  rw[Bool.and_eq_true]at h'
  rcases List.mem_cons.mp hd with rfl|hd
  ·exact h'.1
  ·exact allLay h'.2 d hd
open Classical in
theorem op_inD(hu:X.A.units+64<cLine):OpR X (compareOp .In) (fun x y H Q=>∃(p:Addr) (xs:List V) (ds:List PyData) (dx:PyData),y= .ref p/\(SqL X.K H p xs\/SqT X.K H p xs)/\DVs X.K H xs ds/\DV X.K H x dx/\PyData.canLayAll0 ds=true/\dx.canLay0=true/\dx.depth<=60/\
  Q (.bl (ds.any fun d=>PyData.eqv d dx)) H):=by
 intro pins s σ H x y v u Q I rx ry h
 obtain⟨p,xs,ds,dx,rfl,hq,hds,hx,ca,cb,hd,q⟩:=h
 cases ry
 obtain⟨bs,rb⟩:=DV.reads I hx rx
 have key:∀{its:List Value},Vals xs its->(∀y∈its,SeqAt.EqAt X.A.in1 s y v (decide (∃d as,Reads s.heap y d as/\d∈ds/\PyData.eqv d dx=true)))/\(its.any fun y=>decide (∃d as,Reads s.heap y d as/\d∈ds/\PyData.eqv d dx=true))=ds.any fun d=>PyData.eqv d dx:=by
  intro its rv
  obtain⟨as,ra⟩:=DVs.reads I hds rv
  have each:∀{us:List Value} {es:List PyData} {as:List Addr},ReadsAll s.heap us es as->(∀e∈es,e∈ds)->(∀y∈us,SeqAt.EqAt X.A.in1 s y v (decide (∃d as,Reads s.heap y d as/\d∈ds/\PyData.eqv d dx=true)))/\(us.any fun y=>decide (∃d as,Reads s.heap y d as/\d∈ds/\PyData.eqv d dx=true))=es.any fun d=>PyData.eqv d dx:=by
   intro us
   induction us with
   |nil=>intro es as h _;cases h;exact⟨(fun y hy=>(nomatch hy)),rfl⟩
   |cons y us ih=>
    intro es as h hs
    cases h with
    | @cons _ _ d ds' as' bs' r rr=>
     obtain⟨i1,i2⟩:=ih rr fun e he=>hs e (List.mem_cons_of_mem _ he)
     have cl:=allLay ca d (hs d List.mem_cons_self)
     have e:decide (∃d as,Reads s.heap y d as/\d∈ds/\PyData.eqv d dx=true)=PyData.eqv d dx:=by
      rw[Bool.eq_iff_iff,decide_eq_true_eq]
      constructor
      ·rintro⟨d',as'',r',_,q'⟩
       obtain⟨rfl,_⟩:=(PySem.Reads.unique r _ _ r')
       exact q'
      ·intro q'
       exact⟨d,_,r,hs d List.mem_cons_self,q'⟩
     refine⟨fun z hz=> ?_,?_⟩
     ·rcases List.mem_cons.mp hz with rfl|hz
      ·rw[e]
       exact SeqAt.eqAt_reads d dx _ s _ _ _ _ r rb cl cb (by show X.A.units+1+min d.depth dx.depth<cLine;omega)
      ·exact i1 z hz
     ·rw[List.any_cons,List.any_cons,i2,e]
  exact each ra fun e he=>he
 rcases hq with hq|hq
 ·obtain⟨its,r,pl,hz⟩:=I.list hq
  obtain⟨k1,k2⟩:=key r
  refine SeqAt.in_listAt _ pl.isList (fun w hw=>k1 w (by simpa using hw)) ⟨.bl _,H,I,rfl,?_⟩
  rw[show∀f:Value->Bool,its.toArray.any f=its.any f from fun f=>by simp,k2]
  exact q
 ·obtain⟨its,r,pl,hz⟩:=I.tuple hq
  obtain⟨k1,k2⟩:=key r
  refine SeqAt.in_tupleAt _ pl (fun w hw=>k1 w (by simpa using hw)) ⟨.bl _,H,I,rfl,?_⟩
  rw[show∀f:Value->Bool,its.toArray.any f=its.any f from fun f=>by simp,k2]
  exact q
end
end L2
namespace HT
open PySem PyProof.Rows
section
open PySem.SeqAt
open PySem.AutoSeq1 (wpAny_loadPart')
open PySem.MeetsSeq PySem.MeetsSeq2 PySem.MeetsSeq3
end
section
variable{prog:Program}{w:World}{A:Around}{E:Value->Shared->Prop}{s:Shared}
end
end HT
namespace L2
open PySem PySem.Spec PyProof.Rows
section
variable{X:Cx}
theorem op_fdivL:OpR X (binaryOp .FloorDiv) (rI (fun _ j=>0<j/\j<1000000000000000000000000000000) fun i j=> .int (i/j)):=opI fun i j _ _ _ _ _ hc q=>by
 have h1:(0:Int)<j:=hc.1
 have h2:j<1000000000000000000000000000000:=hc.2
 refine floordiv_int (by omega) ?_ (Or.inl (PyProof.noPylong_of_log2 ?_))
 ·rw[Int.fdiv_eq_ediv_of_nonneg _ (by omega)]
  exact q
 ·have h3:j.natAbs≠0:=by omega
  have h4:j.natAbs<2^100:=by
   have:(2:Nat)^100=1267650600228229401496703205376:=by decide
   omega
  have:=(Nat.log2_lt h3).mpr h4
  omega
noncomputable def rCatE(K:W.Frag):R2:=fun x y H Q=>∃a b xs ys,x= .ref a/\y= .ref b/\SqT K H a xs/\SqT K H b ys/\xs.length+ys.length<=sizeLine/\∀r H',Same H H'->SqT K H' r (xs++ys)->Q (.ref r) H'
theorem op_catE:OpR X (binaryOp .Add) (rCatE X.K):=by
 intro pins s σ H x y v u Q I rx ry h
 obtain⟨a,b,xs,ys,rfl,rfl,ha,hb,hz,q⟩:=h
 by_cases hx:xs=[]
 ·subst hx
  cases rx
  cases ry
  obtain⟨its,r1,p1,_⟩:=I.tuple ha
  obtain⟨its2,r2,p2,_⟩:=I.tuple hb
  cases r1
  obtain⟨⟨cls,dd,data,sl⟩,ho,hc,n,hd⟩:=id p1
  obtain⟨⟨cls2,dd2,data2,sl2⟩,ho2,hc2,n2,hd2⟩:=id p2
  simp only at hc hd hc2 hd2
  subst hc hd hc2 hd2
  exact concat_meets ⟨_,ho,rfl⟩ ⟨_,ho2,rfl⟩ noFill_tuple_add seq_tuple_add PySem.F.slot_tuple_add PySem.F.entry_tuple_add (PySem.F.args_tuple_add_2 _ _)
   (tuple_addW0 a b _ _ n n2 dd dd2 sl sl2 (by simp)) ⟨ho,ho2,⟨.ref b,H,I,rfl,q b H (Same.refl _) hb⟩⟩
 ·refine op_catT pins s σ H _ _ v u Q I rx ry ⟨a,b,xs,ys,rfl,rfl,ha,hb,hx,hz,fun e=> ?_,fun e p hp=> ?_⟩
  ·subst e
   exact q a H (Same.refl _) (by rw[List.append_nil];exact ha)
  ·exact q p _ (fun c o e=>by rw[zbz (zbs e hp)];exact e) (SqT.of zac)
end
end L2
namespace HT
open PySem PySem.Calls PySem.Spec PyProof.Rows PySem.W
section
variable{prog:Program}{w:World}{A:Around}{E:Value->Shared->Prop}{s:Shared}
end
end HT
namespace L2
open PySem PySem.Spec PyProof.Rows
section
variable{X:Cx}{e m:Expr}{te:TE}{tm:TO}{pos p2:Pos}
end
end L2
namespace L2
open PySem PySem.Spec PyProof.Rows
section
variable{X:Cx}{tg:Expr}
noncomputable def iListL(K:W.Frag)(tl:TE):TI:=fun σ H R=>tl σ H fun x H1=>∃a xs,x= .ref a/\SqL K H1 a xs/\(xs.length<=sizeLine->R (Itl K a) H1)
noncomputable def iTupL(K:W.Frag)(tl:TE):TI:=fun σ H R=>tl σ H fun x H1=>∃a xs,x= .ref a/\SqT K H1 a xs/\(xs.length<=sizeLine->R (Itt K a) H1)
theorem zcy{l:Expr}{tl:TE}(hl:PE X l tl):PI X tg l (iListL X.K tl):=by
 intro pins s σ H R I h
 refine thn (hl pins s σ H _ I h) fun v s1 ⟨x,H1,I1,r1,q1⟩=> ?_
 obtain⟨a,xs,e,hq,q⟩:=q1
 subst e
 cases r1
 obtain⟨its,rv,p,hz⟩:=I1.list hq
 refine wpAny_pyIter_list p.isList ?_
 refine⟨s1.heap.objs.size,[s1.heap.objs.size],_,_,H1,rfl,I1.kept (t':=s1.toks) fun b o e=>Heap.get?_push_of_some _ e,turn_list a _,⟨_,Heap.get?_push_size _ rfl,rfl,rfl⟩,fun b hb=> ?_,q hz⟩
 have e:b=s1.heap.objs.size:=by simpa using hb
 subst e
 exact I1.fpOk (Nat.le_refl _) (I1.hok.fresh (Nat.le_refl _))
theorem pi_tupL{l:Expr}{tl:TE}(hl:PE X l tl):PI X tg l (iTupL X.K tl):=by
 intro pins s σ H R I h
 refine thn (hl pins s σ H _ I h) fun v s1 ⟨x,H1,I1,r1,q1⟩=> ?_
 obtain⟨a,xs,e,hq,q⟩:=q1
 subst e
 cases r1
 obtain⟨its,rv,p,hz⟩:=I1.tuple hq
 refine wpAny_pyIter_tuple (show s1.heap.IsTuple a its.toArray from p) ?_
 refine⟨s1.heap.objs.size,[s1.heap.objs.size],_,_,H1,rfl,I1.kept (t':=s1.toks) fun b o e=>Heap.get?_push_of_some _ e,turn_tuple a _,⟨_,Heap.get?_push_size _ rfl,rfl,rfl⟩,fun b hb=> ?_,q hz⟩
 have e:b=s1.heap.objs.size:=by simpa using hb
 subst e
 exact I1.fpOk (Nat.le_refl _) (I1.hok.fresh (Nat.le_refl _))
theorem zas:CallR X (.builtin "len") (fun xs H Q=>∃p ys,xs=[.ref p]/\(SqL X.K H p ys\/SqT X.K H p ys)/\(ys.length<=16777216->Q (.int ys.length) H)):=by
 intro pins s σ H xs us Q I r h
 obtain⟨p,ys,rfl,hq,q⟩:=h
 have hz:ys.length<=16777216:=by
  rw[<-sizeLine_eq]
  rcases hq with hq|hq
  ·exact(I.list hq).choose_spec.2.2
  ·exact(I.tuple hq).choose_spec.2.2
 exact call_len_seq pins s σ H _ us Q I r ⟨p,ys,rfl,hq,q hz⟩
end
mutual
inductive DX(K:W.Frag)(H:Hp):V->PyData->Prop
 |non:DX K H .non .none
 |bl (b:Bool):DX K H (.bl b) (.bool b)
 |int (i:Int):DX K H (.int i) (.int i)
 |str (x:Str):DX K H (.str x) (.str x)
 |tup {a:Addr} {xs:List V} {ds:List PyData} (h:SqT K H a xs) (t:DXs K H xs ds):DX K H (.ref a) (.tuple ds)
 |lst {a:Addr} {xs:List V} {ds:List PyData} (h:SqL K H a xs) (t:DXs K H xs ds):DX K H (.ref a) (.list ds)
 |dct {a:Addr} {kvs:List (Key×V)} (ds:List (PyData×PyData)) (h:H a=some (.dK kvs)):DX K H (.ref a) (.dict ds)
inductive DXs(K:W.Frag)(H:Hp):List V->List PyData->Prop
 |nil:DXs K H [] []
 |cons {x:V} {d:PyData} {xs:List V} {ds:List PyData} (h:DX K H x d) (t:DXs K H xs ds):DXs K H (x::xs) (d::ds)
end
theorem DX.same{K:W.Frag}{H H':Hp}(e:Same H H'){x:V}{d:PyData}(h:DX K H x d):DX K H' x d:=
 DX.rec (motive_1:=fun x d _=>DX K H' x d) (motive_2:=fun xs ds _=>DXs K H' xs ds) .non (fun b=> .bl b) (fun i=> .int i) (fun x=> .str x) (fun h _ t=> .tup (e.tup h) t) (fun h _ t=> .lst (e.seq h) t) (fun ds h=> .dct ds (e _ _ h)) .nil (fun _ _ h t=> .cons h t) h
theorem DXs.same{K:W.Frag}{H H':Hp}(e:Same H H'){xs:List V}{ds:List PyData}(h:DXs K H xs ds):DXs K H' xs ds:=
 DXs.rec (motive_1:=fun x d _=>DX K H' x d) (motive_2:=fun xs ds _=>DXs K H' xs ds) .non (fun b=> .bl b) (fun i=> .int i) (fun x=> .str x) (fun h _ t=> .tup (e.tup h) t) (fun h _ t=> .lst (e.seq h) t) (fun ds h=> .dct ds (e _ _ h)) .nil (fun _ _ h t=> .cons h t) h
theorem DV.dx{K:W.Frag}{H:Hp}{x:V}{d:PyData}(h:DV K H x d):DX K H x d:=
 DV.rec (motive_1:=fun x d _=>DX K H x d) (motive_2:=fun xs ds _=>DXs K H xs ds) .non (fun b=> .bl b) (fun i=> .int i) (fun x=> .str x) (fun h _ t=> .tup h t) (fun h _ t=> .lst h t) (fun h=> .dct [] h) (fun h _=> .dct _ h) .nil (fun _ _ h t=> .cons h t) h
theorem DVs.dx{K:W.Frag}{H:Hp}{xs:List V}{ds:List PyData}(h:DVs K H xs ds):DXs K H xs ds:=
 DVs.rec (motive_1:=fun _ _ _=>True) (motive_2:=fun xs ds _=>DXs K H xs ds) trivial (fun _=>trivial) (fun _=>trivial) (fun _=>trivial) (fun _ _ _=>trivial) (fun _ _ _=>trivial) (fun _=>trivial) (fun _ _=>trivial) .nil (fun h _ _ t=> .cons h.dx t) h
noncomputable def kindD:PyData->String
 | .none=>"NoneType"
 | .bool _=>"bool"
 | .int _=>"int"
 | .str _=>"str"
 | .list _=>"list"
 | .tuple _=>"tuple"
 | .dict _=>"dict"
theorem DX.kind{K:W.Frag}{H:Hp}:∀{x:V} {d:PyData},DX K H x d->KindV K H x (kindD d)
 |_,_,.non=>rfl
 |_,_,.bl _=>rfl
 |_,_,.int _=>rfl
 |_,_,.str _=>rfl
 |_,_,.tup h _=> .inl ⟨rfl,_,h⟩
 |_,_,.lst h _=> .inr (.inl ⟨rfl,_,h⟩)
 |_,_,.dct _ h=> .inr (.inr ⟨rfl,_,h⟩)
theorem DXs.len{K:W.Frag}{H:Hp}{xs:List V}{ds:List PyData}(h:DXs K H xs ds):xs.length=ds.length:=
 DXs.rec (motive_1:=fun _ _ _=>True) (motive_2:=fun xs ds _=>xs.length=ds.length) trivial (fun _=>trivial) (fun _=>trivial) (fun _=>trivial) (fun _ _ _=>trivial) (fun _ _ _=>trivial) (fun _ _=>trivial) rfl (fun _ _ _ t=>congrArg Nat.succ t) h
theorem DXs.get{K:W.Frag}{H:Hp}:∀{xs:List V} {ds:List PyData} {i:Nat} {x:V},DXs K H xs ds->xs[i]? =some x->∃d,ds[i]? =some d/\DX K H x d
 |_,_,_,_,.nil,e=>by simp at e
 |_,_,0,_,.cons h _,e=>by simp at e;subst e;exact⟨_,rfl,h⟩
 |_,_,i+1,x,.cons _ t,e=>by
  obtain⟨d,h1,h2⟩:=DXs.get (i:=i) t (by simpa using e)
  exact⟨d,by simpa using h1,h2⟩
structure Dfn(K:W.Frag)(mg:Str->Option Value)(x:Str)(st:Stmt)(ps:List Str)(f:Addr)(fd:FuncData):Prop where
 F:Fun K x x st f fd
 b:Binds K fd ps []
 m:mg x=some (.ref f)
theorem zad{H:Hp}{p:Addr}(h:H p=none)(o:HO):Same H (upd H p o):=fun b u q=>by rw[zbz (zbs q h)];exact q
end L2
namespace HsD
open PySem L2
noncomputable def wholeD:PyData->Bool
 | .int _=>true
 |_=>false
noncomputable def placeD(n:Int):PyData->Bool
 | .int i=>decide (0<=i)&&decide (i<n)
 |_=>false
noncomputable def intD:PyData->Int
 | .int i=>i
 |_=>0
noncomputable def kids:PyData->List PyData
 | .tuple ds=>ds
 |_=>[]
noncomputable def risesI(ns:List Int):Bool:=(List.range (ns.length-1)).all fun k=>decide (ns.getD k 0<ns.getD (k+1) 0)
noncomputable def risesT(ts:List (List Int)):Bool:=(List.range (ts.length-1)).all fun k=>HT.lexLt (ts.getD k []) (ts.getD (k+1) [])
noncomputable def setD(n:Int):PyData->Bool
 | .tuple ds=>ds.all (placeD n)&&risesI (ds.map intD)
 |_=>false
noncomputable def tieD(n:Int)(d:PyData):Bool:=setD n d&&decide ((kids d).length=2)
noncomputable def tiesD(n:Int):PyData->Bool
 | .tuple ds=>ds.all (tieD n)&&risesT (ds.map fun t=>(kids t).map intD)
 |_=>false
noncomputable def webD:PyData->Bool
 | .tuple [n,t]=>wholeD n&&(decide (0<=intD n)&&decide (intD n<=10))&&tiesD (intD n) t
 |_=>false
theorem placeD_int{n:Int}:∀{d:PyData},placeD n d=true->∃i,d= .int i/\0<=i/\i<n
 | .int i,h=>⟨i,rfl,by simpa[placeD]using h⟩
end HsD
namespace L2
open PySem PySem.Spec PyProof.Rows
section
variable{X:Cx}
theorem ix_tupK(K:W.Frag)(h:X.K=K:=by rfl):IxR X (rIxT K):=by subst h;exact zar
theorem ix_listK(K:W.Frag)(h:X.K=K:=by rfl):IxR X (rIxL K):=by subst h;exact zcr
theorem call_lenK(K:W.Frag)(h:X.K=K:=by rfl):CallR X (.builtin "len") (fun xs H Q=>∃p ys,xs=[.ref p]/\(SqL K H p ys\/SqT K H p ys)/\(ys.length<=16777216->Q (.int ys.length) H)):=by subst h;exact zas
theorem op_ltTK(K:W.Frag)(hu:X.A.units<cLine)(h:X.K=K:=by rfl):OpR X (compareOp .Lt) (rLtT K):=by subst h;exact op_ltT hu
theorem op_inDK(K:W.Frag)(hu:X.A.units+64<cLine)(h:X.K=K:=by rfl):OpR X (compareOp .In) (fun x y H Q=>∃(p:Addr) (xs:List V) (ds:List PyData) (dx:PyData),y= .ref p/\(SqL K H p xs\/SqT K H p xs)/\DVs K H xs ds/\DV K H x dx/\PyData.canLayAll0 ds=true/\dx.canLay0=true/\dx.depth<=60/\
  Q (.bl (ds.any fun d=>PyData.eqv d dx)) H):=by subst h;exact op_inD hu
theorem pg_tupK(K:W.Frag){es:List Expr}{k:Nat}{t:TGs}{n:Nat}{pos:Pos}(hc:X.calm=true)(h:PGs X es t)(hn:(assignEach es X.env).length=n:=by rfl)(hst:(assignEach es X.env).findIdx? (·.1)=none:=by rfl)(hK:X.K=K:=by rfl):PG X (.Tuple es k pos) (gTup K n t):=by subst hK;exact pg_tup hc h hn hst
end
end L2
namespace PySem
open Sem (wp)
open AutoSeq1 (wpAny_loadPart')
section
variable{prog:Program}{w:World}{A:Around}{E:Value->Shared->Prop}{s:Shared}
end
section
variable{prog:Program}{w:World}{A:Around}{E:Value->Shared->Prop}{s:Shared}
end
end PySem
namespace L2
open PySem PySem.Spec PyProof.Rows
section
variable{X:Cx}{p p' pos pos':Pos}{a:Expr}{ta:TA}
noncomputable def tupR(n:Nat):List V:=(List.range n).map fun(k:Nat)=>V.int (k:Int)
theorem vals_items:∀{n:Nat} {us:List Value},us.length=n->(∀(j:Nat) (u:Value),us[j]? =some u->∃t:Tok,u=Value.int (0+((j:Nat):Int)*1) t)->Vals (tupR n) us:=by
 intro n us hl hi
 have go:∀(us:List Value) (k:Nat),(∀(j:Nat) (u:Value),us[j]? =some u->∃t:Tok,u=Value.int (0+((j+k:Nat):Int)*1) t)->Vals ((List.range' k us.length).map fun(k:Nat)=>V.int (k:Int)) us:=by
  intro us
  induction us with
  |nil=>intro k _;exact .nil
  |cons u us ih=>
   intro k h
   obtain⟨t,e⟩:=h 0 u rfl
   refine .cons ⟨t,?_⟩ (ih (k+1) fun j u' hj=> ?_)
   ·rw[e];congr 1;omega
   ·obtain⟨t',e'⟩:=h (j+1) u' (by simpa using hj)
    refine⟨t',?_⟩
    rw[e'];congr 1;omega
 have:=go us 0 (fun j u hj=>by obtain⟨t,e⟩:=hi j u hj;exact⟨t,by rw[e];rfl⟩)
 unfold tupR
 rw[List.range_eq_range',<-hl]
 exact this
open Classical in
theorem op_notInD(hu:X.A.units+64<cLine):OpR X (compareOp .NotIn) (fun x y H Q=>∃(p:Addr) (xs:List V) (ds:List PyData) (dx:PyData),y= .ref p/\(SqL X.K H p xs\/SqT X.K H p xs)/\DVs X.K H xs ds/\DV X.K H x dx/\PyData.canLayAll0 ds=true/\dx.canLay0=true/\dx.depth<=60/\
  Q (.bl (!(ds.any fun d=>PyData.eqv d dx))) H):=by
 intro pins s σ H x y v u Q I rx ry h
 obtain⟨p,xs,ds,dx,rfl,hq,hds,hx,ca,cb,hd,q⟩:=h
 cases ry
 obtain⟨bs,rb⟩:=DV.reads I hx rx
 have key:∀{its:List Value},Vals xs its->(∀y∈its,SeqAt.EqAt X.A.in1 s y v (decide (∃d as,Reads s.heap y d as/\d∈ds/\PyData.eqv d dx=true)))/\(its.any fun y=>decide (∃d as,Reads s.heap y d as/\d∈ds/\PyData.eqv d dx=true))=ds.any fun d=>PyData.eqv d dx:=by
  intro its rv
  obtain⟨as,ra⟩:=DVs.reads I hds rv
  have each:∀{us:List Value} {es:List PyData} {as:List Addr},ReadsAll s.heap us es as->(∀e∈es,e∈ds)->(∀y∈us,SeqAt.EqAt X.A.in1 s y v (decide (∃d as,Reads s.heap y d as/\d∈ds/\PyData.eqv d dx=true)))/\(us.any fun y=>decide (∃d as,Reads s.heap y d as/\d∈ds/\PyData.eqv d dx=true))=es.any fun d=>PyData.eqv d dx:=by
   intro us
   induction us with
   |nil=>intro es as h _;cases h;exact⟨(fun y hy=>(nomatch hy)),rfl⟩
   |cons y us ih=>
    intro es as h hs
    cases h with
    | @cons _ _ d ds' as' bs' r rr=>
     obtain⟨i1,i2⟩:=ih rr fun e he=>hs e (List.mem_cons_of_mem _ he)
     have cl:=allLay ca d (hs d List.mem_cons_self)
     have e:decide (∃d as,Reads s.heap y d as/\d∈ds/\PyData.eqv d dx=true)=PyData.eqv d dx:=by
      rw[Bool.eq_iff_iff,decide_eq_true_eq]
      constructor
      ·rintro⟨d',as'',r',_,q'⟩
       obtain⟨rfl,_⟩:=(PySem.Reads.unique r _ _ r')
       exact q'
      ·intro q'
       exact⟨d,_,r,hs d List.mem_cons_self,q'⟩
     refine⟨fun z hz=> ?_,?_⟩
     ·rcases List.mem_cons.mp hz with rfl|hz
      ·rw[e]
       exact SeqAt.eqAt_reads d dx _ s _ _ _ _ r rb cl cb (by show X.A.units+1+min d.depth dx.depth<cLine;omega)
      ·exact i1 z hz
     ·rw[List.any_cons,List.any_cons,i2,e]
  exact each ra fun e he=>he
 rcases hq with hq|hq
 ·obtain⟨its,r,pl,hz⟩:=I.list hq
  obtain⟨k1,k2⟩:=key r
  refine SeqAt.notIn_listAt _ pl.isList (fun w hw=>k1 w (by simpa using hw)) ⟨.bl _,H,I,rfl,?_⟩
  rw[show∀f:Value->Bool,its.toArray.any f=its.any f from fun f=>by simp,k2]
  exact q
 ·obtain⟨its,r,pl,hz⟩:=I.tuple hq
  obtain⟨k1,k2⟩:=key r
  refine SeqAt.notIn_tupleAt _ pl (fun w hw=>k1 w (by simpa using hw)) ⟨.bl _,H,I,rfl,?_⟩
  rw[show∀f:Value->Bool,its.toArray.any f=its.any f from fun f=>by simp,k2]
  exact q
end
end L2
namespace PySem
open Sem (wp)
open Builtin
open AutoSeq1 (wpAny_loadPart')
end PySem
namespace L2
open PySem PySem.Spec PyProof.Rows
section
variable{X:Cx}{p p' pos pos':Pos}{a:Expr}{ta:TA}
noncomputable def tLstR(ta:TA):TE:=fun σ H Q=>ta σ H fun vs H1=>∃j:Int,vs=[.int j]/\0<=j/\j<=16777216/\∀l,H1 l=none->Q (.ref l) (upd H1 l (.lst (tupR j.toNat)))
theorem pe_lstRange(hc:X.calm=true)(hgT:Gl X "list")(hmT:X.mg "list"=none)(hg:Gl X "range")(hm:X.mg "range"=none)(ha:PA X [a] ta)(hs:starEach [a] X.env=[(false,eval a X.env)]:=by rfl)(hs2:starEach [Expr.Call (.Name "range" p') [a] [] pos'] X.env=[(false,eval (Expr.Call (.Name "range" p') [a] [] pos') X.env)]:=by rfl):
  PE X (.Call (.Name "list" p) [.Call (.Name "range" p') [a] [] pos'] [] pos) (tLstR ta):=by
 intro pins s σ H Q I h
 refine wpAny_Call_Name_kw (ld_blt I hgT hmT (show bootBuiltins "list"=some (.type "list")from by decide+kernel) ?_ (by decide) (by decide))
 refine PyProof.Rows.callWith_type1 ?_ hs2 rfl
 rw[hs2]
 refine Calls.spliced_cons ?_
 refine Call_ (ld_blt I hg hm boot_range (PyProof.Rows.callWith_type1 (thn (ha pos' pins s σ H _ I h) fun us s1 ⟨vs,H1,I1,r1,q1⟩=> ?_) hs rfl))
 obtain⟨j,e,q1,q2,q⟩:=q1
 subst e
 cases r1 with
 |cons r rr=>
  cases rr
  obtain⟨t,rfl⟩:=r
  refine call_range_1 ?_
  refine Calls.spliced_nil ?_
  have hn:Builtin.Range.rangeSize 0 j 1=((j.toNat:Nat):Int):=by rw[rangeSize_one];split<;>omega
  refine call_list_range (I.ok.hd hc) (IsRange.new ..) (small_one (by decide) (by decide) (by omega) (by omega)) hn (by omega) fun h' tk acc c hk hS hacc=> ?_
  have hv:Vals (tupR j.toNat) acc.toList:=vals_items (by rw[Array.length_toList];exact hacc.1) (fun i u hu=>hacc.2 i u (by simpa using hu))
  have hz:(tupR j.toNat).length<=sizeLine:=by unfold tupR;rw[sizeLine_eq];simp;omega
  have I2:Inv X pins σ H1 {s1 with heap:=s1.heap.push {cls:=Value.type "range",data:=Data.fields #[Value.int 0 s1.toks,Value.int j t,Value.int 1 (s1.toks+1)]},toks:=s1.toks+1+1}:=I1.kept fun b o e=>Heap.get?_push_of_some _ e
  exact⟨.ref _,_,I2.laid (t':=tk) (o:= .lst (tupR j.toNat)) hk (Nat.le_refl _) ⟨hz,acc.toList,c,hv,by simpa using hS⟩,rfl,q _ (I2.hok.fresh (Nat.le_refl _))⟩
end
end L2
namespace PySem
open Sem (wp)
open AutoSeq1 (wpAny_loadPart')
section
variable{prog:Program}{w:World}{A:Around}{E:Value->Shared->Prop}{s:Shared}
theorem nextOf_tup{it t:Addr}{i:Nat}{items:Array Value}{x:Value}{Q:Value->Shared->Prop}(hit:s.heap.IsTupleIter it t i)(ht:s.heap.IsTuple t items)(hx:items[i]? =some x)(hQ:∀h',h'.IsTupleIter it t (i+1)->Heap.SameBut it s.heap h'->Q x {s with heap:=h'}):wpAny (model prog w) A (Builtin.SmallTypes.nextOf (.ref it)) Q E s:=by
 obtain⟨o,ho,hc,hd⟩:=id hit;obtain⟨ol,hol,_,nl,hdl⟩:=ht;unfold Builtin.SmallTypes.nextOf
 refine wpAny_bind (wpAny_callSpecial?_slot (name:=Str.ofString "__next__") hit.typeIs F.slot_tuple_iterator_next (wpAny_call_entry F.slot_tuple_iterator_next hit.typeIs F.entry_tuple_iterator_next ?_ (F.args_tuple_iterator_next_1 _)))
 show wpAny _ _ (field (.ref it) 0>>=_) _ _ s;refine wpAny_bind (wpAny_field ho hd (x:= .ref t) rfl ?_)
 show wpAny _ _ (if(Value.ref t==Value.none)=true then _ else _) _ _ s;rw[if_neg (show¬((Value.ref t==Value.none)=true)from Bool.false_ne_true)]
 show wpAny _ _ (field (.ref it) 1>>=_) _ _ s;refine wpAny_bind (wpAny_field ho hd (x:= .int i 0) rfl ?_)
 show wpAny _ _ (seqItems? (.ref t)>>=_) _ _ s;refine wpAny_bind (wpAny_seqItems hol hdl ?_)
 simp only[Int.toNat_natCast,hx];refine wpAny_bind (wpAny_setField ho hd (by simp) (wpAny_pure ⟨x,rfl,wpAny_pure (hQ _ ?_ (Heap.SameBut.update ..))⟩))
 exact⟨_,Heap.get?_update_self _ ho (Obj.isFreed_of_fields (Obj.data_mapFields hd _)),(Obj.cls_mapFields ..).trans hc,by rw[Obj.data_mapFields hd];simp[rawInt]⟩
theorem nextOf_tup_end{it t:Addr}{i:Nat}{items:Array Value}{Q:Value->Shared->Prop}(hh:A.handled=none)(hit:s.heap.IsTupleIter it t i)(ht:s.heap.IsTuple t items)(hx:items[i]? =none)(hE:∀h' e,Heap.ExtBut it s.heap h'->(∃o,h'.get? e=some o/\o.cls= .type "StopIteration")->E (.ref e) {s with heap:=h'}):wpAny (model prog w) A (Builtin.SmallTypes.nextOf (.ref it)) Q E s:=by
 obtain⟨o,ho,hc,hd⟩:=id hit;obtain⟨ol,hol,_,nl,hdl⟩:=ht;unfold Builtin.SmallTypes.nextOf
 refine wpAny_bind (wpAny_callSpecial?_slot (name:=Str.ofString "__next__") hit.typeIs F.slot_tuple_iterator_next (wpAny_call_entry F.slot_tuple_iterator_next hit.typeIs F.entry_tuple_iterator_next ?_ (F.args_tuple_iterator_next_1 _)))
 show wpAny _ _ (field (.ref it) 0>>=_) _ _ s;refine wpAny_bind (wpAny_field ho hd (x:= .ref t) rfl ?_)
 show wpAny _ _ (if(Value.ref t==Value.none)=true then _ else _) _ _ s;rw[if_neg (show¬((Value.ref t==Value.none)=true)from Bool.false_ne_true)]
 show wpAny _ _ (field (.ref it) 1>>=_) _ _ s;refine wpAny_bind (wpAny_field ho hd (x:= .int i 0) rfl ?_)
 show wpAny _ _ (seqItems? (.ref t)>>=_) _ _ s;refine wpAny_bind (wpAny_seqItems hol hdl ?_)
 simp only[Int.toNat_natCast,hx];refine wpAny_bind (wpAny_rule (wpAny_bind (wpAny_setField ho hd (by simp) ?_)))
 show wpAny _ _ (newExc (.type "StopIteration") []>>=_) _ _ _;refine wpAny_bind ?_;simp only[newExc,newTuple];refine wpAny_bind (wpAny_newObj_type ?_ (by size_fits))
 refine wpAny_bind (m:=firstArgMember _ _) (wpAny_of_eq (a:=Value.none) (by first |rfl|(simp only[firstArgMember];rfl)) ?_);refine wpAny_newObj_type ?_ (by size_fits)
 simp only[raiseNew];refine wpAny_bind (wpAny_handled ?_);first |rw[show A.in1.handled=none from hh]|rw[hh]
 refine wpAny_bind (wpAny_pure (wpAny_throw ?_));exact hE _ _ (((Heap.SameBut.update ..).extBut.push _).push _) ⟨_,Heap.get?_push_size _ rfl,rfl⟩
end
theorem Draws.tup{prog:Program}{w:World}{A:Around}(hh:A.handled=none)(it l:Addr)(hne:l≠it)(items:Array Value):
  Draws prog w A it [it,l] items.size (fun i v=>items[i]? =some v) (fun i h=>h.IsTupleIter it l i/\h.IsTuple l items) where
 live:=fun i h st=>by obtain⟨⟨o,e,_⟩,_⟩:=st;exact⟨o,e⟩
 frame:=fun i h h' st k=>⟨st.1.at fun o e=>k it (by simp) o e,st.2.at fun o e=>k l (by simp) o e⟩
 item:=fun i s Q E hi st hQ=>by
  have hx:items[i]? =some items[i]:=Array.getElem?_eq_getElem hi
  exact nextOf_tup st.1 st.2 hx fun h' hit' hs=>hQ _ h' s.toks hx ⟨hit',st.2.at fun o e=>(hs.2 l hne).trans e⟩ hs
 done:=fun s Q E st hE=>nextOf_tup_end hh st.1 st.2 (Array.getElem?_eq_none (Nat.le_refl _)) hE
section
variable{prog:Program}{w:World}{A:Around}{E:Value->Shared->Prop}{s:Shared}
end
end PySem
namespace L2
open PySem PySem.Spec PyProof.Rows
section
variable{X:Cx}{pins:List (Addr×Obj)}{σ:St}{H:Hp}{s:Shared}{h':Heap}
theorem Inv.turns{t':Nat}{fp:List Addr}(I:Inv X pins σ H s)(k:∀b o,b∉fp->s.heap.get? b=some o->h'.get? b=some o)(hf:∀b∈fp,FpOk X pins H b):Inv X pins σ H {s with heap:=h',toks:=t'}:=by
 have nfp:∀b u,H b=some u->b∉fp:=fun b u e z=>by rw[(hf b z).1]at e;cases e
 refine I.step (g':=s.gens) (d':=s.drawn) (ch:=fp) (fun b hb=> ?_) (fun b o _ _ hc e _=>k b o hc e) (fun b o _ _ hc e _=>⟨o.slots,k b o hc e⟩) (fun b o _ e n=>n)
  (fun b o hc e=>⟨o,k b o hc e⟩) (fun b xs e=>e) (fun b o u e=>e) (fun b ps e=>⟨#[],by rw[e];simp⟩) (fun m hm=> ?_) (fun b u e=> ?_) I.bare
 ·obtain⟨f0,f1,f2,f3,f4,f5⟩:=hf b hb
  exact⟨f3,f1,f4,f5⟩
 ·obtain⟨o,es,ep,ho,r⟩:=hm
  exact⟨o,es,ep,k _ o (fun z=>(hf _ z).2.1 rfl) ho,r⟩
 ·refine(I.hok b u e).stay (fun c v hc q=>k c v ?_ q) (fun c q=>q) fun c xs q=>q
  rcases hc with z|z
  ·rw[z];exact nfp b u e
  ·exact nfp c _ z
end
noncomputable def SqE(K:W.Frag)(b:Bool)(H:Hp)(a:Addr)(xs:List V):Prop:=match b with
 |false=>SqL K H a xs
 |true=>SqT K H a xs
section
variable{X:Cx}{es:List Expr}{k:Nat}{pos0:Pos}
end
section
variable{ini:St}{H:Hp}{g:TG}{tc:TT}{te:TE}{Fin:List V->Hp->Prop}{K:W.Frag}{b:Bool}{a:Addr}{xs:List V}
end
end L2
namespace L2
open PySem PySem.Spec PyProof.Rows
section
variable{X:Cx}{e m a:Expr}{te:TE}{tm:TO}{ta:TA}{p p' pos pos' p2:Pos}
noncomputable def distinct(ns:List Int):Nat:=(firstMet (fun i=>ns.getD i 0) ns.length).length
noncomputable def tLenSet(K:W.Frag)(ta:TA):TE:=fun σ H Q=>ta σ H fun vs H1=>∃(l:Addr) (ns:List Int),vs=[.ref l]/\SqL K H1 l (ns.map V.int)/\ns.length<1000/\Q (.int (distinct ns:Int)) H1
theorem pe_lenSet(hc:X.calm=true)(hgL:Gl X "len")(hmL:X.mg "len"=none)(hg:Gl X "set")(hm:X.mg "set"=none)(ha:PA X [a] ta)(hs:starEach [a] X.env=[(false,eval a X.env)]:=by rfl)(hs2:starEach [Expr.Call (.Name "set" p') [a] [] pos'] X.env=[(false,eval (Expr.Call (.Name "set" p') [a] [] pos') X.env)]:=by rfl):
  PE X (.Call (.Name "len" p) [.Call (.Name "set" p') [a] [] pos'] [] pos) (tLenSet X.K ta):=by
 intro pins s σ H Q I h
 refine wpAny_Call_Name_kw (ld_blt I hgL hmL PySem.boot_len ?_ (by decide) (by decide))
 refine PyProof.Rows.callWith_builtin1 ?_ hs2 rfl
 rw[hs2]
 refine Calls.spliced_cons ?_
 refine Call_ (ld_blt I hg hm (show bootBuiltins "set"=some (.type "set")from by decide+kernel) (PyProof.Rows.callWith_type1 (thn (ha pos' pins s σ H _ I h) fun us s1 ⟨vs,H1,I1,r1,q1⟩=> ?_) hs rfl))
 obtain⟨l,ns,e,hq,hz,q⟩:=q1
 subst e
 cases r1 with
 |cons r rr=>
  cases rr
  cases r
  obtain⟨its,rv,pl,_⟩:=I1.list hq
  have hi:IntsAre its ns:=zdd rv
  have hln:its.length=ns.length:=IntsAre.length hi
  refine PySem.call_set_list (ns:=ns) (I.ok.hd hc) pl.isList (by simpa using hi) (by unfold scanBound;simp;omega) fun h' tk hS hk=> ?_
  refine Calls.spliced_nil ?_
  obtain⟨o,ho,hex,es,ep,t,hd,hel,hmem,hn,hf⟩:=hS.objOf
  have hsz:its.toArray.size=ns.length:=by rw[List.size_toArray];exact hln
  rw[hsz]at hn
  have hle:=firstMet_length_le (fun i=>ns.getD i 0) ns.length
  refine call_len_set ho hex hd hf (by omega) ?_
  have e2:(es.size:Int)=(distinct ns:Int):=by rw[hn];rfl
  rw[e2]
  have I2:Inv X pins σ H1 {s1 with heap:=h',toks:=tk}:=I1.kept fun b o e=>hk b o (Heap.lt_size e) e
  exact⟨.int _,H1,I2.tok _,⟨_,rfl⟩,q⟩
theorem call_anyK(K:W.Frag)(hc:X.calm=true)(h:X.K=K:=by rfl):CallR X (.builtin "any") (fun xs H Q=>∃(a:Addr) (bs:List Bool),xs=[.ref a]/\SqL K H a (bs.map V.bl)/\Q (.bl (bs.any id)) H):=by subst h;exact call_any hc
theorem pi_tupLK(K:W.Frag){tg l:Expr}{tl:TE}(hl:PE X l tl)(h:X.K=K:=by rfl):PI X tg l (iTupL K tl):=by subst h;exact pi_tupL hl
theorem op_catEK(K:W.Frag)(h:X.K=K:=by rfl):OpR X (binaryOp .Add) (rCatE K):=by subst h;exact op_catE
theorem op_neDK(K:W.Frag)(hu:X.A.units+64<cLine)(h:X.K=K:=by rfl):OpR X (compareOp .NotEq) (fun x y H Q=>∃da db,DV K H x da/\DV K H y db/\da.canLay0=true/\db.canLay0=true/\min da.depth db.depth<=64/\Q (.bl (!PyData.eqv da db)) H):=by subst h;exact op_neD hu
noncomputable def Its(K:W.Frag)(b:Bool)(a:Addr)(xs:List V):It:=⟨fun i H=>SqE K b H a xs/\i<xs.length,fun i H x H'=>H'=H/\xs[i]? =some x,fun i H=>SqE K b H a xs/\i=xs.length⟩
theorem Turn.its{P:Program}{w:World}{K:W.Frag}{tg:Expr}{J:It}{fp:List Addr}{it:Addr}{tn:Nat->Heap->Prop}{b:Bool}{a:Addr}{xs:List V}(T:Turn P w K tg J fp it tn)(hg:∀i H,(Its K b a xs).go i H->J.go i H/\∀x H',J.yld i H x H'->(Its K b a xs).yld i H x H')(hs:∀i H,(Its K b a xs).stop i H->J.stop i H):Turn P w K tg (Its K b a xs) fp it tn where
 mem:=T.mem
 obj:=T.obj
 keep:=T.keep
 item:=fun X h1 h2 h3 h4 i pins s σ H E I hf st g=>by
  obtain⟨g1,g2⟩:=hg i H g
  refine wpAny_mono (T.item X h1 h2 h3 h4 i pins s σ H E I hf st g1) (fun r s1 ⟨u,e,q⟩=>⟨u,e,wpAny_mono q (fun _ s2 ⟨x,H',a1,a2,a3,a4⟩=>⟨x,H',a1,a2,g2 x H' a3,a4⟩) fun _ _ e=>e⟩) fun _ _ e=>e
 done:=fun X h1 h2 h3 h4 i pins s σ H E I hf st g=>T.done X h1 h2 h3 h4 i pins s σ H E I hf st (hs i H g)
 self:=T.self
end
section
variable{ini:St}{H:Hp}{g:TG}{tc:TT}{te:TE}{Fin:List V->Hp->Prop}{K:W.Frag}{b:Bool}{a:Addr}{xs:List V}
end
theorem SqE.same{K:W.Frag}{b:Bool}{H H':Hp}{a:Addr}{xs:List V}(h:SqE K b H a xs)(e:Same H H'):SqE K b H' a xs:=by
 cases b with
 |false=>exact e.seq (show SqL K H a xs from h)
 |true=>exact e.tup (show SqT K H a xs from h)
section
variable{K:W.Frag}{σ:St}{H0:Hp}{tp:Addr}
noncomputable def ListsA(H:Hp)(tp:Addr)(its:List (Addr×List Int)):Prop:=∀p∈its,H p.1=some (.lst (p.2.map V.int))/\p.1≠tp/\p.2.length<=40
theorem ListsA.same{H H':Hp}{its:List (Addr×List Int)}(h:ListsA H tp its)(e:Same H H'):ListsA H' tp its:=fun p hp=>⟨e _ _ (h p hp).1,(h p hp).2⟩
theorem ListsA.step{H H':Hp}{its:List (Addr×List Int)}(h:ListsA H tp its)(e:∀b o,b≠tp->H b=some o->H' b=some o):ListsA H' tp its:=fun p hp=>⟨e _ _ (h p hp).2.1 (h p hp).1,(h p hp).2⟩
end
end L2
namespace L2
open PySem PySem.Spec PyProof.Rows
theorem cf_mem:∀(names:List (Str×NameKind)) (n:Nat) (acc:List (Str×Addr)) {x:Str} {c:Addr},(x,c)∈cellsFrom n names acc->(x,c)∈acc\/((x,NameKind.cell)∈names/\n<=c)
 |[],_,_,_,_,h=> .inl h
 |(nm,k)::r,n,acc,x,c,h=>by
  unfold cellsFrom at h
  split at h
  ·rename_i hk
   have ek:k=NameKind.cell:=by simpa using hk
   rcases cf_mem r _ _ h with q|⟨q,m⟩
   ·rcases List.mem_cons.mp q with e|e
    ·cases e
     subst ek
     exact .inr ⟨List.mem_cons_self,Nat.le_refl _⟩
    ·exact .inl e
   ·exact .inr ⟨List.mem_cons_of_mem _ q,by omega⟩
  ·rcases cf_mem r _ _ h with q|⟨q,m⟩
   ·exact .inl q
   ·exact .inr ⟨List.mem_cons_of_mem _ q,m⟩
theorem cf_acc:∀(names:List (Str×NameKind)) (n:Nat) (acc:List (Str×Addr)) {p:Str×Addr},p∈acc->p∈cellsFrom n names acc
 |[],_,_,_,h=>h
 |(nm,k)::r,n,acc,p,h=>by
  unfold cellsFrom
  split
  ·exact cf_acc r _ _ (List.mem_cons_of_mem _ h)
  ·exact cf_acc r _ _ h
theorem cf_has:∀(names:List (Str×NameKind)) (n:Nat) (acc:List (Str×Addr)) {x:Str},(x,NameKind.cell)∈names->∃c,(x,c)∈cellsFrom n names acc
 |(nm,k)::r,n,acc,x,h=>by
  unfold cellsFrom
  rcases List.mem_cons.mp h with e|e
  ·cases e
   rw[if_pos (show(NameKind.cell==NameKind.cell)=true from rfl)]
   exact⟨n,cf_acc r _ _ List.mem_cons_self⟩
  ·split
   ·exact cf_has r _ _ e
   ·exact cf_has r _ _ e
theorem cf_inj{n0:Nat}:∀(names:List (Str×NameKind)) (n:Nat) (acc:List (Str×Addr)),n0<=n->(∀x y c,(x,c)∈acc->(y,c)∈acc->n0<=c->x=y)->(∀x c,(x,c)∈acc->c<n)->∀x y c,(x,c)∈cellsFrom n names acc->(y,c)∈cellsFrom n names acc->n0<=c->x=y
 |[],_,_,_,h,_=>h
 |(nm,k)::r,n,acc,hn,h,hl=>by
  unfold cellsFrom
  split
  ·refine cf_inj r (n+1) ((nm,n)::acc) (by omega) (fun x y c hx hy hc=> ?_) (fun x c hx=> ?_)
   ·rcases List.mem_cons.mp hx with e1|e1<;>rcases List.mem_cons.mp hy with e2|e2
    ·cases e1;cases e2;rfl
    ·cases e1;exact absurd (hl _ _ e2) (Nat.lt_irrefl _)
    ·cases e2;exact absurd (hl _ _ e1) (Nat.lt_irrefl _)
    ·exact h x y c e1 e2 hc
   ·rcases List.mem_cons.mp hx with e1|e1
    ·cases e1;exact Nat.lt_succ_self _
    ·exact Nat.lt_succ_of_lt (hl _ _ e1)
  ·exact cf_inj r n acc hn h hl
theorem cf_cell:∀(names:List (Str×NameKind)) (h:Heap) (acc:List (Str×Addr)) {x:Str} {c:Addr},(x,c)∈cellsFrom h.objs.size names acc->(x,c)∈acc\/(pushCells h names).IsCell c none
 |[],_,_,_,_,h=> .inl h
 |(nm,k)::r,h,acc,x,c,hm=>by
  unfold cellsFrom at hm
  unfold pushCells
  split at hm
  ·rename_i hk
   rw[if_pos hk]
   have hm':(x,c)∈cellsFrom (h.push {cls:= .type "cell",data:= .cell none}).objs.size r ((nm,h.objs.size)::acc):=by rw[Heap.size_push];exact hm
   rcases cf_cell r (h.push {cls:= .type "cell",data:= .cell none}) _ hm' with q|q
   ·rcases List.mem_cons.mp q with e|e
    ·cases e
     exact .inr ⟨_,pushCells_keeps _ _ _ _ (Heap.get?_push_size _ rfl),rfl⟩
    ·exact .inl e
   ·exact .inr q
  ·rename_i hk
   rw[if_neg hk]
   exact cf_cell r h acc hm
theorem newEnvC{M:Model}{A:Around}{E:Value->Shared->Prop}{s:Shared}{scope:Scope}{globals:Addr}{closure:List (Str×Addr)}{qual:Str}{env:Env}{Q:Env->Shared->Prop}(hQ:Q (newEnv scope s.heap.objs.size globals (cellsFrom (s.heap.objs.size+1) scope.names closure) qual none Value.none (some env) 0) {s with heap:=pushCells (s.heap.push {cls:= .type "dict",data:= .dict #[]}) scope.names}):
  wpAny M A (newFunctionEnv scope globals closure [] qual none .none (some env)) Q E s:=by
 simp only[newFunctionEnv,Option.isSome_some,if_true]
 refine wpAny_bind (wpAny_alloc ?_)
 refine wpAny_bind (wpAny_layCells _ (fun name kind cells=>by cases hkc:kind==NameKind.cell<;>simp[hkc]) _ _ _ _ ?_)
 rw[List.forIn_nil]
 refine wpAny_bind (wpAny_pure (wpAny_pure ?_))
 rw[show({s with heap:=s.heap.push {cls:= .type "dict",data:= .dict #[]}}:Shared).heap.objs.size=s.heap.objs.size+1 from Heap.size_push ..]
 exact hQ
noncomputable def compOkC(sc scope:Scope):Bool:=scope.names.all fun p=>(p.2 !=NameKind.cell||scope.names.lookup p.1==some NameKind.cell)&&(p.2 !=NameKind.local||scope.names.lookup p.1==some NameKind.local)&&
 (p.2 !=NameKind.free||(scope.names.lookup p.1==some NameKind.free&&(sc.names.lookup p.1==some NameKind.cell||sc.names.lookup p.1==some NameKind.free)))
section
variable{sc scope:Scope}
theorem compOkC.cell(h:compOkC sc scope=true){x:Str}(hy:(x,NameKind.cell)∈scope.names):scope.names.lookup x=some .cell:=by
 have q:=List.all_eq_true.mp h _ hy
 simpa using q
theorem compOkC.names(h:compOkC sc scope=true):∀y∈scope.names,y.2= .local->scope.names.lookup y.1=some .local:=fun y hy e=>by
 have q:=List.all_eq_true.mp h y hy
 simpa[e]using q
theorem compOkC.free(h:compOkC sc scope=true){x:Str}(hy:(x,NameKind.free)∈scope.names):scope.names.lookup x=some .free/\(sc.names.lookup x=some .cell\/sc.names.lookup x=some .free):=by
 have q:=List.all_eq_true.mp h _ hy
 simpa using q
end
theorem relab_cellC{scope:Scope}{env:Env}{x:Str}(h:(relabel scope env).names.lookup x=some .cell\/(relabel scope env).names.lookup x=some .free):(x,NameKind.free)∈scope.names\/(x,NameKind.cell)∈scope.names:=by
 cases e:scope.names.lookup x with
 |none=>
  have q:=relab_none (env:=env) e
  rcases h with h|h
  ·rw[show(relabel scope env).names.lookup x=none from q]at h;cases h
  ·rw[show(relabel scope env).names.lookup x=none from q]at h;cases h
 |some k=>
  have q:=relab_look (env:=env) e
  have m:=PySem.mem_of_lookup e
  by_cases hk:k= .free
  ·subst hk;exact .inl m
  ·have q':(relabel scope env).names.lookup x=some k:=by
    refine Eq.trans q ?_
    have:(k==NameKind.free)=false:=by simpa using hk
    simp[this]
   rw[q']at h
   rcases h with h|h
   ·cases h;exact .inr m
   ·cases h;exact absurd rfl hk
noncomputable def compCxC(X:Cx)(scope:Scope)(N:List Str)(s:Shared)(H:Hp)(cl:List (Str×Addr))(C:Addr)(ex:List Addr):Cx:=
 {X with N:=N,s₀:=s,H₀:=H,env:=compEnvC scope cl C X.env,outer:=X.stack,ex:=ex,fn:=fun x=>scope.names.lookup x==some NameKind.cell,pn:=[],xe:=fun _ _=>False}
section
variable{X:Cx}{tg iter elt:Expr}{ifs:List Expr}{scope:Scope}{pos:Pos}{own caps:List Str}{ix:List Nat}{g:TG}{tc:TT}{te:TE}
noncomputable abbrev clC(X:Cx)(scope:Scope)(C:Addr):List (Str×Addr):=cellsFrom (C+1) scope.names (clOf X.env.cells scope.names [])
theorem clC_mem{pins:List (Addr×Obj)}{s:Shared}{σ:St}{H:Hp}{C:Addr}(ck:compOkC X.env.scope scope=true)(I:Inv X pins σ H s){x:Str}{c:Addr}(e:(clC X scope C).lookup x=some c):
  (X.env.cells.lookup x=some c/\(x,NameKind.free)∈scope.names)\/((x,NameKind.cell)∈scope.names/\C<c/\(x,c)∉clOf X.env.cells scope.names []):=by
 have old:(x,c)∈clOf X.env.cells scope.names []->X.env.cells.lookup x=some c/\(x,NameKind.free)∈scope.names:=fun q=>by
  rcases clOf_mem q with q|⟨q,mm⟩
  ·cases q
  ·obtain⟨d,hd⟩:=I.ok.has x (compOkC.free ck mm).2
   rw[hd]at q
   have q:c=d:=q
   rw[q]
   exact⟨hd,mm⟩
 rcases cf_mem _ _ _ (PySem.mem_of_lookup e)with q|⟨q,m⟩
 ·exact .inl (old q)
 ·refine .inr ⟨q,m,fun z=> ?_⟩
  have h1:=compOkC.cell ck q
  have h2:=(compOkC.free ck (old z).2).1
  rw[h1]at h2;cases h2
theorem comp_entryC{pins:List (Addr×Obj)}{s s':Shared}{σ:St}{H:Hp}{fp:List Addr}{C:Addr}{m:Str->Option Value}(ck:compOkC X.env.scope scope=true)(hkind:scope.kind= .function)(hcap:Caps X scope caps ix)
  (I:Inv X pins σ H s)(f2:∀b∈fp,FpOk X pins H b)(hlt:∀b∈fp,b<s.heap.objs.size)(hC:s.heap.objs.size<=C)(hos:s'.os=s.os)(hg:AllBare s'.gens)(hk:∀b o,s.heap.get? b=some o->s'.heap.get? b=some o)(hn:s'.heap.Ns C m)(hcl:∀x c,(clC X scope C).lookup x=some c->(x,c)∉clOf X.env.cells scope.names []->s'.heap.IsCell c none):
  Inv (compCxC X scope (own++caps) s H (clC X scope C) C fp) [] (iniOf own ix σ) H s':=by
 have cl1:=fun x c e=>clC_mem (C:=C) (x:=x) (c:=c) ck I e
 have oldlt:∀x c,X.env.cells.lookup x=some c->c<s.heap.objs.size:=fun x c e=>by
  obtain⟨v,o,ho,_⟩:=I.cell x c e
  exact Heap.lt_size ho
 have cl2:∀x,(x,NameKind.free)∈scope.names\/(x,NameKind.cell)∈scope.names->∃c,(clC X scope C).lookup x=some c:=fun x mm=>by
  rcases mm with mm|mm
  ·obtain⟨c,hc⟩:=clOf_has (cells:=X.env.cells) (acc:=[]) mm
   obtain⟨d,hd,_⟩:=zbw (cf_acc scope.names (C+1) _ hc)
   exact⟨d,hd⟩
  ·obtain⟨c,hc⟩:=cf_has scope.names (C+1) (clOf X.env.cells scope.names []) mm
   obtain⟨d,hd,_⟩:=zbw hc
   exact⟨d,hd⟩
 have inj:∀x y c,(clC X scope C).lookup x=some c->(clC X scope C).lookup y=some c->x=y:=fun x y c h1 h2=>by
  rcases cl1 x c h1 with⟨q1,_⟩|⟨q1,m1,_⟩<;>rcases cl1 y c h2 with⟨q2,_⟩|⟨q2,m2,_⟩
  ·exact I.ok.inj x y c q1 q2
  ·exact absurd (Nat.lt_trans (Nat.lt_of_lt_of_le (oldlt x c q1) hC) m2) (Nat.lt_irrefl _)
  ·exact absurd (Nat.lt_trans (Nat.lt_of_lt_of_le (oldlt y c q2) hC) m1) (Nat.lt_irrefl _)
  ·refine cf_inj (n0:=C+1) scope.names (C+1) _ (Nat.le_refl _) (fun x y c hx hy hc=> ?_) (fun x c hx=> ?_) x y c (PySem.mem_of_lookup h1) (PySem.mem_of_lookup h2) m1
   ·obtain⟨d,hd,_⟩:=zbw hx
    rcases clOf_mem hx with q|⟨q,mm⟩
    ·cases q
    ·obtain⟨d,hd⟩:=I.ok.has x (compOkC.free ck mm).2
     rw[hd]at q
     have q:c=d:=q
     subst q
     exact absurd (Nat.lt_of_lt_of_le (Nat.lt_of_lt_of_le (oldlt x c hd) hC) (Nat.le_of_lt hc)) (Nat.lt_irrefl _)
   ·rcases clOf_mem hx with q|⟨q,mm⟩
    ·cases q
    ·obtain⟨d,hd⟩:=I.ok.has x (compOkC.free ck mm).2
     rw[hd]at q
     have q:c=d:=q
     subst q
     exact Nat.lt_succ_of_lt (Nat.lt_of_lt_of_le (oldlt x c hd) hC)
 have bsz:X.base.objs.size<=s.heap.objs.size:=Nat.le_trans I.ok.bsz I.sz
 refine⟨⟨I.ok.mod,hkind,I.ok.glob,I.ok.blt,hC,inj,fun x hx=>cl2 x (relab_cellC hx),fun x c h e=> ?cab,I.ok.hd,I.ok.frames,.inl rfl,fun b hb=>⟨Nat.ne_of_lt (Nat.lt_of_lt_of_le (hlt b hb) hC),fun x c e=> ?exf⟩,I.bs,bsz,
  fun b o e hb=> ?_,fun b hb hz=> ?_,I.stack,I.stkFree⟩,?_,hg,Un.kept hk,⟨m,hn,fun i x v h1 h2 h3=> ?_⟩,fun x c e=> ?_,I.hok.fresh hC,fun x c e=> ?frc,fun p hp=>absurd (show p∈([]:List (Addr×Obj))from hp) (by simp),I.hok.kept hk,?_⟩
 case cab=>
  rcases cl1 x c e with⟨_,q⟩|⟨_,q,_⟩
  ·have y1:=(compOkC.free ck q).1
   have y2:(scope.names.lookup x==some NameKind.cell)=true:=h
   rw[y1]at y2
   exact absurd y2 (by decide)
  ·exact Nat.le_trans hC (Nat.le_of_lt q)
 case exf=>
  rcases cl1 x c e with⟨q,_⟩|⟨_,q,_⟩
  ·exact(f2 b hb).2.2.2.2.1 x c q
  ·exact Ne.symm (Nat.ne_of_lt (Nat.lt_trans (Nat.lt_of_lt_of_le (hlt b hb) hC) q))
 case frc=>
  rcases cl1 x c e with⟨q,_⟩|⟨_,q,_⟩
  ·exact I.freeC x c q
  ·exact I.hok.fresh (Nat.le_trans hC (Nat.le_of_lt q))
 ·rcases(f2 b hb).2.2.2.1 with z|z
  ·exact I.ok.noex b o e z
  ·exact absurd (Nat.lt_of_lt_of_le (Heap.lt_size e) (Nat.le_trans I.ok.bsz z)) (Nat.lt_irrefl _)
 ·rcases List.mem_cons.mp (I.stkSub b hz)with z|z
  ·exact(f2 b hb).2.1 z
  ·exact(f2 b hb).2.2.1 z
 ·exact hos
 ·have h1:(own++caps)[i]? =some x:=h1
  have h2:(own.map (fun _=>(none:Option V))++ix.map fun j=>(σ[j]?).join)[i]? =some (some v):=h2
  by_cases hi:i<own.length
  ·rw[List.getElem?_append_left (by simpa using hi),List.getElem?_map]at h2
   cases e:own[i]? <;>rw[e]at h2<;>simp at h2
  ·rw[List.getElem?_append_right (by simpa using hi)]at h2
   rw[List.getElem?_append_right (by omega)]at h1
   rw[List.length_map]at h2
   obtain⟨j,e1,e2,e3⟩:=hcap.get h1
   rw[List.getElem?_map,e1]at h2
   have h2':(σ[j]?).join=some v:=by simpa using h2
   have h4:σ[j]? =some (some v):=by
    cases q:σ[j]? with
    |none=>rw[q]at h2';cases h2'
    |some w=>rw[q]at h2';exact congrArg some h2'
   obtain⟨m0,hn0,hl0⟩:=I.loc
   have mm:=PySem.mem_of_lookup e3
   have vis:=(compOkC.free ck mm).2
   obtain⟨u,r,l⟩:=hl0 j x v e2 h4 (.inr vis)
   refine⟨u,r,.inr ?_⟩
   rcases l with⟨k,_⟩|⟨k,c,e,z⟩
   ·rcases vis with q|q
    ·rw[show X.env.kindOf x=some .cell from q]at k;cases k
    ·rw[show X.env.kindOf x=some .free from q]at k;cases k
   ·obtain⟨d,hd⟩:=cl2 x (.inl mm)
    rcases cl1 x d hd with⟨this,_⟩|⟨qc,_⟩
    ·rw[e]at this
     cases this
     exact⟨relab_free e3,c,hd,z.keeps hk⟩
    ·have y1:=compOkC.cell ck qc
     rw[e3]at y1;cases y1
 ·rcases cl1 x c e with⟨q,_⟩|⟨_,_,q⟩
  ·obtain⟨v,z⟩:=I.cell x c q
   exact⟨v,z.keeps hk⟩
  ·exact⟨none,hcl x c e q⟩
 ·show(own.map (fun _=>(none:Option V))++ix.map fun j=>(σ[j]?).join).length=(own++caps).length
  simp[hcap.len]
theorem comp_coreC(ck:compOkC X.env.scope scope=true)(hkind:scope.kind= .function)(hcap:Caps X scope caps ix)(hc:X.calm=true)(hg:∀s H cl C ex,PG (compCxC X scope (own++caps) s H cl C ex) tg g)(ht:∀s H cl C ex,PTs (compCxC X scope (own++caps) s H cl C ex) ifs tc)(he:∀s H cl C ex,PE (compCxC X scope (own++caps) s H cl C ex) elt te){pins:List (Addr×Obj)}{s2:Shared}{σ:St}{H2:Hp}{E:Value->Shared->Prop}(I2:Inv X pins σ H2 s2){it:Addr}{fp:List Addr}{tn:Nat->Heap->Prop}{J:It}(T:Turn X.prog X.w X.K tg J fp it tn)(st2:tn 0 s2.heap)(f2:∀b∈fp,FpOk X pins H2 b)
  {W:Nat->Nat->List V->St->Hp->Prop}{m0:Nat}(w0:W 0 m0 [] (iniOf own ix σ) H2){Fin:List V->Hp->Prop}(turn:∀i m acc σ H,W i m acc σ H->(J.stop i H/\acc.length<=sizeLine/\Fin acc H)\/(J.go i H/\acc.length<sizeLine/\∃N:List V->St->Hp->Prop,(∀acc' σ' H',N acc' σ' H'->∃m',m'<m/\W (i+1) m' acc' σ' H')/\∀x H',J.yld i H x H'->g x σ H' fun σ2 H2=>tc σ2 H2 fun b H3=>
   if b=true then te σ2 H3 fun v H4=>N (acc++[v]) σ2 H4 else N acc σ2 H3))
  {RR:Value->Addr->Result->Shared->Prop}(hRR:∀D C s' acc Hf m,Inv X pins σ (upd Hf D (.lst acc)) s'->Hf D=none->s'.heap.Ns C m->FpOk X pins (upd Hf D (.lst acc)) C->Fin acc Hf->RR (.ref D) C (.ok .next) s'):
  wpAny (model X.prog X.w) X.A (newList []) (fun acc s₃=>wpAny (model X.prog X.w) X.A (newFunctionEnv scope X.env.globals (clOf X.env.cells scope.names []) [] X.env.qual none .none (some X.env)) (fun cenv s₄=>
   codeAny (model X.prog X.w) X.A (.compStart (.ListComp elt [⟨tg,iter,ifs,0⟩] scope pos) 0 (.ref it) acc {cenv with scope:=relabel scope X.env}) (RR acc cenv.locals) s₄) E s₃) E s2:=by
 refine wpAny_newObj_type (newEnvC ?_)
 generalize hP:s2.heap.push {cls:= .type "list",dict:=none,data:= .seq ([]:List Value).toArray}=P1
 have hC:P1.objs.size=s2.heap.objs.size+1:=by rw[<-hP,Heap.size_push]
 have hlt:∀b∈fp,b<s2.heap.objs.size:=fun b hb=>by
  obtain⟨o,e,_⟩:=T.obj _ _ st2 b hb
  exact Heap.lt_size e
 generalize hh1:pushCells (P1.push {cls:= .type "dict",data:= .dict #[]}) scope.names=h₁
 have hns₁:h₁.Ns P1.objs.size (fun _=>none):=by rw[<-hh1];exact(Heap.Ns.new P1 (.type "dict")).keeps (pushCells_keeps _ _)
 have old:∀b o,s2.heap.get? b=some o->h₁.get? b=some o:=fun b o e=>by
  rw[<-hh1];exact pushCells_keeps _ _ b o (Heap.get?_push_of_some _ (hP▸Heap.get?_push_of_some _ e))
 have hD1:h₁.get? s2.heap.objs.size=some {cls:= .type "list",data:= .seq ([]:List Value).toArray 0}:=by
  rw[<-hh1];exact pushCells_keeps _ _ _ _ (Heap.get?_push_of_some _ (hP▸Heap.get?_push_size _ rfl))
 have hcl1:∀x c,(clC X scope P1.objs.size).lookup x=some c->(x,c)∉clOf X.env.cells scope.names []->h₁.IsCell c none:=fun x c e n=>by
  have e':(x,c)∈cellsFrom (P1.objs.size+1) scope.names (clOf X.env.cells scope.names []):=PySem.mem_of_lookup e
  rw[show P1.objs.size+1=(P1.push {cls:= .type "dict",data:= .dict #[]}).objs.size from(Heap.size_push ..).symm]at e'
  rcases cf_cell _ _ _ e' with q|q
  ·exact absurd q n
  ·rw[<-hh1];exact q
 show codeAny (model X.prog X.w) X.A (.compStart (.ListComp elt [⟨tg,iter,ifs,0⟩] scope pos) 0 (.ref it) (.ref s2.heap.objs.size) {newEnv scope P1.objs.size X.env.globals (clC X scope P1.objs.size) X.env.qual none Value.none (some X.env) 0 with scope:=relabel scope X.env}) (RR (.ref s2.heap.objs.size) P1.objs.size) {s2 with heap:=h₁}
 generalize hDD:s2.heap.objs.size=D at *
 rw[hC]at hns₁ hcl1⊢
 have entry:Inv (compCxC X scope (own++caps) s2 H2 (clC X scope (D+1)) (D+1) fp) [] (iniOf own ix σ) H2 {s2 with heap:=h₁}:=
  comp_entryC ck hkind hcap I2 f2 (by rw[hDD];exact hlt) (by rw[hDD];exact Nat.le_succ _) rfl I2.bare old hns₁ hcl1
 generalize hX':compCxC X scope (own++caps) s2 H2 (clC X scope (D+1)) (D+1) fp=X' at entry
 have eP:X'.prog=X.prog:=by rw[<-hX'];rfl
 have ew:X'.w=X.w:=by rw[<-hX'];rfl
 have eK:X'.K=X.K:=by rw[<-hX'];rfl
 have eA:X'.A=X.A:=by rw[<-hX'];rfl
 have ecalm:X'.calm=true:=by rw[<-hX'];exact hc
 have efs:X'.fs=frs X.stack:=by rw[<-hX'];rfl
 have eex:X'.ex=fp:=by rw[<-hX'];rfl
 have epn:X'.pn=[]:=by rw[<-hX'];rfl
 have es0:X'.s₀=s2:=by rw[<-hX'];rfl
 have eH0:X'.H₀=H2:=by rw[<-hX'];rfl
 have exe:X'.xe=fun _ _=>False:=by rw[<-hX'];rfl
 have eenv:X'.env=compEnvC scope (clC X scope (D+1)) (D+1) X.env:=by rw[<-hX'];rfl
 have eloc:X'.env.locals=D+1:=by rw[eenv];rfl
 have hg':PG X' tg g:=by rw[<-hX'];exact hg _ _ _ _ _
 have ht':PTs X' ifs tc:=by rw[<-hX'];exact ht _ _ _ _ _
 have he':PE X' elt te:=by rw[<-hX'];exact he _ _ _ _ _
 have ecl:∀x c,X'.env.cells.lookup x=some c->c≠D:=fun x c e=>by
  rw[eenv]at e
  rcases clC_mem (C:=D+1) ck I2 e with⟨q,_⟩|⟨_,q,_⟩
  ·obtain⟨v',o',ho',_⟩:=I2.cell x c q
   exact Nat.ne_of_lt (by rw[<-hDD];exact Heap.lt_size ho')
  ·exact Ne.symm (Nat.ne_of_lt (Nat.lt_trans (Nat.lt_succ_self D) q))
 have dfs:D∉frs X.stack:=fun hb=>by
  rcases List.mem_cons.mp (I2.stkSub D hb)with z|z
  ·exact absurd (Nat.lt_of_lt_of_eq I2.lt hDD) (by rw[z];exact Nat.lt_irrefl _)
  ·exact I2.nofs (Nat.le_of_eq hDD) z
 have fpn:∀{H':Hp} {o:Obj},(∀b∈fp,H' b=none)->∀b∈fp,FpOk X' [(D,o)] H' b:=fun{H' o} hn b hb=>by
  have hbl:=hlt b hb
  refine⟨hn b hb,by rw[eloc];exact Nat.ne_of_lt (Nat.lt_succ_of_lt hbl),?_,.inl (by rw[eex];exact hb),fun x c e=> ?_,fun p hp=> ?_⟩
  ·rw[efs]
   intro z
   rcases List.mem_cons.mp (I2.stkSub b z)with z|z
   ·exact(f2 b hb).2.1 z
   ·exact(f2 b hb).2.2.1 z
  ·rw[eenv]at e
   rcases clC_mem (C:=D+1) ck I2 e with⟨q,_⟩|⟨_,q,_⟩
   ·exact(f2 b hb).2.2.2.2.1 x c q
   ·exact Ne.symm (Nat.ne_of_lt (Nat.lt_trans (Nat.lt_succ_of_lt hbl) q))
  ·rw[epn]at hp
   have:p=(D,o):=by simpa using hp
   rw[this]
   exact Nat.ne_of_gt hbl
 have pinD:∀{σ':St} {H':Hp} {s':Shared} {o:Obj},Inv X' [] σ' H' s'->s'.heap.get? D=some o->H' D=none->(∀v,o.data≠.cell v)->Inv X' [(D,o)] σ' H' s':=fun{σ' H' s' o} I e n d=>
  I.pins_of fun p hp=>by
   have:p=(D,o):=by simpa using hp
   subst this
   exact⟨e,n,by rw[eloc];exact Nat.ne_of_lt (Nat.lt_succ_self D),by rw[efs];exact dfs,d⟩
 have loop:∀s₃:Shared,s₃={s2 with heap:=h₁}->
   codeAny (model X.prog X.w) X.A (.compLoop (.ListComp elt [⟨tg,iter,ifs,0⟩] scope pos) 0 (.ref it) (.ref D) X'.env) (RR (.ref D) (D+1)) s₃:=by
  intro s₃ hs₃
  refine codeAny_loop rfl (fun n s'=>∃i acc its k σ' H',Inv X' [] σ' H' s'/\tn i s'.heap/\(∀b∈fp,H' b=none)/\s'.heap.get? D=some {cls:= .type "list",data:= .seq (List.toArray its) k}/\Vals acc its/\H' D=none/\W i n acc σ' H') ?_ m0
   ⟨0,[],[],0,iniOf own ix σ,H2,by rw[hs₃];exact entry,by rw[hs₃];exact T.keep _ _ _ st2 fun b _ o e=>old b o e,fun b hb=>(f2 b hb).1,by rw[hs₃];exact hD1,.nil,I2.hok.fresh (Nat.le_of_eq hDD),w0⟩
  rintro n s3 ⟨i,acc,its,k,σ3,H3,I3,st3,fr3,eD,rv,nD,w3⟩
  show wpAny _ X.A ((compTurn (.ListComp elt [⟨tg,iter,ifs,0⟩] scope pos) 0 (.ref it) (.ref D) X'.env).onRaise (fun x=>do noteFrame x X'.env;theTreesLotGoes x)) _ _ s3
  refine wpAny_noted ?_
  rw[compTurn_list]
  have noE:∀{α:Type} {t:Sem α} {Q:α->Shared->Prop} {E':Value->Shared->Prop} {s:Shared},wpAny (model X'.prog X'.w) X'.A t Q X'.xe s->wpAny (model X.prog X.w) X.A t Q E' s:=fun{α t Q E' s} h=>by
   rw[eP,ew,eA,exe]at h
   exact wpAny_mono h (fun _ _ q=>q) fun _ _ z=>z.elim
  have I3':=pinD (o:={cls:= .type "list",data:= .seq (List.toArray its) k}) I3 eD nD (fun v z=>by
   have z':Data.seq (List.toArray its) k=Data.cell v:=z
   cases z')
  refine wpAny_bind (wpAny_standAt (wpAny_bind ?_))
  rcases turn i n acc σ3 H3 w3 with⟨stop,hz,fin⟩|⟨go,hz,Nn,hN,step⟩
  ·have q:=T.done X' eP ew eK ecalm i [(D,_)] s3 σ3 H3 (notedBy (model X.prog X.w) X.A X'.env fun e s'=>RR (.ref D) (D+1) (.error e) s') I3' (fpn fr3) st3 stop
   rw[eA]at q
   refine thn q fun r s4 ⟨hr,I4⟩=> ?_
   subst hr
   refine wpAny_pure ?_
   obtain⟨e4,_⟩:=I4.pin (D,_) (List.mem_append_right _ List.mem_cons_self)
   obtain⟨mC,hnC,_⟩:=I4.loc
   have u4:=I4.base
   rw[efs,eex,eH0,es0]at u4
   have ok4:=I4.hok
   rw[eP,ew]at ok4
   have nC:H3 (D+1)=none:=by have:=I4.free;rw[eloc]at this;exact this
   have hok:HOk X.prog X.w (upd H3 D (.lst acc)) s4.heap:=ok4.add nD ⟨hz,its,k,rv,e4⟩
   refine hRR D (D+1) s4 acc H3 mC ?_ nD (by rw[eloc]at hnC;exact hnC) ?_ fin
   ·refine I2.call' (s':=s4) (ch:=fp) ?_ (u4.add (by rw[hDD];exact Nat.le_refl _) nD) hok I4.bare fun b hb=> ?_
    ·have:=I4.os;rw[es0]at this;exact this
    ·obtain⟨f0,f1,f3,f4,f5,f6⟩:=f2 b hb
     exact⟨f4,f1,f5,f6⟩
   ·refine I2.fpOk (by rw[hDD];exact Nat.le_succ _) ?_
    rw[zbz (Nat.ne_of_gt (Nat.lt_succ_self D))]
    exact nC
  ·have q:=T.item X' eP ew eK ecalm i [(D,_)] s3 σ3 H3 (notedBy (model X.prog X.w) X.A X'.env fun e s'=>RR (.ref D) (D+1) (.error e) s') I3' (fpn fr3) st3 go
   rw[eA]at q
   refine thn q fun r s4 ⟨u,hr,h4⟩=> ?_
   subst hr
   dsimp only
   refine wpAny_bind (thn h4 fun _ s5 ⟨x,H5,I5,r5,y5,st5,fr5⟩=> ?_)
   have I5':=I5.pinned (fpn fr5) (T.obj _ _ st5)
   have again:∀{σ7:St} {H7:Hp} {s7:Shared},Inv X' ([(D,{cls:= .type "list",data:= .seq (List.toArray its) k})]++pinsAt fp s5.heap) σ7 H7 s7->tn (i+1) s7.heap/\(∀b∈fp,H7 b=none)/\s7.heap.get? D=some {cls:= .type "list",data:= .seq (List.toArray its) k}/\H7 D=none:=fun{σ7 H7 s7} I7=>by
    refine⟨T.keep _ _ _ st5 fun b hb o e=>(I7.pin (b,o) (List.mem_append_right _ (List.mem_append_right _ (zdc hb e)))).1,fun b hb=> ?_,?_⟩
    ·obtain⟨o,e,d⟩:=T.obj _ _ st5 b hb
     exact(I7.pin (b,o) (List.mem_append_right _ (List.mem_append_right _ (zdc hb e)))).2.1
    ·have:=I7.pin (D,_) (List.mem_append_right _ (List.mem_append_left _ List.mem_cons_self))
     exact⟨this.1,this.2.1⟩
   refine wpAny_bind (thn (noE (hg' _ s5 σ3 H5 x u _ I5' r5 (step x H5 y5))) fun _ s6 ⟨σ6,H6,I6,q6⟩=> ?_)
   refine wpAny_bind (thn (noE (ht' _ s6 σ6 H6 _ I6 q6)) fun ok s7 ⟨H7,I7,q7⟩=> ?_)
   cases ok with
   |false=>
    rw[if_neg Bool.false_ne_true]at q7
    obtain⟨m',hm,w7⟩:=hN _ _ _ q7
    obtain⟨a1,a2,a3,a4⟩:=again I7
    exact wpAny_pure ⟨rfl,m',hm,i+1,acc,its,k,σ6,H7,I7.pins_of (fun p hp=>nomatch hp),a1,a2,a3,rv,a4,w7⟩
   |true=>
    rw[if_pos rfl]at q7
    refine wpAny_bind (wpAny_bind (thn (noE (he' _ s7 σ6 H7 _ I7 q7)) fun v s8 ⟨y,H8,I8,r8,q8⟩=> ?_))
    obtain⟨m',hm,w8⟩:=hN _ _ _ q8
    obtain⟨a1,a2,a3,a4⟩:=again I8
    have hl:=rv.length
    refine wpAny_bind (call_meets F.slot_list_append ⟨_,a3,rfl⟩ F.entry_list_append (F.args_list_append_2 _ _) (PySem.list_append D its.toArray k v (by rw[List.size_toArray];omega)) ⟨a3,?_⟩)
    refine wpAny_pure (wpAny_pure ⟨rfl,m',hm,i+1,acc++[y],its++[v],?_⟩)
    have qD:=PySem.IsL.update a3 (fun a:Array Value=>a.push v)
    rw[List.push_toArray]at qD
    have kp:∀b o,b≠D->s8.heap.get? b=some o->(s8.heap.update D (Obj.mapSeq fun a=>a.push v)).get? b=some o:=fun b o hb e=>(Heap.get?_update_other s8.heap _ (Ne.symm hb)).trans e
    have I8':Inv X' [] σ6 H8 {s8 with heap:=s8.heap.update D (Obj.mapSeq fun a=>a.push v)}:=by
     refine(I8.pins_of (pins':=[]) (fun p hp=>nomatch hp)).turned (t':=s8.toks) (it:=D) kp a4 (by rw[eloc];exact Nat.ne_of_lt (Nat.lt_succ_self D)) (.inr (by rw[es0,hDD];exact Nat.le_refl _)) (fun x c e=>ecl x c e) (fun p hp=> ?_)
     rw[epn]at hp
     exact nomatch hp
    exact⟨_,σ6,H8,I8',T.keep _ _ _ a1 fun b hb o e=>kp b o (Nat.ne_of_lt (hlt b hb)) e,a2,qD,rv.append (.cons r8 .nil),a4,w8⟩
 have eenv':({newEnv scope (D+1) X.env.globals (clC X scope (D+1)) X.env.qual none Value.none (some X.env) 0 with scope:=relabel scope X.env}:Env)=X'.env:=by rw[eenv];rfl
 have L:=loop _ rfl
 rw[<-eenv']at L
 exact codeAny_compStart_list L (T.self X.A 0 _ _ _ (T.keep _ _ _ st2 fun b _ o e=>old b o e) L)
end
section
variable{X:Cx}{tg iter elt:Expr}{ifs:List Expr}{scope:Scope}{pos:Pos}{own caps:List Str}{ix:List Nat}{wi:TI}{g:TG}{tc:TT}{te:TE}
theorem ps_setCompC{i:Nat}{y:Str}{py spos:Pos}(hN:X.N.Nodup)(hiN:X.N[i]? =some y)(hx:Loc X.env.scope y)(hc:X.calm=true)(hi:PI X tg iter wi)(ck:compOkC X.env.scope scope=true)(hkind:scope.kind= .function)(hcap:Caps X scope caps ix)(hg:∀s H cl C ex,PG (compCxC X scope (own++caps) s H cl C ex) tg g)(ht:∀s H cl C ex,PTs (compCxC X scope (own++caps) s H cl C ex) ifs tc)(he:∀s H cl C ex,PE (compCxC X scope (own++caps) s H cl C ex) elt te)(hsw:swapsWith (.ListComp elt [⟨tg,iter,ifs,0⟩] scope pos) (some (.Name y py)) spos.line X.env=pure true:=by rfl)(hf:X.fn y=true\/X.env.scope.names.lookup y=some .local:=by first |exact .inl rfl|exact .inr rfl|assumption)(hs:∀x,foldedSetIterable iter X.env x=pure x:=by intro _;rfl):PS X (.Assign [.Name y py] (.ListComp elt [⟨tg,iter,ifs,0⟩] scope pos) spos) (tAsg (tComp wi own ix g tc te) (gName i)):=by
 intro pins s σ H Dn I h
 rw[exec_Assign_Name_used _ _ _ _ hsw]
 refine wpAny_bind (wpAny_standAt (wpAny_bind ?_))
 show wpAny _ X.A (do let _<-comprehension (.ListComp elt [⟨tg,iter,ifs,0⟩] scope pos) scope X.env _ (newList []) false (eval iter X.env) (some (assign (.Name y py) X.env))) _ _ s
 refine wpAny_bind (wpAny_mono (wpAny_comprehension_free (use:=some (assign (.Name y py) X.env)) (Q:=fun _ s'=>SP X pins Dn .next s') rfl hs (closure_of fun x hx=>I.ok.has x ((compOkC.free ck hx).2)) hkind (compOkC.names ck)
  (thn (hi pins s σ H _ I h) fun xv s1 h1=>thn h1 fun itv s2 h2=> ?_)) (fun _ s' hq=>wpAny_pure (wpAny_pure hq)) fun _ _ e=>e)
 obtain⟨it,fp,tn,J,H2,e,I2,T,st2,f2,W,⟨m0,w0⟩,turn⟩:=h2
 subst e
 refine comp_coreC (RR:=fun acc C=>compPost (model X.prog X.w) X.A X.xe (some (assign (.Name y py) X.env)) (fun _ s'=>SP X pins Dn .next s') acc C) ck hkind hcap hc hg ht he I2 T st2 f2 w0 turn ?_
 intro D C s' acc Hf m I' nD hn fC fin
 obtain⟨f0,f1,f3,f4,f5,f6⟩:=fC
 show wpAny _ X.A (assign (.Name y py) X.env (.ref D)) _ _ _
 refine wpAny_assign_Name (store_ok2 I' hN hiN hx (show RelV (.ref D) (.ref D)from rfl) (fun s'' I'' ⟨a,sb,ha⟩=> ?_) hf)
 have hCa:C≠a:=by
  rcases ha with ha|ha
  ·rw[ha];exact f1
  ·exact fun z=>f5 y a ha z.symm
 refine⟨m,hn.sameBut sb hCa,fun h' sb'=> ?_⟩
 exact⟨_,_,I''.turned (t':=s''.toks) (it:=C) (fun b o hb e=>(sb'.2 b hb).trans e) f0 f1 f4 f5 f6,fin D nD⟩
end
end L2
namespace L2
open PySem PySem.Spec PyProof.Rows
section
variable{prog:Program}{w:World}{A:Around}{E:Value->Shared->Prop}{s:Shared}
noncomputable def bare(led:Bool):Obj:={cls:= .type "set",dict:=none,data:= .set #[] 0 (.fresh 0 0 led)}
end
section
variable{X:Cx}{a:Expr}{ta:TA}{p p' pos pos':Pos}
end
end L2
namespace Srt
open PySem PySem.W PyProof.Rows PySem.Calls
section
variable{prog:Program}{w:World}{A:Around}{E:Value->Shared->Prop}{s:Shared}{O:KeyOrd}{key:Nat->O.α}{κ:SortKind}{vs:List Value}
theorem collect_tup{t:Addr}{Q:List Value->Shared->Prop}(ht:s.heap.IsTuple t vs.toArray)(h:Q vs {s with heap:=(s.heap.push (seqObj "list" #[] 0)).update s.heap.objs.size (Obj.mapSeq (· ++vs.toArray))})(hz:vs.length<=sizeLine):
  wpAny (model prog w) A (collect (.ref t)) Q E s:=by
 obtain⟨o,ho,hc,n,hd⟩:=id ht
 unfold collect
 refine wpAny_bind (wpAny_runValue (codeAny_builtin entry_proto_collect' ?_))
 show wpAny _ _ (do again (.builtin "list.__iadd__" ⟨[<-newList [],.ref t],[]⟩)) _ _ s
 refine wpAny_bind (wpAny_newList (wpAny_pure ⟨Code.quiet_builtin _ (by decide+kernel),codeAny_builtin entry_list_iadd' ?_⟩))
 show wpAny _ _ (Builtin.List.listExtendWith (.ref s.heap.objs.size) (.ref t) (.ref s.heap.objs.size)) _ _ {s with heap:=s.heap.push (seqObj "list" #[] 0)}
 unfold Builtin.List.listExtendWith
 have h1:(s.heap.push (seqObj "list" #[] 0)).get? t=some o:=Heap.get?_push_of_some _ ho
 have h2:(Value.type "tuple"==Value.type "tuple")=true:=by rfl
 refine wpAny_bind (wpAny_typeOf (T:="tuple") ⟨o,h1,hc⟩ ?_)
 rw[if_pos (by rw[h2];simp)]
 refine wpAny_bind (listItems_at h1 hd (wpAny_bind (listItems_at (xs:=#[]) (n:=0) (Heap.get?_push_size _ rfl) rfl ?_)))
 rw[if_neg (by simp)]
 refine wpAny_bind (listUpdate_at (xs:=#[]) (n:=0) (Heap.get?_push_size _ rfl) rfl (wpAny_pure ?_) (Nat.zero_le _) (by show(#[]++vs.toArray).size<=sizeLine+1;simp only[Array.size_append,List.size_toArray,List.length_nil];omega))
 show wpAny (model prog w) A (load s.heap.objs.size>>=_) Q E {s with heap:=(s.heap.push (seqObj "list" #[] 0)).update s.heap.objs.size (Obj.mapSeq (· ++vs.toArray))}
 refine wpAny_bind (wpAny_load (get?_update_seq (Heap.get?_push_size _ rfl) _) ?_)
 show wpAny _ _ (pure ((#[]:Array Value)++vs.toArray).toList) Q E _
 have e:((#[]:Array Value)++vs.toArray).toList=vs:=by simp
 rw[e]
 exact wpAny_pure h
theorem sorted_tup{l:Addr}{Q:Value->Shared->Prop}(hl:s.heap.IsTuple l vs.toArray)(h64:vs.length<64)(hkind:2<=vs.length->∀h',(∀b o,s.heap.get? b=some o->h'.get? b=some o)->∀(E:Value->Shared->Prop) (Q:SortKind->Shared->Prop),Q κ {s with heap:=h'}->wpAny (model prog w) A.in1.in1 (keyKind' vs.toArray) Q E {s with heap:=h'})(hask:2<=vs.length->∀h',(∀b o,s.heap.get? b=some o->h'.get? b=some o)->AskOk O key vs.length (kas_ask prog w A.in1.in1 κ vs) {s with heap:=h'})(h:∀D h' out c,Outs key vs out->s.heap.objs.size<=D->(∀b o,s.heap.get? b=some o->h'.get? b=some o)->h'.get? D=some (seqObj "list" (List.toArray out) c)->Q (.ref D) {s with heap:=h'}):
  wpAny (model prog w) A (call (.builtin "sorted") [.ref l]) Q E s:=by
 refine Calls.call_function_entry kind_sorted plain_sorted entry_sorted (args_sorted1 _) ?_
 unfold Builtin.«sorted»
 refine wpAny_bind (m:=checkCount "sorted" 1 1 _) (wpAny_pure (wpAny_bind (collect_tup hl (wpAny_bind (wpAny_newList ?_ (by rw[sizeLine_eq];omega))) (by rw[sizeLine_eq];omega))))
 have hsz:((s.heap.push (seqObj "list" #[] 0)).update s.heap.objs.size (Obj.mapSeq (· ++vs.toArray))).objs.size=s.heap.objs.size+1:=by
  rw[Heap.size_update,size_push']
 have hoL:(((s.heap.push (seqObj "list" #[] 0)).update s.heap.objs.size (Obj.mapSeq (· ++vs.toArray))).push (seqObj "list" vs.toArray 0)).get? (s.heap.objs.size+1)=some (seqObj "list" vs.toArray 0):=by
  rw[<-hsz];exact Heap.get?_push_size _ rfl
 have keep:∀b o,s.heap.get? b=some o->(((s.heap.push (seqObj "list" #[] 0)).update s.heap.objs.size (Obj.mapSeq (· ++vs.toArray))).push (seqObj "list" vs.toArray 0)).get? b=some o:=fun b o q=>by
  have hlt:b<s.heap.objs.size:=Heap.lt_size q
  rw[Heap.get?_push_ne _ _ _ (by rw[hsz];exact Nat.ne_of_lt (Nat.lt_succ_of_lt hlt)),Heap.get?_update_ne _ _ _ _ (Nat.ne_of_lt hlt),Heap.get?_push_ne _ _ _ (Nat.ne_of_lt hlt)]
  exact q
 have ne:∀b o,s.heap.get? b=some o->b≠s.heap.objs.size+1:=fun b o q=>Nat.ne_of_lt (Nat.lt_succ_of_lt (Heap.lt_size q))
 show wpAny _ _ _ _ _ {s with heap:=((s.heap.push (seqObj "list" #[] 0)).update s.heap.objs.size (Obj.mapSeq (· ++vs.toArray))).push (seqObj "list" vs.toArray 0)}
 rw[hsz]
 refine wpAny_bind (wpAny_holding (wpAny_call_entry slot_list_sort ⟨_,hoL,rfl⟩ entry_list_sort ?body (args_list_sort _)))
 case body=>
  refine list_sort_own (key:=key) (κ:=κ) (s:={s with heap:=((s.heap.push (seqObj "list" #[] 0)).update s.heap.objs.size (Obj.mapSeq (· ++vs.toArray))).push (seqObj "list" vs.toArray 0)}) hoL h64
   (fun h2 h' k Q hq=>hkind h2 h' (fun b o q=>k b o (ne b o q) (keep b o q)) _ Q hq) (fun h2 h' k=>hask h2 h' fun b o q=>k b o (ne b o q) (keep b o q)) fun h' out c ho k hc=> ?_
  exact⟨_,rfl,wpAny_pure ⟨_,rfl,h _ h' out c ho (Nat.le_succ _) (fun b o q=>k b o (ne b o q) (keep b o q)) hc⟩⟩
end
end Srt
namespace L2
open PySem PySem.Spec PyProof.Rows
section
variable{X:Cx}
end
noncomputable def IB:V->Prop
 | .int _=>True
 | .bl _=>True
 |_=>False
noncomputable def IBs(xs:List V):Prop:=∀x∈xs,IB x
theorem IBs.ints(xs:List Int):IBs (xs.map V.int):=fun x hx=>by
 obtain⟨i,_,rfl⟩:=List.mem_map.mp hx
 trivial
section
variable{K:W.Frag}{σ:St}{H0:Hp}
noncomputable def TupsM(K:W.Frag)(H:Hp)(l:Addr)(k:Nat):Prop:=∃its:List (Addr×List V),H l=some (.lst (its.map fun p=>V.ref p.1))/\(∀p∈its,SqT K H p.1 p.2/\IBs p.2/\p.2.length<=60)/\its.length<=k
theorem TupsM.same{H H':Hp}{l:Addr}{k:Nat}(h:TupsM K H l k)(e:Same H H'):TupsM K H' l k:=by
 obtain⟨its,h1,h2,h3⟩:=h
 exact⟨its,e _ _ h1,fun p hp=>⟨e.tup (h2 p hp).1,(h2 p hp).2⟩,h3⟩
end
end L2
namespace L2
open PySem PySem.W PySem.Spec PyProof.Rows
section
variable{X:Cx}
theorem call_sortedE:CallR X (.builtin "sorted") (fun xs H Q=>∃(a:Addr) (its:List (Addr×List Int)),xs=[.ref a]/\SqL X.K H a (its.map fun p=>V.ref p.1)/\(∀p∈its,SqT X.K H p.1 (p.2.map V.int)/\(2<=its.length->p.2≠[]))/\its.length<64/\
  ∀(l:Addr) (its':List (Addr×List Int)),H l=none->its'.Perm its->its'.Pairwise (fun p q=>HT.lexLt q.2 p.2=false)->Q (.ref l) (upd H l (.lst (its'.map fun p=>V.ref p.1)))):=by
 intro pins s σ H xs us Q I r h
 obtain⟨a,its,rfl,hS,hT,h64,q⟩:=h
 obtain⟨u,rfl,ru⟩:=r.one
 cases ru
 obtain⟨vs,rv,pl,hz⟩:=I.list hS
 have hlen:its.length=vs.length:=by have:=rv.length;simpa using this
 -- the values beside the tuples
 have pr:Paired (fun(p:Addr×List Int) (v:Value)=>v= .ref p.1) its vs:=by
  have go:∀(l:List (Addr×List Int)) (us:List Value),Vals (l.map fun p=>V.ref p.1) us->Paired (fun(p:Addr×List Int) (v:Value)=>v= .ref p.1) l us:=by
   intro l
   induction l with
   |nil=>intro us h;cases h;exact .nil
   |cons p l ih=>
    intro us h
    cases h with
    |cons r t=>exact .cons r (ih _ t)
  exact go its vs rv
 have tup:∀p∈its,∃(items:List Value),IntsAre items p.2/\IsTup s.heap p.1 items.toArray:=fun p hp=>by
  obtain⟨its',r',t',_⟩:=I.tuple (hT p hp).1
  exact⟨its',zdd r',t'⟩
 refine Srt.sorted_own (O:=Srt.lexOrd) (key:=fun i=>(its.getD i (0,[])).2) (κ:=tuples' true) (s:=s) pl.isList (by omega) (fun h2 h' k E' Q' hq=> ?_) (fun h2 h' k=> ?_) (fun D h' out c ho hD k hc=> ?_)
 ·have kt:∀(l:List (Addr×List Int)) (us:List Value),Paired (fun(p:Addr×List Int) (v:Value)=>v= .ref p.1) l us->(∀p∈l,p∈its)->∃fs:List Value,KatTups h' us fs/\fs.length=us.length/\∀v∈fs,∃i t,v=Value.int i t:=by
   intro l us h
   induction h with
   |nil=>intro _;exact⟨[],trivial,rfl,fun _ hv=>nomatch hv⟩
   | @cons p v l us r t ih=>
    intro hs
    obtain⟨fs,k1,k2,k3⟩:=ih fun p hp=>hs p (List.mem_cons_of_mem _ hp)
    obtain⟨items,hi,o,e,hc,n,hd⟩:=tup p (hs p List.mem_cons_self)
    have hne:=(hT p (hs p List.mem_cons_self)).2 (by omega)
    obtain⟨pa,pn⟩:=p
    dsimp only at hi hne e r
    cases hi with
    |nil=>exact absurd rfl hne
    |cons i t hi'=>
     rw[r]
     refine⟨Value.int i t::fs,KatTups.cons (k _ _ e) hc hd (by simp) k1,by simp[k2],fun v hv=> ?_⟩
     rcases List.mem_cons.mp hv with e|e
     ·exact⟨i,t,e⟩
     ·exact k3 v e
  obtain⟨fs,k1,k2,k3⟩:=kt its vs pr fun _ hp=>hp
  refine kat_kind (s:={s with heap:=h'}) (T:= .type "int") k1 (by omega) (fun v hv=> ?_) (by rfl) hq
  obtain⟨i,t,rfl⟩:=k3 v hv
  exact fun A Q E s _ q=>wpAny_pure q
 ·intro i j C hi hj hC
  rw[<-hlen]at hi hj
  have get:∀i (hi:i<its.length),vs.getD i Value.none= .ref its[i].1:=by
   have go:∀(l:List (Addr×List Int)) (us:List Value),Paired (fun(p:Addr×List Int) (v:Value)=>v= .ref p.1) l us->∀i (hi:i<l.length),us.getD i Value.none= .ref l[i].1:=by
    intro l us h
    induction h with
    |nil=>intro i hi;simp at hi
    |cons r t ih=>
     intro i hi
     cases i with
     |zero=>exact r
     |succ i=>simpa using ih i (by simpa using hi)
   exact go its vs pr
  unfold kas_ask
  rw[get i hi,get j hj]
  obtain⟨xi,hxi,oi,ei,ci,ni,di⟩:=tup its[i] (List.getElem_mem _)
  obtain⟨xj,hxj,oj,ej,cj,nj,dj⟩:=tup its[j] (List.getElem_mem _)
  refine kat_lt (s:={s with heap:=h'}) (k _ _ ei) di (k _ _ ej) dj ?_
  refine Srt.lex_ints 0 hxi hxj ?_ ?_
  ·have:=hxi.length;have:=hxj.length
   simp only[List.size_toArray]
   omega
  ·rw[HT.lexLt_iff]
   have e1:its.getD i (0,[])=its[i]:=by simp[hi]
   have e2:its.getD j (0,[])=its[j]:=by simp[hj]
   have hC':C (decide ((its.getD i (0,[])).2<(its.getD j (0,[])).2)) {s with heap:=h'}:=hC
   rw[e1,e2]at hC'
   exact hC'
 ·obtain⟨its',hp,hr,hw⟩:=Srt.outs_of (d:=((0,[]):Addr×List Int)) (f:=fun p=>p.2) pr (fun i hi=>by show(its.getD i (0,[])).2=_;simp[hi]) ho
  have hn:H D=none:=I.hok.fresh hD
  have rv':Vals (its'.map fun p=>V.ref p.1) out:=by
   have go:∀(l:List (Addr×List Int)) (us:List Value),Paired (fun(p:Addr×List Int) (v:Value)=>v= .ref p.1) l us->Vals (l.map fun p=>V.ref p.1) us:=by
    intro l us h
    induction h with
    |nil=>exact .nil
    |cons r t ih=>exact .cons r ih
   exact go its' out hr
  have zl:(its'.map fun p=>V.ref p.1).length<=sizeLine:=by
   have:=hp.length_eq
   rw[List.length_map]
   exact Nat.le_of_lt (small1000 (by omega))
  have J:Inv X pins σ (upd H D (.lst (its'.map fun p=>V.ref p.1))) {s with heap:=h',toks:=s.toks}:=I.laid k hD ⟨zl,out,c,rv',hc⟩
  refine⟨.ref D,_,J,rfl,q D its' hn hp (hw.imp fun{x y} hxy=> ?_)⟩
  rw[HT.lexLt_iff];exact hxy
theorem pt_truthK(K:W.Frag){a:Expr}{ta:TE}(ha:PE X a ta)(he:∀whole,isTrue a X.env whole=(do let v<-whole;standAt a.pos;holding [v] (truthy v)))(h:X.K=K:=by rfl):
  PT X a (fun σ H Q=>ta σ H fun x H'=>∃k,TruV K x H' k/\Q k H'):=by subst h;exact pt_truth ha he
end
end L2
namespace L2
open PySem PySem.Spec PyProof.Rows
section
variable{prog:Program}{w:World}{A:Around}{E:Value->Shared->Prop}{s:Shared}{l:Addr}{kid:String}{vs:List Value}{R:Result->Shared->Prop}{Q:Value->Shared->Prop}
noncomputable def Kp(s:Shared)(h:Heap):Prop:=∀b o,s.heap.get? b=some o->h.get? b=some o
theorem max_go(kf:Nat->Int)(hA:A.handled=none)(hl:s.heap.IsList l vs.toArray)(turn:∀(i:Nat) (v:Value),vs[i]? =some v->∀(h:Heap) (tk:Nat),Kp s h->∀Q E:Value->Shared->Prop,(∀t tk',Q (.int (kf i) t) {s with heap:=h,toks:=tk'})->wpAny (model prog w) A.in1 (call (.builtin kid) [v]) Q E {s with heap:=h,toks:=tk})(hR:∀i v h' tk',vs[i]? =some v->(∀j,j<vs.length->kf j<=kf i/\(j<i->kf j<kf i))->Kp s h'->R (.ok (.ret v)) {s with heap:=h',toks:=tk'}):
  ∀(r j i:Nat) (h:Heap) (tk:Nat) (vb:Value) (tb:Tok) (c:Nat),vs.length-(j+1)=r->j+1<=vs.length->Kp s h->h.get? (s.heap.objs.size+1)=some (seqObj "list" #[vb,.int (kf i) tb] c)->h.IsListIter s.heap.objs.size l (j+1)->vs[i]? =some vb->i<=j->(∀j',j'<=j->kf j'<=kf i/\(j'<i->kf j'<kf i))->
   codeAny (model prog w) A (.builtin "max.loop" ⟨[.ref s.heap.objs.size,.builtin kid,.ref (s.heap.objs.size+1)],[]⟩) R {s with heap:=h,toks:=tk}:=by
 have nm:(toString "max"++toString ".loop":String)="max.loop":=by decide
 obtain⟨ol,hol,hlc,hln,hld⟩:=id hl
 have nlI:l≠s.heap.objs.size:=Nat.ne_of_lt (Heap.lt_size hol)
 have W:=Walks.list (prog:=prog) (w:=w) (A:=A.in1) hA s.heap.objs.size l nlI vs.toArray
 have zs:vs.toArray.size=vs.length:=List.size_toArray ..
 have nSI:s.heap.objs.size+1≠s.heap.objs.size:=Nat.ne_of_gt (Nat.lt_succ_self _)
 have hlK:∀h,Kp s h->h.IsList l vs.toArray:=fun h k=>⟨ol,k _ _ hol,hlc,hln,hld⟩
 have kI:∀h h',Kp s h->(∀b o,b∉[s.heap.objs.size]->h.get? b=some o->h'.get? b=some o)->Kp s h':=fun h h' k q b o e=>q b o (fun z=>Nat.lt_irrefl _ ((List.mem_singleton.mp z)▸Heap.lt_size e)) (k b o e)
 have kS:∀h h',Kp s h->(∀b,b≠s.heap.objs.size+1->h'.get? b=h.get? b)->Kp s h':=fun h h' k q b o e=>(q b (Nat.ne_of_lt (Nat.lt_succ_of_lt (Heap.lt_size e)))).trans (k b o e)
 intro r
 induction r with
 |zero=>
  intro j i h tk vb tb c hr hj k hS hit hvb hij hbest
  refine codeAny_builtin PySem.F.entry_max_loop (by
   rw[Around.under_plainId PySem.F.plain_max_loop _]
   show wpAny _ A.in1 (seqItems? (.ref (s.heap.objs.size+1))>>=_) _ _ _
   refine wpAny_bind (wpAny_seqItems hS rfl (?_))
   show wpAny _ A.in1 (tryCatch (pyNext (.ref s.heap.objs.size)) _>>=_) _ _ _
   refine wpAny_bind (wpAny_tryCatch (W.done _ _ _ ⟨by rw[zs,<-show j+1=vs.length by omega];exact hit,hlK h k⟩ fun h' tk' hk'=> ?_))
   have g:=hk' (s.heap.objs.size+1) _ (by simp) hS
   show wpAny _ A.in1 (updateSeq (s.heap.objs.size+1) (fun _=>#[])>>=_) _ _ _
   refine wpAny_bind (wpAny_updateSeq g rfl (wpAny_bind (wpAny_letGo (wpAny_pure ?_))))
   exact hR i vb _ _ hvb (fun j' hj'=>hbest j' (by omega)) (kS _ _ (kI _ _ k hk') (Heap.SameBut.update h' (s.heap.objs.size+1) (Obj.mapSeq fun _=>(#[]:Array Value))).2))
 |succ r ih=>
  intro j i h tk vb tb c hr hj k hS hit hvb hij hbest
  have hlt:j+1<vs.length:=by omega
  refine codeAny_builtin PySem.F.entry_max_loop (by
   rw[Around.under_plainId PySem.F.plain_max_loop _]
   show wpAny _ A.in1 (seqItems? (.ref (s.heap.objs.size+1))>>=_) _ _ _
   refine wpAny_bind (wpAny_seqItems hS rfl (?_))
   show wpAny _ A.in1 (tryCatch (pyNext (.ref s.heap.objs.size)) _>>=_) _ _ _
   refine wpAny_bind (wpAny_tryCatch (W.item (j+1) _ _ _ (by rw[zs];exact hlt) ⟨hit,hlK h k⟩ fun v h' tk' hP hst' hk'=> ?_))
   have hv:vs[j+1]? =some v:=(by simpa using hP)
   have k1:=kI _ _ k hk'
   have g:=hk' (s.heap.objs.size+1) _ (by simp) hS
   show wpAny _ A.in1 (tryCatch (holding [v] (call (.builtin kid) [v])) _>>=_) _ _ _
   refine wpAny_bind (wpAny_tryCatch (wpAny_holding (turn (j+1) v hv h' tk' k1 _ _ fun t2 tk2=> ?_)))
   show wpAny _ A.in1 (tryCatch (holding [v,.int (kf (j+1)) t2] (richCompare .Gt (.int (kf (j+1)) t2) (.int (kf i) tb)>>=_)) _>>=_) _ _ _
   refine wpAny_bind (wpAny_tryCatch (wpAny_holding (wpAny_bind (CmpOf.ints_gt (prog:=prog) (w:=w) (A:=A.in1) (P:=fun i v=>∃t,v= .int (kf i) t) kf (fun i v h=>h) (j+1) i _ _ _ _ _ ⟨t2,rfl⟩ ⟨tb,rfl⟩ (wpAny_bind (wpAny_holding (wpAny_truthy_bool (wpAny_bind (wpAny_letGo (wpAny_pure ?_))))))))))
   by_cases hb:kf (j+1)>kf i
   ·have sb:=Heap.SameBut.update h' (s.heap.objs.size+1) (Obj.mapSeq fun _=>#[v,.int (kf (j+1)) t2])
    obtain⟨c2,hc2⟩:∃c2,(h'.update (s.heap.objs.size+1) (Obj.mapSeq fun _=>#[v,.int (kf (j+1)) t2])).get? (s.heap.objs.size+1)=some (seqObj "list" #[v,.int (kf (j+1)) t2] c2):=⟨_,get?_update_seq g fun _=>#[v,.int (kf (j+1)) t2]⟩
    simp only[hb,decide_true,if_true]
    refine wpAny_bind (wpAny_updateSeq g rfl (wpAny_bind (wpAny_letGo ?_)))
    obtain⟨oI,hoI,hoc,hod⟩:=id hst'.1
    rw[nm]
    refine wpAny_pure ⟨plainId_quiet PySem.F.plain_max_loop _,ih (j+1) (j+1) _ _ v t2 c2 (by omega) hlt (kS _ _ k1 sb.2) hc2 ⟨oI,(sb.2 _ nSI.symm).trans hoI,hoc,hod⟩ hv (Nat.le_refl _) fun j' hj'=> ?_⟩
    by_cases e:j'=j+1
    ·subst e;exact⟨Int.le_refl _,fun z=>absurd z (Nat.lt_irrefl _)⟩
    ·have q:=(hbest j' (by omega)).1
     exact⟨by omega,fun _=>by omega⟩
   ·simp only[hb,decide_false,Bool.false_eq_true,if_false]
    refine wpAny_bind (wpAny_letGo (?_))
    rw[nm]
    refine wpAny_pure ⟨plainId_quiet PySem.F.plain_max_loop _,ih (j+1) i _ _ vb tb c (by omega) hlt k1 g hst'.1 hvb (by omega) fun j' hj'=> ?_⟩
    by_cases e:j'=j+1
    ·subst e;exact⟨by omega,fun z=>by omega⟩
    ·exact hbest j' (by omega))
theorem max_own(kf:Nat->Int)(hA:A.handled=none)(hl:s.heap.IsList l vs.toArray)(hne:0<vs.length)(turn:∀(i:Nat) (v:Value),vs[i]? =some v->∀(h:Heap) (tk:Nat),Kp s h->∀Q E:Value->Shared->Prop,(∀t tk',Q (.int (kf i) t) {s with heap:=h,toks:=tk'})->wpAny (model prog w) A.in1 (call (.builtin kid) [v]) Q E {s with heap:=h,toks:=tk})(hQ:∀i v h' tk',vs[i]? =some v->(∀j,j<vs.length->kf j<=kf i/\(j<i->kf j<kf i))->Kp s h'->Q v {s with heap:=h',toks:=tk'}):
  wpAny (model prog w) A (call (.builtin "max") [.ref l] [(Str.ofString "key",.builtin kid)]) Q E s:=by
 have nm:(toString "max"++toString ".loop":String)="max.loop":=by decide
 obtain⟨ol,hol,hlc,hln,hld⟩:=id hl
 have nlI:l≠s.heap.objs.size:=Nat.ne_of_lt (Heap.lt_size hol)
 refine kmb_tree PySem.F.kind_max PySem.F.plain_max PySem.F.entry_max (kmb_max_key _ _) (by
  show wpAny _ A.in1 (Builtin.Builtins.bindParams "max" ["key","default"] 0 ⟨[],[(Str.ofString "key",.builtin kid)]⟩>>=_) _ _ s
  refine wpAny_bind (wpAny_of_eq (show Builtin.Builtins.bindParams "max" ["key","default"] 0 ⟨[],[(Str.ofString "key",.builtin kid)]⟩=pure [some (.builtin kid),none]from rfl) (wpAny_bind (wpAny_pure (wpAny_bind (wpAny_pyIter_list hl (wpAny_bind (wpAny_newList ?_ (Nat.zero_le _))))))))
  rw[nm]
  have zS:(s.heap.push {cls:= .type "list_iterator",data:= .fields #[.ref l,.int 0 0]}).objs.size=s.heap.objs.size+1:=size_push' ..
  rw[zS]
  have k0:Kp s ((s.heap.push {cls:= .type "list_iterator",data:= .fields #[.ref l,.int 0 0]}).push (seqObj "list" #[] 0)):=fun b o e=>Heap.get?_push_of_some _ (Heap.get?_push_of_some _ e)
  have gI:((s.heap.push {cls:= .type "list_iterator",data:= .fields #[.ref l,.int 0 0]}).push (seqObj "list" #[] 0)).IsListIter s.heap.objs.size l 0:=⟨_,Heap.get?_push_of_some _ (Heap.get?_push_size _ rfl),rfl,rfl⟩
  have gS:((s.heap.push {cls:= .type "list_iterator",data:= .fields #[.ref l,.int 0 0]}).push (seqObj "list" #[] 0)).get? (s.heap.objs.size+1)=some (seqObj "list" #[] 0):=by rw[<-zS];exact Heap.get?_push_size _ rfl
  have W:=Walks.list (prog:=prog) (w:=w) (A:=A.in1) hA s.heap.objs.size l nlI vs.toArray
  refine wpAny_pure ⟨plainId_quiet PySem.F.plain_max_loop _,codeAny_builtin PySem.F.entry_max_loop ?_⟩
  rw[Around.under_plainId PySem.F.plain_max_loop _]
  show wpAny _ A.in1 (seqItems? (.ref (s.heap.objs.size+1))>>=_) _ _ _
  refine wpAny_bind (wpAny_seqItems gS rfl (?_))
  show wpAny _ A.in1 (tryCatch (pyNext (.ref s.heap.objs.size)) _>>=_) _ _ _
  refine wpAny_bind (wpAny_tryCatch (W.item 0 _ _ _ (by rw[List.size_toArray];exact hne) ⟨gI,⟨ol,k0 _ _ hol,hlc,hln,hld⟩⟩ fun v h' tk' hP hst' hk'=> ?_))
  have hv:vs[0]? =some v:=(by simpa using hP)
  have k1:Kp s h':=fun b o e=>hk' b o (fun z=>Nat.lt_irrefl _ ((List.mem_singleton.mp z)▸Heap.lt_size e)) (k0 b o e)
  have g:=hk' (s.heap.objs.size+1) _ (by simp) gS
  show wpAny _ A.in1 (tryCatch (holding [v] (call (.builtin kid) [v])) _>>=_) _ _ _
  refine wpAny_bind (wpAny_tryCatch (wpAny_holding (turn 0 v hv h' tk' k1 _ _ fun t2 tk2=> ?_)))
  have sb:=Heap.SameBut.update h' (s.heap.objs.size+1) (Obj.mapSeq fun _=>#[v,.int (kf 0) t2])
  obtain⟨c2,hc2⟩:∃c2,(h'.update (s.heap.objs.size+1) (Obj.mapSeq fun _=>#[v,.int (kf 0) t2])).get? (s.heap.objs.size+1)=some (seqObj "list" #[v,.int (kf 0) t2] c2):=⟨_,get?_update_seq g fun _=>#[v,.int (kf 0) t2]⟩
  obtain⟨oI,hoI,hoc,hod⟩:=id hst'.1
  show wpAny _ A.in1 (updateSeq (s.heap.objs.size+1) (fun _=>#[v,.int (kf 0) t2])>>=_) _ _ _
  refine wpAny_bind (wpAny_updateSeq g rfl ?_)
  rw[nm]
  exact wpAny_pure ⟨plainId_quiet PySem.F.plain_max_loop _,max_go kf hA hl turn hQ _ 0 0 _ _ v t2 c2 rfl hne (fun b o e=>(sb.2 b (Nat.ne_of_lt (Nat.lt_succ_of_lt (Heap.lt_size e)))).trans (k1 b o e)) hc2 ⟨oI,(sb.2 _ (Nat.ne_of_lt (Nat.lt_succ_self _))).trans hoI,hoc,hod⟩ hv (Nat.le_refl _) fun j' hj'=>by
   have e:j'=0:=by omega
   subst e
   exact⟨Int.le_refl _,fun z=>absurd z (Nat.lt_irrefl _)⟩⟩)
end
end L2
namespace L2
open PySem PySem.Spec PyProof.Rows
section
variable{X:Cx}{a:Expr}{ta:TA}{p p2 kp pos:Pos}
noncomputable def tMaxLen(K:W.Frag)(ta:TA):TE:=fun σ H Q=>ta σ H fun vs H1=>∃(l:Addr) (its:List (Addr×List Int)),vs=[.ref l]/\SqL K H1 l (its.map fun p=>V.ref p.1)/\(∀p∈its,SqT K H1 p.1 (p.2.map V.int))/\its≠[]/\
 ∀(i:Nat) (p:Addr×List Int),its[i]? =some p->(∀(j:Nat) r,its[j]? =some r->r.2.length<=p.2.length/\(j<i->r.2.length<p.2.length))->Q (.ref p.1) H1
theorem vals_ref:∀{its:List (Addr×List Int)} {us:List Value} {i:Nat} {v:Value},Vals (its.map fun p=>V.ref p.1) us->us[i]? =some v->∃p,its[i]? =some p/\v= .ref p.1
 |[],_,i,v,h,e=>by cases h;simp at e
 |p::its,_,0,v,h,e=>by
  cases h with
  |cons r t=>
   cases r
   simp at e
   exact⟨p,rfl,e.symm⟩
 |p::its,_,i+1,v,h,e=>by
  cases h with
  |cons r t=>exact vals_ref (i:=i) t (by simpa using e)
theorem pe_maxLen(hc:X.calm=true)(hg:Gl X "max")(hm:X.mg "max"=none)(hgL:Gl X "len")(hmL:X.mg "len"=none)(ha:PA X [a] ta)(hs:starEach [a] X.env=[(false,eval a X.env)]:=by rfl)(he:backTo pos (starEach [a] X.env)=(false,eval a X.env)::backTo pos (starEach [] X.env):=by rfl)(hp:(backTo pos (starEach [a] X.env)).any (·.1)=false:=by rfl):PE X (.Call (.Name "max" p) [a] [⟨some "key",.Name "len" p2,kp⟩] pos) (tMaxLen X.K ta):=by
 intro pins s σ H Q I h
 refine wpAny_Call_Name_kw (ld_blt I hg hm (show bootBuiltins "max"=some (.builtin "max")from by decide+kernel) ?_ (by decide) (by decide))
 refine PyProof.Rows.callWith_kw (thn (ha pos pins s σ H _ I h) fun us s1 ⟨vs,H1,I1,r1,q1⟩=>kws_cons (ld_blt I1 hgL hmL PySem.boot_len (kws_nil ?_) (by decide) (by decide))) he hp
 obtain⟨l,its,e,hq,hT,hne,q⟩:=q1
 subst e
 cases r1 with
 |cons r rr=>
  cases rr
  cases r
  obtain⟨ws,rv,pl,hz⟩:=I1.list hq
  have hlen:its.length=ws.length:=by have:=rv.length;simpa using this
  have hpos:0<ws.length:=by
   rw[<-hlen]
   cases its with
   |nil=>exact absurd rfl hne
   |cons _ _=>simp
  have kf:∀i p,its[i]? =some p->its.getD i (0,[])=p:=fun i p e=>by rw[List.getD_eq_getElem?_getD,e];rfl
  show wpAny (model X.prog X.w) X.A (call (.builtin "max") [.ref l] [(Str.ofString "key",.builtin "len")]) (EP X pins σ Q) X.xe s1
  refine max_own (fun i=>((its.getD i (0,[])).2.length:Int)) (I.ok.hd hc) pl.isList hpos (fun i v hv h' tk k Q' E' hq'=> ?_) (fun i v h' tk' hv hb k=> ?_)
  ·obtain⟨p,e1,rfl⟩:=vals_ref rv hv
   obtain⟨xs,rx,px,hx⟩:=I1.tuple (hT p (List.mem_of_getElem? e1))
   obtain⟨o,ho,ho2,n,hd⟩:=id px
   have hxl:xs.length=p.2.length:=by have:=rx.length;simpa using this.symm
   have hz2:xs.toArray.size=p.2.length:=by rw[List.size_toArray];exact hxl
   refine len_tuple (s:={s1 with heap:=h',toks:=tk}) (t:=p.1) (items:=xs.toArray) ⟨o,k _ _ ho,ho2,n,hd⟩ ?_ ?_
   ·rw[List.size_toArray]
    have:xs.length<=sizeLine:=by rw[hxl];simpa using hx
    rw[sizeLine_eq]at this
    omega
   ·have z:=hq' (tk+1) (tk+1+1)
    rw[kf i p e1]at z
    rw[hz2]
    exact z
  ·obtain⟨p,e1,rfl⟩:=vals_ref rv hv
   have I2:Inv X pins σ H1 {s1 with heap:=h',toks:=tk'}:=I1.kept k
   refine⟨.ref p.1,H1,I2,rfl,q i p e1 fun j r hr=> ?_⟩
   have hj:j<ws.length:=by rw[<-hlen];exact(List.getElem?_eq_some_iff.mp hr).1
   have z:=hb j hj
   rw[kf i p e1,kf j r hr]at z
   exact⟨by omega,fun hji=>by have:=z.2 hji;omega⟩
end
end L2
namespace L2
open PySem PySem.Spec PyProof.Rows
theorem ObjOk.any{P:Program}{w:World}{H:Hp}{h:Heap}{a:Addr}{o:HO}(x:ObjOk P w H h a o):∃u,h.get? a=some u:=by
 cases o with
 |lst xs=>obtain⟨_,_,_,_,e⟩:=x;exact⟨_,e⟩
 |tup xs=>obtain⟨_,_,_,ob,e,_⟩:=x;exact⟨_,e⟩
 |dK kvs=>obtain⟨_,_,_,_,o,_,_,e,_⟩:=x;exact⟨_,e⟩
 |dT kvs=>obtain⟨_,_,_,_,o,_,_,e,_⟩:=x;exact⟨_,e⟩
 |set S n=>obtain⟨o,_,_,_,e,_⟩:=x;exact⟨_,e⟩
 |ins C dx fs=>obtain⟨_,_,_,e,_⟩:=x;exact⟨_,e⟩
 |own y=>exact x
 |xd fs=>obtain⟨_,⟨_,_,_,e,_⟩,_⟩:=x;exact⟨_,e⟩
 |rng lo hi=>obtain⟨_,_,_,e⟩:=x;exact⟨_,e⟩
 |frz ob u=>obtain⟨e,_⟩:=x;exact⟨_,e⟩
 |tbl ps=>exact⟨_,x⟩
 |met f y=>exact⟨_,x⟩
 |ext φ=>exact x.2.1
theorem HOk.none{P:Program}{w:World}{H:Hp}{h:Heap}{a:Addr}(x:HOk P w H h)(e:h.get? a=none):H a=none:=by
 cases q:H a with
 |none=>rfl
 |some u=>
  obtain⟨o,z⟩:=(x a u q).any
  rw[e]at z;cases z
section
variable{P:Program}{w:World}{K:W.Frag}{mg:Str->Option Value}{base:Heap}{N:List Str}{qual:Str}{scope:Scope}{f:Addr}{cd:Value}{A:Around}{outer:List Env}{s:Shared}{H:Hp}{E:XK}
end
section
variable{P:Program}{w:World}{K:W.Frag}{mg:Str->Option Value}{base:Heap}{N:List Str}{qual:Str}{scope:Scope}{f:Addr}{cd:Value}{A:Around}{outer:List Env}{s:Shared}{H:Hp}{E:XK}
end
end L2
namespace L2
open PySem PySem.Spec PySem.Calls PyProof.Rows PySem.W PySem.Builtin.Getset_descriptor
section
variable{prog:Program}{w:World}{A:Around}{E:Value->Shared->Prop}{s:Shared}{K:Frag}{x D:Addr}
noncomputable def OfCls(x D:Addr)(h:Heap):Prop:=∃o,h.get? x=some o/\o.cls= .ref D
theorem OfCls.ty{M:Model}{h:Heap}(p:OfCls x D h):Looks M h (typeOf (.ref x)) (.ref D):=by
 obtain⟨o,e,c⟩:=p
 exact c▸(Looks.ld e).andThen .now
end
end L2
namespace L2
open PySem PySem.Spec PyProof.Rows
section
variable{X:Cx}{pins:List (Addr×Obj)}{σ:St}{H H':Hp}{s s':Shared}{e C:Addr}{B:Heap}
end
section
variable{X:Cx}{k:Nat}{f D:Addr}{fd:FuncData}{ps:List Str}{sp:Sp}{fn x n:Str}{p cpos epos np hpos pos:Pos}{a:Expr}{as:List Expr}{t:TA}{ts:TS}{b₀:Stmt}{suite:List Stmt}{i:Nat}
end
end L2
namespace L2
open PySem PySem.Spec PyProof.Rows
section
variable{X:Cx}
end
end L2
namespace L2
open PySem PySem.Spec PyProof.Rows
mutual
noncomputable def litF:Nat->Expr->Option PyData
 |0,_=>none
 |n+1,e=>match e with
  | .Constant (.int i) _ _=>some (.int i)
  | .Constant (.bool b) _ _=>some (.bool b)
  | .Constant .none _ _=>some .none
  | .Constant (.str x) _ _=>some (.str x)
  | .UnaryOp .USub (.Constant (.int i) _ _) _=>some (.int (-i))
  | .Tuple es _ _=>(litsF n es).map .tuple
  | .List es _=>(litsF n es).map .list
  | .Dict [] [] _=>some (.dict [])
  |_=>none
noncomputable def litsF:Nat->List Expr->Option (List PyData)
 |0,_=>none
 |_+1,[]=>some []
 |n+1,e::es=>match litF n e,litsF n es with
  |some d,some ds=>some (d::ds)
  |_,_=>none
end
section
variable{X:Cx}
end
theorem FnOk.up{P:Program}{w:World}{K:W.Frag}{mg:Str->Option Value}{base:Heap}{CX:CXT}{k:Nat}{f:Addr}{fd:FuncData}{ps:List Str}{sp:Sp}(F:FnOk P w K mg base CX0 k f fd ps sp):FnOk P w K mg base CX k f fd ps sp:=
 ⟨F.len,fun A outer s H args us vs Q E hr e0 hb hv hs=>codeAny_mono (F.run A outer s H args us vs Q E hr e0 hb hv hs) fun r s' z=>by
  cases r with
  |error e=>exact False.elim z
  |ok fl=>cases fl<;>exact z⟩
end L2
namespace L2
open PySem PySem.Spec PyProof.Rows
section
variable{κ:Type} [DecidableEq κ]
noncomputable def valV(kvs:List (κ×V))(k:κ):Option V:=(kvs.find? fun kv=>decide (kv.1=k)).map (·.2)
noncomputable def putK(kvs:List (κ×V))(k:κ)(v:V):List (κ×V):=
 if(kvs.any fun kv=>decide (kv.1=k))=true then kvs.map (fun kv=>if kv.1=k then(kv.1,v)else kv)else kvs++[(k,v)]
noncomputable def dropK(kvs:List (κ×V))(k:κ):List (κ×V):=kvs.filter fun kv=>decide (kv.1≠k)
theorem valV_pos{p:κ×V}{r:List (κ×V)}{k:κ}(e:p.1=k):valV (p::r) k=some p.2:=by simp[valV,List.find?_cons,e]
theorem valV_neg{p:κ×V}{r:List (κ×V)}{k:κ}(e:¬p.1=k):valV (p::r) k=valV r k:=by simp[valV,List.find?_cons,e]
theorem valV_any(k:κ):∀kvs:List (κ×V),(kvs.any fun kv=>decide (kv.1=k))=(valV kvs k).isSome
 |[]=>rfl
 |p::r=>by
  rw[List.any_cons]
  by_cases e:p.1=k
  ·simp only[valV_pos e,decide_eq_true e,Bool.true_or,Option.isSome_some]
  ·rw[valV_neg e,decide_eq_false e,Bool.false_or];exact valV_any k r
theorem RelO.isSome_eq{o:Option V}{u:Option Value}(r:RelO o u):o.isSome=u.isSome:=by
 cases o with
 |none=>cases u with
  |none=>rfl
  |some _=>exact(show False from r).elim
 |some _=>cases u with
  |none=>exact(show False from r).elim
  |some _=>rfl
theorem RelO.getD{o:Option V}{u:Option Value}{d:V}{d':Value}(r:RelO o u)(rd:RelV d d'):RelV (o.getD d) (u.getD d'):=by
 cases o with
 |none=>cases u with
  |none=>exact rd
  |some _=>exact(show False from r).elim
 |some _=>cases u with
  |none=>exact(show False from r).elim
  |some _=>exact r
theorem KV.val{kvs:List (κ×V)}{vs:List (κ×Value)}(r:KV kvs vs)(k:κ):RelO (valV kvs k) (valueAt vs k):=by
 unfold KV at r
 induction r with
 |nil=>exact True.intro
 | @cons p q ps qs h t ih=>
  obtain⟨h1,h2⟩:=h
  by_cases e:p.1=k
  ·have e':q.1=k:=h1.symm.trans e
   have b:valueAt (q::qs) k=some q.2:=by simp[valueAt,List.find?_cons,e']
   rw[valV_pos e,b];exact h2
  ·have e':¬q.1=k:=fun z=>e (h1.trans z)
   have b:valueAt (q::qs) k=valueAt qs k:=by simp[valueAt,List.find?_cons,e']
   rw[valV_neg e,b];exact ih
theorem KV.any{kvs:List (κ×V)}{vs:List (κ×Value)}(r:KV kvs vs)(k:κ):(kvs.any fun kv=>decide (kv.1=k))=vs.any fun kv=>decide (kv.1=k):=by
 unfold KV at r
 induction r with
 |nil=>rfl
 |cons h t ih=>rw[List.any_cons,List.any_cons,ih,h.1]
theorem KV.repl{kvs:List (κ×V)}{vs:List (κ×Value)}(r:KV kvs vs)(k:κ){y:V}{u:Value}(ry:RelV y u):
  KV (kvs.map fun kv=>if kv.1=k then(kv.1,y)else kv) (vs.map fun kv=>if kv.1=k then(kv.1,u)else kv):=by
 unfold KV at r⊢
 induction r with
 |nil=>exact .nil
 | @cons p q ps qs h t ih=>
  rw[List.map_cons,List.map_cons]
  refine .cons ?_ ih
  obtain⟨h1,h2⟩:=h
  by_cases e:p.1=k
  ·rw[if_pos e,if_pos (h1.symm.trans e)];exact⟨h1,ry⟩
  ·rw[if_neg e,if_neg (fun z=>e (h1.trans z))];exact⟨h1,h2⟩
theorem KV.put{kvs:List (κ×V)}{vs:List (κ×Value)}(r:KV kvs vs)(k:κ){y:V}{u:Value}(ry:RelV y u):KV (putK kvs k y) (stored vs k u):=by
 unfold putK stored
 rw[r.any k]
 by_cases e:(vs.any fun kv=>decide (kv.1=k))=true
 ·rw[if_pos e,if_pos e];exact r.repl k ry
 ·rw[if_neg e,if_neg e];exact Paired.snoc r ⟨rfl,ry⟩
theorem KV.drop{kvs:List (κ×V)}{vs:List (κ×Value)}(r:KV kvs vs)(k:κ):KV (dropK kvs k) (without vs k):=by
 unfold KV at r⊢
 unfold dropK without
 induction r with
 |nil=>exact .nil
 | @cons p q ps qs h t ih=>
  obtain⟨h1,h2⟩:=h
  rw[List.filter_cons,List.filter_cons]
  by_cases e:p.1=k
  ·have a:¬decide (p.1≠k)=true:=by simp[e]
   have b:¬decide (q.1≠k)=true:=by simp[h1.symm.trans e]
   rw[if_neg a,if_neg b];exact ih
  ·have e':¬q.1=k:=fun z=>e (h1.trans z)
   have a:decide (p.1≠k)=true:=by simp[e]
   have b:decide (q.1≠k)=true:=by simp[e']
   rw[if_pos a,if_pos b];exact .cons ⟨h1,h2⟩ ih
theorem KV.keys{kvs:List (κ×V)}{vs:List (κ×Value)}(r:KV kvs vs):kvs.map (·.1)=vs.map (·.1):=by
 unfold KV at r
 induction r with
 |nil=>rfl
 |cons h t ih=>rw[List.map_cons,List.map_cons,ih,h.1]
theorem KV.length{kvs:List (κ×V)}{vs:List (κ×Value)}(r:KV kvs vs):kvs.length=vs.length:=Paired.length r
end
noncomputable abbrev KT(H:Hp):List (List Key×V)->List (List Key×Addr×Value)->Prop:=Paired fun p q=>p.1=q.1/\H q.2.1=some (.tup (p.1.map kV))/\RelV p.2 q.2.2
theorem KT.val{H:Hp}{kvs:List (List Key×V)}{xs:List (List Key×Addr×Value)}(r:KT H kvs xs)(k:List Key):RelO (valV kvs k) ((atKey xs k).map (·.2)):=by
 induction r with
 |nil=>exact True.intro
 | @cons p q ps qs h t ih=>
  obtain⟨h1,_,h2⟩:=h
  by_cases e:p.1=k
  ·have e':q.1=k:=h1.symm.trans e
   have b:atKey (q::qs) k=some q.2:=by simp[atKey,List.find?_cons,e']
   rw[valV_pos e,b];exact h2
  ·have e':¬q.1=k:=fun z=>e (h1.trans z)
   have b:atKey (q::qs) k=atKey qs k:=by simp[atKey,List.find?_cons,e']
   rw[valV_neg e,b];exact ih
theorem KT.repl{H:Hp}{kvs:List (List Key×V)}{xs:List (List Key×Addr×Value)}(r:KT H kvs xs)(k:List Key){y:V}{u:Value}(ry:RelV y u):
  KT H (kvs.map fun kv=>if kv.1=k then(kv.1,y)else kv) (xs.map (putAt k u)):=by
 induction r with
 |nil=>exact .nil
 | @cons p q ps qs h t ih=>
  rw[List.map_cons,List.map_cons]
  refine .cons ?_ ih
  obtain⟨h1,h2,h3⟩:=h
  unfold putAt
  by_cases e:p.1=k
  ·rw[if_pos e,if_pos (h1.symm.trans e)];exact⟨h1,h2,ry⟩
  ·rw[if_neg e,if_neg (fun z=>e (h1.trans z))];exact⟨h1,h2,h3⟩
theorem KT.put{H:Hp}{kvs:List (List Key×V)}{xs:List (List Key×Addr×Value)}(r:KT H kvs xs)(k:List Key){b:Addr}{y:V}{u:Value}(hb:H b=some (.tup (k.map kV)))(ry:RelV y u):
  KT H (putK kvs k y) (storedH xs k b u):=by
 have e:(kvs.any fun kv=>decide (kv.1=k))=(atKey xs k).isSome:=by
  rw[valV_any,(r.val k).isSome_eq,Option.isSome_map]
 unfold putK storedH
 rw[e]
 by_cases q:(atKey xs k).isSome=true
 ·rw[if_pos q,if_pos q];exact r.repl k ry
 ·rw[if_neg q,if_neg q];exact Paired.snoc r ⟨rfl,hb,ry⟩
theorem KT.keeps{H H':Hp}{kvs:List (List Key×V)}{xs:List (List Key×Addr×Value)}(r:KT H kvs xs)(ht:∀b ys,H b=some (.tup ys)->H' b=some (.tup ys)):KT H' kvs xs:=
 Paired.mapP r fun _ _ z=>⟨z.1,ht _ _ z.2.1,z.2.2⟩
section
variable{P:Program}{w:World}{H:Hp}{h:Heap}{a:Addr}
end
noncomputable def DGet(H:Hp)(a:Addr)(y:V)(r:Option V):Prop:=
 (∃kvs k,Rd H a (.dK kvs)/\y=kV k/\r=valV kvs k)\/∃kvs k b,Rd H a (.dT kvs)/\y= .ref b/\H b=some (.tup (k.map kV))/\r=valV kvs k
noncomputable def DPut(H:Hp)(a:Addr)(y v:V)(H':Hp):Prop:=
 (∃kvs k,H a=some (.dK kvs)/\y=kV k/\kvs.length<sizeLine/\H'=upd H a (.dK (putK kvs k v)))\/
 ∃kvs k b,H a=some (.dT kvs)/\y= .ref b/\H b=some (.tup (k.map kV))/\kvs.length<sizeLine/\H'=upd H a (.dT (putK kvs k v))
theorem DGet.k{H:Hp}{a:Addr}{kvs:List (Key×V)}{k:Key}(e:H a=some (.dK kvs)):DGet H a (kV k) (valV kvs k):= .inl ⟨kvs,k,.inl e,rfl,rfl⟩
theorem DGet.t{H:Hp}{a b:Addr}{kvs:List (List Key×V)}{k:List Key}(e:H a=some (.dT kvs))(eb:H b=some (.tup (k.map kV))):DGet H a (.ref b) (valV kvs k):= .inr ⟨kvs,k,b,.inl e,rfl,eb,rfl⟩
theorem DPut.k{H:Hp}{a:Addr}{kvs:List (Key×V)}{k:Key}{v:V}(e:H a=some (.dK kvs))(hl:kvs.length<sizeLine):DPut H a (kV k) v (upd H a (.dK (putK kvs k v))):= .inl ⟨kvs,k,e,rfl,hl,rfl⟩
theorem DPut.t{H:Hp}{a b:Addr}{kvs:List (List Key×V)}{k:List Key}{v:V}(e:H a=some (.dT kvs))(eb:H b=some (.tup (k.map kV)))(hl:kvs.length<sizeLine):
  DPut H a (.ref b) v (upd H a (.dT (putK kvs k v))):= .inr ⟨kvs,k,b,e,rfl,eb,hl,rfl⟩
section
variable{X:Cx}{pins:List (Addr×Obj)}{σ:St}{H:Hp}{s:Shared}{a:Addr}{y v:V}{u r:Value}{o:Option V}{A:Around}{E:Value->Shared->Prop}
end
section
variable{X:Cx}{pins:List (Addr×Obj)}{σ:St}{H:Hp}{s:Shared}{a:Addr}{kvs:List (Key×V)}{k:Key}{u:Value}{A:Around}{E:Value->Shared->Prop}
end
section
variable{X:Cx}{o i e value:Expr}{pos pos' tpos:Pos}{td ty tv:TE}
end
section
variable{X:Cx}{pos:Pos}
end
end L2
namespace PySem
namespace F
end F
section
variable{prog:Program}{w:World}{A:Around}{E:Value->Shared->Prop}{s:Shared}
noncomputable def Heap.IsRvd(h:Heap)(a l:Addr)(i:Int):Prop:=∃o,h.get? a=some o/\o.cls= .type "reversed"/\o.data= .fields #[.ref l,rawInt i]
theorem Heap.IsRvd.typeIs{a l:Addr}{i:Int}(x:s.heap.IsRvd a l i):s.TypeIs (.ref a) "reversed":=let⟨o,ho,hc,_⟩:=x;⟨o,ho,hc⟩
theorem Heap.IsRvd.at{h h':Heap}{a l:Addr}{i:Int}(x:h.IsRvd a l i)(e:∀o,h.get? a=some o->h'.get? a=some o):h'.IsRvd a l i:=let⟨o,ho,r⟩:=x;⟨o,e _ ho,r⟩
end
end PySem
namespace L2
open PySem PySem.Spec PyProof.Rows
section
variable{X:Cx}{tg:Expr}
end
section
variable{X:Cx}
end
end L2
namespace PySem
section
variable{prog:Program}{w:World}{Ky:Type} [DecidableEq Ky]{knd:KeyKind prog w Ky}{A:Around}{E:Value->Shared->Prop}{s:Shared}
end
end PySem
namespace L2
open PySem PySem.Spec PyProof.Rows
section
variable{X:Cx}
end
end L2
namespace L2
open PySem
noncomputable def Rise(xs:Array Nat):Prop:=xs.toList.Pairwise (· < ·)
theorem Rise.at{xs:Array Nat}(h:Rise xs){i k:Nat}(hk:k<xs.size)(hik:i<k):xs.toList[i]'(by simp;omega)<xs.toList[k]'(by simpa using hk):=List.pairwise_iff_getElem.mp h i k _ _ hik
theorem getD_at{xs:Array Nat}{i d:Nat}(h:i<xs.size):xs.getD i d=xs.toList[i]'(by simpa using h):=by
 rw[Array.getElem_toList]
 simp[Array.getD,h]
theorem below_go{xs:Array Nat}(hx:Rise xs)(j:Nat):∀(fuel lo hi:Nat),lo<=hi->hi<=xs.size->hi-lo<=fuel->(∀i (h:i<xs.size),i<lo->xs.toList[i]'(by simpa using h)<j)->(∀i (h:i<xs.size),hi<=i->j<=xs.toList[i]'(by simpa using h))->
  SetTable.below.go xs j fuel lo hi<=xs.size/\(∀i (h:i<xs.size),i<SetTable.below.go xs j fuel lo hi->xs.toList[i]'(by simpa using h)<j)/\(∀i (h:i<xs.size),SetTable.below.go xs j fuel lo hi<=i->j<=xs.toList[i]'(by simpa using h))
 |0,lo,hi,h1,h2,h3,a,b=>by
  have e:lo=hi:=by omega
  subst e
  unfold SetTable.below.go
  exact⟨h2,a,b⟩
 |fuel+1,lo,hi,h1,h2,h3,a,b=>by
  unfold SetTable.below.go
  by_cases c:lo<hi
  ·rw[if_pos c]
   have hm:(lo+hi)/2<xs.size:=by omega
   dsimp only
   rw[getD_at hm]
   by_cases q:xs.toList[(lo+hi)/2]'(by simpa using hm)<j
   ·rw[if_pos q]
    refine below_go hx j fuel _ hi (by omega) h2 (by omega) (fun i hi' hlt=> ?_) b
    by_cases e:i=(lo+hi)/2
    ·subst e;exact q
    ·exact Nat.lt_trans (hx.at hm (by omega)) q
   ·rw[if_neg q]
    refine below_go hx j fuel lo _ (by omega) (by omega) (by omega) a (fun i hi' hle=> ?_)
    by_cases e:i=(lo+hi)/2
    ·subst e;omega
    ·have:=hx.at hi' (show(lo+hi)/2<i by omega)
     omega
  ·rw[if_neg c]
   have e:lo=hi:=by omega
   subst e
   exact⟨h2,a,b⟩
theorem below_ok{xs:Array Nat}(hx:Rise xs)(j:Nat):SetTable.below xs j<=xs.size/\(∀i (h:i<xs.size),i<SetTable.below xs j->xs.toList[i]'(by simpa using h)<j)/\(∀i (h:i<xs.size),SetTable.below xs j<=i->j<=xs.toList[i]'(by simpa using h)):=
 below_go hx j xs.size 0 xs.size (Nat.zero_le _) (Nat.le_refl _) (Nat.le_refl _) (fun i _ h=>absurd h (Nat.not_lt_zero _)) (fun i h h'=>absurd h (Nat.not_lt.mpr h'))
theorem insert_list{α:Type}(xs:Array α)(p:Nat)(x:α):(SetTable.insertAt xs p x).toList=xs.toList.take p++x::xs.toList.drop p:=by
 unfold SetTable.insertAt
 simp
 exact List.take_of_length_le (by simp)
theorem insert_rise{xs:Array Nat}(hx:Rise xs){j:Nat}(hn:xs[SetTable.below xs j]? ≠some j):Rise (SetTable.insertAt xs (SetTable.below xs j) j):=by
 obtain⟨b1,b2,b3⟩:=below_ok hx j
 unfold Rise
 rw[insert_list,List.pairwise_append]
 have lt1:∀a∈xs.toList.take (SetTable.below xs j),a<j:=fun a ha=>by
  obtain⟨i,hi,e⟩:=List.mem_take_iff_getElem.mp ha
  rw[<-e]
  exact b2 i (by simp at hi;omega) (by omega)
 have lt2:∀a∈xs.toList.drop (SetTable.below xs j),j<a:=fun a ha=>by
  obtain⟨i,hi,e⟩:=List.mem_drop_iff_getElem.mp ha
  have hs0:i+SetTable.below xs j<xs.size:=by simpa using hi
  have hs:SetTable.below xs j+i<xs.size:=by omega
  have z:=b3 (SetTable.below xs j+i) hs (Nat.le_add_right _ _)
  have e':xs.toList[SetTable.below xs j+i]'(by simpa using hs)=a:=by rw[<-e]
  rw[e']at z
  by_cases c:i=0
  ·subst c
   refine Nat.lt_of_le_of_ne z fun ej=>hn ?_
   rw[<-Array.getElem?_toList,List.getElem?_eq_getElem (by simpa using hs)]
   exact congrArg some (e'.trans ej.symm)
  ·have hs0:SetTable.below xs j<xs.size:=by omega
   have z0:=b3 (SetTable.below xs j) hs0 (Nat.le_refl _)
   have:=hx.at hs (show SetTable.below xs j<SetTable.below xs j+i by omega)
   rw[e']at this
   omega
 refine⟨hx.sublist (List.take_sublist _ _),List.pairwise_cons.mpr ⟨lt2,hx.sublist (List.drop_sublist _ _)⟩,fun a ha b hb=> ?_⟩
 rcases List.mem_cons.mp hb with e|e
 ·rw[e];exact lt1 a ha
 ·exact Nat.lt_trans (lt1 a ha) (lt2 b e)
structure TabOk(b:Bool)(t:SetTable):Prop where
 rise:Rise t.place
 nod:t.dummies=#[]
 led:t.led=b
theorem has_none(j:Nat):SetTable.has #[] j=false:=by
 unfold SetTable.has
 simp
theorem slot_empty{t:SetTable}{j:Nat}(h:t.slot j= .empty):t.place[SetTable.below t.place j]? ≠some j:=fun e=>by
 unfold SetTable.slot at h
 dsimp only at h
 rw[e]at h
 simp at h
theorem probe_go{t:SetTable}(ht:t.dummies=#[])(ha:Nat->Int)(h:Int):∀(fuel:Nat) (p:SetTable.Probe) (j:Nat) (d:Option Nat),p.dummy=none->SetTable.probe.go t ha h fuel p=some (.empty j d)->d=none/\t.slot j= .empty
 |0,p,j,d,_,e=>by unfold SetTable.probe.go at e;cases e
 |fuel+1,p,j,d,hp,e=>by
  unfold SetTable.probe.go at e
  have adv:(t.advance p).dummy=none:=by
   unfold SetTable.advance
   split
   ·exact hp
   ·exact hp
  cases z:t.slot p.j with
  |empty=>
   rw[z]at e
   cases e
   exact⟨hp,z⟩
  |dummy=>
   exfalso
   unfold SetTable.slot at z
   dsimp only at z
   rw[ht,has_none]at z
   split at z
   ·cases z
   ·simp at z
  |live i=>
   rw[z]at e
   dsimp only at e
   split at e
   ·cases e
   ·exact probe_go ht ha h fuel _ j d adv e
theorem range_rise(n:Nat):Rise (Array.range n):=by
 unfold Rise
 rw[Array.toList_range]
 exact List.pairwise_lt_range
theorem standIn_ok{b:Bool}{t:SetTable}(h:TabOk b t)(n:Nat):TabOk b (t.standIn n):=⟨range_rise n,rfl,h.led⟩
theorem lay_ok{b:Bool}{t:SetTable}(h:TabOk b t)(es:Array (Int×Value))(hh:Int)(x:Value):TabOk b (layNew t es hh x).2.1:=by
 unfold layNew
 cases z:t.freeSlot hh with
 |none=>exact standIn_ok h _
 |some q=>
  obtain⟨slot,was⟩:=q
  have emp:t.slot slot= .empty:=by
   unfold SetTable.freeSlot SetTable.probe at z
   cases y:SetTable.probe.go t (fun _=>hh+1) hh (10*SetTable.turns t.mask) (t.probeStart hh)with
   |none=>rw[y]at z;cases z
   |some m=>
    rw[y]at z
    cases m with
    |candidate _ _ _=>cases z
    |empty j d=>
     obtain⟨rfl,e⟩:=probe_go h.nod _ _ _ _ _ _ rfl y
     cases z
     exact e
  have put_ok:TabOk b (t.put slot).1:=by
   refine⟨insert_rise h.rise (slot_empty emp),?_,h.led⟩
   show(if SetTable.has t.dummies slot then _ else t.dummies)=#[]
   rw[h.nod,has_none]
   rfl
  dsimp only
  unfold SetTable.orStandIn
  split
  ·exact put_ok
  ·exact standIn_ok put_ok _
theorem laid_ok{mask finger moves:Nat}{b plain:Bool}{hs:Array Int}{t':SetTable}{order:Array Nat}(e:SetTable.laid mask finger moves b plain hs=some (t',order)):TabOk b t':=by
 unfold SetTable.laid at e
 cases z:SetTable.layClean mask hs with
 |none=>rw[z]at e;cases e
 |some owner=>
  rw[z]at e
  cases e
  refine⟨?_,rfl,rfl⟩
  unfold Rise
  show(((List.range (mask+1)).filterMap fun j=>(owner.getD j none).map (j, ·)).map (·.1)).Pairwise (· < ·)
  rw[List.map_filterMap]
  refine List.Pairwise.filterMap _ (R:=(· < ·)) (fun a a' haa' c hc c' hc'=> ?_) List.pairwise_lt_range
  cases y:owner.getD a none with
  |none=>simp[y]at hc
  |some k=>
   cases y':owner.getD a' none with
   |none=>simp[y']at hc'
   |some k'=>
    simp[y]at hc
    simp[y']at hc'
    omega
theorem relay_ok{b:Bool}{t:SetTable}(h:TabOk b t)(es:Array (Int×Value))(wanted:Nat):TabOk b (relayAll t es wanted).2.1:=by
 unfold relayAll
 cases z:t.relaid (es.map (·.1)) wanted with
 |none=>exact standIn_ok h _
 |some q=>
  obtain⟨t',order⟩:=q
  dsimp only
  split
  ·unfold SetTable.relaid at z
   have:=laid_ok z
   rw[h.led]at this
   exact this
  ·exact standIn_ok h _
theorem unplain_ok{b:Bool}{t:SetTable}(h:TabOk b t):TabOk b {t with plain:=false}:=⟨h.rise,h.nod,h.led⟩
end L2
namespace PySem
namespace F
end F
end PySem
namespace PySem
open L2 (TabOk Rise)
section
variable{prog:Program}{w:World}{A:Around}{E:Value->Shared->Prop}{s:Shared}
structure SetAt(w:World)(h:Heap)(d:Addr)(es:Array (Int×Value))(ep:Nat)(t:SetTable):Prop where
 ob:∃o,h.get? d=some o/\o.ExactSet/\o.data= .set es ep t
 fits:t.fits es.size=true
 tab:TabOk (!w.params.followText "set-order") t
theorem SetAt.at{h h':Heap}{d:Addr}{es:Array (Int×Value)}{ep:Nat}{t:SetTable}(S:SetAt w h d es ep t)(e:∀o,h.get? d=some o->h'.get? d=some o):SetAt w h' d es ep t:=
 let⟨o,ho,r⟩:=S.ob;⟨⟨o,e _ ho,r⟩,S.fits,S.tab⟩
theorem SetAt.typeIs{d:Addr}{es:Array (Int×Value)}{ep:Nat}{t:SetTable}(S:SetAt w s.heap d es ep t):s.TypeIs (.ref d) "set":=let⟨o,ho,hx,_⟩:=S.ob;⟨o,ho,hx.1⟩
noncomputable def IsSetIter(h:Heap)(I d:Addr)(first:Value)(i n ep:Nat):Prop:=∃o,h.get? I=some o/\o.cls= .type "set_iterator"/\o.data= .fields #[first,.int i 0,.ref d,.int n 0,.int ep 0]
theorem IsSetIter.at{h h':Heap}{I d:Addr}{first:Value}{i n ep:Nat}(x:IsSetIter h I d first i n ep)(e:∀o,h.get? I=some o->h'.get? I=some o):IsSetIter h' I d first i n ep:=let⟨o,ho,r⟩:=x;⟨o,e _ ho,r⟩
theorem IsSetIter.typeIs{I d:Addr}{first:Value}{i n ep:Nat}(x:IsSetIter s.heap I d first i n ep):s.TypeIs (.ref I) "set_iterator":=let⟨o,ho,hc,_⟩:=x;⟨o,ho,hc⟩
end
end PySem
namespace PySem
open L2 (TabOk Rise)
section
variable{prog:Program}{w:World}{A:Around}{E:Value->Shared->Prop}{s:Shared}
theorem SetAt.push{h:Heap}{d:Addr}{es:Array (Int×Value)}{ep:Nat}{t:SetTable}(S:SetAt w h d es ep t)(o:Obj):SetAt w (h.push o) d es ep t:=S.at fun _ e=>Heap.get?_push_of_some _ e
end
end PySem
namespace PySem
open L2 (TabOk Rise lay_ok relay_ok unplain_ok)
section
variable{prog:Program}{w:World}{A:Around}{E:Value->Shared->Prop}{s:Shared}
noncomputable def SetG(prog:Program)(w:World)(h:Heap)(d:Addr)(S:Int->Bool)(n:Nat):Prop:=
 ∃o es ep t,h.get? d=some o/\o.ExactSet/\o.data= .set es ep t/\ElemsOf (intKind prog w) es.toList/\(∀k,S k=true↔∃e∈es.toList,(intKind prog w).is k e.2=true)/\es.size<scanBound/\t.fits es.size=true/\es.size=n/\TabOk (!w.params.followText "set-order") t
theorem SetG.at{h h':Heap}{d:Addr}{S:Int->Bool}{n:Nat}(g:SetG prog w h d S n)(e:∀o,h.get? d=some o->h'.get? d=some o):SetG prog w h' d S n:=let⟨o,es,ep,t,ho,r⟩:=g;⟨o,es,ep,t,e _ ho,r⟩
theorem SetG.congr{h:Heap}{d:Addr}{S S':Int->Bool}{n n':Nat}(g:SetG prog w h d S n)(e:∀k,S k=S' k)(en:n=n'):SetG prog w h d S' n':=by
 have:S=S':=funext e
 subst this;subst en;exact g
end
end PySem
namespace L2
open PySem PySem.Spec PyProof.Rows
section
variable{prog:Program}{w:World}{A:Around}{E:Value->Shared->Prop}{s:Shared}
end
section
variable{prog:Program}{w:World}{A:Around}{R:Result->Shared->Prop}{I:Addr}{fp wr:List Addr}{G:Array GenState->Array GenState->Prop}{n:Nat}{P:Nat->Value->Prop}{St:Nat->Shared->Prop}
end
section
variable{prog:Program}{w:World}{A:Around}{E:Value->Shared->Prop}{s:Shared}
end
end L2
namespace Srt
open PySem PySem.W PyProof.Rows PySem.Calls
section
variable{prog:Program}{w:World}{A:Around}{E:Value->Shared->Prop}{s:Shared}
end
end Srt
namespace L2
open PySem PySem.Spec PyProof.Rows
noncomputable def iv:Value->Int
 | .int k _=>k
 |_=>0
theorem nd_le:∀{c t:List Int},c.Nodup->(∀x∈c,x∈t)->c.length<=t.length
 |[],_,_,_=>Nat.zero_le _
 |x::c,t,nd,h=>by
  have hx:=h x List.mem_cons_self
  rw[List.nodup_cons]at nd
  have z:=nd_le (c:=c) (t:=t.erase x) nd.2 fun y hy=>(List.mem_erase_of_ne (fun e:y=x=>nd.1 (e▸hy))).mpr (h y (List.mem_cons_of_mem _ hy))
  rw[List.length_erase_of_mem hx]at z
  have p:0<t.length:=List.length_pos_of_mem hx
  rw[List.length_cons]
  omega
section
variable{prog:Program}{w:World}{A:Around}{E:Value->Shared->Prop}{s:Shared}
end
end L2
namespace Srt
open PySem PySem.W PyProof.Rows PySem.Calls
section
variable{prog:Program}{w:World}{A:Around}{E:Value->Shared->Prop}{s:Shared}
end
end Srt
namespace L2
open PySem PySem.Spec PyProof.Rows
section
variable{X:Cx}{a:Expr}{ta:TA}{p p' pos pos':Pos}
end
end L2
namespace L2
open PySem PySem.Spec PyProof.Rows
section
variable{prog:Program}{w:World}{A:Around}{E:Value->Shared->Prop}{s:Shared}
end
section
variable{X:Cx}{o e:Expr}{to:TE}{t:TA}{apos cpos:Pos}
end
end L2
namespace L2
open PySem PySem.Spec PyProof.Rows
section
variable{X:Cx}{e e1 e2:Expr}{es:List Expr}{te:TE}{pos:Pos}
end
end L2
namespace L2
open PySem PySem.Spec PyProof.Rows
section
variable{X:Cx}{e:Expr}{te:TE}{pos:Pos}
end
end L2
namespace L2
open PySem PySem.Spec PyProof.Rows
section
variable{X:Cx}{tg l:Expr}{tl:TE}
end
section
variable{g:TG}{tc:TT}{te:TE}{Fin:List V->Hp->Prop}{ini:St}{H:Hp}
end
end L2
namespace L2
open PySem PySem.Spec PyProof.Rows
end L2
namespace SplJ
open PySem PySem.StrLaws PySem.Builtin.Str
noncomputable def jl(y:List Nat):List (List Nat)->List Nat
 |[]=>[]
 |[p]=>p
 |p::q::r=>p++y++jl y (q::r)
section
variable{c:Nat}{ys:List Nat}
end
end SplJ
namespace DH
open PySem PySem.W PyProof.Rows PySem.Calls
noncomputable def EsAt(h:Heap)(d:Addr)(es:Array DictEntry)(ep:Nat):Prop:=∃o,h.get? d=some o/\o.ExactDict/\o.data= .dict es ep
section
variable{prog:Program}{w:World}{A:Around}{E:Value->Shared->Prop}{s:Shared}{d it:Addr}{es:Array DictEntry}{ep i:Nat}
theorem EsAt.typeIs(h:EsAt s.heap d es ep):s.TypeIs (.ref d) "dict":=let⟨o,ho,hc,_⟩:=h;⟨o,ho,hc.1⟩
theorem EsAt.lt{h:Heap}(x:EsAt h d es ep):d<h.objs.size:=let⟨_,ho,_⟩:=x;Heap.lt_size ho
end
noncomputable def TupsAt(h:Heap)(its:List (Addr×List Int)):Prop:=∀p∈its,∃items:List Value,IntsAre items p.2/\IsTup h p.1 items.toArray
section
variable{M:Model}{A:Around}{E:Value->Shared->Prop}{s:Shared}
end
section
variable{prog:Program}{w:World}{A:Around}{E:Value->Shared->Prop}{s:Shared}
end
end DH
namespace DH
open PySem PySem.W PyProof.Rows PySem.Calls
section
variable{prog:Program}{w:World}{A:Around}{E:Value->Shared->Prop}{s:Shared}{d:Addr}{es:Array DictEntry}{ep:Nat}
theorem TupsAt.keep{h h':Heap}{its:List (Addr×List Int)}(x:TupsAt h its)(k:∀b o,h.get? b=some o->h'.get? b=some o):TupsAt h' its:=fun p hp=>by
 obtain⟨items,hi,o,e,r⟩:=x p hp
 exact⟨items,hi,o,k _ _ e,r⟩
end
end DH
namespace L2
open PySem PySem.Spec PyProof.Rows
noncomputable def ksI(k:List Key):List Int:=k.map fun
 | .inl i=>i
 | .inr _=>0
noncomputable def IntK(k:List Key):Prop:=k=(ksI k).map Sum.inl
theorem ksI_inl(ns:List Int):ksI (ns.map Sum.inl)=ns:=by
 unfold ksI
 rw[List.map_map]
 induction ns with
 |nil=>rfl
 |cons n ns ih=>rw[List.map_cons,ih];rfl
theorem IntK.of(ns:List Int):IntK (ns.map Sum.inl):=by unfold IntK;rw[ksI_inl]
theorem IntK.vals{k:List Key}(h:IntK k):k.map kV=(ksI k).map V.int:=by
 rw[h,List.map_map,ksI_inl];rfl
section
variable{X:Cx}
end
end L2
namespace DH
open PySem PySem.W PyProof.Rows PySem.Calls
section
variable{prog:Program}{w:World}{K:Type} [DecidableEq K]{knd:HeapKind prog w K}{A:Around}{E:Value->Shared->Prop}{s:Shared}
end
end DH
namespace L2
open PySem PySem.Spec PyProof.Rows
section
variable{X:Cx}
end
end L2
namespace L2
open PySem PySem.Spec PyProof.Rows
section
variable{X:Cx}
end
end L2
namespace L2
open PySem PySem.Spec PyProof.Rows PySem.W
section
variable{X:Cx}
theorem call_sortedTT:CallR X (.builtin "sorted") (fun xs H Q=>∃(a:Addr) (its:List (Addr×List Int)),xs=[.ref a]/\SqT X.K H a (its.map fun p=>V.ref p.1)/\(∀p∈its,SqT X.K H p.1 (p.2.map V.int)/\p.2≠[])/\its.length<64/\
  ∀(l:Addr) (its':List (Addr×List Int)),H l=none->its'.Perm its->its'.Pairwise (fun p q=>HT.lexLt q.2 p.2=false)->Q (.ref l) (upd H l (.lst (its'.map fun p=>V.ref p.1)))):=by
 intro pins s σ H xs us Q I r h
 obtain⟨a,its,rfl,hS,hT,h64,q⟩:=h
 obtain⟨u,rfl,ru⟩:=r.one
 cases ru
 obtain⟨vs,rv,pl,hz⟩:=I.tuple hS
 have hlen:its.length=vs.length:=by have:=rv.length;simpa using this
 -- the values beside the tuples
 have pr:Paired (fun(p:Addr×List Int) (v:Value)=>v= .ref p.1) its vs:=by
  have go:∀(l:List (Addr×List Int)) (us:List Value),Vals (l.map fun p=>V.ref p.1) us->Paired (fun(p:Addr×List Int) (v:Value)=>v= .ref p.1) l us:=by
   intro l
   induction l with
   |nil=>intro us h;cases h;exact .nil
   |cons p l ih=>
    intro us h
    cases h with
    |cons r t=>exact .cons r (ih _ t)
  exact go its vs rv
 have tup:∀p∈its,∃(items:List Value),IntsAre items p.2/\IsTup s.heap p.1 items.toArray:=fun p hp=>by
  obtain⟨its',r',t',_⟩:=I.tuple (hT p hp).1
  exact⟨its',zdd r',t'⟩
 refine Srt.sorted_tup (O:=Srt.lexOrd) (key:=fun i=>(its.getD i (0,[])).2) (κ:=tuples' true) (s:=s) pl (by omega) (fun h2 h' k E' Q' hq=> ?_) (fun h2 h' k=> ?_) (fun D h' out c ho hD k hc=> ?_)
 ·have kt:∀(l:List (Addr×List Int)) (us:List Value),Paired (fun(p:Addr×List Int) (v:Value)=>v= .ref p.1) l us->(∀p∈l,p∈its)->∃fs:List Value,KatTups h' us fs/\fs.length=us.length/\∀v∈fs,∃i t,v=Value.int i t:=by
   intro l us h
   induction h with
   |nil=>intro _;exact⟨[],trivial,rfl,fun _ hv=>nomatch hv⟩
   | @cons p v l us r t ih=>
    intro hs
    obtain⟨fs,k1,k2,k3⟩:=ih fun p hp=>hs p (List.mem_cons_of_mem _ hp)
    obtain⟨items,hi,o,e,hc,n,hd⟩:=tup p (hs p List.mem_cons_self)
    have hne:=(hT p (hs p List.mem_cons_self)).2
    obtain⟨pa,pn⟩:=p
    dsimp only at hi hne e r
    cases hi with
    |nil=>exact absurd rfl hne
    |cons i t hi'=>
     rw[r]
     refine⟨Value.int i t::fs,KatTups.cons (k _ _ e) hc hd (by simp) k1,by simp[k2],fun v hv=> ?_⟩
     rcases List.mem_cons.mp hv with e|e
     ·exact⟨i,t,e⟩
     ·exact k3 v e
  obtain⟨fs,k1,k2,k3⟩:=kt its vs pr fun _ hp=>hp
  refine kat_kind (s:={s with heap:=h'}) (T:= .type "int") k1 (by omega) (fun v hv=> ?_) (by rfl) hq
  obtain⟨i,t,rfl⟩:=k3 v hv
  exact fun A Q E s _ q=>wpAny_pure q
 ·intro i j C hi hj hC
  rw[<-hlen]at hi hj
  have get:∀i (hi:i<its.length),vs.getD i Value.none= .ref its[i].1:=by
   have go:∀(l:List (Addr×List Int)) (us:List Value),Paired (fun(p:Addr×List Int) (v:Value)=>v= .ref p.1) l us->∀i (hi:i<l.length),us.getD i Value.none= .ref l[i].1:=by
    intro l us h
    induction h with
    |nil=>intro i hi;simp at hi
    |cons r t ih=>
     intro i hi
     cases i with
     |zero=>exact r
     |succ i=>simpa using ih i (by simpa using hi)
   exact go its vs pr
  unfold kas_ask
  rw[get i hi,get j hj]
  obtain⟨xi,hxi,oi,ei,ci,ni,di⟩:=tup its[i] (List.getElem_mem _)
  obtain⟨xj,hxj,oj,ej,cj,nj,dj⟩:=tup its[j] (List.getElem_mem _)
  refine kat_lt (s:={s with heap:=h'}) (k _ _ ei) di (k _ _ ej) dj ?_
  refine Srt.lex_ints 0 hxi hxj ?_ ?_
  ·have:=hxi.length;have:=hxj.length
   simp only[List.size_toArray]
   omega
  ·rw[HT.lexLt_iff]
   have e1:its.getD i (0,[])=its[i]:=by simp[hi]
   have e2:its.getD j (0,[])=its[j]:=by simp[hj]
   have hC':C (decide ((its.getD i (0,[])).2<(its.getD j (0,[])).2)) {s with heap:=h'}:=hC
   rw[e1,e2]at hC'
   exact hC'
 ·obtain⟨its',hp,hr,hw⟩:=Srt.outs_of (d:=((0,[]):Addr×List Int)) (f:=fun p=>p.2) pr (fun i hi=>by show(its.getD i (0,[])).2=_;simp[hi]) ho
  have hn:H D=none:=I.hok.fresh hD
  have rv':Vals (its'.map fun p=>V.ref p.1) out:=by
   have go:∀(l:List (Addr×List Int)) (us:List Value),Paired (fun(p:Addr×List Int) (v:Value)=>v= .ref p.1) l us->Vals (l.map fun p=>V.ref p.1) us:=by
    intro l us h
    induction h with
    |nil=>exact .nil
    |cons r t ih=>exact .cons r ih
   exact go its' out hr
  have zl:(its'.map fun p=>V.ref p.1).length<=sizeLine:=by
   have:=hp.length_eq
   rw[List.length_map]
   exact Nat.le_of_lt (small1000 (by omega))
  have J:Inv X pins σ (upd H D (.lst (its'.map fun p=>V.ref p.1))) {s with heap:=h',toks:=s.toks}:=I.laid k hD ⟨zl,out,c,rv',hc⟩
  refine⟨.ref D,_,J,rfl,q D its' hn hp (hw.imp fun{x y} hxy=> ?_)⟩
  rw[HT.lexLt_iff];exact hxy
end
end L2
namespace L2
open PySem PySem.Spec PyProof.Rows
section
variable{X:Cx}
theorem call_maxL(hc:X.calm=true):CallR X (.builtin "max") (fun xs H Q=>∃(a:Addr) (ns:List Int),xs=[.ref a]/\SqL X.K H a (ns.map V.int)/\ns≠[]/\∀m∈ns,(∀n∈ns,n<=m)->Q (.int m) H):=by
 intro pins s σ H xs us Q I r h
 obtain⟨a,ns,rfl,hS,hne,q⟩:=h
 obtain⟨u,rfl,ru⟩:=r.one
 cases ru
 obtain⟨vs,rv,pl,hz⟩:=I.list hS
 have hl:=pl.isList
 have hlt:a<s.heap.objs.size:=by obtain⟨_,e,_⟩:=hl;exact Heap.lt_size e
 have hlen:=rv.length
 rw[List.length_map]at hlen
 have hI:∀(i:Nat) (v:Value),vs.toArray[i]? =some v->∃t,v= .int (ns.getD i 0) t:=fun i v hv=>by
  have hv':vs[i]? =some v:=by simpa using hv
  have hi:i<ns.length:=by have:=(List.getElem?_eq_some_iff.mp hv').1;omega
  have hn:(ns.map V.int)[i]? =some (.int (ns.getD i 0)):=by rw[List.getElem?_map,List.getElem?_eq_getElem hi,List.getD_eq_getElem?_getD,List.getElem?_eq_getElem hi];rfl
  obtain⟨u,hu,ru⟩:=rv.get hn
  rw[hv']at hu
  cases hu
  obtain⟨t,rfl⟩:=ru
  exact⟨t,rfl⟩
 refine call_max_walk (wpAny_pyIter_list hl ?_)
 refine⟨s.heap.objs.size,[s.heap.objs.size,a],[s.heap.objs.size],vs.toArray.size,_,_,_,rfl,Walks.list (A:=X.A.in1) (I.ok.hd hc) _ a (Nat.ne_of_lt hlt) vs.toArray,
  ⟨⟨_,Heap.get?_push_size _ rfl,rfl,rfl⟩,hl.push _⟩,?_,?_,CmpOf.ints_gt (fun i=>ns.getD i 0) hI,fun v h' tk hP hk=> ?_⟩
 ·intro b hb
  show b<(s.heap.push _).objs.size
  rw[Heap.size_push]
  rcases List.mem_cons.mp hb with rfl|hb
  ·exact Nat.lt_succ_self _
  ·rw[List.mem_singleton.mp hb];exact Nat.lt_succ_of_lt hlt
 ·rw[List.size_toArray,<-hlen];exact List.length_pos_iff.mpr hne
 ·obtain⟨t,rfl⟩:=hI _ v hP
  obtain⟨h1,h2⟩:=argBest_gt (fun i=>ns.getD i 0) (vs.toArray.size-1)
  have hn0:0<ns.length:=List.length_pos_iff.mpr hne
  have hb:argBest (fun i j=>decide (ns.getD i 0>ns.getD j 0)) (vs.toArray.size-1)<ns.length:=by
   have:vs.toArray.size=ns.length:=by rw[List.size_toArray];omega
   omega
  refine⟨.int _,H,I.kept (LSm.kept_iter hk),⟨t,rfl⟩,q _ ?_ fun n hn=> ?_⟩
  ·rw[List.getD_eq_getElem?_getD,List.getElem?_eq_getElem hb];exact List.getElem_mem hb
  ·obtain⟨j,hj,rfl⟩:=List.getElem_of_mem hn
   have:=h2 j (by rw[List.size_toArray];omega)
   rw[List.getD_eq_getElem?_getD (i:=j),List.getElem?_eq_getElem hj]at this
   exact this
theorem map_erase48{α β:Type}(f:α->β):∀(l:List α) (j:Nat),(l.map f).eraseIdx j=(l.eraseIdx j).map f
 |[],_=>rfl
 |_::_,0=>rfl
 |x::l,j+1=>by
  show f x::(l.map f).eraseIdx j=f x::(l.eraseIdx j).map f
  rw[map_erase48 f l j]
noncomputable def isK(k:Int):Value->Bool
 | .int i _=>i==k
 |_=>false
theorem mt_remove:MtM X "list.remove" (fun x vs H Q=>∃(l:Addr) (ns:List Int) (k:Int) (j:Nat),x= .ref l/\vs=[.int k]/\H l=some (.lst (ns.map V.int))/\ns[j]? =some k/\(∀i,i<j->ns[i]? ≠some k)/\Q .non (upd H l (.lst ((ns.eraseIdx j).map V.int)))):=by
 intro pins s σ H x vs v us Q I rx rv h
 obtain⟨l,ns,k,j,rfl,rfl,hH,hj,hno,q⟩:=h
 cases rx
 obtain⟨u,rfl,ru⟩:=rv.one
 obtain⟨t,rfl⟩:=ru
 obtain⟨z,its,n,r,hl,e⟩:=I.lstM hH
 rw[List.length_map]at z hl
 have hI:∀(i:Nat) (v:Value),its[i]? =some v->∃t,v= .int (ns.getD i 0) t/\ns[i]? =some (ns.getD i 0):=fun i v hv=>by
  have hi:i<ns.length:=by have:=(List.getElem?_eq_some_iff.mp hv).1;omega
  have e0:ns[i]? =some (ns.getD i 0):=by rw[List.getD_eq_getElem?_getD,List.getElem?_eq_getElem hi];rfl
  obtain⟨u,hu,ru⟩:=r.get (show(ns.map V.int)[i]? =some (.int (ns.getD i 0)) by rw[List.getElem?_map,e0];rfl)
  rw[hv]at hu
  cases hu
  obtain⟨t,rfl⟩:=ru
  exact⟨t,rfl,e0⟩
 have hj':j<its.length:=by have:=(List.getElem?_eq_some_iff.mp hj).1;omega
 refine call_meets F.slot_list_remove ⟨_,e,rfl⟩ F.entry_list_remove (F.args_list_remove_2 _ _)
  (MeetsSeq.list_remove l its.toArray n (.int k t) (isK k) (fun y hy=> ?_) j (by simpa using hj') ?_ (fun i hi hlt=> ?_) (by rw[List.size_toArray];omega)) ⟨e,?_⟩
 ·obtain⟨i,hi,rfl⟩:=List.getElem_of_mem (show y∈its by simpa using hy)
  obtain⟨t',e',_⟩:=hI i its[i] (List.getElem?_eq_getElem hi)
  rw[e']
  exact MeetsSeq.EqGives.int _ _ _ _
 ·obtain⟨t',e',e0⟩:=hI j its[j] (List.getElem?_eq_getElem hj')
  show isK k its[j]=true
  rw[e']
  rw[hj]at e0
  have:k=ns.getD j 0:=Option.some.inj e0
  show(ns.getD j 0==k)=true
  rw[<-this];exact beq_self_eq_true _
 ·have hi':i<its.length:=by simpa using hi
  obtain⟨t',e',e0⟩:=hI i its[i] (List.getElem?_eq_getElem hi')
  show isK k its[i]=false
  rw[e']
  show(ns.getD i 0==k)=false
  refine beq_eq_false_iff_ne.mpr fun z=>hno i hlt ?_
  rw[e0,z]
 ·refine⟨.non,_,I.lset (its':=its.eraseIdx j) hH e ?_ ?_ ?_,rfl,q⟩
  ·show its.toArray.eraseIdxIfInBounds j=(its.eraseIdx j).toArray
   rw[List.eraseIdxIfInBounds_toArray]
  ·have e1:(ns.eraseIdx j).map V.int=(ns.map V.int).eraseIdx j:=(map_erase48 V.int ns j).symm
   rw[e1]
   exact r.eraseIdx j
  ·rw[List.length_map]
   have:=List.length_eraseIdx_le ns j
   omega
end
end L2
namespace Hs
open PySem L2 HsD
noncomputable def top(i:Nat):Stmt:=PySem.Challenge.pw_hueshare_k48_alike_everywhere.main.body.getD i (.Pass ⟨0,0,0,0⟩)
noncomputable abbrev zco:Stmt:=top 5
noncomputable abbrev zcs:Stmt:=top 6
noncomputable abbrev zce:Stmt:=top 7
noncomputable abbrev zcf:Stmt:=top 8
noncomputable abbrev s_is_set:Stmt:=top 9
noncomputable abbrev zct:Stmt:=top 10
noncomputable abbrev s_is_web:Stmt:=top 11
noncomputable abbrev zcn:Stmt:=top 12
noncomputable abbrev zcu:Stmt:=top 13
noncomputable abbrev zbh:Stmt:=top 15
noncomputable abbrev zcz:Stmt:=top 16
noncomputable abbrev zcj:Stmt:=top 17
noncomputable abbrev zcd:Stmt:=top 18
noncomputable abbrev zbf:Stmt:=top 19
noncomputable abbrev zbe:Stmt:=top 20
noncomputable abbrev zav:Stmt:=top 22
noncomputable abbrev zdl:Stmt:=top 23
noncomputable abbrev zbj:Stmt:=top 25
noncomputable abbrev zbx:Stmt:=top 26
noncomputable abbrev zao:Stmt:=top 27
noncomputable abbrev zbc:Stmt:=top 28
noncomputable abbrev zcp:Stmt:=top 29
noncomputable abbrev zbv:Stmt:=top 30
noncomputable abbrev zca:Stmt:=top 32
noncomputable abbrev zay:Stmt:=top 33
noncomputable abbrev zbo:Stmt:=top 34
noncomputable abbrev zci:Stmt:=top 35
noncomputable abbrev zbi:Stmt:=top 36
noncomputable abbrev zau:Stmt:=top 37
noncomputable abbrev zcb:Stmt:=top 38
noncomputable abbrev zbm:Stmt:=top 39
noncomputable abbrev zbl:Stmt:=top 40
noncomputable abbrev zba:Stmt:=top 41
noncomputable abbrev zam:Stmt:=top 42
noncomputable abbrev zbd:Stmt:=top 43
noncomputable abbrev zbu:Stmt:=top 44
noncomputable abbrev zcc:Stmt:=top 45
noncomputable abbrev zal:Stmt:=top 46
noncomputable abbrev zbb:Stmt:=top 47
noncomputable abbrev zaz:Stmt:=top 48
noncomputable abbrev zap:Stmt:=top 49
noncomputable abbrev s_law:Stmt:=top 50
end Hs
namespace Hs
open PySem L2 HsD
section
variable{P:Program}{w:World}{K:W.Frag}{mg:Str->Option Value}{base:Heap}
noncomputable def spWhole(K:W.Frag):Sp:=fun vs H Q _=>∃x d,vs=[x]/\DX K H x d/\Q (.bl (wholeD d)) H
theorem sc_whole:FnScope ["thing"] ["thing"] (defScope zco):=⟨rfl,rfl,rfl,by decide+kernel,rfl,by decide+kernel,by decide+kernel⟩
theorem ok_whole{f:Addr}{fd:FuncData}(F:Fun K "is_whole" "is_whole" zco f fd)(mi:mg "isinstance"=none)(mI:mg "int"=none)(mB:mg "bool"=none):FnOk P w K mg base CX0 1 f fd ["thing"] (spWhole K):=by
 refine F.ok sc_whole (fun vs H Q E h=> ?_) (fun cdv A outer s H vs Q E hr h=> ?_)
 ·obtain⟨x,d,rfl,_⟩:=h
  rfl
 obtain⟨x,d,rfl,hx,q⟩:=h
 refine⟨_,zag (zak (pe_and (zai call_isi rfl mi (by decide+kernel) (zaa (pv 0) (zaa (pe_bltn rfl mI (v:= .ty "int") (by decide+kernel) rfl) zab)))
  (pe_one (pe_not (zai call_isi rfl mi (by decide+kernel) (zaa (pv 0) (zaa (pe_bltn rfl mB (v:= .ty "bool") (by decide+kernel) rfl) zab))))))),?_⟩
 refine⟨_,rfl,x,_,_,rfl,hx.kind,.inl rfl,_,rfl,?_⟩
 refine ite2 (fun c=> ?_) (fun c=> ?_)
 ·refine⟨_,rfl,x,_,_,rfl,hx.kind,.inr (.inl rfl),_,rfl,?_⟩
  cases d<;>first |exact q|(simp[isiB,kindD]at c;done)
 ·cases d<;>first |exact q|(exfalso;exact c rfl)
noncomputable def spPlace(K:W.Frag):Sp:=fun vs H Q _=>∃(n:Int) (x:V) (d:PyData),vs=[.int n,x]/\DX K H x d/\Q (.bl (placeD n d)) H
theorem sc_place:FnScope ["n","thing"] ["n","thing"] (defScope zcs):=⟨rfl,rfl,rfl,by decide+kernel,rfl,by decide+kernel,by decide+kernel⟩
theorem ok_place{f g:Addr}{fd gd:FuncData}(F:Fun K "is_place" "is_place" zcs f fd)(D:Dfn K mg "is_whole" zco ["thing"] g gd)(G:FnOk P w K mg base CX0 1 g gd ["thing"] (spWhole K)):FnOk P w K mg base CX0 2 f fd ["n","thing"] (spPlace K):=by
 refine F.ok sc_place (fun vs H Q E h=> ?_) (fun cdv A outer s H vs Q E hr h=> ?_)
 ·obtain⟨n,x,d,rfl,_⟩:=h
  rfl
 obtain⟨n,x,d,rfl,hx,q⟩:=h
 refine⟨_,zag (zak (pe_and (zah G hr rfl D.m D.F.kp D.b .nil pass0 (zaa (pv 1) zab)) (pe_one (pe_chain op_le op_lt zaf (pv 1) (pv 0))))),?_⟩
 refine⟨_,rfl,x,d,rfl,hx,_,rfl,?_⟩
 refine ite2 (fun c=> ?_) (fun c=> ?_)
 ·cases hx with
  |int i=>
   refine⟨_,rfl,_,_,rfl,rfl,_,rfl,?_⟩
   refine ite2 (fun c2=> ?_) (fun c2=> ?_)
   ·refine⟨_,rfl,_,_,rfl,rfl,?_⟩
    have e:placeD n (.int i)=decide (i<n):=by show(decide (0<=i)&&decide (i<n))=_;rw[c2];rfl
    rw[e]at q;exact q
   ·have e:placeD n (.int i)=false:=by show(decide (0<=i)&&decide (i<n))=_;rw[Bool.eq_false_iff.mpr c2];rfl
    rw[e]at q;exact q
  |_=>simp[wholeD]at c
 ·have e:placeD n d=false:=by
   cases d<;>first |rfl|(exfalso;exact c rfl)
  rw[e]at q;exact q
noncomputable def spPlaces(K:W.Frag):Sp:=fun vs H Q _=>∃(n:Int) (a:Addr) (xs:List V) (ds:List PyData),vs=[.int n,.ref a]/\SqT K H a xs/\DXs K H xs ds/\∀H',Same H H'->Q (.bl (ds.all (placeD n))) H'
theorem sc_places:FnScope ["n","things"] ["n","things"] (defScope zce):=⟨rfl,rfl,rfl,by decide+kernel,rfl,by decide+kernel,by decide+kernel⟩
theorem all_take{α:Type}(ds:List α)(p:α->Bool):(ds.map p).all id=ds.all p:=by rw[List.all_map];rfl
theorem ok_places{f g:Addr}{fd gd:FuncData}(F:Fun K "are_places" "are_places" zce f fd)(D:Dfn K mg "is_place" zcs ["n","thing"] g gd)(G:FnOk P w K mg base CX0 2 g gd ["n","thing"] (spPlace K))(mA:mg "all"=none):FnOk P w K mg base CX0 3 f fd ["n","things"] (spPlaces K):=by
 refine F.ok sc_places (fun vs H Q E h=> ?_) (fun cdv A outer s H vs Q E hr h=> ?_)
 ·obtain⟨n,a,xs,ds,rfl,_⟩:=h
  rfl
 obtain⟨n,a,xs,ds,rfl,hS,hd,q⟩:=h
 refine⟨_,zag (zak (zai (call_all rfl) rfl mA (by decide+kernel) (zaa (zck (own:=["thing"]) (caps:=["n"]) (ix:=[0]) rfl (pi_tupL (pv 1)) rfl rfl (.cons rfl rfl .nil) (fun _ _ _ _ _=>zaj (i:=0) (show(["thing","n"]:List Str).Nodup from by decide+kernel) rfl (Or.inl rfl)) (fun _ _ _ _ _=>zcx) (fun _ _ _ _ _=>zah G hr rfl D.m D.F.kp D.b .nil pass0 (zaa (pv 1) (zaa (pv 0) zab)))) zab))),?_⟩
 refine⟨_,rfl,a,xs,rfl,hS,fun hz=> ?_⟩
 have hl:=hd.len
 refine comp_tup (xs:=xs) (fun i acc σ H'=>acc=((ds.take i).map (placeD n)).map V.bl/\Same H H'/\∃o,σ=[o,some (.int n)]) ⟨rfl,Same.refl _,_,rfl⟩ (fun i acc σ H' _ p=>p.2.1.tup hS) (fun i acc σ H' hi p=> ?_) hz (fun i x acc σ H' hx p=> ?_) (fun acc σ H' p=> ?_)
 ·rw[p.1];simp;omega
 ·obtain⟨rfl,sm,o,rfl⟩:=p
  obtain⟨d,e1,e2⟩:=hd.get hx
  refine⟨_,rfl,_,rfl,n,x,d,rfl,DX.same sm e2,?_,sm,_,rfl⟩
  rw[List.take_add_one,e1]
  simp
 ·intro p1 hp1
  obtain⟨rfl,sm,_⟩:=p
  refine⟨p1,(ds.map (placeD n)),rfl,SqL.of (by rw[zac,hl,List.take_length]),?_⟩
  rw[all_take]
  exact q _ (sm.trans (zad hp1 _))
end
end Hs
namespace Hs
open PySem L2 HsD
section
variable{P:Program}{w:World}{K:W.Frag}{mg:Str->Option Value}{base:Heap}
noncomputable def RisV(K:W.Frag)(H:Hp)(x y:V)(b:Bool):Prop:=(∃i j,x= .int i/\y= .int j/\b=decide (i<j))\/(∃p q ns ms,x= .ref p/\y= .ref q/\SqT K H p (ns.map V.int)/\SqT K H q (ms.map V.int)/\b=HT.lexLt ns ms)
noncomputable def spRising(K:W.Frag):Sp:=fun vs H Q _=>∃(a:Addr) (xs:List V) (bs:Nat->Bool),vs=[.ref a]/\SqT K H a xs/\(∀k,k+1<xs.length->∃x y,xs[k]? =some x/\xs[k+1]? =some y/\RisV K H x y (bs k))/\
 ∀H',Same H H'->Q (.bl ((List.range (xs.length-1)).all bs)) H'
theorem sc_rising:FnScope ["things"] ["things"] (defScope zcf):=⟨rfl,rfl,rfl,by decide+kernel,rfl,by decide+kernel,by decide+kernel⟩
theorem ok_rising{f:Addr}{fd:FuncData}(F:Fun K "is_rising" "is_rising" zcf f fd)(mA:mg "all"=none)(mR:mg "range"=none)(mL:mg "len"=none):FnOk P w K mg base CX0 1 f fd ["things"] (spRising K):=by
 refine F.ok sc_rising (fun vs H Q E h=> ?_) (fun cdv A outer s H vs Q E hr h=> ?_)
 ·obtain⟨a,xs,bs,rfl,_⟩:=h
  rfl
 obtain⟨a,xs,bs,rfl,hS,hb,q⟩:=h
 refine⟨_,zag (zak (zai (call_all rfl) rfl mA (by decide+kernel) (zaa (zck (own:=["k"]) (caps:=["things"]) (ix:=[0]) rfl
  (pi_range2 rfl mR (zaa zaf (zaa (zai zas rfl mL PySem.boot_len (zaa (pv 0) zab)) zab))) rfl rfl (.cons rfl rfl .nil) (fun _ _ _ _ _=>zaj (i:=0) (show(["k","things"]:List Str).Nodup from by decide+kernel) rfl (Or.inl rfl)) (fun _ _ _ _ _=>zcx) (fun _ _ _ _ _=>pe_cmpR (op_lt.or (op_ltTK K hr.units0)) (zat (ix_tupK K) (pv 1) (zan op_sub (pv 0) zaf) (fun _ _=>rfl)) (zat (ix_tupK K) (pv 1) (pv 0) (fun _ _=>rfl)) (nomark _))) zab))),?_⟩
 refine⟨_,rfl,a,xs,rfl,.inr hS,fun hz=>⟨1,_,rfl,⟨by omega,by omega,by omega,by omega⟩,?_⟩⟩
 have en:((xs.length:Int)-1).toNat=xs.length-1:=by omega
 rw[en]
 refine zch (fun i acc σ H'=>acc=((List.range i).map bs).map V.bl/\Same H H'/\∃o,σ=[o,some (.ref a)]) ⟨rfl,Same.refl _,_,rfl⟩ (fun i acc σ H' hi p=>by rw[p.1];simp) (by rw[sizeLine_eq];omega) (fun i acc σ H' hi p=> ?_) (fun acc σ H' p=> ?_)
 ·obtain⟨rfl,sm,o,rfl⟩:=p
  obtain⟨x,y,hx,hy,hxy⟩:=hb i (by omega)
  have e1:(1+(i:Int))-1=((i:Nat):Int):=by omega
  have e2:(1+(i:Int))=((i+1:Nat):Int):=by omega
  have a1:atI xs (1+(i:Int)-1)=some x:=by rw[e1];exact atI_nat hx
  have a2:atI xs (1+(i:Int))=some y:=by rw[e2];exact atI_nat hy
  refine⟨_,rfl,_,rfl,_,_,rfl,rfl,a,xs,_,x,rfl,rfl,sm.tup hS,a1,_,rfl,_,rfl,a,xs,_,y,rfl,rfl,sm.tup hS,a2,?_⟩
  have ea:((List.range i).map bs).map V.bl++[V.bl (bs i)]=((List.range (i+1)).map bs).map V.bl:=by rw[List.range_succ];simp
  rcases hxy with⟨u,v,rfl,rfl,e⟩|⟨p,p',ns,ms,rfl,rfl,h1,h2,e⟩
  ·refine .inl ⟨u,v,rfl,rfl,?_,sm,_,rfl⟩
   show _++[V.bl (decide (u<v))]=_
   rw[<-e];exact ea
  ·refine .inr ⟨p,p',ns,ms,rfl,rfl,sm.tup h1,sm.tup h2,?_,sm,_,rfl⟩
   show _++[V.bl (HT.lexLt ns ms)]=_
   rw[<-e];exact ea
 ·intro p1 hp1
  obtain⟨rfl,sm,_⟩:=p
  refine⟨p1,(List.range (xs.length-1)).map bs,rfl,SqL.of zac,?_⟩
  rw[all_take]
  exact q _ (sm.trans (zad hp1 _))
theorem ints_of{H:Hp}{n:Int}{xs:List V}{ds:List PyData}(h:DXs K H xs ds)(hp:ds.all (placeD n)=true):xs=(ds.map intD).map V.int:=by
 induction ds generalizing xs with
 |nil=>cases h;rfl
 |cons d ds ih=>
  rw[List.all_cons,Bool.and_eq_true]at hp
  cases h with
  |cons h t=>
   obtain⟨i,rfl,_⟩:=placeD_int hp.1
   cases h
   rw[List.map_cons,List.map_cons,<-ih t hp.2]
   rfl
theorem rises_int{H:Hp}(ns:List Int):∀k,k+1<(ns.map V.int).length->∃x y,(ns.map V.int)[k]? =some x/\(ns.map V.int)[k+1]? =some y/\RisV K H x y (decide (ns.getD k 0<ns.getD (k+1) 0)):=fun k hk=>by
 rw[List.length_map]at hk
 have h1:k<ns.length:=by omega
 refine⟨.int (ns.getD k 0),.int (ns.getD (k+1) 0),by simp[h1],by simp[hk],.inl ⟨_,_,rfl,rfl,rfl⟩⟩
noncomputable def spSet(K:W.Frag):Sp:=fun vs H Q _=>∃(n:Int) (x:V) (d:PyData),vs=[.int n,x]/\DX K H x d/\∀H',Same H H'->Q (.bl (setD n d)) H'
theorem sc_set:FnScope ["n","thing"] ["n","thing"] (defScope s_is_set):=⟨rfl,rfl,rfl,by decide+kernel,rfl,by decide+kernel,by decide+kernel⟩
theorem ok_set{f f1 f2:Addr}{fd d1 d2:FuncData}(F:Fun K "is_set" "is_set" s_is_set f fd)(D1:Dfn K mg "are_places" zce ["n","things"] f1 d1)(G1:FnOk P w K mg base CX0 3 f1 d1 ["n","things"] (spPlaces K))(D2:Dfn K mg "is_rising" zcf ["things"] f2 d2)(G2:FnOk P w K mg base CX0 1 f2 d2 ["things"] (spRising K))(mi:mg "isinstance"=none)(mT:mg "tuple"=none):FnOk P w K mg base CX0 4 f fd ["n","thing"] (spSet K):=by
 refine F.ok sc_set (fun vs H Q E h=> ?_) (fun cdv A outer s H vs Q E hr h=> ?_)
 ·obtain⟨n,x,d,rfl,_⟩:=h
  rfl
 obtain⟨n,x,d,rfl,hx,q⟩:=h
 refine⟨_,zag (zak (pe_and (zai call_isi rfl mi (by decide+kernel) (zaa (pv 1) (zaa (pe_bltn rfl mT (v:= .ty "tuple") (by decide+kernel) rfl) zab)))
  (pe_and (zah G1 hr rfl D1.m D1.F.kp D1.b .nil pass0 (zaa (pv 0) (zaa (pv 1) zab))) (pe_one (zah (G2.mono (by decide)) hr rfl D2.m D2.F.kp D2.b .nil pass0 (zaa (pv 1) zab)))))),?_⟩
 refine⟨_,rfl,x,_,_,rfl,hx.kind,.inr (.inr (.inl rfl)),_,rfl,?_⟩
 refine ite2 (fun c=> ?_) (fun c=> ?_)
 ·cases hx with
  | @tup a xs ds h t=>
   refine⟨_,rfl,_,rfl,n,a,xs,ds,rfl,h,t,fun H1 sm=>⟨_,rfl,?_⟩⟩
   refine ite2 (fun c2=> ?_) (fun c2=> ?_)
   ·have ex:=ints_of t c2
    refine⟨_,rfl,a,xs,fun k=>decide ((ds.map intD).getD k 0<(ds.map intD).getD (k+1) 0),rfl,sm.tup h,?_,fun H2 sm2=> ?_⟩
    ·rw[ex];exact rises_int _
    ·have e:setD n (.tuple ds)=(List.range (xs.length-1)).all fun k=>decide ((ds.map intD).getD k 0<(ds.map intD).getD (k+1) 0):=by
      show(ds.all (placeD n)&&risesI (ds.map intD))=_
      rw[c2,t.len]
      show risesI (ds.map intD)=_
      unfold risesI
      rw[List.length_map]
     have:=q H2 (sm.trans sm2)
     rw[e]at this;exact this
   ·have e:setD n (.tuple ds)=false:=by
     show(ds.all (placeD n)&&risesI (ds.map intD))=_
     rw[Bool.eq_false_iff.mpr c2];rfl
    have:=q H1 sm
    rw[e]at this;exact this
  |_=>simp[isiB,kindD]at c
 ·have e:setD n d=false:=by
   cases d<;>first |rfl|(exfalso;exact c rfl)
  have:=q H (Same.refl _)
  rw[e]at this;exact this
noncomputable def spTies(K:W.Frag):Sp:=fun vs H Q _=>∃(n:Int) (x:V) (d:PyData),vs=[.int n,x]/\DX K H x d/\∀H',Same H H'->Q (.bl (tiesD n d)) H'
theorem sc_ties:FnScope ["n","thing"] ["n","thing"] (defScope zct):=⟨rfl,rfl,rfl,by decide+kernel,rfl,by decide+kernel,by decide+kernel⟩
theorem tie_tup{H:Hp}{n:Int}{x:V}{d:PyData}(h:DX K H x d)(ht:tieD n d=true):∃p,x= .ref p/\SqT K H p (((kids d).map intD).map V.int):=by
 cases h with
 | @tup a xs ds h t=>
  have q:(ds.all (placeD n)&&risesI (ds.map intD)&&decide (ds.length=2))=true:=ht
  rw[Bool.and_eq_true,Bool.and_eq_true]at q
  exact⟨a,rfl,by rw[ints_of t q.1.1]at h;exact h⟩
 |_=>simp[tieD,setD]at ht
theorem rises_tup{H:Hp}{n:Int}{xs:List V}{ds:List PyData}(t:DXs K H xs ds)(ha:ds.all (tieD n)=true):∀k,k+1<xs.length->∃x y,xs[k]? =some x/\xs[k+1]? =some y/\
  RisV K H x y (HT.lexLt ((ds.map fun t=>(kids t).map intD).getD k []) ((ds.map fun t=>(kids t).map intD).getD (k+1) [])):=fun k hk=>by
 have hl:=t.len
 have h1:k<xs.length:=by omega
 obtain⟨d1,e1,x1⟩:=t.get (i:=k) (x:=xs[k]) (by simp[h1])
 obtain⟨d2,e2,x2⟩:=t.get (i:=k+1) (x:=xs[k+1]) (by simp[hk])
 have m1:=List.all_eq_true.mp ha d1 (List.mem_of_getElem? e1)
 have m2:=List.all_eq_true.mp ha d2 (List.mem_of_getElem? e2)
 obtain⟨p1,q1,s1⟩:=tie_tup x1 m1
 obtain⟨p2,q2,s2⟩:=tie_tup x2 m2
 refine⟨xs[k],xs[k+1],by simp[h1],by simp[hk],.inr ⟨p1,p2,_,_,q1,q2,s1,s2,?_⟩⟩
 have g1:(ds.map fun t=>(kids t).map intD).getD k []=(kids d1).map intD:=by rw[List.getD_eq_getElem?_getD,List.getElem?_map,e1];rfl
 have g2:(ds.map fun t=>(kids t).map intD).getD (k+1) []=(kids d2).map intD:=by rw[List.getD_eq_getElem?_getD,List.getElem?_map,e2];rfl
 rw[g1,g2]
theorem ok_ties{f f1 f2:Addr}{fd d1 d2:FuncData}(F:Fun K "are_ties" "are_ties" zct f fd)(D1:Dfn K mg "is_set" s_is_set ["n","thing"] f1 d1)(G1:FnOk P w K mg base CX0 4 f1 d1 ["n","thing"] (spSet K))(D2:Dfn K mg "is_rising" zcf ["things"] f2 d2)(G2:FnOk P w K mg base CX0 1 f2 d2 ["things"] (spRising K))(mi:mg "isinstance"=none)(mT:mg "tuple"=none)(mA:mg "all"=none)(mL:mg "len"=none):FnOk P w K mg base CX0 5 f fd ["n","thing"] (spTies K):=by
 refine F.ok sc_ties (fun vs H Q E h=> ?_) (fun cdv A outer s H vs Q E hr h=> ?_)
 ·obtain⟨n,x,d,rfl,_⟩:=h
  rfl
 obtain⟨n,x,d,rfl,hx,q⟩:=h
 refine⟨_,zae (zcv (pt_not (zdg (zai call_isi rfl mi (by decide+kernel) (zaa (pv 1) (zaa (pe_bltn rfl mT (v:= .ty "tuple") (by decide+kernel) rfl) zab))))) (zag (zak pe_bl)) zbg) (zag (zak (pe_and (zai (call_all rfl) rfl mA (by decide+kernel) (zaa (zck (own:=["tie"]) (caps:=["n"]) (ix:=[0]) rfl (pi_tupL (pv 1)) rfl rfl (.cons rfl rfl .nil) (fun _ _ _ _ _=>zaj (i:=0) (show(["tie","n"]:List Str).Nodup from by decide+kernel) rfl (Or.inl rfl)) (fun _ _ _ _ _=>zcx) (fun _ _ _ _ _=>pe_and (zah G1 hr rfl D1.m D1.F.kp D1.b .nil pass0 (zaa (pv 1) (zaa (pv 0) zab))) (pe_one (pe_cmpR op_eq (zai (call_lenK K) rfl mL PySem.boot_len (zaa (pv 0) zab)) zaf (nomark _))))) zab))
  (pe_one (zah (G2.mono (by decide)) hr rfl D2.m D2.F.kp D2.b .nil pass0 (zaa (pv 1) zab)))))),?_⟩
 refine⟨_,rfl,x,_,_,rfl,hx.kind,.inr (.inr (.inl rfl)),_,rfl,?_⟩
 refine ite2 (fun c=> ?_) (fun c=> ?_)
 ·have e:tiesD n d=false:=by
   cases d<;>first |rfl|(exfalso;simp[isiB,kindD]at c;done)
  have:=q H (Same.refl _)
  rw[e]at this;exact this
 ·cases hx with
  | @tup a xs ds h t=>
   refine⟨_,rfl,a,xs,rfl,h,fun hz=> ?_⟩
   have hl:=t.len
   refine comp_tup (xs:=xs) (fun i acc σ H'=>acc=((ds.take i).map (tieD n)).map V.bl/\Same H H'/\∃o,σ=[o,some (.int n)]) ⟨rfl,Same.refl _,_,rfl⟩ (fun i acc σ H' _ p=>p.2.1.tup h) (fun i acc σ H' hi p=> ?_) hz (fun i x acc σ H' hx p=> ?_) (fun acc σ H' p=> ?_)
   ·rw[p.1];simp;omega
   ·obtain⟨rfl,sm,o,rfl⟩:=p
    obtain⟨d,e1,e2⟩:=t.get hx
    refine⟨_,rfl,_,rfl,n,x,d,rfl,DX.same sm e2,fun H1 sm1=>⟨_,rfl,?_⟩⟩
    have ea:∀b,b=tieD n d->((ds.take i).map (tieD n)).map V.bl++[V.bl b]=((ds.take (i+1)).map (tieD n)).map V.bl:=fun b hb=>by
     rw[List.take_add_one,e1,hb];simp
    refine ite2 (fun c2=> ?_) (fun c2=> ?_)
    ·cases e2 with
     | @tup a2 xs2 ds2 h2 t2=>
      refine⟨_,rfl,a2,xs2,rfl,.inr (sm1.tup (sm.tup h2)),fun hz2=>⟨rfl,ea _ ?_,sm.trans sm1,_,rfl⟩⟩
      show decide (V.int (xs2.length:Int)=V.int 2)=(setD n (.tuple ds2)&&decide (ds2.length=2))
      rw[c2,t2.len]
      by_cases e3:ds2.length=2
      ·rw[e3];rfl
      ·rw[decide_eq_false e3,decide_eq_false (by intro z;injection z with z;exact e3 (by omega))];rfl
     |_=>simp[setD]at c2
    ·refine⟨ea _ ?_,sm.trans sm1,_,rfl⟩
     show false=(setD n d&&decide ((kids d).length=2))
     rw[Bool.eq_false_iff.mpr c2];rfl
   ·intro p1 hp1
    obtain⟨rfl,sm,_⟩:=p
    have sm':Same H (upd H' p1 (.lst (((ds.take xs.length).map (tieD n)).map V.bl))):=sm.trans (zad hp1 _)
    refine⟨p1,(ds.map (tieD n)),rfl,SqL.of (by rw[zac,hl,List.take_length]),_,rfl,?_⟩
    rw[all_take]
    refine ite2 (fun c2=> ?_) (fun c2=> ?_)
    ·refine⟨_,rfl,a,xs,fun k=>HT.lexLt ((ds.map fun t=>(kids t).map intD).getD k []) ((ds.map fun t=>(kids t).map intD).getD (k+1) []),rfl,sm'.tup h,?_,fun H2 sm2=> ?_⟩
     ·exact rises_tup (DXs.same sm' t) c2
     ·have e:tiesD n (.tuple ds)=(List.range (xs.length-1)).all fun k=>HT.lexLt ((ds.map fun t=>(kids t).map intD).getD k []) ((ds.map fun t=>(kids t).map intD).getD (k+1) []):=by
       show(ds.all (tieD n)&&risesT (ds.map fun t=>(kids t).map intD))=_
       rw[c2,hl]
       show risesT (ds.map fun t=>(kids t).map intD)=_
       unfold risesT
       rw[List.length_map]
      have:=q H2 (sm'.trans sm2)
      rw[e]at this;exact this
    ·have e:tiesD n (.tuple ds)=false:=by
      show(ds.all (tieD n)&&risesT (ds.map fun t=>(kids t).map intD))=_
      rw[Bool.eq_false_iff.mpr c2];rfl
     have:=q _ sm'
     rw[e]at this;exact this
  |_=>exfalso;exact c rfl
end
end Hs
namespace HsD
open PySem L2
noncomputable def pairD(p:Int×Int):PyData:= .tuple [.int p.1,.int p.2]
noncomputable def webDat(n:Int)(ts:List (Int×Int)):PyData:= .tuple [.int n,.tuple (ts.map pairD)]
noncomputable def WebV(K:W.Frag)(H:Hp)(a:Addr)(n:Int)(ts:List (Int×Int)):Prop:=∃t rs,SqT K H a [.int n,.ref t]/\SqT K H t rs/\DVs K H rs (ts.map pairD)
theorem WebV.dv{K:W.Frag}{H:Hp}{a:Addr}{n:Int}{ts:List (Int×Int)}(h:WebV K H a n ts):DV K H (.ref a) (webDat n ts):=by
 obtain⟨t,rs,h1,h2,h3⟩:=h
 exact .tup h1 (.cons (.int n) (.cons (.tup h2 h3) .nil))
theorem WebV.same{K:W.Frag}{H H':Hp}{a:Addr}{n:Int}{ts:List (Int×Int)}(h:WebV K H a n ts)(e:Same H H'):WebV K H' a n ts:=by
 obtain⟨t,rs,h1,h2,h3⟩:=h
 exact⟨t,rs,e.tup h1,e.tup h2,DVs.same e h3⟩
noncomputable def hasTie(ts:List (Int×Int))(i j:Int):Bool:=decide ((if j<i then j else i,if j>i then j else i)∈ts)
theorem eqv_pair(p q:Int×Int):PyData.eqv (pairD p) (pairD q)=decide (p=q):=by
 obtain⟨a,b⟩:=p
 obtain⟨c,d⟩:=q
 show((a==c)&&((b==d)&&true))=_
 rw[Bool.eq_iff_iff]
 simp
theorem lay_pairs:∀ts:List (Int×Int),PyData.canLayAll0 (ts.map pairD)=true
 |[]=>rfl
 |p::ts=>by
  show(PyData.canLay0 (pairD p)&&PyData.canLayAll0 (ts.map pairD))=true
  rw[lay_pairs ts];rfl
theorem any_pair(ts:List (Int×Int))(q:Int×Int):((ts.map pairD).any fun d=>PyData.eqv d (pairD q))=decide (q∈ts):=by
 rw[List.any_map,Bool.eq_iff_iff,List.any_eq_true]
 constructor
 ·rintro⟨p,hp,h⟩
  have h':PyData.eqv (pairD p) (pairD q)=true:=h
  rw[eqv_pair]at h'
  have e:p=q:=of_decide_eq_true h'
  subst e
  exact decide_eq_true hp
 ·intro h
  refine⟨q,of_decide_eq_true h,?_⟩
  show PyData.eqv (pairD q) (pairD q)=true
  rw[eqv_pair]
  exact decide_eq_true rfl
end HsD
namespace Hs
open PySem L2 HsD
section
variable{P:Program}{w:World}{K:W.Frag}{mg:Str->Option Value}{base:Heap}
noncomputable def spWeb(K:W.Frag):Sp:=fun vs H Q _=>∃(x:V) (d:PyData),vs=[x]/\DX K H x d/\∀H',Same H H'->Q (.bl (webD d)) H'
theorem sc_web:FnScope ["thing","n"] ["thing"] (defScope s_is_web):=⟨rfl,rfl,rfl,by decide+kernel,rfl,by decide+kernel,by decide+kernel⟩
theorem ok_web{f f1 f2:Addr}{fd d1 d2:FuncData}{tk:Tok}(F:Fun K "is_web" "is_web" s_is_web f fd)(D1:Dfn K mg "is_whole" zco ["thing"] f1 d1)(G1:FnOk P w K mg base CX0 1 f1 d1 ["thing"] (spWhole K))(D2:Dfn K mg "are_ties" zct ["n","thing"] f2 d2)(G2:FnOk P w K mg base CX0 5 f2 d2 ["n","thing"] (spTies K))(mi:mg "isinstance"=none)(mT:mg "tuple"=none)(mL:mg "len"=none)(mM:mg "MOST_PLACES"=some (.int 10 tk)):FnOk P w K mg base CX0 6 f fd ["thing"] (spWeb K):=by
 refine F.ok sc_web (fun vs H Q E h=> ?_) (fun cdv A outer s H vs Q E hr h=> ?_)
 ·obtain⟨x,d,rfl,_⟩:=h
  rfl
 obtain⟨x,d,rfl,hx,q⟩:=h
 refine⟨_,zae (zcv (PW.pt (pw_or (pt_not (zdg (zai call_isi rfl mi (by decide+kernel) (zaa (pv 0) (zaa (pe_bltn rfl mT (v:= .ty "tuple") (by decide+kernel) rfl) zab)))))
   (pw_or1 (zaq op_ne (zai zas rfl mL PySem.boot_len (zaa (pv 0) zab)) zaf (nomark _))))) (zag (zak pe_bl)) zbg) (zae (zaw (i:=1) sc_web.nd rfl (Or.inl rfl) (zat zar (pv 0) zaf (fun _ _=>rfl))) (zag (zak (pe_and (zah (G1.mono (by decide)) hr rfl D1.m D1.F.kp D1.b .nil pass0 (zaa (pv 1) zab)) (pe_and (pe_chain op_le op_le zaf (pv 1) (pe_glob rfl mM (v:= .int 10) ⟨_,rfl⟩))
   (pe_one (zah G2 hr rfl D2.m D2.F.kp D2.b .nil pass0 (zaa (pv 1) (zaa (zat zar (pv 0) zaf (fun _ _=>rfl)) zab))))))))),?_⟩
 refine⟨_,rfl,x,_,_,rfl,hx.kind,.inr (.inr (.inl rfl)),_,rfl,?_⟩
 refine ite2 (fun c=> ?_) (fun c=> ?_)
 ·have e:webD d=false:=by
   cases d<;>first |rfl|(exfalso;simp[isiB,kindD]at c;done)
  have:=q H (Same.refl _)
  rw[e]at this;exact this
 ·cases hx with
  | @tup a xs ds h t=>
   have hl:=t.len
   refine⟨_,rfl,a,xs,rfl,.inr h,fun hz=>⟨rfl,_,rfl,?_⟩⟩
   refine ite2 (fun c2=> ?_) (fun c2=> ?_)
   ·have e:webD (.tuple ds)=false:=by
     match ds,hl with
     |[],_=>rfl
     |[_],_=>rfl
     |[_,_],hl=>
      exfalso
      have e2:(!decide (V.int (xs.length:Int)=V.int 2))=true:=c2
      rw[hl]at e2
      simp at e2
     |_::_::_::_,_=>rfl
    have:=q H (Same.refl _)
    rw[e]at this;exact this
   ·have e2:xs.length=2:=by
     have e2:¬(!decide (V.int (xs.length:Int)=V.int 2))=true:=c2
     simp at e2
     omega
    cases t with
    |nil=>simp at e2
    |cons h0 t0=>
     cases t0 with
     |nil=>simp at e2
     | @cons x1 dd1 xs1 ds1 h1 t1=>
      cases t1 with
      |cons _ _=>simp at e2
      |nil=>
       rename_i x0 dd0
       refine⟨_,rfl,a,_,_,x0,rfl,rfl,h,by rfl,?_⟩
       refine⟨_,rfl,x0,dd0,rfl,h0,_,rfl,?_⟩
       refine ite2 (fun c3=> ?_) (fun c3=> ?_)
       ·cases h0 with
        |int n=>
         refine⟨_,rfl,_,_,rfl,rfl,_,rfl,?_⟩
         have fin:∀b,b=webD (.tuple [.int n,dd1])->∀H',Same H H'->Q (.bl b) H':=fun b hb H' sm=>by rw[hb];exact q H' sm
         have wd:webD (.tuple [.int n,dd1])=((decide (0<=n)&&decide (n<=10))&&tiesD n dd1):=rfl
         refine ite2 (fun c4=> ?_) (fun c4=> ?_)
         ·refine⟨_,_,rfl,rfl,_,rfl,?_⟩
          refine ite2 (fun c5=> ?_) (fun c5=> ?_)
          ·refine⟨_,rfl,_,rfl,a,_,_,x1,rfl,rfl,h,by rfl,n,x1,dd1,rfl,h1,fun H' sm=>fin _ ?_ H' sm⟩
           rw[wd,c4,c5];rfl
          ·refine fin _ ?_ H (Same.refl _)
           rw[wd,Bool.eq_false_iff.mpr c5,Bool.and_false];rfl
         ·refine⟨_,rfl,?_⟩
          refine iteF (fin _ ?_ H (Same.refl _))
          rw[wd,Bool.eq_false_iff.mpr c4];rfl
        |_=>simp[wholeD]at c3
       ·have e:webD (.tuple [dd0,dd1])=false:=by
         show(wholeD dd0&&(decide (0<=intD dd0)&&decide (intD dd0<=10))&&tiesD (intD dd0) dd1)=false
         rw[Bool.eq_false_iff.mpr c3];rfl
        have:=q H (Same.refl _)
        rw[e]at this;exact this
  |_=>exfalso;exact c rfl
end
end Hs
namespace Hs
open PySem L2 HsD
section
variable{P:Program}{w:World}{K:W.Frag}{mg:Str->Option Value}{base:Heap}
noncomputable def spNeedWeb(K:W.Frag):Sp:=fun vs H Q _=>∃(x:V) (d:PyData),vs=[x]/\DX K H x d/\webD d=true/\∀H',Same H H'->Q .non H'
theorem sc_needWeb:FnScope ["thing"] ["thing"] (defScope zcn):=⟨rfl,rfl,rfl,by decide+kernel,rfl,by decide+kernel,by decide+kernel⟩
theorem ok_needWeb{f f1:Addr}{fd d1:FuncData}(F:Fun K "need_web" "need_web" zcn f fd)(D1:Dfn K mg "is_web" s_is_web ["thing"] f1 d1)(G1:FnOk P w K mg base CX0 6 f1 d1 ["thing"] (spWeb K)):FnOk P w K mg base CX0 7 f fd ["thing"] (spNeedWeb K):=by
 refine F.ok sc_needWeb (fun vs H Q E h=> ?_) (fun cdv A outer s H vs Q E hr h=> ?_)
 ·obtain⟨x,d,rfl,_⟩:=h
  rfl
 obtain⟨x,d,rfl,hx,hw,q⟩:=h
 refine⟨_,zag (zcv (pt_not (zdg (zah G1 hr rfl D1.m D1.F.kp D1.b .nil pass0 (zaa (pv 0) zab)))) pss_never zbg),?_⟩
 refine⟨_,rfl,x,d,rfl,hx,fun H' sm=>⟨_,rfl,?_⟩⟩
 rw[hw]
 exact iteF (q H' sm)
noncomputable def spHas(K:W.Frag):Sp:=fun vs H Q _=>∃(a:Addr) (n i j:Int) (ts:List (Int×Int)),vs=[.ref a,.int i,.int j]/\WebV K H a n ts/\∀H',Same H H'->Q (.bl (hasTie ts i j)) H'
theorem sc_has:FnScope ["web","one","other"] ["web","one","other"] (defScope zcu):=⟨rfl,rfl,rfl,by decide+kernel,rfl,by decide+kernel,by decide+kernel⟩
theorem ok_has{f:Addr}{fd:FuncData}(F:Fun K "has_tie" "has_tie" zcu f fd)(mi:mg "min"=none)(ma:mg "max"=none):FnOk P w K mg base CX0 1 f fd ["web","one","other"] (spHas K):=by
 refine F.ok sc_has (fun vs H Q E h=> ?_) (fun cdv A outer s H vs Q E hr h=> ?_)
 ·obtain⟨a,n,i,j,ts,rfl,_⟩:=h
  rfl
 obtain⟨a,n,i,j,ts,rfl,hW,q⟩:=h
 refine⟨_,zag (zak (pe_cmpR (op_inD hr.units) (zbk (zaa (zai (call_min2 rfl) rfl mi (by decide+kernel) (zaa (pv 1) (zaa (pv 2) zab))) (zaa (zai (call_max2 rfl) rfl ma (by decide+kernel) (zaa (pv 1) (zaa (pv 2) zab))) zab)))
  (zat zar (pv 0) zaf (fun _ _=>rfl)) (by with_unfolding_all rfl))),?_⟩
 refine⟨_,rfl,_,rfl,_,_,rfl,_,rfl,_,rfl,_,_,rfl,(by show 2<=sizeLine;decide),fun p hp=> ?_⟩
 have sm:=zad hp (.tup [.int (if j<i then j else i),.int (if j>i then j else i)])
 obtain⟨t,rs,h1,h2,h3⟩:=hW.same sm
 refine⟨_,rfl,a,_,_,.ref t,rfl,rfl,h1,rfl,t,rs,_,pairD (if j<i then j else i,if j>i then j else i),rfl,.inr h2,h3,.tup (SqT.of zac) (.cons (.int _) (.cons (.int _) .nil)),lay_pairs ts,rfl,(by show max 0 (max 0 0)+1<=60;decide),?_⟩
 rw[any_pair]
 exact q _ sm
end
noncomputable def WebOk(n:Int)(ts:List (Int×Int)):Prop:=webD (webDat n ts)=true
end Hs
namespace L2
open PySem
noncomputable def SameX(t:Addr)(H H':Hp):Prop:=∀b o,b≠t->H b=some o->H' b=some o
theorem SameX.refl(t:Addr)(H:Hp):SameX t H H:=fun _ _ _ h=>h
theorem SameX.trans{t:Addr}{H H1 H2:Hp}(a:SameX t H H1)(b:SameX t H1 H2):SameX t H H2:=fun c o n h=>b c o n (a c o n h)
theorem Same.x{H H':Hp}(h:Same H H')(t:Addr):SameX t H H':=fun b o _ e=>h b o e
theorem SameX.upd{t:Addr}{H H':Hp}{o:HO}(h:SameX t H H'):SameX t H (upd H' t o):=fun b u n e=>by rw[zbz n];exact h b u n e
noncomputable def ScrV(K:W.Frag)(H:Hp)(scr:Addr)(ns:List Int):Prop:=(∃o,H scr=some (.frz o (.lst (ns.map V.int))))\/
 ∃(o:Obj) (its:Array Value) (n:Nat),K.lookup scr=some o/\o.cls= .type "list"/\o.dict=none/\o.data= .seq its n/\its.size<=sizeLine/\Vals (ns.map V.int) its.toList
theorem ScrV.sq{K:W.Frag}{H:Hp}{scr:Addr}{ns:List Int}(h:ScrV K H scr ns):SqL K H scr (ns.map V.int):=by
 rcases h with⟨o,h⟩|h
 ·exact .inl (.inr ⟨o,h⟩)
 ·exact .inr h
theorem ScrV.samex{K:W.Frag}{H H':Hp}{scr t:Addr}{ns:List Int}{zs:List V}(h:ScrV K H scr ns)(e:SameX t H H')(n:H t=some (.lst zs)):ScrV K H' scr ns:=by
 rcases h with⟨o,h⟩|h
 ·exact .inl ⟨o,e _ _ (ne_of h n (by intro z;cases z)) h⟩
 ·exact .inr h
theorem ScrV.same{K:W.Frag}{H H':Hp}{scr:Addr}{ns:List Int}(h:ScrV K H scr ns)(e:Same H H'):ScrV K H' scr ns:=by
 rcases h with⟨o,h⟩|h
 ·exact .inl ⟨o,e _ _ h⟩
 ·exact .inr h
structure TapeV(K:W.Frag)(H:Hp)(tp scr:Addr)(ns:List Int):Prop where
 at_:∃(i r:Int),H tp=some (.lst [.ref scr,.int i,.int r])/\0<=i/\0<=r
 scr_:ScrV K H scr ns
 len:ns.length<=63
theorem SameX.sq{K:W.Frag}{t:Addr}{H H':Hp}{a:Addr}{xs:List V}(e:SameX t H H')(n:a≠t)(h:SqL K H a xs):SqL K H' a xs:=by
 rcases h with(h|⟨o,h⟩)|h
 ·exact .inl (.inl (e _ _ n h))
 ·exact .inl (.inr ⟨o,e _ _ n h⟩)
 ·exact .inr h
theorem TapeV.same{K:W.Frag}{H H':Hp}{tp scr:Addr}{ns:List Int}(h:TapeV K H tp scr ns)(e:Same H H'):TapeV K H' tp scr ns:=by
 obtain⟨⟨i,r,h1,h2,h3⟩,h4,h5⟩:=h
 exact⟨⟨i,r,e _ _ h1,h2,h3⟩,h4.same e,h5⟩
theorem TapeV.other{K:W.Frag}{H H':Hp}{tp scr c:Addr}{ns:List Int}{zs:List V}(h:TapeV K H tp scr ns)(e:SameX c H H')(hc:H c=some (.lst zs))(n:tp≠c):TapeV K H' tp scr ns:=by
 obtain⟨⟨i,r,h1,h2,h3⟩,h4,h5⟩:=h
 exact⟨⟨i,r,e _ _ n h1,h2,h3⟩,h4.samex e hc,h5⟩
theorem zcw:∀ns:List Int,PyData.canLayAll0 (ns.map PyData.int)=true
 |[]=>rfl
 |n::ns=>by
  show(true&&PyData.canLayAll0 (ns.map PyData.int))=true
  rw[zcw ns];rfl
structure CupV(K:W.Frag)(H:Hp)(tp scr:Addr)(ns:List Int)(b:Int):Prop where
 tv:TapeV K H tp scr ns
 le:∃(i r:Int),H tp=some (.lst [.ref scr,.int i,.int r])/\i<=b
theorem CupV.same{K:W.Frag}{H H':Hp}{tp scr:Addr}{ns:List Int}{b:Int}(h:CupV K H tp scr ns b)(e:Same H H'):CupV K H' tp scr ns b:=by
 obtain⟨i,r,h1,h2⟩:=h.le
 exact⟨h.tv.same e,i,r,e _ _ h1,h2⟩
theorem CupV.mono{K:W.Frag}{H:Hp}{tp scr:Addr}{ns:List Int}{b c:Int}(h:CupV K H tp scr ns b)(e:b<=c):CupV K H tp scr ns c:=by
 obtain⟨i,r,h1,h2⟩:=h.le
 exact⟨h.tv,i,r,h1,by omega⟩
theorem CupV.other{K:W.Frag}{H H':Hp}{tp scr c:Addr}{ns:List Int}{b:Int}{zs:List V}(h:CupV K H tp scr ns b)(e:SameX c H H')(hc:H c=some (.lst zs))(n:tp≠c):CupV K H' tp scr ns b:=by
 obtain⟨i,r,h1,h2⟩:=h.le
 exact⟨h.tv.other e hc n,i,r,e _ _ n h1,h2⟩
theorem CupV.lst{K:W.Frag}{H:Hp}{tp scr:Addr}{ns:List Int}{b:Int}(h:CupV K H tp scr ns b):∃zs,H tp=some (.lst zs):=by
 obtain⟨i,r,h1,_⟩:=h.le
 exact⟨_,h1⟩
theorem none_ne'{H:Hp}{a b:Addr}{o:HO}(h:H a=some o)(n:H b=none):b≠a:=fun e=>by rw[e,h]at n;cases n
theorem SameX.free{t:Addr}{H H':Hp}{a:Addr}(e:SameX t H H')(n:a≠t)(h:H' a=none):H a=none:=by
 cases q:H a with
 |none=>rfl
 |some o=>rw[e a o n q]at h;cases h
end L2
namespace Hs
open PySem L2 HsD
section
variable{P:Program}{w:World}{K:W.Frag}{mg:Str->Option Value}{base:Heap}
theorem mod_nn(a:Int){b:Int}(h:0<b):0<=a %b:=Int.emod_nonneg _ (by omega)
theorem mod_lt(a:Int){b:Int}(h:0<b):a %b<b:=Int.emod_lt_of_pos _ h
theorem at_ints{ns:List Int}{k:Int}(h0:0<=k)(h1:k<(ns.length:Int)):∃v:Int,atI (ns.map V.int) k=some (.int v)/\ns[k.toNat]? =some v:=by
 have hk:k.toNat<ns.length:=by omega
 have ek:((k.toNat:Nat):Int)=k:=by omega
 have q:atI (ns.map V.int) ((k.toNat:Nat):Int)=some (.int ns[k.toNat]):=atI_nat (by rw[List.getElem?_map,List.getElem?_eq_getElem hk];rfl)
 rw[ek]at q
 exact⟨_,q,List.getElem?_eq_getElem hk⟩
noncomputable def spEStir(K:W.Frag):Sp:=fun vs H Q _=>∃(c i:Int),vs=[.int c,.int i]/\0<=i/\i<=1000000000/\∀r,0<=r->Q (.int r) H
theorem sc_estir:FnScope ["cell","at","one","two","three"] ["cell","at"] (defScope zca):=⟨rfl,rfl,rfl,by decide+kernel,rfl,by decide+kernel,by decide+kernel⟩
theorem ok_estir{f:Addr}{fd:FuncData}(F:Fun K "_law_e_stir" "_law_e_stir" zca f fd):
  FnOk P w K mg base CX0 1 f fd ["cell","at"] (spEStir K):=by
 refine F.ok sc_estir (fun vs H Q E h=> ?_) (fun cdv A outer s H vs Q E hr h=> ?_)
 ·obtain⟨c,i,rfl,_⟩:=h
  rfl
 obtain⟨c,i,rfl,hi0,hi1,q⟩:=h
 refine⟨_,(zae (zcv (zaq op_ge (pv 0) (zan op_pow zaf zaf) (nomark _)) (zag (zak (pv 0))) zbg) (zae (zaw (i:=2) sc_estir.nd rfl (Or.inl rfl) (zan op_mod (zan zbr (zan zbr (zan zdj (zan op_mod (pv 0) zaf) zaf) (zan zdj (pv 1) zaf)) zaf) zaf)) (zae (zaw (i:=3) sc_estir.nd rfl (Or.inl rfl) (zan op_mod (zan zbr (zan zbr (zan zbr (zan zdj (pv 2) (pv 2)) (zan zdj (zan zdj zaf (pv 1)) (pv 1))) (zan zdj zaf (pv 2))) zaf) zaf)) (zae (zaw (i:=4) sc_estir.nd rfl (Or.inl rfl) (zan op_mod (zan zbr (zan zbr (zan zbr (zan zdj (pv 3) (pv 3)) (zan zdj zaf (pv 3))) (pv 2)) (pv 1)) zaf)) (zag (zak (zan zbr (zan zdj (pv 3) zaf) (pv 4)))))))),?_⟩
 refine⟨_,rfl,_,_,rfl,rfl,⟨by decide,by decide,by decide⟩,_,_,rfl,rfl,_,rfl,?_⟩
 refine ite2 (fun c1=> ?_) (fun c1=> ?_)
 ·have c2:(10:Int)^(18:Int).toNat<=c:=of_decide_eq_true c1
  have c3:(0:Int)<=10^(18:Int).toNat:=by decide
  exact⟨_,rfl,q c (by omega)⟩
 ·refine⟨_,rfl,_,_,rfl,rfl,(by show(0:Int)<2147483549;decide),_,_,rfl,rfl,.inr ⟨by decide,by decide⟩,_,rfl,_,_,rfl,rfl,.inr ⟨by decide,by decide⟩,_,_,rfl,rfl,_,_,rfl,rfl,_,_,rfl,rfl,(by show(0:Int)<2147483543;decide),?_⟩
  generalize hfirst:((fun i j=>V.int (i %j)) _ _:V)=vf
  obtain⟨a1,e1,a2,a3⟩:∃a:Int,vf= .int a/\0<=a/\a<2147483543:=⟨_,hfirst.symm,mod_nn _ (by decide),mod_lt _ (by decide)⟩
  rw[e1]
  refine⟨_,rfl,_,rfl,_,_,rfl,rfl,.inl ⟨by omega,by omega⟩,_,rfl,_,_,rfl,rfl,.inl ⟨by decide,by decide⟩,_,rfl,_,_,rfl,rfl,.inr ⟨by omega,by omega⟩,_,_,rfl,rfl,_,rfl,_,_,rfl,rfl,.inl ⟨by decide,by decide⟩,_,_,rfl,rfl,_,_,rfl,rfl,_,_,rfl,rfl,(by show(0:Int)<2147483497;decide),?_⟩
  generalize hsec:((fun i j=>V.int (i %j)) _ _:V)=vs
  obtain⟨b1,f1,b2,b3⟩:∃a:Int,vs= .int a/\0<=a/\a<2147483497:=⟨_,hsec.symm,mod_nn _ (by decide),mod_lt _ (by decide)⟩
  rw[f1]
  refine⟨_,rfl,_,rfl,_,_,rfl,rfl,.inl ⟨by omega,by omega⟩,_,rfl,_,_,rfl,rfl,.inl ⟨by decide,by decide⟩,_,_,rfl,rfl,_,rfl,_,_,rfl,rfl,_,rfl,_,_,rfl,rfl,_,_,rfl,rfl,(by show(0:Int)<2147483489;decide),?_⟩
  generalize hthd:((fun i j=>V.int (i %j)) _ _:V)=vt
  obtain⟨c1',g1,c2,c3⟩:∃a:Int,vt= .int a/\0<=a/\a<2147483489:=⟨_,hthd.symm,mod_nn _ (by decide),mod_lt _ (by decide)⟩
  rw[g1]
  refine⟨_,rfl,_,_,rfl,rfl,.inr ⟨by decide,by decide⟩,_,rfl,_,_,rfl,rfl,q _ ?_⟩
  have:=Int.mul_nonneg b2 (show(0:Int)<=2147483489 by decide)
  omega
noncomputable def spDip(K:W.Frag):Sp:=fun vs H Q _=>∃(tp scr:Addr) (ns:List Int) (m b:Int),vs=[.ref tp,.int m]/\CupV K H tp scr ns b/\b<=1000000000/\0<m/\m<1000000000000000000000000000000/\
 ∀r H',0<=r->r<m->SameX tp H H'->CupV K H' tp scr ns (b+1)->Q (.int r) H'
theorem sc_dip:FnScope ["cup","many","at","cell","found"] ["cup","many"] (defScope zay):=⟨rfl,rfl,rfl,by decide+kernel,rfl,by decide+kernel,by decide+kernel⟩
theorem ok_dip{f f1:Addr}{fd d1:FuncData}(F:Fun K "_law_e_dip" "_law_e_dip" zay f fd)(D1:Dfn K mg "_law_e_stir" zca ["cell","at"] f1 d1)(G1:FnOk P w K mg base CX0 1 f1 d1 ["cell","at"] (spEStir K))(m_len:mg "len"=none):
  FnOk P w K mg base CX0 2 f fd ["cup","many"] (spDip K):=by
 refine F.ok sc_dip (fun vs H Q E h=> ?_) (fun cdv A outer s H vs Q E hr h=> ?_)
 ·obtain⟨tp,scr,ns,m,b,rfl,_⟩:=h
  rfl
 obtain⟨tp,scr,ns,m,b,rfl,hC,hb,hm0,hm1,q⟩:=h
 refine⟨_,(zae (zcv (zaq op_lt (zat zcr (pv 0) zaf (fun _ _=>rfl)) (pv 1) (nomark _)) (zae (zaw (i:=2) sc_dip.nd rfl (Or.inl rfl) (zat zcr (pv 0) zaf (fun _ _=>rfl))) (zae (zaw (i:=3) sc_dip.nd rfl (Or.inl rfl) (zan zbr (zan zdj zaf (pv 2)) zaf)) (zae (zcv (zaq op_lt (pv 2) (zai zas rfl m_len PySem.boot_len (zaa (zat zcr (pv 0) zaf (fun _ _=>rfl)) zab)) (nomark _)) (zag (zaw (i:=3) sc_dip.nd rfl (Or.inl rfl) (zat zcr (zat zcr (pv 0) zaf (fun _ _=>rfl)) (pv 2) (fun _ _=>rfl)))) (zag (zcv (zaq op_gt (zai zas rfl m_len PySem.boot_len (zaa (zat zcr (pv 0) zaf (fun _ _=>rfl)) zab)) zaf (nomark _)) (zag (zaw (i:=3) sc_dip.nd rfl (Or.inl rfl) (zan zbr (zan op_mod (zat zcr (zat zcr (pv 0) zaf (fun _ _=>rfl)) (zan op_mod (zan zbr (zan zdj zaf (pv 2)) zaf) (zai zas rfl m_len PySem.boot_len (zaa (zat zcr (pv 0) zaf (fun _ _=>rfl)) zab))) (fun _ _=>rfl)) zaf) (zan zdj (pv 2) zaf)))) zbg))) (zae (ps_asg (zan zbr (pv 2) zaf) (pg_sub (pv 0) zaf set_list)) (zag (ps_asg (zah G1 hr rfl D1.m D1.F.kp D1.b .nil pass0 (zaa (pv 3) (zaa (pv 2) zab))) (pg_sub (pv 0) zaf set_list))))))) zbg) (zae (zaw (i:=4) sc_dip.nd rfl (Or.inl rfl) (zan op_mod (zat zcr (pv 0) zaf (fun _ _=>rfl)) (pv 1))) (zae (ps_asg (zan op_fdivL (zat zcr (pv 0) zaf (fun _ _=>rfl)) (pv 1)) (pg_sub (pv 0) zaf set_list)) (zag (zak (pv 4)))))),?_⟩
 obtain⟨⟨⟨i,r,hH,hi,hr0⟩,hS0,h63⟩,i',r',hH',hle⟩:=hC
 have ei:i'=i/\r'=r:=by
  rw[hH]at hH'
  injection hH' with e1
  injection e1 with e2
  injection e2 with _ e3
  injection e3 with e4 e5
  injection e5 with e6 _
  injection e4 with e4
  injection e6 with e6
  exact⟨e4.symm,e6.symm⟩
 obtain⟨rfl,rfl⟩:=ei
 have hS:=hS0.sq
 refine⟨_,rfl,tp,_,_,.int r',rfl,rfl,SqL.of hH,rfl,_,rfl,_,_,rfl,rfl,_,rfl,?_⟩
 refine ite2 (fun c=> ?_) (fun c=> ?_)
 ·refine⟨_,rfl,tp,_,_,.int i',rfl,rfl,SqL.of hH,rfl,?_⟩
  refine⟨_,rfl,_,_,rfl,rfl,.inl ⟨by decide,by decide⟩,_,_,rfl,rfl,?_⟩
  refine⟨_,rfl,_,rfl,tp,_,_,.ref scr,rfl,rfl,SqL.of hH,rfl,scr,_,rfl,.inl hS,fun hz=>⟨_,_,rfl,rfl,_,rfl,?_⟩⟩
  have go:∀r2,0<=r2->∀q',q'=r2/m->
    ((0:Int)<=r2 %m/\r2 %m<m)/\SameX tp H (upd (upd (upd H tp (.lst [.ref scr,.int (i'+1),.int r'])) tp (.lst [.ref scr,.int (i'+1),.int r2])) tp (.lst [.ref scr,.int (i'+1),.int q']))/\
    CupV K (upd (upd (upd H tp (.lst [.ref scr,.int (i'+1),.int r'])) tp (.lst [.ref scr,.int (i'+1),.int r2])) tp (.lst [.ref scr,.int (i'+1),.int q'])) tp scr ns (b+1):=fun r2 h0 q' hq=>by
   have sx:SameX tp H (upd (upd (upd H tp (.lst [.ref scr,.int (i'+1),.int r'])) tp (.lst [.ref scr,.int (i'+1),.int r2])) tp (.lst [.ref scr,.int (i'+1),.int q'])):=(SameX.refl _ _).upd.upd.upd
   have hq0:0<=q':=by rw[hq];exact Int.ediv_nonneg h0 (by omega)
   exact⟨⟨mod_nn _ hm0,mod_lt _ hm0⟩,sx,⟨⟨i'+1,q',zac,by omega,hq0⟩,hS0.samex sx hH,h63⟩,i'+1,q',zac,by omega⟩
  refine ite2 (fun c2=> ?_) (fun c2=> ?_)
  ·have c3:i'<((ns.map V.int).length:Int):=of_decide_eq_true c2
   rw[List.length_map]at c3
   obtain⟨v,hx,_⟩:=at_ints hi c3
   refine⟨_,rfl,tp,_,_,.ref scr,rfl,rfl,SqL.of hH,rfl,_,rfl,scr,_,_,_,rfl,rfl,hS,hx,?_⟩
   refine⟨_,rfl,_,_,rfl,rfl,_,rfl,tp,_,_,1,rfl,rfl,hH,rfl,?_⟩
   refine⟨_,rfl,_,rfl,_,_,rfl,hi,by omega,fun r2 h0=>⟨_,rfl,tp,_,_,2,rfl,rfl,zac,rfl,?_⟩⟩
   obtain⟨⟨g1,g2⟩,g3,g4⟩:=go r2 h0 _ rfl
   refine⟨_,rfl,tp,_,_,.int r2,rfl,rfl,SqL.of zac,rfl,_,rfl,_,_,rfl,rfl,hm0,?_⟩
   refine⟨_,rfl,tp,_,_,.int r2,rfl,rfl,SqL.of zac,rfl,_,rfl,_,_,rfl,rfl,⟨hm0,hm1⟩,_,rfl,tp,_,_,2,rfl,rfl,zac,rfl,?_⟩
   exact⟨_,rfl,q _ _ g1 g2 g3 g4⟩
  ·refine⟨_,rfl,tp,_,_,.ref scr,rfl,rfl,SqL.of hH,rfl,scr,_,rfl,.inl hS,fun hz2=>⟨_,_,rfl,rfl,_,rfl,?_⟩⟩
   refine ite2 (fun c4=> ?_) (fun c4=> ?_)
   ·have e3:(0:Int)<((ns.map V.int).length:Int):=of_decide_eq_true c4
    have hk1:=mod_nn (5*i'+2) e3
    have hk2:=mod_lt (5*i'+2) e3
    rw[List.length_map]at hk1 hk2
    obtain⟨v,hx,_⟩:=at_ints hk1 hk2
    rw[<-List.length_map (f:=V.int)]at hx
    refine⟨_,rfl,tp,_,_,.ref scr,rfl,rfl,SqL.of hH,rfl,_,rfl,_,_,rfl,rfl,.inl ⟨by decide,by decide⟩,_,_,rfl,rfl,_,rfl,tp,_,_,.ref scr,rfl,rfl,SqL.of hH,rfl,scr,_,rfl,.inl hS,fun hz2=>⟨_,_,rfl,rfl,e3,scr,_,_,_,rfl,rfl,hS,hx,?_⟩⟩
    refine⟨_,_,rfl,rfl,(by show(0:Int)<777777769;decide),_,rfl,_,_,rfl,rfl,.inr ⟨by decide,by decide⟩,_,_,rfl,rfl,?_⟩
    refine⟨_,rfl,_,_,rfl,rfl,_,rfl,tp,_,_,1,rfl,rfl,hH,rfl,?_⟩
    refine⟨_,rfl,_,rfl,_,_,rfl,hi,by omega,fun r2 h0=>⟨_,rfl,tp,_,_,2,rfl,rfl,zac,rfl,?_⟩⟩
    obtain⟨⟨g1,g2⟩,g3,g4⟩:=go r2 h0 _ rfl
    refine⟨_,rfl,tp,_,_,.int r2,rfl,rfl,SqL.of zac,rfl,_,rfl,_,_,rfl,rfl,hm0,?_⟩
    refine⟨_,rfl,tp,_,_,.int r2,rfl,rfl,SqL.of zac,rfl,_,rfl,_,_,rfl,rfl,⟨hm0,hm1⟩,_,rfl,tp,_,_,2,rfl,rfl,zac,rfl,?_⟩
    exact⟨_,rfl,q _ _ g1 g2 g3 g4⟩
   ·refine⟨_,rfl,_,_,rfl,rfl,_,rfl,tp,_,_,1,rfl,rfl,hH,rfl,?_⟩
    refine⟨_,rfl,_,rfl,_,_,rfl,hi,by omega,fun r2 h0=>⟨_,rfl,tp,_,_,2,rfl,rfl,zac,rfl,?_⟩⟩
    obtain⟨⟨g1,g2⟩,g3,g4⟩:=go r2 h0 _ rfl
    refine⟨_,rfl,tp,_,_,.int r2,rfl,rfl,SqL.of zac,rfl,_,rfl,_,_,rfl,rfl,hm0,?_⟩
    refine⟨_,rfl,tp,_,_,.int r2,rfl,rfl,SqL.of zac,rfl,_,rfl,_,_,rfl,rfl,⟨hm0,hm1⟩,_,rfl,tp,_,_,2,rfl,rfl,zac,rfl,?_⟩
    exact⟨_,rfl,q _ _ g1 g2 g3 g4⟩
 ·refine⟨_,rfl,tp,_,_,.int r',rfl,rfl,SqL.of hH,rfl,_,rfl,_,_,rfl,rfl,hm0,?_⟩
  refine⟨_,rfl,tp,_,_,.int r',rfl,rfl,SqL.of hH,rfl,_,rfl,_,_,rfl,rfl,⟨hm0,hm1⟩,_,rfl,tp,_,_,2,rfl,rfl,hH,rfl,?_⟩
  have sx:SameX tp H (upd H tp (.lst [.ref scr,.int i',.int (r'/m)])):=(SameX.refl _ _).upd
  have hq0:0<=r'/m:=Int.ediv_nonneg hr0 (by omega)
  exact⟨_,rfl,q _ _ (mod_nn _ hm0) (mod_lt _ hm0) sx ⟨⟨⟨i',r'/m,zac,hi,hq0⟩,hS0.samex sx hH,h63⟩,i',r'/m,zac,by omega⟩⟩
end
end Hs
namespace L2
open PySem
theorem DVs.append{K:W.Frag}{H:Hp}{xs ys:List V}{ds es:List PyData}(h:DVs K H xs ds)(h':DVs K H ys es):DVs K H (xs++ys) (ds++es):=
 DVs.rec (motive_1:=fun _ _ _=>True) (motive_2:=fun xs ds _=>DVs K H (xs++ys) (ds++es)) trivial (fun _=>trivial) (fun _=>trivial) (fun _=>trivial) (fun _ _ _=>trivial) (fun _ _ _=>trivial) (fun _=>trivial) (fun _ _=>trivial) h' (fun h _ _ t=> .cons h t) h
theorem DVs.snoc{K:W.Frag}{H:Hp}{xs:List V}{ds:List PyData}{x:V}{d:PyData}(h:DVs K H xs ds)(h':DV K H x d):DVs K H (xs++[x]) (ds++[d]):=h.append (.cons h' .nil)
theorem SameX.tup{K:W.Frag}{t:Addr}{H H':Hp}{a:Addr}{xs zs:List V}(e:SameX t H H')(n:H t=some (.lst zs))(h:SqT K H a xs):SqT K H' a xs:=by
 rcases h with(h|⟨o,h⟩)|h
 ·exact .inl (.inl (e _ _ (ne_of h n (by intro z;cases z)) h))
 ·exact .inl (.inr ⟨o,e _ _ (ne_of h n (by intro z;cases z)) h⟩)
 ·exact .inr h
end L2
namespace HsD
open PySem L2
theorem pairs_samex{K:W.Frag}{t:Addr}{H H':Hp}{zs:List V}(e:SameX t H H')(n:H t=some (.lst zs)){rs:List V}{ps:List (Int×Int)}(h:DVs K H rs (ps.map pairD)):DVs K H' rs (ps.map pairD):=by
 induction ps generalizing rs with
 |nil=>cases h;exact .nil
 |cons p ps ih=>
  cases h with
  |cons h tl=>
   refine .cons ?_ (ih tl)
   cases h with
   |tup h hd=>
    cases hd with
    |cons a1 t1=>
     cases a1
     cases t1 with
     |cons a2 t2=>
      cases a2
      cases t2
      exact .tup (e.tup n h) (.cons (.int _) (.cons (.int _) .nil))
theorem WebV.samex{K:W.Frag}{t:Addr}{H H':Hp}{zs:List V}{a:Addr}{n:Int}{ts:List (Int×Int)}(h:WebV K H a n ts)(e:SameX t H H')(hn:H t=some (.lst zs)):WebV K H' a n ts:=by
 obtain⟨u,rs,h1,h2,h3⟩:=h
 exact⟨u,rs,e.tup hn h1,e.tup hn h2,pairs_samex e hn h3⟩
structure Sub(j:Nat)(l:List Int):Prop where
 nd:l.Nodup
 lt:∀i∈l,0<=i/\i<(j:Int)
theorem Sub.nil(j:Nat):Sub j []:=⟨List.nodup_nil,fun i h=>(nomatch h)⟩
theorem Sub.sub{j:Nat}{l l':List Int}(h:Sub j l)(s:l'.Sublist l):Sub j l':=⟨h.nd.sublist s,fun i hi=>h.lt i (s.subset hi)⟩
theorem Sub.mono{j k:Nat}{l:List Int}(h:Sub j l)(e:j<=k):Sub k l:=⟨h.nd,fun i hi=>⟨(h.lt i hi).1,by have:=(h.lt i hi).2;omega⟩⟩
theorem Sub.snoc{j:Nat}{l:List Int}(h:Sub j l):Sub (j+1) (l++[(j:Int)]):=by
 refine⟨List.nodup_append.mpr ⟨h.nd,by simp,fun a ha b hb e=> ?_⟩,fun i hi=> ?_⟩
 ·have:=(h.lt a ha).2
  simp at hb
  omega
 ·rcases List.mem_append.mp hi with q|q
  ·exact⟨(h.lt i q).1,by have:=(h.lt i q).2;omega⟩
  ·simp at q;omega
theorem Sub.range(j:Nat):Sub j ((List.range j).map fun(k:Nat)=>(0+(k:Nat):Int)):=by
 refine⟨?_,fun i hi=> ?_⟩
 ·rw[List.nodup_iff_pairwise_ne,List.pairwise_map]
  exact(List.nodup_iff_pairwise_ne.mp List.nodup_range).imp fun{a b} h e=>h (by omega)
 ·obtain⟨k,hk,rfl⟩:=List.mem_map.mp hi
  have:=List.mem_range.mp hk
  omega
theorem nodup_len{α:Type} [DecidableEq α]:∀{l m:List α},l.Nodup->(∀a∈l,a∈m)->l.length<=m.length
 |[],m,_,_=>Nat.zero_le _
 |a::l,m,nd,h=>by
  have ha:=h a List.mem_cons_self
  have nd':=List.nodup_cons.mp nd
  have q:∀b∈l,b∈m.erase a:=fun b hb=>by
   have hne:b≠a:=fun e=>nd'.1 (e▸hb)
   exact(List.mem_erase_of_ne hne).mpr (h b (List.mem_cons_of_mem _ hb))
  have:=nodup_len nd'.2 q
  have e:=List.length_erase_of_mem ha
  have:0<m.length:=List.length_pos_of_mem ha
  simp only[List.length_cons]
  omega
theorem Sub.len{j:Nat}{l:List Int}(h:Sub j l):l.length<=j:=by
 have q:=nodup_len (m:=(List.range j).map fun(k:Nat)=>(k:Int)) h.nd fun i hi=>by
  have:=h.lt i hi
  exact List.mem_map.mpr ⟨i.toNat,List.mem_range.mpr (by omega),by omega⟩
 simpa using q
structure PairsOk(n:Int)(ps:List (Int×Int)):Prop where
 nd:ps.Nodup
 lt:∀p∈ps,0<=p.1/\p.1<p.2/\p.2<n
theorem PairsOk.nil(n:Int):PairsOk n []:=⟨List.nodup_nil,fun p h=>(nomatch h)⟩
noncomputable def allP(n:Nat):List (Int×Int):=((List.range n).map fun(j:Nat)=>(List.range j).map fun(i:Nat)=>((i:Int),(j:Int))).flatten
theorem pairs_len{n:Int}{ps:List (Int×Int)}(h:PairsOk n ps)(hn:n<=10):ps.length<=45:=by
 have q:=nodup_len (m:=allP 10) h.nd fun p hp=>by
  obtain⟨h0,h1,h2⟩:=h.lt p hp
  obtain⟨a,b⟩:=p
  dsimp only at h0 h1 h2
  refine List.mem_flatten.mpr ⟨(List.range b.toNat).map fun(i:Nat)=>((i:Int),((b.toNat:Nat):Int)),List.mem_map.mpr ⟨b.toNat,List.mem_range.mpr (by omega),rfl⟩,List.mem_map.mpr ⟨a.toNat,List.mem_range.mpr (by omega),?_⟩⟩
  have e1:((a.toNat:Nat):Int)=a:=by omega
  have e2:((b.toNat:Nat):Int)=b:=by omega
  rw[e1,e2]
 have e:(allP 10).length=45:=by decide
 omega
end HsD
namespace HsD
open PySem L2
noncomputable def mp(l:List Int)(p:Int×Int):Int×Int:=
 (if l.getD p.2.toNat 0<l.getD p.1.toNat 0 then l.getD p.2.toNat 0 else l.getD p.1.toNat 0,if l.getD p.2.toNat 0>l.getD p.1.toNat 0 then l.getD p.2.toNat 0 else l.getD p.1.toNat 0)
theorem getD_inj{l:List Int}(nd:l.Nodup){i j:Nat}(hi:i<l.length)(hj:j<l.length)(e:l.getD i 0=l.getD j 0):i=j:=by
 have e1:l.getD i 0=l[i]:=by simp[hi]
 have e2:l.getD j 0=l[j]:=by simp[hj]
 rw[e1,e2]at e
 exact(List.getElem_inj nd).mp e
theorem getD_mem{l:List Int}{i:Nat}(hi:i<l.length):l.getD i 0∈l:=by
 have e1:l.getD i 0=l[i]:=by simp[hi]
 rw[e1];exact List.getElem_mem _
theorem mm_of(a b:Int):(a<=b/\(if b<a then b else a)=a/\(if b>a then b else a)=b)\/(b<=a/\(if b<a then b else a)=b/\(if b>a then b else a)=a):=by
 rcases Int.lt_trichotomy a b with h|h|h
 ·exact .inl ⟨Int.le_of_lt h,if_neg (Int.lt_asymm h),if_pos h⟩
 ·subst h;exact .inl ⟨Int.le_refl _,if_neg (Int.lt_irrefl _),if_neg (Int.lt_irrefl _)⟩
 ·exact .inr ⟨Int.le_of_lt h,if_pos h,if_neg (Int.lt_asymm h)⟩
theorem mm_eq{a b c d:Int}(e1:(if b<a then b else a)=if d<c then d else c)(e2:(if b>a then b else a)=if d>c then d else c):(a=c/\b=d)\/(a=d/\b=c):=by
 rcases mm_of a b with⟨_,p,q⟩|⟨_,p,q⟩<;>rcases mm_of c d with⟨_,r,s⟩|⟨_,r,s⟩<;>rw[p,r]at e1<;>rw[q,s]at e2
 ·exact .inl ⟨e1,e2⟩
 ·exact .inr ⟨e1,e2⟩
 ·exact .inr ⟨e2,e1⟩
 ·exact .inl ⟨e2,e1⟩
theorem toNat_in{x:Int}{n:Nat}(h0:0<=x)(h:x<n):x.toNat<n:=(Int.toNat_lt h0).mpr h
theorem toNat_eq{a b:Int}(ha:0<=a)(hb:0<=b)(h:a.toNat=b.toNat):a=b:=by rw[<-Int.toNat_of_nonneg ha,<-Int.toNat_of_nonneg hb,h]
theorem mp_ok{n:Nat}{l:List Int}(hl:Sub n l)(hlen:l.length=n){ps:List (Int×Int)}(h:PairsOk (n:Int) ps):PairsOk (n:Int) (ps.map (mp l)):=by
 have hin:∀p∈ps,p.1.toNat<l.length/\p.2.toNat<l.length/\0<=p.1/\0<=p.2/\p.1<p.2:=fun p hp=>by
  obtain⟨a0,a1,a2⟩:=h.lt p hp
  rw[hlen]
  exact⟨toNat_in a0 (Int.lt_trans a1 a2),toNat_in (Int.le_trans a0 (Int.le_of_lt a1)) a2,a0,Int.le_trans a0 (Int.le_of_lt a1),a1⟩
 refine⟨?_,fun q hq=> ?_⟩
 ·rw[List.nodup_iff_pairwise_ne,List.pairwise_map]
  refine(List.nodup_iff_pairwise_ne.mp h.nd).imp_of_mem fun{a b} ha hb hne e=>hne ?_
  obtain⟨hx1,hx2,n1,n2,hlt⟩:=hin a ha
  obtain⟨hy1,hy2,m1,m2,hlt'⟩:=hin b hb
  rcases mm_eq (Prod.mk.inj e).1 (Prod.mk.inj e).2 with⟨k1,k2⟩|⟨k1,k2⟩
  ·exact Prod.ext (toNat_eq n1 m1 (getD_inj hl.nd hx1 hy1 k1)) (toNat_eq n2 m2 (getD_inj hl.nd hx2 hy2 k2))
  ·rw[toNat_eq n1 m2 (getD_inj hl.nd hx1 hy2 k1),toNat_eq n2 m1 (getD_inj hl.nd hx2 hy1 k2)]at hlt
   exact absurd hlt' (Int.lt_asymm hlt)
 ·obtain⟨p,hp,rfl⟩:=List.mem_map.mp hq
  obtain⟨hx1,hx2,n1,n2,hlt⟩:=hin p hp
  have m1:=hl.lt _ (getD_mem (l:=l) (i:=p.1.toNat) hx1)
  have m2:=hl.lt _ (getD_mem (l:=l) (i:=p.2.toNat) hx2)
  have hne:l.getD p.1.toNat 0≠l.getD p.2.toNat 0:=fun z=>Int.ne_of_lt hlt (toNat_eq n1 n2 (getD_inj hl.nd hx1 hx2 z))
  unfold mp
  dsimp only
  rcases mm_of (l.getD p.1.toNat 0) (l.getD p.2.toNat 0)with⟨o,r,s⟩|⟨o,r,s⟩<;>rw[r,s]
  ·exact⟨m1.1,Int.lt_iff_le_and_ne.mpr ⟨o,hne⟩,m2.2⟩
  ·exact⟨m2.1,Int.lt_iff_le_and_ne.mpr ⟨o,Ne.symm hne⟩,m1.2⟩
theorem PairsOk.perm{n:Int}{ps qs:List (Int×Int)}(h:PairsOk n ps)(e:qs.Perm ps):PairsOk n qs:=⟨e.nodup_iff.mpr h.nd,fun p hp=>h.lt p (e.mem_iff.mp hp)⟩
noncomputable def pl(p:Int×Int):List Int:=[p.1,p.2]
theorem pl_inj{p q:Int×Int}(h:pl p=pl q):p=q:=by
 obtain⟨a,b⟩:=p
 obtain⟨c,d⟩:=q
 unfold pl at h
 simp at h
 rw[h.1,h.2]
theorem lex_of{a b:List Int}(h:HT.lexLt b a=false)(ne:a≠b):HT.lexLt a b=true:=by
 rw[HT.lexLt_iff]at h⊢
 have h1:¬b<a:=of_decide_eq_false h
 have h2:a<=b:=List.not_lt.mp h1
 refine decide_eq_true ?_
 rcases Classical.em (a<b)with h3|h3
 ·exact h3
 ·exact absurd (List.le_antisymm h2 (List.not_lt.mp h3)) ne
theorem tie_pair{n:Int}{p:Int×Int}(h0:0<=p.1)(h1:p.1<p.2)(h2:p.2<n):tieD n (pairD p)=true:=by
 show((placeD n (.int p.1)&&(placeD n (.int p.2)&&true))&&risesI [p.1,p.2]&&decide (([PyData.int p.1,PyData.int p.2]).length=2))=true
 have e1:placeD n (.int p.1)=true:=by
  show(decide (0<=p.1)&&decide (p.1<n))=true
  rw[decide_eq_true h0,decide_eq_true (by omega)];rfl
 have e2:placeD n (.int p.2)=true:=by
  show(decide (0<=p.2)&&decide (p.2<n))=true
  rw[decide_eq_true (by omega),decide_eq_true h2];rfl
 have e3:risesI [p.1,p.2]=true:=by
  show(decide (p.1<p.2)&&true)=true
  rw[decide_eq_true h1];rfl
 rw[e1,e2,e3];rfl
theorem web_ok{n:Int}{ts:List (Int×Int)}(hn0:0<=n)(hn1:n<=10)(h:PairsOk n ts)(hs:ts.Pairwise fun p q=>HT.lexLt (pl q) (pl p)=false):webD (webDat n ts)=true:=by
 show(true&&(decide (0<=n)&&decide (n<=10))&&((ts.map pairD).all (tieD n)&&risesT ((ts.map pairD).map fun t=>(kids t).map intD)))=true
 have e1:(ts.map pairD).all (tieD n)=true:=by
  rw[List.all_map,List.all_eq_true]
  intro p hp
  obtain⟨h0,h1,h2⟩:=h.lt p hp
  exact tie_pair h0 h1 h2
 have e2:(ts.map pairD).map (fun t=>(kids t).map intD)=ts.map pl:=by rw[List.map_map];rfl
 have e3:risesT (ts.map pl)=true:=by
  unfold risesT
  rw[List.all_eq_true]
  intro k hk
  have hk':k<ts.length-1:=by simpa using hk
  have g1:(ts.map pl).getD k []=pl ts[k]:=by rw[List.getD_eq_getElem?_getD,List.getElem?_map,List.getElem?_eq_getElem (by omega)];rfl
  have g2:(ts.map pl).getD (k+1) []=pl ts[k+1]:=by rw[List.getD_eq_getElem?_getD,List.getElem?_map,List.getElem?_eq_getElem (by omega)];rfl
  rw[g1,g2]
  refine lex_of (List.pairwise_iff_getElem.mp hs k (k+1) (by omega) (by omega) (by omega)) fun e=> ?_
  have:=(List.getElem_inj h.nd).mp (pl_inj e)
  omega
 rw[decide_eq_true hn0,decide_eq_true hn1,e1,e2,e3];rfl
theorem items_of{K:W.Frag}{H:Hp}{rs:List V}{ps:List (Int×Int)}(h:DVs K H rs (ps.map pairD)):∃its:List (Addr×(Int×Int)),rs=its.map (fun p=>V.ref p.1)/\its.map (·.2)=ps/\∀p∈its,SqT K H p.1 ((pl p.2).map V.int):=by
 induction ps generalizing rs with
 |nil=>cases h;exact⟨[],rfl,rfl,fun p h=>(nomatch h)⟩
 |cons p ps ih=>
  cases h with
  |cons h tl=>
   obtain⟨its,e1,e2,e3⟩:=ih tl
   cases h with
   | @tup a _ _ h hd=>
    cases hd with
    |cons a1 t1=>
     cases a1
     cases t1 with
     |cons a2 t2=>
      cases a2
      cases t2
      refine⟨(a,p)::its,by rw[e1];rfl,by rw[<-e2];rfl,fun q hq=> ?_⟩
      rcases List.mem_cons.mp hq with e|e
      ·rw[e];exact h
      ·exact e3 q e
theorem of_items{K:W.Frag}{H:Hp}:∀(its:List (Addr×(Int×Int))),(∀p∈its,SqT K H p.1 ((pl p.2).map V.int))->DVs K H (its.map fun p=>V.ref p.1) ((its.map (·.2)).map pairD)
 |[],_=> .nil
 |p::its,h=> .cons (.tup (h p List.mem_cons_self) (.cons (.int _) (.cons (.int _) .nil))) (of_items its fun q hq=>h q (List.mem_cons_of_mem _ hq))
end HsD
namespace HsD
open PySem L2
noncomputable def tiedL(ts:List (Int×Int))(i j:Int):Bool:=decide ((i,j)∈ts)||decide ((j,i)∈ts)
theorem tied_eq{n:Int}{ts:List (Int×Int)}(h:PairsOk n ts)(i j:Int):hasTie ts i j=tiedL ts i j:=by
 unfold hasTie tiedL
 have no:∀{a b:Int},b<=a->decide ((a,b)∈ts)=false:=fun{a b} hab=>decide_eq_false fun hm=>by
  have:=(h.lt _ hm).2.1
  dsimp only at this
  omega
 rcases Int.lt_trichotomy i j with c|c|c
 ·rw[if_neg (show¬j<i by omega),if_pos (show j>i by omega),no (show i<=j by omega),Bool.or_false]
 ·subst c
  rw[if_neg (show¬i<i by omega),Bool.or_self]
  try rw[if_neg (show¬i>i by omega)]
 ·rw[if_pos (show j<i by omega),if_neg (show¬j>i by omega),no (show j<=i by omega),Bool.false_or]
end HsD
namespace Hs
open PySem L2 HsD
section
variable{P:Program}{w:World}{K:W.Frag}{mg:Str->Option Value}{base:Heap}
noncomputable def spLaw(K:W.Frag):Sp:=fun vs H Q _=>∃(a:Addr) (ns:List Int),vs=[.ref a]/\ScrV K H a ns/\ns.length<=63/\∀H',Q (.bl true) H'
theorem spLaw_of{H:Hp}{a:Addr}{ns:List Int}(hl:ns.length<=63)(hO:Only H)(hS:SqL K H a (ns.map V.int)):spLaw K [.ref a] H (fun v _=>v= .bl true) fun _ _ _=>False:=by
 refine⟨a,ns,rfl,?_,hl,fun _=>rfl⟩
 rcases hS with(h|⟨o,h⟩)|h
 ·rcases hO a with q|⟨o,xs,q⟩
  ·rw[q]at h;cases h
  ·rw[q]at h;cases h
 ·exact .inl ⟨o,h⟩
 ·exact .inr h
noncomputable def rLen(K:W.Frag):List V->Hp->VK->Prop:=fun xs H Q=>∃p ys,xs=[.ref p]/\(SqL K H p ys\/SqT K H p ys)/\(ys.length<=16777216->Q (.int ys.length) H)
theorem test_any{H:Hp}{tp scr:Addr}{ns:List Int}{k:Int}{r:St}{Q:Bool->Hp->Prop}(tv:TapeV K H tp scr ns)(hQ:∀b,Q b H):
  tAnd (tTest (tOp (rI0 fun i j=> .bl (decide (j<i))) (tVar 2) (tC (.int 1)))) (tTest (tOp (rI0 fun i j=> .bl (decide (j<=i))) (tOp (rIxL K) (tVar 1) (tC (.int 1))) (tCB (rLen K) (tCons (tVar 0) tNil)))) (some (.ref scr)::some (.ref tp)::some (.int k)::r) H Q:=by
 obtain⟨⟨i,rr,hH,_,_⟩,hS,_⟩:=tv
 refine⟨_,rfl,_,_,rfl,rfl,_,rfl,?_⟩
 refine ite2 (fun c=> ?_) (fun c=>hQ _)
 exact⟨_,rfl,tp,_,_,.int i,rfl,rfl,SqL.of hH,rfl,_,rfl,scr,_,rfl,.inl hS.sq,fun _=>⟨_,_,rfl,rfl,_,rfl,hQ _⟩⟩
theorem tape_new{H:Hp}{a p:Addr}{ns:List Int}(hS:ScrV K H a ns)(h63:ns.length<=63)(hp:H p=none):TapeV K (upd H p (.lst [.ref a,.int 0,.int 0])) p a ns:=
 ⟨⟨0,0,zac,Int.le_refl _,Int.le_refl _⟩,hS.same (zad hp _),h63⟩
end
end Hs
namespace Hs
open PySem L2 HsD
noncomputable def lt2(p q:Int×Int):Prop:=p.1<q.1\/(p.1=q.1/\p.2<q.2)
theorem lt2.trans{p q r:Int×Int}(a:lt2 p q)(b:lt2 q r):lt2 p r:=by
 unfold lt2 at *;omega
theorem lt2.irr{p:Int×Int}(a:lt2 p p):False:=by
 unfold lt2 at a;omega
theorem eq_of_sorted:∀{l m:List (Int×Int)},l.Pairwise lt2->m.Pairwise lt2->(∀p,p∈l↔p∈m)->l=m
 |[],[],_,_,_=>rfl
 |[],q::m,_,_,h=>absurd ((h q).mpr (List.mem_cons_self ..)) (by simp)
 |p::l,[],_,_,h=>absurd ((h p).mp (List.mem_cons_self ..)) (by simp)
 |p::l,q::m,hl,hm,h=>by
  rw[List.pairwise_cons]at hl hm
  have e:p=q:=by
   rcases List.mem_cons.mp ((h p).mp (List.mem_cons_self ..))with e|e
   ·exact e
   rcases List.mem_cons.mp ((h q).mpr (List.mem_cons_self ..))with e'|e'
   ·exact e'.symm
   exact(lt2.irr ((hl.1 _ e').trans (hm.1 _ e))).elim
  subst e
  have:l=m:=eq_of_sorted hl.2 hm.2 (fun r=>by
   have hr:=h r
   rw[List.mem_cons,List.mem_cons]at hr
   constructor
   ·intro hi
    rcases hr.mp (.inr hi)with e|e
    ·subst e;exact(lt2.irr (hl.1 _ hi)).elim
    ·exact e
   ·intro hi
    rcases hr.mpr (.inr hi)with e|e
    ·subst e;exact(lt2.irr (hm.1 _ hi)).elim
    ·exact e)
  rw[this]
theorem lex_lt2{p q:Int×Int}(h:HT.lexLt (pl p) (pl q)=true):lt2 p q:=by
 rw[HT.lexLt_iff]at h
 have:=of_decide_eq_true h
 unfold pl at this
 rw[List.cons_lt_cons_iff]at this
 rcases this with a|⟨a,b⟩
 ·exact .inl a
 ·rw[List.cons_lt_cons_iff]at b
  rcases b with b|⟨_,b⟩
  ·exact .inr ⟨a,b⟩
  ·exact absurd b (by simp)
theorem pairwise_of_adj{l:List (Int×Int)}(h:∀k,(hk:k+1<l.length)->lt2 l[k] l[k+1]):l.Pairwise lt2:=by
 rw[List.pairwise_iff_getElem]
 intro i j hi hj hij
 have go:∀d:Nat,(hd:i+1+d<l.length)->lt2 l[i] l[i+1+d]:=by
  intro d
  induction d with
  |zero=>intro hd;exact h i hd
  |succ d ih=>intro hd;exact(ih (by omega)).trans (h (i+1+d) hd)
 have e:j=i+1+(j-i-1):=by omega
 have:=go (j-i-1) (by omega)
 simpa[<-e]using this
theorem web_sorted{n:Int}{ts:List (Int×Int)}(h:WebOk n ts):ts.Pairwise lt2:=by
 have h1:tiesD n (.tuple (ts.map pairD))=true:=by
  unfold WebOk webDat webD at h
  rw[Bool.and_eq_true]at h
  exact h.2
 unfold tiesD at h1
 rw[Bool.and_eq_true]at h1
 have h2:=h1.2
 unfold risesT at h2
 rw[List.all_eq_true]at h2
 refine pairwise_of_adj fun k hk=> ?_
 have e:(List.map (fun t=>(kids t).map intD) (ts.map pairD))=ts.map pl:=by
  rw[List.map_map];rfl
 rw[e,List.length_map]at h2
 have h3:=h2 k (by rw[List.mem_range];omega)
 have g:∀j,(hj:j<ts.length)->(ts.map pl).getD j []=pl ts[j]:=fun j hj=>by
  rw[List.getD_eq_getElem?_getD,List.getElem?_map,List.getElem?_eq_getElem hj];rfl
 rw[g k (by omega),g (k+1) hk]at h3
 exact lex_lt2 h3
noncomputable def row(so:Int->Int->Bool)(i:Int)(k:Nat):List (Int×Int):=((List.range k).map fun(t:Nat)=>(i,i+1+(t:Int))).filter fun p=>so p.1 p.2
noncomputable def rows(so:Int->Int->Bool)(m:Int)(i:Nat):List (Int×Int):=((List.range i).map fun(t:Nat)=>row so (0+(t:Int)) (m-(0+(t:Int)+1)).toNat).flatten
theorem row_succ(so:Int->Int->Bool)(i:Int)(k:Nat):row so i (k+1)=row so i k++(if so i (i+1+(k:Int))=true then[(i,i+1+(k:Int))]else[]):=by
 unfold row
 rw[List.range_succ,List.map_append,List.filter_append]
 congr 1
 show List.filter _ [(i,i+1+(k:Int))]=_
 rw[List.filter_cons]
 rfl
theorem rows_succ(so:Int->Int->Bool)(m:Int)(i:Nat):rows so m (i+1)=rows so m i++row so (0+(i:Int)) (m-(0+(i:Int)+1)).toNat:=by
 unfold rows
 rw[List.range_succ,List.map_append,List.flatten_append]
 simp
theorem mem_row{so:Int->Int->Bool}{i:Int}{k:Nat}{p:Int×Int}:p∈row so i k↔p.1=i/\i<p.2/\p.2<i+1+(k:Int)/\so p.1 p.2=true:=by
 unfold row
 rw[List.mem_filter,List.mem_map]
 constructor
 ·rintro⟨⟨t,ht,rfl⟩,h⟩
  rw[List.mem_range]at ht
  exact⟨rfl,by show i<i+1+(t:Int);omega,by show i+1+(t:Int)<_;omega,h⟩
 ·rintro⟨h1,h2,h3,h4⟩
  refine⟨⟨(p.2-i-1).toNat,by rw[List.mem_range];omega,?_⟩,h4⟩
  apply Prod.ext
  ·exact h1.symm
  ·show i+1+(((p.2-i-1).toNat:Nat):Int)=p.2;omega
theorem mem_rows{so:Int->Int->Bool}{m:Int}:∀{i:Nat} {p:Int×Int},p∈rows so m i↔0<=p.1/\p.1<(i:Int)/\p.1<p.2/\p.2<m/\so p.1 p.2=true
 |0,p=>by
  constructor
  ·intro h;simp[rows]at h
  ·intro h;omega
 |i+1,p=>by
  rw[rows_succ,List.mem_append,mem_rows (i:=i),mem_row]
  constructor
  ·rintro(h|h)
   ·exact⟨h.1,by omega,h.2.2⟩
   ·exact⟨by omega,by omega,by omega,by omega,h.2.2.2⟩
  ·rintro⟨h1,h2,h3,h4,h5⟩
   by_cases e:p.1<(i:Int)
   ·exact .inl ⟨h1,e,h3,h4,h5⟩
   ·exact .inr ⟨by omega,by omega,by omega,h5⟩
theorem row_sorted(so:Int->Int->Bool)(i:Int)(k:Nat):(row so i k).Pairwise lt2:=by
 unfold row
 refine List.Pairwise.filter _ ?_
 rw[List.pairwise_map]
 exact List.pairwise_lt_range.imp fun h=> .inr ⟨rfl,by show i+1+_<i+1+_;omega⟩
theorem zdf(so:Int->Int->Bool)(m:Int):∀i:Nat,(rows so m i).Pairwise lt2
 |0=>by unfold rows;exact List.Pairwise.nil
 |i+1=>by
  rw[rows_succ,List.pairwise_append]
  refine⟨zdf so m i,row_sorted so _ _,fun p hp q hq=> ?_⟩
  rw[mem_rows]at hp
  rw[mem_row]at hq
  exact .inl (by omega)
theorem rows_eq{so:Int->Int->Bool}{m:Int}{l:List (Int×Int)}(hm:0<=m)(hs:l.Pairwise lt2)(h:∀p:Int×Int,p∈l↔0<=p.1/\p.1<p.2/\p.2<m/\so p.1 p.2=true):l=rows so m m.toNat:=by
 refine eq_of_sorted hs (zdf so m _) fun p=> ?_
 rw[h,mem_rows]
 constructor
 ·rintro⟨a,b,c,d⟩;exact⟨a,by omega,b,c,d⟩
 ·rintro⟨a,b,c,d,e⟩;exact⟨a,c,d,e⟩
theorem rows_ok{so:Int->Int->Bool}{m:Int}{i:Nat}:PairsOk m (rows so m i):=
 ⟨(zdf so m i).imp fun h e=>by subst e;exact lt2.irr h,fun p hp=>by rw[mem_rows]at hp;exact⟨hp.1,hp.2.2.1,hp.2.2.2.1⟩⟩
theorem nodup_lt2{l:List (Int×Int)}(h:l.Pairwise lt2):l.Nodup:=h.imp fun h e=>by subst e;exact lt2.irr h
end Hs
namespace L2
open PySem
theorem DVs.get'{K:W.Frag}{H:Hp}:∀{xs:List V} {ds:List PyData} {i:Nat},DVs K H xs ds->i<ds.length->∃x d,xs[i]? =some x/\ds[i]? =some d/\DV K H x d
 |_,_,i,.nil,h=>by simp at h
 |_,_,0,.cons h _,_=>⟨_,_,rfl,rfl,h⟩
 |_,_,i+1,.cons _ t,h=>by
  obtain⟨x,d,h1,h2,h3⟩:=DVs.get' (i:=i) t (by simpa using h)
  exact⟨x,d,by simpa using h1,by simpa using h2,h3⟩
end L2
namespace Hs
open PySem L2 HsD
structure WebIs(K:W.Frag)(H:Hp)(a:Addr)(n:Int)(ts:List (Int×Int)):Prop where
 web:WebV K H a n ts
 h0:0<=n
 h1:n<=10
 pk:PairsOk n ts
 ok:WebOk n ts
theorem WebIs.same{K:W.Frag}{H H':Hp}{a:Addr}{n:Int}{ts:List (Int×Int)}(h:WebIs K H a n ts)(e:Same H H'):WebIs K H' a n ts:=⟨h.web.same e,h.h0,h.h1,h.pk,h.ok⟩
theorem WebIs.samex{K:W.Frag}{H H':Hp}{t a:Addr}{zs:List V}{n:Int}{ts:List (Int×Int)}(h:WebIs K H a n ts)(e:SameX t H H')(hn:H t=some (.lst zs)):WebIs K H' a n ts:=⟨h.web.samex e hn,h.h0,h.h1,h.pk,h.ok⟩
theorem WebIs.len{K:W.Frag}{H:Hp}{a:Addr}{n:Int}{ts:List (Int×Int)}(h:WebIs K H a n ts):ts.length<=45:=pairs_len h.pk h.h1
theorem WebIs.srt{K:W.Frag}{H:Hp}{a:Addr}{n:Int}{ts:List (Int×Int)}(h:WebIs K H a n ts):ts.Pairwise lt2:=web_sorted h.ok
noncomputable def tt(_ _:Int):Bool:=true
theorem lt2_lex{p q:Int×Int}(h:lt2 p q):HT.lexLt (pl q) (pl p)=false:=by
 rw[HT.lexLt_iff]
 refine decide_eq_false fun z=> ?_
 have:lt2 q p:=lex_lt2 (by rw[HT.lexLt_iff];exact decide_eq_true z)
 exact lt2.irr (h.trans this)
theorem web_of_sub{n:Int}{ts:List (Int×Int)}{i:Nat}(h0:0<=n)(h1:n<=10)(h:ts.Sublist (rows tt n i)):PairsOk n ts/\WebOk n ts:=by
 have hs:ts.Pairwise lt2:=(zdf tt n i).sublist h
 have ho:PairsOk n ts:=⟨nodup_lt2 hs,fun p hp=>(rows_ok (so:=tt) (m:=n) (i:=i)).lt p (h.subset hp)⟩
 exact⟨ho,web_ok h0 h1 ho (hs.imp lt2_lex)⟩
theorem pair_at{K:W.Frag}{H:Hp}{rs:List V}{ps:List (Int×Int)}{i:Nat}{x:V}(h:DVs K H rs (ps.map pairD))(hx:rs[i]? =some x):∃(t:Addr) (hi:i<ps.length),x= .ref t/\SqT K H t [.int (ps[i]).1,.int (ps[i]).2]:=by
 have hlen:=h.len
 rw[List.length_map]at hlen
 have hi:i<ps.length:=by rw[<-hlen];exact(List.getElem?_eq_some_iff.mp hx).1
 obtain⟨x',d,e1,e2,e3⟩:=DVs.get' (i:=i) h (by rw[List.length_map];exact hi)
 rw[hx]at e1;cases e1
 rw[List.getElem?_map,List.getElem?_eq_getElem hi]at e2
 cases e2
 cases e3 with
 |tup hp tp=>
  cases tp with
  |cons ta tb=>
   cases tb with
   |cons tc td=>
    cases td
    cases ta
    cases tc
    exact⟨_,hi,rfl,hp⟩
theorem at_xs{xs:List Int}{i:Int}(h0:0<=i)(h1:i<(xs.length:Int)):atI (xs.map V.int) i=some (.int (xs.getD i.toNat 0)):=by
 have hk:i.toNat<xs.length:=by omega
 have ek:((i.toNat:Nat):Int)=i:=by omega
 have q:atI (xs.map V.int) ((i.toNat:Nat):Int)=some (.int (xs.getD i.toNat 0)):=atI_nat (by rw[List.getElem?_map,List.getElem?_eq_getElem hk,List.getD_eq_getElem?_getD,List.getElem?_eq_getElem hk];rfl)
 rw[ek]at q
 exact q
noncomputable def TiesL(K:W.Frag)(H:Hp)(l:Addr)(R:List (Int×Int))(P:Int×Int->Prop):Prop:=∃(rs:List V) (ts:List (Int×Int)),H l=some (.lst rs)/\DVs K H rs (ts.map pairD)/\ts.Sublist R/\∀p∈ts,P p
theorem TiesL.nil{K:W.Frag}{H:Hp}{l:Addr}{R:List (Int×Int)}{P:Int×Int->Prop}(h:H l=some (.lst [])):TiesL K H l R P:=⟨[],[],h,.nil,List.nil_sublist _,fun p hp=>(nomatch hp)⟩
theorem TiesL.same{K:W.Frag}{H H':Hp}{l:Addr}{R:List (Int×Int)}{P:Int×Int->Prop}(h:TiesL K H l R P)(e:Same H H'):TiesL K H' l R P:=by
 obtain⟨rs,ts,h1,h2,h3⟩:=h
 exact⟨rs,ts,e _ _ h1,h2.same e,h3⟩
theorem TiesL.step{K:W.Frag}{H H':Hp}{l c:Addr}{R:List (Int×Int)}{P:Int×Int->Prop}{zs:List V}(h:TiesL K H l R P)(e:SameX c H H')(hc:H c=some (.lst zs))(n:l≠c):TiesL K H' l R P:=by
 obtain⟨rs,ts,h1,h2,h3⟩:=h
 exact⟨rs,ts,e _ _ n h1,pairs_samex e hc h2,h3⟩
theorem TiesL.mono{K:W.Frag}{H:Hp}{l:Addr}{R R':List (Int×Int)}{P:Int×Int->Prop}(h:TiesL K H l R P)(e:R.Sublist R'):TiesL K H l R' P:=by
 obtain⟨rs,ts,h1,h2,h3,h4⟩:=h
 exact⟨rs,ts,h1,h2,h3.trans e,h4⟩
theorem TiesL.push{K:W.Frag}{H:Hp}{l p:Addr}{R:List (Int×Int)}{P:Int×Int->Prop}{i j:Int}{rs:List V}{ts:List (Int×Int)}(h1:H l=some (.lst rs))(h2:DVs K H rs (ts.map pairD))(h3:ts.Sublist R)(h4:∀p∈ts,P p)(hp:SqT K H p [.int i,.int j])(hP:P (i,j)):TiesL K (upd H l (.lst (rs++[.ref p]))) l (R++[(i,j)]) P:=by
 have x:SameX l H (upd H l (.lst (rs++[.ref p]))):=(SameX.refl _ _).upd
 refine⟨_,ts++[(i,j)],zac,?_,h3.append (List.Sublist.refl _),fun q hq=> ?_⟩
 ·rw[List.map_append]
  exact(pairs_samex x h1 h2).append (.cons (.tup (x.tup h1 hp) (.cons (.int _) (.cons (.int _) .nil))) .nil)
 ·rcases List.mem_append.mp hq with q'|q'
  ·exact h4 q q'
  ·rw[List.mem_singleton.mp q'];exact hP
theorem sub_len{n:Int}{ts:List (Int×Int)}{i k:Nat}(h1:n<=10)(hk:0+(i:Int)+1+(k:Int)<=n)(h:ts.Sublist (rows tt n i++row tt (0+(i:Int)) k)):ts.length<=45:=by
 refine pairs_len (n:=n) ⟨?_,fun p hp=> ?_⟩ h1
 ·refine nodup_lt2 (List.Pairwise.sublist h ?_)
  rw[List.pairwise_append]
  refine⟨zdf _ _ _,row_sorted _ _ _,fun p hp q hq=> ?_⟩
  rw[mem_rows]at hp
  rw[mem_row]at hq
  exact .inl (by omega)
 ·rcases List.mem_append.mp (h.subset hp)with q|q
  ·rw[mem_rows]at q;exact⟨q.1,q.2.2.1,q.2.2.2.1⟩
  ·rw[mem_row]at q;exact⟨by omega,by omega,by omega⟩
section
variable{P:Program}{w:World}{K:W.Frag}{mg:Str->Option Value}{base:Heap}
end
end Hs
namespace L2
open PySem PySem.Spec PyProof.Rows
theorem seq_midE{s u:TS}{D:Ends}{σ:St}{H:Hp}(I:St->Hp->Prop)(h1:∀N:St->Hp->Prop,(∀σ' H',I σ' H'->N σ' H')->s {D with nx:=N} σ H)(h2:∀σ' H',I σ' H'->u D σ' H'):tSeq s u D σ H:=h1 (u D) h2
section
variable{K:W.Frag}{σ:St}{H0:Hp}
noncomputable def TupsL(K:W.Frag)(H:Hp)(l:Addr)(k:Nat):Prop:=∃its:List (Addr×List Int),H l=some (.lst (its.map fun p=>V.ref p.1))/\(∀p∈its,SqT K H p.1 (p.2.map V.int))/\its.length<=k
theorem TupsL.same{H H':Hp}{l:Addr}{k:Nat}(h:TupsL K H l k)(e:Same H H'):TupsL K H' l k:=by
 obtain⟨its,h1,h2,h3⟩:=h
 exact⟨its,e _ _ h1,fun p hp=>e.tup (h2 p hp),h3⟩
theorem TupsL.step{H H':Hp}{l c:Addr}{k:Nat}{zs:List V}(h:TupsL K H l k)(e:SameX c H H')(hc:H c=some (.lst zs))(n:l≠c):TupsL K H' l k:=by
 obtain⟨its,h1,h2,h3⟩:=h
 exact⟨its,e _ _ n h1,fun p hp=>e.tup hc (h2 p hp),h3⟩
theorem TupsL.push{H:Hp}{l r:Addr}{k:Nat}{ys:List Int}{its:List (Addr×List Int)}(h1:H l=some (.lst (its.map fun p=>V.ref p.1)))(h2:∀p∈its,SqT K H p.1 (p.2.map V.int))(h3:its.length<=k)(hr:SqT K H r (ys.map V.int)):
  TupsL K (upd H l (.lst ((its.map fun p=>V.ref p.1)++[.ref r]))) l (k+1):=by
 have x:SameX l H (upd H l (.lst ((its.map fun p=>V.ref p.1)++[.ref r]))):=(SameX.refl _ _).upd
 refine⟨its++[(r,ys)],by rw[zac,List.map_append];rfl,fun p hp=> ?_,by rw[List.length_append];show its.length+1<=k+1;omega⟩
 rcases List.mem_append.mp hp with q|q
 ·exact x.tup h1 (h2 p q)
 ·rw[List.mem_singleton.mp q];exact x.tup h1 hr
end
end L2
namespace Hs
open PySem L2 HsD
section
variable{P:Program}{w:World}{K:W.Frag}{mg:Str->Option Value}{base:Heap}
theorem sc_etied:FnScope ["web","one","other"] ["web","one","other"] (defScope zbi):=⟨rfl,rfl,rfl,by decide+kernel,rfl,by decide+kernel,by decide+kernel⟩
theorem ok_etied{f:Addr}{fd:FuncData}(F:Fun K "_law_e_tied" "_law_e_tied" zbi f fd)(m_min:mg "min"=none)(m_max:mg "max"=none):
  FnOk P w K mg base CX0 1 f fd ["web","one","other"] (spHas K):=by
 refine F.ok sc_etied (fun vs H Q E h=> ?_) (fun cdv A outer s H vs Q E hr h=> ?_)
 ·obtain⟨a,n,i,j,ts,rfl,_⟩:=h
  rfl
 obtain⟨a,n,i,j,ts,rfl,hW,q⟩:=h
 refine⟨_,(zag (zak (pe_cmpR (op_inD hr.units) (zbk (zaa (zai (call_min2 rfl) rfl m_min (by decide+kernel) (zaa (pv 1) (zaa (pv 2) zab))) (zaa (zai (call_max2 rfl) rfl m_max (by decide+kernel) (zaa (pv 1) (zaa (pv 2) zab))) zab))) (zat zar (pv 0) zaf (fun _ _=>rfl)) (by with_unfolding_all rfl)))),?_⟩
 refine⟨_,rfl,_,rfl,_,_,rfl,_,rfl,_,rfl,_,_,rfl,(by show 2<=sizeLine;decide),fun p hp=> ?_⟩
 have sm:=zad hp (.tup [.int (if j<i then j else i),.int (if j>i then j else i)])
 obtain⟨t,rs,h1,h2,h3⟩:=hW.same sm
 refine⟨_,rfl,a,_,_,.ref t,rfl,rfl,h1,rfl,t,rs,_,pairD (if j<i then j else i,if j>i then j else i),rfl,.inr h2,h3,.tup (SqT.of zac) (.cons (.int _) (.cons (.int _) .nil)),lay_pairs ts,rfl,(by show max 0 (max 0 0)+1<=60;decide),?_⟩
 rw[any_pair]
 exact q _ sm
noncomputable def spWebOf(K:W.Frag):Sp:=fun vs H Q _=>∃(cp scr:Addr) (ns:List Int) (n b:Int),vs=[.ref cp,.int n]/\CupV K H cp scr ns b/\b<=900000000/\0<=n/\n<=10/\
 ∀r ts H',SameX cp H H'->CupV K H' cp scr ns (b+120)->WebIs K H' r n ts->Q (.ref r) H'
theorem sc_webof:FnScope ["cup","n","often","ties","i","j"] ["cup","n"] (defScope zbo):=⟨rfl,rfl,rfl,by decide+kernel,rfl,by decide+kernel,by decide+kernel⟩
theorem ok_webof{f f1:Addr}{fd d1:FuncData}(F:Fun K "_law_e_web_of" "_law_e_web_of" zbo f fd)(D1:Dfn K mg "_law_e_dip" zay ["cup","many"] f1 d1)(G1:FnOk P w K mg base CX0 2 f1 d1 ["cup","many"] (spDip K))(m_range:mg "range"=none)(m_tuple:mg "tuple"=none):
  FnOk P w K mg base CX0 3 f fd ["cup","n"] (spWebOf K):=by
 refine F.ok sc_webof (fun vs H Q E h=> ?_) (fun cdv A outer s H vs Q E hr h=> ?_)
 ·obtain⟨cp,scr,ns,n,b,rfl,_⟩:=h
  rfl
 obtain⟨cp,scr,ns,n,b,rfl,hC,hb,hn0,hn1,q⟩:=h
 refine⟨_,(zae (zaw (i:=2) sc_webof.nd rfl (Or.inl rfl) (zah G1 hr rfl D1.m D1.F.kp D1.b .nil pass0 (zaa (pv 0) (zaa zaf zab)))) (zae (zaw (i:=3) sc_webof.nd rfl (Or.inl rfl) (zda zab)) (zae (zdh PassesOwn.never rfl (zbp rfl m_range (zaa (pv 1) zab)) (zaj (i:=4) sc_webof.nd rfl (Or.inl rfl)) (zag (zdh PassesOwn.never rfl (pi_range2 rfl m_range (zaa (zan zbr (pv 4) zaf) (zaa (pv 1) zab))) (zaj (i:=5) sc_webof.nd rfl (Or.inl rfl)) (zag (zcv (zaq op_lt (zah G1 hr rfl D1.m D1.F.kp D1.b .nil pass0 (zaa (pv 0) (zaa zaf zab))) (pv 2) (nomark _)) (zag (zdi (pe_bm PySem.F.plainAttrs_list PySem.F.slot_list_append PySem.F.type_list_append mt_append (pv 3) (zaa (zbk (zaa (pv 4) (zaa (pv 5) zab))) zab)))) zbg))))) (zag (zak (zbk (zaa (pv 1) (zaa (zcl zbn rfl m_tuple (by decide+kernel) (zaa (pv 3) zab)) zab)))))))),?_⟩
 refine⟨_,rfl,cp,scr,ns,7,b,rfl,hC,by omega,by decide,by decide,fun o H1 ho0 ho1 x1 c1=> ?_⟩
 refine⟨(by show 0<=sizeLine;decide),fun tl htl=> ?_⟩
 obtain⟨zs,hz⟩:=c1.lst
 have s2:=zad htl (.lst [])
 have ntc:tl≠cp:=none_ne' hz htl
 have tl0:H tl=none:=x1.free ntc htl
 refine⟨_,rfl,n,rfl,by omega,by omega,?_⟩
 refine zcq (n:=n.toNat) (fun i σ H'=>SameX cp H H'/\CupV K H' cp scr ns (b+1+10*(i:Int))/\TiesL K H' tl (rows tt n i) (fun _=>True)/\∃a4 a5,σ=[some (.ref cp),some (.int n),some (.int o),some (.ref tl),a4,a5])
  ⟨x1.trans (s2.x _),(c1.same s2).mono (by omega),TiesL.nil zac,_,_,rfl⟩ (fun i σ H' hi p=> ?_) (fun σ H' p=> ?_)
 ·obtain⟨x,c,tl1,a4,a5,rfl⟩:=p
  refine⟨_,rfl,_,_,rfl,rfl,_,rfl,_,_,rfl,⟨by omega,by omega,by omega,by omega⟩,?_⟩
  refine zcq (n:=(n-(0+(i:Int)+1)).toNat) (fun k σ H'=>SameX cp H H'/\CupV K H' cp scr ns (b+1+10*(i:Int)+(k:Int))/\TiesL K H' tl (rows tt n i++row tt (0+(i:Int)) k) (fun _=>True)/\∃a5,σ=[some (.ref cp),some (.int n),some (.int o),some (.ref tl),some (.int (0+(i:Int))),a5])
   ⟨x,c.mono (by omega),by rw[show row tt (0+(i:Int)) 0=[]from rfl,List.append_nil];exact tl1,_,rfl⟩ (fun k σ H' hk p=> ?_) (fun σ H' p=> ?_)
  ·obtain⟨x,c,tl1,a5,rfl⟩:=p
   refine⟨_,rfl,cp,scr,ns,6,_,rfl,c,by omega,by decide,by decide,fun d H2 hd0 hd1 x2 c2=>⟨_,rfl,_,_,rfl,rfl,_,rfl,?_⟩⟩
   obtain⟨zs,hz⟩:=c.lst
   have tl2:=tl1.step x2 hz ntc
   have er:rows tt n i++row tt (0+(i:Int)) (k+1)=(rows tt n i++row tt (0+(i:Int)) k)++[(0+(i:Int),0+(i:Int)+1+(k:Int))]:=by rw[row_succ,if_pos (show tt _ _=true from rfl),List.append_assoc]
   have ec:b+1+10*(i:Int)+((k+1:Nat):Int)=b+1+10*(i:Int)+(k:Int)+1:=by omega
   rw[er,ec]
   refine ite2 (fun cc=> ?_) (fun cc=> ?_)
   ·obtain⟨rs,ts,h1,h2,h3,h4⟩:=tl2
    have hl:=sub_len hn1 (by omega) h3
    have hrl:=h2.len
    rw[List.length_map]at hrl
    refine⟨_,rfl,.inl ⟨rfl,_,SqL.of h1⟩,_,rfl,_,rfl,(by show 2<=sizeLine;decide),fun p hp=> ?_⟩
    have s3:=zad hp (.tup [.int (0+(i:Int)),.int (0+(i:Int)+1+(k:Int))])
    refine⟨tl,rs,_,rfl,rfl,s3 _ _ h1,(by rw[sizeLine_eq];omega),?_⟩
    have xw:SameX tl (upd H2 p (.tup [.int (0+(i:Int)),.int (0+(i:Int)+1+(k:Int))])) (upd (upd H2 p (.tup [.int (0+(i:Int)),.int (0+(i:Int)+1+(k:Int))])) tl (.lst (rs++[.ref p]))):=(SameX.refl _ _).upd
    refine⟨fun q o hq e=> ?_,(c2.same s3).other xw (s3 _ _ h1) ntc.symm,TiesL.push (s3 _ _ h1) (h2.same s3) h3 h4 (SqT.of zac) trivial,_,rfl⟩
    have nq:q≠tl:=fun z=>by rw[z,tl0]at e;cases e
    exact xw _ _ nq (s3 _ _ (x2 _ _ hq (x _ _ hq e)))
   ·exact⟨x.trans x2,c2,tl2.mono (List.sublist_append_left _ _),_,rfl⟩
  ·obtain⟨x,c,tl1,a5,rfl⟩:=p
   rw[<-rows_succ]at tl1
   exact⟨x,c.mono (by omega),tl1,_,_,rfl⟩
 ·obtain⟨x,c,⟨rs,ts,h1,h2,h3,h4⟩,a4,a5,rfl⟩:=p
  refine⟨_,rfl,_,rfl,tl,rs,rfl,.inl ⟨SqL.of h1,fun t ht=>⟨(by show 2<=sizeLine;decide),fun wb hwb=> ?_⟩⟩⟩
  have s3:=zad ht (.tup rs)
  have s4:=zad hwb (.tup [.int n,.ref t])
  have s34:=s3.trans s4
  obtain⟨g1,g2⟩:=web_of_sub hn0 hn1 h3
  exact q wb ts _ (x.trans (s34.x _)) ((c.same s34).mono (by omega)) ⟨⟨t,rs,SqT.of zac,SqT.of (s4 _ _ zac),h2.same s34⟩,hn0,hn1,g1,g2⟩
end
end Hs
namespace Hs
open PySem L2 HsD
structure SetOk(n:Int)(xs:List Int):Prop where
 srt:xs.Pairwise (· < ·)
 lt:∀x∈xs,0<=x/\x<n
theorem SetOk.nil(n:Int):SetOk n []:=⟨.nil,fun _ h=>nomatch h⟩
theorem SetOk.len{n:Int}{xs:List Int}(h:SetOk n xs)(hn:n<=10):xs.length<=10:=by
 have h1:Sub n.toNat xs:=⟨h.srt.imp fun h e=>by omega,fun i hi=>by have:=h.lt i hi;omega⟩
 have:=h1.len
 omega
theorem SetOk.setD{n:Int}{xs:List Int}(h:SetOk n xs):HsD.setD n (.tuple (xs.map PyData.int))=true:=by
 unfold HsD.setD
 rw[Bool.and_eq_true]
 refine⟨?_,?_⟩
 ·rw[List.all_map,List.all_eq_true]
  intro x hx
  have:=h.lt x hx
  show(decide (0<=x)&&decide (x<n))=true
  rw[decide_eq_true this.1,decide_eq_true this.2];rfl
 ·rw[List.map_map]
  have e:xs.map (intD∘PyData.int)=xs:=(List.map_congr_left fun x _=>rfl).trans (List.map_id xs)
  rw[e]
  unfold risesI
  rw[List.all_eq_true]
  intro k hk
  rw[List.mem_range]at hk
  have h2:=List.pairwise_iff_getElem.mp h.srt k (k+1) (by omega) (by omega) (by omega)
  have g:∀j,(hj:j<xs.length)->xs.getD j 0=xs[j]:=fun j hj=>by rw[List.getD_eq_getElem?_getD,List.getElem?_eq_getElem hj];rfl
  rw[g k (by omega),g (k+1) (by omega)]
  exact decide_eq_true h2
noncomputable def so9(xs:List Int)(ts:List (Int×Int))(i j:Int):Bool:=hasTie ts (xs.getD i.toNat 0) (xs.getD j.toNat 0)
noncomputable def so9'(xs:List Int)(ts:List (Int×Int))(i j:Int):Bool:=decide ((xs.getD i.toNat 0,xs.getD j.toNat 0)∈ts)
theorem so9_eq{n:Int}{xs:List Int}{ts:List (Int×Int)}(h:SetOk n xs){i j:Int}(h0:0<=i)(h1:i<j)(h2:j<(xs.length:Int)):so9 xs ts i j=so9' xs ts i j:=by
 have g:∀j,(hj:j<xs.length)->xs.getD j 0=xs[j]:=fun j hj=>by rw[List.getD_eq_getElem?_getD,List.getElem?_eq_getElem hj];rfl
 have hl:=List.pairwise_iff_getElem.mp h.srt i.toNat j.toNat (by omega) (by omega) (by omega)
 rw[<-g i.toNat (by omega),<-g j.toNat (by omega)]at hl
 unfold so9 so9' hasTie
 generalize xs.getD i.toNat 0=x at *
 generalize xs.getD j.toNat 0=y at *
 rw[if_neg (by omega),if_pos (by omega)]
noncomputable def upto(n:Nat):List Int:=(List.range n).map fun(k:Nat)=>(k:Int)
theorem upto_ok(n:Int):SetOk n (upto n.toNat):=by
 unfold upto
 refine⟨?_,fun x hx=> ?_⟩
 ·rw[List.pairwise_map]
  exact List.pairwise_lt_range.imp fun h=>by omega
 ·obtain⟨k,hk,rfl⟩:=List.mem_map.mp hx
  rw[List.mem_range]at hk
  omega
theorem upto_len(n:Nat):(upto n).length=n:=by unfold upto;simp
theorem upto_get{n:Nat}{i:Int}(h0:0<=i)(h1:i<(n:Int)):(upto n).getD i.toNat 0=i:=by
 unfold upto
 rw[List.getD_eq_getElem?_getD,List.getElem?_map,List.getElem?_range (by omega)]
 show((i.toNat:Nat):Int)=i
 omega
theorem upto_rows{n:Int}{ts:List (Int×Int)}(hn:0<=n)(h:PairsOk n ts)(hs:ts.Pairwise lt2):rows (so9 (upto n.toNat) ts) n n.toNat=ts:=by
 refine(rows_eq hn hs fun p=> ?_).symm
 constructor
 ·intro hp
  have a:=h.lt p hp
  refine⟨a.1,a.2.1,a.2.2,?_⟩
  rw[so9_eq (upto_ok n) a.1 a.2.1 (by rw[upto_len];omega)]
  unfold so9'
  rw[upto_get a.1 (by omega),upto_get (by omega) (by omega)]
  exact decide_eq_true hp
 ·rintro⟨a,b,c,d⟩
  rw[so9_eq (upto_ok n) a b (by rw[upto_len];omega)]at d
  unfold so9' at d
  rw[upto_get a (by omega),upto_get (by omega) (by omega)]at d
  exact of_decide_eq_true d
section
variable{P:Program}{w:World}{K:W.Frag}{mg:Str->Option Value}{base:Heap}
end
end Hs
namespace Hs
open HsD
end Hs
namespace Hs
noncomputable def ff:Nat->Nat
 |0=>1
 |1=>1
 |2=>2
 |3=>3
 |4=>4
 |5=>6
 |6=>9
 |7=>12
 |8=>18
 |9=>27
 |_=>36
theorem ff_mono:∀m n:Nat,m<=n->n<=10->ff m<=ff n:=by
 have h:∀n:Fin 11,∀m:Fin 11,m.val<=n.val->ff m.val<=ff n.val:=by decide
 intro m n hm hn
 exact h ⟨n,by omega⟩ ⟨m,by omega⟩ hm
theorem ff_step:∀n d:Nat,0<d->d<=n->n<=10->d*ff (n-d)<=ff n:=by
 have h:∀n:Fin 11,∀d:Fin 11,0<d.val->d.val<=n.val->d.val*ff (n.val-d.val)<=ff n.val:=by decide
 intro n d h0 hd hn
 exact h ⟨n,by omega⟩ ⟨d,by omega⟩ h0 hd
structure Full(r:Int->Int->Bool)(V:List Int)(s:List Int):Prop where
 up:s.Pairwise (· < ·)
 sub:∀x∈s,x∈V
 ind:∀x∈s,∀y∈s,x≠y->r x y=false
 max:∀v∈V,v∉s->∃x∈s,r x v=true
theorem least_at(g:Int->Nat):∀V:List Int,V≠[]->∃v∈V,∀u∈V,g v<=g u
 |[],h=>absurd rfl h
 |[x],_=>⟨x,by simp,fun u hu=>by rw[List.mem_singleton.mp hu];exact Nat.le_refl _⟩
 |x::y::V,_=>by
  obtain⟨v,hv,hm⟩:=least_at g (y::V) (by simp)
  by_cases c:g x<=g v
  ·refine⟨x,by simp,fun u hu=> ?_⟩
   rcases List.mem_cons.mp hu with e|e
   ·rw[e];exact Nat.le_refl _
   ·exact Nat.le_trans c (hm u e)
  ·refine⟨v,List.mem_cons_of_mem _ hv,fun u hu=> ?_⟩
   rcases List.mem_cons.mp hu with e|e
   ·rw[e];omega
   ·exact hm u e
theorem filter_two{α:Type}(p:α->Bool):∀l:List α,(l.filter p).length+(l.filter fun x=> !p x).length=l.length
 |[]=>rfl
 |x::l=>by
  have ih:=filter_two p l
  rw[List.filter_cons,List.filter_cons]
  cases p x<;>simp <;>omega
theorem cover_len{α β:Type}(p:β->α->Bool)(m:Nat):∀(us:List β) (fs:List α),(∀s∈fs,∃u∈us,p u s=true)->(∀u∈us,∀gs:List α,gs.Sublist fs->(∀s∈gs,p u s=true)->gs.length<=m)->fs.length<=us.length*m
 |[],fs,h,_=>by
  cases fs with
  |nil=>simp
  |cons s fs=>obtain⟨u,hu,_⟩:=h s (by simp);cases hu
 |u::us,fs,h,hm=>by
  have e:=filter_two (p u) fs
  have a:=hm u (by simp) (fs.filter (p u)) List.filter_sublist (fun s hs=>(List.mem_filter.mp hs).2)
  have b:=cover_len p m us (fs.filter fun x=> !p u x) (fun s hs=>by
   obtain⟨h1,h2⟩:=List.mem_filter.mp hs
   obtain⟨w,hw,hp⟩:=h s h1
   rcases List.mem_cons.mp hw with z|z
   ·rw[z]at hp;rw[hp]at h2;cases h2
   ·exact⟨w,z,hp⟩) (fun w hw gs hg hp=>hm w (List.mem_cons_of_mem _ hw) gs (hg.trans List.filter_sublist) hp)
  rw[List.length_cons,Nat.succ_mul]
  omega
theorem up_same:∀{xs ys:List Int},xs.Pairwise (· < ·)->ys.Pairwise (· < ·)->(∀k,k∈xs↔k∈ys)->xs=ys
 |[],[],_,_,_=>rfl
 |[],y::ys,_,_,h=>by have:=(h y).mpr (by simp);simp at this
 |x::xs,[],_,_,h=>by have:=(h x).mp (by simp);simp at this
 |x::xs,y::ys,hx,hy,h=>by
  rw[List.pairwise_cons]at hx hy
  have e:x=y:=by
   have a:=(h x).mp (by simp)
   have b:=(h y).mpr (by simp)
   rcases List.mem_cons.mp a with a|a
   ·exact a
   ·rcases List.mem_cons.mp b with b|b
    ·exact b.symm
    ·have:=hy.1 x a;have:=hx.1 y b;omega
  subst e
  rw[up_same hx.2 hy.2 fun k=> ?_]
  constructor
  ·intro hk
   rcases List.mem_cons.mp ((h k).mp (List.mem_cons_of_mem _ hk))with a|a
   ·have:=hx.1 k hk;omega
   ·exact a
  ·intro hk
   rcases List.mem_cons.mp ((h k).mpr (List.mem_cons_of_mem _ hk))with a|a
   ·have:=hy.1 k hk;omega
   ·exact a
theorem map_nodup{α β:Type}{g:α->β}:∀{l:List α},l.Nodup->(∀a∈l,∀b∈l,g a=g b->a=b)->(l.map g).Nodup
 |[],_,_=>List.nodup_nil
 |a::l,h,hi=>by
  rw[List.nodup_cons]at h
  rw[List.map_cons,List.nodup_cons]
  refine⟨fun hm=> ?_,map_nodup h.2 fun x hx y hy=>hi x (List.mem_cons_of_mem _ hx) y (List.mem_cons_of_mem _ hy)⟩
  obtain⟨b,hb,e⟩:=List.mem_map.mp hm
  have:=hi b (List.mem_cons_of_mem _ hb) a (by simp) e
  rw[this]at hb
  exact h.1 hb
noncomputable def nearTo(r:Int->Int->Bool)(v u:Int):Bool:=decide (u=v)||r u v
theorem full_count{r:Int->Int->Bool}(sym:∀i j,r i j=r j i):∀(n:Nat) (V:List Int),V.length=n->n<=10->∀fs:List (List Int),fs.Nodup->(∀s∈fs,Full r V s)->fs.length<=ff n:=by
 intro n
 induction n using Nat.strongRecOn with
 |ind n ih=>
  intro V hV hn fs nd hf
  by_cases hz:V=[]
  ·have e:∀s∈fs,s=[]:=fun s hs=>by
    cases s with
    |nil=>rfl
    |cons x s=>have:=(hf _ hs).sub x (by simp);rw[hz]at this;cases this
   have l1:fs.length<=1:=by
    match fs,nd,e with
    |[],_,_=>simp
    |[_],_,_=>simp
    |a::b::fs,nd,e=>
     exfalso
     rw[List.nodup_cons]at nd
     apply nd.1
     rw[e a (by simp),e b (by simp)]
     simp
   have:1<=ff n:=by
    have:=ff_mono 0 n (Nat.zero_le _) hn
    exact this
   omega
  obtain⟨v,hv,hmin⟩:=least_at (fun u=>(V.filter (nearTo r u)).length) V hz
  have key:=cover_len (fun(u:Int) (s:List Int)=>decide (u∈s)) (ff (n-(V.filter (nearTo r v)).length)) (V.filter (nearTo r v)) fs (fun s hs=> ?_) (fun u hu gs hg hp=> ?_)
  ·have hle:(V.filter (nearTo r v)).length<=n:=by rw[<-hV];exact List.length_filter_le _ _
   have hpos:0<(V.filter (nearTo r v)).length:=List.length_pos_of_mem (List.mem_filter.mpr ⟨hv,by unfold nearTo;simp⟩)
   exact Nat.le_trans key (ff_step n _ hpos hle hn)
  ·by_cases c:v∈s
   ·exact⟨v,List.mem_filter.mpr ⟨hv,by unfold nearTo;simp⟩,decide_eq_true c⟩
   ·obtain⟨x,hx,hr⟩:=(hf s hs).max v hv c
    exact⟨x,List.mem_filter.mpr ⟨(hf s hs).sub x hx,by unfold nearTo;rw[hr];simp⟩,decide_eq_true hx⟩
  ·have huV:u∈V:=(List.mem_filter.mp hu).1
   have fg:∀s∈gs,Full r V s/\u∈s:=fun s hs=>⟨hf s (hg.subset hs),of_decide_eq_true (hp s hs)⟩
   have hle:(V.filter (nearTo r u)).length<=n:=by rw[<-hV];exact List.length_filter_le _ _
   have hge:=hmin u huV
   have hpos:0<(V.filter (nearTo r u)).length:=List.length_pos_of_mem (List.mem_filter.mpr ⟨huV,by unfold nearTo;simp⟩)
   have hV2:(V.filter fun x=> !nearTo r u x).length=n-(V.filter (nearTo r u)).length:=by have:=filter_two (nearTo r u) V;omega
   have memf:∀(s:List Int) (x:Int),x∈s.filter (fun x=> !decide (x=u))↔x∈s/\x≠u:=fun s x=>by rw[List.mem_filter];simp
   have h1:=ih (n-(V.filter (nearTo r u)).length) (by omega) (V.filter fun x=> !nearTo r u x) hV2 (by omega) (gs.map fun s=>s.filter fun x=> !decide (x=u)) (map_nodup (nd.sublist hg) fun s hs t ht e=> ?_) (fun t ht=> ?_)
   ·rw[List.length_map]at h1
    exact Nat.le_trans h1 (ff_mono _ _ (by omega) (by omega))
   ·obtain⟨a1,a2⟩:=fg s hs
    obtain⟨b1,b2⟩:=fg t ht
    refine up_same a1.up b1.up fun k=> ?_
    have hk:k∈s.filter (fun x=> !decide (x=u))↔k∈t.filter (fun x=> !decide (x=u)):=by rw[show s.filter (fun x=> !decide (x=u))=t.filter (fun x=> !decide (x=u))from e]
    rw[memf,memf]at hk
    by_cases c:k=u
    ·rw[c];exact⟨fun _=>b2,fun _=>a2⟩
    ·exact⟨fun z=>(hk.mp ⟨z,c⟩).1,fun z=>(hk.mpr ⟨z,c⟩).1⟩
   ·obtain⟨s,hs,rfl⟩:=List.mem_map.mp ht
    obtain⟨a1,a2⟩:=fg s hs
    refine⟨a1.up.sublist List.filter_sublist,fun x hx=> ?_,fun x hx y hy=> ?_,fun w hw hn=> ?_⟩
    ·obtain⟨x1,x2⟩:=(memf s x).mp hx
     refine List.mem_filter.mpr ⟨a1.sub x x1,?_⟩
     unfold nearTo
     rw[a1.ind x x1 u a2 x2,decide_eq_false x2]
     rfl
    ·exact a1.ind x ((memf s x).mp hx).1 y ((memf s y).mp hy).1
    ·obtain⟨w1,w2⟩:=List.mem_filter.mp hw
     have w3:nearTo r u w=false:=by simpa using w2
     unfold nearTo at w3
     rw[Bool.or_eq_false_iff]at w3
     have wu:w≠u:=of_decide_eq_false w3.1
     have ws:w∉s:=fun z=>hn ((memf s w).mpr ⟨z,wu⟩)
     obtain⟨x,hx,hr⟩:=a1.max w w1 ws
     have xu:x≠u:=fun z=>by rw[z,sym u w,w3.2]at hr;cases hr
     exact⟨x,(memf s x).mpr ⟨hx,xu⟩,hr⟩
end Hs
namespace Hs
open PySem HsD
noncomputable def rng(n:Nat):List Int:=(List.range n).map fun k=>((k:Nat):Int)
theorem mem_rng{n:Nat}{x:Int}:x∈rng n↔0<=x/\x<(n:Int):=by
 unfold rng
 rw[List.mem_map]
 constructor
 ·rintro⟨k,hk,rfl⟩
  have:=List.mem_range.mp hk
  omega
 ·rintro⟨h0,h1⟩
  exact⟨x.toNat,List.mem_range.mpr (by omega),by omega⟩
theorem zcg(ts:List (Int×Int))(i j:Int):tiedL ts i j=tiedL ts j i:=by unfold tiedL;rw[Bool.or_comm]
noncomputable def goB(ts:List (Int×Int))(w:Bool)(s:List Int)(p:Int):Bool:=s.all fun q=>tiedL ts p q==w
noncomputable def setsL(ts:List (Int×Int))(w:Bool):Nat->List (List Int)
 |0=>[[]]
 |k+1=>setsL ts w k++((setsL ts w k).filter fun s=>goB ts w s (k:Int)).map fun s=>s++[(k:Int)]
noncomputable def fullB(ts:List (Int×Int))(w:Bool)(n:Nat)(s:List Int):Bool:= !((rng n).any fun p=> !decide (p∈s)&&goB ts w s p)
noncomputable def fulls(ts:List (Int×Int))(w:Bool)(n:Nat):List (List Int):=(setsL ts w n).filter (fullB ts w n)
structure SetK(ts:List (Int×Int))(w:Bool)(k:Nat)(s:List Int):Prop where
 up:s.Pairwise (· < ·)
 lt:∀x∈s,0<=x/\x<(k:Int)
 all:∀x∈s,∀y∈s,x≠y->(tiedL ts x y==w)=true
theorem sets_k{ts:List (Int×Int)}{w:Bool}:∀(k:Nat) (s:List Int),s∈setsL ts w k->SetK ts w k s
 |0,s,h=>by
  rw[List.mem_singleton.mp (show s∈[[]]from h)]
  exact⟨List.Pairwise.nil,fun x hx=>(nomatch hx),fun x hx=>(nomatch hx)⟩
 |k+1,s,h=>by
  rcases List.mem_append.mp (show s∈setsL ts w k++((setsL ts w k).filter fun s=>goB ts w s (k:Int)).map fun s=>s++[(k:Int)]from h)with q|q
  ·have S:=sets_k k s q
   exact⟨S.up,fun x hx=>by have:=S.lt x hx;omega,S.all⟩
  ·obtain⟨t,ht,rfl⟩:=List.mem_map.mp q
   obtain⟨t1,t2⟩:=List.mem_filter.mp ht
   have S:=sets_k k t t1
   have g:∀y∈t,(tiedL ts (k:Int) y==w)=true:=fun y hy=>List.all_eq_true.mp t2 y hy
   refine⟨?_,fun x hx=> ?_,fun x hx y hy hne=> ?_⟩
   ·rw[List.pairwise_append]
    refine⟨S.up,List.pairwise_singleton _ _,fun x hx y hy=> ?_⟩
    rw[List.mem_singleton.mp hy]
    exact(S.lt x hx).2
   ·rcases List.mem_append.mp hx with z|z
    ·have:=S.lt x z;omega
    ·rw[List.mem_singleton.mp z];omega
   ·rcases List.mem_append.mp hx with z|z
    ·rcases List.mem_append.mp hy with z'|z'
     ·exact S.all x z y z' hne
     ·rw[List.mem_singleton.mp z',zcg];exact g x z
    ·rw[List.mem_singleton.mp z]at hne⊢
     rcases List.mem_append.mp hy with z'|z'
     ·exact g y z'
     ·exact absurd (List.mem_singleton.mp z').symm hne
theorem sets_nodup{ts:List (Int×Int)}{w:Bool}:∀k:Nat,(setsL ts w k).Nodup
 |0=>by show([[]]:List (List Int)).Nodup;simp
 |k+1=>by
  show(setsL ts w k++((setsL ts w k).filter fun s=>goB ts w s (k:Int)).map fun s=>s++[(k:Int)]).Nodup
  refine List.nodup_append.mpr ⟨sets_nodup k,map_nodup ((sets_nodup k).filter _) (fun a _ b _ e=>List.append_cancel_right e),fun a ha b hb e=> ?_⟩
  obtain⟨t,_,rfl⟩:=List.mem_map.mp hb
  have:=(sets_k k a ha).lt (k:Int) (by rw[e];simp)
  omega
theorem sets_len{ts:List (Int×Int)}{w:Bool}:∀k:Nat,(setsL ts w k).length<=2^k
 |0=>Nat.le_refl _
 |k+1=>by
  show(setsL ts w k++((setsL ts w k).filter fun s=>goB ts w s (k:Int)).map fun s=>s++[(k:Int)]).length<=2^(k+1)
  rw[List.length_append,List.length_map,Nat.pow_succ]
  have a:=sets_len (ts:=ts) (w:=w) k
  have b:=List.length_filter_le (fun s=>goB ts w s (k:Int)) (setsL ts w k)
  omega
theorem full_of{ts:List (Int×Int)}{w:Bool}{n:Nat}{s:List Int}(h:s∈fulls ts w n):Full (fun i j=> !(tiedL ts i j==w)) (rng n) s:=by
 obtain⟨h1,h2⟩:=List.mem_filter.mp h
 have S:=sets_k n s h1
 refine⟨S.up,fun x hx=>mem_rng.mpr (S.lt x hx),fun x hx y hy hne=>by rw[S.all x hx y hy hne];rfl,fun v hv hn=> ?_⟩
 unfold fullB at h2
 apply Classical.byContradiction
 intro hc
 have h3:((rng n).any fun p=> !decide (p∈s)&&goB ts w s p)=false:=by simpa using h2
 rw[List.any_eq_false]at h3
 apply h3 v hv
 rw[decide_eq_false hn]
 show goB ts w s v=true
 unfold goB
 rw[List.all_eq_true]
 intro q hq
 cases e:(tiedL ts v q==w)with
 |true=>rfl
 |false=>exact absurd ⟨q,hq,by show(!(tiedL ts q v==w))=true;rw[zcg,e];rfl⟩ hc
theorem fulls_len{ts:List (Int×Int)}{w:Bool}{n:Nat}(hn:n<=10):(fulls ts w n).length<=36:=by
 have h:=full_count (r:=fun i j=> !(tiedL ts i j==w)) (fun i j=>by rw[zcg]) n (rng n) (by unfold rng;simp) hn (fulls ts w n) ((sets_nodup n).filter _) (fun s hs=>full_of hs)
 have:=ff_mono n 10 hn (Nat.le_refl _)
 exact Nat.le_trans h this
noncomputable def leftL(ts:List (Int×Int))(w:Bool)(n:Nat)(s:List Int):List Int:=(rng n).filter fun p=>s.all fun q=> !decide (p=q)&&(tiedL ts q p==w)
noncomputable def friendL(ts:List (Int×Int))(w:Bool)(n:Nat)(q:Int):List Int:=(rng n).filter fun p=> !decide (p=q)&&(tiedL ts q p==w)
theorem left_nil(ts:List (Int×Int))(w:Bool)(n:Nat):leftL ts w n []=rng n:=by unfold leftL;exact List.filter_eq_self.mpr fun _ _=>rfl
theorem left_snoc(ts:List (Int×Int))(w:Bool)(n:Nat)(s:List Int)(k:Int):leftL ts w n (s++[k])=(leftL ts w n s).filter fun p=>decide (p∈friendL ts w n k):=by
 unfold leftL
 rw[List.filter_filter]
 refine List.filter_congr fun p hp=> ?_
 rw[List.all_append,Bool.and_comm]
 congr 1
 unfold friendL
 rw[Bool.eq_iff_iff,decide_eq_true_eq,List.mem_filter]
 simp[hp]
theorem in_left{ts:List (Int×Int)}{w:Bool}{n k:Nat}{s:List Int}(hs:SetK ts w k s)(hk:k<n):decide ((k:Int)∈leftL ts w n s)=goB ts w s (k:Int):=by
 unfold leftL goB
 rw[Bool.eq_iff_iff,decide_eq_true_eq,List.mem_filter,List.all_eq_true,List.all_eq_true]
 constructor
 ·rintro⟨_,h⟩ q hq
  have:=h q hq
  rw[Bool.and_eq_true]at this
  rw[zcg];exact this.2
 ·intro h
  refine⟨mem_rng.mpr ⟨by omega,by omega⟩,fun q hq=> ?_⟩
  have:=(hs.lt q hq).2
  rw[Bool.and_eq_true]
  refine⟨?_,by rw[zcg];exact h q hq⟩
  rw[decide_eq_false (by omega)];rfl
theorem left_full(ts:List (Int×Int))(w:Bool)(n:Nat)(s:List Int):decide (leftL ts w n s=[])=fullB ts w n s:=by
 unfold leftL fullB
 rw[Bool.eq_iff_iff,decide_eq_true_eq,List.filter_eq_nil_iff,Bool.not_eq_true',List.any_eq_false]
 constructor
 ·intro h p hp hc
  rw[Bool.and_eq_true]at hc
  apply h p hp
  rw[List.all_eq_true]
  intro q hq
  have h1:p∉s:=by simpa using hc.1
  have h2:=List.all_eq_true.mp hc.2 q hq
  rw[Bool.and_eq_true]
  refine⟨?_,by rw[zcg];exact h2⟩
  have ne:¬p=q:=fun e=>h1 (by rw[e];exact hq)
  rw[decide_eq_false ne];rfl
 ·intro h p hp hc
  apply h p hp
  rw[List.all_eq_true]at hc
  rw[Bool.and_eq_true]
  refine⟨?_,?_⟩
  ·have:p∉s:=fun z=>by
    have:=hc p z
    simp at this
   rw[decide_eq_false this];rfl
  ·unfold goB
   rw[List.all_eq_true]
   intro q hq
   have:=hc q hq
   rw[Bool.and_eq_true]at this
   rw[zcg];exact this.2
end Hs
namespace Hs
open PySem HsD
theorem rising_same:∀{xs ys:List Int},xs.Pairwise (· < ·)->ys.Pairwise (· < ·)->(∀k,k∈xs↔k∈ys)->xs=ys
 |[],[],_,_,_=>rfl
 |[],y::ys,_,_,h=>by have:=(h y).mpr (by simp);simp at this
 |x::xs,[],_,_,h=>by have:=(h x).mp (by simp);simp at this
 |x::xs,y::ys,hx,hy,h=>by
  rw[List.pairwise_cons]at hx hy
  have e:x=y:=by
   have a:=(h x).mp (by simp)
   have b:=(h y).mpr (by simp)
   rcases List.mem_cons.mp a with a|a
   ·exact a
   ·rcases List.mem_cons.mp b with b|b
    ·exact b.symm
    ·have:=hy.1 x a;have:=hx.1 y b;omega
  subst e
  rw[rising_same hx.2 hy.2 fun k=> ?_]
  constructor
  ·intro hk
   rcases List.mem_cons.mp ((h k).mp (List.mem_cons_of_mem _ hk))with a|a
   ·have:=hx.1 k hk;omega
   ·exact a
  ·intro hk
   rcases List.mem_cons.mp ((h k).mpr (List.mem_cons_of_mem _ hk))with a|a
   ·have:=hy.1 k hk;omega
   ·exact a
theorem sets_of{ts:List (Int×Int)}{w:Bool}:∀(k:Nat) (s:List Int),SetK ts w k s->s∈setsL ts w k
 |0,s,h=>by
  cases s with
  |nil=>show([]:List Int)∈[[]];simp
  |cons x s=>have:=h.lt x (by simp);omega
 |k+1,s,h=>by
  show s∈setsL ts w k++((setsL ts w k).filter fun s=>goB ts w s (k:Int)).map fun s=>s++[(k:Int)]
  by_cases c:(k:Int)∈s
  ·have hm:∀x,x∈s.filter (fun x=> !decide (x=(k:Int)))↔x∈s/\x≠(k:Int):=fun x=>by rw[List.mem_filter];simp
   refine List.mem_append_right _ (List.mem_map.mpr ⟨s.filter (fun x=> !decide (x=(k:Int))),List.mem_filter.mpr ⟨sets_of k _ ⟨h.up.filter _,fun x hx=> ?_,fun x hx y hy hne=> ?_⟩,?_⟩,?_⟩)
   ·have a:=(hm x).mp hx
    have b:=h.lt x a.1
    have:=a.2
    omega
   ·exact h.all x ((hm x).mp hx).1 y ((hm y).mp hy).1 hne
   ·unfold goB
    rw[List.all_eq_true]
    intro q hq
    have a:=(hm q).mp hq
    exact h.all _ c q a.1 (fun e=>a.2 e.symm)
   ·refine rising_same ?_ h.up fun x=> ?_
    ·rw[List.pairwise_append]
     refine⟨h.up.filter _,List.pairwise_singleton _ _,fun x hx y hy=> ?_⟩
     rw[List.mem_singleton.mp hy]
     have a:=(hm x).mp hx
     have b:=h.lt x a.1
     have:=a.2
     omega
    ·rw[List.mem_append,hm,List.mem_singleton]
     constructor
     ·rintro(a|a)
      ·exact a.1
      ·rw[a];exact c
     ·intro a
      by_cases e:x=(k:Int)
      ·exact .inr e
      ·exact .inl ⟨a,e⟩
  ·refine List.mem_append_left _ (sets_of k s ⟨h.up,fun x hx=> ?_,h.all⟩)
   have b:=h.lt x hx
   have:x≠(k:Int):=fun e=>c (by rw[<-e];exact hx)
   omega
theorem SetK.of{ts:List (Int×Int)}{w:Bool}{n:Nat}{s:List Int}(F:Full (fun i j=> !(tiedL ts i j==w)) (rng n) s):SetK ts w n s:=
 ⟨F.up,fun x hx=>mem_rng.mp (F.sub x hx),fun x hx y hy hne=>by
  have:=F.ind x hx y hy hne
  try dsimp only at this
  cases e:(tiedL ts x y==w)with
  |true=>rfl
  |false=>rw[e]at this;cases this⟩
theorem full_in{ts:List (Int×Int)}{w:Bool}{n:Nat}{s:List Int}(F:Full (fun i j=> !(tiedL ts i j==w)) (rng n) s):s∈fulls ts w n:=by
 refine List.mem_filter.mpr ⟨sets_of n s (SetK.of F),?_⟩
 unfold fullB
 rw[Bool.not_eq_true',List.any_eq_false]
 intro p hp hc
 rw[Bool.and_eq_true]at hc
 have hn:p∉s:=by simpa using hc.1
 obtain⟨x,hx,hr⟩:=F.max p hp hn
 have:=List.all_eq_true.mp hc.2 x hx
 try dsimp only at hr this
 rw[zcg,this]at hr
 cases hr
theorem tied_rows{so:Int->Int->Bool}{m:Int}{i j:Int}(h0:0<=i)(h1:i<j)(h2:j<m):tiedL (rows so m m.toNat) i j=so i j:=by
 unfold tiedL
 have a:decide ((j,i)∈rows so m m.toNat)=false:=decide_eq_false fun z=>by
  rw[mem_rows]at z
  have:=z.2.2.1
  try dsimp only at this
  omega
 rw[a,Bool.or_false,Bool.eq_iff_iff,decide_eq_true_eq,mem_rows]
 constructor
 ·exact fun z=>z.2.2.2.2
 ·intro z
  exact⟨h0,by show i<_;omega,h1,h2,z⟩
theorem most_at{α:Type}(g:α->Nat):∀V:List α,V≠[]->∃v∈V,∀u∈V,g u<=g v
 |[],h=>absurd rfl h
 |[x],_=>⟨x,by simp,fun u hu=>by rw[List.mem_singleton.mp hu];exact Nat.le_refl _⟩
 |x::y::V,_=>by
  obtain⟨v,hv,hm⟩:=most_at g (y::V) (by simp)
  by_cases c:g v<=g x
  ·refine⟨x,by simp,fun u hu=> ?_⟩
   rcases List.mem_cons.mp hu with e|e
   ·rw[e];exact Nat.le_refl _
   ·exact Nat.le_trans (hm u e) c
  ·refine⟨v,List.mem_cons_of_mem _ hv,fun u hu=> ?_⟩
   rcases List.mem_cons.mp hu with e|e
   ·rw[e];omega
   ·exact hm u e
theorem ext_full{ts:List (Int×Int)}{w:Bool}{n:Nat}{s:List Int}(hs:SetK ts w n s):∃t∈fulls ts w n,∀x∈s,x∈t:=by
 let C:=(setsL ts w n).filter fun t=>s.all fun x=>decide (x∈t)
 have mC:∀t,t∈C↔t∈setsL ts w n/\∀x∈s,x∈t:=fun t=>by
  show t∈(setsL ts w n).filter _↔_
  rw[List.mem_filter,List.all_eq_true]
  simp
 have hne:C≠[]:=fun e=>by
  have:s∈C:=(mC s).mpr ⟨sets_of n s hs,fun x hx=>hx⟩
  rw[e]at this;cases this
 obtain⟨t,ht,hm⟩:=most_at List.length C hne
 obtain⟨h1,h2⟩:=(mC t).mp ht
 have T:=sets_k n t h1
 refine⟨t,full_in ⟨T.up,fun x hx=>mem_rng.mpr (T.lt x hx),fun x hx y hy hne=> ?_,fun v hv hn=> ?_⟩,h2⟩
 ·show(!(tiedL ts x y==w))=false
  rw[T.all x hx y hy hne];rfl
 ·apply Classical.byContradiction
  intro hc
  have go:∀x∈t,(tiedL ts x v==w)=true:=fun x hx=>by
   cases e:(tiedL ts x v==w)with
   |true=>rfl
   |false=>exact absurd ⟨x,hx,by show(!(tiedL ts x v==w))=true;rw[e];rfl⟩ hc
  have mU:∀x,x∈(rng n).filter (fun x=>decide (x∈t)||decide (x=v))↔x∈t\/x=v:=fun x=>by
   rw[List.mem_filter,Bool.or_eq_true,decide_eq_true_eq,decide_eq_true_eq]
   constructor
   ·exact fun z=>z.2
   ·rintro(z|z)
    ·exact⟨mem_rng.mpr (T.lt x z),.inl z⟩
    ·exact⟨by rw[z];exact hv,.inr z⟩
  have up:((rng n).filter (fun x=>decide (x∈t)||decide (x=v))).Pairwise (· < ·):=by
   refine List.Pairwise.filter _ ?_
   unfold rng
   rw[List.pairwise_map]
   exact List.pairwise_lt_range.imp fun{a b} h=>by omega
  have U:SetK ts w n ((rng n).filter (fun x=>decide (x∈t)||decide (x=v))):=⟨up,fun x hx=>mem_rng.mp (List.mem_filter.mp hx).1,fun x hx y hy hne=>by
   rcases(mU x).mp hx with a|a
   ·rcases(mU y).mp hy with b|b
    ·exact T.all x a y b hne
    ·rw[b];exact go x a
   ·rcases(mU y).mp hy with b|b
    ·rw[a,zcg];exact go y b
    ·exact absurd (a.trans b.symm) hne⟩
  have inC:=(mC _).mpr ⟨sets_of n _ U,fun x hx=>(mU x).mpr (.inl (h2 x hx))⟩
  have l1:=hm _ inC
  have l2:=nodup_len (l:=v::t) (m:=(rng n).filter (fun x=>decide (x∈t)||decide (x=v))) (List.nodup_cons.mpr ⟨hn,T.up.imp fun{a b} h=>by omega⟩) (fun x hx=>by
   rcases List.mem_cons.mp hx with z|z
   ·exact(mU x).mpr (.inr z)
   ·exact(mU x).mpr (.inl z))
  rw[List.length_cons]at l2
  omega
theorem getD_at{xs:List Int}{i:Int}(h0:0<=i)(h1:i<(xs.length:Int)):xs.getD i.toNat 0∈xs:=by
 have hk:i.toNat<xs.length:=by omega
 rw[List.getD_eq_getElem?_getD,List.getElem?_eq_getElem hk]
 exact List.getElem_mem hk
theorem getD_lt{xs:List Int}(hs:xs.Pairwise (· < ·)){i j:Int}(h0:0<=i)(h1:i<j)(h2:j<(xs.length:Int)):xs.getD i.toNat 0<xs.getD j.toNat 0:=by
 have g:∀j,(hj:j<xs.length)->xs.getD j 0=xs[j]:=fun j hj=>by rw[List.getD_eq_getElem?_getD,List.getElem?_eq_getElem hj];rfl
 have hl:=List.pairwise_iff_getElem.mp hs i.toNat j.toNat (by omega) (by omega) (by omega)
 rw[<-g i.toNat (by omega),<-g j.toNat (by omega)]at hl
 exact hl
theorem cut_set{n:Int}{ts:List (Int×Int)}{w:Bool}{xs s:List Int}(ht:PairsOk n ts)(hok:SetOk n xs)(h0:0<=n)(h:SetK (rows (so9 xs ts) (xs.length:Int) (xs.length:Int).toNat) w xs.length s):SetK ts w n.toNat (s.map fun i=>xs.getD i.toNat 0):=by
 have key:∀i j:Int,0<=i->i<j->j<(xs.length:Int)->tiedL (rows (so9 xs ts) (xs.length:Int) (xs.length:Int).toNat) i j=tiedL ts (xs.getD i.toNat 0) (xs.getD j.toNat 0):=fun i j a b c=>by
  rw[tied_rows a b c]
  unfold so9
  rw[tied_eq ht]
 refine⟨?_,fun x hx=> ?_,fun x hx y hy hne=> ?_⟩
 ·rw[List.pairwise_map]
  refine List.Pairwise.imp_of_mem (fun{a b} ha hb hab=> ?_) h.up
  exact getD_lt hok.srt (h.lt a ha).1 hab (h.lt b hb).2
 ·obtain⟨i,hi,rfl⟩:=List.mem_map.mp hx
  have:=hok.lt _ (getD_at (h.lt i hi).1 (h.lt i hi).2)
  omega
 ·obtain⟨i,hi,rfl⟩:=List.mem_map.mp hx
  obtain⟨j,hj,rfl⟩:=List.mem_map.mp hy
  have ne:i≠j:=fun e=>hne (by rw[e])
  have a:=h.all i hi j hj ne
  rcases Int.lt_or_lt_of_ne ne with c|c
  ·rw[key i j (h.lt i hi).1 c (h.lt j hj).2]at a
   exact a
  ·rw[zcg,key j i (h.lt j hj).1 c (h.lt i hi).2,zcg]at a
   exact a
end Hs
namespace Hs
open PySem L2 HsD
section
variable{P:Program}{w:World}{K:W.Frag}{mg:Str->Option Value}{base:Heap}
theorem blV_eq(a b:Bool):decide (V.bl a=V.bl b)=(a==b):=by cases a<;>cases b<;>rfl
theorem intV_eq(a b:Int):decide (V.int a=V.int b)=decide (a=b):=by
 by_cases e:a=b
 ·subst e;simp
 ·rw[decide_eq_false e,decide_eq_false (by intro z;injection z with z;exact e z)]
theorem intV_ne{a b:Int}:(!decide (V.int a=V.int b))= !decide (a=b):=by rw[intV_eq]
theorem any_ints(xs:List Int)(k:Int):((xs.map PyData.int).any fun d=>PyData.eqv d (.int k))=decide (k∈xs):=by
 induction xs with
 |nil=>simp
 |cons x xs ih=>
  rw[List.map_cons,List.any_cons,ih]
  have e:PyData.eqv (.int x) (.int k)=decide (k=x):=by
   show(x==k)=_
   rw[Bool.eq_iff_iff];simp;exact⟨fun h=>h.symm,fun h=>h.symm⟩
  rw[e,Bool.eq_iff_iff]
  simp
theorem zbt{α:Type}{p:α->Bool}{l:List α}{i:Nat}(hi:i<l.length):(l.take (i+1)).filter p=(l.take i).filter p++(if p l[i]=true then[l[i]]else[]):=by
 rw[List.take_add_one,List.getElem?_eq_getElem hi,List.filter_append]
 congr 1
 show[l[i]].filter p=_
 rw[List.filter_cons]
 rfl
theorem rng_succ(k:Nat):rng (k+1)=rng k++[(k:Int)]:=by unfold rng;rw[List.range_succ,List.map_append];rfl
theorem tupR_rng(n:Nat):tupR n=(rng n).map V.int:=by unfold tupR rng;rw[List.map_map];rfl
noncomputable def spInBoth(K:W.Frag):Sp:=fun vs H Q _=>∃(l m:Addr) (xs ys:List Int),vs=[.ref l,.ref m]/\SqL K H l (xs.map V.int)/\SqL K H m (ys.map V.int)/\∀r H',Same H H'->H' r=some (.lst ((xs.filter fun p=>decide (p∈ys)).map V.int))->H r=none->Q (.ref r) H'
theorem sc_inBoth:FnScope ["ones","others"] ["ones","others"] (defScope zcz):=⟨rfl,rfl,rfl,by decide+kernel,rfl,by decide+kernel,by decide+kernel⟩
theorem ok_inBoth{f:Addr}{fd:FuncData}(F:Fun K "in_both" "in_both" zcz f fd):
  FnOk P w K mg base CX0 1 f fd ["ones","others"] (spInBoth K):=by
 refine F.ok sc_inBoth (fun vs H Q E h=> ?_) (fun cdv A outer s H vs Q E hr h=> ?_)
 ·obtain⟨l,m,xs,ys,rfl,_⟩:=h
  rfl
 obtain⟨l,m,xs,ys,rfl,hL,hM,q⟩:=h
 refine⟨_,(zag (zak (zck (own:=["place"]) (caps:=["others"]) (ix:=[1]) rfl (zcy (pv 0)) rfl rfl (.cons rfl rfl .nil) (fun _ _ _ _ _=>(zaj (i:=0) (show(["place","others"]:List Str).Nodup from by decide+kernel) rfl (Or.inl rfl))) (fun _ _ _ _ _=>pts_one (zaq (op_inDK K hr.units) (pv 0) (pv 1) (by with_unfolding_all rfl))) (fun _ _ _ _ _=>(pv 0))))),?_⟩
 refine⟨_,rfl,l,_,rfl,hL,fun hz=> ?_⟩
 refine comp_list (xs:=xs.map V.int) (fun k acc σ H'=>acc=((xs.take k).filter fun p=>decide (p∈ys)).map V.int/\Same H H'/\∃o,σ=[o,some (.ref m)]) ⟨rfl,Same.refl _,_,rfl⟩ (fun k acc σ H' _ p=>p.2.1.seq hL) (fun k acc σ H' hk p=> ?_) hz (fun k x acc σ H' hx p=> ?_) (fun acc σ H' p=> ?_)
 ·rw[p.1,List.length_map]
  exact Nat.le_trans (List.length_filter_le _ _) (by rw[List.length_take];exact Nat.min_le_left _ _)
 ·obtain⟨rfl,sm,o,rfl⟩:=p
  rw[List.getElem?_map]at hx
  cases ex:xs[k]? with
  |none=>rw[ex]at hx;cases hx
  |some y=>
   rw[ex]at hx
   cases hx
   obtain⟨hk,ey⟩:=List.getElem?_eq_some_iff.mp ex
   have e:=zbt (p:=fun p=>decide (p∈ys)) hk
   rw[ey]at e
   refine⟨_,rfl,_,rfl,m,_,_,.int y,rfl,.inl (sm.seq hM),DVs.ints ys,.int _,zcw ys,rfl,(by show 0<=60;decide),_,rfl,?_⟩
   rw[any_ints]
   refine ite2 (fun c=> ?_) (fun c=> ?_)
   ·exact⟨_,rfl,by rw[e,if_pos c,List.map_append];rfl,sm,_,rfl⟩
   ·exact⟨by rw[e,if_neg c,List.append_nil],sm,_,rfl⟩
 ·intro p1 hp1
  obtain⟨rfl,sm,_⟩:=p
  rw[List.length_map,List.take_length]
  exact q p1 _ (sm.trans (zad hp1 _)) zac (sm.free hp1)
noncomputable def spByTie(K:W.Frag):Sp:=fun vs H Q _=>∃(a:Addr) (n i:Int) (ts:List (Int×Int)) (w:Bool),vs=[.ref a,.int i,.bl w]/\WebIs K H a n ts/\∀r H',Same H H'->H' r=some (.lst ((friendL ts w n.toNat i).map V.int))->H r=none->Q (.ref r) H'
theorem sc_byTie:FnScope ["web","place","tied"] ["web","place","tied"] (defScope zbh):=⟨rfl,rfl,rfl,by decide+kernel,rfl,by decide+kernel,by decide+kernel⟩
theorem ok_byTie{f f1:Addr}{fd d1:FuncData}(F:Fun K "places_by_tie" "places_by_tie" zbh f fd)(D1:Dfn K mg "has_tie" zcu ["web","one","other"] f1 d1)(G1:FnOk P w K mg base CX0 1 f1 d1 ["web","one","other"] (spHas K))(m_range:mg "range"=none):
  FnOk P w K mg base CX0 2 f fd ["web","place","tied"] (spByTie K):=by
 refine F.ok sc_byTie (fun vs H Q E h=> ?_) (fun cdv A outer s H vs Q E hr h=> ?_)
 ·obtain⟨a,n,i,ts,w,rfl,_⟩:=h
  rfl
 obtain⟨a,n,i,ts,w,rfl,hA,q⟩:=h
 refine⟨_,(zag (zak (zck (own:=["other"]) (caps:=["place","web","tied"]) (ix:=[1,0,2]) rfl (zbp rfl m_range (zaa (zat zar (pv 0) zaf (fun _ _=>rfl)) zab)) rfl rfl (.cons rfl rfl (.cons rfl rfl (.cons rfl rfl .nil))) (fun _ _ _ _ _=>(zaj (i:=0) (show(["other","place","web","tied"]:List Str).Nodup from by decide+kernel) rfl (Or.inl rfl))) (fun _ _ _ _ _=>pts_one (PW.pt (pw_and (zaq op_ne (pv 0) (pv 1) (nomark _)) (pw_and1 (zaq op_eq (zah G1 hr rfl D1.m D1.F.kp D1.b .nil pass0 (zaa (pv 2) (zaa (pv 1) (zaa (pv 0) zab)))) (pv 3) (nomark _)))))) (fun _ _ _ _ _=>(pv 0))))),?_⟩
 have h0:=hA.h0
 have h10:=hA.h1
 obtain⟨ta,ra,a1,a2,a3⟩:=id hA.web
 refine⟨_,rfl,a,_,_,.int n,rfl,rfl,a1,rfl,n,rfl,by omega,by omega,?_⟩
 refine zch (n:=n.toNat) (fun k acc σ H'=>acc=((rng k).filter fun p=> !decide (p=i)&&(tiedL ts i p==w)).map V.int/\Same H H'/\∃o,σ=[o,some (.int i),some (.ref a),some (.bl w)]) ⟨rfl,Same.refl _,_,rfl⟩ (fun k acc σ H' hk p=> ?_) (by rw[sizeLine_eq];omega) (fun k acc σ H' hk p=> ?_) (fun acc σ H' p=> ?_)
 ·rw[p.1,List.length_map]
  exact Nat.le_trans (List.length_filter_le _ _) (by unfold rng;simp)
 ·obtain⟨rfl,sm,o,rfl⟩:=p
  have ek:(0+(k:Int))=(k:Int):=by omega
  rw[ek]
  have e:∀b,b=(!decide ((k:Int)=i)&&(tiedL ts i (k:Int)==w))->((rng (k+1)).filter fun p=> !decide (p=i)&&(tiedL ts i p==w))=((rng k).filter fun p=> !decide (p=i)&&(tiedL ts i p==w))++(if b=true then[(k:Int)]else[]):=fun b hb=>by
   rw[rng_succ,List.filter_append,List.filter_cons,hb];rfl
  refine⟨_,rfl,_,rfl,rfl,_,rfl,?_⟩
  rw[intV_ne]
  refine ite2 (fun c=> ?_) (fun c=> ?_)
  ·refine⟨_,rfl,_,rfl,_,rfl,a,n,_,_,ts,rfl,(hA.same sm).web,fun H5 s5=>⟨_,rfl,rfl,_,rfl,?_⟩⟩
   rw[blV_eq,tied_eq hA.pk]
   refine ite2 (fun c2=> ?_) (fun c2=> ?_)
   ·exact⟨_,rfl,by rw[e true (by rw[c,c2];rfl),List.map_append];rfl,sm.trans s5,_,rfl⟩
   ·exact⟨by rw[e false (by rw[c,Bool.eq_false_iff.mpr c2];rfl)];simp,sm.trans s5,_,rfl⟩
  ·exact⟨by rw[e false (by rw[Bool.eq_false_iff.mpr c];rfl)];simp,sm,_,rfl⟩
 ·intro p1 hp1
  obtain⟨rfl,sm,_⟩:=p
  exact q p1 _ (sm.trans (zad hp1 _)) zac (sm.free hp1)
end
end Hs
namespace Hs
open PySem L2 HsD
section
variable{P:Program}{w:World}{K:W.Frag}{mg:Str->Option Value}{base:Heap}
noncomputable def SetsAt(K:W.Frag)(H:Hp)(r:Addr)(ss:List (List Int)):Prop:=∃its:List (Addr×List Int),H r=some (.lst (its.map fun p=>V.ref p.1))/\(∀p∈its,SqT K H p.1 (p.2.map V.int))/\its.map (fun p=>p.2)=ss
theorem SetsAt.same{H H':Hp}{r:Addr}{ss:List (List Int)}(h:SetsAt K H r ss)(e:Same H H'):SetsAt K H' r ss:=by
 obtain⟨its,h1,h2,h3⟩:=h
 exact⟨its,e _ _ h1,fun p hp=>e.tup (h2 p hp),h3⟩
noncomputable def SortedF(ss:List (List Int))(ts:List (Int×Int))(w:Bool)(n:Nat):Prop:=ss.Perm (fulls ts w n)/\ss.Pairwise fun a b=>HT.lexLt b a=false
theorem full_ne{ts:List (Int×Int)}{w:Bool}{n:Nat}(h2:2<=(fulls ts w n).length):∀s∈fulls ts w n,s≠[]:=by
 intro s hs e
 subst e
 have F:=full_of hs
 cases n with
 |zero=>
  have:(fulls ts w 0).length<=1:=by
   show(([[]]:List (List Int)).filter (fullB ts w 0)).length<=1
   exact List.length_filter_le _ _
  omega
 |succ n=>
  obtain⟨x,hx,_⟩:=F.max 0 (mem_rng.mpr ⟨by omega,by omega⟩) (by simp)
  cases hx
structure Fit(K:W.Frag)(H:Hp)(ts:List (Int×Int))(w:Bool)(n:Nat)(q:Addr×Addr×Addr×List Int):Prop where
 pr:SqT K H q.1 [.ref q.2.1,.ref q.2.2.1]
 so:SqT K H q.2.1 (q.2.2.2.map V.int)
 le:H q.2.2.1=some (.lst ((leftL ts w n q.2.2.2).map V.int))
theorem Fit.same{H H':Hp}{ts:List (Int×Int)}{w:Bool}{n:Nat}{q:Addr×Addr×Addr×List Int}(h:Fit K H ts w n q)(e:Same H H'):Fit K H' ts w n q:=⟨e.tup h.pr,e.tup h.so,e _ _ h.le⟩
noncomputable def FoundV(K:W.Frag)(H:Hp)(fd:Addr)(ts:List (Int×Int))(w:Bool)(n:Nat)(ss:List (List Int)):Prop:=∃its:List (Addr×Addr×Addr×List Int),H fd=some (.lst (its.map fun q=>V.ref q.1))/\(∀q∈its,Fit K H ts w n q)/\its.map (fun q=>q.2.2.2)=ss
theorem FoundV.same{H H':Hp}{fd:Addr}{ts:List (Int×Int)}{w:Bool}{n:Nat}{ss:List (List Int)}(h:FoundV K H fd ts w n ss)(e:Same H H'):FoundV K H' fd ts w n ss:=by
 obtain⟨its,h1,h2,h3⟩:=h
 exact⟨its,e _ _ h1,fun q hq=>(h2 q hq).same e,h3⟩
noncomputable def spFullSets(K:W.Frag):Sp:=fun vs H Q _=>∃(fl:Addr) (fas:List Addr) (ts:List (Int×Int)) (w:Bool) (n:Nat),vs=[.ref fl]/\H fl=some (.lst (fas.map V.ref))/\fas.length=n/\n<=10/\(∀(i:Nat) f,fas[i]? =some f->H f=some (.lst ((friendL ts w n (i:Int)).map V.int)))/\
 ∀r ss H',Same H H'->SetsAt K H' r ss->SortedF ss ts w n->H r=none->Q (.ref r) H'
theorem zde:FnScope ["friends","found","place","wider"] ["friends"] (defScope zcj):=⟨rfl,rfl,rfl,by decide+kernel,rfl,by decide+kernel,by decide+kernel⟩
theorem ok_fullSets{f f1:Addr}{fd d1:FuncData}(F:Fun K "full_sets" "full_sets" zcj f fd)(D1:Dfn K mg "in_both" zcz ["ones","others"] f1 d1)(G1:FnOk P w K mg base CX0 1 f1 d1 ["ones","others"] (spInBoth K))(m_list:mg "list"=none)(m_range:mg "range"=none)(m_len:mg "len"=none)(m_sorted:mg "sorted"=none):
  FnOk P w K mg base CX0 2 f fd ["friends"] (spFullSets K):=by
 refine F.ok zde (fun vs H Q E h=> ?_) (fun cdv A outer s H vs Q E hr h=> ?_)
 ·obtain⟨fl,fas,ts,w,n,rfl,_⟩:=h
  rfl
 obtain⟨fl,fas,ts,w,n,rfl,hF,hn,h10,hfr,q⟩:=h
 refine⟨_,(zae (zaw (i:=1) zde.nd rfl (Or.inl rfl) (zda (zaa (zbk (zaa (zbk zab) (zaa (pe_lstRange rfl rfl m_list rfl m_range (zaa (zai zas rfl m_len PySem.boot_len (zaa (pv 0) zab)) zab)) zab))) zab))) (zae (zdh PassesOwn.never rfl (zbp rfl m_range (zaa (zai zas rfl m_len PySem.boot_len (zaa (pv 0) zab)) zab)) (zaj (i:=2) zde.nd rfl (Or.inr rfl)) (zae (ps_setComp (i:=3) (own:=["some","left"]) (caps:=["place","friends"]) (ix:=[2,0]) zde.nd rfl (Or.inl rfl) rfl (zcy (pv 1)) rfl rfl (.cons rfl rfl (.cons rfl rfl .nil)) (fun _ _ _ _ _=>(pg_tupK K (n:=2) rfl (pgs_cons (zaj (i:=0) (show(["some","left","place","friends"]:List Str).Nodup from by decide+kernel) rfl (Or.inl rfl)) (pgs_cons (zaj (i:=1) (show(["some","left","place","friends"]:List Str).Nodup from by decide+kernel) rfl (Or.inl rfl)) pgs_nil)))) (fun _ _ _ _ _=>pts_one (zaq (op_inDK K hr.units) (pv 2) (pv 1) (by with_unfolding_all rfl))) (fun _ _ _ _ _=>(zbk (zaa (zan (op_catEK K) (pv 0) (zbk (zaa (pv 2) zab))) (zaa (zah G1 hr rfl D1.m D1.F.kp D1.b .nil pass0 (zaa (pv 1) (zaa (zat (ix_listK K) (pv 3) (pv 2) (fun _ _=>rfl)) zab))) zab))))) (zag (zaw (i:=1) zde.nd rfl (Or.inl rfl) (zan op_cat (pv 1) (pv 3)))))) (zag (zak (zai call_sortedE rfl m_sorted (by decide+kernel) (zaa (zck (own:=["some","left"]) (caps:=[]) (ix:=[]) rfl (zcy (pv 1)) rfl rfl .nil (fun _ _ _ _ _=>(pg_tupK K (n:=2) rfl (pgs_cons (zaj (i:=0) (show(["some","left"]:List Str).Nodup from by decide+kernel) rfl (Or.inl rfl)) (pgs_cons (zaj (i:=1) (show(["some","left"]:List Str).Nodup from by decide+kernel) rfl (Or.inl rfl)) pgs_nil)))) (fun _ _ _ _ _=>pts_one (pt_not (pt_truthK K (pv 1) (fun _=>rfl)))) (fun _ _ _ _ _=>(pv 0))) zab)))))),?_⟩
 have el:((fas.map V.ref).length:Int)=(n:Int):=by rw[List.length_map,hn]
 refine⟨(by show 0<=sizeLine;decide),fun e1 he1=> ?_⟩
 have s1:=zad he1 (.tup [])
 have t1:SqT K (upd H e1 (.tup [])) e1 []:=SqT.of zac
 generalize (upd H e1 (.tup []))=H1 at *
 refine⟨_,rfl,fl,_,rfl,.inl (SqL.of (s1 _ _ hF)),fun _=>⟨_,rfl,by omega,by rw[el];omega,fun rl hrl=> ?_⟩⟩
 have er:tupR ((fas.map V.ref).length:Int).toNat=(rng n).map V.int:=by rw[el,Int.toNat_natCast,tupR_rng]
 rw[er]
 have s2:=zad hrl (.lst ((rng n).map V.int))
 have t2:(upd H1 rl (.lst ((rng n).map V.int))) rl=some (.lst ((rng n).map V.int)):=zac
 generalize (upd H1 rl (.lst ((rng n).map V.int)))=H2 at *
 refine⟨(by show 2<=sizeLine;decide),fun e3 he3=> ?_⟩
 have s3:=zad he3 (.tup [.ref e1,.ref rl])
 have t3:SqT K (upd H2 e3 (.tup [.ref e1,.ref rl])) e3 [.ref e1,.ref rl]:=SqT.of zac
 generalize (upd H2 e3 (.tup [.ref e1,.ref rl]))=H3 at *
 refine⟨(by show 1<=sizeLine;decide),fun fd hfd=> ?_⟩
 have s4:=zad hfd (.lst [.ref e3])
 have F4:FoundV K (upd H3 fd (.lst [.ref e3])) fd ts w n (setsL ts w 0):=by
  refine⟨[(e3,e1,rl,[])],zac,fun q hq=> ?_,rfl⟩
  rw[List.mem_singleton.mp hq]
  exact⟨s4.tup t3,s4.tup (s3.tup (s2.tup t1)),by rw[left_nil];exact s4 _ _ (s3 _ _ t2)⟩
 have s04:=s1.trans (s2.trans (s3.trans s4))
 generalize (upd H3 fd (.lst [.ref e3]))=H4 at *
 refine⟨_,rfl,fl,_,rfl,.inl (SqL.of (s04 _ _ hF)),fun _=>⟨_,rfl,by omega,by rw[el];omega,?_⟩⟩
 have en:((fas.map V.ref).length:Int).toNat=n:=by rw[el,Int.toNat_natCast]
 rw[en]
 refine zcq (n:=n) (fun k σ H'=>Same H H'/\∃fd b2 b3,FoundV K H' fd ts w n (setsL ts w k)/\σ=[some (.ref fl),some (.ref fd),b2,b3]) ⟨s04,fd,_,_,F4,rfl⟩ (fun k σ H' hk p=> ?_) (fun σ H' p=> ?_)
 ·obtain⟨s5,fd,b2,b3,F5,rfl⟩:=p
  have ek:(0+(k:Int))=(k:Int):=by omega
  rw[ek]
  obtain⟨its,f1,f2,f3⟩:=F5
  have hlen:its.length<=1024:=by
   have a:=sets_len (ts:=ts) (w:=w) k
   rw[<-f3,List.length_map]at a
   have b:2^k<=2^10:=Nat.pow_le_pow_right (by decide) (by omega)
   have c:2^10=1024:=by decide
   omega
  have hkf:k<fas.length:=by omega
  have hfk:(fas.map V.ref)[k]? =some (.ref fas[k]):=by rw[List.getElem?_map,List.getElem?_eq_getElem hkf];rfl
  have hgk:=hfr k fas[k] (List.getElem?_eq_getElem hkf)
  refine⟨_,rfl,fd,_,rfl,SqL.of f1,fun hzf=> ?_⟩
  refine comp_list (xs:=its.map fun q=>V.ref q.1) (fun i acc σ H''=>(∃its2:List (Addr×Addr×Addr×List Int),acc=its2.map (fun q=>V.ref q.1)/\(∀q∈its2,Fit K H'' ts w n q)/\its2.map (fun q=>q.2.2.2)=(((setsL ts w k).take i).filter fun s=>goB ts w s (k:Int)).map fun s=>s++[(k:Int)])/\Same H' H''/\∃o1 o2,σ=[o1,o2,some (.int (k:Int)),some (.ref fl)]) ⟨⟨[],rfl,fun q hq=>(nomatch hq),rfl⟩,Same.refl _,_,_,rfl⟩ (fun i acc σ H'' _ p=>p.2.1.seq (SqL.of f1)) (fun i acc σ H'' hi p=> ?_) hzf (fun i x acc σ H'' hx p=> ?_) (fun acc σ H'' p=> ?_)
  ·obtain⟨⟨its2,rfl,g2,g3⟩,_⟩:=p
   have a:=congrArg List.length g3
   rw[List.length_map,List.length_map]at a
   rw[List.length_map,a]
   exact Nat.le_trans (List.length_filter_le _ _) (by rw[List.length_take];exact Nat.min_le_left _ _)
  ·obtain⟨⟨its2,rfl,g2,g3⟩,sm,o1,o2,rfl⟩:=p
   rw[List.getElem?_map]at hx
   cases ex:its[i]? with
   |none=>rw[ex]at hx;cases hx
   |some v=>
    rw[ex]at hx
    cases hx
    have fv:=(f2 v (List.mem_of_getElem? ex)).same sm
    have hsv:(setsL ts w k)[i]? =some v.2.2.2:=by rw[<-f3,List.getElem?_map,ex];rfl
    obtain⟨hi,esv⟩:=List.getElem?_eq_some_iff.mp hsv
    have Sv:=sets_k k v.2.2.2 (List.mem_of_getElem? hsv)
    have e:=zbt (p:=fun s=>goB ts w s (k:Int)) hi
    rw[esv]at e
    refine⟨v.1,_,rfl,fv.pr,rfl,_,_,rfl,_,_,rfl,rfl,?_⟩
    refine⟨_,rfl,_,rfl,v.2.2.1,_,_,.int (k:Int),rfl,.inl (SqL.of fv.le),DVs.ints _,.int _,zcw _,rfl,(by show 0<=60;decide),_,rfl,?_⟩
    rw[any_ints,in_left Sv hk]
    refine ite2 (fun c=> ?_) (fun c=> ?_)
    ·refine⟨_,rfl,_,rfl,(by show 1<=sizeLine;decide),fun e5 he5=> ?_⟩
     have s6:=zad he5 (.tup [.int (k:Int)])
     have t6:SqT K (upd H'' e5 (.tup [.int (k:Int)])) e5 [.int (k:Int)]:=SqT.of zac
     generalize (upd H'' e5 (.tup [.int (k:Int)]))=H6 at *
     have hvl:v.2.2.2.length<=10:=by
      have a:=nodup_len (l:=v.2.2.2) (m:=rng n) (Sv.up.imp fun{x y} h=>by omega) (fun x hx=>mem_rng.mpr (by have:=Sv.lt x hx;omega))
      have b:(rng n).length=n:=by unfold rng;simp
      omega
     refine⟨v.2.1,e5,_,_,rfl,rfl,s6.tup fv.so,t6,(by rw[List.length_map,sizeLine_eq];show v.2.2.2.length+1<=_;omega),fun r7 H7 s7 h7=> ?_⟩
     have s67:=s6.trans s7
     refine⟨_,rfl,_,rfl,_,rfl,fl,_,_,.ref fas[k],rfl,rfl,SqL.of ((s5.trans (sm.trans s67)) _ _ hF),atI_nat hfk,v.2.2.1,fas[k],_,_,rfl,SqL.of (s67 _ _ fv.le),SqL.of ((s5.trans (sm.trans s67)) _ _ hgk),fun r8 H8 s8 h8 n8=> ?_⟩
     refine⟨(by show 2<=sizeLine;decide),fun e9 he9=> ?_⟩
     have s9:=zad he9 (.tup [.ref r7,.ref r8])
     have s69:=s67.trans (s8.trans s9)
     refine⟨⟨its2++[(e9,r7,r8,v.2.2.2++[(k:Int)])],by rw[List.map_append];rfl,fun q hq=> ?_,by rw[List.map_append,g3,e,if_pos c,List.map_append];rfl⟩,sm.trans s69,_,_,rfl⟩
     rcases List.mem_append.mp hq with z|z
     ·exact(g2 q z).same s69
     ·rw[List.mem_singleton.mp z]
      refine⟨SqT.of zac,s9.tup (s8.tup ?_),by rw[left_snoc];exact s9 _ _ h8⟩
      rw[List.map_append];exact h7
    ·exact⟨⟨its2,rfl,g2,by rw[g3,e,if_neg c,List.append_nil]⟩,sm,_,_,rfl⟩
  ·intro p1 hp1
   obtain⟨⟨its2,rfl,g2,g3⟩,sm,o1,o2,rfl⟩:=p
   have hle:(its.map fun q=>V.ref q.1).length=(setsL ts w k).length:=by rw[List.length_map,<-f3,List.length_map]
   rw[hle,List.take_length]at g3
   have s6:=zad hp1 (.lst (its2.map fun q=>V.ref q.1))
   have l2:its2.length<=1024:=by
    have a:=congrArg List.length g3
    rw[List.length_map,List.length_map]at a
    have b:=List.length_filter_le (fun s=>goB ts w s (k:Int)) (setsL ts w k)
    rw[<-f3,List.length_map]at b
    rw[<-f3]at a
    omega
   refine⟨_,rfl,_,rfl,fd,p1,_,_,rfl,rfl,(sm.trans s6) _ _ f1,zac,by rw[List.length_map,List.length_map,sizeLine_eq];omega,fun p2 hp2=> ?_⟩
   have s7:=zad hp2 (.lst ((its.map fun q=>V.ref q.1)++(its2.map fun q=>V.ref q.1)))
   refine⟨s5.trans (sm.trans (s6.trans s7)),p2,_,_,⟨its++its2,by rw[zac,List.map_append],fun q hq=> ?_,by rw[List.map_append,f3,g3];rfl⟩,rfl⟩
   rcases List.mem_append.mp hq with z|z
   ·exact(f2 q z).same (sm.trans (s6.trans s7))
   ·exact(g2 q z).same (s6.trans s7)
 ·obtain⟨s5,fd,b2,b3,⟨its,f1,f2,f3⟩,rfl⟩:=p
  refine⟨_,rfl,fd,_,rfl,SqL.of f1,fun hzf=> ?_⟩
  refine comp_list (xs:=its.map fun q=>V.ref q.1) (fun i acc σ H''=>(∃its2:List (Addr×List Int),acc=its2.map (fun q=>V.ref q.1)/\(∀q∈its2,SqT K H' q.1 (q.2.map V.int))/\its2.map (fun q=>q.2)=((setsL ts w n).take i).filter (fullB ts w n))/\Same H' H''/\∃o1 o2,σ=[o1,o2]) ⟨⟨[],rfl,fun q hq=>(nomatch hq),rfl⟩,Same.refl _,_,_,rfl⟩ (fun i acc σ H'' _ p=>p.2.1.seq (SqL.of f1)) (fun i acc σ H'' hi p=> ?_) hzf (fun i x acc σ H'' hx p=> ?_) (fun acc σ H'' p=> ?_)
  ·obtain⟨⟨its2,rfl,g2,g3⟩,_⟩:=p
   have a:=congrArg List.length g3
   rw[List.length_map]at a
   rw[List.length_map,a]
   exact Nat.le_trans (List.length_filter_le _ _) (by rw[List.length_take];exact Nat.min_le_left _ _)
  ·obtain⟨⟨its2,rfl,g2,g3⟩,sm,o1,o2,rfl⟩:=p
   rw[List.getElem?_map]at hx
   cases ex:its[i]? with
   |none=>rw[ex]at hx;cases hx
   |some v=>
    rw[ex]at hx
    cases hx
    have fv:=f2 v (List.mem_of_getElem? ex)
    have hsv:(setsL ts w n)[i]? =some v.2.2.2:=by rw[<-f3,List.getElem?_map,ex];rfl
    obtain⟨hi,esv⟩:=List.getElem?_eq_some_iff.mp hsv
    have e:=zbt (p:=fullB ts w n) hi
    rw[esv]at e
    refine⟨v.1,_,rfl,sm.tup fv.pr,rfl,_,_,rfl,_,_,rfl,rfl,?_⟩
    refine⟨_,rfl,_,.inl ⟨_,SqL.of (sm _ _ fv.le),rfl⟩,?_⟩
    have eb:(!!((leftL ts w n v.2.2.2).map V.int).isEmpty)=fullB ts w n v.2.2.2:=by
     rw[Bool.not_not,<-left_full]
     cases leftL ts w n v.2.2.2<;>rfl
    dsimp only
    rw[eb]
    refine ite2 (fun c=> ?_) (fun c=> ?_)
    ·refine⟨_,rfl,⟨its2++[(v.2.1,v.2.2.2)],by rw[List.map_append];rfl,fun q hq=> ?_,by rw[List.map_append,g3,e,if_pos c];rfl⟩,sm,_,_,rfl⟩
     rcases List.mem_append.mp hq with z|z
     ·exact g2 q z
     ·rw[List.mem_singleton.mp z];exact fv.so
    ·exact⟨⟨its2,rfl,g2,by rw[g3,e,if_neg c,List.append_nil]⟩,sm,_,_,rfl⟩
  ·intro p1 hp1
   obtain⟨⟨its2,rfl,g2,g3⟩,sm,_⟩:=p
   have hle:(its.map fun q=>V.ref q.1).length=(setsL ts w n).length:=by rw[List.length_map,<-f3,List.length_map]
   rw[hle,List.take_length]at g3
   have g4:its2.map (fun q=>q.2)=fulls ts w n:=g3
   have hl2:its2.length=(fulls ts w n).length:=by rw[<-g4,List.length_map]
   have h36:=fulls_len (ts:=ts) (w:=w) h10
   have s6:=zad hp1 (.lst (its2.map fun q=>V.ref q.1))
   refine⟨p1,its2,rfl,SqL.of zac,fun p hp=>⟨(sm.trans s6).tup (g2 p hp),fun h2=> ?_⟩,by omega,fun l its' hl hpm hpw=> ?_⟩
   ·exact full_ne (ts:=ts) (w:=w) (n:=n) (by omega) p.2 (by rw[<-g4];exact List.mem_map.mpr ⟨p,hp,rfl⟩)
   ·have s7:=zad hl (.lst (its'.map fun q=>V.ref q.1))
    have s57:=s5.trans (sm.trans (s6.trans s7))
    refine q l (its'.map fun q=>q.2) _ s57 ⟨its',zac,fun p hp=>(sm.trans (s6.trans s7)).tup (g2 p (hpm.mem_iff.mp hp)),rfl⟩ ⟨?_,?_⟩ ((s5.trans (sm.trans s6)).free hl)
    ·rw[<-g4];exact hpm.map _
    ·rw[List.pairwise_map];exact hpw
end
end Hs
namespace Hs
open PySem L2 HsD
section
variable{P:Program}{w:World}{K:W.Frag}{mg:Str->Option Value}{base:Heap}
noncomputable def spFullApart(K:W.Frag):Sp:=fun vs H Q _=>∃(a:Addr) (n:Int) (ts:List (Int×Int)),vs=[.ref a]/\WebIs K H a n ts/\∀r ss H',Same H H'->SetsAt K H' r ss->SortedF ss ts false n.toNat->H r=none->Q (.ref r) H'
theorem sc_fullApart:FnScope ["web"] ["web"] (defScope zcd):=⟨rfl,rfl,rfl,by decide+kernel,rfl,by decide+kernel,by decide+kernel⟩
theorem ok_fullApart{f f1 f2 f3:Addr}{fd d1 d2 d3:FuncData}(F:Fun K "full_apart" "full_apart" zcd f fd)(D1:Dfn K mg "need_web" zcn ["thing"] f1 d1)(G1:FnOk P w K mg base CX0 7 f1 d1 ["thing"] (spNeedWeb K))(D2:Dfn K mg "full_sets" zcj ["friends"] f2 d2)(G2':FnOk P w K mg base CX0 2 f2 d2 ["friends"] (spFullSets K))(D3:Dfn K mg "places_by_tie" zbh ["web","place","tied"] f3 d3)(G3':FnOk P w K mg base CX0 2 f3 d3 ["web","place","tied"] (spByTie K))(m_range:mg "range"=none):
  FnOk P w K mg base CX0 8 f fd ["web"] (spFullApart K):=by
 have G2:FnOk P w K mg base CX0 7 f2 d2 ["friends"] (spFullSets K):=G2'.mono (by decide)
 have G3:FnOk P w K mg base CX0 7 f3 d3 ["web","place","tied"] (spByTie K):=G3'.mono (by decide)
 refine F.ok sc_fullApart (fun vs H Q E h=> ?_) (fun cdv A outer s H vs Q E hr h=> ?_)
 ·obtain⟨a,n,ts,rfl,_⟩:=h
  rfl
 obtain⟨a,n,ts,rfl,hA,q⟩:=h
 refine⟨_,(zae (zdi (zah G1 hr rfl D1.m D1.F.kp D1.b .nil pass0 (zaa (pv 0) zab))) (zag (zak (zah G2 hr rfl D2.m D2.F.kp D2.b .nil pass0 (zaa (zck (own:=["place"]) (caps:=["web"]) (ix:=[0]) rfl (zbp rfl m_range (zaa (zat zar (pv 0) zaf (fun _ _=>rfl)) zab)) rfl rfl (.cons rfl rfl .nil) (fun _ _ _ _ _=>(zaj (i:=0) (show(["place","web"]:List Str).Nodup from by decide+kernel) rfl (Or.inl rfl))) (fun _ _ _ _ _=>zcx) (fun _ _ _ _ _=>(zah G3 hr rfl D3.m D3.F.kp D3.b .nil pass0 (zaa (pv 1) (zaa (pv 0) (zaa pe_bl zab)))))) zab))))),?_⟩
 have h0:=hA.h0
 have h10:=hA.h1
 refine⟨_,rfl,_,_,rfl,hA.web.dv.dx,hA.ok,fun H1 s1=> ?_⟩
 have hA1:=hA.same s1
 obtain⟨ta,ra,a1,a2,a3⟩:=id hA1.web
 refine⟨_,rfl,a,_,_,.int n,rfl,rfl,a1,rfl,n,rfl,by omega,by omega,?_⟩
 refine zch (n:=n.toNat) (fun k acc σ H'=>(∃fas:List Addr,acc=fas.map V.ref/\fas.length=k/\∀(i:Nat) f,fas[i]? =some f->H' f=some (.lst ((friendL ts false n.toNat (i:Int)).map V.int)))/\Same H1 H'/\∃o,σ=[o,some (.ref a)]) ⟨⟨[],rfl,rfl,fun i f h=>by simp at h⟩,Same.refl _,_,rfl⟩ (fun k acc σ H' hk p=> ?_) (by rw[sizeLine_eq];omega) (fun k acc σ H' hk p=> ?_) (fun acc σ H' p=> ?_)
 ·obtain⟨⟨fas,rfl,hl,_⟩,_⟩:=p
  rw[List.length_map];omega
 ·obtain⟨⟨fas,rfl,hl,hf⟩,sm,o,rfl⟩:=p
  have ek:(0+(k:Int))=(k:Int):=by omega
  rw[ek]
  refine⟨_,rfl,_,rfl,a,n,_,ts,false,rfl,hA1.same sm,fun r H5 s5 h5 n5=>⟨⟨fas++[r],by rw[List.map_append];rfl,by rw[List.length_append,hl];rfl,fun i f hi=> ?_⟩,sm.trans s5,_,rfl⟩⟩
  by_cases c:i<fas.length
  ·rw[List.getElem?_append_left c]at hi
   exact s5 _ _ (hf i f hi)
  ·have hb:i<(fas++[r]).length:=(List.getElem?_eq_some_iff.mp hi).1
   rw[List.length_append]at hb
   have e:i=fas.length:=by have:[r].length=1:=rfl;omega
   rw[e,List.getElem?_append_right (Nat.le_refl _),Nat.sub_self]at hi
   cases hi
   rw[e,hl];exact h5
 ·intro p1 hp1
  obtain⟨⟨fas,rfl,hl,hf⟩,sm,_⟩:=p
  have s6:=zad hp1 (.lst (fas.map V.ref))
  exact⟨p1,fas,ts,false,n.toNat,rfl,zac,hl,by omega,fun i f hi=>s6 _ _ (hf i f hi),fun r ss H7 s7 h7 h8 n7=>q r ss H7 (s1.trans (sm.trans (s6.trans s7))) h7 h8 ((s1.trans (sm.trans s6)).free n7)⟩
noncomputable def greed(ts:List (Int×Int))(w:Bool):Nat->List Int
 |0=>[]
 |k+1=>if goB ts w (greed ts w k) (k:Int)=true then greed ts w k++[(k:Int)]else greed ts w k
theorem greed_mem{ts:List (Int×Int)}{w:Bool}:∀k:Nat,greed ts w k∈setsL ts w k
 |0=>by show([]:List Int)∈[[]];simp
 |k+1=>by
  have ih:=greed_mem (ts:=ts) (w:=w) k
  show greed ts w (k+1)∈setsL ts w k++((setsL ts w k).filter fun s=>goB ts w s (k:Int)).map fun s=>s++[(k:Int)]
  unfold greed
  by_cases c:goB ts w (greed ts w k) (k:Int)=true
  ·rw[if_pos c]
   exact List.mem_append_right _ (List.mem_map.mpr ⟨_,List.mem_filter.mpr ⟨ih,c⟩,rfl⟩)
  ·rw[if_neg c]
   exact List.mem_append_left _ ih
theorem greed_mono{ts:List (Int×Int)}{w:Bool}{x:Int}{k:Nat}(h:x∈greed ts w k):∀m:Nat,x∈greed ts w (k+m)
 |0=>h
 |m+1=>by
  have ih:=greed_mono h m
  show x∈greed ts w (k+m+1)
  unfold greed
  split
  ·exact List.mem_append_left _ ih
  ·exact ih
theorem fulls_ne(ts:List (Int×Int))(w:Bool)(n:Nat):fulls ts w n≠[]:=by
 have h:greed ts w n∈fulls ts w n:=by
  refine List.mem_filter.mpr ⟨greed_mem n,?_⟩
  unfold fullB
  rw[Bool.not_eq_true',List.any_eq_false]
  intro p hp hc
  rw[Bool.and_eq_true]at hc
  have hn:p∉greed ts w n:=by simpa using hc.1
  obtain⟨p0,p1⟩:=mem_rng.mp hp
  have ep:((p.toNat:Nat):Int)=p:=by omega
  have hk:¬goB ts w (greed ts w p.toNat) p=true:=fun c=>by
   apply hn
   have h1:p∈greed ts w (p.toNat+1):=by
    unfold greed
    rw[ep,if_pos c]
    simp
   have h2:=greed_mono h1 (n-(p.toNat+1))
   rw[show p.toNat+1+(n-(p.toNat+1))=n by omega]at h2
   exact h2
  apply hk
  unfold goB
  rw[List.all_eq_true]
  intro q hq
  have h2:=greed_mono hq (n-p.toNat)
  rw[show p.toNat+(n-p.toNat)=n by omega]at h2
  exact List.all_eq_true.mp hc.2 q h2
 intro e
 rw[e]at h
 cases h
noncomputable def spFirstG(K:W.Frag):Sp:=fun vs H Q _=>∃(l:Addr) (its:List (Addr×List Int)),vs=[.ref l]/\SqL K H l (its.map fun p=>V.ref p.1)/\(∀p∈its,SqT K H p.1 (p.2.map V.int))/\its≠[]/\
 ∀(i:Nat) (p:Addr×List Int),its[i]? =some p->(∀(j:Nat) r,its[j]? =some r->r.2.length<=p.2.length/\(j<i->r.2.length<p.2.length))->Q (.ref p.1) H
theorem sc_firstG:FnScope ["sets"] ["sets"] (defScope zbf):=⟨rfl,rfl,rfl,by decide+kernel,rfl,by decide+kernel,by decide+kernel⟩
theorem ok_firstG{f:Addr}{fd:FuncData}(F:Fun K "first_greatest" "first_greatest" zbf f fd)(m_max:mg "max"=none)(m_len:mg "len"=none):
  FnOk P w K mg base CX0 1 f fd ["sets"] (spFirstG K):=by
 refine F.ok sc_firstG (fun vs H Q E h=> ?_) (fun cdv A outer s H vs Q E hr h=> ?_)
 ·obtain⟨l,its,rfl,_⟩:=h
  rfl
 obtain⟨l,its,rfl,hL,hT,hne,q⟩:=h
 refine⟨_,(zag (zak (pe_maxLen rfl rfl m_max rfl m_len (zaa (pv 0) zab)))),?_⟩
 exact⟨_,rfl,l,its,rfl,hL,hT,hne,q⟩
noncomputable def MostOf(s:List Int)(ts:List (Int×Int))(w:Bool)(n:Nat):Prop:=∃ss,SortedF ss ts w n/\∃i:Nat,ss[i]? =some s/\∀(j:Nat) t,ss[j]? =some t->t.length<=s.length/\(j<i->t.length<s.length)
theorem sorted_ne{ss:List (List Int)}{ts:List (Int×Int)}{w:Bool}{n:Nat}(h:SortedF ss ts w n):ss≠[]:=fun e=>by
 have:=h.1.length_eq
 rw[e]at this
 exact fulls_ne ts w n (List.length_eq_zero_iff.mp this.symm)
noncomputable def spGreatA(K:W.Frag):Sp:=fun vs H Q _=>∃(a:Addr) (n:Int) (ts:List (Int×Int)),vs=[.ref a]/\WebIs K H a n ts/\∀(r:Addr) (s:List Int) H',Same H H'->SqT K H' r (s.map V.int)->MostOf s ts false n.toNat->Q (.ref r) H'
theorem sc_greatA:FnScope ["web"] ["web"] (defScope zbe):=⟨rfl,rfl,rfl,by decide+kernel,rfl,by decide+kernel,by decide+kernel⟩
theorem ok_greatA{f f1 f2:Addr}{fd d1 d2:FuncData}(F:Fun K "greatest_apart" "greatest_apart" zbe f fd)(D1:Dfn K mg "first_greatest" zbf ["sets"] f1 d1)(G1':FnOk P w K mg base CX0 1 f1 d1 ["sets"] (spFirstG K))(D2:Dfn K mg "full_apart" zcd ["web"] f2 d2)(G2:FnOk P w K mg base CX0 8 f2 d2 ["web"] (spFullApart K)):
  FnOk P w K mg base CX0 9 f fd ["web"] (spGreatA K):=by
 have G1:FnOk P w K mg base CX0 8 f1 d1 ["sets"] (spFirstG K):=G1'.mono (by decide)
 refine F.ok sc_greatA (fun vs H Q E h=> ?_) (fun cdv A outer s H vs Q E hr h=> ?_)
 ·obtain⟨a,n,ts,rfl,_⟩:=h
  rfl
 obtain⟨a,n,ts,rfl,hA,q⟩:=h
 refine⟨_,(zag (zak (zah G1 hr rfl D1.m D1.F.kp D1.b .nil pass0 (zaa (zah G2 hr rfl D2.m D2.F.kp D2.b .nil pass0 (zaa (pv 0) zab)) zab)))),?_⟩
 refine⟨_,rfl,a,n,ts,rfl,hA,fun r ss H1 s1 h1 h2 n1=> ?_⟩
 obtain⟨its,g1,g2,g3⟩:=h1
 refine⟨r,its,rfl,SqL.of g1,g2,fun e=>sorted_ne h2 (by rw[<-g3,e];rfl),fun i p hi hb=>q p.1 p.2 H1 s1 (g2 p (List.mem_of_getElem? hi)) ⟨ss,h2,i,by rw[<-g3,List.getElem?_map,hi];rfl,fun j t ht=> ?_⟩⟩
 rw[<-g3,List.getElem?_map]at ht
 cases ej:its[j]? with
 |none=>rw[ej]at ht;cases ht
 |some r'=>
  rw[ej]at ht
  cases ht
  exact hb j r' ej
end
end Hs
namespace L2
open PySem PySem.W PySem.Spec
end L2
namespace Hs
open PySem L2 HsD
section
variable{P:Program}{w:World}{K:W.Frag}{mg:Str->Option Value}{base:Heap}
noncomputable def setDt(s:List Int):PyData:= .tuple (s.map PyData.int)
theorem eqv_ints:∀(xs ys:List Int),PyData.eqvAll (xs.map PyData.int) (ys.map PyData.int)=decide (xs=ys)
 |[],[]=>by simp[PyData.eqvAll]
 |[],y::ys=>by simp[PyData.eqvAll]
 |x::xs,[]=>by simp[PyData.eqvAll]
 |x::xs,y::ys=>by
  show(PyData.eqv (.int x) (.int y)&&PyData.eqvAll (xs.map PyData.int) (ys.map PyData.int))=_
  rw[eqv_ints xs ys]
  have e:PyData.eqv (.int x) (.int y)=decide (x=y):=by
   show(x==y)=_
   rw[Bool.eq_iff_iff];simp
  rw[e,Bool.eq_iff_iff]
  simp
theorem sets_dv{H:Hp}:∀{its:List (Addr×List Int)},(∀p∈its,SqT K H p.1 (p.2.map V.int))->DVs K H (its.map fun p=>V.ref p.1) ((its.map fun p=>p.2).map setDt)
 |[],_=> .nil
 |p::its,h=> .cons (.tup (h p List.mem_cons_self) (DVs.ints _)) (sets_dv fun q hq=>h q (List.mem_cons_of_mem _ hq))
theorem SetsAt.dv{H:Hp}{r:Addr}{ss:List (List Int)}(h:SetsAt K H r ss):DV K H (.ref r) (.list (ss.map setDt)):=by
 obtain⟨its,h1,h2,h3⟩:=h
 rw[<-h3]
 exact .lst (SqL.of h1) (sets_dv h2)
theorem SetsAt.samex{H H':Hp}{r a:Addr}{ss:List (List Int)}{zs:List V}(h:SetsAt K H a ss)(e:SameX r H H')(hr:H r=some (.lst zs))(n:a≠r):SetsAt K H' a ss:=by
 obtain⟨its,h1,h2,h3⟩:=h
 exact⟨its,e _ _ n h1,fun p hp=>e.tup hr (h2 p hp),h3⟩
end
end Hs
namespace L2
open PySem PySem.Spec PyProof.Rows
theorem big_lt{n:Nat}(h:n<=10^200):n<2^700:=Nat.lt_of_le_of_lt h (by decide+kernel)
section
variable{X:Cx}
theorem op_fdivW:OpR X (binaryOp .FloorDiv) (rI (fun _ j=>0<j/\j.natAbs<=10^200) fun i j=> .int (i/j)):=opI fun i j _ _ _ _ _ hc q=>by
 have h1:(0:Int)<j:=hc.1
 refine floordiv_int (by omega) ?_ (Or.inl (PyProof.noPylong_of_log2 ?_))
 ·rw[Int.fdiv_eq_ediv_of_nonneg _ (by omega)]
  exact q
 ·have h3:j.natAbs≠0:=by omega
  have h4:=(Nat.log2_lt h3).mpr (big_lt hc.2)
  omega
end
end L2
namespace Hs
open PySem L2 HsD
theorem gcd_step(m n:Nat):Nat.gcd n (m %n)=Nat.gcd m n:=by
 rw[Nat.gcd_comm m n,Nat.gcd_rec n m,Nat.gcd_comm]
structure Low(a:Int)(b:Nat)(u:Int)(v:Nat):Prop where
 pos:0<v
 cop:Nat.gcd u.natAbs v=1
 eq:u*(b:Int)=a*(v:Int)
 lu:u.natAbs<=a.natAbs
 lv:v<=b
 nn:0<=a->0<=u
theorem low_mk(a:Int)(b:Nat)(hb:0<b):Low a b (a/((Nat.gcd a.natAbs b:Nat):Int)) (b/Nat.gcd a.natAbs b):=by
 have hg:0<Nat.gcd a.natAbs b:=Nat.gcd_pos_of_pos_right _ hb
 obtain⟨x,hx⟩:((Nat.gcd a.natAbs b:Nat):Int)∣a:=Int.natAbs_dvd_natAbs.mp (by rw[Int.natAbs_natCast];exact Nat.gcd_dvd_left _ _)
 obtain⟨y,hy⟩:=Nat.gcd_dvd_right a.natAbs b
 generalize hgg:Nat.gcd a.natAbs b=g at *
 have e1:a/(g:Int)=x:=by rw[hx];exact Int.mul_ediv_cancel_left _ (by omega)
 have e2:b/g=y:=by rw[hy];exact Nat.mul_div_cancel_left _ hg
 rw[e1,e2]
 have hna:a.natAbs=g*x.natAbs:=by rw[hx,Int.natAbs_mul];rfl
 have hy0:0<y:=by
  rcases Nat.eq_zero_or_pos y with h|h
  ·subst h;simp at hy;omega
  ·exact h
 refine⟨hy0,?_,?_,?_,?_,fun h=> ?_⟩
 ·have h2:Nat.gcd (g*x.natAbs) (g*y)=g:=by rw[<-hna,<-hy];exact hgg
  rw[Nat.gcd_mul_left]at h2
  have h3:g*Nat.gcd x.natAbs y=g*1:=by omega
  exact Nat.eq_of_mul_eq_mul_left hg h3
 ·rw[hx]
  have:(b:Int)=(g:Int)*(y:Int):=by rw[hy];exact Int.natCast_mul _ _
  rw[this,Int.mul_comm (g:Int) x,Int.mul_assoc]
 ·rw[hna];exact Nat.le_mul_of_pos_left _ hg
 ·rw[hy];exact Nat.le_mul_of_pos_left _ hg
 ·rw[<-e1];exact Int.ediv_nonneg h (by omega)
theorem abs_eq(i:Int):(if i<0 then -i else i)=((i.natAbs:Nat):Int):=by split<;>omega
theorem gcd_le(a:Int)(b:Nat)(hb:0<b):Nat.gcd a.natAbs b<=b:=Nat.le_of_dvd hb (Nat.gcd_dvd_right _ _)
end Hs
namespace Hs
open PySem L2 HsD
section
variable{P:Program}{w:World}{K:W.Frag}{mg:Str->Option Value}{base:Heap}
noncomputable def spGd(K:W.Frag):Sp:=fun vs H Q _=>∃(m n:Nat),vs=[.int m,.int n]/\Q (.int ((Nat.gcd m n:Nat):Int)) H
theorem sc_gd:FnScope ["one","other","rest"] ["one","other"] (defScope zav):=⟨rfl,rfl,rfl,by decide+kernel,rfl,by decide+kernel,by decide+kernel⟩
theorem ok_gd{f:Addr}{fd:FuncData}(F:Fun K "greatest_divisor" "greatest_divisor" zav f fd):FnOk P w K mg base CX0 1 f fd ["one","other"] (spGd K):=by
 refine F.ok sc_gd (fun vs H Q E h=> ?_) (fun cdv A outer s H vs Q E hr h=> ?_)
 ·obtain⟨m,n,rfl,_⟩:=h
  rfl
 obtain⟨m,n,rfl,q⟩:=h
 refine⟨_,zae (ps_while PassesOwn.never (pt_truth (pv 1) (fun _=>rfl)) (zae (zaw (i:=2) sc_gd.nd rfl (Or.inl rfl) (zan op_mod (pv 0) (pv 1))) (zae (zaw (i:=0) sc_gd.nd rfl (Or.inl rfl) (pv 1)) (zag (zaw (i:=1) sc_gd.nd rfl (Or.inl rfl) (pv 2)))))) (zag (zak (pv 0))),?_⟩
 refine⟨fun k σ H'=>H'=H/\∃(m':Nat) (r:Option V),σ=[some (.int (m':Int)),some (.int (k:Int)),r]/\Nat.gcd m' k=Nat.gcd m n,⟨n,rfl,m,_,rfl,rfl⟩,?_⟩
 rintro k σ H' ⟨rfl,m',r,rfl,hg⟩
 refine⟨_,rfl,_,rfl,?_⟩
 refine ite2 (fun c=> ?_) (fun c=> ?_)
 ·have hk:0<k:=by
   rcases Nat.eq_zero_or_pos k with h|h
   ·subst h;exact absurd c (by decide)
   ·exact h
  refine⟨fun σ' H2=>H2=H'/\∃r',σ'=[some (.int (k:Int)),some (.int ((m' %k:Nat):Int)),r'],fun σ' H2 ⟨e1,r',e2⟩=>⟨m' %k,Nat.mod_lt _ hk,e1,k,r',e2,?_⟩,?_⟩
  ·rw[gcd_step];exact hg
  ·exact⟨_,rfl,_,rfl,_,_,rfl,rfl,Int.ofNat_lt.mpr hk,_,rfl,_,rfl,rfl,_,rfl⟩
 ·have hk:k=0:=by
   rcases Nat.eq_zero_or_pos k with h|h
   ·exact h
   ·exfalso;apply c;show((k:Int) !=0)=true;simp;omega
  subst hk
  rw[Nat.gcd_zero_right]at hg
  refine⟨_,rfl,?_⟩
  rw[hg];exact q
noncomputable def spLow(K:W.Frag):Sp:=fun vs H Q _=>∃(a:Int) (b:Nat),vs=[.int a,.int b]/\0<b/\b<=10^200/\∀p H' u v,Same H H'->H' p=some (.tup [.int u,.int ((v:Nat):Int)])->Low a b u v->Q (.ref p) H'
theorem sc_low:FnScope ["a","b","by"] ["a","b"] (defScope zdl):=⟨rfl,rfl,rfl,by decide+kernel,rfl,by decide+kernel,by decide+kernel⟩
theorem low_div{H:Hp}{a:Int}{b:Nat}{p:Addr}(hp:H p=none):(upd H p (.tup [.int (a/((Nat.gcd a.natAbs b:Nat):Int)),.int ((b:Int)/((Nat.gcd a.natAbs b:Nat):Int))])) p=some (.tup [.int (a/((Nat.gcd a.natAbs b:Nat):Int)),.int (((b/Nat.gcd a.natAbs b:Nat)):Int)]):=by
 rw[zac,Int.natCast_ediv]
theorem ok_low{f f1:Addr}{fd d1:FuncData}(F:Fun K "lowest" "lowest" zdl f fd)(D1:Dfn K mg "greatest_divisor" zav ["one","other"] f1 d1)(G1:FnOk P w K mg base CX0 1 f1 d1 ["one","other"] (spGd K))(mA:mg "abs"=none):
  FnOk P w K mg base CX0 2 f fd ["a","b"] (spLow K):=by
 refine F.ok sc_low (fun vs H Q E h=> ?_) (fun cdv A outer s H vs Q E hr h=> ?_)
 ·obtain⟨m,n,rfl,_⟩:=h
  rfl
 obtain⟨a,b,rfl,hb,hB,q⟩:=h
 refine⟨_,zae (zaw (i:=2) sc_low.nd rfl (Or.inl rfl) (zah G1 hr rfl D1.m D1.F.kp D1.b .nil pass0 (zaa (zai call_abs rfl mA (by decide+kernel) (zaa (pv 0) zab)) (zaa (pv 1) zab)))) (zag (zak (zbk (zaa (zan op_fdivW (pv 0) (pv 2)) (zaa (zan op_fdivW (pv 1) (pv 2)) zab))))),?_⟩
 refine⟨_,rfl,a,rfl,_,rfl,a.natAbs,b,?_,?_⟩
 ·rw[abs_eq];rfl
 have hg:0<Nat.gcd a.natAbs b:=Nat.gcd_pos_of_pos_right _ hb
 have hg2:(((Nat.gcd a.natAbs b:Nat):Int)).natAbs<=10^200:=Nat.le_trans (gcd_le a b hb) hB
 refine⟨_,rfl,_,rfl,_,_,rfl,rfl,⟨Int.ofNat_lt.mpr hg,hg2⟩,_,rfl,_,rfl,_,_,rfl,rfl,⟨Int.ofNat_lt.mpr hg,hg2⟩,(by show 2<=sizeLine;decide),fun p hp=> ?_⟩
 exact q p _ _ _ (zad hp _) (low_div hp) (low_mk a b hb)
end
end Hs
namespace Hs
open PySem L2 HsD
noncomputable def beats(t s:List Int):Bool:=decide (s.length<t.length)||(decide (t.length=s.length)&&HT.lexLt t s)
noncomputable def aset(ts:List (Int×Int))(xs:List Int):List (List Int):=xs.foldl (fun found p=>found++(found.filter fun s=> !s.any fun o=>hasTie ts o p).map fun s=>s++[p]) [[]]
theorem aset_snoc(ts:List (Int×Int))(xs:List Int)(p:Int):aset ts (xs++[p])=aset ts xs++((aset ts xs).filter fun s=> !s.any fun o=>hasTie ts o p).map fun s=>s++[p]:=by
 unfold aset;rw[List.foldl_append];rfl
theorem sub_one{v:List Int}{p:Int}(h:v.Sublist [p]):v=[]\/v=[p]:=by
 cases h with
 |cons _ h=>exact .inl (List.sublist_nil.mp h)
 |cons_cons _ h=>exact .inr (by rw[List.sublist_nil.mp h])
structure ApS(ts:List (Int×Int))(xs s:List Int):Prop where
 sub:s.Sublist xs
 ap:s.Pairwise fun a b=>hasTie ts a b=false
theorem mem_aset{ts:List (Int×Int)}{s:List Int}:∀{k:Nat} {xs:List Int},xs.length=k->(s∈aset ts xs↔ApS ts xs s):=by
 intro k
 induction k generalizing s with
 |zero=>
  intro xs hl
  have:xs=[]:=List.eq_nil_of_length_eq_zero hl
  subst this
  constructor
  ·intro h;rw[List.mem_singleton.mp (show s∈[[]]from h)];exact⟨List.Sublist.refl _,List.Pairwise.nil⟩
  ·intro h;rw[List.sublist_nil.mp h.sub];exact List.mem_singleton.mpr rfl
 |succ k ih=>
  intro xs hl
  have hne:xs≠[]:=fun e=>by rw[e]at hl;cases hl
  obtain⟨ys,p,rfl⟩:∃ys p,xs=ys++[p]:=⟨xs.dropLast,xs.getLast hne,(List.dropLast_concat_getLast hne).symm⟩
  have hk:ys.length=k:=by rw[List.length_append]at hl;exact Nat.succ.inj hl
  rw[aset_snoc,List.mem_append]
  constructor
  ·rintro(h|h)
   ·have S:=(ih hk).mp h
    exact⟨S.sub.trans (List.sublist_append_left _ _),S.ap⟩
   ·obtain⟨u,hu,rfl⟩:=List.mem_map.mp h
    obtain⟨u1,u2⟩:=List.mem_filter.mp hu
    have S:=(ih hk).mp u1
    refine⟨S.sub.append (List.Sublist.refl _),?_⟩
    rw[List.pairwise_append]
    refine⟨S.ap,List.pairwise_singleton _ _,fun a ha b hb=> ?_⟩
    rw[List.mem_singleton.mp hb]
    rw[Bool.not_eq_true',List.any_eq_false]at u2
    exact Bool.eq_false_iff.mpr (u2 a ha)
  ·intro S
   obtain⟨u,v,rfl,hu,hv⟩:=List.sublist_append_iff.mp S.sub
   rcases sub_one hv with rfl|rfl
   ·refine .inl ((ih hk).mpr ⟨by rw[List.append_nil];exact hu,S.ap⟩)
   ·refine .inr (List.mem_map.mpr ⟨u,List.mem_filter.mpr ⟨(ih hk).mpr ⟨hu,(List.pairwise_append.mp S.ap).1⟩,?_⟩,rfl⟩)
    rw[Bool.not_eq_true',List.any_eq_false]
    intro a ha
    rw[(List.pairwise_append.mp S.ap).2.2 a ha p (List.mem_singleton.mpr rfl)]
    decide
theorem aset_len(ts:List (Int×Int)):∀(k:Nat) (xs:List Int),xs.length=k->(aset ts xs).length<=2^k
 |0,xs,h=>by rw[List.eq_nil_of_length_eq_zero h];exact Nat.le_refl _
 |k+1,xs,h=>by
  have hne:xs≠[]:=fun e=>by rw[e]at h;cases h
  obtain⟨ys,p,rfl⟩:∃ys p,xs=ys++[p]:=⟨xs.dropLast,xs.getLast hne,(List.dropLast_concat_getLast hne).symm⟩
  have hk:ys.length=k:=by rw[List.length_append]at h;exact Nat.succ.inj h
  rw[aset_snoc,List.length_append,List.length_map,Nat.pow_succ]
  have h1:=aset_len ts k ys hk
  have h2:=List.length_filter_le (fun s:List Int=> !s.any fun o=>hasTie ts o p) (aset ts ys)
  omega
noncomputable def pick(l:List (List Int)):List Int:=l.foldl (fun found one=>if beats one found then one else found) []
theorem pick_snoc(l:List (List Int))(s:List Int):pick (l++[s])=if beats s (pick l)then s else pick l:=by unfold pick;rw[List.foldl_append];rfl
noncomputable def best(ts:List (Int×Int))(xs:List Int):List Int:=pick (aset ts xs)
structure Best(ts:List (Int×Int))(xs s:List Int):Prop where
 is:ApS ts xs s
 top:∀t,ApS ts xs t->beats t s=false
theorem lex_irr(a:List Int):HT.lexLt a a=false:=by rw[HT.lexLt_iff];exact decide_eq_false (List.lt_irrefl a)
theorem zdk{t s:List Int}:beats t s=true↔s.length<t.length\/(t.length=s.length/\t<s):=by
 unfold beats
 rw[Bool.or_eq_true,Bool.and_eq_true,decide_eq_true_iff,decide_eq_true_iff,HT.lexLt_iff,decide_eq_true_iff]
theorem beats_one{s t:List Int}(h1:beats s t=false)(h2:beats t s=false):s=t:=by
 rw[Bool.eq_false_iff,Ne,zdk,not_or]at h1 h2
 have hl:s.length=t.length:=by omega
 have a:¬s<t:=fun h=>h1.2 ⟨hl,h⟩
 have b:¬t<s:=fun h=>h2.2 ⟨hl.symm,h⟩
 exact List.le_antisymm (List.not_lt.mp b) (List.not_lt.mp a)
theorem beats_trans{a b c:List Int}(h1:beats a b=false)(h2:beats b c=false):beats a c=false:=by
 rw[Bool.eq_false_iff,Ne,zdk,not_or]at h1 h2⊢
 have hab:a.length<=b.length:=by omega
 have hbc:b.length<=c.length:=by omega
 refine⟨by omega,fun⟨e,l⟩=> ?_⟩
 have n1:¬a<b:=fun h=>h1.2 ⟨by omega,h⟩
 have n2:¬b<c:=fun h=>h2.2 ⟨by omega,h⟩
 exact absurd l (List.not_lt.mpr (List.le_trans (List.not_lt.mp n2) (List.not_lt.mp n1)))
theorem beats_asym{a b:List Int}(h:beats a b=true):beats b a=false:=by
 rw[zdk]at h
 rw[Bool.eq_false_iff,Ne,zdk,not_or]
 rcases h with h|⟨e,l⟩
 ·exact⟨by omega,fun⟨e,_⟩=>by omega⟩
 ·exact⟨by omega,fun⟨_,l'⟩=>List.lt_irrefl _ (List.lt_trans l l')⟩
theorem beats_irr(a:List Int):beats a a=false:=by
 rw[Bool.eq_false_iff,Ne,zdk,not_or]
 exact⟨by omega,fun⟨_,l⟩=>List.lt_irrefl _ l⟩
theorem pick_top:∀(k:Nat) (l:List (List Int)),l.length=k->(pick l=[]\/pick l∈l)/\∀t∈l,beats t (pick l)=false
 |0,l,h=>by rw[List.eq_nil_of_length_eq_zero h];exact⟨.inl rfl,fun t h=>(nomatch h)⟩
 |k+1,l0,h=>by
  have hne:l0≠[]:=fun e=>by rw[e]at h;cases h
  obtain⟨l,s,rfl⟩:∃ys p,l0=ys++[p]:=⟨l0.dropLast,l0.getLast hne,(List.dropLast_concat_getLast hne).symm⟩
  have ih:=pick_top k l (by rw[List.length_append]at h;exact Nat.succ.inj h)
  rw[pick_snoc]
  cases hb:beats s (pick l)with
  |true=>
   rw[if_pos rfl]
   refine⟨.inr (List.mem_append.mpr (.inr (List.mem_singleton.mpr rfl))),fun t ht=> ?_⟩
   rcases List.mem_append.mp ht with h|h
   ·exact beats_trans (ih.2 t h) (beats_asym hb)
   ·rw[List.mem_singleton.mp h];exact beats_irr s
  |false=>
   rw[if_neg (by decide)]
   refine⟨ih.1.imp id fun h=>List.mem_append.mpr (.inl h),fun t ht=> ?_⟩
   rcases List.mem_append.mp ht with h|h
   ·exact ih.2 t h
   ·rw[List.mem_singleton.mp h];exact hb
theorem best_is(ts:List (Int×Int))(xs:List Int):Best ts xs (best ts xs):=by
 have h:=pick_top _ (aset ts xs) rfl
 refine⟨?_,fun t ht=>h.2 t ((mem_aset rfl).mpr ht)⟩
 rcases h.1 with e|e
 ·show ApS ts xs (pick (aset ts xs))
  rw[e];exact⟨List.nil_sublist _,List.Pairwise.nil⟩
 ·exact(mem_aset rfl).mp e
theorem best_one{ts:List (Int×Int)}{xs s:List Int}(h:Best ts xs s):s=best ts xs:=
 beats_one ((best_is ts xs).top s h.is) (h.top _ (best_is ts xs).is)
end Hs
namespace Hs
open PySem L2 HsD
theorem lex_map{g:Int->Int}:∀(a b:List Int),(∀x∈a,∀y∈b,(g x=g y↔x=y)/\(g x<g y↔x<y))->HT.lexLt (a.map g) (b.map g)=HT.lexLt a b
 |[],[],_=>rfl
 |[],_::_,_=>rfl
 |_::_,[],_=>rfl
 |x::a,y::b,h=>by
  have h1:=h x (List.mem_cons_self ..) y (List.mem_cons_self ..)
  have ih:=lex_map a b fun u hu v hv=>h u (List.mem_cons_of_mem _ hu) v (List.mem_cons_of_mem _ hv)
  rw[List.map_cons,List.map_cons,HT.lexLt_cons,HT.lexLt_cons,ih]
  by_cases e:x=y
  ·rw[if_pos e,if_pos (h1.1.mpr e)]
  ·rw[if_neg e,if_neg (fun q=>e (h1.1.mp q))]
   by_cases l:x<y
   ·rw[decide_eq_true l,decide_eq_true (h1.2.mpr l)]
   ·rw[decide_eq_false l,decide_eq_false (fun q=>l (h1.2.mp q))]
theorem sub_of_mem{xs s:List Int}(hx:xs.Pairwise (· < ·))(hs:s.Pairwise (· < ·))(h:∀k∈s,k∈xs):s.Sublist xs:=by
 have e:s=xs.filter fun k=>decide (k∈s):=rising_same hs (hx.filter _) fun k=>by
  rw[List.mem_filter,decide_eq_true_iff]
  exact⟨fun q=>⟨h k q,q⟩,fun q=>q.2⟩
 rw[e];exact List.filter_sublist
theorem rng_up(n:Nat):(rng n).Pairwise (· < ·):=by
 unfold rng
 rw[List.pairwise_map]
 exact List.pairwise_lt_range.imp fun{a b} h=>by omega
theorem most_best{n:Int}{ts:List (Int×Int)}{xs s:List Int}(ht:PairsOk n ts)(hok:SetOk n xs)(h0:0<=n)(h:MostOf s (rows (so9 xs ts) (xs.length:Int) (xs.length:Int).toNat) false xs.length):(s.map fun i=>xs.getD i.toNat 0)=best ts xs:=by
 obtain⟨ss,hS,i,hi,hm⟩:=h
 generalize hc:rows (so9 xs ts) (xs.length:Int) (xs.length:Int).toNat=cts at *
 have key:∀i j:Int,0<=i->i<j->j<(xs.length:Int)->tiedL cts i j=tiedL ts (xs.getD i.toNat 0) (xs.getD j.toNat 0):=fun i j a b c=>by
  rw[<-hc,tied_rows a b c]
  unfold so9
  rw[tied_eq ht]
 have inF:∀{t:List Int},t∈ss->SetK cts false xs.length t:=fun{t} q=>sets_k _ _ (List.mem_filter.mp (hS.1.mem_iff.mp q)).1
 have hsm:s∈ss:=List.mem_of_getElem? hi
 have K1:=inF hsm
 have C1:SetK ts false n.toNat (s.map fun i=>xs.getD i.toNat 0):=cut_set ht hok h0 (by rw[hc];exact K1)
 refine best_one ⟨⟨sub_of_mem hok.srt C1.up fun k hk=> ?_,?_⟩,fun t hT=> ?_⟩
 ·obtain⟨i,hi',rfl⟩:=List.mem_map.mp hk
  exact getD_at (K1.lt i hi').1 (K1.lt i hi').2
 ·refine List.Pairwise.imp_of_mem (fun{a b} ha hb hab=> ?_) C1.up
  have:=C1.all a ha b hb (by omega)
  rw[tied_eq ht]
  simpa using this
 ·have tu:t.Pairwise (· < ·):=hok.srt.sublist hT.sub
  have tm:∀k∈t,k∈xs:=fun k hk=>hT.sub.subset hk
  -- the places of t within xs
  have ex:∀k∈t,∃j:Int,0<=j/\j<(xs.length:Int)/\xs.getD j.toNat 0=k:=fun k hk=>by
   obtain⟨j,hj,e⟩:=List.getElem_of_mem (tm k hk)
   refine⟨(j:Int),by omega,by omega,?_⟩
   rw[Int.toNat_natCast,List.getD_eq_getElem?_getD,List.getElem?_eq_getElem hj]
   exact e
  generalize hu:(rng xs.length).filter (fun j=>decide (xs.getD j.toNat 0∈t))=u
  have um:∀j,j∈u↔(0<=j/\j<(xs.length:Int))/\xs.getD j.toNat 0∈t:=fun j=>by rw[<-hu,List.mem_filter,mem_rng,decide_eq_true_iff]
  have uu:u.Pairwise (· < ·):=by rw[<-hu];exact(rng_up _).filter _
  have mono:∀a∈u,∀b∈u,a<b->xs.getD a.toNat 0<xs.getD b.toNat 0:=fun a ha b hb hab=>getD_lt hok.srt ((um a).mp ha).1.1 hab ((um b).mp hb).1.2
  have ut:(u.map fun j=>xs.getD j.toNat 0)=t:=by
   refine rising_same ?_ tu fun k=> ?_
   ·rw[List.pairwise_map]
    exact List.Pairwise.imp_of_mem (fun{a b} ha hb hab=>mono a ha b hb hab) uu
   ·rw[List.mem_map]
    constructor
    ·rintro⟨j,hj,rfl⟩;exact((um j).mp hj).2
    ·intro hk
     obtain⟨j,j0,j1,e⟩:=ex k hk
     exact⟨j,(um j).mpr ⟨⟨j0,j1⟩,by rw[e];exact hk⟩,e⟩
  have tt':∀a∈t,∀b∈t,a<b->hasTie ts a b=false:=fun a ha b hb hab=>by
   obtain⟨x,hx,ex1⟩:=List.getElem_of_mem ha
   obtain⟨y,hy,ey1⟩:=List.getElem_of_mem hb
   have hxy:x<y:=by
    rcases Nat.lt_trichotomy x y with q|q|q
    ·exact q
    ·subst q;omega
    ·have:=List.pairwise_iff_getElem.mp tu y x hy hx q
     omega
   have:=List.pairwise_iff_getElem.mp hT.ap x y hx hy hxy
   rw[ex1,ey1]at this;exact this
  have U:SetK cts false xs.length u:=by
   have q:∀a∈u,∀b∈u,a<b->(tiedL cts a b==false)=true:=fun a ha b hb hab=>by
    rw[key a b ((um a).mp ha).1.1 hab ((um b).mp hb).1.2,<-tied_eq ht,tt' _ ((um a).mp ha).2 _ ((um b).mp hb).2 (mono a ha b hb hab)]
    rfl
   refine⟨uu,fun x hx=>((um x).mp hx).1,fun x hx y hy hne=> ?_⟩
   rcases Int.lt_or_lt_of_ne hne with c|c
   ·exact q x hx y hy c
   ·rw[zcg];exact q y hy x hx c
  obtain⟨v,hv,uv⟩:=ext_full U
  have hv':v∈ss:=hS.1.mem_iff.mpr hv
  have V:=inF hv'
  have sub:u.Sublist v:=sub_of_mem V.up uu uv
  obtain⟨j,hj,ej⟩:=List.getElem_of_mem hv'
  have hj':ss[j]? =some v:=by rw[List.getElem?_eq_getElem hj,ej]
  obtain⟨m1,m2⟩:=hm j v hj'
  have lu:t.length=u.length:=by rw[<-ut,List.length_map]
  have l1:=sub.length_le
  rw[Bool.eq_false_iff,Ne,zdk,not_or,List.length_map]
  refine⟨by omega,fun⟨e,l⟩=> ?_⟩
  have euv:u=v:=sub.eq_of_length (by omega)
  have nlt:¬j<i:=fun q=>by have:=m2 q;omega
  rw[<-ut,euv]at l
  have L:HT.lexLt v s=false:=by
   rcases Nat.lt_or_ge i j with q|q
   ·obtain⟨hi1,ei⟩:=List.getElem?_eq_some_iff.mp hi
    have:=List.pairwise_iff_getElem.mp hS.2 i j hi1 hj q
    rw[ei,ej]at this;exact this
   ·have:i=j:=by omega
    subst this
    rw[hj']at hi
    injection hi with hi
    rw[hi];exact lex_irr s
  have L2':=lex_map (g:=fun k=>xs.getD k.toNat 0) v s fun x hx y hy=>by
   have bx:=V.lt x hx
   have by':=K1.lt y hy
   refine⟨⟨fun e=> ?_,fun e=>by rw[e]⟩,⟨fun e=> ?_,fun e=>getD_lt hok.srt bx.1 e by'.2⟩⟩
   ·rcases Int.lt_trichotomy x y with c|c|c
    ·have:=getD_lt hok.srt bx.1 c by'.2;omega
    ·exact c
    ·have:=getD_lt hok.srt by'.1 c bx.2;omega
   ·rcases Int.lt_trichotomy x y with c|c|c
    ·exact c
    ·subst c;omega
    ·have:=getD_lt hok.srt by'.1 c bx.2;omega
  rw[HT.lexLt_iff,L]at L2'
  exact absurd l (of_decide_eq_false L2')
noncomputable def rest(ts:List (Int×Int))(xs:List Int):List Int:=xs.filter fun o=> !decide (o∈best ts xs)
theorem SetOk.sub{n:Int}{xs ys:List Int}(h:SetOk n xs)(s:ys.Sublist xs):SetOk n ys:=⟨h.srt.sublist s,fun x hx=>h.lt x (s.subset hx)⟩
theorem SetOk.rest{n:Int}{xs:List Int}(ts:List (Int×Int))(h:SetOk n xs):SetOk n (rest ts xs):=h.sub List.filter_sublist
end Hs
namespace Hs
open PySem L2 HsD
section
variable{P:Program}{w:World}{K:W.Frag}{mg:Str->Option Value}{base:Heap}
noncomputable def spEPart(K:W.Frag):Sp:=fun vs H Q _=>∃(a b:Nat),vs=[.int (a:Int),.int (b:Int)]/\0<b/\b<=10^200/\∀p H' u v,Same H H'->SqT K H' p [.int u,.int ((v:Nat):Int)]->Low (a:Int) b u v->Q (.ref p) H'
theorem sc_epart:FnScope ["top","bottom","one","other"] ["top","bottom"] (defScope zcb):=⟨rfl,rfl,rfl,by decide+kernel,rfl,by decide+kernel,by decide+kernel⟩
theorem ok_epart{f:Addr}{fd:FuncData}(F:Fun K "_law_e_part" "_law_e_part" zcb f fd):
  FnOk P w K mg base CX0 1 f fd ["top","bottom"] (spEPart K):=by
 refine F.ok sc_epart (fun vs H Q E h=> ?_) (fun cdv A outer s H vs Q E hr h=> ?_)
 ·obtain⟨m,n,rfl,_⟩:=h
  rfl
 obtain⟨a,b,rfl,hb,hB,q⟩:=h
 refine⟨_,(zae (ps_par (i:=2) (j:=3) rfl sc_epart.nd rfl rfl (by decide) rfl rfl (zaa (pv 0) (zaa (pv 1) zab)) rfl) (zae (ps_while PassesOwn.never (zaq op_ne (pv 3) zaf (nomark _)) (zag (ps_par (i:=2) (j:=3) rfl sc_epart.nd rfl rfl (by decide) rfl rfl (zaa (pv 3) (zaa (zan op_mod (pv 2) (pv 3)) zab)) rfl))) (zag (zak (zbk (zaa (zan op_fdivW (pv 0) (pv 2)) (zaa (zan op_fdivW (pv 1) (pv 2)) zab))))))),?_⟩
 refine⟨_,rfl,_,rfl,_,_,rfl,?_⟩
 refine⟨fun k σ H'=>H'=H/\∃(m':Nat),σ=[some (.int (a:Int)),some (.int (b:Int)),some (.int (m':Int)),some (.int (k:Int))]/\Nat.gcd m' k=Nat.gcd a b,⟨b,rfl,a,rfl,rfl⟩,?_⟩
 rintro k σ H' ⟨rfl,m',rfl,hg⟩
 refine⟨_,rfl,rfl,_,rfl,?_⟩
 refine ite2 (fun c=> ?_) (fun c=> ?_)
 ·have hk:0<k:=by
   rcases Nat.eq_zero_or_pos k with h|h
   ·subst h;exact absurd c (by decide)
   ·exact h
  refine⟨fun σ' H2=>H2=H'/\σ'=[some (.int (a:Int)),some (.int (b:Int)),some (.int (k:Int)),some (.int ((m' %k:Nat):Int))],fun σ' H2 ⟨e1,e2⟩=>⟨m' %k,Nat.mod_lt _ hk,e1,k,e2,?_⟩,?_⟩
  ·rw[gcd_step];exact hg
  ·exact⟨_,rfl,_,rfl,_,rfl,_,_,rfl,rfl,Int.ofNat_lt.mpr hk,_,_,rfl,rfl,rfl⟩
 ·have hk:k=0:=by
   rcases Nat.eq_zero_or_pos k with h|h
   ·exact h
   ·exfalso;apply c
    show(!decide (V.int (k:Int)=V.int 0))=true
    rw[decide_eq_false (fun e=>by injection e with e;omega)];rfl
  subst hk
  rw[Nat.gcd_zero_right]at hg
  have hg1:0<Nat.gcd a b:=Nat.gcd_pos_of_pos_right _ hb
  have hg2:(((Nat.gcd a b:Nat):Int)).natAbs<=10^200:=Nat.le_trans (gcd_le (a:Int) b hb) hB
  rw[hg]
  refine⟨_,rfl,_,rfl,_,_,rfl,rfl,⟨Int.ofNat_lt.mpr hg1,hg2⟩,_,rfl,_,rfl,_,_,rfl,rfl,⟨Int.ofNat_lt.mpr hg1,hg2⟩,(by show 2<=sizeLine;decide),fun p hp=> ?_⟩
  exact q p _ _ _ (zad hp _) (SqT.of (low_div (a:=(a:Int)) hp)) (low_mk (a:Int) b hb)
noncomputable def spESets(K:W.Frag):Sp:=fun vs H Q _=>∃(a l:Addr) (n:Int) (ts:List (Int×Int)) (xs:List Int),vs=[.ref a,.ref l]/\WebIs K H a n ts/\SqL K H l (xs.map V.int)/\xs.length<=10/\∀r H',Same H H'->SetsAt K H' r (aset ts xs)->Q (.ref r) H'
theorem aset_small(ts:List (Int×Int)){xs:List Int}(h:xs.length<=10):(aset ts xs).length<=1024:=Nat.le_trans (aset_len ts _ xs rfl) (Nat.pow_le_pow_right (by decide) h)
theorem aset_each{ts:List (Int×Int)}{xs s:List Int}(h:xs.length<=10)(hs:s∈aset ts xs):s.length<=10:=Nat.le_trans ((mem_aset rfl).mp hs).sub.length_le h
theorem sc_esets:FnScope ["web","left","found","place","more"] ["web","left"] (defScope zau):=⟨rfl,rfl,rfl,by decide+kernel,rfl,by decide+kernel,by decide+kernel⟩
theorem ok_esets{f f1:Addr}{fd d1:FuncData}(F:Fun K "_law_e_apart_sets" "_law_e_apart_sets" zau f fd)(D1:Dfn K mg "_law_e_tied" zbi ["web","one","other"] f1 d1)(G1:FnOk P w K mg base CX0 1 f1 d1 ["web","one","other"] (spHas K))(m_any:mg "any"=none):
  FnOk P w K mg base CX0 2 f fd ["web","left"] (spESets K):=by
 refine F.ok sc_esets (fun vs H Q E h=> ?_) (fun cdv A outer s H vs Q E hr h=> ?_)
 ·obtain⟨a,l,n,ts,xs,rfl,_⟩:=h
  rfl
 obtain⟨a,l,n,ts,xs,rfl,hA,hL,hx10,q⟩:=h
 refine⟨_,(zae (zaw (i:=2) sc_esets.nd rfl (Or.inl rfl) (zda (zaa (zbk zab) zab))) (zae (zdh PassesOwn.never rfl (zcy (pv 1)) (zaj (i:=3) sc_esets.nd rfl (Or.inr rfl)) (zae (ps_setComp (i:=4) (own:=["some"]) (caps:=["web","place"]) (ix:=[0,3]) sc_esets.nd rfl (Or.inl rfl) rfl (zcy (pv 2)) rfl rfl (.cons rfl rfl (.cons rfl rfl .nil)) (fun _ _ _ _ _=>(zaj (i:=0) (show(["some","web","place"]:List Str).Nodup from by decide+kernel) rfl (Or.inl rfl))) (fun _ _ _ _ _=>pts_one (pt_not (zdg (zai (call_anyK K rfl) rfl m_any (by decide+kernel) (zaa (zck (own:=["one"]) (caps:=["web","place"]) (ix:=[1,2]) rfl (pi_tupLK K (pv 0)) rfl rfl (.cons rfl rfl (.cons rfl rfl .nil)) (fun _ _ _ _ _=>(zaj (i:=0) (show(["one","web","place"]:List Str).Nodup from by decide+kernel) rfl (Or.inl rfl))) (fun _ _ _ _ _=>zcx) (fun _ _ _ _ _=>(zah G1 hr rfl D1.m D1.F.kp D1.b .nil pass0 (zaa (pv 1) (zaa (pv 0) (zaa (pv 2) zab)))))) zab))))) (fun _ _ _ _ _=>(zan (op_catEK K) (pv 0) (zbk (zaa (pv 2) zab))))) (zag (zaw (i:=2) sc_esets.nd rfl (Or.inl rfl) (zan op_cat (pv 2) (pv 4)))))) (zag (zak (pv 2))))),?_⟩
 refine⟨(by show 0<=sizeLine;decide),fun e0 he0=>⟨(by show 1<=sizeLine;decide),fun fo hfo=> ?_⟩⟩
 have s1:=(zad he0 (.tup [])).trans (zad hfo (.lst [.ref e0]))
 have f0:SetsAt K (upd (upd H e0 (.tup [])) fo (.lst [.ref e0])) fo (aset ts []):=⟨[(e0,[])],zac,fun p hp=>by rw[List.mem_singleton.mp hp];exact(zad hfo (.lst [.ref e0])).tup (SqT.of zac),rfl⟩
 generalize upd (upd H e0 (.tup [])) fo (.lst [.ref e0])=H1 at *
 refine⟨_,rfl,l,_,rfl,s1.seq hL,fun _=> ?_⟩
 refine for_list (K:=K) (a:=l) (xs:=xs.map V.int) (fun i σ H'=>Same H H'/\∃fo o3 o4,SetsAt K H' fo (aset ts (xs.take i))/\σ=[some (.ref a),some (.ref l),some (.ref fo),o3,o4]) ⟨s1,fo,_,_,f0,rfl⟩ (fun i σ H' _ p=>p.1.seq hL) (fun i x σ H' hx p=> ?_) (fun σ H' p=> ?_)
 ·obtain⟨sm,fo,o3,o4,⟨its,i1,i2,i3⟩,rfl⟩:=p
  rw[List.getElem?_map]at hx
  cases ex:xs[i]? with
  |none=>rw[ex]at hx;cases hx
  |some p=>
   rw[ex]at hx
   cases hx
   have tl:(xs.take i).length<=10:=by rw[List.length_take];omega
   have il:its.length<=1024:=by
    have e1:its.length=(aset ts (xs.take i)).length:=by rw[<-i3,List.length_map]
    have:=aset_small ts tl
    omega
   refine⟨_,rfl,fo,_,rfl,SqL.of i1,fun hz=> ?_⟩
   refine comp_list (xs:=its.map fun q=>V.ref q.1) (fun k acc σ H2=>Same H' H2/\acc.length<=k/\(∃jt:List (Addr×List Int),acc=jt.map (fun q=>V.ref q.1)/\(∀q∈jt,SqT K H2 q.1 (q.2.map V.int))/\jt.map (fun q=>q.2)=(((its.take k).map fun q=>q.2).filter fun s=> !s.any fun o=>hasTie ts o p).map fun s=>s++[p])/\∃o,σ=[o,some (.ref a),some (.int p)])
    ⟨Same.refl _,Nat.le_refl _,⟨[],rfl,fun q hq=>(nomatch hq),rfl⟩,_,rfl⟩ (fun k acc σ H2 _ p=>p.1.seq (SqL.of i1)) (fun k acc σ H2 _ p=>p.2.1) hz (fun k x acc σ H2 hx pp=> ?_) (fun acc σ H2 pp=> ?_)
   ·obtain⟨s2,hk,⟨jt,rfl,j2,j3⟩,o,rfl⟩:=pp
    rw[List.getElem?_map]at hx
    cases ek:its[k]? with
    |none=>rw[ek]at hx;cases hx
    |some v=>
     rw[ek]at hx
     cases hx
     have hv:=i2 v (List.mem_of_getElem? ek)
     have vl:v.2.length<=10:=aset_each tl (by rw[<-i3];exact List.mem_map.mpr ⟨v,List.mem_of_getElem? ek,rfl⟩)
     have et:((its.take (k+1)).map fun q=>q.2)=((its.take k).map fun q=>q.2)++[v.2]:=by rw[List.take_add_one,ek,List.map_append];rfl
     refine⟨_,rfl,v.1,_,rfl,s2.tup hv,fun hz2=> ?_⟩
     refine comp_tup (xs:=v.2.map V.int) (fun m acc σ H3=>acc=((v.2.take m).map fun o=>hasTie ts o p).map V.bl/\Same H2 H3/\∃o,σ=[o,some (.ref a),some (.int p)]) ⟨rfl,Same.refl _,_,rfl⟩ (fun m acc σ H3 _ p=>p.2.1.tup (s2.tup hv)) (fun m acc σ H3 hm p=> ?_) hz2 (fun m x acc σ H3 hx p3=> ?_) (fun acc σ H3 p3=> ?_)
     ·rw[p.1,List.length_map,List.length_map,List.length_take];exact Nat.min_le_left _ _
     ·obtain⟨rfl,s3,o,rfl⟩:=p3
      rw[List.getElem?_map]at hx
      cases em:v.2[m]? with
      |none=>rw[em]at hx;cases hx
      |some y=>
       rw[em]at hx
       cases hx
       refine⟨_,rfl,_,rfl,_,rfl,a,n,y,p,ts,rfl,(hA.same (sm.trans (s2.trans s3))).web,fun H4 s4=>⟨?_,s3.trans s4,_,rfl⟩⟩
       rw[List.take_add_one,em,List.map_append,List.map_append];rfl
     ·intro p1 hp1
      obtain⟨rfl,s3,_⟩:=p3
      rw[List.length_map,List.take_length]
      refine⟨p1,v.2.map (fun o=>hasTie ts o p),rfl,SqL.of zac,_,rfl,?_⟩
      have s4:=s3.trans (zad hp1 (.lst ((v.2.map fun o=>hasTie ts o p).map V.bl)))
      generalize upd H3 p1 (.lst ((v.2.map fun o=>hasTie ts o p).map V.bl))=H4 at *
      have eb:(v.2.map fun o=>hasTie ts o p).any id=v.2.any fun o=>hasTie ts o p:=by rw[List.any_map];rfl
      rw[eb,et,List.filter_append,List.map_append]
      cases hb:v.2.any fun o=>hasTie ts o p with
      |true=>
       refine iteF ⟨s2.trans s4,by omega,⟨jt,rfl,fun q hq=>s4.tup (j2 q hq),?_⟩,_,rfl⟩
       rw[j3,List.filter_cons_of_neg (by rw[hb];decide)];simp
      |false=>
       refine iteT ?_
       refine⟨_,rfl,_,rfl,(by show 1<=sizeLine;decide),fun t ht=>⟨v.1,t,_,_,rfl,rfl,(zad ht _).tup ((s2.trans s4).tup hv),SqT.of zac,by rw[List.length_map,sizeLine_eq];show v.2.length+1<=_;omega,fun r H6 s6 hr6=> ?_⟩⟩
       have s7:=s4.trans ((zad ht (.tup [.int p])).trans s6)
       refine⟨s2.trans s7,by rw[List.length_append];show _+1<=k+1;omega,⟨jt++[(r,v.2++[p])],by rw[List.map_append];rfl,fun q hq=> ?_,?_⟩,_,rfl⟩
       ·rcases List.mem_append.mp hq with z|z
        ·exact s7.tup (j2 q z)
        ·rw[List.mem_singleton.mp z,List.map_append];exact hr6
       ·rw[List.map_append,j3,List.filter_cons_of_pos (by rw[hb];decide)];rfl
   ·intro p1 hp1
    obtain⟨s2,hk,⟨jt,rfl,j2,j3⟩,o,rfl⟩:=pp
    have s3:=zad hp1 (.lst (jt.map fun q=>V.ref q.1))
    have i1':=(s2.trans s3) _ _ i1
    have jl:jt.length<=1024:=by rw[List.length_map]at hk;rw[List.length_map]at hk;omega
    refine⟨_,rfl,_,rfl,fo,p1,_,_,rfl,rfl,i1',zac,by rw[List.length_map,List.length_map,sizeLine_eq];omega,fun r hr'=> ?_⟩
    have s4:=(s2.trans s3).trans (zad hr' (.lst ((its.map fun q=>V.ref q.1)++jt.map fun q=>V.ref q.1)))
    refine⟨sm.trans s4,r,_,_,⟨its++jt,by rw[zac,List.map_append],fun q hq=> ?_,?_⟩,rfl⟩
    ·rcases List.mem_append.mp hq with z|z
     ·exact s4.tup (i2 q z)
     ·exact(s3.trans (zad hr' _)).tup (j2 q z)
    ·rw[List.length_map,List.take_length]at j3
     rw[List.take_add_one,ex,List.map_append,j3,i3]
     exact(aset_snoc ts (xs.take i) p).symm
 ·obtain⟨sm,fo,o3,o4,hS,rfl⟩:=p
  rw[List.length_map,List.take_length]at hS
  exact⟨_,rfl,q fo H' sm hS⟩
theorem low_one{a c:Int}{b d v v':Nat}{u u':Int}(h:Low a b u v)(h':Low c d u' v')(hb:0<b)(hd:0<d)(e:a*(d:Int)=c*(b:Int)):u=u'/\v=v':=by
 have x:u*(v':Int)=u'*(v:Int):=by
  have hbd:((b:Int)*(d:Int))≠0:=by
   have:(0:Int)<(b:Int)*(d:Int):=Int.mul_pos (by omega) (by omega)
   omega
  refine Int.eq_of_mul_eq_mul_left hbd ?_
  calc ((b:Int)*(d:Int))*(u*(v':Int))=(u*(b:Int))*((d:Int)*(v':Int)):=by ac_rfl
   _=(a*(v:Int))*((d:Int)*(v':Int)):=by rw[h.eq]
   _=(a*(d:Int))*((v:Int)*(v':Int)):=by ac_rfl
   _=(c*(b:Int))*((v:Int)*(v':Int)):=by rw[e]
   _=(c*(v':Int))*((b:Int)*(v:Int)):=by ac_rfl
   _=(u'*(d:Int))*((b:Int)*(v:Int)):=by rw[h'.eq]
   _=((b:Int)*(d:Int))*(u'*(v:Int)):=by ac_rfl
 have y:u.natAbs*v'=u'.natAbs*v:=by
  have:=congrArg Int.natAbs x
  rw[Int.natAbs_mul,Int.natAbs_mul]at this
  exact this
 have d1:v∣v':=Nat.Coprime.dvd_of_dvd_mul_left (k:=v) (m:=u.natAbs) (by rw[Nat.coprime_comm];exact h.cop) ⟨u'.natAbs,by rw[y,Nat.mul_comm]⟩
 have d2:v'∣v:=Nat.Coprime.dvd_of_dvd_mul_left (k:=v') (m:=u'.natAbs) (by rw[Nat.coprime_comm];exact h'.cop) ⟨u.natAbs,by rw[<-y,Nat.mul_comm]⟩
 have ev:=Nat.dvd_antisymm d1 d2
 refine⟨?_,ev⟩
 rw[ev]at x
 exact Int.eq_of_mul_eq_mul_right (by have:=h'.pos;omega) x
end
end Hs
namespace Hs
open PySem L2 HsD
noncomputable def rgI(n:Nat):List Int:=(List.range n).map fun(t:Nat)=>(t:Int)
theorem zcm{n:Nat}{x:Int}:x∈rgI n↔0<=x/\x<(n:Int):=by
 unfold rgI
 rw[List.mem_map]
 constructor
 ·rintro⟨t,ht,rfl⟩
  have:=List.mem_range.mp ht
  omega
 ·intro h
  exact⟨x.toNat,List.mem_range.mpr (by omega),by omega⟩
theorem rgI_nodup(n:Nat):(rgI n).Nodup:=by
 unfold rgI List.Nodup
 rw[List.pairwise_map]
 exact List.nodup_range.imp fun h e=>h (by omega)
theorem rgI_len(n:Nat):(rgI n).length=n:=by unfold rgI;rw[List.length_map,List.length_range]
theorem rgI_succ(n:Nat):rgI (n+1)=rgI n++[(n:Int)]:=by unfold rgI;rw[List.range_succ,List.map_append];rfl
noncomputable def cnt(ts:List (Int×Int))(p:Int):Nat:=(ts.filter fun t=>decide (p∈[t.1,t.2])).length
noncomputable def okB(ts:List (Int×Int))(b:List Int)(x:Int):Bool:=(List.range b.length).all fun k=>hasTie ts (b.getD k 0) x==hasTie ts (k:Int) (b.length:Int)
noncomputable def goL(ts:List (Int×Int))(b:List Int)(x:Int):Bool:= !decide (x∈b)&&okB ts b x
noncomputable def goP(ts:List (Int×Int))(b:List Int)(x:Int):Bool:=(!decide (x∈b)&&decide (cnt ts x=cnt ts (b.length:Int)))&&okB ts b x
noncomputable def compl(g:List Int->Int->Bool)(n:Nat):Nat->List Int->List (List Int)
 |0,b=>[b]
 |m+1,b=>((rgI n).filter (g b)).flatMap fun x=>compl g n m (b++[x])
structure Iso(ts:List (Int×Int))(n:Nat)(b:List Int):Prop where
 nd:b.Nodup
 rg:∀x∈b,0<=x/\x<(n:Int)
 pr:∀j k,j<k->k<b.length->hasTie ts (b.getD j 0) (b.getD k 0)=hasTie ts (j:Int) (k:Int)
theorem Iso.nil(ts:List (Int×Int))(n:Nat):Iso ts n []:=⟨.nil,fun x hx=>(nomatch hx),fun j k _ h=>absurd h (Nat.not_lt_zero _)⟩
theorem getD_left{b c:List Int}{j:Nat}(h:j<b.length):(b++c).getD j 0=b.getD j 0:=by
 rw[List.getD_eq_getElem?_getD,List.getElem?_append_left h,List.getD_eq_getElem?_getD]
theorem getD_last{b:List Int}{x:Int}:(b++[x]).getD b.length 0=x:=by
 rw[List.getD_eq_getElem?_getD,List.getElem?_append_right (Nat.le_refl _),Nat.sub_self];rfl
theorem Iso.snoc{ts:List (Int×Int)}{n:Nat}{b:List Int}{x:Int}(h:Iso ts n b)(hx:0<=x/\x<(n:Int))(g:goL ts b x=true):Iso ts n (b++[x]):=by
 unfold goL at g
 rw[Bool.and_eq_true]at g
 obtain⟨g1,g2⟩:=g
 have nx:x∉b:=fun z=>by rw[decide_eq_true z]at g1;cases g1
 refine⟨?_,fun y hy=> ?_,fun j k hjk hk=> ?_⟩
 ·rw[List.nodup_append]
  refine⟨h.nd,by simp,fun y hy z hz e=>nx ?_⟩
  rw[List.mem_singleton.mp hz]at e
  rw[<-e];exact hy
 ·rcases List.mem_append.mp hy with z|z
  ·exact h.rg y z
  ·rw[List.mem_singleton.mp z];exact hx
 ·rw[List.length_append,List.length_singleton]at hk
  by_cases e:k<b.length
  ·rw[getD_left (by omega),getD_left e];exact h.pr j k hjk e
  ·have e2:k=b.length:=by omega
   subst e2
   rw[getD_left hjk,getD_last]
   exact eq_of_beq (List.all_eq_true.mp g2 j (List.mem_range.mpr hjk))
theorem compl_iso{ts:List (Int×Int)}{n:Nat}:∀(m:Nat) (b:List Int),b.length+m=n->Iso ts n b->∀s∈compl (goL ts) n m b,Iso ts n s/\s.length=n/\∃r,s=b++r
 |0,b,hb,I,s,hs=>by
  rw[List.mem_singleton.mp (show s∈[b]from hs)]
  exact⟨I,by omega,[],by rw[List.append_nil]⟩
 |m+1,b,hb,I,s,hs=>by
  obtain⟨x,hx,hs⟩:=List.mem_flatMap.mp (show s∈((rgI n).filter (goL ts b)).flatMap fun x=>compl (goL ts) n m (b++[x])from hs)
  obtain⟨h1,h2⟩:=List.mem_filter.mp hx
  obtain⟨i1,i2,r,i3⟩:=compl_iso m (b++[x]) (by rw[List.length_append,List.length_singleton];omega) (I.snoc (zcm.mp h1) h2) s hs
  exact⟨i1,i2,x::r,by rw[i3,List.append_assoc];rfl⟩
theorem cnt_nb{n:Nat}{ts:List (Int×Int)}(h:PairsOk (n:Int) ts)(p:Int):cnt ts p=((rgI n).filter fun q=>hasTie ts p q).length:=by
 have hm:∀q,q∈((ts.filter fun t=>decide (p∈[t.1,t.2])).map fun t=>if p=t.1 then t.2 else t.1)↔q∈(rgI n).filter fun q=>hasTie ts p q:=fun q=>by
  rw[List.mem_map,List.mem_filter,zcm,tied_eq h]
  unfold tiedL
  rw[Bool.or_eq_true,decide_eq_true_eq,decide_eq_true_eq]
  constructor
  ·rintro⟨t,ht,e⟩
   obtain⟨t1,t2⟩:=List.mem_filter.mp ht
   have hl:=h.lt t t1
   have t3:=of_decide_eq_true t2
   by_cases c:p=t.1
   ·rw[if_pos c]at e
    refine⟨by omega,.inl ?_⟩
    rw[c,<-e];exact t1
   ·rw[if_neg c]at e
    have c2:p=t.2:=by
     rcases List.mem_cons.mp t3 with z|z
     ·exact absurd z c
     ·exact List.mem_singleton.mp z
    refine⟨by omega,.inr ?_⟩
    rw[c2,<-e];exact t1
  ·rintro⟨hq,z|z⟩
   ·exact⟨(p,q),List.mem_filter.mpr ⟨z,decide_eq_true List.mem_cons_self⟩,if_pos rfl⟩
   ·have hl:=h.lt _ z
    exact⟨(q,p),List.mem_filter.mpr ⟨z,decide_eq_true (List.mem_cons_of_mem _ (List.mem_singleton.mpr rfl))⟩,if_neg (fun e=>by have e:p=q:=e;have:q<p:=hl.2.1;omega)⟩
 have nd1:((ts.filter fun t=>decide (p∈[t.1,t.2])).map fun t=>if p=t.1 then t.2 else t.1).Nodup:=by
  unfold List.Nodup
  rw[List.pairwise_map]
  refine(h.nd.filter _).imp_of_mem fun{s t} hs ht ne e=>ne ?_
  obtain⟨s1,s2⟩:=List.mem_filter.mp hs
  obtain⟨t1,t2⟩:=List.mem_filter.mp ht
  have ls:=h.lt s s1
  have lt:=h.lt t t1
  have s3:p=s.1\/p=s.2:=by
   rcases List.mem_cons.mp (of_decide_eq_true s2)with z|z
   ·exact .inl z
   ·exact .inr (List.mem_singleton.mp z)
  have t3:p=t.1\/p=t.2:=by
   rcases List.mem_cons.mp (of_decide_eq_true t2)with z|z
   ·exact .inl z
   ·exact .inr (List.mem_singleton.mp z)
  by_cases c:p=s.1
  ·by_cases c2:p=t.1
   ·rw[if_pos c,if_pos c2]at e
    exact Prod.ext (by omega) e
   ·rw[if_pos c,if_neg c2]at e
    omega
  ·by_cases c2:p=t.1
   ·rw[if_neg c,if_pos c2]at e
    omega
   ·rw[if_neg c,if_neg c2]at e
    exact Prod.ext e (by omega)
 have nd2:((rgI n).filter fun q=>hasTie ts p q).Nodup:=(rgI_nodup n).filter _
 have a1:=nd_le nd1 fun x hx=>(hm x).mp hx
 have a2:=nd_le nd2 fun x hx=>(hm x).mpr hx
 rw[List.length_map]at a1 a2
 unfold cnt
 omega
theorem tie_sym{n:Int}{ts:List (Int×Int)}(h:PairsOk n ts)(i j:Int):hasTie ts i j=hasTie ts j i:=by
 rw[tied_eq h,tied_eq h]
 unfold tiedL
 rw[Bool.or_comm]
theorem tie_self{n:Int}{ts:List (Int×Int)}(h:PairsOk n ts)(i:Int):hasTie ts i i=false:=by
 rw[tied_eq h]
 unfold tiedL
 have:(i,i)∉ts:=fun z=>by have:=h.lt _ z;omega
 rw[decide_eq_false this];rfl
theorem iso_all{n:Nat}{ts:List (Int×Int)}(h:PairsOk (n:Int) ts){s:List Int}(I:Iso ts n s)(hl:s.length=n){j k:Nat}(hj:j<n)(hk:k<n):hasTie ts (s.getD k 0) (s.getD j 0)=hasTie ts (k:Int) (j:Int):=by
 rcases Nat.lt_trichotomy j k with e|e|e
 ·rw[tie_sym h,I.pr j k e (by omega),tie_sym h]
 ·subst e;rw[tie_self h,tie_self h]
 ·exact I.pr k j e (by omega)
theorem iso_deg{n:Nat}{ts:List (Int×Int)}(h:PairsOk (n:Int) ts){s:List Int}(I:Iso ts n s)(hl:s.length=n){k:Nat}(hk:k<n):cnt ts (s.getD k 0)=cnt ts (k:Int):=by
 rw[cnt_nb h,cnt_nb h]
 have es:s=(List.range n).map fun j=>s.getD j 0:=by
  refine List.ext_getElem? fun i=> ?_
  rw[List.getElem?_map]
  by_cases hi:i<n
  ·rw[List.getElem?_range hi]
   show s[i]? =some (s.getD i 0)
   rw[List.getD_eq_getElem?_getD,List.getElem?_eq_getElem (by omega)];rfl
  ·rw[List.getElem?_eq_none (by omega),List.getElem?_eq_none (by rw[List.length_range];omega)];rfl
 have sur:∀q∈rgI n,q∈s:=fun q hq=>by
  refine Classical.byContradiction fun no=> ?_
  have:=nd_le (c:=q::s) (t:=rgI n) (List.nodup_cons.mpr ⟨no,I.nd⟩) fun y hy=>by
   rcases List.mem_cons.mp hy with z|z
   ·rw[z];exact hq
   ·exact zcm.mpr (I.rg y z)
  rw[List.length_cons,rgI_len]at this
  omega
 have b1:((rgI n).filter fun q=>hasTie ts (s.getD k 0) q).length=(s.filter fun q=>hasTie ts (s.getD k 0) q).length:=by
  have a1:=nd_le (c:=(rgI n).filter fun q=>hasTie ts (s.getD k 0) q) (t:=s.filter fun q=>hasTie ts (s.getD k 0) q) ((rgI_nodup n).filter _) fun x hx=>by
   obtain⟨x1,x2⟩:=List.mem_filter.mp hx
   exact List.mem_filter.mpr ⟨sur x x1,x2⟩
  have a2:=nd_le (c:=s.filter fun q=>hasTie ts (s.getD k 0) q) (t:=(rgI n).filter fun q=>hasTie ts (s.getD k 0) q) (I.nd.filter _) fun x hx=>by
   obtain⟨x1,x2⟩:=List.mem_filter.mp hx
   exact List.mem_filter.mpr ⟨zcm.mpr (I.rg x x1),x2⟩
  omega
 have b2:(s.filter fun q=>hasTie ts (s.getD k 0) q).length=((List.range n).filter fun j=>hasTie ts (s.getD k 0) (s.getD j 0)).length:=by
  generalize s.getD k 0=y
  have z:=congrArg (fun l:List Int=>(l.filter fun q=>hasTie ts y q).length) es
  rw[List.filter_map,List.length_map]at z
  exact z
 have b3:((rgI n).filter fun q=>hasTie ts (k:Int) q).length=((List.range n).filter fun(j:Nat)=>hasTie ts (k:Int) (j:Int)).length:=by
  unfold rgI
  rw[List.filter_map,List.length_map];rfl
 rw[b1,b2,b3]
 congr 1
 refine List.filter_congr fun j hj=> ?_
 exact iso_all h I hl (List.mem_range.mp hj) hk
theorem flat_eq{α:Type}{p q:Int->Bool}{f g:Int->List α}:∀{l:List Int},(∀x∈l,(p x=true->q x=true/\f x=g x)/\(p x=false->q x=true->g x=[]))->(l.filter p).flatMap f=(l.filter q).flatMap g
 |[],_=>rfl
 |x::l,h=>by
  have ih:=flat_eq (l:=l) fun y hy=>h y (List.mem_cons_of_mem _ hy)
  obtain⟨h1,h2⟩:=h x List.mem_cons_self
  cases hp:p x with
  |true=>
   obtain⟨hq,e⟩:=h1 hp
   rw[List.filter_cons,if_pos hp,List.filter_cons,if_pos hq,List.flatMap_cons,List.flatMap_cons,ih,e]
  |false=>
   rw[List.filter_cons,if_neg (by rw[hp];exact Bool.false_ne_true),ih]
   cases hq:q x with
   |true=>rw[List.filter_cons,if_pos hq,List.flatMap_cons,h2 hp hq];rfl
   |false=>rw[List.filter_cons,if_neg (by rw[hq];exact Bool.false_ne_true)]
theorem compl_eq{n:Nat}{ts:List (Int×Int)}(h:PairsOk (n:Int) ts):∀(m:Nat) (b:List Int),b.length+m=n->Iso ts n b->compl (goP ts) n m b=compl (goL ts) n m b
 |0,b,_,_=>rfl
 |m+1,b,hb,I=>by
  refine flat_eq fun x hx=>⟨fun hp=> ?_,fun hp hq=> ?_⟩
  ·unfold goP at hp
   rw[Bool.and_eq_true,Bool.and_eq_true]at hp
   have g:goL ts b x=true:=by unfold goL;rw[hp.1.1,hp.2];rfl
   exact⟨g,compl_eq h m (b++[x]) (by rw[List.length_append,List.length_singleton];omega) (I.snoc (zcm.mp hx) g)⟩
  ·have J:=I.snoc (zcm.mp hx) hq
   cases hc:compl (goL ts) n m (b++[x])with
   |nil=>rfl
   |cons s r=>
    obtain⟨i1,i2,u,i3⟩:=compl_iso m (b++[x]) (by rw[List.length_append,List.length_singleton];omega) J s (by rw[hc];exact List.mem_cons_self)
    have d:=iso_deg h i1 i2 (k:=b.length) (by omega)
    rw[i3,List.append_assoc]at d
    have e:(b++([x]++u)).getD b.length 0=x:=by
     rw[List.getD_eq_getElem?_getD,List.getElem?_append_right (Nat.le_refl _),Nat.sub_self];rfl
    rw[e]at d
    unfold goL at hq
    rw[Bool.and_eq_true]at hq
    unfold goP at hp
    rw[hq.1,hq.2,decide_eq_true d]at hp
    cases hp
theorem tk_step{α:Type}{X Y:List α}{m:Nat}(h:(X.take m).length<m):(X++Y).take m=X.take m++Y.take (m-(X.take m).length):=by
 rw[List.length_take]at h
 have e:X.take m=X:=List.take_of_length_le (by omega)
 rw[List.take_append,e]
theorem tk_full{α:Type}{X Y:List α}{m:Nat}(h:¬(X.take m).length<m):(X++Y).take m=X.take m:=by
 rw[List.length_take]at h
 rw[List.take_append,show m-X.length=0 by omega,List.take_zero,List.append_nil]
noncomputable def upTo(g:List Int->Int->Bool)(n m:Nat)(b:List Int)(i:Nat):List (List Int):=((rgI i).filter (g b)).flatMap fun x=>compl g n m (b++[x])
theorem upTo_succ(g:List Int->Int->Bool)(n m:Nat)(b:List Int)(i:Nat):upTo g n m b (i+1)=upTo g n m b i++(if g b (i:Int)=true then compl g n m (b++[(i:Int)])else[]):=by
 unfold upTo
 rw[rgI_succ,List.filter_append,List.flatMap_append]
 congr 1
 by_cases c:g b (i:Int)=true
 ·rw[if_pos c,List.filter_cons,if_pos c];simp
 ·rw[if_neg c,List.filter_cons,if_neg c];rfl
end Hs
namespace Hs
open PySem L2 HsD
section
variable{P:Program}{w:World}{K:W.Frag}{mg:Str->Option Value}{base:Heap}
theorem blE(a b:Bool):decide (V.bl a=V.bl b)=(a==b):=by cases a<;>cases b<;>rfl
noncomputable def spCnt(K:W.Frag):Sp:=fun vs H Q _=>∃(a:Addr) (n p:Int) (ts:List (Int×Int)),vs=[.ref a,.int p]/\WebV K H a n ts/\∀H',Same H H'->Q (.int (cnt ts p:Int)) H'
theorem sc_cnt:FnScope ["web","place"] ["web","place"] (defScope zbj):=⟨rfl,rfl,rfl,by decide+kernel,rfl,by decide+kernel,by decide+kernel⟩
theorem ok_cnt{f:Addr}{fd:FuncData}(F:Fun K "count_ties_at" "count_ties_at" zbj f fd)(m_len:mg "len"=none):
  FnOk P w K mg base CX0 1 f fd ["web","place"] (spCnt K):=by
 refine F.ok sc_cnt (fun vs H Q E h=> ?_) (fun cdv A outer s H vs Q E hr h=> ?_)
 ·obtain⟨a,n,p,ts,rfl,_⟩:=h
  rfl
 obtain⟨a,n,p,ts,rfl,hW,q⟩:=h
 refine⟨_,(zag (zak (zai zas rfl m_len PySem.boot_len (zaa (zck (own:=["tie"]) (caps:=["place"]) (ix:=[1]) rfl (pi_tupL (zat zar (pv 0) zaf (fun _ _=>rfl))) rfl rfl (.cons rfl rfl .nil) (fun _ _ _ _ _=>(zaj (i:=0) (show(["tie","place"]:List Str).Nodup from by decide+kernel) rfl (Or.inl rfl))) (fun _ _ _ _ _=>pts_one (zaq (op_inDK K hr.units) (pv 1) (pv 0) (by with_unfolding_all rfl))) (fun _ _ _ _ _=>(pv 0))) zab)))),?_⟩
 obtain⟨t,rs,h1,h2,h3⟩:=hW
 have hlen:rs.length=ts.length:=by have:=h3.len;rwa [List.length_map]at this
 refine⟨_,rfl,a,_,_,.ref t,rfl,rfl,h1,rfl,t,rs,rfl,h2,fun hz=> ?_⟩
 refine comp_tup (xs:=rs) (fun k acc σ H'=>acc.length=((ts.take k).filter fun t=>decide (p∈[t.1,t.2])).length/\H'=H/\∃o,σ=[o,some (.int p)]) ⟨rfl,rfl,_,rfl⟩ (fun k acc σ H' _ pp=>by rw[pp.2.1];exact h2) (fun k acc σ H' _ pp=> ?_) hz (fun k x acc σ H' hx pp=> ?_) (fun acc σ H' pp=> ?_)
 ·rw[pp.1]
  exact Nat.le_trans (List.length_filter_le _ _) (by rw[List.length_take];exact Nat.min_le_left _ _)
 ·obtain⟨e,rfl,o,rfl⟩:=pp
  obtain⟨u,hi,rfl,hu⟩:=pair_at h3 hx
  refine⟨_,rfl,_,rfl,u,_,[(ts[k]).1,(ts[k]).2].map PyData.int,.int p,rfl,.inr hu,DVs.ints [(ts[k]).1,(ts[k]).2],.int _,zcw _,rfl,(by show 0<=60;decide),_,rfl,?_⟩
  rw[any_ints]
  have et:(ts.take (k+1)).filter (fun t=>decide (p∈[t.1,t.2]))=(ts.take k).filter (fun t=>decide (p∈[t.1,t.2]))++[ts[k]].filter fun t=>decide (p∈[t.1,t.2]):=by
   rw[List.take_add_one,List.getElem?_eq_getElem hi,List.filter_append];rfl
  refine ite2 (fun c=> ?_) (fun c=> ?_)
  ·refine⟨_,rfl,?_,rfl,_,rfl⟩
   rw[et,List.filter_cons,if_pos c,List.length_append,List.length_append,e];rfl
  ·refine⟨?_,rfl,_,rfl⟩
   rw[et,List.filter_cons,if_neg c,List.length_append,e];rfl
 ·obtain⟨e,rfl,_⟩:=pp
  intro p1 hp1
  rw[hlen,List.take_length]at e
  refine⟨p1,_,rfl,.inl (SqL.of zac),fun _=> ?_⟩
  rw[e]
  exact q _ (zad hp1 _)
theorem len_ints(ys:List Int):V.int (((ys.map V.int).length:Nat):Int)=V.int (ys.length:Int):=by rw[List.length_map]
theorem neE(a b:Int):(!decide (V.int a=V.int b))= !decide (a=b):=by
 by_cases e:a=b
 ·subst e;simp
 ·rw[decide_eq_false e,decide_eq_false (by intro z;injection z with z;exact e z)]
noncomputable def spGo(K:W.Frag):Sp:=fun vs H Q _=>∃(a b:Addr) (x n:Int) (ts:List (Int×Int)) (bs:List Int),vs=[.ref a,.ref b,.int x]/\WebV K H a n ts/\SqT K H b (bs.map V.int)/\bs.length<=100/\∀H',Same H H'->Q (.bl (goP ts bs x)) H'
theorem sc_go:FnScope ["web","begun","image","place"] ["web","begun","image"] (defScope zbx):=⟨rfl,rfl,rfl,by decide+kernel,rfl,by decide+kernel,by decide+kernel⟩
theorem ok_go{f f1 f2:Addr}{fd d1 d2:FuncData}(F:Fun K "can_go_on" "can_go_on" zbx f fd)(D1:Dfn K mg "count_ties_at" zbj ["web","place"] f1 d1)(G1:FnOk P w K mg base CX0 1 f1 d1 ["web","place"] (spCnt K))(D2:Dfn K mg "has_tie" zcu ["web","one","other"] f2 d2)(G2:FnOk P w K mg base CX0 1 f2 d2 ["web","one","other"] (spHas K))(m_len:mg "len"=none)(m_all:mg "all"=none)(m_range:mg "range"=none):
  FnOk P w K mg base CX0 2 f fd ["web","begun","image"] (spGo K):=by
 refine F.ok sc_go (fun vs H Q E h=> ?_) (fun cdv A outer s H vs Q E hr h=> ?_)
 ·obtain⟨a,b,x,n,ts,bs,rfl,_⟩:=h
  rfl
 obtain⟨a,b,x,n,ts,bs,rfl,hW,hb,hl,q⟩:=h
 refine⟨_,(zae (zaw (i:=3) sc_go.nd rfl (Or.inr rfl) (zai zas rfl m_len PySem.boot_len (zaa (pv 1) zab))) (zae (zcv (PW.pt (pw_or (zaq (op_inD hr.units) (pv 2) (pv 1) (by with_unfolding_all rfl)) (pw_or1 (zaq op_ne (zah G1 hr rfl D1.m D1.F.kp D1.b .nil pass0 (zaa (pv 0) (zaa (pv 2) zab))) (zah G1 hr rfl D1.m D1.F.kp D1.b .nil pass0 (zaa (pv 0) (zaa (pv 3) zab))) (nomark _))))) (zag (zak pe_bl)) zbg) (zag (zak (zai (call_all rfl) rfl m_all (by decide+kernel) (zaa (zck (own:=["k"]) (caps:=["web","begun","image","place"]) (ix:=[0,1,2,3]) rfl (zbp rfl m_range (zaa (pv 3) zab)) rfl rfl (.cons rfl rfl (.cons rfl rfl (.cons rfl rfl (.cons rfl rfl .nil)))) (fun _ _ _ _ _=>(zaj (i:=0) (show(["k","web","begun","image","place"]:List Str).Nodup from by decide+kernel) rfl (Or.inl rfl))) (fun _ _ _ _ _=>zcx) (fun _ _ _ _ _=>(pe_cmpR op_eq (zah G2 hr rfl D2.m D2.F.kp D2.b .nil pass0 (zaa (pv 1) (zaa (zat (ix_tupK K) (pv 2) (pv 0) (fun _ _=>rfl)) (zaa (pv 3) zab)))) (zah G2 hr rfl D2.m D2.F.kp D2.b .nil pass0 (zaa (pv 1) (zaa (pv 0) (zaa (pv 4) zab)))) (nomark _)))) zab)))))),?_⟩
 refine⟨_,rfl,b,_,rfl,.inr hb,fun _=> ?_⟩
 rw[len_ints]
 refine⟨_,rfl,_,rfl,b,_,bs.map PyData.int,.int x,rfl,.inr hb,DVs.ints bs,.int _,zcw bs,rfl,(by show 0<=60;decide),_,rfl,?_⟩
 rw[any_ints]
 refine ite2 (fun c=> ?_) (fun c=> ?_)
 ·refine iteT ?_
  have e:goP ts bs x=false:=by unfold goP;rw[c];rfl
  rw[<-e]
  exact q _ (Same.refl _)
 ·refine⟨_,rfl,_,rfl,a,n,x,ts,rfl,hW,fun H1 s1=>⟨_,rfl,_,rfl,a,n,_,ts,rfl,hW.same s1,fun H2 s2=>⟨rfl,_,rfl,?_⟩⟩⟩
  rw[neE]
  have s12:=s1.trans s2
  have c':decide (x∈bs)=false:=eq_false_of_ne_true c
  refine ite2 (fun d=> ?_) (fun d=> ?_)
  ·have e:goP ts bs x=false:=by
    unfold goP
    have z:¬cnt ts x=cnt ts (bs.length:Int):=fun z=>by rw[z]at d;simp at d
    rw[decide_eq_false z,Bool.and_false];rfl
   rw[<-e]
   exact q _ s12
  ·have z:cnt ts x=cnt ts (bs.length:Int):=by
    have:((cnt ts x:Nat):Int)=((cnt ts (bs.length:Int):Nat):Int):=by simpa using d
    omega
   have eg:goP ts bs x=okB ts bs x:=by unfold goP;rw[c',decide_eq_true z];rfl
   refine⟨_,rfl,(bs.length:Int),rfl,by omega,by omega,?_⟩
   refine zch (lo:=0) (n:=(bs.length:Int).toNat) (fun k acc σ H'=>acc=((List.range k).map fun(j:Nat)=>hasTie ts (bs.getD j 0) x==hasTie ts (j:Int) (bs.length:Int)).map V.bl/\Same H2 H'/\∃o,σ=[o,some (.ref a),some (.ref b),some (.int x),some (.int (bs.length:Int))]) ⟨rfl,Same.refl _,_,rfl⟩ (fun k acc σ H' _ p=>by rw[p.1,List.length_map,List.length_map,List.length_range];exact Nat.le_refl _) (by rw[sizeLine_eq];omega) (fun k acc σ H' hk p=> ?_) (fun acc σ H' p=> ?_)
   ·obtain⟨rfl,s3,o,rfl⟩:=p
    have hat:atI (bs.map V.int) (0+(k:Int))=some (.int (bs.getD k 0)):=by
     have z:=at_xs (xs:=bs) (i:=0+(k:Int)) (by omega) (by omega)
     rwa [show(0+(k:Int)).toNat=k by omega]at z
    have s23:=s12.trans s3
    refine⟨_,rfl,_,rfl,_,rfl,b,_,_,_,rfl,rfl,s23.tup hb,hat,_,rfl,a,n,_,x,ts,rfl,hW.same s23,fun H4 s4=>⟨_,rfl,_,rfl,_,rfl,a,n,_,_,ts,rfl,hW.same (s23.trans s4),fun H5 s5=>⟨rfl,?_,s3.trans (s4.trans s5),_,rfl⟩⟩⟩
    rw[blE,List.range_succ,List.map_append,List.map_append,Int.zero_add];rfl
   ·obtain⟨rfl,s3,_⟩:=p
    intro p1 hp1
    refine⟨p1,_,rfl,SqL.of zac,?_⟩
    have e2:((List.range (bs.length:Int).toNat).map fun(j:Nat)=>hasTie ts (bs.getD j 0) x==hasTie ts (j:Int) (bs.length:Int)).all id=okB ts bs x:=by
     rw[List.all_map,show(bs.length:Int).toNat=bs.length by omega];rfl
    rw[e2,<-eg]
    exact q _ (s12.trans (s3.trans (zad hp1 _)))
end
end Hs
namespace Hs
open PySem L2 HsD
section
variable{P:Program}{w:World}{K:W.Frag}{mg:Str->Option Value}{base:Heap}
noncomputable def TupL(K:W.Frag)(H:Hp)(l:Addr)(its:List (Addr×List Int)):Prop:=H l=some (.lst (its.map fun p=>V.ref p.1))/\∀p∈its,SqT K H p.1 (p.2.map V.int)
theorem TupL.same{H H':Hp}{l:Addr}{its:List (Addr×List Int)}(h:TupL K H l its)(e:Same H H'):TupL K H' l its:=⟨e _ _ h.1,fun p hp=>e.tup (h.2 p hp)⟩
noncomputable def spFrom(K:W.Frag)(m:Nat):Sp:=fun vs H Q _=>∃(a b:Addr) (n most:Int) (ts:List (Int×Int)) (bs:List Int),vs=[.ref a,.ref b,.int most]/\WebIs K H a n ts/\SqT K H b (bs.map V.int)/\bs.length+m=n.toNat/\0<most/\most<=721/\
 ∀r its H',Same H H'->TupL K H' r its->its.map (·.2)=(compl (goP ts) n.toNat m bs).take most.toNat->H r=none->Q (.ref r) H'
noncomputable def spFrom1(K:W.Frag):Nat->Sp
 |0=>fun _ _ _ _=>False
 |m+1=>spFrom K m
theorem eqE(a b:Int):decide (V.int a=V.int b)=decide (a=b):=by
 by_cases e:a=b
 ·subst e;simp
 ·rw[decide_eq_false e,decide_eq_false (by intro z;injection z with z;exact e z)]
theorem over_new{H0 H H':Hp}{l:Addr}(s:Same H0 H)(n:H0 l=none)(e:SameX l H H'):Same H0 H':=fun b u h=>e _ _ (fun z=>by rw[z,n]at h;cases h) (s _ _ h)
theorem sc_tfrom:FnScope ["web","begun","most","found","image"] ["web","begun","most"] (defScope zao):=⟨rfl,rfl,rfl,by decide+kernel,rfl,by decide+kernel,by decide+kernel⟩
theorem tfrom_body{f f1:Addr}{fd d1:FuncData}{lv m:Nat}(F:Fun K "turnings_from" "turnings_from" zao f fd)(D1:Dfn K mg "can_go_on" zbx ["web","begun","image"] f1 d1)(G1:FnOk P w K mg base CX0 lv f1 d1 ["web","begun","image"] (spGo K))(D2:Dfn K mg "turnings_from" zao ["web","begun","most"] f fd)(G2:FnOk P w K mg base CX0 lv f fd ["web","begun","most"] (spFrom1 K m))(m_len:mg "len"=none)(m_range:mg "range"=none):FnOk P w K mg base CX0 (lv+1) f fd ["web","begun","most"] (spFrom K m):=by
 refine F.ok sc_tfrom (fun vs H Q E h=> ?_) (fun cdv A outer s H vs Q E hr h=> ?_)
 ·obtain⟨a,b,n,most,ts,bs,rfl,_⟩:=h
  rfl
 obtain⟨a,b,n,most,ts,bs,rfl,hW,hb,hm,m0,m1,q⟩:=h
 refine⟨_,(zae (zcv (zaq op_eq (zai zas rfl m_len PySem.boot_len (zaa (pv 1) zab)) (zat zar (pv 0) zaf (fun _ _=>rfl)) (nomark _)) (zag (zak (zda (zaa (pv 1) zab)))) zbg) (zae (zaw (i:=3) sc_tfrom.nd rfl (Or.inl rfl) (zda zab)) (zae (zdh PassesOwn.never rfl (zbp rfl m_range (zaa (zat zar (pv 0) zaf (fun _ _=>rfl)) zab)) (zaj (i:=4) sc_tfrom.nd rfl (Or.inl rfl)) (zag (zcv (PW.pt (pw_and (zaq op_lt (zai zas rfl m_len PySem.boot_len (zaa (pv 3) zab)) (pv 2) (nomark _)) (pw_and1 (zdg (zah G1 hr rfl D1.m D1.F.kp D1.b .nil pass0 (zaa (pv 0) (zaa (pv 1) (zaa (pv 4) zab)))))))) (zag (zdi (pe_bm PySem.F.plainAttrs_list PySem.F.slot_list_extend PySem.F.type_list_extend mt_extend (pv 3) (zaa (zah G2 hr rfl D2.m D2.F.kp D2.b .nil pass0 (zaa (pv 0) (zaa (zan op_catE (pv 1) (zbk (zaa (pv 4) zab))) (zaa (zan op_sub (pv 2) (zai zas rfl m_len PySem.boot_len (zaa (pv 3) zab))) zab)))) zab)))) zbg))) (zag (zak (pv 3)))))),?_⟩
 have h0:=hW.h0
 have h1:=hW.h1
 obtain⟨t0,rs0,w1,_,_⟩:=hW.web
 refine⟨_,rfl,b,_,rfl,.inr hb,fun _=>⟨_,rfl,a,_,_,.int n,rfl,rfl,w1,rfl,rfl,_,rfl,?_⟩⟩
 rw[len_ints,eqE]
 cases m with
 |zero=>
  rw[decide_eq_true (show(bs.length:Int)=n by omega)]
  refine iteT ?_
  refine⟨_,rfl,(by show 1<=sizeLine;decide),fun l hl=> ?_⟩
  refine q l [(b,bs)] _ (zad hl _) ⟨zac,fun p hp=>by rw[List.mem_singleton.mp hp];exact(zad hl _).tup hb⟩ ?_ hl
  show[bs]=[bs].take most.toNat
  rw[List.take_of_length_le (by show 1<=_;omega)]
 |succ m=>
  rw[decide_eq_false (show¬(bs.length:Int)=n by omega)]
  refine iteF ?_
  dsimp only[tNext]
  refine⟨(by show 0<=sizeLine;decide),fun tl htl=> ?_⟩
  have s1:=zad htl (.lst [])
  have T0:TupL K (upd H tl (.lst [])) tl []:=⟨zac,fun p hp=>(nomatch hp)⟩
  dsimp only at s1 T0⊢
  generalize upd H tl (.lst [])=H1 at *
  refine⟨_,rfl,a,_,_,.int n,rfl,rfl,s1.tup w1,rfl,n,rfl,by omega,by omega,?_⟩
  refine zcq (n:=n.toNat) (fun i σ H'=>Same H H'/\(∃its,TupL K H' tl its/\its.map (·.2)=(upTo (goP ts) n.toNat m bs i).take most.toNat)/\∃o4,σ=[some (.ref a),some (.ref b),some (.int most),some (.ref tl),o4])
   ⟨s1,⟨[],T0,by show[]=([]:List (List Int)).take _;rw[List.take_nil]⟩,_,rfl⟩ (fun i σ H2 hi p=> ?_) (fun σ H2 p=> ?_)
  ·obtain⟨s2,⟨its,T,e⟩,o4,rfl⟩:=p
   have hW2:=hW.same s2
   have hb2:=s2.tup hb
   have hlen:its.length=((upTo (goP ts) n.toNat m bs i).take most.toNat).length:=by rw[<-e,List.length_map]
   refine⟨_,rfl,tl,_,rfl,.inl (SqL.of T.1),fun _=>⟨_,rfl,_,_,rfl,rfl,_,rfl,?_⟩⟩
   have e0:0+(i:Int)=(i:Int):=Int.zero_add _
   rw[upTo_succ]
   refine ite2 (fun c=> ?_) (fun c=> ?_)
   ·have c2:its.length<most.toNat:=by
     have c3:=of_decide_eq_true c
     rw[List.length_map]at c3
     omega
    refine⟨_,rfl,_,rfl,_,rfl,a,b,_,n,ts,bs,rfl,hW2.web,hb2,by omega,fun H3 s3=>⟨_,rfl,?_⟩⟩
    rw[e0]
    have T3:=T.same s3
    refine ite2 (fun d=> ?_) (fun d=> ?_)
    ·refine⟨_,rfl,.inl ⟨rfl,_,SqL.of T3.1⟩,?_⟩
     refine⟨_,rfl,_,rfl,_,rfl,(by show 1<=sizeLine;decide),fun t ht=> ?_⟩
     have s4:=zad ht (.tup [.int (i:Int)])
     refine⟨b,t,_,_,rfl,rfl,s4.tup (s3.tup hb2),SqT.of zac,by rw[List.length_map,sizeLine_eq];show _+1<=_;omega,fun b5 H5 s5 h5=> ?_⟩
     have s35:=s3.trans (s4.trans s5)
     have T5:=T3.same (s4.trans s5)
     refine⟨_,rfl,_,rfl,tl,_,rfl,.inl (SqL.of T5.1),fun _=>⟨_,_,rfl,rfl,?_⟩⟩
     refine⟨a,b5,n,_,ts,bs++[(i:Int)],rfl,hW2.same s35,?_,by rw[List.length_append,List.length_singleton];omega,?_,?_,fun r its6 H6 s6 T6 e6 n6=> ?_⟩
     ·rw[List.map_append]
      exact h5
     ·show 0<most-((its.map fun p=>V.ref p.1).length:Int)
      rw[List.length_map];omega
     ·show most-((its.map fun p=>V.ref p.1).length:Int)<=721
      rw[List.length_map];omega
     ·have T56:=T5.same s6
      have e7:(most-((its.map fun p=>V.ref p.1).length:Int)).toNat=most.toNat-its.length:=by rw[List.length_map];omega
      have l6:its6.length<=721:=by
       have:=congrArg List.length e6
       rw[List.length_map,List.length_take,e7]at this
       omega
      refine⟨tl,r,_,_,rfl,rfl,T56.1,T6.1,by rw[List.length_map,List.length_map,sizeLine_eq];omega,?_⟩
      have x7:SameX tl H6 (upd H6 tl (.lst ((its.map fun p=>V.ref p.1)++its6.map fun p=>V.ref p.1))):=(SameX.refl _ _).upd
      refine⟨over_new (s2.trans (s35.trans s6)) htl x7,⟨its++its6,⟨by rw[zac,List.map_append],fun p hp=> ?_⟩,?_⟩,_,rfl⟩
      ·rcases List.mem_append.mp hp with z|z
       ·exact x7.tup T56.1 (T56.2 p z)
       ·exact x7.tup T56.1 (T6.2 p z)
      ·rw[if_pos d,tk_step (by rw[<-hlen];exact c2),<-hlen,List.map_append,e,e6,e7]
    ·refine⟨s2.trans s3,⟨its,T3,?_⟩,_,rfl⟩
     rw[if_neg d,List.append_nil];exact e
   ·refine iteF ?_
    refine⟨s2,⟨its,T,?_⟩,_,rfl⟩
    have c2:¬its.length<most.toNat:=fun z=>c (decide_eq_true (by rw[List.length_map];omega))
    rw[tk_full (by rw[<-hlen];exact c2)];exact e
  ·obtain⟨s2,⟨its,T,e⟩,o4,rfl⟩:=p
   exact⟨_,rfl,q tl its _ s2 T e htl⟩
theorem ok_tfrom{f f1:Addr}{fd d1:FuncData}(F:Fun K "turnings_from" "turnings_from" zao f fd)(D1:Dfn K mg "can_go_on" zbx ["web","begun","image"] f1 d1)(G1:FnOk P w K mg base CX0 2 f1 d1 ["web","begun","image"] (spGo K))(D2:Dfn K mg "turnings_from" zao ["web","begun","most"] f fd)(m_len:mg "len"=none)(m_range:mg "range"=none):∀m,FnOk P w K mg base CX0 (3+m) f fd ["web","begun","most"] (spFrom K m)
 |0=>tfrom_body (lv:=2) F D1 G1 D2 (F.ok (k:=1) sc_tfrom (fun vs H Q E h=>h.elim) (fun cdv A outer s H vs Q E hr h=>h.elim)) m_len m_range
 |m+1=>tfrom_body (lv:=3+m) (m:=m+1) F D1 (G1.mono (by omega)) D2 (ok_tfrom F D1 G1 D2 m_len m_range m) m_len m_range
end
end Hs
namespace Hs
open PySem L2 HsD
section
variable{P:Program}{w:World}{K:W.Frag}{mg:Str->Option Value}{base:Heap}
noncomputable def spTon(K:W.Frag)(m:Nat):Sp:=fun vs H Q _=>∃(a b fo:Addr) (n most:Int) (ts:List (Int×Int)) (bs:List Int) (its:List (Addr×List Int)),vs=[.ref a,.ref b,.int most,.ref fo]/\WebIs K H a n ts/\SqT K H b (bs.map V.int)/\bs.length+m=n.toNat/\0<=most/\most<=720/\TupL K H fo its/\(its.length:Int)<=most/\
 ∀its' H',SameX fo H H'->TupL K H' fo its'->its'.map (·.2)=(its.map (·.2)++compl (goL ts) n.toNat m bs).take (most+1).toNat->Q .non H'
noncomputable def spTon1(K:W.Frag):Nat->Sp
 |0=>fun _ _ _ _=>False
 |m+1=>spTon K m
theorem TupL.lst{H:Hp}{l:Addr}{its:List (Addr×List Int)}(h:TupL K H l its):∃zs,H l=some (.lst zs):=⟨_,h.1⟩
theorem sc_ton:FnScope ["web","some","most","found","here","there"] ["web","some","most","found"] (defScope zam):=⟨rfl,rfl,rfl,by decide+kernel,rfl,by decide+kernel,by decide+kernel⟩
theorem ton_body{f f1:Addr}{fd d1:FuncData}{lv m:Nat}(F:Fun K "_law_e_turned_on" "_law_e_turned_on" zam f fd)(D1:Dfn K mg "_law_e_tied" zbi ["web","one","other"] f1 d1)(G1:FnOk P w K mg base CX0 lv f1 d1 ["web","one","other"] (spHas K))(D2:Dfn K mg "_law_e_turned_on" zam ["web","some","most","found"] f fd)(G2:FnOk P w K mg base CX0 lv f fd ["web","some","most","found"] (spTon1 K m))(m_len:mg "len"=none)(m_range:mg "range"=none)(m_all:mg "all"=none):FnOk P w K mg base CX0 (lv+1) f fd ["web","some","most","found"] (spTon K m):=by
 refine F.ok sc_ton (fun vs H Q E h=> ?_) (fun cdv A outer s H vs Q E hr h=> ?_)
 ·obtain⟨a,b,fo,n,most,ts,bs,its,rfl,_⟩:=h
  rfl
 obtain⟨a,b,fo,n,most,ts,bs,its,rfl,hW,hb,hm,m0,m1,T,tl,q⟩:=h
 refine⟨_,(zae (zcv (zaq op_eq (zai zas rfl m_len PySem.boot_len (zaa (pv 1) zab)) (zat zar (pv 0) zaf (fun _ _=>rfl)) (nomark _)) (zae (zdi (pe_bm PySem.F.plainAttrs_list PySem.F.slot_list_append PySem.F.type_list_append mt_append (pv 3) (zaa (pv 1) zab))) (zag ps_retN)) zbg) (zae (zaw (i:=4) sc_ton.nd rfl (Or.inr rfl) (zai zas rfl m_len PySem.boot_len (zaa (pv 1) zab))) (zag (zdh PassesOwn.never rfl (zbp rfl m_range (zaa (zat zar (pv 0) zaf (fun _ _=>rfl)) zab)) (zaj (i:=5) sc_ton.nd rfl (Or.inr rfl)) (zag (zcv (PW.pt (pw_and (zaq (op_notInD hr.units) (pv 5) (pv 1) (by with_unfolding_all rfl)) (pw_and1 (zaq op_le (zai zas rfl m_len PySem.boot_len (zaa (pv 3) zab)) (pv 2) (nomark _))))) (zag (zcv (zdg (zai (call_all rfl) rfl m_all (by decide+kernel) (zaa (zck (own:=["k"]) (caps:=["web","here","some","there"]) (ix:=[0,4,1,5]) rfl (zbp rfl m_range (zaa (pv 4) zab)) rfl rfl (.cons rfl rfl (.cons rfl rfl (.cons rfl rfl (.cons rfl rfl .nil)))) (fun _ _ _ _ _=>(zaj (i:=0) (show(["k","web","here","some","there"]:List Str).Nodup from by decide+kernel) rfl (Or.inl rfl))) (fun _ _ _ _ _=>zcx) (fun _ _ _ _ _=>(pe_cmpR op_eq (zah G1 hr rfl D1.m D1.F.kp D1.b .nil pass0 (zaa (pv 1) (zaa (pv 0) (zaa (pv 2) zab)))) (zah G1 hr rfl D1.m D1.F.kp D1.b .nil pass0 (zaa (pv 1) (zaa (zat (ix_tupK K) (pv 3) (pv 0) (fun _ _=>rfl)) (zaa (pv 4) zab)))) (nomark _)))) zab))) (zag (zdi (zah G2 hr rfl D2.m D2.F.kp D2.b .nil pass0 (zaa (pv 0) (zaa (zan op_catE (pv 1) (zbk (zaa (pv 5) zab))) (zaa (pv 2) (zaa (pv 3) zab))))))) zbg)) zbg)))))),?_⟩
 have h0:=hW.h0
 have h1:=hW.h1
 obtain⟨t0,rs0,w1,_,_⟩:=hW.web
 refine⟨_,rfl,b,_,rfl,.inr hb,fun _=>⟨_,rfl,a,_,_,.int n,rfl,rfl,w1,rfl,rfl,_,rfl,?_⟩⟩
 rw[len_ints,eqE]
 cases m with
 |zero=>
  rw[decide_eq_true (show(bs.length:Int)=n by omega)]
  refine iteT ?_
  refine⟨_,rfl,.inl ⟨rfl,_,SqL.of T.1⟩,_,rfl,fo,_,_,rfl,rfl,T.1,by rw[List.length_map,sizeLine_eq];omega,?_⟩
  have x1:SameX fo H (upd H fo (.lst ((its.map fun p=>V.ref p.1)++[.ref b]))):=(SameX.refl _ _).upd
  refine q (its++[(b,bs)]) _ x1 ⟨by rw[zac,List.map_append];rfl,fun p hp=> ?_⟩ ?_
  ·rcases List.mem_append.mp hp with z|z
   ·exact x1.tup T.1 (T.2 p z)
   ·rw[List.mem_singleton.mp z];exact x1.tup T.1 hb
  ·show _=(its.map (·.2)++[bs]).take _
   rw[List.take_of_length_le (by rw[List.length_append,List.length_map];show _+1<=_;omega),List.map_append];rfl
 |succ m=>
  rw[decide_eq_false (show¬(bs.length:Int)=n by omega)]
  refine iteF ?_
  dsimp only[tNext]
  refine⟨_,rfl,b,_,rfl,.inr hb,fun _=> ?_⟩
  rw[len_ints]
  refine⟨_,rfl,a,_,_,.int n,rfl,rfl,w1,rfl,n,rfl,by omega,by omega,?_⟩
  refine zcq (n:=n.toNat) (fun i σ H'=>SameX fo H H'/\(∃jts,TupL K H' fo jts/\jts.map (·.2)=(its.map (·.2)++upTo (goL ts) n.toNat m bs i).take (most+1).toNat)/\∃o5,σ=[some (.ref a),some (.ref b),some (.int most),some (.ref fo),some (.int (bs.length:Int)),o5])
   ⟨SameX.refl _ _,⟨its,T,by show _=(its.map (fun p=>p.2)++([]:List (List Int))).take _;rw[List.append_nil,List.take_of_length_le (by rw[List.length_map];omega)]⟩,_,rfl⟩ (fun i σ H2 hi p=> ?_) (fun σ H2 p=> ?_)
  ·obtain⟨x2,⟨jts,T2,e⟩,o5,rfl⟩:=p
   have hW2:=hW.samex x2 T.1
   have hb2:=x2.tup T.1 hb
   have hlen:jts.length=((its.map (·.2)++upTo (goL ts) n.toNat m bs i).take (most+1).toNat).length:=by rw[<-e,List.length_map]
   have e0:0+(i:Int)=(i:Int):=Int.zero_add _
   rw[upTo_succ,<-List.append_assoc]
   refine⟨_,rfl,_,rfl,b,_,bs.map PyData.int,.int (0+(i:Int)),rfl,.inr hb2,DVs.ints bs,.int _,zcw bs,rfl,(by show 0<=60;decide),_,rfl,?_⟩
   rw[any_ints,e0]
   have no:goL ts bs (i:Int)=false->(∃kts,TupL K H2 fo kts/\kts.map (·.2)=(its.map (·.2)++upTo (goL ts) n.toNat m bs i++(if goL ts bs (i:Int)=true then compl (goL ts) n.toNat m (bs++[(i:Int)])else[])).take (most+1).toNat):=fun z=>⟨jts,T2,by rw[z,if_neg Bool.false_ne_true,List.append_nil];exact e⟩
   refine ite2 (fun c=> ?_) (fun c=> ?_)
   ·refine⟨_,rfl,fo,_,rfl,.inl (SqL.of T2.1),fun _=>⟨_,rfl,_,_,rfl,rfl,_,rfl,?_⟩⟩
    refine ite2 (fun c2=> ?_) (fun c2=> ?_)
    ·have c3:jts.length<(most+1).toNat:=by
      have c4:=of_decide_eq_true c2
      rw[List.length_map]at c4
      omega
     refine⟨_,rfl,(bs.length:Int),rfl,by omega,by omega,?_⟩
     refine zch (lo:=0) (n:=(bs.length:Int).toNat) (fun k acc σ H'=>acc=((List.range k).map fun(j:Nat)=>hasTie ts (bs.getD j 0) (i:Int)==hasTie ts (j:Int) (bs.length:Int)).map V.bl/\Same H2 H'/\∃o,σ=[o,some (.ref a),some (.int (bs.length:Int)),some (.ref b),some (.int (i:Int))]) ⟨rfl,Same.refl _,_,rfl⟩ (fun k acc σ H' _ p=>by rw[p.1,List.length_map,List.length_map,List.length_range];exact Nat.le_refl _) (by rw[sizeLine_eq];omega) (fun k acc σ H' hk p=> ?_) (fun acc σ H' p=> ?_)
     ·obtain⟨rfl,s3,o,rfl⟩:=p
      have hat:atI (bs.map V.int) (0+(k:Int))=some (.int (bs.getD k 0)):=by
       have z:=at_xs (xs:=bs) (i:=0+(k:Int)) (by omega) (by omega)
       rwa [show(0+(k:Int)).toNat=k by omega]at z
      refine⟨_,rfl,_,rfl,_,rfl,a,n,_,_,ts,rfl,(hW2.same s3).web,fun H4 s4=>⟨_,rfl,_,rfl,_,rfl,b,_,_,_,rfl,rfl,(s3.trans s4).tup hb2,hat,_,rfl,a,n,_,_,ts,rfl,(hW2.same (s3.trans s4)).web,fun H5 s5=>⟨rfl,?_,s3.trans (s4.trans s5),_,rfl⟩⟩⟩
      rw[blE,List.range_succ,List.map_append,List.map_append,Int.zero_add]
      have e9:(hasTie ts (k:Int) (bs.length:Int)==hasTie ts (bs.getD k 0) (i:Int))=(hasTie ts (bs.getD k 0) (i:Int)==hasTie ts (k:Int) (bs.length:Int)):=by
       cases hasTie ts (k:Int) (bs.length:Int)<;>cases hasTie ts (bs.getD k 0) (i:Int)<;>rfl
      rw[e9];rfl
     ·obtain⟨rfl,s3,_⟩:=p
      intro p1 hp1
      have s4:=s3.trans (zad hp1 (.lst (((List.range (bs.length:Int).toNat).map fun(j:Nat)=>hasTie ts (bs.getD j 0) (i:Int)==hasTie ts (j:Int) (bs.length:Int)).map V.bl)))
      refine⟨p1,_,rfl,SqL.of zac,_,rfl,?_⟩
      have e2:((List.range (bs.length:Int).toNat).map fun(j:Nat)=>hasTie ts (bs.getD j 0) (i:Int)==hasTie ts (j:Int) (bs.length:Int)).all id=okB ts bs (i:Int):=by
       rw[List.all_map,show(bs.length:Int).toNat=bs.length by omega];rfl
      rw[e2]
      have eg:goL ts bs (i:Int)=okB ts bs (i:Int):=by unfold goL;rw[c];rfl
      generalize upd H' p1 (.lst (((List.range (bs.length:Int).toNat).map fun(j:Nat)=>hasTie ts (bs.getD j 0) (i:Int)==hasTie ts (j:Int) (bs.length:Int)).map V.bl))=H4 at *
      refine ite2 (fun d=> ?_) (fun d=> ?_)
      ·refine⟨_,rfl,_,rfl,_,rfl,(by show 1<=sizeLine;decide),fun t ht=> ?_⟩
       have s5:=zad ht (.tup [.int (i:Int)])
       refine⟨b,t,_,_,rfl,rfl,s5.tup (s4.tup hb2),SqT.of zac,by rw[List.length_map,sizeLine_eq];show _+1<=_;omega,fun b6 H6 s6 h6=> ?_⟩
       have s46:=s4.trans (s5.trans s6)
       have T6:=T2.same s46
       refine⟨_,rfl,_,rfl,a,b6,fo,n,most,ts,bs++[(i:Int)],jts,rfl,hW2.same s46,?_,by rw[List.length_append,List.length_singleton];omega,m0,m1,T6,by omega,fun kts H7 x7 T7 e7=> ?_⟩
       ·rw[List.map_append]
        exact h6
       ·refine⟨(x2.trans (s46.x _)).trans x7,⟨kts,T7,?_⟩,_,rfl⟩
        have eX:(its.map (·.2)++upTo (goL ts) n.toNat m bs i).take (most+1).toNat=its.map (·.2)++upTo (goL ts) n.toNat m bs i:=List.take_of_length_le (by rw[hlen,List.length_take]at c3;omega)
        rw[eg,if_pos d,e7,e,eX]
      ·obtain⟨kts,k1,k2⟩:=no (by rw[eg];exact eq_false_of_ne_true d)
       exact⟨x2.trans (s4.x _),⟨kts,k1.same s4,k2⟩,_,rfl⟩
    ·have c3:¬jts.length<(most+1).toNat:=fun z=>c2 (decide_eq_true (by rw[List.length_map];omega))
     exact⟨x2,⟨jts,T2,by rw[tk_full (by rw[<-hlen];exact c3)];exact e⟩,_,rfl⟩
   ·refine iteF ?_
    obtain⟨kts,k1,k2⟩:=no (by
     unfold goL
     rw[eq_false_of_ne_true c];rfl)
    exact⟨x2,⟨kts,k1,k2⟩,_,rfl⟩
  ·obtain⟨x2,⟨jts,T2,e⟩,o5,rfl⟩:=p
   exact q jts _ x2 T2 e
theorem ok_ton{f f1:Addr}{fd d1:FuncData}(F:Fun K "_law_e_turned_on" "_law_e_turned_on" zam f fd)(D1:Dfn K mg "_law_e_tied" zbi ["web","one","other"] f1 d1)(G1:FnOk P w K mg base CX0 1 f1 d1 ["web","one","other"] (spHas K))(D2:Dfn K mg "_law_e_turned_on" zam ["web","some","most","found"] f fd)(m_len:mg "len"=none)(m_range:mg "range"=none)(m_all:mg "all"=none):∀m,FnOk P w K mg base CX0 (3+m) f fd ["web","some","most","found"] (spTon K m)
 |0=>ton_body (lv:=2) F D1 (G1.mono (by decide)) D2 (F.ok (k:=1) sc_ton (fun vs H Q E h=>h.elim) (fun cdv A outer s H vs Q E hr h=>h.elim)) m_len m_range m_all
 |m+1=>ton_body (lv:=3+m) (m:=m+1) F D1 (G1.mono (by omega)) D2 (ok_ton F D1 G1 D2 m_len m_range m_all m) m_len m_range m_all
end
end Hs
namespace Hs
open PySem L2 HsD
theorem rgI_getD{k j:Nat}(h:j<k):(rgI k).getD j 0=(j:Int):=by
 unfold rgI
 rw[List.getD_eq_getElem?_getD,List.getElem?_map,List.getElem?_range h];rfl
theorem go_same(ts:List (Int×Int))(k:Nat):goL ts (rgI k) (k:Int)=true:=by
 unfold goL
 rw[decide_eq_false (fun z=>by have:=zcm.mp z;omega:¬(k:Int)∈rgI k)]
 unfold okB
 rw[rgI_len,Bool.not_false,Bool.true_and]
 refine List.all_eq_true.mpr fun j hj=> ?_
 rw[rgI_getD (List.mem_range.mp hj)]
 exact beq_self_eq_true _
theorem same_mem(ts:List (Int×Int))(n:Nat):∀(m k:Nat),k+m=n->rgI n∈compl (goL ts) n m (rgI k)
 |0,k,h=>by
  have e:k=n:=by omega
  subst e
  exact List.mem_singleton.mpr rfl
 |m+1,k,h=>by
  refine List.mem_flatMap.mpr ⟨(k:Int),List.mem_filter.mpr ⟨zcm.mpr (by omega),go_same ts k⟩,?_⟩
  have:=same_mem ts n m (k+1) (by omega)
  rw[rgI_succ]at this
  exact this
noncomputable def alikeP(ts:List (Int×Int))(n:Nat):Bool:=(rgI n).all fun p=>goP ts [] p&& !(compl (goP ts) n (n-1) [p]).isEmpty
noncomputable def alikeL(ts:List (Int×Int))(n:Nat):Bool:=((rgI n).all fun p=>decide (cnt ts p=cnt ts 0))&&(rgI n).all fun p=>decide (p=0)|| !(compl (goL ts) n (n-1) [p]).isEmpty
theorem goP_nil(ts:List (Int×Int))(p:Int):goP ts [] p=decide (cnt ts p=cnt ts 0):=by
 unfold goP okB
 show((true&&decide (cnt ts p=cnt ts ((([]:List Int).length:Nat):Int)))&&true)=_
 rw[Bool.and_true,Bool.true_and];rfl
theorem iso_one{n:Nat}{ts:List (Int×Int)}{p:Int}(h:0<=p/\p<(n:Int)):Iso ts n [p]:=
 ⟨List.nodup_cons.mpr ⟨(fun z=>nomatch z),List.nodup_nil⟩,fun x hx=>by rw[List.mem_singleton.mp hx];exact h,fun j k hjk hk=>by have:k<1:=hk;omega⟩
theorem alike_eq{n:Nat}{ts:List (Int×Int)}(h:PairsOk (n:Int) ts):alikeP ts n=alikeL ts n:=by
 unfold alikeP alikeL
 rw[Bool.eq_iff_iff,Bool.and_eq_true,List.all_eq_true,List.all_eq_true,List.all_eq_true]
 constructor
 ·intro a
  refine⟨fun p hp=> ?_,fun p hp=> ?_⟩
  ·have:=a p hp
   rw[Bool.and_eq_true,goP_nil]at this
   exact this.1
  ·have:=a p hp
   rw[Bool.and_eq_true]at this
   have hp':=zcm.mp hp
   rw[compl_eq h (n-1) [p] (by show 1+(n-1)=n;omega) (iso_one hp')]at this
   rw[this.2,Bool.or_true]
 ·rintro⟨a,b⟩ p hp
  have hp':=zcm.mp hp
  rw[goP_nil,a p hp,Bool.true_and,compl_eq h (n-1) [p] (by show 1+(n-1)=n;omega) (iso_one hp')]
  have c:=b p hp
  by_cases e:p=0
  ·subst e
   have m:=same_mem ts n (n-1) 1 (by omega)
   cases hc:compl (goL ts) n (n-1) [0]with
   |nil=>rw[show rgI 1=[0]from rfl,hc]at m;cases m
   |cons x xs=>rfl
  ·rw[decide_eq_false e,Bool.false_or]at c
   exact c
end Hs
namespace Hs
open PySem L2 HsD PyProof.Rows
theorem most_top{n:Int}{ts:List (Int×Int)}{s:List Int}(h0:0<=n)(hp:PairsOk n ts)(hs:ts.Pairwise lt2)(h:MostOf s ts false n.toNat):(∃t∈aset ts (upto n.toNat),t.length=s.length)/\∀t∈aset ts (upto n.toNat),t.length<=s.length:=by
 have el:((upto n.toNat).length:Int)=n:=by rw[upto_len];omega
 have e:=most_best hp (upto_ok n) h0 (s:=s) (by
  rw[el,upto_rows h0 hp hs,upto_len];exact h)
 have B:=best_is ts (upto n.toNat)
 rw[<-e]at B
 have hl:(s.map fun i=>(upto n.toNat).getD i.toNat 0).length=s.length:=List.length_map _
 refine⟨⟨_,(mem_aset rfl).mpr B.is,hl⟩,fun t ht=> ?_⟩
 have:=B.top t ((mem_aset rfl).mp ht)
 rw[<-hl]
 by_cases c:(s.map fun i=>(upto n.toNat).getD i.toNat 0).length<t.length
 ·rw[zdk.mpr (.inl c)]at this;cases this
 ·omega
theorem met_same{val:Nat->Int}{c:Int}:∀i:Nat,(∀j,j<i->val j=c)->(firstMet val i).length<=1/\∀x∈firstMet val i,x=c
 |0,_=>by rw[firstMet_zero];exact⟨Nat.zero_le _,fun x h=>nomatch h⟩
 |i+1,h=>by
  obtain⟨h1,h2⟩:=met_same i fun j hj=>h j (by omega)
  have hi:=h i (by omega)
  rw[firstMet_succ]
  unfold step_dedup
  by_cases e:(firstMet val i).any (· ==val i)=true
  ·rw[if_pos e];exact⟨h1,h2⟩
  ·rw[if_neg e]
   have hn:firstMet val i=[]:=by
    cases z:firstMet val i with
    |nil=>rfl
    |cons x l=>
     rw[z]at e h2
     exact absurd (show((x::l).any (· ==val i))=true by rw[List.any_cons,h2 x List.mem_cons_self,hi,beq_self_eq_true];rfl) e
   rw[hn]
   exact⟨Nat.le_refl _,fun x hx=>by have hx':x∈[val i]:=hx;rw[List.mem_singleton.mp hx',hi]⟩
theorem distinct_one{ns:List Int}:¬(1<distinct ns)↔∀x∈ns,∀y∈ns,x=y:=by
 have mem:∀x∈ns,x∈firstMet (fun i=>ns.getD i 0) ns.length:=fun x hx=>by
  obtain⟨j,hj,rfl⟩:=List.getElem_of_mem hx
  have h:=firstMet_any (fun i=>ns.getD i 0) ns.length ns[j]
  have h2:(((List.range ns.length).map fun i=>ns.getD i 0).any (· ==ns[j]))=true:=List.any_eq_true.mpr ⟨ns[j],List.mem_map.mpr ⟨j,List.mem_range.mpr hj,by rw[List.getD_eq_getElem?_getD,List.getElem?_eq_getElem hj];rfl⟩,beq_self_eq_true _⟩
  rw[h2,List.any_eq_true]at h
  obtain⟨y,hy,e⟩:=h
  have:y=ns[j]:=by simpa using e
  rw[<-this];exact hy
 constructor
 ·intro h x hx y hy
  unfold distinct at h
  have a:=mem x hx
  have b:=mem y hy
  match hf:firstMet (fun i=>ns.getD i 0) ns.length with
  |[]=>rw[hf]at a;cases a
  |[z]=>rw[hf]at a b;rw[List.mem_singleton.mp a,List.mem_singleton.mp b]
  |z::z'::l=>rw[hf]at h;exact absurd (by show 1<l.length+1+1;omega) h
 ·intro h
  unfold distinct
  cases ns with
  |nil=>rw[show(([]:List Int)).length=0 from rfl,firstMet_zero];decide
  |cons x l=>
   have:=(met_same (val:=fun i=>(x::l).getD i 0) (c:=x) (x::l).length fun j hj=>by
    have e:(x::l).getD j 0=(x::l)[j]:=by rw[List.getD_eq_getElem?_getD,List.getElem?_eq_getElem hj];rfl
    show(x::l).getD j 0=x
    rw[e]
    exact h _ (List.getElem_mem hj) x List.mem_cons_self).1
   omega
noncomputable def cntsL(ts:List (Int×Int))(n:Nat):List Int:=(rgI n).map fun p=>(cnt ts p:Int)
theorem cnts_one{ts:List (Int×Int)}{n:Nat}:(1<distinct (cntsL ts n))↔((rgI n).all fun p=>decide (cnt ts p=cnt ts 0))=false:=by
 rw[<-Bool.not_eq_true,List.all_eq_true]
 refine⟨fun a b=> ?_,fun a=> ?_⟩
 ·refine absurd a (distinct_one.mpr fun x hx y hy=> ?_)
  obtain⟨p,hp,rfl⟩:=List.mem_map.mp hx
  obtain⟨q,hq,rfl⟩:=List.mem_map.mp hy
  rw[of_decide_eq_true (b p hp),of_decide_eq_true (b q hq)]
 ·refine Classical.byContradiction fun z=>a fun p hp=>decide_eq_true ?_
  have:=distinct_one.mp z
  have h0:(0:Int)∈rgI n:=zcm.mpr (by have:=zcm.mp hp;omega)
  have e:=this _ (List.mem_map.mpr ⟨p,hp,rfl⟩) _ (List.mem_map.mpr ⟨0,h0,rfl⟩)
  omega
end Hs
namespace Hs
open PySem L2 HsD
section
variable{P:Program}{w:World}{K:W.Frag}{mg:Str->Option Value}{base:Heap}
noncomputable def leadB(ts:List (Int×Int))(n:Nat)(p:Int):Bool:=goP ts [] p&& !(compl (goP ts) n (n-1) [p]).isEmpty
noncomputable def spLead(K:W.Frag):Sp:=fun vs H Q _=>∃(a:Addr) (n p:Int) (ts:List (Int×Int)),vs=[.ref a,.int p]/\WebIs K H a n ts/\0<=p/\p<n/\∀H',Same H H'->Q (.bl (leadB ts n.toNat p)) H'
theorem sc_lead:FnScope ["web","place"] ["web","place"] (defScope zbc):=⟨rfl,rfl,rfl,by decide+kernel,rfl,by decide+kernel,by decide+kernel⟩
theorem ok_lead{f f1 f2:Addr}{fd d1 d2:FuncData}(F:Fun K "leads_first_to" "leads_first_to" zbc f fd)(D1:Dfn K mg "turnings_from" zao ["web","begun","most"] f1 d1)(G1':∀m,FnOk P w K mg base CX0 (3+m) f1 d1 ["web","begun","most"] (spFrom K m))(D2:Dfn K mg "can_go_on" zbx ["web","begun","image"] f2 d2)(G2':FnOk P w K mg base CX0 2 f2 d2 ["web","begun","image"] (spGo K))(m_len:mg "len"=none):
  FnOk P w K mg base CX0 14 f fd ["web","place"] (spLead K):=by
 have G2:FnOk P w K mg base CX0 13 f2 d2 ["web","begun","image"] (spGo K):=G2'.mono (by decide)
 refine F.ok sc_lead (fun vs H Q E h=> ?_) (fun cdv A outer s H vs Q E hr h=> ?_)
 ·obtain⟨a,n,p,ts,rfl,_⟩:=h
  rfl
 obtain⟨a,n,p,ts,rfl,hW,p0,p1,q⟩:=h
 have h1':=hW.h1
 have G1:FnOk P w K mg base CX0 13 f1 d1 ["web","begun","most"] (spFrom K (n.toNat-1)):=(G1' (n.toNat-1)).mono (by omega)
 refine⟨_,(zag (zak (pe_and (zah G2 hr rfl D2.m D2.F.kp D2.b .nil pass0 (zaa (pv 0) (zaa (zbk zab) (zaa (pv 1) zab)))) (pe_one (pe_cmpR op_gt (zai zas rfl m_len PySem.boot_len (zaa (zah G1 hr rfl D1.m D1.F.kp D1.b .nil pass0 (zaa (pv 0) (zaa (zbk (zaa (pv 1) zab)) (zaa zaf zab)))) zab)) zaf (nomark _)))))),?_⟩
 have h1:=hW.h1
 refine⟨_,rfl,(by show 0<=sizeLine;decide),fun e0 he0=> ?_⟩
 have s1:=zad he0 (.tup [])
 refine⟨_,rfl,a,e0,p,n,ts,[],rfl,(hW.same s1).web,SqT.of zac,by decide,fun H1 s2=>⟨_,rfl,?_⟩⟩
 have s12:=s1.trans s2
 refine ite2 (fun c=> ?_) (fun c=> ?_)
 ·refine⟨_,rfl,_,rfl,(by show 1<=sizeLine;decide),fun e1 he1=> ?_⟩
  have s3:=zad he1 (.tup [.int p])
  refine⟨a,e1,n,1,ts,[p],rfl,hW.same (s12.trans s3),SqT.of zac,by show 1+(n.toNat-1)=n.toNat;omega,by decide,by decide,fun r its H2 s4 T e4 n4=> ?_⟩
  refine⟨r,_,rfl,.inl (SqL.of T.1),fun _=>⟨_,_,rfl,rfl,?_⟩⟩
  have el:its.length=min 1 (compl (goP ts) n.toNat (n.toNat-1) [p]).length:=by
   have:=congrArg List.length e4
   rw[List.length_map,List.length_take]at this
   exact this
  have eb:decide ((0:Int)<(((its.map fun p=>V.ref p.1).length:Nat):Int))=leadB ts n.toNat p:=by
   unfold leadB
   rw[c,Bool.true_and,List.length_map,el]
   cases compl (goP ts) n.toNat (n.toNat-1) [p]with
   |nil=>rfl
   |cons x xs=>rw[List.length_cons,show min 1 (xs.length+1)=1 by omega];rfl
  dsimp only
  rw[eb]
  exact q _ (s12.trans (s3.trans s4))
 ·have eb:leadB ts n.toNat p=false:=by unfold leadB;rw[eq_false_of_ne_true c];rfl
  rw[<-eb]
  exact q _ s12
noncomputable def spAlike(K:W.Frag):Sp:=fun vs H Q _=>∃(a:Addr) (n:Int) (ts:List (Int×Int)),vs=[.ref a]/\WebIs K H a n ts/\∀H',Same H H'->Q (.bl (alikeP ts n.toNat)) H'
theorem sc_alike:FnScope ["web"] ["web"] (defScope zcp):=⟨rfl,rfl,rfl,by decide+kernel,rfl,by decide+kernel,by decide+kernel⟩
theorem ok_alike{f f1 f2:Addr}{fd d1 d2:FuncData}(F:Fun K "is_alike" "is_alike" zcp f fd)(D1:Dfn K mg "need_web" zcn ["thing"] f1 d1)(G1':FnOk P w K mg base CX0 7 f1 d1 ["thing"] (spNeedWeb K))(D2:Dfn K mg "leads_first_to" zbc ["web","place"] f2 d2)(G2:FnOk P w K mg base CX0 14 f2 d2 ["web","place"] (spLead K))(m_all:mg "all"=none)(m_range:mg "range"=none):
  FnOk P w K mg base CX0 15 f fd ["web"] (spAlike K):=by
 have G1:FnOk P w K mg base CX0 14 f1 d1 ["thing"] (spNeedWeb K):=G1'.mono (by decide)
 refine F.ok sc_alike (fun vs H Q E h=> ?_) (fun cdv A outer s H vs Q E hr h=> ?_)
 ·obtain⟨a,n,ts,rfl,_⟩:=h
  rfl
 obtain⟨a,n,ts,rfl,hW,q⟩:=h
 refine⟨_,(zae (zdi (zah G1 hr rfl D1.m D1.F.kp D1.b .nil pass0 (zaa (pv 0) zab))) (zag (zak (zai (call_all rfl) rfl m_all (by decide+kernel) (zaa (zck (own:=["place"]) (caps:=["web"]) (ix:=[0]) rfl (zbp rfl m_range (zaa (zat zar (pv 0) zaf (fun _ _=>rfl)) zab)) rfl rfl (.cons rfl rfl .nil) (fun _ _ _ _ _=>(zaj (i:=0) (show(["place","web"]:List Str).Nodup from by decide+kernel) rfl (Or.inl rfl))) (fun _ _ _ _ _=>zcx) (fun _ _ _ _ _=>(zah G2 hr rfl D2.m D2.F.kp D2.b .nil pass0 (zaa (pv 1) (zaa (pv 0) zab))))) zab))))),?_⟩
 have h0:=hW.h0
 have h1:=hW.h1
 refine⟨_,rfl,.ref a,_,rfl,hW.web.dv.dx,hW.ok,fun H1 s1=> ?_⟩
 have hW1:=hW.same s1
 obtain⟨t,rs,w1,_,_⟩:=hW1.web
 refine⟨_,rfl,a,_,_,.int n,rfl,rfl,w1,rfl,n,rfl,by omega,by omega,?_⟩
 refine zch (lo:=0) (n:=n.toNat) (fun k acc σ H'=>acc=((rgI k).map (leadB ts n.toNat)).map V.bl/\Same H1 H'/\∃o,σ=[o,some (.ref a)]) ⟨rfl,Same.refl _,_,rfl⟩ (fun k acc σ H' _ p=>by rw[p.1,List.length_map,List.length_map,rgI_len];exact Nat.le_refl _) (by rw[sizeLine_eq];omega) (fun k acc σ H' hk p=> ?_) (fun acc σ H' p=> ?_)
 ·obtain⟨rfl,s2,o,rfl⟩:=p
  refine⟨_,rfl,_,rfl,a,n,_,ts,rfl,hW1.same s2,by omega,by omega,fun H2 s3=>⟨?_,s2.trans s3,_,rfl⟩⟩
  rw[rgI_succ,List.map_append,List.map_append,Int.zero_add];rfl
 ·obtain⟨rfl,s2,_⟩:=p
  intro p1 hp1
  refine⟨p1,_,rfl,SqL.of zac,?_⟩
  have e:((rgI n.toNat).map (leadB ts n.toNat)).all id=alikeP ts n.toNat:=by rw[List.all_map];rfl
  rw[e]
  exact q _ (s1.trans (s2.trans (zad hp1 _)))
end
end Hs
namespace Hs
open PySem L2 HsD
section
variable{P:Program}{w:World}{K:W.Frag}{mg:Str->Option Value}{base:Heap}
theorem most_len10{n:Int}{ts:List (Int×Int)}{s:List Int}(h0:0<=n)(h1:n<=10)(h:MostOf s ts false n.toNat):s.length<=10:=by
 obtain⟨ss,hS,i,hi,hm⟩:=h
 have K1:SetK ts false n.toNat s:=sets_k _ _ (List.mem_filter.mp (hS.1.mem_iff.mp (List.mem_of_getElem? hi))).1
 have h2:Sub n.toNat s:=⟨K1.up.imp fun h e=>by omega,fun i hi=>by have:=K1.lt i hi;omega⟩
 have:=h2.len
 omega
theorem _root_.L2.Same.over{H H1 H2:Hp}{x:Addr}(s:Same H H1)(h:H x=none)(e:SameX x H1 H2):Same H H2:=fun b o q=>e b o (fun z=>by rw[z,h]at q;cases q) (s b o q)
noncomputable def datT(s:List Int):PyData:= .tuple (s.map PyData.int)
theorem lay_tups48:∀xs:List (List Int),PyData.canLayAll0 (xs.map datT)=true
 |[]=>rfl
 |x::xs=>by
  show(PyData.canLayAll0 (x.map PyData.int)&&PyData.canLayAll0 (xs.map datT))=true
  rw[zcw x,lay_tups48 xs];rfl
theorem dvs_tups{H:Hp}{l:Addr}{its:List (Addr×List Int)}(h:TupL K H l its):DVs K H (its.map fun p=>V.ref p.1) ((its.map (·.2)).map datT):=by
 have go:∀its:List (Addr×List Int),(∀p∈its,SqT K H p.1 (p.2.map V.int))->DVs K H (its.map fun p=>V.ref p.1) ((its.map (·.2)).map datT):=fun its=>by
  induction its with
  |nil=>intro _;exact .nil
  |cons p its ih=>intro h;exact .cons (.tup (h p List.mem_cons_self) (DVs.ints p.2)) (ih fun q hq=>h q (List.mem_cons_of_mem _ hq))
 exact go its h.2
noncomputable def spAValue(K:W.Frag):Sp:=fun vs H Q _=>∃(a:Addr) (n:Int) (ts:List (Int×Int)),vs=[.ref a]/\WebIs K H a n ts/\(alikeP ts n.toNat=false->∀H',Same H H'->Q .non H')/\
 (alikeP ts n.toNat=true->∀(p:Addr) (H':Hp) (u:Int) (v:Nat) (s:List Int),Same H H'->H' p=some (.tup [.int u,.int (v:Int)])->MostOf s ts false n.toNat->Low n (max s.length 1) u v->Q (.ref p) H')
theorem sc_avalue:FnScope ["web"] ["web"] (defScope zbv):=⟨rfl,rfl,rfl,by decide+kernel,rfl,by decide+kernel,by decide+kernel⟩
theorem ok_avalue{f f1 f2 f3:Addr}{fd d1 d2 d3:FuncData}(F:Fun K "alike_value" "alike_value" zbv f fd)(D1:Dfn K mg "is_alike" zcp ["web"] f1 d1)(G1:FnOk P w K mg base CX0 15 f1 d1 ["web"] (spAlike K))(D2:Dfn K mg "lowest" zdl ["a","b"] f2 d2)(G2':FnOk P w K mg base CX0 2 f2 d2 ["a","b"] (spLow K))(D3:Dfn K mg "greatest_apart" zbe ["web"] f3 d3)(G3':FnOk P w K mg base CX0 9 f3 d3 ["web"] (spGreatA K))(m_max:mg "max"=none)(m_len:mg "len"=none):
  FnOk P w K mg base CX0 16 f fd ["web"] (spAValue K):=by
 have G2:FnOk P w K mg base CX0 15 f2 d2 ["a","b"] (spLow K):=G2'.mono (by decide)
 have G3:FnOk P w K mg base CX0 15 f3 d3 ["web"] (spGreatA K):=G3'.mono (by decide)
 refine F.ok sc_avalue (fun vs H Q E h=> ?_) (fun cdv A outer s H vs Q E hr h=> ?_)
 ·obtain⟨a,n,ts,rfl,_⟩:=h
  rfl
 obtain⟨a,n,ts,rfl,hW,q1,q2⟩:=h
 refine⟨_,(zae (zcv (pt_not (zdg (zah G1 hr rfl D1.m D1.F.kp D1.b .nil pass0 (zaa (pv 0) zab)))) (zag (zak pe_non)) zbg) (zag (zak (zah G2 hr rfl D2.m D2.F.kp D2.b .nil pass0 (zaa (zat zar (pv 0) zaf (fun _ _=>rfl)) (zaa (zai (call_max2 rfl) rfl m_max (by decide+kernel) (zaa (zai zas rfl m_len PySem.boot_len (zaa (zah G3 hr rfl D3.m D3.F.kp D3.b .nil pass0 (zaa (pv 0) zab)) zab)) (zaa zaf zab))) zab)))))),?_⟩
 have hw1:=hW.h1
 refine⟨_,rfl,a,n,ts,rfl,hW,fun H1 s1=>⟨_,rfl,?_⟩⟩
 refine ite2 (fun c=> ?_) (fun c=> ?_)
 ·exact q1 (by cases z:alikeP ts n.toNat with
   |false=>rfl
   |true=>rw[z]at c;cases c) H1 s1
 ·have ct:alikeP ts n.toNat=true:=by
   cases z:alikeP ts n.toNat with
   |true=>rfl
   |false=>rw[z]at c;exact absurd rfl c
  obtain⟨t,rs,w1,_,_⟩:=(hW.same s1).web
  refine⟨_,rfl,a,_,_,.int n,rfl,rfl,w1,rfl,_,rfl,a,n,ts,rfl,hW.same s1,fun r s H2 s2 hr hm=> ?_⟩
  refine⟨r,_,rfl,.inr hr,fun hz=>⟨_,_,rfl,?_⟩⟩
  have e:(if(1:Int)>(((s.map V.int).length:Nat):Int)then(1:Int)else(((s.map V.int).length:Nat):Int))=((max s.length 1:Nat):Int):=by
   rw[List.length_map]
   split<;>omega
  rw[e]
  have hs:=most_len10 hW.h0 hw1 hm
  exact⟨n,max s.length 1,rfl,by omega,Nat.le_trans (show max s.length 1<=10 by omega) (by decide+kernel),fun p H' u v s' hp L=>q2 ct p H' u v s (s1.trans (s2.trans s')) hp hm L⟩
noncomputable def spEAlike(K:W.Frag):Sp:=fun vs H Q _=>∃(a:Addr) (n:Int) (ts:List (Int×Int)),vs=[.ref a]/\WebIs K H a n ts/\∀H',Same H H'->Q (.bl (alikeL ts n.toNat)) H'
theorem sc_ealike:FnScope ["web","many","place","found"] ["web"] (defScope zbd):=⟨rfl,rfl,rfl,by decide+kernel,rfl,by decide+kernel,by decide+kernel⟩
theorem ok_ealike{f f1:Addr}{fd d1:FuncData}(F:Fun K "_law_e_is_alike" "_law_e_is_alike" zbd f fd)(D1:Dfn K mg "_law_e_turned_on" zam ["web","some","most","found"] f1 d1)(G1':∀m,FnOk P w K mg base CX0 (3+m) f1 d1 ["web","some","most","found"] (spTon K m))(m_range:mg "range"=none)(m_len:mg "len"=none)(m_set:mg "set"=none):
  FnOk P w K mg base CX0 14 f fd ["web"] (spEAlike K):=by
 refine F.ok sc_ealike (fun vs H Q E h=> ?_) (fun cdv A outer s H vs Q E hr h=> ?_)
 ·obtain⟨a,n,ts,rfl,_⟩:=h
  rfl
 obtain⟨a,n,ts,rfl,hW,q⟩:=h
 have h1':=hW.h1
 have G1:FnOk P w K mg base CX0 13 f1 d1 ["web","some","most","found"] (spTon K (n.toNat-1)):=(G1' (n.toNat-1)).mono (by omega)
 refine⟨_,(zae (ps_setCompC (i:=1) (own:=["place"]) (caps:=["web"]) (ix:=[0]) sc_ealike.nd rfl (Or.inl rfl) rfl (zbp rfl m_range (zaa (zat zar (pv 0) zaf (fun _ _=>rfl)) zab)) rfl rfl (.cons rfl rfl .nil) (fun _ _ _ _ _=>(zaj (i:=0) (show(["place","web"]:List Str).Nodup from by decide+kernel) rfl (Or.inr rfl))) (fun _ _ _ _ _=>zcx) (fun _ _ _ _ _=>(zai (call_lenK K) rfl m_len PySem.boot_len (zaa (zck (own:=["tie"]) (caps:=["place"]) (ix:=[0]) rfl (pi_tupLK K (zat (ix_tupK K) (pv 1) zaf (fun _ _=>rfl))) rfl rfl (.cons rfl rfl .nil) (fun _ _ _ _ _=>(zaj (i:=0) (show(["tie","place"]:List Str).Nodup from by decide+kernel) rfl (Or.inl rfl))) (fun _ _ _ _ _=>pts_one (zaq (op_inDK K hr.units) (pv 1) (pv 0) (by with_unfolding_all rfl))) (fun _ _ _ _ _=>(pv 0))) zab)))) (zae (zcv (zaq op_gt (pe_lenSet rfl rfl m_len rfl m_set (zaa (pv 1) zab)) zaf (nomark _)) (zag (zak pe_bl)) zbg) (zae (zdh PassesOwn.never rfl (pi_range2 rfl m_range (zaa zaf (zaa (zat zar (pv 0) zaf (fun _ _=>rfl)) zab))) (zaj (i:=2) sc_ealike.nd rfl (Or.inl rfl)) (zae (zaw (i:=3) sc_ealike.nd rfl (Or.inl rfl) (zda zab)) (zae (zdi (zah G1 hr rfl D1.m D1.F.kp D1.b .nil pass0 (zaa (pv 0) (zaa (zbk (zaa (pv 2) zab)) (zaa zaf (zaa (pv 3) zab)))))) (zag (zcv (zaq (op_eqD hr.units) (pv 3) (zda zab) (nomark _)) (zag (zak pe_bl)) zbg))))) (zag (zak pe_bl))))),?_⟩
 have h0:=hW.h0
 have h1:=hW.h1
 obtain⟨t,rs,w1,w2,w3⟩:=id hW.web
 have hrs:rs.length=ts.length:=by have:=w3.len;rw[List.length_map]at this;exact this
 refine⟨_,rfl,a,_,_,.int n,rfl,rfl,w1,rfl,n,rfl,by omega,by omega,?_⟩
 refine zch (lo:=0) (n:=n.toNat) (fun k acc σ H'=>acc=(cntsL ts k).map V.int/\Same H H'/\∃o,σ=[o,some (.ref a)]) ⟨rfl,Same.refl _,_,rfl⟩ (fun k acc σ H' _ p=>by rw[p.1,List.length_map];unfold cntsL;rw[List.length_map,rgI_len];exact Nat.le_refl _) (by rw[sizeLine_eq];omega) (fun k acc σ H' hk p=> ?_) (fun acc σ H' p=> ?_)
 ·obtain⟨rfl,s2,o,rfl⟩:=p
  refine⟨_,rfl,a,_,_,.ref t,rfl,rfl,s2.tup w1,rfl,t,rs,rfl,s2.tup w2,fun hz=> ?_⟩
  refine comp_tup (xs:=rs) (fun i acc σ H''=>acc.length=((ts.take i).filter fun t=>decide (((k:Nat):Int)∈[t.1,t.2])).length/\Same H' H''/\∃o,σ=[o,some (.int (k:Int))]) ⟨rfl,Same.refl _,none,by rw[Int.zero_add];rfl⟩ (fun i acc σ H'' _ p=>p.2.1.tup (s2.tup w2)) (fun i acc σ H'' _ p=> ?_) hz (fun i x acc σ H'' hx p=> ?_) (fun acc σ H'' p=> ?_)
  ·rw[p.1]
   exact Nat.le_trans (List.length_filter_le _ _) (by rw[List.length_take];exact Nat.min_le_left _ _)
  ·obtain⟨ha,s3,o,rfl⟩:=p
   obtain⟨t',hi,rfl,ht⟩:=pair_at w3 hx
   have e:=zbt (p:=fun t:Int×Int=>decide (((k:Nat):Int)∈[t.1,t.2])) hi
   have ht':=(s2.trans s3).tup ht
   refine⟨_,rfl,_,rfl,t',_,_,.int (k:Int),rfl,.inr ht',DVs.ints [(ts[i]).1,(ts[i]).2],.int _,zcw _,rfl,(by show 0<=60;decide),_,rfl,?_⟩
   rw[any_ints]
   refine ite2 (fun c=> ?_) (fun c=> ?_)
   ·exact⟨_,rfl,by rw[List.length_append,ha,e,if_pos c,List.length_append];rfl,s3,_,rfl⟩
   ·exact⟨by rw[ha,e,if_neg c,List.append_nil],s3,_,rfl⟩
  ·obtain⟨ha,s3,_⟩:=p
   rw[hrs,List.take_length]at ha
   intro p1 hp1
   refine⟨p1,_,rfl,.inl (SqL.of zac),fun _=>⟨?_,s2.trans (s3.trans (zad hp1 _)),_,rfl⟩⟩
   unfold cntsL
   rw[rgI_succ,List.map_append,List.map_append]
   congr 1
   show[V.int ((acc.length:Nat):Int)]=[V.int ((cnt ts (k:Int):Nat):Int)]
   rw[ha];rfl
 obtain⟨rfl,s2,_⟩:=p
 intro p1 hp1
 have s3:=s2.trans (zad hp1 (.lst ((cntsL ts n.toNat).map V.int)))
 have hp1':(upd H' p1 (.lst ((cntsL ts n.toNat).map V.int))) p1=some (.lst ((cntsL ts n.toNat).map V.int)):=zac
 try dsimp only at s3 hp1'
 generalize upd H' p1 (.lst ((cntsL ts n.toNat).map V.int))=H3 at *
 refine⟨_,rfl,p1,cntsL ts n.toNat,rfl,SqL.of hp1',by unfold cntsL;rw[List.length_map,rgI_len];omega,_,_,rfl,rfl,_,rfl,?_⟩
 refine ite2 (fun c=> ?_) (fun c=> ?_)
 ·have c':1<distinct (cntsL ts n.toNat):=by have:=of_decide_eq_true c;omega
  have e:alikeL ts n.toNat=false:=by unfold alikeL;rw[cnts_one.mp c'];rfl
  have:=q H3 s3
  rw[e]at this;exact this
 have c':((rgI n.toNat).all fun p=>decide (cnt ts p=cnt ts 0))=true:=by
  cases z:(rgI n.toNat).all fun p=>decide (cnt ts p=cnt ts 0)with
  |true=>rfl
  |false=>exact absurd (decide_eq_true (by have:=cnts_one.mpr z;omega)) c
 obtain⟨t3,rs3,y1,y2,y3⟩:=id (hW.same s3).web
 refine⟨_,rfl,a,_,_,.int n,rfl,rfl,y1,rfl,1,n,rfl,⟨by decide,by decide,by omega,by omega⟩,?_⟩
 refine zcq (n:=(n-1).toNat) (fun i σ H'=>Same H3 H'/\(∀p:Int,1<=p->p<1+(i:Int)->(compl (goL ts) n.toNat (n.toNat-1) [p]).isEmpty=false)/\∃o2 o3,σ=[some (.ref a),some (.ref p1),o2,o3]) ⟨Same.refl _,fun p h1 h2=>by omega,_,_,rfl⟩ (fun i σ H4 hi p=> ?_) (fun σ H4 p=> ?_)
 ·obtain⟨s4,done,o2,o3,rfl⟩:=p
  refine⟨(by show 0<=sizeLine;decide),fun fo hfo=> ?_⟩
  have s5:=zad hfo (.lst [])
  have hfo5:(upd H4 fo (.lst [])) fo=some (.lst []):=zac
  try dsimp only at s5 hfo5
  generalize upd H4 fo (.lst [])=H5 at *
  refine⟨_,rfl,_,rfl,(by show 1<=sizeLine;decide),fun e1 he1=> ?_⟩
  have s6:=zad he1 (.tup [.int (1+(i:Int))])
  have s46:=s5.trans s6
  refine⟨_,rfl,a,e1,fo,n,0,ts,[1+(i:Int)],[],rfl,hW.same (s3.trans (s4.trans s46)),SqT.of zac,by show 1+(n.toNat-1)=n.toNat;omega,by decide,by decide,⟨s6 _ _ hfo5,fun p hp=>nomatch hp⟩,by decide,fun its H7 x7 T e7=> ?_⟩
  have s47:Same H4 H7:=Same.over s46 hfo x7
  refine⟨_,rfl,(by show 0<=sizeLine;decide),fun p8 hp8=> ?_⟩
  have s8:=zad hp8 (.lst [])
  have e7':its.map (·.2)=(compl (goL ts) n.toNat (n.toNat-1) [1+(i:Int)]).take 1:=e7
  refine⟨.list ((its.map fun p:Addr×List Int=>p.2).map datT),.list [],.lst (SqL.of (s8 _ _ T.1)) ((dvs_tups T).same s8),.lst (SqL.of zac) .nil,lay_tups48 _,rfl,(by show min _ 1<=64;omega),_,rfl,?_⟩
  have ee:PyData.eqv (.list ((its.map (·.2)).map datT)) (.list [])=(compl (goL ts) n.toNat (n.toNat-1) [1+(i:Int)]).isEmpty:=by
   rw[e7']
   cases compl (goL ts) n.toNat (n.toNat-1) [1+(i:Int)]with
   |nil=>simp[PyData.eqv,PyData.eqvAll]
   |cons x l=>simp[PyData.eqv,PyData.eqvAll]
  rw[ee]
  refine ite2 (fun c2=> ?_) (fun c2=> ?_)
  ·have e:alikeL ts n.toNat=false:=by
    unfold alikeL
    have:((rgI n.toNat).all fun p=>decide (p=0)|| !(compl (goL ts) n.toNat (n.toNat-1) [p]).isEmpty)=false:=by
     rw[List.all_eq_false]
     refine⟨1+(i:Int),zcm.mpr (by omega),?_⟩
     rw[c2,decide_eq_false (by omega)];decide
    rw[this,Bool.and_false]
   have:=q _ (s3.trans (s4.trans (s47.trans s8)))
   rw[e]at this;exact this
  ·refine⟨s4.trans (s47.trans s8),fun p hp1' hp2'=> ?_,_,_,rfl⟩
   by_cases z:p<1+(i:Int)
   ·exact done p hp1' z
   ·have:p=1+(i:Int):=by omega
    rw[this]
    cases y:(compl (goL ts) n.toNat (n.toNat-1) [1+(i:Int)]).isEmpty with
    |false=>rfl
    |true=>exact absurd y c2
 ·obtain⟨s4,done,o2,o3,rfl⟩:=p
  have e:alikeL ts n.toNat=true:=by
   unfold alikeL
   rw[c',Bool.true_and,List.all_eq_true]
   intro p hp
   have hp':=zcm.mp hp
   by_cases z:p=0
   ·rw[decide_eq_true z];rfl
   ·rw[done p (by omega) (by omega)];simp
  have:=q _ (s3.trans s4)
  rw[e]at this;exact this
end
end Hs
namespace Hs
open PySem L2 HsD
section
variable{P:Program}{w:World}{K:W.Frag}{mg:Str->Option Value}{base:Heap}
theorem ps_cut{X:Cx}{st:Stmt}{t:TS}(t':TS)(w:∀D σ H,t' D σ H->t D σ H)(h:PS X st t):PS X st t':=fun pins s σ H D I q=>h pins s σ H D I (w D σ H q)
noncomputable def cR(K:W.Frag):TS:=fun D σ H=>∃(a:Addr) (n:Int) (ts:List (Int×Int)) (o1 o2 o3 o4 o5:Option V),σ=[some (.ref a),o1,o2,o3,o4,o5]/\WebIs K H a n ts/\(∀H',Same H H'->D.rt (.bl true) H')/\∀H',Same H H'->D.nx [some (.ref a),o1,o2,o3,o4,o5] H'
theorem max_is{ns:List Int}{m:Int}{s:Nat}(h1:∃t∈ns,t=(s:Int))(h2:∀t∈ns,t<=(s:Int))(hm:m∈ns)(hx:∀t∈ns,t<=m):m=(s:Int):=by
 obtain⟨t,ht,e⟩:=h1
 have:=hx t ht
 have:=h2 m hm
 omega
noncomputable def spRight(K:W.Frag):Sp:=fun vs H Q _=>∃(a:Addr) (n:Int) (ts:List (Int×Int)),vs=[.ref a]/\WebIs K H a n ts/\∀H',Same H H'->Q (.bl true) H'
theorem sc_right:FnScope ["web","due","turn","found","told","most"] ["web"] (defScope zbu):=⟨rfl,rfl,rfl,by decide+kernel,rfl,by decide+kernel,by decide+kernel⟩
theorem ok_right{f f1 f2 f3 f4 f5:Addr}{fd d1 d2 d3 d4 d5:FuncData}(F:Fun K "_law_e_right" "_law_e_right" zbu f fd)(D1:Dfn K mg "_law_e_is_alike" zbd ["web"] f1 d1)(G1':FnOk P w K mg base CX0 14 f1 d1 ["web"] (spEAlike K))(D2:Dfn K mg "is_alike" zcp ["web"] f2 d2)(G2':FnOk P w K mg base CX0 15 f2 d2 ["web"] (spAlike K))(D3:Dfn K mg "alike_value" zbv ["web"] f3 d3)(G3:FnOk P w K mg base CX0 16 f3 d3 ["web"] (spAValue K))(D4:Dfn K mg "_law_e_apart_sets" zau ["web","left"] f4 d4)(G4':FnOk P w K mg base CX0 2 f4 d4 ["web","left"] (spESets K))(D5:Dfn K mg "_law_e_part" zcb ["top","bottom"] f5 d5)(G5':FnOk P w K mg base CX0 1 f5 d5 ["top","bottom"] (spEPart K))(m_len:mg "len"=none)(m_range:mg "range"=none)(m_isinstance:mg "isinstance"=none)(m_bool:mg "bool"=none)(m_max:mg "max"=none)(m_list:mg "list"=none)(m_tuple:mg "tuple"=none):
  FnOk P w K mg base CX0 17 f fd ["web"] (spRight K):=by
 have G1:FnOk P w K mg base CX0 16 f1 d1 ["web"] (spEAlike K):=G1'.mono (by decide)
 have G2:FnOk P w K mg base CX0 16 f2 d2 ["web"] (spAlike K):=G2'.mono (by decide)
 have G4:FnOk P w K mg base CX0 16 f4 d4 ["web","left"] (spESets K):=G4'.mono (by decide)
 have G5:FnOk P w K mg base CX0 16 f5 d5 ["top","bottom"] (spEPart K):=G5'.mono (by decide)
 refine F.ok sc_right (fun vs H Q E h=> ?_) (fun cdv A outer s H vs Q E hr h=> ?_)
 ·obtain⟨a,n,ts,rfl,_⟩:=h
  rfl
 obtain⟨a,n,ts,rfl,hW,q⟩:=h
 refine⟨_,(zae (ps_cut (cR K) ?wA (zcv (PW.pt (pw_and (zaq op_gt (zat zar (pv 0) zaf (fun _ _=>rfl)) zaf (nomark _)) (pw_and1 (zaq (op_inD hr.units) (zai zas rfl m_len PySem.boot_len (zaa (zat zar (pv 0) zaf (fun _ _=>rfl)) zab)) (zda (zaa zaf (zaa (zan op_fdiv (zan zdj (zat zar (pv 0) zaf (fun _ _=>rfl)) (zan op_sub (zat zar (pv 0) zaf (fun _ _=>rfl)) zaf)) zaf) zab))) (by with_unfolding_all rfl))))) (zag (zak pe_bl)) zbg)) (zae (zaw (i:=1) sc_right.nd rfl (Or.inl rfl) (zah G1 hr rfl D1.m D1.F.kp D1.b .nil pass0 (zaa (pv 0) zab))) (zae (zdh PassesOwn.never rfl (zbp rfl m_range (zaa zaf zab)) (zaj (i:=2) sc_right.nd rfl (Or.inl rfl)) (zae (zaw (i:=3) sc_right.nd rfl (Or.inl rfl) (zah G2 hr rfl D2.m D2.F.kp D2.b .nil pass0 (zaa (pv 0) zab))) (zae (zcv (PW.pt (pw_or (pt_not (zdg (zai call_isi rfl m_isinstance (by decide+kernel) (zaa (pv 3) (zaa (pe_bltn rfl m_bool (v:= .ty "bool") (by decide+kernel) rfl) zab))))) (pw_or1 (zaq op_ne (pv 3) (pv 1) (nomark _))))) (zag (zak pe_bl)) zbg) (zae (zaw (i:=4) sc_right.nd rfl (Or.inl rfl) (zah G3 hr rfl D3.m D3.F.kp D3.b .nil pass0 (zaa (pv 0) zab))) (zae (zcv (PW.pt (pw_and (pt_not (zdg (pv 1))) (pw_and1 (zaq op_notN (pv 4) pe_non (nomark _))))) (zag (zak pe_bl)) zbg) (zag (zcv (zdg (pv 1)) (zae (zaw (i:=5) sc_right.nd rfl (Or.inl rfl) (zai (call_maxL rfl) rfl m_max (by decide+kernel) (zaa (zck (own:=["one"]) (caps:=[]) (ix:=[]) rfl (zcy (zah G4 hr rfl D4.m D4.F.kp D4.b .nil pass0 (zaa (pv 0) (zaa (pe_lstRange rfl rfl m_list rfl m_range (zaa (zat zar (pv 0) zaf (fun _ _=>rfl)) zab)) zab)))) rfl rfl .nil (fun _ _ _ _ _=>(zaj (i:=0) (show(["one"]:List Str).Nodup from by decide+kernel) rfl (Or.inl rfl))) (fun _ _ _ _ _=>zcx) (fun _ _ _ _ _=>(zai (call_lenK K) rfl m_len PySem.boot_len (zaa (pv 0) zab)))) zab))) (zag (zcv (PW.pt (pw_or (pt_not (zdg (zai call_isi rfl m_isinstance (by decide+kernel) (zaa (pv 4) (zaa (pe_bltn rfl m_tuple (v:= .ty "tuple") (by decide+kernel) rfl) zab))))) (pw_or1 (zaq (op_neD hr.units) (pv 4) (zah G5 hr rfl D5.m D5.F.kp D5.b .nil pass0 (zaa (zat zar (pv 0) zaf (fun _ _=>rfl)) (zaa (zai (call_max2 rfl) rfl m_max (by decide+kernel) (zaa zaf (zaa (pv 5) zab))) zab))) (nomark _))))) (zag (zak pe_bl)) zbg))) zbg))))))) (zag (zak pe_bl))))),?_⟩
 case wA=>
  rintro D σ H ⟨a,n,ts,o1,o2,o3,o4,o5,rfl,hW,qt,qn⟩
  have h0:=hW.h0
  have h1:=hW.h1
  obtain⟨t,rs,w1,w2,w3⟩:=id hW.web
  refine⟨_,rfl,a,_,_,.int n,rfl,rfl,w1,rfl,_,_,rfl,rfl,_,rfl,?_⟩
  refine ite2 (fun c=> ?_) (fun c=>qn H (Same.refl _))
  refine⟨_,rfl,a,_,_,.ref t,rfl,rfl,w1,rfl,t,_,rfl,.inr w2,fun _=> ?_⟩
  refine⟨_,rfl,a,_,_,.int n,rfl,rfl,w1,rfl,_,rfl,a,_,_,.int n,rfl,rfl,w1,rfl,_,_,rfl,rfl,_,_,rfl,rfl,.inl ⟨by omega,by omega⟩,_,_,rfl,rfl,⟨by decide,by decide⟩,(by show 2<=sizeLine;decide),fun p hp=> ?_⟩
  have s1:=zad hp (.lst (([0,n*(n-1)/2]:List Int).map V.int))
  refine⟨p,_,([0,n*(n-1)/2]:List Int).map PyData.int,.int _,rfl,.inl (SqL.of zac),DVs.ints [0,n*(n-1)/2],.int _,zcw _,rfl,(by show 0<=60;decide),_,rfl,?_⟩
  exact ite2 (fun c=>qt _ s1) (fun c=>qn _ s1)
 have h0:=hW.h0
 have h1:=hW.h1
 have eP:alikeP ts n.toNat=alikeL ts n.toNat:=alike_eq (by rw[Int.toNat_of_nonneg h0];exact hW.pk)
 refine⟨a,n,ts,_,_,_,_,_,rfl,hW,q,fun H1 s1=> ?_⟩
 refine⟨_,rfl,a,n,ts,rfl,hW.same s1,fun H2 s2=> ?_⟩
 have s12:=s1.trans s2
 refine⟨2,rfl,by decide,by decide,?_⟩
 refine zcq (n:=2) (fun i σ H'=>Same H2 H'/\∃o2 o3 o4 o5,σ=[some (.ref a),some (.bl (alikeL ts n.toNat)),o2,o3,o4,o5]) ⟨Same.refl _,_,_,_,_,rfl⟩ (fun i σ H3 hi p=> ?_) (fun σ H3 p=>q _ (s12.trans p.1))
 obtain⟨s3,o2,o3,o4,o5,rfl⟩:=p
 have s13:=s12.trans s3
 refine⟨_,rfl,a,n,ts,rfl,hW.same s13,fun H4 s4=> ?_⟩
 have s14:=s13.trans s4
 refine⟨_,rfl,.bl _,"bool",_,rfl,rfl,.inr (.inl rfl),_,rfl,?_⟩
 refine iteF ?_
 refine⟨_,rfl,_,rfl,rfl,_,rfl,?_⟩
 refine iteNS (by rw[eP]) ?_
 refine⟨_,rfl,a,n,ts,rfl,hW.same s14,fun hf H5 s5=> ?_,fun ht p H5 u v s s5 hp hm L=> ?_⟩
 ·have eL:alikeL ts n.toNat=false:=by rw[<-eP];exact hf
  refine⟨_,rfl,_,rfl,?_⟩
  rw[eL]
  refine iteT ?_
  refine⟨_,rfl,rfl,_,rfl,?_⟩
  refine iteNS rfl ?_
  refine⟨_,rfl,_,rfl,?_⟩
  exact iteF ⟨s3.trans (s4.trans s5),_,_,_,_,rfl⟩
 ·have eL:alikeL ts n.toNat=true:=by rw[<-eP];exact ht
  refine⟨_,rfl,_,rfl,?_⟩
  rw[eL]
  refine iteF (iteF ?_)
  refine⟨_,rfl,_,rfl,?_⟩
  refine iteT ?_
  have s15:=s14.trans s5
  obtain⟨t,rs,w1,w2,w3⟩:=id (hW.same s15).web
  refine⟨_,rfl,_,rfl,a,_,_,.int n,rfl,rfl,w1,rfl,n,rfl,h0,by omega,fun l hl=> ?_⟩
  have s6:=zad hl (.lst (tupR n.toNat))
  have hl6:(upd H5 l (.lst (tupR n.toNat))) l=some (.lst ((upto n.toNat).map V.int)):=by rw[zac,tupR_rng];rfl
  try dsimp only at s6 hl6
  generalize upd H5 l (.lst (tupR n.toNat))=H6 at *
  refine⟨a,l,n,ts,upto n.toNat,rfl,hW.same (s15.trans s6),SqL.of hl6,by rw[upto_len];omega,fun r H7 s7 hS=> ?_⟩
  obtain⟨its,hr7,hT7,hm7⟩:=hS
  refine⟨r,_,rfl,SqL.of hr7,fun hz=> ?_⟩
  refine comp_list (xs:=its.map fun p=>V.ref p.1) (fun i acc σ H'=>acc=((its.take i).map fun p=>(p.2.length:Int)).map V.int/\Same H7 H'/\∃o,σ=[o]) ⟨rfl,Same.refl _,_,rfl⟩ (fun i acc σ H' _ p=>p.2.1.seq (SqL.of hr7)) (fun i acc σ H' _ p=> ?_) hz (fun i x acc σ H' hx p=> ?_) (fun acc σ H' p=> ?_)
  ·rw[p.1,List.length_map,List.length_map,List.length_take];exact Nat.min_le_left _ _
  ·obtain⟨rfl,sm,o,rfl⟩:=p
   rw[List.getElem?_map]at hx
   cases ex:its[i]? with
   |none=>rw[ex]at hx;cases hx
   |some y=>
    rw[ex]at hx
    cases hx
    refine⟨_,rfl,y.1,_,rfl,.inr (sm.tup (hT7 y (List.mem_of_getElem? ex))),fun _=>⟨?_,sm,_,rfl⟩⟩
    rw[List.take_add_one,ex,List.map_append,List.map_append,List.length_map];rfl
  ·intro p8 hp8
   obtain⟨rfl,sm,_⟩:=p
   rw[List.length_map,List.take_length]
   have s8:=sm.trans (zad hp8 (.lst ((its.map fun p=>(p.2.length:Int)).map V.int)))
   have hp8':(upd H' p8 (.lst ((its.map fun p=>(p.2.length:Int)).map V.int))) p8=some (.lst ((its.map fun p=>(p.2.length:Int)).map V.int)):=zac
   try dsimp only at s8 hp8'
   generalize upd H' p8 (.lst ((its.map fun p=>(p.2.length:Int)).map V.int))=H8 at *
   obtain⟨⟨t0,ht0,el0⟩,htop⟩:=most_top h0 hW.pk hW.srt hm
   have hns:∀x:Int,x∈its.map (fun p=>(p.2.length:Int))↔∃t∈aset ts (upto n.toNat),x=(t.length:Int):=fun x=>by
    rw[<-hm7]
    constructor
    ·intro h
     obtain⟨p,hp,e⟩:=List.mem_map.mp h
     exact⟨p.2,List.mem_map_of_mem hp,e.symm⟩
    ·rintro⟨t,ht,e⟩
     obtain⟨p,hp,rfl⟩:=List.mem_map.mp ht
     exact List.mem_map.mpr ⟨p,hp,e.symm⟩
   refine⟨p8,its.map (fun p=>(p.2.length:Int)),rfl,SqL.of hp8',fun z=> ?_,fun m hm1 hm2=> ?_⟩
   ·have:=(hns (t0.length:Int)).mpr ⟨t0,ht0,rfl⟩
    rw[z]at this;cases this
   have em:m=(s.length:Int):=max_is ⟨_,(hns (t0.length:Int)).mpr ⟨t0,ht0,rfl⟩,by rw[el0]⟩ (fun x hx=>by obtain⟨t,ht,e⟩:=(hns x).mp hx;have:=htop t ht;omega) hm1 hm2
   have s58:=s6.trans (s7.trans s8)
   have hp58:=s58 _ _ hp
   obtain⟨t9,rs9,y1,y2,y3⟩:=id (hW.same (s15.trans s58)).web
   refine⟨_,rfl,.ref p,"tuple",_,rfl,.inl ⟨rfl,_,SqT.of hp58⟩,.inr (.inr (.inl rfl)),_,rfl,?_⟩
   refine iteF ?_
   refine⟨_,rfl,_,rfl,a,_,_,.int n,rfl,rfl,y1,rfl,_,rfl,_,_,rfl,?_⟩
   have e2:(if m>(1:Int)then m else(1:Int))=((max s.length 1:Nat):Int):=by
    rw[em]
    split<;>omega
   rw[e2]
   have hs:=most_len10 h0 h1 hm
   refine⟨n.toNat,max s.length 1,by rw[Int.toNat_of_nonneg h0];rfl,by omega,Nat.le_trans (show max s.length 1<=10 by omega) (by decide+kernel),fun p9 H9 u' v' s9 hp9 L'=> ?_⟩
   rw[Int.toNat_of_nonneg h0]at L'
   obtain⟨e3,e4⟩:=low_one L L' (by omega) (by omega) rfl
   subst e3 e4
   refine⟨.tuple [.int u,.int (v:Int)],.tuple [.int u,.int (v:Int)],.tup (SqT.of (s9 _ _ hp58)) (.cons (.int _) (.cons (.int _) .nil)),.tup hp9 (.cons (.int _) (.cons (.int _) .nil)),rfl,rfl,(by show min (max 0 (max 0 0)+1) _<=64;omega),_,rfl,?_⟩
   have ee:PyData.eqv (.tuple [.int u,.int (v:Int)]) (.tuple [.int u,.int (v:Int)])=true:=by simp[PyData.eqv,PyData.eqvAll]
   rw[ee]
   exact iteF ⟨s3.trans (s4.trans (s5.trans (s58.trans s9))),_,_,_,_,rfl⟩
end
end Hs
namespace L2
open PySem PySem.Spec PyProof.Rows
section
variable{X:Cx}{o e:Expr}{es:List Expr}{to:TE}{t:TA}{name:Str}{apos cpos:Pos}{T id:String}{r:V->List V->Hp->VK->Prop}
theorem pe_bmK(K:W.Frag)(pa:PlainAttrs T)(slot:Slot T name id)(hty:typeOf (.builtin id)=pure (.type "method_descriptor"))(hm:MtR X id r)(ho:PE X o to)(ha:PA X (e::es) t)(hbase:attributeBase o name X.env (eval o X.env)=eval o X.env:=by rfl)(hfew:((backTo cpos (starEach (e::es) X.env)).all (fun x=> !x.1)&&(backToKw cpos (keywordEach [] X.env)).all (fun x=>x.1.isSome)
   &&decide ((e::es).length+([]:List Keyword).length+(if([]:List Keyword).isEmpty then 0 else 1)<30))=true:=by rfl)(hline:(apos.endLine==cpos.line)=true:=by rfl)(hs:starEach (e::es) X.env=(false,eval e X.env)::starEach es X.env:=by rfl)(hplain:(backTo cpos (starEach es X.env)).any (·.1)=false:=by rfl)(hK:X.K=K:=by rfl):
  PE X (.Call (.Attribute o name apos) (e::es) [] cpos) (tBM K T r to t):=by subst hK;exact pe_bm pa slot hty hm ho ha hbase hfew hline hs hplain
end
end L2
namespace Hs
open PySem L2 HsD
section
variable{P:Program}{w:World}{K:W.Frag}{mg:Str->Option Value}{base:Heap}
noncomputable def Same2(a b:Addr)(H H':Hp):Prop:=∀x o,x≠a->x≠b->H x=some o->H' x=some o
theorem tupR_ints(n:Nat):tupR n=(rgI n).map V.int:=by
 unfold tupR rgI
 rw[List.map_map];rfl
theorem era_map(l:List Int)(k:Nat):(l.map V.int).eraseIdx k=(l.eraseIdx k).map V.int:=by rw[List.eraseIdx_eq_take_drop_succ,List.eraseIdx_eq_take_drop_succ,List.map_append,List.map_take,List.map_drop]
theorem perm_pop{l acc:List Int}{n k:Nat}{v:Int}(h:(acc++l).Perm (rgI n))(hv:l[k]? =some v):((acc++[v])++l.eraseIdx k).Perm (rgI n):=by
 have hk:k<l.length:=(List.getElem?_eq_some_iff.mp hv).1
 have e:l=l.take k++v::l.drop (k+1):=by
  have z:=List.take_append_drop k l
  rw[List.drop_eq_getElem_cons hk,(List.getElem?_eq_some_iff.mp hv).2]at z
  exact z.symm
 have p:(v::l.eraseIdx k).Perm l:=by
  rw[List.eraseIdx_eq_take_drop_succ]
  conv=>rhs;rw[e]
  exact List.perm_middle.symm
 rw[List.append_assoc]
 exact(List.Perm.append_left acc p).trans h
noncomputable def spOrder(K:W.Frag):Sp:=fun vs H Q _=>∃(cp scr:Addr) (ns:List Int) (n b:Int),vs=[.ref cp,.int n]/\CupV K H cp scr ns b/\b<=900000000/\0<=n/\n<=10/\
 ∀(r:Addr) (xs:List Int) H',SameX cp H H'->CupV K H' cp scr ns (b+10)->SqT K H' r (xs.map V.int)->xs.Perm (rgI n.toNat)->Q (.ref r) H'
theorem sc_order:FnScope ["cup","n","left"] ["cup","n"] (defScope zbl):=⟨rfl,rfl,rfl,by decide+kernel,rfl,by decide+kernel,by decide+kernel⟩
theorem ok_order{f f1:Addr}{fd d1:FuncData}(F:Fun K "_law_e_order" "_law_e_order" zbl f fd)(D1:Dfn K mg "_law_e_dip" zay ["cup","many"] f1 d1)(G1:FnOk P w K mg base CX0 2 f1 d1 ["cup","many"] (spDip K))(m_list:mg "list"=none)(m_range:mg "range"=none)(m_tuple:mg "tuple"=none)(m_len:mg "len"=none):
  FnOk P w K mg base CX0 3 f fd ["cup","n"] (spOrder K):=by
 refine F.ok sc_order (fun vs H Q E h=> ?_) (fun cdv A outer s H vs Q E hr h=> ?_)
 ·obtain⟨cp,scr,ns,n,b,rfl,_⟩:=h
  rfl
 obtain⟨cp,scr,ns,n,b,rfl,hC,hb,n0,n1,q⟩:=h
 refine⟨_,(zae (zaw (i:=2) sc_order.nd rfl (Or.inr rfl) (pe_lstRange rfl rfl m_list rfl m_range (zaa (pv 1) zab))) (zag (zak (zcl zbn rfl m_tuple (by decide+kernel) (zaa (zck (own:=["place"]) (caps:=["left","cup"]) (ix:=[2,0]) rfl (zbp rfl m_range (zaa (pv 1) zab)) rfl rfl (.cons rfl rfl (.cons rfl rfl .nil)) (fun _ _ _ _ _=>(zaj (i:=0) (show(["place","left","cup"]:List Str).Nodup from by decide+kernel) rfl (Or.inl rfl))) (fun _ _ _ _ _=>zcx) (fun _ _ _ _ _=>(pe_bmK K PySem.F.plainAttrs_list PySem.F.slot_list_pop PySem.F.type_list_pop mt_popAt (pv 1) (zaa (zah G1 hr rfl D1.m D1.F.kp D1.b .nil pass0 (zaa (pv 2) (zaa (zai (call_lenK K) rfl m_len PySem.boot_len (zaa (pv 1) zab)) zab))) zab)))) zab))))),?_⟩
 refine⟨_,rfl,n,rfl,by omega,by omega,fun lf hlf=> ?_⟩
 rw[tupR_ints]
 obtain⟨zc,hzc⟩:=hC.lst
 have nlc:lf≠cp:=none_ne' hzc hlf
 have s1:=zad hlf (.lst ((rgI n.toNat).map V.int))
 have e1:(upd H lf (.lst ((rgI n.toNat).map V.int))) lf=some (.lst ((rgI n.toNat).map V.int)):=zac
 have c1:=hC.same s1
 dsimp only at s1 e1 c1⊢
 generalize upd H lf (.lst ((rgI n.toNat).map V.int))=H1 at *
 refine⟨_,rfl,n,rfl,by omega,by omega,?_⟩
 refine zch (lo:=0) (n:=n.toNat) (fun k acc σ H'=>Same2 cp lf H1 H'/\CupV K H' cp scr ns (b+(k:Int))/\(∃xs l:List Int,acc=xs.map V.int/\H' lf=some (.lst (l.map V.int))/\(xs++l).Perm (rgI n.toNat)/\xs.length=k)/\∃o,σ=[o,some (.ref lf),some (.ref cp)])
  ⟨fun x o _ _ h=>h,c1.mono (by omega),⟨[],rgI n.toNat,rfl,e1,List.Perm.refl _,rfl⟩,_,rfl⟩ (fun k acc σ H' _ p=> ?_) (by rw[sizeLine_eq];omega) (fun k acc σ H' hk p=> ?_) (fun acc σ H' p=> ?_)
 ·obtain⟨_,_,⟨xs,l,rfl,_,_,hx⟩,_⟩:=p
  rw[List.length_map,hx];exact Nat.le_refl _
 ·obtain⟨g,c,⟨xs,l,rfl,hl,hp,hx⟩,o,rfl⟩:=p
  have hlen:xs.length+l.length=n.toNat:=by have:=hp.length_eq;rwa [List.length_append,rgI_len]at this
  obtain⟨z,hz⟩:=c.lst
  refine⟨_,rfl,.inl ⟨rfl,_,SqL.of hl⟩,_,rfl,_,rfl,lf,_,rfl,.inl (SqL.of hl),fun _=> ?_⟩
  rw[List.length_map]
  refine⟨cp,scr,ns,_,_,rfl,c,by omega,by omega,by omega,fun d H2 d0 d1 x2 c2=> ?_⟩
  have hd:d.toNat<l.length:=by omega
  have hl2:=x2 _ _ nlc hl
  have hv:l[d.toNat]? =some l[d.toNat]:=List.getElem?_eq_getElem hd
  have si:seqIndex? d (l.map V.int).length=some d.toNat:=by
   rw[List.length_map]
   exact(ixN_seq (by unfold ixN;rw[if_pos d0,if_pos (by omega)])).1
  refine⟨lf,_,d,d.toNat,.int l[d.toNat],rfl,rfl,hl2,by omega,by omega,si,by rw[List.getElem?_map,hv];rfl,?_⟩
  have x3:SameX lf H2 (upd H2 lf (.lst ((l.map V.int).eraseIdx d.toNat))):=(SameX.refl _ _).upd
  refine⟨fun x o a1 a2 h=>x3 _ _ a2 (x2 _ _ a1 (g _ _ a1 a2 h)),(c2.other x3 hl2 nlc.symm).mono (by omega),⟨xs++[l[d.toNat]],l.eraseIdx d.toNat,by rw[List.map_append];rfl,by rw[zac,era_map],perm_pop hp hv,by rw[List.length_append,hx];rfl⟩,_,rfl⟩
 ·obtain⟨g,c,⟨xs,l,rfl,hl,hp,hx⟩,_⟩:=p
  intro p1 hp1
  have hlen:xs.length+l.length=n.toNat:=by have:=hp.length_eq;rwa [List.length_append,rgI_len]at this
  have el:l=[]:=List.length_eq_zero_iff.mp (by omega)
  rw[el,List.append_nil]at hp
  have s2:=zad hp1 (.lst (xs.map V.int))
  refine⟨p1,_,rfl,.inl ⟨SqL.of zac,fun t ht=> ?_⟩⟩
  have s3:=zad ht (.tup (xs.map V.int))
  refine q t xs _ (fun x o a1 h=> ?_) (((c.same s2).same s3).mono (by omega)) (SqT.of zac) hp
  have a2:x≠lf:=fun z=>by rw[z,hlf]at h;cases h
  exact s3 _ _ (s2 _ _ (g _ _ a1 a2 (s1 _ _ h)))
end
end Hs
namespace Hs
open PySem L2 HsD
section
variable{P:Program}{w:World}{K:W.Frag}{mg:Str->Option Value}{base:Heap}
noncomputable def spMoved(K:W.Frag):Sp:=fun vs H Q _=>∃(a o:Addr) (n:Int) (ts:List (Int×Int)) (xs:List Int),vs=[.ref a,.ref o]/\WebIs K H a n ts/\SqT K H o (xs.map V.int)/\xs.Perm (rgI n.toNat)/\
 ∀r us H',Same H H'->WebIs K H' r n us->Q (.ref r) H'
theorem sc_moved:FnScope ["web","order","ties","i","j"] ["web","order"] (defScope zbm):=⟨rfl,rfl,rfl,by decide+kernel,rfl,by decide+kernel,by decide+kernel⟩
theorem ok_moved{f:Addr}{fd:FuncData}(F:Fun K "_law_e_moved" "_law_e_moved" zbm f fd)(m_min:mg "min"=none)(m_max:mg "max"=none)(m_tuple:mg "tuple"=none)(m_sorted:mg "sorted"=none):
  FnOk P w K mg base CX0 1 f fd ["web","order"] (spMoved K):=by
 refine F.ok sc_moved (fun vs H Q E h=> ?_) (fun cdv A outer s H vs Q E hr h=> ?_)
 ·obtain⟨a,o,n,ts,xs,rfl,_⟩:=h
  rfl
 obtain⟨a,o,n,ts,xs,rfl,hA,hX,hP,q⟩:=h
 refine⟨_,(zae (zaw (i:=2) sc_moved.nd rfl (Or.inl rfl) (zda zab)) (zae (zdh PassesOwn.never rfl (pi_tupL (zat zar (pv 0) zaf (fun _ _=>rfl))) (pg_tup rfl (pgs_cons (zaj (i:=3) sc_moved.nd rfl (Or.inl rfl)) (pgs_cons (zaj (i:=4) sc_moved.nd rfl (Or.inl rfl)) pgs_nil))) (zag (zdi (pe_bm PySem.F.plainAttrs_list PySem.F.slot_list_append PySem.F.type_list_append mt_append (pv 2) (zaa (zbk (zaa (zai (call_min2 rfl) rfl m_min (by decide+kernel) (zaa (zat zar (pv 1) (pv 3) (fun _ _=>rfl)) (zaa (zat zar (pv 1) (pv 4) (fun _ _=>rfl)) zab))) (zaa (zai (call_max2 rfl) rfl m_max (by decide+kernel) (zaa (zat zar (pv 1) (pv 3) (fun _ _=>rfl)) (zaa (zat zar (pv 1) (pv 4) (fun _ _=>rfl)) zab))) zab))) zab))))) (zag (zak (zbk (zaa (zat zar (pv 0) zaf (fun _ _=>rfl)) (zaa (zcl zbn rfl m_tuple (by decide+kernel) (zaa (zai call_sortedT rfl m_sorted (by decide+kernel) (zaa (pv 2) zab)) zab)) zab))))))),?_⟩
 have h0:=hA.h0
 have h1:=hA.h1
 have en:((n.toNat:Nat):Int)=n:=by omega
 obtain⟨t0,rs,w1,w2,w3⟩:=hA.web
 have hxl:xs.length=n.toNat:=by have:=hP.length_eq;rwa [rgI_len]at this
 have hsub:Sub n.toNat xs:=⟨hP.nodup_iff.mpr (rgI_nodup _),fun i hi=>zcm.mp (hP.mem_iff.mp hi)⟩
 have hps':PairsOk ((n.toNat:Nat):Int) ts:=by rw[en];exact hA.pk
 have hlen':rs.length=ts.length:=by have:=w3.len;rwa [List.length_map]at this
 have h45:=hA.len
 refine⟨(by show 0<=sizeLine;decide),fun tl htl=> ?_⟩
 have s1:=zad htl (.lst [])
 have e1:(upd H tl (.lst [])) tl=some (.lst []):=zac
 dsimp only at s1 e1⊢
 generalize upd H tl (.lst [])=H1 at *
 refine⟨_,rfl,a,_,_,.ref t0,rfl,rfl,s1.tup w1,rfl,t0,rs,rfl,s1.tup w2,fun hz=> ?_⟩
 refine for_tup (xs:=rs) (fun idx σ H'=>Same H H'/\(∃fl,H' tl=some (.lst fl)/\DVs K H' fl (((ts.take idx).map (mp xs)).map pairD)/\fl.length=idx)/\∃o3 o4,σ=[some (.ref a),some (.ref o),some (.ref tl),o3,o4]) ⟨s1,⟨[],e1,.nil,rfl⟩,_,_,rfl⟩ (fun idx σ H' _ p=>p.1.tup w2) (fun idx x σ H' hx p=> ?_) (fun σ H' p=> ?_)
 ·obtain⟨s2,⟨fl,hf6,dv6,hfl⟩,o3,o4,rfl⟩:=p
  obtain⟨u,hi,rfl,hu⟩:=pair_at w3 hx
  have hidx:idx<rs.length:=(List.getElem?_eq_some_iff.mp hx).1
  have hpi:ts[idx]? =some ts[idx]:=List.getElem?_eq_getElem hi
  have hmem:=List.getElem_mem hi
  have hu2:=s2.tup hu
  generalize ts[idx]=pr at *
  obtain⟨p0,p1,p2⟩:=hps'.lt pr hmem
  obtain⟨v1,a1,g1⟩:=at_ints (ns:=xs) (k:=pr.1) p0 (by omega)
  obtain⟨v2,a2,g2⟩:=at_ints (ns:=xs) (k:=pr.2) (by omega) (by omega)
  have hc6:=s2.tup hX
  refine⟨u,_,rfl,hu2,rfl,_,_,rfl,_,_,rfl,rfl,?_⟩
  refine⟨_,rfl,.inl ⟨rfl,_,SqL.of hf6⟩,_,rfl,_,rfl,o,_,_,_,rfl,rfl,hc6,a1,_,rfl,_,rfl,o,_,_,_,rfl,rfl,hc6,a2,_,_,rfl,_,rfl,_,rfl,o,_,_,_,rfl,rfl,hc6,a1,_,rfl,_,rfl,o,_,_,_,rfl,rfl,hc6,a2,_,_,rfl,(by show 2<=sizeLine;decide),fun pn hpn=> ?_⟩
  have sn:=zad hpn (.tup [.int (if v2<v1 then v2 else v1),.int (if v2>v1 then v2 else v1)])
  refine⟨tl,fl,_,rfl,rfl,sn _ _ hf6,(by rw[hfl,sizeLine_eq];omega),?_⟩
  have hnf:pn≠tl:=none_ne' hf6 hpn
  have xw:SameX tl (upd H' pn (.tup [.int (if v2<v1 then v2 else v1),.int (if v2>v1 then v2 else v1)])) (upd (upd H' pn (.tup [.int (if v2<v1 then v2 else v1),.int (if v2>v1 then v2 else v1)])) tl (.lst (fl++[.ref pn]))):=(SameX.refl _ _).upd
  refine⟨over_new (s2.trans sn) htl xw,⟨fl++[.ref pn],zac,?_,by simp[hfl]⟩,_,_,rfl⟩
  have em:mp xs pr=(if v2<v1 then v2 else v1,if v2>v1 then v2 else v1):=by
   unfold mp
   rw[List.getD_eq_getElem?_getD,List.getD_eq_getElem?_getD,g1,g2];rfl
  have ea:((ts.take (idx+1)).map (mp xs)).map pairD=((ts.take idx).map (mp xs)).map pairD++[pairD (if v2<v1 then v2 else v1,if v2>v1 then v2 else v1)]:=by
   rw[List.take_add_one,hpi,<-em];simp
  rw[ea]
  refine(pairs_samex xw (sn _ _ hf6) (DVs.same sn dv6)).snoc (.tup (SqT.of ?_) (.cons (.int _) (.cons (.int _) .nil)))
  rw[zbz hnf,zac]
 ·obtain⟨s2,⟨fl,hf6,dv6,hfl⟩,o3,o4,rfl⟩:=p
  rw[hlen',List.take_length]at dv6
  have hq:=mp_ok hsub hxl hps'
  rw[en]at hq
  have hq45:=pairs_len hq (by omega)
  obtain⟨its,e1',e2,e3⟩:=items_of dv6
  have hil2:its.length<=45:=by rw[<-List.length_map (f:=(·.2)),e2];exact hq45
  refine⟨_,rfl,a,_,_,.int n,rfl,rfl,s2.tup w1,rfl,_,rfl,tl,its.map (fun p=>(p.1,pl p.2)),rfl,?_,?_,by rw[List.length_map];omega,fun l1 its' hl1 hperm hsort=> ?_⟩
  ·rw[List.map_map]
   have:=SqL.of (K:=K) hf6
   rw[e1']at this
   exact this
  ·intro p hp
   obtain⟨p',hp',rfl⟩:=List.mem_map.mp hp
   exact⟨e3 p' hp',by unfold pl;simp⟩
  ·have s7:=zad hl1 (.lst (its'.map fun p=>V.ref p.1))
   refine⟨l1,_,rfl,.inl ⟨SqL.of zac,fun t1 ht1=>⟨(by show 2<=sizeLine;decide),fun wb hwb=> ?_⟩⟩⟩
   have s8:=zad ht1 (.tup (its'.map fun p=>V.ref p.1))
   have s9:=zad hwb (.tup [.int n,.ref t1])
   have s789:=s7.trans (s8.trans s9)
   let un:List Int->Int×Int:=fun l=>(l.getD 0 0,l.getD 1 0)
   have back:∀p∈its',∃q∈its,p=(q.1,pl q.2):=fun p hp=>by
    obtain⟨q,hq,e⟩:=List.mem_map.mp (hperm.mem_iff.mp hp)
    exact⟨q,hq,e.symm⟩
   have pts:(its'.map fun p=>un p.2).Perm (ts.map (mp xs)):=by
    have h1:=hperm.map (fun p:Addr×List Int=>un p.2)
    rw[List.map_map]at h1
    have h2:its.map ((fun p:Addr×List Int=>un p.2)∘fun p=>(p.1,pl p.2))=ts.map (mp xs):=by rw[<-e2];rfl
    rw[h2]at h1
    exact h1
   have pok:=hq.perm pts
   have psort:(its'.map fun p=>un p.2).Pairwise fun p q=>HT.lexLt (pl q) (pl p)=false:=by
    rw[List.pairwise_map]
    refine hsort.imp_of_mem fun{x y} hx hy hxy=> ?_
    obtain⟨qx,_,rfl⟩:=back x hx
    obtain⟨qy,_,rfl⟩:=back y hy
    exact hxy
   refine q wb (its'.map fun p=>un p.2) _ (s2.trans s789) ⟨⟨t1,its'.map (fun p=>V.ref p.1),SqT.of zac,SqT.of (s9 _ _ zac),?_⟩,h0,h1,pok,web_ok h0 h1 pok psort⟩
   have h1:=of_items (K:=K) (H:=upd (upd (upd H' l1 (.lst (its'.map fun p=>V.ref p.1))) t1 (.tup (its'.map fun p=>V.ref p.1))) wb (.tup [.int n,.ref t1])) (its'.map fun p=>(p.1,un p.2)) (fun p hp=>by
    obtain⟨p',hp',rfl⟩:=List.mem_map.mp hp
    obtain⟨q',hq',rfl⟩:=back p' hp'
    exact s789.tup (e3 q' hq'))
   have h2:(its'.map fun p=>(p.1,un p.2)).map (fun p=>V.ref p.1)=its'.map fun p=>V.ref p.1:=by rw[List.map_map];rfl
   have h3:(its'.map fun p=>(p.1,un p.2)).map (·.2)=its'.map fun p=>un p.2:=by rw[List.map_map];rfl
   rw[h2,h3]at h1
   exact h1
noncomputable def spRound(K:W.Frag):Sp:=fun vs H Q _=>∃(cp scr:Addr) (ns:List Int) (n b:Int),vs=[.ref cp,.int n]/\CupV K H cp scr ns b/\b<=800000000/\0<=n/\n<=10/\
 ∀r ts H',SameX cp H H'->CupV K H' cp scr ns (b+40)->WebIs K H' r n ts->Q (.ref r) H'
theorem sc_round:FnScope ["cup","n","far","ties","i","j"] ["cup","n"] (defScope zba):=⟨rfl,rfl,rfl,by decide+kernel,rfl,by decide+kernel,by decide+kernel⟩
theorem ok_round{f f1 f2 f3:Addr}{fd d1 d2 d3:FuncData}(F:Fun K "_law_e_round_web" "_law_e_round_web" zba f fd)(D1:Dfn K mg "_law_e_dip" zay ["cup","many"] f1 d1)(G1':FnOk P w K mg base CX0 2 f1 d1 ["cup","many"] (spDip K))(D2:Dfn K mg "_law_e_moved" zbm ["web","order"] f2 d2)(G2':FnOk P w K mg base CX0 1 f2 d2 ["web","order"] (spMoved K))(D3:Dfn K mg "_law_e_order" zbl ["cup","n"] f3 d3)(G3:FnOk P w K mg base CX0 3 f3 d3 ["cup","n"] (spOrder K))(m_range:mg "range"=none)(m_min:mg "min"=none)(m_tuple:mg "tuple"=none):
  FnOk P w K mg base CX0 4 f fd ["cup","n"] (spRound K):=by
 have G1:FnOk P w K mg base CX0 3 f1 d1 ["cup","many"] (spDip K):=G1'.mono (by decide)
 have G2:FnOk P w K mg base CX0 3 f2 d2 ["web","order"] (spMoved K):=G2'.mono (by decide)
 refine F.ok sc_round (fun vs H Q E h=> ?_) (fun cdv A outer s H vs Q E hr h=> ?_)
 ·obtain⟨cp,scr,ns,n,b,rfl,_⟩:=h
  rfl
 obtain⟨cp,scr,ns,n,b,rfl,hC,hb,n0,n1,q⟩:=h
 refine⟨_,(zae (ps_setComp (i:=2) (own:=["step"]) (caps:=["cup"]) (ix:=[0]) sc_round.nd rfl (Or.inl rfl) rfl (pi_range2 rfl m_range (zaa zaf (zaa (zan zbr (zan op_fdiv (pv 1) zaf) zaf) zab))) rfl rfl (.cons rfl rfl .nil) (fun _ _ _ _ _=>(zaj (i:=0) (show(["step","cup"]:List Str).Nodup from by decide+kernel) rfl (Or.inl rfl))) (fun _ _ _ _ _=>pts_one (zaq op_eq (zah G1 hr rfl D1.m D1.F.kp D1.b .nil pass0 (zaa (pv 1) (zaa zaf zab))) zaf (nomark _))) (fun _ _ _ _ _=>(pv 0))) (zae (zaw (i:=3) sc_round.nd rfl (Or.inl rfl) (zda zab)) (zae (zdh PassesOwn.never rfl (zbp rfl m_range (zaa (pv 1) zab)) (zaj (i:=4) sc_round.nd rfl (Or.inl rfl)) (zag (zdh PassesOwn.never rfl (pi_range2 rfl m_range (zaa (zan zbr (pv 4) zaf) (zaa (pv 1) zab))) (zaj (i:=5) sc_round.nd rfl (Or.inl rfl)) (zag (zcv (zaq (op_inD hr.units) (zai (call_min2 rfl) rfl m_min (by decide+kernel) (zaa (zan op_sub (pv 5) (pv 4)) (zaa (zan zbr (zan op_sub (pv 1) (pv 5)) (pv 4)) zab))) (pv 2) (by with_unfolding_all rfl)) (zag (zdi (pe_bm PySem.F.plainAttrs_list PySem.F.slot_list_append PySem.F.type_list_append mt_append (pv 3) (zaa (zbk (zaa (pv 4) (zaa (pv 5) zab))) zab)))) zbg))))) (zag (zak (zah G2 hr rfl D2.m D2.F.kp D2.b .nil pass0 (zaa (zbk (zaa (pv 1) (zaa (zcl zbn rfl m_tuple (by decide+kernel) (zaa (pv 3) zab)) zab))) (zaa (zah G3 hr rfl D3.m D3.F.kp D3.b .nil pass0 (zaa (pv 0) (zaa (pv 1) zab))) zab)))))))),?_⟩
 obtain⟨zc,hzc⟩:=hC.lst
 refine⟨_,rfl,_,_,rfl,rfl,⟨by decide,by decide⟩,_,_,rfl,rfl,_,_,rfl,⟨by decide,by decide,by omega,by omega⟩,?_⟩
 refine zch (lo:=1) (n:=(n/2+1-1).toNat) (fun k acc σ H'=>SameX cp H H'/\CupV K H' cp scr ns (b+(k:Int))/\(∃ys:List Int,acc=ys.map V.int/\ys.length<=k)/\∃o,σ=[o,some (.ref cp)]) ⟨SameX.refl _ _,hC.mono (by omega),⟨[],rfl,Nat.le_refl _⟩,_,rfl⟩ (fun k acc σ H' _ p=> ?_) (by rw[sizeLine_eq];omega) (fun k acc σ H' hk p=> ?_) (fun acc σ H' p=> ?_)
 ·obtain⟨_,_,⟨ys,rfl,hy⟩,_⟩:=p
  rw[List.length_map];exact hy
 ·obtain⟨x,c,⟨ys,rfl,hy⟩,o,rfl⟩:=p
  refine⟨_,rfl,cp,scr,ns,2,_,rfl,c,by omega,by decide,by decide,fun d H2 d0 d1 x2 c2=>⟨rfl,_,rfl,?_⟩⟩
  refine ite2 (fun e=> ?_) (fun e=> ?_)
  ·exact⟨_,rfl,x.trans x2,c2.mono (by omega),⟨ys++[1+(k:Int)],by rw[List.map_append];rfl,by rw[List.length_append];show _+1<=_;omega⟩,_,rfl⟩
  ·exact⟨x.trans x2,c2.mono (by omega),⟨ys,rfl,by omega⟩,_,rfl⟩
 ·obtain⟨x,c,⟨ys,rfl,hy⟩,_⟩:=p
  intro fa hfa
  obtain⟨z0,hz0⟩:=c.lst
  have nfc:fa≠cp:=none_ne' hz0 hfa
  have fa0:H fa=none:=x.free nfc hfa
  have s1:=zad hfa (.lst (ys.map V.int))
  have e1:(upd H' fa (.lst (ys.map V.int))) fa=some (.lst (ys.map V.int)):=zac
  have x1:=x.trans (s1.x cp)
  have c1:=c.same s1
  dsimp only at s1 e1 x1 c1⊢
  generalize upd H' fa (.lst (ys.map V.int))=H1 at *
  refine⟨(by show 0<=sizeLine;decide),fun tl htl=> ?_⟩
  have ntf:tl≠fa:=none_ne' e1 htl
  obtain⟨z1,hz1⟩:=c1.lst
  have ntc:tl≠cp:=none_ne' hz1 htl
  have tl0:H tl=none:=x1.free ntc htl
  have s2:=zad htl (.lst [])
  have c2:=c1.same s2
  have e2:=s2 _ _ e1
  have x2:=x1.trans (s2.x cp)
  have T2:TiesL K (upd H1 tl (.lst [])) tl (rows tt n 0) (fun _=>True):=TiesL.nil zac
  dsimp only at c2 e2 x2 T2⊢
  generalize upd H1 tl (.lst [])=H2 at *
  refine⟨_,rfl,n,rfl,by omega,by omega,?_⟩
  refine zcq (n:=n.toNat) (fun i σ H'=>SameX cp H H'/\CupV K H' cp scr ns (b+20)/\H' fa=some (.lst (ys.map V.int))/\TiesL K H' tl (rows tt n i) (fun _=>True)/\∃a4 a5,σ=[some (.ref cp),some (.int n),some (.ref fa),some (.ref tl),a4,a5])
   ⟨x2,c2.mono (by omega),e2,T2,_,_,rfl⟩ (fun i σ H3 hi p=> ?_) (fun σ H3 p=> ?_)
  ·obtain⟨x3,c3,e3,T3,a4,a5,rfl⟩:=p
   refine⟨_,rfl,_,_,rfl,rfl,_,rfl,_,_,rfl,⟨by omega,by omega,by omega,by omega⟩,?_⟩
   refine zcq (n:=(n-(0+(i:Int)+1)).toNat) (fun k σ H'=>SameX cp H H'/\CupV K H' cp scr ns (b+20)/\H' fa=some (.lst (ys.map V.int))/\TiesL K H' tl (rows tt n i++row tt (0+(i:Int)) k) (fun _=>True)/\∃a5,σ=[some (.ref cp),some (.int n),some (.ref fa),some (.ref tl),some (.int (0+(i:Int))),a5])
    ⟨x3,c3,e3,by rw[show row tt (0+(i:Int)) 0=[]from rfl,List.append_nil];exact T3,_,rfl⟩ (fun k σ H4 hk p=> ?_) (fun σ H4 p=> ?_)
   ·obtain⟨x4,c4,e4,T4,a5,rfl⟩:=p
    have er:rows tt n i++row tt (0+(i:Int)) (k+1)=(rows tt n i++row tt (0+(i:Int)) k)++[(0+(i:Int),0+(i:Int)+1+(k:Int))]:=by rw[row_succ,if_pos (show tt _ _=true from rfl),List.append_assoc]
    refine⟨_,rfl,_,rfl,_,_,rfl,rfl,_,rfl,_,rfl,_,_,rfl,rfl,_,rfl,_,_,rfl,rfl,_,_,rfl,?_⟩
    refine⟨_,rfl,fa,_,ys.map PyData.int,.int _,rfl,.inl (SqL.of e4),DVs.ints ys,.int _,zcw ys,rfl,(by show 0<=60;decide),_,rfl,?_⟩
    refine ite2 (fun c=> ?_) (fun c=> ?_)
    ·obtain⟨rs,ts,h1,h2,h3,h4⟩:=T4
     have hl:=sub_len n1 (by omega) h3
     have hrl:rs.length=ts.length:=by have:=h2.len;rwa [List.length_map]at this
     refine⟨_,rfl,.inl ⟨rfl,_,SqL.of h1⟩,_,rfl,_,rfl,(by show 2<=sizeLine;decide),fun p hp=> ?_⟩
     have s5:=zad hp (.tup [.int (0+(i:Int)),.int (0+(i:Int)+1+(k:Int))])
     have h1':=s5 _ _ h1
     refine⟨tl,rs,_,rfl,rfl,h1',by rw[hrl,sizeLine_eq];omega,?_⟩
     have x6:SameX tl (upd H4 p (.tup [.int (0+(i:Int)),.int (0+(i:Int)+1+(k:Int))])) (upd (upd H4 p (.tup [.int (0+(i:Int)),.int (0+(i:Int)+1+(k:Int))])) tl (.lst (rs++[.ref p]))):=(SameX.refl _ _).upd
     refine⟨fun y o a1 h=> ?_,(c4.same s5).other x6 h1' ntc.symm,x6 _ _ ntf.symm (s5 _ _ e4),?_,_,rfl⟩
     ·have a2:y≠tl:=fun z=>by rw[z,tl0]at h;cases h
      exact x6 _ _ a2 (s5 _ _ (x4 _ _ a1 h))
     ·rw[er]
      exact TiesL.push h1' (h2.same s5) h3 h4 (SqT.of zac) trivial
    ·exact⟨x4,c4,e4,by rw[er];exact T4.mono (List.sublist_append_left _ _),_,rfl⟩
   ·obtain⟨x4,c4,e4,T4,a5,rfl⟩:=p
    refine⟨x4,c4,e4,?_,_,_,rfl⟩
    rw[rows_succ];exact T4
  ·obtain⟨x3,c3,e3,⟨rs,ts,h1,h2,h3,_⟩,a4,a5,rfl⟩:=p
   have hw:=web_of_sub n0 n1 h3
   refine⟨_,rfl,_,rfl,tl,_,rfl,.inl ⟨SqL.of h1,fun tt' htt=> ?_⟩⟩
   have s4:=zad htt (.tup rs)
   refine⟨(by show 2<=sizeLine;decide),fun wb hwb=> ?_⟩
   have s5:=zad hwb (.tup [.int n,.ref tt'])
   have W:WebIs K _ wb n ts:=⟨⟨tt',rs,SqT.of zac,s5.tup (SqT.of zac),(h2.same s4).same s5⟩,n0,n1,hw.1,hw.2⟩
   have c5:=(c3.same s4).same s5
   obtain⟨z5,hz5⟩:=c5.lst
   refine⟨_,rfl,_,rfl,cp,scr,ns,n,_,rfl,c5,by omega,n0,n1,fun r xs H6 x6 c6 hr hp=> ?_⟩
   refine⟨wb,r,n,ts,xs,rfl,W.samex x6 hz5,hr,hp,fun r2 us H7 s7 W7=> ?_⟩
   exact q r2 us H7 (((x3.trans (s4.x _)).trans (s5.x _)).trans (x6.trans (s7.x _))) ((c6.same s7).mono (by omega)) W7
end
end Hs
namespace Hs
open PySem L2 HsD
section
variable{P:Program}{w:World}{K:W.Frag}{mg:Str->Option Value}{base:Heap}
noncomputable def spEWeb(K:W.Frag):Sp:=fun vs H Q _=>∃(cp scr:Addr) (ns:List Int) (m b:Int),vs=[.ref cp,.int m]/\CupV K H cp scr ns b/\b<=800000000/\0<=m/\m<=10/\
 ∀r n ts H',SameX cp H H'->CupV K H' cp scr ns (b+121)->WebIs K H' r n ts->Q (.ref r) H'
theorem sc_eweb:FnScope ["cup","most","n"] ["cup","most"] (defScope zci):=⟨rfl,rfl,rfl,by decide+kernel,rfl,by decide+kernel,by decide+kernel⟩
theorem ok_eweb{f f1 f2:Addr}{fd d1 d2:FuncData}(F:Fun K "_law_e_web" "_law_e_web" zci f fd)(D1:Dfn K mg "_law_e_dip" zay ["cup","many"] f1 d1)(G1':FnOk P w K mg base CX0 2 f1 d1 ["cup","many"] (spDip K))(D2:Dfn K mg "_law_e_web_of" zbo ["cup","n"] f2 d2)(G2:FnOk P w K mg base CX0 3 f2 d2 ["cup","n"] (spWebOf K)):
  FnOk P w K mg base CX0 4 f fd ["cup","most"] (spEWeb K):=by
 have G1:FnOk P w K mg base CX0 3 f1 d1 ["cup","many"] (spDip K):=G1'.mono (by decide)
 refine F.ok sc_eweb (fun vs H Q E h=> ?_) (fun cdv A outer s H vs Q E hr h=> ?_)
 ·obtain⟨cp,scr,ns,m,b,rfl,_⟩:=h
  rfl
 obtain⟨cp,scr,ns,m,b,rfl,hC,hb,hm0,hm1,q⟩:=h
 refine⟨_,(zae (zaw (i:=2) sc_eweb.nd rfl (Or.inl rfl) (zah G1 hr rfl D1.m D1.F.kp D1.b .nil pass0 (zaa (pv 0) (zaa (zan zbr (pv 1) zaf) zab)))) (zag (zak (zah G2 hr rfl D2.m D2.F.kp D2.b .nil pass0 (zaa (pv 0) (zaa (pv 2) zab)))))),?_⟩
 refine⟨_,rfl,_,rfl,_,_,rfl,rfl,cp,scr,ns,_,b,rfl,hC,by omega,by omega,by omega,fun o H1 ho0 ho1 x1 c1=> ?_⟩
 refine⟨_,rfl,_,rfl,cp,scr,ns,o,b+1,rfl,c1,by omega,ho0,by omega,fun r ts H2 x2 c2 W=>q r o ts H2 (x1.trans x2) (c2.mono (by omega)) W⟩
end
end Hs
namespace Hs
open PySem L2 HsD
section
variable{P:Program}{w:World}{K:W.Frag}{mg:Str->Option Value}{base:Heap}
theorem srt_web{H:Hp}{its:List (Addr×(Int×Int))}{its':List (Addr×List Int)}{n:Int}{t1 wb:Addr}(h0:0<=n)(h1:n<=10)(hq:PairsOk n (its.map (·.2)))(hperm:its'.Perm (its.map fun p=>(p.1,pl p.2)))(hsort:its'.Pairwise fun p q=>HT.lexLt q.2 p.2=false)(e3:∀p∈its,SqT K H p.1 ((pl p.2).map V.int))(hwb:SqT K H wb [.int n,.ref t1])(ht1:SqT K H t1 (its'.map fun p=>V.ref p.1)):∃us,WebIs K H wb n us:=by
 let un:List Int->Int×Int:=fun l=>(l.getD 0 0,l.getD 1 0)
 have back:∀p∈its',∃q∈its,p=(q.1,pl q.2):=fun p hp=>by
  obtain⟨q,hq,e⟩:=List.mem_map.mp (hperm.mem_iff.mp hp)
  exact⟨q,hq,e.symm⟩
 have pts:(its'.map fun p=>un p.2).Perm (its.map (·.2)):=by
  have h1:=hperm.map (fun p:Addr×List Int=>un p.2)
  rw[List.map_map]at h1
  have h2:its.map ((fun p:Addr×List Int=>un p.2)∘fun p=>(p.1,pl p.2))=its.map (·.2):=rfl
  rw[h2]at h1
  exact h1
 have pok:=hq.perm pts
 have psort:(its'.map fun p=>un p.2).Pairwise fun p q=>HT.lexLt (pl q) (pl p)=false:=by
  rw[List.pairwise_map]
  refine hsort.imp_of_mem fun{x y} hx hy hxy=> ?_
  obtain⟨qx,_,rfl⟩:=back x hx
  obtain⟨qy,_,rfl⟩:=back y hy
  exact hxy
 refine⟨its'.map fun p=>un p.2,⟨t1,its'.map (fun p=>V.ref p.1),hwb,ht1,?_⟩,h0,h1,pok,web_ok h0 h1 pok psort⟩
 have h1:=of_items (K:=K) (H:=H) (its'.map fun p=>(p.1,un p.2)) (fun p hp=>by
  obtain⟨p',hp',rfl⟩:=List.mem_map.mp hp
  obtain⟨q',hq',rfl⟩:=back p' hp'
  exact e3 q' hq')
 have h2:(its'.map fun p=>(p.1,un p.2)).map (fun p=>V.ref p.1)=its'.map fun p=>V.ref p.1:=by rw[List.map_map];rfl
 have h3:(its'.map fun p=>(p.1,un p.2)).map (·.2)=its'.map fun p=>un p.2:=by rw[List.map_map];rfl
 rw[h2,h3]at h1
 exact h1
noncomputable def sh(n:Int)(p:Int×Int):Int×Int:=(p.1+n,p.2+n)
theorem side_ok{n m:Int}{ts us:List (Int×Int)}(h0:0<=n)(g0:0<=m)(hnm:n+m<=10)(ht:PairsOk n ts)(hu:PairsOk m us)(st:ts.Pairwise lt2)(su:us.Pairwise lt2):PairsOk (n+m) (ts++us.map (sh n))/\WebOk (n+m) (ts++us.map (sh n)):=by
 have hs:(ts++us.map (sh n)).Pairwise lt2:=by
  refine List.pairwise_append.mpr ⟨st,?_,fun p hp q hq=> ?_⟩
  ·rw[List.pairwise_map]
   exact su.imp fun{a b} h=>by
    unfold lt2 at h⊢
    unfold sh
    dsimp only
    omega
  ·obtain⟨q',hq',rfl⟩:=List.mem_map.mp hq
   have:=ht.lt p hp
   have:=hu.lt q' hq'
   unfold lt2 sh
   dsimp only
   omega
 have ho:PairsOk (n+m) (ts++us.map (sh n)):=⟨nodup_lt2 hs,fun p hp=>by
  rcases List.mem_append.mp hp with z|z
  ·have:=ht.lt p z;omega
  ·obtain⟨q',hq',rfl⟩:=List.mem_map.mp z
   have:=hu.lt q' hq'
   unfold sh
   dsimp only
   omega⟩
 exact⟨ho,web_ok (by omega) hnm ho (hs.imp lt2_lex)⟩
noncomputable def spSide(K:W.Frag):Sp:=fun vs H Q _=>∃(a b:Addr) (n m:Int) (ts us:List (Int×Int)),vs=[.ref a,.ref b]/\WebIs K H a n ts/\WebIs K H b m us/\n+m<=10/\∀r vs' H',Same H H'->WebIs K H' r (n+m) vs'->Q (.ref r) H'
theorem sc_side:FnScope ["one","other","more"] ["one","other"] (defScope zal):=⟨rfl,rfl,rfl,by decide+kernel,rfl,by decide+kernel,by decide+kernel⟩
theorem ok_side{f:Addr}{fd:FuncData}(F:Fun K "_law_e_side_by_side" "_law_e_side_by_side" zal f fd)(m_tuple:mg "tuple"=none)(m_list:mg "list"=none):
  FnOk P w K mg base CX0 1 f fd ["one","other"] (spSide K):=by
 refine F.ok sc_side (fun vs H Q E h=> ?_) (fun cdv A outer s H vs Q E hr h=> ?_)
 ·obtain⟨a,b,n,m,ts,us,rfl,_⟩:=h
  rfl
 obtain⟨a,b,n,m,ts,us,rfl,hA,hB,hnm,q⟩:=h
 refine⟨_,(zae (ps_setComp (i:=2) (own:=["i","j"]) (caps:=["one"]) (ix:=[0]) sc_side.nd rfl (Or.inl rfl) rfl (pi_tupL (zat zar (pv 1) zaf (fun _ _=>rfl))) rfl rfl (.cons rfl rfl .nil) (fun _ _ _ _ _=>(pg_tupK K (n:=2) rfl (pgs_cons (zaj (i:=0) (show(["i","j","one"]:List Str).Nodup from by decide+kernel) rfl (Or.inl rfl)) (pgs_cons (zaj (i:=1) (show(["i","j","one"]:List Str).Nodup from by decide+kernel) rfl (Or.inl rfl)) pgs_nil)))) (fun _ _ _ _ _=>zcx) (fun _ _ _ _ _=>(zbk (zaa (zan zbr (pv 0) (zat (ix_tupK K) (pv 2) zaf (fun _ _=>rfl))) (zaa (zan zbr (pv 1) (zat (ix_tupK K) (pv 2) zaf (fun _ _=>rfl))) zab))))) (zag (zak (zbk (zaa (zan zbr (zat zar (pv 0) zaf (fun _ _=>rfl)) (zat zar (pv 1) zaf (fun _ _=>rfl))) (zaa (zcl zbn rfl m_tuple (by decide+kernel) (zaa (zan op_cat (zcl call_list_of rfl m_list (by decide+kernel) (zaa (zat zar (pv 0) zaf (fun _ _=>rfl)) zab)) (pv 2)) zab)) zab)))))),?_⟩
 obtain⟨t,rs,w1,w2,w3⟩:=id hA.web
 obtain⟨u,rsu,y1,y2,y3⟩:=id hB.web
 have hrs:rsu.length=us.length:=by have:=y3.len;rw[List.length_map]at this;exact this
 have l1:=hA.len
 have l2:=hB.len
 refine⟨_,rfl,b,_,_,.ref u,rfl,rfl,y1,rfl,u,rsu,rfl,y2,fun hz=> ?_⟩
 refine comp_tup (xs:=rsu) (fun i acc σ H'=>DVs K H' acc (((us.take i).map (sh n)).map pairD)/\Same H H'/\∃o1 o2,σ=[o1,o2,some (.ref a)]) ⟨.nil,Same.refl _,_,_,rfl⟩ (fun i acc σ H' _ p=>p.2.1.tup y2) (fun i acc σ H' _ p=> ?_) hz (fun i x acc σ H' hx p=> ?_) (fun acc σ H' p=> ?_)
 ·rw[p.1.len,List.length_map,List.length_map,List.length_take];exact Nat.min_le_left _ _
 ·obtain⟨hD,sm,o1,o2,rfl⟩:=p
  obtain⟨t',hi,rfl,ht⟩:=pair_at y3 hx
  refine⟨t',_,rfl,sm.tup ht,rfl,_,_,rfl,_,_,rfl,rfl,?_⟩
  refine⟨_,rfl,_,rfl,a,_,_,.int n,rfl,rfl,sm.tup w1,rfl,_,_,rfl,rfl,_,rfl,_,rfl,a,_,_,.int n,rfl,rfl,sm.tup w1,rfl,_,_,rfl,rfl,(by show 2<=sizeLine;decide),fun p hp=> ?_⟩
  have sn:=zad hp (.tup [.int ((us[i]).1+n),.int ((us[i]).2+n)])
  refine⟨?_,sm.trans sn,_,_,rfl⟩
  have ea:((us.take (i+1)).map (sh n)).map pairD=((us.take i).map (sh n)).map pairD++[pairD (sh n us[i])]:=by
   rw[List.take_add_one,List.getElem?_eq_getElem hi,List.map_append,List.map_append];rfl
  rw[ea]
  exact(hD.same sn).snoc (.tup (SqT.of zac) (.cons (.int _) (.cons (.int _) .nil)))
 ·obtain⟨hD,sm,_⟩:=p
  rw[hrs,List.take_length]at hD
  intro p1 hp1
  have s1:=sm.trans (zad hp1 (.lst acc))
  have hp1':(upd H' p1 (.lst acc)) p1=some (.lst acc):=zac
  have hD1:=hD.same (zad hp1 (.lst acc))
  have hl:acc.length=us.length:=by rw[hD.len,List.length_map,List.length_map]
  try dsimp only at s1 hp1' hD1
  generalize upd H' p1 (.lst acc)=H1 at *
  refine⟨_,rfl,a,_,_,.int n,rfl,rfl,s1.tup w1,rfl,_,rfl,b,_,_,.int m,rfl,rfl,s1.tup y1,rfl,_,_,rfl,rfl,_,rfl,a,_,_,.ref t,rfl,rfl,s1.tup w1,rfl,t,_,rfl,.inr (s1.tup w2),fun l hl1=> ?_⟩
  have s2:=zad hl1 (.lst rs)
  have hrl:rs.length=ts.length:=by have:=w3.len;rw[List.length_map]at this;exact this
  refine⟨_,rfl,l,p1,_,_,rfl,rfl,zac,s2 _ _ hp1',by rw[hrl,hl,sizeLine_eq];omega,fun l2 hl2=> ?_⟩
  have s3:=zad hl2 (.lst (rs++acc))
  refine⟨l2,_,rfl,.inl ⟨SqL.of zac,fun t2 ht2=>⟨(by show 2<=sizeLine;decide),fun wb hwb=> ?_⟩⟩⟩
  have s4:=zad ht2 (.tup (rs++acc))
  have s5:=zad hwb (.tup [.int (n+m),.ref t2])
  have s25:=s2.trans (s3.trans (s4.trans s5))
  obtain⟨o1,o2⟩:=side_ok hA.h0 hB.h0 hnm hA.pk hB.pk hA.srt hB.srt
  refine q wb (ts++us.map (sh n)) _ (s1.trans s25) ⟨⟨t2,rs++acc,SqT.of zac,SqT.of (s5 _ _ zac),?_⟩,by have:=hA.h0;have:=hB.h0;omega,hnm,o1,o2⟩
  rw[List.map_append]
  exact(w3.same (s1.trans s25)).append (hD1.same s25)
theorem ring_ok{n:Int}(h3:3<=n):PairsOk n ((0,n-1)::(rgI (n-1).toNat).map fun k=>(k,k+1)):=by
 refine⟨List.nodup_cons.mpr ⟨fun z=> ?_,?_⟩,fun p hp=> ?_⟩
 ·obtain⟨k,hk,e⟩:=List.mem_map.mp z
  injection e with e1 e2
  omega
 ·unfold List.Nodup
  rw[List.pairwise_map]
  have:(rgI (n-1).toNat).Nodup:=by
   unfold rgI List.Nodup
   rw[List.pairwise_map]
   exact List.nodup_range.imp fun h e=>h (by omega)
  exact this.imp fun{a b} h e=>h (by injection e)
 ·rcases List.mem_cons.mp hp with z|z
  ·rw[z];dsimp only;omega
  ·obtain⟨k,hk,rfl⟩:=List.mem_map.mp z
   have:=zcm.mp hk
   dsimp only
   omega
noncomputable def spRingOf(K:W.Frag):Sp:=fun vs H Q _=>∃(n:Int),vs=[.int n]/\3<=n/\n<=10/\∀r ts H',Same H H'->WebIs K H' r n ts->Q (.ref r) H'
theorem sc_ringof:FnScope ["n"] ["n"] (defScope zbb):=⟨rfl,rfl,rfl,by decide+kernel,rfl,by decide+kernel,by decide+kernel⟩
theorem ok_ringof{f:Addr}{fd:FuncData}(F:Fun K "_law_e_ring_of" "_law_e_ring_of" zbb f fd)(m_tuple:mg "tuple"=none)(m_sorted:mg "sorted"=none)(m_range:mg "range"=none):
  FnOk P w K mg base CX0 1 f fd ["n"] (spRingOf K):=by
 refine F.ok sc_ringof (fun vs H Q E h=> ?_) (fun cdv A outer s H vs Q E hr h=> ?_)
 ·obtain⟨n,rfl,_⟩:=h
  rfl
 obtain⟨n,rfl,h3,h10,q⟩:=h
 refine⟨_,(zag (zak (zbk (zaa (pv 0) (zaa (zcl zbn rfl m_tuple (by decide+kernel) (zaa (zai call_sortedT rfl m_sorted (by decide+kernel) (zaa (zan op_cat (zda (zaa (zbk (zaa zaf (zaa (zan op_sub (pv 0) zaf) zab))) zab)) (zck (own:=["place"]) (caps:=[]) (ix:=[]) rfl (zbp rfl m_range (zaa (zan op_sub (pv 0) zaf) zab)) rfl rfl .nil (fun _ _ _ _ _=>(zaj (i:=0) (show(["place"]:List Str).Nodup from by decide+kernel) rfl (Or.inl rfl))) (fun _ _ _ _ _=>zcx) (fun _ _ _ _ _=>(zbk (zaa (pv 0) (zaa (zan zbr (pv 0) zaf) zab)))))) zab)) zab)) zab))))),?_⟩
 refine⟨_,rfl,_,rfl,_,_,rfl,rfl,(by show 2<=sizeLine;decide),fun t0 ht0=> ?_⟩
 have s1:=zad ht0 (.tup [.int 0,.int (n-1)])
 have k0:(upd H t0 (.tup [.int 0,.int (n-1)])) t0=some (.tup ((pl ((0:Int),n-1)).map V.int)):=zac
 try dsimp only at s1 k0
 generalize upd H t0 (.tup [.int 0,.int (n-1)])=H1 at *
 refine⟨(by show 1<=sizeLine;decide),fun l0 hl0=> ?_⟩
 have s2:=zad hl0 (.lst [.ref t0])
 have kl:(upd H1 l0 (.lst [.ref t0])) l0=some (.lst [.ref t0]):=zac
 have k0':=s2 _ _ k0
 try dsimp only at s2 kl k0'
 generalize upd H1 l0 (.lst [.ref t0])=H2 at *
 refine⟨_,rfl,_,_,rfl,rfl,n-1,rfl,by omega,by omega,?_⟩
 refine zch (lo:=0) (n:=(n-1).toNat) (fun k acc σ H'=>DVs K H' acc (((rgI k).map fun k=>(k,k+1)).map pairD)/\Same H2 H'/\∃o,σ=[o]) ⟨.nil,Same.refl _,_,rfl⟩ (fun k acc σ H' _ p=>by rw[p.1.len,List.length_map,List.length_map];unfold rgI;rw[List.length_map,List.length_range];exact Nat.le_refl _) (by rw[sizeLine_eq];omega) (fun k acc σ H' hk p=> ?_) (fun acc σ H' p=> ?_)
 ·obtain⟨hD,sm,o,rfl⟩:=p
  refine⟨_,rfl,_,rfl,_,_,rfl,rfl,(by show 2<=sizeLine;decide),fun p hp=> ?_⟩
  have sn:=zad hp (.tup [.int (0+(k:Int)),.int (0+(k:Int)+1)])
  refine⟨?_,sm.trans sn,_,rfl⟩
  have ea:((rgI (k+1)).map fun k=>(k,k+1)).map pairD=((rgI k).map fun k=>(k,k+1)).map pairD++[pairD (0+(k:Int),0+(k:Int)+1)]:=by
   rw[rgI_succ,List.map_append,List.map_append,Int.zero_add];rfl
  rw[ea]
  exact(hD.same sn).snoc (.tup (SqT.of zac) (.cons (.int _) (.cons (.int _) .nil)))
 ·obtain⟨hD,sm,_⟩:=p
  intro p1 hp1
  have s3:=sm.trans (zad hp1 (.lst acc))
  have hp1':(upd H' p1 (.lst acc)) p1=some (.lst acc):=zac
  have hD1:=hD.same (zad hp1 (.lst acc))
  have hl:acc.length<=10:=by rw[hD.len,List.length_map,List.length_map];unfold rgI;rw[List.length_map,List.length_range];omega
  try dsimp only at s3 hp1' hD1
  generalize upd H' p1 (.lst acc)=H3 at *
  refine⟨l0,p1,_,_,rfl,rfl,s3 _ _ kl,hp1',by rw[sizeLine_eq];show 1+_<=_;omega,fun l2 hl2=> ?_⟩
  have s4:=zad hl2 (.lst ([.ref t0]++acc))
  obtain⟨its,i1,i2,i3⟩:=items_of hD1
  have hil:its.length<=10:=by
   have:=congrArg List.length i1
   rw[List.length_map]at this;omega
  have eit:([V.ref t0]++acc)=((t0,((0:Int),n-1))::its).map fun p=>V.ref p.1:=by rw[i1];rfl
  have hl24:(upd H3 l2 (.lst ([.ref t0]++acc))) l2=some (.lst (((t0,((0:Int),n-1))::its).map fun p=>V.ref p.1)):=by rw[zac,eit]
  have E4:∀p∈((t0,((0:Int),n-1))::its),SqT K (upd H3 l2 (.lst ([.ref t0]++acc))) p.1 ((pl p.2).map V.int):=fun p hp=>by
   rcases List.mem_cons.mp hp with z|z
   ·rw[z];exact(s3.trans s4).tup (SqT.of k0')
   ·exact s4.tup (i3 p z)
  have hq:PairsOk n (((t0,((0:Int),n-1))::its).map (·.2)):=by
   rw[List.map_cons,i2];exact ring_ok h3
  generalize ((t0,((0:Int),n-1))::its)=jts at *
  have hjl:jts.length<=11:=by
   have:=congrArg List.length eit
   rw[List.length_append,List.length_map]at this
   simp only[List.length_singleton]at this
   omega
  try dsimp only at s4 hl24 E4
  generalize upd H3 l2 (.lst ([.ref t0]++acc))=H4 at *
  refine⟨l2,jts.map (fun p=>(p.1,pl p.2)),rfl,by rw[List.map_map];exact SqL.of hl24,fun p hp=> ?_,by rw[List.length_map];omega,fun l1 its' hl1 hperm hsort=> ?_⟩
  ·obtain⟨p',hp',rfl⟩:=List.mem_map.mp hp
   exact⟨E4 p' hp',by unfold pl;simp⟩
  have s7:=zad hl1 (.lst (its'.map fun p=>V.ref p.1))
  refine⟨l1,_,rfl,.inl ⟨SqL.of zac,fun t1 ht1=>⟨(by show 2<=sizeLine;decide),fun wb hwb=> ?_⟩⟩⟩
  have s8:=zad ht1 (.tup (its'.map fun p=>V.ref p.1))
  have s9:=zad hwb (.tup [.int n,.ref t1])
  have s79:=s7.trans (s8.trans s9)
  obtain⟨us,W⟩:=srt_web (K:=K) (by omega) h10 hq hperm hsort (fun p hp=>s79.tup (E4 p hp)) (SqT.of zac) (SqT.of (s9 _ _ zac))
  exact q wb us _ (s1.trans (s2.trans (s3.trans (s4.trans s79)))) W
noncomputable def spTwo(K:W.Frag):Sp:=fun vs H Q _=>∃(cp scr:Addr) (ns:List Int) (b:Int),vs=[.ref cp]/\CupV K H cp scr ns b/\b<=800000000/\∀r n ts H',SameX cp H H'->CupV K H' cp scr ns (b+2)->WebIs K H' r n ts->Q (.ref r) H'
theorem sc_two:FnScope ["cup","n"] ["cup"] (defScope zaz):=⟨rfl,rfl,rfl,by decide+kernel,rfl,by decide+kernel,by decide+kernel⟩
theorem ok_two{f f1 f2 f3:Addr}{fd d1 d2 d3:FuncData}(F:Fun K "_law_e_two_rings" "_law_e_two_rings" zaz f fd)(D1:Dfn K mg "_law_e_dip" zay ["cup","many"] f1 d1)(G1:FnOk P w K mg base CX0 2 f1 d1 ["cup","many"] (spDip K))(D2:Dfn K mg "_law_e_side_by_side" zal ["one","other"] f2 d2)(G2':FnOk P w K mg base CX0 1 f2 d2 ["one","other"] (spSide K))(D3:Dfn K mg "_law_e_ring_of" zbb ["n"] f3 d3)(G3':FnOk P w K mg base CX0 1 f3 d3 ["n"] (spRingOf K)):
  FnOk P w K mg base CX0 3 f fd ["cup"] (spTwo K):=by
 have G2:FnOk P w K mg base CX0 2 f2 d2 ["one","other"] (spSide K):=G2'.mono (by decide)
 have G3:FnOk P w K mg base CX0 2 f3 d3 ["n"] (spRingOf K):=G3'.mono (by decide)
 refine F.ok sc_two (fun vs H Q E h=> ?_) (fun cdv A outer s H vs Q E hr h=> ?_)
 ·obtain⟨cp,scr,ns,b,rfl,_⟩:=h
  rfl
 obtain⟨cp,scr,ns,b,rfl,hC,hb,q⟩:=h
 refine⟨_,(zae (zaw (i:=1) sc_two.nd rfl (Or.inl rfl) (zan zbr zaf (zah G1 hr rfl D1.m D1.F.kp D1.b .nil pass0 (zaa (pv 0) (zaa zaf zab))))) (zag (zak (zah G2 hr rfl D2.m D2.F.kp D2.b .nil pass0 (zaa (zah G3 hr rfl D3.m D3.F.kp D3.b .nil pass0 (zaa (pv 1) zab)) (zaa (zah G3 hr rfl D3.m D3.F.kp D3.b .nil pass0 (zaa (zan zbr (zan zbr (pv 1) zaf) (zah G1 hr rfl D1.m D1.F.kp D1.b .nil pass0 (zaa (pv 0) (zaa (zan op_sub zaf (zan zdj zaf (pv 1))) zab)))) zab)) zab)))))),?_⟩
 refine⟨_,rfl,cp,scr,ns,2,b,rfl,hC,by omega,by decide,by decide,fun r H1 r0 r2 x1 hC1=>⟨_,_,rfl,rfl,?_⟩⟩
 refine⟨_,rfl,3+r,rfl,by omega,by omega,fun a1 ts1 H2 s2 W1=> ?_⟩
 refine⟨_,rfl,_,_,rfl,rfl,_,rfl,_,rfl,_,_,rfl,rfl,.inl ⟨by decide,by decide⟩,_,_,rfl,rfl,cp,scr,ns,_,b+1,rfl,hC1.same s2,by omega,by omega,by omega,fun r' H3 r0' r2' x3 hC3=> ?_⟩
 refine⟨_,_,rfl,rfl,_,rfl,by omega,by omega,fun a2 ts2 H4 s4 W2=> ?_⟩
 obtain⟨zs,hz⟩:=(hC1.same s2).lst
 have W1':=(W1.samex x3 hz).same s4
 refine⟨a1,a2,_,_,ts1,ts2,rfl,W1',W2,by omega,fun r9 vs' H5 s5 W=> ?_⟩
 have e:b+1+1=b+2:=by omega
 rw[e]at hC3
 exact q r9 _ vs' H5 ((x1.trans (s2.x cp)).trans (x3.trans ((s4.trans s5).x cp))) (hC3.same (s4.trans s5)) W
end
end Hs
namespace Hs
open PySem L2 HsD
section
variable{P:Program}{w:World}{K:W.Frag}{mg:Str->Option Value}{base:Heap}
theorem eqv_pair(p q:Int×Int):PyData.eqv (pairD p) (pairD q)=decide (p=q):=by
 have:=any_pair [p] q
 simp only[List.map_cons,List.map_nil,List.any_cons,List.any_nil,Bool.or_false,List.mem_singleton]at this
 rw[this]
 by_cases e:q=p
 ·rw[decide_eq_true e,decide_eq_true e.symm]
 ·rw[decide_eq_false e,decide_eq_false fun z=>e z.symm]
theorem mod_other{i d n:Int}(i0:0<=i)(i1:i<n)(d0:0<=d)(d1:d<n-1):(i+1+d) %n≠i:=by
 by_cases c:i+1+d<n
 ·rw[Int.emod_eq_of_lt (by omega) c];omega
 ·have e:i+1+d=(i+1+d-n)+n:=by omega
  rw[e,Int.add_emod_right,Int.emod_eq_of_lt (by omega) (by omega)];omega
noncomputable def spBent(K:W.Frag):Sp:=fun vs H Q _=>∃(cp scr a:Addr) (ns:List Int) (n b:Int) (ts:List (Int×Int)),vs=[.ref cp,.ref a]/\CupV K H cp scr ns b/\b<=800000000/\WebIs K H a n ts/\2<=n/\∀r us H',SameX cp H H'->CupV K H' cp scr ns (b+2)->WebIs K H' r n us->Q (.ref r) H'
theorem sc_bent:FnScope ["cup","web","i","j","pair"] ["cup","web"] (defScope zcc):=⟨rfl,rfl,rfl,by decide+kernel,rfl,by decide+kernel,by decide+kernel⟩
theorem ok_bent{f f1:Addr}{fd d1:FuncData}(F:Fun K "_law_e_bent" "_law_e_bent" zcc f fd)(D1:Dfn K mg "_law_e_dip" zay ["cup","many"] f1 d1)(G1:FnOk P w K mg base CX0 2 f1 d1 ["cup","many"] (spDip K))(m_min:mg "min"=none)(m_max:mg "max"=none)(m_tuple:mg "tuple"=none)(m_sorted:mg "sorted"=none):
  FnOk P w K mg base CX0 3 f fd ["cup","web"] (spBent K):=by
 refine F.ok sc_bent (fun vs H Q E h=> ?_) (fun cdv A outer s H vs Q E hr h=> ?_)
 ·obtain⟨cp,scr,a,ns,n,b,ts,rfl,_⟩:=h
  rfl
 obtain⟨cp,scr,a,ns,n,b,ts,rfl,hC,hb,hW,hn2,q⟩:=h
 refine⟨_,(zae (zaw (i:=2) sc_bent.nd rfl (Or.inl rfl) (zah G1 hr rfl D1.m D1.F.kp D1.b .nil pass0 (zaa (pv 0) (zaa (zat zar (pv 1) zaf (fun _ _=>rfl)) zab)))) (zae (zaw (i:=3) sc_bent.nd rfl (Or.inl rfl) (zan op_mod (zan zbr (zan zbr (pv 2) zaf) (zah G1 hr rfl D1.m D1.F.kp D1.b .nil pass0 (zaa (pv 0) (zaa (zan op_sub (zat zar (pv 1) zaf (fun _ _=>rfl)) zaf) zab)))) (zat zar (pv 1) zaf (fun _ _=>rfl)))) (zae (zaw (i:=4) sc_bent.nd rfl (Or.inr rfl) (zbk (zaa (zai (call_min2 rfl) rfl m_min (by decide+kernel) (zaa (pv 2) (zaa (pv 3) zab))) (zaa (zai (call_max2 rfl) rfl m_max (by decide+kernel) (zaa (pv 2) (zaa (pv 3) zab))) zab)))) (zae (zcv (zaq (op_inD hr.units) (pv 4) (zat zar (pv 1) zaf (fun _ _=>rfl)) (by with_unfolding_all rfl)) (zag (zak (zbk (zaa (zat zar (pv 1) zaf (fun _ _=>rfl)) (zaa (zcl zbn rfl m_tuple (by decide+kernel) (zaa (zck (own:=["tie"]) (caps:=["pair"]) (ix:=[4]) rfl (pi_tupL (zat zar (pv 1) zaf (fun _ _=>rfl))) rfl rfl (.cons rfl rfl .nil) (fun _ _ _ _ _=>(zaj (i:=0) (show(["tie","pair"]:List Str).Nodup from by decide+kernel) rfl (Or.inl rfl))) (fun _ _ _ _ _=>pts_one (zaq (op_neDK K hr.units) (pv 0) (pv 1) (nomark _))) (fun _ _ _ _ _=>(pv 0))) zab)) zab))))) zbg) (zag (zak (zbk (zaa (zat zar (pv 1) zaf (fun _ _=>rfl)) (zaa (zcl zbn rfl m_tuple (by decide+kernel) (zaa (zai call_sortedTT rfl m_sorted (by decide+kernel) (zaa (zan op_catE (zat zar (pv 1) zaf (fun _ _=>rfl)) (zbk (zaa (pv 4) zab))) zab)) zab)) zab))))))))),?_⟩
 have h1:=hW.h1
 have l45:=hW.len
 obtain⟨t,rs,w1,w2,w3⟩:=id hW.web
 refine⟨_,rfl,_,rfl,a,_,_,.int n,rfl,rfl,w1,rfl,cp,scr,ns,n,b,rfl,hC,by omega,by omega,by omega,fun i H1 i0 i1 x1 hC1=> ?_⟩
 obtain⟨zs,hzs⟩:=hC.lst
 have hW1:=hW.samex x1 hzs
 obtain⟨t1,rs1,y1,y2,y3⟩:=id hW1.web
 refine⟨_,rfl,_,_,rfl,rfl,_,rfl,_,rfl,a,_,_,.int n,rfl,rfl,y1,rfl,_,_,rfl,rfl,cp,scr,ns,n-1,b+1,rfl,hC1,by omega,by omega,by omega,fun d H2 d0 d1 x2 hC2=> ?_⟩
 obtain⟨zs1,hzs1⟩:=hC1.lst
 have hW2:=hW1.samex x2 hzs1
 have x12:=x1.trans x2
 have e2:b+1+1=b+2:=by omega
 rw[e2]at hC2
 clear hW1 y1 y2 y3 w1 w2 w3
 obtain⟨t2,rs2,w1,w2,w3⟩:=id hW2.web
 refine⟨_,_,rfl,rfl,_,rfl,a,_,_,.int n,rfl,rfl,w1,rfl,_,_,rfl,rfl,(by show 0<n;omega),?_⟩
 have jn:=mod_other i0 i1 d0 d1
 have j0:=mod_nn (i+1+d) (b:=n) (by omega)
 have j1:=mod_lt (i+1+d) (b:=n) (by omega)
 refine⟨_,rfl,_,rfl,_,_,rfl,_,rfl,_,rfl,_,_,rfl,(by show 2<=sizeLine;decide),fun pp hpp=> ?_⟩
 obtain⟨p,ep,hp⟩:∃p:Int×Int,[V.int (if(i+1+d) %n<i then(i+1+d) %n else i),V.int (if(i+1+d) %n>i then(i+1+d) %n else i)]=(pl p).map V.int/\0<=p.1/\p.1<p.2/\p.2<n:=by
  generalize (i+1+d) %n=j at *
  by_cases c:j<i
  ·exact⟨(j,i),by rw[if_pos c,if_neg (by omega)];rfl,by dsimp only;omega⟩
  ·exact⟨(i,j),by rw[if_neg c,if_pos (by omega)];rfl,by dsimp only;omega⟩
 have s3:=zad hpp (.tup [V.int (if(i+1+d) %n<i then(i+1+d) %n else i),V.int (if(i+1+d) %n>i then(i+1+d) %n else i)])
 have kp:SqT K (upd H2 pp (.tup [V.int (if(i+1+d) %n<i then(i+1+d) %n else i),V.int (if(i+1+d) %n>i then(i+1+d) %n else i)])) pp ((pl p).map V.int):=by
  rw[<-ep];exact SqT.of zac
 try dsimp only at s3 kp
 generalize upd H2 pp (.tup [V.int (if(i+1+d) %n<i then(i+1+d) %n else i),V.int (if(i+1+d) %n>i then(i+1+d) %n else i)])=H3 at *
 have kd:DV K H3 (.ref pp) (pairD p):= .tup kp (.cons (.int _) (.cons (.int _) .nil))
 refine⟨_,rfl,_,rfl,a,_,_,.ref t2,rfl,rfl,s3.tup w1,rfl,t2,rs2,_,pairD p,rfl,.inr (s3.tup w2),w3.same s3,kd,lay_pairs ts,rfl,(by show max 0 (max 0 0)+1<=60;decide),_,rfl,?_⟩
 rw[any_pair]
 have hrs:rs2.length=ts.length:=by have:=w3.len;rw[List.length_map]at this;exact this
 refine ite2 (fun c=> ?_) (fun c=> ?_)
 ·refine⟨_,rfl,a,_,_,.int n,rfl,rfl,s3.tup w1,rfl,_,rfl,a,_,_,.ref t2,rfl,rfl,s3.tup w1,rfl,t2,rs2,rfl,s3.tup w2,fun hz=> ?_⟩
  refine comp_tup (xs:=rs2) (fun k acc σ H'=>DVs K H' acc (((ts.take k).filter fun q=> !decide (q=p)).map pairD)/\Same H3 H'/\∃o,σ=[o,some (.ref pp)]) ⟨.nil,Same.refl _,_,rfl⟩ (fun k acc σ H' _ p=>(s3.trans p.2.1).tup w2) (fun k acc σ H' _ p=> ?_) hz (fun k x acc σ H' hx pp'=> ?_) (fun acc σ H' pp'=> ?_)
  ·rw[p.1.len,List.length_map]
   exact Nat.le_trans (List.length_filter_le _ _) (by rw[List.length_take];exact Nat.min_le_left _ _)
  ·obtain⟨hD,sm,o,rfl⟩:=pp'
   obtain⟨t',hi,rfl,ht⟩:=pair_at w3 hx
   have e:=zbt (p:=fun q:Int×Int=> !decide (q=p)) hi
   have ht':DV K H' (.ref t') (pairD ts[k]):= .tup ((s3.trans sm).tup ht) (.cons (.int _) (.cons (.int _) .nil))
   refine⟨_,rfl,_,rfl,pairD ts[k],pairD p,ht',kd.same sm,rfl,rfl,(by show min (max 0 (max 0 0)+1) _<=64;omega),_,rfl,?_⟩
   rw[eqv_pair]
   refine ite2 (fun c=> ?_) (fun c=> ?_)
   ·refine⟨_,rfl,?_,sm,_,rfl⟩
    rw[e,if_pos c,List.map_append]
    exact hD.snoc ht'
   ·refine⟨?_,sm,_,rfl⟩
    rw[e,if_neg c,List.append_nil]
    exact hD
  ·intro p1 hp1
   obtain⟨hD,sm,_⟩:=pp'
   rw[hrs,List.take_length]at hD
   refine⟨p1,_,rfl,.inl ⟨SqL.of zac,fun t5 ht5=>⟨(by show 2<=sizeLine;decide),fun wb hwb=> ?_⟩⟩⟩
   have s4:=zad hp1 (.lst acc)
   have s5:=zad ht5 (.tup acc)
   have s6:=zad hwb (.tup [.int n,.ref t5])
   have s46:=s4.trans (s5.trans s6)
   have hs:(ts.filter fun q=> !decide (q=p)).Pairwise lt2:=hW.srt.sublist List.filter_sublist
   have ho:PairsOk n (ts.filter fun q=> !decide (q=p)):=⟨nodup_lt2 hs,fun q hq=>hW.pk.lt q (List.mem_filter.mp hq).1⟩
   exact q wb _ _ (x12.trans ((s3.trans (sm.trans s46)).x cp)) (hC2.same (s3.trans (sm.trans s46))) ⟨⟨t5,acc,SqT.of zac,SqT.of (s6 _ _ zac),hD.same s46⟩,hW.h0,h1,ho,web_ok hW.h0 h1 ho (hs.imp lt2_lex)⟩
 ·have c':p∉ts:=fun z=>c (decide_eq_true z)
  refine⟨_,rfl,a,_,_,.int n,rfl,rfl,s3.tup w1,rfl,_,rfl,a,_,_,.ref t2,rfl,rfl,s3.tup w1,rfl,_,rfl,(by show 1<=sizeLine;decide),fun p1 hp1=> ?_⟩
  have s4:=zad hp1 (.tup [.ref pp])
  refine⟨t2,p1,_,_,rfl,rfl,(s3.trans s4).tup w2,SqT.of zac,by rw[hrs,sizeLine_eq];show _+1<=_;omega,fun r2 H5 s5 h5=> ?_⟩
  have s35:=s3.trans (s4.trans s5)
  obtain⟨its,i1,i2,i3⟩:=items_of (w3.same s35)
  have hil:its.length=ts.length:=by rw[<-i2,List.length_map]
  have E5:∀x∈its++[(pp,p)],SqT K H5 x.1 ((pl x.2).map V.int):=fun x hx=>by
   rcases List.mem_append.mp hx with z|z
   ·exact i3 x z
   ·rw[List.mem_singleton.mp z];exact(s4.trans s5).tup kp
  have eit:rs2++[V.ref pp]=(its++[(pp,p)]).map fun x=>V.ref x.1:=by rw[List.map_append,i1];rfl
  have hq:PairsOk n ((its++[(pp,p)]).map (·.2)):=by
   rw[List.map_append,i2]
   refine⟨List.nodup_append.mpr ⟨hW.pk.nd,by simp,fun x hx y hy e=> ?_⟩,fun x hx=> ?_⟩
   ·have hy':y∈[p]:=hy
    rw[List.mem_singleton.mp hy']at e
    exact c' (e▸hx)
   ·rcases List.mem_append.mp hx with z|z
    ·exact hW.pk.lt x z
    ·have z':x∈[p]:=z
     rw[List.mem_singleton.mp z'];exact hp
  rw[eit]at h5
  refine⟨r2,(its++[(pp,p)]).map (fun x=>(x.1,pl x.2)),rfl,by rw[List.map_map];exact h5,fun x hx=> ?_,by rw[List.length_map,List.length_append,hil];show _+1<64;omega,fun l1 its' hl1 hperm hsort=> ?_⟩
  ·obtain⟨p',hp',rfl⟩:=List.mem_map.mp hx
   exact⟨E5 p' hp',by unfold pl;simp⟩
  have s7:=zad hl1 (.lst (its'.map fun p=>V.ref p.1))
  refine⟨l1,_,rfl,.inl ⟨SqL.of zac,fun t1 ht1=>⟨(by show 2<=sizeLine;decide),fun wb hwb=> ?_⟩⟩⟩
  have s8:=zad ht1 (.tup (its'.map fun p=>V.ref p.1))
  have s9:=zad hwb (.tup [.int n,.ref t1])
  have s79:=s7.trans (s8.trans s9)
  obtain⟨us,W⟩:=srt_web (K:=K) hW.h0 h1 hq hperm hsort (fun p hp=>s79.tup (E5 p hp)) (SqT.of zac) (SqT.of (s9 _ _ zac))
  exact q wb us _ (x12.trans ((s35.trans s79).x cp)) (hC2.same (s35.trans s79)) W
end
end Hs
namespace Hs
open PySem L2 HsD
section
variable{P:Program}{w:World}{K:W.Frag}{mg:Str->Option Value}{base:Heap}
theorem idx_first:∀{l:List Int} {z:Int},z∈l->∃j:Nat,l[j]? =some z/\∀i,i<j->l[i]? ≠some z
 |[],_,h=>nomatch h
 |x::l,z,h=>by
  by_cases e:x=z
  ·exact⟨0,by rw[e];rfl,fun i hi=>absurd hi (Nat.not_lt_zero _)⟩
  ·rcases List.mem_cons.mp h with y|y
   ·exact absurd y.symm e
   ·obtain⟨j,h1,h2⟩:=idx_first y
    refine⟨j+1,by rw[List.getElem?_cons_succ];exact h1,fun i hi=> ?_⟩
    cases i with
    |zero=>intro q;exact e (by simpa using q)
    |succ i=>rw[List.getElem?_cons_succ];exact h2 i (by omega)
structure Acr(K:W.Frag)(H:Hp)(cp scr a l mo:Addr)(ns:List Int)(n b:Int)(ts:List (Int×Int))(ls:List Int)(its:List (Addr×(Int×Int)))(b':Int)(H':Hp):Prop where
 hl:H' l=some (.lst (ls.map V.int))
 up:ls.Pairwise (· < ·)
 rg:∀x∈ls,0<=x/\x<n
 hm:H' mo=some (.lst (its.map fun p=>V.ref p.1))
 ht:∀p∈its,SqT K H' p.1 ((pl p.2).map V.int)
 pk:PairsOk n (ts++its.map (·.2))
 fs:∀p∈its,∀x∈ls,p.2.1<x
 web:WebIs K H' a n ts
 cup:CupV K H' cp scr ns b'
 le:b'+(ls.length:Int)<=b+10
 sz:its.length+ls.length<=10
 old:SameX cp H H'
noncomputable def AcrW(K:W.Frag)(H:Hp)(cp scr a l mo:Addr)(ns:List Int)(n b:Int)(ts:List (Int×Int))(m:Nat)(σ:St)(H':Hp):Prop:=∃(ls:List Int) (its:List (Addr×(Int×Int))) (b':Int) (o5 o6:Option V),m=ls.length/\σ=[some (.ref cp),some (.int n),some (.ref a),some (.ref l),some (.ref mo),o5,o6]/\Acr K H cp scr a l mo ns n b ts ls its b' H'
noncomputable def spAcross(K:W.Frag):Sp:=fun vs H Q _=>∃(cp scr:Addr) (ns:List Int) (n b:Int),vs=[.ref cp,.int n]/\CupV K H cp scr ns b/\b<=800000000/\3<=n/\n<=10/\∀r us H',SameX cp H H'->CupV K H' cp scr ns (b+10)->WebIs K H' r n us->Q (.ref r) H'
theorem sc_across:FnScope ["cup","n","web","left","more","i","some"] ["cup","n"] (defScope zap):=⟨rfl,rfl,rfl,by decide+kernel,rfl,by decide+kernel,by decide+kernel⟩
theorem ok_across{f f1 f2 f3:Addr}{fd d1 d2 d3:FuncData}(F:Fun K "_law_e_tied_across" "_law_e_tied_across" zap f fd)(D1:Dfn K mg "_law_e_ring_of" zbb ["n"] f1 d1)(G1':FnOk P w K mg base CX0 1 f1 d1 ["n"] (spRingOf K))(D2:Dfn K mg "_law_e_tied" zbi ["web","one","other"] f2 d2)(G2':FnOk P w K mg base CX0 1 f2 d2 ["web","one","other"] (spHas K))(D3:Dfn K mg "_law_e_dip" zay ["cup","many"] f3 d3)(G3:FnOk P w K mg base CX0 2 f3 d3 ["cup","many"] (spDip K))(m_list:mg "list"=none)(m_range:mg "range"=none)(m_len:mg "len"=none)(m_tuple:mg "tuple"=none)(m_sorted:mg "sorted"=none):
  FnOk P w K mg base CX0 3 f fd ["cup","n"] (spAcross K):=by
 have G1:FnOk P w K mg base CX0 2 f1 d1 ["n"] (spRingOf K):=G1'.mono (by decide)
 have G2:FnOk P w K mg base CX0 2 f2 d2 ["web","one","other"] (spHas K):=G2'.mono (by decide)
 refine F.ok sc_across (fun vs H Q E h=> ?_) (fun cdv A outer s H vs Q E hr h=> ?_)
 ·obtain⟨cp,scr,ns,n,b,rfl,_⟩:=h
  rfl
 obtain⟨cp,scr,ns,n,b,rfl,hC,hb,h3,h10,q⟩:=h
 refine⟨_,(zae (zaw (i:=2) sc_across.nd rfl (Or.inr rfl) (zah G1 hr rfl D1.m D1.F.kp D1.b .nil pass0 (zaa (pv 1) zab))) (zae (zaw (i:=3) sc_across.nd rfl (Or.inl rfl) (pe_lstRange rfl rfl m_list rfl m_range (zaa (pv 1) zab))) (zae (zaw (i:=4) sc_across.nd rfl (Or.inl rfl) (zda zab)) (zae (ps_while PassesOwn.never (zaq op_gt (zai zas rfl m_len PySem.boot_len (zaa (pv 3) zab)) zaf (nomark _)) (zae (zaw (i:=5) sc_across.nd rfl (Or.inr rfl) (pe_bm PySem.F.plainAttrs_list PySem.F.slot_list_pop PySem.F.type_list_pop mt_popAt (pv 3) (zaa zaf zab))) (zae (ps_setComp (i:=6) (own:=["j"]) (caps:=["web","i"]) (ix:=[2,5]) sc_across.nd rfl (Or.inl rfl) rfl (zcy (pv 3)) rfl rfl (.cons rfl rfl (.cons rfl rfl .nil)) (fun _ _ _ _ _=>(zaj (i:=0) (show(["j","web","i"]:List Str).Nodup from by decide+kernel) rfl (Or.inl rfl))) (fun _ _ _ _ _=>pts_one (pt_not (zdg (zah G2 hr rfl D2.m D2.F.kp D2.b .nil pass0 (zaa (pv 1) (zaa (pv 2) (zaa (pv 0) zab))))))) (fun _ _ _ _ _=>(pv 0))) (zag (zcv (zaq (op_neD hr.units) (pv 6) (zda zab) (nomark _)) (zae (zdi (pe_bm PySem.F.plainAttrs_list PySem.F.slot_list_append PySem.F.type_list_append mt_append (pv 4) (zaa (zbk (zaa (pv 5) (zaa (zat zcr (pv 6) (zah G3 hr rfl D3.m D3.F.kp D3.b .nil pass0 (zaa (pv 0) (zaa (zai zas rfl m_len PySem.boot_len (zaa (pv 6) zab)) zab))) (fun _ _=>rfl)) zab))) zab))) (zag (zdi (pe_bm PySem.F.plainAttrs_list PySem.F.slot_list_remove PySem.F.type_list_remove mt_remove (pv 3) (zaa (zat zar (zat zcr (pv 4) (pe_un un_neg zaf) (fun _ _=>rfl)) zaf (fun _ _=>rfl)) zab))))) zbg))))) (zag (zak (zbk (zaa (pv 1) (zaa (zcl zbn rfl m_tuple (by decide+kernel) (zaa (zai call_sortedT rfl m_sorted (by decide+kernel) (zaa (zan op_cat (zcl call_list_of rfl m_list (by decide+kernel) (zaa (zat zar (pv 2) zaf (fun _ _=>rfl)) zab)) (pv 4)) zab)) zab)) zab))))))))),?_⟩
 refine⟨_,rfl,n,rfl,h3,h10,fun a ts H1 s1 W=> ?_⟩
 refine⟨_,rfl,n,rfl,by omega,by omega,fun l hl=> ?_⟩
 have s2:=zad hl (.lst (tupR n.toNat))
 have hl2:(upd H1 l (.lst (tupR n.toNat))) l=some (.lst ((rgI n.toNat).map V.int)):=by rw[zac,tupR_rng];rfl
 have lcp:l≠cp:=by
  obtain⟨z,hz⟩:=(hC.same s1).lst
  exact none_ne' hz hl
 have l0:H l=none:=by
  cases z:H l with
  |none=>rfl
  |some o=>rw[s1 _ _ z]at hl;cases hl
 try dsimp only at s2 hl2
 generalize upd H1 l (.lst (tupR n.toNat))=H2 at *
 refine⟨(by show 0<=sizeLine;decide),fun mo hmo=> ?_⟩
 have s3:=zad hmo (.lst [])
 have hm3:(upd H2 mo (.lst [])) mo=some (.lst (([]:List (Addr×(Int×Int))).map fun p=>V.ref p.1)):=zac
 have hl3:=s3 _ _ hl2
 have mol:mo≠l:=none_ne' hl2 hmo
 have s13:=s1.trans (s2.trans s3)
 have mocp:mo≠cp:=by
  obtain⟨z,hz⟩:=(hC.same (s1.trans s2)).lst
  exact none_ne' hz hmo
 have mo0:H mo=none:=by
  cases z:H mo with
  |none=>rfl
  |some o=>rw[(s1.trans s2) _ _ z]at hmo;cases hmo
 have W3:=W.same (s2.trans s3)
 have hC3:=hC.same s13
 try dsimp only at hm3 hl3 s13 W3 hC3
 generalize upd H2 mo (.lst [])=H3 at *
 refine⟨AcrW K H cp scr a l mo ns n b ts,⟨_,rgI n.toNat,[],b,_,_,rfl,rfl,⟨hl3,(by unfold rgI;rw[List.pairwise_map];exact List.pairwise_lt_range.imp fun{a b} h=>by omega),fun x hx=>by have:=zcm.mp hx;omega,hm3,fun p hp=>(nomatch hp),by rw[List.map_nil,List.append_nil];exact W.pk,fun p hp=>(nomatch hp),W3,hC3,by rw[rgI_len];omega,by rw[rgI_len];show 0+_<=10;omega,s13.x cp⟩⟩,fun m σ Ha p=> ?_⟩
 obtain⟨ls,its,b',o5,o6,rfl,rfl,A0⟩:=p
 refine⟨_,rfl,l,_,rfl,.inl (SqL.of A0.hl),fun _=>⟨_,_,rfl,rfl,_,rfl,?_⟩⟩
 have hil:its.length<=10:=by have:=A0.sz;omega
 refine ite2 (fun c=> ?_) (fun c=> ?_)
 ·have c':1<ls.length:=by have:=of_decide_eq_true c;rw[List.length_map]at this;omega
  obtain⟨x,rest,rfl⟩:∃x rest,ls=x::rest:=by
   cases ls with
   |nil=>exact absurd c' (by decide)
   |cons x rest=>exact⟨x,rest,rfl⟩
  refine⟨fun σ' H'=>∃m',m'<(x::rest).length/\AcrW K H cp scr a l mo ns n b ts m' σ' H',fun _ _ h=>h,?_⟩
  ·skip
   have up':=List.pairwise_cons.mp A0.up
   refine⟨_,rfl,.inl ⟨rfl,_,SqL.of A0.hl⟩,l,_,0,0,.int x,rfl,rfl,A0.hl,by decide,by decide,seqIndex_of (k:=0) (by decide) (by rw[List.length_map,List.length_cons];omega),rfl,?_⟩
   rw[show((x::rest).map V.int).eraseIdx 0=rest.map V.int from rfl]
   have x1:SameX l Ha (upd Ha l (.lst (rest.map V.int))):=(SameX.refl _ _).upd
   have hl1:(upd Ha l (.lst (rest.map V.int))) l=some (.lst (rest.map V.int)):=zac
   have hm1:=x1 _ _ mol A0.hm
   have W1:=A0.web.samex x1 A0.hl
   have C1:=A0.cup.other x1 A0.hl lcp.symm
   have T1:∀p∈its,SqT K (upd Ha l (.lst (rest.map V.int))) p.1 ((pl p.2).map V.int):=fun p hp=>x1.tup A0.hl (A0.ht p hp)
   have O1:SameX cp H (upd Ha l (.lst (rest.map V.int))):=fun c o nc e=>x1 _ _ (fun z=>by rw[z,l0]at e;cases e) (A0.old c o nc e)
   try dsimp only at x1 hl1 hm1 W1 C1 T1 O1
   generalize upd Ha l (.lst (rest.map V.int))=Hb at *
   refine⟨_,rfl,l,_,rfl,SqL.of hl1,fun hz=> ?_⟩
   refine comp_list (xs:=rest.map V.int) (fun k acc σ H'=>acc=((rest.take k).filter fun y=> !hasTie ts x y).map V.int/\Same Hb H'/\∃o,σ=[o,some (.ref a),some (.int x)]) ⟨rfl,Same.refl _,_,rfl⟩ (fun k acc σ H' _ p=>p.2.1.seq (SqL.of hl1)) (fun k acc σ H' _ p=> ?_) hz (fun k y acc σ H' hy p=> ?_) (fun acc σ H' p=> ?_)
   ·rw[p.1,List.length_map]
    exact Nat.le_trans (List.length_filter_le _ _) (by rw[List.length_take];exact Nat.min_le_left _ _)
   ·obtain⟨rfl,sm,o,rfl⟩:=p
    rw[List.getElem?_map]at hy
    cases ey:rest[k]? with
    |none=>rw[ey]at hy;cases hy
    |some v=>
     rw[ey]at hy
     cases hy
     obtain⟨hk,ev⟩:=List.getElem?_eq_some_iff.mp ey
     have e:=zbt (p:=fun y=> !hasTie ts x y) hk
     rw[ev]at e
     refine⟨_,rfl,_,rfl,_,rfl,a,n,x,v,ts,rfl,(W1.same sm).web,fun H4 s4=>⟨_,rfl,?_⟩⟩
     refine ite2 (fun c2=> ?_) (fun c2=> ?_)
     ·exact⟨_,rfl,by rw[e,if_pos c2,List.map_append];rfl,sm.trans s4,_,rfl⟩
     ·exact⟨by rw[e,if_neg c2,List.append_nil],sm.trans s4,_,rfl⟩
   ·obtain⟨rfl,sm,_⟩:=p
    intro p1 hp1
    rw[List.length_map,List.take_length]
    generalize hzs:rest.filter (fun y=> !hasTie ts x y)=zs
    have hzl:zs.length<=rest.length:=by rw[<-hzs];exact List.length_filter_le _ _
    have s5:=sm.trans (zad hp1 (.lst (zs.map V.int)))
    have hp5:(upd H' p1 (.lst (zs.map V.int))) p1=some (.lst (zs.map V.int)):=zac
    try dsimp only at s5 hp5
    generalize upd H' p1 (.lst (zs.map V.int))=Hc at *
    refine⟨_,rfl,(by show 0<=sizeLine;decide),fun p2 hp2=> ?_⟩
    have s6:=zad hp2 (.lst [])
    have s56:=s5.trans s6
    refine⟨.list (zs.map PyData.int),.list (([]:List Int).map PyData.int),.lst (SqL.of (s6 _ _ hp5)) (DVs.ints zs),.lst (SqL.of zac) .nil,zcw _,rfl,(by show min _ 1<=64;omega),_,rfl,?_⟩
    have ee:PyData.eqv (.list (zs.map PyData.int)) (.list (([]:List Int).map PyData.int))=decide (zs=[]):=eqv_ints zs []
    rw[ee]
    have hl6:=s56 _ _ hl1
    have hm6:=s56 _ _ hm1
    have hp6:=s6 _ _ hp5
    have W6:=W1.same s56
    have C6:=C1.same s56
    have T6:∀p∈its,SqT K (upd Hc p2 (.lst [])) p.1 ((pl p.2).map V.int):=fun p hp=>s56.tup (T1 p hp)
    have O6:SameX cp H (upd Hc p2 (.lst [])):=O1.trans (s56.x cp)
    try dsimp only at hl6 hm6 hp6 W6 C6 T6 O6
    generalize upd Hc p2 (.lst [])=Hd at *
    have le0:=A0.le
    have sz0:=A0.sz
    have A0rg:=A0.rg
    have A0fs:=A0.fs
    have A0pk:=A0.pk
    rw[List.length_cons]at le0 sz0
    refine ite2 (fun c2=> ?_) (fun c2=> ?_)
    ·have zne:zs≠[]:=fun z=>by rw[z]at c2;exact absurd c2 (by decide)
     have zpos:0<zs.length:=List.length_pos_iff.mpr zne
     refine⟨_,rfl,.inl ⟨rfl,_,SqL.of hm6⟩,_,rfl,_,rfl,_,rfl,_,rfl,p1,_,rfl,.inl (SqL.of hp6),fun _=> ?_⟩
     refine⟨cp,scr,ns,_,b',rfl,C6,by omega,by rw[List.length_map];omega,by rw[List.length_map];omega,fun r He r0 r1 x7 C7=> ?_⟩
     rw[List.length_map]at r1
     obtain⟨zc,hzc⟩:=C6.lst
     have p1cp:p1≠cp:=fun z=>by
      have h1:=C1.lst
      obtain⟨z1,h1⟩:=h1
      have h2:=sm _ _ h1
      rw[z,h2]at hp1;cases hp1
     have hp7:=x7 _ _ p1cp hp6
     have hm7:=x7 _ _ mocp hm6
     have hl7:=x7 _ _ lcp hl6
     have W7:=W6.samex x7 hzc
     have T7:∀p∈its,SqT K He p.1 ((pl p.2).map V.int):=fun p hp=>x7.tup hzc (T6 p hp)
     have O7:=O6.trans x7
     have rz:zs.getD r.toNat 0∈zs:=by
      have hr:r.toNat<zs.length:=by omega
      rw[List.getD_eq_getElem?_getD,List.getElem?_eq_getElem hr];exact List.getElem_mem hr
     refine⟨p1,_,_,.int (zs.getD r.toNat 0),rfl,rfl,SqL.of hp7,at_xs r0 r1,(by show 2<=sizeLine;decide),fun tq htq=> ?_⟩
     generalize zs.getD r.toNat 0=z at *
     have zm:z∈rest/\(!hasTie ts x z)=true:=by rw[<-hzs]at rz;exact List.mem_filter.mp rz
     have xz:=up'.1 z zm.1
     have s8:=zad htq (.tup [.int x,.int z])
     have kq:(upd He tq (.tup [.int x,.int z])) tq=some (.tup ((pl (x,z)).map V.int)):=zac
     have hm8:=s8 _ _ hm7
     have hl8:=s8 _ _ hl7
     have W8:=W7.same s8
     have C8:=C7.same s8
     have O8:=O7.trans (s8.x cp)
     have T8:∀p∈its++[(tq,(x,z))],SqT K (upd He tq (.tup [.int x,.int z])) p.1 ((pl p.2).map V.int):=fun p hp=>by
      rcases List.mem_append.mp hp with y|y
      ·exact s8.tup (T7 p y)
      ·rw[List.mem_singleton.mp y];exact SqT.of kq
     try dsimp only at kq hm8 hl8 W8 C8 O8 T8
     generalize upd He tq (.tup [.int x,.int z])=Hf at *
     refine⟨mo,_,_,rfl,rfl,hm8,by rw[List.length_map,sizeLine_eq];omega,?_⟩
     have x9:SameX mo Hf (upd Hf mo (.lst ((its.map fun p=>V.ref p.1)++[.ref tq]))):=(SameX.refl _ _).upd
     have hm9:(upd Hf mo (.lst ((its.map fun p=>V.ref p.1)++[.ref tq]))) mo=some (.lst ((its++[(tq,(x,z))]).map fun p=>V.ref p.1)):=by rw[zac,List.map_append];rfl
     have hl9:=x9 _ _ mol.symm hl8
     have W9:=W8.samex x9 hm8
     have C9:=C8.other x9 hm8 mocp.symm
     have T9:∀p∈its++[(tq,(x,z))],SqT K (upd Hf mo (.lst ((its.map fun p=>V.ref p.1)++[.ref tq]))) p.1 ((pl p.2).map V.int):=fun p hp=>x9.tup hm8 (T8 p hp)
     have O9:SameX cp H (upd Hf mo (.lst ((its.map fun p=>V.ref p.1)++[.ref tq]))):=fun c o nc e=>x9 _ _ (fun y=>by rw[y,mo0]at e;cases e) (O8 c o nc e)
     try dsimp only at hm9 hl9 W9 C9 T9 O9
     generalize upd Hf mo (.lst ((its.map fun p=>V.ref p.1)++[.ref tq]))=Hg at *
     obtain⟨j,hj,hno⟩:=idx_first zm.1
     have hlast:atI ((its++[(tq,(x,z))]).map fun p=>V.ref p.1) (-1)=some (.ref tq):=by
      unfold atI ixN
      rw[if_neg (by decide),if_pos (by rw[List.length_map,List.length_append];show -(((its.length+1:Nat)):Int)<= -1;omega)]
      rw[List.length_map,List.length_append,List.map_append]
      have e:((-1:Int)+((its.length+[(tq,(x,z))].length:Nat):Int)).toNat=(its.map fun p=>V.ref p.1).length:=by
       rw[List.length_map]
       show((-1:Int)+((its.length+1:Nat):Int)).toNat=its.length
       omega
      show(((its.map fun p=>V.ref p.1)++[V.ref tq])[((-1:Int)+((its.length+[(tq,(x,z))].length:Nat):Int)).toNat]?)=_
      rw[e,List.getElem?_append_right (Nat.le_refl _),Nat.sub_self];rfl
     refine⟨_,rfl,.inl ⟨rfl,_,SqL.of hl9⟩,_,rfl,_,rfl,mo,_,_,.ref tq,rfl,rfl,SqL.of hm9,hlast,tq,_,_,.int z,rfl,rfl,T9 (tq,(x,z)) (List.mem_append_right _ (List.mem_singleton_self _)),rfl,l,rest,z,j,rfl,rfl,hl9,hj,hno,?_⟩
     have xa:SameX l Hg (upd Hg l (.lst ((rest.eraseIdx j).map V.int))):=(SameX.refl _ _).upd
     have hjl:j<rest.length:=(List.getElem?_eq_some_iff.mp hj).1
     have lel:(rest.eraseIdx j).length=rest.length-1:=List.length_eraseIdx_of_lt hjl
     have subl:(rest.eraseIdx j).Sublist rest:=List.eraseIdx_sublist ..
     refine⟨(rest.eraseIdx j).length,by rw[List.length_cons];omega,rest.eraseIdx j,its++[(tq,(x,z))],b'+1,_,_,rfl,rfl,⟨zac,up'.2.sublist subl,fun y hy=>A0rg y (List.mem_cons_of_mem _ (subl.subset hy)),xa _ _ mol hm9,fun p hp=>xa.tup hl9 (T9 p hp),?_,fun p hp y hy=> ?_,W9.samex xa hl9,C9.other xa hl9 lcp.symm,by rw[lel];omega,by rw[List.length_append,lel];show its.length+1+_<=10;omega,fun c o nc e=>xa _ _ (fun y=>by rw[y,l0]at e;cases e) (O9 c o nc e)⟩⟩
     ·rw[List.map_append,<-List.append_assoc]
      refine⟨List.nodup_append.mpr ⟨A0pk.nd,by simp,fun p hp q' hq' e=> ?_⟩,fun p hp=> ?_⟩
      ·have hq2:q'∈[(x,z)]:=hq'
       rw[List.mem_singleton.mp hq2]at e
       subst e
       rcases List.mem_append.mp hp with y|y
       ·have nt:hasTie ts x z=true:=by
         unfold hasTie
         rw[if_neg (show¬z<x by omega),if_pos (show z>x by omega)]
         exact decide_eq_true y
        have:=zm.2
        rw[nt]at this;cases this
       ·obtain⟨p',hp',e'⟩:=List.mem_map.mp y
        have:=A0fs p' hp' x List.mem_cons_self
        rw[e']at this
        dsimp only at this
        omega
      ·rcases List.mem_append.mp hp with y|y
       ·exact A0pk.lt p y
       ·have hq2:p∈[(x,z)]:=y
        rw[List.mem_singleton.mp hq2]
        have:=A0rg x List.mem_cons_self
        have:=A0rg z (List.mem_cons_of_mem _ zm.1)
        dsimp only
        omega
     ·have hy':=subl.subset hy
      rcases List.mem_append.mp hp with y'|y'
      ·exact A0fs p y' y (List.mem_cons_of_mem _ hy')
      ·rw[List.mem_singleton.mp y']
       exact up'.1 y hy'
    ·exact⟨rest.length,by rw[List.length_cons];omega,rest,its,b',_,_,rfl,rfl,⟨hl6,up'.2,fun y hy=>A0rg y (List.mem_cons_of_mem _ hy),hm6,T6,A0pk,fun p hp y hy=>A0fs p hp y (List.mem_cons_of_mem _ hy),W6,C6,by omega,by omega,O6⟩⟩
 ·obtain⟨t,rs,w1,w2,w3⟩:=id A0.web.web
  have hrs:rs.length=ts.length:=by have:=w3.len;rw[List.length_map]at this;exact this
  have l45:=A0.web.len
  refine⟨_,rfl,_,rfl,a,_,_,.ref t,rfl,rfl,w1,rfl,t,_,rfl,.inr w2,fun l5 hl5=> ?_⟩
  have s4:=zad hl5 (.lst rs)
  refine⟨_,rfl,l5,mo,_,_,rfl,rfl,zac,s4 _ _ A0.hm,by rw[hrs,List.length_map,sizeLine_eq];omega,fun l6 hl6=> ?_⟩
  have s5:=s4.trans (zad hl6 (.lst (rs++its.map fun p=>V.ref p.1)))
  obtain⟨jts,i1,i2,i3⟩:=items_of w3
  have eit:rs++its.map (fun p=>V.ref p.1)=(jts++its).map fun p=>V.ref p.1:=by rw[List.map_append,i1]
  have hl65:(upd (upd Ha l5 (.lst rs)) l6 (.lst (rs++its.map fun p=>V.ref p.1))) l6=some (.lst ((jts++its).map fun p=>V.ref p.1)):=by rw[zac,eit]
  have hjl:jts.length=ts.length:=by rw[<-i2,List.length_map]
  have hq:PairsOk n ((jts++its).map (·.2)):=by rw[List.map_append,i2];exact A0.pk
  have l55:=pairs_len hq h10
  rw[List.length_map]at l55
  have E5:∀p∈jts++its,SqT K (upd (upd Ha l5 (.lst rs)) l6 (.lst (rs++its.map fun p=>V.ref p.1))) p.1 ((pl p.2).map V.int):=fun p hp=>by
   rcases List.mem_append.mp hp with z|z
   ·exact s5.tup (i3 p z)
   ·exact s5.tup (A0.ht p z)
  try dsimp only at s5 hl65 E5
  generalize upd (upd Ha l5 (.lst rs)) l6 (.lst (rs++its.map fun p=>V.ref p.1))=H5 at *
  refine⟨l6,(jts++its).map (fun p=>(p.1,pl p.2)),rfl,by rw[List.map_map];exact SqL.of hl65,fun p hp=> ?_,by rw[List.length_map];omega,fun l1 its' hl1 hperm hsort=> ?_⟩
  ·obtain⟨p',hp',rfl⟩:=List.mem_map.mp hp
   exact⟨E5 p' hp',by unfold pl;simp⟩
  have s7:=zad hl1 (.lst (its'.map fun p=>V.ref p.1))
  refine⟨l1,_,rfl,.inl ⟨SqL.of zac,fun t1 ht1=>⟨(by show 2<=sizeLine;decide),fun wb hwb=> ?_⟩⟩⟩
  have s8:=zad ht1 (.tup (its'.map fun p=>V.ref p.1))
  have s9:=zad hwb (.tup [.int n,.ref t1])
  have s79:=s7.trans (s8.trans s9)
  obtain⟨us,W'⟩:=srt_web (K:=K) (by omega) h10 hq hperm hsort (fun p hp=>s79.tup (E5 p hp)) (SqT.of zac) (SqT.of (s9 _ _ zac))
  exact q wb us _ (A0.old.trans ((s5.trans s79).x cp)) ((A0.cup.same (s5.trans s79)).mono (by have:=A0.le;omega)) W'
end
end Hs
namespace Hs
open PySem L2 HsD
section
variable{P:Program}{w:World}{K:W.Frag}{mg:Str->Option Value}{base:Heap}
theorem cup_new{H:Hp}{a p:Addr}{ns:List Int}(hS:ScrV K H a ns)(h63:ns.length<=63)(hp:H p=none):CupV K (upd H p (.lst [.ref a,.int 0,.int 0])) p a ns 0:=
 ⟨tape_new hS h63 hp,0,0,zac,Int.le_refl _⟩
theorem sc_law:FnScope ["script","cup","k","web","one","n","other","pair","both"] ["script"] (defScope s_law):=⟨rfl,rfl,rfl,by decide+kernel,rfl,by decide+kernel,by decide+kernel⟩
theorem ok_law{f f1 f2 f3 f4 f5 f6 f7 f8 f9 f10:Addr}{fd d1 d2 d3 d4 d5 d6 d7 d8 d9 d10:FuncData}(F:Fun K "law" "law" s_law f fd)(D1:Dfn K mg "_law_e_round_web" zba ["cup","n"] f1 d1)(G1':FnOk P w K mg base CX0 4 f1 d1 ["cup","n"] (spRound K))(D2:Dfn K mg "_law_e_dip" zay ["cup","many"] f2 d2)(G2':FnOk P w K mg base CX0 2 f2 d2 ["cup","many"] (spDip K))(D3:Dfn K mg "_law_e_web" zci ["cup","most"] f3 d3)(G3':FnOk P w K mg base CX0 4 f3 d3 ["cup","most"] (spEWeb K))(D4:Dfn K mg "_law_e_bent" zcc ["cup","web"] f4 d4)(G4':FnOk P w K mg base CX0 3 f4 d4 ["cup","web"] (spBent K))(D5:Dfn K mg "_law_e_right" zbu ["web"] f5 d5)(G5:FnOk P w K mg base CX0 17 f5 d5 ["web"] (spRight K))(D6:Dfn K mg "_law_e_two_rings" zaz ["cup"] f6 d6)(G6':FnOk P w K mg base CX0 3 f6 d6 ["cup"] (spTwo K))(D7:Dfn K mg "_law_e_tied_across" zap ["cup","n"] f7 d7)(G7':FnOk P w K mg base CX0 3 f7 d7 ["cup","n"] (spAcross K))(D8:Dfn K mg "_law_e_moved" zbm ["web","order"] f8 d8)(G8':FnOk P w K mg base CX0 1 f8 d8 ["web","order"] (spMoved K))(D9:Dfn K mg "_law_e_order" zbl ["cup","n"] f9 d9)(G9':FnOk P w K mg base CX0 3 f9 d9 ["cup","n"] (spOrder K))(D10:Dfn K mg "_law_e_side_by_side" zal ["one","other"] f10 d10)(G10':FnOk P w K mg base CX0 1 f10 d10 ["one","other"] (spSide K))(m_range:mg "range"=none)(m_len:mg "len"=none):
  FnOk P w K mg base CX0 18 f fd ["script"] (spLaw K):=by
 have G1:FnOk P w K mg base CX0 17 f1 d1 ["cup","n"] (spRound K):=G1'.mono (by decide)
 have G2:FnOk P w K mg base CX0 17 f2 d2 ["cup","many"] (spDip K):=G2'.mono (by decide)
 have G3:FnOk P w K mg base CX0 17 f3 d3 ["cup","most"] (spEWeb K):=G3'.mono (by decide)
 have G4:FnOk P w K mg base CX0 17 f4 d4 ["cup","web"] (spBent K):=G4'.mono (by decide)
 have G6:FnOk P w K mg base CX0 17 f6 d6 ["cup"] (spTwo K):=G6'.mono (by decide)
 have G7:FnOk P w K mg base CX0 17 f7 d7 ["cup","n"] (spAcross K):=G7'.mono (by decide)
 have G8:FnOk P w K mg base CX0 17 f8 d8 ["web","order"] (spMoved K):=G8'.mono (by decide)
 have G9:FnOk P w K mg base CX0 17 f9 d9 ["cup","n"] (spOrder K):=G9'.mono (by decide)
 have G10:FnOk P w K mg base CX0 17 f10 d10 ["one","other"] (spSide K):=G10'.mono (by decide)
 refine F.ok sc_law (fun vs H Q E h=> ?_) (fun cdv A outer s H vs Q E hr h=> ?_)
 ·obtain⟨a,ns,rfl,_⟩:=h
  rfl
 obtain⟨a,ns,rfl,hS,h63,q⟩:=h
 refine⟨_,(zae (zaw (i:=1) sc_law.nd rfl (Or.inl rfl) (zda (zaa (pv 0) (zaa zaf (zaa zaf zab))))) (zae (zdh PassesOwn.never rfl (zbp rfl m_range (zaa zaf zab)) (zaj (i:=2) sc_law.nd rfl (Or.inl rfl)) (zae (zcv (PW.pt (pw_and (zaq op_gt (pv 2) zaf (nomark _)) (pw_and1 (zaq op_ge (zat zcr (pv 1) zaf (fun _ _=>rfl)) (zai zas rfl m_len PySem.boot_len (zaa (pv 0) zab)) (nomark _))))) (zag ps_break) zbg) (zae (zaw (i:=3) sc_law.nd rfl (Or.inl rfl) (zah G1 hr rfl D1.m D1.F.kp D1.b .nil pass0 (zaa (pv 1) (zaa (zan zbr zaf (zah G2 hr rfl D2.m D2.F.kp D2.b .nil pass0 (zaa (pv 1) (zaa zaf zab)))) zab)))) (zae (zdh PassesOwn.never rfl (zcy (zda (zaa (zah G3 hr rfl D3.m D3.F.kp D3.b .nil pass0 (zaa (pv 1) (zaa zaf zab))) (zaa (pv 3) (zaa (zah G4 hr rfl D4.m D4.F.kp D4.b .nil pass0 (zaa (pv 1) (zaa (pv 3) zab))) zab))))) (zaj (i:=4) sc_law.nd rfl (Or.inl rfl)) (zag (zcv (pt_not (zdg (zah G5 hr rfl D5.m D5.F.kp D5.b .nil pass0 (zaa (pv 4) zab)))) (zag (zak pe_bl)) zbg))) (zae (zdh PassesOwn.never rfl (zcy (zda (zaa (zah G6 hr rfl D6.m D6.F.kp D6.b .nil pass0 (zaa (pv 1) zab)) (zaa (zah G7 hr rfl D7.m D7.F.kp D7.b .nil pass0 (zaa (pv 1) (zaa (zan zbr zaf (zan zdj zaf (zah G2 hr rfl D2.m D2.F.kp D2.b .nil pass0 (zaa (pv 1) (zaa zaf zab))))) zab))) zab)))) (zaj (i:=4) sc_law.nd rfl (Or.inl rfl)) (zag (zcv (pt_not (zdg (zah G5 hr rfl D5.m D5.F.kp D5.b .nil pass0 (zaa (zah G8 hr rfl D8.m D8.F.kp D8.b .nil pass0 (zaa (pv 4) (zaa (zah G9 hr rfl D9.m D9.F.kp D9.b .nil pass0 (zaa (pv 1) (zaa (zat zar (pv 4) zaf (fun _ _=>rfl)) zab))) zab))) zab)))) (zag (zak pe_bl)) zbg))) (zae (zaw (i:=5) sc_law.nd rfl (Or.inl rfl) (zan zbr zaf (zah G2 hr rfl D2.m D2.F.kp D2.b .nil pass0 (zaa (pv 1) (zaa zaf zab))))) (zae (ps_par (i:=4) (j:=6) rfl sc_law.nd rfl rfl (by decide) rfl rfl (zaa (zah G1 hr rfl D1.m D1.F.kp D1.b .nil pass0 (zaa (pv 1) (zaa (pv 5) zab))) (zaa (zah G1 hr rfl D1.m D1.F.kp D1.b .nil pass0 (zaa (pv 1) (zaa (pv 5) zab))) zab)) rfl) (zag (zdh PassesOwn.never rfl (zcy (zda (zaa (zbk (zaa (pv 4) (zaa (pv 6) zab))) (zaa (zbk (zaa (pv 4) (zaa (pv 4) zab))) zab)))) (zaj (i:=7) sc_law.nd rfl (Or.inl rfl)) (zae (zaw (i:=8) sc_law.nd rfl (Or.inl rfl) (zah G10 hr rfl D10.m D10.F.kp D10.b .nil pass0 (zaa (zat zar (pv 7) zaf (fun _ _=>rfl)) (zaa (zat zar (pv 7) zaf (fun _ _=>rfl)) zab)))) (zag (zcv (pt_not (zdg (zah G5 hr rfl D5.m D5.F.kp D5.b .nil pass0 (zaa (zah G8 hr rfl D8.m D8.F.kp D8.b .nil pass0 (zaa (pv 8) (zaa (zah G9 hr rfl D9.m D9.F.kp D9.b .nil pass0 (zaa (pv 1) (zaa (zat zar (pv 8) zaf (fun _ _=>rfl)) zab))) zab))) zab)))) (zag (zak pe_bl)) zbg)))))))))))) (zag (zak pe_bl)))),?_⟩
 refine⟨_,rfl,(by show 3<=sizeLine;decide),fun cp hcp=> ?_⟩
 have c0:=cup_new hS h63 hcp
 dsimp only
 refine seq_midE (fun σ' H'=>True) (fun N hN=> ?_) (fun σ' H' hI=>q H')
 refine⟨4,rfl,by decide,by decide,?_⟩
 refine zcq (n:=4) (fun k σ H'=>CupV K H' cp a ns (1000*(k:Int))/\∃b2 b3 b4 b5 b6 b7 b8,σ=[some (.ref a),some (.ref cp),b2,b3,b4,b5,b6,b7,b8]) ⟨c0.mono (by omega),_,_,_,_,_,_,_,rfl⟩ (fun k σ H' hk p=> ?_) (fun σ H' p=>hN _ _ trivial)
 obtain⟨c,b2,b3,b4,b5,b6,b7,b8,rfl⟩:=p
 refine test_any (K:=K) (r:=[b3,b4,b5,b6,b7,b8]) c.tv (fun b=> ?_)
 cases b with
 |true=>exact hN _ _ trivial
 |false=>
  refine iteF ?_
  dsimp only[tNext]
  refine⟨_,rfl,_,rfl,cp,a,ns,8,_,rfl,c,by omega,by decide,by decide,fun u H2 u0 u1 x2 c2=>⟨_,_,rfl,rfl,cp,a,ns,3+u,_,rfl,c2,by omega,by omega,by omega,fun wb ts H3 x3 c3 W3=> ?_⟩⟩
  clear c0 c c2 x2 x3
  -- three webs
  refine⟨_,rfl,cp,a,ns,6,_,rfl,c3,by omega,by decide,by decide,fun w4 n4 ts4 H4 x4 c4 W4=> ?_⟩
  obtain⟨z3,hz3⟩:=c3.lst
  have W34:=W3.samex x4 hz3
  refine⟨_,rfl,_,rfl,_,rfl,cp,a,wb,ns,3+u,_,ts,rfl,c4,by omega,W34,by omega,fun w5 ts5 H5 x5 c5 W5=> ?_⟩
  obtain⟨z4,hz4⟩:=c4.lst
  have W35:=W34.samex x5 hz4
  have W45:=W4.samex x5 hz4
  refine⟨(by show 3<=sizeLine;decide),fun l6 hl6=> ?_⟩
  have s6:=zad hl6 (.lst [.ref w4,.ref wb,.ref w5])
  have e6:(upd H5 l6 (.lst [.ref w4,.ref wb,.ref w5])) l6=some (.lst [.ref w4,.ref wb,.ref w5]):=zac
  have c6:=c5.same s6
  have all6:∀x∈[V.ref w4,V.ref wb,V.ref w5],∃(r:Addr) (n:Int) (us:List (Int×Int)),x= .ref r/\WebIs K (upd H5 l6 (.lst [.ref w4,.ref wb,.ref w5])) r n us:=fun x hx=>by
   rcases List.mem_cons.mp hx with z|z
   ·exact⟨w4,_,_,z,W45.same s6⟩
   ·rcases List.mem_cons.mp z with z|z
    ·exact⟨wb,_,_,z,W35.same s6⟩
    ·exact⟨w5,_,_,List.mem_singleton.mp z,W5.same s6⟩
  try dsimp only at e6 c6 all6
  generalize upd H5 l6 (.lst [.ref w4,.ref wb,.ref w5])=H6 at *
  refine⟨l6,_,rfl,SqL.of e6,fun hz=> ?_⟩
  refine for_list (K:=K) (a:=l6) (xs:=[.ref w4,.ref wb,.ref w5]) (fun j σ H'=>Same H6 H'/\∃b2 b4,σ=[some (.ref a),some (.ref cp),b2,some (.ref wb),b4,b5,b6,b7,b8]) ⟨Same.refl _,_,_,rfl⟩ (fun j σ H' _ p=>p.1.seq (SqL.of e6)) (fun j x σ H7 hx p=> ?_) (fun σ H7 p=> ?_)
  ·obtain⟨s7,b2,b4,rfl⟩:=p
   obtain⟨r,n,us,rfl,W⟩:=all6 x (List.mem_of_getElem? hx)
   exact⟨_,rfl,r,n,us,rfl,W.same s7,fun H8 s8=>⟨_,rfl,iteF ⟨s7.trans s8,_,_,rfl⟩⟩⟩
  obtain⟨s7,b2',b4',rfl⟩:=p
  have c7:=(c6.same s7).mono (show 1000*(k:Int)+1+40+121+2<=1000*(k:Int)+200 by omega)
  clear all6 e6 s6 W35 W45 W34 W5 W4 W3 c6 c5 c4 c3 s7
  -- two more, moved
  refine⟨_,rfl,cp,a,ns,_,rfl,c7,by omega,fun w8 n8 ts8 H8 x8 c8 W8=> ?_⟩
  obtain⟨z8,hz8⟩:=c8.lst
  refine⟨_,rfl,_,rfl,cp,a,ns,3,_,rfl,c8,by omega,by decide,by decide,fun d H9 d0 d1 x9 c9=>⟨_,_,rfl,rfl,.inl ⟨by decide,by decide⟩,_,_,rfl,rfl,cp,a,ns,_,_,rfl,c9,by omega,by omega,by omega,fun w10 ts10 Ha xa ca Wa=> ?_⟩⟩
  obtain⟨z9,hz9⟩:=c9.lst
  have W8a:=(W8.samex x9 hz8).samex xa hz9
  refine⟨(by show 2<=sizeLine;decide),fun l11 hl11=> ?_⟩
  have sb:=zad hl11 (.lst [.ref w8,.ref w10])
  have eb:(upd Ha l11 (.lst [.ref w8,.ref w10])) l11=some (.lst [.ref w8,.ref w10]):=zac
  have cb:=ca.same sb
  have allb:∀x∈[V.ref w8,V.ref w10],∃(r:Addr) (n:Int) (us:List (Int×Int)),x= .ref r/\WebIs K (upd Ha l11 (.lst [.ref w8,.ref w10])) r n us:=fun x hx=>by
   rcases List.mem_cons.mp hx with z|z
   ·exact⟨w8,_,_,z,W8a.same sb⟩
   ·exact⟨w10,_,_,List.mem_singleton.mp z,Wa.same sb⟩
  have ncp:l11≠cp:=by
   obtain⟨z,hz⟩:=ca.lst
   exact none_ne' hz hl11
  have cb':=cb.mono (show 1000*(k:Int)+200+2+1+10<=1000*(k:Int)+300 by omega)
  try dsimp only at eb cb' allb
  generalize upd Ha l11 (.lst [.ref w8,.ref w10])=Hb at *
  refine⟨l11,_,rfl,SqL.of eb,fun hz=> ?_⟩
  refine for_list (K:=K) (a:=l11) (xs:=[.ref w8,.ref w10]) (fun j σ H'=>SameX cp Hb H'/\CupV K H' cp a ns (1000*(k:Int)+300+10*(j:Int))/\∃b2 b4,σ=[some (.ref a),some (.ref cp),b2,some (.ref wb),b4,b5,b6,b7,b8]) ⟨SameX.refl _ _,cb'.mono (by omega),_,_,rfl⟩ (fun j σ H' _ p=>SqL.of (p.1 _ _ ncp eb)) (fun j x σ Hc hx p=> ?_) (fun σ Hc p=> ?_)
  ·obtain⟨xc,cc,b2,b4,rfl⟩:=p
   have hj:j<2:=(List.getElem?_eq_some_iff.mp hx).1
   obtain⟨r,n,us,rfl,W⟩:=allb x (List.mem_of_getElem? hx)
   obtain⟨zb,hzb⟩:=cb'.lst
   have Wc:=W.samex xc hzb
   obtain⟨tw,rw',w1,w2,w3⟩:=id Wc.web
   have n0:=Wc.h0
   have n1:=Wc.h1
   refine⟨_,rfl,_,rfl,_,rfl,r,_,_,.int n,rfl,rfl,w1,rfl,cp,a,ns,n,_,rfl,cc,by omega,n0,n1,fun o xs Hd xd cd ho hperm=> ?_⟩
   obtain⟨zc,hzc⟩:=cc.lst
   refine⟨r,o,n,us,xs,rfl,Wc.samex xd hzc,ho,hperm,fun r' us' He se We=> ?_⟩
   refine⟨r',n,us',rfl,We,fun Hf sf=>⟨_,rfl,iteF ⟨(xc.trans xd).trans ((se.trans sf).x cp),((cd.same se).same sf).mono (by omega),_,_,rfl⟩⟩⟩
  obtain⟨xc,cc,b2,b4,rfl⟩:=p
  have c13:=cc.mono (show 1000*(k:Int)+300+10*(([V.ref w8,V.ref w10].length:Nat):Int)<=1000*(k:Int)+320 by show _+10*((2:Nat):Int)<=_;omega)
  clear xc cc cb' cb allb eb sb W8a Wa W8 ca c9 c8 c7 xa x9 x8
  -- pairs of rounds
  refine⟨_,rfl,cp,a,ns,4,_,rfl,c13,by omega,by decide,by decide,fun d Hd d0 d1 xd cd=>⟨_,_,rfl,rfl,?_⟩⟩
  refine⟨_,rfl,_,rfl,cp,a,ns,2+d,_,rfl,cd,by omega,by omega,by omega,fun wo tso He xe ce We=> ?_⟩
  refine⟨_,rfl,_,rfl,cp,a,ns,2+d,_,rfl,ce,by omega,by omega,by omega,fun wq tsq Hf xf cf Wf=> ?_⟩
  obtain⟨ze,hze⟩:=ce.lst
  have We':=We.samex xf hze
  refine⟨.ref wo,.ref wq,rfl,?_⟩
  have Wog:=We'
  have Wqg:=Wf
  have cg:=cf
  refine⟨_,rfl,_,rfl,(by show 2<=sizeLine;decide),fun t1 ht1=> ?_⟩
  have sh1:=zad ht1 (.tup [.ref wo,.ref wq])
  have k1:(upd Hf t1 (.tup [.ref wo,.ref wq])) t1=some (.tup [.ref wo,.ref wq]):=zac
  have Woh:=Wog.same sh1
  have Wqh:=Wqg.same sh1
  have ch:=cg.same sh1
  try dsimp only at k1 Woh Wqh ch
  generalize upd Hf t1 (.tup [.ref wo,.ref wq])=Hh at *
  refine⟨_,rfl,_,rfl,(by show 2<=sizeLine;decide),fun t2 ht2=> ?_⟩
  have si:=zad ht2 (.tup [.ref wo,.ref wo])
  have k2:(upd Hh t2 (.tup [.ref wo,.ref wo])) t2=some (.tup [.ref wo,.ref wo]):=zac
  have k1i:=si _ _ k1
  have Woi:=Woh.same si
  have Wqi:=Wqh.same si
  have ci:=ch.same si
  try dsimp only at k2 k1i Woi Wqi ci
  generalize upd Hh t2 (.tup [.ref wo,.ref wo])=Hi at *
  refine⟨(by show 2<=sizeLine;decide),fun lj hlj=> ?_⟩
  have sj:=zad hlj (.lst [.ref t1,.ref t2])
  have ej:(upd Hi lj (.lst [.ref t1,.ref t2])) lj=some (.lst [.ref t1,.ref t2]):=zac
  have njc:lj≠cp:=by
   obtain⟨z,hz⟩:=ci.lst
   exact none_ne' hz hlj
  have cj:=(ci.same sj).mono (show 1000*(k:Int)+320+1+40+40<=1000*(k:Int)+500 by omega)
  have allj:∀x∈[V.ref t1,V.ref t2],∃(t r r':Addr) (us us':List (Int×Int)),x= .ref t/\SqT K (upd Hi lj (.lst [.ref t1,.ref t2])) t [.ref r,.ref r']/\WebIs K (upd Hi lj (.lst [.ref t1,.ref t2])) r (2+d) us/\WebIs K (upd Hi lj (.lst [.ref t1,.ref t2])) r' (2+d) us':=fun x hx=>by
   rcases List.mem_cons.mp hx with z|z
   ·exact⟨t1,wo,wq,_,_,z,SqT.of (sj _ _ k1i),Woi.same sj,Wqi.same sj⟩
   ·exact⟨t2,wo,wo,_,_,List.mem_singleton.mp z,SqT.of (sj _ _ k2),Woi.same sj,Woi.same sj⟩
  try dsimp only at ej cj allj
  generalize upd Hi lj (.lst [.ref t1,.ref t2])=Hj at *
  refine⟨lj,_,rfl,SqL.of ej,fun hz=> ?_⟩
  refine for_list (K:=K) (a:=lj) (xs:=[.ref t1,.ref t2]) (fun j σ H'=>SameX cp Hj H'/\CupV K H' cp a ns (1000*(k:Int)+500+10*(j:Int))/\∃b2 b3 b4 b5 b6 b7 b8,σ=[some (.ref a),some (.ref cp),b2,b3,b4,b5,b6,b7,b8]) ⟨SameX.refl _ _,cj.mono (by omega),_,_,_,_,_,_,_,rfl⟩ (fun j σ H' _ p=>SqL.of (p.1 _ _ njc ej)) (fun j x σ Hk hx p=> ?_) (fun σ Hk p=> ?_)
  ·obtain⟨xk,ck,b2,b3,b4,b5,b6,b7,b8,rfl⟩:=p
   have hj:j<2:=(List.getElem?_eq_some_iff.mp hx).1
   obtain⟨t,r,r',us,us',rfl,ht,W,W'⟩:=allj x (List.mem_of_getElem? hx)
   obtain⟨zj,hzj⟩:=cj.lst
   have htk:=xk.tup hzj ht
   have Wk:=W.samex xk hzj
   have Wk':=W'.samex xk hzj
   refine⟨_,rfl,t,_,_,.ref r,rfl,rfl,htk,rfl,_,rfl,t,_,_,.ref r',rfl,rfl,htk,rfl,r,r',2+d,2+d,us,us',rfl,Wk,Wk',by omega,fun rb usb Hl sl Wl=> ?_⟩
   obtain⟨tw,rw',w1,w2,w3⟩:=id Wl.web
   have n0:=Wl.h0
   have n1:=Wl.h1
   refine⟨_,rfl,_,rfl,_,rfl,rb,_,_,.int (2+d+(2+d)),rfl,rfl,w1,rfl,cp,a,ns,_,_,rfl,ck.same sl,by omega,n0,n1,fun o xs Hm xm cm ho hperm=> ?_⟩
   obtain⟨zl,hzl⟩:=(ck.same sl).lst
   refine⟨rb,o,_,usb,xs,rfl,Wl.samex xm hzl,ho,hperm,fun rn usn Hn sn Wn=> ?_⟩
   exact⟨rn,_,usn,rfl,Wn,fun Ho so=>⟨_,rfl,iteF ⟨(xk.trans (sl.x cp)).trans (xm.trans ((sn.trans so).x cp)),((cm.same sn).same so).mono (by omega),_,_,_,_,_,_,_,rfl⟩⟩⟩
  ·obtain⟨xk,ck,b2,b3,b4,b5,b6,b7,b8,rfl⟩:=p
   exact⟨ck.mono (by show 1000*(k:Int)+500+10*((2:Nat):Int)<=1000*(((k+1:Nat)):Int);omega),_,_,_,_,_,_,_,rfl⟩
end
end Hs
namespace Hs
open PySem L2 HsD
theorem len_1{α:Type}:∀{us:List α},us.length=1->∃a,us=[a]
 |[a],_=>⟨a,rfl⟩
theorem len_2{α:Type}:∀{us:List α},us.length=2->∃a b,us=[a,b]
 |[a,b],_=>⟨a,b,rfl⟩
theorem len_3{α:Type}:∀{us:List α},us.length=3->∃a b c,us=[a,b,c]
 |[a,b,c],_=>⟨a,b,c,rfl⟩
theorem len_4{α:Type}:∀{us:List α},us.length=4->∃a b c d,us=[a,b,c,d]
 |[a,b,c,d],_=>⟨a,b,c,d,rfl⟩
theorem all_mk{l:W.OpenLaw}{w:World}{K:W.Frag}{h:Heap}{mg:Str->Option Value}{fa:Addr}(X:K.In h)(G:h.Ns mainGlobals mg)(hfa:mg "law"=some (.ref fa)){f0 f1 f2 f3 f4 f5 f6 f7 f8 f9 f10 f11 f12 f13 f14 f15 f16 f17 f18 f19 f20 f21 f22 f23 f24 f25 f26 f27 f28 f29 f30 f31 f32 f33 f34 f35 f36 f37 f38 f39 f40 f41:Addr}{od0 an0 od1 an1 od2 an2 od3 an3 od4 an4 od5 an5 od6 an6 od7 an7 od8 an8 od9 an9 od10 an10 od11 an11 od12 an12 od13 an13 od14 an14 od15 an15 od16 an16 od17 an17 od18 an18 od19 an19 od20 an20 od21 an21 od22 an22 od23 an23 od24 an24 od25 an25 od26 an26 od27 an27 od28 an28 od29 an29 od30 an30 od31 an31 od32 an32 od33 an33 od34 an34 od35 an35 od36 an36 od37 an37 od38 an38 od39 an39 od40 an40 od41 an41:Option Addr}{sl0 sl1 sl2 sl3 sl4 sl5 sl6 sl7 sl8 sl9 sl10 sl11 sl12 sl13 sl14 sl15 sl16 sl17 sl18 sl19 sl20 sl21 sl22 sl23 sl24 sl25 sl26 sl27 sl28 sl29 sl30 sl31 sl32 sl33 sl34 sl35 sl36 sl37 sl38 sl39 sl40 sl41:Array (Option Value)}{oc0 kV0 dc0 pm0 cd0 ct0 oc1 kV1 dc1 pm1 cd1 ct1 oc2 kV2 dc2 pm2 cd2 ct2 oc3 kV3 dc3 pm3 cd3 ct3 oc4 kV4 dc4 pm4 cd4 ct4 oc5 kV5 dc5 pm5 cd5 ct5 oc6 kV6 dc6 pm6 cd6 ct6 oc7 kV7 dc7 pm7 cd7 ct7 oc8 kV8 dc8 pm8 cd8 ct8 oc9 kV9 dc9 pm9 cd9 ct9 oc10 kV10 dc10 pm10 cd10 ct10 oc11 kV11 dc11 pm11 cd11 ct11 oc12 kV12 dc12 pm12 cd12 ct12 oc13 kV13 dc13 pm13 cd13 ct13 oc14 kV14 dc14 pm14 cd14 ct14 oc15 kV15 dc15 pm15 cd15 ct15 oc16 kV16 dc16 pm16 cd16 ct16 oc17 kV17 dc17 pm17 cd17 ct17 oc18 kV18 dc18 pm18 cd18 ct18 oc19 kV19 dc19 pm19 cd19 ct19 oc20 kV20 dc20 pm20 cd20 ct20 oc21 kV21 dc21 pm21 cd21 ct21 oc22 kV22 dc22 pm22 cd22 ct22 oc23 kV23 dc23 pm23 cd23 ct23 oc24 kV24 dc24 pm24 cd24 ct24 oc25 kV25 dc25 pm25 cd25 ct25 oc26 kV26 dc26 pm26 cd26 ct26 oc27 kV27 dc27 pm27 cd27 ct27 oc28 kV28 dc28 pm28 cd28 ct28 oc29 kV29 dc29 pm29 cd29 ct29 oc30 kV30 dc30 pm30 cd30 ct30 oc31 kV31 dc31 pm31 cd31 ct31 oc32 kV32 dc32 pm32 cd32 ct32 oc33 kV33 dc33 pm33 cd33 ct33 oc34 kV34 dc34 pm34 cd34 ct34 oc35 kV35 dc35 pm35 cd35 ct35 oc36 kV36 dc36 pm36 cd36 ct36 oc37 kV37 dc37 pm37 cd37 ct37 oc38 kV38 dc38 pm38 cd38 ct38 oc39 kV39 dc39 pm39 cd39 ct39 oc40 kV40 dc40 pm40 cd40 ct40 oc41 kV41 dc41 pm41 cd41 ct41:Value}{tk0:Tok}(a0:W.nsIn K mainGlobals "is_whole"=some (some (.ref f0)))(l0:K.lookup f0=some ⟨oc0,od0,.func (W.fnOf "is_whole" "is_whole" (defArgs zco) (defBody zco) (defScope zco) .none kV0 dc0 pm0 an0 cd0 ct0),sl0⟩)(c0:W.codeIn K cd0 "is_whole"=true)(k0:W.keepIn K (.ref f0)=true)(a1:W.nsIn K mainGlobals "is_place"=some (some (.ref f1)))(l1:K.lookup f1=some ⟨oc1,od1,.func (W.fnOf "is_place" "is_place" (defArgs zcs) (defBody zcs) (defScope zcs) .none kV1 dc1 pm1 an1 cd1 ct1),sl1⟩)(c1:W.codeIn K cd1 "is_place"=true)(k1:W.keepIn K (.ref f1)=true)(a2:W.nsIn K mainGlobals "are_places"=some (some (.ref f2)))(l2:K.lookup f2=some ⟨oc2,od2,.func (W.fnOf "are_places" "are_places" (defArgs zce) (defBody zce) (defScope zce) .none kV2 dc2 pm2 an2 cd2 ct2),sl2⟩)(c2:W.codeIn K cd2 "are_places"=true)(k2:W.keepIn K (.ref f2)=true)(a3:W.nsIn K mainGlobals "is_rising"=some (some (.ref f3)))(l3:K.lookup f3=some ⟨oc3,od3,.func (W.fnOf "is_rising" "is_rising" (defArgs zcf) (defBody zcf) (defScope zcf) .none kV3 dc3 pm3 an3 cd3 ct3),sl3⟩)(c3:W.codeIn K cd3 "is_rising"=true)(k3:W.keepIn K (.ref f3)=true)(a4:W.nsIn K mainGlobals "is_set"=some (some (.ref f4)))(l4:K.lookup f4=some ⟨oc4,od4,.func (W.fnOf "is_set" "is_set" (defArgs s_is_set) (defBody s_is_set) (defScope s_is_set) .none kV4 dc4 pm4 an4 cd4 ct4),sl4⟩)(c4:W.codeIn K cd4 "is_set"=true)(k4:W.keepIn K (.ref f4)=true)(a5:W.nsIn K mainGlobals "are_ties"=some (some (.ref f5)))(l5:K.lookup f5=some ⟨oc5,od5,.func (W.fnOf "are_ties" "are_ties" (defArgs zct) (defBody zct) (defScope zct) .none kV5 dc5 pm5 an5 cd5 ct5),sl5⟩)(c5:W.codeIn K cd5 "are_ties"=true)(k5:W.keepIn K (.ref f5)=true)(a6:W.nsIn K mainGlobals "is_web"=some (some (.ref f6)))(l6:K.lookup f6=some ⟨oc6,od6,.func (W.fnOf "is_web" "is_web" (defArgs s_is_web) (defBody s_is_web) (defScope s_is_web) .none kV6 dc6 pm6 an6 cd6 ct6),sl6⟩)(c6:W.codeIn K cd6 "is_web"=true)(k6:W.keepIn K (.ref f6)=true)(a7:W.nsIn K mainGlobals "need_web"=some (some (.ref f7)))(l7:K.lookup f7=some ⟨oc7,od7,.func (W.fnOf "need_web" "need_web" (defArgs zcn) (defBody zcn) (defScope zcn) .none kV7 dc7 pm7 an7 cd7 ct7),sl7⟩)(c7:W.codeIn K cd7 "need_web"=true)(k7:W.keepIn K (.ref f7)=true)(a8:W.nsIn K mainGlobals "has_tie"=some (some (.ref f8)))(l8:K.lookup f8=some ⟨oc8,od8,.func (W.fnOf "has_tie" "has_tie" (defArgs zcu) (defBody zcu) (defScope zcu) .none kV8 dc8 pm8 an8 cd8 ct8),sl8⟩)(c8:W.codeIn K cd8 "has_tie"=true)(k8:W.keepIn K (.ref f8)=true)(a9:W.nsIn K mainGlobals "places_by_tie"=some (some (.ref f9)))(l9:K.lookup f9=some ⟨oc9,od9,.func (W.fnOf "places_by_tie" "places_by_tie" (defArgs zbh) (defBody zbh) (defScope zbh) .none kV9 dc9 pm9 an9 cd9 ct9),sl9⟩)(c9:W.codeIn K cd9 "places_by_tie"=true)(k9:W.keepIn K (.ref f9)=true)(a10:W.nsIn K mainGlobals "in_both"=some (some (.ref f10)))(l10:K.lookup f10=some ⟨oc10,od10,.func (W.fnOf "in_both" "in_both" (defArgs zcz) (defBody zcz) (defScope zcz) .none kV10 dc10 pm10 an10 cd10 ct10),sl10⟩)(c10:W.codeIn K cd10 "in_both"=true)(k10:W.keepIn K (.ref f10)=true)(a11:W.nsIn K mainGlobals "full_sets"=some (some (.ref f11)))(l11:K.lookup f11=some ⟨oc11,od11,.func (W.fnOf "full_sets" "full_sets" (defArgs zcj) (defBody zcj) (defScope zcj) .none kV11 dc11 pm11 an11 cd11 ct11),sl11⟩)(c11:W.codeIn K cd11 "full_sets"=true)(k11:W.keepIn K (.ref f11)=true)(a12:W.nsIn K mainGlobals "full_apart"=some (some (.ref f12)))(l12:K.lookup f12=some ⟨oc12,od12,.func (W.fnOf "full_apart" "full_apart" (defArgs zcd) (defBody zcd) (defScope zcd) .none kV12 dc12 pm12 an12 cd12 ct12),sl12⟩)(c12:W.codeIn K cd12 "full_apart"=true)(k12:W.keepIn K (.ref f12)=true)(a13:W.nsIn K mainGlobals "first_greatest"=some (some (.ref f13)))(l13:K.lookup f13=some ⟨oc13,od13,.func (W.fnOf "first_greatest" "first_greatest" (defArgs zbf) (defBody zbf) (defScope zbf) .none kV13 dc13 pm13 an13 cd13 ct13),sl13⟩)(c13:W.codeIn K cd13 "first_greatest"=true)(k13:W.keepIn K (.ref f13)=true)(a14:W.nsIn K mainGlobals "greatest_apart"=some (some (.ref f14)))(l14:K.lookup f14=some ⟨oc14,od14,.func (W.fnOf "greatest_apart" "greatest_apart" (defArgs zbe) (defBody zbe) (defScope zbe) .none kV14 dc14 pm14 an14 cd14 ct14),sl14⟩)(c14:W.codeIn K cd14 "greatest_apart"=true)(k14:W.keepIn K (.ref f14)=true)(a15:W.nsIn K mainGlobals "greatest_divisor"=some (some (.ref f15)))(l15:K.lookup f15=some ⟨oc15,od15,.func (W.fnOf "greatest_divisor" "greatest_divisor" (defArgs zav) (defBody zav) (defScope zav) .none kV15 dc15 pm15 an15 cd15 ct15),sl15⟩)(c15:W.codeIn K cd15 "greatest_divisor"=true)(k15:W.keepIn K (.ref f15)=true)(a16:W.nsIn K mainGlobals "lowest"=some (some (.ref f16)))(l16:K.lookup f16=some ⟨oc16,od16,.func (W.fnOf "lowest" "lowest" (defArgs zdl) (defBody zdl) (defScope zdl) .none kV16 dc16 pm16 an16 cd16 ct16),sl16⟩)(c16:W.codeIn K cd16 "lowest"=true)(k16:W.keepIn K (.ref f16)=true)(a17:W.nsIn K mainGlobals "count_ties_at"=some (some (.ref f17)))(l17:K.lookup f17=some ⟨oc17,od17,.func (W.fnOf "count_ties_at" "count_ties_at" (defArgs zbj) (defBody zbj) (defScope zbj) .none kV17 dc17 pm17 an17 cd17 ct17),sl17⟩)(c17:W.codeIn K cd17 "count_ties_at"=true)(k17:W.keepIn K (.ref f17)=true)(a18:W.nsIn K mainGlobals "can_go_on"=some (some (.ref f18)))(l18:K.lookup f18=some ⟨oc18,od18,.func (W.fnOf "can_go_on" "can_go_on" (defArgs zbx) (defBody zbx) (defScope zbx) .none kV18 dc18 pm18 an18 cd18 ct18),sl18⟩)(c18:W.codeIn K cd18 "can_go_on"=true)(k18:W.keepIn K (.ref f18)=true)(a19:W.nsIn K mainGlobals "turnings_from"=some (some (.ref f19)))(l19:K.lookup f19=some ⟨oc19,od19,.func (W.fnOf "turnings_from" "turnings_from" (defArgs zao) (defBody zao) (defScope zao) .none kV19 dc19 pm19 an19 cd19 ct19),sl19⟩)(c19:W.codeIn K cd19 "turnings_from"=true)(k19:W.keepIn K (.ref f19)=true)(a20:W.nsIn K mainGlobals "leads_first_to"=some (some (.ref f20)))(l20:K.lookup f20=some ⟨oc20,od20,.func (W.fnOf "leads_first_to" "leads_first_to" (defArgs zbc) (defBody zbc) (defScope zbc) .none kV20 dc20 pm20 an20 cd20 ct20),sl20⟩)(c20:W.codeIn K cd20 "leads_first_to"=true)(k20:W.keepIn K (.ref f20)=true)(a21:W.nsIn K mainGlobals "is_alike"=some (some (.ref f21)))(l21:K.lookup f21=some ⟨oc21,od21,.func (W.fnOf "is_alike" "is_alike" (defArgs zcp) (defBody zcp) (defScope zcp) .none kV21 dc21 pm21 an21 cd21 ct21),sl21⟩)(c21:W.codeIn K cd21 "is_alike"=true)(k21:W.keepIn K (.ref f21)=true)(a22:W.nsIn K mainGlobals "alike_value"=some (some (.ref f22)))(l22:K.lookup f22=some ⟨oc22,od22,.func (W.fnOf "alike_value" "alike_value" (defArgs zbv) (defBody zbv) (defScope zbv) .none kV22 dc22 pm22 an22 cd22 ct22),sl22⟩)(c22:W.codeIn K cd22 "alike_value"=true)(k22:W.keepIn K (.ref f22)=true)(a23:W.nsIn K mainGlobals "_law_e_stir"=some (some (.ref f23)))(l23:K.lookup f23=some ⟨oc23,od23,.func (W.fnOf "_law_e_stir" "_law_e_stir" (defArgs zca) (defBody zca) (defScope zca) .none kV23 dc23 pm23 an23 cd23 ct23),sl23⟩)(c23:W.codeIn K cd23 "_law_e_stir"=true)(k23:W.keepIn K (.ref f23)=true)(a24:W.nsIn K mainGlobals "_law_e_dip"=some (some (.ref f24)))(l24:K.lookup f24=some ⟨oc24,od24,.func (W.fnOf "_law_e_dip" "_law_e_dip" (defArgs zay) (defBody zay) (defScope zay) .none kV24 dc24 pm24 an24 cd24 ct24),sl24⟩)(c24:W.codeIn K cd24 "_law_e_dip"=true)(k24:W.keepIn K (.ref f24)=true)(a25:W.nsIn K mainGlobals "_law_e_web_of"=some (some (.ref f25)))(l25:K.lookup f25=some ⟨oc25,od25,.func (W.fnOf "_law_e_web_of" "_law_e_web_of" (defArgs zbo) (defBody zbo) (defScope zbo) .none kV25 dc25 pm25 an25 cd25 ct25),sl25⟩)(c25:W.codeIn K cd25 "_law_e_web_of"=true)(k25:W.keepIn K (.ref f25)=true)(a26:W.nsIn K mainGlobals "_law_e_web"=some (some (.ref f26)))(l26:K.lookup f26=some ⟨oc26,od26,.func (W.fnOf "_law_e_web" "_law_e_web" (defArgs zci) (defBody zci) (defScope zci) .none kV26 dc26 pm26 an26 cd26 ct26),sl26⟩)(c26:W.codeIn K cd26 "_law_e_web"=true)(k26:W.keepIn K (.ref f26)=true)(a27:W.nsIn K mainGlobals "_law_e_tied"=some (some (.ref f27)))(l27:K.lookup f27=some ⟨oc27,od27,.func (W.fnOf "_law_e_tied" "_law_e_tied" (defArgs zbi) (defBody zbi) (defScope zbi) .none kV27 dc27 pm27 an27 cd27 ct27),sl27⟩)(c27:W.codeIn K cd27 "_law_e_tied"=true)(k27:W.keepIn K (.ref f27)=true)(a28:W.nsIn K mainGlobals "_law_e_apart_sets"=some (some (.ref f28)))(l28:K.lookup f28=some ⟨oc28,od28,.func (W.fnOf "_law_e_apart_sets" "_law_e_apart_sets" (defArgs zau) (defBody zau) (defScope zau) .none kV28 dc28 pm28 an28 cd28 ct28),sl28⟩)(c28:W.codeIn K cd28 "_law_e_apart_sets"=true)(k28:W.keepIn K (.ref f28)=true)(a29:W.nsIn K mainGlobals "_law_e_part"=some (some (.ref f29)))(l29:K.lookup f29=some ⟨oc29,od29,.func (W.fnOf "_law_e_part" "_law_e_part" (defArgs zcb) (defBody zcb) (defScope zcb) .none kV29 dc29 pm29 an29 cd29 ct29),sl29⟩)(c29:W.codeIn K cd29 "_law_e_part"=true)(k29:W.keepIn K (.ref f29)=true)(a30:W.nsIn K mainGlobals "_law_e_moved"=some (some (.ref f30)))(l30:K.lookup f30=some ⟨oc30,od30,.func (W.fnOf "_law_e_moved" "_law_e_moved" (defArgs zbm) (defBody zbm) (defScope zbm) .none kV30 dc30 pm30 an30 cd30 ct30),sl30⟩)(c30:W.codeIn K cd30 "_law_e_moved"=true)(k30:W.keepIn K (.ref f30)=true)(a31:W.nsIn K mainGlobals "_law_e_order"=some (some (.ref f31)))(l31:K.lookup f31=some ⟨oc31,od31,.func (W.fnOf "_law_e_order" "_law_e_order" (defArgs zbl) (defBody zbl) (defScope zbl) .none kV31 dc31 pm31 an31 cd31 ct31),sl31⟩)(c31:W.codeIn K cd31 "_law_e_order"=true)(k31:W.keepIn K (.ref f31)=true)(a32:W.nsIn K mainGlobals "_law_e_round_web"=some (some (.ref f32)))(l32:K.lookup f32=some ⟨oc32,od32,.func (W.fnOf "_law_e_round_web" "_law_e_round_web" (defArgs zba) (defBody zba) (defScope zba) .none kV32 dc32 pm32 an32 cd32 ct32),sl32⟩)(c32:W.codeIn K cd32 "_law_e_round_web"=true)(k32:W.keepIn K (.ref f32)=true)(a33:W.nsIn K mainGlobals "_law_e_turned_on"=some (some (.ref f33)))(l33:K.lookup f33=some ⟨oc33,od33,.func (W.fnOf "_law_e_turned_on" "_law_e_turned_on" (defArgs zam) (defBody zam) (defScope zam) .none kV33 dc33 pm33 an33 cd33 ct33),sl33⟩)(c33:W.codeIn K cd33 "_law_e_turned_on"=true)(k33:W.keepIn K (.ref f33)=true)(a34:W.nsIn K mainGlobals "_law_e_is_alike"=some (some (.ref f34)))(l34:K.lookup f34=some ⟨oc34,od34,.func (W.fnOf "_law_e_is_alike" "_law_e_is_alike" (defArgs zbd) (defBody zbd) (defScope zbd) .none kV34 dc34 pm34 an34 cd34 ct34),sl34⟩)(c34:W.codeIn K cd34 "_law_e_is_alike"=true)(k34:W.keepIn K (.ref f34)=true)(a35:W.nsIn K mainGlobals "_law_e_right"=some (some (.ref f35)))(l35:K.lookup f35=some ⟨oc35,od35,.func (W.fnOf "_law_e_right" "_law_e_right" (defArgs zbu) (defBody zbu) (defScope zbu) .none kV35 dc35 pm35 an35 cd35 ct35),sl35⟩)(c35:W.codeIn K cd35 "_law_e_right"=true)(k35:W.keepIn K (.ref f35)=true)(a36:W.nsIn K mainGlobals "_law_e_bent"=some (some (.ref f36)))(l36:K.lookup f36=some ⟨oc36,od36,.func (W.fnOf "_law_e_bent" "_law_e_bent" (defArgs zcc) (defBody zcc) (defScope zcc) .none kV36 dc36 pm36 an36 cd36 ct36),sl36⟩)(c36:W.codeIn K cd36 "_law_e_bent"=true)(k36:W.keepIn K (.ref f36)=true)(a37:W.nsIn K mainGlobals "_law_e_side_by_side"=some (some (.ref f37)))(l37:K.lookup f37=some ⟨oc37,od37,.func (W.fnOf "_law_e_side_by_side" "_law_e_side_by_side" (defArgs zal) (defBody zal) (defScope zal) .none kV37 dc37 pm37 an37 cd37 ct37),sl37⟩)(c37:W.codeIn K cd37 "_law_e_side_by_side"=true)(k37:W.keepIn K (.ref f37)=true)(a38:W.nsIn K mainGlobals "_law_e_ring_of"=some (some (.ref f38)))(l38:K.lookup f38=some ⟨oc38,od38,.func (W.fnOf "_law_e_ring_of" "_law_e_ring_of" (defArgs zbb) (defBody zbb) (defScope zbb) .none kV38 dc38 pm38 an38 cd38 ct38),sl38⟩)(c38:W.codeIn K cd38 "_law_e_ring_of"=true)(k38:W.keepIn K (.ref f38)=true)(a39:W.nsIn K mainGlobals "_law_e_two_rings"=some (some (.ref f39)))(l39:K.lookup f39=some ⟨oc39,od39,.func (W.fnOf "_law_e_two_rings" "_law_e_two_rings" (defArgs zaz) (defBody zaz) (defScope zaz) .none kV39 dc39 pm39 an39 cd39 ct39),sl39⟩)(c39:W.codeIn K cd39 "_law_e_two_rings"=true)(k39:W.keepIn K (.ref f39)=true)(a40:W.nsIn K mainGlobals "_law_e_tied_across"=some (some (.ref f40)))(l40:K.lookup f40=some ⟨oc40,od40,.func (W.fnOf "_law_e_tied_across" "_law_e_tied_across" (defArgs zap) (defBody zap) (defScope zap) .none kV40 dc40 pm40 an40 cd40 ct40),sl40⟩)(c40:W.codeIn K cd40 "_law_e_tied_across"=true)(k40:W.keepIn K (.ref f40)=true)(a41:W.nsIn K mainGlobals "law"=some (some (.ref f41)))(l41:K.lookup f41=some ⟨oc41,od41,.func (W.fnOf "law" "law" (defArgs s_law) (defBody s_law) (defScope s_law) .none kV41 dc41 pm41 an41 cd41 ct41),sl41⟩)(c41:W.codeIn K cd41 "law"=true)(k41:W.keepIn K (.ref f41)=true)(x0:W.nsIn K mainGlobals "MOST_PLACES"=some (some (.int 10 tk0)))(z0:W.nsIn K mainGlobals "abs"=some none)(z1:W.nsIn K mainGlobals "all"=some none)(z2:W.nsIn K mainGlobals "any"=some none)(z3:W.nsIn K mainGlobals "bool"=some none)(z4:W.nsIn K mainGlobals "int"=some none)(z5:W.nsIn K mainGlobals "isinstance"=some none)(z6:W.nsIn K mainGlobals "len"=some none)(z7:W.nsIn K mainGlobals "list"=some none)(z8:W.nsIn K mainGlobals "max"=some none)(z9:W.nsIn K mainGlobals "min"=some none)(z10:W.nsIn K mainGlobals "range"=some none)(z11:W.nsIn K mainGlobals "set"=some none)(z12:W.nsIn K mainGlobals "sorted"=some none)(z13:W.nsIn K mainGlobals "tuple"=some none):
  ∃fd:FuncData,(∀(s:Shared) (v:Value),BindsTo s fd ⟨[v],[]⟩ [("script",v)])/\∀base:Heap,K.In base->base.Ns mainGlobals mg->FnOk l.prog w K mg base CX0 18 fa fd ["script"] (spLaw K):=by
 have e:=hfa.symm.trans (W.mg_of X G a41)
 cases e
 have F0:=zax (st:=zco) l0 c0 k0
 have E_is_whole:Dfn K mg "is_whole" zco ["thing"] f0 _:=⟨F0,F0.binds (fun _ _ _ _ _ _ us hl=>by obtain⟨u0,rfl⟩:=Hs.len_1 hl;rfl),W.mg_of X G a0⟩
 have F1:=zax (st:=zcs) l1 c1 k1
 have E_is_place:Dfn K mg "is_place" zcs ["n","thing"] f1 _:=⟨F1,F1.binds (fun _ _ _ _ _ _ us hl=>by obtain⟨u0,u1,rfl⟩:=Hs.len_2 hl;rfl),W.mg_of X G a1⟩
 have F2:=zax (st:=zce) l2 c2 k2
 have E_are_places:Dfn K mg "are_places" zce ["n","things"] f2 _:=⟨F2,F2.binds (fun _ _ _ _ _ _ us hl=>by obtain⟨u0,u1,rfl⟩:=Hs.len_2 hl;rfl),W.mg_of X G a2⟩
 have F3:=zax (st:=zcf) l3 c3 k3
 have E_is_rising:Dfn K mg "is_rising" zcf ["things"] f3 _:=⟨F3,F3.binds (fun _ _ _ _ _ _ us hl=>by obtain⟨u0,rfl⟩:=Hs.len_1 hl;rfl),W.mg_of X G a3⟩
 have F4:=zax (st:=s_is_set) l4 c4 k4
 have E_is_set:Dfn K mg "is_set" s_is_set ["n","thing"] f4 _:=⟨F4,F4.binds (fun _ _ _ _ _ _ us hl=>by obtain⟨u0,u1,rfl⟩:=Hs.len_2 hl;rfl),W.mg_of X G a4⟩
 have F5:=zax (st:=zct) l5 c5 k5
 have E_are_ties:Dfn K mg "are_ties" zct ["n","thing"] f5 _:=⟨F5,F5.binds (fun _ _ _ _ _ _ us hl=>by obtain⟨u0,u1,rfl⟩:=Hs.len_2 hl;rfl),W.mg_of X G a5⟩
 have F6:=zax (st:=s_is_web) l6 c6 k6
 have E_is_web:Dfn K mg "is_web" s_is_web ["thing"] f6 _:=⟨F6,F6.binds (fun _ _ _ _ _ _ us hl=>by obtain⟨u0,rfl⟩:=Hs.len_1 hl;rfl),W.mg_of X G a6⟩
 have F7:=zax (st:=zcn) l7 c7 k7
 have E_need_web:Dfn K mg "need_web" zcn ["thing"] f7 _:=⟨F7,F7.binds (fun _ _ _ _ _ _ us hl=>by obtain⟨u0,rfl⟩:=Hs.len_1 hl;rfl),W.mg_of X G a7⟩
 have F8:=zax (st:=zcu) l8 c8 k8
 have E_has_tie:Dfn K mg "has_tie" zcu ["web","one","other"] f8 _:=⟨F8,F8.binds (fun _ _ _ _ _ _ us hl=>by obtain⟨u0,u1,u2,rfl⟩:=Hs.len_3 hl;rfl),W.mg_of X G a8⟩
 have F9:=zax (st:=zbh) l9 c9 k9
 have E_places_by_tie:Dfn K mg "places_by_tie" zbh ["web","place","tied"] f9 _:=⟨F9,F9.binds (fun _ _ _ _ _ _ us hl=>by obtain⟨u0,u1,u2,rfl⟩:=Hs.len_3 hl;rfl),W.mg_of X G a9⟩
 have F10:=zax (st:=zcz) l10 c10 k10
 have E_in_both:Dfn K mg "in_both" zcz ["ones","others"] f10 _:=⟨F10,F10.binds (fun _ _ _ _ _ _ us hl=>by obtain⟨u0,u1,rfl⟩:=Hs.len_2 hl;rfl),W.mg_of X G a10⟩
 have F11:=zax (st:=zcj) l11 c11 k11
 have E_full_sets:Dfn K mg "full_sets" zcj ["friends"] f11 _:=⟨F11,F11.binds (fun _ _ _ _ _ _ us hl=>by obtain⟨u0,rfl⟩:=Hs.len_1 hl;rfl),W.mg_of X G a11⟩
 have F12:=zax (st:=zcd) l12 c12 k12
 have E_full_apart:Dfn K mg "full_apart" zcd ["web"] f12 _:=⟨F12,F12.binds (fun _ _ _ _ _ _ us hl=>by obtain⟨u0,rfl⟩:=Hs.len_1 hl;rfl),W.mg_of X G a12⟩
 have F13:=zax (st:=zbf) l13 c13 k13
 have E_first_greatest:Dfn K mg "first_greatest" zbf ["sets"] f13 _:=⟨F13,F13.binds (fun _ _ _ _ _ _ us hl=>by obtain⟨u0,rfl⟩:=Hs.len_1 hl;rfl),W.mg_of X G a13⟩
 have F14:=zax (st:=zbe) l14 c14 k14
 have E_greatest_apart:Dfn K mg "greatest_apart" zbe ["web"] f14 _:=⟨F14,F14.binds (fun _ _ _ _ _ _ us hl=>by obtain⟨u0,rfl⟩:=Hs.len_1 hl;rfl),W.mg_of X G a14⟩
 have F15:=zax (st:=zav) l15 c15 k15
 have E_greatest_divisor:Dfn K mg "greatest_divisor" zav ["one","other"] f15 _:=⟨F15,F15.binds (fun _ _ _ _ _ _ us hl=>by obtain⟨u0,u1,rfl⟩:=Hs.len_2 hl;rfl),W.mg_of X G a15⟩
 have F16:=zax (st:=zdl) l16 c16 k16
 have E_lowest:Dfn K mg "lowest" zdl ["a","b"] f16 _:=⟨F16,F16.binds (fun _ _ _ _ _ _ us hl=>by obtain⟨u0,u1,rfl⟩:=Hs.len_2 hl;rfl),W.mg_of X G a16⟩
 have F17:=zax (st:=zbj) l17 c17 k17
 have E_count_ties_at:Dfn K mg "count_ties_at" zbj ["web","place"] f17 _:=⟨F17,F17.binds (fun _ _ _ _ _ _ us hl=>by obtain⟨u0,u1,rfl⟩:=Hs.len_2 hl;rfl),W.mg_of X G a17⟩
 have F18:=zax (st:=zbx) l18 c18 k18
 have E_can_go_on:Dfn K mg "can_go_on" zbx ["web","begun","image"] f18 _:=⟨F18,F18.binds (fun _ _ _ _ _ _ us hl=>by obtain⟨u0,u1,u2,rfl⟩:=Hs.len_3 hl;rfl),W.mg_of X G a18⟩
 have F19:=zax (st:=zao) l19 c19 k19
 have E_turnings_from:Dfn K mg "turnings_from" zao ["web","begun","most"] f19 _:=⟨F19,F19.binds (fun _ _ _ _ _ _ us hl=>by obtain⟨u0,u1,u2,rfl⟩:=Hs.len_3 hl;rfl),W.mg_of X G a19⟩
 have F20:=zax (st:=zbc) l20 c20 k20
 have E_leads_first_to:Dfn K mg "leads_first_to" zbc ["web","place"] f20 _:=⟨F20,F20.binds (fun _ _ _ _ _ _ us hl=>by obtain⟨u0,u1,rfl⟩:=Hs.len_2 hl;rfl),W.mg_of X G a20⟩
 have F21:=zax (st:=zcp) l21 c21 k21
 have E_is_alike:Dfn K mg "is_alike" zcp ["web"] f21 _:=⟨F21,F21.binds (fun _ _ _ _ _ _ us hl=>by obtain⟨u0,rfl⟩:=Hs.len_1 hl;rfl),W.mg_of X G a21⟩
 have F22:=zax (st:=zbv) l22 c22 k22
 have E_alike_value:Dfn K mg "alike_value" zbv ["web"] f22 _:=⟨F22,F22.binds (fun _ _ _ _ _ _ us hl=>by obtain⟨u0,rfl⟩:=Hs.len_1 hl;rfl),W.mg_of X G a22⟩
 have F23:=zax (st:=zca) l23 c23 k23
 have E_law_e_stir:Dfn K mg "_law_e_stir" zca ["cell","at"] f23 _:=⟨F23,F23.binds (fun _ _ _ _ _ _ us hl=>by obtain⟨u0,u1,rfl⟩:=Hs.len_2 hl;rfl),W.mg_of X G a23⟩
 have F24:=zax (st:=zay) l24 c24 k24
 have E_law_e_dip:Dfn K mg "_law_e_dip" zay ["cup","many"] f24 _:=⟨F24,F24.binds (fun _ _ _ _ _ _ us hl=>by obtain⟨u0,u1,rfl⟩:=Hs.len_2 hl;rfl),W.mg_of X G a24⟩
 have F25:=zax (st:=zbo) l25 c25 k25
 have E_law_e_web_of:Dfn K mg "_law_e_web_of" zbo ["cup","n"] f25 _:=⟨F25,F25.binds (fun _ _ _ _ _ _ us hl=>by obtain⟨u0,u1,rfl⟩:=Hs.len_2 hl;rfl),W.mg_of X G a25⟩
 have F26:=zax (st:=zci) l26 c26 k26
 have E_law_e_web:Dfn K mg "_law_e_web" zci ["cup","most"] f26 _:=⟨F26,F26.binds (fun _ _ _ _ _ _ us hl=>by obtain⟨u0,u1,rfl⟩:=Hs.len_2 hl;rfl),W.mg_of X G a26⟩
 have F27:=zax (st:=zbi) l27 c27 k27
 have E_law_e_tied:Dfn K mg "_law_e_tied" zbi ["web","one","other"] f27 _:=⟨F27,F27.binds (fun _ _ _ _ _ _ us hl=>by obtain⟨u0,u1,u2,rfl⟩:=Hs.len_3 hl;rfl),W.mg_of X G a27⟩
 have F28:=zax (st:=zau) l28 c28 k28
 have E_law_e_apart_sets:Dfn K mg "_law_e_apart_sets" zau ["web","left"] f28 _:=⟨F28,F28.binds (fun _ _ _ _ _ _ us hl=>by obtain⟨u0,u1,rfl⟩:=Hs.len_2 hl;rfl),W.mg_of X G a28⟩
 have F29:=zax (st:=zcb) l29 c29 k29
 have E_law_e_part:Dfn K mg "_law_e_part" zcb ["top","bottom"] f29 _:=⟨F29,F29.binds (fun _ _ _ _ _ _ us hl=>by obtain⟨u0,u1,rfl⟩:=Hs.len_2 hl;rfl),W.mg_of X G a29⟩
 have F30:=zax (st:=zbm) l30 c30 k30
 have E_law_e_moved:Dfn K mg "_law_e_moved" zbm ["web","order"] f30 _:=⟨F30,F30.binds (fun _ _ _ _ _ _ us hl=>by obtain⟨u0,u1,rfl⟩:=Hs.len_2 hl;rfl),W.mg_of X G a30⟩
 have F31:=zax (st:=zbl) l31 c31 k31
 have E_law_e_order:Dfn K mg "_law_e_order" zbl ["cup","n"] f31 _:=⟨F31,F31.binds (fun _ _ _ _ _ _ us hl=>by obtain⟨u0,u1,rfl⟩:=Hs.len_2 hl;rfl),W.mg_of X G a31⟩
 have F32:=zax (st:=zba) l32 c32 k32
 have E_law_e_round_web:Dfn K mg "_law_e_round_web" zba ["cup","n"] f32 _:=⟨F32,F32.binds (fun _ _ _ _ _ _ us hl=>by obtain⟨u0,u1,rfl⟩:=Hs.len_2 hl;rfl),W.mg_of X G a32⟩
 have F33:=zax (st:=zam) l33 c33 k33
 have E_law_e_turned_on:Dfn K mg "_law_e_turned_on" zam ["web","some","most","found"] f33 _:=⟨F33,F33.binds (fun _ _ _ _ _ _ us hl=>by obtain⟨u0,u1,u2,u3,rfl⟩:=Hs.len_4 hl;rfl),W.mg_of X G a33⟩
 have F34:=zax (st:=zbd) l34 c34 k34
 have E_law_e_is_alike:Dfn K mg "_law_e_is_alike" zbd ["web"] f34 _:=⟨F34,F34.binds (fun _ _ _ _ _ _ us hl=>by obtain⟨u0,rfl⟩:=Hs.len_1 hl;rfl),W.mg_of X G a34⟩
 have F35:=zax (st:=zbu) l35 c35 k35
 have E_law_e_right:Dfn K mg "_law_e_right" zbu ["web"] f35 _:=⟨F35,F35.binds (fun _ _ _ _ _ _ us hl=>by obtain⟨u0,rfl⟩:=Hs.len_1 hl;rfl),W.mg_of X G a35⟩
 have F36:=zax (st:=zcc) l36 c36 k36
 have E_law_e_bent:Dfn K mg "_law_e_bent" zcc ["cup","web"] f36 _:=⟨F36,F36.binds (fun _ _ _ _ _ _ us hl=>by obtain⟨u0,u1,rfl⟩:=Hs.len_2 hl;rfl),W.mg_of X G a36⟩
 have F37:=zax (st:=zal) l37 c37 k37
 have E_law_e_side_by_side:Dfn K mg "_law_e_side_by_side" zal ["one","other"] f37 _:=⟨F37,F37.binds (fun _ _ _ _ _ _ us hl=>by obtain⟨u0,u1,rfl⟩:=Hs.len_2 hl;rfl),W.mg_of X G a37⟩
 have F38:=zax (st:=zbb) l38 c38 k38
 have E_law_e_ring_of:Dfn K mg "_law_e_ring_of" zbb ["n"] f38 _:=⟨F38,F38.binds (fun _ _ _ _ _ _ us hl=>by obtain⟨u0,rfl⟩:=Hs.len_1 hl;rfl),W.mg_of X G a38⟩
 have F39:=zax (st:=zaz) l39 c39 k39
 have E_law_e_two_rings:Dfn K mg "_law_e_two_rings" zaz ["cup"] f39 _:=⟨F39,F39.binds (fun _ _ _ _ _ _ us hl=>by obtain⟨u0,rfl⟩:=Hs.len_1 hl;rfl),W.mg_of X G a39⟩
 have F40:=zax (st:=zap) l40 c40 k40
 have E_law_e_tied_across:Dfn K mg "_law_e_tied_across" zap ["cup","n"] f40 _:=⟨F40,F40.binds (fun _ _ _ _ _ _ us hl=>by obtain⟨u0,u1,rfl⟩:=Hs.len_2 hl;rfl),W.mg_of X G a40⟩
 have F41:=zax (st:=s_law) l41 c41 k41
 have v_MOST_PLACES:=W.mg_of X G x0
 have n_abs:=W.mg_none_of X G z0
 have n_all:=W.mg_none_of X G z1
 have n_any:=W.mg_none_of X G z2
 have n_bool:=W.mg_none_of X G z3
 have n_int:=W.mg_none_of X G z4
 have n_isinstance:=W.mg_none_of X G z5
 have n_len:=W.mg_none_of X G z6
 have n_list:=W.mg_none_of X G z7
 have n_max:=W.mg_none_of X G z8
 have n_min:=W.mg_none_of X G z9
 have n_range:=W.mg_none_of X G z10
 have n_set:=W.mg_none_of X G z11
 have n_sorted:=W.mg_none_of X G z12
 have n_tuple:=W.mg_none_of X G z13
 refine⟨W.fnOf "law" "law" (defArgs s_law) (defBody s_law) (defScope s_law) .none kV41 dc41 pm41 an41 cd41 ct41,fun s v=> .of_eq rfl,fun base _ _=> ?_⟩
 have g_whole:=ok_whole (P:=l.prog) (w:=w) (base:=base) F0 n_isinstance n_int n_bool
 have g_place:=ok_place (P:=l.prog) (w:=w) (base:=base) F1 E_is_whole g_whole
 have g_places:=ok_places (P:=l.prog) (w:=w) (base:=base) F2 E_is_place g_place n_all
 have g_rising:=ok_rising (P:=l.prog) (w:=w) (mg:=mg) (base:=base) F3 n_all n_range n_len
 have g_set:=ok_set (P:=l.prog) (w:=w) (base:=base) F4 E_are_places g_places E_is_rising g_rising n_isinstance n_tuple
 have g_ties:=ok_ties (P:=l.prog) (w:=w) (base:=base) F5 E_is_set g_set E_is_rising g_rising n_isinstance n_tuple n_all n_len
 have g_web:=ok_web (P:=l.prog) (w:=w) (base:=base) F6 E_is_whole g_whole E_are_ties g_ties n_isinstance n_tuple n_len v_MOST_PLACES
 have g_needWeb:=ok_needWeb (P:=l.prog) (w:=w) (base:=base) F7 E_is_web g_web
 have g_has:=ok_has (P:=l.prog) (w:=w) (mg:=mg) (base:=base) F8 n_min n_max
 have g_byTie:=ok_byTie (P:=l.prog) (w:=w) (mg:=mg) (base:=base) F9 E_has_tie g_has n_range
 have g_inBoth:=ok_inBoth (P:=l.prog) (w:=w) (mg:=mg) (base:=base) F10
 have g_fullSets:=ok_fullSets (P:=l.prog) (w:=w) (mg:=mg) (base:=base) F11 E_in_both g_inBoth n_list n_range n_len n_sorted
 have g_fullApart:=ok_fullApart (P:=l.prog) (w:=w) (mg:=mg) (base:=base) F12 E_need_web g_needWeb E_full_sets g_fullSets E_places_by_tie g_byTie n_range
 have g_firstG:=ok_firstG (P:=l.prog) (w:=w) (mg:=mg) (base:=base) F13 n_max n_len
 have g_greatA:=ok_greatA (P:=l.prog) (w:=w) (mg:=mg) (base:=base) F14 E_first_greatest g_firstG E_full_apart g_fullApart
 have g_gd:=ok_gd (P:=l.prog) (w:=w) (mg:=mg) (base:=base) F15
 have g_low:=ok_low (P:=l.prog) (w:=w) (base:=base) F16 E_greatest_divisor g_gd n_abs
 have g_cnt:=ok_cnt (P:=l.prog) (w:=w) (mg:=mg) (base:=base) F17 n_len
 have g_go:=ok_go (P:=l.prog) (w:=w) (mg:=mg) (base:=base) F18 E_count_ties_at g_cnt E_has_tie g_has n_len n_all n_range
 have g_tfrom:=ok_tfrom (P:=l.prog) (w:=w) (mg:=mg) (base:=base) F19 E_can_go_on g_go E_turnings_from n_len n_range
 have g_estir:=ok_estir (P:=l.prog) (w:=w) (mg:=mg) (base:=base) F23
 have g_dip:=ok_dip (P:=l.prog) (w:=w) (mg:=mg) (base:=base) F24 E_law_e_stir g_estir n_len
 have g_webof:=ok_webof (P:=l.prog) (w:=w) (mg:=mg) (base:=base) F25 E_law_e_dip g_dip n_range n_tuple
 have g_eweb:=ok_eweb (P:=l.prog) (w:=w) (mg:=mg) (base:=base) F26 E_law_e_dip g_dip E_law_e_web_of g_webof
 have g_etied:=ok_etied (P:=l.prog) (w:=w) (mg:=mg) (base:=base) F27 n_min n_max
 have g_esets:=ok_esets (P:=l.prog) (w:=w) (mg:=mg) (base:=base) F28 E_law_e_tied g_etied n_any
 have g_epart:=ok_epart (P:=l.prog) (w:=w) (mg:=mg) (base:=base) F29
 have g_ton:=ok_ton (P:=l.prog) (w:=w) (mg:=mg) (base:=base) F33 E_law_e_tied g_etied E_law_e_turned_on n_len n_range n_all
 have g_order:=ok_order (P:=l.prog) (w:=w) (mg:=mg) (base:=base) F31 E_law_e_dip g_dip n_list n_range n_tuple n_len
 have g_moved:=ok_moved (P:=l.prog) (w:=w) (mg:=mg) (base:=base) F30 n_min n_max n_tuple n_sorted
 have g_round:=ok_round (P:=l.prog) (w:=w) (mg:=mg) (base:=base) F32 E_law_e_dip g_dip E_law_e_moved g_moved E_law_e_order g_order n_range n_min n_tuple
 have g_lead:=ok_lead (P:=l.prog) (w:=w) (mg:=mg) (base:=base) F20 E_turnings_from g_tfrom E_can_go_on g_go n_len
 have g_alike:=ok_alike (P:=l.prog) (w:=w) (mg:=mg) (base:=base) F21 E_need_web g_needWeb E_leads_first_to g_lead n_all n_range
 have g_avalue:=ok_avalue (P:=l.prog) (w:=w) (mg:=mg) (base:=base) F22 E_is_alike g_alike E_lowest g_low E_greatest_apart g_greatA n_max n_len
 have g_ealike:=ok_ealike (P:=l.prog) (w:=w) (mg:=mg) (base:=base) F34 E_law_e_turned_on g_ton n_range n_len n_set
 have g_right:=ok_right (P:=l.prog) (w:=w) (mg:=mg) (base:=base) F35 E_law_e_is_alike g_ealike E_is_alike g_alike E_alike_value g_avalue E_law_e_apart_sets g_esets E_law_e_part g_epart n_len n_range n_isinstance n_bool n_max n_list n_tuple
 have g_side:=ok_side (P:=l.prog) (w:=w) (mg:=mg) (base:=base) F37 n_tuple n_list
 have g_ringof:=ok_ringof (P:=l.prog) (w:=w) (mg:=mg) (base:=base) F38 n_tuple n_sorted n_range
 have g_two:=ok_two (P:=l.prog) (w:=w) (mg:=mg) (base:=base) F39 E_law_e_dip g_dip E_law_e_side_by_side g_side E_law_e_ring_of g_ringof
 have g_bent:=ok_bent (P:=l.prog) (w:=w) (mg:=mg) (base:=base) F36 E_law_e_dip g_dip n_min n_max n_tuple n_sorted
 have g_across:=ok_across (P:=l.prog) (w:=w) (mg:=mg) (base:=base) F40 E_law_e_ring_of g_ringof E_law_e_tied g_etied E_law_e_dip g_dip n_list n_range n_len n_tuple n_sorted
 exact ok_law (P:=l.prog) (w:=w) (mg:=mg) (base:=base) F41 E_law_e_round_web g_round E_law_e_dip g_dip E_law_e_web g_eweb E_law_e_bent g_bent E_law_e_right g_right E_law_e_two_rings g_two E_law_e_tied_across g_across E_law_e_moved g_moved E_law_e_order g_order E_law_e_side_by_side g_side n_range n_len
theorem walk{l:PySem.W.OpenLaw}{q:Program}{loose:List Str}{XP:(Str->Option Value)->Heap->Prop}{YP:World->Heap->Prop}{d:DefRec}{K:Params->PySem.W.Frag}(hn:l.most=some 63)(hdf:d.params.defaults=[])(hY:∀(w:World) (h:Heap),YP w h->(K w.params).In h)
  (F:∀(w:World) (mg:Str->Option Value) (fa:Addr) (h:Heap),(K w.params).In h->h.Ns mainGlobals mg->mg d.name=some (.ref fa)->
   ∃fd:FuncData,(∀(s:Shared) (u:Value),BindsTo s fd ⟨[u],[]⟩ [("script",u)])/\∀base:Heap,(K w.params).In base->base.Ns mainGlobals mg->FnOk l.prog w (K w.params) mg base CX0 18 fa fd ["script"] (spLaw (K w.params))):
  PySem.W.WalkO q loose XP YP l.row.toRowW d [] (fun f vs=>PySem.call f vs):=
 L2.walk_of (n:=63) (k:=18) (x:="script") (CX:=fun _=>CX0) (sp:=fun w=>spLaw (K w.params)) hn (by decide) hdf ⟨rfl,by decide,by decide,rfl⟩ hY F (fun _ _ a ns hl hO hS=>spLaw_of hl hO hS) fun _ _ _ _ _ z=>z
end Hs
open PySem PySem.W PyProof.Rows
set_option maxRecDepth 100000 in
set_option maxHeartbeats 0 in
theorem PySem.Challenge.cw_hueshare_k48_alike_everywhere_holds : PySem.Challenge.rw_hueshare_k48_alike_everywhere.Holds := by
 refine Hd.early.2 ?_
 unfold Hd.early
 dsimp only
 k_fill
 refine Hs.walk (l:=PySem.Challenge.rw_hueshare_k48_alike_everywhere) rfl rfl (fun w h Y=>PySem.W.kIn_of Y) ?F
 case F=>
  intro w mg fa h KX G hmg
  refine' Hs.all_mk KX G hmg ?a0 ?l0 ?c0 ?k0 ?a1 ?l1 ?c1 ?k1 ?a2 ?l2 ?c2 ?k2 ?a3 ?l3 ?c3 ?k3 ?a4 ?l4 ?c4 ?k4 ?a5 ?l5 ?c5 ?k5 ?a6 ?l6 ?c6 ?k6 ?a7 ?l7 ?c7 ?k7 ?a8 ?l8 ?c8 ?k8 ?a9 ?l9 ?c9 ?k9 ?a10 ?l10 ?c10 ?k10 ?a11 ?l11 ?c11 ?k11 ?a12 ?l12 ?c12 ?k12 ?a13 ?l13 ?c13 ?k13 ?a14 ?l14 ?c14 ?k14 ?a15 ?l15 ?c15 ?k15 ?a16 ?l16 ?c16 ?k16 ?a17 ?l17 ?c17 ?k17 ?a18 ?l18 ?c18 ?k18 ?a19 ?l19 ?c19 ?k19 ?a20 ?l20 ?c20 ?k20 ?a21 ?l21 ?c21 ?k21 ?a22 ?l22 ?c22 ?k22 ?a23 ?l23 ?c23 ?k23 ?a24 ?l24 ?c24 ?k24 ?a25 ?l25 ?c25 ?k25 ?a26 ?l26 ?c26 ?k26 ?a27 ?l27 ?c27 ?k27 ?a28 ?l28 ?c28 ?k28 ?a29 ?l29 ?c29 ?k29 ?a30 ?l30 ?c30 ?k30 ?a31 ?l31 ?c31 ?k31 ?a32 ?l32 ?c32 ?k32 ?a33 ?l33 ?c33 ?k33 ?a34 ?l34 ?c34 ?k34 ?a35 ?l35 ?c35 ?k35 ?a36 ?l36 ?c36 ?k36 ?a37 ?l37 ?c37 ?k37 ?a38 ?l38 ?c38 ?k38 ?a39 ?l39 ?c39 ?k39 ?a40 ?l40 ?c40 ?k40 ?a41 ?l41 ?c41 ?k41 ?x0 ?z0 ?z1 ?z2 ?z3 ?z4 ?z5 ?z6 ?z7 ?z8 ?z9 ?z10 ?z11 ?z12 ?z13
  (case a0=>k_is)
  (case l0=>k_is)
  (case c0=>k_is)
  (case k0=>k_is)
  (case a1=>k_is)
  (case l1=>k_is)
  (case c1=>k_is)
  (case k1=>k_is)
  (case a2=>k_is)
  (case l2=>k_is)
  (case c2=>k_is)
  (case k2=>k_is)
  (case a3=>k_is)
  (case l3=>k_is)
  (case c3=>k_is)
  (case k3=>k_is)
  (case a4=>k_is)
  (case l4=>k_is)
  (case c4=>k_is)
  (case k4=>k_is)
  (case a5=>k_is)
  (case l5=>k_is)
  (case c5=>k_is)
  (case k5=>k_is)
  (case a6=>k_is)
  (case l6=>k_is)
  (case c6=>k_is)
  (case k6=>k_is)
  (case a7=>k_is)
  (case l7=>k_is)
  (case c7=>k_is)
  (case k7=>k_is)
  (case a8=>k_is)
  (case l8=>k_is)
  (case c8=>k_is)
  (case k8=>k_is)
  (case a9=>k_is)
  (case l9=>k_is)
  (case c9=>k_is)
  (case k9=>k_is)
  (case a10=>k_is)
  (case l10=>k_is)
  (case c10=>k_is)
  (case k10=>k_is)
  (case a11=>k_is)
  (case l11=>k_is)
  (case c11=>k_is)
  (case k11=>k_is)
  (case a12=>k_is)
  (case l12=>k_is)
  (case c12=>k_is)
  (case k12=>k_is)
  (case a13=>k_is)
  (case l13=>k_is)
  (case c13=>k_is)
  (case k13=>k_is)
  (case a14=>k_is)
  (case l14=>k_is)
  (case c14=>k_is)
  (case k14=>k_is)
  (case a15=>k_is)
  (case l15=>k_is)
  (case c15=>k_is)
  (case k15=>k_is)
  (case a16=>k_is)
  (case l16=>k_is)
  (case c16=>k_is)
  (case k16=>k_is)
  (case a17=>k_is)
  (case l17=>k_is)
  (case c17=>k_is)
  (case k17=>k_is)
  (case a18=>k_is)
  (case l18=>k_is)
  (case c18=>k_is)
  (case k18=>k_is)
  (case a19=>k_is)
  (case l19=>k_is)
  (case c19=>k_is)
  (case k19=>k_is)
  (case a20=>k_is)
  (case l20=>k_is)
  (case c20=>k_is)
  (case k20=>k_is)
  (case a21=>k_is)
  (case l21=>k_is)
  (case c21=>k_is)
  (case k21=>k_is)
  (case a22=>k_is)
  (case l22=>k_is)
  (case c22=>k_is)
  (case k22=>k_is)
  (case a23=>k_is)
  (case l23=>k_is)
  (case c23=>k_is)
  (case k23=>k_is)
  (case a24=>k_is)
  (case l24=>k_is)
  (case c24=>k_is)
  (case k24=>k_is)
  (case a25=>k_is)
  (case l25=>k_is)
  (case c25=>k_is)
  (case k25=>k_is)
  (case a26=>k_is)
  (case l26=>k_is)
  (case c26=>k_is)
  (case k26=>k_is)
  (case a27=>k_is)
  (case l27=>k_is)
  (case c27=>k_is)
  (case k27=>k_is)
  (case a28=>k_is)
  (case l28=>k_is)
  (case c28=>k_is)
  (case k28=>k_is)
  (case a29=>k_is)
  (case l29=>k_is)
  (case c29=>k_is)
  (case k29=>k_is)
  (case a30=>k_is)
  (case l30=>k_is)
  (case c30=>k_is)
  (case k30=>k_is)
  (case a31=>k_is)
  (case l31=>k_is)
  (case c31=>k_is)
  (case k31=>k_is)
  (case a32=>k_is)
  (case l32=>k_is)
  (case c32=>k_is)
  (case k32=>k_is)
  (case a33=>k_is)
  (case l33=>k_is)
  (case c33=>k_is)
  (case k33=>k_is)
  (case a34=>k_is)
  (case l34=>k_is)
  (case c34=>k_is)
  (case k34=>k_is)
  (case a35=>k_is)
  (case l35=>k_is)
  (case c35=>k_is)
  (case k35=>k_is)
  (case a36=>k_is)
  (case l36=>k_is)
  (case c36=>k_is)
  (case k36=>k_is)
  (case a37=>k_is)
  (case l37=>k_is)
  (case c37=>k_is)
  (case k37=>k_is)
  (case a38=>k_is)
  (case l38=>k_is)
  (case c38=>k_is)
  (case k38=>k_is)
  (case a39=>k_is)
  (case l39=>k_is)
  (case c39=>k_is)
  (case k39=>k_is)
  (case a40=>k_is)
  (case l40=>k_is)
  (case c40=>k_is)
  (case k40=>k_is)
  (case a41=>k_is)
  (case l41=>k_is)
  (case c41=>k_is)
  (case k41=>k_is)
  (case x0=>k_is)
  (case z0=>k_is)
  (case z1=>k_is)
  (case z2=>k_is)
  (case z3=>k_is)
  (case z4=>k_is)
  (case z5=>k_is)
  (case z6=>k_is)
  (case z7=>k_is)
  (case z8=>k_is)
  (case z9=>k_is)
  (case z10=>k_is)
  (case z11=>k_is)
  (case z12=>k_is)
  (case z13=>k_is)
