import PyProof.Rows.All
import Wide.All
import OpenK.AllK
import Wide.FinOn
import Lean
import PyProof.EqAt
import PyProof.EqKinds
import PyProof.TupleCall
import PyProof.ListRange
import PyProof.TupleOfSeq
import PyProof.Draws
import PyProof.EnumMake
import PyProof.TupleIter
import PyProof.Rows.SetFrom
import PyProof.SetRoads
import PyProof.WalksMore
import PyProof.Rows.SortShell
import KE.KMinBuiltin
import PyProof.Rows.CallKwBuiltin
import KE.KRevIter
import PyProof.Rows.Tup
import PyProof.Rows.Range3
import PyProof.DictWalks
import PyProof.DictTruth
import PyProof.TupleKey
import PyProof.Rows.SeqMore2
import PyProof.FString
import PyProof.StrWalks
import PyProof.StrBlockH
import PyProof.StrCalls2
import PyProof.SliceStr2
import KE.KIntText
import PyProof.StrLawsTight
import KE.KDictList
import PyProof.DictRoadsH
import KE.KLam
import KE.KNestM
import PyProof.DictItems
import PyProof.IsiHeapPairs
import KE.KPairComp
import KE.KDictOf
import PyProof.AttrMissHeap
import KE.KEqDict
import PySem.Challenge.RW_hueshare_k23_hues_and_floors_looked_at
set_option Elab.async false
set_option linter.all false
set_option maxRecDepth 100000
namespace Hd
open PySem PySem.W PySem.Calls PyProof.Rows
-- a run of the text's top over the heap as a tree, as one fold
noncomputable def runT(tb:String->Option Builtin)(p:Program)(w:World)(m:Nat)(ann:Option Value)(n:Nat):SharedT->Thread->Option SharedT:=
 @Nat.rec (fun _=>SharedT->Thread->Option SharedT) (fun _ _=>none)
  (fun _ ih s t=> @Bool.rec (fun _=>Option SharedT)
   (@Bool.rec (fun _=>Option SharedT) none
    (@Option.rec (SharedT×Thread) (fun _=>Option SharedT) none (fun r=>ih r.1 r.2) (stepT (denote tb) p w s t)) (stepOk m ann t))
   (some s) (through t)) n
theorem run_abs{tb:String->Option Builtin}{p:Program}{w:World}{m:Nat}{ann:Option Value}:∀(n:Nat) (s s':SharedT) (t:Thread),
  runT tb p w m ann n s t=some s'->topRun tb p w m ann n s.abs t=some s'.abs:=by
 intro n
 induction n with
 |zero=>intro s s' t h;exact absurd h (by intro h;cases h)
 |succ n ih=>
  intro s s' t h
  have h1: @Bool.rec (fun _=>Option SharedT) (@Bool.rec (fun _=>Option SharedT) none
    (@Option.rec (SharedT×Thread) (fun _=>Option SharedT) none (fun r=>runT tb p w m ann n r.1 r.2) (stepT (denote tb) p w s t)) (stepOk m ann t))
    (some s) (through t)=some s':=h
  unfold topRun
  cases e1:through t with
  |true=>rw[e1]at h1;injection h1 with h1;rw[h1]
  |false=>
   rw[e1]at h1
   cases e2:stepOk m ann t with
   |false=>rw[e2]at h1;cases h1
   |true=>
    rw[e2]at h1
    cases e3:stepT (denote tb) p w s t with
    |none=>rw[e3]at h1;cases h1
    |some r=>
     rw[e3]at h1
     have e4:=stepT_spec (s':=r.1) (t':=r.2) e3
     show(match step (denote tb) p w s.abs t with | .go a b=>topRun tb p w m ann n a b| .halt _ _=>none)=_
     rw[e4]
     exact ih _ _ _ h1
noncomputable def treeOf(l:List Obj):BT:=(l.foldl (fun x o=>(x.1.ins x.2 o,x.2+1)) ((BT.nil,0):BT×Nat)).1
-- the run from the start that the kit has laid
noncomputable def ran(p:Program)(N:Nat)(w:World)(os:OsState):Option SharedT:=
 runT treeTable p w 11 (some (.ref 6)) N ⟨treeOf (boot_heap w.params).objs.toList,11,{},Array.mk [],boot_drawn,boot_toks,os⟩ (topStub p)
-- what is looked at behind the run
noncomputable def looked(p q:Program)(loose:List Str)(Xt:Shared->Bool)(g0:Bool)(h:Heap)(s:Shared):=
 ((staticsOk (importedModules p.main.body) h s.heap&&namesBound p s.heap&&gensDone s&&laidKept h s.heap),openSeen q loose (importedModules p.main.body) Xt g0 s)
noncomputable def LooksWell(p q:Program)(loose:List Str)(Xt:Shared->Bool)(g0:Bool)(N:Nat):Prop:=
 ∀(w:World) (os:OsState),(ran p N w os).map (fun s=>looked p q loose Xt g0 (boot_heap w.params) s.abs)=some (true,openGood q loose)
theorem left_of{p q:Program}{loose:List Str}{Xt:Shared->Bool}{α:Type}{Yf:Shared->α}{Ya:World->α}{N:Nat}{g0:Bool}(r:LooksWell p q loose Xt g0 N)(e:opening p=plainProg p.main.scope.names)(hN:Nat.ble 600 N=true)(f:∀s,fenceModules? p s=some s)(y:∀(w:World) (os:OsState),(ran p N w os).map (fun s=>Yf s.abs)=some (Ya w)):
  LeftO p q loose Xt Yf Ya N g0:=fun w=>by
 have b:((boot_heap w.params).isNs mainGlobals&&(Array.mk []:Array GenState).size==0,(boot_heap w.params).objs.size,(boot_heap w.params).nsMap mainGlobals "__annotations__")=(true,11,some (.ref 6)):=by kernel_rfl
 have c:absHeap (treeOf (boot_heap w.params).objs.toList) 11 {}=boot_heap w.params:=by kernel_rfl
 obtain⟨⟨h,gs',d',k',os⟩,e1,e'⟩:=Option.map_eq_some_iff.mp (boot_open e hN f w)
 obtain⟨rfl,rfl,rfl,rfl⟩:h=boot_heap w.params/\gs'=Array.mk []/\d'=boot_drawn/\k'=boot_toks:=by simpa using e'
 obtain⟨b1,b2,b3⟩:_/\_/\_:=by simpa only[Prod.mk.injEq]using b
 obtain⟨s,r1,r2⟩:=Option.map_eq_some_iff.mp (r w os)
 obtain⟨s',y1,y2⟩:=Option.map_eq_some_iff.mp (y w os)
 have es:s'=s:=by rw[r1]at y1;injection y1 with y1;exact y1.symm
 subst es
 obtain⟨l1,l2⟩:_/\_:=by simpa only[looked,Prod.mk.injEq]using r2
 have t1:=run_abs N _ _ _ r1
 have ab:SharedT.abs ⟨treeOf (boot_heap w.params).objs.toList,11,{},Array.mk [],boot_drawn,boot_toks,os⟩=⟨boot_heap w.params,Array.mk [],boot_drawn,boot_toks,os⟩:=by unfold SharedT.abs;rw[c]
 rw[ab]at t1
 have t:topFrom treeTable p w N ⟨boot_heap w.params,Array.mk [],boot_drawn,boot_toks,os⟩=some s'.abs:=by
  unfold topFrom
  dsimp only
  rw[b1,b2,b3,t1]
  show(match staticsOk (importedModules p.main.body) (boot_heap w.params) s'.abs.heap&&namesBound p s'.abs.heap&&gensDone s'.abs&&laidKept (boot_heap w.params) s'.abs.heap with |true=>_|false=>_)=_
  rw[l1]
 unfold openEnds
 rw[e1]
 show(topFrom treeTable p w N _).map _=_
 rw[t]
 show some (_,_)=_
 rw[l2,y2]
end Hd
section
open PySem PySem.W PyProof.Rows
namespace Hd
noncomputable abbrev L:=PySem.Challenge.rw_hueshare_k23_hues_and_floors_looked_at
noncomputable def Q:Program:=view L.row.toRowW.prog [1,2,4,5,6,7,8,9,10,11,12,13,14,15,17,18,19,20,21,22,23,24,25,26,28,29,30,31,32,33,34,35,36,37,38]
noncomputable abbrev X:Shared->Bool:=fun s=>xlAt Q [] s&&recOk (RowW.records L.row.toRowW) s
set_option maxRecDepth 100000 in
theorem looks:LooksWell L.row.toRowW.prog Q [] X true 2862:=fun w os=>by kernel_rfl
end Hd
local macro_rules
 |`(tactic|o_head $H)=>`(tactic|
  refine holds_open (q:=Hd.Q) (loose:=[]) (N:=2862) (Xt:=Hd.X) (XP:=XL Hd.Q [])
   (Yf:=Hook.obs $H) (Ya:=Hook.val $H) (YP:=Hook.says $H)
   (Hd.left_of Hd.looks (by kernel_rfl) rfl (fun _=>by kernel_rfl) (fun _ _=>by kernel_rfl))
   (Hook.of $H) (Hook.keeps $H) (fun s e=>xl_of s (Bool.and_eq_true_iff.mp e).1) XL.keeps
   (by rfl) (by rfl) (by rfl) (fun s e=>recFacts_of (Bool.and_eq_true_iff.mp e).2) (by rfl)
   (by first |assumption|decide+kernel) (by decide+kernel) ⟨rfl,rfl,rfl,rfl,rfl,by decide+kernel⟩ ?hw ?hc)
set_option maxRecDepth 100000 in
set_option maxHeartbeats 0 in
noncomputable def Hd.early:PSigma fun P:Prop=>P->PySem.Challenge.rw_hueshare_k23_hues_and_floors_looked_at.Holds:=by
 refine⟨?P,fun W=> ?_⟩
 rotate_left
 w_on;o_law;k_head;(case hw=>w_witness2)
 exact W
end
namespace L2
open PySem PySem.Spec PyProof.Rows
noncomputable abbrev Key:=Sum Int Str
noncomputable def keyIs:Key->Value->Bool
 | .inl k,v=>Value.isInt k v
 | .inr x,v=>Value.isStrOf x v
noncomputable def keyH(w:World):Key->Int
 | .inl k=>hashInt k
 | .inr x=>hashStr w x
theorem zbi:∀{k:Key} {v:Value},keyIs k v=true->(∃i t,k=Sum.inl i/\v=Value.int i t)\/(∃x t,k=Sum.inr x/\v=Value.str x t)
 | .inl i,v,h=>by
  obtain⟨t,e⟩:=Value.isInt_shape (k:=i) (v:=v) h
  exact .inl ⟨i,t,rfl,e⟩
 | .inr x,v,h=>by
  obtain⟨t,e⟩:=Value.isStrOf_shape (x:=x) (v:=v) h
  exact .inr ⟨x,t,rfl,e⟩
theorem keyIs_int(i:Int)(t:Tok):keyIs (.inl i) (.int i t)=true:=by simp[keyIs,Value.isInt]
theorem keyIs_str(x:Str)(t:Tok):keyIs (.inr x) (.str x t)=true:=by simp[keyIs,Value.isStrOf]
theorem key_ll(a b:Int):decide ((Sum.inl a:Key)=Sum.inl b)=(a==b):=by
 by_cases e:a=b
 ·subst e;simp
 ·have h:¬(Sum.inl a:Key)=Sum.inl b:=fun q=>e (Sum.inl.inj q)
  rw[decide_eq_false h]
  exact(beq_eq_false_iff_ne.mpr e).symm
theorem key_rr(a b:Str):decide ((Sum.inr a:Key)=Sum.inr b)=decide (a=b):=by
 by_cases e:a=b
 ·subst e;simp
 ·have h:¬(Sum.inr a:Key)=Sum.inr b:=fun q=>e (Sum.inr.inj q)
  rw[decide_eq_false h,decide_eq_false e]
theorem key_lr(a:Int)(b:Str):decide ((Sum.inl a:Key)=Sum.inr b)=false:=decide_eq_false (fun q=>nomatch q)
theorem key_rl(a:Str)(b:Int):decide ((Sum.inr a:Key)=Sum.inl b)=false:=decide_eq_false (fun q=>nomatch q)
noncomputable def mixKind(prog:Program)(w:World):PySem.KeyKind prog w Key where
 is:=keyIs
 hash:=keyH w
 inj:=fun v a b ha hb=>by
  rcases zbi ha with⟨i,t,rfl,rfl⟩|⟨x,t,rfl,rfl⟩
  ·rcases zbi hb with⟨j,u,rfl,e⟩|⟨y,u,rfl,e⟩
   ·injection e with e1 _;rw[e1]
   ·exact nomatch e
  ·rcases zbi hb with⟨j,u,rfl,e⟩|⟨y,u,rfl,e⟩
   ·exact nomatch e
   ·injection e with e1 _;rw[e1]
 byValue:=fun k v h=>by
  rcases zbi h with⟨i,t,rfl,rfl⟩|⟨x,t,rfl,rfl⟩<;>rfl
 pyHash:=fun hv h=>by
  rcases zbi hv with⟨i,t,rfl,rfl⟩|⟨x,t,rfl,rfl⟩
  ·exact wpAny_pyHash_int h
  ·exact wpAny_pyHash_str h
 eqBool:=fun hu hv h=>by
  rcases zbi hu with⟨i,t,rfl,rfl⟩|⟨x,t,rfl,rfl⟩
  ·rcases zbi hv with⟨j,u,rfl,rfl⟩|⟨y,u,rfl,rfl⟩
   ·rw[key_ll]at h;exact wpAny_eqBool_int h
   ·rw[key_lr]at h;exact SeqAt.EqAt.int_str i t y u _ _ _ _ h
  ·rcases zbi hv with⟨j,u,rfl,rfl⟩|⟨y,u,rfl,rfl⟩
   ·rw[key_rl]at h;exact SeqAt.EqAt.str_int x t j u _ _ _ _ h
   ·rw[key_rr]at h;exact wpAny_eqBool_str h
 «strs»:=fun k x t v h=>by
  rcases zbi h with⟨i,u,rfl,e⟩|⟨y,u,rfl,e⟩
  ·exact nomatch e
  ·injection e with e1 _
   subst e1
   cases v<;>rfl
theorem mixKind_int(prog:Program)(w:World)(i:Int)(t:Tok):(mixKind prog w).is (.inl i) (.int i t)=true:=keyIs_int i t
theorem mixKind_str(prog:Program)(w:World)(x:Str)(t:Tok):(mixKind prog w).is (.inr x) (.str x t)=true:=keyIs_str x t
end L2
namespace L2
open PySem PySem.Spec PyProof.Rows
inductive V where
 |non|bl (b:Bool)|int (i:Int)|str (x:Str)|byt (b:Array UInt8)|flt (b:UInt64)|ref (a:Addr)|ty (n:String)
 deriving DecidableEq
noncomputable def RelV:V->Value->Prop
 | .non,u=>u=Value.none
 | .bl b,u=>u=Value.bool b
 | .int i,u=>∃t,u=Value.int i t
 | .str x,u=>∃t,u=Value.str x t
 | .byt b,u=>∃t,u=Value.bytes b t
 | .flt b,u=>∃t,u=Value.float b t
 | .ref a,u=>u=Value.ref a
 | .ty n,u=>u=Value.type n
noncomputable abbrev Vals:List V->List Value->Prop:=Paired RelV
theorem Vals.length{xs:List V}{us:List Value}(r:Vals xs us):xs.length=us.length:=Paired.length r
theorem Vals.get:∀{xs:List V} {us:List Value} {i:Nat} {x:V},Vals xs us->xs[i]? =some x->∃u,us[i]? =some u/\RelV x u
 |_,_,_,_,.nil,e=>by simp at e
 |_,_,0,_,.cons r _,e=>by simp at e;subst e;exact⟨_,rfl,r⟩
 |_,_,i+1,x,.cons _ t,e=>by
  obtain⟨u,h1,h2⟩:=Vals.get (i:=i) (x:=x) t (by simpa using e)
  exact⟨u,by simpa using h1,h2⟩
theorem Vals.set{x:V}{u:Value}(r:RelV x u):∀{xs:List V} {us:List Value} (i:Nat),Vals xs us->Vals (xs.set i x) (us.set i u)
 |_,_,_,.nil=> .nil
 |_,_,0,.cons _ t=> .cons r t
 |_,_,i+1,.cons q t=> .cons q (Vals.set r i t)
theorem Vals.append:∀{xs ys:List V} {us ws:List Value},Vals xs us->Vals ys ws->Vals (xs++ys) (us++ws)
 |_,_,_,_,.nil,s=>s
 |_,_,_,_,.cons r t,s=> .cons r (Vals.append t s)
theorem Vals.take:∀{xs:List V} {us:List Value} (n:Nat),Vals xs us->Vals (xs.take n) (us.take n)
 |_,_,0,_=> .nil
 |_,_,_+1,.nil=> .nil
 |_,_,n+1,.cons r t=> .cons r (Vals.take n t)
theorem Vals.drop:∀{xs:List V} {us:List Value} (n:Nat),Vals xs us->Vals (xs.drop n) (us.drop n)
 |_,_,0,r=>r
 |_,_,_+1,.nil=> .nil
 |_,_,n+1,.cons _ t=>Vals.drop n t
noncomputable def RelO:Option V->Option Value->Prop
 |some v,some u=>RelV v u
 |none,none=>True
 |_,_=>False
noncomputable def KV{κ:Type}:List (κ×V)->List (κ×Value)->Prop:=Paired fun(p:κ×V) (q:κ×Value)=>p.1=q.1/\RelV p.2 q.2
noncomputable def kV:Key->V
 | .inl i=> .int i
 | .inr x=> .str x
inductive HO where
 /-- a list -/
 |lst (xs:List V)
 /-- a tuple (never changes) -/
 |tup (xs:List V)
 /-- a dict whose keys are ints and texts; one whose keys are tuples of ints and texts (the empty one is both) -/
 |dK (kvs:List (Key×V))|dT (kvs:List (List Key×V))
 /-- a set of ints: its members, its size -/
 |set (S:Int->Bool) (n:Nat)
 /-- an instance of the class at C, its dict at dx, its attributes -/
 |ins (C dx:Addr) (fs:List (Str×V))
 /-- the dict of the instance at x -/
 |own (x:Addr)
 /-- the dict of an exception -/
 |xd (fs:List (Str×V))
 /-- a bound method, f of x -/
 |met (f x:Addr)
 /-- a range object lo, lo + 1, .. below hi -/
 |rng (lo hi:Int)
 /-- a thing that is known to the object (the script; a dict while a loop walks it): read, never written while it is so -/
 |frz (o:Obj) (u:HO)
 /-- a code object's table -/
 |tbl (ps:Array Value)
 /-- any other thing, by what is true of its one object (a def of one's own: SetO a S n := HO.ext fun h => ..) -/
 |ext (φ:Heap->Prop)
noncomputable abbrev Hp:=Addr->Option HO
noncomputable def upd(H:Hp)(a:Addr)(o:HO):Hp:=fun b=>if b=a then some o else H b
theorem zab{H:Hp}{a:Addr}{o:HO}:upd H a o a=some o:=by unfold upd;rw[if_pos rfl]
theorem zaf{H:Hp}{a b:Addr}{o:HO}(h:b≠a):upd H a o b=H b:=by unfold upd;rw[if_neg h]
theorem upd_upd{H:Hp}{a:Addr}{o u:HO}:upd (upd H a o) a u=upd H a u:=by
 funext b;unfold upd;split<;>rfl
theorem ne_of{H:Hp}{a b:Addr}{o u:HO}(h:H a=some o)(h':H b=some u)(d:o≠u):a≠b:=by
 intro e;subst e;rw[h]at h';exact d (Option.some.inj h')
theorem zai{H:Hp}{a b:Addr}{o:HO}(h:H a=some o)(h':H b=none):a≠b:=by
 intro e;subst e;rw[h]at h';cases h'
section
variable(P:Program)(w:World)
noncomputable def ObjOk(H:Hp)(h:Heap)(a:Addr):HO->Prop
 | .lst xs=>xs.length<=sizeLine/\∃(its:List Value) (n:Nat),Vals xs its/\h.get? a=some {cls:= .type "list",data:= .seq its.toArray n}
 | .tup xs=>xs.length<=sizeLine/\∃its:List Value,Vals xs its/\IsTup h a its.toArray
 | .dK kvs=>kvs.length<=sizeLine/\(a==sysModules)=false/\∃vs,KV kvs vs/\h.DictOf (mixKind P w) a vs
 | .dT kvs=>kvs.length<=sizeLine/\(a==sysModules)=false/\∃xs:List (List Key×Addr×Value),
   Paired (fun(p:List Key×V) (q:List Key×Addr×Value)=>p.1=q.1/\H q.2.1=some (.tup (p.1.map kV))/\RelV p.2 q.2.2) kvs xs/\
   ∃o es ep,h.get? a=some o/\o.ExactDict/\o.data= .dict es ep/\es.toList=xs.map (entryOfKey (tupleKind (mixKind P w)))/\(xs.map (·.1)).Nodup
 | .set S n=>h.SetOf (intKind P w) a S n
 | .ins C dx fs=>H dx=some (.own a)/\fs.length<=1000/\dx≠a/\h.get? a=some (PySem.W.instObj C dx)/\
   ∃mA,h.Ns1 dx mA/\(∀f,RelO (fs.lookup f) (mA f))/\PySem.Within mA (fs.map (·.1))
 | .own _=>∃o,h.get? a=some o
 | .xd fs=>∃mA,h.Ns1 a mA/\∀f,RelO (fs.lookup f) (mA f)
 | .rng lo hi=>∃t u v,h.get? a=some {cls:= .type "range",data:= .fields #[.int lo t,.int hi u,.int 1 v]}
 | .frz o u=>h.get? a=some o/\ObjOk H h a u
 | .tbl ps=>h.get? a=some {cls:= .none,data:= .fields ps}
 | .met f x=>h.get? a=some (PySem.W.methodObj (.ref f) (.ref x))
 | .ext φ=>φ h/\(∃o,h.get? a=some o)/\∀h1 h2:Heap,φ h1->(∀o,h1.get? a=some o->h2.get? a=some o)->φ h2
noncomputable def HOk(H:Hp)(h:Heap):Prop:=∀a o,H a=some o->ObjOk P w H h a o
end
section
variable{P:Program}{w:World}{H H':Hp}{h h':Heap}{a:Addr}{o:HO}
theorem ObjOk.lt(x:ObjOk P w H h a o):a<h.objs.size:=by
 cases o with
 |lst xs=>obtain⟨_,_,_,_,e⟩:=x;exact Heap.lt_size e
 |tup xs=>obtain⟨_,_,_,p⟩:=x;exact p.lt
 |dK kvs=>obtain⟨_,_,_,_,o,_,_,e,_⟩:=x;exact Heap.lt_size e
 |dT kvs=>obtain⟨_,_,_,_,o,_,_,e,_⟩:=x;exact Heap.lt_size e
 |set S n=>obtain⟨o,_,_,_,e,_⟩:=x;exact Heap.lt_size e
 |ins C dx fs=>obtain⟨_,_,_,e,_⟩:=x;exact Heap.lt_size e
 |own y=>obtain⟨_,e⟩:=x;exact Heap.lt_size e
 |xd fs=>obtain⟨_,⟨_,_,_,e,_⟩,_⟩:=x;exact Heap.lt_size e
 |rng lo hi=>obtain⟨_,_,_,e⟩:=x;exact Heap.lt_size e
 |frz ob u=>obtain⟨e,_⟩:=x;exact Heap.lt_size e
 |tbl ps=>exact Heap.lt_size (show h.get? a=some _ from x)
 |met f y=>exact Heap.lt_size (show h.get? a=some _ from x)
 |ext φ=>obtain⟨_,⟨_,e⟩,_⟩:=x;exact Heap.lt_size e
theorem Paired.mapP{α β:Type}{F G:α->β->Prop}:∀{l₁:List α} {l₂:List β},Paired F l₁ l₂->(∀a b,F a b->G a b)->Paired G l₁ l₂
 |_,_,.nil,_=> .nil
 |_,_,.cons r t,f=> .cons (f _ _ r) (Paired.mapP t f)
theorem ObjOk.stay(x:ObjOk P w H h a o)(k:∀b u,(b=a\/H b=some (.own a))->h.get? b=some u->h'.get? b=some u)(ho:∀b,H b=some (.own a)->H' b=some (.own a))(ht:∀b xs,H b=some (.tup xs)->H' b=some (.tup xs)):ObjOk P w H' h' a o:=by
 induction o with
 |lst xs=>obtain⟨z,its,n,r,e⟩:=x;exact⟨z,its,n,r,k _ _ (.inl rfl) e⟩
 |tup xs=>obtain⟨z,its,r,ob,e,c⟩:=x;exact⟨z,its,r,ob,k _ _ (.inl rfl) e,c⟩
 |dK kvs=>obtain⟨z,y,vs,r,ob,es,ep,e,c⟩:=x;exact⟨z,y,vs,r,ob,es,ep,k _ _ (.inl rfl) e,c⟩
 |dT kvs=>
  obtain⟨z,y,xs,r,ob,es,ep,e,c⟩:=x
  exact⟨z,y,xs,Paired.mapP r fun p q z=>⟨z.1,ht _ _ z.2.1,z.2.2⟩,ob,es,ep,k _ _ (.inl rfl) e,c⟩
 |set S n=>obtain⟨ob,es,ep,t,e,c⟩:=x;exact⟨ob,es,ep,t,k _ _ (.inl rfl) e,c⟩
 |ins C dx fs=>
  obtain⟨d,z,ne,e,mA,⟨od,es,ep,e2,c⟩,r⟩:=x
  exact⟨ho _ d,z,ne,k _ _ (.inl rfl) e,mA,⟨od,es,ep,k _ _ (.inr d) e2,c⟩,r⟩
 |own y=>obtain⟨ob,e⟩:=x;exact⟨ob,k _ _ (.inl rfl) e⟩
 |xd fs=>obtain⟨mA,⟨od,es,ep,e,c⟩,r⟩:=x;exact⟨mA,⟨od,es,ep,k _ _ (.inl rfl) e,c⟩,r⟩
 |rng lo hi=>obtain⟨t,u,v,e⟩:=x;exact⟨t,u,v,k _ _ (.inl rfl) e⟩
 |frz ob u ih=>obtain⟨e,q⟩:=x;exact⟨k _ _ (.inl rfl) e,ih q⟩
 |tbl ps=>
  have e:h.get? a=some {cls:= .none,data:= .fields ps}:=x
  show h'.get? a=some {cls:= .none,data:= .fields ps}
  exact k a _ (.inl rfl) e
 |met f y=>
  have e:h.get? a=some (PySem.W.methodObj (.ref f) (.ref y)):=x
  show h'.get? a=some (PySem.W.methodObj (.ref f) (.ref y))
  exact k a _ (.inl rfl) e
 |ext φ=>obtain⟨p,⟨o,e⟩,st⟩:=x;exact⟨st _ _ p fun o q=>k _ _ (.inl rfl) q,⟨o,k _ _ (.inl rfl) e⟩,st⟩
theorem HOk.lt(x:HOk P w H h)(e:H a=some o):a<h.objs.size:=(x a o e).lt
theorem HOk.fresh(x:HOk P w H h)(e:h.objs.size<=a):H a=none:=by
 cases q:H a with
 |none=>rfl
 |some u=>exact absurd (Nat.lt_of_lt_of_le (x.lt q) e) (Nat.lt_irrefl _)
theorem HOk.kept(x:HOk P w H h)(k:∀b u,h.get? b=some u->h'.get? b=some u):HOk P w H h':=fun a o e=>
 (x a o e).stay (fun b u _ q=>k b u q) (fun _ q=>q) fun _ _ q=>q
theorem HOk.laid(x:HOk P w H h)(k:∀b u,h.get? b=some u->h'.get? b=some u)(hp:h.objs.size<=a)(new:ObjOk P w (upd H a o) h' a o):HOk P w (upd H a o) h':=fun b u e=>by
 have hn:=x.fresh hp
 by_cases hb:b=a
 ·subst hb;rw[zab]at e;cases e;exact new
 ·rw[zaf hb]at e
  exact(x b u e).stay (fun c v _ q=>k c v q) (fun c q=>by rw[zaf (zai q hn)];exact q) fun c xs q=>by rw[zaf (zai q hn)];exact q
end
noncomputable def Rd(H:Hp)(a:Addr)(u:HO):Prop:=H a=some u\/∃o,H a=some (.frz o u)
theorem Rd.of{H:Hp}{a:Addr}{u:HO}(h:H a=some u):Rd H a u:= .inl h
theorem Rd.ok{P:Program}{w:World}{H:Hp}{h:Heap}{a:Addr}{u:HO}(r:Rd H a u)(x:HOk P w H h):ObjOk P w H h a u:=by
 rcases r with r|⟨o,r⟩
 ·exact x a u r
 ·obtain⟨_,q⟩:=x a _ r
  exact q
noncomputable def Mut:Option HO->Prop
 |some (.lst _)=>True
 |some (.dK _)=>True
 |some (.dT _)=>True
 |some (.set _ _)=>True
 |some (.ins _ _ _)=>True
 |some (.ext _)=>True
 |_=>False
section
variable{P:Program}{w:World}{H:Hp}{h h':Heap}{x e:Addr}{o':HO}
theorem HOk.write(ok:HOk P w H h)(mu:Mut (H x))(he:e=x\/H e=some (.own x))(k:∀b u,b≠e->h.get? b=some u->h'.get? b=some u)(heo:∃u,h'.get? e=some u)(new:ObjOk P w (upd H x o') h' x o'):HOk P w (upd H x o') h':=fun b u q=>by
 have nown:∀c y,H c=some (.own y)->c≠x:=fun c y r z=>by subst z;rw[r]at mu;exact mu
 have ntup:∀c xs,H c=some (.tup xs)->c≠x:=fun c xs r z=>by subst z;rw[r]at mu;exact mu
 by_cases hb:b=x
 ·subst hb;rw[zab]at q;cases q;exact new
 ·rw[zaf hb]at q
  by_cases hbe:b=e
  ·have q':H b=some (.own x):=by
    rcases he with z|z
    ·exact absurd (hbe.trans z) hb
    ·rw[hbe];exact z
   rw[q]at q';cases q'
   obtain⟨v,hv⟩:=heo
   exact⟨v,by rw[hbe];exact hv⟩
  ·refine(ok b u q).stay (fun c v hc r=>k c v ?_ r) (fun c r=>by rw[zaf (nown c b r)];exact r) fun c xs r=>by rw[zaf (ntup c xs r)];exact r
   rcases hc with rfl|hc
   ·exact hbe
   ·rintro rfl
    rcases he with z|z
    ·exact nown c b hc z
    ·rw[hc]at z;cases z;exact hb rfl
end
structure Un(fs ex:List Addr)(H H':Hp)(h h':Heap):Prop where
 keep:∀b o,h.get? b=some o->H b=none->b∉fs->b∉ex->h'.get? b=some o
 slot:∀b o,h.get? b=some o->H b=none->b∈fs->b∉ex->∃sl,h'.get? b=some {o with slots:=sl}
 free:∀b o,h.get? b=some o->H b=none->b∉ex->H' b=none
 there:∀b o,h.get? b=some o->b∉ex->∃o',h'.get? b=some o'
 tups:∀b xs,H b=some (.tup xs)->H' b=some (.tup xs)
 frzs:∀b o u,H b=some (.frz o u)->H' b=some (.frz o u)
 tbls:∀b ps,H b=some (.tbl ps)->∃more,H' b=some (.tbl (ps++more))
section
variable{fs fs' ex ex':List Addr}{H H1 H2:Hp}{h h1 h2 h':Heap}{a x e:Addr}{o:HO}
theorem Un.any(u:Un fs ex H H1 h h1){b:Addr}{ob:Obj}(q:h.get? b=some ob)(n:H b=none)(hx:b∉ex):∃sl,h1.get? b=some {ob with slots:=sl}:=by
 by_cases hb:b∈fs
 ·exact u.slot b ob q n hb hx
 ·exact⟨ob.slots,u.keep b ob q n hb hx⟩
theorem Un.trans(a:Un fs ex H H1 h h1)(b:Un fs ex H1 H2 h1 h2):Un fs ex H H2 h h2 where
 keep:=fun c ob q n hc hx=>b.keep c ob (a.keep c ob q n hc hx) (a.free c ob q n hx) hc hx
 slot:=fun c ob q n hc hx=>by
  obtain⟨sl,e1⟩:=a.slot c ob q n hc hx
  obtain⟨sl',e2⟩:=b.slot c _ e1 (a.free c ob q n hx) hc hx
  exact⟨sl',e2⟩
 free:=fun c ob q n hx=>by
  obtain⟨o',e1⟩:=a.there c ob q hx
  exact b.free c o' e1 (a.free c ob q n hx) hx
 there:=fun c ob q hx=>by
  obtain⟨o',e1⟩:=a.there c ob q hx
  exact b.there c o' e1 hx
 tups:=fun c xs q=>b.tups c xs (a.tups c xs q)
 frzs:=fun c ob xs q=>b.frzs c ob xs (a.frzs c ob xs q)
 tbls:=fun c ps q=>by
  obtain⟨m1,e1⟩:=a.tbls c ps q
  obtain⟨m2,e2⟩:=b.tbls c _ e1
  exact⟨m1++m2,by rw[e2,Array.append_assoc]⟩
theorem Un.kept(k:∀b u,h.get? b=some u->h'.get? b=some u):Un fs ex H H h h':=
 ⟨fun b ob q _ _ _=>k b ob q,fun b ob q _ _ _=>⟨ob.slots,k b ob q⟩,fun _ _ _ n _=>n,fun b ob q _=>⟨ob,k b ob q⟩,fun _ _ q=>q,fun _ _ _ q=>q,fun _ ps q=>⟨#[],by rw[q];simp⟩⟩
theorem Un.refl:Un fs ex H H h h:=Un.kept fun _ _ q=>q
theorem Un.laid(k:∀b u,h.get? b=some u->h'.get? b=some u)(hp:h.objs.size<=a)(hn:H a=none):Un fs ex H (upd H a o) h h' where
 keep:=fun b u q _ _ _=>k b u q
 slot:=fun b u q _ _ _=>⟨u.slots,k b u q⟩
 free:=fun b u q n _=>by rw[zaf (Nat.ne_of_lt (Nat.lt_of_lt_of_le (Heap.lt_size q) hp))];exact n
 there:=fun b u q _=>⟨u,k b u q⟩
 tups:=fun b xs q=>by rw[zaf (zai q hn)];exact q
 frzs:=fun b u xs q=>by rw[zaf (zai q hn)];exact q
 tbls:=fun b ps q=>⟨#[],by rw[zaf (zai q hn),q];simp⟩
theorem Un.write(mu:Mut (H x))(he:e=x\/H e=some (.own x))(k:∀b u,b≠e->h.get? b=some u->h'.get? b=some u)(heo:∃u,h'.get? e=some u):Un fs ex H (upd H x o) h h':=by
 have hx:∀b,H b=none->b≠x:=fun b n z=>by subst z;rw[n]at mu;exact mu
 have hb:∀b,H b=none->b≠e:=fun b n z=>by
  subst z
  rcases he with r|r
  ·exact hx b n r
  ·rw[n]at r;cases r
 have hm:∀b u,H b=some u->¬Mut (some u)->b≠x:=fun b u q nm z=>by subst z;rw[q]at mu;exact nm mu
 refine⟨fun b u q n _ _=>k b u (hb b n) q,fun b u q n _ _=>⟨u.slots,k b u (hb b n) q⟩,fun b u q n _=>by rw[zaf (hx b n)];exact n,fun b u q _=> ?_,
  fun b xs q=>by rw[zaf (hm b _ q fun z=>z)];exact q,fun b u xs q=>by rw[zaf (hm b _ q fun z=>z)];exact q,fun b ps q=>⟨#[],by rw[zaf (hm b _ q fun z=>z),q];simp⟩⟩
 by_cases hbe:b=e
 ·subst hbe;exact heo
 ·exact⟨u,k b u hbe q⟩
theorem Un.mono(u:Un fs ex H H1 h h1)(hs:∀b∈fs,b∈fs')(hx:∀b∈ex,b∈ex'):Un fs' ex' H H1 h h1:=
 ⟨fun b ob q n hb he=>u.keep b ob q n (fun z=>hb (hs b z)) fun z=>he (hx b z),fun _ _ q n _ he=>u.any q n fun z=>he (hx _ z),fun b ob q n he=>u.free b ob q n fun z=>he (hx b z),fun b ob q he=>u.there b ob q fun z=>he (hx b z),u.tups,u.frzs,u.tbls⟩
end
noncomputable def trk(h:Heap)(H:Hp):List Addr:=(List.range h.objs.size).filter fun a=>(H a).isSome
noncomputable def hidT(h:Heap)(H:Hp):Heap:=PySem.W.hideAll h (trk h H)
theorem hidT_size(h:Heap)(H:Hp):(hidT h H).objs.size=h.objs.size:=PySem.W.hideAll_size _ _
theorem hidT_get{h:Heap}{H:Hp}{b:Addr}{o:Obj}(e:h.get? b=some o)(n:H b=none):(hidT h H).get? b=some o:=
 PySem.W.hideAll_get _ e fun hm=>by
  have q:(H b).isSome=true:=(List.mem_filter.mp hm).2
  rw[n]at q;simp at q
theorem of_hidT{h:Heap}{H:Hp}{b:Addr}{o:Obj}(e:(hidT h H).get? b=some o):h.get? b=some o/\H b=none:=by
 have e':h.get? b=some o:=PySem.W.of_hideAll (trk h H) e
 refine⟨e',?_⟩
 cases q:H b with
 |none=>rfl
 |some x=>
  have hm:b∈trk h H:=List.mem_filter.mpr ⟨List.mem_range.mpr (Heap.lt_size e'),by simp[q]⟩
  have z:(hidT h H).get? b=none:=PySem.W.hideAll_none (trk h H) hm
  rw[z]at e;cases e
noncomputable def allNews(g h:Heap)(L:Addr):List (Addr×Obj):=(List.range h.objs.size).filterMap fun a=>if a=L\/(g.get? a).isSome=true then none else(h.get? a).map fun o=>(a,o)
noncomputable def rest(g h:Heap)(L d:Addr):List (Addr×Obj):=(allNews g h L).filter fun p=>decide (p.1≠d)
end L2
namespace L2
open PySem PySem.Spec PyProof.Rows
structure Mod(K:W.Frag)(mg:Str->Option Value)(base:Heap):Prop where
 kin:K.In base
 glob:base.Ns mainGlobals mg
 blt:∃mb,base.Ns builtinsNs mb/\∀x:Str,x≠"__name__"->mb x=bootBuiltins x
 nolimit:base.NoLimit
structure Cx where
 prog:Program
 w:World
 K:W.Frag
 mg:Str->Option Value
 base:Heap
 A:Around
 N:List Str
 s₀:Shared
 H₀:Hp
 env:Env
 outer:List Env
 stack:List Env
 ex:List Addr
 fn:Str->Bool
 calm:Bool
 pn:List (Addr×Obj)
 xe:Value->Shared->Prop
noncomputable def frs(l:List Env):List Addr:=l.filterMap (·.frame)
noncomputable abbrev Cx.fs(X:Cx):List Addr:=frs X.outer
noncomputable def Vis(sc:Scope)(x:Str):Prop:=sc.names.lookup x=some .local\/sc.names.lookup x=some .cell\/sc.names.lookup x=some .free
noncomputable def Loc(sc:Scope)(x:Str):Prop:=sc.names.lookup x=some .local\/sc.names.lookup x=some .cell
noncomputable def Look(env:Env)(h:Heap)(m:Str->Option Value)(x:Str)(u:Value):Prop:=
 (env.kindOf x=some .local/\m x=some u)\/((env.kindOf x=some .cell\/env.kindOf x=some .free)/\∃c,env.cells.lookup x=some c/\h.IsCell c (some u))
structure Cx.Ok(X:Cx):Prop where
 mod:Mod X.K X.mg X.base
 kind:X.env.scope.kind= .function
 glob:X.env.globals=mainGlobals
 blt:X.env.builtins=builtinsNs
 above:X.s₀.heap.objs.size<=X.env.locals
 inj:∀x y c,X.env.cells.lookup x=some c->X.env.cells.lookup y=some c->x=y
 has:∀x,(X.env.kindOf x=some .cell\/X.env.kindOf x=some .free)->∃c,X.env.cells.lookup x=some c
 cab:∀x c,X.fn x=true->X.env.cells.lookup x=some c->X.s₀.heap.objs.size<=c
 hd:X.calm=true->X.A.handled=none
 frames:X.A.frames=some X.stack
 stk:X.stack=X.outer\/(X.stack=X.env::X.outer/\X.env.frame=some X.env.locals)
 exf:∀b∈X.ex,b≠X.env.locals/\∀x c,X.env.cells.lookup x=some c->c≠b
 bs:∀b o,X.base.get? b=some o->X.s₀.heap.get? b=some o/\X.H₀ b=none
 bsz:X.base.objs.size<=X.s₀.heap.objs.size
 noex:∀b o,X.base.get? b=some o->b∉X.ex
 exfs:∀b∈X.ex,b∉X.fs
 funs:X.s₀.heap.FunFrames X.base X.outer
 frf:∀b∈X.fs,X.H₀ b=none
structure Inv(X:Cx)(pins:List (Addr×Obj))(σ:List (Option V))(H:Hp)(s:Shared):Prop where
 ok:X.Ok
 os:s.os=X.s₀.os
 bare:AllBare s.gens
 base:Un X.fs X.ex X.H₀ H X.s₀.heap s.heap
 loc:∃m,s.heap.Ns X.env.locals m/\∀(i:Nat) (x:Str) (v:V),X.N[i]? =some x->σ[i]? =some (some v)->Vis X.env.scope x->∃u,RelV v u/\Look X.env s.heap m x u
 cell:∀x c,X.env.cells.lookup x=some c->∃v,s.heap.IsCell c v
 free:H X.env.locals=none
 freeC:∀x c,X.env.cells.lookup x=some c->H c=none
 pin:∀p∈X.pn++pins,s.heap.get? p.1=some p.2/\H p.1=none/\p.1≠X.env.locals/\p.1∉X.fs/\∀v,p.2.data≠.cell v
 hok:HOk X.prog X.w H s.heap
 len:σ.length=X.N.length
section
variable{X:Cx}{pins:List (Addr×Obj)}{σ:List (Option V)}{H H':Hp}{s:Shared}{h':Heap}
theorem Cx.Ok.nofr(ok:X.Ok){b:Addr}{o:Obj}(e:X.base.get? b=some o):b∉X.fs:=fun hb=>by
 have:=(ok.funs.mem hb).1
 rw[e]at this;cases this
theorem Inv.bs(I:Inv X pins σ H s):∀b o,X.base.get? b=some o->s.heap.get? b=some o/\H b=none:=fun b o e=>
 ⟨I.base.keep b o (I.ok.bs b o e).1 (I.ok.bs b o e).2 (I.ok.nofr e) (I.ok.noex b o e),I.base.free b o (I.ok.bs b o e).1 (I.ok.bs b o e).2 (I.ok.noex b o e)⟩
theorem Inv.bk(I:Inv X pins σ H s):∀b o,X.base.get? b=some o->s.heap.get? b=some o:=fun b o e=>(I.bs b o e).1
theorem Inv.mod(I:Inv X pins σ H s):Mod X.K X.mg X.base:=I.ok.mod
theorem Inv.kIn(I:Inv X pins σ H s):X.K.In s.heap:=I.ok.mod.kin.keeps I.bk
theorem Inv.nolimit(I:Inv X pins σ H s):s.heap.NoLimit:=I.ok.mod.nolimit.keeps I.bk
theorem Inv.fr(I:Inv X pins σ H s):∃m,Fr X.base X.env.locals s.heap m:=
 let⟨m,hn,_⟩:=I.loc
 ⟨m,hn,I.bk,Nat.le_trans I.ok.bsz I.ok.above⟩
theorem Inv.lt(I:Inv X pins σ H s):X.env.locals<s.heap.objs.size:=let⟨_,hn,_⟩:=I.loc;hn.lt
theorem Inv.sz(I:Inv X pins σ H s):X.s₀.heap.objs.size<=s.heap.objs.size:=Nat.le_trans I.ok.above (Nat.le_of_lt I.lt)
theorem Inv.nofs(I:Inv X pins σ H s){a:Addr}(h:s.heap.objs.size<=a):a∉X.fs:=fun hb=>by
 obtain⟨_,o,ho,_⟩:=I.ok.funs.mem hb
 exact absurd (Nat.lt_of_lt_of_le (Heap.lt_size ho) (Nat.le_trans I.sz h)) (Nat.lt_irrefl _)
theorem Inv.cne(I:Inv X pins σ H s):∀x c,X.env.cells.lookup x=some c->c≠X.env.locals:=fun x c e z=>by
 obtain⟨v,o,ho,hd⟩:=I.cell x c e
 obtain⟨m,⟨o',es,ep,ho',hd',_⟩,_⟩:=I.loc
 rw[z,ho']at ho;cases ho;rw[hd']at hd;cases hd
theorem Inv.funs(I:Inv X pins σ H s):s.heap.FunFrames X.base X.outer:=by
 have all:∀(l:List Env),(∀b∈frs l,b∈X.fs)->X.s₀.heap.FunFrames X.base l->s.heap.FunFrames X.base l:=by
  intro l
  induction l with
  |nil=>intro _ _;trivial
  |cons env r ih=>
   intro hs hl
   obtain⟨hk,⟨L,o,hf,hn,ho,hd⟩,hr⟩:=hl
   have hL:L∈X.fs:=hs L (by unfold frs;rw[List.filterMap_cons,hf];exact List.mem_cons_self)
   obtain⟨sl,e⟩:=I.base.slot L o ho (I.ok.frf L hL) hL fun z=>I.ok.exfs L z hL
   exact⟨hk,⟨L,_,hf,hn,e,hd⟩,ih (fun b hb=>hs b (by unfold frs;rw[List.filterMap_cons,hf];exact List.mem_cons_of_mem _ hb)) hr⟩
 exact all X.outer (fun _ hb=>hb) I.ok.funs
theorem Inv.stack(I:Inv X pins σ H s):s.heap.FunFrames X.base X.stack:=by
 rcases I.ok.stk with e|⟨e,hf⟩
 ·rw[e];exact I.funs
 ·rw[e]
  obtain⟨m,hn,_⟩:=I.loc
  refine .cons (by rw[I.ok.kind];decide) hf hn ?_ I.funs
  exact Heap.get?_none_of_le (Nat.le_trans I.ok.bsz I.ok.above)
theorem Inv.stkSub(I:Inv X pins σ H s):∀b∈frs X.stack,b∈X.env.locals::X.fs:=fun b hb=>by
 rcases I.ok.stk with e|⟨e,hf⟩
 ·rw[e]at hb;exact List.mem_cons_of_mem _ hb
 ·rw[e]at hb
  unfold frs at hb
  rw[List.filterMap_cons,hf]at hb
  exact hb
theorem Inv.stkFree(I:Inv X pins σ H s):∀b∈frs X.stack,H b=none:=fun b hb=>by
 rcases List.mem_cons.mp (I.stkSub b hb)with e|hb
 ·rw[e];exact I.free
 ·obtain⟨_,o,ho,_⟩:=I.ok.funs.mem hb
  exact I.base.free b o ho (I.ok.frf b hb) fun z=>I.ok.exfs b z hb
theorem Inv.step{g':Array GenState}{t':Nat}{d':Drawn}{ch:List Addr}(I:Inv X pins σ H s)(hch:∀b∈ch,(b∈X.ex\/X.s₀.heap.objs.size<=b)/\b≠X.env.locals/\(∀x c,X.env.cells.lookup x=some c->c≠b)/\∀p∈X.pn++pins,p.1≠b)(keep:∀b o,b≠X.env.locals->b∉X.fs->b∉ch->s.heap.get? b=some o->H b=none->h'.get? b=some o)(slot:∀b o,b≠X.env.locals->b∈X.fs->b∉ch->s.heap.get? b=some o->H b=none->∃sl,h'.get? b=some {o with slots:=sl})(free:∀b o,b∉ch->s.heap.get? b=some o->H b=none->H' b=none)(there:∀b o,b∉ch->s.heap.get? b=some o->∃o',h'.get? b=some o')(tups:∀b xs,H b=some (.tup xs)->H' b=some (.tup xs))(frzs:∀b o u,H b=some (.frz o u)->H' b=some (.frz o u))(tbls:∀b ps,H b=some (.tbl ps)->∃more,H' b=some (.tbl (ps++more)))(ns:∀m,s.heap.Ns X.env.locals m->h'.Ns X.env.locals m)(hok:HOk X.prog X.w H' h')(hg:AllBare g'):
  Inv X pins σ H' {s with heap:=h',gens:=g',drawn:=d',toks:=t'}:=by
 have neL:∀b o,X.s₀.heap.get? b=some o->b≠X.env.locals:=fun b o e=>Nat.ne_of_lt (Nat.lt_of_lt_of_le (Heap.lt_size e) I.ok.above)
 have neC:∀b o,X.s₀.heap.get? b=some o->b∉X.ex->b∉ch:=fun b o e hx hb=>by
  rcases(hch b hb).1 with z|z
  ·exact hx z
  ·exact absurd (Nat.lt_of_lt_of_le (Heap.lt_size e) z) (Nat.lt_irrefl _)
 have cellK:∀x c,X.env.cells.lookup x=some c->∀v,s.heap.IsCell c v->h'.IsCell c v:=fun x c e v ⟨o,ho,hd⟩=>by
  have nch:c∉ch:=fun z=>(hch c z).2.2.1 x c e rfl
  by_cases hc:c∈X.fs
  ·obtain⟨sl,q⟩:=slot c o (I.cne x c e) hc nch ho (I.freeC x c e)
   exact⟨_,q,hd⟩
  ·exact⟨o,keep c o (I.cne x c e) hc nch ho (I.freeC x c e),hd⟩
 refine⟨I.ok,I.os,hg,⟨fun b o e n hb hx=> ?_,fun b o e n hb hx=> ?_,fun b o e n hx=> ?_,fun b o e hx=> ?_,fun b xs e=>tups b xs (I.base.tups b xs e),fun b o xs e=>frzs b o xs (I.base.frzs b o xs e),fun b ps e=> ?_⟩,?_,fun x c e=> ?_,?_,fun x c e=> ?_,fun p hp=> ?_,hok,I.len⟩
 ·exact keep b o (neL b o e) hb (neC b o e hx) (I.base.keep b o e n hb hx) (I.base.free b o e n hx)
 ·obtain⟨sl,e1⟩:=I.base.slot b o e n hb hx
  obtain⟨sl',e2⟩:=slot b _ (neL b o e) hb (neC b o e hx) e1 (I.base.free b o e n hx)
  exact⟨sl',e2⟩
 ·obtain⟨o',e1⟩:=I.base.there b o e hx
  exact free b o' (neC b o e hx) e1 (I.base.free b o e n hx)
 ·obtain⟨o',e1⟩:=I.base.there b o e hx
  exact there b o' (neC b o e hx) e1
 ·obtain⟨m1,e1⟩:=I.base.tbls b ps e
  obtain⟨m2,e2⟩:=tbls b _ e1
  exact⟨m1++m2,by rw[e2,Array.append_assoc]⟩
 ·obtain⟨m,hn,hl⟩:=I.loc
  refine⟨m,ns m hn,fun i x v e1 e2 e3=> ?_⟩
  obtain⟨u,r,l⟩:=hl i x v e1 e2 e3
  refine⟨u,r,?_⟩
  rcases l with l|⟨k,c,e,z⟩
  ·exact .inl l
  ·exact .inr ⟨k,c,e,cellK x c e _ z⟩
 ·obtain⟨v,z⟩:=I.cell x c e
  exact⟨v,cellK x c e v z⟩
 ·obtain⟨m,⟨o,_,_,ho,_⟩,_⟩:=I.loc
  exact free _ o (fun z=>(hch _ z).2.1 rfl) ho I.free
 ·obtain⟨v,o,ho,hd⟩:=I.cell x c e
  exact free c o (fun z=>(hch c z).2.2.1 x c e rfl) ho (I.freeC x c e)
 ·obtain⟨e,n,ne,nf,d⟩:=I.pin p hp
  have nch:p.1∉ch:=fun z=>(hch p.1 z).2.2.2 p hp rfl
  exact⟨keep p.1 p.2 ne nf nch e n,free p.1 p.2 nch e n,ne,nf,d⟩
theorem Inv.un{t':Nat}(I:Inv X pins σ H s)(u:Un X.fs [] H H' s.heap h')(hok:HOk X.prog X.w H' h'):Inv X pins σ H' {s with heap:=h',toks:=t'}:=by
 obtain⟨m,⟨o,es,ep,ho,r⟩,_⟩:=id I.loc
 obtain⟨sl,hL⟩:=u.any ho I.free (by simp)
 exact I.step (g':=s.gens) (d':=s.drawn) (ch:=[]) (fun _ z=>nomatch z) (fun b o _ hb _ e n=>u.keep b o e n hb (by simp)) (fun b o _ hb _ e n=>u.slot b o e n hb (by simp)) (fun b o _ e n=>u.free b o e n (by simp)) (fun b o _ e=>u.there b o e (by simp)) u.tups u.frzs u.tbls (fun m' hm=>by
  obtain⟨o',es',ep',ho',r'⟩:=hm
  rw[ho]at ho';cases ho'
  exact⟨_,es',ep',hL,r'⟩) hok I.bare
theorem Inv.call{g':Array GenState}{t':Nat}{d':Drawn}{ch:List Addr}(I:Inv X pins σ H s)(u:Un (frs X.stack) ch H H' s.heap h')(hok:HOk X.prog X.w H' h')(hg:AllBare g')(hch:∀b∈ch,(b∈X.ex\/X.s₀.heap.objs.size<=b)/\b≠X.env.locals/\(∀x c,X.env.cells.lookup x=some c->c≠b)/\∀p∈X.pn++pins,p.1≠b):
  Inv X pins σ H' {s with heap:=h',gens:=g',drawn:=d',toks:=t'}:=by
 obtain⟨m,⟨o,es,ep,ho,r⟩,_⟩:=id I.loc
 obtain⟨sl,hL⟩:=u.any ho I.free fun z=>(hch _ z).2.1 rfl
 exact I.step (ch:=ch) hch (fun b o hL hb hc e n=>u.keep b o e n (fun z=>(List.mem_cons.mp (I.stkSub b z)).elim hL hb) hc) (fun b o _ _ hc e n=>u.any e n hc) (fun b o hc e n=>u.free b o e n hc) (fun b o hc e=>u.there b o e hc) u.tups u.frzs u.tbls (fun m' hm=>by
  obtain⟨o',es',ep',ho',r'⟩:=hm
  rw[ho]at ho';cases ho'
  exact⟨_,es',ep',hL,r'⟩) hok hg
theorem Inv.turned{t':Nat}{it:Addr}(I:Inv X pins σ H s)(k:∀b o,b≠it->s.heap.get? b=some o->h'.get? b=some o)(hn:H it=none)(hL:it≠X.env.locals)(h1:it∈X.ex\/X.s₀.heap.objs.size<=it)(h2:∀x c,X.env.cells.lookup x=some c->c≠it)(h3:∀p∈X.pn++pins,p.1≠it):Inv X pins σ H {s with heap:=h',toks:=t'}:=by
 have nit:∀b u,H b=some u->b≠it:=fun b u e z=>by rw[z,hn]at e;cases e
 refine I.step (g':=s.gens) (d':=s.drawn) (ch:=[it]) (fun b hb=> ?_) (fun b o _ _ hc e _=>k b o (fun z=>hc (by simp[z])) e) (fun b o _ _ hc e _=>⟨o.slots,k b o (fun z=>hc (by simp[z])) e⟩) (fun _ _ _ _ n=>n)
  (fun b o hc e=>⟨o,k b o (fun z=>hc (by simp[z])) e⟩) (fun _ _ e=>e) (fun _ _ _ e=>e) (fun b ps e=>⟨#[],by rw[e];simp⟩) (fun m hm=> ?_) (fun b u e=> ?_) I.bare
 ·have e:b=it:=by simpa using hb
  subst e
  exact⟨h1,hL,h2,h3⟩
 ·obtain⟨o,es,ep,ho,r⟩:=hm
  exact⟨o,es,ep,k _ o (Ne.symm hL) ho,r⟩
 ·refine(I.hok b u e).stay (fun c v hc q=>k c v ?_ q) (fun _ q=>q) fun _ _ q=>q
  rcases hc with z|z
  ·rw[z];exact nit b u e
  ·exact nit c _ z
theorem Inv.tok(I:Inv X pins σ H s)(t:Nat):Inv X pins σ H {s with toks:=t}:=I.un (h':=s.heap) (t':=t) Un.refl I.hok
theorem Inv.kept{t':Nat}(I:Inv X pins σ H s)(k:∀b u,s.heap.get? b=some u->h'.get? b=some u):Inv X pins σ H {s with heap:=h',toks:=t'}:=I.un (Un.kept k) (I.hok.kept k)
theorem Inv.laid{a:Addr}{o:HO}{t':Nat}(I:Inv X pins σ H s)(k:∀b u,s.heap.get? b=some u->h'.get? b=some u)(hp:s.heap.objs.size<=a)(new:ObjOk X.prog X.w (upd H a o) h' a o):
  Inv X pins σ (upd H a o) {s with heap:=h',toks:=t'}:=I.un (Un.laid k hp (I.hok.fresh hp)) (I.hok.laid k hp new)
theorem Inv.write{x e:Addr}{o:HO}{t':Nat}(I:Inv X pins σ H s)(mu:Mut (H x))(he:e=x\/H e=some (.own x))(k:∀b u,b≠e->s.heap.get? b=some u->h'.get? b=some u)(heo:∃u,h'.get? e=some u)(new:ObjOk X.prog X.w (upd H x o) h' x o):Inv X pins σ (upd H x o) {s with heap:=h',toks:=t'}:=I.un (Un.write mu he k heo) (I.hok.write mu he k heo new)
theorem Inv.pins_of{pins':List (Addr×Obj)}(I:Inv X pins σ H s)(h:∀p∈pins',s.heap.get? p.1=some p.2/\H p.1=none/\p.1≠X.env.locals/\p.1∉X.fs/\∀v,p.2.data≠.cell v):Inv X pins' σ H s:=
 ⟨I.ok,I.os,I.bare,I.base,I.loc,I.cell,I.free,I.freeC,fun p hp=>(List.mem_append.mp hp).elim (fun z=>I.pin p (List.mem_append_left _ z)) (h p),I.hok,I.len⟩
theorem nodup_ix{N:List Str}(hN:N.Nodup){i j:Nat}{x:Str}(a:N[i]? =some x)(b:N[j]? =some x):i=j:=by
 obtain⟨h1,e1⟩:=List.getElem?_eq_some_iff.mp a
 obtain⟨h2,e2⟩:=List.getElem?_eq_some_iff.mp b
 exact(List.getElem_inj hN).mp (e1.trans e2.symm)
theorem store_ok2{M:Model}{A:Around}{E:Value->Shared->Prop}{i:Nat}{x:Str}{v:V}{u:Value}{Q:Unit->Shared->Prop}(I:Inv X pins σ H s)(hN:X.N.Nodup)(hi:X.N[i]? =some x)(hx:Loc X.env.scope x)(r:RelV v u)(h:∀s',Inv X pins (σ.set i (some v)) H s'->(∃a,Heap.SameBut a s.heap s'.heap/\(a=X.env.locals\/X.env.cells.lookup x=some a))->Q () s')(hf:X.fn x=true\/X.env.scope.names.lookup x=some .local:=by first |exact .inl rfl|exact .inr rfl|assumption):wpAny M A (storeName X.env x u) Q E s:=by
 obtain⟨m,hn,hl⟩:=id I.loc
 have hcls:(X.env.scope.kind== .class||(X.env.scope.kind== .module&&X.env.locals !=X.env.globals))=false:=by rw[I.ok.kind];rfl
 have hiσ:i<σ.length:=by rw[I.len];exact(List.getElem?_eq_some_iff.mp hi).1
 have cne:=I.cne
 have tracked:∀{a:Addr} {h':Heap},(∃o,s.heap.get? a=some o/\H a=none)->Heap.SameBut a s.heap h'->HOk X.prog X.w H h':=fun{a h'} ha hs b ob e=>by
  obtain⟨_,_,hfree⟩:=ha
  refine(I.hok b ob e).stay (fun c w' hc q=>(hs.2 c ?_).trans q) (fun _ q=>q) fun _ _ q=>q
  rintro rfl
  rcases hc with rfl|hc
  ·rw[hfree]at e;cases e
  ·rw[hfree]at hc;cases hc
 rcases hx with hk|hk
 ·refine wpAny_storeName_local hk hn (fun h' hn' hs=> ?_) hcls
  obtain⟨oL,_,_,hoL,_⟩:=id hn
  refine h _ ⟨I.ok,I.os,I.bare,⟨fun b o e n hb hx=> ?_,fun b o e n hb hx=> ?_,I.base.free,fun b o e hx=> ?_,I.base.tups,I.base.frzs,I.base.tbls⟩,⟨_,hn',fun j y v' e1 e2 e3=> ?_⟩,fun y c e=> ?_,I.free,I.freeC,fun p hp=> ?_,tracked ⟨oL,hoL,I.free⟩ hs,by simpa using I.len⟩ ⟨_,hs,.inl rfl⟩
  ·exact(hs.2 b (Nat.ne_of_lt (Nat.lt_of_lt_of_le (Heap.lt_size e) I.ok.above))).trans (I.base.keep b o e n hb hx)
  ·obtain⟨sl,e1⟩:=I.base.slot b o e n hb hx
   exact⟨sl,(hs.2 b (Nat.ne_of_lt (Nat.lt_of_lt_of_le (Heap.lt_size e) I.ok.above))).trans e1⟩
  ·obtain⟨o',e1⟩:=I.base.there b o e hx
   exact⟨o',(hs.2 b (Nat.ne_of_lt (Nat.lt_of_lt_of_le (Heap.lt_size e) I.ok.above))).trans e1⟩
  ·by_cases hj:j=i
   ·subst hj
    rw[hi]at e1;cases e1
    rw[List.getElem?_set_self hiσ]at e2
    cases e2
    exact⟨u,r,.inl ⟨hk,by simp⟩⟩
   ·rw[List.getElem?_set_ne (Ne.symm hj)]at e2
    obtain⟨u',r',q⟩:=hl j y v' e1 e2 e3
    refine⟨u',r',?_⟩
    rcases q with⟨k,e⟩|⟨k,c,e,z⟩
    ·refine .inl ⟨k,?_⟩
     have:y≠x:=fun e=>hj (nodup_ix hN e1 (e▸hi))
     simp[this,e]
    ·exact .inr ⟨k,c,e,z.sameBut hs (cne y c e)⟩
  ·obtain⟨w',z⟩:=I.cell y c e
   exact⟨w',z.sameBut hs (cne y c e)⟩
  ·obtain⟨e,n,ne,nf,d⟩:=I.pin p hp
   exact⟨(hs.2 p.1 ne).trans e,n,ne,nf,d⟩
 ·have hfn:X.fn x=true:=by
   rcases hf with z|z
   ·exact z
   ·rw[z]at hk;cases hk
  obtain⟨c,hc⟩:=I.ok.has x (.inl hk)
  obtain⟨w',z⟩:=I.cell x c hc
  refine wpAny_storeName_cell I.ok.kind hk hc z (fun h' hc' hs=> ?_)
  obtain⟨oc,hoc,hocd⟩:=id z
  refine h {s with heap:=h'} ⟨I.ok,I.os,I.bare,⟨fun b o e n hb hx=> ?_,fun b o e n hb hx=> ?_,I.base.free,fun b o e hx=> ?_,I.base.tups,I.base.frzs,I.base.tbls⟩,⟨m,hn.sameBut hs (Ne.symm (cne x c hc)),fun j y v' e1 e2 e3=> ?_⟩,fun y c' e=> ?_,I.free,I.freeC,fun p hp=> ?_,tracked ⟨oc,hoc,I.freeC x c hc⟩ hs,by simpa using I.len⟩ ⟨c,hs,.inr hc⟩
  ·exact(hs.2 b (Nat.ne_of_lt (Nat.lt_of_lt_of_le (Heap.lt_size e) (I.ok.cab x c hfn hc)))).trans (I.base.keep b o e n hb hx)
  ·obtain⟨sl,e1⟩:=I.base.slot b o e n hb hx
   exact⟨sl,(hs.2 b (Nat.ne_of_lt (Nat.lt_of_lt_of_le (Heap.lt_size e) (I.ok.cab x c hfn hc)))).trans e1⟩
  ·obtain⟨o',e1⟩:=I.base.there b o e hx
   exact⟨o',(hs.2 b (Nat.ne_of_lt (Nat.lt_of_lt_of_le (Heap.lt_size e) (I.ok.cab x c hfn hc)))).trans e1⟩
  ·by_cases hj:j=i
   ·subst hj
    rw[hi]at e1;cases e1
    rw[List.getElem?_set_self hiσ]at e2
    cases e2
    exact⟨u,r,.inr ⟨.inl hk,c,hc,hc'⟩⟩
   ·rw[List.getElem?_set_ne (Ne.symm hj)]at e2
    obtain⟨u',r',q⟩:=hl j y v' e1 e2 e3
    refine⟨u',r',?_⟩
    rcases q with q|⟨k,c',e,z'⟩
    ·exact .inl q
    ·refine .inr ⟨k,c',e,z'.sameBut hs ?_⟩
     rintro rfl
     exact hj (nodup_ix hN e1 (I.ok.inj _ _ _ e hc▸hi))
  ·by_cases hcc:c'=c
   ·subst hcc;exact⟨_,hc'⟩
   ·obtain⟨w2,z2⟩:=I.cell y c' e
    exact⟨w2,z2.sameBut hs hcc⟩
  ·obtain⟨e,n,ne,nf,d⟩:=I.pin p hp
   refine⟨(hs.2 p.1 ?_).trans e,n,ne,nf,d⟩
   intro q
   rw[q,hoc]at e
   have q':oc=p.2:=Option.some.inj e
   exact d w' (by rw[<-q'];exact hocd)
theorem store_ok{M:Model}{A:Around}{E:Value->Shared->Prop}{i:Nat}{x:Str}{v:V}{u:Value}{Q:Unit->Shared->Prop}(I:Inv X pins σ H s)(hN:X.N.Nodup)(hi:X.N[i]? =some x)(hx:Loc X.env.scope x)(r:RelV v u)(h:∀s',Inv X pins (σ.set i (some v)) H s'->Q () s')(hf:X.fn x=true\/X.env.scope.names.lookup x=some .local:=by first |exact .inl rfl|exact .inr rfl|assumption):wpAny M A (storeName X.env x u) Q E s:=
 store_ok2 I hN hi hx r (fun s' I' _=>h s' I') hf
theorem Inv.call'{s':Shared}{ch:List Addr}(I:Inv X pins σ H s)(ho:s'.os=s.os)(u:Un (frs X.stack) ch H H' s.heap s'.heap)(hok:HOk X.prog X.w H' s'.heap)(hg:AllBare s'.gens)(hch:∀b∈ch,(b∈X.ex\/X.s₀.heap.objs.size<=b)/\b≠X.env.locals/\(∀x c,X.env.cells.lookup x=some c->c≠b)/\∀p∈X.pn++pins,p.1≠b):Inv X pins σ H' s':=by
 obtain⟨h',g',d',t',o'⟩:=s'
 have e:o'=s.os:=ho
 subst e
 exact I.call (g':=g') (t':=t') (d':=d') u hok hg hch
end
noncomputable abbrev XK:=Value->Option Addr->Hp->Prop
noncomputable abbrev St:=List (Option V)
noncomputable abbrev VK:=V->Hp->Prop
noncomputable abbrev TE:=St->Hp->VK->Prop
noncomputable abbrev TT:=St->Hp->(Bool->Hp->Prop)->Prop
noncomputable abbrev TA:=St->Hp->(List V->Hp->Prop)->Prop
structure Ends where
 nx:St->Hp->Prop
 rt:VK
 bk:St->Hp->Prop:=fun _ _=>False
 ct:St->Hp->Prop:=fun _ _=>False
noncomputable abbrev TS:=Ends->St->Hp->Prop
noncomputable def EP(X:Cx)(pins:List (Addr×Obj))(σ:St)(Q:VK)(u:Value)(s':Shared):Prop:=∃v H',Inv X pins σ H' s'/\RelV v u/\Q v H'
noncomputable def TP(X:Cx)(pins:List (Addr×Obj))(σ:St)(Q:Bool->Hp->Prop)(b:Bool)(s':Shared):Prop:=∃H',Inv X pins σ H' s'/\Q b H'
noncomputable def AP(X:Cx)(pins:List (Addr×Obj))(σ:St)(Q:List V->Hp->Prop)(us:List Value)(s':Shared):Prop:=∃vs H',Inv X pins σ H' s'/\Vals vs us/\Q vs H'
noncomputable def SP(X:Cx)(pins:List (Addr×Obj))(D:Ends)(f:Flow)(s':Shared):Prop:=
 match f with
 | .next=>∃σ' H',Inv X pins σ' H' s'/\D.nx σ' H'
 | .brk=>∃σ' H',Inv X pins σ' H' s'/\D.bk σ' H'
 | .cont=>∃σ' H',Inv X pins σ' H' s'/\D.ct σ' H'
 | .ret u=>∃v σ' H',Inv X pins σ' H' s'/\RelV v u/\D.rt v H'
noncomputable def PE(X:Cx)(e:Expr)(t:TE):Prop:=
 ∀(pins:List (Addr×Obj)) (s:Shared) (σ:St) (H:Hp) (Q:VK),Inv X pins σ H s->t σ H Q->wpAny (model X.prog X.w) X.A (eval e X.env) (EP X pins σ Q) X.xe s
noncomputable def PT(X:Cx)(e:Expr)(t:TT):Prop:=
 ∀(pins:List (Addr×Obj)) (s:Shared) (σ:St) (H:Hp) (Q:Bool->Hp->Prop),Inv X pins σ H s->t σ H Q->wpAny (model X.prog X.w) X.A (isTrue e X.env (eval e X.env)) (TP X pins σ Q) X.xe s
noncomputable def PW(X:Cx)(e:Expr)(t:TT):Prop:=
 ∀(whole:Sem Value) (pins:List (Addr×Obj)) (s:Shared) (σ:St) (H:Hp) (Q:Bool->Hp->Prop),Inv X pins σ H s->t σ H Q->wpAny (model X.prog X.w) X.A (isTrue e X.env whole) (TP X pins σ Q) X.xe s
theorem PW.pt{X:Cx}{e:Expr}{t:TT}(h:PW X e t):PT X e t:=h _
noncomputable def PA(X:Cx)(es:List Expr)(t:TA):Prop:=
 ∀(pos:Pos) (pins:List (Addr×Obj)) (s:Shared) (σ:St) (H:Hp) (Q:List V->Hp->Prop),Inv X pins σ H s->t σ H Q->wpAny (model X.prog X.w) X.A (spliced (backTo pos (starEach es X.env))) (AP X pins σ Q) X.xe s
noncomputable def PS(X:Cx)(st:Stmt)(t:TS):Prop:=
 ∀(pins:List (Addr×Obj)) (s:Shared) (σ:St) (H:Hp) (D:Ends),Inv X pins σ H s->t D σ H->wpAny (model X.prog X.w) X.A (exec st X.env) (SP X pins D) X.xe s
noncomputable def PSs(X:Cx)(st:List Stmt)(t:TS):Prop:=
 ∀(pins:List (Addr×Obj)) (s:Shared) (σ:St) (H:Hp) (D:Ends),Inv X pins σ H s->t D σ H->wpAny (model X.prog X.w) X.A (execs st X.env) (SP X pins D) X.xe s
theorem thn{α:Type}{t:Sem α}{Q Q':α->Shared->Prop}{M:Model}{A:Around}{E:Value->Shared->Prop}{s:Shared}(h:wpAny M A t Q E s)(hQ:∀a s,Q a s->Q' a s):wpAny M A t Q' E s:=wpAny_mono h hQ fun _ _ x=>x
end L2
namespace L2
open PySem PySem.Spec PyProof.Rows
section
variable{X:Cx}
noncomputable def tVar(i:Nat):TE:=fun σ H Q=>∃v,σ[i]? =some (some v)/\Q v H
noncomputable def tC(v:V):TE:=fun _ H Q=>Q v H
theorem pe_var{i:Nat}{x:Str}{pos:Pos}(hN:X.N[i]? =some x)(hv:Vis X.env.scope x)(hd:(x==("__debug__":Str))=false:=by decide)(hcd:(x==("__classdict__":Str))=false:=by decide):PE X (.Name x pos) (tVar i):=by
 intro pins s σ H Q I h
 obtain⟨v,e,h⟩:=h
 obtain⟨m,hn,hl⟩:=I.loc
 obtain⟨u,r,l⟩:=hl i x v hN e hv
 have fin:EP X pins σ Q u s:=⟨v,H,I,r,h⟩
 rcases l with⟨hk,hm⟩|⟨hk,c,hc,hcell⟩
 ·exact wpAny_Name (wpAny_loadName_local I.ok.kind hk hn hm fin) hd
 ·rcases hk with hk|hk
  ·exact wpAny_Name (wpAny_loadName_cell I.ok.kind hk hc hcell fin) hd
  ·exact wpAny_Name (wpAny_loadName_free I.ok.kind hk hc hcell fin hcd) hd
theorem zag{i j pos}:PE X (.Constant (.int i) j pos) (tC (.int i)):=fun _ _ _ H _ I h=>wpAny_Constant_int ⟨.int i,H,I.tok _,⟨_,rfl⟩,h⟩
theorem pe_bl{b j pos}:PE X (.Constant (.bool b) j pos) (tC (.bl b)):=fun _ _ _ H _ I h=>Constant_bool ⟨.bl b,H,I,rfl,h⟩
noncomputable def Gl(X:Cx)(x:Str):Prop:=X.env.kindOf x=some .globalImplicit
theorem ld_glob{E:Value->Shared->Prop}{pins:List (Addr×Obj)}{s:Shared}{σ:St}{H:Hp}{x:Str}{u:Value}{pos:Pos}{Q:Value->Shared->Prop}(I:Inv X pins σ H s)(hg:Gl X x)(hm:X.mg x=some u)(h:Q u s)(hd:(x==("__debug__":Str))=false:=by decide):wpAny (model X.prog X.w) X.A (eval (.Name x pos) X.env) Q E s:=
 Calls.Name_function_global I.ok.kind hg (Calls.loadGlobal_global (by rw[I.ok.glob];exact I.mod.glob.keeps I.bk) hm h) hd
theorem ld_blt{E:Value->Shared->Prop}{pins:List (Addr×Obj)}{s:Shared}{σ:St}{H:Hp}{x:Str}{u:Value}{pos:Pos}{Q:Value->Shared->Prop}(I:Inv X pins σ H s)(hg:Gl X x)(hm:X.mg x=none)(hv:bootBuiltins x=some u)(h:Q u s)(hn:x≠"__name__":=by decide)(hd:(x==("__debug__":Str))=false:=by decide):wpAny (model X.prog X.w) X.A (eval (.Name x pos) X.env) Q E s:=by
 obtain⟨mb,h1,h2⟩:=I.mod.blt
 exact Calls.Name_function_global I.ok.kind hg (Calls.loadGlobal_builtin (by rw[I.ok.glob];exact I.mod.glob.keeps I.bk) hm (by rw[I.ok.blt];exact h1.keeps I.bk) ((h2 x hn).trans hv) h) hd
theorem pe_glob{x:Str}{v:V}{u:Value}{pos:Pos}(hg:Gl X x)(hm:X.mg x=some u)(r:RelV v u)(hd:(x==("__debug__":Str))=false:=by decide):PE X (.Name x pos) (tC v):=
 fun _ _ _ H _ I h=>ld_glob I hg hm ⟨v,H,I,r,h⟩ hd
theorem pe_bltn{x:Str}{v:V}{u:Value}{pos:Pos}(hg:Gl X x)(hm:X.mg x=none)(hv:bootBuiltins x=some u)(r:RelV v u)(hn:x≠"__name__":=by decide)(hd:(x==("__debug__":Str))=false:=by decide):PE X (.Name x pos) (tC v):=
 fun _ _ _ H _ I h=>ld_blt I hg hm hv ⟨v,H,I,r,h⟩ hn hd
variable{a b:Expr}{ta tb:TE}{pos:Pos}
noncomputable def tB(t:TE):TT:=fun σ H Q=>t σ H fun x H1=>∃c,x= .bl c/\Q c H1
theorem zdg{e:Expr}{t:TE}(h:PE X e t)(he:∀whole,isTrue e X.env whole=(do let v<-whole;standAt e.pos;holding [v] (truthy v)):=by intro _;rfl):PT X e (tB t):=by
 intro pins s σ H Q I hw
 refine isTrue_plain (thn (h pins s σ H _ I hw) fun v s1 ⟨x,H1,I1,r1,q1⟩=> ?_) (he _)
 obtain⟨d,rfl,q⟩:=q1
 cases r1
 exact wpAny_truthy_bool ⟨H1,I1,q⟩
variable{tA tB':TT}{rest:List Expr}
noncomputable def tAnd(t u:TT):TT:=fun σ H Q=>t σ H fun c H1=>if c=true then u σ H1 Q else Q false H1
noncomputable def tOr(t u:TT):TT:=fun σ H Q=>t σ H fun c H1=>if c=true then Q true H1 else u σ H1 Q
noncomputable def tNot(t:TT):TT:=fun σ H Q=>t σ H fun c H1=>Q (!c) H1
theorem pw_and1(ha:PT X a tA):PW X (.BoolOp .And [a] pos) tA:=by
 intro wh pins s σ H Q I h
 refine isTrue_and (thn (ha pins s σ H Q I h) fun c s1 e=> ?_)
 cases c with
 |true=>exact isTrue_and_nil e
 |false=>exact e
theorem pw_or1(ha:PT X a tA):PW X (.BoolOp .Or [a] pos) tA:=by
 intro wh pins s σ H Q I h
 refine isTrue_or (thn (ha pins s σ H Q I h) fun c s1 e=> ?_)
 cases c with
 |false=>exact isTrue_or_nil e
 |true=>exact e
theorem pw_and(ha:PT X a tA)(hb:PW X (.BoolOp .And (b::rest) pos) tB'):PW X (.BoolOp .And (a::b::rest) pos) (tAnd tA tB'):=by
 intro wh pins s σ H Q I h
 refine isTrue_and (thn (ha pins s σ H _ I h) fun c s1 ⟨H1,I1,q1⟩=> ?_)
 cases c with
 |true=>exact hb wh pins s1 σ H1 Q I1 q1
 |false=>exact⟨H1,I1,q1⟩
theorem pw_or(ha:PT X a tA)(hb:PW X (.BoolOp .Or (b::rest) pos) tB'):PW X (.BoolOp .Or (a::b::rest) pos) (tOr tA tB'):=by
 intro wh pins s σ H Q I h
 refine isTrue_or (thn (ha pins s σ H _ I h) fun c s1 ⟨H1,I1,q1⟩=> ?_)
 cases c with
 |true=>exact⟨H1,I1,q1⟩
 |false=>exact hb wh pins s1 σ H1 Q I1 q1
theorem zdk(ha:PT X a tA):PT X (.UnaryOp .Not a pos) (tNot tA):=by
 intro pins s σ H Q I h
 exact isTrue_not (ha pins s σ H (fun c H1=>Q (!c) H1) I h)
noncomputable def tAndV(ta tb:TE):TE:=fun σ H Q=>ta σ H fun x H1=>∃c,x= .bl c/\if c=true then tb σ H1 Q else Q (.bl false) H1
noncomputable def tNotV(ta:TE):TE:=fun σ H Q=>ta σ H fun x H1=>∃c,x= .bl c/\Q (.bl (!c)) H1
theorem pe_one{op}{t:TE}(h:PE X a t):PE X (.BoolOp op [a] pos) t:=fun pins s σ H Q I hw=>BoolOp_one (h pins s σ H Q I hw)
theorem zdl(ha:PE X a ta)(hb:PE X (.BoolOp .And (b::rest) pos) tb):PE X (.BoolOp .And (a::b::rest) pos) (tAndV ta tb):=by
 intro pins s σ H Q I h
 refine BoolOp_and (thn (ha pins s σ H _ I h) fun v s1 ⟨x,H1,I1,r1,q1⟩=> ?_)
 obtain⟨c,rfl,q1⟩:=q1
 cases r1
 refine wpAny_truthy_bool ?_
 cases c with
 |true=>exact hb pins s1 σ H1 Q I1 q1
 |false=>exact⟨.bl false,H1,I1,rfl,q1⟩
theorem pe_not(ha:PE X a ta):PE X (.UnaryOp .Not a pos) (tNotV ta):=by
 intro pins s σ H Q I h
 refine UnaryOp_ (thn (ha pins s σ H _ I h) fun v s1 ⟨x,H1,I1,r1,q1⟩=> ?_)
 obtain⟨c,rfl,q1⟩:=q1
 cases r1
 exact not_of (wpAny_truthy_bool ⟨.bl (!c),H1,I1,rfl,q1⟩)
end
end L2
namespace L2
open PySem PySem.Spec PyProof.Rows
noncomputable def SqL(K:W.Frag)(H:Hp)(a:Addr)(xs:List V):Prop:=
 Rd H a (.lst xs)\/
  ∃(o:Obj) (its:Array Value) (n:Nat),K.lookup a=some o/\o.cls= .type "list"/\o.dict=none/\o.data= .seq its n/\its.size<=sizeLine/\Vals xs its.toList
noncomputable def SqT(K:W.Frag)(H:Hp)(a:Addr)(xs:List V):Prop:=
 Rd H a (.tup xs)\/
  ∃(o:Obj) (its:Array Value) (n:Nat),K.lookup a=some o/\o.cls= .type "tuple"/\o.data= .seq its n/\its.size<=sizeLine/\Vals xs its.toList
noncomputable def absV:Value->Option V
 | .none=>some .non
 | .bool b=>some (.bl b)
 | .int i _=>some (.int i)
 | .str x _=>some (.str x)
 | .bytes b _=>some (.byt b)
 | .float b _=>some (.flt b)
 | .ref a=>some (.ref a)
 | .type n=>some (.ty n)
 |_=>none
theorem RelV.abs{x:V}{u:Value}(r:RelV x u):absV u=some x:=by
 cases x with
 |non=>cases r;rfl
 |bl _=>cases r;rfl
 |int _=>obtain⟨t,rfl⟩:=r;rfl
 |str _=>obtain⟨t,rfl⟩:=r;rfl
 |byt _=>obtain⟨t,rfl⟩:=r;rfl
 |flt _=>obtain⟨t,rfl⟩:=r;rfl
 |ref _=>cases r;rfl
 |ty _=>cases r;rfl
theorem RelV.inj{x y:V}{u:Value}(r:RelV x u)(q:RelV y u):x=y:=Option.some.inj (r.abs.symm.trans q.abs)
theorem Vals.inj{xs ys:List V}{us:List Value}(h:Vals xs us)(h':Vals ys us):xs=ys:=by
 induction h generalizing ys with
 |nil=>cases h';rfl
 |cons r _ ih=>cases h' with |cons r' t'=>rw[r.inj r',ih t']
section
variable{X:Cx}{pins:List (Addr×Obj)}{σ:St}{H:Hp}{s:Shared}{a:Addr}{xs ys:List V}
theorem SqL.of{K:W.Frag}(h:H a=some (.lst xs)):SqL K H a xs:= .inl (.inl h)
theorem SqT.of{K:W.Frag}(h:H a=some (.tup xs)):SqT K H a xs:= .inl (.inl h)
theorem Inv.list(I:Inv X pins σ H s)(h:SqL X.K H a xs):∃its:List Value,Vals xs its/\PlainL s.heap a its.toArray/\xs.length<=sizeLine:=by
 rcases h with h|⟨o,its,n,hk,hc,hd,hs,hz,r⟩
 ·obtain⟨z,its,n,r,e⟩:=h.ok I.hok
  exact⟨its,r,⟨_,n,e,rfl,rfl,rfl⟩,z⟩
 ·refine⟨its.toList,r,⟨o,n,I.kIn a o hk,hc,hd,by simpa using hs⟩,?_⟩
  have e:=r.length
  simp only[Array.length_toList]at e
  omega
theorem Inv.tuple(I:Inv X pins σ H s)(h:SqT X.K H a xs):∃its:List Value,Vals xs its/\IsTup s.heap a its.toArray/\xs.length<=sizeLine:=by
 rcases h with h|⟨o,its,n,hk,hc,hs,hz,r⟩
 ·obtain⟨z,its,r,p⟩:=h.ok I.hok
  exact⟨its,r,p,z⟩
 ·refine⟨its.toList,r,⟨o,I.kIn a o hk,hc,n,by simpa using hs⟩,?_⟩
  have e:=r.length
  simp only[Array.length_toList]at e
  omega
theorem Inv.list_inj(I:Inv X pins σ H s)(h:SqL X.K H a xs)(h':SqL X.K H a ys):xs=ys:=by
 obtain⟨its,r,⟨o,n,e,_,_,d⟩,_⟩:=I.list h
 obtain⟨its',r',⟨o',n',e',_,_,d'⟩,_⟩:=I.list h'
 rw[e]at e';cases e'
 rw[d]at d'
 injection d' with d1 _
 have:its=its':=by simpa using congrArg Array.toList d1
 subst this
 exact r.inj r'
theorem Inv.tuple_inj(I:Inv X pins σ H s)(h:SqT X.K H a xs)(h':SqT X.K H a ys):xs=ys:=by
 obtain⟨its,r,⟨o,e,_,n,d⟩,_⟩:=I.tuple h
 obtain⟨its',r',⟨o',e',_,n',d'⟩,_⟩:=I.tuple h'
 rw[e]at e';cases e'
 rw[d]at d'
 injection d' with d1 _
 have:its=its':=by simpa using congrArg Array.toList d1
 subst this
 exact r.inj r'
end
noncomputable abbrev Cx.wish(X:Cx)(E:Value->Shared->Prop):Cx:={X with xe:=E}
noncomputable abbrev Cx.nox(X:Cx):Cx:=X.wish fun _ _=>False
theorem Cx.Ok.wish{X:Cx}(ok:X.Ok)(E:Value->Shared->Prop):(X.wish E).Ok:=
 ⟨ok.mod,ok.kind,ok.glob,ok.blt,ok.above,ok.inj,ok.has,ok.cab,ok.hd,ok.frames,ok.stk,ok.exf,ok.bs,ok.bsz,ok.noex,ok.exfs,ok.funs,ok.frf⟩
theorem Cx.Ok.unwish{X:Cx}{E:Value->Shared->Prop}(ok:(X.wish E).Ok):X.Ok:=
 ⟨ok.mod,ok.kind,ok.glob,ok.blt,ok.above,ok.inj,ok.has,ok.cab,ok.hd,ok.frames,ok.stk,ok.exf,ok.bs,ok.bsz,ok.noex,ok.exfs,ok.funs,ok.frf⟩
section
variable{X:Cx}{pins:List (Addr×Obj)}{σ:St}{H:Hp}{s:Shared}{E:Value->Shared->Prop}
theorem Inv.wish(I:Inv X pins σ H s)(E:Value->Shared->Prop):Inv (X.wish E) pins σ H s:=⟨I.ok.wish E,I.os,I.bare,I.base,I.loc,I.cell,I.free,I.freeC,I.pin,I.hok,I.len⟩
theorem Inv.unwish(I:Inv (X.wish E) pins σ H s):Inv X pins σ H s:=⟨I.ok.unwish,I.os,I.bare,I.base,I.loc,I.cell,I.free,I.freeC,I.pin,I.hok,I.len⟩
theorem SP.unwish{D:Ends}{f:Flow}{s':Shared}(h:SP (X.wish E) pins D f s'):SP X pins D f s':=by
 cases f with
 |next=>obtain⟨σ',H',I,q⟩:=h;exact⟨σ',H',I.unwish,q⟩
 |brk=>obtain⟨σ',H',I,q⟩:=h;exact⟨σ',H',I.unwish,q⟩
 |cont=>obtain⟨σ',H',I,q⟩:=h;exact⟨σ',H',I.unwish,q⟩
 |ret u=>obtain⟨v,σ',H',I,r,q⟩:=h;exact⟨v,σ',H',I.unwish,r,q⟩
theorem PE.nox{e:Expr}{t:TE}(h:PE X.nox e t):PE X e t:=fun pins s σ H Q I hw=>
 wpAny_mono (h pins s σ H Q (I.wish _) hw) (fun _ _ ⟨v,H',I',r,q⟩=>⟨v,H',I'.unwish,r,q⟩) fun _ _ z=>False.elim z
theorem PT.nox{e:Expr}{t:TT}(h:PT X.nox e t):PT X e t:=fun pins s σ H Q I hw=>
 wpAny_mono (h pins s σ H Q (I.wish _) hw) (fun _ _ ⟨H',I',q⟩=>⟨H',I'.unwish,q⟩) fun _ _ z=>False.elim z
theorem PSs.nox{st:List Stmt}{t:TS}(h:PSs X.nox st t):PSs X st t:=fun pins s σ H D I hw=>
 wpAny_mono (h pins s σ H D (I.wish _) hw) (fun _ _ q=>q.unwish) fun _ _ z=>False.elim z
end
section
variable{X:Cx}{st:Stmt}{rest:List Stmt}{t u:TS}{e:Expr}{te:TE}{pos:Pos}
noncomputable def tNext:TS:=fun D σ H=>D.nx σ H
noncomputable def tSeq(t u:TS):TS:=fun D σ H=>t {D with nx:=u D} σ H
theorem zbg:PSs X [] tNext:=fun _ _ σ H _ I h=>wpAny_execs_nil ⟨σ,H,I,h⟩
theorem zae(h1:PS X st t)(h2:PSs X rest u):PSs X (st::rest) (tSeq t u):=by
 intro pins s σ H D I h
 refine wpAny_execs_cons (thn (h1 pins s σ H {D with nx:=u D} I h) fun f s1 q=> ?_)
 cases f with
 |next=>
  obtain⟨σ',H',I',q⟩:=q
  exact h2 pins s1 σ' H' D I' q
 |ret v=>exact q
 |brk=>exact q
 |cont=>exact q
theorem zah(h1:PS X st t):PSs X [st] t:=by
 intro pins s σ H D I h
 refine wpAny_execs_cons (thn (h1 pins s σ H D I h) fun f s1 q=> ?_)
 cases f with
 |next=>exact wpAny_execs_nil q
 |ret v=>exact q
 |brk=>exact q
 |cont=>exact q
theorem Inv.quiet{pins:List (Addr×Obj)}{σ:St}{H:Hp}{s:Shared}(I:Inv X pins σ H s):interactive X.env=false:=by simp[interactive,I.ok.kind]
noncomputable def tDrop(te:TE):TS:=fun D σ H=>te σ H fun _ H1=>D.nx σ H1
theorem zcy(he:PE X e te)(hs:swapsWith e none pos.line X.env=pure false:=by rfl):PS X (.Expr e pos) (tDrop te):=by
 intro pins s σ H D I h
 exact wpAny_Expr_any (thn (he pins s σ H _ I h) fun v s1 ⟨x,H1,I1,r1,q1⟩=>⟨σ,H1,I1,q1⟩) I.quiet hs
noncomputable def tRet(te:TE):TS:=fun D σ H=>te σ H D.rt
theorem zao(he:PE X e te):PS X (.Return (some e) pos) (tRet te):=by
 intro pins s σ H D I h
 exact wpAny_Return_some (thn (he pins s σ H _ I h) fun v s1 ⟨x,H1,I1,r1,q1⟩=>⟨x,σ,H1,I1,r1,q1⟩)
noncomputable def tIfS(c:TT)(t u:TS):TS:=fun D σ H=>c σ H fun b H1=>if b=true then t D σ H1 else u D σ H1
theorem zdd{c:Expr}{a b:List Stmt}{tc:TT}(hc:PT X c tc)(ha:PSs X a t)(hb:PSs X b u):PS X (.If c a b pos) (tIfS tc t u):=by
 intro pins s σ H D I h
 refine wpAny_If (thn (hc pins s σ H _ I h) fun d s1 ⟨H1,I1,q1⟩=> ?_)
 cases d with
 |true=>exact ha pins s1 σ H1 D I1 q1
 |false=>exact hb pins s1 σ H1 D I1 q1
noncomputable def tNever:TS:=fun _ _ _=>False
theorem pss_never{sts:List Stmt}:PSs X sts tNever:=fun _ _ _ _ _ _ h=>h.elim
end
noncomputable abbrev TG:=V->St->Hp->(St->Hp->Prop)->Prop
noncomputable abbrev TGs:=List V->St->Hp->(St->Hp->Prop)->Prop
noncomputable def PG(X:Cx)(target:Expr)(t:TG):Prop:=
 ∀(pins:List (Addr×Obj)) (s:Shared) (σ:St) (H:Hp) (v:V) (u:Value) (Q:St->Hp->Prop),Inv X pins σ H s->RelV v u->t v σ H Q->
  wpAny (model X.prog X.w) X.A (assign target X.env u) (fun _ s'=>∃σ' H',Inv X pins σ' H' s'/\Q σ' H') X.xe s
noncomputable def PGs(X:Cx)(ts:List Expr)(t:TGs):Prop:=
 ∀(pins:List (Addr×Obj)) (s:Shared) (σ:St) (H:Hp) (vs:List V) (us:List Value) (Q:St->Hp->Prop),Inv X pins σ H s->Vals vs us->t vs σ H Q->
  wpAny (model X.prog X.w) X.A (assignInOrder ((assignEach ts X.env).map (·.2)) us) (fun _ s'=>∃σ' H',Inv X pins σ' H' s'/\Q σ' H') X.xe s
noncomputable abbrev TSet:=V->V->V->Hp->(Hp->Prop)->Prop
noncomputable def PSet(X:Cx)(t:TSet):Prop:=
 ∀(pins:List (Addr×Obj)) (s:Shared) (σ:St) (H:Hp) (o i v:V) (ov iv u:Value) (Q:Hp->Prop),Inv X pins σ H s->RelV o ov->RelV i iv->RelV v u->t o i v H Q->
  wpAny (model X.prog X.w) X.A (setItem ov iv u) (fun _ s'=>∃H',Inv X pins σ H' s'/\Q H') X.xe s
noncomputable abbrev TIp:=V->V->Hp->VK->Prop
noncomputable def PIp(X:Cx)(op:Operator)(t:TIp):Prop:=
 ∀(pins:List (Addr×Obj)) (s:Shared) (σ:St) (H:Hp) (x y:V) (v u:Value) (Q:VK),Inv X pins σ H s->RelV x v->RelV y u->t x y H Q->
  wpAny (model X.prog X.w) X.A (inplaceOp op v u) (EP X pins σ Q) X.xe s
section
variable{X:Cx}{pos:Pos}
noncomputable def gName(i:Nat):TG:=fun v σ H Q=>Q (σ.set i (some v)) H
theorem zal{i:Nat}{x:Str}(hN:X.N.Nodup)(hi:X.N[i]? =some x)(hx:Loc X.env.scope x)(hf:X.fn x=true\/X.env.scope.names.lookup x=some .local:=by first |exact .inl rfl|exact .inr rfl|assumption):PG X (.Name x pos) (gName i):=by
 intro pins s σ H v u Q I r h
 exact wpAny_assign_Name (store_ok I hN hi hx r (fun s' I'=>⟨_,H,I',h⟩) hf)
noncomputable def gNil:TGs:=fun vs σ H Q=>vs=[]/\Q σ H
noncomputable def gCons(t:TG)(u:TGs):TGs:=fun vs σ H Q=>∃v r,vs=v::r/\t v σ H fun σ' H'=>u r σ' H' Q
theorem pgs_nil:PGs X [] gNil:=by
 intro pins s σ H vs us Q I r h
 obtain⟨e,h⟩:=h
 subst e
 cases r
 exact assignInOrder_nil ⟨σ,H,I,h⟩
theorem pgs_cons{e:Expr}{es:List Expr}{t:TG}{u:TGs}(h1:PG X e t)(h2:PGs X es u)(hs:(assignEach (e::es) X.env).map (·.2)=assign e X.env::(assignEach es X.env).map (·.2):=by rfl):PGs X (e::es) (gCons t u):=by
 intro pins s σ H vs us Q I r h
 obtain⟨v,vr,e1,h⟩:=h
 subst e1
 cases r with
 |cons r rr=>
  rw[hs]
  refine assignInOrder_cons (thn (h1 pins s σ H _ _ _ I r h) fun _ s1 ⟨σ1,H1,I1,q1⟩=> ?_)
  exact h2 pins s1 σ1 H1 _ _ Q I1 rr q1
noncomputable def gTup(K:W.Frag)(n:Nat)(t:TGs):TG:=fun v σ H Q=>∃a xs,v= .ref a/\SqT K H a xs/\xs.length=n/\t xs σ H Q
theorem pg_tup{es:List Expr}{k:Nat}{t:TGs}{n:Nat}(hc:X.calm=true)(h:PGs X es t)(hn:(assignEach es X.env).length=n:=by rfl)(hst:(assignEach es X.env).findIdx? (·.1)=none:=by rfl):PG X (.Tuple es k pos) (gTup X.K n t):=by
 intro pins s σ H v u Q I r hw
 obtain⟨a,xs,e1,hq,hl,hw⟩:=hw
 subst e1
 cases r
 obtain⟨its,rv,ht,hz⟩:=I.tuple hq
 refine assign_Tuple_tuple (I.ok.hd hc) ht (by simp[hn,<-hl,rv.length]) hst fun h' hx=> ?_
 have I1:Inv X pins σ H {s with heap:=h'}:=I.kept (t':=s.toks) fun b o e=>hx b o (Nat.ne_of_lt (Heap.lt_size e)) e
 exact h pins _ σ H xs _ Q I1 (by simpa using rv) hw
noncomputable def gSub(to ti:TE)(t:TSet):TG:=fun v σ H Q=>to σ H fun o H1=>ti σ H1 fun i H2=>t o i v H2 fun H3=>Q σ H3
theorem pg_sub{o i:Expr}{to ti:TE}{t:TSet}(ho:PE X o to)(hi:PE X i ti)(hs:PSet X t)(ha:∀v,assign (.Subscript o i pos) X.env v=(do
   let ov<-holding [v] (eval o X.env)
   let iv<-holding [v,ov] (eval i X.env)
   standAt pos
   holding [v,ov,iv] (setItem ov iv v)
   release [v,ov,iv] []):=by intro _;rfl):PG X (.Subscript o i pos) (gSub to ti t):=by
 intro pins s σ H v u Q I r h
 rw[ha]
 refine wpAny_bind (wpAny_holding (thn (ho pins s σ H _ I h) fun ov s1 ⟨x,H1,I1,r1,q1⟩=> ?_))
 refine wpAny_bind (wpAny_holding (thn (hi pins s1 σ H1 _ I1 q1) fun iv s2 ⟨y,H2,I2,r2,q2⟩=> ?_))
 refine wpAny_bind (wpAny_standAt (wpAny_bind (wpAny_holding (thn (hs pins s2 σ H2 x y v ov iv u _ I2 r1 r2 r q2) fun _ s3 ⟨H3,I3,q3⟩=> ?_))))
 exact wpAny_release ⟨σ,H3,I3,q3⟩
noncomputable def tAsg(te:TE)(g:TG):TS:=fun D σ H=>te σ H fun x H1=>g x σ H1 D.nx
theorem ps_asg{tg e:Expr}{te:TE}{g:TG}(he:PE X e te)(hg:PG X tg g)(hs:swapsWithSole [tg] e pos.line X.env=pure false:=by rfl)(hw:swappedStores [tg] e X.env=pure none:=by rfl)(h1:(assignEach [tg] X.env).map (·.2)=[assign tg X.env]:=by rfl):PS X (.Assign [tg] e pos) (tAsg te g):=by
 intro pins s σ H D I h
 refine wpAny_Assign_stores (thn (he pins s σ H _ I h) fun v s1 ⟨x,H1,I1,r1,q1⟩=> ?_) hs hw
 rw[h1]
 exact thn (hg pins s1 σ H1 x v _ I1 r1 q1) fun _ s2 q=>q
theorem zan{i:Nat}{x:Str}{e:Expr}{te:TE}{pos':Pos}(hN:X.N.Nodup)(hi:X.N[i]? =some x)(hx:Loc X.env.scope x)(he:PE X e te)(hs:swapsWith e (some (.Name x pos')) pos.line X.env=pure false:=by rfl)(hf:X.fn x=true\/X.env.scope.names.lookup x=some .local:=by first |exact .inl rfl|exact .inr rfl|assumption):
  PS X (.Assign [.Name x pos'] e pos) (tAsg te (gName i)):=by
 intro pins s σ H D I h
 refine wpAny_Assign_Name (thn (he pins s σ H _ I h) fun v s1 ⟨y,H1,I1,r1,q1⟩=> ?_) hs
 exact store_ok I1 hN hi hx r1 (fun s2 I2=>⟨_,H1,I2,q1⟩) hf
noncomputable def tAug(i:Nat)(te:TE)(ti:TIp):TS:=fun D σ H=>∃x,σ[i]? =some (some x)/\te σ H fun y H1=>ti x y H1 fun z H2=>D.nx (σ.set i (some z)) H2
theorem ps_aug{i:Nat}{x:Str}{e:Expr}{te:TE}{op:Operator}{ti:TIp}{pos':Pos}(hN:X.N.Nodup)(hi:X.N[i]? =some x)(hx:Loc X.env.scope x)(he:PE X e te)(ho:PIp X op ti)(hf:X.fn x=true\/X.env.scope.names.lookup x=some .local:=by first |exact .inl rfl|exact .inr rfl|assumption):
  PS X (.AugAssign (.Name x pos') op e pos) (tAug i te ti):=by
 intro pins s σ H D I h
 obtain⟨v,e1,h⟩:=h
 obtain⟨m,hn,hl⟩:=I.loc
 have vis:Vis X.env.scope x:=by rcases hx with k|k;exact .inl k;exact .inr (.inl k)
 obtain⟨u,r,l⟩:=hl i x v hi e1 vis
 refine wpAny_AugAssign_Name ?_
 have go:wpAny (model X.prog X.w) X.A (eval e X.env) (fun w s₂=>wpAny (model X.prog X.w) X.A (inplaceOp op u w) (fun r s₃=>wpAny (model X.prog X.w) X.A (storeName X.env x r) (fun _=>SP X pins D .next) X.xe s₃) X.xe s₂) X.xe s:=by
  refine thn (he pins s σ H _ I h) fun w s1 ⟨y,H1,I1,r1,q1⟩=> ?_
  refine thn (ho pins s1 σ H1 v y u w _ I1 r r1 q1) fun z s2 ⟨zv,H2,I2,r2,q2⟩=> ?_
  exact store_ok I2 hN hi hx r2 (fun s3 I3=>⟨_,H2,I3,q2⟩) hf
 rcases l with⟨hk,hm⟩|⟨hk,c,hc,hcell⟩
 ·exact wpAny_loadName_local I.ok.kind hk hn hm go
 ·rcases hk with hk|hk
  ·exact wpAny_loadName_cell I.ok.kind hk hc hcell go
  ·rcases hx with k|k
   ·have:X.env.scope.names.lookup x=some .free:=hk
    rw[k]at this;cases this
   ·have:X.env.scope.names.lookup x=some .free:=hk
    rw[k]at this;cases this
noncomputable def ipI(f:Int->Int->Int):TIp:=fun x y H Q=>∃i j,x= .int i/\y= .int j/\Q (.int (f i j)) H
theorem ip_add:PIp X .Add (ipI fun i j=>i+j):=by
 intro pins s σ H x y v u Q I r1 r2 h
 obtain⟨i,j,e1,e2,q⟩:=h
 subst e1;subst e2
 obtain⟨t,rfl⟩:=r1
 obtain⟨t',rfl⟩:=r2
 exact iadd_int ⟨.int _,H,I.tok _,⟨_,rfl⟩,q⟩
end
section
variable{X:Cx}{pos:Pos}
noncomputable def tWhile(c:TT)(tb:TS):TS:=fun D σ H=>∃W:Nat->St->Hp->Prop,(∃m,W m σ H)/\∀m σ H,W m σ H->
 c σ H fun b H1=>if b=true then∃N:St->Hp->Prop,(∀σ' H',N σ' H'->∃m',m'<m/\W m' σ' H')/\tb {D with nx:=N,ct:=N,bk:=D.nx} σ H1 else D.nx σ H1
theorem ps_while{c:Expr}{body:List Stmt}{tc:TT}{tb:TS}(hp:PassesOwn (model X.prog X.w) X.A X.env X.xe)(hc:PT X c tc)(hb:PSs X body tb):PS X (.While c body [] pos) (tWhile tc tb):=by
 intro pins s σ H D I h
 obtain⟨W,⟨m0,w0⟩,turn⟩:=h
 refine wpAny_While (codeAny_whileLoop (fun n s'=>∃σ' H',Inv X pins σ' H' s'/\W n σ' H') ?_ m0 ⟨σ,H,I,w0⟩)
 rintro n s1 ⟨σ1,H1,I1,w1⟩
 refine wpAny_passesOwn hp (thn (hc pins s1 σ1 H1 _ I1 (turn n σ1 H1 w1)) fun b s2 ⟨H2,I2,q2⟩=> ?_)
 cases b with
 |true=>
  obtain⟨N,hN,q2⟩:=q2
  rw[if_pos rfl]
  refine wpAny_passesOwn hp (thn (hb pins s2 σ1 H2 _ I2 q2) fun f s3 q3=> ?_)
  cases f with
  |next=>
   obtain⟨σ3,H3,I3,n3⟩:=q3
   obtain⟨m',hm,w3⟩:=hN σ3 H3 n3
   exact⟨m',hm,σ3,H3,I3,w3⟩
  |cont=>
   obtain⟨σ3,H3,I3,n3⟩:=q3
   obtain⟨m',hm,w3⟩:=hN σ3 H3 n3
   exact⟨m',hm,σ3,H3,I3,w3⟩
  |brk=>exact q3
  |ret v=>exact q3
 |false=>
  rw[if_neg Bool.false_ne_true]
  exact wpAny_execs_nil ⟨σ1,H2,I2,q2⟩
end
structure It where
 go:Nat->Hp->Prop
 yld:Nat->Hp->V->Hp->Prop
 stop:Nat->Hp->Prop
noncomputable def FpOk(X:Cx)(pins:List (Addr×Obj))(H:Hp)(b:Addr):Prop:=
 H b=none/\b≠X.env.locals/\b∉X.fs/\(b∈X.ex\/X.s₀.heap.objs.size<=b)/\(∀x c,X.env.cells.lookup x=some c->c≠b)/\∀p∈X.pn++pins,p.1≠b
theorem Inv.fpOk{X:Cx}{pins:List (Addr×Obj)}{σ:St}{H H':Hp}{s:Shared}{b:Addr}(I:Inv X pins σ H s)(hb:s.heap.objs.size<=b)(hn:H' b=none):FpOk X pins H' b:=by
 refine⟨hn,Nat.ne_of_gt (Nat.lt_of_lt_of_le I.lt hb),I.nofs hb,.inr (Nat.le_trans I.sz hb),fun x c e z=> ?_,fun p hp z=> ?_⟩
 ·obtain⟨v,q⟩:=I.cell x c e
  exact absurd (Nat.lt_of_lt_of_le q.lt (by rw[z];exact hb)) (Nat.lt_irrefl _)
 ·exact absurd (Nat.lt_of_lt_of_le (Heap.lt_size (I.pin p hp).1) (by rw[z];exact hb)) (Nat.lt_irrefl _)
structure Turn(P:Program)(w:World)(K:W.Frag)(tg:Expr)(J:It)(fp:List Addr)(it:Addr)(tn:Nat->Heap->Prop):Prop where
 mem:it∈fp
 obj:∀i h,tn i h->∀b∈fp,∃o,h.get? b=some o/\∀v,o.data≠.cell v
 keep:∀i h h',tn i h->(∀b∈fp,∀o,h.get? b=some o->h'.get? b=some o)->tn i h'
 item:∀(X:Cx),X.prog=P->X.w=w->X.K=K->X.calm=true->∀(i:Nat) (pins:List (Addr×Obj)) (s:Shared) (σ:St) (H:Hp) (E:Value->Shared->Prop),Inv X pins σ H s->(∀b∈fp,FpOk X pins H b)->tn i s.heap->J.go i H->
  wpAny (model P w) X.A (pyNext (.ref it)) (fun r s1=>∃u,r=some u/\
   wpAny (model P w) X.A (letOwnedTupleGo tg (.ref it) u) (fun _ s2=>∃x H',Inv X pins σ H' s2/\RelV x u/\J.yld i H x H'/\tn (i+1) s2.heap/\∀b∈fp,H' b=none) E s1) E s
 done:∀(X:Cx),X.prog=P->X.w=w->X.K=K->X.calm=true->∀(i:Nat) (pins:List (Addr×Obj)) (s:Shared) (σ:St) (H:Hp) (E:Value->Shared->Prop),Inv X pins σ H s->(∀b∈fp,FpOk X pins H b)->tn i s.heap->J.stop i H->
  wpAny (model P w) X.A (pyNext (.ref it)) (fun r s1=>r=none/\Inv X pins σ H s1) E s
 self:∀(A:Around) (i:Nat) (s:Shared) (Q:Value->Shared->Prop) (E:Value->Shared->Prop),tn i s.heap->Q (.ref it) s->wpAny (model P w) A (pyIter (.ref it)) Q E s
noncomputable abbrev TI:=St->Hp->(It->Hp->Prop)->Prop
noncomputable def PIE(X:Cx)(pins:List (Addr×Obj))(σ:St)(tg:Expr)(R:It->Hp->Prop)(itv:Value)(s2:Shared):Prop:=
 ∃(it:Addr) (fp:List Addr) (tn:Nat->Heap->Prop) (J:It) (H':Hp),itv= .ref it/\Inv X pins σ H' s2/\Turn X.prog X.w X.K tg J fp it tn/\tn 0 s2.heap/\(∀b∈fp,FpOk X pins H' b)/\R J H'
noncomputable def PI(X:Cx)(tg iter:Expr)(wi:TI):Prop:=
 ∀(pins:List (Addr×Obj)) (s:Shared) (σ:St) (H:Hp) (R:It->Hp->Prop),Inv X pins σ H s->wi σ H R->
  wpAny (model X.prog X.w) X.A (eval iter X.env) (fun v s1=>wpAny (model X.prog X.w) X.A (pyIter v) (PIE X pins σ tg R) X.xe s1) X.xe s
theorem go_of{M:Model}{A:Around}{E:Value->Shared->Prop}{s:Shared}{tg:Expr}{it:Addr}{u:Value}{o:Obj}{n:String}{vs:Array Value}{Q:Unit->Shared->Prop}(ho:s.heap.get? it=some o)(hc:o.cls= .type n)(hd:o.data= .fields vs)(hn:["enumerate","zip","dict_itemiterator","dict_reverseitemiterator","odict_iterator","itertools.zip_longest","itertools.pairwise"].contains n=false)(hQ:Q () s):wpAny M A (letOwnedTupleGo tg (.ref it) u) Q E s:=by
 unfold letOwnedTupleGo
 cases tg<;>first
  |exact wpAny_pure hQ
  |(cases u<;>first
    |exact wpAny_pure hQ
    |(refine wpAny_bind (wpAny_load ho ?_)
      rw[hc,hd]
      show wpAny M A (if(["enumerate","zip","dict_itemiterator","dict_reverseitemiterator","odict_iterator","itertools.zip_longest","itertools.pairwise"].contains n&&vs[0]? ==some (rawInt _))=true then _ else _) Q E s
      rw[if_neg (by intro h;rw[hn,Bool.false_and]at h;cases h)]
      exact wpAny_pure hQ))
noncomputable def Itl(K:W.Frag)(a:Addr):It:=
 ⟨fun i H=>∃xs x,SqL K H a xs/\xs[i]? =some x,fun i H x H'=>H'=H/\∀xs,SqL K H a xs->xs[i]? =some x,fun i H=>∃xs,SqL K H a xs/\xs.length<=i⟩
noncomputable def Itt(K:W.Frag)(a:Addr):It:=
 ⟨fun i H=>∃xs x,SqT K H a xs/\xs[i]? =some x,fun i H x H'=>H'=H/\∀xs,SqT K H a xs->xs[i]? =some x,fun i H=>∃xs,SqT K H a xs/\xs.length<=i⟩
noncomputable def Itr(lo:Int)(n:Nat):It:=⟨fun i _=>i<n,fun i H x H'=>H'=H/\x= .int (lo+i),fun i _=>n<=i⟩
theorem turn_list{P:Program}{w:World}{K:W.Frag}{tg:Expr}(a it:Addr):Turn P w K tg (Itl K a) [it] it (fun i h=>h.IsListIter it a i) where
 mem:=by simp
 obj:=fun i h st b hb=>by
  have e:b=it:=by simpa using hb
  subst e
  obtain⟨o,e,c,d⟩:=st
  exact⟨o,e,fun v z=>by rw[d]at z;cases z⟩
 keep:=fun i h h' st k=>st.at fun o e=>k it (by simp) o e
 item:=by
  intro X hP hw hK hc i pins s σ H E I hf st hg
  subst hP hw hK
  obtain⟨xs,x,hq,hx⟩:=hg
  obtain⟨its,rv,p,hz⟩:=I.list hq
  obtain⟨u,hu,ru⟩:=rv.get hx
  obtain⟨f0,f1,f2,f3,f4,f5⟩:=hf it (by simp)
  refine wpAny_pyNext_list_item st p.isList (x:=u) (by simpa using hu) fun h' st' sb=> ?_
  have I1:Inv X pins σ H {s with heap:=h'}:=I.turned (t':=s.toks) (fun b o hb e=>(sb.2 b hb).trans e) f0 f1 f3 f4 f5
  obtain⟨o,e,c,d⟩:=id st'
  exact⟨u,rfl,go_of (s:={s with heap:=h'}) e c d (by decide) ⟨x,H,I1,ru,⟨rfl,fun ys hy=>by rw[I.list_inj hy hq];exact hx⟩,st',fun b hb=>(hf b hb).1⟩⟩
 done:=by
  intro X hP hw hK hc i pins s σ H E I hf st hg
  subst hP hw hK
  obtain⟨xs,hq,hx⟩:=hg
  obtain⟨its,rv,p,hz⟩:=I.list hq
  obtain⟨f0,f1,f2,f3,f4,f5⟩:=hf it (by simp)
  have hl:=rv.length
  exact wpAny_pyNext_list_end (I.ok.hd hc) st p.isList (by simp;omega) fun h' eb=>⟨rfl,I.turned (t':=s.toks) (fun b o hb e=>eb b o hb e) f0 f1 f3 f4 f5⟩
 self:=fun _ _ _ _ _ st h=>wpAny_pyIter_listiter st h
theorem turn_tuple{P:Program}{w:World}{K:W.Frag}{tg:Expr}(a it:Addr):Turn P w K tg (Itt K a) [it] it (fun i h=>h.IsTupleIter it a i) where
 mem:=by simp
 obj:=fun i h st b hb=>by
  have e:b=it:=by simpa using hb
  subst e
  obtain⟨o,e,c,d⟩:=st
  exact⟨o,e,fun v z=>by rw[d]at z;cases z⟩
 keep:=fun i h h' st k=>st.at fun o e=>k it (by simp) o e
 item:=by
  intro X hP hw hK hc i pins s σ H E I hf st hg
  subst hP hw hK
  obtain⟨xs,x,hq,hx⟩:=hg
  obtain⟨its,rv,p,hz⟩:=I.tuple hq
  obtain⟨u,hu,ru⟩:=rv.get hx
  obtain⟨f0,f1,f2,f3,f4,f5⟩:=hf it (by simp)
  refine wpAny_pyNext_tuple_item st (show s.heap.IsTuple a its.toArray from p) (x:=u) (by simpa using hu) fun h' st' sb=> ?_
  have I1:Inv X pins σ H {s with heap:=h'}:=I.turned (t':=s.toks) (fun b o hb e=>(sb.2 b hb).trans e) f0 f1 f3 f4 f5
  obtain⟨o,e,c,d⟩:=id st'
  exact⟨u,rfl,go_of (s:={s with heap:=h'}) e c d (by decide) ⟨x,H,I1,ru,⟨rfl,fun ys hy=>by rw[I.tuple_inj hy hq];exact hx⟩,st',fun b hb=>(hf b hb).1⟩⟩
 done:=by
  intro X hP hw hK hc i pins s σ H E I hf st hg
  subst hP hw hK
  obtain⟨xs,hq,hx⟩:=hg
  obtain⟨its,rv,p,hz⟩:=I.tuple hq
  obtain⟨f0,f1,f2,f3,f4,f5⟩:=hf it (by simp)
  have hl:=rv.length
  exact wpAny_pyNext_tuple_end (I.ok.hd hc) st (show s.heap.IsTuple a its.toArray from p) (by simp;omega) fun h' eb=>⟨rfl,I.turned (t':=s.toks) (fun b o hb e=>eb b o hb e) f0 f1 f3 f4 f5⟩
 self:=fun _ _ _ _ _ st h=>wpAny_pyIter_tupleiter st h
theorem turn_range{P:Program}{w:World}{K:W.Frag}{tg:Expr}(it:Addr)(lo:Int)(n:Nat):Turn P w K tg (Itr lo n) [it] it (fun i h=>IsRangeIter h it (lo+(i:Nat)*1) ((n:Int)-(i:Nat)) 1) where
 mem:=by simp
 obj:=fun i h st b hb=>by
  have e:b=it:=by simpa using hb
  subst e
  exact⟨_,st,fun v z=>by
   have z':Data.fields _=Data.cell v:=z
   cases z'⟩
 keep:=fun i h h' st k=>k it (by simp) _ st
 item:=by
  intro X hP hw hK hc i pins s σ H E I hf st hg
  subst hP hw hK
  obtain⟨f0,f1,f2,f3,f4,f5⟩:=hf it (by simp)
  have W:=Walks.range (prog:=X.prog) (w:=X.w) (I.ok.hd hc) it lo 1 n
  refine W.item i s _ _ hg st fun v h' tk hv st' kk=> ?_
  obtain⟨t,rfl⟩:=hv
  have I1:Inv X pins σ H {s with heap:=h',toks:=tk}:=I.turned (fun b o hb e=>kk b o (by simpa using hb) e) f0 f1 f3 f4 f5
  refine⟨_,rfl,go_of (s:={s with heap:=h',toks:=tk}) (n:="range_iterator") st' rfl rfl (by decide) ⟨.int (lo+i),H,I1,⟨t,?_⟩,⟨rfl,rfl⟩,st',fun b hb=>(hf b hb).1⟩⟩
  rw[Int.mul_one]
 done:=by
  intro X hP hw hK hc i pins s σ H E I hf st hg
  subst hP hw hK
  obtain⟨f0,f1,f2,f3,f4,f5⟩:=hf it (by simp)
  exact wpAny_pyNext_range_end (I.ok.hd hc) st (by have:n<=i:=hg;omega) fun h' eb=>⟨rfl,I.turned (t':=s.toks) (fun b o hb e=>eb b o hb e) f0 f1 f3 f4 f5⟩
 self:=fun _ _ _ _ _ st h=>wpAny_pyIter_rangeiter st h
end L2
namespace L2
open PySem PySem.Spec PyProof.Rows
section
variable{X:Cx}{tg:Expr}
theorem range_it{pins:List (Addr×Obj)}{σ:St}{H:Hp}{s:Shared}{R:It->Hp->Prop}{E:Value->Shared->Prop}{lo hi:Int}{t u v:Tok}{tk:Nat}(I:Inv X pins σ H s)(h1: -(2^62)<=lo)(h2:lo<2^62)(h3: -(2^62)<=hi)(h4:hi<2^62)(q:R (Itr lo (hi-lo).toNat) H):wpAny (model X.prog X.w) X.A (pyIter (.ref s.heap.objs.size)) (PIE X pins σ tg R) E {s with heap:=s.heap.push {cls:= .type "range",data:= .fields #[.int lo t,.int hi u,.int 1 v]},toks:=tk}:=by
 refine wpAny_pyIter_range (IsRange.new ..) (small_one h1 h2 h3 h4) ?_
 have I1:Inv X pins σ H {s with heap:=s.heap.push {cls:= .type "range",data:= .fields #[.int lo t,.int hi u,.int 1 v]},toks:=tk}:=I.kept fun b o e=>Heap.get?_push_of_some _ e
 refine⟨(s.heap.push {cls:= .type "range",data:= .fields #[.int lo t,.int hi u,.int 1 v]}).objs.size,[(s.heap.push {cls:= .type "range",data:= .fields #[.int lo t,.int hi u,.int 1 v]}).objs.size],_,_,H,rfl,
  I1.kept (t':=tk) fun b o e=>Heap.get?_push_of_some _ e,turn_range _ lo (hi-lo).toNat,?_,fun b hb=> ?_,q⟩
 ·have e1:lo+((0:Nat):Int)*1=lo:=by simp
  have e2:(((hi-lo).toNat:Nat):Int)-((0:Nat):Int)=Builtin.Range.rangeSize lo hi 1:=by rw[rangeSize_one];split<;>omega
  show IsRangeIter _ _ (lo+((0:Nat):Int)*1) ((((hi-lo).toNat:Nat):Int)-((0:Nat):Int)) 1
  rw[e1,e2]
  exact Heap.get?_push_size _ rfl
 ·have e:b=(s.heap.push {cls:= .type "range",data:= .fields #[.int lo t,.int hi u,.int 1 v]}).objs.size:=by simpa using hb
  subst e
  exact I1.fpOk (Nat.le_refl _) (I1.hok.fresh (Nat.le_refl _))
noncomputable def iRng1(ta:TA):TI:=fun σ H R=>ta σ H fun vs H1=>∃j:Int,vs=[.int j]/\ -(2^62)<=j/\j<2^62/\R (Itr 0 j.toNat) H1
noncomputable def iRng2(ta:TA):TI:=fun σ H R=>ta σ H fun vs H1=>∃i j:Int,vs=[.int i,.int j]/\(-(2^62)<=i/\i<2^62/\ -(2^62)<=j/\j<2^62)/\R (Itr i (j-i).toNat) H1
theorem pi_range1{a:Expr}{ta:TA}{p pos:Pos}(hg:Gl X "range")(hm:X.mg "range"=none)(ha:PA X [a] ta)(hs:starEach [a] X.env=[(false,eval a X.env)]:=by rfl):PI X tg (.Call (.Name "range" p) [a] [] pos) (iRng1 ta):=by
 intro pins s σ H R I h
 refine Call_ (ld_blt I hg hm boot_range (PyProof.Rows.callWith_type1 (thn (ha pos pins s σ H _ I h) fun us s1 ⟨vs,H1,I1,r1,q1⟩=> ?_) hs rfl))
 obtain⟨j,e,q1,q2,q⟩:=q1
 subst e
 cases r1 with
 |cons r rr=>
  cases rr
  obtain⟨t,rfl⟩:=r
  exact call_range_1 (range_it I1 (by omega) (by omega) q1 q2 (by simpa using q))
theorem pi_range2{a b:Expr}{ta:TA}{p pos:Pos}(hg:Gl X "range")(hm:X.mg "range"=none)(ha:PA X [a,b] ta)(hs:starEach [a,b] X.env=[(false,eval a X.env),(false,eval b X.env)]:=by rfl)(hs2:starEach [b] X.env=[(false,eval b X.env)]:=by rfl):
  PI X tg (.Call (.Name "range" p) [a,b] [] pos) (iRng2 ta):=by
 intro pins s σ H R I h
 refine Call_ (ld_blt I hg hm boot_range (PyProof.Rows.callWith_type1 (thn (ha pos pins s σ H _ I h) fun us s1 ⟨vs,H1,I1,r1,q1⟩=> ?_) (by rw[hs,hs2]) (by rw[hs2];rfl)))
 obtain⟨i,j,e,⟨q1,q2,q3,q4⟩,q⟩:=q1
 subst e
 cases r1 with
 |cons r rr=>
  cases rr with
  |cons r' rr=>
   cases rr
   obtain⟨t,rfl⟩:=r
   obtain⟨t',rfl⟩:=r'
   exact call_range_2 (range_it I1 q1 q2 q3 q4 q)
noncomputable def tFor(wi:TI)(g:TG)(tb:TS):TS:=fun D σ H=>wi σ H fun J H1=>∃W:Nat->Nat->St->Hp->Prop,(∃m,W 0 m σ H1)/\∀i m σ H,W i m σ H->
 (J.stop i H/\D.nx σ H)\/(J.go i H/\∃N:St->Hp->Prop,(∀σ' H',N σ' H'->∃m',m'<m/\W (i+1) m' σ' H')/\∀x H',J.yld i H x H'->g x σ H' fun σ2 H2=>tb {D with nx:=N,ct:=N,bk:=D.nx} σ2 H2)
noncomputable def pinsAt(fp:List Addr)(h:Heap):List (Addr×Obj):=fp.filterMap fun b=>(h.get? b).map fun o=>(b,o)
theorem mem_pinsAt{fp:List Addr}{h:Heap}{b:Addr}{o:Obj}(hb:b∈fp)(e:h.get? b=some o):(b,o)∈pinsAt fp h:=List.mem_filterMap.mpr ⟨b,hb,by rw[e];rfl⟩
theorem of_pinsAt{fp:List Addr}{h:Heap}{p:Addr×Obj}(hp:p∈pinsAt fp h):p.1∈fp/\h.get? p.1=some p.2:=by
 obtain⟨b,hb,e⟩:=List.mem_filterMap.mp hp
 cases q:h.get? b with
 |none=>rw[q]at e;cases e
 |some o=>
  rw[q]at e
  have e':(b,o)=p:=Option.some.inj e
  subst e'
  exact⟨hb,q⟩
theorem Inv.pinned{pins:List (Addr×Obj)}{σ:St}{H:Hp}{s:Shared}{fp:List Addr}(I:Inv X pins σ H s)(hf:∀b∈fp,FpOk X pins H b)(ho:∀b∈fp,∃o,s.heap.get? b=some o/\∀v,o.data≠.cell v):Inv X (pins++pinsAt fp s.heap) σ H s:=
 I.pins_of fun p hp=>(List.mem_append.mp hp).elim (fun z=>I.pin p (List.mem_append_right _ z)) fun z=>by
  obtain⟨hb,e⟩:=of_pinsAt z
  obtain⟨f0,f1,f2,_⟩:=hf p.1 hb
  obtain⟨o,e',d⟩:=ho p.1 hb
  rw[e]at e';cases e'
  exact⟨e,f0,f1,f2,d⟩
theorem Inv.unpinned{pins pl:List (Addr×Obj)}{σ:St}{H:Hp}{s:Shared}(I:Inv X (pins++pl) σ H s):Inv X pins σ H s:=I.pins_of fun p hp=>I.pin p (List.mem_append_right _ (List.mem_append_left _ hp))
theorem zcl{iter:Expr}{body:List Stmt}{wi:TI}{g:TG}{tb:TS}{pos:Pos}(hp:PassesOwn (model X.prog X.w) X.A X.env X.xe)(hc:X.calm=true)(hi:PI X tg iter wi)(hg:PG X tg g)(hb:PSs X body tb)(hs:∀x,foldedSetIterable iter X.env x=pure x:=by intro _;rfl):PS X (.For tg iter body [] pos) (tFor wi g tb):=by
 intro pins s σ H D I h
 refine wpAny_For (thn (hi pins s σ H _ I h) fun v s1 h1=>thn h1 fun itv s2 h2=> ?_) hs
 obtain⟨it,fp,tn,J,H2,e,I2,T,st2,f2,W,⟨m0,w0⟩,turn⟩:=h2
 subst e
 -- what stays true of the iterator's objects through the loop
 have stat:∀{H':Hp},(∀b∈fp,H' b=none)->∀b∈fp,FpOk X pins H' b:=fun hn b hb=>⟨hn b hb,(f2 b hb).2⟩
 refine codeAny_forLoop_any (fun n s'=>∃i σ' H',Inv X pins σ' H' s'/\tn i s'.heap/\(∀b∈fp,H' b=none)/\W i n σ' H') ?_ m0 ⟨0,σ,H2,I2,st2,fun b hb=>(f2 b hb).1,w0⟩
 rintro n s3 ⟨i,σ3,H3,I3,st3,fr3,w3⟩
 rcases turn i n σ3 H3 w3 with⟨stop,qn⟩|⟨go,N,hN,step⟩
 ·refine wpAny_passesOwn hp (thn (T.done X rfl rfl rfl hc i pins s3 σ3 H3 X.xe I3 (stat fr3) st3 stop) fun r s4 ⟨hr,I4⟩=> ?_)
  subst hr
  exact wpAny_execs_nil ⟨σ3,H3,I4,qn⟩
 ·refine wpAny_passesOwn hp (thn (T.item X rfl rfl rfl hc i pins s3 σ3 H3 X.xe I3 (stat fr3) st3 go) fun r s4 ⟨u,hr,h4⟩=> ?_)
  subst hr
  refine wpAny_passesOwn hp (thn h4 fun _ s5 ⟨x,H5,I5,r5,y5,st5,fr5⟩=> ?_)
  have I5':=I5.pinned (stat fr5) (T.obj _ _ st5)
  refine wpAny_passesOwn hp (thn (hg _ s5 σ3 H5 x u _ I5' r5 (step x H5 y5)) fun _ s6 ⟨σ6,H6,I6,q6⟩=> ?_)
  refine wpAny_passesOwn hp (thn (hb _ s6 σ6 H6 _ I6 q6) fun f s7 q7=> ?_)
  have again:∀{σ7:St} {H7:Hp},Inv X (pins++pinsAt fp s5.heap) σ7 H7 s7->N σ7 H7->∃m,m<n/\∃i σ' H',Inv X pins σ' H' s7/\tn i s7.heap/\(∀b∈fp,H' b=none)/\W i m σ' H':=fun{σ7 H7} I7 n7=>by
   obtain⟨m',hm,w7⟩:=hN σ7 H7 n7
   refine⟨m',hm,i+1,σ7,H7,I7.unpinned,T.keep _ _ _ st5 fun b hb o e=>(I7.pin (b,o) (List.mem_append_right _ (List.mem_append_right _ (mem_pinsAt hb e)))).1,fun b hb=> ?_,w7⟩
   obtain⟨o,e,d⟩:=T.obj _ _ st5 b hb
   exact(I7.pin (b,o) (List.mem_append_right _ (List.mem_append_right _ (mem_pinsAt hb e)))).2.1
  cases f with
  |next=>obtain⟨σ7,H7,I7,n7⟩:=q7;exact again I7 n7
  |cont=>obtain⟨σ7,H7,I7,n7⟩:=q7;exact again I7 n7
  |brk=>obtain⟨σ7,H7,I7,q7⟩:=q7;exact⟨σ7,H7,I7.unpinned,q7⟩
  |ret v=>obtain⟨x7,σ7,H7,I7,r7,q7⟩:=q7;exact⟨x7,σ7,H7,I7.unpinned,r7,q7⟩
end
theorem for_list{K:W.Frag}{a:Addr}{xs:List V}{g:TG}{tb:TS}{D:Ends}{σ:St}{H:Hp}(Pv:Nat->St->Hp->Prop)(h0:Pv 0 σ H)(hl:∀i σ H,i<=xs.length->Pv i σ H->SqL K H a xs)(hs:∀i x σ H,xs[i]? =some x->Pv i σ H->g x σ H fun σ2 H2=>tb {D with nx:=Pv (i+1),ct:=Pv (i+1),bk:=D.nx} σ2 H2)(hd:∀σ H,Pv xs.length σ H->D.nx σ H):
  ∃W:Nat->Nat->St->Hp->Prop,(∃m,W 0 m σ H)/\∀i m σ H,W i m σ H->
   ((Itl K a).stop i H/\D.nx σ H)\/((Itl K a).go i H/\∃N:St->Hp->Prop,(∀σ' H',N σ' H'->∃m',m'<m/\W (i+1) m' σ' H')/\∀x H',(Itl K a).yld i H x H'->g x σ H' fun σ2 H2=>tb {D with nx:=N,ct:=N,bk:=D.nx} σ2 H2):=by
 refine⟨fun i m σ H=>m=xs.length-i/\i<=xs.length/\Pv i σ H,⟨xs.length,by simp,Nat.zero_le _,h0⟩,?_⟩
 rintro i m σ H ⟨rfl,hi,p⟩
 have q:=hl i σ H hi p
 by_cases hlt:i<xs.length
 ·refine .inr ⟨⟨xs,xs[i],q,by simp[hlt]⟩,Pv (i+1),fun σ' H' p'=>⟨xs.length-(i+1),by omega,rfl,hlt,p'⟩,fun x H' y=> ?_⟩
  obtain⟨e,y⟩:=y
  subst e
  exact hs i x σ _ (y xs q) p
 ·have e:i=xs.length:=by omega
  subst e
  exact .inl ⟨⟨xs,q,Nat.le_refl _⟩,hd σ H p⟩
theorem for_tup{K:W.Frag}{a:Addr}{xs:List V}{g:TG}{tb:TS}{D:Ends}{σ:St}{H:Hp}(Pv:Nat->St->Hp->Prop)(h0:Pv 0 σ H)(hl:∀i σ H,i<=xs.length->Pv i σ H->SqT K H a xs)(hs:∀i x σ H,xs[i]? =some x->Pv i σ H->g x σ H fun σ2 H2=>tb {D with nx:=Pv (i+1),ct:=Pv (i+1),bk:=D.nx} σ2 H2)(hd:∀σ H,Pv xs.length σ H->D.nx σ H):
  ∃W:Nat->Nat->St->Hp->Prop,(∃m,W 0 m σ H)/\∀i m σ H,W i m σ H->
   ((Itt K a).stop i H/\D.nx σ H)\/((Itt K a).go i H/\∃N:St->Hp->Prop,(∀σ' H',N σ' H'->∃m',m'<m/\W (i+1) m' σ' H')/\∀x H',(Itt K a).yld i H x H'->g x σ H' fun σ2 H2=>tb {D with nx:=N,ct:=N,bk:=D.nx} σ2 H2):=by
 refine⟨fun i m σ H=>m=xs.length-i/\i<=xs.length/\Pv i σ H,⟨xs.length,by simp,Nat.zero_le _,h0⟩,?_⟩
 rintro i m σ H ⟨rfl,hi,p⟩
 have q:=hl i σ H hi p
 by_cases hlt:i<xs.length
 ·refine .inr ⟨⟨xs,xs[i],q,by simp[hlt]⟩,Pv (i+1),fun σ' H' p'=>⟨xs.length-(i+1),by omega,rfl,hlt,p'⟩,fun x H' y=> ?_⟩
  obtain⟨e,y⟩:=y
  subst e
  exact hs i x σ _ (y xs q) p
 ·have e:i=xs.length:=by omega
  subst e
  exact .inl ⟨⟨xs,q,Nat.le_refl _⟩,hd σ H p⟩
theorem zdc{lo:Int}{n:Nat}{g:TG}{tb:TS}{D:Ends}{σ:St}{H:Hp}(Pv:Nat->St->Hp->Prop)(h0:Pv 0 σ H)(hs:∀i σ H,i<n->Pv i σ H->g (.int (lo+i)) σ H fun σ2 H2=>tb {D with nx:=Pv (i+1),ct:=Pv (i+1),bk:=D.nx} σ2 H2)(hd:∀σ H,Pv n σ H->D.nx σ H):
  ∃W:Nat->Nat->St->Hp->Prop,(∃m,W 0 m σ H)/\∀i m σ H,W i m σ H->
   ((Itr lo n).stop i H/\D.nx σ H)\/((Itr lo n).go i H/\∃N:St->Hp->Prop,(∀σ' H',N σ' H'->∃m',m'<m/\W (i+1) m' σ' H')/\∀x H',(Itr lo n).yld i H x H'->g x σ H' fun σ2 H2=>tb {D with nx:=N,ct:=N,bk:=D.nx} σ2 H2):=by
 refine⟨fun i m σ H=>m=n-i/\i<=n/\Pv i σ H,⟨n,by simp,Nat.zero_le _,h0⟩,?_⟩
 rintro i m σ H ⟨rfl,hi,p⟩
 by_cases hlt:i<n
 ·refine .inr ⟨hlt,Pv (i+1),fun σ' H' p'=>⟨n-(i+1),by omega,rfl,hlt,p'⟩,fun x H' y=> ?_⟩
  obtain⟨e,y⟩:=y
  subst e y
  exact hs i σ _ hlt p
 ·have e:i=n:=by omega
  subst e
  exact .inl ⟨Nat.le_refl _,hd σ H p⟩
end L2
namespace L2
open PySem PySem.Spec PyProof.Rows
noncomputable abbrev R2:=V->V->Hp->VK->Prop
noncomputable def OpR(X:Cx)(f:Value->Value->Sem Value)(r:R2):Prop:=
 ∀(pins:List (Addr×Obj)) (s:Shared) (σ:St) (H:Hp) (x y:V) (v u:Value) (Q:VK),Inv X pins σ H s->RelV x v->RelV y u->r x y H Q->
  wpAny (model X.prog X.w) X.A (f v u) (EP X pins σ Q) X.xe s
noncomputable def UnR(X:Cx)(f:Value->Sem Value)(r:V->Hp->VK->Prop):Prop:=
 ∀(pins:List (Addr×Obj)) (s:Shared) (σ:St) (H:Hp) (x:V) (v:Value) (Q:VK),Inv X pins σ H s->RelV x v->r x H Q->
  wpAny (model X.prog X.w) X.A (f v) (EP X pins σ Q) X.xe s
noncomputable def CallR(X:Cx)(f:Value)(r:List V->Hp->VK->Prop):Prop:=
 ∀(pins:List (Addr×Obj)) (s:Shared) (σ:St) (H:Hp) (xs:List V) (us:List Value) (Q:VK),Inv X pins σ H s->Vals xs us->r xs H Q->
  wpAny (model X.prog X.w) X.A (call f us) (EP X pins σ Q) X.xe s
noncomputable def TruR(X:Cx)(r:V->Hp->(Bool->Hp->Prop)->Prop):Prop:=
 ∀(pins:List (Addr×Obj)) (s:Shared) (σ:St) (H:Hp) (x:V) (v:Value) (Q:Bool->Hp->Prop),Inv X pins σ H s->RelV x v->r x H Q->
  wpAny (model X.prog X.w) X.A (truthy v) (TP X pins σ Q) X.xe s
noncomputable def tOp(r:R2)(ta tb:TE):TE:=fun σ H Q=>ta σ H fun x H1=>tb σ H1 fun y H2=>r x y H2 Q
noncomputable def tUn(r:V->Hp->VK->Prop)(ta:TE):TE:=fun σ H Q=>ta σ H fun x H1=>r x H1 Q
noncomputable def rI(C:Int->Int->Prop)(g:Int->Int->V):R2:=fun x y H Q=>∃i j,x= .int i/\y= .int j/\C i j/\Q (g i j) H
noncomputable def rI0(g:Int->Int->V):R2:=fun x y H Q=>∃i j,x= .int i/\y= .int j/\Q (g i j) H
noncomputable def rU(g:Int->V):V->Hp->VK->Prop:=fun x H Q=>∃i,x= .int i/\Q (g i) H
section
variable{X:Cx}{a b c:Expr}{ta tb tc:TE}{pos:Pos}
theorem binT(ha:PE X a ta)(hb:PE X b tb){pins:List (Addr×Obj)}{s:Shared}{σ:St}{H:Hp}{R:V->V->Hp->Prop}(I:Inv X pins σ H s)(h:ta σ H fun x H1=>tb σ H1 fun y H2=>R x y H2){Q:Value->Shared->Prop}{f:Value->Value->Sem Value}(hf:∀v u s2 x y H2,Inv X pins σ H2 s2->RelV x v->RelV y u->R x y H2->wpAny (model X.prog X.w) X.A (f v u) Q X.xe s2):
  wpAny (model X.prog X.w) X.A (eval a X.env) (fun v s₁=>wpAny (model X.prog X.w) X.A (eval b X.env) (fun u s₂=>wpAny (model X.prog X.w) X.A (f v u) Q X.xe s₂) X.xe s₁) X.xe s:=by
 refine thn (ha pins s σ H _ I h) fun v s1 ⟨x,H1,I1,r1,q1⟩=> ?_
 refine thn (hb pins s1 σ H1 _ I1 q1) fun u s2 ⟨y,H2,I2,r2,q2⟩=> ?_
 exact hf v u s2 x y H2 I2 r1 r2 q2
theorem zbd{op:Operator}{r:R2}(ho:OpR X (binaryOp op) r)(ha:PE X a ta)(hb:PE X b tb):PE X (.BinOp a op b pos) (tOp r ta tb):=by
 intro pins s σ H Q I h
 exact wpAny_BinOp (binT ha hb I h fun v u s2 x y H2 I2 rx ry q=>ho pins s2 σ H2 x y v u Q I2 rx ry q)
theorem pe_un{op:UnaryOp}{r:V->Hp->VK->Prop}(ho:UnR X (unaryOp op) r)(ha:PE X a ta):PE X (.UnaryOp op a pos) (tUn r ta):=by
 intro pins s σ H Q I h
 exact UnaryOp_ (thn (ha pins s σ H _ I h) fun v s1 ⟨x,H1,I1,r1,q1⟩=>ho pins s1 σ H1 x v Q I1 r1 q1)
theorem opI{f:Value->Value->Sem Value}{C:Int->Int->Prop}{g:Int->Int->Int}(rule:∀(i j:Int) (t u:Tok) (s:Shared) (Q:Value->Shared->Prop) (E:Value->Shared->Prop),C i j->Q (.int (g i j) s.toks) {s with toks:=s.toks+1}->wpAny (model X.prog X.w) X.A (f (.int i t) (.int j u)) Q E s):
  OpR X f (rI C fun i j=> .int (g i j)):=by
 intro pins s σ H x y v u Q I rx ry h
 obtain⟨i,j,rfl,rfl,hc,q⟩:=h
 obtain⟨t,rfl⟩:=rx
 obtain⟨t',rfl⟩:=ry
 exact rule i j t t' s _ _ hc ⟨.int (g i j),H,I.tok _,⟨_,rfl⟩,q⟩
theorem opI0{f:Value->Value->Sem Value}{g:Int->Int->Int}(rule:∀(i j:Int) (t u:Tok) (s:Shared) (Q:Value->Shared->Prop) (E:Value->Shared->Prop),Q (.int (g i j) s.toks) {s with toks:=s.toks+1}->wpAny (model X.prog X.w) X.A (f (.int i t) (.int j u)) Q E s):
  OpR X f (rI0 fun i j=> .int (g i j)):=by
 intro pins s σ H x y v u Q I rx ry h
 obtain⟨i,j,rfl,rfl,q⟩:=h
 obtain⟨t,rfl⟩:=rx
 obtain⟨t',rfl⟩:=ry
 exact rule i j t t' s _ _ ⟨.int (g i j),H,I.tok _,⟨_,rfl⟩,q⟩
theorem opB0{f:Value->Value->Sem Value}{g:Int->Int->Bool}(rule:∀(i j:Int) (t u:Tok) (s:Shared) (Q:Value->Shared->Prop) (E:Value->Shared->Prop),Q (.bool (g i j)) s->wpAny (model X.prog X.w) X.A (f (.int i t) (.int j u)) Q E s):
  OpR X f (rI0 fun i j=> .bl (g i j)):=by
 intro pins s σ H x y v u Q I rx ry h
 obtain⟨i,j,rfl,rfl,q⟩:=h
 obtain⟨t,rfl⟩:=rx
 obtain⟨t',rfl⟩:=ry
 exact rule i j t t' s _ _ ⟨.bl (g i j),H,I,rfl,q⟩
noncomputable def CDiv(i j:Int):Prop:=0<j/\j<1073741824
noncomputable def CPow(i j:Int):Prop:=0<=j/\j<=1000000/\i.natAbs<2^64
noncomputable def CMul(i j:Int):Prop:=(-(2^64)<i/\i<2^64)\/(-(2^64)<j/\j<2^64)
theorem CMul.ok{i j:Int}(h:CMul i j):IntMulOk i j:=by
 rcases h with⟨h1,h2⟩|⟨h1,h2⟩
 ·exact .of_left (intBits_le_64 h1 h2)
 ·exact .of_right (intBits_le_64 h1 h2)
theorem zcz:OpR X (binaryOp .Add) (rI0 fun i j=> .int (i+j)):=opI0 fun _ _ _ _ _ _ _ q=>add_int q
theorem op_sub:OpR X (binaryOp .Sub) (rI0 fun i j=> .int (i-j)):=opI0 fun _ _ _ _ _ _ _ q=>sub_int q
theorem op_mul:OpR X (binaryOp .Mult) (rI CMul fun i j=> .int (i*j)):=opI fun _ _ _ _ _ _ _ hc q=>mul_int q hc.ok
theorem op_fdiv:OpR X (binaryOp .FloorDiv) (rI CDiv fun i j=> .int (i/j)):=opI fun i j _ _ _ _ _ hc q=>by
 have h1:(0:Int)<j:=hc.1
 have h2:j<1073741824:=hc.2
 exact floordiv_int (by omega) (by rw[Int.fdiv_eq_ediv_of_nonneg i (by omega)];exact q) (.inl (PyProof.noPylong_small (by omega)))
theorem op_mod:OpR X (binaryOp .Mod) (rI (fun _ j=>0<j) fun i j=> .int (i %j)):=opI fun i j _ _ _ _ _ hc q=>by
 have h1:(0:Int)<j:=hc
 exact mod_int' (by omega) (by rw[Int.fmod_eq_emod_of_nonneg i (by omega)];exact q)
theorem op_pow:OpR X (binaryOp .Pow) (rI CPow fun i j=> .int (i^j.toNat)):=opI fun _ _ _ _ _ _ _ hc q=>pow_int_small hc.1 hc.2.1 hc.2.2 q
theorem unI{f:Value->Sem Value}{g:Int->Int}(rule:∀(i:Int) (t:Tok) (s:Shared) (Q:Value->Shared->Prop) (E:Value->Shared->Prop),Q (.int (g i) s.toks) {s with toks:=s.toks+1}->wpAny (model X.prog X.w) X.A (f (.int i t)) Q E s):
  UnR X f (rU fun i=> .int (g i)):=by
 intro pins s σ H x v Q I rx h
 obtain⟨i,rfl,q⟩:=h
 obtain⟨t,rfl⟩:=rx
 exact rule i t s _ _ ⟨.int (g i),H,I.tok _,⟨_,rfl⟩,q⟩
theorem un_neg:UnR X (unaryOp .USub) (rU fun i=> .int (-i)):=unI fun _ _ _ _ _ q=>neg_int q
end
noncomputable def scal:V->V->Bool
 | .non,.non=>true| .non,.int _=>true| .int _,.non=>true| .non,.bl _=>true| .bl _,.non=>true| .non,.str _=>true| .str _,.non=>true
 | .int _,.int _=>true| .bl _,.bl _=>true| .str _,.str _=>true| .byt _,.byt _=>true
 | .int _,.str _=>true| .str _,.int _=>true| .bl _,.str _=>true| .str _,.bl _=>true
 |_,_=>false
noncomputable def rEq:R2:=fun x y H Q=>scal x y=true/\Q (.bl (decide (x=y))) H
noncomputable def rNe:R2:=fun x y H Q=>scal x y=true/\Q (.bl (!decide (x=y))) H
theorem dec_int{i j:Int}:decide (V.int i=V.int j)=(i==j):=by
 rw[Bool.eq_iff_iff]
 simp
theorem dec_bl{i j:Bool}:decide (V.bl i=V.bl j)=(i==j):=by
 rw[Bool.eq_iff_iff]
 simp
theorem dec_str{i j:Str}:decide (V.str i=V.str j)=(i==j):=by
 rw[Bool.eq_iff_iff]
 simp
theorem dec_byt{i j:Array UInt8}:decide (V.byt i=V.byt j)=(i.toList==j.toList):=by
 rw[Bool.eq_iff_iff]
 cases i
 cases j
 simp
section
variable{X:Cx}{a b c:Expr}{ta tb tc:TE}{pos:Pos}
theorem zbe{pins:List (Addr×Obj)}{σ:St}{H:Hp}{s:Shared}{Q:VK}{k k':Bool}(I:Inv X pins σ H s)(q:Q (.bl k) H)(e:k=k'):EP X pins σ Q (.bool k') s:=by
 subst e
 exact⟨.bl k,H,I,rfl,q⟩
theorem op_eq:OpR X (compareOp .Eq) rEq:=by
 intro pins s σ H x y v u Q I rx ry h
 obtain⟨hs,q⟩:=h
 cases x with
 |non=>
  cases rx
  cases y with
  |non=>cases ry;exact PySem.EqNone.eq_none_none (zbe I q (by simp))
  |bl j=>cases ry;exact PySem.EqNone.eq_none_bool (zbe I q (by simp))
  |int j=>obtain⟨t',rfl⟩:=ry;exact PySem.EqNone.eq_none_int (zbe I q (by simp))
  |str j=>obtain⟨t',rfl⟩:=ry;exact PySem.EqNone.eq_none_str (zbe I q (by simp))
  |_=>exact absurd (show false=true from hs) Bool.false_ne_true
 |bl i=>
  cases rx
  cases y with
  |non=>cases ry;exact PySem.EqNone.eq_bool_none (zbe I q (by simp))
  |bl j=>cases ry;exact eq_bool (zbe I q dec_bl)
  |str j=>obtain⟨t',rfl⟩:=ry;exact PySem.EqMixed.eq_bool_str (zbe I q (by simp))
  |_=>exact absurd (show false=true from hs) Bool.false_ne_true
 |int i=>
  obtain⟨t,rfl⟩:=rx
  cases y with
  |non=>cases ry;exact PySem.EqNone.eq_int_none (zbe I q (by simp))
  |int j=>obtain⟨t',rfl⟩:=ry;exact eq_int (zbe I q dec_int)
  |str j=>obtain⟨t',rfl⟩:=ry;exact PySem.EqMixed.eq_int_str (zbe I q (by simp))
  |_=>exact absurd (show false=true from hs) Bool.false_ne_true
 |str i=>
  obtain⟨t,rfl⟩:=rx
  cases y with
  |non=>cases ry;exact PySem.EqNone.eq_str_none (zbe I q (by simp))
  |bl j=>cases ry;exact PySem.EqMixed.eq_str_bool (zbe I q (by simp))
  |int j=>obtain⟨t',rfl⟩:=ry;exact PySem.EqMixed.eq_str_int (zbe I q (by simp))
  |str j=>obtain⟨t',rfl⟩:=ry;exact eq_str (zbe I q dec_str)
  |_=>exact absurd (show false=true from hs) Bool.false_ne_true
 |byt i=>
  obtain⟨t,rfl⟩:=rx
  cases y with
  |byt j=>obtain⟨t',rfl⟩:=ry;exact PySem.W.eq_bytes (zbe I q dec_byt)
  |_=>exact absurd (show false=true from hs) Bool.false_ne_true
 |_=>cases y<;>exact absurd (show false=true from hs) Bool.false_ne_true
theorem op_ne:OpR X (compareOp .NotEq) rNe:=by
 intro pins s σ H x y v u Q I rx ry h
 obtain⟨hs,q⟩:=h
 cases x with
 |non=>
  cases rx
  cases y with
  |non=>cases ry;exact PySem.EqNone.ne_none_none (zbe I q (by simp))
  |bl j=>cases ry;exact PySem.EqNone.ne_none_bool (zbe I q (by simp))
  |int j=>obtain⟨t',rfl⟩:=ry;exact PySem.EqNone.ne_none_int (zbe I q (by simp))
  |str j=>obtain⟨t',rfl⟩:=ry;exact PySem.EqNone.ne_none_str (zbe I q (by simp))
  |_=>exact absurd (show false=true from hs) Bool.false_ne_true
 |bl i=>
  cases rx
  cases y with
  |non=>cases ry;exact PySem.EqNone.ne_bool_none (zbe I q (by simp))
  |bl j=>cases ry;exact ne_bool (zbe I q (congrArg not dec_bl))
  |str j=>obtain⟨t',rfl⟩:=ry;exact PySem.EqMixed.ne_bool_str (zbe I q (by simp))
  |_=>exact absurd (show false=true from hs) Bool.false_ne_true
 |int i=>
  obtain⟨t,rfl⟩:=rx
  cases y with
  |non=>cases ry;exact PySem.EqNone.ne_int_none (zbe I q (by simp))
  |int j=>obtain⟨t',rfl⟩:=ry;exact ne_int (zbe I q (congrArg not dec_int))
  |str j=>obtain⟨t',rfl⟩:=ry;exact PySem.EqMixed.ne_int_str (zbe I q (by simp))
  |_=>exact absurd (show false=true from hs) Bool.false_ne_true
 |str i=>
  obtain⟨t,rfl⟩:=rx
  cases y with
  |non=>cases ry;exact PySem.EqNone.ne_str_none (zbe I q (by simp))
  |bl j=>cases ry;exact PySem.EqMixed.ne_str_bool (zbe I q (by simp))
  |int j=>obtain⟨t',rfl⟩:=ry;exact PySem.EqMixed.ne_str_int (zbe I q (by simp))
  |str j=>obtain⟨t',rfl⟩:=ry;exact ne_str (zbe I q (congrArg not dec_str))
  |_=>exact absurd (show false=true from hs) Bool.false_ne_true
 |byt i=>
  obtain⟨t,rfl⟩:=rx
  cases y with
  |byt j=>obtain⟨t',rfl⟩:=ry;exact PySem.W.ne_bytes (zbe I q (congrArg not dec_byt))
  |_=>exact absurd (show false=true from hs) Bool.false_ne_true
 |_=>cases y<;>exact absurd (show false=true from hs) Bool.false_ne_true
theorem op_lt:OpR X (compareOp .Lt) (rI0 fun i j=> .bl (decide (i<j))):=opB0 fun _ _ _ _ _ _ _ q=>lt_int q
theorem op_le:OpR X (compareOp .LtE) (rI0 fun i j=> .bl (decide (i<=j))):=opB0 fun _ _ _ _ _ _ _ q=>le_int q
theorem op_gt:OpR X (compareOp .Gt) (rI0 fun i j=> .bl (decide (j<i))):=opB0 fun _ _ _ _ _ _ _ q=>gt_int q
theorem op_ge:OpR X (compareOp .GtE) (rI0 fun i j=> .bl (decide (j<=i))):=opB0 fun _ _ _ _ _ _ _ q=>ge_int q
theorem OpR.or{f:Value->Value->Sem Value}{r r':R2}(h:OpR X f r)(h':OpR X f r'):OpR X f (fun x y H Q=>r x y H Q\/r' x y H Q):=by
 intro pins s σ H x y v u Q I rx ry q
 rcases q with q|q
 ·exact h pins s σ H x y v u Q I rx ry q
 ·exact h' pins s σ H x y v u Q I rx ry q
theorem nomark(b:Expr){op:CmpOp}(h:op≠.In:=by decide)(h2:op≠.NotIn:=by decide):behindInMarks op b=false:=by
 have e1:(op==CmpOp.In)=false:=by cases op<;>first |rfl|exact absurd rfl h
 have e2:(op==CmpOp.NotIn)=false:=by cases op<;>first |rfl|exact absurd rfl h2
 cases b<;>simp[behindInMarks,e1,e2]
theorem zct{op:CmpOp}{r:R2}(ho:OpR X (compareOp op) r)(ha:PE X a ta)(hb:PE X b tb)(hm:behindInMarks op b=false):PE X (.Compare a [op] [b] pos) (tOp r ta tb):=by
 intro pins s σ H Q I h
 exact wpAny_Compare1 (binT ha hb I h fun v u s2 x y H2 I2 rx ry q=>ho pins s2 σ H2 x y v u Q I2 rx ry q) hm
noncomputable def tTest(t:TE):TT:=fun σ H Q=>t σ H fun x H'=>∃k,x= .bl k/\Q k H'
theorem zbf{op:CmpOp}{r:R2}(ho:OpR X (compareOp op) r)(ha:PE X a ta)(hb:PE X b tb)(hm:behindInMarks op b=false):PT X (.Compare a [op] [b] pos) (tTest (tOp r ta tb)):=by
 intro pins s σ H Q I h
 refine wpAny_isTrue_Compare1 (thn (ha pins s σ H _ I h) fun v s1 ⟨x,H1,I1,r1,q1⟩=>thn (hb pins s1 σ H1 _ I1 q1) fun u s2 ⟨y,H2,I2,r2,q2⟩=>
  thn (ho pins s2 σ H2 x y v u _ I2 r1 r2 q2) fun c s3 ⟨z,H3,I3,r3,k,e,q3⟩=> ?_) hm
 subst e
 cases r3
 exact wpAny_truthy_bool ⟨H3,I3,q3⟩
noncomputable def tChain(r r':R2)(ta tb tc:TE):TE:=fun σ H Q=>ta σ H fun x H1=>tb σ H1 fun y H2=>r x y H2 fun z H3=>∃k,z= .bl k/\
 (if k=true then tc σ H3 fun w' H4=>r' y w' H4 Q else Q (.bl false) H3)
theorem pe_chain{op op':CmpOp}{r r':R2}(ho:OpR X (compareOp op) r)(ho':OpR X (compareOp op') r')(ha:PE X a ta)(hb:PE X b tb)(hc:PE X c tc)(hm:lastMarks [op,op'] [b,c]=false:=by with_unfolding_all rfl):PE X (.Compare a [op,op'] [b,c] pos) (tChain r r' ta tb tc):=by
 intro pins s σ H Q I h
 refine Compare_chain (thn (ha pins s σ H _ I h) fun v s1 ⟨x,H1,I1,r1,q1⟩=>chain_link (thn (hb pins s1 σ H1 _ I1 q1) fun u s2 ⟨y,H2,I2,r2,q2⟩=>
  thn (ho pins s2 σ H2 x y v u _ I2 r1 r2 q2) fun d s3 ⟨z,H3,I3,r3,k,e,q3⟩=> ?_)) hm
 subst e
 cases r3
 refine wpAny_truthy_bool ?_
 cases k with
 |false=>exact ite_ff ⟨.bl false,H3,I3,rfl,q3⟩
 |true=>exact ite_tt (chain_last (thn (hc pins s3 σ H3 _ I3 q3) fun w' s4 ⟨z',H4,I4,r4,q4⟩=>ho' pins s4 σ H4 y z' u w' Q I4 r2 r4 q4))
noncomputable def TruV(K:W.Frag)(x:V)(H:Hp)(k:Bool):Prop:=
 match x with
 | .non=>k=false
 | .bl b=>k=b
 | .int i=>k=(i !=0)
 | .str y=>y.length<=sizeLine/\k=((y.length:Int) !=0)
 | .byt y=>y.size<=sizeLine/\k=((y.size:Int) !=0)
 | .ref p=>(∃xs,SqL K H p xs/\k= !xs.isEmpty)\/(∃xs,SqT K H p xs/\k= !xs.isEmpty)\/∃kvs,H p=some (.dK kvs)/\k= !kvs.isEmpty
 |_=>False
theorem isEmpty_kv{κ:Type}{kvs:List (κ×V)}{vs:List (κ×Value)}(r:KV kvs vs):(!vs.isEmpty)= !kvs.isEmpty:=by
 cases r<;>rfl
theorem isEmpty_of{xs:List V}{its:List Value}(r:Vals xs its):(!its.toArray.isEmpty)= !xs.isEmpty:=by
 cases r<;>simp
theorem line63:(sizeLine:Nat)<2^63:=by rw[sizeLine_eq];decide
theorem tru_ok:TruR X (fun x H Q=>∃k,TruV X.K x H k/\Q k H):=by
 intro pins s σ H x v Q I rx h
 obtain⟨k,e,q⟩:=h
 have hl:=line63
 have hs:sizeLine=16777216:=sizeLine_eq
 cases x with
 |non=>
  cases rx
  have e':k=false:=e
  subst e'
  exact truthy_none ⟨H,I,q⟩
 |bl b=>
  cases rx
  have e':k=b:=e
  subst e'
  exact wpAny_truthy_bool ⟨H,I,q⟩
 |int i=>
  obtain⟨t,rfl⟩:=rx
  have e':k=(i !=0):=e
  subst e'
  exact PySem.P.truthy_int ⟨H,I,q⟩
 |str y=>
  obtain⟨t,rfl⟩:=rx
  obtain⟨hy,e'⟩:y.length<=sizeLine/\k=((y.length:Int) !=0):=e
  subst e'
  exact PySem.P.truthy_str (by omega) ⟨H,I.tok _,q⟩
 |byt y=>
  obtain⟨t,rfl⟩:=rx
  obtain⟨hy,e'⟩:y.size<=sizeLine/\k=((y.size:Int) !=0):=e
  subst e'
  exact PySem.W.truthy_bytes (by omega) ⟨H,I.tok _,q⟩
 |ref p=>
  cases rx
  have e':(∃xs,SqL X.K H p xs/\k= !xs.isEmpty)\/(∃xs,SqT X.K H p xs/\k= !xs.isEmpty)\/∃kvs,H p=some (.dK kvs)/\k= !kvs.isEmpty:=e
  rcases e' with⟨xs,hx,e'⟩|⟨xs,hx,e'⟩|⟨kvs,hx,e'⟩
  ·subst e'
   obtain⟨its,r,pl,hz⟩:=I.list hx
   have hlen:=r.length
   exact wpAny_truthy_list pl.isList (by simp only[List.size_toArray];omega) ⟨H,I.tok _,by rw[isEmpty_of r];exact q⟩
  ·subst e'
   obtain⟨its,r,pl,hz⟩:=I.tuple hx
   have hlen:=r.length
   exact truthy_tuple pl (by simp only[List.size_toArray];omega) ⟨H,I.tok _,by rw[isEmpty_of r];exact q⟩
  ·subst e'
   obtain⟨hz,hS,vs,r,m⟩:kvs.length<=sizeLine/\(p==sysModules)=false/\∃vs,KV kvs vs/\s.heap.DictOf (mixKind X.prog X.w) p vs:=I.hok p _ hx
   have hlen:kvs.length=vs.length:=Paired.length r
   exact wpAny_truthy_dict hS m (by omega) ⟨H,I.tok _,by rw[isEmpty_kv r];exact q⟩
 |_=>exact(show False from e).elim
theorem pt_truth(ha:PE X a ta)(he:∀whole,isTrue a X.env whole=(do let v<-whole;standAt a.pos;holding [v] (truthy v))):
  PT X a (fun σ H Q=>ta σ H fun x H'=>∃k,TruV X.K x H' k/\Q k H'):=by
 intro pins s σ H Q I h
 exact isTrue_plain (thn (ha pins s σ H _ I h) fun v s1 ⟨x,H1,I1,r1,q1⟩=>tru_ok pins s1 σ H1 x v Q I1 r1 q1) (he _)
theorem vals1{x:V}{us:List Value}(r:Vals [x] us):∃u,us=[u]/\RelV x u:=by
 cases r with
 |cons r1 r2=>cases r2;exact⟨_,rfl,r1⟩
theorem vals2{x y:V}{us:List Value}(r:Vals [x,y] us):∃u w',us=[u,w']/\RelV x u/\RelV y w':=by
 cases r with
 |cons r1 r2=>
  cases r2 with
  |cons r3 r4=>cases r4;exact⟨_,_,rfl,r1,r3⟩
theorem call_max2(hc:X.calm=true):CallR X (.builtin "max") (fun xs H Q=>∃i j,xs=[.int i,.int j]/\Q (.int (if j>i then j else i)) H):=by
 intro pins s σ H xs us Q I r h
 obtain⟨i,j,rfl,q⟩:=h
 obtain⟨u,w',rfl,⟨t,rfl⟩,⟨t',rfl⟩⟩:=vals2 r
 refine max_two_ints (I.ok.hd hc) fun h' tk k=>⟨_,H,I.kept k,?_,q⟩
 by_cases hj:j>i
 ·rw[if_pos hj,if_pos hj];exact⟨_,rfl⟩
 ·rw[if_neg hj,if_neg hj];exact⟨_,rfl⟩
theorem call_min2(hc:X.calm=true):CallR X (.builtin "min") (fun xs H Q=>∃i j,xs=[.int i,.int j]/\Q (.int (if j<i then j else i)) H):=by
 intro pins s σ H xs us Q I r h
 obtain⟨i,j,rfl,q⟩:=h
 obtain⟨u,w',rfl,⟨t,rfl⟩,⟨t',rfl⟩⟩:=vals2 r
 refine min_two_ints (I.ok.hd hc) fun h' tk k=>⟨_,H,I.kept k,?_,q⟩
 by_cases hj:j<i
 ·rw[if_pos hj,if_pos hj];exact⟨_,rfl⟩
 ·rw[if_neg hj,if_neg hj];exact⟨_,rfl⟩
end
end L2
namespace L2
open PySem PySem.Spec PyProof.Rows
section
variable{prog:Program}{w:World}{A:Around}{E:Value->Shared->Prop}{s:Shared}{K:W.Frag}{x dx C f:Addr}{mA:Str->Option Value}{name:Str}{v:Value}
end
noncomputable def putF(f:Str)(v:V):List (Str×V)->List (Str×V)
 |[]=>[(f,v)]
 |(g,x)::r=>if g=f then(g,v)::r else(g,x)::putF f v r
theorem RelO.some_of{v:V}{o:Option Value}(r:RelO (some v) o):∃u,o=some u/\RelV v u:=by
 cases o with
 |none=>exact(show False from r).elim
 |some u=>exact⟨u,rfl,r⟩
section
variable{P:Program}{w:World}{H H':Hp}{h h':Heap}{a C dx:Addr}{fs fs':List (Str×V)}
end
structure Cls(K:W.Frag)(C:Addr):Prop where
 pg:PySem.W.plainGet K C Str.empty=true
 hd:PySem.W.hasDictIn K C=true
 po:PySem.W.plainOver K C=true
 sa:PySem.W.findIn K (.ref C) "__setattr__"=some (some (.builtin "object.__setattr__"))
theorem Cls.get{K:W.Frag}{C:Addr}(c:Cls K C)(f:Str):PySem.W.plainGet K C f=true:=c.pg
section
variable{X:Cx}{pins:List (Addr×Obj)}{σ:St}{H:Hp}{s:Shared}{a C dx:Addr}{fs:List (Str×V)}{f:Str}{v:V}{A:Around}{E:Value->Shared->Prop}
end
section
variable{X:Cx}{o e value:Expr}{f:Str}{pos pos' tpos:Pos}{ta tv:TE}
end
section
variable{X:Cx}{pins:List (Addr×Obj)}{σ:St}{H:Hp}{s:Shared}{A:Around}{E:Value->Shared->Prop}{Q:Value->Shared->Prop}{c:Value}{b:Bool}
end
end L2
namespace L2
open PySem PySem.Spec PyProof.Rows
structure Room(k:Nat)(A:Around):Prop where
 hd:A.handled=none
 dp:A.depth+3*k+5<recursionLimit
 un:A.units+16*k+200<cLine
 gd:A.guards=some []
theorem Room.mono{j k:Nat}{A:Around}(r:Room k A)(h:j<=k):Room j A:=⟨r.hd,by have:=r.dp;omega,by have:=r.un;omega,r.gd⟩
theorem Room.deeper{k:Nat}{A:Around}(r:Room (k+1) A)(env:Env):Room k (A.deeper env):=
 ⟨r.hd,by have:=r.dp;show A.depth+1+3*k+5<_;omega,by have:=r.un;show A.units+3+16*k+200<_;omega,r.gd⟩
theorem Room.in1{k:Nat}{A:Around}(r:Room (k+1) A):Room k A.in1:=
 ⟨r.hd,by have:=r.dp;show A.depth+3*k+5<_;omega,by have:=r.un;show A.units+1+16*k+200<_;omega,r.gd⟩
theorem Room.depth{k:Nat}{A:Around}(r:Room k A):A.depth<recursionLimit:=by have:=r.dp;omega
theorem Room.units{k:Nat}{A:Around}(r:Room k A):A.units+64<cLine:=by have:=r.un;omega
theorem Room.units0{k:Nat}{A:Around}(r:Room k A):A.units<cLine:=by have:=r.un;omega
noncomputable def tNil:TA:=fun _ H Q=>Q [] H
noncomputable def tCons(ta:TE)(tr:TA):TA:=fun σ H Q=>ta σ H fun x H1=>tr σ H1 fun xs H2=>Q (x::xs) H2
section
variable{X:Cx}{e:Expr}{es:List Expr}{te:TE}{t:TA}{pos:Pos}
theorem zac:PA X [] tNil:=fun _ _ _ _ H Q I h=>Calls.spliced_nil ⟨[],H,I,.nil,h⟩
theorem zaa(ha:PE X e te)(hr:PA X es t)(hs:starEach (e::es) X.env=(false,eval e X.env)::starEach es X.env:=by rfl):PA X (e::es) (tCons te t):=by
 intro pos pins s σ H Q I h
 rw[hs]
 show wpAny _ _ (spliced ((false,eval e X.env)::backTo pos (starEach es X.env))) _ _ s
 refine Calls.spliced_cons (thn (ha pins s σ H _ I h) fun u s1 ⟨x,H1,I1,r1,q1⟩=> ?_)
 exact thn (hr pos pins s1 σ H1 _ I1 q1) fun us s2 ⟨xs,H2,I2,r2,q2⟩=>⟨x::xs,H2,I2,.cons r1 r2,q2⟩
noncomputable def tTup(t:TA):TE:=fun σ H Q=>t σ H fun xs H1=>xs.length<=sizeLine/\∀p,H1 p=none->Q (.ref p) (upd H1 p (.tup xs))
noncomputable def tLst(t:TA):TE:=fun σ H Q=>t σ H fun xs H1=>xs.length<=sizeLine/\∀p,H1 p=none->Q (.ref p) (upd H1 p (.lst xs))
theorem zcg{x1}(h:PA X es t):PE X (.Tuple es x1 pos) (tTup t):=by
 intro pins s σ H Q I hq
 refine wpAny_Tuple_spliced (thn (h pos pins s σ H _ I hq) fun us s1 ⟨xs,H1,I1,r,z,q⟩=>⟨by rw[<-r.length];exact z,?_⟩)
 have hf:H1 s1.heap.objs.size=none:=I1.hok.fresh (Nat.le_refl _)
 refine⟨.ref s1.heap.objs.size,upd H1 s1.heap.objs.size (.tup xs),I1.laid (t':=s1.toks) (fun b u e=>Heap.get?_push_of_some _ e) (Nat.le_refl _) ?_,rfl,q _ hf⟩
 exact⟨z,us,r,⟨_,Heap.get?_push_size _ rfl,rfl,_,rfl⟩⟩
theorem zch(h:PA X es t):PE X (.List es pos) (tLst t):=by
 intro pins s σ H Q I hq
 refine wpAny_List_spliced (thn (h pos pins s σ H _ I hq) fun us s1 ⟨xs,H1,I1,r,z,q⟩=>⟨by rw[<-r.length];exact z,?_⟩)
 have hf:H1 s1.heap.objs.size=none:=I1.hok.fresh (Nat.le_refl _)
 refine⟨.ref s1.heap.objs.size,upd H1 s1.heap.objs.size (.lst xs),I1.laid (t':=s1.toks) (fun b u e=>Heap.get?_push_of_some _ e) (Nat.le_refl _) ?_,rfl,q _ hf⟩
 exact⟨z,us,0,r,Heap.get?_push_size _ rfl⟩
end
noncomputable abbrev Sp:=List V->Hp->VK->XK->Prop
noncomputable abbrev CXT:=List Env->Hp->Shared->XK->Value->Shared->Prop
structure Env0(P:Program)(w:World)(K:W.Frag)(mg:Str->Option Value)(base:Heap)(A:Around)(outer:List Env)(s:Shared)(H:Hp):Prop where
 frames:A.frames=some outer
 mod:Mod K mg base
 bs:∀b o,base.get? b=some o->s.heap.get? b=some o/\H b=none
 bsz:base.objs.size<=s.heap.objs.size
 funs:s.heap.FunFrames base outer
 frf:∀b∈frs outer,H b=none
 hok:HOk P w H s.heap
 bare:AllBare s.gens
noncomputable def CE(outer:List Env)(P:Program)(w:World)(H:Hp)(s:Shared)(Q:VK)(u:Value)(s':Shared):Prop:=
 ∃v H',s'.os=s.os/\AllBare s'.gens/\Un (frs outer) [] H H' s.heap s'.heap/\HOk P w H' s'.heap/\RelV v u/\Q v H'
noncomputable def CR(CX:CXT)(outer:List Env)(P:Program)(w:World)(H:Hp)(s:Shared)(Q:VK)(E:XK)(r:Result)(s':Shared):Prop:=
 match r with
 | .ok (.ret u)=>CE outer P w H s Q u s'
 | .ok _=>False
 | .error e=>CX outer H s E e s'
structure FnOk(P:Program)(w:World)(K:W.Frag)(mg:Str->Option Value)(base:Heap)(CX:CXT)(k:Nat)(f:Addr)(fd:FuncData)(ps:List Str)(sp:Sp):Prop where
 len:∀vs H Q E,sp vs H Q E->vs.length=ps.length
 run:∀(A:Around) (outer:List Env) (s:Shared) (H:Hp) (args:Args) (us:List Value) (vs:List V) (Q:VK) (E:XK),Room k A->Env0 P w K mg base A outer s H->BindsTo s fd args (ps.zip us)->Vals vs us->sp vs H Q E->
  codeAny (model P w) A (.call (.ref f) args) (CR CX outer P w H s Q E) s
theorem FnOk.mono{P:Program}{w:World}{K:W.Frag}{mg:Str->Option Value}{base:Heap}{CX:CXT}{j k:Nat}{f:Addr}{fd:FuncData}{ps:List Str}{sp:Sp}(F:FnOk P w K mg base CX j f fd ps sp)(h:j<=k):
  FnOk P w K mg base CX k f fd ps sp:=⟨F.len,fun A outer s H args us vs Q E hr=>F.run A outer s H args us vs Q E (hr.mono h)⟩
theorem FnOk.imp{P:Program}{w:World}{K:W.Frag}{mg:Str->Option Value}{base:Heap}{CX:CXT}{k:Nat}{f:Addr}{fd:FuncData}{ps:List Str}{sp sp':Sp}(F:FnOk P w K mg base CX k f fd ps sp)(h:∀vs H Q E,sp' vs H Q E->sp vs H Q E):FnOk P w K mg base CX k f fd ps sp':=
 ⟨fun vs H Q E q=>F.len vs H Q E (h _ _ _ _ q),fun A outer s H args us vs Q E hr he hb hv hs=>F.run A outer s H args us vs Q E hr he hb hv (h _ _ _ _ hs)⟩
theorem Env0.in1{P:Program}{w:World}{K:W.Frag}{mg:Str->Option Value}{base:Heap}{A:Around}{outer:List Env}{s:Shared}{H:Hp}(e:Env0 P w K mg base A outer s H):
  Env0 P w K mg base A.in1 outer s H:=⟨e.frames,e.mod,e.bs,e.bsz,e.funs,e.frf,e.hok,e.bare⟩
section
variable{X:Cx}{pins:List (Addr×Obj)}{σ:St}{H:Hp}{s s':Shared}
theorem Inv.env0(I:Inv X pins σ H s):Env0 X.prog X.w X.K X.mg X.base X.A X.stack s H:=
 ⟨I.ok.frames,I.ok.mod,I.bs,Nat.le_trans I.ok.bsz I.sz,I.stack,I.stkFree,I.hok,I.bare⟩
theorem Inv.after{Q:VK}{u:Value}(I:Inv X pins σ H s)(h:CE X.stack X.prog X.w H s Q u s'):EP X pins σ Q u s':=by
 obtain⟨v,H',os,bare,un,hok,r,q⟩:=h
 obtain⟨hh,g,d,t,os'⟩:=s'
 obtain rfl:os'=s.os:=os
 exact⟨v,H',I.call (h':=hh) (g':=g) (d':=d) (t':=t) (ch:=[]) un hok bare (fun b z=>absurd z (by simp)),r,q⟩
end
noncomputable def tCall(sp:Sp)(dvs:List V)(E:XK)(t:TA):TE:=fun σ H Q=>t σ H fun vs H1=>sp (vs++dvs) H1 Q E
noncomputable def Binds(K:W.Frag)(fd:FuncData)(ps:List Str)(ds:List Value):Prop:=
 ∀(s:Shared) (us:List Value),K.In s.heap->(us++ds).length=ps.length->BindsTo s fd ⟨us,[]⟩ (ps.zip (us++ds))
theorem Binds.all{K:W.Frag}{fd:FuncData}{ps:List Str}(h:∀us:List Value,us.length=ps.length->bindArgs fd ⟨us,[]⟩=pure (ps.zip us)):Binds K fd ps []:=fun s us _ hl=>by
 rw[List.append_nil]at hl⊢
 exact .of_eq (h us hl)
noncomputable def Passes(CX:CXT)(X:Cx)(E:XK):Prop:=∀(pins:List (Addr×Obj)) (σ:St) (H:Hp) (s:Shared) (e:Value) (s':Shared),Inv X pins σ H s->CX X.stack H s E e s'->X.xe e s'
section
variable{X:Cx}{CX:CXT}{k:Nat}{f C:Addr}{fd:FuncData}{ps:List Str}{sp:Sp}{dvs:List V}{ds:List Value}{E:XK}{x m:Str}{p pos apos:Pos}{e o:Expr}{es:List Expr}{ta:TE}{t:TA}
theorem run_fn{pins:List (Addr×Obj)}{σ:St}{H:Hp}{s:Shared}{Q:VK}{us:List Value}{vs:List V}(F:FnOk X.prog X.w X.K X.mg X.base CX k f fd ps sp)(hr:Room k X.A)(hb:Binds X.K fd ps ds)(hd:Vals dvs ds)(hx:Passes CX X E)
  (I:Inv X pins σ H s)(r:Vals vs us)(h:sp (vs++dvs) H Q E):wpAny (model X.prog X.w) X.A (call (.ref f) us) (EP X pins σ Q) X.xe s:=by
 have r2:Vals (vs++dvs) (us++ds):=r.append hd
 have hl:(us++ds).length=ps.length:=by rw[<-r2.length];exact F.len _ _ _ _ h
 refine wpAny_call (codeAny_mono (F.run X.A X.stack s H ⟨us,[]⟩ (us++ds) (vs++dvs) Q E hr I.env0 (hb s us I.kIn hl) r2 h) fun r s' hq=> ?_)
 cases r with
 |error e=>exact hx pins σ H s e s' I hq
 |ok fl=>
  cases fl with
  |ret u=>exact I.after hq
  |next=>exact False.elim hq
  |brk=>exact False.elim hq
  |cont=>exact False.elim hq
theorem zaj(F:FnOk X.prog X.w X.K X.mg X.base CX k f fd ps sp)(hr:Room k X.A)(hg:Gl X x)(hm:X.mg x=some (.ref f))(hk:PySem.W.keepIn X.K (.ref f)=true)(hb:Binds X.K fd ps ds)(hd:Vals dvs ds)(hx:Passes CX X E)(ha:PA X (e::es) t)(hdb:(x==("__debug__":Str))=false:=by decide)(he:starEach (e::es) X.env=(false,eval e X.env)::starEach es X.env:=by rfl)(hpl:(backTo pos (starEach es X.env)).any (·.1)=false:=by rfl):
  PE X (.Call (.Name x p) (e::es) [] pos) (tCall sp dvs E t):=by
 intro pins s σ H Q I h
 refine wpAny_Call_Name_kw (ld_glob I hg hm ?_ hdb)
 refine PySem.W.callWith_K (h₀:=X.base) I.ok.mod.kin hk (thn (ha pos pins s σ H _ I h) fun us s1 ⟨vs,H1,I1,r,q⟩=>⟨I1.kIn,?_⟩) he hpl
 exact run_fn F hr hb hd hx I1 r q
end
section
variable{X:Cx}{CX:CXT}{k:Nat}{f C:Addr}{fd:FuncData}{ps ks:List Str}{sp:Sp}{E:XK}{x m:Str}{p pos apos kpos:Pos}{e o:Expr}{es:List Expr}{kws:List Keyword}{te ta:TE}{t tk:TA}{nm:Option Str}
variable{g:List Value->List Value->List Value}{gV:List V->List V->List V}
end
structure FnScope(N P:List Str)(sc:Scope):Prop where
 kind:sc.kind= .function
 co:sc.isCoroutine=false
 gen:sc.isGenerator=false
 nd:N.Nodup
 pre:N.take P.length=P
 par:∀x∈P,sc.names.lookup x=some .local\/sc.names.lookup x=some .cell
 nofree:∀y∈sc.names,y.2≠.free
theorem bindL_out{kindOf:Str->Option NameKind}{x:Str}:∀{binds:List (Str×Value)} {m:Str->Option Value},(∀v,(x,v)∉binds)->bindL kindOf binds m x=m x
 |[],_,_=>rfl
 |(n,v)::r,m,h=>by
  unfold bindL
  rw[bindL_out fun w hw=>h w (List.mem_cons_of_mem _ hw)]
  split
  ·have:x≠n:=by rintro rfl;exact h v List.mem_cons_self
   simp[this]
  ·rfl
theorem bindC_out{kindOf:Str->Option NameKind}{x:Str}:∀{binds:List (Str×Value)} {m:Str->Option Value},(∀v,(x,v)∉binds)->bindC kindOf binds m x=m x
 |[],_,_=>rfl
 |(n,v)::r,m,h=>by
  unfold bindC
  rw[bindC_out fun w hw=>h w (List.mem_cons_of_mem _ hw)]
  split
  ·rfl
  ·have:x≠n:=by rintro rfl;exact h v List.mem_cons_self
   simp[this]
theorem bindL_get{kindOf:Str->Option NameKind}{x:Str}{v:Value}:∀{P:List Str} {vs:List Value} {i:Nat} {m:Str->Option Value},P.Nodup->P[i]? =some x->vs[i]? =some v->kindOf x=some .local->
  bindL kindOf (P.zip vs) m x=some v
 |[],_,_,_,_,h,_,_=>by simp at h
 |_::_,[],_,_,_,_,h,_=>by simp at h
 |p::P,w::vs,0,m,nd,h1,h2,hk=>by
  simp at h1 h2;subst h1;subst h2
  show bindL kindOf ((p,w)::P.zip vs) m p=_
  unfold bindL
  rw[bindL_out fun v hv=>(List.nodup_cons.mp nd).1 (List.of_mem_zip hv).1,if_pos hk]
  simp
 |p::P,w::vs,i+1,m,nd,h1,h2,hk=>by
  show bindL kindOf ((p,w)::P.zip vs) m x=_
  unfold bindL
  exact bindL_get (i:=i) (List.nodup_cons.mp nd).2 (by simpa using h1) (by simpa using h2) hk
theorem bindC_get{kindOf:Str->Option NameKind}{x:Str}{v:Value}:∀{P:List Str} {vs:List Value} {i:Nat} {m:Str->Option Value},P.Nodup->P[i]? =some x->vs[i]? =some v->kindOf x≠some .local->
  bindC kindOf (P.zip vs) m x=some v
 |[],_,_,_,_,h,_,_=>by simp at h
 |_::_,[],_,_,_,_,h,_=>by simp at h
 |p::P,w::vs,0,m,nd,h1,h2,hk=>by
  simp at h1 h2;subst h1;subst h2
  show bindC kindOf ((p,w)::P.zip vs) m p=_
  unfold bindC
  rw[bindC_out fun v hv=>(List.nodup_cons.mp nd).1 (List.of_mem_zip hv).1,if_neg hk]
  simp
 |p::P,w::vs,i+1,m,nd,h1,h2,hk=>by
  show bindC kindOf ((p,w)::P.zip vs) m x=_
  unfold bindC
  exact bindC_get (i:=i) (List.nodup_cons.mp nd).2 (by simpa using h1) (by simpa using h2) hk
noncomputable def start(N:List Str)(vs:List V):St:=vs.map some++List.replicate (N.length-vs.length) none
noncomputable def cxOf(CX:CXT)(P:Program)(w:World)(K:W.Frag)(mg:Str->Option Value)(base:Heap)(N:List Str)(qual:Str)(scope:Scope)(f:Addr)(cd:Value)(A:Around)(outer:List Env)(s:Shared)(H:Hp)(E:XK):Cx where
 prog:=P
 w:=w
 K:=K
 mg:=mg
 base:=base
 A:=A.deeper (envOfC qual scope s.heap.objs.size f cd)
 N:=N
 s₀:=s
 H₀:=H
 env:=envOfC qual scope s.heap.objs.size f cd
 outer:=outer
 stack:=envOfC qual scope s.heap.objs.size f cd::outer
 ex:=[]
 calm:=true
 fn:=fun _=>true
 pn:=[]
 xe:=fun e s'=>wpAny (model P w) (A.deeper (envOfC qual scope s.heap.objs.size f cd)) (leaving (envOfC qual scope s.heap.objs.size f cd) e) (fun _ s''=>CX outer H s E e s'') (fun e' s''=>CX outer H s E e' s'') s'
theorem cell_has{sc:Scope}{n:Nat}{x:Str}(h:sc.names.lookup x=some .cell):∃c,(cellsFrom n sc.names []).lookup x=some c:=by
 have q:=PySem.W.cellsFrom_some sc.names n [] (.inl h)
 exact Option.isSome_iff_exists.mp q
theorem inv_start{CX:CXT}{P:Program}{w:World}{K:W.Frag}{mg:Str->Option Value}{base:Heap}{N ps:List Str}{qual:Str}{scope:Scope}{f:Addr}{cd:Value}{A:Around}{outer:List Env}{s s1:Shared}{H:Hp}{E:XK}{us:List Value}{vs:List V}
  (S:FnScope N ps scope)(hd:A.handled=none)(e0:Env0 P w K mg base A outer s H)(hl:vs.length=ps.length)(r:Vals vs us)(x:InCallC s s.heap.objs.size (bindL (envOfC qual scope s.heap.objs.size f cd).kindOf (ps.zip us) fun _=>none) (cellsFrom (s.heap.objs.size+1) scope.names []) (bindC (envOfC qual scope s.heap.objs.size f cd).kindOf (ps.zip us) fun _=>none) s1):
  Inv (cxOf CX P w K mg base N qual scope f cd A outer s H E) [] (start N vs) H s1:=by
 have hpl:ps.length<=N.length:=by have:=congrArg List.length S.pre;rw[List.length_take]at this;omega
 obtain⟨h1,tk,rfl,hk⟩:=x.done
 have noA:∀b:Addr,b∉(cxOf CX P w K mg base N qual scope f cd A outer s H E).ex:=fun b z=>absurd (show b∈([]:List Addr)from z) (by simp)
 refine⟨⟨e0.mod,S.kind,rfl,rfl,Nat.le_refl _,fun y z c h1 h2=> ?_,fun y hy=> ?_,fun y c _ h=> ?_,fun _=>hd,Around.frames_deeper e0.frames,.inr ⟨rfl,rfl⟩,fun b z=>absurd z (noA b),e0.bs,e0.bsz,fun b _ _=>noA b,fun b z=>absurd z (noA b),e0.funs,e0.frf⟩,
  rfl,e0.bare,Un.kept hk,⟨_,x.toInCall.ns,fun i y v h1 h2 h3=> ?_⟩,fun y c h=>⟨_,x.cell y c h⟩,e0.hok.fresh (Nat.le_refl _),fun y c h=> ?_,fun p hp=>absurd (show p∈([]:List (Addr×Obj))from hp) (by simp),e0.hok.kept hk,?_⟩
 ·exact name_of_addr x.apart (PySem.mem_of_lookup h1) (PySem.mem_of_lookup h2)
 ·have hy:scope.names.lookup y=some .cell\/scope.names.lookup y=some .free:=hy
  rcases hy with hy|hy
  ·exact cell_has hy
  ·exact absurd rfl (S.nofree _ (PySem.mem_of_lookup hy))
 ·exact Nat.le_of_lt (x.above y c (PySem.mem_of_lookup h))
 ·have hi:i<vs.length:=by
   unfold start at h2
   by_cases hi:i<vs.length
   ·exact hi
   ·rw[List.getElem?_append_right (by simpa using hi)]at h2
    rw[List.getElem?_replicate]at h2
    split at h2<;>cases h2
  have ha:vs[i]? =some v:=by
   unfold start at h2
   rw[List.getElem?_append_left (by simpa using hi),List.getElem?_map]at h2
   cases e:vs[i]? with
   |none=>rw[e]at h2;cases h2
   |some a=>rw[e]at h2;cases h2;rfl
  obtain⟨u,hu,rv⟩:=r.get ha
  have hp:ps[i]? =some y:=by
   rw[<-S.pre,List.getElem?_take_of_lt (by omega)];exact h1
  have ndP:ps.Nodup:=by rw[<-S.pre];exact S.nd.sublist (List.take_sublist _ _)
  refine⟨u,rv,?_⟩
  rcases S.par y (List.mem_of_getElem? hp)with k|k
  ·exact .inl ⟨k,bindL_get ndP hp hu k⟩
  ·obtain⟨c,e⟩:=cell_has (n:=s.heap.objs.size+1) k
   refine .inr ⟨.inl k,c,e,?_⟩
   have q:=x.cell y c e
   rw[bindC_get ndP hp hu (by show scope.names.lookup y≠_;rw[k];decide)]at q
   exact q
 ·exact e0.hok.fresh (Nat.le_of_lt (x.above y c (PySem.mem_of_lookup h)))
 ·unfold start
  show _=N.length
  rw[List.length_append,List.length_map,List.length_replicate]
  omega
theorem fn_of{CX:CXT}{P:Program}{w:World}{K:W.Frag}{mg:Str->Option Value}{base:Heap}{k:Nat}{f:Addr}{name qual:Str}{params:Arguments}{body:List Stmt}{scope:Scope}{dV kV doc pm cdv ct oc:Value}{an od:Option Addr}{osl:Array (Option Value)}{N ps:List Str}{sp:Sp}(lk:K.lookup f=some ⟨oc,od,.func (PySem.W.fnOf name qual params body scope dV kV doc pm an cdv ct),osl⟩)(hcd:PySem.W.codeIn K cdv qual=true)(S:FnScope N ps scope)(len:∀vs H Q E,sp vs H Q E->vs.length=ps.length)(hbody:∀(A:Around) (outer:List Env) (s:Shared) (H:Hp) (vs:List V) (Q:VK) (E:XK),Room k (A.deeper (envOfC qual scope s.heap.objs.size f cdv))->sp vs H Q E->
   ∃t,PSs (cxOf CX P w K mg base N qual scope f cdv A outer s H E) body t/\t {nx:=fun _ H'=>Q .non H',rt:=Q} (start N vs) H):
  FnOk P w K mg base CX (k+1) f (PySem.W.fnOf name qual params body scope dV kV doc pm an cdv ct) ps sp:=by
 refine⟨len,fun A outer s H args us vs Q E hr e0 hb r hsp=> ?_⟩
 have hl:=len _ _ _ _ hsp
 have KX:K.In s.heap:=e0.mod.kin.keeps fun b o e=>(e0.bs b o e).1
 have lim:s.heap.NoLimit:=e0.mod.nolimit.keeps fun b o e=>(e0.bs b o e).1
 have hkind:∀y∈ps.zip us,scope.names.lookup y.1=some .local\/(scope.names.lookup y.1=some .cell/\((cellsFrom (s.heap.objs.size+1) scope.names []).lookup y.1).isSome=true):=fun⟨n,v⟩ hy=>by
  rcases S.par n (List.of_mem_zip hy).1 with q|q
  ·exact .inl q
  ·exact .inr ⟨q,PySem.W.cellsFrom_some _ _ _ (.inl q)⟩
 refine codeAny_call_function hr.depth (KX _ _ lk) rfl S.co S.gen rfl (PySem.W.codeRec_of KX hcd) (hb _ _ _ _ ?_)
 refine wpAny_newFunctionEnv_cells S.kind hkind fun env he s1 x=> ?_
 subst he
 refine⟨lim.keeps x.toInCall.keep,codeAny_func ?_⟩
 obtain⟨t,ht,hq⟩:=hbody A outer s H vs Q E (hr.deeper _) hsp
 have I:Inv (cxOf CX P w K mg base N qual scope f cdv A outer s H E) [] (start N vs) H s1:=inv_start S hr.hd e0 hl r x
 refine wpAny_mono (ht [] s1 (start N vs) H _ I hq) (fun fl s' hs=> ?_) fun e s' hs=>hs
 have fin:∀{σ':St} {H':Hp} {v:V} {u:Value},Inv (cxOf CX P w K mg base N qual scope f cdv A outer s H E) [] σ' H' s'->RelV v u->Q v H'->CE outer P w H s Q u s':=
  fun{σ' H' v u} J rv q=>⟨v,H',J.os,J.bare,J.base,J.hok,rv,q⟩
 cases fl with
 |ret u=>
  obtain⟨v,σ',H',J,rv,q⟩:=hs
  exact fin J rv q
 |next=>
  obtain⟨σ',H',J,q⟩:=hs
  exact fin (v:=V.non) (u:=Value.none) J rfl q
 |brk=>
  obtain⟨_,_,_,q⟩:=hs
  exact False.elim q
 |cont=>
  obtain⟨_,_,_,q⟩:=hs
  exact False.elim q
end L2
namespace L2
open PySem PySem.Spec PyProof.Rows
section
variable{X:Cx}{x:Str}{p pos:Pos}{e:Expr}{es:List Expr}{t:TA}{id T:String}{r:List V->Hp->VK->Prop}
noncomputable def tCB(r:List V->Hp->VK->Prop)(t:TA):TE:=fun σ H Q=>t σ H fun vs H1=>r vs H1 Q
theorem zak(hc:CallR X (.builtin id) r)(hg:Gl X x)(hm:X.mg x=none)(hv:bootBuiltins x=some (.builtin id))(ha:PA X (e::es) t)(hn:x≠"__name__":=by decide)(hdb:(x==("__debug__":Str))=false:=by decide)(he:starEach (e::es) X.env=(false,eval e X.env)::starEach es X.env:=by rfl)(hpl:(backTo pos (starEach es X.env)).any (·.1)=false:=by rfl):PE X (.Call (.Name x p) (e::es) [] pos) (tCB r t):=by
 intro pins s σ H Q I h
 refine wpAny_Call_Name_kw (ld_blt I hg hm hv ?_ hn hdb)
 exact PyProof.Rows.callWith_builtin1 (thn (ha pos pins s σ H _ I h) fun us s1 ⟨vs,H1,I1,r1,q1⟩=>hc pins s1 σ H1 vs us Q I1 r1 q1) he hpl
theorem zbh(hc:CallR X (.type T) r)(hg:Gl X x)(hm:X.mg x=none)(hv:bootBuiltins x=some (.type T))(ha:PA X (e::es) t)(hn:x≠"__name__":=by decide)(hdb:(x==("__debug__":Str))=false:=by decide)(he:starEach (e::es) X.env=(false,eval e X.env)::starEach es X.env:=by rfl)(hpl:(backTo pos (starEach es X.env)).any (·.1)=false:=by rfl):PE X (.Call (.Name x p) (e::es) [] pos) (tCB r t):=by
 intro pins s σ H Q I h
 refine wpAny_Call_Name_kw (ld_blt I hg hm hv ?_ hn hdb)
 exact PyProof.Rows.callWith_type1 (thn (ha pos pins s σ H _ I h) fun us s1 ⟨vs,H1,I1,r1,q1⟩=>hc pins s1 σ H1 vs us Q I1 r1 q1) he hpl
end
end L2
namespace HT
open PySem PyProof.Rows
noncomputable def lexLt:List Int->List Int->Bool
 |[],[]=>false
 |[],_::_=>true
 |_::_,[]=>false
 |x::xs,y::ys=>if x=y then lexLt xs ys else decide (x<y)
theorem lexLt_cons(x y:Int)(xs ys:List Int):lexLt (x::xs) (y::ys)=if x=y then lexLt xs ys else decide (x<y):=rfl
theorem lexLt_nil_nil:lexLt [] []=false:=rfl
theorem lexLt_nil_cons(y:Int)(ys:List Int):lexLt [] (y::ys)=true:=rfl
theorem lexLt_cons_nil(x:Int)(xs:List Int):lexLt (x::xs) []=false:=rfl
theorem eqAt_int(A:Around)(s:Shared)(a:Int)(t:Tok)(c:Int)(u:Tok):∃e,SeqAt.EqAt A s (.int a t) (.int c u) e/\(e=true↔a=c):=
 ⟨(a==c),SeqAt.EqAt.int_int a t c u,by simp⟩
theorem rcLt_int(A:Around)(s:Shared)(a:Int)(t:Tok)(c:Int)(u:Tok)(prog:Program)(w:World)(E:Value->Shared->Prop)(Q:Value->Shared->Prop)(h:Q (.bool (decide (a<c))) s):
  wpAny (model prog w) A (richCompare .Lt (.int a t) (.int c u)) Q E s:=
 (PyProof.Rows.lt_int h:wpAny (model prog w) A (compareOp .Lt (.int a t) (.int c u)) Q E s)
section
open PySem.SeqAt
open PySem.AutoSeq1 (wpAny_loadPart')
open PySem.MeetsSeq PySem.MeetsSeq2 PySem.MeetsSeq3
theorem tuple_lt_ints(l b:Addr)(items items2:Array Value)(n n2:Nat)(dd dd2:Option Addr)(sl sl2:Array (Option Value))(ns ms:List Int)(hi:IntsAre items.toList ns)(hj:IntsAre items2.toList ms):
  Meets (Builtin.«tuple.__lt__» ⟨[.ref l,.ref b],[]⟩)
   (fun _ R s=>s.heap.get? l=some {cls:= .type "tuple",dict:=dd,data:= .seq items n,slots:=sl}/\s.heap.get? b=some {cls:= .type "tuple",dict:=dd2,data:= .seq items2 n2,slots:=sl2}/\
    R (.ok (.ret (.bool (lexLt ns ms)))) s):=
 .of_wp fun prog w A R s h=>by
  obtain⟨hp,g,d,tk,os⟩:=s;obtain⟨hl,hb,h⟩:=h
  have f2:=AutoSeq1.sub_tuple_tuple
  have z1:items.size=ns.length:=by rw[<-hi.length];simp
  have z2:items2.size=ms.length:=by rw[<-hj.length];simp
  wp_walk using wpAny_loadPart' hl,wpAny_loadPart' hb,wpAny_forIn_list _ (fun rest b s'=>b.1=none/\s'=⟨hp,g,d,tk,os⟩/\∃(vs ws:List Value) (ns' ms':List Int),rest=vs.zip ws/\
   IntsAre vs ns'/\IntsAre ws ms'/\ns'.length+items2.size=ms'.length+items.size/\R (.ok (.ret (.bool (lexLt ns' ms')))) ⟨hp,g,d,tk,os⟩) _
  case turn=>
   rintro⟨y,x⟩ rest b s' ⟨hb',rfl,vs,ws,ns',ms',hz,hvi,hwi,hlen,hR⟩
   cases hvi with
   |nil=>rw[List.zip_nil_left]at hz;cases hz
   |cons a t hvi'=>
    cases hwi with
    |nil=>rw[List.zip_nil_right]at hz;cases hz
    |cons c u hwi'=>
     rw[List.zip_cons_cons]at hz
     injection hz with hyx hrest
     injection hyx with hy hx
     subst hy hx
     rw[lexLt_cons]at hR
     simp only[List.length_cons]at hlen
     obtain⟨e,he,hiff⟩:=eqAt_int A.in1 ⟨hp,g,d,tk,os⟩ a t c u
     refine wpAny_bind (he prog w _ _ ?_)
     cases e with
     |true=>
      rw[if_pos (hiff.mp rfl)]at hR
      wp_walk
      exact⟨rfl,rfl,_,_,_,_,hrest,hvi',hwi',by omega,hR⟩
     |false=>
      rw[if_neg (fun q=>absurd (hiff.mpr q) Bool.false_ne_true)]at hR
      have hri:=rcLt_int A.in1 ⟨hp,g,d,tk,os⟩ a t c u prog w
      wp_walk using hri
      exact⟨_,rfl,by simpa using hR⟩
  case fin=>
   rintro⟨b1,b2⟩ s' ⟨hb',rfl,vs,ws,ns',ms',hz,hvi,hwi,hlen,hR⟩
   simp only at hb'
   subst hb'
   have hv:lexLt ns' ms'=decide (items.size<items2.size):=by
    cases hvi with
    |nil=>
     cases hwi with
     |nil=>
      simp only[List.length_nil]at hlen
      rw[lexLt_nil_nil]
      exact(decide_eq_false (by omega)).symm
     |cons c u hw=>
      simp only[List.length_nil,List.length_cons]at hlen
      rw[lexLt_nil_cons]
      exact(decide_eq_true (by omega)).symm
    |cons a t hv=>
     cases hwi with
     |nil=>
      simp only[List.length_nil,List.length_cons]at hlen
      rw[lexLt_cons_nil]
      exact(decide_eq_false (by omega)).symm
     |cons c u hw=>
      rw[List.zip_cons_cons]at hz
      cases hz
   rw[hv]at hR
   wp_walk
   exact⟨_,rfl,by simpa[Builtin.Tuple.tupleCompareSizes]using hR⟩
  case h=>
   exact⟨rfl,rfl,items.toList,items2.toList,ns,ms,rfl,hi,hj,by omega,h⟩
end
section
variable{prog:Program}{w:World}{A:Around}{E:Value->Shared->Prop}{s:Shared}
theorem lt_tupInts{l b:Addr}{items items2:Array Value}{ns ms:List Int}{Q:Value->Shared->Prop}(hl:IsTup s.heap l items)(hb:IsTup s.heap b items2)(hi:IntsAre items.toList ns)(hj:IntsAre items2.toList ms)(hu:A.units<cLine)(h:Q (.bool (lexLt ns ms)) s):wpAny (model prog w) A (compareOp .Lt (.ref l) (.ref b)) Q E s:=by
 obtain⟨⟨cls,dd,data,sl⟩,ho,hc,n,hd⟩:=id hl
 obtain⟨⟨cls2,dd2,data2,sl2⟩,ho2,hc2,n2,hd2⟩:=id hb
 simp only at hc hd hc2 hd2
 subst hc hd hc2 hd2
 exact richCompare_meets_room (op:= .Lt) ⟨_,ho,rfl⟩ ⟨_,ho2,rfl⟩ PySem.F.slot_tuple_lt PySem.F.entry_tuple_lt (PySem.F.args_tuple_lt_2 _ _) (tuple_lt_ints l b items items2 n n2 dd dd2 sl sl2 ns ms hi hj)
  ⟨ho,ho2,show Value.bool (lexLt ns ms)≠Value.notImplemented/\Q (.bool (lexLt ns ms)) s from⟨(fun x=>nomatch x),h⟩⟩ hu
theorem cat_tup{t b:Addr}{vs ws:List Value}{Q:Value->Shared->Prop}(ht:IsTup s.heap t vs.toArray)(hb:IsTup s.heap b ws.toArray)(hv:vs≠[])(h1:ws=[]->Q (.ref t) s)(h2:ws≠[]->Q (.ref s.heap.objs.size) {s with heap:=s.heap.push {cls:= .type "tuple",data:= .seq (vs++ws).toArray}})(hsz:vs.length+ws.length<=sizeLine):wpAny (model prog w) A (binaryOp .Add (.ref t) (.ref b)) Q E s:=by
 obtain⟨⟨cls,dd,data,sl⟩,ho,hc,n,hd⟩:=id ht
 obtain⟨⟨cls2,dd2,data2,sl2⟩,ho2,hc2,n2,hd2⟩:=id hb
 simp only at hc hd hc2 hd2
 subst hc hd hc2 hd2
 have e:vs.toArray++ws.toArray=(vs++ws).toArray:=by simp
 by_cases hw:ws=[]
 ·exact concat_meets ⟨_,ho,rfl⟩ ⟨_,ho2,rfl⟩ noFill_tuple_add seq_tuple_add PySem.F.slot_tuple_add PySem.F.entry_tuple_add (PySem.F.args_tuple_add_2 _ _)
   (tuple_addW1 t b vs.toArray ws.toArray n n2 dd dd2 sl sl2 (by simpa using hv) (by simp[hw])) ⟨ho,ho2,h1 hw⟩
 ·refine concat_meets ⟨_,ho,rfl⟩ ⟨_,ho2,rfl⟩ noFill_tuple_add seq_tuple_add PySem.F.slot_tuple_add PySem.F.entry_tuple_add (PySem.F.args_tuple_add_2 _ _)
   (tuple_addW2 t b vs.toArray ws.toArray n n2 dd dd2 sl sl2 (by simpa using hv) (by simpa using hw) (by rw[List.size_toArray,List.size_toArray];exact hsz)) ⟨ho,ho2,?_⟩
  rw[e]
  exact h2 hw
noncomputable def sIx(n d:Nat):Option Int->Nat
 |none=>d
 |some v=>if v<0 then(v+(n:Int)).toNat else min v.toNat n
theorem sIx_le(n d:Nat)(hd:d<=n)(o:Option Int):sIx n d o<=n:=by
 cases o with
 |none=>exact hd
 |some v=>
  show(if v<0 then(v+(n:Int)).toNat else min v.toNat n)<=n
  by_cases hv:v<0
  ·rw[if_pos hv];omega
  ·rw[if_neg hv];exact Nat.min_le_right _ _
theorem clip_eq(v:Int)(n d:Nat):(if v<0 then max (v+(n:Int)) 0 else min v (n:Int))=((sIx n d (some v):Nat):Int):=by
 show(if v<0 then max (v+(n:Int)) 0 else min v (n:Int))=(((if v<0 then(v+(n:Int)).toNat else min v.toNat n):Nat):Int)
 by_cases hv:v<0
 ·simp only[if_pos hv];omega
 ·simp only[if_neg hv];omega
theorem adjust_gen(lo hi:Option Int)(n:Nat):Builtin.Slice.sliceAdjust lo hi 1 (n:Int)=(((sIx n 0 lo:Nat):Int),((sIx n n hi:Nat):Int)):=by
 have h1:¬((1:Int)<0):=by omega
 unfold Builtin.Slice.sliceAdjust
 simp only[h1,if_false]
 refine Prod.ext ?_ ?_
 ·cases lo with
  |none=>rfl
  |some v=>exact clip_eq v n 0
 ·cases hi with
  |none=>rfl
  |some v=>exact clip_eq v n n
theorem places_gen(i j:Nat):Builtin.Slice.slicePlaces (i:Int) (j:Int) 1=j-i:=by
 unfold Builtin.Slice.slicePlaces
 have h1:(1:Int)>0:=by omega
 simp only[h1,if_true,Int.ediv_one]
 split<;>omega
theorem slicePart_{v:Value}{o:Option Int}{Q:Option Int->Shared->Prop}(p:IsPart v o)(h:Q o s):wpAny (model prog w) A (Builtin.Slice.slicePartIndex v) Q E s:=by
 cases p with
 |none=>exact slicePart_none h
 |int i t=>exact slicePart_int h
theorem sliceApplied_gen{sl:Addr}{vl vu:Value}{lo hi:Option Int}{n:Nat}{Q:Int×Int×Nat->Shared->Prop}(hs:s.heap.IsSliceOf sl vl vu .none)(pl:IsPart vl lo)(pu:IsPart vu hi)(h:Q (((sIx n 0 lo:Nat):Int),1,sIx n n hi-sIx n 0 lo) s):wpAny (model prog w) A (Builtin.Slice.sliceApplied (.ref sl) (pure (n:Int))) Q E s:=by
 obtain⟨os,hos,hcs,hds⟩:=id hs
 unfold Builtin.Slice.sliceApplied Builtin.Slice.sliceFields
 refine wpAny_bind (wpAny_bind (wpAny_field hos hds (x:=vl) rfl (wpAny_bind (wpAny_field hos hds (x:=vu) rfl (wpAny_bind (wpAny_field hos hds (x:= .none) rfl (wpAny_pure ?_)))))))
 refine wpAny_bind (slicePart_none ?_)
 show wpAny _ _ (if((1:Int)==0)=true then _ else _) _ _ s
 rw[if_neg (by decide)]
 refine wpAny_bind (slicePart_ pl (wpAny_bind (slicePart_ pu (wpAny_bind (wpAny_pure ?_)))))
 show wpAny _ _ (match Builtin.Slice.sliceAdjust lo hi 1 (n:Int)with |(lo,hi)=>pure (lo,(1:Int),Builtin.Slice.slicePlaces lo hi 1)) _ _ s
 rw[adjust_gen lo hi n]
 show wpAny _ _ (pure (((sIx n 0 lo:Nat):Int),(1:Int),Builtin.Slice.slicePlaces ((sIx n 0 lo:Nat):Int) ((sIx n n hi:Nat):Int) 1)) _ _ s
 rw[places_gen]
 exact wpAny_pure h
theorem pick_gen(xs:Array Value)(i k:Nat):((List.range k).filterMap fun(m:Nat)=>xs[((i:Int)+(m:Int)*1).toNat]?).toArray=((xs.toList.drop i).take k).toArray:=by
 have e:(fun(m:Nat)=>xs[((i:Int)+(m:Int)*1).toNat]?)=fun m=>xs[i+m]? :=by
  funext m
  have:((i:Int)+(m:Int)*1).toNat=i+m:=by omega
  rw[this]
 rw[e]
 have:=pick_run xs i k
 rw[List.filterMap_map]at this
 have e2:((fun x=>xs[x]?)∘fun x=>i+x)=fun m=>xs[i+m]? :=rfl
 rw[e2]at this
 rw[this]
theorem getItem_tuple_cut{t sl:Addr}{items:Array Value}{vl vu:Value}{lo hi:Option Int}{Q:Value->Shared->Prop}(ht:IsTup s.heap t items)(hs:s.heap.IsSliceOf sl vl vu .none)(pl:IsPart vl lo)(pu:IsPart vu hi)(hw:¬(sIx items.size 0 lo=0/\sIx items.size items.size hi=items.size))(h:Q (.ref s.heap.objs.size) {s with heap:=s.heap.push {cls:= .type "tuple",data:= .seq ((items.toList.drop (sIx items.size 0 lo)).take (sIx items.size items.size hi-sIx items.size 0 lo)).toArray}})(hsz:items.size<=sizeLine):wpAny (model prog w) A (getItem (.ref t) (.ref sl)) Q E s:=by
 have htake:sizeOk (.seq ((items.toList.drop (sIx items.size 0 lo)).take (sIx items.size items.size hi-sIx items.size 0 lo)).toArray):=by
  show((items.toList.drop (sIx items.size 0 lo)).take (sIx items.size items.size hi-sIx items.size 0 lo)).toArray.size<=sizeLine
  rw[List.size_toArray,List.length_take,List.length_drop,Array.length_toList]
  omega
 have hj:sIx items.size items.size hi<=items.size:=sIx_le _ _ (Nat.le_refl _) hi
 obtain⟨os,hos,hcs,hds⟩:=id hs
 have hTs:s.TypeIs (.ref sl) "slice":=⟨os,hos,hcs⟩
 unfold getItem
 try with_reducible refine wpAny_holding ?_
 first |refine wpAny_bind (wpAny_pure ?_)|skip
 refine wpAny_bind (wpAny_sequenceKey ht.typeIs (by decide) ?_)
 refine wpAny_bind (wpAny_callSpecial?_slot (name:=Str.ofString "__getitem__") ht.typeIs PyProof.Rows.slot_tuple_getitem
  (wpAny_call_entry PyProof.Rows.slot_tuple_getitem ht.typeIs entry_tuple_getitem ?_ (args_tuple_getitem _ _)))
 show wpAny _ _ (Builtin.Tuple.tupleItemsOf (.ref t)>>=_) _ _ s
 refine wpAny_bind (tupleItemsOf_ ht ?_)
 refine wpAny_bind (wpAny_typeOf hTs ?_)
 rw[if_pos (by decide)]
 refine wpAny_bind (sliceApplied_gen hs pl pu ?_)
 have hno:¬((((sIx items.size 0 lo:Nat):Int)==0&&(1:Int)==1&&(sIx items.size items.size hi-sIx items.size 0 lo)==items.size)=true):=by
  intro q
  rw[Bool.and_eq_true,Bool.and_eq_true]at q
  have q1:((sIx items.size 0 lo:Nat):Int)=0:=eq_of_beq q.1.1
  have q2:sIx items.size items.size hi-sIx items.size 0 lo=items.size:=eq_of_beq q.2
  exact hw ⟨by omega,by omega⟩
 show wpAny _ _ (if(((sIx items.size 0 lo:Nat):Int)==0&&(1:Int)==1&&(sIx items.size items.size hi-sIx items.size 0 lo)==items.size)=true then _ else _) _ _ s
 rw[if_neg hno,pick_gen]
 first
  |exact wpAny_bind (m:=Builtin.Tuple.tupleExact _) (wpAny_newObj_type (wpAny_pure ⟨_,rfl,wpAny_pure h⟩) htake)
  |exact wpAny_bind (m:=Builtin.Tuple.tupleExact _) (wpAny_newObj_type (wpAny_bind (wpAny_pure (wpAny_pure ⟨_,rfl,wpAny_pure h⟩))) htake)
  |exact wpAny_bind (wpAny_bind (m:=Builtin.Tuple.tupleExact _) (wpAny_newObj_type (wpAny_pure (wpAny_pure ⟨_,rfl,wpAny_pure h⟩)) htake))
  |exact wpAny_bind (wpAny_bind (m:=Builtin.Tuple.tupleExact _) (wpAny_newObj_type (wpAny_pure ⟨_,rfl,wpAny_pure h⟩) htake))
end
end HT
namespace L2
open PySem PySem.Spec PyProof.Rows
noncomputable abbrev TO:=St->Hp->(Option Int->Hp->Prop)->Prop
noncomputable def PO(X:Cx)(e:Option Expr)(t:TO):Prop:=
 ∀(pins:List (Addr×Obj)) (s:Shared) (σ:St) (H:Hp) (Q:Option Int->Hp->Prop),Inv X pins σ H s->t σ H Q->
  wpAny (model X.prog X.w) X.A (evalPart e X.env) (fun u s'=>∃o H',Inv X pins σ H' s'/\IsPart u o/\Q o H') X.xe s
noncomputable def tNoPart:TO:=fun _ H Q=>Q none H
noncomputable def tPart(t:TE):TO:=fun σ H Q=>t σ H fun x H1=>∃i,x= .int i/\Q (some i) H1
theorem intsAre_of{ns:List Int}:∀{us:List Value},Vals (ns.map V.int) us->IntsAre us ns:=by
 induction ns with
 |nil=>intro us r;rw[List.map_nil]at r;cases r;exact .nil
 |cons n ns ih=>
  intro us r
  rw[List.map_cons]at r
  cases r with
  |cons r1 r2=>
   obtain⟨t,e⟩:=r1
   subst e
   exact .cons n t (ih r2)
section
variable{X:Cx}{e:Expr}{te:TE}{lo hi:Option Expr}{tl th:TO}{pos p2:Pos}
theorem po_none:PO X none tNoPart:=by
 intro pins s σ H Q I h
 rw[evalPart_none]
 exact wpAny_pure ⟨none,H,I,.none,h⟩
theorem po_some(h:PE X e te):PO X (some e) (tPart te):=by
 intro pins s σ H Q I hw
 rw[evalPart_some]
 refine thn (h pins s σ H _ I hw) fun u s1 ⟨x,H1,I1,r1,q1⟩=> ?_
 obtain⟨i,rfl,q⟩:=q1
 obtain⟨t,rfl⟩:=r1
 exact⟨some i,H1,I1,.int i t,q⟩
noncomputable def SlR(X:Cx)(r:V->Option Int->Option Int->Hp->VK->Prop):Prop:=
 ∀(pins:List (Addr×Obj)) (s:Shared) (σ:St) (H:Hp) (x:V) (v vl vu:Value) (lo hi:Option Int) (sl:Addr) (Q:VK),Inv X pins σ H s->RelV x v->s.heap.IsSliceOf sl vl vu .none->IsPart vl lo->IsPart vu hi->r x lo hi H Q->
  ∃T id,typeLookup (.type T) "__getitem__"=pure (some (.builtin id))/\s.TypeIs v T/\wpAny (model X.prog X.w) X.A (getItem v (.ref sl)) (EP X pins σ Q) X.xe s
theorem SlR.or{r r':V->Option Int->Option Int->Hp->VK->Prop}(h:SlR X r)(h':SlR X r'):SlR X (fun x lo hi H Q=>r x lo hi H Q\/r' x lo hi H Q):=by
 intro pins s σ H x v vl vu lo hi sl Q I rx hs pl pu q
 rcases q with q|q
 ·exact h pins s σ H x v vl vu lo hi sl Q I rx hs pl pu q
 ·exact h' pins s σ H x v vl vu lo hi sl Q I rx hs pl pu q
noncomputable def tSl(r:V->Option Int->Option Int->Hp->VK->Prop)(te:TE)(tl th:TO):TE:=fun σ H Q=>te σ H fun x H1=>tl σ H1 fun l H2=>th σ H2 fun u H3=>r x l u H3 Q
theorem pe_slice{r:V->Option Int->Option Int->Hp->VK->Prop}(hr:SlR X r)(he:PE X e te)(hl:PO X lo tl)(hu:PO X hi th):PE X (.Subscript e (.Slice lo hi none p2) pos) (tSl r te tl th):=by
 intro pins s σ H Q I h
 refine Subscript_ (thn (he pins s σ H _ I h) fun v s1 ⟨x,H1,I1,r1,q1⟩=> ?_)
 refine wpAny_Slice (thn (hl pins s1 σ H1 _ I1 q1) fun vl s2 ⟨l,H2,I2,pl,q2⟩=>thn (hu pins s2 σ H2 _ I2 q2) fun vu s3 ⟨u,H3,I3,pu,q3⟩=> ?_)
 rw[evalPart_none]
 refine wpAny_pure ?_
 have I4:Inv X pins σ H3 {s3 with heap:=s3.heap.push {cls:= .type "slice",data:= .fields #[vl,vu,.none]}}:=I3.kept (t':=s3.toks) fun b ob q=>Heap.get?_push_of_some _ q
 obtain⟨T,id,hT,ht,hg⟩:=hr pins {s3 with heap:=s3.heap.push {cls:= .type "slice",data:= .fields #[vl,vu,.none]}} σ H3 x v vl vu l u s3.heap.objs.size Q I4 r1 (Heap.IsSliceOf.new ..) pl pu q3
 show wpAny (model X.prog X.w) X.A (subscriptTail e (.Slice lo hi none p2) v (.ref s3.heap.objs.size)) (EP X pins σ Q) X.xe {s3 with heap:=s3.heap.push {cls:= .type "slice",data:= .fields #[vl,vu,.none]}}
 exact tail_any (ops:=[.ref s3.heap.objs.size,v]) ht hT hg (by with_unfolding_all rfl)
noncomputable def cutV(xs:List V)(lo hi:Option Int):List V:=(xs.drop (HT.sIx xs.length 0 lo)).take (HT.sIx xs.length xs.length hi-HT.sIx xs.length 0 lo)
theorem cutV_length(xs:List V)(lo hi:Option Int):(cutV xs lo hi).length<=xs.length:=by
 unfold cutV
 rw[List.length_take,List.length_drop]
 omega
noncomputable def rSlT(K:W.Frag):V->Option Int->Option Int->Hp->VK->Prop:=fun x lo hi H Q=>∃a xs,x= .ref a/\SqT K H a xs/\
 ¬(HT.sIx xs.length 0 lo=0/\HT.sIx xs.length xs.length hi=xs.length)/\∀p,H p=none->Q (.ref p) (upd H p (.tup (cutV xs lo hi)))
theorem sl_tup:SlR X (rSlT X.K):=by
 intro pins s σ H x v vl vu lo hi sl Q I rx hs pl pu h
 obtain⟨a,xs,rfl,hx,hw,q⟩:=h
 cases rx
 obtain⟨its,r,ht,hz⟩:=I.tuple hx
 have hlen:its.toArray.size=xs.length:=by rw[List.size_toArray];exact r.length.symm
 refine⟨"tuple",_,PyProof.Rows.slot_tuple_getitem.lookup,ht.typeIs,?_⟩
 refine HT.getItem_tuple_cut ht hs pl pu (by rw[hlen];exact hw) ?_ (by rw[hlen];exact hz)
 rw[hlen]
 refine⟨.ref s.heap.objs.size,_,I.laid (t':=s.toks) (o:= .tup (cutV xs lo hi)) (fun b ob q=>Heap.get?_push_of_some _ q) (Nat.le_refl _) ?_,rfl,q _ (I.hok.fresh (Nat.le_refl _))⟩
 exact⟨Nat.le_trans (cutV_length xs lo hi) hz,_,(r.drop (HT.sIx xs.length 0 lo)).take (HT.sIx xs.length xs.length hi-HT.sIx xs.length 0 lo),IsTup.new _ _⟩
noncomputable def rLtT(K:W.Frag):R2:=fun x y H Q=>∃a b ns ms,x= .ref a/\y= .ref b/\SqT K H a (ns.map V.int)/\SqT K H b (ms.map V.int)/\Q (.bl (HT.lexLt ns ms)) H
theorem op_ltT(hu:X.A.units<cLine):OpR X (compareOp .Lt) (rLtT X.K):=by
 intro pins s σ H x y v u Q I rx ry h
 obtain⟨a,b,ns,ms,rfl,rfl,ha,hb,q⟩:=h
 cases rx
 cases ry
 obtain⟨its,r1,p1,_⟩:=I.tuple ha
 obtain⟨its2,r2,p2,_⟩:=I.tuple hb
 have i1:IntsAre its.toArray.toList ns:=intsAre_of r1
 have i2:IntsAre its2.toArray.toList ms:=intsAre_of r2
 exact HT.lt_tupInts p1 p2 i1 i2 hu ⟨.bl (HT.lexLt ns ms),H,I,rfl,q⟩
noncomputable def rCatT(K:W.Frag):R2:=fun x y H Q=>∃a b xs ys,x= .ref a/\y= .ref b/\SqT K H a xs/\SqT K H b ys/\xs≠[]/\xs.length+ys.length<=sizeLine/\
 (ys=[]->Q (.ref a) H)/\(ys≠[]->∀p,H p=none->Q (.ref p) (upd H p (.tup (xs++ys))))
theorem Vals.nil_iff{xs:List V}{us:List Value}(r:Vals xs us):us=[]↔xs=[]:=by
 cases r with
 |nil=>simp
 |cons _ _=>simp
theorem op_catT:OpR X (binaryOp .Add) (rCatT X.K):=by
 intro pins s σ H x y v u Q I rx ry h
 obtain⟨a,b,xs,ys,rfl,rfl,ha,hb,hx,hz,q1,q2⟩:=h
 cases rx
 cases ry
 obtain⟨its,r1,p1,_⟩:=I.tuple ha
 obtain⟨its2,r2,p2,_⟩:=I.tuple hb
 refine HT.cat_tup p1 p2 (fun z=>hx (r1.nil_iff.mp z)) (fun z=>⟨.ref a,H,I,rfl,q1 (r2.nil_iff.mp z)⟩) (fun z=> ?_) (by rw[<-r1.length,<-r2.length];exact hz)
 refine⟨.ref s.heap.objs.size,_,I.laid (t':=s.toks) (o:= .tup (xs++ys)) (fun b ob q=>Heap.get?_push_of_some _ q) (Nat.le_refl _) ?_,rfl,q2 (fun w=>z (r2.nil_iff.mpr w)) _ (I.hok.fresh (Nat.le_refl _))⟩
 exact⟨by rw[List.length_append];exact hz,_,r1.append r2,IsTup.new _ _⟩
end
end L2
namespace L2
open PySem PySem.Spec PyProof.Rows
noncomputable def ixN(n:Nat)(i:Int):Option Nat:=if 0<=i then(if i<n then some i.toNat else none)else if -(n:Int)<=i then some (i+n).toNat else none
noncomputable def atI{α:Type}(xs:List α)(i:Int):Option α:=(ixN xs.length i).bind fun j=>xs[j]?
theorem ixN_seq{n:Nat}{i:Int}{j:Nat}(h:ixN n i=some j):seqIndex? i n=some j/\j<n/\ -(n:Int)<=i/\i<n:=by
 unfold ixN at h
 by_cases h0:0<=i
 ·rw[if_pos h0]at h
  by_cases h1:i<n
  ·rw[if_pos h1]at h
   have e:i.toNat=j:=Option.some.inj h
   exact⟨by rw[seqIndex_of h0 h1,e],by omega,by omega,h1⟩
  ·rw[if_neg h1]at h;cases h
 ·rw[if_neg h0]at h
  by_cases h1: -(n:Int)<=i
  ·rw[if_pos h1]at h
   have e:(i+n).toNat=j:=Option.some.inj h
   exact⟨by rw[seqIndex_neg (by omega) h1,e],by omega,h1,by omega⟩
  ·rw[if_neg h1]at h;cases h
theorem atI_get{α:Type}{xs:List α}{i:Int}{v:α}(h:atI xs i=some v):∃j,seqIndex? i xs.length=some j/\xs[j]? =some v/\j<xs.length/\ -(xs.length:Int)<=i/\i<xs.length:=by
 unfold atI at h
 cases e:ixN xs.length i with
 |none=>rw[e]at h;cases h
 |some j=>
  rw[e]at h
  obtain⟨h1,h2,h3,h4⟩:=ixN_seq e
  exact⟨j,h1,h,h2,h3,h4⟩
theorem atI_nat{α:Type}{xs:List α}{j:Nat}{v:α}(h:xs[j]? =some v):atI xs (j:Int)=some v:=by
 have hj:j<xs.length:=(List.getElem?_eq_some_iff.mp h).1
 have e:ixN xs.length (j:Int)=some j:=by
  unfold ixN
  rw[if_pos (by omega),if_pos (by omega)];simp
 unfold atI;rw[e];exact h
noncomputable def PlainIx(b:Expr):Prop:=∀o i,subscripted b false o i=operate [o,i] (getItem o i)
noncomputable def IxR(X:Cx)(r:R2):Prop:=
 ∀(value slice:Expr) (pins:List (Addr×Obj)) (s:Shared) (σ:St) (H:Hp) (x y:V) (v u:Value) (Q:VK),Inv X pins σ H s->RelV x v->RelV y u->r x y H Q->
  subscripted slice false v u=operate [v,u] (getItem v u)->wpAny (model X.prog X.w) X.A (subscriptTail value slice v u) (EP X pins σ Q) X.xe s
noncomputable def MtR(X:Cx)(id:String)(r:V->List V->Hp->VK->Prop):Prop:=
 ∀(pins:List (Addr×Obj)) (s:Shared) (σ:St) (H:Hp) (x:V) (xs:List V) (v:Value) (us:List Value) (Q:VK),Inv X pins σ H s->RelV x v->Vals xs us->r x xs H Q->
  wpAny (model X.prog X.w) X.A (call (.builtin id) (v::us)) (EP X pins σ Q) X.xe s
section
variable{X:Cx}{a b:Expr}{ta tb:TE}{pos:Pos}
theorem IxR.or{r r':R2}(h:IxR X r)(h':IxR X r'):IxR X (fun x y H Q=>r x y H Q\/r' x y H Q):=by
 intro value slice pins s σ H x y v u Q I rx ry q hs
 rcases q with q|q
 ·exact h value slice pins s σ H x y v u Q I rx ry q hs
 ·exact h' value slice pins s σ H x y v u Q I rx ry q hs
theorem MtR.or{id:String}{r r':V->List V->Hp->VK->Prop}(h:MtR X id r)(h':MtR X id r'):MtR X id (fun x xs H Q=>r x xs H Q\/r' x xs H Q):=by
 intro pins s σ H x xs v us Q I rx rs q
 rcases q with q|q
 ·exact h pins s σ H x xs v us Q I rx rs q
 ·exact h' pins s σ H x xs v us Q I rx rs q
theorem zbz{r:R2}(hr:IxR X r)(ha:PE X a ta)(hb:PE X b tb)(hs:PlainIx b):PE X (.Subscript a b pos) (tOp r ta tb):=by
 intro pins s σ H Q I h
 exact Subscript_ (binT ha hb I h fun v u s2 x y H2 I2 rx ry q=>hr a b pins s2 σ H2 x y v u Q I2 rx ry q (hs _ _))
noncomputable def rIxL(K:W.Frag):R2:=fun x y H Q=>∃p xs i v,x= .ref p/\y= .int i/\SqL K H p xs/\atI xs i=some v/\Q v H
noncomputable def rIxT(K:W.Frag):R2:=fun x y H Q=>∃p xs i v,x= .ref p/\y= .int i/\SqT K H p xs/\atI xs i=some v/\Q v H
theorem ix_list:IxR X (rIxL X.K):=by
 intro value slice pins s σ H x y v u Q I rx ry h hs
 obtain⟨p,xs,i,z,rfl,rfl,hq,he,q⟩:=h
 cases rx
 obtain⟨t,rfl⟩:=ry
 obtain⟨its,r,pl,hz⟩:=I.list hq
 obtain⟨j,h1,h2,h3,h4,h5⟩:=atI_get he
 obtain⟨w,ew,rw'⟩:=r.get h2
 have hl:=r.length
 have hn:=line63
 have fin:EP X pins σ Q w s:=⟨z,H,I,rw',q⟩
 by_cases h0:0<=i
 ·have hj:i.toNat=j:=by
   rw[seqIndex_of h0 h5]at h1
   exact Option.some.inj h1
  exact item_listR pl.isList h0 (by omega) (by rw[hj];simpa using ew) fin hs
 ·have hj:(i+(its.toArray.size:Int)).toNat=j:=by
   rw[seqIndex_neg (by omega) h4]at h1
   rw[List.size_toArray,<-hl]
   exact Option.some.inj h1
  exact subscriptTail_builtinR (x:=w) pl.isList.typeIs slot_list_getitem.lookup
   (wpAny_getItem_list_neg (Q:=fun r s'=>r=w/\EP X pins σ Q r s') pl.isList (by omega) (by rw[List.size_toArray]<;>omega) (by omega) (by rw[hj];simpa using ew) ⟨rfl,fin⟩) hs
theorem zcj:IxR X (rIxT X.K):=by
 intro value slice pins s σ H x y v u Q I rx ry h hs
 obtain⟨p,xs,i,z,rfl,rfl,hq,he,q⟩:=h
 cases rx
 obtain⟨t,rfl⟩:=ry
 obtain⟨its,r,pl,hz⟩:=I.tuple hq
 obtain⟨j,h1,h2,h3,h4,h5⟩:=atI_get he
 obtain⟨w,ew,rw'⟩:=r.get h2
 have hl:=r.length
 have hn:=line63
 have fin:EP X pins σ Q w s:=⟨z,H,I,rw',q⟩
 exact subscriptTail_builtinR (x:=w) pl.typeIs slot_tuple_getitem.lookup
  (getItem_tuple (j:=j) (Q:=fun r s'=>r=w/\EP X pins σ Q r s') pl (by omega) (by omega) (by rw[List.size_toArray,<-hl];exact h1) (by simpa using ew) ⟨rfl,fin⟩) hs
theorem mapSeq_set(its:List Value)(n j:Nat)(u:Value):Obj.mapSeq (·.setIfInBounds j u) {cls:= .type "list",data:= .seq its.toArray n}={cls:= .type "list",data:= .seq (its.set j u).toArray n}:=by
 simp[Obj.mapSeq]
theorem Inv.lst{pins:List (Addr×Obj)}{σ:St}{H:Hp}{s:Shared}{p:Addr}{xs:List V}(I:Inv X pins σ H s)(h:H p=some (.lst xs)):
  ∃(its:List Value) (n:Nat),Vals xs its/\s.heap.get? p=some {cls:= .type "list",data:= .seq its.toArray n}/\xs.length<=sizeLine:=by
 obtain⟨z,its,n,r,e⟩:=I.hok p _ h
 exact⟨its,n,r,e,z⟩
theorem Inv.lstUpd{pins:List (Addr×Obj)}{σ:St}{H:Hp}{s:Shared}{p:Addr}{xs ys:List V}{its its':List Value}{n n':Nat}{f:Obj->Obj}(I:Inv X pins σ H s)(h:H p=some (.lst xs))(ho:s.heap.get? p=some {cls:= .type "list",data:= .seq its.toArray n})(hf:f {cls:= .type "list",data:= .seq its.toArray n}={cls:= .type "list",data:= .seq its'.toArray n'})(r:Vals ys its')(hz:ys.length<=sizeLine)(t:Nat):
  Inv X pins σ (upd H p (.lst ys)) {s with heap:=s.heap.update p f,toks:=t}:=by
 have e:(s.heap.update p f).get? p=some {cls:= .type "list",data:= .seq its'.toArray n'}:=by
  rw[Heap.get?_update_self f ho (by rw[hf]<;>rfl),hf]
 refine I.write (x:=p) (e:=p) (by rw[h];trivial) (.inl rfl) (fun b u hb q=>(Heap.get?_update_other _ _ (Ne.symm hb)).trans q) ⟨_,e⟩ ?_
 exact⟨hz,its',n',r,e⟩
noncomputable def rSetL:V->V->V->Hp->(Hp->Prop)->Prop:=fun o i v H Q=>∃p xs k j,o= .ref p/\i= .int k/\H p=some (.lst xs)/\ixN xs.length k=some j/\Q (upd H p (.lst (xs.set j v)))
theorem set_list:PSet X rSetL:=by
 intro pins s σ H o i v ov iv u Q I ro ri rv h
 obtain⟨p,xs,k,j,rfl,rfl,hp,hj,q⟩:=h
 cases ro
 obtain⟨t,rfl⟩:=ri
 obtain⟨its,n,r,ho,hz⟩:=I.lst hp
 obtain⟨h1,h2,h3,h4⟩:=ixN_seq hj
 have hl:=r.length
 have hn:=line63
 have I':Inv X pins σ (upd H p (.lst (xs.set j v))) {s with heap:=s.heap.update p (Obj.mapSeq (·.setIfInBounds j u))}:=
  I.lstUpd hp ho (mapSeq_set its n j u) (r.set rv j) (by rw[List.length_set];exact hz) s.toks
 by_cases h0:0<=k
 ·have hk:k.toNat=j:=by
   rw[seqIndex_of h0 h4]at h1
   exact Option.some.inj h1
  exact PySem.W.ki_setAt ho h0 (by omega) (by rw[List.size_toArray,<-hl];exact h4) (by rw[hk];exact⟨_,I',q⟩)
 ·have hk:(k+(its.toArray.size:Int)).toNat=j:=by
   rw[seqIndex_neg (by omega) h3]at h1
   rw[List.size_toArray,<-hl]
   exact Option.some.inj h1
  exact PySem.W.ki_setBack ho (by omega) (by rw[List.size_toArray,<-hl];exact h3) (by omega) (by rw[hk];exact⟨_,I',q⟩)
theorem slice_bounds(lo hi:Option Int)(n:Nat):(sliceBounds lo hi none n).1=((HT.sIx n 0 lo:Nat):Int)/\(sliceBounds lo hi none n).2.1=((HT.sIx n n hi:Nat):Int)/\(sliceBounds lo hi none n).2.2=1:=by
 refine⟨?_,?_,rfl⟩
 ·cases lo with
  |none=>simp[sliceBounds,HT.sIx]
  |some i=>
   simp only[sliceBounds,HT.sIx,Option.getD_none,show(1:Int)>0 by decide,if_true]
   by_cases h:i<0
   ·simp only[h,if_true]<;>omega
   ·simp only[h,if_false]<;>omega
 ·cases hi with
  |none=>simp[sliceBounds,HT.sIx]
  |some i=>
   simp only[sliceBounds,HT.sIx,Option.getD_none,show(1:Int)>0 by decide,if_true]
   by_cases h:i<0
   ·simp only[h,if_true]<;>omega
   ·simp only[h,if_false]<;>omega
theorem slicePick_cut(its:List Value)(lo hi:Option Int):slicePick its.toArray lo hi none=((its.drop (HT.sIx its.length 0 lo)).take (HT.sIx its.length its.length hi-HT.sIx its.length 0 lo)).toArray:=by
 obtain⟨h1,h2,h3⟩:=slice_bounds lo hi its.toArray.size
 unfold slicePick
 rw[h1,h2,h3]
 simp only[sliceRange_one,pick_run,List.size_toArray]<;>rfl
noncomputable def rSlL(K:W.Frag):V->Option Int->Option Int->Hp->VK->Prop:=fun x lo hi H Q=>∃a xs,x= .ref a/\SqL K H a xs/\∀p,H p=none->Q (.ref p) (upd H p (.lst (cutV xs lo hi)))
theorem sl_list:SlR X (rSlL X.K):=by
 intro pins s σ H x v vl vu lo hi sl Q I rx hs pl pu h
 obtain⟨a,xs,rfl,hx,q⟩:=h
 cases rx
 obtain⟨its,r,ht,hz⟩:=I.list hx
 have hlen:=r.length
 refine⟨"list",_,slot_list_getitem.lookup,ht.isList.typeIs,?_⟩
 refine wpAny_getItem_list_slice ht.isList hs pl pu .none (by simp) ?_ (by rw[List.size_toArray]<;>omega)
 rw[slicePick_cut,<-hlen]
 refine⟨.ref s.heap.objs.size,_,I.laid (t':=s.toks) (o:= .lst (cutV xs lo hi)) (fun b ob q=>Heap.get?_push_of_some _ q) (Nat.le_refl _) ?_,rfl,q _ (I.hok.fresh (Nat.le_refl _))⟩
 exact⟨Nat.le_trans (cutV_length xs lo hi) hz,_,0,(r.drop (HT.sIx xs.length 0 lo)).take (HT.sIx xs.length xs.length hi-HT.sIx xs.length 0 lo),Heap.get?_push_size _ rfl⟩
theorem call_len_seq:CallR X (.builtin "len") (fun xs H Q=>∃p ys,xs=[.ref p]/\(SqL X.K H p ys\/SqT X.K H p ys)/\Q (.int ys.length) H):=by
 intro pins s σ H xs us Q I r h
 obtain⟨p,ys,rfl,hq,q⟩:=h
 obtain⟨u,rfl,rx⟩:=vals1 r
 cases rx
 have hn:=line63
 rcases hq with hq|hq
 ·obtain⟨its,r',pl,hz⟩:=I.list hq
  have hlen:=r'.length
  exact Calls.call_len_list pl.isList (by simp only[List.size_toArray]<;>omega) ⟨.int ys.length,H,I.tok _,⟨s.toks+1,by rw[List.size_toArray,hlen]⟩,q⟩
 ·obtain⟨its,r',pl,hz⟩:=I.tuple hq
  have hlen:=r'.length
  exact len_tuple pl (by simp only[List.size_toArray]<;>omega) ⟨.int ys.length,H,I.tok _,⟨s.toks+1,by rw[List.size_toArray,hlen]⟩,q⟩
theorem CallR.or{f:Value}{r r':List V->Hp->VK->Prop}(h:CallR X f r)(h':CallR X f r'):CallR X f (fun xs H Q=>r xs H Q\/r' xs H Q):=by
 intro pins s σ H xs us Q I rs q
 rcases q with q|q
 ·exact h pins s σ H xs us Q I rs q
 ·exact h' pins s σ H xs us Q I rs q
theorem call_list_of:CallR X (.type "list") (fun xs H Q=>∃p ys,xs=[.ref p]/\(SqL X.K H p ys\/SqT X.K H p ys)/\∀l,H l=none->Q (.ref l) (upd H l (.lst ys))):=by
 intro pins s σ H xs us Q I r h
 obtain⟨p,ys,rfl,hq,q⟩:=h
 obtain⟨u,rfl,rx⟩:=vals1 r
 cases rx
 have fin:∀(its:List Value),Vals ys its->ys.length<=sizeLine->∀(h':Heap) (c':Nat),(∀b o',s.heap.get? b=some o'->h'.get? b=some o')->
   h'.get? s.heap.objs.size=some {cls:= .type "list",dict:=none,data:= .seq its.toArray c',slots:=#[]}->EP X pins σ Q (.ref s.heap.objs.size) {s with heap:=h'}:=fun its r' hz h' c' kp e=>
  ⟨.ref s.heap.objs.size,_,I.laid (t':=s.toks) kp (Nat.le_refl _) (show ObjOk X.prog X.w _ h' _ (.lst ys)from⟨hz,its,c',r',e⟩),rfl,q _ (I.hok.fresh (Nat.le_refl _))⟩
 rcases hq with hq|hq
 ·obtain⟨its,r',pl,hz⟩:=I.list hq
  have hlen:=r'.length
  obtain⟨o,ho,hc,n,hd⟩:=pl.isList
  exact call_list_seq p (.inl rfl) ho hc hd (fun h' c' kp e=>fin its r' hz h' c' kp e) (by simp only[List.size_toArray]<;>omega)
 ·obtain⟨its,r',pl,hz⟩:=I.tuple hq
  have hlen:=r'.length
  obtain⟨o,ho,hc,n,hd⟩:=pl
  exact call_list_seq p (.inr rfl) ho hc hd (fun h' c' kp e=>fin its r' hz h' c' kp e) (by simp only[List.size_toArray]<;>omega)
theorem zck:CallR X (.type "tuple") (fun xs H Q=>∃p ys,xs=[.ref p]/\((SqL X.K H p ys/\∀l,H l=none->Q (.ref l) (upd H l (.tup ys)))\/(SqT X.K H p ys/\Q (.ref p) H))):=by
 intro pins s σ H xs us Q I r h
 obtain⟨p,ys,rfl,h⟩:=h
 obtain⟨u,rfl,rx⟩:=vals1 r
 cases rx
 rcases h with⟨hq,q⟩|⟨hq,q⟩
 ·obtain⟨its,r',pl,hz⟩:=I.list hq
  have hlen:=r'.length
  refine call_tuple_list pl.isList (fun h' kp=> ?_) (by simp only[List.size_toArray]<;>omega)
  have I1:Inv X pins σ H {s with heap:=h'}:=I.kept (t':=s.toks) kp
  have I2:Inv X pins σ (upd H h'.objs.size (.tup ys)) {s with heap:=h'.push {cls:= .type "tuple",data:= .seq its.toArray}}:=
   I1.laid (t':=s.toks) (fun b o e=>Heap.get?_push_of_some _ e) (Nat.le_refl _) (show ObjOk X.prog X.w _ _ _ (.tup ys)from⟨hz,its,r',IsTup.new _ _⟩)
  exact⟨.ref h'.objs.size,_,I2,rfl,q _ (I1.hok.fresh (Nat.le_refl _))⟩
 ·obtain⟨its,r',pl,hz⟩:=I.tuple hq
  exact call_tuple_same pl ⟨.ref p,H,I,rfl,q⟩
noncomputable def tyV(K:W.Frag)(T:String)(x:V)(H:Hp):Prop:=match x with
 | .str _=>T="str"
 | .int _=>T="int"
 | .ref p=>(T="list"/\∃xs,SqL K H p xs)\/(T="tuple"/\∃o,K.lookup p=some o/\o.cls= .type "tuple"/\o.dict=none)\/
   (T="dict"/\((∃kvs,H p=some (.dK kvs))\/∃kvs,H p=some (.dT kvs)))\/(T="set"/\∃S n,H p=some (.set S n))
 |_=>False
theorem tyV_is{pins:List (Addr×Obj)}{σ:St}{H:Hp}{s:Shared}{T:String}{x:V}{v:Value}(I:Inv X pins σ H s)(r:RelV x v)(ty:tyV X.K T x H):
  s.TypeIs v T/\∀a,v= .ref a->∃ob,s.heap.get? a=some ob/\ob.dict=none:=by
 cases x with
 |str z=>
  obtain⟨t,rfl⟩:=r
  cases(show T="str" from ty)
  exact⟨typeIs_str s z t,fun _ e=>nomatch e⟩
 |int i=>
  obtain⟨t,rfl⟩:=r
  cases(show T="int" from ty)
  exact⟨typeIs_int s i t,fun _ e=>nomatch e⟩
 |ref p=>
  cases r
  rcases ty with⟨rfl,xs,hq⟩|⟨rfl,o,hk,hc,hd⟩|⟨rfl,hk⟩|⟨rfl,S,n,hk⟩
  ·obtain⟨its,_,pl,_⟩:=I.list hq
   refine⟨pl.isList.typeIs,fun a e=> ?_⟩
   cases e
   obtain⟨o,n,e,c,hd,_⟩:=pl
   exact⟨o,e,hd⟩
  ·refine⟨⟨o,I.kIn p o hk,hc⟩,fun a e=> ?_⟩
   cases e
   exact⟨o,I.kIn _ o hk,hd⟩
  ·have z:∃o,s.heap.get? p=some o/\o.ExactDict:=by
    rcases hk with⟨kvs,hk⟩|⟨kvs,hk⟩
    ·obtain⟨_,_,_,_,o,_,_,e,ex,_⟩:=I.hok p _ hk
     exact⟨o,e,ex⟩
    ·obtain⟨_,_,_,_,o,_,_,e,ex,_⟩:=I.hok p _ hk
     exact⟨o,e,ex⟩
   obtain⟨o,e,ex⟩:=z
   refine⟨⟨o,e,ex.1⟩,fun a e2=> ?_⟩
   cases e2
   exact⟨o,e,ex.2.1⟩
  ·obtain⟨o,_,_,_,e,ex,_⟩:=I.hok p _ hk
   refine⟨⟨o,e,ex.1⟩,fun a e2=> ?_⟩
   cases e2
   exact⟨o,e,ex.2.1⟩
 |_=>exact False.elim ty
noncomputable def tBM(K:W.Frag)(T:String)(r:V->List V->Hp->VK->Prop)(to:TE)(t:TA):TE:=fun σ H Q=>to σ H fun x H1=>tyV K T x H1/\t σ H1 fun xs H2=>r x xs H2 Q
variable{o e:Expr}{es:List Expr}{to:TE}{t:TA}{name:Str}{apos cpos:Pos}{T id:String}{r:V->List V->Hp->VK->Prop}
theorem pe_bm(pa:PlainAttrs T)(slot:Slot T name id)(hty:typeOf (.builtin id)=pure (.type "method_descriptor"))(hm:MtR X id r)(ho:PE X o to)(ha:PA X (e::es) t)(hbase:attributeBase o name X.env (eval o X.env)=eval o X.env:=by rfl)(hfew:((backTo cpos (starEach (e::es) X.env)).all (fun x=> !x.1)&&(backToKw cpos (keywordEach [] X.env)).all (fun x=>x.1.isSome)
   &&decide ((e::es).length+([]:List Keyword).length+(if([]:List Keyword).isEmpty then 0 else 1)<30))=true:=by rfl)(hline:(apos.endLine==cpos.line)=true:=by rfl)(hs:starEach (e::es) X.env=(false,eval e X.env)::starEach es X.env:=by rfl)(hplain:(backTo cpos (starEach es X.env)).any (·.1)=false:=by rfl):
  PE X (.Call (.Attribute o name apos) (e::es) [] cpos) (tBM X.K T r to t):=by
 intro pins s σ H Q I h
 refine wpAny_Call_method_late hbase hfew hline rfl (thn (ho pins s σ H _ I h) fun v s1 ⟨x,H1,I1,r1,ty,q1⟩=> ?_)
 obtain⟨h1,h2⟩:=tyV_is I1 r1 ty
 refine⟨T,id,pa,slot,hty,h1,h2,?_⟩
 have hA:=ha cpos pins s1 σ H1 _ I1 q1
 rw[hs]at hA⊢
 refine Calls.callWith_builtin (by show(false||(backTo cpos (starEach es X.env)).any (·.1))=false;rw[hplain]<;>rfl) (Calls.evalArgs_plain ?_)
 exact thn hA fun us s2 ⟨vs,H2,I2,r2,q2⟩=>hm pins s2 σ H2 x vs v us Q I2 r1 r2 q2
end
end L2
namespace L2
open PySem PySem.Spec PyProof.Rows
noncomputable def MtM(X:Cx)(id:String)(r:V->List V->Hp->VK->Prop):Prop:=
 ∀(pins:List (Addr×Obj)) (s:Shared) (σ:St) (H:Hp) (x:V) (xs:List V) (v:Value) (us:List Value) (Q:VK),Inv X pins σ H s->RelV x v->Vals xs us->r x xs H Q->
  wpAny (model X.prog X.w) X.A (call (.builtin id) (v::us)) (EP X pins σ Q) X.xe s
theorem Vals.one{x:V}{us:List Value}(h:Vals [x] us):∃u,us=[u]/\RelV x u:=by
 cases h with
 |cons r h=>cases h;exact⟨_,rfl,r⟩
theorem Vals.two{x y:V}{us:List Value}(h:Vals [x,y] us):∃u v,us=[u,v]/\RelV x u/\RelV y v:=by
 cases h with
 |cons r h=>obtain⟨v,rfl,q⟩:=Vals.one h;exact⟨_,_,rfl,r,q⟩
theorem Vals.zero:∀{us:List Value},Vals [] us->us=[]
 |_,.nil=>rfl
theorem Vals.eraseIdx:∀{xs:List V} {us:List Value} (i:Nat),Vals xs us->Vals (xs.eraseIdx i) (us.eraseIdx i)
 |_,_,_,.nil=> .nil
 |_,_,0,.cons _ t=>t
 |_,_,i+1,.cons r t=> .cons r (Vals.eraseIdx i t)
theorem Vals.reverse{xs:List V}{us:List Value}(h:Vals xs us):Vals xs.reverse us.reverse:=by
 induction h with
 |nil=>exact .nil
 |cons r t ih=>rw[List.reverse_cons,List.reverse_cons];exact Vals.append ih (.cons r .nil)
theorem Vals.rep{xs:List V}{us:List Value}(h:Vals xs us):∀k:Nat,Vals (List.replicate k xs).flatten (List.replicate k us).flatten
 |0=> .nil
 |k+1=>by
  rw[List.replicate_succ,List.replicate_succ,List.flatten_cons,List.flatten_cons]
  exact Vals.append h (Vals.rep h k)
theorem foldl_rep(its:List Value):∀(k:Nat) (acc:List Value),
  List.foldl (fun x1 x2=>x1++x2) acc.toArray (List.replicate k its.toArray)=(acc++(List.replicate k its).flatten).toArray
 |0,acc=>by simp
 |k+1,acc=>by
  have e:acc.toArray++its.toArray=(acc++its).toArray:=by simp
  have e2:(acc++its)++(List.replicate k its).flatten=acc++(List.replicate (k+1) its).flatten:=by
   rw[List.replicate_succ,List.flatten_cons,List.append_assoc]
  rw[<-e2,<-foldl_rep its k (acc++its),<-e,List.replicate_succ,List.foldl_cons]
section
variable{X:Cx}{pins:List (Addr×Obj)}{σ:St}{H:Hp}{s:Shared}{l b:Addr}{xs ys zs:List V}
theorem Inv.lset{its its':List Value}{n:Nat}{f:Array Value->Array Value}{t':Nat}(I:Inv X pins σ H s)(hH:H l=some (.lst xs))(e:s.heap.get? l=some {cls:= .type "list",data:= .seq its.toArray n})(hf:f its.toArray=its'.toArray)(hv:Vals ys its')(hz:ys.length<=sizeLine):
  Inv X pins σ (upd H l (.lst ys)) {s with heap:=s.heap.update l (Obj.mapSeq f),toks:=t'}:=by
 have q:=PySem.IsL.update e f
 rw[hf]at q
 refine I.write (x:=l) (e:=l) (by rw[hH];exact trivial) (.inl rfl) (fun b' u hb hu=>(Heap.get?_update_other s.heap (Obj.mapSeq f) (Ne.symm hb)).trans hu) ⟨_,q⟩ ?_
 exact⟨hz,its',_,hv,q⟩
theorem Inv.lnew{its:List Value}{t':Nat}(I:Inv X pins σ H s)(hv:Vals ys its)(hz:ys.length<=sizeLine):
  Inv X pins σ (upd H s.heap.objs.size (.lst ys)) {s with heap:=s.heap.push {cls:= .type "list",data:= .seq its.toArray},toks:=t'}:=
 I.laid (fun _ _ q=>Heap.get?_push_of_some _ q) (Nat.le_refl _) ⟨hz,its,0,hv,Heap.get?_push_size _ rfl⟩
theorem Inv.fresh(I:Inv X pins σ H s):H s.heap.objs.size=none:=I.hok.fresh (Nat.le_refl _)
theorem Inv.lstM(I:Inv X pins σ H s)(hH:H l=some (.lst xs)):xs.length<=sizeLine/\∃(its:List Value) (n:Nat),Vals xs its/\xs.length=its.length/\s.heap.get? l=some {cls:= .type "list",data:= .seq its.toArray n}:=by
 obtain⟨z,its,n,r,e⟩:=I.hok l _ hH
 exact⟨z,its,n,r,r.length,e⟩
theorem notLongL{n:Nat}(h:n<=sizeLine):Builtin.List.listTooLong n=false:=by
 unfold Builtin.List.listTooLong
 exact decide_eq_false (by omega)
end
section
variable{X:Cx}
noncomputable def rAppend:V->List V->Hp->VK->Prop:=fun x vs H Q=>∃l xs y,x= .ref l/\vs=[y]/\H l=some (.lst xs)/\xs.length<sizeLine/\Q .non (upd H l (.lst (xs++[y])))
theorem zda:MtM X "list.append" rAppend:=by
 intro pins s σ H x vs v us Q I rx rv h
 obtain⟨l,xs,y,rfl,rfl,hH,hz,q⟩:=h
 cases rx
 obtain⟨u,rfl,ru⟩:=rv.one
 obtain⟨z,its,n,r,hl,e⟩:=I.lstM hH
 refine call_meets F.slot_list_append ⟨_,e,rfl⟩ F.entry_list_append (F.args_list_append_2 _ _) (PySem.list_append l its.toArray n u (by rw[List.size_toArray];omega)) ⟨e,?_⟩
 refine⟨.non,_,I.lset (its':=its++[u]) hH e (by simp) (r.append (.cons ru .nil)) ?_,rfl,q⟩
 rw[List.length_append,List.length_singleton]
 omega
noncomputable def rCat:R2:=fun x y H Q=>∃l b xs zs,x= .ref l/\y= .ref b/\H l=some (.lst xs)/\H b=some (.lst zs)/\xs.length+zs.length<=sizeLine/\∀p,H p=none->Q (.ref p) (upd H p (.lst (xs++zs)))
theorem op_cat:OpR X (binaryOp .Add) rCat:=by
 intro pins s σ H x y v u Q I rx ry h
 obtain⟨l,b,xs,zs,rfl,rfl,hH,hB,hz,q⟩:=h
 cases rx
 cases ry
 obtain⟨z,its,n,r,hl,e⟩:=I.lstM hH
 obtain⟨z2,its2,n2,r2,hl2,e2⟩:=I.lstM hB
 refine PySem.P.add_list e e2 ?_ (by rw[List.size_toArray,List.size_toArray];omega)
 have ea:its.toArray++its2.toArray=(its++its2).toArray:=by simp
 rw[ea]
 exact⟨.ref _,_,I.lnew (t':=s.toks) (r.append r2) (by rw[List.length_append];omega),rfl,q _ I.fresh⟩
noncomputable def rRep:R2:=fun x y H Q=>∃l k xs,x= .ref l/\y= .int k/\H l=some (.lst xs)/\ -(2^63)<=k/\k<2^63/\xs.length*k.toNat<=sizeLine/\
 ∀p,H p=none->Q (.ref p) (upd H p (.lst (List.replicate k.toNat xs).flatten))
theorem len_rep{α:Type}(xs:List α)(k:Nat):(List.replicate k xs).flatten.length=k*xs.length:=by
 induction k with
 |zero=>simp
 |succ k ih=>rw[List.replicate_succ,List.flatten_cons,List.length_append,ih,Nat.succ_mul,Nat.add_comm]
theorem op_rep:OpR X (binaryOp .Mult) rRep:=by
 intro pins s σ H x y v u Q I rx ry h
 obtain⟨l,k,xs,rfl,rfl,hH,h1,h2,hz,q⟩:=h
 cases rx
 obtain⟨t,rfl⟩:=ry
 obtain⟨z,its,n,r,hl,e⟩:=I.lstM hH
 have hlen:its.toArray.size*k.toNat<=sizeLine:=by rw[List.size_toArray,<-hl];exact hz
 have hcap:¬its.toArray.size*k.toNat>(2^63-1)/8:=by
  have:(sizeLine:Nat)<=(2^63-1)/8:=by decide
  omega
 have hfit:¬(!Builtin.List.listFitsIndex k)=true:=by
  rw[fitsIndex_both h1 h2]
  exact Bool.false_ne_true
 have hlong:¬Builtin.List.listTooLong (its.toArray.size*k.toNat)=true:=by
  rw[notLongL hlen]
  exact Bool.false_ne_true
 have hnew:List.foldl (fun x1 x2=>x1++x2) #[] (List.replicate (if its.toArray.isEmpty=true then 0 else k.toNat) its.toArray)=(List.replicate k.toNat its).flatten.toArray:=by
  have f0:∀m:Nat,List.foldl (fun x1 x2=>x1++x2) #[] (List.replicate m its.toArray)=(List.replicate m its).flatten.toArray:=fun m=>by
   have:=foldl_rep its m []
   rw[List.nil_append]at this
   exact this
  rw[f0]
  cases its with
  |nil=>simp
  |cons a r'=>rw[if_neg (by simp)]
 refine wpAny_binaryOp_repeat_ref (T:="list") (U:="int") (by decide) ⟨_,e,rfl⟩ (fun s'=>typeIs_int s' k t) noFill_list_mul F.fills_int_mul F.slot_int_rmul repeat_list F.slot_int_index.lookup
  (call_meets F.slot_int_rmul (typeIs_int s k t) F.entry_int_rmul (F.args_int_rmul_2 _ _) (int___rmul___int_list k t l its.toArray n)
   ⟨e,rfl,⟨_,e,rfl⟩,call_meets F.slot_list_mul ⟨_,e,rfl⟩ F.entry_list_mul (F.args_list_mul_2 _ _) (AutoListH.list___mul___list_int_3 l its.toArray n k t hfit hcap hlong) ⟨e,?_⟩⟩)
 rw[hnew]
 exact⟨.ref _,_,I.lnew (t':=s.toks) (r.rep k.toNat) (by rw[len_rep,Nat.mul_comm];exact hz),rfl,q _ I.fresh⟩
end
section
variable{prog:Program}{w:World}{A:Around}{E:Value->Shared->Prop}{s:Shared}
end
section
variable{X:Cx}
end
end L2
namespace Att
open PySem PySem.W PySem.Calls PyProof.Rows
theorem ints_of_wellAll{P:Params}{h:Heap}:∀(ns:List Int) (vs:List Value),WellAll P h vs (ns.map WData.int)->IntsAre vs ns:=by
 intro ns
 induction ns with
 |nil=>
  intro vs w
  rw[List.map_nil]at w
  cases w
  exact .nil
 |cons n ns ih=>
  intro vs w
  rw[List.map_cons]at w
  cases w with
  |cons a b=>
   cases a
   exact .cons _ _ (ih _ b)
theorem script_of{l:OpenLaw}{n:Nat}(hn:l.most=some n){P:Params}{h:Heap}{args:List WData}{vals:List Value}(hpre:l.row.toRowW.claim.pre args=true)(hwl:WellAll P h vals args):
  ∃a vs ns,vals=[Value.ref a]/\args=[WData.list (ns.map WData.int)]/\h.get? a=some {cls:= .type "list",data:= .seq vs.toArray}/\IntsAre vs ns/\ns.length<=n:=by
 have hsh:WShape.hasAll [] args [.list .int]=true:=(pre_splitW hpre).1
 have hc:l.pre.holds [] {args:=args}=true:=(pre_splitW hpre).2
 obtain⟨d,r,rfl,h1,h2⟩:=hasAllW_cons hsh
 obtain rfl:=hasAllW_nil h2
 obtain⟨xs,rfl,h3⟩:=hasW_list h1
 obtain⟨ns,rfl⟩:=items_int h3
 have hlen:ns.length<=n:=by
  unfold OpenLaw.pre at hc
  have h4:(WTm.not (.lt (.lit (.int (n:Int))) (.len (.arg 0)))).holds [] {args:=[.list (ns.map .int)]}=true:=by
   have h4:=(holds_andW hc).1
   rw[hn]at h4
   exact h4
  have h5:=condW_of h4 (w_not (w_lt w_lit (w_len_list (w_arg rfl))))
  rw[List.length_map]at h5
  refine Nat.le_of_not_lt fun q=> ?_
  have q':(n:Int)<((ns.length:Nat):Int):=by omega
  first
   |(rw[decide_eq_true q']at h5;exact absurd h5 (by decide))
   |(simp at h5;omega)
 cases hwl with
 |cons w1 w2=>
  cases w2
  cases w1 with
  |list ho hall=>exact⟨_,_,ns,rfl,rfl,ho,ints_of_wellAll ns _ hall,hlen⟩
theorem post_true(l:OpenLaw)(args:List WData):l.row.toRowW.claim.post args (.bool true) args=true:=
 postW_of (r:=l.row.toRowW) (X:=(true==true))
  (show WShape.has [] (.bool true) .bool=true by first |rfl|decide|simp[WShape.has,WShape.arms,WShape.armsAll])
  (show(WTm.eq .res (.lit (.bool true))).value [] {args:=args,res:=some (.bool true),after:=args}=some (.bool (true==true))from w_eq_bool (w_res rfl) w_lit) rfl
theorem attach_call{l:OpenLaw}{n:Nat}{q:Program}{loose:List Str}{XP:(Str->Option Value)->Heap->Prop}{YP:World->Heap->Prop}{d:DefRec}(hn:l.most=some n)(hdf:d.params.defaults=[])(call:∀(w:World) (s₀ s₁:Shared) (mg mb:Str->Option Value) (fa:Addr) (o:Obj) (pm cd doc:Value) (a:Addr) (vs:List Value) (ns:List Int),
   Ground q loose [] XP w s₀ mg mb s₁.heap->YP w s₁.heap->
   s₁.heap.get? fa=some o->o.data= .func (docDef d.name d.params d.body d.scope pm cd doc)->s₁.heap.CodeRec cd d.name->mg d.name=some (.ref fa)->
   s₁.heap.get? a=some {cls:= .type "list",data:= .seq vs.toArray}->IntsAre vs ns->ns.length<=n->s₁.gens=#[]->
   codeAny (model l.prog w) callerA (.call (.ref fa) ⟨[.ref a],[]⟩) (fun r s'=>r= .ok (.ret (.bool true))/\OldK s₁.heap s'.heap/\s'.os=s₁.os/\AllBare s'.gens) s₁):
  WalkO q loose XP YP l.row.toRowW d [] (fun f vs=>PySem.call f vs):=by
 intro w s₀ s₁ mg mb G Y fa o pm cd doc dV kV ho hd hcd hD hmg hg args vals as hpre hlay hrd hwl hlo
 obtain rfl:dV= .none:=Dflts.none hD hdf
 obtain rfl:kV= .none:=Dflts.noKw hD
 obtain⟨a,vs,ns,rfl,rfl,hobj,hints,hlen⟩:=script_of hn hpre hwl
 refine enter_call (codeAny_mono (call w s₀ s₁ mg mb fa o pm cd doc a vs ns G Y ho (fd_plain hd) hcd hmg hobj hints hlen hg) fun r s' hq=> ?_)
 obtain⟨rfl,h2,h3,h4⟩:=hq
 exact⟨.inl ⟨.bool true,.bool true,[],rfl,fun _=>rfl,.bool true,post_true l _,fun _=>⟨List.Pairwise.nil,fun _ hm=>(nomatch hm)⟩⟩,h2,h3,h4⟩
section
variable{prog:Program}{w:World}{A:Around}{E:Value->Shared->Prop}{s:Shared}{K:Frag}
end
end Att
namespace L2
open PySem PySem.Spec PyProof.Rows
theorem vals_ints:∀{vs:List Value} {ns:List Int},IntsAre vs ns->Vals (ns.map V.int) vs
 |_,_,.nil=> .nil
 |_,_,.cons n t h=> .cons ⟨t,rfl⟩ (vals_ints h)
end L2
namespace L2
open PySem PySem.Spec PyProof.Rows
end L2
namespace L2
open PySem PySem.Spec PyProof.Rows
noncomputable def defArgs(s:Stmt):Arguments:=match s with
 | .FunctionDef _ a _ _ _ _ _ _ _ _=>a
 |_=>{posonlyargs:=[],args:=[],vararg:=none,kwonlyargs:=[],kw_defaults:=[],kwarg:=none,defaults:=[]}
noncomputable def defBody(s:Stmt):List Stmt:=match s with
 | .FunctionDef _ _ b _ _ _ _ _ _ _=>b
 |_=>[]
noncomputable def defScope(s:Stmt):Scope:=match s with
 | .FunctionDef _ _ _ _ _ _ sc _ _ _=>sc
 |_=>{kind:= .function,names:=[],isGenerator:=false,isCoroutine:=false}
noncomputable abbrev CX0:CXT:=fun _ _ _ _ _ _=>False
noncomputable abbrev E0:XK:=fun _ _ _=>False
theorem pass0{X:Cx}:Passes CX0 X E0:=fun _ _ _ _ _ _ _ h=>h.elim
structure Fun(K:W.Frag)(x qual:Str)(st:Stmt)(f:Addr)(fd:FuncData):Prop where
 ex:∃(oc:Value) (od:Option Addr) (kV doc pm:Value) (an:Option Addr) (cdv ct:Value) (osl:Array (Option Value)),
  fd=PySem.W.fnOf x qual (defArgs st) (defBody st) (defScope st) .none kV doc pm an cdv ct/\K.lookup f=some ⟨oc,od,.func fd,osl⟩/\PySem.W.codeIn K cdv qual=true
 kp:PySem.W.keepIn K (.ref f)=true
section
variable{P:Program}{w:World}{K:W.Frag}{mg:Str->Option Value}{base:Heap}
theorem Fun.ok{x qual:Str}{st:Stmt}{f:Addr}{fd:FuncData}{N ps:List Str}{k:Nat}{sp:Sp}(F:Fun K x qual st f fd)(S:FnScope N ps (defScope st))(len:∀vs H Q E,sp vs H Q E->vs.length=ps.length)(hbody:∀(cdv:Value) (A:Around) (outer:List Env) (s:Shared) (H:Hp) (vs:List V) (Q:VK) (E:XK),Room k (A.deeper (envOfC qual (defScope st) s.heap.objs.size f cdv))->sp vs H Q E->
   ∃t,PSs (cxOf CX0 P w K mg base N qual (defScope st) f cdv A outer s H E).nox (defBody st) t/\t {nx:=fun _ H'=>Q .non H',rt:=Q} (start N vs) H):FnOk P w K mg base CX0 (k+1) f fd ps sp:=by
 obtain⟨oc,od,kV,doc,pm,an,cdv,ct,osl,rfl,lk,hcd⟩:=F.ex
 refine fn_of lk hcd S len fun A outer s H vs Q E hr hsp=> ?_
 obtain⟨t,h,q⟩:=hbody cdv A outer s H vs Q E hr hsp
 exact⟨t,h.nox,q⟩
theorem Fun.binds{x qual:Str}{st:Stmt}{f:Addr}{fd:FuncData}{ps:List Str}(F:Fun K x qual st f fd)(h:∀(kV doc pm:Value) (an:Option Addr) (cdv ct:Value) (us:List Value),us.length=ps.length->bindArgs (PySem.W.fnOf x qual (defArgs st) (defBody st) (defScope st) .none kV doc pm an cdv ct) ⟨us,[]⟩=pure (ps.zip us)):Binds K fd ps []:=by
 obtain⟨oc,od,kV,doc,pm,an,cdv,ct,osl,rfl,lk,hcd⟩:=F.ex
 exact .all (h kV doc pm an cdv ct)
theorem zbb{x qual:Str}{st:Stmt}{f:Addr}{oc:Value}{od an:Option Addr}{osl:Array (Option Value)}{kV doc pm cdv ct:Value}(l:K.lookup f=some ⟨oc,od,.func (PySem.W.fnOf x qual (defArgs st) (defBody st) (defScope st) .none kV doc pm an cdv ct),osl⟩)(c:PySem.W.codeIn K cdv qual=true)(k:PySem.W.keepIn K (.ref f)=true):Fun K x qual st f (PySem.W.fnOf x qual (defArgs st) (defBody st) (defScope st) .none kV doc pm an cdv ct):=⟨⟨oc,od,kV,doc,pm,an,cdv,ct,osl,rfl,l,c⟩,k⟩
end
theorem hu_of{A:Around}{k:Nat}(hr:Room k A):A.units+1<cLine:=Nat.lt_of_le_of_lt (Nat.add_le_add_left (by decide:1<=64) _) hr.units
section
variable{X:Cx}
theorem pv(i:Nat){x:Str}{pos:Pos}(hN:X.N[i]? =some x:=by rfl)(hv:Vis X.env.scope x:=by first |exact Or.inl rfl|exact Or.inr (Or.inl rfl)|exact Or.inr (Or.inr rfl))(hd:(x==("__debug__":Str))=false:=by decide)(hcd:(x==("__classdict__":Str))=false:=by decide):PE X (.Name x pos) (tVar i):=pe_var hN hv hd hcd
end
theorem iteF{A B:Prop}(h:B):if false=true then A else B:=by
 rw[if_neg Bool.false_ne_true]
 exact h
theorem iteT{A B:Prop}(h:A):if true=true then A else B:=by
 rw[if_pos rfl]
 exact h
theorem ite2{c A B:Prop} [Decidable c](h1:c->A)(h2:¬c->B):if c then A else B:=by
 by_cases h:c
 ·rw[if_pos h]
  exact h1 h
 ·rw[if_neg h]
  exact h2 h
theorem iteNS{c A B:Prop} [Decidable c](hc:c)(h:B):if(!decide c)=true then A else B:=by
 rw[decide_eq_true hc]
 exact iteF h
noncomputable def Same(H H':Hp):Prop:=∀b o,H b=some o->H' b=some o
theorem Same.refl(H:Hp):Same H H:=fun _ _ h=>h
theorem Same.trans{H H1 H2:Hp}(a:Same H H1)(b:Same H1 H2):Same H H2:=fun c o h=>b c o (a c o h)
theorem Same.free{H H':Hp}(e:Same H H'){l:Addr}(h:H' l=Option.none):H l=Option.none:=by
 cases q:H l with
 |none=>rfl
 |some o=>
  rw[e l o q]at h
  cases h
theorem Same.seq{K:W.Frag}{H H':Hp}{a:Addr}{xs:List V}(e:Same H H')(h:SqL K H a xs):SqL K H' a xs:=by
 rcases h with(h|⟨o,h⟩)|h
 ·exact .inl (.inl (e _ _ h))
 ·exact .inl (.inr ⟨o,e _ _ h⟩)
 ·exact .inr h
end L2
set_option maxHeartbeats 4000000
namespace L2
open PySem PySem.Spec PyProof.Rows
noncomputable def clOf(cells:List (Str×Addr)):List (Str×NameKind)->List (Str×Addr)->List (Str×Addr)
 |[],acc=>acc
 |p::r,acc=>clOf cells r (if(p.2==NameKind.free)=true then(p.1,(cells.lookup p.1).getD 0)::acc else acc)
theorem clOf_mem{cells:List (Str×Addr)}:∀{names:List (Str×NameKind)} {acc:List (Str×Addr)} {x:Str} {c:Addr},(x,c)∈clOf cells names acc->(x,c)∈acc\/c=(cells.lookup x).getD 0/\(x,NameKind.free)∈names
 |[],_,_,_,h=> .inl h
 |(n,k)::r,acc,x,c,h=>by
  rcases clOf_mem (names:=r) h with q|⟨q,m⟩
  ·dsimp only at q
   split at q
   ·rename_i hk
    rcases List.mem_cons.mp q with e|e
    ·cases e
     have:k=NameKind.free:=by simpa using hk
     subst this
     exact .inr ⟨rfl,List.mem_cons_self⟩
    ·exact .inl e
   ·exact .inl q
  ·exact .inr ⟨q,List.mem_cons_of_mem _ m⟩
theorem clOf_acc{cells:List (Str×Addr)}:∀{names:List (Str×NameKind)} {acc:List (Str×Addr)} {p:Str×Addr},p∈acc->p∈clOf cells names acc
 |[],_,_,h=>h
 |(n,k)::r,acc,p,h=>by
  refine clOf_acc (names:=r) ?_
  split
  ·exact List.mem_cons_of_mem _ h
  ·exact h
theorem clOf_has{cells:List (Str×Addr)}:∀{names:List (Str×NameKind)} {acc:List (Str×Addr)} {x:Str},(x,NameKind.free)∈names->∃c,(x,c)∈clOf cells names acc
 |(n,k)::r,acc,x,h=>by
  rcases List.mem_cons.mp h with e|e
  ·cases e
   refine⟨(cells.lookup n).getD 0,clOf_acc (names:=r) ?_⟩
   rw[if_pos (show(NameKind.free==NameKind.free)=true from rfl)]
   exact List.mem_cons_self
  ·exact clOf_has (names:=r) e
theorem zci{β:Type}:∀{l:List (Str×β)} {x:Str} {c:β},(x,c)∈l->∃d,l.lookup x=some d/\(x,d)∈l
 |(n,k)::r,x,c,h=>by
  cases hx:x==n with
  |true=>
   have e:x=n:=by simpa using hx
   subst e
   exact⟨k,by simp[List.lookup_cons],List.mem_cons_self⟩
  |false=>
   rcases List.mem_cons.mp h with e|e
   ·cases e;simp at hx
   ·obtain⟨d,h1,h2⟩:=zci e
    exact⟨d,by simp only[List.lookup_cons,hx];exact h1,List.mem_cons_of_mem _ h2⟩
noncomputable def compOk(sc scope:Scope):Bool:=scope.names.all fun p=>(p.2 !=NameKind.cell)&&(p.2 !=NameKind.local||scope.names.lookup p.1==some NameKind.local)&&
 (p.2 !=NameKind.free||sc.names.lookup p.1==some NameKind.cell||sc.names.lookup p.1==some NameKind.free)
section
variable{sc scope:Scope}
theorem compOk.cell(h:compOk sc scope=true):∀y∈scope.names,y.2≠.cell:=fun y hy e=>by
 have q:=List.all_eq_true.mp h y hy
 simp[e]at q
theorem compOk.names(h:compOk sc scope=true):∀y∈scope.names,y.2= .local->scope.names.lookup y.1=some .local:=fun y hy e=>by
 have q:=List.all_eq_true.mp h y hy
 simpa[e]using q
theorem compOk.free(h:compOk sc scope=true){x:Str}(hy:(x,NameKind.free)∈scope.names):sc.names.lookup x=some .cell\/sc.names.lookup x=some .free:=by
 have q:=List.all_eq_true.mp h _ hy
 simpa using q
end
theorem closure_of{scope:Scope}{env:Env}(h:∀x,(x,NameKind.free)∈scope.names->∃c,env.cells.lookup x=some c):closureFor scope env=pure (clOf env.cells scope.names []):=by
 have key:∀(names:List (Str×NameKind)) (acc:List (Str×Addr)),(∀x,(x,NameKind.free)∈names->∃c,env.cells.lookup x=some c)->
   (forIn names acc fun(x:Str×NameKind) (cs:List (Str×Addr))=>if(x.2==NameKind.free)=true then(do let y<-cellOf env x.1;pure (ForInStep.yield ((x.1,y)::cs)))else pure (ForInStep.yield cs):Sem (List (Str×Addr)))=pure (clOf env.cells names acc):=by
  intro names
  induction names with
  |nil=>intro acc _;rfl
  |cons p r ih=>
   intro acc hh
   obtain⟨n,k⟩:=p
   rw[List.forIn_cons]
   dsimp only
   by_cases hk:(k==NameKind.free)=true
   ·have e:k=NameKind.free:=by simpa using hk
    subst e
    obtain⟨c,hc⟩:=hh n List.mem_cons_self
    rw[if_pos hk]
    unfold cellOf
    rw[hc]
    simp only[pure_bind]
    refine Eq.trans (ih _ fun x hx=>hh x (List.mem_cons_of_mem _ hx)) ?_
    show _=pure (clOf env.cells r (if(NameKind.free==NameKind.free)=true then(n,(env.cells.lookup n).getD 0)::acc else acc))
    rw[if_pos hk,hc]
    rfl
   ·rw[if_neg hk]
    simp only[pure_bind]
    refine Eq.trans (ih _ fun x hx=>hh x (List.mem_cons_of_mem _ hx)) ?_
    show _=pure (clOf env.cells r (if(k==NameKind.free)=true then(n,(env.cells.lookup n).getD 0)::acc else acc))
    rw[if_neg hk]
 have q:=key scope.names [] h
 unfold closureFor
 simp only[bind_pure]
 exact q
theorem relab_look{env:Env}:∀{names:List (Str×NameKind)} {x:Str} {k:NameKind},names.lookup x=some k->
  (names.map fun(n,k)=>if(k==NameKind.free&&env.scope.kind== .function&&env.kindOf n==some .cell)then(n,NameKind.cell)else(n,k)).lookup x=some (if(k==NameKind.free&&env.scope.kind== .function&&env.kindOf x==some .cell)=true then .cell else k)
 |[],_,_,h=>by simp at h
 |(n,k)::r,x,k',h=>by
  have ih:= @relab_look env r x k'
  show List.lookup x ((if(k==NameKind.free&&env.scope.kind== .function&&env.kindOf n==some .cell)=true then(n,NameKind.cell)else(n,k))::_)=_
  cases hx:x==n with
  |true=>
   have e:x=n:=by simpa using hx
   subst e
   simp only[List.lookup_cons,hx]at h
   cases h
   by_cases hc:(k==NameKind.free&&env.scope.kind== .function&&env.kindOf x==some .cell)=true
   ·rw[if_pos hc,if_pos hc];simp[List.lookup_cons]
   ·rw[if_neg hc,if_neg hc];simp[List.lookup_cons]
  |false=>
   simp only[List.lookup_cons,hx]at h
   by_cases hc:(k==NameKind.free&&env.scope.kind== .function&&env.kindOf n==some .cell)=true
   ·rw[if_pos hc];simp only[List.lookup_cons,hx];exact ih h
   ·rw[if_neg hc];simp only[List.lookup_cons,hx];exact ih h
theorem relab_none{env:Env}:∀{names:List (Str×NameKind)} {x:Str},names.lookup x=none->
  (names.map fun(n,k)=>if(k==NameKind.free&&env.scope.kind== .function&&env.kindOf n==some .cell)then(n,NameKind.cell)else(n,k)).lookup x=none
 |[],_,_=>rfl
 |(n,k)::r,x,h=>by
  have ih:= @relab_none env r x
  show List.lookup x ((if(k==NameKind.free&&env.scope.kind== .function&&env.kindOf n==some .cell)=true then(n,NameKind.cell)else(n,k))::_)=_
  cases hx:x==n with
  |true=>simp only[List.lookup_cons,hx]at h;cases h
  |false=>
   simp only[List.lookup_cons,hx]at h
   by_cases hc:(k==NameKind.free&&env.scope.kind== .function&&env.kindOf n==some .cell)=true
   ·rw[if_pos hc];simp only[List.lookup_cons,hx];exact ih h
   ·rw[if_neg hc];simp only[List.lookup_cons,hx];exact ih h
theorem relab_cell{scope:Scope}{env:Env}{x:Str}(hc:∀y∈scope.names,y.2≠.cell)(h:(relabel scope env).names.lookup x=some .cell\/(relabel scope env).names.lookup x=some .free):(x,NameKind.free)∈scope.names:=by
 cases e:scope.names.lookup x with
 |none=>
  have q:=relab_none (env:=env) e
  rcases h with h|h
  ·rw[show(relabel scope env).names.lookup x=none from q]at h;cases h
  ·rw[show(relabel scope env).names.lookup x=none from q]at h;cases h
 |some k=>
  have q:=relab_look (env:=env) e
  have m:=PySem.mem_of_lookup e
  by_cases hk:k= .free
  ·subst hk;exact m
  ·have q':(relabel scope env).names.lookup x=some k:=by
    refine Eq.trans q ?_
    have:(k==NameKind.free)=false:=by simpa using hk
    simp[this]
   rw[q']at h
   rcases h with h|h
   ·cases h;exact absurd rfl (hc _ m)
   ·cases h;exact absurd rfl hk
theorem relab_free{scope:Scope}{env:Env}{x:Str}(h:scope.names.lookup x=some .free):(relabel scope env).names.lookup x=some .cell\/(relabel scope env).names.lookup x=some .free:=by
 have q:=relab_look (env:=env) h
 by_cases hc:((NameKind.free==NameKind.free)&&env.scope.kind== .function&&env.kindOf x==some .cell)=true
 ·rw[if_pos hc]at q;exact .inl q
 ·rw[if_neg hc]at q;exact .inr q
noncomputable def compCx(X:Cx)(scope:Scope)(N:List Str)(s:Shared)(H:Hp)(cl:List (Str×Addr))(C:Addr)(ex:List Addr):Cx:=
 {X with N:=N,s₀:=s,H₀:=H,env:=compEnvC scope cl C X.env,outer:=X.stack,ex:=ex,fn:=fun _=>false,pn:=[],xe:=fun _ _=>False}
inductive Caps(X:Cx)(scope:Scope):List Str->List Nat->Prop
 |nil:Caps X scope [] []
 |cons {x:Str} {j:Nat} {xs:List Str} {js:List Nat} (hN:X.N[j]? =some x) (hf:scope.names.lookup x=some .free) (t:Caps X scope xs js):Caps X scope (x::xs) (j::js)
theorem Caps.get{X:Cx}{scope:Scope}:∀{xs:List Str} {js:List Nat} {k:Nat} {x:Str},Caps X scope xs js->xs[k]? =some x->∃j,js[k]? =some j/\X.N[j]? =some x/\scope.names.lookup x=some .free
 |_,_,k,x,.nil,h=>by simp at h
 |_,_,0,x,.cons h1 h2 _,h=>by simp at h;subst h;exact⟨_,rfl,h1,h2⟩
 |_,_,k+1,x,.cons _ _ t,h=>by
  obtain⟨j,a,b⟩:=Caps.get (k:=k) t (by simpa using h)
  exact⟨j,by simpa using a,b⟩
theorem Caps.len{X:Cx}{scope:Scope}:∀{xs:List Str} {js:List Nat},Caps X scope xs js->xs.length=js.length
 |_,_,.nil=>rfl
 |_,_,.cons _ _ t=>by simp[Caps.len t]
noncomputable def iniOf(own:List Str)(ix:List Nat)(σ:St):St:=own.map (fun _=>none)++ix.map fun j=>(σ[j]?).join
noncomputable def PTs(X:Cx)(ifs:List Expr)(t:TT):Prop:=
 ∀(pins:List (Addr×Obj)) (s:Shared) (σ:St) (H:Hp) (Q:Bool->Hp->Prop),Inv X pins σ H s->t σ H Q->
  wpAny (model X.prog X.w) X.A (forIn ifs true fun c r=>if r=true then do let ok<-isTrue c X.env (eval c X.env);pure (ForInStep.yield ok)else pure (ForInStep.yield r)) (TP X pins σ Q) X.xe s
theorem zcf{X:Cx}:PTs X [] (fun _ H Q=>Q true H):=fun _ _ _ H _ I h=>wpAny_tests_nil ⟨H,I,h⟩
theorem pts_one{X:Cx}{c:Expr}{t:TT}(h:PT X c t):PTs X [c] t:=fun pins s σ H Q I hq=>wpAny_tests_one (h pins s σ H Q I hq)
theorem HOk.add{P:Program}{w:World}{H:Hp}{h:Heap}{a:Addr}{o:HO}(x:HOk P w H h)(hn:H a=none)(new:ObjOk P w (upd H a o) h a o):HOk P w (upd H a o) h:=fun b u e=>by
 by_cases hb:b=a
 ·subst hb;rw[zab]at e;cases e;exact new
 ·rw[zaf hb]at e
  exact(x b u e).stay (fun c v _ q=>q) (fun c q=>by rw[zaf (zai q hn)];exact q) fun c xs q=>by rw[zaf (zai q hn)];exact q
theorem Un.add{fs ex:List Addr}{H H':Hp}{h h':Heap}{a:Addr}{o:HO}(u:Un fs ex H H' h h')(ha:h.objs.size<=a)(hn:H' a=none):Un fs ex H (upd H' a o) h h' where
 keep:=u.keep
 slot:=u.slot
 free:=fun b ob q n hx=>by rw[zaf (Nat.ne_of_lt (Nat.lt_of_lt_of_le (Heap.lt_size q) ha))];exact u.free b ob q n hx
 there:=u.there
 tups:=fun b xs q=>by have:=u.tups b xs q;rw[zaf (zai this hn)];exact this
 frzs:=fun b ob xs q=>by have:=u.frzs b ob xs q;rw[zaf (zai this hn)];exact this
 tbls:=fun b ps q=>by obtain⟨m,e⟩:=u.tbls b ps q;exact⟨m,by rw[zaf (zai e hn)];exact e⟩
end L2
namespace L2
open PySem PySem.Spec PyProof.Rows
section
variable{X:Cx}{tg iter elt:Expr}{ifs:List Expr}{scope:Scope}{pos:Pos}{own caps:List Str}{ix:List Nat}{g:TG}{tc:TT}{te:TE}
theorem comp_entry{pins:List (Addr×Obj)}{s s':Shared}{σ:St}{H:Hp}{fp:List Addr}{C:Addr}{m:Str->Option Value}(ck:compOk X.env.scope scope=true)(hkind:scope.kind= .function)(hcap:Caps X scope caps ix)
  (I:Inv X pins σ H s)(f2:∀b∈fp,FpOk X pins H b)(hlt:∀b∈fp,b<s.heap.objs.size)(hC:s.heap.objs.size<=C)(hos:s'.os=s.os)(hg:AllBare s'.gens)(hk:∀b o,s.heap.get? b=some o->s'.heap.get? b=some o)(hn:s'.heap.Ns C m):
  Inv (compCx X scope (own++caps) s H (clOf X.env.cells scope.names []) C fp) [] (iniOf own ix σ) H s':=by
 have cl1:∀x c,(clOf X.env.cells scope.names []).lookup x=some c->X.env.cells.lookup x=some c:=fun x c e=>by
  rcases clOf_mem (PySem.mem_of_lookup e)with q|⟨q,mm⟩
  ·cases q
  ·obtain⟨d,hd⟩:=I.ok.has x (compOk.free ck mm)
   rw[hd]at q
   rw[hd,q];rfl
 have cl2:∀x,(x,NameKind.free)∈scope.names->∃c,(clOf X.env.cells scope.names []).lookup x=some c:=fun x mm=>by
  obtain⟨c,hc⟩:=clOf_has (cells:=X.env.cells) (acc:=[]) mm
  obtain⟨d,hd,_⟩:=zci hc
  exact⟨d,hd⟩
 have bsz:X.base.objs.size<=s.heap.objs.size:=Nat.le_trans I.ok.bsz I.sz
 refine⟨⟨I.ok.mod,hkind,I.ok.glob,I.ok.blt,hC,fun x y c h1 h2=>I.ok.inj x y c (cl1 x c h1) (cl1 y c h2),fun x hx=>cl2 x (relab_cell (compOk.cell ck) hx),fun x c h=>(nomatch h),I.ok.hd,I.ok.frames,.inl rfl,fun b hb=>⟨Nat.ne_of_lt (Nat.lt_of_lt_of_le (hlt b hb) hC),fun x c e=>(f2 b hb).2.2.2.2.1 x c (cl1 x c e)⟩,I.bs,bsz,
  fun b o e hb=> ?_,fun b hb hz=> ?_,I.stack,I.stkFree⟩,?_,hg,Un.kept hk,⟨m,hn,fun i x v h1 h2 h3=> ?_⟩,fun x c e=> ?_,I.hok.fresh hC,fun x c e=>I.freeC x c (cl1 x c e),fun p hp=>absurd (show p∈([]:List (Addr×Obj))from hp) (by simp),I.hok.kept hk,?_⟩
 ·rcases(f2 b hb).2.2.2.1 with z|z
  ·exact I.ok.noex b o e z
  ·exact absurd (Nat.lt_of_lt_of_le (Heap.lt_size e) (Nat.le_trans I.ok.bsz z)) (Nat.lt_irrefl _)
 ·rcases List.mem_cons.mp (I.stkSub b hz)with z|z
  ·exact(f2 b hb).2.1 z
  ·exact(f2 b hb).2.2.1 z
 ·exact hos
 ·have h1:(own++caps)[i]? =some x:=h1
  have h2:(own.map (fun _=>(none:Option V))++ix.map fun j=>(σ[j]?).join)[i]? =some (some v):=h2
  by_cases hi:i<own.length
  ·rw[List.getElem?_append_left (by simpa using hi),List.getElem?_map]at h2
   cases e:own[i]? <;>rw[e]at h2<;>simp at h2
  ·rw[List.getElem?_append_right (by simpa using hi)]at h2
   rw[List.getElem?_append_right (by omega)]at h1
   rw[List.length_map]at h2
   obtain⟨j,e1,e2,e3⟩:=hcap.get h1
   rw[List.getElem?_map,e1]at h2
   have h2':(σ[j]?).join=some v:=by simpa using h2
   have h4:σ[j]? =some (some v):=by
    cases q:σ[j]? with
    |none=>rw[q]at h2';cases h2'
    |some w=>rw[q]at h2';exact congrArg some h2'
   obtain⟨m0,hn0,hl0⟩:=I.loc
   have mm:=PySem.mem_of_lookup e3
   have vis:=compOk.free ck mm
   obtain⟨u,r,l⟩:=hl0 j x v e2 h4 (.inr vis)
   refine⟨u,r,.inr ?_⟩
   rcases l with⟨k,_⟩|⟨k,c,e,z⟩
   ·rcases vis with q|q
    ·rw[show X.env.kindOf x=some .cell from q]at k;cases k
    ·rw[show X.env.kindOf x=some .free from q]at k;cases k
   ·obtain⟨d,hd⟩:=cl2 x mm
    have:=cl1 x d hd
    rw[e]at this
    cases this
    exact⟨relab_free e3,c,hd,z.keeps hk⟩
 ·obtain⟨v,z⟩:=I.cell x c (cl1 x c e)
  exact⟨v,z.keeps hk⟩
 ·show(own.map (fun _=>(none:Option V))++ix.map fun j=>(σ[j]?).join).length=(own++caps).length
  simp[hcap.len]
theorem comp_core(ck:compOk X.env.scope scope=true)(hkind:scope.kind= .function)(hcap:Caps X scope caps ix)(hc:X.calm=true)(hg:∀s H cl C ex,PG (compCx X scope (own++caps) s H cl C ex) tg g)(ht:∀s H cl C ex,PTs (compCx X scope (own++caps) s H cl C ex) ifs tc)(he:∀s H cl C ex,PE (compCx X scope (own++caps) s H cl C ex) elt te){pins:List (Addr×Obj)}{s2:Shared}{σ:St}{H2:Hp}{E:Value->Shared->Prop}(I2:Inv X pins σ H2 s2){it:Addr}{fp:List Addr}{tn:Nat->Heap->Prop}{J:It}(T:Turn X.prog X.w X.K tg J fp it tn)(st2:tn 0 s2.heap)(f2:∀b∈fp,FpOk X pins H2 b)
  {W:Nat->Nat->List V->St->Hp->Prop}{m0:Nat}(w0:W 0 m0 [] (iniOf own ix σ) H2){Fin:List V->Hp->Prop}(turn:∀i m acc σ H,W i m acc σ H->(J.stop i H/\acc.length<=sizeLine/\Fin acc H)\/(J.go i H/\acc.length<sizeLine/\∃N:List V->St->Hp->Prop,(∀acc' σ' H',N acc' σ' H'->∃m',m'<m/\W (i+1) m' acc' σ' H')/\∀x H',J.yld i H x H'->g x σ H' fun σ2 H2=>tc σ2 H2 fun b H3=>
   if b=true then te σ2 H3 fun v H4=>N (acc++[v]) σ2 H4 else N acc σ2 H3))
  {RR:Value->Addr->Result->Shared->Prop}(hRR:∀D C s' acc Hf m,Inv X pins σ (upd Hf D (.lst acc)) s'->Hf D=none->s'.heap.Ns C m->FpOk X pins (upd Hf D (.lst acc)) C->Fin acc Hf->RR (.ref D) C (.ok .next) s'):
  wpAny (model X.prog X.w) X.A (newList []) (fun acc s₃=>wpAny (model X.prog X.w) X.A (newFunctionEnv scope X.env.globals (clOf X.env.cells scope.names []) [] X.env.qual none .none (some X.env)) (fun cenv s₄=>
   codeAny (model X.prog X.w) X.A (.compStart (.ListComp elt [⟨tg,iter,ifs,0⟩] scope pos) 0 (.ref it) acc {cenv with scope:=relabel scope X.env}) (RR acc cenv.locals) s₄) E s₃) E s2:=by
 refine wpAny_newObj_type (wpAny_newFunctionEnv (compOk.cell ck) (by intro y hy;simp at hy) (fun h₁ hns₁ hsb₁=> ?_) hkind)
 dsimp only at hns₁ hsb₁⊢
 generalize hP:s2.heap.push {cls:= .type "list",dict:=none,data:= .seq ([]:List Value).toArray}=P1 at hns₁ hsb₁⊢
 have hC:P1.objs.size=s2.heap.objs.size+1:=by rw[<-hP,Heap.size_push]
 have hlt:∀b∈fp,b<s2.heap.objs.size:=fun b hb=>by
  obtain⟨o,e,_⟩:=T.obj _ _ st2 b hb
  exact Heap.lt_size e
 have old:∀b o,s2.heap.get? b=some o->h₁.get? b=some o:=fun b o e=>
  hsb₁.extBut b o (by rw[hC];exact Nat.ne_of_lt (Nat.lt_succ_of_lt (Heap.lt_size e))) (Heap.get?_push_of_some _ (hP▸Heap.get?_push_of_some _ e))
 have hD1:h₁.get? s2.heap.objs.size=some {cls:= .type "list",data:= .seq ([]:List Value).toArray 0}:=
  hsb₁.extBut _ _ (by rw[hC];exact Nat.ne_of_lt (Nat.lt_succ_self _)) (Heap.get?_push_of_some _ (hP▸Heap.get?_push_size _ rfl))
 generalize hDD:s2.heap.objs.size=D at *
 rw[hC]at hns₁⊢
 have entry:Inv (compCx X scope (own++caps) s2 H2 (clOf X.env.cells scope.names []) (D+1) fp) [] (iniOf own ix σ) H2 {s2 with heap:=h₁,toks:=s2.toks+([]:List (Str×Value)).length}:=
  comp_entry ck hkind hcap I2 f2 (by rw[hDD];exact hlt) (by rw[hDD];exact Nat.le_succ _) rfl I2.bare old hns₁
 generalize hX':compCx X scope (own++caps) s2 H2 (clOf X.env.cells scope.names []) (D+1) fp=X' at entry
 have eP:X'.prog=X.prog:=by rw[<-hX'];rfl
 have ew:X'.w=X.w:=by rw[<-hX'];rfl
 have eK:X'.K=X.K:=by rw[<-hX'];rfl
 have eA:X'.A=X.A:=by rw[<-hX'];rfl
 have ecalm:X'.calm=true:=by rw[<-hX'];exact hc
 have efs:X'.fs=frs X.stack:=by rw[<-hX'];rfl
 have eex:X'.ex=fp:=by rw[<-hX'];rfl
 have epn:X'.pn=[]:=by rw[<-hX'];rfl
 have es0:X'.s₀=s2:=by rw[<-hX'];rfl
 have eH0:X'.H₀=H2:=by rw[<-hX'];rfl
 have exe:X'.xe=fun _ _=>False:=by rw[<-hX'];rfl
 have eenv:X'.env=compEnvC scope (clOf X.env.cells scope.names []) (D+1) X.env:=by rw[<-hX'];rfl
 have eloc:X'.env.locals=D+1:=by rw[eenv];rfl
 have hg':PG X' tg g:=by rw[<-hX'];exact hg _ _ _ _ _
 have ht':PTs X' ifs tc:=by rw[<-hX'];exact ht _ _ _ _ _
 have he':PE X' elt te:=by rw[<-hX'];exact he _ _ _ _ _
 have ecl:∀x c,X'.env.cells.lookup x=some c->c<D:=fun x c e=>by
  obtain⟨v,o,ho,_⟩:=entry.cell x c e
  have hcn:=entry.freeC x c e
  -- a cell of the enclosing frame: it lies in s2's heap
  rw[eenv]at e
  rcases clOf_mem (PySem.mem_of_lookup e)with q|⟨q,mm⟩
  ·cases q
  ·obtain⟨d,hd⟩:=I2.ok.has x (compOk.free ck mm)
   rw[hd]at q
   have q:c=d:=q
   subst q
   obtain⟨v',o',ho',_⟩:=I2.cell x c hd
   rw[<-hDD]
   exact Heap.lt_size ho'
 have dfs:D∉frs X.stack:=fun hb=>by
  rcases List.mem_cons.mp (I2.stkSub D hb)with z|z
  ·exact absurd (Nat.lt_of_lt_of_eq I2.lt hDD) (by rw[z];exact Nat.lt_irrefl _)
  ·exact I2.nofs (Nat.le_of_eq hDD) z
 have fpn:∀{H':Hp} {o:Obj},(∀b∈fp,H' b=none)->∀b∈fp,FpOk X' [(D,o)] H' b:=fun{H' o} hn b hb=>by
  have hbl:=hlt b hb
  refine⟨hn b hb,by rw[eloc];exact Nat.ne_of_lt (Nat.lt_succ_of_lt hbl),?_,.inl (by rw[eex];exact hb),fun x c e=> ?_,fun p hp=> ?_⟩
  ·rw[efs]
   intro z
   rcases List.mem_cons.mp (I2.stkSub b z)with z|z
   ·exact(f2 b hb).2.1 z
   ·exact(f2 b hb).2.2.1 z
  ·rw[eenv]at e
   rcases clOf_mem (PySem.mem_of_lookup e)with q|⟨q,mm⟩
   ·cases q
   ·obtain⟨d,hd⟩:=I2.ok.has x (compOk.free ck mm)
    rw[hd]at q
    have q:c=d:=q
    subst q
    exact(f2 b hb).2.2.2.2.1 x c hd
  ·rw[epn]at hp
   have:p=(D,o):=by simpa using hp
   rw[this]
   exact Nat.ne_of_gt hbl
 have pinD:∀{σ':St} {H':Hp} {s':Shared} {o:Obj},Inv X' [] σ' H' s'->s'.heap.get? D=some o->H' D=none->(∀v,o.data≠.cell v)->Inv X' [(D,o)] σ' H' s':=fun{σ' H' s' o} I e n d=>
  I.pins_of fun p hp=>by
   have:p=(D,o):=by simpa using hp
   subst this
   exact⟨e,n,by rw[eloc];exact Nat.ne_of_lt (Nat.lt_succ_self D),by rw[efs];exact dfs,d⟩
 have loop:∀s₃:Shared,s₃={s2 with heap:=h₁,toks:=s2.toks+([]:List (Str×Value)).length}->
   codeAny (model X.prog X.w) X.A (.compLoop (.ListComp elt [⟨tg,iter,ifs,0⟩] scope pos) 0 (.ref it) (.ref D) X'.env) (RR (.ref D) (D+1)) s₃:=by
  intro s₃ hs₃
  refine codeAny_loop rfl (fun n s'=>∃i acc its k σ' H',Inv X' [] σ' H' s'/\tn i s'.heap/\(∀b∈fp,H' b=none)/\s'.heap.get? D=some {cls:= .type "list",data:= .seq (List.toArray its) k}/\Vals acc its/\H' D=none/\W i n acc σ' H') ?_ m0
   ⟨0,[],[],0,iniOf own ix σ,H2,by rw[hs₃];exact entry,by rw[hs₃];exact T.keep _ _ _ st2 fun b _ o e=>old b o e,fun b hb=>(f2 b hb).1,by rw[hs₃];exact hD1,.nil,I2.hok.fresh (Nat.le_of_eq hDD),w0⟩
  rintro n s3 ⟨i,acc,its,k,σ3,H3,I3,st3,fr3,eD,rv,nD,w3⟩
  show wpAny _ X.A ((compTurn (.ListComp elt [⟨tg,iter,ifs,0⟩] scope pos) 0 (.ref it) (.ref D) X'.env).onRaise (fun x=>do noteFrame x X'.env;theTreesLotGoes x)) _ _ s3
  refine wpAny_noted ?_
  rw[compTurn_list]
  have noE:∀{α:Type} {t:Sem α} {Q:α->Shared->Prop} {E':Value->Shared->Prop} {s:Shared},wpAny (model X'.prog X'.w) X'.A t Q X'.xe s->wpAny (model X.prog X.w) X.A t Q E' s:=fun{α t Q E' s} h=>by
   rw[eP,ew,eA,exe]at h
   exact wpAny_mono h (fun _ _ q=>q) fun _ _ z=>z.elim
  have I3':=pinD (o:={cls:= .type "list",data:= .seq (List.toArray its) k}) I3 eD nD (fun v z=>by
   have z':Data.seq (List.toArray its) k=Data.cell v:=z
   cases z')
  refine wpAny_bind (wpAny_standAt (wpAny_bind ?_))
  rcases turn i n acc σ3 H3 w3 with⟨stop,hz,fin⟩|⟨go,hz,Nn,hN,step⟩
  ·have q:=T.done X' eP ew eK ecalm i [(D,_)] s3 σ3 H3 (notedBy (model X.prog X.w) X.A X'.env fun e s'=>RR (.ref D) (D+1) (.error e) s') I3' (fpn fr3) st3 stop
   rw[eA]at q
   refine thn q fun r s4 ⟨hr,I4⟩=> ?_
   subst hr
   refine wpAny_pure ?_
   obtain⟨e4,_⟩:=I4.pin (D,_) (List.mem_append_right _ List.mem_cons_self)
   obtain⟨mC,hnC,_⟩:=I4.loc
   have u4:=I4.base
   rw[efs,eex,eH0,es0]at u4
   have ok4:=I4.hok
   rw[eP,ew]at ok4
   have nC:H3 (D+1)=none:=by have:=I4.free;rw[eloc]at this;exact this
   have hok:HOk X.prog X.w (upd H3 D (.lst acc)) s4.heap:=ok4.add nD ⟨hz,its,k,rv,e4⟩
   refine hRR D (D+1) s4 acc H3 mC ?_ nD (by rw[eloc]at hnC;exact hnC) ?_ fin
   ·refine I2.call' (s':=s4) (ch:=fp) ?_ (u4.add (by rw[hDD];exact Nat.le_refl _) nD) hok I4.bare fun b hb=> ?_
    ·have:=I4.os;rw[es0]at this;exact this
    ·obtain⟨f0,f1,f3,f4,f5,f6⟩:=f2 b hb
     exact⟨f4,f1,f5,f6⟩
   ·refine I2.fpOk (by rw[hDD];exact Nat.le_succ _) ?_
    rw[zaf (Nat.ne_of_gt (Nat.lt_succ_self D))]
    exact nC
  ·have q:=T.item X' eP ew eK ecalm i [(D,_)] s3 σ3 H3 (notedBy (model X.prog X.w) X.A X'.env fun e s'=>RR (.ref D) (D+1) (.error e) s') I3' (fpn fr3) st3 go
   rw[eA]at q
   refine thn q fun r s4 ⟨u,hr,h4⟩=> ?_
   subst hr
   dsimp only
   refine wpAny_bind (thn h4 fun _ s5 ⟨x,H5,I5,r5,y5,st5,fr5⟩=> ?_)
   have I5':=I5.pinned (fpn fr5) (T.obj _ _ st5)
   have again:∀{σ7:St} {H7:Hp} {s7:Shared},Inv X' ([(D,{cls:= .type "list",data:= .seq (List.toArray its) k})]++pinsAt fp s5.heap) σ7 H7 s7->tn (i+1) s7.heap/\(∀b∈fp,H7 b=none)/\s7.heap.get? D=some {cls:= .type "list",data:= .seq (List.toArray its) k}/\H7 D=none:=fun{σ7 H7 s7} I7=>by
    refine⟨T.keep _ _ _ st5 fun b hb o e=>(I7.pin (b,o) (List.mem_append_right _ (List.mem_append_right _ (mem_pinsAt hb e)))).1,fun b hb=> ?_,?_⟩
    ·obtain⟨o,e,d⟩:=T.obj _ _ st5 b hb
     exact(I7.pin (b,o) (List.mem_append_right _ (List.mem_append_right _ (mem_pinsAt hb e)))).2.1
    ·have:=I7.pin (D,_) (List.mem_append_right _ (List.mem_append_left _ List.mem_cons_self))
     exact⟨this.1,this.2.1⟩
   refine wpAny_bind (thn (noE (hg' _ s5 σ3 H5 x u _ I5' r5 (step x H5 y5))) fun _ s6 ⟨σ6,H6,I6,q6⟩=> ?_)
   refine wpAny_bind (thn (noE (ht' _ s6 σ6 H6 _ I6 q6)) fun ok s7 ⟨H7,I7,q7⟩=> ?_)
   cases ok with
   |false=>
    rw[if_neg Bool.false_ne_true]at q7
    obtain⟨m',hm,w7⟩:=hN _ _ _ q7
    obtain⟨a1,a2,a3,a4⟩:=again I7
    exact wpAny_pure ⟨rfl,m',hm,i+1,acc,its,k,σ6,H7,I7.pins_of (fun p hp=>nomatch hp),a1,a2,a3,rv,a4,w7⟩
   |true=>
    rw[if_pos rfl]at q7
    refine wpAny_bind (wpAny_bind (thn (noE (he' _ s7 σ6 H7 _ I7 q7)) fun v s8 ⟨y,H8,I8,r8,q8⟩=> ?_))
    obtain⟨m',hm,w8⟩:=hN _ _ _ q8
    obtain⟨a1,a2,a3,a4⟩:=again I8
    have hl:=rv.length
    refine wpAny_bind (call_meets F.slot_list_append ⟨_,a3,rfl⟩ F.entry_list_append (F.args_list_append_2 _ _) (PySem.list_append D its.toArray k v (by rw[List.size_toArray];omega)) ⟨a3,?_⟩)
    refine wpAny_pure (wpAny_pure ⟨rfl,m',hm,i+1,acc++[y],its++[v],?_⟩)
    have qD:=PySem.IsL.update a3 (fun a:Array Value=>a.push v)
    rw[List.push_toArray]at qD
    have kp:∀b o,b≠D->s8.heap.get? b=some o->(s8.heap.update D (Obj.mapSeq fun a=>a.push v)).get? b=some o:=fun b o hb e=>(Heap.get?_update_other s8.heap _ (Ne.symm hb)).trans e
    have I8':Inv X' [] σ6 H8 {s8 with heap:=s8.heap.update D (Obj.mapSeq fun a=>a.push v)}:=by
     refine(I8.pins_of (pins':=[]) (fun p hp=>nomatch hp)).turned (t':=s8.toks) (it:=D) kp a4 (by rw[eloc];exact Nat.ne_of_lt (Nat.lt_succ_self D)) (.inr (by rw[es0,hDD];exact Nat.le_refl _)) (fun x c e=>Nat.ne_of_lt (ecl x c e)) (fun p hp=> ?_)
     rw[epn]at hp
     exact nomatch hp
    exact⟨_,σ6,H8,I8',T.keep _ _ _ a1 fun b hb o e=>kp b o (Nat.ne_of_lt (hlt b hb)) e,a2,qD,rv.append (.cons r8 .nil),a4,w8⟩
 have eenv':({newEnv scope (D+1) X.env.globals (clOf X.env.cells scope.names []) X.env.qual none Value.none (some X.env) 0 with scope:=relabel scope X.env}:Env)=X'.env:=by rw[eenv];rfl
 have L:=loop _ rfl
 rw[<-eenv']at L
 exact codeAny_compStart_list L (T.self X.A 0 _ _ _ (T.keep _ _ _ st2 fun b _ o e=>old b o e) L)
end
end L2
namespace L2
open PySem PySem.Spec PyProof.Rows
noncomputable def CompW(J:It)(ini:St)(H:Hp)(g:TG)(tc:TT)(te:TE)(Fin:List V->Hp->Prop):Prop:=
 ∃W:Nat->Nat->List V->St->Hp->Prop,(∃m,W 0 m [] ini H)/\∀i m acc σ H,W i m acc σ H->
  (J.stop i H/\acc.length<=sizeLine/\Fin acc H)\/(J.go i H/\acc.length<sizeLine/\∃N:List V->St->Hp->Prop,(∀acc' σ' H',N acc' σ' H'->∃m',m'<m/\W (i+1) m' acc' σ' H')/\∀x H',J.yld i H x H'->g x σ H' fun σ2 H2=>tc σ2 H2 fun b H3=>
   if b=true then te σ2 H3 fun v H4=>N (acc++[v]) σ2 H4 else N acc σ2 H3)
noncomputable def tComp(wi:TI)(own:List Str)(ix:List Nat)(g:TG)(tc:TT)(te:TE):TE:=fun σ H Q=>wi σ H fun J H1=>
 CompW J (iniOf own ix σ) H1 g tc te fun acc H'=>∀p,H' p=none->Q (.ref p) (upd H' p (.lst acc))
section
variable{X:Cx}{tg iter elt:Expr}{ifs:List Expr}{scope:Scope}{pos:Pos}{own caps:List Str}{ix:List Nat}{wi:TI}{g:TG}{tc:TT}{te:TE}
theorem zbk(hc:X.calm=true)(hi:PI X tg iter wi)(ck:compOk X.env.scope scope=true)(hkind:scope.kind= .function)(hcap:Caps X scope caps ix)(hg:∀s H cl C ex,PG (compCx X scope (own++caps) s H cl C ex) tg g)(ht:∀s H cl C ex,PTs (compCx X scope (own++caps) s H cl C ex) ifs tc)(he:∀s H cl C ex,PE (compCx X scope (own++caps) s H cl C ex) elt te)(hs:∀x,foldedSetIterable iter X.env x=pure x:=by intro _;rfl):PE X (.ListComp elt [⟨tg,iter,ifs,0⟩] scope pos) (tComp wi own ix g tc te):=by
 intro pins s σ H Q I h
 rw[eval_ListComp]
 refine wpAny_comprehension_free (use:=none) rfl hs (closure_of fun x hx=>I.ok.has x (compOk.free ck hx)) hkind (compOk.names ck) (thn (hi pins s σ H _ I h) fun xv s1 h1=>thn h1 fun itv s2 h2=> ?_)
 obtain⟨it,fp,tn,J,H2,e,I2,T,st2,f2,W,⟨m0,w0⟩,turn⟩:=h2
 subst e
 refine comp_core (RR:=fun acc C=>compPost (model X.prog X.w) X.A X.xe none (EP X pins σ Q) acc C) ck hkind hcap hc hg ht he I2 T st2 f2 w0 turn ?_
 intro D C s' acc Hf m I' nD hn fC fin
 refine⟨m,hn,fun h' sb=> ?_⟩
 obtain⟨f0,f1,f3,f4,f5,f6⟩:=fC
 exact⟨.ref D,_,I'.turned (t':=s'.toks) (it:=C) (fun b o hb e=>(sb.2 b hb).trans e) f0 f1 f4 f5 f6,rfl,fin D nD⟩
end
section
variable{K:W.Frag}{a:Addr}{xs:List V}{g:TG}{tc:TT}{te:TE}{Fin:List V->Hp->Prop}{ini:St}{H:Hp}
theorem comp_list(Pv:Nat->List V->St->Hp->Prop)(h0:Pv 0 [] ini H)(hl:∀(i:Nat) acc σ H,i<=xs.length->Pv i acc σ H->SqL K H a xs)(hz:∀(i:Nat) acc σ H,i<=xs.length->Pv i acc σ H->acc.length<=i)(hx:xs.length<=sizeLine)(hs:∀(i:Nat) x acc σ H,xs[i]? =some x->Pv i acc σ H->g x σ H fun σ2 H2=>tc σ2 H2 fun b H3=>if b=true then te σ2 H3 fun v H4=>Pv (i+1) (acc++[v]) σ2 H4 else Pv (i+1) acc σ2 H3)(hd:∀acc σ H,Pv xs.length acc σ H->Fin acc H):CompW (Itl K a) ini H g tc te Fin:=by
 refine⟨fun i m acc σ H=>m=xs.length-i/\i<=xs.length/\Pv i acc σ H,⟨xs.length,by simp,Nat.zero_le _,h0⟩,?_⟩
 rintro i m acc σ H ⟨rfl,hi,p⟩
 have q:=hl i acc σ H hi p
 have z:=hz i acc σ H hi p
 by_cases hlt:i<xs.length
 ·refine .inr ⟨⟨xs,xs[i],q,by simp[hlt]⟩,by omega,fun acc σ H=>Pv (i+1) acc σ H,fun acc' σ' H' r=>⟨_,by omega,rfl,hlt,r⟩,fun x H' y=> ?_⟩
  obtain⟨e,y⟩:=y
  subst e
  exact hs i x acc σ _ (y xs q) p
 ·have e:i=xs.length:=by omega
  subst e
  exact .inl ⟨⟨xs,q,Nat.le_refl _⟩,by omega,hd acc σ H p⟩
theorem zcv(Pv:Nat->List V->St->Hp->Prop)(h0:Pv 0 [] ini H)(hl:∀(i:Nat) acc σ H,i<=xs.length->Pv i acc σ H->SqT K H a xs)(hz:∀(i:Nat) acc σ H,i<=xs.length->Pv i acc σ H->acc.length<=i)(hx:xs.length<=sizeLine)(hs:∀(i:Nat) x acc σ H,xs[i]? =some x->Pv i acc σ H->g x σ H fun σ2 H2=>tc σ2 H2 fun b H3=>if b=true then te σ2 H3 fun v H4=>Pv (i+1) (acc++[v]) σ2 H4 else Pv (i+1) acc σ2 H3)(hd:∀acc σ H,Pv xs.length acc σ H->Fin acc H):CompW (Itt K a) ini H g tc te Fin:=by
 refine⟨fun i m acc σ H=>m=xs.length-i/\i<=xs.length/\Pv i acc σ H,⟨xs.length,by simp,Nat.zero_le _,h0⟩,?_⟩
 rintro i m acc σ H ⟨rfl,hi,p⟩
 have q:=hl i acc σ H hi p
 have z:=hz i acc σ H hi p
 by_cases hlt:i<xs.length
 ·refine .inr ⟨⟨xs,xs[i],q,by simp[hlt]⟩,by omega,fun acc σ H=>Pv (i+1) acc σ H,fun acc' σ' H' r=>⟨_,by omega,rfl,hlt,r⟩,fun x H' y=> ?_⟩
  obtain⟨e,y⟩:=y
  subst e
  exact hs i x acc σ _ (y xs q) p
 ·have e:i=xs.length:=by omega
  subst e
  exact .inl ⟨⟨xs,q,Nat.le_refl _⟩,by omega,hd acc σ H p⟩
theorem comp_range{lo:Int}{n:Nat}(Pv:Nat->List V->St->Hp->Prop)(h0:Pv 0 [] ini H)(hz:∀(i:Nat) acc σ H,i<=n->Pv i acc σ H->acc.length<=i)(hx:n<=sizeLine)(hs:∀(i:Nat) acc σ H,i<n->Pv i acc σ H->g (.int (lo+i)) σ H fun σ2 H2=>tc σ2 H2 fun b H3=>if b=true then te σ2 H3 fun v H4=>Pv (i+1) (acc++[v]) σ2 H4 else Pv (i+1) acc σ2 H3)(hd:∀acc σ H,Pv n acc σ H->Fin acc H):CompW (Itr lo n) ini H g tc te Fin:=by
 refine⟨fun i m acc σ H=>m=n-i/\i<=n/\Pv i acc σ H,⟨n,by simp,Nat.zero_le _,h0⟩,?_⟩
 rintro i m acc σ H ⟨rfl,hi,p⟩
 have z:=hz i acc σ H hi p
 by_cases hlt:i<n
 ·refine .inr ⟨hlt,by omega,fun acc σ H=>Pv (i+1) acc σ H,fun acc' σ' H' r=>⟨_,by omega,rfl,hlt,r⟩,fun x H' y=> ?_⟩
  obtain⟨e,y⟩:=y
  subst e y
  exact hs i acc σ _ hlt p
 ·have e:i=n:=by omega
  subst e
  exact .inl ⟨Nat.le_refl _,by omega,hd acc σ H p⟩
end
end L2
namespace Srt
open PySem PySem.W PyProof.Rows
section
variable{O:KeyOrd}{key:Nat->O.α}{N:Nat}{cmp:Nat->Nat->(Bool->Shared->Prop)->Shared->Prop}{s:Shared}
noncomputable def AskOk(O:KeyOrd)(key:Nat->O.α)(N:Nat)(cmp:Nat->Nat->(Bool->Shared->Prop)->Shared->Prop)(s:Shared):Prop:=
 ∀i j (C:Bool->Shared->Prop),i<N->j<N->C (O.blt (key i) (key j)) s->cmp i j C s
noncomputable def KN(key:Nat->O.α)(p:Array Nat)(i:Nat):O.α:=key (p.getD i 0)
noncomputable def So(key:Nat->O.α)(p:Array Nat)(k:Nat):Prop:=∀i j,i<=j->j<k->O.kle (KN key p i) (KN key p j)
noncomputable def Ni(key:Nat->O.α)(p:Array Nat)(k:Nat):Prop:=∀i j,i<=j->j<k->O.kle (KN key p j) (KN key p i)
structure Ord(N:Nat)(p:Array Nat):Prop where
 perm:p.Perm (List.toArray (List.range N))
theorem Ord.size{p:Array Nat}(h:Ord N p):p.size=N:=by have:=h.perm.size_eq;simpa using this
theorem Ord.lt{p:Array Nat}(h:Ord N p){i:Nat}(hi:i<N):p.getD i 0<N:=by
 have hi':i<p.size:=by rw[h.size];exact hi
 have e:p.getD i 0=p[i]:=by simp[Array.getD,hi']
 rw[e]
 have m:p[i]∈p.toList:=by simp
 have:=(Array.perm_iff_toList_perm.mp h.perm).mem_iff.mp m
 simpa using this
theorem Ord.rev{p:Array Nat}(h:Ord N p)(i j:Nat):Ord N (kas_rev p i j):=⟨(mirror_perm _ _ _ _).trans h.perm⟩
theorem Ord.bub{p:Array Nat}(h:Ord N p)(i j:Nat):Ord N (bubble p i j):=⟨(bubble_perm _ _ _).trans h.perm⟩
theorem getD_q(p:Array Nat)(i:Nat):p.getD i 0=(p[i]?).getD 0:=by simp
theorem KN_rev{p:Array Nat}{i j:Nat}(hj:j<=p.size)(k:Nat):KN key (kas_rev p i j) k=if i<=k/\k<j then KN key p (i+j-1-k)else KN key p k:=by
 have e:=getElem?_mirror_all (i:=i) hj k
 unfold KN kas_rev
 rw[getD_q,e]
 split
 ·rw[getD_q]
 ·rw[getD_q]
theorem zcq{p:Array Nat}{i j:Nat}(hj:j<=p.size)(heq:∀k,i<=k->k<j->KN key p k=KN key p (j-1))(k:Nat):KN key (kas_rev p i j) k=KN key p k:=by
 rw[KN_rev hj]
 split
 ·rename_i h
  rw[heq k h.1 h.2,heq _ (by omega) (by omega)]
 ·rfl
theorem KN_bub{p:Array Nat}{src d:Nat}(hs:src<p.size)(hd:d<=src)(k:Nat):KN key (bubble p src d) k=if k=src-d then KN key p src else if src-d<k/\k<=src then KN key p (k-1)else KN key p k:=by
 have e:=getElem?_bubble hs d hd k
 have q:KN key (bubble p src d) k=key (((bubble p src d)[k]?).getD 0):=congrArg key (getD_q _ _)
 have q2:∀i,KN key p i=key ((p[i]?).getD 0):=fun i=>congrArg key (getD_q _ _)
 rw[q,e,q2,q2,q2]
 by_cases h1:k=src-d
 ·rw[if_pos h1,if_pos h1]
 ·rw[if_neg h1,if_neg h1]
  by_cases h2:src-d<k/\k<=src
  ·rw[if_pos h2,if_pos h2]
  ·rw[if_neg h2,if_neg h2]
theorem lt_pred{i j:Nat}(h:i<=j)(hn:¬i=j):i<=j-1:=Nat.le_sub_one_of_lt (Nat.lt_of_le_of_ne h hn)
theorem eq_top{j n:Nat}(h:j<n+1)(hn:¬j<n):j=n:=Nat.le_antisymm (Nat.le_of_lt_succ h) (Nat.not_lt.mp hn)
theorem pred_lt'{x k:Nat}(h:1<=x)(hk:x<=k):x-1<k:=Nat.sub_one_lt_of_le h hk
theorem lt_mid{x f N:Nat}(h:x+(f+1)<=N):x<N:=Nat.lt_of_lt_of_le (Nat.lt_add_of_pos_right (Nat.succ_pos f)) h
theorem up_one{x f N:Nat}(h:x+(f+1)<=N):x+1+f<=N:=Nat.le_trans (Nat.le_of_eq (Nat.succ_add_eq_add_succ x f)) h
theorem up_le{x f m:Nat}(h:m<=x+1+f):m<=x+(f+1):=Nat.le_trans h (Nat.le_of_eq (Nat.succ_add_eq_add_succ x f))
theorem rev_le{i j n:Nat}(h:i<=j):0+n-1-j<=0+n-1-i:=Nat.sub_le_sub_left h _
theorem rev_lt{i n:Nat}(h:i<n):0+n-1-i<n:=by
 rw[Nat.zero_add]
 exact Nat.lt_of_le_of_lt (Nat.sub_le _ _) (Nat.sub_one_lt_of_le (Nat.lt_of_le_of_lt (Nat.zero_le _) h) (Nat.le_refl _))
theorem asc(ok:AskOk O key N cmp s){p:Array Nat}(hp:Ord N p){Q:Nat->Shared->Prop}:∀(f n:Nat),1<=n->n+f<=N->So key p n->(∀m,n<=m->m<=n+f->So key p m->(m=n+f\/O.klt (KN key p m) (KN key p (m-1)))->Q m s)->(kas_asc p f n).kasWp cmp Q s
 |0,n,_,_,hs,h=>h n (Nat.le_refl _) (Nat.le_refl _) hs (.inl rfl)
 |f+1,n,h1,hn,hs,h=>by
  have hnN:n<N:=lt_mid hn
  refine ok _ _ _ (hp.lt hnN) (hp.lt (pred_lt' h1 (Nat.le_of_lt hnN))) ?_
  cases hless:O.blt (key (p.getD n 0)) (key (p.getD (n-1) 0))with
  |true=>
   show Q n s
   exact h n (Nat.le_refl _) (Nat.le_add_right _ _) hs (.inr hless)
  |false=>
   show(kas_asc p f (n+1)).kasWp cmp Q s
   refine asc ok hp f (n+1) (Nat.succ_pos _) (up_one hn) (fun i j hij hj=> ?_) fun m a b c d=>h m (Nat.le_of_succ_le a) (up_le b) c (d.imp (fun z=>z.trans (Nat.succ_add_eq_add_succ n f)) id)
   by_cases hjn:j<n
   ·exact hs i j hij hjn
   ·have hj':j=n:=eq_top hj hjn
    subst hj'
    by_cases hi':i=j
    ·subst hi';exact KeyOrd.kle_refl _
    ·exact KeyOrd.kle_trans (hs i (j-1) (lt_pred hij hi') (pred_lt' h1 (Nat.le_refl _))) hless
theorem tail3(ok:AskOk O key N cmp s){p:Array Nat}(hp:Ord N p){n:Nat}{Q:Nat×Array Nat->Shared->Prop}(h1:1<=n)(hn:n<=N)(hs:Ni key p n)(h:∀m p',Ord N p'->1<=m->m<=N->So key p' m->Q (m,p') s):(kas_tail3 n N p).kasWp cmp Q s:=by
 unfold kas_tail3
 rw[KasT.kasWp_bind]
 have hsz:n<=p.size:=by rw[hp.size];exact hn
 have hN:n+(N-n)=N:=Nat.add_sub_cancel' hn
 refine asc ok (hp.rev 0 n) (N-n) n h1 (Nat.le_of_eq hN) (fun i j hij hj=> ?_) fun m a b c _=>h m _ (hp.rev 0 n) (Nat.le_trans h1 a) (Nat.le_trans b (Nat.le_of_eq hN)) c
 rw[KN_rev hsz,KN_rev hsz,if_pos ⟨Nat.zero_le _,Nat.lt_of_le_of_lt hij hj⟩,if_pos ⟨Nat.zero_le _,hj⟩]
 exact hs _ _ (rev_le hij) (rev_lt (Nat.lt_of_le_of_lt hij hj))
theorem desc1{p p':Array Nat}{x:Nat}(h1:1<=x)(hs:Ni key p x)(hless:O.kle (KN key p x) (KN key p (x-1)))(hk:∀k,KN key p' k=KN key p k):Ni key p' (x+1):=by
 intro i j hij hj
 rw[hk,hk]
 by_cases hjx:j<x
 ·exact hs i j hij hjx
 ·have hj':j=x:=eq_top hj hjx
  subst hj'
  by_cases hi':i=j
  ·subst hi';exact KeyOrd.kle_refl _
  ·exact KeyOrd.kle_trans hless (hs i (j-1) (lt_pred hij hi') (pred_lt' h1 (Nat.le_refl _)))
theorem one_eq{p:Array Nat}{x i:Nat}(h1:x+1-(0+1)<=i)(h2:i<x+1):KN key p i=KN key p (x+1-1):=congrArg _ (Nat.le_antisymm (Nat.le_of_lt_succ h2) h1)
theorem desc(ok:AskOk O key N cmp s){Q:Array Nat×Nat×Nat->Shared->Prop}:∀(f:Nat) (p:Array Nat) (x neq:Nat),Ord N p->1<=x->x+f<=N->Ni key p x->neq+1<=x->(∀i,x-(neq+1)<=i->i<x->KN key p i=KN key p (x-1))->
  (∀p' m q,Ord N p'->x<=m->m<=x+f->Ni key p' m->q+1<=m->(∀i,m-(q+1)<=i->i<m->KN key p' i=KN key p' (m-1))->Q (p',m,q) s)->(kas_desc f p x neq).kasWp cmp Q s
 |0,p,x,neq,hp,_,_,hs,hq,he,h=>h p x neq hp (Nat.le_refl _) (Nat.le_refl _) hs hq he
 |f+1,p,x,neq,hp,h1,hn,hs,hq,he,h=>by
  have hxN:x<N:=lt_mid hn
  have hsz:x<=p.size:=by rw[hp.size];exact Nat.le_of_lt hxN
  have hx1:x-1<N:=pred_lt' h1 (Nat.le_of_lt hxN)
  have hh:∀p' m q,Ord N p'->x+1<=m->m<=x+1+f->Ni key p' m->q+1<=m->(∀i,m-(q+1)<=i->i<m->KN key p' i=KN key p' (m-1))->Q (p',m,q) s:=fun p' m q a b c d e g=>h p' m q a (Nat.le_of_succ_le b) (up_le c) d e g
  refine ok _ _ _ (hp.lt hxN) (hp.lt hx1) ?_
  cases hless:O.blt (key (p.getD x 0)) (key (p.getD (x-1) 0))with
  |true=>
   show(if neq>0 then kas_desc f (kas_rev p (x-(neq+1)) x) (x+1) 0 else kas_desc f p (x+1) 0).kasWp cmp Q s
   by_cases hneq:neq>0
   ·rw[if_pos hneq]
    exact desc ok f _ (x+1) 0 (hp.rev _ _) (Nat.succ_pos _) (up_one hn) (desc1 h1 hs (KeyOrd.kle_of_klt hless) (zcq hsz he)) (Nat.succ_pos _) (fun i h1 h2=>one_eq h1 h2) hh
   ·rw[if_neg hneq]
    exact desc ok f _ (x+1) 0 hp (Nat.succ_pos _) (up_one hn) (desc1 h1 hs (KeyOrd.kle_of_klt hless) fun _=>rfl) (Nat.succ_pos _) (fun i h1 h2=>one_eq h1 h2) hh
  |false=>
   show(KasT.ask (p.getD (x-1) 0) (p.getD x 0) fun d=>if d=true then KasT.ret (p,x,neq)else kas_desc f p (x+1) (neq+1)).kasWp cmp Q s
   refine ok _ _ _ (hp.lt hx1) (hp.lt hxN) ?_
   cases hl:O.blt (key (p.getD (x-1) 0)) (key (p.getD x 0))with
   |true=>exact h p x neq hp (Nat.le_refl _) (Nat.le_add_right _ _) hs hq he
   |false=>
    show(kas_desc f p (x+1) (neq+1)).kasWp cmp Q s
    have heqx:KN key p x=KN key p (x-1):=KeyOrd.kle_antisymm hl hless
    refine desc ok f _ (x+1) (neq+1) hp (Nat.succ_pos _) (up_one hn) (desc1 h1 hs (by rw[heqx];exact KeyOrd.kle_refl _) fun _=>rfl) (Nat.succ_le_succ hq) (fun i h1 h2=> ?_) hh
    show KN key p i=KN key p x
    by_cases hix:i=x
    ·subst hix;rfl
    ·rw[heqx];exact he i (Nat.le_trans (Nat.le_of_eq (Nat.succ_sub_succ x (neq+1)).symm) h1) (Nat.lt_of_le_of_ne (Nat.le_of_lt_succ h2) hix)
theorem descPart(ok:AskOk O key N cmp s){p:Array Nat}(hp:Ord N p){n:Nat}{Q:Nat×Array Nat->Shared->Prop}(hn:n+1<=N)(hs:Ni key p (n+1))(h:∀m p',Ord N p'->1<=m->m<=N->So key p' m->Q (m,p') s):(kas_descPart n N p).kasWp cmp Q s:=by
 unfold kas_descPart
 rw[KasT.kasWp_bind]
 have hN:n+1+(N-(n+1))<=N:=Nat.le_of_eq (Nat.add_sub_cancel' hn)
 refine desc ok _ _ _ _ hp (Nat.succ_pos _) hN hs (Nat.succ_pos _) (fun i h1 h2=>one_eq h1 h2) fun p' m q a b c d e g=> ?_
 have hm:m<=N:=Nat.le_trans c hN
 have hm1:1<=m:=Nat.le_trans (Nat.succ_pos _) b
 have hsz:m<=p'.size:=by rw[a.size];exact hm
 dsimp only
 by_cases hq:q>0
 ·rw[if_pos hq]
  refine tail3 ok (a.rev _ _) hm1 hm (fun i j hij hj=> ?_) h
  rw[zcq hsz g,zcq hsz g]
  exact d i j hij hj
 ·rw[if_neg hq]
  exact tail3 ok a hm1 hm d h
theorem count(ok:AskOk O key N cmp s){p:Array Nat}(hp:Ord N p){Q:Nat×Array Nat->Shared->Prop}(h1:1<=N)(h:∀m p',Ord N p'->1<=m->m<=N->So key p' m->Q (m,p') s):(kas_count N p).kasWp cmp Q s:=by
 unfold kas_count
 rw[KasT.kasWp_bind]
 have hN:1+(N-1)=N:=Nat.add_sub_cancel' h1
 refine asc ok hp (N-1) 1 (Nat.le_refl _) (Nat.le_of_eq hN) (fun i j hij hj=>by
  have hj0:j=0:=Nat.lt_one_iff.mp hj
  subst hj0
  have hi0:i=0:=Nat.le_zero.mp hij
  subst hi0;exact KeyOrd.kle_refl _) fun n a b hsn hor=> ?_
 have hnN:n<=N:=Nat.le_trans b (Nat.le_of_eq hN)
 by_cases hnn:n=N
 ·rw[if_pos (by simpa using hnn)]
  exact h n p hp a hnN hsn
 ·rw[if_neg (by simpa using hnn)]
  have hlt:O.klt (KN key p n) (KN key p (n-1)):=hor.resolve_left fun z=>hnn (z.trans hN)
  have hln:n<N:=Nat.lt_of_le_of_ne hnN hnn
  by_cases hgt:n>1
  ·rw[if_pos hgt]
   have hn1:n-1<n:=pred_lt' a (Nat.le_refl _)
   refine ok _ _ _ (hp.lt h1) (hp.lt (Nat.lt_trans hn1 hln)) ?_
   cases hrose:O.blt (key (p.getD 0 0)) (key (p.getD (n-1) 0))with
   |true=>exact h n p hp a hnN hsn
   |false=>
    show(kas_descPart n N (kas_rev p 0 n)).kasWp cmp Q s
    have hsz:n<=p.size:=by rw[hp.size];exact hnN
    have hall:∀k,0<=k->k<n->KN key p k=KN key p (n-1):=fun k _ hk=>
     KeyOrd.kle_antisymm (hsn k (n-1) (Nat.le_sub_one_of_lt hk) hn1) (KeyOrd.kle_trans hrose (hsn 0 k (Nat.zero_le _) hk))
    refine descPart ok (hp.rev 0 n) hln (fun i j hij hj=> ?_) h
    rw[zcq hsz hall,zcq hsz hall]
    by_cases hjn:j<n
    ·rw[hall i (Nat.zero_le _) (Nat.lt_of_le_of_lt hij hjn),hall j (Nat.zero_le _) hjn];exact KeyOrd.kle_refl _
    ·have hj':j=n:=eq_top hj hjn
     subst hj'
     by_cases hi':i=j
     ·subst hi';exact KeyOrd.kle_refl _
     ·rw[hall i (Nat.zero_le _) (Nat.lt_of_le_of_ne hij hi')];exact KeyOrd.kle_of_klt hlt
  ·rw[if_neg hgt]
   have hn1':n=1:=Nat.le_antisymm (Nat.not_lt.mp hgt) a
   subst hn1'
   refine descPart ok hp hln (fun i j hij hj=> ?_) h
   by_cases hi':i=j
   ·subst hi';exact KeyOrd.kle_refl _
   ·have hij':i<j:=Nat.lt_of_le_of_ne hij hi'
    have hj1:j=1:=Nat.le_antisymm (Nat.le_of_lt_succ hj) (Nat.lt_of_le_of_lt (Nat.zero_le i) hij')
    subst hj1
    have hi0:i=0:=Nat.lt_one_iff.mp hij'
    subst hi0
    exact KeyOrd.kle_of_klt hlt
theorem half_lt{l r:Nat}(h:l<r):(l+r)/2<r:=by omega
theorem half_ge{l r:Nat}(h:l<r):l<=(l+r)/2:=by omega
theorem place(ok:AskOk O key N cmp s){p:Array Nat}(hp:Ord N p){k:Nat}{Q:Nat->Shared->Prop}(hk:k<N)(hs:So key p k):∀(f l r:Nat),l<=r->r<=k->r-l<=f->(∀i,i<l->O.kle (KN key p i) (KN key p k))->(∀i,r<=i->i<k->O.klt (KN key p k) (KN key p i))->
  (∀l,l<=k->(∀i,i<l->O.kle (KN key p i) (KN key p k))->(∀i,l<=i->i<k->O.klt (KN key p k) (KN key p i))->Q l s)->(kas_place p k f l r).kasWp cmp Q s
 |0,l,r,hlr,hrk,hm,hlo,hhi,h=>by
  have e:l=r:=Nat.le_antisymm hlr (Nat.sub_eq_zero_iff_le.mp (Nat.le_zero.mp hm))
  subst e
  exact h l hrk hlo hhi
 |f+1,l,r,hlr,hrk,hm,hlo,hhi,h=>by
  show(if l≥r then KasT.ret l else KasT.ask (p.getD k 0) (p.getD ((l+r)/2) 0) fun c=>if c=true then kas_place p k f l ((l+r)/2)else kas_place p k f ((l+r)/2+1) r).kasWp cmp Q s
  by_cases hge:l≥r
  ·rw[if_pos hge]
   have e:l=r:=Nat.le_antisymm hlr hge
   subst e
   exact h l hrk hlo hhi
  ·rw[if_neg hge]
   have hc:(l+r)/2<r:=half_lt (Nat.not_le.mp hge)
   have hd:l<=(l+r)/2:=half_ge (Nat.not_le.mp hge)
   generalize (l+r)/2=c at hc hd⊢
   refine ok _ _ _ (hp.lt hk) (hp.lt (Nat.lt_trans (Nat.lt_of_lt_of_le hc hrk) hk)) ?_
   cases hless:O.blt (key (p.getD k 0)) (key (p.getD c 0))with
   |true=>
    refine place ok hp hk hs f l c hd (Nat.le_of_lt (Nat.lt_of_lt_of_le hc hrk)) (Nat.le_of_lt_succ (Nat.lt_of_lt_of_le (Nat.sub_lt_sub_right hd hc) hm)) hlo (fun i h1 h2=> ?_) h
    by_cases hi:i=c
    ·subst hi;exact hless
    ·exact KeyOrd.klt_of_klt_of_kle hless (hs c i h1 h2)
   |false=>
    refine place ok hp hk hs f (c+1) r hc hrk (Nat.le_of_lt_succ (Nat.lt_of_lt_of_le (Nat.sub_lt_sub_left (Nat.lt_of_le_of_lt hd hc) (Nat.lt_succ_of_le hd)) hm)) (fun i h1=> ?_) hhi h
    by_cases hi:i=c
    ·subst hi;exact hless
    ·exact KeyOrd.kle_trans (hs i c (Nat.le_of_lt_succ h1) (Nat.lt_of_lt_of_le hc hrk)) hless
theorem bins1{p:Array Nat}{k l:Nat}(hs:So key p k)(hl:l<=k)(hsz:k<p.size)(hlo:∀i,i<l->O.kle (KN key p i) (KN key p k))(hhi:∀i,l<=i->i<k->O.klt (KN key p k) (KN key p i)):So key (bubble p k (k-l)) (k+1):=by
 intro i j hij hj
 have e:k-(k-l)=l:=Nat.sub_sub_self hl
 rw[KN_bub hsz (Nat.sub_le _ _),KN_bub hsz (Nat.sub_le _ _),e]
 have hjk:j<=k:=Nat.le_of_lt_succ hj
 by_cases hi1:i=l
 ·rw[if_pos hi1]
  by_cases hj1:j=l
  ·rw[if_pos hj1];exact KeyOrd.kle_refl _
  ·have lj:l<j:=Nat.lt_of_le_of_ne (hi1▸hij) (Ne.symm hj1)
   rw[if_neg hj1,if_pos ⟨lj,hjk⟩]
   exact KeyOrd.kle_of_klt (hhi (j-1) (Nat.le_sub_one_of_lt lj) (Nat.sub_one_lt_of_le (Nat.lt_of_le_of_lt (Nat.zero_le _) lj) hjk))
 ·rw[if_neg hi1]
  by_cases hi2:l<i/\i<=k
  ·have lj:l<j:=Nat.lt_of_lt_of_le hi2.1 hij
   rw[if_pos hi2,if_neg (Ne.symm (Nat.ne_of_lt lj)),if_pos ⟨lj,hjk⟩]
   exact hs _ _ (Nat.sub_le_sub_right hij 1) (Nat.sub_one_lt_of_le (Nat.lt_of_le_of_lt (Nat.zero_le _) lj) hjk)
  ·rw[if_neg hi2]
   have il:i<l:=Nat.lt_of_le_of_ne (Nat.not_lt.mp fun z=>hi2 ⟨z,Nat.le_trans hij hjk⟩) hi1
   by_cases hj1:j=l
   ·rw[if_pos hj1];exact hlo i il
   ·rw[if_neg hj1]
    by_cases hj2:l<j/\j<=k
    ·rw[if_pos hj2];exact hs _ _ (Nat.le_sub_one_of_lt (Nat.lt_trans il hj2.1)) (Nat.sub_one_lt_of_le (Nat.lt_of_le_of_lt (Nat.zero_le _) hj2.1) hjk)
    ·rw[if_neg hj2];exact hs _ _ hij (Nat.lt_of_lt_of_le (Nat.lt_of_le_of_ne (Nat.not_lt.mp fun z=>hj2 ⟨z,hjk⟩) hj1) hl)
theorem bins(ok:AskOk O key N cmp s){Q:Array Nat->Shared->Prop}:∀(f:Nat) (p:Array Nat) (k:Nat),Ord N p->1<=k->k+f=N->So key p k->(∀p',Ord N p'->So key p' N->Q p' s)->(kas_bin f p k).kasWp cmp Q s
 |0,p,k,hp,_,hf,hs,h=>h p hp ((show k=N from hf)▸hs)
 |f+1,p,k,hp,h1,hf,hs,h=>by
  show((kas_place p k k 0 k).bind fun l=>kas_bin f (bubble p k (k-l)) (k+1)).kasWp cmp Q s
  rw[KasT.kasWp_bind]
  have hk:k<N:=lt_mid (Nat.le_of_eq hf)
  have hsz:k<p.size:=by rw[hp.size];exact hk
  refine place ok hp hk hs k 0 k (Nat.zero_le _) (Nat.le_refl _) (Nat.sub_le _ _) (fun i hi=>absurd hi (Nat.not_lt_zero _)) (fun i h1 h2=>absurd h2 (Nat.not_lt.mpr h1)) fun l hl hlo hhi=> ?_
  exact bins ok f _ (k+1) (hp.bub _ _) (Nat.succ_pos _) ((Nat.succ_add_eq_add_succ k f).trans hf) (bins1 hs hl hsz hlo hhi) h
theorem sort(ok:AskOk O key N cmp s){Q:Array Nat->Shared->Prop}(h1:1<=N)(h:∀p',Ord N p'->So key p' N->Q p' s):(kas_sort N).kasWp cmp Q s:=by
 unfold kas_sort
 rw[KasT.kasWp_bind]
 refine count ok ⟨Array.Perm.refl _⟩ h1 fun m p' hp hm1 hm2 hs=> ?_
 dsimp only
 by_cases hlt:m<N
 ·rw[if_pos hlt]
  have e:max m 1=m:=by omega
  rw[e]
  exact bins ok _ _ _ hp hm1 (by omega) hs h
 ·rw[if_neg hlt]
  have e:m=N:=by omega
  subst e
  exact h p' hp hs
end
end Srt
namespace Srt
open PySem PySem.W PyProof.Rows PySem.Calls
noncomputable def Outs{O:KeyOrd}(key:Nat->O.α)(vs out:List Value):Prop:=∃p:Array Nat,Ord vs.length p/\So key p vs.length/\out=p.toList.map fun i=>vs.getD i Value.none
section
variable{prog:Program}{w:World}{A:Around}{E:Value->Shared->Prop}{s:Shared}{O:KeyOrd}{key:Nat->O.α}{κ:SortKind}{vs:List Value}
theorem outs_small(h2:vs.length<2):Outs key vs vs:=by
 refine⟨List.toArray (List.range vs.length),⟨Array.Perm.refl _⟩,fun i j hij hj=> ?_,?_⟩
 ·have e:i=j:=by omega
  subst e;exact KeyOrd.kle_refl _
 ·match vs,h2 with
  |[],_=>rfl
  |[v],_=>rfl
  |_::_::_,h=>simp at h;omega
theorem list_sort_own{a:Addr}{n:Nat}{P:PySem.Fin->Shared->Prop}(ho:s.heap.get? a=some (seqObj "list" vs.toArray n))(h64:vs.length<64)(hkind:2<=vs.length->∀h',(∀b o,b≠a->s.heap.get? b=some o->h'.get? b=some o)->∀Q:SortKind->Shared->Prop,Q κ {s with heap:=h'}->wpAny (model prog w) A (keyKind' vs.toArray) Q E {s with heap:=h'})(hask:2<=vs.length->∀h',(∀b o,b≠a->s.heap.get? b=some o->h'.get? b=some o)->AskOk O key vs.length (kas_ask prog w A κ vs) {s with heap:=h'})(h:∀h' out c,Outs key vs out->(∀b o,b≠a->s.heap.get? b=some o->h'.get? b=some o)->h'.get? a=some (seqObj "list" (List.toArray out) c)->P (.done (.ret .none)) {s with heap:=h'}):
  wpAny (model prog w) A (Builtin.«list.sort» ⟨[.ref a],[]⟩) P E s:=by
 have ha:a<s.heap.objs.size:=Heap.lt_size ho
 have s1:=Heap.SameBut.update s.heap a (Obj.mapSeq fun _=>(#[]:Array Value))
 obtain⟨e1,ho1⟩:∃e1,(s.heap.update a (Obj.mapSeq fun _=>(#[]:Array Value))).get? a=some (seqObj "list" #[] e1):=⟨_,get?_update_seq ho fun _=>#[]⟩
 have keep:∀b o,b≠a->s.heap.get? b=some o->(((s.heap.update a (Obj.mapSeq fun _=>(#[]:Array Value))).push (seqObj "tuple" vs.toArray 0)).push (seqObj "list" #[] 0)).get? b=some o:=fun b o hb e=>
  Heap.get?_push_of_some _ (Heap.get?_push_of_some _ ((s1.2 b hb).trans e))
 have ho6:(((s.heap.update a (Obj.mapSeq fun _=>(#[]:Array Value))).push (seqObj "tuple" vs.toArray 0)).push (seqObj "list" #[] 0)).get? a=some (seqObj "list" #[] e1):=Heap.get?_push_of_some _ (Heap.get?_push_of_some _ ho1)
 rw[list_sort_plain]
 refine wpAny_bind (listItems_at ho rfl ?_)
 refine wpAny_bind (listUpdate_at ho rfl ?_ (by rw[List.size_toArray,sizeLine_eq];omega) (Nat.zero_le _))
 refine wpAny_bind (seqEpoch_at ho1 rfl ?_)
 refine wpAny_bind (wpAny_newTuple ?_ (by show vs.length<=_;rw[sizeLine_eq];omega))
 refine wpAny_bind (wpAny_newList ?_ (Nat.zero_le _))
 refine wpAny_holding ?_
 show wpAny (model prog w) A _ P E {s with heap:=((s.heap.update a (Obj.mapSeq fun _=>(#[]:Array Value))).push (seqObj "tuple" vs.toArray 0)).push (seqObj "list" #[] 0)}
 dsimp only
 by_cases h2:vs.toArray.size<2
 ·have h2':vs.length<2:=by simpa using h2
  rw[if_pos h2,if_pos h2]
  refine wpAny_bind (wpAny_pure ?_)
  rw[StateT.run_pure]
  refine wpAny_bind (wpAny_pure ?_)
  dsimp only
  refine wpAny_bind (seqEpoch_at ho6 rfl ?_)
  refine wpAny_bind (listUpdate_at ho6 rfl ?_ (Nat.zero_le _) (by rw[Array.size_map];show(pairsOf vs).size<=_;rw[pairsOf_size,sizeLine_eq];omega))
  simp only[bne_self_eq_false,Bool.false_eq_true,if_false]
  refine wpAny_pure ?_
  have eo:(vs.toArray.zip vs.toArray).map (·.2)=List.toArray vs:=by
   apply Array.toList_inj.mp
   simp[List.map_snd_zip]
  have s2:=Heap.SameBut.update (((s.heap.update a (Obj.mapSeq fun _=>(#[]:Array Value))).push (seqObj "tuple" vs.toArray 0)).push (seqObj "list" #[] 0)) a (Obj.mapSeq fun _=>List.toArray vs)
  obtain⟨c2,hc2⟩:∃c2,((((s.heap.update a (Obj.mapSeq fun _=>(#[]:Array Value))).push (seqObj "tuple" vs.toArray 0)).push (seqObj "list" #[] 0)).update a (Obj.mapSeq fun _=>List.toArray vs)).get? a=some (seqObj "list" (List.toArray vs) c2):=⟨_,get?_update_seq ho6 fun _=>List.toArray vs⟩
  have fin:=h _ vs c2 (outs_small h2') (fun b o hb e=>(s2.2 b hb).trans (keep b o hb e)) hc2
  first
   |exact fin
   |(rw[<-eo]at fin;exact fin)
   |(show P _ {s with heap:=Heap.update _ a (Obj.mapSeq fun _=>(vs.toArray.zip vs.toArray).map (·.2))};rw[eo];exact fin)
 ·have h2':2<=vs.length:=by rw[List.size_toArray]at h2;omega
  rw[if_neg h2,if_neg h2]
  refine wpAny_bind (hkind h2' _ keep _ ?_)
  refine wpAny_bind (wpAny_mono (kat_run (Q:=fun st' s'=>s'={s with heap:=((s.heap.update a (Obj.mapSeq fun _=>(#[]:Array Value))).push (seqObj "tuple" vs.toArray 0)).push (seqObj "list" #[] 0)}/\∃p:Array Nat,p.size=vs.length/\arrOf st'=p.map (kas_item (vs.toArray.zip vs.toArray))/\failedOf st'=none/\Ord vs.length p/\So key p vs.length)
   (G:=fun p s'=>s'={s with heap:=((s.heap.update a (Obj.mapSeq fun _=>(#[]:Array Value))).push (seqObj "tuple" vs.toArray 0)).push (seqObj "list" #[] 0)}/\Ord vs.length p/\So key p vs.length)
   rfl h2' h64 (fun p' st' s' a1 a2 a3 a4=>⟨a4.1,p',a1,a2,a3,a4.2.1,a4.2.2⟩) (sort (hask h2' _ keep) (by omega) fun p' hp hs=>⟨rfl,hp,hs⟩)) ?_ fun _ _ e=>e)
  rintro⟨⟨⟩,st'⟩ s' ⟨rfl,p,hp,har,hf,hor,hso⟩
  dsimp only
  have hout:=kat_snds rfl har
  have hsz:(List.toArray (p.toList.map fun i=>vs.getD i Value.none)).size=vs.length:=by rw[List.size_toArray,List.length_map,Array.length_toList,hp]
  rw[hout]
  refine wpAny_bind (seqEpoch_at ho6 rfl ?_)
  refine wpAny_bind (listUpdate_at ho6 rfl ?_ (Nat.zero_le _) (Nat.le_trans (Nat.le_of_eq hsz) (by rw[sizeLine_eq];omega)))
  rw[hf]
  simp only[bne_self_eq_false,Bool.false_eq_true,if_false]
  have s2:=Heap.SameBut.update (((s.heap.update a (Obj.mapSeq fun _=>(#[]:Array Value))).push (seqObj "tuple" vs.toArray 0)).push (seqObj "list" #[] 0)) a (Obj.mapSeq fun _=>List.toArray (p.toList.map fun i=>vs.getD i Value.none))
  obtain⟨c2,hc2⟩:∃c2,((((s.heap.update a (Obj.mapSeq fun _=>(#[]:Array Value))).push (seqObj "tuple" vs.toArray 0)).push (seqObj "list" #[] 0)).update a (Obj.mapSeq fun _=>List.toArray (p.toList.map fun i=>vs.getD i Value.none))).get? a=some (seqObj "list" (List.toArray (p.toList.map fun i=>vs.getD i Value.none)) c2):=⟨_,get?_update_seq ho6 fun _=>_⟩
  exact wpAny_pure (h _ _ c2 ⟨p,hor,hso,rfl⟩ (fun b o hb e=>(s2.2 b hb).trans (keep b o hb e)) hc2)
theorem sorted_own{l:Addr}{Q:Value->Shared->Prop}(hl:s.heap.IsList l vs.toArray)(h64:vs.length<64)(hkind:2<=vs.length->∀h',(∀b o,s.heap.get? b=some o->h'.get? b=some o)->∀(E:Value->Shared->Prop) (Q:SortKind->Shared->Prop),Q κ {s with heap:=h'}->wpAny (model prog w) A.in1.in1 (keyKind' vs.toArray) Q E {s with heap:=h'})(hask:2<=vs.length->∀h',(∀b o,s.heap.get? b=some o->h'.get? b=some o)->AskOk O key vs.length (kas_ask prog w A.in1.in1 κ vs) {s with heap:=h'})(h:∀D h' out c,Outs key vs out->s.heap.objs.size<=D->(∀b o,s.heap.get? b=some o->h'.get? b=some o)->h'.get? D=some (seqObj "list" (List.toArray out) c)->Q (.ref D) {s with heap:=h'}):
  wpAny (model prog w) A (call (.builtin "sorted") [.ref l]) Q E s:=by
 refine Calls.call_function_entry kind_sorted plain_sorted entry_sorted (args_sorted1 _) ?_
 unfold Builtin.«sorted»
 refine wpAny_bind (m:=checkCount "sorted" 1 1 _) (wpAny_pure ?_)
 refine wpAny_bind (collect_list hl ?_ (by rw[sizeLine_eq];omega))
 refine wpAny_bind (wpAny_newList ?_ (by rw[sizeLine_eq];omega))
 have hsz:((s.heap.push (seqObj "list" #[] 0)).update s.heap.objs.size (Obj.mapSeq (· ++vs.toArray))).objs.size=s.heap.objs.size+1:=by
  rw[Heap.size_update,size_push']
 have hoL:(((s.heap.push (seqObj "list" #[] 0)).update s.heap.objs.size (Obj.mapSeq (· ++vs.toArray))).push (seqObj "list" vs.toArray 0)).get? (s.heap.objs.size+1)=some (seqObj "list" vs.toArray 0):=by
  rw[<-hsz];exact Heap.get?_push_size _ rfl
 have keep:∀b o,s.heap.get? b=some o->(((s.heap.push (seqObj "list" #[] 0)).update s.heap.objs.size (Obj.mapSeq (· ++vs.toArray))).push (seqObj "list" vs.toArray 0)).get? b=some o:=fun b o q=>by
  have hlt:b<s.heap.objs.size:=Heap.lt_size q
  rw[Heap.get?_push_ne _ _ _ (by rw[hsz];exact Nat.ne_of_lt (Nat.lt_succ_of_lt hlt)),Heap.get?_update_ne _ _ _ _ (Nat.ne_of_lt hlt),Heap.get?_push_ne _ _ _ (Nat.ne_of_lt hlt)]
  exact q
 have ne:∀b o,s.heap.get? b=some o->b≠s.heap.objs.size+1:=fun b o q=>Nat.ne_of_lt (Nat.lt_succ_of_lt (Heap.lt_size q))
 show wpAny _ _ _ _ _ {s with heap:=((s.heap.push (seqObj "list" #[] 0)).update s.heap.objs.size (Obj.mapSeq (· ++vs.toArray))).push (seqObj "list" vs.toArray 0)}
 rw[hsz]
 refine wpAny_bind (wpAny_holding (wpAny_call_entry slot_list_sort ⟨_,hoL,rfl⟩ entry_list_sort ?body (args_list_sort _)))
 case body=>
  refine list_sort_own (key:=key) (κ:=κ) (s:={s with heap:=((s.heap.push (seqObj "list" #[] 0)).update s.heap.objs.size (Obj.mapSeq (· ++vs.toArray))).push (seqObj "list" vs.toArray 0)}) hoL h64
   (fun h2 h' k Q hq=>hkind h2 h' (fun b o q=>k b o (ne b o q) (keep b o q)) _ Q hq) (fun h2 h' k=>hask h2 h' fun b o q=>k b o (ne b o q) (keep b o q)) fun h' out c ho k hc=> ?_
  exact⟨_,rfl,wpAny_pure ⟨_,rfl,h _ h' out c ho (Nat.le_succ _) (fun b o q=>k b o (ne b o q) (keep b o q)) hc⟩⟩
end
end Srt
namespace HT
open PySem PyProof.Rows
theorem lexLt_iff:∀(a b:List Int),lexLt a b=decide (a<b)
 |[],[]=>by simp[lexLt]
 |[],_::_=>by simp[lexLt]
 |_::_,[]=>by simp[lexLt]
 |x::xs,y::ys=>by
  rw[lexLt_cons,lexLt_iff xs ys]
  by_cases e:x=y
  ·subst e;simp
  ·rw[if_neg e]
   by_cases l:x<y
   ·simp[l,List.cons_lt_cons_iff]
   ·have:¬(x::xs<y::ys):=by rw[List.cons_lt_cons_iff];simp[l,e]
    simp[l,this]
end HT
namespace Srt
open PySem PySem.W PyProof.Rows PySem.Calls
noncomputable def lexOrd:KeyOrd where
 α:=List Int
 blt a b:=decide (a<b)
 irrefl a:=by simpa using List.lt_irrefl a
 trans a b c h1 h2:=by simp only[decide_eq_true_eq]at *;exact List.lt_trans h1 h2
 negTrans a b c h:=by
  simp only[decide_eq_true_eq]at *
  by_cases hab:a<b
  ·exact .inl hab
  ·exact .inr (List.lt_of_le_of_lt (List.not_lt.mp hab) h)
 total a b h1 h2:=by simp only[decide_eq_false_iff_not]at *;exact List.le_antisymm (List.not_lt.mp h2) (List.not_lt.mp h1)
section
variable{prog:Program}{w:World}{A:Around}{E:Value->Shared->Prop}{s:Shared}{Q:Bool->Shared->Prop}
theorem lex_ints{na nb:Nat}{xs ys:List Value}{ns ms:List Int}(i:Nat)(hx:IntsAre xs ns)(hy:IntsAre ys ms)(hl:ns.length+nb=ms.length+na)(h:Q (HT.lexLt ns ms) s):KatLex prog w A true (decide (na<nb)) Q (xs.zip ys) i s:=by
 induction hx generalizing ys ms i with
 |nil=>
  rw[List.zip_nil_left]
  refine kat_nil ?_
  cases hy with
  |nil=>
   rw[HT.lexLt_nil_nil]at h
   rw[decide_eq_false (by simp only[List.length_nil]at hl;omega)];exact h
  |cons c u hw=>
   rw[HT.lexLt_nil_cons]at h
   rw[decide_eq_true (by simp only[List.length_nil,List.length_cons]at hl;omega)];exact h
 |cons a t hv ih=>
  cases hy with
  |nil=>
   rw[List.zip_nil_right]
   refine kat_nil ?_
   rw[HT.lexLt_cons_nil]at h
   rw[decide_eq_false (by simp only[List.length_nil,List.length_cons]at hl;omega)];exact h
  |cons c u hw=>
   rw[List.zip_cons_cons]
   rw[HT.lexLt_cons]at h
   refine kat_cons (wpAny_eqBool_int ?_)
   refine kat_go (fun e=> ?_) fun e=> ?_
   ·have e':a=c:=by simpa using e
    rw[if_pos e']at h
    exact kat_yes (ih (i+1) hw (by simp only[List.length_cons]at hl;omega) h)
   ·have e':a≠c:=by simpa using e
    rw[if_neg e']at h
    refine kat_no ?_
    cases i with
    |zero=>exact oneLt_int h
    |succ i=>exact kat_one _ _ (lt_int (show PySem.W.BoolBack Q (.bool (decide (a<c))) s from h))
end
theorem outs_of{O:KeyOrd}{key:Nat->O.α}{α:Type}{vs out:List Value}{its:List α}{d:α}{f:α->O.α}{R:α->Value->Prop}(hR:Paired R its vs)(hk:∀i (hi:i<its.length),key i=f its[i])(h:Outs key vs out):
  ∃its':List α,its'.Perm its/\Paired R its' out/\its'.Pairwise fun x y=>O.kle (f x) (f y):=by
 obtain⟨p,hp,hs,rfl⟩:=h
 have hl:=hR.length
 have get:∀{l₁:List α} {l₂:List Value} {i:Nat},Paired R l₁ l₂->(h:i<l₁.length)->∃v,l₂[i]? =some v/\R l₁[i] v:=by
  intro l₁ l₂ i q
  induction q generalizing i with
  |nil=>intro h;simp at h
  |cons r t ih=>
   intro h
   cases i with
   |zero=>exact⟨_,rfl,r⟩
   |succ i=>
    obtain⟨v,e,rv⟩:=ih (i:=i) (by simpa using h)
    exact⟨v,by simpa using e,by simpa using rv⟩
 have hlt:∀i∈p.toList,i<its.length:=fun i hi=>by
  have:=(Array.perm_iff_toList_perm.mp hp.perm).mem_iff.mp hi
  rw[hl];simpa using this
 refine⟨p.toList.map fun i=>its.getD i d,?_,?_,?_⟩
 ·have q:=(Array.perm_iff_toList_perm.mp hp.perm).map (fun i=>its.getD i d)
  refine q.trans ?_
  have e:(List.toArray (List.range vs.length)).toList.map (fun i=>its.getD i d)=its:=by
   rw[<-hl]
   apply List.ext_getElem?
   intro i
   simp only[List.getElem?_map]
   by_cases hi:i<its.length
   ·simp[hi]
   ·simp[hi]
  rw[e]
 ·have mk:∀l:List Nat,(∀i∈l,i<its.length)->Paired R (l.map fun i=>its.getD i d) (l.map fun i=>vs.getD i Value.none):=by
   intro l
   induction l with
   |nil=>intro _;exact .nil
   |cons i l ih=>
    intro hb
    refine .cons ?_ (ih fun j hj=>hb j (List.mem_cons_of_mem _ hj))
    have hi:=hb i List.mem_cons_self
    obtain⟨v,e,r⟩:=get hR hi
    have e1:its.getD i d=its[i]:=by simp[hi]
    have e2:vs.getD i Value.none=v:=by rw[List.getD_eq_getElem?_getD,e];rfl
    show R (its.getD i d) (vs.getD i Value.none)
    rw[e1,e2];exact r
  exact mk _ hlt
 ·rw[List.pairwise_iff_getElem]
  intro i j hi hj hij
  simp only[List.length_map,Array.length_toList]at hi hj
  simp only[List.getElem_map]
  have hsz:=hp.size
  have q:=hs i j (by omega) (by omega)
  have e:∀k (hk':k<p.size),KN key p k=f (its.getD p.toList[k] d):=fun k hk'=>by
   have e1:p.getD k 0=p.toList[k]:=by simp[Array.getD,hk']
   have hb:=hlt p.toList[k] (List.getElem_mem _)
   have e2:its.getD p.toList[k] d=its[p.toList[k]]:=by simp only[List.getD_eq_getElem?_getD,List.getElem?_eq_getElem hb,Option.getD_some]
   unfold KN
   rw[e1,e2]
   exact hk _ hb
  rw[e i hi,e j hj]at q
  exact q
end Srt
namespace L2
open PySem PySem.Spec PyProof.Rows PySem.W
section
variable{X:Cx}
end
end L2
namespace L2
open PySem PySem.Spec PyProof.Rows
section
variable{X:Cx}
theorem bools_of:∀{bs:List Bool} {us:List Value},Vals (bs.map V.bl) us->us=bs.map Value.bool
 |[],_,h=>by cases h;rfl
 |b::bs,_,h=>by
  cases h with
  |cons r t=>rw[List.map_cons,bools_of t];exact congrArg (· ::_) r
theorem call_all(hc:X.calm=true):CallR X (.builtin "all") (fun xs H Q=>∃(a:Addr) (bs:List Bool),xs=[.ref a]/\SqL X.K H a (bs.map V.bl)/\Q (.bl (bs.all id)) H):=by
 intro pins s σ H xs us Q I r h
 obtain⟨a,bs,rfl,hS,q⟩:=h
 obtain⟨u,rfl,ru⟩:=r.one
 cases ru
 obtain⟨vs,rv,pl,hz⟩:=I.list hS
 have hv:=bools_of rv
 have hl:=pl.isList
 have hlt:a<s.heap.objs.size:=by obtain⟨_,e,_⟩:=hl;exact Heap.lt_size e
 refine call_all_walk (wpAny_pyIter_list hl ?_)
 refine⟨s.heap.objs.size,[s.heap.objs.size,a],[s.heap.objs.size],vs.toArray.size,_,_,fun i=>(bs[i]?).getD true,rfl,Walks.list (A:=X.A.in1) (I.ok.hd hc) _ a (Nat.ne_of_lt hlt) vs.toArray,
  ⟨⟨_,Heap.get?_push_size _ rfl,rfl,rfl⟩,hl.push _⟩,fun i v s' Q' E' hP hQ=> ?_,fun h' tk hk=> ?_⟩
 ·have hP':vs[i]? =some v:=by simpa using hP
  rw[hv,List.getElem?_map]at hP'
  cases e:bs[i]? with
  |none=>rw[e]at hP';cases hP'
  |some b=>
   rw[e]at hP'
   cases hP'
   simp only[e,Option.getD_some]at hQ
   exact wpAny_truthy_bool hQ
 ·have e:((List.range vs.toArray.size).all fun i=>(bs[i]?).getD true)=bs.all id:=by
   rw[List.size_toArray,hv,List.length_map];exact LSm.range_all bs
  rw[e]
  exact⟨.bl _,H,I.kept (LSm.kept_iter hk),rfl,q⟩
theorem call_any(hc:X.calm=true):CallR X (.builtin "any") (fun xs H Q=>∃(a:Addr) (bs:List Bool),xs=[.ref a]/\SqL X.K H a (bs.map V.bl)/\Q (.bl (bs.any id)) H):=by
 intro pins s σ H xs us Q I r h
 obtain⟨a,bs,rfl,hS,q⟩:=h
 obtain⟨u,rfl,ru⟩:=r.one
 cases ru
 obtain⟨vs,rv,pl,hz⟩:=I.list hS
 have hv:=bools_of rv
 have hl:=pl.isList
 have hlt:a<s.heap.objs.size:=by obtain⟨_,e,_⟩:=hl;exact Heap.lt_size e
 refine call_any_walk (wpAny_pyIter_list hl ?_)
 refine⟨s.heap.objs.size,[s.heap.objs.size,a],[s.heap.objs.size],vs.toArray.size,_,_,fun i=>(bs[i]?).getD false,rfl,Walks.list (A:=X.A.in1) (I.ok.hd hc) _ a (Nat.ne_of_lt hlt) vs.toArray,
  ⟨⟨_,Heap.get?_push_size _ rfl,rfl,rfl⟩,hl.push _⟩,fun i v s' Q' E' hP hQ=> ?_,fun h' tk hk=> ?_⟩
 ·have hP':vs[i]? =some v:=by simpa using hP
  rw[hv,List.getElem?_map]at hP'
  cases e:bs[i]? with
  |none=>rw[e]at hP';cases hP'
  |some b=>
   rw[e]at hP'
   cases hP'
   simp only[e,Option.getD_some]at hQ
   exact wpAny_truthy_bool hQ
 ·have e:((List.range vs.toArray.size).any fun i=>(bs[i]?).getD false)=bs.any id:=by
   rw[List.size_toArray,hv,List.length_map];exact LSm.range_any bs
  rw[e]
  exact⟨.bl _,H,I.kept (LSm.kept_iter hk),rfl,q⟩
noncomputable def KindV(K:W.Frag)(H:Hp):V->String->Prop
 | .non,T=>T="NoneType"
 | .bl _,T=>T="bool"
 | .int _,T=>T="int"
 | .str _,T=>T="str"
 | .ref a,T=>(T="tuple"/\∃xs,SqT K H a xs)\/(T="list"/\∃xs,SqL K H a xs)\/(T="dict"/\∃kvs,H a=some (.dK kvs))
 |_,_=>False
noncomputable def isiB(T C:String):Bool:=T==C||(T=="bool"&&C=="int")
theorem zdh:CallR X (.builtin "isinstance") (fun xs H Q=>∃(x:V) (T C:String),xs=[x,.ty C]/\KindV X.K H x T/\(C="int"\/C="bool"\/C="tuple"\/C="list")/\Q (.bl (isiB T C)) H):=by
 intro pins s σ H xs us Q I r h
 obtain⟨x,T,C,rfl,hk,hC,q⟩:=h
 obtain⟨u,v,rfl,ru,rv⟩:=r.two
 cases rv
 have fin0:∀b,b=isiB T C->EP X pins σ Q (.bool b) s:=fun b e=>⟨.bl b,H,I,rfl,by rw[e];exact q⟩
 have fin1:∀b,b=isiB T C->EP X pins σ Q (.bool b) {s with toks:=s.toks+1}:=fun b e=>⟨.bl b,H,I.tok _,rfl,by rw[e];exact q⟩
 cases x with
 |non=>
  cases ru;cases hk
  rcases hC with rfl|rfl|rfl|rfl
  ·exact IsiPair.NoneType_int (fin1 _ rfl)
  ·exact IsiPair.NoneType_bool (fin1 _ rfl)
  ·exact IsiPair.NoneType_tuple (fin1 _ rfl)
  ·exact IsiPair.NoneType_list (fin1 _ rfl)
 |bl b=>
  cases ru;cases hk
  rcases hC with rfl|rfl|rfl|rfl
  ·exact IsiPair.bool_int (fin0 _ rfl)
  ·exact IsiPair.bool_bool (fin0 _ rfl)
  ·exact IsiPair.bool_tuple (fin1 _ rfl)
  ·exact IsiPair.bool_list (fin1 _ rfl)
 |int i=>
  obtain⟨t,rfl⟩:=ru;cases hk
  rcases hC with rfl|rfl|rfl|rfl
  ·exact IsiPair.int_int (fin0 _ rfl)
  ·exact IsiPair.int_bool (fin1 _ rfl)
  ·exact IsiPair.int_tuple (fin1 _ rfl)
  ·exact IsiPair.int_list (fin1 _ rfl)
 |str z=>
  obtain⟨t,rfl⟩:=ru;cases hk
  rcases hC with rfl|rfl|rfl|rfl
  ·exact IsiPair.str_int (fin1 _ rfl)
  ·exact IsiPair.str_bool (fin1 _ rfl)
  ·exact IsiPair.str_tuple (fin1 _ rfl)
  ·exact IsiPair.str_list (fin1 _ rfl)
 |ref a=>
  cases ru
  rcases hk with⟨rfl,xs,hS⟩|⟨rfl,xs,hS⟩|⟨rfl,kvs,hS⟩
  ·obtain⟨its,_,⟨o,e,c,n,d⟩,_⟩:=I.tuple hS
   rcases hC with rfl|rfl|rfl|rfl
   ·exact IsiPair.tuple_int e c (fin1 _ rfl)
   ·exact IsiPair.tuple_bool e c (fin1 _ rfl)
   ·exact IsiPair.tuple_tuple e c (fin0 _ rfl)
   ·exact IsiPair.tuple_list e c (fin1 _ rfl)
  ·obtain⟨its,_,⟨o,n,e,c,d,_⟩,_⟩:=I.list hS
   rcases hC with rfl|rfl|rfl|rfl
   ·exact IsiPair.list_int e c (fin1 _ rfl)
   ·exact IsiPair.list_bool e c (fin1 _ rfl)
   ·exact IsiPair.list_tuple e c (fin1 _ rfl)
   ·exact IsiPair.list_list e c (fin0 _ rfl)
  ·obtain⟨_,_,vs,_,o,es,ep,e,c,_⟩:=I.hok a _ hS
   have c':o.cls= .type "dict":=c.1
   rcases hC with rfl|rfl|rfl|rfl
   ·exact IsiPair.dict_int e c' (fin1 _ rfl)
   ·exact IsiPair.dict_bool e c' (fin1 _ rfl)
   ·exact IsiPair.dict_tuple e c' (fin1 _ rfl)
   ·exact IsiPair.dict_list e c' (fin1 _ rfl)
 |_=>exact hk.elim
end
end L2
namespace L2
open PySem PySem.Spec PyProof.Rows
mutual
inductive DV(K:W.Frag)(H:Hp):V->PyData->Prop
 |non:DV K H .non .none
 |bl (b:Bool):DV K H (.bl b) (.bool b)
 |int (i:Int):DV K H (.int i) (.int i)
 |str (x:Str):DV K H (.str x) (.str x)
 |tup {a:Addr} {xs:List V} {ds:List PyData} (h:SqT K H a xs) (t:DVs K H xs ds):DV K H (.ref a) (.tuple ds)
 |lst {a:Addr} {xs:List V} {ds:List PyData} (h:SqL K H a xs) (t:DVs K H xs ds):DV K H (.ref a) (.list ds)
 |dc0 {a:Addr} (h:H a=some (.dK [])):DV K H (.ref a) (.dict [])
 |dc1 {a b:Addr} {i:Int} (h:H a=some (.dK [(Sum.inl i,.ref b)])) (t:SqT K H b []):DV K H (.ref a) (.dict [(.int i,.tuple [])])
inductive DVs(K:W.Frag)(H:Hp):List V->List PyData->Prop
 |nil:DVs K H [] []
 |cons {x:V} {d:PyData} {xs:List V} {ds:List PyData} (h:DV K H x d) (t:DVs K H xs ds):DVs K H (x::xs) (d::ds)
end
theorem Same.tup{K:W.Frag}{H H':Hp}{a:Addr}{xs:List V}(e:Same H H')(h:SqT K H a xs):SqT K H' a xs:=by
 rcases h with(h|⟨o,h⟩)|h
 ·exact .inl (.inl (e _ _ h))
 ·exact .inl (.inr ⟨o,e _ _ h⟩)
 ·exact .inr h
theorem DV.same{K:W.Frag}{H H':Hp}(e:Same H H'){x:V}{d:PyData}(h:DV K H x d):DV K H' x d:=
 DV.rec (motive_1:=fun x d _=>DV K H' x d) (motive_2:=fun xs ds _=>DVs K H' xs ds) .non (fun b=> .bl b) (fun i=> .int i) (fun x=> .str x) (fun h _ t=> .tup (e.tup h) t) (fun h _ t=> .lst (e.seq h) t) (fun h=> .dc0 (e _ _ h)) (fun h t=> .dc1 (e _ _ h) (e.tup t)) .nil (fun _ _ h t=> .cons h t) h
theorem DVs.same{K:W.Frag}{H H':Hp}(e:Same H H'){xs:List V}{ds:List PyData}(h:DVs K H xs ds):DVs K H' xs ds:=
 DVs.rec (motive_1:=fun x d _=>DV K H' x d) (motive_2:=fun xs ds _=>DVs K H' xs ds) .non (fun b=> .bl b) (fun i=> .int i) (fun x=> .str x) (fun h _ t=> .tup (e.tup h) t) (fun h _ t=> .lst (e.seq h) t) (fun h=> .dc0 (e _ _ h)) (fun h t=> .dc1 (e _ _ h) (e.tup t)) .nil (fun _ _ h t=> .cons h t) h
theorem pairs_nil{P:Program}{w:World}{es:List DictEntry}(h:Pairs (mixKind P w) es []):es=[]:=by
 cases h;rfl
theorem pairs_one{P:Program}{w:World}{es:List DictEntry}{k:Key}{u:Value}(h:Pairs (mixKind P w) es [(k,u)]):∃e,es=[e]/\keyIs k e.key=true/\e.val=u:=by
 cases h with
 |cons h1 h2 h3=>
  cases h3
  exact⟨_,rfl,h1,h2⟩
section
variable{X:Cx}{pins:List (Addr×Obj)}{σ:St}{H:Hp}{s:Shared}
theorem dc0_reads(I:Inv X pins σ H s){a:Addr}(h:H a=some (.dK [])):Reads s.heap (.ref a) (.dict []) (a::[]++[])/\(a==sysModules)=false:=by
 obtain⟨_,hne,vs,r0,o,es,ep,e,c,d,_,pr,_⟩:=I.hok _ _ h
 cases r0
 have hes:es.toList=[]:=pairs_nil pr
 refine⟨.dict (kvs:=[]) (as:=[]) (bs:=[]) e c.1 d ?_ ?_,hne⟩
 ·rw[hes];exact .nil
 ·rw[hes];exact .nil
theorem dc1_reads(I:Inv X pins σ H s){a b:Addr}{i:Int}(h:H a=some (.dK [(Sum.inl i,.ref b)]))(t:SqT X.K H b []):Reads s.heap (.ref a) (.dict [(.int i,.tuple [])]) (a::([]++[])++([]++[]))/\(a==sysModules)=false:=by
 obtain⟨_,hne,vs,r0,o,es,ep,e,c,d,_,pr,_⟩:=I.hok _ _ h
 obtain⟨its,rv,⟨o2,e2,c2,n2,d2⟩,_⟩:=I.tuple t
 cases rv
 cases r0 with
 | @cons p q ps qs hq tl=>
  cases tl
  obtain⟨en,he,hk,hv⟩:=pairs_one pr
  obtain⟨k,u⟩:=q
  dsimp only at hq
  obtain⟨hk1,hu1⟩:=hq
  subst hk1
  cases hu1
  obtain⟨tk,ek⟩:∃tk,en.key=Value.int i tk:=by
   rcases zbi hk with⟨i',t',e3,e4⟩|⟨x,t',e3,e4⟩
   ·cases e3;exact⟨t',e4⟩
   ·cases e3
  refine⟨.dict (kvs:=[(.int i,.tuple [])]) (as:=[]++[]) (bs:=[]++[]) e c.1 d ?_ ?_,hne⟩
  ·rw[he]
   show ReadsAll s.heap [en.key] [PyData.int i] _
   rw[ek]
   exact .cons (.int i tk) .nil
  ·rw[he]
   show ReadsAll s.heap [en.val] [PyData.tuple []] _
   rw[hv]
   exact .cons (.tuple e2 c2 d2 .nil) .nil
end
section
variable{X:Cx}{pins:List (Addr×Obj)}{σ:St}{H:Hp}{s:Shared}
theorem reads_tup(I:Inv X pins σ H s){a:Addr}{xs:List V}{ds:List PyData}(h:SqT X.K H a xs)(t:∀{us:List Value},Vals xs us->∃as,ReadsAll s.heap us ds as){u:Value}(r:RelV (.ref a) u):∃as,Reads s.heap u (.tuple ds) as:=by
 cases r
 obtain⟨its,rv,⟨o,e,c,n,d⟩,_⟩:=I.tuple h
 obtain⟨as,ra⟩:=t rv
 exact⟨_,.tuple e c d (by simpa using ra)⟩
theorem reads_lst(I:Inv X pins σ H s){a:Addr}{xs:List V}{ds:List PyData}(h:SqL X.K H a xs)(t:∀{us:List Value},Vals xs us->∃as,ReadsAll s.heap us ds as){u:Value}(r:RelV (.ref a) u):∃as,Reads s.heap u (.list ds) as:=by
 cases r
 obtain⟨its,rv,⟨o,n,e,c,_,d⟩,_⟩:=I.list h
 obtain⟨as,ra⟩:=t rv
 exact⟨_,.list e c d (by simpa using ra)⟩
theorem DV.reads(I:Inv X pins σ H s){x:V}{d:PyData}{u:Value}(h:DV X.K H x d)(r:RelV x u):∃as,Reads s.heap u d as:=
 DV.rec (motive_1:=fun x d _=>∀{u:Value},RelV x u->∃as,Reads s.heap u d as) (motive_2:=fun xs ds _=>∀{us:List Value},Vals xs us->∃as,ReadsAll s.heap us ds as)
  (fun r=>by cases r;exact⟨_,.none⟩) (fun b _ r=>by cases r;exact⟨_,.bool b⟩) (fun i _ r=>by obtain⟨t,rfl⟩:=r;exact⟨_,.int i t⟩) (fun x _ r=>by obtain⟨t,rfl⟩:=r;exact⟨_,.str x t⟩)
  (fun h _ t _ r=>reads_tup I h t r) (fun h _ t _ r=>reads_lst I h t r) (fun h _ r=>by cases r;exact⟨_,(dc0_reads I h).1⟩) (fun h t _ r=>by cases r;exact⟨_,(dc1_reads I h t).1⟩)
  (fun r=>by cases r;exact⟨_,.nil⟩) (fun _ _ h t _ r=>by
   cases r with
   |cons r rr=>
    obtain⟨as,ra⟩:=h r
    obtain⟨bs,rb⟩:=t rr
    exact⟨_,.cons ra rb⟩) h r
theorem DVs.reads(I:Inv X pins σ H s){xs:List V}{ds:List PyData}{us:List Value}(h:DVs X.K H xs ds)(r:Vals xs us):∃as,ReadsAll s.heap us ds as:=
 DVs.rec (motive_1:=fun _ _ _=>True) (motive_2:=fun xs ds _=>∀{us:List Value},Vals xs us->∃as,ReadsAll s.heap us ds as) trivial (fun _=>trivial) (fun _=>trivial) (fun _=>trivial) (fun _ _ _=>trivial) (fun _ _ _=>trivial) (fun _=>trivial) (fun _ _=>trivial)
  (fun r=>by cases r;exact⟨_,.nil⟩) (fun h _ _ t _ r=>by
   cases r with
   |cons r rr=>
    obtain⟨as,ra⟩:=DV.reads I h r
    obtain⟨bs,rb⟩:=t rr
    exact⟨_,.cons ra rb⟩) h r
end
mutual
noncomputable def noL:PyData->Bool
 | .list _=>false
 | .tuple ds=>noLs ds
 |_=>true
noncomputable def noLs:List PyData->Bool
 |[]=>true
 |d::ds=>noL d&&noLs ds
end
section
variable{X:Cx}{pins:List (Addr×Obj)}{σ:St}{H:Hp}{s:Shared}
end
theorem DVs.ints{K:W.Frag}{H:Hp}:∀(ns:List Int),DVs K H (ns.map V.int) (ns.map PyData.int)
 |[]=> .nil
 |n::ns=> .cons (.int n) (DVs.ints ns)
theorem DVs.len{K:W.Frag}{H:Hp}{xs:List V}{ds:List PyData}(h:DVs K H xs ds):xs.length=ds.length:=
 DVs.rec (motive_1:=fun _ _ _=>True) (motive_2:=fun xs ds _=>xs.length=ds.length) trivial (fun _=>trivial) (fun _=>trivial) (fun _=>trivial) (fun _ _ _=>trivial) (fun _ _ _=>trivial) (fun _=>trivial) (fun _ _=>trivial) rfl (fun _ _ _ t=>congrArg Nat.succ t) h
section
variable{X:Cx}
theorem op_eqD(hu:X.A.units+64<cLine):OpR X (compareOp .Eq) (fun x y H Q=>∃da db,DV X.K H x da/\DV X.K H y db/\da.canLay0=true/\db.canLay0=true/\min da.depth db.depth<=64/\Q (.bl (PyData.eqv da db)) H):=by
 intro pins s σ H x y v u Q I rx ry h
 obtain⟨da,db,hx,hy,ca,cb,hd,q⟩:=h
 obtain⟨as,ra⟩:=DV.reads I hx rx
 obtain⟨bs,rb⟩:=DV.reads I hy ry
 exact SeqAt.rcAt_reads ra rb ca cb (by omega) _ _ _ _ ⟨.bl _,H,I,rfl,q⟩
theorem op_neD(hu:X.A.units+64<cLine):OpR X (compareOp .NotEq) (fun x y H Q=>∃da db,DV X.K H x da/\DV X.K H y db/\da.canLay0=true/\db.canLay0=true/\min da.depth db.depth<=64/\Q (.bl (!PyData.eqv da db)) H):=by
 intro pins s σ H x y v u Q I rx ry h
 obtain⟨da,db,hx,hy,ca,cb,hd,q⟩:=h
 obtain⟨as,ra⟩:=DV.reads I hx rx
 obtain⟨bs,rb⟩:=DV.reads I hy ry
 exact SeqAt.rcNeAt_reads ra rb ca cb (by omega) _ _ _ _ ⟨.bl _,H,I,rfl,q⟩
theorem allLay:∀{ds:List PyData},PyData.canLayAll0 ds=true->∀d∈ds,d.canLay0=true
 |[],_,d,h=>nomatch h
 |e::ds,h,d,hd=>by
  have h':(e.canLay0&&PyData.canLayAll0 ds)=true:=h
  rw[Bool.and_eq_true]at h'
  rcases List.mem_cons.mp hd with rfl|hd
  ·exact h'.1
  ·exact allLay h'.2 d hd
open Classical in
theorem op_inD(hu:X.A.units+64<cLine):OpR X (compareOp .In) (fun x y H Q=>∃(p:Addr) (xs:List V) (ds:List PyData) (dx:PyData),y= .ref p/\(SqL X.K H p xs\/SqT X.K H p xs)/\DVs X.K H xs ds/\DV X.K H x dx/\PyData.canLayAll0 ds=true/\dx.canLay0=true/\dx.depth<=60/\
  Q (.bl (ds.any fun d=>PyData.eqv d dx)) H):=by
 intro pins s σ H x y v u Q I rx ry h
 obtain⟨p,xs,ds,dx,rfl,hq,hds,hx,ca,cb,hd,q⟩:=h
 cases ry
 obtain⟨bs,rb⟩:=DV.reads I hx rx
 have key:∀{its:List Value},Vals xs its->(∀y∈its,SeqAt.EqAt X.A.in1 s y v (decide (∃d as,Reads s.heap y d as/\d∈ds/\PyData.eqv d dx=true)))/\(its.any fun y=>decide (∃d as,Reads s.heap y d as/\d∈ds/\PyData.eqv d dx=true))=ds.any fun d=>PyData.eqv d dx:=by
  intro its rv
  obtain⟨as,ra⟩:=DVs.reads I hds rv
  have each:∀{us:List Value} {es:List PyData} {as:List Addr},ReadsAll s.heap us es as->(∀e∈es,e∈ds)->(∀y∈us,SeqAt.EqAt X.A.in1 s y v (decide (∃d as,Reads s.heap y d as/\d∈ds/\PyData.eqv d dx=true)))/\(us.any fun y=>decide (∃d as,Reads s.heap y d as/\d∈ds/\PyData.eqv d dx=true))=es.any fun d=>PyData.eqv d dx:=by
   intro us
   induction us with
   |nil=>intro es as h _;cases h;exact⟨(fun y hy=>(nomatch hy)),rfl⟩
   |cons y us ih=>
    intro es as h hs
    cases h with
    | @cons _ _ d ds' as' bs' r rr=>
     obtain⟨i1,i2⟩:=ih rr fun e he=>hs e (List.mem_cons_of_mem _ he)
     have cl:=allLay ca d (hs d List.mem_cons_self)
     have e:decide (∃d as,Reads s.heap y d as/\d∈ds/\PyData.eqv d dx=true)=PyData.eqv d dx:=by
      rw[Bool.eq_iff_iff,decide_eq_true_eq]
      constructor
      ·rintro⟨d',as'',r',_,q'⟩
       obtain⟨rfl,_⟩:=(PySem.Reads.unique r _ _ r')
       exact q'
      ·intro q'
       exact⟨d,_,r,hs d List.mem_cons_self,q'⟩
     refine⟨fun z hz=> ?_,?_⟩
     ·rcases List.mem_cons.mp hz with rfl|hz
      ·rw[e]
       exact SeqAt.eqAt_reads d dx _ s _ _ _ _ r rb cl cb (by show X.A.units+1+min d.depth dx.depth<cLine;omega)
      ·exact i1 z hz
     ·rw[List.any_cons,List.any_cons,i2,e]
  exact each ra fun e he=>he
 rcases hq with hq|hq
 ·obtain⟨its,r,pl,hz⟩:=I.list hq
  obtain⟨k1,k2⟩:=key r
  refine SeqAt.in_listAt _ pl.isList (fun w hw=>k1 w (by simpa using hw)) ⟨.bl _,H,I,rfl,?_⟩
  rw[show∀f:Value->Bool,its.toArray.any f=its.any f from fun f=>by simp,k2]
  exact q
 ·obtain⟨its,r,pl,hz⟩:=I.tuple hq
  obtain⟨k1,k2⟩:=key r
  refine SeqAt.in_tupleAt _ pl (fun w hw=>k1 w (by simpa using hw)) ⟨.bl _,H,I,rfl,?_⟩
  rw[show∀f:Value->Bool,its.toArray.any f=its.any f from fun f=>by simp,k2]
  exact q
end
end L2
namespace HT
open PySem PyProof.Rows
section
open PySem.SeqAt
open PySem.AutoSeq1 (wpAny_loadPart')
open PySem.MeetsSeq PySem.MeetsSeq2 PySem.MeetsSeq3
end
section
variable{prog:Program}{w:World}{A:Around}{E:Value->Shared->Prop}{s:Shared}
theorem getItem_tuple_whole{t sl:Addr}{items:Array Value}{vl vu:Value}{lo hi:Option Int}{Q:Value->Shared->Prop}(ht:IsTup s.heap t items)(hs:s.heap.IsSliceOf sl vl vu .none)(pl:IsPart vl lo)(pu:IsPart vu hi)(hw:sIx items.size 0 lo=0/\sIx items.size items.size hi=items.size)(h:Q (.ref t) s):wpAny (model prog w) A (getItem (.ref t) (.ref sl)) Q E s:=by
 obtain⟨os,hos,hcs,hds⟩:=id hs
 have hTs:s.TypeIs (.ref sl) "slice":=⟨os,hos,hcs⟩
 unfold getItem
 try with_reducible refine wpAny_holding ?_
 first |refine wpAny_bind (wpAny_pure ?_)|skip
 refine wpAny_bind (wpAny_sequenceKey ht.typeIs (by decide) ?_)
 refine wpAny_bind (wpAny_callSpecial?_slot (name:=Str.ofString "__getitem__") ht.typeIs PyProof.Rows.slot_tuple_getitem
  (wpAny_call_entry PyProof.Rows.slot_tuple_getitem ht.typeIs entry_tuple_getitem ?_ (args_tuple_getitem _ _)))
 show wpAny _ _ (Builtin.Tuple.tupleItemsOf (.ref t)>>=_) _ _ s
 refine wpAny_bind (tupleItemsOf_ ht ?_)
 refine wpAny_bind (wpAny_typeOf hTs ?_)
 rw[if_pos (by decide)]
 refine wpAny_bind (sliceApplied_gen hs pl pu ?_)
 have hyes:((((sIx items.size 0 lo:Nat):Int)==0&&(1:Int)==1&&(sIx items.size items.size hi-sIx items.size 0 lo)==items.size)=true):=by
  rw[hw.1,hw.2];simp
 show wpAny _ _ (if(((sIx items.size 0 lo:Nat):Int)==0&&(1:Int)==1&&(sIx items.size items.size hi-sIx items.size 0 lo)==items.size)=true then _ else _) _ _ s
 rw[if_pos hyes]
 obtain⟨o,ho,hc,n,hd⟩:=id ht
 refine wpAny_bind ?_
 show wpAny _ _ (Builtin.Tuple.tupleIsExact (.ref t)) _ _ s
 unfold Builtin.Tuple.tupleIsExact
 refine wpAny_bind (wpAny_typeOf ht.typeIs ?_)
 refine wpAny_pure ?_
 rw[if_pos (by decide)]
 first
  |exact wpAny_bind (wpAny_rule (wpAny_bind (wpAny_pure ⟨_,rfl,wpAny_pure h⟩)))
  |exact wpAny_bind (wpAny_rule (wpAny_pure ⟨_,rfl,wpAny_pure h⟩))
  |exact wpAny_bind (wpAny_rule (wpAny_bind (wpAny_pure (wpAny_pure ⟨_,rfl,wpAny_pure h⟩))))
  |(trace_state;exact wpAny_bind (wpAny_bind (wpAny_rule (wpAny_pure ⟨_,rfl,wpAny_pure h⟩))))
end
end HT
namespace L2
open PySem PySem.Spec PyProof.Rows
section
variable{X:Cx}
theorem op_fdivL:OpR X (binaryOp .FloorDiv) (rI (fun _ j=>0<j/\j<1000000000000000000000000000000) fun i j=> .int (i/j)):=opI fun i j _ _ _ _ _ hc q=>by
 have h1:(0:Int)<j:=hc.1
 have h2:j<1000000000000000000000000000000:=hc.2
 refine floordiv_int (by omega) ?_ (Or.inl (PyProof.noPylong_of_log2 ?_))
 ·rw[Int.fdiv_eq_ediv_of_nonneg _ (by omega)]
  exact q
 ·have h3:j.natAbs≠0:=by omega
  have h4:j.natAbs<2^100:=by
   have:(2:Nat)^100=1267650600228229401496703205376:=by decide
   omega
  have:=(Nat.log2_lt h3).mpr h4
  omega
noncomputable def rCatE(K:W.Frag):R2:=fun x y H Q=>∃a b xs ys,x= .ref a/\y= .ref b/\SqT K H a xs/\SqT K H b ys/\xs.length+ys.length<=sizeLine/\∀r H',Same H H'->SqT K H' r (xs++ys)->Q (.ref r) H'
theorem op_catE:OpR X (binaryOp .Add) (rCatE X.K):=by
 intro pins s σ H x y v u Q I rx ry h
 obtain⟨a,b,xs,ys,rfl,rfl,ha,hb,hz,q⟩:=h
 by_cases hx:xs=[]
 ·subst hx
  cases rx
  cases ry
  obtain⟨its,r1,p1,_⟩:=I.tuple ha
  obtain⟨its2,r2,p2,_⟩:=I.tuple hb
  cases r1
  obtain⟨⟨cls,dd,data,sl⟩,ho,hc,n,hd⟩:=id p1
  obtain⟨⟨cls2,dd2,data2,sl2⟩,ho2,hc2,n2,hd2⟩:=id p2
  simp only at hc hd hc2 hd2
  subst hc hd hc2 hd2
  exact concat_meets ⟨_,ho,rfl⟩ ⟨_,ho2,rfl⟩ noFill_tuple_add seq_tuple_add PySem.F.slot_tuple_add PySem.F.entry_tuple_add (PySem.F.args_tuple_add_2 _ _)
   (tuple_addW0 a b _ _ n n2 dd dd2 sl sl2 (by simp)) ⟨ho,ho2,⟨.ref b,H,I,rfl,q b H (Same.refl _) hb⟩⟩
 ·refine op_catT pins s σ H _ _ v u Q I rx ry ⟨a,b,xs,ys,rfl,rfl,ha,hb,hx,hz,fun e=> ?_,fun e p hp=> ?_⟩
  ·subst e
   exact q a H (Same.refl _) (by rw[List.append_nil];exact ha)
  ·exact q p _ (fun c o e=>by rw[zaf (zai e hp)];exact e) (SqT.of zab)
noncomputable def rSlE(K:W.Frag):V->Option Int->Option Int->Hp->VK->Prop:=fun x lo hi H Q=>∃a xs,x= .ref a/\SqT K H a xs/\∀r H',Same H H'->SqT K H' r (cutV xs lo hi)->Q (.ref r) H'
theorem sl_tupE:SlR X (rSlE X.K):=by
 intro pins s σ H x v vl vu lo hi sl Q I rx hs pl pu h
 obtain⟨a,xs,rfl,hx,q⟩:=h
 by_cases hw:HT.sIx xs.length 0 lo=0/\HT.sIx xs.length xs.length hi=xs.length
 ·cases rx
  obtain⟨its,r,ht,hz⟩:=I.tuple hx
  have hlen:its.toArray.size=xs.length:=by rw[List.size_toArray];exact r.length.symm
  refine⟨"tuple",_,PyProof.Rows.slot_tuple_getitem.lookup,ht.typeIs,?_⟩
  refine HT.getItem_tuple_whole ht hs pl pu (by rw[hlen];exact hw) ⟨.ref a,H,I,rfl,q a H (Same.refl _) ?_⟩
  have e:cutV xs lo hi=xs:=by
   unfold cutV
   rw[hw.1,hw.2]
   simp
  rw[e];exact hx
 ·exact sl_tup pins s σ H _ v vl vu lo hi sl Q I rx hs pl pu ⟨a,xs,rfl,hx,hw,fun p hp=>q p _ (fun c o e=>by rw[zaf (zai e hp)];exact e) (SqT.of zab)⟩
end
end L2
namespace HT
open PySem PySem.Calls PySem.Spec PyProof.Rows PySem.W
section
variable{prog:Program}{w:World}{A:Around}{E:Value->Shared->Prop}{s:Shared}
end
end HT
namespace L2
open PySem PySem.Spec PyProof.Rows
section
variable{X:Cx}{e m:Expr}{te:TE}{tm:TO}{pos p2:Pos}
end
end L2
namespace L2
open PySem PySem.Spec PyProof.Rows
section
variable{X:Cx}{tg:Expr}
noncomputable def iListL(K:W.Frag)(tl:TE):TI:=fun σ H R=>tl σ H fun x H1=>∃a xs,x= .ref a/\SqL K H1 a xs/\(xs.length<=sizeLine->R (Itl K a) H1)
noncomputable def iTupL(K:W.Frag)(tl:TE):TI:=fun σ H R=>tl σ H fun x H1=>∃a xs,x= .ref a/\SqT K H1 a xs/\(xs.length<=sizeLine->R (Itt K a) H1)
theorem zby{l:Expr}{tl:TE}(hl:PE X l tl):PI X tg l (iListL X.K tl):=by
 intro pins s σ H R I h
 refine thn (hl pins s σ H _ I h) fun v s1 ⟨x,H1,I1,r1,q1⟩=> ?_
 obtain⟨a,xs,e,hq,q⟩:=q1
 subst e
 cases r1
 obtain⟨its,rv,p,hz⟩:=I1.list hq
 refine wpAny_pyIter_list p.isList ?_
 refine⟨s1.heap.objs.size,[s1.heap.objs.size],_,_,H1,rfl,I1.kept (t':=s1.toks) fun b o e=>Heap.get?_push_of_some _ e,turn_list a _,⟨_,Heap.get?_push_size _ rfl,rfl,rfl⟩,fun b hb=> ?_,q hz⟩
 have e:b=s1.heap.objs.size:=by simpa using hb
 subst e
 exact I1.fpOk (Nat.le_refl _) (I1.hok.fresh (Nat.le_refl _))
theorem zcr{l:Expr}{tl:TE}(hl:PE X l tl):PI X tg l (iTupL X.K tl):=by
 intro pins s σ H R I h
 refine thn (hl pins s σ H _ I h) fun v s1 ⟨x,H1,I1,r1,q1⟩=> ?_
 obtain⟨a,xs,e,hq,q⟩:=q1
 subst e
 cases r1
 obtain⟨its,rv,p,hz⟩:=I1.tuple hq
 refine wpAny_pyIter_tuple (show s1.heap.IsTuple a its.toArray from p) ?_
 refine⟨s1.heap.objs.size,[s1.heap.objs.size],_,_,H1,rfl,I1.kept (t':=s1.toks) fun b o e=>Heap.get?_push_of_some _ e,turn_tuple a _,⟨_,Heap.get?_push_size _ rfl,rfl,rfl⟩,fun b hb=> ?_,q hz⟩
 have e:b=s1.heap.objs.size:=by simpa using hb
 subst e
 exact I1.fpOk (Nat.le_refl _) (I1.hok.fresh (Nat.le_refl _))
theorem zbx:CallR X (.builtin "len") (fun xs H Q=>∃p ys,xs=[.ref p]/\(SqL X.K H p ys\/SqT X.K H p ys)/\(ys.length<=16777216->Q (.int ys.length) H)):=by
 intro pins s σ H xs us Q I r h
 obtain⟨p,ys,rfl,hq,q⟩:=h
 have hz:ys.length<=16777216:=by
  rw[<-sizeLine_eq]
  rcases hq with hq|hq
  ·exact(I.list hq).choose_spec.2.2
  ·exact(I.tuple hq).choose_spec.2.2
 exact call_len_seq pins s σ H _ us Q I r ⟨p,ys,rfl,hq,q hz⟩
end
mutual
inductive DX(K:W.Frag)(H:Hp):V->PyData->Prop
 |non:DX K H .non .none
 |bl (b:Bool):DX K H (.bl b) (.bool b)
 |int (i:Int):DX K H (.int i) (.int i)
 |str (x:Str):DX K H (.str x) (.str x)
 |tup {a:Addr} {xs:List V} {ds:List PyData} (h:SqT K H a xs) (t:DXs K H xs ds):DX K H (.ref a) (.tuple ds)
 |lst {a:Addr} {xs:List V} {ds:List PyData} (h:SqL K H a xs) (t:DXs K H xs ds):DX K H (.ref a) (.list ds)
 |dct {a:Addr} {kvs:List (Key×V)} (ds:List (PyData×PyData)) (h:H a=some (.dK kvs)):DX K H (.ref a) (.dict ds)
inductive DXs(K:W.Frag)(H:Hp):List V->List PyData->Prop
 |nil:DXs K H [] []
 |cons {x:V} {d:PyData} {xs:List V} {ds:List PyData} (h:DX K H x d) (t:DXs K H xs ds):DXs K H (x::xs) (d::ds)
end
theorem DX.same{K:W.Frag}{H H':Hp}(e:Same H H'){x:V}{d:PyData}(h:DX K H x d):DX K H' x d:=
 DX.rec (motive_1:=fun x d _=>DX K H' x d) (motive_2:=fun xs ds _=>DXs K H' xs ds) .non (fun b=> .bl b) (fun i=> .int i) (fun x=> .str x) (fun h _ t=> .tup (e.tup h) t) (fun h _ t=> .lst (e.seq h) t) (fun ds h=> .dct ds (e _ _ h)) .nil (fun _ _ h t=> .cons h t) h
theorem DXs.same{K:W.Frag}{H H':Hp}(e:Same H H'){xs:List V}{ds:List PyData}(h:DXs K H xs ds):DXs K H' xs ds:=
 DXs.rec (motive_1:=fun x d _=>DX K H' x d) (motive_2:=fun xs ds _=>DXs K H' xs ds) .non (fun b=> .bl b) (fun i=> .int i) (fun x=> .str x) (fun h _ t=> .tup (e.tup h) t) (fun h _ t=> .lst (e.seq h) t) (fun ds h=> .dct ds (e _ _ h)) .nil (fun _ _ h t=> .cons h t) h
theorem DV.dx{K:W.Frag}{H:Hp}{x:V}{d:PyData}(h:DV K H x d):DX K H x d:=
 DV.rec (motive_1:=fun x d _=>DX K H x d) (motive_2:=fun xs ds _=>DXs K H xs ds) .non (fun b=> .bl b) (fun i=> .int i) (fun x=> .str x) (fun h _ t=> .tup h t) (fun h _ t=> .lst h t) (fun h=> .dct [] h) (fun h _=> .dct _ h) .nil (fun _ _ h t=> .cons h t) h
theorem DVs.dx{K:W.Frag}{H:Hp}{xs:List V}{ds:List PyData}(h:DVs K H xs ds):DXs K H xs ds:=
 DVs.rec (motive_1:=fun _ _ _=>True) (motive_2:=fun xs ds _=>DXs K H xs ds) trivial (fun _=>trivial) (fun _=>trivial) (fun _=>trivial) (fun _ _ _=>trivial) (fun _ _ _=>trivial) (fun _=>trivial) (fun _ _=>trivial) .nil (fun h _ _ t=> .cons h.dx t) h
noncomputable def kindD:PyData->String
 | .none=>"NoneType"
 | .bool _=>"bool"
 | .int _=>"int"
 | .str _=>"str"
 | .list _=>"list"
 | .tuple _=>"tuple"
 | .dict _=>"dict"
theorem DX.kind{K:W.Frag}{H:Hp}:∀{x:V} {d:PyData},DX K H x d->KindV K H x (kindD d)
 |_,_,.non=>rfl
 |_,_,.bl _=>rfl
 |_,_,.int _=>rfl
 |_,_,.str _=>rfl
 |_,_,.tup h _=> .inl ⟨rfl,_,h⟩
 |_,_,.lst h _=> .inr (.inl ⟨rfl,_,h⟩)
 |_,_,.dct _ h=> .inr (.inr ⟨rfl,_,h⟩)
theorem DXs.len{K:W.Frag}{H:Hp}{xs:List V}{ds:List PyData}(h:DXs K H xs ds):xs.length=ds.length:=
 DXs.rec (motive_1:=fun _ _ _=>True) (motive_2:=fun xs ds _=>xs.length=ds.length) trivial (fun _=>trivial) (fun _=>trivial) (fun _=>trivial) (fun _ _ _=>trivial) (fun _ _ _=>trivial) (fun _ _=>trivial) rfl (fun _ _ _ t=>congrArg Nat.succ t) h
theorem DXs.get{K:W.Frag}{H:Hp}:∀{xs:List V} {ds:List PyData} {i:Nat} {x:V},DXs K H xs ds->xs[i]? =some x->∃d,ds[i]? =some d/\DX K H x d
 |_,_,_,_,.nil,e=>by simp at e
 |_,_,0,_,.cons h _,e=>by simp at e;subst e;exact⟨_,rfl,h⟩
 |_,_,i+1,x,.cons _ t,e=>by
  obtain⟨d,h1,h2⟩:=DXs.get (i:=i) t (by simpa using e)
  exact⟨d,by simpa using h1,h2⟩
structure Dfn(K:W.Frag)(mg:Str->Option Value)(x:Str)(st:Stmt)(ps:List Str)(f:Addr)(fd:FuncData):Prop where
 F:Fun K x x st f fd
 b:Binds K fd ps []
 m:mg x=some (.ref f)
theorem zad{H:Hp}{p:Addr}(h:H p=none)(o:HO):Same H (upd H p o):=fun b u q=>by rw[zaf (zai q h)];exact q
end L2
namespace HsD
open PySem L2
noncomputable def wholeD:PyData->Bool
 | .int _=>true
 |_=>false
noncomputable def placeD(n:Int):PyData->Bool
 | .int i=>decide (0<=i)&&decide (i<n)
 |_=>false
noncomputable def intD:PyData->Int
 | .int i=>i
 |_=>0
noncomputable def kids:PyData->List PyData
 | .tuple ds=>ds
 |_=>[]
noncomputable def risesI(ns:List Int):Bool:=(List.range (ns.length-1)).all fun k=>decide (ns.getD k 0<ns.getD (k+1) 0)
noncomputable def risesT(ts:List (List Int)):Bool:=(List.range (ts.length-1)).all fun k=>HT.lexLt (ts.getD k []) (ts.getD (k+1) [])
noncomputable def setD(n:Int):PyData->Bool
 | .tuple ds=>ds.all (placeD n)&&risesI (ds.map intD)
 |_=>false
noncomputable def tieD(n:Int)(d:PyData):Bool:=setD n d&&decide ((kids d).length=2)
noncomputable def tiesD(n:Int):PyData->Bool
 | .tuple ds=>ds.all (tieD n)&&risesT (ds.map fun t=>(kids t).map intD)
 |_=>false
noncomputable def webD:PyData->Bool
 | .tuple [n,t]=>wholeD n&&(decide (0<=intD n)&&decide (intD n<=10))&&tiesD (intD n) t
 |_=>false
theorem placeD_int{n:Int}:∀{d:PyData},placeD n d=true->∃i,d= .int i/\0<=i/\i<n
 | .int i,h=>⟨i,rfl,by simpa[placeD]using h⟩
end HsD
namespace L2
open PySem PySem.Spec PyProof.Rows
section
variable{X:Cx}
theorem ix_tupK(K:W.Frag)(h:X.K=K:=by rfl):IxR X (rIxT K):=by subst h;exact zcj
theorem ix_listK(K:W.Frag)(h:X.K=K:=by rfl):IxR X (rIxL K):=by subst h;exact ix_list
theorem call_lenK(K:W.Frag)(h:X.K=K:=by rfl):CallR X (.builtin "len") (fun xs H Q=>∃p ys,xs=[.ref p]/\(SqL K H p ys\/SqT K H p ys)/\(ys.length<=16777216->Q (.int ys.length) H)):=by subst h;exact zbx
theorem op_ltTK(K:W.Frag)(hu:X.A.units<cLine)(h:X.K=K:=by rfl):OpR X (compareOp .Lt) (rLtT K):=by subst h;exact op_ltT hu
theorem op_inDK(K:W.Frag)(hu:X.A.units+64<cLine)(h:X.K=K:=by rfl):OpR X (compareOp .In) (fun x y H Q=>∃(p:Addr) (xs:List V) (ds:List PyData) (dx:PyData),y= .ref p/\(SqL K H p xs\/SqT K H p xs)/\DVs K H xs ds/\DV K H x dx/\PyData.canLayAll0 ds=true/\dx.canLay0=true/\dx.depth<=60/\
  Q (.bl (ds.any fun d=>PyData.eqv d dx)) H):=by subst h;exact op_inD hu
theorem pg_tupK(K:W.Frag){es:List Expr}{k:Nat}{t:TGs}{n:Nat}{pos:Pos}(hc:X.calm=true)(h:PGs X es t)(hn:(assignEach es X.env).length=n:=by rfl)(hst:(assignEach es X.env).findIdx? (·.1)=none:=by rfl)(hK:X.K=K:=by rfl):PG X (.Tuple es k pos) (gTup K n t):=by subst hK;exact pg_tup hc h hn hst
end
end L2
namespace PySem
open Sem (wp)
open AutoSeq1 (wpAny_loadPart')
section
variable{prog:Program}{w:World}{A:Around}{E:Value->Shared->Prop}{s:Shared}
theorem wpAny_collect_range{Q:List Value->Shared->Prop}{r:Addr}{a b c:Int}{t u v:Tok}{n:Nat}(hh:A.handled=none)(hr:IsRange s.heap r a b c t u v)(hsmall:Builtin.Range.small a b c=true)(hn:Builtin.Range.rangeSize a b c=n)(hlen:n<=2^24)(hQ:∀h' tk acc,(∀b o',s.heap.get? b=some o'->h'.get? b=some o')->ItemsOf (fun i v=>∃t,v= .int (a+i*c) t) acc n->Q acc.toList {s with heap:=h',toks:=tk}):
  wpAny (model prog w) A (collect (.ref r)) Q E s:=by
 unfold collect
 refine wpAny_bind (wpAny_runValue (codeAny_builtin F.entry_proto_collect ?_));rw[Around.under_plainId F.plain_proto_collect _];show wpAny _ A.in1 (newList []>>=fun l=>again (.builtin "list.__iadd__" ⟨[l,.ref r],[]⟩)) _ _ s;refine wpAny_bind (wpAny_newObj_type ?_);refine wpAny_pure ⟨plainId_quiet F.plain_list_iadd _,codeAny_builtin F.entry_list_iadd ?_⟩;rw[Around.under_plainId F.plain_list_iadd _]
 show wpAny _ A.in1 (Builtin.List.listExtendWith (.ref s.heap.objs.size) (.ref r) (.ref s.heap.objs.size)) _ _ _;have hS:(s.heap.push {cls:= .type "list",data:= .seq ([]:List Value).toArray}).get? s.heap.objs.size=some {cls:= .type "list",data:= .seq #[] 0}:=Heap.get?_push_size _ rfl;have fin':∀h' tk acc' c',(∀b o,b≠s.heap.objs.size->(s.heap.push {cls:= .type "list",data:= .seq ([]:List Value).toArray}).get? b=some o->h'.get? b=some o)->
   h'.get? s.heap.objs.size=some {cls:= .type "list",dict:=none,data:= .seq acc' c',slots:=#[]}->ItemsOf (fun i v=>∃t,v= .int (a+i*c) t) acc' n->wpAny (model prog w) A (match Value.ref s.heap.objs.size with
   |Value.ref a=>do
    match(<-load a).data with
     |Data.seq xs _=>pure xs.toList
     |_=>unsupported "internal:collect"
   |_=>unsupported "internal:collect") Q E {s with heap:=h',toks:=tk}:=fun h' tk acc' c' hk hS' hacc=>by
  show wpAny _ A (load s.heap.objs.size>>=_) _ _ _
  refine wpAny_bind (wpAny_load hS' ?_)
  refine wpAny_pure ?_
  exact hQ h' tk acc' (fun b o e=>hk b o (Nat.ne_of_lt (Heap.lt_size e)) (Heap.get?_push_of_some _ e)) hacc
 refine wpAny_mono (wpAny_extend_range (A:=A) (R:=fun r s'=>r= .ok (.ret (.ref s.heap.objs.size))/\∃h' tk acc' c',s'={s with heap:=h',toks:=tk}/\(∀b o,b≠s.heap.objs.size->(s.heap.push {cls:= .type "list",data:= .seq ([]:List Value).toArray}).get? b=some o->h'.get? b=some o)/\
   h'.get? s.heap.objs.size=some {cls:= .type "list",dict:=none,data:= .seq acc' c',slots:=#[]}/\ItemsOf (fun i v=>∃t,v= .int (a+i*c) t) acc' n) (s:={s with heap:=s.heap.push {cls:= .type "list",data:= .seq ([]:List Value).toArray}}) hh (Heap.get?_push_of_some _ hr) hsmall hn hlen s.heap.objs.size (.ref s.heap.objs.size) 0 hS (fun h' tk acc' c' hk hS' hacc=>⟨rfl,h',tk,acc',c',rfl,hk,hS',hacc⟩)) (fun fin s' h=> ?_) (fun e s' h=> ?_)
 ·cases fin with
  |done f=>
   obtain⟨e,h',tk,acc',c',rfl,h1,h2,h3⟩:=h
   cases e
   exact fin' h' tk acc' c' h1 h2 h3
  |again c'=>exact⟨h.1,codeAny_mono h.2 fun r s'' hr=>by obtain⟨rfl,h',tk,acc',c',rfl,h1,h2,h3⟩:=hr;exact fin' h' tk acc' c' h1 h2 h3⟩
 ·exact absurd h.1 (by simp)
end
theorem meets_tuple_new_range(r:Addr)(a b c:Int)(t u v:Tok)(n:Nat)(hsmall:Builtin.Range.small a b c=true)(hn:Builtin.Range.rangeSize a b c=n)(hlen:n<=2^24):
  Meets (Builtin.«tuple.__new__» ⟨[.type "tuple",.ref r],[]⟩)
   (fun A R s=>A.handled=none/\IsRange s.heap r a b c t u v/\∀(h':Heap) tk acc,(∀b o',s.heap.get? b=some o'->h'.get? b=some o')->ItemsOf (fun i v=>∃t,v= .int (a+i*c) t) acc n->R (.ok (.ret (.ref h'.objs.size))) {s with heap:=h'.push {cls:= .type "tuple",data:= .seq acc},toks:=tk}):=
 .of_wp fun prog w A R s h=>by
  obtain⟨hp,g,d,tk,os⟩:=s;obtain⟨hh,ht,h⟩:=h
  have hsub:=sub_tuple_self
  have hinit:=init_tuple_lookup
  have hmh:=madeHere_tuple
  have hT:Shared.TypeIs ⟨hp,g,d,tk,os⟩ (.ref r) "range":=⟨_,ht,rfl⟩
  wp_walk using wpAny_loadPart' ht,wpAny_typeOf hT,wpAny_collect_range (A:=A.in1) hh ht hsmall hn hlen
  intro h' tk' acc hk hacc
  show wpAny _ _ (Builtin.Tuple.tupleExact acc.toList.toArray>>=fun v=>ret v) _ _ _
  unfold Builtin.Tuple.tupleExact
  refine wpAny_bind (wpAny_newObj_type ?_ (by show acc.toList.toArray.size<=sizeLine;rw[sizeLine_eq];simp;rw[hacc.1];omega))
  refine wpAny_pure ⟨_,rfl,?_⟩
  have e:acc.toList.toArray=acc:=by simp
  rw[e]
  exact h h' tk' acc hk hacc
section
variable{prog:Program}{w:World}{A:Around}{E:Value->Shared->Prop}{s:Shared}
theorem call_tuple_range{Q:Value->Shared->Prop}{r:Addr}{a b c:Int}{t u v:Tok}{n:Nat}(hh:A.handled=none)(hr:IsRange s.heap r a b c t u v)(hsmall:Builtin.Range.small a b c=true)(hn:Builtin.Range.rangeSize a b c=n)(hlen:n<=2^24)(h:∀(h':Heap) tk acc,(∀b o',s.heap.get? b=some o'->h'.get? b=some o')->ItemsOf (fun i v=>∃t,v= .int (a+i*c) t) acc n->Q (.ref h'.objs.size) {s with heap:=h'.push {cls:= .type "tuple",data:= .seq acc},toks:=tk}):
  wpAny (model prog w) A (call (.type "tuple") [.ref r]) Q E s:=
 callType_new F.called_tuple (by decide) (F.typeCall_tuple_1 _) (F.newCall_tuple_1 _) (fun obj=>F.args_object_init_2 obj _) F.entry_tuple_new
  (meets_tuple_new_range r a b c t u v n hsmall hn hlen) ⟨hh,hr,fun h' tk acc hk hacc=>⟨⟨_,Heap.get?_push_size _ rfl,rfl⟩,h h' tk acc hk hacc⟩⟩
end
end PySem
namespace L2
open PySem PySem.Spec PyProof.Rows
section
variable{X:Cx}{p p' pos pos':Pos}{a:Expr}{ta:TA}
noncomputable def tupR(n:Nat):List V:=(List.range n).map fun(k:Nat)=>V.int (k:Int)
noncomputable def tTupR(ta:TA):TE:=fun σ H Q=>ta σ H fun vs H1=>∃j:Int,vs=[.int j]/\0<=j/\j<=16777216/\∀l,H1 l=none->Q (.ref l) (upd H1 l (.tup (tupR j.toNat)))
theorem vals_items:∀{n:Nat} {us:List Value},us.length=n->(∀(j:Nat) (u:Value),us[j]? =some u->∃t:Tok,u=Value.int (0+((j:Nat):Int)*1) t)->Vals (tupR n) us:=by
 intro n us hl hi
 have go:∀(us:List Value) (k:Nat),(∀(j:Nat) (u:Value),us[j]? =some u->∃t:Tok,u=Value.int (0+((j+k:Nat):Int)*1) t)->Vals ((List.range' k us.length).map fun(k:Nat)=>V.int (k:Int)) us:=by
  intro us
  induction us with
  |nil=>intro k _;exact .nil
  |cons u us ih=>
   intro k h
   obtain⟨t,e⟩:=h 0 u rfl
   refine .cons ⟨t,?_⟩ (ih (k+1) fun j u' hj=> ?_)
   ·rw[e];congr 1;omega
   ·obtain⟨t',e'⟩:=h (j+1) u' (by simpa using hj)
    refine⟨t',?_⟩
    rw[e'];congr 1;omega
 have:=go us 0 (fun j u hj=>by obtain⟨t,e⟩:=hi j u hj;exact⟨t,by rw[e];rfl⟩)
 unfold tupR
 rw[List.range_eq_range',<-hl]
 exact this
theorem pe_tupRange(hc:X.calm=true)(hgT:Gl X "tuple")(hmT:X.mg "tuple"=none)(hg:Gl X "range")(hm:X.mg "range"=none)(ha:PA X [a] ta)(hs:starEach [a] X.env=[(false,eval a X.env)]:=by rfl)(hs2:starEach [Expr.Call (.Name "range" p') [a] [] pos'] X.env=[(false,eval (Expr.Call (.Name "range" p') [a] [] pos') X.env)]:=by rfl):
  PE X (.Call (.Name "tuple" p) [.Call (.Name "range" p') [a] [] pos'] [] pos) (tTupR ta):=by
 intro pins s σ H Q I h
 refine wpAny_Call_Name_kw (ld_blt I hgT hmT (show bootBuiltins "tuple"=some (.type "tuple")from by decide+kernel) ?_ (by decide) (by decide))
 refine PyProof.Rows.callWith_type1 ?_ hs2 rfl
 rw[hs2]
 refine Calls.spliced_cons ?_
 refine Call_ (ld_blt I hg hm boot_range (PyProof.Rows.callWith_type1 (thn (ha pos' pins s σ H _ I h) fun us s1 ⟨vs,H1,I1,r1,q1⟩=> ?_) hs rfl))
 obtain⟨j,e,q1,q2,q⟩:=q1
 subst e
 cases r1 with
 |cons r rr=>
  cases rr
  obtain⟨t,rfl⟩:=r
  refine call_range_1 ?_
  refine Calls.spliced_nil ?_
  have hn:Builtin.Range.rangeSize 0 j 1=((j.toNat:Nat):Int):=by rw[rangeSize_one];split<;>omega
  refine call_tuple_range (I.ok.hd hc) (IsRange.new ..) (small_one (by decide) (by decide) (by omega) (by omega)) hn (by omega) fun h' tk acc hk hacc=> ?_
  have I2:Inv X pins σ H1 {s1 with heap:=h',toks:=tk}:=I1.kept fun b o e=>hk b o (Heap.get?_push_of_some _ e)
  have hv:Vals (tupR j.toNat) acc.toList:=vals_items (by rw[Array.length_toList];exact hacc.1) (fun i u hu=>hacc.2 i u (by simpa using hu))
  have hz:(tupR j.toNat).length<=sizeLine:=by unfold tupR;rw[sizeLine_eq];simp;omega
  have I3:Inv X pins σ (upd H1 h'.objs.size (.tup (tupR j.toNat))) {s1 with heap:=h'.push {cls:= .type "tuple",data:= .seq acc},toks:=tk}:=
   I2.laid (t':=tk) (fun b o e=>Heap.get?_push_of_some _ e) (Nat.le_refl _) (show ObjOk X.prog X.w _ _ _ (.tup (tupR j.toNat))from⟨hz,acc.toList,hv,by rw[show acc=acc.toList.toArray by simp];exact IsTup.new _ _⟩)
  exact⟨.ref h'.objs.size,_,I3,rfl,q _ (I2.hok.fresh (Nat.le_refl _))⟩
open Classical in
theorem op_notInD(hu:X.A.units+64<cLine):OpR X (compareOp .NotIn) (fun x y H Q=>∃(p:Addr) (xs:List V) (ds:List PyData) (dx:PyData),y= .ref p/\(SqL X.K H p xs\/SqT X.K H p xs)/\DVs X.K H xs ds/\DV X.K H x dx/\PyData.canLayAll0 ds=true/\dx.canLay0=true/\dx.depth<=60/\
  Q (.bl (!(ds.any fun d=>PyData.eqv d dx))) H):=by
 intro pins s σ H x y v u Q I rx ry h
 obtain⟨p,xs,ds,dx,rfl,hq,hds,hx,ca,cb,hd,q⟩:=h
 cases ry
 obtain⟨bs,rb⟩:=DV.reads I hx rx
 have key:∀{its:List Value},Vals xs its->(∀y∈its,SeqAt.EqAt X.A.in1 s y v (decide (∃d as,Reads s.heap y d as/\d∈ds/\PyData.eqv d dx=true)))/\(its.any fun y=>decide (∃d as,Reads s.heap y d as/\d∈ds/\PyData.eqv d dx=true))=ds.any fun d=>PyData.eqv d dx:=by
  intro its rv
  obtain⟨as,ra⟩:=DVs.reads I hds rv
  have each:∀{us:List Value} {es:List PyData} {as:List Addr},ReadsAll s.heap us es as->(∀e∈es,e∈ds)->(∀y∈us,SeqAt.EqAt X.A.in1 s y v (decide (∃d as,Reads s.heap y d as/\d∈ds/\PyData.eqv d dx=true)))/\(us.any fun y=>decide (∃d as,Reads s.heap y d as/\d∈ds/\PyData.eqv d dx=true))=es.any fun d=>PyData.eqv d dx:=by
   intro us
   induction us with
   |nil=>intro es as h _;cases h;exact⟨(fun y hy=>(nomatch hy)),rfl⟩
   |cons y us ih=>
    intro es as h hs
    cases h with
    | @cons _ _ d ds' as' bs' r rr=>
     obtain⟨i1,i2⟩:=ih rr fun e he=>hs e (List.mem_cons_of_mem _ he)
     have cl:=allLay ca d (hs d List.mem_cons_self)
     have e:decide (∃d as,Reads s.heap y d as/\d∈ds/\PyData.eqv d dx=true)=PyData.eqv d dx:=by
      rw[Bool.eq_iff_iff,decide_eq_true_eq]
      constructor
      ·rintro⟨d',as'',r',_,q'⟩
       obtain⟨rfl,_⟩:=(PySem.Reads.unique r _ _ r')
       exact q'
      ·intro q'
       exact⟨d,_,r,hs d List.mem_cons_self,q'⟩
     refine⟨fun z hz=> ?_,?_⟩
     ·rcases List.mem_cons.mp hz with rfl|hz
      ·rw[e]
       exact SeqAt.eqAt_reads d dx _ s _ _ _ _ r rb cl cb (by show X.A.units+1+min d.depth dx.depth<cLine;omega)
      ·exact i1 z hz
     ·rw[List.any_cons,List.any_cons,i2,e]
  exact each ra fun e he=>he
 rcases hq with hq|hq
 ·obtain⟨its,r,pl,hz⟩:=I.list hq
  obtain⟨k1,k2⟩:=key r
  refine SeqAt.notIn_listAt _ pl.isList (fun w hw=>k1 w (by simpa using hw)) ⟨.bl _,H,I,rfl,?_⟩
  rw[show∀f:Value->Bool,its.toArray.any f=its.any f from fun f=>by simp,k2]
  exact q
 ·obtain⟨its,r,pl,hz⟩:=I.tuple hq
  obtain⟨k1,k2⟩:=key r
  refine SeqAt.notIn_tupleAt _ pl (fun w hw=>k1 w (by simpa using hw)) ⟨.bl _,H,I,rfl,?_⟩
  rw[show∀f:Value->Bool,its.toArray.any f=its.any f from fun f=>by simp,k2]
  exact q
theorem op_notInDK(K:W.Frag)(hu:X.A.units+64<cLine)(h:X.K=K:=by rfl):OpR X (compareOp .NotIn) (fun x y H Q=>∃(p:Addr) (xs:List V) (ds:List PyData) (dx:PyData),y= .ref p/\(SqL K H p xs\/SqT K H p xs)/\DVs K H xs ds/\DV K H x dx/\PyData.canLayAll0 ds=true/\dx.canLay0=true/\dx.depth<=60/\
  Q (.bl (!(ds.any fun d=>PyData.eqv d dx))) H):=by subst h;exact op_notInD hu
end
end L2
namespace PySem
open Sem (wp)
open Builtin
open AutoSeq1 (wpAny_loadPart')
end PySem
namespace L2
open PySem PySem.Spec PyProof.Rows
section
variable{X:Cx}{p p' pos pos':Pos}{a:Expr}{ta:TA}
end
end L2
namespace PySem
open Sem (wp)
open AutoSeq1 (wpAny_loadPart')
section
variable{prog:Program}{w:World}{A:Around}{E:Value->Shared->Prop}{s:Shared}
theorem nextOf_tup{it t:Addr}{i:Nat}{items:Array Value}{x:Value}{Q:Value->Shared->Prop}(hit:s.heap.IsTupleIter it t i)(ht:s.heap.IsTuple t items)(hx:items[i]? =some x)(hQ:∀h',h'.IsTupleIter it t (i+1)->Heap.SameBut it s.heap h'->Q x {s with heap:=h'}):wpAny (model prog w) A (Builtin.SmallTypes.nextOf (.ref it)) Q E s:=by
 obtain⟨o,ho,hc,hd⟩:=id hit;obtain⟨ol,hol,_,nl,hdl⟩:=ht;unfold Builtin.SmallTypes.nextOf
 refine wpAny_bind (wpAny_callSpecial?_slot (name:=Str.ofString "__next__") hit.typeIs F.slot_tuple_iterator_next (wpAny_call_entry F.slot_tuple_iterator_next hit.typeIs F.entry_tuple_iterator_next ?_ (F.args_tuple_iterator_next_1 _)))
 show wpAny _ _ (field (.ref it) 0>>=_) _ _ s;refine wpAny_bind (wpAny_field ho hd (x:= .ref t) rfl ?_)
 show wpAny _ _ (if(Value.ref t==Value.none)=true then _ else _) _ _ s;rw[if_neg (show¬((Value.ref t==Value.none)=true)from Bool.false_ne_true)]
 show wpAny _ _ (field (.ref it) 1>>=_) _ _ s;refine wpAny_bind (wpAny_field ho hd (x:= .int i 0) rfl ?_)
 show wpAny _ _ (seqItems? (.ref t)>>=_) _ _ s;refine wpAny_bind (wpAny_seqItems hol hdl ?_)
 simp only[Int.toNat_natCast,hx];refine wpAny_bind (wpAny_setField ho hd (by simp) (wpAny_pure ⟨x,rfl,wpAny_pure (hQ _ ?_ (Heap.SameBut.update ..))⟩))
 exact⟨_,Heap.get?_update_self _ ho (Obj.isFreed_of_fields (Obj.data_mapFields hd _)),(Obj.cls_mapFields ..).trans hc,by rw[Obj.data_mapFields hd];simp[rawInt]⟩
theorem nextOf_tup_end{it t:Addr}{i:Nat}{items:Array Value}{Q:Value->Shared->Prop}(hh:A.handled=none)(hit:s.heap.IsTupleIter it t i)(ht:s.heap.IsTuple t items)(hx:items[i]? =none)(hE:∀h' e,Heap.ExtBut it s.heap h'->(∃o,h'.get? e=some o/\o.cls= .type "StopIteration")->E (.ref e) {s with heap:=h'}):wpAny (model prog w) A (Builtin.SmallTypes.nextOf (.ref it)) Q E s:=by
 obtain⟨o,ho,hc,hd⟩:=id hit;obtain⟨ol,hol,_,nl,hdl⟩:=ht;unfold Builtin.SmallTypes.nextOf
 refine wpAny_bind (wpAny_callSpecial?_slot (name:=Str.ofString "__next__") hit.typeIs F.slot_tuple_iterator_next (wpAny_call_entry F.slot_tuple_iterator_next hit.typeIs F.entry_tuple_iterator_next ?_ (F.args_tuple_iterator_next_1 _)))
 show wpAny _ _ (field (.ref it) 0>>=_) _ _ s;refine wpAny_bind (wpAny_field ho hd (x:= .ref t) rfl ?_)
 show wpAny _ _ (if(Value.ref t==Value.none)=true then _ else _) _ _ s;rw[if_neg (show¬((Value.ref t==Value.none)=true)from Bool.false_ne_true)]
 show wpAny _ _ (field (.ref it) 1>>=_) _ _ s;refine wpAny_bind (wpAny_field ho hd (x:= .int i 0) rfl ?_)
 show wpAny _ _ (seqItems? (.ref t)>>=_) _ _ s;refine wpAny_bind (wpAny_seqItems hol hdl ?_)
 simp only[Int.toNat_natCast,hx];refine wpAny_bind (wpAny_rule (wpAny_bind (wpAny_setField ho hd (by simp) ?_)))
 show wpAny _ _ (newExc (.type "StopIteration") []>>=_) _ _ _;refine wpAny_bind ?_;simp only[newExc,newTuple];refine wpAny_bind (wpAny_newObj_type ?_ (by size_fits))
 refine wpAny_bind (m:=firstArgMember _ _) (wpAny_of_eq (a:=Value.none) (by first |rfl|(simp only[firstArgMember];rfl)) ?_);refine wpAny_newObj_type ?_ (by size_fits)
 simp only[raiseNew];refine wpAny_bind (wpAny_handled ?_);first |rw[show A.in1.handled=none from hh]|rw[hh]
 refine wpAny_bind (wpAny_pure (wpAny_throw ?_));exact hE _ _ (((Heap.SameBut.update ..).extBut.push _).push _) ⟨_,Heap.get?_push_size _ rfl,rfl⟩
end
theorem Draws.tup{prog:Program}{w:World}{A:Around}(hh:A.handled=none)(it l:Addr)(hne:l≠it)(items:Array Value):
  Draws prog w A it [it,l] items.size (fun i v=>items[i]? =some v) (fun i h=>h.IsTupleIter it l i/\h.IsTuple l items) where
 live:=fun i h st=>by obtain⟨⟨o,e,_⟩,_⟩:=st;exact⟨o,e⟩
 frame:=fun i h h' st k=>⟨st.1.at fun o e=>k it (by simp) o e,st.2.at fun o e=>k l (by simp) o e⟩
 item:=fun i s Q E hi st hQ=>by
  have hx:items[i]? =some items[i]:=Array.getElem?_eq_getElem hi
  exact nextOf_tup st.1 st.2 hx fun h' hit' hs=>hQ _ h' s.toks hx ⟨hit',st.2.at fun o e=>(hs.2 l hne).trans e⟩ hs
 done:=fun s Q E st hE=>nextOf_tup_end hh st.1 st.2 (Array.getElem?_eq_none (Nat.le_refl _)) hE
section
variable{prog:Program}{w:World}{A:Around}{E:Value->Shared->Prop}{s:Shared}
end
end PySem
namespace L2
open PySem PySem.Spec PyProof.Rows
section
variable{X:Cx}{pins:List (Addr×Obj)}{σ:St}{H:Hp}{s:Shared}{h':Heap}
theorem Inv.turnsLaid{t':Nat}{fp:List Addr}{T:Addr}{o:HO}(I:Inv X pins σ H s)(k:∀b o,b∉fp->s.heap.get? b=some o->h'.get? b=some o)(hf:∀b∈fp,FpOk X pins H b)(hT:s.heap.objs.size<=T)(new:ObjOk X.prog X.w (upd H T o) h' T o):
  Inv X pins σ (upd H T o) {s with heap:=h',toks:=t'}:=by
 have hTn:H T=none:=I.hok.fresh hT
 have nfp:∀b u,H b=some u->b∉fp:=fun b u e z=>by rw[(hf b z).1]at e;cases e
 have neT:∀b o,s.heap.get? b=some o->b≠T:=fun b o e=>Nat.ne_of_lt (Nat.lt_of_lt_of_le (Heap.lt_size e) hT)
 have neU:∀b u,H b=some u->b≠T:=fun b u e z=>by rw[z,hTn]at e;cases e
 refine I.step (g':=s.gens) (d':=s.drawn) (ch:=fp) (fun b hb=> ?_) (fun b o _ _ hc e _=>k b o hc e) (fun b o _ _ hc e _=>⟨o.slots,k b o hc e⟩) (fun b o _ e n=>by rw[zaf (neT b o e)];exact n)
  (fun b o hc e=>⟨o,k b o hc e⟩) (fun b xs e=>by rw[zaf (neU b _ e)];exact e) (fun b o u e=>by rw[zaf (neU b _ e)];exact e) (fun b ps e=>⟨#[],by rw[zaf (neU b _ e),e];simp⟩) (fun m hm=> ?_) (fun b u e=> ?_) I.bare
 ·obtain⟨f0,f1,f2,f3,f4,f5⟩:=hf b hb
  exact⟨f3,f1,f4,f5⟩
 ·obtain⟨o,es,ep,ho,r⟩:=hm
  exact⟨o,es,ep,k _ o (fun z=>(hf _ z).2.1 rfl) ho,r⟩
 ·by_cases hb:b=T
  ·subst hb
   rw[zab]at e
   cases e
   exact new
  ·rw[zaf hb]at e
   refine(I.hok b u e).stay (fun c v hc q=>k c v ?_ q) (fun c q=>by rw[zaf (neU c _ q)];exact q) fun c xs q=>by rw[zaf (neU c _ q)];exact q
   rcases hc with z|z
   ·rw[z];exact nfp b u e
   ·exact nfp c _ z
theorem Inv.turns{t':Nat}{fp:List Addr}(I:Inv X pins σ H s)(k:∀b o,b∉fp->s.heap.get? b=some o->h'.get? b=some o)(hf:∀b∈fp,FpOk X pins H b):Inv X pins σ H {s with heap:=h',toks:=t'}:=by
 have nfp:∀b u,H b=some u->b∉fp:=fun b u e z=>by rw[(hf b z).1]at e;cases e
 refine I.step (g':=s.gens) (d':=s.drawn) (ch:=fp) (fun b hb=> ?_) (fun b o _ _ hc e _=>k b o hc e) (fun b o _ _ hc e _=>⟨o.slots,k b o hc e⟩) (fun b o _ e n=>n)
  (fun b o hc e=>⟨o,k b o hc e⟩) (fun b xs e=>e) (fun b o u e=>e) (fun b ps e=>⟨#[],by rw[e];simp⟩) (fun m hm=> ?_) (fun b u e=> ?_) I.bare
 ·obtain⟨f0,f1,f2,f3,f4,f5⟩:=hf b hb
  exact⟨f3,f1,f4,f5⟩
 ·obtain⟨o,es,ep,ho,r⟩:=hm
  exact⟨o,es,ep,k _ o (fun z=>(hf _ z).2.1 rfl) ho,r⟩
 ·refine(I.hok b u e).stay (fun c v hc q=>k c v ?_ q) (fun c q=>q) fun c xs q=>q
  rcases hc with z|z
  ·rw[z];exact nfp b u e
  ·exact nfp c _ z
end
noncomputable def SqE(K:W.Frag)(b:Bool)(H:Hp)(a:Addr)(xs:List V):Prop:=match b with
 |false=>SqL K H a xs
 |true=>SqT K H a xs
section
variable{X:Cx}{es:List Expr}{k:Nat}{pos0:Pos}
end
section
variable{ini:St}{H:Hp}{g:TG}{tc:TT}{te:TE}{Fin:List V->Hp->Prop}{K:W.Frag}{b:Bool}{a:Addr}{xs:List V}
end
end L2
namespace L2
open PySem PySem.Spec PyProof.Rows
section
variable{X:Cx}{e m a:Expr}{te:TE}{tm:TO}{ta:TA}{p p' pos pos' p2:Pos}
theorem op_catEK(K:W.Frag)(h:X.K=K:=by rfl):OpR X (binaryOp .Add) (rCatE K):=by subst h;exact op_catE
noncomputable def Its(K:W.Frag)(b:Bool)(a:Addr)(xs:List V):It:=⟨fun i H=>SqE K b H a xs/\i<xs.length,fun i H x H'=>H'=H/\xs[i]? =some x,fun i H=>SqE K b H a xs/\i=xs.length⟩
theorem Turn.its{P:Program}{w:World}{K:W.Frag}{tg:Expr}{J:It}{fp:List Addr}{it:Addr}{tn:Nat->Heap->Prop}{b:Bool}{a:Addr}{xs:List V}(T:Turn P w K tg J fp it tn)(hg:∀i H,(Its K b a xs).go i H->J.go i H/\∀x H',J.yld i H x H'->(Its K b a xs).yld i H x H')(hs:∀i H,(Its K b a xs).stop i H->J.stop i H):Turn P w K tg (Its K b a xs) fp it tn where
 mem:=T.mem
 obj:=T.obj
 keep:=T.keep
 item:=fun X h1 h2 h3 h4 i pins s σ H E I hf st g=>by
  obtain⟨g1,g2⟩:=hg i H g
  refine wpAny_mono (T.item X h1 h2 h3 h4 i pins s σ H E I hf st g1) (fun r s1 ⟨u,e,q⟩=>⟨u,e,wpAny_mono q (fun _ s2 ⟨x,H',a1,a2,a3,a4⟩=>⟨x,H',a1,a2,g2 x H' a3,a4⟩) fun _ _ e=>e⟩) fun _ _ e=>e
 done:=fun X h1 h2 h3 h4 i pins s σ H E I hf st g=>T.done X h1 h2 h3 h4 i pins s σ H E I hf st (hs i H g)
 self:=T.self
end
section
variable{ini:St}{H:Hp}{g:TG}{tc:TT}{te:TE}{Fin:List V->Hp->Prop}{K:W.Frag}{b:Bool}{a:Addr}{xs:List V}
end
theorem SqE.same{K:W.Frag}{b:Bool}{H H':Hp}{a:Addr}{xs:List V}(h:SqE K b H a xs)(e:Same H H'):SqE K b H' a xs:=by
 cases b with
 |false=>exact e.seq (show SqL K H a xs from h)
 |true=>exact e.tup (show SqT K H a xs from h)
section
variable{K:W.Frag}{σ:St}{H0:Hp}{tp:Addr}
noncomputable def ListsA(H:Hp)(tp:Addr)(its:List (Addr×List Int)):Prop:=∀p∈its,H p.1=some (.lst (p.2.map V.int))/\p.1≠tp/\p.2.length<=40
theorem ListsA.same{H H':Hp}{its:List (Addr×List Int)}(h:ListsA H tp its)(e:Same H H'):ListsA H' tp its:=fun p hp=>⟨e _ _ (h p hp).1,(h p hp).2⟩
theorem ListsA.step{H H':Hp}{its:List (Addr×List Int)}(h:ListsA H tp its)(e:∀b o,b≠tp->H b=some o->H' b=some o):ListsA H' tp its:=fun p hp=>⟨e _ _ (h p hp).2.1 (h p hp).1,(h p hp).2⟩
end
end L2
namespace L2
open PySem PySem.Spec PyProof.Rows
noncomputable def compOkC(sc scope:Scope):Bool:=scope.names.all fun p=>(p.2 !=NameKind.cell||scope.names.lookup p.1==some NameKind.cell)&&(p.2 !=NameKind.local||scope.names.lookup p.1==some NameKind.local)&&
 (p.2 !=NameKind.free||(scope.names.lookup p.1==some NameKind.free&&(sc.names.lookup p.1==some NameKind.cell||sc.names.lookup p.1==some NameKind.free)))
section
variable{sc scope:Scope}
theorem compOkC.cell(h:compOkC sc scope=true){x:Str}(hy:(x,NameKind.cell)∈scope.names):scope.names.lookup x=some .cell:=by
 have q:=List.all_eq_true.mp h _ hy
 simpa using q
theorem compOkC.names(h:compOkC sc scope=true):∀y∈scope.names,y.2= .local->scope.names.lookup y.1=some .local:=fun y hy e=>by
 have q:=List.all_eq_true.mp h y hy
 simpa[e]using q
theorem compOkC.free(h:compOkC sc scope=true){x:Str}(hy:(x,NameKind.free)∈scope.names):scope.names.lookup x=some .free/\(sc.names.lookup x=some .cell\/sc.names.lookup x=some .free):=by
 have q:=List.all_eq_true.mp h _ hy
 simpa using q
end
section
variable{X:Cx}{tg iter elt:Expr}{ifs:List Expr}{scope:Scope}{pos:Pos}{own caps:List Str}{ix:List Nat}{g:TG}{tc:TT}{te:TE}
end
section
variable{X:Cx}{tg iter elt:Expr}{ifs:List Expr}{scope:Scope}{pos:Pos}{own caps:List Str}{ix:List Nat}{wi:TI}{g:TG}{tc:TT}{te:TE}
end
end L2
namespace L2
open PySem PySem.Spec PyProof.Rows
section
variable{prog:Program}{w:World}{A:Around}{E:Value->Shared->Prop}{s:Shared}
noncomputable def bare(led:Bool):Obj:={cls:= .type "set",dict:=none,data:= .set #[] 0 (.fresh 0 0 led)}
end
section
variable{X:Cx}{a:Expr}{ta:TA}{p p' pos pos':Pos}
end
end L2
namespace Srt
open PySem PySem.W PyProof.Rows PySem.Calls
section
variable{prog:Program}{w:World}{A:Around}{E:Value->Shared->Prop}{s:Shared}{O:KeyOrd}{key:Nat->O.α}{κ:SortKind}{vs:List Value}
end
end Srt
namespace L2
open PySem PySem.Spec PyProof.Rows
section
variable{X:Cx}
end
noncomputable def IB:V->Prop
 | .int _=>True
 | .bl _=>True
 |_=>False
noncomputable def IBs(xs:List V):Prop:=∀x∈xs,IB x
theorem IBs.ints(xs:List Int):IBs (xs.map V.int):=fun x hx=>by
 obtain⟨i,_,rfl⟩:=List.mem_map.mp hx
 trivial
section
variable{K:W.Frag}{σ:St}{H0:Hp}
noncomputable def TupsM(K:W.Frag)(H:Hp)(l:Addr)(k:Nat):Prop:=∃its:List (Addr×List V),H l=some (.lst (its.map fun p=>V.ref p.1))/\(∀p∈its,SqT K H p.1 p.2/\IBs p.2/\p.2.length<=60)/\its.length<=k
theorem TupsM.same{H H':Hp}{l:Addr}{k:Nat}(h:TupsM K H l k)(e:Same H H'):TupsM K H' l k:=by
 obtain⟨its,h1,h2,h3⟩:=h
 exact⟨its,e _ _ h1,fun p hp=>⟨e.tup (h2 p hp).1,(h2 p hp).2⟩,h3⟩
end
end L2
namespace L2
open PySem PySem.W PySem.Spec PyProof.Rows
section
variable{X:Cx}
end
end L2
namespace L2
open PySem PySem.Spec PyProof.Rows
section
variable{prog:Program}{w:World}{A:Around}{E:Value->Shared->Prop}{s:Shared}{l:Addr}{kid:String}{vs:List Value}{R:Result->Shared->Prop}{Q:Value->Shared->Prop}
end
end L2
namespace L2
open PySem PySem.Spec PyProof.Rows
section
variable{X:Cx}{a:Expr}{ta:TA}{p p2 kp pos:Pos}
end
end L2
namespace L2
open PySem PySem.Spec PyProof.Rows
theorem ObjOk.any{P:Program}{w:World}{H:Hp}{h:Heap}{a:Addr}{o:HO}(x:ObjOk P w H h a o):∃u,h.get? a=some u:=by
 cases o with
 |lst xs=>obtain⟨_,_,_,_,e⟩:=x;exact⟨_,e⟩
 |tup xs=>obtain⟨_,_,_,ob,e,_⟩:=x;exact⟨_,e⟩
 |dK kvs=>obtain⟨_,_,_,_,o,_,_,e,_⟩:=x;exact⟨_,e⟩
 |dT kvs=>obtain⟨_,_,_,_,o,_,_,e,_⟩:=x;exact⟨_,e⟩
 |set S n=>obtain⟨o,_,_,_,e,_⟩:=x;exact⟨_,e⟩
 |ins C dx fs=>obtain⟨_,_,_,e,_⟩:=x;exact⟨_,e⟩
 |own y=>exact x
 |xd fs=>obtain⟨_,⟨_,_,_,e,_⟩,_⟩:=x;exact⟨_,e⟩
 |rng lo hi=>obtain⟨_,_,_,e⟩:=x;exact⟨_,e⟩
 |frz ob u=>obtain⟨e,_⟩:=x;exact⟨_,e⟩
 |tbl ps=>exact⟨_,x⟩
 |met f y=>exact⟨_,x⟩
 |ext φ=>exact x.2.1
theorem HOk.none{P:Program}{w:World}{H:Hp}{h:Heap}{a:Addr}(x:HOk P w H h)(e:h.get? a=none):H a=none:=by
 cases q:H a with
 |none=>rfl
 |some u=>
  obtain⟨o,z⟩:=(x a u q).any
  rw[e]at z;cases z
section
variable{P:Program}{w:World}{K:W.Frag}{mg:Str->Option Value}{base:Heap}{N:List Str}{qual:Str}{scope:Scope}{f:Addr}{cd:Value}{A:Around}{outer:List Env}{s:Shared}{H:Hp}{E:XK}
end
section
variable{P:Program}{w:World}{K:W.Frag}{mg:Str->Option Value}{base:Heap}{N:List Str}{qual:Str}{scope:Scope}{f:Addr}{cd:Value}{A:Around}{outer:List Env}{s:Shared}{H:Hp}{E:XK}
end
end L2
namespace L2
open PySem PySem.Spec PySem.Calls PyProof.Rows PySem.W PySem.Builtin.Getset_descriptor
section
variable{prog:Program}{w:World}{A:Around}{E:Value->Shared->Prop}{s:Shared}{K:Frag}{x D:Addr}
noncomputable def OfCls(x D:Addr)(h:Heap):Prop:=∃o,h.get? x=some o/\o.cls= .ref D
theorem OfCls.ty{M:Model}{h:Heap}(p:OfCls x D h):Looks M h (typeOf (.ref x)) (.ref D):=by
 obtain⟨o,e,c⟩:=p
 exact c▸(Looks.ld e).andThen .now
end
end L2
namespace L2
open PySem PySem.Spec PyProof.Rows
section
variable{X:Cx}{pins:List (Addr×Obj)}{σ:St}{H H':Hp}{s s':Shared}{e C:Addr}{B:Heap}
end
section
variable{X:Cx}{k:Nat}{f D:Addr}{fd:FuncData}{ps:List Str}{sp:Sp}{fn x n:Str}{p cpos epos np hpos pos:Pos}{a:Expr}{as:List Expr}{t:TA}{ts:TS}{b₀:Stmt}{suite:List Stmt}{i:Nat}
end
end L2
namespace L2
open PySem PySem.Spec PyProof.Rows
section
variable{X:Cx}
end
end L2
namespace L2
open PySem PySem.Spec PyProof.Rows
mutual
noncomputable def litF:Nat->Expr->Option PyData
 |0,_=>none
 |n+1,e=>match e with
  | .Constant (.int i) _ _=>some (.int i)
  | .Constant (.bool b) _ _=>some (.bool b)
  | .Constant .none _ _=>some .none
  | .Constant (.str x) _ _=>some (.str x)
  | .UnaryOp .USub (.Constant (.int i) _ _) _=>some (.int (-i))
  | .Tuple es _ _=>(litsF n es).map .tuple
  | .List es _=>(litsF n es).map .list
  | .Dict [] [] _=>some (.dict [])
  |_=>none
noncomputable def litsF:Nat->List Expr->Option (List PyData)
 |0,_=>none
 |_+1,[]=>some []
 |n+1,e::es=>match litF n e,litsF n es with
  |some d,some ds=>some (d::ds)
  |_,_=>none
end
section
variable{X:Cx}
end
end L2
namespace L2
open PySem PySem.Spec PyProof.Rows
section
variable{κ:Type} [DecidableEq κ]
noncomputable def valV(kvs:List (κ×V))(k:κ):Option V:=(kvs.find? fun kv=>decide (kv.1=k)).map (·.2)
noncomputable def putK(kvs:List (κ×V))(k:κ)(v:V):List (κ×V):=
 if(kvs.any fun kv=>decide (kv.1=k))=true then kvs.map (fun kv=>if kv.1=k then(kv.1,v)else kv)else kvs++[(k,v)]
noncomputable def dropK(kvs:List (κ×V))(k:κ):List (κ×V):=kvs.filter fun kv=>decide (kv.1≠k)
theorem valV_pos{p:κ×V}{r:List (κ×V)}{k:κ}(e:p.1=k):valV (p::r) k=some p.2:=by simp[valV,List.find?_cons,e]
theorem valV_neg{p:κ×V}{r:List (κ×V)}{k:κ}(e:¬p.1=k):valV (p::r) k=valV r k:=by simp[valV,List.find?_cons,e]
theorem valV_any(k:κ):∀kvs:List (κ×V),(kvs.any fun kv=>decide (kv.1=k))=(valV kvs k).isSome
 |[]=>rfl
 |p::r=>by
  rw[List.any_cons]
  by_cases e:p.1=k
  ·simp only[valV_pos e,decide_eq_true e,Bool.true_or,Option.isSome_some]
  ·rw[valV_neg e,decide_eq_false e,Bool.false_or];exact valV_any k r
theorem length_putK(kvs:List (κ×V))(k:κ)(v:V):(putK kvs k v).length<=kvs.length+1:=by
 unfold putK
 split
 ·rw[List.length_map];omega
 ·rw[List.length_append,List.length_cons,List.length_nil];omega
theorem putK_new{kvs:List (κ×V)}{k:κ}(v:V)(h:valV kvs k=none):putK kvs k v=kvs++[(k,v)]:=by
 unfold putK
 rw[valV_any,h]
 exact if_neg (by decide)
theorem RelO.isSome_eq{o:Option V}{u:Option Value}(r:RelO o u):o.isSome=u.isSome:=by
 cases o with
 |none=>cases u with
  |none=>rfl
  |some _=>exact(show False from r).elim
 |some _=>cases u with
  |none=>exact(show False from r).elim
  |some _=>rfl
theorem RelO.getD{o:Option V}{u:Option Value}{d:V}{d':Value}(r:RelO o u)(rd:RelV d d'):RelV (o.getD d) (u.getD d'):=by
 cases o with
 |none=>cases u with
  |none=>exact rd
  |some _=>exact(show False from r).elim
 |some _=>cases u with
  |none=>exact(show False from r).elim
  |some _=>exact r
theorem KV.val{kvs:List (κ×V)}{vs:List (κ×Value)}(r:KV kvs vs)(k:κ):RelO (valV kvs k) (valueAt vs k):=by
 unfold KV at r
 induction r with
 |nil=>exact True.intro
 | @cons p q ps qs h t ih=>
  obtain⟨h1,h2⟩:=h
  by_cases e:p.1=k
  ·have e':q.1=k:=h1.symm.trans e
   have b:valueAt (q::qs) k=some q.2:=by simp[valueAt,List.find?_cons,e']
   rw[valV_pos e,b];exact h2
  ·have e':¬q.1=k:=fun z=>e (h1.trans z)
   have b:valueAt (q::qs) k=valueAt qs k:=by simp[valueAt,List.find?_cons,e']
   rw[valV_neg e,b];exact ih
theorem KV.any{kvs:List (κ×V)}{vs:List (κ×Value)}(r:KV kvs vs)(k:κ):(kvs.any fun kv=>decide (kv.1=k))=vs.any fun kv=>decide (kv.1=k):=by
 unfold KV at r
 induction r with
 |nil=>rfl
 |cons h t ih=>rw[List.any_cons,List.any_cons,ih,h.1]
theorem KV.repl{kvs:List (κ×V)}{vs:List (κ×Value)}(r:KV kvs vs)(k:κ){y:V}{u:Value}(ry:RelV y u):
  KV (kvs.map fun kv=>if kv.1=k then(kv.1,y)else kv) (vs.map fun kv=>if kv.1=k then(kv.1,u)else kv):=by
 unfold KV at r⊢
 induction r with
 |nil=>exact .nil
 | @cons p q ps qs h t ih=>
  rw[List.map_cons,List.map_cons]
  refine .cons ?_ ih
  obtain⟨h1,h2⟩:=h
  by_cases e:p.1=k
  ·rw[if_pos e,if_pos (h1.symm.trans e)];exact⟨h1,ry⟩
  ·rw[if_neg e,if_neg (fun z=>e (h1.trans z))];exact⟨h1,h2⟩
theorem KV.put{kvs:List (κ×V)}{vs:List (κ×Value)}(r:KV kvs vs)(k:κ){y:V}{u:Value}(ry:RelV y u):KV (putK kvs k y) (stored vs k u):=by
 unfold putK stored
 rw[r.any k]
 by_cases e:(vs.any fun kv=>decide (kv.1=k))=true
 ·rw[if_pos e,if_pos e];exact r.repl k ry
 ·rw[if_neg e,if_neg e];exact Paired.snoc r ⟨rfl,ry⟩
theorem KV.drop{kvs:List (κ×V)}{vs:List (κ×Value)}(r:KV kvs vs)(k:κ):KV (dropK kvs k) (without vs k):=by
 unfold KV at r⊢
 unfold dropK without
 induction r with
 |nil=>exact .nil
 | @cons p q ps qs h t ih=>
  obtain⟨h1,h2⟩:=h
  rw[List.filter_cons,List.filter_cons]
  by_cases e:p.1=k
  ·have a:¬decide (p.1≠k)=true:=by simp[e]
   have b:¬decide (q.1≠k)=true:=by simp[h1.symm.trans e]
   rw[if_neg a,if_neg b];exact ih
  ·have e':¬q.1=k:=fun z=>e (h1.trans z)
   have a:decide (p.1≠k)=true:=by simp[e]
   have b:decide (q.1≠k)=true:=by simp[e']
   rw[if_pos a,if_pos b];exact .cons ⟨h1,h2⟩ ih
theorem KV.keys{kvs:List (κ×V)}{vs:List (κ×Value)}(r:KV kvs vs):kvs.map (·.1)=vs.map (·.1):=by
 unfold KV at r
 induction r with
 |nil=>rfl
 |cons h t ih=>rw[List.map_cons,List.map_cons,ih,h.1]
theorem KV.length{kvs:List (κ×V)}{vs:List (κ×Value)}(r:KV kvs vs):kvs.length=vs.length:=Paired.length r
theorem dropK_le(kvs:List (κ×V))(k:κ):(dropK kvs k).length<=kvs.length:=List.length_filter_le _ _
end
theorem kV_is{P:Program}{w:World}{k:Key}{u:Value}(r:RelV (kV k) u):(mixKind P w).is k u=true:=by
 cases k with
 |inl i=>obtain⟨t,e⟩:=(show∃t,u=Value.int i t from r);subst e;exact mixKind_int P w i t
 |inr x=>obtain⟨t,e⟩:=(show∃t,u=Value.str x t from r);subst e;exact mixKind_str P w x t
theorem items_are{P:Program}{w:World}:∀{ks:List Key} {us:List Value},Vals (ks.map kV) us->ItemsAre (mixKind P w) ks us
 |[],_,r=>by rw[List.map_nil]at r;cases r;exact .nil
 |k::ks,_,r=>by
  rw[List.map_cons]at r
  cases r with
  |cons h t=>exact .cons (kV_is h) (items_are t)
noncomputable abbrev KT(H:Hp):List (List Key×V)->List (List Key×Addr×Value)->Prop:=Paired fun p q=>p.1=q.1/\H q.2.1=some (.tup (p.1.map kV))/\RelV p.2 q.2.2
theorem KT.val{H:Hp}{kvs:List (List Key×V)}{xs:List (List Key×Addr×Value)}(r:KT H kvs xs)(k:List Key):RelO (valV kvs k) ((atKey xs k).map (·.2)):=by
 induction r with
 |nil=>exact True.intro
 | @cons p q ps qs h t ih=>
  obtain⟨h1,_,h2⟩:=h
  by_cases e:p.1=k
  ·have e':q.1=k:=h1.symm.trans e
   have b:atKey (q::qs) k=some q.2:=by simp[atKey,List.find?_cons,e']
   rw[valV_pos e,b];exact h2
  ·have e':¬q.1=k:=fun z=>e (h1.trans z)
   have b:atKey (q::qs) k=atKey qs k:=by simp[atKey,List.find?_cons,e']
   rw[valV_neg e,b];exact ih
theorem KT.repl{H:Hp}{kvs:List (List Key×V)}{xs:List (List Key×Addr×Value)}(r:KT H kvs xs)(k:List Key){y:V}{u:Value}(ry:RelV y u):
  KT H (kvs.map fun kv=>if kv.1=k then(kv.1,y)else kv) (xs.map (putAt k u)):=by
 induction r with
 |nil=>exact .nil
 | @cons p q ps qs h t ih=>
  rw[List.map_cons,List.map_cons]
  refine .cons ?_ ih
  obtain⟨h1,h2,h3⟩:=h
  unfold putAt
  by_cases e:p.1=k
  ·rw[if_pos e,if_pos (h1.symm.trans e)];exact⟨h1,h2,ry⟩
  ·rw[if_neg e,if_neg (fun z=>e (h1.trans z))];exact⟨h1,h2,h3⟩
theorem KT.put{H:Hp}{kvs:List (List Key×V)}{xs:List (List Key×Addr×Value)}(r:KT H kvs xs)(k:List Key){b:Addr}{y:V}{u:Value}(hb:H b=some (.tup (k.map kV)))(ry:RelV y u):
  KT H (putK kvs k y) (storedH xs k b u):=by
 have e:(kvs.any fun kv=>decide (kv.1=k))=(atKey xs k).isSome:=by
  rw[valV_any,(r.val k).isSome_eq,Option.isSome_map]
 unfold putK storedH
 rw[e]
 by_cases q:(atKey xs k).isSome=true
 ·rw[if_pos q,if_pos q];exact r.repl k ry
 ·rw[if_neg q,if_neg q];exact Paired.snoc r ⟨rfl,hb,ry⟩
theorem KT.keeps{H H':Hp}{kvs:List (List Key×V)}{xs:List (List Key×Addr×Value)}(r:KT H kvs xs)(ht:∀b ys,H b=some (.tup ys)->H' b=some (.tup ys)):KT H' kvs xs:=
 Paired.mapP r fun _ _ z=>⟨z.1,ht _ _ z.2.1,z.2.2⟩
section
variable{P:Program}{w:World}{H:Hp}{h:Heap}{a:Addr}
theorem rd_of{u:HO}(ok:HOk P w H h)(e:Rd H a u):ObjOk P w H h a u:=e.ok ok
theorem dk_rd{kvs:List (Key×V)}(ok:HOk P w H h)(e:Rd H a (.dK kvs)):kvs.length<=sizeLine/\(a==sysModules)=false/\∃vs,KV kvs vs/\h.DictOf (mixKind P w) a vs:=
 show ObjOk P w H h a (.dK kvs)from rd_of ok e
theorem dk_of{kvs:List (Key×V)}(ok:HOk P w H h)(e:H a=some (.dK kvs)):kvs.length<=sizeLine/\(a==sysModules)=false/\∃vs,KV kvs vs/\h.DictOf (mixKind P w) a vs:=dk_rd ok (.inl e)
theorem key_of{ks:List Key}(ok:HOk P w H h)(e:H a=some (.tup (ks.map kV))):(tupleKind (mixKind P w)).is h ks a:=by
 obtain⟨_,its,r,o,h1,h2,n,h3⟩:=(show ObjOk P w H h a (.tup (ks.map kV))from ok a _ e)
 exact⟨o,its.toArray,n,h1,h2,h3,by simpa using items_are r⟩
theorem dt_rd{kvs:List (List Key×V)}(ok:HOk P w H h)(e:Rd H a (.dT kvs)):kvs.length<=sizeLine/\(a==sysModules)=false/\
  ∃xs,KT H kvs xs/\h.DictOfH (tupleKind (mixKind P w)) a xs:=by
 obtain⟨z,y,xs,r,o,es,ep,h1,h2,h3,h4,h5⟩:=(show ObjOk P w H h a (.dT kvs)from rd_of ok e)
 refine⟨z,y,xs,r,o,es,ep,h1,h2,h3,h4,fun x hx=> ?_,h5⟩
 have all:∀{l:List (List Key×V)} {m:List (List Key×Addr×Value)},KT H l m->∀x∈m,(tupleKind (mixKind P w)).is h x.1 x.2.1:=by
  intro l m q
  induction q with
  |nil=>intro x hx;exact nomatch hx
  | @cons p q ps qs hq t ih=>
   intro x hx
   rcases List.mem_cons.mp hx with e|hx
   ·subst e
    exact key_of ok (by rw[<-hq.1];exact hq.2.1)
   ·exact ih x hx
 exact all r x hx
theorem dt_of{kvs:List (List Key×V)}(ok:HOk P w H h)(e:H a=some (.dT kvs)):kvs.length<=sizeLine/\(a==sysModules)=false/\
  ∃xs,KT H kvs xs/\h.DictOfH (tupleKind (mixKind P w)) a xs:=dt_rd ok (.inl e)
end
noncomputable def DGet(H:Hp)(a:Addr)(y:V)(r:Option V):Prop:=
 (∃kvs k,Rd H a (.dK kvs)/\y=kV k/\r=valV kvs k)\/∃kvs k b,Rd H a (.dT kvs)/\y= .ref b/\H b=some (.tup (k.map kV))/\r=valV kvs k
noncomputable def DPut(H:Hp)(a:Addr)(y v:V)(H':Hp):Prop:=
 (∃kvs k,H a=some (.dK kvs)/\y=kV k/\kvs.length<sizeLine/\H'=upd H a (.dK (putK kvs k v)))\/
 ∃kvs k b,H a=some (.dT kvs)/\y= .ref b/\H b=some (.tup (k.map kV))/\kvs.length<sizeLine/\H'=upd H a (.dT (putK kvs k v))
theorem DGet.k{H:Hp}{a:Addr}{kvs:List (Key×V)}{k:Key}(e:H a=some (.dK kvs)):DGet H a (kV k) (valV kvs k):= .inl ⟨kvs,k,.inl e,rfl,rfl⟩
theorem DGet.t{H:Hp}{a b:Addr}{kvs:List (List Key×V)}{k:List Key}(e:H a=some (.dT kvs))(eb:H b=some (.tup (k.map kV))):DGet H a (.ref b) (valV kvs k):= .inr ⟨kvs,k,b,.inl e,rfl,eb,rfl⟩
theorem DPut.k{H:Hp}{a:Addr}{kvs:List (Key×V)}{k:Key}{v:V}(e:H a=some (.dK kvs))(hl:kvs.length<sizeLine):DPut H a (kV k) v (upd H a (.dK (putK kvs k v))):= .inl ⟨kvs,k,e,rfl,hl,rfl⟩
theorem DPut.t{H:Hp}{a b:Addr}{kvs:List (List Key×V)}{k:List Key}{v:V}(e:H a=some (.dT kvs))(eb:H b=some (.tup (k.map kV)))(hl:kvs.length<sizeLine):
  DPut H a (.ref b) v (upd H a (.dT (putK kvs k v))):= .inr ⟨kvs,k,b,e,rfl,eb,hl,rfl⟩
section
variable{X:Cx}{pins:List (Addr×Obj)}{σ:St}{H:Hp}{s:Shared}{a:Addr}{y v:V}{u r:Value}{o:Option V}{A:Around}{E:Value->Shared->Prop}
theorem Inv.big(I:Inv X pins σ H s):sysModules<s.heap.objs.size:=by
 have h:mainGlobals<s.heap.objs.size:=(I.mod.glob.keeps I.bk).lt
 exact Nat.lt_trans (by decide) h
theorem d_getItem{Q:Value->Shared->Prop}(hu:A.units+1<cLine)(I:Inv X pins σ H s)(g:DGet H a y (some v))(ry:RelV y u)(h:∀w' s',Inv X pins σ H s'->RelV v w'->Q w' s'):
  wpAny (model X.prog X.w) A (getItem (.ref a) u) Q E s:=by
 rcases g with⟨kvs,k,e,ey,l⟩|⟨kvs,k,b,e,ey,eb,l⟩
 ·subst ey
  obtain⟨z,hd,vs,rel,dd⟩:=dk_rd I.hok e
  obtain⟨w',hw,rw'⟩:=RelO.some_of (v:=v) (o:=valueAt vs k) (by rw[l];exact rel.val k)
  exact wpAny_getItem_of (kV_is ry) dd.mapOf hw (h w' _ (I.tok _) rw')
 ·subst ey
  cases(show u=Value.ref b from ry)
  obtain⟨z,hd,xs,rel,dd⟩:=dt_rd I.hok e
  obtain⟨w',hw,rw'⟩:=RelO.some_of (v:=v) (o:=(atKey xs k).map (·.2)) (by rw[l];exact rel.val k)
  obtain⟨p,hp,hp2⟩:=Option.map_eq_some_iff.mp hw
  refine wpAny_getItem_heap (tupleKind_room_in1 hu) (key_of I.hok eb) dd hp ?_
  rw[hp2]
  exact h w' _ (I.tok _) rw'
theorem d_write{h':Heap}{t':Nat}{ob:HO}(I:Inv X pins σ H s)(mu:Mut (H a))(hs:Heap.SameBut a s.heap h')(he:∃q,h'.get? a=some q)(new:ObjOk X.prog X.w (upd H a ob) h' a ob):
  Inv X pins σ (upd H a ob) {s with heap:=h',toks:=t'}:=
 I.write (x:=a) (e:=a) mu (.inl rfl) (fun b q hb z=>(hs.2 b hb).trans z) he new
theorem dk_new{P:Program}{w:World}{H':Hp}{h':Heap}{kvs:List (Key×V)}{vs:List (Key×Value)}(z:kvs.length<=sizeLine)(hd:(a==sysModules)=false)(rel:KV kvs vs)(dd:h'.DictOf (mixKind P w) a vs):
  ObjOk P w H' h' a (.dK kvs):=⟨z,hd,vs,rel,dd⟩
theorem d_setItem{H':Hp}{Q:Unit->Shared->Prop}(hu:A.units+1<cLine)(I:Inv X pins σ H s)(g:DPut H a y v H')(ry:RelV y u)(rv:RelV v r)(h:∀s',Inv X pins σ H' s'->Q () s'):
  wpAny (model X.prog X.w) A (setItem (.ref a) u r) Q E s:=by
 rcases g with⟨kvs,k,e,ey,l,eH⟩|⟨kvs,k,b,e,ey,eb,l,eH⟩
 ·subst ey eH
  obtain⟨z,hd,vs,rel,dd⟩:=dk_of I.hok e
  have hz:vs.length<=sizeLine:=by rw[<-rel.length];exact z
  have hl:(putK kvs k v).length<=sizeLine:=by have:=length_putK kvs k v;omega
  refine wpAny_setItem_pairs (hsz:=hz) (kV_is ry) dd fun h' dd' hs=>h _ ?_
  have he:∃q,h'.get? a=some q:=let⟨q,_,_,hq,_⟩:=dd';⟨q,hq⟩
  exact d_write I (by rw[e];exact True.intro) hs he (dk_new hl hd (rel.put k rv) dd')
 ·subst ey eH
  cases(show u=Value.ref b from ry)
  obtain⟨z,hd,xs,rel,dd⟩:=dt_of I.hok e
  have hz:xs.length<=sizeLine:=by rw[<-Paired.length rel];exact z
  have hl:(putK kvs k v).length<=sizeLine:=by have:=length_putK kvs k v;omega
  refine wpAny_setItem_heap (hsz:=hz) (tupleKind_room_in1 hu) (key_of I.hok eb) dd fun h' dd' hs=>h _ ?_
  obtain⟨q,es,ep,hq,h2,h3,h4,_,h5⟩:=dd'
  refine d_write I (by rw[e];exact True.intro) hs ⟨q,hq⟩ ⟨hl,hd,_,(rel.put k eb rv).keeps fun c ys ec=> ?_,q,es,ep,hq,h2,h3,h4,h5⟩
  rw[zaf (ne_of ec e (fun z=>nomatch z))]
  exact ec
end
section
variable{X:Cx}{pins:List (Addr×Obj)}{σ:St}{H:Hp}{s:Shared}{a:Addr}{kvs:List (Key×V)}{k:Key}{u:Value}{A:Around}{E:Value->Shared->Prop}
end
noncomputable def NoSl(i:Expr):Prop:=∀ov iv,subscripted i false ov iv=operate [ov,iv] (getItem ov iv)
theorem subD_of{prog:Program}{w:World}{A:Around}{E:Value->Shared->Prop}{s:Shared}{env:Env}{value slice:Expr}{pos:Pos}{T id:String}{Q:Value->Shared->Prop}(hl:typeLookup (.type T) "__getitem__"=pure (some (.builtin id)))(hs:NoSl slice)(h:wpAny (model prog w) A (eval value env) (fun o s₁=>wpAny (model prog w) A (eval slice env) (fun i s₂=>s₂.TypeIs o T/\wpAny (model prog w) A (getItem o i) Q E s₂) E s₁) E s):
  wpAny (model prog w) A (eval (.Subscript value slice pos) env) Q E s:=by
 refine Subscript_ (wpAny_mono h (fun o s₁ h₁=>wpAny_mono h₁ (fun i s₂ h₂=> ?_) fun _ _ x=>x) fun _ _ x=>x)
 obtain⟨hT,h₂⟩:=h₂
 unfold subscriptTail
 refine wpAny_bind ?_
 rw[getitemInPython_of_ne hT.not_modules]
 refine wpAny_bind (wpAny_specialOf hT hl ?_)
 have fin:wpAny (model prog w) A (subscripted slice false o i) (fun r s₃=>wpAny (model prog w) A (letTemporaryGo value o r>>=fun _=>pure r) Q E s₃) E s₂:=by
  rw[hs o i]
  exact wpAny_operating (wpAny_mono h₂ (fun r s₃ h₃=>wpAny_bind (wpAny_letTemporaryGo (wpAny_pure h₃))) fun _ _ x=>x)
 first
  |exact wpAny_pure (wpAny_bind fin)
  |exact wpAny_bind (wpAny_pure (wpAny_bind fin))
  |exact wpAny_bind fin
theorem dict_typeIs{X:Cx}{pins:List (Addr×Obj)}{σ:St}{H:Hp}{s:Shared}{a:Addr}{y:V}{o:Option V}(I:Inv X pins σ H s)(g:DGet H a y o):s.TypeIs (.ref a) "dict":=by
 rcases g with⟨kvs,k,e,_,_⟩|⟨kvs,k,b,e,_,_,_⟩
 ·obtain⟨_,_,vs,_,dd⟩:=dk_rd I.hok e
  exact dd.typeIs
 ·obtain⟨_,_,xs,_,dd⟩:=dt_rd I.hok e
  exact dd.typeIs
noncomputable def tDGet(td ty:TE):TE:=fun σ H Q=>td σ H fun x H1=>ty σ H1 fun y H2=>∃a v,x= .ref a/\DGet H2 a y (some v)/\Q v H2
noncomputable def sDPut(td ty tv:TE):TS:=fun D σ H=>tv σ H fun v H1=>td σ H1 fun x H2=>ty σ H2 fun y H3=>∃a H4,x= .ref a/\DPut H3 a y v H4/\D.nx σ H4
section
variable{X:Cx}{o i e value:Expr}{pos pos' tpos:Pos}{td ty tv:TE}
theorem zcs(hu:X.A.units+1<cLine)(ho:PE X o td)(hi:PE X i ty)(hs:NoSl i):PE X (.Subscript o i pos) (tDGet td ty):=by
 intro pins s σ H Q I h
 refine subD_of PySem.F.slot_dict_getitem.lookup hs (thn (ho pins s σ H _ I h) fun u s1 ⟨x,H1,I1,rx,q1⟩=>thn (hi pins s1 σ H1 _ I1 q1) fun iv s2 ⟨y,H2,I2,ry,a,v,ex,g,q2⟩=> ?_)
 subst ex
 obtain rfl:u=Value.ref a:=rx
 exact⟨dict_typeIs I2 g,d_getItem hu I2 g ry fun w' s3 I3 rw'=>⟨v,H2,I3,rw',q2⟩⟩
theorem ps_dput(hu:X.A.units+1<cLine)(ho:PE X o td)(hi:PE X i ty)(hv:PE X value tv)(hs:swapsWith value (some (.Subscript o i pos')) pos.line X.env=pure false):
  PS X (.Assign [.Subscript o i pos'] value pos) (sDPut td ty tv):=by
 intro pins s σ H D I h
 refine wpAny_Assign_Subscript (thn (hv pins s σ H _ I h) fun r s1 ⟨v,H1,I1,rv,q1⟩=>thn (ho pins s1 σ H1 _ I1 q1) fun u s2 ⟨x,H2,I2,rx,q2⟩=>thn (hi pins s2 σ H2 _ I2 q2) fun iv s3 ⟨y,H3,I3,ry,a,H4,ex,g,q3⟩=> ?_) hs
 subst ex
 obtain rfl:u=Value.ref a:=rx
 exact d_setItem hu I3 g ry rv fun s4 I4=>⟨σ,H4,I4,q3⟩
end
theorem dt_empty{P:Program}{w:World}{H:Hp}(h:Heap)(hb:sysModules<h.objs.size):ObjOk P w H (h.push {cls:= .type "dict",data:= .dict #[]}) h.objs.size (.dT []):=
 ⟨Nat.zero_le _,beq_eq_false_iff_ne.mpr (Ne.symm (Nat.ne_of_lt hb)),[],.nil,_,#[],0,Heap.get?_push_size _ rfl,⟨rfl,rfl,rfl⟩,rfl,rfl,List.nodup_nil⟩
noncomputable def tDNewT:TE:=fun _ H Q=>∀p,H p=none->Q (.ref p) (upd H p (.dT []))
section
variable{X:Cx}{pos:Pos}
theorem pe_dnewT:PE X (.Dict [] [] pos) tDNewT:=fun pins s σ H Q I h=>
 wpAny_Dict_empty ⟨.ref s.heap.objs.size,_,I.laid (a:=s.heap.objs.size) (o:= .dT []) (t':=s.toks) (fun _ _ q=>Heap.get?_push_of_some _ q) (Nat.le_refl _) (dt_empty s.heap I.big),rfl,h _ (I.hok.fresh (Nat.le_refl _))⟩
end
noncomputable def mergeK(kvs more:List (Key×V)):List (Key×V):=more.foldl (fun acc kv=>putK acc kv.1 kv.2) kvs
theorem KV.merge:∀{more:List (Key×V)} {rs:List (Key×Value)} {kvs:List (Key×V)} {vs:List (Key×Value)},KV more rs->KV kvs vs->KV (mergeK kvs more) (merged vs rs):=by
 intro more rs kvs vs r
 unfold KV at r
 induction r generalizing kvs vs with
 |nil=>intro q;exact q
 | @cons p q ps qs h t ih=>
  intro r0
  have e:KV (putK kvs p.1 p.2) (stored vs q.1 q.2):=by
   have:=r0.put p.1 h.2
   rw[<-h.1];exact this
  exact ih e
end L2
namespace PySem
namespace F
end F
section
variable{prog:Program}{w:World}{A:Around}{E:Value->Shared->Prop}{s:Shared}
noncomputable def Heap.IsRvd(h:Heap)(a l:Addr)(i:Int):Prop:=∃o,h.get? a=some o/\o.cls= .type "reversed"/\o.data= .fields #[.ref l,rawInt i]
theorem Heap.IsRvd.typeIs{a l:Addr}{i:Int}(x:s.heap.IsRvd a l i):s.TypeIs (.ref a) "reversed":=let⟨o,ho,hc,_⟩:=x;⟨o,ho,hc⟩
theorem Heap.IsRvd.at{h h':Heap}{a l:Addr}{i:Int}(x:h.IsRvd a l i)(e:∀o,h.get? a=some o->h'.get? a=some o):h'.IsRvd a l i:=let⟨o,ho,r⟩:=x;⟨o,e _ ho,r⟩
end
end PySem
namespace L2
open PySem PySem.Spec PyProof.Rows
section
variable{X:Cx}{tg:Expr}
end
section
variable{X:Cx}
theorem call_minL(hc:X.calm=true):CallR X (.builtin "min") (fun xs H Q=>∃(a:Addr) (ns:List Int),xs=[.ref a]/\SqL X.K H a (ns.map V.int)/\ns≠[]/\∀m∈ns,(∀n∈ns,m<=n)->Q (.int m) H):=by
 intro pins s σ H xs us Q I r h
 obtain⟨a,ns,rfl,hS,hne,q⟩:=h
 obtain⟨u,rfl,ru⟩:=r.one
 cases ru
 obtain⟨vs,rv,pl,hz⟩:=I.list hS
 have hl:=pl.isList
 have hlt:a<s.heap.objs.size:=by obtain⟨_,e,_⟩:=hl;exact Heap.lt_size e
 have hlen:=rv.length
 rw[List.length_map]at hlen
 have hI:∀(i:Nat) (v:Value),vs.toArray[i]? =some v->∃t,v= .int (ns.getD i 0) t:=fun i v hv=>by
  have hv':vs[i]? =some v:=by simpa using hv
  have hi:i<ns.length:=by have:=(List.getElem?_eq_some_iff.mp hv').1;omega
  have hn:(ns.map V.int)[i]? =some (.int (ns.getD i 0)):=by rw[List.getElem?_map,List.getElem?_eq_getElem hi,List.getD_eq_getElem?_getD,List.getElem?_eq_getElem hi];rfl
  obtain⟨u,hu,ru⟩:=rv.get hn
  rw[hv']at hu
  cases hu
  obtain⟨t,rfl⟩:=ru
  exact⟨t,rfl⟩
 refine call_min_walk (wpAny_pyIter_list hl ?_)
 refine⟨s.heap.objs.size,[s.heap.objs.size,a],[s.heap.objs.size],vs.toArray.size,_,_,_,rfl,Walks.list (A:=X.A.in1) (I.ok.hd hc) _ a (Nat.ne_of_lt hlt) vs.toArray,
  ⟨⟨_,Heap.get?_push_size _ rfl,rfl,rfl⟩,hl.push _⟩,?_,?_,CmpOf.ints_lt (fun i=>ns.getD i 0) hI,fun v h' tk hP hk=> ?_⟩
 ·intro b hb
  show b<(s.heap.push _).objs.size
  rw[Heap.size_push]
  rcases List.mem_cons.mp hb with rfl|hb
  ·exact Nat.lt_succ_self _
  ·rw[List.mem_singleton.mp hb];exact Nat.lt_succ_of_lt hlt
 ·rw[List.size_toArray,<-hlen];exact List.length_pos_iff.mpr hne
 ·obtain⟨t,rfl⟩:=hI _ v hP
  obtain⟨h1,h2⟩:=argBest_lt (fun i=>ns.getD i 0) (vs.toArray.size-1)
  have hn0:0<ns.length:=List.length_pos_iff.mpr hne
  have hb:argBest (fun i j=>decide (ns.getD i 0<ns.getD j 0)) (vs.toArray.size-1)<ns.length:=by
   have:vs.toArray.size=ns.length:=by rw[List.size_toArray];omega
   omega
  refine⟨.int _,H,I.kept (LSm.kept_iter hk),⟨t,rfl⟩,q _ ?_ fun n hn=> ?_⟩
  ·rw[List.getD_eq_getElem?_getD,List.getElem?_eq_getElem hb];exact List.getElem_mem hb
  ·obtain⟨j,hj,rfl⟩:=List.getElem_of_mem hn
   have:=h2 j (by rw[List.size_toArray];omega)
   rw[List.getD_eq_getElem?_getD (i:=j),List.getElem?_eq_getElem hj]at this
   exact this
end
end L2
namespace PySem
section
variable{prog:Program}{w:World}{Ky:Type} [DecidableEq Ky]{knd:KeyKind prog w Ky}{A:Around}{E:Value->Shared->Prop}{s:Shared}
end
end PySem
namespace L2
open PySem PySem.Spec PyProof.Rows
section
variable{X:Cx}
end
end L2
namespace L2
open PySem
noncomputable def Rise(xs:Array Nat):Prop:=xs.toList.Pairwise (· < ·)
theorem Rise.at{xs:Array Nat}(h:Rise xs){i k:Nat}(hk:k<xs.size)(hik:i<k):xs.toList[i]'(by simp;omega)<xs.toList[k]'(by simpa using hk):=List.pairwise_iff_getElem.mp h i k _ _ hik
theorem getD_at{xs:Array Nat}{i d:Nat}(h:i<xs.size):xs.getD i d=xs.toList[i]'(by simpa using h):=by
 rw[Array.getElem_toList]
 simp[Array.getD,h]
theorem below_go{xs:Array Nat}(hx:Rise xs)(j:Nat):∀(fuel lo hi:Nat),lo<=hi->hi<=xs.size->hi-lo<=fuel->(∀i (h:i<xs.size),i<lo->xs.toList[i]'(by simpa using h)<j)->(∀i (h:i<xs.size),hi<=i->j<=xs.toList[i]'(by simpa using h))->
  SetTable.below.go xs j fuel lo hi<=xs.size/\(∀i (h:i<xs.size),i<SetTable.below.go xs j fuel lo hi->xs.toList[i]'(by simpa using h)<j)/\(∀i (h:i<xs.size),SetTable.below.go xs j fuel lo hi<=i->j<=xs.toList[i]'(by simpa using h))
 |0,lo,hi,h1,h2,h3,a,b=>by
  have e:lo=hi:=by omega
  subst e
  unfold SetTable.below.go
  exact⟨h2,a,b⟩
 |fuel+1,lo,hi,h1,h2,h3,a,b=>by
  unfold SetTable.below.go
  by_cases c:lo<hi
  ·rw[if_pos c]
   have hm:(lo+hi)/2<xs.size:=by omega
   dsimp only
   rw[getD_at hm]
   by_cases q:xs.toList[(lo+hi)/2]'(by simpa using hm)<j
   ·rw[if_pos q]
    refine below_go hx j fuel _ hi (by omega) h2 (by omega) (fun i hi' hlt=> ?_) b
    by_cases e:i=(lo+hi)/2
    ·subst e;exact q
    ·exact Nat.lt_trans (hx.at hm (by omega)) q
   ·rw[if_neg q]
    refine below_go hx j fuel lo _ (by omega) (by omega) (by omega) a (fun i hi' hle=> ?_)
    by_cases e:i=(lo+hi)/2
    ·subst e;omega
    ·have:=hx.at hi' (show(lo+hi)/2<i by omega)
     omega
  ·rw[if_neg c]
   have e:lo=hi:=by omega
   subst e
   exact⟨h2,a,b⟩
theorem below_ok{xs:Array Nat}(hx:Rise xs)(j:Nat):SetTable.below xs j<=xs.size/\(∀i (h:i<xs.size),i<SetTable.below xs j->xs.toList[i]'(by simpa using h)<j)/\(∀i (h:i<xs.size),SetTable.below xs j<=i->j<=xs.toList[i]'(by simpa using h)):=
 below_go hx j xs.size 0 xs.size (Nat.zero_le _) (Nat.le_refl _) (Nat.le_refl _) (fun i _ h=>absurd h (Nat.not_lt_zero _)) (fun i h h'=>absurd h (Nat.not_lt.mpr h'))
theorem insert_list{α:Type}(xs:Array α)(p:Nat)(x:α):(SetTable.insertAt xs p x).toList=xs.toList.take p++x::xs.toList.drop p:=by
 unfold SetTable.insertAt
 simp
 exact List.take_of_length_le (by simp)
theorem insert_rise{xs:Array Nat}(hx:Rise xs){j:Nat}(hn:xs[SetTable.below xs j]? ≠some j):Rise (SetTable.insertAt xs (SetTable.below xs j) j):=by
 obtain⟨b1,b2,b3⟩:=below_ok hx j
 unfold Rise
 rw[insert_list,List.pairwise_append]
 have lt1:∀a∈xs.toList.take (SetTable.below xs j),a<j:=fun a ha=>by
  obtain⟨i,hi,e⟩:=List.mem_take_iff_getElem.mp ha
  rw[<-e]
  exact b2 i (by simp at hi;omega) (by omega)
 have lt2:∀a∈xs.toList.drop (SetTable.below xs j),j<a:=fun a ha=>by
  obtain⟨i,hi,e⟩:=List.mem_drop_iff_getElem.mp ha
  have hs0:i+SetTable.below xs j<xs.size:=by simpa using hi
  have hs:SetTable.below xs j+i<xs.size:=by omega
  have z:=b3 (SetTable.below xs j+i) hs (Nat.le_add_right _ _)
  have e':xs.toList[SetTable.below xs j+i]'(by simpa using hs)=a:=by rw[<-e]
  rw[e']at z
  by_cases c:i=0
  ·subst c
   refine Nat.lt_of_le_of_ne z fun ej=>hn ?_
   rw[<-Array.getElem?_toList,List.getElem?_eq_getElem (by simpa using hs)]
   exact congrArg some (e'.trans ej.symm)
  ·have hs0:SetTable.below xs j<xs.size:=by omega
   have z0:=b3 (SetTable.below xs j) hs0 (Nat.le_refl _)
   have:=hx.at hs (show SetTable.below xs j<SetTable.below xs j+i by omega)
   rw[e']at this
   omega
 refine⟨hx.sublist (List.take_sublist _ _),List.pairwise_cons.mpr ⟨lt2,hx.sublist (List.drop_sublist _ _)⟩,fun a ha b hb=> ?_⟩
 rcases List.mem_cons.mp hb with e|e
 ·rw[e];exact lt1 a ha
 ·exact Nat.lt_trans (lt1 a ha) (lt2 b e)
structure TabOk(b:Bool)(t:SetTable):Prop where
 rise:Rise t.place
 nod:t.dummies=#[]
 led:t.led=b
theorem has_none(j:Nat):SetTable.has #[] j=false:=by
 unfold SetTable.has
 simp
theorem slot_empty{t:SetTable}{j:Nat}(h:t.slot j= .empty):t.place[SetTable.below t.place j]? ≠some j:=fun e=>by
 unfold SetTable.slot at h
 dsimp only at h
 rw[e]at h
 simp at h
theorem probe_go{t:SetTable}(ht:t.dummies=#[])(ha:Nat->Int)(h:Int):∀(fuel:Nat) (p:SetTable.Probe) (j:Nat) (d:Option Nat),p.dummy=none->SetTable.probe.go t ha h fuel p=some (.empty j d)->d=none/\t.slot j= .empty
 |0,p,j,d,_,e=>by unfold SetTable.probe.go at e;cases e
 |fuel+1,p,j,d,hp,e=>by
  unfold SetTable.probe.go at e
  have adv:(t.advance p).dummy=none:=by
   unfold SetTable.advance
   split
   ·exact hp
   ·exact hp
  cases z:t.slot p.j with
  |empty=>
   rw[z]at e
   cases e
   exact⟨hp,z⟩
  |dummy=>
   exfalso
   unfold SetTable.slot at z
   dsimp only at z
   rw[ht,has_none]at z
   split at z
   ·cases z
   ·simp at z
  |live i=>
   rw[z]at e
   dsimp only at e
   split at e
   ·cases e
   ·exact probe_go ht ha h fuel _ j d adv e
theorem range_rise(n:Nat):Rise (Array.range n):=by
 unfold Rise
 rw[Array.toList_range]
 exact List.pairwise_lt_range
theorem standIn_ok{b:Bool}{t:SetTable}(h:TabOk b t)(n:Nat):TabOk b (t.standIn n):=⟨range_rise n,rfl,h.led⟩
theorem lay_ok{b:Bool}{t:SetTable}(h:TabOk b t)(es:Array (Int×Value))(hh:Int)(x:Value):TabOk b (layNew t es hh x).2.1:=by
 unfold layNew
 cases z:t.freeSlot hh with
 |none=>exact standIn_ok h _
 |some q=>
  obtain⟨slot,was⟩:=q
  have emp:t.slot slot= .empty:=by
   unfold SetTable.freeSlot SetTable.probe at z
   cases y:SetTable.probe.go t (fun _=>hh+1) hh (10*SetTable.turns t.mask) (t.probeStart hh)with
   |none=>rw[y]at z;cases z
   |some m=>
    rw[y]at z
    cases m with
    |candidate _ _ _=>cases z
    |empty j d=>
     obtain⟨rfl,e⟩:=probe_go h.nod _ _ _ _ _ _ rfl y
     cases z
     exact e
  have put_ok:TabOk b (t.put slot).1:=by
   refine⟨insert_rise h.rise (slot_empty emp),?_,h.led⟩
   show(if SetTable.has t.dummies slot then _ else t.dummies)=#[]
   rw[h.nod,has_none]
   rfl
  dsimp only
  unfold SetTable.orStandIn
  split
  ·exact put_ok
  ·exact standIn_ok put_ok _
theorem laid_ok{mask finger moves:Nat}{b plain:Bool}{hs:Array Int}{t':SetTable}{order:Array Nat}(e:SetTable.laid mask finger moves b plain hs=some (t',order)):TabOk b t':=by
 unfold SetTable.laid at e
 cases z:SetTable.layClean mask hs with
 |none=>rw[z]at e;cases e
 |some owner=>
  rw[z]at e
  cases e
  refine⟨?_,rfl,rfl⟩
  unfold Rise
  show(((List.range (mask+1)).filterMap fun j=>(owner.getD j none).map (j, ·)).map (·.1)).Pairwise (· < ·)
  rw[List.map_filterMap]
  refine List.Pairwise.filterMap _ (R:=(· < ·)) (fun a a' haa' c hc c' hc'=> ?_) List.pairwise_lt_range
  cases y:owner.getD a none with
  |none=>simp[y]at hc
  |some k=>
   cases y':owner.getD a' none with
   |none=>simp[y']at hc'
   |some k'=>
    simp[y]at hc
    simp[y']at hc'
    omega
theorem relay_ok{b:Bool}{t:SetTable}(h:TabOk b t)(es:Array (Int×Value))(wanted:Nat):TabOk b (relayAll t es wanted).2.1:=by
 unfold relayAll
 cases z:t.relaid (es.map (·.1)) wanted with
 |none=>exact standIn_ok h _
 |some q=>
  obtain⟨t',order⟩:=q
  dsimp only
  split
  ·unfold SetTable.relaid at z
   have:=laid_ok z
   rw[h.led]at this
   exact this
  ·exact standIn_ok h _
theorem unplain_ok{b:Bool}{t:SetTable}(h:TabOk b t):TabOk b {t with plain:=false}:=⟨h.rise,h.nod,h.led⟩
end L2
namespace PySem
namespace F
end F
end PySem
namespace PySem
open L2 (TabOk Rise)
section
variable{prog:Program}{w:World}{A:Around}{E:Value->Shared->Prop}{s:Shared}
structure SetAt(w:World)(h:Heap)(d:Addr)(es:Array (Int×Value))(ep:Nat)(t:SetTable):Prop where
 ob:∃o,h.get? d=some o/\o.ExactSet/\o.data= .set es ep t
 fits:t.fits es.size=true
 tab:TabOk (!w.params.followText "set-order") t
theorem SetAt.at{h h':Heap}{d:Addr}{es:Array (Int×Value)}{ep:Nat}{t:SetTable}(S:SetAt w h d es ep t)(e:∀o,h.get? d=some o->h'.get? d=some o):SetAt w h' d es ep t:=
 let⟨o,ho,r⟩:=S.ob;⟨⟨o,e _ ho,r⟩,S.fits,S.tab⟩
theorem SetAt.typeIs{d:Addr}{es:Array (Int×Value)}{ep:Nat}{t:SetTable}(S:SetAt w s.heap d es ep t):s.TypeIs (.ref d) "set":=let⟨o,ho,hx,_⟩:=S.ob;⟨o,ho,hx.1⟩
noncomputable def IsSetIter(h:Heap)(I d:Addr)(first:Value)(i n ep:Nat):Prop:=∃o,h.get? I=some o/\o.cls= .type "set_iterator"/\o.data= .fields #[first,.int i 0,.ref d,.int n 0,.int ep 0]
theorem IsSetIter.at{h h':Heap}{I d:Addr}{first:Value}{i n ep:Nat}(x:IsSetIter h I d first i n ep)(e:∀o,h.get? I=some o->h'.get? I=some o):IsSetIter h' I d first i n ep:=let⟨o,ho,r⟩:=x;⟨o,e _ ho,r⟩
theorem IsSetIter.typeIs{I d:Addr}{first:Value}{i n ep:Nat}(x:IsSetIter s.heap I d first i n ep):s.TypeIs (.ref I) "set_iterator":=let⟨o,ho,hc,_⟩:=x;⟨o,ho,hc⟩
end
end PySem
namespace PySem
open L2 (TabOk Rise)
section
variable{prog:Program}{w:World}{A:Around}{E:Value->Shared->Prop}{s:Shared}
theorem SetAt.push{h:Heap}{d:Addr}{es:Array (Int×Value)}{ep:Nat}{t:SetTable}(S:SetAt w h d es ep t)(o:Obj):SetAt w (h.push o) d es ep t:=S.at fun _ e=>Heap.get?_push_of_some _ e
end
end PySem
namespace PySem
open L2 (TabOk Rise lay_ok relay_ok unplain_ok)
section
variable{prog:Program}{w:World}{A:Around}{E:Value->Shared->Prop}{s:Shared}
noncomputable def SetG(prog:Program)(w:World)(h:Heap)(d:Addr)(S:Int->Bool)(n:Nat):Prop:=
 ∃o es ep t,h.get? d=some o/\o.ExactSet/\o.data= .set es ep t/\ElemsOf (intKind prog w) es.toList/\(∀k,S k=true↔∃e∈es.toList,(intKind prog w).is k e.2=true)/\es.size<scanBound/\t.fits es.size=true/\es.size=n/\TabOk (!w.params.followText "set-order") t
theorem SetG.at{h h':Heap}{d:Addr}{S:Int->Bool}{n:Nat}(g:SetG prog w h d S n)(e:∀o,h.get? d=some o->h'.get? d=some o):SetG prog w h' d S n:=let⟨o,es,ep,t,ho,r⟩:=g;⟨o,es,ep,t,e _ ho,r⟩
theorem SetG.congr{h:Heap}{d:Addr}{S S':Int->Bool}{n n':Nat}(g:SetG prog w h d S n)(e:∀k,S k=S' k)(en:n=n'):SetG prog w h d S' n':=by
 have:S=S':=funext e
 subst this;subst en;exact g
end
end PySem
namespace L2
open PySem PySem.Spec PyProof.Rows
section
variable{prog:Program}{w:World}{A:Around}{E:Value->Shared->Prop}{s:Shared}
end
section
variable{prog:Program}{w:World}{A:Around}{R:Result->Shared->Prop}{I:Addr}{fp wr:List Addr}{G:Array GenState->Array GenState->Prop}{n:Nat}{P:Nat->Value->Prop}{St:Nat->Shared->Prop}
end
section
variable{prog:Program}{w:World}{A:Around}{E:Value->Shared->Prop}{s:Shared}
end
end L2
namespace Srt
open PySem PySem.W PyProof.Rows PySem.Calls
section
variable{prog:Program}{w:World}{A:Around}{E:Value->Shared->Prop}{s:Shared}
end
end Srt
namespace L2
open PySem PySem.Spec PyProof.Rows
noncomputable def iv:Value->Int
 | .int k _=>k
 |_=>0
section
variable{prog:Program}{w:World}{A:Around}{E:Value->Shared->Prop}{s:Shared}
end
end L2
namespace Srt
open PySem PySem.W PyProof.Rows PySem.Calls
section
variable{prog:Program}{w:World}{A:Around}{E:Value->Shared->Prop}{s:Shared}
end
end Srt
namespace L2
open PySem PySem.Spec PyProof.Rows
section
variable{X:Cx}{a:Expr}{ta:TA}{p p' pos pos':Pos}
end
end L2
namespace L2
open PySem PySem.Spec PyProof.Rows
section
variable{prog:Program}{w:World}{A:Around}{E:Value->Shared->Prop}{s:Shared}
end
section
variable{X:Cx}{o e:Expr}{to:TE}{t:TA}{apos cpos:Pos}
end
end L2
namespace L2
open PySem PySem.Spec PyProof.Rows
section
variable{X:Cx}{e e1 e2:Expr}{es:List Expr}{te:TE}{pos:Pos}
end
end L2
namespace L2
open PySem PySem.Spec PyProof.Rows
section
variable{X:Cx}{e:Expr}{te:TE}{pos:Pos}
end
end L2
namespace L2
open PySem PySem.Spec PyProof.Rows
section
variable{X:Cx}{tg l:Expr}{tl:TE}
end
section
variable{g:TG}{tc:TT}{te:TE}{Fin:List V->Hp->Prop}{ini:St}{H:Hp}
end
end L2
namespace L2
open PySem PySem.Spec PyProof.Rows
end L2
namespace SplJ
open PySem PySem.StrLaws PySem.Builtin.Str
section
variable{c:Nat}{ys:List Nat}
end
end SplJ
namespace DH
open PySem PySem.W PyProof.Rows PySem.Calls
noncomputable def EsAt(h:Heap)(d:Addr)(es:Array DictEntry)(ep:Nat):Prop:=∃o,h.get? d=some o/\o.ExactDict/\o.data= .dict es ep
section
variable{prog:Program}{w:World}{A:Around}{E:Value->Shared->Prop}{s:Shared}{d it:Addr}{es:Array DictEntry}{ep i:Nat}
theorem EsAt.typeIs(h:EsAt s.heap d es ep):s.TypeIs (.ref d) "dict":=let⟨o,ho,hc,_⟩:=h;⟨o,ho,hc.1⟩
theorem EsAt.lt{h:Heap}(x:EsAt h d es ep):d<h.objs.size:=let⟨_,ho,_⟩:=x;Heap.lt_size ho
theorem EsAt.at'{h h':Heap}(x:EsAt h d es ep)(k:∀o,h.get? d=some o->h'.get? d=some o):EsAt h' d es ep:=let⟨o,ho,r⟩:=x;⟨o,k o ho,r⟩
theorem iter_es{Q:Value->Shared->Prop}(hd:(d==sysModules)=false)(hm:EsAt s.heap d es ep)(hQ:Q (.ref s.heap.objs.size) {s with heap:=s.heap.push {cls:= .type "dict_keyiterator",data:= .fields #[.ref d,.int 0 0,.int es.size 0,.int ep 0]}}):
  wpAny (model prog w) A (pyIter (.ref d)) Q E s:=by
 obtain⟨o,ho,hc,hdat⟩:=id hm
 have hT:=hm.typeIs
 refine wpAny_pyIter_slot hT F.slot_dict_iter (wpAny_call_entry F.slot_dict_iter hT F.entry_dict_iter ?_ (F.args_dict_iter_1 _))
 unfold Builtin.«dict.__iter__»
 refine wpAny_bind ?_
 unfold Builtin.Dict.dictSlotNone
 refine wpAny_bind (wpAny_notOrdered_dict hT ?_)
 show wpAny _ _ (pure (Value.ref d)) _ _ s
 refine wpAny_pure ?_
 show wpAny _ _ (Builtin.Dict.showsAll d>>=_) _ _ s
 unfold Builtin.Dict.showsAll
 rw[if_neg (by rw[hd];exact Bool.false_ne_true)]
 refine wpAny_bind (wpAny_pure ?_)
 refine wpAny_bind (wpAny_dictEntries ho hdat ?_)
 refine wpAny_bind (wpAny_dictEpoch ho hdat ?_)
 refine wpAny_bind (wpAny_newObj_type (wpAny_pure ⟨_,rfl,"dict_keyiterator",_,⟨_,Heap.get?_push_size _ rfl,rfl⟩,F.slot_dict_keyiterator_next.lookup,?_⟩))
 simpa[rawInt]using hQ
theorem next_es{e:DictEntry}{Q:Option Value->Shared->Prop}(hit:s.heap.IsKeyIter it d i es.size ep)(hm:EsAt s.heap d es ep)(hx:es[i]? =some e)(hQ:∀h',h'.IsKeyIter it d (i+1) es.size ep->Heap.SameBut it s.heap h'->Q (some e.key) {s with heap:=h'}):wpAny (model prog w) A (pyNext (.ref it)) Q E s:=by
 obtain⟨o,ho,hc,hd⟩:=id hit
 obtain⟨od,hod,hcd,hdd⟩:=id hm
 unfold pyNext
 refine wpAny_bind (wpAny_attempt (wpAny_callSpecial?_slot (name:=Str.ofString "__next__") hit.typeIs F.slot_dict_keyiterator_next
  (wpAny_call_entry F.slot_dict_keyiterator_next hit.typeIs F.entry_dict_keyiterator_next ?_ (F.args_dict_keyiterator_next_1 _))))
 refine wpAny_bind (wpAny_pure ?_)
 refine wpAny_bind ?_
 refine wpAny_bind ?_
 first |refine wpAny_bind (wpAny_typeNameOfWhole_keyiter hit.typeIs (wpAny_pure ?_))|refine wpAny_bind (wpAny_typeNameOf_keyiter hit.typeIs (wpAny_pure ?_))
 refine wpAny_bind (wpAny_fieldsOf ho hd ?_)
 have hown:Builtin.Dict_items.ownsTuple "dict_keyiterator"=false:=by decide
 simp only[hown,Bool.false_eq_true,if_false]
 show wpAny _ _ (if(Value.ref d==Value.none)=true then _ else _) _ _ s
 rw[if_neg (show¬((Value.ref d==Value.none)=true)from Bool.false_ne_true)]
 refine wpAny_bind (wpAny_pure ?_)
 refine wpAny_bind (wpAny_dictEntries hod hdd ?_)
 rw[if_neg (by simp)]
 refine wpAny_bind (wpAny_pure ?_)
 refine wpAny_bind (wpAny_dictEpoch hod hdd ?_)
 rw[if_neg (by simp)]
 refine wpAny_pure ?_
 obtain⟨hlt',hei⟩:=Array.getElem?_eq_some_iff.mp hx
 simp only[show¬((i:Int)<0)from by omega,if_false,Int.toNat_natCast,Array.getElem?_eq_getElem hlt']
 refine wpAny_bind ?_
 first |refine wpAny_bind (wpAny_typeNameOfWhole_keyiter hit.typeIs (wpAny_pure ?_))|refine wpAny_bind (wpAny_typeNameOf_keyiter hit.typeIs (wpAny_pure ?_))
 refine wpAny_bind (wpAny_isOneOf_keyiter hit.typeIs ?_)
 show wpAny _ _ (setField (.ref it) 1 (rawInt ((i:Int)+1))>>=_) _ _ s
 refine wpAny_bind (wpAny_setField ho hd (by simp) ?_)
 have hit':(s.heap.update it (Obj.mapFields (·.setIfInBounds 1 (rawInt ((i:Int)+1))))).IsKeyIter it d (i+1) es.size ep:=
  ⟨_,Heap.get?_update_self _ ho (Obj.isFreed_of_fields (Obj.data_mapFields hd _)),(Obj.cls_mapFields ..).trans hc,by rw[Obj.data_mapFields hd];simp[rawInt]⟩
 refine wpAny_bind (wpAny_holding ?_)
 refine wpAny_bind (wpAny_isOneOf_keyiter (s:={s with heap:=s.heap.update it (Obj.mapFields (·.setIfInBounds 1 (rawInt ((i:Int)+1))))}) hit'.typeIs ?_)
 show wpAny _ _ (pure es[i].key) _ _ _
 rw[hei]
 exact wpAny_pure (wpAny_pure ⟨_,rfl,wpAny_pure (hQ _ hit' (Heap.SameBut.update ..))⟩)
theorem end_es{Q:Option Value->Shared->Prop}(hh:A.handled=none)(hit:s.heap.IsKeyIter it d i es.size ep)(hm:EsAt s.heap d es ep)(hge:es.size<=i)(hQ:∀h',Heap.ExtBut it s.heap h'->Q none {s with heap:=h'}):wpAny (model prog w) A (pyNext (.ref it)) Q E s:=by
 obtain⟨o,ho,hc,hd⟩:=id hit
 obtain⟨od,hod,hcd,hdd⟩:=id hm
 unfold pyNext
 refine wpAny_bind (wpAny_attempt (wpAny_callSpecial?_slot (name:=Str.ofString "__next__") hit.typeIs F.slot_dict_keyiterator_next
  (wpAny_call_entry F.slot_dict_keyiterator_next hit.typeIs F.entry_dict_keyiterator_next ?_ (F.args_dict_keyiterator_next_1 _))))
 refine wpAny_bind (wpAny_pure ?_)
 refine wpAny_bind ?_
 refine wpAny_bind ?_
 first |refine wpAny_bind (wpAny_typeNameOfWhole_keyiter hit.typeIs (wpAny_pure ?_))|refine wpAny_bind (wpAny_typeNameOf_keyiter hit.typeIs (wpAny_pure ?_))
 refine wpAny_bind (wpAny_fieldsOf ho hd ?_)
 have hown:Builtin.Dict_items.ownsTuple "dict_keyiterator"=false:=by decide
 simp only[hown,Bool.false_eq_true,if_false]
 show wpAny _ _ (if(Value.ref d==Value.none)=true then _ else _) _ _ s
 rw[if_neg (show¬((Value.ref d==Value.none)=true)from Bool.false_ne_true)]
 refine wpAny_bind (wpAny_pure ?_)
 refine wpAny_bind (wpAny_dictEntries hod hdd ?_)
 rw[if_neg (by simp)]
 refine wpAny_bind (wpAny_pure ?_)
 refine wpAny_bind (wpAny_dictEpoch hod hdd ?_)
 rw[if_neg (by simp)]
 refine wpAny_pure ?_
 simp only[show¬((i:Int)<0)from by omega,if_false,Int.toNat_natCast,Array.getElem?_eq_none hge]
 refine wpAny_bind ?_
 first |refine wpAny_bind (wpAny_typeNameOfWhole_keyiter hit.typeIs (wpAny_pure ?_))|refine wpAny_bind (wpAny_typeNameOf_keyiter hit.typeIs (wpAny_pure ?_))
 show wpAny _ _ (setField (.ref it) 0 .none>>=_) _ _ s
 refine wpAny_bind (wpAny_setField ho hd (by simp) ?_)
 show wpAny _ _ (newExc (.type "StopIteration") []>>=_) _ _ _
 refine wpAny_bind ?_
 simp only[newExc,newTuple]
 refine wpAny_bind (wpAny_newObj_type ?_ (by size_fits))
 refine wpAny_bind (m:=firstArgMember _ _) (wpAny_of_eq (a:=Value.none) (by first |rfl|(simp only[firstArgMember];rfl)) ?_)
 refine wpAny_newObj_type ?_ (by size_fits)
 simp only[raiseNew]
 refine wpAny_bind (wpAny_handled ?_)
 rw[show A.in1.handled=none from hh]
 refine wpAny_bind (wpAny_pure (wpAny_throw ?_))
 refine wpAny_bind (wpAny_isInstance (T:="StopIteration") (b:=true) ⟨_,Heap.get?_push_size _ rfl,rfl⟩ isSubtype_stop ?_)
 exact wpAny_pure (hQ _ (((Heap.SameBut.update ..).extBut.push _).push _))
theorem walks_es(hh:A.handled=none)(I d:Addr)(hne:d≠I)(es:Array DictEntry)(ep:Nat):
  Walks prog w A I [I,d] [I] es.size (fun i v=>∃e,es[i]? =some e/\v=e.key) (fun i h=>h.IsKeyIter I d i es.size ep/\EsAt h d es ep) where
 sub:=fun b hb=>by simp at hb;simp[hb]
 frame:=fun _ _ _ st hk=>⟨st.1.at fun o e=>hk I (by simp) o e,st.2.at' fun o e=>hk d (by simp) o e⟩
 item:=fun i s Q E hi st hQ=>by
  refine next_es (e:=es[i]) st.1 st.2 (by simp[hi]) fun h' hit' hs'=> ?_
  exact hQ _ h' s.toks ⟨_,by simp[hi],rfl⟩ ⟨hit',st.2.at' fun o e=>hs'.extBut d o hne e⟩ fun b o hb e=>hs'.extBut b o (fun h=>hb (by simp[h])) e
 done:=fun s Q E st hQ=>end_es hh st.1 st.2 (Nat.le_refl _) fun h' he'=>hQ h' s.toks fun b o hb e=>he' b o (fun h=>hb (by simp[h])) e
 self:=fun _ _ _ _ st hQ=>wpAny_pyIter_keyiter st.1 hQ
theorem kdl_es(lo:(d==sysModules)=false):KdlSrc prog w "dict" d d es.size (fun i v=>∃e,es[i]? =some e/\v=e.key) (fun h=>EsAt h d es ep) where
 type:=fun _ hm=>hm.typeIs
 there:=fun _ hm=>⟨hm.lt,hm.lt⟩
 keep:=fun _ _ hm hk=>hm.at' fun o e=>hk d (.inl rfl) o e
 notList:=by decide
 notTuple:=by decide
 hint:=fun _ _ _ _ hm hq=>kdl_hint_dict hm.typeIs hq
 iter:=fun _ _ hh hm=>⟨_,_,(fun _ _ hq=>iter_es lo hm hq),walks_es hh _ d (Nat.ne_of_lt hm.lt) es ep,⟨⟨_,Heap.get?_push_size _ rfl,rfl,rfl⟩,hm.at' fun o e=>Heap.get?_push_of_some _ e⟩⟩
theorem items_es{acc:Array Value}(h:ItemsOf (fun i v=>∃e,es[i]? =some e/\v=e.key) acc es.size):acc.toList=es.toList.map (·.key):=by
 refine List.ext_getElem? fun i=> ?_
 rw[List.getElem?_map,Array.getElem?_toList,Array.getElem?_toList]
 by_cases hi:i<es.size
 ·have hi2:i<acc.size:=by rw[h.1];exact hi
  obtain⟨e,h1,h2⟩:=h.2 i acc[i] (by simp[hi2])
  rw[Array.getElem?_eq_getElem hi2,h2,h1];rfl
 ·rw[Array.getElem?_eq_none (by rw[h.1];omega),Array.getElem?_eq_none (by omega)];rfl
theorem collect_es{Q:List Value->Shared->Prop}(hA:A.handled=none)(lo:(d==sysModules)=false)(S:EsAt s.heap d es ep)(hz:es.size<=1000000)(h:∀h' tk,(∀b o,s.heap.get? b=some o->h'.get? b=some o)->s.heap.objs.size<=h'.objs.size->Q (es.toList.map (·.key)) {s with heap:=h',toks:=tk}):
  wpAny (model prog w) A (collect (.ref d)) Q E s:=by
 unfold collect
 refine wpAny_bind (wpAny_runValue (codeAny_builtin entry_proto_collect' ?_))
 show wpAny _ _ (do again (.builtin "list.__iadd__" ⟨[<-newList [],.ref d],[]⟩)) _ _ s
 refine wpAny_bind (wpAny_newList (wpAny_pure ⟨Code.quiet_builtin _ (by decide+kernel),codeAny_builtin entry_list_iadd' ?_⟩))
 rw[Around.under_plainId PySem.F.plain_list_iadd _]
 show wpAny _ _ (Builtin.List.listExtendWith (.ref s.heap.objs.size) (.ref d) (.ref s.heap.objs.size)) _ _ {s with heap:=s.heap.push (seqObj "list" #[] 0)}
 have hne:s.heap.objs.size≠d:=Nat.ne_of_gt S.lt
 refine kdl_extend (R:=fun r s'=>match r with
   | .ok (.ret v)=>wpAny (model prog w) A (match v with
    | .ref a=>do match(<-load a).data with
     | .seq xs _=>pure xs.toList
     |_=>unsupported "internal:collect"
    |_=>unsupported "internal:collect") Q E s'
   | .ok _=>False
   | .error e=>E e s') (s:={s with heap:=s.heap.push (seqObj "list" #[] 0)}) (kdl_es (es:=es) (ep:=ep) lo) (by simpa using hA) (S.at' fun o e=>Heap.get?_push_of_some _ e) s.heap.objs.size hne hne _ 0 (Heap.get?_push_size _ rfl) (fun h' tk acc c keep hl pm=> ?_) (by rw[sizeLine_eq];omega)
 show wpAny (model prog w) A (load s.heap.objs.size>>=_) Q E _
 refine wpAny_bind (wpAny_load hl ?_)
 refine wpAny_pure ?_
 rw[items_es pm]
 exact h h' tk (fun b o e=>keep b o (Nat.ne_of_lt (Heap.lt_size e)) (Heap.get?_push_of_some _ e)) (Nat.le_of_lt (Heap.lt_size hl))
end
noncomputable def TupsAt(h:Heap)(its:List (Addr×List Int)):Prop:=∀p∈its,∃items:List Value,IntsAre items p.2/\IsTup h p.1 items.toArray
noncomputable def RefsOf(its:List (Addr×List Int)):List Value:=its.map fun p=> .ref p.1
noncomputable def kindT(its:List (Addr×List Int)):SortKind:=if its.all (fun p=> !p.2.isEmpty)=true then tuples' true else match its with
 |p::_=>if p.2.isEmpty=true then oneType' else general'
 |[]=>general'
noncomputable def FsT(h:Heap):List Value->List (Option Value)->Prop
 |[],[]=>True
 |v::vs,f::fs=>(∃a o xs n,v= .ref a/\h.get? a=some o/\o.cls= .type "tuple"/\o.data= .seq xs n/\xs[0]? =f)/\FsT h vs fs
 |_,_=>False
section
variable{M:Model}{A:Around}{E:Value->Shared->Prop}{s:Shared}
theorem fsT_run:∀(vs:List Value) (fs:List (Option Value)) {Q:List (Option Value)->Shared->Prop},FsT s.heap vs fs->Q fs s->wpAny M A (vs.mapM firstOfTuple') Q E s
 |[],[],_,_,h=>by rw[List.mapM_nil];exact wpAny_pure h
 |[],_::_,_,t,_=>t.elim
 |_::_,[],_,t,_=>t.elim
 |v::vs,f::fs,Q,t,h=>by
  obtain⟨⟨a,o,xs,n,rfl,ho,hc,hd,hf⟩,t⟩:=t
  rw[List.mapM_cons]
  refine wpAny_bind ?_
  rw[kas_first_eq]
  refine wpAny_bind (Looks.here (show Looks M s.heap (typeOf (.ref a)) o.cls from(Looks.ld ho).andThen .now) ?_)
  rw[hc,if_neg (by first |decide|simp)]
  refine wpAny_bind (listItems_at ho hd (wpAny_pure ?_))
  rw[hf]
  exact wpAny_bind (fsT_run vs fs (Q:=fun bs s'=>wpAny M A (pure (f::bs)) Q E s') t (wpAny_pure h))
theorem fsT_of{h:Heap}:∀(its:List (Addr×List Int)),TupsAt h its->∃fs,FsT h (RefsOf its) fs/\fs.map (·.isSome)=its.map (fun p=> !p.2.isEmpty)
 |[],_=>⟨[],trivial,rfl⟩
 |p::its,hT=>by
  obtain⟨fs,h1,h2⟩:=fsT_of its fun q hq=>hT q (List.mem_cons_of_mem _ hq)
  obtain⟨items,hi,o,e,hc,n,hd⟩:=hT p List.mem_cons_self
  refine⟨items.toArray[0]? ::fs,⟨⟨p.1,o,_,n,rfl,e,hc,hd,rfl⟩,h1⟩,?_⟩
  rw[List.map_cons,List.map_cons,h2]
  congr 1
  obtain⟨pa,pn⟩:=p
  dsimp only at hi
  cases hi with
  |nil=>rfl
  |cons i t _=>simp
theorem kind_mixed{its:List (Addr×List Int)}{Q:SortKind->Shared->Prop}(hT:TupsAt s.heap its)(h2:2<=its.length)(hn:¬its.all (fun p=> !p.2.isEmpty)=true)(h:Q (kindT its) s):wpAny M A (keyKind' (RefsOf its).toArray) Q E s:=by
 obtain⟨fs,f1,f2⟩:=fsT_of its hT
 unfold kindT at h
 rw[if_neg hn]at h
 have hall:¬(fs.toArray.all fun x=>x.isSome)=true:=fun z=>hn (by
  have e:its.all (fun p=> !p.2.isEmpty)=(its.map (fun p=> !p.2.isEmpty)).all id:=by rw[List.all_map];rfl
  rw[e,<-f2,List.all_map]
  simpa using z)
 rw[kat_kind_eq,List.mapM_toArray,map_eq_pure_bind]
 refine wpAny_bind (wpAny_bind (fsT_run _ fs f1 (wpAny_pure ?_)))
 rw[if_neg hall]
 match its,fs,f2,h2,h,hT with
 |p::its,f::fs,f2,h2,h,hT=>
  have ef:f.isSome= !p.2.isEmpty:=by
   rw[List.map_cons,List.map_cons]at f2
   exact(List.cons.inj f2).1
  have e0:((f::fs).toArray[0]?.bind id).isSome= !p.2.isEmpty:=by simpa using ef
  dsimp only at h
  cases hp:p.2.isEmpty with
  |false=>
   rw[if_pos (by rw[e0,hp];rfl)]
   rw[hp,if_neg Bool.false_ne_true]at h
   exact wpAny_pure h
  |true=>
   rw[if_neg (by rw[e0,hp];exact Bool.false_ne_true)]
   rw[hp,if_pos rfl]at h
   rw[oneTypeOnly'_eq,List.mapM_toArray,map_eq_pure_bind]
   refine wpAny_bind (wpAny_bind (wpAny_bind (kas_mapM (r:=Value.type "tuple") _ (fun v hv Q' hq=> ?_) (wpAny_pure ?_))))
   ·obtain⟨q,hq',rfl⟩:=List.mem_map.mp hv
    obtain⟨items,hi,o,e,hc,n,hd⟩:=hT q hq'
    refine Looks.here (show Looks M s.heap (typeOf (.ref q.1)) o.cls from(Looks.ld e).andThen .now) ?_
    rw[hc];exact hq
   ·have hall2:((List.map (fun _=>Value.type "tuple") (RefsOf (p::its))).toArray.all fun x=>x==Value.type "tuple")=true:=by
     simp only[List.all_toArray,List.all_map,List.all_eq_true]
     intro _ _
     rfl
    have h0:(List.map (fun _=>Value.type "tuple") (RefsOf (p::its))).toArray[0]? =some (Value.type "tuple"):=by unfold RefsOf;simp
    rw[h0]
    simp only[hall2,if_true]
    exact wpAny_pure (wpAny_pure h)
end
section
variable{prog:Program}{w:World}{A:Around}{E:Value->Shared->Prop}{s:Shared}
theorem kind_tups{its:List (Addr×List Int)}{Q:SortKind->Shared->Prop}(hT:TupsAt s.heap its)(h2:2<=its.length)(h:Q (kindT its) s):wpAny (model prog w) A (keyKind' (RefsOf its).toArray) Q E s:=by
 by_cases hn:its.all (fun p=> !p.2.isEmpty)=true
 ·unfold kindT at h
  rw[if_pos hn]at h
  have kt:∀(l:List (Addr×List Int)),(∀p∈l,p∈its)->∃fs:List Value,KatTups s.heap (RefsOf l) fs/\fs.length=l.length/\∀v∈fs,∃i t,v=Value.int i t:=by
   intro l
   induction l with
   |nil=>intro _;exact⟨[],trivial,rfl,fun _ hv=>nomatch hv⟩
   |cons p l ih=>
    intro hs
    obtain⟨fs,k1,k2,k3⟩:=ih fun p hp=>hs p (List.mem_cons_of_mem _ hp)
    obtain⟨items,hi,o,e,hc,n,hd⟩:=hT p (hs p List.mem_cons_self)
    have hne:(!p.2.isEmpty)=true:=List.all_eq_true.mp hn p (hs p List.mem_cons_self)
    obtain⟨pa,pn⟩:=p
    dsimp only at hi hne e
    cases hi with
    |nil=>exact absurd hne (by decide)
    |cons i t hi'=>
     refine⟨Value.int i t::fs,KatTups.cons e hc hd (by simp) k1,by simp[k2],fun v hv=> ?_⟩
     rcases List.mem_cons.mp hv with e|e
     ·exact⟨i,t,e⟩
     ·exact k3 v e
  obtain⟨fs,k1,k2,k3⟩:=kt its fun _ hp=>hp
  refine kat_kind (T:= .type "int") k1 (by omega) (fun v hv=> ?_) (by rfl) h
  obtain⟨i,t,rfl⟩:=k3 v hv
  exact fun A Q E s _ q=>wpAny_pure q
 ·exact kind_mixed hT h2 hn h
theorem lt_kind{its:List (Addr×List Int)}{Q:Bool->Shared->Prop}{p q:Addr×List Int}(hp:p∈its)(hq:q∈its)(hT:TupsAt s.heap its)(hu:A.units<cLine)(h:Q (HT.lexLt p.2 q.2) s):wpAny (model prog w) A (keyLt' (kindT its) (.ref p.1) (.ref q.1)) Q E s:=by
 obtain⟨xi,hxi,ti⟩:=hT p hp
 obtain⟨xj,hxj,tj⟩:=hT q hq
 have gen:wpAny (model prog w) A (keyLt' general' (.ref p.1) (.ref q.1)) Q E s:=kat_one _ _ (HT.lt_tupInts ti tj (by simpa using hxi) (by simpa using hxj) hu h)
 unfold kindT
 split
 ·obtain⟨oi,ei,ci,ni,di⟩:=id ti
  obtain⟨oj,ej,cj,nj,dj⟩:=id tj
  refine kat_lt ei di ej dj ?_
  refine Srt.lex_ints 0 hxi hxj ?_ h
  have:=hxi.length;have:=hxj.length
  simp only[List.size_toArray]
  omega
 ·split
  ·split
   ·rw[keyLt'_oneType,oneLt'_eq]
    simp only[if_true]
    refine wpAny_bind (wpAny_cRoomFor hu ?_)
    obtain⟨⟨cls,dd,data,sl⟩,ho,hc,n,hd⟩:=id ti
    obtain⟨⟨cls2,dd2,data2,sl2⟩,ho2,hc2,n2,hd2⟩:=id tj
    simp only at hc hd hc2 hd2
    subst hc hd hc2 hd2
    refine wpAny_bind (wpAny_callSpecialIfBound?_slot (T:="tuple") ⟨_,ho,rfl⟩ PySem.F.slot_tuple_lt (call_meets PySem.F.slot_tuple_lt ⟨_,ho,rfl⟩ PySem.F.entry_tuple_lt (PySem.F.args_tuple_lt_2 _ _) (HT.tuple_lt_ints p.1 q.1 _ _ n n2 dd dd2 sl sl2 p.2 q.2 (by simpa using hxi) (by simpa using hxj)) ⟨ho,ho2,?_⟩))
    exact wpAny_truthy_bool h
   ·exact gen
  ·exact gen
end
end DH
namespace DH
open PySem PySem.W PyProof.Rows PySem.Calls
section
variable{prog:Program}{w:World}{A:Around}{E:Value->Shared->Prop}{s:Shared}{d:Addr}{es:Array DictEntry}{ep:Nat}
theorem refs_paired:∀its:List (Addr×List Int),Paired (fun(p:Addr×List Int) (v:Value)=>v= .ref p.1) its (RefsOf its)
 |[]=> .nil
 |p::its=> .cons rfl (refs_paired its)
theorem refs_at{its:List (Addr×List Int)}{i:Nat}(hi:i<its.length):(RefsOf its).getD i Value.none= .ref its[i].1:=by
 unfold RefsOf
 rw[List.getD_eq_getElem?_getD,List.getElem?_map,List.getElem?_eq_getElem hi];rfl
theorem TupsAt.keep{h h':Heap}{its:List (Addr×List Int)}(x:TupsAt h its)(k:∀b o,h.get? b=some o->h'.get? b=some o):TupsAt h' its:=fun p hp=>by
 obtain⟨items,hi,o,e,r⟩:=x p hp
 exact⟨items,hi,o,k _ _ e,r⟩
theorem sorted_es{its:List (Addr×List Int)}{Q:Value->Shared->Prop}(hA:A.handled=none)(lo:(d==sysModules)=false)(S:EsAt s.heap d es ep)(hv:es.toList.map (·.key)=RefsOf its)(hT:TupsAt s.heap its)(h64:its.length<64)(hu:A.in1.in1.units<cLine)(q:∀D h' tk out c (its':List (Addr×List Int)),its'.Perm its->its'.Pairwise (fun p q=>HT.lexLt q.2 p.2=false)->Paired (fun(p:Addr×List Int) (v:Value)=>v= .ref p.1) its' out->s.heap.objs.size<=D->(∀b o,s.heap.get? b=some o->h'.get? b=some o)->h'.get? D=some (seqObj "list" (List.toArray out) c)->Q (.ref D) {s with heap:=h',toks:=tk}):
  wpAny (model prog w) A (call (.builtin "sorted") [.ref d]) Q E s:=by
 have hlen:(RefsOf its).length=its.length:=List.length_map _
 have hes:es.size=its.length:=by rw[<-hlen,<-hv,List.length_map,Array.length_toList]
 refine Calls.call_function_entry kind_sorted plain_sorted entry_sorted (args_sorted1 _) ?_
 unfold Builtin.«sorted»
 refine wpAny_bind (m:=checkCount "sorted" 1 1 _) (wpAny_pure (wpAny_bind (collect_es (by simpa using hA) lo S (by omega) fun h1 tk keep1 le=> ?_)))
 rw[hv]
 refine wpAny_bind (wpAny_newList ?_ (by rw[sizeLine_eq];omega))
 have hoL:(h1.push (seqObj "list" (RefsOf its).toArray 0)).get? h1.objs.size=some (seqObj "list" (RefsOf its).toArray 0):=Heap.get?_push_size _ rfl
 have keep:∀b o,s.heap.get? b=some o->(h1.push (seqObj "list" (RefsOf its).toArray 0)).get? b=some o:=fun b o e=>Heap.get?_push_of_some _ (keep1 b o e)
 have ne:∀b o,s.heap.get? b=some o->b≠h1.objs.size:=fun b o e=>Nat.ne_of_lt (Heap.lt_size (keep1 b o e))
 refine wpAny_bind (wpAny_holding (wpAny_call_entry slot_list_sort ⟨_,hoL,rfl⟩ entry_list_sort ?body (args_list_sort _)))
 case body=>
  refine Srt.list_sort_own (O:=Srt.lexOrd) (key:=fun i=>(its.getD i (0,[])).2) (κ:=kindT its) (vs:=RefsOf its) (s:={s with heap:=h1.push (seqObj "list" (RefsOf its).toArray 0),toks:=tk}) hoL (by omega)
   (fun h2 h' k Q hq=> ?_) (fun h2 h' k=> ?_) fun h' out c ho k hc=> ?_
  ·exact kind_tups (s:={s with heap:=h',toks:=tk}) (hT.keep fun b o e=>k b o (ne b o e) (keep b o e)) (by omega) hq
  ·intro i j C hi hj hC
   rw[hlen]at hi hj
   unfold PySem.W.kas_ask
   rw[refs_at hi,refs_at hj]
   refine lt_kind (s:={s with heap:=h',toks:=tk}) (List.getElem_mem hi) (List.getElem_mem hj) (hT.keep fun b o e=>k b o (ne b o e) (keep b o e)) hu ?_
   rw[HT.lexLt_iff]
   have e1:its.getD i (0,[])=its[i]:=by simp[hi]
   have e2:its.getD j (0,[])=its[j]:=by simp[hj]
   have hC':C (decide ((its.getD i (0,[])).2<(its.getD j (0,[])).2)) _:=hC
   rw[e1,e2]at hC'
   exact hC'
  ·obtain⟨its',hp,hr,hw⟩:=Srt.outs_of (d:=((0,[]):Addr×List Int)) (f:=fun p=>p.2) (refs_paired its) (fun i hi=>by show(its.getD i (0,[])).2=_;simp[hi]) ho
   refine⟨_,rfl,wpAny_pure ⟨_,rfl,q _ h' tk out c its' hp (hw.imp fun{x y} hxy=> ?_) hr le (fun b o e=>k b o (ne b o e) (keep b o e)) hc⟩⟩
   rw[HT.lexLt_iff];exact hxy
end
end DH
namespace L2
open PySem PySem.Spec PyProof.Rows
noncomputable def ksI(k:List Key):List Int:=k.map fun
 | .inl i=>i
 | .inr _=>0
noncomputable def IntK(k:List Key):Prop:=k=(ksI k).map Sum.inl
theorem ksI_inl(ns:List Int):ksI (ns.map Sum.inl)=ns:=by
 unfold ksI
 rw[List.map_map]
 induction ns with
 |nil=>rfl
 |cons n ns ih=>rw[List.map_cons,ih];rfl
theorem IntK.of(ns:List Int):IntK (ns.map Sum.inl):=by unfold IntK;rw[ksI_inl]
theorem IntK.vals{k:List Key}(h:IntK k):k.map kV=(ksI k).map V.int:=by
 rw[h,List.map_map,ksI_inl];rfl
section
variable{X:Cx}
theorem call_sortedD0(hc:X.calm=true)(hu:X.A.units+64<cLine):CallR X (.builtin "sorted") (fun xs H Q=>∃(a:Addr) (kvs:List (List Key×V)),xs=[.ref a]/\H a=some (.dT kvs)/\kvs.length<64/\(∀kv∈kvs,IntK kv.1)/\
  ∀(l:Addr) (its:List (Addr×List Int)),H l=none->(∀p∈its,H p.1=some (.tup (p.2.map V.int)))->(its.map (·.2)).Perm (kvs.map fun kv=>ksI kv.1)->(kvs.map (·.1)).Nodup->its.Pairwise (fun p q=>HT.lexLt q.2 p.2=false)->Q (.ref l) (upd H l (.lst (its.map fun p=>V.ref p.1)))):=by
 intro pins s σ H xs us Q I r h
 obtain⟨a,kvs,rfl,hD,h64,hK,q⟩:=h
 obtain⟨u,rfl,ru⟩:=r.one
 cases ru
 obtain⟨z,hd,ys,rel,dd⟩:=dt_of I.hok hD
 obtain⟨o,es,ep,ho,hx,hdat,he,his,hn⟩:=id dd
 have hl:ys.length=kvs.length:=(Paired.length rel).symm
 have main:∃its:List (Addr×List Int),es.toList.map (·.key)=DH.RefsOf its/\(∀p∈its,H p.1=some (.tup (p.2.map V.int)))/\its.map (·.2)=kvs.map fun kv=>ksI kv.1:=by
  rw[he]
  clear his hn he hdat hx ho dd hl h64 z q hD
  induction rel with
  |nil=>exact⟨[],rfl,fun _ hp=>(nomatch hp),rfl⟩
  | @cons p y kvs ys r t ih=>
   obtain⟨its,h1,h2,h3⟩:=ih fun kv hkv=>hK kv (List.mem_cons_of_mem _ hkv)
   refine⟨(y.2.1,ksI p.1)::its,?_,fun q hq=> ?_,?_⟩
   ·rw[List.map_cons,List.map_cons,h1];rfl
   ·rcases List.mem_cons.mp hq with e|e
    ·rw[e]
     show H y.2.1=some (.tup ((ksI p.1).map V.int))
     rw[<-(hK p List.mem_cons_self).vals]
     exact r.2.1
    ·exact h2 q e
   ·rw[List.map_cons,List.map_cons,h3]
 obtain⟨its,m1,m2,m3⟩:=main
 have hln:its.length=kvs.length:=by have:=congrArg List.length m3;simpa using this
 have hT:DH.TupsAt s.heap its:=fun p hp=>by
  obtain⟨its',r',t',_⟩:=I.tuple (SqT.of (K:=X.K) (m2 p hp))
  exact⟨its',intsAre_of r',t'⟩
 refine DH.sorted_es (I.ok.hd hc) hd ⟨o,ho,hx,hdat⟩ m1 hT (by omega) (show X.A.units+1+1<cLine by omega) fun D h' tk out c its' hp hw hr hDs k hO=> ?_
 have rv':Vals (its'.map fun p=>V.ref p.1) out:=by
  have go:∀(l:List (Addr×List Int)) (us:List Value),Paired (fun(p:Addr×List Int) (v:Value)=>v= .ref p.1) l us->Vals (l.map fun p=>V.ref p.1) us:=by
   intro l us h
   induction h with
   |nil=>exact .nil
   |cons r t ih=>exact .cons r ih
  exact go its' out hr
 have zl:(its'.map fun p=>V.ref p.1).length<=sizeLine:=by
  have:=hp.length_eq
  rw[List.length_map,sizeLine_eq];omega
 have J:Inv X pins σ (upd H D (.lst (its'.map fun p=>V.ref p.1))) {s with heap:=h',toks:=tk}:=I.laid k hDs ⟨zl,out,c,rv',hO⟩
 have ek:kvs.map (·.1)=ys.map (·.1):=by
  clear hK m3 hln hT rv' zl J hl hn his he dd m1 hD h64 z q
  induction rel with
  |nil=>rfl
  |cons r t ih=>rw[List.map_cons,List.map_cons,ih,r.1]
 refine⟨.ref D,_,J,rfl,q D its' (I.hok.fresh hDs) (fun p hp'=>m2 p (hp.mem_iff.mp hp')) ?_ (by rw[ek];exact hn) hw⟩
 rw[<-m3]
 exact hp.map _
theorem lex_asym:∀a b:List Int,HT.lexLt a b=true->HT.lexLt b a=false
 |[],[],h=>by cases h
 |[],_::_,_=>rfl
 |_::_,[],h=>by cases h
 |x::xs,y::ys,h=>by
  rw[HT.lexLt_cons]at h⊢
  by_cases e:x=y
  ·rw[if_pos e]at h
   rw[if_pos e.symm]
   exact lex_asym xs ys h
  ·rw[if_neg e]at h
   rw[if_neg fun z=>e z.symm]
   have:=of_decide_eq_true h
   exact decide_eq_false (by omega)
theorem lex_tot:∀a b:List Int,HT.lexLt b a=false->a≠b->HT.lexLt a b=true
 |[],[],_,n=>absurd rfl n
 |[],_::_,_,_=>rfl
 |_::_,[],h,_=>by cases h
 |x::xs,y::ys,h,n=>by
  rw[HT.lexLt_cons]at h⊢
  by_cases e:x=y
  ·rw[if_pos e.symm]at h
   rw[if_pos e]
   exact lex_tot xs ys h (fun z=>n (by rw[e,z]))
  ·rw[if_neg fun z=>e z.symm]at h
   rw[if_neg e]
   have:=of_decide_eq_false h
   exact decide_eq_true (by omega)
theorem valV_mem{kvs:List (List Key×V)}{k:List Key}:(valV kvs k).isSome=true↔k∈kvs.map (·.1):=by
 rw[<-valV_any,List.any_eq_true]
 constructor
 ·rintro⟨kv,h1,h2⟩
  exact List.mem_map.mpr ⟨kv,h1,of_decide_eq_true h2⟩
 ·intro h
  obtain⟨kv,h1,h2⟩:=List.mem_map.mp h
  exact⟨kv,h1,decide_eq_true h2⟩
theorem call_sortedD(hc:X.calm=true)(hu:X.A.units+64<cLine):CallR X (.builtin "sorted") (fun xs H Q=>∃(a:Addr) (kvs:List (List Key×V)),xs=[.ref a]/\H a=some (.dT kvs)/\kvs.length<64/\(∀kv∈kvs,IntK kv.1)/\
  ∀(l:Addr) (its:List (Addr×List Int)),H l=none->(∀p∈its,H p.1=some (.tup (p.2.map V.int)))->its.length=kvs.length->(∀k:List Int,k∈its.map (·.2)↔(valV kvs (k.map Sum.inl)).isSome=true)->(its.map (·.2)).Pairwise (fun p q=>HT.lexLt p q=true)->Q (.ref l) (upd H l (.lst (its.map fun p=>V.ref p.1)))):=by
 intro pins s σ H xs us Q I r h
 obtain⟨a,kvs,e,hD,h64,hK,q⟩:=h
 refine call_sortedD0 hc hu pins s σ H xs us Q I r ⟨a,kvs,e,hD,h64,hK,fun l its hl h1 hp nd hs=> ?_⟩
 have nd2:(kvs.map fun kv=>ksI kv.1).Nodup:=by
  have e:(kvs.map fun kv=>ksI kv.1)=(kvs.map (·.1)).map ksI:=by rw[List.map_map];rfl
  rw[e]
  unfold List.Nodup
  rw[List.pairwise_map]
  refine nd.imp_of_mem fun{x y} hx hy ne z=>ne ?_
  obtain⟨kx,mx,rfl⟩:=List.mem_map.mp hx
  obtain⟨ky,my,rfl⟩:=List.mem_map.mp hy
  rw[hK kx mx,hK ky my,z]
 have nd3:(its.map (·.2)).Nodup:=hp.nodup_iff.mpr nd2
 refine q l its hl h1 (by have:=hp.length_eq;simpa using this) (fun k=> ?_) ?_
 ·rw[hp.mem_iff,valV_mem]
  constructor
  ·intro h
   obtain⟨kv,m1,rfl⟩:=List.mem_map.mp h
   rw[<-hK kv m1]
   exact List.mem_map.mpr ⟨kv,m1,rfl⟩
  ·intro h
   obtain⟨kv,m1,e⟩:=List.mem_map.mp h
   exact List.mem_map.mpr ⟨kv,m1,by rw[e,ksI_inl]⟩
 ·have hs2:(its.map (·.2)).Pairwise (fun p q=>HT.lexLt q p=false):=by rw[List.pairwise_map];exact hs
  exact(hs2.and nd3).imp fun{x y} h=>lex_tot x y h.1 h.2
end
end L2
namespace DH
open PySem PySem.W PyProof.Rows PySem.Calls
section
variable{prog:Program}{w:World}{K:Type} [DecidableEq K]{knd:HeapKind prog w K}{A:Around}{E:Value->Shared->Prop}{s:Shared}
end
end DH
namespace L2
open PySem PySem.Spec PyProof.Rows
section
variable{X:Cx}
end
end L2
namespace L2
open PySem PySem.Spec PyProof.Rows
section
variable{X:Cx}
noncomputable def rCatR:R2:=fun x y H Q=>∃a b xs ys,x= .ref a/\y= .ref b/\H a=some (.tup xs)/\H b=some (.tup ys)/\xs.length+ys.length<=sizeLine/\∀r H',Same H H'->H' r=some (.tup (xs++ys))->Q (.ref r) H'
theorem op_catR:OpR X (binaryOp .Add) rCatR:=by
 intro pins s σ H x y v u Q I rx ry h
 obtain⟨a,b,xs,ys,rfl,rfl,ha,hb,hz,q⟩:=h
 by_cases hx:xs=[]
 ·subst hx
  cases rx
  cases ry
  obtain⟨its,r1,p1,_⟩:=I.tuple (SqT.of (K:=X.K) ha)
  obtain⟨its2,r2,p2,_⟩:=I.tuple (SqT.of (K:=X.K) hb)
  cases r1
  obtain⟨⟨cls,dd,data,sl⟩,ho,hc,n,hd⟩:=id p1
  obtain⟨⟨cls2,dd2,data2,sl2⟩,ho2,hc2,n2,hd2⟩:=id p2
  simp only at hc hd hc2 hd2
  subst hc hd hc2 hd2
  exact concat_meets ⟨_,ho,rfl⟩ ⟨_,ho2,rfl⟩ noFill_tuple_add seq_tuple_add PySem.F.slot_tuple_add PySem.F.entry_tuple_add (PySem.F.args_tuple_add_2 _ _)
   (tuple_addW0 a b _ _ n n2 dd dd2 sl sl2 (by simp)) ⟨ho,ho2,⟨.ref b,H,I,rfl,q b H (Same.refl _) hb⟩⟩
 ·refine op_catT pins s σ H _ _ v u Q I rx ry ⟨a,b,xs,ys,rfl,rfl,SqT.of ha,SqT.of hb,hx,hz,fun e=> ?_,fun e p hp=> ?_⟩
  ·subst e
   exact q a H (Same.refl _) (by rw[List.append_nil];exact ha)
  ·exact q p _ (fun c o e=>by rw[zaf (zai e hp)];exact e) zab
end
end L2
namespace L2
open PySem PySem.Spec PyProof.Rows
noncomputable def lamEnv(X:Cx)(scope:Scope)(s:Shared)(f:Addr)(cdv:Value):Env:=PySem.W.envX (X.env.qual++"<lambda>") scope s.heap.objs.size f cdv (clOf X.env.cells scope.names [])
noncomputable def lamCx(X:Cx)(A:Around)(N:List Str)(s:Shared)(H:Hp)(env:Env):Cx:=
 {X with A:=A.deeper env,N:=N,s₀:=s,H₀:=H,env:=env,outer:=X.stack,stack:=env::X.stack,ex:=[],fn:=fun _=>false,calm:=true,pn:=[],xe:=fun _ _=>False}
noncomputable def lamIni(ix:List Nat)(σ:St)(v:V):St:=some v::ix.map fun j=>(σ[j]?).join
section
variable{X:Cx}{scope:Scope}{caps:List Str}{ix:List Nat}{y:Str}{A:Around}{pins:List (Addr×Obj)}{σ:St}{H:Hp}{s:Shared}{f:Addr}{cdv:Value}{v:V}{u:Value}
theorem lam_entry{s':Shared}(ck:compOk X.env.scope scope=true)(hkind:scope.kind= .function)(hcap:Caps X scope caps ix)(hy:scope.names.lookup y=some .local)(hhd:A.handled=none)(hfr:A.frames=some X.stack)
  (I:Inv X pins σ H s)(rv:RelV v u)(hos:s'.os=s.os)(hg:AllBare s'.gens)(hk:∀b o,s.heap.get? b=some o->s'.heap.get? b=some o)(hn:s'.heap.Ns s.heap.objs.size (fun x=>[(y,u)].reverse.lookup x)):
  Inv (lamCx X A (y::caps) s H (lamEnv X scope s f cdv)) [] (lamIni ix σ v) H s':=by
 have cl1:∀x c,(clOf X.env.cells scope.names []).lookup x=some c->X.env.cells.lookup x=some c:=fun x c e=>by
  rcases clOf_mem (PySem.mem_of_lookup e)with q|⟨q,mm⟩
  ·cases q
  ·obtain⟨d,hd⟩:=I.ok.has x (compOk.free ck mm)
   rw[hd]at q
   rw[hd,q];rfl
 have cl2:∀x,(x,NameKind.free)∈scope.names->∃c,(clOf X.env.cells scope.names []).lookup x=some c:=fun x mm=>by
  obtain⟨c,hc⟩:=clOf_has (cells:=X.env.cells) (acc:=[]) mm
  obtain⟨d,hd,_⟩:=zci hc
  exact⟨d,hd⟩
 have bsz:X.base.objs.size<=s.heap.objs.size:=Nat.le_trans I.ok.bsz I.sz
 refine⟨⟨I.ok.mod,hkind,rfl,rfl,Nat.le_refl _,fun x y c h1 h2=>I.ok.inj x y c (cl1 x c h1) (cl1 y c h2),fun x hx=> ?_,fun x c h=>(nomatch h),fun _=>hhd,Around.frames_deeper hfr,.inr ⟨rfl,rfl⟩,fun b hb=>(nomatch hb),I.bs,bsz,
  fun b o e hb=>(nomatch hb),fun b hb=>(nomatch hb),I.stack,I.stkFree⟩,hos,hg,Un.kept hk,⟨_,hn,fun i x w h1 h2 h3=> ?_⟩,fun x c e=> ?_,I.hok.fresh (Nat.le_refl _),fun x c e=>I.freeC x c (cl1 x c e),fun p hp=>absurd (show p∈([]:List (Addr×Obj))from hp) (by simp),I.hok.kept hk,?_⟩
 ·have hx:scope.names.lookup x=some .cell\/scope.names.lookup x=some .free:=hx
  rcases hx with q|q
  ·exact absurd rfl (compOk.cell ck _ (PySem.mem_of_lookup q))
  ·exact cl2 x (PySem.mem_of_lookup q)
 ·have h1:(y::caps)[i]? =some x:=h1
  have h2:(some v::ix.map fun j=>(σ[j]?).join)[i]? =some (some w):=h2
  cases i with
  |zero=>
   have h1:some y=some x:=h1
   have h2:some (some v)=some (some w):=h2
   cases h1
   cases h2
   exact⟨u,rv,.inl ⟨hy,by simp[List.lookup_cons]⟩⟩
  |succ i=>
   rw[List.getElem?_cons_succ]at h1 h2
   obtain⟨j,e1,e2,e3⟩:=hcap.get h1
   rw[List.getElem?_map,e1]at h2
   have h2':(σ[j]?).join=some w:=by simpa using h2
   have h4:σ[j]? =some (some w):=by
    cases q:σ[j]? with
    |none=>rw[q]at h2';cases h2'
    |some w=>rw[q]at h2';exact congrArg some h2'
   obtain⟨m0,hn0,hl0⟩:=I.loc
   have mm:=PySem.mem_of_lookup e3
   have vis:=compOk.free ck mm
   obtain⟨u,r,l⟩:=hl0 j x w e2 h4 (.inr vis)
   refine⟨u,r,.inr ?_⟩
   rcases l with⟨k,_⟩|⟨k,c,e,z⟩
   ·rcases vis with q|q
    ·rw[show X.env.kindOf x=some .cell from q]at k;cases k
    ·rw[show X.env.kindOf x=some .free from q]at k;cases k
   ·obtain⟨d,hd⟩:=cl2 x mm
    have:=cl1 x d hd
    rw[e]at this
    cases this
    exact⟨.inr e3,c,hd,z.keeps hk⟩
 ·obtain⟨v,z⟩:=I.cell x c (cl1 x c e)
  exact⟨v,z.keeps hk⟩
 ·show(some v::ix.map fun j=>(σ[j]?).join).length=(y::caps).length
  simp[hcap.len]
theorem lam_run{k:Nat}{Q:VK}{te:TE}{params:Arguments}{body:Expr}{pm ctv:Value}{c':Addr}(ck:compOk X.env.scope scope=true)(hkind:scope.kind= .function)(hcap:Caps X scope caps ix)(hy:scope.names.lookup y=some .local)(hco:scope.isCoroutine=false)(hgen:scope.isGenerator=false)(hr:Room (k+1) A)(hfr:A.frames=some X.stack)(he:PE (lamCx X A (y::caps) s H (lamEnv X scope s f (.ref c'))) body te)(I:Inv X pins σ H s)(rv:RelV v u)(ho:s.heap.get? f=some (PySem.W.kla_obj "<lambda>" (X.env.qual++"<lambda>") params body scope (clOf X.env.cells scope.names []) pm c' ctv))(hcd:s.heap.CodeRec (.ref c') (X.env.qual++"<lambda>"))(hbind:∀(q:Str) (cl:List (Str×Addr)) (pm cd ct u:Value),bindArgs (PySem.W.kla_fn "<lambda>" q params body scope cl pm cd ct) ⟨[u],[]⟩=pure [(y,u)])(hq:te (lamIni ix σ v) H Q):
  wpAny (model X.prog X.w) A (call (.ref f) [u]) (EP X pins σ fun v H'=>Q v H'/\∀b o u,H b=some (.frz o u)->H' b=some (.frz o u)) (fun _ _=>False) s:=by
 refine wpAny_call (PySem.W.kla_callFunE hr.depth ho rfl hco hgen rfl hcd ?_)
 rw[hbind]
 refine wpAny_pure (wpAny_newFunctionEnv (compOk.cell ck) (fun z hz=>by rw[List.mem_singleton.mp hz];exact hy) (fun h₁ hns hsb=>⟨I.nolimit.fresh _ hsb,?_⟩) hkind)
 have hk₁:∀b o,s.heap.get? b=some o->h₁.get? b=some o:=fun b o e=>hsb.extBut b o (Nat.ne_of_lt (Heap.lt_size e)) (Heap.get?_push_of_some _ e)
 show codeAny _ _ (.expr body (lamEnv X scope s f (.ref c'))) _ _
 have I':=lam_entry (A:=A) (f:=f) (cdv:= .ref c') (s':={s with heap:=h₁,toks:=s.toks+[(y,u)].length}) ck hkind hcap hy hr.hd hfr I rv rfl I.bare hk₁ hns
 refine PySem.W.kla_codeExpr (wpAny_mono (he [] _ _ _ _ I' hq) (fun v' s' z=> ?_) fun _ _ z=>z.elim)
 obtain⟨x,H',J,r,q⟩:=z
 exact I.after ⟨x,H',J.os,J.bare,J.base,J.hok,r,q,J.base.frzs⟩
end
noncomputable def LamOk(H:Hp)(P:Addr)(pos:Pos)(qual:Str):Prop:=H P=some (.tbl #[])\/∃(c':Addr) (oc:Obj) (vs:Array Value) (tq:Tok),H P=some (.tbl #[rawInt pos.line,rawInt pos.col,.ref c'])/\H c'=some (.frz oc (.own 0))/\oc.data= .fields vs/\vs[1]? =some (.str qual tq)
structure LamB(base:Heap)(mg:Str->Option Value)(c P:Addr):Prop where
 hd:PySem.W.CodeHd base c P
 blt:base.BuiltinsAt mg P
 ne:mainGlobals≠P
theorem BuiltinsAt.keeps{h h':Heap}{mg:Str->Option Value}{P:Addr}(x:h.BuiltinsAt mg P)(k:∀b o,h.get? b=some o->h'.get? b=some o):h'.BuiltinsAt mg P:=
 let⟨bm,o,a,b,c,d,e,r⟩:=x;⟨bm,o,a,b,c,d,k _ _ e,r⟩
section
variable{X:Cx}{scope:Scope}{pins:List (Addr×Obj)}{σ:St}{H:Hp}{s:Shared}{c P:Addr}{pos:Pos}{params:Arguments}{body:Expr}{A:Around}{E:Value->Shared->Prop}{Q:Value->Shared->Prop}
theorem lam_make(I:Inv X pins σ H s)(L:LamB X.base X.mg c P)(hcode:X.env.code= .ref c)(hT:LamOk H P pos (X.env.qual++"<lambda>"))(ck:compOk X.env.scope scope=true)(hdef:defaultsOf params X.env=([],[]))(h:∀(f c':Addr) (pm ctv:Value) (H':Hp) (s':Shared),Inv X pins σ H' s'->(∀b o,b≠P->H b=some o->H' b=some o)->LamOk H' P pos (X.env.qual++"<lambda>")->s'.heap.get? f=some (PySem.W.kla_obj "<lambda>" (X.env.qual++"<lambda>") params body scope (clOf X.env.cells scope.names []) pm c' ctv)->
   H' f=none->s.heap.objs.size<=f->(∃(oc:Obj) (vs:Array Value) (tq:Tok),H' c'=some (.frz oc (.own 0))/\oc.data= .fields vs/\vs[1]? =some (.str (X.env.qual++"<lambda>") tq))->Q (.ref f) s'):
  wpAny (model X.prog X.w) A (eval (.Lambda params body scope pos) X.env) Q E s:=by
 refine PySem.W.kla_eval hdef ?_
 have hcl:closureFor scope X.env=pure (clOf X.env.cells scope.names []):=closure_of fun x hx=>I.ok.has x (compOk.free ck hx)
 have hg:s.heap.Ns mainGlobals X.mg:=I.mod.glob.keeps I.bk
 have C:=L.hd.keeps I.bk
 have B:=BuiltinsAt.keeps L.blt I.bk
 rcases hT with hT|⟨c',oc,vs,tq,hT,hC,hd,hv⟩
 ·have hP:s.heap.get? P=some (PySem.W.tabObj #[]):=I.hok P _ hT
  refine PySem.W.kla_makeFunction (ps:=#[]) hcl I.ok.glob hg hcode C hP trivial rfl L.ne B fun c' ctv h' tk hx hge hlt hrec htb=> ?_
  obtain⟨c₂,oc,vs,tq,e2,hoc,hd,hv⟩:=id hrec
  cases e2
  have cP:c'≠P:=Nat.ne_of_gt (Nat.lt_of_lt_of_le (Heap.lt_size hP) hge)
  have old:∀b o,s.heap.get? b=some o->b≠c':=fun b o e=>Nat.ne_of_lt (Nat.lt_of_lt_of_le (Heap.lt_size e) hge)
  have hc0:H c'=none:=I.hok.fresh hge
  have kp:∀b o,b≠P->s.heap.get? b=some o->(h'.push (PySem.W.kla_obj "<lambda>" (X.env.qual++"<lambda>") params body scope (clOf X.env.cells scope.names []) ((X.mg "__name__").getD .none) c' ctv)).get? b=some o:=fun b o hb e=>Heap.get?_push_of_some _ (hx b o hb e)
  have nP:∀b o,H b=some o->o≠.tbl #[]->b≠P:=fun b o e n z=>by rw[z,hT]at e;cases e;exact n rfl
  have eH:∀b,b≠P->b≠c'->upd (upd H P (.tbl (#[]++#[rawInt pos.line,rawInt pos.col,.ref c']))) c' (.frz oc (.own 0)) b=H b:=fun b h1 h2=>by rw[zaf h2,zaf h1]
  have eP:upd (upd H P (.tbl (#[]++#[rawInt pos.line,rawInt pos.col,.ref c']))) c' (.frz oc (.own 0)) P=some (.tbl (#[]++#[rawInt pos.line,rawInt pos.col,.ref c'])):=by rw[zaf cP.symm,zab]
  have J:Inv X pins σ (upd (upd H P (.tbl (#[]++#[rawInt pos.line,rawInt pos.col,.ref c']))) c' (.frz oc (.own 0))) {s with heap:=h'.push (PySem.W.kla_obj "<lambda>" (X.env.qual++"<lambda>") params body scope (clOf X.env.cells scope.names []) ((X.mg "__name__").getD .none) c' ctv),toks:=tk}:=by
   refine I.un (h':=h'.push _) (t':=tk) ⟨fun b o e n hb he=>kp b o (fun z=>by rw[z,hT]at n;cases n) e,fun b o e n hb he=>⟨o.slots,kp b o (fun z=>by rw[z,hT]at n;cases n) e⟩,fun b o e n he=> ?_,fun b o e he=> ?_,fun b xs e=> ?_,fun b o u e=> ?_,fun b ps e=> ?_⟩ fun b u e=> ?_
   ·rw[eH b (fun z=>by rw[z,hT]at n;cases n) (old b o e)];exact n
   ·by_cases hb:b=P
    ·subst hb;exact⟨_,Heap.get?_push_of_some _ htb⟩
    ·exact⟨o,kp b o hb e⟩
   ·rw[eH b (nP b _ e (fun z=>nomatch z)) (zai e hc0)];exact e
   ·rw[eH b (nP b _ e (fun z=>nomatch z)) (zai e hc0)];exact e
   ·by_cases hb:b=P
    ·subst hb;rw[hT]at e;cases e;exact⟨_,eP⟩
    ·exact⟨#[],by rw[eH b hb (zai e hc0),e];simp⟩
   ·by_cases hb:b=P
    ·subst hb
     rw[eP]at e
     cases e
     exact Heap.get?_push_of_some _ htb
    ·by_cases hb2:b=c'
     ·subst hb2
      rw[zab]at e
      cases e
      exact⟨Heap.get?_push_of_some _ hoc,⟨_,Heap.get?_push_of_some _ hoc⟩⟩
     ·rw[eH b hb hb2]at e
      have ow:∀z,H z=some (.own b)->z≠P/\z≠c':=fun z e=>⟨nP z _ e (fun q=>nomatch q),zai e hc0⟩
      refine(I.hok b u e).stay (fun z o hz q=>kp z o ?_ q) (fun z q=>by rw[eH z (ow z q).1 (ow z q).2];exact q) fun z xs q=>by rw[eH z (nP z _ q (fun q=>nomatch q)) (zai q hc0)];exact q
      rcases hz with hz|hz
      ·rw[hz];exact hb
      ·exact(ow z hz).1
  have hsz:s.heap.objs.size<=h'.objs.size:=Nat.le_of_lt (Nat.lt_of_le_of_lt hge hlt)
  refine h h'.objs.size c' _ ctv _ _ J (fun b o hb e=>by rw[eH b hb (zai e hc0)];exact e) (.inr ⟨c',oc,vs,tq,by rw[eP];simp,zab,hd,hv⟩) (Heap.get?_push_size _ rfl) ?_ hsz ⟨oc,vs,tq,zab,hd,hv⟩
  rw[eH _ (Nat.ne_of_gt (Nat.lt_of_lt_of_le (Heap.lt_size hP) hsz)) (Nat.ne_of_gt hlt)]
  exact I.hok.fresh hsz
 ·have hP:s.heap.get? P=some (PySem.W.tabObj #[rawInt pos.line,rawInt pos.col,.ref c']):=I.hok P _ hT
  have hc:s.heap.get? c'=some oc:=(I.hok c' _ hC).1
  refine PySem.W.kla_makeFunctionHit (ps:=#[rawInt pos.line,rawInt pos.col,.ref c']) (cv:= .ref c') hcl I.ok.glob hg hcode C hP trivial (by simp[codeAmong,rawInt]) B fun ctv h' tk hk hsz=> ?_
  have kp:∀b o,s.heap.get? b=some o->(h'.push {cls:= .type "function",data:= .func (PySem.W.kla_fn "<lambda>" (X.env.qual++"<lambda>") params body scope (clOf X.env.cells scope.names []) ((X.mg "__name__").getD .none) (.ref c') ctv)}).get? b=some o:=fun b o e=>Heap.get?_push_of_some _ (hk b o e)
  exact h h'.objs.size c' _ ctv H _ (I.kept (h':=h'.push _) (t':=tk) kp) (fun b o _ e=>e) (.inr ⟨c',oc,vs,tq,hT,hC,hd,hv⟩) (Heap.get?_push_size _ rfl) (I.hok.fresh hsz) hsz ⟨oc,vs,tq,hC,hd,hv⟩
end
end L2
namespace L2
open PySem PySem.Spec PyProof.Rows
structure Mine(X:Cx)(pins:List (Addr×Obj))(I:Addr):Prop where
 lo:X.s₀.heap.objs.size<=I
 loc:I≠X.env.locals
 fs:I∉X.fs
 cl:∀x c,X.env.cells.lookup x=some c->c≠I
 pn:∀p∈X.pn++pins,p.1≠I
section
variable{X:Cx}{σ:St}{H:Hp}{s:Shared}{pins:List (Addr×Obj)}
theorem Mine.new{I:Addr}(J:Inv X pins σ H s)(h:s.heap.objs.size<=I):Mine X pins I:=by
 refine⟨Nat.le_trans J.sz h,Nat.ne_of_gt (Nat.lt_of_lt_of_le J.lt h),J.nofs h,fun x c e=> ?_,fun p hp=>Nat.ne_of_lt (Nat.lt_of_lt_of_le (Heap.lt_size (J.pin p hp).1) h)⟩
 obtain⟨v,o,ho,_⟩:=J.cell x c e
 exact Nat.ne_of_lt (Nat.lt_of_lt_of_le (Heap.lt_size ho) h)
theorem Inv.unpin{p:Addr×Obj}(J:Inv X (p::pins) σ H s):Inv X pins σ H s:=J.pins_of fun q hq=>J.pin q (List.mem_append_right _ (List.mem_cons_of_mem _ hq))
theorem Inv.repin{I:Addr}{o o':Obj}{h':Heap}{tk:Nat}(J:Inv X ((I,o)::pins) σ H s)(m:Mine X pins I)(k:∀b x,b≠I->s.heap.get? b=some x->h'.get? b=some x)(e:h'.get? I=some o')(d:∀v,o'.data≠.cell v):
  Inv X ((I,o')::pins) σ H {s with heap:=h',toks:=tk}:=by
 have hI:=J.pin (I,o) (List.mem_append_right _ List.mem_cons_self)
 have K:=(J.unpin).turned (t':=tk) (it:=I) k hI.2.1 m.loc (.inr m.lo) m.cl m.pn
 refine K.pins_of fun q hq=> ?_
 rcases List.mem_cons.mp hq with z|z
 ·subst z;exact⟨e,hI.2.1,m.loc,m.fs,d⟩
 ·exact K.pin q (List.mem_append_right _ z)
theorem Inv.swap{p q:Addr×Obj}(J:Inv X (p::q::pins) σ H s):Inv X (q::p::pins) σ H s:=J.pins_of fun r hr=>J.pin r (List.mem_append_right _ (by
 rcases List.mem_cons.mp hr with z|z
 ·rw[z];exact List.mem_cons_of_mem _ List.mem_cons_self
 ·rcases List.mem_cons.mp z with z|z
  ·rw[z];exact List.mem_cons_self
  ·exact List.mem_cons_of_mem _ (List.mem_cons_of_mem _ z)))
theorem Mine.under{I:Addr}{p:Addr×Obj}(m:Mine X pins I)(n:p.1≠I):Mine X (p::pins) I:=⟨m.lo,m.loc,m.fs,m.cl,fun q hq=>by
 rcases List.mem_append.mp hq with z|z
 ·exact m.pn q (List.mem_append_left _ z)
 ·rcases List.mem_cons.mp z with z|z
  ·rw[z];exact n
  ·exact m.pn q (List.mem_append_right _ z)⟩
theorem nocell{a:Array Value}{k:Nat}(T:String):∀v,(seqObj T a k).data≠.cell v:=fun v z=>by
 have z':Data.seq a k=Data.cell v:=z
 cases z'
variable{I S f l:Addr}{fo:Obj}{vs:List Value}{RR:Result->Shared->Prop}
theorem minL_go(kf:Nat->Int)(R:Nat->Hp->Prop)(hA:X.A.handled=none)(mI:Mine X ((f,fo)::pins) I)(mS:Mine X ((f,fo)::pins) S)(nSI:S≠I)(nlI:l≠I)(hl:∀j H s,Inv X ((f,fo)::pins) σ H s->R j H->s.heap.IsList l vs.toArray)(turn:∀j v (ps:List (Addr×Obj)) H s,vs[j]? =some v->Inv X ps σ H s->(f,fo)∈ps->R j H->wpAny (model X.prog X.w) X.A.in1 (call (.ref f) [v]) (fun u s'=>∃H' t,u= .int (kf j) t/\Inv X ps σ H' s'/\R (j+1) H') (fun _ _=>False) s)(hR:∀i v H' s',vs[i]? =some v->(∀j,j<vs.length->kf i<=kf j/\(j<i->kf i<kf j))->Inv X pins σ H' s'->R vs.length H'->RR (.ok (.ret v)) s'):
  ∀(r j i:Nat) (H:Hp) (s:Shared) (vb:Value) (tb:Tok) (c:Nat) (oI:Obj),vs.length-(j+1)=r->j+1<=vs.length->Inv X ((I,oI)::(S,seqObj "list" #[vb,.int (kf i) tb] c)::(f,fo)::pins) σ H s->R (j+1) H->s.heap.IsListIter I l (j+1)->vs[i]? =some vb->i<=j->(∀j',j'<=j->kf i<=kf j'/\(j'<i->kf i<kf j'))->
   codeAny (model X.prog X.w) X.A (.builtin "min.loop" ⟨[.ref I,.ref f,.ref S],[]⟩) RR s:=by
 have nm:(toString "min"++toString ".loop":String)="min.loop":=by decide
 have W:=Walks.list (prog:=X.prog) (w:=X.w) (A:=X.A.in1) hA I l nlI vs.toArray
 have zs:vs.toArray.size=vs.length:=List.size_toArray ..
 have m2:∀o,Mine X ((S,o)::(f,fo)::pins) I:=fun o=>mI.under (p:=(S,o)) nSI
 have m3:∀o,Mine X ((I,o)::(f,fo)::pins) S:=fun o=>mS.under (p:=(I,o)) nSI.symm
 intro r
 induction r with
 |zero=>
  intro j i H s vb tb c oI hr hj J hRj hit hvb hij hbest
  have pS:=(J.pin _ (List.mem_append_right _ (List.mem_cons_of_mem _ List.mem_cons_self))).1
  refine codeAny_builtin PySem.F.entry_min_loop (by
   rw[Around.under_plainId PySem.F.plain_min_loop _]
   show wpAny _ X.A.in1 (seqItems? (.ref S)>>=_) _ _ _
   refine wpAny_bind (wpAny_seqItems pS rfl (?_))
   show wpAny _ X.A.in1 (tryCatch (pyNext (.ref I)) _>>=_) _ _ _
   refine wpAny_bind (wpAny_tryCatch (W.done _ _ _ ⟨by rw[zs,<-show j+1=vs.length by omega];exact hit,hl (j+1) H s J.unpin.unpin hRj⟩ fun h' tk' hk'=> ?_))
   have k1:∀b x,b≠I->s.heap.get? b=some x->h'.get? b=some x:=fun b x hb e=>hk' b x (fun z=>hb (List.mem_singleton.mp z)) e
   have pI:=J.pin (I,oI) (List.mem_append_right _ List.mem_cons_self)
   have J1:Inv X ((S,seqObj "list" #[vb,.int (kf i) tb] c)::(f,fo)::pins) σ H {s with heap:=h',toks:=tk'}:=J.unpin.turned (t':=tk') (it:=I) k1 pI.2.1 mI.loc (.inr mI.lo) mI.cl (m2 _).pn
   have g:=(J1.pin _ (List.mem_append_right _ List.mem_cons_self)).1
   show wpAny _ X.A.in1 (updateSeq S (fun _=>#[])>>=_) _ _ _
   refine wpAny_bind (wpAny_updateSeq g rfl (wpAny_bind (wpAny_letGo (wpAny_pure ?_))))
   have sb:=Heap.SameBut.update h' S (Obj.mapSeq fun _=>(#[]:Array Value))
   have J2:=(J1.repin (o':=seqObj "list" #[] _) (tk:=tk') mS (fun b x hb e=>(sb.2 b hb).trans e) (get?_update_seq g fun _=>#[]) (nocell _))
   exact hR i vb H _ hvb (fun j' hj'=>hbest j' (by omega)) J2.unpin.unpin (by rw[<-show j+1=vs.length by omega];exact hRj))
 |succ r ih=>
  intro j i H s vb tb c oI hr hj J hRj hit hvb hij hbest
  have hlt:j+1<vs.length:=by omega
  have pS:=(J.pin _ (List.mem_append_right _ (List.mem_cons_of_mem _ List.mem_cons_self))).1
  refine codeAny_builtin PySem.F.entry_min_loop (by
   rw[Around.under_plainId PySem.F.plain_min_loop _]
   show wpAny _ X.A.in1 (seqItems? (.ref S)>>=_) _ _ _
   refine wpAny_bind (wpAny_seqItems pS rfl (?_))
   show wpAny _ X.A.in1 (tryCatch (pyNext (.ref I)) _>>=_) _ _ _
   refine wpAny_bind (wpAny_tryCatch (W.item (j+1) _ _ _ (by rw[zs];exact hlt) ⟨hit,hl (j+1) H s J.unpin.unpin hRj⟩ fun v h' tk' hP hst' hk'=> ?_))
   have hv:vs[j+1]? =some v:=(by simpa using hP)
   have k1:∀b x,b≠I->s.heap.get? b=some x->h'.get? b=some x:=fun b x hb e=>hk' b x (fun z=>hb (List.mem_singleton.mp z)) e
   obtain⟨oI',hoI,hoc,hod⟩:=id hst'.1
   have J1:=J.repin (o':=oI') (tk:=tk') (m2 _) k1 hoI (fun v z=>by rw[hod]at z;cases z)
   show wpAny _ X.A.in1 (tryCatch (holding [v] (call (.ref f) [v])) _>>=_) _ _ _
   refine wpAny_bind (wpAny_tryCatch (wpAny_holding (wpAny_mono (turn (j+1) v _ H _ hv J1 (List.mem_cons_of_mem _ (List.mem_cons_of_mem _ List.mem_cons_self)) hRj) (fun u s2 z=> ?_) fun _ _ z=>z.elim)))
   obtain⟨H2,t2,rfl,J2,hR2⟩:=z
   have hit2:s2.heap.IsListIter I l (j+1+1):=⟨oI',(J2.pin _ (List.mem_append_right _ List.mem_cons_self)).1,hoc,hod⟩
   have g:=(J2.pin _ (List.mem_append_right _ (List.mem_cons_of_mem _ List.mem_cons_self))).1
   show wpAny _ X.A.in1 (tryCatch (holding [v,.int (kf (j+1)) t2] (richCompare .Lt (.int (kf (j+1)) t2) (.int (kf i) tb)>>=_)) _>>=_) _ _ _
   refine wpAny_bind (wpAny_tryCatch (wpAny_holding (wpAny_bind (CmpOf.ints_lt (prog:=X.prog) (w:=X.w) (A:=X.A.in1) (P:=fun i v=>∃t,v= .int (kf i) t) kf (fun i v h=>h) (j+1) i _ _ _ _ _ ⟨t2,rfl⟩ ⟨tb,rfl⟩ (wpAny_bind (wpAny_holding (wpAny_truthy_bool (wpAny_bind (wpAny_letGo (wpAny_pure ?_))))))))))
   by_cases hb:kf (j+1)<kf i
   ·have sb:=Heap.SameBut.update s2.heap S (Obj.mapSeq fun _=>#[v,.int (kf (j+1)) t2])
    simp only[hb,decide_true,if_true]
    refine wpAny_bind (wpAny_updateSeq g rfl (wpAny_bind (wpAny_letGo ?_)))
    rw[nm]
    have J3:=(J2.swap.repin (o':=seqObj "list" #[v,.int (kf (j+1)) t2] _) (tk:=s2.toks) (m3 _) (fun b x hb e=>(sb.2 b hb).trans e) (get?_update_seq g fun _=>#[v,.int (kf (j+1)) t2]) (nocell _)).swap
    refine wpAny_pure ⟨plainId_quiet PySem.F.plain_min_loop _,ih (j+1) (j+1) H2 _ v t2 _ oI' (by omega) hlt J3 hR2 ⟨oI',(J3.pin _ (List.mem_append_right _ List.mem_cons_self)).1,hoc,hod⟩ hv (Nat.le_refl _) fun j' hj'=> ?_⟩
    by_cases e:j'=j+1
    ·subst e;exact⟨Int.le_refl _,fun z=>absurd z (Nat.lt_irrefl _)⟩
    ·have q:=(hbest j' (by omega)).1
     exact⟨by omega,fun _=>by omega⟩
   ·simp only[hb,decide_false,Bool.false_eq_true,if_false]
    refine wpAny_bind (wpAny_letGo (?_))
    rw[nm]
    refine wpAny_pure ⟨plainId_quiet PySem.F.plain_min_loop _,ih (j+1) i H2 _ vb tb c oI' (by omega) hlt J2 hR2 hit2 hvb (by omega) fun j' hj'=> ?_⟩
    by_cases e:j'=j+1
    ·subst e;exact⟨by omega,fun z=>by omega⟩
    ·exact hbest j' (by omega))
theorem minL_own{Q:Value->Shared->Prop}{E:Value->Shared->Prop}(kf:Nat->Int)(R:Nat->Hp->Prop)(hA:X.A.handled=none)(hne:0<vs.length)(J:Inv X ((f,fo)::pins) σ H s)(hR0:R 0 H)(hl:∀j H s,Inv X ((f,fo)::pins) σ H s->R j H->s.heap.IsList l vs.toArray)(turn:∀j v (ps:List (Addr×Obj)) H s,vs[j]? =some v->Inv X ps σ H s->(f,fo)∈ps->R j H->wpAny (model X.prog X.w) X.A.in1 (call (.ref f) [v]) (fun u s'=>∃H' t,u= .int (kf j) t/\Inv X ps σ H' s'/\R (j+1) H') (fun _ _=>False) s)(hQ:∀i v H' s',vs[i]? =some v->(∀j,j<vs.length->kf i<=kf j/\(j<i->kf i<kf j))->Inv X pins σ H' s'->R vs.length H'->Q v s'):
  wpAny (model X.prog X.w) X.A (call (.builtin "min") [.ref l] [(Str.ofString "key",.ref f)]) Q E s:=by
 have nm:(toString "min"++toString ".loop":String)="min.loop":=by decide
 have hls:=hl 0 H s J hR0
 obtain⟨ol,hol,_⟩:=id hls
 have nlI:l≠s.heap.objs.size:=Nat.ne_of_lt (Heap.lt_size hol)
 refine kmb_tree PySem.F.kind_min PySem.F.plain_min PySem.F.entry_min (kmb_min_key _ _) (by
  show wpAny _ X.A.in1 (Builtin.Builtins.bindParams "min" ["key","default"] 0 ⟨[],[(Str.ofString "key",.ref f)]⟩>>=_) _ _ s
  refine wpAny_bind (wpAny_of_eq (show Builtin.Builtins.bindParams "min" ["key","default"] 0 ⟨[],[(Str.ofString "key",.ref f)]⟩=pure [some (.ref f),none]from rfl) (wpAny_bind (wpAny_pure (wpAny_bind (wpAny_pyIter_list hls (wpAny_bind (wpAny_newList ?_ (Nat.zero_le _))))))))
  rw[nm]
  have zS:(s.heap.push {cls:= .type "list_iterator",data:= .fields #[.ref l,.int 0 0]}).objs.size=s.heap.objs.size+1:=size_push' ..
  rw[zS]
  have k0:∀b o,s.heap.get? b=some o->((s.heap.push {cls:= .type "list_iterator",data:= .fields #[.ref l,.int 0 0]}).push (seqObj "list" #[] 0)).get? b=some o:=fun b o e=>Heap.get?_push_of_some _ (Heap.get?_push_of_some _ e)
  have gI0:((s.heap.push {cls:= .type "list_iterator",data:= .fields #[.ref l,.int 0 0]}).push (seqObj "list" #[] 0)).get? s.heap.objs.size=some {cls:= .type "list_iterator",data:= .fields #[.ref l,.int 0 0]}:=Heap.get?_push_of_some _ (Heap.get?_push_size _ rfl)
  have gS:((s.heap.push {cls:= .type "list_iterator",data:= .fields #[.ref l,.int 0 0]}).push (seqObj "list" #[] 0)).get? (s.heap.objs.size+1)=some (seqObj "list" #[] 0):=by rw[<-zS];exact Heap.get?_push_size _ rfl
  have mI:=Mine.new J (Nat.le_refl _)
  have mS:=Mine.new J (Nat.le_succ s.heap.objs.size)
  have nSI:s.heap.objs.size+1≠s.heap.objs.size:=Nat.ne_of_gt (Nat.lt_succ_self _)
  have Jk:Inv X ((f,fo)::pins) σ H {s with heap:=(s.heap.push {cls:= .type "list_iterator",data:= .fields #[.ref l,.int 0 0]}).push (seqObj "list" #[] 0),toks:=s.toks}:=J.kept k0
  have JI:Inv X ((s.heap.objs.size,{cls:= .type "list_iterator",data:= .fields #[.ref l,.int 0 0]})::(s.heap.objs.size+1,seqObj "list" #[] 0)::(f,fo)::pins) σ H {s with heap:=(s.heap.push {cls:= .type "list_iterator",data:= .fields #[.ref l,.int 0 0]}).push (seqObj "list" #[] 0),toks:=s.toks}:=Jk.pins_of fun q hq=>by
   rcases List.mem_cons.mp hq with z|z
   ·subst z;exact⟨gI0,J.hok.fresh (Nat.le_refl _),mI.loc,mI.fs,fun v z=>by have z':Data.fields #[Value.ref l,.int 0 0]=Data.cell v:=z;cases z'⟩
   ·rcases List.mem_cons.mp z with z|z
    ·subst z;exact⟨gS,J.hok.fresh (Nat.le_succ _),mS.loc,mS.fs,nocell _⟩
    ·exact Jk.pin q (List.mem_append_right _ z)
  have W:=Walks.list (prog:=X.prog) (w:=X.w) (A:=X.A.in1) hA s.heap.objs.size l nlI vs.toArray
  refine wpAny_pure ⟨plainId_quiet PySem.F.plain_min_loop _,codeAny_builtin PySem.F.entry_min_loop ?_⟩
  rw[Around.under_plainId PySem.F.plain_min_loop _]
  show wpAny _ X.A.in1 (seqItems? (.ref (s.heap.objs.size+1))>>=_) _ _ _
  refine wpAny_bind (wpAny_seqItems gS rfl (?_))
  show wpAny _ X.A.in1 (tryCatch (pyNext (.ref s.heap.objs.size)) _>>=_) _ _ _
  refine wpAny_bind (wpAny_tryCatch (W.item 0 _ _ _ (by rw[List.size_toArray];exact hne) ⟨⟨_,gI0,rfl,rfl⟩,hl 0 H _ Jk hR0⟩ fun v h' tk' hP hst' hk'=> ?_))
  have hv:vs[0]? =some v:=(by simpa using hP)
  obtain⟨oI',hoI,hoc,hod⟩:=id hst'.1
  have J1:=JI.repin (o':=oI') (tk:=tk') (mI.under (p:=(s.heap.objs.size+1,seqObj "list" #[] 0)) nSI) (fun b x hb e=>hk' b x (fun z=>hb (List.mem_singleton.mp z)) e) hoI (fun v z=>by rw[hod]at z;cases z)
  show wpAny _ X.A.in1 (tryCatch (holding [v] (call (.ref f) [v])) _>>=_) _ _ _
  refine wpAny_bind (wpAny_tryCatch (wpAny_holding (wpAny_mono (turn 0 v _ H _ hv J1 (List.mem_cons_of_mem _ (List.mem_cons_of_mem _ List.mem_cons_self)) hR0) (fun u s2 z=> ?_) fun _ _ z=>z.elim)))
  obtain⟨H2,t2,rfl,J2,hR2⟩:=z
  have g:=(J2.pin _ (List.mem_append_right _ (List.mem_cons_of_mem _ List.mem_cons_self))).1
  have sb:=Heap.SameBut.update s2.heap (s.heap.objs.size+1) (Obj.mapSeq fun _=>#[v,.int (kf 0) t2])
  show wpAny _ X.A.in1 (updateSeq (s.heap.objs.size+1) (fun _=>#[v,.int (kf 0) t2])>>=_) _ _ _
  refine wpAny_bind (wpAny_updateSeq g rfl ?_)
  rw[nm]
  have J3:=(J2.swap.repin (o':=seqObj "list" #[v,.int (kf 0) t2] _) (tk:=s2.toks) (mS.under (p:=(s.heap.objs.size,oI')) nSI.symm) (fun b x hb e=>(sb.2 b hb).trans e) (get?_update_seq g fun _=>#[v,.int (kf 0) t2]) (nocell _)).swap
  exact wpAny_pure ⟨plainId_quiet PySem.F.plain_min_loop _,minL_go kf R hA mI mS nSI nlI hl turn hQ _ 0 0 H2 _ v t2 _ oI' rfl hne J3 hR2 ⟨oI',(J3.pin _ (List.mem_append_right _ List.mem_cons_self)).1,hoc,hod⟩ hv (Nat.le_refl _) fun j' hj'=>by
   have e:j'=0:=by omega
   subst e
   exact⟨Int.le_refl _,fun z=>absurd z (Nat.lt_irrefl _)⟩⟩)
end
noncomputable def tMinLam(K:W.Frag)(P:Addr)(pos:Pos)(qual:Str)(ix:List Nat)(ta:TA)(te:TE):TE:=fun σ H Q=>ta σ H fun vs H1=>∃(l:Addr) (its:List (Addr×List Int)),vs=[.ref l]/\SqL K H1 l (its.map fun p=>V.ref p.1)/\its≠[]/\LamOk H1 P pos qual/\
 ∃(kf:Nat->Int) (R:Nat->Hp->Prop),(∀H2,(∀b o,b≠P->H1 b=some o->H2 b=some o)->LamOk H2 P pos qual->R 0 H2)/\(∀j H,R j H->SqL K H l (its.map fun p=>V.ref p.1))/\
  (∀j p H,its[j]? =some p->R j H->te (lamIni ix σ (.ref p.1)) H fun v H'=>v= .int (kf j)/\R (j+1) H')/\
  ∀i p H,its[i]? =some p->(∀j,j<its.length->kf i<=kf j/\(j<i->kf i<kf j))->R its.length H->Q (.ref p.1) H
theorem vals_refs:∀{its:List (Addr×List Int)} {us:List Value},Vals (its.map fun p=>V.ref p.1) us->us=its.map fun p=>Value.ref p.1
 |[],_,h=>by cases h;rfl
 |p::its,_,h=>by
  cases h with
  |cons r t=>rw[vals_refs t];cases r;rfl
section
variable{X:Cx}{a body:Expr}{ta:TA}{te:TE}{p kp pos lpos:Pos}{k:Nat}{scope:Scope}{caps:List Str}{ix:List Nat}{y:Str}{params:Arguments}{c P:Addr}
theorem pe_minLam(L:LamB X.base X.mg c P)(hcode:X.env.code= .ref c)(hc:X.calm=true)(hr:Room (k+2) X.A)(hg:Gl X "min")(hm:X.mg "min"=none)(ha:PA X [a] ta)(hcap:Caps X scope caps ix)(he:∀s H f cd,Room k (lamCx X X.A.in1 (y::caps) s H (lamEnv X scope s f cd)).A->PE (lamCx X X.A.in1 (y::caps) s H (lamEnv X scope s f cd)) body te)(ck:compOk X.env.scope scope=true:=by rfl)(hkind:scope.kind= .function:=by rfl)(hy:scope.names.lookup y=some .local:=by rfl)(hco:scope.isCoroutine=false:=by rfl)(hgen:scope.isGenerator=false:=by rfl)(hdef:defaultsOf params X.env=([],[]):=by rfl)(hbind:∀(q:Str) (cl:List (Str×Addr)) (pm cd ct u:Value),bindArgs (PySem.W.kla_fn "<lambda>" q params body scope cl pm cd ct) ⟨[u],[]⟩=pure [(y,u)]:=by intros;rfl)(he1:backTo pos (starEach [a] X.env)=(false,eval a X.env)::backTo pos (starEach [] X.env):=by rfl)(hp:(backTo pos (starEach [a] X.env)).any (·.1)=false:=by rfl):PE X (.Call (.Name "min" p) [a] [⟨some "key",.Lambda params body scope lpos,kp⟩] pos) (tMinLam X.K P lpos (X.env.qual++"<lambda>") ix ta te):=by
 intro pins s σ H Q I h
 refine wpAny_Call_Name_kw (ld_blt I hg hm (show bootBuiltins "min"=some (.builtin "min")from by decide+kernel) ?_ (by decide) (by decide))
 refine PyProof.Rows.callWith_kw (thn (ha pos pins s σ H _ I h) fun us s1 ⟨vs,H1,I1,r1,q1⟩=>kws_cons ?_) he1 hp
 obtain⟨l,its,e,hq,hne,hL,kf,R,hR0,hRl,hturn,q⟩:=q1
 subst e
 cases r1 with
 |cons r rr=>
  cases rr
  cases r
  refine lam_make (params:=params) (body:=body) I1 L hcode hL ck hdef fun f c' pm ctv H2 s2 I2 hS hL2 ho hf hge hrec=>kws_nil ?_
  have mF:=Mine.new I1 hge
  have J:Inv X ((f,PySem.W.kla_obj "<lambda>" (X.env.qual++"<lambda>") params body scope (clOf X.env.cells scope.names []) pm c' ctv)::pins) σ H2 s2:=I2.pins_of fun z hz=>by
   rcases List.mem_cons.mp hz with z|z
   ·subst z;exact⟨ho,hf,mF.loc,mF.fs,fun v z=>nomatch z⟩
   ·exact I2.pin _ (List.mem_append_right _ z)
  obtain⟨oc,ocv,tq,hC,hd,hv⟩:=hrec
  have lenI:(its.map fun p=>Value.ref p.1).length=its.length:=List.length_map _
  show wpAny (model X.prog X.w) X.A (call (.builtin "min") [.ref l] [(Str.ofString "key",.ref f)]) (EP X pins σ Q) X.xe s2
  refine minL_own (vs:=its.map fun p=>Value.ref p.1) kf (fun j H=>R j H/\H c'=some (.frz oc (.own 0))) (I.ok.hd hc) (by rw[lenI];exact List.length_pos_iff.mpr hne) J ⟨hR0 H2 hS hL2,hC⟩ (fun j H s J hj=> ?_) (fun j v ps H s hv' J hm hj=> ?_) fun i v H' s' hv' hb J hj=> ?_
  ·obtain⟨ws,rv,pl,hz⟩:=J.list (hRl j H hj.1)
   rw[vals_refs rv]at pl
   exact pl.isList
  ·rw[List.getElem?_map]at hv'
   cases ej:its[j]? with
   |none=>rw[ej]at hv';cases hv'
   |some p=>
    rw[ej]at hv'
    cases hv'
    have hf:=(J.pin _ (List.mem_append_right _ hm)).1
    have hcd:s.heap.CodeRec (.ref c') (X.env.qual++"<lambda>"):=⟨c',oc,ocv,tq,rfl,(J.hok c' _ hj.2).1,hd,hv⟩
    refine wpAny_mono (lam_run (A:=X.A.in1) (v:= .ref p.1) ck hkind hcap hy hco hgen hr.in1 J.env0.in1.frames (he _ _ _ _ (hr.in1.deeper _)) J rfl hf hcd hbind (hturn j p H ej hj.1)) (fun u s' z=> ?_) fun _ _ z=>z.elim
    obtain⟨w,H',J',rw',⟨rfl,hR'⟩,hfz⟩:=z
    obtain⟨t,rfl⟩:=rw'
    exact⟨H',t,rfl,J',hR',hfz _ _ _ hj.2⟩
  ·rw[List.getElem?_map]at hv'
   cases ei:its[i]? with
   |none=>rw[ei]at hv';cases hv'
   |some p=>
    rw[ei]at hv'
    cases hv'
    rw[lenI]at hb hj
    exact⟨.ref p.1,H',J,rfl,q i p H' ei hb hj.1⟩
end
end L2
namespace L2
open PySem PySem.Spec PyProof.Rows
noncomputable def OnlyL(T:Addr)(H:Hp):Prop:=H T=some (.tbl #[])/\∀b,b≠T->H b=none\/∃o xs,H b=some (.frz o (.lst xs))
theorem law_callL{P:Program}{w:World}{K:W.Frag}{mg mb:Str->Option Value}{CX:CXT}{k:Nat}{fa a c T:Addr}{fd:FuncData}{x:Str}{sp:Sp}{s₁:Shared}{vs:List Value}{ns:List Int}
  (KX:K.In s₁.heap)(hT:PySem.W.CodeHd s₁.heap c T)(hT0:s₁.heap.get? T=some (PySem.W.tabObj #[]))(hKT:K.lookup T=none)(hbm:∃bm ob,mg "__builtins__"=some (.ref bm)/\bm≠builtinsNs/\s₁.heap.get? bm=some ob/\ob.cls= .type "module"/\ob.dict=some builtinsNs/\ob.data= .plain)(hns:s₁.heap.Ns mainGlobals mg)(hb:s₁.heap.Ns builtinsNs mb)(hbb:∀x:Str,x≠"__name__"->mb x=bootBuiltins x)(hlim:s₁.heap.NoLimit)(hg:s₁.gens=#[])(ha:s₁.heap.get? a=some {cls:= .type "list",data:= .seq vs.toArray})(hi:IntsAre vs ns)(hl:ns.length<=sizeLine)(hr:Room k callerA)
  (F:∀base:Heap,K.In base->base.Ns mainGlobals mg->LamB base mg c T->FnOk P w K mg base CX k fa fd [x] sp)(hbind:∀(s:Shared) (u:Value),BindsTo s fd ⟨[u],[]⟩ [(x,u)])(hsp:∀H:Hp,OnlyL T H->SqL K H a (ns.map V.int)->sp [.ref a] H (fun v _=>v= .bl true) fun _ _ _=>False)(hCX:∀H e s',CX [] H s₁ (fun _ _ _=>False) e s'->False):
  codeAny (model P w) callerA (.call (.ref fa) ⟨[.ref a],[]⟩) (fun r s'=>r= .ok (.ret (.bool true))/\OldK s₁.heap s'.heap/\s'.os=s₁.os/\AllBare s'.gens) s₁:=by
 have rv:=vals_ints hi
 have lenV:=hi.length
 have aT:a≠T:=fun e=>by rw[e,hT0]at ha;cases ha
 have core:∀H:Hp,OnlyL T H->SqL K H a (ns.map V.int)->HOk P w H s₁.heap->(∀b,H b≠none->b=a\/b=T)->(H a≠none->K.lookup a=none)->
   codeAny (model P w) callerA (.call (.ref fa) ⟨[.ref a],[]⟩) (fun r s'=>r= .ok (.ret (.bool true))/\OldK s₁.heap s'.heap/\s'.os=s₁.os/\AllBare s'.gens) s₁:=by
  intro H hO hS hok hA hK
  have base_of:∀{b:Addr} {o:Obj},s₁.heap.get? b=some o->H b=none->(hidT s₁.heap H).get? b=some o:=fun e n=>hidT_get e n
  have noA:∀{b:Addr} {o:Obj},s₁.heap.get? b=some o->(∀vs n,o.data≠.seq vs n)->o.cls≠.none->H b=none:=fun{b o} e d d2=>by
   cases q:H b with
   |none=>rfl
   |some u=>
    rcases hA b (by rw[q];simp)with e'|e'
    ·subst e'
     rw[ha]at e;cases e
     exact absurd rfl (d _ _)
    ·subst e'
     rw[hT0]at e;cases e
     exact absurd rfl d2
  have noD:∀{b:Addr} {o:Obj} {es:Array DictEntry} {ep:Nat},s₁.heap.get? b=some o->o.data= .dict es ep->H b=none:=fun{b o es ep} e d=>by
   cases q:H b with
   |none=>rfl
   |some u=>
    rcases hA b (by rw[q];simp)with e'|e'
    ·subst e'
     rw[ha]at e;cases e
     have d':Data.seq vs.toArray _=Data.dict es ep:=d
     cases d'
    ·subst e'
     rw[hT0]at e;cases e
     have d':Data.fields (#[]:Array Value)=Data.dict es ep:=d
     cases d'
  have nsK:∀{b:Addr} {m:Str->Option Value},s₁.heap.Ns b m->(hidT s₁.heap H).Ns b m:=fun{b m} ⟨o,es,ep,e,d,r⟩=>⟨o,es,ep,base_of e (noD e d),d,r⟩
  have hKb:K.In (hidT s₁.heap H):=fun b o e=>base_of (KX b o e) (by
   cases q:H b with
   |none=>rfl
   |some u=>
    rcases hA b (by rw[q];simp)with e'|e'
    ·subst e'
     rw[hK (by rw[q];simp)]at e;cases e
    ·subst e'
     rw[hKT]at e;cases e)
  have gT:mainGlobals≠T:=fun z=>by
   obtain⟨o,es,ep,e,d,_⟩:=hns
   rw[z,hT0]at e
   cases e
   have d':Data.fields (#[]:Array Value)=Data.dict es ep:=d
   cases d'
  have hM:Mod K mg (hidT s₁.heap H):=⟨hKb,nsK hns,⟨mb,nsK hb,hbb⟩,let⟨mc,h1,h2⟩:=hlim;⟨mc,nsK h1,h2⟩⟩
  have hLB:LamB (hidT s₁.heap H) mg c T:=by
   refine⟨?_,?_,gT⟩
   ·obtain⟨o,vs,file,tf,flags,tg,inF,text,tt,e1,r1,r2,r⟩:=hT
    exact⟨o,vs,file,tf,flags,tg,inF,text,tt,base_of e1 (noA e1 (fun vs n z=>by rw[r2]at z;cases z) (by rw[r1];exact fun z=>nomatch z)),r1,r2,r⟩
   ·obtain⟨bm,ob,b1,b2,b3,b4,b5,b6⟩:=hbm
    refine⟨bm,ob,b1,b2,fun z=> ?_,fun z=> ?_,base_of b3 (noA b3 (fun vs n z=>by rw[b6]at z;cases z) (by rw[b4];exact fun z=>nomatch z)),b4,b5,b6⟩
    ·obtain⟨o,es,ep,e,d,_⟩:=hns
     rw[<-z,b3]at e;cases e;rw[b6]at d;cases d
    ·rw[z,hT0]at b3;cases b3;cases b4
  have e0:Env0 P w K mg (hidT s₁.heap H) callerA [] s₁ H:=⟨rfl,hM,fun b o e=>of_hidT e,Nat.le_of_eq (hidT_size _ _),trivial,fun b hb=>absurd (show b∈([]:List Addr)from hb) (by simp),hok,.of_eq hg⟩
  refine codeAny_mono ((F _ hKb (nsK hns) hLB).run callerA [] s₁ H ⟨[.ref a],[]⟩ [.ref a] [.ref a] _ _ hr e0 (hbind s₁ (.ref a)) (.cons rfl .nil) (hsp H hO hS)) fun r s' h=> ?_
  cases r with
  |error e=>exact(hCX H e s' h).elim
  |ok fl=>
   cases fl with
   |next=>exact False.elim h
   |brk=>exact False.elim h
   |cont=>exact False.elim h
   |ret u=>
    obtain⟨v,H',os,bare,un,hok',r',q⟩:=h
    have q':v= .bl true:=q
    subst q'
    obtain rfl:u=Value.bool true:=r'
    refine⟨rfl,⟨fun b o e=> ?_,fun b o e=>un.there b o e (by simp)⟩,os,bare⟩
    by_cases hbT:b=T
    ·subst hbT
     obtain⟨more,z⟩:=un.tbls b _ hO.1
     have z2:s'.heap.get? b=some (PySem.W.tabObj (#[]++more)):=hok' b _ z
     rw[hT0]at e
     cases e
     exact .inr (.inl ⟨(hT.tab hT0).isCodeTable,rfl,#[],more,rfl,z2⟩)
    ·refine .inl ?_
     cases q:H b with
     |none=>exact un.keep b o e q (by intro z;exact absurd (show b∈([]:List Addr)from z) (by simp)) (by simp)
     |some u=>
      rcases hO.2 b hbT with z|⟨ob,xs,z⟩
      ·rw[q]at z;cases z
      ·have z2:=un.frzs b ob _ z
       obtain⟨e1,_⟩:=hok b _ z
       obtain⟨e2,_⟩:=hok' b _ z2
       rw[e]at e1;cases e1
       exact e2
 cases hk:K.lookup a with
 |some o=>
  have e:=KX a o hk
  rw[ha]at e
  cases e
  refine core (fun b=>if b=T then some (.tbl #[])else none) ⟨if_pos rfl,fun b hb=> .inl (if_neg hb)⟩ (.inr ⟨_,vs.toArray,_,hk,rfl,rfl,rfl,by rw[List.size_toArray,lenV];exact hl,by simpa using rv⟩) (fun b u z=> ?_) (fun b z=> ?_) fun z=>absurd (if_neg aT) z
  ·by_cases hb:b=T
   ·have z':=(if_pos hb).symm.trans z
    cases z'
    subst hb
    exact hT0
   ·have z':=(if_neg hb).symm.trans z
    cases z'
  ·by_cases hb:b=T
   ·exact .inr hb
   ·exact absurd (if_neg hb) z
 |none=>
  refine core (fun b=>if b=T then some (.tbl #[])else if b=a then some (.frz {cls:= .type "list",data:= .seq vs.toArray} (.lst (ns.map V.int)))else none) ⟨if_pos rfl,fun b hb=> ?_⟩ (.inl (.inr ⟨{cls:= .type "list",data:= .seq vs.toArray},(if_neg aT).trans (if_pos rfl)⟩)) (fun b u z=> ?_) (fun b z=> ?_) fun _=>hk
  ·by_cases hba:b=a
   ·exact .inr ⟨_,_,(if_neg hb).trans (if_pos hba)⟩
   ·exact .inl ((if_neg hb).trans (if_neg hba))
  ·by_cases hb:b=T
   ·have z':=(if_pos hb).symm.trans z
    cases z'
    subst hb
    exact hT0
   ·by_cases hba:b=a
    ·have z':=((if_neg hb).trans (if_pos hba)).symm.trans z
     cases z'
     subst hba
     exact⟨ha,by rw[List.length_map];exact hl,vs,_,rv,ha⟩
    ·have z':=((if_neg hb).trans (if_neg hba)).symm.trans z
     cases z'
  ·by_cases hb:b=T
   ·exact .inr hb
   ·by_cases hba:b=a
    ·exact .inl hba
    ·exact absurd ((if_neg hb).trans (if_neg hba)) z
theorem walk_ofL{l:PySem.W.OpenLaw}{n k:Nat}{q:Program}{loose:List Str}{XP:(Str->Option Value)->Heap->Prop}{YP:World->Heap->Prop}{d:DefRec}{K:Params->PySem.W.Frag}{CX:CXT}{sp:Addr->PySem.W.Frag->Sp}{x:Str}{c T:Addr}(hn:l.most=some n)(hn2:n<=sizeLine)(hdf:d.params.defaults=[])(hr:Room k callerA)(hY:∀(w:World) (h:Heap),YP w h->(K w.params).In h/\h.get? T=some (PySem.W.tabObj #[]))(hc:∀w:World,PySem.W.codeHdIn (K w.params) c T=true)(hKT:∀w:World,(K w.params).lookup T=none)
  (F:∀(w:World) (mg:Str->Option Value) (fa:Addr) (h:Heap),(K w.params).In h->h.Ns mainGlobals mg->mg d.name=some (.ref fa)->
   ∃fd:FuncData,(∀(s:Shared) (u:Value),BindsTo s fd ⟨[u],[]⟩ [(x,u)])/\
    ∀base:Heap,(K w.params).In base->base.Ns mainGlobals mg->LamB base mg c T->FnOk l.prog w (K w.params) mg base CX k fa fd [x] (sp T (K w.params)))(hsp:∀(K:W.Frag) (H:Hp) (a:Addr) (ns:List Int),ns.length<=n->OnlyL T H->SqL K H a (ns.map V.int)->sp T K [.ref a] H (fun v _=>v= .bl true) fun _ _ _=>False)(hCX:∀(H:Hp) (s:Shared) (e:Value) (s':Shared),CX [] H s (fun _ _ _=>False) e s'->False):
  PySem.W.WalkO q loose XP YP l.row.toRowW d [] (fun f vs=>PySem.call f vs):=by
 refine Att.attach_call hn hdf fun w s₀ s₁ mg mb fa o pm cd doc a vs ns G Y ho hd hcd hmg hobj hints hlen hg=> ?_
 obtain⟨KX,hT0⟩:=hY w _ Y
 obtain⟨fd,hb,hF⟩:=F w mg fa _ KX G.T.g hmg
 exact law_callL KX (PySem.W.codeHd_of_K KX (hc w)) hT0 (hKT w) G.T.bmain G.T.g G.T.b G.T.builtins G.T.nolimit hg hobj hints (Nat.le_trans hlen hn2) hr hF hb (fun H hO hS=>hsp (K w.params) H a ns hlen hO hS) fun H e s'=>hCX H s₁ e s'
theorem Fun.okC{P:Program}{w:World}{K:W.Frag}{mg:Str->Option Value}{base:Heap}{x qual:Str}{st:Stmt}{f c:Addr}{fd:FuncData}{N ps:List Str}{k:Nat}{sp:Sp}(F:Fun K x qual st f fd)(hcd:fd.code= .ref c)(S:FnScope N ps (defScope st))(len:∀vs H Q E,sp vs H Q E->vs.length=ps.length)(hbody:∀(A:Around) (outer:List Env) (s:Shared) (H:Hp) (vs:List V) (Q:VK) (E:XK),Room k (A.deeper (envOfC qual (defScope st) s.heap.objs.size f (.ref c)))->sp vs H Q E->
   ∃t,PSs (cxOf CX0 P w K mg base N qual (defScope st) f (.ref c) A outer s H E).nox (defBody st) t/\t {nx:=fun _ H'=>Q .non H',rt:=Q} (start N vs) H):FnOk P w K mg base CX0 (k+1) f fd ps sp:=by
 obtain⟨oc,od,kV,doc,pm,an,cdv,ct,osl,rfl,lk,hcd'⟩:=F.ex
 have e:cdv= .ref c:=hcd
 subst e
 refine fn_of lk hcd' S len fun A outer s H vs Q E hr hsp=> ?_
 obtain⟨t,h,q⟩:=hbody A outer s H vs Q E hr hsp
 exact⟨t,h.nox,q⟩
end L2
namespace DH
open PySem PySem.W PyProof.Rows PySem.Calls
section
variable{prog:Program}{w:World}{A:Around}{E:Value->Shared->Prop}{s:Shared}{d it v:Addr}{es:Array DictEntry}{ep i:Nat}
theorem meets_items(d:Addr)(hd:(d==sysModules)=false):
  MeetsIn prog w (Builtin.«dict.items» ⟨[.ref d],[]⟩) (fun _ R s=>(∃es ep,EsAt s.heap d es ep)/\
   R (.ok (.ret (.ref s.heap.objs.size))) {s with heap:=s.heap.push {cls:= .type "dict_items",data:= .fields #[.ref d]}}):=
 .of_wp fun A R s ⟨⟨es,ep,hm⟩,h⟩=>by
  unfold Builtin.«dict.items»
  refine wpAny_bind ?_
  unfold Builtin.Dict.noArgs
  refine wpAny_bind (wpAny_notOrdered_dict hm.typeIs ?_)
  show wpAny _ _ (pure d) _ _ s
  refine wpAny_pure ?_
  show wpAny _ _ (Builtin.Dict.showsAll d>>=_) _ _ s
  unfold Builtin.Dict.showsAll
  rw[if_neg (by rw[hd];exact Bool.false_ne_true)]
  refine wpAny_bind (wpAny_pure ?_)
  exact wpAny_bind (wpAny_newObj_type (wpAny_pure ⟨_,rfl,h⟩))
theorem iterI_es{Q:Value->Shared->Prop}(hv:s.heap.IsItemsView v d)(hm:EsAt s.heap d es ep)(hQ:Q (.ref s.heap.objs.size) {s with heap:=s.heap.push {cls:= .type "dict_itemiterator",data:= .fields #[.none,.bool false,.ref d,.int 0 0,.int es.size 0,.int ep 0,.none,.none]}}):
  wpAny (model prog w) A (pyIter (.ref v)) Q E s:=by
 obtain⟨ov,hov,hcv,hdv⟩:=id hv
 obtain⟨o,ho,hc,hdat⟩:=id hm
 refine wpAny_pyIter_slot hv.typeIs F.slot_dict_items_iter (wpAny_call_entry F.slot_dict_items_iter hv.typeIs F.entry_dict_items_iter ?_ (F.args_dict_items_iter_1 _))
 unfold Builtin.«dict_items.__iter__»
 refine wpAny_bind (wpAny_pure ?_)
 refine wpAny_bind ?_
 unfold Builtin.Dict_items.dictOf
 refine wpAny_bind (wpAny_field hov hdv (x:= .ref d) rfl (wpAny_pure ?_))
 refine wpAny_bind ?_
 unfold Builtin.Dict_items.newIterator
 refine wpAny_bind (wpAny_dictEntries ho hdat ?_)
 refine wpAny_bind (wpAny_dictEpoch ho hdat ?_)
 have hown:Builtin.Dict_items.ownsTuple "dict_itemiterator"=true:=by decide
 simp only[hown,if_true]
 refine wpAny_newObj_type (wpAny_pure ⟨_,rfl,"dict_itemiterator",_,⟨_,Heap.get?_push_size _ rfl,rfl⟩,F.slot_dict_itemiterator_next.lookup,?_⟩)
  (by simp only[sizeOk,Builtin.Dict_items.ownedTupleFields,List.size_toArray,List.length_append,List.length_cons,List.length_nil,sizeLine_eq];omega)
 simpa[rawInt,Builtin.Dict_items.ownedTupleFields]using hQ
theorem nextI_es{ok ov:Value}{e:DictEntry}{Q:Option Value->Shared->Prop}(hit:IsItemIter s.heap it d i es.size ep ok ov)(hm:EsAt s.heap d es ep)(hx:es[i]? =some e)(hQ:∀h',IsItemIterOut h' it d (i+1) es.size ep e.key e.val s.heap.objs.size->h'.get? s.heap.objs.size=some {cls:= .type "tuple",data:= .seq #[e.key,e.val]}->
   (∀b o,b≠it->s.heap.get? b=some o->h'.get? b=some o)->Q (some (.ref s.heap.objs.size)) {s with heap:=h'}):
  wpAny (model prog w) A (pyNext (.ref it)) Q E s:=by
 obtain⟨hp,g,dr,tk,os⟩:=s
 obtain⟨od,hod,hcd,hdd⟩:=id hm
 have hT:Shared.TypeIs ⟨hp,g,dr,tk,os⟩ (.ref it) "dict_itemiterator":=⟨_,hit,rfl⟩
 unfold pyNext
 refine wpAny_bind (wpAny_attempt (wpAny_callSpecial?_slot (name:=Str.ofString "__next__") hT F.slot_dict_itemiterator_next
  (wpAny_call_entry F.slot_dict_itemiterator_next hT F.entry_dict_itemiterator_next ?_ (F.args_dict_itemiterator_next_1 _))))
 refine wpAny_bind (wpAny_pure ?_)
 refine wpAny_bind ?_
 refine wpAny_bind ?_
 first |refine wpAny_bind (wpAny_typeNameOfWhole_itemiter hT (wpAny_pure ?_))|refine wpAny_bind (wpAny_typeNameOf_itemiter hT (wpAny_pure ?_))
 refine wpAny_bind (wpAny_fieldsOf hit rfl ?_)
 have hown:Builtin.Dict_items.ownsTuple "dict_itemiterator"=true:=by decide
 simp only[hown,if_true]
 show wpAny _ _ (if(Value.ref d==Value.none)=true then _ else _) _ _ _
 rw[if_neg (show¬((Value.ref d==Value.none)=true)from Bool.false_ne_true)]
 refine wpAny_bind (wpAny_pure ?_)
 refine wpAny_bind (wpAny_dictEntries hod hdd ?_)
 rw[if_neg (by simp)]
 refine wpAny_bind (wpAny_pure ?_)
 refine wpAny_bind (wpAny_dictEpoch hod hdd ?_)
 rw[if_neg (by simp)]
 refine wpAny_pure ?_
 obtain⟨hlt',hei⟩:=Array.getElem?_eq_some_iff.mp hx
 simp only[show¬((i:Int)<0)from by omega,if_false,Int.toNat_natCast,Array.getElem?_eq_getElem hlt',hei]
 refine wpAny_bind ?_
 first |refine wpAny_bind (wpAny_typeNameOfWhole_itemiter hT (wpAny_pure ?_))|refine wpAny_bind (wpAny_typeNameOf_itemiter hT (wpAny_pure ?_))
 refine wpAny_bind (wpAny_isOneOf_itemiter hT ?_)
 show wpAny _ _ (setField (.ref it) 3 (rawInt ((i:Int)+1))>>=_) _ _ ⟨hp,g,dr,tk,os⟩
 refine wpAny_bind (wpAny_setField_rec hit (by simp) fun h₁ he₁ hs₁=> ?_)
 replace hs₁:Heap.SameBut it hp h₁:=hs₁
 replace he₁:IsItemIter h₁ it d (i+1) es.size ep ok ov:=by
  have e:((i+1:Nat):Int)=(i:Int)+1:=by omega
  unfold IsItemIter;rw[e];simpa[rawInt]using he₁
 have hT₁:Shared.TypeIs ⟨h₁,g,dr,tk,os⟩ (.ref it) "dict_itemiterator":=⟨_,he₁,rfl⟩
 refine wpAny_bind (wpAny_holding ?_)
 refine wpAny_bind (wpAny_isOneOf_itemiter hT₁ ?_)
 refine wpAny_bind (wpAny_isOneOf_itemiter hT₁ ?_)
 show wpAny _ _ (Builtin.Dict_items.pairFromOwner (.ref it) 6 e.key e.val) _ _ ⟨h₁,g,dr,tk,os⟩
 unfold Builtin.Dict_items.pairFromOwner
 refine wpAny_bind (wpAny_newTuple ?_)
 have he₂:IsItemIter (h₁.push {cls:= .type "tuple",data:= .seq #[e.key,e.val]}) it d (i+1) es.size ep ok ov:=Heap.get?_push_of_some _ he₁
 generalize hh₂:h₁.push {cls:= .type "tuple",data:= .seq #[e.key,e.val]}=h₂ at he₂
 have hz₁:h₁.objs.size=hp.objs.size:=hs₁.1
 have hil:it<hp.objs.size:=Heap.lt_size hit
 have ht₂:h₂.get? hp.objs.size=some {cls:= .type "tuple",data:= .seq #[e.key,e.val]}:=by rw[<-hh₂,<-hz₁];exact Heap.get?_push_size _ rfl
 have hk₂:∀b o,b≠it->hp.get? b=some o->h₂.get? b=some o:=fun b o hb e=>by rw[<-hh₂];exact Heap.get?_push_of_some _ (hs₁.extBut b o hb e)
 show wpAny _ _ (Builtin.Dict_items.ownedTupleIsFree (.ref it)>>=_) _ _ ⟨h₂,g,dr,tk,os⟩
 rw[hz₁]
 clear hh₂ he₁ hs₁ hT₁ hz₁ h₁
 refine wpAny_bind ?_
 unfold Builtin.Dict_items.ownedTupleIsFree
 refine wpAny_bind (wpAny_field he₂ rfl (x:= .none) rfl (wpAny_pure ?_))
 simp only[if_true]
 refine wpAny_bind (wpAny_field he₂ rfl (x:=ok) rfl ?_)
 refine wpAny_bind (wpAny_field he₂ rfl (x:=ov) rfl ?_)
 refine wpAny_bind (wpAny_setField_rec he₂ (by simp) fun h₃ he₃ hs₃=> ?_)
 replace hs₃:Heap.SameBut it h₂ h₃:=hs₃
 replace he₃:IsItemIter h₃ it d (i+1) es.size ep e.key ov:=he₃
 refine wpAny_bind (wpAny_setField_rec he₃ (by simp) fun h₄ he₄ hs₄=> ?_)
 replace hs₄:Heap.SameBut it h₃ h₄:=hs₄
 replace he₄:IsItemIter h₄ it d (i+1) es.size ep e.key e.val:=he₄
 refine wpAny_bind (wpAny_setField_rec he₄ (by simp) fun h₅ he₅ hs₅=> ?_)
 replace hs₅:Heap.SameBut it h₄ h₅:=hs₅
 replace he₅:IsItemIterOut h₅ it d (i+1) es.size ep e.key e.val hp.objs.size:=he₅
 refine wpAny_bind (wpAny_setField_rec he₅ (by simp) fun h₆ he₆ hs₆=> ?_)
 replace hs₆:Heap.SameBut it h₅ h₆:=hs₆
 replace he₆:IsItemIterOut h₆ it d (i+1) es.size ep e.key e.val hp.objs.size:=he₆
 refine wpAny_bind (wpAny_letGo (wpAny_pure (wpAny_pure ⟨_,rfl,wpAny_pure (hQ h₆ he₆ ?_ ?_)⟩)))
 ·exact hs₆.extBut _ _ (Nat.ne_of_gt hil) (hs₅.extBut _ _ (Nat.ne_of_gt hil) (hs₄.extBut _ _ (Nat.ne_of_gt hil) (hs₃.extBut _ _ (Nat.ne_of_gt hil) ht₂)))
 ·exact fun b o hb e=>hs₆.extBut b o hb (hs₅.extBut b o hb (hs₄.extBut b o hb (hs₃.extBut b o hb (hk₂ b o hb e))))
theorem endI_es{ok ov:Value}{Q:Option Value->Shared->Prop}(hh:A.handled=none)(hit:IsItemIter s.heap it d i es.size ep ok ov)(hm:EsAt s.heap d es ep)(hge:es.size<=i)(hQ:∀h',Heap.ExtBut it s.heap h'->Q none {s with heap:=h'}):wpAny (model prog w) A (pyNext (.ref it)) Q E s:=by
 obtain⟨od,hod,hcd,hdd⟩:=id hm
 have hT:s.TypeIs (.ref it) "dict_itemiterator":=⟨_,hit,rfl⟩
 unfold pyNext
 refine wpAny_bind (wpAny_attempt (wpAny_callSpecial?_slot (name:=Str.ofString "__next__") hT F.slot_dict_itemiterator_next
  (wpAny_call_entry F.slot_dict_itemiterator_next hT F.entry_dict_itemiterator_next ?_ (F.args_dict_itemiterator_next_1 _))))
 refine wpAny_bind (wpAny_pure ?_)
 refine wpAny_bind ?_
 refine wpAny_bind ?_
 first |refine wpAny_bind (wpAny_typeNameOfWhole_itemiter hT (wpAny_pure ?_))|refine wpAny_bind (wpAny_typeNameOf_itemiter hT (wpAny_pure ?_))
 refine wpAny_bind (wpAny_fieldsOf hit rfl ?_)
 have hown:Builtin.Dict_items.ownsTuple "dict_itemiterator"=true:=by decide
 simp only[hown,if_true]
 show wpAny _ _ (if(Value.ref d==Value.none)=true then _ else _) _ _ s
 rw[if_neg (show¬((Value.ref d==Value.none)=true)from Bool.false_ne_true)]
 refine wpAny_bind (wpAny_pure ?_)
 refine wpAny_bind (wpAny_dictEntries hod hdd ?_)
 rw[if_neg (by simp)]
 refine wpAny_bind (wpAny_pure ?_)
 refine wpAny_bind (wpAny_dictEpoch hod hdd ?_)
 rw[if_neg (by simp)]
 refine wpAny_pure ?_
 simp only[show¬((i:Int)<0)from by omega,if_false,Int.toNat_natCast,Array.getElem?_eq_none hge]
 refine wpAny_bind ?_
 first |refine wpAny_bind (wpAny_typeNameOfWhole_itemiter hT (wpAny_pure ?_))|refine wpAny_bind (wpAny_typeNameOf_itemiter hT (wpAny_pure ?_))
 show wpAny _ _ (setField (.ref it) 2 .none>>=_) _ _ s
 refine wpAny_bind (wpAny_setField hit rfl (by simp) ?_)
 show wpAny _ _ (newExc (.type "StopIteration") []>>=_) _ _ _
 refine wpAny_bind ?_
 simp only[newExc,newTuple]
 refine wpAny_bind (wpAny_newObj_type ?_ (by size_fits))
 refine wpAny_bind (m:=firstArgMember _ _) (wpAny_of_eq (a:=Value.none) (by first |rfl|(simp only[firstArgMember];rfl)) ?_)
 refine wpAny_newObj_type ?_ (by size_fits)
 simp only[raiseNew]
 refine wpAny_bind (wpAny_handled ?_)
 rw[show A.in1.handled=none from hh]
 refine wpAny_bind (wpAny_pure (wpAny_throw ?_))
 refine wpAny_bind (wpAny_isInstance (T:="StopIteration") (b:=true) ⟨_,Heap.get?_push_size _ rfl,rfl⟩ isSubtype_stop ?_)
 exact wpAny_pure (hQ _ (((Heap.SameBut.update ..).extBut.push _).push _))
end
end DH
namespace L2
open PySem PySem.Spec PyProof.Rows
section
variable{X:Cx}{pins pins0:List (Addr×Obj)}{σ σ0:St}{H H0:Hp}{s s0:Shared}{d:Addr}{kvs:List (List Key×V)}{o:Obj}
theorem Inv.freeze(I:Inv X pins σ H s)(e:H d=some (.dT kvs))(ho:s.heap.get? d=some o):Inv X pins σ (upd H d (.frz o (.dT kvs))) s:=by
 refine I.write (s:=s) (h':=s.heap) (t':=s.toks) (x:=d) (e:=d) (by rw[e];exact True.intro) (.inl rfl) (fun b u _ q=>q) ⟨o,ho⟩ ⟨ho,?_⟩
 obtain⟨z,y,xs,r,c⟩:=I.hok d _ e
 exact⟨z,y,xs,Paired.mapP r fun p q z=>⟨z.1,by rw[zaf (ne_of z.2.1 e (fun q=>nomatch q))];exact z.2.1,z.2.2⟩,c⟩
theorem Inv.thaw(I0:Inv X pins0 σ0 H0 s0)(e0:H0 d=some (.dT kvs))(I:Inv X pins σ H s)(e:H d=some (.frz o (.dT kvs))):Inv X pins σ (upd H d (.dT kvs)) s:=by
 have n:∀b,H b=none->b≠d:=fun b h z=>by rw[z,e]at h;cases h
 have nt:∀b u,H b=some u->u≠.frz o (.dT kvs)->b≠d:=fun b u h q z=>by rw[z,e]at h;cases h;exact q rfl
 refine⟨I.ok,I.os,I.bare,⟨I.base.keep,I.base.slot,fun b ob q h hx=> ?_,I.base.there,fun b xs q=> ?_,fun b ob u q=> ?_,fun b ps q=> ?_⟩,I.loc,I.cell,by rw[zaf (n _ I.free)];exact I.free,fun x c q=>by rw[zaf (n _ (I.freeC x c q))];exact I.freeC x c q,fun p hp=> ?_,fun b u q=> ?_,I.len⟩
 ·have:=I.base.free b ob q h hx
  rw[zaf (n b this)];exact this
 ·have:=I.base.tups b xs q
  rw[zaf (nt b _ this (fun z=>nomatch z))];exact this
 ·have h2:=I0.base.frzs b ob u q
  have h1:=I.base.frzs b ob u q
  rw[zaf (fun z=>by rw[z,e0]at h2;cases h2)];exact h1
 ·obtain⟨m,h1⟩:=I.base.tbls b ps q
  exact⟨m,by rw[zaf (nt b _ h1 (fun z=>nomatch z))];exact h1⟩
 ·obtain⟨h1,h2,h3⟩:=I.pin p hp
  exact⟨h1,by rw[zaf (n _ h2)];exact h2,h3⟩
 ·have ht:∀b xs,H b=some (.tup xs)->upd H d (.dT kvs) b=some (.tup xs):=fun b xs h=>by rw[zaf (nt b _ h (fun z=>nomatch z))];exact h
  have how:∀a b,H b=some (.own a)->upd H d (.dT kvs) b=some (.own a):=fun a b h=>by rw[zaf (nt b _ h (fun z=>nomatch z))];exact h
  by_cases hb:b=d
  ·subst hb
   rw[zab]at q
   cases q
   obtain⟨_,w⟩:=I.hok b _ e
   exact ObjOk.stay w (fun _ _ _ q=>q) (how b) ht
  ·rw[zaf hb]at q
   exact(I.hok b u q).stay (fun _ _ _ q=>q) (how b) ht
noncomputable def tThaw(t:TE):TE:=fun σ H Q=>∃d kvs,H d=some (.dT kvs)/\t σ H fun v H'=>∃o,H' d=some (.frz o (.dT kvs))/\Q v (upd H' d (.dT kvs))
theorem pe_thaw{e:Expr}{t:TE}(h:PE X e t):PE X e (tThaw t):=by
 intro pins s σ H Q I q
 obtain⟨d,kvs,hd,q⟩:=q
 refine thn (h pins s σ H _ I q) fun v s1 ⟨x,H1,I1,r1,o,e1,q1⟩=>⟨x,_,I.thaw hd I1 e1,r1,q1⟩
noncomputable def Iti(d:Addr)(o:Obj)(kvs:List (List Key×V)):It:=
 ⟨fun i H=>i<kvs.length/\H d=some (.frz o (.dT kvs)),fun i H x H'=>∃t b k v,kvs[i]? =some (k,v)/\x= .ref t/\H t=none/\H b=some (.tup (k.map kV))/\H'=upd H t (.tup [.ref b,v]),fun i H=>i=kvs.length/\H d=some (.frz o (.dT kvs))⟩
theorem paired_at{α β:Type}{R:α->β->Prop}:∀{l:List α} {m:List β} {i:Nat} {x:α},Paired R l m->l[i]? =some x->∃y,m[i]? =some y/\R x y
 |_,_,i,x,.nil,hx=>by simp at hx
 |_,_,0,x,.cons h t,hx=>by
  simp only[List.getElem?_cons_zero,Option.some.injEq]at hx
  subst hx
  exact⟨_,rfl,h⟩
 |_,_,i+1,x,.cons h t,hx=>by
  rw[List.getElem?_cons_succ]at hx
  obtain⟨r,h1,h2⟩:=paired_at t hx
  exact⟨r,by rw[List.getElem?_cons_succ];exact h1,h2⟩
theorem turn_items{P:Program}{w:World}{K:W.Frag}{els:List Expr}{k:Nat}{pos:Pos}(it:Addr)(d:Addr)(o:Obj)(kvs:List (List Key×V))(es:Array DictEntry)(ep:Nat)(hod:o.data= .dict es ep)(hx:o.ExactDict)(hsz:es.size=kvs.length)(hne:d≠it):
  Turn P w K (.Tuple els k pos) (Iti d o kvs) [it] it (fun i h=>∃ok ov,IsItemIter h it d i es.size ep ok ov) where
 mem:=by simp
 obj:=fun i h st b hb=>by
  obtain⟨ok,ov,he⟩:=st
  have z:b=it:=by simpa using hb
  subst z
  exact⟨_,he,fun v z=>by cases z⟩
 keep:=fun i h h' st k=>let⟨ok,ov,he⟩:=st;⟨ok,ov,k it (by simp) _ he⟩
 item:=by
  intro X hP hw hK hc i pins s σ H E I hf st hg
  subst hP hw hK
  obtain⟨hi,hd⟩:=hg
  obtain⟨ok,ov,he⟩:=st
  obtain⟨ho,z,y,xs,r,o',es',ep',ho',hx',hd',hes,hn⟩:=I.hok d _ hd
  rw[ho]at ho'
  cases ho'
  rw[hod]at hd'
  cases hd'
  obtain⟨p,hp⟩:∃p,kvs[i]? =some p:=⟨kvs[i],by simp[hi]⟩
  obtain⟨q,hq,e1,e2,e3⟩:=paired_at r hp
  have hei:es[i]? =some (entryOfKey (tupleKind (mixKind X.prog X.w)) q):=by
   rw[<-Array.getElem?_toList,hes,List.getElem?_map,hq];rfl
  refine DH.nextI_es he ⟨o,ho,hx,hod⟩ hei fun h1 ho1 hT hk=>⟨_,rfl,?_⟩
  refine wpAny_letOwnedTupleGo_items ho1 fun h2 he2 hs2=> ?_
  have hs2':Heap.SameBut it h1 h2:=hs2
  have nT:s.heap.objs.size≠it:=fun z=>absurd (Heap.lt_size he) (by rw[<-z];exact Nat.lt_irrefl _)
  have keep:∀b o,b∉[it]->s.heap.get? b=some o->h2.get? b=some o:=fun b o hb q=>(hs2'.2 b fun z=>hb (by simp[z])).trans (hk b o (fun z=>hb (by simp[z])) q)
  have hT2:=(hs2'.2 _ nT).trans hT
  have I2:=I.turnsLaid (h':=h2) (t':=s.toks) (o:= .tup [.ref q.2.1,p.2]) keep hf (Nat.le_refl _) ⟨(by show 2<=sizeLine;decide),[.ref q.2.1,q.2.2],.cons rfl (.cons e3 .nil),_,hT2,rfl,_,rfl⟩
  exact⟨.ref s.heap.objs.size,_,I2,rfl,⟨_,_,_,_,hp,rfl,I.hok.fresh (Nat.le_refl _),e2,rfl⟩,⟨_,_,he2⟩,fun b hb=>by
   have z:b=it:=by simpa using hb
   rw[zaf (by rw[z];exact nT.symm)]
   exact(hf b hb).1⟩
 done:=by
  intro X hP hw hK hc i pins s σ H E I hf st hg
  subst hP hw hK
  obtain⟨hi,hd⟩:=hg
  obtain⟨ok,ov,he⟩:=st
  obtain⟨ho,_⟩:=I.hok d _ hd
  exact DH.endI_es (I.ok.hd hc) he ⟨o,ho,hx,hod⟩ (by omega) fun h' eb=>⟨rfl,I.turns (t':=s.toks) (fp:=[it]) (fun b o hb q=>eb b o (fun z=>hb (by simp[z])) q) hf⟩
 self:=fun A i s Q E st h=>by
  obtain⟨ok,ov,he⟩:=st
  exact PySem.W.kcp_self he h
noncomputable def iItems(to:TE):TI:=fun σ H R=>to σ H fun x H1=>∃d kvs,x= .ref d/\H1 d=some (.dT kvs)/\(kvs.length<=sizeLine->∀o,R (Iti d o kvs) (upd H1 d (.frz o (.dT kvs))))
theorem pi_items{els:List Expr}{k:Nat}{pos0:Pos}{e:Expr}{to:TE}{apos cpos:Pos}(ho:PE X e to)(hbase:attributeBase e "items" X.env (eval e X.env)=eval e X.env:=by rfl)(hline:(apos.endLine==cpos.line)=true:=by rfl):
  PI X (.Tuple els k pos0) (.Call (.Attribute e "items" apos) [] [] cpos) (iItems to):=by
 intro pins s σ H R I h
 refine wpAny_Call_method0_late hbase hline (thn (ho pins s σ H _ I h) fun v s1 ⟨x,H1,I1,r1,d,kvs,ex,hd,q⟩=> ?_)
 subst ex
 obtain rfl:v=Value.ref d:=r1
 obtain⟨h1,h2⟩:=tyV_is I1 (show RelV (.ref d) (.ref d)from rfl) (show tyV X.K "dict" (.ref d) H1 from .inr (.inr (.inl ⟨rfl,.inr ⟨_,hd⟩⟩)))
 refine⟨"dict","dict.items",PySem.F.plainAttrs_dict,PySem.F.slot_dict_items,PySem.F.type_dict_items,h1,h2,Calls.callWith_builtin rfl (PySem.evalArgs_none ?_)⟩
 obtain⟨z,y,xs,r,o,es,ep,ho',hx',hd',hes,hn⟩:=I1.hok d _ hd
 have hsz:es.size=kvs.length:=by rw[<-Array.length_toList,hes,List.length_map,<-Paired.length r]
 have hE:DH.EsAt s1.heap d es ep:=⟨o,ho',hx',hd'⟩
 refine call_meetsIn PySem.F.slot_dict_items h1 PySem.F.entry_dict_items (PySem.F.args_dict_items_1 _) (DH.meets_items d y) ⟨⟨es,ep,hE⟩,?_⟩
 have hv:(s1.heap.push {cls:= .type "dict_items",data:= .fields #[.ref d]}).IsItemsView s1.heap.objs.size d:=⟨_,Heap.get?_push_size _ rfl,rfl,rfl⟩
 have hE2:DH.EsAt (s1.heap.push {cls:= .type "dict_items",data:= .fields #[.ref d]}) d es ep:=hE.at' fun o e=>Heap.get?_push_of_some _ e
 refine DH.iterI_es (s:={s1 with heap:=_}) hv hE2 ?_
 generalize hP:s1.heap.push {cls:= .type "dict_items",data:= .fields #[.ref d]}=hp at *
 have zp:hp.objs.size=s1.heap.objs.size+1:=by rw[<-hP,Heap.size_push]
 have kp:∀b o,s1.heap.get? b=some o->(hp.push {cls:= .type "dict_itemiterator",data:= .fields #[.none,.bool false,.ref d,.int 0 0,.int es.size 0,.int ep 0,.none,.none]}).get? b=some o:=fun b o e=>Heap.get?_push_of_some _ (by rw[<-hP];exact Heap.get?_push_of_some _ e)
 have I2:Inv X pins σ H1 {s1 with heap:=hp.push {cls:= .type "dict_itemiterator",data:= .fields #[.none,.bool false,.ref d,.int 0 0,.int es.size 0,.int ep 0,.none,.none]},toks:=s1.toks}:=I1.kept kp
 have I3:=I2.freeze hd (kp _ _ ho')
 have dlt:d<s1.heap.objs.size:=Heap.lt_size ho'
 have nd:d≠hp.objs.size:=by rw[zp];exact Nat.ne_of_lt (Nat.lt_succ_of_lt dlt)
 refine⟨hp.objs.size,[hp.objs.size],_,_,_,rfl,I3,turn_items hp.objs.size d o kvs es ep hd' hx' hsz nd,⟨_,_,Heap.get?_push_size _ rfl⟩,fun b hb=> ?_,q z o⟩
 have zb:b=hp.objs.size:=by simpa using hb
 subst zb
 refine I1.fpOk (by rw[zp];exact Nat.le_succ _) ?_
 rw[zaf (Ne.symm nd)]
 exact I1.hok.fresh (by rw[zp];exact Nat.le_succ _)
theorem call_lenT(hc:X.calm=true):CallR X (.builtin "len") (fun xs H Q=>∃(a:Addr) (kvs:List (List Key×V)),xs=[.ref a]/\Rd H a (.dT kvs)/\Q (.int kvs.length) H):=by
 intro pins s σ H xs us Q I r h
 obtain⟨a,kvs,rfl,e,q⟩:=h
 obtain⟨u,rfl,ru⟩:=r.one
 cases ru
 obtain⟨z,y,xs,rel,o,es,ep,ho',hx',hd',hes,hn⟩:=e.ok I.hok
 have hsz:es.size=kvs.length:=by rw[<-Array.length_toList,hes,List.length_map,<-Paired.length rel]
 have hT:s.TypeIs (.ref a) "dict":=⟨o,ho',hx'.1⟩
 refine Calls.call_function_entry kind_len plain_len entry_len (args_len1 _) ?_
 unfold Builtin.«len»
 refine wpAny_bind (m:=oneArg "len" _) (wpAny_pure ?_)
 have M:MeetsIn X.prog X.w (Builtin.«dict.__len__» ⟨[.ref a],[]⟩) (fun _ R s=>(∃es ep,DH.EsAt s.heap a es ep/\es.size=kvs.length)/\R (.ok (.ret (.int kvs.length s.toks))) {s with toks:=s.toks+1}):=
  .of_wp fun A R s ⟨⟨es,ep,hm,he⟩,h⟩=>by
   obtain⟨o,ho,hc,hdat⟩:=hm
   show wpAny _ _ (dictSize a>>=_) _ _ s
   unfold dictSize
   refine wpAny_bind (wpAny_bind (wpAny_dictEntries ho hdat (wpAny_pure ?_)))
   show wpAny _ _ (Builtin.Dict.pendingCount a>>=_) _ _ s
   refine wpAny_bind (wpAny_pendingCount_other y ?_)
   refine wpAny_ret_mkInt ?_
   rw[Nat.add_zero,he];exact h
 refine wpAny_bind (m:=callSpecial? (.ref a) (Str.ofString "__len__")) (wpAny_callSpecial?_slot (name:=Str.ofString "__len__") hT F.slot_dict_len
  (call_meetsIn F.slot_dict_len hT F.entry_dict_len (F.args_dict_len_1 _) M ⟨⟨es,ep,⟨o,ho',hx',hd'⟩,hsz⟩,?_⟩))
 show wpAny _ _ _ _ _ {s with toks:=s.toks+1}
 refine wpAny_bind (wpAny_holding (wpAny_pure ?_))
 refine wpAny_bind (wpAny_letGo ?_)
 show wpAny _ _ (if((kvs.length:Nat):Int)<0 then _ else _) _ _ _
 rw[if_neg (by omega)]
 show wpAny _ _ (if((kvs.length:Nat):Int)≥2^63 then _ else _) _ _ _
 rw[if_neg (by rw[sizeLine_eq]at z;omega)]
 exact wpAny_bind (wpAny_mkInt (wpAny_pure ⟨_,rfl,⟨.int kvs.length,H,I.tok _,⟨_,rfl⟩,q⟩⟩))
theorem call_isiDict:CallR X (.builtin "isinstance") (fun xs H Q=>∃(a:Addr) (kvs:List (List Key×V)),xs=[.ref a,.ty "dict"]/\H a=some (.dT kvs)/\Q (.bl true) H):=by
 intro pins s σ H xs us Q I r h
 obtain⟨a,kvs,rfl,e,q⟩:=h
 obtain⟨u,v,rfl,ru,rv⟩:=r.two
 cases rv
 cases ru
 obtain⟨z,y,xs,rel,o,es,ep,ho',hx',_⟩:=I.hok a _ e
 exact IsiPair.dict_dict ho' hx'.1 ⟨.bl true,H,I,rfl,q⟩
end
section
variable{d:Addr}{o:Obj}{kvs:List (List Key×V)}{g:TG}{tc:TT}{te:TE}{Fin:List V->Hp->Prop}{ini:St}{H:Hp}
theorem comp_items(Pv:Nat->List V->St->Hp->Prop)(h0:Pv 0 [] ini H)(hl:∀(i:Nat) acc σ H,i<=kvs.length->Pv i acc σ H->H d=some (.frz o (.dT kvs)))(hz:∀(i:Nat) acc σ H,i<=kvs.length->Pv i acc σ H->acc.length<=i)(hx:kvs.length<=sizeLine)(hs:∀(i:Nat) t b k v acc σ H,kvs[i]? =some (k,v)->Pv i acc σ H->H t=none->H b=some (.tup (k.map kV))->g (.ref t) σ (upd H t (.tup [.ref b,v])) fun σ2 H2=>tc σ2 H2 fun b H3=>if b=true then te σ2 H3 fun v H4=>Pv (i+1) (acc++[v]) σ2 H4 else Pv (i+1) acc σ2 H3)(hd:∀acc σ H,Pv kvs.length acc σ H->Fin acc H):CompW (Iti d o kvs) ini H g tc te Fin:=by
 refine⟨fun i m acc σ H=>m=kvs.length-i/\i<=kvs.length/\Pv i acc σ H,⟨kvs.length,by simp,Nat.zero_le _,h0⟩,?_⟩
 rintro i m acc σ H ⟨rfl,hi,p⟩
 have q:=hl i acc σ H hi p
 have z:=hz i acc σ H hi p
 by_cases hlt:i<kvs.length
 ·refine .inr ⟨⟨hlt,q⟩,by omega,fun acc σ H=>Pv (i+1) acc σ H,fun acc' σ' H' r=>⟨_,by omega,rfl,hlt,r⟩,fun x H' y=> ?_⟩
  obtain⟨t,b,k,v,hv,rfl,ht,hb,rfl⟩:=y
  exact hs i t b k v acc σ H hv p ht hb
 ·have e:i=kvs.length:=by omega
  subst e
  exact .inl ⟨⟨rfl,q⟩,by omega,hd acc σ H p⟩
end
end L2
namespace DH
open PySem PySem.W PyProof.Rows PySem.Calls
theorem filt_one{α:Type}(f:α->Int):∀(l:List α) (c:Int),(l.map f).Nodup->(l.filter fun x=>f x==c).length<=1
 |[],_,_=>by simp
 |x::l,c,h=>by
  rw[List.map_cons,List.nodup_cons]at h
  have ih:=filt_one f l c h.2
  rw[List.filter_cons]
  by_cases e:(f x==c)=true
  ·rw[if_pos e]
   have:l.filter (fun x=>f x==c)=[]:=by
    rw[List.filter_eq_nil_iff]
    intro y hy z
    refine h.1 ?_
    have e1:f x=c:=by simpa using e
    have e2:f y=c:=by simpa using z
    rw[e1,<-e2]
    exact List.mem_map_of_mem hy
   rw[this];simp
  ·rw[if_neg e];exact ih
section
variable{prog:Program}{w:World}{A:Around}{E:Value->Shared->Prop}{s:Shared}
theorem entriesFor_es{nm:String}{o:Addr}{es:Array DictEntry}{ep:Nat}{Q:Array DictEntry->Shared->Prop}(hm:EsAt s.heap o es ep)(hh:(es.toList.map (·.hash)).Nodup)(hk:∀e∈es.toList,∃b,e.key= .ref b/\s.TypeIs (.ref b) "tuple")(h:Q es s):
  wpAny (model prog w) A (Builtin.Dict.entriesForEmpty nm o) Q E s:=by
 obtain⟨ob,ho,hc,hd⟩:=hm
 unfold Builtin.Dict.entriesForEmpty
 refine wpAny_bind (wpAny_dictEntries ho hd ?_)
 refine wpAny_bind ?_
 rw[<-Array.forIn_toList]
 refine wpAny_forIn_list _ (fun rest _ s'=>s'=s/\∀e∈rest,∃b,e.key= .ref b/\s.TypeIs (.ref b) "tuple") _ ?_ ?_ _ _ ⟨rfl,hk⟩
 ·rintro x rest r s' ⟨rfl,hr⟩
  obtain⟨b,eb,hb⟩:=hr x List.mem_cons_self
  rw[eb]
  refine wpAny_bind ?_
  unfold Builtin.Dict.quietEq
  refine wpAny_bind (wpAny_specialOf hb PySem.F.slot_tuple_eq.lookup (wpAny_pure ?_))
  rw[if_pos (by decide)]
  have hs:¬(es.filter fun e=>e.hash==x.hash).size>1:=by
   have:=filt_one (fun e:DictEntry=>e.hash) es.toList x.hash hh
   have e2:(es.filter fun e=>e.hash==x.hash).size=(es.toList.filter fun e=>e.hash==x.hash).length:=by rw[<-Array.length_toList,Array.toList_filter]
   omega
  rw[if_neg hs]
  exact wpAny_pure ⟨rfl,fun e he=>hr e (List.mem_cons_of_mem _ he)⟩
 ·rintro r s' ⟨rfl,_⟩
  exact wpAny_pure h
theorem merge_es{nm:String}{d o:Addr}{es:Array DictEntry}{ep epd:Nat}{Q:Unit->Shared->Prop}(hdo:d≠o)(hoS:(o==sysModules)=false)(hd:EsAt s.heap d #[] epd)(hm:EsAt s.heap o es ep)(hh:(es.toList.map (·.hash)).Nodup)(hk:∀e∈es.toList,∃b,e.key= .ref b/\s.TypeIs (.ref b) "tuple")(h:∀h' ep',EsAt h' d es ep'->Heap.SameBut d s.heap h'->Q () {s with heap:=h'})(hz:es.size<=sizeLine):wpAny (model prog w) A (Builtin.Dict.mergeDict nm d o) Q E s:=by
 obtain⟨od,hod,hcd,hdd⟩:=id hd
 obtain⟨oo,hoo,hco,hdo'⟩:=id hm
 unfold Builtin.Dict.mergeDict
 rw[if_neg (by simpa using hdo)]
 unfold Builtin.Dict.showsAll
 rw[if_neg (by rw[hoS];exact Bool.false_ne_true)]
 refine wpAny_bind (wpAny_pure ?_)
 refine wpAny_bind (wpAny_dictEntries hoo hdo' ?_)
 cases es':es.toList with
 |nil=>
  have ee:es=#[]:=by cases es;simp_all
  subst ee
  dsimp only
  rw[if_neg (by simp)]
  refine wpAny_bind (wpAny_dictEpoch hoo hdo' ?_)
  refine wpAny_bind (wpAny_dictEntries hoo hdo' ?_)
  refine wpAny_bind ?_
  rw[Std.Legacy.Range.forIn_eq_forIn_range']
  exact wpAny_pure (wpAny_pure (h s.heap epd hd (Heap.SameBut.refl _ _)))
 |cons x r=>
  have hx:x∈es.toList:=by rw[es'];exact List.mem_cons_self
  obtain⟨b,eb,hb⟩:=hk x hx
  have hall:(es.all fun e=>(keyPart e.key).isSome)=false:=by
   rw[<-Array.all_toList,List.all_eq_false]
   exact⟨x,hx,by rw[eb];exact Bool.false_ne_true⟩
  have hne:es.isEmpty=false:=by
   cases es;simp_all
  simp only[hall,Bool.and_false,Bool.not_false,if_true]
  refine wpAny_bind (wpAny_dictEntries hod hdd ?_)
  rw[if_pos (by rfl)]
  refine wpAny_bind (entriesFor_es hm hh hk ?_)
  simp only[hne,Bool.not_false,if_true]
  refine wpAny_bind (wpAny_updateDictKeysTo hod hdd ?_ (by show es.size<=_;omega))
  exact wpAny_pure (h _ _ ⟨_,Heap.get?_update_self _ hod (Obj.isFreed_of_dict (Obj.data_mapDictKeys hdd _)),hcd.mapDictKeys _,Obj.data_mapDictKeys hdd _⟩ (Heap.SameBut.update ..))
theorem call_dict_es{o:Addr}{es:Array DictEntry}{ep:Nat}{Q:Value->Shared->Prop}(hoS:(o==sysModules)=false)(hm:EsAt s.heap o es ep)(hh:(es.toList.map (·.hash)).Nodup)(hk:∀e∈es.toList,∃b,e.key= .ref b/\s.TypeIs (.ref b) "tuple")(hz:es.size<=sizeLine)(h:∀h' ep',EsAt h' s.heap.objs.size es ep'->Heap.SameBut s.heap.objs.size (s.heap.push {cls:= .type "dict",data:= .dict #[]}) h'->Q (.ref s.heap.objs.size) {s with heap:=h'}):
  wpAny (model prog w) A (call (.type "dict") [.ref o]) Q E s:=by
 refine callType_codes (Q₁:=fun obj s₁=>obj= .ref s.heap.objs.size/\s₁={s with heap:=s.heap.push {cls:= .type "dict",data:= .dict #[]}}) F.kt_called_dict (F.kt_typeCall_dict_1 _) F.entry_dict_init (kt_code_dict_new _ ⟨rfl,rfl⟩) ?_
 rintro obj s₁ ⟨rfl,rfl⟩
 have hnew:EsAt (s.heap.push {cls:= .type "dict",data:= .dict #[]}) s.heap.objs.size #[] 0:=⟨_,Heap.get?_push_size _ rfl,⟨rfl,rfl,rfl⟩,rfl⟩
 have ho':EsAt (s.heap.push {cls:= .type "dict",data:= .dict #[]}) o es ep:=hm.at' fun _ e=>Heap.get?_push_of_some _ e
 have hT:Shared.TypeIs {s with heap:=s.heap.push {cls:= .type "dict",data:= .dict #[]}} (.ref s.heap.objs.size) "dict":=EsAt.typeIs hnew
 have hT':Shared.TypeIs {s with heap:=s.heap.push {cls:= .type "dict",data:= .dict #[]}} (.ref o) "dict":=EsAt.typeIs ho'
 have hdo:s.heap.objs.size≠o:=Nat.ne_of_gt hm.lt
 refine⟨hT,F.args_dict_init_2 _ _,?_⟩
 unfold Builtin.«dict.__init__»
 refine wpAny_bind ?_
 unfold Builtin.Dict.selfAndRest
 refine wpAny_bind (wpAny_notOrdered_dict hT ?_)
 show wpAny _ _ (pure (s.heap.objs.size,[Value.ref o])) _ _ _
 refine wpAny_pure ?_
 show wpAny _ _ (Builtin.Dict.updateFrom "dict.__init__" s.heap.objs.size (.ref o) [] .none) _ _ _
 unfold Builtin.Dict.updateFrom
 refine wpAny_bind (wpAny_typeOf hT' ?_)
 rw[if_neg (by decide)]
 refine wpAny_bind ?_
 unfold Builtin.Dict.merge
 refine wpAny_bind ?_
 unfold Builtin.Dict.readDirectly
 refine wpAny_bind (wpAny_isInstance hT' isSubtype_dict_dict ?_)
 simp only[Bool.not_true,Bool.false_eq_true,if_false]
 refine wpAny_bind (wpAny_specialOf hT' F.slot_dict_iter.lookup (wpAny_pure ?_))
 simp only[beq_self_eq_true,if_true]
 refine wpAny_bind (wpAny_pure ?_)
 refine merge_es hdo hoS hnew ho' hh (fun e he=> ?_) (fun h' ep' hd' hs'=> ?_) hz
 ·obtain⟨b,eb,ob,hb,hc⟩:=hk e he
  exact⟨b,eb,ob,Heap.get?_push_of_some _ hb,hc⟩
 ·show wpAny _ _ (Builtin.Dict.addKeywords s.heap.objs.size []>>=_) _ _ _
  exact wpAny_bind (wpAny_pure (wpAny_pure ⟨rfl,h h' ep' hd' hs'⟩))
end
section
variable{prog:Program}{w:World}{K:Type} [DecidableEq K]{knd:HeapKind prog w K}{A:Around}{E:Value->Shared->Prop}{s:Shared}
noncomputable def dropX(xs:List (K×Addr×Value))(k:K):List (K×Addr×Value):=xs.filter fun x=>decide (x.1≠k)
theorem map_erase{α β:Type}(f:α->β):∀(l:List α) (j:Nat),(l.map f).eraseIdx j=(l.eraseIdx j).map f
 |[],_=>rfl
 |_::_,0=>rfl
 |x::l,j+1=>by
  show f x::(l.map f).eraseIdx j=f x::(l.eraseIdx j).map f
  rw[map_erase f l j]
theorem erase_drop{xs:List (K×Addr×Value)}{k:K}:∀{j:Nat} {p:Addr×Value},(xs.map (·.1)).Nodup->xs[j]? =some (k,p)->xs.eraseIdx j=dropX xs k:=by
 induction xs with
 |nil=>intro j p _ h;simp at h
 |cons x r ih=>
  intro j p hn hj
  rw[List.map_cons,List.nodup_cons]at hn
  cases j with
  |zero=>
   simp only[List.getElem?_cons_zero,Option.some.injEq]at hj
   subst hj
   have:dropX r k=r:=by
    unfold dropX
    rw[List.filter_eq_self]
    intro y hy
    exact decide_eq_true fun e=>hn.1 (List.mem_map.mpr ⟨y,hy,e⟩)
   show r=dropX ((k,p)::r) k
   unfold dropX at this⊢
   rw[List.filter_cons,if_neg (by simp),this]
  |succ j=>
   rw[List.getElem?_cons_succ]at hj
   have hne:x.1≠k:=fun e=>hn.1 (by rw[e];exact List.mem_map.mpr ⟨_,List.mem_of_getElem? hj,rfl⟩)
   show x::r.eraseIdx j=dropX (x::r) k
   unfold dropX
   rw[List.filter_cons,if_pos (by simpa using hne),ih hn.2 hj];rfl
theorem takeOut_heap{d a:Addr}{xs:List (K×Addr×Value)}{k:K}{p:Addr×Value}{Q:Option DictEntry->Shared->Prop}(hu:knd.room A)(hkey:knd.is s.heap k a)(hm:s.heap.DictOfH knd d xs)(hp:atKey xs k=some p)(h:∀h',h'.DictOfH knd d (dropX xs k)->Heap.SameBut d s.heap h'->Q (some (entryOfKey knd (k,p))) {s with heap:=h',toks:=s.toks+knd.draws k})(hsz:xs.length<=sizeLine):
  wpAny (model prog w) A (Builtin.Dict.takeOut d (.ref a)) Q E s:=by
 obtain⟨o,es,ep,ho,hc,hd,he,his,hn⟩:=hm
 have hes:es.size<=sizeLine:=by rw[size_of_entries he];exact hsz
 unfold Builtin.Dict.takeOut
 refine wpAny_holding ?_
 refine wpAny_bind (knd.pyHash hu hkey (wpAny_bind (wpAny_dictFind_heap (s:={s with toks:=s.toks+knd.draws k}) hu hkey ho hd he his hn ?_ ?_)))
 ·intro hno
  rw[atKey_none_of_get hno]at hp;cases hp
 ·intro j q hj
  have hq:=atKey_of_get hn hj
  rw[hp]at hq
  cases hq
  refine wpAny_bind (wpAny_dictEntries (s:={s with toks:=s.toks+knd.draws k}) ho hd ?_)
  rw[entry_at he j,hj]
  refine wpAny_bind (wpAny_updateDictKeys (hz:=hes) (s:={s with toks:=s.toks+knd.draws k}) ho hd (wpAny_pure (h _ ⟨_,_,ep+1,Heap.get?_update_self _ ho (Obj.isFreed_of_dict (Obj.data_mapDictKeys hd _)),hc.mapDictKeys _,Obj.data_mapDictKeys hd _,?_,?_,?_⟩ (Heap.SameBut.update ..))))
  ·rw[<-erase_drop hn hj]
   have:(es.eraseIdxIfInBounds j).toList=es.toList.eraseIdx j:=by
    obtain⟨l⟩:=es;simp
   rw[this,he,map_erase]
  ·intro x hx
   exact knd.keeps (his x ((List.mem_filter.mp hx).1)) ho hd (Heap.SameBut.update ..)
  ·exact List.Sublist.nodup (List.Sublist.map _ List.filter_sublist) hn
theorem meets_pop(d a:Addr):MeetsIn prog w (Builtin.«dict.pop» ⟨[.ref d,.ref a],[]⟩) (fun A R s=>knd.room A.in1/\∃k xs p,knd.is s.heap k a/\s.heap.DictOfH knd d xs/\xs.length<=sizeLine/\atKey xs k=some p/\
   ∀h',h'.DictOfH knd d (dropX xs k)->Heap.SameBut d s.heap h'->R (.ok (.ret p.2)) {s with heap:=h',toks:=s.toks+knd.draws k}):=
 .of_wp fun A R s ⟨hu,k,xs,p,hkey,hm,hsz,hv,h⟩=>by
  obtain⟨o,es,ep,ho,hc,hd,he,his,hn⟩:=id hm
  have hne:es.isEmpty=false:=by
   cases e:xs with
   |nil=>rw[e]at hv;cases hv
   |cons y r=>
    have:=size_of_entries he
    rw[e]at this
    cases es with
    |mk l=>cases l with
     |nil=>simp at this
     |cons z l=>rfl
  unfold Builtin.«dict.pop»
  refine wpAny_bind ?_
  unfold Builtin.Dict.keyAndDefault
  refine wpAny_bind (wpAny_notOrdered_dict hm.typeIs ?_)
  show wpAny _ _ (pure (d,Value.ref a,none)) _ _ s
  refine wpAny_pure ?_
  show wpAny _ _ (dictEntries d>>=_) _ _ s
  refine wpAny_bind (wpAny_dictEntries ho hd ?_)
  refine wpAny_bind (wpAny_pure ?_)
  simp only[hne,Bool.false_eq_true,if_false]
  refine wpAny_bind (takeOut_heap hu hkey hm hv (fun h' hm' hs'=> ?_) hsz)
  simp only[Option.isNone_some,Bool.false_eq_true,if_false]
  exact wpAny_bind (wpAny_letGo (wpAny_pure ⟨p.2,rfl,h h' hm' hs'⟩))
end
end DH
namespace L2
open PySem PySem.Spec PyProof.Rows
section
variable{X:Cx}
noncomputable def HashOk(P:Program)(w:World)(kvs:List (List Key×V)):Prop:=(kvs.map fun kv=>(tupleKind (mixKind P w)).hash kv.1).Nodup
theorem dt_new{P:Program}{w:World}{H':Hp}{h':Heap}{a:Addr}{kvs:List (List Key×V)}{xs:List (List Key×Addr×Value)}(z:kvs.length<=sizeLine)(hd:(a==sysModules)=false)(rel:KT H' kvs xs)(dd:h'.DictOfH (tupleKind (mixKind P w)) a xs):ObjOk P w H' h' a (.dT kvs):=by
 obtain⟨q,es,ep,hq,h2,h3,h4,_,h5⟩:=dd
 exact⟨z,hd,xs,rel,q,es,ep,hq,h2,h3,h4,h5⟩
theorem call_dictT:CallR X (.type "dict") (fun xs H Q=>∃(a:Addr) (kvs:List (List Key×V)),xs=[.ref a]/\Rd H a (.dT kvs)/\HashOk X.prog X.w kvs/\∀p,H p=none->Q (.ref p) (upd H p (.dT kvs))):=by
 intro pins s σ H xs us Q I r h
 obtain⟨a,kvs,rfl,hD,hH,q⟩:=h
 obtain⟨u,rfl,ru⟩:=r.one
 cases ru
 obtain⟨z,hd,ys,rel,dd⟩:=dt_rd I.hok hD
 obtain⟨o,es,ep,ho,hx,hdat,he,his,hn⟩:=id dd
 have hl:ys.length=kvs.length:=(Paired.length rel).symm
 have hsz:es.size=kvs.length:=by rw[<-Array.length_toList,he,List.length_map,hl]
 have hh:(es.toList.map (·.hash)).Nodup:=by
  rw[he,List.map_map]
  have e:ys.map ((fun e:DictEntry=>e.hash)∘entryOfKey (tupleKind (mixKind X.prog X.w)))=kvs.map fun kv=>(tupleKind (mixKind X.prog X.w)).hash kv.1:=by
   clear hn his he hdat hx ho dd hl hsz hH z q hD
   induction rel with
   |nil=>rfl
   |cons r t ih=>rw[List.map_cons,List.map_cons,ih,r.1];rfl
  rw[e];exact hH
 refine DH.call_dict_es hd ⟨o,ho,hx,hdat⟩ hh (fun e hm=> ?_) (by omega) fun h' ep' hE hs=> ?_
 ·rw[he]at hm
  obtain⟨y,hy,rfl⟩:=List.mem_map.mp hm
  exact⟨y.2.1,rfl,(his y hy).typeIs⟩
 ·have kp:∀b o,s.heap.get? b=some o->h'.get? b=some o:=fun b o e=>hs.extBut b o (Nat.ne_of_lt (Heap.lt_size e)) (Heap.get?_push_of_some _ e)
  obtain⟨q',h1,h2,h3⟩:=hE
  have fr:H s.heap.objs.size=none:=I.hok.fresh (Nat.le_refl _)
  refine⟨.ref s.heap.objs.size,_,I.laid (a:=s.heap.objs.size) (o:= .dT kvs) (t':=s.toks) kp (Nat.le_refl _) ⟨z,beq_eq_false_iff_ne.mpr (Ne.symm (Nat.ne_of_lt I.big)),ys,rel.keeps fun c zs ec=> ?_,q',es,ep',h1,h2,h3,he,hn⟩,rfl,q _ fr⟩
  rw[zaf (zai ec fr)];exact ec
theorem KT.drop{H:Hp}{kvs:List (List Key×V)}{xs:List (List Key×Addr×Value)}(r:KT H kvs xs)(k:List Key):KT H (dropK kvs k) (DH.dropX xs k):=by
 induction r with
 |nil=>exact .nil
 | @cons p q ps qs h t ih=>
  unfold dropK DH.dropX at ih⊢
  rw[List.filter_cons,List.filter_cons]
  by_cases e:p.1=k
  ·rw[if_neg (by simpa using e),if_neg (by rw[<-h.1];simpa using e)];exact ih
  ·rw[if_pos (by simpa using e),if_pos (by rw[<-h.1];simpa using e)];exact .cons h ih
theorem mt_popT(hu:X.A.units+64<cLine):MtR X "dict.pop" (fun x vs H Q=>∃(a b:Addr) (kvs:List (List Key×V)) (k:List Key) (v:V),x= .ref a/\vs=[.ref b]/\H a=some (.dT kvs)/\H b=some (.tup (k.map kV))/\valV kvs k=some v/\Q v (upd H a (.dT (dropK kvs k)))):=by
 intro pins s σ H x vs v us Q I rx rv h
 obtain⟨a,b,kvs,k,y,rfl,rfl,e,eb,hv,q⟩:=h
 cases rx
 obtain⟨u,rfl,ru⟩:=rv.one
 cases ru
 obtain⟨z,hd,xs,rel,dd⟩:=dt_of I.hok e
 have hz:xs.length<=sizeLine:=by rw[<-Paired.length rel];exact z
 have rel':=rel.val k
 rw[hv]at rel'
 cases hp:atKey xs k with
 |none=>rw[hp]at rel';exact rel'.elim
 |some p=>
  rw[hp]at rel'
  refine call_meetsIn PySem.F.slot_dict_pop dd.typeIs PySem.F.entry_dict_pop (PySem.F.args_dict_pop_2 _ _) (DH.meets_pop (knd:=tupleKind (mixKind X.prog X.w)) a b) ⟨tupleKind_room_in1 (by omega),k,xs,p,key_of I.hok eb,dd,hz,hp,fun h' dd' hs=> ?_⟩
  have he:∃q,h'.get? a=some q:=let⟨q,_,_,hq,_⟩:=dd';⟨q,hq⟩
  refine⟨y,_,d_write (ob:= .dT (dropK kvs k)) I (by rw[e];exact True.intro) hs he (dt_new (Nat.le_trans (dropK_le _ _) z) hd ((rel.drop k).keeps fun c ys ec=> ?_) dd'),rel',q⟩
  rw[zaf (ne_of ec e (fun z=>nomatch z))]
  exact ec
theorem mt_getT(hu:X.A.units+64<cLine):MtR X "dict.get" (fun x vs H Q=>∃(a:Addr) (y d:V) (o:Option V),x= .ref a/\vs=[y,d]/\DGet H a y o/\Q (o.getD d) H):=by
 intro pins s σ H x vs v us Q I rx rv h
 obtain⟨a,y,d,o,rfl,rfl,g,q⟩:=h
 cases rx
 obtain⟨u,r,rfl,ry,rd⟩:=rv.two
 rcases g with⟨kvs,k,e,ey,l⟩|⟨kvs,k,b,e,ey,eb,l⟩
 ·subst ey
  obtain⟨z,hd,vs,rel,dd⟩:=dk_rd I.hok e
  refine call_meetsIn PySem.F.slot_dict_get dd.typeIs PySem.F.entry_dict_get (PySem.F.args_dict_get_3 _ _ _) (meets_dict_get_default (mixKind X.prog X.w) a (kV_is ry) hd r) ⟨_,dd.mapOf,⟨_,H,I.tok _,?_,q⟩⟩
  rw[l]
  exact(rel.val k).getD rd
 ·subst ey
  cases(show u=Value.ref b from ry)
  obtain⟨z,hd,xs,rel,dd⟩:=dt_rd I.hok e
  refine call_meetsIn PySem.F.slot_dict_get dd.typeIs PySem.F.entry_dict_get (PySem.F.args_dict_get_3 _ _ _) (meetsH_dict_get_default (tupleKind (mixKind X.prog X.w)) a b hd r) ⟨tupleKind_room_in1 (by omega),k,xs,key_of I.hok eb,dd,⟨_,H,I.tok _,?_,q⟩⟩
  rw[l]
  exact(rel.val k).getD rd
end
end L2
namespace DH
open PySem PySem.W PyProof.Rows PySem.Calls
theorem list_no_keys:typeLookup (.type "list") "keys"=pure none:=by rw[typeLookup_type,builtinLookup_eq_fast];kernel_rfl
theorem entry_upd_loop:entryFor table "dict.update.loop"=some Builtin.«dict.update.loop»:=entryFor_of_tree (by kernel_rfl)
theorem zco:plainId "dict.update.loop"=true:=by decide+kernel
section
variable{prog:Program}{w:World}{A:Around}{E:Value->Shared->Prop}{s:Shared}
theorem no_keys{a:Addr}{o:Obj}{xs:Array Value}{k:Nat}{Q:Option Value->Shared->Prop}(hx:s.heap.get? a=some o)(hc:o.cls= .type "list")(hdat:o.data= .seq xs k)(hd:o.dict=none)(hA:A.handled=none)(h:∀h' tk,(∀b o,s.heap.get? b=some o->h'.get? b=some o)->Q none {s with heap:=h',toks:=tk}):wpAny (model prog w) A (getAttr? (.ref a) "keys") Q E s:=by
 obtain⟨c,dct,dat,sl⟩:=o
 simp only at hc hdat hd
 subst hc hdat hd
 obtain⟨hp,g,d,tk,os⟩:=s
 have hT:∀tk',(⟨hp,g,d,tk',os⟩:Shared).TypeIs (.ref a) "list":=fun _=>⟨_,hx,rfl⟩
 have f1:=sub_AttributeError
 have f3:=F.slot_list_getattribute.lookup
 have f4:=F.slot_list_getattribute.bind (.ref a)
 have f5:=am_list_getattr_none
 unfold getAttr? getAttrBy? getAttrBy
 repeat(any_goals(first |assumption|exact hT _|((with_reducible show wpAny _ _ (call (Value.builtin "list.__getattribute__") _ _) _ _ _);refine call_meets F.slot_list_getattribute (hT _) am_entry_list_getattribute (F.args_list_getattribute_2 _ _) (meets_getattribute_miss_list a xs k sl "keys" _ list_no_keys (by decide) (by size_fits)) ⟨hx,hA,fun h' tk' e hx'=> ?_⟩)|wp_step))
 obtain⟨t',u',he⟩:=hx'.there
 show wpAny _ _ (getattributeRaised _ _ _ _ _ _ _) _ _ _
 unfold getattributeRaised
 repeat(any_goals(first |assumption|wp_step))
 exact h _ _ hx'.keeps
variable{K:Type} [DecidableEq K]{k0:KeyKind prog w K}
noncomputable def PairsAt(k0:KeyKind prog w K)(h:Heap)(l:Addr)(ps:List (List K×Addr×Value)):Prop:=
 ∃items:Array Value,h.IsList l items/\items.size=ps.length/\∀(i:Nat) (p:List K×Addr×Value),ps[i]? =some p->∃(t:Addr) (o:Obj) (n:Nat),items[i]? =some (Value.ref t)/\h.get? t=some o/\o.cls= .type "tuple"/\o.data= .seq #[.ref p.2.1,p.2.2] n/\IsTupleKey k0 h p.1 p.2.1
theorem tkey_kp{h h':Heap}{k:List K}{b:Addr}(x:IsTupleKey k0 h k b)(kp:∀b o,h.get? b=some o->h'.get? b=some o):IsTupleKey k0 h' k b:=by
 obtain⟨o,items,n,h1,h2⟩:=x
 exact⟨o,items,n,kp _ _ h1,h2⟩
theorem upd_loop'{h0:Heap}{d it l:Addr}{ps:List (List K×Addr×Value)}{R:Result->Shared->Prop}{g:Array GenState}{dr:Drawn}{os:OsState}(hh:A.handled=none)(hu:A.units+1<cLine)(hP:PairsAt k0 h0 l ps)(hd0:h0.objs.size<=d)(hi0:h0.objs.size<=it)(hdi:d≠it)(hz:ps.length<sizeLine)(hn:(ps.map (·.1)).Nodup)(hR:∀h' tk,(∀b o,h0.get? b=some o->h'.get? b=some o)->h'.DictOfH (tupleKind k0) d ps->R (.ok (.ret .none)) ⟨h',g,dr,tk,os⟩):
  ∀(m i:Nat) (n:Int) (t:Tok) (hp:Heap) (tk:Nat),ps.length-i=m->i<=ps.length->(∀b o,h0.get? b=some o->hp.get? b=some o)->hp.IsListIter it l i->hp.DictOfH (tupleKind k0) d (ps.take i)->
   codeAny (model prog w) A (.builtin "dict.update.loop" ⟨[.ref d,.ref it,.int n t,.none],[]⟩) R ⟨hp,g,dr,tk,os⟩:=by
 obtain⟨items,hL,hsz,hI⟩:=hP
 have ned:∀b o,h0.get? b=some o->b≠d:=fun b o e=>Nat.ne_of_lt (Nat.lt_of_lt_of_le (Heap.lt_size e) hd0)
 have nei:∀b o,h0.get? b=some o->b≠it:=fun b o e=>Nat.ne_of_lt (Nat.lt_of_lt_of_le (Heap.lt_size e) hi0)
 -- the keys of the first i
 have key:∀i,∀x∈ps.take i,IsTupleKey k0 h0 x.1 x.2.1:=fun i x hx=>by
  obtain⟨j,hj⟩:=List.mem_iff_getElem?.mp (List.mem_of_mem_take hx)
  obtain⟨_,_,_,_,_,_,_,h⟩:=hI j x hj
  exact h
 have again:∀{hp h':Heap} {i:Nat},hp.DictOfH (tupleKind k0) d (ps.take i)->(∀b o,h0.get? b=some o->h'.get? b=some o)->(∀o,hp.get? d=some o->h'.get? d=some o)->h'.DictOfH (tupleKind k0) d (ps.take i):=fun{hp h' i} x kp kd=>by
  obtain⟨o,es,ep,ho,hc,hdt,he,his,hnn⟩:=x
  exact⟨o,es,ep,kd _ ho,hc,hdt,he,fun x hx=>tkey_kp (key i x hx) kp,hnn⟩
 intro m
 induction m with
 |zero=>
  intro i n t hp tk hm hi kp hit hD
  have e:i=ps.length:=by omega
  subst e
  refine codeAny_builtin entry_upd_loop ?_
  rw[Around.under_plainId zco _]
  show wpAny _ A.in1 (pyNext (.ref it)>>=_) _ _ _
  have hL':hp.IsList l items:=let⟨o,h1,h2⟩:=hL;⟨o,kp _ _ h1,h2⟩
  refine wpAny_bind (wpAny_pyNext_list_end (s:=⟨hp,g,dr,tk,os⟩) (by simpa using hh) hit hL' (by rw[Array.getElem?_eq_none];omega) fun h' eb=> ?_)
  show wpAny _ A.in1 (Builtin.Dict.addKeywords d []>>=_) _ _ _
  refine wpAny_bind (wpAny_pure (wpAny_pure ?_))
  have kp':∀b o,h0.get? b=some o->h'.get? b=some o:=fun b o e=>eb b o (nei b o e) (kp b o e)
  refine hR h' tk kp' ?_
  have:=again hD kp' fun o e=>eb d o hdi e
  rw[List.take_length]at this
  exact this
 |succ m ih=>
  intro i n t hp tk hm hi kp hit hD
  have hlt:i<ps.length:=by omega
  have ep:ps[i]? =some ps[i]:=List.getElem?_eq_getElem hlt
  obtain⟨tt,o,nn,e1,e2,e3,e4,e5⟩:=hI i ps[i] ep
  refine codeAny_builtin entry_upd_loop ?_
  rw[Around.under_plainId zco _]
  show wpAny _ A.in1 (pyNext (.ref it)>>=_) _ _ _
  have hL':hp.IsList l items:=let⟨o,h1,h2⟩:=hL;⟨o,kp _ _ h1,h2⟩
  refine wpAny_bind (wpAny_pyNext_list_item (s:=⟨hp,g,dr,tk,os⟩) hit hL' e1 fun h1 hit1 sb1=> ?_)
  have kp1:∀b o,h0.get? b=some o->h1.get? b=some o:=fun b o e=>(sb1.2 b (nei b o e)).trans (kp b o e)
  have hD1:=again hD kp1 fun o e=>(sb1.2 d hdi).trans e
  have ht1:=kp1 _ _ e2
  show wpAny _ A.in1 (holding [Value.ref tt] _>>=_) _ _ ⟨h1,g,dr,tk,os⟩
  refine wpAny_bind (wpAny_holding ?_)
  refine wpAny_bind (wpAny_tryCatch ?_)
  unfold Builtin.Dict.pairItems
  refine wpAny_bind (wpAny_typeOf (T:="tuple") (s:=⟨h1,g,dr,tk,os⟩) ⟨o,ht1,e3⟩ ?_)
  rw[if_pos (by decide)]
  refine wpAny_bind (wpAny_seqItems (s:=⟨h1,g,dr,tk,os⟩) ht1 e4 (wpAny_pure ?_))
  show wpAny _ A.in1 (holding [.ref ps[i].2.1,ps[i].2.2] (dictSet d (.ref ps[i].2.1) ps[i].2.2)) _ _ _
  have hnew:atKey (ps.take i) ps[i].1=none:=by
   refine atKey_none_of_get fun j p hj=> ?_
   have hj1:j<i:=by
    have:=(List.getElem?_eq_some_iff.mp hj).1
    rw[List.length_take]at this;omega
   rw[List.getElem?_take_of_lt hj1]at hj
   have:=idxH_unique hn hj (show ps[i]? =some (ps[i].1,ps[i].2)from ep)
   omega
  refine wpAny_holding (wpAny_dictSet_heap (knd:=tupleKind k0) (s:=⟨h1,g,dr,tk,os⟩) (tupleKind_room_in1 hu) (tkey_kp e5 kp1) hD1 (fun h2 hD2 sb2=> ?_) (by rw[List.length_take];omega))
  have kp2:∀b o,h0.get? b=some o->h2.get? b=some o:=fun b o e=>(sb2.2 b (ned b o e)).trans (kp1 b o e)
  rw[storedH_new hnew]at hD2
  have et:ps.take i++[(ps[i].1,ps[i].2.1,ps[i].2.2)]=ps.take (i+1):=by rw[List.take_add_one,ep];rfl
  rw[et]at hD2
  refine wpAny_pure ⟨plainId_quiet zco _,ih (i+1) _ _ h2 _ (by omega) hlt kp2 (hit1.at fun o e=>(sb2.2 it (Ne.symm hdi)).trans e) hD2⟩
theorem call_dict_pairs{l:Addr}{ps:List (List K×Addr×Value)}{Q:Value->Shared->Prop}(hh:A.handled=none)(hu:A.units+2<cLine)(hP:PairsAt k0 s.heap l ps)(hld:∃o,s.heap.get? l=some o/\o.dict=none)(hz:ps.length<sizeLine)(hn:(ps.map (·.1)).Nodup)(h:∀h' tk,(∀b o,s.heap.get? b=some o->h'.get? b=some o)->h'.DictOfH (tupleKind k0) s.heap.objs.size ps->Q (.ref s.heap.objs.size) {s with heap:=h',toks:=tk}):
  wpAny (model prog w) A (call (.type "dict") [.ref l]) Q E s:=by
 refine callType_codes (Q₁:=fun obj s₁=>obj= .ref s.heap.objs.size/\s₁={s with heap:=s.heap.push {cls:= .type "dict",data:= .dict #[]}}) F.kt_called_dict (F.kt_typeCall_dict_1 _) F.entry_dict_init (kt_code_dict_new _ ⟨rfl,rfl⟩) ?_
 rintro obj s₁ ⟨rfl,rfl⟩
 obtain⟨items,⟨o,ho,hc,n,hd⟩,hsz,hI⟩:=id hP
 obtain⟨o',ho',hod⟩:=hld
 rw[ho]at ho'
 cases ho'
 have hnew:(s.heap.push {cls:= .type "dict",data:= .dict #[]}).DictOfH (tupleKind k0) s.heap.objs.size []:=Heap.DictOfH.new s.heap
 have kp1:∀b o,s.heap.get? b=some o->(s.heap.push {cls:= .type "dict",data:= .dict #[]}).get? b=some o:=fun b o e=>Heap.get?_push_of_some _ e
 have hT:Shared.TypeIs {s with heap:=s.heap.push {cls:= .type "dict",data:= .dict #[]}} (.ref s.heap.objs.size) "dict":=hnew.typeIs
 have hTl:Shared.TypeIs {s with heap:=s.heap.push {cls:= .type "dict",data:= .dict #[]}} (.ref l) "list":=⟨o,kp1 _ _ ho,hc⟩
 have ho1:=kp1 _ _ ho
 refine⟨hT,F.args_dict_init_2 _ _,?_⟩
 unfold Builtin.«dict.__init__»
 refine wpAny_bind ?_
 unfold Builtin.Dict.selfAndRest
 refine wpAny_bind (wpAny_notOrdered_dict hT ?_)
 show wpAny _ _ (pure (s.heap.objs.size,[Value.ref l])) _ _ _
 refine wpAny_pure ?_
 show wpAny _ _ (Builtin.Dict.updateFrom "dict.__init__" s.heap.objs.size (.ref l) [] .none) _ _ _
 unfold Builtin.Dict.updateFrom
 refine wpAny_bind (wpAny_typeOf hTl ?_)
 rw[if_pos (by decide)]
 obtain⟨D0,hD0⟩:∃ob,(s.heap.push {cls:= .type "dict",data:= .dict #[]}).get? s.heap.objs.size=some ob:=⟨_,Heap.get?_push_size _ rfl⟩
 obtain⟨oD,esD,epD,hoD,hcD,hdD,heD,hisD,hnD⟩:=id hnew
 generalize hH:s.heap.push {cls:= .type "dict",data:= .dict #[]}=H1 at *
 refine wpAny_bind (no_keys (s:={s with heap:=H1}) ho1 hc hd hod (by simpa using hh) fun h2 tk2 kp2=> ?_)
 show wpAny _ _ (rule _>>=_) _ _ _
 refine wpAny_bind (wpAny_rule ?_)
 have hL2:h2.IsList l items:=⟨o,kp2 _ _ ho1,hc,n,hd⟩
 refine wpAny_bind (wpAny_pyIter_list (s:={s with heap:=h2,toks:=tk2}) hL2 ?_)
 have kp3:∀b o,s.heap.get? b=some o->(h2.push {cls:= .type "list_iterator",data:= .fields #[.ref l,.int 0 0]}).get? b=some o:=fun b o e=>Heap.get?_push_of_some _ (kp2 _ _ (kp1 _ _ e))
 have ld:s.heap.objs.size<h2.objs.size:=Heap.lt_size (kp2 _ _ hoD)
 refine wpAny_pure ⟨plainId_quiet zco _,?_⟩
 refine upd_loop' (k0:=k0) (h0:=s.heap) (l:=l) (ps:=ps) (by simpa using hh) (show A.units+1+1<cLine by omega) hP (Nat.le_refl _) (Nat.le_of_lt ld) (Nat.ne_of_lt ld) hz hn (fun h' tk kp hD=> ?_) ps.length 0 _ _ _ _ (by omega) (Nat.zero_le _) kp3 ⟨_,Heap.get?_push_size _ rfl,rfl,rfl⟩ ?_
 ·exact⟨rfl,h h' tk kp hD⟩
 ·refine⟨oD,esD,epD,Heap.get?_push_of_some _ (kp2 _ _ hoD),hcD,hdD,heD,fun x hx=>(nomatch hx),hnD⟩
end
end DH
namespace DH
open PySem PySem.W PyProof.Rows PySem.Calls
section
variable{prog:Program}{w:World}{K:Type} [DecidableEq K]{knd:HeapKind prog w K}{A:Around}{E:Value->Shared->Prop}{s:Shared}
theorem same_heap{nm:String}{a b:Addr}{xa xb:List (K×Addr×Value)}{Q:Bool->Shared->Prop}(ha:(a==sysModules)=false)(hb:(b==sysModules)=false)(hu:knd.room A)(da:s.heap.DictOfH knd a xa)(db:s.heap.DictOfH knd b xb)(hl:xa.length=xb.length)(hits:∀(j:Nat) k p,xa[j]? =some (k,p)->∃q,atKey xb k=some q/\SeqAt.EqAt A s p.2 q.2 true)(h:Q true s):
  wpAny (model prog w) A (Builtin.Dict.samePairs nm a b) Q E s:=by
 obtain⟨oa,es,ep,hoa,_,hda,hea,hia,hna⟩:=da
 obtain⟨ob,es',ep',hob,_,hdb,heb,hib,hnb⟩:=db
 have hla:es.size=xa.length:=size_of_entries hea
 have hlb:es'.size=xb.length:=size_of_entries heb
 unfold Builtin.Dict.samePairs Builtin.Dict.showsAll
 rw[if_neg (show¬(a==sysModules)=true by rw[ha];exact Bool.false_ne_true),if_neg (show¬(b==sysModules)=true by rw[hb];exact Bool.false_ne_true)]
 refine wpAny_bind (wpAny_pure (wpAny_bind (wpAny_pure ?_)))
 refine wpAny_bind (wpAny_dictEntries hoa hda ?_)
 dsimp only
 refine wpAny_bind (wpAny_dictEntries hob hdb ?_)
 rw[if_neg (by rw[hla,hlb,hl];simp)]
 refine wpAny_bind (wpAny_dictEpoch hoa hda ?_)
 refine wpAny_bind ?_
 rw[Std.Legacy.Range.forIn_eq_forIn_range']
 simp only[Std.Legacy.Range.size,Nat.sub_zero,Nat.add_sub_cancel,Nat.div_one]
 refine wpAny_forIn_list _
  (fun rest q s'=>s'=s/\q=(none,())/\∃i,rest=List.range' i (es.size-i)/\i<=es.size)
  _ ?_ ?_ _ _ ⟨rfl,rfl,0,by simp,Nat.zero_le _⟩
 ·rintro x rest q s' ⟨rfl,rfl,i,hr,hi⟩
  have hlt:i<es.size:=by
   rcases Nat.lt_or_ge i es.size with h|h
   ·exact h
   ·rw[Nat.sub_eq_zero_of_le h]at hr;simp at hr
  obtain⟨rfl,hrest⟩:x=i/\rest=List.range' (i+1) (es.size-(i+1)):=by
   have e:es.size-i=(es.size-(i+1))+1:=by omega
   rw[e,List.range'_succ]at hr
   injection hr with h1 h2
   exact⟨h1,h2⟩
  refine wpAny_bind (wpAny_dictEntries hoa hda ?_)
  have hlt':x<xa.length:=by rw[<-hla];exact hlt
  have ex:xa[x]? =some xa[x]:=List.getElem?_eq_getElem hlt'
  rw[entry_at hea x,ex]
  obtain⟨q,hq,hE⟩:=hits x xa[x].1 xa[x].2 ex
  show wpAny _ _ (holding [Value.ref xa[x].2.1,xa[x].2.2] _>>=_) _ _ _
  refine wpAny_bind (wpAny_holding (wpAny_bind (wpAny_dictFind_heap hu (hia _ (List.getElem_mem hlt')) hob hdb heb hib hnb (fun hno=> ?_) (fun j p hj=> ?_))))
  ·rw[atKey_none_of_get hno]at hq;cases hq
  ·have:=atKey_of_get hnb hj
   rw[hq]at this
   cases this
   refine wpAny_bind (wpAny_dictEntries hob hdb ?_)
   rw[entry_at heb j,hj]
   refine wpAny_holding (hE prog w _ _ ?_)
   show wpAny _ _ (if(!true)=true then _ else _) _ _ _
   rw[if_neg (by decide)]
   refine wpAny_bind (wpAny_dictEpoch hoa hda ?_)
   rw[if_neg (by simp)]
   exact wpAny_pure ⟨rfl,rfl,x+1,hrest,hlt⟩
 ·rintro q s' ⟨rfl,rfl,i,hr,hi⟩
  exact wpAny_pure h
theorem ne_heap{a b:Addr}{xa xb:List (K×Addr×Value)}{Q:Value->Shared->Prop}(ha:(a==sysModules)=false)(hb:(b==sysModules)=false)(hr:knd.room A.in1)(hu:A.units<cLine)(da:s.heap.DictOfH knd a xa)(db:s.heap.DictOfH knd b xb)(hl:xa.length=xb.length)(hits:∀(j:Nat) k p,xa[j]? =some (k,p)->∃q,atKey xb k=some q/\SeqAt.EqAt A.in1 s p.2 q.2 true)(h:Q (.bool false) s):
  wpAny (model prog w) A (compareOp .NotEq (.ref a) (.ref b)) Q E s:=by
 refine wpAny_richCompare_same_room (op:= .NotEq) da.typeIs db.typeIs PySem.F.slot_dict_ne (wpAny_call_entry PySem.F.slot_dict_ne da.typeIs PySem.F.entry_dict_ne ?_ (PySem.F.args_dict_ne_2 _ _)) hu
 show wpAny _ _ (Builtin.Dict.dictSlotArgs "__ne__" ⟨[.ref a,.ref b],[]⟩>>=_) _ _ s
 refine wpAny_bind ?_
 unfold Builtin.Dict.dictSlotArgs
 refine wpAny_bind (wpAny_notOrdered_dict da.typeIs ?_)
 show wpAny _ _ (pure (Value.ref a,Value.ref b)) _ _ s
 refine wpAny_pure ?_
 refine wpAny_bind (wpAny_isInstance (T:="dict") db.typeIs PySem.F.sub_dict_dict ?_)
 simp only[Bool.not_true,Bool.false_eq_true,if_false]
 refine wpAny_bind (wpAny_pure (wpAny_bind (wpAny_pure ?_)))
 refine wpAny_bind (same_heap ha hb hr da db hl hits ?_)
 refine wpAny_pure ⟨_,rfl,?_,?_⟩
 ·exact fun x=>nomatch x
 ·simpa using h
end
end DH
namespace L2
open PySem PySem.Spec PyProof.Rows
section
variable{X:Cx}
theorem KT.atIdx{H:Hp}{kvs:List (List Key×V)}{xs:List (List Key×Addr×Value)}(r:KT H kvs xs):∀{j:Nat} {x},xs[j]? =some x->∃kv,kvs[j]? =some kv/\kv.1=x.1/\RelV kv.2 x.2.2:=by
 induction r with
 |nil=>intro j x h;simp at h
 | @cons p q ps qs h t ih=>
  intro j x hx
  cases j with
  |zero=>
   simp only[List.getElem?_cons_zero,Option.some.injEq]at hx
   subst hx
   exact⟨p,rfl,h.1,h.2.2⟩
  |succ j=>
   rw[List.getElem?_cons_succ]at hx
   obtain⟨kv,h1,h2⟩:=ih hx
   exact⟨kv,by rw[List.getElem?_cons_succ];exact h1,h2⟩
theorem op_neT(hu:X.A.units+64<cLine):OpR X (compareOp .NotEq) (fun x y H Q=>∃(a b:Addr) (kvs:List (List Key×V)),x= .ref a/\y= .ref b/\Rd H a (.dT kvs)/\Rd H b (.dT kvs)/\(∀kv∈kvs,∃i:Int,kv.2= .int i)/\Q (.bl false) H):=by
 intro pins s σ H x y v u Q I rx ry h
 obtain⟨a,b,kvs,rfl,rfl,ea,eb,hv,q⟩:=h
 cases rx
 cases ry
 obtain⟨za,ha,xa,ra,da⟩:=dt_rd I.hok ea
 obtain⟨zb,hb,xb,rb,db⟩:=dt_rd I.hok eb
 have hna:(xa.map (·.1)).Nodup:=let⟨_,_,_,_,_,_,_,_,hn⟩:=da;hn
 refine DH.ne_heap (knd:=tupleKind (mixKind X.prog X.w)) ha hb (tupleKind_room_in1 (by omega)) (by omega) da db (by rw[<-Paired.length ra,<-Paired.length rb]) (fun j k p hj=> ?_) ⟨.bl false,H,I,rfl,q⟩
 obtain⟨kv,h1,h2,h3⟩:=ra.atIdx hj
 obtain⟨i,hi⟩:=hv kv (List.mem_of_getElem? h1)
 have e1:=ra.val k
 have e2:=rb.val k
 rw[atKey_of_get hna hj]at e1
 cases hv:valV kvs k with
 |none=>rw[hv]at e1;exact e1.elim
 |some y=>
  rw[hv]at e1 e2
  cases hq:atKey xb k with
  |none=>rw[hq]at e2;exact e2.elim
  |some q'=>
   rw[hq]at e2
   have e1':RelV y p.2:=e1
   have e2':RelV y q'.2:=e2
   rw[hi]at h3
   obtain⟨t,ht⟩:∃t,p.2=Value.int i t:=h3
   have hy:y= .int i:=by
    rw[ht]at e1'
    cases y with
    |int j=>obtain⟨t',z⟩:∃t',Value.int i t=Value.int j t':=e1';cases z;rfl
    |_=>first |(obtain⟨t',z⟩:=e1';cases z;done)|(cases e1';done)
   subst hy
   obtain⟨t',ht'⟩:∃t,q'.2=Value.int i t:=e2'
   refine⟨q',rfl,?_⟩
   rw[ht,ht']
   have:=SeqAt.EqAt.int_int (A:=X.A.in1) (s:=s) i t i t'
   rw[beq_self_eq_true]at this
   exact this
theorem paired_append{α β:Type}{R:α->β->Prop}{a c:List α}{b d:List β}(h:Paired R a b)(g:Paired R c d):Paired R (a++c) (b++d):=by
 induction h with
 |nil=>exact g
 |cons r t ih=>exact .cons r ih
theorem call_dictP(hc:X.calm=true)(hu:X.A.units+64<cLine):CallR X (.type "dict") (fun xs H Q=>∃(l:Addr) (ts:List Addr) (kvs:List (List Key×V)) (bs:List Addr),xs=[.ref l]/\H l=some (.lst (ts.map V.ref))/\ts.length=kvs.length/\bs.length=kvs.length/\kvs.length<sizeLine/\(kvs.map (·.1)).Nodup/\
  (∀(i:Nat) kv,kvs[i]? =some kv->∃t b,ts[i]? =some t/\bs[i]? =some b/\H t=some (.tup [.ref b,kv.2])/\H b=some (.tup (kv.1.map kV)))/\∀p,H p=none->Q (.ref p) (upd H p (.dT kvs))):=by
 intro pins s σ H xs us Q I r h
 obtain⟨l,ts,kvs,bs,rfl,hl,l1,l2,hz,hn,hI,q⟩:=h
 obtain⟨u,rfl,ru⟩:=r.one
 cases ru
 obtain⟨vs,rv,pl,_⟩:=I.list (SqL.of (K:=X.K) hl)
 have hlen:=rv.length
 rw[List.length_map]at hlen
 -- the pairs of the heap
 have main:∃ps:List (List Key×Addr×Value),KT H kvs ps/\∀(i:Nat) (p:List Key×Addr×Value),ps[i]? =some p->∃(t:Addr) (o:Obj) (n:Nat),vs[i]? =some (Value.ref t)/\s.heap.get? t=some o/\o.cls= .type "tuple"/\o.data= .seq #[.ref p.2.1,p.2.2] n:=by
  have go:∀(m:Nat),m<=kvs.length->∃ps:List (List Key×Addr×Value),KT H (kvs.take m) ps/\∀(i:Nat) (p:List Key×Addr×Value),ps[i]? =some p->∃(t:Addr) (o:Obj) (n:Nat),vs[i]? =some (Value.ref t)/\s.heap.get? t=some o/\o.cls= .type "tuple"/\o.data= .seq #[.ref p.2.1,p.2.2] n:=by
   intro m
   induction m with
   |zero=>intro _;exact⟨[],.nil,fun i p h=>by simp at h⟩
   |succ m ih=>
    intro hm
    obtain⟨ps,h1,h2⟩:=ih (by omega)
    have ek:kvs[m]? =some kvs[m]:=List.getElem?_eq_getElem (by omega)
    obtain⟨t,b,t1,t2,t3,t4⟩:=hI m kvs[m] ek
    obtain⟨its,r',tp,_⟩:=I.tuple (SqT.of (K:=X.K) t3)
    obtain⟨x,y,rfl,rx,ry⟩:=r'.two
    have rx':x=Value.ref b:=rx
    subst rx'
    obtain⟨o,ho,hcl,n,hd⟩:=tp
    obtain⟨u,hu1,hu2⟩:=rv.get (show(ts.map V.ref)[m]? =some (.ref t) by rw[List.getElem?_map,t1];rfl)
    have hu3:u=Value.ref t:=hu2
    subst hu3
    have pl1:ps.length=m:=by rw[<-Paired.length h1,List.length_take];omega
    refine⟨ps++[(kvs[m].1,b,y)],?_,fun i p hp=> ?_⟩
    ·have e:kvs.take (m+1)=kvs.take m++[kvs[m]]:=by rw[List.take_add_one,ek];rfl
     rw[e]
     exact paired_append h1 (.cons ⟨rfl,t4,ry⟩ .nil)
    ·by_cases c:i<m
     ·rw[List.getElem?_append_left (by omega)]at hp
      exact h2 i p hp
     ·have ei:i=m:=by
       have:=(List.getElem?_eq_some_iff.mp hp).1
       rw[List.length_append,pl1]at this
       simp only[List.length_singleton]at this
       omega
      subst ei
      rw[List.getElem?_append_right (by omega),pl1,Nat.sub_self]at hp
      cases hp
      exact⟨t,o,n,hu1,ho,hcl,hd⟩
  have:=go kvs.length (Nat.le_refl _)
  rw[List.take_length]at this
  exact this
 obtain⟨ps,h1,h2⟩:=main
 have pl1:ps.length=kvs.length:=(Paired.length h1).symm
 have ek:kvs.map (·.1)=ps.map (·.1):=by
  clear h2 pl1 hI hn hz l1 l2 q
  induction h1 with
  |nil=>rfl
  |cons r t ih=>rw[List.map_cons,List.map_cons,ih,r.1]
 have keys:∀p∈ps,H p.2.1=some (.tup (p.1.map kV)):=by
  clear h2 pl1 hI hn hz l1 l2 q ek
  induction h1 with
  |nil=>intro p hp;cases hp
  |cons r t ih=>
   intro p hp
   rcases List.mem_cons.mp hp with e|e
   ·rw[e,<-r.1];exact r.2.1
   ·exact ih p e
 obtain⟨ol,hol,hcl,nl,hdl⟩:=pl.isList
 have hod:ol.dict=none:=by
  obtain⟨_,_,_,_,hx⟩:=I.hok l _ hl
  rw[hol]at hx
  cases hx;rfl
 have fr:H s.heap.objs.size=none:=I.hok.fresh (Nat.le_refl _)
 refine DH.call_dict_pairs (k0:=mixKind X.prog X.w) (ps:=ps) (I.ok.hd hc) (by omega) ⟨vs.toArray,⟨ol,hol,hcl,nl,hdl⟩,by simp;omega,fun i p hp=> ?_⟩ ⟨ol,hol,hod⟩ (by omega) (by rw[<-ek];exact hn) fun h' tk kp hD=> ?_
 ·obtain⟨t,o,n,z1,z2,z3,z4⟩:=h2 i p hp
  exact⟨t,o,n,by simpa using z1,z2,z3,z4,key_of I.hok (keys p (List.mem_of_getElem? hp))⟩
 ·refine⟨.ref s.heap.objs.size,_,I.laid (a:=s.heap.objs.size) (o:= .dT kvs) (t':=tk) kp (Nat.le_refl _) (dt_new (Nat.le_of_lt hz) (beq_eq_false_iff_ne.mpr (Ne.symm (Nat.ne_of_lt I.big))) (h1.keeps fun c zs ec=> ?_) hD),rfl,q _ fr⟩
  rw[zaf (zai ec fr)];exact ec
end
end L2
namespace L2
open PySem PySem.Spec PyProof.Rows
section
variable{X:Cx}
noncomputable def thawE(d:Addr)(kvs:List (List Key×V))(D:Ends):Ends:=
 ⟨fun σ H=>∃o,H d=some (.frz o (.dT kvs))/\D.nx σ (upd H d (.dT kvs)),fun v H=>∃o,H d=some (.frz o (.dT kvs))/\D.rt v (upd H d (.dT kvs)),
  fun σ H=>∃o,H d=some (.frz o (.dT kvs))/\D.bk σ (upd H d (.dT kvs)),fun σ H=>∃o,H d=some (.frz o (.dT kvs))/\D.ct σ (upd H d (.dT kvs))⟩
noncomputable def sThaw(t:TS):TS:=fun D σ H=>∃d kvs,H d=some (.dT kvs)/\t (thawE d kvs D) σ H
theorem ps_thaw{st:Stmt}{t:TS}(h:PS X st t):PS X st (sThaw t):=by
 intro pins s σ H D I q
 obtain⟨d,kvs,hd,q⟩:=q
 refine thn (h pins s σ H _ I q) fun f s1 q1=> ?_
 cases f with
 |next=>obtain⟨σ1,H1,I1,o,e1,z⟩:=q1;exact⟨σ1,_,I.thaw hd I1 e1,z⟩
 |cont=>obtain⟨σ1,H1,I1,o,e1,z⟩:=q1;exact⟨σ1,_,I.thaw hd I1 e1,z⟩
 |brk=>obtain⟨σ1,H1,I1,o,e1,z⟩:=q1;exact⟨σ1,_,I.thaw hd I1 e1,z⟩
 |ret v=>obtain⟨x,σ1,H1,I1,r1,o,e1,z⟩:=q1;exact⟨x,σ1,_,I.thaw hd I1 e1,r1,z⟩
noncomputable def Itk(d:Addr)(o:Obj)(kvs:List (List Key×V)):It:=
 ⟨fun i H=>i<kvs.length/\H d=some (.frz o (.dT kvs)),fun i H x H'=>H'=H/\∃b k v,kvs[i]? =some (k,v)/\x= .ref b/\H b=some (.tup (k.map kV)),fun i H=>i=kvs.length/\H d=some (.frz o (.dT kvs))⟩
theorem turn_keys{P:Program}{w:World}{K:W.Frag}{tg:Expr}(it:Addr)(d:Addr)(o:Obj)(kvs:List (List Key×V))(es:Array DictEntry)(ep:Nat)(hod:o.data= .dict es ep)(hx:o.ExactDict)(hsz:es.size=kvs.length):
  Turn P w K tg (Itk d o kvs) [it] it (fun i h=>h.IsKeyIter it d i es.size ep) where
 mem:=by simp
 obj:=fun i h st b hb=>by
  have z:b=it:=by simpa using hb
  subst z
  obtain⟨o,e,c,d⟩:=st
  exact⟨o,e,fun v z=>by rw[d]at z;cases z⟩
 keep:=fun i h h' st k=>st.at fun o e=>k it (by simp) o e
 item:=by
  intro X hP hw hK hc i pins s σ H E I hf st hg
  subst hP hw hK
  obtain⟨hi,hd⟩:=hg
  obtain⟨ho,z,y,xs,r,o',es',ep',ho',hx',hd',hes,hn⟩:=I.hok d _ hd
  rw[ho]at ho'
  cases ho'
  rw[hod]at hd'
  cases hd'
  obtain⟨f0,f1,f2,f3,f4,f5⟩:=hf it (by simp)
  obtain⟨p,hp⟩:∃p,kvs[i]? =some p:=⟨kvs[i],by simp[hi]⟩
  obtain⟨q,hq,e1,e2,e3⟩:=paired_at r hp
  have hei:es[i]? =some (entryOfKey (tupleKind (mixKind X.prog X.w)) q):=by
   rw[<-Array.getElem?_toList,hes,List.getElem?_map,hq];rfl
  refine DH.next_es st ⟨o,ho,hx,hod⟩ hei fun h' st' sb=>⟨_,rfl,?_⟩
  have I1:Inv X pins σ H {s with heap:=h'}:=I.turned (t':=s.toks) (fun b o hb e=>(sb.2 b hb).trans e) f0 f1 f3 f4 f5
  obtain⟨oi,ei,ci,di⟩:=id st'
  refine go_of (s:={s with heap:=h'}) ei ci di (by decide) ⟨.ref q.2.1,H,I1,rfl,⟨rfl,_,_,_,hp,rfl,e2⟩,st',fun b hb=>(hf b hb).1⟩
 done:=by
  intro X hP hw hK hc i pins s σ H E I hf st hg
  subst hP hw hK
  obtain⟨hi,hd⟩:=hg
  obtain⟨ho,_⟩:=I.hok d _ hd
  obtain⟨f0,f1,f2,f3,f4,f5⟩:=hf it (by simp)
  exact DH.end_es (I.ok.hd hc) st ⟨o,ho,hx,hod⟩ (by omega) fun h' eb=>⟨rfl,I.turned (t':=s.toks) (fun b o hb e=>eb b o hb e) f0 f1 f3 f4 f5⟩
 self:=fun A i s Q E st h=>wpAny_pyIter_keyiter st h
noncomputable def iKeys(to:TE):TI:=fun σ H R=>to σ H fun x H1=>∃d kvs,x= .ref d/\H1 d=some (.dT kvs)/\(kvs.length<=sizeLine->∀o,R (Itk d o kvs) (upd H1 d (.frz o (.dT kvs))))
theorem pi_keys{tg e:Expr}{to:TE}(ho:PE X e to):PI X tg e (iKeys to):=by
 intro pins s σ H R I h
 refine thn (ho pins s σ H _ I h) fun v s1 ⟨x,H1,I1,r1,d,kvs,ex,hd,q⟩=> ?_
 subst ex
 obtain rfl:v=Value.ref d:=r1
 obtain⟨z,y,xs,r,o,es,ep,ho',hx',hd',hes,hn⟩:=I1.hok d _ hd
 have hsz:es.size=kvs.length:=by rw[<-Array.length_toList,hes,List.length_map,<-Paired.length r]
 have hE:DH.EsAt s1.heap d es ep:=⟨o,ho',hx',hd'⟩
 refine DH.iter_es y hE ?_
 have kp:∀b o,s1.heap.get? b=some o->(s1.heap.push {cls:= .type "dict_keyiterator",data:= .fields #[.ref d,.int 0 0,.int es.size 0,.int ep 0]}).get? b=some o:=fun b o e=>Heap.get?_push_of_some _ e
 have I2:Inv X pins σ H1 {s1 with heap:=s1.heap.push {cls:= .type "dict_keyiterator",data:= .fields #[.ref d,.int 0 0,.int es.size 0,.int ep 0]},toks:=s1.toks}:=I1.kept kp
 have I3:=I2.freeze hd (kp _ _ ho')
 have nd:d≠s1.heap.objs.size:=Nat.ne_of_lt (Heap.lt_size ho')
 refine⟨s1.heap.objs.size,[s1.heap.objs.size],_,_,_,rfl,I3,turn_keys s1.heap.objs.size d o kvs es ep hd' hx' hsz,⟨_,Heap.get?_push_size _ rfl,rfl,rfl⟩,fun b hb=> ?_,q z o⟩
 have zb:b=s1.heap.objs.size:=by simpa using hb
 subst zb
 refine I1.fpOk (Nat.le_refl _) ?_
 rw[zaf (Ne.symm nd)]
 exact I1.hok.fresh (Nat.le_refl _)
end
section
variable{d:Addr}{o:Obj}{kvs:List (List Key×V)}{g:TG}{tc:TT}{te:TE}{Fin:List V->Hp->Prop}{ini:St}{H:Hp}
theorem comp_keys(Pv:Nat->List V->St->Hp->Prop)(h0:Pv 0 [] ini H)(hl:∀(i:Nat) acc σ H,i<=kvs.length->Pv i acc σ H->H d=some (.frz o (.dT kvs)))(hz:∀(i:Nat) acc σ H,i<=kvs.length->Pv i acc σ H->acc.length<=i)(hx:kvs.length<=sizeLine)(hs:∀(i:Nat) b k v acc σ H,kvs[i]? =some (k,v)->Pv i acc σ H->H b=some (.tup (k.map kV))->g (.ref b) σ H fun σ2 H2=>tc σ2 H2 fun b H3=>if b=true then te σ2 H3 fun v H4=>Pv (i+1) (acc++[v]) σ2 H4 else Pv (i+1) acc σ2 H3)(hd:∀acc σ H,Pv kvs.length acc σ H->Fin acc H):CompW (Itk d o kvs) ini H g tc te Fin:=by
 refine⟨fun i m acc σ H=>m=kvs.length-i/\i<=kvs.length/\Pv i acc σ H,⟨kvs.length,by simp,Nat.zero_le _,h0⟩,?_⟩
 rintro i m acc σ H ⟨rfl,hi,p⟩
 have q:=hl i acc σ H hi p
 have z:=hz i acc σ H hi p
 by_cases hlt:i<kvs.length
 ·refine .inr ⟨⟨hlt,q⟩,by omega,fun acc σ H=>Pv (i+1) acc σ H,fun acc' σ' H' r=>⟨_,by omega,rfl,hlt,r⟩,fun x H' y=> ?_⟩
  obtain⟨rfl,b,k,v,hv,rfl,hb⟩:=y
  exact hs i b k v acc σ _ hv p hb
 ·have e:i=kvs.length:=by omega
  subst e
  exact .inl ⟨⟨rfl,q⟩,by omega,hd acc σ H p⟩
theorem for_keys{tb:TS}{D:Ends}{σ:St}(Pv:Nat->St->Hp->Prop)(h0:Pv 0 σ H)(hl:∀i σ H,i<=kvs.length->Pv i σ H->H d=some (.frz o (.dT kvs)))(hs:∀(i:Nat) b k v σ H,kvs[i]? =some (k,v)->Pv i σ H->H b=some (.tup (k.map kV))->g (.ref b) σ H fun σ2 H2=>tb {D with nx:=Pv (i+1),ct:=Pv (i+1),bk:=D.nx} σ2 H2)(hd:∀σ H,Pv kvs.length σ H->D.nx σ H):
  ∃W:Nat->Nat->St->Hp->Prop,(∃m,W 0 m σ H)/\∀i m σ H,W i m σ H->
   ((Itk d o kvs).stop i H/\D.nx σ H)\/((Itk d o kvs).go i H/\∃N:St->Hp->Prop,(∀σ' H',N σ' H'->∃m',m'<m/\W (i+1) m' σ' H')/\∀x H',(Itk d o kvs).yld i H x H'->g x σ H' fun σ2 H2=>tb {D with nx:=N,ct:=N,bk:=D.nx} σ2 H2):=by
 refine⟨fun i m σ H=>m=kvs.length-i/\i<=kvs.length/\Pv i σ H,⟨kvs.length,by simp,Nat.zero_le _,h0⟩,?_⟩
 rintro i m σ H ⟨rfl,hi,p⟩
 have q:=hl i σ H hi p
 by_cases hlt:i<kvs.length
 ·refine .inr ⟨⟨hlt,q⟩,Pv (i+1),fun σ' H' p'=>⟨kvs.length-(i+1),by omega,rfl,hlt,p'⟩,fun x H' y=> ?_⟩
  obtain⟨rfl,b,k,v,hv,rfl,hb⟩:=y
  exact hs i b k v σ _ hv p hb
 ·have e:i=kvs.length:=by omega
  subst e
  exact .inl ⟨⟨rfl,q⟩,hd σ H p⟩
end
section
variable{X:Cx}
theorem call_sortedS(hu:X.A.units+64<cLine):CallR X (.builtin "sorted") (fun xs H Q=>∃(a:Addr) (its:List (Addr×List Int)),xs=[.ref a]/\SqL X.K H a (its.map fun p=>V.ref p.1)/\(∀p∈its,SqT X.K H p.1 (p.2.map V.int))/\its.length<64/\
  ∀(l:Addr) (its':List (Addr×List Int)),H l=none->its'.Perm its->its'.Pairwise (fun p q=>HT.lexLt q.2 p.2=false)->Q (.ref l) (upd H l (.lst (its'.map fun p=>V.ref p.1)))):=by
 intro pins s σ H xs us Q I r h
 obtain⟨a,its,rfl,hS,hT,h64,q⟩:=h
 obtain⟨u,rfl,ru⟩:=r.one
 cases ru
 obtain⟨vs,rv,pl,hz⟩:=I.list hS
 have hvs:vs=DH.RefsOf its:=by
  have go:∀(l:List (Addr×List Int)) (us:List Value),Vals (l.map fun p=>V.ref p.1) us->us=DH.RefsOf l:=by
   intro l
   induction l with
   |nil=>intro us h;cases h;rfl
   |cons p l ih=>
    intro us h
    cases h with
    |cons r t=>
     rw[ih _ t]
     have r':_=Value.ref p.1:=r
     rw[r'];rfl
  exact go its vs rv
 subst hvs
 have hlen:(DH.RefsOf its).length=its.length:=List.length_map _
 have tup:DH.TupsAt s.heap its:=fun p hp=>by
  obtain⟨its',r',t',_⟩:=I.tuple (hT p hp)
  exact⟨its',intsAre_of r',t'⟩
 refine Srt.sorted_own (O:=Srt.lexOrd) (key:=fun i=>(its.getD i (0,[])).2) (κ:=DH.kindT its) (s:=s) pl.isList (by omega) (fun h2 h' k E' Q' hq=> ?_) (fun h2 h' k=> ?_) (fun D h' out c ho hD k hc=> ?_)
 ·exact DH.kind_tups (s:={s with heap:=h'}) (tup.keep fun b o e=>k b o e) (by omega) hq
 ·intro i j C hi hj hC
  rw[hlen]at hi hj
  unfold PySem.W.kas_ask
  rw[DH.refs_at hi,DH.refs_at hj]
  refine DH.lt_kind (s:={s with heap:=h'}) (List.getElem_mem hi) (List.getElem_mem hj) (tup.keep fun b o e=>k b o e) (show X.A.units+1+1<cLine by omega) ?_
  rw[HT.lexLt_iff]
  have e1:its.getD i (0,[])=its[i]:=by simp[hi]
  have e2:its.getD j (0,[])=its[j]:=by simp[hj]
  have hC':C (decide ((its.getD i (0,[])).2<(its.getD j (0,[])).2)) _:=hC
  rw[e1,e2]at hC'
  exact hC'
 ·obtain⟨its',hp,hr,hw⟩:=Srt.outs_of (d:=((0,[]):Addr×List Int)) (f:=fun p=>p.2) (DH.refs_paired its) (fun i hi=>by show(its.getD i (0,[])).2=_;simp[hi]) ho
  have hn:H D=none:=I.hok.fresh hD
  have rv':Vals (its'.map fun p=>V.ref p.1) out:=by
   have go:∀(l:List (Addr×List Int)) (us:List Value),Paired (fun(p:Addr×List Int) (v:Value)=>v= .ref p.1) l us->Vals (l.map fun p=>V.ref p.1) us:=by
    intro l us h
    induction h with
    |nil=>exact .nil
    |cons r t ih=>exact .cons r ih
   exact go its' out hr
  have zl:(its'.map fun p=>V.ref p.1).length<=sizeLine:=by
   have:=hp.length_eq
   rw[List.length_map,sizeLine_eq];omega
  have J:Inv X pins σ (upd H D (.lst (its'.map fun p=>V.ref p.1))) {s with heap:=h',toks:=s.toks}:=I.laid k hD ⟨zl,out,c,rv',hc⟩
  refine⟨.ref D,_,J,rfl,q D its' hn hp (hw.imp fun{x y} hxy=> ?_)⟩
  rw[HT.lexLt_iff];exact hxy
end
end L2
namespace Hs
open PySem L2 HsD
noncomputable def top(i:Nat):Stmt:=PySem.Challenge.pw_hueshare_k23_hues_and_floors_looked_at.main.body.getD i (.Pass ⟨0,0,0,0⟩)
noncomputable abbrev zbj:Stmt:=top 5
noncomputable abbrev zcc:Stmt:=top 6
noncomputable abbrev zbl:Stmt:=top 7
noncomputable abbrev zbo:Stmt:=top 8
noncomputable abbrev zcu:Stmt:=top 9
noncomputable abbrev zcd:Stmt:=top 10
noncomputable abbrev zde:Stmt:=top 11
noncomputable abbrev zbs:Stmt:=top 12
noncomputable abbrev zbt:Stmt:=top 13
noncomputable abbrev zca:Stmt:=top 14
noncomputable abbrev zcp:Stmt:=top 15
noncomputable abbrev zau:Stmt:=top 17
noncomputable abbrev zaz:Stmt:=top 18
noncomputable abbrev zar:Stmt:=top 19
noncomputable abbrev zat:Stmt:=top 20
noncomputable abbrev zbp:Stmt:=top 21
noncomputable abbrev zas:Stmt:=top 22
noncomputable abbrev zdf:Stmt:=top 23
noncomputable abbrev zce:Stmt:=top 24
noncomputable abbrev zay:Stmt:=top 25
noncomputable abbrev zbm:Stmt:=top 26
noncomputable abbrev zbw:Stmt:=top 28
noncomputable abbrev zbu:Stmt:=top 29
noncomputable abbrev zba:Stmt:=top 30
noncomputable abbrev zcb:Stmt:=top 31
noncomputable abbrev zax:Stmt:=top 32
noncomputable abbrev zbv:Stmt:=top 33
noncomputable abbrev zaw:Stmt:=top 34
noncomputable abbrev zaq:Stmt:=top 35
noncomputable abbrev zap:Stmt:=top 36
noncomputable abbrev zam:Stmt:=top 37
noncomputable abbrev s_law:Stmt:=top 38
end Hs
namespace Hs
open PySem L2 HsD
section
variable{P:Program}{w:World}{K:W.Frag}{mg:Str->Option Value}{base:Heap}
noncomputable def spWhole(K:W.Frag):Sp:=fun vs H Q _=>∃x d,vs=[x]/\DX K H x d/\Q (.bl (wholeD d)) H
theorem sc_whole:FnScope ["thing"] ["thing"] (defScope zbj):=⟨rfl,rfl,rfl,by decide+kernel,rfl,by decide+kernel,by decide+kernel⟩
theorem ok_whole{f:Addr}{fd:FuncData}(F:Fun K "is_whole" "is_whole" zbj f fd)(mi:mg "isinstance"=none)(mI:mg "int"=none)(mB:mg "bool"=none):FnOk P w K mg base CX0 1 f fd ["thing"] (spWhole K):=by
 refine F.ok sc_whole (fun vs H Q E h=> ?_) (fun cdv A outer s H vs Q E hr h=> ?_)
 ·obtain⟨x,d,rfl,_⟩:=h
  rfl
 obtain⟨x,d,rfl,hx,q⟩:=h
 refine⟨_,zah (zao (zdl (zak zdh rfl mi (by decide+kernel) (zaa (pv 0) (zaa (pe_bltn rfl mI (v:= .ty "int") (by decide+kernel) rfl) zac)))
  (pe_one (pe_not (zak zdh rfl mi (by decide+kernel) (zaa (pv 0) (zaa (pe_bltn rfl mB (v:= .ty "bool") (by decide+kernel) rfl) zac))))))),?_⟩
 refine⟨_,rfl,x,_,_,rfl,hx.kind,.inl rfl,_,rfl,?_⟩
 refine ite2 (fun c=> ?_) (fun c=> ?_)
 ·refine⟨_,rfl,x,_,_,rfl,hx.kind,.inr (.inl rfl),_,rfl,?_⟩
  cases d<;>first |exact q|(simp[isiB,kindD]at c;done)
 ·cases d<;>first |exact q|(exfalso;exact c rfl)
noncomputable def spPlace(K:W.Frag):Sp:=fun vs H Q _=>∃(n:Int) (x:V) (d:PyData),vs=[.int n,x]/\DX K H x d/\Q (.bl (placeD n d)) H
theorem sc_place:FnScope ["n","thing"] ["n","thing"] (defScope zcc):=⟨rfl,rfl,rfl,by decide+kernel,rfl,by decide+kernel,by decide+kernel⟩
theorem ok_place{f g:Addr}{fd gd:FuncData}(F:Fun K "is_place" "is_place" zcc f fd)(D:Dfn K mg "is_whole" zbj ["thing"] g gd)(G:FnOk P w K mg base CX0 1 g gd ["thing"] (spWhole K)):FnOk P w K mg base CX0 2 f fd ["n","thing"] (spPlace K):=by
 refine F.ok sc_place (fun vs H Q E h=> ?_) (fun cdv A outer s H vs Q E hr h=> ?_)
 ·obtain⟨n,x,d,rfl,_⟩:=h
  rfl
 obtain⟨n,x,d,rfl,hx,q⟩:=h
 refine⟨_,zah (zao (zdl (zaj G hr rfl D.m D.F.kp D.b .nil pass0 (zaa (pv 1) zac)) (pe_one (pe_chain op_le op_lt zag (pv 1) (pv 0))))),?_⟩
 refine⟨_,rfl,x,d,rfl,hx,_,rfl,?_⟩
 refine ite2 (fun c=> ?_) (fun c=> ?_)
 ·cases hx with
  |int i=>
   refine⟨_,rfl,_,_,rfl,rfl,_,rfl,?_⟩
   refine ite2 (fun c2=> ?_) (fun c2=> ?_)
   ·refine⟨_,rfl,_,_,rfl,rfl,?_⟩
    have e:placeD n (.int i)=decide (i<n):=by show(decide (0<=i)&&decide (i<n))=_;rw[c2];rfl
    rw[e]at q;exact q
   ·have e:placeD n (.int i)=false:=by show(decide (0<=i)&&decide (i<n))=_;rw[Bool.eq_false_iff.mpr c2];rfl
    rw[e]at q;exact q
  |_=>simp[wholeD]at c
 ·have e:placeD n d=false:=by
   cases d<;>first |rfl|(exfalso;exact c rfl)
  rw[e]at q;exact q
noncomputable def spPlaces(K:W.Frag):Sp:=fun vs H Q _=>∃(n:Int) (a:Addr) (xs:List V) (ds:List PyData),vs=[.int n,.ref a]/\SqT K H a xs/\DXs K H xs ds/\∀H',Same H H'->Q (.bl (ds.all (placeD n))) H'
theorem sc_places:FnScope ["n","things"] ["n","things"] (defScope zbl):=⟨rfl,rfl,rfl,by decide+kernel,rfl,by decide+kernel,by decide+kernel⟩
theorem all_take{α:Type}(ds:List α)(p:α->Bool):(ds.map p).all id=ds.all p:=by rw[List.all_map];rfl
theorem ok_places{f g:Addr}{fd gd:FuncData}(F:Fun K "are_places" "are_places" zbl f fd)(D:Dfn K mg "is_place" zcc ["n","thing"] g gd)(G:FnOk P w K mg base CX0 2 g gd ["n","thing"] (spPlace K))(mA:mg "all"=none):FnOk P w K mg base CX0 3 f fd ["n","things"] (spPlaces K):=by
 refine F.ok sc_places (fun vs H Q E h=> ?_) (fun cdv A outer s H vs Q E hr h=> ?_)
 ·obtain⟨n,a,xs,ds,rfl,_⟩:=h
  rfl
 obtain⟨n,a,xs,ds,rfl,hS,hd,q⟩:=h
 refine⟨_,zah (zao (zak (call_all rfl) rfl mA (by decide+kernel) (zaa (zbk (own:=["thing"]) (caps:=["n"]) (ix:=[0]) rfl (zcr (pv 1)) rfl rfl (.cons rfl rfl .nil) (fun _ _ _ _ _=>zal (i:=0) (show(["thing","n"]:List Str).Nodup from by decide+kernel) rfl (Or.inl rfl)) (fun _ _ _ _ _=>zcf) (fun _ _ _ _ _=>zaj G hr rfl D.m D.F.kp D.b .nil pass0 (zaa (pv 1) (zaa (pv 0) zac)))) zac))),?_⟩
 refine⟨_,rfl,a,xs,rfl,hS,fun hz=> ?_⟩
 have hl:=hd.len
 refine zcv (xs:=xs) (fun i acc σ H'=>acc=((ds.take i).map (placeD n)).map V.bl/\Same H H'/\∃o,σ=[o,some (.int n)]) ⟨rfl,Same.refl _,_,rfl⟩ (fun i acc σ H' _ p=>p.2.1.tup hS) (fun i acc σ H' hi p=> ?_) hz (fun i x acc σ H' hx p=> ?_) (fun acc σ H' p=> ?_)
 ·rw[p.1];simp;omega
 ·obtain⟨rfl,sm,o,rfl⟩:=p
  obtain⟨d,e1,e2⟩:=hd.get hx
  refine⟨_,rfl,_,rfl,n,x,d,rfl,DX.same sm e2,?_,sm,_,rfl⟩
  rw[List.take_add_one,e1]
  simp
 ·intro p1 hp1
  obtain⟨rfl,sm,_⟩:=p
  refine⟨p1,(ds.map (placeD n)),rfl,SqL.of (by rw[zab,hl,List.take_length]),?_⟩
  rw[all_take]
  exact q _ (sm.trans (zad hp1 _))
end
end Hs
namespace Hs
open PySem L2 HsD
section
variable{P:Program}{w:World}{K:W.Frag}{mg:Str->Option Value}{base:Heap}
noncomputable def RisV(K:W.Frag)(H:Hp)(x y:V)(b:Bool):Prop:=(∃i j,x= .int i/\y= .int j/\b=decide (i<j))\/(∃p q ns ms,x= .ref p/\y= .ref q/\SqT K H p (ns.map V.int)/\SqT K H q (ms.map V.int)/\b=HT.lexLt ns ms)
noncomputable def spRising(K:W.Frag):Sp:=fun vs H Q _=>∃(a:Addr) (xs:List V) (bs:Nat->Bool),vs=[.ref a]/\SqT K H a xs/\(∀k,k+1<xs.length->∃x y,xs[k]? =some x/\xs[k+1]? =some y/\RisV K H x y (bs k))/\
 ∀H',Same H H'->Q (.bl ((List.range (xs.length-1)).all bs)) H'
theorem sc_rising:FnScope ["things"] ["things"] (defScope zbo):=⟨rfl,rfl,rfl,by decide+kernel,rfl,by decide+kernel,by decide+kernel⟩
theorem ok_rising{f:Addr}{fd:FuncData}(F:Fun K "is_rising" "is_rising" zbo f fd)(mA:mg "all"=none)(mR:mg "range"=none)(mL:mg "len"=none):FnOk P w K mg base CX0 1 f fd ["things"] (spRising K):=by
 refine F.ok sc_rising (fun vs H Q E h=> ?_) (fun cdv A outer s H vs Q E hr h=> ?_)
 ·obtain⟨a,xs,bs,rfl,_⟩:=h
  rfl
 obtain⟨a,xs,bs,rfl,hS,hb,q⟩:=h
 refine⟨_,zah (zao (zak (call_all rfl) rfl mA (by decide+kernel) (zaa (zbk (own:=["k"]) (caps:=["things"]) (ix:=[0]) rfl
  (pi_range2 rfl mR (zaa zag (zaa (zak zbx rfl mL PySem.boot_len (zaa (pv 0) zac)) zac))) rfl rfl (.cons rfl rfl .nil) (fun _ _ _ _ _=>zal (i:=0) (show(["k","things"]:List Str).Nodup from by decide+kernel) rfl (Or.inl rfl)) (fun _ _ _ _ _=>zcf) (fun _ _ _ _ _=>zct (op_lt.or (op_ltTK K hr.units0)) (zbz (ix_tupK K) (pv 1) (zbd op_sub (pv 0) zag) (fun _ _=>rfl)) (zbz (ix_tupK K) (pv 1) (pv 0) (fun _ _=>rfl)) (nomark _))) zac))),?_⟩
 refine⟨_,rfl,a,xs,rfl,.inr hS,fun hz=>⟨1,_,rfl,⟨by omega,by omega,by omega,by omega⟩,?_⟩⟩
 have en:((xs.length:Int)-1).toNat=xs.length-1:=by omega
 rw[en]
 refine comp_range (fun i acc σ H'=>acc=((List.range i).map bs).map V.bl/\Same H H'/\∃o,σ=[o,some (.ref a)]) ⟨rfl,Same.refl _,_,rfl⟩ (fun i acc σ H' hi p=>by rw[p.1];simp) (by rw[sizeLine_eq];omega) (fun i acc σ H' hi p=> ?_) (fun acc σ H' p=> ?_)
 ·obtain⟨rfl,sm,o,rfl⟩:=p
  obtain⟨x,y,hx,hy,hxy⟩:=hb i (by omega)
  have e1:(1+(i:Int))-1=((i:Nat):Int):=by omega
  have e2:(1+(i:Int))=((i+1:Nat):Int):=by omega
  have a1:atI xs (1+(i:Int)-1)=some x:=by rw[e1];exact atI_nat hx
  have a2:atI xs (1+(i:Int))=some y:=by rw[e2];exact atI_nat hy
  refine⟨_,rfl,_,rfl,_,_,rfl,rfl,a,xs,_,x,rfl,rfl,sm.tup hS,a1,_,rfl,_,rfl,a,xs,_,y,rfl,rfl,sm.tup hS,a2,?_⟩
  have ea:((List.range i).map bs).map V.bl++[V.bl (bs i)]=((List.range (i+1)).map bs).map V.bl:=by rw[List.range_succ];simp
  rcases hxy with⟨u,v,rfl,rfl,e⟩|⟨p,p',ns,ms,rfl,rfl,h1,h2,e⟩
  ·refine .inl ⟨u,v,rfl,rfl,?_,sm,_,rfl⟩
   show _++[V.bl (decide (u<v))]=_
   rw[<-e];exact ea
  ·refine .inr ⟨p,p',ns,ms,rfl,rfl,sm.tup h1,sm.tup h2,?_,sm,_,rfl⟩
   show _++[V.bl (HT.lexLt ns ms)]=_
   rw[<-e];exact ea
 ·intro p1 hp1
  obtain⟨rfl,sm,_⟩:=p
  refine⟨p1,(List.range (xs.length-1)).map bs,rfl,SqL.of zab,?_⟩
  rw[all_take]
  exact q _ (sm.trans (zad hp1 _))
theorem ints_of{H:Hp}{n:Int}{xs:List V}{ds:List PyData}(h:DXs K H xs ds)(hp:ds.all (placeD n)=true):xs=(ds.map intD).map V.int:=by
 induction ds generalizing xs with
 |nil=>cases h;rfl
 |cons d ds ih=>
  rw[List.all_cons,Bool.and_eq_true]at hp
  cases h with
  |cons h t=>
   obtain⟨i,rfl,_⟩:=placeD_int hp.1
   cases h
   rw[List.map_cons,List.map_cons,<-ih t hp.2]
   rfl
theorem rises_int{H:Hp}(ns:List Int):∀k,k+1<(ns.map V.int).length->∃x y,(ns.map V.int)[k]? =some x/\(ns.map V.int)[k+1]? =some y/\RisV K H x y (decide (ns.getD k 0<ns.getD (k+1) 0)):=fun k hk=>by
 rw[List.length_map]at hk
 have h1:k<ns.length:=by omega
 refine⟨.int (ns.getD k 0),.int (ns.getD (k+1) 0),by simp[h1],by simp[hk],.inl ⟨_,_,rfl,rfl,rfl⟩⟩
noncomputable def spSet(K:W.Frag):Sp:=fun vs H Q _=>∃(n:Int) (x:V) (d:PyData),vs=[.int n,x]/\DX K H x d/\∀H',Same H H'->Q (.bl (setD n d)) H'
theorem sc_set:FnScope ["n","thing"] ["n","thing"] (defScope zcu):=⟨rfl,rfl,rfl,by decide+kernel,rfl,by decide+kernel,by decide+kernel⟩
theorem ok_set{f f1 f2:Addr}{fd d1 d2:FuncData}(F:Fun K "is_set" "is_set" zcu f fd)(D1:Dfn K mg "are_places" zbl ["n","things"] f1 d1)(G1:FnOk P w K mg base CX0 3 f1 d1 ["n","things"] (spPlaces K))(D2:Dfn K mg "is_rising" zbo ["things"] f2 d2)(G2:FnOk P w K mg base CX0 1 f2 d2 ["things"] (spRising K))(mi:mg "isinstance"=none)(mT:mg "tuple"=none):FnOk P w K mg base CX0 4 f fd ["n","thing"] (spSet K):=by
 refine F.ok sc_set (fun vs H Q E h=> ?_) (fun cdv A outer s H vs Q E hr h=> ?_)
 ·obtain⟨n,x,d,rfl,_⟩:=h
  rfl
 obtain⟨n,x,d,rfl,hx,q⟩:=h
 refine⟨_,zah (zao (zdl (zak zdh rfl mi (by decide+kernel) (zaa (pv 1) (zaa (pe_bltn rfl mT (v:= .ty "tuple") (by decide+kernel) rfl) zac)))
  (zdl (zaj G1 hr rfl D1.m D1.F.kp D1.b .nil pass0 (zaa (pv 0) (zaa (pv 1) zac))) (pe_one (zaj (G2.mono (by decide)) hr rfl D2.m D2.F.kp D2.b .nil pass0 (zaa (pv 1) zac)))))),?_⟩
 refine⟨_,rfl,x,_,_,rfl,hx.kind,.inr (.inr (.inl rfl)),_,rfl,?_⟩
 refine ite2 (fun c=> ?_) (fun c=> ?_)
 ·cases hx with
  | @tup a xs ds h t=>
   refine⟨_,rfl,_,rfl,n,a,xs,ds,rfl,h,t,fun H1 sm=>⟨_,rfl,?_⟩⟩
   refine ite2 (fun c2=> ?_) (fun c2=> ?_)
   ·have ex:=ints_of t c2
    refine⟨_,rfl,a,xs,fun k=>decide ((ds.map intD).getD k 0<(ds.map intD).getD (k+1) 0),rfl,sm.tup h,?_,fun H2 sm2=> ?_⟩
    ·rw[ex];exact rises_int _
    ·have e:setD n (.tuple ds)=(List.range (xs.length-1)).all fun k=>decide ((ds.map intD).getD k 0<(ds.map intD).getD (k+1) 0):=by
      show(ds.all (placeD n)&&risesI (ds.map intD))=_
      rw[c2,t.len]
      show risesI (ds.map intD)=_
      unfold risesI
      rw[List.length_map]
     have:=q H2 (sm.trans sm2)
     rw[e]at this;exact this
   ·have e:setD n (.tuple ds)=false:=by
     show(ds.all (placeD n)&&risesI (ds.map intD))=_
     rw[Bool.eq_false_iff.mpr c2];rfl
    have:=q H1 sm
    rw[e]at this;exact this
  |_=>simp[isiB,kindD]at c
 ·have e:setD n d=false:=by
   cases d<;>first |rfl|(exfalso;exact c rfl)
  have:=q H (Same.refl _)
  rw[e]at this;exact this
noncomputable def spTies(K:W.Frag):Sp:=fun vs H Q _=>∃(n:Int) (x:V) (d:PyData),vs=[.int n,x]/\DX K H x d/\∀H',Same H H'->Q (.bl (tiesD n d)) H'
theorem sc_ties:FnScope ["n","thing"] ["n","thing"] (defScope zcd):=⟨rfl,rfl,rfl,by decide+kernel,rfl,by decide+kernel,by decide+kernel⟩
theorem tie_tup{H:Hp}{n:Int}{x:V}{d:PyData}(h:DX K H x d)(ht:tieD n d=true):∃p,x= .ref p/\SqT K H p (((kids d).map intD).map V.int):=by
 cases h with
 | @tup a xs ds h t=>
  have q:(ds.all (placeD n)&&risesI (ds.map intD)&&decide (ds.length=2))=true:=ht
  rw[Bool.and_eq_true,Bool.and_eq_true]at q
  exact⟨a,rfl,by rw[ints_of t q.1.1]at h;exact h⟩
 |_=>simp[tieD,setD]at ht
theorem rises_tup{H:Hp}{n:Int}{xs:List V}{ds:List PyData}(t:DXs K H xs ds)(ha:ds.all (tieD n)=true):∀k,k+1<xs.length->∃x y,xs[k]? =some x/\xs[k+1]? =some y/\
  RisV K H x y (HT.lexLt ((ds.map fun t=>(kids t).map intD).getD k []) ((ds.map fun t=>(kids t).map intD).getD (k+1) [])):=fun k hk=>by
 have hl:=t.len
 have h1:k<xs.length:=by omega
 obtain⟨d1,e1,x1⟩:=t.get (i:=k) (x:=xs[k]) (by simp[h1])
 obtain⟨d2,e2,x2⟩:=t.get (i:=k+1) (x:=xs[k+1]) (by simp[hk])
 have m1:=List.all_eq_true.mp ha d1 (List.mem_of_getElem? e1)
 have m2:=List.all_eq_true.mp ha d2 (List.mem_of_getElem? e2)
 obtain⟨p1,q1,s1⟩:=tie_tup x1 m1
 obtain⟨p2,q2,s2⟩:=tie_tup x2 m2
 refine⟨xs[k],xs[k+1],by simp[h1],by simp[hk],.inr ⟨p1,p2,_,_,q1,q2,s1,s2,?_⟩⟩
 have g1:(ds.map fun t=>(kids t).map intD).getD k []=(kids d1).map intD:=by rw[List.getD_eq_getElem?_getD,List.getElem?_map,e1];rfl
 have g2:(ds.map fun t=>(kids t).map intD).getD (k+1) []=(kids d2).map intD:=by rw[List.getD_eq_getElem?_getD,List.getElem?_map,e2];rfl
 rw[g1,g2]
theorem ok_ties{f f1 f2:Addr}{fd d1 d2:FuncData}(F:Fun K "are_ties" "are_ties" zcd f fd)(D1:Dfn K mg "is_set" zcu ["n","thing"] f1 d1)(G1:FnOk P w K mg base CX0 4 f1 d1 ["n","thing"] (spSet K))(D2:Dfn K mg "is_rising" zbo ["things"] f2 d2)(G2:FnOk P w K mg base CX0 1 f2 d2 ["things"] (spRising K))(mi:mg "isinstance"=none)(mT:mg "tuple"=none)(mA:mg "all"=none)(mL:mg "len"=none):FnOk P w K mg base CX0 5 f fd ["n","thing"] (spTies K):=by
 refine F.ok sc_ties (fun vs H Q E h=> ?_) (fun cdv A outer s H vs Q E hr h=> ?_)
 ·obtain⟨n,x,d,rfl,_⟩:=h
  rfl
 obtain⟨n,x,d,rfl,hx,q⟩:=h
 refine⟨_,zae (zdd (zdk (zdg (zak zdh rfl mi (by decide+kernel) (zaa (pv 1) (zaa (pe_bltn rfl mT (v:= .ty "tuple") (by decide+kernel) rfl) zac))))) (zah (zao pe_bl)) zbg) (zah (zao (zdl (zak (call_all rfl) rfl mA (by decide+kernel) (zaa (zbk (own:=["tie"]) (caps:=["n"]) (ix:=[0]) rfl (zcr (pv 1)) rfl rfl (.cons rfl rfl .nil) (fun _ _ _ _ _=>zal (i:=0) (show(["tie","n"]:List Str).Nodup from by decide+kernel) rfl (Or.inl rfl)) (fun _ _ _ _ _=>zcf) (fun _ _ _ _ _=>zdl (zaj G1 hr rfl D1.m D1.F.kp D1.b .nil pass0 (zaa (pv 1) (zaa (pv 0) zac))) (pe_one (zct op_eq (zak (call_lenK K) rfl mL PySem.boot_len (zaa (pv 0) zac)) zag (nomark _))))) zac))
  (pe_one (zaj (G2.mono (by decide)) hr rfl D2.m D2.F.kp D2.b .nil pass0 (zaa (pv 1) zac)))))),?_⟩
 refine⟨_,rfl,x,_,_,rfl,hx.kind,.inr (.inr (.inl rfl)),_,rfl,?_⟩
 refine ite2 (fun c=> ?_) (fun c=> ?_)
 ·have e:tiesD n d=false:=by
   cases d<;>first |rfl|(exfalso;simp[isiB,kindD]at c;done)
  have:=q H (Same.refl _)
  rw[e]at this;exact this
 ·cases hx with
  | @tup a xs ds h t=>
   refine⟨_,rfl,a,xs,rfl,h,fun hz=> ?_⟩
   have hl:=t.len
   refine zcv (xs:=xs) (fun i acc σ H'=>acc=((ds.take i).map (tieD n)).map V.bl/\Same H H'/\∃o,σ=[o,some (.int n)]) ⟨rfl,Same.refl _,_,rfl⟩ (fun i acc σ H' _ p=>p.2.1.tup h) (fun i acc σ H' hi p=> ?_) hz (fun i x acc σ H' hx p=> ?_) (fun acc σ H' p=> ?_)
   ·rw[p.1];simp;omega
   ·obtain⟨rfl,sm,o,rfl⟩:=p
    obtain⟨d,e1,e2⟩:=t.get hx
    refine⟨_,rfl,_,rfl,n,x,d,rfl,DX.same sm e2,fun H1 sm1=>⟨_,rfl,?_⟩⟩
    have ea:∀b,b=tieD n d->((ds.take i).map (tieD n)).map V.bl++[V.bl b]=((ds.take (i+1)).map (tieD n)).map V.bl:=fun b hb=>by
     rw[List.take_add_one,e1,hb];simp
    refine ite2 (fun c2=> ?_) (fun c2=> ?_)
    ·cases e2 with
     | @tup a2 xs2 ds2 h2 t2=>
      refine⟨_,rfl,a2,xs2,rfl,.inr (sm1.tup (sm.tup h2)),fun hz2=>⟨rfl,ea _ ?_,sm.trans sm1,_,rfl⟩⟩
      show decide (V.int (xs2.length:Int)=V.int 2)=(setD n (.tuple ds2)&&decide (ds2.length=2))
      rw[c2,t2.len]
      by_cases e3:ds2.length=2
      ·rw[e3];rfl
      ·rw[decide_eq_false e3,decide_eq_false (by intro z;injection z with z;exact e3 (by omega))];rfl
     |_=>simp[setD]at c2
    ·refine⟨ea _ ?_,sm.trans sm1,_,rfl⟩
     show false=(setD n d&&decide ((kids d).length=2))
     rw[Bool.eq_false_iff.mpr c2];rfl
   ·intro p1 hp1
    obtain⟨rfl,sm,_⟩:=p
    have sm':Same H (upd H' p1 (.lst (((ds.take xs.length).map (tieD n)).map V.bl))):=sm.trans (zad hp1 _)
    refine⟨p1,(ds.map (tieD n)),rfl,SqL.of (by rw[zab,hl,List.take_length]),_,rfl,?_⟩
    rw[all_take]
    refine ite2 (fun c2=> ?_) (fun c2=> ?_)
    ·refine⟨_,rfl,a,xs,fun k=>HT.lexLt ((ds.map fun t=>(kids t).map intD).getD k []) ((ds.map fun t=>(kids t).map intD).getD (k+1) []),rfl,sm'.tup h,?_,fun H2 sm2=> ?_⟩
     ·exact rises_tup (DXs.same sm' t) c2
     ·have e:tiesD n (.tuple ds)=(List.range (xs.length-1)).all fun k=>HT.lexLt ((ds.map fun t=>(kids t).map intD).getD k []) ((ds.map fun t=>(kids t).map intD).getD (k+1) []):=by
       show(ds.all (tieD n)&&risesT (ds.map fun t=>(kids t).map intD))=_
       rw[c2,hl]
       show risesT (ds.map fun t=>(kids t).map intD)=_
       unfold risesT
       rw[List.length_map]
      have:=q H2 (sm'.trans sm2)
      rw[e]at this;exact this
    ·have e:tiesD n (.tuple ds)=false:=by
      show(ds.all (tieD n)&&risesT (ds.map fun t=>(kids t).map intD))=_
      rw[Bool.eq_false_iff.mpr c2];rfl
     have:=q _ sm'
     rw[e]at this;exact this
  |_=>exfalso;exact c rfl
end
end Hs
namespace HsD
open PySem L2
noncomputable def pairD(p:Int×Int):PyData:= .tuple [.int p.1,.int p.2]
noncomputable def webDat(n:Int)(ts:List (Int×Int)):PyData:= .tuple [.int n,.tuple (ts.map pairD)]
noncomputable def WebV(K:W.Frag)(H:Hp)(a:Addr)(n:Int)(ts:List (Int×Int)):Prop:=∃t rs,SqT K H a [.int n,.ref t]/\SqT K H t rs/\DVs K H rs (ts.map pairD)
theorem WebV.dv{K:W.Frag}{H:Hp}{a:Addr}{n:Int}{ts:List (Int×Int)}(h:WebV K H a n ts):DV K H (.ref a) (webDat n ts):=by
 obtain⟨t,rs,h1,h2,h3⟩:=h
 exact .tup h1 (.cons (.int n) (.cons (.tup h2 h3) .nil))
theorem WebV.same{K:W.Frag}{H H':Hp}{a:Addr}{n:Int}{ts:List (Int×Int)}(h:WebV K H a n ts)(e:Same H H'):WebV K H' a n ts:=by
 obtain⟨t,rs,h1,h2,h3⟩:=h
 exact⟨t,rs,e.tup h1,e.tup h2,DVs.same e h3⟩
noncomputable def hasTie(ts:List (Int×Int))(i j:Int):Bool:=decide ((if j<i then j else i,if j>i then j else i)∈ts)
theorem eqv_pair(p q:Int×Int):PyData.eqv (pairD p) (pairD q)=decide (p=q):=by
 obtain⟨a,b⟩:=p
 obtain⟨c,d⟩:=q
 show((a==c)&&((b==d)&&true))=_
 rw[Bool.eq_iff_iff]
 simp
theorem lay_pairs:∀ts:List (Int×Int),PyData.canLayAll0 (ts.map pairD)=true
 |[]=>rfl
 |p::ts=>by
  show(PyData.canLay0 (pairD p)&&PyData.canLayAll0 (ts.map pairD))=true
  rw[lay_pairs ts];rfl
theorem any_pair(ts:List (Int×Int))(q:Int×Int):((ts.map pairD).any fun d=>PyData.eqv d (pairD q))=decide (q∈ts):=by
 rw[List.any_map,Bool.eq_iff_iff,List.any_eq_true]
 constructor
 ·rintro⟨p,hp,h⟩
  have h':PyData.eqv (pairD p) (pairD q)=true:=h
  rw[eqv_pair]at h'
  have e:p=q:=of_decide_eq_true h'
  subst e
  exact decide_eq_true hp
 ·intro h
  refine⟨q,of_decide_eq_true h,?_⟩
  show PyData.eqv (pairD q) (pairD q)=true
  rw[eqv_pair]
  exact decide_eq_true rfl
end HsD
namespace Hs
open PySem L2 HsD
section
variable{P:Program}{w:World}{K:W.Frag}{mg:Str->Option Value}{base:Heap}
noncomputable def spWeb(K:W.Frag):Sp:=fun vs H Q _=>∃(x:V) (d:PyData),vs=[x]/\DX K H x d/\∀H',Same H H'->Q (.bl (webD d)) H'
theorem sc_web:FnScope ["thing","n"] ["thing"] (defScope zde):=⟨rfl,rfl,rfl,by decide+kernel,rfl,by decide+kernel,by decide+kernel⟩
theorem ok_web{f f1 f2:Addr}{fd d1 d2:FuncData}{tk:Tok}(F:Fun K "is_web" "is_web" zde f fd)(D1:Dfn K mg "is_whole" zbj ["thing"] f1 d1)(G1:FnOk P w K mg base CX0 1 f1 d1 ["thing"] (spWhole K))(D2:Dfn K mg "are_ties" zcd ["n","thing"] f2 d2)(G2:FnOk P w K mg base CX0 5 f2 d2 ["n","thing"] (spTies K))(mi:mg "isinstance"=none)(mT:mg "tuple"=none)(mL:mg "len"=none)(mM:mg "MOST_PLACES"=some (.int 10 tk)):FnOk P w K mg base CX0 6 f fd ["thing"] (spWeb K):=by
 refine F.ok sc_web (fun vs H Q E h=> ?_) (fun cdv A outer s H vs Q E hr h=> ?_)
 ·obtain⟨x,d,rfl,_⟩:=h
  rfl
 obtain⟨x,d,rfl,hx,q⟩:=h
 refine⟨_,zae (zdd (PW.pt (pw_or (zdk (zdg (zak zdh rfl mi (by decide+kernel) (zaa (pv 0) (zaa (pe_bltn rfl mT (v:= .ty "tuple") (by decide+kernel) rfl) zac)))))
   (pw_or1 (zbf op_ne (zak zbx rfl mL PySem.boot_len (zaa (pv 0) zac)) zag (nomark _))))) (zah (zao pe_bl)) zbg) (zae (zan (i:=1) sc_web.nd rfl (Or.inl rfl) (zbz zcj (pv 0) zag (fun _ _=>rfl))) (zah (zao (zdl (zaj (G1.mono (by decide)) hr rfl D1.m D1.F.kp D1.b .nil pass0 (zaa (pv 1) zac)) (zdl (pe_chain op_le op_le zag (pv 1) (pe_glob rfl mM (v:= .int 10) ⟨_,rfl⟩))
   (pe_one (zaj G2 hr rfl D2.m D2.F.kp D2.b .nil pass0 (zaa (pv 1) (zaa (zbz zcj (pv 0) zag (fun _ _=>rfl)) zac))))))))),?_⟩
 refine⟨_,rfl,x,_,_,rfl,hx.kind,.inr (.inr (.inl rfl)),_,rfl,?_⟩
 refine ite2 (fun c=> ?_) (fun c=> ?_)
 ·have e:webD d=false:=by
   cases d<;>first |rfl|(exfalso;simp[isiB,kindD]at c;done)
  have:=q H (Same.refl _)
  rw[e]at this;exact this
 ·cases hx with
  | @tup a xs ds h t=>
   have hl:=t.len
   refine⟨_,rfl,a,xs,rfl,.inr h,fun hz=>⟨rfl,_,rfl,?_⟩⟩
   refine ite2 (fun c2=> ?_) (fun c2=> ?_)
   ·have e:webD (.tuple ds)=false:=by
     match ds,hl with
     |[],_=>rfl
     |[_],_=>rfl
     |[_,_],hl=>
      exfalso
      have e2:(!decide (V.int (xs.length:Int)=V.int 2))=true:=c2
      rw[hl]at e2
      simp at e2
     |_::_::_::_,_=>rfl
    have:=q H (Same.refl _)
    rw[e]at this;exact this
   ·have e2:xs.length=2:=by
     have e2:¬(!decide (V.int (xs.length:Int)=V.int 2))=true:=c2
     simp at e2
     omega
    cases t with
    |nil=>simp at e2
    |cons h0 t0=>
     cases t0 with
     |nil=>simp at e2
     | @cons x1 dd1 xs1 ds1 h1 t1=>
      cases t1 with
      |cons _ _=>simp at e2
      |nil=>
       rename_i x0 dd0
       refine⟨_,rfl,a,_,_,x0,rfl,rfl,h,by rfl,?_⟩
       refine⟨_,rfl,x0,dd0,rfl,h0,_,rfl,?_⟩
       refine ite2 (fun c3=> ?_) (fun c3=> ?_)
       ·cases h0 with
        |int n=>
         refine⟨_,rfl,_,_,rfl,rfl,_,rfl,?_⟩
         have fin:∀b,b=webD (.tuple [.int n,dd1])->∀H',Same H H'->Q (.bl b) H':=fun b hb H' sm=>by rw[hb];exact q H' sm
         have wd:webD (.tuple [.int n,dd1])=((decide (0<=n)&&decide (n<=10))&&tiesD n dd1):=rfl
         refine ite2 (fun c4=> ?_) (fun c4=> ?_)
         ·refine⟨_,_,rfl,rfl,_,rfl,?_⟩
          refine ite2 (fun c5=> ?_) (fun c5=> ?_)
          ·refine⟨_,rfl,_,rfl,a,_,_,x1,rfl,rfl,h,by rfl,n,x1,dd1,rfl,h1,fun H' sm=>fin _ ?_ H' sm⟩
           rw[wd,c4,c5];rfl
          ·refine fin _ ?_ H (Same.refl _)
           rw[wd,Bool.eq_false_iff.mpr c5,Bool.and_false];rfl
         ·refine⟨_,rfl,?_⟩
          refine iteF (fin _ ?_ H (Same.refl _))
          rw[wd,Bool.eq_false_iff.mpr c4];rfl
        |_=>simp[wholeD]at c3
       ·have e:webD (.tuple [dd0,dd1])=false:=by
         show(wholeD dd0&&(decide (0<=intD dd0)&&decide (intD dd0<=10))&&tiesD (intD dd0) dd1)=false
         rw[Bool.eq_false_iff.mpr c3];rfl
        have:=q H (Same.refl _)
        rw[e]at this;exact this
  |_=>exfalso;exact c rfl
end
end Hs
namespace Hs
open PySem L2 HsD
section
variable{P:Program}{w:World}{K:W.Frag}{mg:Str->Option Value}{base:Heap}
noncomputable def spNeedWeb(K:W.Frag):Sp:=fun vs H Q _=>∃(x:V) (d:PyData),vs=[x]/\DX K H x d/\webD d=true/\∀H',Same H H'->Q .non H'
theorem sc_needWeb:FnScope ["thing"] ["thing"] (defScope zbs):=⟨rfl,rfl,rfl,by decide+kernel,rfl,by decide+kernel,by decide+kernel⟩
theorem ok_needWeb{f f1:Addr}{fd d1:FuncData}(F:Fun K "need_web" "need_web" zbs f fd)(D1:Dfn K mg "is_web" zde ["thing"] f1 d1)(G1:FnOk P w K mg base CX0 6 f1 d1 ["thing"] (spWeb K)):FnOk P w K mg base CX0 7 f fd ["thing"] (spNeedWeb K):=by
 refine F.ok sc_needWeb (fun vs H Q E h=> ?_) (fun cdv A outer s H vs Q E hr h=> ?_)
 ·obtain⟨x,d,rfl,_⟩:=h
  rfl
 obtain⟨x,d,rfl,hx,hw,q⟩:=h
 refine⟨_,zah (zdd (zdk (zdg (zaj G1 hr rfl D1.m D1.F.kp D1.b .nil pass0 (zaa (pv 0) zac)))) pss_never zbg),?_⟩
 refine⟨_,rfl,x,d,rfl,hx,fun H' sm=>⟨_,rfl,?_⟩⟩
 rw[hw]
 exact iteF (q H' sm)
noncomputable def spHas(K:W.Frag):Sp:=fun vs H Q _=>∃(a:Addr) (n i j:Int) (ts:List (Int×Int)),vs=[.ref a,.int i,.int j]/\WebV K H a n ts/\∀H',Same H H'->Q (.bl (hasTie ts i j)) H'
theorem sc_has:FnScope ["web","one","other"] ["web","one","other"] (defScope zcp):=⟨rfl,rfl,rfl,by decide+kernel,rfl,by decide+kernel,by decide+kernel⟩
theorem ok_has{f:Addr}{fd:FuncData}(F:Fun K "has_tie" "has_tie" zcp f fd)(mi:mg "min"=none)(ma:mg "max"=none):FnOk P w K mg base CX0 1 f fd ["web","one","other"] (spHas K):=by
 refine F.ok sc_has (fun vs H Q E h=> ?_) (fun cdv A outer s H vs Q E hr h=> ?_)
 ·obtain⟨a,n,i,j,ts,rfl,_⟩:=h
  rfl
 obtain⟨a,n,i,j,ts,rfl,hW,q⟩:=h
 refine⟨_,zah (zao (zct (op_inD hr.units) (zcg (zaa (zak (call_min2 rfl) rfl mi (by decide+kernel) (zaa (pv 1) (zaa (pv 2) zac))) (zaa (zak (call_max2 rfl) rfl ma (by decide+kernel) (zaa (pv 1) (zaa (pv 2) zac))) zac)))
  (zbz zcj (pv 0) zag (fun _ _=>rfl)) (by with_unfolding_all rfl))),?_⟩
 refine⟨_,rfl,_,rfl,_,_,rfl,_,rfl,_,rfl,_,_,rfl,(by show 2<=sizeLine;decide),fun p hp=> ?_⟩
 have sm:=zad hp (.tup [.int (if j<i then j else i),.int (if j>i then j else i)])
 obtain⟨t,rs,h1,h2,h3⟩:=hW.same sm
 refine⟨_,rfl,a,_,_,.ref t,rfl,rfl,h1,rfl,t,rs,_,pairD (if j<i then j else i,if j>i then j else i),rfl,.inr h2,h3,.tup (SqT.of zab) (.cons (.int _) (.cons (.int _) .nil)),lay_pairs ts,rfl,(by show max 0 (max 0 0)+1<=60;decide),?_⟩
 rw[any_pair]
 exact q _ sm
end
noncomputable def WebOk(n:Int)(ts:List (Int×Int)):Prop:=webD (webDat n ts)=true
end Hs
namespace L2
open PySem
noncomputable def SameX(t:Addr)(H H':Hp):Prop:=∀b o,b≠t->H b=some o->H' b=some o
theorem SameX.refl(t:Addr)(H:Hp):SameX t H H:=fun _ _ _ h=>h
theorem SameX.trans{t:Addr}{H H1 H2:Hp}(a:SameX t H H1)(b:SameX t H1 H2):SameX t H H2:=fun c o n h=>b c o n (a c o n h)
theorem Same.x{H H':Hp}(h:Same H H')(t:Addr):SameX t H H':=fun b o _ e=>h b o e
theorem SameX.upd{t:Addr}{H H':Hp}{o:HO}(h:SameX t H H'):SameX t H (upd H' t o):=fun b u n e=>by rw[zaf n];exact h b u n e
noncomputable def ScrV(K:W.Frag)(H:Hp)(scr:Addr)(ns:List Int):Prop:=(∃o,H scr=some (.frz o (.lst (ns.map V.int))))\/
 ∃(o:Obj) (its:Array Value) (n:Nat),K.lookup scr=some o/\o.cls= .type "list"/\o.dict=none/\o.data= .seq its n/\its.size<=sizeLine/\Vals (ns.map V.int) its.toList
theorem ScrV.sq{K:W.Frag}{H:Hp}{scr:Addr}{ns:List Int}(h:ScrV K H scr ns):SqL K H scr (ns.map V.int):=by
 rcases h with⟨o,h⟩|h
 ·exact .inl (.inr ⟨o,h⟩)
 ·exact .inr h
theorem ScrV.samex{K:W.Frag}{H H':Hp}{scr t:Addr}{ns:List Int}{zs:List V}(h:ScrV K H scr ns)(e:SameX t H H')(n:H t=some (.lst zs)):ScrV K H' scr ns:=by
 rcases h with⟨o,h⟩|h
 ·exact .inl ⟨o,e _ _ (ne_of h n (by intro z;cases z)) h⟩
 ·exact .inr h
theorem ScrV.same{K:W.Frag}{H H':Hp}{scr:Addr}{ns:List Int}(h:ScrV K H scr ns)(e:Same H H'):ScrV K H' scr ns:=by
 rcases h with⟨o,h⟩|h
 ·exact .inl ⟨o,e _ _ h⟩
 ·exact .inr h
theorem SameX.sq{K:W.Frag}{t:Addr}{H H':Hp}{a:Addr}{xs:List V}(e:SameX t H H')(n:a≠t)(h:SqL K H a xs):SqL K H' a xs:=by
 rcases h with(h|⟨o,h⟩)|h
 ·exact .inl (.inl (e _ _ n h))
 ·exact .inl (.inr ⟨o,e _ _ n h⟩)
 ·exact .inr h
theorem lay_ints:∀ns:List Int,PyData.canLayAll0 (ns.map PyData.int)=true
 |[]=>rfl
 |n::ns=>by
  show(true&&PyData.canLayAll0 (ns.map PyData.int))=true
  rw[lay_ints ns];rfl
theorem none_ne'{H:Hp}{a b:Addr}{o:HO}(h:H a=some o)(n:H b=none):b≠a:=fun e=>by rw[e,h]at n;cases n
theorem SameX.free{t:Addr}{H H':Hp}{a:Addr}(e:SameX t H H')(n:a≠t)(h:H' a=none):H a=none:=by
 cases q:H a with
 |none=>rfl
 |some o=>rw[e a o n q]at h;cases h
end L2
namespace Hs
open PySem L2 HsD
section
variable{P:Program}{w:World}{K:W.Frag}{mg:Str->Option Value}{base:Heap}
theorem mod_nn(a:Int){b:Int}(h:0<b):0<=a %b:=Int.emod_nonneg _ (by omega)
theorem mod_lt(a:Int){b:Int}(h:0<b):a %b<b:=Int.emod_lt_of_pos _ h
theorem at_ints{ns:List Int}{k:Int}(h0:0<=k)(h1:k<(ns.length:Int)):∃v:Int,atI (ns.map V.int) k=some (.int v):=by
 have hk:k.toNat<ns.length:=by omega
 have ek:((k.toNat:Nat):Int)=k:=by omega
 have q:atI (ns.map V.int) ((k.toNat:Nat):Int)=some (.int ns[k.toNat]):=atI_nat (by rw[List.getElem?_map,List.getElem?_eq_getElem hk];rfl)
 rw[ek]at q
 exact⟨_,q⟩
noncomputable def spCell(K:W.Frag):Sp:=fun vs H Q _=>∃(scr:Addr) (ns:List Int) (k:Int),vs=[.ref scr,.int k]/\ScrV K H scr ns/\0<=k/\∀c:Int,Q (.int c) H
theorem sc_cell:FnScope ["script","k"] ["script","k"] (defScope zbw):=⟨rfl,rfl,rfl,by decide+kernel,rfl,by decide+kernel,by decide+kernel⟩
theorem ok_cell{f:Addr}{fd:FuncData}(F:Fun K "_law_acell" "_law_acell" zbw f fd)(mL:mg "len"=none):FnOk P w K mg base CX0 1 f fd ["script","k"] (spCell K):=by
 refine F.ok sc_cell (fun vs H Q E h=> ?_) (fun cdv A outer s H vs Q E hr h=> ?_)
 ·obtain⟨m,n,k,rfl,_⟩:=h
  rfl
 obtain⟨scr,ns,k,rfl,hS,hk,q⟩:=h
 refine⟨_,zae (zdd (zbf op_lt (pv 1) (zak zbx rfl mL PySem.boot_len (zaa (pv 0) zac)) (nomark _)) (zah (zao (zbz ix_list (pv 0) (pv 1) (fun _ _=>rfl)))) zbg) (zah (zao zag)),?_⟩
 refine⟨_,rfl,_,rfl,scr,_,rfl,.inl hS.sq,fun hz=>⟨_,_,rfl,rfl,_,rfl,?_⟩⟩
 refine ite2 (fun c=> ?_) (fun c=> ?_)
 ·have c3:k<((ns.map V.int).length:Int):=of_decide_eq_true c
  rw[List.length_map]at c3
  obtain⟨v,hx⟩:=at_ints hk c3
  exact⟨_,rfl,_,rfl,scr,_,_,_,rfl,rfl,hS.sq,hx,q v⟩
 ·exact q 0
noncomputable def spTape(K:W.Frag):Sp:=fun vs H Q _=>∃(scr:Addr) (ns:List Int) (k:Int),vs=[.ref scr,.int k]/\ScrV K H scr ns/\0<=k/\∀p H' t,Same H H'->H' p=some (.lst [.int t])->H p=none->Q (.ref p) H'
theorem sc_tape:FnScope ["script","k","cell","p","number","last","turn"] ["script","k"] (defScope zbu):=⟨rfl,rfl,rfl,by decide+kernel,rfl,by decide+kernel,by decide+kernel⟩
theorem ok_tape{f f1:Addr}{fd d1:FuncData}(F:Fun K "_law_atape" "_law_atape" zbu f fd)(D1:Dfn K mg "_law_acell" zbw ["script","k"] f1 d1)(G1:FnOk P w K mg base CX0 1 f1 d1 ["script","k"] (spCell K))(mR:mg "range"=none):
  FnOk P w K mg base CX0 2 f fd ["script","k"] (spTape K):=by
 refine F.ok sc_tape (fun vs H Q E h=> ?_) (fun cdv A outer s H vs Q E hr h=> ?_)
 ·obtain⟨m,n,k,rfl,_⟩:=h
  rfl
 obtain⟨scr,ns,k,rfl,hS,hk,q⟩:=h
 refine⟨_,zae (zan (i:=2) sc_tape.nd rfl (Or.inl rfl) (zaj G1 hr rfl D1.m D1.F.kp D1.b .nil pass0 (zaa (pv 0) (zaa (pv 1) zac)))) (zae (zdd (zbf op_eq (zbd op_mod (pv 2) zag) zag (nomark _)) (zah (zao (zch (zaa (zbd op_fdiv (pv 2) zag) zac)))) zbg) (zae (zan (i:=3) sc_tape.nd rfl (Or.inl rfl) zag) (zae (zan (i:=4) sc_tape.nd rfl (Or.inl rfl) zag) (zae (zan (i:=5) sc_tape.nd rfl (Or.inl rfl) (zbd op_mod (zbd zcz (zbd zcz (zbd op_mul (zbd op_mod (pv 2) (pv 3)) zag) (zbd op_mul zag (pv 1))) zag) (pv 3))) (zae (zcl PassesOwn.never rfl (pi_range1 rfl mR (zaa zag zac)) (zal (i:=6) sc_tape.nd rfl (Or.inl rfl)) (zae (zan (i:=4) sc_tape.nd rfl (Or.inl rfl) (zbd zcz (zbd op_mul (pv 4) (pv 3)) (pv 5))) (zah (zan (i:=5) sc_tape.nd rfl (Or.inl rfl) (zbd op_mod (zbd zcz (zbd zcz (zbd op_mul (pv 5) (pv 5)) (zbd op_mul zag (pv 1))) (pv 6)) (pv 3)))))) (zah (zao (zch (zaa (pv 4) zac))))))))),?_⟩
 refine⟨_,rfl,_,rfl,scr,ns,k,rfl,hS,hk,fun c=> ?_⟩
 refine⟨_,rfl,_,_,rfl,rfl,(by show(0:Int)<2;decide),rfl,_,rfl,?_⟩
 refine ite2 (fun c1=> ?_) (fun c1=> ?_)
 ·exact⟨_,rfl,_,_,rfl,rfl,⟨by decide,by decide⟩,(by show 1<=sizeLine;decide),fun p hp=>q p _ _ (zad hp _) zab hp⟩
 ·refine⟨_,rfl,_,rfl,_,_,rfl,rfl,(by show(0:Int)<2305843009213693951;decide),_,_,rfl,rfl,.inr ⟨by decide,by decide⟩,_,rfl,_,_,rfl,rfl,.inl ⟨by decide,by decide⟩,_,_,rfl,rfl,_,_,rfl,rfl,_,rfl,_,_,rfl,rfl,(by show(0:Int)<2305843009213693951;decide),?_⟩
  generalize hfirst:((fun i j=>V.int (i %j)) _ _:V)=vf
  obtain⟨a1,e1,a2,a3⟩:∃a:Int,vf= .int a/\0<=a/\a<2305843009213693951:=⟨_,hfirst.symm,mod_nn _ (by decide),mod_lt _ (by decide)⟩
  rw[e1]
  refine⟨9,rfl,by decide,by decide,?_⟩
  refine zdc (n:=9) (fun i σ H'=>H'=H/\∃(b l:Int) (o:Option V),σ=[some (.ref scr),some (.int k),some (.int c),some (.int 2305843009213693951),some (.int b),some (.int l),o]/\0<=l/\l<2305843009213693951) ⟨rfl,_,_,_,rfl,a2,a3⟩ (fun i σ H' hi p=> ?_) (fun σ H' p=> ?_)
  ·obtain⟨rfl,b,l,o,rfl,h0,h1⟩:=p
   refine⟨_,rfl,_,rfl,_,_,rfl,rfl,.inr ⟨by decide,by decide⟩,_,rfl,_,_,rfl,rfl,?_⟩
   refine⟨_,rfl,_,rfl,_,_,rfl,rfl,.inl ⟨by omega,by omega⟩,_,rfl,_,_,rfl,rfl,.inl ⟨by decide,by decide⟩,_,_,rfl,rfl,_,rfl,_,_,rfl,rfl,_,rfl,_,_,rfl,rfl,(by show(0:Int)<2305843009213693951;decide),?_⟩
   exact⟨rfl,_,_,_,rfl,mod_nn _ (by decide),mod_lt _ (by decide)⟩
  ·obtain⟨rfl,b,l,o,rfl,h0,h1⟩:=p
   exact⟨_,rfl,(by show 1<=sizeLine;decide),fun p hp=>q p _ _ (zad hp _) zab hp⟩
noncomputable def spDig(K:W.Frag):Sp:=fun vs H Q _=>∃(tp:Addr) (t m:Int),vs=[.ref tp,.int m]/\H tp=some (.lst [.int t])/\0<m/\m<1000000000000000000000000000000/\∀r t':Int,0<=r->r<m->Q (.int r) (upd H tp (.lst [.int t']))
theorem sc_dig:FnScope ["tape","many","found"] ["tape","many"] (defScope zba):=⟨rfl,rfl,rfl,by decide+kernel,rfl,by decide+kernel,by decide+kernel⟩
theorem ok_dig{f:Addr}{fd:FuncData}(F:Fun K "_law_adigit" "_law_adigit" zba f fd):FnOk P w K mg base CX0 1 f fd ["tape","many"] (spDig K):=by
 refine F.ok sc_dig (fun vs H Q E h=> ?_) (fun cdv A outer s H vs Q E hr h=> ?_)
 ·obtain⟨m,n,k,rfl,_⟩:=h
  rfl
 obtain⟨tp,t,m,rfl,hH,hm0,hm1,q⟩:=h
 refine⟨_,zae (zan (i:=2) sc_dig.nd rfl (Or.inl rfl) (zbd op_mod (zbz ix_list (pv 0) zag (fun _ _=>rfl)) (pv 1))) (zae (ps_asg (zbd op_fdivL (zbz ix_list (pv 0) zag (fun _ _=>rfl)) (pv 1)) (pg_sub (pv 0) zag set_list)) (zah (zao (pv 2)))),?_⟩
 refine⟨_,rfl,tp,_,_,.int t,rfl,rfl,SqL.of hH,rfl,_,rfl,_,_,rfl,rfl,hm0,?_⟩
 refine⟨_,rfl,tp,_,_,.int t,rfl,rfl,SqL.of hH,rfl,_,rfl,_,_,rfl,rfl,⟨hm0,hm1⟩,_,rfl,tp,_,_,0,rfl,rfl,hH,rfl,?_⟩
 exact⟨_,rfl,q _ _ (mod_nn _ hm0) (mod_lt _ hm0)⟩
end
end Hs
namespace L2
open PySem
theorem DVs.append{K:W.Frag}{H:Hp}{xs ys:List V}{ds es:List PyData}(h:DVs K H xs ds)(h':DVs K H ys es):DVs K H (xs++ys) (ds++es):=
 DVs.rec (motive_1:=fun _ _ _=>True) (motive_2:=fun xs ds _=>DVs K H (xs++ys) (ds++es)) trivial (fun _=>trivial) (fun _=>trivial) (fun _=>trivial) (fun _ _ _=>trivial) (fun _ _ _=>trivial) (fun _=>trivial) (fun _ _=>trivial) h' (fun h _ _ t=> .cons h t) h
theorem DVs.snoc{K:W.Frag}{H:Hp}{xs:List V}{ds:List PyData}{x:V}{d:PyData}(h:DVs K H xs ds)(h':DV K H x d):DVs K H (xs++[x]) (ds++[d]):=h.append (.cons h' .nil)
theorem SameX.tup{K:W.Frag}{t:Addr}{H H':Hp}{a:Addr}{xs zs:List V}(e:SameX t H H')(n:H t=some (.lst zs))(h:SqT K H a xs):SqT K H' a xs:=by
 rcases h with(h|⟨o,h⟩)|h
 ·exact .inl (.inl (e _ _ (ne_of h n (by intro z;cases z)) h))
 ·exact .inl (.inr ⟨o,e _ _ (ne_of h n (by intro z;cases z)) h⟩)
 ·exact .inr h
end L2
namespace HsD
open PySem L2
theorem pairs_samex{K:W.Frag}{t:Addr}{H H':Hp}{zs:List V}(e:SameX t H H')(n:H t=some (.lst zs)){rs:List V}{ps:List (Int×Int)}(h:DVs K H rs (ps.map pairD)):DVs K H' rs (ps.map pairD):=by
 induction ps generalizing rs with
 |nil=>cases h;exact .nil
 |cons p ps ih=>
  cases h with
  |cons h tl=>
   refine .cons ?_ (ih tl)
   cases h with
   |tup h hd=>
    cases hd with
    |cons a1 t1=>
     cases a1
     cases t1 with
     |cons a2 t2=>
      cases a2
      cases t2
      exact .tup (e.tup n h) (.cons (.int _) (.cons (.int _) .nil))
theorem WebV.samex{K:W.Frag}{t:Addr}{H H':Hp}{zs:List V}{a:Addr}{n:Int}{ts:List (Int×Int)}(h:WebV K H a n ts)(e:SameX t H H')(hn:H t=some (.lst zs)):WebV K H' a n ts:=by
 obtain⟨u,rs,h1,h2,h3⟩:=h
 exact⟨u,rs,e.tup hn h1,e.tup hn h2,pairs_samex e hn h3⟩
structure Sub(j:Nat)(l:List Int):Prop where
 nd:l.Nodup
 lt:∀i∈l,0<=i/\i<(j:Int)
theorem Sub.nil(j:Nat):Sub j []:=⟨List.nodup_nil,fun i h=>(nomatch h)⟩
theorem Sub.sub{j:Nat}{l l':List Int}(h:Sub j l)(s:l'.Sublist l):Sub j l':=⟨h.nd.sublist s,fun i hi=>h.lt i (s.subset hi)⟩
theorem Sub.mono{j k:Nat}{l:List Int}(h:Sub j l)(e:j<=k):Sub k l:=⟨h.nd,fun i hi=>⟨(h.lt i hi).1,by have:=(h.lt i hi).2;omega⟩⟩
theorem Sub.snoc{j:Nat}{l:List Int}(h:Sub j l):Sub (j+1) (l++[(j:Int)]):=by
 refine⟨List.nodup_append.mpr ⟨h.nd,by simp,fun a ha b hb e=> ?_⟩,fun i hi=> ?_⟩
 ·have:=(h.lt a ha).2
  simp at hb
  omega
 ·rcases List.mem_append.mp hi with q|q
  ·exact⟨(h.lt i q).1,by have:=(h.lt i q).2;omega⟩
  ·simp at q;omega
theorem Sub.range(j:Nat):Sub j ((List.range j).map fun(k:Nat)=>(0+(k:Nat):Int)):=by
 refine⟨?_,fun i hi=> ?_⟩
 ·rw[List.nodup_iff_pairwise_ne,List.pairwise_map]
  exact(List.nodup_iff_pairwise_ne.mp List.nodup_range).imp fun{a b} h e=>h (by omega)
 ·obtain⟨k,hk,rfl⟩:=List.mem_map.mp hi
  have:=List.mem_range.mp hk
  omega
theorem nodup_len{α:Type} [DecidableEq α]:∀{l m:List α},l.Nodup->(∀a∈l,a∈m)->l.length<=m.length
 |[],m,_,_=>Nat.zero_le _
 |a::l,m,nd,h=>by
  have ha:=h a List.mem_cons_self
  have nd':=List.nodup_cons.mp nd
  have q:∀b∈l,b∈m.erase a:=fun b hb=>by
   have hne:b≠a:=fun e=>nd'.1 (e▸hb)
   exact(List.mem_erase_of_ne hne).mpr (h b (List.mem_cons_of_mem _ hb))
  have:=nodup_len nd'.2 q
  have e:=List.length_erase_of_mem ha
  have:0<m.length:=List.length_pos_of_mem ha
  simp only[List.length_cons]
  omega
theorem Sub.len{j:Nat}{l:List Int}(h:Sub j l):l.length<=j:=by
 have q:=nodup_len (m:=(List.range j).map fun(k:Nat)=>(k:Int)) h.nd fun i hi=>by
  have:=h.lt i hi
  exact List.mem_map.mpr ⟨i.toNat,List.mem_range.mpr (by omega),by omega⟩
 simpa using q
structure PairsOk(n:Int)(ps:List (Int×Int)):Prop where
 nd:ps.Nodup
 lt:∀p∈ps,0<=p.1/\p.1<p.2/\p.2<n
theorem PairsOk.nil(n:Int):PairsOk n []:=⟨List.nodup_nil,fun p h=>(nomatch h)⟩
noncomputable def allP(n:Nat):List (Int×Int):=((List.range n).map fun(j:Nat)=>(List.range j).map fun(i:Nat)=>((i:Int),(j:Int))).flatten
theorem pairs_len{n:Int}{ps:List (Int×Int)}(h:PairsOk n ps)(hn:n<=10):ps.length<=45:=by
 have q:=nodup_len (m:=allP 10) h.nd fun p hp=>by
  obtain⟨h0,h1,h2⟩:=h.lt p hp
  obtain⟨a,b⟩:=p
  dsimp only at h0 h1 h2
  refine List.mem_flatten.mpr ⟨(List.range b.toNat).map fun(i:Nat)=>((i:Int),((b.toNat:Nat):Int)),List.mem_map.mpr ⟨b.toNat,List.mem_range.mpr (by omega),rfl⟩,List.mem_map.mpr ⟨a.toNat,List.mem_range.mpr (by omega),?_⟩⟩
  have e1:((a.toNat:Nat):Int)=a:=by omega
  have e2:((b.toNat:Nat):Int)=b:=by omega
  rw[e1,e2]
 have e:(allP 10).length=45:=by decide
 omega
end HsD
namespace HsD
open PySem L2
noncomputable def mp(l:List Int)(p:Int×Int):Int×Int:=
 (if l.getD p.2.toNat 0<l.getD p.1.toNat 0 then l.getD p.2.toNat 0 else l.getD p.1.toNat 0,if l.getD p.2.toNat 0>l.getD p.1.toNat 0 then l.getD p.2.toNat 0 else l.getD p.1.toNat 0)
theorem PairsOk.perm{n:Int}{ps qs:List (Int×Int)}(h:PairsOk n ps)(e:qs.Perm ps):PairsOk n qs:=⟨e.nodup_iff.mpr h.nd,fun p hp=>h.lt p (e.mem_iff.mp hp)⟩
noncomputable def pl(p:Int×Int):List Int:=[p.1,p.2]
theorem pl_inj{p q:Int×Int}(h:pl p=pl q):p=q:=by
 obtain⟨a,b⟩:=p
 obtain⟨c,d⟩:=q
 unfold pl at h
 simp at h
 rw[h.1,h.2]
theorem lex_of{a b:List Int}(h:HT.lexLt b a=false)(ne:a≠b):HT.lexLt a b=true:=by
 rw[HT.lexLt_iff]at h⊢
 have h1:¬b<a:=of_decide_eq_false h
 have h2:a<=b:=List.not_lt.mp h1
 refine decide_eq_true ?_
 rcases Classical.em (a<b)with h3|h3
 ·exact h3
 ·exact absurd (List.le_antisymm h2 (List.not_lt.mp h3)) ne
theorem tie_pair{n:Int}{p:Int×Int}(h0:0<=p.1)(h1:p.1<p.2)(h2:p.2<n):tieD n (pairD p)=true:=by
 show((placeD n (.int p.1)&&(placeD n (.int p.2)&&true))&&risesI [p.1,p.2]&&decide (([PyData.int p.1,PyData.int p.2]).length=2))=true
 have e1:placeD n (.int p.1)=true:=by
  show(decide (0<=p.1)&&decide (p.1<n))=true
  rw[decide_eq_true h0,decide_eq_true (by omega)];rfl
 have e2:placeD n (.int p.2)=true:=by
  show(decide (0<=p.2)&&decide (p.2<n))=true
  rw[decide_eq_true (by omega),decide_eq_true h2];rfl
 have e3:risesI [p.1,p.2]=true:=by
  show(decide (p.1<p.2)&&true)=true
  rw[decide_eq_true h1];rfl
 rw[e1,e2,e3];rfl
theorem web_ok{n:Int}{ts:List (Int×Int)}(hn0:0<=n)(hn1:n<=10)(h:PairsOk n ts)(hs:ts.Pairwise fun p q=>HT.lexLt (pl q) (pl p)=false):webD (webDat n ts)=true:=by
 show(true&&(decide (0<=n)&&decide (n<=10))&&((ts.map pairD).all (tieD n)&&risesT ((ts.map pairD).map fun t=>(kids t).map intD)))=true
 have e1:(ts.map pairD).all (tieD n)=true:=by
  rw[List.all_map,List.all_eq_true]
  intro p hp
  obtain⟨h0,h1,h2⟩:=h.lt p hp
  exact tie_pair h0 h1 h2
 have e2:(ts.map pairD).map (fun t=>(kids t).map intD)=ts.map pl:=by rw[List.map_map];rfl
 have e3:risesT (ts.map pl)=true:=by
  unfold risesT
  rw[List.all_eq_true]
  intro k hk
  have hk':k<ts.length-1:=by simpa using hk
  have g1:(ts.map pl).getD k []=pl ts[k]:=by rw[List.getD_eq_getElem?_getD,List.getElem?_map,List.getElem?_eq_getElem (by omega)];rfl
  have g2:(ts.map pl).getD (k+1) []=pl ts[k+1]:=by rw[List.getD_eq_getElem?_getD,List.getElem?_map,List.getElem?_eq_getElem (by omega)];rfl
  rw[g1,g2]
  refine lex_of (List.pairwise_iff_getElem.mp hs k (k+1) (by omega) (by omega) (by omega)) fun e=> ?_
  have:=(List.getElem_inj h.nd).mp (pl_inj e)
  omega
 rw[decide_eq_true hn0,decide_eq_true hn1,e1,e2,e3];rfl
end HsD
namespace HsD
open PySem L2
noncomputable def tiedL(ts:List (Int×Int))(i j:Int):Bool:=decide ((i,j)∈ts)||decide ((j,i)∈ts)
theorem tied_eq{n:Int}{ts:List (Int×Int)}(h:PairsOk n ts)(i j:Int):hasTie ts i j=tiedL ts i j:=by
 unfold hasTie tiedL
 have no:∀{a b:Int},b<=a->decide ((a,b)∈ts)=false:=fun{a b} hab=>decide_eq_false fun hm=>by
  have:=(h.lt _ hm).2.1
  dsimp only at this
  omega
 rcases Int.lt_trichotomy i j with c|c|c
 ·rw[if_neg (show¬j<i by omega),if_pos (show j>i by omega),no (show i<=j by omega),Bool.or_false]
 ·subst c
  rw[if_neg (show¬i<i by omega),Bool.or_self]
  try rw[if_neg (show¬i>i by omega)]
 ·rw[if_pos (show j<i by omega),if_neg (show¬j>i by omega),no (show j<=i by omega),Bool.false_or]
end HsD
namespace Hs
open PySem L2 HsD
noncomputable def lt2(p q:Int×Int):Prop:=p.1<q.1\/(p.1=q.1/\p.2<q.2)
theorem lt2.trans{p q r:Int×Int}(a:lt2 p q)(b:lt2 q r):lt2 p r:=by
 unfold lt2 at *;omega
theorem lt2.irr{p:Int×Int}(a:lt2 p p):False:=by
 unfold lt2 at a;omega
theorem lex_lt2{p q:Int×Int}(h:HT.lexLt (pl p) (pl q)=true):lt2 p q:=by
 rw[HT.lexLt_iff]at h
 have:=of_decide_eq_true h
 unfold pl at this
 rw[List.cons_lt_cons_iff]at this
 rcases this with a|⟨a,b⟩
 ·exact .inl a
 ·rw[List.cons_lt_cons_iff]at b
  rcases b with b|⟨_,b⟩
  ·exact .inr ⟨a,b⟩
  ·exact absurd b (by simp)
theorem pairwise_of_adj{l:List (Int×Int)}(h:∀k,(hk:k+1<l.length)->lt2 l[k] l[k+1]):l.Pairwise lt2:=by
 rw[List.pairwise_iff_getElem]
 intro i j hi hj hij
 have go:∀d:Nat,(hd:i+1+d<l.length)->lt2 l[i] l[i+1+d]:=by
  intro d
  induction d with
  |zero=>intro hd;exact h i hd
  |succ d ih=>intro hd;exact(ih (by omega)).trans (h (i+1+d) hd)
 have e:j=i+1+(j-i-1):=by omega
 have:=go (j-i-1) (by omega)
 simpa[<-e]using this
theorem web_sorted{n:Int}{ts:List (Int×Int)}(h:WebOk n ts):ts.Pairwise lt2:=by
 have h1:tiesD n (.tuple (ts.map pairD))=true:=by
  unfold WebOk webDat webD at h
  rw[Bool.and_eq_true]at h
  exact h.2
 unfold tiesD at h1
 rw[Bool.and_eq_true]at h1
 have h2:=h1.2
 unfold risesT at h2
 rw[List.all_eq_true]at h2
 refine pairwise_of_adj fun k hk=> ?_
 have e:(List.map (fun t=>(kids t).map intD) (ts.map pairD))=ts.map pl:=by
  rw[List.map_map];rfl
 rw[e,List.length_map]at h2
 have h3:=h2 k (by rw[List.mem_range];omega)
 have g:∀j,(hj:j<ts.length)->(ts.map pl).getD j []=pl ts[j]:=fun j hj=>by
  rw[List.getD_eq_getElem?_getD,List.getElem?_map,List.getElem?_eq_getElem hj];rfl
 rw[g k (by omega),g (k+1) hk]at h3
 exact lex_lt2 h3
noncomputable def row(so:Int->Int->Bool)(i:Int)(k:Nat):List (Int×Int):=((List.range k).map fun(t:Nat)=>(i,i+1+(t:Int))).filter fun p=>so p.1 p.2
noncomputable def rows(so:Int->Int->Bool)(m:Int)(i:Nat):List (Int×Int):=((List.range i).map fun(t:Nat)=>row so (0+(t:Int)) (m-(0+(t:Int)+1)).toNat).flatten
theorem row_succ(so:Int->Int->Bool)(i:Int)(k:Nat):row so i (k+1)=row so i k++(if so i (i+1+(k:Int))=true then[(i,i+1+(k:Int))]else[]):=by
 unfold row
 rw[List.range_succ,List.map_append,List.filter_append]
 congr 1
 show List.filter _ [(i,i+1+(k:Int))]=_
 rw[List.filter_cons]
 rfl
theorem rows_succ(so:Int->Int->Bool)(m:Int)(i:Nat):rows so m (i+1)=rows so m i++row so (0+(i:Int)) (m-(0+(i:Int)+1)).toNat:=by
 unfold rows
 rw[List.range_succ,List.map_append,List.flatten_append]
 simp
theorem mem_row{so:Int->Int->Bool}{i:Int}{k:Nat}{p:Int×Int}:p∈row so i k↔p.1=i/\i<p.2/\p.2<i+1+(k:Int)/\so p.1 p.2=true:=by
 unfold row
 rw[List.mem_filter,List.mem_map]
 constructor
 ·rintro⟨⟨t,ht,rfl⟩,h⟩
  rw[List.mem_range]at ht
  exact⟨rfl,by show i<i+1+(t:Int);omega,by show i+1+(t:Int)<_;omega,h⟩
 ·rintro⟨h1,h2,h3,h4⟩
  refine⟨⟨(p.2-i-1).toNat,by rw[List.mem_range];omega,?_⟩,h4⟩
  apply Prod.ext
  ·exact h1.symm
  ·show i+1+(((p.2-i-1).toNat:Nat):Int)=p.2;omega
theorem mem_rows{so:Int->Int->Bool}{m:Int}:∀{i:Nat} {p:Int×Int},p∈rows so m i↔0<=p.1/\p.1<(i:Int)/\p.1<p.2/\p.2<m/\so p.1 p.2=true
 |0,p=>by
  constructor
  ·intro h;simp[rows]at h
  ·intro h;omega
 |i+1,p=>by
  rw[rows_succ,List.mem_append,mem_rows (i:=i),mem_row]
  constructor
  ·rintro(h|h)
   ·exact⟨h.1,by omega,h.2.2⟩
   ·exact⟨by omega,by omega,by omega,by omega,h.2.2.2⟩
  ·rintro⟨h1,h2,h3,h4,h5⟩
   by_cases e:p.1<(i:Int)
   ·exact .inl ⟨h1,e,h3,h4,h5⟩
   ·exact .inr ⟨by omega,by omega,by omega,h5⟩
theorem row_sorted(so:Int->Int->Bool)(i:Int)(k:Nat):(row so i k).Pairwise lt2:=by
 unfold row
 refine List.Pairwise.filter _ ?_
 rw[List.pairwise_map]
 exact List.pairwise_lt_range.imp fun h=> .inr ⟨rfl,by show i+1+_<i+1+_;omega⟩
theorem rows_sorted(so:Int->Int->Bool)(m:Int):∀i:Nat,(rows so m i).Pairwise lt2
 |0=>by unfold rows;exact List.Pairwise.nil
 |i+1=>by
  rw[rows_succ,List.pairwise_append]
  refine⟨rows_sorted so m i,row_sorted so _ _,fun p hp q hq=> ?_⟩
  rw[mem_rows]at hp
  rw[mem_row]at hq
  exact .inl (by omega)
theorem rows_ok{so:Int->Int->Bool}{m:Int}{i:Nat}:PairsOk m (rows so m i):=
 ⟨(rows_sorted so m i).imp fun h e=>by subst e;exact lt2.irr h,fun p hp=>by rw[mem_rows]at hp;exact⟨hp.1,hp.2.2.1,hp.2.2.2.1⟩⟩
theorem nodup_lt2{l:List (Int×Int)}(h:l.Pairwise lt2):l.Nodup:=h.imp fun h e=>by subst e;exact lt2.irr h
end Hs
namespace L2
open PySem
theorem DVs.get'{K:W.Frag}{H:Hp}:∀{xs:List V} {ds:List PyData} {i:Nat},DVs K H xs ds->i<ds.length->∃x d,xs[i]? =some x/\ds[i]? =some d/\DV K H x d
 |_,_,i,.nil,h=>by simp at h
 |_,_,0,.cons h _,_=>⟨_,_,rfl,rfl,h⟩
 |_,_,i+1,.cons _ t,h=>by
  obtain⟨x,d,h1,h2,h3⟩:=DVs.get' (i:=i) t (by simpa using h)
  exact⟨x,d,by simpa using h1,by simpa using h2,h3⟩
end L2
namespace Hs
open PySem L2 HsD
theorem map_take_succ{α β γ:Type}{f:α->β}{g:β->γ}{l:List α}{i:Nat}(hi:i<l.length):((l.take i).map f).map g++[g (f l[i])]=((l.take (i+1)).map f).map g:=by
 rw[List.take_add_one,List.getElem?_eq_getElem hi,List.map_append,List.map_append]
 rfl
structure WebIs(K:W.Frag)(H:Hp)(a:Addr)(n:Int)(ts:List (Int×Int)):Prop where
 web:WebV K H a n ts
 h0:0<=n
 h1:n<=10
 pk:PairsOk n ts
 ok:WebOk n ts
theorem WebIs.same{K:W.Frag}{H H':Hp}{a:Addr}{n:Int}{ts:List (Int×Int)}(h:WebIs K H a n ts)(e:Same H H'):WebIs K H' a n ts:=⟨h.web.same e,h.h0,h.h1,h.pk,h.ok⟩
theorem WebIs.samex{K:W.Frag}{H H':Hp}{t a:Addr}{zs:List V}{n:Int}{ts:List (Int×Int)}(h:WebIs K H a n ts)(e:SameX t H H')(hn:H t=some (.lst zs)):WebIs K H' a n ts:=⟨h.web.samex e hn,h.h0,h.h1,h.pk,h.ok⟩
theorem WebIs.len{K:W.Frag}{H:Hp}{a:Addr}{n:Int}{ts:List (Int×Int)}(h:WebIs K H a n ts):ts.length<=45:=pairs_len h.pk h.h1
theorem WebIs.srt{K:W.Frag}{H:Hp}{a:Addr}{n:Int}{ts:List (Int×Int)}(h:WebIs K H a n ts):ts.Pairwise lt2:=web_sorted h.ok
noncomputable def tt(_ _:Int):Bool:=true
theorem lt2_lex{p q:Int×Int}(h:lt2 p q):HT.lexLt (pl q) (pl p)=false:=by
 rw[HT.lexLt_iff]
 refine decide_eq_false fun z=> ?_
 have:lt2 q p:=lex_lt2 (by rw[HT.lexLt_iff];exact decide_eq_true z)
 exact lt2.irr (h.trans this)
theorem web_of_sub{n:Int}{ts:List (Int×Int)}{i:Nat}(h0:0<=n)(h1:n<=10)(h:ts.Sublist (rows tt n i)):PairsOk n ts/\WebOk n ts:=by
 have hs:ts.Pairwise lt2:=(rows_sorted tt n i).sublist h
 have ho:PairsOk n ts:=⟨nodup_lt2 hs,fun p hp=>(rows_ok (so:=tt) (m:=n) (i:=i)).lt p (h.subset hp)⟩
 exact⟨ho,web_ok h0 h1 ho (hs.imp lt2_lex)⟩
theorem pair_at{K:W.Frag}{H:Hp}{rs:List V}{ps:List (Int×Int)}{i:Nat}{x:V}(h:DVs K H rs (ps.map pairD))(hx:rs[i]? =some x):∃(t:Addr) (hi:i<ps.length),x= .ref t/\SqT K H t [.int (ps[i]).1,.int (ps[i]).2]:=by
 have hlen:=h.len
 rw[List.length_map]at hlen
 have hi:i<ps.length:=by rw[<-hlen];exact(List.getElem?_eq_some_iff.mp hx).1
 obtain⟨x',d,e1,e2,e3⟩:=DVs.get' (i:=i) h (by rw[List.length_map];exact hi)
 rw[hx]at e1;cases e1
 rw[List.getElem?_map,List.getElem?_eq_getElem hi]at e2
 cases e2
 cases e3 with
 |tup hp tp=>
  cases tp with
  |cons ta tb=>
   cases tb with
   |cons tc td=>
    cases td
    cases ta
    cases tc
    exact⟨_,hi,rfl,hp⟩
theorem at_xs{xs:List Int}{i:Int}(h0:0<=i)(h1:i<(xs.length:Int)):atI (xs.map V.int) i=some (.int (xs.getD i.toNat 0)):=by
 have hk:i.toNat<xs.length:=by omega
 have ek:((i.toNat:Nat):Int)=i:=by omega
 have q:atI (xs.map V.int) ((i.toNat:Nat):Int)=some (.int (xs.getD i.toNat 0)):=atI_nat (by rw[List.getElem?_map,List.getElem?_eq_getElem hk,List.getD_eq_getElem?_getD,List.getElem?_eq_getElem hk];rfl)
 rw[ek]at q
 exact q
noncomputable def TiesL(K:W.Frag)(H:Hp)(l:Addr)(R:List (Int×Int))(P:Int×Int->Prop):Prop:=∃(rs:List V) (ts:List (Int×Int)),H l=some (.lst rs)/\DVs K H rs (ts.map pairD)/\ts.Sublist R/\∀p∈ts,P p
theorem TiesL.nil{K:W.Frag}{H:Hp}{l:Addr}{R:List (Int×Int)}{P:Int×Int->Prop}(h:H l=some (.lst [])):TiesL K H l R P:=⟨[],[],h,.nil,List.nil_sublist _,fun p hp=>(nomatch hp)⟩
theorem TiesL.same{K:W.Frag}{H H':Hp}{l:Addr}{R:List (Int×Int)}{P:Int×Int->Prop}(h:TiesL K H l R P)(e:Same H H'):TiesL K H' l R P:=by
 obtain⟨rs,ts,h1,h2,h3⟩:=h
 exact⟨rs,ts,e _ _ h1,h2.same e,h3⟩
theorem TiesL.step{K:W.Frag}{H H':Hp}{l c:Addr}{R:List (Int×Int)}{P:Int×Int->Prop}{zs:List V}(h:TiesL K H l R P)(e:SameX c H H')(hc:H c=some (.lst zs))(n:l≠c):TiesL K H' l R P:=by
 obtain⟨rs,ts,h1,h2,h3⟩:=h
 exact⟨rs,ts,e _ _ n h1,pairs_samex e hc h2,h3⟩
theorem TiesL.mono{K:W.Frag}{H:Hp}{l:Addr}{R R':List (Int×Int)}{P:Int×Int->Prop}(h:TiesL K H l R P)(e:R.Sublist R'):TiesL K H l R' P:=by
 obtain⟨rs,ts,h1,h2,h3,h4⟩:=h
 exact⟨rs,ts,h1,h2,h3.trans e,h4⟩
theorem TiesL.push{K:W.Frag}{H:Hp}{l p:Addr}{R:List (Int×Int)}{P:Int×Int->Prop}{i j:Int}{rs:List V}{ts:List (Int×Int)}(h1:H l=some (.lst rs))(h2:DVs K H rs (ts.map pairD))(h3:ts.Sublist R)(h4:∀p∈ts,P p)(hp:SqT K H p [.int i,.int j])(hP:P (i,j)):TiesL K (upd H l (.lst (rs++[.ref p]))) l (R++[(i,j)]) P:=by
 have x:SameX l H (upd H l (.lst (rs++[.ref p]))):=(SameX.refl _ _).upd
 refine⟨_,ts++[(i,j)],zab,?_,h3.append (List.Sublist.refl _),fun q hq=> ?_⟩
 ·rw[List.map_append]
  exact(pairs_samex x h1 h2).append (.cons (.tup (x.tup h1 hp) (.cons (.int _) (.cons (.int _) .nil))) .nil)
 ·rcases List.mem_append.mp hq with q'|q'
  ·exact h4 q q'
  ·rw[List.mem_singleton.mp q'];exact hP
theorem sub_len{n:Int}{ts:List (Int×Int)}{i k:Nat}(h1:n<=10)(hk:0+(i:Int)+1+(k:Int)<=n)(h:ts.Sublist (rows tt n i++row tt (0+(i:Int)) k)):ts.length<=45:=by
 refine pairs_len (n:=n) ⟨?_,fun p hp=> ?_⟩ h1
 ·refine nodup_lt2 (List.Pairwise.sublist h ?_)
  rw[List.pairwise_append]
  refine⟨rows_sorted _ _ _,row_sorted _ _ _,fun p hp q hq=> ?_⟩
  rw[mem_rows]at hp
  rw[mem_row]at hq
  exact .inl (by omega)
 ·rcases List.mem_append.mp (h.subset hp)with q|q
  ·rw[mem_rows]at q;exact⟨q.1,q.2.2.1,q.2.2.2.1⟩
  ·rw[mem_row]at q;exact⟨by omega,by omega,by omega⟩
section
variable{P:Program}{w:World}{K:W.Frag}{mg:Str->Option Value}{base:Heap}
end
end Hs
namespace Hs
open PySem L2 HsD
noncomputable def rgI(n:Nat):List Int:=(List.range n).map fun(t:Nat)=>(t:Int)
theorem mem_rgI{n:Nat}{x:Int}:x∈rgI n↔0<=x/\x<(n:Int):=by
 unfold rgI
 rw[List.mem_map]
 constructor
 ·rintro⟨t,ht,rfl⟩
  have:=List.mem_range.mp ht
  omega
 ·intro h
  exact⟨x.toNat,List.mem_range.mpr (by omega),by omega⟩
theorem rgI_len(n:Nat):(rgI n).length=n:=by unfold rgI;rw[List.length_map,List.length_range]
theorem rgI_succ(n:Nat):rgI (n+1)=rgI n++[(n:Int)]:=by unfold rgI;rw[List.range_succ,List.map_append];rfl
noncomputable def allS:Nat->List (List Int)
 |0=>[[]]
 |k+1=>allS k++(allS k).map fun s=>s++[(k:Int)]
theorem zbq:∀k,(allS k).length=2^k
 |0=>rfl
 |k+1=>by
  show(allS k++(allS k).map fun s=>s++[(k:Int)]).length=_
  rw[List.length_append,List.length_map,zbq k,Nat.pow_succ];omega
theorem zdi:∀k,∀s∈allS k,s.length<=k
 |0,s,h=>by rw[List.mem_singleton.mp h];exact Nat.le_refl _
 |k+1,s,h=>by
  rcases List.mem_append.mp h with z|z
  ·exact Nat.le_succ_of_le (zdi k s z)
  ·obtain⟨t,ht,rfl⟩:=List.mem_map.mp z
   have:=zdi k t ht
   rw[List.length_append]
   show t.length+1<=k+1
   omega
theorem mem_sub1{a:Int}:∀{l:List Int},l.Sublist [a]->l=[]\/l=[a]
 |[],_=> .inl rfl
 |_::_,h=>by
  cases h with
  |cons _ h=>cases h
  |cons_cons _ h=>cases h;exact .inr rfl
theorem zbc:∀(n:Nat) (ys:List Int),ys∈allS n↔ys.Sublist (rgI n)
 |0,ys=>by
  show ys∈[[]]↔ys.Sublist []
  rw[List.mem_singleton,List.sublist_nil]
 |n+1,ys=>by
  show ys∈allS n++(allS n).map (fun s=>s++[(n:Int)])↔_
  rw[rgI_succ,List.mem_append,List.mem_map,List.sublist_append_iff,zbc n ys]
  constructor
  ·rintro(h|⟨s,hs,rfl⟩)
   ·exact⟨ys,[],(List.append_nil _).symm,h,List.nil_sublist _⟩
   ·exact⟨s,[(n:Int)],rfl,(zbc n s).mp hs,List.Sublist.refl _⟩
  ·rintro⟨l1,l2,rfl,h1,h2⟩
   rcases mem_sub1 h2 with rfl|rfl
   ·rw[List.append_nil];exact .inl h1
   ·exact .inr ⟨l1,(zbc n l1).mpr h1,rfl⟩
theorem zcw:∀n,(allS n).Nodup
 |0=>by show List.Nodup [[]];simp
 |n+1=>by
  show(allS n++(allS n).map (fun s=>s++[(n:Int)])).Nodup
  refine List.nodup_append.mpr ⟨zcw n,?_,fun a ha b hb e=> ?_⟩
  ·unfold List.Nodup
   rw[List.pairwise_map]
   exact(zcw n).imp fun{x y} h z=>h (List.append_cancel_right z)
  ·subst e
   obtain⟨s,_,rfl⟩:=List.mem_map.mp hb
   have:=mem_rgI.mp (((zbc n _).mp ha).subset (List.mem_append_right _ (List.mem_singleton_self _)))
   omega
theorem allS_take:∀(n i:Nat) (xs ys:List Int),(allS n)[i]? =some xs->ys.Sublist xs->ys≠xs->ys∈(allS n).take i
 |0,i,xs,ys,h,hs,hn=>by
  have h':([[]]:List (List Int))[i]? =some xs:=h
  cases i with
  |zero=>
   simp at h'
   subst h'
   exact absurd (List.sublist_nil.mp hs) hn
  |succ i=>simp at h'
 |n+1,i,xs,ys,h,hs,hn=>by
  show ys∈(allS n++(allS n).map (fun s=>s++[(n:Int)])).take i
  have h':(allS n++(allS n).map (fun s=>s++[(n:Int)]))[i]? =some xs:=h
  by_cases hi:i<(allS n).length
  ·rw[List.getElem?_append_left hi]at h'
   rw[List.take_append_of_le_length (Nat.le_of_lt hi)]
   exact allS_take n i xs ys h' hs hn
  ·have hi:=Nat.not_lt.mp hi
   rw[List.getElem?_append_right hi,List.getElem?_map]at h'
   cases e:(allS n)[i-(allS n).length]? with
   |none=>rw[e]at h';cases h'
   |some zs=>
    rw[e]at h'
    cases h'
    rw[List.take_append,List.mem_append,List.take_of_length_le hi]
    obtain⟨l1,l2,rfl,h1,h2⟩:=List.sublist_append_iff.mp hs
    have mz:zs.Sublist (rgI n):=(zbc n zs).mp (List.mem_of_getElem? e)
    rcases mem_sub1 h2 with rfl|rfl
    ·rw[List.append_nil];exact .inl ((zbc n _).mpr (h1.trans mz))
    ·refine .inr ?_
     rw[<-List.map_take]
     exact List.mem_map.mpr ⟨l1,allS_take n _ zs l1 e h1 (fun z=>hn (by rw[z])),rfl⟩
noncomputable def wo(xs p:List Int):List Int:=xs.filter fun o=> !decide (o∈p)
theorem wo_sub(xs p:List Int):(wo xs p).Sublist xs:=List.filter_sublist
theorem mem_wo{xs p:List Int}{x:Int}:x∈wo xs p↔x∈xs/\x∉p:=by
 unfold wo
 rw[List.mem_filter]
 simp
theorem wo_ne{x:Int}{r p:List Int}(h:x∈p):wo (x::r) p≠x::r:=fun e=>by
 have:x∈wo (x::r) p:=by rw[e];exact List.mem_cons_self
 exact(mem_wo.mp this).2 h
theorem wo_lt{x:Int}{r p:List Int}(h:x∈p):(wo (x::r) p).length<(x::r).length:=
 Nat.lt_of_le_of_ne (wo_sub _ _).length_le fun e=>wo_ne h ((wo_sub _ _).eq_of_length e)
noncomputable abbrev St1:=List Int->Int->Bool
noncomputable def fpStep(st:St1)(found:List (List Int))(x:Int):List (List Int):=found++(found.filter fun p=>st p x).map fun p=>p++[x]
noncomputable def fpUp(st:St1)(xs:List Int)(k:Nat):List (List Int):=((xs.drop 1).take k).foldl (fpStep st) [xs.take 1]
noncomputable def fpG(st:St1)(xs:List Int):List (List Int):=(xs.drop 1).foldl (fpStep st) [xs.take 1]
theorem fpUp_all(st:St1)(xs:List Int):fpUp st xs (xs.drop 1).length=fpG st xs:=by unfold fpUp fpG;rw[List.take_length]
theorem fpUp_succ{st:St1}{xs:List Int}{k:Nat}{y:Int}(h:(xs.drop 1)[k]? =some y):fpUp st xs (k+1)=fpStep st (fpUp st xs k) y:=by
 unfold fpUp
 rw[List.take_add_one (l:=xs.drop 1),h,List.foldl_append];rfl
theorem fpUp_len(st:St1)(xs:List Int):∀k,(fpUp st xs k).length<=2^k
 |0=>by show([xs.take 1]:List (List Int)).length<=1;simp
 |k+1=>by
  have ih:=fpUp_len st xs k
  cases e:(xs.drop 1)[k]? with
  |none=>
   have:fpUp st xs (k+1)=fpUp st xs k:=by unfold fpUp;rw[List.take_add_one (l:=xs.drop 1),e];simp
   rw[this]
   exact Nat.le_trans ih (Nat.pow_le_pow_right (by decide) (Nat.le_succ k))
  |some y=>
   rw[fpUp_succ e]
   unfold fpStep
   rw[List.length_append,List.length_map]
   have:=List.length_filter_le (fun p=>st p y) (fpUp st xs k)
   rw[Nat.pow_succ];omega
theorem zdb{st:St1}{x:Int}{r:List Int}:∀(k:Nat),∀p∈fpUp st (x::r) k,p.Sublist (x::r.take k)/\x∈p
 |0,p,h=>by
  have h':p∈[[x]]:=h
  rw[List.mem_singleton.mp h']
  exact⟨by simp,List.mem_singleton_self _⟩
 |k+1,p,h=>by
  cases e:r[k]? with
  |none=>
   have e1:fpUp st (x::r) (k+1)=fpUp st (x::r) k:=by unfold fpUp;show((r.take (k+1)).foldl _ _)=((r.take k).foldl _ _);rw[List.take_add_one (l:=r),e];simp
   rw[e1]at h
   obtain⟨h1,h2⟩:=zdb k p h
   exact⟨h1.trans (by rw[List.take_add_one,e];simp),h2⟩
  |some y=>
   rw[fpUp_succ (xs:=x::r) (show((x::r).drop 1)[k]? =some y from e)]at h
   have et:x::r.take (k+1)=(x::r.take k)++[y]:=by rw[List.take_add_one,e];rfl
   rw[et]
   rcases List.mem_append.mp h with z|z
   ·obtain⟨h1,h2⟩:=zdb k p z
    exact⟨h1.trans (List.sublist_append_left _ _),h2⟩
   ·obtain⟨q,hq,rfl⟩:=List.mem_map.mp z
    obtain⟨h1,h2⟩:=zdb k q (List.mem_filter.mp hq).1
    exact⟨h1.append (List.Sublist.refl _),List.mem_append_left _ h2⟩
theorem fpG_part{st:St1}{x:Int}{r:List Int}{p:List Int}(h:p∈fpG st (x::r)):p.Sublist (x::r)/\x∈p:=by
 rw[<-fpUp_all]at h
 have:=zdb _ p h
 have e:r.take ((x::r).drop 1).length=r:=List.take_length
 rw[e]at this
 exact this
theorem fpG_ne(st:St1)(xs:List Int):fpG st xs≠[]:=by
 have key:∀(l:List Int) (f:List (List Int)),f≠[]->l.foldl (fpStep st) f≠[]:=fun l=>by
  induction l with
  |nil=>intro f h;exact h
  |cons a l ih=>intro f h;exact ih _ (by unfold fpStep;intro z;exact h (List.append_eq_nil_iff.mp z).1)
 exact key _ _ (by simp)
noncomputable def standB(ts:List (Int×Int)):St1:=fun part x=> !(part.any fun o=>hasTie ts o x)
noncomputable abbrev fparts(ts:List (Int×Int)):List Int->List (List Int):=fpG (standB ts)
theorem fparts_apart{ts:List (Int×Int)}{xs p:List Int}(h:p∈fparts ts xs):p.Pairwise fun a b=>hasTie ts a b=false:=by
 have key:∀(l:List Int) (f:List (List Int)),(∀p∈f,p.Pairwise fun a b=>hasTie ts a b=false)->∀p∈l.foldl (fpStep (standB ts)) f,p.Pairwise fun a b=>hasTie ts a b=false:=fun l=>by
  induction l with
  |nil=>intro f h;exact h
  |cons a l ih=>
   intro f h
   refine ih _ fun p hp=> ?_
   rcases List.mem_append.mp hp with z|z
   ·exact h p z
   ·obtain⟨q,hq,rfl⟩:=List.mem_map.mp z
    obtain⟨h1,h2⟩:=List.mem_filter.mp hq
    rw[List.pairwise_append]
    refine⟨h q h1,List.pairwise_singleton _ _,fun o ho y hy=> ?_⟩
    rw[List.mem_singleton.mp hy]
    unfold standB at h2
    rw[Bool.not_eq_true',List.any_eq_false]at h2
    have:=h2 o ho
    simpa using this
 refine key _ _ (fun p hp=> ?_) p h
 rw[List.mem_singleton.mp hp]
 cases xs with
 |nil=>exact List.Pairwise.nil
 |cons x r=>exact List.pairwise_singleton _ _
noncomputable def mnL:List Int->Int
 |[]=>0
 |[a]=>a
 |a::b::l=>if a<=mnL (b::l)then a else mnL (b::l)
theorem mnL_is:∀{ns:List Int},ns≠[]->mnL ns∈ns/\∀n∈ns,mnL ns<=n
 |[],h=>absurd rfl h
 |[a],_=>⟨List.mem_singleton_self _,fun n hn=>by rw[List.mem_singleton.mp hn];exact Int.le_refl _⟩
 |a::b::l,_=>by
  obtain⟨h1,h2⟩:=mnL_is (ns:=b::l) (by simp)
  show(if a<=mnL (b::l)then a else mnL (b::l))∈_/\∀n∈_,(if a<=mnL (b::l)then a else mnL (b::l))<=n
  by_cases c:a<=mnL (b::l)
  ·rw[if_pos c]
   refine⟨List.mem_cons_self,fun n hn=> ?_⟩
   rcases List.mem_cons.mp hn with z|z
   ·rw[z];exact Int.le_refl _
   ·exact Int.le_trans c (h2 n z)
  ·rw[if_neg c]
   refine⟨List.mem_cons_of_mem _ h1,fun n hn=> ?_⟩
   rcases List.mem_cons.mp hn with z|z
   ·rw[z];omega
   ·exact h2 n z
theorem mnL_eq{ns:List Int}{m:Int}(h1:m∈ns)(h2:∀n∈ns,m<=n):m=mnL ns:=by
 have hn:ns≠[]:=fun e=>by rw[e]at h1;cases h1
 obtain⟨a,b⟩:=mnL_is hn
 exact Int.le_antisymm (h2 _ a) (b _ h1)
noncomputable def hiF(g:List Int->Int)(ts:List (Int×Int))(xs:List Int):Int:=if xs=[]then 0 else 1+mnL ((fparts ts xs).map fun p=>g (wo xs p))
theorem hiF_congr{g g':List Int->Int}{ts:List (Int×Int)}{xs:List Int}(h:∀ys:List Int,ys.Sublist xs->ys≠xs->g ys=g' ys):hiF g ts xs=hiF g' ts xs:=by
 unfold hiF
 cases xs with
 |nil=>rfl
 |cons x r=>
  rw[if_neg (by simp),if_neg (by simp)]
  congr 2
  exact List.map_congr_left fun p hp=>h _ (wo_sub _ _) (wo_ne (fpG_part hp).2)
noncomputable def floN(ts:List (Int×Int)):Nat->List Int->Int
 |0,_=>0
 |k+1,xs=>hiF (floN ts k) ts xs
theorem floN_two(ts:List (Int×Int)):∀(k j:Nat) (xs:List Int),xs.length<=k->xs.length<=j->floN ts k xs=floN ts j xs
 |0,j,xs,h,_=>by
  have e:xs=[]:=List.length_eq_zero_iff.mp (Nat.le_zero.mp h)
  subst e
  cases j with
  |zero=>rfl
  |succ j=>rfl
 |k+1,0,xs,_,h=>by
  have e:xs=[]:=List.length_eq_zero_iff.mp (Nat.le_zero.mp h)
  subst e
  rfl
 |k+1,j+1,xs,h1,h2=>by
  show hiF (floN ts k) ts xs=hiF (floN ts j) ts xs
  refine hiF_congr fun ys hs hn=> ?_
  have:ys.length<xs.length:=Nat.lt_of_le_of_ne hs.length_le fun e=>hn (hs.eq_of_length e)
  exact floN_two ts k j ys (by omega) (by omega)
noncomputable def flo(ts:List (Int×Int))(xs:List Int):Int:=floN ts xs.length xs
theorem flo_eq(ts:List (Int×Int))(xs:List Int):flo ts xs=hiF (flo ts) ts xs:=by
 unfold flo
 rw[floN_two ts xs.length (xs.length+1) xs (Nat.le_refl _) (Nat.le_succ _)]
 refine hiF_congr (g:=floN ts xs.length) fun ys hs hn=> ?_
 exact floN_two ts _ _ ys hs.length_le (Nat.le_refl _)
theorem flo_nil(ts:List (Int×Int)):flo ts []=0:=rfl
theorem flo_best{ts:List (Int×Int)}{xs p:List Int}(hx:xs≠[])(hp:p∈fparts ts xs)(hb:∀q∈fparts ts xs,flo ts (wo xs p)<=flo ts (wo xs q)):flo ts xs=1+flo ts (wo xs p):=by
 rw[flo_eq,hiF,if_neg hx]
 rw[<-mnL_eq (m:=flo ts (wo xs p)) (List.mem_map.mpr ⟨p,hp,rfl⟩) fun n hn=> ?_]
 obtain⟨q,hq,rfl⟩:=List.mem_map.mp hn
 exact hb q hq
noncomputable def setK(f:List Int->Int)(l:List (List Int)):List (List Key×V):=l.map fun s=>(s.map Sum.inl,V.int (f s))
theorem inl_inj':∀{a b:List Int},(a.map (Sum.inl (β:=Str))=b.map Sum.inl)->a=b
 |[],[],_=>rfl
 |[],_::_,h=>by cases h
 |_::_,[],h=>by cases h
 |a::l,b::m,h=>by
  rw[List.map_cons,List.map_cons]at h
  injection h with h1 h2
  injection h1 with h1
  rw[h1,inl_inj' h2]
theorem zav(f:List Int->Int)(k:List Int):∀l:List (List Int),valV (setK f l) (k.map Sum.inl)=if k∈l then some (.int (f k))else none
 |[]=>rfl
 |s::l=>by
  show valV ((s.map Sum.inl,V.int (f s))::setK f l) (k.map Sum.inl)=_
  by_cases e:s=k
  ·subst e
   rw[valV_pos rfl,if_pos List.mem_cons_self]
  ·rw[valV_neg (fun z=>e (inl_inj' z)),zav f k l]
   by_cases c:k∈l
   ·rw[if_pos c,if_pos (List.mem_cons_of_mem _ c)]
   ·rw[if_neg c,if_neg fun z=>(List.mem_cons.mp z).elim (fun y=>e y.symm) c]
theorem setK_put{f:List Int->Int}{l:List (List Int)}{s:List Int}(h:s∉l):putK (setK f l) (s.map Sum.inl) (.int (f s))=setK f (l++[s]):=by
 rw[putK_new _ (by rw[zav,if_neg h])]
 unfold setK
 rw[List.map_append];rfl
theorem zbn(f:List Int->Int)(l:List (List Int)):(setK f l).length=l.length:=List.length_map _
noncomputable def setA(hs:List Int)(p:List Int)(h:Int):List Int:=p.foldl (fun l q=>l.set q.toNat h) hs
theorem setA_len(h:Int):∀(p hs:List Int),(setA hs p h).length=hs.length
 |[],_=>rfl
 |q::p,hs=>by
  show(setA (hs.set q.toNat h) p h).length=_
  rw[setA_len h p,List.length_set]
theorem getD_set{hs:List Int}{a b:Nat}{h:Int}(hb:b<hs.length):(hs.set a h).getD b 0=if a=b then h else hs.getD b 0:=by
 rw[List.getD_eq_getElem?_getD,List.getElem?_set]
 by_cases e:a=b
 ·subst e
  rw[if_pos rfl,if_pos hb,if_pos rfl];rfl
 ·rw[if_neg e,if_neg e,List.getD_eq_getElem?_getD]
theorem getD_setA(h:Int){b:Nat}:∀(p hs:List Int),b<hs.length->(∀q∈p,0<=q)->(setA hs p h).getD b 0=if(b:Int)∈p then h else hs.getD b 0
 |[],hs,_,_=>by rw[if_neg (by simp)];rfl
 |q::p,hs,hb,hp=>by
  show(setA (hs.set q.toNat h) p h).getD b 0=_
  rw[getD_setA h p _ (by rw[List.length_set];exact hb) fun z hz=>hp z (List.mem_cons_of_mem _ hz),getD_set hb]
  have hq:=hp q List.mem_cons_self
  by_cases c:(b:Int)∈p
  ·rw[if_pos c,if_pos (List.mem_cons_of_mem _ c)]
  ·rw[if_neg c]
   by_cases e:q.toNat=b
   ·rw[if_pos e,if_pos (by rw[show(b:Int)=q by omega];exact List.mem_cons_self)]
   ·rw[if_neg e,if_neg fun z=>(List.mem_cons.mp z).elim (fun y=>e (by omega)) c]
structure HueI(ts:List (Int×Int))(n:Nat)(k:Int)(xs:List Int)(h:Int)(hs:List Int):Prop where
 len:hs.length=n
 sub:xs.Sublist (rgI n)
 h0:0<=h
 sum:h+flo ts xs=k
 out:∀p:Nat,p<n->(p:Int)∉xs->0<=hs.getD p 0/\hs.getD p 0<h
 all:∀c,0<=c->c<h->∃p:Nat,p<n/\(p:Int)∉xs/\hs.getD p 0=c
 ok:∀a b:Nat,a<n->b<n->(a:Int)∉xs->(b:Int)∉xs->hasTie ts (a:Int) (b:Int)=true->hs.getD a 0≠hs.getD b 0
theorem HueI.start(ts:List (Int×Int))(n:Nat):HueI ts n (flo ts (rgI n)) (rgI n) 0 (List.replicate n 0):=by
 have no:∀p:Nat,p<n->(p:Int)∉rgI n->False:=fun p hp h=>h (mem_rgI.mpr ⟨by omega,by omega⟩)
 exact⟨List.length_replicate,List.Sublist.refl _,Int.le_refl _,by omega,fun p hp h=>(no p hp h).elim,fun c h1 h2=>by omega,fun a b ha hb h=>(no a ha h).elim⟩
theorem tie_comm(ts:List (Int×Int))(a b:Int):hasTie ts a b=hasTie ts b a:=by
 unfold hasTie
 rcases Int.lt_trichotomy a b with c|c|c
 ·rw[if_neg (show¬b<a by omega),if_pos (show b>a by omega),if_pos (show a<b by omega),if_neg (show¬a>b by omega)]
 ·rw[c]
 ·rw[if_pos (show b<a by omega),if_neg (show¬b>a by omega),if_neg (show¬a<b by omega),if_pos (show a>b by omega)]
theorem pairwise_any{ts:List (Int×Int)}{n:Int}(hp:PairsOk n ts):∀{p:List Int},(p.Pairwise fun a b=>hasTie ts a b=false)->∀a∈p,∀b∈p,hasTie ts a b=false
 |_,h,a,ha,b,hb=>by
  by_cases e:a=b
  ·subst e
   rw[tied_eq hp]
   unfold tiedL
   have:(a,a)∉ts:=fun z=>by have:=(hp.lt _ z).2.1;dsimp only at this;omega
   simp[this]
  ·obtain⟨i,hi,rfl⟩:=List.getElem_of_mem ha
   obtain⟨j,hj,rfl⟩:=List.getElem_of_mem hb
   have hij:i≠j:=fun z=>e (by subst z;rfl)
   rcases Nat.lt_or_gt_of_ne hij with c|c
   ·exact List.pairwise_iff_getElem.mp h i j hi hj c
   ·rw[tie_comm];exact List.pairwise_iff_getElem.mp h j i hj hi c
theorem HueI.step{ts:List (Int×Int)}{n:Nat}{k h:Int}{xs hs p:List Int}(I:HueI ts n k xs h hs)(hok:PairsOk (n:Int) ts)(hx:xs≠[])(hp:p∈fparts ts xs)(hb:∀q∈fparts ts xs,flo ts (wo xs p)<=flo ts (wo xs q)):HueI ts n k (wo xs p) (h+1) (setA hs p h):=by
 obtain⟨x,r,rfl⟩:∃x r,xs=x::r:=by cases xs with |nil=>exact absurd rfl hx|cons x r=>exact⟨x,r,rfl⟩
 obtain⟨ps,px⟩:=fpG_part hp
 have pr:∀q∈p,0<=q/\q<(n:Int):=fun q hq=>mem_rgI.mp (I.sub.subset (ps.subset hq))
 have p0:∀q∈p,0<=q:=fun q hq=>(pr q hq).1
 have ap:=pairwise_any hok (fparts_apart hp)
 have gv:∀b:Nat,b<n->(setA hs p h).getD b 0=if(b:Int)∈p then h else hs.getD b 0:=fun b hb=>getD_setA h p hs (by rw[I.len];exact hb) p0
 have nx:∀b:Nat,(b:Int)∉wo (x::r) p->(b:Int)∉p->(b:Int)∉x::r:=fun b h1 h2 h3=>h1 (mem_wo.mpr ⟨h3,h2⟩)
 refine⟨by rw[setA_len];exact I.len,(wo_sub _ _).trans I.sub,by have:=I.h0;omega,?_,fun b hb hn=> ?_,fun c h1 h2=> ?_,fun a b ha hb na nb ht=> ?_⟩
 ·have:=flo_best hx hp hb
  have:=I.sum
  omega
 ·rw[gv b hb]
  by_cases c:(b:Int)∈p
  ·rw[if_pos c];have:=I.h0;omega
  ·rw[if_neg c]
   have:=I.out b hb (nx b hn c)
   omega
 ·by_cases e:c=h
  ·have:=pr x px
   refine⟨x.toNat,by omega,fun z=> ?_,?_⟩
   ·rw[show((x.toNat:Nat):Int)=x by omega]at z
    exact(mem_wo.mp z).2 px
   ·rw[gv _ (by omega),if_pos (by rw[show((x.toNat:Nat):Int)=x by omega];exact px),e]
  ·obtain⟨b,b1,b2,b3⟩:=I.all c h1 (by omega)
   refine⟨b,b1,fun z=>b2 (mem_wo.mp z).1,?_⟩
   rw[gv b b1,if_neg fun z=>b2 (ps.subset z)]
   exact b3
 ·rw[gv a ha,gv b hb]
  by_cases ca:(a:Int)∈p
  ·by_cases cb:(b:Int)∈p
   ·rw[ap _ ca _ cb]at ht;cases ht
   ·rw[if_pos ca,if_neg cb]
    have:=I.out b hb (nx b nb cb)
    omega
  ·by_cases cb:(b:Int)∈p
   ·rw[if_neg ca,if_pos cb]
    have:=I.out a ha (nx a na ca)
    omega
   ·rw[if_neg ca,if_neg cb]
    exact I.ok a b ha hb (nx a na ca) (nx b nb cb) ht
structure HuesOk(ts:List (Int×Int))(n:Nat)(k:Int)(hs:List Int):Prop where
 len:hs.length=n
 k0:0<=k
 rg:∀p:Nat,p<n->0<=hs.getD p 0/\hs.getD p 0<k
 all:∀c,0<=c->c<k->∃p:Nat,p<n/\hs.getD p 0=c
 ok:∀a b:Nat,a<n->b<n->hasTie ts (a:Int) (b:Int)=true->hs.getD a 0≠hs.getD b 0
theorem HueI.done{ts:List (Int×Int)}{n:Nat}{k h:Int}{hs:List Int}(I:HueI ts n k [] h hs):HuesOk ts n k hs:=by
 have e:h=k:=by have:=I.sum;rw[flo_nil]at this;omega
 subst e
 exact⟨I.len,I.h0,fun p hp=>I.out p hp (by simp),fun c h1 h2=>by obtain⟨p,h3,_,h4⟩:=I.all c h1 h2;exact⟨p,h3,h4⟩,fun a b ha hb ht=>I.ok a b ha hb (by simp) (by simp) ht⟩
end Hs
namespace Hs
open PySem L2 HsD
section
variable{P:Program}{w:World}{K:W.Frag}{mg:Str->Option Value}{base:Heap}
theorem any_ints(xs:List Int)(k:Int):((xs.map PyData.int).any fun d=>PyData.eqv d (.int k))=decide (k∈xs):=by
 induction xs with
 |nil=>simp
 |cons x xs ih=>
  rw[List.map_cons,List.any_cons,ih]
  have e:PyData.eqv (.int x) (.int k)=decide (k=x):=by
   show(x==k)=_
   rw[Bool.eq_iff_iff];simp;exact⟨fun h=>h.symm,fun h=>h.symm⟩
  rw[e,Bool.eq_iff_iff]
  simp
theorem filt1{α:Type}(p:α->Bool)(a:α):[a].filter p=if p a=true then[a]else[]:=by
 by_cases c:p a=true
 ·rw[if_pos c,List.filter_cons_of_pos c];rfl
 ·rw[if_neg c,List.filter_cons_of_neg c];rfl
theorem tupR_rgI(n:Nat):tupR n=(rgI n).map V.int:=by unfold tupR rgI;rw[List.map_map];rfl
theorem keyV(xs:List Int):(xs.map (Sum.inl (β:=Str))).map kV=xs.map V.int:=by rw[List.map_map];rfl
noncomputable abbrev KnS(H:Hp)(its:List (Addr×List Int)):Prop:=∀p∈its,H p.1=some (.tup (p.2.map V.int))
noncomputable def spAllSets(K:W.Frag):Sp:=fun vs H Q _=>∃n:Int,vs=[.int n]/\0<=n/\n<=10/\∀(r:Addr) (its:List (Addr×List Int)) H',Same H H'->H' r=some (.lst (its.map fun p=>V.ref p.1))->KnS H' its->its.map (·.2)=allS n.toNat->Q (.ref r) H'
theorem sc_allSets:FnScope ["n","found","place"] ["n"] (defScope zbt):=⟨rfl,rfl,rfl,by decide+kernel,rfl,by decide+kernel,by decide+kernel⟩
theorem ok_allSets{f:Addr}{fd:FuncData}(F:Fun K "all_sets" "all_sets" zbt f fd)(m_range:mg "range"=none):
  FnOk P w K mg base CX0 1 f fd ["n"] (spAllSets K):=by
 refine F.ok sc_allSets (fun vs H Q E h=> ?_) (fun cdv A outer s H vs Q E hr h=> ?_)
 ·obtain⟨n,rfl,_⟩:=h
  rfl
 obtain⟨n,rfl,h0,h1,q⟩:=h
 refine⟨_,(zae (zan (i:=1) sc_allSets.nd rfl (Or.inl rfl) (zch (zaa (zcg zac) zac))) (zae (zcl PassesOwn.never rfl (pi_range1 rfl m_range (zaa (pv 0) zac)) (zal (i:=2) sc_allSets.nd rfl (Or.inr rfl)) (zah (zan (i:=1) sc_allSets.nd rfl (Or.inl rfl) (zbd op_cat (pv 1) (zbk (own:=["some"]) (caps:=["place"]) (ix:=[2]) rfl (zby (pv 1)) rfl rfl (.cons rfl rfl .nil) (fun _ _ _ _ _=>(zal (i:=0) (show(["some","place"]:List Str).Nodup from by decide+kernel) rfl (Or.inl rfl))) (fun _ _ _ _ _=>zcf) (fun _ _ _ _ _=>(zbd op_catR (pv 0) (zcg (zaa (pv 1) zac))))))))) (zah (zao (pv 1))))),?_⟩
 refine⟨(by show 0<=sizeLine;decide),fun p0 hp0=> ?_⟩
 have s0:=zad hp0 (.tup [])
 refine⟨(by show 1<=sizeLine;decide),fun l0 hl0=> ?_⟩
 have s1:=zad hl0 (.lst [.ref p0])
 refine⟨_,rfl,n,rfl,by omega,by omega,?_⟩
 refine zdc (n:=n.toNat) (fun k σ H'=>∃(l:Addr) (its:List (Addr×List Int)) (b2:Option V),σ=[some (.int n),some (.ref l),b2]/\Same H H'/\H' l=some (.lst (its.map fun p=>V.ref p.1))/\KnS H' its/\its.map (·.2)=allS k) ⟨l0,[(p0,[])],_,rfl,s0.trans s1,zab,fun p hp=>by rw[List.mem_singleton.mp hp];exact s1 _ _ zab,rfl⟩ (fun k σ H1 hk p=> ?_) (fun σ H1 p=> ?_)
 ·obtain⟨l,its,b2,rfl,sm,hl,hT,hm⟩:=p
  have hlen:its.length=2^k:=by rw[<-zbq k,<-hm,List.length_map]
  have h512:2^k<=512:=Nat.pow_le_pow_right (n:=2) (by decide) (show k<=9 by omega)
  refine⟨_,rfl,_,rfl,l,_,rfl,SqL.of hl,fun hz=> ?_⟩
  refine comp_list (xs:=its.map fun p=>V.ref p.1) (fun i acc σ H2=>∃jts:List (Addr×List Int),acc=jts.map (fun p=>V.ref p.1)/\jts.map (·.2)=((its.take i).map (·.2)).map (fun s=>s++[(k:Int)])/\KnS H2 jts/\Same H1 H2/\∃o,σ=[o,some (.int (0+(k:Int)))]) ⟨[],rfl,rfl,fun p hp=>(nomatch hp),Same.refl _,_,rfl⟩ (fun i acc σ H2 _ p=> ?_) (fun i acc σ H2 hi p=> ?_) hz (fun i x acc σ H2 hx p=> ?_) (fun acc σ H2 p=> ?_)
  ·obtain⟨_,_,_,_,s2,_⟩:=p
   exact s2.seq (SqL.of hl)
  ·obtain⟨jts,rfl,hj,_⟩:=p
   have:=congrArg List.length hj
   simp only[List.length_map,List.length_take]at this
   rw[List.length_map,this];exact Nat.min_le_left _ _
  ·obtain⟨jts,rfl,hj,hJ,s2,o,rfl⟩:=p
   rw[List.getElem?_map]at hx
   cases ex:its[i]? with
   |none=>rw[ex]at hx;cases hx
   |some v=>
    rw[ex]at hx
    cases hx
    have mv:=List.mem_of_getElem? ex
    have lv:v.2.length<=10:=by
     have:=zdi k v.2 (by rw[<-hm];exact List.mem_map_of_mem mv)
     omega
    refine⟨_,rfl,_,rfl,(by show 1<=sizeLine;decide),fun p1 hp1=> ?_⟩
    have s3:=zad hp1 (.tup [.int (0+(k:Int))])
    refine⟨v.1,p1,_,_,rfl,rfl,(s2.trans s3) _ _ (hT v mv),zab,(by rw[List.length_map,sizeLine_eq];show _+1<=_;omega),fun r H4 s4 h4=> ?_⟩
    have ek:(0+(k:Int))=(k:Int):=by omega
    have s34:=s3.trans s4
    refine⟨jts++[(r,v.2++[(k:Int)])],by rw[List.map_append];rfl,?_,fun p hp=> ?_,s2.trans s34,_,rfl⟩
    ·rw[List.map_append,hj,List.take_add_one,ex,List.map_append,List.map_append];rfl
    ·rcases List.mem_append.mp hp with z|z
     ·exact s34 _ _ (hJ p z)
     ·rw[List.mem_singleton.mp z]
      show H4 r=some (.tup ((v.2++[(k:Int)]).map V.int))
      rw[List.map_append,<-ek]
      exact h4
  ·intro p1 hp1
   obtain⟨jts,rfl,hj,hJ,s2,o,rfl⟩:=p
   rw[List.length_map,List.take_length,hm]at hj
   have hjl:jts.length=2^k:=by
    have:=congrArg List.length hj
    rw[List.length_map,List.length_map,zbq]at this
    exact this
   have s3:=zad hp1 (.lst (jts.map fun p=>V.ref p.1))
   refine⟨l,p1,_,_,rfl,rfl,s3 _ _ (s2 _ _ hl),zab,(by rw[List.length_map,List.length_map,hjl,hlen,sizeLine_eq];omega),fun l2 hl2=> ?_⟩
   have s4:=zad hl2 (.lst (its.map (fun p=>V.ref p.1)++jts.map fun p=>V.ref p.1))
   have s34:=s3.trans s4
   refine⟨l2,its++jts,_,rfl,sm.trans (s2.trans s34),by rw[zab,List.map_append],fun p hp=> ?_,?_⟩
   ·rcases List.mem_append.mp hp with z|z
    ·exact(s2.trans s34) _ _ (hT p z)
    ·exact s34 _ _ (hJ p z)
   ·rw[List.map_append,hm,hj];rfl
 ·obtain⟨l,its,b2,rfl,sm,hl,hT,hm⟩:=p
  exact⟨_,rfl,q l its H1 sm hl hT hm⟩
theorem sc_asets:FnScope ["n","found","place"] ["n"] (defScope zbv):=⟨rfl,rfl,rfl,by decide+kernel,rfl,by decide+kernel,by decide+kernel⟩
theorem ok_asets{f:Addr}{fd:FuncData}(F:Fun K "_law_asets" "_law_asets" zbv f fd)(m_range:mg "range"=none):
  FnOk P w K mg base CX0 1 f fd ["n"] (spAllSets K):=by
 refine F.ok sc_asets (fun vs H Q E h=> ?_) (fun cdv A outer s H vs Q E hr h=> ?_)
 ·obtain⟨n,rfl,_⟩:=h
  rfl
 obtain⟨n,rfl,h0,h1,q⟩:=h
 refine⟨_,(zae (zan (i:=1) sc_asets.nd rfl (Or.inl rfl) (zch (zaa (zcg zac) zac))) (zae (zcl PassesOwn.never rfl (pi_range1 rfl m_range (zaa (pv 0) zac)) (zal (i:=2) sc_asets.nd rfl (Or.inr rfl)) (zah (zan (i:=1) sc_asets.nd rfl (Or.inl rfl) (zbd op_cat (pv 1) (zbk (own:=["some"]) (caps:=["place"]) (ix:=[2]) rfl (zby (pv 1)) rfl rfl (.cons rfl rfl .nil) (fun _ _ _ _ _=>(zal (i:=0) (show(["some","place"]:List Str).Nodup from by decide+kernel) rfl (Or.inl rfl))) (fun _ _ _ _ _=>zcf) (fun _ _ _ _ _=>(zbd op_catR (pv 0) (zcg (zaa (pv 1) zac))))))))) (zah (zao (pv 1))))),?_⟩
 refine⟨(by show 0<=sizeLine;decide),fun p0 hp0=> ?_⟩
 have s0:=zad hp0 (.tup [])
 refine⟨(by show 1<=sizeLine;decide),fun l0 hl0=> ?_⟩
 have s1:=zad hl0 (.lst [.ref p0])
 refine⟨_,rfl,n,rfl,by omega,by omega,?_⟩
 refine zdc (n:=n.toNat) (fun k σ H'=>∃(l:Addr) (its:List (Addr×List Int)) (b2:Option V),σ=[some (.int n),some (.ref l),b2]/\Same H H'/\H' l=some (.lst (its.map fun p=>V.ref p.1))/\KnS H' its/\its.map (·.2)=allS k) ⟨l0,[(p0,[])],_,rfl,s0.trans s1,zab,fun p hp=>by rw[List.mem_singleton.mp hp];exact s1 _ _ zab,rfl⟩ (fun k σ H1 hk p=> ?_) (fun σ H1 p=> ?_)
 ·obtain⟨l,its,b2,rfl,sm,hl,hT,hm⟩:=p
  have hlen:its.length=2^k:=by rw[<-zbq k,<-hm,List.length_map]
  have h512:2^k<=512:=Nat.pow_le_pow_right (n:=2) (by decide) (show k<=9 by omega)
  refine⟨_,rfl,_,rfl,l,_,rfl,SqL.of hl,fun hz=> ?_⟩
  refine comp_list (xs:=its.map fun p=>V.ref p.1) (fun i acc σ H2=>∃jts:List (Addr×List Int),acc=jts.map (fun p=>V.ref p.1)/\jts.map (·.2)=((its.take i).map (·.2)).map (fun s=>s++[(k:Int)])/\KnS H2 jts/\Same H1 H2/\∃o,σ=[o,some (.int (0+(k:Int)))]) ⟨[],rfl,rfl,fun p hp=>(nomatch hp),Same.refl _,_,rfl⟩ (fun i acc σ H2 _ p=> ?_) (fun i acc σ H2 hi p=> ?_) hz (fun i x acc σ H2 hx p=> ?_) (fun acc σ H2 p=> ?_)
  ·obtain⟨_,_,_,_,s2,_⟩:=p
   exact s2.seq (SqL.of hl)
  ·obtain⟨jts,rfl,hj,_⟩:=p
   have:=congrArg List.length hj
   simp only[List.length_map,List.length_take]at this
   rw[List.length_map,this];exact Nat.min_le_left _ _
  ·obtain⟨jts,rfl,hj,hJ,s2,o,rfl⟩:=p
   rw[List.getElem?_map]at hx
   cases ex:its[i]? with
   |none=>rw[ex]at hx;cases hx
   |some v=>
    rw[ex]at hx
    cases hx
    have mv:=List.mem_of_getElem? ex
    have lv:v.2.length<=10:=by
     have:=zdi k v.2 (by rw[<-hm];exact List.mem_map_of_mem mv)
     omega
    refine⟨_,rfl,_,rfl,(by show 1<=sizeLine;decide),fun p1 hp1=> ?_⟩
    have s3:=zad hp1 (.tup [.int (0+(k:Int))])
    refine⟨v.1,p1,_,_,rfl,rfl,(s2.trans s3) _ _ (hT v mv),zab,(by rw[List.length_map,sizeLine_eq];show _+1<=_;omega),fun r H4 s4 h4=> ?_⟩
    have ek:(0+(k:Int))=(k:Int):=by omega
    have s34:=s3.trans s4
    refine⟨jts++[(r,v.2++[(k:Int)])],by rw[List.map_append];rfl,?_,fun p hp=> ?_,s2.trans s34,_,rfl⟩
    ·rw[List.map_append,hj,List.take_add_one,ex,List.map_append,List.map_append];rfl
    ·rcases List.mem_append.mp hp with z|z
     ·exact s34 _ _ (hJ p z)
     ·rw[List.mem_singleton.mp z]
      show H4 r=some (.tup ((v.2++[(k:Int)]).map V.int))
      rw[List.map_append,<-ek]
      exact h4
  ·intro p1 hp1
   obtain⟨jts,rfl,hj,hJ,s2,o,rfl⟩:=p
   rw[List.length_map,List.take_length,hm]at hj
   have hjl:jts.length=2^k:=by
    have:=congrArg List.length hj
    rw[List.length_map,List.length_map,zbq]at this
    exact this
   have s3:=zad hp1 (.lst (jts.map fun p=>V.ref p.1))
   refine⟨l,p1,_,_,rfl,rfl,s3 _ _ (s2 _ _ hl),zab,(by rw[List.length_map,List.length_map,hjl,hlen,sizeLine_eq];omega),fun l2 hl2=> ?_⟩
   have s4:=zad hl2 (.lst (its.map (fun p=>V.ref p.1)++jts.map fun p=>V.ref p.1))
   have s34:=s3.trans s4
   refine⟨l2,its++jts,_,rfl,sm.trans (s2.trans s34),by rw[zab,List.map_append],fun p hp=> ?_,?_⟩
   ·rcases List.mem_append.mp hp with z|z
    ·exact(s2.trans s34) _ _ (hT p z)
    ·exact s34 _ _ (hJ p z)
   ·rw[List.map_append,hm,hj];rfl
 ·obtain⟨l,its,b2,rfl,sm,hl,hT,hm⟩:=p
  exact⟨_,rfl,q l its H1 sm hl hT hm⟩
noncomputable def spWithout(K:W.Frag):Sp:=fun vs H Q _=>∃(a b:Addr) (xs ys:List Int),vs=[.ref a,.ref b]/\SqT K H a (xs.map V.int)/\SqT K H b (ys.map V.int)/\∀r H',Same H H'->H' r=some (.tup ((wo xs ys).map V.int))->Q (.ref r) H'
theorem zbr{α:Type}{p:α->Bool}{l:List α}{i:Nat}(hi:i<l.length):(l.take (i+1)).filter p=(l.take i).filter p++(if p l[i]=true then[l[i]]else[]):=by
 rw[List.take_add_one,List.getElem?_eq_getElem hi,List.filter_append]
 congr 1
 exact filt1 _ _
theorem sc_without:FnScope ["some","part"] ["some","part"] (defScope zca):=⟨rfl,rfl,rfl,by decide+kernel,rfl,by decide+kernel,by decide+kernel⟩
theorem ok_without{f:Addr}{fd:FuncData}(F:Fun K "without" "without" zca f fd)(m_tuple:mg "tuple"=none):
  FnOk P w K mg base CX0 1 f fd ["some","part"] (spWithout K):=by
 refine F.ok sc_without (fun vs H Q E h=> ?_) (fun cdv A outer s H vs Q E hr h=> ?_)
 ·obtain⟨a,b,xs,ys,rfl,_⟩:=h
  rfl
 obtain⟨a,b,xs,ys,rfl,hA,hB,q⟩:=h
 refine⟨_,(zah (zao (zbh zck rfl m_tuple (by decide+kernel) (zaa (zbk (own:=["place"]) (caps:=["part"]) (ix:=[1]) rfl (zcr (pv 0)) rfl rfl (.cons rfl rfl .nil) (fun _ _ _ _ _=>(zal (i:=0) (show(["place","part"]:List Str).Nodup from by decide+kernel) rfl (Or.inl rfl))) (fun _ _ _ _ _=>pts_one (zbf (op_notInDK K hr.units) (pv 0) (pv 1) (by with_unfolding_all rfl))) (fun _ _ _ _ _=>(pv 0))) zac)))),?_⟩
 refine⟨_,rfl,a,_,rfl,hA,fun hz=> ?_⟩
 refine zcv (xs:=xs.map V.int) (fun k acc σ H'=>acc=((xs.take k).filter fun o=> !decide (o∈ys)).map V.int/\Same H H'/\∃o,σ=[o,some (.ref b)]) ⟨rfl,Same.refl _,_,rfl⟩ (fun k acc σ H' _ p=>p.2.1.tup hA) (fun k acc σ H' hk p=> ?_) hz (fun k x acc σ H' hx pp=> ?_) (fun acc σ H' p=> ?_)
 ·rw[p.1,List.length_map]
  exact Nat.le_trans (List.length_filter_le _ _) (by rw[List.length_take];exact Nat.min_le_left _ _)
 ·obtain⟨rfl,sm,o,rfl⟩:=pp
  rw[List.getElem?_map]at hx
  cases ex:xs[k]? with
  |none=>rw[ex]at hx;cases hx
  |some y=>
   rw[ex]at hx
   cases hx
   obtain⟨hk,ey⟩:=List.getElem?_eq_some_iff.mp ex
   have e:=zbr (p:=fun o=> !decide (o∈ys)) hk
   rw[ey]at e
   refine⟨_,rfl,_,rfl,b,_,_,.int y,rfl,.inr (sm.tup hB),DVs.ints ys,.int _,lay_ints ys,rfl,(by show 0<=60;decide),_,rfl,?_⟩
   rw[any_ints]
   refine ite2 (fun c=> ?_) (fun c=> ?_)
   ·exact⟨_,rfl,by rw[e,if_pos c,List.map_append];rfl,sm,_,rfl⟩
   ·exact⟨by rw[e,if_neg c,List.append_nil],sm,_,rfl⟩
 ·intro p1 hp1
  obtain⟨rfl,sm,_⟩:=p
  refine⟨p1,_,rfl,.inl ⟨SqL.of zab,fun l hl=> ?_⟩⟩
  exact q l _ (sm.trans ((zad hp1 _).trans (zad hl _))) (by rw[zab,List.length_map,List.take_length];rfl)
noncomputable def spStand(K:W.Frag):Sp:=fun vs H Q _=>∃(a b:Addr) (n x:Int) (ts:List (Int×Int)) (ps:List Int),vs=[.ref a,.ref b,.int x]/\WebV K H a n ts/\SqT K H b (ps.map V.int)/\∀H',Same H H'->Q (.bl (standB ts ps x)) H'
theorem sc_stand:FnScope ["web","part","place"] ["web","part","place"] (defScope zau):=⟨rfl,rfl,rfl,by decide+kernel,rfl,by decide+kernel,by decide+kernel⟩
theorem ok_stand{f f1:Addr}{fd d1:FuncData}(F:Fun K "can_stand_with" "can_stand_with" zau f fd)(D1:Dfn K mg "has_tie" zcp ["web","one","other"] f1 d1)(G1:FnOk P w K mg base CX0 1 f1 d1 ["web","one","other"] (spHas K))(m_any:mg "any"=none):
  FnOk P w K mg base CX0 2 f fd ["web","part","place"] (spStand K):=by
 refine F.ok sc_stand (fun vs H Q E h=> ?_) (fun cdv A outer s H vs Q E hr h=> ?_)
 ·obtain⟨a,b,n,x,ts,ps,rfl,_⟩:=h
  rfl
 obtain⟨a,b,n,x,ts,ps,rfl,hW,hB,q⟩:=h
 refine⟨_,(zah (zao (pe_not (zak (call_any rfl) rfl m_any (by decide+kernel) (zaa (zbk (own:=["other"]) (caps:=["web","place"]) (ix:=[0,2]) rfl (zcr (pv 1)) rfl rfl (.cons rfl rfl (.cons rfl rfl .nil)) (fun _ _ _ _ _=>(zal (i:=0) (show(["other","web","place"]:List Str).Nodup from by decide+kernel) rfl (Or.inl rfl))) (fun _ _ _ _ _=>zcf) (fun _ _ _ _ _=>(zaj G1 hr rfl D1.m D1.F.kp D1.b .nil pass0 (zaa (pv 1) (zaa (pv 0) (zaa (pv 2) zac)))))) zac))))),?_⟩
 refine⟨_,rfl,b,_,rfl,hB,fun hz=> ?_⟩
 refine zcv (xs:=ps.map V.int) (fun k acc σ H'=>acc=(((ps.take k).map fun o=>hasTie ts o x)).map V.bl/\Same H H'/\∃o,σ=[o,some (.ref a),some (.int x)]) ⟨rfl,Same.refl _,_,rfl⟩ (fun k acc σ H' _ p=>p.2.1.tup hB) (fun k acc σ H' hk p=> ?_) hz (fun k v acc σ H' hx pp=> ?_) (fun acc σ H' p=> ?_)
 ·rw[p.1,List.length_map,List.length_map,List.length_take];exact Nat.min_le_left _ _
 ·obtain⟨rfl,sm,o,rfl⟩:=pp
  rw[List.getElem?_map]at hx
  cases ex:ps[k]? with
  |none=>rw[ex]at hx;cases hx
  |some y=>
   rw[ex]at hx
   cases hx
   refine⟨_,rfl,_,rfl,_,rfl,a,n,y,x,ts,rfl,hW.same sm,fun H2 s2=>⟨?_,sm.trans s2,_,rfl⟩⟩
   rw[List.take_add_one,ex,List.map_append,List.map_append];rfl
 ·intro p1 hp1
  obtain⟨rfl,sm,_⟩:=p
  refine⟨p1,_,rfl,SqL.of zab,_,rfl,?_⟩
  have e:(!(((ps.take (ps.map V.int).length).map fun o=>hasTie ts o x).any id))=standB ts ps x:=by
   rw[List.length_map,List.take_length,List.any_map];rfl
  rw[e]
  exact q _ (sm.trans (zad hp1 _))
noncomputable abbrev SetsV(K:W.Frag)(H:Hp)(its:List (Addr×List Int)):Prop:=∀p∈its,SqT K H p.1 (p.2.map V.int)
theorem SetsV.same{H H':Hp}{its:List (Addr×List Int)}(h:SetsV K H its)(e:Same H H'):SetsV K H' its:=fun p hp=>e.tup (h p hp)
theorem cut1(xs:List Int):cutV (xs.map V.int) none (some 1)=(xs.take 1).map V.int:=by
 cases xs with
 |nil=>rfl
 |cons x r=>
  unfold cutV HT.sIx
  simp
  try omega
theorem cutR(xs:List Int):cutV (xs.map V.int) (some 1) none=(xs.drop 1).map V.int:=by
 cases xs with
 |nil=>rfl
 |cons x r=>
  unfold cutV HT.sIx
  simp
  rw[List.take_of_length_le (by rw[List.length_map];exact Nat.le_refl _)]
noncomputable def spFparts(K:W.Frag):Sp:=fun vs H Q _=>∃(a b:Addr) (n:Int) (ts:List (Int×Int)) (xs:List Int),vs=[.ref a,.ref b]/\WebV K H a n ts/\SqT K H b (xs.map V.int)/\xs.length<=10/\
 ∀(r:Addr) (its:List (Addr×List Int)) H',Same H H'->H' r=some (.lst (its.map fun p=>V.ref p.1))->SetsV K H' its->its.map (·.2)=fparts ts xs->H r=none->Q (.ref r) H'
theorem sc_fparts:FnScope ["web","some","found","place"] ["web","some"] (defScope zaz):=⟨rfl,rfl,rfl,by decide+kernel,rfl,by decide+kernel,by decide+kernel⟩
theorem ok_fparts{f f1:Addr}{fd d1:FuncData}(F:Fun K "first_parts" "first_parts" zaz f fd)(D1:Dfn K mg "can_stand_with" zau ["web","part","place"] f1 d1)(G1:FnOk P w K mg base CX0 2 f1 d1 ["web","part","place"] (spStand K)):
  FnOk P w K mg base CX0 3 f fd ["web","some"] (spFparts K):=by
 refine F.ok sc_fparts (fun vs H Q E h=> ?_) (fun cdv A outer s H vs Q E hr h=> ?_)
 ·obtain⟨a,b,n,ts,xs,rfl,_⟩:=h
  rfl
 obtain⟨a,b,n,ts,xs,rfl,hW,hB,hlen,q⟩:=h
 refine⟨_,(zae (zan (i:=2) sc_fparts.nd rfl (Or.inl rfl) (zch (zaa (pe_slice sl_tupE (pv 1) po_none (po_some zag)) zac))) (zae (zcl PassesOwn.never rfl (zcr (pe_slice sl_tupE (pv 1) (po_some zag) po_none)) (zal (i:=3) sc_fparts.nd rfl (Or.inr rfl)) (zah (zan (i:=2) sc_fparts.nd rfl (Or.inl rfl) (zbd op_cat (pv 2) (zbk (own:=["part"]) (caps:=["web","place"]) (ix:=[0,3]) rfl (zby (pv 2)) rfl rfl (.cons rfl rfl (.cons rfl rfl .nil)) (fun _ _ _ _ _=>(zal (i:=0) (show(["part","web","place"]:List Str).Nodup from by decide+kernel) rfl (Or.inl rfl))) (fun _ _ _ _ _=>pts_one (zdg (zaj G1 hr rfl D1.m D1.F.kp D1.b .nil pass0 (zaa (pv 1) (zaa (pv 0) (zaa (pv 2) zac)))))) (fun _ _ _ _ _=>(zbd (op_catEK K) (pv 0) (zcg (zaa (pv 2) zac))))))))) (zah (zao (pv 2))))),?_⟩
 refine⟨_,rfl,_,rfl,b,_,rfl,hB,fun r0 H0 s0 h0=> ?_⟩
 rw[cut1]at h0
 refine⟨(by show 1<=sizeLine;decide),fun l0 hl0=> ?_⟩
 have s1:=zad hl0 (.lst [.ref r0])
 refine⟨_,rfl,_,rfl,b,_,rfl,(s0.trans s1).tup hB,fun r1 H1 s2 h1=> ?_⟩
 rw[cutR]at h1
 refine⟨r1,_,rfl,h1,fun hz=> ?_⟩
 refine for_tup (K:=K) (a:=r1) (xs:=(xs.drop 1).map V.int) (fun k σ H'=>∃(l:Addr) (its:List (Addr×List Int)) (o3:Option V),σ=[some (.ref a),some (.ref b),some (.ref l),o3]/\Same H H'/\Same H1 H'/\H' l=some (.lst (its.map fun p=>V.ref p.1))/\SetsV K H' its/\its.map (·.2)=fpUp (standB ts) xs k/\H l=none)
  ⟨l0,[(r0,xs.take 1)],_,rfl,s0.trans (s1.trans s2),Same.refl _,s2 _ _ zab,fun p hp=>by rw[List.mem_singleton.mp hp];exact(s1.trans s2).tup h0,rfl,s0.free hl0⟩ (fun k σ H' _ p=> ?_) (fun k x σ H2 hx p=> ?_) (fun σ H2 p=> ?_)
 ·obtain⟨_,_,_,_,_,s3,_⟩:=p
  exact s3.tup h1
 ·obtain⟨l,its,o3,rfl,sm,s3,hl,hT,hm,l00⟩:=p
  rw[List.getElem?_map]at hx
  cases ek:(xs.drop 1)[k]? with
  |none=>rw[ek]at hx;cases hx
  |some y=>
   rw[ek]at hx
   cases hx
   have hk:k<=9:=by
    have:=(List.getElem?_eq_some_iff.mp ek).1
    rw[List.length_drop]at this
    omega
   have hlen2:its.length<=512:=by
    have h1:its.length=(fpUp (standB ts) xs k).length:=by rw[<-hm,List.length_map]
    rw[h1]
    exact Nat.le_trans (fpUp_len _ _ _) (Nat.pow_le_pow_right (n:=2) (by decide) hk)
   have plen:∀p∈its,p.2.length<=10:=fun p hp=>by
    have hm':p.2∈fpUp (standB ts) xs k:=by rw[<-hm];exact List.mem_map_of_mem hp
    cases xs with
    |nil=>simp at ek
    |cons x r=>
     have:=(zdb k _ hm').1.length_le
     rw[List.length_cons,List.length_take]at this
     rw[List.length_cons]at hlen
     omega
   refine⟨_,rfl,_,rfl,l,_,rfl,SqL.of hl,fun hz=> ?_⟩
   refine comp_list (xs:=its.map fun p=>V.ref p.1) (fun i acc σ H'=>∃jts:List (Addr×List Int),acc=jts.map (fun p=>V.ref p.1)/\jts.map (·.2)=(((its.take i).map (·.2)).filter fun p=>standB ts p y).map (fun s=>s++[y])/\SetsV K H' jts/\Same H2 H'/\∃o,σ=[o,some (.ref a),some (.int y)]) ⟨[],rfl,rfl,fun p hp=>(nomatch hp),Same.refl _,_,rfl⟩ (fun i acc σ H' _ p=> ?_) (fun i acc σ H' hi p=> ?_) hz (fun i x acc σ H4 hx p=> ?_) (fun acc σ H4 p=> ?_)
   ·obtain⟨_,_,_,_,s2,_⟩:=p
    exact s2.seq (SqL.of hl)
   ·obtain⟨jts,rfl,hj,_⟩:=p
    have:=congrArg List.length hj
    rw[List.length_map,List.length_map]at this
    rw[List.length_map,this]
    refine Nat.le_trans (List.length_filter_le _ _) ?_
    rw[List.length_map,List.length_take];exact Nat.min_le_left _ _
   ·obtain⟨jts,rfl,hj,hJ,s4,o,rfl⟩:=p
    rw[List.getElem?_map]at hx
    cases ex:its[i]? with
    |none=>rw[ex]at hx;cases hx
    |some v=>
     rw[ex]at hx
     cases hx
     have mv:=List.mem_of_getElem? ex
     have et:(((its.take (i+1)).map (·.2)).filter fun p=>standB ts p y)=(((its.take i).map (·.2)).filter fun p=>standB ts p y)++(if standB ts v.2 y=true then[v.2]else[]):=by
      rw[List.take_add_one,ex,List.map_append,List.filter_append]
      congr 1
      exact filt1 _ _
     refine⟨_,rfl,_,rfl,_,rfl,a,v.1,n,y,ts,v.2,rfl,hW.same (sm.trans s4),s4.tup (hT v mv),fun H5 s5=>⟨_,rfl,?_⟩⟩
     refine ite2 (fun c=> ?_) (fun c=> ?_)
     ·refine⟨_,rfl,_,rfl,(by show 1<=sizeLine;decide),fun p1 hp1=> ?_⟩
      have s6:=zad hp1 (.tup [.int y])
      refine⟨v.1,p1,_,_,rfl,rfl,(s4.trans (s5.trans s6)).tup (hT v mv),SqT.of zab,(by have:=plen v mv;rw[List.length_map,sizeLine_eq];show _+1<=_;omega),fun r H7 s7 h7=> ?_⟩
      have s57:=s5.trans (s6.trans s7)
      refine⟨jts++[(r,v.2++[y])],by rw[List.map_append];rfl,?_,fun p hp=> ?_,s4.trans s57,_,rfl⟩
      ·rw[List.map_append,hj,et,if_pos c,List.map_append];rfl
      ·rcases List.mem_append.mp hp with z|z
       ·exact s57.tup (hJ p z)
       ·rw[List.mem_singleton.mp z]
        show SqT K H7 r ((v.2++[y]).map V.int)
        rw[List.map_append]
        exact h7
     ·refine⟨jts,rfl,?_,hJ.same s5,s4.trans s5,_,rfl⟩
      rw[hj,et,if_neg c,List.append_nil]
   ·intro p1 hp1
    obtain⟨jts,rfl,hj,hJ,s4,o,rfl⟩:=p
    rw[List.length_map,List.take_length,hm]at hj
    have hjl:jts.length<=its.length:=by
     have:=congrArg List.length hj
     rw[List.length_map,List.length_map]at this
     have e2:its.length=(fpUp (standB ts) xs k).length:=by rw[<-hm,List.length_map]
     rw[this,e2]
     exact List.length_filter_le _ _
    have s5:=zad hp1 (.lst (jts.map fun p=>V.ref p.1))
    refine⟨l,p1,_,_,rfl,rfl,s5 _ _ (s4 _ _ hl),zab,(by rw[List.length_map,List.length_map,sizeLine_eq];omega),fun l2 hl2=> ?_⟩
    have s6:=zad hl2 (.lst (its.map (fun p=>V.ref p.1)++jts.map fun p=>V.ref p.1))
    have s56:=s5.trans s6
    refine⟨l2,its++jts,_,rfl,sm.trans (s4.trans s56),s3.trans (s4.trans s56),by rw[zab,List.map_append],fun p hp=> ?_,?_,(sm.trans (s4.trans s5)).free hl2⟩
    ·rcases List.mem_append.mp hp with z|z
     ·exact(s4.trans s56).tup (hT p z)
     ·exact s56.tup (hJ p z)
    ·rw[List.map_append,hm,hj,fpUp_succ ek];rfl
 ·obtain⟨l,its,o3,rfl,sm,s3,hl,hT,hm,l00⟩:=p
  rw[List.length_map,fpUp_all]at hm
  exact⟨_,rfl,q l its H2 sm hl hT hm l00⟩
end
end Hs
namespace Hs
open PySem L2 HsD
section
variable{P:Program}{w:World}{K:W.Frag}{mg:Str->Option Value}{base:Heap}
theorem Same.over{H0 H H':Hp}{d:Addr}(s:Same H0 H)(n:H0 d=none)(e:SameX d H H'):Same H0 H':=fun b u h=>e _ _ (fun z=>by rw[z,n]at h;cases h) (s _ _ h)
theorem tbl_ne{T a:Addr}{H:Hp}{ps:Array Value}{o:HO}(h:H T=some (.tbl ps))(e:H a=some o)(n:∀ps,o≠.tbl ps):a≠T:=fun z=>by rw[z,h]at e;cases e;exact n _ rfl
theorem tupT{T a:Addr}{H H':Hp}{ps:Array Value}{xs:List V}(e:SameX T H H')(h:H T=some (.tbl ps))(hx:SqT K H a xs):SqT K H' a xs:=by
 rcases hx with(q|⟨o,q⟩)|q
 ·exact .inl (.inl (e _ _ (tbl_ne h q fun _ z=>nomatch z) q))
 ·exact .inl (.inr ⟨o,e _ _ (tbl_ne h q fun _ z=>nomatch z) q⟩)
 ·exact .inr q
theorem lstT{T a:Addr}{H H':Hp}{ps:Array Value}{xs:List V}(e:SameX T H H')(h:H T=some (.tbl ps))(hx:SqL K H a xs):SqL K H' a xs:=by
 rcases hx with(q|⟨o,q⟩)|q
 ·exact .inl (.inl (e _ _ (tbl_ne h q fun _ z=>nomatch z) q))
 ·exact .inl (.inr ⟨o,e _ _ (tbl_ne h q fun _ z=>nomatch z) q⟩)
 ·exact .inr q
theorem pairsT{T:Addr}{H H':Hp}{tb:Array Value}(e:SameX T H H')(n:H T=some (.tbl tb)){rs:List V}{ps:List (Int×Int)}(h:DVs K H rs (ps.map pairD)):DVs K H' rs (ps.map pairD):=by
 induction ps generalizing rs with
 |nil=>cases h;exact .nil
 |cons p ps ih=>
  cases h with
  |cons h tl=>
   refine .cons ?_ (ih tl)
   cases h with
   |tup h hd=>
    cases hd with
    |cons a1 t1=>
     cases a1
     cases t1 with
     |cons a2 t2=>
      cases a2
      cases t2
      exact .tup (tupT e n h) (.cons (.int _) (.cons (.int _) .nil))
theorem webT'{T a:Addr}{H H':Hp}{tb:Array Value}{n:Int}{ts:List (Int×Int)}(h:WebV K H a n ts)(e:SameX T H H')(hn:H T=some (.tbl tb)):WebV K H' a n ts:=by
 obtain⟨u,rs,h1,h2,h3⟩:=h
 exact⟨u,rs,tupT e hn h1,tupT e hn h2,pairsT e hn h3⟩
theorem WebIs.tbl{T a:Addr}{H H':Hp}{tb:Array Value}{n:Int}{ts:List (Int×Int)}(h:WebIs K H a n ts)(e:SameX T H H')(hn:H T=some (.tbl tb)):WebIs K H' a n ts:=⟨webT' h.web e hn,h.h0,h.h1,h.pk,h.ok⟩
theorem _root_.L2.LamOk.at{H:Hp}{T:Addr}{p:Pos}{q:Str}(h:LamOk H T p q):∃tb,H T=some (.tbl tb):=by
 rcases h with h|⟨_,_,_,_,h,_⟩
 ·exact⟨_,h⟩
 ·exact⟨_,h⟩
theorem _root_.L2.LamOk.same{H H':Hp}{T:Addr}{p:Pos}{q:Str}(h:LamOk H T p q)(e:Same H H'):LamOk H' T p q:=by
 rcases h with h|⟨c,oc,vs,tq,h,h1,h2⟩
 ·exact .inl (e _ _ h)
 ·exact .inr ⟨c,oc,vs,tq,e _ _ h,e _ _ h1,h2⟩
theorem _root_.L2.LamOk.samex{H H':Hp}{T l:Addr}{p:Pos}{q:Str}{zs:List V}(h:LamOk H T p q)(e:SameX l H H')(hl:H l=some (.lst zs)):LamOk H' T p q:=by
 rcases h with h|⟨c,oc,vs,tq,h,h1,h2⟩
 ·exact .inl (e _ _ (ne_of h hl (fun z=>nomatch z)) h)
 ·exact .inr ⟨c,oc,vs,tq,e _ _ (ne_of h hl (fun z=>nomatch z)) h,e _ _ (ne_of h1 hl (fun z=>nomatch z)) h1,h2⟩
noncomputable def lamPos:Pos:=match defBody zbp with
 |[.Return (some (.Call _ _ [⟨_,.Lambda _ _ _ p,_⟩] _)) _]=>p
 |_=>⟨0,0,0,0⟩
noncomputable def lamQ:Str:=("best_part":Str)++".<locals>."++"<lambda>"
noncomputable abbrev Lam(H:Hp)(T:Addr):Prop:=LamOk H T lamPos lamQ
theorem notEmp{xs:List Int}(c:(!(!((xs.map V.int).isEmpty)))=true):xs=[]:=by
 cases xs with
 |nil=>rfl
 |cons x r=>exact absurd c (by show¬(!(!false))=true;decide)
theorem isEmp{xs:List Int}(c:¬(!(!((xs.map V.int).isEmpty)))=true):xs≠[]:=fun e=>by subst e;exact c rfl
noncomputable def spHigh(K:W.Frag):Sp:=fun vs H Q _=>∃(a d b:Addr) (n:Int) (ts:List (Int×Int)) (xs:List Int) (kvs:List (List Key×V)) (g:List Int->Int),vs=[.ref a,.ref d,.ref b]/\WebV K H a n ts/\H d=some (.dT kvs)/\SqT K H b (xs.map V.int)/\xs.length<=10/\
 (xs≠[]->∀p∈fparts ts xs,valV kvs ((wo xs p).map Sum.inl)=some (.int (g (wo xs p))))/\∀H',Same H H'->Q (.int (hiF g ts xs)) H'
theorem sc_high:FnScope ["web","floors","some"] ["web","floors","some"] (defScope zar):=⟨rfl,rfl,rfl,by decide+kernel,rfl,by decide+kernel,by decide+kernel⟩
theorem ok_high{f f1 f2:Addr}{fd d1 d2:FuncData}(F:Fun K "highest_floor" "highest_floor" zar f fd)(D1:Dfn K mg "first_parts" zaz ["web","some"] f1 d1)(G1:FnOk P w K mg base CX0 3 f1 d1 ["web","some"] (spFparts K))(D2:Dfn K mg "without" zca ["some","part"] f2 d2)(G2':FnOk P w K mg base CX0 1 f2 d2 ["some","part"] (spWithout K))(m_min:mg "min"=none):
  FnOk P w K mg base CX0 4 f fd ["web","floors","some"] (spHigh K):=by
 have G2:FnOk P w K mg base CX0 3 f2 d2 ["some","part"] (spWithout K):=G2'.mono (by decide)
 refine F.ok sc_high (fun vs H Q E h=> ?_) (fun cdv A outer s H vs Q E hr h=> ?_)
 ·obtain⟨a,d,b,n,ts,xs,kvs,g,rfl,_⟩:=h
  rfl
 obtain⟨a,d,b,n,ts,xs,kvs,g,rfl,hW,hD,hB,hlen,hv,q⟩:=h
 refine⟨_,(zae (zdd (zdk (pt_truth (pv 2) (fun _=>rfl))) (zah (zao zag)) zbg) (zah (zao (zbd zcz zag (zak (call_minL rfl) rfl m_min (by decide+kernel) (zaa (zbk (own:=["part"]) (caps:=["floors","some"]) (ix:=[1,2]) rfl (zby (zaj G1 hr rfl D1.m D1.F.kp D1.b .nil pass0 (zaa (pv 0) (zaa (pv 2) zac)))) rfl rfl (.cons rfl rfl (.cons rfl rfl .nil)) (fun _ _ _ _ _=>(zal (i:=0) (show(["part","floors","some"]:List Str).Nodup from by decide+kernel) rfl (Or.inl rfl))) (fun _ _ _ _ _=>zcf) (fun _ _ _ _ _=>(zcs (hu_of hr) (pv 1) (zaj G2 hr rfl D2.m D2.F.kp D2.b .nil pass0 (zaa (pv 2) (zaa (pv 0) zac))) (fun _ _=>rfl)))) zac)))))),?_⟩
 refine⟨_,rfl,!((xs.map V.int).isEmpty),.inr (.inl ⟨_,hB,rfl⟩),?_⟩
 refine ite2 (fun c=> ?_) (fun c=> ?_)
 ·have e:=notEmp c
  subst e
  exact q H (Same.refl _)
 ·have hx:=isEmp c
  have hv:=hv hx
  refine⟨_,rfl,_,rfl,a,b,n,ts,xs,rfl,hW,hB,hlen,fun r its H1 s1 hr1 hT hm hr0=>⟨r,_,rfl,SqL.of hr1,fun hz=> ?_⟩⟩
  refine comp_list (xs:=its.map fun p=>V.ref p.1) (fun i acc σ H'=>acc=((its.take i).map fun p=>g (wo xs p.2)).map V.int/\Same H1 H'/\∃o,σ=[o,some (.ref d),some (.ref b)]) ⟨rfl,Same.refl _,_,rfl⟩ (fun i acc σ H' _ p=>p.2.1.seq (SqL.of hr1)) (fun i acc σ H' _ p=> ?_) hz (fun i x acc σ H' hx p=> ?_) (fun acc σ H' p=> ?_)
  ·rw[p.1,List.length_map,List.length_map,List.length_take];exact Nat.min_le_left _ _
  ·obtain⟨rfl,sm,o,rfl⟩:=p
   rw[List.getElem?_map]at hx
   cases ex:its[i]? with
   |none=>rw[ex]at hx;cases hx
   |some v=>
    rw[ex]at hx
    cases hx
    have mv:=List.mem_of_getElem? ex
    have mp:v.2∈fparts ts xs:=by rw[<-hm];exact List.mem_map_of_mem mv
    refine⟨_,rfl,_,rfl,_,rfl,b,v.1,xs,v.2,rfl,(s1.trans sm).tup hB,sm.tup (hT v mv),fun rr H2 s2 h2=> ?_⟩
    have G:=DGet.t (k:=(wo xs v.2).map Sum.inl) ((s1.trans (sm.trans s2)) _ _ hD) (by rw[keyV];exact h2)
    rw[hv _ mp]at G
    refine⟨d,_,rfl,G,?_,sm.trans s2,_,rfl⟩
    rw[List.take_add_one,ex,List.map_append,List.map_append];rfl
  ·intro p1 hp1
   obtain⟨rfl,sm,_⟩:=p
   have e:(its.take (its.map fun p=>V.ref p.1).length).map (fun p=>g (wo xs p.2))=(fparts ts xs).map fun p=>g (wo xs p):=by
    rw[List.length_map,List.take_length,<-hm,List.map_map];rfl
   rw[e]
   refine⟨p1,_,rfl,SqL.of zab,fun z=>fpG_ne _ _ (List.map_eq_nil_iff.mp z),fun m h1 h2=>⟨_,_,rfl,rfl,?_⟩⟩
   have e2:hiF g ts xs=1+m:=by rw[mnL_eq h1 h2,hiF,if_neg hx]
   show Q (.int (1+m)) _
   rw[<-e2]
   exact q _ (s1.trans (sm.trans (zad hp1 _)))
noncomputable def spHighs(K:W.Frag):Sp:=fun vs H Q _=>∃(a:Addr) (n:Int) (ts:List (Int×Int)),vs=[.ref a]/\WebIs K H a n ts/\∀d H',Same H H'->H' d=some (.dT (setK (flo ts) (allS n.toNat)))->H d=none->Q (.ref d) H'
theorem sc_highs:FnScope ["web","floors","some"] ["web"] (defScope zat):=⟨rfl,rfl,rfl,by decide+kernel,rfl,by decide+kernel,by decide+kernel⟩
theorem ok_highs{f f1 f2:Addr}{fd d1 d2:FuncData}(F:Fun K "highest_floors" "highest_floors" zat f fd)(D1:Dfn K mg "all_sets" zbt ["n"] f1 d1)(G1':FnOk P w K mg base CX0 1 f1 d1 ["n"] (spAllSets K))(D2:Dfn K mg "highest_floor" zar ["web","floors","some"] f2 d2)(G2:FnOk P w K mg base CX0 4 f2 d2 ["web","floors","some"] (spHigh K)):
  FnOk P w K mg base CX0 5 f fd ["web"] (spHighs K):=by
 have G1:FnOk P w K mg base CX0 4 f1 d1 ["n"] (spAllSets K):=G1'.mono (by decide)
 refine F.ok sc_highs (fun vs H Q E h=> ?_) (fun cdv A outer s H vs Q E hr h=> ?_)
 ·obtain⟨a,n,ts,rfl,_⟩:=h
  rfl
 obtain⟨a,n,ts,rfl,hA,q⟩:=h
 refine⟨_,(zae (zan (i:=1) sc_highs.nd rfl (Or.inl rfl) pe_dnewT) (zae (zcl PassesOwn.never rfl (zby (zaj G1 hr rfl D1.m D1.F.kp D1.b .nil pass0 (zaa (zbz zcj (pv 0) zag (fun _ _=>rfl)) zac))) (zal (i:=2) sc_highs.nd rfl (Or.inl rfl)) (zah (ps_dput (hu_of hr) (pv 1) (pv 2) (zaj G2 hr rfl D2.m D2.F.kp D2.b .nil pass0 (zaa (pv 0) (zaa (pv 1) (zaa (pv 2) zac)))) rfl))) (zah (zao (pv 1))))),?_⟩
 intro d hd
 have s0:=zad hd (.dT [])
 have h0:(upd H d (.dT [])) d=some (.dT (setK (flo ts) ((allS n.toNat).take 0))):=zab
 generalize upd H d (.dT [])=H0 at *
 obtain⟨t,rs,w1,w2,w3⟩:=id (hA.web.same s0)
 refine⟨_,rfl,a,_,_,.int n,rfl,rfl,w1,rfl,n,rfl,hA.h0,hA.h1,fun r its H1 s1 hr1 hT hm=>⟨r,_,rfl,SqL.of hr1,fun hz=> ?_⟩⟩
 have h1:=s1 _ _ h0
 have nrd:r≠d:=ne_of hr1 h1 (fun z=>nomatch z)
 have hlen:its.length<=1024:=by
  have:its.length=2^n.toNat:=by rw[<-zbq,<-hm,List.length_map]
  rw[this]
  exact Nat.pow_le_pow_right (n:=2) (by decide) (show n.toNat<=10 by have:=hA.h1;omega)
 refine for_list (K:=K) (a:=r) (xs:=its.map fun p=>V.ref p.1) (fun i σ H'=>Same H H'/\H' r=some (.lst (its.map fun p=>V.ref p.1))/\KnS H' its/\H' d=some (.dT (setK (flo ts) ((allS n.toNat).take i)))/\∃o,σ=[some (.ref a),some (.ref d),o])
  ⟨s0.trans s1,hr1,hT,h1,_,rfl⟩ (fun i σ H' _ p=>SqL.of p.2.1) (fun i x σ H' hx p=> ?_) (fun σ H' p=> ?_)
 ·obtain⟨sm,hr2,hT2,hd2,o,rfl⟩:=p
  rw[List.getElem?_map]at hx
  cases ex:its[i]? with
  |none=>rw[ex]at hx;cases hx
  |some v=>
   rw[ex]at hx
   cases hx
   have mv:=List.mem_of_getElem? ex
   have es:(allS n.toNat)[i]? =some v.2:=by rw[<-hm,List.getElem?_map,ex];rfl
   have lv:v.2.length<=10:=by
    have:=zdi n.toNat v.2 (List.mem_of_getElem? es)
    have:=hA.h1
    omega
   have nv:v.2∉(allS n.toNat).take i:=fun z=>by
    obtain⟨j,hj,ej⟩:=List.getElem_of_mem z
    rw[List.length_take]at hj
    rw[List.getElem_take]at ej
    have h2:=List.getElem?_eq_some_iff.mp es
    obtain⟨hi,ei⟩:=h2
    have:=List.pairwise_iff_getElem.mp (zcw n.toNat) j i (by omega) hi (by omega)
    exact this (ej.trans ei.symm)
   refine⟨_,rfl,_,rfl,_,rfl,a,d,v.1,n,ts,v.2,_,flo ts,rfl,hA.web.same sm,hd2,SqT.of (hT2 v mv),lv,fun hx p hp=> ?_,fun H3 s3=> ?_⟩
   ·rw[zav,if_pos]
    obtain⟨y,yr,ey⟩:∃y yr,v.2=y::yr:=by
     cases hv:v.2 with
     |nil=>exact absurd hv hx
     |cons y yr=>exact⟨y,yr,rfl⟩
    rw[ey]at hp es⊢
    exact allS_take n.toNat i _ _ es (wo_sub _ _) (wo_ne (fpG_part hp).2)
   ·rw[<-flo_eq]
    refine⟨_,rfl,_,rfl,d,_,rfl,DPut.t (k:=v.2.map Sum.inl) (s3 _ _ hd2) (by rw[keyV];exact s3 _ _ (hT2 v mv)) ?_,?_⟩
    ·rw[zbn,List.length_take,zbq,sizeLine_eq]
     have:2^n.toNat<=1024:=Nat.pow_le_pow_right (n:=2) (by decide) (show n.toNat<=10 by have:=hA.h1;omega)
     omega
    ·rw[setK_put nv]
     have xd:SameX d H3 (upd H3 d (.dT (setK (flo ts) ((allS n.toNat).take i++[v.2])))):=(SameX.refl _ _).upd
     refine⟨Same.over (sm.trans s3) hd xd,xd _ _ nrd (s3 _ _ hr2),fun p hp=>xd _ _ (ne_of (s3 _ _ (hT2 p hp)) (s3 _ _ hd2) (fun z=>nomatch z)) (s3 _ _ (hT2 p hp)),?_,_,rfl⟩
     rw[zab,List.take_add_one,es];rfl
 ·obtain⟨sm,hr2,hT2,hd2,o,rfl⟩:=p
  have e:(allS n.toNat).take (its.map fun p=>V.ref p.1).length=allS n.toNat:=by
   rw[List.length_map,show its.length=(allS n.toNat).length by rw[<-hm,List.length_map],List.take_length]
  rw[e]at hd2
  exact⟨_,rfl,q d H' sm hd2 hd⟩
end
end Hs
namespace Hs
open PySem L2 HsD
section
variable{P:Program}{w:World}{K:W.Frag}{mg:Str->Option Value}{base:Heap}
noncomputable def spBest(K:W.Frag)(T:Addr):Sp:=fun vs H Q _=>∃(a d b:Addr) (n:Int) (ts:List (Int×Int)) (xs:List Int) (kvs:List (List Key×V)) (g:List Int->Int),vs=[.ref a,.ref d,.ref b]/\WebV K H a n ts/\H d=some (.dT kvs)/\SqT K H b (xs.map V.int)/\xs≠[]/\xs.length<=10/\
 (∀p∈fparts ts xs,valV kvs ((wo xs p).map Sum.inl)=some (.int (g (wo xs p))))/\Lam H T/\∀r p H',SameX T H H'->Lam H' T->SqT K H' r (p.map V.int)->p∈fparts ts xs->(∀q∈fparts ts xs,g (wo xs p)<=g (wo xs q))->Q (.ref r) H'
theorem sc_best:FnScope ["web","floors","some"] ["web","floors","some"] (defScope zbp):=⟨rfl,rfl,rfl,by decide+kernel,rfl,by decide+kernel,by decide+kernel⟩
theorem ok_best{f f1 f2 c T:Addr}{fd d1 d2:FuncData}(F:Fun K "best_part" "best_part" zbp f fd)(hcd:fd.code= .ref c)(LB:LamB base mg c T)(D1:Dfn K mg "first_parts" zaz ["web","some"] f1 d1)(G1':FnOk P w K mg base CX0 3 f1 d1 ["web","some"] (spFparts K))(D2:Dfn K mg "without" zca ["some","part"] f2 d2)(G2':FnOk P w K mg base CX0 1 f2 d2 ["some","part"] (spWithout K))(m_min:mg "min"=none):
  FnOk P w K mg base CX0 5 f fd ["web","floors","some"] (spBest K T):=by
 have G1:FnOk P w K mg base CX0 4 f1 d1 ["web","some"] (spFparts K):=G1'.mono (by decide)
 have G2:FnOk P w K mg base CX0 2 f2 d2 ["some","part"] (spWithout K):=G2'.mono (by decide)
 refine F.okC hcd sc_best (fun vs H Q E h=> ?_) (fun A outer s H vs Q E hr h=> ?_)
 ·obtain⟨a,d,b,n,ts,xs,kvs,g,rfl,_⟩:=h
  rfl
 obtain⟨a,d,b,n,ts,xs,kvs,g,rfl,hW,hD,hB,hx,hlen,hv,hL,q⟩:=h
 refine⟨_,(zah (zao (pe_minLam (k:=2) (y:="part") (caps:=["floors","some"]) (ix:=[1,2]) LB rfl rfl hr rfl m_min (zaa (zaj G1 hr rfl D1.m D1.F.kp D1.b .nil pass0 (zaa (pv 0) (zaa (pv 2) zac))) zac)
   (.cons rfl rfl (.cons rfl rfl .nil)) (fun _ _ _ _ hl=>zcs (hu_of hl) (pv 1) (zaj G2 hl rfl D2.m D2.F.kp D2.b .nil pass0 (zaa (pv 2) (zaa (pv 0) zac))) (fun _ _=>rfl))))),?_⟩
 refine⟨_,rfl,_,rfl,a,b,n,ts,xs,rfl,hW,hB,hlen,fun r its H1 s1 hr1 hT hm hr0=> ?_⟩
 have hL1:=hL.same s1
 obtain⟨tb,ht⟩:=hL1.at
 have hne:its≠[]:=fun z=>fpG_ne (standB ts) xs (by rw[<-show its.map (·.2)=fpG (standB ts) xs from hm,z];rfl)
 refine⟨r,its,rfl,SqL.of hr1,hne,hL1,fun j=>g (wo xs (its.getD j (0,[])).2),fun _ H'=>SameX T H1 H'/\Lam H' T,fun H2 e l=>⟨e,l⟩,fun j H' e=>lstT e.1 ht (SqL.of hr1),fun j p H' hp e=> ?_,fun i p H' hp hb e=> ?_⟩
 ·have mp:=List.mem_of_getElem? hp
  have mf:p.2∈fparts ts xs:=by rw[<-hm];exact List.mem_map_of_mem mp
  have ed:its.getD j (0,[])=p:=by rw[List.getD_eq_getElem?_getD,hp];rfl
  refine⟨_,rfl,_,rfl,_,rfl,b,p.1,xs,p.2,rfl,tupT e.1 ht (s1.tup hB),tupT e.1 ht (hT p mp),fun rr H2 s2 h2=> ?_⟩
  have hd2:=e.1 _ _ (tbl_ne ht (s1 _ _ hD) fun _ z=>nomatch z) (s1 _ _ hD)
  have G:=DGet.t (k:=(wo xs p.2).map Sum.inl) (s2 _ _ hd2) (by rw[keyV];exact h2)
  rw[hv _ mf]at G
  refine⟨d,_,rfl,G,(by show V.int _=V.int (g (wo xs (its.getD j (0,[])).2));rw[ed]),fun c o n e'=>s2 _ _ (e.1 c o n e'),e.2.same s2⟩
 ·have mp:=List.mem_of_getElem? hp
  have ed:its.getD i (0,[])=p:=by rw[List.getD_eq_getElem?_getD,hp];rfl
  refine q p.1 p.2 H' (fun c o n e'=>e.1 c o n (s1 _ _ e')) e.2 (tupT e.1 ht (hT p mp)) (by rw[<-hm];exact List.mem_map_of_mem mp) fun z hz=> ?_
  rw[<-hm]at hz
  obtain⟨y,hy,rfl⟩:=List.mem_map.mp hz
  obtain⟨j,hj,ej⟩:=List.getElem_of_mem hy
  have:=(hb j hj).1
  have ey:its.getD j (0,[])=y:=by rw[List.getD_eq_getElem?_getD,List.getElem?_eq_getElem hj,ej];rfl
  dsimp only at this
  rw[ed,ey]at this
  exact this
noncomputable def spByF(K:W.Frag)(T:Addr):Sp:=fun vs H Q _=>∃(a d:Addr) (n:Int) (ts:List (Int×Int)),vs=[.ref a,.ref d]/\WebIs K H a n ts/\H d=some (.dT (setK (flo ts) (allS n.toNat)))/\Lam H T/\
 ∀r hs H',SameX T H H'->Lam H' T->H' r=some (.tup (hs.map V.int))->HuesOk ts n.toNat (flo ts (rgI n.toNat)) hs->Q (.ref r) H'
theorem set_ints{hs:List Int}{i:Nat}{x:Int}:(hs.map V.int).set i (.int x)=(hs.set i x).map V.int:=by rw[List.map_set]
theorem sc_byf:FnScope ["web","floors","hues","left","hue","part","place"] ["web","floors"] (defScope zas):=⟨rfl,rfl,rfl,by decide+kernel,rfl,by decide+kernel,by decide+kernel⟩
theorem ok_byf{f f1 f2 T:Addr}{fd d1 d2:FuncData}(F:Fun K "hues_by_floors" "hues_by_floors" zas f fd)(D1:Dfn K mg "best_part" zbp ["web","floors","some"] f1 d1)(G1:FnOk P w K mg base CX0 5 f1 d1 ["web","floors","some"] (spBest K T))(D2:Dfn K mg "without" zca ["some","part"] f2 d2)(G2':FnOk P w K mg base CX0 1 f2 d2 ["some","part"] (spWithout K))(m_tuple:mg "tuple"=none)(m_range:mg "range"=none):
  FnOk P w K mg base CX0 6 f fd ["web","floors"] (spByF K T):=by
 have G2:FnOk P w K mg base CX0 5 f2 d2 ["some","part"] (spWithout K):=G2'.mono (by decide)
 refine F.ok sc_byf (fun vs H Q E h=> ?_) (fun cdv A outer s H vs Q E hr h=> ?_)
 ·obtain⟨a,d,n,ts,rfl,_⟩:=h
  rfl
 obtain⟨a,d,n,ts,rfl,hA,hD,hL,q⟩:=h
 refine⟨_,(zae (zan (i:=2) sc_byf.nd rfl (Or.inl rfl) (zbd op_rep (zch (zaa zag zac)) (zbz zcj (pv 0) zag (fun _ _=>rfl)))) (zae (zan (i:=3) sc_byf.nd rfl (Or.inl rfl) (pe_tupRange rfl rfl m_tuple rfl m_range (zaa (zbz zcj (pv 0) zag (fun _ _=>rfl)) zac))) (zae (zan (i:=4) sc_byf.nd rfl (Or.inl rfl) zag) (zae (ps_while PassesOwn.never (pt_truth (pv 3) (fun _=>rfl)) (zae (zan (i:=5) sc_byf.nd rfl (Or.inl rfl) (zaj G1 hr rfl D1.m D1.F.kp D1.b .nil pass0 (zaa (pv 0) (zaa (pv 1) (zaa (pv 3) zac))))) (zae (zcl PassesOwn.never rfl (zcr (pv 5)) (zal (i:=6) sc_byf.nd rfl (Or.inl rfl)) (zah (ps_asg (pv 4) (pg_sub (pv 2) (pv 6) set_list)))) (zae (zan (i:=3) sc_byf.nd rfl (Or.inl rfl) (zaj G2 hr rfl D2.m D2.F.kp D2.b .nil pass0 (zaa (pv 3) (zaa (pv 5) zac)))) (zah (ps_aug (i:=4) sc_byf.nd rfl (Or.inl rfl) zag ip_add)))))) (zah (zao (zbh zck rfl m_tuple (by decide+kernel) (zaa (pv 2) zac)))))))),?_⟩
 obtain⟨t,rs,w1,w2,w3⟩:=id hA.web
 have hn0:=hA.h0
 have hn1:=hA.h1
 refine⟨(by show 1<=sizeLine;decide),fun l0 hl0=> ?_⟩
 have s0:=zad hl0 (.lst [.int 0])
 refine⟨_,rfl,a,_,_,.int n,rfl,rfl,s0.tup w1,rfl,l0,n,_,rfl,rfl,zab,by omega,by omega,by rw[sizeLine_eq];show 1*n.toNat<=_;omega,fun l hl=> ?_⟩
 have s1:=s0.trans (zad hl (.lst (List.replicate n.toNat [V.int 0]).flatten))
 have e0:(List.replicate n.toNat [V.int 0]).flatten=(List.replicate n.toNat 0).map V.int:=by
  rw[List.map_replicate]
  induction n.toNat with
  |zero=>rfl
  |succ k ih=>rw[List.replicate_succ,List.flatten_cons,ih,List.replicate_succ];rfl
 have hl1:(upd (upd H l0 (.lst [.int 0])) l (.lst (List.replicate n.toNat [V.int 0]).flatten)) l=some (.lst ((List.replicate n.toNat (0:Int)).map V.int)):=by rw[zab,e0]
 have l00:H l=none:=s0.free hl
 dsimp only at s1 hl1⊢
 generalize upd (upd H l0 (.lst [.int 0])) l (.lst (List.replicate n.toNat [V.int 0]).flatten)=H1 at *
 refine⟨_,rfl,a,_,_,.int n,rfl,rfl,s1.tup w1,rfl,n,rfl,hn0,by omega,fun lf hlf=> ?_⟩
 have s2:=zad hlf (.tup (tupR n.toNat))
 have hlf1:(upd H1 lf (.tup (tupR n.toNat))) lf=some (.tup ((rgI n.toNat).map V.int)):=by rw[zab,tupR_rgI]
 have hl2:=s2 _ _ hl1
 have s12:=s1.trans s2
 dsimp only at s12 hlf1 hl2⊢
 generalize upd H1 lf (.tup (tupR n.toNat))=H2 at *
 refine⟨fun m σ H'=>∃(xs hs:List Int) (h:Int) (b:Addr) (o5 o6:Option V),m=xs.length/\σ=[some (.ref a),some (.ref d),some (.ref l),some (.ref b),some (.int h),o5,o6]/\SameX T H H'/\Lam H' T/\H' l=some (.lst (hs.map V.int))/\SqT K H' b (xs.map V.int)/\HueI ts n.toNat (flo ts (rgI n.toNat)) xs h hs,
  ⟨_,rgI n.toNat,_,0,lf,_,_,rfl,rfl,s12.x T,hL.same s12,hl2,SqT.of hlf1,HueI.start ts n.toNat⟩,?_⟩
 rintro m σ H' ⟨xs,hs,h,b,o5,o6,rfl,rfl,sx,hLm,hl3,hB,HI⟩
 refine⟨_,rfl,!((xs.map V.int).isEmpty),.inr (.inl ⟨_,hB,rfl⟩),?_⟩
 obtain⟨tb0,ht0⟩:=hL.at
 obtain⟨tb,ht⟩:=hLm.at
 have nlT:l≠T:=tbl_ne ht hl3 fun _ z=>nomatch z
 refine ite2 (fun c=> ?_) (fun c=> ?_)
 ·have hx:xs≠[]:=fun e=>by subst e;exact absurd c (by decide)
  have xl:xs.length<=10:=by
   have:=HI.sub.length_le
   rw[rgI_len]at this
   omega
  have hA':=hA.tbl sx ht0
  have hD':=sx _ _ (tbl_ne ht0 hD fun _ z=>nomatch z) hD
  refine⟨fun σ' H''=>∃m',m'<xs.length/\∃(xs hs:List Int) (h:Int) (b:Addr) (o5 o6:Option V),m'=xs.length/\σ'=[some (.ref a),some (.ref d),some (.ref l),some (.ref b),some (.int h),o5,o6]/\SameX T H H''/\Lam H'' T/\H'' l=some (.lst (hs.map V.int))/\SqT K H'' b (xs.map V.int)/\HueI ts n.toNat (flo ts (rgI n.toNat)) xs h hs,fun σ' H'' z=>z,?_⟩
  refine⟨_,rfl,_,rfl,_,rfl,a,d,b,n,ts,xs,_,flo ts,rfl,hA'.web,hD',hB,hx,xl,fun p hp=> ?_,hLm,fun r p H3 s3 hL3 hr hp hb=> ?_⟩
  ·rw[zav,if_pos ((zbc _ _).mpr ((wo_sub _ _).trans HI.sub))]
  ·have hl4:=s3 _ _ nlT hl3
   have hB3:=tupT s3 ht hB
   have pin:∀z∈p,0<=z/\z<(n.toNat:Int):=fun z hz=>by
    obtain⟨y,yr,rfl⟩:∃y yr,xs=y::yr:=by
     cases xs with
     |nil=>exact absurd rfl hx
     |cons y yr=>exact⟨y,yr,rfl⟩
    exact mem_rgI.mp (HI.sub.subset ((fpG_part hp).1.subset hz))
   refine⟨_,rfl,r,_,rfl,hr,fun hz=> ?_⟩
   refine for_tup (K:=K) (a:=r) (xs:=p.map V.int) (fun i σ H'=>∃o6,σ=[some (.ref a),some (.ref d),some (.ref l),some (.ref b),some (.int h),some (.ref r),o6]/\SameX l H3 H'/\H' l=some (.lst ((setA hs (p.take i) h).map V.int)))
    ⟨_,rfl,SameX.refl _ _,hl4⟩ (fun i σ H' _ z=> ?_) (fun i x σ H4 hx4 z=> ?_) (fun σ H4 z=> ?_)
   ·obtain⟨_,_,z,_⟩:=z
    exact z.tup hl4 hr
   ·obtain⟨o6,rfl,x4,h4⟩:=z
    rw[List.getElem?_map]at hx4
    cases ex:p[i]? with
    |none=>rw[ex]at hx4;cases hx4
    |some y=>
     rw[ex]at hx4
     cases hx4
     have hy:=pin y (List.mem_of_getElem? ex)
     refine⟨_,rfl,_,rfl,_,rfl,l,_,y,y.toNat,rfl,rfl,h4,?_,_,rfl,x4.upd,?_⟩
     ·unfold ixN
      rw[if_pos hy.1,if_pos (by rw[List.length_map,setA_len,HI.len];omega)]
     ·rw[zab,set_ints,List.take_add_one,ex]
      unfold setA
      rw[List.foldl_append];rfl
   ·obtain⟨o6,rfl,x4,h4⟩:=z
    rw[List.length_map,List.take_length]at h4
    refine⟨_,rfl,_,rfl,b,r,xs,p,rfl,x4.tup hl4 hB3,x4.tup hl4 hr,fun b2 H5 s5 h5=> ?_⟩
    refine⟨_,rfl,_,_,rfl,rfl,?_⟩
    have xl2:SameX l H3 H5:=x4.trans (s5.x l)
    have hL5:=(hL3.samex x4 hl4).same s5
    refine⟨_,?_,wo xs p,setA hs p h,h+1,b2,_,_,rfl,rfl,fun c o nc e=> ?_,hL5,s5 _ _ h4,SqT.of h5,HI.step (by rw[show((n.toNat:Nat):Int)=n by omega];exact hA.pk) hx hp hb⟩
    ·obtain⟨y,yr,rfl⟩:∃y yr,xs=y::yr:=by
      cases xs with
      |nil=>exact absurd rfl hx
      |cons y yr=>exact⟨y,yr,rfl⟩
     exact wo_lt (fpG_part hp).2
    ·exact xl2 _ _ (fun z=>by rw[z,l00]at e;cases e) (s3 _ _ nc (sx _ _ nc e))
 ·have hx:xs=[]:=by
   cases xs with
   |nil=>rfl
   |cons y yr=>exact absurd rfl c
  subst hx
  refine⟨_,rfl,l,_,rfl,.inl ⟨SqL.of hl3,fun r hr=> ?_⟩⟩
  exact q r hs _ (sx.trans ((zad hr _).x T)) (hLm.same (zad hr _)) zab HI.done
noncomputable def spFew(K:W.Frag)(T:Addr):Sp:=fun vs H Q _=>∃(a:Addr) (n:Int) (ts:List (Int×Int)),vs=[.ref a]/\WebIs K H a n ts/\Lam H T/\
 ∀r h d hs H',SameX T H H'->Lam H' T->H' r=some (.tup [.int (flo ts (rgI n.toNat)),.ref h,.ref d])->H' h=some (.tup (hs.map V.int))->HuesOk ts n.toNat (flo ts (rgI n.toNat)) hs->H' d=some (.dT (setK (flo ts) (allS n.toNat)))->H d=none->Q (.ref r) H'
theorem sc_few:FnScope ["web","floors"] ["web"] (defScope zdf):=⟨rfl,rfl,rfl,by decide+kernel,rfl,by decide+kernel,by decide+kernel⟩
theorem ok_few{f f1 f2 f3 T:Addr}{fd d1 d2 d3:FuncData}(F:Fun K "fewest" "fewest" zdf f fd)(D1:Dfn K mg "need_web" zbs ["thing"] f1 d1)(G1:FnOk P w K mg base CX0 7 f1 d1 ["thing"] (spNeedWeb K))(D2:Dfn K mg "highest_floors" zat ["web"] f2 d2)(G2':FnOk P w K mg base CX0 5 f2 d2 ["web"] (spHighs K))(D3:Dfn K mg "hues_by_floors" zas ["web","floors"] f3 d3)(G3':FnOk P w K mg base CX0 6 f3 d3 ["web","floors"] (spByF K T))(m_tuple:mg "tuple"=none)(m_range:mg "range"=none):
  FnOk P w K mg base CX0 8 f fd ["web"] (spFew K T):=by
 have G2:FnOk P w K mg base CX0 7 f2 d2 ["web"] (spHighs K):=G2'.mono (by decide)
 have G3:FnOk P w K mg base CX0 7 f3 d3 ["web","floors"] (spByF K T):=G3'.mono (by decide)
 refine F.ok sc_few (fun vs H Q E h=> ?_) (fun cdv A outer s H vs Q E hr h=> ?_)
 ·obtain⟨a,n,ts,rfl,_⟩:=h
  rfl
 obtain⟨a,n,ts,rfl,hA,hL,q⟩:=h
 refine⟨_,(zae (zcy (zaj G1 hr rfl D1.m D1.F.kp D1.b .nil pass0 (zaa (pv 0) zac))) (zae (zan (i:=1) sc_few.nd rfl (Or.inl rfl) (zaj G2 hr rfl D2.m D2.F.kp D2.b .nil pass0 (zaa (pv 0) zac))) (zah (zao (zcg (zaa (zcs (hu_of hr) (pv 1) (pe_tupRange rfl rfl m_tuple rfl m_range (zaa (zbz zcj (pv 0) zag (fun _ _=>rfl)) zac)) (fun _ _=>rfl)) (zaa (zaj G3 hr rfl D3.m D3.F.kp D3.b .nil pass0 (zaa (pv 0) (zaa (pv 1) zac))) (zaa (pv 1) zac)))))))),?_⟩
 refine⟨_,rfl,_,webDat n ts,rfl,hA.web.dv.dx,hA.ok,fun H0 s0=> ?_⟩
 refine⟨_,rfl,a,n,ts,rfl,hA.same s0,fun d H1 s1 hd1 hd0=> ?_⟩
 have s01:=s0.trans s1
 obtain⟨t,rs,w1,w2,w3⟩:=id (hA.web.same s01)
 have hn0:=hA.h0
 have hn1:=hA.h1
 refine⟨_,rfl,_,rfl,a,_,_,.int n,rfl,rfl,w1,rfl,n,rfl,hn0,by omega,fun l hl=> ?_⟩
 have s2:=zad hl (.tup (tupR n.toNat))
 have hl2:(upd H1 l (.tup (tupR n.toNat))) l=some (.tup ((rgI n.toNat).map V.int)):=by rw[zab,tupR_rgI]
 have s012:=s01.trans s2
 have hd2:=s2 _ _ hd1
 dsimp only at s012 hl2 hd2⊢
 generalize upd H1 l (.tup (tupR n.toNat))=H2 at *
 have G:=DGet.t (k:=(rgI n.toNat).map Sum.inl) hd2 (by rw[keyV];exact hl2)
 rw[zav,if_pos ((zbc _ _).mpr (List.Sublist.refl _))]at G
 refine⟨d,_,rfl,G,_,rfl,_,rfl,a,d,n,ts,rfl,hA.same s012,hd2,hL.same s012,fun h hs H3 s3 hL3 hh HO=> ?_⟩
 obtain⟨tb,ht⟩:=(hL.same s012).at
 have hd3:=s3 _ _ (tbl_ne ht hd2 fun _ z=>nomatch z) hd2
 refine⟨_,rfl,(by show 3<=sizeLine;decide),fun r hr=> ?_⟩
 have s4:=zad hr (.tup [.int (flo ts (rgI n.toNat)),.ref h,.ref d])
 exact q r h d hs _ (((s012.x T).trans s3).trans (s4.x T)) (hL3.same s4) zab (s4 _ _ hh) HO (s4 _ _ hd3) (s0.free hd0)
end
end Hs
namespace Hs
open PySem L2 HsD
section
variable{P:Program}{w:World}{K:W.Frag}{mg:Str->Option Value}{base:Heap}
theorem len_int(ys:List Int):(V.int ((ys.map V.int).length:Int))=V.int (ys.length:Int):=by rw[List.length_map]
theorem intV_ne{a b:Int}:(!decide (V.int a=V.int b))= !decide (a=b):=by
 by_cases e:a=b
 ·subst e;simp
 ·rw[decide_eq_false e,decide_eq_false (by intro z;injection z with z;exact e z)]
theorem rises_pw{ns:List Int}(h:risesI ns=true):ns.Pairwise (· < ·):=by
 unfold risesI at h
 rw[List.all_eq_true]at h
 have adj:∀k,(hk:k+1<ns.length)->ns[k]<ns[k+1]:=fun k hk=>by
  have z:=of_decide_eq_true (h k (List.mem_range.mpr (by omega)))
  rw[List.getD_eq_getElem?_getD,List.getD_eq_getElem?_getD,List.getElem?_eq_getElem (by omega),List.getElem?_eq_getElem hk]at z
  exact z
 rw[List.pairwise_iff_getElem]
 intro i j hi hj hij
 have go:∀d:Nat,(hd:i+1+d<ns.length)->ns[i]<ns[i+1+d]:=by
  intro d
  induction d with
  |zero=>intro hd;exact adj i hd
  |succ d ih=>intro hd;exact Int.lt_trans (ih (by omega)) (adj (i+1+d) hd)
 have e:i+1+(j-i-1)=j:=by omega
 have z:=go (j-i-1) (by omega)
 simp only[e]at z
 exact z
structure SetOk(n:Int)(xs:List Int):Prop where
 srt:xs.Pairwise (· < ·)
 lt:∀x∈xs,0<=x/\x<n
theorem SetOk.setD{n:Int}{xs:List Int}(h:SetOk n xs):HsD.setD n (.tuple (xs.map PyData.int))=true:=by
 unfold HsD.setD
 rw[Bool.and_eq_true]
 refine⟨?_,?_⟩
 ·rw[List.all_map,List.all_eq_true]
  intro x hx
  have:=h.lt x hx
  show(decide (0<=x)&&decide (x<n))=true
  rw[decide_eq_true this.1,decide_eq_true this.2];rfl
 ·rw[List.map_map]
  have e:xs.map (intD∘PyData.int)=xs:=(List.map_congr_left fun x _=>rfl).trans (List.map_id xs)
  rw[e]
  unfold risesI
  rw[List.all_eq_true]
  intro k hk
  rw[List.mem_range]at hk
  have h2:=List.pairwise_iff_getElem.mp h.srt k (k+1) (by omega) (by omega) (by omega)
  have g:∀j,(hj:j<xs.length)->xs.getD j 0=xs[j]:=fun j hj=>by rw[List.getD_eq_getElem?_getD,List.getElem?_eq_getElem hj];rfl
  rw[g k (by omega),g (k+1) (by omega)]
  exact decide_eq_true h2
theorem rgI_inc(n:Nat):(rgI n).Pairwise (· < ·):=by
 unfold rgI
 rw[List.pairwise_map]
 exact List.pairwise_lt_range.imp fun{a b} h=>by omega
theorem inc_eq:∀{a b:List Int},a.Pairwise (· < ·)->b.Pairwise (· < ·)->(∀x,x∈a↔x∈b)->a=b
 |[],[],_,_,_=>rfl
 |[],y::b,_,_,h=>by have:=(h y).mpr List.mem_cons_self;cases this
 |x::a,[],_,_,h=>by have:=(h x).mp List.mem_cons_self;cases this
 |x::a,y::b,ha,hb,h=>by
  rw[List.pairwise_cons]at ha hb
  have e:x=y:=by
   have h1:=(h x).mp List.mem_cons_self
   have h2:=(h y).mpr List.mem_cons_self
   rcases List.mem_cons.mp h1 with z|z
   ·exact z
   ·rcases List.mem_cons.mp h2 with z2|z2
    ·exact z2.symm
    ·have:=hb.1 x z
     have:=ha.1 y z2
     omega
  subst e
  rw[inc_eq ha.2 hb.2 fun z=>⟨fun hz=> ?_,fun hz=> ?_⟩]
  ·rcases List.mem_cons.mp ((h z).mp (List.mem_cons_of_mem _ hz))with q|q
   ·have:=ha.1 z hz;omega
   ·exact q
  ·rcases List.mem_cons.mp ((h z).mpr (List.mem_cons_of_mem _ hz))with q|q
   ·have:=hb.1 z hz;omega
   ·exact q
noncomputable def datS(s:List Int):PyData:= .tuple (s.map PyData.int)
theorem setD_iff{n:Nat}{s:List Int}:setD (n:Int) (datS s)=true↔s∈allS n:=by
 rw[zbc]
 constructor
 ·intro h
  have h':((s.map PyData.int).all (placeD (n:Int))&&risesI ((s.map PyData.int).map intD))=true:=h
  rw[Bool.and_eq_true]at h'
  have e:(s.map PyData.int).map intD=s:=by rw[List.map_map];exact List.map_id _
  rw[e]at h'
  have hs:=rises_pw h'.2
  have hr:∀x∈s,0<=x/\x<(n:Int):=fun x hx=>by
   have:=List.all_eq_true.mp h'.1 (.int x) (List.mem_map_of_mem hx)
   simpa[placeD]using this
  have es:s=(rgI n).filter fun x=>decide (x∈s):=inc_eq hs ((rgI_inc n).filter _) fun x=>by
   rw[List.mem_filter,mem_rgI]
   constructor
   ·intro h;exact⟨hr x h,by simpa using h⟩
   ·intro h;simpa using h.2
  rw[es]
  exact List.filter_sublist
 ·intro h
  exact SetOk.setD (n:=(n:Int)) ⟨(rgI_inc n).sublist h,fun x hx=>mem_rgI.mp (h.subset hx)⟩
noncomputable def allSetsB(n:Nat)(l:List (List Int)):Bool:=decide (l.length=2^n)&&l.all fun s=>setD (n:Int) (datS s)
theorem nd_le'{α:Type} [DecidableEq α]:∀{c t:List α},c.Nodup->(∀x∈c,x∈t)->c.length<=t.length
 |[],_,_,_=>Nat.zero_le _
 |x::c,t,nd,h=>by
  have hx:=h x List.mem_cons_self
  rw[List.nodup_cons]at nd
  have z:=nd_le' (c:=c) (t:=t.erase x) nd.2 fun y hy=>(List.mem_erase_of_ne (fun e:y=x=>nd.1 (e▸hy))).mpr (h y (List.mem_cons_of_mem _ hy))
  rw[List.length_erase_of_mem hx]at z
  have p:0<t.length:=List.length_pos_of_mem hx
  rw[List.length_cons]
  omega
theorem zcm{n:Nat}{l:List (List Int)}(h:allSetsB n l=true)(nd:l.Nodup){s:List Int}(hs:s∈allS n):s∈l:=by
 unfold allSetsB at h
 rw[Bool.and_eq_true]at h
 have h1:l.length=2^n:=of_decide_eq_true h.1
 by_cases c:s∈l
 ·exact c
 ·have:=nd_le' (c:=s::l) (t:=allS n) (List.nodup_cons.mpr ⟨c,nd⟩) fun x hx=>by
   rcases List.mem_cons.mp hx with z|z
   ·rw[z];exact hs
   ·exact setD_iff.mp (List.all_eq_true.mp h.2 x z)
  rw[List.length_cons,zbq]at this
  omega
theorem same_thaw{H H':Hp}{d:Addr}{o:Obj}{kvs:List (List Key×V)}(e:Same (upd H d (.frz o (.dT kvs))) H')(h:H d=some (.dT kvs)):Same H (upd H' d (.dT kvs)):=fun b u hb=>by
 by_cases z:b=d
 ·subst z;rw[zab,<-h];exact hb
 ·rw[zaf z];exact e _ _ (by rw[zaf z];exact hb)
noncomputable def hueB(n:Int)(ts:List (Int×Int))(hs:List Int):Bool:=decide ((hs.length:Int)=n)&&(hs.all (fun h=>decide (0<=h))&&ts.all fun t=> !decide (hs.getD t.1.toNat 0=hs.getD t.2.toNat 0))
noncomputable def spAreH(K:W.Frag):Sp:=fun vs H Q _=>∃(a h:Addr) (n:Int) (ts:List (Int×Int)) (hs:List Int),vs=[.ref a,.ref h]/\WebIs K H a n ts/\SqT K H h (hs.map V.int)/\∀H',Same H H'->Q (.bl (hueB n ts hs)) H'
theorem sc_areH:FnScope ["web","hues"] ["web","hues"] (defScope zce):=⟨rfl,rfl,rfl,by decide+kernel,rfl,by decide+kernel,by decide+kernel⟩
theorem ok_areH{f f1 f2:Addr}{fd d1 d2:FuncData}(F:Fun K "are_hues" "are_hues" zce f fd)(D1:Dfn K mg "need_web" zbs ["thing"] f1 d1)(G1:FnOk P w K mg base CX0 7 f1 d1 ["thing"] (spNeedWeb K))(D2:Dfn K mg "is_whole" zbj ["thing"] f2 d2)(G2':FnOk P w K mg base CX0 1 f2 d2 ["thing"] (spWhole K))(m_len:mg "len"=none)(m_isinstance:mg "isinstance"=none)(m_tuple:mg "tuple"=none)(m_all:mg "all"=none):
  FnOk P w K mg base CX0 8 f fd ["web","hues"] (spAreH K):=by
 have G2:FnOk P w K mg base CX0 7 f2 d2 ["thing"] (spWhole K):=G2'.mono (by decide)
 refine F.ok sc_areH (fun vs H Q E h=> ?_) (fun cdv A outer s H vs Q E hr h=> ?_)
 ·obtain⟨a,h,n,ts,hs,rfl,_⟩:=h
  rfl
 obtain⟨a,h,n,ts,hs,rfl,hA,hH,q⟩:=h
 refine⟨_,(zae (zcy (zaj G1 hr rfl D1.m D1.F.kp D1.b .nil pass0 (zaa (pv 0) zac))) (zae (zdd (PW.pt (pw_or (zdk (zdg (zak zdh rfl m_isinstance (by decide+kernel) (zaa (pv 1) (zaa (pe_bltn rfl m_tuple (v:= .ty "tuple") (by decide+kernel) rfl) zac))))) (pw_or1 (zbf op_ne (zak zbx rfl m_len PySem.boot_len (zaa (pv 1) zac)) (zbz zcj (pv 0) zag (fun _ _=>rfl)) (nomark _))))) (zah (zao pe_bl)) zbg) (zae (zdd (zdk (zdg (zak (call_all rfl) rfl m_all (by decide+kernel) (zaa (zbk (own:=["hue"]) (caps:=[]) (ix:=[]) rfl (zcr (pv 1)) rfl rfl .nil (fun _ _ _ _ _=>(zal (i:=0) (show(["hue"]:List Str).Nodup from by decide+kernel) rfl (Or.inl rfl))) (fun _ _ _ _ _=>zcf) (fun _ _ _ _ _=>(zdl (zaj G2 hr rfl D2.m D2.F.kp D2.b .nil pass0 (zaa (pv 0) zac)) (pe_one (zct op_ge (pv 0) zag (nomark _)))))) zac)))) (zah (zao pe_bl)) zbg) (zah (zao (zak (call_all rfl) rfl m_all (by decide+kernel) (zaa (zbk (own:=["one","other"]) (caps:=["hues"]) (ix:=[1]) rfl (zcr (zbz zcj (pv 0) zag (fun _ _=>rfl))) rfl rfl (.cons rfl rfl .nil) (fun _ _ _ _ _=>(pg_tupK K (n:=2) rfl (pgs_cons (zal (i:=0) (show(["one","other","hues"]:List Str).Nodup from by decide+kernel) rfl (Or.inl rfl)) (pgs_cons (zal (i:=1) (show(["one","other","hues"]:List Str).Nodup from by decide+kernel) rfl (Or.inl rfl)) pgs_nil)))) (fun _ _ _ _ _=>zcf) (fun _ _ _ _ _=>(zct op_ne (zbz (ix_tupK K) (pv 2) (pv 0) (fun _ _=>rfl)) (zbz (ix_tupK K) (pv 2) (pv 1) (fun _ _=>rfl)) (nomark _)))) zac))))))),?_⟩
 refine⟨_,rfl,_,_,rfl,hA.web.dv.dx,hA.ok,fun H1 s1=> ?_⟩
 obtain⟨ta,ra,a1,a2,a3⟩:=id (hA.same s1).web
 have hH1:=s1.tup hH
 refine⟨_,rfl,.ref h,"tuple",_,rfl,.inl ⟨rfl,_,hH1⟩,.inr (.inr (.inl rfl)),_,rfl,?_⟩
 refine iteF ?_
 refine⟨_,rfl,h,_,rfl,.inr hH1,fun hz=>⟨_,rfl,a,_,_,.int n,rfl,rfl,a1,rfl,rfl,_,rfl,?_⟩⟩
 rw[len_int,intV_ne]
 refine ite2 (fun c=> ?_) (fun c=> ?_)
 ·have e:hueB n ts hs=false:=by unfold hueB;rw[decide_eq_false (by simpa using c)];rfl
  have:=q H1 s1
  rw[e]at this;exact this
 have hlen:(hs.length:Int)=n:=by simpa using c
 refine⟨_,rfl,h,_,rfl,hH1,fun hz1=> ?_⟩
 refine zcv (xs:=hs.map V.int) (fun i acc σ H'=>acc=((hs.take i).map fun x=>decide (0<=x)).map V.bl/\Same H1 H'/\∃o1,σ=[o1]) ⟨rfl,Same.refl _,_,rfl⟩ (fun i acc σ H' _ p=>p.2.1.tup hH1) (fun i acc σ H' hi p=> ?_) hz1 (fun i x acc σ H' hx p=> ?_) (fun acc σ H' p=> ?_)
 ·rw[p.1,List.length_map,List.length_map,List.length_take];exact Nat.min_le_left _ _
 ·obtain⟨rfl,sm,o1,rfl⟩:=p
  rw[List.getElem?_map]at hx
  cases ex:hs[i]? with
  |none=>rw[ex]at hx;cases hx
  |some y=>
   rw[ex]at hx
   cases hx
   refine⟨_,rfl,_,_,rfl,.int y,_,rfl,iteT ?_⟩
   refine⟨_,rfl,_,_,rfl,rfl,?_,sm,_,rfl⟩
   rw[List.take_add_one,ex,List.map_append,List.map_append];rfl
 intro p1 hp1
 obtain⟨rfl,sm,_⟩:=p
 rw[List.length_map,List.take_length]
 have s2:=sm.trans (zad hp1 (.lst ((hs.map fun x=>decide (0<=x)).map V.bl)))
 refine⟨p1,_,rfl,SqL.of zab,_,rfl,?_⟩
 rw[List.all_map]
 dsimp only at s2⊢
 generalize upd H' p1 (.lst ((hs.map fun x=>decide (0<=x)).map V.bl))=H2 at *
 refine ite2 (fun c2=> ?_) (fun c2=> ?_)
 ·have c3:hs.all (fun h=>decide (0<=h))=false:=by
   cases z:hs.all (fun h=>decide (0<=h))with
   |false=>rfl
   |true=>exact absurd c2 (by show¬(!(hs.all fun h=>decide (0<=h)))=true;rw[z];decide)
  have e:hueB n ts hs=false:=by unfold hueB;rw[c3];simp
  have:=q H2 (s1.trans s2)
  rw[e]at this;exact this
 have hall:hs.all (fun h=>decide (0<=h))=true:=by
  cases z:hs.all (fun h=>decide (0<=h))with
  |true=>rfl
  |false=>exact absurd (show(!(hs.all fun h=>decide (0<=h)))=true by rw[z];rfl) c2
 refine⟨_,rfl,a,_,_,.ref ta,rfl,rfl,s2.tup a1,rfl,ta,ra,rfl,s2.tup a2,fun hz2=> ?_⟩
 have h45:=hA.len
 have hra:=a3.len
 rw[List.length_map]at hra
 refine zcv (xs:=ra) (fun i acc σ H'=>acc=((ts.take i).map fun p=> !decide (hs.getD p.1.toNat 0=hs.getD p.2.toNat 0)).map V.bl/\Same H2 H'/\∃o1 o2,σ=[o1,o2,some (.ref h)]) ⟨rfl,Same.refl _,_,_,rfl⟩ (fun i acc σ H' _ p=>p.2.1.tup (s2.tup a2)) (fun i acc σ H' hi p=> ?_) hz2 (fun i x acc σ H' hx p=> ?_) (fun acc σ H' p=> ?_)
 ·rw[p.1];simp;omega
 ·obtain⟨rfl,sm',b1,b2,rfl⟩:=p
  obtain⟨t,hi,rfl,ht⟩:=pair_at a3 hx
  have s34:=s2.trans sm'
  have hp:=hA.pk.lt ts[i] (List.getElem_mem _)
  refine⟨t,_,rfl,s34.tup ht,rfl,_,_,rfl,_,_,rfl,rfl,?_⟩
  refine⟨_,rfl,_,rfl,h,_,_,_,rfl,rfl,s34.tup hH1,at_xs hp.1 (by omega),_,rfl,_,rfl,h,_,_,_,rfl,rfl,s34.tup hH1,at_xs (by omega) (by omega),rfl,?_,sm',_,_,rfl⟩
  rw[intV_ne]
  exact map_take_succ (f:=fun p=> !decide (hs.getD p.1.toNat 0=hs.getD p.2.toNat 0)) (g:=V.bl) hi
 ·intro p2 hp2
  obtain⟨rfl,sm',_⟩:=p
  refine⟨p2,_,rfl,SqL.of zab,?_⟩
  have e:((ts.take ra.length).map fun p=> !decide (hs.getD p.1.toNat 0=hs.getD p.2.toNat 0)).all id=hueB n ts hs:=by
   rw[hra,List.take_length,List.all_map]
   unfold hueB
   rw[decide_eq_true hlen,hall,Bool.true_and,Bool.true_and];rfl
  rw[e]
  exact q _ (s1.trans (s2.trans (sm'.trans (zad hp2 _))))
noncomputable def spHaveAll(K:W.Frag):Sp:=fun vs H Q _=>∃(n:Int) (d:Addr) (l:List (List Int)) (f:List Int->Int),vs=[.int n,.ref d]/\0<=n/\n<=10/\H d=some (.dT (setK f l))/\∀H',Same H H'->Q (.bl (allSetsB n.toNat l)) H'
theorem sc_haveAll:FnScope ["n","floors"] ["n","floors"] (defScope zay):=⟨rfl,rfl,rfl,by decide+kernel,rfl,by decide+kernel,by decide+kernel⟩
theorem ok_haveAll{f f1 f2 f3:Addr}{fd d1 d2 d3:FuncData}(F:Fun K "have_all_sets" "have_all_sets" zay f fd)(D1:Dfn K mg "all_sets" zbt ["n"] f1 d1)(G1':FnOk P w K mg base CX0 1 f1 d1 ["n"] (spAllSets K))(D2:Dfn K mg "is_whole" zbj ["thing"] f2 d2)(G2':FnOk P w K mg base CX0 1 f2 d2 ["thing"] (spWhole K))(D3:Dfn K mg "is_set" zcu ["n","thing"] f3 d3)(G3:FnOk P w K mg base CX0 4 f3 d3 ["n","thing"] (spSet K))(m_len:mg "len"=none)(m_dict:mg "dict"=none)(m_all:mg "all"=none)(m_isinstance:mg "isinstance"=none):
  FnOk P w K mg base CX0 5 f fd ["n","floors"] (spHaveAll K):=by
 have G1:FnOk P w K mg base CX0 4 f1 d1 ["n"] (spAllSets K):=G1'.mono (by decide)
 have G2:FnOk P w K mg base CX0 4 f2 d2 ["thing"] (spWhole K):=G2'.mono (by decide)
 refine F.ok sc_haveAll (fun vs H Q E h=> ?_) (fun cdv A outer s H vs Q E hr h=> ?_)
 ·obtain⟨n,d,l,f,rfl,_⟩:=h
  rfl
 obtain⟨n,d,l,f,rfl,h0,h1,hD,q⟩:=h
 refine⟨_,(zae (zdd (PW.pt (pw_or (zdk (zdg (zak call_isiDict rfl m_isinstance (by decide+kernel) (zaa (pv 1) (zaa (pe_bltn rfl m_dict (v:= .ty "dict") (by decide+kernel) rfl) zac))))) (pw_or1 (zbf op_ne (zak (call_lenT rfl) rfl m_len PySem.boot_len (zaa (pv 1) zac)) (zak zbx rfl m_len PySem.boot_len (zaa (zaj G1 hr rfl D1.m D1.F.kp D1.b .nil pass0 (zaa (pv 0) zac)) zac)) (nomark _))))) (zah (zao pe_bl)) zbg) (zah (zao (zak (call_all rfl) rfl m_all (by decide+kernel) (zaa (pe_thaw (zbk (own:=["some","floor"]) (caps:=["n"]) (ix:=[0]) rfl (pi_items (pv 1)) rfl rfl (.cons rfl rfl .nil) (fun _ _ _ _ _=>(pg_tupK K (n:=2) rfl (pgs_cons (zal (i:=0) (show(["some","floor","n"]:List Str).Nodup from by decide+kernel) rfl (Or.inl rfl)) (pgs_cons (zal (i:=1) (show(["some","floor","n"]:List Str).Nodup from by decide+kernel) rfl (Or.inl rfl)) pgs_nil)))) (fun _ _ _ _ _=>zcf) (fun _ _ _ _ _=>(zdl (zaj G3 hr rfl D3.m D3.F.kp D3.b .nil pass0 (zaa (pv 2) (zaa (pv 0) zac))) (pe_one (zaj G2 hr rfl D2.m D2.F.kp D2.b .nil pass0 (zaa (pv 1) zac))))))) zac))))),?_⟩
 refine⟨_,rfl,d,_,rfl,hD,_,rfl,?_⟩
 refine iteF ?_
 refine⟨_,rfl,d,_,rfl,.inl hD,_,rfl,n,rfl,h0,h1,fun r its H1 s1 hr1 hT hm=>⟨r,_,rfl,.inl (SqL.of hr1),fun hz=>⟨rfl,_,rfl,?_⟩⟩⟩
 rw[intV_ne]
 have el:(its.map fun p=>V.ref p.1).length=2^n.toNat:=by rw[List.length_map,<-zbq,<-hm,List.length_map]
 rw[el,zbn]
 refine ite2 (fun c=> ?_) (fun c=> ?_)
 ·have e:allSetsB n.toNat l=false:=by
   unfold allSetsB
   rw[decide_eq_false (fun z=>by rw[z]at c;simp at c)];rfl
  have:=q H1 s1
  rw[e]at this;exact this
 have hll:l.length=2^n.toNat:=by
  have:((l.length:Nat):Int)=((2^n.toNat:Nat):Int):=by simpa using c
  omega
 have hD1:=s1 _ _ hD
 refine⟨d,_,hD1,_,rfl,d,_,rfl,hD1,fun hz2 o=> ?_⟩
 have en:((n.toNat:Nat):Int)=n:=by omega
 refine comp_items (d:=d) (o:=o) (kvs:=setK f l) (fun i acc σ H'=>acc=((l.take i).map fun s=>setD (n.toNat:Int) (datS s)).map V.bl/\Same (upd H1 d (.frz o (.dT (setK f l)))) H'/\∃o1 o2,σ=[o1,o2,some (.int n)]) ⟨rfl,Same.refl _,_,_,rfl⟩ (fun i acc σ H' _ p=>p.2.1 _ _ zab) (fun i acc σ H' _ p=> ?_) hz2 (fun i t b k v acc σ H' hk p ht hb=> ?_) (fun acc σ H' p=> ?_)
 ·rw[p.1,List.length_map,List.length_map,List.length_take];exact Nat.min_le_left _ _
 ·obtain⟨rfl,sm,o1,o2,rfl⟩:=p
  unfold setK at hk
  rw[List.getElem?_map]at hk
  cases es:l[i]? with
  |none=>rw[es]at hk;cases hk
  |some s=>
   rw[es]at hk
   cases hk
   rw[keyV]at hb
   have s2:=sm.trans (zad ht (.tup [.ref b,.int (f s)]))
   have hb2:=zad ht (.tup [.ref b,.int (f s)]) _ _ hb
   have ht2:(upd H' t (.tup [.ref b,.int (f s)])) t=some (.tup [.ref b,.int (f s)]):=zab
   dsimp only at s2 hb2 ht2⊢
   generalize upd H' t (.tup [.ref b,.int (f s)])=H2 at *
   refine⟨t,_,rfl,SqT.of ht2,rfl,_,_,rfl,_,_,rfl,rfl,?_⟩
   refine⟨_,rfl,_,rfl,n,.ref b,datS s,rfl,.tup (SqT.of hb2) (DVs.dx (DVs.ints s)),fun H3 s3=>⟨_,rfl,?_⟩⟩
   have et:((l.take (i+1)).map fun s=>setD (n.toNat:Int) (datS s)).map V.bl=((l.take i).map fun s=>setD (n.toNat:Int) (datS s)).map V.bl++[V.bl (setD n (datS s))]:=by
    rw[List.take_add_one,es,List.map_append,List.map_append,en];rfl
   refine ite2 (fun c2=> ?_) (fun c2=> ?_)
   ·refine⟨_,rfl,_,_,rfl,.int (f s),?_,s2.trans s3,_,_,rfl⟩
    rw[et,c2];rfl
   ·refine⟨?_,s2.trans s3,_,_,rfl⟩
    rw[et]
    cases z:setD n (datS s)with
    |true=>exact absurd z c2
    |false=>rfl
 ·intro p1 hp1
  obtain⟨rfl,sm,_⟩:=p
  rw[zbn,List.take_length]
  have np:d≠p1:=fun z=>by rw[<-z,sm _ _ zab]at hp1;cases hp1
  have s2:=same_thaw (sm.trans (zad hp1 (.lst ((l.map fun s=>setD (n.toNat:Int) (datS s)).map V.bl)))) hD1
  refine⟨o,by rw[zaf np];exact sm _ _ zab,?_⟩
  refine⟨p1,_,rfl,SqL.of (by rw[zaf np.symm,zab]),?_⟩
  have e:(l.map fun s=>setD (n.toNat:Int) (datS s)).all id=allSetsB n.toNat l:=by
   unfold allSetsB
   rw[decide_eq_true hll,Bool.true_and,List.all_map];rfl
  rw[e]
  exact q _ (s1.trans s2)
noncomputable def floB(n:Nat)(ts:List (Int×Int))(l:List (List Int))(f:List Int->Int)(num:Int):Bool:=allSetsB n l&&((allS n).all (fun s=>decide (f s<=hiF f ts s))&&decide (num<=f (rgI n)))
noncomputable def spAreF(K:W.Frag):Sp:=fun vs H Q _=>∃(a d:Addr) (n num:Int) (ts:List (Int×Int)) (l:List (List Int)) (f:List Int->Int),vs=[.ref a,.ref d,.int num]/\WebIs K H a n ts/\H d=some (.dT (setK f l))/\l.Nodup/\∀H',Same H H'->Q (.bl (floB n.toNat ts l f num)) H'
theorem sc_areF:FnScope ["web","floors","number"] ["web","floors","number"] (defScope zbm):=⟨rfl,rfl,rfl,by decide+kernel,rfl,by decide+kernel,by decide+kernel⟩
theorem ok_areF{f f1 f2 f3 f4:Addr}{fd d1 d2 d3 d4:FuncData}(F:Fun K "are_floors" "are_floors" zbm f fd)(D1:Dfn K mg "need_web" zbs ["thing"] f1 d1)(G1:FnOk P w K mg base CX0 7 f1 d1 ["thing"] (spNeedWeb K))(D2:Dfn K mg "have_all_sets" zay ["n","floors"] f2 d2)(G2':FnOk P w K mg base CX0 5 f2 d2 ["n","floors"] (spHaveAll K))(D3:Dfn K mg "all_sets" zbt ["n"] f3 d3)(G3':FnOk P w K mg base CX0 1 f3 d3 ["n"] (spAllSets K))(D4:Dfn K mg "highest_floor" zar ["web","floors","some"] f4 d4)(G4':FnOk P w K mg base CX0 4 f4 d4 ["web","floors","some"] (spHigh K))(m_all:mg "all"=none)(m_tuple:mg "tuple"=none)(m_range:mg "range"=none):
  FnOk P w K mg base CX0 8 f fd ["web","floors","number"] (spAreF K):=by
 have G2:FnOk P w K mg base CX0 7 f2 d2 ["n","floors"] (spHaveAll K):=G2'.mono (by decide)
 have G3:FnOk P w K mg base CX0 7 f3 d3 ["n"] (spAllSets K):=G3'.mono (by decide)
 have G4:FnOk P w K mg base CX0 7 f4 d4 ["web","floors","some"] (spHigh K):=G4'.mono (by decide)
 refine F.ok sc_areF (fun vs H Q E h=> ?_) (fun cdv A outer s H vs Q E hr h=> ?_)
 ·obtain⟨a,d,n,num,ts,l,f,rfl,_⟩:=h
  rfl
 obtain⟨a,d,n,num,ts,l,f,rfl,hA,hD,hnd,q⟩:=h
 refine⟨_,(zae (zcy (zaj G1 hr rfl D1.m D1.F.kp D1.b .nil pass0 (zaa (pv 0) zac))) (zae (zdd (zdk (zdg (zaj G2 hr rfl D2.m D2.F.kp D2.b .nil pass0 (zaa (zbz zcj (pv 0) zag (fun _ _=>rfl)) (zaa (pv 1) zac))))) (zah (zao pe_bl)) zbg) (zae (zdd (zdk (zdg (zak (call_all rfl) rfl m_all (by decide+kernel) (zaa (zbk (own:=["some"]) (caps:=["floors","web"]) (ix:=[1,0]) rfl (zby (zaj G3 hr rfl D3.m D3.F.kp D3.b .nil pass0 (zaa (zbz zcj (pv 0) zag (fun _ _=>rfl)) zac))) rfl rfl (.cons rfl rfl (.cons rfl rfl .nil)) (fun _ _ _ _ _=>(zal (i:=0) (show(["some","floors","web"]:List Str).Nodup from by decide+kernel) rfl (Or.inl rfl))) (fun _ _ _ _ _=>zcf) (fun _ _ _ _ _=>(zct op_le (zcs (hu_of hr) (pv 1) (pv 0) (fun _ _=>rfl)) (zaj G4 hr rfl D4.m D4.F.kp D4.b .nil pass0 (zaa (pv 2) (zaa (pv 1) (zaa (pv 0) zac)))) (nomark _)))) zac)))) (zah (zao pe_bl)) zbg) (zah (zao (zct op_ge (zcs (hu_of hr) (pv 1) (pe_tupRange rfl rfl m_tuple rfl m_range (zaa (zbz zcj (pv 0) zag (fun _ _=>rfl)) zac)) (fun _ _=>rfl)) (pv 2) (nomark _))))))),?_⟩
 have hn0:=hA.h0
 have hn1:=hA.h1
 refine⟨_,rfl,_,_,rfl,hA.web.dv.dx,hA.ok,fun H1 s1=> ?_⟩
 obtain⟨ta,ra,a1,a2,a3⟩:=id (hA.same s1).web
 refine⟨_,rfl,a,_,_,.int n,rfl,rfl,a1,rfl,_,rfl,n,d,l,f,rfl,hn0,hn1,s1 _ _ hD,fun H2 s2=>⟨_,rfl,?_⟩⟩
 have s12:=s1.trans s2
 refine ite2 (fun c=> ?_) (fun c=> ?_)
 ·have z:allSetsB n.toNat l=false:=by
   cases y:allSetsB n.toNat l with
   |false=>rfl
   |true=>rw[y]at c;exact absurd c (by decide)
  have e:floB n.toNat ts l f num=false:=by unfold floB;rw[z];rfl
  have:=q H2 s12
  rw[e]at this;exact this
 have hB:allSetsB n.toNat l=true:=by
  cases y:allSetsB n.toNat l with
  |true=>rfl
  |false=>rw[y]at c;exact absurd rfl c
 refine⟨_,rfl,a,_,_,.int n,rfl,rfl,s2.tup a1,rfl,n,rfl,hn0,hn1,fun r its H3 s3 hr3 hT hm=>⟨r,_,rfl,SqL.of hr3,fun hz=> ?_⟩⟩
 have s13:=s12.trans s3
 have hlen:its.length<=1024:=by
  have:its.length=2^n.toNat:=by rw[<-zbq,<-hm,List.length_map]
  rw[this]
  exact Nat.pow_le_pow_right (n:=2) (by decide) (show n.toNat<=10 by omega)
 refine comp_list (xs:=its.map fun p=>V.ref p.1) (fun i acc σ H'=>acc=((its.take i).map fun p=>decide (f p.2<=hiF f ts p.2)).map V.bl/\Same H3 H'/\∃o,σ=[o,some (.ref d),some (.ref a)]) ⟨rfl,Same.refl _,_,rfl⟩ (fun i acc σ H' _ p=>p.2.1.seq (SqL.of hr3)) (fun i acc σ H' _ p=> ?_) hz (fun i x acc σ H' hx p=> ?_) (fun acc σ H' p=> ?_)
 ·rw[p.1,List.length_map,List.length_map,List.length_take];exact Nat.min_le_left _ _
 ·obtain⟨rfl,sm,o,rfl⟩:=p
  rw[List.getElem?_map]at hx
  cases ex:its[i]? with
  |none=>rw[ex]at hx;cases hx
  |some v=>
   rw[ex]at hx
   cases hx
   have mv:=List.mem_of_getElem? ex
   have ms:v.2∈allS n.toNat:=by rw[<-hm];exact List.mem_map_of_mem mv
   have lv:v.2.length<=10:=by
    have:=zdi n.toNat v.2 ms
    omega
   have hD':=(s13.trans sm) _ _ hD
   have G:=DGet.t (k:=v.2.map Sum.inl) hD' (by rw[keyV];exact sm _ _ (hT v mv))
   rw[zav,if_pos (zcm hB hnd ms)]at G
   refine⟨_,rfl,_,rfl,d,_,rfl,G,_,rfl,_,rfl,_,rfl,a,d,v.1,n,ts,v.2,_,f,rfl,(hA.same (s13.trans sm)).web,hD',sm.tup (SqT.of (hT v mv)),lv,fun _ p _=> ?_,fun H4 s4=> ?_⟩
   ·rw[zav,if_pos (zcm hB hnd ((zbc _ _).mpr ((wo_sub _ _).trans ((zbc _ _).mp ms))))]
   ·refine⟨_,_,rfl,rfl,?_,sm.trans s4,_,rfl⟩
    rw[List.take_add_one,ex,List.map_append,List.map_append];rfl
 ·intro p1 hp1
  obtain⟨rfl,sm,_⟩:=p
  have e1:(its.take (its.map fun p=>V.ref p.1).length).map (fun p=>decide (f p.2<=hiF f ts p.2))=(allS n.toNat).map fun s=>decide (f s<=hiF f ts s):=by
   rw[List.length_map,List.take_length,<-hm,List.map_map];rfl
  rw[e1]
  have s4:=sm.trans (zad hp1 (.lst (((allS n.toNat).map fun s=>decide (f s<=hiF f ts s)).map V.bl)))
  refine⟨p1,_,rfl,SqL.of zab,_,rfl,?_⟩
  rw[List.all_map]
  dsimp only at s4⊢
  generalize upd H' p1 (.lst (((allS n.toNat).map fun s=>decide (f s<=hiF f ts s)).map V.bl))=H4 at *
  have s14:=s13.trans s4
  refine ite2 (fun c2=> ?_) (fun c2=> ?_)
  ·have z:(allS n.toNat).all (fun s=>decide (f s<=hiF f ts s))=false:=by
    cases y:(allS n.toNat).all (fun s=>decide (f s<=hiF f ts s))with
    |false=>rfl
    |true=>exact absurd c2 (by show¬(!((allS n.toNat).all fun s=>decide (f s<=hiF f ts s)))=true;rw[y];decide)
   have e:floB n.toNat ts l f num=false:=by unfold floB;rw[z];simp
   have:=q H4 s14
   rw[e]at this;exact this
  have hall:(allS n.toNat).all (fun s=>decide (f s<=hiF f ts s))=true:=by
   cases y:(allS n.toNat).all (fun s=>decide (f s<=hiF f ts s))with
   |true=>rfl
   |false=>exact absurd (show(!((allS n.toNat).all fun s=>decide (f s<=hiF f ts s)))=true by rw[y];rfl) c2
  obtain⟨tb,rb,b1,b2,b3⟩:=id (hA.same s14).web
  refine⟨_,rfl,_,rfl,a,_,_,.int n,rfl,rfl,b1,rfl,n,rfl,hn0,by omega,fun t ht=> ?_⟩
  have s5:=zad ht (.tup (tupR n.toNat))
  have G:=DGet.t (k:=(rgI n.toNat).map Sum.inl) ((s14.trans s5) _ _ hD) (by rw[keyV,zab,tupR_rgI])
  rw[zav,if_pos (zcm hB hnd ((zbc _ _).mpr (List.Sublist.refl _)))]at G
  refine⟨d,_,rfl,G,_,rfl,_,_,rfl,rfl,?_⟩
  have e:floB n.toNat ts l f num=decide (num<=f (rgI n.toNat)):=by unfold floB;rw[hB,hall];rfl
  show Q (.bl (decide (num<=f (rgI n.toNat)))) _
  rw[<-e]
  exact q _ (s14.trans s5)
end
end Hs
namespace Hs
open PySem L2 HsD
section
variable{P:Program}{w:World}{K:W.Frag}{mg:Str->Option Value}{base:Heap}
noncomputable def spAWeb(K:W.Frag):Sp:=fun vs H Q _=>∃(tp:Addr) (t m:Int),vs=[.ref tp,.int m]/\H tp=some (.lst [.int t])/\0<=m/\m<=10/\
 ∀r n ts H' t',SameX tp H H'->H' tp=some (.lst [.int t'])->WebIs K H' r n ts->n<=m->Q (.ref r) H'
theorem sc_aweb:FnScope ["tape","most","n","often","ties","i","j"] ["tape","most"] (defScope zcb):=⟨rfl,rfl,rfl,by decide+kernel,rfl,by decide+kernel,by decide+kernel⟩
theorem ok_aweb{f f1:Addr}{fd d1:FuncData}(F:Fun K "_law_aweb" "_law_aweb" zcb f fd)(D1:Dfn K mg "_law_adigit" zba ["tape","many"] f1 d1)(G1:FnOk P w K mg base CX0 1 f1 d1 ["tape","many"] (spDig K))(m_range:mg "range"=none)(m_tuple:mg "tuple"=none):
  FnOk P w K mg base CX0 2 f fd ["tape","most"] (spAWeb K):=by
 refine F.ok sc_aweb (fun vs H Q E h=> ?_) (fun cdv A outer s H vs Q E hr h=> ?_)
 ·obtain⟨tp,t,m,rfl,_⟩:=h
  rfl
 obtain⟨tp,t,m,rfl,hT,hm0,hm1,q⟩:=h
 refine⟨_,(zae (zan (i:=2) sc_aweb.nd rfl (Or.inl rfl) (zaj G1 hr rfl D1.m D1.F.kp D1.b .nil pass0 (zaa (pv 0) (zaa (zbd zcz (pv 1) zag) zac)))) (zae (zan (i:=3) sc_aweb.nd rfl (Or.inl rfl) (zbd zcz zag (zaj G1 hr rfl D1.m D1.F.kp D1.b .nil pass0 (zaa (pv 0) (zaa zag zac))))) (zae (zan (i:=4) sc_aweb.nd rfl (Or.inl rfl) (zch zac)) (zae (zcl PassesOwn.never rfl (pi_range1 rfl m_range (zaa (pv 2) zac)) (zal (i:=5) sc_aweb.nd rfl (Or.inl rfl)) (zah (zcl PassesOwn.never rfl (pi_range2 rfl m_range (zaa (zbd zcz (pv 5) zag) (zaa (pv 2) zac))) (zal (i:=6) sc_aweb.nd rfl (Or.inl rfl)) (zah (zdd (zbf op_lt (zaj G1 hr rfl D1.m D1.F.kp D1.b .nil pass0 (zaa (pv 0) (zaa zag zac))) (pv 3) (nomark _)) (zah (zcy (pe_bm PySem.F.plainAttrs_list PySem.F.slot_list_append PySem.F.type_list_append zda (pv 4) (zaa (zcg (zaa (pv 5) (zaa (pv 6) zac))) zac)))) zbg))))) (zah (zao (zcg (zaa (pv 2) (zaa (zbh zck rfl m_tuple (by decide+kernel) (zaa (pv 4) zac)) zac))))))))),?_⟩
 refine⟨_,rfl,_,rfl,_,_,rfl,rfl,tp,t,m+1,rfl,hT,by omega,by omega,fun n t1 hn0 hn1'=> ?_⟩
 have hn1:n<=10:=by omega
 refine⟨_,rfl,tp,t1,5,rfl,zab,by decide,by decide,fun o t2 ho0 ho1=>⟨_,_,rfl,rfl,?_⟩⟩
 refine⟨(by show 0<=sizeLine;decide),fun tl htl=> ?_⟩
 have ntc:tl≠tp:=none_ne' (zab (H:=upd H tp (.lst [.int t1])) (a:=tp) (o:= .lst [.int t2])) htl
 have s2:=zad htl (.lst [])
 have tl0:H tl=none:=by
  have z:∀t1 t2:Int,upd (upd H tp (.lst [.int t1])) tp (.lst [.int t2])=upd H tp (.lst [.int t2]):=fun _ _=>upd_upd
  rw[z,zaf ntc]at htl
  exact htl
 refine⟨_,rfl,n,rfl,by omega,by omega,?_⟩
 refine zdc (n:=n.toNat) (fun i σ H'=>SameX tp H H'/\(∃t',H' tp=some (.lst [.int t']))/\TiesL K H' tl (rows tt n i) (fun _=>True)/\∃a4 a5,σ=[some (.ref tp),some (.int m),some (.int n),some (.int (1+o)),some (.ref tl),a4,a5])
  ⟨((SameX.refl tp H).upd.upd).trans (s2.x _),⟨_,s2 _ _ zab⟩,TiesL.nil zab,_,_,rfl⟩ (fun i σ H' hi p=> ?_) (fun σ H' p=> ?_)
 ·obtain⟨x,⟨t0,c⟩,tl1,a4,a5,rfl⟩:=p
  refine⟨_,rfl,_,_,rfl,rfl,_,rfl,_,_,rfl,⟨by omega,by omega,by omega,by omega⟩,?_⟩
  refine zdc (n:=(n-(0+(i:Int)+1)).toNat) (fun k σ H'=>SameX tp H H'/\(∃t',H' tp=some (.lst [.int t']))/\TiesL K H' tl (rows tt n i++row tt (0+(i:Int)) k) (fun _=>True)/\∃a5,σ=[some (.ref tp),some (.int m),some (.int n),some (.int (1+o)),some (.ref tl),some (.int (0+(i:Int))),a5])
   ⟨x,⟨_,c⟩,by rw[show row tt (0+(i:Int)) 0=[]from rfl,List.append_nil];exact tl1,_,rfl⟩ (fun k σ H' hk p=> ?_) (fun σ H' p=> ?_)
  ·obtain⟨x,⟨t0,c⟩,tl1,a5,rfl⟩:=p
   refine⟨_,rfl,tp,t0,6,rfl,c,by decide,by decide,fun d t2 hd0 hd1=>⟨_,rfl,_,_,rfl,rfl,_,rfl,?_⟩⟩
   have x2:SameX tp H' (upd H' tp (.lst [.int t2])):=(SameX.refl _ _).upd
   have c2:(upd H' tp (.lst [.int t2])) tp=some (.lst [.int t2]):=zab
   have tl2:=tl1.step x2 c ntc
   have er:rows tt n i++row tt (0+(i:Int)) (k+1)=(rows tt n i++row tt (0+(i:Int)) k)++[(0+(i:Int),0+(i:Int)+1+(k:Int))]:=by rw[row_succ,if_pos (show tt _ _=true from rfl),List.append_assoc]
   rw[er]
   generalize upd H' tp (.lst [.int t2])=H2 at *
   refine ite2 (fun cc=> ?_) (fun cc=> ?_)
   ·obtain⟨rs,ts,h1,h2,h3,h4⟩:=tl2
    have hl:=sub_len hn1 (by omega) h3
    have hrl:=h2.len
    rw[List.length_map]at hrl
    refine⟨_,rfl,.inl ⟨rfl,_,SqL.of h1⟩,_,rfl,_,rfl,(by show 2<=sizeLine;decide),fun p hp=> ?_⟩
    have s3:=zad hp (.tup [.int (0+(i:Int)),.int (0+(i:Int)+1+(k:Int))])
    refine⟨tl,rs,_,rfl,rfl,s3 _ _ h1,(by rw[sizeLine_eq];omega),?_⟩
    have xw:SameX tl (upd H2 p (.tup [.int (0+(i:Int)),.int (0+(i:Int)+1+(k:Int))])) (upd (upd H2 p (.tup [.int (0+(i:Int)),.int (0+(i:Int)+1+(k:Int))])) tl (.lst (rs++[.ref p]))):=(SameX.refl _ _).upd
    refine⟨fun q o hq e=> ?_,⟨t2,xw _ _ ntc.symm (s3 _ _ c2)⟩,TiesL.push (s3 _ _ h1) (h2.same s3) h3 h4 (SqT.of zab) trivial,_,rfl⟩
    have nq:q≠tl:=fun z=>by rw[z,tl0]at e;cases e
    exact xw _ _ nq (s3 _ _ (x2 _ _ hq (x _ _ hq e)))
   ·exact⟨x.trans x2,⟨_,c2⟩,tl2.mono (List.sublist_append_left _ _),_,rfl⟩
  ·obtain⟨x,c,tl1,a5,rfl⟩:=p
   rw[<-rows_succ]at tl1
   exact⟨x,c,tl1,_,_,rfl⟩
 ·obtain⟨x,⟨t0,c⟩,⟨rs,ts,h1,h2,h3,h4⟩,a4,a5,rfl⟩:=p
  refine⟨_,rfl,_,rfl,tl,rs,rfl,.inl ⟨SqL.of h1,fun t ht=>⟨(by show 2<=sizeLine;decide),fun wb hwb=> ?_⟩⟩⟩
  have s3:=zad ht (.tup rs)
  have s4:=zad hwb (.tup [.int n,.ref t])
  have s34:=s3.trans s4
  obtain⟨g1,g2⟩:=web_of_sub hn0 hn1 h3
  exact q wb n ts _ t0 (x.trans (s34.x _)) (s34 _ _ c) ⟨⟨t,rs,SqT.of zab,SqT.of (s4 _ _ zab),h2.same s34⟩,hn0,hn1,g1,g2⟩ (by omega)
end
end Hs
namespace Hs
open PySem L2 HsD
noncomputable def apB(ts:List (Int×Int))(xs:List Int):Bool:=decide (ts.filter (fun p=>decide (p.1∈xs)&&decide (p.2∈xs))=[])
theorem apB_iff{ts:List (Int×Int)}{xs:List Int}:apB ts xs=true↔∀p∈ts,¬(p.1∈xs/\p.2∈xs):=by
 unfold apB
 rw[decide_eq_true_iff,List.filter_eq_nil_iff]
 constructor
 ·intro h p hp z
  exact h p hp (by simp[z.1,z.2])
 ·intro h p hp z
  refine h p hp ?_
  simpa using z
noncomputable def stA(ts:List (Int×Int)):St1:=fun p x=>apB ts (p++[x])
theorem fpG_congr2{st st':St1}{x:Int}{r:List Int}(J:List Int->Prop)(h0:J [x])(hJ:∀p y,J p->(∀o∈p,o<y)->st' p y=true->J (p++[y]))(hs:(x::r).Pairwise (· < ·))(h:∀p y,J p->(∀o∈p,o<y)->st p y=st' p y):fpG st (x::r)=fpG st' (x::r):=by
 have key:∀k,fpUp st (x::r) k=fpUp st' (x::r) k/\∀p∈fpUp st' (x::r) k,J p:=fun k=>by
  induction k with
  |zero=>exact⟨rfl,fun p hp=>by have hp':p∈[[x]]:=hp;rw[List.mem_singleton.mp hp'];exact h0⟩
  |succ k ih=>
   cases e:r[k]? with
   |none=>
    have e1:∀st:St1,fpUp st (x::r) (k+1)=fpUp st (x::r) k:=fun st=>by unfold fpUp;show((r.take (k+1)).foldl _ _)=((r.take k).foldl _ _);rw[List.take_add_one (l:=r),e];simp
    rw[e1,e1];exact ih
   |some y=>
    have hlt:∀p∈fpUp st' (x::r) k,∀o∈p,o<y:=fun p hp=>by
     obtain⟨h1,_⟩:=zdb (st:=st') k p hp
     have hs2:((x::r.take k)++[y]).Pairwise (· < ·):=by
      have:(x::r.take k)++[y]=x::r.take (k+1):=by rw[List.take_add_one,e];rfl
      rw[this]
      exact hs.sublist ((List.take_sublist _ _).cons₂ _)
     rw[List.pairwise_append]at hs2
     exact fun o ho=>hs2.2.2 o (h1.subset ho) y (List.mem_singleton_self _)
    rw[fpUp_succ (xs:=x::r) (show((x::r).drop 1)[k]? =some y from e),fpUp_succ (xs:=x::r) (show((x::r).drop 1)[k]? =some y from e),ih.1]
    unfold fpStep
    refine⟨?_,fun p hp=> ?_⟩
    ·congr 2
     exact List.filter_congr fun p hp=>h p y (ih.2 p hp) (hlt p hp)
    ·rcases List.mem_append.mp hp with z|z
     ·exact ih.2 p z
     ·obtain⟨q,hq,rfl⟩:=List.mem_map.mp z
      obtain⟨h1,h2⟩:=List.mem_filter.mp hq
      exact hJ q y (ih.2 q h1) (hlt q h1) h2
 rw[<-fpUp_all,<-fpUp_all,(key _).1]
theorem stA_eq{n:Int}{ts:List (Int×Int)}{xs:List Int}(hp:PairsOk n ts)(hs:xs.Pairwise (· < ·)):fpG (stA ts) xs=fparts ts xs:=by
 cases xs with
 |nil=>rfl
 |cons x r=>
  have main:∀p y,apB ts p=true->(∀o∈p,o<y)->stA ts p y=standB ts p y:=fun p y hJ hlt=>by
   rw[apB_iff]at hJ
   have e:∀o∈p,hasTie ts o y=decide ((o,y)∈ts):=fun o ho=>by
    have:=hlt o ho
    unfold hasTie
    rw[if_neg (show¬y<o by omega),if_pos (show y>o by omega)]
   rw[Bool.eq_iff_iff]
   show apB ts (p++[y])=true↔standB ts p y=true
   rw[apB_iff]
   unfold standB
   rw[Bool.not_eq_true',List.any_eq_false]
   constructor
   ·intro h o ho z
    rw[e o ho]at z
    exact h (o,y) (of_decide_eq_true z) ⟨List.mem_append_left _ ho,List.mem_append_right _ (List.mem_singleton_self _)⟩
   ·rintro h ⟨a,b⟩ hab ⟨h1,h2⟩
    have hl:=(hp.lt (a,b) hab).2.1
    dsimp only at h1 h2 hl
    rcases List.mem_append.mp h1 with z1|z1
    ·rcases List.mem_append.mp h2 with z2|z2
     ·exact hJ (a,b) hab ⟨z1,z2⟩
     ·have e2:=List.mem_singleton.mp z2
      subst e2
      exact h a z1 (by rw[e a z1];exact decide_eq_true hab)
    ·have e1:=List.mem_singleton.mp z1
     subst e1
     rcases List.mem_append.mp h2 with z2|z2
     ·have:=hlt b z2;omega
     ·have:=List.mem_singleton.mp z2;omega
  refine fpG_congr2 (fun p=>apB ts p=true) ?_ (fun p y h1 h2 h3=> ?_) hs main
  ·rw[apB_iff]
   rintro⟨a,b⟩ hab ⟨h1,h2⟩
   have hl:=(hp.lt (a,b) hab).2.1
   have:=List.mem_singleton.mp h1
   have:=List.mem_singleton.mp h2
   dsimp only at *
   omega
  ·have:=main p y h1 h2
   rw[h3]at this
   exact this
theorem lex_irr:∀a:List Int,HT.lexLt a a=false
 |[]=>rfl
 |x::a=>by rw[HT.lexLt_cons,if_pos rfl];exact lex_irr a
theorem lex_eq:∀{a b:List (List Int)},a.Pairwise (fun p q=>HT.lexLt p q=true)->b.Pairwise (fun p q=>HT.lexLt p q=true)->(∀x,x∈a↔x∈b)->a=b
 |[],[],_,_,_=>rfl
 |[],y::b,_,_,h=>by have:=(h y).mpr List.mem_cons_self;cases this
 |x::a,[],_,_,h=>by have:=(h x).mp List.mem_cons_self;cases this
 |x::a,y::b,ha,hb,h=>by
  rw[List.pairwise_cons]at ha hb
  have e:x=y:=by
   have h1:=(h x).mp List.mem_cons_self
   have h2:=(h y).mpr List.mem_cons_self
   rcases List.mem_cons.mp h1 with z|z
   ·exact z
   ·rcases List.mem_cons.mp h2 with z2|z2
    ·exact z2.symm
    ·have u1:=hb.1 x z
     have u2:=ha.1 y z2
     rw[lex_asym _ _ u1]at u2;cases u2
  subst e
  rw[lex_eq ha.2 hb.2 fun z=>⟨fun hz=> ?_,fun hz=> ?_⟩]
  ·rcases List.mem_cons.mp ((h z).mp (List.mem_cons_of_mem _ hz))with q|q
   ·have:=ha.1 z hz
    rw[q,lex_irr]at this;cases this
   ·exact q
  ·rcases List.mem_cons.mp ((h z).mpr (List.mem_cons_of_mem _ hz))with q|q
   ·have:=hb.1 z hz
    rw[q,lex_irr]at this;cases this
   ·exact q
theorem sorted_all{n:Nat}{l xs ys:List (List Int)}(hx:xs.Pairwise (fun p q=>HT.lexLt p q=true))(hxl:∀k,k∈xs↔k∈l)(hll:xs.length=l.length)(nd:l.Nodup)(hy:ys.Perm (allS n))(hys:ys.Pairwise (fun p q=>HT.lexLt q p=false)):decide (xs=ys)=allSetsB n l:=by
 have hy2:ys.Pairwise (fun p q=>HT.lexLt p q=true):=(hys.and (hy.nodup_iff.mpr (zcw n))).imp fun{a b} h=>lex_tot a b h.1 h.2
 rw[Bool.eq_iff_iff,decide_eq_true_iff]
 constructor
 ·intro e
  unfold allSetsB
  rw[Bool.and_eq_true,List.all_eq_true]
  refine⟨decide_eq_true ?_,fun s hs=>setD_iff.mpr ?_⟩
  ·rw[<-hll,e,hy.length_eq,zbq]
  ·rw[<-hy.mem_iff,<-e,hxl];exact hs
 ·intro h
  refine lex_eq hx hy2 fun k=> ?_
  rw[hxl,hy.mem_iff]
  constructor
  ·intro hk
   unfold allSetsB at h
   rw[Bool.and_eq_true,List.all_eq_true]at h
   exact setD_iff.mp (h.2 k hk)
  ·exact zcm h nd
theorem eqv_ints:∀(xs ys:List Int),PyData.eqvAll (xs.map PyData.int) (ys.map PyData.int)=decide (xs=ys)
 |[],[]=>by simp[PyData.eqvAll]
 |[],y::ys=>by simp[PyData.eqvAll]
 |x::xs,[]=>by simp[PyData.eqvAll]
 |x::xs,y::ys=>by
  show(PyData.eqv (.int x) (.int y)&&PyData.eqvAll (xs.map PyData.int) (ys.map PyData.int))=_
  rw[eqv_ints xs ys]
  have e:PyData.eqv (.int x) (.int y)=decide (x=y):=by
   show(x==y)=_
   rw[Bool.eq_iff_iff];simp
  rw[e,Bool.eq_iff_iff]
  simp
theorem eqv_tups:∀(xs ys:List (List Int)),PyData.eqvAll (xs.map datS) (ys.map datS)=decide (xs=ys)
 |[],[]=>by simp[PyData.eqvAll]
 |[],y::ys=>by simp[PyData.eqvAll]
 |x::xs,[]=>by simp[PyData.eqvAll]
 |x::xs,y::ys=>by
  show(PyData.eqvAll (x.map PyData.int) (y.map PyData.int)&&PyData.eqvAll (xs.map datS) (ys.map datS))=_
  rw[eqv_tups xs ys,eqv_ints,Bool.eq_iff_iff]
  simp
theorem lay_tups:∀xs:List (List Int),PyData.canLayAll0 (xs.map datS)=true
 |[]=>rfl
 |x::xs=>by
  show(PyData.canLayAll0 (x.map PyData.int)&&PyData.canLayAll0 (xs.map datS))=true
  rw[lay_ints x,lay_tups xs];rfl
noncomputable def univ:List (List Int):=allS 4++[[4],[1,0],[0,0]]
noncomputable def hU(k:List Int):Int:=reduceHash (Builtin.Tuple.tupleHashOf (k.map hashInt))
theorem univ_hash:(univ.map hU).Nodup:=by decide+kernel
theorem hash_eq{P:Program}{w:World}(k:List Int):(tupleKind (mixKind P w)).hash (k.map Sum.inl)=hU k:=by
 show reduceHash (Builtin.Tuple.tupleHashOf ((k.map Sum.inl).map (mixKind P w).hash))=_
 rw[List.map_map]
 have e:k.map ((mixKind P w).hash∘Sum.inl)=k.map hashInt:=List.map_congr_left fun i _=>rfl
 rw[e];rfl
theorem inj_of_nodup{α β:Type}{f:α->β}:∀{u:List α},(u.map f).Nodup->∀{x y:α},x∈u->y∈u->f x=f y->x=y
 |[],_,_,_,hx,_,_=>by cases hx
 |a::u,h,x,y,hx,hy,e=>by
  rw[List.map_cons,List.nodup_cons]at h
  rcases List.mem_cons.mp hx with z|z
  ·rcases List.mem_cons.mp hy with z2|z2
   ·rw[z,z2]
   ·exact absurd (show f a∈u.map f by rw[<-z,e];exact List.mem_map_of_mem z2) h.1
  ·rcases List.mem_cons.mp hy with z2|z2
   ·exact absurd (show f a∈u.map f by rw[<-z2,<-e];exact List.mem_map_of_mem z) h.1
   ·exact inj_of_nodup h.2 z z2 e
theorem hash_ok{P:Program}{w:World}{f:List Int->Int}{l:List (List Int)}(nd:l.Nodup)(h:∀k∈l,k∈univ):HashOk P w (setK f l):=by
 unfold HashOk setK
 rw[List.map_map]
 have e:l.map ((fun kv:List Key×V=>(tupleKind (mixKind P w)).hash kv.1)∘fun s=>(s.map Sum.inl,V.int (f s)))=l.map hU:=List.map_congr_left fun s _=>hash_eq s
 rw[e]
 unfold List.Nodup at nd⊢
 rw[List.pairwise_map]
 exact nd.imp_of_mem fun{x y} hx hy ne z=>ne (inj_of_nodup univ_hash (h x hx) (h y hy) z)
theorem setK_keys(f:List Int->Int)(l:List (List Int)):(setK f l).map (·.1)=l.map fun s=>s.map Sum.inl:=by unfold setK;rw[List.map_map];rfl
noncomputable def putF(f:List Int->Int)(k:List Int)(v:Int):List Int->Int:=fun s=>if s=k then v else f s
theorem put_old{f:List Int->Int}{l:List (List Int)}{k:List Int}{v:Int}(h:k∈l):putK (setK f l) (k.map Sum.inl) (.int v)=setK (putF f k v) l:=by
 unfold putK
 rw[valV_any,zav,if_pos h]
 show(if true=true then _ else _)=_
 rw[if_pos rfl]
 unfold setK
 rw[List.map_map]
 refine List.map_congr_left fun s hs=> ?_
 show(if(s.map Sum.inl)=k.map Sum.inl then(s.map Sum.inl,V.int v)else(s.map Sum.inl,V.int (f s)))=(s.map Sum.inl,V.int (putF f k v s))
 unfold putF
 by_cases e:s=k
 ·rw[if_pos (by rw[e]),if_pos e]
 ·rw[if_neg fun z=>e (inl_inj' z),if_neg e]
theorem put_new{f:List Int->Int}{l:List (List Int)}{k:List Int}{v:Int}(h:k∉l):putK (setK f l) (k.map Sum.inl) (.int v)=setK (putF f k v) (l++[k]):=by
 rw[putK_new _ (by rw[zav,if_neg h])]
 unfold setK
 rw[List.map_append]
 congr 1
 ·refine List.map_congr_left fun s hs=> ?_
  show(_,V.int (f s))=(_,V.int (putF f k v s))
  unfold putF
  rw[if_neg fun e=>h (by rw[<-e];exact hs)]
 ·show[(_,V.int v)]=[(_,V.int (putF f k v k))]
  unfold putF
  rw[if_pos rfl]
theorem drop_setK(f:List Int->Int)(k:List Int)(l:List (List Int)):dropK (setK f l) (k.map Sum.inl)=setK f (l.filter fun s=>decide (s≠k)):=by
 unfold dropK setK
 rw[List.filter_map]
 congr 1
 refine List.filter_congr fun s _=> ?_
 show decide (s.map Sum.inl≠k.map Sum.inl)=decide (s≠k)
 by_cases e:s=k
 ·rw[e];simp
 ·rw[decide_eq_true (show s≠k from e),decide_eq_true (show s.map (Sum.inl (β:=Str))≠k.map Sum.inl from fun z=>e (inl_inj' z))]
theorem sub_inc{n:Nat}{s:List Int}(h:s∈allS n):s.Pairwise (· < ·):=(rgI_inc n).sublist ((zbc _ _).mp h)
noncomputable def aB(n:Nat)(ts:List (Int×Int))(l:List (List Int))(f:List Int->Int):Bool:=allSetsB n l&&(allS n).all fun s=>decide (f s<=hiF f ts s)
theorem floB_aB(n:Nat)(ts:List (Int×Int))(l:List (List Int))(f:List Int->Int)(num:Int):floB n ts l f num=(aB n ts l f&&decide (num<=f (rgI n))):=by unfold floB aB;rw[Bool.and_assoc]
theorem hiF_le{f:List Int->Int}{ts:List (Int×Int)}{xs:List Int}(hx:xs≠[]):f xs<=hiF f ts xs↔∀p∈fparts ts xs,f xs<=1+f (wo xs p):=by
 unfold hiF
 rw[if_neg hx]
 obtain⟨h1,h2⟩:=mnL_is (ns:=(fparts ts xs).map fun p=>f (wo xs p)) (fun z=>fpG_ne _ _ (List.map_eq_nil_iff.mp z))
 constructor
 ·intro h p hp
  have:=h2 _ (List.mem_map.mpr ⟨p,hp,rfl⟩)
  omega
 ·intro h
  obtain⟨p,hp,e⟩:=List.mem_map.mp h1
  have:=h p hp
  omega
theorem allS_zero:∀k,(allS k)[0]? =some []
 |0=>rfl
 |k+1=>by
  show(allS k++(allS k).map fun s=>s++[(k:Int)])[0]? =_
  rw[List.getElem?_append_left (by rw[zbq];exact Nat.two_pow_pos k),allS_zero k]
theorem allS_pos{n i:Nat}{s:List Int}(h:(allS n)[i+1]? =some s):s≠[]:=fun z=>by
 obtain⟨h1,g1⟩:=List.getElem?_eq_some_iff.mp (allS_zero n)
 obtain⟨h2,g2⟩:=List.getElem?_eq_some_iff.mp h
 exact List.pairwise_iff_getElem.mp (zcw n) 0 (i+1) h1 h2 (by omega) (g1.trans (z.symm.trans g2.symm))
theorem aB_all{n:Nat}{ts:List (Int×Int)}{l:List (List Int)}{f:List Int->Int}(hB:allSetsB n l=true)(h0:f []<=0)(h:∀i s,(allS n)[i+1]? =some s->∀p∈fparts ts s,f s<=1+f (wo s p)):aB n ts l f=true:=by
 unfold aB
 rw[hB,Bool.true_and,List.all_eq_true]
 intro s hs
 obtain⟨i,hi⟩:=List.mem_iff_getElem?.mp hs
 refine decide_eq_true ?_
 cases i with
 |zero=>
  rw[allS_zero]at hi
  cases hi
  exact h0
 |succ i=>exact(hiF_le (allS_pos hi)).mpr (h i s hi)
theorem aB_not{n i:Nat}{ts:List (Int×Int)}{l:List (List Int)}{f:List Int->Int}{s p:List Int}(hs:(allS n)[i+1]? =some s)(hp:p∈fparts ts s)(h:1+f (wo s p)<f s):aB n ts l f=false:=by
 unfold aB
 have:(allS n).all (fun s=>decide (f s<=hiF f ts s))=false:=by
  rw[List.all_eq_false]
  refine⟨s,List.mem_of_getElem? hs,fun z=> ?_⟩
  have:=(hiF_le (allS_pos hs)).mp (of_decide_eq_true z) p hp
  omega
 rw[this,Bool.and_false]
theorem aB_not0{n:Nat}{ts:List (Int×Int)}{l:List (List Int)}{f:List Int->Int}(h:0<f []):aB n ts l f=false:=by
 unfold aB
 have:(allS n).all (fun s=>decide (f s<=hiF f ts s))=false:=by
  rw[List.all_eq_false]
  refine⟨[],List.mem_of_getElem? (allS_zero n),fun z=> ?_⟩
  have z':f []<=0:=of_decide_eq_true z
  omega
 rw[this,Bool.and_false]
end Hs
namespace Hs
open PySem L2 HsD
section
variable{P:Program}{w:World}{K:W.Frag}{mg:Str->Option Value}{base:Heap}
theorem any_intsD(xs:List Int)(y:Int):((xs.map PyData.int).any fun d=>PyData.eqv d (.int y))=decide (y∈xs):=by
 rw[Bool.eq_iff_iff,List.any_eq_true,decide_eq_true_iff]
 constructor
 ·rintro⟨d,hd,e⟩
  obtain⟨x,hx,rfl⟩:=List.mem_map.mp hd
  have:x=y:=by simpa[PyData.eqv]using e
  rw[<-this];exact hx
 ·intro h
  exact⟨.int y,List.mem_map_of_mem h,by simp[PyData.eqv]⟩
theorem eqv_pairs_nil(l:List (Int×Int)):PyData.eqv (.list (l.map pairD)) (.list [])=decide (l=[]):=by
 cases l with
 |nil=>simp[PyData.eqv,PyData.eqvAll]
 |cons p l=>simp[PyData.eqv,PyData.eqvAll]
noncomputable def spApart(K:W.Frag):Sp:=fun vs H Q _=>∃(a b:Addr) (n:Int) (ts:List (Int×Int)) (xs:List Int),vs=[.ref a,.ref b]/\WebIs K H a n ts/\SqT K H b (xs.map V.int)/\∀H',Same H H'->Q (.bl (apB ts xs)) H'
theorem sc_apart:FnScope ["web","some"] ["web","some"] (defScope zax):=⟨rfl,rfl,rfl,by decide+kernel,rfl,by decide+kernel,by decide+kernel⟩
theorem ok_apart{f:Addr}{fd:FuncData}(F:Fun K "_law_ais_apart" "_law_ais_apart" zax f fd):
  FnOk P w K mg base CX0 1 f fd ["web","some"] (spApart K):=by
 refine F.ok sc_apart (fun vs H Q E h=> ?_) (fun cdv A outer s H vs Q E hr h=> ?_)
 ·obtain⟨a,b,n,ts,xs,rfl,_⟩:=h
  rfl
 obtain⟨a,b,n,ts,xs,rfl,hA,hB,q⟩:=h
 refine⟨_,(zah (zao (zct (op_eqD hr.units) (zbk (own:=["pair"]) (caps:=["some"]) (ix:=[1]) rfl (zcr (zbz zcj (pv 0) zag (fun _ _=>rfl))) rfl rfl (.cons rfl rfl .nil) (fun _ _ _ _ _=>(zal (i:=0) (show(["pair","some"]:List Str).Nodup from by decide+kernel) rfl (Or.inl rfl))) (fun _ _ _ _ _=>pts_one (PW.pt (pw_and (zbf (op_inDK K hr.units) (zbz (ix_tupK K) (pv 0) zag (fun _ _=>rfl)) (pv 1) (by with_unfolding_all rfl)) (pw_and1 (zbf (op_inDK K hr.units) (zbz (ix_tupK K) (pv 0) zag (fun _ _=>rfl)) (pv 1) (by with_unfolding_all rfl)))))) (fun _ _ _ _ _=>(pv 0))) (zch zac) (nomark _)))),?_⟩
 obtain⟨tw,rw',w1,w2,w3⟩:=id hA.web
 refine⟨_,rfl,a,_,_,.ref tw,rfl,rfl,w1,rfl,tw,rw',rfl,w2,fun hz=> ?_⟩
 have hrw:rw'.length=ts.length:=by have:=w3.len;rw[List.length_map]at this;exact this
 refine zcv (xs:=rw') (fun i acc σ H'=>DVs K H' acc (((ts.take i).filter fun p=>decide (p.1∈xs)&&decide (p.2∈xs)).map pairD)/\Same H H'/\∃o,σ=[o,some (.ref b)]) ⟨.nil,Same.refl _,_,rfl⟩ (fun i acc σ H' _ p=>p.2.1.tup w2) (fun i acc σ H' _ p=> ?_) hz (fun i x acc σ H' hx p=> ?_) (fun acc σ H' p=> ?_)
 ·rw[p.1.len,List.length_map]
  exact Nat.le_trans (List.length_filter_le _ _) (by rw[List.length_take];exact Nat.min_le_left _ _)
 ·obtain⟨hD,sm,o,rfl⟩:=p
  obtain⟨t,hi,rfl,ht⟩:=pair_at w3 hx
  have e:=zbr (p:=fun p:Int×Int=>decide (p.1∈xs)&&decide (p.2∈xs)) hi
  have ht':=sm.tup ht
  refine⟨_,rfl,t,_,_,.int (ts[i]).1,rfl,rfl,ht',rfl,_,rfl,b,_,_,.int (ts[i]).1,rfl,.inr (sm.tup hB),DVs.ints xs,.int _,lay_ints xs,rfl,(by show 0<=60;decide),_,rfl,?_⟩
  rw[any_intsD]
  refine ite2 (fun c=> ?_) (fun c=> ?_)
  ·refine⟨_,rfl,t,_,_,.int (ts[i]).2,rfl,rfl,ht',rfl,_,rfl,b,_,_,.int (ts[i]).2,rfl,.inr (sm.tup hB),DVs.ints xs,.int _,lay_ints xs,rfl,(by show 0<=60;decide),_,rfl,?_⟩
   rw[any_intsD]
   refine ite2 (fun c2=> ?_) (fun c2=> ?_)
   ·refine⟨_,rfl,?_,sm,_,rfl⟩
    rw[e,if_pos (by rw[c,c2];rfl),List.map_append]
    exact hD.snoc (.tup ht' (.cons (.int _) (.cons (.int _) .nil)))
   ·refine⟨?_,sm,_,rfl⟩
    rw[e,if_neg (fun z=>c2 (by rw[Bool.and_eq_true]at z;exact z.2)),List.append_nil]
    exact hD
  ·refine⟨?_,sm,_,rfl⟩
   rw[e,if_neg (fun z=>c (by rw[Bool.and_eq_true]at z;exact z.1)),List.append_nil]
   exact hD
 ·intro p1 hp1
  obtain⟨hD,sm,_⟩:=p
  rw[hrw,List.take_length]at hD
  have s1:=zad hp1 (.lst acc)
  have hp2:(upd H' p1 (.lst acc)) p1=some (.lst acc):=zab
  have hD1:=hD.same s1
  try dsimp only at s1 hp2 hD1⊢
  generalize upd H' p1 (.lst acc)=H2 at *
  refine⟨(by show 0<=sizeLine;decide),fun p2 hq2=> ?_⟩
  have s2:=zad hq2 (.lst [])
  refine⟨.list ((ts.filter fun p:Int×Int=>decide (p.1∈xs)&&decide (p.2∈xs)).map pairD),.list [],.lst (SqL.of (s2 _ _ hp2)) (hD1.same s2),.lst (SqL.of zab) .nil,lay_pairs _,rfl,(by show min _ 1<=64;omega),?_⟩
  rw[eqv_pairs_nil]
  exact q _ (sm.trans (s1.trans s2))
noncomputable def spAParts(K:W.Frag):Sp:=fun vs H Q _=>∃(a b:Addr) (n:Int) (ts:List (Int×Int)) (xs:List Int),vs=[.ref a,.ref b]/\WebIs K H a n ts/\SqT K H b (xs.map V.int)/\xs.length<=10/\xs.Pairwise (· < ·)/\
 ∀(r:Addr) (its:List (Addr×List Int)) H',Same H H'->H' r=some (.lst (its.map fun p=>V.ref p.1))->SetsV K H' its->its.map (·.2)=fparts ts xs->Q (.ref r) H'
theorem zdj:FnScope ["web","some","found","place","more","piece"] ["web","some"] (defScope zaw):=⟨rfl,rfl,rfl,by decide+kernel,rfl,by decide+kernel,by decide+kernel⟩
theorem ok_aparts{f f1:Addr}{fd d1:FuncData}(F:Fun K "_law_aparts_of" "_law_aparts_of" zaw f fd)(D1:Dfn K mg "_law_ais_apart" zax ["web","some"] f1 d1)(G1:FnOk P w K mg base CX0 1 f1 d1 ["web","some"] (spApart K)):
  FnOk P w K mg base CX0 2 f fd ["web","some"] (spAParts K):=by
 refine F.ok zdj (fun vs H Q E h=> ?_) (fun cdv A outer s H vs Q E hr h=> ?_)
 ·obtain⟨a,b,n,ts,xs,rfl,_⟩:=h
  rfl
 obtain⟨a,b,n,ts,xs,rfl,hA,hB,hlen,hinc,q⟩:=h
 refine⟨_,(zae (zan (i:=2) zdj.nd rfl (Or.inl rfl) (zch (zaa (pe_slice sl_tupE (pv 1) po_none (po_some zag)) zac))) (zae (zcl PassesOwn.never rfl (zcr (pe_slice sl_tupE (pv 1) (po_some zag) po_none)) (zal (i:=3) zdj.nd rfl (Or.inl rfl)) (zae (zan (i:=4) zdj.nd rfl (Or.inl rfl) (zch zac)) (zae (zcl PassesOwn.never rfl (zby (pv 2)) (zal (i:=5) zdj.nd rfl (Or.inl rfl)) (zah (zdd (zdg (zaj G1 hr rfl D1.m D1.F.kp D1.b .nil pass0 (zaa (pv 0) (zaa (zbd op_catE (pv 5) (zcg (zaa (pv 3) zac))) zac)))) (zah (zcy (pe_bm PySem.F.plainAttrs_list PySem.F.slot_list_append PySem.F.type_list_append zda (pv 4) (zaa (zbd op_catE (pv 5) (zcg (zaa (pv 3) zac))) zac)))) zbg))) (zah (zan (i:=2) zdj.nd rfl (Or.inl rfl) (zbd op_cat (pv 2) (pv 4))))))) (zah (zao (pv 2))))),?_⟩
 refine⟨_,rfl,_,rfl,b,_,rfl,hB,fun r0 H0 s0 h0=> ?_⟩
 rw[cut1]at h0
 refine⟨(by show 1<=sizeLine;decide),fun l0 hl0=> ?_⟩
 have s1:=zad hl0 (.lst [.ref r0])
 refine⟨_,rfl,_,rfl,b,_,rfl,(s0.trans s1).tup hB,fun r1 H1 s2 h1=> ?_⟩
 rw[cutR]at h1
 refine⟨r1,_,rfl,h1,fun hz=> ?_⟩
 refine for_tup (K:=K) (a:=r1) (xs:=(xs.drop 1).map V.int) (fun k σ H'=>∃(l:Addr) (its:List (Addr×List Int)) (o3 o4 o5:Option V),σ=[some (.ref a),some (.ref b),some (.ref l),o3,o4,o5]/\Same H H'/\Same H1 H'/\H' l=some (.lst (its.map fun p=>V.ref p.1))/\SetsV K H' its/\its.map (·.2)=fpUp (stA ts) xs k)
  ⟨l0,[(r0,xs.take 1)],_,_,_,rfl,s0.trans (s1.trans s2),Same.refl _,s2 _ _ zab,fun p hp=>by rw[List.mem_singleton.mp hp];exact(s1.trans s2).tup h0,rfl⟩ (fun k σ H' _ p=> ?_) (fun k x σ H2 hx p=> ?_) (fun σ H2 p=> ?_)
 ·obtain⟨_,_,_,_,_,_,_,s3,_⟩:=p
  exact s3.tup h1
 ·obtain⟨l,its,o3,o4,o5,rfl,sm,s3,hl,hT,hm⟩:=p
  rw[List.getElem?_map]at hx
  cases ek:(xs.drop 1)[k]? with
  |none=>rw[ek]at hx;cases hx
  |some y=>
   rw[ek]at hx
   cases hx
   have hk:k<=9:=by
    have:=(List.getElem?_eq_some_iff.mp ek).1
    rw[List.length_drop]at this
    omega
   have hlen2:its.length<=512:=by
    have h1:its.length=(fpUp (stA ts) xs k).length:=by rw[<-hm,List.length_map]
    rw[h1]
    exact Nat.le_trans (fpUp_len _ _ _) (Nat.pow_le_pow_right (n:=2) (by decide) hk)
   have plen:∀p∈its,p.2.length<=10:=fun p hp=>by
    have hm':p.2∈fpUp (stA ts) xs k:=by rw[<-hm];exact List.mem_map_of_mem hp
    cases xs with
    |nil=>simp at ek
    |cons x r=>
     have:=(zdb k _ hm').1.length_le
     rw[List.length_cons,List.length_take]at this
     rw[List.length_cons]at hlen
     omega
   refine⟨(by show 0<=sizeLine;decide),fun mo hmo=> ?_⟩
   have s4:=zad hmo (.lst [])
   have hmo2:(upd H2 mo (.lst [])) mo=some (.lst (([]:List (Addr×List Int)).map fun p=>V.ref p.1)):=zab
   have nml:mo≠l:=fun z=>by rw[z,hl]at hmo;cases hmo
   dsimp only at s4 hmo2⊢
   generalize upd H2 mo (.lst [])=H3 at *
   refine⟨_,rfl,l,_,rfl,SqL.of (s4 _ _ hl),fun hz=> ?_⟩
   refine for_list (K:=K) (a:=l) (xs:=its.map fun p=>V.ref p.1) (fun i σ H'=>∃(jts:List (Addr×List Int)) (o5:Option V),σ=[some (.ref a),some (.ref b),some (.ref l),some (.int y),some (.ref mo),o5]/\SameX mo H3 H'/\H' mo=some (.lst (jts.map fun p=>V.ref p.1))/\SetsV K H' jts/\jts.map (·.2)=(((its.take i).map (·.2)).filter fun p=>stA ts p y).map (fun s=>s++[y]))
    ⟨[],_,rfl,SameX.refl _ _,hmo2,fun p hp=>(nomatch hp),rfl⟩ (fun i σ H' _ p=> ?_) (fun i x σ H4 hx p=> ?_) (fun σ H4 p=> ?_)
   ·obtain⟨_,_,_,xm,_⟩:=p
    exact xm.sq nml.symm (SqL.of (s4 _ _ hl))
   ·obtain⟨jts,o5,rfl,xm,hm4,hJ,hj⟩:=p
    rw[List.getElem?_map]at hx
    cases ex:its[i]? with
    |none=>rw[ex]at hx;cases hx
    |some v=>
     rw[ex]at hx
     cases hx
     have mv:=List.mem_of_getElem? ex
     have hv4:=xm.tup hmo2 (s4.tup (hT v mv))
     have et:(((its.take (i+1)).map (·.2)).filter fun p=>stA ts p y)=(((its.take i).map (·.2)).filter fun p=>stA ts p y)++(if stA ts v.2 y=true then[v.2]else[]):=by
      rw[List.take_add_one,ex,List.map_append,List.filter_append]
      congr 1
      exact filt1 _ _
     have hjl:jts.length<=512:=by
      have:=congrArg List.length hj
      rw[List.length_map,List.length_map]at this
      rw[this]
      refine Nat.le_trans (List.length_filter_le _ _) ?_
      rw[List.length_map,List.length_take]
      omega
     have hA4:=(hA.same (sm.trans s4)).samex xm hmo2
     refine⟨_,rfl,_,rfl,_,rfl,(by show 1<=sizeLine;decide),fun p5 hp5=> ?_⟩
     have s5:=zad hp5 (.tup [.int y])
     refine⟨v.1,p5,_,_,rfl,rfl,s5.tup hv4,SqT.of zab,(by have:=plen v mv;rw[List.length_map,sizeLine_eq];show _+1<=_;omega),fun r6 H6 s6 h6=> ?_⟩
     have e6:SqT K H6 r6 ((v.2++[y]).map V.int):=by rw[List.map_append];exact h6
     refine⟨a,r6,n,ts,v.2++[y],rfl,hA4.same (s5.trans s6),e6,fun H7' s7=>⟨_,rfl,?_⟩⟩
     show if stA ts v.2 y=true then _ else _
     have s67:=(s5.trans s6).trans s7
     have s47:SameX mo H3 H7':=xm.trans (s67.x mo)
     have hm7:=s67 _ _ hm4
     have hv7:=s67.tup hv4
     have hJ7:=hJ.same s67
     refine ite2 (fun c=> ?_) (fun c=> ?_)
     ·refine⟨_,rfl,.inl ⟨rfl,_,SqL.of hm7⟩,_,rfl,_,rfl,(by show 1<=sizeLine;decide),fun p3 hp3=> ?_⟩
      have s8:=zad hp3 (.tup [.int y])
      refine⟨v.1,p3,_,_,rfl,rfl,s8.tup hv7,SqT.of zab,(by have:=plen v mv;rw[List.length_map,sizeLine_eq];show _+1<=_;omega),fun r9 H9 s9 h9=> ?_⟩
      have hm9:=(s8.trans s9) _ _ hm7
      refine⟨mo,_,_,rfl,rfl,hm9,(by rw[List.length_map,sizeLine_eq];omega),?_⟩
      have xw:SameX mo H9 (upd H9 mo (.lst ((jts.map fun p=>V.ref p.1)++[.ref r9]))):=(SameX.refl _ _).upd
      refine⟨jts++[(r9,v.2++[y])],_,rfl,(s47.trans ((s8.trans s9).x mo)).trans xw,by rw[zab,List.map_append];rfl,fun p hp=> ?_,?_⟩
      ·rcases List.mem_append.mp hp with z|z
       ·exact xw.tup hm9 ((s8.trans s9).tup (hJ7 p z))
       ·rw[List.mem_singleton.mp z]
        refine xw.tup hm9 ?_
        show SqT K H9 r9 ((v.2++[y]).map V.int)
        rw[List.map_append]
        exact h9
      ·rw[List.map_append,hj,et,if_pos c,List.map_append];rfl
     ·refine⟨jts,_,rfl,s47,hm7,hJ7,?_⟩
      rw[hj,et,if_neg c,List.append_nil]
   ·obtain⟨jts,o5,rfl,xm,hm4,hJ,hj⟩:=p
    rw[List.length_map,List.take_length,hm]at hj
    have hjl:jts.length<=its.length:=by
     have:=congrArg List.length hj
     rw[List.length_map,List.length_map]at this
     have e2:its.length=(fpUp (stA ts) xs k).length:=by rw[<-hm,List.length_map]
     rw[this,e2]
     exact List.length_filter_le _ _
    have hl4:=xm _ _ nml.symm (s4 _ _ hl)
    refine⟨_,rfl,_,rfl,l,mo,_,_,rfl,rfl,hl4,hm4,(by rw[List.length_map,List.length_map,sizeLine_eq];omega),fun l2 hl2=> ?_⟩
    have s6:=zad hl2 (.lst (its.map (fun p=>V.ref p.1)++jts.map fun p=>V.ref p.1))
    have s26:Same H2 H4:=Same.over s4 hmo xm
    refine⟨l2,its++jts,_,_,_,rfl,sm.trans (s26.trans s6),s3.trans (s26.trans s6),by rw[zab,List.map_append],fun p hp=> ?_,?_⟩
    ·rcases List.mem_append.mp hp with z|z
     ·exact(s26.trans s6).tup (hT p z)
     ·exact s6.tup (hJ p z)
    ·rw[List.map_append,hm,hj,fpUp_succ ek];rfl
 ·obtain⟨l,its,o3,o4,o5,rfl,sm,s3,hl,hT,hm⟩:=p
  rw[List.length_map,fpUp_all,stA_eq hA.pk hinc]at hm
  exact⟨_,rfl,q l its H2 sm hl hT hm⟩
end
end Hs
namespace Hs
open PySem L2 HsD
section
variable{P:Program}{w:World}{K:W.Frag}{mg:Str->Option Value}{base:Heap}
theorem dvs_sets{H:Hp}:∀(its:List (Addr×List Int)),SetsV K H its->DVs K H (its.map fun p=>V.ref p.1) ((its.map (·.2)).map datS)
 |[],_=> .nil
 |p::its,h=> .cons (.tup (h p List.mem_cons_self) (DVs.ints p.2)) (dvs_sets its fun q hq=>h q (List.mem_cons_of_mem _ hq))
theorem depth_tups(l:List (List Int)):PyData.depth (.list (l.map datS))<=2:=by
 have hi:∀x:List Int,PyData.depthAll (x.map PyData.int)<=0:=fun x=>by
  induction x with
  |nil=>exact Nat.le_refl _
  |cons x l ih=>
   show max 0 (PyData.depthAll (l.map PyData.int))<=0
   omega
 show PyData.depthAll (l.map datS)+1<=2
 induction l with
 |nil=>exact(by decide:(0:Nat)+1<=2)
 |cons x l ih=>
  show max (PyData.depthAll (x.map PyData.int)+1) (PyData.depthAll (l.map datS))+1<=2
  have:=hi x
  omega
theorem intK_set{f:List Int->Int}{l:List (List Int)}:∀kv∈setK f l,IntK kv.1:=fun kv h=>by
 obtain⟨s,_,rfl⟩:=List.mem_map.mp h
 exact IntK.of s
noncomputable def spAAreF(K:W.Frag):Sp:=fun vs H Q _=>∃(a d:Addr) (n:Int) (ts:List (Int×Int)) (l:List (List Int)) (f:List Int->Int),vs=[.ref a,.ref d]/\WebIs K H a n ts/\n<=4/\H d=some (.dT (setK f l))/\l.Nodup/\l.length<64/\∀H',Same H H'->Q (.bl (aB n.toNat ts l f)) H'
theorem sc_aareF:FnScope ["web","floors","every","some","piece"] ["web","floors"] (defScope zaq):=⟨rfl,rfl,rfl,by decide+kernel,rfl,by decide+kernel,by decide+kernel⟩
theorem ok_aareF{f f1 f2:Addr}{fd d1 d2:FuncData}(F:Fun K "_law_aare_floors" "_law_aare_floors" zaq f fd)(D1:Dfn K mg "_law_asets" zbv ["n"] f1 d1)(G1':FnOk P w K mg base CX0 1 f1 d1 ["n"] (spAllSets K))(D2:Dfn K mg "_law_aparts_of" zaw ["web","some"] f2 d2)(G2:FnOk P w K mg base CX0 2 f2 d2 ["web","some"] (spAParts K))(m_sorted:mg "sorted"=none)(m_tuple:mg "tuple"=none):
  FnOk P w K mg base CX0 3 f fd ["web","floors"] (spAAreF K):=by
 have G1:FnOk P w K mg base CX0 2 f1 d1 ["n"] (spAllSets K):=G1'.mono (by decide)
 refine F.ok sc_aareF (fun vs H Q E h=> ?_) (fun cdv A outer s H vs Q E hr h=> ?_)
 ·obtain⟨a,d,n,ts,l,f,rfl,_⟩:=h
  rfl
 obtain⟨a,d,n,ts,l,f,rfl,hA,hn4,hD,nd,h64,q⟩:=h
 refine⟨_,(zae (zan (i:=2) sc_aareF.nd rfl (Or.inl rfl) (zaj G1 hr rfl D1.m D1.F.kp D1.b .nil pass0 (zaa (zbz zcj (pv 0) zag (fun _ _=>rfl)) zac))) (zae (zdd (PW.pt (pw_or (zbf (op_neD hr.units) (zak (call_sortedD rfl hr.units) rfl m_sorted (by decide+kernel) (zaa (pv 1) zac)) (zak (call_sortedS hr.units) rfl m_sorted (by decide+kernel) (zaa (pv 2) zac)) (nomark _)) (pw_or1 (zbf op_gt (zcs (hu_of hr) (pv 1) (zcg zac) (fun _ _=>rfl)) zag (nomark _))))) (zah (zao pe_bl)) zbg) (zae (zcl PassesOwn.never rfl (zby (pe_slice sl_list (pv 2) (po_some zag) po_none)) (zal (i:=3) sc_aareF.nd rfl (Or.inl rfl)) (zah (zcl PassesOwn.never rfl (zby (zaj G2 hr rfl D2.m D2.F.kp D2.b .nil pass0 (zaa (pv 0) (zaa (pv 3) zac)))) (zal (i:=4) sc_aareF.nd rfl (Or.inr rfl)) (zah (zdd (zbf op_gt (zcs (hu_of hr) (pv 1) (pv 3) (fun _ _=>rfl)) (zbd zcz zag (zcs (hu_of hr) (pv 1) (zbh zck rfl m_tuple (by decide+kernel) (zaa (zbk (own:=["place"]) (caps:=["piece"]) (ix:=[4]) rfl (zcr (pv 3)) rfl rfl (.cons rfl rfl .nil) (fun _ _ _ _ _=>(zal (i:=0) (show(["place","piece"]:List Str).Nodup from by decide+kernel) rfl (Or.inl rfl))) (fun _ _ _ _ _=>pts_one (zbf (op_notInDK K hr.units) (pv 0) (pv 1) (by with_unfolding_all rfl))) (fun _ _ _ _ _=>(pv 0))) zac)) (fun _ _=>rfl))) (nomark _)) (zah (zao pe_bl)) zbg))))) (zah (zao pe_bl))))),?_⟩
 have hn0:=hA.h0
 have hn1:=hA.h1
 obtain⟨ta,ra,a1,a2,a3⟩:=id hA.web
 refine⟨_,rfl,a,_,_,.int n,rfl,rfl,a1,rfl,n,rfl,hn0,hn1,fun ev its H1 s1 hev hT hm=> ?_⟩
 have hlen:its.length=2^n.toNat:=by rw[<-zbq,<-hm,List.length_map]
 have h16:2^n.toNat<=16:=Nat.pow_le_pow_right (n:=2) (by decide) (show n.toNat<=4 by omega)
 have hD1:=s1 _ _ hD
 have hT1:SetsV K H1 its:=fun p hp=>SqT.of (hT p hp)
 refine⟨_,rfl,d,_,rfl,hD1,by rw[zbn];exact h64,intK_set,fun r1 xts hr1 hX hXl hXm hXs=> ?_⟩
 have s2:=zad hr1 (.lst (xts.map fun p=>V.ref p.1))
 have hr1':(upd H1 r1 (.lst (xts.map fun p=>V.ref p.1))) r1=some (.lst (xts.map fun p=>V.ref p.1)):=zab
 have hX2:SetsV K (upd H1 r1 (.lst (xts.map fun p=>V.ref p.1))) xts:=fun p hp=>s2.tup (SqT.of (hX p hp))
 try dsimp only at s2 hr1' hX2
 generalize upd H1 r1 (.lst (xts.map fun p=>V.ref p.1))=H2 at *
 refine⟨_,rfl,ev,its,rfl,s2.seq (SqL.of hev),fun p hp=>s2.tup (hT1 p hp),by omega,fun r2 yts hr2 hYp hYs=> ?_⟩
 have s3:=zad hr2 (.lst (yts.map fun p=>V.ref p.1))
 have hY3:SetsV K (upd H2 r2 (.lst (yts.map fun p=>V.ref p.1))) yts:=fun p hp=>(s2.trans s3).tup (hT1 p (hYp.mem_iff.mp hp))
 have hr2':(upd H2 r2 (.lst (yts.map fun p=>V.ref p.1))) r2=some (.lst (yts.map fun p=>V.ref p.1)):=zab
 have hX3:=hX2.same s3
 have hr13:=s3 _ _ hr1'
 have s13:=s2.trans s3
 try dsimp only at s3 hY3 hr2' hX3 hr13 s13
 generalize upd H2 r2 (.lst (yts.map fun p=>V.ref p.1))=H3 at *
 refine⟨.list ((xts.map fun p:Addr×List Int=>p.2).map datS),.list ((yts.map fun p:Addr×List Int=>p.2).map datS),.lst (SqL.of hr13) (dvs_sets _ hX3),.lst (SqL.of hr2') (dvs_sets _ hY3),lay_tups _,lay_tups _,(by have:=depth_tups (xts.map (·.2));omega),_,rfl,?_⟩
 have ee:PyData.eqv (.list ((xts.map (·.2)).map datS)) (.list ((yts.map (·.2)).map datS))=allSetsB n.toNat l:=by
  refine(eqv_tups (xts.map (·.2)) (yts.map (·.2))).trans (sorted_all hXs (fun k=> ?_) ?_ nd (by rw[<-hm];exact hYp.map _) (by rw[List.pairwise_map];exact hYs))
  ·rw[hXm,zav]
   by_cases z:k∈l
   ·rw[if_pos z];exact⟨fun _=>z,fun _=>rfl⟩
   ·rw[if_neg z];exact⟨fun y=>(nomatch y),fun y=>absurd y z⟩
  ·rw[List.length_map,hXl,zbn]
 rw[ee]
 refine ite2 (fun c=> ?_) (fun c=> ?_)
 ·have z:allSetsB n.toNat l=false:=by
   cases y:allSetsB n.toNat l with
   |false=>rfl
   |true=>rw[y]at c;exact absurd c (by decide)
  have e:aB n.toNat ts l f=false:=by unfold aB;rw[z];rfl
  have:=q H3 (s1.trans s13)
  rw[e]at this;exact this
 have hB:allSetsB n.toNat l=true:=by
  cases y:allSetsB n.toNat l with
  |true=>rfl
  |false=>rw[y]at c;exact absurd rfl c
 have inl:∀s∈allS n.toNat,s∈l:=fun s hs=>zcm hB nd hs
 refine⟨_,rfl,(by show 0<=sizeLine;decide),fun p5 hp5=> ?_⟩
 have s5:=zad hp5 (.tup [])
 have G:=DGet.t (k:=([]:List Int).map Sum.inl) ((s13.trans s5) _ _ hD1) (show(upd H3 p5 (.tup [])) p5=some (.tup ((([]:List Int).map Sum.inl).map kV))from zab)
 rw[zav,if_pos (inl [] ((zbc _ _).mpr (List.nil_sublist _)))]at G
 refine⟨d,_,rfl,G,_,_,rfl,rfl,_,rfl,?_⟩
 have s15:=s13.trans s5
 try dsimp only at s15
 generalize upd H3 p5 (.tup [])=H5 at *
 refine ite2 (fun c2=> ?_) (fun c2=> ?_)
 ·have e:aB n.toNat ts l f=false:=aB_not0 (of_decide_eq_true c2)
  have:=q H5 (s1.trans s15)
  rw[e]at this;exact this
 have hf0:f []<=0:=by
  have:¬(0<f []):=fun z=>c2 (decide_eq_true z)
  omega
 refine⟨_,rfl,_,rfl,ev,_,rfl,s15.seq (SqL.of hev),fun e2 he2=> ?_⟩
 have s6:=zad he2 (.lst (cutV (its.map fun p=>V.ref p.1) (some 1) none))
 have ec:cutV (its.map fun p=>V.ref p.1) (some 1) none=(its.drop 1).map fun p=>V.ref p.1:=by
  cases its with
  |nil=>rfl
  |cons x r=>
   unfold cutV HT.sIx
   simp
   rw[List.take_of_length_le (by rw[List.length_map];exact Nat.le_refl _)]
 rw[ec]at s6⊢
 have he3:(upd H5 e2 (.lst ((its.drop 1).map fun p=>V.ref p.1))) e2=some (.lst ((its.drop 1).map fun p=>V.ref p.1)):=zab
 have s16:=s15.trans s6
 try dsimp only at s16 he3
 generalize upd H5 e2 (.lst ((its.drop 1).map fun p=>V.ref p.1))=H6 at *
 refine⟨e2,_,rfl,SqL.of he3,fun hz=> ?_⟩
 refine for_list (K:=K) (a:=e2) (xs:=(its.drop 1).map fun p=>V.ref p.1) (fun i σ H'=>Same H6 H'/\(∀j s,j<i->(allS n.toNat)[j+1]? =some s->∀p∈fparts ts s,f s<=1+f (wo s p))/\∃o3 o4,σ=[some (.ref a),some (.ref d),some (.ref ev),o3,o4]) ⟨Same.refl _,fun j s h=>absurd h (Nat.not_lt_zero _),_,_,rfl⟩ (fun i σ H' _ p=>p.1.seq (SqL.of he3)) (fun i x σ H7 hx p=> ?_) (fun σ H7 p=> ?_)
 ·obtain⟨s7,done,o3,o4,rfl⟩:=p
  rw[List.getElem?_map]at hx
  cases ex:(its.drop 1)[i]? with
  |none=>rw[ex]at hx;cases hx
  |some v=>
   rw[ex]at hx
   cases hx
   have ei:its[i+1]? =some v:=by rw[List.getElem?_drop]at ex;rw[Nat.add_comm];exact ex
   have mv:=List.mem_of_getElem? ei
   have es:(allS n.toNat)[i+1]? =some v.2:=by rw[<-hm,List.getElem?_map,ei];rfl
   have ms:v.2∈allS n.toNat:=List.mem_of_getElem? es
   have lv:v.2.length<=10:=by
    have:=zdi n.toNat v.2 ms
    omega
   have s17:=s16.trans s7
   have hv7:=s17 _ _ (hT v mv)
   refine⟨_,rfl,_,rfl,a,v.1,n,ts,v.2,rfl,hA.same (s1.trans s17),SqT.of hv7,lv,sub_inc ms,fun r jts H8 s8 hr8 hJ hmj=>⟨r,_,rfl,SqL.of hr8,fun hz=> ?_⟩⟩
   refine for_list (K:=K) (a:=r) (xs:=jts.map fun p=>V.ref p.1) (fun j σ H'=>Same H8 H'/\(∀p∈(jts.take j).map (·.2),f v.2<=1+f (wo v.2 p))/\∃o4,σ=[some (.ref a),some (.ref d),some (.ref ev),some (.ref v.1),o4]) ⟨Same.refl _,fun p hp=>(nomatch hp),_,rfl⟩ (fun j σ H' _ p=>p.1.seq (SqL.of hr8)) (fun j x σ H9 hx9 p=> ?_) (fun σ H9 p=> ?_)
   ·obtain⟨s9,donej,o4,rfl⟩:=p
    rw[List.getElem?_map]at hx9
    cases ej:jts[j]? with
    |none=>rw[ej]at hx9;cases hx9
    |some u=>
     rw[ej]at hx9
     cases hx9
     have mu:=List.mem_of_getElem? ej
     have mf:u.2∈fparts ts v.2:=by rw[<-hmj];exact List.mem_map_of_mem mu
     have s89:=s8.trans s9
     have hv9:=s89 _ _ hv7
     have hu9:=s9.tup (hJ u mu)
     have hD9:=(s17.trans s89) _ _ hD1
     have G1:=DGet.t (k:=v.2.map Sum.inl) hD9 (by rw[keyV];exact hv9)
     rw[zav,if_pos (inl _ ms)]at G1
     refine⟨_,rfl,_,rfl,d,_,rfl,G1,_,rfl,_,rfl,v.1,_,rfl,SqT.of hv9,fun hz=> ?_⟩
     refine zcv (xs:=v.2.map V.int) (fun k acc σ H'=>acc=((v.2.take k).filter fun o=> !decide (o∈u.2)).map V.int/\Same H9 H'/\∃o,σ=[o,some (.ref u.1)]) ⟨rfl,Same.refl _,_,rfl⟩ (fun k acc σ H' _ p=>p.2.1.tup (SqT.of hv9)) (fun k acc σ H' hk p=> ?_) hz (fun k x acc σ H' hx pp=> ?_) (fun acc σ H' p=> ?_)
     ·rw[p.1,List.length_map]
      exact Nat.le_trans (List.length_filter_le _ _) (by rw[List.length_take];exact Nat.min_le_left _ _)
     ·obtain⟨rfl,sm,o,rfl⟩:=pp
      rw[List.getElem?_map]at hx
      cases ex':v.2[k]? with
      |none=>rw[ex']at hx;cases hx
      |some y=>
       rw[ex']at hx
       cases hx
       obtain⟨hk,ey⟩:=List.getElem?_eq_some_iff.mp ex'
       have e:=zbr (p:=fun o=> !decide (o∈u.2)) hk
       rw[ey]at e
       refine⟨_,rfl,_,rfl,u.1,_,_,.int y,rfl,.inr (sm.tup hu9),DVs.ints u.2,.int _,lay_ints u.2,rfl,(by show 0<=60;decide),_,rfl,?_⟩
       rw[any_ints]
       refine ite2 (fun c=> ?_) (fun c=> ?_)
       ·exact⟨_,rfl,by rw[e,if_pos c,List.map_append];rfl,sm,_,rfl⟩
       ·exact⟨by rw[e,if_neg c,List.append_nil],sm,_,rfl⟩
     ·intro p1 hp1
      obtain⟨rfl,sm,_⟩:=p
      refine⟨p1,_,rfl,.inl ⟨SqL.of zab,fun lf hlf=> ?_⟩⟩
      have sa:=sm.trans ((zad hp1 _).trans (zad hlf (.tup (((v.2.take (v.2.map V.int).length).filter fun o=> !decide (o∈u.2)).map V.int))))
      have hla:(upd (upd H' p1 (.lst (((v.2.take (v.2.map V.int).length).filter fun o=> !decide (o∈u.2)).map V.int))) lf (.tup (((v.2.take (v.2.map V.int).length).filter fun o=> !decide (o∈u.2)).map V.int))) lf=some (.tup ((wo v.2 u.2).map V.int)):=by
       rw[zab,List.length_map,List.take_length];rfl
      try dsimp only at sa hla⊢
      generalize upd (upd H' p1 (.lst (((v.2.take (v.2.map V.int).length).filter fun o=> !decide (o∈u.2)).map V.int))) lf (.tup (((v.2.take (v.2.map V.int).length).filter fun o=> !decide (o∈u.2)).map V.int))=Ha at *
      have hDa:=(s17.trans (s89.trans sa)) _ _ hD1
      have G2:=DGet.t (k:=(wo v.2 u.2).map Sum.inl) hDa (by rw[keyV];exact hla)
      rw[zav,if_pos (inl _ ((zbc _ _).mpr ((wo_sub _ _).trans ((zbc _ _).mp ms))))]at G2
      refine⟨d,_,rfl,G2,_,_,rfl,rfl,_,_,rfl,rfl,_,rfl,?_⟩
      refine ite2 (fun c=> ?_) (fun c=> ?_)
      ·have e:aB n.toNat ts l f=false:=aB_not es mf (of_decide_eq_true c)
       have:=q Ha (s1.trans (s17.trans (s89.trans sa)))
       rw[e]at this;exact this
      ·refine⟨s9.trans sa,fun p hp=> ?_,_,rfl⟩
       rw[List.take_add_one,ej,List.map_append]at hp
       rcases List.mem_append.mp hp with z|z
       ·exact donej p z
       ·have z':p∈[u.2]:=z
        rw[List.mem_singleton.mp z']
        have:¬(1+f (wo v.2 u.2)<f v.2):=fun z=>c (decide_eq_true z)
        omega
   ·obtain⟨s9,donej,o4,rfl⟩:=p
    rw[List.length_map,List.take_length,hmj]at donej
    refine⟨s7.trans (s8.trans s9),fun j s hj hs=> ?_,_,_,rfl⟩
    by_cases z:j<i
    ·exact done j s z hs
    ·have ej:j=i:=by omega
     subst ej
     rw[es]at hs
     cases hs
     exact donej
 ·obtain⟨s7,done,o3,o4,rfl⟩:=p
  have e:aB n.toNat ts l f=true:=aB_all hB hf0 fun i s hs=>done i s (by
   have:=(List.getElem?_eq_some_iff.mp hs).1
   rw[zbq]at this
   rw[List.length_map,List.length_drop,hlen];omega) hs
  have:=q _ (s1.trans (s16.trans s7))
  rw[e]at this;exact this
end
end Hs
namespace Hs
open PySem L2 HsD
section
variable{P:Program}{w:World}{K:W.Frag}{mg:Str->Option Value}{base:Heap}
theorem ps_cut{X:Cx}{st:Stmt}{t:TS}(t':TS)(w:∀D σ H,t' D σ H->t D σ H)(h:PS X st t):PS X st t':=fun pins s σ H D I q=>h pins s σ H D I (w D σ H q)
theorem pe_cut{X:Cx}{e:Expr}{t:TE}(t':TE)(w:∀σ H Q,t' σ H Q->t σ H Q)(h:PE X e t):PE X e t':=fun pins s σ H Q I q=>h pins s σ H Q I (w σ H Q q)
noncomputable def cA:TS:=fun D σ H=>∃(tp a h l:Addr) (tu at_ t:Int) (ys:List Int) (o6 o7 o8:Option V),σ=[some (.ref tp),some (.ref a),some (.ref h),some (.int tu),some (.ref l),some (.int at_),o6,o7,o8]/\H tp=some (.lst [.int t])/\H l=some (.lst (ys.map V.int))/\tp≠l/\0<=at_/\
 ∀(ys':List Int) (t':Int) H',ys'.length=ys.length->(∀b o,b≠tp->b≠l->H b=some o->H' b=some o)->H' tp=some (.lst [.int t'])->H' l=some (.lst (ys'.map V.int))->D.nx [some (.ref tp),some (.ref a),some (.ref h),some (.int tu),some (.ref l),some (.int at_),o6,o7,o8] H'
noncomputable def cB:TS:=fun D σ H=>∃(v0 v1 v2 o6 o7 o8:Option V) (l:Addr) (tu at_:Int) (ys:List Int),σ=[v0,v1,v2,some (.int tu),some (.ref l),some (.int at_),o6,o7,o8]/\H l=some (.lst (ys.map V.int))/\0<=at_/\ys.length<=100/\
 ∀(l':Addr) (ys':List Int) H',ys'.length<=ys.length+1->Same H H'->H' l'=some (.lst (ys'.map V.int))->D.nx [v0,v1,v2,some (.int tu),some (.ref l'),some (.int at_),o6,o7,o8] H'
noncomputable def nnB(ys:List Int):Bool:=ys.all fun y=>decide (0<=y)
noncomputable def unB(ts:List (Int×Int))(ys:List Int):Bool:=ts.all fun t=> !decide (ys.getD t.1.toNat 0=ys.getD t.2.toNat 0)
noncomputable def tA(K:W.Frag):TE:=fun σ H Q=>∃(v0 v2 v3 v5 v6 v7 v8:Option V) (a l:Addr) (n:Int) (ts:List (Int×Int)) (ys:List Int),σ=[v0,some (.ref a),v2,v3,some (.ref l),v5,v6,v7,v8]/\WebIs K H a n ts/\H l=some (.lst (ys.map V.int))/\∀H',Same H H'->Q (.bl (decide ((ys.length:Int)=n)&&nnB ys)) H'
noncomputable def tB(K:W.Frag):TE:=fun σ H Q=>∃(v0 v2 v3 v5 v6 v8:Option V) (a l:Addr) (n:Int) (ts:List (Int×Int)) (ys:List Int) (b:Bool),σ=[v0,some (.ref a),v2,v3,some (.ref l),v5,v6,some (.bl b),v8]/\WebIs K H a n ts/\H l=some (.lst (ys.map V.int))/\(b=true->(ys.length:Int)=n)/\∀H',Same H H'->Q (.bl (b&&unB ts ys)) H'
theorem map_cut(ys:List Int)(lo hi:Option Int):∃zs:List Int,cutV (ys.map V.int) lo hi=zs.map V.int/\zs.length<=ys.length:=by
 refine⟨(ys.drop (HT.sIx (ys.map V.int).length 0 lo)).take (HT.sIx (ys.map V.int).length (ys.map V.int).length hi-HT.sIx (ys.map V.int).length 0 lo),?_,?_⟩
 ·unfold cutV
  rw[List.map_take,List.map_drop]
 ·rw[List.length_take,List.length_drop];omega
theorem cut_two'(ys:List Int)(k:Int)(h:0<=k):∃zs:List Int,cutV (ys.map V.int) none (some k)++cutV (ys.map V.int) (some (k+1)) none=zs.map V.int/\zs.length<=ys.length+1:=by
 have e1:∀m:Nat,HT.sIx m 0 (none:Option Int)=0:=fun _=>rfl
 obtain⟨b,b1,b2⟩:=map_cut ys (some (k+1)) none
 refine⟨ys.take (HT.sIx (ys.map V.int).length (ys.map V.int).length (some k))++ys.drop (HT.sIx (ys.map V.int).length 0 (some (k+1))),?_,?_⟩
 ·unfold cutV
  rw[e1,List.drop_zero,Nat.sub_zero,List.map_append,List.map_take,List.map_drop]
  congr 1
  have e2:HT.sIx (ys.map V.int).length (ys.map V.int).length (none:Option Int)=(ys.map V.int).length:=rfl
  rw[e2,List.take_of_length_le (by rw[List.length_drop];exact Nat.le_refl _)]
 ·rw[List.length_append,List.length_take,List.length_drop,List.length_map]
  unfold HT.sIx
  simp only[]
  split<;>split<;>omega
theorem nn_filter(ys:List Int):decide (ys.filter (fun y=>decide (y<0))=[])=nnB ys:=by
 unfold nnB
 rw[Bool.eq_iff_iff,decide_eq_true_iff,List.filter_eq_nil_iff,List.all_eq_true]
 constructor
 ·intro h y hy
  have:=h y hy
  exact decide_eq_true (by have:¬y<0:=fun z=>this (decide_eq_true z);omega)
 ·intro h y hy z
  have:=of_decide_eq_true (h y hy)
  have:=of_decide_eq_true z
  omega
theorem un_filter(ts:List (Int×Int))(ys:List Int):decide (ts.filter (fun t=>decide (ys.getD t.1.toNat 0=ys.getD t.2.toNat 0))=[])=unB ts ys:=by
 unfold unB
 rw[Bool.eq_iff_iff,decide_eq_true_iff,List.filter_eq_nil_iff,List.all_eq_true]
 constructor
 ·intro h y hy
  have:=h y hy
  simpa using this
 ·intro h y hy
  have:=h y hy
  simpa using this
theorem dec_intV{i j:Int}:decide (V.int i=V.int j)=decide (i=j):=by
 rw[Bool.eq_iff_iff];simp
noncomputable def spAHues(K:W.Frag):Sp:=fun vs H Q _=>∃(tp a h:Addr) (t n:Int) (ts:List (Int×Int)) (hs:List Int),vs=[.ref tp,.ref a,.ref h]/\H tp=some (.lst [.int t])/\WebIs K H a n ts/\SqT K H h (hs.map V.int)/\hs.length<=10/\∀H' t',SameX tp H H'->H' tp=some (.lst [.int t'])->Q (.bl true) H'
theorem zcn:FnScope ["tape","web","hues","turn","one","at","handed","due","found"] ["tape","web","hues"] (defScope zap):=⟨rfl,rfl,rfl,by decide+kernel,rfl,by decide+kernel,by decide+kernel⟩
theorem ok_ahues{f f1 f2:Addr}{fd d1 d2:FuncData}(F:Fun K "_law_ahues_right" "_law_ahues_right" zap f fd)(D1:Dfn K mg "_law_adigit" zba ["tape","many"] f1 d1)(G1':FnOk P w K mg base CX0 1 f1 d1 ["tape","many"] (spDig K))(D2:Dfn K mg "are_hues" zce ["web","hues"] f2 d2)(G2:FnOk P w K mg base CX0 8 f2 d2 ["web","hues"] (spAreH K))(m_range:mg "range"=none)(m_list:mg "list"=none)(m_len:mg "len"=none)(m_tuple:mg "tuple"=none)(m_isinstance:mg "isinstance"=none)(m_bool:mg "bool"=none):
  FnOk P w K mg base CX0 9 f fd ["tape","web","hues"] (spAHues K):=by
 have G1:FnOk P w K mg base CX0 8 f1 d1 ["tape","many"] (spDig K):=G1'.mono (by decide)
 refine F.ok zcn (fun vs H Q E h=> ?_) (fun cdv A outer s H vs Q E hr h=> ?_)
 ·obtain⟨tp,a,h,t,n,ts,hs,rfl,_⟩:=h
  rfl
 obtain⟨tp,a,h,t,n,ts,hs,rfl,hTp,hA,hH,hlen,q⟩:=h
 refine⟨_,(zae (zcl PassesOwn.never rfl (pi_range1 rfl m_range (zaa zag zac)) (zal (i:=3) zcn.nd rfl (Or.inl rfl)) (zae (zan (i:=4) zcn.nd rfl (Or.inr rfl) (zbh call_list_of rfl m_list (by decide+kernel) (zaa (pv 2) zac))) (zae (zan (i:=5) zcn.nd rfl (Or.inl rfl) (zaj G1 hr rfl D1.m D1.F.kp D1.b .nil pass0 (zaa (pv 0) (zaa (zbd zcz (zak zbx rfl m_len PySem.boot_len (zaa (pv 2) zac)) zag) zac)))) (zae (ps_cut cA ?wA (zdd (PW.pt (pw_and (zbf op_gt (pv 3) zag (nomark _)) (pw_and1 (zbf op_lt (pv 5) (zak zbx rfl m_len PySem.boot_len (zaa (pv 4) zac)) (nomark _))))) (zah (ps_asg (zbz ix_list (zch (zaa zag (zaa zag (zaa zag (zaa (pe_un un_neg zag) (zaa (zbd op_pow zag zag) zac)))))) (zaj G1 hr rfl D1.m D1.F.kp D1.b .nil pass0 (zaa (pv 0) (zaa zag zac))) (fun _ _=>rfl)) (pg_sub (pv 4) (pv 5) set_list))) zbg)) (zae (ps_cut cB ?wB (zdd (zbf op_eq (pv 3) zag (nomark _)) (zah (zan (i:=4) zcn.nd rfl (Or.inr rfl) (zbd op_cat (pe_slice sl_list (pv 4) po_none (po_some (pv 5))) (pe_slice sl_list (pv 4) (po_some (zbd zcz (pv 5) zag)) po_none)))) zbg)) (zae (ps_cut cB ?wC (zdd (zbf op_eq (pv 3) zag (nomark _)) (zah (zan (i:=4) zcn.nd rfl (Or.inr rfl) (zbd op_cat (pv 4) (zch (zaa zag zac))))) zbg)) (zae (zan (i:=6) zcn.nd rfl (Or.inl rfl) (zbh zck rfl m_tuple (by decide+kernel) (zaa (pv 4) zac))) (zae (zan (i:=7) zcn.nd rfl (Or.inl rfl) (pe_cut (tA K) ?wD (zdl (zct op_eq (zak zbx rfl m_len PySem.boot_len (zaa (pv 4) zac)) (zbz zcj (pv 1) zag (fun _ _=>rfl)) (nomark _)) (pe_one (zct (op_eqD hr.units) (zbk (own:=["hue"]) (caps:=[]) (ix:=[]) rfl (zby (pv 4)) rfl rfl .nil (fun _ _ _ _ _=>(zal (i:=0) (show(["hue"]:List Str).Nodup from by decide+kernel) rfl (Or.inl rfl))) (fun _ _ _ _ _=>pts_one (zbf op_lt (pv 0) zag (nomark _))) (fun _ _ _ _ _=>(pv 0))) (zch zac) (nomark _)))))) (zae (zan (i:=7) zcn.nd rfl (Or.inl rfl) (pe_cut (tB K) ?wE (zdl (pv 7) (pe_one (zct (op_eqD hr.units) (zbk (own:=["pair"]) (caps:=["one"]) (ix:=[4]) rfl (zcr (zbz zcj (pv 1) zag (fun _ _=>rfl))) rfl rfl (.cons rfl rfl .nil) (fun _ _ _ _ _=>(zal (i:=0) (show(["pair","one"]:List Str).Nodup from by decide+kernel) rfl (Or.inl rfl))) (fun _ _ _ _ _=>pts_one (zbf op_eq (zbz (ix_listK K) (pv 1) (zbz (ix_tupK K) (pv 0) zag (fun _ _=>rfl)) (fun _ _=>rfl)) (zbz (ix_listK K) (pv 1) (zbz (ix_tupK K) (pv 0) zag (fun _ _=>rfl)) (fun _ _=>rfl)) (nomark _))) (fun _ _ _ _ _=>(pv 0))) (zch zac) (nomark _)))))) (zae (zan (i:=8) zcn.nd rfl (Or.inl rfl) (zaj G2 hr rfl D2.m D2.F.kp D2.b .nil pass0 (zaa (pv 1) (zaa (pv 6) zac)))) (zah (zdd (PW.pt (pw_or (zdk (zdg (zak zdh rfl m_isinstance (by decide+kernel) (zaa (pv 8) (zaa (pe_bltn rfl m_bool (v:= .ty "bool") (by decide+kernel) rfl) zac))))) (pw_or1 (zbf op_ne (pv 8) (pv 7) (nomark _))))) (zah (zao pe_bl)) zbg)))))))))))) (zah (zao pe_bl))),?_⟩
 case wA=>
  rintro D σ H ⟨tp,a,h,l,tu,at_,t,ys,o6,o7,o8,rfl,hTp,hl,ne,h0,q⟩
  refine⟨_,rfl,_,_,rfl,rfl,_,rfl,?_⟩
  refine ite2 (fun c=> ?_) (fun c=> ?_)
  ·refine⟨_,rfl,_,rfl,l,_,rfl,.inl (SqL.of hl),fun _=>⟨_,_,rfl,rfl,_,rfl,?_⟩⟩
   refine ite2 (fun c2=> ?_) (fun c2=> ?_)
   ·have hat:at_<(ys.length:Int):=by have:=of_decide_eq_true c2;rw[List.length_map]at this;exact this
    refine⟨_,rfl,_,_,rfl,rfl,⟨by decide,by decide,by decide⟩,(by show 5<=sizeLine;decide),fun p5 hp5=> ?_⟩
    have s5:=zad hp5 (.lst (([0,1,2, -1,10^20]:List Int).map V.int))
    have hp5':(upd H p5 (.lst (([0,1,2, -1,10^20]:List Int).map V.int))) p5=some (.lst (([0,1,2, -1,10^20]:List Int).map V.int)):=zab
    have n5:p5≠tp:=none_ne' hTp hp5
    have n6:p5≠l:=none_ne' hl hp5
    refine⟨_,rfl,tp,t,5,rfl,s5 _ _ hTp,by decide,by decide,fun r t' hr0 hr5=> ?_⟩
    obtain⟨v,hv⟩:=at_ints (ns:=[0,1,2, -1,10^20]) hr0 (show r<5 from hr5)
    refine⟨p5,_,_,.int v,rfl,rfl,SqL.of (by rw[zaf n5];exact hp5'),hv,_,rfl,_,rfl,l,_,_,at_.toNat,rfl,rfl,by rw[zaf (Ne.symm ne)];exact s5 _ _ hl,?_,?_⟩
    ·unfold ixN
     rw[if_pos h0,if_pos (by rw[List.length_map];exact hat)]
    ·refine q (ys.set at_.toNat v) t' _ (by rw[List.length_set]) (fun b o nb nl e=> ?_) ?_ ?_
     ·rw[zaf nl,zaf nb];exact s5 _ _ e
     ·rw[zaf ne,zab]
     ·rw[zab,List.map_set]
   ·exact q ys t H rfl (fun b o _ _ e=>e) hTp hl
  ·exact q ys t H rfl (fun b o _ _ e=>e) hTp hl
 case wB=>
  rintro D σ H ⟨v0,v1,v2,o6,o7,o8,l,tu,at_,ys,rfl,hl,h0,hy,q⟩
  refine⟨_,rfl,rfl,_,rfl,?_⟩
  refine ite2 (fun c=> ?_) (fun c=> ?_)
  ·refine⟨_,rfl,_,rfl,_,rfl,l,_,rfl,SqL.of hl,fun p1 hp1=> ?_⟩
   have s1:=zad hp1 (.lst (cutV (ys.map V.int) none (some at_)))
   have hp1':(upd H p1 (.lst (cutV (ys.map V.int) none (some at_)))) p1=some (.lst (cutV (ys.map V.int) none (some at_))):=zab
   try dsimp only at s1 hp1'
   generalize upd H p1 (.lst (cutV (ys.map V.int) none (some at_)))=H1 at *
   refine⟨_,rfl,_,rfl,_,_,rfl,rfl,_,rfl,l,_,rfl,SqL.of (s1 _ _ hl),fun p2 hp2=> ?_⟩
   have s2:=zad hp2 (.lst (cutV (ys.map V.int) (some (at_+1)) none))
   refine⟨p1,p2,_,_,rfl,rfl,s2 _ _ hp1',zab,?_,fun p3 hp3=> ?_⟩
   ·have:=cutV_length (ys.map V.int) none (some at_)
    have:=cutV_length (ys.map V.int) (some (at_+1)) none
    rw[List.length_map]at *
    rw[sizeLine_eq];omega
   ·obtain⟨zs,z1,z2⟩:=cut_two' ys at_ h0
    have s3:=zad hp3 (.lst (cutV (ys.map V.int) none (some at_)++cutV (ys.map V.int) (some (at_+1)) none))
    exact q p3 zs _ z2 (s1.trans (s2.trans s3)) (by rw[zab,z1])
  ·exact q l ys H (Nat.le_succ _) (Same.refl _) hl
 case wC=>
  rintro D σ H ⟨v0,v1,v2,o6,o7,o8,l,tu,at_,ys,rfl,hl,h0,hy,q⟩
  refine⟨_,rfl,rfl,_,rfl,?_⟩
  refine ite2 (fun c=> ?_) (fun c=> ?_)
  ·refine⟨_,rfl,(by show 1<=sizeLine;decide),fun p1 hp1=> ?_⟩
   have s1:=zad hp1 (.lst [.int 7])
   refine⟨l,p1,_,_,rfl,rfl,s1 _ _ hl,zab,(by rw[List.length_map,sizeLine_eq];show _+1<=_;omega),fun p3 hp3=> ?_⟩
   have s3:=zad hp3 (.lst (ys.map V.int++[.int 7]))
   exact q p3 (ys++[7]) _ (by rw[List.length_append];exact Nat.le_refl _) (s1.trans s3) (by rw[zab,List.map_append];rfl)
  ·exact q l ys H (Nat.le_succ _) (Same.refl _) hl
 case wD=>
  rintro σ H Q ⟨v0,v2,v3,v5,v6,v7,v8,a,l,n,ts,ys,rfl,hA,hl,q⟩
  obtain⟨tw,rw',w1,w2,w3⟩:=id hA.web
  refine⟨_,rfl,l,_,rfl,.inl (SqL.of hl),fun _=>⟨_,rfl,a,_,_,.int n,rfl,rfl,w1,rfl,rfl,_,rfl,?_⟩⟩
  rw[List.length_map,dec_intV]
  refine ite2 (fun c=> ?_) (fun c=> ?_)
  ·refine⟨_,rfl,l,_,rfl,SqL.of hl,fun hz=> ?_⟩
   refine comp_list (xs:=ys.map V.int) (fun i acc σ H'=>acc=((ys.take i).filter fun y=>decide (y<0)).map V.int/\Same H H'/\∃o,σ=[o]) ⟨rfl,Same.refl _,_,rfl⟩ (fun i acc σ H' _ p=>p.2.1.seq (SqL.of hl)) (fun i acc σ H' _ p=> ?_) hz (fun i x acc σ H' hx p=> ?_) (fun acc σ H' p=> ?_)
   ·rw[p.1,List.length_map]
    exact Nat.le_trans (List.length_filter_le _ _) (by rw[List.length_take];exact Nat.min_le_left _ _)
   ·obtain⟨rfl,sm,o,rfl⟩:=p
    rw[List.getElem?_map]at hx
    cases ex:ys[i]? with
    |none=>rw[ex]at hx;cases hx
    |some y=>
     rw[ex]at hx
     cases hx
     obtain⟨hi,ey⟩:=List.getElem?_eq_some_iff.mp ex
     have e:=zbr (p:=fun y:Int=>decide (y<0)) hi
     rw[ey]at e
     refine⟨_,rfl,_,_,rfl,rfl,_,rfl,?_⟩
     refine ite2 (fun c2=> ?_) (fun c2=> ?_)
     ·exact⟨_,rfl,by rw[e,if_pos c2,List.map_append];rfl,sm,_,rfl⟩
     ·exact⟨by rw[e,if_neg c2,List.append_nil],sm,_,rfl⟩
   ·intro p1 hp1
    obtain⟨rfl,sm,_⟩:=p
    rw[List.length_map,List.take_length]
    have s1:=zad hp1 (.lst ((ys.filter fun y=>decide (y<0)).map V.int))
    have hp1':(upd H' p1 (.lst ((ys.filter fun y=>decide (y<0)).map V.int))) p1=some (.lst ((ys.filter fun y=>decide (y<0)).map V.int)):=zab
    try dsimp only at s1 hp1'
    generalize upd H' p1 (.lst ((ys.filter fun y=>decide (y<0)).map V.int))=H2 at *
    refine⟨(by show 0<=sizeLine;decide),fun p2 hq2=> ?_⟩
    have s2:=zad hq2 (.lst [])
    refine⟨.list ((ys.filter fun y:Int=>decide (y<0)).map PyData.int),.list (([]:List Int).map PyData.int),.lst (SqL.of (s2 _ _ hp1')) (DVs.ints _),.lst (SqL.of zab) .nil,lay_ints _,rfl,(by show min _ 1<=64;omega),?_⟩
    have ee:PyData.eqv (.list ((ys.filter fun y:Int=>decide (y<0)).map PyData.int)) (.list (([]:List Int).map PyData.int))=nnB ys:=(eqv_ints _ []).trans (nn_filter ys)
    rw[ee]
    have:=q _ (sm.trans (s1.trans s2))
    rw[c]at this;exact this
  ·have:=q H (Same.refl _)
   rw[Bool.eq_false_iff.mpr c]at this
   exact this
 case wE=>
  rintro σ H Q ⟨v0,v2,v3,v5,v6,v8,a,l,n,ts,ys,b,rfl,hA,hl,hb,q⟩
  obtain⟨tw,rw',w1,w2,w3⟩:=id hA.web
  refine⟨_,rfl,b,rfl,?_⟩
  refine ite2 (fun c=> ?_) (fun c=> ?_)
  ·have hyn:=hb c
   refine⟨_,rfl,a,_,_,.ref tw,rfl,rfl,w1,rfl,tw,rw',rfl,w2,fun hz=> ?_⟩
   have hrw:rw'.length=ts.length:=by have:=w3.len;rw[List.length_map]at this;exact this
   refine zcv (xs:=rw') (fun i acc σ H'=>DVs K H' acc (((ts.take i).filter fun p=>decide (ys.getD p.1.toNat 0=ys.getD p.2.toNat 0)).map pairD)/\Same H H'/\∃o,σ=[o,some (.ref l)]) ⟨.nil,Same.refl _,_,rfl⟩ (fun i acc σ H' _ p=>p.2.1.tup w2) (fun i acc σ H' _ p=> ?_) hz (fun i x acc σ H' hx p=> ?_) (fun acc σ H' p=> ?_)
   ·rw[p.1.len,List.length_map]
    exact Nat.le_trans (List.length_filter_le _ _) (by rw[List.length_take];exact Nat.min_le_left _ _)
   ·obtain⟨hD,sm,o,rfl⟩:=p
    obtain⟨t,hi,rfl,ht⟩:=pair_at w3 hx
    have e:=zbr (p:=fun p:Int×Int=>decide (ys.getD p.1.toNat 0=ys.getD p.2.toNat 0)) hi
    have ht':=sm.tup ht
    have hp:=hA.pk.lt ts[i] (List.getElem_mem _)
    refine⟨_,rfl,_,rfl,t,_,_,.int (ts[i]).1,rfl,rfl,ht',rfl,l,_,_,_,rfl,rfl,SqL.of (sm _ _ hl),at_xs hp.1 (by omega),_,rfl,_,rfl,t,_,_,.int (ts[i]).2,rfl,rfl,ht',rfl,l,_,_,_,rfl,rfl,SqL.of (sm _ _ hl),at_xs (by omega) (by omega),rfl,_,rfl,?_⟩
    rw[dec_intV]
    refine ite2 (fun c2=> ?_) (fun c2=> ?_)
    ·refine⟨_,rfl,?_,sm,_,rfl⟩
     rw[e,if_pos c2,List.map_append]
     exact hD.snoc (.tup ht' (.cons (.int _) (.cons (.int _) .nil)))
    ·refine⟨?_,sm,_,rfl⟩
     rw[e,if_neg c2,List.append_nil]
     exact hD
   ·intro p1 hp1
    obtain⟨hD,sm,_⟩:=p
    rw[hrw,List.take_length]at hD
    have s1:=zad hp1 (.lst acc)
    have hp2:(upd H' p1 (.lst acc)) p1=some (.lst acc):=zab
    have hD1:=hD.same s1
    try dsimp only at s1 hp2 hD1⊢
    generalize upd H' p1 (.lst acc)=H2 at *
    refine⟨(by show 0<=sizeLine;decide),fun p2 hq2=> ?_⟩
    have s2:=zad hq2 (.lst [])
    refine⟨.list ((ts.filter fun p:Int×Int=>decide (ys.getD p.1.toNat 0=ys.getD p.2.toNat 0)).map pairD),.list [],.lst (SqL.of (s2 _ _ hp2)) (hD1.same s2),.lst (SqL.of zab) .nil,lay_pairs _,rfl,(by show min _ 1<=64;omega),?_⟩
    rw[eqv_pairs_nil,un_filter]
    have:=q _ (sm.trans (s1.trans s2))
    rw[c]at this;exact this
  ·have:=q H (Same.refl _)
   rw[Bool.eq_false_iff.mpr c]at this
   exact this
 refine⟨6,rfl,by decide,by decide,?_⟩
 refine zdc (n:=6) (fun i σ H'=>∃(t':Int) (o3 o4 o5 o6 o7 o8:Option V),σ=[some (.ref tp),some (.ref a),some (.ref h),o3,o4,o5,o6,o7,o8]/\SameX tp H H'/\H' tp=some (.lst [.int t'])) ⟨t,_,_,_,_,_,_,rfl,SameX.refl _ _,hTp⟩ (fun i σ H1 hi p=> ?_) (fun σ H1 p=> ?_)
 ·obtain⟨t1,o3,o4,o5,o6,o7,o8,rfl,x1,hT1⟩:=p
  have hA1:=hA.samex x1 hTp
  have hH1:=x1.tup hTp hH
  refine⟨_,rfl,h,_,rfl,.inr hH1,fun l hl=> ?_⟩
  have s2:=zad hl (.lst (hs.map V.int))
  have hl2:(upd H1 l (.lst (hs.map V.int))) l=some (.lst (hs.map V.int)):=zab
  have nl:tp≠l:=fun z=>by rw[<-z,hT1]at hl;cases hl
  have nlb:∀b o,H1 b=some o->b≠l:=fun b o e z=>by rw[z,hl]at e;cases e
  try dsimp only at s2 hl2
  generalize upd H1 l (.lst (hs.map V.int))=H2 at *
  refine⟨_,rfl,_,rfl,h,_,rfl,.inr (s2.tup hH1),fun _=>⟨_,_,rfl,rfl,tp,t1,_,rfl,s2 _ _ hT1,by rw[List.length_map];omega,by rw[List.length_map];omega,fun r t2 hr0 hr1=> ?_⟩⟩
  refine⟨tp,a,h,l,_,r,t2,hs,_,_,_,rfl,zab,by rw[zaf (Ne.symm nl)];exact hl2,nl,hr0,fun ys t3 H3 hy3 x3 hT3 hl3=> ?_⟩
  have x13:SameX tp H1 H3:=fun b o nb e=>x3 b o nb (nlb b o e) (by rw[zaf nb];exact s2 _ _ e)
  refine⟨_,_,_,_,_,_,l,_,r,ys,rfl,hl3,hr0,by omega,fun l4 ys4 H4 hy4 s4 hl4=> ?_⟩
  refine⟨_,_,_,_,_,_,l4,_,r,ys4,rfl,hl4,hr0,by omega,fun l5 ys5 H5 hy5 s5 hl5=> ?_⟩
  have s35:=s4.trans s5
  refine⟨_,rfl,l5,_,rfl,.inl ⟨SqL.of hl5,fun p hp=> ?_⟩⟩
  have s6:=zad hp (.tup (ys5.map V.int))
  have hp6:(upd H5 p (.tup (ys5.map V.int))) p=some (.tup (ys5.map V.int)):=zab
  have hl6:=s6 _ _ hl5
  try dsimp only at s6 hp6 hl6
  generalize upd H5 p (.tup (ys5.map V.int))=H6 at *
  have s36:=s35.trans s6
  have hA3:=hA1.samex x13 hT1
  have hA6:=hA3.same s36
  refine⟨_,_,_,_,_,_,_,a,l5,n,ts,ys5,rfl,hA6,hl6,fun H7 s7=> ?_⟩
  refine⟨_,_,_,_,_,_,a,l5,n,ts,ys5,_,rfl,hA6.same s7,s7 _ _ hl6,fun z=>by rw[Bool.and_eq_true]at z;exact of_decide_eq_true z.1,fun H8 s8=> ?_⟩
  have s68:=s7.trans s8
  refine⟨_,rfl,_,rfl,a,p,n,ts,ys5,rfl,hA6.same s68,s68.tup (SqT.of hp6),fun H9 s9=> ?_⟩
  refine⟨_,rfl,.bl _,"bool",_,rfl,rfl,.inr (.inl rfl),_,rfl,?_⟩
  refine iteF ?_
  refine⟨_,rfl,_,rfl,rfl,_,rfl,?_⟩
  refine iteNS (by unfold hueB nnB unB;rw[Bool.and_assoc]) ?_
  exact⟨t3,_,_,_,_,_,_,rfl,(x1.trans x13).trans ((s36.trans (s68.trans s9)).x tp),(s36.trans (s68.trans s9)) _ _ hT3⟩
 ·obtain⟨t1,o3,o4,o5,o6,o7,o8,rfl,x1,hT1⟩:=p
  exact q _ t1 x1 hT1
end
end Hs
namespace Hs
open PySem L2 HsD
section
variable{P:Program}{w:World}{K:W.Frag}{mg:Str->Option Value}{base:Heap}
theorem last_eq{n:Nat}{ts:List (Int×Int)}{l:List (List Int)}{f:List Int->Int}(nd:l.Nodup)(num:Int):floB n ts l f num=(aB n ts l f&&decide (num<=if rgI n∈l then f (rgI n)else 0)):=by
 rw[floB_aB]
 cases c:aB n ts l f with
 |false=>rfl
 |true=>
  have hB:allSetsB n l=true:=by
   unfold aB at c
   rw[Bool.and_eq_true]at c
   exact c.1
  rw[if_pos (zcm hB nd ((zbc _ _).mpr (List.Sublist.refl _)))]
noncomputable def spAFlo(K:W.Frag):Sp:=fun vs H Q _=>∃(a d:Addr) (n:Int) (ts:List (Int×Int)) (l:List (List Int)) (f:List Int->Int),vs=[.ref a,.ref d]/\WebIs K H a n ts/\n<=4/\H d=some (.dT (setK f l))/\l.Nodup/\(∀k∈l,k∈univ)/\l.length<64/\∀H',Same H H'->Q (.bl true) H'
theorem sc_aflo:FnScope ["web","floors","handed","due","last","number","found"] ["web","floors"] (defScope zam):=⟨rfl,rfl,rfl,by decide+kernel,rfl,by decide+kernel,by decide+kernel⟩
theorem ok_aflo{f f1 f2:Addr}{fd d1 d2:FuncData}(F:Fun K "_law_afloors_right" "_law_afloors_right" zam f fd)(D1:Dfn K mg "_law_aare_floors" zaq ["web","floors"] f1 d1)(G1':FnOk P w K mg base CX0 3 f1 d1 ["web","floors"] (spAAreF K))(D2:Dfn K mg "are_floors" zbm ["web","floors","number"] f2 d2)(G2:FnOk P w K mg base CX0 8 f2 d2 ["web","floors","number"] (spAreF K))(m_dict:mg "dict"=none)(m_tuple:mg "tuple"=none)(m_range:mg "range"=none)(m_isinstance:mg "isinstance"=none)(m_bool:mg "bool"=none):
  FnOk P w K mg base CX0 9 f fd ["web","floors"] (spAFlo K):=by
 have G1:FnOk P w K mg base CX0 8 f1 d1 ["web","floors"] (spAAreF K):=G1'.mono (by decide)
 refine F.ok sc_aflo (fun vs H Q E h=> ?_) (fun cdv A outer s H vs Q E hr h=> ?_)
 ·obtain⟨a,d,n,ts,l,f,rfl,_⟩:=h
  rfl
 obtain⟨a,d,n,ts,l,f,rfl,hA,hn4,hD,nd,hU,h64,q⟩:=h
 refine⟨_,(zae (zan (i:=2) sc_aflo.nd rfl (Or.inl rfl) (zbh call_dictT rfl m_dict (by decide+kernel) (zaa (pv 1) zac))) (zae (zan (i:=3) sc_aflo.nd rfl (Or.inl rfl) (zaj G1 hr rfl D1.m D1.F.kp D1.b .nil pass0 (zaa (pv 0) (zaa (pv 1) zac)))) (zae (zan (i:=4) sc_aflo.nd rfl (Or.inl rfl) (pe_bm PySem.F.plainAttrs_dict PySem.F.slot_dict_get PySem.F.type_dict_get (mt_getT hr.units) (pv 1) (zaa (pe_tupRange rfl rfl m_tuple rfl m_range (zaa (zbz zcj (pv 0) zag (fun _ _=>rfl)) zac)) (zaa zag zac)))) (zae (zcl PassesOwn.never rfl (zby (zch (zaa (pv 4) (zaa (zbd zcz (pv 4) zag) (zaa (zbd op_sub (pv 4) zag) (zaa (pe_un un_neg zag) (zaa (zbd op_pow zag zag) zac))))))) (zal (i:=5) sc_aflo.nd rfl (Or.inl rfl)) (zae (zan (i:=6) sc_aflo.nd rfl (Or.inl rfl) (zaj G2 hr rfl D2.m D2.F.kp D2.b .nil pass0 (zaa (pv 0) (zaa (pv 2) (zaa (pv 5) zac))))) (zah (zdd (PW.pt (pw_or (zdk (zdg (zak zdh rfl m_isinstance (by decide+kernel) (zaa (pv 6) (zaa (pe_bltn rfl m_bool (v:= .ty "bool") (by decide+kernel) rfl) zac))))) (pw_or (zbf op_ne (pv 6) (zdl (pv 3) (pe_one (zct op_ge (pv 4) (pv 5) (nomark _)))) (nomark _)) (pw_or1 (zbf (op_neT hr.units) (pv 2) (pv 1) (nomark _)))))) (zah (zao pe_bl)) zbg)))) (zah (zao pe_bl)))))),?_⟩
 have hn0:=hA.h0
 have hn1:=hA.h1
 refine⟨_,rfl,d,_,rfl,.inl hD,hash_ok nd hU,fun p hp=> ?_⟩
 have s1:=zad hp (.dT (setK f l))
 have hP1:(upd H p (.dT (setK f l))) p=some (.dT (setK f l)):=zab
 try dsimp only at s1 hP1
 generalize upd H p (.dT (setK f l))=H1 at *
 refine⟨_,rfl,_,rfl,a,d,n,ts,l,f,rfl,hA.same s1,hn4,s1 _ _ hD,nd,h64,fun H2 s2=> ?_⟩
 have s12:=s1.trans s2
 obtain⟨tw,rw',w1,w2,w3⟩:=id (hA.same s12).web
 refine⟨_,rfl,.inr (.inr (.inl ⟨rfl,.inr ⟨_,s12 _ _ hD⟩⟩)),_,rfl,a,_,_,.int n,rfl,rfl,w1,rfl,n,rfl,hn0,by omega,fun t ht=> ?_⟩
 have s3:=zad ht (.tup (tupR n.toNat))
 have ht3:(upd H2 t (.tup (tupR n.toNat))) t=some (.tup ((rgI n.toNat).map V.int)):=by rw[zab,tupR_rgI]
 try dsimp only at s3 ht3
 generalize upd H2 t (.tup (tupR n.toNat))=H3 at *
 have s13:=s12.trans s3
 have G:=DGet.t (k:=(rgI n.toNat).map Sum.inl) (s13 _ _ hD) (by rw[keyV];exact ht3)
 rw[zav]at G
 refine⟨d,.ref t,.int 0,_,rfl,rfl,G,?_⟩
 have ev:(if rgI n.toNat∈l then some (V.int (f (rgI n.toNat)))else none).getD (.int 0)= .int (if rgI n.toNat∈l then f (rgI n.toNat)else 0):=by
  by_cases z:rgI n.toNat∈l
  ·rw[if_pos z,if_pos z];rfl
  ·rw[if_neg z,if_neg z];rfl
 rw[ev]
 generalize hla:(if rgI n.toNat∈l then f (rgI n.toNat)else 0)=la at *
 have key:∀num:Int,floB n.toNat ts l f num=(aB n.toNat ts l f&&decide (num<=la)):=fun num=>by rw[<-hla];exact last_eq nd num
 refine⟨_,rfl,_,rfl,_,_,rfl,rfl,_,rfl,_,_,rfl,rfl,_,rfl,_,_,rfl,rfl,⟨by decide,by decide,by decide⟩,(by show 5<=sizeLine;decide),fun p5 hp5=> ?_⟩
 have s4:=zad hp5 (.lst (([la,la+1,la-1, -5,10^20]:List Int).map V.int))
 have hp5':(upd H3 p5 (.lst (([la,la+1,la-1, -5,10^20]:List Int).map V.int))) p5=some (.lst (([la,la+1,la-1, -5,10^20]:List Int).map V.int)):=zab
 refine⟨p5,([la,la+1,la-1, -5,10^20]:List Int).map V.int,rfl,SqL.of hp5',fun hz=> ?_⟩
 have s14:=s13.trans s4
 have hP4:=(s2.trans (s3.trans s4)) _ _ hP1
 generalize hH4:upd H3 p5 (.lst (([la,la+1,la-1, -5,10^20]:List Int).map V.int))=H4 at *
 refine for_list (K:=K) (a:=p5) (xs:=([la,la+1,la-1, -5,10^20]:List Int).map V.int) (fun i σ H'=>Same H4 H'/\∃o5 o6,σ=[some (.ref a),some (.ref d),some (.ref p),some (.bl (aB n.toNat ts l f)),some (.int la),o5,o6]) ⟨?_,_,_,rfl⟩ (fun i σ H' _ p=>p.1.seq (SqL.of hp5')) (fun i x σ H5 hx pp=> ?_) (fun σ H5 pp=> ?_)
 ·rw[<-hH4];exact Same.refl _
 ·obtain⟨s5,o5,o6,rfl⟩:=pp
  rw[List.getElem?_map]at hx
  cases ex:([la,la+1,la-1, -5,10^20]:List Int)[i]? with
  |none=>rw[ex]at hx;cases hx
  |some num=>
   rw[ex]at hx
   cases hx
   have s15:=s14.trans s5
   refine⟨_,rfl,_,rfl,_,rfl,a,p,n,num,ts,l,f,rfl,hA.same s15,s5 _ _ hP4,nd,fun H6 s6=> ?_⟩
   refine⟨_,rfl,.bl _,"bool",_,rfl,rfl,.inr (.inl rfl),_,rfl,?_⟩
   refine iteF ?_
   have k:=key num
   refine⟨_,rfl,_,rfl,_,rfl,?_⟩
   refine ite2 (fun c=> ?_) (fun c=> ?_)
   ·refine⟨_,rfl,_,rfl,_,_,rfl,rfl,rfl,_,rfl,?_⟩
    refine iteNS (by rw[k,c];rfl) ?_
    exact⟨_,rfl,_,rfl,p,d,_,rfl,rfl,.inl ((s5.trans s6) _ _ hP4),.inl ((s15.trans s6) _ _ hD),fun kv hkv=>by obtain⟨s,_,rfl⟩:=List.mem_map.mp hkv;exact⟨_,rfl⟩,_,rfl,iteF ⟨s5.trans s6,_,_,rfl⟩⟩
   ·refine⟨rfl,_,rfl,?_⟩
    refine iteNS (by rw[k,Bool.eq_false_iff.mpr c];rfl) ?_
    exact⟨_,rfl,_,rfl,p,d,_,rfl,rfl,.inl ((s5.trans s6) _ _ hP4),.inl ((s15.trans s6) _ _ hD),fun kv hkv=>by obtain⟨s,_,rfl⟩:=List.mem_map.mp hkv;exact⟨_,rfl⟩,_,rfl,iteF ⟨s5.trans s6,_,_,rfl⟩⟩
 ·obtain⟨s5,o5,o6,rfl⟩:=pp
  exact q _ (s14.trans s5)
end
end Hs
namespace L2
open PySem
theorem DGet.f{H:Hp}{a b:Addr}{o:Obj}{kvs:List (List Key×V)}{k:List Key}(e:H a=some (.frz o (.dT kvs)))(eb:H b=some (.tup (k.map kV))):DGet H a (.ref b) (valV kvs k):= .inr ⟨kvs,k,b,.inr ⟨o,e⟩,rfl,eb,rfl⟩
end L2
namespace Hs
open PySem L2 HsD
section
variable{P:Program}{w:World}{K:W.Frag}{mg:Str->Option Value}{base:Heap}
noncomputable def Prs(l:List (List Int))(H:Hp)(qs:List (Addr×Addr×Int)):Prop:=∀(j:Nat) (q:Addr×Addr×Int),qs[j]? =some q->∃s,l[j]? =some s/\H q.1=some (.tup [.ref q.2.1,.int q.2.2])/\H q.2.1=some (.tup (s.map V.int))
theorem Prs.keep{l:List (List Int)}{H H':Hp}{qs:List (Addr×Addr×Int)}(h:Prs l H qs)(k:∀b xs,H b=some (.tup xs)->H' b=some (.tup xs)):Prs l H' qs:=fun j q hq=>by
 obtain⟨s,h1,h2,h3⟩:=h j q hq
 exact⟨s,h1,k _ _ h2,k _ _ h3⟩
theorem Prs.add{l:List (List Int)}{H H4:Hp}{qs:List (Addr×Addr×Int)}{i:Nat}{s:List Int}{tp b p:Addr}{v:Int}{zs:List V}(h:Prs l H qs)(hl:qs.length=i)(es:l[i]? =some s)(x:SameX tp H H4)(ht:H tp=some (.lst zs))(hb:H b=some (.tup (s.map V.int)))(hp:H4 p=none):
  Prs l (upd H4 p (.tup [.ref b,.int v])) (qs++[(p,b,v)]):=by
 have kp:∀c xs,H c=some (.tup xs)->upd H4 p (.tup [.ref b,.int v]) c=some (.tup xs):=fun c xs e=>by
  have e4:=x _ _ (ne_of e ht (fun z=>nomatch z)) e
  rw[zaf (zai e4 hp)];exact e4
 intro j q hq
 by_cases c:j<i
 ·rw[List.getElem?_append_left (by omega)]at hq
  obtain⟨s',h1,h2,h3⟩:=h j q hq
  exact⟨s',h1,kp _ _ h2,kp _ _ h3⟩
 ·have ej:j=i:=by
   have:=(List.getElem?_eq_some_iff.mp hq).1
   rw[List.length_append,hl]at this
   simp only[List.length_singleton]at this
   omega
  subst ej
  rw[List.getElem?_append_right (by omega),hl,Nat.sub_self]at hq
  cases hq
  exact⟨s,es,zab,kp _ _ hb⟩
noncomputable def valF(l:List (List Int))(vs:List Int):List Int->Int:=fun s=>vs.getD (l.idxOf s) 0
theorem valF_at{l:List (List Int)}{vs:List Int}(nd:l.Nodup){i:Nat}{s:List Int}{v:Int}(hs:l[i]? =some s)(hv:vs[i]? =some v):valF l vs s=v:=by
 obtain⟨hi,e⟩:=List.getElem?_eq_some_iff.mp hs
 have hm:s∈l:=by rw[<-e];exact List.getElem_mem hi
 have hk:=List.idxOf_lt_length_of_mem hm
 have e2:l[l.idxOf s]=s:=List.getElem_idxOf hk
 have:l.idxOf s=i:=by
  exact(List.getElem?_inj hk nd).mp (by rw[List.getElem?_eq_getElem hk,e2,hs])
 unfold valF
 rw[this,List.getD_eq_getElem?_getD,hv];rfl
noncomputable def cD:TE:=fun σ H Q=>∃(v0 v1 v3 v4 v5 v7 v8 v9 v10 v11:Option V) (tp d:Addr) (t:Int) (f:List Int->Int) (l:List (List Int)),σ=[v0,v1,some (.ref tp),v3,v4,v5,some (.ref d),v7,v8,v9,v10,v11]/\H tp=some (.lst [.int t])/\H d=some (.dT (setK f l))/\l.Nodup/\l.length<=16/\
 ∀(p:Addr) (f':List Int->Int) (H':Hp) (t':Int),SameX tp H H'->H' tp=some (.lst [.int t'])->H p=none->H' p=some (.dT (setK f' l))->Q (.ref p) H'
theorem prs_dict{H H2:Hp}{tp p1:Addr}{t':Int}{l:List (List Int)}{qs:List (Addr×Addr×Int)}{Q:VK}(nd:l.Nodup)(h16:l.length<=16)(hq:qs.length=l.length)(hQ:Prs l H2 qs)(hp1:H2 p1=some (.lst (qs.map fun q=>V.ref q.1)))(x:SameX tp H H2)(htH:∃o,H tp=some o)(ht:H2 tp=some (.lst [.int t']))(q:∀(p:Addr) (f':List Int->Int) (H':Hp) (t':Int),SameX tp H H'->H' tp=some (.lst [.int t'])->H p=none->H' p=some (.dT (setK f' l))->Q (.ref p) H'):
  ∃(l':Addr) (ts:List Addr) (kvs:List (List Key×V)) (bs:List Addr),[V.ref p1]=[.ref l']/\H2 l'=some (.lst (ts.map V.ref))/\ts.length=kvs.length/\bs.length=kvs.length/\kvs.length<sizeLine/\(kvs.map (·.1)).Nodup/\
  (∀(i:Nat) kv,kvs[i]? =some kv->∃t b,ts[i]? =some t/\bs[i]? =some b/\H2 t=some (.tup [.ref b,kv.2])/\H2 b=some (.tup (kv.1.map kV)))/\∀p,H2 p=none->Q (.ref p) (upd H2 p (.dT kvs)):=by
 refine⟨p1,qs.map (·.1),setK (valF l (qs.map (·.2.2))) l,qs.map (·.2.1),rfl,by rw[List.map_map];exact hp1,by rw[List.length_map,zbn,hq],by rw[List.length_map,zbn,hq],by rw[zbn,sizeLine_eq];omega,?_,fun i kv hkv=> ?_,fun p hp=> ?_⟩
 ·rw[setK_keys]
  unfold List.Nodup at nd⊢
  rw[List.pairwise_map]
  exact nd.imp fun{a b} ne z=>ne (inl_inj' z)
 ·unfold setK at hkv
  rw[List.getElem?_map]at hkv
  cases es:l[i]? with
  |none=>rw[es]at hkv;cases hkv
  |some s=>
   rw[es]at hkv
   cases hkv
   have hi:i<qs.length:=by rw[hq];exact(List.getElem?_eq_some_iff.mp es).1
   have eq:qs[i]? =some qs[i]:=List.getElem?_eq_getElem hi
   obtain⟨s',h1,h2,h3⟩:=hQ i qs[i] eq
   rw[es]at h1
   cases h1
   have ev:valF l (qs.map (·.2.2)) s=qs[i].2.2:=valF_at nd es (by rw[List.getElem?_map,eq];rfl)
   refine⟨qs[i].1,qs[i].2.1,by rw[List.getElem?_map,eq];rfl,by rw[List.getElem?_map,eq];rfl,?_,?_⟩
   ·show H2 qs[i].1=some (.tup [.ref qs[i].2.1,.int (valF l (qs.map (·.2.2)) s)])
    rw[ev];exact h2
   ·show H2 qs[i].2.1=some (.tup ((s.map Sum.inl).map kV))
    rw[keyV];exact h3
 ·have np:p≠tp:=none_ne' ht hp
  refine q p _ _ t' (fun b o nb e=> ?_) (by rw[zaf np.symm];exact ht) (x.free np hp) zab
  have e2:=x b o nb e
  rw[zaf (zai e2 hp)];exact e2
noncomputable def Good(H:Hp)(x:Addr):Prop:=∃(f:List Int->Int) (l:List (List Int)),H x=some (.dT (setK f l))/\l.Nodup/\(∀k∈l,k∈univ)/\l.length<=17
theorem Good.keep{H H':Hp}{x:Addr}(h:Good H x)(k:∀o,H x=some o->H' x=some o):Good H' x:=let⟨f,l,h1,h2⟩:=h;⟨f,l,k _ h1,h2⟩
theorem Good.samex{H H':Hp}{x t:Addr}{zs:List V}(h:Good H x)(e:SameX t H H')(ht:H t=some (.lst zs)):Good H' x:=let⟨f,l,h1,h2⟩:=h;⟨f,l,e _ _ (ne_of h1 ht (fun z=>nomatch z)) h1,h2⟩
theorem allS_up:∀{n m:Nat},n<=m->∀s∈allS n,s∈allS m:=fun{n m} h s hs=>by
 rw[zbc]at hs⊢
 refine hs.trans ?_
 unfold rgI
 refine List.Sublist.map _ ?_
 exact List.range_sublist.mpr h
theorem allS_univ{n:Nat}(h:n<=4):∀s∈allS n,s∈univ:=fun s hs=>List.mem_append_left _ (allS_up h s hs)
theorem LamOk_samex{H H':Hp}{T t:Addr}{p:Pos}{q:Str}{zs:List V}(h:LamOk H T p q)(e:SameX t H H')(ht:H t=some (.lst zs)):LamOk H' T p q:=by
 rcases h with z|⟨c,oc,vs,tq,z,z1,z2⟩
 ·exact .inl (e _ _ (ne_of z ht (fun z=>nomatch z)) z)
 ·exact .inr ⟨c,oc,vs,tq,e _ _ (ne_of z ht (fun z=>nomatch z)) z,e _ _ (ne_of z1 ht (fun z=>nomatch z)) z1,z2⟩
structure Sta(K:W.Frag)(H1 H:Hp)(T tp a d:Addr)(n:Int)(ts:List (Int×Int)):Prop where
 old:SameX T H1 H
 lam:Lam H T
 tpv:∃t,H tp=some (.lst [.int t])
 tp0:H1 tp=none
 web:WebIs K H a n ts
 dv:H d=some (.dT (setK (flo ts) (allS n.toNat)))
theorem Sta.same{H1 H H':Hp}{T tp a d:Addr}{n:Int}{ts:List (Int×Int)}(h:Sta K H1 H T tp a d n ts)(e:Same H H'):Sta K H1 H' T tp a d n ts:=
 ⟨h.old.trans (e.x T),h.lam.same e,let⟨t,z⟩:=h.tpv;⟨t,e _ _ z⟩,h.tp0,h.web.same e,e _ _ h.dv⟩
theorem Sta.tp{H1 H H':Hp}{T tp a d:Addr}{n:Int}{ts:List (Int×Int)}(h:Sta K H1 H T tp a d n ts)(e:SameX tp H H'){t:Int}(ht:H' tp=some (.lst [.int t])):Sta K H1 H' T tp a d n ts:=by
 obtain⟨t0,z⟩:=h.tpv
 refine⟨fun b o nb eb=>e _ _ (fun y=>by rw[y,h.tp0]at eb;cases eb) (h.old b o nb eb),LamOk_samex h.lam e z,⟨t,ht⟩,h.tp0,h.web.samex e z,e _ _ (ne_of h.dv z (fun z=>nomatch z)) h.dv⟩
theorem Sta.lst{H1 H H':Hp}{T tp a d x:Addr}{n:Int}{ts:List (Int×Int)}{zs:List V}(h:Sta K H1 H T tp a d n ts)(e:SameX x H H')(hx:H x=some (.lst zs))(x0:H1 x=none)(xt:x≠tp):Sta K H1 H' T tp a d n ts:=by
 obtain⟨t0,z⟩:=h.tpv
 exact⟨fun b o nb eb=>e _ _ (fun y=>by rw[y,x0]at eb;cases eb) (h.old b o nb eb),LamOk_samex h.lam e hx,⟨t0,e _ _ xt.symm z⟩,h.tp0,h.web.samex e hx,e _ _ (ne_of h.dv hx (fun z=>nomatch z)) h.dv⟩
noncomputable def Dcs(H:Hp)(d dl:Addr)(k:Nat):Prop:=∃ds:List Addr,H dl=some (.lst (ds.map V.ref))/\ds.length<=k/\∀x∈ds,x=d\/Good H x
theorem Dcs.same{H H':Hp}{d dl:Addr}{k:Nat}(h:Dcs H d dl k)(e:Same H H'):Dcs H' d dl k:=by
 obtain⟨ds,h1,h2,h3⟩:=h
 exact⟨ds,e _ _ h1,h2,fun x hx=>(h3 x hx).imp id fun g=>g.keep fun o q=>e _ _ q⟩
theorem Dcs.tp{H H':Hp}{d dl tp:Addr}{k:Nat}{zs:List V}(h:Dcs H d dl k)(e:SameX tp H H')(ht:H tp=some (.lst zs))(n:dl≠tp):Dcs H' d dl k:=by
 obtain⟨ds,h1,h2,h3⟩:=h
 exact⟨ds,e _ _ n h1,h2,fun x hx=>(h3 x hx).imp id fun g=>g.samex e ht⟩
theorem Dcs.put{H:Hp}{d dl:Addr}{k:Nat}(h:Dcs H d dl k)(n:dl≠d)(o:HO):Dcs (upd H d o) d dl k:=by
 obtain⟨ds,h1,h2,h3⟩:=h
 refine⟨ds,by rw[zaf n];exact h1,h2,fun x hx=> ?_⟩
 by_cases z:x=d
 ·exact .inl z
 ·exact(h3 x hx).imp id fun g=>g.keep fun o' q=>by rw[zaf z];exact q
theorem Dcs.mono{H:Hp}{d dl:Addr}{k m:Nat}(h:Dcs H d dl k)(n:k<=m):Dcs H d dl m:=let⟨ds,h1,h2,h3⟩:=h;⟨ds,h1,Nat.le_trans h2 n,h3⟩
theorem one_univ{n:Int}(h0:0<=n)(h4:n<=4):[n]∈univ:=by
 have:n=0\/n=1\/n=2\/n=3\/n=4:=by omega
 rcases this with rfl|rfl|rfl|rfl|rfl<;>decide+kernel
theorem put_good{H:Hp}{x:Addr}{f:List Int->Int}{l:List (List Int)}{k:List Int}{v:Int}(h:H x=some (.dT (putK (setK f l) (k.map Sum.inl) (.int v))))(nd:l.Nodup)(hU:∀s∈l,s∈univ)(hk:k∈univ)(hl:l.length<=16):Good H x:=by
 by_cases c:k∈l
 ·rw[put_old c]at h
  exact⟨_,l,h,nd,hU,by omega⟩
 ·rw[put_new c]at h
  refine⟨_,l++[k],h,?_,fun s hs=> ?_,by rw[List.length_append];exact Nat.succ_le_succ hl⟩
  ·refine List.nodup_append.mpr ⟨nd,by simp,fun a ha b hb e=> ?_⟩
   rw[List.mem_singleton.mp hb]at e
   exact c (e▸ha)
  ·rcases List.mem_append.mp hs with z|z
   ·exact hU s z
   ·rw[List.mem_singleton.mp z];exact hk
theorem Dcs.add{H:Hp}{d dl x:Addr}{k:Nat}{ds:List Addr}(h1:H dl=some (.lst (ds.map V.ref)))(h2:ds.length<=k)(h3:∀x∈ds,x=d\/Good H x)(g:Good H x):Dcs (upd H dl (.lst (ds.map V.ref++[.ref x]))) d dl (k+1):=by
 have e:SameX dl H (upd H dl (.lst (ds.map V.ref++[.ref x]))):=(SameX.refl _ _).upd
 refine⟨ds++[x],by rw[zab,List.map_append];rfl,by rw[List.length_append];exact Nat.succ_le_succ h2,fun y hy=> ?_⟩
 rcases List.mem_append.mp hy with z|z
 ·exact(h3 y z).imp id fun g=>g.samex e h1
 ·rw[List.mem_singleton.mp z]
  exact .inr (g.samex e h1)
end
end Hs
namespace Hs
open PySem L2 HsD
section
variable{P:Program}{w:World}{K:W.Frag}{mg:Str->Option Value}{base:Heap}
theorem pairs_keep{H H':Hp}(k:∀(b:Addr) (xs:List V),SqT K H b xs->SqT K H' b xs):∀{ts:List (Int×Int)} {rs:List V},DVs K H rs (ts.map pairD)->DVs K H' rs (ts.map pairD)
 |[],_,.nil=> .nil
 |p::ts,_,.cons h t=> .cons (by
   cases h with
   |tup h1 h2=>
    refine .tup (k _ _ h1) ?_
    cases h2 with
    |cons a b=>
     cases a with
     |int i=>
      cases b with
      |cons c d=>cases c with
       |int j=>cases d;exact .cons (.int _) (.cons (.int _) .nil)) (pairs_keep k t)
theorem webD'{d a:Addr}{H H':Hp}{kvs:List (List Key×V)}{n:Int}{ts:List (Int×Int)}(h:WebIs K H a n ts)(e:SameX d H H')(hn:H d=some (.dT kvs)):WebV K H' a n ts:=by
 have ht:∀{b:Addr} {xs:List V},SqT K H b xs->SqT K H' b xs:=fun{b xs} hx=>by
  rcases hx with(q|⟨o,q⟩)|q
  ·exact .inl (.inl (e _ _ (ne_of q hn (fun z=>nomatch z)) q))
  ·exact .inl (.inr ⟨o,e _ _ (ne_of q hn (fun z=>nomatch z)) q⟩)
  ·exact .inr q
 obtain⟨t,rs,w1,w2,w3⟩:=h.web
 exact⟨t,rs,ht w1,ht w2,pairs_keep (fun b xs hx=>ht hx) w3⟩
theorem WebIs.dct{d a:Addr}{H H':Hp}{kvs:List (List Key×V)}{n:Int}{ts:List (Int×Int)}(h:WebIs K H a n ts)(e:SameX d H H')(hn:H d=some (.dT kvs)):WebIs K H' a n ts:=⟨webD' h e hn,h.h0,h.h1,h.pk,h.ok⟩
noncomputable def spLawL(T:Addr)(K:W.Frag):Sp:=fun vs H Q _=>∃(a:Addr) (ns:List Int),vs=[.ref a]/\ScrV K H a ns/\Lam H T/\∀H',Q (.bl true) H'
theorem spLawL_of{T:Addr}{H:Hp}{a:Addr}{ns:List Int}(hO:OnlyL T H)(hS:SqL K H a (ns.map V.int)):spLawL T K [.ref a] H (fun v _=>v= .bl true) fun _ _ _=>False:=by
 refine⟨a,ns,rfl,?_,.inl hO.1,fun _=>rfl⟩
 have na:∀xs,H a≠some (.lst xs):=fun xs h=>by
  by_cases e:a=T
  ·rw[e,hO.1]at h;cases h
  ·rcases hO.2 a e with q|⟨o,ys,q⟩
   ·rw[q]at h;cases h
   ·rw[q]at h;cases h
 rcases hS with(h|⟨o,h⟩)|h
 ·exact absurd h (na _)
 ·exact .inl ⟨o,h⟩
 ·exact .inr h
theorem ScrV.tbl{T scr:Addr}{H H':Hp}{ns:List Int}{tb:Array Value}(h:ScrV K H scr ns)(e:SameX T H H')(hn:H T=some (.tbl tb)):ScrV K H' scr ns:=by
 rcases h with⟨o,h⟩|h
 ·exact .inl ⟨o,e _ _ (tbl_ne hn h fun _ z=>nomatch z) h⟩
 ·exact .inr h
theorem zcx:FnScope ["script","start","tape","web","k","hues","floors","dicts","some","other","bent","one"] ["script"] (defScope s_law):=⟨rfl,rfl,rfl,by decide+kernel,rfl,by decide+kernel,by decide+kernel⟩
theorem ok_law{f f1 f2 f3 f4 f5 f6 T:Addr}{fd d1 d2 d3 d4 d5 d6:FuncData}(F:Fun K "law" "law" s_law f fd)(D1:Dfn K mg "_law_atape" zbu ["script","k"] f1 d1)(G1':FnOk P w K mg base CX0 2 f1 d1 ["script","k"] (spTape K))(D2:Dfn K mg "_law_aweb" zcb ["tape","most"] f2 d2)(G2':FnOk P w K mg base CX0 2 f2 d2 ["tape","most"] (spAWeb K))(D3:Dfn K mg "fewest" zdf ["web"] f3 d3)(G3':FnOk P w K mg base CX0 8 f3 d3 ["web"] (spFew K T))(D4:Dfn K mg "_law_ahues_right" zap ["tape","web","hues"] f4 d4)(G4:FnOk P w K mg base CX0 9 f4 d4 ["tape","web","hues"] (spAHues K))(D5:Dfn K mg "_law_adigit" zba ["tape","many"] f5 d5)(G5':FnOk P w K mg base CX0 1 f5 d5 ["tape","many"] (spDig K))(D6:Dfn K mg "_law_afloors_right" zam ["web","floors"] f6 d6)(G6:FnOk P w K mg base CX0 9 f6 d6 ["web","floors"] (spAFlo K))(m_range:mg "range"=none)(m_max:mg "max"=none)(m_min:mg "min"=none)(m_len:mg "len"=none)(m_dict:mg "dict"=none):
  FnOk P w K mg base CX0 10 f fd ["script"] (spLawL T K):=by
 have G1:FnOk P w K mg base CX0 9 f1 d1 ["script","k"] (spTape K):=G1'.mono (by decide)
 have G2:FnOk P w K mg base CX0 9 f2 d2 ["tape","most"] (spAWeb K):=G2'.mono (by decide)
 have G3:FnOk P w K mg base CX0 9 f3 d3 ["web"] (spFew K T):=G3'.mono (by decide)
 have G5:FnOk P w K mg base CX0 9 f5 d5 ["tape","many"] (spDig K):=G5'.mono (by decide)
 refine F.ok zcx (fun vs H Q E h=> ?_) (fun cdv A outer s H vs Q E hr h=> ?_)
 ·obtain⟨scr,ns,rfl,_⟩:=h
  rfl
 obtain⟨scr,ns,rfl,hS,hL,q⟩:=h
 refine⟨_,(zae (zcl PassesOwn.never rfl (pi_range2 rfl m_range (zaa zag (zaa (zak (call_max2 rfl) rfl m_max (by decide+kernel) (zaa zag (zaa (zak (call_min2 rfl) rfl m_min (by decide+kernel) (zaa zag (zaa (zak zbx rfl m_len PySem.boot_len (zaa (pv 0) zac)) zac))) zac))) zac))) (zal (i:=1) zcx.nd rfl (Or.inl rfl)) (zae (zan (i:=2) zcx.nd rfl (Or.inr rfl) (zaj G1 hr rfl D1.m D1.F.kp D1.b .nil pass0 (zaa (pv 0) (zaa (pv 1) zac)))) (zae (zan (i:=3) zcx.nd rfl (Or.inl rfl) (zaj G2 hr rfl D2.m D2.F.kp D2.b .nil pass0 (zaa (pv 2) (zaa zag zac)))) (zae (ps_asg (zaj G3 hr rfl D3.m D3.F.kp D3.b .nil pass0 (zaa (pv 3) zac)) (pg_tup rfl (pgs_cons (zal (i:=4) zcx.nd rfl (Or.inl rfl)) (pgs_cons (zal (i:=5) zcx.nd rfl (Or.inl rfl)) (pgs_cons (zal (i:=6) zcx.nd rfl (Or.inr rfl)) pgs_nil))))) (zae (zdd (zdk (zdg (zaj G4 hr rfl D4.m D4.F.kp D4.b .nil pass0 (zaa (pv 2) (zaa (pv 3) (zaa (pv 5) zac)))))) (zah (zao pe_bl)) zbg) (zae (zan (i:=7) zcx.nd rfl (Or.inl rfl) (zch (zaa (pv 6) (zaa (pe_cut cD ?w0 (zbh (call_dictP rfl hr.units) rfl m_dict (by decide+kernel) (zaa (pe_thaw (zbk (own:=["some"]) (caps:=[]) (ix:=[]) rfl (pi_keys (pv 6)) rfl rfl .nil (fun _ _ _ _ _=>(zal (i:=0) (show(["some"]:List Str).Nodup from by decide+kernel) rfl (Or.inl rfl))) (fun _ _ _ _ _=>zcf) (fun _ _ _ _ _=>(zcg (zaa (pv 0) (zaa zag zac)))))) zac))) (zaa pe_dnewT zac))))) (zae (zcy (pe_bm PySem.F.plainAttrs_list PySem.F.slot_list_append PySem.F.type_list_append zda (pv 7) (zaa (pe_cut cD ?w1 (zbh (call_dictP rfl hr.units) rfl m_dict (by decide+kernel) (zaa (pe_thaw (zbk (own:=["some"]) (caps:=["floors"]) (ix:=[6]) rfl (pi_keys (pv 6)) rfl rfl (.cons rfl rfl .nil) (fun _ _ _ _ _=>(zal (i:=0) (show(["some","floors"]:List Str).Nodup from by decide+kernel) rfl (Or.inl rfl))) (fun _ _ _ _ _=>zcf) (fun _ _ _ _ _=>(zcg (zaa (pv 0) (zaa (zbd zcz (zcs (hu_of hr) (pv 1) (pv 0) (fun _ _=>rfl)) zag) zac)))))) zac))) zac))) (zae (zcy (pe_bm PySem.F.plainAttrs_list PySem.F.slot_list_append PySem.F.type_list_append zda (pv 7) (zaa (pe_cut cD ?w2 (zbh (call_dictP rfl hr.units) rfl m_dict (by decide+kernel) (zaa (pe_thaw (zbk (own:=["some"]) (caps:=["tape"]) (ix:=[2]) rfl (pi_keys (pv 6)) rfl rfl (.cons rfl rfl .nil) (fun _ _ _ _ _=>(zal (i:=0) (show(["some","tape"]:List Str).Nodup from by decide+kernel) rfl (Or.inl rfl))) (fun _ _ _ _ _=>zcf) (fun _ _ _ _ _=>(zcg (zaa (pv 0) (zaa (zaj G5 hr rfl D5.m D5.F.kp D5.b .nil pass0 (zaa (pv 1) (zaa zag zac))) zac)))))) zac))) zac))) (zae (ps_thaw (zcl PassesOwn.never rfl (pi_keys (pv 6)) (zal (i:=8) zcx.nd rfl (Or.inl rfl)) (zae (zcl PassesOwn.never rfl (zby (zch (zaa (zbd zcz (zcs (hu_of hr) (pv 6) (pv 8) (fun _ _=>rfl)) zag) (zaa (zbd op_sub (zcs (hu_of hr) (pv 6) (pv 8) (fun _ _=>rfl)) zag) zac)))) (zal (i:=9) zcx.nd rfl (Or.inl rfl)) (zae (zan (i:=10) zcx.nd rfl (Or.inl rfl) (zbh call_dictT rfl m_dict (by decide+kernel) (zaa (pv 6) zac))) (zae (ps_dput (hu_of hr) (pv 10) (pv 8) (pv 9) rfl) (zah (zcy (pe_bm PySem.F.plainAttrs_list PySem.F.slot_list_append PySem.F.type_list_append zda (pv 7) (zaa (pv 10) zac))))))) (zae (zan (i:=10) zcx.nd rfl (Or.inl rfl) (zbh call_dictT rfl m_dict (by decide+kernel) (zaa (pv 6) zac))) (zae (zcy (pe_bm PySem.F.plainAttrs_dict PySem.F.slot_dict_pop PySem.F.type_dict_pop (mt_popT hr.units) (pv 10) (zaa (pv 8) zac))) (zae (zcy (pe_bm PySem.F.plainAttrs_list PySem.F.slot_list_append PySem.F.type_list_append zda (pv 7) (zaa (pv 10) zac))) (zae (zan (i:=10) zcx.nd rfl (Or.inl rfl) (zbh call_dictT rfl m_dict (by decide+kernel) (zaa (pv 10) zac))) (zae (ps_dput (hu_of hr) (pv 10) (zbz ix_list (zch (zaa (zcg (zaa (zbz zcj (pv 3) zag (fun _ _=>rfl)) zac)) (zaa (zcg (zaa zag (zaa zag zac))) (zaa (zcg (zaa zag (zaa zag zac))) zac)))) (zbd op_mod (zak zbx rfl m_len PySem.boot_len (zaa (pv 8) zac)) zag) (fun _ _=>rfl)) (zcs (hu_of hr) (pv 6) (pv 8) (fun _ _=>rfl)) rfl) (zah (zcy (pe_bm PySem.F.plainAttrs_list PySem.F.slot_list_append PySem.F.type_list_append zda (pv 7) (zaa (pv 10) zac)))))))))))) (zae (zan (i:=10) zcx.nd rfl (Or.inl rfl) (zbh call_dictT rfl m_dict (by decide+kernel) (zaa (pv 6) zac))) (zae (ps_dput (hu_of hr) (pv 10) (zcg (zaa zag (zaa zag zac))) zag rfl) (zah (zcl PassesOwn.never rfl (zby (zbd op_cat (pv 7) (zch (zaa (pv 10) zac)))) (zal (i:=11) zcx.nd rfl (Or.inl rfl)) (zah (zdd (zdk (zdg (zaj G6 hr rfl D6.m D6.F.kp D6.b .nil pass0 (zaa (pv 3) (zaa (pv 11) zac))))) (zah (zao pe_bl)) zbg))))))))))))))) (zah (zao pe_bl))),?_⟩
 case w0=>
  rintro σ H Q ⟨v0,v1,v3,v4,v5,v7,v8,v9,v10,v11,tp,d,t,f,l,rfl,hTp,hd,nd,hl16,q⟩
  refine⟨d,_,hd,_,rfl,d,_,rfl,hd,fun hz o=> ?_⟩
  have nd0:d≠tp:=ne_of hd hTp (fun z=>nomatch z)
  refine comp_keys (d:=d) (o:=o) (kvs:=setK f l) (fun i acc σ H'=>∃(qs:List (Addr×Addr×Int)) (t':Int),acc=qs.map (fun q=>V.ref q.1)/\qs.length=i/\Prs l H' qs/\SameX tp (upd H d (.frz o (.dT (setK f l)))) H'/\H' tp=some (.lst [.int t'])/\∃o,σ=[o]) ⟨[],t,rfl,rfl,fun j q h=>by simp at h,SameX.refl _ _,by rw[zaf (Ne.symm nd0)];exact hTp,_,rfl⟩ (fun i acc σ H' _ p=> ?_) (fun i acc σ H' _ p=> ?_) hz (fun i b k v acc σ H' hk p hb=> ?_) (fun acc σ H' p=> ?_)
  ·obtain⟨qs,t',_,_,_,x,_⟩:=p
   exact x _ _ nd0 zab
  ·obtain⟨qs,t',rfl,e,_⟩:=p
   rw[List.length_map];omega
  ·obtain⟨qs,t',rfl,hq,hQ,x,ht,o',rfl⟩:=p
   unfold setK at hk
   rw[List.getElem?_map]at hk
   cases es:l[i]? with
   |none=>rw[es]at hk;cases hk
   |some s=>
    rw[es]at hk
    cases hk
    have hdf:=x _ _ nd0 zab
    have G:=DGet.f (k:=s.map Sum.inl) hdf hb
    rw[zav,if_pos (List.mem_of_getElem? es)]at G
    rw[keyV]at hb
    refine⟨_,rfl,(by show 2<=sizeLine;decide),fun p1 hp1=> ?_⟩
    have np:p1≠tp:=none_ne' ht hp1
    exact⟨qs++[(p1,b,0)],_,by rw[List.map_append];rfl,by rw[List.length_append,hq];rfl,hQ.add hq es (SameX.refl _ _) ht hb hp1,fun c u nc e=>by
     have e4:=(SameX.refl _ _) c u nc (x c u nc e)
     rw[zaf (zai e4 hp1)];exact e4,by rw[zaf np.symm];exact ht,_,rfl⟩
  ·obtain⟨qs,t',rfl,hq,hQ,x,ht,o',rfl⟩:=p
   intro p1 hp1
   have hdf:=x _ _ nd0 zab
   have np:d≠p1:=fun z=>by rw[<-z,hdf]at hp1;cases hp1
   have np2:p1≠tp:=none_ne' ht hp1
   refine⟨o,by rw[zaf np];exact hdf,?_⟩
   rw[zbn]at hq
   refine prs_dict (tp:=tp) (H:=H) (t':=t') nd hl16 hq (hQ.keep fun c xs e=> ?_) (by rw[zaf np.symm,zab]) (fun c u nc e=> ?_) ⟨_,hTp⟩ (by rw[zaf nd0.symm,zaf np2.symm];exact ht) q
   ·rw[zaf (ne_of e hdf (fun z=>nomatch z)),zaf (zai e hp1)];exact e
   ·by_cases z:c=d
    ·subst z
     rw[hd]at e
     cases e
     exact zab
    ·have e4:=x c u nc (by rw[zaf z];exact e)
     rw[zaf z,zaf (zai e4 hp1)];exact e4
 case w1=>
  rintro σ H Q ⟨v0,v1,v3,v4,v5,v7,v8,v9,v10,v11,tp,d,t,f,l,rfl,hTp,hd,nd,hl16,q⟩
  refine⟨d,_,hd,_,rfl,d,_,rfl,hd,fun hz o=> ?_⟩
  have nd0:d≠tp:=ne_of hd hTp (fun z=>nomatch z)
  refine comp_keys (d:=d) (o:=o) (kvs:=setK f l) (fun i acc σ H'=>∃(qs:List (Addr×Addr×Int)) (t':Int),acc=qs.map (fun q=>V.ref q.1)/\qs.length=i/\Prs l H' qs/\SameX tp (upd H d (.frz o (.dT (setK f l)))) H'/\H' tp=some (.lst [.int t'])/\∃o,σ=[o,some (.ref d)]) ⟨[],t,rfl,rfl,fun j q h=>by simp at h,SameX.refl _ _,by rw[zaf (Ne.symm nd0)];exact hTp,_,rfl⟩ (fun i acc σ H' _ p=> ?_) (fun i acc σ H' _ p=> ?_) hz (fun i b k v acc σ H' hk p hb=> ?_) (fun acc σ H' p=> ?_)
  ·obtain⟨qs,t',_,_,_,x,_⟩:=p
   exact x _ _ nd0 zab
  ·obtain⟨qs,t',rfl,e,_⟩:=p
   rw[List.length_map];omega
  ·obtain⟨qs,t',rfl,hq,hQ,x,ht,o',rfl⟩:=p
   unfold setK at hk
   rw[List.getElem?_map]at hk
   cases es:l[i]? with
   |none=>rw[es]at hk;cases hk
   |some s=>
    rw[es]at hk
    cases hk
    have hdf:=x _ _ nd0 zab
    have G:=DGet.f (k:=s.map Sum.inl) hdf hb
    rw[zav,if_pos (List.mem_of_getElem? es)]at G
    rw[keyV]at hb
    refine⟨_,rfl,_,rfl,_,rfl,d,_,rfl,G,_,_,rfl,rfl,(by show 2<=sizeLine;decide),fun p1 hp1=> ?_⟩
    have np:p1≠tp:=none_ne' ht hp1
    exact⟨qs++[(p1,b,_)],_,by rw[List.map_append];rfl,by rw[List.length_append,hq];rfl,hQ.add hq es (SameX.refl _ _) ht hb hp1,fun c u nc e=>by
     have e4:=(SameX.refl _ _) c u nc (x c u nc e)
     rw[zaf (zai e4 hp1)];exact e4,by rw[zaf np.symm];exact ht,_,rfl⟩
  ·obtain⟨qs,t',rfl,hq,hQ,x,ht,o',rfl⟩:=p
   intro p1 hp1
   have hdf:=x _ _ nd0 zab
   have np:d≠p1:=fun z=>by rw[<-z,hdf]at hp1;cases hp1
   have np2:p1≠tp:=none_ne' ht hp1
   refine⟨o,by rw[zaf np];exact hdf,?_⟩
   rw[zbn]at hq
   refine prs_dict (tp:=tp) (H:=H) (t':=t') nd hl16 hq (hQ.keep fun c xs e=> ?_) (by rw[zaf np.symm,zab]) (fun c u nc e=> ?_) ⟨_,hTp⟩ (by rw[zaf nd0.symm,zaf np2.symm];exact ht) q
   ·rw[zaf (ne_of e hdf (fun z=>nomatch z)),zaf (zai e hp1)];exact e
   ·by_cases z:c=d
    ·subst z
     rw[hd]at e
     cases e
     exact zab
    ·have e4:=x c u nc (by rw[zaf z];exact e)
     rw[zaf z,zaf (zai e4 hp1)];exact e4
 case w2=>
  rintro σ H Q ⟨v0,v1,v3,v4,v5,v7,v8,v9,v10,v11,tp,d,t,f,l,rfl,hTp,hd,nd,hl16,q⟩
  refine⟨d,_,hd,_,rfl,d,_,rfl,hd,fun hz o=> ?_⟩
  have nd0:d≠tp:=ne_of hd hTp (fun z=>nomatch z)
  refine comp_keys (d:=d) (o:=o) (kvs:=setK f l) (fun i acc σ H'=>∃(qs:List (Addr×Addr×Int)) (t':Int),acc=qs.map (fun q=>V.ref q.1)/\qs.length=i/\Prs l H' qs/\SameX tp (upd H d (.frz o (.dT (setK f l)))) H'/\H' tp=some (.lst [.int t'])/\∃o,σ=[o,some (.ref tp)]) ⟨[],t,rfl,rfl,fun j q h=>by simp at h,SameX.refl _ _,by rw[zaf (Ne.symm nd0)];exact hTp,_,rfl⟩ (fun i acc σ H' _ p=> ?_) (fun i acc σ H' _ p=> ?_) hz (fun i b k v acc σ H' hk p hb=> ?_) (fun acc σ H' p=> ?_)
  ·obtain⟨qs,t',_,_,_,x,_⟩:=p
   exact x _ _ nd0 zab
  ·obtain⟨qs,t',rfl,e,_⟩:=p
   rw[List.length_map];omega
  ·obtain⟨qs,t',rfl,hq,hQ,x,ht,o',rfl⟩:=p
   unfold setK at hk
   rw[List.getElem?_map]at hk
   cases es:l[i]? with
   |none=>rw[es]at hk;cases hk
   |some s=>
    rw[es]at hk
    cases hk
    have hdf:=x _ _ nd0 zab
    have G:=DGet.f (k:=s.map Sum.inl) hdf hb
    rw[zav,if_pos (List.mem_of_getElem? es)]at G
    rw[keyV]at hb
    refine⟨_,rfl,_,rfl,tp,t',3,rfl,ht,by decide,by decide,fun r t2 _ _=>⟨(by show 2<=sizeLine;decide),fun p1 hp1=> ?_⟩⟩
    have np:p1≠tp:=none_ne' zab hp1
    exact⟨qs++[(p1,b,r)],_,by rw[List.map_append];rfl,by rw[List.length_append,hq];rfl,hQ.add hq es ((SameX.refl _ _).upd (o:= .lst [.int t2])) ht hb hp1,fun c u nc e=>by
     have e4:=((SameX.refl _ _).upd (o:= .lst [.int t2])) c u nc (x c u nc e)
     rw[zaf (zai e4 hp1)];exact e4,by rw[zaf np.symm];exact zab,_,rfl⟩
  ·obtain⟨qs,t',rfl,hq,hQ,x,ht,o',rfl⟩:=p
   intro p1 hp1
   have hdf:=x _ _ nd0 zab
   have np:d≠p1:=fun z=>by rw[<-z,hdf]at hp1;cases hp1
   have np2:p1≠tp:=none_ne' ht hp1
   refine⟨o,by rw[zaf np];exact hdf,?_⟩
   rw[zbn]at hq
   refine prs_dict (tp:=tp) (H:=H) (t':=t') nd hl16 hq (hQ.keep fun c xs e=> ?_) (by rw[zaf np.symm,zab]) (fun c u nc e=> ?_) ⟨_,hTp⟩ (by rw[zaf nd0.symm,zaf np2.symm];exact ht) q
   ·rw[zaf (ne_of e hdf (fun z=>nomatch z)),zaf (zai e hp1)];exact e
   ·by_cases z:c=d
    ·subst z
     rw[hd]at e
     cases e
     exact zab
    ·have e4:=x c u nc (by rw[zaf z];exact e)
     rw[zaf z,zaf (zai e4 hp1)];exact e4
 refine⟨_,rfl,scr,_,rfl,.inl hS.sq,fun hz=>⟨_,_,rfl,_,_,rfl,_,_,rfl,?_⟩⟩
 obtain⟨tb0,ht0⟩:=hL.at
 obtain⟨m,em,hm0,hm1⟩:∃m:Int,(if(if((ns.map V.int).length:Int)<3 then((ns.map V.int).length:Int)else 3)>1 then(if((ns.map V.int).length:Int)<3 then((ns.map V.int).length:Int)else 3)else 1)=m/\0<=m/\m<=3:=by
  refine⟨_,rfl,?_,?_⟩
  ·split
   ·split<;>omega
   ·omega
  ·split
   ·split<;>omega
   ·omega
 rw[em]
 refine⟨⟨by decide,by decide,by omega,by omega⟩,?_⟩
 refine zdc (n:=(m-0).toNat) (fun i σ H'=>SameX T H H'/\Lam H' T/\∃o1 o2 o3 o4 o5 o6 o7 o8 o9 o10 o11,σ=[some (.ref scr),o1,o2,o3,o4,o5,o6,o7,o8,o9,o10,o11]) ⟨SameX.refl _ _,hL,_,_,_,_,_,_,_,_,_,_,_,rfl⟩ (fun i σ H1 hi p=> ?_) (fun σ H1 p=>q _)
 obtain⟨s1,hL1,o1,o2,o3,o4,o5,o6,o7,o8,o9,o10,o11,rfl⟩:=p
 have hS1:=ScrV.tbl hS s1 ht0
 refine⟨_,rfl,_,rfl,scr,ns,0+(i:Int),rfl,hS1,by omega,fun tp H2 t s2 htp htp0=> ?_⟩
 refine⟨_,rfl,tp,t,4,rfl,htp,by decide,by decide,fun a n ts H3 t3 x3 htp3 hW hn4=> ?_⟩
 have s13:=Same.over s2 htp0 x3
 have hL3:=hL1.same s13
 obtain⟨tb3,ht3⟩:=hL3.at
 refine⟨_,rfl,a,n,ts,rfl,hW,hL3,fun r h d hs H4 x4 hL4 hr4 hh HO hd hd0=> ?_⟩
 refine⟨r,_,rfl,SqT.of hr4,rfl,_,_,rfl,_,_,rfl,_,_,rfl,rfl,?_⟩
 have htp4:=x4 _ _ (tbl_ne ht3 htp3 fun _ z=>nomatch z) htp3
 have S4:Sta K H1 H4 T tp a d n ts:=⟨(s13.x T).trans x4,hL4,⟨t3,htp4⟩,htp0,hW.tbl x4 ht3,hd⟩
 have hn0:=hW.h0
 refine⟨_,rfl,_,rfl,_,rfl,tp,a,h,t3,n,ts,hs,rfl,htp4,S4.web,SqT.of hh,by rw[HO.len];omega,fun H5 t5 x5 htp5=>⟨_,rfl,?_⟩⟩
 refine iteF ?_
 have S5:=S4.tp x5 htp5
 have l16:(allS n.toNat).length<=16:=by rw[zbq];exact Nat.pow_le_pow_right (n:=2) (by decide) (show n.toNat<=4 by omega)
 have U:∀s∈allS n.toNat,s∈univ:=allS_univ (by omega)
 have ND:=zcw n.toNat
 clear hr4 hh HO hd hd0 x4 hL4 htp4 S4 x5 ht3 hL3 s13 htp3 x3 htp s2 hS1 em hm0 hm1 hi hz
 refine⟨_,rfl,_,_,_,_,_,_,_,_,_,_,tp,d,t5,flo ts,allS n.toNat,rfl,htp5,S5.dv,ND,l16,fun p1 f1 H6 t6 x6 htp6 hp1 hP1=>fun p2 hp2=>⟨(by show 3<=sizeLine;decide),fun dl hdl=> ?_⟩⟩
 have S6:=S5.tp x6 htp6
 have s7:=zad hp2 (.dT [])
 have hP27:(upd H6 p2 (.dT [])) p2=some (.dT (setK (fun _=>0) [])):=zab
 have hP17:=s7 _ _ hP1
 have S7:=S6.same s7
 try dsimp only at hP27 hP17 S7 hdl
 generalize upd H6 p2 (.dT [])=H7 at *
 have s8:=zad hdl (.lst [.ref d,.ref p1,.ref p2])
 have S8:=S7.same s8
 have dl0:H1 dl=none:=by
  obtain⟨tb7,ht7⟩:=S7.lam.at
  exact S7.old.free (none_ne' ht7 hdl) hdl
 have dltp:dl≠tp:=by
  obtain⟨t7,z⟩:=S7.tpv
  exact none_ne' z hdl
 have dld:dl≠d:=none_ne' S7.dv hdl
 have hdl8:(upd H7 dl (.lst [.ref d,.ref p1,.ref p2])) dl=some (.lst ([d,p1,p2].map V.ref)):=zab
 have D8:Dcs (upd H7 dl (.lst [.ref d,.ref p1,.ref p2])) d dl 3:=⟨[d,p1,p2],hdl8,Nat.le_refl _,fun x hx=>by
  rcases List.mem_cons.mp hx with z|z
  ·exact .inl z
  ·refine .inr ?_
   rcases List.mem_cons.mp z with z|z
   ·rw[z];exact⟨f1,_,s8 _ _ hP17,ND,U,by omega⟩
   ·rw[List.mem_singleton.mp z];exact⟨fun _=>0,[],s8 _ _ hP27,List.nodup_nil,fun k hk=>(nomatch hk),by decide⟩⟩
 try dsimp only at S8 D8
 generalize upd H7 dl (.lst [.ref d,.ref p1,.ref p2])=H8 at *
 clear hdl8 s8 hP27 hP17 hp2 s7 S7 hdl S6 hp1 hP1 x6 htp6 S5 htp5
 obtain⟨t8,ht8⟩:=S8.tpv
 obtain⟨ds8,dz8, -, -⟩:=id D8
 refine⟨_,rfl,.inl ⟨rfl,_,SqL.of dz8⟩,_,_,_,_,_,_,_,_,_,_,tp,d,t8,flo ts,allS n.toNat,rfl,ht8,S8.dv,ND,l16,fun p9 f9 H9 t9 x9 htp9 hp9 hP9=> ?_⟩
 have S9:=S8.tp x9 htp9
 have D9:=D8.tp x9 ht8 dltp
 obtain⟨ds9,z1,z2,z3⟩:=id D9
 have gd9:Good H9 p9:=⟨f9,_,hP9,ND,U,by omega⟩
 refine⟨dl,_,_,rfl,rfl,z1,(by rw[List.length_map,sizeLine_eq];omega),?_⟩
 have x10:SameX dl H9 (upd H9 dl (.lst (ds9.map V.ref++[.ref p9]))):=(SameX.refl _ _).upd
 have S10:=S9.lst x10 z1 dl0 dltp
 have D10:Dcs _ d dl (3+1):=Dcs.add z1 z2 z3 gd9
 try dsimp only at S10 D10
 generalize upd H9 dl (.lst (ds9.map V.ref++[.ref p9]))=H10 at *
 clear x10 gd9 z1 z2 z3 ds9 D9 S9 hP9 hp9 htp9 x9 dz8 ds8 ht8 S8 D8
 obtain⟨t10,ht10⟩:=S10.tpv
 obtain⟨ds10,dz10, -, -⟩:=id D10
 refine⟨_,rfl,.inl ⟨rfl,_,SqL.of dz10⟩,_,_,_,_,_,_,_,_,_,_,tp,d,t10,flo ts,allS n.toNat,rfl,ht10,S10.dv,ND,l16,fun p11 f11 H11 t11 x11 htp11 hp11 hP11=> ?_⟩
 have S11:=S10.tp x11 htp11
 have D11:=D10.tp x11 ht10 dltp
 obtain⟨ds11,z1,z2,z3⟩:=id D11
 have gd11:Good H11 p11:=⟨f11,_,hP11,ND,U,by omega⟩
 refine⟨dl,_,_,rfl,rfl,z1,(by rw[List.length_map,sizeLine_eq];omega),?_⟩
 have x12:SameX dl H11 (upd H11 dl (.lst (ds11.map V.ref++[.ref p11]))):=(SameX.refl _ _).upd
 have S12:=S11.lst x12 z1 dl0 dltp
 have D12:Dcs _ d dl (3+1+1):=Dcs.add z1 z2 z3 gd11
 try dsimp only at S12 D12
 generalize upd H11 dl (.lst (ds11.map V.ref++[.ref p11]))=H12 at *
 clear x12 gd11 z1 z2 z3 ds11 D11 S11 hP11 hp11 htp11 x11 dz10 ds10 ht10 S10 D10
 obtain⟨ds12,dz12, -, -⟩:=id D12
 refine⟨d,_,S12.dv,_,rfl,d,_,rfl,S12.dv,fun hz o=> ?_⟩
 generalize hF:upd H12 d (.frz o (.dT (setK (flo ts) (allS n.toNat))))=F
 have hdF:F d=some (.frz o (.dT (setK (flo ts) (allS n.toNat)))):=by rw[<-hF];exact zab
 have wF:WebIs K F a n ts:=by
  have e:SameX d H12 F:=by rw[<-hF];exact(SameX.refl _ _).upd
  exact WebIs.dct S12.web e S12.dv
 have DF:Dcs F d dl 5:=by rw[<-hF];exact D12.put dld _
 have hdlF:∃zs,F dl=some (.lst zs):=⟨_,by rw[<-hF,zaf dld];exact dz12⟩
 obtain⟨zsF,hdlF⟩:=hdlF
 refine for_keys (d:=d) (o:=o) (kvs:=setK (flo ts) (allS n.toNat)) (fun i σ H'=>SameX dl F H'/\Dcs H' d dl (5+4*i)/\∃o1 o4 o5 o8 o9 o10 o11,σ=[some (.ref scr),o1,some (.ref tp),some (.ref a),o4,o5,some (.ref d),some (.ref dl),o8,o9,o10,o11]) ⟨SameX.refl _ _,DF,_,_,_,_,_,_,_,rfl⟩ (fun i σ H' _ p=>p.1 _ _ dld.symm hdF) (fun i b k v σ Ha hk p hb=> ?_) (fun σ Ha p=> ?_)
 ·obtain⟨xa,Da,o1,o4,o5,o8,o9,o10,o11,rfl⟩:=p
  unfold setK at hk
  rw[List.getElem?_map]at hk
  cases es:(allS n.toNat)[i]? with
  |none=>rw[es]at hk;cases hk
  |some s=>
   rw[es]at hk
   cases hk
   have hi16:i<16:=by have:=(List.getElem?_eq_some_iff.mp es).1;omega
   have ms:s∈allS n.toNat:=List.mem_of_getElem? es
   have ls:s.length<=4:=by have:=zdi n.toNat s ms;omega
   have hda:=xa _ _ dld.symm hdF
   have Ga:=DGet.f (k:=s.map Sum.inl) hda hb
   rw[zav,if_pos ms]at Ga
   have wa:=wF.samex xa hdlF
   refine⟨_,rfl,_,rfl,d,_,rfl,Ga,_,_,rfl,rfl,_,rfl,_,rfl,d,_,rfl,Ga,_,_,rfl,rfl,(by show 2<=sizeLine;decide),fun p5 hp5=> ?_⟩
   have sb:=zad hp5 (.lst (([flo ts s+1,flo ts s-1]:List Int).map V.int))
   have hp5':(upd Ha p5 (.lst (([flo ts s+1,flo ts s-1]:List Int).map V.int))) p5=some (.lst (([flo ts s+1,flo ts s-1]:List Int).map V.int)):=zab
   refine⟨p5,([flo ts s+1,flo ts s-1]:List Int).map V.int,rfl,SqL.of hp5',fun hz=> ?_⟩
   have Db:=Da.same sb
   have xb:=xa.trans (sb.x dl)
   have hbb:=sb _ _ hb
   obtain⟨dsa,dza,_,_⟩:=id Da
   have n5:p5≠dl:=none_ne' dza hp5
   obtain⟨dsb,dzb,_,_⟩:=id Db
   generalize hHb:upd Ha p5 (.lst (([flo ts s+1,flo ts s-1]:List Int).map V.int))=Hb at *
   refine for_list (K:=K) (a:=p5) (xs:=([flo ts s+1,flo ts s-1]:List Int).map V.int) (fun j σ H'=>SameX dl Hb H'/\Dcs H' d dl (5+4*i+j)/\∃o9 o10,σ=[some (.ref scr),o1,some (.ref tp),some (.ref a),o4,o5,some (.ref d),some (.ref dl),some (.ref b),o9,o10,o11]) ⟨?_,?_,_,_,rfl⟩ (fun j σ H' _ p=>p.1.sq n5 (SqL.of hp5')) (fun j x σ Hc hx p=> ?_) (fun σ Hc p=> ?_)
   ·rw[<-hHb];exact SameX.refl _ _
   ·have z:=Db
    rw[<-hHb]at z
    exact z
   ·obtain⟨xc,Dc,o9,o10,rfl⟩:=p
    rw[List.getElem?_map]at hx
    cases ex:([flo ts s+1,flo ts s-1]:List Int)[j]? with
    |none=>rw[ex]at hx;cases hx
    |some y=>
     rw[ex]at hx
     cases hx
     have hj:j<2:=(List.getElem?_eq_some_iff.mp ex).1
     have hdc:=(xb.trans xc) _ _ dld.symm hdF
     have hbc:=xc _ _ (ne_of hbb dzb (fun z=>nomatch z)) hbb
     refine⟨_,rfl,d,_,rfl,.inr ⟨o,hdc⟩,hash_ok ND U,fun q0 hq0=> ?_⟩
     refine⟨_,rfl,_,rfl,_,rfl,q0,_,rfl,DPut.t (k:=s.map Sum.inl) (v:= .int y) zab (zad hq0 _ _ _ hbc) (by rw[zbn,sizeLine_eq];omega),?_⟩
     rw[upd_upd]
     have se:=zad hq0 (.dT (putK (setK (flo ts) (allS n.toNat)) (s.map Sum.inl) (.int y)))
     have ge:Good (upd Hc q0 (.dT (putK (setK (flo ts) (allS n.toNat)) (s.map Sum.inl) (.int y)))) q0:=put_good zab ND U (U s ms) l16
     have De:=Dc.same se
     try dsimp only at se ge De
     generalize upd Hc q0 (.dT (putK (setK (flo ts) (allS n.toNat)) (s.map Sum.inl) (.int y)))=He at *
     obtain⟨ds,z1,z2,z3⟩:=De
     refine⟨_,rfl,.inl ⟨rfl,_,SqL.of z1⟩,_,rfl,dl,_,_,rfl,rfl,z1,(by rw[List.length_map,sizeLine_eq];omega),?_⟩
     exact⟨xc.trans ((se.x dl).trans ((SameX.refl _ _).upd)),Dcs.add z1 z2 z3 ge,_,_,rfl⟩
   ·obtain⟨xc,Dc,o9',o10',rfl⟩:=p
    have Dc':Dcs Hc d dl (5+4*i+2):=Dc
    have hdc:=(xb.trans xc) _ _ dld.symm hdF
    have hbc:=xc _ _ (ne_of hbb dzb (fun z=>nomatch z)) hbb
    have xFc:=xb.trans xc
    clear Dc
    refine⟨_,rfl,d,_,rfl,.inr ⟨o,hdc⟩,hash_ok ND U,fun q0 hq0=> ?_⟩
    refine⟨_,rfl,.inr (.inr (.inl ⟨rfl,.inr ⟨_,zab⟩⟩)),_,rfl,q0,b,_,s.map Sum.inl,.int (flo ts s),rfl,rfl,zab,zad hq0 _ _ _ hbc,by rw[zav,if_pos ms],?_⟩
    rw[upd_upd,drop_setK]
    have Lnd:((allS n.toNat).filter fun x=>decide (x≠s)).Nodup:=ND.filter _
    have LU:∀k∈(allS n.toNat).filter (fun x=>decide (x≠s)),k∈univ:=fun k hk=>U k (List.mem_filter.mp hk).1
    have Ll:((allS n.toNat).filter fun x=>decide (x≠s)).length<=16:=Nat.le_trans (List.length_filter_le _ _) l16
    generalize (allS n.toNat).filter (fun x=>decide (x≠s))=L at *
    have se:=zad hq0 (.dT (setK (flo ts) L))
    have he0:(upd Hc q0 (.dT (setK (flo ts) L))) q0=some (.dT (setK (flo ts) L)):=zab
    have De:=Dc'.same se
    try dsimp only at se he0 De
    generalize upd Hc q0 (.dT (setK (flo ts) L))=He at *
    obtain⟨ds,z1,z2,z3⟩:=De
    refine⟨_,rfl,.inl ⟨rfl,_,SqL.of z1⟩,_,rfl,dl,_,_,rfl,rfl,z1,(by rw[List.length_map,sizeLine_eq];omega),?_⟩
    have xf:SameX dl He (upd He dl (.lst (ds.map V.ref++[.ref q0]))):=(SameX.refl _ _).upd
    have hq0f:=xf _ _ (ne_of he0 z1 (fun z=>nomatch z)) he0
    have Df:Dcs (upd He dl (.lst (ds.map V.ref++[.ref q0]))) d dl (5+4*i+2+1):=Dcs.add z1 z2 z3 ⟨_,L,he0,Lnd,LU,by omega⟩
    have xFf:=xFc.trans ((se.x dl).trans xf)
    have hbf:=xf _ _ (ne_of (se _ _ hbc) z1 (fun z=>nomatch z)) (se _ _ hbc)
    clear xf z1 z2 z3
    try dsimp only at hq0f Df xFf hbf
    generalize upd He dl (.lst (ds.map V.ref++[.ref q0]))=Hf at *
    refine⟨_,rfl,q0,_,rfl,.inl hq0f,hash_ok Lnd LU,fun q1 hq1=> ?_⟩
    have sg:=zad hq1 (.dT (setK (flo ts) L))
    have hq1g:(upd Hf q1 (.dT (setK (flo ts) L))) q1=some (.dT (setK (flo ts) L)):=zab
    have Dg:=Df.same sg
    have xFg:=xFf.trans (sg.x dl)
    have hbg:=sg _ _ hbf
    try dsimp only at sg hq1g Dg xFg hbg
    generalize hHg:upd Hf q1 (.dT (setK (flo ts) L))=Hg at *
    have hdg:=xFg _ _ dld.symm hdF
    have Gg:=DGet.f (k:=s.map Sum.inl) hdg (by rw[keyV];rw[keyV]at hbg;exact hbg)
    rw[zav,if_pos ms]at Gg
    obtain⟨tw,rw',w1,w2,w3⟩:=id (wF.samex xFg hdlF).web
    refine⟨_,rfl,_,rfl,d,_,rfl,Gg,_,rfl,_,rfl,a,_,_,.int n,rfl,rfl,w1,rfl,(by show 1<=sizeLine;decide),fun t1 ht1=> ?_⟩
    have u1:=zad ht1 (.tup [.int n])
    have k1:(upd Hg t1 (.tup [.int n])) t1=some (.tup (([n]:List Int).map V.int)):=zab
    try dsimp only at u1 k1
    generalize upd Hg t1 (.tup [.int n])=Hh at *
    refine⟨(by show 2<=sizeLine;decide),fun t2 ht2=> ?_⟩
    have u2:=zad ht2 (.tup [.int 1,.int 0])
    have k2:(upd Hh t2 (.tup [.int 1,.int 0])) t2=some (.tup (([1,0]:List Int).map V.int)):=zab
    try dsimp only at u2 k2
    generalize upd Hh t2 (.tup [.int 1,.int 0])=Hi at *
    refine⟨(by show 2<=sizeLine;decide),fun t3 ht3=> ?_⟩
    have u3:=zad ht3 (.tup [.int 0,.int 0])
    have k3:(upd Hi t3 (.tup [.int 0,.int 0])) t3=some (.tup (([0,0]:List Int).map V.int)):=zab
    try dsimp only at u3 k3
    generalize upd Hi t3 (.tup [.int 0,.int 0])=Hj at *
    refine⟨(by show 3<=sizeLine;decide),fun pl hpl=> ?_⟩
    have u4:=zad hpl (.lst [.ref t1,.ref t2,.ref t3])
    have hpl':(upd Hj pl (.lst [.ref t1,.ref t2,.ref t3])) pl=some (.lst [.ref t1,.ref t2,.ref t3]):=zab
    have ug:=u1.trans (u2.trans (u3.trans u4))
    have k1':=(u2.trans (u3.trans u4)) _ _ k1
    have k2':=(u3.trans u4) _ _ k2
    have k3':=u4 _ _ k3
    try dsimp only at hpl' ug k1' k2' k3'
    generalize upd Hj pl (.lst [.ref t1,.ref t2,.ref t3])=Hk at *
    have hbk:Hk b=some (.tup (s.map V.int)):=by rw[keyV]at hbg;exact ug _ _ hbg
    refine⟨_,rfl,b,_,rfl,.inr (SqT.of hbk),fun _=>⟨_,_,rfl,rfl,(by show(0:Int)<3;decide),?_⟩⟩
    obtain⟨tx,kk,c1,c2,c3⟩:∃(tx:Addr) (kk:List Int),atI [V.ref t1,V.ref t2,V.ref t3] (((s.map V.int).length:Int) %3)=some (.ref tx)/\Hk tx=some (.tup (kk.map V.int))/\kk∈univ:=by
     rw[List.length_map]
     have h5:s.length=0\/s.length=1\/s.length=2\/s.length=3\/s.length=4:=by omega
     rcases h5 with e|e|e|e|e<;>rw[e]
     ·exact⟨t1,[n],rfl,k1',one_univ hn0 hn4⟩
     ·exact⟨t2,[1,0],rfl,k2',by decide+kernel⟩
     ·exact⟨t3,[0,0],rfl,k3',by decide+kernel⟩
     ·exact⟨t1,[n],rfl,k1',one_univ hn0 hn4⟩
     ·exact⟨t2,[1,0],rfl,k2',by decide+kernel⟩
    refine⟨pl,_,_,.ref tx,rfl,rfl,SqL.of hpl',c1,q1,_,rfl,DPut.t (k:=kk.map Sum.inl) (v:= .int (flo ts s)) (ug _ _ hq1g) (by rw[keyV];exact c2) (by rw[zbn,sizeLine_eq];omega),?_⟩
    have xk:SameX q1 Hk (upd Hk q1 (.dT (putK (setK (flo ts) L) (kk.map Sum.inl) (.int (flo ts s))))):=(SameX.refl _ _).upd
    have sfk:Same Hf (upd Hk q1 (.dT (putK (setK (flo ts) L) (kk.map Sum.inl) (.int (flo ts s))))):=Same.over (sg.trans ug) hq1 xk
    have gk:Good (upd Hk q1 (.dT (putK (setK (flo ts) L) (kk.map Sum.inl) (.int (flo ts s))))) q1:=put_good zab Lnd LU c3 Ll
    have Dk:=Df.same sfk
    try dsimp only at sfk gk Dk
    generalize upd Hk q1 (.dT (putK (setK (flo ts) L) (kk.map Sum.inl) (.int (flo ts s))))=Hl at *
    obtain⟨ds2,z1,z2,z3⟩:=Dk
    refine⟨_,rfl,.inl ⟨rfl,_,SqL.of z1⟩,_,rfl,dl,_,_,rfl,rfl,z1,(by rw[List.length_map,sizeLine_eq];omega),?_⟩
    exact⟨xFf.trans ((sfk.x dl).trans ((SameX.refl _ _).upd)),(Dcs.add z1 z2 z3 gk).mono (by omega),_,_,_,_,_,_,_,rfl⟩
 obtain⟨xa,Da,o1,o4,o5,o8,o9,o10,o11,rfl⟩:=p
 have hda:=xa _ _ dld.symm hdF
 refine⟨o,hda,?_⟩
 rw[zbn]at Da
 have e9:SameX dl H12 (upd Ha d (.dT (setK (flo ts) (allS n.toNat)))):=fun c u nc e=>by
  by_cases z:c=d
  ·subst z
   rw[S12.dv]at e
   cases e
   exact zab
  ·rw[zaf z]
   exact xa c u nc (by rw[<-hF,zaf z];exact e)
 have S13:=S12.lst e9 dz12 dl0 dltp
 have D13:=Da.put dld (.dT (setK (flo ts) (allS n.toNat)))
 try dsimp only at S13 D13
 generalize upd Ha d (.dT (setK (flo ts) (allS n.toNat)))=H13 at *
 clear e9 hda xa Da hdlF DF wF hdF hF dz12 S12 D12
 refine⟨_,rfl,d,_,rfl,.inl S13.dv,hash_ok ND U,fun q0 hq0=> ?_⟩
 have s14:=zad hq0 (.dT (setK (flo ts) (allS n.toNat)))
 have hq14:(upd H13 q0 (.dT (setK (flo ts) (allS n.toNat)))) q0=some (.dT (setK (flo ts) (allS n.toNat))):=zab
 try dsimp only at s14 hq14
 generalize upd H13 q0 (.dT (setK (flo ts) (allS n.toNat)))=H14 at *
 refine⟨_,rfl,(by show 2<=sizeLine;decide),fun t2 ht2=> ?_⟩
 have s15:=zad ht2 (.tup [.int 1,.int 0])
 have k2:(upd H14 t2 (.tup [.int 1,.int 0])) t2=some (.tup (([1,0]:List Int).map V.int)):=zab
 try dsimp only at s15 k2
 generalize upd H14 t2 (.tup [.int 1,.int 0])=H15 at *
 refine⟨q0,_,rfl,DPut.t (k:=([1,0]:List Int).map Sum.inl) (v:= .int 0) (s15 _ _ hq14) (by rw[keyV];exact k2) (by rw[zbn,sizeLine_eq];omega),?_⟩
 have xk:SameX q0 H15 (upd H15 q0 (.dT (putK (setK (flo ts) (allS n.toNat)) (([1,0]:List Int).map Sum.inl) (.int 0)))):=(SameX.refl _ _).upd
 have sfk:Same H13 (upd H15 q0 (.dT (putK (setK (flo ts) (allS n.toNat)) (([1,0]:List Int).map Sum.inl) (.int 0)))):=Same.over (s14.trans s15) hq0 xk
 have gk:Good (upd H15 q0 (.dT (putK (setK (flo ts) (allS n.toNat)) (([1,0]:List Int).map Sum.inl) (.int 0)))) q0:=put_good zab ND U (by decide+kernel) l16
 have S16:=S13.same sfk
 have D16:=D13.same sfk
 try dsimp only at gk S16 D16
 generalize upd H15 q0 (.dT (putK (setK (flo ts) (allS n.toNat)) (([1,0]:List Int).map Sum.inl) (.int 0)))=H16 at *
 obtain⟨ds,z1,z2,z3⟩:=D16
 refine⟨_,rfl,_,rfl,(by show 1<=sizeLine;decide),fun p6 hp6=> ?_⟩
 have s17:=zad hp6 (.lst [.ref q0])
 refine⟨dl,p6,_,_,rfl,rfl,s17 _ _ z1,zab,(by rw[List.length_map,sizeLine_eq];show _+1<=_;omega),fun p7 hp7=> ?_⟩
 have s18:=s17.trans (zad hp7 (.lst (ds.map V.ref++[.ref q0])))
 have hp7':(upd (upd H16 p6 (.lst [.ref q0])) p7 (.lst (ds.map V.ref++[.ref q0]))) p7=some (.lst ((ds++[q0]).map V.ref)):=by rw[zab,List.map_append];rfl
 have el:ds.map V.ref++[.ref q0]=(ds++[q0]).map V.ref:=by rw[List.map_append];rfl
 try dsimp only at s18 hp7'
 refine⟨p7,(ds++[q0]).map V.ref,rfl,SqL.of hp7',fun hz=> ?_⟩
 generalize hH18:upd (upd H16 p6 (.lst [.ref q0])) p7 (.lst (ds.map V.ref++[.ref q0]))=H18 at *
 refine for_list (K:=K) (a:=p7) (xs:=(ds++[q0]).map V.ref) (fun j σ H'=>Same H18 H'/\∃o1 o4 o5 o8 o9 o10 o11,σ=[some (.ref scr),o1,some (.ref tp),some (.ref a),o4,o5,some (.ref d),some (.ref dl),o8,o9,o10,o11]) ⟨?_,_,_,_,_,_,_,_,rfl⟩ (fun j σ H' _ p=>p.1.seq (SqL.of hp7')) (fun j x σ Hc hx p=> ?_) (fun σ Hc p=> ?_)
 ·rw[<-hH18];exact Same.refl _
 ·obtain⟨sc,o1,o4,o5,o8,o9,o10,o11,rfl⟩:=p
  rw[List.getElem?_map]at hx
  cases ex:(ds++[q0])[j]? with
  |none=>rw[ex]at hx;cases hx
  |some y=>
   rw[ex]at hx
   cases hx
   have gy:Good Hc y:=by
    have g16:Good H16 y:=by
     rcases List.mem_append.mp (List.mem_of_getElem? ex)with z|z
     ·rcases z3 y z with e|e
      ·rw[e];exact⟨_,_,S16.dv,ND,U,by omega⟩
      ·exact e
     ·rw[List.mem_singleton.mp z];exact gk
    exact g16.keep fun o' e=>(s18.trans sc) _ _ e
   obtain⟨f,l,y1,y2,y3,y4⟩:=gy
   exact⟨_,rfl,_,rfl,a,y,n,ts,l,f,rfl,S16.web.same (s18.trans sc),hn4,y1,y2,y3,by omega,fun Hd sd=>⟨_,rfl,iteF ⟨sc.trans sd,_,_,_,_,_,_,_,rfl⟩⟩⟩
 ·obtain⟨sc,o1,o4,o5,o8,o9,o10,o11,rfl⟩:=p
  have SE:=S16.same (s18.trans sc)
  exact⟨s1.trans SE.old,SE.lam,_,_,_,_,_,_,_,_,_,_,_,rfl⟩
end
end Hs
namespace Hs
open PySem L2 HsD
theorem len_1{α:Type}:∀{us:List α},us.length=1->∃a,us=[a]
 |[a],_=>⟨a,rfl⟩
theorem len_2{α:Type}:∀{us:List α},us.length=2->∃a b,us=[a,b]
 |[a,b],_=>⟨a,b,rfl⟩
theorem len_3{α:Type}:∀{us:List α},us.length=3->∃a b c,us=[a,b,c]
 |[a,b,c],_=>⟨a,b,c,rfl⟩
theorem all_mk{l:W.OpenLaw}{w:World}{K:W.Frag}{h:Heap}{mg:Str->Option Value}{fa:Addr}{T:Addr}(X:K.In h)(G:h.Ns mainGlobals mg)(hfa:mg "law"=some (.ref fa)){f0 f1 f2 f3 f4 f5 f6 f7 f8 f9 f10 f11 f12 f13 f14 f16 f17 f18 f19 f20 f21 f22 f23 f24 f25 f26 f27 f28 f29 f30 f31:Addr}{od0 an0 od1 an1 od2 an2 od3 an3 od4 an4 od5 an5 od6 an6 od7 an7 od8 an8 od9 an9 od10 an10 od11 an11 od12 an12 od13 an13 od14 an14 od16 an16 od17 an17 od18 an18 od19 an19 od20 an20 od21 an21 od22 an22 od23 an23 od24 an24 od25 an25 od26 an26 od27 an27 od28 an28 od29 an29 od30 an30 od31 an31:Option Addr}{sl0 sl1 sl2 sl3 sl4 sl5 sl6 sl7 sl8 sl9 sl10 sl11 sl12 sl13 sl14 sl16 sl17 sl18 sl19 sl20 sl21 sl22 sl23 sl24 sl25 sl26 sl27 sl28 sl29 sl30 sl31:Array (Option Value)}{oc0 kV0 dc0 pm0 cd0 ct0 oc1 kV1 dc1 pm1 cd1 ct1 oc2 kV2 dc2 pm2 cd2 ct2 oc3 kV3 dc3 pm3 cd3 ct3 oc4 kV4 dc4 pm4 cd4 ct4 oc5 kV5 dc5 pm5 cd5 ct5 oc6 kV6 dc6 pm6 cd6 ct6 oc7 kV7 dc7 pm7 cd7 ct7 oc8 kV8 dc8 pm8 cd8 ct8 oc9 kV9 dc9 pm9 cd9 ct9 oc10 kV10 dc10 pm10 cd10 ct10 oc11 kV11 dc11 pm11 cd11 ct11 oc12 kV12 dc12 pm12 cd12 ct12 oc13 kV13 dc13 pm13 cd13 ct13 oc14 kV14 dc14 pm14 cd14 ct14 oc16 kV16 dc16 pm16 cd16 ct16 oc17 kV17 dc17 pm17 cd17 ct17 oc18 kV18 dc18 pm18 cd18 ct18 oc19 kV19 dc19 pm19 cd19 ct19 oc20 kV20 dc20 pm20 cd20 ct20 oc21 kV21 dc21 pm21 cd21 ct21 oc22 kV22 dc22 pm22 cd22 ct22 oc23 kV23 dc23 pm23 cd23 ct23 oc24 kV24 dc24 pm24 cd24 ct24 oc25 kV25 dc25 pm25 cd25 ct25 oc26 kV26 dc26 pm26 cd26 ct26 oc27 kV27 dc27 pm27 cd27 ct27 oc28 kV28 dc28 pm28 cd28 ct28 oc29 kV29 dc29 pm29 cd29 ct29 oc30 kV30 dc30 pm30 cd30 ct30 oc31 kV31 dc31 pm31 cd31 ct31:Value}{f15 cL:Addr}{od15 an15:Option Addr}{sl15:Array (Option Value)}{oc15 kV15 dc15 pm15 ct15:Value}{tk0:Tok}(a0:W.nsIn K mainGlobals "is_whole"=some (some (.ref f0)))(l0:K.lookup f0=some ⟨oc0,od0,.func (W.fnOf "is_whole" "is_whole" (defArgs zbj) (defBody zbj) (defScope zbj) .none kV0 dc0 pm0 an0 cd0 ct0),sl0⟩)(c0:W.codeIn K cd0 "is_whole"=true)(k0:W.keepIn K (.ref f0)=true)(a1:W.nsIn K mainGlobals "is_place"=some (some (.ref f1)))(l1:K.lookup f1=some ⟨oc1,od1,.func (W.fnOf "is_place" "is_place" (defArgs zcc) (defBody zcc) (defScope zcc) .none kV1 dc1 pm1 an1 cd1 ct1),sl1⟩)(c1:W.codeIn K cd1 "is_place"=true)(k1:W.keepIn K (.ref f1)=true)(a2:W.nsIn K mainGlobals "are_places"=some (some (.ref f2)))(l2:K.lookup f2=some ⟨oc2,od2,.func (W.fnOf "are_places" "are_places" (defArgs zbl) (defBody zbl) (defScope zbl) .none kV2 dc2 pm2 an2 cd2 ct2),sl2⟩)(c2:W.codeIn K cd2 "are_places"=true)(k2:W.keepIn K (.ref f2)=true)(a3:W.nsIn K mainGlobals "is_rising"=some (some (.ref f3)))(l3:K.lookup f3=some ⟨oc3,od3,.func (W.fnOf "is_rising" "is_rising" (defArgs zbo) (defBody zbo) (defScope zbo) .none kV3 dc3 pm3 an3 cd3 ct3),sl3⟩)(c3:W.codeIn K cd3 "is_rising"=true)(k3:W.keepIn K (.ref f3)=true)(a4:W.nsIn K mainGlobals "is_set"=some (some (.ref f4)))(l4:K.lookup f4=some ⟨oc4,od4,.func (W.fnOf "is_set" "is_set" (defArgs zcu) (defBody zcu) (defScope zcu) .none kV4 dc4 pm4 an4 cd4 ct4),sl4⟩)(c4:W.codeIn K cd4 "is_set"=true)(k4:W.keepIn K (.ref f4)=true)(a5:W.nsIn K mainGlobals "are_ties"=some (some (.ref f5)))(l5:K.lookup f5=some ⟨oc5,od5,.func (W.fnOf "are_ties" "are_ties" (defArgs zcd) (defBody zcd) (defScope zcd) .none kV5 dc5 pm5 an5 cd5 ct5),sl5⟩)(c5:W.codeIn K cd5 "are_ties"=true)(k5:W.keepIn K (.ref f5)=true)(a6:W.nsIn K mainGlobals "is_web"=some (some (.ref f6)))(l6:K.lookup f6=some ⟨oc6,od6,.func (W.fnOf "is_web" "is_web" (defArgs zde) (defBody zde) (defScope zde) .none kV6 dc6 pm6 an6 cd6 ct6),sl6⟩)(c6:W.codeIn K cd6 "is_web"=true)(k6:W.keepIn K (.ref f6)=true)(a7:W.nsIn K mainGlobals "need_web"=some (some (.ref f7)))(l7:K.lookup f7=some ⟨oc7,od7,.func (W.fnOf "need_web" "need_web" (defArgs zbs) (defBody zbs) (defScope zbs) .none kV7 dc7 pm7 an7 cd7 ct7),sl7⟩)(c7:W.codeIn K cd7 "need_web"=true)(k7:W.keepIn K (.ref f7)=true)(a8:W.nsIn K mainGlobals "all_sets"=some (some (.ref f8)))(l8:K.lookup f8=some ⟨oc8,od8,.func (W.fnOf "all_sets" "all_sets" (defArgs zbt) (defBody zbt) (defScope zbt) .none kV8 dc8 pm8 an8 cd8 ct8),sl8⟩)(c8:W.codeIn K cd8 "all_sets"=true)(k8:W.keepIn K (.ref f8)=true)(a9:W.nsIn K mainGlobals "without"=some (some (.ref f9)))(l9:K.lookup f9=some ⟨oc9,od9,.func (W.fnOf "without" "without" (defArgs zca) (defBody zca) (defScope zca) .none kV9 dc9 pm9 an9 cd9 ct9),sl9⟩)(c9:W.codeIn K cd9 "without"=true)(k9:W.keepIn K (.ref f9)=true)(a10:W.nsIn K mainGlobals "has_tie"=some (some (.ref f10)))(l10:K.lookup f10=some ⟨oc10,od10,.func (W.fnOf "has_tie" "has_tie" (defArgs zcp) (defBody zcp) (defScope zcp) .none kV10 dc10 pm10 an10 cd10 ct10),sl10⟩)(c10:W.codeIn K cd10 "has_tie"=true)(k10:W.keepIn K (.ref f10)=true)(a11:W.nsIn K mainGlobals "can_stand_with"=some (some (.ref f11)))(l11:K.lookup f11=some ⟨oc11,od11,.func (W.fnOf "can_stand_with" "can_stand_with" (defArgs zau) (defBody zau) (defScope zau) .none kV11 dc11 pm11 an11 cd11 ct11),sl11⟩)(c11:W.codeIn K cd11 "can_stand_with"=true)(k11:W.keepIn K (.ref f11)=true)(a12:W.nsIn K mainGlobals "first_parts"=some (some (.ref f12)))(l12:K.lookup f12=some ⟨oc12,od12,.func (W.fnOf "first_parts" "first_parts" (defArgs zaz) (defBody zaz) (defScope zaz) .none kV12 dc12 pm12 an12 cd12 ct12),sl12⟩)(c12:W.codeIn K cd12 "first_parts"=true)(k12:W.keepIn K (.ref f12)=true)(a13:W.nsIn K mainGlobals "highest_floor"=some (some (.ref f13)))(l13:K.lookup f13=some ⟨oc13,od13,.func (W.fnOf "highest_floor" "highest_floor" (defArgs zar) (defBody zar) (defScope zar) .none kV13 dc13 pm13 an13 cd13 ct13),sl13⟩)(c13:W.codeIn K cd13 "highest_floor"=true)(k13:W.keepIn K (.ref f13)=true)(a14:W.nsIn K mainGlobals "highest_floors"=some (some (.ref f14)))(l14:K.lookup f14=some ⟨oc14,od14,.func (W.fnOf "highest_floors" "highest_floors" (defArgs zat) (defBody zat) (defScope zat) .none kV14 dc14 pm14 an14 cd14 ct14),sl14⟩)(c14:W.codeIn K cd14 "highest_floors"=true)(k14:W.keepIn K (.ref f14)=true)(a15:W.nsIn K mainGlobals "best_part"=some (some (.ref f15)))(l15:K.lookup f15=some ⟨oc15,od15,.func (W.fnOf "best_part" "best_part" (defArgs zbp) (defBody zbp) (defScope zbp) .none kV15 dc15 pm15 an15 (.ref cL) ct15),sl15⟩)(c15:W.codeIn K (.ref cL) "best_part"=true)(k15:W.keepIn K (.ref f15)=true)(a16:W.nsIn K mainGlobals "hues_by_floors"=some (some (.ref f16)))(l16:K.lookup f16=some ⟨oc16,od16,.func (W.fnOf "hues_by_floors" "hues_by_floors" (defArgs zas) (defBody zas) (defScope zas) .none kV16 dc16 pm16 an16 cd16 ct16),sl16⟩)(c16:W.codeIn K cd16 "hues_by_floors"=true)(k16:W.keepIn K (.ref f16)=true)(a17:W.nsIn K mainGlobals "fewest"=some (some (.ref f17)))(l17:K.lookup f17=some ⟨oc17,od17,.func (W.fnOf "fewest" "fewest" (defArgs zdf) (defBody zdf) (defScope zdf) .none kV17 dc17 pm17 an17 cd17 ct17),sl17⟩)(c17:W.codeIn K cd17 "fewest"=true)(k17:W.keepIn K (.ref f17)=true)(a18:W.nsIn K mainGlobals "are_hues"=some (some (.ref f18)))(l18:K.lookup f18=some ⟨oc18,od18,.func (W.fnOf "are_hues" "are_hues" (defArgs zce) (defBody zce) (defScope zce) .none kV18 dc18 pm18 an18 cd18 ct18),sl18⟩)(c18:W.codeIn K cd18 "are_hues"=true)(k18:W.keepIn K (.ref f18)=true)(a19:W.nsIn K mainGlobals "have_all_sets"=some (some (.ref f19)))(l19:K.lookup f19=some ⟨oc19,od19,.func (W.fnOf "have_all_sets" "have_all_sets" (defArgs zay) (defBody zay) (defScope zay) .none kV19 dc19 pm19 an19 cd19 ct19),sl19⟩)(c19:W.codeIn K cd19 "have_all_sets"=true)(k19:W.keepIn K (.ref f19)=true)(a20:W.nsIn K mainGlobals "are_floors"=some (some (.ref f20)))(l20:K.lookup f20=some ⟨oc20,od20,.func (W.fnOf "are_floors" "are_floors" (defArgs zbm) (defBody zbm) (defScope zbm) .none kV20 dc20 pm20 an20 cd20 ct20),sl20⟩)(c20:W.codeIn K cd20 "are_floors"=true)(k20:W.keepIn K (.ref f20)=true)(a21:W.nsIn K mainGlobals "_law_acell"=some (some (.ref f21)))(l21:K.lookup f21=some ⟨oc21,od21,.func (W.fnOf "_law_acell" "_law_acell" (defArgs zbw) (defBody zbw) (defScope zbw) .none kV21 dc21 pm21 an21 cd21 ct21),sl21⟩)(c21:W.codeIn K cd21 "_law_acell"=true)(k21:W.keepIn K (.ref f21)=true)(a22:W.nsIn K mainGlobals "_law_atape"=some (some (.ref f22)))(l22:K.lookup f22=some ⟨oc22,od22,.func (W.fnOf "_law_atape" "_law_atape" (defArgs zbu) (defBody zbu) (defScope zbu) .none kV22 dc22 pm22 an22 cd22 ct22),sl22⟩)(c22:W.codeIn K cd22 "_law_atape"=true)(k22:W.keepIn K (.ref f22)=true)(a23:W.nsIn K mainGlobals "_law_adigit"=some (some (.ref f23)))(l23:K.lookup f23=some ⟨oc23,od23,.func (W.fnOf "_law_adigit" "_law_adigit" (defArgs zba) (defBody zba) (defScope zba) .none kV23 dc23 pm23 an23 cd23 ct23),sl23⟩)(c23:W.codeIn K cd23 "_law_adigit"=true)(k23:W.keepIn K (.ref f23)=true)(a24:W.nsIn K mainGlobals "_law_aweb"=some (some (.ref f24)))(l24:K.lookup f24=some ⟨oc24,od24,.func (W.fnOf "_law_aweb" "_law_aweb" (defArgs zcb) (defBody zcb) (defScope zcb) .none kV24 dc24 pm24 an24 cd24 ct24),sl24⟩)(c24:W.codeIn K cd24 "_law_aweb"=true)(k24:W.keepIn K (.ref f24)=true)(a25:W.nsIn K mainGlobals "_law_ais_apart"=some (some (.ref f25)))(l25:K.lookup f25=some ⟨oc25,od25,.func (W.fnOf "_law_ais_apart" "_law_ais_apart" (defArgs zax) (defBody zax) (defScope zax) .none kV25 dc25 pm25 an25 cd25 ct25),sl25⟩)(c25:W.codeIn K cd25 "_law_ais_apart"=true)(k25:W.keepIn K (.ref f25)=true)(a26:W.nsIn K mainGlobals "_law_asets"=some (some (.ref f26)))(l26:K.lookup f26=some ⟨oc26,od26,.func (W.fnOf "_law_asets" "_law_asets" (defArgs zbv) (defBody zbv) (defScope zbv) .none kV26 dc26 pm26 an26 cd26 ct26),sl26⟩)(c26:W.codeIn K cd26 "_law_asets"=true)(k26:W.keepIn K (.ref f26)=true)(a27:W.nsIn K mainGlobals "_law_aparts_of"=some (some (.ref f27)))(l27:K.lookup f27=some ⟨oc27,od27,.func (W.fnOf "_law_aparts_of" "_law_aparts_of" (defArgs zaw) (defBody zaw) (defScope zaw) .none kV27 dc27 pm27 an27 cd27 ct27),sl27⟩)(c27:W.codeIn K cd27 "_law_aparts_of"=true)(k27:W.keepIn K (.ref f27)=true)(a28:W.nsIn K mainGlobals "_law_aare_floors"=some (some (.ref f28)))(l28:K.lookup f28=some ⟨oc28,od28,.func (W.fnOf "_law_aare_floors" "_law_aare_floors" (defArgs zaq) (defBody zaq) (defScope zaq) .none kV28 dc28 pm28 an28 cd28 ct28),sl28⟩)(c28:W.codeIn K cd28 "_law_aare_floors"=true)(k28:W.keepIn K (.ref f28)=true)(a29:W.nsIn K mainGlobals "_law_ahues_right"=some (some (.ref f29)))(l29:K.lookup f29=some ⟨oc29,od29,.func (W.fnOf "_law_ahues_right" "_law_ahues_right" (defArgs zap) (defBody zap) (defScope zap) .none kV29 dc29 pm29 an29 cd29 ct29),sl29⟩)(c29:W.codeIn K cd29 "_law_ahues_right"=true)(k29:W.keepIn K (.ref f29)=true)(a30:W.nsIn K mainGlobals "_law_afloors_right"=some (some (.ref f30)))(l30:K.lookup f30=some ⟨oc30,od30,.func (W.fnOf "_law_afloors_right" "_law_afloors_right" (defArgs zam) (defBody zam) (defScope zam) .none kV30 dc30 pm30 an30 cd30 ct30),sl30⟩)(c30:W.codeIn K cd30 "_law_afloors_right"=true)(k30:W.keepIn K (.ref f30)=true)(a31:W.nsIn K mainGlobals "law"=some (some (.ref f31)))(l31:K.lookup f31=some ⟨oc31,od31,.func (W.fnOf "law" "law" (defArgs s_law) (defBody s_law) (defScope s_law) .none kV31 dc31 pm31 an31 cd31 ct31),sl31⟩)(c31:W.codeIn K cd31 "law"=true)(k31:W.keepIn K (.ref f31)=true)(x0:W.nsIn K mainGlobals "MOST_PLACES"=some (some (.int 10 tk0)))(z0:W.nsIn K mainGlobals "all"=some none)(z1:W.nsIn K mainGlobals "any"=some none)(z2:W.nsIn K mainGlobals "bool"=some none)(z3:W.nsIn K mainGlobals "dict"=some none)(z4:W.nsIn K mainGlobals "int"=some none)(z5:W.nsIn K mainGlobals "isinstance"=some none)(z6:W.nsIn K mainGlobals "len"=some none)(z7:W.nsIn K mainGlobals "list"=some none)(z8:W.nsIn K mainGlobals "max"=some none)(z9:W.nsIn K mainGlobals "min"=some none)(z10:W.nsIn K mainGlobals "range"=some none)(z11:W.nsIn K mainGlobals "sorted"=some none)(z12:W.nsIn K mainGlobals "tuple"=some none):
  ∃fd:FuncData,(∀(s:Shared) (v:Value),BindsTo s fd ⟨[v],[]⟩ [("script",v)])/\∀base:Heap,K.In base->base.Ns mainGlobals mg->LamB base mg cL T->FnOk l.prog w K mg base CX0 10 fa fd ["script"] (spLawL T K):=by
 have e:=hfa.symm.trans (W.mg_of X G a31)
 cases e
 have F0:=zbb (st:=zbj) l0 c0 k0
 have E_is_whole:Dfn K mg "is_whole" zbj ["thing"] f0 _:=⟨F0,F0.binds (fun _ _ _ _ _ _ us hl=>by obtain⟨u0,rfl⟩:=Hs.len_1 hl;rfl),W.mg_of X G a0⟩
 have F1:=zbb (st:=zcc) l1 c1 k1
 have E_is_place:Dfn K mg "is_place" zcc ["n","thing"] f1 _:=⟨F1,F1.binds (fun _ _ _ _ _ _ us hl=>by obtain⟨u0,u1,rfl⟩:=Hs.len_2 hl;rfl),W.mg_of X G a1⟩
 have F2:=zbb (st:=zbl) l2 c2 k2
 have E_are_places:Dfn K mg "are_places" zbl ["n","things"] f2 _:=⟨F2,F2.binds (fun _ _ _ _ _ _ us hl=>by obtain⟨u0,u1,rfl⟩:=Hs.len_2 hl;rfl),W.mg_of X G a2⟩
 have F3:=zbb (st:=zbo) l3 c3 k3
 have E_is_rising:Dfn K mg "is_rising" zbo ["things"] f3 _:=⟨F3,F3.binds (fun _ _ _ _ _ _ us hl=>by obtain⟨u0,rfl⟩:=Hs.len_1 hl;rfl),W.mg_of X G a3⟩
 have F4:=zbb (st:=zcu) l4 c4 k4
 have E_is_set:Dfn K mg "is_set" zcu ["n","thing"] f4 _:=⟨F4,F4.binds (fun _ _ _ _ _ _ us hl=>by obtain⟨u0,u1,rfl⟩:=Hs.len_2 hl;rfl),W.mg_of X G a4⟩
 have F5:=zbb (st:=zcd) l5 c5 k5
 have E_are_ties:Dfn K mg "are_ties" zcd ["n","thing"] f5 _:=⟨F5,F5.binds (fun _ _ _ _ _ _ us hl=>by obtain⟨u0,u1,rfl⟩:=Hs.len_2 hl;rfl),W.mg_of X G a5⟩
 have F6:=zbb (st:=zde) l6 c6 k6
 have E_is_web:Dfn K mg "is_web" zde ["thing"] f6 _:=⟨F6,F6.binds (fun _ _ _ _ _ _ us hl=>by obtain⟨u0,rfl⟩:=Hs.len_1 hl;rfl),W.mg_of X G a6⟩
 have F7:=zbb (st:=zbs) l7 c7 k7
 have E_need_web:Dfn K mg "need_web" zbs ["thing"] f7 _:=⟨F7,F7.binds (fun _ _ _ _ _ _ us hl=>by obtain⟨u0,rfl⟩:=Hs.len_1 hl;rfl),W.mg_of X G a7⟩
 have F8:=zbb (st:=zbt) l8 c8 k8
 have E_all_sets:Dfn K mg "all_sets" zbt ["n"] f8 _:=⟨F8,F8.binds (fun _ _ _ _ _ _ us hl=>by obtain⟨u0,rfl⟩:=Hs.len_1 hl;rfl),W.mg_of X G a8⟩
 have F9:=zbb (st:=zca) l9 c9 k9
 have E_without:Dfn K mg "without" zca ["some","part"] f9 _:=⟨F9,F9.binds (fun _ _ _ _ _ _ us hl=>by obtain⟨u0,u1,rfl⟩:=Hs.len_2 hl;rfl),W.mg_of X G a9⟩
 have F10:=zbb (st:=zcp) l10 c10 k10
 have E_has_tie:Dfn K mg "has_tie" zcp ["web","one","other"] f10 _:=⟨F10,F10.binds (fun _ _ _ _ _ _ us hl=>by obtain⟨u0,u1,u2,rfl⟩:=Hs.len_3 hl;rfl),W.mg_of X G a10⟩
 have F11:=zbb (st:=zau) l11 c11 k11
 have E_can_stand_with:Dfn K mg "can_stand_with" zau ["web","part","place"] f11 _:=⟨F11,F11.binds (fun _ _ _ _ _ _ us hl=>by obtain⟨u0,u1,u2,rfl⟩:=Hs.len_3 hl;rfl),W.mg_of X G a11⟩
 have F12:=zbb (st:=zaz) l12 c12 k12
 have E_first_parts:Dfn K mg "first_parts" zaz ["web","some"] f12 _:=⟨F12,F12.binds (fun _ _ _ _ _ _ us hl=>by obtain⟨u0,u1,rfl⟩:=Hs.len_2 hl;rfl),W.mg_of X G a12⟩
 have F13:=zbb (st:=zar) l13 c13 k13
 have E_highest_floor:Dfn K mg "highest_floor" zar ["web","floors","some"] f13 _:=⟨F13,F13.binds (fun _ _ _ _ _ _ us hl=>by obtain⟨u0,u1,u2,rfl⟩:=Hs.len_3 hl;rfl),W.mg_of X G a13⟩
 have F14:=zbb (st:=zat) l14 c14 k14
 have E_highest_floors:Dfn K mg "highest_floors" zat ["web"] f14 _:=⟨F14,F14.binds (fun _ _ _ _ _ _ us hl=>by obtain⟨u0,rfl⟩:=Hs.len_1 hl;rfl),W.mg_of X G a14⟩
 have F15:=zbb (st:=zbp) l15 c15 k15
 have E_best_part:Dfn K mg "best_part" zbp ["web","floors","some"] f15 _:=⟨F15,F15.binds (fun _ _ _ _ _ _ us hl=>by obtain⟨u0,u1,u2,rfl⟩:=Hs.len_3 hl;rfl),W.mg_of X G a15⟩
 have F16:=zbb (st:=zas) l16 c16 k16
 have E_hues_by_floors:Dfn K mg "hues_by_floors" zas ["web","floors"] f16 _:=⟨F16,F16.binds (fun _ _ _ _ _ _ us hl=>by obtain⟨u0,u1,rfl⟩:=Hs.len_2 hl;rfl),W.mg_of X G a16⟩
 have F17:=zbb (st:=zdf) l17 c17 k17
 have E_fewest:Dfn K mg "fewest" zdf ["web"] f17 _:=⟨F17,F17.binds (fun _ _ _ _ _ _ us hl=>by obtain⟨u0,rfl⟩:=Hs.len_1 hl;rfl),W.mg_of X G a17⟩
 have F18:=zbb (st:=zce) l18 c18 k18
 have E_are_hues:Dfn K mg "are_hues" zce ["web","hues"] f18 _:=⟨F18,F18.binds (fun _ _ _ _ _ _ us hl=>by obtain⟨u0,u1,rfl⟩:=Hs.len_2 hl;rfl),W.mg_of X G a18⟩
 have F19:=zbb (st:=zay) l19 c19 k19
 have E_have_all_sets:Dfn K mg "have_all_sets" zay ["n","floors"] f19 _:=⟨F19,F19.binds (fun _ _ _ _ _ _ us hl=>by obtain⟨u0,u1,rfl⟩:=Hs.len_2 hl;rfl),W.mg_of X G a19⟩
 have F20:=zbb (st:=zbm) l20 c20 k20
 have E_are_floors:Dfn K mg "are_floors" zbm ["web","floors","number"] f20 _:=⟨F20,F20.binds (fun _ _ _ _ _ _ us hl=>by obtain⟨u0,u1,u2,rfl⟩:=Hs.len_3 hl;rfl),W.mg_of X G a20⟩
 have F21:=zbb (st:=zbw) l21 c21 k21
 have E_law_acell:Dfn K mg "_law_acell" zbw ["script","k"] f21 _:=⟨F21,F21.binds (fun _ _ _ _ _ _ us hl=>by obtain⟨u0,u1,rfl⟩:=Hs.len_2 hl;rfl),W.mg_of X G a21⟩
 have F22:=zbb (st:=zbu) l22 c22 k22
 have E_law_atape:Dfn K mg "_law_atape" zbu ["script","k"] f22 _:=⟨F22,F22.binds (fun _ _ _ _ _ _ us hl=>by obtain⟨u0,u1,rfl⟩:=Hs.len_2 hl;rfl),W.mg_of X G a22⟩
 have F23:=zbb (st:=zba) l23 c23 k23
 have E_law_adigit:Dfn K mg "_law_adigit" zba ["tape","many"] f23 _:=⟨F23,F23.binds (fun _ _ _ _ _ _ us hl=>by obtain⟨u0,u1,rfl⟩:=Hs.len_2 hl;rfl),W.mg_of X G a23⟩
 have F24:=zbb (st:=zcb) l24 c24 k24
 have E_law_aweb:Dfn K mg "_law_aweb" zcb ["tape","most"] f24 _:=⟨F24,F24.binds (fun _ _ _ _ _ _ us hl=>by obtain⟨u0,u1,rfl⟩:=Hs.len_2 hl;rfl),W.mg_of X G a24⟩
 have F25:=zbb (st:=zax) l25 c25 k25
 have E_law_ais_apart:Dfn K mg "_law_ais_apart" zax ["web","some"] f25 _:=⟨F25,F25.binds (fun _ _ _ _ _ _ us hl=>by obtain⟨u0,u1,rfl⟩:=Hs.len_2 hl;rfl),W.mg_of X G a25⟩
 have F26:=zbb (st:=zbv) l26 c26 k26
 have E_law_asets:Dfn K mg "_law_asets" zbv ["n"] f26 _:=⟨F26,F26.binds (fun _ _ _ _ _ _ us hl=>by obtain⟨u0,rfl⟩:=Hs.len_1 hl;rfl),W.mg_of X G a26⟩
 have F27:=zbb (st:=zaw) l27 c27 k27
 have E_law_aparts_of:Dfn K mg "_law_aparts_of" zaw ["web","some"] f27 _:=⟨F27,F27.binds (fun _ _ _ _ _ _ us hl=>by obtain⟨u0,u1,rfl⟩:=Hs.len_2 hl;rfl),W.mg_of X G a27⟩
 have F28:=zbb (st:=zaq) l28 c28 k28
 have E_law_aare_floors:Dfn K mg "_law_aare_floors" zaq ["web","floors"] f28 _:=⟨F28,F28.binds (fun _ _ _ _ _ _ us hl=>by obtain⟨u0,u1,rfl⟩:=Hs.len_2 hl;rfl),W.mg_of X G a28⟩
 have F29:=zbb (st:=zap) l29 c29 k29
 have E_law_ahues_right:Dfn K mg "_law_ahues_right" zap ["tape","web","hues"] f29 _:=⟨F29,F29.binds (fun _ _ _ _ _ _ us hl=>by obtain⟨u0,u1,u2,rfl⟩:=Hs.len_3 hl;rfl),W.mg_of X G a29⟩
 have F30:=zbb (st:=zam) l30 c30 k30
 have E_law_afloors_right:Dfn K mg "_law_afloors_right" zam ["web","floors"] f30 _:=⟨F30,F30.binds (fun _ _ _ _ _ _ us hl=>by obtain⟨u0,u1,rfl⟩:=Hs.len_2 hl;rfl),W.mg_of X G a30⟩
 have F31:=zbb (st:=s_law) l31 c31 k31
 have v_MOST_PLACES:=W.mg_of X G x0
 have n_all:=W.mg_none_of X G z0
 have n_any:=W.mg_none_of X G z1
 have n_bool:=W.mg_none_of X G z2
 have n_dict:=W.mg_none_of X G z3
 have n_int:=W.mg_none_of X G z4
 have n_isinstance:=W.mg_none_of X G z5
 have n_len:=W.mg_none_of X G z6
 have n_list:=W.mg_none_of X G z7
 have n_max:=W.mg_none_of X G z8
 have n_min:=W.mg_none_of X G z9
 have n_range:=W.mg_none_of X G z10
 have n_sorted:=W.mg_none_of X G z11
 have n_tuple:=W.mg_none_of X G z12
 refine⟨W.fnOf "law" "law" (defArgs s_law) (defBody s_law) (defScope s_law) .none kV31 dc31 pm31 an31 cd31 ct31,fun s v=> .of_eq rfl,fun base _ _ LB=> ?_⟩
 have g_whole:=ok_whole (P:=l.prog) (w:=w) (base:=base) F0 n_isinstance n_int n_bool
 have g_place:=ok_place (P:=l.prog) (w:=w) (base:=base) F1 E_is_whole g_whole
 have g_places:=ok_places (P:=l.prog) (w:=w) (base:=base) F2 E_is_place g_place n_all
 have g_rising:=ok_rising (P:=l.prog) (w:=w) (mg:=mg) (base:=base) F3 n_all n_range n_len
 have g_set:=ok_set (P:=l.prog) (w:=w) (base:=base) F4 E_are_places g_places E_is_rising g_rising n_isinstance n_tuple
 have g_ties:=ok_ties (P:=l.prog) (w:=w) (base:=base) F5 E_is_set g_set E_is_rising g_rising n_isinstance n_tuple n_all n_len
 have g_web:=ok_web (P:=l.prog) (w:=w) (base:=base) F6 E_is_whole g_whole E_are_ties g_ties n_isinstance n_tuple n_len v_MOST_PLACES
 have g_needWeb:=ok_needWeb (P:=l.prog) (w:=w) (base:=base) F7 E_is_web g_web
 have g_has:=ok_has (P:=l.prog) (w:=w) (mg:=mg) (base:=base) F10 n_min n_max
 have g_cell:=ok_cell (P:=l.prog) (w:=w) (base:=base) F21 n_len
 have g_tape:=ok_tape (P:=l.prog) (w:=w) (base:=base) F22 E_law_acell g_cell n_range
 have g_dig:=ok_dig (P:=l.prog) (w:=w) (mg:=mg) (base:=base) F23
 have g_allSets:=ok_allSets (P:=l.prog) (w:=w) (mg:=mg) (base:=base) F8 n_range
 have g_asets:=ok_asets (P:=l.prog) (w:=w) (mg:=mg) (base:=base) F26 n_range
 have g_without:=ok_without (P:=l.prog) (w:=w) (mg:=mg) (base:=base) F9 n_tuple
 have g_stand:=ok_stand (P:=l.prog) (w:=w) (mg:=mg) (base:=base) F11 E_has_tie g_has n_any
 have g_fparts:=ok_fparts (P:=l.prog) (w:=w) (mg:=mg) (base:=base) F12 E_can_stand_with g_stand
 have g_high:=ok_high (P:=l.prog) (w:=w) (mg:=mg) (base:=base) F13 E_first_parts g_fparts E_without g_without n_min
 have g_highs:=ok_highs (P:=l.prog) (w:=w) (mg:=mg) (base:=base) F14 E_all_sets g_allSets E_highest_floor g_high
 have g_best:=ok_best (P:=l.prog) (w:=w) (mg:=mg) (base:=base) F15 rfl LB E_first_parts g_fparts E_without g_without n_min
 have g_byf:=ok_byf (P:=l.prog) (w:=w) (mg:=mg) (base:=base) F16 E_best_part g_best E_without g_without n_tuple n_range
 have g_few:=ok_few (P:=l.prog) (w:=w) (mg:=mg) (base:=base) F17 E_need_web g_needWeb E_highest_floors g_highs E_hues_by_floors g_byf n_tuple n_range
 have g_areH:=ok_areH (P:=l.prog) (w:=w) (mg:=mg) (base:=base) F18 E_need_web g_needWeb E_is_whole g_whole n_len n_isinstance n_tuple n_all
 have g_haveAll:=ok_haveAll (P:=l.prog) (w:=w) (mg:=mg) (base:=base) F19 E_all_sets g_allSets E_is_whole g_whole E_is_set g_set n_len n_dict n_all n_isinstance
 have g_areF:=ok_areF (P:=l.prog) (w:=w) (mg:=mg) (base:=base) F20 E_need_web g_needWeb E_have_all_sets g_haveAll E_all_sets g_allSets E_highest_floor g_high n_all n_tuple n_range
 have g_aweb:=ok_aweb (P:=l.prog) (w:=w) (mg:=mg) (base:=base) F24 E_law_adigit g_dig n_range n_tuple
 have g_apart:=ok_apart (P:=l.prog) (w:=w) (mg:=mg) (base:=base) F25
 have g_aparts:=ok_aparts (P:=l.prog) (w:=w) (mg:=mg) (base:=base) F27 E_law_ais_apart g_apart
 have g_aareF:=ok_aareF (P:=l.prog) (w:=w) (mg:=mg) (base:=base) F28 E_law_asets g_asets E_law_aparts_of g_aparts n_sorted n_tuple
 have g_ahues:=ok_ahues (P:=l.prog) (w:=w) (mg:=mg) (base:=base) F29 E_law_adigit g_dig E_are_hues g_areH n_range n_list n_len n_tuple n_isinstance n_bool
 have g_aflo:=ok_aflo (P:=l.prog) (w:=w) (mg:=mg) (base:=base) F30 E_law_aare_floors g_aareF E_are_floors g_areF n_dict n_tuple n_range n_isinstance n_bool
 exact ok_law (P:=l.prog) (w:=w) (mg:=mg) (base:=base) F31 E_law_atape g_tape E_law_aweb g_aweb E_fewest g_few E_law_ahues_right g_ahues E_law_adigit g_dig E_law_afloors_right g_aflo n_range n_max n_min n_len n_dict
theorem walk{l:PySem.W.OpenLaw}{q:Program}{loose:List Str}{XP:(Str->Option Value)->Heap->Prop}{YP:World->Heap->Prop}{d:DefRec}{K:Params->PySem.W.Frag}{cL T:Addr}(hn:l.most=some 63)(hdf:d.params.defaults=[])(hY:∀(w:World) (h:Heap),YP w h->(K w.params).In h/\h.get? T=some (PySem.W.tabObj #[]))
  (F:∀(w:World) (mg:Str->Option Value) (fa:Addr) (h:Heap),(K w.params).In h->h.Ns mainGlobals mg->mg d.name=some (.ref fa)->
   ∃fd:FuncData,(∀(s:Shared) (u:Value),BindsTo s fd ⟨[u],[]⟩ [("script",u)])/\∀base:Heap,(K w.params).In base->base.Ns mainGlobals mg->LamB base mg cL T->FnOk l.prog w (K w.params) mg base CX0 10 fa fd ["script"] (spLawL T (K w.params)))(hc:∀w:World,PySem.W.codeHdIn (K w.params) cL T=true)(hKT:∀w:World,(K w.params).lookup T=none):
  PySem.W.WalkO q loose XP YP l.row.toRowW d [] (fun f vs=>PySem.call f vs):=
 L2.walk_ofL (n:=63) (k:=10) (x:="script") (CX:=CX0) (sp:=spLawL) hn (by decide) hdf ⟨rfl,by decide,by decide,rfl⟩ hY hc hKT F (fun _ _ a ns hl hO hS=>spLawL_of hO hS) fun _ _ _ _ z=>z
end Hs
open PySem PySem.W PyProof.Rows
set_option maxRecDepth 100000 in
set_option maxHeartbeats 0 in
theorem PySem.Challenge.cw_hueshare_k23_hues_and_floors_looked_at_holds : PySem.Challenge.rw_hueshare_k23_hues_and_floors_looked_at.Holds := by
 refine Hd.early.2 ?_
 unfold Hd.early
 dsimp only
 k_fill
 refine' Hs.walk (l:=PySem.Challenge.rw_hueshare_k23_hues_and_floors_looked_at) rfl rfl (fun w h Y=>⟨PySem.W.km_in_of Y,PySem.W.km_tabs_of Y _ List.mem_cons_self⟩) ?F ?C ?D
 case F=>
  intro w mg fa h KX G hmg
  refine' Hs.all_mk KX G hmg ?a0 ?l0 ?c0 ?k0 ?a1 ?l1 ?c1 ?k1 ?a2 ?l2 ?c2 ?k2 ?a3 ?l3 ?c3 ?k3 ?a4 ?l4 ?c4 ?k4 ?a5 ?l5 ?c5 ?k5 ?a6 ?l6 ?c6 ?k6 ?a7 ?l7 ?c7 ?k7 ?a8 ?l8 ?c8 ?k8 ?a9 ?l9 ?c9 ?k9 ?a10 ?l10 ?c10 ?k10 ?a11 ?l11 ?c11 ?k11 ?a12 ?l12 ?c12 ?k12 ?a13 ?l13 ?c13 ?k13 ?a14 ?l14 ?c14 ?k14 ?a15 ?l15 ?c15 ?k15 ?a16 ?l16 ?c16 ?k16 ?a17 ?l17 ?c17 ?k17 ?a18 ?l18 ?c18 ?k18 ?a19 ?l19 ?c19 ?k19 ?a20 ?l20 ?c20 ?k20 ?a21 ?l21 ?c21 ?k21 ?a22 ?l22 ?c22 ?k22 ?a23 ?l23 ?c23 ?k23 ?a24 ?l24 ?c24 ?k24 ?a25 ?l25 ?c25 ?k25 ?a26 ?l26 ?c26 ?k26 ?a27 ?l27 ?c27 ?k27 ?a28 ?l28 ?c28 ?k28 ?a29 ?l29 ?c29 ?k29 ?a30 ?l30 ?c30 ?k30 ?a31 ?l31 ?c31 ?k31 ?x0 ?z0 ?z1 ?z2 ?z3 ?z4 ?z5 ?z6 ?z7 ?z8 ?z9 ?z10 ?z11 ?z12
  (case a0=>k_is)
  (case l0=>k_is)
  (case c0=>k_is)
  (case k0=>k_is)
  (case a1=>k_is)
  (case l1=>k_is)
  (case c1=>k_is)
  (case k1=>k_is)
  (case a2=>k_is)
  (case l2=>k_is)
  (case c2=>k_is)
  (case k2=>k_is)
  (case a3=>k_is)
  (case l3=>k_is)
  (case c3=>k_is)
  (case k3=>k_is)
  (case a4=>k_is)
  (case l4=>k_is)
  (case c4=>k_is)
  (case k4=>k_is)
  (case a5=>k_is)
  (case l5=>k_is)
  (case c5=>k_is)
  (case k5=>k_is)
  (case a6=>k_is)
  (case l6=>k_is)
  (case c6=>k_is)
  (case k6=>k_is)
  (case a7=>k_is)
  (case l7=>k_is)
  (case c7=>k_is)
  (case k7=>k_is)
  (case a8=>k_is)
  (case l8=>k_is)
  (case c8=>k_is)
  (case k8=>k_is)
  (case a9=>k_is)
  (case l9=>k_is)
  (case c9=>k_is)
  (case k9=>k_is)
  (case a10=>k_is)
  (case l10=>k_is)
  (case c10=>k_is)
  (case k10=>k_is)
  (case a11=>k_is)
  (case l11=>k_is)
  (case c11=>k_is)
  (case k11=>k_is)
  (case a12=>k_is)
  (case l12=>k_is)
  (case c12=>k_is)
  (case k12=>k_is)
  (case a13=>k_is)
  (case l13=>k_is)
  (case c13=>k_is)
  (case k13=>k_is)
  (case a14=>k_is)
  (case l14=>k_is)
  (case c14=>k_is)
  (case k14=>k_is)
  (case a15=>k_is)
  (case l15=>k_is)
  (case c15=>k_is)
  (case k15=>k_is)
  (case a16=>k_is)
  (case l16=>k_is)
  (case c16=>k_is)
  (case k16=>k_is)
  (case a17=>k_is)
  (case l17=>k_is)
  (case c17=>k_is)
  (case k17=>k_is)
  (case a18=>k_is)
  (case l18=>k_is)
  (case c18=>k_is)
  (case k18=>k_is)
  (case a19=>k_is)
  (case l19=>k_is)
  (case c19=>k_is)
  (case k19=>k_is)
  (case a20=>k_is)
  (case l20=>k_is)
  (case c20=>k_is)
  (case k20=>k_is)
  (case a21=>k_is)
  (case l21=>k_is)
  (case c21=>k_is)
  (case k21=>k_is)
  (case a22=>k_is)
  (case l22=>k_is)
  (case c22=>k_is)
  (case k22=>k_is)
  (case a23=>k_is)
  (case l23=>k_is)
  (case c23=>k_is)
  (case k23=>k_is)
  (case a24=>k_is)
  (case l24=>k_is)
  (case c24=>k_is)
  (case k24=>k_is)
  (case a25=>k_is)
  (case l25=>k_is)
  (case c25=>k_is)
  (case k25=>k_is)
  (case a26=>k_is)
  (case l26=>k_is)
  (case c26=>k_is)
  (case k26=>k_is)
  (case a27=>k_is)
  (case l27=>k_is)
  (case c27=>k_is)
  (case k27=>k_is)
  (case a28=>k_is)
  (case l28=>k_is)
  (case c28=>k_is)
  (case k28=>k_is)
  (case a29=>k_is)
  (case l29=>k_is)
  (case c29=>k_is)
  (case k29=>k_is)
  (case a30=>k_is)
  (case l30=>k_is)
  (case c30=>k_is)
  (case k30=>k_is)
  (case a31=>k_is)
  (case l31=>k_is)
  (case c31=>k_is)
  (case k31=>k_is)
  (case x0=>k_is)
  (case z0=>k_is)
  (case z1=>k_is)
  (case z2=>k_is)
  (case z3=>k_is)
  (case z4=>k_is)
  (case z5=>k_is)
  (case z6=>k_is)
  (case z7=>k_is)
  (case z8=>k_is)
  (case z9=>k_is)
  (case z10=>k_is)
  (case z11=>k_is)
  (case z12=>k_is)
 case C=>intro w;kernel_rfl
 case D=>intro w;kernel_rfl
