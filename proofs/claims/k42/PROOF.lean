import PyProof.Rows.All
import Wide.All
import OpenK.AllK
import Wide.FinOn
import Lean
import PyProof.EqAt
import PyProof.EqKinds
import PyProof.TupleCall
import PyProof.ListRange
import PyProof.TupleOfSeq
import PyProof.Draws
import PyProof.EnumMake
import PyProof.TupleIter
import PyProof.Rows.SetFrom
import PyProof.SetRoads
import PyProof.WalksMore
import PyProof.Rows.SortShell
import KE.KMinBuiltin
import PyProof.Rows.CallKwBuiltin
import KE.KRevIter
import PyProof.Rows.Tup
import PyProof.Rows.Range3
import PyProof.DictWalks
import PyProof.DictTruth
import PyProof.TupleKey
import PyProof.Rows.SeqMore2
import PyProof.FString
import PyProof.StrWalks
import PyProof.StrBlockH
import PyProof.StrCalls2
import PyProof.SliceStr2
import KE.KIntText
import PyProof.StrLawsTight
import KE.KDictList
import PyProof.DictRoadsH
import KE.KLam
import KE.KNestM
import PyProof.DictItems
import PyProof.IsiHeapPairs
import KE.KPairComp
import PyProof.MinMaxWalk
import PyProof.MeetsSeq
import PySem.Challenge.RW_hueshare_k42_ways_and_greedy_refused
set_option compiler.extract_closed false
set_option Elab.async false
set_option linter.all false
set_option maxRecDepth 100000

noncomputable abbrev ζ:=PySem.Value
noncomputable abbrev η:=PySem.Shared
noncomputable abbrev θ:=PySem.PyData
noncomputable abbrev ξ:=PySem.Program
noncomputable abbrev ρ:=PySem.FuncData
noncomputable abbrev τ:=PySem.World
noncomputable abbrev υ:=PySem.Around
noncomputable abbrev L5:=PySem.Str->Option ζ
noncomputable abbrev L4:=ζ->η->Prop
noncomputable abbrev L1:=List (PySem.Addr×PySem.Obj)
noncomputable abbrev L0:=List (Int×Int)
def aq:=@PySem.wpAny_bind
def aV:=@PySem.wpAny_pure
def cI:=@decide_eq_false
def dF:=@decide_eq_true
def aJ:=@if_neg
def gU:=@Bool.and_eq_true
def aL:=@if_pos
def lQ:=@Bool.false_ne_true
def cY:=@PySem.sizeLine_eq
def qX:=@of_decide_eq_true
def qM:=@Bool.eq_iff_iff
def qL:=@PySem.PassesOwn.never
def wZ:=@decide_eq_true_eq
def JZ:=@PySem.F.plainAttrs_list
def rZ:=@PySem.wpAny_holding
def Ez:=@PySem.mem_of_lookup
def Ey:=@PySem.Heap.SameBut.update
def iy:=@congrArg
def was:=@Option.some.inj
def Qy:=@PyProof.Rows.callWith_type1
def wY:=@Bool.and_false
def Kr:=@PySem.Around.under_plainId
def JX:=@PySem.wpAny_truthy_bool
def JW:=@PySem.wpAny_newObj_type
def way:=@PySem.wpAny_Call_Name_kw
def Qw:=@PySem.F.plain_max_loop
def Qv:=@PySem.F.plain_min_loop
def Ew:=@PySem.codeAny_builtin
def Ei:=@PySem.wpAny_tryCatch
def T7:=@PySem.F.slot_list_append
def T4:=@PySem.F.type_list_append
def zK:=@PySem.W.mg_none_of
def Oo:=@Bool.false_eq_true
def uz:=@PySem.wpAny_mono
def Xg:=@PyProof.Rows.slot_tuple_getitem
def Kq:=@PyProof.Rows.KeyOrd.kle_refl
def Om:=@PySem.wpAny_call_entry
def Xf:=@PySem.wpAny_typeNameOfWhole_keyiter
def Xe:=@PySem.F.slot_dict_keyiterator_next
def Qu:=@Bool.not_eq_true'
def Ol:=@PyProof.Rows.get?_update_seq
def Ko:=@PySem.plainId_quiet
def Xd:=@Classical.byContradiction
def Qt:=@PySem.wpAny_passesOwn
def Xc:=@PySem.wpAny_typeNameOf_keyiter
def Xb:=@List.Pairwise.imp_of_mem
def TY:=@Bool.eq_false_iff
def Xa:=@PySem.wpAny_callSpecial?_slot
def Qs:=@PySem.wpAny_seqItems
def U7:=@decide_eq_true_iff
def uo:=@Ne.symm
def TX:=@PySem.wpAny_execs_nil
def Oj:=@PySem.codeAny_mono
def TV:=@PySem.wpAny_updateSeq
def U6:=@PyProof.Rows.KeyOrd.kle_of_klt
def W9:=@PySem.W.hideAll_get
def Oi:=@PySem.wpAny_letGo
def YZ:=@PySem.F.args_tuple_add_2
def W8:=@PySem.W.callWith_K
def YX:=@PySem.F.entry_tuple_add
def U5:=@PySem.W.KasT.kasWp_bind
def TQ:=@PySem.wpAny_newList
def YW:=@decide_eq_false_iff_not
def YT:=@Nat.mul_div_cancel_left
def YS:=@PySem.F.slot_tuple_add
def YQ:=@PySem.Heap.get?_update_other
def YM:=@PySem.F.entry_max_loop
def YL:=@Array.getElem?_eq_none
def YK:=@PySem.F.entry_min_loop
def W7:=@List.append_assoc
def W6:=@Nat.gcd_dvd_right
def wct:=@Nat.Coprime.dvd_of_dvd_mul_left
def W5:=@List.all_eq_false
def zJ:=@PySem.W.mg_of
def Eu:=@if_false
def YJ:=@PySem.F.slot_tuple_lt
def YH:=@List.length_singleton
def wcz:=@PySem.F.args_dict_keyiterator_next_1
def W4:=@List.length_drop
def W3:=@PyProof.Rows.KeyOrd.kle_trans
def W2:=@PySem.wpAny_Dict_empty
def wdd:=@PySem.F.entry_dict_keyiterator_next
def YG:=@List.Pairwise.filter
def YF:=@List.getElem?_append
def U4:=@PySem.Paired.length
def YD:=@PySem.W.plainGet_of
def TJ:=@Nat.le_succ
def YC:=@Nat.add_sub_cancel'
def W0:=@PySem.pushCells_keeps
def WY:=@Option.map_some
def WX:=@PySem.wpAny_specialOf
def TF:=@Nat.mul_pos
def wdo:=@Int.fdiv_eq_ediv_of_nonneg
def wdp:=@PySem.F.excBase_ValueError
def YB:=@PySem.Calls.spliced_cons
def Yz:=@List.zip_cons_cons
def Yy:=@PySem.Reads.unique
def Yx:=@of_decide_eq_false
def Yw:=@List.pairwise_cons
def U3:=@Nat.sub_self
def U0:=@Nat.lt_or_ge
def wdx:=@Array.getElem?_eq_getElem
def Yv:=@PySem.Calls.spliced_nil
def Tz:=@PySem.wpAny_call
def Tw:=@PySem.call_meets
def Yu:=@List.ext_getElem?
def wed:=@PySem.wpAny_pyIter_list
def wee:=@PyProof.noPylong_of_log2
def wef:=@PyProof.Rows.callWith_kw
def Yt:=@PySem.wpAny_dictEntries
def weh:=@List.length_erase_of_mem
def Ys:=@List.Sublist.refl
def wej:=@PySem.F.slot_list_extend
def wek:=@PySem.F.type_list_extend
def wel:=@Nat.gcd_pos_of_pos_right
def Yr:=@List.foldl_append
def wen:=@PySem.F.args_tuple_lt_2
def WW:=@PySem.wpAny_attempt
def WT:=@Nat.add_assoc
def weq:=@Nat.gcd_pos_of_pos_left
def Yq:=@PySem.wpAny_execs_cons
def Yp:=@PySem.wpAny_forIn_list
def Yo:=@PySem.noFill_tuple_add
def Yn:=@List.le_antisymm
def Ym:=@PySem.SeqAt.eqAt_reads
def Yl:=@Int.natCast_ediv
def wex:=@PySem.W.cellsFrom_some
def wey:=@PySem.F.entry_tuple_lt
def Yk:=@List.of_mem_zip
def wfa:=@List.length_replicate
def WR:=@PySem.wpAny_typeOf
def Yj:=@PySem.wpAny_dictEpoch
def wfd:=@Array.getElem?_toList
def Yi:=@Int.ediv_nonneg
def WQ:=@Int.zero_add
def UW:=@PySem.wpAny_rule
def Yh:=@List.nodup_nil
def wfi:=@Int.natAbs_mul
def WM:=@PySem.Paired.snoc
def Tv:=@Prod.ext
def Yg:=@List.lt_trans
def Tt:=@or_false
def WL:=@Nat.sub_le
def Ye:=@List.map_nil
def Yd:=@Nat.zero_add
def Yc:=@Nat.pow_succ
def Yb:=@Nat.succ.inj
def Tr:=@if_true
def aM:=@List.length_map
def cP:=@List.mem_cons_of_mem
def cH:=@List.mem_cons_self
def fG:=@PySem.Heap.get?_push_of_some
def cg:=@List.map_append
def bH:=@Nat.le_refl
def jc:=@List.getElem?_eq_getElem
def dD:=@List.getElem?_map
def eO:=@List.length_append
def eN:=@List.mem_singleton
def cD:=@List.mem_cons
def eG:=@List.size_toArray
def gR:=@Nat.lt_of_lt_of_le
def cC:=@Nat.le_trans
def jC:=@List.mem_append_right
def dY:=@List.mem_filter
def qG:=@List.getD_eq_getElem?_getD
def fH:=@List.mem_append
def cO:=@PySem.Heap.lt_size
def qW:=@List.getElem?_eq_some_iff
def iR:=@List.all_eq_true
def nP:=@List.mem_of_getElem?
def mW:=@PySem.Heap.get?_push_size
def dX:=@Nat.ne_of_lt
def lO:=@List.length_cons
def gH:=@List.mem_map
def jB:=@List.map_cons
def gG:=@Nat.zero_le
def wW:=@List.length_filter_le
def qU:=@List.length_take
def qT:=@List.append_nil
def uy:=@List.take_length
def qK:=@Nat.lt_irrefl
def zG:=@Nat.lt_of_le_of_lt
def zF:=@List.take_add_one
def wV:=@List.filter_cons
def Ql:=@List.eq_nil_of_length_eq_zero
def Bm:=@List.getElem_mem
def wU:=@List.mem_range
def Eh:=@List.lookup_cons
def Qk:=@List.pairwise_iff_getElem
def Er:=@List.pairwise_map
def ux:=@List.map_map
def Ef:=@List.nodup_cons
def Tq:=@List.getElem?_append_right
def wR:=@Nat.le_of_lt
def wQ:=@Nat.succ_pos
def Ep:=@List.length_nil
def JV:=@Nat.lt_succ_self
def Og:=@Array.length_toList
def Oe:=@List.filter_sublist
def zE:=@Nat.le_of_eq
def Od:=@Nat.lt_of_le_of_ne
def Oc:=@List.filter_append
def Qj:=@List.mem_append_left
def Qi:=@List.pairwise_append
def Tp:=@List.pairwise_lt_range
def Ob:=@Nat.le_of_lt_succ
def Oa:=@Nat.lt_succ_of_lt
def Qh:=@List.getElem_of_mem
def Kl:=@Nat.min_le_left
def UJ:=@List.pairwise_singleton
def JT:=@Nat.mul_assoc
def Qg:=@List.any_eq_false
def Tn:=@List.filterMap_cons
def Tj:=@Nat.add_le_add_left
def UG:=@List.length_pos_of_mem
def JR:=@Nat.lt_trans
def JQ:=@List.all_map
def Uz:=@List.getElem?_eq_none
def WD:=@List.getElem?_append_left
def Uy:=@Nat.sub_one_lt_of_le
def Qf:=@Nat.le_antisymm
def Wz:=@Nat.succ_add_eq_add_succ
def Qe:=@List.find?_cons
def Qd:=@List.range_succ
def Wy:=@List.sublist_append_left
def JN:=@List.not_lt
def N8:=@List.any_cons
def JM:=@Int.le_refl
def Ti:=@List.not_mem_nil
def Wx:=@List.getElem?_set_self
def Ww:=@Nat.le_mul_of_pos_left
def Wv:=@List.take_of_length_le
def Ux:=@Nat.eq_zero_or_pos
def X7:=@List.dropLast_concat_getLast
def Wu:=@List.cons_lt_cons_iff
def Tg:=@Int.natCast_mul
def Uw:=@Int.toNat_natCast
def Uv:=@Int.lt_trichotomy
def X6:=@Array.perm_iff_toList_perm
def Wt:=@List.getElem?_set_ne
def Ws:=@Nat.le_sub_one_of_lt
def Wr:=@Nat.mul_le_mul_right
def Tf:=@PySem.Heap.size_push
def Uu:=@Nat.le_add_right
def Wq:=@List.filter_eq_self
def Qc:=@Nat.ne_of_gt
def Wo:=@List.mem_filterMap
def Ut:=@List.lt_irrefl
def Us:=@Nat.mul_le_mul
def Te:=@Nat.mul_comm
namespace Hd
open PySem PySem.W PySem.Calls PyProof.Rows
-- a run of the text's top over the heap as a tree, as one fold
noncomputable def QL(tb:String->Option Builtin)(p:ξ)(w:τ)(m:Nat)(ann:Option ζ)(n:Nat):SharedT->Thread->Option SharedT:=
 @Nat.rec (fun _=>SharedT->Thread->Option SharedT) (fun _ _=>none)
  (fun _ ih s t=> @Bool.rec (fun _=>Option SharedT)
   (@Bool.rec (fun _=>Option SharedT) none
    (@Option.rec (SharedT×Thread) (fun _=>Option SharedT) none (fun r=>ih r.1 r.2) (stepT (denote tb) p w s t)) (stepOk m ann t))
   (some s) (through t)) n
theorem K4{tb:String->Option Builtin}{p:ξ}{w:τ}{m:Nat}{ann:Option ζ}:∀(n:Nat) (s s':SharedT) (t:Thread),
  QL tb p w m ann n s t=some s'->topRun tb p w m ann n s.abs t=some s'.abs:=by
 intro n
 induction n with
 |zero=>intro s s' t h;exact absurd h (by intro h;cases h)
 |succ n ih=>
  intro s s' t h;have h1: @Bool.rec (fun _=>Option SharedT) (@Bool.rec (fun _=>Option SharedT) none
    (@Option.rec (SharedT×Thread) (fun _=>Option SharedT) none (fun r=>QL tb p w m ann n r.1 r.2) (stepT (denote tb) p w s t)) (stepOk m ann t))
    (some s) (through t)=some s':=h
  unfold topRun;cases e1:through t with
  |true=>rw[e1]at h1;injection h1 with h1;rw[h1]
  |false=>
   rw[e1]at h1;cases e2:stepOk m ann t with
   |false=>rw[e2]at h1;cases h1
   |true=>
    rw[e2]at h1;cases e3:stepT (denote tb) p w s t with
    |none=>rw[e3]at h1;cases h1
    |some r=>
     rw[e3]at h1;have e4:=stepT_spec (s':=r.1) (t':=r.2) e3;show(match step (denote tb) p w s.abs t with | .go a b=>topRun tb p w m ann n a b| .halt _ _=>none)=_;rw[e4];exact ih _ _ _ h1
noncomputable def treeOf(l:List Obj):BT:=(l.foldl (fun x o=>(x.1.ins x.2 o,x.2+1)) ((BT.nil,0):BT×Nat)).1
-- the run from the start that the kit has laid
noncomputable def ran(p:ξ)(N:Nat)(w:τ)(os:OsState):Option SharedT:=
 QL treeTable p w 11 (some (.ref 6)) N ⟨treeOf (boot_heap w.params).objs.toList,11,{},Array.mk [],boot_drawn,boot_toks,os⟩ (topStub p)
-- what is looked at behind the run
noncomputable def looked(p q:ξ)(loose:List Str)(Xt:η->Bool)(g0:Bool)(h:Heap)(s:η):=
 ((staticsOk (importedModules p.main.body) h s.heap&&namesBound p s.heap&&gensDone s&&laidKept h s.heap),openSeen q loose (importedModules p.main.body) Xt g0 s)
noncomputable def lH(p q:ξ)(loose:List Str)(Xt:η->Bool)(g0:Bool)(N:Nat):Prop:=
 ∀(w:τ) (os:OsState),(ran p N w os).map (fun s=>looked p q loose Xt g0 (boot_heap w.params) s.abs)=some (true,openGood q loose)
theorem Mq{p q:ξ}{loose:List Str}{Xt:η->Bool}{α:Type}{Yf:η->α}{Ya:τ->α}{N:Nat}{g0:Bool}(r:lH p q loose Xt g0 N)(e:opening p=plainProg p.main.scope.names)(hN:Nat.ble 600 N=true)(f:∀s,fenceModules? p s=some s)(y:∀(w:τ) (os:OsState),(ran p N w os).map (fun s=>Yf s.abs)=some (Ya w)):
  LeftO p q loose Xt Yf Ya N g0:=fun w=>by
 have b:((boot_heap w.params).isNs mainGlobals&&(Array.mk []:Array GenState).size==0,(boot_heap w.params).objs.size,(boot_heap w.params).nsMap mainGlobals "__annotations__")=(true,11,some (.ref 6)):=by kernel_rfl
 have c:absHeap (treeOf (boot_heap w.params).objs.toList) 11 {}=boot_heap w.params:=by kernel_rfl
 obtain⟨⟨h,gs',d',k',os⟩,e1,e'⟩:=Option.map_eq_some_iff.mp (boot_open e hN f w);obtain⟨rfl,rfl,rfl,rfl⟩:h=boot_heap w.params/\gs'=Array.mk []/\d'=boot_drawn/\k'=boot_toks:=by simpa using e'
 obtain⟨b1,b2,b3⟩:_/\_/\_:=by simpa only[Prod.mk.injEq]using b
 obtain⟨s,r1,r2⟩:=Option.map_eq_some_iff.mp (r w os);obtain⟨s',y1,y2⟩:=Option.map_eq_some_iff.mp (y w os);have es:s'=s:=by rw[r1]at y1;injection y1 with y1;exact y1.symm
 subst es;obtain⟨l1,l2⟩:_/\_:=by simpa only[looked,Prod.mk.injEq]using r2
 have t1:=K4 N _ _ _ r1;have ab:SharedT.abs ⟨treeOf (boot_heap w.params).objs.toList,11,{},Array.mk [],boot_drawn,boot_toks,os⟩=⟨boot_heap w.params,Array.mk [],boot_drawn,boot_toks,os⟩:=by unfold SharedT.abs;rw[c]
 rw[ab]at t1;have t:topFrom treeTable p w N ⟨boot_heap w.params,Array.mk [],boot_drawn,boot_toks,os⟩=some s'.abs:=by
  unfold topFrom;dsimp only;rw[b1,b2,b3,t1];show(match staticsOk (importedModules p.main.body) (boot_heap w.params) s'.abs.heap&&namesBound p s'.abs.heap&&gensDone s'.abs&&laidKept (boot_heap w.params) s'.abs.heap with |true=>_|false=>_)=_;rw[l1]
 unfold openEnds;rw[e1];show(topFrom treeTable p w N _).map _=_;rw[t];show some (_,_)=_;rw[l2,y2]
-- what is looked at behind the run, in five groups: a run for each, so that none needs the memory of all
theorem two{α β γ:Type}{o:Option α}{f:α->β}{g:α->γ}{a:β}{b:γ}(h:o.map f=some a)(h':o.map g=some b):o.map (fun s=>(f s,g s))=some (a,b):=by
 cases o with
 |none=>cases h
 |some s=>
  injection h with h
  injection h' with h'
  show some (f s,g s)=_;rw[h,h']
theorem Fd{α β γ:Type}{o:Option α}{f:α->β}{g:α->γ}{a:β}{b:γ}(h:o.map (fun s=>(f s,g s))=some (a,b)):o.map f=some a/\o.map g=some b:=by
 cases o with
 |none=>cases h
 |some s=>
  injection h with h
  injection h with h h'
  exact⟨iy some h,iy some h'⟩
theorem both{α:Type}{o:Option α}{f g:α->Bool}(h:o.map f=some true)(h':o.map g=some true):o.map (fun s=>f s&&g s)=some true:=by
 cases o with
 |none=>cases h
 |some s=>
  injection h with h
  injection h' with h'
  show some (f s&&g s)=_;rw[h,h'];rfl
section
variable(p q:ξ)(Xt:η->Bool)(N:Nat)
noncomputable abbrev GA:Prop:=∀(w:τ) (os:OsState),(ran p N w os).map (fun s=>(seen ((recsOf q).map (·.name)) (ownsOf q) [] {s.abs with gens:=#[]},s.abs.heap.bltView,s.abs.heap.isNs mainGlobals,s.abs.heap.isNs builtinsNs,tablesOk q s.abs.heap,s.abs.gens.size==0))=some (expectedOf q,bltViewBooted,true,true,true,true)
noncomputable abbrev GB:Prop:=∀(w:τ) (os:OsState),(ran p N w os).map (fun s=>(s.abs.heap.keysOk (looseW q []) ((recsOf q).map (·.name)) ((litsOf q).map (·.1)) ((clssOf q (looseW q [])).map (·.name)),(staticsOk (importedModules p.main.body) (boot_heap w.params) s.abs.heap&&namesBound p s.abs.heap&&gensDone s.abs&&laidKept (boot_heap w.params) s.abs.heap),s.abs.heap.accountedOkI (importedModules p.main.body),Xt s.abs,plainSeenD q [] s.abs))=some (true,true,true,true,plainGoodD q [])
noncomputable abbrev GC:Prop:=∀(w:τ) (os:OsState),(ran p N w os).map (fun s=>(tabsOk q s.abs,pinSeenD q (drecsOf q) s.abs))=some (true,pinGoodD (drecsOf q))
noncomputable abbrev GD:Prop:=∀(w:τ) (os:OsState),(ran p N w os).map (fun s=>plainSeenE q (looseW q []) s.abs)=some (plainGoodE q (looseW q []))
noncomputable abbrev GE:Prop:=∀(w:τ) (os:OsState),(ran p N w os).map (fun s=>(wideSeen q s.abs,clsSeenW q [] s.abs))=some (wideGood q,clsGoodW q [])
end
theorem HF{p q:ξ}{Xt:η->Bool}{N:Nat}(ga:GA p q N)(gb:GB p q Xt N)(gc:GC p q N)(gd:GD p q N)(ge:GE p q N):lH p q [] Xt true N:=fun w os=>by
 obtain⟨h1,a2⟩:=Fd (ga w os);obtain⟨h2,a3⟩:=Fd a2;obtain⟨h5,a4⟩:=Fd a3;obtain⟨h6,a5⟩:=Fd a4;obtain⟨h7,h9⟩:=Fd a5;obtain⟨h3,b2⟩:=Fd (gb w os);obtain⟨h0,b3⟩:=Fd b2;obtain⟨h4,b4⟩:=Fd b3;obtain⟨h8,k4⟩:=Fd b4;obtain⟨k1,k2⟩:=Fd (gc w os);obtain⟨k5,k6⟩:=Fd (ge w os);exact two h0 (two h1 (two h2 (two (both (both (both (both (both (both h3 h4) h5) h6) h7) h8) h9) (two k1 (two k2 (two (gd w os) (two k4 (two k5 k6))))))))
end Hd
section
open PySem PySem.W PyProof.Rows
namespace Hd
noncomputable abbrev L:=PySem.Challenge.rw_hueshare_k42_ways_and_greedy_refused
noncomputable def Q:ξ:=view L.row.toRowW.prog [1,2,3,4,5,6,7,8,9,10,12,13,14,15,16,17,18,19,20,21,22,23,24,25,26,28,29,30,32,33,34,35,36,37,39,40,41,42,43,44,46,48,49,50,51,53,54,55,56,57,58,59,60,62,63,64,65,66,67,68,69,70,71,72]
noncomputable abbrev X:η->Bool:=fun s=>xlAt Q [] s&&recOk (RowW.records L.row.toRowW) s
set_option maxRecDepth 100000 in
theorem g0:GA L.row.toRowW.prog Q 8190:=fun w os=>by kernel_rfl
set_option maxRecDepth 100000 in
theorem g1:GB L.row.toRowW.prog Q X 8190:=fun w os=>by kernel_rfl
set_option maxRecDepth 100000 in
theorem g2:GC L.row.toRowW.prog Q 8190:=fun w os=>by kernel_rfl
set_option maxRecDepth 100000 in
theorem g3:GD L.row.toRowW.prog Q 8190:=fun w os=>by kernel_rfl
set_option maxRecDepth 100000 in
theorem g4:GE L.row.toRowW.prog Q 8190:=fun w os=>by kernel_rfl
theorem looks:lH L.row.toRowW.prog Q [] X true 8190:=HF g0 g1 g2 g3 g4
end Hd
local macro_rules
 |`(tactic|o_head $H)=>`(tactic|
  refine holds_open (q:=Hd.Q) (loose:=[]) (N:=8190) (Xt:=Hd.X) (XP:=XL Hd.Q [])
   (Yf:=Hook.obs $H) (Ya:=Hook.val $H) (YP:=Hook.says $H)
   (Hd.Mq Hd.looks (by kernel_rfl) rfl (fun _=>by kernel_rfl) (fun _ _=>by kernel_rfl))
   (Hook.of $H) (Hook.keeps $H) (fun s e=>xl_of s (Bool.and_eq_true_iff.mp e).1) XL.keeps
   (by rfl) (by rfl) (by rfl) (fun s e=>recFacts_of (Bool.and_eq_true_iff.mp e).2) (by rfl)
   (by first |assumption|decide+kernel) (by decide+kernel) ⟨rfl,rfl,rfl,rfl,rfl,by decide+kernel⟩ ?hw ?hc)
set_option maxRecDepth 100000 in
set_option maxHeartbeats 0 in
noncomputable def Hd.early:PSigma fun P:Prop=>P->PySem.Challenge.rw_hueshare_k42_ways_and_greedy_refused.Holds:=by
 refine⟨?P,fun W=> ?_⟩
 rotate_left
 w_on;o_law;k_head;(case hw=>w_witness2)
 exact W
end
namespace L2
open PySem PySem.Spec PyProof.Rows
noncomputable abbrev Key:=Sum Int Str
noncomputable def keyIs:Key->ζ->Bool
 | .inl k,v=>Value.isInt k v
 | .inr x,v=>Value.isStrOf x v
noncomputable def keyH(w:τ):Key->Int
 | .inl k=>hashInt k
 | .inr x=>hashStr w x
theorem JL:∀{k:Key} {v:ζ},keyIs k v=true->(∃i t,k=Sum.inl i/\v=Value.int i t)\/(∃x t,k=Sum.inr x/\v=Value.str x t)
 | .inl i,v,h=>by
  obtain⟨t,e⟩:=Value.isInt_shape (k:=i) (v:=v) h;exact .inl ⟨i,t,rfl,e⟩
 | .inr x,v,h=>by
  obtain⟨t,e⟩:=Value.isStrOf_shape (x:=x) (v:=v) h;exact .inr ⟨x,t,rfl,e⟩
theorem keyIs_int(i:Int)(t:Tok):keyIs (.inl i) (.int i t)=true:=by simp[keyIs,Value.isInt]
theorem keyIs_str(x:Str)(t:Tok):keyIs (.inr x) (.str x t)=true:=by simp[keyIs,Value.isStrOf]
theorem key_ll(a b:Int):decide ((Sum.inl a:Key)=Sum.inl b)=(a==b):=by
 by_cases e:a=b
 ·subst e;simp
 ·have h:¬(Sum.inl a:Key)=Sum.inl b:=fun q=>e (Sum.inl.inj q);rw[cI h];exact(beq_eq_false_iff_ne.mpr e).symm
theorem key_rr(a b:Str):decide ((Sum.inr a:Key)=Sum.inr b)=decide (a=b):=by
 by_cases e:a=b
 ·subst e;simp
 ·have h:¬(Sum.inr a:Key)=Sum.inr b:=fun q=>e (Sum.inr.inj q);rw[cI h,cI e]
theorem key_lr(a:Int)(b:Str):decide ((Sum.inl a:Key)=Sum.inr b)=false:=cI (fun q=>nomatch q)
theorem key_rl(a:Str)(b:Int):decide ((Sum.inr a:Key)=Sum.inl b)=false:=cI (fun q=>nomatch q)
noncomputable def mixKind(prog:ξ)(w:τ):PySem.KeyKind prog w Key where
 is:=keyIs
 hash:=keyH w
 inj:=fun v a b ha hb=>by
  rcases JL ha with⟨i,t,rfl,rfl⟩|⟨x,t,rfl,rfl⟩
  ·rcases JL hb with⟨j,u,rfl,e⟩|⟨y,u,rfl,e⟩
   ·injection e with e1 _;rw[e1]
   ·exact nomatch e
  ·rcases JL hb with⟨j,u,rfl,e⟩|⟨y,u,rfl,e⟩
   ·exact nomatch e
   ·injection e with e1 _;rw[e1]
 byValue:=fun k v h=>by
  rcases JL h with⟨i,t,rfl,rfl⟩|⟨x,t,rfl,rfl⟩<;>rfl
 pyHash:=fun hv h=>by
  rcases JL hv with⟨i,t,rfl,rfl⟩|⟨x,t,rfl,rfl⟩
  ·exact wpAny_pyHash_int h
  ·exact wpAny_pyHash_str h
 eqBool:=fun hu hv h=>by
  rcases JL hu with⟨i,t,rfl,rfl⟩|⟨x,t,rfl,rfl⟩
  ·rcases JL hv with⟨j,u,rfl,rfl⟩|⟨y,u,rfl,rfl⟩
   ·rw[key_ll]at h;exact wpAny_eqBool_int h
   ·rw[key_lr]at h;exact SeqAt.EqAt.int_str i t y u _ _ _ _ h
  ·rcases JL hv with⟨j,u,rfl,rfl⟩|⟨y,u,rfl,rfl⟩
   ·rw[key_rl]at h;exact SeqAt.EqAt.str_int x t j u _ _ _ _ h
   ·rw[key_rr]at h;exact wpAny_eqBool_str h
 «strs»:=fun k x t v h=>by
  rcases JL h with⟨i,u,rfl,e⟩|⟨y,u,rfl,e⟩
  ·exact nomatch e
  ·injection e with e1 _
   subst e1;cases v<;>rfl
theorem mixKind_int(prog:ξ)(w:τ)(i:Int)(t:Tok):(mixKind prog w).is (.inl i) (.int i t)=true:=keyIs_int i t
theorem mixKind_str(prog:ξ)(w:τ)(x:Str)(t:Tok):(mixKind prog w).is (.inr x) (.str x t)=true:=keyIs_str x t
inductive V where
 |non|bl (b:Bool)|int (i:Int)|str (x:Str)|byt (b:Array UInt8)|flt (b:UInt64)|ref (a:Addr)|ty (n:String)
 deriving DecidableEq
noncomputable def RelV:V->ζ->Prop
 | .non,u=>u=Value.none
 | .bl b,u=>u=Value.bool b
 | .int i,u=>∃t,u=Value.int i t
 | .str x,u=>∃t,u=Value.str x t
 | .byt b,u=>∃t,u=Value.bytes b t
 | .flt b,u=>∃t,u=Value.float b t
 | .ref a,u=>u=Value.ref a
 | .ty n,u=>u=Value.type n
noncomputable abbrev Vals:List V->List ζ->Prop:=Paired RelV
theorem Vals.length{xs:List V}{us:List ζ}(r:Vals xs us):xs.length=us.length:=U4 r
theorem Vals.get:∀{xs:List V} {us:List ζ} {i:Nat} {x:V},Vals xs us->xs[i]? =some x->∃u,us[i]? =some u/\RelV x u
 |_,_,_,_,.nil,e=>by simp at e
 |_,_,0,_,.cons r _,e=>by simp at e;subst e;exact⟨_,rfl,r⟩
 |_,_,i+1,x,.cons _ t,e=>by
  obtain⟨u,h1,h2⟩:=Vals.get (i:=i) (x:=x) t (by simpa using e);exact⟨u,by simpa using h1,h2⟩
theorem Vals.set{x:V}{u:ζ}(r:RelV x u):∀{xs:List V} {us:List ζ} (i:Nat),Vals xs us->Vals (xs.set i x) (us.set i u)
 |_,_,_,.nil=> .nil
 |_,_,0,.cons _ t=> .cons r t
 |_,_,i+1,.cons q t=> .cons q (Vals.set r i t)
theorem Vals.append:∀{xs ys:List V} {us ws:List ζ},Vals xs us->Vals ys ws->Vals (xs++ys) (us++ws)
 |_,_,_,_,.nil,s=>s
 |_,_,_,_,.cons r t,s=> .cons r (Vals.append t s)
theorem Vals.take:∀{xs:List V} {us:List ζ} (n:Nat),Vals xs us->Vals (xs.take n) (us.take n)
 |_,_,0,_=> .nil
 |_,_,_+1,.nil=> .nil
 |_,_,n+1,.cons r t=> .cons r (Vals.take n t)
theorem Vals.drop:∀{xs:List V} {us:List ζ} (n:Nat),Vals xs us->Vals (xs.drop n) (us.drop n)
 |_,_,0,r=>r
 |_,_,_+1,.nil=> .nil
 |_,_,n+1,.cons _ t=>Vals.drop n t
noncomputable def RelO:Option V->Option ζ->Prop
 |some v,some u=>RelV v u
 |none,none=>True
 |_,_=>False
noncomputable def KV{κ:Type}:List (κ×V)->List (κ×ζ)->Prop:=Paired fun(p:κ×V) (q:κ×ζ)=>p.1=q.1/\RelV p.2 q.2
noncomputable def kV:Key->V
 | .inl i=> .int i
 | .inr x=> .str x
inductive HO where
 /-- a list -/
 |lst (xs:List V)
 /-- a tuple (never changes) -/
 |tup (xs:List V)
 /-- a dict whose keys are ints and texts; one whose keys are tuples of ints and texts (the empty one is both) -/
 |dK (kvs:List (Key×V))|dT (kvs:List (List Key×V))
 /-- a set of ints: its members, its size -/
 |set (S:Int->Bool) (n:Nat)
 /-- an instance of the class at C, its dict at dx, its attributes -/
 |ins (C dx:Addr) (fs:List (Str×V))
 /-- the dict of the instance at x -/
 |own (x:Addr)
 /-- the dict of an exception -/
 |xd (fs:List (Str×V))
 /-- a bound method, f of x -/
 |met (f x:Addr)
 /-- a range object lo, lo + 1, .. below hi -/
 |rng (lo hi:Int)
 /-- a thing that is known to the object (the script; a dict while a loop walks it): read, never written while it is so -/
 |frz (o:Obj) (u:HO)
 /-- a code object's table -/
 |tbl (ps:Array ζ)
 /-- any other thing, by what is true of its one object (a def of one's own: SetO a S n := HO.ext fun h => ..) -/
 |ext (φ:Heap->Prop)
noncomputable abbrev Hp:=Addr->Option HO
noncomputable def upd(H:Hp)(a:Addr)(o:HO):Hp:=fun b=>if b=a then some o else H b
theorem aG{H:Hp}{a:Addr}{o:HO}:upd H a o a=some o:=by unfold upd;rw[aL rfl]
theorem cN{H:Hp}{a b:Addr}{o:HO}(h:b≠a):upd H a o b=H b:=by unfold upd;rw[aJ h]
theorem ne_of{H:Hp}{a b:Addr}{o u:HO}(h:H a=some o)(h':H b=some u)(d:o≠u):a≠b:=by
 intro e;subst e;rw[h]at h';exact d (was h')
theorem mQ{H:Hp}{a b:Addr}{o:HO}(h:H a=some o)(h':H b=none):a≠b:=by
 intro e;subst e;rw[h]at h';cases h'
section
variable(P:ξ)(w:τ)
noncomputable def ObjOk(H:Hp)(h:Heap)(a:Addr):HO->Prop
 | .lst xs=>xs.length<=sizeLine/\∃(its:List ζ) (n:Nat),Vals xs its/\h.get? a=some {cls:= .type "list",data:= .seq its.toArray n}
 | .tup xs=>xs.length<=sizeLine/\∃its:List ζ,Vals xs its/\IsTup h a its.toArray
 | .dK kvs=>kvs.length<=sizeLine/\(a==sysModules)=false/\∃vs,KV kvs vs/\h.DictOf (mixKind P w) a vs
 | .dT kvs=>kvs.length<=sizeLine/\(a==sysModules)=false/\∃xs:List (List Key×Addr×ζ),
   Paired (fun(p:List Key×V) (q:List Key×Addr×ζ)=>p.1=q.1/\H q.2.1=some (.tup (p.1.map kV))/\RelV p.2 q.2.2) kvs xs/\
   ∃o es ep,h.get? a=some o/\o.ExactDict/\o.data= .dict es ep/\es.toList=xs.map (entryOfKey (tupleKind (mixKind P w)))/\(xs.map (·.1)).Nodup
 | .set S n=>h.SetOf (intKind P w) a S n
 | .ins C dx fs=>H dx=some (.own a)/\fs.length<=1000/\dx≠a/\h.get? a=some (PySem.W.instObj C dx)/\
   ∃mA,h.Ns1 dx mA/\(∀f,RelO (fs.lookup f) (mA f))/\PySem.Within mA (fs.map (·.1))
 | .own _=>∃o,h.get? a=some o
 | .xd fs=>∃mA,h.Ns1 a mA/\∀f,RelO (fs.lookup f) (mA f)
 | .rng lo hi=>∃t u v,h.get? a=some {cls:= .type "range",data:= .fields #[.int lo t,.int hi u,.int 1 v]}
 | .frz o u=>h.get? a=some o/\ObjOk H h a u
 | .tbl ps=>h.get? a=some {cls:= .none,data:= .fields ps}
 | .met f x=>h.get? a=some (PySem.W.methodObj (.ref f) (.ref x))
 | .ext φ=>φ h/\(∃o,h.get? a=some o)/\∀h1 h2:Heap,φ h1->(∀o,h1.get? a=some o->h2.get? a=some o)->φ h2
noncomputable def HOk(H:Hp)(h:Heap):Prop:=∀a o,H a=some o->ObjOk P w H h a o
end
section
variable{P:ξ}{w:τ}{H H':Hp}{h h':Heap}{a:Addr}{o:HO}
theorem ObjOk.lt(x:ObjOk P w H h a o):a<h.objs.size:=by
 cases o with
 |lst xs=>obtain⟨_,_,_,_,e⟩:=x;exact cO e
 |tup xs=>obtain⟨_,_,_,p⟩:=x;exact p.lt
 |dK kvs=>obtain⟨_,_,_,_,o,_,_,e,_⟩:=x;exact cO e
 |dT kvs=>obtain⟨_,_,_,_,o,_,_,e,_⟩:=x;exact cO e
 |set S n=>obtain⟨o,_,_,_,e,_⟩:=x;exact cO e
 |ins C dx fs=>obtain⟨_,_,_,e,_⟩:=x;exact cO e
 |own y=>obtain⟨_,e⟩:=x;exact cO e
 |xd fs=>obtain⟨_,⟨_,_,_,e,_⟩,_⟩:=x;exact cO e
 |rng lo hi=>obtain⟨_,_,_,e⟩:=x;exact cO e
 |frz ob u=>obtain⟨e,_⟩:=x;exact cO e
 |tbl ps=>exact cO (show h.get? a=some _ from x)
 |met f y=>exact cO (show h.get? a=some _ from x)
 |ext φ=>obtain⟨_,⟨_,e⟩,_⟩:=x;exact cO e
theorem Paired.mapP{α β:Type}{F G:α->β->Prop}:∀{l₁:List α} {l₂:List β},Paired F l₁ l₂->(∀a b,F a b->G a b)->Paired G l₁ l₂
 |_,_,.nil,_=> .nil
 |_,_,.cons r t,f=> .cons (f _ _ r) (Paired.mapP t f)
theorem ObjOk.stay(x:ObjOk P w H h a o)(k:∀b u,(b=a\/H b=some (.own a))->h.get? b=some u->h'.get? b=some u)(ho:∀b,H b=some (.own a)->H' b=some (.own a))(ht:∀b xs,H b=some (.tup xs)->H' b=some (.tup xs)):ObjOk P w H' h' a o:=by
 induction o with
 |lst xs=>obtain⟨z,its,n,r,e⟩:=x;exact⟨z,its,n,r,k _ _ (.inl rfl) e⟩
 |tup xs=>obtain⟨z,its,r,ob,e,c⟩:=x;exact⟨z,its,r,ob,k _ _ (.inl rfl) e,c⟩
 |dK kvs=>obtain⟨z,y,vs,r,ob,es,ep,e,c⟩:=x;exact⟨z,y,vs,r,ob,es,ep,k _ _ (.inl rfl) e,c⟩
 |dT kvs=>
  obtain⟨z,y,xs,r,ob,es,ep,e,c⟩:=x;exact⟨z,y,xs,Paired.mapP r fun p q z=>⟨z.1,ht _ _ z.2.1,z.2.2⟩,ob,es,ep,k _ _ (.inl rfl) e,c⟩
 |set S n=>obtain⟨ob,es,ep,t,e,c⟩:=x;exact⟨ob,es,ep,t,k _ _ (.inl rfl) e,c⟩
 |ins C dx fs=>
  obtain⟨d,z,ne,e,mA,⟨od,es,ep,e2,c⟩,r⟩:=x;exact⟨ho _ d,z,ne,k _ _ (.inl rfl) e,mA,⟨od,es,ep,k _ _ (.inr d) e2,c⟩,r⟩
 |own y=>obtain⟨ob,e⟩:=x;exact⟨ob,k _ _ (.inl rfl) e⟩
 |xd fs=>obtain⟨mA,⟨od,es,ep,e,c⟩,r⟩:=x;exact⟨mA,⟨od,es,ep,k _ _ (.inl rfl) e,c⟩,r⟩
 |rng lo hi=>obtain⟨t,u,v,e⟩:=x;exact⟨t,u,v,k _ _ (.inl rfl) e⟩
 |frz ob u ih=>obtain⟨e,q⟩:=x;exact⟨k _ _ (.inl rfl) e,ih q⟩
 |tbl ps=>
  have e:h.get? a=some {cls:= .none,data:= .fields ps}:=x;show h'.get? a=some {cls:= .none,data:= .fields ps};exact k a _ (.inl rfl) e
 |met f y=>
  have e:h.get? a=some (PySem.W.methodObj (.ref f) (.ref y)):=x;show h'.get? a=some (PySem.W.methodObj (.ref f) (.ref y));exact k a _ (.inl rfl) e
 |ext φ=>obtain⟨p,⟨o,e⟩,st⟩:=x;exact⟨st _ _ p fun o q=>k _ _ (.inl rfl) q,⟨o,k _ _ (.inl rfl) e⟩,st⟩
theorem HOk.lt(x:HOk P w H h)(e:H a=some o):a<h.objs.size:=(x a o e).lt
theorem HOk.fresh(x:HOk P w H h)(e:h.objs.size<=a):H a=none:=by
 cases q:H a with
 |none=>rfl
 |some u=>exact absurd (gR (x.lt q) e) (qK _)
theorem HOk.kept(x:HOk P w H h)(k:∀b u,h.get? b=some u->h'.get? b=some u):HOk P w H h':=fun a o e=>
 (x a o e).stay (fun b u _ q=>k b u q) (fun _ q=>q) fun _ _ q=>q
theorem HOk.laid(x:HOk P w H h)(k:∀b u,h.get? b=some u->h'.get? b=some u)(hp:h.objs.size<=a)(new:ObjOk P w (upd H a o) h' a o):HOk P w (upd H a o) h':=fun b u e=>by
 have hn:=x.fresh hp;by_cases hb:b=a
 ·subst hb;rw[aG]at e;cases e;exact new
 ·rw[cN hb]at e;exact(x b u e).stay (fun c v _ q=>k c v q) (fun c q=>by rw[cN (mQ q hn)];exact q) fun c xs q=>by rw[cN (mQ q hn)];exact q
end
noncomputable def Rd(H:Hp)(a:Addr)(u:HO):Prop:=H a=some u\/∃o,H a=some (.frz o u)
theorem Rd.ok{P:ξ}{w:τ}{H:Hp}{h:Heap}{a:Addr}{u:HO}(r:Rd H a u)(x:HOk P w H h):ObjOk P w H h a u:=by
 rcases r with r|⟨o,r⟩
 ·exact x a u r
 ·obtain⟨_,q⟩:=x a _ r;exact q
noncomputable def Mut:Option HO->Prop
 |some (.lst _)=>True
 |some (.dK _)=>True
 |some (.dT _)=>True
 |some (.set _ _)=>True
 |some (.ins _ _ _)=>True
 |some (.ext _)=>True
 |_=>False
section
variable{P:ξ}{w:τ}{H:Hp}{h h':Heap}{x e:Addr}{o':HO}
theorem HOk.write(ok:HOk P w H h)(mu:Mut (H x))(he:e=x\/H e=some (.own x))(k:∀b u,b≠e->h.get? b=some u->h'.get? b=some u)(heo:∃u,h'.get? e=some u)(new:ObjOk P w (upd H x o') h' x o'):HOk P w (upd H x o') h':=fun b u q=>by
 have nown:∀c y,H c=some (.own y)->c≠x:=fun c y r z=>by subst z;rw[r]at mu;exact mu
 have ntup:∀c xs,H c=some (.tup xs)->c≠x:=fun c xs r z=>by subst z;rw[r]at mu;exact mu
 by_cases hb:b=x
 ·subst hb;rw[aG]at q;cases q;exact new
 ·rw[cN hb]at q;by_cases hbe:b=e
  ·have q':H b=some (.own x):=by
    rcases he with z|z
    ·exact absurd (hbe.trans z) hb
    ·rw[hbe];exact z
   rw[q]at q';cases q';obtain⟨v,hv⟩:=heo;exact⟨v,by rw[hbe];exact hv⟩
  ·refine(ok b u q).stay (fun c v hc r=>k c v ?_ r) (fun c r=>by rw[cN (nown c b r)];exact r) fun c xs r=>by rw[cN (ntup c xs r)];exact r
   rcases hc with rfl|hc
   ·exact hbe
   ·rintro rfl;rcases he with z|z
    ·exact nown c b hc z
    ·rw[hc]at z;cases z;exact hb rfl
end
structure Un(fs ex:List Addr)(H H':Hp)(h h':Heap):Prop where
 keep:∀b o,h.get? b=some o->H b=none->b∉fs->b∉ex->h'.get? b=some o
 slot:∀b o,h.get? b=some o->H b=none->b∈fs->b∉ex->∃sl,h'.get? b=some {o with slots:=sl}
 free:∀b o,h.get? b=some o->H b=none->b∉ex->H' b=none
 there:∀b o,h.get? b=some o->b∉ex->∃o',h'.get? b=some o'
 tups:∀b xs,H b=some (.tup xs)->H' b=some (.tup xs)
 frzs:∀b o u,H b=some (.frz o u)->H' b=some (.frz o u)
 tbls:∀b ps,H b=some (.tbl ps)->∃more,H' b=some (.tbl (ps++more))
section
variable{fs ex:List Addr}{H H1:Hp}{h h1 h':Heap}{a x e:Addr}{o:HO}
theorem Un.any(u:Un fs ex H H1 h h1){b:Addr}{ob:Obj}(q:h.get? b=some ob)(n:H b=none)(hx:b∉ex):∃sl,h1.get? b=some {ob with slots:=sl}:=by
 by_cases hb:b∈fs
 ·exact u.slot b ob q n hb hx
 ·exact⟨ob.slots,u.keep b ob q n hb hx⟩
theorem Un.kept(k:∀b u,h.get? b=some u->h'.get? b=some u):Un fs ex H H h h':=
 ⟨fun b ob q _ _ _=>k b ob q,fun b ob q _ _ _=>⟨ob.slots,k b ob q⟩,fun _ _ _ n _=>n,fun b ob q _=>⟨ob,k b ob q⟩,fun _ _ q=>q,fun _ _ _ q=>q,fun _ ps q=>⟨#[],by rw[q];simp⟩⟩
theorem Un.refl:Un fs ex H H h h:=Un.kept fun _ _ q=>q
theorem Un.laid(k:∀b u,h.get? b=some u->h'.get? b=some u)(hp:h.objs.size<=a)(hn:H a=none):Un fs ex H (upd H a o) h h' where
 keep:=fun b u q _ _ _=>k b u q
 slot:=fun b u q _ _ _=>⟨u.slots,k b u q⟩
 free:=fun b u q n _=>by rw[cN (dX (gR (cO q) hp))];exact n
 there:=fun b u q _=>⟨u,k b u q⟩
 tups:=fun b xs q=>by rw[cN (mQ q hn)];exact q
 frzs:=fun b u xs q=>by rw[cN (mQ q hn)];exact q
 tbls:=fun b ps q=>⟨#[],by rw[cN (mQ q hn),q];simp⟩
theorem Un.write(mu:Mut (H x))(he:e=x\/H e=some (.own x))(k:∀b u,b≠e->h.get? b=some u->h'.get? b=some u)(heo:∃u,h'.get? e=some u):Un fs ex H (upd H x o) h h':=by
 have hx:∀b,H b=none->b≠x:=fun b n z=>by subst z;rw[n]at mu;exact mu
 have hb:∀b,H b=none->b≠e:=fun b n z=>by
  subst z;rcases he with r|r
  ·exact hx b n r
  ·rw[n]at r;cases r
 have hm:∀b u,H b=some u->¬Mut (some u)->b≠x:=fun b u q nm z=>by subst z;rw[q]at mu;exact nm mu
 refine⟨fun b u q n _ _=>k b u (hb b n) q,fun b u q n _ _=>⟨u.slots,k b u (hb b n) q⟩,fun b u q n _=>by rw[cN (hx b n)];exact n,fun b u q _=> ?_,
  fun b xs q=>by rw[cN (hm b _ q fun z=>z)];exact q,fun b u xs q=>by rw[cN (hm b _ q fun z=>z)];exact q,fun b ps q=>⟨#[],by rw[cN (hm b _ q fun z=>z),q];simp⟩⟩
 by_cases hbe:b=e
 ·subst hbe;exact heo
 ·exact⟨u,k b u hbe q⟩
end
noncomputable def trk(h:Heap)(H:Hp):List Addr:=(List.range h.objs.size).filter fun a=>(H a).isSome
noncomputable def hidT(h:Heap)(H:Hp):Heap:=PySem.W.hideAll h (trk h H)
theorem hidT_size(h:Heap)(H:Hp):(hidT h H).objs.size=h.objs.size:=PySem.W.hideAll_size _ _
theorem hidT_get{h:Heap}{H:Hp}{b:Addr}{o:Obj}(e:h.get? b=some o)(n:H b=none):(hidT h H).get? b=some o:=
 W9 _ e fun hm=>by
  have q:(H b).isSome=true:=(dY.mp hm).2;rw[n]at q;simp at q
theorem of_hidT{h:Heap}{H:Hp}{b:Addr}{o:Obj}(e:(hidT h H).get? b=some o):h.get? b=some o/\H b=none:=by
 have e':h.get? b=some o:=PySem.W.of_hideAll (trk h H) e;refine⟨e',?_⟩;cases q:H b with
 |none=>rfl
 |some x=>
  have hm:b∈trk h H:=dY.mpr ⟨wU.mpr (cO e'),by simp[q]⟩;have z:(hidT h H).get? b=none:=PySem.W.hideAll_none (trk h H) hm;rw[z]at e;cases e
structure Mod(K:W.Frag)(mg:L5)(base:Heap):Prop where
 kin:K.In base
 glob:base.Ns mainGlobals mg
 blt:∃mb,base.Ns builtinsNs mb/\∀x:Str,x≠"__name__"->mb x=bootBuiltins x
 nolimit:base.NoLimit
structure Cx where
 prog:ξ
 w:τ
 K:W.Frag
 mg:Str->Option ζ
 base:Heap
 A:υ
 N:List Str
 s₀:η
 H₀:Hp
 env:Env
 outer:List Env
 stack:List Env
 ex:List Addr
 fn:Str->Bool
 calm:Bool
 pn:L1
 xe:ζ->η->Prop
noncomputable def frs(l:List Env):List Addr:=l.filterMap (·.frame)
noncomputable abbrev Cx.fs(X:Cx):List Addr:=frs X.outer
noncomputable def Vis(sc:Scope)(x:Str):Prop:=sc.names.lookup x=some .local\/sc.names.lookup x=some .cell\/sc.names.lookup x=some .free
noncomputable def Loc(sc:Scope)(x:Str):Prop:=sc.names.lookup x=some .local\/sc.names.lookup x=some .cell
noncomputable def Look(env:Env)(h:Heap)(m:L5)(x:Str)(u:ζ):Prop:=
 (env.kindOf x=some .local/\m x=some u)\/((env.kindOf x=some .cell\/env.kindOf x=some .free)/\∃c,env.cells.lookup x=some c/\h.IsCell c (some u))
structure Cx.Ok(X:Cx):Prop where
 mod:Mod X.K X.mg X.base
 kind:X.env.scope.kind= .function
 glob:X.env.globals=mainGlobals
 blt:X.env.builtins=builtinsNs
 above:X.s₀.heap.objs.size<=X.env.locals
 inj:∀x y c,X.env.cells.lookup x=some c->X.env.cells.lookup y=some c->x=y
 has:∀x,(X.env.kindOf x=some .cell\/X.env.kindOf x=some .free)->∃c,X.env.cells.lookup x=some c
 cab:∀x c,X.fn x=true->X.env.cells.lookup x=some c->X.s₀.heap.objs.size<=c
 hd:X.calm=true->X.A.handled=none
 frames:X.A.frames=some X.stack
 stk:X.stack=X.outer\/(X.stack=X.env::X.outer/\X.env.frame=some X.env.locals)
 exf:∀b∈X.ex,b≠X.env.locals/\∀x c,X.env.cells.lookup x=some c->c≠b
 bs:∀b o,X.base.get? b=some o->X.s₀.heap.get? b=some o/\X.H₀ b=none
 bsz:X.base.objs.size<=X.s₀.heap.objs.size
 noex:∀b o,X.base.get? b=some o->b∉X.ex
 exfs:∀b∈X.ex,b∉X.fs
 funs:X.s₀.heap.FunFrames X.base X.outer
 frf:∀b∈X.fs,X.H₀ b=none
structure Inv(X:Cx)(pins:L1)(σ:List (Option V))(H:Hp)(s:η):Prop where
 ok:X.Ok
 os:s.os=X.s₀.os
 bare:AllBare s.gens
 base:Un X.fs X.ex X.H₀ H X.s₀.heap s.heap
 loc:∃m,s.heap.Ns X.env.locals m/\∀(i:Nat) (x:Str) (v:V),X.N[i]? =some x->σ[i]? =some (some v)->Vis X.env.scope x->∃u,RelV v u/\Look X.env s.heap m x u
 cell:∀x c,X.env.cells.lookup x=some c->∃v,s.heap.IsCell c v
 free:H X.env.locals=none
 freeC:∀x c,X.env.cells.lookup x=some c->H c=none
 pin:∀p∈X.pn++pins,s.heap.get? p.1=some p.2/\H p.1=none/\p.1≠X.env.locals/\p.1∉X.fs/\∀v,p.2.data≠.cell v
 hok:HOk X.prog X.w H s.heap
 len:σ.length=X.N.length
section
variable{X:Cx}{pins:L1}{σ:List (Option V)}{H H':Hp}{s:η}{h':Heap}
theorem Cx.Ok.nofr(ok:X.Ok){b:Addr}{o:Obj}(e:X.base.get? b=some o):b∉X.fs:=fun hb=>by
 have:=(ok.funs.mem hb).1;rw[e]at this;cases this
theorem Inv.bs(I:Inv X pins σ H s):∀b o,X.base.get? b=some o->s.heap.get? b=some o/\H b=none:=fun b o e=>
 ⟨I.base.keep b o (I.ok.bs b o e).1 (I.ok.bs b o e).2 (I.ok.nofr e) (I.ok.noex b o e),I.base.free b o (I.ok.bs b o e).1 (I.ok.bs b o e).2 (I.ok.noex b o e)⟩
theorem Inv.bk(I:Inv X pins σ H s):∀b o,X.base.get? b=some o->s.heap.get? b=some o:=fun b o e=>(I.bs b o e).1
theorem Inv.mod(I:Inv X pins σ H s):Mod X.K X.mg X.base:=I.ok.mod
theorem Inv.kIn(I:Inv X pins σ H s):X.K.In s.heap:=I.ok.mod.kin.keeps I.bk
theorem Inv.lt(I:Inv X pins σ H s):X.env.locals<s.heap.objs.size:=let⟨_,hn,_⟩:=I.loc;hn.lt
theorem Inv.sz(I:Inv X pins σ H s):X.s₀.heap.objs.size<=s.heap.objs.size:=cC I.ok.above (wR I.lt)
theorem Inv.nofs(I:Inv X pins σ H s){a:Addr}(h:s.heap.objs.size<=a):a∉X.fs:=fun hb=>by
 obtain⟨_,o,ho,_⟩:=I.ok.funs.mem hb;exact absurd (gR (cO ho) (cC I.sz h)) (qK _)
theorem Inv.cne(I:Inv X pins σ H s):∀x c,X.env.cells.lookup x=some c->c≠X.env.locals:=fun x c e z=>by
 obtain⟨v,o,ho,hd⟩:=I.cell x c e;obtain⟨m,⟨o',es,ep,ho',hd',_⟩,_⟩:=I.loc;rw[z,ho']at ho;cases ho;rw[hd']at hd;cases hd
theorem Inv.funs(I:Inv X pins σ H s):s.heap.FunFrames X.base X.outer:=by
 have all:∀(l:List Env),(∀b∈frs l,b∈X.fs)->X.s₀.heap.FunFrames X.base l->s.heap.FunFrames X.base l:=by
  intro l
  induction l with
  |nil=>intro _ _;trivial
  |cons env r ih=>
   intro hs hl;obtain⟨hk,⟨L,o,hf,hn,ho,hd⟩,hr⟩:=hl;have hL:L∈X.fs:=hs L (by unfold frs;rw[Tn,hf];exact cH);obtain⟨sl,e⟩:=I.base.slot L o ho (I.ok.frf L hL) hL fun z=>I.ok.exfs L z hL;exact⟨hk,⟨L,_,hf,hn,e,hd⟩,ih (fun b hb=>hs b (by unfold frs;rw[Tn,hf];exact cP _ hb)) hr⟩
 exact all X.outer (fun _ hb=>hb) I.ok.funs
theorem Inv.stack(I:Inv X pins σ H s):s.heap.FunFrames X.base X.stack:=by
 rcases I.ok.stk with e|⟨e,hf⟩
 ·rw[e];exact I.funs
 ·rw[e];obtain⟨m,hn,_⟩:=I.loc;refine .cons (by rw[I.ok.kind];decide) hf hn ?_ I.funs;exact Heap.get?_none_of_le (cC I.ok.bsz I.ok.above)
theorem Inv.stkSub(I:Inv X pins σ H s):∀b∈frs X.stack,b∈X.env.locals::X.fs:=fun b hb=>by
 rcases I.ok.stk with e|⟨e,hf⟩
 ·rw[e]at hb;exact cP _ hb
 ·rw[e]at hb;unfold frs at hb;rw[Tn,hf]at hb;exact hb
theorem Inv.stkFree(I:Inv X pins σ H s):∀b∈frs X.stack,H b=none:=fun b hb=>by
 rcases cD.mp (I.stkSub b hb)with e|hb
 ·rw[e];exact I.free
 ·obtain⟨_,o,ho,_⟩:=I.ok.funs.mem hb;exact I.base.free b o ho (I.ok.frf b hb) fun z=>I.ok.exfs b z hb
theorem Inv.step{g':Array GenState}{t':Nat}{d':Drawn}{ch:List Addr}(I:Inv X pins σ H s)(hch:∀b∈ch,(b∈X.ex\/X.s₀.heap.objs.size<=b)/\b≠X.env.locals/\(∀x c,X.env.cells.lookup x=some c->c≠b)/\∀p∈X.pn++pins,p.1≠b)(keep:∀b o,b≠X.env.locals->b∉X.fs->b∉ch->s.heap.get? b=some o->H b=none->h'.get? b=some o)(slot:∀b o,b≠X.env.locals->b∈X.fs->b∉ch->s.heap.get? b=some o->H b=none->∃sl,h'.get? b=some {o with slots:=sl})(free:∀b o,b∉ch->s.heap.get? b=some o->H b=none->H' b=none)(there:∀b o,b∉ch->s.heap.get? b=some o->∃o',h'.get? b=some o')(tups:∀b xs,H b=some (.tup xs)->H' b=some (.tup xs))(frzs:∀b o u,H b=some (.frz o u)->H' b=some (.frz o u))(tbls:∀b ps,H b=some (.tbl ps)->∃more,H' b=some (.tbl (ps++more)))(ns:∀m,s.heap.Ns X.env.locals m->h'.Ns X.env.locals m)(hok:HOk X.prog X.w H' h')(hg:AllBare g'):
  Inv X pins σ H' {s with heap:=h',gens:=g',drawn:=d',toks:=t'}:=by
 have neL:∀b o,X.s₀.heap.get? b=some o->b≠X.env.locals:=fun b o e=>dX (gR (cO e) I.ok.above);have neC:∀b o,X.s₀.heap.get? b=some o->b∉X.ex->b∉ch:=fun b o e hx hb=>by
  rcases(hch b hb).1 with z|z
  ·exact hx z
  ·exact absurd (gR (cO e) z) (qK _)
 have cellK:∀x c,X.env.cells.lookup x=some c->∀v,s.heap.IsCell c v->h'.IsCell c v:=fun x c e v ⟨o,ho,hd⟩=>by
  have nch:c∉ch:=fun z=>(hch c z).2.2.1 x c e rfl;by_cases hc:c∈X.fs
  ·obtain⟨sl,q⟩:=slot c o (I.cne x c e) hc nch ho (I.freeC x c e);exact⟨_,q,hd⟩
  ·exact⟨o,keep c o (I.cne x c e) hc nch ho (I.freeC x c e),hd⟩
 refine⟨I.ok,I.os,hg,⟨fun b o e n hb hx=> ?_,fun b o e n hb hx=> ?_,fun b o e n hx=> ?_,fun b o e hx=> ?_,fun b xs e=>tups b xs (I.base.tups b xs e),fun b o xs e=>frzs b o xs (I.base.frzs b o xs e),fun b ps e=> ?_⟩,?_,fun x c e=> ?_,?_,fun x c e=> ?_,fun p hp=> ?_,hok,I.len⟩
 ·exact keep b o (neL b o e) hb (neC b o e hx) (I.base.keep b o e n hb hx) (I.base.free b o e n hx)
 ·obtain⟨sl,e1⟩:=I.base.slot b o e n hb hx;obtain⟨sl',e2⟩:=slot b _ (neL b o e) hb (neC b o e hx) e1 (I.base.free b o e n hx);exact⟨sl',e2⟩
 ·obtain⟨o',e1⟩:=I.base.there b o e hx;exact free b o' (neC b o e hx) e1 (I.base.free b o e n hx)
 ·obtain⟨o',e1⟩:=I.base.there b o e hx;exact there b o' (neC b o e hx) e1
 ·obtain⟨m1,e1⟩:=I.base.tbls b ps e;obtain⟨m2,e2⟩:=tbls b _ e1;exact⟨m1++m2,by rw[e2,Array.append_assoc]⟩
 ·obtain⟨m,hn,hl⟩:=I.loc;refine⟨m,ns m hn,fun i x v e1 e2 e3=> ?_⟩;obtain⟨u,r,l⟩:=hl i x v e1 e2 e3;refine⟨u,r,?_⟩;rcases l with l|⟨k,c,e,z⟩
  ·exact .inl l
  ·exact .inr ⟨k,c,e,cellK x c e _ z⟩
 ·obtain⟨v,z⟩:=I.cell x c e;exact⟨v,cellK x c e v z⟩
 ·obtain⟨m,⟨o,_,_,ho,_⟩,_⟩:=I.loc;exact free _ o (fun z=>(hch _ z).2.1 rfl) ho I.free
 ·obtain⟨v,o,ho,hd⟩:=I.cell x c e;exact free c o (fun z=>(hch c z).2.2.1 x c e rfl) ho (I.freeC x c e)
 ·obtain⟨e,n,ne,nf,d⟩:=I.pin p hp;have nch:p.1∉ch:=fun z=>(hch p.1 z).2.2.2 p hp rfl;exact⟨keep p.1 p.2 ne nf nch e n,free p.1 p.2 nch e n,ne,nf,d⟩
theorem Inv.un{t':Nat}(I:Inv X pins σ H s)(u:Un X.fs [] H H' s.heap h')(hok:HOk X.prog X.w H' h'):Inv X pins σ H' {s with heap:=h',toks:=t'}:=by
 obtain⟨m,⟨o,es,ep,ho,r⟩,_⟩:=id I.loc;obtain⟨sl,hL⟩:=u.any ho I.free (by simp);exact I.step (g':=s.gens) (d':=s.drawn) (ch:=[]) (fun _ z=>nomatch z) (fun b o _ hb _ e n=>u.keep b o e n hb (by simp)) (fun b o _ hb _ e n=>u.slot b o e n hb (by simp)) (fun b o _ e n=>u.free b o e n (by simp)) (fun b o _ e=>u.there b o e (by simp)) u.tups u.frzs u.tbls (fun m' hm=>by
  obtain⟨o',es',ep',ho',r'⟩:=hm;rw[ho]at ho';cases ho';exact⟨_,es',ep',hL,r'⟩) hok I.bare
theorem Inv.call{g':Array GenState}{t':Nat}{d':Drawn}{ch:List Addr}(I:Inv X pins σ H s)(u:Un (frs X.stack) ch H H' s.heap h')(hok:HOk X.prog X.w H' h')(hg:AllBare g')(hch:∀b∈ch,(b∈X.ex\/X.s₀.heap.objs.size<=b)/\b≠X.env.locals/\(∀x c,X.env.cells.lookup x=some c->c≠b)/\∀p∈X.pn++pins,p.1≠b):
  Inv X pins σ H' {s with heap:=h',gens:=g',drawn:=d',toks:=t'}:=by
 obtain⟨m,⟨o,es,ep,ho,r⟩,_⟩:=id I.loc;obtain⟨sl,hL⟩:=u.any ho I.free fun z=>(hch _ z).2.1 rfl;exact I.step (ch:=ch) hch (fun b o hL hb hc e n=>u.keep b o e n (fun z=>(cD.mp (I.stkSub b z)).elim hL hb) hc) (fun b o _ _ hc e n=>u.any e n hc) (fun b o hc e n=>u.free b o e n hc) (fun b o hc e=>u.there b o e hc) u.tups u.frzs u.tbls (fun m' hm=>by
  obtain⟨o',es',ep',ho',r'⟩:=hm;rw[ho]at ho';cases ho';exact⟨_,es',ep',hL,r'⟩) hok hg
theorem Inv.turned{t':Nat}{it:Addr}(I:Inv X pins σ H s)(k:∀b o,b≠it->s.heap.get? b=some o->h'.get? b=some o)(hn:H it=none)(hL:it≠X.env.locals)(h1:it∈X.ex\/X.s₀.heap.objs.size<=it)(h2:∀x c,X.env.cells.lookup x=some c->c≠it)(h3:∀p∈X.pn++pins,p.1≠it):Inv X pins σ H {s with heap:=h',toks:=t'}:=by
 have nit:∀b u,H b=some u->b≠it:=fun b u e z=>by rw[z,hn]at e;cases e
 refine I.step (g':=s.gens) (d':=s.drawn) (ch:=[it]) (fun b hb=> ?_) (fun b o _ _ hc e _=>k b o (fun z=>hc (by simp[z])) e) (fun b o _ _ hc e _=>⟨o.slots,k b o (fun z=>hc (by simp[z])) e⟩) (fun _ _ _ _ n=>n)
  (fun b o hc e=>⟨o,k b o (fun z=>hc (by simp[z])) e⟩) (fun _ _ e=>e) (fun _ _ _ e=>e) (fun b ps e=>⟨#[],by rw[e];simp⟩) (fun m hm=> ?_) (fun b u e=> ?_) I.bare
 ·have e:b=it:=by simpa using hb
  subst e;exact⟨h1,hL,h2,h3⟩
 ·obtain⟨o,es,ep,ho,r⟩:=hm;exact⟨o,es,ep,k _ o (uo hL) ho,r⟩
 ·refine(I.hok b u e).stay (fun c v hc q=>k c v ?_ q) (fun _ q=>q) fun _ _ q=>q;rcases hc with z|z
  ·rw[z];exact nit b u e
  ·exact nit c _ z
theorem Inv.tok(I:Inv X pins σ H s)(t:Nat):Inv X pins σ H {s with toks:=t}:=I.un (h':=s.heap) (t':=t) Un.refl I.hok
theorem Inv.kept{t':Nat}(I:Inv X pins σ H s)(k:∀b u,s.heap.get? b=some u->h'.get? b=some u):Inv X pins σ H {s with heap:=h',toks:=t'}:=I.un (Un.kept k) (I.hok.kept k)
theorem Inv.laid{a:Addr}{o:HO}{t':Nat}(I:Inv X pins σ H s)(k:∀b u,s.heap.get? b=some u->h'.get? b=some u)(hp:s.heap.objs.size<=a)(new:ObjOk X.prog X.w (upd H a o) h' a o):
  Inv X pins σ (upd H a o) {s with heap:=h',toks:=t'}:=I.un (Un.laid k hp (I.hok.fresh hp)) (I.hok.laid k hp new)
theorem Inv.write{x e:Addr}{o:HO}{t':Nat}(I:Inv X pins σ H s)(mu:Mut (H x))(he:e=x\/H e=some (.own x))(k:∀b u,b≠e->s.heap.get? b=some u->h'.get? b=some u)(heo:∃u,h'.get? e=some u)(new:ObjOk X.prog X.w (upd H x o) h' x o):Inv X pins σ (upd H x o) {s with heap:=h',toks:=t'}:=I.un (Un.write mu he k heo) (I.hok.write mu he k heo new)
theorem Inv.pins_of{pins':L1}(I:Inv X pins σ H s)(h:∀p∈pins',s.heap.get? p.1=some p.2/\H p.1=none/\p.1≠X.env.locals/\p.1∉X.fs/\∀v,p.2.data≠.cell v):Inv X pins' σ H s:=
 ⟨I.ok,I.os,I.bare,I.base,I.loc,I.cell,I.free,I.freeC,fun p hp=>(fH.mp hp).elim (fun z=>I.pin p (Qj _ z)) (h p),I.hok,I.len⟩
theorem nodup_ix{N:List Str}(hN:N.Nodup){i j:Nat}{x:Str}(a:N[i]? =some x)(b:N[j]? =some x):i=j:=by
 obtain⟨h1,e1⟩:=qW.mp a;obtain⟨h2,e2⟩:=qW.mp b;exact(List.getElem_inj hN).mp (e1.trans e2.symm)
theorem store_ok2{M:Model}{A:υ}{E:L4}{i:Nat}{x:Str}{v:V}{u:ζ}{Q:Unit->η->Prop}(I:Inv X pins σ H s)(hN:X.N.Nodup)(hi:X.N[i]? =some x)(hx:Loc X.env.scope x)(r:RelV v u)(h:∀s',Inv X pins (σ.set i (some v)) H s'->(∃a,Heap.SameBut a s.heap s'.heap/\(a=X.env.locals\/X.env.cells.lookup x=some a))->Q () s')(hf:X.fn x=true\/X.env.scope.names.lookup x=some .local:=by first |exact .inl rfl|exact .inr rfl|assumption):wpAny M A (storeName X.env x u) Q E s:=by
 obtain⟨m,hn,hl⟩:=id I.loc;have hcls:(X.env.scope.kind== .class||(X.env.scope.kind== .module&&X.env.locals !=X.env.globals))=false:=by rw[I.ok.kind];rfl
 have hiσ:i<σ.length:=by rw[I.len];exact(qW.mp hi).1
 have cne:=I.cne;have tracked:∀{a:Addr} {h':Heap},(∃o,s.heap.get? a=some o/\H a=none)->Heap.SameBut a s.heap h'->HOk X.prog X.w H h':=fun{a h'} ha hs b ob e=>by
  obtain⟨_,_,hfree⟩:=ha;refine(I.hok b ob e).stay (fun c w' hc q=>(hs.2 c ?_).trans q) (fun _ q=>q) fun _ _ q=>q;rintro rfl;rcases hc with rfl|hc
  ·rw[hfree]at e;cases e
  ·rw[hfree]at hc;cases hc
 rcases hx with hk|hk
 ·refine wpAny_storeName_local hk hn (fun h' hn' hs=> ?_) hcls;obtain⟨oL,_,_,hoL,_⟩:=id hn;refine h _ ⟨I.ok,I.os,I.bare,⟨fun b o e n hb hx=> ?_,fun b o e n hb hx=> ?_,I.base.free,fun b o e hx=> ?_,I.base.tups,I.base.frzs,I.base.tbls⟩,⟨_,hn',fun j y v' e1 e2 e3=> ?_⟩,fun y c e=> ?_,I.free,I.freeC,fun p hp=> ?_,tracked ⟨oL,hoL,I.free⟩ hs,by simpa using I.len⟩ ⟨_,hs,.inl rfl⟩
  ·exact(hs.2 b (dX (gR (cO e) I.ok.above))).trans (I.base.keep b o e n hb hx)
  ·obtain⟨sl,e1⟩:=I.base.slot b o e n hb hx;exact⟨sl,(hs.2 b (dX (gR (cO e) I.ok.above))).trans e1⟩
  ·obtain⟨o',e1⟩:=I.base.there b o e hx;exact⟨o',(hs.2 b (dX (gR (cO e) I.ok.above))).trans e1⟩
  ·by_cases hj:j=i
   ·subst hj;rw[hi]at e1;cases e1;rw[Wx hiσ]at e2;cases e2;exact⟨u,r,.inl ⟨hk,by simp⟩⟩
   ·rw[Wt (uo hj)]at e2;obtain⟨u',r',q⟩:=hl j y v' e1 e2 e3;refine⟨u',r',?_⟩;rcases q with⟨k,e⟩|⟨k,c,e,z⟩
    ·refine .inl ⟨k,?_⟩;have:y≠x:=fun e=>hj (nodup_ix hN e1 (e▸hi));simp[this,e]
    ·exact .inr ⟨k,c,e,z.sameBut hs (cne y c e)⟩
  ·obtain⟨w',z⟩:=I.cell y c e;exact⟨w',z.sameBut hs (cne y c e)⟩
  ·obtain⟨e,n,ne,nf,d⟩:=I.pin p hp;exact⟨(hs.2 p.1 ne).trans e,n,ne,nf,d⟩
 ·have hfn:X.fn x=true:=by
   rcases hf with z|z
   ·exact z
   ·rw[z]at hk;cases hk
  obtain⟨c,hc⟩:=I.ok.has x (.inl hk);obtain⟨w',z⟩:=I.cell x c hc;refine wpAny_storeName_cell I.ok.kind hk hc z (fun h' hc' hs=> ?_);obtain⟨oc,hoc,hocd⟩:=id z;refine h {s with heap:=h'} ⟨I.ok,I.os,I.bare,⟨fun b o e n hb hx=> ?_,fun b o e n hb hx=> ?_,I.base.free,fun b o e hx=> ?_,I.base.tups,I.base.frzs,I.base.tbls⟩,⟨m,hn.sameBut hs (uo (cne x c hc)),fun j y v' e1 e2 e3=> ?_⟩,fun y c' e=> ?_,I.free,I.freeC,fun p hp=> ?_,tracked ⟨oc,hoc,I.freeC x c hc⟩ hs,by simpa using I.len⟩ ⟨c,hs,.inr hc⟩
  ·exact(hs.2 b (dX (gR (cO e) (I.ok.cab x c hfn hc)))).trans (I.base.keep b o e n hb hx)
  ·obtain⟨sl,e1⟩:=I.base.slot b o e n hb hx;exact⟨sl,(hs.2 b (dX (gR (cO e) (I.ok.cab x c hfn hc)))).trans e1⟩
  ·obtain⟨o',e1⟩:=I.base.there b o e hx;exact⟨o',(hs.2 b (dX (gR (cO e) (I.ok.cab x c hfn hc)))).trans e1⟩
  ·by_cases hj:j=i
   ·subst hj;rw[hi]at e1;cases e1;rw[Wx hiσ]at e2;cases e2;exact⟨u,r,.inr ⟨.inl hk,c,hc,hc'⟩⟩
   ·rw[Wt (uo hj)]at e2;obtain⟨u',r',q⟩:=hl j y v' e1 e2 e3;refine⟨u',r',?_⟩;rcases q with q|⟨k,c',e,z'⟩
    ·exact .inl q
    ·refine .inr ⟨k,c',e,z'.sameBut hs ?_⟩;rintro rfl;exact hj (nodup_ix hN e1 (I.ok.inj _ _ _ e hc▸hi))
  ·by_cases hcc:c'=c
   ·subst hcc;exact⟨_,hc'⟩
   ·obtain⟨w2,z2⟩:=I.cell y c' e;exact⟨w2,z2.sameBut hs hcc⟩
  ·obtain⟨e,n,ne,nf,d⟩:=I.pin p hp;refine⟨(hs.2 p.1 ?_).trans e,n,ne,nf,d⟩;intro q;rw[q,hoc]at e;have q':oc=p.2:=was e;exact d w' (by rw[<-q'];exact hocd)
theorem store_ok{M:Model}{A:υ}{E:L4}{i:Nat}{x:Str}{v:V}{u:ζ}{Q:Unit->η->Prop}(I:Inv X pins σ H s)(hN:X.N.Nodup)(hi:X.N[i]? =some x)(hx:Loc X.env.scope x)(r:RelV v u)(h:∀s',Inv X pins (σ.set i (some v)) H s'->Q () s')(hf:X.fn x=true\/X.env.scope.names.lookup x=some .local:=by first |exact .inl rfl|exact .inr rfl|assumption):wpAny M A (storeName X.env x u) Q E s:=
 store_ok2 I hN hi hx r (fun s' I' _=>h s' I') hf
theorem Inv.call'{s':η}{ch:List Addr}(I:Inv X pins σ H s)(ho:s'.os=s.os)(u:Un (frs X.stack) ch H H' s.heap s'.heap)(hok:HOk X.prog X.w H' s'.heap)(hg:AllBare s'.gens)(hch:∀b∈ch,(b∈X.ex\/X.s₀.heap.objs.size<=b)/\b≠X.env.locals/\(∀x c,X.env.cells.lookup x=some c->c≠b)/\∀p∈X.pn++pins,p.1≠b):Inv X pins σ H' s':=by
 obtain⟨h',g',d',t',o'⟩:=s';have e:o'=s.os:=ho;subst e;exact I.call (g':=g') (t':=t') (d':=d') u hok hg hch
end
noncomputable abbrev XK:=ζ->Option Addr->Hp->Prop
noncomputable abbrev St:=List (Option V)
noncomputable abbrev VK:=V->Hp->Prop
noncomputable abbrev TE:=St->Hp->VK->Prop
noncomputable abbrev TT:=St->Hp->(Bool->Hp->Prop)->Prop
noncomputable abbrev TA:=St->Hp->(List V->Hp->Prop)->Prop
structure Ends where
 nx:St->Hp->Prop
 rt:VK
 bk:St->Hp->Prop:=fun _ _=>False
 ct:St->Hp->Prop:=fun _ _=>False
noncomputable abbrev TS:=Ends->St->Hp->Prop
noncomputable def EP(X:Cx)(pins:L1)(σ:St)(Q:VK)(u:ζ)(s':η):Prop:=∃v H',Inv X pins σ H' s'/\RelV v u/\Q v H'
noncomputable def TP(X:Cx)(pins:L1)(σ:St)(Q:Bool->Hp->Prop)(b:Bool)(s':η):Prop:=∃H',Inv X pins σ H' s'/\Q b H'
noncomputable def AP(X:Cx)(pins:L1)(σ:St)(Q:List V->Hp->Prop)(us:List ζ)(s':η):Prop:=∃vs H',Inv X pins σ H' s'/\Vals vs us/\Q vs H'
noncomputable def SP(X:Cx)(pins:L1)(D:Ends)(f:Flow)(s':η):Prop:=
 match f with
 | .next=>∃σ' H',Inv X pins σ' H' s'/\D.nx σ' H'
 | .brk=>∃σ' H',Inv X pins σ' H' s'/\D.bk σ' H'
 | .cont=>∃σ' H',Inv X pins σ' H' s'/\D.ct σ' H'
 | .ret u=>∃v σ' H',Inv X pins σ' H' s'/\RelV v u/\D.rt v H'
noncomputable def PE(X:Cx)(e:Expr)(t:TE):Prop:=
 ∀(pins:L1) (s:η) (σ:St) (H:Hp) (Q:VK),Inv X pins σ H s->t σ H Q->wpAny (model X.prog X.w) X.A (eval e X.env) (EP X pins σ Q) X.xe s
noncomputable def PT(X:Cx)(e:Expr)(t:TT):Prop:=
 ∀(pins:L1) (s:η) (σ:St) (H:Hp) (Q:Bool->Hp->Prop),Inv X pins σ H s->t σ H Q->wpAny (model X.prog X.w) X.A (isTrue e X.env (eval e X.env)) (TP X pins σ Q) X.xe s
noncomputable def PW(X:Cx)(e:Expr)(t:TT):Prop:=
 ∀(whole:Sem ζ) (pins:L1) (s:η) (σ:St) (H:Hp) (Q:Bool->Hp->Prop),Inv X pins σ H s->t σ H Q->wpAny (model X.prog X.w) X.A (isTrue e X.env whole) (TP X pins σ Q) X.xe s
theorem PW.pt{X:Cx}{e:Expr}{t:TT}(h:PW X e t):PT X e t:=h _
noncomputable def PA(X:Cx)(es:List Expr)(t:TA):Prop:=
 ∀(pos:Pos) (pins:L1) (s:η) (σ:St) (H:Hp) (Q:List V->Hp->Prop),Inv X pins σ H s->t σ H Q->wpAny (model X.prog X.w) X.A (spliced (backTo pos (starEach es X.env))) (AP X pins σ Q) X.xe s
noncomputable def PS(X:Cx)(st:Stmt)(t:TS):Prop:=
 ∀(pins:L1) (s:η) (σ:St) (H:Hp) (D:Ends),Inv X pins σ H s->t D σ H->wpAny (model X.prog X.w) X.A (exec st X.env) (SP X pins D) X.xe s
noncomputable def PSs(X:Cx)(st:List Stmt)(t:TS):Prop:=
 ∀(pins:L1) (s:η) (σ:St) (H:Hp) (D:Ends),Inv X pins σ H s->t D σ H->wpAny (model X.prog X.w) X.A (execs st X.env) (SP X pins D) X.xe s
theorem thn{α:Type}{t:Sem α}{Q Q':α->η->Prop}{M:Model}{A:υ}{E:L4}{s:η}(h:wpAny M A t Q E s)(hQ:∀a s,Q a s->Q' a s):wpAny M A t Q' E s:=uz h hQ fun _ _ x=>x
section
variable{X:Cx}
noncomputable def tVar(i:Nat):TE:=fun σ H Q=>∃v,σ[i]? =some (some v)/\Q v H
noncomputable def tC(v:V):TE:=fun _ H Q=>Q v H
theorem pe_var{i:Nat}{x:Str}{pos:Pos}(hN:X.N[i]? =some x)(hv:Vis X.env.scope x)(hd:(x==("__debug__":Str))=false:=by decide)(hcd:(x==("__classdict__":Str))=false:=by decide):PE X (.Name x pos) (tVar i):=by
 intro pins s σ H Q I h;obtain⟨v,e,h⟩:=h;obtain⟨m,hn,hl⟩:=I.loc;obtain⟨u,r,l⟩:=hl i x v hN e hv;have fin:EP X pins σ Q u s:=⟨v,H,I,r,h⟩;rcases l with⟨hk,hm⟩|⟨hk,c,hc,hcell⟩
 ·exact wpAny_Name (wpAny_loadName_local I.ok.kind hk hn hm fin) hd
 ·rcases hk with hk|hk
  ·exact wpAny_Name (wpAny_loadName_cell I.ok.kind hk hc hcell fin) hd
  ·exact wpAny_Name (wpAny_loadName_free I.ok.kind hk hc hcell fin hcd) hd
theorem aK{i j pos}:PE X (.Constant (.int i) j pos) (tC (.int i)):=fun _ _ _ H _ I h=>wpAny_Constant_int ⟨.int i,H,I.tok _,⟨_,rfl⟩,h⟩
theorem pe_bl{b j pos}:PE X (.Constant (.bool b) j pos) (tC (.bl b)):=fun _ _ _ H _ I h=>Constant_bool ⟨.bl b,H,I,rfl,h⟩
theorem zB{j pos}:PE X (.Constant .none j pos) (tC .non):=fun _ _ _ H _ I h=>Constant_none ⟨.non,H,I,rfl,h⟩
theorem qF{x j pos}:PE X (.Constant (.str x) j pos) (tC (.str x)):=fun _ _ _ H _ I h=>Calls.Constant_str ⟨.str x,H,I.tok _,⟨_,rfl⟩,h⟩
noncomputable def Gl(X:Cx)(x:Str):Prop:=X.env.kindOf x=some .globalImplicit
theorem ld_glob{E:L4}{pins:L1}{s:η}{σ:St}{H:Hp}{x:Str}{u:ζ}{pos:Pos}{Q:L4}(I:Inv X pins σ H s)(hg:Gl X x)(hm:X.mg x=some u)(h:Q u s)(hd:(x==("__debug__":Str))=false:=by decide):wpAny (model X.prog X.w) X.A (eval (.Name x pos) X.env) Q E s:=
 Calls.Name_function_global I.ok.kind hg (Calls.loadGlobal_global (by rw[I.ok.glob];exact I.mod.glob.keeps I.bk) hm h) hd
theorem ld_blt{E:L4}{pins:L1}{s:η}{σ:St}{H:Hp}{x:Str}{u:ζ}{pos:Pos}{Q:L4}(I:Inv X pins σ H s)(hg:Gl X x)(hm:X.mg x=none)(hv:bootBuiltins x=some u)(h:Q u s)(hn:x≠"__name__":=by decide)(hd:(x==("__debug__":Str))=false:=by decide):wpAny (model X.prog X.w) X.A (eval (.Name x pos) X.env) Q E s:=by
 obtain⟨mb,h1,h2⟩:=I.mod.blt;exact Calls.Name_function_global I.ok.kind hg (Calls.loadGlobal_builtin (by rw[I.ok.glob];exact I.mod.glob.keeps I.bk) hm (by rw[I.ok.blt];exact h1.keeps I.bk) ((h2 x hn).trans hv) h) hd
theorem DY{x:Str}{v:V}{u:ζ}{pos:Pos}(hg:Gl X x)(hm:X.mg x=some u)(r:RelV v u)(hd:(x==("__debug__":Str))=false:=by decide):PE X (.Name x pos) (tC v):=
 fun _ _ _ H _ I h=>ld_glob I hg hm ⟨v,H,I,r,h⟩ hd
theorem pe_bltn{x:Str}{v:V}{u:ζ}{pos:Pos}(hg:Gl X x)(hm:X.mg x=none)(hv:bootBuiltins x=some u)(r:RelV v u)(hn:x≠"__name__":=by decide)(hd:(x==("__debug__":Str))=false:=by decide):PE X (.Name x pos) (tC v):=
 fun _ _ _ H _ I h=>ld_blt I hg hm hv ⟨v,H,I,r,h⟩ hn hd
theorem pN{x:Str}{pos:Pos}(T:String)(hm:X.mg x=none)(hv:bootBuiltins x=some (.type T):=by decide+kernel)(hg:Gl X x:=by rfl)(hn:x≠"__name__":=by decide)(hd:(x==("__debug__":Str))=false:=by decide):PE X (.Name x pos) (tC (.ty T)):=pe_bltn hg hm hv rfl hn hd
variable{a b:Expr}{ta tb:TE}{pos:Pos}
noncomputable def tB(t:TE):TT:=fun σ H Q=>t σ H fun x H1=>∃c,x= .bl c/\Q c H1
theorem rT{e:Expr}{t:TE}(h:PE X e t)(he:∀whole,isTrue e X.env whole=(do let v<-whole;standAt e.pos;holding [v] (truthy v)):=by intro _;rfl):PT X e (tB t):=by
 intro pins s σ H Q I hw;refine isTrue_plain (thn (h pins s σ H _ I hw) fun v s1 ⟨x,H1,I1,r1,q1⟩=> ?_) (he _);obtain⟨d,rfl,q⟩:=q1;cases r1;exact JX ⟨H1,I1,q⟩
variable{tA tB':TT}{rest:List Expr}
noncomputable def tAnd(t u:TT):TT:=fun σ H Q=>t σ H fun c H1=>if c=true then u σ H1 Q else Q false H1
noncomputable def tOr(t u:TT):TT:=fun σ H Q=>t σ H fun c H1=>if c=true then Q true H1 else u σ H1 Q
noncomputable def tNot(t:TT):TT:=fun σ H Q=>t σ H fun c H1=>Q (!c) H1
theorem pw_and1(ha:PT X a tA):PW X (.BoolOp .And [a] pos) tA:=by
 intro wh pins s σ H Q I h;refine isTrue_and (thn (ha pins s σ H Q I h) fun c s1 e=> ?_);cases c with
 |true=>exact isTrue_and_nil e
 |false=>exact e
theorem pw_or1(ha:PT X a tA):PW X (.BoolOp .Or [a] pos) tA:=by
 intro wh pins s σ H Q I h;refine isTrue_or (thn (ha pins s σ H Q I h) fun c s1 e=> ?_);cases c with
 |false=>exact isTrue_or_nil e
 |true=>exact e
theorem pw_and(ha:PT X a tA)(hb:PW X (.BoolOp .And (b::rest) pos) tB'):PW X (.BoolOp .And (a::b::rest) pos) (tAnd tA tB'):=by
 intro wh pins s σ H Q I h;refine isTrue_and (thn (ha pins s σ H _ I h) fun c s1 ⟨H1,I1,q1⟩=> ?_);cases c with
 |true=>exact hb wh pins s1 σ H1 Q I1 q1
 |false=>exact⟨H1,I1,q1⟩
theorem pw_or(ha:PT X a tA)(hb:PW X (.BoolOp .Or (b::rest) pos) tB'):PW X (.BoolOp .Or (a::b::rest) pos) (tOr tA tB'):=by
 intro wh pins s σ H Q I h;refine isTrue_or (thn (ha pins s σ H _ I h) fun c s1 ⟨H1,I1,q1⟩=> ?_);cases c with
 |true=>exact⟨H1,I1,q1⟩
 |false=>exact hb wh pins s1 σ H1 Q I1 q1
theorem ur(ha:PT X a tA):PT X (.UnaryOp .Not a pos) (tNot tA):=by
 intro pins s σ H Q I h;exact isTrue_not (ha pins s σ H (fun c H1=>Q (!c) H1) I h)
noncomputable def tAndV(ta tb:TE):TE:=fun σ H Q=>ta σ H fun x H1=>∃c,x= .bl c/\if c=true then tb σ H1 Q else Q (.bl false) H1
noncomputable def tNotV(ta:TE):TE:=fun σ H Q=>ta σ H fun x H1=>∃c,x= .bl c/\Q (.bl (!c)) H1
theorem pe_one{op}{t:TE}(h:PE X a t):PE X (.BoolOp op [a] pos) t:=fun pins s σ H Q I hw=>BoolOp_one (h pins s σ H Q I hw)
theorem pe_and(ha:PE X a ta)(hb:PE X (.BoolOp .And (b::rest) pos) tb):PE X (.BoolOp .And (a::b::rest) pos) (tAndV ta tb):=by
 intro pins s σ H Q I h;refine BoolOp_and (thn (ha pins s σ H _ I h) fun v s1 ⟨x,H1,I1,r1,q1⟩=> ?_);obtain⟨c,rfl,q1⟩:=q1;cases r1;refine JX ?_;cases c with
 |true=>exact hb pins s1 σ H1 Q I1 q1
 |false=>exact⟨.bl false,H1,I1,rfl,q1⟩
theorem pe_not(ha:PE X a ta):PE X (.UnaryOp .Not a pos) (tNotV ta):=by
 intro pins s σ H Q I h;refine UnaryOp_ (thn (ha pins s σ H _ I h) fun v s1 ⟨x,H1,I1,r1,q1⟩=> ?_);obtain⟨c,rfl,q1⟩:=q1;cases r1;exact not_of (JX ⟨.bl (!c),H1,I1,rfl,q1⟩)
noncomputable def tIf(t:TT)(ta tb:TE):TE:=fun σ H Q=>t σ H fun c H1=>if c=true then ta σ H1 Q else tb σ H1 Q
theorem pe_ifExp{c:Expr}(hc:PT X c tA)(ha:PE X a ta)(hb:PE X b tb):PE X (.IfExp c a b pos) (tIf tA ta tb):=by
 intro pins s σ H Q I h;refine wpAny_IfExp (thn (hc pins s σ H _ I h) fun d s1 ⟨H1,I1,q1⟩=> ?_);cases d with
 |true=>exact ha pins s1 σ H1 Q I1 q1
 |false=>exact hb pins s1 σ H1 Q I1 q1
end
noncomputable def SqL(K:W.Frag)(H:Hp)(a:Addr)(xs:List V):Prop:=
 Rd H a (.lst xs)\/
  ∃(o:Obj) (its:Array ζ) (n:Nat),K.lookup a=some o/\o.cls= .type "list"/\o.dict=none/\o.data= .seq its n/\its.size<=sizeLine/\Vals xs its.toList
noncomputable def SqT(K:W.Frag)(H:Hp)(a:Addr)(xs:List V):Prop:=
 Rd H a (.tup xs)\/
  ∃(o:Obj) (its:Array ζ) (n:Nat),K.lookup a=some o/\o.cls= .type "tuple"/\o.data= .seq its n/\its.size<=sizeLine/\Vals xs its.toList
noncomputable def absV:ζ->Option V
 | .none=>some .non
 | .bool b=>some (.bl b)
 | .int i _=>some (.int i)
 | .str x _=>some (.str x)
 | .bytes b _=>some (.byt b)
 | .float b _=>some (.flt b)
 | .ref a=>some (.ref a)
 | .type n=>some (.ty n)
 |_=>none
theorem RelV.abs{x:V}{u:ζ}(r:RelV x u):absV u=some x:=by
 cases x with
 |non=>cases r;rfl
 |bl _=>cases r;rfl
 |int _=>obtain⟨t,rfl⟩:=r;rfl
 |str _=>obtain⟨t,rfl⟩:=r;rfl
 |byt _=>obtain⟨t,rfl⟩:=r;rfl
 |flt _=>obtain⟨t,rfl⟩:=r;rfl
 |ref _=>cases r;rfl
 |ty _=>cases r;rfl
theorem RelV.inj{x y:V}{u:ζ}(r:RelV x u)(q:RelV y u):x=y:=was (r.abs.symm.trans q.abs)
theorem Vals.inj{xs ys:List V}{us:List ζ}(h:Vals xs us)(h':Vals ys us):xs=ys:=by
 induction h generalizing ys with
 |nil=>cases h';rfl
 |cons r _ ih=>cases h' with |cons r' t'=>rw[r.inj r',ih t']
section
variable{X:Cx}{pins:L1}{σ:St}{H:Hp}{s:η}{a:Addr}{xs ys:List V}
theorem SqL.of{K:W.Frag}(h:H a=some (.lst xs)):SqL K H a xs:= .inl (.inl h)
theorem SqT.of{K:W.Frag}(h:H a=some (.tup xs)):SqT K H a xs:= .inl (.inl h)
theorem Inv.list(I:Inv X pins σ H s)(h:SqL X.K H a xs):∃its:List ζ,Vals xs its/\PlainL s.heap a its.toArray/\xs.length<=sizeLine:=by
 rcases h with h|⟨o,its,n,hk,hc,hd,hs,hz,r⟩
 ·obtain⟨z,its,n,r,e⟩:=h.ok I.hok;exact⟨its,r,⟨_,n,e,rfl,rfl,rfl⟩,z⟩
 ·refine⟨its.toList,r,⟨o,n,I.kIn a o hk,hc,hd,by simpa using hs⟩,?_⟩;have e:=r.length;simp only[Og]at e;omega
theorem Inv.tuple(I:Inv X pins σ H s)(h:SqT X.K H a xs):∃its:List ζ,Vals xs its/\IsTup s.heap a its.toArray/\xs.length<=sizeLine:=by
 rcases h with h|⟨o,its,n,hk,hc,hs,hz,r⟩
 ·obtain⟨z,its,r,p⟩:=h.ok I.hok;exact⟨its,r,p,z⟩
 ·refine⟨its.toList,r,⟨o,I.kIn a o hk,hc,n,by simpa using hs⟩,?_⟩;have e:=r.length;simp only[Og]at e;omega
theorem Inv.list_inj(I:Inv X pins σ H s)(h:SqL X.K H a xs)(h':SqL X.K H a ys):xs=ys:=by
 obtain⟨its,r,⟨o,n,e,_,_,d⟩,_⟩:=I.list h;obtain⟨its',r',⟨o',n',e',_,_,d'⟩,_⟩:=I.list h';rw[e]at e';cases e';rw[d]at d';injection d' with d1 _
 have:its=its':=by simpa using iy Array.toList d1
 subst this;exact r.inj r'
theorem Inv.tuple_inj(I:Inv X pins σ H s)(h:SqT X.K H a xs)(h':SqT X.K H a ys):xs=ys:=by
 obtain⟨its,r,⟨o,e,_,n,d⟩,_⟩:=I.tuple h;obtain⟨its',r',⟨o',e',_,n',d'⟩,_⟩:=I.tuple h';rw[e]at e';cases e';rw[d]at d';injection d' with d1 _
 have:its=its':=by simpa using iy Array.toList d1
 subst this;exact r.inj r'
end
noncomputable abbrev Cx.wish(X:Cx)(E:L4):Cx:={X with xe:=E}
noncomputable abbrev Cx.nox(X:Cx):Cx:=X.wish fun _ _=>False
theorem Cx.Ok.wish{X:Cx}(ok:X.Ok)(E:L4):(X.wish E).Ok:=
 ⟨ok.mod,ok.kind,ok.glob,ok.blt,ok.above,ok.inj,ok.has,ok.cab,ok.hd,ok.frames,ok.stk,ok.exf,ok.bs,ok.bsz,ok.noex,ok.exfs,ok.funs,ok.frf⟩
theorem Cx.Ok.unwish{X:Cx}{E:L4}(ok:(X.wish E).Ok):X.Ok:=
 ⟨ok.mod,ok.kind,ok.glob,ok.blt,ok.above,ok.inj,ok.has,ok.cab,ok.hd,ok.frames,ok.stk,ok.exf,ok.bs,ok.bsz,ok.noex,ok.exfs,ok.funs,ok.frf⟩
section
variable{X:Cx}{pins:L1}{σ:St}{H:Hp}{s:η}{E:L4}
theorem Inv.wish(I:Inv X pins σ H s)(E:L4):Inv (X.wish E) pins σ H s:=⟨I.ok.wish E,I.os,I.bare,I.base,I.loc,I.cell,I.free,I.freeC,I.pin,I.hok,I.len⟩
theorem Inv.unwish(I:Inv (X.wish E) pins σ H s):Inv X pins σ H s:=⟨I.ok.unwish,I.os,I.bare,I.base,I.loc,I.cell,I.free,I.freeC,I.pin,I.hok,I.len⟩
theorem SP.unwish{D:Ends}{f:Flow}{s':η}(h:SP (X.wish E) pins D f s'):SP X pins D f s':=by
 cases f with
 |next=>obtain⟨σ',H',I,q⟩:=h;exact⟨σ',H',I.unwish,q⟩
 |brk=>obtain⟨σ',H',I,q⟩:=h;exact⟨σ',H',I.unwish,q⟩
 |cont=>obtain⟨σ',H',I,q⟩:=h;exact⟨σ',H',I.unwish,q⟩
 |ret u=>obtain⟨v,σ',H',I,r,q⟩:=h;exact⟨v,σ',H',I.unwish,r,q⟩
theorem PSs.nox{st:List Stmt}{t:TS}(h:PSs X.nox st t):PSs X st t:=fun pins s σ H D I hw=>
 uz (h pins s σ H D (I.wish _) hw) (fun _ _ q=>q.unwish) fun _ _ z=>False.elim z
end
section
variable{X:Cx}{st:Stmt}{rest:List Stmt}{t u:TS}{e:Expr}{te:TE}{pos:Pos}
noncomputable def tNext:TS:=fun D σ H=>D.nx σ H
noncomputable def tSeq(t u:TS):TS:=fun D σ H=>t {D with nx:=u D} σ H
theorem iG:PSs X [] tNext:=fun _ _ σ H _ I h=>TX ⟨σ,H,I,h⟩
theorem aR(h1:PS X st t)(h2:PSs X rest u):PSs X (st::rest) (tSeq t u):=by
 intro pins s σ H D I h;refine Yq (thn (h1 pins s σ H {D with nx:=u D} I h) fun f s1 q=> ?_);cases f with
 |next=>
  obtain⟨σ',H',I',q⟩:=q;exact h2 pins s1 σ' H' D I' q
 |ret v=>exact q
 |brk=>exact q
 |cont=>exact q
theorem aQ(h1:PS X st t):PSs X [st] t:=by
 intro pins s σ H D I h;refine Yq (thn (h1 pins s σ H D I h) fun f s1 q=> ?_);cases f with
 |next=>exact TX q
 |ret v=>exact q
 |brk=>exact q
 |cont=>exact q
noncomputable def tBreak:TS:=fun D σ H=>D.bk σ H
theorem ps_break:PS X (.Break pos) tBreak:=fun _ _ σ H _ I h=>wpAny_Break ⟨σ,H,I,h⟩
theorem Inv.quiet{pins:L1}{σ:St}{H:Hp}{s:η}(I:Inv X pins σ H s):interactive X.env=false:=by simp[interactive,I.ok.kind]
noncomputable def tDrop(te:TE):TS:=fun D σ H=>te σ H fun _ H1=>D.nx σ H1
theorem iw(he:PE X e te)(hs:swapsWith e none pos.line X.env=pure false:=by rfl):PS X (.Expr e pos) (tDrop te):=by
 intro pins s σ H D I h;exact wpAny_Expr_any (thn (he pins s σ H _ I h) fun v s1 ⟨x,H1,I1,r1,q1⟩=>⟨σ,H1,I1,q1⟩) I.quiet hs
noncomputable def tRet(te:TE):TS:=fun D σ H=>te σ H D.rt
theorem bW(he:PE X e te):PS X (.Return (some e) pos) (tRet te):=by
 intro pins s σ H D I h;exact wpAny_Return_some (thn (he pins s σ H _ I h) fun v s1 ⟨x,H1,I1,r1,q1⟩=>⟨x,σ,H1,I1,r1,q1⟩)
noncomputable def tIfS(c:TT)(t u:TS):TS:=fun D σ H=>c σ H fun b H1=>if b=true then t D σ H1 else u D σ H1
theorem eF{c:Expr}{a b:List Stmt}{tc:TT}(hc:PT X c tc)(ha:PSs X a t)(hb:PSs X b u):PS X (.If c a b pos) (tIfS tc t u):=by
 intro pins s σ H D I h;refine wpAny_If (thn (hc pins s σ H _ I h) fun d s1 ⟨H1,I1,q1⟩=> ?_);cases d with
 |true=>exact ha pins s1 σ H1 D I1 q1
 |false=>exact hb pins s1 σ H1 D I1 q1
noncomputable def tNever:TS:=fun _ _ _=>False
theorem wN{sts:List Stmt}:PSs X sts tNever:=fun _ _ _ _ _ _ h=>h.elim
end
noncomputable abbrev TG:=V->St->Hp->(St->Hp->Prop)->Prop
noncomputable abbrev TGs:=List V->St->Hp->(St->Hp->Prop)->Prop
noncomputable def PG(X:Cx)(target:Expr)(t:TG):Prop:=
 ∀(pins:L1) (s:η) (σ:St) (H:Hp) (v:V) (u:ζ) (Q:St->Hp->Prop),Inv X pins σ H s->RelV v u->t v σ H Q->
  wpAny (model X.prog X.w) X.A (assign target X.env u) (fun _ s'=>∃σ' H',Inv X pins σ' H' s'/\Q σ' H') X.xe s
noncomputable def PGs(X:Cx)(ts:List Expr)(t:TGs):Prop:=
 ∀(pins:L1) (s:η) (σ:St) (H:Hp) (vs:List V) (us:List ζ) (Q:St->Hp->Prop),Inv X pins σ H s->Vals vs us->t vs σ H Q->
  wpAny (model X.prog X.w) X.A (assignInOrder ((assignEach ts X.env).map (·.2)) us) (fun _ s'=>∃σ' H',Inv X pins σ' H' s'/\Q σ' H') X.xe s
noncomputable abbrev TSet:=V->V->V->Hp->(Hp->Prop)->Prop
noncomputable def PSet(X:Cx)(t:TSet):Prop:=
 ∀(pins:L1) (s:η) (σ:St) (H:Hp) (o i v:V) (ov iv u:ζ) (Q:Hp->Prop),Inv X pins σ H s->RelV o ov->RelV i iv->RelV v u->t o i v H Q->
  wpAny (model X.prog X.w) X.A (setItem ov iv u) (fun _ s'=>∃H',Inv X pins σ H' s'/\Q H') X.xe s
section
variable{X:Cx}{pos:Pos}
noncomputable def gName(i:Nat):TG:=fun v σ H Q=>Q (σ.set i (some v)) H
theorem pg_name{i:Nat}{x:Str}(hN:X.N.Nodup)(hi:X.N[i]? =some x)(hx:Loc X.env.scope x)(hf:X.fn x=true\/X.env.scope.names.lookup x=some .local:=by first |exact .inl rfl|exact .inr rfl|assumption):PG X (.Name x pos) (gName i):=by
 intro pins s σ H v u Q I r h;exact wpAny_assign_Name (store_ok I hN hi hx r (fun s' I'=>⟨_,H,I',h⟩) hf)
theorem pG{X:Cx}{x:Str}{pos:Pos}(i:Nat)(hN:decide X.N.Nodup=true:=by kernel_rfl)(hi:X.N[i]? =some x:=by rfl)(hx:Loc X.env.scope x:=by first |exact Or.inl rfl|exact Or.inr rfl)(hf:X.fn x=true\/X.env.scope.names.lookup x=some .local:=by first |exact .inl rfl|exact .inr rfl|assumption):PG X (.Name x pos) (gName i):=pg_name (qX hN) hi hx hf
noncomputable def gNil:TGs:=fun vs σ H Q=>vs=[]/\Q σ H
noncomputable def gCons(t:TG)(u:TGs):TGs:=fun vs σ H Q=>∃v r,vs=v::r/\t v σ H fun σ' H'=>u r σ' H' Q
theorem Ea:PGs X [] gNil:=by
 intro pins s σ H vs us Q I r h;obtain⟨e,h⟩:=h;subst e;cases r;exact assignInOrder_nil ⟨σ,H,I,h⟩
theorem nM{e:Expr}{es:List Expr}{t:TG}{u:TGs}(h1:PG X e t)(h2:PGs X es u)(hs:(assignEach (e::es) X.env).map (·.2)=assign e X.env::(assignEach es X.env).map (·.2):=by rfl):PGs X (e::es) (gCons t u):=by
 intro pins s σ H vs us Q I r h;obtain⟨v,vr,e1,h⟩:=h;subst e1;cases r with
 |cons r rr=>
  rw[hs];refine assignInOrder_cons (thn (h1 pins s σ H _ _ _ I r h) fun _ s1 ⟨σ1,H1,I1,q1⟩=> ?_);exact h2 pins s1 σ1 H1 _ _ Q I1 rr q1
noncomputable def gTup(K:W.Frag)(n:Nat)(t:TGs):TG:=fun v σ H Q=>∃a xs,v= .ref a/\SqT K H a xs/\xs.length=n/\t xs σ H Q
theorem pg_tup{es:List Expr}{k:Nat}{t:TGs}{n:Nat}(hc:X.calm=true)(h:PGs X es t)(hn:(assignEach es X.env).length=n:=by rfl)(hst:(assignEach es X.env).findIdx? (·.1)=none:=by rfl):PG X (.Tuple es k pos) (gTup X.K n t):=by
 intro pins s σ H v u Q I r hw;obtain⟨a,xs,e1,hq,hl,hw⟩:=hw;subst e1;cases r;obtain⟨its,rv,ht,hz⟩:=I.tuple hq;refine assign_Tuple_tuple (I.ok.hd hc) ht (by simp[hn,<-hl,rv.length]) hst fun h' hx=> ?_;have I1:Inv X pins σ H {s with heap:=h'}:=I.kept (t':=s.toks) fun b o e=>hx b o (dX (cO e)) e;exact h pins _ σ H xs _ Q I1 (by simpa using rv) hw
noncomputable def gSub(to ti:TE)(t:TSet):TG:=fun v σ H Q=>to σ H fun o H1=>ti σ H1 fun i H2=>t o i v H2 fun H3=>Q σ H3
theorem pg_sub{o i:Expr}{to ti:TE}{t:TSet}(ho:PE X o to)(hi:PE X i ti)(hs:PSet X t)(ha:∀v,assign (.Subscript o i pos) X.env v=(do
   let ov<-holding [v] (eval o X.env);let iv<-holding [v,ov] (eval i X.env)
   standAt pos
   holding [v,ov,iv] (setItem ov iv v)
   release [v,ov,iv] []):=by intro _;rfl):PG X (.Subscript o i pos) (gSub to ti t):=by
 intro pins s σ H v u Q I r h;rw[ha];refine aq (rZ (thn (ho pins s σ H _ I h) fun ov s1 ⟨x,H1,I1,r1,q1⟩=> ?_));refine aq (rZ (thn (hi pins s1 σ H1 _ I1 q1) fun iv s2 ⟨y,H2,I2,r2,q2⟩=> ?_));refine aq (wpAny_standAt (aq (rZ (thn (hs pins s2 σ H2 x y v ov iv u _ I2 r1 r2 r q2) fun _ s3 ⟨H3,I3,q3⟩=> ?_))));exact wpAny_release ⟨σ,H3,I3,q3⟩
noncomputable def tAsg(te:TE)(g:TG):TS:=fun D σ H=>te σ H fun x H1=>g x σ H1 D.nx
theorem ps_asg{tg e:Expr}{te:TE}{g:TG}(he:PE X e te)(hg:PG X tg g)(hs:swapsWithSole [tg] e pos.line X.env=pure false:=by rfl)(hw:swappedStores [tg] e X.env=pure none:=by rfl)(h1:(assignEach [tg] X.env).map (·.2)=[assign tg X.env]:=by rfl):PS X (.Assign [tg] e pos) (tAsg te g):=by
 intro pins s σ H D I h;refine wpAny_Assign_stores (thn (he pins s σ H _ I h) fun v s1 ⟨x,H1,I1,r1,q1⟩=> ?_) hs hw;rw[h1];exact thn (hg pins s1 σ H1 x v _ I1 r1 q1) fun _ s2 q=>q
theorem ps_set{i:Nat}{x:Str}{e:Expr}{te:TE}{pos':Pos}(hN:X.N.Nodup)(hi:X.N[i]? =some x)(hx:Loc X.env.scope x)(he:PE X e te)(hs:swapsWith e (some (.Name x pos')) pos.line X.env=pure false:=by rfl)(hf:X.fn x=true\/X.env.scope.names.lookup x=some .local:=by first |exact .inl rfl|exact .inr rfl|assumption):
  PS X (.Assign [.Name x pos'] e pos) (tAsg te (gName i)):=by
 intro pins s σ H D I h;refine wpAny_Assign_Name (thn (he pins s σ H _ I h) fun v s1 ⟨y,H1,I1,r1,q1⟩=> ?_) hs;exact store_ok I1 hN hi hx r1 (fun s2 I2=>⟨_,H1,I2,q1⟩) hf
theorem pS{X:Cx}{x:Str}{e:Expr}{te:TE}{pos pos':Pos}(i:Nat)(he:PE X e te)(hN:decide X.N.Nodup=true:=by kernel_rfl)(hi:X.N[i]? =some x:=by rfl)(hx:Loc X.env.scope x:=by first |exact Or.inl rfl|exact Or.inr rfl)(hs:swapsWith e (some (.Name x pos')) pos.line X.env=pure false:=by rfl)(hf:X.fn x=true\/X.env.scope.names.lookup x=some .local:=by first |exact .inl rfl|exact .inr rfl|assumption):PS X (.Assign [.Name x pos'] e pos) (tAsg te (gName i)):=ps_set (qX hN) hi hx he hs hf
noncomputable def tWhile(c:TT)(tb:TS):TS:=fun D σ H=>∃W:Nat->St->Hp->Prop,(∃m,W m σ H)/\∀m σ H,W m σ H->
 c σ H fun b H1=>if b=true then∃N:St->Hp->Prop,(∀σ' H',N σ' H'->∃m',m'<m/\W m' σ' H')/\tb {D with nx:=N,ct:=N,bk:=D.nx} σ H1 else D.nx σ H1
theorem ps_while{c:Expr}{body:List Stmt}{tc:TT}{tb:TS}(hp:PassesOwn (model X.prog X.w) X.A X.env X.xe)(hc:PT X c tc)(hb:PSs X body tb):PS X (.While c body [] pos) (tWhile tc tb):=by
 intro pins s σ H D I h;obtain⟨W,⟨m0,w0⟩,turn⟩:=h;refine wpAny_While (codeAny_whileLoop (fun n s'=>∃σ' H',Inv X pins σ' H' s'/\W n σ' H') ?_ m0 ⟨σ,H,I,w0⟩);rintro n s1 ⟨σ1,H1,I1,w1⟩;refine Qt hp (thn (hc pins s1 σ1 H1 _ I1 (turn n σ1 H1 w1)) fun b s2 ⟨H2,I2,q2⟩=> ?_);cases b with
 |true=>
  obtain⟨N,hN,q2⟩:=q2;rw[aL rfl];refine Qt hp (thn (hb pins s2 σ1 H2 _ I2 q2) fun f s3 q3=> ?_);cases f with
  |next=>
   obtain⟨σ3,H3,I3,n3⟩:=q3;obtain⟨m',hm,w3⟩:=hN σ3 H3 n3;exact⟨m',hm,σ3,H3,I3,w3⟩
  |cont=>
   obtain⟨σ3,H3,I3,n3⟩:=q3;obtain⟨m',hm,w3⟩:=hN σ3 H3 n3;exact⟨m',hm,σ3,H3,I3,w3⟩
  |brk=>exact q3
  |ret v=>exact q3
 |false=>
  rw[aJ lQ];exact TX ⟨σ1,H2,I2,q2⟩
end
structure It where
 go:Nat->Hp->Prop
 yld:Nat->Hp->V->Hp->Prop
 stop:Nat->Hp->Prop
noncomputable def FpOk(X:Cx)(pins:L1)(H:Hp)(b:Addr):Prop:=
 H b=none/\b≠X.env.locals/\b∉X.fs/\(b∈X.ex\/X.s₀.heap.objs.size<=b)/\(∀x c,X.env.cells.lookup x=some c->c≠b)/\∀p∈X.pn++pins,p.1≠b
theorem Inv.fpOk{X:Cx}{pins:L1}{σ:St}{H H':Hp}{s:η}{b:Addr}(I:Inv X pins σ H s)(hb:s.heap.objs.size<=b)(hn:H' b=none):FpOk X pins H' b:=by
 refine⟨hn,Qc (gR I.lt hb),I.nofs hb,.inr (cC I.sz hb),fun x c e z=> ?_,fun p hp z=> ?_⟩
 ·obtain⟨v,q⟩:=I.cell x c e;exact absurd (gR q.lt (by rw[z];exact hb)) (qK _)
 ·exact absurd (gR (cO (I.pin p hp).1) (by rw[z];exact hb)) (qK _)
structure Turn(P:ξ)(w:τ)(K:W.Frag)(tg:Expr)(J:It)(fp:List Addr)(it:Addr)(tn:Nat->Heap->Prop):Prop where
 mem:it∈fp
 obj:∀i h,tn i h->∀b∈fp,∃o,h.get? b=some o/\∀v,o.data≠.cell v
 keep:∀i h h',tn i h->(∀b∈fp,∀o,h.get? b=some o->h'.get? b=some o)->tn i h'
 item:∀(X:Cx),X.prog=P->X.w=w->X.K=K->X.calm=true->∀(i:Nat) (pins:L1) (s:η) (σ:St) (H:Hp) (E:L4),Inv X pins σ H s->(∀b∈fp,FpOk X pins H b)->tn i s.heap->J.go i H->
  wpAny (model P w) X.A (pyNext (.ref it)) (fun r s1=>∃u,r=some u/\
   wpAny (model P w) X.A (letOwnedTupleGo tg (.ref it) u) (fun _ s2=>∃x H',Inv X pins σ H' s2/\RelV x u/\J.yld i H x H'/\tn (i+1) s2.heap/\∀b∈fp,H' b=none) E s1) E s
 done:∀(X:Cx),X.prog=P->X.w=w->X.K=K->X.calm=true->∀(i:Nat) (pins:L1) (s:η) (σ:St) (H:Hp) (E:L4),Inv X pins σ H s->(∀b∈fp,FpOk X pins H b)->tn i s.heap->J.stop i H->
  wpAny (model P w) X.A (pyNext (.ref it)) (fun r s1=>r=none/\Inv X pins σ H s1) E s
 self:∀(A:υ) (i:Nat) (s:η) (Q:L4) (E:L4),tn i s.heap->Q (.ref it) s->wpAny (model P w) A (pyIter (.ref it)) Q E s
noncomputable abbrev TI:=St->Hp->(It->Hp->Prop)->Prop
noncomputable def PIE(X:Cx)(pins:L1)(σ:St)(tg:Expr)(R:It->Hp->Prop)(itv:ζ)(s2:η):Prop:=
 ∃(it:Addr) (fp:List Addr) (tn:Nat->Heap->Prop) (J:It) (H':Hp),itv= .ref it/\Inv X pins σ H' s2/\Turn X.prog X.w X.K tg J fp it tn/\tn 0 s2.heap/\(∀b∈fp,FpOk X pins H' b)/\R J H'
noncomputable def PI(X:Cx)(tg iter:Expr)(wi:TI):Prop:=
 ∀(pins:L1) (s:η) (σ:St) (H:Hp) (R:It->Hp->Prop),Inv X pins σ H s->wi σ H R->
  wpAny (model X.prog X.w) X.A (eval iter X.env) (fun v s1=>wpAny (model X.prog X.w) X.A (pyIter v) (PIE X pins σ tg R) X.xe s1) X.xe s
theorem go_of{M:Model}{A:υ}{E:L4}{s:η}{tg:Expr}{it:Addr}{u:ζ}{o:Obj}{n:String}{vs:Array ζ}{Q:Unit->η->Prop}(ho:s.heap.get? it=some o)(hc:o.cls= .type n)(hd:o.data= .fields vs)(hn:["enumerate","zip","dict_itemiterator","dict_reverseitemiterator","odict_iterator","itertools.zip_longest","itertools.pairwise"].contains n=false)(hQ:Q () s):wpAny M A (letOwnedTupleGo tg (.ref it) u) Q E s:=by
 unfold letOwnedTupleGo;cases tg<;>first
  |exact aV hQ
  |(cases u<;>first
    |exact aV hQ
    |(refine aq (wpAny_load ho ?_)
      rw[hc,hd];show wpAny M A (if(["enumerate","zip","dict_itemiterator","dict_reverseitemiterator","odict_iterator","itertools.zip_longest","itertools.pairwise"].contains n&&vs[0]? ==some (rawInt _))=true then _ else _) Q E s;rw[aJ (by intro h;rw[hn,Bool.false_and]at h;cases h)];exact aV hQ))
noncomputable def Itl(K:W.Frag)(a:Addr):It:=
 ⟨fun i H=>∃xs x,SqL K H a xs/\xs[i]? =some x,fun i H x H'=>H'=H/\∀xs,SqL K H a xs->xs[i]? =some x,fun i H=>∃xs,SqL K H a xs/\xs.length<=i⟩
noncomputable def Itt(K:W.Frag)(a:Addr):It:=
 ⟨fun i H=>∃xs x,SqT K H a xs/\xs[i]? =some x,fun i H x H'=>H'=H/\∀xs,SqT K H a xs->xs[i]? =some x,fun i H=>∃xs,SqT K H a xs/\xs.length<=i⟩
noncomputable def Itr(lo:Int)(n:Nat):It:=⟨fun i _=>i<n,fun i H x H'=>H'=H/\x= .int (lo+i),fun i _=>n<=i⟩
theorem turn_list{P:ξ}{w:τ}{K:W.Frag}{tg:Expr}(a it:Addr):Turn P w K tg (Itl K a) [it] it (fun i h=>h.IsListIter it a i) where
 mem:=by simp
 obj:=fun i h st b hb=>by
  have e:b=it:=by simpa using hb
  subst e;obtain⟨o,e,c,d⟩:=st;exact⟨o,e,fun v z=>by rw[d]at z;cases z⟩
 keep:=fun i h h' st k=>st.at fun o e=>k it (by simp) o e
 item:=by
  intro X hP hw hK hc i pins s σ H E I hf st hg;subst hP hw hK;obtain⟨xs,x,hq,hx⟩:=hg;obtain⟨its,rv,p,hz⟩:=I.list hq;obtain⟨u,hu,ru⟩:=rv.get hx;obtain⟨f0,f1,f2,f3,f4,f5⟩:=hf it (by simp);refine wpAny_pyNext_list_item st p.isList (x:=u) (by simpa using hu) fun h' st' sb=> ?_;have I1:Inv X pins σ H {s with heap:=h'}:=I.turned (t':=s.toks) (fun b o hb e=>(sb.2 b hb).trans e) f0 f1 f3 f4 f5;obtain⟨o,e,c,d⟩:=id st';exact⟨u,rfl,go_of (s:={s with heap:=h'}) e c d (by decide) ⟨x,H,I1,ru,⟨rfl,fun ys hy=>by rw[I.list_inj hy hq];exact hx⟩,st',fun b hb=>(hf b hb).1⟩⟩
 done:=by
  intro X hP hw hK hc i pins s σ H E I hf st hg;subst hP hw hK;obtain⟨xs,hq,hx⟩:=hg;obtain⟨its,rv,p,hz⟩:=I.list hq;obtain⟨f0,f1,f2,f3,f4,f5⟩:=hf it (by simp);have hl:=rv.length;exact wpAny_pyNext_list_end (I.ok.hd hc) st p.isList (by simp;omega) fun h' eb=>⟨rfl,I.turned (t':=s.toks) (fun b o hb e=>eb b o hb e) f0 f1 f3 f4 f5⟩
 self:=fun _ _ _ _ _ st h=>wpAny_pyIter_listiter st h
theorem turn_tuple{P:ξ}{w:τ}{K:W.Frag}{tg:Expr}(a it:Addr):Turn P w K tg (Itt K a) [it] it (fun i h=>h.IsTupleIter it a i) where
 mem:=by simp
 obj:=fun i h st b hb=>by
  have e:b=it:=by simpa using hb
  subst e;obtain⟨o,e,c,d⟩:=st;exact⟨o,e,fun v z=>by rw[d]at z;cases z⟩
 keep:=fun i h h' st k=>st.at fun o e=>k it (by simp) o e
 item:=by
  intro X hP hw hK hc i pins s σ H E I hf st hg;subst hP hw hK;obtain⟨xs,x,hq,hx⟩:=hg;obtain⟨its,rv,p,hz⟩:=I.tuple hq;obtain⟨u,hu,ru⟩:=rv.get hx;obtain⟨f0,f1,f2,f3,f4,f5⟩:=hf it (by simp);refine wpAny_pyNext_tuple_item st (show s.heap.IsTuple a its.toArray from p) (x:=u) (by simpa using hu) fun h' st' sb=> ?_;have I1:Inv X pins σ H {s with heap:=h'}:=I.turned (t':=s.toks) (fun b o hb e=>(sb.2 b hb).trans e) f0 f1 f3 f4 f5;obtain⟨o,e,c,d⟩:=id st';exact⟨u,rfl,go_of (s:={s with heap:=h'}) e c d (by decide) ⟨x,H,I1,ru,⟨rfl,fun ys hy=>by rw[I.tuple_inj hy hq];exact hx⟩,st',fun b hb=>(hf b hb).1⟩⟩
 done:=by
  intro X hP hw hK hc i pins s σ H E I hf st hg;subst hP hw hK;obtain⟨xs,hq,hx⟩:=hg;obtain⟨its,rv,p,hz⟩:=I.tuple hq;obtain⟨f0,f1,f2,f3,f4,f5⟩:=hf it (by simp);have hl:=rv.length;exact wpAny_pyNext_tuple_end (I.ok.hd hc) st (show s.heap.IsTuple a its.toArray from p) (by simp;omega) fun h' eb=>⟨rfl,I.turned (t':=s.toks) (fun b o hb e=>eb b o hb e) f0 f1 f3 f4 f5⟩
 self:=fun _ _ _ _ _ st h=>wpAny_pyIter_tupleiter st h
theorem turn_range{P:ξ}{w:τ}{K:W.Frag}{tg:Expr}(it:Addr)(lo:Int)(n:Nat):Turn P w K tg (Itr lo n) [it] it (fun i h=>IsRangeIter h it (lo+(i:Nat)*1) ((n:Int)-(i:Nat)) 1) where
 mem:=by simp
 obj:=fun i h st b hb=>by
  have e:b=it:=by simpa using hb
  subst e;exact⟨_,st,fun v z=>by
   have z':Data.fields _=Data.cell v:=z;cases z'⟩
 keep:=fun i h h' st k=>k it (by simp) _ st
 item:=by
  intro X hP hw hK hc i pins s σ H E I hf st hg;subst hP hw hK;obtain⟨f0,f1,f2,f3,f4,f5⟩:=hf it (by simp);have W:=Walks.range (prog:=X.prog) (w:=X.w) (I.ok.hd hc) it lo 1 n;refine W.item i s _ _ hg st fun v h' tk hv st' kk=> ?_;obtain⟨t,rfl⟩:=hv;have I1:Inv X pins σ H {s with heap:=h',toks:=tk}:=I.turned (fun b o hb e=>kk b o (by simpa using hb) e) f0 f1 f3 f4 f5;refine⟨_,rfl,go_of (s:={s with heap:=h',toks:=tk}) (n:="range_iterator") st' rfl rfl (by decide) ⟨.int (lo+i),H,I1,⟨t,?_⟩,⟨rfl,rfl⟩,st',fun b hb=>(hf b hb).1⟩⟩;rw[Int.mul_one]
 done:=by
  intro X hP hw hK hc i pins s σ H E I hf st hg;subst hP hw hK;obtain⟨f0,f1,f2,f3,f4,f5⟩:=hf it (by simp);exact wpAny_pyNext_range_end (I.ok.hd hc) st (by have:n<=i:=hg;omega) fun h' eb=>⟨rfl,I.turned (t':=s.toks) (fun b o hb e=>eb b o hb e) f0 f1 f3 f4 f5⟩
 self:=fun _ _ _ _ _ st h=>wpAny_pyIter_rangeiter st h
section
variable{X:Cx}{tg:Expr}
theorem range_it{pins:L1}{σ:St}{H:Hp}{s:η}{R:It->Hp->Prop}{E:L4}{lo hi:Int}{t u v:Tok}{tk:Nat}(I:Inv X pins σ H s)(h1: -(2^62)<=lo)(h2:lo<2^62)(h3: -(2^62)<=hi)(h4:hi<2^62)(q:R (Itr lo (hi-lo).toNat) H):wpAny (model X.prog X.w) X.A (pyIter (.ref s.heap.objs.size)) (PIE X pins σ tg R) E {s with heap:=s.heap.push {cls:= .type "range",data:= .fields #[.int lo t,.int hi u,.int 1 v]},toks:=tk}:=by
 refine wpAny_pyIter_range (IsRange.new ..) (small_one h1 h2 h3 h4) ?_;have I1:Inv X pins σ H {s with heap:=s.heap.push {cls:= .type "range",data:= .fields #[.int lo t,.int hi u,.int 1 v]},toks:=tk}:=I.kept fun b o e=>fG _ e;refine⟨(s.heap.push {cls:= .type "range",data:= .fields #[.int lo t,.int hi u,.int 1 v]}).objs.size,[(s.heap.push {cls:= .type "range",data:= .fields #[.int lo t,.int hi u,.int 1 v]}).objs.size],_,_,H,rfl,
  I1.kept (t':=tk) fun b o e=>fG _ e,turn_range _ lo (hi-lo).toNat,?_,fun b hb=> ?_,q⟩
 ·have e1:lo+((0:Nat):Int)*1=lo:=by simp
  have e2:(((hi-lo).toNat:Nat):Int)-((0:Nat):Int)=Builtin.Range.rangeSize lo hi 1:=by rw[rangeSize_one];split<;>omega
  show IsRangeIter _ _ (lo+((0:Nat):Int)*1) ((((hi-lo).toNat:Nat):Int)-((0:Nat):Int)) 1;rw[e1,e2];exact mW _ rfl
 ·have e:b=(s.heap.push {cls:= .type "range",data:= .fields #[.int lo t,.int hi u,.int 1 v]}).objs.size:=by simpa using hb
  subst e;exact I1.fpOk (bH _) (I1.hok.fresh (bH _))
noncomputable def iRng1(ta:TA):TI:=fun σ H R=>ta σ H fun vs H1=>∃j:Int,vs=[.int j]/\ -(2^62)<=j/\j<2^62/\R (Itr 0 j.toNat) H1
noncomputable def iRng2(ta:TA):TI:=fun σ H R=>ta σ H fun vs H1=>∃i j:Int,vs=[.int i,.int j]/\(-(2^62)<=i/\i<2^62/\ -(2^62)<=j/\j<2^62)/\R (Itr i (j-i).toNat) H1
theorem rY{a:Expr}{ta:TA}{p pos:Pos}(hg:Gl X "range")(hm:X.mg "range"=none)(ha:PA X [a] ta)(hs:starEach [a] X.env=[(false,eval a X.env)]:=by rfl):PI X tg (.Call (.Name "range" p) [a] [] pos) (iRng1 ta):=by
 intro pins s σ H R I h;refine Call_ (ld_blt I hg hm boot_range (Qy (thn (ha pos pins s σ H _ I h) fun us s1 ⟨vs,H1,I1,r1,q1⟩=> ?_) hs rfl));obtain⟨j,e,q1,q2,q⟩:=q1;subst e;cases r1 with
 |cons r rr=>
  cases rr;obtain⟨t,rfl⟩:=r;exact call_range_1 (range_it I1 (by omega) (by omega) q1 q2 (by simpa using q))
theorem pi_range2{a b:Expr}{ta:TA}{p pos:Pos}(hg:Gl X "range")(hm:X.mg "range"=none)(ha:PA X [a,b] ta)(hs:starEach [a,b] X.env=[(false,eval a X.env),(false,eval b X.env)]:=by rfl)(hs2:starEach [b] X.env=[(false,eval b X.env)]:=by rfl):
  PI X tg (.Call (.Name "range" p) [a,b] [] pos) (iRng2 ta):=by
 intro pins s σ H R I h;refine Call_ (ld_blt I hg hm boot_range (Qy (thn (ha pos pins s σ H _ I h) fun us s1 ⟨vs,H1,I1,r1,q1⟩=> ?_) (by rw[hs,hs2]) (by rw[hs2];rfl)));obtain⟨i,j,e,⟨q1,q2,q3,q4⟩,q⟩:=q1;subst e;cases r1 with
 |cons r rr=>
  cases rr with
  |cons r' rr=>
   cases rr;obtain⟨t,rfl⟩:=r;obtain⟨t',rfl⟩:=r';exact call_range_2 (range_it I1 q1 q2 q3 q4 q)
noncomputable def tFor(wi:TI)(g:TG)(tb:TS):TS:=fun D σ H=>wi σ H fun J H1=>∃W:Nat->Nat->St->Hp->Prop,(∃m,W 0 m σ H1)/\∀i m σ H,W i m σ H->
 (J.stop i H/\D.nx σ H)\/(J.go i H/\∃N:St->Hp->Prop,(∀σ' H',N σ' H'->∃m',m'<m/\W (i+1) m' σ' H')/\∀x H',J.yld i H x H'->g x σ H' fun σ2 H2=>tb {D with nx:=N,ct:=N,bk:=D.nx} σ2 H2)
noncomputable def pinsAt(fp:List Addr)(h:Heap):L1:=fp.filterMap fun b=>(h.get? b).map fun o=>(b,o)
theorem mem_pinsAt{fp:List Addr}{h:Heap}{b:Addr}{o:Obj}(hb:b∈fp)(e:h.get? b=some o):(b,o)∈pinsAt fp h:=Wo.mpr ⟨b,hb,by rw[e];rfl⟩
theorem of_pinsAt{fp:List Addr}{h:Heap}{p:Addr×Obj}(hp:p∈pinsAt fp h):p.1∈fp/\h.get? p.1=some p.2:=by
 obtain⟨b,hb,e⟩:=Wo.mp hp;cases q:h.get? b with
 |none=>rw[q]at e;cases e
 |some o=>
  rw[q]at e;have e':(b,o)=p:=was e;subst e';exact⟨hb,q⟩
theorem Inv.pinned{pins:L1}{σ:St}{H:Hp}{s:η}{fp:List Addr}(I:Inv X pins σ H s)(hf:∀b∈fp,FpOk X pins H b)(ho:∀b∈fp,∃o,s.heap.get? b=some o/\∀v,o.data≠.cell v):Inv X (pins++pinsAt fp s.heap) σ H s:=
 I.pins_of fun p hp=>(fH.mp hp).elim (fun z=>I.pin p (jC _ z)) fun z=>by
  obtain⟨hb,e⟩:=of_pinsAt z;obtain⟨f0,f1,f2,_⟩:=hf p.1 hb;obtain⟨o,e',d⟩:=ho p.1 hb;rw[e]at e';cases e';exact⟨e,f0,f1,f2,d⟩
theorem Inv.unpinned{pins pl:L1}{σ:St}{H:Hp}{s:η}(I:Inv X (pins++pl) σ H s):Inv X pins σ H s:=I.pins_of fun p hp=>I.pin p (jC _ (Qj _ hp))
theorem rR{iter:Expr}{body:List Stmt}{wi:TI}{g:TG}{tb:TS}{pos:Pos}(hp:PassesOwn (model X.prog X.w) X.A X.env X.xe)(hc:X.calm=true)(hi:PI X tg iter wi)(hg:PG X tg g)(hb:PSs X body tb)(hs:∀x,foldedSetIterable iter X.env x=pure x:=by intro _;rfl):PS X (.For tg iter body [] pos) (tFor wi g tb):=by
 intro pins s σ H D I h;refine wpAny_For (thn (hi pins s σ H _ I h) fun v s1 h1=>thn h1 fun itv s2 h2=> ?_) hs;obtain⟨it,fp,tn,J,H2,e,I2,T,st2,f2,W,⟨m0,w0⟩,turn⟩:=h2;subst e
 -- what stays true of the iterator's objects through the loop
 have stat:∀{H':Hp},(∀b∈fp,H' b=none)->∀b∈fp,FpOk X pins H' b:=fun hn b hb=>⟨hn b hb,(f2 b hb).2⟩;refine codeAny_forLoop_any (fun n s'=>∃i σ' H',Inv X pins σ' H' s'/\tn i s'.heap/\(∀b∈fp,H' b=none)/\W i n σ' H') ?_ m0 ⟨0,σ,H2,I2,st2,fun b hb=>(f2 b hb).1,w0⟩;rintro n s3 ⟨i,σ3,H3,I3,st3,fr3,w3⟩;rcases turn i n σ3 H3 w3 with⟨stop,qn⟩|⟨go,N,hN,step⟩
 ·refine Qt hp (thn (T.done X rfl rfl rfl hc i pins s3 σ3 H3 X.xe I3 (stat fr3) st3 stop) fun r s4 ⟨hr,I4⟩=> ?_);subst hr;exact TX ⟨σ3,H3,I4,qn⟩
 ·refine Qt hp (thn (T.item X rfl rfl rfl hc i pins s3 σ3 H3 X.xe I3 (stat fr3) st3 go) fun r s4 ⟨u,hr,h4⟩=> ?_);subst hr;refine Qt hp (thn h4 fun _ s5 ⟨x,H5,I5,r5,y5,st5,fr5⟩=> ?_);have I5':=I5.pinned (stat fr5) (T.obj _ _ st5);refine Qt hp (thn (hg _ s5 σ3 H5 x u _ I5' r5 (step x H5 y5)) fun _ s6 ⟨σ6,H6,I6,q6⟩=> ?_);refine Qt hp (thn (hb _ s6 σ6 H6 _ I6 q6) fun f s7 q7=> ?_);have again:∀{σ7:St} {H7:Hp},Inv X (pins++pinsAt fp s5.heap) σ7 H7 s7->N σ7 H7->∃m,m<n/\∃i σ' H',Inv X pins σ' H' s7/\tn i s7.heap/\(∀b∈fp,H' b=none)/\W i m σ' H':=fun{σ7 H7} I7 n7=>by
   obtain⟨m',hm,w7⟩:=hN σ7 H7 n7;refine⟨m',hm,i+1,σ7,H7,I7.unpinned,T.keep _ _ _ st5 fun b hb o e=>(I7.pin (b,o) (jC _ (jC _ (mem_pinsAt hb e)))).1,fun b hb=> ?_,w7⟩;obtain⟨o,e,d⟩:=T.obj _ _ st5 b hb;exact(I7.pin (b,o) (jC _ (jC _ (mem_pinsAt hb e)))).2.1
  cases f with
  |next=>obtain⟨σ7,H7,I7,n7⟩:=q7;exact again I7 n7
  |cont=>obtain⟨σ7,H7,I7,n7⟩:=q7;exact again I7 n7
  |brk=>obtain⟨σ7,H7,I7,q7⟩:=q7;exact⟨σ7,H7,I7.unpinned,q7⟩
  |ret v=>obtain⟨x7,σ7,H7,I7,r7,q7⟩:=q7;exact⟨x7,σ7,H7,I7.unpinned,r7,q7⟩
end
theorem for_list{K:W.Frag}{a:Addr}{xs:List V}{g:TG}{tb:TS}{D:Ends}{σ:St}{H:Hp}(Pv:Nat->St->Hp->Prop)(h0:Pv 0 σ H)(hl:∀i σ H,i<=xs.length->Pv i σ H->SqL K H a xs)(hs:∀i x σ H,xs[i]? =some x->Pv i σ H->g x σ H fun σ2 H2=>tb {D with nx:=Pv (i+1),ct:=Pv (i+1),bk:=D.nx} σ2 H2)(hd:∀σ H,Pv xs.length σ H->D.nx σ H):
  ∃W:Nat->Nat->St->Hp->Prop,(∃m,W 0 m σ H)/\∀i m σ H,W i m σ H->
   ((Itl K a).stop i H/\D.nx σ H)\/((Itl K a).go i H/\∃N:St->Hp->Prop,(∀σ' H',N σ' H'->∃m',m'<m/\W (i+1) m' σ' H')/\∀x H',(Itl K a).yld i H x H'->g x σ H' fun σ2 H2=>tb {D with nx:=N,ct:=N,bk:=D.nx} σ2 H2):=by
 refine⟨fun i m σ H=>m=xs.length-i/\i<=xs.length/\Pv i σ H,⟨xs.length,by simp,gG _,h0⟩,?_⟩;rintro i m σ H ⟨rfl,hi,p⟩;have q:=hl i σ H hi p;by_cases hlt:i<xs.length
 ·refine .inr ⟨⟨xs,xs[i],q,by simp[hlt]⟩,Pv (i+1),fun σ' H' p'=>⟨xs.length-(i+1),by omega,rfl,hlt,p'⟩,fun x H' y=> ?_⟩;obtain⟨e,y⟩:=y;subst e;exact hs i x σ _ (y xs q) p
 ·have e:i=xs.length:=by omega
  subst e;exact .inl ⟨⟨xs,q,bH _⟩,hd σ H p⟩
theorem for_tup{K:W.Frag}{a:Addr}{xs:List V}{g:TG}{tb:TS}{D:Ends}{σ:St}{H:Hp}(Pv:Nat->St->Hp->Prop)(h0:Pv 0 σ H)(hl:∀i σ H,i<=xs.length->Pv i σ H->SqT K H a xs)(hs:∀i x σ H,xs[i]? =some x->Pv i σ H->g x σ H fun σ2 H2=>tb {D with nx:=Pv (i+1),ct:=Pv (i+1),bk:=D.nx} σ2 H2)(hd:∀σ H,Pv xs.length σ H->D.nx σ H):
  ∃W:Nat->Nat->St->Hp->Prop,(∃m,W 0 m σ H)/\∀i m σ H,W i m σ H->
   ((Itt K a).stop i H/\D.nx σ H)\/((Itt K a).go i H/\∃N:St->Hp->Prop,(∀σ' H',N σ' H'->∃m',m'<m/\W (i+1) m' σ' H')/\∀x H',(Itt K a).yld i H x H'->g x σ H' fun σ2 H2=>tb {D with nx:=N,ct:=N,bk:=D.nx} σ2 H2):=by
 refine⟨fun i m σ H=>m=xs.length-i/\i<=xs.length/\Pv i σ H,⟨xs.length,by simp,gG _,h0⟩,?_⟩;rintro i m σ H ⟨rfl,hi,p⟩;have q:=hl i σ H hi p;by_cases hlt:i<xs.length
 ·refine .inr ⟨⟨xs,xs[i],q,by simp[hlt]⟩,Pv (i+1),fun σ' H' p'=>⟨xs.length-(i+1),by omega,rfl,hlt,p'⟩,fun x H' y=> ?_⟩;obtain⟨e,y⟩:=y;subst e;exact hs i x σ _ (y xs q) p
 ·have e:i=xs.length:=by omega
  subst e;exact .inl ⟨⟨xs,q,bH _⟩,hd σ H p⟩
theorem Kh{lo:Int}{n:Nat}{g:TG}{tb:TS}{D:Ends}{σ:St}{H:Hp}(Pv:Nat->St->Hp->Prop)(h0:Pv 0 σ H)(hs:∀i σ H,i<n->Pv i σ H->g (.int (lo+i)) σ H fun σ2 H2=>tb {D with nx:=Pv (i+1),ct:=Pv (i+1),bk:=D.nx} σ2 H2)(hd:∀σ H,Pv n σ H->D.nx σ H):
  ∃W:Nat->Nat->St->Hp->Prop,(∃m,W 0 m σ H)/\∀i m σ H,W i m σ H->
   ((Itr lo n).stop i H/\D.nx σ H)\/((Itr lo n).go i H/\∃N:St->Hp->Prop,(∀σ' H',N σ' H'->∃m',m'<m/\W (i+1) m' σ' H')/\∀x H',(Itr lo n).yld i H x H'->g x σ H' fun σ2 H2=>tb {D with nx:=N,ct:=N,bk:=D.nx} σ2 H2):=by
 refine⟨fun i m σ H=>m=n-i/\i<=n/\Pv i σ H,⟨n,by simp,gG _,h0⟩,?_⟩;rintro i m σ H ⟨rfl,hi,p⟩;by_cases hlt:i<n
 ·refine .inr ⟨hlt,Pv (i+1),fun σ' H' p'=>⟨n-(i+1),by omega,rfl,hlt,p'⟩,fun x H' y=> ?_⟩;obtain⟨e,y⟩:=y;subst e y;exact hs i σ _ hlt p
 ·have e:i=n:=by omega
  subst e;exact .inl ⟨bH _,hd σ H p⟩
noncomputable abbrev R2:=V->V->Hp->VK->Prop
noncomputable def OpR(X:Cx)(f:ζ->ζ->Sem ζ)(r:R2):Prop:=
 ∀(pins:L1) (s:η) (σ:St) (H:Hp) (x y:V) (v u:ζ) (Q:VK),Inv X pins σ H s->RelV x v->RelV y u->r x y H Q->
  wpAny (model X.prog X.w) X.A (f v u) (EP X pins σ Q) X.xe s
noncomputable def UnR(X:Cx)(f:ζ->Sem ζ)(r:V->Hp->VK->Prop):Prop:=
 ∀(pins:L1) (s:η) (σ:St) (H:Hp) (x:V) (v:ζ) (Q:VK),Inv X pins σ H s->RelV x v->r x H Q->
  wpAny (model X.prog X.w) X.A (f v) (EP X pins σ Q) X.xe s
noncomputable def CallR(X:Cx)(f:ζ)(r:List V->Hp->VK->Prop):Prop:=
 ∀(pins:L1) (s:η) (σ:St) (H:Hp) (xs:List V) (us:List ζ) (Q:VK),Inv X pins σ H s->Vals xs us->r xs H Q->
  wpAny (model X.prog X.w) X.A (call f us) (EP X pins σ Q) X.xe s
noncomputable def TruR(X:Cx)(r:V->Hp->(Bool->Hp->Prop)->Prop):Prop:=
 ∀(pins:L1) (s:η) (σ:St) (H:Hp) (x:V) (v:ζ) (Q:Bool->Hp->Prop),Inv X pins σ H s->RelV x v->r x H Q->
  wpAny (model X.prog X.w) X.A (truthy v) (TP X pins σ Q) X.xe s
noncomputable def tOp(r:R2)(ta tb:TE):TE:=fun σ H Q=>ta σ H fun x H1=>tb σ H1 fun y H2=>r x y H2 Q
noncomputable def tUn(r:V->Hp->VK->Prop)(ta:TE):TE:=fun σ H Q=>ta σ H fun x H1=>r x H1 Q
noncomputable def rI(C:Int->Int->Prop)(g:Int->Int->V):R2:=fun x y H Q=>∃i j,x= .int i/\y= .int j/\C i j/\Q (g i j) H
noncomputable def rI0(g:Int->Int->V):R2:=fun x y H Q=>∃i j,x= .int i/\y= .int j/\Q (g i j) H
noncomputable def rU(g:Int->V):V->Hp->VK->Prop:=fun x H Q=>∃i,x= .int i/\Q (g i) H
section
variable{X:Cx}{a b:Expr}{ta tb:TE}{pos:Pos}
theorem binT(ha:PE X a ta)(hb:PE X b tb){pins:L1}{s:η}{σ:St}{H:Hp}{R:V->V->Hp->Prop}(I:Inv X pins σ H s)(h:ta σ H fun x H1=>tb σ H1 fun y H2=>R x y H2){Q:L4}{f:ζ->ζ->Sem ζ}(hf:∀v u s2 x y H2,Inv X pins σ H2 s2->RelV x v->RelV y u->R x y H2->wpAny (model X.prog X.w) X.A (f v u) Q X.xe s2):
  wpAny (model X.prog X.w) X.A (eval a X.env) (fun v s₁=>wpAny (model X.prog X.w) X.A (eval b X.env) (fun u s₂=>wpAny (model X.prog X.w) X.A (f v u) Q X.xe s₂) X.xe s₁) X.xe s:=by
 refine thn (ha pins s σ H _ I h) fun v s1 ⟨x,H1,I1,r1,q1⟩=> ?_;refine thn (hb pins s1 σ H1 _ I1 q1) fun u s2 ⟨y,H2,I2,r2,q2⟩=> ?_;exact hf v u s2 x y H2 I2 r1 r2 q2
theorem bM{op:Operator}{r:R2}(ho:OpR X (binaryOp op) r)(ha:PE X a ta)(hb:PE X b tb):PE X (.BinOp a op b pos) (tOp r ta tb):=by
 intro pins s σ H Q I h;exact wpAny_BinOp (binT ha hb I h fun v u s2 x y H2 I2 rx ry q=>ho pins s2 σ H2 x y v u Q I2 rx ry q)
theorem pe_un{op:UnaryOp}{r:V->Hp->VK->Prop}(ho:UnR X (unaryOp op) r)(ha:PE X a ta):PE X (.UnaryOp op a pos) (tUn r ta):=by
 intro pins s σ H Q I h;exact UnaryOp_ (thn (ha pins s σ H _ I h) fun v s1 ⟨x,H1,I1,r1,q1⟩=>ho pins s1 σ H1 x v Q I1 r1 q1)
theorem opI{f:ζ->ζ->Sem ζ}{C:Int->Int->Prop}{g:Int->Int->Int}(rule:∀(i j:Int) (t u:Tok) (s:η) (Q:L4) (E:L4),C i j->Q (.int (g i j) s.toks) {s with toks:=s.toks+1}->wpAny (model X.prog X.w) X.A (f (.int i t) (.int j u)) Q E s):
  OpR X f (rI C fun i j=> .int (g i j)):=by
 intro pins s σ H x y v u Q I rx ry h;obtain⟨i,j,rfl,rfl,hc,q⟩:=h;obtain⟨t,rfl⟩:=rx;obtain⟨t',rfl⟩:=ry;exact rule i j t t' s _ _ hc ⟨.int (g i j),H,I.tok _,⟨_,rfl⟩,q⟩
theorem opI0{f:ζ->ζ->Sem ζ}{g:Int->Int->Int}(rule:∀(i j:Int) (t u:Tok) (s:η) (Q:L4) (E:L4),Q (.int (g i j) s.toks) {s with toks:=s.toks+1}->wpAny (model X.prog X.w) X.A (f (.int i t) (.int j u)) Q E s):
  OpR X f (rI0 fun i j=> .int (g i j)):=by
 intro pins s σ H x y v u Q I rx ry h;obtain⟨i,j,rfl,rfl,q⟩:=h;obtain⟨t,rfl⟩:=rx;obtain⟨t',rfl⟩:=ry;exact rule i j t t' s _ _ ⟨.int (g i j),H,I.tok _,⟨_,rfl⟩,q⟩
theorem opB0{f:ζ->ζ->Sem ζ}{g:Int->Int->Bool}(rule:∀(i j:Int) (t u:Tok) (s:η) (Q:L4) (E:L4),Q (.bool (g i j)) s->wpAny (model X.prog X.w) X.A (f (.int i t) (.int j u)) Q E s):
  OpR X f (rI0 fun i j=> .bl (g i j)):=by
 intro pins s σ H x y v u Q I rx ry h;obtain⟨i,j,rfl,rfl,q⟩:=h;obtain⟨t,rfl⟩:=rx;obtain⟨t',rfl⟩:=ry;exact rule i j t t' s _ _ ⟨.bl (g i j),H,I,rfl,q⟩
noncomputable def CPow(i j:Int):Prop:=0<=j/\j<=1000000/\i.natAbs<2^64
noncomputable def CMul(i j:Int):Prop:=(-(2^64)<i/\i<2^64)\/(-(2^64)<j/\j<2^64)
theorem CMul.ok{i j:Int}(h:CMul i j):IntMulOk i j:=by
 rcases h with⟨h1,h2⟩|⟨h1,h2⟩
 ·exact .of_left (intBits_le_64 h1 h2)
 ·exact .of_right (intBits_le_64 h1 h2)
theorem mO:OpR X (binaryOp .Add) (rI0 fun i j=> .int (i+j)):=opI0 fun _ _ _ _ _ _ _ q=>add_int q
theorem op_sub:OpR X (binaryOp .Sub) (rI0 fun i j=> .int (i-j)):=opI0 fun _ _ _ _ _ _ _ q=>sub_int q
theorem op_mul:OpR X (binaryOp .Mult) (rI CMul fun i j=> .int (i*j)):=opI fun _ _ _ _ _ _ _ hc q=>mul_int q hc.ok
theorem op_mod:OpR X (binaryOp .Mod) (rI (fun _ j=>0<j) fun i j=> .int (i %j)):=opI fun i j _ _ _ _ _ hc q=>by
 have h1:(0:Int)<j:=hc;exact mod_int' (by omega) (by rw[Int.fmod_eq_emod_of_nonneg i (by omega)];exact q)
theorem op_pow:OpR X (binaryOp .Pow) (rI CPow fun i j=> .int (i^j.toNat)):=opI fun _ _ _ _ _ _ _ hc q=>pow_int_small hc.1 hc.2.1 hc.2.2 q
theorem unI{f:ζ->Sem ζ}{g:Int->Int}(rule:∀(i:Int) (t:Tok) (s:η) (Q:L4) (E:L4),Q (.int (g i) s.toks) {s with toks:=s.toks+1}->wpAny (model X.prog X.w) X.A (f (.int i t)) Q E s):
  UnR X f (rU fun i=> .int (g i)):=by
 intro pins s σ H x v Q I rx h;obtain⟨i,rfl,q⟩:=h;obtain⟨t,rfl⟩:=rx;exact rule i t s _ _ ⟨.int (g i),H,I.tok _,⟨_,rfl⟩,q⟩
theorem un_neg:UnR X (unaryOp .USub) (rU fun i=> .int (-i)):=unI fun _ _ _ _ _ q=>neg_int q
end
noncomputable def scal:V->V->Bool
 | .non,.non=>true| .non,.int _=>true| .int _,.non=>true| .non,.bl _=>true| .bl _,.non=>true| .non,.str _=>true| .str _,.non=>true
 | .int _,.int _=>true| .bl _,.bl _=>true| .str _,.str _=>true| .byt _,.byt _=>true
 | .int _,.str _=>true| .str _,.int _=>true| .bl _,.str _=>true| .str _,.bl _=>true
 |_,_=>false
noncomputable def rEq:R2:=fun x y H Q=>scal x y=true/\Q (.bl (decide (x=y))) H
noncomputable def rNe:R2:=fun x y H Q=>scal x y=true/\Q (.bl (!decide (x=y))) H
theorem dec_int{i j:Int}:decide (V.int i=V.int j)=(i==j):=by
 rw[qM];simp
theorem dec_bl{i j:Bool}:decide (V.bl i=V.bl j)=(i==j):=by
 rw[qM];simp
theorem dec_str{i j:Str}:decide (V.str i=V.str j)=(i==j):=by
 rw[qM];simp
theorem dec_byt{i j:Array UInt8}:decide (V.byt i=V.byt j)=(i.toList==j.toList):=by
 rw[qM];cases i;cases j;simp
section
variable{X:Cx}{a b c:Expr}{ta tb tc:TE}{pos:Pos}
theorem iQ{pins:L1}{σ:St}{H:Hp}{s:η}{Q:VK}{k k':Bool}(I:Inv X pins σ H s)(q:Q (.bl k) H)(e:k=k'):EP X pins σ Q (.bool k') s:=by
 subst e;exact⟨.bl k,H,I,rfl,q⟩
theorem op_eq:OpR X (compareOp .Eq) rEq:=by
 intro pins s σ H x y v u Q I rx ry h;obtain⟨hs,q⟩:=h;cases x with
 |non=>
  cases rx;cases y with
  |non=>cases ry;exact PySem.EqNone.eq_none_none (iQ I q (by simp))
  |bl j=>cases ry;exact PySem.EqNone.eq_none_bool (iQ I q (by simp))
  |int j=>obtain⟨t',rfl⟩:=ry;exact PySem.EqNone.eq_none_int (iQ I q (by simp))
  |str j=>obtain⟨t',rfl⟩:=ry;exact PySem.EqNone.eq_none_str (iQ I q (by simp))
  |_=>exact absurd (show false=true from hs) lQ
 |bl i=>
  cases rx;cases y with
  |non=>cases ry;exact PySem.EqNone.eq_bool_none (iQ I q (by simp))
  |bl j=>cases ry;exact eq_bool (iQ I q dec_bl)
  |str j=>obtain⟨t',rfl⟩:=ry;exact PySem.EqMixed.eq_bool_str (iQ I q (by simp))
  |_=>exact absurd (show false=true from hs) lQ
 |int i=>
  obtain⟨t,rfl⟩:=rx;cases y with
  |non=>cases ry;exact PySem.EqNone.eq_int_none (iQ I q (by simp))
  |int j=>obtain⟨t',rfl⟩:=ry;exact eq_int (iQ I q dec_int)
  |str j=>obtain⟨t',rfl⟩:=ry;exact PySem.EqMixed.eq_int_str (iQ I q (by simp))
  |_=>exact absurd (show false=true from hs) lQ
 |str i=>
  obtain⟨t,rfl⟩:=rx;cases y with
  |non=>cases ry;exact PySem.EqNone.eq_str_none (iQ I q (by simp))
  |bl j=>cases ry;exact PySem.EqMixed.eq_str_bool (iQ I q (by simp))
  |int j=>obtain⟨t',rfl⟩:=ry;exact PySem.EqMixed.eq_str_int (iQ I q (by simp))
  |str j=>obtain⟨t',rfl⟩:=ry;exact eq_str (iQ I q dec_str)
  |_=>exact absurd (show false=true from hs) lQ
 |byt i=>
  obtain⟨t,rfl⟩:=rx;cases y with
  |byt j=>obtain⟨t',rfl⟩:=ry;exact PySem.W.eq_bytes (iQ I q dec_byt)
  |_=>exact absurd (show false=true from hs) lQ
 |_=>cases y<;>exact absurd (show false=true from hs) lQ
theorem op_ne:OpR X (compareOp .NotEq) rNe:=by
 intro pins s σ H x y v u Q I rx ry h;obtain⟨hs,q⟩:=h;cases x with
 |non=>
  cases rx;cases y with
  |non=>cases ry;exact PySem.EqNone.ne_none_none (iQ I q (by simp))
  |bl j=>cases ry;exact PySem.EqNone.ne_none_bool (iQ I q (by simp))
  |int j=>obtain⟨t',rfl⟩:=ry;exact PySem.EqNone.ne_none_int (iQ I q (by simp))
  |str j=>obtain⟨t',rfl⟩:=ry;exact PySem.EqNone.ne_none_str (iQ I q (by simp))
  |_=>exact absurd (show false=true from hs) lQ
 |bl i=>
  cases rx;cases y with
  |non=>cases ry;exact PySem.EqNone.ne_bool_none (iQ I q (by simp))
  |bl j=>cases ry;exact ne_bool (iQ I q (iy not dec_bl))
  |str j=>obtain⟨t',rfl⟩:=ry;exact PySem.EqMixed.ne_bool_str (iQ I q (by simp))
  |_=>exact absurd (show false=true from hs) lQ
 |int i=>
  obtain⟨t,rfl⟩:=rx;cases y with
  |non=>cases ry;exact PySem.EqNone.ne_int_none (iQ I q (by simp))
  |int j=>obtain⟨t',rfl⟩:=ry;exact ne_int (iQ I q (iy not dec_int))
  |str j=>obtain⟨t',rfl⟩:=ry;exact PySem.EqMixed.ne_int_str (iQ I q (by simp))
  |_=>exact absurd (show false=true from hs) lQ
 |str i=>
  obtain⟨t,rfl⟩:=rx;cases y with
  |non=>cases ry;exact PySem.EqNone.ne_str_none (iQ I q (by simp))
  |bl j=>cases ry;exact PySem.EqMixed.ne_str_bool (iQ I q (by simp))
  |int j=>obtain⟨t',rfl⟩:=ry;exact PySem.EqMixed.ne_str_int (iQ I q (by simp))
  |str j=>obtain⟨t',rfl⟩:=ry;exact ne_str (iQ I q (iy not dec_str))
  |_=>exact absurd (show false=true from hs) lQ
 |byt i=>
  obtain⟨t,rfl⟩:=rx;cases y with
  |byt j=>obtain⟨t',rfl⟩:=ry;exact PySem.W.ne_bytes (iQ I q (iy not dec_byt))
  |_=>exact absurd (show false=true from hs) lQ
 |_=>cases y<;>exact absurd (show false=true from hs) lQ
theorem op_lt:OpR X (compareOp .Lt) (rI0 fun i j=> .bl (decide (i<j))):=opB0 fun _ _ _ _ _ _ _ q=>lt_int q
theorem op_le:OpR X (compareOp .LtE) (rI0 fun i j=> .bl (decide (i<=j))):=opB0 fun _ _ _ _ _ _ _ q=>le_int q
theorem op_gt:OpR X (compareOp .Gt) (rI0 fun i j=> .bl (decide (j<i))):=opB0 fun _ _ _ _ _ _ _ q=>gt_int q
theorem op_ge:OpR X (compareOp .GtE) (rI0 fun i j=> .bl (decide (j<=i))):=opB0 fun _ _ _ _ _ _ _ q=>ge_int q
theorem op_isN:OpR X (compareOp .Is) (fun x y H Q=>y= .non/\Q (.bl (decide (x= .non))) H):=by
 intro pins s σ H x y v u Q I rx ry h;obtain⟨rfl,q⟩:=h;cases ry;refine is_none_gen (iQ I q ?_);cases x<;>first
  |(cases rx;rfl)
  |(obtain⟨t,rfl⟩:=rx;rfl)
theorem op_notN:OpR X (compareOp .IsNot) (fun x y H Q=>y= .non/\Q (.bl (!decide (x= .non))) H):=by
 intro pins s σ H x y v u Q I rx ry h;obtain⟨rfl,q⟩:=h;cases ry;refine isnot_none_gen (iQ I q ?_);cases x<;>first
  |(cases rx;rfl)
  |(obtain⟨t,rfl⟩:=rx;rfl)
theorem OpR.or{f:ζ->ζ->Sem ζ}{r r':R2}(h:OpR X f r)(h':OpR X f r'):OpR X f (fun x y H Q=>r x y H Q\/r' x y H Q):=by
 intro pins s σ H x y v u Q I rx ry q;rcases q with q|q
 ·exact h pins s σ H x y v u Q I rx ry q
 ·exact h' pins s σ H x y v u Q I rx ry q
theorem nomark(b:Expr){op:CmpOp}(h:op≠.In:=by decide)(h2:op≠.NotIn:=by decide):behindInMarks op b=false:=by
 have e1:(op==CmpOp.In)=false:=by cases op<;>first |rfl|exact absurd rfl h
 have e2:(op==CmpOp.NotIn)=false:=by cases op<;>first |rfl|exact absurd rfl h2
 cases b<;>simp[behindInMarks,e1,e2]
theorem pe_cmpR{op:CmpOp}{r:R2}(ho:OpR X (compareOp op) r)(ha:PE X a ta)(hb:PE X b tb)(hm:behindInMarks op b=false:=by exact nomark _):PE X (.Compare a [op] [b] pos) (tOp r ta tb):=by
 intro pins s σ H Q I h;exact wpAny_Compare1 (binT ha hb I h fun v u s2 x y H2 I2 rx ry q=>ho pins s2 σ H2 x y v u Q I2 rx ry q) hm
noncomputable def tTest(t:TE):TT:=fun σ H Q=>t σ H fun x H'=>∃k,x= .bl k/\Q k H'
theorem dW{op:CmpOp}{r:R2}(ho:OpR X (compareOp op) r)(ha:PE X a ta)(hb:PE X b tb)(hm:behindInMarks op b=false:=by exact nomark _):PT X (.Compare a [op] [b] pos) (tTest (tOp r ta tb)):=by
 intro pins s σ H Q I h;refine wpAny_isTrue_Compare1 (thn (ha pins s σ H _ I h) fun v s1 ⟨x,H1,I1,r1,q1⟩=>thn (hb pins s1 σ H1 _ I1 q1) fun u s2 ⟨y,H2,I2,r2,q2⟩=>
  thn (ho pins s2 σ H2 x y v u _ I2 r1 r2 q2) fun c s3 ⟨z,H3,I3,r3,k,e,q3⟩=> ?_) hm
 subst e;cases r3;exact JX ⟨H3,I3,q3⟩
noncomputable def tChain(r r':R2)(ta tb tc:TE):TE:=fun σ H Q=>ta σ H fun x H1=>tb σ H1 fun y H2=>r x y H2 fun z H3=>∃k,z= .bl k/\
 (if k=true then tc σ H3 fun w' H4=>r' y w' H4 Q else Q (.bl false) H3)
theorem pe_chain{op op':CmpOp}{r r':R2}(ho:OpR X (compareOp op) r)(ho':OpR X (compareOp op') r')(ha:PE X a ta)(hb:PE X b tb)(hc:PE X c tc)(hm:lastMarks [op,op'] [b,c]=false:=by with_unfolding_all rfl):PE X (.Compare a [op,op'] [b,c] pos) (tChain r r' ta tb tc):=by
 intro pins s σ H Q I h;refine Compare_chain (thn (ha pins s σ H _ I h) fun v s1 ⟨x,H1,I1,r1,q1⟩=>chain_link (thn (hb pins s1 σ H1 _ I1 q1) fun u s2 ⟨y,H2,I2,r2,q2⟩=>
  thn (ho pins s2 σ H2 x y v u _ I2 r1 r2 q2) fun d s3 ⟨z,H3,I3,r3,k,e,q3⟩=> ?_)) hm
 subst e;cases r3;refine JX ?_;cases k with
 |false=>exact ite_ff ⟨.bl false,H3,I3,rfl,q3⟩
 |true=>exact ite_tt (chain_last (thn (hc pins s3 σ H3 _ I3 q3) fun w' s4 ⟨z',H4,I4,r4,q4⟩=>ho' pins s4 σ H4 y z' u w' Q I4 r2 r4 q4))
noncomputable def TruV(K:W.Frag)(x:V)(H:Hp)(k:Bool):Prop:=
 match x with
 | .non=>k=false
 | .bl b=>k=b
 | .int i=>k=(i !=0)
 | .str y=>y.length<=sizeLine/\k=((y.length:Int) !=0)
 | .byt y=>y.size<=sizeLine/\k=((y.size:Int) !=0)
 | .ref p=>(∃xs,SqL K H p xs/\k= !xs.isEmpty)\/(∃xs,SqT K H p xs/\k= !xs.isEmpty)\/∃kvs,H p=some (.dK kvs)/\k= !kvs.isEmpty
 |_=>False
theorem isEmpty_kv{κ:Type}{kvs:List (κ×V)}{vs:List (κ×ζ)}(r:KV kvs vs):(!vs.isEmpty)= !kvs.isEmpty:=by
 cases r<;>rfl
theorem isEmpty_of{xs:List V}{its:List ζ}(r:Vals xs its):(!its.toArray.isEmpty)= !xs.isEmpty:=by
 cases r<;>simp
theorem line63:(sizeLine:Nat)<2^63:=by rw[cY];decide
theorem tru_ok:TruR X (fun x H Q=>∃k,TruV X.K x H k/\Q k H):=by
 intro pins s σ H x v Q I rx h;obtain⟨k,e,q⟩:=h;have hl:=line63;have hs:sizeLine=16777216:=cY;cases x with
 |non=>
  cases rx;have e':k=false:=e;subst e';exact truthy_none ⟨H,I,q⟩
 |bl b=>
  cases rx;have e':k=b:=e;subst e';exact JX ⟨H,I,q⟩
 |int i=>
  obtain⟨t,rfl⟩:=rx;have e':k=(i !=0):=e;subst e';exact PySem.P.truthy_int ⟨H,I,q⟩
 |str y=>
  obtain⟨t,rfl⟩:=rx;obtain⟨hy,e'⟩:y.length<=sizeLine/\k=((y.length:Int) !=0):=e;subst e';exact PySem.P.truthy_str (by omega) ⟨H,I.tok _,q⟩
 |byt y=>
  obtain⟨t,rfl⟩:=rx;obtain⟨hy,e'⟩:y.size<=sizeLine/\k=((y.size:Int) !=0):=e;subst e';exact PySem.W.truthy_bytes (by omega) ⟨H,I.tok _,q⟩
 |ref p=>
  cases rx;have e':(∃xs,SqL X.K H p xs/\k= !xs.isEmpty)\/(∃xs,SqT X.K H p xs/\k= !xs.isEmpty)\/∃kvs,H p=some (.dK kvs)/\k= !kvs.isEmpty:=e;rcases e' with⟨xs,hx,e'⟩|⟨xs,hx,e'⟩|⟨kvs,hx,e'⟩
  ·subst e';obtain⟨its,r,pl,hz⟩:=I.list hx;have hlen:=r.length;exact wpAny_truthy_list pl.isList (by simp only[eG];omega) ⟨H,I.tok _,by rw[isEmpty_of r];exact q⟩
  ·subst e';obtain⟨its,r,pl,hz⟩:=I.tuple hx;have hlen:=r.length;exact truthy_tuple pl (by simp only[eG];omega) ⟨H,I.tok _,by rw[isEmpty_of r];exact q⟩
  ·subst e';obtain⟨hz,hS,vs,r,m⟩:kvs.length<=sizeLine/\(p==sysModules)=false/\∃vs,KV kvs vs/\s.heap.DictOf (mixKind X.prog X.w) p vs:=I.hok p _ hx;have hlen:kvs.length=vs.length:=U4 r;exact wpAny_truthy_dict hS m (by omega) ⟨H,I.tok _,by rw[isEmpty_kv r];exact q⟩
 |_=>exact(show False from e).elim
theorem pt_truth(ha:PE X a ta)(he:∀whole,isTrue a X.env whole=(do let v<-whole;standAt a.pos;holding [v] (truthy v))):
  PT X a (fun σ H Q=>ta σ H fun x H'=>∃k,TruV X.K x H' k/\Q k H'):=by
 intro pins s σ H Q I h;exact isTrue_plain (thn (ha pins s σ H _ I h) fun v s1 ⟨x,H1,I1,r1,q1⟩=>tru_ok pins s1 σ H1 x v Q I1 r1 q1) (he _)
theorem vals1{x:V}{us:List ζ}(r:Vals [x] us):∃u,us=[u]/\RelV x u:=by
 cases r with
 |cons r1 r2=>cases r2;exact⟨_,rfl,r1⟩
theorem vals2{x y:V}{us:List ζ}(r:Vals [x,y] us):∃u w',us=[u,w']/\RelV x u/\RelV y w':=by
 cases r with
 |cons r1 r2=>
  cases r2 with
  |cons r3 r4=>cases r4;exact⟨_,_,rfl,r1,r3⟩
theorem call_abs:CallR X (.builtin "abs") (fun xs H Q=>∃i,xs=[.int i]/\Q (.int (if i<0 then -i else i)) H):=by
 intro pins s σ H xs us Q I r h;obtain⟨i,rfl,q⟩:=h;obtain⟨u,rfl,t,rfl⟩:=vals1 r;exact call_abs_int fun u tk=>⟨.int (if i<0 then -i else i),H,I.tok _,⟨_,rfl⟩,q⟩
theorem call_max2(hc:X.calm=true):CallR X (.builtin "max") (fun xs H Q=>∃i j,xs=[.int i,.int j]/\Q (.int (if j>i then j else i)) H):=by
 intro pins s σ H xs us Q I r h;obtain⟨i,j,rfl,q⟩:=h;obtain⟨u,w',rfl,⟨t,rfl⟩,⟨t',rfl⟩⟩:=vals2 r;refine max_two_ints (I.ok.hd hc) fun h' tk k=>⟨_,H,I.kept k,?_,q⟩;by_cases hj:j>i
 ·rw[aL hj,aL hj];exact⟨_,rfl⟩
 ·rw[aJ hj,aJ hj];exact⟨_,rfl⟩
theorem call_min2(hc:X.calm=true):CallR X (.builtin "min") (fun xs H Q=>∃i j,xs=[.int i,.int j]/\Q (.int (if j<i then j else i)) H):=by
 intro pins s σ H xs us Q I r h;obtain⟨i,j,rfl,q⟩:=h;obtain⟨u,w',rfl,⟨t,rfl⟩,⟨t',rfl⟩⟩:=vals2 r;refine min_two_ints (I.ok.hd hc) fun h' tk k=>⟨_,H,I.kept k,?_,q⟩;by_cases hj:j<i
 ·rw[aL hj,aL hj];exact⟨_,rfl⟩
 ·rw[aJ hj,aJ hj];exact⟨_,rfl⟩
end
structure ObjM(h:Heap)(x dx C:Addr)(mA:L5):Prop where
 obj:h.get? x=some (PySem.W.instObj C dx)
 ns:h.Ns1 dx mA
 ne:dx≠x
theorem lookIn_ns{h:Heap}{dx:Addr}{mA:L5}(n:h.Ns1 dx mA):∃od,h.get? dx=some od/\∀name,PySem.W.lookIn name od=some (mA name):=by
 obtain⟨o,es,ep,ho,hd,hk,_,hm⟩:=n;refine⟨o,ho,fun name=> ?_⟩;have e:=hm name;unfold nsFind findBy at e;rw[<-Array.find?_toList]at e;unfold PySem.W.lookIn;rw[hd];dsimp only;split
 ·rename_i y q;rw[q]at e;exact iy some e
 ·rename_i q;rw[q]at e;have a:es.toList.any (·.refKey)=false:=by
   rw[Qg];intro y hy;obtain⟨z,t,hkey⟩:=hk y (Array.mem_toList_iff.mp hy);simp[DictEntry.refKey,hkey]
  have a':¬es.toList.any (·.refKey)=true:=by rw[a];exact lQ
  rw[aJ a'];exact iy some e
theorem ObjM.look{h:Heap}{x dx C:Addr}{mA:L5}(I:ObjM h x dx C mA):∃od,PySem.W.InstAt h x (PySem.W.instObj C dx) C (some od)/\∀name,PySem.W.lookIn name od=some (mA name):=
 let⟨od,ho,hl⟩:=lookIn_ns I.ns
 ⟨od,⟨I.obj,rfl,rfl,ho⟩,hl⟩
section
variable{prog:ξ}{w:τ}{A:υ}{E:L4}{s:η}{K:W.Frag}{x dx C f:Addr}{mA:L5}{name:Str}{v:ζ}
theorem get_map{expr:Bool}{Q:L4}(X:K.In s.heap)(I:ObjM s.heap x dx C mA)(hg:PySem.W.plainGet K C name=true)(hh:PySem.W.hasDictIn K C=true)(ha:PySem.W.findIn K (.ref C) name=some none)(hv:mA name=some v)(hv':PySem.W.handedIn v=true)(h:Q v {s with toks:=s.toks+1}):
  wpAny (model prog w) A (getAttr (.ref x) name expr) Q E s:=by
 obtain⟨od,J,hl⟩:=I.look;exact PySem.W.get_value X J (YD hg).1 (PySem.W.findObj_own hh ha rfl (by rw[hl,hv])) hv' h
theorem get_meth{pl:Sem Bool}{Q:ζ×List ζ->η->Prop}(X:K.In s.heap)(I:ObjM s.heap x dx C mA)(hg:PySem.W.plainGet K C name=true)(hf:PySem.W.findIn K (.ref C) name=some (some (.ref f)))(ht:PySem.W.isFn K (.ref f)=true)(hv:mA name=none)(h:Q (.ref f,[.ref x]) s):
  wpAny (model prog w) A (getMethod (.ref x) name pl) Q E s:=by
 obtain⟨od,J,hl⟩:=I.look;exact PySem.W.method_fn X J (YD hg).1 (YD hg).2 hf (beq_iff_eq.mp ht) (by show(PySem.W.lookIn name od).map (·.isSome)=some false;rw[hl,hv];rfl) h
theorem set_map{ns:List Str}{Q:Unit->η->Prop}(X:K.In s.heap)(I:ObjM s.heap x dx C mA)(hs:PySem.W.findIn K (.ref C) "__setattr__"=some (some (.builtin "object.__setattr__")))(hp:PySem.W.plainOver K C=true)(ht:PySem.W.takerIn K C name=some none)(hh:PySem.W.hasDictIn K C=true)(hw:PySem.Within mA ns)(hsz:ns.length<=sizeLine)(h:∀h',ObjM h' x dx C (fun y=>if y=name then some v else mA y)->Heap.SameBut dx s.heap h'->Q () {s with heap:=h',toks:=s.toks+2}):
  wpAny (model prog w) A (setAttr (.ref x) name v) Q E s:=by
 obtain⟨od,J,hl⟩:=I.look;refine PySem.W.set_plain X J hs (PySem.W.osa_open (s:={s with toks:=s.toks+1}) (r:=none) X J hp ht fun b=> ?_);obtain⟨cd,hc,hd'⟩:=PySem.W.any_some hh;have hx:s.heap.get? x=some ⟨.ref C,some dx,.plain,#[]⟩:=I.obj;refine aq (aV (aq (aq (wpAny_loadPart hx (aq (PySem.W.Looks.here (s:={s with toks:=s.toks+1}) (PySem.W.looks_clsIn X hc) ?_))))));rw[hd'];refine aV (a:=some dx) (aq (aV (aq ?_)));refine wpAny_nsSet1 (s:={s with toks:=s.toks+1}) I.ns fun h' hn2 hs2=> ?_;obtain⟨oD,esD,epD,hoD,hdD,hcD⟩:=hn2.count (PySem.Within.cons name v hw);refine aq (wpAny_lookBehind hoD (by rw[hdD];exact pastItsLine_dict (cC hcD (by rw[lO];omega))) ?_);exact aV (h _ ⟨(hs2.2 _ (uo I.ne)).trans I.obj,hn2,I.ne⟩ hs2)
theorem make_map{R:Result->η->Prop}{vs:List ζ}{kw:List (Str×ζ)}(X:K.In s.heap)(hm:PySem.W.makesIn K C=true)(hi:PySem.W.findIn K (.ref C) "__init__"=some (some (.ref f)))(hf:PySem.W.typeIn K (.ref f)=some (.type "function"))(h:codeAny (model prog w) (A.under (.builtin "type.__call__" ⟨.ref C::vs,kw⟩)) (.call (.ref f) ⟨.ref (s.heap.objs.size+1)::vs,kw⟩) (PySem.W.InitBack (s.heap.objs.size+1) R)
   {s with heap:=(s.heap.push PySem.W.emptyDict).push (PySem.W.instObj C s.heap.objs.size)}):
  codeAny (model prog w) A (.call (.ref C) ⟨vs,kw⟩) R s:=by
 obtain⟨hh,g,d,t,os⟩:=s;exact PySem.W.make_core (PySem.W.makes_of X hm) (PySem.W.looks_findIn X hi) (fun self=>PySem.W.bind_fn X self hf) (.inl rfl) h
end
noncomputable def putF(f:Str)(v:V):List (Str×V)->List (Str×V)
 |[]=>[(f,v)]
 |(g,x)::r=>if g=f then(g,v)::r else(g,x)::putF f v r
theorem lookup_putF(f g:Str)(v:V):∀fs:List (Str×V),(putF f v fs).lookup g=if g=f then some v else fs.lookup g
 |[]=>by
  show List.lookup g [(f,v)]=_;by_cases h:g=f
  ·have hb:(g==f)=true:=beq_iff_eq.mpr h;simp only[List.lookup,hb,aL h]
  ·have hb:(g==f)=false:=beq_eq_false_iff_ne.mpr h;simp only[List.lookup,hb,aJ h]
 |(k,x)::r=>by
  have ih:=lookup_putF f g v r;rw[show putF f v ((k,x)::r)=(if k=f then(k,v)::r else(k,x)::putF f v r)from rfl];by_cases hk:k=f
  ·rw[aL hk];by_cases h:g=k
   ·have hb:(g==k)=true:=beq_iff_eq.mpr h;simp only[List.lookup,hb,aL (h.trans hk)]
   ·have hb:(g==k)=false:=beq_eq_false_iff_ne.mpr h;simp only[List.lookup,hb,aJ (fun e:g=f=>h (e.trans hk.symm))]
  ·rw[aJ hk];by_cases h:g=k
   ·have hb:(g==k)=true:=beq_iff_eq.mpr h;simp only[List.lookup,hb,aJ (fun e:g=f=>hk (h.symm.trans e))]
   ·have hb:(g==k)=false:=beq_eq_false_iff_ne.mpr h;simp only[List.lookup,hb];exact ih
theorem keys_putF(f:Str)(v:V):∀fs:List (Str×V),f∈(putF f v fs).map (·.1)/\∀g,g∈fs.map (·.1)->g∈(putF f v fs).map (·.1)
 |[]=>⟨by simp[putF],fun g h=>by simp at h⟩
 |(k,x)::r=>by
  obtain⟨i1,i2⟩:=keys_putF f v r;rw[show putF f v ((k,x)::r)=(if k=f then(k,v)::r else(k,x)::putF f v r)from rfl];by_cases hk:k=f
  ·rw[aL hk];subst hk;exact⟨by simp,fun g h=>by simpa using h⟩
  ·rw[aJ hk];refine⟨?_,fun g h=> ?_⟩
   ·rw[jB];exact cP _ i1
   ·rw[jB]at h⊢;rcases cD.mp h with e|e
    ·exact cD.mpr (.inl e)
    ·exact cP _ (i2 g e)
theorem length_putF(f:Str)(v:V):∀fs:List (Str×V),(putF f v fs).length<=fs.length+1
 |[]=>by simp[putF]
 |(k,x)::r=>by
  have ih:=length_putF f v r;rw[show putF f v ((k,x)::r)=(if k=f then(k,v)::r else(k,x)::putF f v r)from rfl];by_cases hk:k=f
  ·rw[aL hk,lO,lO];omega
  ·rw[aJ hk,lO,lO];omega
theorem RelO.some_of{v:V}{o:Option ζ}(r:RelO (some v) o):∃u,o=some u/\RelV v u:=by
 cases o with
 |none=>exact(show False from r).elim
 |some u=>exact⟨u,rfl,r⟩
theorem RelO.none_of{o:Option ζ}(r:RelO none o):o=none:=by
 cases o with
 |none=>rfl
 |some u=>exact(show False from r).elim
theorem handed_of{v:V}{u:ζ}(r:RelV v u):PySem.W.handedIn u=true:=by
 cases v with
 |non=>cases(show u=Value.none from r);rfl
 |bl b=>cases(show u=Value.bool b from r);rfl
 |int i=>obtain⟨t,e⟩:=(show∃t,u=Value.int i t from r);cases e;rfl
 |str x=>obtain⟨t,e⟩:=(show∃t,u=Value.str x t from r);cases e;rfl
 |byt b=>obtain⟨t,e⟩:=(show∃t,u=Value.bytes b t from r);cases e;rfl
 |flt b=>obtain⟨t,e⟩:=(show∃t,u=Value.float b t from r);cases e;rfl
 |ref a=>cases(show u=Value.ref a from r);rfl
 |ty n=>cases(show u=Value.type n from r);rfl
section
variable{P:ξ}{w:τ}{H:Hp}{h:Heap}{a C dx:Addr}{fs:List (Str×V)}
theorem ins_get(hok:HOk P w H h)(e:H a=some (.ins C dx fs)):∃mA,ObjM h a dx C mA/\(∀f,RelO (fs.lookup f) (mA f))/\PySem.Within mA (fs.map (·.1))/\fs.length<=1000/\H dx=some (.own a):=by
 obtain⟨d,z,ne,ob,mA,n,r,q⟩:=(show ObjOk P w H h a (.ins C dx fs)from hok a _ e);exact⟨mA,⟨ob,n,ne⟩,r,q,z,d⟩
end
structure Cls(K:W.Frag)(C:Addr):Prop where
 pg:PySem.W.plainGet K C Str.empty=true
 hd:PySem.W.hasDictIn K C=true
 po:PySem.W.plainOver K C=true
 sa:PySem.W.findIn K (.ref C) "__setattr__"=some (some (.builtin "object.__setattr__"))
theorem Cls.get{K:W.Frag}{C:Addr}(c:Cls K C)(f:Str):PySem.W.plainGet K C f=true:=c.pg
noncomputable def NoAttr(K:W.Frag)(C:Addr)(f:Str):Prop:=PySem.W.findIn K (.ref C) f=some none
theorem NoAttr.taker{K:W.Frag}{C:Addr}{f:Str}(n:NoAttr K C f):PySem.W.takerIn K C f=some none:=by
 unfold PySem.W.takerIn;rw[show PySem.W.findIn K (.ref C) f=some none from n];rfl
structure Meth(K:W.Frag)(C:Addr)(m:Str)(f:Addr):Prop where
 at_:PySem.W.findIn K (.ref C) m=some (some (.ref f))
 fn:PySem.W.isFn K (.ref f)=true
 kp:PySem.W.keepIn K (.ref f)=true
section
variable{X:Cx}{pins:L1}{σ:St}{H:Hp}{s:η}{a C dx:Addr}{fs:List (Str×V)}{f:Str}{v:V}{A:υ}{E:L4}
theorem getattr_ok{b:Bool}{Q:L4}(I:Inv X pins σ H s)(e:H a=some (.ins C dx fs))(c:Cls X.K C)(n:NoAttr X.K C f)(l:fs.lookup f=some v)(h:∀u s',Inv X pins σ H s'->RelV v u->Q u s'):wpAny (model X.prog X.w) A (getAttr (.ref a) f b) Q E s:=by
 obtain⟨mA,O,r,_,_,_⟩:=ins_get I.hok e;obtain⟨u,hu,ru⟩:=RelO.some_of (v:=v) (o:=mA f) (by rw[<-l];exact r f);exact get_map I.kIn O (c.get f) c.hd n hu (handed_of ru) (h u _ (I.tok _) ru)
theorem getmeth_ok{m:Str}{g:Addr}{pl:Sem Bool}{Q:ζ×List ζ->η->Prop}(I:Inv X pins σ H s)(e:H a=some (.ins C dx fs))(c:Cls X.K C)(k:Meth X.K C m g)(l:fs.lookup m=none)(h:Q (.ref g,[.ref a]) s):wpAny (model X.prog X.w) A (getMethod (.ref a) m pl) Q E s:=by
 obtain⟨mA,O,r,_,_,_⟩:=ins_get I.hok e;have hn:mA m=none:=RelO.none_of (by rw[<-l];exact r m);exact get_meth I.kIn O (c.get m) k.at_ k.fn hn h
theorem setattr_ok{y:V}{u:ζ}{Q:Unit->η->Prop}(I:Inv X pins σ H s)(e:H a=some (.ins C dx fs))(c:Cls X.K C)(n:NoAttr X.K C f)(hl:fs.length<1000)(ry:RelV y u)(h:∀s',Inv X pins σ (upd H a (.ins C dx (putF f y fs))) s'->Q () s'):wpAny (model X.prog X.w) A (setAttr (.ref a) f u) Q E s:=by
 obtain⟨mA,O,r,wi,_,ho⟩:=ins_get I.hok e;have hz:(fs.map (·.1)).length<=sizeLine:=by rw[aM,cY];omega
 refine set_map I.kIn O c.sa c.po n.taker c.hd wi hz fun h' O' sb=>h _ ?_;have hd:∃o,h'.get? dx=some o:=let⟨o,_,_,e',_⟩:=O'.ns;⟨o,e'⟩;refine I.write (x:=a) (e:=dx) (by rw[e];exact True.intro) (.inr ho) (fun b q hb z=>(sb.2 b hb).trans z) hd ?_;refine⟨by rw[cN O.ne];exact ho,?_,O.ne,O'.obj,_,O'.ns,fun g=> ?_,fun g hg=> ?_⟩
 ·have:=length_putF f y fs;omega
 ·show RelO ((putF f y fs).lookup g) (if g=f then some u else mA g);rw[lookup_putF];by_cases q:g=f
  ·rw[aL q,aL q];exact ry
  ·rw[aJ q,aJ q];exact r g
 ·by_cases q:g=f
  ·rw[q];exact(keys_putF f y fs).1
  ·refine(keys_putF f y fs).2 g (wi g fun z=>hg ?_);show(if g=f then some u else mA g)=none;rw[aJ q];exact z
theorem Inv.made(I:Inv X pins σ H s):Inv X pins σ (upd (upd H s.heap.objs.size (.own (s.heap.objs.size+1))) (s.heap.objs.size+1) (.ins C s.heap.objs.size []))
  {s with heap:=(s.heap.push PySem.W.emptyDict).push (PySem.W.instObj C s.heap.objs.size)}:=by
 have e1:(s.heap.push PySem.W.emptyDict).get? s.heap.objs.size=some PySem.W.emptyDict:=mW s.heap rfl;have e2:((s.heap.push PySem.W.emptyDict).push (PySem.W.instObj C s.heap.objs.size)).get? (s.heap.objs.size+1)=some (PySem.W.instObj C s.heap.objs.size):=by
  have:=mW (s.heap.push PySem.W.emptyDict) (o:=PySem.W.instObj C s.heap.objs.size) rfl
  rwa [Tf]at this
 have e3:(s.heap.push PySem.W.emptyDict).Ns s.heap.objs.size (fun _=>none):=⟨PySem.W.emptyDict,#[],_,e1,rfl,(fun e he=>absurd he (by simp)),fun _=>rfl⟩;have I1:=I.laid (a:=s.heap.objs.size) (o:= .own (s.heap.objs.size+1)) (h':=s.heap.push PySem.W.emptyDict) (t':=s.toks) (fun b u q=>fG _ q) (bH _) ⟨_,e1⟩;refine I1.laid (a:=s.heap.objs.size+1) (o:= .ins C s.heap.objs.size []) (t':=s.toks) (fun b u q=>fG _ q) (zE (Tf _ _)) ?_;have ne:s.heap.objs.size≠s.heap.objs.size+1:=dX (JV _);refine⟨by rw[cN ne,aG],gG _,ne,e2,fun _=>none,(Heap.Ns1.of_empty e3).at fun o q=>fG _ q,fun _=>True.intro,fun y hy=>absurd rfl hy⟩
theorem attr_of{prog:ξ}{w:τ}{env:Env}{e:Expr}{f:Str}{pos:Pos}{s:η}{Q:L4}(hb:attributeBase e f env (eval e env)=eval e env)(h:wpAny (model prog w) A (eval e env) (fun o s₁=>wpAny (model prog w) A (getAttr o f true) Q E s₁) E s):wpAny (model prog w) A (eval (.Attribute e f pos) env) Q E s:=
 Attribute_any_ h (by rw[arm_eval_Attribute,hb])
end
noncomputable def tFld(K:W.Frag)(ta:TE)(f:Str):TE:=fun σ H Q=>ta σ H fun x H1=>∃a C dx fs v,x= .ref a/\H1 a=some (.ins C dx fs)/\Cls K C/\NoAttr K C f/\fs.lookup f=some v/\Q v H1
noncomputable def sFld(K:W.Frag)(ta tv:TE)(f:Str):TS:=fun D σ H=>tv σ H fun y H1=>ta σ H1 fun x H2=>∃a C dx fs,x= .ref a/\H2 a=some (.ins C dx fs)/\Cls K C/\NoAttr K C f/\fs.length<1000/\
 D.nx σ (upd H2 a (.ins C dx (putF f y fs)))
section
variable{X:Cx}{o e value:Expr}{f:Str}{pos pos':Pos}{ta tv:TE}
theorem pe_fld(he:PE X e ta)(hb:attributeBase e f X.env (eval e X.env)=eval e X.env):PE X (.Attribute e f pos) (tFld X.K ta f):=by
 intro pins s σ H Q I h;refine attr_of hb (thn (he pins s σ H _ I h) fun u s1 ⟨x,H1,I1,rx,a,C,dx,fs,v,ex,ea,c,n,l,q⟩=> ?_);subst ex;obtain rfl:u=Value.ref a:=rx;exact getattr_ok I1 ea c n l fun u' s2 I2 ru=>⟨v,H1,I2,ru,q⟩
theorem ps_fld(ha:PE X o ta)(hv:PE X value tv)(hs:swapsWith value (some (.Attribute o f pos')) pos.line X.env=pure false):PS X (.Assign [.Attribute o f pos'] value pos) (sFld X.K ta tv f):=by
 intro pins s σ H D I h;refine plainObj_wpAny_Assign_Attribute (thn (hv pins s σ H _ I h) fun u s1 ⟨y,H1,I1,ry,q⟩=>thn (ha pins s1 σ H1 _ I1 q) fun ov s2 ⟨x,H2,I2,rx,a,C,dx,fs,ex,ea,c,n,l,q2⟩=> ?_) hs;subst ex;obtain rfl:ov=Value.ref a:=rx;exact setattr_ok I2 ea c n l ry fun s3 I3=>⟨σ,_,I3,q2⟩
end
structure Room(k:Nat)(A:υ):Prop where
 hd:A.handled=none
 dp:A.depth+3*k+5<recursionLimit
 un:A.units+16*k+200<cLine
 gd:A.guards=some []
theorem Room.mono{j k:Nat}{A:υ}(r:Room k A)(h:j<=k):Room j A:=⟨r.hd,by have:=r.dp;omega,by have:=r.un;omega,r.gd⟩
theorem Room.deeper{k:Nat}{A:υ}(r:Room (k+1) A)(env:Env):Room k (A.deeper env):=
 ⟨r.hd,by have:=r.dp;show A.depth+1+3*k+5<_;omega,by have:=r.un;show A.units+3+16*k+200<_;omega,r.gd⟩
theorem Room.in1{k:Nat}{A:υ}(r:Room (k+1) A):Room k A.in1:=
 ⟨r.hd,by have:=r.dp;show A.depth+3*k+5<_;omega,by have:=r.un;show A.units+1+16*k+200<_;omega,r.gd⟩
theorem make_depth{A:υ}{C:Addr}{us:List ζ}{kw:List (Str×ζ)}:(A.under (.builtin "type.__call__" ⟨.ref C::us,kw⟩)).depth=A.depth+1:=by
 first |rfl|simp[Around.under,Code.weight,Code.isCreation,Code.isGuard,Code.isCaller,Code.frames,Code.isFrame,guardIds]
theorem make_units{A:υ}{C:Addr}{us:List ζ}{kw:List (Str×ζ)}:(A.under (.builtin "type.__call__" ⟨.ref C::us,kw⟩)).units=A.units+1:=by
 first |rfl|simp[Around.under,Code.cUnits,Code.frames,Code.isFrame]
theorem Room.make{k:Nat}{A:υ}(r:Room (k+1) A)(C:Addr)(us:List ζ)(kw:List (Str×ζ)):Room k (A.under (.builtin "type.__call__" ⟨.ref C::us,kw⟩)):=
 ⟨r.hd,by have:=r.dp;rw[make_depth];omega,by have:=r.un;rw[make_units];omega,by
  have q:=r.gd
  first |exact q|(simp[Around.under,Code.isGuard,guardIds];exact q)|(unfold Around.under;simp[Code.isGuard,guardIds,q])⟩
theorem Room.depth{k:Nat}{A:υ}(r:Room k A):A.depth<recursionLimit:=by have:=r.dp;omega
theorem Room.units{k:Nat}{A:υ}(r:Room k A):A.units+64<cLine:=by have:=r.un;omega
theorem Room.units0{k:Nat}{A:υ}(r:Room k A):A.units<cLine:=by have:=r.un;omega
noncomputable def tNil:TA:=fun _ H Q=>Q [] H
noncomputable def tCons(ta:TE)(tr:TA):TA:=fun σ H Q=>ta σ H fun x H1=>tr σ H1 fun xs H2=>Q (x::xs) H2
section
variable{X:Cx}{e:Expr}{es:List Expr}{te:TE}{t:TA}{pos:Pos}
theorem ak:PA X [] tNil:=fun _ _ _ _ H Q I h=>Yv ⟨[],H,I,.nil,h⟩
theorem aj(ha:PE X e te)(hr:PA X es t)(hs:starEach (e::es) X.env=(false,eval e X.env)::starEach es X.env:=by rfl):PA X (e::es) (tCons te t):=by
 intro pos pins s σ H Q I h;rw[hs];show wpAny _ _ (spliced ((false,eval e X.env)::backTo pos (starEach es X.env))) _ _ s;refine YB (thn (ha pins s σ H _ I h) fun u s1 ⟨x,H1,I1,r1,q1⟩=> ?_);exact thn (hr pos pins s1 σ H1 _ I1 q1) fun us s2 ⟨xs,H2,I2,r2,q2⟩=>⟨x::xs,H2,I2,.cons r1 r2,q2⟩
noncomputable def tTup(t:TA):TE:=fun σ H Q=>t σ H fun xs H1=>xs.length<=sizeLine/\∀p,H1 p=none->Q (.ref p) (upd H1 p (.tup xs))
noncomputable def tLst(t:TA):TE:=fun σ H Q=>t σ H fun xs H1=>xs.length<=sizeLine/\∀p,H1 p=none->Q (.ref p) (upd H1 p (.lst xs))
theorem cA{x1}(h:PA X es t):PE X (.Tuple es x1 pos) (tTup t):=by
 intro pins s σ H Q I hq;refine wpAny_Tuple_spliced (thn (h pos pins s σ H _ I hq) fun us s1 ⟨xs,H1,I1,r,z,q⟩=>⟨by rw[<-r.length];exact z,?_⟩);have hf:H1 s1.heap.objs.size=none:=I1.hok.fresh (bH _);refine⟨.ref s1.heap.objs.size,upd H1 s1.heap.objs.size (.tup xs),I1.laid (t':=s1.toks) (fun b u e=>fG _ e) (bH _) ?_,rfl,q _ hf⟩;exact⟨z,us,r,⟨_,mW _ rfl,rfl,_,rfl⟩⟩
theorem nJ(h:PA X es t):PE X (.List es pos) (tLst t):=by
 intro pins s σ H Q I hq;refine wpAny_List_spliced (thn (h pos pins s σ H _ I hq) fun us s1 ⟨xs,H1,I1,r,z,q⟩=>⟨by rw[<-r.length];exact z,?_⟩);have hf:H1 s1.heap.objs.size=none:=I1.hok.fresh (bH _);refine⟨.ref s1.heap.objs.size,upd H1 s1.heap.objs.size (.lst xs),I1.laid (t':=s1.toks) (fun b u e=>fG _ e) (bH _) ?_,rfl,q _ hf⟩;exact⟨z,us,0,r,mW _ rfl⟩
end
noncomputable abbrev Sp:=List V->Hp->VK->XK->Prop
noncomputable abbrev CXT:=List Env->Hp->η->XK->ζ->η->Prop
structure Env0(P:ξ)(w:τ)(K:W.Frag)(mg:L5)(base:Heap)(A:υ)(outer:List Env)(s:η)(H:Hp):Prop where
 frames:A.frames=some outer
 mod:Mod K mg base
 bs:∀b o,base.get? b=some o->s.heap.get? b=some o/\H b=none
 bsz:base.objs.size<=s.heap.objs.size
 funs:s.heap.FunFrames base outer
 frf:∀b∈frs outer,H b=none
 hok:HOk P w H s.heap
 bare:AllBare s.gens
noncomputable def CE(outer:List Env)(P:ξ)(w:τ)(H:Hp)(s:η)(Q:VK)(u:ζ)(s':η):Prop:=
 ∃v H',s'.os=s.os/\AllBare s'.gens/\Un (frs outer) [] H H' s.heap s'.heap/\HOk P w H' s'.heap/\RelV v u/\Q v H'
noncomputable def CR(CX:CXT)(outer:List Env)(P:ξ)(w:τ)(H:Hp)(s:η)(Q:VK)(E:XK)(r:Result)(s':η):Prop:=
 match r with
 | .ok (.ret u)=>CE outer P w H s Q u s'
 | .ok _=>False
 | .error e=>CX outer H s E e s'
structure FnOk(P:ξ)(w:τ)(K:W.Frag)(mg:L5)(base:Heap)(CX:CXT)(k:Nat)(f:Addr)(fd:ρ)(ps:List Str)(sp:Sp):Prop where
 len:∀vs H Q E,sp vs H Q E->vs.length=ps.length
 run:∀(A:υ) (outer:List Env) (s:η) (H:Hp) (args:Args) (us:List ζ) (vs:List V) (Q:VK) (E:XK),Room k A->Env0 P w K mg base A outer s H->BindsTo s fd args (ps.zip us)->Vals vs us->sp vs H Q E->
  codeAny (model P w) A (.call (.ref f) args) (CR CX outer P w H s Q E) s
theorem FnOk.mono{P:ξ}{w:τ}{K:W.Frag}{mg:L5}{base:Heap}{CX:CXT}{j k:Nat}{f:Addr}{fd:ρ}{ps:List Str}{sp:Sp}(F:FnOk P w K mg base CX j f fd ps sp)(h:j<=k):
  FnOk P w K mg base CX k f fd ps sp:=⟨F.len,fun A outer s H args us vs Q E hr=>F.run A outer s H args us vs Q E (hr.mono h)⟩
theorem FnOk.imp{P:ξ}{w:τ}{K:W.Frag}{mg:L5}{base:Heap}{CX:CXT}{k:Nat}{f:Addr}{fd:ρ}{ps:List Str}{sp sp':Sp}(F:FnOk P w K mg base CX k f fd ps sp)(h:∀vs H Q E,sp' vs H Q E->sp vs H Q E):FnOk P w K mg base CX k f fd ps sp':=
 ⟨fun vs H Q E q=>F.len vs H Q E (h _ _ _ _ q),fun A outer s H args us vs Q E hr he hb hv hs=>F.run A outer s H args us vs Q E hr he hb hv (h _ _ _ _ hs)⟩
theorem Env0.make{P:ξ}{w:τ}{K:W.Frag}{mg:L5}{base:Heap}{A:υ}{outer:List Env}{s:η}{H:Hp}(e:Env0 P w K mg base A outer s H)(C:Addr)(us:List ζ)(kw:List (Str×ζ)):
  Env0 P w K mg base (A.under (.builtin "type.__call__" ⟨.ref C::us,kw⟩)) outer s H:=⟨by first |exact e.frames|(simpa[Around.under,Code.envs,Code.isFrame,pushEnvs]using e.frames),e.mod,e.bs,e.bsz,e.funs,e.frf,e.hok,e.bare⟩
theorem Env0.in1{P:ξ}{w:τ}{K:W.Frag}{mg:L5}{base:Heap}{A:υ}{outer:List Env}{s:η}{H:Hp}(e:Env0 P w K mg base A outer s H):
  Env0 P w K mg base A.in1 outer s H:=⟨e.frames,e.mod,e.bs,e.bsz,e.funs,e.frf,e.hok,e.bare⟩
section
variable{X:Cx}{pins:L1}{σ:St}{H:Hp}{s s':η}
theorem Inv.env0(I:Inv X pins σ H s):Env0 X.prog X.w X.K X.mg X.base X.A X.stack s H:=
 ⟨I.ok.frames,I.ok.mod,I.bs,cC I.ok.bsz I.sz,I.stack,I.stkFree,I.hok,I.bare⟩
theorem Inv.after{Q:VK}{u:ζ}(I:Inv X pins σ H s)(h:CE X.stack X.prog X.w H s Q u s'):EP X pins σ Q u s':=by
 obtain⟨v,H',os,bare,un,hok,r,q⟩:=h;obtain⟨hh,g,d,t,os'⟩:=s';obtain rfl:os'=s.os:=os;exact⟨v,H',I.call (h':=hh) (g':=g) (d':=d) (t':=t) (ch:=[]) un hok bare (fun b z=>absurd z (by simp)),r,q⟩
end
noncomputable def tCall(sp:Sp)(dvs:List V)(E:XK)(t:TA):TE:=fun σ H Q=>t σ H fun vs H1=>sp (vs++dvs) H1 Q E
noncomputable def tMeth(C:Addr)(m:Str)(sp:Sp)(dvs:List V)(E:XK)(ta:TE)(t:TA):TE:=fun σ H Q=>ta σ H fun x H1=>∃a dx fs,x= .ref a/\H1 a=some (.ins C dx fs)/\fs.lookup m=none/\
 t σ H1 fun vs H2=>sp (x::(vs++dvs)) H2 Q E
noncomputable def tMake(C:Addr)(sp:Sp)(dvs:List V)(E:XK)(t:TA):TE:=fun σ H Q=>t σ H fun vs H1=>∀x dx,H1 x=none->H1 dx=none->dx≠x->
 sp (.ref x::(vs++dvs)) (upd (upd H1 dx (.own x)) x (.ins C dx [])) (fun v H2=>v= .non/\Q (.ref x) H2) E
noncomputable def Binds(K:W.Frag)(fd:ρ)(ps:List Str)(ds:List ζ):Prop:=
 ∀(s:η) (us:List ζ),K.In s.heap->(us++ds).length=ps.length->BindsTo s fd ⟨us,[]⟩ (ps.zip (us++ds))
theorem Binds.all{K:W.Frag}{fd:ρ}{ps:List Str}(h:∀us:List ζ,us.length=ps.length->bindArgs fd ⟨us,[]⟩=pure (ps.zip us)):Binds K fd ps []:=fun s us _ hl=>by
 rw[qT]at hl⊢;exact .of_eq (h us hl)
noncomputable def Passes(CX:CXT)(X:Cx)(E:XK):Prop:=∀(pins:L1) (σ:St) (H:Hp) (s:η) (e:ζ) (s':η),Inv X pins σ H s->CX X.stack H s E e s'->X.xe e s'
section
variable{X:Cx}{CX:CXT}{k:Nat}{f C:Addr}{fd:ρ}{ps:List Str}{sp:Sp}{dvs:List V}{ds:List ζ}{E:XK}{x m:Str}{p pos apos:Pos}{e o:Expr}{es:List Expr}{ta:TE}{t:TA}
theorem run_fn{pins:L1}{σ:St}{H:Hp}{s:η}{Q:VK}{us:List ζ}{vs:List V}(F:FnOk X.prog X.w X.K X.mg X.base CX k f fd ps sp)(hr:Room k X.A)(hb:Binds X.K fd ps ds)(hd:Vals dvs ds)(hx:Passes CX X E)
  (I:Inv X pins σ H s)(r:Vals vs us)(h:sp (vs++dvs) H Q E):wpAny (model X.prog X.w) X.A (call (.ref f) us) (EP X pins σ Q) X.xe s:=by
 have r2:Vals (vs++dvs) (us++ds):=r.append hd;have hl:(us++ds).length=ps.length:=by rw[<-r2.length];exact F.len _ _ _ _ h
 refine Tz (Oj (F.run X.A X.stack s H ⟨us,[]⟩ (us++ds) (vs++dvs) Q E hr I.env0 (hb s us I.kIn hl) r2 h) fun r s' hq=> ?_);cases r with
 |error e=>exact hx pins σ H s e s' I hq
 |ok fl=>
  cases fl with
  |ret u=>exact I.after hq
  |next=>exact False.elim hq
  |brk=>exact False.elim hq
  |cont=>exact False.elim hq
theorem rW(F:FnOk X.prog X.w X.K X.mg X.base CX k f fd ps sp)(hr:Room k X.A)(hg:Gl X x)(hm:X.mg x=some (.ref f))(hk:PySem.W.keepIn X.K (.ref f)=true)(hb:Binds X.K fd ps ds)(hd:Vals dvs ds)(hx:Passes CX X E)(ha:PA X (e::es) t)(hdb:(x==("__debug__":Str))=false:=by decide)(he:starEach (e::es) X.env=(false,eval e X.env)::starEach es X.env:=by rfl)(hpl:(backTo pos (starEach es X.env)).any (·.1)=false:=by rfl):
  PE X (.Call (.Name x p) (e::es) [] pos) (tCall sp dvs E t):=by
 intro pins s σ H Q I h;refine way (ld_glob I hg hm ?_ hdb);refine W8 (h₀:=X.base) I.ok.mod.kin hk (thn (ha pos pins s σ H _ I h) fun us s1 ⟨vs,H1,I1,r,q⟩=>⟨I1.kIn,?_⟩) he hpl;exact run_fn F hr hb hd hx I1 r q
theorem pe_meth{pl:Sem Bool}(he:PE X o ta)(c:Cls X.K C)(hm:Meth X.K C m f)(F:FnOk X.prog X.w X.K X.mg X.base CX k f fd ps sp)(hr:Room k X.A)(hb:Binds X.K fd ps ds)(hd:Vals dvs ds)(hx:Passes CX X E)(ha:PA X (e::es) t)(hst:starEach (e::es) X.env=(false,eval e X.env)::starEach es X.env:=by rfl)(hpl:(backTo pos (starEach es X.env)).any (·.1)=false:=by rfl)(ht:eval (.Call (.Attribute o m apos) (e::es) [] pos) X.env=(do
   let ov<-eval o X.env
   standAt apos.atName
   let(f,first)<-holding [ov] (getMethod ov m pl)
   callWith pos f first (backTo pos (starEach (e::es) X.env)) (backToKw pos (keywordEach [] X.env))):=by rfl):
  PE X (.Call (.Attribute o m apos) (e::es) [] pos) (tMeth C m sp dvs E ta t):=by
 intro pins s σ H Q I h;refine PySem.W.methodCall_KW (pl:=pl) (thn (he pins s σ H _ I h) fun u s1 ⟨x,H1,I1,rx,a,dx,fs,ex,ea,l,q⟩=> ?_) ht;subst ex;obtain rfl:u=Value.ref a:=rx;refine getmeth_ok I1 ea c hm l ?_;refine W8 (first:=[.ref a]) (h₀:=X.base) I.ok.mod.kin hm.kp (thn (ha pos pins s1 σ H1 _ I1 q) fun us s2 ⟨vs,H2,I2,r,q2⟩=>⟨I2.kIn,?_⟩) hst hpl;exact run_fn (us:= .ref a::us) (vs:= .ref a::vs) F hr hb hd hx I2 (.cons rfl r) q2
structure Mk(K:W.Frag)(C f:Addr):Prop where
 makes:PySem.W.makesIn K C=true
 init:PySem.W.findIn K (.ref C) "__init__"=some (some (.ref f))
 fn:PySem.W.isFn K (.ref f)=true
 kp:PySem.W.keepIn K (.ref C)=true
theorem run_make{pins:L1}{σ:St}{H:Hp}{s:η}{Q:VK}{us:List ζ}{vs:List V}(M:Mk X.K C f)(F:FnOk X.prog X.w X.K X.mg X.base CX k f fd ps sp)(hr:Room (k+1) X.A)(hb:Binds X.K fd ps ds)(hd:Vals dvs ds)(hx:Passes CX X E)(I:Inv X pins σ H s)(r:Vals vs us)(h:∀x dx,H x=none->H dx=none->dx≠x->sp (.ref x::(vs++dvs)) (upd (upd H dx (.own x)) x (.ins C dx [])) (fun v H2=>v= .non/\Q (.ref x) H2) E):
  wpAny (model X.prog X.w) X.A (call (.ref C) us) (EP X pins σ Q) X.xe s:=by
 have hq:=h (s.heap.objs.size+1) s.heap.objs.size (I.hok.fresh (TJ _)) (I.hok.fresh (bH _)) (dX (JV _));have I2:=Inv.made (C:=C) I;have r2:Vals (V.ref (s.heap.objs.size+1)::(vs++dvs)) (Value.ref (s.heap.objs.size+1)::(us++ds)):= .cons rfl (r.append hd);have hl:(Value.ref (s.heap.objs.size+1)::us++ds).length=ps.length:=by
  have e:=r2.length;rw[F.len _ _ _ _ hq]at e;exact e.symm
 refine Tz (make_map (f:=f) I.kIn M.makes M.init (beq_iff_eq.mp M.fn) (Oj (F.run _ X.stack _ _ ⟨Value.ref (s.heap.objs.size+1)::us,[]⟩ (Value.ref (s.heap.objs.size+1)::(us++ds)) _ _ E (hr.make C us [])
  (I2.env0.make C us []) (hb _ (Value.ref (s.heap.objs.size+1)::us) I2.kIn hl) r2 hq) fun r s' hq'=> ?_))
 cases r with
 |error e=>exact hx pins σ _ _ e s' I2 hq'
 |ok fl=>
  cases fl with
  |ret u=>
   obtain⟨v,H',I3,rv,ev,q3⟩:=I2.after hq';subst ev;exact⟨rv,⟨V.ref (s.heap.objs.size+1),H',I3,rfl,q3⟩⟩
  |next=>exact False.elim hq'
  |brk=>exact False.elim hq'
  |cont=>exact False.elim hq'
theorem pe_make(M:Mk X.K C f)(F:FnOk X.prog X.w X.K X.mg X.base CX k f fd ps sp)(hr:Room (k+1) X.A)(hg:Gl X x)(hm:X.mg x=some (.ref C))(hb:Binds X.K fd ps ds)(hd:Vals dvs ds)(hx:Passes CX X E)(ha:PA X (e::es) t)(hdb:(x==("__debug__":Str))=false:=by decide)(he:starEach (e::es) X.env=(false,eval e X.env)::starEach es X.env:=by rfl)(hpl:(backTo pos (starEach es X.env)).any (·.1)=false:=by rfl):
  PE X (.Call (.Name x p) (e::es) [] pos) (tMake C sp dvs E t):=by
 intro pins s σ H Q I h;refine way (ld_glob I hg hm ?_ hdb);refine W8 (h₀:=X.base) I.ok.mod.kin M.kp (thn (ha pos pins s σ H _ I h) fun us s1 ⟨vs,H1,I1,r,q⟩=>⟨I1.kIn,?_⟩) he hpl;exact run_make M F hr hb hd hx I1 r q
end
structure FnScope(N P:List Str)(sc:Scope):Prop where
 kind:sc.kind= .function
 co:sc.isCoroutine=false
 gen:sc.isGenerator=false
 nd:N.Nodup
 pre:N.take P.length=P
 par:∀x∈P,sc.names.lookup x=some .local\/sc.names.lookup x=some .cell
 nofree:∀y∈sc.names,y.2≠.free
theorem bindL_out{kindOf:Str->Option NameKind}{x:Str}:∀{binds:List (Str×ζ)} {m:L5},(∀v,(x,v)∉binds)->bindL kindOf binds m x=m x
 |[],_,_=>rfl
 |(n,v)::r,m,h=>by
  unfold bindL;rw[bindL_out fun w hw=>h w (cP _ hw)];split
  ·have:x≠n:=by rintro rfl;exact h v cH
   simp[this]
  ·rfl
theorem bindC_out{kindOf:Str->Option NameKind}{x:Str}:∀{binds:List (Str×ζ)} {m:L5},(∀v,(x,v)∉binds)->bindC kindOf binds m x=m x
 |[],_,_=>rfl
 |(n,v)::r,m,h=>by
  unfold bindC;rw[bindC_out fun w hw=>h w (cP _ hw)];split
  ·rfl
  ·have:x≠n:=by rintro rfl;exact h v cH
   simp[this]
theorem bindL_get{kindOf:Str->Option NameKind}{x:Str}{v:ζ}:∀{P:List Str} {vs:List ζ} {i:Nat} {m:L5},P.Nodup->P[i]? =some x->vs[i]? =some v->kindOf x=some .local->
  bindL kindOf (P.zip vs) m x=some v
 |[],_,_,_,_,h,_,_=>by simp at h
 |_::_,[],_,_,_,_,h,_=>by simp at h
 |p::P,w::vs,0,m,nd,h1,h2,hk=>by
  simp at h1 h2;subst h1;subst h2;show bindL kindOf ((p,w)::P.zip vs) m p=_;unfold bindL;rw[bindL_out fun v hv=>(Ef.mp nd).1 (Yk hv).1,aL hk];simp
 |p::P,w::vs,i+1,m,nd,h1,h2,hk=>by
  show bindL kindOf ((p,w)::P.zip vs) m x=_;unfold bindL;exact bindL_get (i:=i) (Ef.mp nd).2 (by simpa using h1) (by simpa using h2) hk
theorem bindC_get{kindOf:Str->Option NameKind}{x:Str}{v:ζ}:∀{P:List Str} {vs:List ζ} {i:Nat} {m:L5},P.Nodup->P[i]? =some x->vs[i]? =some v->kindOf x≠some .local->
  bindC kindOf (P.zip vs) m x=some v
 |[],_,_,_,_,h,_,_=>by simp at h
 |_::_,[],_,_,_,_,h,_=>by simp at h
 |p::P,w::vs,0,m,nd,h1,h2,hk=>by
  simp at h1 h2;subst h1;subst h2;show bindC kindOf ((p,w)::P.zip vs) m p=_;unfold bindC;rw[bindC_out fun v hv=>(Ef.mp nd).1 (Yk hv).1,aJ hk];simp
 |p::P,w::vs,i+1,m,nd,h1,h2,hk=>by
  show bindC kindOf ((p,w)::P.zip vs) m x=_;unfold bindC;exact bindC_get (i:=i) (Ef.mp nd).2 (by simpa using h1) (by simpa using h2) hk
noncomputable def start(N:List Str)(vs:List V):St:=vs.map some++List.replicate (N.length-vs.length) none
noncomputable def cxOf(CX:CXT)(P:ξ)(w:τ)(K:W.Frag)(mg:L5)(base:Heap)(N:List Str)(qual:Str)(scope:Scope)(f:Addr)(cd:ζ)(A:υ)(outer:List Env)(s:η)(H:Hp)(E:XK):Cx where
 prog:=P
 w:=w
 K:=K
 mg:=mg
 base:=base
 A:=A.deeper (envOfC qual scope s.heap.objs.size f cd)
 N:=N
 s₀:=s
 H₀:=H
 env:=envOfC qual scope s.heap.objs.size f cd
 outer:=outer
 stack:=envOfC qual scope s.heap.objs.size f cd::outer
 ex:=[]
 calm:=true
 fn:=fun _=>true
 pn:=[]
 xe:=fun e s'=>wpAny (model P w) (A.deeper (envOfC qual scope s.heap.objs.size f cd)) (leaving (envOfC qual scope s.heap.objs.size f cd) e) (fun _ s''=>CX outer H s E e s'') (fun e' s''=>CX outer H s E e' s'') s'
theorem cell_has{sc:Scope}{n:Nat}{x:Str}(h:sc.names.lookup x=some .cell):∃c,(cellsFrom n sc.names []).lookup x=some c:=by
 have q:=wex sc.names n [] (.inl h);exact Option.isSome_iff_exists.mp q
theorem inv_start{CX:CXT}{P:ξ}{w:τ}{K:W.Frag}{mg:L5}{base:Heap}{N ps:List Str}{qual:Str}{scope:Scope}{f:Addr}{cd:ζ}{A:υ}{outer:List Env}{s s1:η}{H:Hp}{E:XK}{us:List ζ}{vs:List V}
  (S:FnScope N ps scope)(hd:A.handled=none)(e0:Env0 P w K mg base A outer s H)(hl:vs.length=ps.length)(r:Vals vs us)(x:InCallC s s.heap.objs.size (bindL (envOfC qual scope s.heap.objs.size f cd).kindOf (ps.zip us) fun _=>none) (cellsFrom (s.heap.objs.size+1) scope.names []) (bindC (envOfC qual scope s.heap.objs.size f cd).kindOf (ps.zip us) fun _=>none) s1):
  Inv (cxOf CX P w K mg base N qual scope f cd A outer s H E) [] (start N vs) H s1:=by
 have hpl:ps.length<=N.length:=by have:=iy List.length S.pre;rw[qU]at this;omega
 obtain⟨h1,tk,rfl,hk⟩:=x.done;have noA:∀b:Addr,b∉(cxOf CX P w K mg base N qual scope f cd A outer s H E).ex:=fun b z=>absurd (show b∈([]:List Addr)from z) (by simp);refine⟨⟨e0.mod,S.kind,rfl,rfl,bH _,fun y z c h1 h2=> ?_,fun y hy=> ?_,fun y c _ h=> ?_,fun _=>hd,Around.frames_deeper e0.frames,.inr ⟨rfl,rfl⟩,fun b z=>absurd z (noA b),e0.bs,e0.bsz,fun b _ _=>noA b,fun b z=>absurd z (noA b),e0.funs,e0.frf⟩,
  rfl,e0.bare,Un.kept hk,⟨_,x.toInCall.ns,fun i y v h1 h2 h3=> ?_⟩,fun y c h=>⟨_,x.cell y c h⟩,e0.hok.fresh (bH _),fun y c h=> ?_,fun p hp=>absurd (show p∈([]:L1)from hp) (by simp),e0.hok.kept hk,?_⟩
 ·exact name_of_addr x.apart (Ez h1) (Ez h2)
 ·have hy:scope.names.lookup y=some .cell\/scope.names.lookup y=some .free:=hy;rcases hy with hy|hy
  ·exact cell_has hy
  ·exact absurd rfl (S.nofree _ (Ez hy))
 ·exact wR (x.above y c (Ez h))
 ·have hi:i<vs.length:=by
   unfold start at h2;by_cases hi:i<vs.length
   ·exact hi
   ·rw[Tq (by simpa using hi)]at h2;rw[List.getElem?_replicate]at h2;split at h2<;>cases h2
  have ha:vs[i]? =some v:=by
   unfold start at h2;rw[WD (by simpa using hi),dD]at h2;cases e:vs[i]? with
   |none=>rw[e]at h2;cases h2
   |some a=>rw[e]at h2;cases h2;rfl
  obtain⟨u,hu,rv⟩:=r.get ha;have hp:ps[i]? =some y:=by
   rw[<-S.pre,List.getElem?_take_of_lt (by omega)];exact h1
  have ndP:ps.Nodup:=by rw[<-S.pre];exact S.nd.sublist (List.take_sublist _ _)
  refine⟨u,rv,?_⟩;rcases S.par y (nP hp)with k|k
  ·exact .inl ⟨k,bindL_get ndP hp hu k⟩
  ·obtain⟨c,e⟩:=cell_has (n:=s.heap.objs.size+1) k;refine .inr ⟨.inl k,c,e,?_⟩;have q:=x.cell y c e;rw[bindC_get ndP hp hu (by show scope.names.lookup y≠_;rw[k];decide)]at q;exact q
 ·exact e0.hok.fresh (wR (x.above y c (Ez h)))
 ·unfold start;show _=N.length;rw[eO,aM,wfa];omega
theorem fn_of{CX:CXT}{P:ξ}{w:τ}{K:W.Frag}{mg:L5}{base:Heap}{k:Nat}{f:Addr}{name qual:Str}{params:Arguments}{body:List Stmt}{scope:Scope}{dV kV doc pm cdv ct oc:ζ}{an od:Option Addr}{osl:Array (Option ζ)}{N ps:List Str}{sp:Sp}(lk:K.lookup f=some ⟨oc,od,.func (PySem.W.fnOf name qual params body scope dV kV doc pm an cdv ct),osl⟩)(hcd:PySem.W.codeIn K cdv qual=true)(S:FnScope N ps scope)(len:∀vs H Q E,sp vs H Q E->vs.length=ps.length)(hbody:∀(A:υ) (outer:List Env) (s:η) (H:Hp) (vs:List V) (Q:VK) (E:XK),Room k (A.deeper (envOfC qual scope s.heap.objs.size f cdv))->sp vs H Q E->
   ∃t,PSs (cxOf CX P w K mg base N qual scope f cdv A outer s H E) body t/\t {nx:=fun _ H'=>Q .non H',rt:=Q} (start N vs) H):
  FnOk P w K mg base CX (k+1) f (PySem.W.fnOf name qual params body scope dV kV doc pm an cdv ct) ps sp:=by
 refine⟨len,fun A outer s H args us vs Q E hr e0 hb r hsp=> ?_⟩;have hl:=len _ _ _ _ hsp;have KX:K.In s.heap:=e0.mod.kin.keeps fun b o e=>(e0.bs b o e).1;have lim:s.heap.NoLimit:=e0.mod.nolimit.keeps fun b o e=>(e0.bs b o e).1;have hkind:∀y∈ps.zip us,scope.names.lookup y.1=some .local\/(scope.names.lookup y.1=some .cell/\((cellsFrom (s.heap.objs.size+1) scope.names []).lookup y.1).isSome=true):=fun⟨n,v⟩ hy=>by
  rcases S.par n (Yk hy).1 with q|q
  ·exact .inl q
  ·exact .inr ⟨q,wex _ _ _ (.inl q)⟩
 refine codeAny_call_function hr.depth (KX _ _ lk) rfl S.co S.gen rfl (PySem.W.codeRec_of KX hcd) (hb _ _ _ _ ?_);refine wpAny_newFunctionEnv_cells S.kind hkind fun env he s1 x=> ?_;subst he;refine⟨lim.keeps x.toInCall.keep,codeAny_func ?_⟩;obtain⟨t,ht,hq⟩:=hbody A outer s H vs Q E (hr.deeper _) hsp;have I:Inv (cxOf CX P w K mg base N qual scope f cdv A outer s H E) [] (start N vs) H s1:=inv_start S hr.hd e0 hl r x;refine uz (ht [] s1 (start N vs) H _ I hq) (fun fl s' hs=> ?_) fun e s' hs=>hs;have fin:∀{σ':St} {H':Hp} {v:V} {u:ζ},Inv (cxOf CX P w K mg base N qual scope f cdv A outer s H E) [] σ' H' s'->RelV v u->Q v H'->CE outer P w H s Q u s':=
  fun{σ' H' v u} J rv q=>⟨v,H',J.os,J.bare,J.base,J.hok,rv,q⟩
 cases fl with
 |ret u=>
  obtain⟨v,σ',H',J,rv,q⟩:=hs;exact fin J rv q
 |next=>
  obtain⟨σ',H',J,q⟩:=hs;exact fin (v:=V.non) (u:=Value.none) J rfl q
 |brk=>
  obtain⟨_,_,_,q⟩:=hs;exact False.elim q
 |cont=>
  obtain⟨_,_,_,q⟩:=hs;exact False.elim q
section
variable{X:Cx}{x:Str}{p pos:Pos}{e:Expr}{es:List Expr}{t:TA}{id T:String}{r:List V->Hp->VK->Prop}
noncomputable def tCB(r:List V->Hp->VK->Prop)(t:TA):TE:=fun σ H Q=>t σ H fun vs H1=>r vs H1 Q
theorem pe_callB(hc:CallR X (.builtin id) r)(hg:Gl X x)(hm:X.mg x=none)(hv:bootBuiltins x=some (.builtin id))(ha:PA X (e::es) t)(hn:x≠"__name__":=by decide)(hdb:(x==("__debug__":Str))=false:=by decide)(he:starEach (e::es) X.env=(false,eval e X.env)::starEach es X.env:=by rfl)(hpl:(backTo pos (starEach es X.env)).any (·.1)=false:=by rfl):PE X (.Call (.Name x p) (e::es) [] pos) (tCB r t):=by
 intro pins s σ H Q I h;refine way (ld_blt I hg hm hv ?_ hn hdb);exact PyProof.Rows.callWith_builtin1 (thn (ha pos pins s σ H _ I h) fun us s1 ⟨vs,H1,I1,r1,q1⟩=>hc pins s1 σ H1 vs us Q I1 r1 q1) he hpl
theorem pB{X:Cx}{x:Str}{id:String}{r:List V->Hp->VK->Prop}{e:Expr}{es:List Expr}{t:TA}{p pos:Pos}(hc:CallR X (.builtin id) r)(hm:X.mg x=none)(ha:PA X (e::es) t)(hg:Gl X x:=by rfl)(hv:bootBuiltins x=some (.builtin id):=by decide+kernel)(hn:x≠"__name__":=by decide)(hdb:(x==("__debug__":Str))=false:=by decide)(he:starEach (e::es) X.env=(false,eval e X.env)::starEach es X.env:=by rfl)(hpl:(backTo pos (starEach es X.env)).any (·.1)=false:=by rfl):PE X (.Call (.Name x p) (e::es) [] pos) (tCB r t):=pe_callB hc hg hm hv ha hn hdb he hpl
theorem pe_callTy(hc:CallR X (.type T) r)(hg:Gl X x)(hm:X.mg x=none)(hv:bootBuiltins x=some (.type T))(ha:PA X (e::es) t)(hn:x≠"__name__":=by decide)(hdb:(x==("__debug__":Str))=false:=by decide)(he:starEach (e::es) X.env=(false,eval e X.env)::starEach es X.env:=by rfl)(hpl:(backTo pos (starEach es X.env)).any (·.1)=false:=by rfl):PE X (.Call (.Name x p) (e::es) [] pos) (tCB r t):=by
 intro pins s σ H Q I h;refine way (ld_blt I hg hm hv ?_ hn hdb);exact Qy (thn (ha pos pins s σ H _ I h) fun us s1 ⟨vs,H1,I1,r1,q1⟩=>hc pins s1 σ H1 vs us Q I1 r1 q1) he hpl
theorem pT{X:Cx}{x:Str}{T:String}{r:List V->Hp->VK->Prop}{e:Expr}{es:List Expr}{t:TA}{p pos:Pos}(hc:CallR X (.type T) r)(hm:X.mg x=none)(ha:PA X (e::es) t)(hg:Gl X x:=by rfl)(hv:bootBuiltins x=some (.type T):=by decide+kernel)(hn:x≠"__name__":=by decide)(hdb:(x==("__debug__":Str))=false:=by decide)(he:starEach (e::es) X.env=(false,eval e X.env)::starEach es X.env:=by rfl)(hpl:(backTo pos (starEach es X.env)).any (·.1)=false:=by rfl):PE X (.Call (.Name x p) (e::es) [] pos) (tCB r t):=pe_callTy hc hg hm hv ha hn hdb he hpl
end
end L2
namespace HT
open PySem PyProof.Rows
noncomputable def lexLt:List Int->List Int->Bool
 |[],[]=>false
 |[],_::_=>true
 |_::_,[]=>false
 |x::xs,y::ys=>if x=y then lexLt xs ys else decide (x<y)
theorem lexLt_cons(x y:Int)(xs ys:List Int):lexLt (x::xs) (y::ys)=if x=y then lexLt xs ys else decide (x<y):=rfl
theorem lexLt_nil_nil:lexLt [] []=false:=rfl
theorem lexLt_nil_cons(y:Int)(ys:List Int):lexLt [] (y::ys)=true:=rfl
theorem lexLt_cons_nil(x:Int)(xs:List Int):lexLt (x::xs) []=false:=rfl
theorem eqAt_int(A:υ)(s:η)(a:Int)(t:Tok)(c:Int)(u:Tok):∃e,SeqAt.EqAt A s (.int a t) (.int c u) e/\(e=true↔a=c):=
 ⟨(a==c),SeqAt.EqAt.int_int a t c u,by simp⟩
theorem rcLt_int(A:υ)(s:η)(a:Int)(t:Tok)(c:Int)(u:Tok)(prog:ξ)(w:τ)(E:L4)(Q:L4)(h:Q (.bool (decide (a<c))) s):
  wpAny (model prog w) A (richCompare .Lt (.int a t) (.int c u)) Q E s:=
 (PyProof.Rows.lt_int h:wpAny (model prog w) A (compareOp .Lt (.int a t) (.int c u)) Q E s)
section
open PySem.SeqAt
open PySem.AutoSeq1 (wpAny_loadPart')
open PySem.MeetsSeq PySem.MeetsSeq2 PySem.MeetsSeq3
theorem tuple_lt_ints(l b:Addr)(items items2:Array ζ)(n n2:Nat)(dd dd2:Option Addr)(sl sl2:Array (Option ζ))(ns ms:List Int)(hi:IntsAre items.toList ns)(hj:IntsAre items2.toList ms):
  Meets (Builtin.«tuple.__lt__» ⟨[.ref l,.ref b],[]⟩)
   (fun _ R s=>s.heap.get? l=some {cls:= .type "tuple",dict:=dd,data:= .seq items n,slots:=sl}/\s.heap.get? b=some {cls:= .type "tuple",dict:=dd2,data:= .seq items2 n2,slots:=sl2}/\
    R (.ok (.ret (.bool (lexLt ns ms)))) s):=
 .of_wp fun prog w A R s h=>by
  obtain⟨hp,g,d,tk,os⟩:=s;obtain⟨hl,hb,h⟩:=h;have f2:=AutoSeq1.sub_tuple_tuple;have z1:items.size=ns.length:=by rw[<-hi.length];simp
  have z2:items2.size=ms.length:=by rw[<-hj.length];simp
  wp_walk using wpAny_loadPart' hl,wpAny_loadPart' hb,Yp _ (fun rest b s'=>b.1=none/\s'=⟨hp,g,d,tk,os⟩/\∃(vs ws:List ζ) (ns' ms':List Int),rest=vs.zip ws/\
   IntsAre vs ns'/\IntsAre ws ms'/\ns'.length+items2.size=ms'.length+items.size/\R (.ok (.ret (.bool (lexLt ns' ms')))) ⟨hp,g,d,tk,os⟩) _
  case turn=>
   rintro⟨y,x⟩ rest b s' ⟨hb',rfl,vs,ws,ns',ms',hz,hvi,hwi,hlen,hR⟩;cases hvi with
   |nil=>rw[List.zip_nil_left]at hz;cases hz
   |cons a t hvi'=>
    cases hwi with
    |nil=>rw[List.zip_nil_right]at hz;cases hz
    |cons c u hwi'=>
     rw[Yz]at hz;injection hz with hyx hrest
     injection hyx with hy hx
     subst hy hx;rw[lexLt_cons]at hR;simp only[lO]at hlen;obtain⟨e,he,hiff⟩:=eqAt_int A.in1 ⟨hp,g,d,tk,os⟩ a t c u;refine aq (he prog w _ _ ?_);cases e with
     |true=>
      rw[aL (hiff.mp rfl)]at hR
      wp_walk
      exact⟨rfl,rfl,_,_,_,_,hrest,hvi',hwi',by omega,hR⟩
     |false=>
      rw[aJ (fun q=>absurd (hiff.mpr q) lQ)]at hR;have hri:=rcLt_int A.in1 ⟨hp,g,d,tk,os⟩ a t c u prog w
      wp_walk using hri
      exact⟨_,rfl,by simpa using hR⟩
  case fin=>
   rintro⟨b1,b2⟩ s' ⟨hb',rfl,vs,ws,ns',ms',hz,hvi,hwi,hlen,hR⟩;simp only at hb';subst hb';have hv:lexLt ns' ms'=decide (items.size<items2.size):=by
    cases hvi with
    |nil=>
     cases hwi with
     |nil=>
      simp only[Ep]at hlen;rw[lexLt_nil_nil];exact(cI (by omega)).symm
     |cons c u hw=>
      simp only[Ep,lO]at hlen;rw[lexLt_nil_cons];exact(dF (by omega)).symm
    |cons a t hv=>
     cases hwi with
     |nil=>
      simp only[Ep,lO]at hlen;rw[lexLt_cons_nil];exact(cI (by omega)).symm
     |cons c u hw=>
      rw[Yz]at hz;cases hz
   rw[hv]at hR
   wp_walk
   exact⟨_,rfl,by simpa[Builtin.Tuple.tupleCompareSizes]using hR⟩
  case h=>
   exact⟨rfl,rfl,items.toList,items2.toList,ns,ms,rfl,hi,hj,by omega,h⟩
end
section
variable{prog:ξ}{w:τ}{A:υ}{E:L4}{s:η}
theorem lt_tupInts{l b:Addr}{items items2:Array ζ}{ns ms:List Int}{Q:L4}(hl:IsTup s.heap l items)(hb:IsTup s.heap b items2)(hi:IntsAre items.toList ns)(hj:IntsAre items2.toList ms)(hu:A.units<cLine)(h:Q (.bool (lexLt ns ms)) s):wpAny (model prog w) A (compareOp .Lt (.ref l) (.ref b)) Q E s:=by
 obtain⟨⟨cls,dd,data,sl⟩,ho,hc,n,hd⟩:=id hl;obtain⟨⟨cls2,dd2,data2,sl2⟩,ho2,hc2,n2,hd2⟩:=id hb;simp only at hc hd hc2 hd2;subst hc hd hc2 hd2;exact richCompare_meets_room (op:= .Lt) ⟨_,ho,rfl⟩ ⟨_,ho2,rfl⟩ YJ wey (wen _ _) (tuple_lt_ints l b items items2 n n2 dd dd2 sl sl2 ns ms hi hj)
  ⟨ho,ho2,show Value.bool (lexLt ns ms)≠Value.notImplemented/\Q (.bool (lexLt ns ms)) s from⟨(fun x=>nomatch x),h⟩⟩ hu
theorem cat_tup{t b:Addr}{vs ws:List ζ}{Q:L4}(ht:IsTup s.heap t vs.toArray)(hb:IsTup s.heap b ws.toArray)(hv:vs≠[])(h1:ws=[]->Q (.ref t) s)(h2:ws≠[]->Q (.ref s.heap.objs.size) {s with heap:=s.heap.push {cls:= .type "tuple",data:= .seq (vs++ws).toArray}})(hsz:vs.length+ws.length<=sizeLine):wpAny (model prog w) A (binaryOp .Add (.ref t) (.ref b)) Q E s:=by
 obtain⟨⟨cls,dd,data,sl⟩,ho,hc,n,hd⟩:=id ht;obtain⟨⟨cls2,dd2,data2,sl2⟩,ho2,hc2,n2,hd2⟩:=id hb;simp only at hc hd hc2 hd2;subst hc hd hc2 hd2;have e:vs.toArray++ws.toArray=(vs++ws).toArray:=by simp
 by_cases hw:ws=[]
 ·exact concat_meets ⟨_,ho,rfl⟩ ⟨_,ho2,rfl⟩ Yo seq_tuple_add YS YX (YZ _ _)
   (tuple_addW1 t b vs.toArray ws.toArray n n2 dd dd2 sl sl2 (by simpa using hv) (by simp[hw])) ⟨ho,ho2,h1 hw⟩
 ·refine concat_meets ⟨_,ho,rfl⟩ ⟨_,ho2,rfl⟩ Yo seq_tuple_add YS YX (YZ _ _)
   (tuple_addW2 t b vs.toArray ws.toArray n n2 dd dd2 sl sl2 (by simpa using hv) (by simpa using hw) (by rw[eG,eG];exact hsz)) ⟨ho,ho2,?_⟩
  rw[e];exact h2 hw
noncomputable def sIx(n d:Nat):Option Int->Nat
 |none=>d
 |some v=>if v<0 then(v+(n:Int)).toNat else min v.toNat n
theorem sIx_le(n d:Nat)(hd:d<=n)(o:Option Int):sIx n d o<=n:=by
 cases o with
 |none=>exact hd
 |some v=>
  show(if v<0 then(v+(n:Int)).toNat else min v.toNat n)<=n;by_cases hv:v<0
  ·rw[aL hv];omega
  ·rw[aJ hv];exact Nat.min_le_right _ _
theorem clip_eq(v:Int)(n d:Nat):(if v<0 then max (v+(n:Int)) 0 else min v (n:Int))=((sIx n d (some v):Nat):Int):=by
 show(if v<0 then max (v+(n:Int)) 0 else min v (n:Int))=(((if v<0 then(v+(n:Int)).toNat else min v.toNat n):Nat):Int);by_cases hv:v<0
 ·simp only[aL hv];omega
 ·simp only[aJ hv];omega
theorem adjust_gen(lo hi:Option Int)(n:Nat):Builtin.Slice.sliceAdjust lo hi 1 (n:Int)=(((sIx n 0 lo:Nat):Int),((sIx n n hi:Nat):Int)):=by
 have h1:¬((1:Int)<0):=by omega
 unfold Builtin.Slice.sliceAdjust;simp only[h1,Eu];refine Tv ?_ ?_
 ·cases lo with
  |none=>rfl
  |some v=>exact clip_eq v n 0
 ·cases hi with
  |none=>rfl
  |some v=>exact clip_eq v n n
theorem places_gen(i j:Nat):Builtin.Slice.slicePlaces (i:Int) (j:Int) 1=j-i:=by
 unfold Builtin.Slice.slicePlaces;have h1:(1:Int)>0:=by omega
 simp only[h1,Tr,Int.ediv_one];split<;>omega
theorem slicePart_{v:ζ}{o:Option Int}{Q:Option Int->η->Prop}(p:IsPart v o)(h:Q o s):wpAny (model prog w) A (Builtin.Slice.slicePartIndex v) Q E s:=by
 cases p with
 |none=>exact slicePart_none h
 |int i t=>exact slicePart_int h
theorem sliceApplied_gen{sl:Addr}{vl vu:ζ}{lo hi:Option Int}{n:Nat}{Q:Int×Int×Nat->η->Prop}(hs:s.heap.IsSliceOf sl vl vu .none)(pl:IsPart vl lo)(pu:IsPart vu hi)(h:Q (((sIx n 0 lo:Nat):Int),1,sIx n n hi-sIx n 0 lo) s):wpAny (model prog w) A (Builtin.Slice.sliceApplied (.ref sl) (pure (n:Int))) Q E s:=by
 obtain⟨os,hos,hcs,hds⟩:=id hs;unfold Builtin.Slice.sliceApplied Builtin.Slice.sliceFields;refine aq (aq (wpAny_field hos hds (x:=vl) rfl (aq (wpAny_field hos hds (x:=vu) rfl (aq (wpAny_field hos hds (x:= .none) rfl (aV ?_)))))));refine aq (slicePart_none ?_);show wpAny _ _ (if((1:Int)==0)=true then _ else _) _ _ s;rw[aJ (by decide)];refine aq (slicePart_ pl (aq (slicePart_ pu (aq (aV ?_)))));show wpAny _ _ (match Builtin.Slice.sliceAdjust lo hi 1 (n:Int)with |(lo,hi)=>pure (lo,(1:Int),Builtin.Slice.slicePlaces lo hi 1)) _ _ s;rw[adjust_gen lo hi n];show wpAny _ _ (pure (((sIx n 0 lo:Nat):Int),(1:Int),Builtin.Slice.slicePlaces ((sIx n 0 lo:Nat):Int) ((sIx n n hi:Nat):Int) 1)) _ _ s;rw[places_gen];exact aV h
theorem pick_gen(xs:Array ζ)(i k:Nat):((List.range k).filterMap fun(m:Nat)=>xs[((i:Int)+(m:Int)*1).toNat]?).toArray=((xs.toList.drop i).take k).toArray:=by
 have e:(fun(m:Nat)=>xs[((i:Int)+(m:Int)*1).toNat]?)=fun m=>xs[i+m]? :=by
  funext m;have:((i:Int)+(m:Int)*1).toNat=i+m:=by omega
  rw[this]
 rw[e];have:=pick_run xs i k;rw[List.filterMap_map]at this;have e2:((fun x=>xs[x]?)∘fun x=>i+x)=fun m=>xs[i+m]? :=rfl;rw[e2]at this;rw[this]
theorem getItem_tuple_cut{t sl:Addr}{items:Array ζ}{vl vu:ζ}{lo hi:Option Int}{Q:L4}(ht:IsTup s.heap t items)(hs:s.heap.IsSliceOf sl vl vu .none)(pl:IsPart vl lo)(pu:IsPart vu hi)(hw:¬(sIx items.size 0 lo=0/\sIx items.size items.size hi=items.size))(h:Q (.ref s.heap.objs.size) {s with heap:=s.heap.push {cls:= .type "tuple",data:= .seq ((items.toList.drop (sIx items.size 0 lo)).take (sIx items.size items.size hi-sIx items.size 0 lo)).toArray}})(hsz:items.size<=sizeLine):wpAny (model prog w) A (getItem (.ref t) (.ref sl)) Q E s:=by
 have htake:sizeOk (.seq ((items.toList.drop (sIx items.size 0 lo)).take (sIx items.size items.size hi-sIx items.size 0 lo)).toArray):=by
  show((items.toList.drop (sIx items.size 0 lo)).take (sIx items.size items.size hi-sIx items.size 0 lo)).toArray.size<=sizeLine;rw[eG,qU,W4,Og];omega
 have hj:sIx items.size items.size hi<=items.size:=sIx_le _ _ (bH _) hi;obtain⟨os,hos,hcs,hds⟩:=id hs;have hTs:s.TypeIs (.ref sl) "slice":=⟨os,hos,hcs⟩;unfold getItem
 try with_reducible refine rZ ?_
 first |refine aq (aV ?_)|skip
 refine aq (wpAny_sequenceKey ht.typeIs (by decide) ?_);refine aq (Xa (name:=Str.ofString "__getitem__") ht.typeIs Xg
  (Om Xg ht.typeIs entry_tuple_getitem ?_ (args_tuple_getitem _ _)))
 show wpAny _ _ (Builtin.Tuple.tupleItemsOf (.ref t)>>=_) _ _ s;refine aq (tupleItemsOf_ ht ?_);refine aq (WR hTs ?_);rw[aL (by decide)];refine aq (sliceApplied_gen hs pl pu ?_);have hno:¬((((sIx items.size 0 lo:Nat):Int)==0&&(1:Int)==1&&(sIx items.size items.size hi-sIx items.size 0 lo)==items.size)=true):=by
  intro q;rw[gU,gU]at q;have q1:((sIx items.size 0 lo:Nat):Int)=0:=eq_of_beq q.1.1;have q2:sIx items.size items.size hi-sIx items.size 0 lo=items.size:=eq_of_beq q.2;exact hw ⟨by omega,by omega⟩
 show wpAny _ _ (if(((sIx items.size 0 lo:Nat):Int)==0&&(1:Int)==1&&(sIx items.size items.size hi-sIx items.size 0 lo)==items.size)=true then _ else _) _ _ s;rw[aJ hno,pick_gen]
 first
  |exact aq (m:=Builtin.Tuple.tupleExact _) (JW (aV ⟨_,rfl,aV h⟩) htake)
  |exact aq (m:=Builtin.Tuple.tupleExact _) (JW (aq (aV (aV ⟨_,rfl,aV h⟩))) htake)
  |exact aq (aq (m:=Builtin.Tuple.tupleExact _) (JW (aV (aV ⟨_,rfl,aV h⟩)) htake))
  |exact aq (aq (m:=Builtin.Tuple.tupleExact _) (JW (aV ⟨_,rfl,aV h⟩) htake))
end
end HT
namespace L2
open PySem PySem.Spec PyProof.Rows
noncomputable abbrev TO:=St->Hp->(Option Int->Hp->Prop)->Prop
noncomputable def PO(X:Cx)(e:Option Expr)(t:TO):Prop:=
 ∀(pins:L1) (s:η) (σ:St) (H:Hp) (Q:Option Int->Hp->Prop),Inv X pins σ H s->t σ H Q->
  wpAny (model X.prog X.w) X.A (evalPart e X.env) (fun u s'=>∃o H',Inv X pins σ H' s'/\IsPart u o/\Q o H') X.xe s
noncomputable def tNoPart:TO:=fun _ H Q=>Q none H
noncomputable def tPart(t:TE):TO:=fun σ H Q=>t σ H fun x H1=>∃i,x= .int i/\Q (some i) H1
theorem Uj{ns:List Int}:∀{us:List ζ},Vals (ns.map V.int) us->IntsAre us ns:=by
 induction ns with
 |nil=>intro us r;rw[Ye]at r;cases r;exact .nil
 |cons n ns ih=>
  intro us r;rw[jB]at r;cases r with
  |cons r1 r2=>
   obtain⟨t,e⟩:=r1;subst e;exact .cons n t (ih r2)
section
variable{X:Cx}{e:Expr}{te:TE}{lo hi:Option Expr}{tl th:TO}{pos p2:Pos}
theorem po_none:PO X none tNoPart:=by
 intro pins s σ H Q I h;rw[evalPart_none];exact aV ⟨none,H,I,.none,h⟩
theorem po_some(h:PE X e te):PO X (some e) (tPart te):=by
 intro pins s σ H Q I hw;rw[evalPart_some];refine thn (h pins s σ H _ I hw) fun u s1 ⟨x,H1,I1,r1,q1⟩=> ?_;obtain⟨i,rfl,q⟩:=q1;obtain⟨t,rfl⟩:=r1;exact⟨some i,H1,I1,.int i t,q⟩
noncomputable def SlR(X:Cx)(r:V->Option Int->Option Int->Hp->VK->Prop):Prop:=
 ∀(pins:L1) (s:η) (σ:St) (H:Hp) (x:V) (v vl vu:ζ) (lo hi:Option Int) (sl:Addr) (Q:VK),Inv X pins σ H s->RelV x v->s.heap.IsSliceOf sl vl vu .none->IsPart vl lo->IsPart vu hi->r x lo hi H Q->
  ∃T id,typeLookup (.type T) "__getitem__"=pure (some (.builtin id))/\s.TypeIs v T/\wpAny (model X.prog X.w) X.A (getItem v (.ref sl)) (EP X pins σ Q) X.xe s
noncomputable def tSl(r:V->Option Int->Option Int->Hp->VK->Prop)(te:TE)(tl th:TO):TE:=fun σ H Q=>te σ H fun x H1=>tl σ H1 fun l H2=>th σ H2 fun u H3=>r x l u H3 Q
theorem N5{r:V->Option Int->Option Int->Hp->VK->Prop}(hr:SlR X r)(he:PE X e te)(hl:PO X lo tl)(hu:PO X hi th):PE X (.Subscript e (.Slice lo hi none p2) pos) (tSl r te tl th):=by
 intro pins s σ H Q I h;refine Subscript_ (thn (he pins s σ H _ I h) fun v s1 ⟨x,H1,I1,r1,q1⟩=> ?_);refine wpAny_Slice (thn (hl pins s1 σ H1 _ I1 q1) fun vl s2 ⟨l,H2,I2,pl,q2⟩=>thn (hu pins s2 σ H2 _ I2 q2) fun vu s3 ⟨u,H3,I3,pu,q3⟩=> ?_);rw[evalPart_none];refine aV ?_;have I4:Inv X pins σ H3 {s3 with heap:=s3.heap.push {cls:= .type "slice",data:= .fields #[vl,vu,.none]}}:=I3.kept (t':=s3.toks) fun b ob q=>fG _ q;obtain⟨T,id,hT,ht,hg⟩:=hr pins {s3 with heap:=s3.heap.push {cls:= .type "slice",data:= .fields #[vl,vu,.none]}} σ H3 x v vl vu l u s3.heap.objs.size Q I4 r1 (Heap.IsSliceOf.new ..) pl pu q3;show wpAny (model X.prog X.w) X.A (subscriptTail e (.Slice lo hi none p2) v (.ref s3.heap.objs.size)) (EP X pins σ Q) X.xe {s3 with heap:=s3.heap.push {cls:= .type "slice",data:= .fields #[vl,vu,.none]}};exact tail_any (ops:=[.ref s3.heap.objs.size,v]) ht hT hg (by with_unfolding_all rfl)
noncomputable def cutV(xs:List V)(lo hi:Option Int):List V:=(xs.drop (HT.sIx xs.length 0 lo)).take (HT.sIx xs.length xs.length hi-HT.sIx xs.length 0 lo)
theorem cutV_length(xs:List V)(lo hi:Option Int):(cutV xs lo hi).length<=xs.length:=by
 unfold cutV;rw[qU,W4];omega
noncomputable def rSlT(K:W.Frag):V->Option Int->Option Int->Hp->VK->Prop:=fun x lo hi H Q=>∃a xs,x= .ref a/\SqT K H a xs/\
 ¬(HT.sIx xs.length 0 lo=0/\HT.sIx xs.length xs.length hi=xs.length)/\∀p,H p=none->Q (.ref p) (upd H p (.tup (cutV xs lo hi)))
theorem sl_tup:SlR X (rSlT X.K):=by
 intro pins s σ H x v vl vu lo hi sl Q I rx hs pl pu h;obtain⟨a,xs,rfl,hx,hw,q⟩:=h;cases rx;obtain⟨its,r,ht,hz⟩:=I.tuple hx;have hlen:its.toArray.size=xs.length:=by rw[eG];exact r.length.symm
 refine⟨"tuple",_,PyProof.Rows.slot_tuple_getitem.lookup,ht.typeIs,?_⟩;refine HT.getItem_tuple_cut ht hs pl pu (by rw[hlen];exact hw) ?_ (by rw[hlen];exact hz);rw[hlen];refine⟨.ref s.heap.objs.size,_,I.laid (t':=s.toks) (o:= .tup (cutV xs lo hi)) (fun b ob q=>fG _ q) (bH _) ?_,rfl,q _ (I.hok.fresh (bH _))⟩;exact⟨cC (cutV_length xs lo hi) hz,_,(r.drop (HT.sIx xs.length 0 lo)).take (HT.sIx xs.length xs.length hi-HT.sIx xs.length 0 lo),IsTup.new _ _⟩
noncomputable def rLtT(K:W.Frag):R2:=fun x y H Q=>∃a b ns ms,x= .ref a/\y= .ref b/\SqT K H a (ns.map V.int)/\SqT K H b (ms.map V.int)/\Q (.bl (HT.lexLt ns ms)) H
theorem op_ltT(hu:X.A.units<cLine):OpR X (compareOp .Lt) (rLtT X.K):=by
 intro pins s σ H x y v u Q I rx ry h;obtain⟨a,b,ns,ms,rfl,rfl,ha,hb,q⟩:=h;cases rx;cases ry;obtain⟨its,r1,p1,_⟩:=I.tuple ha;obtain⟨its2,r2,p2,_⟩:=I.tuple hb;have i1:IntsAre its.toArray.toList ns:=Uj r1;have i2:IntsAre its2.toArray.toList ms:=Uj r2;exact HT.lt_tupInts p1 p2 i1 i2 hu ⟨.bl (HT.lexLt ns ms),H,I,rfl,q⟩
noncomputable def rCatT(K:W.Frag):R2:=fun x y H Q=>∃a b xs ys,x= .ref a/\y= .ref b/\SqT K H a xs/\SqT K H b ys/\xs≠[]/\xs.length+ys.length<=sizeLine/\
 (ys=[]->Q (.ref a) H)/\(ys≠[]->∀p,H p=none->Q (.ref p) (upd H p (.tup (xs++ys))))
theorem Vals.nil_iff{xs:List V}{us:List ζ}(r:Vals xs us):us=[]↔xs=[]:=by
 cases r with
 |nil=>simp
 |cons _ _=>simp
theorem op_catT:OpR X (binaryOp .Add) (rCatT X.K):=by
 intro pins s σ H x y v u Q I rx ry h;obtain⟨a,b,xs,ys,rfl,rfl,ha,hb,hx,hz,q1,q2⟩:=h;cases rx;cases ry;obtain⟨its,r1,p1,_⟩:=I.tuple ha;obtain⟨its2,r2,p2,_⟩:=I.tuple hb;refine HT.cat_tup p1 p2 (fun z=>hx (r1.nil_iff.mp z)) (fun z=>⟨.ref a,H,I,rfl,q1 (r2.nil_iff.mp z)⟩) (fun z=> ?_) (by rw[<-r1.length,<-r2.length];exact hz);refine⟨.ref s.heap.objs.size,_,I.laid (t':=s.toks) (o:= .tup (xs++ys)) (fun b ob q=>fG _ q) (bH _) ?_,rfl,q2 (fun w=>z (r2.nil_iff.mpr w)) _ (I.hok.fresh (bH _))⟩;exact⟨by rw[eO];exact hz,_,r1.append r2,IsTup.new _ _⟩
end
noncomputable def ixN(n:Nat)(i:Int):Option Nat:=if 0<=i then(if i<n then some i.toNat else none)else if -(n:Int)<=i then some (i+n).toNat else none
noncomputable def atI{α:Type}(xs:List α)(i:Int):Option α:=(ixN xs.length i).bind fun j=>xs[j]?
theorem ixN_seq{n:Nat}{i:Int}{j:Nat}(h:ixN n i=some j):seqIndex? i n=some j/\j<n/\ -(n:Int)<=i/\i<n:=by
 unfold ixN at h;by_cases h0:0<=i
 ·rw[aL h0]at h;by_cases h1:i<n
  ·rw[aL h1]at h;have e:i.toNat=j:=was h;exact⟨by rw[seqIndex_of h0 h1,e],by omega,by omega,h1⟩
  ·rw[aJ h1]at h;cases h
 ·rw[aJ h0]at h;by_cases h1: -(n:Int)<=i
  ·rw[aL h1]at h;have e:(i+n).toNat=j:=was h;exact⟨by rw[seqIndex_neg (by omega) h1,e],by omega,h1,by omega⟩
  ·rw[aJ h1]at h;cases h
theorem atI_get{α:Type}{xs:List α}{i:Int}{v:α}(h:atI xs i=some v):∃j,seqIndex? i xs.length=some j/\xs[j]? =some v/\j<xs.length/\ -(xs.length:Int)<=i/\i<xs.length:=by
 unfold atI at h;cases e:ixN xs.length i with
 |none=>rw[e]at h;cases h
 |some j=>
  rw[e]at h;obtain⟨h1,h2,h3,h4⟩:=ixN_seq e;exact⟨j,h1,h,h2,h3,h4⟩
theorem atI_nat{α:Type}{xs:List α}{j:Nat}{v:α}(h:xs[j]? =some v):atI xs (j:Int)=some v:=by
 have hj:j<xs.length:=(qW.mp h).1;have e:ixN xs.length (j:Int)=some j:=by
  unfold ixN;rw[aL (by omega),aL (by omega)];simp
 unfold atI;rw[e];exact h
noncomputable def PlainIx(b:Expr):Prop:=∀o i,subscripted b false o i=operate [o,i] (getItem o i)
noncomputable def IxR(X:Cx)(r:R2):Prop:=
 ∀(value slice:Expr) (pins:L1) (s:η) (σ:St) (H:Hp) (x y:V) (v u:ζ) (Q:VK),Inv X pins σ H s->RelV x v->RelV y u->r x y H Q->
  subscripted slice false v u=operate [v,u] (getItem v u)->wpAny (model X.prog X.w) X.A (subscriptTail value slice v u) (EP X pins σ Q) X.xe s
noncomputable def MtR(X:Cx)(id:String)(r:V->List V->Hp->VK->Prop):Prop:=
 ∀(pins:L1) (s:η) (σ:St) (H:Hp) (x:V) (xs:List V) (v:ζ) (us:List ζ) (Q:VK),Inv X pins σ H s->RelV x v->Vals xs us->r x xs H Q->
  wpAny (model X.prog X.w) X.A (call (.builtin id) (v::us)) (EP X pins σ Q) X.xe s
section
variable{X:Cx}{a b:Expr}{ta tb:TE}{pos:Pos}
theorem bY{r:R2}(hr:IxR X r)(ha:PE X a ta)(hb:PE X b tb)(hs:PlainIx b:=by exact fun _ _=>rfl):PE X (.Subscript a b pos) (tOp r ta tb):=by
 intro pins s σ H Q I h;exact Subscript_ (binT ha hb I h fun v u s2 x y H2 I2 rx ry q=>hr a b pins s2 σ H2 x y v u Q I2 rx ry q (hs _ _))
noncomputable def rIxL(K:W.Frag):R2:=fun x y H Q=>∃p xs i v,x= .ref p/\y= .int i/\SqL K H p xs/\atI xs i=some v/\Q v H
noncomputable def rIxT(K:W.Frag):R2:=fun x y H Q=>∃p xs i v,x= .ref p/\y= .int i/\SqT K H p xs/\atI xs i=some v/\Q v H
theorem uw:IxR X (rIxL X.K):=by
 intro value slice pins s σ H x y v u Q I rx ry h hs;obtain⟨p,xs,i,z,rfl,rfl,hq,he,q⟩:=h;cases rx;obtain⟨t,rfl⟩:=ry;obtain⟨its,r,pl,hz⟩:=I.list hq;obtain⟨j,h1,h2,h3,h4,h5⟩:=atI_get he;obtain⟨w,ew,rw'⟩:=r.get h2;have hl:=r.length;have hn:=line63;have fin:EP X pins σ Q w s:=⟨z,H,I,rw',q⟩;by_cases h0:0<=i
 ·have hj:i.toNat=j:=by
   rw[seqIndex_of h0 h5]at h1;exact was h1
  exact item_listR pl.isList h0 (by omega) (by rw[hj];simpa using ew) fin hs
 ·have hj:(i+(its.toArray.size:Int)).toNat=j:=by
   rw[seqIndex_neg (by omega) h4]at h1;rw[eG,<-hl];exact was h1
  exact subscriptTail_builtinR (x:=w) pl.isList.typeIs slot_list_getitem.lookup
   (wpAny_getItem_list_neg (Q:=fun r s'=>r=w/\EP X pins σ Q r s') pl.isList (by omega) (by rw[eG]<;>omega) (by omega) (by rw[hj];simpa using ew) ⟨rfl,fin⟩) hs
theorem gF:IxR X (rIxT X.K):=by
 intro value slice pins s σ H x y v u Q I rx ry h hs;obtain⟨p,xs,i,z,rfl,rfl,hq,he,q⟩:=h;cases rx;obtain⟨t,rfl⟩:=ry;obtain⟨its,r,pl,hz⟩:=I.tuple hq;obtain⟨j,h1,h2,h3,h4,h5⟩:=atI_get he;obtain⟨w,ew,rw'⟩:=r.get h2;have hl:=r.length;have hn:=line63;have fin:EP X pins σ Q w s:=⟨z,H,I,rw',q⟩;exact subscriptTail_builtinR (x:=w) pl.typeIs slot_tuple_getitem.lookup
  (getItem_tuple (j:=j) (Q:=fun r s'=>r=w/\EP X pins σ Q r s') pl (by omega) (by omega) (by rw[eG,<-hl];exact h1) (by simpa using ew) ⟨rfl,fin⟩) hs
theorem mapSeq_set(its:List ζ)(n j:Nat)(u:ζ):Obj.mapSeq (·.setIfInBounds j u) {cls:= .type "list",data:= .seq its.toArray n}={cls:= .type "list",data:= .seq (its.set j u).toArray n}:=by
 simp[Obj.mapSeq]
theorem Inv.lst{pins:L1}{σ:St}{H:Hp}{s:η}{p:Addr}{xs:List V}(I:Inv X pins σ H s)(h:H p=some (.lst xs)):
  ∃(its:List ζ) (n:Nat),Vals xs its/\s.heap.get? p=some {cls:= .type "list",data:= .seq its.toArray n}/\xs.length<=sizeLine:=by
 obtain⟨z,its,n,r,e⟩:=I.hok p _ h;exact⟨its,n,r,e,z⟩
theorem Inv.lstUpd{pins:L1}{σ:St}{H:Hp}{s:η}{p:Addr}{xs ys:List V}{its its':List ζ}{n n':Nat}{f:Obj->Obj}(I:Inv X pins σ H s)(h:H p=some (.lst xs))(ho:s.heap.get? p=some {cls:= .type "list",data:= .seq its.toArray n})(hf:f {cls:= .type "list",data:= .seq its.toArray n}={cls:= .type "list",data:= .seq its'.toArray n'})(r:Vals ys its')(hz:ys.length<=sizeLine)(t:Nat):
  Inv X pins σ (upd H p (.lst ys)) {s with heap:=s.heap.update p f,toks:=t}:=by
 have e:(s.heap.update p f).get? p=some {cls:= .type "list",data:= .seq its'.toArray n'}:=by
  rw[Heap.get?_update_self f ho (by rw[hf]<;>rfl),hf]
 refine I.write (x:=p) (e:=p) (by rw[h];trivial) (.inl rfl) (fun b u hb q=>(YQ _ _ (uo hb)).trans q) ⟨_,e⟩ ?_;exact⟨hz,its',n',r,e⟩
noncomputable def rSetL:V->V->V->Hp->(Hp->Prop)->Prop:=fun o i v H Q=>∃p xs k j,o= .ref p/\i= .int k/\H p=some (.lst xs)/\ixN xs.length k=some j/\Q (upd H p (.lst (xs.set j v)))
theorem set_list:PSet X rSetL:=by
 intro pins s σ H o i v ov iv u Q I ro ri rv h;obtain⟨p,xs,k,j,rfl,rfl,hp,hj,q⟩:=h;cases ro;obtain⟨t,rfl⟩:=ri;obtain⟨its,n,r,ho,hz⟩:=I.lst hp;obtain⟨h1,h2,h3,h4⟩:=ixN_seq hj;have hl:=r.length;have hn:=line63;have I':Inv X pins σ (upd H p (.lst (xs.set j v))) {s with heap:=s.heap.update p (Obj.mapSeq (·.setIfInBounds j u))}:=
  I.lstUpd hp ho (mapSeq_set its n j u) (r.set rv j) (by rw[List.length_set];exact hz) s.toks
 by_cases h0:0<=k
 ·have hk:k.toNat=j:=by
   rw[seqIndex_of h0 h4]at h1;exact was h1
  exact PySem.W.ki_setAt ho h0 (by omega) (by rw[eG,<-hl];exact h4) (by rw[hk];exact⟨_,I',q⟩)
 ·have hk:(k+(its.toArray.size:Int)).toNat=j:=by
   rw[seqIndex_neg (by omega) h3]at h1;rw[eG,<-hl];exact was h1
  exact PySem.W.ki_setBack ho (by omega) (by rw[eG,<-hl];exact h3) (by omega) (by rw[hk];exact⟨_,I',q⟩)
theorem call_len_seq:CallR X (.builtin "len") (fun xs H Q=>∃p ys,xs=[.ref p]/\(SqL X.K H p ys\/SqT X.K H p ys)/\Q (.int ys.length) H):=by
 intro pins s σ H xs us Q I r h;obtain⟨p,ys,rfl,hq,q⟩:=h;obtain⟨u,rfl,rx⟩:=vals1 r;cases rx;have hn:=line63;rcases hq with hq|hq
 ·obtain⟨its,r',pl,hz⟩:=I.list hq;have hlen:=r'.length;exact Calls.call_len_list pl.isList (by simp only[eG]<;>omega) ⟨.int ys.length,H,I.tok _,⟨s.toks+1,by rw[eG,hlen]⟩,q⟩
 ·obtain⟨its,r',pl,hz⟩:=I.tuple hq;have hlen:=r'.length;exact len_tuple pl (by simp only[eG]<;>omega) ⟨.int ys.length,H,I.tok _,⟨s.toks+1,by rw[eG,hlen]⟩,q⟩
theorem call_list_of:CallR X (.type "list") (fun xs H Q=>∃p ys,xs=[.ref p]/\(SqL X.K H p ys\/SqT X.K H p ys)/\∀l,H l=none->Q (.ref l) (upd H l (.lst ys))):=by
 intro pins s σ H xs us Q I r h;obtain⟨p,ys,rfl,hq,q⟩:=h;obtain⟨u,rfl,rx⟩:=vals1 r;cases rx;have fin:∀(its:List ζ),Vals ys its->ys.length<=sizeLine->∀(h':Heap) (c':Nat),(∀b o',s.heap.get? b=some o'->h'.get? b=some o')->
   h'.get? s.heap.objs.size=some {cls:= .type "list",dict:=none,data:= .seq its.toArray c',slots:=#[]}->EP X pins σ Q (.ref s.heap.objs.size) {s with heap:=h'}:=fun its r' hz h' c' kp e=>
  ⟨.ref s.heap.objs.size,_,I.laid (t':=s.toks) kp (bH _) (show ObjOk X.prog X.w _ h' _ (.lst ys)from⟨hz,its,c',r',e⟩),rfl,q _ (I.hok.fresh (bH _))⟩
 rcases hq with hq|hq
 ·obtain⟨its,r',pl,hz⟩:=I.list hq;have hlen:=r'.length;obtain⟨o,ho,hc,n,hd⟩:=pl.isList;exact call_list_seq p (.inl rfl) ho hc hd (fun h' c' kp e=>fin its r' hz h' c' kp e) (by simp only[eG]<;>omega)
 ·obtain⟨its,r',pl,hz⟩:=I.tuple hq;have hlen:=r'.length;obtain⟨o,ho,hc,n,hd⟩:=pl;exact call_list_seq p (.inr rfl) ho hc hd (fun h' c' kp e=>fin its r' hz h' c' kp e) (by simp only[eG]<;>omega)
theorem Ed:CallR X (.type "tuple") (fun xs H Q=>∃p ys,xs=[.ref p]/\((SqL X.K H p ys/\∀l,H l=none->Q (.ref l) (upd H l (.tup ys)))\/(SqT X.K H p ys/\Q (.ref p) H))):=by
 intro pins s σ H xs us Q I r h;obtain⟨p,ys,rfl,h⟩:=h;obtain⟨u,rfl,rx⟩:=vals1 r;cases rx;rcases h with⟨hq,q⟩|⟨hq,q⟩
 ·obtain⟨its,r',pl,hz⟩:=I.list hq;have hlen:=r'.length;refine call_tuple_list pl.isList (fun h' kp=> ?_) (by simp only[eG]<;>omega);have I1:Inv X pins σ H {s with heap:=h'}:=I.kept (t':=s.toks) kp;have I2:Inv X pins σ (upd H h'.objs.size (.tup ys)) {s with heap:=h'.push {cls:= .type "tuple",data:= .seq its.toArray}}:=
   I1.laid (t':=s.toks) (fun b o e=>fG _ e) (bH _) (show ObjOk X.prog X.w _ _ _ (.tup ys)from⟨hz,its,r',IsTup.new _ _⟩)
  exact⟨.ref h'.objs.size,_,I2,rfl,q _ (I1.hok.fresh (bH _))⟩
 ·obtain⟨its,r',pl,hz⟩:=I.tuple hq;exact call_tuple_same pl ⟨.ref p,H,I,rfl,q⟩
noncomputable def tyV(K:W.Frag)(T:String)(x:V)(H:Hp):Prop:=match x with
 | .str _=>T="str"
 | .int _=>T="int"
 | .ref p=>(T="list"/\∃xs,SqL K H p xs)\/(T="tuple"/\∃o,K.lookup p=some o/\o.cls= .type "tuple"/\o.dict=none)\/
   (T="dict"/\((∃kvs,H p=some (.dK kvs))\/∃kvs,H p=some (.dT kvs)))\/(T="set"/\∃S n,H p=some (.set S n))
 |_=>False
theorem tyV_is{pins:L1}{σ:St}{H:Hp}{s:η}{T:String}{x:V}{v:ζ}(I:Inv X pins σ H s)(r:RelV x v)(ty:tyV X.K T x H):
  s.TypeIs v T/\∀a,v= .ref a->∃ob,s.heap.get? a=some ob/\ob.dict=none:=by
 cases x with
 |str z=>
  obtain⟨t,rfl⟩:=r;cases(show T="str" from ty);exact⟨typeIs_str s z t,fun _ e=>nomatch e⟩
 |int i=>
  obtain⟨t,rfl⟩:=r;cases(show T="int" from ty);exact⟨typeIs_int s i t,fun _ e=>nomatch e⟩
 |ref p=>
  cases r;rcases ty with⟨rfl,xs,hq⟩|⟨rfl,o,hk,hc,hd⟩|⟨rfl,hk⟩|⟨rfl,S,n,hk⟩
  ·obtain⟨its,_,pl,_⟩:=I.list hq;refine⟨pl.isList.typeIs,fun a e=> ?_⟩;cases e;obtain⟨o,n,e,c,hd,_⟩:=pl;exact⟨o,e,hd⟩
  ·refine⟨⟨o,I.kIn p o hk,hc⟩,fun a e=> ?_⟩;cases e;exact⟨o,I.kIn _ o hk,hd⟩
  ·have z:∃o,s.heap.get? p=some o/\o.ExactDict:=by
    rcases hk with⟨kvs,hk⟩|⟨kvs,hk⟩
    ·obtain⟨_,_,_,_,o,_,_,e,ex,_⟩:=I.hok p _ hk;exact⟨o,e,ex⟩
    ·obtain⟨_,_,_,_,o,_,_,e,ex,_⟩:=I.hok p _ hk;exact⟨o,e,ex⟩
   obtain⟨o,e,ex⟩:=z;refine⟨⟨o,e,ex.1⟩,fun a e2=> ?_⟩;cases e2;exact⟨o,e,ex.2.1⟩
  ·obtain⟨o,_,_,_,e,ex,_⟩:=I.hok p _ hk;refine⟨⟨o,e,ex.1⟩,fun a e2=> ?_⟩;cases e2;exact⟨o,e,ex.2.1⟩
 |_=>exact False.elim ty
noncomputable def tBM(K:W.Frag)(T:String)(r:V->List V->Hp->VK->Prop)(to:TE)(t:TA):TE:=fun σ H Q=>to σ H fun x H1=>tyV K T x H1/\t σ H1 fun xs H2=>r x xs H2 Q
variable{o e:Expr}{es:List Expr}{to:TE}{t:TA}{name:Str}{apos cpos:Pos}{T id:String}{r:V->List V->Hp->VK->Prop}
theorem pe_bm(pa:PlainAttrs T)(slot:Slot T name id)(hty:typeOf (.builtin id)=pure (.type "method_descriptor"))(hm:MtR X id r)(ho:PE X o to)(ha:PA X (e::es) t)(hbase:attributeBase o name X.env (eval o X.env)=eval o X.env:=by rfl)(hfew:((backTo cpos (starEach (e::es) X.env)).all (fun x=> !x.1)&&(backToKw cpos (keywordEach [] X.env)).all (fun x=>x.1.isSome)
   &&decide ((e::es).length+([]:List Keyword).length+(if([]:List Keyword).isEmpty then 0 else 1)<30))=true:=by rfl)(hline:(apos.endLine==cpos.line)=true:=by rfl)(hs:starEach (e::es) X.env=(false,eval e X.env)::starEach es X.env:=by rfl)(hplain:(backTo cpos (starEach es X.env)).any (·.1)=false:=by rfl):
  PE X (.Call (.Attribute o name apos) (e::es) [] cpos) (tBM X.K T r to t):=by
 intro pins s σ H Q I h;refine wpAny_Call_method_late hbase hfew hline rfl (thn (ho pins s σ H _ I h) fun v s1 ⟨x,H1,I1,r1,ty,q1⟩=> ?_);obtain⟨h1,h2⟩:=tyV_is I1 r1 ty;refine⟨T,id,pa,slot,hty,h1,h2,?_⟩;have hA:=ha cpos pins s1 σ H1 _ I1 q1;rw[hs]at hA⊢;refine Calls.callWith_builtin (by show(false||(backTo cpos (starEach es X.env)).any (·.1))=false;rw[hplain]<;>rfl) (Calls.evalArgs_plain ?_);exact thn hA fun us s2 ⟨vs,H2,I2,r2,q2⟩=>hm pins s2 σ H2 x vs v us Q I2 r1 r2 q2
end
noncomputable def MtM(X:Cx)(id:String)(r:V->List V->Hp->VK->Prop):Prop:=
 ∀(pins:L1) (s:η) (σ:St) (H:Hp) (x:V) (xs:List V) (v:ζ) (us:List ζ) (Q:VK),Inv X pins σ H s->RelV x v->Vals xs us->r x xs H Q->
  wpAny (model X.prog X.w) X.A (call (.builtin id) (v::us)) (EP X pins σ Q) X.xe s
theorem Vals.one{x:V}{us:List ζ}(h:Vals [x] us):∃u,us=[u]/\RelV x u:=by
 cases h with
 |cons r h=>cases h;exact⟨_,rfl,r⟩
theorem Vals.two{x y:V}{us:List ζ}(h:Vals [x,y] us):∃u v,us=[u,v]/\RelV x u/\RelV y v:=by
 cases h with
 |cons r h=>obtain⟨v,rfl,q⟩:=Vals.one h;exact⟨_,_,rfl,r,q⟩
section
variable{X:Cx}{pins:L1}{σ:St}{H:Hp}{s:η}{l:Addr}{xs ys:List V}
theorem Inv.lset{its its':List ζ}{n:Nat}{f:Array ζ->Array ζ}{t':Nat}(I:Inv X pins σ H s)(hH:H l=some (.lst xs))(e:s.heap.get? l=some {cls:= .type "list",data:= .seq its.toArray n})(hf:f its.toArray=its'.toArray)(hv:Vals ys its')(hz:ys.length<=sizeLine):
  Inv X pins σ (upd H l (.lst ys)) {s with heap:=s.heap.update l (Obj.mapSeq f),toks:=t'}:=by
 have q:=PySem.IsL.update e f;rw[hf]at q;refine I.write (x:=l) (e:=l) (by rw[hH];exact trivial) (.inl rfl) (fun b' u hb hu=>(YQ s.heap (Obj.mapSeq f) (uo hb)).trans hu) ⟨_,q⟩ ?_;exact⟨hz,its',_,hv,q⟩
theorem Inv.lnew{its:List ζ}{t':Nat}(I:Inv X pins σ H s)(hv:Vals ys its)(hz:ys.length<=sizeLine):
  Inv X pins σ (upd H s.heap.objs.size (.lst ys)) {s with heap:=s.heap.push {cls:= .type "list",data:= .seq its.toArray},toks:=t'}:=
 I.laid (fun _ _ q=>fG _ q) (bH _) ⟨hz,its,0,hv,mW _ rfl⟩
theorem Inv.fresh(I:Inv X pins σ H s):H s.heap.objs.size=none:=I.hok.fresh (bH _)
theorem Inv.lstM(I:Inv X pins σ H s)(hH:H l=some (.lst xs)):xs.length<=sizeLine/\∃(its:List ζ) (n:Nat),Vals xs its/\xs.length=its.length/\s.heap.get? l=some {cls:= .type "list",data:= .seq its.toArray n}:=by
 obtain⟨z,its,n,r,e⟩:=I.hok l _ hH;exact⟨z,its,n,r,r.length,e⟩
theorem notLongL{n:Nat}(h:n<=sizeLine):Builtin.List.listTooLong n=false:=by
 unfold Builtin.List.listTooLong;exact cI (by omega)
end
section
variable{X:Cx}
noncomputable def rAppend:V->List V->Hp->VK->Prop:=fun x vs H Q=>∃l xs y,x= .ref l/\vs=[y]/\H l=some (.lst xs)/\xs.length<sizeLine/\Q .non (upd H l (.lst (xs++[y])))
theorem S8:MtM X "list.append" rAppend:=by
 intro pins s σ H x vs v us Q I rx rv h;obtain⟨l,xs,y,rfl,rfl,hH,hz,q⟩:=h;cases rx;obtain⟨u,rfl,ru⟩:=rv.one;obtain⟨z,its,n,r,hl,e⟩:=I.lstM hH;refine Tw F.slot_list_append ⟨_,e,rfl⟩ F.entry_list_append (F.args_list_append_2 _ _) (PySem.list_append l its.toArray n u (by rw[eG];omega)) ⟨e,?_⟩;refine⟨.non,_,I.lset (its':=its++[u]) hH e (by simp) (r.append (.cons ru .nil)) ?_,rfl,q⟩;rw[eO,YH];omega
noncomputable def rExtend:V->List V->Hp->VK->Prop:=fun x vs H Q=>∃l b xs zs,x= .ref l/\vs=[.ref b]/\H l=some (.lst xs)/\H b=some (.lst zs)/\xs.length+zs.length<=sizeLine/\Q .non (upd H l (.lst (xs++zs)))
theorem mt_extend:MtM X "list.extend" rExtend:=by
 intro pins s σ H x vs v us Q I rx rv h;obtain⟨l,b,xs,zs,rfl,rfl,hH,hB,hz,q⟩:=h;cases rx;obtain⟨u,rfl,ru⟩:=rv.one;cases ru;obtain⟨z,its,n,r,hl,e⟩:=I.lstM hH;obtain⟨z2,its2,n2,r2,hl2,e2⟩:=I.lstM hB;have hsz:its.toArray.size+its2.toArray.size<=sizeLine:=by rw[eG,eG];omega
 have hlong:¬(!its.toArray.isEmpty&&Builtin.List.listTooLong (its.toArray.size+its2.toArray.size))=true:=by
  rw[notLongL hsz,wY];exact lQ
 refine Tw F.slot_list_extend ⟨_,e,rfl⟩ F.entry_list_extend (F.args_list_extend_2 _ _)
  (AutoSeq1.list_extend_list_list_0 l its.toArray n b its2.toArray n2 hlong (by rw[eG];omega) (by omega)) ⟨e,e2,?_⟩
 refine⟨.non,_,I.lset (its':=its++its2) hH e (by simp) (r.append r2) ?_,rfl,q⟩;rw[eO];omega
noncomputable def rCat:R2:=fun x y H Q=>∃l b xs zs,x= .ref l/\y= .ref b/\H l=some (.lst xs)/\H b=some (.lst zs)/\xs.length+zs.length<=sizeLine/\∀p,H p=none->Q (.ref p) (upd H p (.lst (xs++zs)))
theorem op_cat:OpR X (binaryOp .Add) rCat:=by
 intro pins s σ H x y v u Q I rx ry h;obtain⟨l,b,xs,zs,rfl,rfl,hH,hB,hz,q⟩:=h;cases rx;cases ry;obtain⟨z,its,n,r,hl,e⟩:=I.lstM hH;obtain⟨z2,its2,n2,r2,hl2,e2⟩:=I.lstM hB;refine PySem.P.add_list e e2 ?_ (by rw[eG,eG];omega);have ea:its.toArray++its2.toArray=(its++its2).toArray:=by simp
 rw[ea];exact⟨.ref _,_,I.lnew (t':=s.toks) (r.append r2) (by rw[eO];omega),rfl,q _ I.fresh⟩
end
end L2
namespace Att
open PySem PySem.W PySem.Calls PyProof.Rows
theorem ints_of_wellAll{P:Params}{h:Heap}:∀(ns:List Int) (vs:List ζ),WellAll P h vs (ns.map WData.int)->IntsAre vs ns:=by
 intro ns
 induction ns with
 |nil=>
  intro vs w;rw[Ye]at w;cases w;exact .nil
 |cons n ns ih=>
  intro vs w;rw[jB]at w;cases w with
  |cons a b=>
   cases a;exact .cons _ _ (ih _ b)
theorem script_of{l:OpenLaw}{n:Nat}(hn:l.most=some n){P:Params}{h:Heap}{args:List WData}{vals:List ζ}(hpre:l.row.toRowW.claim.pre args=true)(hwl:WellAll P h vals args):
  ∃a vs ns,vals=[Value.ref a]/\args=[WData.list (ns.map WData.int)]/\h.get? a=some {cls:= .type "list",data:= .seq vs.toArray}/\IntsAre vs ns/\ns.length<=n:=by
 have hsh:WShape.hasAll [] args [.list .int]=true:=(pre_splitW hpre).1;have hc:l.pre.holds [] {args:=args}=true:=(pre_splitW hpre).2;obtain⟨d,r,rfl,h1,h2⟩:=hasAllW_cons hsh;obtain rfl:=hasAllW_nil h2;obtain⟨xs,rfl,h3⟩:=hasW_list h1;obtain⟨ns,rfl⟩:=items_int h3;have hlen:ns.length<=n:=by
  unfold OpenLaw.pre at hc;have h4:(WTm.not (.lt (.lit (.int (n:Int))) (.len (.arg 0)))).holds [] {args:=[.list (ns.map .int)]}=true:=by
   have h4:=(holds_andW hc).1;rw[hn]at h4;exact h4
  have h5:=condW_of h4 (w_not (w_lt w_lit (w_len_list (w_arg rfl))));rw[aM]at h5;refine Nat.le_of_not_lt fun q=> ?_;have q':(n:Int)<((ns.length:Nat):Int):=by omega
  first
   |(rw[dF q']at h5;exact absurd h5 (by decide))
   |(simp at h5;omega)
 cases hwl with
 |cons w1 w2=>
  cases w2;cases w1 with
  |list ho hall=>exact⟨_,_,ns,rfl,rfl,ho,ints_of_wellAll ns _ hall,hlen⟩
theorem post_true(l:OpenLaw)(args:List WData):l.row.toRowW.claim.post args (.bool true) args=true:=
 postW_of (r:=l.row.toRowW) (X:=(true==true))
  (show WShape.has [] (.bool true) .bool=true by first |rfl|decide|simp[WShape.has,WShape.arms,WShape.armsAll])
  (show(WTm.eq .res (.lit (.bool true))).value [] {args:=args,res:=some (.bool true),after:=args}=some (.bool (true==true))from w_eq_bool (w_res rfl) w_lit) rfl
theorem attach_call{l:OpenLaw}{n:Nat}{q:ξ}{loose:List Str}{XP:(L5)->Heap->Prop}{YP:τ->Heap->Prop}{d:DefRec}(hn:l.most=some n)(hdf:d.params.defaults=[])(call:∀(w:τ) (s₀ s₁:η) (mg mb:L5) (fa:Addr) (o:Obj) (pm cd doc:ζ) (a:Addr) (vs:List ζ) (ns:List Int),
   Ground q loose [] XP w s₀ mg mb s₁.heap->YP w s₁.heap->
   s₁.heap.get? fa=some o->o.data= .func (docDef d.name d.params d.body d.scope pm cd doc)->s₁.heap.CodeRec cd d.name->mg d.name=some (.ref fa)->
   s₁.heap.get? a=some {cls:= .type "list",data:= .seq vs.toArray}->IntsAre vs ns->ns.length<=n->s₁.gens=#[]->
   codeAny (model l.prog w) callerA (.call (.ref fa) ⟨[.ref a],[]⟩) (fun r s'=>r= .ok (.ret (.bool true))/\OldK s₁.heap s'.heap/\s'.os=s₁.os/\AllBare s'.gens) s₁):
  WalkO q loose XP YP l.row.toRowW d [] (fun f vs=>PySem.call f vs):=by
 intro w s₀ s₁ mg mb G Y fa o pm cd doc dV kV ho hd hcd hD hmg hg args vals as hpre hlay hrd hwl hlo;obtain rfl:dV= .none:=Dflts.none hD hdf;obtain rfl:kV= .none:=Dflts.noKw hD;obtain⟨a,vs,ns,rfl,rfl,hobj,hints,hlen⟩:=script_of hn hpre hwl;refine enter_call (Oj (call w s₀ s₁ mg mb fa o pm cd doc a vs ns G Y ho (fd_plain hd) hcd hmg hobj hints hlen hg) fun r s' hq=> ?_);obtain⟨rfl,h2,h3,h4⟩:=hq;exact⟨.inl ⟨.bool true,.bool true,[],rfl,fun _=>rfl,.bool true,post_true l _,fun _=>⟨List.Pairwise.nil,fun _ hm=>(nomatch hm)⟩⟩,h2,h3,h4⟩
end Att
namespace L2
open PySem PySem.Spec PyProof.Rows
theorem vals_ints:∀{vs:List ζ} {ns:List Int},IntsAre vs ns->Vals (ns.map V.int) vs
 |_,_,.nil=> .nil
 |_,_,.cons n t h=> .cons ⟨t,rfl⟩ (vals_ints h)
noncomputable def Only(H:Hp):Prop:=∀b,H b=none\/∃o xs,H b=some (.frz o (.lst xs))
theorem law_call{P:ξ}{w:τ}{K:W.Frag}{mg mb:L5}{CX:CXT}{k:Nat}{fa a:Addr}{fd:ρ}{x:Str}{sp:Sp}{s₁:η}{vs:List ζ}{ns:List Int}
  (KX:K.In s₁.heap)(hns:s₁.heap.Ns mainGlobals mg)(hb:s₁.heap.Ns builtinsNs mb)(hbb:∀x:Str,x≠"__name__"->mb x=bootBuiltins x)(hlim:s₁.heap.NoLimit)(hg:s₁.gens=#[])(ha:s₁.heap.get? a=some {cls:= .type "list",data:= .seq vs.toArray})(hi:IntsAre vs ns)(hl:ns.length<=sizeLine)(hr:Room k callerA)
  (F:∀base:Heap,K.In base->base.Ns mainGlobals mg->FnOk P w K mg base CX k fa fd [x] sp)(hbind:∀(s:η) (u:ζ),BindsTo s fd ⟨[u],[]⟩ [(x,u)])(hsp:∀H:Hp,Only H->SqL K H a (ns.map V.int)->sp [.ref a] H (fun v _=>v= .bl true) fun _ _ _=>False)(hCX:∀H e s',CX [] H s₁ (fun _ _ _=>False) e s'->False):
  codeAny (model P w) callerA (.call (.ref fa) ⟨[.ref a],[]⟩) (fun r s'=>r= .ok (.ret (.bool true))/\OldK s₁.heap s'.heap/\s'.os=s₁.os/\AllBare s'.gens) s₁:=by
 have rv:=vals_ints hi;have lenV:=hi.length
 -- from an abstract heap in which nothing but the script may be tracked
 have core:∀H:Hp,Only H->SqL K H a (ns.map V.int)->HOk P w H s₁.heap->(∀b,H b≠none->b=a)->(H a≠none->K.lookup a=none)->
   codeAny (model P w) callerA (.call (.ref fa) ⟨[.ref a],[]⟩) (fun r s'=>r= .ok (.ret (.bool true))/\OldK s₁.heap s'.heap/\s'.os=s₁.os/\AllBare s'.gens) s₁:=by
  intro H hO hS hok hA hK;have base_of:∀{b:Addr} {o:Obj},s₁.heap.get? b=some o->H b=none->(hidT s₁.heap H).get? b=some o:=fun e n=>hidT_get e n;have noA:∀{b:Addr} {o:Obj} {es:Array DictEntry} {ep:Nat},s₁.heap.get? b=some o->o.data= .dict es ep->H b=none:=fun{b o es ep} e d=>by
   cases q:H b with
   |none=>rfl
   |some u=>
    have e':b=a:=hA b (by rw[q];simp);subst e';rw[ha]at e;cases e;have d':Data.seq vs.toArray _=Data.dict es ep:=d;cases d'
  have nsK:∀{b:Addr} {m:L5},s₁.heap.Ns b m->(hidT s₁.heap H).Ns b m:=fun{b m} ⟨o,es,ep,e,d,r⟩=>⟨o,es,ep,base_of e (noA e d),d,r⟩;have hKb:K.In (hidT s₁.heap H):=fun b o e=>base_of (KX b o e) (by
   cases q:H b with
   |none=>rfl
   |some u=>
    have e':b=a:=hA b (by rw[q];simp);subst e';rw[hK (by rw[q];simp)]at e;cases e)
  have hM:Mod K mg (hidT s₁.heap H):=⟨hKb,nsK hns,⟨mb,nsK hb,hbb⟩,let⟨mc,h1,h2⟩:=hlim;⟨mc,nsK h1,h2⟩⟩;have e0:Env0 P w K mg (hidT s₁.heap H) callerA [] s₁ H:=⟨rfl,hM,fun b o e=>of_hidT e,zE (hidT_size _ _),trivial,fun b hb=>absurd (show b∈([]:List Addr)from hb) (by simp),hok,.of_eq hg⟩;refine Oj ((F _ hKb (nsK hns)).run callerA [] s₁ H ⟨[.ref a],[]⟩ [.ref a] [.ref a] _ _ hr e0 (hbind s₁ (.ref a)) (.cons rfl .nil) (hsp H hO hS)) fun r s' h=> ?_;cases r with
  |error e=>exact(hCX H e s' h).elim
  |ok fl=>
   cases fl with
   |next=>exact False.elim h
   |brk=>exact False.elim h
   |cont=>exact False.elim h
   |ret u=>
    obtain⟨v,H',os,bare,un,hok',r',q⟩:=h;have q':v= .bl true:=q;subst q';obtain rfl:u=Value.bool true:=r';refine⟨rfl,OldK.of_keep fun b o e=> ?_,os,bare⟩;cases q:H b with
    |none=>exact un.keep b o e q (by intro z;exact absurd (show b∈([]:List Addr)from z) (by simp)) (by simp)
    |some u=>
     rcases hO b with z|⟨ob,xs,z⟩
     ·rw[q]at z;cases z
     ·have z2:=un.frzs b ob _ z;obtain⟨e1,_⟩:=hok b _ z;obtain⟨e2,_⟩:=hok' b _ z2;rw[e]at e1;cases e1;exact e2
 cases hk:K.lookup a with
 |some o=>
  -- the script is one of the module's own objects
  have e:=KX a o hk;rw[ha]at e;cases e;refine core (fun _=>none) (fun _=> .inl rfl) (.inr ⟨_,vs.toArray,_,hk,rfl,rfl,rfl,by rw[eG,lenV];exact hl,by simpa using rv⟩) (fun b u z=>by have z':(none:Option HO)=some u:=z;cases z') (fun b z=>absurd rfl z) fun z=>absurd rfl z
 |none=>
  refine core (fun b=>if b=a then some (.frz {cls:= .type "list",data:= .seq vs.toArray} (.lst (ns.map V.int)))else none) (fun b=> ?_) (.inl (.inr ⟨{cls:= .type "list",data:= .seq vs.toArray},aL rfl⟩)) (fun b u z=> ?_) (fun b z=> ?_) fun _=>hk
  ·by_cases hb:b=a
   ·exact .inr ⟨_,_,aL hb⟩
   ·exact .inl (aJ hb)
  ·by_cases hb:b=a
   ·have z':=(aL hb).symm.trans z;cases z';subst hb;exact⟨ha,by rw[aM];exact hl,vs,_,rv,ha⟩
   ·have z':=(aJ hb).symm.trans z;cases z'
  ·by_cases hb:b=a
   ·exact hb
   ·exact absurd (aJ hb) z
theorem walk_of{l:PySem.W.OpenLaw}{n k:Nat}{q:ξ}{loose:List Str}{XP:(L5)->Heap->Prop}{YP:τ->Heap->Prop}{d:DefRec}{K:Params->PySem.W.Frag}{CX:τ->CXT}{sp:τ->Sp}{x:Str}(hn:l.most=some n)(hn2:n<=sizeLine)(hdf:d.params.defaults=[])(hr:Room k callerA)(hY:∀(w:τ) (h:Heap),YP w h->(K w.params).In h)
  (F:∀(w:τ) (mg:L5) (fa:Addr) (h:Heap),(K w.params).In h->h.Ns mainGlobals mg->mg d.name=some (.ref fa)->
   ∃fd:ρ,(∀(s:η) (u:ζ),BindsTo s fd ⟨[u],[]⟩ [(x,u)])/\
    ∀base:Heap,(K w.params).In base->base.Ns mainGlobals mg->FnOk l.prog w (K w.params) mg base (CX w) k fa fd [x] (sp w))(hsp:∀(w:τ) (H:Hp) (a:Addr) (ns:List Int),ns.length<=n->Only H->SqL (K w.params) H a (ns.map V.int)->sp w [.ref a] H (fun v _=>v= .bl true) fun _ _ _=>False)(hCX:∀(w:τ) (H:Hp) (s:η) (e:ζ) (s':η),CX w [] H s (fun _ _ _=>False) e s'->False):
  PySem.W.WalkO q loose XP YP l.row.toRowW d [] (fun f vs=>PySem.call f vs):=by
 refine Att.attach_call hn hdf fun w s₀ s₁ mg mb fa o pm cd doc a vs ns G Y ho hd hcd hmg hobj hints hlen hg=> ?_;have KX:=hY w _ Y;obtain⟨fd,hb,hF⟩:=F w mg fa _ KX G.T.g hmg;exact law_call KX G.T.g G.T.b G.T.builtins G.T.nolimit hg hobj hints (cC hlen hn2) hr hF hb (fun H hO hS=>hsp w H a ns hlen hO hS) fun H e s'=>hCX w H s₁ e s'
noncomputable def inClass(s:Stmt)(j:Nat):Stmt:=match s with
 | .ClassDef _ _ _ body _ _ _ _ _ _ _=>body.getD j (.Pass ⟨0,0,0,0⟩)
 |_=> .Pass ⟨0,0,0,0⟩
noncomputable def defArgs(s:Stmt):Arguments:=match s with
 | .FunctionDef _ a _ _ _ _ _ _ _ _=>a
 |_=>{posonlyargs:=[],args:=[],vararg:=none,kwonlyargs:=[],kw_defaults:=[],kwarg:=none,defaults:=[]}
noncomputable def defBody(s:Stmt):List Stmt:=match s with
 | .FunctionDef _ _ b _ _ _ _ _ _ _=>b
 |_=>[]
noncomputable def defScope(s:Stmt):Scope:=match s with
 | .FunctionDef _ _ _ _ _ _ sc _ _ _=>sc
 |_=>{kind:= .function,names:=[],isGenerator:=false,isCoroutine:=false}
noncomputable abbrev CX0:CXT:=fun _ _ _ _ _ _=>False
noncomputable abbrev E0:XK:=fun _ _ _=>False
theorem pass0{X:Cx}:Passes CX0 X E0:=fun _ _ _ _ _ _ _ h=>h.elim
structure Fun(K:W.Frag)(x qual:Str)(st:Stmt)(f:Addr)(fd:ρ):Prop where
 ex:∃(oc:ζ) (od:Option Addr) (kV doc pm:ζ) (an:Option Addr) (cdv ct:ζ) (osl:Array (Option ζ)),
  fd=PySem.W.fnOf x qual (defArgs st) (defBody st) (defScope st) .none kV doc pm an cdv ct/\K.lookup f=some ⟨oc,od,.func fd,osl⟩/\PySem.W.codeIn K cdv qual=true
 kp:PySem.W.keepIn K (.ref f)=true
section
variable{P:ξ}{w:τ}{K:W.Frag}{mg:L5}{base:Heap}
theorem Fun.ok{x qual:Str}{st:Stmt}{f:Addr}{fd:ρ}{N ps:List Str}{k:Nat}{sp:Sp}(F:Fun K x qual st f fd)(S:FnScope N ps (defScope st))(len:∀vs H Q E,sp vs H Q E->vs.length=ps.length)(hbody:∀(cdv:ζ) (A:υ) (outer:List Env) (s:η) (H:Hp) (vs:List V) (Q:VK) (E:XK),Room k (A.deeper (envOfC qual (defScope st) s.heap.objs.size f cdv))->sp vs H Q E->
   ∃t,PSs (cxOf CX0 P w K mg base N qual (defScope st) f cdv A outer s H E).nox (defBody st) t/\t {nx:=fun _ H'=>Q .non H',rt:=Q} (start N vs) H):FnOk P w K mg base CX0 (k+1) f fd ps sp:=by
 obtain⟨oc,od,kV,doc,pm,an,cdv,ct,osl,rfl,lk,hcd⟩:=F.ex;refine fn_of lk hcd S len fun A outer s H vs Q E hr hsp=> ?_;obtain⟨t,h,q⟩:=hbody cdv A outer s H vs Q E hr hsp;exact⟨t,h.nox,q⟩
theorem Fun.binds{x qual:Str}{st:Stmt}{f:Addr}{fd:ρ}{ps:List Str}(F:Fun K x qual st f fd)(h:∀(kV doc pm:ζ) (an:Option Addr) (cdv ct:ζ) (us:List ζ),us.length=ps.length->bindArgs (PySem.W.fnOf x qual (defArgs st) (defBody st) (defScope st) .none kV doc pm an cdv ct) ⟨us,[]⟩=pure (ps.zip us)):Binds K fd ps []:=by
 obtain⟨oc,od,kV,doc,pm,an,cdv,ct,osl,rfl,lk,hcd⟩:=F.ex;exact .all (h kV doc pm an cdv ct)
theorem fun_mk{x qual:Str}{st:Stmt}{f:Addr}{oc:ζ}{od an:Option Addr}{osl:Array (Option ζ)}{kV doc pm cdv ct:ζ}(l:K.lookup f=some ⟨oc,od,.func (PySem.W.fnOf x qual (defArgs st) (defBody st) (defScope st) .none kV doc pm an cdv ct),osl⟩)(c:PySem.W.codeIn K cdv qual=true)(k:PySem.W.keepIn K (.ref f)=true):Fun K x qual st f (PySem.W.fnOf x qual (defArgs st) (defBody st) (defScope st) .none kV doc pm an cdv ct):=⟨⟨oc,od,kV,doc,pm,an,cdv,ct,osl,rfl,l,c⟩,k⟩
end
theorem small1000{n:Nat}(h:n<=1000):n<sizeLine:=zG h (by decide)
section
variable{X:Cx}
theorem pv(i:Nat){x:Str}{pos:Pos}(hN:X.N[i]? =some x:=by rfl)(hv:Vis X.env.scope x:=by first |exact Or.inl rfl|exact Or.inr (Or.inl rfl)|exact Or.inr (Or.inr rfl))(hd:(x==("__debug__":Str))=false:=by decide)(hcd:(x==("__classdict__":Str))=false:=by decide):PE X (.Name x pos) (tVar i):=pe_var hN hv hd hcd
end
theorem iteF{A B:Prop}(h:B):if false=true then A else B:=by
 rw[aJ lQ];exact h
theorem iteT{A B:Prop}(h:A):if true=true then A else B:=by
 rw[aL rfl];exact h
theorem ite2{c A B:Prop} [Decidable c](h1:c->A)(h2:¬c->B):if c then A else B:=by
 by_cases h:c
 ·rw[aL h];exact h1 h
 ·rw[aJ h];exact h2 h
noncomputable def Same(H H':Hp):Prop:=∀b o,H b=some o->H' b=some o
theorem Same.refl(H:Hp):Same H H:=fun _ _ h=>h
theorem Same.trans{H H1 H2:Hp}(a:Same H H1)(b:Same H1 H2):Same H H2:=fun c o h=>b c o (a c o h)
theorem Same.free{H H':Hp}(e:Same H H'){l:Addr}(h:H' l=Option.none):H l=Option.none:=by
 cases q:H l with
 |none=>rfl
 |some o=>
  rw[e l o q]at h;cases h
theorem Same.seq{K:W.Frag}{H H':Hp}{a:Addr}{xs:List V}(e:Same H H')(h:SqL K H a xs):SqL K H' a xs:=by
 rcases h with(h|⟨o,h⟩)|h
 ·exact .inl (.inl (e _ _ h))
 ·exact .inl (.inr ⟨o,e _ _ h⟩)
 ·exact .inr h
end L2
set_option maxHeartbeats 4000000
namespace L2
open PySem PySem.Spec PyProof.Rows
noncomputable def iJ(cells:List (Str×Addr)):List (Str×NameKind)->List (Str×Addr)->List (Str×Addr)
 |[],acc=>acc
 |p::r,acc=>iJ cells r (if(p.2==NameKind.free)=true then(p.1,(cells.lookup p.1).getD 0)::acc else acc)
theorem jV{cells:List (Str×Addr)}:∀{names:List (Str×NameKind)} {acc:List (Str×Addr)} {x:Str} {c:Addr},(x,c)∈iJ cells names acc->(x,c)∈acc\/c=(cells.lookup x).getD 0/\(x,NameKind.free)∈names
 |[],_,_,_,h=> .inl h
 |(n,k)::r,acc,x,c,h=>by
  rcases jV (names:=r) h with q|⟨q,m⟩
  ·dsimp only at q;split at q
   ·rename_i hk;rcases cD.mp q with e|e
    ·cases e;have:k=NameKind.free:=by simpa using hk
     subst this;exact .inr ⟨rfl,cH⟩
    ·exact .inl e
   ·exact .inl q
  ·exact .inr ⟨q,cP _ m⟩
theorem wj{cells:List (Str×Addr)}:∀{names:List (Str×NameKind)} {acc:List (Str×Addr)} {p:Str×Addr},p∈acc->p∈iJ cells names acc
 |[],_,_,h=>h
 |(n,k)::r,acc,p,h=>by
  refine wj (names:=r) ?_;split
  ·exact cP _ h
  ·exact h
theorem wg{cells:List (Str×Addr)}:∀{names:List (Str×NameKind)} {acc:List (Str×Addr)} {x:Str},(x,NameKind.free)∈names->∃c,(x,c)∈iJ cells names acc
 |(n,k)::r,acc,x,h=>by
  rcases cD.mp h with e|e
  ·cases e;refine⟨(cells.lookup n).getD 0,wj (names:=r) ?_⟩;rw[aL (show(NameKind.free==NameKind.free)=true from rfl)];exact cH
  ·exact wg (names:=r) e
theorem Wm{β:Type}:∀{l:List (Str×β)} {x:Str} {c:β},(x,c)∈l->∃d,l.lookup x=some d/\(x,d)∈l
 |(n,k)::r,x,c,h=>by
  cases hx:x==n with
  |true=>
   have e:x=n:=by simpa using hx
   subst e;exact⟨k,by simp[Eh],cH⟩
  |false=>
   rcases cD.mp h with e|e
   ·cases e;simp at hx
   ·obtain⟨d,h1,h2⟩:=Wm e;exact⟨d,by simp only[Eh,hx];exact h1,cP _ h2⟩
theorem qb{scope:Scope}{env:Env}(h:∀x,(x,NameKind.free)∈scope.names->∃c,env.cells.lookup x=some c):closureFor scope env=pure (iJ env.cells scope.names []):=by
 have key:∀(names:List (Str×NameKind)) (acc:List (Str×Addr)),(∀x,(x,NameKind.free)∈names->∃c,env.cells.lookup x=some c)->
   (forIn names acc fun(x:Str×NameKind) (cs:List (Str×Addr))=>if(x.2==NameKind.free)=true then(do let y<-cellOf env x.1;pure (ForInStep.yield ((x.1,y)::cs)))else pure (ForInStep.yield cs):Sem (List (Str×Addr)))=pure (iJ env.cells names acc):=by
  intro names
  induction names with
  |nil=>intro acc _;rfl
  |cons p r ih=>
   intro acc hh;obtain⟨n,k⟩:=p;rw[List.forIn_cons];dsimp only;by_cases hk:(k==NameKind.free)=true
   ·have e:k=NameKind.free:=by simpa using hk
    subst e;obtain⟨c,hc⟩:=hh n cH;rw[aL hk];unfold cellOf;rw[hc];simp only[pure_bind];refine Eq.trans (ih _ fun x hx=>hh x (cP _ hx)) ?_;show _=pure (iJ env.cells r (if(NameKind.free==NameKind.free)=true then(n,(env.cells.lookup n).getD 0)::acc else acc));rw[aL hk,hc];rfl
   ·rw[aJ hk];simp only[pure_bind];refine Eq.trans (ih _ fun x hx=>hh x (cP _ hx)) ?_;show _=pure (iJ env.cells r (if(k==NameKind.free)=true then(n,(env.cells.lookup n).getD 0)::acc else acc));rw[aJ hk]
 have q:=key scope.names [] h;unfold closureFor;simp only[bind_pure];exact q
theorem jm{env:Env}:∀{names:List (Str×NameKind)} {x:Str} {k:NameKind},names.lookup x=some k->
  (names.map fun(n,k)=>if(k==NameKind.free&&env.scope.kind== .function&&env.kindOf n==some .cell)then(n,NameKind.cell)else(n,k)).lookup x=some (if(k==NameKind.free&&env.scope.kind== .function&&env.kindOf x==some .cell)=true then .cell else k)
 |[],_,_,h=>by simp at h
 |(n,k)::r,x,k',h=>by
  have ih:= @jm env r x k';show List.lookup x ((if(k==NameKind.free&&env.scope.kind== .function&&env.kindOf n==some .cell)=true then(n,NameKind.cell)else(n,k))::_)=_;cases hx:x==n with
  |true=>
   have e:x=n:=by simpa using hx
   subst e;simp only[Eh,hx]at h;cases h;by_cases hc:(k==NameKind.free&&env.scope.kind== .function&&env.kindOf x==some .cell)=true
   ·rw[aL hc,aL hc];simp[Eh]
   ·rw[aJ hc,aJ hc];simp[Eh]
  |false=>
   simp only[Eh,hx]at h;by_cases hc:(k==NameKind.free&&env.scope.kind== .function&&env.kindOf n==some .cell)=true
   ·rw[aL hc];simp only[Eh,hx];exact ih h
   ·rw[aJ hc];simp only[Eh,hx];exact ih h
theorem pA{env:Env}:∀{names:List (Str×NameKind)} {x:Str},names.lookup x=none->
  (names.map fun(n,k)=>if(k==NameKind.free&&env.scope.kind== .function&&env.kindOf n==some .cell)then(n,NameKind.cell)else(n,k)).lookup x=none
 |[],_,_=>rfl
 |(n,k)::r,x,h=>by
  have ih:= @pA env r x;show List.lookup x ((if(k==NameKind.free&&env.scope.kind== .function&&env.kindOf n==some .cell)=true then(n,NameKind.cell)else(n,k))::_)=_;cases hx:x==n with
  |true=>simp only[Eh,hx]at h;cases h
  |false=>
   simp only[Eh,hx]at h;by_cases hc:(k==NameKind.free&&env.scope.kind== .function&&env.kindOf n==some .cell)=true
   ·rw[aL hc];simp only[Eh,hx];exact ih h
   ·rw[aJ hc];simp only[Eh,hx];exact ih h
theorem xG{scope:Scope}{env:Env}{x:Str}(h:scope.names.lookup x=some .free):(relabel scope env).names.lookup x=some .cell\/(relabel scope env).names.lookup x=some .free:=by
 have q:=jm (env:=env) h;by_cases hc:((NameKind.free==NameKind.free)&&env.scope.kind== .function&&env.kindOf x==some .cell)=true
 ·rw[aL hc]at q;exact .inl q
 ·rw[aJ hc]at q;exact .inr q
inductive gA(X:Cx)(scope:Scope):List Str->List Nat->Prop
 |nil:gA X scope [] []
 |cons {x:Str} {j:Nat} {xs:List Str} {js:List Nat} (hN:X.N[j]? =some x) (hf:scope.names.lookup x=some .free) (t:gA X scope xs js):gA X scope (x::xs) (j::js)
theorem gA.get{X:Cx}{scope:Scope}:∀{xs:List Str} {js:List Nat} {k:Nat} {x:Str},gA X scope xs js->xs[k]? =some x->∃j,js[k]? =some j/\X.N[j]? =some x/\scope.names.lookup x=some .free
 |_,_,k,x,.nil,h=>by simp at h
 |_,_,0,x,.cons h1 h2 _,h=>by simp at h;subst h;exact⟨_,rfl,h1,h2⟩
 |_,_,k+1,x,.cons _ _ t,h=>by
  obtain⟨j,a,b⟩:=gA.get (k:=k) t (by simpa using h);exact⟨j,by simpa using a,b⟩
theorem gA.len{X:Cx}{scope:Scope}:∀{xs:List Str} {js:List Nat},gA X scope xs js->xs.length=js.length
 |_,_,.nil=>rfl
 |_,_,.cons _ _ t=>by simp[gA.len t]
noncomputable def vK(own:List Str)(ix:List Nat)(σ:St):St:=own.map (fun _=>none)++ix.map fun j=>(σ[j]?).join
noncomputable def PB(X:Cx)(ifs:List Expr)(t:TT):Prop:=
 ∀(pins:L1) (s:η) (σ:St) (H:Hp) (Q:Bool->Hp->Prop),Inv X pins σ H s->t σ H Q->
  wpAny (model X.prog X.w) X.A (forIn ifs true fun c r=>if r=true then do let ok<-isTrue c X.env (eval c X.env);pure (ForInStep.yield ok)else pure (ForInStep.yield r)) (TP X pins σ Q) X.xe s
theorem qJ{X:Cx}:PB X [] (fun _ H Q=>Q true H):=fun _ _ _ H _ I h=>wpAny_tests_nil ⟨H,I,h⟩
theorem cW{X:Cx}{c:Expr}{t:TT}(h:PT X c t):PB X [c] t:=fun pins s σ H Q I hq=>wpAny_tests_one (h pins s σ H Q I hq)
theorem HOk.add{P:ξ}{w:τ}{H:Hp}{h:Heap}{a:Addr}{o:HO}(x:HOk P w H h)(hn:H a=none)(new:ObjOk P w (upd H a o) h a o):HOk P w (upd H a o) h:=fun b u e=>by
 by_cases hb:b=a
 ·subst hb;rw[aG]at e;cases e;exact new
 ·rw[cN hb]at e;exact(x b u e).stay (fun c v _ q=>q) (fun c q=>by rw[cN (mQ q hn)];exact q) fun c xs q=>by rw[cN (mQ q hn)];exact q
theorem Un.add{fs ex:List Addr}{H H':Hp}{h h':Heap}{a:Addr}{o:HO}(u:Un fs ex H H' h h')(ha:h.objs.size<=a)(hn:H' a=none):Un fs ex H (upd H' a o) h h' where
 keep:=u.keep
 slot:=u.slot
 free:=fun b ob q n hx=>by rw[cN (dX (gR (cO q) ha))];exact u.free b ob q n hx
 there:=u.there
 tups:=fun b xs q=>by have:=u.tups b xs q;rw[cN (mQ this hn)];exact this
 frzs:=fun b ob xs q=>by have:=u.frzs b ob xs q;rw[cN (mQ this hn)];exact this
 tbls:=fun b ps q=>by obtain⟨m,e⟩:=u.tbls b ps q;exact⟨m,by rw[cN (mQ e hn)];exact e⟩
noncomputable def Bk(J:It)(ini:St)(H:Hp)(g:TG)(tc:TT)(te:TE)(Fin:List V->Hp->Prop):Prop:=
 ∃W:Nat->Nat->List V->St->Hp->Prop,(∃m,W 0 m [] ini H)/\∀i m acc σ H,W i m acc σ H->
  (J.stop i H/\acc.length<=sizeLine/\Fin acc H)\/(J.go i H/\acc.length<sizeLine/\∃N:List V->St->Hp->Prop,(∀acc' σ' H',N acc' σ' H'->∃m',m'<m/\W (i+1) m' acc' σ' H')/\∀x H',J.yld i H x H'->g x σ H' fun σ2 H2=>tc σ2 H2 fun b H3=>
   if b=true then te σ2 H3 fun v H4=>N (acc++[v]) σ2 H4 else N acc σ2 H3)
noncomputable def zP(wi:TI)(own:List Str)(ix:List Nat)(g:TG)(tc:TT)(te:TE):TE:=fun σ H Q=>wi σ H fun J H1=>
 Bk J (vK own ix σ) H1 g tc te fun acc H'=>∀p,H' p=none->Q (.ref p) (upd H' p (.lst acc))
section
variable{K:W.Frag}{a:Addr}{xs:List V}{g:TG}{tc:TT}{te:TE}{Fin:List V->Hp->Prop}{ini:St}{H:Hp}
theorem PX(Pv:Nat->List V->St->Hp->Prop)(h0:Pv 0 [] ini H)(hl:∀(i:Nat) acc σ H,i<=xs.length->Pv i acc σ H->SqL K H a xs)(hz:∀(i:Nat) acc σ H,i<=xs.length->Pv i acc σ H->acc.length<=i)(hx:xs.length<=sizeLine)(hs:∀(i:Nat) x acc σ H,xs[i]? =some x->Pv i acc σ H->g x σ H fun σ2 H2=>tc σ2 H2 fun b H3=>if b=true then te σ2 H3 fun v H4=>Pv (i+1) (acc++[v]) σ2 H4 else Pv (i+1) acc σ2 H3)(hd:∀acc σ H,Pv xs.length acc σ H->Fin acc H):Bk (Itl K a) ini H g tc te Fin:=by
 refine⟨fun i m acc σ H=>m=xs.length-i/\i<=xs.length/\Pv i acc σ H,⟨xs.length,by simp,gG _,h0⟩,?_⟩;rintro i m acc σ H ⟨rfl,hi,p⟩;have q:=hl i acc σ H hi p;have z:=hz i acc σ H hi p;by_cases hlt:i<xs.length
 ·refine .inr ⟨⟨xs,xs[i],q,by simp[hlt]⟩,by omega,fun acc σ H=>Pv (i+1) acc σ H,fun acc' σ' H' r=>⟨_,by omega,rfl,hlt,r⟩,fun x H' y=> ?_⟩;obtain⟨e,y⟩:=y;subst e;exact hs i x acc σ _ (y xs q) p
 ·have e:i=xs.length:=by omega
  subst e;exact .inl ⟨⟨xs,q,bH _⟩,by omega,hd acc σ H p⟩
theorem NT(Pv:Nat->List V->St->Hp->Prop)(h0:Pv 0 [] ini H)(hl:∀(i:Nat) acc σ H,i<=xs.length->Pv i acc σ H->SqT K H a xs)(hz:∀(i:Nat) acc σ H,i<=xs.length->Pv i acc σ H->acc.length<=i)(hx:xs.length<=sizeLine)(hs:∀(i:Nat) x acc σ H,xs[i]? =some x->Pv i acc σ H->g x σ H fun σ2 H2=>tc σ2 H2 fun b H3=>if b=true then te σ2 H3 fun v H4=>Pv (i+1) (acc++[v]) σ2 H4 else Pv (i+1) acc σ2 H3)(hd:∀acc σ H,Pv xs.length acc σ H->Fin acc H):Bk (Itt K a) ini H g tc te Fin:=by
 refine⟨fun i m acc σ H=>m=xs.length-i/\i<=xs.length/\Pv i acc σ H,⟨xs.length,by simp,gG _,h0⟩,?_⟩;rintro i m acc σ H ⟨rfl,hi,p⟩;have q:=hl i acc σ H hi p;have z:=hz i acc σ H hi p;by_cases hlt:i<xs.length
 ·refine .inr ⟨⟨xs,xs[i],q,by simp[hlt]⟩,by omega,fun acc σ H=>Pv (i+1) acc σ H,fun acc' σ' H' r=>⟨_,by omega,rfl,hlt,r⟩,fun x H' y=> ?_⟩;obtain⟨e,y⟩:=y;subst e;exact hs i x acc σ _ (y xs q) p
 ·have e:i=xs.length:=by omega
  subst e;exact .inl ⟨⟨xs,q,bH _⟩,by omega,hd acc σ H p⟩
theorem wO{lo:Int}{n:Nat}(Pv:Nat->List V->St->Hp->Prop)(h0:Pv 0 [] ini H)(hz:∀(i:Nat) acc σ H,i<=n->Pv i acc σ H->acc.length<=i)(hx:n<=sizeLine)(hs:∀(i:Nat) acc σ H,i<n->Pv i acc σ H->g (.int (lo+i)) σ H fun σ2 H2=>tc σ2 H2 fun b H3=>if b=true then te σ2 H3 fun v H4=>Pv (i+1) (acc++[v]) σ2 H4 else Pv (i+1) acc σ2 H3)(hd:∀acc σ H,Pv n acc σ H->Fin acc H):Bk (Itr lo n) ini H g tc te Fin:=by
 refine⟨fun i m acc σ H=>m=n-i/\i<=n/\Pv i acc σ H,⟨n,by simp,gG _,h0⟩,?_⟩;rintro i m acc σ H ⟨rfl,hi,p⟩;have z:=hz i acc σ H hi p;by_cases hlt:i<n
 ·refine .inr ⟨hlt,by omega,fun acc σ H=>Pv (i+1) acc σ H,fun acc' σ' H' r=>⟨_,by omega,rfl,hlt,r⟩,fun x H' y=> ?_⟩;obtain⟨e,y⟩:=y;subst e y;exact hs i acc σ _ hlt p
 ·have e:i=n:=by omega
  subst e;exact .inl ⟨bH _,by omega,hd acc σ H p⟩
end
end L2
namespace ql
open PySem PySem.W PyProof.Rows
section
variable{O:KeyOrd}{key:Nat->O.α}{N:Nat}{cmp:Nat->Nat->(Bool->η->Prop)->η->Prop}{s:η}
noncomputable def iZ(O:KeyOrd)(key:Nat->O.α)(N:Nat)(cmp:Nat->Nat->(Bool->η->Prop)->η->Prop)(s:η):Prop:=
 ∀i j (C:Bool->η->Prop),i<N->j<N->C (O.blt (key i) (key j)) s->cmp i j C s
noncomputable def KN(key:Nat->O.α)(p:Array Nat)(i:Nat):O.α:=key (p.getD i 0)
noncomputable def So(key:Nat->O.α)(p:Array Nat)(k:Nat):Prop:=∀i j,i<=j->j<k->O.kle (KN key p i) (KN key p j)
noncomputable def Ni(key:Nat->O.α)(p:Array Nat)(k:Nat):Prop:=∀i j,i<=j->j<k->O.kle (KN key p j) (KN key p i)
structure Ord(N:Nat)(p:Array Nat):Prop where
 perm:p.Perm (List.toArray (List.range N))
theorem Ord.size{p:Array Nat}(h:Ord N p):p.size=N:=by have:=h.perm.size_eq;simpa using this
theorem Ord.lt{p:Array Nat}(h:Ord N p){i:Nat}(hi:i<N):p.getD i 0<N:=by
 have hi':i<p.size:=by rw[h.size];exact hi
 have e:p.getD i 0=p[i]:=by simp[Array.getD,hi']
 rw[e];have m:p[i]∈p.toList:=by simp
 have:=(X6.mp h.perm).mem_iff.mp m;simpa using this
theorem Ord.rev{p:Array Nat}(h:Ord N p)(i j:Nat):Ord N (kas_rev p i j):=⟨(mirror_perm _ _ _ _).trans h.perm⟩
theorem Ord.bub{p:Array Nat}(h:Ord N p)(i j:Nat):Ord N (bubble p i j):=⟨(bubble_perm _ _ _).trans h.perm⟩
theorem pZ(p:Array Nat)(i:Nat):p.getD i 0=(p[i]?).getD 0:=by simp
theorem zj{p:Array Nat}{i j:Nat}(hj:j<=p.size)(k:Nat):KN key (kas_rev p i j) k=if i<=k/\k<j then KN key p (i+j-1-k)else KN key p k:=by
 have e:=getElem?_mirror_all (i:=i) hj k;unfold KN kas_rev;rw[pZ,e];split
 ·rw[pZ]
 ·rw[pZ]
theorem Um{p:Array Nat}{i j:Nat}(hj:j<=p.size)(heq:∀k,i<=k->k<j->KN key p k=KN key p (j-1))(k:Nat):KN key (kas_rev p i j) k=KN key p k:=by
 rw[zj hj];split
 ·rename_i h;rw[heq k h.1 h.2,heq _ (by omega) (by omega)]
 ·rfl
theorem JC{p:Array Nat}{src d:Nat}(hs:src<p.size)(hd:d<=src)(k:Nat):KN key (bubble p src d) k=if k=src-d then KN key p src else if src-d<k/\k<=src then KN key p (k-1)else KN key p k:=by
 have e:=getElem?_bubble hs d hd k;have q:KN key (bubble p src d) k=key (((bubble p src d)[k]?).getD 0):=iy key (pZ _ _);have q2:∀i,KN key p i=key ((p[i]?).getD 0):=fun i=>iy key (pZ _ _);rw[q,e,q2,q2,q2];by_cases h1:k=src-d
 ·rw[aL h1,aL h1]
 ·rw[aJ h1,aJ h1];by_cases h2:src-d<k/\k<=src
  ·rw[aL h2,aL h2]
  ·rw[aJ h2,aJ h2]
theorem Aq{i j:Nat}(h:i<=j)(hn:¬i=j):i<=j-1:=Ws (Od h hn)
theorem yN{j n:Nat}(h:j<n+1)(hn:¬j<n):j=n:=Qf (Ob h) (Nat.not_lt.mp hn)
theorem g8{x k:Nat}(h:1<=x)(hk:x<=k):x-1<k:=Uy h hk
theorem yh{x f N:Nat}(h:x+(f+1)<=N):x<N:=gR (Nat.lt_add_of_pos_right (wQ f)) h
theorem kJ{x f N:Nat}(h:x+(f+1)<=N):x+1+f<=N:=cC (zE (Wz x f)) h
theorem Oq{x f m:Nat}(h:m<=x+1+f):m<=x+(f+1):=cC h (zE (Wz x f))
theorem QX{i j n:Nat}(h:i<=j):0+n-1-j<=0+n-1-i:=Nat.sub_le_sub_left h _
theorem QW{i n:Nat}(h:i<n):0+n-1-i<n:=by
 rw[Yd];exact zG (WL _ _) (Uy (zG (gG _) h) (bH _))
theorem asc(ok:iZ O key N cmp s){p:Array Nat}(hp:Ord N p){Q:Nat->η->Prop}:∀(f n:Nat),1<=n->n+f<=N->So key p n->(∀m,n<=m->m<=n+f->So key p m->(m=n+f\/O.klt (KN key p m) (KN key p (m-1)))->Q m s)->(kas_asc p f n).kasWp cmp Q s
 |0,n,_,_,hs,h=>h n (bH _) (bH _) hs (.inl rfl)
 |f+1,n,h1,hn,hs,h=>by
  have RJ:n<N:=yh hn;refine ok _ _ _ (hp.lt RJ) (hp.lt (g8 h1 (wR RJ))) ?_;cases hless:O.blt (key (p.getD n 0)) (key (p.getD (n-1) 0))with
  |true=>
   show Q n s;exact h n (bH _) (Uu _ _) hs (.inr hless)
  |false=>
   show(kas_asc p f (n+1)).kasWp cmp Q s;refine asc ok hp f (n+1) (wQ _) (kJ hn) (fun i j hij hj=> ?_) fun m a b c d=>h m (Nat.le_of_succ_le a) (Oq b) c (d.imp (fun z=>z.trans (Wz n f)) id);by_cases hjn:j<n
   ·exact hs i j hij hjn
   ·have hj':j=n:=yN hj hjn;subst hj';by_cases hi':i=j
    ·subst hi';exact Kq _
    ·exact W3 (hs i (j-1) (Aq hij hi') (g8 h1 (bH _))) hless
theorem tail3(ok:iZ O key N cmp s){p:Array Nat}(hp:Ord N p){n:Nat}{Q:Nat×Array Nat->η->Prop}(h1:1<=n)(hn:n<=N)(hs:Ni key p n)(h:∀m p',Ord N p'->1<=m->m<=N->So key p' m->Q (m,p') s):(kas_tail3 n N p).kasWp cmp Q s:=by
 unfold kas_tail3;rw[U5];have hsz:n<=p.size:=by rw[hp.size];exact hn
 have hN:n+(N-n)=N:=YC hn;refine asc ok (hp.rev 0 n) (N-n) n h1 (zE hN) (fun i j hij hj=> ?_) fun m a b c _=>h m _ (hp.rev 0 n) (cC h1 a) (cC b (zE hN)) c;rw[zj hsz,zj hsz,aL ⟨gG _,zG hij hj⟩,aL ⟨gG _,hj⟩];exact hs _ _ (QX hij) (QW (zG hij hj))
theorem Jq{p p':Array Nat}{x:Nat}(h1:1<=x)(hs:Ni key p x)(hless:O.kle (KN key p x) (KN key p (x-1)))(hk:∀k,KN key p' k=KN key p k):Ni key p' (x+1):=by
 intro i j hij hj;rw[hk,hk];by_cases hjx:j<x
 ·exact hs i j hij hjx
 ·have hj':j=x:=yN hj hjx;subst hj';by_cases hi':i=j
  ·subst hi';exact Kq _
  ·exact W3 hless (hs i (j-1) (Aq hij hi') (g8 h1 (bH _)))
theorem one_eq{p:Array Nat}{x i:Nat}(h1:x+1-(0+1)<=i)(h2:i<x+1):KN key p i=KN key p (x+1-1):=iy _ (Qf (Ob h2) h1)
theorem desc(ok:iZ O key N cmp s){Q:Array Nat×Nat×Nat->η->Prop}:∀(f:Nat) (p:Array Nat) (x neq:Nat),Ord N p->1<=x->x+f<=N->Ni key p x->neq+1<=x->(∀i,x-(neq+1)<=i->i<x->KN key p i=KN key p (x-1))->
  (∀p' m q,Ord N p'->x<=m->m<=x+f->Ni key p' m->q+1<=m->(∀i,m-(q+1)<=i->i<m->KN key p' i=KN key p' (m-1))->Q (p',m,q) s)->(kas_desc f p x neq).kasWp cmp Q s
 |0,p,x,neq,hp,_,_,hs,hq,he,h=>h p x neq hp (bH _) (bH _) hs hq he
 |f+1,p,x,neq,hp,h1,hn,hs,hq,he,h=>by
  have Xk:x<N:=yh hn;have hsz:x<=p.size:=by rw[hp.size];exact wR Xk
  have hx1:x-1<N:=g8 h1 (wR Xk);have hh:∀p' m q,Ord N p'->x+1<=m->m<=x+1+f->Ni key p' m->q+1<=m->(∀i,m-(q+1)<=i->i<m->KN key p' i=KN key p' (m-1))->Q (p',m,q) s:=fun p' m q a b c d e g=>h p' m q a (Nat.le_of_succ_le b) (Oq c) d e g;refine ok _ _ _ (hp.lt Xk) (hp.lt hx1) ?_;cases hless:O.blt (key (p.getD x 0)) (key (p.getD (x-1) 0))with
  |true=>
   show(if neq>0 then kas_desc f (kas_rev p (x-(neq+1)) x) (x+1) 0 else kas_desc f p (x+1) 0).kasWp cmp Q s;by_cases hneq:neq>0
   ·rw[aL hneq];exact desc ok f _ (x+1) 0 (hp.rev _ _) (wQ _) (kJ hn) (Jq h1 hs (U6 hless) (Um hsz he)) (wQ _) (fun i h1 h2=>one_eq h1 h2) hh
   ·rw[aJ hneq];exact desc ok f _ (x+1) 0 hp (wQ _) (kJ hn) (Jq h1 hs (U6 hless) fun _=>rfl) (wQ _) (fun i h1 h2=>one_eq h1 h2) hh
  |false=>
   show(KasT.ask (p.getD (x-1) 0) (p.getD x 0) fun d=>if d=true then KasT.ret (p,x,neq)else kas_desc f p (x+1) (neq+1)).kasWp cmp Q s;refine ok _ _ _ (hp.lt hx1) (hp.lt Xk) ?_;cases hl:O.blt (key (p.getD (x-1) 0)) (key (p.getD x 0))with
   |true=>exact h p x neq hp (bH _) (Uu _ _) hs hq he
   |false=>
    show(kas_desc f p (x+1) (neq+1)).kasWp cmp Q s;have heqx:KN key p x=KN key p (x-1):=KeyOrd.kle_antisymm hl hless;refine desc ok f _ (x+1) (neq+1) hp (wQ _) (kJ hn) (Jq h1 hs (by rw[heqx];exact Kq _) fun _=>rfl) (Nat.succ_le_succ hq) (fun i h1 h2=> ?_) hh;show KN key p i=KN key p x;by_cases hix:i=x
    ·subst hix;rfl
    ·rw[heqx];exact he i (cC (zE (Nat.succ_sub_succ x (neq+1)).symm) h1) (Od (Ob h2) hix)
theorem descPart(ok:iZ O key N cmp s){p:Array Nat}(hp:Ord N p){n:Nat}{Q:Nat×Array Nat->η->Prop}(hn:n+1<=N)(hs:Ni key p (n+1))(h:∀m p',Ord N p'->1<=m->m<=N->So key p' m->Q (m,p') s):(kas_descPart n N p).kasWp cmp Q s:=by
 unfold kas_descPart;rw[U5];have hN:n+1+(N-(n+1))<=N:=zE (YC hn);refine desc ok _ _ _ _ hp (wQ _) hN hs (wQ _) (fun i h1 h2=>one_eq h1 h2) fun p' m q a b c d e g=> ?_;have hm:m<=N:=cC c hN;have hm1:1<=m:=cC (wQ _) b;have hsz:m<=p'.size:=by rw[a.size];exact hm
 dsimp only;by_cases hq:q>0
 ·rw[aL hq];refine tail3 ok (a.rev _ _) hm1 hm (fun i j hij hj=> ?_) h;rw[Um hsz g,Um hsz g];exact d i j hij hj
 ·rw[aJ hq];exact tail3 ok a hm1 hm d h
theorem count(ok:iZ O key N cmp s){p:Array Nat}(hp:Ord N p){Q:Nat×Array Nat->η->Prop}(h1:1<=N)(h:∀m p',Ord N p'->1<=m->m<=N->So key p' m->Q (m,p') s):(kas_count N p).kasWp cmp Q s:=by
 unfold kas_count;rw[U5];have hN:1+(N-1)=N:=YC h1;refine asc ok hp (N-1) 1 (bH _) (zE hN) (fun i j hij hj=>by
  have hj0:j=0:=Nat.lt_one_iff.mp hj;subst hj0;have hi0:i=0:=Nat.le_zero.mp hij;subst hi0;exact Kq _) fun n a b hsn hor=> ?_
 have RJ:n<=N:=cC b (zE hN);by_cases hnn:n=N
 ·rw[aL (by simpa using hnn)];exact h n p hp a RJ hsn
 ·rw[aJ (by simpa using hnn)];have hlt:O.klt (KN key p n) (KN key p (n-1)):=hor.resolve_left fun z=>hnn (z.trans hN);have wM:n<N:=Od RJ hnn;by_cases hgt:n>1
  ·rw[aL hgt];have hn1:n-1<n:=g8 a (bH _);refine ok _ _ _ (hp.lt h1) (hp.lt (JR hn1 wM)) ?_;cases hrose:O.blt (key (p.getD 0 0)) (key (p.getD (n-1) 0))with
   |true=>exact h n p hp a RJ hsn
   |false=>
    show(kas_descPart n N (kas_rev p 0 n)).kasWp cmp Q s;have hsz:n<=p.size:=by rw[hp.size];exact RJ
    have hall:∀k,0<=k->k<n->KN key p k=KN key p (n-1):=fun k _ hk=>
     KeyOrd.kle_antisymm (hsn k (n-1) (Ws hk) hn1) (W3 hrose (hsn 0 k (gG _) hk))
    refine descPart ok (hp.rev 0 n) wM (fun i j hij hj=> ?_) h;rw[Um hsz hall,Um hsz hall];by_cases hjn:j<n
    ·rw[hall i (gG _) (zG hij hjn),hall j (gG _) hjn];exact Kq _
    ·have hj':j=n:=yN hj hjn;subst hj';by_cases hi':i=j
     ·subst hi';exact Kq _
     ·rw[hall i (gG _) (Od hij hi')];exact U6 hlt
  ·rw[aJ hgt];have hn1':n=1:=Qf (Nat.not_lt.mp hgt) a;subst hn1';refine descPart ok hp wM (fun i j hij hj=> ?_) h;by_cases hi':i=j
   ·subst hi';exact Kq _
   ·have hij':i<j:=Od hij hi';have hj1:j=1:=Qf (Ob hj) (zG (gG i) hij');subst hj1;have hi0:i=0:=Nat.lt_one_iff.mp hij';subst hi0;exact U6 hlt
theorem half_lt{l r:Nat}(h:l<r):(l+r)/2<r:=by omega
theorem Mz{l r:Nat}(h:l<r):l<=(l+r)/2:=by omega
theorem place(ok:iZ O key N cmp s){p:Array Nat}(hp:Ord N p){k:Nat}{Q:Nat->η->Prop}(hk:k<N)(hs:So key p k):∀(f l r:Nat),l<=r->r<=k->r-l<=f->(∀i,i<l->O.kle (KN key p i) (KN key p k))->(∀i,r<=i->i<k->O.klt (KN key p k) (KN key p i))->
  (∀l,l<=k->(∀i,i<l->O.kle (KN key p i) (KN key p k))->(∀i,l<=i->i<k->O.klt (KN key p k) (KN key p i))->Q l s)->(kas_place p k f l r).kasWp cmp Q s
 |0,l,r,hlr,hrk,hm,hlo,hhi,h=>by
  have e:l=r:=Qf hlr (Nat.sub_eq_zero_iff_le.mp (Nat.le_zero.mp hm));subst e;exact h l hrk hlo hhi
 |f+1,l,r,hlr,hrk,hm,hlo,hhi,h=>by
  show(if l≥r then KasT.ret l else KasT.ask (p.getD k 0) (p.getD ((l+r)/2) 0) fun c=>if c=true then kas_place p k f l ((l+r)/2)else kas_place p k f ((l+r)/2+1) r).kasWp cmp Q s;by_cases hge:l≥r
  ·rw[aL hge];have e:l=r:=Qf hlr hge;subst e;exact h l hrk hlo hhi
  ·rw[aJ hge];have hc:(l+r)/2<r:=half_lt (Nat.not_le.mp hge);have hd:l<=(l+r)/2:=Mz (Nat.not_le.mp hge);generalize (l+r)/2=c at hc hd⊢;refine ok _ _ _ (hp.lt hk) (hp.lt (JR (gR hc hrk) hk)) ?_;cases hless:O.blt (key (p.getD k 0)) (key (p.getD c 0))with
   |true=>
    refine place ok hp hk hs f l c hd (wR (gR hc hrk)) (Ob (gR (Nat.sub_lt_sub_right hd hc) hm)) hlo (fun i h1 h2=> ?_) h;by_cases hi:i=c
    ·subst hi;exact hless
    ·exact KeyOrd.klt_of_klt_of_kle hless (hs c i h1 h2)
   |false=>
    refine place ok hp hk hs f (c+1) r hc hrk (Ob (gR (Nat.sub_lt_sub_left (zG hd hc) (Nat.lt_succ_of_le hd)) hm)) (fun i h1=> ?_) hhi h;by_cases hi:i=c
    ·subst hi;exact hless
    ·exact W3 (hs i c (Ob h1) (gR hc hrk)) hless
theorem V8{p:Array Nat}{k l:Nat}(hs:So key p k)(hl:l<=k)(hsz:k<p.size)(hlo:∀i,i<l->O.kle (KN key p i) (KN key p k))(hhi:∀i,l<=i->i<k->O.klt (KN key p k) (KN key p i)):So key (bubble p k (k-l)) (k+1):=by
 intro i j hij hj;have e:k-(k-l)=l:=Nat.sub_sub_self hl;rw[JC hsz (WL _ _),JC hsz (WL _ _),e];have hjk:j<=k:=Ob hj;by_cases hi1:i=l
 ·rw[aL hi1];by_cases hj1:j=l
  ·rw[aL hj1];exact Kq _
  ·have lj:l<j:=Od (hi1▸hij) (uo hj1);rw[aJ hj1,aL ⟨lj,hjk⟩];exact U6 (hhi (j-1) (Ws lj) (Uy (zG (gG _) lj) hjk))
 ·rw[aJ hi1];by_cases hi2:l<i/\i<=k
  ·have lj:l<j:=gR hi2.1 hij;rw[aL hi2,aJ (uo (dX lj)),aL ⟨lj,hjk⟩];exact hs _ _ (Nat.sub_le_sub_right hij 1) (Uy (zG (gG _) lj) hjk)
  ·rw[aJ hi2];have il:i<l:=Od (Nat.not_lt.mp fun z=>hi2 ⟨z,cC hij hjk⟩) hi1;by_cases hj1:j=l
   ·rw[aL hj1];exact hlo i il
   ·rw[aJ hj1];by_cases hj2:l<j/\j<=k
    ·rw[aL hj2];exact hs _ _ (Ws (JR il hj2.1)) (Uy (zG (gG _) hj2.1) hjk)
    ·rw[aJ hj2];exact hs _ _ hij (gR (Od (Nat.not_lt.mp fun z=>hj2 ⟨z,hjk⟩) hj1) hl)
theorem bins(ok:iZ O key N cmp s){Q:Array Nat->η->Prop}:∀(f:Nat) (p:Array Nat) (k:Nat),Ord N p->1<=k->k+f=N->So key p k->(∀p',Ord N p'->So key p' N->Q p' s)->(kas_bin f p k).kasWp cmp Q s
 |0,p,k,hp,_,hf,hs,h=>h p hp ((show k=N from hf)▸hs)
 |f+1,p,k,hp,h1,hf,hs,h=>by
  show((kas_place p k k 0 k).bind fun l=>kas_bin f (bubble p k (k-l)) (k+1)).kasWp cmp Q s;rw[U5];have hk:k<N:=yh (zE hf);have hsz:k<p.size:=by rw[hp.size];exact hk
  refine place ok hp hk hs k 0 k (gG _) (bH _) (WL _ _) (fun i hi=>absurd hi (Nat.not_lt_zero _)) (fun i h1 h2=>absurd h2 (Nat.not_lt.mpr h1)) fun l hl hlo hhi=> ?_;exact bins ok f _ (k+1) (hp.bub _ _) (wQ _) ((Wz k f).trans hf) (V8 hs hl hsz hlo hhi) h
theorem sort(ok:iZ O key N cmp s){Q:Array Nat->η->Prop}(h1:1<=N)(h:∀p',Ord N p'->So key p' N->Q p' s):(kas_sort N).kasWp cmp Q s:=by
 unfold kas_sort;rw[U5];refine count ok ⟨Array.Perm.refl _⟩ h1 fun m p' hp hm1 hm2 hs=> ?_;dsimp only;by_cases hlt:m<N
 ·rw[aL hlt];have e:max m 1=m:=by omega
  rw[e];exact bins ok _ _ _ hp hm1 (by omega) hs h
 ·rw[aJ hlt];have e:m=N:=by omega
  subst e;exact h p' hp hs
end
end ql
namespace ql
open PySem PySem.W PyProof.Rows PySem.Calls
noncomputable def Ny{O:KeyOrd}(key:Nat->O.α)(vs out:List ζ):Prop:=∃p:Array Nat,Ord vs.length p/\So key p vs.length/\out=p.toList.map fun i=>vs.getD i Value.none
section
variable{prog:ξ}{w:τ}{A:υ}{E:L4}{s:η}{O:KeyOrd}{key:Nat->O.α}{κ:SortKind}{vs:List ζ}
theorem xK(h2:vs.length<2):Ny key vs vs:=by
 refine⟨List.toArray (List.range vs.length),⟨Array.Perm.refl _⟩,fun i j hij hj=> ?_,?_⟩
 ·have e:i=j:=by omega
  subst e;exact Kq _
 ·match vs,h2 with
  |[],_=>rfl
  |[v],_=>rfl
  |_::_::_,h=>simp at h;omega
theorem iT{a:Addr}{n:Nat}{P:PySem.Fin->η->Prop}(ho:s.heap.get? a=some (seqObj "list" vs.toArray n))(h64:vs.length<64)(hkind:2<=vs.length->∀h',(∀b o,b≠a->s.heap.get? b=some o->h'.get? b=some o)->∀Q:SortKind->η->Prop,Q κ {s with heap:=h'}->wpAny (model prog w) A (keyKind' vs.toArray) Q E {s with heap:=h'})(RK:2<=vs.length->∀h',(∀b o,b≠a->s.heap.get? b=some o->h'.get? b=some o)->iZ O key vs.length (kas_ask prog w A κ vs) {s with heap:=h'})(h:∀h' out c,Ny key vs out->(∀b o,b≠a->s.heap.get? b=some o->h'.get? b=some o)->h'.get? a=some (seqObj "list" (List.toArray out) c)->P (.done (.ret .none)) {s with heap:=h'}):
  wpAny (model prog w) A (Builtin.«list.sort» ⟨[.ref a],[]⟩) P E s:=by
 have ha:a<s.heap.objs.size:=cO ho;have s1:=Ey s.heap a (Obj.mapSeq fun _=>(#[]:Array ζ));obtain⟨e1,ho1⟩:∃e1,(s.heap.update a (Obj.mapSeq fun _=>(#[]:Array ζ))).get? a=some (seqObj "list" #[] e1):=⟨_,Ol ho fun _=>#[]⟩;have keep:∀b o,b≠a->s.heap.get? b=some o->(((s.heap.update a (Obj.mapSeq fun _=>(#[]:Array ζ))).push (seqObj "tuple" vs.toArray 0)).push (seqObj "list" #[] 0)).get? b=some o:=fun b o hb e=>
  fG _ (fG _ ((s1.2 b hb).trans e))
 have ho6:(((s.heap.update a (Obj.mapSeq fun _=>(#[]:Array ζ))).push (seqObj "tuple" vs.toArray 0)).push (seqObj "list" #[] 0)).get? a=some (seqObj "list" #[] e1):=fG _ (fG _ ho1);rw[list_sort_plain];refine aq (listItems_at ho rfl ?_);refine aq (listUpdate_at ho rfl ?_ (by rw[eG,cY];omega) (gG _));refine aq (seqEpoch_at ho1 rfl ?_);refine aq (wpAny_newTuple ?_ (by show vs.length<=_;rw[cY];omega));refine aq (TQ ?_ (gG _));refine rZ ?_;show wpAny (model prog w) A _ P E {s with heap:=((s.heap.update a (Obj.mapSeq fun _=>(#[]:Array ζ))).push (seqObj "tuple" vs.toArray 0)).push (seqObj "list" #[] 0)};dsimp only;by_cases h2:vs.toArray.size<2
 ·have h2':vs.length<2:=by simpa using h2
  rw[aL h2,aL h2];refine aq (aV ?_);rw[StateT.run_pure];refine aq (aV ?_);dsimp only;refine aq (seqEpoch_at ho6 rfl ?_);refine aq (listUpdate_at ho6 rfl ?_ (gG _) (by rw[Array.size_map];show(pairsOf vs).size<=_;rw[pairsOf_size,cY];omega));simp only[bne_self_eq_false,Oo,Eu];refine aV ?_;have eo:(vs.toArray.zip vs.toArray).map (·.2)=List.toArray vs:=by
   apply Array.toList_inj.mp;simp[List.map_snd_zip]
  have s2:=Ey (((s.heap.update a (Obj.mapSeq fun _=>(#[]:Array ζ))).push (seqObj "tuple" vs.toArray 0)).push (seqObj "list" #[] 0)) a (Obj.mapSeq fun _=>List.toArray vs);obtain⟨c2,hc2⟩:∃c2,((((s.heap.update a (Obj.mapSeq fun _=>(#[]:Array ζ))).push (seqObj "tuple" vs.toArray 0)).push (seqObj "list" #[] 0)).update a (Obj.mapSeq fun _=>List.toArray vs)).get? a=some (seqObj "list" (List.toArray vs) c2):=⟨_,Ol ho6 fun _=>List.toArray vs⟩;have fin:=h _ vs c2 (xK h2') (fun b o hb e=>(s2.2 b hb).trans (keep b o hb e)) hc2
  first
   |exact fin
   |(rw[<-eo]at fin;exact fin)
   |(show P _ {s with heap:=Heap.update _ a (Obj.mapSeq fun _=>(vs.toArray.zip vs.toArray).map (·.2))};rw[eo];exact fin)
 ·have h2':2<=vs.length:=by rw[eG]at h2;omega
  rw[aJ h2,aJ h2];refine aq (hkind h2' _ keep _ ?_);refine aq (uz (kat_run (Q:=fun st' s'=>s'={s with heap:=((s.heap.update a (Obj.mapSeq fun _=>(#[]:Array ζ))).push (seqObj "tuple" vs.toArray 0)).push (seqObj "list" #[] 0)}/\∃p:Array Nat,p.size=vs.length/\arrOf st'=p.map (kas_item (vs.toArray.zip vs.toArray))/\failedOf st'=none/\Ord vs.length p/\So key p vs.length)
   (G:=fun p s'=>s'={s with heap:=((s.heap.update a (Obj.mapSeq fun _=>(#[]:Array ζ))).push (seqObj "tuple" vs.toArray 0)).push (seqObj "list" #[] 0)}/\Ord vs.length p/\So key p vs.length)
   rfl h2' h64 (fun p' st' s' a1 a2 a3 a4=>⟨a4.1,p',a1,a2,a3,a4.2.1,a4.2.2⟩) (sort (RK h2' _ keep) (by omega) fun p' hp hs=>⟨rfl,hp,hs⟩)) ?_ fun _ _ e=>e)
  rintro⟨⟨⟩,st'⟩ s' ⟨rfl,p,hp,har,hf,hor,hso⟩;dsimp only;have hout:=kat_snds rfl har;have hsz:(List.toArray (p.toList.map fun i=>vs.getD i Value.none)).size=vs.length:=by rw[eG,aM,Og,hp]
  rw[hout];refine aq (seqEpoch_at ho6 rfl ?_);refine aq (listUpdate_at ho6 rfl ?_ (gG _) (cC (zE hsz) (by rw[cY];omega)));rw[hf];simp only[bne_self_eq_false,Oo,Eu];have s2:=Ey (((s.heap.update a (Obj.mapSeq fun _=>(#[]:Array ζ))).push (seqObj "tuple" vs.toArray 0)).push (seqObj "list" #[] 0)) a (Obj.mapSeq fun _=>List.toArray (p.toList.map fun i=>vs.getD i Value.none));obtain⟨c2,hc2⟩:∃c2,((((s.heap.update a (Obj.mapSeq fun _=>(#[]:Array ζ))).push (seqObj "tuple" vs.toArray 0)).push (seqObj "list" #[] 0)).update a (Obj.mapSeq fun _=>List.toArray (p.toList.map fun i=>vs.getD i Value.none))).get? a=some (seqObj "list" (List.toArray (p.toList.map fun i=>vs.getD i Value.none)) c2):=⟨_,Ol ho6 fun _=>_⟩;exact aV (h _ _ c2 ⟨p,hor,hso,rfl⟩ (fun b o hb e=>(s2.2 b hb).trans (keep b o hb e)) hc2)
theorem oX{l:Addr}{Q:L4}(hl:s.heap.IsList l vs.toArray)(h64:vs.length<64)(hkind:2<=vs.length->∀h',(∀b o,s.heap.get? b=some o->h'.get? b=some o)->∀(E:L4) (Q:SortKind->η->Prop),Q κ {s with heap:=h'}->wpAny (model prog w) A.in1.in1 (keyKind' vs.toArray) Q E {s with heap:=h'})(RK:2<=vs.length->∀h',(∀b o,s.heap.get? b=some o->h'.get? b=some o)->iZ O key vs.length (kas_ask prog w A.in1.in1 κ vs) {s with heap:=h'})(h:∀D h' out c,Ny key vs out->s.heap.objs.size<=D->(∀b o,s.heap.get? b=some o->h'.get? b=some o)->h'.get? D=some (seqObj "list" (List.toArray out) c)->Q (.ref D) {s with heap:=h'}):
  wpAny (model prog w) A (call (.builtin "sorted") [.ref l]) Q E s:=by
 refine Calls.call_function_entry kind_sorted plain_sorted entry_sorted (args_sorted1 _) ?_;unfold Builtin.«sorted»;refine aq (m:=checkCount "sorted" 1 1 _) (aV ?_);refine aq (collect_list hl ?_ (by rw[cY];omega));refine aq (TQ ?_ (by rw[cY];omega));have hsz:((s.heap.push (seqObj "list" #[] 0)).update s.heap.objs.size (Obj.mapSeq (· ++vs.toArray))).objs.size=s.heap.objs.size+1:=by
  rw[Heap.size_update,size_push']
 have hoL:(((s.heap.push (seqObj "list" #[] 0)).update s.heap.objs.size (Obj.mapSeq (· ++vs.toArray))).push (seqObj "list" vs.toArray 0)).get? (s.heap.objs.size+1)=some (seqObj "list" vs.toArray 0):=by
  rw[<-hsz];exact mW _ rfl
 have keep:∀b o,s.heap.get? b=some o->(((s.heap.push (seqObj "list" #[] 0)).update s.heap.objs.size (Obj.mapSeq (· ++vs.toArray))).push (seqObj "list" vs.toArray 0)).get? b=some o:=fun b o q=>by
  have hlt:b<s.heap.objs.size:=cO q;rw[Heap.get?_push_ne _ _ _ (by rw[hsz];exact dX (Oa hlt)),Heap.get?_update_ne _ _ _ _ (dX hlt),Heap.get?_push_ne _ _ _ (dX hlt)];exact q
 have ne:∀b o,s.heap.get? b=some o->b≠s.heap.objs.size+1:=fun b o q=>dX (Oa (cO q));show wpAny _ _ _ _ _ {s with heap:=((s.heap.push (seqObj "list" #[] 0)).update s.heap.objs.size (Obj.mapSeq (· ++vs.toArray))).push (seqObj "list" vs.toArray 0)};rw[hsz];refine aq (rZ (Om slot_list_sort ⟨_,hoL,rfl⟩ entry_list_sort ?body (args_list_sort _)))
 case body=>
  refine iT (key:=key) (κ:=κ) (s:={s with heap:=((s.heap.push (seqObj "list" #[] 0)).update s.heap.objs.size (Obj.mapSeq (· ++vs.toArray))).push (seqObj "list" vs.toArray 0)}) hoL h64
   (fun h2 h' k Q hq=>hkind h2 h' (fun b o q=>k b o (ne b o q) (keep b o q)) _ Q hq) (fun h2 h' k=>RK h2 h' fun b o q=>k b o (ne b o q) (keep b o q)) fun h' out c ho k hc=> ?_
  exact⟨_,rfl,aV ⟨_,rfl,h _ h' out c ho (TJ _) (fun b o q=>k b o (ne b o q) (keep b o q)) hc⟩⟩
end
end ql
namespace HT
open PySem PyProof.Rows
theorem aW:∀(a b:List Int),lexLt a b=decide (a<b)
 |[],[]=>by simp[lexLt]
 |[],_::_=>by simp[lexLt]
 |_::_,[]=>by simp[lexLt]
 |x::xs,y::ys=>by
  rw[lexLt_cons,aW xs ys];by_cases e:x=y
  ·subst e;simp
  ·rw[aJ e];by_cases l:x<y
   ·simp[l,Wu]
   ·have:¬(x::xs<y::ys):=by rw[Wu];simp[l,e]
    simp[l,this]
end HT
namespace ql
open PySem PySem.W PyProof.Rows PySem.Calls
noncomputable def lexOrd:KeyOrd where
 α:=List Int
 blt a b:=decide (a<b)
 irrefl a:=by simpa using Ut a
 trans a b c h1 h2:=by simp only[wZ]at *;exact Yg h1 h2
 negTrans a b c h:=by
  simp only[wZ]at *;by_cases hab:a<b
  ·exact .inl hab
  ·exact .inr (List.lt_of_le_of_lt (JN.mp hab) h)
 total a b h1 h2:=by simp only[YW]at *;exact Yn (JN.mp h2) (JN.mp h1)
section
variable{prog:ξ}{w:τ}{A:υ}{s:η}{Q:Bool->η->Prop}
theorem pQ{na nb:Nat}{xs ys:List ζ}{ns ms:List Int}(i:Nat)(hx:IntsAre xs ns)(hy:IntsAre ys ms)(hl:ns.length+nb=ms.length+na)(h:Q (HT.lexLt ns ms) s):KatLex prog w A true (decide (na<nb)) Q (xs.zip ys) i s:=by
 induction hx generalizing ys ms i with
 |nil=>
  rw[List.zip_nil_left];refine kat_nil ?_;cases hy with
  |nil=>
   rw[HT.lexLt_nil_nil]at h;rw[cI (by simp only[Ep]at hl;omega)];exact h
  |cons c u hw=>
   rw[HT.lexLt_nil_cons]at h;rw[dF (by simp only[Ep,lO]at hl;omega)];exact h
 |cons a t hv ih=>
  cases hy with
  |nil=>
   rw[List.zip_nil_right];refine kat_nil ?_;rw[HT.lexLt_cons_nil]at h;rw[cI (by simp only[Ep,lO]at hl;omega)];exact h
  |cons c u hw=>
   rw[Yz];rw[HT.lexLt_cons]at h;refine kat_cons (wpAny_eqBool_int ?_);refine kat_go (fun e=> ?_) fun e=> ?_
   ·have e':a=c:=by simpa using e
    rw[aL e']at h;exact kat_yes (ih (i+1) hw (by simp only[lO]at hl;omega) h)
   ·have e':a≠c:=by simpa using e
    rw[aJ e']at h;refine kat_no ?_;cases i with
    |zero=>exact oneLt_int h
    |succ i=>exact kat_one _ _ (lt_int (show PySem.W.BoolBack Q (.bool (decide (a<c))) s from h))
end
theorem sJ{O:KeyOrd}{key:Nat->O.α}{α:Type}{vs out:List ζ}{its:List α}{d:α}{f:α->O.α}{R:α->ζ->Prop}(hR:Paired R its vs)(hk:∀i (hi:i<its.length),key i=f its[i])(h:Ny key vs out):
  ∃its':List α,its'.Perm its/\Paired R its' out/\its'.Pairwise fun x y=>O.kle (f x) (f y):=by
 obtain⟨p,hp,hs,rfl⟩:=h;have hl:=hR.length;have get:∀{l₁:List α} {l₂:List ζ} {i:Nat},Paired R l₁ l₂->(h:i<l₁.length)->∃v,l₂[i]? =some v/\R l₁[i] v:=by
  intro l₁ l₂ i q
  induction q generalizing i with
  |nil=>intro h;simp at h
  |cons r t ih=>
   intro h;cases i with
   |zero=>exact⟨_,rfl,r⟩
   |succ i=>
    obtain⟨v,e,rv⟩:=ih (i:=i) (by simpa using h);exact⟨v,by simpa using e,by simpa using rv⟩
 have hlt:∀i∈p.toList,i<its.length:=fun i hi=>by
  have:=(X6.mp hp.perm).mem_iff.mp hi;rw[hl];simpa using this
 refine⟨p.toList.map fun i=>its.getD i d,?_,?_,?_⟩
 ·have q:=(X6.mp hp.perm).map (fun i=>its.getD i d);refine q.trans ?_;have e:(List.toArray (List.range vs.length)).toList.map (fun i=>its.getD i d)=its:=by
   rw[<-hl];apply Yu;intro i;simp only[dD];by_cases hi:i<its.length
   ·simp[hi]
   ·simp[hi]
  rw[e]
 ·have mk:∀l:List Nat,(∀i∈l,i<its.length)->Paired R (l.map fun i=>its.getD i d) (l.map fun i=>vs.getD i Value.none):=by
   intro l
   induction l with
   |nil=>intro _;exact .nil
   |cons i l ih=>
    intro hb;refine .cons ?_ (ih fun j hj=>hb j (cP _ hj));have hi:=hb i cH;obtain⟨v,e,r⟩:=get hR hi;have e1:its.getD i d=its[i]:=by simp[hi]
    have e2:vs.getD i Value.none=v:=by rw[qG,e];rfl
    show R (its.getD i d) (vs.getD i Value.none);rw[e1,e2];exact r
  exact mk _ hlt
 ·rw[Qk];intro i j hi hj hij;simp only[aM,Og]at hi hj;simp only[List.getElem_map];have hsz:=hp.size;have q:=hs i j (by omega) (by omega);have e:∀k (hk':k<p.size),KN key p k=f (its.getD p.toList[k] d):=fun k hk'=>by
   have e1:p.getD k 0=p.toList[k]:=by simp[Array.getD,hk']
   have hb:=hlt p.toList[k] (Bm _);have e2:its.getD p.toList[k] d=its[p.toList[k]]:=by simp only[qG,jc hb,Option.getD_some]
   unfold KN;rw[e1,e2];exact hk _ hb
  rw[e i hi,e j hj]at q;exact q
end ql
namespace L2
open PySem PySem.Spec PyProof.Rows PySem.W
section
variable{X:Cx}
theorem tM:CallR X (.builtin "sorted") (fun xs H Q=>∃(a:Addr) (its:List (Addr×List Int)),xs=[.ref a]/\SqL X.K H a (its.map fun p=>V.ref p.1)/\(∀p∈its,SqT X.K H p.1 (p.2.map V.int)/\p.2≠[])/\its.length<64/\
  ∀(l:Addr) (its':List (Addr×List Int)),H l=none->its'.Perm its->its'.Pairwise (fun p q=>HT.lexLt q.2 p.2=false)->Q (.ref l) (upd H l (.lst (its'.map fun p=>V.ref p.1)))):=by
 intro pins s σ H xs us Q I r h;obtain⟨a,its,rfl,hS,hT,h64,q⟩:=h;obtain⟨u,rfl,ru⟩:=r.one;cases ru;obtain⟨vs,rv,pl,hz⟩:=I.list hS;have hlen:its.length=vs.length:=by have:=rv.length;simpa using this
 -- the values beside the tuples
 have pr:Paired (fun(p:Addr×List Int) (v:ζ)=>v= .ref p.1) its vs:=by
  have go:∀(l:List (Addr×List Int)) (us:List ζ),Vals (l.map fun p=>V.ref p.1) us->Paired (fun(p:Addr×List Int) (v:ζ)=>v= .ref p.1) l us:=by
   intro l
   induction l with
   |nil=>intro us h;cases h;exact .nil
   |cons p l ih=>
    intro us h;cases h with
    |cons r t=>exact .cons r (ih _ t)
  exact go its vs rv
 have tup:∀p∈its,∃(items:List ζ),IntsAre items p.2/\IsTup s.heap p.1 items.toArray:=fun p hp=>by
  obtain⟨its',r',t',_⟩:=I.tuple (hT p hp).1;exact⟨its',Uj r',t'⟩
 refine ql.oX (O:=ql.lexOrd) (key:=fun i=>(its.getD i (0,[])).2) (κ:=tuples' true) (s:=s) pl.isList (by omega) (fun h2 h' k E' Q' hq=> ?_) (fun h2 h' k=> ?_) (fun D h' out c ho hD k hc=> ?_)
 ·have kt:∀(l:List (Addr×List Int)) (us:List ζ),Paired (fun(p:Addr×List Int) (v:ζ)=>v= .ref p.1) l us->(∀p∈l,p∈its)->∃fs:List ζ,KatTups h' us fs/\fs.length=us.length/\∀v∈fs,∃i t,v=Value.int i t:=by
   intro l us h
   induction h with
   |nil=>intro _;exact⟨[],trivial,rfl,fun _ hv=>nomatch hv⟩
   | @cons p v l us r t ih=>
    intro hs;obtain⟨fs,k1,k2,k3⟩:=ih fun p hp=>hs p (cP _ hp);obtain⟨items,hi,o,e,hc,n,hd⟩:=tup p (hs p cH);have hne:=(hT p (hs p cH)).2;obtain⟨pa,pn⟩:=p;dsimp only at hi hne e r;cases hi with
    |nil=>exact absurd rfl hne
    |cons i t hi'=>
     rw[r];refine⟨Value.int i t::fs,KatTups.cons (k _ _ e) hc hd (by simp) k1,by simp[k2],fun v hv=> ?_⟩;rcases cD.mp hv with e|e
     ·exact⟨i,t,e⟩
     ·exact k3 v e
  obtain⟨fs,k1,k2,k3⟩:=kt its vs pr fun _ hp=>hp;refine kat_kind (s:={s with heap:=h'}) (T:= .type "int") k1 (by omega) (fun v hv=> ?_) (by rfl) hq;obtain⟨i,t,rfl⟩:=k3 v hv;exact fun A Q E s _ q=>aV q
 ·intro i j C hi hj hC;rw[<-hlen]at hi hj;have get:∀i (hi:i<its.length),vs.getD i Value.none= .ref its[i].1:=by
   have go:∀(l:List (Addr×List Int)) (us:List ζ),Paired (fun(p:Addr×List Int) (v:ζ)=>v= .ref p.1) l us->∀i (hi:i<l.length),us.getD i Value.none= .ref l[i].1:=by
    intro l us h
    induction h with
    |nil=>intro i hi;simp at hi
    |cons r t ih=>
     intro i hi;cases i with
     |zero=>exact r
     |succ i=>simpa using ih i (by simpa using hi)
   exact go its vs pr
  unfold kas_ask;rw[get i hi,get j hj];obtain⟨xi,hxi,oi,ei,ci,ni,di⟩:=tup its[i] (Bm _);obtain⟨xj,Kc,oj,ej,cj,nj,dj⟩:=tup its[j] (Bm _);refine kat_lt (s:={s with heap:=h'}) (k _ _ ei) di (k _ _ ej) dj ?_;refine ql.pQ 0 hxi Kc ?_ ?_
  ·have:=hxi.length;have:=Kc.length;simp only[eG];omega
  ·rw[HT.aW];have e1:its.getD i (0,[])=its[i]:=by simp[hi]
   have e2:its.getD j (0,[])=its[j]:=by simp[hj]
   have hC':C (decide ((its.getD i (0,[])).2<(its.getD j (0,[])).2)) {s with heap:=h'}:=hC;rw[e1,e2]at hC';exact hC'
 ·obtain⟨its',hp,hr,hw⟩:=ql.sJ (d:=((0,[]):Addr×List Int)) (f:=fun p=>p.2) pr (fun i hi=>by show(its.getD i (0,[])).2=_;simp[hi]) ho;have hn:H D=none:=I.hok.fresh hD;have rv':Vals (its'.map fun p=>V.ref p.1) out:=by
   have go:∀(l:List (Addr×List Int)) (us:List ζ),Paired (fun(p:Addr×List Int) (v:ζ)=>v= .ref p.1) l us->Vals (l.map fun p=>V.ref p.1) us:=by
    intro l us h
    induction h with
    |nil=>exact .nil
    |cons r t ih=>exact .cons r ih
   exact go its' out hr
  have zl:(its'.map fun p=>V.ref p.1).length<=sizeLine:=by
   have:=hp.length_eq;rw[aM];exact wR (small1000 (by omega))
  have J:Inv X pins σ (upd H D (.lst (its'.map fun p=>V.ref p.1))) {s with heap:=h',toks:=s.toks}:=I.laid k hD ⟨zl,out,c,rv',hc⟩;refine⟨.ref D,_,J,rfl,q D its' hn hp (hw.imp fun{x y} hxy=> ?_)⟩;rw[HT.aW];exact hxy
end
end L2
namespace L2
open PySem PySem.Spec PyProof.Rows
section
variable{X:Cx}
theorem wk:∀{bs:List Bool} {us:List ζ},Vals (bs.map V.bl) us->us=bs.map Value.bool
 |[],_,h=>by cases h;rfl
 |b::bs,_,h=>by
  cases h with
  |cons r t=>rw[jB,wk t];exact iy (· ::_) r
theorem NQ(hc:X.calm=true):CallR X (.builtin "all") (fun xs H Q=>∃(a:Addr) (bs:List Bool),xs=[.ref a]/\SqL X.K H a (bs.map V.bl)/\Q (.bl (bs.all id)) H):=by
 intro pins s σ H xs us Q I r h;obtain⟨a,bs,rfl,hS,q⟩:=h;obtain⟨u,rfl,ru⟩:=r.one;cases ru;obtain⟨vs,rv,pl,hz⟩:=I.list hS;have hv:=wk rv;have hl:=pl.isList;have hlt:a<s.heap.objs.size:=by obtain⟨_,e,_⟩:=hl;exact cO e
 refine call_all_walk (wed hl ?_);refine⟨s.heap.objs.size,[s.heap.objs.size,a],[s.heap.objs.size],vs.toArray.size,_,_,fun i=>(bs[i]?).getD true,rfl,Walks.list (A:=X.A.in1) (I.ok.hd hc) _ a (dX hlt) vs.toArray,
  ⟨⟨_,mW _ rfl,rfl,rfl⟩,hl.push _⟩,fun i v s' Q' E' hP hQ=> ?_,fun h' tk hk=> ?_⟩
 ·have hP':vs[i]? =some v:=by simpa using hP
  rw[hv,dD]at hP';cases e:bs[i]? with
  |none=>rw[e]at hP';cases hP'
  |some b=>
   rw[e]at hP';cases hP';simp only[e,Option.getD_some]at hQ;exact JX hQ
 ·have e:((List.range vs.toArray.size).all fun i=>(bs[i]?).getD true)=bs.all id:=by
   rw[eG,hv,aM];exact LSm.range_all bs
  rw[e];exact⟨.bl _,H,I.kept (LSm.kept_iter hk),rfl,q⟩
noncomputable def PL(K:W.Frag)(H:Hp):V->String->Prop
 | .non,T=>T="NoneType"
 | .bl _,T=>T="bool"
 | .int _,T=>T="int"
 | .str _,T=>T="str"
 | .ref a,T=>(T="tuple"/\∃xs,SqT K H a xs)\/(T="list"/\∃xs,SqL K H a xs)\/(T="dict"/\∃kvs,H a=some (.dK kvs))
 |_,_=>False
noncomputable def yG(T C:String):Bool:=T==C||(T=="bool"&&C=="int")
theorem fu:CallR X (.builtin "isinstance") (fun xs H Q=>∃(x:V) (T C:String),xs=[x,.ty C]/\PL X.K H x T/\(C="int"\/C="bool"\/C="tuple"\/C="list")/\Q (.bl (yG T C)) H):=by
 intro pins s σ H xs us Q I r h;obtain⟨x,T,C,rfl,hk,hC,q⟩:=h;obtain⟨u,v,rfl,ru,rv⟩:=r.two;cases rv;have Jh:∀b,b=yG T C->EP X pins σ Q (.bool b) s:=fun b e=>⟨.bl b,H,I,rfl,by rw[e];exact q⟩;have dh:∀b,b=yG T C->EP X pins σ Q (.bool b) {s with toks:=s.toks+1}:=fun b e=>⟨.bl b,H,I.tok _,rfl,by rw[e];exact q⟩;cases x with
 |non=>
  cases ru;cases hk;rcases hC with rfl|rfl|rfl|rfl
  ·exact IsiPair.NoneType_int (dh _ rfl)
  ·exact IsiPair.NoneType_bool (dh _ rfl)
  ·exact IsiPair.NoneType_tuple (dh _ rfl)
  ·exact IsiPair.NoneType_list (dh _ rfl)
 |bl b=>
  cases ru;cases hk;rcases hC with rfl|rfl|rfl|rfl
  ·exact IsiPair.bool_int (Jh _ rfl)
  ·exact IsiPair.bool_bool (Jh _ rfl)
  ·exact IsiPair.bool_tuple (dh _ rfl)
  ·exact IsiPair.bool_list (dh _ rfl)
 |int i=>
  obtain⟨t,rfl⟩:=ru;cases hk;rcases hC with rfl|rfl|rfl|rfl
  ·exact IsiPair.int_int (Jh _ rfl)
  ·exact IsiPair.int_bool (dh _ rfl)
  ·exact IsiPair.int_tuple (dh _ rfl)
  ·exact IsiPair.int_list (dh _ rfl)
 |str z=>
  obtain⟨t,rfl⟩:=ru;cases hk;rcases hC with rfl|rfl|rfl|rfl
  ·exact IsiPair.str_int (dh _ rfl)
  ·exact IsiPair.str_bool (dh _ rfl)
  ·exact IsiPair.str_tuple (dh _ rfl)
  ·exact IsiPair.str_list (dh _ rfl)
 |ref a=>
  cases ru;rcases hk with⟨rfl,xs,hS⟩|⟨rfl,xs,hS⟩|⟨rfl,kvs,hS⟩
  ·obtain⟨its,_,⟨o,e,c,n,d⟩,_⟩:=I.tuple hS;rcases hC with rfl|rfl|rfl|rfl
   ·exact IsiPair.tuple_int e c (dh _ rfl)
   ·exact IsiPair.tuple_bool e c (dh _ rfl)
   ·exact IsiPair.tuple_tuple e c (Jh _ rfl)
   ·exact IsiPair.tuple_list e c (dh _ rfl)
  ·obtain⟨its,_,⟨o,n,e,c,d,_⟩,_⟩:=I.list hS;rcases hC with rfl|rfl|rfl|rfl
   ·exact IsiPair.list_int e c (dh _ rfl)
   ·exact IsiPair.list_bool e c (dh _ rfl)
   ·exact IsiPair.list_tuple e c (dh _ rfl)
   ·exact IsiPair.list_list e c (Jh _ rfl)
  ·obtain⟨_,_,vs,_,o,es,ep,e,c,_⟩:=I.hok a _ hS;have c':o.cls= .type "dict":=c.1;rcases hC with rfl|rfl|rfl|rfl
   ·exact IsiPair.dict_int e c' (dh _ rfl)
   ·exact IsiPair.dict_bool e c' (dh _ rfl)
   ·exact IsiPair.dict_tuple e c' (dh _ rfl)
   ·exact IsiPair.dict_list e c' (dh _ rfl)
 |_=>exact hk.elim
end
mutual
inductive DV(K:W.Frag)(H:Hp):V->θ->Prop
 |non:DV K H .non .none
 |bl (b:Bool):DV K H (.bl b) (.bool b)
 |int (i:Int):DV K H (.int i) (.int i)
 |str (x:Str):DV K H (.str x) (.str x)
 |tup {a:Addr} {xs:List V} {ds:List θ} (h:SqT K H a xs) (t:bB K H xs ds):DV K H (.ref a) (.tuple ds)
 |lst {a:Addr} {xs:List V} {ds:List θ} (h:SqL K H a xs) (t:bB K H xs ds):DV K H (.ref a) (.list ds)
 |V5 {a:Addr} (h:H a=some (.dK [])):DV K H (.ref a) (.dict [])
 |dc1 {a b:Addr} {i:Int} (h:H a=some (.dK [(Sum.inl i,.ref b)])) (t:SqT K H b []):DV K H (.ref a) (.dict [(.int i,.tuple [])])
inductive bB(K:W.Frag)(H:Hp):List V->List θ->Prop
 |nil:bB K H [] []
 |cons {x:V} {d:θ} {xs:List V} {ds:List θ} (h:DV K H x d) (t:bB K H xs ds):bB K H (x::xs) (d::ds)
end
theorem Same.tup{K:W.Frag}{H H':Hp}{a:Addr}{xs:List V}(e:Same H H')(h:SqT K H a xs):SqT K H' a xs:=by
 rcases h with(h|⟨o,h⟩)|h
 ·exact .inl (.inl (e _ _ h))
 ·exact .inl (.inr ⟨o,e _ _ h⟩)
 ·exact .inr h
theorem DV.same{K:W.Frag}{H H':Hp}(e:Same H H'){x:V}{d:θ}(h:DV K H x d):DV K H' x d:=
 DV.rec (motive_1:=fun x d _=>DV K H' x d) (motive_2:=fun xs ds _=>bB K H' xs ds) .non (fun b=> .bl b) (fun i=> .int i) (fun x=> .str x) (fun h _ t=> .tup (e.tup h) t) (fun h _ t=> .lst (e.seq h) t) (fun h=> .V5 (e _ _ h)) (fun h t=> .dc1 (e _ _ h) (e.tup t)) .nil (fun _ _ h t=> .cons h t) h
theorem bB.same{K:W.Frag}{H H':Hp}(e:Same H H'){xs:List V}{ds:List θ}(h:bB K H xs ds):bB K H' xs ds:=
 bB.rec (motive_1:=fun x d _=>DV K H' x d) (motive_2:=fun xs ds _=>bB K H' xs ds) .non (fun b=> .bl b) (fun i=> .int i) (fun x=> .str x) (fun h _ t=> .tup (e.tup h) t) (fun h _ t=> .lst (e.seq h) t) (fun h=> .V5 (e _ _ h)) (fun h t=> .dc1 (e _ _ h) (e.tup t)) .nil (fun _ _ h t=> .cons h t) h
theorem BX{P:ξ}{w:τ}{es:List DictEntry}(h:Pairs (mixKind P w) es []):es=[]:=by
 cases h;rfl
theorem BW{P:ξ}{w:τ}{es:List DictEntry}{k:Key}{u:ζ}(h:Pairs (mixKind P w) es [(k,u)]):∃e,es=[e]/\keyIs k e.key=true/\e.val=u:=by
 cases h with
 |cons h1 h2 h3=>
  cases h3;exact⟨_,rfl,h1,h2⟩
section
variable{X:Cx}{pins:L1}{σ:St}{H:Hp}{s:η}
theorem Dl(I:Inv X pins σ H s){a:Addr}(h:H a=some (.dK [])):Reads s.heap (.ref a) (.dict []) (a::[]++[])/\(a==sysModules)=false:=by
 obtain⟨_,hne,vs,r0,o,es,ep,e,c,d,_,pr,_⟩:=I.hok _ _ h;cases r0;have hes:es.toList=[]:=BX pr;refine⟨.dict (kvs:=[]) (as:=[]) (bs:=[]) e c.1 d ?_ ?_,hne⟩
 ·rw[hes];exact .nil
 ·rw[hes];exact .nil
theorem Dk(I:Inv X pins σ H s){a b:Addr}{i:Int}(h:H a=some (.dK [(Sum.inl i,.ref b)]))(t:SqT X.K H b []):Reads s.heap (.ref a) (.dict [(.int i,.tuple [])]) (a::([]++[])++([]++[]))/\(a==sysModules)=false:=by
 obtain⟨_,hne,vs,r0,o,es,ep,e,c,d,_,pr,_⟩:=I.hok _ _ h;obtain⟨its,rv,⟨o2,e2,c2,n2,d2⟩,_⟩:=I.tuple t;cases rv;cases r0 with
 | @cons p q ps qs hq tl=>
  cases tl;obtain⟨en,he,hk,hv⟩:=BW pr;obtain⟨k,u⟩:=q;dsimp only at hq;obtain⟨hk1,hu1⟩:=hq;subst hk1;cases hu1;obtain⟨tk,ek⟩:∃tk,en.key=Value.int i tk:=by
   rcases JL hk with⟨i',t',e3,e4⟩|⟨x,t',e3,e4⟩
   ·cases e3;exact⟨t',e4⟩
   ·cases e3
  refine⟨.dict (kvs:=[(.int i,.tuple [])]) (as:=[]++[]) (bs:=[]++[]) e c.1 d ?_ ?_,hne⟩
  ·rw[he];show ReadsAll s.heap [en.key] [PyData.int i] _;rw[ek];exact .cons (.int i tk) .nil
  ·rw[he];show ReadsAll s.heap [en.val] [PyData.tuple []] _;rw[hv];exact .cons (.tuple e2 c2 d2 .nil) .nil
theorem BJ(I:Inv X pins σ H s){a:Addr}{xs:List V}{ds:List θ}(h:SqT X.K H a xs)(t:∀{us:List ζ},Vals xs us->∃as,ReadsAll s.heap us ds as){u:ζ}(r:RelV (.ref a) u):∃as,Reads s.heap u (.tuple ds) as:=by
 cases r;obtain⟨its,rv,⟨o,e,c,n,d⟩,_⟩:=I.tuple h;obtain⟨as,ra⟩:=t rv;exact⟨_,.tuple e c d (by simpa using ra)⟩
theorem BK(I:Inv X pins σ H s){a:Addr}{xs:List V}{ds:List θ}(h:SqL X.K H a xs)(t:∀{us:List ζ},Vals xs us->∃as,ReadsAll s.heap us ds as){u:ζ}(r:RelV (.ref a) u):∃as,Reads s.heap u (.list ds) as:=by
 cases r;obtain⟨its,rv,⟨o,n,e,c,_,d⟩,_⟩:=I.list h;obtain⟨as,ra⟩:=t rv;exact⟨_,.list e c d (by simpa using ra)⟩
theorem DV.reads(I:Inv X pins σ H s){x:V}{d:θ}{u:ζ}(h:DV X.K H x d)(r:RelV x u):∃as,Reads s.heap u d as:=
 DV.rec (motive_1:=fun x d _=>∀{u:ζ},RelV x u->∃as,Reads s.heap u d as) (motive_2:=fun xs ds _=>∀{us:List ζ},Vals xs us->∃as,ReadsAll s.heap us ds as)
  (fun r=>by cases r;exact⟨_,.none⟩) (fun b _ r=>by cases r;exact⟨_,.bool b⟩) (fun i _ r=>by obtain⟨t,rfl⟩:=r;exact⟨_,.int i t⟩) (fun x _ r=>by obtain⟨t,rfl⟩:=r;exact⟨_,.str x t⟩)
  (fun h _ t _ r=>BJ I h t r) (fun h _ t _ r=>BK I h t r) (fun h _ r=>by cases r;exact⟨_,(Dl I h).1⟩) (fun h t _ r=>by cases r;exact⟨_,(Dk I h t).1⟩)
  (fun r=>by cases r;exact⟨_,.nil⟩) (fun _ _ h t _ r=>by
   cases r with
   |cons r rr=>
    obtain⟨as,ra⟩:=h r;obtain⟨bs,rb⟩:=t rr;exact⟨_,.cons ra rb⟩) h r
theorem bB.reads(I:Inv X pins σ H s){xs:List V}{ds:List θ}{us:List ζ}(h:bB X.K H xs ds)(r:Vals xs us):∃as,ReadsAll s.heap us ds as:=
 bB.rec (motive_1:=fun _ _ _=>True) (motive_2:=fun xs ds _=>∀{us:List ζ},Vals xs us->∃as,ReadsAll s.heap us ds as) trivial (fun _=>trivial) (fun _=>trivial) (fun _=>trivial) (fun _ _ _=>trivial) (fun _ _ _=>trivial) (fun _=>trivial) (fun _ _=>trivial)
  (fun r=>by cases r;exact⟨_,.nil⟩) (fun h _ _ t _ r=>by
   cases r with
   |cons r rr=>
    obtain⟨as,ra⟩:=DV.reads I h r;obtain⟨bs,rb⟩:=t rr;exact⟨_,.cons ra rb⟩) h r
end
mutual
def noL:θ->Bool
 | .list _=>false
 | .tuple ds=>Vm ds
 |_=>true
def Vm:List θ->Bool
 |[]=>true
 |d::ds=>noL d&&Vm ds
end
theorem bB.ints{K:W.Frag}{H:Hp}:∀(ns:List Int),bB K H (ns.map V.int) (ns.map PyData.int)
 |[]=> .nil
 |n::ns=> .cons (.int n) (bB.ints ns)
theorem bB.len{K:W.Frag}{H:Hp}{xs:List V}{ds:List θ}(h:bB K H xs ds):xs.length=ds.length:=
 bB.rec (motive_1:=fun _ _ _=>True) (motive_2:=fun xs ds _=>xs.length=ds.length) trivial (fun _=>trivial) (fun _=>trivial) (fun _=>trivial) (fun _ _ _=>trivial) (fun _ _ _=>trivial) (fun _=>trivial) (fun _ _=>trivial) rfl (fun _ _ _ t=>iy Nat.succ t) h
section
variable{X:Cx}
theorem Q8(hu:X.A.units+64<cLine):OpR X (compareOp .NotEq) (fun x y H Q=>∃da db,DV X.K H x da/\DV X.K H y db/\da.canLay0=true/\db.canLay0=true/\min da.depth db.depth<=64/\Q (.bl (!PyData.eqv da db)) H):=by
 intro pins s σ H x y v u Q I rx ry h;obtain⟨da,db,hx,hy,ca,cb,hd,q⟩:=h;obtain⟨as,ra⟩:=DV.reads I hx rx;obtain⟨bs,rb⟩:=DV.reads I hy ry;exact SeqAt.rcNeAt_reads ra rb ca cb (by omega) _ _ _ _ ⟨.bl _,H,I,rfl,q⟩
theorem yX:∀{ds:List θ},PyData.canLayAll0 ds=true->∀d∈ds,d.canLay0=true
 |[],_,d,h=>nomatch h
 |e::ds,h,d,hd=>by
  have h':(e.canLay0&&PyData.canLayAll0 ds)=true:=h;rw[gU]at h';rcases cD.mp hd with rfl|hd
  ·exact h'.1
  ·exact yX h'.2 d hd
open Classical in
theorem pD(hu:X.A.units+64<cLine):OpR X (compareOp .In) (fun x y H Q=>∃(p:Addr) (xs:List V) (ds:List θ) (dx:θ),y= .ref p/\(SqL X.K H p xs\/SqT X.K H p xs)/\bB X.K H xs ds/\DV X.K H x dx/\PyData.canLayAll0 ds=true/\dx.canLay0=true/\dx.depth<=60/\
  Q (.bl (ds.any fun d=>PyData.eqv d dx)) H):=by
 intro pins s σ H x y v u Q I rx ry h;obtain⟨p,xs,ds,dx,rfl,hq,hds,hx,ca,cb,hd,q⟩:=h;cases ry;obtain⟨bs,rb⟩:=DV.reads I hx rx;have key:∀{its:List ζ},Vals xs its->(∀y∈its,SeqAt.EqAt X.A.in1 s y v (decide (∃d as,Reads s.heap y d as/\d∈ds/\PyData.eqv d dx=true)))/\(its.any fun y=>decide (∃d as,Reads s.heap y d as/\d∈ds/\PyData.eqv d dx=true))=ds.any fun d=>PyData.eqv d dx:=by
  intro its rv;obtain⟨as,ra⟩:=bB.reads I hds rv;have each:∀{us:List ζ} {es:List θ} {as:List Addr},ReadsAll s.heap us es as->(∀e∈es,e∈ds)->(∀y∈us,SeqAt.EqAt X.A.in1 s y v (decide (∃d as,Reads s.heap y d as/\d∈ds/\PyData.eqv d dx=true)))/\(us.any fun y=>decide (∃d as,Reads s.heap y d as/\d∈ds/\PyData.eqv d dx=true))=es.any fun d=>PyData.eqv d dx:=by
   intro us
   induction us with
   |nil=>intro es as h _;cases h;exact⟨(fun y hy=>(nomatch hy)),rfl⟩
   |cons y us ih=>
    intro es as h hs;cases h with
    | @cons _ _ d ds' as' bs' r rr=>
     obtain⟨i1,i2⟩:=ih rr fun e he=>hs e (cP _ he);have cl:=yX ca d (hs d cH);have e:decide (∃d as,Reads s.heap y d as/\d∈ds/\PyData.eqv d dx=true)=PyData.eqv d dx:=by
      rw[qM,wZ];constructor
      ·rintro⟨d',as'',r',_,q'⟩;obtain⟨rfl,_⟩:=(Yy r _ _ r');exact q'
      ·intro q';exact⟨d,_,r,hs d cH,q'⟩
     refine⟨fun z hz=> ?_,?_⟩
     ·rcases cD.mp hz with rfl|hz
      ·rw[e];exact Ym d dx _ s _ _ _ _ r rb cl cb (by show X.A.units+1+min d.depth dx.depth<cLine;omega)
      ·exact i1 z hz
     ·rw[N8,N8,i2,e]
  exact each ra fun e he=>he
 rcases hq with hq|hq
 ·obtain⟨its,r,pl,hz⟩:=I.list hq;obtain⟨k1,k2⟩:=key r;refine SeqAt.in_listAt _ pl.isList (fun w hw=>k1 w (by simpa using hw)) ⟨.bl _,H,I,rfl,?_⟩;rw[show∀f:ζ->Bool,its.toArray.any f=its.any f from fun f=>by simp,k2];exact q
 ·obtain⟨its,r,pl,hz⟩:=I.tuple hq;obtain⟨k1,k2⟩:=key r;refine SeqAt.in_tupleAt _ pl (fun w hw=>k1 w (by simpa using hw)) ⟨.bl _,H,I,rfl,?_⟩;rw[show∀f:ζ->Bool,its.toArray.any f=its.any f from fun f=>by simp,k2];exact q
end
end L2
namespace HT
open PySem PyProof.Rows
section
variable{prog:ξ}{w:τ}{A:υ}{E:L4}{s:η}
theorem iI{t sl:Addr}{items:Array ζ}{vl vu:ζ}{lo hi:Option Int}{Q:L4}(ht:IsTup s.heap t items)(hs:s.heap.IsSliceOf sl vl vu .none)(pl:IsPart vl lo)(pu:IsPart vu hi)(hw:sIx items.size 0 lo=0/\sIx items.size items.size hi=items.size)(h:Q (.ref t) s):wpAny (model prog w) A (getItem (.ref t) (.ref sl)) Q E s:=by
 obtain⟨os,hos,hcs,hds⟩:=id hs;have hTs:s.TypeIs (.ref sl) "slice":=⟨os,hos,hcs⟩;unfold getItem
 try with_reducible refine rZ ?_
 first |refine aq (aV ?_)|skip
 refine aq (wpAny_sequenceKey ht.typeIs (by decide) ?_);refine aq (Xa (name:=Str.ofString "__getitem__") ht.typeIs Xg
  (Om Xg ht.typeIs entry_tuple_getitem ?_ (args_tuple_getitem _ _)))
 show wpAny _ _ (Builtin.Tuple.tupleItemsOf (.ref t)>>=_) _ _ s;refine aq (tupleItemsOf_ ht ?_);refine aq (WR hTs ?_);rw[aL (by decide)];refine aq (sliceApplied_gen hs pl pu ?_);have hyes:((((sIx items.size 0 lo:Nat):Int)==0&&(1:Int)==1&&(sIx items.size items.size hi-sIx items.size 0 lo)==items.size)=true):=by
  rw[hw.1,hw.2];simp
 show wpAny _ _ (if(((sIx items.size 0 lo:Nat):Int)==0&&(1:Int)==1&&(sIx items.size items.size hi-sIx items.size 0 lo)==items.size)=true then _ else _) _ _ s;rw[aL hyes];obtain⟨o,ho,hc,n,hd⟩:=id ht;refine aq ?_;show wpAny _ _ (Builtin.Tuple.tupleIsExact (.ref t)) _ _ s;unfold Builtin.Tuple.tupleIsExact;refine aq (WR ht.typeIs ?_);refine aV ?_;rw[aL (by decide)]
 first
  |exact aq (UW (aq (aV ⟨_,rfl,aV h⟩)))
  |exact aq (UW (aV ⟨_,rfl,aV h⟩))
  |exact aq (UW (aq (aV (aV ⟨_,rfl,aV h⟩))))
  |(trace_state;exact aq (aq (UW (aV ⟨_,rfl,aV h⟩))))
end
end HT
namespace L2
open PySem PySem.Spec PyProof.Rows
section
variable{X:Cx}
theorem Gz:OpR X (binaryOp .FloorDiv) (rI (fun _ j=>0<j/\j<1000000000000000000000000000000) fun i j=> .int (i/j)):=opI fun i j _ _ _ _ _ hc q=>by
 have h1:(0:Int)<j:=hc.1;have h2:j<1000000000000000000000000000000:=hc.2;refine floordiv_int (by omega) ?_ (Or.inl (wee ?_))
 ·rw[wdo _ (by omega)];exact q
 ·have h3:j.natAbs≠0:=by omega
  have h4:j.natAbs<2^100:=by
   have:(2:Nat)^100=1267650600228229401496703205376:=by decide
   omega
  have:=(Nat.log2_lt h3).mpr h4;omega
noncomputable def Gp(K:W.Frag):R2:=fun x y H Q=>∃a b xs ys,x= .ref a/\y= .ref b/\SqT K H a xs/\SqT K H b ys/\xs.length+ys.length<=sizeLine/\∀r H',Same H H'->SqT K H' r (xs++ys)->Q (.ref r) H'
theorem cX:OpR X (binaryOp .Add) (Gp X.K):=by
 intro pins s σ H x y v u Q I rx ry h;obtain⟨a,b,xs,ys,rfl,rfl,ha,hb,hz,q⟩:=h;by_cases hx:xs=[]
 ·subst hx;cases rx;cases ry;obtain⟨its,r1,p1,_⟩:=I.tuple ha;obtain⟨its2,r2,p2,_⟩:=I.tuple hb;cases r1;obtain⟨⟨cls,dd,data,sl⟩,ho,hc,n,hd⟩:=id p1;obtain⟨⟨cls2,dd2,data2,sl2⟩,ho2,hc2,n2,hd2⟩:=id p2;simp only at hc hd hc2 hd2;subst hc hd hc2 hd2;exact concat_meets ⟨_,ho,rfl⟩ ⟨_,ho2,rfl⟩ Yo seq_tuple_add YS YX (YZ _ _)
   (tuple_addW0 a b _ _ n n2 dd dd2 sl sl2 (by simp)) ⟨ho,ho2,⟨.ref b,H,I,rfl,q b H (Same.refl _) hb⟩⟩
 ·refine op_catT pins s σ H _ _ v u Q I rx ry ⟨a,b,xs,ys,rfl,rfl,ha,hb,hx,hz,fun e=> ?_,fun e p hp=> ?_⟩
  ·subst e;exact q a H (Same.refl _) (by rw[qT];exact ha)
  ·exact q p _ (fun c o e=>by rw[cN (mQ e hp)];exact e) (SqT.of aG)
noncomputable def K6(K:W.Frag):V->Option Int->Option Int->Hp->VK->Prop:=fun x lo hi H Q=>∃a xs,x= .ref a/\SqT K H a xs/\∀r H',Same H H'->SqT K H' r (cutV xs lo hi)->Q (.ref r) H'
theorem dH:SlR X (K6 X.K):=by
 intro pins s σ H x v vl vu lo hi sl Q I rx hs pl pu h;obtain⟨a,xs,rfl,hx,q⟩:=h;by_cases hw:HT.sIx xs.length 0 lo=0/\HT.sIx xs.length xs.length hi=xs.length
 ·cases rx;obtain⟨its,r,ht,hz⟩:=I.tuple hx;have hlen:its.toArray.size=xs.length:=by rw[eG];exact r.length.symm
  refine⟨"tuple",_,PyProof.Rows.slot_tuple_getitem.lookup,ht.typeIs,?_⟩;refine HT.iI ht hs pl pu (by rw[hlen];exact hw) ⟨.ref a,H,I,rfl,q a H (Same.refl _) ?_⟩;have e:cutV xs lo hi=xs:=by
   unfold cutV;rw[hw.1,hw.2];simp
  rw[e];exact hx
 ·exact sl_tup pins s σ H _ v vl vu lo hi sl Q I rx hs pl pu ⟨a,xs,rfl,hx,hw,fun p hp=>q p _ (fun c o e=>by rw[cN (mQ e hp)];exact e) (SqT.of aG)⟩
end
section
variable{X:Cx}{tg:Expr}
noncomputable def RG(K:W.Frag)(tl:TE):TI:=fun σ H R=>tl σ H fun x H1=>∃a xs,x= .ref a/\SqL K H1 a xs/\(xs.length<=sizeLine->R (Itl K a) H1)
noncomputable def Vw(K:W.Frag)(tl:TE):TI:=fun σ H R=>tl σ H fun x H1=>∃a xs,x= .ref a/\SqT K H1 a xs/\(xs.length<=sizeLine->R (Itt K a) H1)
theorem Bl{l:Expr}{tl:TE}(hl:PE X l tl):PI X tg l (RG X.K tl):=by
 intro pins s σ H R I h;refine thn (hl pins s σ H _ I h) fun v s1 ⟨x,H1,I1,r1,q1⟩=> ?_;obtain⟨a,xs,e,hq,q⟩:=q1;subst e;cases r1;obtain⟨its,rv,p,hz⟩:=I1.list hq;refine wed p.isList ?_;refine⟨s1.heap.objs.size,[s1.heap.objs.size],_,_,H1,rfl,I1.kept (t':=s1.toks) fun b o e=>fG _ e,turn_list a _,⟨_,mW _ rfl,rfl,rfl⟩,fun b hb=> ?_,q hz⟩;have e:b=s1.heap.objs.size:=by simpa using hb
 subst e;exact I1.fpOk (bH _) (I1.hok.fresh (bH _))
theorem Eb{l:Expr}{tl:TE}(hl:PE X l tl):PI X tg l (Vw X.K tl):=by
 intro pins s σ H R I h;refine thn (hl pins s σ H _ I h) fun v s1 ⟨x,H1,I1,r1,q1⟩=> ?_;obtain⟨a,xs,e,hq,q⟩:=q1;subst e;cases r1;obtain⟨its,rv,p,hz⟩:=I1.tuple hq;refine wpAny_pyIter_tuple (show s1.heap.IsTuple a its.toArray from p) ?_;refine⟨s1.heap.objs.size,[s1.heap.objs.size],_,_,H1,rfl,I1.kept (t':=s1.toks) fun b o e=>fG _ e,turn_tuple a _,⟨_,mW _ rfl,rfl,rfl⟩,fun b hb=> ?_,q hz⟩;have e:b=s1.heap.objs.size:=by simpa using hb
 subst e;exact I1.fpOk (bH _) (I1.hok.fresh (bH _))
theorem nO:CallR X (.builtin "len") (fun xs H Q=>∃p ys,xs=[.ref p]/\(SqL X.K H p ys\/SqT X.K H p ys)/\(ys.length<=16777216->Q (.int ys.length) H)):=by
 intro pins s σ H xs us Q I r h;obtain⟨p,ys,rfl,hq,q⟩:=h;have hz:ys.length<=16777216:=by
  rw[<-cY];rcases hq with hq|hq
  ·exact(I.list hq).choose_spec.2.2
  ·exact(I.tuple hq).choose_spec.2.2
 exact call_len_seq pins s σ H _ us Q I r ⟨p,ys,rfl,hq,q hz⟩
end
mutual
inductive DX(K:W.Frag)(H:Hp):V->θ->Prop
 |non:DX K H .non .none
 |bl (b:Bool):DX K H (.bl b) (.bool b)
 |int (i:Int):DX K H (.int i) (.int i)
 |str (x:Str):DX K H (.str x) (.str x)
 |tup {a:Addr} {xs:List V} {ds:List θ} (h:SqT K H a xs) (t:oh K H xs ds):DX K H (.ref a) (.tuple ds)
 |lst {a:Addr} {xs:List V} {ds:List θ} (h:SqL K H a xs) (t:oh K H xs ds):DX K H (.ref a) (.list ds)
 |dct {a:Addr} {kvs:List (Key×V)} (ds:List (θ×θ)) (h:H a=some (.dK kvs)):DX K H (.ref a) (.dict ds)
inductive oh(K:W.Frag)(H:Hp):List V->List θ->Prop
 |nil:oh K H [] []
 |cons {x:V} {d:θ} {xs:List V} {ds:List θ} (h:DX K H x d) (t:oh K H xs ds):oh K H (x::xs) (d::ds)
end
theorem DX.same{K:W.Frag}{H H':Hp}(e:Same H H'){x:V}{d:θ}(h:DX K H x d):DX K H' x d:=
 DX.rec (motive_1:=fun x d _=>DX K H' x d) (motive_2:=fun xs ds _=>oh K H' xs ds) .non (fun b=> .bl b) (fun i=> .int i) (fun x=> .str x) (fun h _ t=> .tup (e.tup h) t) (fun h _ t=> .lst (e.seq h) t) (fun ds h=> .dct ds (e _ _ h)) .nil (fun _ _ h t=> .cons h t) h
theorem oh.same{K:W.Frag}{H H':Hp}(e:Same H H'){xs:List V}{ds:List θ}(h:oh K H xs ds):oh K H' xs ds:=
 oh.rec (motive_1:=fun x d _=>DX K H' x d) (motive_2:=fun xs ds _=>oh K H' xs ds) .non (fun b=> .bl b) (fun i=> .int i) (fun x=> .str x) (fun h _ t=> .tup (e.tup h) t) (fun h _ t=> .lst (e.seq h) t) (fun ds h=> .dct ds (e _ _ h)) .nil (fun _ _ h t=> .cons h t) h
theorem DV.dx{K:W.Frag}{H:Hp}{x:V}{d:θ}(h:DV K H x d):DX K H x d:=
 DV.rec (motive_1:=fun x d _=>DX K H x d) (motive_2:=fun xs ds _=>oh K H xs ds) .non (fun b=> .bl b) (fun i=> .int i) (fun x=> .str x) (fun h _ t=> .tup h t) (fun h _ t=> .lst h t) (fun h=> .dct [] h) (fun h _=> .dct _ h) .nil (fun _ _ h t=> .cons h t) h
theorem bB.dx{K:W.Frag}{H:Hp}{xs:List V}{ds:List θ}(h:bB K H xs ds):oh K H xs ds:=
 bB.rec (motive_1:=fun _ _ _=>True) (motive_2:=fun xs ds _=>oh K H xs ds) trivial (fun _=>trivial) (fun _=>trivial) (fun _=>trivial) (fun _ _ _=>trivial) (fun _ _ _=>trivial) (fun _=>trivial) (fun _ _=>trivial) .nil (fun h _ _ t=> .cons h.dx t) h
noncomputable def vC:θ->String
 | .none=>"NoneType"
 | .bool _=>"bool"
 | .int _=>"int"
 | .str _=>"str"
 | .list _=>"list"
 | .tuple _=>"tuple"
 | .dict _=>"dict"
theorem DX.kind{K:W.Frag}{H:Hp}:∀{x:V} {d:θ},DX K H x d->PL K H x (vC d)
 |_,_,.non=>rfl
 |_,_,.bl _=>rfl
 |_,_,.int _=>rfl
 |_,_,.str _=>rfl
 |_,_,.tup h _=> .inl ⟨rfl,_,h⟩
 |_,_,.lst h _=> .inr (.inl ⟨rfl,_,h⟩)
 |_,_,.dct _ h=> .inr (.inr ⟨rfl,_,h⟩)
theorem oh.len{K:W.Frag}{H:Hp}{xs:List V}{ds:List θ}(h:oh K H xs ds):xs.length=ds.length:=
 oh.rec (motive_1:=fun _ _ _=>True) (motive_2:=fun xs ds _=>xs.length=ds.length) trivial (fun _=>trivial) (fun _=>trivial) (fun _=>trivial) (fun _ _ _=>trivial) (fun _ _ _=>trivial) (fun _ _=>trivial) rfl (fun _ _ _ t=>iy Nat.succ t) h
theorem oh.get{K:W.Frag}{H:Hp}:∀{xs:List V} {ds:List θ} {i:Nat} {x:V},oh K H xs ds->xs[i]? =some x->∃d,ds[i]? =some d/\DX K H x d
 |_,_,_,_,.nil,e=>by simp at e
 |_,_,0,_,.cons h _,e=>by simp at e;subst e;exact⟨_,rfl,h⟩
 |_,_,i+1,x,.cons _ t,e=>by
  obtain⟨d,h1,h2⟩:=oh.get (i:=i) t (by simpa using e);exact⟨d,by simpa using h1,h2⟩
structure bF(K:W.Frag)(mg:L5)(x:Str)(st:Stmt)(ps:List Str)(f:Addr)(fd:ρ):Prop where
 F:Fun K x x st f fd
 b:Binds K fd ps []
 m:mg x=some (.ref f)
theorem pc{X:Cx}{x:Str}{st:Stmt}{ps:List Str}{f:Addr}{fd:ρ}{j k:Nat}{sp:Sp}{E:XK}{e:Expr}{es:List Expr}{t:TA}{p pos:Pos}(F:FnOk X.prog X.w X.K X.mg X.base CX0 j f fd ps sp)(hr:Room k X.A)(D:bF X.K X.mg x st ps f fd)(ha:PA X (e::es) t)(hj:j<=k:=by first |decide|omega)(hg:Gl X x:=by rfl)(hx:Passes CX0 X E:=by exact pass0)(hdb:(x==("__debug__":Str))=false:=by decide)(he:starEach (e::es) X.env=(false,eval e X.env)::starEach es X.env:=by rfl)(hpl:(backTo pos (starEach es X.env)).any (·.1)=false:=by rfl):PE X (.Call (.Name x p) (e::es) [] pos) (tCall sp [] E t):=rW (F.mono hj) hr hg D.m D.F.kp D.b .nil hx ha hdb he hpl
theorem fsc{N P:List Str}{sc:Scope}(a:sc.kind= .function:=by rfl)(b:sc.isCoroutine=false:=by rfl)(c:sc.isGenerator=false:=by rfl)(d:N.Nodup:=by decide+kernel)(e:N.take P.length=P:=by rfl)(f:∀x∈P,sc.names.lookup x=some .local\/sc.names.lookup x=some .cell:=by decide+kernel)(g:∀y∈sc.names,y.2≠.free:=by decide+kernel):FnScope N P sc:=⟨a,b,c,d,e,f,g⟩
theorem Fun.cM{P:ξ}{w:τ}{K:W.Frag}{mg:L5}{base:Heap}{x qual:Str}{st:Stmt}{f:Addr}{fd:ρ}{ps:List Str}{k:Nat}{sp:Sp}(F:Fun K x qual st f fd)(N:List Str)(hb:∀(cdv:ζ) (A:υ) (outer:List Env) (s:η) (H:Hp) (vs:List V) (Q:VK) (E:XK),Room k (A.deeper (PyProof.Rows.envOfC qual (defScope st) s.heap.objs.size f cdv))->sp vs H Q E->
   ∃t,PSs (cxOf CX0 P w K mg base N qual (defScope st) f cdv A outer s H E).nox (defBody st) t/\t {nx:=fun _ H'=>Q .non H',rt:=Q} (start N vs) H)(S:FnScope N ps (defScope st):=by exact fsc)(len:∀vs H Q E,sp vs H Q E->vs.length=ps.length:=by intro _ _ _ _ h;repeat(first |(obtain⟨rfl,_⟩:=h;rfl)|obtain⟨_,h⟩:=h)):FnOk P w K mg base CX0 (k+1) f fd ps sp:=F.ok S len hb
theorem aZ{H:Hp}{p:Addr}(h:H p=none)(o:HO):Same H (upd H p o):=fun b u q=>by rw[cN (mQ q h)];exact q
end L2
namespace kj
open PySem L2
noncomputable def jd:θ->Bool
 | .int _=>true
 |_=>false
noncomputable def bh(n:Int):θ->Bool
 | .int i=>decide (0<=i)&&decide (i<n)
 |_=>false
noncomputable def intD:θ->Int
 | .int i=>i
 |_=>0
noncomputable def kids:θ->List θ
 | .tuple ds=>ds
 |_=>[]
noncomputable def cL(ns:List Int):Bool:=(List.range (ns.length-1)).all fun k=>decide (ns.getD k 0<ns.getD (k+1) 0)
noncomputable def dg(ts:List (List Int)):Bool:=(List.range (ts.length-1)).all fun k=>HT.lexLt (ts.getD k []) (ts.getD (k+1) [])
noncomputable def jE(n:Int):θ->Bool
 | .tuple ds=>ds.all (bh n)&&cL (ds.map intD)
 |_=>false
noncomputable def eU(n:Int)(d:θ):Bool:=jE n d&&decide ((kids d).length=2)
noncomputable def gW(n:Int):θ->Bool
 | .tuple ds=>ds.all (eU n)&&dg (ds.map fun t=>(kids t).map intD)
 |_=>false
noncomputable def gJ:θ->Bool
 | .tuple [n,t]=>jd n&&(decide (0<=intD n)&&decide (intD n<=10))&&gW (intD n) t
 |_=>false
theorem xJ{n:Int}:∀{d:θ},bh n d=true->∃i,d= .int i/\0<=i/\i<n
 | .int i,h=>⟨i,rfl,by simpa[bh]using h⟩
end kj
namespace L2
open PySem PySem.Spec PyProof.Rows
section
variable{X:Cx}
theorem DW(K:W.Frag)(h:X.K=K:=by rfl):IxR X (rIxT K):=by subst h;exact gF
theorem vD(K:W.Frag)(h:X.K=K:=by rfl):IxR X (rIxL K):=by subst h;exact uw
theorem rQ(K:W.Frag)(h:X.K=K:=by rfl):CallR X (.builtin "len") (fun xs H Q=>∃p ys,xs=[.ref p]/\(SqL K H p ys\/SqT K H p ys)/\(ys.length<=16777216->Q (.int ys.length) H)):=by subst h;exact nO
theorem La(K:W.Frag)(hu:X.A.units<cLine)(h:X.K=K:=by rfl):OpR X (compareOp .Lt) (rLtT K):=by subst h;exact op_ltT hu
theorem nW(K:W.Frag)(hu:X.A.units+64<cLine)(h:X.K=K:=by rfl):OpR X (compareOp .In) (fun x y H Q=>∃(p:Addr) (xs:List V) (ds:List θ) (dx:θ),y= .ref p/\(SqL K H p xs\/SqT K H p xs)/\bB K H xs ds/\DV K H x dx/\PyData.canLayAll0 ds=true/\dx.canLay0=true/\dx.depth<=60/\
  Q (.bl (ds.any fun d=>PyData.eqv d dx)) H):=by subst h;exact pD hu
theorem gj(K:W.Frag){es:List Expr}{k:Nat}{t:TGs}{n:Nat}{pos:Pos}(hc:X.calm=true)(h:PGs X es t)(hn:(assignEach es X.env).length=n:=by rfl)(hst:(assignEach es X.env).findIdx? (·.1)=none:=by rfl)(hK:X.K=K:=by rfl):PG X (.Tuple es k pos) (gTup K n t):=by subst hK;exact pg_tup hc h hn hst
end
end L2
namespace PySem
open Sem (wp)
open AutoSeq1 (wpAny_loadPart')
section
variable{prog:ξ}{w:τ}{A:υ}{E:L4}{s:η}
theorem iH{Q:List ζ->η->Prop}{r:Addr}{a b c:Int}{t u v:Tok}{n:Nat}(hh:A.handled=none)(hr:IsRange s.heap r a b c t u v)(hsmall:Builtin.Range.small a b c=true)(hn:Builtin.Range.rangeSize a b c=n)(hlen:n<=2^24)(hQ:∀h' tk acc,(∀b o',s.heap.get? b=some o'->h'.get? b=some o')->ItemsOf (fun i v=>∃t,v= .int (a+i*c) t) acc n->Q acc.toList {s with heap:=h',toks:=tk}):
  wpAny (model prog w) A (collect (.ref r)) Q E s:=by
 unfold collect;refine aq (wpAny_runValue (Ew F.entry_proto_collect ?_));rw[Kr F.plain_proto_collect _];show wpAny _ A.in1 (newList []>>=fun l=>again (.builtin "list.__iadd__" ⟨[l,.ref r],[]⟩)) _ _ s;refine aq (JW ?_);refine aV ⟨Ko F.plain_list_iadd _,Ew F.entry_list_iadd ?_⟩;rw[Kr F.plain_list_iadd _];show wpAny _ A.in1 (Builtin.List.listExtendWith (.ref s.heap.objs.size) (.ref r) (.ref s.heap.objs.size)) _ _ _;have hS:(s.heap.push {cls:= .type "list",data:= .seq ([]:List ζ).toArray}).get? s.heap.objs.size=some {cls:= .type "list",data:= .seq #[] 0}:=mW _ rfl;have fin':∀h' tk acc' c',(∀b o,b≠s.heap.objs.size->(s.heap.push {cls:= .type "list",data:= .seq ([]:List ζ).toArray}).get? b=some o->h'.get? b=some o)->
   h'.get? s.heap.objs.size=some {cls:= .type "list",dict:=none,data:= .seq acc' c',slots:=#[]}->ItemsOf (fun i v=>∃t,v= .int (a+i*c) t) acc' n->wpAny (model prog w) A (match Value.ref s.heap.objs.size with
   |Value.ref a=>do
    match(<-load a).data with
     |Data.seq xs _=>pure xs.toList
     |_=>unsupported "internal:collect"
   |_=>unsupported "internal:collect") Q E {s with heap:=h',toks:=tk}:=fun h' tk acc' c' hk hS' hacc=>by
  show wpAny _ A (load s.heap.objs.size>>=_) _ _ _;refine aq (wpAny_load hS' ?_);refine aV ?_;exact hQ h' tk acc' (fun b o e=>hk b o (dX (cO e)) (fG _ e)) hacc
 refine uz (wpAny_extend_range (A:=A) (R:=fun r s'=>r= .ok (.ret (.ref s.heap.objs.size))/\∃h' tk acc' c',s'={s with heap:=h',toks:=tk}/\(∀b o,b≠s.heap.objs.size->(s.heap.push {cls:= .type "list",data:= .seq ([]:List ζ).toArray}).get? b=some o->h'.get? b=some o)/\
   h'.get? s.heap.objs.size=some {cls:= .type "list",dict:=none,data:= .seq acc' c',slots:=#[]}/\ItemsOf (fun i v=>∃t,v= .int (a+i*c) t) acc' n) (s:={s with heap:=s.heap.push {cls:= .type "list",data:= .seq ([]:List ζ).toArray}}) hh (fG _ hr) hsmall hn hlen s.heap.objs.size (.ref s.heap.objs.size) 0 hS (fun h' tk acc' c' hk hS' hacc=>⟨rfl,h',tk,acc',c',rfl,hk,hS',hacc⟩)) (fun fin s' h=> ?_) (fun e s' h=> ?_)
 ·cases fin with
  |done f=>
   obtain⟨e,h',tk,acc',c',rfl,h1,h2,h3⟩:=h;cases e;exact fin' h' tk acc' c' h1 h2 h3
  |again c'=>exact⟨h.1,Oj h.2 fun r s'' hr=>by obtain⟨rfl,h',tk,acc',c',rfl,h1,h2,h3⟩:=hr;exact fin' h' tk acc' c' h1 h2 h3⟩
 ·exact absurd h.1 (by simp)
end
theorem gM(r:Addr)(a b c:Int)(t u v:Tok)(n:Nat)(hsmall:Builtin.Range.small a b c=true)(hn:Builtin.Range.rangeSize a b c=n)(hlen:n<=2^24):
  Meets (Builtin.«tuple.__new__» ⟨[.type "tuple",.ref r],[]⟩)
   (fun A R s=>A.handled=none/\IsRange s.heap r a b c t u v/\∀(h':Heap) tk acc,(∀b o',s.heap.get? b=some o'->h'.get? b=some o')->ItemsOf (fun i v=>∃t,v= .int (a+i*c) t) acc n->R (.ok (.ret (.ref h'.objs.size))) {s with heap:=h'.push {cls:= .type "tuple",data:= .seq acc},toks:=tk}):=
 .of_wp fun prog w A R s h=>by
  obtain⟨hp,g,d,tk,os⟩:=s;obtain⟨hh,ht,h⟩:=h;have hsub:=sub_tuple_self;have hinit:=init_tuple_lookup;have hmh:=madeHere_tuple;have hT:Shared.TypeIs ⟨hp,g,d,tk,os⟩ (.ref r) "range":=⟨_,ht,rfl⟩
  wp_walk using wpAny_loadPart' ht,WR hT,iH (A:=A.in1) hh ht hsmall hn hlen
  intro h' tk' acc hk hacc;show wpAny _ _ (Builtin.Tuple.tupleExact acc.toList.toArray>>=fun v=>ret v) _ _ _;unfold Builtin.Tuple.tupleExact;refine aq (JW ?_ (by show acc.toList.toArray.size<=sizeLine;rw[cY];simp;rw[hacc.1];omega));refine aV ⟨_,rfl,?_⟩;have e:acc.toList.toArray=acc:=by simp
  rw[e];exact h h' tk' acc hk hacc
section
variable{prog:ξ}{w:τ}{A:υ}{E:L4}{s:η}
theorem lD{Q:L4}{r:Addr}{a b c:Int}{t u v:Tok}{n:Nat}(hh:A.handled=none)(hr:IsRange s.heap r a b c t u v)(hsmall:Builtin.Range.small a b c=true)(hn:Builtin.Range.rangeSize a b c=n)(hlen:n<=2^24)(h:∀(h':Heap) tk acc,(∀b o',s.heap.get? b=some o'->h'.get? b=some o')->ItemsOf (fun i v=>∃t,v= .int (a+i*c) t) acc n->Q (.ref h'.objs.size) {s with heap:=h'.push {cls:= .type "tuple",data:= .seq acc},toks:=tk}):
  wpAny (model prog w) A (call (.type "tuple") [.ref r]) Q E s:=
 callType_new F.called_tuple (by decide) (F.typeCall_tuple_1 _) (F.newCall_tuple_1 _) (fun obj=>F.args_object_init_2 obj _) F.entry_tuple_new
  (gM r a b c t u v n hsmall hn hlen) ⟨hh,hr,fun h' tk acc hk hacc=>⟨⟨_,mW _ rfl,rfl⟩,h h' tk acc hk hacc⟩⟩
end
end PySem
namespace L2
open PySem PySem.Spec PyProof.Rows
section
variable{X:Cx}{p p' pos pos':Pos}{a:Expr}{ta:TA}
noncomputable def gK(n:Nat):List V:=(List.range n).map fun(k:Nat)=>V.int (k:Int)
noncomputable def U9(ta:TA):TE:=fun σ H Q=>ta σ H fun vs H1=>∃j:Int,vs=[.int j]/\0<=j/\j<=16777216/\∀l,H1 l=none->Q (.ref l) (upd H1 l (.tup (gK j.toNat)))
theorem oF:∀{n:Nat} {us:List ζ},us.length=n->(∀(j:Nat) (u:ζ),us[j]? =some u->∃t:Tok,u=Value.int (0+((j:Nat):Int)*1) t)->Vals (gK n) us:=by
 intro n us hl hi;have go:∀(us:List ζ) (k:Nat),(∀(j:Nat) (u:ζ),us[j]? =some u->∃t:Tok,u=Value.int (0+((j+k:Nat):Int)*1) t)->Vals ((List.range' k us.length).map fun(k:Nat)=>V.int (k:Int)) us:=by
  intro us
  induction us with
  |nil=>intro k _;exact .nil
  |cons u us ih=>
   intro k h;obtain⟨t,e⟩:=h 0 u rfl;refine .cons ⟨t,?_⟩ (ih (k+1) fun j u' hj=> ?_)
   ·rw[e];congr 1;omega
   ·obtain⟨t',e'⟩:=h (j+1) u' (by simpa using hj);refine⟨t',?_⟩;rw[e'];congr 1;omega
 have:=go us 0 (fun j u hj=>by obtain⟨t,e⟩:=hi j u hj;exact⟨t,by rw[e];rfl⟩);unfold gK;rw[List.range_eq_range',<-hl];exact this
theorem mj(hc:X.calm=true)(ZK:Gl X "tuple")(ZD:X.mg "tuple"=none)(hg:Gl X "range")(hm:X.mg "range"=none)(ha:PA X [a] ta)(hs:starEach [a] X.env=[(false,eval a X.env)]:=by rfl)(hs2:starEach [Expr.Call (.Name "range" p') [a] [] pos'] X.env=[(false,eval (Expr.Call (.Name "range" p') [a] [] pos') X.env)]:=by rfl):
  PE X (.Call (.Name "tuple" p) [.Call (.Name "range" p') [a] [] pos'] [] pos) (U9 ta):=by
 intro pins s σ H Q I h;refine way (ld_blt I ZK ZD (show bootBuiltins "tuple"=some (.type "tuple")from by decide+kernel) ?_ (by decide) (by decide));refine Qy ?_ hs2 rfl;rw[hs2];refine YB ?_;refine Call_ (ld_blt I hg hm boot_range (Qy (thn (ha pos' pins s σ H _ I h) fun us s1 ⟨vs,H1,I1,r1,q1⟩=> ?_) hs rfl));obtain⟨j,e,q1,q2,q⟩:=q1;subst e;cases r1 with
 |cons r rr=>
  cases rr;obtain⟨t,rfl⟩:=r;refine call_range_1 ?_;refine Yv ?_;have hn:Builtin.Range.rangeSize 0 j 1=((j.toNat:Nat):Int):=by rw[rangeSize_one];split<;>omega
  refine lD (I.ok.hd hc) (IsRange.new ..) (small_one (by decide) (by decide) (by omega) (by omega)) hn (by omega) fun h' tk acc hk hacc=> ?_;have I2:Inv X pins σ H1 {s1 with heap:=h',toks:=tk}:=I1.kept fun b o e=>hk b o (fG _ e);have hv:Vals (gK j.toNat) acc.toList:=oF (by rw[Og];exact hacc.1) (fun i u hu=>hacc.2 i u (by simpa using hu));have hz:(gK j.toNat).length<=sizeLine:=by unfold gK;rw[cY];simp;omega
  have I3:Inv X pins σ (upd H1 h'.objs.size (.tup (gK j.toNat))) {s1 with heap:=h'.push {cls:= .type "tuple",data:= .seq acc},toks:=tk}:=
   I2.laid (t':=tk) (fun b o e=>fG _ e) (bH _) (show ObjOk X.prog X.w _ _ _ (.tup (gK j.toNat))from⟨hz,acc.toList,hv,by rw[show acc=acc.toList.toArray by simp];exact IsTup.new _ _⟩)
  exact⟨.ref h'.objs.size,_,I3,rfl,q _ (I2.hok.fresh (bH _))⟩
open Classical in
theorem Ca(hu:X.A.units+64<cLine):OpR X (compareOp .NotIn) (fun x y H Q=>∃(p:Addr) (xs:List V) (ds:List θ) (dx:θ),y= .ref p/\(SqL X.K H p xs\/SqT X.K H p xs)/\bB X.K H xs ds/\DV X.K H x dx/\PyData.canLayAll0 ds=true/\dx.canLay0=true/\dx.depth<=60/\
  Q (.bl (!(ds.any fun d=>PyData.eqv d dx))) H):=by
 intro pins s σ H x y v u Q I rx ry h;obtain⟨p,xs,ds,dx,rfl,hq,hds,hx,ca,cb,hd,q⟩:=h;cases ry;obtain⟨bs,rb⟩:=DV.reads I hx rx;have key:∀{its:List ζ},Vals xs its->(∀y∈its,SeqAt.EqAt X.A.in1 s y v (decide (∃d as,Reads s.heap y d as/\d∈ds/\PyData.eqv d dx=true)))/\(its.any fun y=>decide (∃d as,Reads s.heap y d as/\d∈ds/\PyData.eqv d dx=true))=ds.any fun d=>PyData.eqv d dx:=by
  intro its rv;obtain⟨as,ra⟩:=bB.reads I hds rv;have each:∀{us:List ζ} {es:List θ} {as:List Addr},ReadsAll s.heap us es as->(∀e∈es,e∈ds)->(∀y∈us,SeqAt.EqAt X.A.in1 s y v (decide (∃d as,Reads s.heap y d as/\d∈ds/\PyData.eqv d dx=true)))/\(us.any fun y=>decide (∃d as,Reads s.heap y d as/\d∈ds/\PyData.eqv d dx=true))=es.any fun d=>PyData.eqv d dx:=by
   intro us
   induction us with
   |nil=>intro es as h _;cases h;exact⟨(fun y hy=>(nomatch hy)),rfl⟩
   |cons y us ih=>
    intro es as h hs;cases h with
    | @cons _ _ d ds' as' bs' r rr=>
     obtain⟨i1,i2⟩:=ih rr fun e he=>hs e (cP _ he);have cl:=yX ca d (hs d cH);have e:decide (∃d as,Reads s.heap y d as/\d∈ds/\PyData.eqv d dx=true)=PyData.eqv d dx:=by
      rw[qM,wZ];constructor
      ·rintro⟨d',as'',r',_,q'⟩;obtain⟨rfl,_⟩:=(Yy r _ _ r');exact q'
      ·intro q';exact⟨d,_,r,hs d cH,q'⟩
     refine⟨fun z hz=> ?_,?_⟩
     ·rcases cD.mp hz with rfl|hz
      ·rw[e];exact Ym d dx _ s _ _ _ _ r rb cl cb (by show X.A.units+1+min d.depth dx.depth<cLine;omega)
      ·exact i1 z hz
     ·rw[N8,N8,i2,e]
  exact each ra fun e he=>he
 rcases hq with hq|hq
 ·obtain⟨its,r,pl,hz⟩:=I.list hq;obtain⟨k1,k2⟩:=key r;refine SeqAt.notIn_listAt _ pl.isList (fun w hw=>k1 w (by simpa using hw)) ⟨.bl _,H,I,rfl,?_⟩;rw[show∀f:ζ->Bool,its.toArray.any f=its.any f from fun f=>by simp,k2];exact q
 ·obtain⟨its,r,pl,hz⟩:=I.tuple hq;obtain⟨k1,k2⟩:=key r;refine SeqAt.notIn_tupleAt _ pl (fun w hw=>k1 w (by simpa using hw)) ⟨.bl _,H,I,rfl,?_⟩;rw[show∀f:ζ->Bool,its.toArray.any f=its.any f from fun f=>by simp,k2];exact q
theorem xM(K:W.Frag)(hu:X.A.units+64<cLine)(h:X.K=K:=by rfl):OpR X (compareOp .NotIn) (fun x y H Q=>∃(p:Addr) (xs:List V) (ds:List θ) (dx:θ),y= .ref p/\(SqL K H p xs\/SqT K H p xs)/\bB K H xs ds/\DV K H x dx/\PyData.canLayAll0 ds=true/\dx.canLay0=true/\dx.depth<=60/\
  Q (.bl (!(ds.any fun d=>PyData.eqv d dx))) H):=by subst h;exact Ca hu
noncomputable def Vb(ta:TA):TE:=fun σ H Q=>ta σ H fun vs H1=>∃j:Int,vs=[.int j]/\0<=j/\j<=16777216/\∀l,H1 l=none->Q (.ref l) (upd H1 l (.lst (gK j.toNat)))
theorem uX(hc:X.calm=true)(ZK:Gl X "list")(ZD:X.mg "list"=none)(hg:Gl X "range")(hm:X.mg "range"=none)(ha:PA X [a] ta)(hs:starEach [a] X.env=[(false,eval a X.env)]:=by rfl)(hs2:starEach [Expr.Call (.Name "range" p') [a] [] pos'] X.env=[(false,eval (Expr.Call (.Name "range" p') [a] [] pos') X.env)]:=by rfl):
  PE X (.Call (.Name "list" p) [.Call (.Name "range" p') [a] [] pos'] [] pos) (Vb ta):=by
 intro pins s σ H Q I h;refine way (ld_blt I ZK ZD (show bootBuiltins "list"=some (.type "list")from by decide+kernel) ?_ (by decide) (by decide));refine Qy ?_ hs2 rfl;rw[hs2];refine YB ?_;refine Call_ (ld_blt I hg hm boot_range (Qy (thn (ha pos' pins s σ H _ I h) fun us s1 ⟨vs,H1,I1,r1,q1⟩=> ?_) hs rfl));obtain⟨j,e,q1,q2,q⟩:=q1;subst e;cases r1 with
 |cons r rr=>
  cases rr;obtain⟨t,rfl⟩:=r;refine call_range_1 ?_;refine Yv ?_;have hn:Builtin.Range.rangeSize 0 j 1=((j.toNat:Nat):Int):=by rw[rangeSize_one];split<;>omega
  refine call_list_range (I.ok.hd hc) (IsRange.new ..) (small_one (by decide) (by decide) (by omega) (by omega)) hn (by omega) fun h' tk acc c hk hS hacc=> ?_;have hv:Vals (gK j.toNat) acc.toList:=oF (by rw[Og];exact hacc.1) (fun i u hu=>hacc.2 i u (by simpa using hu));have hz:(gK j.toNat).length<=sizeLine:=by unfold gK;rw[cY];simp;omega
  have I2:Inv X pins σ H1 {s1 with heap:=s1.heap.push {cls:=Value.type "range",data:=Data.fields #[Value.int 0 s1.toks,Value.int j t,Value.int 1 (s1.toks+1)]},toks:=s1.toks+1+1}:=I1.kept fun b o e=>fG _ e;exact⟨.ref _,_,I2.laid (t':=tk) (o:= .lst (gK j.toNat)) hk (bH _) ⟨hz,acc.toList,c,hv,by simpa using hS⟩,rfl,q _ (I2.hok.fresh (bH _))⟩
end
section
variable{X:Cx}
theorem GF(K:W.Frag)(h:X.K=K:=by rfl):OpR X (binaryOp .Add) (Gp K):=by subst h;exact cX
end
theorem KQ{s u:TS}{D:Ends}{σ:St}{H:Hp}(I:St->Hp->Prop)(h1:∀N:St->Hp->Prop,(∀σ' H',I σ' H'->N σ' H')->s {D with nx:=N} σ H)(h2:∀σ' H',I σ' H'->u D σ' H'):tSeq s u D σ H:=h1 (u D) h2
theorem yP:∀(names:List (Str×NameKind)) (n:Nat) (acc:List (Str×Addr)) {x:Str} {c:Addr},(x,c)∈cellsFrom n names acc->(x,c)∈acc\/((x,NameKind.cell)∈names/\n<=c)
 |[],_,_,_,_,h=> .inl h
 |(nm,k)::r,n,acc,x,c,h=>by
  unfold cellsFrom at h;split at h
  ·rename_i hk;have ek:k=NameKind.cell:=by simpa using hk
   rcases yP r _ _ h with q|⟨q,m⟩
   ·rcases cD.mp q with e|e
    ·cases e;subst ek;exact .inr ⟨cH,bH _⟩
    ·exact .inl e
   ·exact .inr ⟨cP _ q,by omega⟩
  ·rcases yP r _ _ h with q|⟨q,m⟩
   ·exact .inl q
   ·exact .inr ⟨cP _ q,m⟩
theorem tL:∀(names:List (Str×NameKind)) (n:Nat) (acc:List (Str×Addr)) {p:Str×Addr},p∈acc->p∈cellsFrom n names acc
 |[],_,_,_,h=>h
 |(nm,k)::r,n,acc,p,h=>by
  unfold cellsFrom;split
  ·exact tL r _ _ (cP _ h)
  ·exact tL r _ _ h
theorem yR:∀(names:List (Str×NameKind)) (n:Nat) (acc:List (Str×Addr)) {x:Str},(x,NameKind.cell)∈names->∃c,(x,c)∈cellsFrom n names acc
 |(nm,k)::r,n,acc,x,h=>by
  unfold cellsFrom;rcases cD.mp h with e|e
  ·cases e;rw[aL (show(NameKind.cell==NameKind.cell)=true from rfl)];exact⟨n,tL r _ _ cH⟩
  ·split
   ·exact yR r _ _ e
   ·exact yR r _ _ e
theorem yQ{n0:Nat}:∀(names:List (Str×NameKind)) (n:Nat) (acc:List (Str×Addr)),n0<=n->(∀x y c,(x,c)∈acc->(y,c)∈acc->n0<=c->x=y)->(∀x c,(x,c)∈acc->c<n)->∀x y c,(x,c)∈cellsFrom n names acc->(y,c)∈cellsFrom n names acc->n0<=c->x=y
 |[],_,_,_,h,_=>h
 |(nm,k)::r,n,acc,hn,h,hl=>by
  unfold cellsFrom;split
  ·refine yQ r (n+1) ((nm,n)::acc) (by omega) (fun x y c hx hy hc=> ?_) (fun x c hx=> ?_)
   ·rcases cD.mp hx with e1|e1<;>rcases cD.mp hy with e2|e2
    ·cases e1;cases e2;rfl
    ·cases e1;exact absurd (hl _ _ e2) (qK _)
    ·cases e2;exact absurd (hl _ _ e1) (qK _)
    ·exact h x y c e1 e2 hc
   ·rcases cD.mp hx with e1|e1
    ·cases e1;exact JV _
    ·exact Oa (hl _ _ e1)
  ·exact yQ r n acc hn h hl
theorem tK:∀(names:List (Str×NameKind)) (h:Heap) (acc:List (Str×Addr)) {x:Str} {c:Addr},(x,c)∈cellsFrom h.objs.size names acc->(x,c)∈acc\/(pushCells h names).IsCell c none
 |[],_,_,_,_,h=> .inl h
 |(nm,k)::r,h,acc,x,c,hm=>by
  unfold cellsFrom at hm;unfold pushCells;split at hm
  ·rename_i hk;rw[aL hk];have hm':(x,c)∈cellsFrom (h.push {cls:= .type "cell",data:= .cell none}).objs.size r ((nm,h.objs.size)::acc):=by rw[Tf];exact hm
   rcases tK r (h.push {cls:= .type "cell",data:= .cell none}) _ hm' with q|q
   ·rcases cD.mp q with e|e
    ·cases e;exact .inr ⟨_,W0 _ _ _ _ (mW _ rfl),rfl⟩
    ·exact .inl e
   ·exact .inr q
  ·rename_i hk;rw[aJ hk];exact tK r h acc hm
theorem Ly{M:Model}{A:υ}{E:L4}{s:η}{scope:Scope}{globals:Addr}{closure:List (Str×Addr)}{qual:Str}{env:Env}{Q:Env->η->Prop}(hQ:Q (newEnv scope s.heap.objs.size globals (cellsFrom (s.heap.objs.size+1) scope.names closure) qual none Value.none (some env) 0) {s with heap:=pushCells (s.heap.push {cls:= .type "dict",data:= .dict #[]}) scope.names}):
  wpAny M A (newFunctionEnv scope globals closure [] qual none .none (some env)) Q E s:=by
 simp only[newFunctionEnv,Option.isSome_some,Tr];refine aq (wpAny_alloc ?_);refine aq (wpAny_layCells _ (fun name kind cells=>by cases hkc:kind==NameKind.cell<;>simp[hkc]) _ _ _ _ ?_);rw[List.forIn_nil];refine aq (aV (aV ?_));rw[show({s with heap:=s.heap.push {cls:= .type "dict",data:= .dict #[]}}:η).heap.objs.size=s.heap.objs.size+1 from Tf ..];exact hQ
noncomputable def aO(sc scope:Scope):Bool:=scope.names.all fun p=>(p.2 !=NameKind.cell||scope.names.lookup p.1==some NameKind.cell)&&(p.2 !=NameKind.local||scope.names.lookup p.1==some NameKind.local)&&
 (p.2 !=NameKind.free||(scope.names.lookup p.1==some NameKind.free&&(sc.names.lookup p.1==some NameKind.cell||sc.names.lookup p.1==some NameKind.free)))
section
variable{sc scope:Scope}
theorem aO.cell(h:aO sc scope=true){x:Str}(hy:(x,NameKind.cell)∈scope.names):scope.names.lookup x=some .cell:=by
 have q:=iR.mp h _ hy;simpa using q
theorem aO.names(h:aO sc scope=true):∀y∈scope.names,y.2= .local->scope.names.lookup y.1=some .local:=fun y hy e=>by
 have q:=iR.mp h y hy;simpa[e]using q
theorem aO.free(h:aO sc scope=true){x:Str}(hy:(x,NameKind.free)∈scope.names):scope.names.lookup x=some .free/\(sc.names.lookup x=some .cell\/sc.names.lookup x=some .free):=by
 have q:=iR.mp h _ hy;simpa using q
end
theorem uR{scope:Scope}{env:Env}{x:Str}(h:(relabel scope env).names.lookup x=some .cell\/(relabel scope env).names.lookup x=some .free):(x,NameKind.free)∈scope.names\/(x,NameKind.cell)∈scope.names:=by
 cases e:scope.names.lookup x with
 |none=>
  have q:=pA (env:=env) e;rcases h with h|h
  ·rw[show(relabel scope env).names.lookup x=none from q]at h;cases h
  ·rw[show(relabel scope env).names.lookup x=none from q]at h;cases h
 |some k=>
  have q:=jm (env:=env) e;have m:=Ez e;by_cases hk:k= .free
  ·subst hk;exact .inl m
  ·have q':(relabel scope env).names.lookup x=some k:=by
    refine Eq.trans q ?_;have:(k==NameKind.free)=false:=by simpa using hk
    simp[this]
   rw[q']at h;rcases h with h|h
   ·cases h;exact .inr m
   ·cases h;exact absurd rfl hk
noncomputable def bD(X:Cx)(scope:Scope)(N:List Str)(s:η)(H:Hp)(cl:List (Str×Addr))(C:Addr)(ex:List Addr):Cx:=
 {X with N:=N,s₀:=s,H₀:=H,env:=compEnvC scope cl C X.env,outer:=X.stack,ex:=ex,fn:=fun x=>scope.names.lookup x==some NameKind.cell,pn:=[],xe:=fun _ _=>False}
section
variable{X:Cx}{tg iter elt:Expr}{ifs:List Expr}{scope:Scope}{pos:Pos}{own caps:List Str}{ix:List Nat}{g:TG}{tc:TT}{te:TE}
noncomputable abbrev Ek(X:Cx)(scope:Scope)(C:Addr):List (Str×Addr):=cellsFrom (C+1) scope.names (iJ X.env.cells scope.names [])
theorem tH{pins:L1}{s:η}{σ:St}{H:Hp}{C:Addr}(ck:aO X.env.scope scope=true)(I:Inv X pins σ H s){x:Str}{c:Addr}(e:(Ek X scope C).lookup x=some c):
  (X.env.cells.lookup x=some c/\(x,NameKind.free)∈scope.names)\/((x,NameKind.cell)∈scope.names/\C<c/\(x,c)∉iJ X.env.cells scope.names []):=by
 have old:(x,c)∈iJ X.env.cells scope.names []->X.env.cells.lookup x=some c/\(x,NameKind.free)∈scope.names:=fun q=>by
  rcases jV q with q|⟨q,mm⟩
  ·cases q
  ·obtain⟨d,hd⟩:=I.ok.has x (aO.free ck mm).2;rw[hd]at q;have q:c=d:=q;rw[q];exact⟨hd,mm⟩
 rcases yP _ _ _ (Ez e)with q|⟨q,m⟩
 ·exact .inl (old q)
 ·refine .inr ⟨q,m,fun z=> ?_⟩;have h1:=aO.cell ck q;have h2:=(aO.free ck (old z).2).1;rw[h1]at h2;cases h2
theorem v9{pins:L1}{s s':η}{σ:St}{H:Hp}{fp:List Addr}{C:Addr}{m:L5}(ck:aO X.env.scope scope=true)(hkind:scope.kind= .function)(hcap:gA X scope caps ix)
  (I:Inv X pins σ H s)(f2:∀b∈fp,FpOk X pins H b)(hlt:∀b∈fp,b<s.heap.objs.size)(hC:s.heap.objs.size<=C)(hos:s'.os=s.os)(hg:AllBare s'.gens)(hk:∀b o,s.heap.get? b=some o->s'.heap.get? b=some o)(hn:s'.heap.Ns C m)(hcl:∀x c,(Ek X scope C).lookup x=some c->(x,c)∉iJ X.env.cells scope.names []->s'.heap.IsCell c none):
  Inv (bD X scope (own++caps) s H (Ek X scope C) C fp) [] (vK own ix σ) H s':=by
 have cl1:=fun x c e=>tH (C:=C) (x:=x) (c:=c) ck I e;have Ak:∀x c,X.env.cells.lookup x=some c->c<s.heap.objs.size:=fun x c e=>by
  obtain⟨v,o,ho,_⟩:=I.cell x c e;exact cO ho
 have cl2:∀x,(x,NameKind.free)∈scope.names\/(x,NameKind.cell)∈scope.names->∃c,(Ek X scope C).lookup x=some c:=fun x mm=>by
  rcases mm with mm|mm
  ·obtain⟨c,hc⟩:=wg (cells:=X.env.cells) (acc:=[]) mm;obtain⟨d,hd,_⟩:=Wm (tL scope.names (C+1) _ hc);exact⟨d,hd⟩
  ·obtain⟨c,hc⟩:=yR scope.names (C+1) (iJ X.env.cells scope.names []) mm;obtain⟨d,hd,_⟩:=Wm hc;exact⟨d,hd⟩
 have inj:∀x y c,(Ek X scope C).lookup x=some c->(Ek X scope C).lookup y=some c->x=y:=fun x y c h1 h2=>by
  rcases cl1 x c h1 with⟨q1,_⟩|⟨q1,m1,_⟩<;>rcases cl1 y c h2 with⟨q2,_⟩|⟨q2,m2,_⟩
  ·exact I.ok.inj x y c q1 q2
  ·exact absurd (JR (gR (Ak x c q1) hC) m2) (qK _)
  ·exact absurd (JR (gR (Ak y c q2) hC) m1) (qK _)
  ·refine yQ (n0:=C+1) scope.names (C+1) _ (bH _) (fun x y c hx hy hc=> ?_) (fun x c hx=> ?_) x y c (Ez h1) (Ez h2) m1
   ·obtain⟨d,hd,_⟩:=Wm hx;rcases jV hx with q|⟨q,mm⟩
    ·cases q
    ·obtain⟨d,hd⟩:=I.ok.has x (aO.free ck mm).2;rw[hd]at q;have q:c=d:=q;subst q;exact absurd (gR (gR (Ak x c hd) hC) (wR hc)) (qK _)
   ·rcases jV hx with q|⟨q,mm⟩
    ·cases q
    ·obtain⟨d,hd⟩:=I.ok.has x (aO.free ck mm).2;rw[hd]at q;have q:c=d:=q;subst q;exact Oa (gR (Ak x c hd) hC)
 have bsz:X.base.objs.size<=s.heap.objs.size:=cC I.ok.bsz I.sz;refine⟨⟨I.ok.mod,hkind,I.ok.glob,I.ok.blt,hC,inj,fun x hx=>cl2 x (uR hx),fun x c h e=> ?cab,I.ok.hd,I.ok.frames,.inl rfl,fun b hb=>⟨dX (gR (hlt b hb) hC),fun x c e=> ?exf⟩,I.bs,bsz,
  fun b o e hb=> ?_,fun b hb hz=> ?_,I.stack,I.stkFree⟩,?_,hg,Un.kept hk,⟨m,hn,fun i x v h1 h2 h3=> ?_⟩,fun x c e=> ?_,I.hok.fresh hC,fun x c e=> ?frc,fun p hp=>absurd (show p∈([]:L1)from hp) (by simp),I.hok.kept hk,?_⟩
 case cab=>
  rcases cl1 x c e with⟨_,q⟩|⟨_,q,_⟩
  ·have y1:=(aO.free ck q).1;have y2:(scope.names.lookup x==some NameKind.cell)=true:=h;rw[y1]at y2;exact absurd y2 (by decide)
  ·exact cC hC (wR q)
 case exf=>
  rcases cl1 x c e with⟨q,_⟩|⟨_,q,_⟩
  ·exact(f2 b hb).2.2.2.2.1 x c q
  ·exact uo (dX (JR (gR (hlt b hb) hC) q))
 case frc=>
  rcases cl1 x c e with⟨q,_⟩|⟨_,q,_⟩
  ·exact I.freeC x c q
  ·exact I.hok.fresh (cC hC (wR q))
 ·rcases(f2 b hb).2.2.2.1 with z|z
  ·exact I.ok.noex b o e z
  ·exact absurd (gR (cO e) (cC I.ok.bsz z)) (qK _)
 ·rcases cD.mp (I.stkSub b hz)with z|z
  ·exact(f2 b hb).2.1 z
  ·exact(f2 b hb).2.2.1 z
 ·exact hos
 ·have h1:(own++caps)[i]? =some x:=h1;have h2:(own.map (fun _=>(none:Option V))++ix.map fun j=>(σ[j]?).join)[i]? =some (some v):=h2;by_cases hi:i<own.length
  ·rw[WD (by simpa using hi),dD]at h2;cases e:own[i]? <;>rw[e]at h2<;>simp at h2
  ·rw[Tq (by simpa using hi)]at h2;rw[Tq (by omega)]at h1;rw[aM]at h2;obtain⟨j,e1,e2,e3⟩:=hcap.get h1;rw[dD,e1]at h2;have h2':(σ[j]?).join=some v:=by simpa using h2
   have h4:σ[j]? =some (some v):=by
    cases q:σ[j]? with
    |none=>rw[q]at h2';cases h2'
    |some w=>rw[q]at h2';exact iy some h2'
   obtain⟨m0,hn0,hl0⟩:=I.loc;have mm:=Ez e3;have vis:=(aO.free ck mm).2;obtain⟨u,r,l⟩:=hl0 j x v e2 h4 (.inr vis);refine⟨u,r,.inr ?_⟩;rcases l with⟨k,_⟩|⟨k,c,e,z⟩
   ·rcases vis with q|q
    ·rw[show X.env.kindOf x=some .cell from q]at k;cases k
    ·rw[show X.env.kindOf x=some .free from q]at k;cases k
   ·obtain⟨d,hd⟩:=cl2 x (.inl mm);rcases cl1 x d hd with⟨this,_⟩|⟨qc,_⟩
    ·rw[e]at this;cases this;exact⟨xG e3,c,hd,z.keeps hk⟩
    ·have y1:=aO.cell ck qc;rw[e3]at y1;cases y1
 ·rcases cl1 x c e with⟨q,_⟩|⟨_,_,q⟩
  ·obtain⟨v,z⟩:=I.cell x c q;exact⟨v,z.keeps hk⟩
  ·exact⟨none,hcl x c e q⟩
 ·show(own.map (fun _=>(none:Option V))++ix.map fun j=>(σ[j]?).join).length=(own++caps).length;simp[hcap.len]
theorem p8(ck:aO X.env.scope scope=true)(hkind:scope.kind= .function)(hcap:gA X scope caps ix)(hc:X.calm=true)(hg:∀s H cl C ex,PG (bD X scope (own++caps) s H cl C ex) tg g)(ht:∀s H cl C ex,PB (bD X scope (own++caps) s H cl C ex) ifs tc)(he:∀s H cl C ex,PE (bD X scope (own++caps) s H cl C ex) elt te){pins:L1}{s2:η}{σ:St}{H2:Hp}{E:L4}(I2:Inv X pins σ H2 s2){it:Addr}{fp:List Addr}{tn:Nat->Heap->Prop}{J:It}(T:Turn X.prog X.w X.K tg J fp it tn)(st2:tn 0 s2.heap)(f2:∀b∈fp,FpOk X pins H2 b)
  {W:Nat->Nat->List V->St->Hp->Prop}{m0:Nat}(w0:W 0 m0 [] (vK own ix σ) H2){Fin:List V->Hp->Prop}(turn:∀i m acc σ H,W i m acc σ H->(J.stop i H/\acc.length<=sizeLine/\Fin acc H)\/(J.go i H/\acc.length<sizeLine/\∃N:List V->St->Hp->Prop,(∀acc' σ' H',N acc' σ' H'->∃m',m'<m/\W (i+1) m' acc' σ' H')/\∀x H',J.yld i H x H'->g x σ H' fun σ2 H2=>tc σ2 H2 fun b H3=>
   if b=true then te σ2 H3 fun v H4=>N (acc++[v]) σ2 H4 else N acc σ2 H3))
  {RR:ζ->Addr->Result->η->Prop}(hRR:∀D C s' acc Hf m,Inv X pins σ (upd Hf D (.lst acc)) s'->Hf D=none->s'.heap.Ns C m->FpOk X pins (upd Hf D (.lst acc)) C->Fin acc Hf->RR (.ref D) C (.ok .next) s'):
  wpAny (model X.prog X.w) X.A (newList []) (fun acc s₃=>wpAny (model X.prog X.w) X.A (newFunctionEnv scope X.env.globals (iJ X.env.cells scope.names []) [] X.env.qual none .none (some X.env)) (fun cenv s₄=>
   codeAny (model X.prog X.w) X.A (.compStart (.ListComp elt [⟨tg,iter,ifs,0⟩] scope pos) 0 (.ref it) acc {cenv with scope:=relabel scope X.env}) (RR acc cenv.locals) s₄) E s₃) E s2:=by
 refine JW (Ly ?_);generalize hP:s2.heap.push {cls:= .type "list",dict:=none,data:= .seq ([]:List ζ).toArray}=P1;have hC:P1.objs.size=s2.heap.objs.size+1:=by rw[<-hP,Tf]
 have hlt:∀b∈fp,b<s2.heap.objs.size:=fun b hb=>by
  obtain⟨o,e,_⟩:=T.obj _ _ st2 b hb;exact cO e
 generalize hh1:pushCells (P1.push {cls:= .type "dict",data:= .dict #[]}) scope.names=h₁;have hns₁:h₁.Ns P1.objs.size (fun _=>none):=by rw[<-hh1];exact(Heap.Ns.new P1 (.type "dict")).keeps (W0 _ _)
 have old:∀b o,s2.heap.get? b=some o->h₁.get? b=some o:=fun b o e=>by
  rw[<-hh1];exact W0 _ _ b o (fG _ (hP▸fG _ e))
 have hD1:h₁.get? s2.heap.objs.size=some {cls:= .type "list",data:= .seq ([]:List ζ).toArray 0}:=by
  rw[<-hh1];exact W0 _ _ _ _ (fG _ (hP▸mW _ rfl))
 have Vz:∀x c,(Ek X scope P1.objs.size).lookup x=some c->(x,c)∉iJ X.env.cells scope.names []->h₁.IsCell c none:=fun x c e n=>by
  have e':(x,c)∈cellsFrom (P1.objs.size+1) scope.names (iJ X.env.cells scope.names []):=Ez e;rw[show P1.objs.size+1=(P1.push {cls:= .type "dict",data:= .dict #[]}).objs.size from(Tf ..).symm]at e';rcases tK _ _ _ e' with q|q
  ·exact absurd q n
  ·rw[<-hh1];exact q
 show codeAny (model X.prog X.w) X.A (.compStart (.ListComp elt [⟨tg,iter,ifs,0⟩] scope pos) 0 (.ref it) (.ref s2.heap.objs.size) {newEnv scope P1.objs.size X.env.globals (Ek X scope P1.objs.size) X.env.qual none Value.none (some X.env) 0 with scope:=relabel scope X.env}) (RR (.ref s2.heap.objs.size) P1.objs.size) {s2 with heap:=h₁};generalize MJ:s2.heap.objs.size=D at *;rw[hC]at hns₁ Vz⊢;have entry:Inv (bD X scope (own++caps) s2 H2 (Ek X scope (D+1)) (D+1) fp) [] (vK own ix σ) H2 {s2 with heap:=h₁}:=
  v9 ck hkind hcap I2 f2 (by rw[MJ];exact hlt) (by rw[MJ];exact TJ _) rfl I2.bare old hns₁ Vz
 generalize hX':bD X scope (own++caps) s2 H2 (Ek X scope (D+1)) (D+1) fp=X' at entry;have eP:X'.prog=X.prog:=by rw[<-hX'];rfl
 have ew:X'.w=X.w:=by rw[<-hX'];rfl
 have eK:X'.K=X.K:=by rw[<-hX'];rfl
 have eA:X'.A=X.A:=by rw[<-hX'];rfl
 have Pr:X'.calm=true:=by rw[<-hX'];exact hc
 have Z6:X'.fs=frs X.stack:=by rw[<-hX'];rfl
 have eex:X'.ex=fp:=by rw[<-hX'];rfl
 have epn:X'.pn=[]:=by rw[<-hX'];rfl
 have Z4:X'.s₀=s2:=by rw[<-hX'];rfl
 have eH0:X'.H₀=H2:=by rw[<-hX'];rfl
 have exe:X'.xe=fun _ _=>False:=by rw[<-hX'];rfl
 have Nh:X'.env=compEnvC scope (Ek X scope (D+1)) (D+1) X.env:=by rw[<-hX'];rfl
 have Jl:X'.env.locals=D+1:=by rw[Nh];rfl
 have hg':PG X' tg g:=by rw[<-hX'];exact hg _ _ _ _ _
 have ht':PB X' ifs tc:=by rw[<-hX'];exact ht _ _ _ _ _
 have he':PE X' elt te:=by rw[<-hX'];exact he _ _ _ _ _
 have ecl:∀x c,X'.env.cells.lookup x=some c->c≠D:=fun x c e=>by
  rw[Nh]at e;rcases tH (C:=D+1) ck I2 e with⟨q,_⟩|⟨_,q,_⟩
  ·obtain⟨v',o',ho',_⟩:=I2.cell x c q;exact dX (by rw[<-MJ];exact cO ho')
  ·exact uo (dX (JR (JV D) q))
 have dfs:D∉frs X.stack:=fun hb=>by
  rcases cD.mp (I2.stkSub D hb)with z|z
  ·exact absurd (Nat.lt_of_lt_of_eq I2.lt MJ) (by rw[z];exact qK _)
  ·exact I2.nofs (zE MJ) z
 have Z0:∀{H':Hp} {o:Obj},(∀b∈fp,H' b=none)->∀b∈fp,FpOk X' [(D,o)] H' b:=fun{H' o} hn b hb=>by
  have ZM:=hlt b hb;refine⟨hn b hb,by rw[Jl];exact dX (Oa ZM),?_,.inl (by rw[eex];exact hb),fun x c e=> ?_,fun p hp=> ?_⟩
  ·rw[Z6];intro z;rcases cD.mp (I2.stkSub b z)with z|z
   ·exact(f2 b hb).2.1 z
   ·exact(f2 b hb).2.2.1 z
  ·rw[Nh]at e;rcases tH (C:=D+1) ck I2 e with⟨q,_⟩|⟨_,q,_⟩
   ·exact(f2 b hb).2.2.2.2.1 x c q
   ·exact uo (dX (JR (Oa ZM) q))
  ·rw[epn]at hp;have:p=(D,o):=by simpa using hp
   rw[this];exact Qc ZM
 have Zc:∀{σ':St} {H':Hp} {s':η} {o:Obj},Inv X' [] σ' H' s'->s'.heap.get? D=some o->H' D=none->(∀v,o.data≠.cell v)->Inv X' [(D,o)] σ' H' s':=fun{σ' H' s' o} I e n d=>
  I.pins_of fun p hp=>by
   have:p=(D,o):=by simpa using hp
   subst this;exact⟨e,n,by rw[Jl];exact dX (JV D),by rw[Z6];exact dfs,d⟩
 have loop:∀s₃:η,s₃={s2 with heap:=h₁}->
   codeAny (model X.prog X.w) X.A (.compLoop (.ListComp elt [⟨tg,iter,ifs,0⟩] scope pos) 0 (.ref it) (.ref D) X'.env) (RR (.ref D) (D+1)) s₃:=by
  intro s₃ hs₃;refine codeAny_loop rfl (fun n s'=>∃i acc its k σ' H',Inv X' [] σ' H' s'/\tn i s'.heap/\(∀b∈fp,H' b=none)/\s'.heap.get? D=some {cls:= .type "list",data:= .seq (List.toArray its) k}/\Vals acc its/\H' D=none/\W i n acc σ' H') ?_ m0
   ⟨0,[],[],0,vK own ix σ,H2,by rw[hs₃];exact entry,by rw[hs₃];exact T.keep _ _ _ st2 fun b _ o e=>old b o e,fun b hb=>(f2 b hb).1,by rw[hs₃];exact hD1,.nil,I2.hok.fresh (zE MJ),w0⟩
  rintro n s3 ⟨i,acc,its,k,σ3,H3,I3,st3,fr3,eD,rv,nD,w3⟩;show wpAny _ X.A ((compTurn (.ListComp elt [⟨tg,iter,ifs,0⟩] scope pos) 0 (.ref it) (.ref D) X'.env).onRaise (fun x=>do noteFrame x X'.env;theTreesLotGoes x)) _ _ s3;refine wpAny_noted ?_;rw[compTurn_list];have Zh:∀{α:Type} {t:Sem α} {Q:α->η->Prop} {E':L4} {s:η},wpAny (model X'.prog X'.w) X'.A t Q X'.xe s->wpAny (model X.prog X.w) X.A t Q E' s:=fun{α t Q E' s} h=>by
   rw[eP,ew,eA,exe]at h;exact uz h (fun _ _ q=>q) fun _ _ z=>z.elim
  have I3':=Zc (o:={cls:= .type "list",data:= .seq (List.toArray its) k}) I3 eD nD (fun v z=>by
   have z':Data.seq (List.toArray its) k=Data.cell v:=z;cases z')
  refine aq (wpAny_standAt (aq ?_));rcases turn i n acc σ3 H3 w3 with⟨stop,hz,fin⟩|⟨go,hz,Nn,hN,step⟩
  ·have q:=T.done X' eP ew eK Pr i [(D,_)] s3 σ3 H3 (notedBy (model X.prog X.w) X.A X'.env fun e s'=>RR (.ref D) (D+1) (.error e) s') I3' (Z0 fr3) st3 stop;rw[eA]at q;refine thn q fun r s4 ⟨hr,I4⟩=> ?_;subst hr;refine aV ?_;obtain⟨e4,_⟩:=I4.pin (D,_) (jC _ cH);obtain⟨mC,hnC,_⟩:=I4.loc;have u4:=I4.base;rw[Z6,eex,eH0,Z4]at u4;have ok4:=I4.hok;rw[eP,ew]at ok4;have nC:H3 (D+1)=none:=by have:=I4.free;rw[Jl]at this;exact this
   have hok:HOk X.prog X.w (upd H3 D (.lst acc)) s4.heap:=ok4.add nD ⟨hz,its,k,rv,e4⟩;refine hRR D (D+1) s4 acc H3 mC ?_ nD (by rw[Jl]at hnC;exact hnC) ?_ fin
   ·refine I2.call' (s':=s4) (ch:=fp) ?_ (u4.add (by rw[MJ];exact bH _) nD) hok I4.bare fun b hb=> ?_
    ·have:=I4.os;rw[Z4]at this;exact this
    ·obtain⟨f0,f1,f3,f4,f5,f6⟩:=f2 b hb;exact⟨f4,f1,f5,f6⟩
   ·refine I2.fpOk (by rw[MJ];exact TJ _) ?_;rw[cN (Qc (JV D))];exact nC
  ·have q:=T.item X' eP ew eK Pr i [(D,_)] s3 σ3 H3 (notedBy (model X.prog X.w) X.A X'.env fun e s'=>RR (.ref D) (D+1) (.error e) s') I3' (Z0 fr3) st3 go;rw[eA]at q;refine thn q fun r s4 ⟨u,hr,h4⟩=> ?_;subst hr;dsimp only;refine aq (thn h4 fun _ s5 ⟨x,H5,I5,r5,y5,st5,fr5⟩=> ?_);have I5':=I5.pinned (Z0 fr5) (T.obj _ _ st5);have again:∀{σ7:St} {H7:Hp} {s7:η},Inv X' ([(D,{cls:= .type "list",data:= .seq (List.toArray its) k})]++pinsAt fp s5.heap) σ7 H7 s7->tn (i+1) s7.heap/\(∀b∈fp,H7 b=none)/\s7.heap.get? D=some {cls:= .type "list",data:= .seq (List.toArray its) k}/\H7 D=none:=fun{σ7 H7 s7} I7=>by
    refine⟨T.keep _ _ _ st5 fun b hb o e=>(I7.pin (b,o) (jC _ (jC _ (mem_pinsAt hb e)))).1,fun b hb=> ?_,?_⟩
    ·obtain⟨o,e,d⟩:=T.obj _ _ st5 b hb;exact(I7.pin (b,o) (jC _ (jC _ (mem_pinsAt hb e)))).2.1
    ·have:=I7.pin (D,_) (jC _ (Qj _ cH));exact⟨this.1,this.2.1⟩
   refine aq (thn (Zh (hg' _ s5 σ3 H5 x u _ I5' r5 (step x H5 y5))) fun _ s6 ⟨σ6,H6,I6,q6⟩=> ?_);refine aq (thn (Zh (ht' _ s6 σ6 H6 _ I6 q6)) fun ok s7 ⟨H7,I7,q7⟩=> ?_);cases ok with
   |false=>
    rw[aJ lQ]at q7;obtain⟨m',hm,w7⟩:=hN _ _ _ q7;obtain⟨a1,a2,a3,a4⟩:=again I7;exact aV ⟨rfl,m',hm,i+1,acc,its,k,σ6,H7,I7.pins_of (fun p hp=>nomatch hp),a1,a2,a3,rv,a4,w7⟩
   |true=>
    rw[aL rfl]at q7;refine aq (aq (thn (Zh (he' _ s7 σ6 H7 _ I7 q7)) fun v s8 ⟨y,H8,I8,r8,q8⟩=> ?_));obtain⟨m',hm,w8⟩:=hN _ _ _ q8;obtain⟨a1,a2,a3,a4⟩:=again I8;have hl:=rv.length;refine aq (Tw F.slot_list_append ⟨_,a3,rfl⟩ F.entry_list_append (F.args_list_append_2 _ _) (PySem.list_append D its.toArray k v (by rw[eG];omega)) ⟨a3,?_⟩);refine aV (aV ⟨rfl,m',hm,i+1,acc++[y],its++[v],?_⟩);have qD:=PySem.IsL.update a3 (fun a:Array ζ=>a.push v);rw[List.push_toArray]at qD;have kp:∀b o,b≠D->s8.heap.get? b=some o->(s8.heap.update D (Obj.mapSeq fun a=>a.push v)).get? b=some o:=fun b o hb e=>(YQ s8.heap _ (uo hb)).trans e;have I8':Inv X' [] σ6 H8 {s8 with heap:=s8.heap.update D (Obj.mapSeq fun a=>a.push v)}:=by
     refine(I8.pins_of (pins':=[]) (fun p hp=>nomatch hp)).turned (t':=s8.toks) (it:=D) kp a4 (by rw[Jl];exact dX (JV D)) (.inr (by rw[Z4,MJ];exact bH _)) (fun x c e=>ecl x c e) (fun p hp=> ?_);rw[epn]at hp;exact nomatch hp
    exact⟨_,σ6,H8,I8',T.keep _ _ _ a1 fun b hb o e=>kp b o (dX (hlt b hb)) e,a2,qD,rv.append (.cons r8 .nil),a4,w8⟩
 have V3:({newEnv scope (D+1) X.env.globals (Ek X scope (D+1)) X.env.qual none Value.none (some X.env) 0 with scope:=relabel scope X.env}:Env)=X'.env:=by rw[Nh];rfl
 have L:=loop _ rfl;rw[<-V3]at L;exact codeAny_compStart_list L (T.self X.A 0 _ _ _ (T.keep _ _ _ st2 fun b _ o e=>old b o e) L)
end
section
variable{X:Cx}{tg iter elt:Expr}{ifs:List Expr}{scope:Scope}{pos:Pos}{own caps:List Str}{ix:List Nat}{wi:TI}{g:TG}{tc:TT}{te:TE}
theorem Gw(hc:X.calm=true)(hi:PI X tg iter wi)(ck:aO X.env.scope scope=true)(hkind:scope.kind= .function)(hcap:gA X scope caps ix)(hg:∀s H cl C ex,PG (bD X scope (own++caps) s H cl C ex) tg g)(ht:∀s H cl C ex,PB (bD X scope (own++caps) s H cl C ex) ifs tc)(he:∀s H cl C ex,PE (bD X scope (own++caps) s H cl C ex) elt te)(hs:∀x,foldedSetIterable iter X.env x=pure x:=by intro _;rfl):PE X (.ListComp elt [⟨tg,iter,ifs,0⟩] scope pos) (zP wi own ix g tc te):=by
 intro pins s σ H Q I h;rw[eval_ListComp];refine wpAny_comprehension_free (use:=none) rfl hs (qb fun x hx=>I.ok.has x ((aO.free ck hx).2)) hkind (aO.names ck) (thn (hi pins s σ H _ I h) fun xv s1 h1=>thn h1 fun itv s2 h2=> ?_);obtain⟨it,fp,tn,J,H2,e,I2,T,st2,f2,W,⟨m0,w0⟩,turn⟩:=h2;subst e;refine p8 (RR:=fun acc C=>compPost (model X.prog X.w) X.A X.xe none (EP X pins σ Q) acc C) ck hkind hcap hc hg ht he I2 T st2 f2 w0 turn ?_;intro D C s' acc Hf m I' nD hn fC fin;refine⟨m,hn,fun h' sb=> ?_⟩;obtain⟨f0,f1,f3,f4,f5,f6⟩:=fC;exact⟨.ref D,_,I'.turned (t':=s'.toks) (it:=C) (fun b o hb e=>(sb.2 b hb).trans e) f0 f1 f4 f5 f6,rfl,fin D nD⟩
theorem pK{X:Cx}{tg iter elt:Expr}{ifs:List Expr}{scope:Scope}{pos:Pos}{wi:TI}{g:TG}{tc:TT}{te:TE}(own caps:List Str)(ix:List Nat)(hi:PI X tg iter wi)(hg:∀{s H cl C ex},PG (bD X scope (own++caps) s H cl C ex) tg g)(ht:∀{s H cl C ex},PB (bD X scope (own++caps) s H cl C ex) ifs tc)(he:∀{s H cl C ex},PE (bD X scope (own++caps) s H cl C ex) elt te)(hcap:gA X scope caps ix:=by repeat(first |exact gA.nil|refine gA.cons rfl rfl ?_))(hc:X.calm=true:=by rfl)(ck:aO X.env.scope scope=true:=by rfl)(hkind:scope.kind= .function:=by rfl)(hs:∀x,foldedSetIterable iter X.env x=pure x:=by intro _;rfl):PE X (.ListComp elt [⟨tg,iter,ifs,0⟩] scope pos) (zP wi own ix g tc te):=Gw hc hi ck hkind hcap (fun _ _ _ _ _=>hg) (fun _ _ _ _ _=>ht) (fun _ _ _ _ _=>he) hs
theorem uT{i:Nat}{y:Str}{py spos:Pos}(hN:X.N.Nodup)(hiN:X.N[i]? =some y)(hx:Loc X.env.scope y)(hc:X.calm=true)(hi:PI X tg iter wi)(ck:aO X.env.scope scope=true)(hkind:scope.kind= .function)(hcap:gA X scope caps ix)(hg:∀s H cl C ex,PG (bD X scope (own++caps) s H cl C ex) tg g)(ht:∀s H cl C ex,PB (bD X scope (own++caps) s H cl C ex) ifs tc)(he:∀s H cl C ex,PE (bD X scope (own++caps) s H cl C ex) elt te)(hsw:swapsWith (.ListComp elt [⟨tg,iter,ifs,0⟩] scope pos) (some (.Name y py)) spos.line X.env=pure true:=by rfl)(hf:X.fn y=true\/X.env.scope.names.lookup y=some .local:=by first |exact .inl rfl|exact .inr rfl|assumption)(hs:∀x,foldedSetIterable iter X.env x=pure x:=by intro _;rfl):PS X (.Assign [.Name y py] (.ListComp elt [⟨tg,iter,ifs,0⟩] scope pos) spos) (tAsg (zP wi own ix g tc te) (gName i)):=by
 intro pins s σ H Dn I h;rw[exec_Assign_Name_used _ _ _ _ hsw];refine aq (wpAny_standAt (aq ?_));show wpAny _ X.A (do let _<-comprehension (.ListComp elt [⟨tg,iter,ifs,0⟩] scope pos) scope X.env _ (newList []) false (eval iter X.env) (some (assign (.Name y py) X.env))) _ _ s;refine aq (uz (wpAny_comprehension_free (use:=some (assign (.Name y py) X.env)) (Q:=fun _ s'=>SP X pins Dn .next s') rfl hs (qb fun x hx=>I.ok.has x ((aO.free ck hx).2)) hkind (aO.names ck)
  (thn (hi pins s σ H _ I h) fun xv s1 h1=>thn h1 fun itv s2 h2=> ?_)) (fun _ s' hq=>aV (aV hq)) fun _ _ e=>e)
 obtain⟨it,fp,tn,J,H2,e,I2,T,st2,f2,W,⟨m0,w0⟩,turn⟩:=h2;subst e;refine p8 (RR:=fun acc C=>compPost (model X.prog X.w) X.A X.xe (some (assign (.Name y py) X.env)) (fun _ s'=>SP X pins Dn .next s') acc C) ck hkind hcap hc hg ht he I2 T st2 f2 w0 turn ?_;intro D C s' acc Hf m I' nD hn fC fin;obtain⟨f0,f1,f3,f4,f5,f6⟩:=fC;show wpAny _ X.A (assign (.Name y py) X.env (.ref D)) _ _ _;refine wpAny_assign_Name (store_ok2 I' hN hiN hx (show RelV (.ref D) (.ref D)from rfl) (fun s'' I'' ⟨a,sb,ha⟩=> ?_) hf);have hCa:C≠a:=by
  rcases ha with ha|ha
  ·rw[ha];exact f1
  ·exact fun z=>f5 y a ha z.symm
 refine⟨m,hn.sameBut sb hCa,fun h' sb'=> ?_⟩;exact⟨_,_,I''.turned (t':=s''.toks) (it:=C) (fun b o hb e=>(sb'.2 b hb).trans e) f0 f1 f4 f5 f6,fin D nD⟩
theorem pX{X:Cx}{tg iter elt:Expr}{ifs:List Expr}{scope:Scope}{pos:Pos}{wi:TI}{g:TG}{tc:TT}{te:TE}{y:Str}{py spos:Pos}(i:Nat)(own caps:List Str)(ix:List Nat)(hi:PI X tg iter wi)(hg:∀{s H cl C ex},PG (bD X scope (own++caps) s H cl C ex) tg g)(ht:∀{s H cl C ex},PB (bD X scope (own++caps) s H cl C ex) ifs tc)(he:∀{s H cl C ex},PE (bD X scope (own++caps) s H cl C ex) elt te)(hcap:gA X scope caps ix:=by repeat(first |exact gA.nil|refine gA.cons rfl rfl ?_))(hc:X.calm=true:=by rfl)(ck:aO X.env.scope scope=true:=by rfl)(hkind:scope.kind= .function:=by rfl)(hN:decide X.N.Nodup=true:=by kernel_rfl)(hi_:X.N[i]? =some y:=by rfl)(hx:Loc X.env.scope y:=by first |exact Or.inl rfl|exact Or.inr rfl)(hsw:swapsWith (.ListComp elt [⟨tg,iter,ifs,0⟩] scope pos) (some (.Name y py)) spos.line X.env=pure true:=by rfl)(hf:X.fn y=true\/X.env.scope.names.lookup y=some .local:=by first |exact .inl rfl|exact .inr rfl|assumption)(hs:∀x,foldedSetIterable iter X.env x=pure x:=by intro _;rfl):PS X (.Assign [.Name y py] (.ListComp elt [⟨tg,iter,ifs,0⟩] scope pos) spos) (tAsg (zP wi own ix g tc te) (gName i)):=uT (qX hN) hi_ hx hc hi ck hkind hcap (fun _ _ _ _ _=>hg) (fun _ _ _ _ _=>ht) (fun _ _ _ _ _=>he) hsw hf hs
end
end L2
namespace L2
open PySem PySem.W PySem.Spec PyProof.Rows
section
variable{X:Cx}
theorem tO:CallR X (.builtin "sorted") (fun xs H Q=>∃(a:Addr) (its:List (Addr×List Int)),xs=[.ref a]/\SqL X.K H a (its.map fun p=>V.ref p.1)/\(∀p∈its,SqT X.K H p.1 (p.2.map V.int)/\(2<=its.length->p.2≠[]))/\its.length<64/\
  ∀(l:Addr) (its':List (Addr×List Int)),H l=none->its'.Perm its->its'.Pairwise (fun p q=>HT.lexLt q.2 p.2=false)->Q (.ref l) (upd H l (.lst (its'.map fun p=>V.ref p.1)))):=by
 intro pins s σ H xs us Q I r h;obtain⟨a,its,rfl,hS,hT,h64,q⟩:=h;obtain⟨u,rfl,ru⟩:=r.one;cases ru;obtain⟨vs,rv,pl,hz⟩:=I.list hS;have hlen:its.length=vs.length:=by have:=rv.length;simpa using this
 -- the values beside the tuples
 have pr:Paired (fun(p:Addr×List Int) (v:ζ)=>v= .ref p.1) its vs:=by
  have go:∀(l:List (Addr×List Int)) (us:List ζ),Vals (l.map fun p=>V.ref p.1) us->Paired (fun(p:Addr×List Int) (v:ζ)=>v= .ref p.1) l us:=by
   intro l
   induction l with
   |nil=>intro us h;cases h;exact .nil
   |cons p l ih=>
    intro us h;cases h with
    |cons r t=>exact .cons r (ih _ t)
  exact go its vs rv
 have tup:∀p∈its,∃(items:List ζ),IntsAre items p.2/\IsTup s.heap p.1 items.toArray:=fun p hp=>by
  obtain⟨its',r',t',_⟩:=I.tuple (hT p hp).1;exact⟨its',Uj r',t'⟩
 refine ql.oX (O:=ql.lexOrd) (key:=fun i=>(its.getD i (0,[])).2) (κ:=tuples' true) (s:=s) pl.isList (by omega) (fun h2 h' k E' Q' hq=> ?_) (fun h2 h' k=> ?_) (fun D h' out c ho hD k hc=> ?_)
 ·have kt:∀(l:List (Addr×List Int)) (us:List ζ),Paired (fun(p:Addr×List Int) (v:ζ)=>v= .ref p.1) l us->(∀p∈l,p∈its)->∃fs:List ζ,KatTups h' us fs/\fs.length=us.length/\∀v∈fs,∃i t,v=Value.int i t:=by
   intro l us h
   induction h with
   |nil=>intro _;exact⟨[],trivial,rfl,fun _ hv=>nomatch hv⟩
   | @cons p v l us r t ih=>
    intro hs;obtain⟨fs,k1,k2,k3⟩:=ih fun p hp=>hs p (cP _ hp);obtain⟨items,hi,o,e,hc,n,hd⟩:=tup p (hs p cH);have hne:=(hT p (hs p cH)).2 (by omega);obtain⟨pa,pn⟩:=p;dsimp only at hi hne e r;cases hi with
    |nil=>exact absurd rfl hne
    |cons i t hi'=>
     rw[r];refine⟨Value.int i t::fs,KatTups.cons (k _ _ e) hc hd (by simp) k1,by simp[k2],fun v hv=> ?_⟩;rcases cD.mp hv with e|e
     ·exact⟨i,t,e⟩
     ·exact k3 v e
  obtain⟨fs,k1,k2,k3⟩:=kt its vs pr fun _ hp=>hp;refine kat_kind (s:={s with heap:=h'}) (T:= .type "int") k1 (by omega) (fun v hv=> ?_) (by rfl) hq;obtain⟨i,t,rfl⟩:=k3 v hv;exact fun A Q E s _ q=>aV q
 ·intro i j C hi hj hC;rw[<-hlen]at hi hj;have get:∀i (hi:i<its.length),vs.getD i Value.none= .ref its[i].1:=by
   have go:∀(l:List (Addr×List Int)) (us:List ζ),Paired (fun(p:Addr×List Int) (v:ζ)=>v= .ref p.1) l us->∀i (hi:i<l.length),us.getD i Value.none= .ref l[i].1:=by
    intro l us h
    induction h with
    |nil=>intro i hi;simp at hi
    |cons r t ih=>
     intro i hi;cases i with
     |zero=>exact r
     |succ i=>simpa using ih i (by simpa using hi)
   exact go its vs pr
  unfold kas_ask;rw[get i hi,get j hj];obtain⟨xi,hxi,oi,ei,ci,ni,di⟩:=tup its[i] (Bm _);obtain⟨xj,Kc,oj,ej,cj,nj,dj⟩:=tup its[j] (Bm _);refine kat_lt (s:={s with heap:=h'}) (k _ _ ei) di (k _ _ ej) dj ?_;refine ql.pQ 0 hxi Kc ?_ ?_
  ·have:=hxi.length;have:=Kc.length;simp only[eG];omega
  ·rw[HT.aW];have e1:its.getD i (0,[])=its[i]:=by simp[hi]
   have e2:its.getD j (0,[])=its[j]:=by simp[hj]
   have hC':C (decide ((its.getD i (0,[])).2<(its.getD j (0,[])).2)) {s with heap:=h'}:=hC;rw[e1,e2]at hC';exact hC'
 ·obtain⟨its',hp,hr,hw⟩:=ql.sJ (d:=((0,[]):Addr×List Int)) (f:=fun p=>p.2) pr (fun i hi=>by show(its.getD i (0,[])).2=_;simp[hi]) ho;have hn:H D=none:=I.hok.fresh hD;have rv':Vals (its'.map fun p=>V.ref p.1) out:=by
   have go:∀(l:List (Addr×List Int)) (us:List ζ),Paired (fun(p:Addr×List Int) (v:ζ)=>v= .ref p.1) l us->Vals (l.map fun p=>V.ref p.1) us:=by
    intro l us h
    induction h with
    |nil=>exact .nil
    |cons r t ih=>exact .cons r ih
   exact go its' out hr
  have zl:(its'.map fun p=>V.ref p.1).length<=sizeLine:=by
   have:=hp.length_eq;rw[aM];exact wR (small1000 (by omega))
  have J:Inv X pins σ (upd H D (.lst (its'.map fun p=>V.ref p.1))) {s with heap:=h',toks:=s.toks}:=I.laid k hD ⟨zl,out,c,rv',hc⟩;refine⟨.ref D,_,J,rfl,q D its' hn hp (hw.imp fun{x y} hxy=> ?_)⟩;rw[HT.aW];exact hxy
theorem kZ(K:W.Frag){a:Expr}{ta:TE}(ha:PE X a ta)(he:∀whole,isTrue a X.env whole=(do let v<-whole;standAt a.pos;holding [v] (truthy v)))(h:X.K=K:=by rfl):
  PT X a (fun σ H Q=>ta σ H fun x H'=>∃k,TruV K x H' k/\Q k H'):=by subst h;exact pt_truth ha he
end
end L2
namespace L2
open PySem PySem.Spec PyProof.Rows
section
variable{prog:ξ}{w:τ}{A:υ}{E:L4}{s:η}{l:Addr}{kid:String}{vs:List ζ}{R:Result->η->Prop}{Q:L4}
noncomputable def Kp(s:η)(h:Heap):Prop:=∀b o,s.heap.get? b=some o->h.get? b=some o
theorem Rw(kf:Nat->Int)(hA:A.handled=none)(hl:s.heap.IsList l vs.toArray)(turn:∀(i:Nat) (v:ζ),vs[i]? =some v->∀(h:Heap) (tk:Nat),Kp s h->∀Q E:ζ->η->Prop,(∀t tk',Q (.int (kf i) t) {s with heap:=h,toks:=tk'})->wpAny (model prog w) A.in1 (call (.builtin kid) [v]) Q E {s with heap:=h,toks:=tk})(hR:∀i v h' tk',vs[i]? =some v->(∀j,j<vs.length->kf j<=kf i/\(j<i->kf j<kf i))->Kp s h'->R (.ok (.ret v)) {s with heap:=h',toks:=tk'}):
  ∀(r j i:Nat) (h:Heap) (tk:Nat) (vb:ζ) (tb:Tok) (c:Nat),vs.length-(j+1)=r->j+1<=vs.length->Kp s h->h.get? (s.heap.objs.size+1)=some (seqObj "list" #[vb,.int (kf i) tb] c)->h.IsListIter s.heap.objs.size l (j+1)->vs[i]? =some vb->i<=j->(∀j',j'<=j->kf j'<=kf i/\(j'<i->kf j'<kf i))->
   codeAny (model prog w) A (.builtin "max.loop" ⟨[.ref s.heap.objs.size,.builtin kid,.ref (s.heap.objs.size+1)],[]⟩) R {s with heap:=h,toks:=tk}:=by
 have nm:(toString "max"++toString ".loop":String)="max.loop":=by decide
 obtain⟨ol,hol,ZG,wM,ZF⟩:=id hl;have O9:l≠s.heap.objs.size:=dX (cO hol);have W:=Walks.list (prog:=prog) (w:=w) (A:=A.in1) hA s.heap.objs.size l O9 vs.toArray;have zs:vs.toArray.size=vs.length:=eG ..;have Pb:s.heap.objs.size+1≠s.heap.objs.size:=Qc (JV _);have hlK:∀h,Kp s h->h.IsList l vs.toArray:=fun h k=>⟨ol,k _ _ hol,ZG,wM,ZF⟩;have kI:∀h h',Kp s h->(∀b o,b∉[s.heap.objs.size]->h.get? b=some o->h'.get? b=some o)->Kp s h':=fun h h' k q b o e=>q b o (fun z=>qK _ ((eN.mp z)▸cO e)) (k b o e);have kS:∀h h',Kp s h->(∀b,b≠s.heap.objs.size+1->h'.get? b=h.get? b)->Kp s h':=fun h h' k q b o e=>(q b (dX (Oa (cO e)))).trans (k b o e);intro r
 induction r with
 |zero=>
  intro j i h tk vb tb c hr hj k hS hit hvb hij hbest;refine Ew YM (by
   rw[Kr Qw _];show wpAny _ A.in1 (seqItems? (.ref (s.heap.objs.size+1))>>=_) _ _ _;refine aq (Qs hS rfl (?_));show wpAny _ A.in1 (tryCatch (pyNext (.ref s.heap.objs.size)) _>>=_) _ _ _;refine aq (Ei (W.done _ _ _ ⟨by rw[zs,<-show j+1=vs.length by omega];exact hit,hlK h k⟩ fun h' tk' hk'=> ?_));have g:=hk' (s.heap.objs.size+1) _ (by simp) hS;show wpAny _ A.in1 (updateSeq (s.heap.objs.size+1) (fun _=>#[])>>=_) _ _ _;refine aq (TV g rfl (aq (Oi (aV ?_))));exact hR i vb _ _ hvb (fun j' hj'=>hbest j' (by omega)) (kS _ _ (kI _ _ k hk') (Ey h' (s.heap.objs.size+1) (Obj.mapSeq fun _=>(#[]:Array ζ))).2))
 |succ r ih=>
  intro j i h tk vb tb c hr hj k hS hit hvb hij hbest;have hlt:j+1<vs.length:=by omega
  refine Ew YM (by
   rw[Kr Qw _];show wpAny _ A.in1 (seqItems? (.ref (s.heap.objs.size+1))>>=_) _ _ _;refine aq (Qs hS rfl (?_));show wpAny _ A.in1 (tryCatch (pyNext (.ref s.heap.objs.size)) _>>=_) _ _ _;refine aq (Ei (W.item (j+1) _ _ _ (by rw[zs];exact hlt) ⟨hit,hlK h k⟩ fun v h' tk' hP hst' hk'=> ?_));have hv:vs[j+1]? =some v:=(by simpa using hP);have k1:=kI _ _ k hk';have g:=hk' (s.heap.objs.size+1) _ (by simp) hS;show wpAny _ A.in1 (tryCatch (holding [v] (call (.builtin kid) [v])) _>>=_) _ _ _;refine aq (Ei (rZ (turn (j+1) v hv h' tk' k1 _ _ fun t2 tk2=> ?_)));show wpAny _ A.in1 (tryCatch (holding [v,.int (kf (j+1)) t2] (richCompare .Gt (.int (kf (j+1)) t2) (.int (kf i) tb)>>=_)) _>>=_) _ _ _;refine aq (Ei (rZ (aq (CmpOf.ints_gt (prog:=prog) (w:=w) (A:=A.in1) (P:=fun i v=>∃t,v= .int (kf i) t) kf (fun i v h=>h) (j+1) i _ _ _ _ _ ⟨t2,rfl⟩ ⟨tb,rfl⟩ (aq (rZ (JX (aq (Oi (aV ?_))))))))));by_cases hb:kf (j+1)>kf i
   ·have sb:=Ey h' (s.heap.objs.size+1) (Obj.mapSeq fun _=>#[v,.int (kf (j+1)) t2]);obtain⟨c2,hc2⟩:∃c2,(h'.update (s.heap.objs.size+1) (Obj.mapSeq fun _=>#[v,.int (kf (j+1)) t2])).get? (s.heap.objs.size+1)=some (seqObj "list" #[v,.int (kf (j+1)) t2] c2):=⟨_,Ol g fun _=>#[v,.int (kf (j+1)) t2]⟩;simp only[hb,decide_true,Tr];refine aq (TV g rfl (aq (Oi ?_)));obtain⟨oI,hoI,hoc,hod⟩:=id hst'.1;rw[nm];refine aV ⟨Ko Qw _,ih (j+1) (j+1) _ _ v t2 c2 (by omega) hlt (kS _ _ k1 sb.2) hc2 ⟨oI,(sb.2 _ Pb.symm).trans hoI,hoc,hod⟩ hv (bH _) fun j' hj'=> ?_⟩;by_cases e:j'=j+1
    ·subst e;exact⟨JM _,fun z=>absurd z (qK _)⟩
    ·have q:=(hbest j' (by omega)).1;exact⟨by omega,fun _=>by omega⟩
   ·simp only[hb,decide_false,Oo,Eu];refine aq (Oi (?_));rw[nm];refine aV ⟨Ko Qw _,ih (j+1) i _ _ vb tb c (by omega) hlt k1 g hst'.1 hvb (by omega) fun j' hj'=> ?_⟩;by_cases e:j'=j+1
    ·subst e;exact⟨by omega,fun z=>by omega⟩
    ·exact hbest j' (by omega))
theorem LK(kf:Nat->Int)(hA:A.handled=none)(hl:s.heap.IsList l vs.toArray)(hne:0<vs.length)(turn:∀(i:Nat) (v:ζ),vs[i]? =some v->∀(h:Heap) (tk:Nat),Kp s h->∀Q E:ζ->η->Prop,(∀t tk',Q (.int (kf i) t) {s with heap:=h,toks:=tk'})->wpAny (model prog w) A.in1 (call (.builtin kid) [v]) Q E {s with heap:=h,toks:=tk})(hQ:∀i v h' tk',vs[i]? =some v->(∀j,j<vs.length->kf j<=kf i/\(j<i->kf j<kf i))->Kp s h'->Q v {s with heap:=h',toks:=tk'}):
  wpAny (model prog w) A (call (.builtin "max") [.ref l] [(Str.ofString "key",.builtin kid)]) Q E s:=by
 have nm:(toString "max"++toString ".loop":String)="max.loop":=by decide
 obtain⟨ol,hol,ZG,wM,ZF⟩:=id hl;have O9:l≠s.heap.objs.size:=dX (cO hol);refine kmb_tree PySem.F.kind_max PySem.F.plain_max PySem.F.entry_max (kmb_max_key _ _) (by
  show wpAny _ A.in1 (Builtin.Builtins.bindParams "max" ["key","default"] 0 ⟨[],[(Str.ofString "key",.builtin kid)]⟩>>=_) _ _ s;refine aq (wpAny_of_eq (show Builtin.Builtins.bindParams "max" ["key","default"] 0 ⟨[],[(Str.ofString "key",.builtin kid)]⟩=pure [some (.builtin kid),none]from rfl) (aq (aV (aq (wed hl (aq (TQ ?_ (gG _))))))));rw[nm];have zS:(s.heap.push {cls:= .type "list_iterator",data:= .fields #[.ref l,.int 0 0]}).objs.size=s.heap.objs.size+1:=size_push' ..;rw[zS];have k0:Kp s ((s.heap.push {cls:= .type "list_iterator",data:= .fields #[.ref l,.int 0 0]}).push (seqObj "list" #[] 0)):=fun b o e=>fG _ (fG _ e);have gI:((s.heap.push {cls:= .type "list_iterator",data:= .fields #[.ref l,.int 0 0]}).push (seqObj "list" #[] 0)).IsListIter s.heap.objs.size l 0:=⟨_,fG _ (mW _ rfl),rfl,rfl⟩;have gS:((s.heap.push {cls:= .type "list_iterator",data:= .fields #[.ref l,.int 0 0]}).push (seqObj "list" #[] 0)).get? (s.heap.objs.size+1)=some (seqObj "list" #[] 0):=by rw[<-zS];exact mW _ rfl
  have W:=Walks.list (prog:=prog) (w:=w) (A:=A.in1) hA s.heap.objs.size l O9 vs.toArray;refine aV ⟨Ko Qw _,Ew YM ?_⟩;rw[Kr Qw _];show wpAny _ A.in1 (seqItems? (.ref (s.heap.objs.size+1))>>=_) _ _ _;refine aq (Qs gS rfl (?_));show wpAny _ A.in1 (tryCatch (pyNext (.ref s.heap.objs.size)) _>>=_) _ _ _;refine aq (Ei (W.item 0 _ _ _ (by rw[eG];exact hne) ⟨gI,⟨ol,k0 _ _ hol,ZG,wM,ZF⟩⟩ fun v h' tk' hP hst' hk'=> ?_));have hv:vs[0]? =some v:=(by simpa using hP);have k1:Kp s h':=fun b o e=>hk' b o (fun z=>qK _ ((eN.mp z)▸cO e)) (k0 b o e);have g:=hk' (s.heap.objs.size+1) _ (by simp) gS;show wpAny _ A.in1 (tryCatch (holding [v] (call (.builtin kid) [v])) _>>=_) _ _ _;refine aq (Ei (rZ (turn 0 v hv h' tk' k1 _ _ fun t2 tk2=> ?_)));have sb:=Ey h' (s.heap.objs.size+1) (Obj.mapSeq fun _=>#[v,.int (kf 0) t2]);obtain⟨c2,hc2⟩:∃c2,(h'.update (s.heap.objs.size+1) (Obj.mapSeq fun _=>#[v,.int (kf 0) t2])).get? (s.heap.objs.size+1)=some (seqObj "list" #[v,.int (kf 0) t2] c2):=⟨_,Ol g fun _=>#[v,.int (kf 0) t2]⟩;obtain⟨oI,hoI,hoc,hod⟩:=id hst'.1;show wpAny _ A.in1 (updateSeq (s.heap.objs.size+1) (fun _=>#[v,.int (kf 0) t2])>>=_) _ _ _;refine aq (TV g rfl ?_);rw[nm];exact aV ⟨Ko Qw _,Rw kf hA hl turn hQ _ 0 0 _ _ v t2 c2 rfl hne (fun b o e=>(sb.2 b (dX (Oa (cO e)))).trans (k1 b o e)) hc2 ⟨oI,(sb.2 _ (dX (JV _))).trans hoI,hoc,hod⟩ hv (bH _) fun j' hj'=>by
   have e:j'=0:=by omega
   subst e;exact⟨JM _,fun z=>absurd z (qK _)⟩⟩)
end
section
variable{X:Cx}{a:Expr}{ta:TA}{p p2 kp pos:Pos}
noncomputable def KD(K:W.Frag)(ta:TA):TE:=fun σ H Q=>ta σ H fun vs H1=>∃(l:Addr) (its:List (Addr×List Int)),vs=[.ref l]/\SqL K H1 l (its.map fun p=>V.ref p.1)/\(∀p∈its,SqT K H1 p.1 (p.2.map V.int))/\its≠[]/\
 ∀(i:Nat) (p:Addr×List Int),its[i]? =some p->(∀(j:Nat) r,its[j]? =some r->r.2.length<=p.2.length/\(j<i->r.2.length<p.2.length))->Q (.ref p.1) H1
theorem oE:∀{its:List (Addr×List Int)} {us:List ζ} {i:Nat} {v:ζ},Vals (its.map fun p=>V.ref p.1) us->us[i]? =some v->∃p,its[i]? =some p/\v= .ref p.1
 |[],_,i,v,h,e=>by cases h;simp at e
 |p::its,_,0,v,h,e=>by
  cases h with
  |cons r t=>
   cases r;simp at e;exact⟨p,rfl,e.symm⟩
 |p::its,_,i+1,v,h,e=>by
  cases h with
  |cons r t=>exact oE (i:=i) t (by simpa using e)
theorem BR(hc:X.calm=true)(hg:Gl X "max")(hm:X.mg "max"=none)(hgL:Gl X "len")(hmL:X.mg "len"=none)(ha:PA X [a] ta)(hs:starEach [a] X.env=[(false,eval a X.env)]:=by rfl)(he:backTo pos (starEach [a] X.env)=(false,eval a X.env)::backTo pos (starEach [] X.env):=by rfl)(hp:(backTo pos (starEach [a] X.env)).any (·.1)=false:=by rfl):PE X (.Call (.Name "max" p) [a] [⟨some "key",.Name "len" p2,kp⟩] pos) (KD X.K ta):=by
 intro pins s σ H Q I h;refine way (ld_blt I hg hm (show bootBuiltins "max"=some (.builtin "max")from by decide+kernel) ?_ (by decide) (by decide));refine wef (thn (ha pos pins s σ H _ I h) fun us s1 ⟨vs,H1,I1,r1,q1⟩=>kws_cons (ld_blt I1 hgL hmL PySem.boot_len (kws_nil ?_) (by decide) (by decide))) he hp;obtain⟨l,its,e,hq,hT,hne,q⟩:=q1;subst e;cases r1 with
 |cons r rr=>
  cases rr;cases r;obtain⟨ws,rv,pl,hz⟩:=I1.list hq;have hlen:its.length=ws.length:=by have:=rv.length;simpa using this
  have hpos:0<ws.length:=by
   rw[<-hlen];cases its with
   |nil=>exact absurd rfl hne
   |cons _ _=>simp
  have kf:∀i p,its[i]? =some p->its.getD i (0,[])=p:=fun i p e=>by rw[qG,e];rfl
  show wpAny (model X.prog X.w) X.A (call (.builtin "max") [.ref l] [(Str.ofString "key",.builtin "len")]) (EP X pins σ Q) X.xe s1;refine LK (fun i=>((its.getD i (0,[])).2.length:Int)) (I.ok.hd hc) pl.isList hpos (fun i v hv h' tk k Q' E' hq'=> ?_) (fun i v h' tk' hv hb k=> ?_)
  ·obtain⟨p,e1,rfl⟩:=oE rv hv;obtain⟨xs,rx,px,hx⟩:=I1.tuple (hT p (nP e1));obtain⟨o,ho,ho2,n,hd⟩:=id px;have Zu:xs.length=p.2.length:=by have:=rx.length;simpa using this.symm
   have hz2:xs.toArray.size=p.2.length:=by rw[eG];exact Zu
   refine len_tuple (s:={s1 with heap:=h',toks:=tk}) (t:=p.1) (items:=xs.toArray) ⟨o,k _ _ ho,ho2,n,hd⟩ ?_ ?_
   ·rw[eG];have:xs.length<=sizeLine:=by rw[Zu];simpa using hx
    rw[cY]at this;omega
   ·have z:=hq' (tk+1) (tk+1+1);rw[kf i p e1]at z;rw[hz2];exact z
  ·obtain⟨p,e1,rfl⟩:=oE rv hv;have I2:Inv X pins σ H1 {s1 with heap:=h',toks:=tk'}:=I1.kept k;refine⟨.ref p.1,H1,I2,rfl,q i p e1 fun j r hr=> ?_⟩;have hj:j<ws.length:=by rw[<-hlen];exact(qW.mp hr).1
   have z:=hb j hj;rw[kf i p e1,kf j r hr]at z;exact⟨by omega,fun hji=>by have:=z.2 hji;omega⟩
end
noncomputable def qt(a C:Addr):HO:= .ext fun h=>∃o vs,h.get? a=some o/\o.cls= .ref C/\o.data= .fields vs
theorem ObjOk.any{P:ξ}{w:τ}{H:Hp}{h:Heap}{a:Addr}{o:HO}(x:ObjOk P w H h a o):∃u,h.get? a=some u:=by
 cases o with
 |lst xs=>obtain⟨_,_,_,_,e⟩:=x;exact⟨_,e⟩
 |tup xs=>obtain⟨_,_,_,ob,e,_⟩:=x;exact⟨_,e⟩
 |dK kvs=>obtain⟨_,_,_,_,o,_,_,e,_⟩:=x;exact⟨_,e⟩
 |dT kvs=>obtain⟨_,_,_,_,o,_,_,e,_⟩:=x;exact⟨_,e⟩
 |set S n=>obtain⟨o,_,_,_,e,_⟩:=x;exact⟨_,e⟩
 |ins C dx fs=>obtain⟨_,_,_,e,_⟩:=x;exact⟨_,e⟩
 |own y=>exact x
 |xd fs=>obtain⟨_,⟨_,_,_,e,_⟩,_⟩:=x;exact⟨_,e⟩
 |rng lo hi=>obtain⟨_,_,_,e⟩:=x;exact⟨_,e⟩
 |frz ob u=>obtain⟨e,_⟩:=x;exact⟨_,e⟩
 |tbl ps=>exact⟨_,x⟩
 |met f y=>exact⟨_,x⟩
 |ext φ=>exact x.2.1
theorem HOk.none{P:ξ}{w:τ}{H:Hp}{h:Heap}{a:Addr}(x:HOk P w H h)(e:h.get? a=none):H a=none:=by
 cases q:H a with
 |none=>rfl
 |some u=>
  obtain⟨o,z⟩:=(x a u q).any;rw[e]at z;cases z
structure UnB(fs:List Addr)(H H':Hp)(h B:Heap):Prop where
 keep:∀b o,h.get? b=some o->H b=none->b∉fs->B.get? b=some o
 free:∀b o,h.get? b=some o->H b=none->H' b=none
 there:∀b o,h.get? b=some o->b∉fs->∃o',B.get? b=some o'
 tups:∀b xs,H b=some (.tup xs)->H' b=some (.tup xs)
 frzs:∀b o u,H b=some (.frz o u)->H' b=some (.frz o u)
 tbls:∀b ps,H b=some (.tbl ps)->∃more,H' b=some (.tbl (ps++more))
structure Flew(P:ξ)(w:τ)(outer:List Env)(H:Hp)(s:η)(e C:Addr)(H':Hp)(B:Heap)(s':η):Prop where
 os:s'.os=s.os
 bare:AllBare s'.gens
 fly:∃a0,Heap.FlyingW B outer e (.ref C) a0 s'.heap
 un:UnB (frs outer) H H' s.heap B
 hok:HOk P w H' B
 sl:∀b∈frs outer,∀o,s.heap.get? b=some o->∃sl,s'.heap.get? b=some {o with slots:=sl}
 new:s.heap.get? e=none
 he:H' e=none
noncomputable def cZ(P:ξ)(w:τ):CXT:=fun outer H s E v s'=>∃e C H' B,v= .ref e/\Flew P w outer H s e C H' B s'/\E v (some C) (upd H' e (qt e C))
theorem vW{env:Env}{outer:List Env}{L:Addr}(h:env.frame=some L):frs (env::outer)=L::frs outer:=by
 unfold frs;rw[Tn,h]
section
variable{P:ξ}{w:τ}{K:W.Frag}{mg:L5}{base:Heap}{N:List Str}{qual:Str}{scope:Scope}{f:Addr}{cd:ζ}{A:υ}{outer:List Env}{s:η}{H:Hp}{E:XK}
theorem cU:Passes (cZ P w) (cxOf (cZ P w) P w K mg base N qual scope f cd A outer s H E) E:=by
 intro pins σ H1 s1 v s' I h;obtain⟨e,C,H',B,rfl,F,hE⟩:=h;obtain⟨a0,fl⟩:=F.fly;have fc:frs ((envOfC qual scope s.heap.objs.size f cd)::outer)=s.heap.objs.size::frs outer:=vW rfl;have hs:frs (cxOf (cZ P w) P w K mg base N qual scope f cd A outer s H E).stack=s.heap.objs.size::frs outer:=fc;have nL:∀b o,s.heap.get? b=some o->b∉frs outer->b∉s.heap.objs.size::frs outer:=fun b o q hb hm=>by
  rcases cD.mp hm with z|z
  ·exact absurd (cO q) (by rw[z];exact qK _)
  ·exact hb z
 have un:=F.un;rw[hs]at un;refine wpAny_leaves_onW (L:=s.heap.objs.size) I.ok.frames rfl fl fun h' fl' up=> ?_;refine⟨e,C,H',B,rfl,⟨F.os.trans I.os,F.bare,⟨a0,fl'⟩,⟨fun b o q n hb=> ?_,fun b o q n=> ?_,fun b o q hb=> ?_,fun b xs q=> ?_,fun b o u q=> ?_,fun b ps q=> ?_⟩,F.hok,fun b hb o q=> ?_,?_,F.he⟩,hE⟩
 ·exact un.keep b o (I.base.keep b o q n hb (by intro z;cases z)) (I.base.free b o q n (by intro z;cases z)) (nL b o q hb)
 ·obtain⟨o',e'⟩:=I.base.there b o q (by intro z;cases z);exact un.free b o' e' (I.base.free b o q n (by intro z;cases z))
 ·obtain⟨o',e'⟩:=I.base.there b o q (by intro z;cases z);exact un.there b o' e' (nL b o q hb)
 ·exact un.tups b xs (I.base.tups b xs q)
 ·exact un.frzs b o u (I.base.frzs b o u q)
 ·obtain⟨m1,e1⟩:=I.base.tbls b ps q;obtain⟨m2,e2⟩:=un.tbls b _ e1;exact⟨m1++m2,by rw[e2,Array.append_assoc]⟩
 ·obtain⟨s1',e1⟩:=I.base.slot b o q (I.ok.frf b hb) hb (by intro z;cases z);obtain⟨s2',e2⟩:=F.sl b (by rw[hs];exact cP _ hb) _ e1;obtain⟨_,o',ho',hd'⟩:=I.ok.funs.mem hb;have ho'':s.heap.get? b=some o':=ho';rw[q]at ho'';cases ho'';obtain⟨s3',e3⟩:=up b _ e2 hd';exact⟨s3',e3⟩
 ·cases q:s.heap.get? e with
  |none=>rfl
  |some o=>
   obtain⟨o',e'⟩:=I.base.there e o q (by intro z;cases z);rw[F.new]at e';cases e'
theorem Vp{pins:L1}{σ:St}{H1:Hp}{s1:η}{h':Heap}{e C:Addr}{vs:List ζ}
  (I:Inv (cxOf (cZ P w) P w K mg base N qual scope f cd A outer s H E) pins σ H1 s1)(hx:Heap.MadeExcOf s1.heap h' e (.ref C) vs)(hE:H1 e=none->E (.ref e) (some C) (upd H1 e (qt e C))):
  (cxOf (cZ P w) P w K mg base N qual scope f cd A outer s H E).xe (.ref e) {s1 with heap:=h'}:=by
 have fc:frs ((envOfC qual scope s.heap.objs.size f cd)::outer)=s.heap.objs.size::frs outer:=vW rfl;have nL:∀b o,s.heap.get? b=some o->b∉frs outer->b∉frs ((envOfC qual scope s.heap.objs.size f cd)::outer):=fun b o q hb hm=>by
  rw[fc]at hm;rcases cD.mp hm with z|z
  ·exact absurd (cO q) (by rw[z];exact qK _)
  ·exact hb z
 have he:H1 e=none:=I.hok.none hx.new;refine wpAny_leaves_madeW (base:=PySem.W.hideAll s1.heap (frs ((envOfC qual scope s.heap.objs.size f cd)::outer))) (L:=s.heap.objs.size) I.ok.frames rfl (fun b o q=>PySem.W.of_hideAll _ q)
  (PySem.W.funFrames_hide I.stack fun env he a ha=>Wo.mpr ⟨env,he,ha⟩) hx fun h'' t fl _ _ up=> ?_
 refine⟨e,C,H1,_,rfl,⟨I.os,I.bare,⟨_,fl⟩,⟨fun b o q n hb=> ?_,fun b o q n=>I.base.free b o q n (by intro z;cases z),fun b o q hb=> ?_,I.base.tups,I.base.frzs,I.base.tbls⟩,fun a o q=> ?_,fun b hb o q=> ?_,?_,he⟩,hE he⟩
 ·exact W9 _ (I.base.keep b o q n hb (by intro z;cases z)) (nL b o q hb)
 ·obtain⟨o',e'⟩:=I.base.there b o q (by intro z;cases z);exact⟨o',W9 _ e' (nL b o q hb)⟩
 ·refine(I.hok a o q).stay (fun b u hb z=>W9 _ z fun hm=> ?_) (fun _ z=>z) fun _ _ z=>z;have n:=I.stkFree b hm;rcases hb with rfl|hb
  ·rw[q]at n;cases n
  ·rw[hb]at n;cases n
 ·obtain⟨s1',e1⟩:=I.base.slot b o q (I.ok.frf b hb) hb (by intro z;cases z);obtain⟨_,o',ho',hd'⟩:=I.ok.funs.mem hb;have ho'':s.heap.get? b=some o':=ho';rw[q]at ho'';cases ho'';obtain⟨s3',e3⟩:=up b _ (hx.keeps b _ e1) hd';exact⟨s3',e3⟩
 ·cases q:s.heap.get? e with
  |none=>rfl
  |some o=>
   obtain⟨o',e'⟩:=I.base.there e o q (by intro z;cases z);rw[hx.new]at e';cases e'
end
theorem R8{K:W.Frag}{h:Heap}{C:Addr}{bmB:List ζ}{newId:String}(X:K.In h)(q:PySem.W.excIn K C bmB newId=true):
  ∃bm N nm qn bs hd sn sub ab col dd k0 k1 k2 k3 k5 mN,h.get? C=some (excClassObj nm qn C N bs bm hd sn sub ab col dd k0 k1 k2 k3 k5 newId)/\h.Ns N mN/\mN "__init__"=none/\OwnTail h bmB bm:=by
 unfold PySem.W.excIn at q;split at q
 ·rename_i dd cd sl ho;split at q
  ·rename_i C' bm k0 k1 k2 k3 n k5 hm hs;simp only[gU,beq_iff_eq,Qu]at q;obtain⟨⟨⟨⟨⟨q1,q2⟩,hdel⟩,ht⟩,hok⟩,hni⟩:=q;cases q1;cases q2;obtain⟨nm,bs,mro,ns,qn,hd,sn,sub,ab,col,del⟩:=cd;obtain⟨l⟩:=sl;dsimp only at hm hdel hok hni hs;subst hm;subst hdel;subst hs;exact⟨bm,ns,nm,qn,bs,hd,sn,sub,ab,col,dd,k0,k1,k2,k3,k5,_,X _ _ ho,.of_isNs (PySem.W.isNs_of_in X hok),PySem.W.nsMap_none_of_in X hok hni,PySem.W.tail_of_in X ht⟩
  ·cases q
 ·cases q
noncomputable def Qz(C:Addr)(E:XK)(t:TA):TS:=fun _ σ H=>t σ H fun vs H1=>vs.length<=16/\∀e,H1 e=none->E (.ref e) (some C) (upd H1 e (qt e C))
section
variable{P:ξ}{w:τ}{K:W.Frag}{mg:L5}{base:Heap}{N:List Str}{qual:Str}{scope:Scope}{f:Addr}{cd:ζ}{A:υ}{outer:List Env}{s:η}{H:Hp}{E:XK}
theorem uU{x:Str}{C:Addr}{B newId initId:String}{bmB:List ζ}{e:Expr}{es:List Expr}{t:TA}{np cpos pos:Pos}(FB:ExcBaseFacts B newId initId bmB)(hm:mg x=some (.ref C))(q:PySem.W.excIn K C bmB newId=true)(ha:PA (cxOf (cZ P w) P w K mg base N qual scope f cd A outer s H E) (e::es) t)(hg:Gl (cxOf (cZ P w) P w K mg base N qual scope f cd A outer s H E) x)(hdb:(x==("__debug__":Str))=false:=by decide)(he:starEach (e::es) (cxOf (cZ P w) P w K mg base N qual scope f cd A outer s H E).env=(false,eval e (cxOf (cZ P w) P w K mg base N qual scope f cd A outer s H E).env)::starEach es (cxOf (cZ P w) P w K mg base N qual scope f cd A outer s H E).env:=by rfl)(hpl:(backTo cpos (starEach es (cxOf (cZ P w) P w K mg base N qual scope f cd A outer s H E).env)).any (·.1)=false:=by rfl):
  PS (cxOf (cZ P w) P w K mg base N qual scope f cd A outer s H E) (.Raise (some (.Call (.Name x np) (e::es) [] cpos)) none pos) (Qz C E t):=by
 intro pins s1 σ H1 D I h;have KX:K.In base:=I.ok.mod.kin;obtain⟨bm,Na,nm,qn,bs,hd,sn,sub,ab,col,dd,k0,k1,k2,k3,k5,mN,hC,hN,hni,T⟩:=R8 KX q;refine wpAny_Raise_call_subT (C:=C) (nm:=nm) (q:=qn) (N:=Na) (bs:=bs) (bm:=bm) (hdct:=hd) (sn:=sn) (sub:=sub) (ab:=ab) (col:=col) (dd:=dd) (k0:=k0) (k1:=k1) (k2:=k2) (k3:=k3) (k5:=k5)
  FB (mN:=mN) (T.hasType FB.hasBase) (I.ok.hd rfl) (by rw[he];show(false||(backTo cpos (starEach es (cxOf (cZ P w) P w K mg base N qual scope f cd A outer s H E).env)).any (·.1))=false;rw[hpl];rfl) hni (ld_glob I hg hm ⟨rfl,?_⟩ hdb)
 have h1:=ha cpos pins s1 σ H1 _ I h;rw[he]at h1⊢;refine Calls.evalArgs_plain (uz h1 (fun us s2 z=> ?_) fun _ _ y=>y);obtain⟨vs,H2,I2,r,hl,hE⟩:=z;have sz:us.length<=sizeLine:=by rw[<-r.length];exact cC hl (by decide)
 exact⟨rfl,sz,I2.bk _ _ hC,hN.keeps I2.bk,T.keeps I2.bk,fun h' e' hx=>Vp I2 hx (hE e')⟩
theorem Fun.okX{x qual:Str}{st:Stmt}{f:Addr}{fd:ρ}{N ps:List Str}{k:Nat}{sp:Sp}(F:Fun K x qual st f fd)(S:FnScope N ps (defScope st))(len:∀vs H Q E,sp vs H Q E->vs.length=ps.length)(hbody:∀(cdv:ζ) (A:υ) (outer:List Env) (s:η) (H:Hp) (vs:List V) (Q:VK) (E:XK),Room k (A.deeper (envOfC qual (defScope st) s.heap.objs.size f cdv))->sp vs H Q E->
   ∃t,PSs (cxOf (cZ P w) P w K mg base N qual (defScope st) f cdv A outer s H E) (defBody st) t/\t {nx:=fun _ H'=>Q .non H',rt:=Q} (start N vs) H):FnOk P w K mg base (cZ P w) (k+1) f fd ps sp:=by
 obtain⟨oc,od,kV,doc,pm,an,cdv,ct,osl,rfl,lk,hcd⟩:=F.ex;exact fn_of lk hcd S len fun A outer s H vs Q E hr hsp=>hbody cdv A outer s H vs Q E hr hsp
theorem Fun.sV{P:ξ}{w:τ}{K:W.Frag}{mg:L5}{base:Heap}{x qual:Str}{st:Stmt}{f:Addr}{fd:ρ}{ps:List Str}{k:Nat}{sp:Sp}(F:Fun K x qual st f fd)(N:List Str)(hb:∀(cdv:ζ) (A:υ) (outer:List Env) (s:η) (H:Hp) (vs:List V) (Q:VK) (E:XK),Room k (A.deeper (PyProof.Rows.envOfC qual (defScope st) s.heap.objs.size f cdv))->sp vs H Q E->
   ∃t,PSs (cxOf (cZ P w) P w K mg base N qual (defScope st) f cdv A outer s H E) (defBody st) t/\t {nx:=fun _ H'=>Q .non H',rt:=Q} (start N vs) H)(S:FnScope N ps (defScope st):=by exact fsc)(len:∀vs H Q E,sp vs H Q E->vs.length=ps.length:=by intro _ _ _ _ h;repeat(first |(obtain⟨rfl,_⟩:=h;rfl)|obtain⟨_,h⟩:=h)):FnOk P w K mg base (cZ P w) (k+1) f fd ps sp:=F.okX S len hb
end
end L2
namespace L2
open PySem PySem.Spec PySem.Calls PyProof.Rows PySem.W PySem.Builtin.Getset_descriptor
structure lJ(K:Frag)(D:Addr):Prop where
 cls:∃cd,clsIn K D=some cd
 ga:findIn K (.ref D) "__getattribute__"=some (some (.builtin "BaseException.__getattribute__"))
 gn:findIn K (.ref D) "__getattr__"=some none
 at_:findIn K (.ref D) "__class__"=some (some (.builtin "object.__class__"))
 get:specialIn K (.builtin "object.__class__") "__get__"=some (some (.builtin "getset_descriptor.__get__"))
 tk:takesIn K (.builtin "object.__class__")=some true
 obj:mroIn K D (.type "object")=some true
 exc:mroIn K D (.type "BaseException")=some true
section
variable{prog:ξ}{w:τ}{A:υ}{E:L4}{s:η}{K:Frag}{x D:Addr}
noncomputable def mH(x D:Addr)(h:Heap):Prop:=∃o,h.get? x=some o/\o.cls= .ref D
theorem mH.ty{M:Model}{h:Heap}(p:mH x D h):Looks M h (typeOf (.ref x)) (.ref D):=by
 obtain⟨o,e,c⟩:=p;exact c▸(Looks.ld e).andThen .now
theorem Dh{M:Model}{h:Heap}{C:Addr}{name:Str}{a g:ζ}(X:K.In h)(ha:findIn K (.ref C) name=some (some a))(hg:specialIn K a "__get__"=some (some g))(ht:takesIn K a=some true):
  Looks M h (Builtin.ObjectAttr.find (.ref x) (.ref C) name) (.bind g a):=
 (looks_findIn X ha).andThen ((show Looks M h (Builtin.ObjectAttr.getOf (some a)) (some g)from looks_specialIn X hg).andThen
  ((show Looks M h (Builtin.ObjectAttr.dataDescriptor? (some a) (some g)) (some (g,a))from(looks_takesIn X ht).andThen .now).andThen (Looks.tag .now)))
theorem Nm{tp:ζ}{R:Result->η->Prop}(X:K.In s.heap)(I:mH x D s.heap)(hm:mroIn K D (.type "object")=some true)(h:R (.ok (.ret (.ref D))) s):
  codeAny (model prog w) A (.call (.builtin "getset_descriptor.__get__") ⟨[.builtin "object.__class__",.ref x,tp],[]⟩) R s:=by
 obtain⟨hh,gg,dr,tt,os⟩:=s;have A0:=I.ty (M:=model prog w);have A1:=looks_mroIn (M:=model prog w) X hm;have A2:=KF.slot_gs.check (model prog w);refine codeAny_call_builtin KF.slot_gs.plain KF.entry_gs (A2 _ _ _ _ _ _ _ KF.type_class
  (KF.args_gs _ _ _) ?_)
 unfold Builtin.«getset_descriptor.__get__» descrGet;rw[dga_obj];refine aq (aV ?_);unfold descrGetter descrCheckInstance descrNameAndClass isInstance;simp only[KF.owner_class]
 repeat lk
 refine⟨Code.quiet_builtin _ (by decide+kernel),
  Ew KF.entry_class ?_⟩
 unfold Builtin.«object.__class__» shownTypeOf;(repeat lk);exact h
theorem Dj{nameV:ζ}{Q:Unit->η->Prop}(X:K.In s.heap)(I:mH x D s.heap)(hb:mroIn K D (.type "BaseException")=some true)(hq:Q () s):
  wpAny (model prog w) A (checkBuiltinCall "BaseException.__getattribute__" ⟨[.ref x,nameV],[]⟩) Q E s:=by
 obtain⟨hh,gg,dr,tt,os⟩:=s;have kd:builtinKind "BaseException.__getattribute__"=some .slot:=by decide+kernel
 have sp:splitId "BaseException.__getattribute__"=some ("BaseException","__getattribute__"):=by decide+kernel
 have A0:=I.ty (M:=model prog w);have A1:=looks_mroIn (M:=model prog w) X hb;have ar:=F.args_bexc_ga (.ref x) nameV;simp only[checkBuiltinCall,kd,sp];refine aq ?_;unfold isInstance
 repeat(any_goals(first |assumption|lk|wp_step))
theorem Di{Q:Option ζ->η->Prop}(X:K.In s.heap)(I:mH x D s.heap)(c:lJ K D)(h:Q (some (.ref D)) {s with toks:=s.toks+1}):
  wpAny (model prog w) A (getAttr? (.ref x) "__class__") Q E s:=by
 obtain⟨hc,hga,hgn,ha,hn,htk,hm,hb⟩:=c;obtain⟨hh,gg,dr,tt,os⟩:=s;have A0:=I.ty (M:=model prog w);have A1:=looks_findIn (M:=model prog w) X hga;have A2:=looks_findIn (M:=model prog w) X hgn;have A3:=Dh (M:=model prog w) (x:=x) X ha hn htk;have n2:(Value.builtin "BaseException.__getattribute__"==Value.builtin "object.__getattribute__")=false:=by decide+kernel
 have n1:(onTheHeap (Value.ref D)&&Value.builtin "BaseException.__getattribute__"==Value.builtin "object.__getattribute__")=false:=by rw[n2];rfl
 have hbd:=F.attr_ValueError.ga.bind (.ref x);unfold getAttr? getAttrBy? getAttrBy;refine aq (wpAny_mkText (aq (WW (rZ (aq (A0.at (aq (A1.at ?_))))))));dsimp only;rw[aJ (by rw[n1];exact lQ)];unfold getAttrByItsOwn hookBefore;rw[aL (by rfl)];refine aq (A2.at (aq (WW (rZ ?_))));unfold callGetattribute;rw[aJ (by intro z;cases z)];unfold boundAndCalled;rw[hbd];refine aq (aV ?_);refine Tz (codeAny_call_builtin F.attr_ValueError.ga.plain F.entry_bexc_ga (Dj X I hb ?_));unfold Builtin.«object.__getattribute__»
 repeat(any_goals(first |assumption|(with_reducible refine Tz (Nm X I hm ?_))|lk|wp_step))
theorem vA(c:lJ K D):KitX K (.ref x) (.ref D) (mH x D):=by
 obtain⟨cd,hcD⟩:=c.cls;unfold clsIn at hcD;split at hcD
 ·rename_i d' sl' cd' c'' ho;refine⟨fun _ _ _ p=>p.ty,fun _ _ X _ A' Q' E' s' k q=> ?_,fun h tp dd its n sl X htp=>Bool.eq_false_iff.mpr fun q=> ?_,fun X p k=>Di X p c k⟩
  ·unfold isType loadHead;exact aq (wpAny_loadPart (k _ _ (X _ _ ho)) (aV q))
  ·obtain rfl:D=tp:=Value.ref.inj (beq_iff_eq.mp q);cases(X _ _ ho).symm.trans htp
 ·cases hcD
end
theorem yM{X:Cx}{pins:L1}{σ:St}{H:Hp}{s:η}{a C:Addr}(I:Inv X pins σ H s)(h:H a=some (qt a C)):mH a C s.heap:=by
 obtain⟨⟨o,vs,e,c,_⟩,_⟩:=I.hok a _ h;exact⟨o,e,c⟩
theorem Kg{X:Cx}:CallR X (.builtin "isinstance") (fun xs H Q=>∃(a C D:Addr) (b:Bool),xs=[.ref a,.ref D]/\H a=some (qt a C)/\lJ X.K C/\kitOne X.K (.ref C) (.ref D)=some b/\Q (.bl b) H):=by
 intro pins s σ H xs us Q I r h;obtain⟨a,C,D,b,rfl,he,hc,hk,q⟩:=h;obtain⟨u,v,rfl,ru,rv⟩:=r.two;cases ru;cases rv;exact kia_one (vA hc) I.kIn (yM I he) hk (fun z=>nomatch z) fun tk=>⟨.bl b,H,I.tok _,rfl,q⟩
theorem Dm{X:Cx}:CallR X (.builtin "isinstance") (fun xs H Q=>∃(a C:Addr) (T:String) (b:Bool),xs=[.ref a,.ty T]/\H a=some (qt a C)/\lJ X.K C/\kitOne X.K (.ref C) (.type T)=some b/\Q (.bl b) H):=by
 intro pins s σ H xs us Q I r h;obtain⟨a,C,T,b,rfl,he,hc,hk,q⟩:=h;obtain⟨u,v,rfl,ru,rv⟩:=r.two;cases ru;cases rv;exact kia_one (vA hc) I.kIn (yM I he) hk (fun z=>nomatch z) fun tk=>⟨.bl b,H,I.tok _,rfl,q⟩
end L2
namespace L2
open PySem PySem.Spec PyProof.Rows
noncomputable abbrev Cx.mkd(X:Cx)(e:Addr):Cx:={X with A:=X.A.mark (some (.ref e)),calm:=false,xe:=fun _ _=>False}
section
variable{X:Cx}{pins:L1}{σ:St}{H H':Hp}{s s':η}{e C:Addr}{B:Heap}
theorem Cx.Ok.mkd(ok:X.Ok)(e:Addr):(X.mkd e).Ok:=
 ⟨ok.mod,ok.kind,ok.glob,ok.blt,ok.above,ok.inj,ok.has,ok.cab,fun z=>(lQ z).elim,ok.frames,ok.stk,ok.exf,ok.bs,ok.bsz,ok.noex,ok.exfs,ok.funs,ok.frf⟩
theorem Inv.mkd(I:Inv X pins σ H s)(e:Addr):Inv (X.mkd e) pins σ H s:=⟨I.ok.mkd e,I.os,I.bare,I.base,I.loc,I.cell,I.free,I.freeC,I.pin,I.hok,I.len⟩
theorem Inv.U8(ok:X.Ok)(I:Inv (X.mkd e) pins σ H s):Inv X pins σ H s:=⟨ok,I.os,I.bare,I.base,I.loc,I.cell,I.free,I.freeC,I.pin,I.hok,I.len⟩
theorem landed{h':Heap}{a0:ζ}(I:Inv X pins σ H s)(F:Flew X.prog X.w X.stack H s e C H' B s')(fl:Heap.FlyingW B X.stack e (.ref C) a0 h')(up:s'.heap.UpToSlots h'):
  Inv X pins σ (upd H' e (qt e C)) {s' with heap:=h'}:=by
 have ne:∀b o,s.heap.get? b=some o->b≠e:=fun b o q z=>by rw[z,F.new]at q;cases q
 have slot:∀b o,s.heap.get? b=some o->b∈frs X.stack->∃sl,h'.get? b=some {o with slots:=sl}:=fun b o q hb=>by
  obtain⟨s1,e1⟩:=F.sl b hb o q;obtain⟨_,o',ho',hd'⟩:=I.stack.mem hb;rw[q]at ho';cases ho';obtain⟨s2,e2⟩:=up b _ e1 hd';exact⟨s2,e2⟩
 refine I.call' (ch:=[]) F.os ⟨fun b o q n hb _=>fl.1 b o (F.un.keep b o q n hb),fun b o q n hb _=>slot b o q hb,fun b o q n _=>by rw[cN (ne b o q)];exact F.un.free b o q n,fun b o q _=> ?_,fun b xs q=> ?_,fun b o u q=> ?_,fun b ps q=> ?_⟩
  (fun b u q=> ?_) F.bare (fun b z=>absurd z (by simp))
 ·by_cases hb:b∈frs X.stack
  ·obtain⟨sl,z⟩:=slot b o q hb;exact⟨_,z⟩
  ·obtain⟨o',z⟩:=F.un.there b o q hb;exact⟨o',fl.1 b o' z⟩
 ·have z:=F.un.tups b xs q;rw[cN (mQ z F.he)];exact z
 ·have z:=F.un.frzs b o u q;rw[cN (mQ z F.he)];exact z
 ·obtain⟨more,z⟩:=F.un.tbls b ps q;exact⟨more,by rw[cN (mQ z F.he)];exact z⟩
 ·by_cases hb:b=e
  ·subst hb;rw[aG]at q;cases q;obtain⟨oe,vs,he,hc,hd,_⟩:=fl.first;refine⟨⟨oe,vs,he,hc,hd⟩,⟨_,he⟩,fun h1 h2 p k=> ?_⟩;obtain⟨o,ws,p1,p2,p3⟩:=p;exact⟨o,ws,k o p1,p2,p3⟩
  ·rw[cN hb]at q;exact(F.hok b u q).stay (fun c v _ z=>fl.1 c v z) (fun c z=>by rw[cN (mQ z F.he)];exact z) fun c xs z=>by rw[cN (mQ z F.he)];exact z
theorem Inv.forget{M:Model}{A:υ}{E:L4}{i:Nat}{n:Str}{pos:Pos}{Q:Unit->η->Prop}(I:Inv X pins σ H s)(hN:X.N.Nodup)(hi:X.N[i]? =some n)(hk:X.env.scope.names.lookup n=some .local)(h:∀s',Inv X pins (σ.set i none) H s'->Q () s'):wpAny M A (do bindName X.env n .none;unbindBehindTheSuite X.env n pos) Q E s:=by
 obtain⟨m,hn,hl⟩:=id I.loc;have hcls:(X.env.scope.kind== .class||(X.env.scope.kind== .module&&X.env.locals !=X.env.globals))=false:=by rw[I.ok.kind];rfl
 have hiσ:i<σ.length:=by rw[I.len];exact(qW.mp hi).1
 have cne:=I.cne;refine wpAny_nameGoes_keeps (show X.env.kindOf n=some .local from hk) hn hcls fun h' v hn' hs=> ?_;obtain⟨oL,_,_,hoL,_⟩:=id hn;have low:∀b o,X.s₀.heap.get? b=some o->b≠X.env.locals:=fun b o z=>dX (gR (cO z) I.ok.above);refine h _ ⟨I.ok,I.os,I.bare,⟨fun b o z n hb hx=>(hs.2 b (low b o z)).trans (I.base.keep b o z n hb hx),fun b o z n hb hx=> ?_,I.base.free,fun b o z hx=> ?_,I.base.tups,I.base.frzs,I.base.tbls⟩,⟨_,hn',fun j y v' e1 e2 e3=> ?_⟩,fun y c z=> ?_,I.free,I.freeC,fun p hp=> ?_,fun b ob z=> ?_,by simpa using I.len⟩
 ·obtain⟨sl,q⟩:=I.base.slot b o z n hb hx;exact⟨sl,(hs.2 b (low b o z)).trans q⟩
 ·obtain⟨o',q⟩:=I.base.there b o z hx;exact⟨o',(hs.2 b (low b o z)).trans q⟩
 ·by_cases hj:j=i
  ·subst hj;rw[Wx hiσ]at e2;cases e2
  ·rw[Wt (uo hj)]at e2;obtain⟨u',r',q⟩:=hl j y v' e1 e2 e3;refine⟨u',r',?_⟩;rcases q with⟨k,z⟩|⟨k,c,z,zc⟩
   ·refine .inl ⟨k,?_⟩;have:y≠n:=fun z=>hj (nodup_ix hN e1 (z▸hi));simp[this,z]
   ·exact .inr ⟨k,c,z,zc.sameBut hs (cne y c z)⟩
 ·obtain⟨w',q⟩:=I.cell y c z;exact⟨w',q.sameBut hs (cne y c z)⟩
 ·obtain⟨z,n',ne,nf,d⟩:=I.pin p hp;exact⟨(hs.2 p.1 ne).trans z,n',ne,nf,d⟩
 ·refine(I.hok b ob z).stay (fun c w' hc q=>(hs.2 c ?_).trans q) (fun _ q=>q) fun _ _ q=>q;rintro rfl;rcases hc with rfl|hc
  ·rw[I.free]at z;cases z
  ·rw[I.free]at hc;cases hc
end
noncomputable def Y4(K:W.Frag)(D:Addr)(i:Nat)(sp:Sp)(nx:Ends->St->V->Hp->Prop)(t:TA)(ts:TS):TS:=fun Dn σ H=>t σ H fun vs H1=>sp vs H1 (fun v H2=>nx Dn σ v H2)
 (fun v oc H2=>∃e C,v= .ref e/\oc=some C/\PySem.W.exmOne K (.ref C) (.ref D)=some true/\ts {nx:=fun σ3 H3=>Dn.nx (σ3.set i none) H3,bk:=fun _ _=>False,ct:=fun _ _=>False,rt:=fun _ _=>False} (σ.set i (some (.ref e))) H2)
section
variable{X:Cx}{k:Nat}{f D:Addr}{fd:ρ}{ps:List Str}{sp:Sp}{fn x n:Str}{p cpos epos np hpos pos:Pos}{a:Expr}{as:List Expr}{t:TA}{ts:TS}{b₀:Stmt}{suite:List Stmt}{i:Nat}
theorem caught(hst:X.stack=X.env::X.outer)(hfr:X.env.frame=some X.env.locals)(Vx:Gl X x)(hmx:X.mg x=some (.ref D))(hN:X.N.Nodup)(hi:X.N[i]? =some n)(wM:X.env.scope.names.lookup n=some .local)(hs:∀e,PSs (X.mkd e) (b₀::suite) ts){pins:L1}{σ:St}{H:Hp}{s s':η}{e C:Addr}{H':Hp}{B:Heap}{Dn:Ends}(I:Inv X pins σ H s)(F:Flew X.prog X.w X.stack H s e C H' B s')(hx:PySem.W.exmOne X.K (.ref C) (.ref D)=some true)(h:ts {nx:=fun σ3 H3=>Dn.nx (σ3.set i none) H3,bk:=fun _ _=>False,ct:=fun _ _=>False,rt:=fun _ _=>False} (σ.set i (some (.ref e))) (upd H' e (qt e C)))(hdb:(x==("__debug__":Str))=false):
  wpAny (model X.prog X.w) X.A (noteFrame (.ref e) X.env) (fun _ s₂=>wpAny (model X.prog X.w) X.A (setFlight (.ref e) none) (fun _ s₃=>
   wpAny (model X.prog X.w) X.A (handleBy (.ref e) X.env [.ExceptHandler (some (.Name x np)) (some n) (b₀::suite) hpos]) (SP X pins Dn) X.xe s₃) X.xe s₂) X.xe s':=by
 obtain⟨a0,fl⟩:=F.fly;have fl0:=fl;rw[hst]at fl0;refine wpAny_looks_onW (L:=X.env.locals) (I.ok.frames.trans (iy some hst)) hfr fl0 fun h4 Vy up4=> ?_;refine wpAny_landsW Vy fun h5 R7 up5=> ?_;have g5:=R7;rw[<-hst]at g5;have J5:=landed I F g5 (up4.trans up5);refine wpAny_handleBy_cons (codeAny_handlers_test (ld_glob (J5.mkd e) Vx hmx ?_ hdb)) (by intro q;cases q);have oc:mH e C ({s' with heap:=h5}:η).heap:=yM J5 aG;refine PySem.W.exm_one (K:=X.K) J5.kIn oc.ty hx _ _ _ _ (fun _ _ z=>z) ?_;refine codeAny_handlers_suite_as ?_;refine lands_againW R7 fun h6 fl6 up6=> ?_;have g6:=fl6;rw[<-hst]at g6;have J6:=landed I F g6 ((up4.trans up5).trans up6);refine store_ok (X:=X.mkd e) (J6.mkd e) hN hi (.inl wM) (v:= .ref e) rfl (fun s7 J7=> ?_) (.inr wM);refine uz (hs e pins s7 _ _ _ J7 h) (fun fl8 s8 q8=> ?_) (fun _ _ z=>z.elim);cases fl8 with
 |next=>
  obtain⟨σ3,H3,J8,q⟩:=q8;exact(Inv.U8 I.ok J8).forget hN hi wM fun s9 J9=>⟨_,H3,J9,q⟩
 |brk=>obtain⟨_,_,_,q⟩:=q8;exact q.elim
 |cont=>obtain⟨_,_,_,q⟩:=q8;exact q.elim
 |ret u=>obtain⟨_,_,_,_,_,q⟩:=q8;exact q.elim
theorem SJ{pins:L1}{σ:St}{H:Hp}{s:η}{Q:VK}{E:XK}{XE:L4}(F:FnOk X.prog X.w X.K X.mg X.base (cZ X.prog X.w) k f fd ps sp)(hr:Room k X.A)(hg:Gl X fn)(hm:X.mg fn=some (.ref f))(hk:PySem.W.keepIn X.K (.ref f)=true)(hb:Binds X.K fd ps [])(ha:PA X.nox (a::as) t)(I:Inv X pins σ H s)(h:t σ H fun vs H1=>sp vs H1 Q E)(hx:∀H1 s1 v s',Inv X pins σ H1 s1->cZ X.prog X.w X.stack H1 s1 E v s'->XE v s')(hdb:(fn==("__debug__":Str))=false)(he:starEach (a::as) X.env=(false,eval a X.env)::starEach as X.env)(hpl:(backTo cpos (starEach as X.env)).any (·.1)=false):
  wpAny (model X.prog X.w) X.A (eval (.Call (.Name fn p) (a::as) [] cpos) X.env) (EP X pins σ Q) XE s:=by
 refine way (ld_glob I hg hm ?_ hdb);refine W8 (h₀:=X.base) I.ok.mod.kin hk (uz (ha cpos pins s σ H _ (I.wish _) h) (fun us s1 z=> ?_) fun _ _ z=>z.elim) he hpl;obtain⟨vs,H1,I1,r,q⟩:=z;have J:=I1.unwish;refine⟨J.kIn,?_⟩;have hl:us.length=ps.length:=by rw[<-r.length];exact F.len _ _ _ _ q
 have bd:=hb s1 us J.kIn (by simpa using hl);rw[qT]at bd;refine Tz (Oj (F.run X.A X.stack s1 H1 ⟨us,[]⟩ us vs Q E hr J.env0 bd r q) fun rr s' hq=> ?_);cases rr with
 |error v=>exact hx H1 s1 v s' J hq
 |ok fl=>
  cases fl with
  |ret u=>exact J.after hq
  |next=>exact False.elim hq
  |brk=>exact False.elim hq
  |cont=>exact False.elim hq
theorem K7(hst:X.stack=X.env::X.outer)(hfr:X.env.frame=some X.env.locals)(F:FnOk X.prog X.w X.K X.mg X.base (cZ X.prog X.w) k f fd ps sp)(hr:Room k X.A)(hg:Gl X fn)(hm:X.mg fn=some (.ref f))(hk:PySem.W.keepIn X.K (.ref f)=true)(hb:Binds X.K fd ps [])(ha:PA X.nox (a::as) t)(Vx:Gl X x)(hmx:X.mg x=some (.ref D))(hN:X.N.Nodup)(hi:X.N[i]? =some n)(wM:X.env.scope.names.lookup n=some .local)(hs:∀e,PSs (X.mkd e) (b₀::suite) ts)(hsw:swapsWith (.Call (.Name fn p) (a::as) [] cpos) none epos.line X.env=pure false:=by rfl)(hdb:(fn==("__debug__":Str))=false:=by decide)(hdx:(x==("__debug__":Str))=false:=by decide)(he:starEach (a::as) X.env=(false,eval a X.env)::starEach as X.env:=by rfl)(hpl:(backTo cpos (starEach as X.env)).any (·.1)=false:=by rfl):
  PS X (.Try [.Expr (.Call (.Name fn p) (a::as) [] cpos) epos] [.ExceptHandler (some (.Name x np)) (some n) (b₀::suite) hpos] [] [] pos) (Y4 X.K D i sp (fun Dn σ _ H2=>Dn.nx σ H2) t ts):=by
 intro pins s σ H Dn I h;refine wpAny_Try_except (Yq (wpAny_Expr_any (uz (SJ F hr hg hm hk hb ha I h (fun H1 s1 v s' J z=> ?_) hdb he hpl) (fun v s1 z=> ?_) fun _ _ z=>z) I.quiet hsw))
 ·obtain⟨e,C,H',B,rfl,Fl,e',C',q1,q2,q3,q4⟩:=z;cases q1;cases q2;exact caught hst hfr Vx hmx hN hi wM hs J Fl q3 q4 hdx
 ·obtain⟨_,H2,I2,_,q⟩:=z;exact TX (TX ⟨σ,H2,I2,q⟩)
end
theorem jU(a b:Bool):MeetsSeq.EqGives (.bool a) (.bool b) (a==b):=fun prog w A E s Q h=>PySem.SeqAt.EqAt.bool_bool a b prog w E Q h
theorem zL{bs:List Bool}{us:List ζ}(r:Vals (bs.map V.bl) us):us=bs.map Value.bool:=by
 induction bs generalizing us with
 |nil=>cases r;rfl
 |cons b bs ih=>
  cases r with
  |cons h t=>rw[show _=Value.bool b from h,ih t];rfl
section
variable{X:Cx}
noncomputable def Q0:V->List V->Hp->VK->Prop:=fun x vs H Q=>∃(l:Addr) (bs:List Bool),x= .ref l/\vs=[.bl true]/\H l=some (.lst (bs.map V.bl))/\Q (.int (bs.countP id:Nat)) H
theorem Hu:MtM X "list.count" Q0:=by
 intro pins s σ H x vs v us Q I rx rv h;obtain⟨l,bs,rfl,rfl,hH,q⟩:=h;cases rx;obtain⟨u,rfl,ru⟩:=rv.one;cases ru;obtain⟨z,its,n,r,hl,e⟩:=I.lstM hH;have hi:=zL r;subst hi;refine Tw F.slot_list_count ⟨_,e,rfl⟩ F.entry_list_count (F.args_list_count_2 _ _) (MeetsSeq.list_count l _ n (.bool true) (fun y=>y== .bool true) (fun y hy=> ?_)) ⟨e,?_⟩
 ·obtain⟨b,_,rfl⟩:=gH.mp (List.mem_toArray.mp hy);have e1:(Value.bool b==Value.bool true)=(b==true):=by cases b<;>rfl
  rw[e1];exact jU b true
 ·refine⟨.int (bs.countP id:Nat),H,I.tok _,⟨s.toks,?_⟩,q⟩;rw[List.toList_toArray,List.countP_map];congr 2;refine List.countP_congr fun b _=> ?_;cases b<;>simp
noncomputable def QZ:V->List V->Hp->VK->Prop:=fun x vs H Q=>∃(l:Addr) (bs:List Bool) (j:Nat),x= .ref l/\vs=[.bl true]/\H l=some (.lst (bs.map V.bl))/\bs[j]? =some true/\(∀m,m<j->bs[m]? =some false)/\bs.length<=1000/\Q (.int (j:Nat)) H
theorem Ht:MtM X "list.index" QZ:=by
 intro pins s σ H x vs v us Q I rx rv h;obtain⟨l,bs,j,rfl,rfl,hH,h1,h2,hb,q⟩:=h;cases rx;obtain⟨u,rfl,ru⟩:=rv.one;cases ru;obtain⟨z,its,n,r,hl,e⟩:=I.lstM hH;have hi:=zL r;subst hi;obtain⟨hj,ej⟩:=qW.mp h1;have hj':j<(bs.map Value.bool).toArray.size:=by simpa using hj
 refine Tw F.slot_list_index ⟨_,e,rfl⟩ F.entry_list_index (F.args_list_index_2 _ _) (MeetsSeq.list_index l _ n (.bool true) (fun y=>y== .bool true) (fun y hy=> ?_) j hj' (by omega) ?_ (fun m hm hmj=> ?_)) ⟨e,?_⟩
 ·obtain⟨b,_,rfl⟩:=gH.mp (List.mem_toArray.mp hy);have e1:(Value.bool b==Value.bool true)=(b==true):=by cases b<;>rfl
  rw[e1];exact jU b true
 ·simp[ej]
 ·have hm':m<bs.length:=by simpa using hm
  have em:bs[m]=false:=by
   have z:=h2 m hmj;rw[jc hm']at z;exact was z
  simp[em]
 ·exact⟨.int (j:Nat),H,I.tok _,⟨s.toks,rfl⟩,q⟩
end
mutual
def Zo:Nat->Expr->Option θ
 |0,_=>none
 |n+1,e=>match e with
  | .Constant (.int i) _ _=>some (.int i)
  | .Constant (.bool b) _ _=>some (.bool b)
  | .Constant .none _ _=>some .none
  | .Constant (.str x) _ _=>some (.str x)
  | .UnaryOp .USub (.Constant (.int i) _ _) _=>some (.int (-i))
  | .Tuple es _ _=>(HJ n es).map .tuple
  | .List es _=>(HJ n es).map .list
  | .Dict [] [] _=>some (.dict [])
  |_=>none
def HJ:Nat->List Expr->Option (List θ)
 |0,_=>none
 |_+1,[]=>some []
 |n+1,e::es=>match Zo n e,HJ n es with
  |some d,some ds=>some (d::ds)
  |_,_=>none
end
theorem Gv{X:Cx}{pos:Pos}:PE X (.Dict [] [] pos) (fun _ H Q=>∀p,H p=none->Q (.ref p) (upd H p (.dK []))):=fun pins s σ H Q I h=>by
 have big:sysModules<s.heap.objs.size:=JR (by decide) (I.mod.glob.keeps I.bk).lt;refine W2 ⟨.ref s.heap.objs.size,_,I.laid (a:=s.heap.objs.size) (o:= .dK []) (t':=s.toks) (fun _ _ q=>fG _ q) (bH _) ?_,rfl,h _ (I.hok.fresh (bH _))⟩;exact⟨gG _,beq_eq_false_iff_ne.mpr fun z=>qK _ (z▸big),[],.nil,Heap.DictOf.new s.heap⟩
theorem FnOk.up{P:ξ}{w:τ}{K:W.Frag}{mg:L5}{base:Heap}{CX:CXT}{k:Nat}{f:Addr}{fd:ρ}{ps:List Str}{sp:Sp}(F:FnOk P w K mg base CX0 k f fd ps sp):FnOk P w K mg base CX k f fd ps sp:=
 ⟨F.len,fun A outer s H args us vs Q E hr e0 hb hv hs=>Oj (F.run A outer s H args us vs Q E hr e0 hb hv hs) fun r s' z=>by
  cases r with
  |error e=>exact False.elim z
  |ok fl=>cases fl<;>exact z⟩
section
variable{κ:Type} [DecidableEq κ]
noncomputable def valV(kvs:List (κ×V))(k:κ):Option V:=(kvs.find? fun kv=>decide (kv.1=k)).map (·.2)
noncomputable def putK(kvs:List (κ×V))(k:κ)(v:V):List (κ×V):=
 if(kvs.any fun kv=>decide (kv.1=k))=true then kvs.map (fun kv=>if kv.1=k then(kv.1,v)else kv)else kvs++[(k,v)]
theorem Eo{p:κ×V}{r:List (κ×V)}{k:κ}(e:p.1=k):valV (p::r) k=some p.2:=by simp[valV,Qe,e]
theorem En{p:κ×V}{r:List (κ×V)}{k:κ}(e:¬p.1=k):valV (p::r) k=valV r k:=by simp[valV,Qe,e]
theorem valV_any(k:κ):∀kvs:List (κ×V),(kvs.any fun kv=>decide (kv.1=k))=(valV kvs k).isSome
 |[]=>rfl
 |p::r=>by
  rw[N8];by_cases e:p.1=k
  ·simp only[Eo e,dF e,Bool.true_or,Option.isSome_some]
  ·rw[En e,cI e,Bool.false_or];exact valV_any k r
theorem valV_map(k j:κ)(y:V):∀kvs:List (κ×V),valV (kvs.map fun kv=>if kv.1=k then(kv.1,y)else kv) j=(valV kvs j).map fun x=>if j=k then y else x
 |[]=>rfl
 |p::r=>by
  have ih:=valV_map k j y r;rw[jB];by_cases h:p.1=k
  ·rw[aL h];by_cases e:p.1=j
   ·rw[Eo (p:=(p.1,y)) e,Eo e,WY,aL (e.symm.trans h)]
   ·rw[En (p:=(p.1,y)) e,En e,ih]
  ·rw[aJ h];by_cases e:p.1=j
   ·rw[Eo (p:=p) e,Eo e,WY,aJ (fun z=>h (e.trans z))]
   ·rw[En (p:=p) e,En e,ih]
theorem valV_snoc(k j:κ)(y:V):∀kvs:List (κ×V),valV kvs k=none->valV (kvs++[(k,y)]) j=if j=k then some y else valV kvs j
 |[],_=>by
  by_cases e:k=j
  ·rw[aL e.symm];exact Eo (p:=(k,y)) e
  ·rw[aJ (fun z=>e z.symm)];exact En (p:=(k,y)) e
 |p::r,hn=>by
  rw[List.cons_append];have hk:¬p.1=k:=fun z=>by rw[Eo z]at hn;cases hn
  rw[En hk]at hn;have ih:=valV_snoc k j y r hn;by_cases e:p.1=j
  ·rw[Eo e,Eo e,aJ (fun z=>hk (e.trans z))]
  ·rw[En e,En e,ih]
theorem valV_put(kvs:List (κ×V))(k j:κ)(y:V):valV (putK kvs k y) j=if j=k then some y else valV kvs j:=by
 unfold putK;by_cases a:(kvs.any fun kv=>decide (kv.1=k))=true
 ·rw[aL a,valV_map];rw[valV_any]at a;by_cases e:j=k
  ·obtain⟨x,hx⟩:=Option.isSome_iff_exists.mp a;rw[aL e,e,hx,WY,aL rfl]
  ·rw[aJ e];cases valV kvs j with
   |none=>rfl
   |some x=>rw[WY,aJ e]
 ·rw[aJ a];refine valV_snoc k j y kvs ?_;rw[valV_any]at a;cases q:valV kvs k with
  |none=>rfl
  |some x=>rw[q]at a;exact(a rfl).elim
theorem length_putK(kvs:List (κ×V))(k:κ)(v:V):(putK kvs k v).length<=kvs.length+1:=by
 unfold putK;split
 ·rw[aM];omega
 ·rw[eO,lO,Ep];omega
theorem RelO.isSome_eq{o:Option V}{u:Option ζ}(r:RelO o u):o.isSome=u.isSome:=by
 cases o with
 |none=>cases u with
  |none=>rfl
  |some _=>exact(show False from r).elim
 |some _=>cases u with
  |none=>exact(show False from r).elim
  |some _=>rfl
theorem KV.val{kvs:List (κ×V)}{vs:List (κ×ζ)}(r:KV kvs vs)(k:κ):RelO (valV kvs k) (valueAt vs k):=by
 unfold KV at r
 induction r with
 |nil=>exact True.intro
 | @cons p q ps qs h t ih=>
  obtain⟨h1,h2⟩:=h;by_cases e:p.1=k
  ·have e':q.1=k:=h1.symm.trans e;have b:valueAt (q::qs) k=some q.2:=by simp[valueAt,Qe,e']
   rw[Eo e,b];exact h2
  ·have e':¬q.1=k:=fun z=>e (h1.trans z);have b:valueAt (q::qs) k=valueAt qs k:=by simp[valueAt,Qe,e']
   rw[En e,b];exact ih
theorem KV.any{kvs:List (κ×V)}{vs:List (κ×ζ)}(r:KV kvs vs)(k:κ):(kvs.any fun kv=>decide (kv.1=k))=vs.any fun kv=>decide (kv.1=k):=by
 unfold KV at r
 induction r with
 |nil=>rfl
 |cons h t ih=>rw[N8,N8,ih,h.1]
theorem KV.repl{kvs:List (κ×V)}{vs:List (κ×ζ)}(r:KV kvs vs)(k:κ){y:V}{u:ζ}(ry:RelV y u):
  KV (kvs.map fun kv=>if kv.1=k then(kv.1,y)else kv) (vs.map fun kv=>if kv.1=k then(kv.1,u)else kv):=by
 unfold KV at r⊢
 induction r with
 |nil=>exact .nil
 | @cons p q ps qs h t ih=>
  rw[jB,jB];refine .cons ?_ ih;obtain⟨h1,h2⟩:=h;by_cases e:p.1=k
  ·rw[aL e,aL (h1.symm.trans e)];exact⟨h1,ry⟩
  ·rw[aJ e,aJ (fun z=>e (h1.trans z))];exact⟨h1,h2⟩
theorem KV.put{kvs:List (κ×V)}{vs:List (κ×ζ)}(r:KV kvs vs)(k:κ){y:V}{u:ζ}(ry:RelV y u):KV (putK kvs k y) (stored vs k u):=by
 unfold putK stored;rw[r.any k];by_cases e:(vs.any fun kv=>decide (kv.1=k))=true
 ·rw[aL e,aL e];exact r.repl k ry
 ·rw[aJ e,aJ e];exact WM r ⟨rfl,ry⟩
theorem KV.length{kvs:List (κ×V)}{vs:List (κ×ζ)}(r:KV kvs vs):kvs.length=vs.length:=U4 r
end
theorem kV_is{P:ξ}{w:τ}{k:Key}{u:ζ}(r:RelV (kV k) u):(mixKind P w).is k u=true:=by
 cases k with
 |inl i=>obtain⟨t,e⟩:=(show∃t,u=Value.int i t from r);subst e;exact mixKind_int P w i t
 |inr x=>obtain⟨t,e⟩:=(show∃t,u=Value.str x t from r);subst e;exact mixKind_str P w x t
theorem items_are{P:ξ}{w:τ}:∀{ks:List Key} {us:List ζ},Vals (ks.map kV) us->ItemsAre (mixKind P w) ks us
 |[],_,r=>by rw[Ye]at r;cases r;exact .nil
 |k::ks,_,r=>by
  rw[jB]at r;cases r with
  |cons h t=>exact .cons (kV_is h) (items_are t)
noncomputable abbrev KT(H:Hp):List (List Key×V)->List (List Key×Addr×ζ)->Prop:=Paired fun p q=>p.1=q.1/\H q.2.1=some (.tup (p.1.map kV))/\RelV p.2 q.2.2
theorem KT.val{H:Hp}{kvs:List (List Key×V)}{xs:List (List Key×Addr×ζ)}(r:KT H kvs xs)(k:List Key):RelO (valV kvs k) ((atKey xs k).map (·.2)):=by
 induction r with
 |nil=>exact True.intro
 | @cons p q ps qs h t ih=>
  obtain⟨h1,_,h2⟩:=h;by_cases e:p.1=k
  ·have e':q.1=k:=h1.symm.trans e;have b:atKey (q::qs) k=some q.2:=by simp[atKey,Qe,e']
   rw[Eo e,b];exact h2
  ·have e':¬q.1=k:=fun z=>e (h1.trans z);have b:atKey (q::qs) k=atKey qs k:=by simp[atKey,Qe,e']
   rw[En e,b];exact ih
theorem KT.repl{H:Hp}{kvs:List (List Key×V)}{xs:List (List Key×Addr×ζ)}(r:KT H kvs xs)(k:List Key){y:V}{u:ζ}(ry:RelV y u):
  KT H (kvs.map fun kv=>if kv.1=k then(kv.1,y)else kv) (xs.map (putAt k u)):=by
 induction r with
 |nil=>exact .nil
 | @cons p q ps qs h t ih=>
  rw[jB,jB];refine .cons ?_ ih;obtain⟨h1,h2,h3⟩:=h;unfold putAt;by_cases e:p.1=k
  ·rw[aL e,aL (h1.symm.trans e)];exact⟨h1,h2,ry⟩
  ·rw[aJ e,aJ (fun z=>e (h1.trans z))];exact⟨h1,h2,h3⟩
theorem KT.put{H:Hp}{kvs:List (List Key×V)}{xs:List (List Key×Addr×ζ)}(r:KT H kvs xs)(k:List Key){b:Addr}{y:V}{u:ζ}(hb:H b=some (.tup (k.map kV)))(ry:RelV y u):
  KT H (putK kvs k y) (storedH xs k b u):=by
 have e:(kvs.any fun kv=>decide (kv.1=k))=(atKey xs k).isSome:=by
  rw[valV_any,(r.val k).isSome_eq,Option.isSome_map]
 unfold putK storedH;rw[e];by_cases q:(atKey xs k).isSome=true
 ·rw[aL q,aL q];exact r.repl k ry
 ·rw[aJ q,aJ q];exact WM r ⟨rfl,hb,ry⟩
theorem KT.keeps{H H':Hp}{kvs:List (List Key×V)}{xs:List (List Key×Addr×ζ)}(r:KT H kvs xs)(ht:∀b ys,H b=some (.tup ys)->H' b=some (.tup ys)):KT H' kvs xs:=
 Paired.mapP r fun _ _ z=>⟨z.1,ht _ _ z.2.1,z.2.2⟩
section
variable{P:ξ}{w:τ}{H:Hp}{h:Heap}{a:Addr}
theorem rd_of{u:HO}(ok:HOk P w H h)(e:Rd H a u):ObjOk P w H h a u:=e.ok ok
theorem dk_rd{kvs:List (Key×V)}(ok:HOk P w H h)(e:Rd H a (.dK kvs)):kvs.length<=sizeLine/\(a==sysModules)=false/\∃vs,KV kvs vs/\h.DictOf (mixKind P w) a vs:=
 show ObjOk P w H h a (.dK kvs)from rd_of ok e
theorem dk_of{kvs:List (Key×V)}(ok:HOk P w H h)(e:H a=some (.dK kvs)):kvs.length<=sizeLine/\(a==sysModules)=false/\∃vs,KV kvs vs/\h.DictOf (mixKind P w) a vs:=dk_rd ok (.inl e)
theorem key_of{ks:List Key}(ok:HOk P w H h)(e:H a=some (.tup (ks.map kV))):(tupleKind (mixKind P w)).is h ks a:=by
 obtain⟨_,its,r,o,h1,h2,n,h3⟩:=(show ObjOk P w H h a (.tup (ks.map kV))from ok a _ e);exact⟨o,its.toArray,n,h1,h2,h3,by simpa using items_are r⟩
theorem dt_rd{kvs:List (List Key×V)}(ok:HOk P w H h)(e:Rd H a (.dT kvs)):kvs.length<=sizeLine/\(a==sysModules)=false/\
  ∃xs,KT H kvs xs/\h.DictOfH (tupleKind (mixKind P w)) a xs:=by
 obtain⟨z,y,xs,r,o,es,ep,h1,h2,h3,h4,h5⟩:=(show ObjOk P w H h a (.dT kvs)from rd_of ok e);refine⟨z,y,xs,r,o,es,ep,h1,h2,h3,h4,fun x hx=> ?_,h5⟩;have all:∀{l:List (List Key×V)} {m:List (List Key×Addr×ζ)},KT H l m->∀x∈m,(tupleKind (mixKind P w)).is h x.1 x.2.1:=by
  intro l m q
  induction q with
  |nil=>intro x hx;exact nomatch hx
  | @cons p q ps qs hq t ih=>
   intro x hx;rcases cD.mp hx with e|hx
   ·subst e;exact key_of ok (by rw[<-hq.1];exact hq.2.1)
   ·exact ih x hx
 exact all r x hx
theorem dt_of{kvs:List (List Key×V)}(ok:HOk P w H h)(e:H a=some (.dT kvs)):kvs.length<=sizeLine/\(a==sysModules)=false/\
  ∃xs,KT H kvs xs/\h.DictOfH (tupleKind (mixKind P w)) a xs:=dt_rd ok (.inl e)
end
noncomputable def DGet(H:Hp)(a:Addr)(y:V)(r:Option V):Prop:=
 (∃kvs k,Rd H a (.dK kvs)/\y=kV k/\r=valV kvs k)\/∃kvs k b,Rd H a (.dT kvs)/\y= .ref b/\H b=some (.tup (k.map kV))/\r=valV kvs k
noncomputable def DPut(H:Hp)(a:Addr)(y v:V)(H':Hp):Prop:=
 (∃kvs k,H a=some (.dK kvs)/\y=kV k/\kvs.length<sizeLine/\H'=upd H a (.dK (putK kvs k v)))\/
 ∃kvs k b,H a=some (.dT kvs)/\y= .ref b/\H b=some (.tup (k.map kV))/\kvs.length<sizeLine/\H'=upd H a (.dT (putK kvs k v))
theorem DPut.k{H:Hp}{a:Addr}{kvs:List (Key×V)}{k:Key}{v:V}(e:H a=some (.dK kvs))(hl:kvs.length<sizeLine):DPut H a (kV k) v (upd H a (.dK (putK kvs k v))):= .inl ⟨kvs,k,e,rfl,hl,rfl⟩
section
variable{X:Cx}{pins:L1}{σ:St}{H:Hp}{s:η}{a:Addr}{y v:V}{u r:ζ}{o:Option V}{A:υ}{E:L4}
theorem Inv.big(I:Inv X pins σ H s):sysModules<s.heap.objs.size:=by
 have h:mainGlobals<s.heap.objs.size:=(I.mod.glob.keeps I.bk).lt;exact JR (by decide) h
theorem d_getItem{Q:L4}(hu:A.units+1<cLine)(I:Inv X pins σ H s)(g:DGet H a y (some v))(ry:RelV y u)(h:∀w' s',Inv X pins σ H s'->RelV v w'->Q w' s'):
  wpAny (model X.prog X.w) A (getItem (.ref a) u) Q E s:=by
 rcases g with⟨kvs,k,e,ey,l⟩|⟨kvs,k,b,e,ey,eb,l⟩
 ·subst ey;obtain⟨z,hd,vs,rel,dd⟩:=dk_rd I.hok e;obtain⟨w',hw,rw'⟩:=RelO.some_of (v:=v) (o:=valueAt vs k) (by rw[l];exact rel.val k);exact wpAny_getItem_of (kV_is ry) dd.mapOf hw (h w' _ (I.tok _) rw')
 ·subst ey;cases(show u=Value.ref b from ry);obtain⟨z,hd,xs,rel,dd⟩:=dt_rd I.hok e;obtain⟨w',hw,rw'⟩:=RelO.some_of (v:=v) (o:=(atKey xs k).map (·.2)) (by rw[l];exact rel.val k);obtain⟨p,hp,hp2⟩:=Option.map_eq_some_iff.mp hw;refine wpAny_getItem_heap (tupleKind_room_in1 hu) (key_of I.hok eb) dd hp ?_;rw[hp2];exact h w' _ (I.tok _) rw'
theorem d_write{h':Heap}{t':Nat}{ob:HO}(I:Inv X pins σ H s)(mu:Mut (H a))(hs:Heap.SameBut a s.heap h')(he:∃q,h'.get? a=some q)(new:ObjOk X.prog X.w (upd H a ob) h' a ob):
  Inv X pins σ (upd H a ob) {s with heap:=h',toks:=t'}:=
 I.write (x:=a) (e:=a) mu (.inl rfl) (fun b q hb z=>(hs.2 b hb).trans z) he new
theorem dk_new{P:ξ}{w:τ}{H':Hp}{h':Heap}{kvs:List (Key×V)}{vs:List (Key×ζ)}(z:kvs.length<=sizeLine)(hd:(a==sysModules)=false)(rel:KV kvs vs)(dd:h'.DictOf (mixKind P w) a vs):
  ObjOk P w H' h' a (.dK kvs):=⟨z,hd,vs,rel,dd⟩
theorem d_setItem{H':Hp}{Q:Unit->η->Prop}(hu:A.units+1<cLine)(I:Inv X pins σ H s)(g:DPut H a y v H')(ry:RelV y u)(rv:RelV v r)(h:∀s',Inv X pins σ H' s'->Q () s'):
  wpAny (model X.prog X.w) A (setItem (.ref a) u r) Q E s:=by
 rcases g with⟨kvs,k,e,ey,l,eH⟩|⟨kvs,k,b,e,ey,eb,l,eH⟩
 ·subst ey eH;obtain⟨z,hd,vs,rel,dd⟩:=dk_of I.hok e;have hz:vs.length<=sizeLine:=by rw[<-rel.length];exact z
  have hl:(putK kvs k v).length<=sizeLine:=by have:=length_putK kvs k v;omega
  refine wpAny_setItem_pairs (hsz:=hz) (kV_is ry) dd fun h' dd' hs=>h _ ?_;have he:∃q,h'.get? a=some q:=let⟨q,_,_,hq,_⟩:=dd';⟨q,hq⟩;exact d_write I (by rw[e];exact True.intro) hs he (dk_new hl hd (rel.put k rv) dd')
 ·subst ey eH;cases(show u=Value.ref b from ry);obtain⟨z,hd,xs,rel,dd⟩:=dt_of I.hok e;have hz:xs.length<=sizeLine:=by rw[<-U4 rel];exact z
  have hl:(putK kvs k v).length<=sizeLine:=by have:=length_putK kvs k v;omega
  refine wpAny_setItem_heap (hsz:=hz) (tupleKind_room_in1 hu) (key_of I.hok eb) dd fun h' dd' hs=>h _ ?_;obtain⟨q,es,ep,hq,h2,h3,h4,_,h5⟩:=dd';refine d_write I (by rw[e];exact True.intro) hs ⟨q,hq⟩ ⟨hl,hd,_,(rel.put k eb rv).keeps fun c ys ec=> ?_,q,es,ep,hq,h2,h3,h4,h5⟩;rw[cN (ne_of ec e (fun z=>nomatch z))];exact ec
end
noncomputable def NoSl(i:Expr):Prop:=∀ov iv,subscripted i false ov iv=operate [ov,iv] (getItem ov iv)
theorem subD_of{prog:ξ}{w:τ}{A:υ}{E:L4}{s:η}{env:Env}{value slice:Expr}{pos:Pos}{T id:String}{Q:L4}(hl:typeLookup (.type T) "__getitem__"=pure (some (.builtin id)))(hs:NoSl slice)(h:wpAny (model prog w) A (eval value env) (fun o s₁=>wpAny (model prog w) A (eval slice env) (fun i s₂=>s₂.TypeIs o T/\wpAny (model prog w) A (getItem o i) Q E s₂) E s₁) E s):
  wpAny (model prog w) A (eval (.Subscript value slice pos) env) Q E s:=by
 refine Subscript_ (uz h (fun o s₁ h₁=>uz h₁ (fun i s₂ h₂=> ?_) fun _ _ x=>x) fun _ _ x=>x);obtain⟨hT,h₂⟩:=h₂;unfold subscriptTail;refine aq ?_;rw[getitemInPython_of_ne hT.not_modules];refine aq (WX hT hl ?_);have fin:wpAny (model prog w) A (subscripted slice false o i) (fun r s₃=>wpAny (model prog w) A (letTemporaryGo value o r>>=fun _=>pure r) Q E s₃) E s₂:=by
  rw[hs o i];exact wpAny_operating (uz h₂ (fun r s₃ h₃=>aq (wpAny_letTemporaryGo (aV h₃))) fun _ _ x=>x)
 first
  |exact aV (aq fin)
  |exact aq (aV (aq fin))
  |exact aq fin
theorem dict_typeIs{X:Cx}{pins:L1}{σ:St}{H:Hp}{s:η}{a:Addr}{y:V}{o:Option V}(I:Inv X pins σ H s)(g:DGet H a y o):s.TypeIs (.ref a) "dict":=by
 rcases g with⟨kvs,k,e,_,_⟩|⟨kvs,k,b,e,_,_,_⟩
 ·obtain⟨_,_,vs,_,dd⟩:=dk_rd I.hok e;exact dd.typeIs
 ·obtain⟨_,_,xs,_,dd⟩:=dt_rd I.hok e;exact dd.typeIs
noncomputable def tDGet(td ty:TE):TE:=fun σ H Q=>td σ H fun x H1=>ty σ H1 fun y H2=>∃a v,x= .ref a/\DGet H2 a y (some v)/\Q v H2
noncomputable def sDPut(td ty tv:TE):TS:=fun D σ H=>tv σ H fun v H1=>td σ H1 fun x H2=>ty σ H2 fun y H3=>∃a H4,x= .ref a/\DPut H3 a y v H4/\D.nx σ H4
section
variable{X:Cx}{o i value:Expr}{pos pos':Pos}{td ty tv:TE}
theorem pe_dget(hu:X.A.units+1<cLine)(ho:PE X o td)(hi:PE X i ty)(hs:NoSl i):PE X (.Subscript o i pos) (tDGet td ty):=by
 intro pins s σ H Q I h;refine subD_of PySem.F.slot_dict_getitem.lookup hs (thn (ho pins s σ H _ I h) fun u s1 ⟨x,H1,I1,rx,q1⟩=>thn (hi pins s1 σ H1 _ I1 q1) fun iv s2 ⟨y,H2,I2,ry,a,v,ex,g,q2⟩=> ?_);subst ex;obtain rfl:u=Value.ref a:=rx;exact⟨dict_typeIs I2 g,d_getItem hu I2 g ry fun w' s3 I3 rw'=>⟨v,H2,I3,rw',q2⟩⟩
theorem ps_dput(hu:X.A.units+1<cLine)(ho:PE X o td)(hi:PE X i ty)(hv:PE X value tv)(hs:swapsWith value (some (.Subscript o i pos')) pos.line X.env=pure false):
  PS X (.Assign [.Subscript o i pos'] value pos) (sDPut td ty tv):=by
 intro pins s σ H D I h;refine wpAny_Assign_Subscript (thn (hv pins s σ H _ I h) fun r s1 ⟨v,H1,I1,rv,q1⟩=>thn (ho pins s1 σ H1 _ I1 q1) fun u s2 ⟨x,H2,I2,rx,q2⟩=>thn (hi pins s2 σ H2 _ I2 q2) fun iv s3 ⟨y,H3,I3,ry,a,H4,ex,g,q3⟩=> ?_) hs;subst ex;obtain rfl:u=Value.ref a:=rx;exact d_setItem hu I3 g ry rv fun s4 I4=>⟨σ,H4,I4,q3⟩
end
theorem dk_empty{P:ξ}{w:τ}{H:Hp}(h:Heap)(hb:sysModules<h.objs.size):ObjOk P w H (h.push {cls:= .type "dict",data:= .dict #[]}) h.objs.size (.dK []):=
 ⟨gG _,beq_eq_false_iff_ne.mpr (uo (dX hb)),[],.nil,Heap.DictOf.new h⟩
theorem dt_empty{P:ξ}{w:τ}{H:Hp}(h:Heap)(hb:sysModules<h.objs.size):ObjOk P w H (h.push {cls:= .type "dict",data:= .dict #[]}) h.objs.size (.dT []):=
 ⟨gG _,beq_eq_false_iff_ne.mpr (uo (dX hb)),[],.nil,_,#[],0,mW _ rfl,⟨rfl,rfl,rfl⟩,rfl,rfl,Yh⟩
noncomputable def tDNewK:TE:=fun _ H Q=>∀p,H p=none->Q (.ref p) (upd H p (.dK []))
noncomputable def tDNewT:TE:=fun _ H Q=>∀p,H p=none->Q (.ref p) (upd H p (.dT []))
section
variable{X:Cx}{pos:Pos}
theorem pe_dnewK:PE X (.Dict [] [] pos) tDNewK:=fun pins s σ H Q I h=>
 W2 ⟨.ref s.heap.objs.size,_,I.laid (a:=s.heap.objs.size) (o:= .dK []) (t':=s.toks) (fun _ _ q=>fG _ q) (bH _) (dk_empty s.heap I.big),rfl,h _ (I.hok.fresh (bH _))⟩
theorem pe_dnewT:PE X (.Dict [] [] pos) tDNewT:=fun pins s σ H Q I h=>
 W2 ⟨.ref s.heap.objs.size,_,I.laid (a:=s.heap.objs.size) (o:= .dT []) (t':=s.toks) (fun _ _ q=>fG _ q) (bH _) (dt_empty s.heap I.big),rfl,h _ (I.hok.fresh (bH _))⟩
end
end L2
namespace DH
open PySem PySem.W PyProof.Rows PySem.Calls
noncomputable def j7(h:Heap)(d:Addr)(es:Array DictEntry)(ep:Nat):Prop:=∃o,h.get? d=some o/\o.ExactDict/\o.data= .dict es ep
section
variable{prog:ξ}{w:τ}{A:υ}{E:L4}{s:η}{d it:Addr}{es:Array DictEntry}{ep i:Nat}
theorem j7.typeIs(h:j7 s.heap d es ep):s.TypeIs (.ref d) "dict":=let⟨o,ho,hc,_⟩:=h;⟨o,ho,hc.1⟩
theorem j7.lt{h:Heap}(x:j7 h d es ep):d<h.objs.size:=let⟨_,ho,_⟩:=x;cO ho
theorem j7.at'{h h':Heap}(x:j7 h d es ep)(k:∀o,h.get? d=some o->h'.get? d=some o):j7 h' d es ep:=let⟨o,ho,r⟩:=x;⟨o,k o ho,r⟩
theorem Ms{Q:L4}(hd:(d==sysModules)=false)(hm:j7 s.heap d es ep)(hQ:Q (.ref s.heap.objs.size) {s with heap:=s.heap.push {cls:= .type "dict_keyiterator",data:= .fields #[.ref d,.int 0 0,.int es.size 0,.int ep 0]}}):
  wpAny (model prog w) A (pyIter (.ref d)) Q E s:=by
 obtain⟨o,ho,hc,hdat⟩:=id hm;have hT:=hm.typeIs;refine wpAny_pyIter_slot hT F.slot_dict_iter (Om F.slot_dict_iter hT F.entry_dict_iter ?_ (F.args_dict_iter_1 _));unfold Builtin.«dict.__iter__»;refine aq ?_;unfold Builtin.Dict.dictSlotNone;refine aq (wpAny_notOrdered_dict hT ?_);show wpAny _ _ (pure (Value.ref d)) _ _ s;refine aV ?_;show wpAny _ _ (Builtin.Dict.showsAll d>>=_) _ _ s;unfold Builtin.Dict.showsAll;rw[aJ (by rw[hd];exact lQ)];refine aq (aV ?_);refine aq (Yt ho hdat ?_);refine aq (Yj ho hdat ?_);refine aq (JW (aV ⟨_,rfl,"dict_keyiterator",_,⟨_,mW _ rfl,rfl⟩,F.slot_dict_keyiterator_next.lookup,?_⟩));simpa[rawInt]using hQ
theorem Lx{e:DictEntry}{Q:Option ζ->η->Prop}(hit:s.heap.IsKeyIter it d i es.size ep)(hm:j7 s.heap d es ep)(hx:es[i]? =some e)(hQ:∀h',h'.IsKeyIter it d (i+1) es.size ep->Heap.SameBut it s.heap h'->Q (some e.key) {s with heap:=h'}):wpAny (model prog w) A (pyNext (.ref it)) Q E s:=by
 obtain⟨o,ho,hc,hd⟩:=id hit;obtain⟨od,hod,hcd,hdd⟩:=id hm;unfold pyNext;refine aq (WW (Xa (name:=Str.ofString "__next__") hit.typeIs Xe
  (Om Xe hit.typeIs wdd ?_ (wcz _))))
 refine aq (aV ?_);refine aq ?_;refine aq ?_
 first |refine aq (Xf hit.typeIs (aV ?_))|refine aq (Xc hit.typeIs (aV ?_))
 refine aq (wpAny_fieldsOf ho hd ?_);have hown:Builtin.Dict_items.ownsTuple "dict_keyiterator"=false:=by decide
 simp only[hown,Oo,Eu];show wpAny _ _ (if(Value.ref d==Value.none)=true then _ else _) _ _ s;rw[aJ (show¬((Value.ref d==Value.none)=true)from lQ)];refine aq (aV ?_);refine aq (Yt hod hdd ?_);rw[aJ (by simp)];refine aq (aV ?_);refine aq (Yj hod hdd ?_);rw[aJ (by simp)];refine aV ?_;obtain⟨hlt',hei⟩:=Array.getElem?_eq_some_iff.mp hx;simp only[show¬((i:Int)<0)from by omega,Eu,Uw,wdx hlt'];refine aq ?_
 first |refine aq (Xf hit.typeIs (aV ?_))|refine aq (Xc hit.typeIs (aV ?_))
 refine aq (wpAny_isOneOf_keyiter hit.typeIs ?_);show wpAny _ _ (setField (.ref it) 1 (rawInt ((i:Int)+1))>>=_) _ _ s;refine aq (wpAny_setField ho hd (by simp) ?_);have hit':(s.heap.update it (Obj.mapFields (·.setIfInBounds 1 (rawInt ((i:Int)+1))))).IsKeyIter it d (i+1) es.size ep:=
  ⟨_,Heap.get?_update_self _ ho (Obj.isFreed_of_fields (Obj.data_mapFields hd _)),(Obj.cls_mapFields ..).trans hc,by rw[Obj.data_mapFields hd];simp[rawInt]⟩
 refine aq (rZ ?_);refine aq (wpAny_isOneOf_keyiter (s:={s with heap:=s.heap.update it (Obj.mapFields (·.setIfInBounds 1 (rawInt ((i:Int)+1))))}) hit'.typeIs ?_);show wpAny _ _ (pure es[i].key) _ _ _;rw[hei];exact aV (aV ⟨_,rfl,aV (hQ _ hit' (Ey ..))⟩)
theorem R9{Q:Option ζ->η->Prop}(hh:A.handled=none)(hit:s.heap.IsKeyIter it d i es.size ep)(hm:j7 s.heap d es ep)(hge:es.size<=i)(hQ:∀h',Heap.ExtBut it s.heap h'->Q none {s with heap:=h'}):wpAny (model prog w) A (pyNext (.ref it)) Q E s:=by
 obtain⟨o,ho,hc,hd⟩:=id hit;obtain⟨od,hod,hcd,hdd⟩:=id hm;unfold pyNext;refine aq (WW (Xa (name:=Str.ofString "__next__") hit.typeIs Xe
  (Om Xe hit.typeIs wdd ?_ (wcz _))))
 refine aq (aV ?_);refine aq ?_;refine aq ?_
 first |refine aq (Xf hit.typeIs (aV ?_))|refine aq (Xc hit.typeIs (aV ?_))
 refine aq (wpAny_fieldsOf ho hd ?_);have hown:Builtin.Dict_items.ownsTuple "dict_keyiterator"=false:=by decide
 simp only[hown,Oo,Eu];show wpAny _ _ (if(Value.ref d==Value.none)=true then _ else _) _ _ s;rw[aJ (show¬((Value.ref d==Value.none)=true)from lQ)];refine aq (aV ?_);refine aq (Yt hod hdd ?_);rw[aJ (by simp)];refine aq (aV ?_);refine aq (Yj hod hdd ?_);rw[aJ (by simp)];refine aV ?_;simp only[show¬((i:Int)<0)from by omega,Eu,Uw,YL hge];refine aq ?_
 first |refine aq (Xf hit.typeIs (aV ?_))|refine aq (Xc hit.typeIs (aV ?_))
 show wpAny _ _ (setField (.ref it) 0 .none>>=_) _ _ s;refine aq (wpAny_setField ho hd (by simp) ?_);show wpAny _ _ (newExc (.type "StopIteration") []>>=_) _ _ _;refine aq ?_;simp only[newExc,newTuple];refine aq (JW ?_ (by size_fits));refine aq (m:=firstArgMember _ _) (wpAny_of_eq (a:=Value.none) (by first |rfl|(simp only[firstArgMember];rfl)) ?_);refine JW ?_ (by size_fits);simp only[raiseNew];refine aq (wpAny_handled ?_);rw[show A.in1.handled=none from hh];refine aq (aV (wpAny_throw ?_));refine aq (wpAny_isInstance (T:="StopIteration") (b:=true) ⟨_,mW _ rfl,rfl⟩ isSubtype_stop ?_);exact aV (hQ _ (((Ey ..).extBut.push _).push _))
theorem EY(hh:A.handled=none)(I d:Addr)(hne:d≠I)(es:Array DictEntry)(ep:Nat):
  Walks prog w A I [I,d] [I] es.size (fun i v=>∃e,es[i]? =some e/\v=e.key) (fun i h=>h.IsKeyIter I d i es.size ep/\j7 h d es ep) where
 sub:=fun b hb=>by simp at hb;simp[hb]
 frame:=fun _ _ _ st hk=>⟨st.1.at fun o e=>hk I (by simp) o e,st.2.at' fun o e=>hk d (by simp) o e⟩
 item:=fun i s Q E hi st hQ=>by
  refine Lx (e:=es[i]) st.1 st.2 (by simp[hi]) fun h' hit' hs'=> ?_;exact hQ _ h' s.toks ⟨_,by simp[hi],rfl⟩ ⟨hit',st.2.at' fun o e=>hs'.extBut d o hne e⟩ fun b o hb e=>hs'.extBut b o (fun h=>hb (by simp[h])) e
 done:=fun s Q E st hQ=>R9 hh st.1 st.2 (bH _) fun h' he'=>hQ h' s.toks fun b o hb e=>he' b o (fun h=>hb (by simp[h])) e
 self:=fun _ _ _ _ st hQ=>wpAny_pyIter_keyiter st.1 hQ
theorem RB(lo:(d==sysModules)=false):KdlSrc prog w "dict" d d es.size (fun i v=>∃e,es[i]? =some e/\v=e.key) (fun h=>j7 h d es ep) where
 type:=fun _ hm=>hm.typeIs
 there:=fun _ hm=>⟨hm.lt,hm.lt⟩
 keep:=fun _ _ hm hk=>hm.at' fun o e=>hk d (.inl rfl) o e
 notList:=by decide
 notTuple:=by decide
 hint:=fun _ _ _ _ hm hq=>kdl_hint_dict hm.typeIs hq
 iter:=fun _ _ hh hm=>⟨_,_,(fun _ _ hq=>Ms lo hm hq),EY hh _ d (dX hm.lt) es ep,⟨⟨_,mW _ rfl,rfl,rfl⟩,hm.at' fun o e=>fG _ e⟩⟩
theorem Ik{acc:Array ζ}(h:ItemsOf (fun i v=>∃e,es[i]? =some e/\v=e.key) acc es.size):acc.toList=es.toList.map (·.key):=by
 refine Yu fun i=> ?_;rw[dD,wfd,wfd];by_cases hi:i<es.size
 ·have hi2:i<acc.size:=by rw[h.1];exact hi
  obtain⟨e,h1,h2⟩:=h.2 i acc[i] (by simp[hi2]);rw[wdx hi2,h2,h1];rfl
 ·rw[YL (by rw[h.1];omega),YL (by omega)];rfl
theorem yO{Q:List ζ->η->Prop}(hA:A.handled=none)(lo:(d==sysModules)=false)(S:j7 s.heap d es ep)(hz:es.size<=1000000)(h:∀h' tk,(∀b o,s.heap.get? b=some o->h'.get? b=some o)->s.heap.objs.size<=h'.objs.size->Q (es.toList.map (·.key)) {s with heap:=h',toks:=tk}):
  wpAny (model prog w) A (collect (.ref d)) Q E s:=by
 unfold collect;refine aq (wpAny_runValue (Ew entry_proto_collect' ?_));show wpAny _ _ (do again (.builtin "list.__iadd__" ⟨[<-newList [],.ref d],[]⟩)) _ _ s;refine aq (TQ (aV ⟨Code.quiet_builtin _ (by decide+kernel),Ew entry_list_iadd' ?_⟩));rw[Kr PySem.F.plain_list_iadd _];show wpAny _ _ (Builtin.List.listExtendWith (.ref s.heap.objs.size) (.ref d) (.ref s.heap.objs.size)) _ _ {s with heap:=s.heap.push (seqObj "list" #[] 0)};have hne:s.heap.objs.size≠d:=Qc S.lt;refine kdl_extend (R:=fun r s'=>match r with
   | .ok (.ret v)=>wpAny (model prog w) A (match v with
    | .ref a=>do match(<-load a).data with
     | .seq xs _=>pure xs.toList
     |_=>unsupported "internal:collect"
    |_=>unsupported "internal:collect") Q E s'
   | .ok _=>False
   | .error e=>E e s') (s:={s with heap:=s.heap.push (seqObj "list" #[] 0)}) (RB (es:=es) (ep:=ep) lo) (by simpa using hA) (S.at' fun o e=>fG _ e) s.heap.objs.size hne hne _ 0 (mW _ rfl) (fun h' tk acc c keep hl pm=> ?_) (by rw[cY];omega)
 show wpAny (model prog w) A (load s.heap.objs.size>>=_) Q E _;refine aq (wpAny_load hl ?_);refine aV ?_;rw[Ik pm];exact h h' tk (fun b o e=>keep b o (dX (cO e)) (fG _ e)) (wR (cO hl))
end
noncomputable def gw(h:Heap)(its:List (Addr×List Int)):Prop:=∀p∈its,∃items:List ζ,IntsAre items p.2/\IsTup h p.1 items.toArray
noncomputable def bO(its:List (Addr×List Int)):List ζ:=its.map fun p=> .ref p.1
noncomputable def pW(its:List (Addr×List Int)):SortKind:=if its.all (fun p=> !p.2.isEmpty)=true then tuples' true else match its with
 |p::_=>if p.2.isEmpty=true then oneType' else general'
 |[]=>general'
noncomputable def FsT(h:Heap):List ζ->List (Option ζ)->Prop
 |[],[]=>True
 |v::vs,f::fs=>(∃a o xs n,v= .ref a/\h.get? a=some o/\o.cls= .type "tuple"/\o.data= .seq xs n/\xs[0]? =f)/\FsT h vs fs
 |_,_=>False
section
variable{M:Model}{A:υ}{E:L4}{s:η}
theorem Bc:∀(vs:List ζ) (fs:List (Option ζ)) {Q:List (Option ζ)->η->Prop},FsT s.heap vs fs->Q fs s->wpAny M A (vs.mapM firstOfTuple') Q E s
 |[],[],_,_,h=>by rw[List.mapM_nil];exact aV h
 |[],_::_,_,t,_=>t.elim
 |_::_,[],_,t,_=>t.elim
 |v::vs,f::fs,Q,t,h=>by
  obtain⟨⟨a,o,xs,n,rfl,ho,hc,hd,hf⟩,t⟩:=t;rw[List.mapM_cons];refine aq ?_;rw[kas_first_eq];refine aq (Looks.here (show Looks M s.heap (typeOf (.ref a)) o.cls from(Looks.ld ho).andThen .now) ?_);rw[hc,aJ (by first |decide|simp)];refine aq (listItems_at ho hd (aV ?_));rw[hf];exact aq (Bc vs fs (Q:=fun bs s'=>wpAny M A (pure (f::bs)) Q E s') t (aV h))
theorem Je{h:Heap}:∀(its:List (Addr×List Int)),gw h its->∃fs,FsT h (bO its) fs/\fs.map (·.isSome)=its.map (fun p=> !p.2.isEmpty)
 |[],_=>⟨[],trivial,rfl⟩
 |p::its,hT=>by
  obtain⟨fs,h1,h2⟩:=Je its fun q hq=>hT q (cP _ hq);obtain⟨items,hi,o,e,hc,n,hd⟩:=hT p cH;refine⟨items.toArray[0]? ::fs,⟨⟨p.1,o,_,n,rfl,e,hc,hd,rfl⟩,h1⟩,?_⟩;rw[jB,jB,h2];congr 1;obtain⟨pa,pn⟩:=p;dsimp only at hi;cases hi with
  |nil=>rfl
  |cons i t _=>simp
theorem yp{its:List (Addr×List Int)}{Q:SortKind->η->Prop}(hT:gw s.heap its)(h2:2<=its.length)(hn:¬its.all (fun p=> !p.2.isEmpty)=true)(h:Q (pW its) s):wpAny M A (keyKind' (bO its).toArray) Q E s:=by
 obtain⟨fs,f1,f2⟩:=Je its hT;unfold pW at h;rw[aJ hn]at h;have hall:¬(fs.toArray.all fun x=>x.isSome)=true:=fun z=>hn (by
  have e:its.all (fun p=> !p.2.isEmpty)=(its.map (fun p=> !p.2.isEmpty)).all id:=by rw[JQ];rfl
  rw[e,<-f2,JQ];simpa using z)
 rw[kat_kind_eq,List.mapM_toArray,map_eq_pure_bind];refine aq (aq (Bc _ fs f1 (aV ?_)));rw[aJ hall]
 match its,fs,f2,h2,h,hT with
 |p::its,f::fs,f2,h2,h,hT=>
  have ef:f.isSome= !p.2.isEmpty:=by
   rw[jB,jB]at f2;exact(List.cons.inj f2).1
  have e0:((f::fs).toArray[0]?.bind id).isSome= !p.2.isEmpty:=by simpa using ef
  dsimp only at h;cases hp:p.2.isEmpty with
  |false=>
   rw[aL (by rw[e0,hp];rfl)];rw[hp,aJ lQ]at h;exact aV h
  |true=>
   rw[aJ (by rw[e0,hp];exact lQ)];rw[hp,aL rfl]at h;rw[oneTypeOnly'_eq,List.mapM_toArray,map_eq_pure_bind];refine aq (aq (aq (kas_mapM (r:=Value.type "tuple") _ (fun v hv Q' hq=> ?_) (aV ?_))))
   ·obtain⟨q,hq',rfl⟩:=gH.mp hv;obtain⟨items,hi,o,e,hc,n,hd⟩:=hT q hq';refine Looks.here (show Looks M s.heap (typeOf (.ref q.1)) o.cls from(Looks.ld e).andThen .now) ?_;rw[hc];exact hq
   ·have hall2:((List.map (fun _=>Value.type "tuple") (bO (p::its))).toArray.all fun x=>x==Value.type "tuple")=true:=by
     simp only[List.all_toArray,JQ,iR];intro _ _;rfl
    have h0:(List.map (fun _=>Value.type "tuple") (bO (p::its))).toArray[0]? =some (Value.type "tuple"):=by unfold bO;simp
    rw[h0];simp only[hall2,Tr];exact aV (aV h)
end
section
variable{prog:ξ}{w:τ}{A:υ}{E:L4}{s:η}
theorem CQ{its:List (Addr×List Int)}{Q:SortKind->η->Prop}(hT:gw s.heap its)(h2:2<=its.length)(h:Q (pW its) s):wpAny (model prog w) A (keyKind' (bO its).toArray) Q E s:=by
 by_cases hn:its.all (fun p=> !p.2.isEmpty)=true
 ·unfold pW at h;rw[aL hn]at h;have kt:∀(l:List (Addr×List Int)),(∀p∈l,p∈its)->∃fs:List ζ,KatTups s.heap (bO l) fs/\fs.length=l.length/\∀v∈fs,∃i t,v=Value.int i t:=by
   intro l
   induction l with
   |nil=>intro _;exact⟨[],trivial,rfl,fun _ hv=>nomatch hv⟩
   |cons p l ih=>
    intro hs;obtain⟨fs,k1,k2,k3⟩:=ih fun p hp=>hs p (cP _ hp);obtain⟨items,hi,o,e,hc,n,hd⟩:=hT p (hs p cH);have hne:(!p.2.isEmpty)=true:=iR.mp hn p (hs p cH);obtain⟨pa,pn⟩:=p;dsimp only at hi hne e;cases hi with
    |nil=>exact absurd hne (by decide)
    |cons i t hi'=>
     refine⟨Value.int i t::fs,KatTups.cons e hc hd (by simp) k1,by simp[k2],fun v hv=> ?_⟩;rcases cD.mp hv with e|e
     ·exact⟨i,t,e⟩
     ·exact k3 v e
  obtain⟨fs,k1,k2,k3⟩:=kt its fun _ hp=>hp;refine kat_kind (T:= .type "int") k1 (by omega) (fun v hv=> ?_) (by rfl) h;obtain⟨i,t,rfl⟩:=k3 v hv;exact fun A Q E s _ q=>aV q
 ·exact yp hT h2 hn h
theorem Mf{its:List (Addr×List Int)}{Q:Bool->η->Prop}{p q:Addr×List Int}(hp:p∈its)(hq:q∈its)(hT:gw s.heap its)(hu:A.units<cLine)(h:Q (HT.lexLt p.2 q.2) s):wpAny (model prog w) A (keyLt' (pW its) (.ref p.1) (.ref q.1)) Q E s:=by
 obtain⟨xi,hxi,ti⟩:=hT p hp;obtain⟨xj,Kc,tj⟩:=hT q hq;have gen:wpAny (model prog w) A (keyLt' general' (.ref p.1) (.ref q.1)) Q E s:=kat_one _ _ (HT.lt_tupInts ti tj (by simpa using hxi) (by simpa using Kc) hu h);unfold pW;split
 ·obtain⟨oi,ei,ci,ni,di⟩:=id ti;obtain⟨oj,ej,cj,nj,dj⟩:=id tj;refine kat_lt ei di ej dj ?_;refine ql.pQ 0 hxi Kc ?_ h;have:=hxi.length;have:=Kc.length;simp only[eG];omega
 ·split
  ·split
   ·rw[keyLt'_oneType,oneLt'_eq];simp only[Tr];refine aq (wpAny_cRoomFor hu ?_);obtain⟨⟨cls,dd,data,sl⟩,ho,hc,n,hd⟩:=id ti;obtain⟨⟨cls2,dd2,data2,sl2⟩,ho2,hc2,n2,hd2⟩:=id tj;simp only at hc hd hc2 hd2;subst hc hd hc2 hd2;refine aq (wpAny_callSpecialIfBound?_slot (T:="tuple") ⟨_,ho,rfl⟩ YJ (Tw YJ ⟨_,ho,rfl⟩ wey (wen _ _) (HT.tuple_lt_ints p.1 q.1 _ _ n n2 dd dd2 sl sl2 p.2 q.2 (by simpa using hxi) (by simpa using Kc)) ⟨ho,ho2,?_⟩));exact JX h
   ·exact gen
  ·exact gen
end
section
variable{prog:ξ}{w:τ}{A:υ}{E:L4}{s:η}{d:Addr}{es:Array DictEntry}{ep:Nat}
theorem lY:∀its:List (Addr×List Int),Paired (fun(p:Addr×List Int) (v:ζ)=>v= .ref p.1) its (bO its)
 |[]=> .nil
 |p::its=> .cons rfl (lY its)
theorem Ai{its:List (Addr×List Int)}{i:Nat}(hi:i<its.length):(bO its).getD i Value.none= .ref its[i].1:=by
 unfold bO;rw[qG,dD,jc hi];rfl
theorem gw.keep{h h':Heap}{its:List (Addr×List Int)}(x:gw h its)(k:∀b o,h.get? b=some o->h'.get? b=some o):gw h' its:=fun p hp=>by
 obtain⟨items,hi,o,e,r⟩:=x p hp;exact⟨items,hi,o,k _ _ e,r⟩
theorem Bs{its:List (Addr×List Int)}{Q:L4}(hA:A.handled=none)(lo:(d==sysModules)=false)(S:j7 s.heap d es ep)(hv:es.toList.map (·.key)=bO its)(hT:gw s.heap its)(h64:its.length<64)(hu:A.in1.in1.units<cLine)(q:∀D h' tk out c (its':List (Addr×List Int)),its'.Perm its->its'.Pairwise (fun p q=>HT.lexLt q.2 p.2=false)->Paired (fun(p:Addr×List Int) (v:ζ)=>v= .ref p.1) its' out->s.heap.objs.size<=D->(∀b o,s.heap.get? b=some o->h'.get? b=some o)->h'.get? D=some (seqObj "list" (List.toArray out) c)->Q (.ref D) {s with heap:=h',toks:=tk}):
  wpAny (model prog w) A (call (.builtin "sorted") [.ref d]) Q E s:=by
 have hlen:(bO its).length=its.length:=aM _;have hes:es.size=its.length:=by rw[<-hlen,<-hv,aM,Og]
 refine Calls.call_function_entry kind_sorted plain_sorted entry_sorted (args_sorted1 _) ?_;unfold Builtin.«sorted»;refine aq (m:=checkCount "sorted" 1 1 _) (aV (aq (yO (by simpa using hA) lo S (by omega) fun h1 tk Ph le=> ?_)));rw[hv];refine aq (TQ ?_ (by rw[cY];omega));have hoL:(h1.push (seqObj "list" (bO its).toArray 0)).get? h1.objs.size=some (seqObj "list" (bO its).toArray 0):=mW _ rfl;have keep:∀b o,s.heap.get? b=some o->(h1.push (seqObj "list" (bO its).toArray 0)).get? b=some o:=fun b o e=>fG _ (Ph b o e);have ne:∀b o,s.heap.get? b=some o->b≠h1.objs.size:=fun b o e=>dX (cO (Ph b o e));refine aq (rZ (Om slot_list_sort ⟨_,hoL,rfl⟩ entry_list_sort ?body (args_list_sort _)))
 case body=>
  refine ql.iT (O:=ql.lexOrd) (key:=fun i=>(its.getD i (0,[])).2) (κ:=pW its) (vs:=bO its) (s:={s with heap:=h1.push (seqObj "list" (bO its).toArray 0),toks:=tk}) hoL (by omega)
   (fun h2 h' k Q hq=> ?_) (fun h2 h' k=> ?_) fun h' out c ho k hc=> ?_
  ·exact CQ (s:={s with heap:=h',toks:=tk}) (hT.keep fun b o e=>k b o (ne b o e) (keep b o e)) (by omega) hq
  ·intro i j C hi hj hC;rw[hlen]at hi hj;unfold PySem.W.kas_ask;rw[Ai hi,Ai hj];refine Mf (s:={s with heap:=h',toks:=tk}) (Bm hi) (Bm hj) (hT.keep fun b o e=>k b o (ne b o e) (keep b o e)) hu ?_;rw[HT.aW];have e1:its.getD i (0,[])=its[i]:=by simp[hi]
   have e2:its.getD j (0,[])=its[j]:=by simp[hj]
   have hC':C (decide ((its.getD i (0,[])).2<(its.getD j (0,[])).2)) _:=hC;rw[e1,e2]at hC';exact hC'
  ·obtain⟨its',hp,hr,hw⟩:=ql.sJ (d:=((0,[]):Addr×List Int)) (f:=fun p=>p.2) (lY its) (fun i hi=>by show(its.getD i (0,[])).2=_;simp[hi]) ho;refine⟨_,rfl,aV ⟨_,rfl,q _ h' tk out c its' hp (hw.imp fun{x y} hxy=> ?_) hr le (fun b o e=>k b o (ne b o e) (keep b o e)) hc⟩⟩;rw[HT.aW];exact hxy
end
end DH
namespace L2
open PySem PySem.Spec PyProof.Rows
noncomputable def Pg(k:List Key):List Int:=k.map fun
 | .inl i=>i
 | .inr _=>0
noncomputable def S6(k:List Key):Prop:=k=(Pg k).map Sum.inl
theorem Mr(ns:List Int):Pg (ns.map Sum.inl)=ns:=by
 unfold Pg;rw[ux]
 induction ns with
 |nil=>rfl
 |cons n ns ih=>rw[jB,ih];rfl
theorem S6.vals{k:List Key}(h:S6 k):k.map kV=(Pg k).map V.int:=by
 rw[h,ux,Mr];rfl
section
variable{X:Cx}
theorem qP(hc:X.calm=true)(hu:X.A.units+64<cLine):CallR X (.builtin "sorted") (fun xs H Q=>∃(a:Addr) (kvs:List (List Key×V)),xs=[.ref a]/\H a=some (.dT kvs)/\kvs.length<64/\(∀kv∈kvs,S6 kv.1)/\
  ∀(l:Addr) (its:List (Addr×List Int)),H l=none->(∀p∈its,H p.1=some (.tup (p.2.map V.int)))->(its.map (·.2)).Perm (kvs.map fun kv=>Pg kv.1)->(kvs.map (·.1)).Nodup->its.Pairwise (fun p q=>HT.lexLt q.2 p.2=false)->Q (.ref l) (upd H l (.lst (its.map fun p=>V.ref p.1)))):=by
 intro pins s σ H xs us Q I r h;obtain⟨a,kvs,rfl,hD,h64,hK,q⟩:=h;obtain⟨u,rfl,ru⟩:=r.one;cases ru;obtain⟨z,hd,ys,rel,dd⟩:=dt_of I.hok hD;obtain⟨o,es,ep,ho,hx,hdat,he,his,hn⟩:=id dd;have hl:ys.length=kvs.length:=(U4 rel).symm;have main:∃its:List (Addr×List Int),es.toList.map (·.key)=DH.bO its/\(∀p∈its,H p.1=some (.tup (p.2.map V.int)))/\its.map (·.2)=kvs.map fun kv=>Pg kv.1:=by
  rw[he];clear his hn he hdat hx ho dd hl h64 z q hD
  induction rel with
  |nil=>exact⟨[],rfl,fun _ hp=>(nomatch hp),rfl⟩
  | @cons p y kvs ys r t ih=>
   obtain⟨its,h1,h2,h3⟩:=ih fun kv hkv=>hK kv (cP _ hkv);refine⟨(y.2.1,Pg p.1)::its,?_,fun q hq=> ?_,?_⟩
   ·rw[jB,jB,h1];rfl
   ·rcases cD.mp hq with e|e
    ·rw[e];show H y.2.1=some (.tup ((Pg p.1).map V.int));rw[<-(hK p cH).vals];exact r.2.1
    ·exact h2 q e
   ·rw[jB,jB,h3]
 obtain⟨its,m1,m2,m3⟩:=main;have wM:its.length=kvs.length:=by have:=iy List.length m3;simpa using this
 have hT:DH.gw s.heap its:=fun p hp=>by
  obtain⟨its',r',t',_⟩:=I.tuple (SqT.of (K:=X.K) (m2 p hp));exact⟨its',Uj r',t'⟩
 refine DH.Bs (I.ok.hd hc) hd ⟨o,ho,hx,hdat⟩ m1 hT (by omega) (show X.A.units+1+1<cLine by omega) fun D h' tk out c its' hp hw hr hDs k hO=> ?_;have rv':Vals (its'.map fun p=>V.ref p.1) out:=by
  have go:∀(l:List (Addr×List Int)) (us:List ζ),Paired (fun(p:Addr×List Int) (v:ζ)=>v= .ref p.1) l us->Vals (l.map fun p=>V.ref p.1) us:=by
   intro l us h
   induction h with
   |nil=>exact .nil
   |cons r t ih=>exact .cons r ih
  exact go its' out hr
 have zl:(its'.map fun p=>V.ref p.1).length<=sizeLine:=by
  have:=hp.length_eq;rw[aM,cY];omega
 have J:Inv X pins σ (upd H D (.lst (its'.map fun p=>V.ref p.1))) {s with heap:=h',toks:=tk}:=I.laid k hDs ⟨zl,out,c,rv',hO⟩;have ek:kvs.map (·.1)=ys.map (·.1):=by
  clear hK m3 wM hT rv' zl J hl hn his he dd m1 hD h64 z q
  induction rel with
  |nil=>rfl
  |cons r t ih=>rw[jB,jB,ih,r.1]
 refine⟨.ref D,_,J,rfl,q D its' (I.hok.fresh hDs) (fun p hp'=>m2 p (hp.mem_iff.mp hp')) ?_ (by rw[ek];exact hn) hw⟩;rw[<-m3];exact hp.map _
end
structure m9(X:Cx)(pins:L1)(I:Addr):Prop where
 lo:X.s₀.heap.objs.size<=I
 loc:I≠X.env.locals
 fs:I∉X.fs
 cl:∀x c,X.env.cells.lookup x=some c->c≠I
 pn:∀p∈X.pn++pins,p.1≠I
section
variable{X:Cx}{σ:St}{H:Hp}{s:η}{pins:L1}
theorem m9.new{I:Addr}(J:Inv X pins σ H s)(h:s.heap.objs.size<=I):m9 X pins I:=by
 refine⟨cC J.sz h,Qc (gR J.lt h),J.nofs h,fun x c e=> ?_,fun p hp=>dX (gR (cO (J.pin p hp).1) h)⟩;obtain⟨v,o,ho,_⟩:=J.cell x c e;exact dX (gR (cO ho) h)
theorem Inv.oG{p:Addr×Obj}(J:Inv X (p::pins) σ H s):Inv X pins σ H s:=J.pins_of fun q hq=>J.pin q (jC _ (cP _ hq))
theorem Inv.uQ{I:Addr}{o o':Obj}{h':Heap}{tk:Nat}(J:Inv X ((I,o)::pins) σ H s)(m:m9 X pins I)(k:∀b x,b≠I->s.heap.get? b=some x->h'.get? b=some x)(e:h'.get? I=some o')(d:∀v,o'.data≠.cell v):
  Inv X ((I,o')::pins) σ H {s with heap:=h',toks:=tk}:=by
 have hI:=J.pin (I,o) (jC _ cH);have K:=(J.oG).turned (t':=tk) (it:=I) k hI.2.1 m.loc (.inr m.lo) m.cl m.pn;refine K.pins_of fun q hq=> ?_;rcases cD.mp hq with z|z
 ·subst z;exact⟨e,hI.2.1,m.loc,m.fs,d⟩
 ·exact K.pin q (jC _ z)
theorem Inv.swap{p q:Addr×Obj}(J:Inv X (p::q::pins) σ H s):Inv X (q::p::pins) σ H s:=J.pins_of fun r hr=>J.pin r (jC _ (by
 rcases cD.mp hr with z|z
 ·rw[z];exact cP _ cH
 ·rcases cD.mp z with z|z
  ·rw[z];exact cH
  ·exact cP _ (cP _ z)))
theorem m9.under{I:Addr}{p:Addr×Obj}(m:m9 X pins I)(n:p.1≠I):m9 X (p::pins) I:=⟨m.lo,m.loc,m.fs,m.cl,fun q hq=>by
 rcases fH.mp hq with z|z
 ·exact m.pn q (Qj _ z)
 ·rcases cD.mp z with z|z
  ·rw[z];exact n
  ·exact m.pn q (jC _ z)⟩
theorem sW{a:Array ζ}{k:Nat}(T:String):∀v,(seqObj T a k).data≠.cell v:=fun v z=>by
 have z':Data.seq a k=Data.cell v:=z;cases z'
end
section
variable{X:Cx}{e:Expr}{ta:TE}{f:Str}{pos:Pos}
theorem K9(K:W.Frag)(he:PE X e ta)(hb:attributeBase e f X.env (eval e X.env)=eval e X.env)(h:X.K=K:=by rfl):PE X (.Attribute e f pos) (tFld K ta f):=by subst h;exact pe_fld he hb
end
structure DK(K:W.Frag)(C:Addr)(x qual:Str)(st:Stmt)(ps:List Str)(f:Addr)(fd:ρ):Prop where
 F:Fun K x qual st f fd
 b:Binds K fd ps []
 m:Meth K C x f
end L2
namespace NK
open PySem PySem.W
mutual
def hsh:θ->Int
 | .int i=>hashInt i
 | .tuple xs=>reduceHash (Builtin.Tuple.tupleHashOf (mY xs))
 |_=>0
def mY:List θ->List Int
 |[]=>[]
 |d::ds=>hsh d::mY ds
end
mutual
def Sh:θ->Nat
 | .int _=>1
 | .tuple xs=>tE xs+1
 |_=>0
def tE:List θ->Nat
 |[]=>0
 |d::ds=>Sh d+tE ds
end
mutual
def u9:θ->Bool
 | .int _=>true
 | .tuple xs=>dG xs
 |_=>false
def dG:List θ->Bool
 |[]=>true
 |d::ds=>u9 d&&dG ds
end
noncomputable def zp(A:υ)(s:η)(v:ζ)(d:θ):Prop:=∀(prog:ξ) (w:τ) (E:L4) (t:Nat) (Q:Int->η->Prop),
 Q (hsh d) {s with toks:=t+Sh d}->wpAny (model prog w) A (pyHash v) Q E {s with toks:=t}
inductive iD(A:υ)(s:η):List ζ->List θ->Prop
 |nil:iD A s [] []
 |cons {v vs d ds} (h:zp A s v d) (t:iD A s vs ds):iD A s (v::vs) (d::ds)
theorem Ip{A:υ}{s:η}{a:Addr}{o:Obj}{vs:Array ζ}{n:Nat}{xs:List θ}(ho:s.heap.get? a=some o)(hc:o.cls= .type "tuple")(hd:o.data= .seq vs n)(hu:A.units<cLine)(hi:iD A.in1 s vs.toList xs):zp A s (.ref a) (.tuple xs):=by
 intro prog w E t Q h;have hT:({s with toks:=t}:η).TypeIs (.ref a) "tuple":=⟨o,ho,hc⟩;unfold pyHash
 first |unfold pyHashByItsType|skip
 first |refine aq (wpAny_cRoomFor_or (.inr hu) ?_)|skip
 refine aq (WX hT F.slot_tuple_hash.lookup ?_);show wpAny _ _ (if(some (Value.builtin "tuple.__hash__")==some Value.none)=true then _ else _) Q E _;rw[aJ (by rw[beq_builtin_none];exact lQ)];refine aq (WX hT F.slot_tuple_hash.lookup ?_);show wpAny _ _ (callSpecialIfBoundUnlessNone? (.ref a) "__hash__" _>>=_) Q E _;refine aq (wpAny_callSpecialIfBoundUnlessNone?_slot hT F.slot_tuple_hash (Om F.slot_tuple_hash hT F.entry_tuple_hash ?_ (F.args_tuple_hash_1 _)));show wpAny _ _ (Builtin.Tuple.tupleItemsOf (.ref a)>>=_) _ _ _;refine aq (wpAny_tupleItemsOf ho hd (aq ?_));rw[<-Array.forIn_toList];refine Yp _ (fun rest (b:Array Int) s'=>∃left k,iD A.in1 s rest left/\b.toList++mY left=mY xs/\k+tE left=tE xs/\s'={s with toks:=t+k}) _ ?_ ?_ _ _ ⟨xs,0,hi,rfl,Yd _,rfl⟩
 ·rintro x rest b s' ⟨left,k,hl,hb,hk,rfl⟩;cases hl with
  | @cons _ _ d ds h1 hl'=>
   refine aq (h1 prog w E (t+k) _ ?_);have e1:(b.push (hsh d)).toList++mY ds=mY xs:=by rw[<-hb,Array.toList_push,W7];rfl
   have e2:k+Sh d+tE ds=tE xs:=by rw[<-hk];show _=k+(Sh d+tE ds);omega
   first
    |exact aV ⟨ds,k+Sh d,hl',e1,e2,by rw[WT]⟩
    |exact aq (aV (aV ⟨ds,k+Sh d,hl',e1,e2,by rw[WT]⟩))
 ·rintro b s' ⟨left,k,hl,hb,hk,rfl⟩;cases hl;have e1:b.toList=mY xs:=by rw[<-hb];exact(qT _).symm
  have e2:k=tE xs:=by rw[<-hk];rfl
  subst e2;show wpAny _ _ (retInt (Builtin.Tuple.tupleHashOf b.toList)) _ _ _;rw[e1];refine wpAny_ret_mkInt ?_;show wpAny _ _ (if(decide (-(2:Int)^63<=Builtin.Tuple.tupleHashOf (mY xs))&&decide (Builtin.Tuple.tupleHashOf (mY xs)<2^63))=true then _ else _) Q E _;have h':Q (reduceHash (Builtin.Tuple.tupleHashOf (mY xs))) {s with toks:=t+(tE xs+1)}:=h;unfold reduceHash at h';by_cases c:(decide (-(2:Int)^63<=Builtin.Tuple.tupleHashOf (mY xs))&&decide (Builtin.Tuple.tupleHashOf (mY xs)<2^63))=true
  ·rw[aL c];rw[aL c]at h';exact aV (by simpa[WT]using h')
  ·rw[aJ c];rw[aJ c]at h';exact aq (UW (aV (by simpa[WT]using h')))
mutual
theorem pY:∀(d:θ) (A:υ) (s:η) (v:ζ) (as:List Addr),Reads s.heap v d as->u9 d=true->A.units+d.depth<cLine->zp A s v d
 | .int i,A,s,_,_,r,_,hu=>by
  cases r;intro prog w E t Q h;exact wpAny_pyHash_int h
 | .tuple xs,A,s,_,_,r,hn,hu=>by
  have hu':A.units+(PyData.depthAll xs+1)<cLine:=hu;cases r with
  |tuple h1 h2 h3 h4=>exact Ip h1 h2 h3 (by omega) (iU xs A.in1 s _ _ h4 hn (by show A.units+1+_<_;omega))
 | .none,_,_,_,_,_,hn,_=>by cases hn
 | .bool _,_,_,_,_,_,hn,_=>by cases hn
 | .str _,_,_,_,_,_,hn,_=>by cases hn
 | .list _,_,_,_,_,_,hn,_=>by cases hn
 | .dict _,_,_,_,_,_,hn,_=>by cases hn
theorem iU:∀(ds:List θ) (A:υ) (s:η) (vs:List ζ) (as:List Addr),ReadsAll s.heap vs ds as->dG ds=true->A.units+PyData.depthAll ds<cLine->iD A s vs ds
 |[],_,_,_,_,r,_,_=>by cases r;exact .nil
 |d::ds,A,s,_,_,r,hn,hu=>by
  have hu':A.units+max d.depth (PyData.depthAll ds)<cLine:=hu;have hn':(u9 d&&dG ds)=true:=hn;rw[gU]at hn';cases r with
  |cons h1 h2=>exact .cons (pY d A s _ _ h1 hn'.1 (by omega)) (iU ds A s _ _ h2 hn'.2 (by omega))
end
noncomputable def j5(A:υ)(s:η)(m:Nat)(v:ζ):Prop:=∀(prog:ξ) (w:τ) (E:L4) (Q:Bool->η->Prop),Q true s->wpAny (model prog w) A (eqIsQuiet m v) Q E s
theorem BL{A:υ}{s:η}{a:Addr}{o:Obj}{vs:Array ζ}{n m:Nat}(ho:s.heap.get? a=some o)(hc:o.cls= .type "tuple")(hd:o.data= .seq vs n)(hi:∀v∈vs.toList,j5 A s m v):j5 A s (m+1) (.ref a):=by
 intro prog w E Q h;have hT:s.TypeIs (.ref a) "tuple":=⟨o,ho,hc⟩;unfold eqIsQuiet;refine aq (WX hT F.slot_tuple_eq.lookup ?_);show wpAny _ _ (isInstance (.ref a) (.type "tuple")>>=_) _ _ s;refine aq (wpAny_isInstance hT isSubtype_tuple_tuple ?_);simp only[Bool.not_true,Oo,Eu];refine aq (Qs ho hd (aq ?_));show wpAny _ _ (forIn vs _ _) _ _ s;rw[<-Array.forIn_toList];refine Yp _ (fun rest r s'=>r.1=none/\s'=s/\∀v∈rest,j5 A s m v) _ ?_ ?_ _ _ ⟨rfl,rfl,hi⟩
 ·rintro v rest r s' ⟨hr,rfl,hall⟩;refine aq (hall v cH prog w E _ ?_);simp only[Bool.not_true,Oo,Eu];exact aV ⟨rfl,rfl,fun u hu'=>hall u (cP _ hu')⟩
 ·rintro⟨r1,r2⟩ s' ⟨hr,rfl,_⟩;simp only at hr;subst hr;exact aV h
mutual
theorem lZ:∀(d:θ) (A:υ) (s:η) (v:ζ) (as:List Addr) (m:Nat),Reads s.heap v d as->u9 d=true->d.depth<=m->j5 A s m v
 | .int i,A,s,_,_,m,r,_,_=>by
  cases r;intro prog w E Q h;rw[eqIsQuiet_byValue m (v:= .int i _) rfl];exact aV h
 | .tuple xs,A,s,_,_,m,r,hn,hm=>by
  have hm':PyData.depthAll xs+1<=m:=hm;obtain⟨k,rfl⟩:∃k,m=k+1:=⟨m-1,by omega⟩;cases r with
  |tuple h1 h2 h3 h4=>exact BL h1 h2 h3 (gZ xs A s _ _ k h4 hn (by omega))
 | .none,_,_,_,_,_,_,hn,_=>by cases hn
 | .bool _,_,_,_,_,_,_,hn,_=>by cases hn
 | .str _,_,_,_,_,_,_,hn,_=>by cases hn
 | .list _,_,_,_,_,_,_,hn,_=>by cases hn
 | .dict _,_,_,_,_,_,_,hn,_=>by cases hn
theorem gZ:∀(ds:List θ) (A:υ) (s:η) (vs:List ζ) (as:List Addr) (m:Nat),ReadsAll s.heap vs ds as->dG ds=true->PyData.depthAll ds<=m->∀v∈vs,j5 A s m v
 |[],_,_,_,_,_,r,_,_=>by cases r;exact fun v hv=>(nomatch hv)
 |d::ds,A,s,_,_,m,r,hn,hm=>by
  have hm':max d.depth (PyData.depthAll ds)<=m:=hm;have hn':(u9 d&&dG ds)=true:=hn;rw[gU]at hn';cases r with
  |cons h1 h2=>
   intro v hv;rcases cD.mp hv with rfl|hv
   ·exact lZ d A s _ _ m h1 hn'.1 (by omega)
   ·exact gZ ds A s _ _ m h2 hn'.2 (by omega) v hv
end
noncomputable abbrev SK:=List (Int×List Int)
noncomputable def rE(p:Int×List Int):θ:= .tuple [.int p.1,.tuple (p.2.map PyData.int)]
noncomputable def toD(k:SK):θ:= .tuple (k.map rE)
theorem vG:∀l:List Int,dG (l.map PyData.int)=true
 |[]=>rfl
 |x::l=>by show(true&&dG (l.map PyData.int))=true;rw[vG l];rfl
theorem vJ:∀l:List Int,PyData.depthAll (l.map PyData.int)=0
 |[]=>rfl
 |x::l=>by show max 0 (PyData.depthAll (l.map PyData.int))=0;rw[vJ l];rfl
theorem vH:∀l:List Int,PyData.canLayAll0 (l.map PyData.int)=true
 |[]=>rfl
 |x::l=>by show(PyData.canLay0 (.int x)&&PyData.canLayAll0 (l.map PyData.int))=true;rw[vH l];rfl
theorem vI:∀l m:List Int,PyData.eqvAll (l.map PyData.int) (m.map PyData.int)=decide (l=m)
 |[],[]=>by simp[PyData.eqvAll]
 |[],y::m=>by simp[PyData.eqvAll]
 |x::l,[]=>by simp[PyData.eqvAll]
 |x::l,y::m=>by
  show(PyData.eqv (.int x) (.int y)&&PyData.eqvAll (l.map PyData.int) (m.map PyData.int))=_;rw[vI l m];have e:PyData.eqv (.int x) (.int y)=decide (x=y):=by
   show(x==y)=_;rw[qM];simp
  rw[e,qM];simp
theorem Q6(p q:Int×List Int):PyData.eqv (rE p) (rE q)=decide (p=q):=by
 show(PyData.eqv (.int p.1) (.int q.1)&&(PyData.eqvAll (p.2.map PyData.int) (q.2.map PyData.int)&&PyData.eqvAll [] []))=_;rw[vI];have e:PyData.eqv (.int p.1) (.int q.1)=decide (p.1=q.1):=by
  show(p.1==q.1)=_;rw[qM];simp
 have e2:PyData.eqvAll [] []=true:=by simp[PyData.eqvAll]
 rw[e,e2,Bool.and_true,qM,gU,wZ,wZ,wZ];exact⟨fun h=>Tv h.1 h.2,fun h=>by rw[h];exact⟨rfl,rfl⟩⟩
theorem nT:∀k:SK,dG (k.map rE)=true/\PyData.depthAll (k.map rE)<=2/\PyData.canLayAll0 (k.map rE)=true
 |[]=>⟨rfl,gG _,rfl⟩
 |p::k=>by
  obtain⟨a,b,c⟩:=nT k;refine⟨?_,?_,?_⟩
  ·show((true&&(dG (p.2.map PyData.int)&&true))&&dG (k.map rE))=true;rw[vG,a];rfl
  ·show max (max 0 (max (PyData.depthAll (p.2.map PyData.int)+1) 0)+1) (PyData.depthAll (k.map rE))<=2;rw[vJ];omega
  ·show(PyData.canLay0 (rE p)&&PyData.canLayAll0 (k.map rE))=true;have:PyData.canLay0 (rE p)=true:=by
    show(PyData.canLay0 (.int p.1)&&(PyData.canLayAll0 (p.2.map PyData.int)&&PyData.canLayAll0 []))=true;rw[vH];rfl
   rw[this,c];rfl
theorem Aj:∀j k:SK,PyData.eqvAll (j.map rE) (k.map rE)=decide (j=k)
 |[],[]=>by simp[PyData.eqvAll]
 |[],y::m=>by simp[PyData.eqvAll]
 |x::l,[]=>by simp[PyData.eqvAll]
 |x::l,y::m=>by
  show(PyData.eqv (rE x) (rE y)&&PyData.eqvAll (l.map rE) (m.map rE))=_;rw[Aj l m,Q6,qM];simp
theorem toD_nst(k:SK):u9 (toD k)=true:=(nT k).1
theorem toD_dep(k:SK):(toD k).depth<=3:=by
 show PyData.depthAll (k.map rE)+1<=3;have:=(nT k).2.1;omega
theorem toD_lay(k:SK):(toD k).canLay0=true:=(nT k).2.2
theorem toD_eqv(j k:SK):PyData.eqv (toD j) (toD k)=decide (j=k):=Aj j k
theorem toD_inj{j k:SK}(h:toD j=toD k):j=k:=by
 have e:=toD_eqv j k;have e2:=toD_eqv j j;rw[dF rfl]at e2;rw[<-h,e2]at e;exact qX e.symm
theorem rD{h:Heap}{v:ζ}{d:θ}{as:List Addr}(r:Reads h v d as)(hn:u9 d=true):as=[]:=
 Reads.rec (motive_1:=fun _ d as _=>u9 d=true->as=[]) (motive_2:=fun _ ds as _=>dG ds=true->as=[])
  (fun _=>rfl) (fun _ _=>rfl) (fun _ _ _=>rfl) (fun _ _ _=>rfl) (fun _ _ _ _ _ hn=>by cases hn) (fun _ _ _ _ ih hn=>ih hn) (fun _ _ _ _ _ _ _ hn=>by cases hn) (fun _=>rfl)
  (fun _ _ i1 i2 hn=>by
   have hn':(u9 _&&dG _)=true:=hn;rw[gU]at hn';rw[i1 hn'.1,i2 hn'.2];rfl) r hn
theorem xH{h h':Heap}{dd:Addr}{o:Obj}{es:Array DictEntry}{ep:Nat}(ho:h.get? dd=some o)(hd:o.data= .dict es ep)(hs:Heap.SameBut dd h h'){v:ζ}{d:θ}{as:List Addr}(r:Reads h v d as)(hn:u9 d=true):Reads h' v d as:=
 Reads.rec (motive_1:=fun v d as _=>u9 d=true->Reads h' v d as) (motive_2:=fun vs ds as _=>dG ds=true->ReadsAll h' vs ds as)
  (fun _=> .none) (fun b _=> .bool b) (fun i t _=> .int i t) (fun x t _=> .str x t) (fun _ _ _ _ _ hn=>by cases hn)
  (fun{a o' vs n xs as} h1 h2 h3 _ ih hn=>by
   have ne:a≠dd:=fun z=>by
    rw[z]at h1;have e:=was (h1.symm.trans ho);rw[e,hd]at h3;cases h3
   exact .tuple ((hs.2 a ne).trans h1) h2 h3 (ih hn)) (fun _ _ _ _ _ _ _ hn=>by cases hn) (fun _=> .nil)
  (fun _ _ i1 i2 hn=>by
   have hn':(u9 _&&dG _)=true:=hn;rw[gU]at hn';exact .cons (i1 hn'.1) (i2 hn'.2)) r hn
noncomputable def sy(prog:ξ)(w:τ):HeapKind prog w SK where
 is:=fun h k a=>Reads h (.ref a) (toD k) []
 hash:=fun k=>hsh (toD k)
 draws:=fun k=>Sh (toD k)
 room:=fun A=>A.units+3<cLine
 inj:=fun hx hy=>toD_inj (Yy hx _ _ hy).1
 keeps:=fun{h h' k a d o es ep} x ho hd hs=>xH ho hd hs x (toD_nst k)
 pyHash:=fun{A E s k a Q} hu hk h=>pY (toD k) A s (.ref a) [] hk (toD_nst k) (by have:=toD_dep k;omega) prog w E s.toks Q h
 eqBool:=fun{A E s x y a b Q} hu hx hy h=>by
  have e:=toD_eqv x y;have:=toD_dep x;exact Ym (toD x) (toD y) A s (.ref a) (.ref b) [] [] hx hy (toD_lay x) (toD_lay y) (by omega) prog w E Q (by rw[e];exact h)
 quiet:=fun{A E s k a Q} hk h=>lZ (toD k) A s (.ref a) [] 8 hk (toD_nst k) (by have:=toD_dep k;omega) prog w E Q h
end NK
namespace L2
open PySem PySem.Spec PyProof.Rows
noncomputable def Ui(a:Addr)(xs:List (NK.SK×Addr))(h:Heap):Prop:=(a==sysModules)=false/\xs.length<=sizeLine/\
 ∃o es ep,h.get? a=some o/\o.ExactDict/\o.data= .dict es ep/\es.toList=xs.map (fun x=>(⟨NK.hsh (NK.toD x.1),.ref x.2,.bool true⟩:DictEntry))/\(xs.map (·.1)).Nodup
noncomputable def S7(a:Addr)(xs:List (NK.SK×Addr)):HO:= .ext (Ui a xs)
noncomputable def DN(K:W.Frag)(H:Hp)(a:Addr)(ks:List NK.SK):Prop:=∃xs,H a=some (S7 a xs)/\xs.map (·.1)=ks/\∀x∈xs,DV K H (.ref x.2) (NK.toD x.1)
theorem Jm{a:Addr}{xs:List (NK.SK×Addr)}:∀h1 h2:Heap,Ui a xs h1->(∀o,h1.get? a=some o->h2.get? a=some o)->Ui a xs h2:=fun h1 h2 ⟨x,y,o,es,ep,ho,r⟩ k=>⟨x,y,o,es,ep,k o ho,r⟩
theorem Pu{P:ξ}{w:τ}{H:Hp}{h:Heap}{a:Addr}{xs:List (NK.SK×Addr)}(p:Ui a xs h):ObjOk P w H h a (S7 a xs):=by
 refine⟨p,?_,Jm⟩;obtain⟨_,_,o,_,_,ho,_⟩:=p;exact⟨o,ho⟩
theorem iz{K:W.Frag}{H H':Hp}{a b:Addr}{φ:Heap->Prop}{xs:List V}(ha:H a=some (.ext φ))(e:∀c o,c≠a->H c=some o->H' c=some o)(h:SqT K H b xs):SqT K H' b xs:=by
 rcases h with(q|⟨o,q⟩)|q
 ·exact .inl (.inl (e _ _ (fun z=>by rw[z,ha]at q;cases q) q))
 ·exact .inl (.inr ⟨o,e _ _ (fun z=>by rw[z,ha]at q;cases q) q⟩)
 ·exact .inr q
theorem tD{K:W.Frag}{H H':Hp}{a:Addr}{φ:Heap->Prop}(ha:H a=some (.ext φ))(e:∀c o,c≠a->H c=some o->H' c=some o){x:V}{d:θ}(h:DV K H x d)(hn:NK.u9 d=true):DV K H' x d:=
 DV.rec (motive_1:=fun x d _=>NK.u9 d=true->DV K H' x d) (motive_2:=fun xs ds _=>NK.dG ds=true->bB K H' xs ds)
  (fun _=> .non) (fun b _=> .bl b) (fun i _=> .int i) (fun x _=> .str x) (fun h _ t hn=> .tup (iz ha e h) (t hn)) (fun _ _ _ hn=>by cases hn) (fun _ hn=>by cases hn) (fun _ _ hn=>by cases hn) (fun _=> .nil)
  (fun _ _ i1 i2 hn=>by
   have hn':(NK.u9 _&&NK.dG _)=true:=hn;rw[gU]at hn';exact .cons (i1 hn'.1) (i2 hn'.2)) h hn
theorem DN.same{K:W.Frag}{H H':Hp}{a:Addr}{ks:List NK.SK}(h:DN K H a ks)(e:Same H H'):DN K H' a ks:=by
 obtain⟨xs,h1,h2,h3⟩:=h;exact⟨xs,e _ _ h1,h2,fun x hx=>(h3 x hx).same e⟩
section
variable{X:Cx}{pins:L1}{σ:St}{H:Hp}{s:η}
theorem Px{a:Addr}{xs:List (NK.SK×Addr)}(I:Inv X pins σ H s)(h:H a=some (S7 a xs))(hk:∀x∈xs,DV X.K H (.ref x.2) (NK.toD x.1)):
  (a==sysModules)=false/\xs.length<=sizeLine/\s.heap.DictOfH (NK.sy X.prog X.w) a (xs.map fun x=>(x.1,x.2,Value.bool true)):=by
 obtain⟨⟨hd,hz,o,es,ep,ho,hx,hda,he,nd⟩,_⟩:=(show ObjOk X.prog X.w H s.heap a (S7 a xs)from I.hok a _ h);refine⟨hd,hz,o,es,ep,ho,hx,hda,?_,fun y hy=> ?_,?_⟩
 ·rw[he,ux];rfl
 ·obtain⟨x,hx',rfl⟩:=gH.mp hy;obtain⟨as,r⟩:=DV.reads I (hk x hx') (u:= .ref x.2) rfl;have:=NK.rD r (NK.toD_nst x.1);subst this;exact r
 ·rw[ux];exact nd
theorem Jo{b:Addr}{k:NK.SK}(I:Inv X pins σ H s)(h:DV X.K H (.ref b) (NK.toD k)):(NK.sy X.prog X.w).is s.heap k b:=by
 obtain⟨as,r⟩:=DV.reads I h (u:= .ref b) rfl;have:=NK.rD r (NK.toD_nst k);subst this;exact r
theorem Jp(k:NK.SK):∀xs:List (NK.SK×Addr),(atKey (xs.map fun x=>(x.1,x.2,Value.bool true)) k).isSome=decide (k∈xs.map (·.1))
 |[]=>rfl
 |x::xs=>by
  have ih:=Jp k xs;unfold atKey at ih⊢;rw[jB,Qe];by_cases c:x.1=k
  ·subst c;simp
  ·have e1:decide (x.1=k)=false:=cI c;show(Option.map _ (match decide (x.1=k)with |true=>_|false=>_)).isSome=_;rw[e1];show(Option.map _ (List.find? _ _)).isSome=_;rw[ih];refine decide_eq_decide.mpr ⟨fun h=>cP _ h,fun h=> ?_⟩;rcases cD.mp h with z|z
   ·exact absurd z.symm c
   ·exact z
end
section
variable{X:Cx}{o i value:Expr}{pos pos':Pos}{td ty tv:TE}
theorem Q9(hu:X.A.units+64<cLine):OpR X (compareOp .In) (fun x y H Q=>∃(a b:Addr) (ks:List NK.SK) (k:NK.SK),y= .ref a/\x= .ref b/\DN X.K H a ks/\DV X.K H (.ref b) (NK.toD k)/\Q (.bl (decide (k∈ks))) H):=by
 intro pins s σ H x y v u Q I rx ry h;obtain⟨a,b,ks,k,rfl,rfl,⟨xs,h1,h2,h3⟩,hk,q⟩:=h;cases ry;cases(show v=Value.ref b from rx);obtain⟨hd,hz,dd⟩:=Px I h1 h3;refine wpAny_in_heap (knd:=NK.sy X.prog X.w) (show X.A.units+1+3<cLine by omega) (Jo I hk) hd dd ?_;rw[Jp,h2];exact⟨.bl _,H,I.tok _,rfl,q⟩
noncomputable def QG(K:W.Frag)(td ty tv:TE):TS:=fun D σ H=>tv σ H fun v H1=>td σ H1 fun x H2=>ty σ H2 fun y H3=>∃(a b:Addr) (ks:List NK.SK) (k:NK.SK),x= .ref a/\y= .ref b/\v= .bl true/\DN K H3 a ks/\DV K H3 (.ref b) (NK.toD k)/\k∉ks/\ks.length<sizeLine/\
 ∀H4,(∀c o,c≠a->H3 c=some o->H4 c=some o)->DN K H4 a (ks++[k])->D.nx σ H4
theorem Gq(hu:X.A.units+64<cLine)(ho:PE X o td)(hi:PE X i ty)(hv:PE X value tv)(hs:swapsWith value (some (.Subscript o i pos')) pos.line X.env=pure false:=by rfl):
  PS X (.Assign [.Subscript o i pos'] value pos) (QG X.K td ty tv):=by
 intro pins s σ H D I h;refine wpAny_Assign_Subscript (thn (hv pins s σ H _ I h) fun r s1 ⟨v,H1,I1,rv,q1⟩=>thn (ho pins s1 σ H1 _ I1 q1) fun u s2 ⟨x,H2,I2,rx,q2⟩=>thn (hi pins s2 σ H2 _ I2 q2) fun iv s3 ⟨y,H3,I3,ry,a,b,ks,k,ex,ey,ev,⟨xs,h1,h2,h3⟩,hk,nk,lk,q3⟩=> ?_) hs;subst ex ey ev;obtain rfl:u=Value.ref a:=rx;obtain rfl:iv=Value.ref b:=ry;obtain rfl:r=Value.bool true:=rv;obtain⟨hd,hz,dd⟩:=Px I3 h1 h3;have none:atKey (xs.map fun x=>(x.1,x.2,Value.bool true)) k=none:=by
  have:=Jp k xs;rw[h2,cI nk]at this;exact Option.not_isSome_iff_eq_none.mp (by rw[this];decide)
 have kk:=Jo I3 hk;refine wpAny_setItem_heap (knd:=NK.sy X.prog X.w) (hsz:=by rw[aM];exact hz) (show X.A.units+1+3<cLine by omega) kk dd fun h' dd' hb=> ?_;rw[storedH_new none]at dd';obtain⟨o',es,ep,e1,e2,e3,e4,_,e5⟩:=dd';have hl:xs.length<sizeLine:=by rw[<-h2,aM]at lk;exact lk
 have p:Ui a (xs++[(k,b)]) h':=by
  refine⟨hd,by rw[eO];show xs.length+1<=_;omega,o',es,ep,e1,e2,e3,?_,?_⟩
  ·rw[e4,cg,cg,ux];rfl
  ·rw[cg,ux]at e5;rw[cg];exact e5
 have keep:∀c o,c≠a->H3 c=some o->(upd H3 a (S7 a (xs++[(k,b)]))) c=some o:=fun c o n z=>by rw[cN n];exact z
 refine⟨σ,upd H3 a (S7 a (xs++[(k,b)])),d_write I3 (by rw[h1];exact True.intro) hb ⟨o',e1⟩ (Pu p),q3 _ keep ⟨xs++[(k,b)],aG,by rw[cg,h2];rfl,fun x hx=> ?_⟩⟩;rcases fH.mp hx with z|z
 ·exact tD h1 keep (h3 x z) (NK.toD_nst _)
 ·rw[eN.mp z];exact tD h1 keep hk (NK.toD_nst _)
theorem Gu:PE X (.Dict [] [] pos) (fun _ H Q=>∀p H',Same H H'->H p=none->DN X.K H' p []->Q (.ref p) H'):=fun pins s σ H Q I h=>by
 have hn:H s.heap.objs.size=none:=I.hok.fresh (bH _);have p:Ui s.heap.objs.size [] (s.heap.push {cls:= .type "dict",data:= .dict #[]}):=
  ⟨beq_eq_false_iff_ne.mpr (uo (dX I.big)),gG _,_,#[],0,mW _ rfl,⟨rfl,rfl,rfl⟩,rfl,rfl,Yh⟩
 exact W2 ⟨.ref s.heap.objs.size,_,I.laid (a:=s.heap.objs.size) (o:=S7 s.heap.objs.size []) (t':=s.toks) (fun _ _ q=>fG _ q) (bH _) (Pu p),rfl,
  h _ _ (fun c o z=>by rw[cN (mQ z hn)];exact z) hn ⟨[],aG,rfl,fun x hx=>(nomatch hx)⟩⟩
end
section
variable{X:Cx}{σ:St}{H:Hp}{s:η}{pins:L1}
variable{I S f l:Addr}{vs:List ζ}{RR:Result->η->Prop}
theorem LC(kf:Nat->Int)(R:Nat->Hp->Prop)(hA:X.A.handled=none)(mI:m9 X pins I)(mS:m9 X pins S)(Pb:S≠I)(O9:l≠I)(hl:∀j H s,Inv X pins σ H s->R j H->s.heap.IsTuple l vs.toArray)(turn:∀j v (ps:L1) H s,vs[j]? =some v->Inv X ps σ H s->R j H->wpAny (model X.prog X.w) X.A.in1 (call (.ref f) [v]) (fun u s'=>∃H' t,u= .int (kf j) t/\Inv X ps σ H' s'/\R (j+1) H') (fun _ _=>False) s)(hR:∀i v H' s',vs[i]? =some v->(∀j,j<vs.length->kf i<=kf j/\(j<i->kf i<kf j))->Inv X pins σ H' s'->R vs.length H'->RR (.ok (.ret v)) s'):
  ∀(r j i:Nat) (H:Hp) (s:η) (vb:ζ) (tb:Tok) (c:Nat) (oI:Obj),vs.length-(j+1)=r->j+1<=vs.length->Inv X ((I,oI)::(S,seqObj "list" #[vb,.int (kf i) tb] c)::pins) σ H s->R (j+1) H->s.heap.IsTupleIter I l (j+1)->vs[i]? =some vb->i<=j->(∀j',j'<=j->kf i<=kf j'/\(j'<i->kf i<kf j'))->
   codeAny (model X.prog X.w) X.A (.builtin "min.loop" ⟨[.ref I,.ref f,.ref S],[]⟩) RR s:=by
 have nm:(toString "min"++toString ".loop":String)="min.loop":=by decide
 have W:=Walks.tuple (prog:=X.prog) (w:=X.w) (A:=X.A.in1) hA I l O9 vs.toArray;have zs:vs.toArray.size=vs.length:=eG ..;have m2:∀o,m9 X ((S,o)::pins) I:=fun o=>mI.under (p:=(S,o)) Pb;have m3:∀o,m9 X ((I,o)::pins) S:=fun o=>mS.under (p:=(I,o)) Pb.symm;intro r
 induction r with
 |zero=>
  intro j i H s vb tb c oI hr hj J VG hit hvb hij hbest;have pS:=(J.pin _ (jC _ (cP _ cH))).1;refine Ew YK (by
   rw[Kr Qv _];show wpAny _ X.A.in1 (seqItems? (.ref S)>>=_) _ _ _;refine aq (Qs pS rfl (?_));show wpAny _ X.A.in1 (tryCatch (pyNext (.ref I)) _>>=_) _ _ _;refine aq (Ei (W.done _ _ _ ⟨by rw[zs,<-show j+1=vs.length by omega];exact hit,hl (j+1) H s J.oG.oG VG⟩ fun h' tk' hk'=> ?_));have k1:∀b x,b≠I->s.heap.get? b=some x->h'.get? b=some x:=fun b x hb e=>hk' b x (fun z=>hb (eN.mp z)) e;have pI:=J.pin (I,oI) (jC _ cH);have J1:Inv X ((S,seqObj "list" #[vb,.int (kf i) tb] c)::pins) σ H {s with heap:=h',toks:=tk'}:=J.oG.turned (t':=tk') (it:=I) k1 pI.2.1 mI.loc (.inr mI.lo) mI.cl (m2 _).pn;have g:=(J1.pin _ (jC _ cH)).1;show wpAny _ X.A.in1 (updateSeq S (fun _=>#[])>>=_) _ _ _;refine aq (TV g rfl (aq (Oi (aV ?_))));have sb:=Ey h' S (Obj.mapSeq fun _=>(#[]:Array ζ));have J2:=(J1.uQ (o':=seqObj "list" #[] _) (tk:=tk') mS (fun b x hb e=>(sb.2 b hb).trans e) (Ol g fun _=>#[]) (sW _));exact hR i vb H _ hvb (fun j' hj'=>hbest j' (by omega)) J2.oG (by rw[<-show j+1=vs.length by omega];exact VG))
 |succ r ih=>
  intro j i H s vb tb c oI hr hj J VG hit hvb hij hbest;have hlt:j+1<vs.length:=by omega
  have pS:=(J.pin _ (jC _ (cP _ cH))).1;refine Ew YK (by
   rw[Kr Qv _];show wpAny _ X.A.in1 (seqItems? (.ref S)>>=_) _ _ _;refine aq (Qs pS rfl (?_));show wpAny _ X.A.in1 (tryCatch (pyNext (.ref I)) _>>=_) _ _ _;refine aq (Ei (W.item (j+1) _ _ _ (by rw[zs];exact hlt) ⟨hit,hl (j+1) H s J.oG.oG VG⟩ fun v h' tk' hP hst' hk'=> ?_));have hv:vs[j+1]? =some v:=(by simpa using hP);have k1:∀b x,b≠I->s.heap.get? b=some x->h'.get? b=some x:=fun b x hb e=>hk' b x (fun z=>hb (eN.mp z)) e;obtain⟨oI',hoI,hoc,hod⟩:=id hst'.1;have J1:=J.uQ (o':=oI') (tk:=tk') (m2 _) k1 hoI (fun v z=>by rw[hod]at z;cases z);show wpAny _ X.A.in1 (tryCatch (holding [v] (call (.ref f) [v])) _>>=_) _ _ _;refine aq (Ei (rZ (uz (turn (j+1) v _ H _ hv J1 VG) (fun u s2 z=> ?_) fun _ _ z=>z.elim)));obtain⟨H2,t2,rfl,J2,Xq⟩:=z;have hit2:s2.heap.IsTupleIter I l (j+1+1):=⟨oI',(J2.pin _ (jC _ cH)).1,hoc,hod⟩;have g:=(J2.pin _ (jC _ (cP _ cH))).1;show wpAny _ X.A.in1 (tryCatch (holding [v,.int (kf (j+1)) t2] (richCompare .Lt (.int (kf (j+1)) t2) (.int (kf i) tb)>>=_)) _>>=_) _ _ _;refine aq (Ei (rZ (aq (CmpOf.ints_lt (prog:=X.prog) (w:=X.w) (A:=X.A.in1) (P:=fun i v=>∃t,v= .int (kf i) t) kf (fun i v h=>h) (j+1) i _ _ _ _ _ ⟨t2,rfl⟩ ⟨tb,rfl⟩ (aq (rZ (JX (aq (Oi (aV ?_))))))))));by_cases hb:kf (j+1)<kf i
   ·have sb:=Ey s2.heap S (Obj.mapSeq fun _=>#[v,.int (kf (j+1)) t2]);simp only[hb,decide_true,Tr];refine aq (TV g rfl (aq (Oi ?_)));rw[nm];have J3:=(J2.swap.uQ (o':=seqObj "list" #[v,.int (kf (j+1)) t2] _) (tk:=s2.toks) (m3 _) (fun b x hb e=>(sb.2 b hb).trans e) (Ol g fun _=>#[v,.int (kf (j+1)) t2]) (sW _)).swap;refine aV ⟨Ko Qv _,ih (j+1) (j+1) H2 _ v t2 _ oI' (by omega) hlt J3 Xq ⟨oI',(J3.pin _ (jC _ cH)).1,hoc,hod⟩ hv (bH _) fun j' hj'=> ?_⟩;by_cases e:j'=j+1
    ·subst e;exact⟨JM _,fun z=>absurd z (qK _)⟩
    ·have q:=(hbest j' (by omega)).1;exact⟨by omega,fun _=>by omega⟩
   ·simp only[hb,decide_false,Oo,Eu];refine aq (Oi (?_));rw[nm];refine aV ⟨Ko Qv _,ih (j+1) i H2 _ vb tb c oI' (by omega) hlt J2 Xq hit2 hvb (by omega) fun j' hj'=> ?_⟩;by_cases e:j'=j+1
    ·subst e;exact⟨by omega,fun z=>by omega⟩
    ·exact hbest j' (by omega))
theorem Hw{Q:L4}{E:L4}(kf:Nat->Int)(R:Nat->Hp->Prop)(hA:X.A.handled=none)(hne:0<vs.length)(J:Inv X pins σ H s)(ZS:R 0 H)(hl:∀j H s,Inv X pins σ H s->R j H->s.heap.IsTuple l vs.toArray)(turn:∀j v (ps:L1) H s,vs[j]? =some v->Inv X ps σ H s->R j H->wpAny (model X.prog X.w) X.A.in1 (call (.ref f) [v]) (fun u s'=>∃H' t,u= .int (kf j) t/\Inv X ps σ H' s'/\R (j+1) H') (fun _ _=>False) s)(hQ:∀i v H' s',vs[i]? =some v->(∀j,j<vs.length->kf i<=kf j/\(j<i->kf i<kf j))->Inv X pins σ H' s'->R vs.length H'->Q v s'):
  wpAny (model X.prog X.w) X.A (call (.builtin "min") [.ref l] [(Str.ofString "key",.ref f)]) Q E s:=by
 have nm:(toString "min"++toString ".loop":String)="min.loop":=by decide
 have hls:=hl 0 H s J ZS;obtain⟨ol,hol,_⟩:=id hls;have O9:l≠s.heap.objs.size:=dX (cO hol);refine kmb_tree PySem.F.kind_min PySem.F.plain_min PySem.F.entry_min (kmb_min_key _ _) (by
  show wpAny _ X.A.in1 (Builtin.Builtins.bindParams "min" ["key","default"] 0 ⟨[],[(Str.ofString "key",.ref f)]⟩>>=_) _ _ s;refine aq (wpAny_of_eq (show Builtin.Builtins.bindParams "min" ["key","default"] 0 ⟨[],[(Str.ofString "key",.ref f)]⟩=pure [some (.ref f),none]from rfl) (aq (aV (aq (wpAny_pyIter_tuple hls (aq (TQ ?_ (gG _))))))));rw[nm];have zS:(s.heap.push {cls:= .type "tuple_iterator",data:= .fields #[.ref l,.int 0 0]}).objs.size=s.heap.objs.size+1:=size_push' ..;rw[zS];have k0:∀b o,s.heap.get? b=some o->((s.heap.push {cls:= .type "tuple_iterator",data:= .fields #[.ref l,.int 0 0]}).push (seqObj "list" #[] 0)).get? b=some o:=fun b o e=>fG _ (fG _ e);have gI0:((s.heap.push {cls:= .type "tuple_iterator",data:= .fields #[.ref l,.int 0 0]}).push (seqObj "list" #[] 0)).get? s.heap.objs.size=some {cls:= .type "tuple_iterator",data:= .fields #[.ref l,.int 0 0]}:=fG _ (mW _ rfl);have gS:((s.heap.push {cls:= .type "tuple_iterator",data:= .fields #[.ref l,.int 0 0]}).push (seqObj "list" #[] 0)).get? (s.heap.objs.size+1)=some (seqObj "list" #[] 0):=by rw[<-zS];exact mW _ rfl
  have mI:=m9.new J (bH _);have mS:=m9.new J (TJ s.heap.objs.size);have Pb:s.heap.objs.size+1≠s.heap.objs.size:=Qc (JV _);have Jk:Inv X pins σ H {s with heap:=(s.heap.push {cls:= .type "tuple_iterator",data:= .fields #[.ref l,.int 0 0]}).push (seqObj "list" #[] 0),toks:=s.toks}:=J.kept k0;have JI:Inv X ((s.heap.objs.size,{cls:= .type "tuple_iterator",data:= .fields #[.ref l,.int 0 0]})::(s.heap.objs.size+1,seqObj "list" #[] 0)::pins) σ H {s with heap:=(s.heap.push {cls:= .type "tuple_iterator",data:= .fields #[.ref l,.int 0 0]}).push (seqObj "list" #[] 0),toks:=s.toks}:=Jk.pins_of fun q hq=>by
   rcases cD.mp hq with z|z
   ·subst z;exact⟨gI0,J.hok.fresh (bH _),mI.loc,mI.fs,fun v z=>by have z':Data.fields #[Value.ref l,.int 0 0]=Data.cell v:=z;cases z'⟩
   ·rcases cD.mp z with z|z
    ·subst z;exact⟨gS,J.hok.fresh (TJ _),mS.loc,mS.fs,sW _⟩
    ·exact Jk.pin q (jC _ z)
  have W:=Walks.tuple (prog:=X.prog) (w:=X.w) (A:=X.A.in1) hA s.heap.objs.size l O9 vs.toArray;refine aV ⟨Ko Qv _,Ew YK ?_⟩;rw[Kr Qv _];show wpAny _ X.A.in1 (seqItems? (.ref (s.heap.objs.size+1))>>=_) _ _ _;refine aq (Qs gS rfl (?_));show wpAny _ X.A.in1 (tryCatch (pyNext (.ref s.heap.objs.size)) _>>=_) _ _ _;refine aq (Ei (W.item 0 _ _ _ (by rw[eG];exact hne) ⟨⟨_,gI0,rfl,rfl⟩,hl 0 H _ Jk ZS⟩ fun v h' tk' hP hst' hk'=> ?_));have hv:vs[0]? =some v:=(by simpa using hP);obtain⟨oI',hoI,hoc,hod⟩:=id hst'.1;have J1:=JI.uQ (o':=oI') (tk:=tk') (mI.under (p:=(s.heap.objs.size+1,seqObj "list" #[] 0)) Pb) (fun b x hb e=>hk' b x (fun z=>hb (eN.mp z)) e) hoI (fun v z=>by rw[hod]at z;cases z);show wpAny _ X.A.in1 (tryCatch (holding [v] (call (.ref f) [v])) _>>=_) _ _ _;refine aq (Ei (rZ (uz (turn 0 v _ H _ hv J1 ZS) (fun u s2 z=> ?_) fun _ _ z=>z.elim)));obtain⟨H2,t2,rfl,J2,Xq⟩:=z;have g:=(J2.pin _ (jC _ (cP _ cH))).1;have sb:=Ey s2.heap (s.heap.objs.size+1) (Obj.mapSeq fun _=>#[v,.int (kf 0) t2]);show wpAny _ X.A.in1 (updateSeq (s.heap.objs.size+1) (fun _=>#[v,.int (kf 0) t2])>>=_) _ _ _;refine aq (TV g rfl ?_);rw[nm];have J3:=(J2.swap.uQ (o':=seqObj "list" #[v,.int (kf 0) t2] _) (tk:=s2.toks) (mS.under (p:=(s.heap.objs.size,oI')) Pb.symm) (fun b x hb e=>(sb.2 b hb).trans e) (Ol g fun _=>#[v,.int (kf 0) t2]) (sW _)).swap;exact aV ⟨Ko Qv _,LC kf R hA mI mS Pb O9 hl turn hQ _ 0 0 H2 _ v t2 _ oI' rfl hne J3 Xq ⟨oI',(J3.pin _ (jC _ cH)).1,hoc,hod⟩ hv (bH _) fun j' hj'=>by
   have e:j'=0:=by omega
   subst e;exact⟨JM _,fun z=>absurd z (qK _)⟩⟩)
theorem K3{k:Nat}{fd:ρ}{ps:List Str}{sp:Sp}{Q:VK}{us:List ζ}{zs:List V}(F:FnOk X.prog X.w X.K X.mg X.base CX0 k f fd ps sp)(hr:Room k X.A.in1)(hb:Binds X.K fd ps [])(I:Inv X pins σ H s)(r:Vals zs us)(h:sp zs H Q E0):
  wpAny (model X.prog X.w) X.A.in1 (call (.ref f) us) (EP X pins σ Q) (fun _ _=>False) s:=by
 have hl:us.length=ps.length:=by rw[<-r.length];exact F.len _ _ _ _ h
 have bb:=hb s us I.kIn (by rw[qT];exact hl);rw[qT]at bb;refine Tz (Oj (F.run X.A.in1 X.stack s H ⟨us,[]⟩ us zs Q E0 hr I.env0.in1 bb r h) fun r s' hq=> ?_);cases r with
 |error e=>exact hq
 |ok fl=>
  cases fl with
  |ret u=>exact I.after hq
  |next=>exact False.elim hq
  |brk=>exact False.elim hq
  |cont=>exact False.elim hq
end
noncomputable def Va(K:W.Frag)(sp:Sp)(ta:TA):TE:=fun σ H Q=>ta σ H fun vs H1=>∃(l:Addr) (its:List Addr) (kf:Nat->Int),vs=[.ref l]/\SqT K H1 l (its.map V.ref)/\its≠[]/\
 (∀j p,its[j]? =some p->sp [.ref p] H1 (fun v H'=>v= .int (kf j)/\H'=H1) E0)/\
 ∀i p,its[i]? =some p->(∀j,j<its.length->kf i<=kf j/\(j<i->kf i<kf j))->Q (.ref p) H1
theorem oA:∀{its:List Addr} {us:List ζ},Vals (its.map V.ref) us->us=its.map Value.ref
 |[],_,h=>by cases h;rfl
 |p::its,_,h=>by
  cases h with
  |cons r t=>rw[oA t];cases r;rfl
section
variable{X:Cx}{a:Expr}{ta:TA}{p kp p2 pos:Pos}{k:Nat}{f:Addr}{fd:ρ}{q x:Str}{sp:Sp}
theorem K8(F:FnOk X.prog X.w X.K X.mg X.base CX0 k f fd [q] sp)(hc:X.calm=true)(hr:Room (k+1) X.A)(hg:Gl X "min")(hm:X.mg "min"=none)(Vx:Gl X x)(hmx:X.mg x=some (.ref f))(hk:PySem.W.keepIn X.K (.ref f)=true)(hb:Binds X.K fd [q] [])(ha:PA X [a] ta)(hdb:(x==("__debug__":Str))=false:=by decide)(T9:backTo pos (starEach [a] X.env)=(false,eval a X.env)::backTo pos (starEach [] X.env):=by rfl)(hp:(backTo pos (starEach [a] X.env)).any (·.1)=false:=by rfl):PE X (.Call (.Name "min" p) [a] [⟨some "key",.Name x p2,kp⟩] pos) (Va X.K sp ta):=by
 intro pins s σ H Q I h;refine way (ld_blt I hg hm (show bootBuiltins "min"=some (.builtin "min")from by decide+kernel) ?_ (by decide) (by decide));refine wef (thn (ha pos pins s σ H _ I h) fun us s1 ⟨vs,H1,I1,r1,q1⟩=>kws_cons ?_) T9 hp;obtain⟨l,its,kf,e,hq,hne,ht,q⟩:=q1;subst e;cases r1 with
 |cons r rr=>
  cases rr;cases r;refine ld_glob I1 Vx hmx (kws_nil ?_) hdb;have Vs:(its.map Value.ref).length=its.length:=aM _;show wpAny (model X.prog X.w) X.A (call (.builtin "min") [.ref l] [(Str.ofString "key",.ref f)]) (EP X pins σ Q) X.xe s1;refine Hw (vs:=its.map Value.ref) kf (fun j H=>H=H1) (I.ok.hd hc) (by rw[Vs];exact List.length_pos_iff.mpr hne) I1 rfl (fun j H s J hj=> ?_) (fun j v ps H s hv' J hj=> ?_) fun i v H' s' hv' hb' J hj=> ?_
  ·subst hj;obtain⟨ws,rv,pl,hz⟩:=J.tuple hq;rw[oA rv]at pl;exact pl
  ·subst hj;rw[dD]at hv';cases ej:its[j]? with
   |none=>rw[ej]at hv';cases hv'
   |some p=>
    rw[ej]at hv';cases hv';refine uz (K3 F (hr.in1) hb J (zs:=[.ref p]) (.cons rfl .nil) (ht j p ej)) (fun u s' z=> ?_) fun _ _ z=>z.elim;obtain⟨w,H',J',rw',rfl,rfl⟩:=z;obtain⟨t,rfl⟩:=rw';exact⟨H',t,rfl,J',rfl⟩
  ·subst hj;rw[dD]at hv';cases ei:its[i]? with
   |none=>rw[ei]at hv';cases hv'
   |some p=>
    rw[ei]at hv';cases hv';rw[Vs]at hb';exact⟨.ref p,H',J,rfl,q i p ei hb'⟩
end
end L2
namespace Sw
noncomputable abbrev SK:=List (Int×List Int)
section
variable(T U:Int->Int->Bool)
noncomputable def mF(k:SK)(l img:Int):SK:=k.filterMap fun p=>if T l p.1=true then some (p.1,p.2.filter fun y=>U img y)else if p.1=l then none else some p
structure El(k:SK)(g:Int->Int):Prop where
 im:∀p∈k,g p.1∈p.2
 ti:∀p∈k,∀q∈k,T p.1 q.1=true->U (g p.1) (g q.1)=true
structure Ok:Prop where
 Ka:∀x,T x x=false
 sym:∀x y,T x y=T y x
 usy:∀x y,U x y=U y x
noncomputable def Nd(k:SK):Prop:=(k.map (·.1)).Nodup
end
section
variable{T U:Int->Int->Bool}
theorem dN{k:SK}{l img:Int}{p:Int×List Int}:p∈mF T U k l img↔∃q∈k,q.1=p.1/\((T l q.1=true/\p.2=q.2.filter fun y=>U img y)\/(T l q.1=false/\q.1≠l/\p.2=q.2)):=by
 unfold mF;rw[Wo];refine⟨fun⟨q,hq,e⟩=>⟨q,hq,?_⟩,fun⟨q,hq,e,h⟩=>⟨q,hq,?_⟩⟩
 ·by_cases c:T l q.1=true
  ·rw[aL c]at e;cases e;exact⟨rfl,.inl ⟨c,rfl⟩⟩
  ·rw[aJ c]at e;by_cases c2:q.1=l
   ·rw[aL c2]at e;cases e
   ·rw[aJ c2]at e;cases e;exact⟨rfl,.inr ⟨Bool.eq_false_iff.mpr c,c2,rfl⟩⟩
 ·rcases h with⟨a,b⟩|⟨a,b,c⟩
  ·rw[aL a];exact iy some (Tv e b.symm)
  ·rw[aJ (by rw[a];decide),aJ b];exact iy some (Tv e c.symm)
theorem nd_eq{k:SK}(h:Nd k){p q:Int×List Int}(hp:p∈k)(hq:q∈k)(e:p.1=q.1):p=q:=by
 obtain⟨i,hi,rfl⟩:=Qh hp;obtain⟨j,hj,rfl⟩:=Qh hq;have h':(k.map fun p:Int×List Int=>p.1).Nodup:=h;have:=(List.getElem?_inj (i:=i) (j:=j) (by rw[aM];exact hi) h').mp (by rw[dD,dD,jc hi,jc hj];exact iy some e);subst this;rfl
theorem Gj(o:Ok T U){k:SK}{l:Int}{g:Int->Int}{is:List Int}(hl:(l,is)∈k)(h:El T U k g):El T U (mF T U k l (g l)) g:=by
 refine⟨fun p hp=> ?_,fun p hp q hq t=> ?_⟩
 ·obtain⟨r,hr,e,c⟩:=dN.mp hp;rw[<-e];rcases c with⟨a,b⟩|⟨a,b,c⟩
  ·rw[b];exact dY.mpr ⟨h.im r hr,h.ti _ hl r hr a⟩
  ·rw[c];exact h.im r hr
 ·obtain⟨r,hr,e,_⟩:=dN.mp hp;obtain⟨r',hr',e',_⟩:=dN.mp hq;rw[<-e,<-e']at t⊢;exact h.ti r hr r' hr' t
noncomputable def pt(g:Int->Int)(l img:Int):Int->Int:=fun x=>if x=l then img else g x
theorem Gh(o:Ok T U){k:SK}(nd:Nd k){l img:Int}{g:Int->Int}{is:List Int}(hl:(l,is)∈k)(hi:img∈is)(h:El T U (mF T U k l img) g):El T U k (pt g l img):=by
 have rest:∀p∈k,p.1≠l->g p.1∈p.2/\(T l p.1=true->U img (g p.1)=true)/\∃p'∈mF T U k l img,p'.1=p.1:=fun p hp ne=>by
  by_cases c:T l p.1=true
  ·have m:(p.1,p.2.filter fun y=>U img y)∈mF T U k l img:=dN.mpr ⟨p,hp,rfl,.inl ⟨c,rfl⟩⟩;have:=dY.mp (h.im _ m);exact⟨this.1,fun _=>this.2,_,m,rfl⟩
  ·have m:p∈mF T U k l img:=dN.mpr ⟨p,hp,rfl,.inr ⟨Bool.eq_false_iff.mpr c,ne,rfl⟩⟩;exact⟨h.im _ m,fun z=>absurd z c,_,m,rfl⟩
 refine⟨fun p hp=> ?_,fun p hp q hq t=> ?_⟩
 ·unfold pt;by_cases c:p.1=l
  ·rw[aL c];have:=nd_eq nd hp hl c;rw[this];exact hi
  ·rw[aJ c];exact(rest p hp c).1
 ·unfold pt;by_cases c:p.1=l
  ·by_cases d:q.1=l
   ·rw[c,d,o.Ka]at t;cases t
   ·rw[aL c,aJ d];rw[c]at t;exact(rest q hq d).2.1 t
  ·by_cases d:q.1=l
   ·rw[aJ c,aL d];rw[d,o.sym]at t;rw[o.usy];exact(rest p hp c).2.1 t
   ·rw[aJ c,aJ d];obtain⟨p',hp',e⟩:=(rest p hp c).2.2;obtain⟨q',hq',e'⟩:=(rest q hq d).2.2;have:=h.ti p' hp' q' hq' (by rw[e,e'];exact t);rw[e,e']at this;exact this
theorem jX(o:Ok T U)(l img:Int):∀k:SK,(mF T U k l img).map (·.1)=(k.map (·.1)).filter fun x=>decide (x≠l)
 |[]=>rfl
 |p::k=>by
  have ih:=jX o l img k;unfold mF at ih⊢;rw[Tn,jB,wV];by_cases c:T l p.1=true
  ·have ne:p.1≠l:=fun z=>by rw[z,o.Ka]at c;cases c
   rw[aL c,aL (by simpa using ne)];show p.1::_=_;rw[ih]
  ·rw[aJ c];by_cases d:p.1=l
   ·rw[aL d,aJ (by simpa using d)];exact ih
   ·rw[aJ d,aL (by simpa using d)];show p.1::_=_;rw[ih]
theorem yU(o:Ok T U){k:SK}{l img:Int}(h:Nd k):Nd (mF T U k l img):=by
 unfold Nd;rw[jX o];exact YG _ h
theorem pC{l:Int}:∀{xs:List Int},xs.Nodup->l∈xs->(xs.filter (fun x=>decide (x≠l))++[l]).Perm xs
 |[],_,h=>nomatch h
 |x::xs,nd,h=>by
  obtain⟨nx,nd'⟩:=Ef.mp nd;rw[wV];by_cases c:x=l
  ·subst c;rw[aJ (by simp)];have e:xs.filter (fun y=>decide (y≠x))=xs:=Wq.mpr fun y hy=>dF fun z=>nx (by rw[<-z];exact hy);rw[e];exact List.perm_append_comm
  ·rw[aL (by simpa using c)];have:l∈xs:=(cD.mp h).elim (fun z=>absurd z.symm c) id;exact(pC nd' this).cons x
theorem tV(o:Ok T U){k:SK}{l img:Int}{is:List Int}(h:Nd k)(hl:(l,is)∈k):(mF T U k l img).length+1=k.length:=by
 have p:=(pC h (gH.mpr ⟨_,hl,rfl⟩)).length_eq;rw[<-jX o l img,eO,aM,aM]at p;exact p
noncomputable def Res(T U:Int->Int->Bool)(k:SK)(r:L0):Prop:=(r.map (·.1)).Perm (k.map (·.1))/\∃g,El T U k g/\∀e∈r,g e.1=e.2
theorem Gn(o:Ok T U){k:SK}(nd:Nd k){l img:Int}{is:List Int}{r:L0}(hl:(l,is)∈k)(hi:img∈is)(h:Res T U (mF T U k l img) r):Res T U k (r++[(l,img)]):=by
 obtain⟨hp,g,hg,he⟩:=h;refine⟨?_,pt g l img,Gh o nd hl hi hg,fun e m=> ?_⟩
 ·rw[cg];refine(hp.append_right _).trans ?_;rw[jX o];exact pC nd (gH.mpr ⟨_,hl,rfl⟩)
 ·unfold pt;rcases fH.mp m with z|z
  ·have:e.1∈(mF T U k l img).map (·.1):=hp.mem_iff.mp (gH.mpr ⟨e,z,rfl⟩);rw[jX o,dY]at this;rw[aJ (qX this.2)];exact he e z
  ·rw[eN.mp z,aL rfl]
theorem K5:Res T U [] []:=⟨List.Perm.refl _,fun _=>0,⟨fun p hp=>(nomatch hp),fun p hp=>(nomatch hp)⟩,fun e he=>(nomatch he)⟩
theorem QF(o:Ok T U){k:SK}{l:Int}{is:List Int}(hl:(l,is)∈k)(h:∀y∈is,¬∃g,El T U (mF T U k l y) g):¬∃g,El T U k g:=fun⟨g,hg⟩=>h (g l) (hg.im _ hl) ⟨g,Gj o hl hg⟩
theorem Gi{k:SK}{p:Int×List Int}(hp:p∈k)(h:p.2=[]):¬∃g,El T U k g:=fun⟨g,hg⟩=>by
 have:=hg.im p hp;rw[h]at this;cases this
noncomputable def cst(m:Nat):Nat->Nat
 |0=>0
 |l+1=>1+m*cst m l
structure Nx(U:Int->Int->Bool)(no:Int)(k:SK):Prop where
 all:∀x y,0<=x->x<no->0<=y->y<no->x≠y->U x y=true
 big:∀p∈k,p.2.Nodup/\(∀y∈p.2,0<=y/\y<no)/\k.length<=p.2.length
theorem vo{U:Int->Int->Bool}{img:Int}:∀{ys:List Int},ys.Nodup->(∀y∈ys,y≠img->U img y=true)->ys.length<=(ys.filter fun y=>U img y).length+1
 |[],_,_=>gG _
 |y::ys,nd,h=>by
  obtain⟨ny,nd'⟩:=Ef.mp nd;rw[wV];by_cases c:y=img
  ·subst c;have e:ys.filter (fun z=>U y z)=ys:=Wq.mpr fun z hz=>h z (cP _ hz) fun q=>ny (by rw[<-q];exact hz);split<;>simp only[lO,e]<;>omega
  ·rw[aL (h y cH c)];have:=vo nd' fun z hz=>h z (cP _ hz);simp only[lO];omega
theorem uN(o:Ok T U){no:Int}{k:SK}(nd:Nd k){l img:Int}{is:List Int}(hl:(l,is)∈k)(hi:img∈is)(h:Nx U no k):Nx U no (mF T U k l img):=by
 have hb:=(h.big _ hl).2.1 img hi;have len:=tV (img:=img) o nd hl;refine⟨h.all,fun p hp=> ?_⟩;obtain⟨q,hq,e,c⟩:=dN.mp hp;obtain⟨b1,b2,b3⟩:=h.big q hq;rcases c with⟨a,b⟩|⟨a,b,c⟩
 ·rw[b];refine⟨b1.filter _,fun y hy=>b2 y (dY.mp hy).1,?_⟩;have:=vo (U:=U) (img:=img) b1 fun y hy ne=>h.all img y hb.1 hb.2 (b2 y hy).1 (b2 y hy).2 (uo ne);omega
 ·rw[c];exact⟨b1,b2,by omega⟩
theorem pq(o:Ok T U){no:Int}:∀(m:Nat) {k:SK},k.length=m->Nd k->Nx U no k->∃g,El T U k g
 |0,k,e,_,_=>by
  cases k with
  |nil=>exact⟨fun _=>0,fun p hp=>(nomatch hp),fun p hp=>(nomatch hp)⟩
  |cons p k=>cases e
 |m+1,k,e,nd,h=>by
  cases k with
  |nil=>cases e
  |cons p k=>
   have hp:(p.1,p.2)∈p::k:=cH;have b:=(h.big p cH).2.2;cases ep:p.2 with
   |nil=>rw[ep]at b;simp at b
   |cons y ys=>
    have hy:y∈p.2:=by rw[ep];exact cH
    have len:=tV (img:=y) o nd hp;obtain⟨g,hg⟩:=pq o m (k:=mF T U (p::k) p.1 y) (by omega) (yU o nd) (uN o nd hp hy h);exact⟨_,Gh o nd hp hy hg⟩
structure Ug(n no:Int)(k:SK):Prop where
 nd:Nd k
 pl:∀p∈k,0<=p.1/\p.1<n
 im:∀p∈k,(∀y∈p.2,0<=y/\y<no)/\(p.2.length:Int)<=no
theorem Ug.mF(o:Ok T U){n no:Int}{k:SK}{l img:Int}(h:Ug n no k):Ug n no (mF T U k l img):=by
 refine⟨yU o h.nd,fun p hp=> ?_,fun p hp=> ?_⟩
 ·obtain⟨q,hq,e,_⟩:=dN.mp hp;rw[<-e];exact h.pl q hq
 ·obtain⟨q,hq,e,c⟩:=dN.mp hp;obtain⟨i1,i2⟩:=h.im q hq;rcases c with⟨_,b⟩|⟨_,_,b⟩
  ·rw[b];have:=wW (fun y=>U img y) q.2;exact⟨fun y hy=>i1 y (dY.mp hy).1,by omega⟩
  ·rw[b];exact⟨i1,i2⟩
theorem kJ{xs ys:List Int}(h:xs.Perm ys)(hx:xs.Pairwise (· < ·))(hy:ys.Pairwise (· < ·)):xs=ys:=
 List.Perm.eq_of_pairwise (le:=fun a b=>a<b) (fun a b _ _ h1 h2=>absurd h1 (by omega)) hx hy h
end
end Sw
namespace Hs
open PySem L2 kj
noncomputable def top(i:Nat):Stmt:=PySem.Challenge.pw_hueshare_k42_ways_and_greedy_refused.main.body.getD i (.Pass ⟨0,0,0,0⟩)
noncomputable abbrev fX:Stmt:=top 13
noncomputable abbrev fY:Stmt:=top 14
noncomputable abbrev Wg:Stmt:=top 15
noncomputable abbrev dI:Stmt:=top 16
noncomputable abbrev jJ:Stmt:=top 17
noncomputable abbrev jk:Stmt:=top 18
noncomputable abbrev jH:Stmt:=top 19
noncomputable abbrev wL:Stmt:=top 20
noncomputable abbrev fO:Stmt:=top 21
noncomputable abbrev ji:Stmt:=top 22
noncomputable abbrev sH:Stmt:=top 23
noncomputable abbrev kW:Stmt:=top 24
noncomputable abbrev P0:Stmt:=top 25
noncomputable abbrev fM:Stmt:=top 26
noncomputable abbrev Wn:Stmt:=top 28
noncomputable abbrev jG:Stmt:=top 29
noncomputable abbrev oY:Stmt:=top 30
noncomputable abbrev Uq:Stmt:=top 32
noncomputable abbrev Uo:Stmt:=top 33
noncomputable abbrev dZ:Stmt:=inClass (top 34) 0
noncomputable abbrev X4:Stmt:=inClass (top 34) 1
noncomputable abbrev Ur:Stmt:=inClass (top 34) 2
noncomputable abbrev Qa:Stmt:=inClass (top 34) 3
noncomputable abbrev N6:Stmt:=inClass (top 34) 4
noncomputable abbrev fK:Stmt:=top 35
noncomputable abbrev eV:Stmt:=top 36
noncomputable abbrev jF:Stmt:=top 37
noncomputable abbrev XJ:Stmt:=top 39
noncomputable abbrev kY:Stmt:=top 40
noncomputable abbrev gY:Stmt:=top 41
noncomputable abbrev fZ:Stmt:=top 42
noncomputable abbrev XM:Stmt:=top 43
noncomputable abbrev Wk:Stmt:=top 44
noncomputable abbrev jj:Stmt:=top 46
noncomputable abbrev X3:Stmt:=top 48
noncomputable abbrev XS:Stmt:=top 49
noncomputable abbrev XR:Stmt:=top 50
noncomputable abbrev jK:Stmt:=top 51
noncomputable abbrev XD:Stmt:=top 54
noncomputable abbrev Ul:Stmt:=top 55
noncomputable abbrev N7:Stmt:=top 56
noncomputable abbrev fL:Stmt:=top 57
noncomputable abbrev XQ:Stmt:=top 58
noncomputable abbrev S9:Stmt:=top 59
noncomputable abbrev Wi:Stmt:=top 60
noncomputable abbrev fU:Stmt:=top 62
noncomputable abbrev Td:Stmt:=top 63
noncomputable abbrev XC:Stmt:=top 64
noncomputable abbrev fQ:Stmt:=top 65
noncomputable abbrev fV:Stmt:=top 66
noncomputable abbrev XH:Stmt:=top 67
noncomputable abbrev fW:Stmt:=top 68
noncomputable abbrev Wh:Stmt:=top 69
noncomputable abbrev XF:Stmt:=top 70
noncomputable abbrev X5:Stmt:=top 71
noncomputable abbrev lW:Stmt:=top 72
section
variable{P:ξ}{w:τ}{K:W.Frag}{mg:L5}{base:Heap}
noncomputable def sE(K:W.Frag):Sp:=fun vs H Q _=>∃x d,vs=[x]/\DX K H x d/\Q (.bl (jd d)) H
theorem GJ{f:Addr}{fd:ρ}(F:Fun K "is_whole" "is_whole" fX f fd)(mi:mg "isinstance"=none)(mI:mg "int"=none)(mB:mg "bool"=none):FnOk P w K mg base CX0 1 f fd ["thing"] (sE K):=by
 refine F.cM ["thing"] fun cdv A outer s H vs Q E hr h=> ?_;obtain⟨x,d,rfl,hx,q⟩:=h;refine⟨_,aQ (bW (pe_and (pB fu mi (aj (pv 0) (aj (pN "int" mI) ak)))
  (pe_one (pe_not (pB fu mi (aj (pv 0) (aj (pN "bool" mB) ak))))))),?_⟩
 refine⟨_,rfl,x,_,_,rfl,hx.kind,.inl rfl,_,rfl,?_⟩;refine ite2 (fun c=> ?_) (fun c=> ?_)
 ·refine⟨_,rfl,x,_,_,rfl,hx.kind,.inr (.inl rfl),_,rfl,?_⟩;cases d<;>first |exact q|(simp[yG,vC]at c;done)
 ·cases d<;>first |exact q|(exfalso;exact c rfl)
noncomputable def sG(K:W.Frag):Sp:=fun vs H Q _=>∃(n:Int) (x:V) (d:θ),vs=[.int n,x]/\DX K H x d/\Q (.bl (bh n d)) H
theorem GX{f g:Addr}{fd gd:ρ}(F:Fun K "is_place" "is_place" fY f fd)(D:bF K mg "is_whole" fX ["thing"] g gd)(G:FnOk P w K mg base CX0 1 g gd ["thing"] (sE K)):FnOk P w K mg base CX0 2 f fd ["n","thing"] (sG K):=by
 refine F.cM ["n","thing"] fun cdv A outer s H vs Q E hr h=> ?_;obtain⟨n,x,d,rfl,hx,q⟩:=h;refine⟨_,aQ (bW (pe_and (rW G hr rfl D.m D.F.kp D.b .nil pass0 (aj (pv 1) ak)) (pe_one (pe_chain op_le op_lt aK (pv 1) (pv 0))))),?_⟩;refine⟨_,rfl,x,d,rfl,hx,_,rfl,?_⟩;refine ite2 (fun c=> ?_) (fun c=> ?_)
 ·cases hx with
  |int i=>
   refine⟨_,rfl,_,_,rfl,rfl,_,rfl,?_⟩;refine ite2 (fun c2=> ?_) (fun c2=> ?_)
   ·refine⟨_,rfl,_,_,rfl,rfl,?_⟩;have e:bh n (.int i)=decide (i<n):=by show(decide (0<=i)&&decide (i<n))=_;rw[c2];rfl
    rw[e]at q;exact q
   ·have e:bh n (.int i)=false:=by show(decide (0<=i)&&decide (i<n))=_;rw[Bool.eq_false_iff.mpr c2];rfl
    rw[e]at q;exact q
  |_=>simp[jd]at c
 ·have e:bh n d=false:=by
   cases d<;>first |rfl|(exfalso;exact c rfl)
  rw[e]at q;exact q
noncomputable def oO(K:W.Frag):Sp:=fun vs H Q _=>∃(n:Int) (a:Addr) (xs:List V) (ds:List θ),vs=[.int n,.ref a]/\SqT K H a xs/\oh K H xs ds/\∀H',Same H H'->Q (.bl (ds.all (bh n))) H'
theorem jY{α:Type}(ds:List α)(p:α->Bool):(ds.map p).all id=ds.all p:=by rw[JQ];rfl
theorem Cj{f g:Addr}{fd gd:ρ}(F:Fun K "are_places" "are_places" Wg f fd)(D:bF K mg "is_place" fY ["n","thing"] g gd)(G:FnOk P w K mg base CX0 2 g gd ["n","thing"] (sG K))(mA:mg "all"=none):FnOk P w K mg base CX0 3 f fd ["n","things"] (oO K):=by
 refine F.cM ["n","things"] fun cdv A outer s H vs Q E hr h=> ?_;obtain⟨n,a,xs,ds,rfl,hS,hd,q⟩:=h;refine⟨_,aQ (bW (pB (NQ rfl) mA (aj (pK ["thing"] ["n"] [0] (Eb (pv 1)) (pG 0) qJ (rW G hr rfl D.m D.F.kp D.b .nil pass0 (aj (pv 1) (aj (pv 0) ak)))) ak))),?_⟩;refine⟨_,rfl,a,xs,rfl,hS,fun hz=> ?_⟩;have hl:=hd.len;refine NT (xs:=xs) (fun i acc σ H'=>acc=((ds.take i).map (bh n)).map V.bl/\Same H H'/\∃o,σ=[o,some (.int n)]) ⟨rfl,Same.refl _,_,rfl⟩ (fun i acc σ H' _ p=>p.2.1.tup hS) (fun i acc σ H' hi p=> ?_) hz (fun i x acc σ H' hx p=> ?_) (fun acc σ H' p=> ?_)
 ·rw[p.1];simp;omega
 ·obtain⟨rfl,sm,o,rfl⟩:=p;obtain⟨d,e1,e2⟩:=hd.get hx;refine⟨_,rfl,_,rfl,n,x,d,rfl,DX.same sm e2,?_,sm,_,rfl⟩;rw[zF,e1];simp
 ·intro p1 hp1;obtain⟨rfl,sm,_⟩:=p;refine⟨p1,(ds.map (bh n)),rfl,SqL.of (by rw[aG,hl,uy]),?_⟩;rw[jY];exact q _ (sm.trans (aZ hp1 _))
noncomputable def SX(K:W.Frag)(H:Hp)(x y:V)(b:Bool):Prop:=(∃i j,x= .int i/\y= .int j/\b=decide (i<j))\/(∃p q ns ms,x= .ref p/\y= .ref q/\SqT K H p (ns.map V.int)/\SqT K H q (ms.map V.int)/\b=HT.lexLt ns ms)
noncomputable def oN(K:W.Frag):Sp:=fun vs H Q _=>∃(a:Addr) (xs:List V) (bs:Nat->Bool),vs=[.ref a]/\SqT K H a xs/\(∀k,k+1<xs.length->∃x y,xs[k]? =some x/\xs[k+1]? =some y/\SX K H x y (bs k))/\
 ∀H',Same H H'->Q (.bl ((List.range (xs.length-1)).all bs)) H'
theorem Cg{f:Addr}{fd:ρ}(F:Fun K "is_rising" "is_rising" dI f fd)(mA:mg "all"=none)(mR:mg "range"=none)(mL:mg "len"=none):FnOk P w K mg base CX0 1 f fd ["things"] (oN K):=by
 refine F.cM ["things"] fun cdv A outer s H vs Q E hr h=> ?_;obtain⟨a,xs,bs,rfl,hS,hb,q⟩:=h;refine⟨_,aQ (bW (pB (NQ rfl) mA (aj (pK ["k"] ["things"] [0] (pi_range2 rfl mR (aj aK (aj (pB nO mL (aj (pv 0) ak)) ak))) (pG 0) qJ (pe_cmpR (op_lt.or (La K hr.units0)) (bY (DW K) (pv 1) (bM op_sub (pv 0) aK)) (bY (DW K) (pv 1) (pv 0)))) ak))),?_⟩;refine⟨_,rfl,a,xs,rfl,.inr hS,fun hz=>⟨1,_,rfl,⟨by omega,by omega,by omega,by omega⟩,?_⟩⟩;have en:((xs.length:Int)-1).toNat=xs.length-1:=by omega
 rw[en];refine wO (fun i acc σ H'=>acc=((List.range i).map bs).map V.bl/\Same H H'/\∃o,σ=[o,some (.ref a)]) ⟨rfl,Same.refl _,_,rfl⟩ (fun i acc σ H' hi p=>by rw[p.1];simp) (by rw[cY];omega) (fun i acc σ H' hi p=> ?_) (fun acc σ H' p=> ?_)
 ·obtain⟨rfl,sm,o,rfl⟩:=p;obtain⟨x,y,hx,hy,hxy⟩:=hb i (by omega);have e1:(1+(i:Int))-1=((i:Nat):Int):=by omega
  have e2:(1+(i:Int))=((i+1:Nat):Int):=by omega
  have a1:atI xs (1+(i:Int)-1)=some x:=by rw[e1];exact atI_nat hx
  have a2:atI xs (1+(i:Int))=some y:=by rw[e2];exact atI_nat hy
  refine⟨_,rfl,_,rfl,_,_,rfl,rfl,a,xs,_,x,rfl,rfl,sm.tup hS,a1,_,rfl,_,rfl,a,xs,_,y,rfl,rfl,sm.tup hS,a2,?_⟩;have ea:((List.range i).map bs).map V.bl++[V.bl (bs i)]=((List.range (i+1)).map bs).map V.bl:=by rw[Qd];simp
  rcases hxy with⟨u,v,rfl,rfl,e⟩|⟨p,p',ns,ms,rfl,rfl,h1,h2,e⟩
  ·refine .inl ⟨u,v,rfl,rfl,?_,sm,_,rfl⟩;show _++[V.bl (decide (u<v))]=_;rw[<-e];exact ea
  ·refine .inr ⟨p,p',ns,ms,rfl,rfl,sm.tup h1,sm.tup h2,?_,sm,_,rfl⟩;show _++[V.bl (HT.lexLt ns ms)]=_;rw[<-e];exact ea
 ·intro p1 hp1;obtain⟨rfl,sm,_⟩:=p;refine⟨p1,(List.range (xs.length-1)).map bs,rfl,SqL.of aG,?_⟩;rw[jY];exact q _ (sm.trans (aZ hp1 _))
theorem ints_of{H:Hp}{n:Int}{xs:List V}{ds:List θ}(h:oh K H xs ds)(hp:ds.all (bh n)=true):xs=(ds.map intD).map V.int:=by
 induction ds generalizing xs with
 |nil=>cases h;rfl
 |cons d ds ih=>
  rw[List.all_cons,gU]at hp;cases h with
  |cons h t=>
   obtain⟨i,rfl,_⟩:=xJ hp.1;cases h;rw[jB,jB,<-ih t hp.2];rfl
theorem Bx{H:Hp}(ns:List Int):∀k,k+1<(ns.map V.int).length->∃x y,(ns.map V.int)[k]? =some x/\(ns.map V.int)[k+1]? =some y/\SX K H x y (decide (ns.getD k 0<ns.getD (k+1) 0)):=fun k hk=>by
 rw[aM]at hk;have h1:k<ns.length:=by omega
 refine⟨.int (ns.getD k 0),.int (ns.getD (k+1) 0),by simp[h1],by simp[hk],.inl ⟨_,_,rfl,rfl,rfl⟩⟩
noncomputable def Fw(K:W.Frag):Sp:=fun vs H Q _=>∃(n:Int) (x:V) (d:θ),vs=[.int n,x]/\DX K H x d/\∀H',Same H H'->Q (.bl (jE n d)) H'
theorem Rf{f f1 f2:Addr}{fd d1 d2:ρ}(F:Fun K "is_set" "is_set" jJ f fd)(D1:bF K mg "are_places" Wg ["n","things"] f1 d1)(G1:FnOk P w K mg base CX0 3 f1 d1 ["n","things"] (oO K))(D2:bF K mg "is_rising" dI ["things"] f2 d2)(G2:FnOk P w K mg base CX0 1 f2 d2 ["things"] (oN K))(mi:mg "isinstance"=none)(mT:mg "tuple"=none):FnOk P w K mg base CX0 4 f fd ["n","thing"] (Fw K):=by
 refine F.cM ["n","thing"] fun cdv A outer s H vs Q E hr h=> ?_;obtain⟨n,x,d,rfl,hx,q⟩:=h;refine⟨_,aQ (bW (pe_and (pB fu mi (aj (pv 1) (aj (pN "tuple" mT) ak)))
  (pe_and (pc G1 hr D1 (aj (pv 0) (aj (pv 1) ak))) (pe_one (pc G2 hr D2 (aj (pv 1) ak)))))),?_⟩
 refine⟨_,rfl,x,_,_,rfl,hx.kind,.inr (.inr (.inl rfl)),_,rfl,?_⟩;refine ite2 (fun c=> ?_) (fun c=> ?_)
 ·cases hx with
  | @tup a xs ds h t=>
   refine⟨_,rfl,_,rfl,n,a,xs,ds,rfl,h,t,fun H1 sm=>⟨_,rfl,?_⟩⟩;refine ite2 (fun c2=> ?_) (fun c2=> ?_)
   ·have ex:=ints_of t c2;refine⟨_,rfl,a,xs,fun k=>decide ((ds.map intD).getD k 0<(ds.map intD).getD (k+1) 0),rfl,sm.tup h,?_,fun H2 Ve=> ?_⟩
    ·rw[ex];exact Bx _
    ·have e:jE n (.tuple ds)=(List.range (xs.length-1)).all fun k=>decide ((ds.map intD).getD k 0<(ds.map intD).getD (k+1) 0):=by
      show(ds.all (bh n)&&cL (ds.map intD))=_;rw[c2,t.len];show cL (ds.map intD)=_;unfold cL;rw[aM]
     have:=q H2 (sm.trans Ve);rw[e]at this;exact this
   ·have e:jE n (.tuple ds)=false:=by
     show(ds.all (bh n)&&cL (ds.map intD))=_;rw[Bool.eq_false_iff.mpr c2];rfl
    have:=q H1 sm;rw[e]at this;exact this
  |_=>simp[yG,vC]at c
 ·have e:jE n d=false:=by
   cases d<;>first |rfl|(exfalso;exact c rfl)
  have:=q H (Same.refl _);rw[e]at this;exact this
noncomputable def Fv(K:W.Frag):Sp:=fun vs H Q _=>∃(n:Int) (x:V) (d:θ),vs=[.int n,x]/\DX K H x d/\∀H',Same H H'->Q (.bl (gW n d)) H'
theorem zO{H:Hp}{n:Int}{x:V}{d:θ}(h:DX K H x d)(ht:eU n d=true):∃p,x= .ref p/\SqT K H p (((kids d).map intD).map V.int):=by
 cases h with
 | @tup a xs ds h t=>
  have q:(ds.all (bh n)&&cL (ds.map intD)&&decide (ds.length=2))=true:=ht;rw[gU,gU]at q;exact⟨a,rfl,by rw[ints_of t q.1.1]at h;exact h⟩
 |_=>simp[eU,jE]at ht
theorem Bw{H:Hp}{n:Int}{xs:List V}{ds:List θ}(t:oh K H xs ds)(ha:ds.all (eU n)=true):∀k,k+1<xs.length->∃x y,xs[k]? =some x/\xs[k+1]? =some y/\
  SX K H x y (HT.lexLt ((ds.map fun t=>(kids t).map intD).getD k []) ((ds.map fun t=>(kids t).map intD).getD (k+1) [])):=fun k hk=>by
 have hl:=t.len;have h1:k<xs.length:=by omega
 obtain⟨d1,e1,x1⟩:=t.get (i:=k) (x:=xs[k]) (by simp[h1]);obtain⟨d2,e2,x2⟩:=t.get (i:=k+1) (x:=xs[k+1]) (by simp[hk]);have m1:=iR.mp ha d1 (nP e1);have m2:=iR.mp ha d2 (nP e2);obtain⟨p1,q1,s1⟩:=zO x1 m1;obtain⟨p2,q2,s2⟩:=zO x2 m2;refine⟨xs[k],xs[k+1],by simp[h1],by simp[hk],.inr ⟨p1,p2,_,_,q1,q2,s1,s2,?_⟩⟩;have g1:(ds.map fun t=>(kids t).map intD).getD k []=(kids d1).map intD:=by rw[qG,dD,e1];rfl
 have g2:(ds.map fun t=>(kids t).map intD).getD (k+1) []=(kids d2).map intD:=by rw[qG,dD,e2];rfl
 rw[g1,g2]
theorem Le{f f1 f2:Addr}{fd d1 d2:ρ}(F:Fun K "are_ties" "are_ties" jk f fd)(D1:bF K mg "is_set" jJ ["n","thing"] f1 d1)(G1:FnOk P w K mg base CX0 4 f1 d1 ["n","thing"] (Fw K))(D2:bF K mg "is_rising" dI ["things"] f2 d2)(G2:FnOk P w K mg base CX0 1 f2 d2 ["things"] (oN K))(mi:mg "isinstance"=none)(mT:mg "tuple"=none)(mA:mg "all"=none)(mL:mg "len"=none):FnOk P w K mg base CX0 5 f fd ["n","thing"] (Fv K):=by
 refine F.cM ["n","thing"] fun cdv A outer s H vs Q E hr h=> ?_;obtain⟨n,x,d,rfl,hx,q⟩:=h;refine⟨_,aR (eF (ur (rT (pB fu mi (aj (pv 1) (aj (pN "tuple" mT) ak))))) (aQ (bW pe_bl)) iG) (aQ (bW (pe_and (pB (NQ rfl) mA (aj (pK ["tie"] ["n"] [0] (Eb (pv 1)) (pG 0) qJ (pe_and (pc G1 hr D1 (aj (pv 1) (aj (pv 0) ak))) (pe_one (pe_cmpR op_eq (pB (rQ K) mL (aj (pv 0) ak)) aK)))) ak))
  (pe_one (pc G2 hr D2 (aj (pv 1) ak)))))),?_⟩
 refine⟨_,rfl,x,_,_,rfl,hx.kind,.inr (.inr (.inl rfl)),_,rfl,?_⟩;refine ite2 (fun c=> ?_) (fun c=> ?_)
 ·have e:gW n d=false:=by
   cases d<;>first |rfl|(exfalso;simp[yG,vC]at c;done)
  have:=q H (Same.refl _);rw[e]at this;exact this
 ·cases hx with
  | @tup a xs ds h t=>
   refine⟨_,rfl,a,xs,rfl,h,fun hz=> ?_⟩;have hl:=t.len;refine NT (xs:=xs) (fun i acc σ H'=>acc=((ds.take i).map (eU n)).map V.bl/\Same H H'/\∃o,σ=[o,some (.int n)]) ⟨rfl,Same.refl _,_,rfl⟩ (fun i acc σ H' _ p=>p.2.1.tup h) (fun i acc σ H' hi p=> ?_) hz (fun i x acc σ H' hx p=> ?_) (fun acc σ H' p=> ?_)
   ·rw[p.1];simp;omega
   ·obtain⟨rfl,sm,o,rfl⟩:=p;obtain⟨d,e1,e2⟩:=t.get hx;refine⟨_,rfl,_,rfl,n,x,d,rfl,DX.same sm e2,fun H1 Vf=>⟨_,rfl,?_⟩⟩;have ea:∀b,b=eU n d->((ds.take i).map (eU n)).map V.bl++[V.bl b]=((ds.take (i+1)).map (eU n)).map V.bl:=fun b hb=>by
     rw[zF,e1,hb];simp
    refine ite2 (fun c2=> ?_) (fun c2=> ?_)
    ·cases e2 with
     | @tup a2 xs2 Sg h2 t2=>
      refine⟨_,rfl,a2,xs2,rfl,.inr (Vf.tup (sm.tup h2)),fun hz2=>⟨rfl,ea _ ?_,sm.trans Vf,_,rfl⟩⟩;show decide (V.int (xs2.length:Int)=V.int 2)=(jE n (.tuple Sg)&&decide (Sg.length=2));rw[c2,t2.len];by_cases e3:Sg.length=2
      ·rw[e3];rfl
      ·rw[cI e3,cI (by intro z;injection z with z;exact e3 (by omega))];rfl
     |_=>simp[jE]at c2
    ·refine⟨ea _ ?_,sm.trans Vf,_,rfl⟩;show false=(jE n d&&decide ((kids d).length=2));rw[Bool.eq_false_iff.mpr c2];rfl
   ·intro p1 hp1;obtain⟨rfl,sm,_⟩:=p;have sm':Same H (upd H' p1 (.lst (((ds.take xs.length).map (eU n)).map V.bl))):=sm.trans (aZ hp1 _);refine⟨p1,(ds.map (eU n)),rfl,SqL.of (by rw[aG,hl,uy]),_,rfl,?_⟩;rw[jY];refine ite2 (fun c2=> ?_) (fun c2=> ?_)
    ·refine⟨_,rfl,a,xs,fun k=>HT.lexLt ((ds.map fun t=>(kids t).map intD).getD k []) ((ds.map fun t=>(kids t).map intD).getD (k+1) []),rfl,sm'.tup h,?_,fun H2 Ve=> ?_⟩
     ·exact Bw (oh.same sm' t) c2
     ·have e:gW n (.tuple ds)=(List.range (xs.length-1)).all fun k=>HT.lexLt ((ds.map fun t=>(kids t).map intD).getD k []) ((ds.map fun t=>(kids t).map intD).getD (k+1) []):=by
       show(ds.all (eU n)&&dg (ds.map fun t=>(kids t).map intD))=_;rw[c2,hl];show dg (ds.map fun t=>(kids t).map intD)=_;unfold dg;rw[aM]
      have:=q H2 (sm'.trans Ve);rw[e]at this;exact this
    ·have e:gW n (.tuple ds)=false:=by
      show(ds.all (eU n)&&dg (ds.map fun t=>(kids t).map intD))=_;rw[Bool.eq_false_iff.mpr c2];rfl
     have:=q _ sm';rw[e]at this;exact this
  |_=>exfalso;exact c rfl
end
end Hs
namespace kj
open PySem L2
noncomputable def pairD(p:Int×Int):θ:= .tuple [.int p.1,.int p.2]
noncomputable def wX(n:Int)(ts:L0):θ:= .tuple [.int n,.tuple (ts.map pairD)]
noncomputable def jy(K:W.Frag)(H:Hp)(a:Addr)(n:Int)(ts:L0):Prop:=∃t rs,SqT K H a [.int n,.ref t]/\SqT K H t rs/\bB K H rs (ts.map pairD)
theorem jy.dv{K:W.Frag}{H:Hp}{a:Addr}{n:Int}{ts:L0}(h:jy K H a n ts):DV K H (.ref a) (wX n ts):=by
 obtain⟨t,rs,h1,h2,h3⟩:=h;exact .tup h1 (.cons (.int n) (.cons (.tup h2 h3) .nil))
theorem jy.same{K:W.Frag}{H H':Hp}{a:Addr}{n:Int}{ts:L0}(h:jy K H a n ts)(e:Same H H'):jy K H' a n ts:=by
 obtain⟨t,rs,h1,h2,h3⟩:=h;exact⟨t,rs,e.tup h1,e.tup h2,bB.same e h3⟩
noncomputable def ao(ts:L0)(i j:Int):Bool:=decide ((if j<i then j else i,if j>i then j else i)∈ts)
theorem vY(p q:Int×Int):PyData.eqv (pairD p) (pairD q)=decide (p=q):=by
 obtain⟨a,b⟩:=p;obtain⟨c,d⟩:=q;show((a==c)&&((b==d)&&true))=_;rw[qM];simp
theorem lA:∀ts:L0,PyData.canLayAll0 (ts.map pairD)=true
 |[]=>rfl
 |p::ts=>by
  show(PyData.canLay0 (pairD p)&&PyData.canLayAll0 (ts.map pairD))=true;rw[lA ts];rfl
theorem wD(ts:L0)(q:Int×Int):((ts.map pairD).any fun d=>PyData.eqv d (pairD q))=decide (q∈ts):=by
 rw[List.any_map,qM,List.any_eq_true];constructor
 ·rintro⟨p,hp,h⟩;have h':PyData.eqv (pairD p) (pairD q)=true:=h;rw[vY]at h';have e:p=q:=qX h';subst e;exact dF hp
 ·intro h;refine⟨q,qX h,?_⟩;show PyData.eqv (pairD q) (pairD q)=true;rw[vY];exact dF rfl
end kj
namespace Hs
open PySem L2 kj
section
variable{P:ξ}{w:τ}{K:W.Frag}{mg:L5}{base:Heap}
noncomputable def Fp(K:W.Frag):Sp:=fun vs H Q _=>∃(x:V) (d:θ),vs=[x]/\DX K H x d/\∀H',Same H H'->Q (.bl (gJ d)) H'
theorem Ra{f f1 f2:Addr}{fd d1 d2:ρ}{tk:Tok}(F:Fun K "is_web" "is_web" jH f fd)(D1:bF K mg "is_whole" fX ["thing"] f1 d1)(G1:FnOk P w K mg base CX0 1 f1 d1 ["thing"] (sE K))(D2:bF K mg "are_ties" jk ["n","thing"] f2 d2)(G2:FnOk P w K mg base CX0 5 f2 d2 ["n","thing"] (Fv K))(mi:mg "isinstance"=none)(mT:mg "tuple"=none)(mL:mg "len"=none)(mM:mg "MOST_PLACES"=some (.int 10 tk)):FnOk P w K mg base CX0 6 f fd ["thing"] (Fp K):=by
 refine F.cM ["thing","n"] fun cdv A outer s H vs Q E hr h=> ?_;obtain⟨x,d,rfl,hx,q⟩:=h;refine⟨_,aR (eF (PW.pt (pw_or (ur (rT (pB fu mi (aj (pv 0) (aj (pN "tuple" mT) ak)))))
   (pw_or1 (dW op_ne (pB nO mL (aj (pv 0) ak)) aK)))) (aQ (bW pe_bl)) iG) (aR (pS 1 (bY gF (pv 0) aK)) (aQ (bW (pe_and (pc G1 hr D1 (aj (pv 1) ak)) (pe_and (pe_chain op_le op_le aK (pv 1) (DY rfl mM (v:= .int 10) ⟨_,rfl⟩))
   (pe_one (pc G2 hr D2 (aj (pv 1) (aj (bY gF (pv 0) aK) ak))))))))),?_⟩
 refine⟨_,rfl,x,_,_,rfl,hx.kind,.inr (.inr (.inl rfl)),_,rfl,?_⟩;refine ite2 (fun c=> ?_) (fun c=> ?_)
 ·have e:gJ d=false:=by
   cases d<;>first |rfl|(exfalso;simp[yG,vC]at c;done)
  have:=q H (Same.refl _);rw[e]at this;exact this
 ·cases hx with
  | @tup a xs ds h t=>
   have hl:=t.len;refine⟨_,rfl,a,xs,rfl,.inr h,fun hz=>⟨rfl,_,rfl,?_⟩⟩;refine ite2 (fun c2=> ?_) (fun c2=> ?_)
   ·have e:gJ (.tuple ds)=false:=by
     match ds,hl with
     |[],_=>rfl
     |[_],_=>rfl
     |[_,_],hl=>
      exfalso;have e2:(!decide (V.int (xs.length:Int)=V.int 2))=true:=c2;rw[hl]at e2;simp at e2
     |_::_::_::_,_=>rfl
    have:=q H (Same.refl _);rw[e]at this;exact this
   ·have e2:xs.length=2:=by
     have e2:¬(!decide (V.int (xs.length:Int)=V.int 2))=true:=c2;simp at e2;omega
    cases t with
    |nil=>simp at e2
    |cons h0 t0=>
     cases t0 with
     |nil=>simp at e2
     | @cons x1 Uc xs1 ds1 h1 t1=>
      cases t1 with
      |cons _ _=>simp at e2
      |nil=>
       rename_i x0 Ud;refine⟨_,rfl,a,_,_,x0,rfl,rfl,h,by rfl,?_⟩;refine⟨_,rfl,x0,Ud,rfl,h0,_,rfl,?_⟩;refine ite2 (fun c3=> ?_) (fun c3=> ?_)
       ·cases h0 with
        |int n=>
         refine⟨_,rfl,_,_,rfl,rfl,_,rfl,?_⟩;have fin:∀b,b=gJ (.tuple [.int n,Uc])->∀H',Same H H'->Q (.bl b) H':=fun b hb H' sm=>by rw[hb];exact q H' sm
         have wd:gJ (.tuple [.int n,Uc])=((decide (0<=n)&&decide (n<=10))&&gW n Uc):=rfl;refine ite2 (fun c4=> ?_) (fun c4=> ?_)
         ·refine⟨_,_,rfl,rfl,_,rfl,?_⟩;refine ite2 (fun c5=> ?_) (fun c5=> ?_)
          ·refine⟨_,rfl,_,rfl,a,_,_,x1,rfl,rfl,h,by rfl,n,x1,Uc,rfl,h1,fun H' sm=>fin _ ?_ H' sm⟩;rw[wd,c4,c5];rfl
          ·refine fin _ ?_ H (Same.refl _);rw[wd,Bool.eq_false_iff.mpr c5,wY];rfl
         ·refine⟨_,rfl,?_⟩;refine iteF (fin _ ?_ H (Same.refl _));rw[wd,Bool.eq_false_iff.mpr c4];rfl
        |_=>simp[jd]at c3
       ·have e:gJ (.tuple [Ud,Uc])=false:=by
         show(jd Ud&&(decide (0<=intD Ud)&&decide (intD Ud<=10))&&gW (intD Ud) Uc)=false;rw[Bool.eq_false_iff.mpr c3];rfl
        have:=q H (Same.refl _);rw[e]at this;exact this
  |_=>exfalso;exact c rfl
noncomputable def bN(K:W.Frag):Sp:=fun vs H Q _=>∃(x:V) (d:θ),vs=[x]/\DX K H x d/\gJ d=true/\∀H',Same H H'->Q .non H'
theorem xT{f f1:Addr}{fd d1:ρ}(F:Fun K "need_web" "need_web" wL f fd)(D1:bF K mg "is_web" jH ["thing"] f1 d1)(G1:FnOk P w K mg base CX0 6 f1 d1 ["thing"] (Fp K)):FnOk P w K mg base CX0 7 f fd ["thing"] (bN K):=by
 refine F.cM ["thing"] fun cdv A outer s H vs Q E hr h=> ?_;obtain⟨x,d,rfl,hx,hw,q⟩:=h;refine⟨_,aQ (eF (ur (rT (pc G1 hr D1 (aj (pv 0) ak)))) wN iG),?_⟩;refine⟨_,rfl,x,d,rfl,hx,fun H' sm=>⟨_,rfl,?_⟩⟩;rw[hw];exact iteF (q H' sm)
noncomputable def rC(K:W.Frag):Sp:=fun vs H Q _=>∃(a:Addr) (n:Int) (t x:V) (d:θ),vs=[.ref a,x]/\SqT K H a [.int n,t]/\DX K H x d/\jE n d=true/\∀H',Same H H'->Q .non H'
theorem xU{f f1:Addr}{fd d1:ρ}(F:Fun K "need_set" "need_set" ji f fd)(D1:bF K mg "is_set" jJ ["n","thing"] f1 d1)(G1:FnOk P w K mg base CX0 4 f1 d1 ["n","thing"] (Fw K)):FnOk P w K mg base CX0 5 f fd ["web","thing"] (rC K):=by
 refine F.cM ["web","thing"] fun cdv A outer s H vs Q E hr h=> ?_;obtain⟨a,n,t,x,d,rfl,ha,hx,hd,q⟩:=h;refine⟨_,aQ (eF (ur (rT (pc G1 hr D1 (aj (bY gF (pv 0) aK) (aj (pv 1) ak))))) wN iG),?_⟩;refine⟨_,rfl,a,_,_,.int n,rfl,rfl,ha,rfl,_,rfl,n,x,d,rfl,hx,fun H' sm=>⟨_,rfl,?_⟩⟩;rw[hd];exact iteF (q H' sm)
noncomputable def lU(K:W.Frag):Sp:=fun vs H Q _=>∃(a:Addr) (n i j:Int) (ts:L0),vs=[.ref a,.int i,.int j]/\jy K H a n ts/\∀H',Same H H'->Q (.bl (ao ts i j)) H'
theorem Rk{f:Addr}{fd:ρ}(F:Fun K "has_tie" "has_tie" P0 f fd)(mi:mg "min"=none)(ma:mg "max"=none):FnOk P w K mg base CX0 1 f fd ["web","one","other"] (lU K):=by
 refine F.cM ["web","one","other"] fun cdv A outer s H vs Q E hr h=> ?_;obtain⟨a,n,i,j,ts,rfl,hW,q⟩:=h;refine⟨_,aQ (bW (pe_cmpR (pD hr.units) (cA (aj (pB (call_min2 rfl) mi (aj (pv 1) (aj (pv 2) ak))) (aj (pB (call_max2 rfl) ma (aj (pv 1) (aj (pv 2) ak))) ak)))
  (bY gF (pv 0) aK) (by with_unfolding_all rfl))),?_⟩
 refine⟨_,rfl,_,rfl,_,_,rfl,_,rfl,_,rfl,_,_,rfl,(by show 2<=sizeLine;decide),fun p hp=> ?_⟩;have sm:=aZ hp (.tup [.int (if j<i then j else i),.int (if j>i then j else i)]);obtain⟨t,rs,h1,h2,h3⟩:=hW.same sm;refine⟨_,rfl,a,_,_,.ref t,rfl,rfl,h1,rfl,t,rs,_,pairD (if j<i then j else i,if j>i then j else i),rfl,.inr h2,h3,.tup (SqT.of aG) (.cons (.int _) (.cons (.int _) .nil)),lA ts,rfl,(by show max 0 (max 0 0)+1<=60;decide),?_⟩;rw[wD];exact q _ sm
end
noncomputable def Jz(n:Int)(ts:L0):Prop:=gJ (wX n ts)=true
end Hs
namespace L2
open PySem
noncomputable def aA(t:Addr)(H H':Hp):Prop:=∀b o,b≠t->H b=some o->H' b=some o
theorem aA.refl(t:Addr)(H:Hp):aA t H H:=fun _ _ _ h=>h
theorem aA.trans{t:Addr}{H H1 H2:Hp}(a:aA t H H1)(b:aA t H1 H2):aA t H H2:=fun c o n h=>b c o n (a c o n h)
theorem Same.x{H H':Hp}(h:Same H H')(t:Addr):aA t H H':=fun b o _ e=>h b o e
theorem aA.upd{t:Addr}{H H':Hp}{o:HO}(h:aA t H H'):aA t H (upd H' t o):=fun b u n e=>by rw[cN n];exact h b u n e
noncomputable def mZ(K:W.Frag)(H:Hp)(bA:Addr)(ns:List Int):Prop:=(∃o,H bA=some (.frz o (.lst (ns.map V.int))))\/
 ∃(o:Obj) (its:Array ζ) (n:Nat),K.lookup bA=some o/\o.cls= .type "list"/\o.dict=none/\o.data= .seq its n/\its.size<=sizeLine/\Vals (ns.map V.int) its.toList
theorem mZ.sq{K:W.Frag}{H:Hp}{bA:Addr}{ns:List Int}(h:mZ K H bA ns):SqL K H bA (ns.map V.int):=by
 rcases h with⟨o,h⟩|h
 ·exact .inl (.inr ⟨o,h⟩)
 ·exact .inr h
theorem mZ.cT{K:W.Frag}{H H':Hp}{bA t:Addr}{ns:List Int}{zs:List V}(h:mZ K H bA ns)(e:aA t H H')(n:H t=some (.lst zs)):mZ K H' bA ns:=by
 rcases h with⟨o,h⟩|h
 ·exact .inl ⟨o,e _ _ (ne_of h n (by intro z;cases z)) h⟩
 ·exact .inr h
theorem mZ.same{K:W.Frag}{H H':Hp}{bA:Addr}{ns:List Int}(h:mZ K H bA ns)(e:Same H H'):mZ K H' bA ns:=by
 rcases h with⟨o,h⟩|h
 ·exact .inl ⟨o,e _ _ h⟩
 ·exact .inr h
structure jZ(K:W.Frag)(H:Hp)(tp bA:Addr)(ns:List Int):Prop where
 at_:∃(i r:Int),H tp=some (.lst [.ref bA,.int i,.int r])/\0<=i/\0<=r
 aai:mZ K H bA ns
 len:ns.length<=63
theorem jZ.same{K:W.Frag}{H H':Hp}{tp bA:Addr}{ns:List Int}(h:jZ K H tp bA ns)(e:Same H H'):jZ K H' tp bA ns:=by
 obtain⟨⟨i,r,h1,h2,h3⟩,h4,h5⟩:=h;exact⟨⟨i,r,e _ _ h1,h2,h3⟩,h4.same e,h5⟩
theorem jZ.other{K:W.Frag}{H H':Hp}{tp bA c:Addr}{ns:List Int}{zs:List V}(h:jZ K H tp bA ns)(e:aA c H H')(hc:H c=some (.lst zs))(n:tp≠c):jZ K H' tp bA ns:=by
 obtain⟨⟨i,r,h1,h2,h3⟩,h4,h5⟩:=h;exact⟨⟨i,r,e _ _ n h1,h2,h3⟩,h4.cT e hc,h5⟩
theorem NZ:∀ns:List Int,PyData.canLayAll0 (ns.map PyData.int)=true
 |[]=>rfl
 |n::ns=>by
  show(true&&PyData.canLayAll0 (ns.map PyData.int))=true;rw[NZ ns];rfl
structure cB(K:W.Frag)(H:Hp)(tp bA:Addr)(ns:List Int)(b:Int):Prop where
 tv:jZ K H tp bA ns
 le:∃(i r:Int),H tp=some (.lst [.ref bA,.int i,.int r])/\i<=b
theorem cB.same{K:W.Frag}{H H':Hp}{tp bA:Addr}{ns:List Int}{b:Int}(h:cB K H tp bA ns b)(e:Same H H'):cB K H' tp bA ns b:=by
 obtain⟨i,r,h1,h2⟩:=h.le;exact⟨h.tv.same e,i,r,e _ _ h1,h2⟩
theorem cB.mono{K:W.Frag}{H:Hp}{tp bA:Addr}{ns:List Int}{b c:Int}(h:cB K H tp bA ns b)(e:b<=c):cB K H tp bA ns c:=by
 obtain⟨i,r,h1,h2⟩:=h.le;exact⟨h.tv,i,r,h1,by omega⟩
theorem cB.other{K:W.Frag}{H H':Hp}{tp bA c:Addr}{ns:List Int}{b:Int}{zs:List V}(h:cB K H tp bA ns b)(e:aA c H H')(hc:H c=some (.lst zs))(n:tp≠c):cB K H' tp bA ns b:=by
 obtain⟨i,r,h1,h2⟩:=h.le;exact⟨h.tv.other e hc n,i,r,e _ _ n h1,h2⟩
theorem cB.lst{K:W.Frag}{H:Hp}{tp bA:Addr}{ns:List Int}{b:Int}(h:cB K H tp bA ns b):∃zs,H tp=some (.lst zs):=by
 obtain⟨i,r,h1,_⟩:=h.le;exact⟨_,h1⟩
theorem vd{H:Hp}{a b:Addr}{o:HO}(h:H a=some o)(n:H b=none):b≠a:=fun e=>by rw[e,h]at n;cases n
theorem aA.free{t:Addr}{H H':Hp}{a:Addr}(e:aA t H H')(n:a≠t)(h:H' a=none):H a=none:=by
 cases q:H a with
 |none=>rfl
 |some o=>rw[e a o n q]at h;cases h
end L2
namespace Hs
open PySem L2 kj
section
variable{P:ξ}{w:τ}{K:W.Frag}{mg:L5}{base:Heap}
theorem lg(a:Int){b:Int}(h:0<b):0<=a %b:=Int.emod_nonneg _ (by omega)
theorem mod_lt(a:Int){b:Int}(h:0<b):a %b<b:=Int.emod_lt_of_pos _ h
theorem Bg{ns:List Int}{k:Int}(h0:0<=k)(h1:k<(ns.length:Int)):∃v:Int,atI (ns.map V.int) k=some (.int v)/\ns[k.toNat]? =some v:=by
 have hk:k.toNat<ns.length:=by omega
 have ek:((k.toNat:Nat):Int)=k:=by omega
 have q:atI (ns.map V.int) ((k.toNat:Nat):Int)=some (.int ns[k.toNat]):=atI_nat (by rw[dD,jc hk];rfl);rw[ek]at q;exact⟨_,q,jc hk⟩
noncomputable def Ab(K:W.Frag):Sp:=fun vs H Q _=>∃(c i:Int),vs=[.int c,.int i]/\0<=i/\i<=1000000000/\∀r,0<=r->Q (.int r) H
theorem G9{f:Addr}{fd:ρ}(F:Fun K "_law_e_stir" "_law_e_stir" fU f fd):
  FnOk P w K mg base CX0 1 f fd ["cell","at"] (Ab K):=by
 refine F.cM ["cell","at","one","two","three"] fun cdv A outer s H vs Q E hr h=> ?_;obtain⟨c,i,rfl,hi0,hi1,q⟩:=h;refine⟨_,(aR (eF (dW op_ge (pv 0) (bM op_pow aK aK)) (aQ (bW (pv 0))) iG) (aR (pS 2 (bM op_mod (bM mO (bM mO (bM op_mul (bM op_mod (pv 0) aK) aK) (bM op_mul (pv 1) aK)) aK) aK)) (aR (pS 3 (bM op_mod (bM mO (bM mO (bM mO (bM op_mul (pv 2) (pv 2)) (bM op_mul (bM op_mul aK (pv 1)) (pv 1))) (bM op_mul aK (pv 2))) aK) aK)) (aR (pS 4 (bM op_mod (bM mO (bM mO (bM mO (bM op_mul (pv 3) (pv 3)) (bM op_mul aK (pv 3))) (pv 2)) (pv 1)) aK)) (aQ (bW (bM mO (bM op_mul (pv 3) aK) (pv 4)))))))),?_⟩;refine⟨_,rfl,_,_,rfl,rfl,⟨by decide,by decide,by decide⟩,_,_,rfl,rfl,_,rfl,?_⟩;refine ite2 (fun c1=> ?_) (fun c1=> ?_)
 ·have c2:(10:Int)^(18:Int).toNat<=c:=qX c1;have c3:(0:Int)<=10^(18:Int).toNat:=by decide
  exact⟨_,rfl,q c (by omega)⟩
 ·refine⟨_,rfl,_,_,rfl,rfl,(by show(0:Int)<2147483549;decide),_,_,rfl,rfl,.inr ⟨by decide,by decide⟩,_,rfl,_,_,rfl,rfl,.inr ⟨by decide,by decide⟩,_,_,rfl,rfl,_,_,rfl,rfl,_,_,rfl,rfl,(by show(0:Int)<2147483543;decide),?_⟩;generalize hfirst:((fun i j=>V.int (i %j)) _ _:V)=vf;obtain⟨a1,e1,a2,a3⟩:∃a:Int,vf= .int a/\0<=a/\a<2147483543:=⟨_,hfirst.symm,lg _ (by decide),mod_lt _ (by decide)⟩;rw[e1];refine⟨_,rfl,_,rfl,_,_,rfl,rfl,.inl ⟨by omega,by omega⟩,_,rfl,_,_,rfl,rfl,.inl ⟨by decide,by decide⟩,_,rfl,_,_,rfl,rfl,.inr ⟨by omega,by omega⟩,_,_,rfl,rfl,_,rfl,_,_,rfl,rfl,.inl ⟨by decide,by decide⟩,_,_,rfl,rfl,_,_,rfl,rfl,_,_,rfl,rfl,(by show(0:Int)<2147483497;decide),?_⟩;generalize Zy:((fun i j=>V.int (i %j)) _ _:V)=vs;obtain⟨b1,f1,b2,b3⟩:∃a:Int,vs= .int a/\0<=a/\a<2147483497:=⟨_,Zy.symm,lg _ (by decide),mod_lt _ (by decide)⟩;rw[f1];refine⟨_,rfl,_,rfl,_,_,rfl,rfl,.inl ⟨by omega,by omega⟩,_,rfl,_,_,rfl,rfl,.inl ⟨by decide,by decide⟩,_,_,rfl,rfl,_,rfl,_,_,rfl,rfl,_,rfl,_,_,rfl,rfl,_,_,rfl,rfl,(by show(0:Int)<2147483489;decide),?_⟩;generalize Zx:((fun i j=>V.int (i %j)) _ _:V)=vt;obtain⟨c1',g1,c2,c3⟩:∃a:Int,vt= .int a/\0<=a/\a<2147483489:=⟨_,Zx.symm,lg _ (by decide),mod_lt _ (by decide)⟩;rw[g1];refine⟨_,rfl,_,_,rfl,rfl,.inr ⟨by decide,by decide⟩,_,rfl,_,_,rfl,rfl,q _ ?_⟩;have:=Int.mul_nonneg b2 (show(0:Int)<=2147483489 by decide);omega
noncomputable def uJ(K:W.Frag):Sp:=fun vs H Q _=>∃(tp bA:Addr) (ns:List Int) (m b:Int),vs=[.ref tp,.int m]/\cB K H tp bA ns b/\b<=1000000000/\0<m/\m<1000000000000000000000000000000/\
 ∀r H',0<=r->r<m->aA tp H H'->cB K H' tp bA ns (b+1)->Q (.int r) H'
theorem Rn{f f1:Addr}{fd d1:ρ}(F:Fun K "_law_e_dip" "_law_e_dip" Td f fd)(D1:bF K mg "_law_e_stir" fU ["cell","at"] f1 d1)(G1:FnOk P w K mg base CX0 1 f1 d1 ["cell","at"] (Ab K))(aU:mg "len"=none):
  FnOk P w K mg base CX0 2 f fd ["cup","many"] (uJ K):=by
 refine F.cM ["cup","many","at","cell","found"] fun cdv A outer s H vs Q E hr h=> ?_;obtain⟨tp,bA,ns,m,b,rfl,hC,hb,hm0,hm1,q⟩:=h;refine⟨_,(aR (eF (dW op_lt (bY uw (pv 0) aK) (pv 1)) (aR (pS 2 (bY uw (pv 0) aK)) (aR (pS 3 (bM mO (bM op_mul aK (pv 2)) aK)) (aR (eF (dW op_lt (pv 2) (pB nO aU (aj (bY uw (pv 0) aK) ak))) (aQ (pS 3 (bY uw (bY uw (pv 0) aK) (pv 2)))) (aQ (eF (dW op_gt (pB nO aU (aj (bY uw (pv 0) aK) ak)) aK) (aQ (pS 3 (bM mO (bM op_mod (bY uw (bY uw (pv 0) aK) (bM op_mod (bM mO (bM op_mul aK (pv 2)) aK) (pB nO aU (aj (bY uw (pv 0) aK) ak)))) aK) (bM op_mul (pv 2) aK)))) iG))) (aR (ps_asg (bM mO (pv 2) aK) (pg_sub (pv 0) aK set_list)) (aQ (ps_asg (pc G1 hr D1 (aj (pv 3) (aj (pv 2) ak))) (pg_sub (pv 0) aK set_list))))))) iG) (aR (pS 4 (bM op_mod (bY uw (pv 0) aK) (pv 1))) (aR (ps_asg (bM Gz (bY uw (pv 0) aK) (pv 1)) (pg_sub (pv 0) aK set_list)) (aQ (bW (pv 4)))))),?_⟩;obtain⟨⟨⟨i,r,hH,hi,hr0⟩,hS0,h63⟩,i',r',hH',hle⟩:=hC;have ei:i'=i/\r'=r:=by
  rw[hH]at hH';injection hH' with e1
  injection e1 with e2
  injection e2 with _ e3
  injection e3 with e4 e5
  injection e5 with e6 _
  injection e4 with e4
  injection e6 with e6
  exact⟨e4.symm,e6.symm⟩
 obtain⟨rfl,rfl⟩:=ei;have hS:=hS0.sq;refine⟨_,rfl,tp,_,_,.int r',rfl,rfl,SqL.of hH,rfl,_,rfl,_,_,rfl,rfl,_,rfl,?_⟩;refine ite2 (fun c=> ?_) (fun c=> ?_)
 ·refine⟨_,rfl,tp,_,_,.int i',rfl,rfl,SqL.of hH,rfl,?_⟩;refine⟨_,rfl,_,_,rfl,rfl,.inl ⟨by decide,by decide⟩,_,_,rfl,rfl,?_⟩;refine⟨_,rfl,_,rfl,tp,_,_,.ref bA,rfl,rfl,SqL.of hH,rfl,bA,_,rfl,.inl hS,fun hz=>⟨_,_,rfl,rfl,_,rfl,?_⟩⟩;have go:∀r2,0<=r2->∀q',q'=r2/m->
    ((0:Int)<=r2 %m/\r2 %m<m)/\aA tp H (upd (upd (upd H tp (.lst [.ref bA,.int (i'+1),.int r'])) tp (.lst [.ref bA,.int (i'+1),.int r2])) tp (.lst [.ref bA,.int (i'+1),.int q']))/\
    cB K (upd (upd (upd H tp (.lst [.ref bA,.int (i'+1),.int r'])) tp (.lst [.ref bA,.int (i'+1),.int r2])) tp (.lst [.ref bA,.int (i'+1),.int q'])) tp bA ns (b+1):=fun r2 h0 q' hq=>by
   have sx:aA tp H (upd (upd (upd H tp (.lst [.ref bA,.int (i'+1),.int r'])) tp (.lst [.ref bA,.int (i'+1),.int r2])) tp (.lst [.ref bA,.int (i'+1),.int q'])):=(aA.refl _ _).upd.upd.upd;have hq0:0<=q':=by rw[hq];exact Yi h0 (by omega)
   exact⟨⟨lg _ hm0,mod_lt _ hm0⟩,sx,⟨⟨i'+1,q',aG,by omega,hq0⟩,hS0.cT sx hH,h63⟩,i'+1,q',aG,by omega⟩
  refine ite2 (fun c2=> ?_) (fun c2=> ?_)
  ·have c3:i'<((ns.map V.int).length:Int):=qX c2;rw[aM]at c3;obtain⟨v,hx,_⟩:=Bg hi c3;refine⟨_,rfl,tp,_,_,.ref bA,rfl,rfl,SqL.of hH,rfl,_,rfl,bA,_,_,_,rfl,rfl,hS,hx,?_⟩;refine⟨_,rfl,_,_,rfl,rfl,_,rfl,tp,_,_,1,rfl,rfl,hH,rfl,?_⟩;refine⟨_,rfl,_,rfl,_,_,rfl,hi,by omega,fun r2 h0=>⟨_,rfl,tp,_,_,2,rfl,rfl,aG,rfl,?_⟩⟩;obtain⟨⟨g1,g2⟩,g3,g4⟩:=go r2 h0 _ rfl;refine⟨_,rfl,tp,_,_,.int r2,rfl,rfl,SqL.of aG,rfl,_,rfl,_,_,rfl,rfl,hm0,?_⟩;refine⟨_,rfl,tp,_,_,.int r2,rfl,rfl,SqL.of aG,rfl,_,rfl,_,_,rfl,rfl,⟨hm0,hm1⟩,_,rfl,tp,_,_,2,rfl,rfl,aG,rfl,?_⟩;exact⟨_,rfl,q _ _ g1 g2 g3 g4⟩
  ·refine⟨_,rfl,tp,_,_,.ref bA,rfl,rfl,SqL.of hH,rfl,bA,_,rfl,.inl hS,fun hz2=>⟨_,_,rfl,rfl,_,rfl,?_⟩⟩;refine ite2 (fun c4=> ?_) (fun c4=> ?_)
   ·have e3:(0:Int)<((ns.map V.int).length:Int):=qX c4;have hk1:=lg (5*i'+2) e3;have hk2:=mod_lt (5*i'+2) e3;rw[aM]at hk1 hk2;obtain⟨v,hx,_⟩:=Bg hk1 hk2;rw[<-aM (f:=V.int)]at hx;refine⟨_,rfl,tp,_,_,.ref bA,rfl,rfl,SqL.of hH,rfl,_,rfl,_,_,rfl,rfl,.inl ⟨by decide,by decide⟩,_,_,rfl,rfl,_,rfl,tp,_,_,.ref bA,rfl,rfl,SqL.of hH,rfl,bA,_,rfl,.inl hS,fun hz2=>⟨_,_,rfl,rfl,e3,bA,_,_,_,rfl,rfl,hS,hx,?_⟩⟩;refine⟨_,_,rfl,rfl,(by show(0:Int)<777777769;decide),_,rfl,_,_,rfl,rfl,.inr ⟨by decide,by decide⟩,_,_,rfl,rfl,?_⟩;refine⟨_,rfl,_,_,rfl,rfl,_,rfl,tp,_,_,1,rfl,rfl,hH,rfl,?_⟩;refine⟨_,rfl,_,rfl,_,_,rfl,hi,by omega,fun r2 h0=>⟨_,rfl,tp,_,_,2,rfl,rfl,aG,rfl,?_⟩⟩;obtain⟨⟨g1,g2⟩,g3,g4⟩:=go r2 h0 _ rfl;refine⟨_,rfl,tp,_,_,.int r2,rfl,rfl,SqL.of aG,rfl,_,rfl,_,_,rfl,rfl,hm0,?_⟩;refine⟨_,rfl,tp,_,_,.int r2,rfl,rfl,SqL.of aG,rfl,_,rfl,_,_,rfl,rfl,⟨hm0,hm1⟩,_,rfl,tp,_,_,2,rfl,rfl,aG,rfl,?_⟩;exact⟨_,rfl,q _ _ g1 g2 g3 g4⟩
   ·refine⟨_,rfl,_,_,rfl,rfl,_,rfl,tp,_,_,1,rfl,rfl,hH,rfl,?_⟩;refine⟨_,rfl,_,rfl,_,_,rfl,hi,by omega,fun r2 h0=>⟨_,rfl,tp,_,_,2,rfl,rfl,aG,rfl,?_⟩⟩;obtain⟨⟨g1,g2⟩,g3,g4⟩:=go r2 h0 _ rfl;refine⟨_,rfl,tp,_,_,.int r2,rfl,rfl,SqL.of aG,rfl,_,rfl,_,_,rfl,rfl,hm0,?_⟩;refine⟨_,rfl,tp,_,_,.int r2,rfl,rfl,SqL.of aG,rfl,_,rfl,_,_,rfl,rfl,⟨hm0,hm1⟩,_,rfl,tp,_,_,2,rfl,rfl,aG,rfl,?_⟩;exact⟨_,rfl,q _ _ g1 g2 g3 g4⟩
 ·refine⟨_,rfl,tp,_,_,.int r',rfl,rfl,SqL.of hH,rfl,_,rfl,_,_,rfl,rfl,hm0,?_⟩;refine⟨_,rfl,tp,_,_,.int r',rfl,rfl,SqL.of hH,rfl,_,rfl,_,_,rfl,rfl,⟨hm0,hm1⟩,_,rfl,tp,_,_,2,rfl,rfl,hH,rfl,?_⟩;have sx:aA tp H (upd H tp (.lst [.ref bA,.int i',.int (r'/m)])):=(aA.refl _ _).upd;have hq0:0<=r'/m:=Yi hr0 (by omega);exact⟨_,rfl,q _ _ (lg _ hm0) (mod_lt _ hm0) sx ⟨⟨⟨i',r'/m,aG,hi,hq0⟩,hS0.cT sx hH,h63⟩,i',r'/m,aG,by omega⟩⟩
end
end Hs
namespace L2
open PySem
theorem bB.append{K:W.Frag}{H:Hp}{xs ys:List V}{ds es:List θ}(h:bB K H xs ds)(h':bB K H ys es):bB K H (xs++ys) (ds++es):=
 bB.rec (motive_1:=fun _ _ _=>True) (motive_2:=fun xs ds _=>bB K H (xs++ys) (ds++es)) trivial (fun _=>trivial) (fun _=>trivial) (fun _=>trivial) (fun _ _ _=>trivial) (fun _ _ _=>trivial) (fun _=>trivial) (fun _ _=>trivial) h' (fun h _ _ t=> .cons h t) h
theorem aA.tup{K:W.Frag}{t:Addr}{H H':Hp}{a:Addr}{xs zs:List V}(e:aA t H H')(n:H t=some (.lst zs))(h:SqT K H a xs):SqT K H' a xs:=by
 rcases h with(h|⟨o,h⟩)|h
 ·exact .inl (.inl (e _ _ (ne_of h n (by intro z;cases z)) h))
 ·exact .inl (.inr ⟨o,e _ _ (ne_of h n (by intro z;cases z)) h⟩)
 ·exact .inr h
end L2
namespace kj
open PySem L2
theorem Uk{K:W.Frag}{t:Addr}{H H':Hp}{zs:List V}(e:aA t H H')(n:H t=some (.lst zs)){rs:List V}{ps:L0}(h:bB K H rs (ps.map pairD)):bB K H' rs (ps.map pairD):=by
 induction ps generalizing rs with
 |nil=>cases h;exact .nil
 |cons p ps ih=>
  cases h with
  |cons h tl=>
   refine .cons ?_ (ih tl);cases h with
   |tup h hd=>
    cases hd with
    |cons a1 t1=>
     cases a1;cases t1 with
     |cons a2 t2=>
      cases a2;cases t2;exact .tup (e.tup n h) (.cons (.int _) (.cons (.int _) .nil))
theorem jy.cT{K:W.Frag}{t:Addr}{H H':Hp}{zs:List V}{a:Addr}{n:Int}{ts:L0}(h:jy K H a n ts)(e:aA t H H')(hn:H t=some (.lst zs)):jy K H' a n ts:=by
 obtain⟨u,rs,h1,h2,h3⟩:=h;exact⟨u,rs,e.tup hn h1,e.tup hn h2,Uk e hn h3⟩
structure Sub(j:Nat)(l:List Int):Prop where
 nd:l.Nodup
 lt:∀i∈l,0<=i/\i<(j:Int)
theorem eY{α:Type} [DecidableEq α]:∀{l m:List α},l.Nodup->(∀a∈l,a∈m)->l.length<=m.length
 |[],m,_,_=>gG _
 |a::l,m,nd,h=>by
  have ha:=h a cH;have nd':=Ef.mp nd;have q:∀b∈l,b∈m.erase a:=fun b hb=>by
   have hne:b≠a:=fun e=>nd'.1 (e▸hb);exact(List.mem_erase_of_ne hne).mpr (h b (cP _ hb))
  have:=eY nd'.2 q;have e:=weh ha;have:0<m.length:=UG ha;simp only[lO];omega
theorem Sub.len{j:Nat}{l:List Int}(h:Sub j l):l.length<=j:=by
 have q:=eY (m:=(List.range j).map fun(k:Nat)=>(k:Int)) h.nd fun i hi=>by
  have:=h.lt i hi;exact gH.mpr ⟨i.toNat,wU.mpr (by omega),by omega⟩
 simpa using q
structure bV(n:Int)(ps:L0):Prop where
 nd:ps.Nodup
 lt:∀p∈ps,0<=p.1/\p.1<p.2/\p.2<n
noncomputable def Wa(n:Nat):L0:=((List.range n).map fun(j:Nat)=>(List.range j).map fun(i:Nat)=>((i:Int),(j:Int))).flatten
theorem pairs_len{n:Int}{ps:L0}(h:bV n ps)(hn:n<=10):ps.length<=45:=by
 have q:=eY (m:=Wa 10) h.nd fun p hp=>by
  obtain⟨h0,h1,h2⟩:=h.lt p hp;obtain⟨a,b⟩:=p;dsimp only at h0 h1 h2;refine List.mem_flatten.mpr ⟨(List.range b.toNat).map fun(i:Nat)=>((i:Int),((b.toNat:Nat):Int)),gH.mpr ⟨b.toNat,wU.mpr (by omega),rfl⟩,gH.mpr ⟨a.toNat,wU.mpr (by omega),?_⟩⟩;have e1:((a.toNat:Nat):Int)=a:=by omega
  have e2:((b.toNat:Nat):Int)=b:=by omega
  rw[e1,e2]
 have e:(Wa 10).length=45:=by decide
 omega
noncomputable def pl(p:Int×Int):List Int:=[p.1,p.2]
theorem Q7{p q:Int×Int}(h:pl p=pl q):p=q:=by
 obtain⟨a,b⟩:=p;obtain⟨c,d⟩:=q;unfold pl at h;simp at h;rw[h.1,h.2]
theorem Rx{a b:List Int}(h:HT.lexLt b a=false)(ne:a≠b):HT.lexLt a b=true:=by
 rw[HT.aW]at h⊢;have h1:¬b<a:=Yx h;have h2:a<=b:=JN.mp h1;refine dF ?_;rcases Classical.em (a<b)with h3|h3
 ·exact h3
 ·exact absurd (Yn h2 (JN.mp h3)) ne
theorem Fe{n:Int}{p:Int×Int}(h0:0<=p.1)(h1:p.1<p.2)(h2:p.2<n):eU n (pairD p)=true:=by
 show((bh n (.int p.1)&&(bh n (.int p.2)&&true))&&cL [p.1,p.2]&&decide (([PyData.int p.1,PyData.int p.2]).length=2))=true;have e1:bh n (.int p.1)=true:=by
  show(decide (0<=p.1)&&decide (p.1<n))=true;rw[dF h0,dF (by omega)];rfl
 have e2:bh n (.int p.2)=true:=by
  show(decide (0<=p.2)&&decide (p.2<n))=true;rw[dF (by omega),dF h2];rfl
 have e3:cL [p.1,p.2]=true:=by
  show(decide (p.1<p.2)&&true)=true;rw[dF h1];rfl
 rw[e1,e2,e3];rfl
theorem Qp{n:Int}{ts:L0}(hn0:0<=n)(hn1:n<=10)(h:bV n ts)(hs:ts.Pairwise fun p q=>HT.lexLt (pl q) (pl p)=false):gJ (wX n ts)=true:=by
 show(true&&(decide (0<=n)&&decide (n<=10))&&((ts.map pairD).all (eU n)&&dg ((ts.map pairD).map fun t=>(kids t).map intD)))=true;have e1:(ts.map pairD).all (eU n)=true:=by
  rw[JQ,iR];intro p hp;obtain⟨h0,h1,h2⟩:=h.lt p hp;exact Fe h0 h1 h2
 have e2:(ts.map pairD).map (fun t=>(kids t).map intD)=ts.map pl:=by rw[ux];rfl
 have e3:dg (ts.map pl)=true:=by
  unfold dg;rw[iR];intro k hk;have hk':k<ts.length-1:=by simpa using hk
  have g1:(ts.map pl).getD k []=pl ts[k]:=by rw[qG,dD,jc (by omega)];rfl
  have g2:(ts.map pl).getD (k+1) []=pl ts[k+1]:=by rw[qG,dD,jc (by omega)];rfl
  rw[g1,g2];refine Rx (Qk.mp hs k (k+1) (by omega) (by omega) (by omega)) fun e=> ?_;have:=(List.getElem_inj h.nd).mp (Q7 e);omega
 rw[dF hn0,dF hn1,e1,e2,e3];rfl
noncomputable def bw(ts:L0)(i j:Int):Bool:=decide ((i,j)∈ts)||decide ((j,i)∈ts)
theorem tied_eq{n:Int}{ts:L0}(h:bV n ts)(i j:Int):ao ts i j=bw ts i j:=by
 unfold ao bw;have no:∀{a b:Int},b<=a->decide ((a,b)∈ts)=false:=fun{a b} hab=>cI fun hm=>by
  have:=(h.lt _ hm).2.1;dsimp only at this;omega
 rcases Uv i j with c|c|c
 ·rw[aJ (show¬j<i by omega),aL (show j>i by omega),no (show i<=j by omega),Bool.or_false]
 ·subst c;rw[aJ (show¬i<i by omega),Bool.or_self]
  try rw[aJ (show¬i>i by omega)]
 ·rw[aL (show j<i by omega),aJ (show¬j>i by omega),no (show j<=i by omega),Bool.false_or]
end kj
namespace Hs
open PySem L2 kj
section
variable{K:W.Frag}
noncomputable def spLaw(K:W.Frag):Sp:=fun vs H Q _=>∃(a:Addr) (ns:List Int),vs=[.ref a]/\mZ K H a ns/\ns.length<=63/\∀H',Q (.bl true) H'
theorem FW{H:Hp}{a:Addr}{ns:List Int}(hl:ns.length<=63)(hO:Only H)(hS:SqL K H a (ns.map V.int)):spLaw K [.ref a] H (fun v _=>v= .bl true) fun _ _ _=>False:=by
 refine⟨a,ns,rfl,?_,hl,fun _=>rfl⟩;rcases hS with(h|⟨o,h⟩)|h
 ·rcases hO a with q|⟨o,xs,q⟩
  ·rw[q]at h;cases h
  ·rw[q]at h;cases h
 ·exact .inl ⟨o,h⟩
 ·exact .inr h
end
noncomputable def pO(p q:Int×Int):Prop:=p.1<q.1\/(p.1=q.1/\p.2<q.2)
theorem pO.trans{p q r:Int×Int}(a:pO p q)(b:pO q r):pO p r:=by
 unfold pO at *;omega
theorem pO.Ka{p:Int×Int}(a:pO p p):False:=by
 unfold pO at a;omega
theorem eq_of_sorted:∀{l m:L0},l.Pairwise pO->m.Pairwise pO->(∀p,p∈l↔p∈m)->l=m
 |[],[],_,_,_=>rfl
 |[],q::m,_,_,h=>absurd ((h q).mpr (cH ..)) (by simp)
 |p::l,[],_,_,h=>absurd ((h p).mp (cH ..)) (by simp)
 |p::l,q::m,hl,hm,h=>by
  rw[Yw]at hl hm;have e:p=q:=by
   rcases cD.mp ((h p).mp (cH ..))with e|e
   ·exact e
   rcases cD.mp ((h q).mpr (cH ..))with e'|e'
   ·exact e'.symm
   exact(pO.Ka ((hl.1 _ e').trans (hm.1 _ e))).elim
  subst e;have:l=m:=eq_of_sorted hl.2 hm.2 (fun r=>by
   have hr:=h r;rw[cD,cD]at hr;constructor
   ·intro hi;rcases hr.mp (.inr hi)with e|e
    ·subst e;exact(pO.Ka (hl.1 _ hi)).elim
    ·exact e
   ·intro hi;rcases hr.mpr (.inr hi)with e|e
    ·subst e;exact(pO.Ka (hm.1 _ hi)).elim
    ·exact e)
  rw[this]
theorem Mj{p q:Int×Int}(h:HT.lexLt (pl p) (pl q)=true):pO p q:=by
 rw[HT.aW]at h;have:=qX h;unfold pl at this;rw[Wu]at this;rcases this with a|⟨a,b⟩
 ·exact .inl a
 ·rw[Wu]at b;rcases b with b|⟨_,b⟩
  ·exact .inr ⟨a,b⟩
  ·exact absurd b (by simp)
noncomputable def row(so:Int->Int->Bool)(i:Int)(k:Nat):L0:=((List.range k).map fun(t:Nat)=>(i,i+1+(t:Int))).filter fun p=>so p.1 p.2
noncomputable def rows(so:Int->Int->Bool)(m:Int)(i:Nat):L0:=((List.range i).map fun(t:Nat)=>row so (0+(t:Int)) (m-(0+(t:Int)+1)).toNat).flatten
theorem oZ(so:Int->Int->Bool)(i:Int)(k:Nat):row so i (k+1)=row so i k++(if so i (i+1+(k:Int))=true then[(i,i+1+(k:Int))]else[]):=by
 unfold row;rw[Qd,cg,Oc];congr 1;show List.filter _ [(i,i+1+(k:Int))]=_;rw[wV];rfl
theorem eX(so:Int->Int->Bool)(m:Int)(i:Nat):rows so m (i+1)=rows so m i++row so (0+(i:Int)) (m-(0+(i:Int)+1)).toNat:=by
 unfold rows;rw[Qd,cg,List.flatten_append];simp
theorem nY{so:Int->Int->Bool}{i:Int}{k:Nat}{p:Int×Int}:p∈row so i k↔p.1=i/\i<p.2/\p.2<i+1+(k:Int)/\so p.1 p.2=true:=by
 unfold row;rw[dY,gH];constructor
 ·rintro⟨⟨t,ht,rfl⟩,h⟩;rw[wU]at ht;exact⟨rfl,by show i<i+1+(t:Int);omega,by show i+1+(t:Int)<_;omega,h⟩
 ·rintro⟨h1,h2,h3,h4⟩;refine⟨⟨(p.2-i-1).toNat,by rw[wU];omega,?_⟩,h4⟩;apply Tv
  ·exact h1.symm
  ·show i+1+(((p.2-i-1).toNat:Nat):Int)=p.2;omega
theorem JK{so:Int->Int->Bool}{m:Int}:∀{i:Nat} {p:Int×Int},p∈rows so m i↔0<=p.1/\p.1<(i:Int)/\p.1<p.2/\p.2<m/\so p.1 p.2=true
 |0,p=>by
  constructor
  ·intro h;simp[rows]at h
  ·intro h;omega
 |i+1,p=>by
  rw[eX,fH,JK (i:=i),nY];constructor
  ·rintro(h|h)
   ·exact⟨h.1,by omega,h.2.2⟩
   ·exact⟨by omega,by omega,by omega,by omega,h.2.2.2⟩
  ·rintro⟨h1,h2,h3,h4,h5⟩;by_cases e:p.1<(i:Int)
   ·exact .inl ⟨h1,e,h3,h4,h5⟩
   ·exact .inr ⟨by omega,by omega,by omega,h5⟩
theorem o9(so:Int->Int->Bool)(i:Int)(k:Nat):(row so i k).Pairwise pO:=by
 unfold row;refine YG _ ?_;rw[Er];exact Tp.imp fun h=> .inr ⟨rfl,by show i+1+_<i+1+_;omega⟩
theorem Tc(so:Int->Int->Bool)(m:Int):∀i:Nat,(rows so m i).Pairwise pO
 |0=>by unfold rows;exact List.Pairwise.nil
 |i+1=>by
  rw[eX,Qi];refine⟨Tc so m i,o9 so _ _,fun p hp q hq=> ?_⟩;rw[JK]at hp;rw[nY]at hq;exact .inl (by omega)
theorem Ag{so:Int->Int->Bool}{m:Int}{i:Nat}:bV m (rows so m i):=
 ⟨(Tc so m i).imp fun h e=>by subst e;exact pO.Ka h,fun p hp=>by rw[JK]at hp;exact⟨hp.1,hp.2.2.1,hp.2.2.2.1⟩⟩
theorem rG{l:L0}(h:l.Pairwise pO):l.Nodup:=h.imp fun h e=>by subst e;exact pO.Ka h
end Hs
namespace L2
open PySem
theorem bB.get'{K:W.Frag}{H:Hp}:∀{xs:List V} {ds:List θ} {i:Nat},bB K H xs ds->i<ds.length->∃x d,xs[i]? =some x/\ds[i]? =some d/\DV K H x d
 |_,_,i,.nil,h=>by simp at h
 |_,_,0,.cons h _,_=>⟨_,_,rfl,rfl,h⟩
 |_,_,i+1,.cons _ t,h=>by
  obtain⟨x,d,h1,h2,h3⟩:=bB.get' (i:=i) t (by simpa using h);exact⟨x,d,by simpa using h1,by simpa using h2,h3⟩
end L2
namespace Hs
open PySem L2 kj
structure aF(K:W.Frag)(H:Hp)(a:Addr)(n:Int)(ts:L0):Prop where
 web:jy K H a n ts
 h0:0<=n
 h1:n<=10
 pk:bV n ts
 ok:Jz n ts
theorem aF.same{K:W.Frag}{H H':Hp}{a:Addr}{n:Int}{ts:L0}(h:aF K H a n ts)(e:Same H H'):aF K H' a n ts:=⟨h.web.same e,h.h0,h.h1,h.pk,h.ok⟩
theorem aF.cT{K:W.Frag}{H H':Hp}{t a:Addr}{zs:List V}{n:Int}{ts:L0}(h:aF K H a n ts)(e:aA t H H')(hn:H t=some (.lst zs)):aF K H' a n ts:=⟨h.web.cT e hn,h.h0,h.h1,h.pk,h.ok⟩
theorem aF.len{K:W.Frag}{H:Hp}{a:Addr}{n:Int}{ts:L0}(h:aF K H a n ts):ts.length<=45:=pairs_len h.pk h.h1
noncomputable def tt(_ _:Int):Bool:=true
theorem Mg{p q:Int×Int}(h:pO p q):HT.lexLt (pl q) (pl p)=false:=by
 rw[HT.aW];refine cI fun z=> ?_;have:pO q p:=Mj (by rw[HT.aW];exact dF z);exact pO.Ka (h.trans this)
theorem je{n:Int}{ts:L0}{i:Nat}(h0:0<=n)(h1:n<=10)(h:ts.Sublist (rows tt n i)):bV n ts/\Jz n ts:=by
 have hs:ts.Pairwise pO:=(Tc tt n i).sublist h;have ho:bV n ts:=⟨rG hs,fun p hp=>(Ag (so:=tt) (m:=n) (i:=i)).lt p (h.subset hp)⟩;exact⟨ho,Qp h0 h1 ho (hs.imp Mg)⟩
theorem nU{K:W.Frag}{H:Hp}{rs:List V}{ps:L0}{i:Nat}{x:V}(h:bB K H rs (ps.map pairD))(hx:rs[i]? =some x):∃(t:Addr) (hi:i<ps.length),x= .ref t/\SqT K H t [.int (ps[i]).1,.int (ps[i]).2]:=by
 have hlen:=h.len;rw[aM]at hlen;have hi:i<ps.length:=by rw[<-hlen];exact(qW.mp hx).1
 obtain⟨x',d,e1,e2,e3⟩:=bB.get' (i:=i) h (by rw[aM];exact hi);rw[hx]at e1;cases e1;rw[dD,jc hi]at e2;cases e2;cases e3 with
 |tup hp tp=>
  cases tp with
  |cons ta tb=>
   cases tb with
   |cons tc td=>
    cases td;cases ta;cases tc;exact⟨_,hi,rfl,hp⟩
theorem iW{xs:List Int}{i:Int}(h0:0<=i)(h1:i<(xs.length:Int)):atI (xs.map V.int) i=some (.int (xs.getD i.toNat 0)):=by
 have hk:i.toNat<xs.length:=by omega
 have ek:((i.toNat:Nat):Int)=i:=by omega
 have q:atI (xs.map V.int) ((i.toNat:Nat):Int)=some (.int (xs.getD i.toNat 0)):=atI_nat (by rw[dD,jc hk,qG,jc hk];rfl);rw[ek]at q;exact q
noncomputable def bZ(K:W.Frag)(H:Hp)(l:Addr)(R:L0)(P:Int×Int->Prop):Prop:=∃(rs:List V) (ts:L0),H l=some (.lst rs)/\bB K H rs (ts.map pairD)/\ts.Sublist R/\∀p∈ts,P p
theorem bZ.nil{K:W.Frag}{H:Hp}{l:Addr}{R:L0}{P:Int×Int->Prop}(h:H l=some (.lst [])):bZ K H l R P:=⟨[],[],h,.nil,List.nil_sublist _,fun p hp=>(nomatch hp)⟩
theorem bZ.same{K:W.Frag}{H H':Hp}{l:Addr}{R:L0}{P:Int×Int->Prop}(h:bZ K H l R P)(e:Same H H'):bZ K H' l R P:=by
 obtain⟨rs,ts,h1,h2,h3⟩:=h;exact⟨rs,ts,e _ _ h1,h2.same e,h3⟩
theorem bZ.step{K:W.Frag}{H H':Hp}{l c:Addr}{R:L0}{P:Int×Int->Prop}{zs:List V}(h:bZ K H l R P)(e:aA c H H')(hc:H c=some (.lst zs))(n:l≠c):bZ K H' l R P:=by
 obtain⟨rs,ts,h1,h2,h3⟩:=h;exact⟨rs,ts,e _ _ n h1,Uk e hc h2,h3⟩
theorem bZ.mono{K:W.Frag}{H:Hp}{l:Addr}{R R':L0}{P:Int×Int->Prop}(h:bZ K H l R P)(e:R.Sublist R'):bZ K H l R' P:=by
 obtain⟨rs,ts,h1,h2,h3,h4⟩:=h;exact⟨rs,ts,h1,h2,h3.trans e,h4⟩
theorem bZ.push{K:W.Frag}{H:Hp}{l p:Addr}{R:L0}{P:Int×Int->Prop}{i j:Int}{rs:List V}{ts:L0}(h1:H l=some (.lst rs))(h2:bB K H rs (ts.map pairD))(h3:ts.Sublist R)(h4:∀p∈ts,P p)(hp:SqT K H p [.int i,.int j])(hP:P (i,j)):bZ K (upd H l (.lst (rs++[.ref p]))) l (R++[(i,j)]) P:=by
 have x:aA l H (upd H l (.lst (rs++[.ref p]))):=(aA.refl _ _).upd;refine⟨_,ts++[(i,j)],aG,?_,h3.append (Ys _),fun q hq=> ?_⟩
 ·rw[cg];exact(Uk x h1 h2).append (.cons (.tup (x.tup h1 hp) (.cons (.int _) (.cons (.int _) .nil))) .nil)
 ·rcases fH.mp hq with q'|q'
  ·exact h4 q q'
  ·rw[eN.mp q'];exact hP
theorem sub_len{n:Int}{ts:L0}{i k:Nat}(h1:n<=10)(hk:0+(i:Int)+1+(k:Int)<=n)(h:ts.Sublist (rows tt n i++row tt (0+(i:Int)) k)):ts.length<=45:=by
 refine pairs_len (n:=n) ⟨?_,fun p hp=> ?_⟩ h1
 ·refine rG (List.Pairwise.sublist h ?_);rw[Qi];refine⟨Tc _ _ _,o9 _ _ _,fun p hp q hq=> ?_⟩;rw[JK]at hp;rw[nY]at hq;exact .inl (by omega)
 ·rcases fH.mp (h.subset hp)with q|q
  ·rw[JK]at q;exact⟨q.1,q.2.2.1,q.2.2.2.1⟩
  ·rw[nY]at q;exact⟨by omega,by omega,by omega⟩
section
variable{P:ξ}{w:τ}{K:W.Frag}{mg:L5}{base:Heap}
theorem G8{f:Addr}{fd:ρ}(F:Fun K "_law_e_tied" "_law_e_tied" fQ f fd)(mD:mg "min"=none)(vm:mg "max"=none):
  FnOk P w K mg base CX0 1 f fd ["web","one","other"] (lU K):=by
 refine F.cM ["web","one","other"] fun cdv A outer s H vs Q E hr h=> ?_;obtain⟨a,n,i,j,ts,rfl,hW,q⟩:=h;refine⟨_,(aQ (bW (pe_cmpR (pD hr.units) (cA (aj (pB (call_min2 rfl) mD (aj (pv 1) (aj (pv 2) ak))) (aj (pB (call_max2 rfl) vm (aj (pv 1) (aj (pv 2) ak))) ak))) (bY gF (pv 0) aK) (by with_unfolding_all rfl)))),?_⟩;refine⟨_,rfl,_,rfl,_,_,rfl,_,rfl,_,rfl,_,_,rfl,(by show 2<=sizeLine;decide),fun p hp=> ?_⟩;have sm:=aZ hp (.tup [.int (if j<i then j else i),.int (if j>i then j else i)]);obtain⟨t,rs,h1,h2,h3⟩:=hW.same sm;refine⟨_,rfl,a,_,_,.ref t,rfl,rfl,h1,rfl,t,rs,_,pairD (if j<i then j else i,if j>i then j else i),rfl,.inr h2,h3,.tup (SqT.of aG) (.cons (.int _) (.cons (.int _) .nil)),lA ts,rfl,(by show max 0 (max 0 0)+1<=60;decide),?_⟩;rw[wD];exact q _ sm
noncomputable def zV(K:W.Frag):Sp:=fun vs H Q _=>∃(cp bA:Addr) (ns:List Int) (n b:Int),vs=[.ref cp,.int n]/\cB K H cp bA ns b/\b<=900000000/\0<=n/\n<=10/\
 ∀r ts H',aA cp H H'->cB K H' cp bA ns (b+120)->aF K H' r n ts->Q (.ref r) H'
theorem GK{f f1:Addr}{fd d1:ρ}(F:Fun K "_law_e_web_of" "_law_e_web_of" XC f fd)(D1:bF K mg "_law_e_dip" Td ["cup","many"] f1 d1)(G1:FnOk P w K mg base CX0 2 f1 d1 ["cup","many"] (uJ K))(au:mg "range"=none)(aX:mg "tuple"=none):
  FnOk P w K mg base CX0 3 f fd ["cup","n"] (zV K):=by
 refine F.cM ["cup","n","often","ties","i","j"] fun cdv A outer s H vs Q E hr h=> ?_;obtain⟨cp,bA,ns,n,b,rfl,hC,hb,hn0,hn1,q⟩:=h;refine⟨_,(aR (pS 2 (pc G1 hr D1 (aj (pv 0) (aj aK ak)))) (aR (pS 3 (nJ ak)) (aR (rR qL rfl (rY rfl au (aj (pv 1) ak)) (pG 4) (aQ (rR qL rfl (pi_range2 rfl au (aj (bM mO (pv 4) aK) (aj (pv 1) ak))) (pG 5) (aQ (eF (dW op_lt (pc G1 hr D1 (aj (pv 0) (aj aK ak))) (pv 2)) (aQ (iw (pe_bm JZ T7 T4 S8 (pv 3) (aj (cA (aj (pv 4) (aj (pv 5) ak))) ak)))) iG))))) (aQ (bW (cA (aj (pv 1) (aj (pT Ed aX (aj (pv 3) ak)) ak)))))))),?_⟩;refine⟨_,rfl,cp,bA,ns,7,b,rfl,hC,by omega,by decide,by decide,fun o H1 ho0 ho1 x1 c1=> ?_⟩;refine⟨(by show 0<=sizeLine;decide),fun tl htl=> ?_⟩;obtain⟨zs,hz⟩:=c1.lst;have s2:=aZ htl (.lst []);have Ru:tl≠cp:=vd hz htl;have Y0:H tl=none:=x1.free Ru htl;refine⟨_,rfl,n,rfl,by omega,by omega,?_⟩;refine Kh (n:=n.toNat) (fun i σ H'=>aA cp H H'/\cB K H' cp bA ns (b+1+10*(i:Int))/\bZ K H' tl (rows tt n i) (fun _=>True)/\∃a4 a5,σ=[some (.ref cp),some (.int n),some (.int o),some (.ref tl),a4,a5])
  ⟨x1.trans (s2.x _),(c1.same s2).mono (by omega),bZ.nil aG,_,_,rfl⟩ (fun i σ H' hi p=> ?_) (fun σ H' p=> ?_)
 ·obtain⟨x,c,tl1,a4,a5,rfl⟩:=p;refine⟨_,rfl,_,_,rfl,rfl,_,rfl,_,_,rfl,⟨by omega,by omega,by omega,by omega⟩,?_⟩;refine Kh (n:=(n-(0+(i:Int)+1)).toNat) (fun k σ H'=>aA cp H H'/\cB K H' cp bA ns (b+1+10*(i:Int)+(k:Int))/\bZ K H' tl (rows tt n i++row tt (0+(i:Int)) k) (fun _=>True)/\∃a5,σ=[some (.ref cp),some (.int n),some (.int o),some (.ref tl),some (.int (0+(i:Int))),a5])
   ⟨x,c.mono (by omega),by rw[show row tt (0+(i:Int)) 0=[]from rfl,qT];exact tl1,_,rfl⟩ (fun k σ H' hk p=> ?_) (fun σ H' p=> ?_)
  ·obtain⟨x,c,tl1,a5,rfl⟩:=p;refine⟨_,rfl,cp,bA,ns,6,_,rfl,c,by omega,by decide,by decide,fun d H2 hd0 hd1 x2 c2=>⟨_,rfl,_,_,rfl,rfl,_,rfl,?_⟩⟩;obtain⟨zs,hz⟩:=c.lst;have tl2:=tl1.step x2 hz Ru;have er:rows tt n i++row tt (0+(i:Int)) (k+1)=(rows tt n i++row tt (0+(i:Int)) k)++[(0+(i:Int),0+(i:Int)+1+(k:Int))]:=by rw[oZ,aL (show tt _ _=true from rfl),W7]
   have ec:b+1+10*(i:Int)+((k+1:Nat):Int)=b+1+10*(i:Int)+(k:Int)+1:=by omega
   rw[er,ec];refine ite2 (fun cc=> ?_) (fun cc=> ?_)
   ·obtain⟨rs,ts,h1,h2,h3,h4⟩:=tl2;have hl:=sub_len hn1 (by omega) h3;have hrl:=h2.len;rw[aM]at hrl;refine⟨_,rfl,.inl ⟨rfl,_,SqL.of h1⟩,_,rfl,_,rfl,(by show 2<=sizeLine;decide),fun p hp=> ?_⟩;have s3:=aZ hp (.tup [.int (0+(i:Int)),.int (0+(i:Int)+1+(k:Int))]);refine⟨tl,rs,_,rfl,rfl,s3 _ _ h1,(by rw[cY];omega),?_⟩;have xw:aA tl (upd H2 p (.tup [.int (0+(i:Int)),.int (0+(i:Int)+1+(k:Int))])) (upd (upd H2 p (.tup [.int (0+(i:Int)),.int (0+(i:Int)+1+(k:Int))])) tl (.lst (rs++[.ref p]))):=(aA.refl _ _).upd;refine⟨fun q o hq e=> ?_,(c2.same s3).other xw (s3 _ _ h1) Ru.symm,bZ.push (s3 _ _ h1) (h2.same s3) h3 h4 (SqT.of aG) trivial,_,rfl⟩;have nq:q≠tl:=fun z=>by rw[z,Y0]at e;cases e
    exact xw _ _ nq (s3 _ _ (x2 _ _ hq (x _ _ hq e)))
   ·exact⟨x.trans x2,c2,tl2.mono (Wy _ _),_,rfl⟩
  ·obtain⟨x,c,tl1,a5,rfl⟩:=p;rw[<-eX]at tl1;exact⟨x,c.mono (by omega),tl1,_,_,rfl⟩
 ·obtain⟨x,c,⟨rs,ts,h1,h2,h3,h4⟩,a4,a5,rfl⟩:=p;refine⟨_,rfl,_,rfl,tl,rs,rfl,.inl ⟨SqL.of h1,fun t ht=>⟨(by show 2<=sizeLine;decide),fun wb Zv=> ?_⟩⟩⟩;have s3:=aZ ht (.tup rs);have s4:=aZ Zv (.tup [.int n,.ref t]);have OD:=s3.trans s4;obtain⟨g1,g2⟩:=je hn0 hn1 h3;exact q wb ts _ (x.trans (OD.x _)) ((c.same OD).mono (by omega)) ⟨⟨t,rs,SqT.of aG,SqT.of (s4 _ _ aG),h2.same OD⟩,hn0,hn1,g1,g2⟩
end
theorem lX{so:Int->Int->Bool}{m:Int}{i:Nat}:(rows tt m i).filter (fun p=>so p.1 p.2)=rows so m i:=by
 refine eq_of_sorted ((Tc _ _ _).filter _) (Tc _ _ _) fun p=> ?_;rw[dY,JK,JK];constructor
 ·rintro⟨⟨a,b,c,d,_⟩,e⟩;exact⟨a,b,c,d,e⟩
 ·rintro⟨a,b,c,d,e⟩;exact⟨⟨a,b,c,d,rfl⟩,e⟩
section
variable{P:ξ}{w:τ}{K:W.Frag}{mg:L5}{base:Heap}
structure DP(K:W.Frag)(H:Hp)(l:Addr)(ps:L0):Prop where
 ex:∃rs,H l=some (.lst rs)/\bB K H rs (ps.map pairD)
theorem DP.same{H H':Hp}{l:Addr}{ps:L0}(h:DP K H l ps)(e:Same H H'):DP K H' l ps:=by
 obtain⟨rs,h1,h2⟩:=h.ex;exact⟨rs,e _ _ h1,h2.same e⟩
noncomputable def Gf(K:W.Frag):Sp:=fun vs H Q _=>∃(n:Int),vs=[.int n]/\0<=n/\n<=10/\∀l H',Same H H'->DP K H' l (rows tt n n.toNat)->Q (.ref l) H'
theorem Lr{f:Addr}{fd:ρ}(F:Fun K "pairs" "pairs" sH f fd)(mR:mg "range"=none):FnOk P w K mg base CX0 1 f fd ["n"] (Gf K):=by
 refine F.cM ["n","found","one"] fun cdv A outer s H vs Q E hr h=> ?_;obtain⟨n,rfl,hn0,hn1,q⟩:=h;refine⟨_,aR (pS 1 (nJ ak)) (aR (rR qL rfl (rY rfl mR (aj (pv 0) ak)) (pG 2) (aQ (iw (pe_bm JZ wej wek mt_extend (pv 1) (aj
    (pK ["other"] ["one"] [2] (pi_range2 rfl mR (aj (bM mO (pv 2) aK) (aj (pv 0) ak))) (pG 0) qJ (cA (aj (pv 1) (aj (pv 0) ak)))) ak))))) (aQ (bW (pv 1)))),?_⟩
 refine⟨(by show 0<=sizeLine;decide),fun l hl=> ?_⟩;refine⟨_,rfl,n,rfl,by omega,by omega,?_⟩;refine Kh (n:=n.toNat) (fun i σ H'=>Same H H'/\(∃rs,H' l=some (.lst rs)/\bB K H' rs ((rows tt n i).map pairD))/\∃o,σ=[some (.int n),some (.ref l),o]) ⟨aZ hl _,⟨[],aG,.nil⟩,_,rfl⟩ (fun i σ H' hi p=> ?_) (fun σ H' p=> ?_)
 ·obtain⟨sm,⟨rs,hr1,hr2⟩,o,rfl⟩:=p;have hlen:=hr2.len;rw[aM]at hlen;have h45:=pairs_len (Ag (so:=tt) (m:=n) (i:=i)) hn1;refine⟨_,rfl,.inl ⟨rfl,_,SqL.of hr1⟩,_,rfl,_,_,rfl,rfl,_,rfl,_,_,rfl,⟨by omega,by omega,by omega,by omega⟩,?_⟩;refine wO (n:=(n-(0+(i:Int)+1)).toNat) (fun k acc σ H2=>Same H' H2/\acc.length=k/\bB K H2 acc ((row tt (0+(i:Int)) k).map pairD)/\∃o1,σ=[o1,some (.int (0+(i:Int)))]) ⟨Same.refl _,rfl,.nil,_,rfl⟩ (fun k acc σ H2 hk p=>by rw[p.2.1];exact bH _) (by rw[cY];omega) (fun k acc σ H2 hk p=> ?_) (fun acc σ H2 p=> ?_)
  ·obtain⟨s2,hl2,hd,o1,rfl⟩:=p;refine⟨_,rfl,_,rfl,(by show 2<=sizeLine;decide),fun p hp=> ?_⟩;have s3:=aZ hp (.tup [.int (0+(i:Int)),.int (0+(i:Int)+1+(k:Int))]);refine⟨s2.trans s3,by rw[eO,hl2];rfl,?_,_,rfl⟩;rw[oZ,cg,aL (show tt (0+(i:Int)) (0+(i:Int)+1+(k:Int))=true from rfl)];exact(hd.same s3).append (.cons (.tup (SqT.of aG) (.cons (.int _) (.cons (.int _) .nil))) .nil)
  ·intro p1 hp1;obtain⟨s2,hl2,hd,_⟩:=p;have s3:=aZ hp1 (.lst acc);have Xm:=s3 _ _ (s2 _ _ hr1);refine⟨l,p1,rs,acc,rfl,rfl,Xm,aG,?_,?_⟩
   ·rw[cY];omega
   ·have x4:aA l (upd H2 p1 (.lst acc)) (upd (upd H2 p1 (.lst acc)) l (.lst (rs++acc))):=(aA.refl _ _).upd;refine⟨?_,⟨_,aG,?_⟩,_,rfl⟩
    ·intro b o hb;have nb:b≠l:=fun e=>by rw[e,hl]at hb;cases hb
     exact x4 _ _ nb (s3 _ _ (s2 _ _ (sm _ _ hb)))
    ·rw[eX];exact Uk x4 Xm (by rw[cg];exact((hr2.same s2).same s3).append (hd.same s3))
 ·obtain⟨sm,⟨rs,hr1,hr2⟩,o,rfl⟩:=p;exact⟨_,rfl,q l _ sm ⟨rs,hr1,hr2⟩⟩
theorem vX{so:Int×Int->Bool}{ps:L0}{i:Nat}(hi:i<ps.length):(ps.take (i+1)).filter so=(ps.take i).filter so++(if so ps[i]=true then[ps[i]]else[]):=by
 rw[zF,jc hi,Oc];congr 1;show List.filter so [ps[i]]=_;rw[wV];rfl
end
structure cJ(n:Int)(xs:List Int):Prop where
 Fj:xs.Pairwise (· < ·)
 lt:∀x∈xs,0<=x/\x<n
theorem cJ.len{n:Int}{xs:List Int}(h:cJ n xs)(hn:n<=10):xs.length<=10:=by
 have h1:Sub n.toNat xs:=⟨h.Fj.imp fun h e=>by omega,fun i hi=>by have:=h.lt i hi;omega⟩;have:=h1.len;omega
theorem cJ.jE{n:Int}{xs:List Int}(h:cJ n xs):kj.jE n (.tuple (xs.map PyData.int))=true:=by
 unfold kj.jE;rw[gU];refine⟨?_,?_⟩
 ·rw[JQ,iR];intro x hx;have:=h.lt x hx;show(decide (0<=x)&&decide (x<n))=true;rw[dF this.1,dF this.2];rfl
 ·rw[ux];have e:xs.map (intD∘PyData.int)=xs:=(List.map_congr_left fun x _=>rfl).trans (List.map_id xs);rw[e];unfold cL;rw[iR];intro k hk;rw[wU]at hk;have h2:=Qk.mp h.Fj k (k+1) (by omega) (by omega) (by omega);have g:∀j,(hj:j<xs.length)->xs.getD j 0=xs[j]:=fun j hj=>by rw[qG,jc hj];rfl
  rw[g k (by omega),g (k+1) (by omega)];exact dF h2
noncomputable def Af(xs:List Int)(ts:L0)(i j:Int):Bool:=ao ts (xs.getD i.toNat 0) (xs.getD j.toNat 0)
noncomputable def upto(n:Nat):List Int:=(List.range n).map fun(k:Nat)=>(k:Int)
theorem Kv(n:Int):cJ n (upto n.toNat):=by
 unfold upto;refine⟨?_,fun x hx=> ?_⟩
 ·rw[Er];exact Tp.imp fun h=>by omega
 ·obtain⟨k,hk,rfl⟩:=gH.mp hx;rw[wU]at hk;omega
theorem Fb(n:Nat):(upto n).length=n:=by unfold upto;simp
section
variable{P:ξ}{w:τ}{K:W.Frag}{mg:L5}{base:Heap}
noncomputable def Oz(K:W.Frag):Sp:=fun vs H Q _=>∃(a sm:Addr) (n:Int) (ts:L0) (xs:List Int),vs=[.ref a,.ref sm]/\aF K H a n ts/\SqT K H sm (xs.map V.int)/\cJ n xs/\
 ∀r H',Same H H'->jy K H' r (xs.length:Int) (rows (Af xs ts) (xs.length:Int) (xs.length:Int).toNat)->Q (.ref r) H'
theorem Ro{f f1 f2 f3 f4:Addr}{fd d1 d2 d3 d4:ρ}(F:Fun K "cut_down" "cut_down" jj f fd)(D1:bF K mg "need_web" wL ["thing"] f1 d1)(G1:FnOk P w K mg base CX0 7 f1 d1 ["thing"] (bN K))(D2:bF K mg "need_set" ji ["web","thing"] f2 d2)(G2:FnOk P w K mg base CX0 5 f2 d2 ["web","thing"] (rC K))(D3:bF K mg "pairs" sH ["n"] f3 d3)(G3:FnOk P w K mg base CX0 1 f3 d3 ["n"] (Gf K))(D4:bF K mg "has_tie" P0 ["web","one","other"] f4 d4)(G4:FnOk P w K mg base CX0 1 f4 d4 ["web","one","other"] (lU K))(mT:mg "tuple"=none)(mL:mg "len"=none):
  FnOk P w K mg base CX0 8 f fd ["web","some"] (Oz K):=by
 refine F.cM ["web","some","kept"] fun cdv A outer s H vs Q E hr h=> ?_;obtain⟨a,sm,n,ts,xs,rfl,hA,hX,hok,q⟩:=h;refine⟨_,aR (iw (pc G1 hr D1 (aj (pv 0) ak))) (aR (iw (pc G2 hr D2 (aj (pv 0) (aj (pv 1) ak)))) (aR (pX 2 ["i","j"] ["web","some"] [0,1] (Bl (pc G3 hr D3 (aj (pB nO mL (aj (pv 1) ak)) ak))) (gj K (n:=2) rfl (nM (pG 0) (nM (pG 1) Ea))) (cW (rT (pc G4 hr D4 (aj (pv 2) (aj (bY (DW K) (pv 3) (pv 0)) (aj (bY (DW K) (pv 3) (pv 1)) ak)))))) (cA (aj (pv 0) (aj (pv 1) ak)))) (aQ (bW (cA (aj (pB nO mL (aj (pv 1) ak)) (aj (pT Ed mT (aj (pv 2) ak)) ak))))))),?_⟩;have Ke:=hA.h1;have h10:=hok.len Ke;refine⟨_,rfl,_,_,rfl,hA.web.dv.dx,hA.ok,fun H1 s1=> ?_⟩;obtain⟨ta,ra,a1,a2,a3⟩:=id (hA.same s1).web;have hDX:DX K H1 (.ref sm) (.tuple (xs.map PyData.int)):=(DV.tup (s1.tup hX) (bB.ints xs)).dx;refine⟨_,rfl,_,rfl,a,n,_,_,_,rfl,a1,hDX,hok.jE,fun H2 s2=> ?_⟩;have s12:=s1.trans s2;refine⟨_,rfl,sm,_,rfl,.inr (s12.tup hX),fun _=>⟨_,rfl,by omega,by rw[aM];omega,fun l H3 s3 p1=> ?_⟩⟩;rw[aM]at p1;obtain⟨rs,e1,v1⟩:=p1.ex;refine⟨l,rs,rfl,SqL.of e1,fun hz=> ?_⟩;have hlen:=v1.len;rw[aM]at hlen;have J0:=s12.trans s3;generalize hR:rows tt (xs.length:Int) (xs.length:Int).toNat=R at *;have hR':∀p∈R,0<=p.1/\p.1<p.2/\p.2<(xs.length:Int):=fun p hp=>by rw[<-hR,JK]at hp;exact⟨hp.1,hp.2.2.1,hp.2.2.2.1⟩
 refine PX (xs:=rs) (fun i acc σ H'=>Same H3 H'/\acc.length<=i/\bB K H' acc ((R.take i).filter (fun p=>Af xs ts p.1 p.2)|>.map pairD)/\∃o1 o2,σ=[o1,o2,some (.ref a),some (.ref sm)]) ⟨Same.refl _,bH _,.nil,_,_,rfl⟩ (fun i acc σ H' _ p=>p.1.seq (SqL.of e1)) (fun i acc σ H' hi p=>p.2.1) hz (fun i x acc σ H' hx p=> ?_) (fun acc σ H' p=> ?_)
 ·obtain⟨sm',hl,hd,o1,o2,rfl⟩:=p;obtain⟨t,hi,rfl,ht⟩:=nU v1 hx;have sA:=J0.trans sm';have hb:=hR' _ (Bm hi);refine⟨t,_,rfl,sm'.tup ht,rfl,_,_,rfl,_,_,rfl,rfl,?_⟩;refine⟨_,rfl,_,rfl,_,rfl,sm,_,_,_,rfl,rfl,sA.tup hX,iW hb.1 (by omega),_,rfl,_,rfl,sm,_,_,_,rfl,rfl,sA.tup hX,iW (by omega) hb.2.2,?_⟩;refine⟨a,n,_,_,ts,rfl,(hA.same sA).web,fun H5 s5=>⟨_,rfl,?_⟩⟩;rw[vX hi];refine ite2 (fun c=> ?_) (fun c=> ?_)
  ·refine⟨_,rfl,_,rfl,(by show 2<=sizeLine;decide),fun p hp=> ?_⟩;have s6:=aZ hp (.tup [.int (R[i]).1,.int (R[i]).2]);refine⟨sm'.trans (s5.trans s6),by rw[eO];show acc.length+1<=i+1;omega,?_,_,_,rfl⟩;rw[aL (show Af xs ts _ _=true from c),cg];exact(hd.same (s5.trans s6)).append (.cons (.tup (SqT.of aG) (.cons (.int _) (.cons (.int _) .nil))) .nil)
  ·refine⟨sm'.trans s5,by omega,?_,_,_,rfl⟩;rw[aJ (show¬Af xs ts _ _=true from c),qT];exact hd.same s5
 ·intro p1 hp1;obtain⟨sm',hl,hd,_⟩:=p;rw[hlen,uy,<-hR,lX]at hd;have s5:=aZ hp1 (.lst acc);have sA:=J0.trans (sm'.trans s5);refine⟨_,rfl,sm,_,rfl,.inr (sA.tup hX),fun _=>⟨_,rfl,p1,_,rfl,.inl ⟨SqL.of aG,fun t ht=> ?_⟩⟩⟩;have s6:=aZ ht (.tup acc);refine⟨(by show 2<=sizeLine;decide),fun r hr'=> ?_⟩;rw[aM];have s7:=aZ hr' (.tup [.int (xs.length:Int),.ref t]);exact q r _ (sA.trans (s6.trans s7)) ⟨t,acc,SqT.of aG,SqT.of (s7 _ _ aG),hd.same (s5.trans (s6.trans s7))⟩
end
end Hs
namespace Hs
noncomputable def ff:Nat->Nat
 |0=>1
 |1=>1
 |2=>2
 |3=>3
 |4=>4
 |5=>6
 |6=>9
 |7=>12
 |8=>18
 |9=>27
 |_=>36
theorem sZ:∀m n:Nat,m<=n->n<=10->ff m<=ff n:=by
 have h:∀n:Fin 11,∀m:Fin 11,m.val<=n.val->ff m.val<=ff n.val:=by decide
 intro m n hm hn;exact h ⟨n,by omega⟩ ⟨m,by omega⟩ hm
theorem Nf:∀n d:Nat,0<d->d<=n->n<=10->d*ff (n-d)<=ff n:=by
 have h:∀n:Fin 11,∀d:Fin 11,0<d.val->d.val<=n.val->d.val*ff (n.val-d.val)<=ff n.val:=by decide
 intro n d h0 hd hn;exact h ⟨n,by omega⟩ ⟨d,by omega⟩ h0 hd
structure Full(r:Int->Int->Bool)(V:List Int)(s:List Int):Prop where
 up:s.Pairwise (· < ·)
 sub:∀x∈s,x∈V
 ind:∀x∈s,∀y∈s,x≠y->r x y=false
 max:∀v∈V,v∉s->∃x∈s,r x v=true
theorem vq(g:Int->Nat):∀V:List Int,V≠[]->∃v∈V,∀u∈V,g v<=g u
 |[],h=>absurd rfl h
 |[x],_=>⟨x,by simp,fun u hu=>by rw[eN.mp hu];exact bH _⟩
 |x::y::V,_=>by
  obtain⟨v,hv,hm⟩:=vq g (y::V) (by simp);by_cases c:g x<=g v
  ·refine⟨x,by simp,fun u hu=> ?_⟩;rcases cD.mp hu with e|e
   ·rw[e];exact bH _
   ·exact cC c (hm u e)
  ·refine⟨v,cP _ hv,fun u hu=> ?_⟩;rcases cD.mp hu with e|e
   ·rw[e];omega
   ·exact hm u e
theorem jt{α:Type}(p:α->Bool):∀l:List α,(l.filter p).length+(l.filter fun x=> !p x).length=l.length
 |[]=>rfl
 |x::l=>by
  have ih:=jt p l;rw[wV,wV];cases p x<;>simp <;>omega
theorem rP{α β:Type}(p:β->α->Bool)(m:Nat):∀(us:List β) (fs:List α),(∀s∈fs,∃u∈us,p u s=true)->(∀u∈us,∀gs:List α,gs.Sublist fs->(∀s∈gs,p u s=true)->gs.length<=m)->fs.length<=us.length*m
 |[],fs,h,_=>by
  cases fs with
  |nil=>simp
  |cons s fs=>obtain⟨u,hu,_⟩:=h s (by simp);cases hu
 |u::us,fs,h,hm=>by
  have e:=jt (p u) fs;have a:=hm u (by simp) (fs.filter (p u)) Oe (fun s hs=>(dY.mp hs).2);have b:=rP p m us (fs.filter fun x=> !p u x) (fun s hs=>by
   obtain⟨h1,h2⟩:=dY.mp hs;obtain⟨w,hw,hp⟩:=h s h1;rcases cD.mp hw with z|z
   ·rw[z]at hp;rw[hp]at h2;cases h2
   ·exact⟨w,z,hp⟩) (fun w hw gs hg hp=>hm w (cP _ hw) gs (hg.trans Oe) hp)
  rw[lO,Nat.succ_mul];omega
theorem zN:∀{xs ys:List Int},xs.Pairwise (· < ·)->ys.Pairwise (· < ·)->(∀k,k∈xs↔k∈ys)->xs=ys
 |[],[],_,_,_=>rfl
 |[],y::ys,_,_,h=>by have:=(h y).mpr (by simp);simp at this
 |x::xs,[],_,_,h=>by have:=(h x).mp (by simp);simp at this
 |x::xs,y::ys,hx,hy,h=>by
  rw[Yw]at hx hy;have e:x=y:=by
   have a:=(h x).mp (by simp);have b:=(h y).mpr (by simp);rcases cD.mp a with a|a
   ·exact a
   ·rcases cD.mp b with b|b
    ·exact b.symm
    ·have:=hy.1 x a;have:=hx.1 y b;omega
  subst e;rw[zN hx.2 hy.2 fun k=> ?_];constructor
  ·intro hk;rcases cD.mp ((h k).mp (cP _ hk))with a|a
   ·have:=hx.1 k hk;omega
   ·exact a
  ·intro hk;rcases cD.mp ((h k).mpr (cP _ hk))with a|a
   ·have:=hy.1 k hk;omega
   ·exact a
theorem lq{α β:Type}{g:α->β}:∀{l:List α},l.Nodup->(∀a∈l,∀b∈l,g a=g b->a=b)->(l.map g).Nodup
 |[],_,_=>Yh
 |a::l,h,hi=>by
  rw[Ef]at h;rw[jB,Ef];refine⟨fun hm=> ?_,lq h.2 fun x hx y hy=>hi x (cP _ hx) y (cP _ hy)⟩;obtain⟨b,hb,e⟩:=gH.mp hm;have:=hi b (cP _ hb) a (by simp) e;rw[this]at hb;exact h.1 hb
noncomputable def bK(r:Int->Int->Bool)(v u:Int):Bool:=decide (u=v)||r u v
theorem yL{r:Int->Int->Bool}(sym:∀i j,r i j=r j i):∀(n:Nat) (V:List Int),V.length=n->n<=10->∀fs:List (List Int),fs.Nodup->(∀s∈fs,Full r V s)->fs.length<=ff n:=by
 intro n
 induction n using Nat.strongRecOn with
 |ind n ih=>
  intro V hV hn fs nd hf;by_cases hz:V=[]
  ·have e:∀s∈fs,s=[]:=fun s hs=>by
    cases s with
    |nil=>rfl
    |cons x s=>have:=(hf _ hs).sub x (by simp);rw[hz]at this;cases this
   have l1:fs.length<=1:=by
    match fs,nd,e with
    |[],_,_=>simp
    |[_],_,_=>simp
    |a::b::fs,nd,e=>
     exfalso;rw[Ef]at nd;apply nd.1;rw[e a (by simp),e b (by simp)];simp
   have:1<=ff n:=by
    have:=sZ 0 n (gG _) hn;exact this
   omega
  obtain⟨v,hv,hmin⟩:=vq (fun u=>(V.filter (bK r u)).length) V hz;have key:=rP (fun(u:Int) (s:List Int)=>decide (u∈s)) (ff (n-(V.filter (bK r v)).length)) (V.filter (bK r v)) fs (fun s hs=> ?_) (fun u hu gs hg hp=> ?_)
  ·have hle:(V.filter (bK r v)).length<=n:=by rw[<-hV];exact wW _ _
   have hpos:0<(V.filter (bK r v)).length:=UG (dY.mpr ⟨hv,by unfold bK;simp⟩);exact cC key (Nf n _ hpos hle hn)
  ·by_cases c:v∈s
   ·exact⟨v,dY.mpr ⟨hv,by unfold bK;simp⟩,dF c⟩
   ·obtain⟨x,hx,hr⟩:=(hf s hs).max v hv c;exact⟨x,dY.mpr ⟨(hf s hs).sub x hx,by unfold bK;rw[hr];simp⟩,dF hx⟩
  ·have huV:u∈V:=(dY.mp hu).1;have fg:∀s∈gs,Full r V s/\u∈s:=fun s hs=>⟨hf s (hg.subset hs),qX (hp s hs)⟩;have hle:(V.filter (bK r u)).length<=n:=by rw[<-hV];exact wW _ _
   have hge:=hmin u huV;have hpos:0<(V.filter (bK r u)).length:=UG (dY.mpr ⟨huV,by unfold bK;simp⟩);have hV2:(V.filter fun x=> !bK r u x).length=n-(V.filter (bK r u)).length:=by have:=jt (bK r u) V;omega
   have xZ:∀(s:List Int) (x:Int),x∈s.filter (fun x=> !decide (x=u))↔x∈s/\x≠u:=fun s x=>by rw[dY];simp
   have h1:=ih (n-(V.filter (bK r u)).length) (by omega) (V.filter fun x=> !bK r u x) hV2 (by omega) (gs.map fun s=>s.filter fun x=> !decide (x=u)) (lq (nd.sublist hg) fun s hs t ht e=> ?_) (fun t ht=> ?_)
   ·rw[aM]at h1;exact cC h1 (sZ _ _ (by omega) (by omega))
   ·obtain⟨a1,a2⟩:=fg s hs;obtain⟨b1,b2⟩:=fg t ht;refine zN a1.up b1.up fun k=> ?_;have hk:k∈s.filter (fun x=> !decide (x=u))↔k∈t.filter (fun x=> !decide (x=u)):=by rw[show s.filter (fun x=> !decide (x=u))=t.filter (fun x=> !decide (x=u))from e]
    rw[xZ,xZ]at hk;by_cases c:k=u
    ·rw[c];exact⟨fun _=>b2,fun _=>a2⟩
    ·exact⟨fun z=>(hk.mp ⟨z,c⟩).1,fun z=>(hk.mpr ⟨z,c⟩).1⟩
   ·obtain⟨s,hs,rfl⟩:=gH.mp ht;obtain⟨a1,a2⟩:=fg s hs;refine⟨a1.up.sublist Oe,fun x hx=> ?_,fun x hx y hy=> ?_,fun w hw hn=> ?_⟩
    ·obtain⟨x1,x2⟩:=(xZ s x).mp hx;refine dY.mpr ⟨a1.sub x x1,?_⟩;unfold bK;rw[a1.ind x x1 u a2 x2,cI x2];rfl
    ·exact a1.ind x ((xZ s x).mp hx).1 y ((xZ s y).mp hy).1
    ·obtain⟨w1,w2⟩:=dY.mp hw;have w3:bK r u w=false:=by simpa using w2
     unfold bK at w3;rw[Bool.or_eq_false_iff]at w3;have wu:w≠u:=Yx w3.1;have ws:w∉s:=fun z=>hn ((xZ s w).mpr ⟨z,wu⟩);obtain⟨x,hx,hr⟩:=a1.max w w1 ws;have xu:x≠u:=fun z=>by rw[z,sym u w,w3.2]at hr;cases hr
     exact⟨x,(xZ s x).mpr ⟨hx,xu⟩,hr⟩
end Hs
namespace Hs
open PySem kj
noncomputable def rng(n:Nat):List Int:=(List.range n).map fun k=>((k:Nat):Int)
theorem Em{n:Nat}{x:Int}:x∈rng n↔0<=x/\x<(n:Int):=by
 unfold rng;rw[gH];constructor
 ·rintro⟨k,hk,rfl⟩;have:=wU.mp hk;omega
 ·rintro⟨h0,h1⟩;exact⟨x.toNat,wU.mpr (by omega),by omega⟩
theorem Ec(ts:L0)(i j:Int):bw ts i j=bw ts j i:=by unfold bw;rw[Bool.or_comm]
noncomputable def goB(ts:L0)(w:Bool)(s:List Int)(p:Int):Bool:=s.all fun q=>bw ts p q==w
noncomputable def bC(ts:L0)(w:Bool):Nat->List (List Int)
 |0=>[[]]
 |k+1=>bC ts w k++((bC ts w k).filter fun s=>goB ts w s (k:Int)).map fun s=>s++[(k:Int)]
noncomputable def iV(ts:L0)(w:Bool)(n:Nat)(s:List Int):Bool:= !((rng n).any fun p=> !decide (p∈s)&&goB ts w s p)
noncomputable def eZ(ts:L0)(w:Bool)(n:Nat):List (List Int):=(bC ts w n).filter (iV ts w n)
structure j4(ts:L0)(w:Bool)(k:Nat)(s:List Int):Prop where
 up:s.Pairwise (· < ·)
 lt:∀x∈s,0<=x/\x<(k:Int)
 all:∀x∈s,∀y∈s,x≠y->(bw ts x y==w)=true
theorem fJ{ts:L0}{w:Bool}:∀(k:Nat) (s:List Int),s∈bC ts w k->j4 ts w k s
 |0,s,h=>by
  rw[eN.mp (show s∈[[]]from h)];exact⟨List.Pairwise.nil,fun x hx=>(nomatch hx),fun x hx=>(nomatch hx)⟩
 |k+1,s,h=>by
  rcases fH.mp (show s∈bC ts w k++((bC ts w k).filter fun s=>goB ts w s (k:Int)).map fun s=>s++[(k:Int)]from h)with q|q
  ·have S:=fJ k s q;exact⟨S.up,fun x hx=>by have:=S.lt x hx;omega,S.all⟩
  ·obtain⟨t,ht,rfl⟩:=gH.mp q;obtain⟨t1,t2⟩:=dY.mp ht;have S:=fJ k t t1;have g:∀y∈t,(bw ts (k:Int) y==w)=true:=fun y hy=>iR.mp t2 y hy;refine⟨?_,fun x hx=> ?_,fun x hx y hy hne=> ?_⟩
   ·rw[Qi];refine⟨S.up,UJ _ _,fun x hx y hy=> ?_⟩;rw[eN.mp hy];exact(S.lt x hx).2
   ·rcases fH.mp hx with z|z
    ·have:=S.lt x z;omega
    ·rw[eN.mp z];omega
   ·rcases fH.mp hx with z|z
    ·rcases fH.mp hy with z'|z'
     ·exact S.all x z y z' hne
     ·rw[eN.mp z',Ec];exact g x z
    ·rw[eN.mp z]at hne⊢;rcases fH.mp hy with z'|z'
     ·exact g y z'
     ·exact absurd (eN.mp z').symm hne
theorem jh{ts:L0}{w:Bool}:∀k:Nat,(bC ts w k).Nodup
 |0=>by show([[]]:List (List Int)).Nodup;simp
 |k+1=>by
  show(bC ts w k++((bC ts w k).filter fun s=>goB ts w s (k:Int)).map fun s=>s++[(k:Int)]).Nodup;refine List.nodup_append.mpr ⟨jh k,lq ((jh k).filter _) (fun a _ b _ e=>List.append_cancel_right e),fun a ha b hb e=> ?_⟩;obtain⟨t,_,rfl⟩:=gH.mp hb;have:=(fJ k a ha).lt (k:Int) (by rw[e];simp);omega
theorem uL{ts:L0}{w:Bool}:∀k:Nat,(bC ts w k).length<=2^k
 |0=>bH _
 |k+1=>by
  show(bC ts w k++((bC ts w k).filter fun s=>goB ts w s (k:Int)).map fun s=>s++[(k:Int)]).length<=2^(k+1);rw[eO,aM,Yc];have a:=uL (ts:=ts) (w:=w) k;have b:=wW (fun s=>goB ts w s (k:Int)) (bC ts w k);omega
theorem Bb{ts:L0}{w:Bool}{n:Nat}{s:List Int}(h:s∈eZ ts w n):Full (fun i j=> !(bw ts i j==w)) (rng n) s:=by
 obtain⟨h1,h2⟩:=dY.mp h;have S:=fJ n s h1;refine⟨S.up,fun x hx=>Em.mpr (S.lt x hx),fun x hx y hy hne=>by rw[S.all x hx y hy hne];rfl,fun v hv hn=> ?_⟩;unfold iV at h2;apply Xd;intro hc;have h3:((rng n).any fun p=> !decide (p∈s)&&goB ts w s p)=false:=by simpa using h2
 rw[Qg]at h3;apply h3 v hv;rw[cI hn];show goB ts w s v=true;unfold goB;rw[iR];intro q hq;cases e:(bw ts v q==w)with
 |true=>rfl
 |false=>exact absurd ⟨q,hq,by show(!(bw ts q v==w))=true;rw[Ec,e];rfl⟩ hc
theorem Dg{ts:L0}{w:Bool}{n:Nat}(hn:n<=10):(eZ ts w n).length<=36:=by
 have h:=yL (r:=fun i j=> !(bw ts i j==w)) (fun i j=>by rw[Ec]) n (rng n) (by unfold rng;simp) hn (eZ ts w n) ((jh n).filter _) (fun s hs=>Bb hs);have:=sZ n 10 hn (bH _);exact cC h this
noncomputable def gD(ts:L0)(w:Bool)(n:Nat)(s:List Int):List Int:=(rng n).filter fun p=>s.all fun q=> !decide (p=q)&&(bw ts q p==w)
noncomputable def jT(ts:L0)(w:Bool)(n:Nat)(q:Int):List Int:=(rng n).filter fun p=> !decide (p=q)&&(bw ts q p==w)
theorem HS(ts:L0)(w:Bool)(n:Nat):gD ts w n []=rng n:=by unfold gD;exact Wq.mpr fun _ _=>rfl
theorem CJ(ts:L0)(w:Bool)(n:Nat)(s:List Int)(k:Int):gD ts w n (s++[k])=(gD ts w n s).filter fun p=>decide (p∈jT ts w n k):=by
 unfold gD;rw[List.filter_filter];refine List.filter_congr fun p hp=> ?_;rw[List.all_append,Bool.and_comm];congr 1;unfold jT;rw[qM,wZ,dY];simp[hp]
theorem Mv{ts:L0}{w:Bool}{n k:Nat}{s:List Int}(hs:j4 ts w k s)(hk:k<n):decide ((k:Int)∈gD ts w n s)=goB ts w s (k:Int):=by
 unfold gD goB;rw[qM,wZ,dY,iR,iR];constructor
 ·rintro⟨_,h⟩ q hq;have:=h q hq;rw[gU]at this;rw[Ec];exact this.2
 ·intro h;refine⟨Em.mpr ⟨by omega,by omega⟩,fun q hq=> ?_⟩;have:=(hs.lt q hq).2;rw[gU];refine⟨?_,by rw[Ec];exact h q hq⟩;rw[cI (by omega)];rfl
theorem CK(ts:L0)(w:Bool)(n:Nat)(s:List Int):decide (gD ts w n s=[])=iV ts w n s:=by
 unfold gD iV;rw[qM,wZ,List.filter_eq_nil_iff,Qu,Qg];constructor
 ·intro h p hp hc;rw[gU]at hc;apply h p hp;rw[iR];intro q hq;have h1:p∉s:=by simpa using hc.1
  have h2:=iR.mp hc.2 q hq;rw[gU];refine⟨?_,by rw[Ec];exact h2⟩;have ne:¬p=q:=fun e=>h1 (by rw[e];exact hq);rw[cI ne];rfl
 ·intro h p hp hc;apply h p hp;rw[iR]at hc;rw[gU];refine⟨?_,?_⟩
  ·have:p∉s:=fun z=>by
    have:=hc p z;simp at this
   rw[cI this];rfl
  ·unfold goB;rw[iR];intro q hq;have:=hc q hq;rw[gU]at this;rw[Ec];exact this.2
theorem dJ:∀{xs ys:List Int},xs.Pairwise (· < ·)->ys.Pairwise (· < ·)->(∀k,k∈xs↔k∈ys)->xs=ys
 |[],[],_,_,_=>rfl
 |[],y::ys,_,_,h=>by have:=(h y).mpr (by simp);simp at this
 |x::xs,[],_,_,h=>by have:=(h x).mp (by simp);simp at this
 |x::xs,y::ys,hx,hy,h=>by
  rw[Yw]at hx hy;have e:x=y:=by
   have a:=(h x).mp (by simp);have b:=(h y).mpr (by simp);rcases cD.mp a with a|a
   ·exact a
   ·rcases cD.mp b with b|b
    ·exact b.symm
    ·have:=hy.1 x a;have:=hx.1 y b;omega
  subst e;rw[dJ hx.2 hy.2 fun k=> ?_];constructor
  ·intro hk;rcases cD.mp ((h k).mp (cP _ hk))with a|a
   ·have:=hx.1 k hk;omega
   ·exact a
  ·intro hk;rcases cD.mp ((h k).mpr (cP _ hk))with a|a
   ·have:=hy.1 k hk;omega
   ·exact a
theorem jD{ts:L0}{w:Bool}:∀(k:Nat) (s:List Int),j4 ts w k s->s∈bC ts w k
 |0,s,h=>by
  cases s with
  |nil=>show([]:List Int)∈[[]];simp
  |cons x s=>have:=h.lt x (by simp);omega
 |k+1,s,h=>by
  show s∈bC ts w k++((bC ts w k).filter fun s=>goB ts w s (k:Int)).map fun s=>s++[(k:Int)];by_cases c:(k:Int)∈s
  ·have hm:∀x,x∈s.filter (fun x=> !decide (x=(k:Int)))↔x∈s/\x≠(k:Int):=fun x=>by rw[dY];simp
   refine jC _ (gH.mpr ⟨s.filter (fun x=> !decide (x=(k:Int))),dY.mpr ⟨jD k _ ⟨h.up.filter _,fun x hx=> ?_,fun x hx y hy hne=> ?_⟩,?_⟩,?_⟩)
   ·have a:=(hm x).mp hx;have b:=h.lt x a.1;have:=a.2;omega
   ·exact h.all x ((hm x).mp hx).1 y ((hm y).mp hy).1 hne
   ·unfold goB;rw[iR];intro q hq;have a:=(hm q).mp hq;exact h.all _ c q a.1 (fun e=>a.2 e.symm)
   ·refine dJ ?_ h.up fun x=> ?_
    ·rw[Qi];refine⟨h.up.filter _,UJ _ _,fun x hx y hy=> ?_⟩;rw[eN.mp hy];have a:=(hm x).mp hx;have b:=h.lt x a.1;have:=a.2;omega
    ·rw[fH,hm,eN];constructor
     ·rintro(a|a)
      ·exact a.1
      ·rw[a];exact c
     ·intro a;by_cases e:x=(k:Int)
      ·exact .inr e
      ·exact .inl ⟨a,e⟩
  ·refine Qj _ (jD k s ⟨h.up,fun x hx=> ?_,h.all⟩);have b:=h.lt x hx;have:x≠(k:Int):=fun e=>c (by rw[<-e];exact hx);omega
theorem j4.of{ts:L0}{w:Bool}{n:Nat}{s:List Int}(F:Full (fun i j=> !(bw ts i j==w)) (rng n) s):j4 ts w n s:=
 ⟨F.up,fun x hx=>Em.mp (F.sub x hx),fun x hx y hy hne=>by
  have:=F.ind x hx y hy hne
  try dsimp only at this
  cases e:(bw ts x y==w)with
  |true=>rfl
  |false=>rw[e]at this;cases this⟩
theorem M9{ts:L0}{w:Bool}{n:Nat}{s:List Int}(F:Full (fun i j=> !(bw ts i j==w)) (rng n) s):s∈eZ ts w n:=by
 refine dY.mpr ⟨jD n s (j4.of F),?_⟩;unfold iV;rw[Qu,Qg];intro p hp hc;rw[gU]at hc;have hn:p∉s:=by simpa using hc.1
 obtain⟨x,hx,hr⟩:=F.max p hp hn;have:=iR.mp hc.2 x hx
 try dsimp only at hr this
 rw[Ec,this]at hr;cases hr
theorem qY{so:Int->Int->Bool}{m:Int}{i j:Int}(h0:0<=i)(h1:i<j)(h2:j<m):bw (rows so m m.toNat) i j=so i j:=by
 unfold bw;have a:decide ((j,i)∈rows so m m.toNat)=false:=cI fun z=>by
  rw[JK]at z;have:=z.2.2.1
  try dsimp only at this
  omega
 rw[a,Bool.or_false,qM,wZ,JK];constructor
 ·exact fun z=>z.2.2.2.2
 ·intro z;exact⟨h0,by show i<_;omega,h1,h2,z⟩
theorem Am{α:Type}(g:α->Nat):∀V:List α,V≠[]->∃v∈V,∀u∈V,g u<=g v
 |[],h=>absurd rfl h
 |[x],_=>⟨x,by simp,fun u hu=>by rw[eN.mp hu];exact bH _⟩
 |x::y::V,_=>by
  obtain⟨v,hv,hm⟩:=Am g (y::V) (by simp);by_cases c:g v<=g x
  ·refine⟨x,by simp,fun u hu=> ?_⟩;rcases cD.mp hu with e|e
   ·rw[e];exact bH _
   ·exact cC (hm u e) c
  ·refine⟨v,cP _ hv,fun u hu=> ?_⟩;rcases cD.mp hu with e|e
   ·rw[e];omega
   ·exact hm u e
theorem Ji{ts:L0}{w:Bool}{n:Nat}{s:List Int}(hs:j4 ts w n s):∃t∈eZ ts w n,∀x∈s,x∈t:=by
 let C:=(bC ts w n).filter fun t=>s.all fun x=>decide (x∈t);have mC:∀t,t∈C↔t∈bC ts w n/\∀x∈s,x∈t:=fun t=>by
  show t∈(bC ts w n).filter _↔_;rw[dY,iR];simp
 have hne:C≠[]:=fun e=>by
  have:s∈C:=(mC s).mpr ⟨jD n s hs,fun x hx=>hx⟩;rw[e]at this;cases this
 obtain⟨t,ht,hm⟩:=Am List.length C hne;obtain⟨h1,h2⟩:=(mC t).mp ht;have T:=fJ n t h1;refine⟨t,M9 ⟨T.up,fun x hx=>Em.mpr (T.lt x hx),fun x hx y hy hne=> ?_,fun v hv hn=> ?_⟩,h2⟩
 ·show(!(bw ts x y==w))=false;rw[T.all x hx y hy hne];rfl
 ·apply Xd;intro hc;have go:∀x∈t,(bw ts x v==w)=true:=fun x hx=>by
   cases e:(bw ts x v==w)with
   |true=>rfl
   |false=>exact absurd ⟨x,hx,by show(!(bw ts x v==w))=true;rw[e];rfl⟩ hc
  have mU:∀x,x∈(rng n).filter (fun x=>decide (x∈t)||decide (x=v))↔x∈t\/x=v:=fun x=>by
   rw[dY,Bool.or_eq_true,wZ,wZ];constructor
   ·exact fun z=>z.2
   ·rintro(z|z)
    ·exact⟨Em.mpr (T.lt x z),.inl z⟩
    ·exact⟨by rw[z];exact hv,.inr z⟩
  have up:((rng n).filter (fun x=>decide (x∈t)||decide (x=v))).Pairwise (· < ·):=by
   refine YG _ ?_;unfold rng;rw[Er];exact Tp.imp fun{a b} h=>by omega
  have U:j4 ts w n ((rng n).filter (fun x=>decide (x∈t)||decide (x=v))):=⟨up,fun x hx=>Em.mp (dY.mp hx).1,fun x hx y hy hne=>by
   rcases(mU x).mp hx with a|a
   ·rcases(mU y).mp hy with b|b
    ·exact T.all x a y b hne
    ·rw[b];exact go x a
   ·rcases(mU y).mp hy with b|b
    ·rw[a,Ec];exact go y b
    ·exact absurd (a.trans b.symm) hne⟩
  have inC:=(mC _).mpr ⟨jD n _ U,fun x hx=>(mU x).mpr (.inl (h2 x hx))⟩;have l1:=hm _ inC;have l2:=eY (l:=v::t) (m:=(rng n).filter (fun x=>decide (x∈t)||decide (x=v))) (Ef.mpr ⟨hn,T.up.imp fun{a b} h=>by omega⟩) (fun x hx=>by
   rcases cD.mp hx with z|z
   ·exact(mU x).mpr (.inr z)
   ·exact(mU x).mpr (.inl z))
  rw[lO]at l2;omega
theorem getD_at{xs:List Int}{i:Int}(h0:0<=i)(h1:i<(xs.length:Int)):xs.getD i.toNat 0∈xs:=by
 have hk:i.toNat<xs.length:=by omega
 rw[qG,jc hk];exact Bm hk
theorem iC{xs:List Int}(hs:xs.Pairwise (· < ·)){i j:Int}(h0:0<=i)(h1:i<j)(h2:j<(xs.length:Int)):xs.getD i.toNat 0<xs.getD j.toNat 0:=by
 have g:∀j,(hj:j<xs.length)->xs.getD j 0=xs[j]:=fun j hj=>by rw[qG,jc hj];rfl
 have hl:=Qk.mp hs i.toNat j.toNat (by omega) (by omega) (by omega);rw[<-g i.toNat (by omega),<-g j.toNat (by omega)]at hl;exact hl
theorem Nj{n:Int}{ts:L0}{w:Bool}{xs s:List Int}(ht:bV n ts)(hok:cJ n xs)(h0:0<=n)(h:j4 (rows (Af xs ts) (xs.length:Int) (xs.length:Int).toNat) w xs.length s):j4 ts w n.toNat (s.map fun i=>xs.getD i.toNat 0):=by
 have key:∀i j:Int,0<=i->i<j->j<(xs.length:Int)->bw (rows (Af xs ts) (xs.length:Int) (xs.length:Int).toNat) i j=bw ts (xs.getD i.toNat 0) (xs.getD j.toNat 0):=fun i j a b c=>by
  rw[qY a b c];unfold Af;rw[tied_eq ht]
 refine⟨?_,fun x hx=> ?_,fun x hx y hy hne=> ?_⟩
 ·rw[Er];refine Xb (fun{a b} ha hb hab=> ?_) h.up;exact iC hok.Fj (h.lt a ha).1 hab (h.lt b hb).2
 ·obtain⟨i,hi,rfl⟩:=gH.mp hx;have:=hok.lt _ (getD_at (h.lt i hi).1 (h.lt i hi).2);omega
 ·obtain⟨i,hi,rfl⟩:=gH.mp hx;obtain⟨j,hj,rfl⟩:=gH.mp hy;have ne:i≠j:=fun e=>hne (by rw[e]);have a:=h.all i hi j hj ne;rcases Int.lt_or_lt_of_ne ne with c|c
  ·rw[key i j (h.lt i hi).1 c (h.lt j hj).2]at a;exact a
  ·rw[Ec,key j i (h.lt j hj).1 c (h.lt i hi).2,Ec]at a;exact a
end Hs
namespace Hs
open PySem L2 kj
section
variable{P:ξ}{w:τ}{K:W.Frag}{mg:L5}{base:Heap}
theorem blV_eq(a b:Bool):decide (V.bl a=V.bl b)=(a==b):=by cases a<;>cases b<;>rfl
theorem intV_eq(a b:Int):decide (V.int a=V.int b)=decide (a=b):=by
 by_cases e:a=b
 ·subst e;simp
 ·rw[cI e,cI (by intro z;injection z with z;exact e z)]
theorem Mu{a b:Int}:(!decide (V.int a=V.int b))= !decide (a=b):=by rw[intV_eq]
theorem any_ints(xs:List Int)(k:Int):((xs.map PyData.int).any fun d=>PyData.eqv d (.int k))=decide (k∈xs):=by
 induction xs with
 |nil=>simp
 |cons x xs ih=>
  rw[jB,N8,ih];have e:PyData.eqv (.int x) (.int k)=decide (k=x):=by
   show(x==k)=_;rw[qM];simp;exact⟨fun h=>h.symm,fun h=>h.symm⟩
  rw[e,qM];simp
theorem Wj{α:Type}{p:α->Bool}{l:List α}{i:Nat}(hi:i<l.length):(l.take (i+1)).filter p=(l.take i).filter p++(if p l[i]=true then[l[i]]else[]):=by
 rw[zF,jc hi,Oc];congr 1;show[l[i]].filter p=_;rw[wV];rfl
theorem uM(k:Nat):rng (k+1)=rng k++[(k:Int)]:=by unfold rng;rw[Qd,cg];rfl
theorem uE(n:Nat):gK n=(rng n).map V.int:=by unfold gK rng;rw[ux];rfl
noncomputable def uH(K:W.Frag):Sp:=fun vs H Q _=>∃(l m:Addr) (xs ys:List Int),vs=[.ref l,.ref m]/\SqL K H l (xs.map V.int)/\SqL K H m (ys.map V.int)/\∀r H',Same H H'->H' r=some (.lst ((xs.filter fun p=>decide (p∈ys)).map V.int))->H r=none->Q (.ref r) H'
theorem Cm{f:Addr}{fd:ρ}(F:Fun K "in_both" "in_both" kY f fd):
  FnOk P w K mg base CX0 1 f fd ["ones","others"] (uH K):=by
 refine F.cM ["ones","others"] fun cdv A outer s H vs Q E hr h=> ?_;obtain⟨l,m,xs,ys,rfl,hL,hM,q⟩:=h;refine⟨_,(aQ (bW (pK ["place"] ["others"] [1] (Bl (pv 0)) (pG 0) (cW (dW (nW K hr.units) (pv 0) (pv 1) (by with_unfolding_all rfl))) (pv 0)))),?_⟩;refine⟨_,rfl,l,_,rfl,hL,fun hz=> ?_⟩;refine PX (xs:=xs.map V.int) (fun k acc σ H'=>acc=((xs.take k).filter fun p=>decide (p∈ys)).map V.int/\Same H H'/\∃o,σ=[o,some (.ref m)]) ⟨rfl,Same.refl _,_,rfl⟩ (fun k acc σ H' _ p=>p.2.1.seq hL) (fun k acc σ H' hk p=> ?_) hz (fun k x acc σ H' hx p=> ?_) (fun acc σ H' p=> ?_)
 ·rw[p.1,aM];exact cC (wW _ _) (by rw[qU];exact Kl _ _)
 ·obtain⟨rfl,sm,o,rfl⟩:=p;rw[dD]at hx;cases ex:xs[k]? with
  |none=>rw[ex]at hx;cases hx
  |some y=>
   rw[ex]at hx;cases hx;obtain⟨hk,ey⟩:=qW.mp ex;have e:=Wj (p:=fun p=>decide (p∈ys)) hk;rw[ey]at e;refine⟨_,rfl,_,rfl,m,_,_,.int y,rfl,.inl (sm.seq hM),bB.ints ys,.int _,NZ ys,rfl,(by show 0<=60;decide),_,rfl,?_⟩;rw[any_ints];refine ite2 (fun c=> ?_) (fun c=> ?_)
   ·exact⟨_,rfl,by rw[e,aL c,cg];rfl,sm,_,rfl⟩
   ·exact⟨by rw[e,aJ c,qT],sm,_,rfl⟩
 ·intro p1 hp1;obtain⟨rfl,sm,_⟩:=p;rw[aM,uy];exact q p1 _ (sm.trans (aZ hp1 _)) aG (sm.free hp1)
noncomputable def Ad(K:W.Frag):Sp:=fun vs H Q _=>∃(a:Addr) (n i:Int) (ts:L0) (w:Bool),vs=[.ref a,.int i,.bl w]/\aF K H a n ts/\∀r H',Same H H'->H' r=some (.lst ((jT ts w n.toNat i).map V.int))->H r=none->Q (.ref r) H'
theorem Hg{f f1:Addr}{fd d1:ρ}(F:Fun K "places_by_tie" "places_by_tie" XJ f fd)(D1:bF K mg "has_tie" P0 ["web","one","other"] f1 d1)(G1:FnOk P w K mg base CX0 1 f1 d1 ["web","one","other"] (lU K))(au:mg "range"=none):
  FnOk P w K mg base CX0 2 f fd ["web","place","tied"] (Ad K):=by
 refine F.cM ["web","place","tied"] fun cdv A outer s H vs Q E hr h=> ?_;obtain⟨a,n,i,ts,w,rfl,hA,q⟩:=h;refine⟨_,(aQ (bW (pK ["other"] ["place","web","tied"] [1,0,2] (rY rfl au (aj (bY gF (pv 0) aK) ak)) (pG 0) (cW (PW.pt (pw_and (dW op_ne (pv 0) (pv 1)) (pw_and1 (dW op_eq (pc G1 hr D1 (aj (pv 2) (aj (pv 1) (aj (pv 0) ak)))) (pv 3)))))) (pv 0)))),?_⟩;have h0:=hA.h0;have h10:=hA.h1;obtain⟨ta,ra,a1,a2,a3⟩:=id hA.web;refine⟨_,rfl,a,_,_,.int n,rfl,rfl,a1,rfl,n,rfl,by omega,by omega,?_⟩;refine wO (n:=n.toNat) (fun k acc σ H'=>acc=((rng k).filter fun p=> !decide (p=i)&&(bw ts i p==w)).map V.int/\Same H H'/\∃o,σ=[o,some (.int i),some (.ref a),some (.bl w)]) ⟨rfl,Same.refl _,_,rfl⟩ (fun k acc σ H' hk p=> ?_) (by rw[cY];omega) (fun k acc σ H' hk p=> ?_) (fun acc σ H' p=> ?_)
 ·rw[p.1,aM];exact cC (wW _ _) (by unfold rng;simp)
 ·obtain⟨rfl,sm,o,rfl⟩:=p;have ek:(0+(k:Int))=(k:Int):=by omega
  rw[ek];have e:∀b,b=(!decide ((k:Int)=i)&&(bw ts i (k:Int)==w))->((rng (k+1)).filter fun p=> !decide (p=i)&&(bw ts i p==w))=((rng k).filter fun p=> !decide (p=i)&&(bw ts i p==w))++(if b=true then[(k:Int)]else[]):=fun b hb=>by
   rw[uM,Oc,wV,hb];rfl
  refine⟨_,rfl,_,rfl,rfl,_,rfl,?_⟩;rw[Mu];refine ite2 (fun c=> ?_) (fun c=> ?_)
  ·refine⟨_,rfl,_,rfl,_,rfl,a,n,_,_,ts,rfl,(hA.same sm).web,fun H5 s5=>⟨_,rfl,rfl,_,rfl,?_⟩⟩;rw[blV_eq,tied_eq hA.pk];refine ite2 (fun c2=> ?_) (fun c2=> ?_)
   ·exact⟨_,rfl,by rw[e true (by rw[c,c2];rfl),cg];rfl,sm.trans s5,_,rfl⟩
   ·exact⟨by rw[e false (by rw[c,Bool.eq_false_iff.mpr c2];rfl)];simp,sm.trans s5,_,rfl⟩
  ·exact⟨by rw[e false (by rw[Bool.eq_false_iff.mpr c];rfl)];simp,sm,_,rfl⟩
 ·intro p1 hp1;obtain⟨rfl,sm,_⟩:=p;exact q p1 _ (sm.trans (aZ hp1 _)) aG (sm.free hp1)
noncomputable def cQ(K:W.Frag)(H:Hp)(r:Addr)(ss:List (List Int)):Prop:=∃its:List (Addr×List Int),H r=some (.lst (its.map fun p=>V.ref p.1))/\(∀p∈its,SqT K H p.1 (p.2.map V.int))/\its.map (fun p=>p.2)=ss
theorem cQ.same{H H':Hp}{r:Addr}{ss:List (List Int)}(h:cQ K H r ss)(e:Same H H'):cQ K H' r ss:=by
 obtain⟨its,h1,h2,h3⟩:=h;exact⟨its,e _ _ h1,fun p hp=>e.tup (h2 p hp),h3⟩
noncomputable def nZ(ss:List (List Int))(ts:L0)(w:Bool)(n:Nat):Prop:=ss.Perm (eZ ts w n)/\ss.Pairwise fun a b=>HT.lexLt b a=false
theorem M8{ts:L0}{w:Bool}{n:Nat}(h2:2<=(eZ ts w n).length):∀s∈eZ ts w n,s≠[]:=by
 intro s hs e;subst e;have F:=Bb hs;cases n with
 |zero=>
  have:(eZ ts w 0).length<=1:=by
   show(([[]]:List (List Int)).filter (iV ts w 0)).length<=1;exact wW _ _
  omega
 |succ n=>
  obtain⟨x,hx,_⟩:=F.max 0 (Em.mpr ⟨by omega,by omega⟩) (by simp);cases hx
structure Wf(K:W.Frag)(H:Hp)(ts:L0)(w:Bool)(n:Nat)(q:Addr×Addr×Addr×List Int):Prop where
 pr:SqT K H q.1 [.ref q.2.1,.ref q.2.2.1]
 so:SqT K H q.2.1 (q.2.2.2.map V.int)
 le:H q.2.2.1=some (.lst ((gD ts w n q.2.2.2).map V.int))
theorem Wf.same{H H':Hp}{ts:L0}{w:Bool}{n:Nat}{q:Addr×Addr×Addr×List Int}(h:Wf K H ts w n q)(e:Same H H'):Wf K H' ts w n q:=⟨e.tup h.pr,e.tup h.so,e _ _ h.le⟩
noncomputable def JD(K:W.Frag)(H:Hp)(fd:Addr)(ts:L0)(w:Bool)(n:Nat)(ss:List (List Int)):Prop:=∃its:List (Addr×Addr×Addr×List Int),H fd=some (.lst (its.map fun q=>V.ref q.1))/\(∀q∈its,Wf K H ts w n q)/\its.map (fun q=>q.2.2.2)=ss
noncomputable def oW(K:W.Frag):Sp:=fun vs H Q _=>∃(fl:Addr) (fas:List Addr) (ts:L0) (w:Bool) (n:Nat),vs=[.ref fl]/\H fl=some (.lst (fas.map V.ref))/\fas.length=n/\n<=10/\(∀(i:Nat) f,fas[i]? =some f->H f=some (.lst ((jT ts w n (i:Int)).map V.int)))/\
 ∀r ss H',Same H H'->cQ K H' r ss->nZ ss ts w n->H r=none->Q (.ref r) H'
theorem u6{f f1:Addr}{fd d1:ρ}(F:Fun K "full_sets" "full_sets" gY f fd)(D1:bF K mg "in_both" kY ["ones","others"] f1 d1)(G1:FnOk P w K mg base CX0 1 f1 d1 ["ones","others"] (uH K))(yd:mg "list"=none)(au:mg "range"=none)(aU:mg "len"=none)(ig:mg "sorted"=none):
  FnOk P w K mg base CX0 2 f fd ["friends"] (oW K):=by
 refine F.cM ["friends","found","place","wider"] fun cdv A outer s H vs Q E hr h=> ?_;obtain⟨fl,fas,ts,w,n,rfl,hF,hn,h10,hfr,q⟩:=h;refine⟨_,(aR (pS 1 (nJ (aj (cA (aj (cA ak) (aj (uX rfl rfl yd rfl au (aj (pB nO aU (aj (pv 0) ak)) ak)) ak))) ak))) (aR (rR qL rfl (rY rfl au (aj (pB nO aU (aj (pv 0) ak)) ak)) (pG 2) (aR (pX 3 ["some","left"] ["place","friends"] [2,0] (Bl (pv 1)) (gj K (n:=2) rfl (nM (pG 0) (nM (pG 1) Ea))) (cW (dW (nW K hr.units) (pv 2) (pv 1) (by with_unfolding_all rfl))) (cA (aj (bM (GF K) (pv 0) (cA (aj (pv 2) ak))) (aj (pc G1 hr D1 (aj (pv 1) (aj (bY (vD K) (pv 3) (pv 2)) ak))) ak)))) (aQ (pS 1 (bM op_cat (pv 1) (pv 3)))))) (aQ (bW (pB tO ig (aj (pK ["some","left"] [] [] (Bl (pv 1)) (gj K (n:=2) rfl (nM (pG 0) (nM (pG 1) Ea))) (cW (ur (kZ K (pv 1) (fun _=>rfl)))) (pv 0)) ak)))))),?_⟩;have el:((fas.map V.ref).length:Int)=(n:Int):=by rw[aM,hn]
 refine⟨(by show 0<=sizeLine;decide),fun e1 T9=> ?_⟩;have s1:=aZ T9 (.tup []);have t1:SqT K (upd H e1 (.tup [])) e1 []:=SqT.of aG;generalize (upd H e1 (.tup []))=H1 at *;refine⟨_,rfl,fl,_,rfl,.inl (SqL.of (s1 _ _ hF)),fun _=>⟨_,rfl,by omega,by rw[el];omega,fun rl hrl=> ?_⟩⟩;have er:gK ((fas.map V.ref).length:Int).toNat=(rng n).map V.int:=by rw[el,Uw,uE]
 rw[er];have s2:=aZ hrl (.lst ((rng n).map V.int));have t2:(upd H1 rl (.lst ((rng n).map V.int))) rl=some (.lst ((rng n).map V.int)):=aG;generalize (upd H1 rl (.lst ((rng n).map V.int)))=H2 at *;refine⟨(by show 2<=sizeLine;decide),fun e3 he3=> ?_⟩;have s3:=aZ he3 (.tup [.ref e1,.ref rl]);have t3:SqT K (upd H2 e3 (.tup [.ref e1,.ref rl])) e3 [.ref e1,.ref rl]:=SqT.of aG;generalize (upd H2 e3 (.tup [.ref e1,.ref rl]))=H3 at *;refine⟨(by show 1<=sizeLine;decide),fun fd hfd=> ?_⟩;have s4:=aZ hfd (.lst [.ref e3]);have F4:JD K (upd H3 fd (.lst [.ref e3])) fd ts w n (bC ts w 0):=by
  refine⟨[(e3,e1,rl,[])],aG,fun q hq=> ?_,rfl⟩;rw[eN.mp hq];exact⟨s4.tup t3,s4.tup (s3.tup (s2.tup t1)),by rw[HS];exact s4 _ _ (s3 _ _ t2)⟩
 have s04:=s1.trans (s2.trans (s3.trans s4));generalize (upd H3 fd (.lst [.ref e3]))=H4 at *;refine⟨_,rfl,fl,_,rfl,.inl (SqL.of (s04 _ _ hF)),fun _=>⟨_,rfl,by omega,by rw[el];omega,?_⟩⟩;have en:((fas.map V.ref).length:Int).toNat=n:=by rw[el,Uw]
 rw[en];refine Kh (n:=n) (fun k σ H'=>Same H H'/\∃fd b2 b3,JD K H' fd ts w n (bC ts w k)/\σ=[some (.ref fl),some (.ref fd),b2,b3]) ⟨s04,fd,_,_,F4,rfl⟩ (fun k σ H' hk p=> ?_) (fun σ H' p=> ?_)
 ·obtain⟨s5,fd,b2,b3,F5,rfl⟩:=p;have ek:(0+(k:Int))=(k:Int):=by omega
  rw[ek];obtain⟨its,f1,f2,f3⟩:=F5;have hlen:its.length<=1024:=by
   have a:=uL (ts:=ts) (w:=w) k;rw[<-f3,aM]at a;have b:2^k<=2^10:=Nat.pow_le_pow_right (by decide) (by omega);have c:2^10=1024:=by decide
   omega
  have hkf:k<fas.length:=by omega
  have hfk:(fas.map V.ref)[k]? =some (.ref fas[k]):=by rw[dD,jc hkf];rfl
  have hgk:=hfr k fas[k] (jc hkf);refine⟨_,rfl,fd,_,rfl,SqL.of f1,fun Zr=> ?_⟩;refine PX (xs:=its.map fun q=>V.ref q.1) (fun i acc σ Bj=>(∃its2:List (Addr×Addr×Addr×List Int),acc=its2.map (fun q=>V.ref q.1)/\(∀q∈its2,Wf K Bj ts w n q)/\its2.map (fun q=>q.2.2.2)=(((bC ts w k).take i).filter fun s=>goB ts w s (k:Int)).map fun s=>s++[(k:Int)])/\Same H' Bj/\∃o1 o2,σ=[o1,o2,some (.int (k:Int)),some (.ref fl)]) ⟨⟨[],rfl,fun q hq=>(nomatch hq),rfl⟩,Same.refl _,_,_,rfl⟩ (fun i acc σ Bj _ p=>p.2.1.seq (SqL.of f1)) (fun i acc σ Bj hi p=> ?_) Zr (fun i x acc σ Bj hx p=> ?_) (fun acc σ Bj p=> ?_)
  ·obtain⟨⟨its2,rfl,g2,g3⟩,_⟩:=p;have a:=iy List.length g3;rw[aM,aM]at a;rw[aM,a];exact cC (wW _ _) (by rw[qU];exact Kl _ _)
  ·obtain⟨⟨its2,rfl,g2,g3⟩,sm,o1,o2,rfl⟩:=p;rw[dD]at hx;cases ex:its[i]? with
   |none=>rw[ex]at hx;cases hx
   |some v=>
    rw[ex]at hx;cases hx;have fv:=(f2 v (nP ex)).same sm;have hsv:(bC ts w k)[i]? =some v.2.2.2:=by rw[<-f3,dD,ex];rfl
    obtain⟨hi,Z2⟩:=qW.mp hsv;have Sv:=fJ k v.2.2.2 (nP hsv);have e:=Wj (p:=fun s=>goB ts w s (k:Int)) hi;rw[Z2]at e;refine⟨v.1,_,rfl,fv.pr,rfl,_,_,rfl,_,_,rfl,rfl,?_⟩;refine⟨_,rfl,_,rfl,v.2.2.1,_,_,.int (k:Int),rfl,.inl (SqL.of fv.le),bB.ints _,.int _,NZ _,rfl,(by show 0<=60;decide),_,rfl,?_⟩;rw[any_ints,Mv Sv hk];refine ite2 (fun c=> ?_) (fun c=> ?_)
    ·refine⟨_,rfl,_,rfl,(by show 1<=sizeLine;decide),fun e5 he5=> ?_⟩;have s6:=aZ he5 (.tup [.int (k:Int)]);have t6:SqT K (upd Bj e5 (.tup [.int (k:Int)])) e5 [.int (k:Int)]:=SqT.of aG;generalize (upd Bj e5 (.tup [.int (k:Int)]))=H6 at *;have hvl:v.2.2.2.length<=10:=by
      have a:=eY (l:=v.2.2.2) (m:=rng n) (Sv.up.imp fun{x y} h=>by omega) (fun x hx=>Em.mpr (by have:=Sv.lt x hx;omega));have b:(rng n).length=n:=by unfold rng;simp
      omega
     refine⟨v.2.1,e5,_,_,rfl,rfl,s6.tup fv.so,t6,(by rw[aM,cY];show v.2.2.2.length+1<=_;omega),fun r7 H7 s7 h7=> ?_⟩;have QH:=s6.trans s7;refine⟨_,rfl,_,rfl,_,rfl,fl,_,_,.ref fas[k],rfl,rfl,SqL.of ((s5.trans (sm.trans QH)) _ _ hF),atI_nat hfk,v.2.2.1,fas[k],_,_,rfl,SqL.of (QH _ _ fv.le),SqL.of ((s5.trans (sm.trans QH)) _ _ hgk),fun r8 H8 s8 h8 n8=> ?_⟩;refine⟨(by show 2<=sizeLine;decide),fun e9 he9=> ?_⟩;have s9:=aZ he9 (.tup [.ref r7,.ref r8]);have s69:=QH.trans (s8.trans s9);refine⟨⟨its2++[(e9,r7,r8,v.2.2.2++[(k:Int)])],by rw[cg];rfl,fun q hq=> ?_,by rw[cg,g3,e,aL c,cg];rfl⟩,sm.trans s69,_,_,rfl⟩;rcases fH.mp hq with z|z
     ·exact(g2 q z).same s69
     ·rw[eN.mp z];refine⟨SqT.of aG,s9.tup (s8.tup ?_),by rw[CJ];exact s9 _ _ h8⟩;rw[cg];exact h7
    ·exact⟨⟨its2,rfl,g2,by rw[g3,e,aJ c,qT]⟩,sm,_,_,rfl⟩
  ·intro p1 hp1;obtain⟨⟨its2,rfl,g2,g3⟩,sm,o1,o2,rfl⟩:=p;have hle:(its.map fun q=>V.ref q.1).length=(bC ts w k).length:=by rw[aM,<-f3,aM]
   rw[hle,uy]at g3;have s6:=aZ hp1 (.lst (its2.map fun q=>V.ref q.1));have l2:its2.length<=1024:=by
    have a:=iy List.length g3;rw[aM,aM]at a;have b:=wW (fun s=>goB ts w s (k:Int)) (bC ts w k);rw[<-f3,aM]at b;rw[<-f3]at a;omega
   refine⟨_,rfl,_,rfl,fd,p1,_,_,rfl,rfl,(sm.trans s6) _ _ f1,aG,by rw[aM,aM,cY];omega,fun p2 hp2=> ?_⟩;have s7:=aZ hp2 (.lst ((its.map fun q=>V.ref q.1)++(its2.map fun q=>V.ref q.1)));refine⟨s5.trans (sm.trans (s6.trans s7)),p2,_,_,⟨its++its2,by rw[aG,cg],fun q hq=> ?_,by rw[cg,f3,g3];rfl⟩,rfl⟩;rcases fH.mp hq with z|z
   ·exact(f2 q z).same (sm.trans (s6.trans s7))
   ·exact(g2 q z).same (s6.trans s7)
 ·obtain⟨s5,fd,b2,b3,⟨its,f1,f2,f3⟩,rfl⟩:=p;refine⟨_,rfl,fd,_,rfl,SqL.of f1,fun Zr=> ?_⟩;refine PX (xs:=its.map fun q=>V.ref q.1) (fun i acc σ Bj=>(∃its2:List (Addr×List Int),acc=its2.map (fun q=>V.ref q.1)/\(∀q∈its2,SqT K H' q.1 (q.2.map V.int))/\its2.map (fun q=>q.2)=((bC ts w n).take i).filter (iV ts w n))/\Same H' Bj/\∃o1 o2,σ=[o1,o2]) ⟨⟨[],rfl,fun q hq=>(nomatch hq),rfl⟩,Same.refl _,_,_,rfl⟩ (fun i acc σ Bj _ p=>p.2.1.seq (SqL.of f1)) (fun i acc σ Bj hi p=> ?_) Zr (fun i x acc σ Bj hx p=> ?_) (fun acc σ Bj p=> ?_)
  ·obtain⟨⟨its2,rfl,g2,g3⟩,_⟩:=p;have a:=iy List.length g3;rw[aM]at a;rw[aM,a];exact cC (wW _ _) (by rw[qU];exact Kl _ _)
  ·obtain⟨⟨its2,rfl,g2,g3⟩,sm,o1,o2,rfl⟩:=p;rw[dD]at hx;cases ex:its[i]? with
   |none=>rw[ex]at hx;cases hx
   |some v=>
    rw[ex]at hx;cases hx;have fv:=f2 v (nP ex);have hsv:(bC ts w n)[i]? =some v.2.2.2:=by rw[<-f3,dD,ex];rfl
    obtain⟨hi,Z2⟩:=qW.mp hsv;have e:=Wj (p:=iV ts w n) hi;rw[Z2]at e;refine⟨v.1,_,rfl,sm.tup fv.pr,rfl,_,_,rfl,_,_,rfl,rfl,?_⟩;refine⟨_,rfl,_,.inl ⟨_,SqL.of (sm _ _ fv.le),rfl⟩,?_⟩;have eb:(!!((gD ts w n v.2.2.2).map V.int).isEmpty)=iV ts w n v.2.2.2:=by
     rw[Bool.not_not,<-CK];cases gD ts w n v.2.2.2<;>rfl
    dsimp only;rw[eb];refine ite2 (fun c=> ?_) (fun c=> ?_)
    ·refine⟨_,rfl,⟨its2++[(v.2.1,v.2.2.2)],by rw[cg];rfl,fun q hq=> ?_,by rw[cg,g3,e,aL c];rfl⟩,sm,_,_,rfl⟩;rcases fH.mp hq with z|z
     ·exact g2 q z
     ·rw[eN.mp z];exact fv.so
    ·exact⟨⟨its2,rfl,g2,by rw[g3,e,aJ c,qT]⟩,sm,_,_,rfl⟩
  ·intro p1 hp1;obtain⟨⟨its2,rfl,g2,g3⟩,sm,_⟩:=p;have hle:(its.map fun q=>V.ref q.1).length=(bC ts w n).length:=by rw[aM,<-f3,aM]
   rw[hle,uy]at g3;have g4:its2.map (fun q=>q.2)=eZ ts w n:=g3;have hl2:its2.length=(eZ ts w n).length:=by rw[<-g4,aM]
   have h36:=Dg (ts:=ts) (w:=w) h10;have s6:=aZ hp1 (.lst (its2.map fun q=>V.ref q.1));refine⟨p1,its2,rfl,SqL.of aG,fun p hp=>⟨(sm.trans s6).tup (g2 p hp),fun h2=> ?_⟩,by omega,fun l its' hl hpm ZC=> ?_⟩
   ·exact M8 (ts:=ts) (w:=w) (n:=n) (by omega) p.2 (by rw[<-g4];exact gH.mpr ⟨p,hp,rfl⟩)
   ·have s7:=aZ hl (.lst (its'.map fun q=>V.ref q.1));have s57:=s5.trans (sm.trans (s6.trans s7));refine q l (its'.map fun q=>q.2) _ s57 ⟨its',aG,fun p hp=>(sm.trans (s6.trans s7)).tup (g2 p (hpm.mem_iff.mp hp)),rfl⟩ ⟨?_,?_⟩ ((s5.trans (sm.trans s6)).free hl)
    ·rw[<-g4];exact hpm.map _
    ·rw[Er];exact ZC
noncomputable def lV(K:W.Frag):Sp:=fun vs H Q _=>∃(a:Addr) (n:Int) (ts:L0),vs=[.ref a]/\aF K H a n ts/\∀r ss H',Same H H'->cQ K H' r ss->nZ ss ts false n.toNat->H r=none->Q (.ref r) H'
theorem sU{f f1 f2 f3:Addr}{fd d1 d2 d3:ρ}(F:Fun K "full_apart" "full_apart" fZ f fd)(D1:bF K mg "need_web" wL ["thing"] f1 d1)(G1:FnOk P w K mg base CX0 7 f1 d1 ["thing"] (bN K))(D2:bF K mg "full_sets" gY ["friends"] f2 d2)(G2:FnOk P w K mg base CX0 2 f2 d2 ["friends"] (oW K))(D3:bF K mg "places_by_tie" XJ ["web","place","tied"] f3 d3)(G3:FnOk P w K mg base CX0 2 f3 d3 ["web","place","tied"] (Ad K))(au:mg "range"=none):
  FnOk P w K mg base CX0 8 f fd ["web"] (lV K):=by
 refine F.cM ["web"] fun cdv A outer s H vs Q E hr h=> ?_;obtain⟨a,n,ts,rfl,hA,q⟩:=h;refine⟨_,(aR (iw (pc G1 hr D1 (aj (pv 0) ak))) (aQ (bW (pc G2 hr D2 (aj (pK ["place"] ["web"] [0] (rY rfl au (aj (bY gF (pv 0) aK) ak)) (pG 0) qJ (pc G3 hr D3 (aj (pv 1) (aj (pv 0) (aj pe_bl ak))))) ak))))),?_⟩;have h0:=hA.h0;have h10:=hA.h1;refine⟨_,rfl,_,_,rfl,hA.web.dv.dx,hA.ok,fun H1 s1=> ?_⟩;have Ke:=hA.same s1;obtain⟨ta,ra,a1,a2,a3⟩:=id Ke.web;refine⟨_,rfl,a,_,_,.int n,rfl,rfl,a1,rfl,n,rfl,by omega,by omega,?_⟩;refine wO (n:=n.toNat) (fun k acc σ H'=>(∃fas:List Addr,acc=fas.map V.ref/\fas.length=k/\∀(i:Nat) f,fas[i]? =some f->H' f=some (.lst ((jT ts false n.toNat (i:Int)).map V.int)))/\Same H1 H'/\∃o,σ=[o,some (.ref a)]) ⟨⟨[],rfl,rfl,fun i f h=>by simp at h⟩,Same.refl _,_,rfl⟩ (fun k acc σ H' hk p=> ?_) (by rw[cY];omega) (fun k acc σ H' hk p=> ?_) (fun acc σ H' p=> ?_)
 ·obtain⟨⟨fas,rfl,hl,_⟩,_⟩:=p;rw[aM];omega
 ·obtain⟨⟨fas,rfl,hl,hf⟩,sm,o,rfl⟩:=p;have ek:(0+(k:Int))=(k:Int):=by omega
  rw[ek];refine⟨_,rfl,_,rfl,a,n,_,ts,false,rfl,Ke.same sm,fun r H5 s5 h5 n5=>⟨⟨fas++[r],by rw[cg];rfl,by rw[eO,hl];rfl,fun i f hi=> ?_⟩,sm.trans s5,_,rfl⟩⟩;by_cases c:i<fas.length
  ·rw[WD c]at hi;exact s5 _ _ (hf i f hi)
  ·have hb:i<(fas++[r]).length:=(qW.mp hi).1;rw[eO]at hb;have e:i=fas.length:=by have:[r].length=1:=rfl;omega
   rw[e,Tq (bH _),U3]at hi;cases hi;rw[e,hl];exact h5
 ·intro p1 hp1;obtain⟨⟨fas,rfl,hl,hf⟩,sm,_⟩:=p;have s6:=aZ hp1 (.lst (fas.map V.ref));exact⟨p1,fas,ts,false,n.toNat,rfl,aG,hl,by omega,fun i f hi=>s6 _ _ (hf i f hi),fun r ss H7 s7 h7 h8 n7=>q r ss H7 (s1.trans (sm.trans (s6.trans s7))) h7 h8 ((s1.trans (sm.trans s6)).free n7)⟩
noncomputable def cV(ts:L0)(w:Bool):Nat->List Int
 |0=>[]
 |k+1=>if goB ts w (cV ts w k) (k:Int)=true then cV ts w k++[(k:Int)]else cV ts w k
theorem rO{ts:L0}{w:Bool}:∀k:Nat,cV ts w k∈bC ts w k
 |0=>by show([]:List Int)∈[[]];simp
 |k+1=>by
  have ih:=rO (ts:=ts) (w:=w) k;show cV ts w (k+1)∈bC ts w k++((bC ts w k).filter fun s=>goB ts w s (k:Int)).map fun s=>s++[(k:Int)];unfold cV;by_cases c:goB ts w (cV ts w k) (k:Int)=true
  ·rw[aL c];exact jC _ (gH.mpr ⟨_,dY.mpr ⟨ih,c⟩,rfl⟩)
  ·rw[aJ c];exact Qj _ ih
theorem jr{ts:L0}{w:Bool}{x:Int}{k:Nat}(h:x∈cV ts w k):∀m:Nat,x∈cV ts w (k+m)
 |0=>h
 |m+1=>by
  have ih:=jr h m;show x∈cV ts w (k+m+1);unfold cV;split
  ·exact Qj _ ih
  ·exact ih
theorem Jd(ts:L0)(w:Bool)(n:Nat):eZ ts w n≠[]:=by
 have h:cV ts w n∈eZ ts w n:=by
  refine dY.mpr ⟨rO n,?_⟩;unfold iV;rw[Qu,Qg];intro p hp hc;rw[gU]at hc;have hn:p∉cV ts w n:=by simpa using hc.1
  obtain⟨p0,p1⟩:=Em.mp hp;have ep:((p.toNat:Nat):Int)=p:=by omega
  have hk:¬goB ts w (cV ts w p.toNat) p=true:=fun c=>by
   apply hn;have h1:p∈cV ts w (p.toNat+1):=by
    unfold cV;rw[ep,aL c];simp
   have h2:=jr h1 (n-(p.toNat+1));rw[show p.toNat+1+(n-(p.toNat+1))=n by omega]at h2;exact h2
  apply hk;unfold goB;rw[iR];intro q hq;have h2:=jr hq (n-p.toNat);rw[show p.toNat+(n-p.toNat)=n by omega]at h2;exact iR.mp hc.2 q h2
 intro e;rw[e]at h;cases h
noncomputable def uI(K:W.Frag):Sp:=fun vs H Q _=>∃(l:Addr) (its:List (Addr×List Int)),vs=[.ref l]/\SqL K H l (its.map fun p=>V.ref p.1)/\(∀p∈its,SqT K H p.1 (p.2.map V.int))/\its≠[]/\
 ∀(i:Nat) (p:Addr×List Int),its[i]? =some p->(∀(j:Nat) r,its[j]? =some r->r.2.length<=p.2.length/\(j<i->r.2.length<p.2.length))->Q (.ref p.1) H
theorem Cr{f:Addr}{fd:ρ}(F:Fun K "first_greatest" "first_greatest" XM f fd)(vm:mg "max"=none)(aU:mg "len"=none):
  FnOk P w K mg base CX0 1 f fd ["sets"] (uI K):=by
 refine F.cM ["sets"] fun cdv A outer s H vs Q E hr h=> ?_;obtain⟨l,its,rfl,hL,hT,hne,q⟩:=h;refine⟨_,(aQ (bW (BR rfl rfl vm rfl aU (aj (pv 0) ak)))),?_⟩;exact⟨_,rfl,l,its,rfl,hL,hT,hne,q⟩
noncomputable def qp(s:List Int)(ts:L0)(w:Bool)(n:Nat):Prop:=∃ss,nZ ss ts w n/\∃i:Nat,ss[i]? =some s/\∀(j:Nat) t,ss[j]? =some t->t.length<=s.length/\(j<i->t.length<s.length)
theorem Br{ss:List (List Int)}{ts:L0}{w:Bool}{n:Nat}(h:nZ ss ts w n):ss≠[]:=fun e=>by
 have:=h.1.length_eq;rw[e]at this;exact Jd ts w n (List.length_eq_zero_iff.mp this.symm)
noncomputable def oV(K:W.Frag):Sp:=fun vs H Q _=>∃(a:Addr) (n:Int) (ts:L0),vs=[.ref a]/\aF K H a n ts/\∀(r:Addr) (s:List Int) H',Same H H'->SqT K H' r (s.map V.int)->qp s ts false n.toNat->Q (.ref r) H'
theorem Cq{f f1 f2:Addr}{fd d1 d2:ρ}(F:Fun K "greatest_apart" "greatest_apart" Wk f fd)(D1:bF K mg "first_greatest" XM ["sets"] f1 d1)(G1:FnOk P w K mg base CX0 1 f1 d1 ["sets"] (uI K))(D2:bF K mg "full_apart" fZ ["web"] f2 d2)(G2:FnOk P w K mg base CX0 8 f2 d2 ["web"] (lV K)):
  FnOk P w K mg base CX0 9 f fd ["web"] (oV K):=by
 refine F.cM ["web"] fun cdv A outer s H vs Q E hr h=> ?_;obtain⟨a,n,ts,rfl,hA,q⟩:=h;refine⟨_,(aQ (bW (pc G1 hr D1 (aj (pc G2 hr D2 (aj (pv 0) ak)) ak)))),?_⟩;refine⟨_,rfl,a,n,ts,rfl,hA,fun r ss H1 s1 h1 h2 n1=> ?_⟩;obtain⟨its,g1,g2,g3⟩:=h1;refine⟨r,its,rfl,SqL.of g1,g2,fun e=>Br h2 (by rw[<-g3,e];rfl),fun i p hi hb=>q p.1 p.2 H1 s1 (g2 p (nP hi)) ⟨ss,h2,i,by rw[<-g3,dD,hi];rfl,fun j t ht=> ?_⟩⟩;rw[<-g3,dD]at ht;cases ej:its[j]? with
 |none=>rw[ej]at ht;cases ht
 |some r'=>
  rw[ej]at ht;cases ht;exact hb j r' ej
noncomputable def q9(K:W.Frag):Sp:=fun vs H Q _=>∃(a b:Addr) (xs ys:List Int),vs=[.ref a,.ref b]/\SqT K H a (xs.map V.int)/\SqT K H b (ys.map V.int)/\∀r H',Same H H'->SqT K H' r ((xs.filter fun o=> !decide (o∈ys)).map V.int)->Q (.ref r) H'
theorem xO{f:Addr}{fd:ρ}(F:Fun K "without" "without" kW f fd)(aX:mg "tuple"=none):
  FnOk P w K mg base CX0 1 f fd ["some","part"] (q9 K):=by
 refine F.cM ["some","part"] fun cdv A outer s H vs Q E hr h=> ?_;obtain⟨a,b,xs,ys,rfl,hA,hB,q⟩:=h;refine⟨_,(aQ (bW (pT Ed aX (aj (pK ["place"] ["part"] [1] (Eb (pv 0)) (pG 0) (cW (dW (xM K hr.units) (pv 0) (pv 1) (by with_unfolding_all rfl))) (pv 0)) ak)))),?_⟩;refine⟨_,rfl,a,_,rfl,hA,fun hz=> ?_⟩;refine NT (xs:=xs.map V.int) (fun k acc σ H'=>acc=((xs.take k).filter fun o=> !decide (o∈ys)).map V.int/\Same H H'/\∃o,σ=[o,some (.ref b)]) ⟨rfl,Same.refl _,_,rfl⟩ (fun k acc σ H' _ p=>p.2.1.tup hA) (fun k acc σ H' hk p=> ?_) hz (fun k x acc σ H' hx pp=> ?_) (fun acc σ H' p=> ?_)
 ·rw[p.1,aM];exact cC (wW _ _) (by rw[qU];exact Kl _ _)
 ·obtain⟨rfl,sm,o,rfl⟩:=pp;rw[dD]at hx;cases ex:xs[k]? with
  |none=>rw[ex]at hx;cases hx
  |some y=>
   rw[ex]at hx;cases hx;obtain⟨hk,ey⟩:=qW.mp ex;have e:=Wj (p:=fun o=> !decide (o∈ys)) hk;rw[ey]at e;refine⟨_,rfl,_,rfl,b,_,_,.int y,rfl,.inr (sm.tup hB),bB.ints ys,.int _,NZ ys,rfl,(by show 0<=60;decide),_,rfl,?_⟩;rw[any_ints];refine ite2 (fun c=> ?_) (fun c=> ?_)
   ·exact⟨_,rfl,by rw[e,aL c,cg];rfl,sm,_,rfl⟩
   ·exact⟨by rw[e,aJ c,qT],sm,_,rfl⟩
 ·intro p1 hp1;obtain⟨rfl,sm,_⟩:=p;refine⟨p1,_,rfl,.inl ⟨SqL.of aG,fun l hl=> ?_⟩⟩;exact q l _ (sm.trans ((aZ hp1 _).trans (aZ hl _))) (SqT.of (by rw[aG,aM,uy]))
end
end Hs
namespace L2
open PySem PySem.Spec PyProof.Rows
theorem Ju{n:Nat}(h:n<=10^200):n<2^700:=zG h (by decide+kernel)
theorem wz{i:Int}(h:i.natAbs<=10^200):Builtin.Int.intBits i<=2^20:=by
 refine cC (intBits_le_iff.mpr (Ju h)) (by decide+kernel)
section
variable{X:Cx}
theorem jN:OpR X (binaryOp .Mult) (rI (fun i j=>i.natAbs<=10^200/\j.natAbs<=10^200) fun i j=> .int (i*j)):=
 opI fun i j _ _ _ _ _ hc q=>mul_int q (IntMulOk.of_bits (wz hc.1) (wz hc.2))
theorem jO:OpR X (binaryOp .FloorDiv) (rI (fun _ j=>0<j/\j.natAbs<=10^200) fun i j=> .int (i/j)):=opI fun i j _ _ _ _ _ hc q=>by
 have h1:(0:Int)<j:=hc.1;refine floordiv_int (by omega) ?_ (Or.inl (wee ?_))
 ·rw[wdo _ (by omega)];exact q
 ·have h3:j.natAbs≠0:=by omega
  have h4:=(Nat.log2_lt h3).mpr (Ju hc.2);omega
end
end L2
namespace Hs
open PySem L2 kj
theorem Iv(m n:Nat):Nat.gcd n (m %n)=Nat.gcd m n:=by
 rw[Nat.gcd_comm m n,Nat.gcd_rec n m,Nat.gcd_comm]
structure Low(a:Int)(b:Nat)(u:Int)(v:Nat):Prop where
 pos:0<v
 cop:Nat.gcd u.natAbs v=1
 eq:u*(b:Int)=a*(v:Int)
 lu:u.natAbs<=a.natAbs
 lv:v<=b
 nn:0<=a->0<=u
theorem HD(a:Int)(b:Nat)(hb:0<b):Low a b (a/((Nat.gcd a.natAbs b:Nat):Int)) (b/Nat.gcd a.natAbs b):=by
 have hg:0<Nat.gcd a.natAbs b:=wel _ hb;obtain⟨x,hx⟩:((Nat.gcd a.natAbs b:Nat):Int)∣a:=Int.natAbs_dvd_natAbs.mp (by rw[Int.natAbs_natCast];exact Nat.gcd_dvd_left _ _);obtain⟨y,hy⟩:=W6 a.natAbs b;generalize hgg:Nat.gcd a.natAbs b=g at *;have e1:a/(g:Int)=x:=by rw[hx];exact Int.mul_ediv_cancel_left _ (by omega)
 have e2:b/g=y:=by rw[hy];exact YT _ hg
 rw[e1,e2];have hna:a.natAbs=g*x.natAbs:=by rw[hx,wfi];rfl
 have hy0:0<y:=by
  rcases Ux y with h|h
  ·subst h;simp at hy;omega
  ·exact h
 refine⟨hy0,?_,?_,?_,?_,fun h=> ?_⟩
 ·have h2:Nat.gcd (g*x.natAbs) (g*y)=g:=by rw[<-hna,<-hy];exact hgg
  rw[Nat.gcd_mul_left]at h2;have h3:g*Nat.gcd x.natAbs y=g*1:=by omega
  exact Nat.eq_of_mul_eq_mul_left hg h3
 ·rw[hx];have:(b:Int)=(g:Int)*(y:Int):=by rw[hy];exact Tg _ _
  rw[this,Int.mul_comm (g:Int) x,Int.mul_assoc]
 ·rw[hna];exact Ww _ hg
 ·rw[hy];exact Ww _ hg
 ·rw[<-e1];exact Yi h (by omega)
theorem abs_eq(i:Int):(if i<0 then -i else i)=((i.natAbs:Nat):Int):=by split<;>omega
theorem RM(a:Int)(b:Nat)(hb:0<b):Nat.gcd a.natAbs b<=b:=Nat.le_of_dvd hb (W6 _ _)
section
variable{P:ξ}{w:τ}{K:W.Frag}{mg:L5}{base:Heap}
noncomputable def QD(K:W.Frag):Sp:=fun vs H Q _=>∃(m n:Nat),vs=[.int m,.int n]/\Q (.int ((Nat.gcd m n:Nat):Int)) H
theorem Vj{f:Addr}{fd:ρ}(F:Fun K "greatest_divisor" "greatest_divisor" Wn f fd):FnOk P w K mg base CX0 1 f fd ["one","other"] (QD K):=by
 refine F.cM ["one","other","rest"] fun cdv A outer s H vs Q E hr h=> ?_;obtain⟨m,n,rfl,q⟩:=h;refine⟨_,aR (ps_while qL (pt_truth (pv 1) (fun _=>rfl)) (aR (pS 2 (bM op_mod (pv 0) (pv 1))) (aR (pS 0 (pv 1)) (aQ (pS 1 (pv 2)))))) (aQ (bW (pv 0))),?_⟩;refine⟨fun k σ H'=>H'=H/\∃(m':Nat) (r:Option V),σ=[some (.int (m':Int)),some (.int (k:Int)),r]/\Nat.gcd m' k=Nat.gcd m n,⟨n,rfl,m,_,rfl,rfl⟩,?_⟩;rintro k σ H' ⟨rfl,m',r,rfl,hg⟩;refine⟨_,rfl,_,rfl,?_⟩;refine ite2 (fun c=> ?_) (fun c=> ?_)
 ·have hk:0<k:=by
   rcases Ux k with h|h
   ·subst h;exact absurd c (by decide)
   ·exact h
  refine⟨fun σ' H2=>H2=H'/\∃r',σ'=[some (.int (k:Int)),some (.int ((m' %k:Nat):Int)),r'],fun σ' H2 ⟨e1,r',e2⟩=>⟨m' %k,Nat.mod_lt _ hk,e1,k,r',e2,?_⟩,?_⟩
  ·rw[Iv];exact hg
  ·exact⟨_,rfl,_,rfl,_,_,rfl,rfl,Int.ofNat_lt.mpr hk,_,rfl,_,rfl,rfl,_,rfl⟩
 ·have hk:k=0:=by
   rcases Ux k with h|h
   ·exact h
   ·exfalso;apply c;show((k:Int) !=0)=true;simp;omega
  subst hk;rw[Nat.gcd_zero_right]at hg;refine⟨_,rfl,?_⟩;rw[hg];exact q
noncomputable def FN(K:W.Frag):Sp:=fun vs H Q _=>∃(a:Int) (b:Nat),vs=[.int a,.int b]/\0<b/\b<=10^200/\∀p H' u v,Same H H'->H' p=some (.tup [.int u,.int ((v:Nat):Int)])->Low a b u v->Q (.ref p) H'
theorem Mi{H:Hp}{a:Int}{b:Nat}{p:Addr}(hp:H p=none):(upd H p (.tup [.int (a/((Nat.gcd a.natAbs b:Nat):Int)),.int ((b:Int)/((Nat.gcd a.natAbs b:Nat):Int))])) p=some (.tup [.int (a/((Nat.gcd a.natAbs b:Nat):Int)),.int (((b/Nat.gcd a.natAbs b:Nat)):Int)]):=by
 rw[aG,Yl]
theorem Ri{f f1:Addr}{fd d1:ρ}(F:Fun K "lowest" "lowest" jG f fd)(D1:bF K mg "greatest_divisor" Wn ["one","other"] f1 d1)(G1:FnOk P w K mg base CX0 1 f1 d1 ["one","other"] (QD K))(mA:mg "abs"=none):
  FnOk P w K mg base CX0 2 f fd ["a","b"] (FN K):=by
 refine F.cM ["a","b","by"] fun cdv A outer s H vs Q E hr h=> ?_;obtain⟨a,b,rfl,hb,hB,q⟩:=h;refine⟨_,aR (pS 2 (pc G1 hr D1 (aj (pB call_abs mA (aj (pv 0) ak)) (aj (pv 1) ak)))) (aQ (bW (cA (aj (bM jO (pv 0) (pv 2)) (aj (bM jO (pv 1) (pv 2)) ak))))),?_⟩;refine⟨_,rfl,a,rfl,_,rfl,a.natAbs,b,?_,?_⟩
 ·rw[abs_eq];rfl
 have hg:0<Nat.gcd a.natAbs b:=wel _ hb;have hg2:(((Nat.gcd a.natAbs b:Nat):Int)).natAbs<=10^200:=cC (RM a b hb) hB;refine⟨_,rfl,_,rfl,_,_,rfl,rfl,⟨Int.ofNat_lt.mpr hg,hg2⟩,_,rfl,_,rfl,_,_,rfl,rfl,⟨Int.ofNat_lt.mpr hg,hg2⟩,(by show 2<=sizeLine;decide),fun p hp=> ?_⟩;exact q p _ _ _ (aZ hp _) (Mi hp) (HD a b hb)
end
noncomputable def beats(t s:List Int):Bool:=decide (s.length<t.length)||(decide (t.length=s.length)&&HT.lexLt t s)
noncomputable def wC(ts:L0)(xs:List Int):List (List Int):=xs.foldl (fun found p=>found++(found.filter fun s=> !s.any fun o=>ao ts o p).map fun s=>s++[p]) [[]]
theorem DG(ts:L0)(xs:List Int)(p:Int):wC ts (xs++[p])=wC ts xs++((wC ts xs).filter fun s=> !s.any fun o=>ao ts o p).map fun s=>s++[p]:=by
 unfold wC;rw[Yr];rfl
theorem sub_one{v:List Int}{p:Int}(h:v.Sublist [p]):v=[]\/v=[p]:=by
 cases h with
 |cons _ h=>exact .inl (List.sublist_nil.mp h)
 |cons_cons _ h=>exact .inr (by rw[List.sublist_nil.mp h])
structure Xz(ts:L0)(xs s:List Int):Prop where
 sub:s.Sublist xs
 ap:s.Pairwise fun a b=>ao ts a b=false
theorem vh{ts:L0}{s:List Int}:∀{k:Nat} {xs:List Int},xs.length=k->(s∈wC ts xs↔Xz ts xs s):=by
 intro k
 induction k generalizing s with
 |zero=>
  intro xs hl;have:xs=[]:=Ql hl;subst this;constructor
  ·intro h;rw[eN.mp (show s∈[[]]from h)];exact⟨Ys _,List.Pairwise.nil⟩
  ·intro h;rw[List.sublist_nil.mp h.sub];exact eN.mpr rfl
 |succ k ih=>
  intro xs hl;have hne:xs≠[]:=fun e=>by rw[e]at hl;cases hl
  obtain⟨ys,p,rfl⟩:∃ys p,xs=ys++[p]:=⟨xs.dropLast,xs.getLast hne,(X7 hne).symm⟩;have hk:ys.length=k:=by rw[eO]at hl;exact Yb hl
  rw[DG,fH];constructor
  ·rintro(h|h)
   ·have S:=(ih hk).mp h;exact⟨S.sub.trans (Wy _ _),S.ap⟩
   ·obtain⟨u,hu,rfl⟩:=gH.mp h;obtain⟨u1,u2⟩:=dY.mp hu;have S:=(ih hk).mp u1;refine⟨S.sub.append (Ys _),?_⟩;rw[Qi];refine⟨S.ap,UJ _ _,fun a ha b hb=> ?_⟩;rw[eN.mp hb];rw[Qu,Qg]at u2;exact Bool.eq_false_iff.mpr (u2 a ha)
  ·intro S;obtain⟨u,v,rfl,hu,hv⟩:=List.sublist_append_iff.mp S.sub;rcases sub_one hv with rfl|rfl
   ·refine .inl ((ih hk).mpr ⟨by rw[qT];exact hu,S.ap⟩)
   ·refine .inr (gH.mpr ⟨u,dY.mpr ⟨(ih hk).mpr ⟨hu,(Qi.mp S.ap).1⟩,?_⟩,rfl⟩);rw[Qu,Qg];intro a ha;rw[(Qi.mp S.ap).2.2 a ha p (eN.mpr rfl)];decide
noncomputable def pick(l:List (List Int)):List Int:=l.foldl (fun found one=>if beats one found then one else found) []
theorem BP(l:List (List Int))(s:List Int):pick (l++[s])=if beats s (pick l)then s else pick l:=by unfold pick;rw[Yr];rfl
noncomputable def best(ts:L0)(xs:List Int):List Int:=pick (wC ts xs)
structure Best(ts:L0)(xs s:List Int):Prop where
 is:Xz ts xs s
 top:∀t,Xz ts xs t->beats t s=false
theorem Ml(a:List Int):HT.lexLt a a=false:=by rw[HT.aW];exact cI (Ut a)
theorem PN{t s:List Int}:beats t s=true↔s.length<t.length\/(t.length=s.length/\t<s):=by
 unfold beats;rw[Bool.or_eq_true,gU,U7,U7,HT.aW,U7]
theorem Dw{s t:List Int}(h1:beats s t=false)(h2:beats t s=false):s=t:=by
 rw[TY,Ne,PN,not_or]at h1 h2;have hl:s.length=t.length:=by omega
 have a:¬s<t:=fun h=>h1.2 ⟨hl,h⟩;have b:¬t<s:=fun h=>h2.2 ⟨hl.symm,h⟩;exact Yn (JN.mp b) (JN.mp a)
theorem wB{a b c:List Int}(h1:beats a b=false)(h2:beats b c=false):beats a c=false:=by
 rw[TY,Ne,PN,not_or]at h1 h2⊢;have hab:a.length<=b.length:=by omega
 have hbc:b.length<=c.length:=by omega
 refine⟨by omega,fun⟨e,l⟩=> ?_⟩;have n1:¬a<b:=fun h=>h1.2 ⟨by omega,h⟩;have n2:¬b<c:=fun h=>h2.2 ⟨by omega,h⟩;exact absurd l (JN.mpr (List.le_trans (JN.mp n2) (JN.mp n1)))
theorem yV{a b:List Int}(h:beats a b=true):beats b a=false:=by
 rw[PN]at h;rw[TY,Ne,PN,not_or];rcases h with h|⟨e,l⟩
 ·exact⟨by omega,fun⟨e,_⟩=>by omega⟩
 ·exact⟨by omega,fun⟨_,l'⟩=>Ut _ (Yg l l')⟩
theorem Dz(a:List Int):beats a a=false:=by
 rw[TY,Ne,PN,not_or];exact⟨by omega,fun⟨_,l⟩=>Ut _ l⟩
theorem Dy(t:List Int)(h:t≠[]):beats t []=true:=by
 rw[PN];left;rcases t with _|⟨x,t⟩
 ·exact absurd rfl h
 ·simp
theorem uV:∀(k:Nat) (l:List (List Int)),l.length=k->(pick l=[]\/pick l∈l)/\∀t∈l,beats t (pick l)=false
 |0,l,h=>by rw[Ql h];exact⟨.inl rfl,fun t h=>(nomatch h)⟩
 |k+1,l0,h=>by
  have hne:l0≠[]:=fun e=>by rw[e]at h;cases h
  obtain⟨l,s,rfl⟩:∃ys p,l0=ys++[p]:=⟨l0.dropLast,l0.getLast hne,(X7 hne).symm⟩;have ih:=uV k l (by rw[eO]at h;exact Yb h);rw[BP];cases hb:beats s (pick l)with
  |true=>
   rw[aL rfl];refine⟨.inr (fH.mpr (.inr (eN.mpr rfl))),fun t ht=> ?_⟩;rcases fH.mp ht with h|h
   ·exact wB (ih.2 t h) (yV hb)
   ·rw[eN.mp h];exact Dz s
  |false=>
   rw[aJ (by decide)];refine⟨ih.1.imp id fun h=>fH.mpr (.inl h),fun t ht=> ?_⟩;rcases fH.mp ht with h|h
   ·exact ih.2 t h
   ·rw[eN.mp h];exact hb
theorem jW(ts:L0)(xs:List Int):Best ts xs (best ts xs):=by
 have h:=uV _ (wC ts xs) rfl;refine⟨?_,fun t ht=>h.2 t ((vh rfl).mpr ht)⟩;rcases h.1 with e|e
 ·show Xz ts xs (pick (wC ts xs));rw[e];exact⟨List.nil_sublist _,List.Pairwise.nil⟩
 ·exact(vh rfl).mp e
theorem Jv{ts:L0}{xs s:List Int}(h:Best ts xs s):s=best ts xs:=
 Dw ((jW ts xs).top s h.is) (h.top _ (jW ts xs).is)
theorem Bf{ts:L0}{xs:List Int}(h:xs≠[]):best ts xs≠[]:=fun e=>by
 rcases xs with _|⟨x,xs⟩
 ·exact h rfl
 have:=(jW ts (x::xs)).top [x] ⟨List.singleton_sublist.mpr (cH ..),UJ _ _⟩;rw[e,Dy [x] (by simp)]at this;cases this
theorem Ar{g:Int->Int}:∀(a b:List Int),(∀x∈a,∀y∈b,(g x=g y↔x=y)/\(g x<g y↔x<y))->HT.lexLt (a.map g) (b.map g)=HT.lexLt a b
 |[],[],_=>rfl
 |[],_::_,_=>rfl
 |_::_,[],_=>rfl
 |x::a,y::b,h=>by
  have h1:=h x (cH ..) y (cH ..);have ih:=Ar a b fun u hu v hv=>h u (cP _ hu) v (cP _ hv);rw[jB,jB,HT.lexLt_cons,HT.lexLt_cons,ih];by_cases e:x=y
  ·rw[aL e,aL (h1.1.mpr e)]
  ·rw[aJ e,aJ (fun q=>e (h1.1.mp q))];by_cases l:x<y
   ·rw[dF l,dF (h1.2.mpr l)]
   ·rw[cI l,cI (fun q=>l (h1.2.mp q))]
theorem oK{xs s:List Int}(hx:xs.Pairwise (· < ·))(hs:s.Pairwise (· < ·))(h:∀k∈s,k∈xs):s.Sublist xs:=by
 have e:s=xs.filter fun k=>decide (k∈s):=dJ hs (hx.filter _) fun k=>by
  rw[dY,U7];exact⟨fun q=>⟨h k q,q⟩,fun q=>q.2⟩
 rw[e];exact Oe
theorem QS(n:Nat):(rng n).Pairwise (· < ·):=by
 unfold rng;rw[Er];exact Tp.imp fun{a b} h=>by omega
theorem Cy{n:Int}{ts:L0}{xs s:List Int}(ht:bV n ts)(hok:cJ n xs)(h0:0<=n)(h:qp s (rows (Af xs ts) (xs.length:Int) (xs.length:Int).toNat) false xs.length):(s.map fun i=>xs.getD i.toNat 0)=best ts xs:=by
 obtain⟨ss,hS,i,hi,hm⟩:=h;generalize hc:rows (Af xs ts) (xs.length:Int) (xs.length:Int).toNat=Xw at *;have key:∀i j:Int,0<=i->i<j->j<(xs.length:Int)->bw Xw i j=bw ts (xs.getD i.toNat 0) (xs.getD j.toNat 0):=fun i j a b c=>by
  rw[<-hc,qY a b c];unfold Af;rw[tied_eq ht]
 have inF:∀{t:List Int},t∈ss->j4 Xw false xs.length t:=fun{t} q=>fJ _ _ (dY.mp (hS.1.mem_iff.mp q)).1;have hsm:s∈ss:=nP hi;have K1:=inF hsm;have C1:j4 ts false n.toNat (s.map fun i=>xs.getD i.toNat 0):=Nj ht hok h0 (by rw[hc];exact K1);refine Jv ⟨⟨oK hok.Fj C1.up fun k hk=> ?_,?_⟩,fun t hT=> ?_⟩
 ·obtain⟨i,hi',rfl⟩:=gH.mp hk;exact getD_at (K1.lt i hi').1 (K1.lt i hi').2
 ·refine Xb (fun{a b} ha hb hab=> ?_) C1.up;have:=C1.all a ha b hb (by omega);rw[tied_eq ht];simpa using this
 ·have tu:t.Pairwise (· < ·):=hok.Fj.sublist hT.sub;have tm:∀k∈t,k∈xs:=fun k hk=>hT.sub.subset hk
  -- the places of t within xs
  have ex:∀k∈t,∃j:Int,0<=j/\j<(xs.length:Int)/\xs.getD j.toNat 0=k:=fun k hk=>by
   obtain⟨j,hj,e⟩:=Qh (tm k hk);refine⟨(j:Int),by omega,by omega,?_⟩;rw[Uw,qG,jc hj];exact e
  generalize hu:(rng xs.length).filter (fun j=>decide (xs.getD j.toNat 0∈t))=u;have um:∀j,j∈u↔(0<=j/\j<(xs.length:Int))/\xs.getD j.toNat 0∈t:=fun j=>by rw[<-hu,dY,Em,U7]
  have uu:u.Pairwise (· < ·):=by rw[<-hu];exact(QS _).filter _
  have mono:∀a∈u,∀b∈u,a<b->xs.getD a.toNat 0<xs.getD b.toNat 0:=fun a ha b hb hab=>iC hok.Fj ((um a).mp ha).1.1 hab ((um b).mp hb).1.2;have ut:(u.map fun j=>xs.getD j.toNat 0)=t:=by
   refine dJ ?_ tu fun k=> ?_
   ·rw[Er];exact Xb (fun{a b} ha hb hab=>mono a ha b hb hab) uu
   ·rw[gH];constructor
    ·rintro⟨j,hj,rfl⟩;exact((um j).mp hj).2
    ·intro hk;obtain⟨j,j0,j1,e⟩:=ex k hk;exact⟨j,(um j).mpr ⟨⟨j0,j1⟩,by rw[e];exact hk⟩,e⟩
  have tt':∀a∈t,∀b∈t,a<b->ao ts a b=false:=fun a ha b hb hab=>by
   obtain⟨x,hx,ex1⟩:=Qh ha;obtain⟨y,hy,ey1⟩:=Qh hb;have hxy:x<y:=by
    rcases Nat.lt_trichotomy x y with q|q|q
    ·exact q
    ·subst q;omega
    ·have:=Qk.mp tu y x hy hx q;omega
   have:=Qk.mp hT.ap x y hx hy hxy;rw[ex1,ey1]at this;exact this
  have U:j4 Xw false xs.length u:=by
   have q:∀a∈u,∀b∈u,a<b->(bw Xw a b==false)=true:=fun a ha b hb hab=>by
    rw[key a b ((um a).mp ha).1.1 hab ((um b).mp hb).1.2,<-tied_eq ht,tt' _ ((um a).mp ha).2 _ ((um b).mp hb).2 (mono a ha b hb hab)];rfl
   refine⟨uu,fun x hx=>((um x).mp hx).1,fun x hx y hy hne=> ?_⟩;rcases Int.lt_or_lt_of_ne hne with c|c
   ·exact q x hx y hy c
   ·rw[Ec];exact q y hy x hx c
  obtain⟨v,hv,uv⟩:=Ji U;have hv':v∈ss:=hS.1.mem_iff.mpr hv;have V:=inF hv';have sub:u.Sublist v:=oK V.up uu uv;obtain⟨j,hj,ej⟩:=Qh hv';have hj':ss[j]? =some v:=by rw[jc hj,ej]
  obtain⟨m1,m2⟩:=hm j v hj';have lu:t.length=u.length:=by rw[<-ut,aM]
  have l1:=sub.length_le;rw[TY,Ne,PN,not_or,aM];refine⟨by omega,fun⟨e,l⟩=> ?_⟩;have euv:u=v:=sub.eq_of_length (by omega);have nlt:¬j<i:=fun q=>by have:=m2 q;omega
  rw[<-ut,euv]at l;have L:HT.lexLt v s=false:=by
   rcases U0 i j with q|q
   ·obtain⟨hi1,ei⟩:=qW.mp hi;have:=Qk.mp hS.2 i j hi1 hj q;rw[ei,ej]at this;exact this
   ·have:i=j:=by omega
    subst this;rw[hj']at hi;injection hi with hi
    rw[hi];exact Ml s
  have L2':=Ar (g:=fun k=>xs.getD k.toNat 0) v s fun x hx y hy=>by
   have bx:=V.lt x hx;have by':=K1.lt y hy;refine⟨⟨fun e=> ?_,fun e=>by rw[e]⟩,⟨fun e=> ?_,fun e=>iC hok.Fj bx.1 e by'.2⟩⟩
   ·rcases Uv x y with c|c|c
    ·have:=iC hok.Fj bx.1 c by'.2;omega
    ·exact c
    ·have:=iC hok.Fj by'.1 c bx.2;omega
   ·rcases Uv x y with c|c|c
    ·exact c
    ·subst c;omega
    ·have:=iC hok.Fj by'.1 c bx.2;omega
  rw[HT.aW,L]at L2';exact absurd l (Yx L2')
noncomputable def rest(ts:L0)(xs:List Int):List Int:=xs.filter fun o=> !decide (o∈best ts xs)
theorem jL{ts:L0}{xs:List Int}(h:xs≠[]):(rest ts xs).length<xs.length:=by
 have hb:=Bf (ts:=ts) h;obtain⟨x,bs,e⟩:=List.exists_cons_of_ne_nil hb;have hx:x∈xs:=(jW ts xs).is.sub.subset (by rw[e];exact cH ..);unfold rest;rcases U0 (xs.filter fun o=> !decide (o∈best ts xs)).length xs.length with q|q
 ·exact q
 ·have e2:=Wq.mp ((Oe (p:=fun o=> !decide (o∈best ts xs)) (l:=xs)).eq_of_length (Qf (wW _ _) q)) x hx;rw[e,dF (cH ..)]at e2;cases e2
noncomputable def RL(ts:L0):Nat->List Int->List (List Int)
 |0,_=>[]
 |f+1,xs=>if xs=[]then[]else best ts xs::RL ts f (rest ts xs)
noncomputable def dR(ts:L0)(xs:List Int):List (List Int):=RL ts xs.length xs
theorem vN(ts:L0):∀(f g:Nat) (xs:List Int),xs.length<=f->xs.length<=g->RL ts f xs=RL ts g xs
 |0,0,_,_,_=>rfl
 |0,g+1,xs,h,_=>by rw[Ql (Nat.le_zero.mp h)];exact(aL rfl).symm
 |f+1,0,xs,_,h=>by rw[Ql (Nat.le_zero.mp h)];exact aL rfl
 |f+1,g+1,xs,hf,hg=>by
  show(if xs=[]then[]else best ts xs::RL ts f (rest ts xs))=if xs=[]then[]else best ts xs::RL ts g (rest ts xs)
  by_cases e:xs=[]
  ·rw[aL e,aL e]
  ·have:=jL (ts:=ts) e;rw[aJ e,aJ e,vN ts f g (rest ts xs) (by omega) (by omega)]
theorem lC(ts:L0):dR ts []=[]:=rfl
theorem jq{ts:L0}{xs:List Int}(h:xs≠[]):dR ts xs=best ts xs::dR ts (rest ts xs):=by
 have hl:=jL (ts:=ts) h;unfold dR;obtain⟨k,hk⟩:∃k,xs.length=k+1:=⟨xs.length-1,by omega⟩;rw[hk];show(if xs=[]then[]else best ts xs::RL ts k (rest ts xs))=_;rw[aJ h,vN ts k (rest ts xs).length (rest ts xs) (by omega) (bH _)]
theorem cJ.sub{n:Int}{xs ys:List Int}(h:cJ n xs)(s:ys.Sublist xs):cJ n ys:=⟨h.Fj.sublist s,fun x hx=>h.lt x (s.subset hx)⟩
theorem cJ.rest{n:Int}{xs:List Int}(ts:L0)(h:cJ n xs):cJ n (rest ts xs):=h.sub Oe
noncomputable def kO(ss:List (List Int))(p:Int):Option Int:=ss.foldl (fun acc s=>if p∈s then some ((s.length:Nat):Int)else acc) none
theorem qZ(ss:List (List Int))(s:List Int)(p:Int):kO (ss++[s]) p=if p∈s then some ((s.length:Nat):Int)else kO ss p:=by unfold kO;rw[Yr];rfl
theorem zQ:∀(k:Nat) (ss:List (List Int)) (p:Int),ss.length=k->(∃s∈ss,p∈s)->(∀s∈ss,s.length<=10)->∃m:Nat,kO ss p=some (m:Int)/\0<m/\m<=10
 |0,ss,p,h,⟨s,hs,_⟩,_=>by rw[Ql h]at hs;cases hs
 |k+1,l0,p,h,⟨s,hs,hp⟩,hb=>by
  have hne:l0≠[]:=fun e=>by rw[e]at h;cases h
  obtain⟨l,z,rfl⟩:∃ys p,l0=ys++[p]:=⟨l0.dropLast,l0.getLast hne,(X7 hne).symm⟩;rw[qZ];by_cases c:p∈z
  ·rw[aL c];exact⟨z.length,rfl,UG c,hb z (fH.mpr (.inr (eN.mpr rfl)))⟩
  ·rw[aJ c];refine zQ k l p (by rw[eO]at h;exact Yb h) ?_ fun s hs=>hb s (fH.mpr (.inl hs));rcases fH.mp hs with q|q
   ·exact⟨s,q,hp⟩
   ·rw[eN.mp q]at hp;exact absurd hp c
theorem vM{ts:L0}:∀(k:Nat) (xs:List Int),xs.length<=k->∀p∈xs,∃s∈dR ts xs,p∈s
 |0,xs,h,p,hp=>by rw[Ql (Nat.le_zero.mp h)]at hp;cases hp
 |k+1,xs,h,p,hp=>by
  have hne:xs≠[]:=fun e=>by rw[e]at hp;cases hp
  rw[jq hne];by_cases c:p∈best ts xs
  ·exact⟨_,cH ..,c⟩
  ·have hl:=jL (ts:=ts) hne;obtain⟨s,h1,h2⟩:=vM k (rest ts xs) (by omega) p (dY.mpr ⟨hp,by rw[cI c];rfl⟩);exact⟨s,cP _ h1,h2⟩
theorem lB{ts:L0}:∀(k:Nat) (xs:List Int),xs.length<=k->(dR ts xs).length<=xs.length/\∀s∈dR ts xs,s.Sublist xs/\s≠[]
 |0,xs,h=>by rw[Ql (Nat.le_zero.mp h),lC];exact⟨bH _,fun s hs=>(nomatch hs)⟩
 |k+1,xs,h=>by
  by_cases hne:xs=[]
  ·rw[hne,lC];exact⟨bH _,fun s hs=>(nomatch hs)⟩
  rw[jq hne];have hl:=jL (ts:=ts) hne;obtain⟨h1,h2⟩:=lB (ts:=ts) k (rest ts xs) (by omega);refine⟨by rw[lO];omega,fun s hs=> ?_⟩;rcases cD.mp hs with rfl|q
  ·exact⟨(jW ts xs).is.sub,Bf hne⟩
  ·exact⟨(h2 s q).1.trans Oe,(h2 s q).2⟩
noncomputable def hh:Nat->Nat×Nat
 |0=>(0,1)
 |k+1=>((hh k).1*(k+1)+(hh k).2,(hh k).2*(k+1))
theorem Im:∀k:Nat,0<(hh k).2
 |0=>by decide
 |k+1=>TF (Im k) (wQ k)
theorem Io:∀k:Nat,0<k->0<(hh k).1
 |k+1,_=>gR (Im k) (Nat.le_add_left _ _)
structure Sum(k a b:Nat):Prop where
 pos:0<b
 eq:a*(hh k).2=(hh k).1*b
 la:a<=20^k
 lb:b<=20^k
theorem Sum.zero:Sum 0 0 1:=⟨by decide,rfl,by decide,by decide⟩
theorem Sum.num{k a b:Nat}(h:Sum k a b)(hk:0<k):0<a:=by
 rcases Ux a with e|e
 ·have:=h.eq;rw[e,Nat.zero_mul]at this;have:=TF (Io k hk) h.pos;omega
 ·exact e
theorem Sum.next{k a b:Nat}(h:Sum k a b)(hk:k<10):Sum (k+1) (a*((k+1)/Nat.gcd b (k+1))+b*((k+1)/Nat.gcd b (k+1))/(k+1)) (b*((k+1)/Nat.gcd b (k+1))):=by
 have hg:0<Nat.gcd b (k+1):=weq _ h.pos;obtain⟨b1,hb⟩:=Nat.gcd_dvd_left b (k+1);obtain⟨c1,hc⟩:=W6 b (k+1);generalize Nat.gcd b (k+1)=g at *;have e1:(k+1)/g=c1:=by rw[hc];exact YT _ hg
 have e2:b*c1=(k+1)*b1:=by rw[hb,hc,JT,Te b1 c1,JT]
 have e3:b*c1/(k+1)=b1:=by rw[e2];exact YT _ (wQ k)
 have c0:0<c1:=by
  rcases Ux c1 with q|q
  ·rw[q]at hc;simp at hc
  ·exact q
 have cl:c1<=10:=by
  have:c1<=g*c1:=Ww _ hg;omega
 have bl:b1<=b:=by rw[hb];exact Ww _ hg
 rw[e1,e3];refine⟨TF h.pos c0,?_,?_,?_⟩
 ·show(a*c1+b1)*((hh k).2*(k+1))=((hh k).1*(k+1)+(hh k).2)*(b*c1);have q:=h.eq;have z1:(a*c1+b1)*((hh k).2*(k+1))=(a*(hh k).2)*(c1*(k+1))+(hh k).2*((k+1)*b1):=by
   rw[Nat.add_mul];congr 1
   ·rw[JT,JT];congr 1;rw[<-JT,<-JT];congr 1;exact Te _ _
   ·rw[Te b1,JT]
  have z2:((hh k).1*b)*(c1*(k+1))+(hh k).2*(b*c1)=((hh k).1*(k+1)+(hh k).2)*(b*c1):=by
   rw[Nat.add_mul];congr 1;rw[JT,JT];congr 1;rw[<-JT,Te]
  have z3:(a*(hh k).2)*(c1*(k+1))+(hh k).2*((k+1)*b1)=((hh k).1*b)*(c1*(k+1))+(hh k).2*(b*c1):=by rw[q,e2]
  exact z1.trans (z3.trans z2)
 ·have la:=h.la;have lb:=h.lb;have q1:a*c1<=20^k*10:=Us la cl;rw[Yc];omega
 ·have lb:=h.lb;have q1:b*c1<=20^k*10:=Us lb cl;rw[Yc];omega
theorem Mh{a c:Int}{b d v v':Nat}{u u':Int}(h:Low a b u v)(h':Low c d u' v')(hb:0<b)(hd:0<d)(e:a*(d:Int)=c*(b:Int)):u=u'/\v=v':=by
 have x:u*(v':Int)=u'*(v:Int):=by
  have hbd:((b:Int)*(d:Int))≠0:=by
   have:(0:Int)<(b:Int)*(d:Int):=Int.mul_pos (by omega) (by omega);omega
  refine Int.eq_of_mul_eq_mul_left hbd ?_
  calc ((b:Int)*(d:Int))*(u*(v':Int))=(u*(b:Int))*((d:Int)*(v':Int)):=by ac_rfl
   _=(a*(v:Int))*((d:Int)*(v':Int)):=by rw[h.eq]
   _=(a*(d:Int))*((v:Int)*(v':Int)):=by ac_rfl
   _=(c*(b:Int))*((v:Int)*(v':Int)):=by rw[e]
   _=(c*(v':Int))*((b:Int)*(v:Int)):=by ac_rfl
   _=(u'*(d:Int))*((b:Int)*(v:Int)):=by rw[h'.eq]
   _=((b:Int)*(d:Int))*(u'*(v:Int)):=by ac_rfl
 have y:u.natAbs*v'=u'.natAbs*v:=by
  have:=iy Int.natAbs x;rw[wfi,wfi]at this;exact this
 have d1:v∣v':=wct (k:=v) (m:=u.natAbs) (by rw[Nat.coprime_comm];exact h.cop) ⟨u'.natAbs,by rw[y,Te]⟩;have d2:v'∣v:=wct (k:=v') (m:=u'.natAbs) (by rw[Nat.coprime_comm];exact h'.cop) ⟨u.natAbs,by rw[<-y,Te]⟩;have ev:=Nat.dvd_antisymm d1 d2;refine⟨?_,ev⟩;rw[ev]at x;exact Int.eq_of_mul_eq_mul_right (by have:=h'.pos;omega) x
section
variable{P:ξ}{w:τ}{K:W.Frag}{mg:L5}{base:Heap}
noncomputable def Pz(K:W.Frag)(H:Hp)(l:Addr)(m:Nat):Prop:=∃its:List Addr,H l=some (.lst (its.map V.ref))/\its.length=m/\∀(i:Nat) a,its[i]? =some a->SqT K H a [.int 1,.int ((i+1:Nat):Int)]
theorem su{k:Nat}(h:k<=10):20^k<=10^100:=cC (Nat.pow_le_pow_right (by decide) h) (by decide)
theorem wA{a:Nat}(h:a<=10^100):(a:Int).natAbs<=10^200:=cC (show a<=10^100 from h) (by decide+kernel)
noncomputable def zX(K:W.Frag):Sp:=fun vs H Q _=>∃(l:Addr) (m:Nat),vs=[.ref l]/\Pz K H l m/\m<=10/\∀p H' a b,Same H H'->SqT K H' p [.int ((a:Nat):Int),.int ((b:Nat):Int)]->Sum m a b->Q (.ref p) H'
theorem GQ{f f1:Addr}{fd d1:ρ}(F:Fun K "sum_of" "sum_of" oY f fd)(D1:bF K mg "greatest_divisor" Wn ["one","other"] f1 d1)(G1:FnOk P w K mg base CX0 1 f1 d1 ["one","other"] (QD K)):
  FnOk P w K mg base CX0 2 f fd ["fractions"] (zX K):=by
 refine F.cM ["fractions","a","b","top","bottom","by"] fun cdv A outer s H vs Q E hr h=> ?_;obtain⟨l,m,rfl,⟨its,hL,hlen,hT⟩,hm,q⟩:=h;refine⟨_,(aR (pS 1 aK) (aR (pS 2 aK) (aR (rR qL rfl (Bl (pv 0)) (pg_tup rfl (nM (pG 3) (nM (pG 4) Ea))) (aR (pS 5 (bM jO (pv 4) (pc G1 hr D1 (aj (pv 2) (aj (pv 4) ak))))) (aR (pS 1 (bM mO (bM jN (pv 1) (pv 5)) (bM jN (pv 3) (bM jO (bM jN (pv 2) (pv 5)) (pv 4))))) (aQ (pS 2 (bM jN (pv 2) (pv 5))))))) (aQ (bW (cA (aj (pv 1) (aj (pv 2) ak)))))))),?_⟩;refine⟨_,rfl,l,_,rfl,SqL.of hL,fun _=> ?_⟩;refine for_list (K:=K) (a:=l) (xs:=its.map V.ref) (fun i σ H'=>H'=H/\∃(a b:Nat) (c d e:Option V),Sum i a b/\σ=[some (.ref l),some (.int (a:Int)),some (.int (b:Int)),c,d,e]) ⟨rfl,0,1,_,_,_,Sum.zero,rfl⟩ (fun i σ H' _ p=>by rw[p.1];exact SqL.of hL) (fun i x σ H' hx p=> ?_) (fun σ H' p=> ?_)
 ·obtain⟨rfl,a,b,c,d,e,S,rfl⟩:=p;rw[dD]at hx;cases ex:its[i]? with
  |none=>rw[ex]at hx;cases hx
  |some y=>
   rw[ex]at hx;cases hx;have hy:=hT i y ex;have hi:i<10:=by have:=(qW.mp ex).1;omega
   have la:=cC S.la (su (wR hi));have lb:=cC S.lb (su (wR hi));have hg:0<Nat.gcd b (i+1):=weq _ S.pos;have hgl:Nat.gcd b (i+1)<=i+1:=Nat.le_of_dvd (wQ i) (W6 _ _);have hby:(i+1)/Nat.gcd b (i+1)<=i+1:=Nat.div_le_self _ _;have e1:(((i+1:Nat):Int))/((Nat.gcd b (i+1):Nat):Int)=(((i+1)/Nat.gcd b (i+1):Nat):Int):=(Yl _ _).symm;have N:=S.next hi;generalize hB:(i+1)/Nat.gcd b (i+1)=by' at *;have l2:b*by'<=10^100*10:=Us lb (by omega);have l2':((b:Int)*(by':Int)).natAbs<=10^200:=by rw[<-Tg];exact cC l2 (by decide+kernel)
   have e2:((b:Int)*(by':Int))/(((i+1:Nat):Int))=((b*by'/(i+1):Nat):Int):=by rw[<-Tg];exact(Yl _ _).symm
   have l3:b*by'/(i+1)<=10^200:=cC (Nat.div_le_self _ _) (cC l2 (by decide+kernel));have lby:(by':Int).natAbs<=10^200:=wA (cC (by omega:by'<=10) (by decide+kernel));refine⟨y,_,rfl,hy,rfl,_,_,rfl,_,_,rfl,rfl,?_⟩;refine⟨_,rfl,_,rfl,_,rfl,b,i+1,rfl,_,_,rfl,rfl,⟨Int.ofNat_lt.mpr hg,wA (cC (by omega:Nat.gcd b (i+1)<=10) (by decide+kernel))⟩,?_⟩;dsimp only;rw[e1];refine⟨_,rfl,_,rfl,_,_,rfl,rfl,⟨wA la,lby⟩,_,rfl,_,rfl,_,rfl,_,_,rfl,rfl,⟨wA lb,lby⟩,_,rfl,_,_,rfl,rfl,⟨(by show(0:Int)<((i+1:Nat):Int);omega),wA (cC (by omega:i+1<=10) (by decide+kernel))⟩,?_⟩;dsimp only;rw[e2];refine⟨_,_,rfl,rfl,⟨by decide+kernel,l3⟩,_,_,rfl,rfl,?_⟩;refine⟨_,rfl,_,rfl,_,_,rfl,rfl,⟨wA lb,lby⟩,rfl,_,_,some (.int 1),some (.int ((i+1:Nat):Int)),some (.int (by':Int)),N,?_⟩;have z1:((a:Int)*(by':Int)+1*((b*by'/(i+1):Nat):Int))=((a*by'+b*by'/(i+1):Nat):Int):=by rw[Int.natCast_add,Tg,Int.one_mul]
   have z2:(b:Int)*(by':Int)=((b*by':Nat):Int):=(Tg _ _).symm;rw[<-z1,<-z2];rfl
 ·obtain⟨rfl,a,b,c,d,e,S,rfl⟩:=p;rw[aM,hlen]at S;exact⟨_,rfl,_,rfl,(by show 2<=sizeLine;decide),fun r hr'=>q r _ a b (aZ hr' _) (SqT.of aG) S⟩
noncomputable def Ox(K:W.Frag):Sp:=fun vs H Q _=>∃(a l:Addr) (n:Int) (ts:L0) (xs:List Int),vs=[.ref a,.ref l]/\aF K H a n ts/\SqT K H l (xs.map V.int)/\cJ n xs/\∀r H',Same H H'->SqT K H' r ((best ts xs).map V.int)->Q (.ref r) H'
theorem Ss{n:Int}{ts:L0}{xs:List Int}{H:Hp}{r:Addr}(hok:cJ n xs)(h1:n<=10)(h:jy K H r (xs.length:Int) (rows (Af xs ts) (xs.length:Int) (xs.length:Int).toNat)):aF K H r (xs.length:Int) (rows (Af xs ts) (xs.length:Int) (xs.length:Int).toNat):=
 have hl:=hok.len h1;have hw:=je (n:=(xs.length:Int)) (i:=(xs.length:Int).toNat) (ts:=rows (Af xs ts) (xs.length:Int) (xs.length:Int).toNat) (by omega) (by omega) (by rw[<-lX];exact Oe)
 ⟨h,by omega,by omega,hw.1,hw.2⟩
theorem Rm{f f1 f2:Addr}{fd d1 d2:ρ}(F:Fun K "greatest_apart_in" "greatest_apart_in" X3 f fd)(D1:bF K mg "greatest_apart" Wk ["web"] f1 d1)(G1:FnOk P w K mg base CX0 9 f1 d1 ["web"] (oV K))(D2:bF K mg "cut_down" jj ["web","some"] f2 d2)(G2:FnOk P w K mg base CX0 8 f2 d2 ["web","some"] (Oz K))(aX:mg "tuple"=none):
  FnOk P w K mg base CX0 10 f fd ["web","left"] (Ox K):=by
 refine F.cM ["web","left"] fun cdv A outer s H vs Q E hr h=> ?_;obtain⟨a,l,n,ts,xs,rfl,hA,hL,hok,q⟩:=h;refine⟨_,(aQ (bW (pT Ed aX (aj (pK ["k"] ["left"] [1] (Eb (pc G1 hr D1 (aj (pc G2 hr D2 (aj (pv 0) (aj (pv 1) ak))) ak))) (pG 0) qJ (bY (DW K) (pv 1) (pv 0))) ak)))),?_⟩;refine⟨_,rfl,_,rfl,a,l,n,ts,xs,rfl,hA,hL,hok,fun c H1 s1 hc=> ?_⟩;refine⟨c,_,_,rfl,Ss hok hA.h1 hc,fun g z H2 s2 hg M=> ?_⟩;have s12:=s1.trans s2;have M':qp z (rows (Af xs ts) (xs.length:Int) (xs.length:Int).toNat) false xs.length:=M;have eb:=Cy hA.pk hok hA.h0 M';have zb:∀k∈z,0<=k/\k<(xs.length:Int):=by
  obtain⟨ss,hS,i,hi,_⟩:=M';exact(fJ _ _ (dY.mp (hS.1.mem_iff.mp (nP hi))).1).lt
 refine⟨g,_,rfl,hg,fun hz=> ?_⟩;refine NT (xs:=z.map V.int) (fun k acc σ H'=>acc=((z.take k).map fun i=>xs.getD i.toNat 0).map V.int/\Same H2 H'/\∃o,σ=[o,some (.ref l)]) ⟨rfl,Same.refl _,_,rfl⟩ (fun k acc σ H' _ p=>p.2.1.tup hg) (fun k acc σ H' hk p=> ?_) hz (fun k x acc σ H' hx pp=> ?_) (fun acc σ H' p=> ?_)
 ·rw[p.1,aM,aM,qU];exact Kl _ _
 ·obtain⟨rfl,sm,o,rfl⟩:=pp;rw[dD]at hx;cases ex:z[k]? with
  |none=>rw[ex]at hx;cases hx
  |some y=>
   rw[ex]at hx;cases hx;have hb:=zb y (nP ex);refine⟨_,rfl,_,rfl,l,_,_,_,rfl,rfl,(s12.trans sm).tup hL,iW hb.1 hb.2,?_,sm,_,rfl⟩;rw[zF,ex,cg,cg];rfl
 ·intro p1 hp1;obtain⟨rfl,sm,_⟩:=p;refine⟨p1,_,rfl,.inl ⟨SqL.of aG,fun r hr'=> ?_⟩⟩;refine q r _ (s12.trans (sm.trans ((aZ hp1 _).trans (aZ hr' _)))) (SqT.of ?_);rw[aG,aM,uy,eb]
noncomputable def Ow(K:W.Frag):Sp:=fun vs H Q _=>∃(a:Addr) (n:Int) (ts:L0),vs=[.ref a]/\aF K H a n ts/\∀r H',Same H H'->cQ K H' r (dR ts (rng n.toNat))->H r=none->Q (.ref r) H'
noncomputable def Wb(K:W.Frag)(a o:Addr)(n:Int)(ts:L0)(H0:Hp)(m:Nat)(σ:St)(H:Hp):Prop:=
 ∃(l:Addr) (done:List (List Int)) (xs:List Int) (b3:Option V),σ=[some (.ref a),some (.ref o),some (.ref l),b3]/\Same H0 H/\cQ K H o done/\SqT K H l (xs.map V.int)/\cJ n xs/\done++dR ts xs=dR ts (rng n.toNat)/\m=xs.length
theorem cQ.push{H:Hp}{o r:Addr}{done:List (List Int)}{s:List Int}{its:List (Addr×List Int)}(h2:∀p∈its,SqT K H p.1 (p.2.map V.int))(h1:H o=some (.lst (its.map fun p=>V.ref p.1)))(h3:its.map (fun p=>p.2)=done)(hr:SqT K H r (s.map V.int)):cQ K (upd H o (.lst ((its.map fun p=>V.ref p.1)++[.ref r]))) o (done++[s]):=by
 refine⟨its++[(r,s)],by rw[aG,cg];rfl,fun p hp=> ?_,by rw[cg,h3];rfl⟩;rcases fH.mp hp with q|q
 ·exact aA.tup ((aA.refl o H).upd) h1 (h2 p q)
 ·rw[eN.mp q];exact aA.tup ((aA.refl o H).upd) h1 hr
theorem QT(n:Int):cJ n (rng n.toNat):=Kv n
theorem sI(n:Nat):(rng n).length=n:=Fb n
theorem Rh{f f1 f2:Addr}{fd d1 d2:ρ}(F:Fun K "sets_one_by_one" "sets_one_by_one" XS f fd)(D1:bF K mg "greatest_apart_in" X3 ["web","left"] f1 d1)(G1:FnOk P w K mg base CX0 10 f1 d1 ["web","left"] (Ox K))(D2:bF K mg "without" kW ["some","part"] f2 d2)(G2:FnOk P w K mg base CX0 1 f2 d2 ["some","part"] (q9 K))(aX:mg "tuple"=none)(au:mg "range"=none):
  FnOk P w K mg base CX0 11 f fd ["web"] (Ow K):=by
 refine F.cM ["web","sets","left","part"] fun cdv A outer s H vs Q E hr h=> ?_;obtain⟨a,n,ts,rfl,hA,q⟩:=h;refine⟨_,(aR (pS 1 (nJ ak)) (aR (pS 2 (mj rfl rfl aX rfl au (aj (bY gF (pv 0) aK) ak))) (aR (ps_while qL (kZ K (pv 2) (fun _=>rfl)) (aR (pS 3 (pc G1 hr D1 (aj (pv 0) (aj (pv 2) ak)))) (aR (iw (pe_bm JZ T7 T4 S8 (pv 1) (aj (pv 3) ak))) (aQ (pS 2 (pc G2 hr D2 (aj (pv 2) (aj (pv 3) ak)))))))) (aQ (bW (pv 1)))))),?_⟩;have h0:=hA.h0;have h10:=hA.h1;refine⟨(by show 0<=sizeLine;decide),fun o ho=> ?_⟩;have s2:=aZ ho (.lst []);have ho2:upd H o (.lst []) o=some (.lst []):=aG;generalize upd H o (.lst [])=H2 at *;obtain⟨ta,ra,a1,a2,a3⟩:=id (hA.same s2).web;refine⟨_,rfl,a,_,_,.int n,rfl,rfl,a1,rfl,n,rfl,h0,by omega,fun l hl=> ?_⟩;rw[uE];have s3:=s2.trans (aZ hl (.tup ((rng n.toNat).map V.int)));have ho3:=(aZ hl (.tup ((rng n.toNat).map V.int))) _ _ ho2;have hl3:SqT K (upd H2 l (.tup ((rng n.toNat).map V.int))) l ((rng n.toNat).map V.int):=SqT.of aG;generalize upd H2 l (.tup ((rng n.toNat).map V.int))=H3 at *;refine⟨Wb K a o n ts H,⟨_,l,[],rng n.toNat,_,rfl,s3,⟨[],ho3,fun p hp=>(nomatch hp),rfl⟩,hl3,QT n,rfl,rfl⟩,?_⟩;rintro m σ H4 ⟨l,done,xs,b3,rfl,sm,hS,Pj,hok,hd,rfl⟩;have hlen:=hok.len h10;refine⟨_,rfl,_,.inr (.inl ⟨_,Pj,rfl⟩),?_⟩;refine ite2 (fun c=> ?_) (fun c=> ?_)
 ·have hne:xs≠[]:=fun e=>by
   rw[e]at c;exact absurd c (by decide)
  refine⟨fun σ' H'=>∃m',m'<xs.length/\Wb K a o n ts H m' σ' H',fun σ' H' h=>h,?_⟩;refine⟨_,rfl,_,rfl,a,l,n,ts,xs,rfl,hA.same sm,Pj,hok,fun r H5 s5 Xl=> ?_⟩;obtain⟨its,i1,i2,i3⟩:=hS.same s5;have il:its.length<=1000:=by
   have e1:its.length=done.length:=by rw[<-i3,aM]
   have e2:done.length<=(dR ts (rng n.toNat)).length:=by rw[<-hd,eO];omega
   have e3:=(lB (ts:=ts) _ (rng n.toNat) (bH _)).1;rw[sI]at e3;omega
  refine⟨_,rfl,.inl ⟨rfl,_,SqL.of i1⟩,_,rfl,o,_,_,rfl,rfl,i1,by rw[aM,cY];omega,?_⟩;have x6:Same H (upd H5 o (.lst ((its.map fun p=>V.ref p.1)++[.ref r]))):=fun b u e=>by
   have nb:b≠o:=fun z=>by rw[z,ho]at e;cases e
   rw[cN nb];exact(sm.trans s5) _ _ e
  have hS6:=cQ.push i2 i1 i3 Xl;have hl6:SqT K (upd H5 o (.lst ((its.map fun p=>V.ref p.1)++[.ref r]))) l (xs.map V.int):=aA.tup ((aA.refl o H5).upd) i1 (s5.tup Pj);have hr6:SqT K (upd H5 o (.lst ((its.map fun p=>V.ref p.1)++[.ref r]))) r ((best ts xs).map V.int):=aA.tup ((aA.refl o H5).upd) i1 Xl;generalize upd H5 o (.lst ((its.map fun p=>V.ref p.1)++[.ref r]))=H6 at *;refine⟨_,rfl,_,rfl,l,r,xs,best ts xs,rfl,hl6,hr6,fun l2 H8 s8 h8=> ?_⟩;refine⟨(rest ts xs).length,jL hne,l2,done++[best ts xs],rest ts xs,_,rfl,x6.trans s8,hS6.same s8,h8,hok.rest ts,?_,rfl⟩;rw[<-hd,jq hne,W7];rfl
 ·have hn:xs=[]:=by
   rcases xs with _|⟨x,xs⟩
   ·rfl
   ·exact absurd rfl c
  subst hn;rw[lC,qT]at hd;subst hd;exact⟨_,rfl,q o H4 sm hS ho⟩
noncomputable def hl:List (List Int)->Nat
 |[]=>1
 |s::_=>s.length
noncomputable def Gs(ss:List (List Int))(p:Int):Int×Int:=
 (((hh (hl ss)).2:Int)/((Nat.gcd (hh (hl ss)).2 ((hh (hl ss)).1*((kO ss p).getD 0).toNat):Nat):Int),(((hh (hl ss)).1*((kO ss p).getD 0).toNat/Nat.gcd (hh (hl ss)).2 ((hh (hl ss)).1*((kO ss p).getD 0).toNat):Nat):Int))
theorem prc_eq{ss:List (List Int)}{p:Int}{m a b sz v:Nat}{u:Int}(hm:hl ss=m)(hm0:0<m)(S:Sum m a b)(hs:kO ss p=some (sz:Int))(h0:0<sz)(L:Low (b:Int) (a*sz) u v):((u,((v:Nat):Int)):Int×Int)=Gs ss p:=by
 have hb:0<(hh m).1*sz:=TF (Io m hm0) h0;have M:=HD ((hh m).2:Int) ((hh m).1*sz) hb;have e:(b:Int)*(((hh m).1*sz:Nat):Int)=((hh m).2:Int)*((a*sz:Nat):Int):=by
  have q:b*((hh m).1*sz)=(hh m).2*(a*sz):=by
   have:=S.eq
   calc b*((hh m).1*sz)=((hh m).1*b)*sz:=by ac_rfl
    _=(a*(hh m).2)*sz:=by rw[this]
    _=(hh m).2*(a*sz):=by ac_rfl
  exact_mod_cast q
 obtain⟨e1,e2⟩:=Mh L M (TF (S.num hm0) h0) hb e;have es:((kO ss p).getD 0).toNat=sz:=by rw[hs];rfl
 unfold Gs;rw[es,hm,e1,e2];rfl
structure Nv(n:Nat)(ss:List (List Int)):Prop where
 le:ss.length<=10
 each:∀s∈ss,s.length<=10/\s≠[]
 all:∀p:Int,0<=p->p<(n:Int)->∃s∈ss,p∈s
theorem Nv.hl{n:Nat}{ss:List (List Int)}(h:Nv n ss):0<hl ss/\Hs.hl ss<=10:=by
 cases ss with
 |nil=>exact⟨by decide,by decide⟩
 |cons s ss=>
  have:=h.each s (cH ..);exact⟨List.length_pos_iff.mpr this.2,this.1⟩
theorem Ir{ts:L0}{n:Int}(h1:n<=10):Nv n.toNat (dR ts (rng n.toNat)):=by
 have g:=lB (ts:=ts) _ (rng n.toNat) (bH _);rw[sI]at g;refine⟨by omega,fun s hs=>⟨?_,(g.2 s hs).2⟩,fun p p0 p1=>vM _ _ (bH _) p (Em.mpr ⟨p0,p1⟩)⟩;have:=(g.2 s hs).1.length_le;rw[sI]at this;omega
structure Ue(H:Hp)(d:Addr)(m:Nat)(g:Int->Option Int):Prop where
 ex:∃kvs,H d=some (.dK kvs)/\kvs.length<=m/\∀p:Int,valV kvs (.inl p)=(g p).map V.int
theorem Ue.put{H:Hp}{d:Addr}{m:Nat}{g:Int->Option Int}{kvs:List (Key×V)}(h1:H d=some (.dK kvs))(h2:kvs.length<=m)(h3:∀p:Int,valV kvs (.inl p)=(g p).map V.int)(p k:Int):Ue (upd H d (.dK (putK kvs (.inl p) (.int k)))) d (m+1) (fun q=>if q=p then some k else g q):=by
 refine⟨_,aG,cC (length_putK _ _ _) (by omega),fun q=> ?_⟩;rw[valV_put];by_cases e:q=p
 ·rw[aL (by rw[e]),aL e];rfl
 ·rw[aJ (fun z=>e (Sum.inl.inj z)),aJ e];exact h3 q
noncomputable def uF(K:W.Frag):Sp:=fun vs H Q _=>∃(l:Addr) (n:Int) (ss:List (List Int)),vs=[.ref l,.int n]/\cQ K H l ss/\0<=n/\n<=10/\Nv n.toNat ss/\∀r H',Same H H'->DP K H' r ((rng n.toNat).map (Gs ss))->H r=none->Q (.ref r) H'
theorem Ci{f f1 f2:Addr}{fd d1 d2:ρ}(F:Fun K "prices_by_sets" "prices_by_sets" XR f fd)(D1:bF K mg "sum_of" oY ["fractions"] f1 d1)(G1:FnOk P w K mg base CX0 2 f1 d1 ["fractions"] (zX K))(D2:bF K mg "lowest" jG ["a","b"] f2 d2)(G2:FnOk P w K mg base CX0 2 f2 d2 ["a","b"] (FN K))(aU:mg "len"=none)(au:mg "range"=none):
  FnOk P w K mg base CX0 3 f fd ["sets","n"] (uF K):=by
 refine F.cM ["sets","n","most","h","size_at","part","place"] fun cdv A outer s H vs Q E hr h=> ?_;obtain⟨l,n,ss,rfl,hS,hn0,hn1,hok,q⟩:=h;refine⟨_,(aR (pS 2 (pe_ifExp (kZ K (pv 0) (fun _=>rfl)) (pB nO aU (aj (bY uw (pv 0) aK) ak)) aK)) (aR (pS 3 (pc G1 hr D1 (aj (pK ["k"] [] [] (pi_range2 rfl au (aj aK (aj (bM mO (pv 2) aK) ak))) (pG 0) qJ (cA (aj aK (aj (pv 0) ak)))) ak))) (aR (pS 4 pe_dnewK) (aR (rR qL rfl (Bl (pv 0)) (pG 5) (aQ (rR qL rfl (Eb (pv 5)) (pG 6) (aQ (ps_dput (zG (Tj (by decide:1<=64) _) hr.units) (pv 4) (pv 6) (pB nO aU (aj (pv 5) ak)) rfl))))) (aQ (bW (pK ["place"] ["h","size_at"] [3,4] (rY rfl au (aj (pv 1) ak)) (pG 0) qJ (pc G2 hr D2 (aj (bY (DW K) (pv 1) aK) (aj (bM jN (bY (DW K) (pv 1) aK) (pe_dget (zG (Tj (by decide:1<=64) _) hr.units) (pv 2) (pv 0) (fun _ _=>rfl))) ak)))))))))),?_⟩;obtain⟨its,i1,i2,i3⟩:=hS;obtain⟨hl0,hl1⟩:=hok.hl;refine KQ (fun σ' H'=>H'=H/\σ'=[some (.ref l),some (.int n),some (.int (hl ss:Int)),none,none,none,none]) (fun N hN=> ?_) ?_
 ·refine⟨_,rfl,_,.inl ⟨_,SqL.of i1,rfl⟩,?_⟩;cases its with
  |nil=>
   have:ss=[]:=by rw[<-i3];rfl
   subst this;exact iteF (hN _ _ ⟨rfl,rfl⟩)
  |cons p0 tl=>
   have hs0:hl ss=p0.2.length:=by rw[<-i3];rfl
   refine iteT ?_;refine⟨_,rfl,l,_,_,.ref p0.1,rfl,rfl,SqL.of i1,atI_nat (j:=0) rfl,p0.1,_,rfl,.inr (i2 p0 (cH ..)),fun _=>hN _ _ ⟨rfl,?_⟩⟩;rw[hs0,aM];rfl
 rintro σ' H' ⟨rfl,rfl⟩;generalize hm:hl ss=m at *;refine⟨_,rfl,_,_,rfl,rfl,_,_,rfl,⟨by omega,by omega,by omega,by omega⟩,?_⟩;refine wO (n:=((m:Int)+1-1).toNat) (fun k acc σ H2=>Same H' H2/\(∃us:List Addr,acc=us.map V.ref/\us.length=k/\∀(i:Nat) a,us[i]? =some a->SqT K H2 a [.int 1,.int ((i+1:Nat):Int)])/\∃o,σ=[o]) ⟨Same.refl _,⟨[],rfl,rfl,fun i a h=>by simp at h⟩,_,rfl⟩ (fun k acc σ H2 _ p=>by obtain⟨_,⟨us,rfl,h,_⟩,_⟩:=p;rw[aM];omega) (by rw[cY];omega) (fun k acc σ H2 hk p=> ?_) (fun acc σ H2 p=> ?_)
 ·obtain⟨s2,⟨us,rfl,ul,ut⟩,o,rfl⟩:=p;refine⟨_,rfl,(by show 2<=sizeLine;decide),fun t ht=> ?_⟩;have s3:=aZ ht (.tup [.int 1,.int (1+(k:Int))]);refine⟨s2.trans s3,⟨us++[t],by rw[cg];rfl,by rw[eO,ul];rfl,fun i a hi=> ?_⟩,_,rfl⟩;rcases Nat.lt_trichotomy i us.length with c|c|c
  ·rw[WD c]at hi;exact s3.tup (ut i a hi)
  ·rw[c,Tq (bH _),U3]at hi;cases hi;have e:((i+1:Nat):Int)=1+(k:Int):=by omega
   rw[e];exact SqT.of aG
  ·rw[Tq (by omega)]at hi;have:([t]:List Addr)[i-us.length]? =none:=by rw[List.getElem?_eq_none_iff];show 1<=_;omega
   rw[this]at hi;cases hi
 intro p1 hp1;obtain⟨s2,⟨us,rfl,ul,ut⟩,_⟩:=p;have s3:=aZ hp1 (.lst (us.map V.ref));have U:Pz K (upd H2 p1 (.lst (us.map V.ref))) p1 m:=⟨us,aG,by omega,fun i a hi=>s3.tup (ut i a hi)⟩;have OJ:=s2.trans s3;generalize upd H2 p1 (.lst (us.map V.ref))=H3 at *;refine⟨p1,m,rfl,U,hl1,fun h H4 a b s4 hh4 S=> ?_⟩;have Bv:=OJ.trans s4;intro d hd;have s5:=aZ hd (.dK []);have D0:Ue (upd H4 d (.dK [])) d 0 (fun p=>kO [] p):=⟨[],aG,bH _,fun p=>rfl⟩;generalize upd H4 d (.dK [])=H5 at *;refine⟨_,rfl,l,_,rfl,SqL.of ((Bv.trans s5) _ _ i1),fun _=> ?_⟩;refine for_list (K:=K) (a:=l) (xs:=its.map fun p=>V.ref p.1) (fun i σ H'=>Same H4 H'/\Ue H' d (10*i) (fun p=>kO (ss.take i) p)/\∃o5 o6,σ=[some (.ref l),some (.int n),some (.int (m:Int)),some (.ref h),some (.ref d),o5,o6]) ⟨s5,D0,_,_,rfl⟩ (fun i σ H' _ p=>SqL.of (p.1 _ _ (Bv _ _ i1))) (fun i x σ H6 hx p=> ?_) (fun σ H6 p=> ?_)
 ·obtain⟨s6,D,o5,o6,rfl⟩:=p;rw[dD]at hx;cases ex:its[i]? with
  |none=>rw[ex]at hx;cases hx
  |some v=>
   rw[ex]at hx;cases hx;have hv:=Bv.tup (i2 v (nP ex));have es:ss[i]? =some v.2:=by rw[<-i3,dD,ex];rfl
   have vl:=(hok.each v.2 (nP es)).1;have hi:i<10:=by have:=(qW.mp es).1;have:=hok.le;omega
   refine⟨_,rfl,v.1,_,rfl,s6.tup hv,fun _=> ?_⟩;refine for_tup (K:=K) (a:=v.1) (xs:=v.2.map V.int) (fun j σ H'=>Same H4 H'/\Ue H' d (10*i+j) (fun p=>if p∈v.2.take j then some ((v.2.length:Nat):Int)else kO (ss.take i) p)/\∃o6,σ=[some (.ref l),some (.int n),some (.int (m:Int)),some (.ref h),some (.ref d),some (.ref v.1),o6]) ⟨s6,by simpa using D,_,rfl⟩ (fun j σ H' _ p=>p.1.tup hv) (fun j x σ H7 hx p=> ?_) (fun σ H7 p=> ?_)
   ·obtain⟨s7,⟨kvs,k1,k2,k3⟩,o6,rfl⟩:=p;rw[dD]at hx;cases ey:v.2[j]? with
    |none=>rw[ey]at hx;cases hx
    |some y=>
     rw[ey]at hx;cases hx;have hj:j<10:=by have:=(qW.mp ey).1;omega
     refine⟨_,rfl,v.1,_,rfl,.inr (s7.tup hv),fun _=>⟨_,rfl,_,rfl,d,_,rfl,DPut.k (k:= .inl y) k1 (by rw[cY];omega),?_⟩⟩;have D2:=Ue.put k1 k2 k3 y ((v.2.length:Nat):Int);refine⟨fun b u e=>by rw[cN (fun z=>by rw[z,hd]at e;cases e)];exact s7 _ _ e,?_,_,rfl⟩;rw[aM];obtain⟨kv2,c1,c2,c3⟩:=D2.ex;refine⟨kv2,c1,c2,fun p=> ?_⟩;have et:v.2.take (j+1)=v.2.take j++[y]:=by rw[zF,ey];rfl
     rw[c3 p,et];by_cases e1:p=y
     ·rw[aL e1,aL (fH.mpr (.inr (by rw[e1];exact eN.mpr rfl)))]
     ·rw[aJ e1];by_cases e2:p∈v.2.take j
      ·rw[aL e2,aL (fH.mpr (.inl e2))]
      ·rw[aJ e2,aJ (fun z=>(fH.mp z).elim e2 fun z=>e1 (eN.mp z))]
   ·obtain⟨s7,D7,o6,rfl⟩:=p;refine⟨s7,?_,_,_,rfl⟩;rw[aM,uy]at D7;obtain⟨kvs,c1,c2,c3⟩:=D7.ex;refine⟨kvs,c1,by omega,fun p=> ?_⟩;rw[c3 p,zF,es];show _=(kO (ss.take i++[v.2]) p).map V.int;rw[qZ]
 ·obtain⟨s6,D,o5,o6,rfl⟩:=p;have el:(its.map fun p=>V.ref p.1).length=ss.length:=by rw[aM,<-i3,aM]
  rw[el,uy]at D;obtain⟨kvs,k1,k2,k3⟩:=D.ex;have hh6:=s6.tup hh4;refine⟨_,rfl,_,rfl,by omega,by omega,?_⟩;refine wO (n:=n.toNat) (fun k acc σ H7=>Same H6 H7/\acc.length=k/\bB K H7 acc (((rng k).map (Gs ss)).map pairD)/\∃o,σ=[o,some (.ref h),some (.ref d)]) ⟨Same.refl _,rfl,.nil,_,rfl⟩ (fun k acc σ H7 _ p=>by rw[p.2.1];exact bH _) (by rw[cY];omega) (fun k acc σ H7 hk p=> ?_) (fun acc σ H7 p=> ?_)
  ·obtain⟨s7,al,dv,o,rfl⟩:=p;obtain⟨sz,z1,z2,z3⟩:=zQ _ ss (k:Int) rfl (hok.all (k:Int) (by omega) (by omega)) (fun s hs=>(hok.each s hs).1);have la:a<=10^100:=cC S.la (su hl1);have lb:b<=10^100:=cC S.lb (su hl1);have e0:(0:Int)+(k:Int)=(k:Int):=by omega
   have l1:a*sz<=10^100*10:=Us la z3;have gd:DGet H7 d (.int (0+(k:Int))) (some (.int (sz:Int))):= .inl ⟨kvs,.inl (0+(k:Int)),.inl (s7 _ _ k1),rfl,by rw[k3,e0,z1];rfl⟩;refine⟨_,rfl,h,_,_,.int (b:Int),rfl,rfl,s7.tup hh6,rfl,_,rfl,h,_,_,.int (a:Int),rfl,rfl,s7.tup hh6,rfl,_,rfl,_,rfl,d,_,rfl,gd,_,_,rfl,rfl,⟨wA la,wA (cC z3 (by decide+kernel))⟩,?_⟩;refine⟨(b:Int),a*sz,?_,TF (S.num hl0) z2,cC l1 (by decide+kernel),fun t H8 u v s8 h8 L=> ?_⟩
   ·rw[Tg];rfl
   have P:=prc_eq hm hl0 S z1 z2 L;refine⟨s7.trans s8,by rw[eO,al];rfl,?_,_,rfl⟩;rw[uM,cg,cg];refine(dv.same s8).append (.cons ?_ .nil);rw[<-P];exact DV.tup (SqT.of h8) (.cons (.int _) (.cons (.int _) .nil))
  ·intro p2 hp2;obtain⟨s7,al,dv,o,rfl⟩:=p;have s8:=aZ hp2 (.lst acc);have sA:=Bv.trans (s6.trans s7);exact q p2 _ (sA.trans s8) ⟨acc,aG,dv.same s8⟩ (sA.free hp2)
noncomputable def Gb(K:W.Frag):Sp:=fun vs H Q _=>∃(a:Addr) (n:Int) (ts:L0),vs=[.ref a]/\aF K H a n ts/\
 ∀r l1 l2 H',Same H H'->SqT K H' r [.ref l1,.ref l2]->cQ K H' l1 (dR ts (rng n.toNat))->DP K H' l2 ((rng n.toNat).map (Gs (dR ts (rng n.toNat))))->H l1=none->H l2=none->l1≠l2->Q (.ref r) H'
theorem Cp{f f1 f2 f3:Addr}{fd d1 d2 d3:ρ}(F:Fun K "greedy" "greedy" jK f fd)(D1:bF K mg "need_web" wL ["thing"] f1 d1)(G1:FnOk P w K mg base CX0 7 f1 d1 ["thing"] (bN K))(D2:bF K mg "sets_one_by_one" XS ["web"] f2 d2)(G2:FnOk P w K mg base CX0 11 f2 d2 ["web"] (Ow K))(D3:bF K mg "prices_by_sets" XR ["sets","n"] f3 d3)(G3:FnOk P w K mg base CX0 3 f3 d3 ["sets","n"] (uF K)):
  FnOk P w K mg base CX0 12 f fd ["web"] (Gb K):=by
 refine F.cM ["web","sets"] fun cdv A outer s H vs Q E hr h=> ?_;obtain⟨a,n,ts,rfl,hA,q⟩:=h;refine⟨_,(aR (iw (pc G1 hr D1 (aj (pv 0) ak))) (aR (pS 1 (pc G2 hr D2 (aj (pv 0) ak))) (aQ (bW (cA (aj (pv 1) (aj (pc G3 hr D3 (aj (pv 1) (aj (bY gF (pv 0) aK) ak))) ak))))))),?_⟩;refine⟨_,rfl,_,_,rfl,hA.web.dv.dx,hA.ok,fun H1 s1=> ?_⟩;refine⟨_,rfl,a,n,ts,rfl,hA.same s1,fun l1 H2 s2 S2 f1=> ?_⟩;obtain⟨ta,ra,a1,a2,a3⟩:=id (hA.same (s1.trans s2)).web;refine⟨_,rfl,_,rfl,_,rfl,a,_,_,.int n,rfl,rfl,a1,rfl,l1,n,_,rfl,S2,hA.h0,hA.h1,Ir hA.h1,fun l2 H3 s3 L3 f2=> ?_⟩;refine⟨(by show 2<=sizeLine;decide),fun r hr'=> ?_⟩;have s4:=aZ hr' (.tup [.ref l1,.ref l2]);obtain⟨its,i1,_,_⟩:=id S2;exact q r l1 l2 _ ((s1.trans s2).trans (s3.trans s4)) (SqT.of aG) (S2.same (s3.trans s4)) (L3.same s4) (s1.free f1) ((s1.trans s2).free f2) (fun z=>by rw[<-z,i1]at f2;cases f2)
end
end Hs
namespace kj
open PySem L2
noncomputable def gB(n:Int)(ts:L0)(i:Int):List Int:=((List.range n.toNat).map fun k=>(0+(k:Nat):Int)).filter fun j=>ao ts i j
end kj
namespace Hs
open PySem L2 kj
section
variable{P:ξ}{w:τ}{K:W.Frag}{mg:L5}{base:Heap}
noncomputable def lR(K:W.Frag):Sp:=fun vs H Q _=>∃(a:Addr) (n i:Int) (t:V),vs=[.ref a,.int i]/\SqT K H a [.int n,t]/\0<=i/\i<n/\Q .non H
theorem sS{f f1:Addr}{fd d1:ρ}(F:Fun K "need_place" "need_place" fO f fd)(D1:bF K mg "is_place" fY ["n","thing"] f1 d1)(G1:FnOk P w K mg base CX0 2 f1 d1 ["n","thing"] (sG K)):FnOk P w K mg base CX0 3 f fd ["web","thing"] (lR K):=by
 refine F.cM ["web","thing"] fun cdv A outer s H vs Q E hr h=> ?_;obtain⟨a,n,i,t,rfl,hS,h0,h1,q⟩:=h;refine⟨_,aQ (eF (ur (rT (pc G1 hr D1 (aj (bY gF (pv 0) aK) (aj (pv 1) ak))))) wN iG),?_⟩;refine⟨_,rfl,a,_,_,.int n,rfl,rfl,hS,rfl,_,rfl,n,.int i,.int i,rfl,.int i,_,rfl,?_⟩;have e:bh n (.int i)=true:=by show(decide (0<=i)&&decide (i<n))=true;rw[dF h0,dF h1];rfl
 rw[e];exact iteF q
noncomputable def zZ(K:W.Frag):Sp:=fun vs H Q _=>∃(a:Addr) (n i:Int) (ts:L0),vs=[.ref a,.int i]/\jy K H a n ts/\Jz n ts/\(0<=i/\i<n)/\n<=10/\∀r H',Same H H'->H' r=some (.tup ((gB n ts i).map V.int))->Q (.ref r) H'
theorem GZ{f f1 f2 f3:Addr}{fd d1 d2 d3:ρ}(F:Fun K "neighbours" "neighbours" fM f fd)(D1:bF K mg "need_web" wL ["thing"] f1 d1)(G1:FnOk P w K mg base CX0 7 f1 d1 ["thing"] (bN K))(D2:bF K mg "need_place" fO ["web","thing"] f2 d2)(G2:FnOk P w K mg base CX0 3 f2 d2 ["web","thing"] (lR K))(D3:bF K mg "has_tie" P0 ["web","one","other"] f3 d3)(G3:FnOk P w K mg base CX0 1 f3 d3 ["web","one","other"] (lU K))(mT:mg "tuple"=none)(mR:mg "range"=none):FnOk P w K mg base CX0 8 f fd ["web","place"] (zZ K):=by
 refine F.cM ["web","place"] fun cdv A outer s H vs Q E hr h=> ?_;obtain⟨a,n,i,ts,rfl,hW,hok,hi,hn,q⟩:=h;refine⟨_,aR (iw (pc G1 hr D1 (aj (pv 0) ak))) (aR (iw (pc G2 hr D2 (aj (pv 0) (aj (pv 1) ak)))) (aQ (bW (pT Ed mT (aj (pK ["other"] ["web","place"] [0,1] (rY rfl mR (aj (bY gF (pv 0) aK) ak)) (pG 0) (cW (rT (pc G3 hr D3 (aj (pv 1) (aj (pv 2) (aj (pv 0) ak)))))) (pv 0)) ak))))),?_⟩;refine⟨_,rfl,_,_,rfl,hW.dv.dx,hok,fun H1 s1=> ?_⟩;obtain⟨t,rs,h1,h2,h3⟩:=hW.same s1;refine⟨_,rfl,_,rfl,a,n,i,_,rfl,h1,hi.1,hi.2,?_⟩;refine⟨_,rfl,a,_,_,.int n,rfl,rfl,h1,rfl,n,rfl,by omega,by omega,?_⟩;refine wO (fun k acc σ H'=>acc=(((List.range k).map fun k=>(0+(k:Nat):Int)).filter fun j=>ao ts i j).map V.int/\Same H1 H'/\∃o,σ=[o,some (.ref a),some (.int i)]) ⟨rfl,Same.refl _,_,rfl⟩ (fun k acc σ H' hk p=> ?_) (by rw[cY];omega) (fun k acc σ H' hk p=> ?_) (fun acc σ H' p=> ?_)
 ·rw[p.1,aM];refine cC (wW _ _) ?_;simp
 ·obtain⟨rfl,sm,o,rfl⟩:=p;refine⟨_,rfl,_,rfl,_,rfl,a,n,i,_,ts,rfl,hW.same (s1.trans sm),fun H2 s2=>⟨_,rfl,?_⟩⟩;have ea:((List.range (k+1)).map fun k=>(0+(k:Nat):Int)).filter (fun j=>ao ts i j)=((List.range k).map fun k=>(0+(k:Nat):Int)).filter (fun j=>ao ts i j)++(if ao ts i (0+(k:Int))=true then[0+(k:Int)]else[]):=by
   rw[Qd,cg,Oc];congr 1;show List.filter _ [0+(k:Int)]=_;rw[wV];rfl
  rw[ea];refine ite2 (fun c=> ?_) (fun c=> ?_)
  ·refine⟨_,rfl,?_,sm.trans s2,_,rfl⟩;rw[aL c,cg];rfl
  ·refine⟨?_,sm.trans s2,_,rfl⟩;rw[aJ c,qT]
 ·intro p1 hp1;obtain⟨rfl,sm,_⟩:=p;refine⟨p1,_,rfl,.inl ⟨SqL.of aG,fun l hl=> ?_⟩⟩;exact q l _ (s1.trans (sm.trans ((aZ hp1 _).trans (aZ hl _)))) aG
end
end Hs
namespace L2
open PySem
theorem bB.snoc{K:W.Frag}{H:Hp}{xs:List V}{ds:List θ}{x:V}{d:θ}(h:bB K H xs ds)(h':DV K H x d):bB K H (xs++[x]) (ds++[d]):=h.append (.cons h' .nil)
end L2
namespace Hs
open PySem L2 kj
theorem qO{α β γ:Type}{f:α->β}{g:β->γ}{l:List α}{i:Nat}(hi:i<l.length):((l.take i).map f).map g++[g (f l[i])]=((l.take (i+1)).map f).map g:=by
 rw[zF,jc hi,cg,cg];rfl
section
variable{P:ξ}{w:τ}{K:W.Frag}{mg:L5}{base:Heap}
noncomputable def aN(n no:Int)(ts aB:L0)(ys:List Int):Bool:=decide ((ys.length:Int)=n)&&(ys.all (fun y=>decide (0<=y)&&decide (y<no))&&ts.all fun p=>ao aB (ys.getD p.1.toNat 0) (ys.getD p.2.toNat 0))
noncomputable def zW(K:W.Frag):Sp:=fun vs H Q _=>∃(a o sm:Addr) (n no:Int) (ts aB:L0) (ys:List Int),vs=[.ref a,.ref o,.ref sm]/\aF K H a n ts/\aF K H o no aB/\SqT K H sm (ys.map V.int)/\
 ∀H',Same H H'->Q (.bl (aN n no ts aB ys)) H'
theorem yW(no:Int)(ys:List Int):(ys.map PyData.int).all (bh no)=ys.all (fun y=>decide (0<=y)&&decide (y<no)):=by rw[JQ];rfl
theorem Mp(ys:List Int):(V.int ((ys.map V.int).length:Int))=V.int (ys.length:Int):=by rw[aM]
theorem Il{a b:Int}:(!decide (V.int a=V.int b))= !decide (a=b):=by
 by_cases e:a=b
 ·subst e;simp
 ·rw[cI e,cI (by intro z;injection z with z;exact e z)]
theorem Rb{f f1 f2 f3:Addr}{fd d1 d2 d3:ρ}(F:Fun K "is_way" "is_way" eV f fd)(D1:bF K mg "need_web" wL ["thing"] f1 d1)(G1:FnOk P w K mg base CX0 7 f1 d1 ["thing"] (bN K))(D2:bF K mg "are_places" Wg ["n","things"] f2 d2)(G2:FnOk P w K mg base CX0 3 f2 d2 ["n","things"] (oO K))(D3:bF K mg "has_tie" P0 ["web","one","other"] f3 d3)(G3:FnOk P w K mg base CX0 1 f3 d3 ["web","one","other"] (lU K))(aU:mg "len"=none)(sY:mg "isinstance"=none)(aX:mg "tuple"=none)(jQ:mg "all"=none):
  FnOk P w K mg base CX0 8 f fd ["web","other","some"] (zW K):=by
 refine F.cM ["web","other","some"] fun cdv A outer s H vs Q E hr h=> ?_;obtain⟨a,o,sm,n,no,ts,aB,ys,rfl,hA,hO,hY,q⟩:=h;refine⟨_,(aR (iw (pc G1 hr D1 (aj (pv 0) ak))) (aR (iw (pc G1 hr D1 (aj (pv 1) ak))) (aR (eF (PW.pt (pw_or (ur (rT (pB fu sY (aj (pv 2) (aj (pN "tuple" aX) ak))))) (pw_or (dW op_ne (pB nO aU (aj (pv 2) ak)) (bY gF (pv 0) aK)) (pw_or1 (ur (rT (pc G2 hr D2 (aj (bY gF (pv 1) aK) (aj (pv 2) ak))))))))) (aQ (bW pe_bl)) iG) (aQ (bW (pB (NQ rfl) jQ (aj (pK ["i","j"] ["other","some"] [1,2] (Eb (bY gF (pv 0) aK)) (gj K (n:=2) rfl (nM (pG 0) (nM (pG 1) Ea))) qJ (pc G3 hr D3 (aj (pv 2) (aj (bY (DW K) (pv 3) (pv 0)) (aj (bY (DW K) (pv 3) (pv 1)) ak))))) ak))))))),?_⟩;refine⟨_,rfl,_,_,rfl,hA.web.dv.dx,hA.ok,fun H1 s1=> ?_⟩;refine⟨_,rfl,_,_,rfl,(hO.same s1).web.dv.dx,hO.ok,fun H2 s2=> ?_⟩;have s12:=s1.trans s2;obtain⟨ta,ra,a1,a2,a3⟩:=id (hA.same s12).web;obtain⟨to,ro,o1,o2,o3⟩:=id (hO.same s12).web;have VB:=s12.tup hY;refine⟨_,rfl,.ref sm,"tuple",_,rfl,.inl ⟨rfl,_,VB⟩,.inr (.inr (.inl rfl)),_,rfl,?_⟩;refine iteF ?_;refine⟨_,rfl,sm,_,rfl,.inr VB,fun hz=>⟨_,rfl,a,_,_,.int n,rfl,rfl,a1,rfl,rfl,_,rfl,?_⟩⟩;rw[Mp,Il];refine ite2 (fun c=> ?_) (fun c=> ?_)
 ·have e:aN n no ts aB ys=false:=by unfold aN;rw[cI (by simpa using c)];rfl
  have:=q H2 s12;rw[e]at this;exact this
 have hlen:(ys.length:Int)=n:=by simpa using c
 refine⟨_,rfl,o,_,_,.int no,rfl,rfl,o1,rfl,_,rfl,no,sm,_,_,rfl,VB,bB.dx (bB.ints ys),fun H3 s3=>⟨_,rfl,?_⟩⟩;rw[yW];refine ite2 (fun c2=> ?_) (fun c2=> ?_)
 ·have e:aN n no ts aB ys=false:=by unfold aN;rw[show ys.all (fun y=>decide (0<=y)&&decide (y<no))=false by simpa using c2];simp
  have:=q H3 (s12.trans s3);rw[e]at this;exact this
 have hall:ys.all (fun y=>decide (0<=y)&&decide (y<no))=true:=by simpa using c2
 refine⟨_,rfl,a,_,_,.ref ta,rfl,rfl,s3.tup a1,rfl,ta,ra,rfl,s3.tup a2,fun hz2=> ?_⟩;have h45:=hA.len;have hra:=a3.len;rw[aM]at hra;refine NT (xs:=ra) (fun i acc σ H'=>acc=((ts.take i).map fun p=>ao aB (ys.getD p.1.toNat 0) (ys.getD p.2.toNat 0)).map V.bl/\Same H3 H'/\∃o1 o2,σ=[o1,o2,some (.ref o),some (.ref sm)]) ⟨rfl,Same.refl _,_,_,rfl⟩ (fun i acc σ H' _ p=>p.2.1.tup (s3.tup a2)) (fun i acc σ H' hi p=> ?_) hz2 (fun i x acc σ H' hx p=> ?_) (fun acc σ H' p=> ?_)
 ·rw[p.1];simp;omega
 ·obtain⟨rfl,sm',b1,b2,rfl⟩:=p;obtain⟨t,hi,rfl,ht⟩:=nU a3 hx;have OD:=s3.trans sm';have hp:=hA.pk.lt ts[i] (Bm _);have hO':=(hO.same (s12.trans OD)).web;refine⟨t,_,rfl,OD.tup ht,rfl,_,_,rfl,_,_,rfl,rfl,?_⟩;refine⟨_,rfl,_,rfl,_,rfl,sm,_,_,_,rfl,rfl,OD.tup VB,iW hp.1 (by omega),_,rfl,_,rfl,sm,_,_,_,rfl,rfl,OD.tup VB,iW (by omega) (by omega),?_⟩;refine⟨o,no,_,_,aB,rfl,hO',fun H5 s5=>⟨?_,sm'.trans s5,_,_,rfl⟩⟩;exact qO (f:=fun p:Int×Int=>ao aB (ys.getD p.1.toNat 0) (ys.getD p.2.toNat 0)) hi
 ·intro p1 hp1;obtain⟨rfl,sm',_⟩:=p;refine⟨p1,(ts.map fun p=>ao aB (ys.getD p.1.toNat 0) (ys.getD p.2.toNat 0)),rfl,SqL.of (by rw[aG,hra,uy]),?_⟩;have:=q _ (s12.trans (s3.trans (sm'.trans (aZ hp1 (.lst (((ts.take ra.length).map fun p=>ao aB (ys.getD p.1.toNat 0) (ys.getD p.2.toNat 0)).map V.bl))))));rw[jY];have e:aN n no ts aB ys=ts.all fun p=>ao aB (ys.getD p.1.toNat 0) (ys.getD p.2.toNat 0):=by unfold aN;rw[dF hlen,hall];rfl
  rw[e]at this;exact this
noncomputable def yj(aB:L0)(xs:List Int)(p:Int×Int):Prop:=ao aB (xs.getD p.1.toNat 0) (xs.getD p.2.toNat 0)=true
noncomputable def rB(K:W.Frag):Sp:=fun vs H Q _=>∃(cp bA o:Addr) (ns:List Int) (n no b:Int) (aB:L0),vs=[.ref cp,.ref o,.int n]/\cB K H cp bA ns b/\b<=900000000/\aF K H o no aB/\0<no/\0<=n/\n<=10/\
 ∀r wb sm ts xs H',aA cp H H'->cB K H' cp bA ns (b+140)->SqT K H' r [.ref wb,.ref sm]->aF K H' wb n ts->SqT K H' sm (xs.map V.int)->(xs.length:Int)=n->(∀x∈xs,0<=x/\x<no)->(∀p∈ts,yj aB xs p)->Q (.ref r) H'
theorem xR{f f1 f2:Addr}{fd d1 d2:ρ}(F:Fun K "_law_e_planted" "_law_e_planted" XH f fd)(D1:bF K mg "_law_e_dip" Td ["cup","many"] f1 d1)(G1:FnOk P w K mg base CX0 2 f1 d1 ["cup","many"] (uJ K))(D2:bF K mg "_law_e_tied" fQ ["web","one","other"] f2 d2)(G2:FnOk P w K mg base CX0 1 f2 d2 ["web","one","other"] (lU K))(aX:mg "tuple"=none)(au:mg "range"=none):
  FnOk P w K mg base CX0 3 f fd ["cup","other","n"] (rB K):=by
 refine F.cM ["cup","other","n","some","often","ties","i","j"] fun cdv A outer s H vs Q E hr h=> ?_;obtain⟨cp,bA,o,ns,n,no,b,aB,rfl,hC,hb,hO,hno,hn0,hn1,q⟩:=h;refine⟨_,(aR (pS 3 (pT Ed aX (aj (pK ["place"] ["cup","other"] [0,1] (rY rfl au (aj (pv 2) ak)) (pG 0) qJ (pc G1 hr D1 (aj (pv 1) (aj (bY (DW K) (pv 2) aK) ak)))) ak))) (aR (pS 4 (bM mO aK (pc G1 hr D1 (aj (pv 0) (aj aK ak))))) (aR (pS 5 (nJ ak)) (aR (rR qL rfl (rY rfl au (aj (pv 2) ak)) (pG 6) (aQ (rR qL rfl (pi_range2 rfl au (aj (bM mO (pv 6) aK) (aj (pv 2) ak))) (pG 7) (aQ (eF (PW.pt (pw_and (rT (pc G2 hr D2 (aj (pv 1) (aj (bY gF (pv 3) (pv 6)) (aj (bY gF (pv 3) (pv 7)) ak))))) (pw_and1 (dW op_lt (pc G1 hr D1 (aj (pv 0) (aj aK ak))) (pv 4))))) (aQ (iw (pe_bm JZ T7 T4 S8 (pv 5) (aj (cA (aj (pv 6) (aj (pv 7) ak))) ak)))) iG))))) (aQ (bW (cA (aj (cA (aj (pv 2) (aj (pT Ed aX (aj (pv 5) ak)) ak))) (aj (pv 3) ak))))))))),?_⟩;have ZV:=hO.h1;obtain⟨z0,hz0⟩:=hC.lst;refine⟨_,rfl,n,rfl,by omega,by omega,?_⟩;refine wO (n:=n.toNat) (fun i acc σ H'=>(∃xs:List Int,acc=xs.map V.int/\xs.length=i/\∀x∈xs,0<=x/\x<no)/\aA cp H H'/\cB K H' cp bA ns (b+(i:Int))/\∃o1,σ=[o1,some (.ref cp),some (.ref o)]) ⟨⟨[],rfl,rfl,fun x h=>(nomatch h)⟩,aA.refl _ _,hC.mono (by omega),_,rfl⟩ (fun i acc σ H' hi p=> ?_) (by rw[cY];omega) (fun i acc σ H' hi p=> ?_) (fun acc σ H' p=> ?_)
 ·obtain⟨⟨xs,rfl,h1,_⟩,_⟩:=p;rw[aM];omega
 ·obtain⟨⟨xs,rfl,h1,h2⟩,x,c,o1,rfl⟩:=p;obtain⟨to,ro,w1,w2,w3⟩:=id (hO.cT x hz0).web;refine⟨_,rfl,_,rfl,o,_,_,.int no,rfl,rfl,w1,rfl,cp,bA,ns,no,_,rfl,c,by omega,hno,by omega,fun d H2 hd0 hd1 x2 c2=>⟨⟨xs++[d],by rw[cg];rfl,by simp[h1],fun y hy=> ?_⟩,x.trans x2,by rw[show b+((i+1:Nat):Int)=b+(i:Int)+1 by omega];exact c2,_,rfl⟩⟩;rcases fH.mp hy with hy|hy
  ·exact h2 y hy
  ·rw[eN.mp hy];exact⟨hd0,hd1⟩
 ·intro p1 hp1;obtain⟨⟨xs,rfl,h1,h2⟩,x1,c1,_⟩:=p;have s2:=aZ hp1 (.lst (xs.map V.int));refine⟨p1,_,rfl,.inl ⟨SqL.of aG,fun sm hsm=> ?_⟩⟩;have s3:=aZ hsm (.tup (xs.map V.int));have OJ:=s2.trans s3;have hX:SqT K (upd (upd H' p1 (.lst (xs.map V.int))) sm (.tup (xs.map V.int))) sm (xs.map V.int):=SqT.of aG;have x3:=x1.trans (OJ.x cp);have c3:=c1.same OJ;generalize (upd (upd H' p1 (.lst (xs.map V.int))) sm (.tup (xs.map V.int)))=H3 at *;refine⟨_,rfl,cp,bA,ns,6,_,rfl,c3,by omega,by decide,by decide,fun of H4 ho0 ho1 x4 c4=>⟨_,_,rfl,rfl,?_⟩⟩;obtain⟨z3,Mx⟩:=c3.lst;obtain⟨z4,Zt⟩:=c4.lst;have VD:=x4.tup Mx hX;have WK:=x3.trans x4;refine⟨(by show 0<=sizeLine;decide),fun tl htl=> ?_⟩;have s5:=aZ htl (.lst []);have Ru:tl≠cp:=vd Zt htl;have Y0:H tl=none:=WK.free Ru htl;have x05:=WK.trans (s5.x cp);have c5:=c4.same s5;have Ua:=s5.tup VD;have hT5:(upd H4 tl (.lst [])) tl=some (.lst []):=aG;generalize (upd H4 tl (.lst []))=H5 at *;refine⟨_,rfl,n,rfl,by omega,by omega,?_⟩;refine Kh (n:=n.toNat) (fun i σ H'=>aA cp H H'/\cB K H' cp bA ns (b+11+10*(i:Int))/\SqT K H' sm (xs.map V.int)/\bZ K H' tl (rows tt n i) (yj aB xs)/\∃a6 a7,σ=[some (.ref cp),some (.ref o),some (.int n),some (.ref sm),some (.int (1+of)),some (.ref tl),a6,a7])
   ⟨x05,c5.mono (by omega),Ua,bZ.nil hT5,_,_,rfl⟩ (fun i σ H' hi p=> ?_) (fun σ H' p=> ?_)
  ·obtain⟨x,c,Kd,tl1,a6,a7,rfl⟩:=p;refine⟨_,rfl,_,_,rfl,rfl,_,rfl,_,_,rfl,⟨by omega,by omega,by omega,by omega⟩,?_⟩;refine Kh (n:=(n-(0+(i:Int)+1)).toNat) (fun k σ H'=>aA cp H H'/\cB K H' cp bA ns (b+11+10*(i:Int)+(k:Int))/\SqT K H' sm (xs.map V.int)/\bZ K H' tl (rows tt n i++row tt (0+(i:Int)) k) (yj aB xs)/\∃a7,σ=[some (.ref cp),some (.ref o),some (.int n),some (.ref sm),some (.int (1+of)),some (.ref tl),some (.int (0+(i:Int))),a7])
    ⟨x,c.mono (by omega),Kd,by rw[show row tt (0+(i:Int)) 0=[]from rfl,qT];exact tl1,_,rfl⟩ (fun k σ H' hk p=> ?_) (fun σ H' p=> ?_)
   ·obtain⟨x,c,Kd,tl1,a7,rfl⟩:=p;obtain⟨zs,hz⟩:=c.lst;have hOx:=(hO.cT x hz0).web;have er:rows tt n i++row tt (0+(i:Int)) (k+1)=(rows tt n i++row tt (0+(i:Int)) k)++[(0+(i:Int),0+(i:Int)+1+(k:Int))]:=by rw[oZ,aL (show tt _ _=true from rfl),W7]
    have ec:b+11+10*(i:Int)+((k+1:Nat):Int)=b+11+10*(i:Int)+(k:Int)+1:=by omega
    rw[er,ec];refine⟨_,rfl,_,rfl,_,rfl,sm,_,_,_,rfl,rfl,Kd,iW (by omega) (by omega),_,rfl,_,rfl,sm,_,_,_,rfl,rfl,Kd,iW (by omega) (by omega),o,no,_,_,aB,rfl,hOx,fun H2 s2=>⟨_,rfl,?_⟩⟩;refine ite2 (fun cc=> ?_) (fun cc=> ?_)
    ·refine⟨_,rfl,cp,bA,ns,6,_,rfl,c.same s2,by omega,by decide,by decide,fun d H3 hd0 hd1 x3 c3=>⟨_,rfl,_,_,rfl,rfl,_,rfl,?_⟩⟩;have tl3:=(tl1.same s2).step x3 (s2 _ _ hz) Ru;have Xo:=x3.tup (s2 _ _ hz) (s2.tup Kd);refine ite2 (fun c2=> ?_) (fun c2=> ?_)
     ·obtain⟨rs,ts,h1,h2,h3,h4⟩:=tl3;have hl:=sub_len hn1 (by omega) h3;have hrl:=h2.len;rw[aM]at hrl;refine⟨_,rfl,.inl ⟨rfl,_,SqL.of h1⟩,_,rfl,_,rfl,(by show 2<=sizeLine;decide),fun p hp=> ?_⟩;have s4:=aZ hp (.tup [.int (0+(i:Int)),.int (0+(i:Int)+1+(k:Int))]);refine⟨tl,rs,_,rfl,rfl,s4 _ _ h1,(by rw[cY];omega),?_⟩;have xw:aA tl (upd H3 p (.tup [.int (0+(i:Int)),.int (0+(i:Int)+1+(k:Int))])) (upd (upd H3 p (.tup [.int (0+(i:Int)),.int (0+(i:Int)+1+(k:Int))])) tl (.lst (rs++[.ref p]))):=(aA.refl _ _).upd;refine⟨fun q o hq e=> ?_,(c3.same s4).other xw (s4 _ _ h1) Ru.symm,xw.tup (s4 _ _ h1) (s4.tup Xo),bZ.push (s4 _ _ h1) (h2.same s4) h3 h4 (SqT.of aG) cc,_,rfl⟩;have nq:q≠tl:=fun z=>by rw[z,Y0]at e;cases e
      exact xw _ _ nq (s4 _ _ (x3 _ _ hq (s2 _ _ (x _ _ hq e))))
     ·exact⟨(x.trans (s2.x _)).trans x3,c3,Xo,tl3.mono (Wy _ _),_,rfl⟩
    ·exact⟨x.trans (s2.x _),(c.same s2).mono (by omega),s2.tup Kd,(tl1.same s2).mono (Wy _ _),_,rfl⟩
   ·obtain⟨x,c,Kd,tl1,a7,rfl⟩:=p;rw[<-eX]at tl1;exact⟨x,c.mono (by omega),Kd,tl1,_,_,rfl⟩
  ·obtain⟨x,c,Kd,⟨rs,ts,h1',h2',h3,h4⟩,a6,a7,rfl⟩:=p;refine⟨_,rfl,_,rfl,tl,rs,rfl,.inl ⟨SqL.of h1',fun t ht=>⟨(by show 2<=sizeLine;decide),fun wb Zv=>⟨_,rfl,(by show 2<=sizeLine;decide),fun r hr'=> ?_⟩⟩⟩⟩;have s3:=aZ ht (.tup rs);have s4:=aZ Zv (.tup [.int n,.ref t]);have s5:=aZ hr' (.tup [.ref wb,.ref sm]);have QK:=s3.trans (s4.trans s5);obtain⟨g1,g2⟩:=je hn0 hn1 h3;exact q r wb sm ts xs _ (x.trans (QK.x _)) ((c.same QK).mono (by omega)) (SqT.of aG) ⟨⟨t,rs,SqT.of (s5 _ _ aG),SqT.of ((s4.trans s5) _ _ aG),h2'.same QK⟩,hn0,hn1,g1,g2⟩ (QK.tup Kd) (by omega) h2 h4
theorem Paired.at_{α β:Type}{R:α->β->Prop}:∀{l:List α} {m:List β} {i:Nat} {a:α},Paired R l m->l[i]? =some a->∃b,m[i]? =some b/\R a b
 |_,_,_,_,.nil,e=>by simp at e
 |_,_,0,_,.cons r _,e=>by simp at e;subst e;exact⟨_,rfl,r⟩
 |_,_,i+1,a,.cons _ t,e=>by
  obtain⟨b,h1,h2⟩:=Paired.at_ (i:=i) (a:=a) t (by simpa using e);exact⟨b,by simpa using h1,h2⟩
theorem Paired.HN{α β:Type}{R:α->β->Prop}:∀{l:List α} {m:List β},Paired R l m->l.length=m.length
 |_,_,.nil=>rfl
 |_,_,.cons _ t=>by simp[Paired.HN t]
theorem rH{n y z:Int}{ts:L0}:z∈gB n ts y↔(0<=z/\z<n)/\ao ts y z=true:=by
 unfold gB;rw[dY,gH];constructor
 ·rintro⟨⟨k,hk,rfl⟩,h⟩;have:=wU.mp hk;exact⟨⟨by omega,by omega⟩,h⟩
 ·rintro⟨⟨a,b⟩,h⟩;exact⟨⟨z.toNat,wU.mpr (by omega),by omega⟩,h⟩
theorem dO(ts:L0)(i j:Int):ao ts i j=ao ts j i:=by
 unfold ao;congr 2;rcases Uv i j with c|c|c
 ·rw[aJ (by omega),aL (show j>i by omega),aL c,aJ (show¬i>j by omega)]
 ·subst c;rfl
 ·rw[aL c,aJ (show¬j>i by omega),aJ (by omega),aL (show i>j by omega)]
theorem vZ{H:Hp}:∀{l:List Int} {xs:List V},bB K H xs (l.map PyData.int)->xs=l.map V.int
 |[],_,h=>by cases h;rfl
 |i::l,_,h=>by
  cases h with
  |cons a t=>rw[vZ t];cases a;rfl
noncomputable def JB(K:W.Frag)(H:Hp):List (Addr×Addr)->NK.SK->Prop:=Paired fun i p=>SqT K H i.1 [.int p.1,.ref i.2]/\SqT K H i.2 (p.2.map V.int)
theorem zR{H:Hp}{b:Addr}{k:NK.SK}(h:DV K H (.ref b) (NK.toD k)):∃its:List (Addr×Addr),SqT K H b (its.map fun i=>V.ref i.1)/\JB K H its k:=by
 have go:∀{k:NK.SK} {xs:List V},bB K H xs (k.map NK.rE)->∃its:List (Addr×Addr),xs=its.map (fun i=>V.ref i.1)/\JB K H its k:=fun{k}=>by
  induction k with
  |nil=>intro xs h;cases h;exact⟨[],rfl,.nil⟩
  |cons p k ih=>
   intro xs h;cases h with
   |cons a t=>
    obtain⟨its,rfl,r⟩:=ih t;unfold NK.rE at a;cases a with
    | @tup a ys _ hs ht=>
     cases ht with
     |cons h1 t1=>
      cases h1;cases t1 with
      |cons h2 t2=>
       cases t2;cases h2 with
       | @tup q zs _ hq hz=>
        have:=vZ hz;subst this;exact⟨(a,q)::its,rfl,.cons ⟨hs,hq⟩ r⟩
 unfold NK.toD at h;cases h with
 | @tup a xs _ hs ht=>
  obtain⟨its,rfl,r⟩:=go ht;exact⟨its,hs,r⟩
theorem O7{H:Hp}{b:Addr}{k:NK.SK}{its:List (Addr×Addr)}(h:SqT K H b (its.map fun i=>V.ref i.1))(r:JB K H its k):DV K H (.ref b) (NK.toD k):=by
 refine .tup h ?_;clear h
 induction r with
 |nil=>exact .nil
 |cons a _ ih=>exact .cons (.tup a.1 (.cons (.int _) (.cons (.tup a.2 (bB.ints _)) .nil))) ih
theorem JB.same{H H':Hp}{its:List (Addr×Addr)}{k:NK.SK}(h:JB K H its k)(e:Same H H'):JB K H' its k:=Paired.mapP h fun _ _ z=>⟨e.tup z.1,e.tup z.2⟩
theorem JB.cT{H H':Hp}{t:Addr}{zs:List V}{its:List (Addr×Addr)}{k:NK.SK}(h:JB K H its k)(e:aA t H H')(hn:H t=some (.lst zs)):JB K H' its k:=Paired.mapP h fun _ _ z=>⟨e.tup hn z.1,e.tup hn z.2⟩
noncomputable def Jg(ln lf d:Addr):List (Str×V):=[("near",.ref ln),("far",.ref lf),("led_nowhere",.ref d)]
structure SeA(K:W.Frag)(C:Addr)(H:Hp)(o dx ln lf d:Addr)(nn ff:List Addr)(n no:Int)(ts aB:L0):Prop where
 at_:H o=some (.ins C dx (Jg ln lf d))
 near:SqL K H ln (nn.map V.ref)
 nlen:(nn.length:Int)=n
 ntup:∀(i:Nat) a,nn[i]? =some a->SqT K H a ((gB n ts (i:Int)).map V.int)
 far:SqL K H lf (ff.map V.ref)
 R6:(ff.length:Int)=no
 R5:∀(i:Nat) a,ff[i]? =some a->SqT K H a ((gB no aB (i:Int)).map V.int)
noncomputable def Kf(K:W.Frag)(C:Addr)(H:Hp)(o d:Addr)(n no:Int)(ts aB:L0):Prop:=∃dx ln lf nn ff,SeA K C H o dx ln lf d nn ff n no ts aB
theorem Kf.same{C:Addr}{H H':Hp}{o d:Addr}{n no:Int}{ts aB:L0}(h:Kf K C H o d n no ts aB)(e:Same H H'):Kf K C H' o d n no ts aB:=by
 obtain⟨dx,ln,lf,nn,ff,h⟩:=h;exact⟨dx,ln,lf,nn,ff,e _ _ h.at_,e.seq h.near,h.nlen,fun i a z=>e.tup (h.ntup i a z),e.seq h.far,h.R6,fun i a z=>e.tup (h.R5 i a z)⟩
theorem zU{H H':Hp}{a b:Addr}{φ:Heap->Prop}{xs:List V}(ha:H a=some (.ext φ))(e:∀c o,c≠a->H c=some o->H' c=some o)(h:SqL K H b xs):SqL K H' b xs:=by
 rcases h with(q|⟨o,q⟩)|q
 ·exact .inl (.inl (e _ _ (fun z=>by rw[z,ha]at q;cases q) q))
 ·exact .inl (.inr ⟨o,e _ _ (fun z=>by rw[z,ha]at q;cases q) q⟩)
 ·exact .inr q
theorem Kf.but{C:Addr}{H H':Hp}{o d:Addr}{n no:Int}{ts aB:L0}{φ:Heap->Prop}(h:Kf K C H o d n no ts aB)(ha:H d=some (.ext φ))(e:∀c o,c≠d->H c=some o->H' c=some o):Kf K C H' o d n no ts aB:=by
 obtain⟨dx,ln,lf,nn,ff,h⟩:=h;exact⟨dx,ln,lf,nn,ff,e _ _ (fun z=>by have:=h.at_;rw[z,ha]at this;cases this) h.at_,zU ha e h.near,h.nlen,fun i a z=>iz ha e (h.ntup i a z),zU ha e h.far,h.R6,fun i a z=>iz ha e (h.R5 i a z)⟩
theorem Jy{as:List Addr}{i:Int}(h0:0<=i)(h1:i<(as.length:Int)):∃a,as[i.toNat]? =some a/\atI (as.map V.ref) i=some (.ref a):=by
 have hi:i.toNat<as.length:=by omega
 refine⟨as[i.toNat],jc hi,?_⟩;have z:atI (as.map V.ref) ((i.toNat:Nat):Int)=some (.ref as[i.toNat]):=atI_nat (by rw[dD,jc hi];rfl)
 rwa [show((i.toNat:Nat):Int)=i by omega]at z
noncomputable def uK(K:W.Frag):Sp:=fun vs H Q _=>∃(b:Addr) (k:NK.SK),vs=[.ref b]/\DV K H (.ref b) (NK.toD k)/\k.length<=10/\∀H',Same H H'->Q (.bl (k.all fun p=> !p.2.isEmpty)) H'
theorem Rq{f:Addr}{fd:ρ}(F:Fun K "are_left_open" "are_left_open" Uq f fd)(jQ:mg "all"=none)(aU:mg "len"=none):
  FnOk P w K mg base CX0 1 f fd ["state"] (uK K):=by
 refine F.cM ["state"] fun cdv A outer s H vs Q E hr h=> ?_;obtain⟨b,k,rfl,hk,hl,qq⟩:=h;refine⟨_,(aQ (bW (pB (NQ rfl) jQ (aj (pK ["place","images"] [] [] (Eb (pv 0)) (gj K (n:=2) rfl (nM (pG 0) (nM (pG 1) Ea))) qJ (pe_cmpR op_gt (pB (rQ K) aU (aj (pv 1) ak)) aK)) ak)))),?_⟩;obtain⟨its,h1,h2⟩:=zR hk;have hlen:=Paired.HN h2;refine⟨_,rfl,b,_,rfl,h1,fun hz=> ?_⟩;refine NT (xs:=its.map fun i=>V.ref i.1) (fun i acc σ H'=>acc=((k.take i).map fun p=> !p.2.isEmpty).map V.bl/\H'=H/\∃o1 o2,σ=[o1,o2]) ⟨rfl,rfl,_,_,rfl⟩ (fun i acc σ H' _ p=>by rw[p.2.1];exact h1) (fun i acc σ H' hi p=>by rw[p.1,aM,aM,qU];exact Kl _ _) hz (fun i x acc σ H' hx p=> ?_) (fun acc σ H' p=> ?_)
 ·obtain⟨rfl,rfl,o1,o2,rfl⟩:=p;rw[dD]at hx;cases ex:its[i]? with
  |none=>rw[ex]at hx;cases hx
  |some y=>
   rw[ex]at hx;cases hx;obtain⟨p,hp,r1,r2⟩:=Paired.at_ h2 ex;refine⟨y.1,_,rfl,r1,rfl,_,_,rfl,_,_,rfl,rfl,?_⟩;refine⟨_,rfl,y.2,_,rfl,.inr r2,fun _=> ?_⟩;refine⟨_,_,rfl,rfl,?_,rfl,_,_,rfl⟩;have eb:decide ((0:Int)<(((p.2.map V.int).length:Nat):Int))= !p.2.isEmpty:=by
    rw[aM];cases p.2 with
    |nil=>rfl
    |cons z zs=>exact dF (by simp only[lO];omega)
   show _++[V.bl (decide ((0:Int)<(((p.2.map V.int).length:Nat):Int)))]=_;rw[eb,zF,hp,cg,cg];rfl
 ·intro p1 hp1;obtain⟨rfl,rfl,_⟩:=p;rw[aM,hlen,uy];refine⟨p1,_,rfl,SqL.of aG,?_⟩;have e:(k.map fun p=> !p.2.isEmpty).all id=k.all fun p=> !p.2.isEmpty:=by rw[JQ];rfl
  rw[e];exact qq _ (aZ hp1 _)
noncomputable def Ac(K:W.Frag):Sp:=fun vs H Q _=>∃(p q:Addr) (i:Int) (l:List Int),vs=[.ref p]/\SqT K H p [.int i,.ref q]/\SqT K H q (l.map V.int)/\Q (.int (l.length:Int)) H
theorem Rp{f:Addr}{fd:ρ}(F:Fun K "count_images" "count_images" Uo f fd)(aU:mg "len"=none):
  FnOk P w K mg base CX0 1 f fd ["open_place"] (Ac K):=by
 refine F.cM ["open_place"] fun cdv A outer s H vs Q E hr h=> ?_;obtain⟨p,q,i,l,rfl,hp,hq,qq⟩:=h;refine⟨_,(aQ (bW (pB nO aU (aj (bY gF (pv 0) aK) ak)))),?_⟩;refine⟨_,rfl,p,_,_,.ref q,rfl,rfl,hp,rfl,q,_,rfl,.inr hq,fun _=> ?_⟩;rw[aM];exact qq
noncomputable def Fy(K:W.Frag)(C:Addr):Sp:=fun vs H Q _=>∃(o d q:Addr) (n no img:Int) (ts aB:L0) (l:List Int),vs=[.ref o,.ref q,.int img]/\Kf K C H o d n no ts aB/\SqT K H q (l.map V.int)/\0<=img/\img<no/\(∀y∈l,0<=y/\y<no)/\
 ∀r H',Same H H'->H' r=some (.tup ((l.filter fun y=>ao aB img y).map V.int))->Q (.ref r) H'
theorem Lg{f C:Addr}{fd:ρ}(F:Fun K "images_left" "Search.images_left" X4 f fd)
  (Cc:Cls K C)(cF:NoAttr K C "near")(dM:NoAttr K C "far")(aD:NoAttr K C "led_nowhere")(aX:mg "tuple"=none):
  FnOk P w K mg base CX0 1 f fd ["self","images","image"] (Fy K C):=by
 refine F.cM ["self","images","image"] fun cdv A outer s H vs Q E hr h=> ?_;obtain⟨o,d,q,n,no,img,ts,aB,l,rfl,⟨dx,ln,lf,nn,ff,hS⟩,hq,i0,i1,hl,qq⟩:=h;refine⟨_,(aQ (bW (pT Ed aX (aj (pK ["other"] ["self","image"] [0,2] (Eb (pv 1)) (pG 0) (cW (dW (nW K hr.units) (pv 0) (bY (vD K) (K9 K (pv 1) rfl) (pv 2)) (by with_unfolding_all rfl))) (pv 0)) ak)))),?_⟩;have fl:=hS.R6;obtain⟨fa,f1,f2⟩:=Jy i0 (show img<(ff.length:Int) by omega);have ft:=hS.R5 _ _ f1;rw[show((img.toNat:Nat):Int)=img by omega]at ft;refine⟨_,rfl,q,_,rfl,hq,fun hz=> ?_⟩;refine NT (xs:=l.map V.int) (fun i acc σ H'=>acc=((l.take i).filter fun y=>ao aB img y).map V.int/\H'=H/\∃o1,σ=[o1,some (.ref o),some (.int img)]) ⟨rfl,rfl,_,rfl⟩ (fun i acc σ H' _ p=>by rw[p.2.1];exact hq) (fun i acc σ H' hi p=> ?_) hz (fun i x acc σ H' hx p=> ?_) (fun acc σ H' p=> ?_)
 ·rw[p.1,aM];exact cC (wW _ _) (by rw[qU];exact Kl _ _)
 ·obtain⟨rfl,rfl,o1,rfl⟩:=p;rw[dD]at hx;cases ex:l[i]? with
  |none=>rw[ex]at hx;cases hx
  |some y=>
   rw[ex]at hx;cases hx;have hy:=hl y (nP ex);refine⟨_,rfl,_,rfl,o,C,dx,_,_,rfl,hS.at_,Cc,dM,rfl,_,rfl,lf,_,_,.ref fa,rfl,rfl,hS.far,f2,fa,_,_,.int y,rfl,.inr ft,bB.ints _,.int _,NZ _,rfl,(by show 0<=60;decide),_,rfl,?_⟩;have em:((gB no aB img).map PyData.int).any (fun d=>PyData.eqv d (.int y))=ao aB img y:=by
    rw[any_ints,qM,wZ,rH];exact⟨fun z=>z.2,fun z=>⟨hy,z⟩⟩
   rw[em];have go:(l.take (i+1)).filter (fun y=>ao aB img y)=(l.take i).filter (fun y=>ao aB img y)++(if ao aB img y=true then[y]else[]):=by
    rw[zF,ex,Oc];congr 1;show List.filter _ [y]=_;rw[wV];rfl
   refine ite2 (fun c=> ?_) (fun c=> ?_)
   ·exact⟨_,rfl,by rw[go,aL c,cg];rfl,rfl,_,rfl⟩
   ·exact⟨by rw[go,aJ c,qT],rfl,_,rfl⟩
 ·intro p1 hp1;obtain⟨rfl,rfl,_⟩:=p;rw[aM,uy];refine⟨p1,_,rfl,.inl ⟨SqL.of aG,fun r hr'=> ?_⟩⟩;exact qq r _ ((aZ hp1 _).trans (aZ hr' _)) aG
theorem Jw{T U:Int->Int->Bool}{k:NK.SK}{l img:Int}{i:Nat}{p:Int×List Int}(h:k[i]? =some p):Sw.mF T U (k.take (i+1)) l img=Sw.mF T U (k.take i) l img++(if T l p.1=true then[(p.1,p.2.filter fun y=>U img y)]else if p.1=l then[]else[p]):=by
 unfold Sw.mF;rw[zF,h,List.filterMap_append];congr 1;show List.filterMap _ [p]=_;rw[Tn];by_cases c:T l p.1=true
 ·rw[aL c,aL c];rfl
 ·rw[aJ c,aJ c];by_cases c2:p.1=l
  ·rw[aL c2,aL c2];rfl
  ·rw[aJ c2,aJ c2];rfl
noncomputable def oM(K:W.Frag)(C:Addr):Sp:=fun vs H Q _=>∃(o d b:Addr) (n no l img:Int) (ts aB:L0) (k:NK.SK),vs=[.ref o,.ref b,.int l,.int img]/\Kf K C H o d n no ts aB/\DV K H (.ref b) (NK.toD k)/\k.length<=10/\(0<=l/\l<n)/\(0<=img/\img<no)/\Sw.Ug n no k/\
 ∀r H',Same H H'->DV K H' (.ref r) (NK.toD (Sw.mF (ao ts) (ao aB) k l img))->Q (.ref r) H'
theorem Lh{f f1 C:Addr}{fd d1:ρ}(F:Fun K "state_behind" "Search.state_behind" Ur f fd)
  (Cc:Cls K C)(cF:NoAttr K C "near")(dM:NoAttr K C "far")(aD:NoAttr K C "led_nowhere")(D1:DK K C "images_left" "Search.images_left" X4 ["self","images","image"] f1 d1)(G1:FnOk P w K mg base CX0 1 f1 d1 ["self","images","image"] (Fy K C))(aX:mg "tuple"=none):
  FnOk P w K mg base CX0 2 f fd ["self","state","led","image"] (oM K C):=by
 refine F.cM ["self","state","led","image","rest","place","images"] fun cdv A outer s H vs Q E hr h=> ?_;obtain⟨o,d,b,n,no,l,img,ts,aB,k,rfl,VF,hk,aal,hl,hi,hO,qq⟩:=h;refine⟨_,(aR (pS 4 (nJ ak)) (aR (rR qL rfl (Eb (pv 1)) (pg_tup rfl (nM (pG 5) (nM (pG 6) Ea))) (aQ (eF (dW (pD hr.units) (pv 5) (bY uw (pe_fld (pv 0) rfl) (pv 2)) (by with_unfolding_all rfl)) (aQ (iw (pe_bm JZ T7 T4 S8 (pv 4) (aj (cA (aj (pv 5) (aj (pe_meth (pv 0) Cc D1.m G1 hr D1.b .nil pass0 (aj (pv 6) (aj (pv 3) ak))) ak))) ak)))) (aQ (eF (dW op_ne (pv 5) (pv 2)) (aQ (iw (pe_bm JZ T7 T4 S8 (pv 4) (aj (cA (aj (pv 5) (aj (pv 6) ak))) ak)))) iG))))) (aQ (bW (pT Ed aX (aj (pv 4) ak)))))),?_⟩;obtain⟨its,h1,h2⟩:=zR hk;have hlen:=Paired.HN h2;refine⟨(by show 0<=sizeLine;decide),fun rl hrl=> ?_⟩;have s1:=aZ hrl (.lst []);have e1:(upd H rl (.lst [])) rl=some (.lst []):=aG;generalize (upd H rl (.lst []))=H1 at *;refine⟨_,rfl,b,_,rfl,s1.tup h1,fun hz=> ?_⟩;refine for_tup (K:=K) (a:=b) (xs:=its.map fun i=>V.ref i.1) (fun i σ H'=>∃(its':List (Addr×Addr)) (o5 o6:Option V),σ=[some (.ref o),some (.ref b),some (.int l),some (.int img),some (.ref rl),o5,o6]/\Same H H'/\H' rl=some (.lst (its'.map fun i=>V.ref i.1))/\JB K H' its' (Sw.mF (ao ts) (ao aB) (k.take i) l img)/\its'.length<=i)
  ⟨[],_,_,rfl,s1,e1,.nil,bH _⟩ (fun i σ H' _ p=> ?_) (fun i x σ H' hx p=> ?_) (fun σ H' p=> ?_)
 ·obtain⟨_,_,_,_,xx,_⟩:=p;exact xx.tup h1
 ·obtain⟨its',o5,o6,rfl,xx,er,hst,hil⟩:=p;rw[dD]at hx;cases ex:its[i]? with
  |none=>rw[ex]at hx;cases hx
  |some y=>
   rw[ex]at hx;cases hx;obtain⟨p,hp,r1,r2⟩:=Paired.at_ h2 ex;have ZJ:i<its.length:=(qW.mp ex).1;have pm:=nP hp;have pl:=hO.pl p pm;have r1':=xx.tup r1;have r2':=xx.tup r2;have hS':=VF.same xx;obtain⟨dx,ln,lf,nn,ff,hS⟩:=id hS';have nl:=hS.nlen;obtain⟨na,f1,f2⟩:=Jy hl.1 (show l<(nn.length:Int) by omega);have nt:=hS.ntup _ _ f1;rw[show((l.toNat:Nat):Int)=l by omega]at nt;have szl:its'.length<sizeLine:=by rw[cY];omega
   have step:=Jw (T:=ao ts) (U:=ao aB) (l:=l) (img:=img) hp;refine⟨y.1,_,rfl,r1',rfl,_,_,rfl,_,_,rfl,rfl,?_⟩;refine⟨_,rfl,_,rfl,o,C,dx,_,_,rfl,hS.at_,Cc,cF,rfl,_,rfl,ln,_,_,.ref na,rfl,rfl,hS.near,f2,na,_,_,.int p.1,rfl,.inr nt,bB.ints _,.int _,NZ _,rfl,(by show 0<=60;decide),_,rfl,?_⟩;have em:((gB n ts l).map PyData.int).any (fun d=>PyData.eqv d (.int p.1))=ao ts l p.1:=by
    rw[any_ints,qM,wZ,rH];exact⟨fun z=>z.2,fun z=>⟨pl,z⟩⟩
   rw[em];refine ite2 (fun c=> ?_) (fun c=> ?_)
   ·rw[aL c]at step;refine⟨_,rfl,.inl ⟨rfl,_,SqL.of er⟩,_,rfl,_,rfl,o,dx,_,rfl,hS.at_,rfl,_,rfl,_,rfl,o,d,y.2,n,no,img,ts,aB,p.2,rfl,hS',r2',hi.1,hi.2,(hO.im p pm).1,fun r H2 s2 e2=>⟨(by show 2<=sizeLine;decide),fun pn hpn=> ?_⟩⟩;have s3:=aZ hpn (.tup [.int p.1,.ref r]);have Ng:=s3 _ _ (s2 _ _ er);refine⟨rl,_,_,rfl,rfl,Ng,(by rw[aM];exact szl),?_⟩;have x4:aA rl (upd H2 pn (.tup [.int p.1,.ref r])) (upd (upd H2 pn (.tup [.int p.1,.ref r])) rl (.lst (its'.map (fun i=>V.ref i.1)++[.ref pn]))):=(aA.refl _ _).upd;refine⟨its'++[(pn,r)],_,_,rfl,fun c q z=>x4 c q (mQ z hrl) (s3 _ _ (s2 _ _ (xx _ _ z))),by rw[cg];exact aG,?_,by rw[eO];show its'.length+1<=i+1;omega⟩;rw[step];have t1:SqT K (upd H2 pn (.tup [.int p.1,.ref r])) pn [.int p.1,.ref r]:=SqT.of aG;have t2:SqT K (upd H2 pn (.tup [.int p.1,.ref r])) r ((p.2.filter fun y=>ao aB img y).map V.int):=s3.tup (SqT.of e2);exact WM (((hst.same s2).same s3).cT x4 Ng) ⟨x4.tup Ng t1,x4.tup Ng t2⟩
   ·rw[aJ c]at step;refine⟨_,rfl,_,rfl,rfl,_,rfl,?_⟩;by_cases c2:p.1=l
    ·rw[aL c2]at step;have eb:(!decide (V.int p.1=V.int l))=false:=by rw[c2,dF rfl];rfl
     rw[eb];refine iteF ?_;exact⟨its',_,_,rfl,xx,er,by rw[step,qT];exact hst,by omega⟩
    ·rw[aJ c2]at step;have eb:(!decide (V.int p.1=V.int l))=true:=by rw[cI fun z=>c2 (V.int.inj z)];rfl
     rw[eb];refine iteT ?_;refine⟨_,rfl,.inl ⟨rfl,_,SqL.of er⟩,_,rfl,_,rfl,(by show 2<=sizeLine;decide),fun pn hpn=> ?_⟩;have s3:=aZ hpn (.tup [.int p.1,.ref y.2]);have Ng:=s3 _ _ er;refine⟨rl,_,_,rfl,rfl,Ng,(by rw[aM];exact szl),?_⟩;have x4:aA rl (upd H' pn (.tup [.int p.1,.ref y.2])) (upd (upd H' pn (.tup [.int p.1,.ref y.2])) rl (.lst (its'.map (fun i=>V.ref i.1)++[.ref pn]))):=(aA.refl _ _).upd;refine⟨its'++[(pn,y.2)],_,_,rfl,fun c q z=>x4 c q (mQ z hrl) (s3 _ _ (xx _ _ z)),by rw[cg];exact aG,?_,by rw[eO];show its'.length+1<=i+1;omega⟩;rw[step];have t1:SqT K (upd H' pn (.tup [.int p.1,.ref y.2])) pn [.int p.1,.ref y.2]:=SqT.of aG;exact WM ((hst.same s3).cT x4 Ng) ⟨x4.tup Ng t1,x4.tup Ng (s3.tup r2')⟩
 ·obtain⟨its',o5,o6,rfl,xx,er,hst,hil⟩:=p;rw[aM,hlen,uy]at hst;refine⟨_,rfl,rl,_,rfl,.inl ⟨SqL.of er,fun r hr'=> ?_⟩⟩;have s5:=aZ hr' (.tup (its'.map fun i=>V.ref i.1));exact qq r _ (xx.trans s5) (O7 (SqT.of aG) (hst.same s5))
theorem w6{H H':Hp}{a b C dx:Addr}{fs:List (Str×V)}{xs:List V}(ha:H a=some (.ins C dx fs))(e:∀c o,c≠a->H c=some o->H' c=some o)(h:SqT K H b xs):SqT K H' b xs:=by
 rcases h with(q|⟨o,q⟩)|q
 ·exact .inl (.inl (e _ _ (fun z=>by rw[z,ha]at q;cases q) q))
 ·exact .inl (.inr ⟨o,e _ _ (fun z=>by rw[z,ha]at q;cases q) q⟩)
 ·exact .inr q
theorem Sd{H H':Hp}{a C dx:Addr}{fs:List (Str×V)}(ha:H a=some (.ins C dx fs))(e:∀c o,c≠a->H c=some o->H' c=some o){xs:List V}{ds:List θ}(h:bB K H xs ds)(hn:NK.dG ds=true):bB K H' xs ds:=
 bB.rec (motive_1:=fun x d _=>NK.u9 d=true->DV K H' x d) (motive_2:=fun xs ds _=>NK.dG ds=true->bB K H' xs ds)
  (fun _=> .non) (fun b _=> .bl b) (fun i _=> .int i) (fun x _=> .str x) (fun h _ t hn=> .tup (w6 ha e h) (t hn)) (fun _ _ _ hn=>by cases hn) (fun _ hn=>by cases hn) (fun _ _ hn=>by cases hn) (fun _=> .nil)
  (fun _ _ i1 i2 hn=>by
   have hn':(NK.u9 _&&NK.dG _)=true:=hn;rw[gU]at hn';exact .cons (i1 hn'.1) (i2 hn'.2)) h hn
theorem rF:∀ts:L0,NK.dG (ts.map pairD)=true
 |[]=>rfl
 |p::ts=>by show(true&&NK.dG (ts.map pairD))=true;rw[rF ts];rfl
theorem Qq{H H':Hp}{a b C dx:Addr}{fs:List (Str×V)}{n:Int}{ts:L0}(ha:H a=some (.ins C dx fs))(e:∀c o,c≠a->H c=some o->H' c=some o)(h:aF K H b n ts):aF K H' b n ts:=by
 obtain⟨⟨t,rs,h1,h2,h3⟩,x0,x1,x2,x3⟩:=h;exact⟨⟨t,rs,w6 ha e h1,w6 ha e h2,Sd ha e h3 (rF ts)⟩,x0,x1,x2,x3⟩
noncomputable def xq(K:W.Frag)(C:Addr):Sp:=fun vs H Q _=>∃(o dx a b:Addr) (n no:Int) (ts aB:L0),vs=[.ref o,.ref a,.ref b]/\H o=some (.ins C dx [])/\aF K H a n ts/\aF K H b no aB/\
 ∀d H',(∀c q,c≠o->H c=some q->H' c=some q)->Kf K C H' o d n no ts aB->DN K H' d []->H d=none->Q .non H'
theorem Lf{f f1 C:Addr}{fd d1:ρ}(F:Fun K "__init__" "Search.__init__" dZ f fd)
  (Cc:Cls K C)(cF:NoAttr K C "near")(dM:NoAttr K C "far")(aD:NoAttr K C "led_nowhere")(D1:bF K mg "neighbours" fM ["web","place"] f1 d1)(G1:FnOk P w K mg base CX0 8 f1 d1 ["web","place"] (zZ K))(au:mg "range"=none):
  FnOk P w K mg base CX0 9 f fd ["self","web","other"] (xq K C):=by
 refine F.cM ["self","web","other"] fun cdv A outer s H vs Q E hr h=> ?_;obtain⟨o,dx,a,b,n,no,ts,aB,rfl,ZV,hA,hB,qq⟩:=h;refine⟨_,(aR (ps_fld (pv 0) (pK ["place"] ["web"] [1] (rY rfl au (aj (bY gF (pv 1) aK) ak)) (pG 0) qJ (pc G1 hr D1 (aj (pv 1) (aj (pv 0) ak)))) rfl) (aR (ps_fld (pv 0) (pK ["place"] ["other"] [2] (rY rfl au (aj (bY gF (pv 2) aK) ak)) (pG 0) qJ (pc G1 hr D1 (aj (pv 1) (aj (pv 0) ak)))) rfl) (aQ (ps_fld (pv 0) Gu rfl)))),?_⟩;have Zq:∀c q,c≠o->H c=some q->H c=some q:=fun c q _ z=>z;generalize hG:H=G1 at Zq ZV hA hB⊢;have Zq:∀c q,c≠o->H c=some q->G1 c=some q:=fun c q _ z=>by rw[<-hG];exact z
 obtain⟨tt1,rr1,w1,_,_⟩:=id hA.web;refine⟨_,rfl,a,_,_,.int n,rfl,rfl,w1,rfl,n,rfl,by have:=hA.h0;omega,by have:=hA.h1;omega,?_⟩;refine wO (n:=n.toNat) (fun i acc σ H'=>∃as:List Addr,acc=as.map V.ref/\as.length=i/\Same G1 H'/\(∀(j:Nat) x,as[j]? =some x->H' x=some (.tup ((gB n ts (j:Int)).map V.int)))/\∃o1,σ=[o1,some (.ref a)]) ⟨[],rfl,rfl,Same.refl _,(fun j x z=>by cases z),_,rfl⟩ (fun i acc σ H' hi p=> ?_) (by rw[cY];have:=hA.h1;omega) (fun i acc σ H' hi p=> ?_) (fun acc σ H' p=> ?_)
 ·obtain⟨as,rfl,hl,_⟩:=p;rw[aM];omega
 ·obtain⟨as,rfl,hl,sm,hh,o1,rfl⟩:=p;have hW:=hA.same sm;refine⟨_,rfl,_,rfl,a,n,0+(i:Int),ts,rfl,hW.web,hW.ok,⟨by omega,by omega⟩,hW.h1,fun r H2 s2 e2=> ?_⟩;refine⟨as++[r],by rw[cg];rfl,by rw[eO,hl];rfl,sm.trans s2,fun j x z=> ?_,_,rfl⟩;rw[YF]at z;by_cases c:j<as.length
  ·rw[aL c]at z;exact s2 _ _ (hh j x z)
  ·rw[aJ c]at z;have ej:j=as.length:=by
    rcases U0 (j-as.length) 1 with q|q
    ·omega
    ·rw[Uz (by show 1<=_;exact q)]at z;cases z
   rw[ej,U3]at z;cases z;rw[ej,hl,show((i:Nat):Int)=0+(i:Int) by omega];exact e2
 intro l1 hl1;obtain⟨as1,rfl,len1,Vf,hh1,_⟩:=p;have t1:=aZ hl1 (.lst (as1.map V.ref));have el1:(upd H' l1 (.lst (as1.map V.ref))) l1=some (.lst (as1.map V.ref)):=aG;generalize (upd H' l1 (.lst (as1.map V.ref)))=J1 at *;have u1:=Vf.trans t1;have O1:=u1 _ _ ZV;refine⟨_,rfl,o,C,dx,_,rfl,O1,Cc,cF,(by show 0<1000;decide),?_⟩;rw[show putF "near" (V.ref l1) ([]:List (Str×V))=([("near",.ref l1)]:List (Str×V))from rfl];have k1:∀c q,c≠o->J1 c=some q->(upd J1 o (.ins C dx ([("near",.ref l1)]))) c=some q:=fun c q ne z=>by rw[cN ne];exact z
 have hO2:(upd J1 o (.ins C dx ([("near",.ref l1)]))) o=some (.ins C dx ([("near",.ref l1)])):=aG;have kk1:∀c q,c≠o->H c=some q->(upd J1 o (.ins C dx ([("near",.ref l1)]))) c=some q:=fun c q ne z=>k1 c q ne (u1 _ _ (Zq c q ne z));have Zi:l1≠o:=fun z=>by rw[z,O1]at el1;cases el1
 have at1:∀(j:Nat) x,as1[j]? =some x->(upd J1 o (.ins C dx ([("near",.ref l1)]))) x=some (.tup ((gB n ts (j:Int)).map V.int)):=fun j x z=>by
  have e:=t1 _ _ (hh1 j x z);exact k1 _ _ (fun q=>by rw[q,O1]at e;cases e) e
 have ls1:=k1 _ _ Zi el1;have hB2:=Qq O1 k1 (hB.same u1);generalize (upd J1 o (.ins C dx ([("near",.ref l1)])))=G2 at *;obtain⟨tt2,rr2,w2,_,_⟩:=id hB2.web;refine⟨_,rfl,b,_,_,.int no,rfl,rfl,w2,rfl,no,rfl,by have:=hB2.h0;omega,by have:=hB2.h1;omega,?_⟩;refine wO (n:=no.toNat) (fun i acc σ H'=>∃as:List Addr,acc=as.map V.ref/\as.length=i/\Same G2 H'/\(∀(j:Nat) x,as[j]? =some x->H' x=some (.tup ((gB no aB (j:Int)).map V.int)))/\∃o1,σ=[o1,some (.ref b)]) ⟨[],rfl,rfl,Same.refl _,(fun j x z=>by cases z),_,rfl⟩ (fun i acc σ H' hi p=> ?_) (by rw[cY];have:=hB2.h1;omega) (fun i acc σ H' hi p=> ?_) (fun acc σ H' p=> ?_)
 ·obtain⟨as,rfl,hl,_⟩:=p;rw[aM];omega
 ·obtain⟨as,rfl,hl,sm,hh,o1,rfl⟩:=p;have hW:=hB2.same sm;refine⟨_,rfl,_,rfl,b,no,0+(i:Int),aB,rfl,hW.web,hW.ok,⟨by omega,by omega⟩,hW.h1,fun r H2 s2 e2=> ?_⟩;refine⟨as++[r],by rw[cg];rfl,by rw[eO,hl];rfl,sm.trans s2,fun j x z=> ?_,_,rfl⟩;rw[YF]at z;by_cases c:j<as.length
  ·rw[aL c]at z;exact s2 _ _ (hh j x z)
  ·rw[aJ c]at z;have ej:j=as.length:=by
    rcases U0 (j-as.length) 1 with q|q
    ·omega
    ·rw[Uz (by show 1<=_;exact q)]at z;cases z
   rw[ej,U3]at z;cases z;rw[ej,hl,show((i:Nat):Int)=0+(i:Int) by omega];exact e2
 intro l2 hl2;obtain⟨as2,rfl,len2,Ve,hh2,_⟩:=p;have t2:=aZ hl2 (.lst (as2.map V.ref));have el2:(upd H' l2 (.lst (as2.map V.ref))) l2=some (.lst (as2.map V.ref)):=aG;generalize (upd H' l2 (.lst (as2.map V.ref)))=J2 at *;have u2:=Ve.trans t2;have O2:=u2 _ _ hO2;refine⟨_,rfl,o,C,dx,_,rfl,O2,Cc,dM,(by show 1<1000;decide),?_⟩;rw[show putF "far" (V.ref l2) ([("near",.ref l1)]:List (Str×V))=([("near",.ref l1),("far",.ref l2)]:List (Str×V))from rfl];have k2:∀c q,c≠o->J2 c=some q->(upd J2 o (.ins C dx ([("near",.ref l1),("far",.ref l2)]))) c=some q:=fun c q ne z=>by rw[cN ne];exact z
 have Ub:(upd J2 o (.ins C dx ([("near",.ref l1),("far",.ref l2)]))) o=some (.ins C dx ([("near",.ref l1),("far",.ref l2)])):=aG;have kk2:∀c q,c≠o->H c=some q->(upd J2 o (.ins C dx ([("near",.ref l1),("far",.ref l2)]))) c=some q:=fun c q ne z=>k2 c q ne (u2 _ _ (kk1 c q ne z));have nl2:l2≠o:=fun z=>by rw[z,O2]at el2;cases el2
 have at2:∀(j:Nat) x,as2[j]? =some x->(upd J2 o (.ins C dx ([("near",.ref l1),("far",.ref l2)]))) x=some (.tup ((gB no aB (j:Int)).map V.int)):=fun j x z=>by
  have e:=t2 _ _ (hh2 j x z);exact k2 _ _ (fun q=>by rw[q,O2]at e;cases e) e
 have ls2:=k2 _ _ nl2 el2;have lsA:=k2 _ _ Zi (u2 _ _ ls1);have atA:∀(j:Nat) x,as1[j]? =some x->(upd J2 o (.ins C dx ([("near",.ref l1),("far",.ref l2)]))) x=some (.tup ((gB n ts (j:Int)).map V.int)):=fun j x z=>by
  have e:=u2 _ _ (at1 j x z);exact k2 _ _ (fun q=>by rw[q,O2]at e;cases e) e
 generalize (upd J2 o (.ins C dx ([("near",.ref l1),("far",.ref l2)])))=G3 at *;intro d H4 s4 hd hN;refine⟨_,rfl,o,C,dx,_,rfl,s4 _ _ Ub,Cc,aD,(by show 2<1000;decide),?_⟩;rw[show putF "led_nowhere" (V.ref d) ([("near",.ref l1),("far",.ref l2)]:List (Str×V))=Jg l1 l2 d from rfl];have O4:=s4 _ _ Ub;have k4:∀c q,c≠o->H4 c=some q->(upd H4 o (.ins C dx (Jg l1 l2 d))) c=some q:=fun c q ne z=>by rw[cN ne];exact z
 have nd:d≠o:=fun z=>by rw[z,Ub]at hd;cases hd
 have tu:∀x xs,G3 x=some (.tup xs)->SqT K (upd H4 o (.ins C dx (Jg l1 l2 d))) x xs:=fun x xs e=>SqT.of (k4 _ _ (fun q=>by rw[q,Ub]at e;cases e) (s4 _ _ e));have h0:=hA.h0;have h0':=hB2.h0;refine qq d (upd H4 o (.ins C dx (Jg l1 l2 d))) (fun c q ne z=>k4 c q ne (s4 _ _ (kk2 c q ne z))) ⟨dx,l1,l2,as1,as2,aG,SqL.of (k4 _ _ Zi (s4 _ _ lsA)),by omega,fun i x z=>tu _ _ (atA i x z),SqL.of (k4 _ _ nl2 (s4 _ _ ls2)),by omega,fun i x z=>tu _ _ (at2 i x z)⟩ ?_ ?_
 ·obtain⟨xs,n1,n2,n3⟩:=hN;have:xs=[]:=List.map_eq_nil_iff.mp n2;subst this;exact⟨[],k4 _ _ nd n1,rfl,fun x hx=>(nomatch hx)⟩
 ·cases e:H d with
  |none=>rfl
  |some q=>rw[kk2 d q nd e]at hd;cases hd
noncomputable abbrev Nu(ts aB:L0)(k:NK.SK):Prop:=∃g,Sw.El (ao ts) (ao aB) k g
noncomputable def aaf(K:W.Frag)(H:Hp)(l:Addr)(r:L0):Prop:=∃its:List (Addr×List Int),H l=some (.lst (its.map fun p=>V.ref p.1))/\(∀p∈its,SqT K H p.1 (p.2.map V.int))/\its.map (·.2)=r.map fun e=>[e.1,e.2]
noncomputable def qH(ri:Bool)(c:Nat):Nat:=if ri=true then 0 else c
theorem tU{ri:Bool}{a b:Nat}(h:a<=b):qH ri a<=qH ri b:=by unfold qH;split<;>omega
structure LdP(K:W.Frag)(C:Addr)(H:Hp)(o b d:Addr)(n no:Int)(ts aB:L0)(ks:List NK.SK)(k:NK.SK)(ri:Bool):Prop where
 se:Kf K C H o d n no ts aB
 dn:DN K H d ks
 un:∀j∈ks,¬Nu ts aB j
 st:DV K H (.ref b) (NK.toD k)
 so:Sw.Ug n no k
 ok:Sw.Ok (ao ts) (ao aB)
 n10:n<=10
 n1:k.length<=10
 ri:ri=true->Sw.Nx (ao aB) no k
structure Uh(K:W.Frag)(H H':Hp)(d:Addr)(ts aB:L0)(ks ks':List NK.SK)(c m:Nat):Prop where
 keep:∀x q,x≠d->H x=some q->H' x=some q
 dn:DN K H' d ks'
 un:∀j∈ks',¬Nu ts aB j
 ln:ks'.length<=ks.length+c
 nw:∀j∈ks',j∈ks\/j.length<m
noncomputable def RsV(K:W.Frag)(H:Hp)(ts aB:L0)(k:NK.SK)(v:V):Prop:=(v= .non/\¬Nu ts aB k)\/∃l r,v= .ref l/\aaf K H l r/\Sw.Res (ao ts) (ao aB) k r/\r.length<=10
noncomputable def zY(K:W.Frag)(C:Addr)(m:Nat):Sp:=fun vs H Q _=>∃(o b d:Addr) (n no:Int) (ts aB:L0) (ks:List NK.SK) (k:NK.SK) (ri:Bool),vs=[.ref o,.ref b]/\LdP K C H o b d n no ts aB ks k ri/\k.length=m/\ks.length+qH ri (Sw.cst no.toNat m)<=16000000/\
 ∀v H' ks',Uh K H H' d ts aB ks ks' (qH ri (Sw.cst no.toNat m)) (m+1)->RsV K H' ts aB k v->Q v H'
noncomputable def Ou(K:W.Frag)(C:Addr):Nat->Sp
 |0=>fun _ _ _ _=>False
 |m+1=>fun vs H Q _=>∃(o b d:Addr) (n no:Int) (ts aB:L0) (ks:List NK.SK) (k:NK.SK) (ri:Bool),vs=[.ref o,.ref b]/\LdP K C H o b d n no ts aB ks k ri/\k.length=m+1/\ks.length+qH ri (no.toNat*Sw.cst no.toNat m)<=16000000/\
  ∀v H' ks',Uh K H H' d ts aB ks ks' (qH ri (no.toNat*Sw.cst no.toNat m)) (m+1)->RsV K H' ts aB k v->Q v H'
theorem DN.ext{H:Hp}{d:Addr}{ks:List NK.SK}(h:DN K H d ks):∃φ,H d=some (.ext φ):=by
 obtain⟨xs,h1,_⟩:=h;exact⟨_,h1⟩
theorem Rg{f f1 f2 f3 C:Addr}{fd d1 d2 d3:ρ}{m lv:Nat}(F:Fun K "lead_first" "Search.lead_first" Qa f fd)
  (Cc:Cls K C)(cF:NoAttr K C "near")(dM:NoAttr K C "far")(aD:NoAttr K C "led_nowhere")(D1:DK K C "lead" "Search.lead" N6 ["self","state"] f1 d1)(G1:FnOk P w K mg base CX0 lv f1 d1 ["self","state"] (zY K C m))(D2:DK K C "state_behind" "Search.state_behind" Ur ["self","state","led","image"] f2 d2)(G2':FnOk P w K mg base CX0 2 f2 d2 ["self","state","led","image"] (oM K C))(D3:bF K mg "count_images" Uo ["open_place"] f3 d3)(G3:FnOk P w K mg base CX0 1 f3 d3 ["open_place"] (Ac K))(mD:mg "min"=none)(Xn:2<=lv):
  FnOk P w K mg base CX0 (lv+1) f fd ["self","state"] (Ou K C (m+1)):=by
 have G2:FnOk P w K mg base CX0 lv f2 d2 ["self","state","led","image"] (oM K C):=G2'.mono Xn;refine F.cM ["self","state","first","image","led"] fun cdv A outer s H vs Q E hr h=> ?_;obtain⟨o,b,d,n,no,ts,aB,ks,k,ri,rfl,hP,hm,hb,qq⟩:=h;refine⟨_,(aR (pS 2 (K8 G3 rfl (hr.mono Xn) rfl mD rfl D3.m D3.F.kp D3.b (aj (pv 1) ak))) (aR (rR qL rfl (Eb (bY gF (pv 2) aK)) (pG 3) (aR (pS 4 (pe_meth (pv 0) Cc D1.m G1 hr D1.b .nil pass0 (aj (pe_meth (pv 0) Cc D2.m G2 hr D2.b .nil pass0 (aj (pv 1) (aj (bY gF (pv 2) aK) (aj (pv 3) ak)))) ak))) (aQ (eF (dW op_notN (pv 4) zB) (aQ (bW (bM op_cat (pv 4) (nJ (aj (cA (aj (bY gF (pv 2) aK) (aj (pv 3) ak))) ak))))) iG)))) (aQ (bW zB)))),?_⟩;obtain⟨its,h1,h2⟩:=zR hP.st;have hlen:=Paired.HN h2;obtain⟨φ,hφ⟩:=DN.ext hP.dn;refine⟨_,rfl,b,its.map (·.1),fun j=>((k.getD j (0,[])).2.length:Int),rfl,by rw[ux];exact h1,fun z=> ?_,fun j p hj=> ?_,fun i p hi _=> ?_⟩
 ·have:=iy List.length z;rw[aM]at this;simp at this;rw[this]at hlen;simp at hlen;omega
 ·rw[dD]at hj;cases ex:its[j]? with
  |none=>rw[ex]at hj;cases hj
  |some y=>
   rw[ex]at hj;cases hj;obtain⟨p,hp,r1,r2⟩:=Paired.at_ h2 ex;refine⟨y.1,y.2,p.1,p.2,rfl,r1,r2,?_,rfl⟩;show _=V.int ((k.getD j (0,[])).2.length:Int);rw[qG,hp];rfl
 rw[dD]at hi;cases ey:its[i]? with
 |none=>rw[ey]at hi;cases hi
 |some y=>
 rw[ey]at hi;cases hi;obtain⟨pp,hpp,r1,r2⟩:=Paired.at_ h2 ey;have pm:=nP hpp;have pl:=hP.so.pl pp pm;obtain⟨pi1,pi2⟩:=hP.so.im pp pm;refine⟨_,rfl,y.1,_,_,.ref y.2,rfl,rfl,r1,rfl,y.2,_,rfl,r2,fun hz=> ?_⟩;refine for_tup (K:=K) (a:=y.2) (xs:=pp.2.map V.int) (fun i σ H'=>∃(ks':List NK.SK) (o3 o4:Option V),σ=[some (.ref o),some (.ref b),some (.ref y.1),o3,o4]/\Uh K H H' d ts aB ks ks' (qH ri (i*Sw.cst no.toNat m)) (m+1)/\(∀z∈pp.2.take i,¬Nu ts aB (Sw.mF (ao ts) (ao aB) k pp.1 z))/\(ri=true->i=0))
  ⟨ks,_,_,rfl,⟨fun x q _ z=>z,hP.dn,hP.un,Uu _ _,fun j hj=> .inl hj⟩,fun z hz=>(nomatch hz),fun _=>rfl⟩ (fun i σ H' _ p=> ?_) (fun i x σ H' hx p=> ?_) (fun σ H' p=> ?_)
 ·obtain⟨_,_,_,_,q,_⟩:=p;exact iz hφ q.keep r2
 ·obtain⟨ks',o3,o4,rfl,LQ,hno,hri⟩:=p;rw[dD]at hx;cases ex:pp.2[i]? with
  |none=>rw[ex]at hx;cases hx
  |some z=>
   rw[ex]at hx;cases hx;have ZJ:i<pp.2.length:=(qW.mp ex).1;have zm:=nP ex;have zi:=pi1 z zm;have VF:=hP.se.but hφ LQ.keep;obtain⟨dx,ln,lf,nn,ff,hS⟩:=id VF;have r1':=iz hφ LQ.keep r1;have st':=tD hφ LQ.keep hP.st (NK.toD_nst k);refine⟨_,rfl,o,dx,_,rfl,hS.at_,rfl,_,rfl,o,dx,_,rfl,hS.at_,rfl,_,rfl,_,rfl,y.1,_,_,.int pp.1,rfl,rfl,r1',rfl,_,rfl,o,d,b,n,no,pp.1,z,ts,aB,k,rfl,VF,st',hP.n1,pl,zi,hP.so,fun rb H2 s2 db=> ?_⟩;have Xj:(pp.1,pp.2)∈k:=pm;have bl:=Sw.tV (img:=z) hP.ok hP.so.nd Xj;have LP:LdP K C H2 o rb d n no ts aB ks' (Sw.mF (ao ts) (ao aB) k pp.1 z) ri:=⟨VF.same s2,LQ.dn.same s2,LQ.un,db,hP.so.mF hP.ok,hP.ok,hP.n10,by have:=hP.n1;omega,fun r=>Sw.uN hP.ok hP.so.nd Xj zm (hP.ri r)⟩;have bb:ks'.length+qH ri (Sw.cst no.toNat m)<=16000000/\qH ri (i*Sw.cst no.toNat m)+qH ri (Sw.cst no.toNat m)=qH ri ((i+1)*Sw.cst no.toNat m):=by
    have l1:=LQ.ln;unfold qH at *;split
    ·rename_i c;rw[aL c]at l1 hb;exact⟨by omega,rfl⟩
    ·rename_i c;rw[aJ c]at l1 hb;have:(i+1)*Sw.cst no.toNat m<=no.toNat*Sw.cst no.toNat m:=Wr _ (by omega);rw[Nat.succ_mul]at this⊢;exact⟨by omega,by omega⟩
   refine⟨o,rb,d,n,no,ts,aB,ks',_,ri,rfl,LP,by omega,bb.1,fun v H3 HW Nz RS=> ?_⟩;have S5:Uh K H H3 d ts aB ks HW (qH ri ((i+1)*Sw.cst no.toNat m)) (m+1):=by
    refine⟨fun x q ne e=>Nz.keep x q ne (s2 _ _ (LQ.keep x q ne e)),Nz.dn,Nz.un,?_,fun j hj=> ?_⟩
    ·have a1:=LQ.ln;have a2:=Nz.ln;have a3:=bb.2;omega
    ·rcases Nz.nw j hj with q|q
     ·exact LQ.nw j q
     ·exact .inr q
   refine⟨_,rfl,rfl,_,rfl,?_⟩;rcases RS with⟨rfl,O8⟩|⟨l,r,rfl,⟨jts,j1,j2,j3⟩,hres,rl⟩
   ·have eb:(!decide (V.non=V.non))=false:=rfl;rw[eb];refine iteF ?_;refine⟨HW,_,_,rfl,S5,fun x hx=> ?_,fun r=> ?_⟩
    ·rw[zF,ex]at hx;rcases fH.mp hx with q|q
     ·exact hno x q
     ·have:x=z:=by simpa using q
      rw[this];exact O8
    ·exact absurd (Sw.pq hP.ok _ rfl (Sw.yU hP.ok hP.so.nd) (LP.ri r)) O8
   ·have eb:(!decide (V.ref l=V.non))=true:=by rw[cI (fun z=>by cases z)];rfl
    rw[eb];refine iteT ?_;have Zb:=iz hφ S5.keep r1;refine⟨_,rfl,_,rfl,y.1,_,_,.int pp.1,rfl,rfl,Zb,rfl,_,rfl,(by show 2<=sizeLine;decide),fun pt hpt=>⟨(by show 1<=sizeLine;decide),fun pl' hpl=> ?_⟩⟩;have g1:=aZ hpt (.tup [.int pp.1,.int z]);have g2:=aZ hpl (.lst [.ref pt]);have Z5:(upd H3 pt (.tup [.int pp.1,.int z])) pt=some (.tup [.int pp.1,.int z]):=aG;have Rz:(r++[(pp.1,z)]).length<=10:=by
     have hh:=(Sw.Gn hP.ok hP.so.nd Xj zm hres).1.length_eq;rw[aM,aM]at hh;rw[hh];exact hP.n1
    have jl:jts.length=r.length:=by have:=iy List.length j3;rwa [aM,aM]at this
    refine⟨l,pl',_,_,rfl,rfl,g2 _ _ (g1 _ _ j1),aG,by rw[aM,jl,cY];rw[eO]at Rz;show r.length+1<=_;have:r.length+1<=10:=Rz;omega,fun pr hpr=> ?_⟩;have g3:=aZ hpr (.lst (jts.map (fun p=>V.ref p.1)++[.ref pt]));have g:=g1.trans (g2.trans g3);refine qq _ _ HW ⟨fun x q ne e=>g _ _ (S5.keep x q ne e),S5.dn.same g,S5.un,cC S5.ln (Tj (tU (Wr _ (by omega))) _),S5.nw⟩ (.inr ⟨pr,r++[(pp.1,z)],rfl,⟨jts++[(pt,[pp.1,z])],by rw[cg];exact aG,fun q hq=> ?_,by rw[cg,cg,j3];rfl⟩,Sw.Gn hP.ok hP.so.nd Xj zm hres,Rz⟩);rcases fH.mp hq with w'|w'
    ·exact g.tup (j2 q w')
    ·rw[eN.mp w'];exact(g2.trans g3).tup (SqT.of Z5)
 ·obtain⟨ks',o3,o4,rfl,LQ,hno,hri⟩:=p;rw[aM]at LQ hri;rw[aM,uy]at hno;refine qq _ _ ks' ⟨LQ.keep,LQ.dn,LQ.un,cC LQ.ln (Tj (tU (Wr _ (by omega))) _),LQ.nw⟩ (.inl ⟨rfl,Sw.QF hP.ok (show(pp.1,pp.2)∈k from pm) hno⟩)
theorem GR{f f1 f2 C:Addr}{fd d1 d2:ρ}{m lv:Nat}(F:Fun K "lead" "Search.lead" N6 f fd)
  (Cc:Cls K C)(cF:NoAttr K C "near")(dM:NoAttr K C "far")(aD:NoAttr K C "led_nowhere")(D1:bF K mg "are_left_open" Uq ["state"] f1 d1)(Wc:FnOk P w K mg base CX0 1 f1 d1 ["state"] (uK K))(D2:DK K C "lead_first" "Search.lead_first" Qa ["self","state"] f2 d2)(G2:FnOk P w K mg base CX0 lv f2 d2 ["self","state"] (Ou K C m))(Xn:1<=lv):
  FnOk P w K mg base CX0 (lv+1) f fd ["self","state"] (zY K C m):=by
 have G1:FnOk P w K mg base CX0 lv f1 d1 ["state"] (uK K):=Wc.mono Xn;refine F.cM ["self","state","led"] fun cdv A outer s H vs Q E hr h=> ?_;obtain⟨o,b,d,n,no,ts,aB,ks,k,ri,rfl,hP,hm,hb,qq⟩:=h;refine⟨_,(aR (eF (ur (pt_truth (pv 1) (fun _=>rfl))) (aQ (bW (nJ ak))) iG) (aR (eF (PW.pt (pw_or (dW (Q9 hr.units) (pv 1) (pe_fld (pv 0) rfl) (by with_unfolding_all rfl)) (pw_or1 (ur (rT (pc G1 hr D1 (aj (pv 1) ak))))))) (aQ (bW zB)) iG) (aR (pS 2 (pe_meth (pv 0) Cc D2.m G2 hr D2.b .nil pass0 (aj (pv 1) ak))) (aR (eF (dW op_isN (pv 2) zB) (aQ (Gq hr.units (pe_fld (pv 0) rfl) (pv 1) pe_bl)) iG) (aQ (bW (pv 2))))))),?_⟩;obtain⟨its,h1,h2⟩:=zR hP.st;have hlen:=Paired.HN h2;refine⟨_,rfl,_,.inr (.inl ⟨_,h1,rfl⟩),?_⟩;cases k with
 |nil=>
  cases its with
  |cons y ys=>cases hlen
  |nil=>
   refine iteT ?_;refine⟨(by show 0<=sizeLine;decide),fun l hl=> ?_⟩;have g:=aZ hl (.lst []);exact qq _ _ ks ⟨fun x q _ e=>g _ _ e,hP.dn.same g,hP.un,Uu _ _,fun j hj=> .inl hj⟩ (.inr ⟨l,[],rfl,⟨[],aG,fun q hq=>(nomatch hq),rfl⟩,Sw.K5,gG _⟩)
 |cons k0 kr=>
 cases its with
 |nil=>cases hlen
 |cons y0 yr=>
 refine iteF ?_;generalize hK:(k0::kr)=k at *;obtain⟨m',rfl⟩:∃m',m=m'+1:=⟨kr.length,by rw[<-hm,<-hK];rfl⟩;obtain⟨dx,ln,lf,nn,ff,hS⟩:=id hP.se;refine⟨_,rfl,_,rfl,o,C,dx,_,_,rfl,hS.at_,Cc,aD,rfl,d,b,ks,k,rfl,rfl,hP.dn,hP.st,_,rfl,?_⟩;have id0:∀H',Same H H'->Uh K H H' d ts aB ks ks (qH ri (Sw.cst no.toNat (m'+1))) (m'+1+1):=fun H' g=>⟨fun x q _ e=>g _ _ e,hP.dn.same g,hP.un,Uu _ _,fun j hj=> .inl hj⟩;by_cases cin:k∈ks
 ·rw[dF cin];refine iteT (iteT ?_);exact qq _ _ ks (id0 H (Same.refl _)) (.inl ⟨rfl,hP.un k cin⟩)
 rw[cI cin];refine iteF ?_;refine⟨_,rfl,b,k,rfl,hP.st,hP.n1,fun H1 s1=>⟨_,rfl,?_⟩⟩;cases hop:k.all fun p=> !p.2.isEmpty with
 |false=>
  refine iteT ?_;refine qq _ _ ks (id0 H1 s1) (.inl ⟨rfl,?_⟩);have:∃p∈k,p.2=[]:=by
   rw[TY]at hop;refine Xd fun c=>hop (iR.mpr fun p hp=> ?_);cases e:p.2 with
   |nil=>exact absurd ⟨p,hp,e⟩ c
   |cons z zs=>rfl
  obtain⟨p,hp,e⟩:=this;exact Sw.Gi hp e
 |true=>
 refine iteF ?_;have hc:qH ri (Sw.cst no.toNat (m'+1))=qH ri (1+no.toNat*Sw.cst no.toNat m'):=rfl;have hb':ks.length+qH ri (no.toNat*Sw.cst no.toNat m')<=16000000:=by
  have:qH ri (no.toNat*Sw.cst no.toNat m')<=qH ri (1+no.toNat*Sw.cst no.toNat m'):=tU (by omega);rw[hc]at hb;omega
 refine⟨_,rfl,o,dx,_,rfl,s1 _ _ hS.at_,rfl,_,rfl,o,b,d,n,no,ts,aB,ks,k,ri,rfl,⟨hP.se.same s1,hP.dn.same s1,hP.un,hP.st.same s1,hP.so,hP.ok,hP.n10,hP.n1,hP.ri⟩,hm,hb',fun v H2 HW LQ RS=> ?_⟩;obtain⟨φ,hφ⟩:=DN.ext (hP.dn.same s1);refine⟨_,rfl,rfl,_,rfl,?_⟩;have Nz:Uh K H H2 d ts aB ks HW (qH ri (Sw.cst no.toNat (m'+1))) (m'+1+1):=⟨fun x q ne e=>LQ.keep x q ne (s1 _ _ e),LQ.dn,LQ.un,cC LQ.ln (Tj (by rw[hc];exact tU (by omega)) _),fun j hj=>(LQ.nw j hj).imp id fun z=>by omega⟩;rcases id RS with⟨rfl,O8⟩|⟨l,r,rfl,_⟩
 ·have eb:decide (V.non=V.non)=true:=rfl;rw[eb];refine iteT ?_;have rf:ri=false:=by
   cases hri:ri with
   |false=>rfl
   |true=>exact absurd (Sw.pq hP.ok _ rfl hP.so.nd (hP.ri hri)) O8
  subst rf;have nk:k∉HW:=fun z=>by
   rcases LQ.nw k z with q|q
   ·exact cin q
   ·omega
  have l2:HW.length<=ks.length+no.toNat*Sw.cst no.toNat m':=LQ.ln;have hb2:ks.length+no.toNat*Sw.cst no.toNat m'<=16000000:=hb';obtain⟨dx2,ln2,lf2,nn2,ff2,hS2⟩:=id ((hP.se.same s1).but hφ LQ.keep);refine⟨_,rfl,o,C,dx2,_,_,rfl,hS2.at_,Cc,aD,rfl,_,rfl,d,b,HW,k,rfl,rfl,rfl,LQ.dn,tD hφ LQ.keep (hP.st.same s1) (NK.toD_nst k),nk,by rw[cY];omega,fun H4 Vu D4=> ?_⟩;refine⟨_,rfl,qq _ _ (HW++[k]) ⟨fun x q ne e=>Vu x q ne (Nz.keep x q ne e),D4,fun j hj=> ?_,?_,fun j hj=> ?_⟩ (.inl ⟨rfl,O8⟩)⟩
  ·rcases fH.mp hj with q|q
   ·exact LQ.un j q
   ·rw[eN.mp q];exact O8
  ·rw[eO];show HW.length+1<=ks.length+(1+no.toNat*Sw.cst no.toNat m');omega
  ·rcases fH.mp hj with q|q
   ·exact Nz.nw j q
   ·rw[eN.mp q];exact .inr (by omega)
 ·have eb:decide (V.ref l=V.non)=false:=cI fun z=>by cases z
  rw[eb];refine iteF ?_;exact⟨_,rfl,qq _ _ HW Nz RS⟩
theorem Jf{k:Nat}{f:Addr}{fd:ρ}{ps:List Str}:FnOk P w K mg base CX0 k f fd ps (fun _ _ _ _=>False):=⟨fun _ _ _ _ h=>h.elim,fun _ _ _ _ _ _ _ _ _ _ _ _ _ h=>h.elim⟩
theorem O6{f f1 f2 f3 f4 C:Addr}{fd d1 d2 d3 d4:ρ}(F:Fun K "lead" "Search.lead" N6 f fd)(F4:Fun K "lead_first" "Search.lead_first" Qa f4 d4)
  (Cc:Cls K C)(cF:NoAttr K C "near")(dM:NoAttr K C "far")(aD:NoAttr K C "led_nowhere")
  (D:DK K C "lead" "Search.lead" N6 ["self","state"] f fd)(D4:DK K C "lead_first" "Search.lead_first" Qa ["self","state"] f4 d4)(D1:bF K mg "are_left_open" Uq ["state"] f1 d1)(G1:FnOk P w K mg base CX0 1 f1 d1 ["state"] (uK K))(D2:DK K C "state_behind" "Search.state_behind" Ur ["self","state","led","image"] f2 d2)(G2:FnOk P w K mg base CX0 2 f2 d2 ["self","state","led","image"] (oM K C))(D3:bF K mg "count_images" Uo ["open_place"] f3 d3)(G3:FnOk P w K mg base CX0 1 f3 d3 ["open_place"] (Ac K))(mD:mg "min"=none):∀m:Nat,FnOk P w K mg base CX0 (2*m+4) f fd ["self","state"] (zY K C m)
 |0=>GR F Cc cF dM aD D1 G1 D4 (lv:=3) Jf (by decide)
 |m+1=>GR F Cc cF dM aD D1 G1 D4 (lv:=2*m+5) (Rg F4 Cc cF dM aD D (O6 F F4 Cc cF dM aD D D4 D1 G1 D2 G2 D3 G3 mD m) D2 G2 D3 G3 mD (by omega)) (by omega)
noncomputable def Fx(K:W.Frag)(C:Addr):Sp:=fun vs H Q E=>∃m,m<=10/\zY K C m vs H Q E
theorem Rj{f f1 f2 f3 f4 C:Addr}{fd d1 d2 d3 d4:ρ}(F:Fun K "lead" "Search.lead" N6 f fd)(F4:Fun K "lead_first" "Search.lead_first" Qa f4 d4)
  (Cc:Cls K C)(cF:NoAttr K C "near")(dM:NoAttr K C "far")(aD:NoAttr K C "led_nowhere")
  (D:DK K C "lead" "Search.lead" N6 ["self","state"] f fd)(D4:DK K C "lead_first" "Search.lead_first" Qa ["self","state"] f4 d4)(D1:bF K mg "are_left_open" Uq ["state"] f1 d1)(G1:FnOk P w K mg base CX0 1 f1 d1 ["state"] (uK K))(D2:DK K C "state_behind" "Search.state_behind" Ur ["self","state","led","image"] f2 d2)(G2:FnOk P w K mg base CX0 2 f2 d2 ["self","state","led","image"] (oM K C))(D3:bF K mg "count_images" Uo ["open_place"] f3 d3)(G3:FnOk P w K mg base CX0 1 f3 d3 ["open_place"] (Ac K))(mD:mg "min"=none):FnOk P w K mg base CX0 24 f fd ["self","state"] (Fx K C):=by
 have all:=O6 F F4 Cc cF dM aD D D4 D1 G1 D2 G2 D3 G3 mD;refine⟨fun vs H Q E h=> ?_,fun A outer s H args us vs Q E hr he hb hv h=> ?_⟩
 ·obtain⟨m,hm,h⟩:=h;exact(all m).len vs H Q E h
 ·obtain⟨m,hm,h⟩:=h;exact((all m).mono (by omega)).run A outer s H args us vs Q E hr he hb hv h
noncomputable def up(n:Nat):List Int:=(List.range n).map fun k=>((k:Nat):Int)
theorem zM(n:Nat):(up n).Pairwise (· < ·):=by
 unfold up;rw[Er];exact Tp.imp fun{a b} h=>by omega
theorem gk{n:Nat}{x:Int}:x∈up n↔0<=x/\x<(n:Int):=by
 unfold up;refine⟨fun h=> ?_,fun h=>gH.mpr ⟨x.toNat,wU.mpr (by omega),by omega⟩⟩;obtain⟨k,hk,rfl⟩:=gH.mp h;have:=wU.mp hk;omega
theorem nR(n:Nat):(up n).length=n:=by unfold up;simp
theorem Kw(n:Nat):gK n=(up n).map V.int:=by unfold gK up;rw[ux];rfl
noncomputable def st0(n no:Int):NK.SK:=(up n.toNat).map fun p=>(p,up no.toNat)
theorem zT(n no:Int):(st0 n no).map (·.1)=up n.toNat:=by
 unfold st0;rw[ux];exact List.map_id _
theorem gq{n no:Int}{p:Int×List Int}:p∈st0 n no↔(0<=p.1/\p.1<(n.toNat:Int))/\p.2=up no.toNat:=by
 unfold st0;rw[gH];refine⟨fun⟨q,hq,e⟩=> ?_,fun⟨h1,h2⟩=>⟨p.1,gk.mpr h1,Tv rfl h2.symm⟩⟩;rw[<-e];exact⟨gk.mp hq,rfl⟩
theorem QB{n no:Int}(h0:0<=n)(h1:0<=no):Sw.Ug n no (st0 n no):=by
 refine⟨?_,fun p hp=> ?_,fun p hp=> ?_⟩
 ·unfold Sw.Nd;rw[zT];exact(zM _).imp fun h e=>by omega
 ·have:=(gq.mp hp).1;omega
 ·rw[(gq.mp hp).2];refine⟨fun y hy=> ?_,by rw[nR];omega⟩;have:=gk.mp hy;omega
theorem Av{ts:L0}{i j:Int}(h:i<j):ao ts i j=decide ((i,j)∈ts):=by
 unfold ao;rw[aJ (by omega),aL (by omega)]
theorem Ot{n:Int}{ts aB:L0}(h:bV n ts):Sw.Ok (ao ts) (ao aB):=by
 refine⟨fun x=> ?_,dO ts,dO aB⟩;rw[tied_eq h];unfold bw;rw[cI fun z=>by have:=h.lt _ z;dsimp only at this;omega];rfl
theorem Bt{n no:Int}{ts aB:L0}{g:Int->Int}(h0:0<=n)(h1:0<=no)(hp:bV n ts)(h:Sw.El (ao ts) (ao aB) (st0 n no) g):aN n no ts aB ((up n.toNat).map g)=true:=by
 have im:∀x:Int,0<=x->x<n->0<=g x/\g x<no:=fun x a b=>by
  have:g x∈up no.toNat:=h.im (x,up no.toNat) (gq.mpr ⟨⟨a,by show x<(n.toNat:Int);omega⟩,rfl⟩);have:=gk.mp this;omega
 have gt:∀x:Int,0<=x->x<n->((up n.toNat).map g).getD x.toNat 0=g x:=fun x a b=>by
  rw[qG,dD];unfold up;rw[dD,List.getElem?_range (by omega)];show g ((x.toNat:Nat):Int)=g x;rw[show((x.toNat:Nat):Int)=x by omega]
 unfold aN;rw[gU,gU];refine⟨dF (by rw[aM,nR];omega),iR.mpr fun y hy=> ?_,iR.mpr fun p hm=> ?_⟩
 ·obtain⟨x,hx,rfl⟩:=gH.mp hy;have:=gk.mp hx;have:=im x (by omega) (by omega);rw[gU];exact⟨dF this.1,dF this.2⟩
 ·have l:=hp.lt p hm;rw[gt p.1 (by omega) (by omega),gt p.2 (by omega) (by omega)];refine h.ti (p.1,up no.toNat) (gq.mpr ⟨⟨by show 0<=p.1;omega,by show p.1<(n.toNat:Int);omega⟩,rfl⟩) (p.2,up no.toNat) (gq.mpr ⟨⟨by show 0<=p.2;omega,by show p.2<(n.toNat:Int);omega⟩,rfl⟩) ?_;show ao ts p.1 p.2=true;rw[Av l.2.1];exact dF hm
theorem CP{n no:Int}{ts aB:L0}{ys:List Int}(h0:0<=n)(h1:0<=no)(hp:bV n ts)(h:aN n no ts aB ys=true):Sw.El (ao ts) (ao aB) (st0 n no) fun x=>ys.getD x.toNat 0:=by
 unfold aN at h;rw[gU,gU]at h;obtain⟨e1,e2,e3⟩:=h;have e1:=qX e1;have ti:∀x y:Int,x<y->ao ts x y=true->ao aB (ys.getD x.toNat 0) (ys.getD y.toNat 0)=true:=fun x y l t=>by
  rw[Av l]at t;exact iR.mp e3 _ (qX t)
 refine⟨fun p hm=> ?_,fun p hm q hq t=> ?_⟩
 ·obtain⟨a,b⟩:=gq.mp hm;rw[b];have hl:p.1.toNat<ys.length:=by omega
  have:=iR.mp e2 _ (Bm hl);rw[gU]at this;show ys.getD p.1.toNat 0∈up no.toNat;rw[qG,jc hl];refine gk.mpr ⟨qX this.1,?_⟩;have:=qX this.2;show ys[p.1.toNat]<_;omega
 ·rcases Uv p.1 q.1 with c|c|c
  ·exact ti _ _ c t
  ·rw[c,(Ot (aB:=aB) hp).Ka]at t;cases t
  ·rw[dO aB];rw[dO ts]at t;exact ti _ _ c t
theorem Ry{a b c d:Int}(h:HT.lexLt [c,d] [a,b]=false):a<=c:=by
 rw[HT.aW,YW]at h;refine Xd fun z=>h ?_;exact List.Lex.rel (by omega)
theorem xr{L:List (List Int)}{r:L0}{n:Nat}{g:Int->Int}(h:L.Perm (r.map fun e=>[e.1,e.2]))(hs:L.Pairwise fun a b=>HT.lexLt b a=false)(hp:(r.map (·.1)).Perm (up n))(hg:∀e∈r,g e.1=e.2):L.map (fun l=>l.getD 1 0)=(up n).map g:=by
 have sh:∀l∈L,l=[l.getD 0 0,g (l.getD 0 0)]:=fun l hl=>by
  obtain⟨e,he,rfl⟩:=gH.mp (h.mem_iff.mp hl);show[e.1,e.2]=[e.1,g e.1];rw[hg e he]
 have fp:(L.map fun l=>l.getD 0 0).Perm (up n):=by
  refine(h.map _).trans ?_;rw[ux];exact hp
 have nd:(L.map fun l=>l.getD 0 0).Nodup:=fp.nodup_iff.mpr ((zM n).imp fun h e=>by omega);have le:(L.map fun l=>l.getD 0 0).Pairwise (· <= ·):=by
  rw[Er];refine Xb (fun{a b} ha hb z=> ?_) hs;rw[sh a ha,sh b hb]at z;exact Ry z
 have e:(L.map fun l=>l.getD 0 0)=up n:=Sw.kJ fp (List.Pairwise.imp₂ (fun a b x y=>by omega) le nd) (zM n);rw[<-e,ux];refine List.map_congr_left fun l hl=> ?_;have:=sh l hl;rw[this];rfl
noncomputable def rm(K:W.Frag):Sp:=fun vs H Q _=>∃(a b:Addr) (n no:Int) (ts aB:L0) (ri:Bool),vs=[.ref a,.ref b]/\aF K H a n ts/\aF K H b no aB/\(ri=true->n<=no/\∀x y,0<=x->x<no->0<=y->y<no->x≠y->ao aB x y=true)/\qH ri (Sw.cst no.toNat n.toNat)<=16000000/\
 ∀v H',Same H H'->((v= .non/\¬∃ys,aN n no ts aB ys=true)\/∃r ys,v= .ref r/\SqT K H' r (ys.map V.int)/\aN n no ts aB ys=true)->Q v H'
theorem xP{f f1 f2 f3 C:Addr}{fd d1 d2 d3:ρ}(F:Fun K "way_into" "way_into" fK f fd)
  (Cc:Cls K C)(cF:NoAttr K C "near")(dM:NoAttr K C "far")(aD:NoAttr K C "led_nowhere")(pL:mg "Search"=some (.ref C))(D1:bF K mg "need_web" wL ["thing"] f1 d1)(G1:FnOk P w K mg base CX0 7 f1 d1 ["thing"] (bN K))(D2:DK K C "__init__" "Search.__init__" dZ ["self","web","other"] f2 d2)(Mk2:Mk K C f2)(aag:FnOk P w K mg base CX0 9 f2 d2 ["self","web","other"] (xq K C))(D3:DK K C "lead" "Search.lead" N6 ["self","state"] f3 d3)(G3:FnOk P w K mg base CX0 24 f3 d3 ["self","state"] (Fx K C))(aX:mg "tuple"=none)(au:mg "range"=none)(ig:mg "sorted"=none):
  FnOk P w K mg base CX0 25 f fd ["web","other"] (rm K):=by
 have G2m:FnOk P w K mg base CX0 23 f2 d2 ["self","web","other"] (xq K C):=aag.mono (by decide);refine F.cM ["web","other","every","led"] fun cdv A outer s H vs Q E hr h=> ?_;obtain⟨a,b,n,no,ts,aB,ri,rfl,hA,hB,hri,hbu,qq⟩:=h;refine⟨_,(aR (iw (pc G1 hr D1 (aj (pv 0) ak))) (aR (iw (pc G1 hr D1 (aj (pv 1) ak))) (aR (pS 2 (mj rfl rfl aX rfl au (aj (bY gF (pv 1) aK) ak))) (aR (pS 3 (pe_meth (pe_make Mk2 G2m hr rfl pL D2.b .nil pass0 (aj (pv 0) (aj (pv 1) ak))) Cc D3.m G3 hr D3.b .nil pass0 (aj (pT Ed aX (aj (pK ["place"] ["every"] [2] (rY rfl au (aj (bY gF (pv 0) aK) ak)) (pG 0) qJ (cA (aj (pv 0) (aj (pv 1) ak)))) ak)) ak))) (aQ (bW (pe_ifExp (dW op_isN (pv 3) zB) zB (pT Ed aX (aj (pK ["place","image"] [] [] (Bl (pB tM ig (aj (pv 3) ak))) (gj K (n:=2) rfl (nM (pG 0) (nM (pG 1) Ea))) qJ (pv 1)) ak))))))))),?_⟩;have h0:=hA.h0;have h10:=hA.h1;have h0':=hB.h0;have aam:=hB.h1;refine⟨_,rfl,.ref a,_,rfl,hA.web.dv.dx,hA.ok,fun H1 s1=> ?_⟩;refine⟨_,rfl,.ref b,_,rfl,(hB.same s1).web.dv.dx,hB.ok,fun H2 s2=> ?_⟩;have Y9:=s1.trans s2;have hA2:=hA.same Y9;have hB2:=hB.same Y9;obtain⟨tt1,rr1,w1,_,_⟩:=id hA2.web;obtain⟨tt2,rr2,y1,_,_⟩:=id hB2.web;refine⟨_,rfl,b,_,_,.int no,rfl,rfl,y1,rfl,no,rfl,h0',by omega,fun ev hev=> ?_⟩;rw[Kw];have s3:=aZ hev (.tup ((up no.toNat).map V.int));have eev:(upd H2 ev (.tup ((up no.toNat).map V.int))) ev=some (.tup ((up no.toNat).map V.int)):=aG;generalize (upd H2 ev (.tup ((up no.toNat).map V.int)))=H3 at *;have J4:=Y9.trans s3;refine⟨_,rfl,_,rfl,fun x dx hx hdx ne=> ?_⟩;have s4:Same H3 (upd (upd H3 dx (.own x)) x (.ins C dx [])):=fun c q z=>by rw[cN (mQ z hx),cN (mQ z hdx)];exact z
 have ex:(upd (upd H3 dx (.own x)) x (.ins C dx [])) x=some (.ins C dx []):=aG;generalize (upd (upd H3 dx (.own x)) x (.ins C dx []))=H4 at *;refine⟨x,dx,a,b,n,no,ts,aB,rfl,ex,(hA.same J4).same s4,(hB.same J4).same s4,fun d H5 keep SV DN0 hd=>⟨rfl,?_⟩⟩;have s5:Same H3 H5:=fun c q z=>keep c q (mQ z hx) (s4 _ _ z);have s05:=J4.trans s5;have Xr:=hA.same s05;obtain⟨tt5,rr5,w5,_,_⟩:=id Xr.web;obtain⟨dx5,ln,lf,nn,ff,hS⟩:=id SV;refine⟨x,dx5,_,rfl,hS.at_,rfl,?_⟩;refine⟨_,rfl,a,_,_,.int n,rfl,rfl,w5,rfl,n,rfl,by omega,by omega,?_⟩;have Z7:=s5 _ _ eev;refine wO (n:=n.toNat) (fun i acc σ H'=>∃as:List Addr,acc=as.map V.ref/\as.length=i/\Same H5 H'/\(∀(j:Nat) p,as[j]? =some p->H' p=some (.tup [.int (j:Int),.ref ev]))/\∃o1,σ=[o1,some (.ref ev)]) ⟨[],rfl,rfl,Same.refl _,(fun j p z=>by cases z),_,rfl⟩ (fun i acc σ H' hi p=> ?_) (by rw[cY];omega) (fun i acc σ H' hi p=> ?_) (fun acc σ H' p=> ?_)
 ·obtain⟨as,rfl,hl,_⟩:=p;rw[aM];omega
 ·obtain⟨as,rfl,hl,sm,hh,o1,rfl⟩:=p;refine⟨_,rfl,_,rfl,(by show 2<=sizeLine;decide),fun pn hpn=> ?_⟩;have sn:=aZ hpn (.tup [.int (0+(i:Int)),.ref ev]);refine⟨as++[pn],by rw[cg];rfl,by rw[eO,hl];rfl,sm.trans sn,fun j x z=> ?_,_,rfl⟩;rw[YF]at z;by_cases c:j<as.length
  ·rw[aL c]at z;exact sn _ _ (hh j x z)
  ·rw[aJ c]at z;have ej:j=as.length:=by
    rcases U0 (j-as.length) 1 with q|q
    ·omega
    ·rw[Uz (by show 1<=_;exact q)]at z;cases z
   rw[ej,U3]at z;cases z;rw[ej,hl,aG,WQ]
 intro pl hpl;obtain⟨as,rfl,hl,sm,hh,_⟩:=p;refine⟨pl,_,rfl,.inl ⟨SqL.of aG,fun pt hpt=> ?_⟩⟩;have s6:=sm.trans ((aZ hpl (.lst (as.map V.ref))).trans (aZ hpt (.tup (as.map V.ref))));have g6:=(aZ hpl (.lst (as.map V.ref))).trans (aZ hpt (.tup (as.map V.ref)));have Z5:(upd (upd H' pl (.lst (as.map V.ref))) pt (.tup (as.map V.ref))) pt=some (.tup (as.map V.ref)):=aG;generalize (upd (upd H' pl (.lst (as.map V.ref))) pt (.tup (as.map V.ref)))=H6 at *;have hst:DV K H6 (.ref pt) (NK.toD (st0 n no)):=by
  refine O7 (its:=as.map fun p=>(p,ev)) (by rw[ux];exact SqT.of Z5) ?_;have go:∀(bs:List Addr) (j0:Nat),(∀(j:Nat) p,bs[j]? =some p->H6 p=some (.tup [.int ((j0+j:Nat):Int),.ref ev]))->JB K H6 (bs.map fun p=>(p,ev)) ((List.range' j0 bs.length).map fun k=>(((k:Nat):Int),up no.toNat)):=fun bs=>by
   induction bs with
   |nil=>exact fun _ _=> .nil
   |cons p bs ih=>
    intro j0 hj;refine .cons ⟨SqT.of (hj 0 p rfl),SqT.of (s6 _ _ Z7)⟩ (ih (j0+1) fun j q z=> ?_);have:=hj (j+1) q z
    rwa [show j0+(j+1)=j0+1+j by omega]at this
  have:=go as 0 fun j p z=>by rw[Yd];exact g6 _ _ (hh j p z)
  rw[hl,<-List.range_eq_range']at this;unfold st0 up;rw[ux];exact this
 have kl:(st0 n no).length=n.toNat:=by unfold st0;rw[aM,nR]
 have hok:=Ot (aB:=aB) hA.pk;refine⟨n.toNat,by omega,x,pt,d,n,no,ts,aB,[],st0 n no,ri,rfl,⟨SV.same s6,DN0.same s6,fun j hj=>(nomatch hj),hst,QB h0 h0',hok,h10,by rw[kl];omega,fun r=> ?_⟩,kl,by show 0+_<=_;omega,fun v H7 ks' LQ RS=> ?_⟩
 ·obtain⟨q1,q2⟩:=hri r;refine⟨q2,fun p hp=> ?_⟩;rw[(gq.mp hp).2,kl,nR];refine⟨(zM _).imp fun h e=>by omega,fun y hy=> ?_,by omega⟩;have:=gk.mp hy;omega
 have hd0:H d=none:=by
  cases e:H d with
  |none=>rfl
  |some q=>rw[s4 _ _ (J4 _ _ e)]at hd;cases hd
 have s07:Same H H7:=fun c q z=>LQ.keep c q (mQ z hd0) (s6 _ _ (s05 _ _ z));rcases RS with⟨rfl,O8⟩|⟨l,r,rfl,⟨jts,j1,j2,j3⟩,⟨hperm,g,hg,he⟩,rl⟩
 ·refine⟨_,rfl,rfl,_,rfl,?_⟩;have eb:decide (V.non=V.non)=true:=rfl;rw[eb];refine iteT ?_;exact qq _ _ s07 (.inl ⟨rfl,fun⟨ys,hy⟩=>O8 ⟨_,CP h0 h0' hA.pk hy⟩⟩)
 ·refine⟨_,rfl,rfl,_,rfl,?_⟩;have eb:decide (V.ref l=V.non)=false:=cI fun z=>by cases z
  rw[eb];refine iteF ?_;have jl:jts.length=r.length:=by have:=iy List.length j3;rwa [aM,aM]at this
  have j2':∀p∈jts,SqT K H7 p.1 (p.2.map V.int)/\p.2≠[]:=fun p hp=>⟨j2 p hp,fun z=>by
   have m:p.2∈r.map fun e=>[e.1,e.2]:=by rw[<-j3];exact gH.mpr ⟨p,hp,rfl⟩
   obtain⟨e,_,q⟩:=gH.mp m;rw[z]at q;cases q⟩
  refine⟨_,rfl,l,jts,rfl,SqL.of j1,j2',by omega,fun l' its' hl' hpm ZC=> ?_⟩;have s8:=aZ hl' (.lst (its'.map fun p=>V.ref p.1));have el':(upd H7 l' (.lst (its'.map fun p=>V.ref p.1))) l'=some (.lst (its'.map fun p=>V.ref p.1)):=aG;generalize (upd H7 l' (.lst (its'.map fun p=>V.ref p.1)))=H8 at *;refine⟨l',_,rfl,SqL.of el',fun hz=> ?_⟩;refine PX (xs:=its'.map fun p=>V.ref p.1) (fun i acc σ H'=>acc=((its'.take i).map fun p=>p.2.getD 1 0).map V.int/\H'=H8/\∃o1 o2,σ=[o1,o2]) ⟨rfl,rfl,_,_,rfl⟩ (fun i acc σ H' _ p=>by rw[p.2.1];exact SqL.of el') (fun i acc σ H' hi p=>by rw[p.1,aM,aM,qU];exact Kl _ _) hz (fun i u acc σ H' hu p=> ?_) (fun acc σ H' p=> ?_)
  ·obtain⟨rfl,rfl,o1,o2,rfl⟩:=p;rw[dD]at hu;cases ei:its'[i]? with
   |none=>rw[ei]at hu;cases hu
   |some q=>
    rw[ei]at hu;cases hu;have qm:=hpm.mem_iff.mp (nP ei);have m:q.2∈r.map fun e=>[e.1,e.2]:=by rw[<-j3];exact gH.mpr ⟨q,qm,rfl⟩
    obtain⟨e,_,eq⟩:=gH.mp m;have tq:=s8.tup (j2 q qm);rw[<-eq]at tq;refine⟨q.1,_,rfl,tq,rfl,_,_,rfl,_,_,rfl,rfl,?_⟩;refine⟨_,rfl,?_,rfl,_,_,rfl⟩;rw[zF,ei,cg,cg];show _=_++[V.int (q.2.getD 1 0)];rw[<-eq];rfl
  ·intro pz hpz;obtain⟨rfl,rfl,_⟩:=p;rw[aM,uy];refine⟨pz,_,rfl,.inl ⟨SqL.of aG,fun pw Zz=> ?_⟩⟩;have s9:=(aZ hpz (.lst ((its'.map fun p=>p.2.getD 1 0).map V.int))).trans (aZ Zz (.tup ((its'.map fun p=>p.2.getD 1 0).map V.int)));rw[zT]at hperm;have sw:=xr (L:=its'.map (·.2)) (by rw[<-j3];exact hpm.map _) (by rw[Er];exact ZC) hperm he;rw[ux]at sw;refine qq _ _ (s07.trans (s8.trans s9)) (.inr ⟨pw,(up n.toNat).map g,rfl,SqT.of ?_,Bt h0 h0' hA.pk hg⟩);rw[<-sw];exact aG
end
noncomputable def uP(n:Nat):List Int:=(List.range n).map fun(t:Nat)=>(t:Int)
theorem uO(n:Nat):uP (n+1)=uP n++[(n:Int)]:=by unfold uP;rw[Qd,cg];rfl
noncomputable def cnt(ts:L0)(p:Int):Nat:=(ts.filter fun t=>decide (p∈[t.1,t.2])).length
noncomputable def Ze(ts:L0)(b:List Int)(x:Int):Bool:=(List.range b.length).all fun k=>ao ts (b.getD k 0) x==ao ts (k:Int) (b.length:Int)
noncomputable def jR(ts:L0)(b:List Int)(x:Int):Bool:=(!decide (x∈b)&&decide (cnt ts x=cnt ts (b.length:Int)))&&Ze ts b x
noncomputable def dw(g:List Int->Int->Bool)(n:Nat):Nat->List Int->List (List Int)
 |0,b=>[b]
 |m+1,b=>((uP n).filter (g b)).flatMap fun x=>dw g n m (b++[x])
theorem Kz{α:Type}{X Y:List α}{m:Nat}(h:(X.take m).length<m):(X++Y).take m=X.take m++Y.take (m-(X.take m).length):=by
 rw[qU]at h;have e:X.take m=X:=Wv (by omega);rw[List.take_append,e]
theorem KC{α:Type}{X Y:List α}{m:Nat}(h:¬(X.take m).length<m):(X++Y).take m=X.take m:=by
 rw[qU]at h;rw[List.take_append,show m-X.length=0 by omega,List.take_zero,qT]
noncomputable def upTo(g:List Int->Int->Bool)(n m:Nat)(b:List Int)(i:Nat):List (List Int):=((uP i).filter (g b)).flatMap fun x=>dw g n m (b++[x])
theorem Bq(g:List Int->Int->Bool)(n m:Nat)(b:List Int)(i:Nat):upTo g n m b (i+1)=upTo g n m b i++(if g b (i:Int)=true then dw g n m (b++[(i:Int)])else[]):=by
 unfold upTo;rw[uO,Oc,List.flatMap_append];congr 1;by_cases c:g b (i:Int)=true
 ·rw[aL c,wV,aL c];simp
 ·rw[aJ c,wV,aJ c];rfl
section
variable{P:ξ}{w:τ}{K:W.Frag}{mg:L5}{base:Heap}
theorem blE(a b:Bool):decide (V.bl a=V.bl b)=(a==b):=by cases a<;>cases b<;>rfl
noncomputable def Ge(K:W.Frag):Sp:=fun vs H Q _=>∃(a:Addr) (n p:Int) (ts:L0),vs=[.ref a,.int p]/\jy K H a n ts/\∀H',Same H H'->Q (.int (cnt ts p:Int)) H'
theorem Lq{f:Addr}{fd:ρ}(F:Fun K "count_ties_at" "count_ties_at" XD f fd)(aU:mg "len"=none):
  FnOk P w K mg base CX0 1 f fd ["web","place"] (Ge K):=by
 refine F.cM ["web","place"] fun cdv A outer s H vs Q E hr h=> ?_;obtain⟨a,n,p,ts,rfl,hW,q⟩:=h;refine⟨_,(aQ (bW (pB nO aU (aj (pK ["tie"] ["place"] [1] (Eb (bY gF (pv 0) aK)) (pG 0) (cW (dW (nW K hr.units) (pv 1) (pv 0) (by with_unfolding_all rfl))) (pv 0)) ak)))),?_⟩;obtain⟨t,rs,h1,h2,h3⟩:=hW;have hlen:rs.length=ts.length:=by have:=h3.len;rwa [aM]at this
 refine⟨_,rfl,a,_,_,.ref t,rfl,rfl,h1,rfl,t,rs,rfl,h2,fun hz=> ?_⟩;refine NT (xs:=rs) (fun k acc σ H'=>acc.length=((ts.take k).filter fun t=>decide (p∈[t.1,t.2])).length/\H'=H/\∃o,σ=[o,some (.int p)]) ⟨rfl,rfl,_,rfl⟩ (fun k acc σ H' _ pp=>by rw[pp.2.1];exact h2) (fun k acc σ H' _ pp=> ?_) hz (fun k x acc σ H' hx pp=> ?_) (fun acc σ H' pp=> ?_)
 ·rw[pp.1];exact cC (wW _ _) (by rw[qU];exact Kl _ _)
 ·obtain⟨e,rfl,o,rfl⟩:=pp;obtain⟨u,hi,rfl,hu⟩:=nU h3 hx;refine⟨_,rfl,_,rfl,u,_,[(ts[k]).1,(ts[k]).2].map PyData.int,.int p,rfl,.inr hu,bB.ints [(ts[k]).1,(ts[k]).2],.int _,NZ _,rfl,(by show 0<=60;decide),_,rfl,?_⟩;rw[any_ints];have et:(ts.take (k+1)).filter (fun t=>decide (p∈[t.1,t.2]))=(ts.take k).filter (fun t=>decide (p∈[t.1,t.2]))++[ts[k]].filter fun t=>decide (p∈[t.1,t.2]):=by
   rw[zF,jc hi,Oc];rfl
  refine ite2 (fun c=> ?_) (fun c=> ?_)
  ·refine⟨_,rfl,?_,rfl,_,rfl⟩;rw[et,wV,aL c,eO,eO,e];rfl
  ·refine⟨?_,rfl,_,rfl⟩;rw[et,wV,aJ c,eO,e];rfl
 ·obtain⟨e,rfl,_⟩:=pp;intro p1 hp1;rw[hlen,uy]at e;refine⟨p1,_,rfl,.inl (SqL.of aG),fun _=> ?_⟩;rw[e];exact q _ (aZ hp1 _)
theorem vp(ys:List Int):V.int (((ys.map V.int).length:Nat):Int)=V.int (ys.length:Int):=by rw[aM]
theorem neE(a b:Int):(!decide (V.int a=V.int b))= !decide (a=b):=by
 by_cases e:a=b
 ·subst e;simp
 ·rw[cI e,cI (by intro z;injection z with z;exact e z)]
noncomputable def KH(K:W.Frag):Sp:=fun vs H Q _=>∃(a b:Addr) (x n:Int) (ts:L0) (bs:List Int),vs=[.ref a,.ref b,.int x]/\jy K H a n ts/\SqT K H b (bs.map V.int)/\bs.length<=100/\∀H',Same H H'->Q (.bl (jR ts bs x)) H'
theorem Vi{f f1 f2:Addr}{fd d1 d2:ρ}(F:Fun K "can_go_on" "can_go_on" Ul f fd)(D1:bF K mg "count_ties_at" XD ["web","place"] f1 d1)(G1:FnOk P w K mg base CX0 1 f1 d1 ["web","place"] (Ge K))(D2:bF K mg "has_tie" P0 ["web","one","other"] f2 d2)(G2:FnOk P w K mg base CX0 1 f2 d2 ["web","one","other"] (lU K))(aU:mg "len"=none)(jQ:mg "all"=none)(au:mg "range"=none):
  FnOk P w K mg base CX0 2 f fd ["web","begun","image"] (KH K):=by
 refine F.cM ["web","begun","image","place"] fun cdv A outer s H vs Q E hr h=> ?_;obtain⟨a,b,x,n,ts,bs,rfl,hW,hb,hl,q⟩:=h;refine⟨_,(aR (pS 3 (pB nO aU (aj (pv 1) ak))) (aR (eF (PW.pt (pw_or (dW (pD hr.units) (pv 2) (pv 1) (by with_unfolding_all rfl)) (pw_or1 (dW op_ne (pc G1 hr D1 (aj (pv 0) (aj (pv 2) ak))) (pc G1 hr D1 (aj (pv 0) (aj (pv 3) ak))))))) (aQ (bW pe_bl)) iG) (aQ (bW (pB (NQ rfl) jQ (aj (pK ["k"] ["web","begun","image","place"] [0,1,2,3] (rY rfl au (aj (pv 3) ak)) (pG 0) qJ (pe_cmpR op_eq (pc G2 hr D2 (aj (pv 1) (aj (bY (DW K) (pv 2) (pv 0)) (aj (pv 3) ak)))) (pc G2 hr D2 (aj (pv 1) (aj (pv 0) (aj (pv 4) ak)))))) ak)))))),?_⟩;refine⟨_,rfl,b,_,rfl,.inr hb,fun _=> ?_⟩;rw[vp];refine⟨_,rfl,_,rfl,b,_,bs.map PyData.int,.int x,rfl,.inr hb,bB.ints bs,.int _,NZ bs,rfl,(by show 0<=60;decide),_,rfl,?_⟩;rw[any_ints];refine ite2 (fun c=> ?_) (fun c=> ?_)
 ·refine iteT ?_;have e:jR ts bs x=false:=by unfold jR;rw[c];rfl
  rw[<-e];exact q _ (Same.refl _)
 ·refine⟨_,rfl,_,rfl,a,n,x,ts,rfl,hW,fun H1 s1=>⟨_,rfl,_,rfl,a,n,_,ts,rfl,hW.same s1,fun H2 s2=>⟨rfl,_,rfl,?_⟩⟩⟩;rw[neE];have s12:=s1.trans s2;have c':decide (x∈bs)=false:=eq_false_of_ne_true c;refine ite2 (fun d=> ?_) (fun d=> ?_)
  ·have e:jR ts bs x=false:=by
    unfold jR;have z:¬cnt ts x=cnt ts (bs.length:Int):=fun z=>by rw[z]at d;simp at d
    rw[cI z,wY];rfl
   rw[<-e];exact q _ s12
  ·have z:cnt ts x=cnt ts (bs.length:Int):=by
    have:((cnt ts x:Nat):Int)=((cnt ts (bs.length:Int):Nat):Int):=by simpa using d
    omega
   have eg:jR ts bs x=Ze ts bs x:=by unfold jR;rw[c',dF z];rfl
   refine⟨_,rfl,(bs.length:Int),rfl,by omega,by omega,?_⟩;refine wO (lo:=0) (n:=(bs.length:Int).toNat) (fun k acc σ H'=>acc=((List.range k).map fun(j:Nat)=>ao ts (bs.getD j 0) x==ao ts (j:Int) (bs.length:Int)).map V.bl/\Same H2 H'/\∃o,σ=[o,some (.ref a),some (.ref b),some (.int x),some (.int (bs.length:Int))]) ⟨rfl,Same.refl _,_,rfl⟩ (fun k acc σ H' _ p=>by rw[p.1,aM,aM,List.length_range];exact bH _) (by rw[cY];omega) (fun k acc σ H' hk p=> ?_) (fun acc σ H' p=> ?_)
   ·obtain⟨rfl,s3,o,rfl⟩:=p;have hat:atI (bs.map V.int) (0+(k:Int))=some (.int (bs.getD k 0)):=by
     have z:=iW (xs:=bs) (i:=0+(k:Int)) (by omega) (by omega)
     rwa [show(0+(k:Int)).toNat=k by omega]at z
    have OJ:=s12.trans s3;refine⟨_,rfl,_,rfl,_,rfl,b,_,_,_,rfl,rfl,OJ.tup hb,hat,_,rfl,a,n,_,x,ts,rfl,hW.same OJ,fun H4 s4=>⟨_,rfl,_,rfl,_,rfl,a,n,_,_,ts,rfl,hW.same (OJ.trans s4),fun H5 s5=>⟨rfl,?_,s3.trans (s4.trans s5),_,rfl⟩⟩⟩;rw[blE,Qd,cg,cg,WQ];rfl
   ·obtain⟨rfl,s3,_⟩:=p;intro p1 hp1;refine⟨p1,_,rfl,SqL.of aG,?_⟩;have e2:((List.range (bs.length:Int).toNat).map fun(j:Nat)=>ao ts (bs.getD j 0) x==ao ts (j:Int) (bs.length:Int)).all id=Ze ts bs x:=by
     rw[JQ,show(bs.length:Int).toNat=bs.length by omega];rfl
    rw[e2,<-eg];exact q _ (s12.trans (s3.trans (aZ hp1 _)))
noncomputable def zf(K:W.Frag)(H:Hp)(l:Addr)(its:List (Addr×List Int)):Prop:=H l=some (.lst (its.map fun p=>V.ref p.1))/\∀p∈its,SqT K H p.1 (p.2.map V.int)
theorem zf.same{H H':Hp}{l:Addr}{its:List (Addr×List Int)}(h:zf K H l its)(e:Same H H'):zf K H' l its:=⟨e _ _ h.1,fun p hp=>e.tup (h.2 p hp)⟩
noncomputable def jf(K:W.Frag)(m:Nat):Sp:=fun vs H Q _=>∃(a b:Addr) (n most:Int) (ts:L0) (bs:List Int),vs=[.ref a,.ref b,.int most]/\aF K H a n ts/\SqT K H b (bs.map V.int)/\bs.length+m=n.toNat/\0<most/\most<=721/\
 ∀r its H',Same H H'->zf K H' r its->its.map (·.2)=(dw (jR ts) n.toNat m bs).take most.toNat->H r=none->Q (.ref r) H'
noncomputable def KJ(K:W.Frag):Nat->Sp
 |0=>fun _ _ _ _=>False
 |m+1=>jf K m
theorem eqE(a b:Int):decide (V.int a=V.int b)=decide (a=b):=by
 by_cases e:a=b
 ·subst e;simp
 ·rw[cI e,cI (by intro z;injection z with z;exact e z)]
theorem Gy{H0 H H':Hp}{l:Addr}(s:Same H0 H)(n:H0 l=none)(e:aA l H H'):Same H0 H':=fun b u h=>e _ _ (fun z=>by rw[z,n]at h;cases h) (s _ _ h)
theorem Gk:FnScope ["web","begun","most","found","image"] ["web","begun","most"] (defScope N7):=fsc
theorem oJ{f f1:Addr}{fd d1:ρ}{lv m:Nat}(F:Fun K "turnings_from" "turnings_from" N7 f fd)(D1:bF K mg "can_go_on" Ul ["web","begun","image"] f1 d1)(G1:FnOk P w K mg base CX0 lv f1 d1 ["web","begun","image"] (KH K))(D2:bF K mg "turnings_from" N7 ["web","begun","most"] f fd)(G2:FnOk P w K mg base CX0 lv f fd ["web","begun","most"] (KJ K m))(aU:mg "len"=none)(au:mg "range"=none):FnOk P w K mg base CX0 (lv+1) f fd ["web","begun","most"] (jf K m):=by
 refine F.cM ["web","begun","most","found","image"] fun cdv A outer s H vs Q E hr h=> ?_;obtain⟨a,b,n,most,ts,bs,rfl,hW,hb,hm,m0,m1,q⟩:=h;refine⟨_,(aR (eF (dW op_eq (pB nO aU (aj (pv 1) ak)) (bY gF (pv 0) aK)) (aQ (bW (nJ (aj (pv 1) ak)))) iG) (aR (pS 3 (nJ ak)) (aR (rR qL rfl (rY rfl au (aj (bY gF (pv 0) aK) ak)) (pG 4) (aQ (eF (PW.pt (pw_and (dW op_lt (pB nO aU (aj (pv 3) ak)) (pv 2)) (pw_and1 (rT (pc G1 hr D1 (aj (pv 0) (aj (pv 1) (aj (pv 4) ak)))))))) (aQ (iw (pe_bm JZ wej wek mt_extend (pv 3) (aj (pc G2 hr D2 (aj (pv 0) (aj (bM cX (pv 1) (cA (aj (pv 4) ak))) (aj (bM op_sub (pv 2) (pB nO aU (aj (pv 3) ak))) ak)))) ak)))) iG))) (aQ (bW (pv 3)))))),?_⟩;have h0:=hW.h0;have h1:=hW.h1;obtain⟨t0,rs0,w1,_,_⟩:=hW.web;refine⟨_,rfl,b,_,rfl,.inr hb,fun _=>⟨_,rfl,a,_,_,.int n,rfl,rfl,w1,rfl,rfl,_,rfl,?_⟩⟩;rw[vp,eqE];cases m with
 |zero=>
  rw[dF (show(bs.length:Int)=n by omega)];refine iteT ?_;refine⟨_,rfl,(by show 1<=sizeLine;decide),fun l hl=> ?_⟩;refine q l [(b,bs)] _ (aZ hl _) ⟨aG,fun p hp=>by rw[eN.mp hp];exact(aZ hl _).tup hb⟩ ?_ hl;show[bs]=[bs].take most.toNat;rw[Wv (by show 1<=_;omega)]
 |succ m=>
  rw[cI (show¬(bs.length:Int)=n by omega)];refine iteF ?_;dsimp only[tNext];refine⟨(by show 0<=sizeLine;decide),fun tl htl=> ?_⟩;have s1:=aZ htl (.lst []);have T0:zf K (upd H tl (.lst [])) tl []:=⟨aG,fun p hp=>(nomatch hp)⟩;dsimp only at s1 T0⊢;generalize upd H tl (.lst [])=H1 at *;refine⟨_,rfl,a,_,_,.int n,rfl,rfl,s1.tup w1,rfl,n,rfl,by omega,by omega,?_⟩;refine Kh (n:=n.toNat) (fun i σ H'=>Same H H'/\(∃its,zf K H' tl its/\its.map (·.2)=(upTo (jR ts) n.toNat m bs i).take most.toNat)/\∃o4,σ=[some (.ref a),some (.ref b),some (.int most),some (.ref tl),o4])
   ⟨s1,⟨[],T0,by show[]=([]:List (List Int)).take _;rw[List.take_nil]⟩,_,rfl⟩ (fun i σ H2 hi p=> ?_) (fun σ H2 p=> ?_)
  ·obtain⟨s2,⟨its,T,e⟩,o4,rfl⟩:=p;have hW2:=hW.same s2;have hb2:=s2.tup hb;have hlen:its.length=((upTo (jR ts) n.toNat m bs i).take most.toNat).length:=by rw[<-e,aM]
   refine⟨_,rfl,tl,_,rfl,.inl (SqL.of T.1),fun _=>⟨_,rfl,_,_,rfl,rfl,_,rfl,?_⟩⟩;have e0:0+(i:Int)=(i:Int):=WQ _;rw[Bq];refine ite2 (fun c=> ?_) (fun c=> ?_)
   ·have c2:its.length<most.toNat:=by
     have c3:=qX c;rw[aM]at c3;omega
    refine⟨_,rfl,_,rfl,_,rfl,a,b,_,n,ts,bs,rfl,hW2.web,hb2,by omega,fun H3 s3=>⟨_,rfl,?_⟩⟩;rw[e0];have T3:=T.same s3;refine ite2 (fun d=> ?_) (fun d=> ?_)
    ·refine⟨_,rfl,.inl ⟨rfl,_,SqL.of T3.1⟩,?_⟩;refine⟨_,rfl,_,rfl,_,rfl,(by show 1<=sizeLine;decide),fun t ht=> ?_⟩;have s4:=aZ ht (.tup [.int (i:Int)]);refine⟨b,t,_,_,rfl,rfl,s4.tup (s3.tup hb2),SqT.of aG,by rw[aM,cY];show _+1<=_;omega,fun b5 H5 s5 h5=> ?_⟩;have QK:=s3.trans (s4.trans s5);have T5:=T3.same (s4.trans s5);refine⟨_,rfl,_,rfl,tl,_,rfl,.inl (SqL.of T5.1),fun _=>⟨_,_,rfl,rfl,?_⟩⟩;refine⟨a,b5,n,_,ts,bs++[(i:Int)],rfl,hW2.same QK,?_,by rw[eO,YH];omega,?_,?_,fun r RD H6 s6 T6 e6 n6=> ?_⟩
     ·rw[cg];exact h5
     ·show 0<most-((its.map fun p=>V.ref p.1).length:Int);rw[aM];omega
     ·show most-((its.map fun p=>V.ref p.1).length:Int)<=721;rw[aM];omega
     ·have Xx:=T5.same s6;have e7:(most-((its.map fun p=>V.ref p.1).length:Int)).toNat=most.toNat-its.length:=by rw[aM];omega
      have l6:RD.length<=721:=by
       have:=iy List.length e6;rw[aM,qU,e7]at this;omega
      refine⟨tl,r,_,_,rfl,rfl,Xx.1,T6.1,by rw[aM,aM,cY];omega,?_⟩;have x7:aA tl H6 (upd H6 tl (.lst ((its.map fun p=>V.ref p.1)++RD.map fun p=>V.ref p.1))):=(aA.refl _ _).upd;refine⟨Gy (s2.trans (QK.trans s6)) htl x7,⟨its++RD,⟨by rw[aG,cg],fun p hp=> ?_⟩,?_⟩,_,rfl⟩
      ·rcases fH.mp hp with z|z
       ·exact x7.tup Xx.1 (Xx.2 p z)
       ·exact x7.tup Xx.1 (T6.2 p z)
      ·rw[aL d,Kz (by rw[<-hlen];exact c2),<-hlen,cg,e,e6,e7]
    ·refine⟨s2.trans s3,⟨its,T3,?_⟩,_,rfl⟩;rw[aJ d,qT];exact e
   ·refine iteF ?_;refine⟨s2,⟨its,T,?_⟩,_,rfl⟩;have c2:¬its.length<most.toNat:=fun z=>c (dF (by rw[aM];omega));rw[KC (by rw[<-hlen];exact c2)];exact e
  ·obtain⟨s2,⟨its,T,e⟩,o4,rfl⟩:=p;exact⟨_,rfl,q tl its _ s2 T e htl⟩
theorem uZ{f f1:Addr}{fd d1:ρ}(F:Fun K "turnings_from" "turnings_from" N7 f fd)(D1:bF K mg "can_go_on" Ul ["web","begun","image"] f1 d1)(G1:FnOk P w K mg base CX0 2 f1 d1 ["web","begun","image"] (KH K))(D2:bF K mg "turnings_from" N7 ["web","begun","most"] f fd)(aU:mg "len"=none)(au:mg "range"=none):∀m,FnOk P w K mg base CX0 (3+m) f fd ["web","begun","most"] (jf K m)
 |0=>oJ (lv:=2) F D1 G1 D2 (F.ok (k:=1) Gk (fun vs H Q E h=>h.elim) (fun cdv A outer s H vs Q E hr h=>h.elim)) aU au
 |m+1=>oJ (lv:=3+m) (m:=m+1) F D1 (G1.mono (by omega)) D2 (uZ F D1 G1 D2 aU au m) aU au
noncomputable abbrev ER(C:Addr)(H:Hp)(E:XK):Prop:=∀e H',Same H H'->H' e=none->E (.ref e) (some C) (upd H' e (qt e C))
noncomputable def Ft(K:W.Frag):Sp:=fun vs H Q _=>∃(a:Addr) (n:Int) (ts:L0),vs=[.ref a]/\aF K H a n ts/\(dw (jR ts) n.toNat n.toNat []).length<=720/\
 ∀r its H',Same H H'->zf K H' r its->its.map (·.2)=dw (jR ts) n.toNat n.toNat []->H r=none->Q (.ref r) H'
theorem Ce{f f1 f2:Addr}{fd d1 d2:ρ}{tk0:Tok}(F:Fun K "turnings" "turnings" fL f fd)(D1:bF K mg "need_web" wL ["thing"] f1 d1)(G1:FnOk P w K mg base CX0 7 f1 d1 ["thing"] (bN K))(D2:bF K mg "turnings_from" N7 ["web","begun","most"] f2 d2)(G2':∀m,FnOk P w K mg base CX0 (3+m) f2 d2 ["web","begun","most"] (jf K m))(aU:mg "len"=none)(gC:mg "MOST_TURNINGS"=some (.int 720 tk0)):
  FnOk P w K mg base CX0 14 f fd ["web"] (Ft K):=by
 refine F.cM ["web","found"] fun cdv A outer s H vs Q E hr h=> ?_;obtain⟨a,n,ts,rfl,hW,hle,q⟩:=h;have h1:=hW.h1;have G2:FnOk P w K mg base CX0 13 f2 d2 ["web","begun","most"] (jf K n.toNat):=(G2' n.toNat).mono (by omega);refine⟨_,(aR (iw (pc G1 hr D1 (aj (pv 0) ak))) (aR (pS 1 (pc G2 hr D2 (aj (pv 0) (aj (cA ak) (aj (bM mO (DY rfl gC (v:= .int 720) ⟨_,rfl⟩) aK) ak))))) (aR (eF (dW op_gt (pB nO aU (aj (pv 1) ak)) (DY rfl gC (v:= .int 720) ⟨_,rfl⟩)) wN iG) (aQ (bW (pv 1)))))),?_⟩;refine⟨_,rfl,.ref a,_,rfl,hW.web.dv.dx,hW.ok,fun H1 s1=> ?_⟩;refine⟨_,rfl,(by show 0<=sizeLine;decide),fun e he=>⟨_,_,rfl,rfl,?_⟩⟩;have s2:=aZ he (.tup []);refine⟨a,e,n,720+1,ts,[],rfl,(hW.same s1).same s2,SqT.of aG,by show 0+n.toNat=n.toNat;omega,by decide,by decide,fun r its H2 s3 T e2 n2=> ?_⟩;have J0:=s1.trans (s2.trans s3);have r0:H r=none:=(s1.trans s2).free n2;have hl:its.length=min 721 (dw (jR ts) n.toNat n.toNat []).length:=by
  have:=iy List.length e2;rw[aM,qU]at this;exact this
 refine⟨_,rfl,r,_,rfl,.inl (SqL.of T.1),fun _=>⟨_,_,rfl,rfl,_,rfl,?_⟩⟩;rw[aM];rw[cI (show¬(720:Int)<(its.length:Int) by omega)];refine iteF ?_;refine⟨_,rfl,q r its H2 J0 T ?_ r0⟩;rw[e2];exact Wv (show _<=721 by omega)
structure Kinds(K:W.Frag)(cs:List Addr)(C:Addr)(bs:List Bool):Prop where
 ok:lJ K C
 one:PySem.W.kitOne K (.ref C) (.type "ValueError")=some true
 len:cs.length=9
 get:∀(i:Nat) (c:Addr),cs[i]? =some c->∃b,bs[i]? =some b/\PySem.W.kitOne K (.ref C) (.ref c)=some b
 Vt:bs.length=9
theorem vB{c0 c1 c2 c3 c4 c5 c6 c7 c8 C:Addr}{b0 b1 b2 b3 b4 b5 b6 b7 b8:Bool}(ok:lJ K C)(one:PySem.W.kitOne K (.ref C) (.type "ValueError")=some true)(k0:PySem.W.kitOne K (.ref C) (.ref c0)=some b0)(k1:PySem.W.kitOne K (.ref C) (.ref c1)=some b1)(k2:PySem.W.kitOne K (.ref C) (.ref c2)=some b2)(k3:PySem.W.kitOne K (.ref C) (.ref c3)=some b3)(k4:PySem.W.kitOne K (.ref C) (.ref c4)=some b4)(k5:PySem.W.kitOne K (.ref C) (.ref c5)=some b5)(k6:PySem.W.kitOne K (.ref C) (.ref c6)=some b6)(k7:PySem.W.kitOne K (.ref C) (.ref c7)=some b7)(k8:PySem.W.kitOne K (.ref C) (.ref c8)=some b8):
  Kinds K [c0,c1,c2,c3,c4,c5,c6,c7,c8] C [b0,b1,b2,b3,b4,b5,b6,b7,b8]:=
 ⟨ok,one,rfl,(fun i c e=>by
  match i,e with
  |0,e=>cases e;exact⟨_,rfl,k0⟩
  |1,e=>cases e;exact⟨_,rfl,k1⟩
  |2,e=>cases e;exact⟨_,rfl,k2⟩
  |3,e=>cases e;exact⟨_,rfl,k3⟩
  |4,e=>cases e;exact⟨_,rfl,k4⟩
  |5,e=>cases e;exact⟨_,rfl,k5⟩
  |6,e=>cases e;exact⟨_,rfl,k6⟩
  |7,e=>cases e;exact⟨_,rfl,k7⟩
  |8,e=>cases e;exact⟨_,rfl,k8⟩
  |_+9,e=>cases e),rfl⟩
noncomputable def words:List Str:=["fold","number","place","row","text","tie","wants","web","many"]
noncomputable def FZ(K:W.Frag)(cs:List Addr):Sp:=fun vs H Q _=>∃(a C:Addr) (bs:List Bool) (j:Nat) (x:Str),vs=[.ref a]/\H a=some (qt a C)/\Kinds K cs C bs/\bs.countP id=1/\bs[j]? =some true/\(∀m,m<j->bs[m]? =some false)/\words[j]? =some x/\∀H',Same H H'->Q (.str x) H'
theorem Ln{f c0 c1 c2 c3 c4 c5 c6 c7 c8:Addr}{fd:ρ}(F:Fun K "_law_e_kind" "_law_e_kind" fV f fd)(mi:mg "isinstance"=none)(mV:mg "ValueError"=none)(m0:mg "NoFold"=some (.ref c0))(m1:mg "NoNumber"=some (.ref c1))(m2:mg "NoPlace"=some (.ref c2))(m3:mg "NoRow"=some (.ref c3))(m4:mg "NoText"=some (.ref c4))(m5:mg "NoTie"=some (.ref c5))(m6:mg "NoWants"=some (.ref c6))(m7:mg "NoWeb"=some (.ref c7))(m8:mg "TooMany"=some (.ref c8)):
  FnOk P w K mg base CX0 1 f fd ["caught"] (FZ K [c0,c1,c2,c3,c4,c5,c6,c7,c8]):=by
 refine F.cM ["caught","names","kinds"] fun cdv A outer s H vs Q E hr h=> ?_;obtain⟨a,C,bs,j,x,rfl,hA,hK,h1,h2,h3,h4,q⟩:=h;refine⟨_,aR (pS 1 (nJ (aj qF (aj qF (aj qF (aj qF (aj qF (aj qF (aj qF (aj qF (aj qF ak))))))))))) (aR (pS 2 (nJ (aj (pB Kg mi (aj (pv 0) (aj (DY rfl m0 (v:= .ref c0) rfl) ak))) (aj (pB Kg mi (aj (pv 0) (aj (DY rfl m1 (v:= .ref c1) rfl) ak))) (aj (pB Kg mi (aj (pv 0) (aj (DY rfl m2 (v:= .ref c2) rfl) ak))) ak))))) (aR (pS 2 (bM op_cat (pv 2) (nJ (aj (pB Kg mi (aj (pv 0) (aj (DY rfl m3 (v:= .ref c3) rfl) ak))) (aj (pB Kg mi (aj (pv 0) (aj (DY rfl m4 (v:= .ref c4) rfl) ak))) (aj (pB Kg mi (aj (pv 0) (aj (DY rfl m5 (v:= .ref c5) rfl) ak))) ak)))))) (aR (pS 2 (bM op_cat (pv 2) (nJ (aj (pB Kg mi (aj (pv 0) (aj (DY rfl m6 (v:= .ref c6) rfl) ak))) (aj (pB Kg mi (aj (pv 0) (aj (DY rfl m7 (v:= .ref c7) rfl) ak))) (aj (pB Kg mi (aj (pv 0) (aj (DY rfl m8 (v:= .ref c8) rfl) ak))) ak)))))) (aR (eF (PW.pt (pw_or (dW op_ne (pe_bm JZ PySem.F.slot_list_count PySem.F.type_list_count Hu (pv 2) (aj pe_bl ak)) aK) (pw_or1 (ur (rT (pB Dm mi (aj (pv 0) (aj (pN "ValueError" mV) ak)))))))) (aQ (bW qF)) iG) (aQ (bW (bY uw (pv 1) (pe_bm JZ PySem.F.slot_list_index PySem.F.type_list_index Ht (pv 2) (aj pe_bl ak))))))))),?_⟩;obtain⟨b0,e0,k0⟩:=hK.get 0 _ rfl;obtain⟨b1,e1,k1⟩:=hK.get 1 _ rfl;obtain⟨b2,e2,k2⟩:=hK.get 2 _ rfl;obtain⟨b3,e3,k3⟩:=hK.get 3 _ rfl;obtain⟨b4,e4,k4⟩:=hK.get 4 _ rfl;obtain⟨b5,e5,k5⟩:=hK.get 5 _ rfl;obtain⟨b6,e6,k6⟩:=hK.get 6 _ rfl;obtain⟨b7,e7,k7⟩:=hK.get 7 _ rfl;obtain⟨b8,e8,k8⟩:=hK.get 8 _ rfl;have hbs:bs=[b0,b1,b2,b3,b4,b5,b6,b7,b8]:=by
  refine Yu fun i=> ?_;by_cases hi:i<9
  ·match i,hi with
   |0,_=>exact e0
   |1,_=>exact e1
   |2,_=>exact e2
   |3,_=>exact e3
   |4,_=>exact e4
   |5,_=>exact e5
   |6,_=>exact e6
   |7,_=>exact e7
   |8,_=>exact e8
  ·rw[Uz (by have:=hK.Vt;omega),Uz (by show 9<=i;omega)]
 have ok:=hK.ok;refine⟨(by show 9<=sizeLine;decide),fun l0 hl0=> ?_⟩;have s0:=aZ hl0 (.lst [.str "fold",.str "number",.str "place",.str "row",.str "text",.str "tie",.str "wants",.str "web",.str "many"]);have w0:(upd H l0 (.lst [.str "fold",.str "number",.str "place",.str "row",.str "text",.str "tie",.str "wants",.str "web",.str "many"])) l0=some (.lst (words.map V.str)):=aG;have hA:=s0 _ _ hA;dsimp only at s0 w0 hA⊢;generalize upd H l0 (.lst [.str "fold",.str "number",.str "place",.str "row",.str "text",.str "tie",.str "wants",.str "web",.str "many"])=H0 at *;refine⟨_,rfl,a,C,c0,b0,rfl,hA,ok,k0,_,rfl,a,C,c1,b1,rfl,hA,ok,k1,_,rfl,a,C,c2,b2,rfl,hA,ok,k2,(by show 3<=sizeLine;decide),fun l hl=> ?_⟩;have s1:=aZ hl (.lst [.bl b0,.bl b1,.bl b2]);have e1':(upd H0 l (.lst [.bl b0,.bl b1,.bl b2])) l=some (.lst [.bl b0,.bl b1,.bl b2]):=aG;have Ke:=s1 _ _ hA;dsimp only at s1 e1' Ke⊢;generalize upd H0 l (.lst [.bl b0,.bl b1,.bl b2])=Ha at *;refine⟨_,rfl,_,rfl,a,C,c3,b3,rfl,Ke,ok,k3,_,rfl,a,C,c4,b4,rfl,Ke,ok,k4,_,rfl,a,C,c5,b5,rfl,Ke,ok,k5,(by show 3<=sizeLine;decide),fun l2 hl2=> ?_⟩;have s2:=aZ hl2 (.lst [.bl b3,.bl b4,.bl b5]);refine⟨l,l2,_,_,rfl,rfl,s2 _ _ e1',aG,(by show 6<=sizeLine;decide),fun l3 hl3=> ?_⟩;have s3:=s2.trans (aZ hl3 (.lst ([.bl b0,.bl b1,.bl b2]++[.bl b3,.bl b4,.bl b5])));have e3':(upd (upd Ha l2 (.lst [.bl b3,.bl b4,.bl b5])) l3 (.lst ([.bl b0,.bl b1,.bl b2]++[.bl b3,.bl b4,.bl b5]))) l3=some (.lst ([.bl b0,.bl b1,.bl b2]++[.bl b3,.bl b4,.bl b5])):=aG;have Xu:=s3 _ _ Ke;dsimp only at s3 e3' Xu⊢;generalize upd (upd Ha l2 (.lst [.bl b3,.bl b4,.bl b5])) l3 (.lst ([.bl b0,.bl b1,.bl b2]++[.bl b3,.bl b4,.bl b5]))=Hb at *;refine⟨_,rfl,_,rfl,a,C,c6,b6,rfl,Xu,ok,k6,_,rfl,a,C,c7,b7,rfl,Xu,ok,k7,_,rfl,a,C,c8,b8,rfl,Xu,ok,k8,(by show 3<=sizeLine;decide),fun l4 Pj=> ?_⟩;have s4:=aZ Pj (.lst [.bl b6,.bl b7,.bl b8]);refine⟨l3,l4,_,_,rfl,rfl,s4 _ _ e3',aG,(by show 9<=sizeLine;decide),fun l5 hl5=> ?_⟩;have s5:=s4.trans (aZ hl5 (.lst (([.bl b0,.bl b1,.bl b2]++[.bl b3,.bl b4,.bl b5])++[.bl b6,.bl b7,.bl b8])));have e5:(upd (upd Hb l4 (.lst [.bl b6,.bl b7,.bl b8])) l5 (.lst (([.bl b0,.bl b1,.bl b2]++[.bl b3,.bl b4,.bl b5])++[.bl b6,.bl b7,.bl b8]))) l5=some (.lst (bs.map V.bl)):=by rw[hbs];exact aG
 have Ej:=s1.trans (s3.trans s5);have Xr:=Ej _ _ hA;have w5:=Ej _ _ w0;dsimp only at Ej e5 Xr w5⊢;generalize upd (upd Hb l4 (.lst [.bl b6,.bl b7,.bl b8])) l5 (.lst (([.bl b0,.bl b1,.bl b2]++[.bl b3,.bl b4,.bl b5])++[.bl b6,.bl b7,.bl b8]))=H5 at *;refine⟨_,rfl,.inl ⟨rfl,_,SqL.of e5⟩,l5,bs,rfl,rfl,e5,rfl,_,rfl,?_⟩;rw[h1];refine iteF ?_;refine⟨_,rfl,a,C,"ValueError",true,rfl,Xr,ok,hK.one,_,rfl,?_⟩;refine iteF ?_;refine⟨_,rfl,_,rfl,.inl ⟨rfl,_,SqL.of e5⟩,l5,bs,j,rfl,rfl,e5,h2,h3,by rw[hK.Vt];decide,?_⟩;refine⟨l0,_,_,.str x,rfl,rfl,SqL.of w5,?_,q _ (s0.trans Ej)⟩;refine atI_nat ?_;rw[dD,h4];rfl
end
theorem Ah(n:Nat):(uP n).length=n:=by unfold uP;rw[aM,List.length_range]
noncomputable def jx(ts:L0)(n:Nat):Bool:=(uP n).all fun p=>jR ts [] p&& !(dw (jR ts) n (n-1) [p]).isEmpty
section
variable{P:ξ}{w:τ}{K:W.Frag}{mg:L5}{base:Heap}
noncomputable def pR(ts:L0)(n:Nat)(p:Int):Bool:=jR ts [] p&& !(dw (jR ts) n (n-1) [p]).isEmpty
noncomputable def FQ(K:W.Frag):Sp:=fun vs H Q _=>∃(a:Addr) (n p:Int) (ts:L0),vs=[.ref a,.int p]/\aF K H a n ts/\0<=p/\p<n/\∀H',Same H H'->Q (.bl (pR ts n.toNat p)) H'
theorem Lk{f f1 f2:Addr}{fd d1 d2:ρ}(F:Fun K "leads_first_to" "leads_first_to" XQ f fd)(D1:bF K mg "turnings_from" N7 ["web","begun","most"] f1 d1)(Wc:∀m,FnOk P w K mg base CX0 (3+m) f1 d1 ["web","begun","most"] (jf K m))(D2:bF K mg "can_go_on" Ul ["web","begun","image"] f2 d2)(G2:FnOk P w K mg base CX0 2 f2 d2 ["web","begun","image"] (KH K))(aU:mg "len"=none):
  FnOk P w K mg base CX0 14 f fd ["web","place"] (FQ K):=by
 refine F.cM ["web","place"] fun cdv A outer s H vs Q E hr h=> ?_;obtain⟨a,n,p,ts,rfl,hW,p0,p1,q⟩:=h;have h1':=hW.h1;have G1:FnOk P w K mg base CX0 13 f1 d1 ["web","begun","most"] (jf K (n.toNat-1)):=(Wc (n.toNat-1)).mono (by omega);refine⟨_,(aQ (bW (pe_and (pc G2 hr D2 (aj (pv 0) (aj (cA ak) (aj (pv 1) ak)))) (pe_one (pe_cmpR op_gt (pB nO aU (aj (pc G1 hr D1 (aj (pv 0) (aj (cA (aj (pv 1) ak)) (aj aK ak)))) ak)) aK))))),?_⟩;have h1:=hW.h1;refine⟨_,rfl,(by show 0<=sizeLine;decide),fun e0 he0=> ?_⟩;have s1:=aZ he0 (.tup []);refine⟨_,rfl,a,e0,p,n,ts,[],rfl,(hW.same s1).web,SqT.of aG,by decide,fun H1 s2=>⟨_,rfl,?_⟩⟩;have s12:=s1.trans s2;refine ite2 (fun c=> ?_) (fun c=> ?_)
 ·refine⟨_,rfl,_,rfl,(by show 1<=sizeLine;decide),fun e1 T9=> ?_⟩;have s3:=aZ T9 (.tup [.int p]);refine⟨a,e1,n,1,ts,[p],rfl,hW.same (s12.trans s3),SqT.of aG,by show 1+(n.toNat-1)=n.toNat;omega,by decide,by decide,fun r its H2 s4 T e4 n4=> ?_⟩;refine⟨r,_,rfl,.inl (SqL.of T.1),fun _=>⟨_,_,rfl,rfl,?_⟩⟩;have el:its.length=min 1 (dw (jR ts) n.toNat (n.toNat-1) [p]).length:=by
   have:=iy List.length e4;rw[aM,qU]at this;exact this
  have eb:decide ((0:Int)<(((its.map fun p=>V.ref p.1).length:Nat):Int))=pR ts n.toNat p:=by
   unfold pR;rw[c,Bool.true_and,aM,el];cases dw (jR ts) n.toNat (n.toNat-1) [p]with
   |nil=>rfl
   |cons x xs=>rw[lO,show min 1 (xs.length+1)=1 by omega];rfl
  dsimp only;rw[eb];exact q _ (s12.trans (s3.trans s4))
 ·have eb:pR ts n.toNat p=false:=by unfold pR;rw[eq_false_of_ne_true c];rfl
  rw[<-eb];exact q _ s12
noncomputable def Ae(K:W.Frag):Sp:=fun vs H Q _=>∃(a:Addr) (n:Int) (ts:L0),vs=[.ref a]/\aF K H a n ts/\∀H',Same H H'->Q (.bl (jx ts n.toNat)) H'
theorem Hh{f f1 f2:Addr}{fd d1 d2:ρ}(F:Fun K "is_alike" "is_alike" S9 f fd)(D1:bF K mg "need_web" wL ["thing"] f1 d1)(G1:FnOk P w K mg base CX0 7 f1 d1 ["thing"] (bN K))(D2:bF K mg "leads_first_to" XQ ["web","place"] f2 d2)(G2:FnOk P w K mg base CX0 14 f2 d2 ["web","place"] (FQ K))(jQ:mg "all"=none)(au:mg "range"=none):
  FnOk P w K mg base CX0 15 f fd ["web"] (Ae K):=by
 refine F.cM ["web"] fun cdv A outer s H vs Q E hr h=> ?_;obtain⟨a,n,ts,rfl,hW,q⟩:=h;refine⟨_,(aR (iw (pc G1 hr D1 (aj (pv 0) ak))) (aQ (bW (pB (NQ rfl) jQ (aj (pK ["place"] ["web"] [0] (rY rfl au (aj (bY gF (pv 0) aK) ak)) (pG 0) qJ (pc G2 hr D2 (aj (pv 1) (aj (pv 0) ak)))) ak))))),?_⟩;have h0:=hW.h0;have h1:=hW.h1;refine⟨_,rfl,.ref a,_,rfl,hW.web.dv.dx,hW.ok,fun H1 s1=> ?_⟩;have hW1:=hW.same s1;obtain⟨t,rs,w1,_,_⟩:=hW1.web;refine⟨_,rfl,a,_,_,.int n,rfl,rfl,w1,rfl,n,rfl,by omega,by omega,?_⟩;refine wO (lo:=0) (n:=n.toNat) (fun k acc σ H'=>acc=((uP k).map (pR ts n.toNat)).map V.bl/\Same H1 H'/\∃o,σ=[o,some (.ref a)]) ⟨rfl,Same.refl _,_,rfl⟩ (fun k acc σ H' _ p=>by rw[p.1,aM,aM,Ah];exact bH _) (by rw[cY];omega) (fun k acc σ H' hk p=> ?_) (fun acc σ H' p=> ?_)
 ·obtain⟨rfl,s2,o,rfl⟩:=p;refine⟨_,rfl,_,rfl,a,n,_,ts,rfl,hW1.same s2,by omega,by omega,fun H2 s3=>⟨?_,s2.trans s3,_,rfl⟩⟩;rw[uO,cg,cg,WQ];rfl
 ·obtain⟨rfl,s2,_⟩:=p;intro p1 hp1;refine⟨p1,_,rfl,SqL.of aG,?_⟩;have e:((uP n.toNat).map (pR ts n.toNat)).all id=jx ts n.toNat:=by rw[JQ];rfl
  rw[e];exact q _ (s1.trans (s2.trans (aZ hp1 _)))
theorem xX{n:Int}{ts:L0}{s:List Int}(h0:0<=n)(h1:n<=10)(h:qp s ts false n.toNat):s.length<=10:=by
 obtain⟨ss,hS,i,hi,hm⟩:=h;have K1:j4 ts false n.toNat s:=fJ _ _ (dY.mp (hS.1.mem_iff.mp (nP hi))).1;have h2:Sub n.toNat s:=⟨K1.up.imp fun h e=>by omega,fun i hi=>by have:=K1.lt i hi;omega⟩;have:=h2.len;omega
noncomputable def Gg(K:W.Frag):Sp:=fun vs H Q _=>∃(a:Addr) (n:Int) (ts:L0),vs=[.ref a]/\aF K H a n ts/\(jx ts n.toNat=false->∀H',Same H H'->Q .non H')/\
 (jx ts n.toNat=true->∀(p:Addr) (H':Hp) (u:Int) (v:Nat) (s:List Int),Same H H'->H' p=some (.tup [.int u,.int (v:Int)])->qp s ts false n.toNat->Low n (max s.length 1) u v->Q (.ref p) H')
theorem Cu{f f1 f2 f3:Addr}{fd d1 d2 d3:ρ}(F:Fun K "alike_value" "alike_value" Wi f fd)(D1:bF K mg "is_alike" S9 ["web"] f1 d1)(G1:FnOk P w K mg base CX0 15 f1 d1 ["web"] (Ae K))(D2:bF K mg "lowest" jG ["a","b"] f2 d2)(G2:FnOk P w K mg base CX0 2 f2 d2 ["a","b"] (FN K))(D3:bF K mg "greatest_apart" Wk ["web"] f3 d3)(G3:FnOk P w K mg base CX0 9 f3 d3 ["web"] (oV K))(vm:mg "max"=none)(aU:mg "len"=none):
  FnOk P w K mg base CX0 16 f fd ["web"] (Gg K):=by
 refine F.cM ["web"] fun cdv A outer s H vs Q E hr h=> ?_;obtain⟨a,n,ts,rfl,hW,q1,q2⟩:=h;refine⟨_,(aR (eF (ur (rT (pc G1 hr D1 (aj (pv 0) ak)))) (aQ (bW zB)) iG) (aQ (bW (pc G2 hr D2 (aj (bY gF (pv 0) aK) (aj (pB (call_max2 rfl) vm (aj (pB nO aU (aj (pc G3 hr D3 (aj (pv 0) ak)) ak)) (aj aK ak))) ak)))))),?_⟩;have hw1:=hW.h1;refine⟨_,rfl,a,n,ts,rfl,hW,fun H1 s1=>⟨_,rfl,?_⟩⟩;refine ite2 (fun c=> ?_) (fun c=> ?_)
 ·exact q1 (by cases z:jx ts n.toNat with
   |false=>rfl
   |true=>rw[z]at c;cases c) H1 s1
 ·have ct:jx ts n.toNat=true:=by
   cases z:jx ts n.toNat with
   |true=>rfl
   |false=>rw[z]at c;exact absurd rfl c
  obtain⟨t,rs,w1,_,_⟩:=(hW.same s1).web;refine⟨_,rfl,a,_,_,.int n,rfl,rfl,w1,rfl,_,rfl,a,n,ts,rfl,hW.same s1,fun r s H2 s2 hr hm=> ?_⟩;refine⟨r,_,rfl,.inr hr,fun hz=>⟨_,_,rfl,?_⟩⟩;have e:(if(1:Int)>(((s.map V.int).length:Nat):Int)then(1:Int)else(((s.map V.int).length:Nat):Int))=((max s.length 1:Nat):Int):=by
   rw[aM];split<;>omega
  rw[e];have hs:=xX hW.h0 hw1 hm;exact⟨n,max s.length 1,rfl,by omega,cC (show max s.length 1<=10 by omega) (by decide+kernel),fun p H' u v s' hp L=>q2 ct p H' u v s (s1.trans (s2.trans s')) hp hm L⟩
end
end Hs
namespace L2
open PySem
noncomputable def QC(a b:Sp):Sp:=fun vs H Q E=>a vs H Q E\/b vs H Q E
theorem FnOk.or{P:ξ}{w:τ}{K:W.Frag}{mg:L5}{base:Heap}{CX:CXT}{k:Nat}{f:Addr}{fd:ρ}{ps:List Str}{sp sp':Sp}(F:FnOk P w K mg base CX k f fd ps sp)(F':FnOk P w K mg base CX k f fd ps sp'):FnOk P w K mg base CX k f fd ps (QC sp sp'):=
 ⟨fun vs H Q E q=>q.elim (F.len vs H Q E) (F'.len vs H Q E),fun A outer s H args us vs Q E hr he hb hv hs=>hs.elim (F.run A outer s H args us vs Q E hr he hb hv) (F'.run A outer s H args us vs Q E hr he hb hv)⟩
end L2
namespace Hs
open PySem L2 kj
theorem qI{i j:Int}{A B:Prop}(h:¬i=j)(hB:B):if decide (V.int i=V.int j)=true then A else B:=by
 rw[cI fun z=>h (V.int.inj z)];exact iteF hB
theorem int_eq{i:Int}{A B:Prop}(hA:A):if decide (V.int i=V.int i)=true then A else B:=by
 rw[dF rfl];exact iteT hA
section
variable{P:ξ}{w:τ}{K:W.Frag}{mg:L5}{base:Heap}
noncomputable def oU(K:W.Frag)(C:Addr):Sp:=fun vs H Q E=>∃(x:V) (d:θ),vs=[x]/\DX K H x d/\gJ d=false/\ER C H E
theorem u5{f f1 C:Addr}{fd d1:ρ}{bmB:List ζ}{B newId initId:String}(F:Fun K "need_web" "need_web" wL f fd)(D1:bF K mg "is_web" jH ["thing"] f1 d1)(G1:FnOk P w K mg base CX0 6 f1 d1 ["thing"] (Fp K))
  (FB:ExcBaseFacts B newId initId bmB)(mC:mg "NoWeb"=some (.ref C))(qC:PySem.W.excIn K C bmB newId=true):FnOk P w K mg base (cZ P w) 7 f fd ["thing"] (oU K C):=by
 refine F.sV ["thing"] fun cdv A outer s H vs Q E hr h=> ?_;obtain⟨x,d,rfl,hx,hw,q⟩:=h;refine⟨_,aQ (eF (ur (rT (pc G1 hr D1 (aj (pv 0) ak)))) (aQ (uU FB mC qC (aj qF ak) rfl)) iG),?_⟩;refine⟨_,rfl,x,d,rfl,hx,fun H' sm=>⟨_,rfl,?_⟩⟩;rw[hw];exact iteT ⟨by decide,fun e he=>q e H' sm he⟩
noncomputable def eE(K:W.Frag)(H:Hp)(x:V):Prop:=∃d,DX K H x d/\gJ d=false
end
noncomputable def fc:Nat->Nat
 |0=>1
 |m+1=>(m+1)*fc m
theorem sub_le:∀{l m:List Int},l.Nodup->(∀x∈l,x∈m)->l.length<=m.length
 |[],m,_,_=>gG _
 |y::l,m,nd,hs=>by
  obtain⟨ny,nd'⟩:=Ef.mp nd;have my:y∈m:=hs y cH;have:=sub_le (l:=l) (m:=m.erase y) nd' fun z hz=>(List.mem_erase_of_ne (fun q=>ny (by rw[<-q];exact hz))).mpr (hs z (cP _ hz));rw[weh my]at this;have:=UG my;rw[lO];omega
theorem QV(n:Nat):(uP n).Nodup:=Er.mpr (Tp.imp fun h=>by omega)
theorem Bd{α β:Type}{f:α->List β}{k:Nat}:∀{l:List α},(∀x∈l,(f x).length<=k)->(l.flatMap f).length<=l.length*k
 |[],_=>by simp
 |x::l,h=>by
  have a:=h x cH;have b:=Bd (f:=f) (l:=l) fun y hy=>h y (cP _ hy);rw[List.flatMap_cons,eO,lO,Nat.add_mul];omega
theorem v8(ts:L0)(n:Nat):∀(m:Nat) (b:List Int),b.Nodup->(∀x∈b,x∈uP n)->b.length+m=n->(dw (jR ts) n m b).length<=fc m
 |0,b,_,_,_=>bH _
 |m+1,b,nd,hb,hl=>by
  have hg:∀x,jR ts b x=true->x∉b:=fun x hx=>by
   unfold jR at hx;rw[gU,gU,Qu,YW]at hx;exact hx.1.1
  have len:((uP n).filter (jR ts b)).length+b.length<=n:=by
   have nd2:((uP n).filter (jR ts b)++b).Nodup:=List.nodup_append.mpr ⟨(QV n).filter _,nd,fun x hx y hy e=>hg x (dY.mp hx).2 (by rw[e];exact hy)⟩;have:=sub_le nd2 (m:=uP n) fun x hx=>by
    rcases fH.mp hx with z|z
    ·exact(dY.mp z).1
    ·exact hb x z
   rw[eO,Ah]at this;exact this
  have each:∀x∈(uP n).filter (jR ts b),(dw (jR ts) n m (b++[x])).length<=fc m:=fun x hx=>by
   obtain⟨h1,h2⟩:=dY.mp hx;refine v8 ts n m (b++[x]) (List.nodup_append.mpr ⟨nd,UJ _ _,fun y hy z hz e=> ?_⟩) (fun y hy=> ?_) ?_
   ·rw[eN.mp hz]at e;exact hg x h2 (by rw[<-e];exact hy)
   ·rcases fH.mp hy with z|z
    ·exact hb y z
    ·rw[eN.mp z];exact h1
   ·rw[eO,YH];omega
  show(((uP n).filter (jR ts b)).flatMap fun x=>dw (jR ts) n m (b++[x])).length<=(m+1)*fc m;exact cC (Bd each) (Wr _ (by omega))
theorem compl_720(ts:L0){n:Nat}(h:n<=6):(dw (jR ts) n n []).length<=720:=by
 have a:=v8 ts n n [] .nil (fun x hx=>(nomatch hx)) (by simp);have:fc n<=720:=by
  have:n=0\/n=1\/n=2\/n=3\/n=4\/n=5\/n=6:=by omega
  rcases this with z|z|z|z|z|z|z<;>subst z<;>decide
 omega
section
variable{P:ξ}{w:τ}{K:W.Frag}{mg:L5}{base:Heap}
theorem eE.same{H H':Hp}{x:V}(h:eE K H x)(e:Same H H'):eE K H' x:=by
 obtain⟨d,h1,h2⟩:=h;exact⟨d,h1.same e,h2⟩
theorem ER.same{C:Addr}{H H':Hp}{E:XK}(h:ER C H E)(s:Same H H'):ER C H' E:=fun e H2 s2 he=>h e H2 (s.trans s2) he
noncomputable def Out(o:Option Addr)(H:Hp)(Q:VK)(E:XK):Prop:=(o=none->∀v H',Same H H'->Q v H')/\∀C,o=some C->ER C H E
noncomputable def iB(K:W.Frag)(cw:Addr):Sp:=fun vs H Q E=>∃x,vs=[x]/\eE K H x/\ER cw H E
noncomputable def PJ(K:W.Frag)(cw:Addr)(H:Hp)(x:V)(o:Option Addr):Prop:=(eE K H x/\o=some cw)\/∃a n ts,x= .ref a/\aF K H a n ts/\n<=6/\o=none
noncomputable def uG(K:W.Frag)(cw:Addr):Sp:=fun vs H Q E=>∃x o,vs=[x]/\PJ K cw H x o/\Out o H Q E
noncomputable abbrev N1(P:ξ)(w:τ)(K:W.Frag)(mg:L5)(base:Heap)(cw f1:Addr)(d1:ρ):Prop:=FnOk P w K mg base (cZ P w) 7 f1 d1 ["thing"] (QC (bN K) (oU K cw))
theorem xV{f f1 cw:Addr}{fd d1:ρ}(F:Fun K "greedy" "greedy" jK f fd)(D1:bF K mg "need_web" wL ["thing"] f1 d1)(X1:N1 P w K mg base cw f1 d1):FnOk P w K mg base (cZ P w) 8 f fd ["web"] (iB K cw):=by
 refine F.sV ["web","sets"] fun cdv A outer s H vs Q E hr h=> ?_;obtain⟨x,rfl,⟨d,hx,hw⟩,q⟩:=h;refine⟨_,aR (iw (rW (E:=E) X1 hr rfl D1.m D1.F.kp D1.b .nil cU (aj (pv 0) ak))) wN,?_⟩;exact⟨_,rfl,.inr ⟨x,d,rfl,hx,hw,q⟩⟩
theorem Cd{f f1 cw:Addr}{fd d1:ρ}(F:Fun K "turnings" "turnings" fL f fd)(D1:bF K mg "need_web" wL ["thing"] f1 d1)(X1:N1 P w K mg base cw f1 d1):FnOk P w K mg base (cZ P w) 8 f fd ["web"] (iB K cw):=by
 refine F.sV ["web","found"] fun cdv A outer s H vs Q E hr h=> ?_;obtain⟨x,rfl,⟨d,hx,hw⟩,q⟩:=h;refine⟨_,aR (iw (rW (E:=E) X1 hr rfl D1.m D1.F.kp D1.b .nil cU (aj (pv 0) ak))) wN,?_⟩;exact⟨_,rfl,.inr ⟨x,d,rfl,hx,hw,q⟩⟩
theorem Cv{f f1 cw:Addr}{fd d1:ρ}(F:Fun K "is_alike" "is_alike" S9 f fd)(D1:bF K mg "need_web" wL ["thing"] f1 d1)(X1:N1 P w K mg base cw f1 d1):FnOk P w K mg base (cZ P w) 8 f fd ["web"] (iB K cw):=by
 refine F.sV ["web"] fun cdv A outer s H vs Q E hr h=> ?_;obtain⟨x,rfl,⟨d,hx,hw⟩,q⟩:=h;refine⟨_,aR (iw (rW (E:=E) X1 hr rfl D1.m D1.F.kp D1.b .nil cU (aj (pv 0) ak))) wN,?_⟩;exact⟨_,rfl,.inr ⟨x,d,rfl,hx,hw,q⟩⟩
theorem xW{f f1 cw:Addr}{fd d1:ρ}(F:Fun K "alike_value" "alike_value" Wi f fd)(D1:bF K mg "is_alike" S9 ["web"] f1 d1)(X1:FnOk P w K mg base (cZ P w) 8 f1 d1 ["web"] (iB K cw)):FnOk P w K mg base (cZ P w) 9 f fd ["web"] (iB K cw):=by
 refine F.sV ["web"] fun cdv A outer s H vs Q E hr h=> ?_;obtain⟨x,rfl,hx,q⟩:=h;refine⟨_,aR (eF (ur (rT (rW (E:=E) X1 hr rfl D1.m D1.F.kp D1.b .nil cU (aj (pv 0) ak)))) wN wN) wN,?_⟩;exact⟨_,rfl,x,rfl,hx,q⟩
noncomputable def za(K:W.Frag)(H:Hp)(x y:V):Prop:=eE K H x\/∃a n ts,x= .ref a/\aF K H a n ts/\eE K H y
noncomputable def Aa(K:W.Frag)(cw:Addr):Sp:=fun vs H Q E=>∃x y,vs=[x,y]/\za K H x y/\ER cw H E
noncomputable def xg(K:W.Frag)(cw:Addr):Sp:=fun vs H Q E=>∃x y z,vs=[x,y,z]/\za K H x y/\ER cw H E
theorem uY{f f1 cw:Addr}{fd d1:ρ}(F:Fun K "way_into" "way_into" fK f fd)(D1:bF K mg "need_web" wL ["thing"] f1 d1)(X1:N1 P w K mg base cw f1 d1):FnOk P w K mg base (cZ P w) 8 f fd ["web","other"] (Aa K cw):=by
 refine F.sV ["web","other","every","led"] fun cdv A outer s H vs Q E hr h=> ?_;obtain⟨x,y,rfl,hx,q⟩:=h;refine⟨_,aR (iw (rW (E:=E) X1 hr rfl D1.m D1.F.kp D1.b .nil cU (aj (pv 0) ak))) (aR (iw (rW (E:=E) X1 hr rfl D1.m D1.F.kp D1.b .nil cU (aj (pv 1) ak))) wN),?_⟩;rcases hx with⟨d,hd,hw⟩|⟨a,n,ts,rfl,hA,d,hd,hw⟩
 ·exact⟨_,rfl,.inr ⟨x,d,rfl,hd,hw,q⟩⟩
 ·exact⟨_,rfl,.inl ⟨.ref a,_,rfl,hA.web.dv.dx,hA.ok,fun H1 s1=>⟨_,rfl,.inr ⟨y,d,rfl,hd.same s1,hw,q.same s1⟩⟩⟩⟩
theorem Ld{f f1 cw:Addr}{fd d1:ρ}(F:Fun K "is_way" "is_way" eV f fd)(D1:bF K mg "need_web" wL ["thing"] f1 d1)(X1:N1 P w K mg base cw f1 d1):FnOk P w K mg base (cZ P w) 8 f fd ["web","other","some"] (xg K cw):=by
 refine F.sV ["web","other","some"] fun cdv A outer s H vs Q E hr h=> ?_;obtain⟨x,y,z,rfl,hx,q⟩:=h;refine⟨_,aR (iw (rW (E:=E) X1 hr rfl D1.m D1.F.kp D1.b .nil cU (aj (pv 0) ak))) (aR (iw (rW (E:=E) X1 hr rfl D1.m D1.F.kp D1.b .nil cU (aj (pv 1) ak))) wN),?_⟩;rcases hx with⟨d,hd,hw⟩|⟨a,n,ts,rfl,hA,d,hd,hw⟩
 ·exact⟨_,rfl,.inr ⟨x,d,rfl,hd,hw,q⟩⟩
 ·exact⟨_,rfl,.inl ⟨.ref a,_,rfl,hA.web.dv.dx,hA.ok,fun H1 s1=>⟨_,rfl,.inr ⟨y,d,rfl,hd.same s1,hw,q.same s1⟩⟩⟩⟩
noncomputable def Fz(K:W.Frag)(cw cp:Addr):Sp:=fun vs H Q E=>∃x y z l,vs=[x,y,z,l]/\((za K H x y/\ER cw H E)\/∃a o sm n no ts aB ys,x= .ref a/\y= .ref o/\z= .ref sm/\aF K H a n ts/\aF K H o no aB/\SqT K H sm (ys.map V.int)/\aN n no ts aB ys=false/\ER cp H E)
theorem Li{f f1 cw cp:Addr}{fd d1:ρ}{bmB:List ζ}{B newId initId:String}(F:Fun K "pulled" "pulled" jF f fd)(D1:bF K mg "is_way" eV ["web","other","some"] f1 d1)(X1:FnOk P w K mg base (cZ P w) 8 f1 d1 ["web","other","some"] (QC (zW K) (xg K cw)))
  (FB:ExcBaseFacts B newId initId bmB)(mC:mg "NoPlace"=some (.ref cp))(qC:PySem.W.excIn K cp bmB newId=true):FnOk P w K mg base (cZ P w) 9 f fd ["web","other","some","laying"] (Fz K cw cp):=by
 refine F.sV ["web","other","some","laying","shares_of","far","share","near","totals"] fun cdv A outer s H vs Q E hr h=> ?_;obtain⟨x,y,z,l,rfl,h⟩:=h;refine⟨_,aR (eF (ur (rT (rW (E:=E) X1 hr rfl D1.m D1.F.kp D1.b .nil cU (aj (pv 0) (aj (pv 1) (aj (pv 2) ak)))))) (aQ (uU FB mC qC (aj qF ak) rfl)) iG) wN,?_⟩;rcases h with⟨hx,q⟩|⟨a,o,sm,n,no,ts,aB,ys,rfl,rfl,rfl,hA,hO,hY,hl,q⟩
 ·exact⟨_,rfl,_,rfl,_,rfl,.inr ⟨x,y,z,rfl,hx,q⟩⟩
 ·refine⟨_,rfl,_,rfl,_,rfl,.inl ⟨a,o,sm,n,no,ts,aB,ys,rfl,hA,hO,hY,fun H1 s1=>⟨_,rfl,?_⟩⟩⟩;rw[hl];exact iteT ⟨by decide,fun e he=>q e H1 s1 he⟩
noncomputable def FJ(K:W.Frag):Sp:=fun vs H Q _=>∃(a o sm l:Addr) (n no:Int) (ts aB:L0) (ys:List Int),vs=[.ref a,.ref o,.ref sm,.ref l]/\aF K H a n ts/\aF K H o no aB/\SqT K H sm (ys.map V.int)/\aN n no ts aB ys=true/\SqL K H l []/\∀v H',Same H H'->Q v H'
theorem uW{X:Cx}{e:Expr}:PE X e fun _ _ _=>False:=fun _ _ _ _ _ _ h=>h.elim
theorem Lj{f f1:Addr}{fd d1:ρ}(F:Fun K "pulled" "pulled" jF f fd)(D1:bF K mg "is_way" eV ["web","other","some"] f1 d1)(G1:FnOk P w K mg base CX0 8 f1 d1 ["web","other","some"] (zW K))(ig:mg "sorted"=none):
  FnOk P w K mg base CX0 9 f fd ["web","other","some","laying"] (FJ K):=by
 refine F.cM ["web","other","some","laying","shares_of","far","share","near","totals"] fun cdv A outer s H vs Q E hr h=> ?_;obtain⟨a,o,sm,l,n,no,ts,aB,xs,rfl,hA,hO,hX,rN,hL,q⟩:=h;refine⟨_,(aR (eF (ur (rT (pc G1 hr D1 (aj (pv 0) (aj (pv 1) (aj (pv 2) ak)))))) wN iG) (aR (pS 4 pe_dnewT) (aR (rR qL rfl (Bl (pv 3)) (pg_tup rfl (nM (pG 5) (nM (pG 6) Ea)))
    wN) (aR (pX 8 ["near"] ["shares_of"] [4] (Bl (pB (qP rfl hr.units) ig (aj (pv 4) ak))) (pG 0) qJ uW) (aQ (bW (pK ["near","total"] [] [] (Bl (pv 8)) (gj K (n:=2) rfl (nM (pG 0) (nM (pG 1) Ea))) qJ uW))))))),?_⟩
 refine⟨_,rfl,_,rfl,_,rfl,a,o,sm,n,no,ts,aB,xs,rfl,hA,hO,hX,fun H0 s0=>⟨_,rfl,?_⟩⟩;rw[rN];refine iteF ?_;refine fun d hd=> ?_;have s1:=s0.trans (aZ hd (.dT []));have e1:(upd H0 d (.dT [])) d=some (.dT []):=aG;dsimp only at s1 e1⊢;generalize upd H0 d (.dT [])=H1 at *;refine⟨_,rfl,l,_,rfl,s1.seq hL,fun hz=> ?_⟩;refine for_list (K:=K) (a:=l) (xs:=[]) (fun i σ H'=>H'=H1/\∃o5 o6 o7 o8,σ=[some (.ref a),some (.ref o),some (.ref sm),some (.ref l),some (.ref d),o5,o6,o7,o8])
  ⟨rfl,_,_,_,_,rfl⟩ (fun i σ H' _ p=>by rw[p.1];exact s1.seq hL) (fun i x σ H2 hx p=>(nomatch hx)) (fun σ H2 p=> ?_)
 obtain⟨rfl,o5,o6,o7,o8,rfl⟩:=p;refine⟨_,rfl,d,[],rfl,e1,by decide,fun kv h=>(nomatch h),fun lo its hlo t1 t2 t3 t4=> ?_⟩;have ei:its=[]:=by have:=t2.length_eq;simpa using this
 subst ei;have s3:=aZ hlo (.lst []);have l3:(upd H2 lo (.lst [])) lo=some (.lst []):=aG
 try dsimp only[List.map]at s3 l3⊢
 generalize upd H2 lo (.lst [])=H3 at *;refine⟨lo,_,rfl,SqL.of l3,fun hz=> ?_⟩;refine PX (xs:=[]) (fun j acc σ H'=>H'=H3/\acc=[]/\∃o,σ=[o,some (.ref d)]) ⟨rfl,rfl,_,rfl⟩ (fun j acc σ H' _ p=>by rw[p.1];exact SqL.of l3) (fun j acc σ H' _ p=>by rw[p.2.1];exact gG _) hz (fun j x acc σ H6 hx p=>(nomatch hx)) (fun acc σ H6 p=> ?_);intro p1 hp1;obtain⟨rfl,rfl,_⟩:=p;have s4:=aZ hp1 (.lst []);have l4:(upd H6 p1 (.lst [])) p1=some (.lst []):=aG
 try dsimp only at s4 l4⊢
 generalize upd H6 p1 (.lst [])=H4 at *;refine⟨_,rfl,p1,_,rfl,SqL.of l4,fun hz=> ?_⟩;refine PX (xs:=[]) (fun j acc σ H'=>H'=H4/\acc=[]/\∃o1 o2,σ=[o1,o2]) ⟨rfl,rfl,_,_,rfl⟩ (fun j acc σ H' _ p=>by rw[p.1];exact SqL.of l4) (fun j acc σ H' _ p=>by rw[p.2.1];exact gG _) hz (fun j x acc σ H6 hx p=>(nomatch hx)) (fun acc σ H7 p=> ?_);intro p2 hp2;obtain⟨rfl,rfl,_⟩:=p;exact q _ _ (s1.trans (s3.trans (s4.trans (aZ hp2 _))))
noncomputable def Ga(K:W.Frag)(cw:Addr):Sp:=fun vs H Q E=>∃x y o,vs=[x,y]/\((za K H x y/\o=some cw)\/∃a b n no ts aB,x= .ref a/\y= .ref b/\aF K H a n ts/\aF K H b no aB/\n<=6/\no<=7/\o=none)/\Out o H Q E
noncomputable def Fq(K:W.Frag)(cw:Addr):Sp:=fun vs H Q E=>∃x y z o,vs=[x,y,z]/\((za K H x y/\o=some cw)\/∃a b p n no ts aB,∃ys:List Int,x= .ref a/\y= .ref b/\z= .ref p/\aF K H a n ts/\aF K H b no aB/\SqT K H p (ys.map V.int)/\o=none)/\Out o H Q E
noncomputable def Ov(K:W.Frag)(cw cp:Addr):Sp:=fun vs H Q E=>∃x y z l o,vs=[x,y,z,.ref l]/\SqL K H l []/\((za K H x y/\o=some cw)\/∃a b p n no ts aB ys,x= .ref a/\y= .ref b/\z= .ref p/\aF K H a n ts/\aF K H b no aB/\SqT K H p (ys.map V.int)/\((aN n no ts aB ys=true/\o=none)\/aN n no ts aB ys=false/\o=some cp))/\Out o H Q E
theorem Sx{m l:Nat}(hm:m<=7)(hl:l<=6):Sw.cst m l<=16000000:=by
 have h:∀l,Sw.cst m l<=Sw.cst 7 l:=by
  intro l
  induction l with
  |zero=>exact bH _
  |succ l ih=>exact Tj (Us hm ih) 1
 refine cC (h l) ?_;have:l=0\/l=1\/l=2\/l=3\/l=4\/l=5\/l=6:=by omega
 rcases this with z|z|z|z|z|z|z<;>subst z<;>decide+kernel
theorem sO{f cw:Addr}{fd:ρ}{k:Nat}{sp:Sp}(G:FnOk P w K mg base CX0 k f fd ["web"] sp)(X:FnOk P w K mg base (cZ P w) 9 f fd ["web"] (iB K cw))(hk:k<=25)(h:∀a n ts H Q E,aF K H a n ts->n<=6->(∀v H',Same H H'->Q v H')->sp [.ref a] H Q E):FnOk P w K mg base (cZ P w) 25 f fd ["web"] (uG K cw):=
 (((G.mono hk).up).or (X.mono (by decide))).imp fun vs H Q E ⟨x,o,e,hin,out⟩=>by
  subst e;rcases hin with⟨nw,rfl⟩|⟨a,n,ts,rfl,hW,hn,rfl⟩
  ·exact .inr ⟨x,rfl,nw,out.2 _ rfl⟩
  ·exact .inl (h a n ts H Q E hW hn (out.1 rfl))
theorem Mt{f cw:Addr}{fd:ρ}(G:FnOk P w K mg base CX0 25 f fd ["web","other"] (rm K))(X:FnOk P w K mg base (cZ P w) 8 f fd ["web","other"] (Aa K cw)):FnOk P w K mg base (cZ P w) 25 f fd ["web","other"] (Ga K cw):=
 (G.up.or (X.mono (by decide))).imp fun vs H Q E ⟨x,y,o,e,hin,out⟩=>by
  subst e;rcases hin with⟨nw,rfl⟩|⟨a,b,n,no,ts,aB,rfl,rfl,hA,hB,hn,hno,rfl⟩
  ·exact .inr ⟨x,y,rfl,nw,out.2 _ rfl⟩
  ·exact .inl ⟨a,b,n,no,ts,aB,false,rfl,hA,hB,fun z=>(nomatch z),Sx (by omega) (by omega),fun v H' s _=>out.1 rfl v H' s⟩
theorem Qx{f cw:Addr}{fd:ρ}(G:FnOk P w K mg base CX0 8 f fd ["web","other","some"] (zW K))(X:FnOk P w K mg base (cZ P w) 8 f fd ["web","other","some"] (xg K cw)):FnOk P w K mg base (cZ P w) 25 f fd ["web","other","some"] (Fq K cw):=
 ((G.up.or X).mono (by decide)).imp fun vs H Q E ⟨x,y,z,o,e,hin,out⟩=>by
  subst e;rcases hin with⟨nw,rfl⟩|⟨a,b,p,n,no,ts,aB,ys,rfl,rfl,rfl,hA,hB,hY,rfl⟩
  ·exact .inr ⟨x,y,z,rfl,nw,out.2 _ rfl⟩
  ·exact .inl ⟨a,b,p,n,no,ts,aB,ys,rfl,hA,hB,hY,fun H' s=>out.1 rfl _ H' s⟩
theorem Q5{f cw cp:Addr}{fd:ρ}(G:FnOk P w K mg base CX0 9 f fd ["web","other","some","laying"] (FJ K))(X:FnOk P w K mg base (cZ P w) 9 f fd ["web","other","some","laying"] (Fz K cw cp)):FnOk P w K mg base (cZ P w) 25 f fd ["web","other","some","laying"] (Ov K cw cp):=
 ((G.up.or X).mono (by decide)).imp fun vs H Q E ⟨x,y,z,l,o,e,hl,hin,out⟩=>by
  subst e;rcases hin with⟨nw,rfl⟩|⟨a,b,p,n,no,ts,aB,ys,rfl,rfl,rfl,hA,hB,hY,⟨hT,rfl⟩|⟨hF,rfl⟩⟩
  ·exact .inr ⟨x,y,z,_,rfl,.inl ⟨nw,out.2 _ rfl⟩⟩
  ·exact .inl ⟨a,b,p,l,n,no,ts,aB,ys,rfl,hA,hB,hY,hT,hl,out.1 rfl⟩
  ·exact .inr ⟨_,_,_,_,rfl,.inr ⟨a,b,p,n,no,ts,aB,ys,rfl,rfl,rfl,hA,hB,hY,hF,out.2 _ rfl⟩⟩
noncomputable def jA(K:W.Frag)(cw cp:Addr)(H:Hp)(sort:Int)(x y z:V)(o:Option Addr):Prop:=(eE K H x/\o=some cw)\/∃a n ts,x= .ref a/\aF K H a n ts/\n<=6/\
 ((3<sort/\eE K H y/\o=some cw)\/∃b no aB p ys,y= .ref b/\z= .ref p/\aF K H b no aB/\no<=7/\SqT K H p (ys.map V.int)/\((aN n no ts aB ys=true/\o=none)\/sort=6/\aN n no ts aB ys=false/\o=some cp))
theorem jA.one{cw cp:Addr}{H:Hp}{sort:Int}{x y z:V}{o:Option Addr}(h:jA K cw cp H sort x y z o)(hs:sort<=3):PJ K cw H x o:=by
 rcases h with h|⟨a,n,ts,e,hW,hn,⟨h3,_⟩|⟨b,no,aB,p,ys,_,_,_,_,_,⟨_,ho⟩|⟨h6,_⟩⟩⟩
 ·exact .inl h
 ·omega
 ·exact .inr ⟨a,n,ts,e,hW,hn,ho⟩
 ·omega
theorem jA.two{cw cp:Addr}{H:Hp}{sort:Int}{x y z:V}{o:Option Addr}(h:jA K cw cp H sort x y z o):(za K H x y/\o=some cw)\/∃a b p n no ts aB ys,x= .ref a/\y= .ref b/\z= .ref p/\aF K H a n ts/\aF K H b no aB/\n<=6/\no<=7/\SqT K H p (ys.map V.int)/\((aN n no ts aB ys=true/\o=none)\/sort=6/\aN n no ts aB ys=false/\o=some cp):=by
 rcases h with⟨h,ho⟩|⟨a,n,ts,e,hW,hn,⟨h3,hy,ho⟩|⟨b,no,aB,p,ys,e1,e2,hB,hno,hY,h⟩⟩
 ·exact .inl ⟨.inl h,ho⟩
 ·exact .inl ⟨.inr ⟨a,n,ts,e,hW,hy⟩,ho⟩
 ·exact .inr ⟨a,b,p,n,no,ts,aB,ys,e,e1,e2,hW,hB,hn,hno,hY,h⟩
noncomputable def Gd(K:W.Frag)(cw cp:Addr):Sp:=fun vs H Q E=>∃(sort:Int) (x y z:V) (o:Option Addr),vs=[.int sort,x,y,z]/\0<=sort/\sort<7/\jA K cw cp H sort x y z o/\Out o H Q E
theorem Lp{f cw cp f1 f2 f3 f4 f5 f6 f7:Addr}{fd d1 d2 d3 d4 d5 d6 d7:ρ}(F:Fun K "_law_e_door" "_law_e_door" fW f fd)(D1:bF K mg "greedy" jK ["web"] f1 d1)(G1:FnOk P w K mg base (cZ P w) 25 f1 d1 ["web"] (uG K cw))(D2:bF K mg "turnings" fL ["web"] f2 d2)(G2:FnOk P w K mg base (cZ P w) 25 f2 d2 ["web"] (uG K cw))(D3:bF K mg "is_alike" S9 ["web"] f3 d3)(G3:FnOk P w K mg base (cZ P w) 25 f3 d3 ["web"] (uG K cw))(D4:bF K mg "alike_value" Wi ["web"] f4 d4)(G4:FnOk P w K mg base (cZ P w) 25 f4 d4 ["web"] (uG K cw))(D5:bF K mg "way_into" fK ["web","other"] f5 d5)(G5:FnOk P w K mg base (cZ P w) 25 f5 d5 ["web","other"] (Ga K cw))(D6:bF K mg "is_way" eV ["web","other","some"] f6 d6)(G6:FnOk P w K mg base (cZ P w) 25 f6 d6 ["web","other","some"] (Fq K cw))(D7:bF K mg "pulled" jF ["web","other","some","laying"] f7 d7)(G7:FnOk P w K mg base (cZ P w) 25 f7 d7 ["web","other","some","laying"] (Ov K cw cp)):
  FnOk P w K mg base (cZ P w) 26 f fd ["sort","web","other","some"] (Gd K cw cp):=by
 refine F.sV ["sort","web","other","some"] fun cdv A outer s H vs Q E hr h=> ?_;obtain⟨sort,x,y,z,o,rfl,h0,h7,hin,out⟩:=h;refine⟨_,(aQ (eF (dW op_eq (pv 0) aK) (aQ (iw (rW (E:=E) G1 hr rfl D1.m D1.F.kp D1.b .nil cU (aj (pv 1) ak)))) (aQ (eF (dW op_eq (pv 0) aK) (aQ (iw (rW (E:=E) G2 hr rfl D2.m D2.F.kp D2.b .nil cU (aj (pv 1) ak)))) (aQ (eF (dW op_eq (pv 0) aK) (aQ (iw (rW (E:=E) G3 hr rfl D3.m D3.F.kp D3.b .nil cU (aj (pv 1) ak)))) (aQ (eF (dW op_eq (pv 0) aK) (aQ (iw (rW (E:=E) G4 hr rfl D4.m D4.F.kp D4.b .nil cU (aj (pv 1) ak)))) (aQ (eF (dW op_eq (pv 0) aK) (aQ (iw (rW (E:=E) G5 hr rfl D5.m D5.F.kp D5.b .nil cU (aj (pv 1) (aj (pv 2) ak))))) (aQ (eF (dW op_eq (pv 0) aK) (aQ (iw (rW (E:=E) G6 hr rfl D6.m D6.F.kp D6.b .nil cU (aj (pv 1) (aj (pv 2) (aj (pv 3) ak)))))) (aQ (iw (rW (E:=E) G7 hr rfl D7.m D7.F.kp D7.b .nil cU (aj (pv 1) (aj (pv 2) (aj (pv 3) (aj (nJ ak) ak))))))))))))))))))),?_⟩;have BZ:Out o H (fun _ H'=>Q .non H') E:=⟨fun e v H' s=>out.1 e _ H' s,out.2⟩;have Zw:sort=0\/sort=1\/sort=2\/sort=3\/sort=4\/sort=5\/sort=6:=by omega
 rcases Zw with rfl|rfl|rfl|rfl|rfl|rfl|rfl
 ·refine⟨_,rfl,rfl,_,rfl,int_eq ?_⟩;exact⟨_,rfl,x,o,rfl,hin.one (by decide),BZ⟩
 ·refine⟨_,rfl,rfl,_,rfl,qI (by decide) ?_⟩;refine⟨_,rfl,rfl,_,rfl,int_eq ?_⟩;exact⟨_,rfl,x,o,rfl,hin.one (by decide),BZ⟩
 ·refine⟨_,rfl,rfl,_,rfl,qI (by decide) ?_⟩;refine⟨_,rfl,rfl,_,rfl,qI (by decide) ?_⟩;refine⟨_,rfl,rfl,_,rfl,int_eq ?_⟩;exact⟨_,rfl,x,o,rfl,hin.one (by decide),BZ⟩
 ·refine⟨_,rfl,rfl,_,rfl,qI (by decide) ?_⟩;refine⟨_,rfl,rfl,_,rfl,qI (by decide) ?_⟩;refine⟨_,rfl,rfl,_,rfl,qI (by decide) ?_⟩;refine⟨_,rfl,rfl,_,rfl,int_eq ?_⟩;exact⟨_,rfl,x,o,rfl,hin.one (by decide),BZ⟩
 ·refine⟨_,rfl,rfl,_,rfl,qI (by decide) ?_⟩;refine⟨_,rfl,rfl,_,rfl,qI (by decide) ?_⟩;refine⟨_,rfl,rfl,_,rfl,qI (by decide) ?_⟩;refine⟨_,rfl,rfl,_,rfl,qI (by decide) ?_⟩;refine⟨_,rfl,rfl,_,rfl,int_eq ?_⟩;refine⟨_,rfl,_,rfl,x,y,o,rfl,?_,BZ⟩;rcases hin.two with h|⟨a,b,p,n,no,ts,aB,ys,e1,e2,_,hA,hB,hn,hno,_,⟨_,ho⟩|⟨h6,_⟩⟩
  ·exact .inl h
  ·exact .inr ⟨a,b,n,no,ts,aB,e1,e2,hA,hB,hn,hno,ho⟩
  ·omega
 ·refine⟨_,rfl,rfl,_,rfl,qI (by decide) ?_⟩;refine⟨_,rfl,rfl,_,rfl,qI (by decide) ?_⟩;refine⟨_,rfl,rfl,_,rfl,qI (by decide) ?_⟩;refine⟨_,rfl,rfl,_,rfl,qI (by decide) ?_⟩;refine⟨_,rfl,rfl,_,rfl,qI (by decide) ?_⟩;refine⟨_,rfl,rfl,_,rfl,int_eq ?_⟩;refine⟨_,rfl,_,rfl,_,rfl,x,y,z,o,rfl,?_,BZ⟩;rcases hin.two with h|⟨a,b,p,n,no,ts,aB,ys,e1,e2,e3,hA,hB,hn,hno,hY,⟨_,ho⟩|⟨h6,_⟩⟩
  ·exact .inl h
  ·exact .inr ⟨a,b,p,n,no,ts,aB,ys,e1,e2,e3,hA,hB,hY,ho⟩
  ·omega
 ·refine⟨_,rfl,rfl,_,rfl,qI (by decide) ?_⟩;refine⟨_,rfl,rfl,_,rfl,qI (by decide) ?_⟩;refine⟨_,rfl,rfl,_,rfl,qI (by decide) ?_⟩;refine⟨_,rfl,rfl,_,rfl,qI (by decide) ?_⟩;refine⟨_,rfl,rfl,_,rfl,qI (by decide) ?_⟩;refine⟨_,rfl,rfl,_,rfl,qI (by decide) ?_⟩;refine⟨_,rfl,_,rfl,_,rfl,(by show 0<=sizeLine;decide),fun l hl=> ?_⟩;have s1:=aZ hl (.lst []);have Zd:Out o (upd H l (.lst [])) (fun _ H'=>Q .non H') E:=⟨fun e v H' s=>out.1 e _ H' (s1.trans s),fun C hC=>(out.2 C hC).same s1⟩;refine⟨x,y,z,l,o,rfl,SqL.of aG,?_,Zd⟩;rcases hin.two with⟨h|⟨a,n,ts,e,hW,hy⟩,ho⟩|⟨a,b,p,n,no,ts,aB,ys,e1,e2,e3,hA,hB,hn,hno,hY,h⟩
  ·exact .inl ⟨.inl (h.same s1),ho⟩
  ·exact .inl ⟨.inr ⟨a,n,ts,e,hW.same s1,hy.same s1⟩,ho⟩
  ·refine .inr ⟨a,b,p,n,no,ts,aB,ys,e1,e2,e3,hA.same s1,hB.same s1,s1.tup hY,?_⟩;rcases h with h|⟨_,h⟩
   ·exact .inl h
   ·exact .inr h
noncomputable def yZ(K:W.Frag)(cs:List Addr)(C:Addr)(x:Str):Prop:=∃(bs:List Bool) (j:Nat),Kinds K cs C bs/\bs.countP id=1/\bs[j]? =some true/\(∀m,m<j->bs[m]? =some false)/\words[j]? =some x
noncomputable def SM(o:Option Addr)(cw cp:Addr)(t:Str):Prop:=(o=none/\t="")\/(o=some cw/\t="web")\/(o=some cp/\t="place")
noncomputable def Fo(K:W.Frag)(cw cp:Addr):Sp:=fun vs H Q E=>∃(sort:Int) (x y z:V) (o:Option Addr) (t:Str),vs=[.int sort,x,y,z]/\0<=sort/\sort<7/\jA K cw cp H sort x y z o/\SM o cw cp t/\∀H',Same H H'->Q (.str t) H'
theorem KR:FnScope ["sort","web","other","some","caught","e"] ["sort","web","other","some"] (defScope Wh):=fsc
theorem Lb{f cw cp D f1 f2:Addr}{fd d1 d2:ρ}{cs:List Addr}(F:Fun K "_law_e_word" "_law_e_word" Wh f fd)(D1:bF K mg "_law_e_door" fW ["sort","web","other","some"] f1 d1)(X1:FnOk P w K mg base (cZ P w) 26 f1 d1 ["sort","web","other","some"] (Gd K cw cp))(D2:bF K mg "_law_e_kind" fV ["caught"] f2 d2)(G2:FnOk P w K mg base CX0 1 f2 d2 ["caught"] (FZ K cs))(jo:mg "HueError"=some (.ref D))(hw1:PySem.W.exmOne K (.ref cw) (.ref D)=some true)(hw2:PySem.W.exmOne K (.ref cp) (.ref D)=some true)(kw:yZ K cs cw "web")(kp:yZ K cs cp "place"):
  FnOk P w K mg base CX0 27 f fd ["sort","web","other","some"] (Fo K cw cp):=by
 refine F.cM ["sort","web","other","some","caught","e"] fun cdv A outer s H vs Q E hr h=> ?_;obtain⟨sort,x,y,z,o,t,rfl,h0,h7,hin,hw,q⟩:=h;refine⟨_,(aR (pS 4 zB) (aR (K7 (i:=5) rfl rfl X1 hr rfl D1.m D1.F.kp D1.b (aj (pv 0) (aj (pv 1) (aj (pv 2) (aj (pv 3) ak)))) rfl jo KR.nd rfl rfl (fun e=>(aQ (pS 4 (pv 5))))) (aR (eF (dW op_isN (pv 4) zB) (aQ (bW qF)) iG) (aQ (bW (pc G2 hr D2 (aj (pv 4) ak))))))),?_⟩;refine⟨_,rfl,_,rfl,_,rfl,_,rfl,sort,x,y,z,o,rfl,h0,h7,hin,fun e v H1 s1=> ?_,fun C hC e H1 s1 he=> ?_⟩
 ·rcases hw with⟨_,rfl⟩|⟨z,_⟩|⟨z,_⟩
  ·exact⟨_,rfl,rfl,_,rfl,iteT (q H1 s1)⟩
  ·rw[e]at z;cases z
  ·rw[e]at z;cases z
 ·have hD:PySem.W.exmOne K (.ref C) (.ref D)=some true/\yZ K cs C t:=by
   rcases hw with⟨z,_⟩|⟨z,rfl⟩|⟨z,rfl⟩
   ·rw[hC]at z;cases z
   ·rw[hC]at z;cases z;exact⟨hw1,kw⟩
   ·rw[hC]at z;cases z;exact⟨hw2,kp⟩
  obtain⟨hD,bs,j,k1,k2,k3,k4,k5⟩:=hD;refine⟨e,_,rfl,rfl,hD,_,rfl,_,rfl,rfl,_,rfl,iteF ?_⟩;exact⟨_,rfl,e,C,bs,j,t,rfl,aG,k1,k2,k3,k4,k5,fun H' s3=>q H' (s1.trans ((aZ he (qt e C)).trans s3))⟩
end
end Hs
namespace L2
open PySem
structure Ext(G H G' H':Hp):Prop where
 g:Same G G'
 h:Same H H'
 gh:Same G' H'
 o:∀b zs,H b=some (.lst zs)->G' b=G b
theorem Same.none{H H':Hp}(e:Same H H'){b:Addr}(h:H' b=none):H b=none:=by
 cases q:H b with
 |none=>rfl
 |some o=>rw[e b o q]at h;cases h
theorem Ext.refl{G H:Hp}(h:Same G H):Ext G H G H:=⟨Same.refl _,Same.refl _,h,fun _ _ _=>rfl⟩
theorem Ext.trans{G H G1 H1 G2 H2:Hp}(a:Ext G H G1 H1)(b:Ext G1 H1 G2 H2):Ext G H G2 H2:=
 ⟨a.g.trans b.g,a.h.trans b.h,b.gh,fun c zs n=>(b.o c zs (a.h _ _ n)).trans (a.o c zs n)⟩
theorem Ext.new{G H:Hp}{p:Addr}(h:Same G H)(hp:H p=none)(o:HO):Ext G H (upd G p o) (upd H p o):=by
 refine⟨aZ (h.none hp) o,aZ hp o,fun b u e=> ?_,fun b zs n=>cN (fun z=>by rw[z,hp]at n;cases n)⟩;by_cases z:b=p
 ·subst z;rw[aG]at e⊢;exact e
 ·rw[cN z]at e⊢;exact h b u e
theorem Ext.side{G H:Hp}{p:Addr}(h:Same G H)(hp:H p=none)(o:HO):Ext G H G (upd H p o):=
 ⟨Same.refl _,aZ hp o,h.trans (aZ hp o),fun _ _ _=>rfl⟩
noncomputable def Wd(K:W.Frag)(t:TE)(σ:St)(G0:Hp)(d:θ):Prop:=∀(G H:Hp) (Q:VK),Same G0 G->Same G H->(∀x G' H',Ext G H G' H'->DV K G' x d->Q x H')->t σ H Q
noncomputable def cu(K:W.Frag)(t:TA)(σ:St)(G0:Hp)(ds:List θ):Prop:=∀(G H:Hp) (Q:List V->Hp->Prop),Same G0 G->Same G H->(∀xs G' H',Ext G H G' H'->bB K G' xs ds->Q xs H')->t σ H Q
section
variable{K:W.Frag}{ta tb:TE}{t:TA}{σ:St}{G0:Hp}{d da db:θ}{ds:List θ}
theorem cu.nil:cu K tNil σ G0 []:=fun G H Q g h k=>k [] G H (Ext.refl h) .nil
theorem cu.cons(a:Wd K ta σ G0 d)(b:cu K t σ G0 ds):cu K (tCons ta t) σ G0 (d::ds):=fun G H Q g h k=>
 a G H _ g h fun x G1 H1 e1 d1=>b G1 H1 _ (g.trans e1.g) e1.gh fun xs G2 H2 e2 d2=>k _ _ _ (e1.trans e2) (.cons (DV.same e2.g d1) d2)
theorem Wd.tup(b:cu K t σ G0 ds)(hz:ds.length<=sizeLine):Wd K (tTup t) σ G0 (.tuple ds):=fun G H Q g h k=>
 b G H _ g h fun xs G1 H1 e1 d1=>⟨by rw[d1.len];exact hz,fun p hp=>k _ _ _ (e1.trans (Ext.new e1.gh hp _)) (.tup (SqT.of aG) (bB.same (Ext.new e1.gh hp _).g d1))⟩
theorem Wd.lst(b:cu K t σ G0 ds)(hz:ds.length<=sizeLine):Wd K (tLst t) σ G0 (.list ds):=fun G H Q g h k=>
 b G H _ g h fun xs G1 H1 e1 d1=>⟨by rw[d1.len];exact hz,fun p hp=>k _ _ _ (e1.trans (Ext.new e1.gh hp _)) (.lst (SqL.of aG) (bB.same (Ext.new e1.gh hp _).g d1))⟩
theorem Wd.t0:Wd K (tTup tNil) σ G0 (.tuple []):=Wd.tup cu.nil (by show 0<=sizeLine;decide)
theorem Wd.t1(a:Wd K ta σ G0 da):Wd K (tTup (tCons ta tNil)) σ G0 (.tuple [da]):=Wd.tup (cu.cons a cu.nil) (by show 1<=sizeLine;decide)
theorem Wd.t2(a:Wd K ta σ G0 da)(b:Wd K tb σ G0 db):Wd K (tTup (tCons ta (tCons tb tNil))) σ G0 (.tuple [da,db]):=Wd.tup (cu.cons a (cu.cons b cu.nil)) (by show 2<=sizeLine;decide)
theorem Wd.t3{tc:TE}{dc:θ}(a:Wd K ta σ G0 da)(b:Wd K tb σ G0 db)(c:Wd K tc σ G0 dc):Wd K (tTup (tCons ta (tCons tb (tCons tc tNil)))) σ G0 (.tuple [da,db,dc]):=Wd.tup (cu.cons a (cu.cons b (cu.cons c cu.nil))) (by show 3<=sizeLine;decide)
theorem Wd.l2(a:Wd K ta σ G0 da)(b:Wd K tb σ G0 db):Wd K (tLst (tCons ta (tCons tb tNil))) σ G0 (.list [da,db]):=Wd.lst (cu.cons a (cu.cons b cu.nil)) (by show 2<=sizeLine;decide)
theorem Wd.var{i:Nat}{v:V}(h:σ[i]? =some (some v))(hd:DV K G0 v d):Wd K (tVar i) σ G0 d:=fun G H Q g gh k=>⟨v,h,k _ _ _ (Ext.refl gh) (DV.same g hd)⟩
theorem Wd.vi{i:Nat}{x:Int}(h:σ[i]? =some (some (.int x))):Wd K (tVar i) σ G0 (.int x):=Wd.var h (.int x)
theorem Wd.int{i:Int}:Wd K (tC (.int i)) σ G0 (.int i):=fun G H Q g gh k=>k _ _ _ (Ext.refl gh) (.int _)
theorem Wd.bl{b:Bool}:Wd K (tC (.bl b)) σ G0 (.bool b):=fun G H Q g gh k=>k _ _ _ (Ext.refl gh) (.bl _)
theorem Wd.non:Wd K (tC .non) σ G0 .none:=fun G H Q g gh k=>k _ _ _ (Ext.refl gh) .non
theorem Wd.str{x:Str}:Wd K (tC (.str x)) σ G0 (.str x):=fun G H Q g gh k=>k _ _ _ (Ext.refl gh) (.str _)
theorem Wd.V5:Wd K (fun _ H Q=>∀p,H p=none->Q (.ref p) (upd H p (.dK []))) σ G0 (.dict []):=fun G H Q g gh k p hp=>k _ _ _ (Ext.new gh hp _) (.V5 aG)
theorem Wd.add{i j:Int}(a:Wd K ta σ G0 (.int i))(b:Wd K tb σ G0 (.int j)):Wd K (tOp (rI0 fun i j=> .int (i+j)) ta tb) σ G0 (.int (i+j)):=fun G H Q g h k=>
 a G H _ g h fun x G1 H1 e1 d1=>b G1 H1 _ (g.trans e1.g) e1.gh fun y G2 H2 e2 d2=>by
  cases d1;cases d2;exact⟨_,_,rfl,rfl,k _ _ _ (e1.trans e2) (.int _)⟩
theorem Wd.sub{i j:Int}(a:Wd K ta σ G0 (.int i))(b:Wd K tb σ G0 (.int j)):Wd K (tOp (rI0 fun i j=> .int (i-j)) ta tb) σ G0 (.int (i-j)):=fun G H Q g h k=>
 a G H _ g h fun x G1 H1 e1 d1=>b G1 H1 _ (g.trans e1.g) e1.gh fun y G2 H2 e2 d2=>by
  cases d1;cases d2;exact⟨_,_,rfl,rfl,k _ _ _ (e1.trans e2) (.int _)⟩
theorem Wd.neg{i:Int}(a:Wd K ta σ G0 (.int i)):Wd K (tUn (rU fun i=> .int (-i)) ta) σ G0 (.int (-i)):=fun G H Q g h k=>
 a G H _ g h fun x G1 H1 e1 d1=>by
  cases d1;exact⟨_,rfl,k _ _ _ e1 (.int _)⟩
theorem Ext.link{G H:Hp}{r:Addr}{xs:List V}(h:Same G H)(t:SqT K H r xs):∃G',Ext G H G' H/\SqT K G' r xs:=by
 have go:∀u:HO,H r=some u->(∀zs,u≠.lst zs)->Ext G H (upd G r u) H:=fun u hu hn=>by
  refine⟨fun b v e=> ?_,Same.refl _,fun b v e=> ?_,fun b zs e=> ?_⟩
  ·by_cases z:b=r
   ·subst z;rw[aG,<-hu,h b v e]
   ·rw[cN z];exact e
  ·by_cases z:b=r
   ·subst z;rw[aG]at e;rw[hu,e]
   ·rw[cN z]at e;exact h b v e
  ·refine cN fun z=> ?_;subst z;rw[hu]at e;exact hn zs (was e)
 rcases t with(t|⟨o,t⟩)|t
 ·exact⟨_,go _ t (fun _ z=>by cases z),.inl (.inl aG)⟩
 ·exact⟨_,go _ t (fun _ z=>by cases z),.inl (.inr ⟨o,aG⟩)⟩
 ·exact⟨G,Ext.refl h,.inr t⟩
theorem Ext.more{G H H':Hp}(h:Same G H)(e:Same H H'):Ext G H G H':=⟨Same.refl _,e,h.trans e,fun _ _ _=>rfl⟩
theorem Wd.cat{es:List θ}(a:Wd K ta σ G0 (.tuple ds))(b:Wd K tb σ G0 (.tuple es))(hz:ds.length+es.length<=sizeLine):Wd K (tOp (Gp K) ta tb) σ G0 (.tuple (ds++es)):=fun G H Q g h k=>
 a G H _ g h fun x G1 H1 e1 d1=>b G1 H1 _ (g.trans e1.g) e1.gh fun y G2 H2 e2 d2=>by
  cases d1 with
  |tup s1 t1=>
   cases d2 with
   |tup s2 t2=>
    refine⟨_,_,_,_,rfl,rfl,e2.gh.tup (e2.g.tup s1),e2.gh.tup s2,by rw[t1.len,t2.len];exact hz,fun r H3 sm sq=> ?_⟩;have e3:=Ext.more e2.gh sm;obtain⟨G4,e4,q4⟩:=Ext.link e3.gh sq;exact k _ G4 H3 (e1.trans (e2.trans (e3.trans e4))) (.tup q4 (bB.append (bB.same (e2.g.trans e4.g) t1) (bB.same e4.g t2)))
theorem nQ{H:Hp}{Q:VK}(M:cu K t σ G0 ds)(h:Same G0 H)(k:∀xs G' H',Ext G0 H G' H'->bB K G' xs ds->xs.length<=sizeLine/\∀p,H' p=none->Q (.ref p) (upd H' p (.lst xs))):tLst t σ H Q:=
 M G0 H _ (Same.refl _) h k
end
section
variable{K:W.Frag}{ta:TE}{σ:St}{G0 H:Hp}{ds:List θ}
theorem Wd.listOf(a:Wd K ta σ G0 (.tuple ds)):Wd K (tCB (fun xs H Q=>∃p ys,xs=[.ref p]/\(SqL K H p ys\/SqT K H p ys)/\∀l,H l=none->Q (.ref l) (upd H l (.lst ys))) (tCons ta tNil)) σ G0 (.list ds):=fun G H Q g h k=>
 a G H _ g h fun x G1 H1 e1 d1=>by
  cases d1 with
  |tup s1 t1=>exact⟨_,_,rfl,.inr (e1.gh.tup s1),fun l hl=>k _ _ _ (e1.trans (Ext.new e1.gh hl _)) (.lst (SqL.of aG) (bB.same (Ext.new e1.gh hl _).g t1))⟩
end
end L2
namespace kj
open PySem L2
theorem ou{K:W.Frag}{H:Hp}:∀{xs:List V} {ds:List θ} {i:Nat} {x:V},bB K H xs ds->xs[i]? =some x->∃d,ds[i]? =some d/\DV K H x d
 |_,_,_,_,.nil,e=>by simp at e
 |_,_,0,_,.cons h _,e=>by simp at e;subst e;exact⟨_,rfl,h⟩
 |_,_,i+1,x,.cons _ t,e=>by
  obtain⟨d,h1,h2⟩:=ou (i:=i) t (by simpa using e);exact⟨d,by simpa using h1,h2⟩
theorem wJ{K:W.Frag}{H:Hp}:∀(k:Nat) {xs:List V} {ds:List θ},bB K H xs ds->bB K H (xs.take k) (ds.take k)
 |0,_,_,_=> .nil
 |_+1,_,_,.nil=> .nil
 |k+1,_,_,.cons a b=> .cons a (wJ k b)
theorem wK{K:W.Frag}{H:Hp}:∀(k:Nat) {xs:List V} {ds:List θ},bB K H xs ds->bB K H (xs.drop k) (ds.drop k)
 |0,_,_,h=>h
 |_+1,_,_,.nil=> .nil
 |k+1,_,_,.cons a b=>wK k b
noncomputable def tG(ps:L0)(lo hi:Option Int):L0:=(ps.drop (HT.sIx ps.length 0 lo)).take (HT.sIx ps.length ps.length hi-HT.sIx ps.length 0 lo)
theorem uh{K:W.Frag}{H:Hp}{xs:List V}{ps:L0}(h:bB K H xs (ps.map pairD))(lo hi:Option Int):bB K H (cutV xs lo hi) ((tG ps lo hi).map pairD):=by
 have l:xs.length=ps.length:=by rw[h.len,aM]
 unfold cutV tG;rw[l,List.map_take,List.map_drop];exact wJ _ (wK _ h)
theorem v7(ps:L0)(lo hi:Option Int):(tG ps lo hi).length<=ps.length:=by
 unfold tG;rw[qU,W4];omega
theorem Bh{K:W.Frag}{ta:TE}{σ:St}{G0:Hp}{ps:L0}{k:Int}(a:Wd K ta σ G0 (.tuple (ps.map pairD))):Wd K (tSl (K6 K) ta tNoPart (tPart (tC (.int k)))) σ G0 (.tuple ((tG ps none (some k)).map pairD)):=fun G H Q g h kk=>
 a G H _ g h fun x G1 H1 e1 d1=>by
  cases d1 with
  |tup s1 t1=>
   refine⟨_,rfl,_,_,rfl,e1.gh.tup s1,fun r H3 sm sq=> ?_⟩;have e3:=Ext.more e1.gh sm;obtain⟨G4,e4,q4⟩:=Ext.link e3.gh sq;exact kk _ G4 H3 (e1.trans (e3.trans e4)) (.tup q4 (bB.same e4.g (uh t1 _ _)))
theorem SQ{K:W.Frag}{ta:TE}{σ:St}{G0:Hp}{ps:L0}{i:Nat}{k:Int}(hk:σ[i]? =some (some (.int k)))(a:Wd K ta σ G0 (.tuple (ps.map pairD))):Wd K (tSl (K6 K) ta tNoPart (tPart (tVar i))) σ G0 (.tuple ((tG ps none (some k)).map pairD)):=fun G H Q g h kk=>
 a G H _ g h fun x G1 H1 e1 d1=>by
  cases d1 with
  |tup s1 t1=>
   refine⟨_,hk,_,rfl,_,_,rfl,e1.gh.tup s1,fun r H3 sm sq=> ?_⟩;have e3:=Ext.more e1.gh sm;obtain⟨G4,e4,q4⟩:=Ext.link e3.gh sq;exact kk _ G4 H3 (e1.trans (e3.trans e4)) (.tup q4 (bB.same e4.g (uh t1 _ _)))
theorem SN{K:W.Frag}{ta:TE}{σ:St}{G0:Hp}{ps:L0}{i:Nat}{k:Int}(hk:σ[i]? =some (some (.int k)))(a:Wd K ta σ G0 (.tuple (ps.map pairD))):Wd K (tSl (K6 K) ta (tPart (tVar i)) tNoPart) σ G0 (.tuple ((tG ps (some k) none).map pairD)):=fun G H Q g h kk=>
 a G H _ g h fun x G1 H1 e1 d1=>by
  cases d1 with
  |tup s1 t1=>
   refine⟨_,hk,_,rfl,_,_,rfl,e1.gh.tup s1,fun r H3 sm sq=> ?_⟩;have e3:=Ext.more e1.gh sm;obtain⟨G4,e4,q4⟩:=Ext.link e3.gh sq;exact kk _ G4 H3 (e1.trans (e3.trans e4)) (.tup q4 (bB.same e4.g (uh t1 _ _)))
theorem Ku{K:W.Frag}{ta:TE}{σ:St}{G0 H:Hp}{d:θ}{Q:List V->Hp->Prop}(M:Wd K ta σ G0 d)(h:Same G0 H)(k:∀x G' H',Ext G0 H G' H'->DV K G' x d->Q [x] H'):tCons ta tNil σ H Q:=
 M G0 H _ (Same.refl _) h k
theorem pU:∀ts:L0,PyData.canLayAll0 (ts.map pairD)=true
 |[]=>rfl
 |p::ts=>by
  show((true&&(true&&true))&&PyData.canLayAll0 (ts.map pairD))=true;rw[pU ts];rfl
structure Bn(K:W.Frag)(tp bA:Addr)(ns:List Int)(b:Int)(H0 G H:Hp)(fd:Addr)(fl:List V)(ds:List θ):Prop where
 sx:aA tp H0 H
 tv:cB K H tp bA ns b
 gh:Same G H
 gt:G tp=none
 gf:G fd=none
 hf:H fd=some (.lst fl)
 dv:bB K G fl ds
 ok:∀d∈ds,gJ d=false
 f0:H0 fd=none
 nt:fd≠tp
 len:fl.length<=60
section
variable{K:W.Frag}{tp bA:Addr}{ns:List Int}{b':Int}{H0 G H G' H':Hp}{fd:Addr}{fl:List V}{ds:List θ}
theorem Bn.ext(b:Bn K tp bA ns b' H0 G H fd fl ds)(e:Ext G H G' H'):Bn K tp bA ns b' H0 G' H' fd fl ds:=by
 obtain⟨_,_,hz,_⟩:=b.tv.le;exact⟨b.sx.trans (e.h.x _),b.tv.same e.h,e.gh,(e.o _ _ hz).trans b.gt,(e.o _ _ b.hf).trans b.gf,e.h _ _ b.hf,bB.same e.g b.dv,b.ok,b.f0,b.nt,b.len⟩
theorem Bn.append{x:V}{d:θ}(b:Bn K tp bA ns b' H0 G H fd fl ds)(hx:DV K G x d)(hd:gJ d=false)(hl:fl.length<60):Bn K tp bA ns b' H0 G (upd H fd (.lst (fl++[x]))) fd (fl++[x]) (ds++[d]):=by
 have xw:aA fd H (upd H fd (.lst (fl++[x]))):=(aA.refl _ _).upd;refine⟨fun a o n e=> ?_,⟨b.tv.tv.other xw b.hf b.nt.symm,?_⟩,fun a o e=> ?_,b.gt,b.gf,aG,b.dv.snoc hx,fun e he=> ?_,b.f0,b.nt,?_⟩
 ·exact xw _ _ (fun z=>by rw[z,b.f0]at e;cases e) (b.sx a o n e)
 ·obtain⟨i,r,e,l⟩:=b.tv.le;exact⟨i,r,xw _ _ b.nt.symm e,l⟩
 ·exact xw _ _ (fun z=>by rw[z,b.gf]at e;cases e) (b.gh a o e)
 ·rcases fH.mp he with z|z
  ·exact b.ok e z
  ·rw[eN.mp z];exact hd
 ·rw[eO];show fl.length+1<=60;omega
theorem Bn.cat{zs:List V}{es:List θ}{p:Addr}(b:Bn K tp bA ns b' H0 G H fd fl ds)(hz:bB K G zs es)(he:∀d∈es,gJ d=false)(hp:H p=none)(hc:fl.length+zs.length<=60):Bn K tp bA ns b' H0 G (upd H p (.lst (fl++zs))) p (fl++zs) (ds++es):=by
 have sn:=aZ hp (.lst (fl++zs));obtain⟨_,_,ht,_⟩:=b.tv.le;have nt:p≠tp:=fun q=>by rw[q,ht]at hp;cases hp
 refine⟨b.sx.trans (sn.x _),b.tv.same sn,b.gh.trans sn,b.gt,b.gh.none hp,aG,bB.append b.dv hz,fun e h=> ?_,?_,nt,by rw[eO];exact hc⟩
 ·rcases fH.mp h with z|z
  ·exact b.ok e z
  ·exact he e z
 ·cases e:H0 p with
  |none=>rfl
  |some o=>rw[b.sx p o nt e]at hp;cases hp
end
theorem Ho{d t:θ}(h:jd d=false):gJ (.tuple [d,t])=false:=by show(jd d&&_&&_)=false;rw[h];rfl
theorem Lz{k:Int}{t:θ}(h:k<0\/10<k):gJ (.tuple [.int k,t])=false:=by
 show(true&&(decide (0<=k)&&decide (k<=10))&&_)=false;rcases h with h|h
 ·rw[cI (show¬0<=k by omega)];rfl
 ·rw[cI (show¬k<=10 by omega),wY];rfl
theorem Cw{k:Int}{t:θ}(h:gW k t=false):gJ (.tuple [.int k,t])=false:=by
 show(_&&gW k t)=false;rw[h,wY]
theorem Hl{k:Int}{ds:List θ}{d:θ}(hd:d∈ds)(h:eU k d=false):gW k (.tuple ds)=false:=by
 show(ds.all (eU k)&&_)=false;have:ds.all (eU k)=false:=by
  rw[W5];exact⟨d,hd,by rw[h];decide⟩
 rw[this];rfl
theorem oH{k:Int}{ds:List θ}{d:θ}(hd:d∈ds)(h:bh k d=false):eU k (.tuple ds)=false:=by
 show((ds.all (bh k)&&_)&&_)=false;have:ds.all (bh k)=false:=by
  rw[W5];exact⟨d,hd,by rw[h];decide⟩
 rw[this];rfl
theorem jM{k i:Int}(h:i<0\/k<=i):bh k (.int i)=false:=by
 show(decide (0<=i)&&decide (i<k))=false;rcases h with h|h
 ·rw[cI (show¬0<=i by omega)];rfl
 ·rw[cI (show¬i<k by omega),wY]
theorem Gm{ts:List (List Int)}(h:dg ts=true):∀d i,i+d+1<ts.length->ts.getD i []<ts.getD (i+d+1) []:=by
 have one:∀k,k+1<ts.length->ts.getD k []<ts.getD (k+1) []:=fun k hk=>by
  have:=iR.mp h k (wU.mpr (by omega));rw[HT.aW]at this;exact qX this
 intro d
 induction d with
 |zero=>intro i hi;exact one i hi
 |succ d ih=>
  intro i hi;exact Yg (ih i (by omega)) (one (i+d+1) (by omega))
theorem vg{k:Int}{ds:List θ}{i j:Nat}(hij:i<j)(hj:j<ds.length)(e:ds.getD i .none=ds.getD j .none):gW k (.tuple ds)=false:=by
 show(_&&dg (ds.map fun t=>(kids t).map intD))=false;cases h:dg (ds.map fun t=>(kids t).map intD)with
 |false=>rw[wY]
 |true=>
  exfalso;have g:=Gm h (j-i-1) i (by rw[aM];omega);have eq:i+(j-i-1)+1=j:=by omega
  rw[eq]at g;have at_:∀m,m<ds.length->(ds.map fun t=>(kids t).map intD).getD m []=(kids (ds.getD m .none)).map intD:=fun m hm=>by
   rw[qG,dD,qG,jc hm];rfl
  rw[at_ i (by omega),at_ j hj,e]at g;exact Ut _ g
end kj
namespace L2
open PySem
theorem uD{K:W.Frag}{t:TA}{σ:St}{G0 H:Hp}{ds:List θ}{g:TG}{r:TS}{D:Ends}(M:cu K t σ G0 ds)(h:Same G0 H)(k:∀xs G' H',Ext G0 H G' H'->bB K G' xs ds->xs.length<=sizeLine/\∀p,H' p=none->g (.ref p) σ (upd H' p (.lst xs)) fun σ2 H2=>r D σ2 H2):tSeq (tAsg (tLst t) g) r D σ H:=
 nQ (Q:=fun x H1=>g x σ H1 fun σ2 H2=>r D σ2 H2) M h k
end L2
namespace Hs
open PySem L2 kj
section
variable{P:ξ}{w:τ}{K:W.Frag}{mg:L5}{base:Heap}
noncomputable def Nr(n far:Int):List θ:=[.tuple [.int 1,.int 0],.tuple [.int 0,.int 0],.tuple [.int 0,.int n],.tuple [.int 0,.int (n+far)],.tuple [.int (-1),.int 0],.tuple [.int 0,.bool true],.tuple [.int 0],.tuple [.int 0,.int 1,.int 2],.list [.int 0,.int 1],.none,.str "01",.int 1]
theorem Nq{n far:Int}(hf:0<=far):∀d∈Nr n far,eU n d=false:=by
 intro d hd;simp only[Nr,cD,Ti,Tt]at hd;rcases hd with rfl|rfl|rfl|rfl|rfl|rfl|rfl|rfl|rfl|rfl|rfl|rfl
 ·show(([PyData.int 1,.int 0].all (bh n)&&cL [1,0])&&_)=false;rw[show cL [1,0]=false from by decide,wY];rfl
 ·show(([PyData.int 0,.int 0].all (bh n)&&cL [0,0])&&_)=false;rw[show cL [0,0]=false from by decide,wY];rfl
 ·exact oH (d:= .int n) (by simp) (jM (.inr (JM _)))
 ·exact oH (d:= .int (n+far)) (by simp) (jM (.inr (by omega)))
 ·exact oH (d:= .int (-1)) (by simp) (jM (.inl (by decide)))
 ·exact oH (d:= .bool true) (by simp) rfl
 ·show(_&&decide (([PyData.int 0]:List θ).length=2))=false;rw[cI (by decide),wY]
 ·show(_&&decide (([PyData.int 0,.int 1,.int 2]:List θ).length=2))=false;rw[cI (by decide),wY]
 ·rfl
 ·rfl
 ·rfl
 ·rfl
noncomputable def T8(n far:Int)(T:θ):List θ:=[.tuple [.int 11,.tuple []],.tuple [.int (11+far),T],.tuple [.int (-1),.tuple []],.tuple [.int (-1-far),.tuple []],.tuple [.bool true,.tuple []],.tuple [.none,T],.tuple [.str "2",.tuple []],.int n,T]
theorem Rt{n far:Int}(hf:0<=far)(ts:L0):∀d∈T8 n far (.tuple (ts.map pairD)),gJ d=false:=by
 intro d hd;simp only[T8,cD,Ti,Tt]at hd;rcases hd with rfl|rfl|rfl|rfl|rfl|rfl|rfl|rfl|rfl
 ·exact Lz (.inr (by decide))
 ·exact Lz (.inr (by omega))
 ·exact Lz (.inl (by decide))
 ·exact Lz (.inl (by omega))
 ·exact Ho rfl
 ·exact Ho rfl
 ·exact Ho rfl
 ·rfl
 ·match ts with
  |[]=>rfl
  |[_]=>rfl
  |[_,_]=>exact Ho rfl
  |_::_::_::_=>rfl
theorem Jj(l:L0):PyData.eqv (.tuple (l.map pairD)) (.tuple [])=decide (l=[]):=by
 cases l with
 |nil=>simp[PyData.eqv,PyData.eqvAll]
 |cons p l=>simp[PyData.eqv,PyData.eqvAll]
theorem Nt{xs:List V}(h:0<xs.length):atI xs (-1)=xs[xs.length-1]? :=by
 have e:ixN xs.length (-1)=some (xs.length-1):=by
  unfold ixN;rw[aJ (by decide),aL (by omega)];congr 1;omega
 unfold atI;rw[e];rfl
theorem aac{ts:L0}{p:Int×Int}{r:L0}(h:ts=p::r):tG ts none (some 1)=[p]:=by
 subst h;unfold tG HT.sIx;simp
noncomputable def oR(K:W.Frag):Sp:=fun vs H Q _=>∃(tp bA:Addr) (ns:List Int) (wb:Addr) (b n:Int) (ts:L0),vs=[.ref tp,.ref wb]/\cB K H tp bA ns b/\b<=900000000/\aF K H wb n ts/\
 ∀r rs H',aA tp H H'->cB K H' tp bA ns (b+1+1)->H' r=some (.lst rs)->H r=none->r≠tp->(∀x∈rs,eE K H' x)->Q (.ref r) H'
theorem Ck{f f1:Addr}{fd d1:ρ}(F:Fun K "_law_e_no_webs" "_law_e_no_webs" XF f fd)(D1:bF K mg "_law_e_dip" Td ["cup","many"] f1 d1)(G1:FnOk P w K mg base CX0 2 f1 d1 ["cup","many"] (uJ K))(aU:mg "len"=none)(yd:mg "list"=none):
  FnOk P w K mg base CX0 3 f fd ["cup","web"] (oR K):=by
 refine F.cM ["cup","web","n","ties","far","at","found","bad","tie"] fun cdv A outer s H vs Q E hr h=> ?_;obtain⟨tp,bA,ns,wb,b,n,ts,rfl,hC,hb,hW,q⟩:=h;refine⟨_,(aR (ps_asg (pv 1) (pg_tup rfl (nM (pG 2) (nM (pG 3) Ea)))) (aR (pS 4 (pc G1 hr D1 (aj (pv 0) (aj (bM op_pow aK aK) ak)))) (aR (pS 5 (pc G1 hr D1 (aj (pv 0) (aj (bM mO (pB nO aU (aj (pv 3) ak)) aK) ak)))) (aR (pS 6 (nJ (aj (cA (aj aK (aj (cA ak) ak))) (aj (cA (aj (bM mO aK (pv 4)) (aj (pv 3) ak))) (aj (cA (aj (pe_un un_neg aK) (aj (cA ak) ak))) (aj (cA (aj (bM op_sub (pe_un un_neg aK) (pv 4)) (aj (cA ak) ak))) (aj (cA (aj pe_bl (aj (cA ak) ak))) (aj (cA (aj zB (aj (pv 3) ak))) (aj (cA (aj qF (aj (cA ak) ak))) (aj (pv 2) (aj (pv 3) ak))))))))))) (aR (pS 7 (nJ (aj (cA (aj aK (aj aK ak))) (aj (cA (aj aK (aj aK ak))) (aj (cA (aj aK (aj (pv 2) ak))) (aj (cA (aj aK (aj (bM mO (pv 2) (pv 4)) ak))) (aj (cA (aj (pe_un un_neg aK) (aj aK ak))) (aj (cA (aj aK (aj pe_bl ak))) (aj (cA (aj aK ak)) (aj (cA (aj aK (aj aK (aj aK ak)))) (aj (nJ (aj aK (aj aK ak))) (aj zB (aj qF (aj aK ak)))))))))))))) (aR (rR qL rfl (Bl (pv 7)) (pG 8) (aQ (iw (pe_bm JZ T7 T4 S8 (pv 6) (aj (cA (aj (pv 2) (aj (bM cX (bM cX (N5 dH (pv 3) po_none (po_some (pv 5))) (cA (aj (pv 8) ak))) (N5 dH (pv 3) (po_some (pv 5)) po_none)) ak))) ak))))) (aR (pS 6 (bM op_cat (pv 6) (nJ (aj (cA (aj (pv 2) (aj (pT call_list_of yd (aj (pv 3) ak)) ak))) (aj (nJ (aj (pv 2) (aj (pv 3) ak))) (aj (cA (aj (pv 2) ak)) (aj (cA (aj (pv 2) (aj (pv 3) (aj (cA ak) ak)))) (aj (cA (aj (pv 3) (aj (pv 2) ak))) (aj (cA ak) (aj qF (aj Gv (aj (cA (aj (pv 2) (aj zB ak))) ak)))))))))))) (aR (pS 6 (bM op_cat (pv 6) (nJ (aj pe_bl (aj zB ak))))) (aR (eF (dW (Q8 hr.units) (pv 3) (cA ak)) (aQ (pS 6 (bM op_cat (pv 6) (nJ (aj (cA (aj (pv 2) (aj (bM cX (pv 3) (N5 dH (pv 3) po_none (po_some aK))) ak))) (aj (cA (aj (pv 2) (aj (bM cX (N5 dH (pv 3) po_none (po_some aK)) (pv 3)) ak))) (aj (cA (aj (bY gF (bY gF (pv 3) (pe_un un_neg aK)) aK) (aj (pv 3) ak))) ak))))))) iG) (aQ (bW (pv 6)))))))))))),?_⟩;obtain⟨t,rs0,hw1,hw2,hw3⟩:=id hW.web;obtain⟨i0,r0,hz,_⟩:=id hC.le;have lG:sizeLine=16777216:=cY;have lts:=hW.len;have hn0:=hW.h0;have hn1:=hW.h1;have lr0:rs0.length=ts.length:=by have:=hw3.len;rwa [aM]at this
 refine⟨_,rfl,wb,_,rfl,hw1,rfl,_,_,rfl,_,_,rfl,rfl,?_⟩;refine⟨_,rfl,_,_,rfl,rfl,⟨by decide,by decide,by decide⟩,tp,bA,ns,_,b,rfl,hC,by omega,by decide+kernel,by decide+kernel,fun far H1 hf0 hf1 x1 cv1=> ?_⟩;refine⟨_,rfl,_,rfl,t,_,rfl,.inr (x1.tup hz hw2),fun _=>⟨_,_,rfl,rfl,tp,bA,ns,_,b+1,rfl,cv1,by omega,by omega,by omega,fun at_ H2 ha0 ha1 x2 cv2=> ?_⟩⟩
 -- what the data is made of
 obtain⟨G0,Xv⟩:∃G0:Hp,G0=fun b=>if b=tp then none else H b:=⟨_,rfl⟩
 have ZW:G0 tp=none:=by rw[Xv];exact aL rfl
 have g0x:aA tp H G0:=fun b o n e=>by rw[Xv];show(if b=tp then none else H b)=some o;rw[aJ n];exact e
 have g0H:Same G0 H:=fun b o e=>by
  by_cases z:b=tp
  ·rw[z,ZW]at e;cases e
  ·rw[Xv]at e;have e':(if b=tp then none else H b)=some o:=e;rw[aJ z]at e';exact e'
 have ZX:Same G0 H2:=fun b o e=>(x1.trans x2) b o (fun z=>by rw[z,ZW]at e;cases e) (g0H b o e);have dT:DV K G0 (.ref t) (.tuple (ts.map pairD)):= .tup (g0x.tup hz hw2) (Uk g0x hz hw3);clear Xv;refine uD (K:=K) (G0:=G0) (ds:=T8 n far (.tuple (ts.map pairD)))
  (cu.cons (Wd.t2 Wd.int Wd.t0) (cu.cons (Wd.t2 (Wd.add Wd.int (Wd.vi rfl)) (Wd.var rfl dT)) (cu.cons (Wd.t2 (Wd.neg Wd.int) Wd.t0) (cu.cons (Wd.t2 (Wd.sub (Wd.neg Wd.int) (Wd.vi rfl)) Wd.t0) (cu.cons (Wd.t2 Wd.bl Wd.t0)
  (cu.cons (Wd.t2 Wd.non (Wd.var rfl dT)) (cu.cons (Wd.t2 Wd.str Wd.t0) (cu.cons (Wd.vi rfl) (cu.cons (Wd.var rfl dT) cu.nil))))))))) ZX (fun xs1 A1 H3 e1 dv1=>⟨by rw[dv1.len,lG];show 9<=16777216;decide,fun f hf=> ?_⟩)
 have sn:=aZ hf (.lst xs1);have lx1:xs1.length=9:=dv1.len;have B1:Bn K tp bA ns (b+1+1) H A1 (upd H3 f (.lst xs1)) f xs1 (T8 n far (.tuple (ts.map pairD))):=by
  obtain⟨_,_,hz2,_⟩:=id cv2.le;have nt:f≠tp:=fun z=>by rw[z,e1.h _ _ hz2]at hf;cases hf
  refine⟨x1.trans (x2.trans ((e1.h.trans sn).x _)),cv2.same (e1.h.trans sn),e1.gh.trans sn,(e1.o _ _ hz2).trans ZW,e1.gh.none hf,aG,dv1,Rt hf0 ts,?_,nt,by omega⟩
  ·cases e:H f with
   |none=>rfl
   |some o=>rw[e1.h _ _ (x2 f o nt (x1 f o nt e))]at hf;cases hf
 have dT1:=DV.same e1.g dT;generalize upd H3 f (.lst xs1)=J1 at B1⊢;refine uD (K:=K) (G0:=A1) (ds:=Nr n far)
  (cu.cons (Wd.t2 Wd.int Wd.int) (cu.cons (Wd.t2 Wd.int Wd.int) (cu.cons (Wd.t2 Wd.int (Wd.vi rfl)) (cu.cons (Wd.t2 Wd.int (Wd.add (Wd.vi rfl) (Wd.vi rfl))) (cu.cons (Wd.t2 (Wd.neg Wd.int) Wd.int) (cu.cons (Wd.t2 Wd.int Wd.bl)
  (cu.cons (Wd.t1 Wd.int) (cu.cons (Wd.t3 Wd.int Wd.int Wd.int) (cu.cons (Wd.l2 Wd.int Wd.int) (cu.cons Wd.non (cu.cons Wd.str (cu.cons Wd.int cu.nil)))))))))))) B1.gh (fun xs2 A2 H4 e2 dv2=>⟨by rw[dv2.len,lG];show 12<=16777216;decide,fun l hl=> ?_⟩)
 have B2:=B1.ext (e2.trans (Ext.side e2.gh hl (.lst xs2)));have hl2:(upd H4 l (.lst xs2)) l=some (.lst xs2):=aG;have lx2:xs2.length=12:=dv2.len;have nlf:l≠f:=fun z=>by rw[z,e2.h _ _ B1.hf]at hl;cases hl
 have dT2:=DV.same e2.g dT1;have bad:=Nq (n:=n) hf0;generalize upd H4 l (.lst xs2)=J2 at B2 hl2⊢;generalize Nr n far=dm at *;refine⟨_,rfl,l,xs2,rfl,SqL.of hl2,fun _=> ?_⟩;refine for_list (K:=K) (a:=l) (xs:=xs2) (fun idx σ H'=>∃G2 Nb Sg o8,σ=[some (.ref tp),some (.ref wb),some (.int n),some (.ref t),some (.int far),some (.int at_),some (.ref f),some (.ref l),o8]/\Bn K tp bA ns (b+1+1) H G2 H' f Nb Sg/\Same A2 G2/\H' l=some (.lst xs2)/\Nb.length=9+idx)
  ⟨A2,_,_,_,rfl,B2,Same.refl _,hl2,lx1⟩ (fun idx σ H' _ p=> ?_) (fun idx x σ H' hx p=> ?_) (fun σ H' p=> ?_)
 ·obtain⟨_,_,_,_,_,_,_,h,_⟩:=p;exact SqL.of h
 ·obtain⟨G2,Nb,Sg,o,rfl,B3,jg,hr',hfl⟩:=p;obtain⟨dd,hdd,dxo⟩:=ou dv2 hx;have hidx:idx<xs2.length:=(qW.mp hx).1;have Py:=DV.same jg dT2;have c1:=v7 ts none (some at_);have c2:=v7 ts (some at_) none;refine⟨_,rfl,.inl ⟨rfl,_,SqL.of B3.hf⟩,?_⟩;refine Ku (K:=K) (G0:=G2) (Wd.t2 (Wd.vi rfl) (Wd.cat (Wd.cat (SQ rfl (Wd.var rfl Py)) (Wd.t1 (Wd.var rfl (DV.same jg dxo)))
   (by simp only[eO,aM,lO,Ep,lG];omega)) (SN rfl (Wd.var rfl Py)) (by simp only[eO,aM,lO,Ep,lG];omega))) B3.gh (fun y G3 H8 e8 dy=> ?_)
  have B4:=B3.ext e8;refine⟨f,Nb,y,rfl,rfl,B4.hf,(by have:=B4.len;rw[lG];omega),?_⟩;have B5:=B4.append dy (Cw (Hl (d:=dd) (by simp) (bad dd (nP hdd)))) (by omega);exact⟨G3,_,_,_,rfl,B5,jg.trans e8.g,by rw[cN nlf];exact e8.h _ _ hr',by rw[eO,hfl];show 9+idx+1=_;omega⟩
 obtain⟨G2,Nb,Sg,o,rfl,B3,jg,hr',hfl⟩:=p;have Py:=DV.same jg dT2;refine⟨_,rfl,?_⟩;refine nQ (K:=K) (G0:=G2)
  (cu.cons (Wd.t2 (Wd.vi rfl) (Wd.listOf (Wd.var rfl Py))) (cu.cons (Wd.l2 (Wd.vi rfl) (Wd.var rfl Py)) (cu.cons (Wd.t1 (Wd.vi rfl)) (cu.cons (Wd.t3 (Wd.vi rfl) (Wd.var rfl Py) Wd.t0)
  (cu.cons (Wd.t2 (Wd.var rfl Py) (Wd.vi rfl)) (cu.cons Wd.t0 (cu.cons Wd.str (cu.cons Wd.V5 (cu.cons (Wd.t2 (Wd.vi rfl) Wd.non) cu.nil))))))))) B3.gh (fun Qn A4 H5 e4 dv4=>⟨by rw[dv4.len,lG];show 9<=16777216;decide,fun r2 hr2=> ?_⟩)
 have B4:=B3.ext (e4.trans (Ext.side e4.gh hr2 (.lst Qn)));have lx4:Qn.length=9:=dv4.len;refine⟨f,r2,Nb,Qn,rfl,rfl,B4.hf,aG,(by rw[lx4,lG];omega),fun r3 Xm=> ?_⟩;have B5:=B4.cat dv4 (fun d hd=>by
  simp only[cD,Ti,Tt]at hd;rcases hd with rfl|rfl|rfl|rfl|rfl|rfl|rfl|rfl|rfl
  ·exact Cw rfl
  ·rfl
  ·rfl
  ·rfl
  ·exact Ho rfl
  ·rfl
  ·rfl
  ·rfl
  ·exact Cw rfl) Xm (by omega)
 have lf4:(Nb++Qn).length=30:=by rw[eO];omega
 have dT4:=DV.same e4.g Py;generalize upd (upd H5 r2 (.lst Qn)) r3 (.lst (Nb++Qn))=J5 at B5⊢;generalize (Nb++Qn)=R7 at *;refine⟨_,rfl,?_⟩;refine nQ (K:=K) (G0:=A4) (cu.cons Wd.bl (cu.cons Wd.non cu.nil)) B5.gh (fun Qm A6 H6 e6 Z9=>⟨by rw[Z9.len,lG];show 2<=16777216;decide,fun r4 hr4=> ?_⟩);have B6:=B5.ext (e6.trans (Ext.side e6.gh hr4 (.lst Qm)));have lx6:Qm.length=2:=Z9.len;refine⟨r3,r4,R7,Qm,rfl,rfl,B6.hf,aG,(by rw[lx6,lG];omega),fun r5 Xl=> ?_⟩;have B7:=B6.cat Z9 (fun d hd=>by
  simp only[cD,Ti,Tt]at hd;rcases hd with rfl|rfl<;>rfl) Xl (by omega)
 have lf7:(R7++Qm).length=32:=by rw[eO];omega
 have Sq:=DV.same e6.g dT4;generalize upd (upd H6 r4 (.lst Qm)) r5 (.lst (R7++Qm))=J7 at B7⊢;generalize (R7++Qm)=fl7 at *;have fin:∀{Gx Jx:Hp} {fx:Addr} {flx:List V} {dsx:List θ},Bn K tp bA ns (b+1+1) H Gx Jx fx flx dsx->Q (.ref fx) Jx:=fun B=>by
  refine q _ _ _ B.sx B.tv B.hf B.f0 B.nt fun x hx=> ?_;obtain⟨i,hi,rfl⟩:=Qh hx;obtain⟨d,hd,dx⟩:=ou B.dv (jc hi);exact⟨d,(DV.same B.gh dx).dx,B.ok d (nP hd)⟩
 refine⟨_,rfl,(by show 0<=sizeLine;decide),fun p0 hp0=> ?_⟩;have B8:=B7.ext (Ext.side B7.gh hp0 (.tup []));have e0:(upd J7 p0 (.tup [])) p0=some (.tup []):=aG;generalize upd J7 p0 (.tup [])=J8 at B8 e0⊢;refine⟨.tuple (ts.map pairD),.tuple [],DV.same B8.gh Sq,.tup (SqT.of e0) .nil,pU _,rfl,(by show min _ 1<=64;omega),_,rfl,?_⟩;rw[Jj];by_cases hts:ts=[]
 ·rw[dF hts];exact iteF ⟨_,rfl,fin B8⟩
 ·rw[cI hts];refine iteT ?_;obtain⟨p1,rest,V2⟩:∃p1 rest,ts=p1::rest:=by
   cases ts with
   |nil=>exact absurd rfl hts
   |cons a l=>exact⟨a,l,rfl⟩
  have c1:=aac V2;obtain⟨QM,Xh,dv7⟩:∃QM,SqT K A6 t QM/\bB K A6 QM (ts.map pairD):=by
   cases Sq with
   |tup s1 t1=>exact⟨_,s1,t1⟩
  have l6:QM.length=ts.length:=by rw[dv7.len,aM]
  have Vr:0<ts.length:=by rw[V2];exact wQ _
  obtain⟨y,hy⟩:∃y,QM[QM.length-1]? =some y:=⟨_,jc (by omega)⟩;obtain⟨dy,ZL,dvy⟩:=ou dv7 hy;rw[dD,l6]at ZL;obtain⟨pz,hpz⟩:∃pz,ts[ts.length-1]? =some pz:=⟨_,jc (by omega)⟩;rw[hpz]at ZL;have edy:dy=pairD pz:=(was ZL).symm;have mpz:=nP hpz;subst edy;obtain⟨py,rfl,sqy⟩:∃py,y= .ref py/\SqT K A6 py [.int pz.1,.int pz.2]:=by
   cases dvy with
   |tup s1 t1=>
    cases t1 with
    |cons a1 t2=>cases a1;cases t2 with
     |cons a2 t3=>cases a2;cases t3;exact⟨_,rfl,s1⟩
  have hat:atI QM (-1)=some (.ref py):=by rw[Nt (by omega)];exact hy
  refine⟨_,rfl,?_⟩;refine nQ (K:=K) (G0:=A6) (cu.cons (Wd.t2 (Wd.vi rfl) (Wd.cat (Wd.var rfl Sq) (Bh (Wd.var rfl Sq)) (by rw[c1];simp only[aM,lO,Ep,lG];omega)))
   (cu.cons (Wd.t2 (Wd.vi rfl) (Wd.cat (Bh (Wd.var rfl Sq)) (Wd.var rfl Sq) (by rw[c1];simp only[aM,lO,Ep,lG];omega)))
   (cu.cons (Wd.t2 (da:= .int pz.2) (fun G H Q g h k=>⟨_,rfl,_,rfl,t,_,_,.ref py,rfl,rfl,h.tup (g.tup Xh),hat,py,_,_,.int pz.2,rfl,rfl,h.tup (g.tup sqy),rfl,k _ _ _ (Ext.refl h) (.int _)⟩) (Wd.var rfl Sq)) cu.nil))) B8.gh (fun X8 A9 H9 e9 Z8=>⟨by rw[Z8.len,lG];show 3<=16777216;decide,fun r7 hr7=> ?_⟩)
  have B9:=B8.ext (e9.trans (Ext.side e9.gh hr7 (.lst X8)));have lx9:X8.length=3:=Z8.len;refine⟨r5,r7,fl7,X8,rfl,rfl,B9.hf,aG,(by rw[lx9,lG];omega),fun r8 hr8=> ?_⟩;have B10:=B9.cat Z8 (fun d hd=>by
   simp only[cD,Ti,Tt]at hd;rcases hd with rfl|rfl|rfl
   ·refine Cw (vg (i:=0) (j:=ts.length) Vr (by rw[c1];simp) ?_);rw[c1,V2];simp
   ·refine Cw (vg (i:=0) (j:=1) (by decide) (by rw[c1,V2];simp) ?_);rw[c1,V2];simp
   ·exact Cw (Hl (d:=pairD pz) (List.mem_map_of_mem mpz) (oH (d:= .int pz.2) (by simp) (jM (.inr (JM _)))))) hr8 (by omega)
  exact⟨_,rfl,fin B10⟩
theorem vL{no:Int}{aB:L0}(h:bV no aB)(v:Int):ao aB v v=false:=by
 rw[tied_eq h];have:(v,v)∉aB:=fun z=>by have:=h.lt _ z;omega
 unfold bw;simp[this]
theorem rM{n no:Int}{ts aB:L0}{ys:List Int}(h:¬(ys.length:Int)=n):aN n no ts aB ys=false:=by unfold aN;rw[cI h];rfl
theorem rK{n no:Int}{ts aB:L0}{ys:List Int}{y:Int}(hy:y∈ys)(h:y<0\/no<=y):aN n no ts aB ys=false:=by
 unfold aN;have:ys.all (fun y=>decide (0<=y)&&decide (y<no))=false:=by
  rw[W5];refine⟨y,hy,?_⟩;rcases h with h|h
  ·rw[cI (show¬0<=y by omega)];simp
  ·rw[cI (show¬y<no by omega),wY];simp
 rw[this,Bool.false_and,wY]
theorem CN{n no:Int}{ts aB:L0}{ys:List Int}{p:Int×Int}(hp:p∈ts)(h:ao aB (ys.getD p.1.toNat 0) (ys.getD p.2.toNat 0)=false):aN n no ts aB ys=false:=by
 unfold aN;have:ts.all (fun p=>ao aB (ys.getD p.1.toNat 0) (ys.getD p.2.toNat 0))=false:=by
  rw[W5];exact⟨p,hp,by rw[h];decide⟩
 rw[this,wY,wY]
theorem p7(ys:List Int)(lo hi:Option Int):∃us:List Int,cutV (ys.map V.int) lo hi=us.map V.int/\us.length=(cutV (ys.map V.int) lo hi).length:=by
 unfold cutV;rw[<-List.map_drop,<-List.map_take];exact⟨_,rfl,(aM _).symm⟩
theorem Js(ys:List Int):(cutV (ys.map V.int) (some 1) none).length=ys.length-1:=by
 unfold cutV HT.sIx;simp;omega
theorem Jr{ys:List Int}(h:1<=ys.length):(cutV (ys.map V.int) none (some 1)).length=1:=by
 unfold cutV HT.sIx;simp;omega
noncomputable def j6(K:W.Frag)(H:Hp)(n no:Int)(ts aB:L0)(x:V):Prop:=∃p ys,x= .ref p/\SqT K H p (ys.map V.int)/\aN n no ts aB ys=false
theorem j6.same{H H':Hp}{n no:Int}{ts aB:L0}{x:V}(h:j6 K H n no ts aB x)(s:Same H H'):j6 K H' n no ts aB x:=by
 obtain⟨p,ys,e,hp,hl⟩:=h;exact⟨p,ys,e,s.tup hp,hl⟩
theorem pF(x:Str):(!decide (V.str x=V.str x))=false:=by rw[dF rfl];rfl
noncomputable def rA(K:W.Frag):Sp:=fun vs H Q _=>∃(tp bA:Addr) (ns:List Int) (wb ob sm:Addr) (b n no:Int) (ts aB:L0) (xs:List Int),vs=[.ref tp,.ref wb,.ref ob,.ref sm]/\cB K H tp bA ns b/\b<=900000000/\aF K H wb n ts/\1<=n/\n<=6/\aF K H ob no aB/\no<=7/\SqT K H sm (xs.map V.int)/\aN n no ts aB xs=true/\
 ∀H',aA tp H H'->cB K H' tp bA ns (b+1+1)->Q (.bl true) H'
theorem xQ{f f1 f2 cw cp:Addr}{fd d1 d2:ρ}(F:Fun K "_law_e_refused_right" "_law_e_refused_right" X5 f fd)(D1:bF K mg "_law_e_no_webs" XF ["cup","web"] f1 d1)(Wc:FnOk P w K mg base CX0 3 f1 d1 ["cup","web"] (oR K))(D2:bF K mg "_law_e_word" Wh ["sort","web","other","some"] f2 d2)(G2:FnOk P w K mg base CX0 27 f2 d2 ["sort","web","other","some"] (Fo K cw cp))(au:mg "range"=none)(aX:mg "tuple"=none)(jQ:mg "all"=none):
  FnOk P w K mg base CX0 28 f fd ["cup","web","other","some"] (rA K):=by
 have G1:FnOk P w K mg base CX0 27 f1 d1 ["cup","web"] (oR K):=Wc.mono (by decide);refine F.cM ["cup","web","other","some","none","bad","sort","one","tie"] fun cdv A outer s H vs Q E hr h=> ?_;obtain⟨tp,bA,ns,wb,ob,sm,b,n,no,ts,aB,xs,rfl,hC,hb,hW,n1,n6,hO,no7,hX,rN,q⟩:=h;refine⟨_,(aR (pS 4 (bM cX (N5 dH (pv 3) po_none (po_some (pe_un un_neg aK))) (cA (aj (bY gF (pv 2) aK) ak)))) (aR (rR qL rfl (Bl (pc G1 hr D1 (aj (pv 0) (aj (pv 1) ak)))) (pG 5) (aQ (rR qL rfl (rY rfl au (aj aK ak)) (pG 6) (aR (eF (PW.pt (pw_or (dW op_ne (pc G2 hr D2 (aj (pv 6) (aj (pv 5) (aj (pv 2) (aj (pv 3) ak))))) qF) (pw_or1 (dW op_ne (pc G2 hr D2 (aj (pv 6) (aj (pv 5) (aj zB (aj (pv 4) ak))))) qF)))) (aQ (bW pe_bl)) iG) (aQ (eF (PW.pt (pw_and (dW op_gt (pv 6) aK) (pw_and1 (dW op_ne (pc G2 hr D2 (aj (pv 6) (aj (pv 1) (aj (pv 5) (aj (pv 4) ak))))) qF)))) (aQ (bW pe_bl)) iG)))))) (aR (rR qL rfl (Bl (nJ (aj (pv 4) (aj (N5 dH (pv 3) (po_some aK) po_none) (aj (bM cX (pv 3) (N5 dH (pv 3) po_none (po_some aK))) (aj (bM cX (cA (aj (pe_un un_neg aK) ak)) (N5 dH (pv 3) (po_some aK) po_none)) ak)))))) (pG 7) (aQ (eF (dW op_ne (pc G2 hr D2 (aj aK (aj (pv 1) (aj (pv 2) (aj (pv 7) ak))))) qF) (aQ (bW pe_bl)) iG))) (aR (rR qL rfl (Eb (bY gF (pv 1) aK)) (pG 8) (aR (pX 7 ["place"] ["some"] [3] (rY rfl au (aj (bY gF (pv 1) aK) ak)) (pG 0) qJ (bY (DW K) (pv 1) (pv 0))) (aR (ps_asg (bY uw (pv 7) (bY gF (pv 8) aK)) (pg_sub (pv 7) (bY gF (pv 8) aK) set_list)) (aQ (eF (dW op_ne (pc G2 hr D2 (aj aK (aj (pv 1) (aj (pv 2) (aj (pT Ed aX (aj (pv 7) ak)) ak))))) qF) (aQ (bW pe_bl)) iG))))) (aQ (bW (pB (NQ rfl) jQ (aj (pK ["sort"] ["web","other","some"] [1,2,3] (rY rfl au (aj aK ak)) (pG 0) qJ (pe_cmpR op_eq (pc G2 hr D2 (aj (pv 0) (aj (pv 1) (aj (pv 2) (aj (pv 3) ak))))) qF)) ak)))))))),?_⟩;have Zu:(xs.length:Int)=n:=by
  have:=rN;unfold aN at this;rw[gU]at this;exact qX this.1
 have h0:=hW.h0;obtain⟨tto,rro,o1,o2,o3⟩:=id hO.web;obtain⟨_,_,hz,_⟩:=id hC.le
 -- none
 refine⟨_,rfl,_,rfl,_,rfl,_,_,rfl,hX,fun r1 H1 s1 sq1=> ?_⟩;obtain⟨us,eus,lus⟩:=p7 xs none (some (-1));rw[eus]at sq1;refine⟨_,rfl,ob,_,_,.int no,rfl,rfl,s1.tup o1,rfl,(by show 1<=sizeLine;decide),fun p2 hp2=> ?_⟩;have s2:=aZ hp2 (.tup [.int no]);have aak:us.length<=xs.length:=by
  have:=iy List.length eus;rw[aM]at this;rw[<-this];unfold cutV;rw[qU,W4,aM];omega
 refine⟨_,_,_,_,rfl,rfl,s2.tup sq1,SqT.of aG,by rw[aM,cY];show us.length+1<=_;omega,fun nn H3 s3 sq3=> ?_⟩;have en:us.map V.int++[V.int no]=(us++[no]).map V.int:=by rw[cg];rfl
 rw[en]at sq3;have J4:=s1.trans (s2.trans s3);have hN3:j6 K H3 n no ts aB (.ref nn):=⟨nn,_,rfl,sq3,rK (y:=no) (by simp) (.inr (JM _))⟩;have hW3:=hW.same J4;have Ub:=hO.same J4;have Xo:=J4.tup hX;have hC3:=hC.same J4;obtain⟨_,_,Mx,_⟩:=id hC3.le;refine⟨_,rfl,_,rfl,tp,bA,ns,wb,b,n,ts,rfl,hC3,hb,hW3,fun l rs H4 x4 hC4 Pj wM nlt hrs=>⟨l,rs,rfl,SqL.of Pj,fun _=> ?_⟩⟩;have Xp:=hW3.cT x4 Mx;have hO4:=Ub.cT x4 Mx;have VD:=x4.tup Mx Xo;have hN4:j6 K H4 n no ts aB (.ref nn):=by
  obtain⟨p,ys,e,hp,hl⟩:=hN3;exact⟨p,ys,e,x4.tup Mx hp,hl⟩
 have WK:aA tp H H4:=(J4.x _).trans x4;refine for_list (K:=K) (a:=l) (xs:=rs) (fun i σ H'=>Same H4 H'/\∃o5 o6,σ=[some (.ref tp),some (.ref wb),some (.ref ob),some (.ref sm),some (.ref nn),o5,o6,none,none]) ⟨Same.refl _,_,_,rfl⟩ (fun i σ H' _ p=>SqL.of (p.1 _ _ Pj)) (fun i x σ H5 hx p=> ?_) (fun σ H5 p=> ?_)
 ·obtain⟨s5,o5,o6,rfl⟩:=p;have nw:=hrs x (nP hx);refine⟨7,rfl,by decide,by decide,?_⟩;refine Kh (n:=7) (fun j σ H'=>Same H4 H'/\∃o6,σ=[some (.ref tp),some (.ref wb),some (.ref ob),some (.ref sm),some (.ref nn),some x,o6,none,none]) ⟨s5,_,rfl⟩ (fun j σ H6 hj p=> ?_) (fun σ H6 p=> ?_)
  ·obtain⟨s6,o6,rfl⟩:=p;refine⟨_,rfl,_,rfl,_,rfl,_,rfl,0+(j:Int),x,.ref ob,.ref sm,some cw,"web",rfl,by omega,by omega,.inl ⟨nw.same s6,rfl⟩,.inr (.inl ⟨rfl,rfl⟩),fun H7 s7=>⟨rfl,_,rfl,?_⟩⟩;rw[pF];refine iteF ?_;have QH:=s6.trans s7;refine⟨_,rfl,_,rfl,_,rfl,0+(j:Int),x,.non,.ref nn,some cw,"web",rfl,by omega,by omega,.inl ⟨nw.same QH,rfl⟩,.inr (.inl ⟨rfl,rfl⟩),fun H8 s8=>⟨rfl,_,rfl,?_⟩⟩;rw[pF];refine iteF ?_;have Xi:=QH.trans s8;refine⟨_,rfl,_,_,rfl,rfl,_,rfl,?_⟩;refine ite2 (fun c=> ?_) (fun c=> ?_)
   ·have c3:3<0+(j:Int):=qX c;refine⟨_,rfl,_,rfl,_,rfl,_,rfl,0+(j:Int),.ref wb,x,.ref nn,some cw,"web",rfl,by omega,by omega,.inr ⟨wb,n,ts,rfl,Xp.same Xi,n6,.inl ⟨c3,nw.same Xi,rfl⟩⟩,.inr (.inl ⟨rfl,rfl⟩),fun H9 s9=>⟨rfl,_,rfl,?_⟩⟩;rw[pF];exact iteF ⟨Xi.trans s9,_,rfl⟩
   ·exact⟨Xi,_,rfl⟩
  ·obtain⟨s6,o6,rfl⟩:=p;exact⟨s6,_,_,rfl⟩
 obtain⟨s5,o5,o6,rfl⟩:=p;have d6:∀{Hx:Hp} {p:Addr} {ys:List Int},Same H4 Hx->SqT K Hx p (ys.map V.int)->aN n no ts aB ys=false->jA K cw cp Hx 6 (.ref wb) (.ref ob) (.ref p) (some cp):=fun{Hx p ys} sx hp hl=>
  .inr ⟨wb,n,ts,rfl,Xp.same sx,n6,.inr ⟨ob,no,aB,p,ys,rfl,rfl,hO4.same sx,no7,hp,.inr ⟨rfl,hl,rfl⟩⟩⟩
 -- four that are no ways
 have Ua:=s5.tup VD;refine⟨_,rfl,?_⟩;refine⟨_,rfl,_,rfl,_,_,rfl,Ua,fun ra H6 s6 Xh=> ?_⟩;obtain⟨ua,eua,lua⟩:=p7 xs (some 1) none;rw[Js]at lua;rw[eua]at Xh;have T8:j6 K H6 n no ts aB (.ref ra):=⟨ra,ua,rfl,Xh,rM (by omega)⟩;refine⟨_,rfl,_,rfl,_,rfl,_,_,rfl,s6.tup Ua,fun rb H7 s7 sq7=> ?_⟩;obtain⟨ub,eub,lub⟩:=p7 xs none (some 1);rw[Jr (by omega)]at lub;rw[eub]at sq7;refine⟨_,_,_,_,rfl,rfl,(s6.trans s7).tup Ua,sq7,by rw[aM,aM,cY];omega,fun rc H8 s8 sq8=> ?_⟩;have ec:xs.map V.int++ub.map V.int=(xs++ub).map V.int:=by rw[cg]
 rw[ec]at sq8;have nwC:j6 K H8 n no ts aB (.ref rc):=⟨rc,_,rfl,sq8,rM (by rw[eO];omega)⟩;refine⟨_,rfl,(by show 1<=sizeLine;decide),fun rd hd=> ?_⟩;have s9:=aZ hd (.tup [.int (-1)]);have e9:(upd H8 rd (.tup [.int (-1)])) rd=some (.tup [.int (-1)]):=aG;generalize upd H8 rd (.tup [.int (-1)])=H9 at *;refine⟨_,rfl,_,rfl,_,_,rfl,(s6.trans (s7.trans (s8.trans s9))).tup Ua,fun re H10 Y8 Vd=> ?_⟩;rw[eua]at Vd;refine⟨_,_,_,_,rfl,rfl,SqT.of (Y8 _ _ e9),Vd,by rw[aM,cY];show 1+ua.length<=_;omega,fun rf Xy s11 Vc=> ?_⟩;have ef:[V.int (-1)]++ua.map V.int=((-1)::ua).map V.int:=rfl;rw[ef]at Vc;have nwF:j6 K Xy n no ts aB (.ref rf):=⟨rf,_,rfl,Vc,rK (y:= -1) (by simp) (.inl (by decide))⟩;refine⟨(by show 4<=sizeLine;decide),fun lf hlf=> ?_⟩;have s12:=aZ hlf (.lst [.ref nn,.ref ra,.ref rc,.ref rf]);have e12:(upd Xy lf (.lst [.ref nn,.ref ra,.ref rc,.ref rf])) lf=some (.lst [.ref nn,.ref ra,.ref rc,.ref rf]):=aG;have sA:=s8.trans (s9.trans (Y8.trans (s11.trans s12)));have QJ:=s5.trans (s6.trans (s7.trans sA));have aad:∀x∈[V.ref nn,.ref ra,.ref rc,.ref rf],j6 K (upd Xy lf (.lst [.ref nn,.ref ra,.ref rc,.ref rf])) n no ts aB x:=fun x hx=>by
  simp only[cD,Ti,Tt]at hx;rcases hx with rfl|rfl|rfl|rfl
  ·exact hN4.same QJ
  ·exact T8.same (s7.trans sA)
  ·exact nwC.same (s9.trans (Y8.trans (s11.trans s12)))
  ·exact nwF.same s12
 generalize upd Xy lf (.lst [.ref nn,.ref ra,.ref rc,.ref rf])=H12 at *;refine⟨lf,_,rfl,SqL.of e12,fun _=> ?_⟩;refine for_list (K:=K) (a:=lf) (xs:=[.ref nn,.ref ra,.ref rc,.ref rf]) (fun i σ H'=>Same H12 H'/\∃o5 o6 o7,σ=[some (.ref tp),some (.ref wb),some (.ref ob),some (.ref sm),some (.ref nn),o5,o6,o7,none]) ⟨Same.refl _,_,_,_,rfl⟩ (fun i σ H' _ p=>SqL.of (p.1 _ _ e12)) (fun i x σ H13 hx p=> ?_) (fun σ H13 p=> ?_)
 ·obtain⟨J0,o5,o6,o7,rfl⟩:=p;obtain⟨pp,ys,rfl,hpp,hpl⟩:=(aad x (nP hx)).same J0;refine⟨_,rfl,_,rfl,_,rfl,6,.ref wb,.ref ob,.ref pp,some cp,"place",rfl,by decide,by decide,d6 (QJ.trans J0) hpp hpl,.inr (.inr ⟨rfl,rfl⟩),fun H14 Bv=>⟨rfl,_,rfl,?_⟩⟩;rw[pF];exact iteF ⟨J0.trans Bv,_,_,_,rfl⟩
 obtain⟨J0,o5,o6,o7,rfl⟩:=p;have KZ:=QJ.trans J0;have ZR:=Xp.same KZ;have ZQ:=KZ.tup VD;obtain⟨tt,rr,w1,w2,w3⟩:=id ZR.web
 -- a tie drawn to one place
 refine⟨_,rfl,wb,_,_,.ref tt,rfl,rfl,w1,rfl,tt,_,rfl,w2,fun _=> ?_⟩;refine for_tup (K:=K) (a:=tt) (xs:=rr) (fun i σ H'=>Same H13 H'/\∃o5 o6 o7 o8,σ=[some (.ref tp),some (.ref wb),some (.ref ob),some (.ref sm),some (.ref nn),o5,o6,o7,o8]) ⟨Same.refl _,_,_,_,_,rfl⟩ (fun i σ H' _ p=>p.1.tup w2) (fun i x σ H14 hx p=> ?_) (fun σ H14 p=> ?_)
 ·obtain⟨Bv,o5,o6,o7,o8,rfl⟩:=p;obtain⟨t,hi,rfl,ht0⟩:=nU w3 hx;obtain⟨q0,q1,q2⟩:=hW.pk.lt _ (Bm hi);have mem:=Bm hi;generalize ts[i]=pr at *;have ZP:=Bv.tup ZQ;refine⟨_,rfl,wb,_,_,.int n,rfl,rfl,Bv.tup w1,rfl,n,rfl,by omega,by omega,?_⟩;refine wO (n:=n.toNat) (fun k acc σ H'=>acc=(xs.take k).map V.int/\H'=H14/\∃o,σ=[o,some (.ref sm)]) ⟨rfl,rfl,_,rfl⟩ (fun k acc σ H' hk p=>by rw[p.1,aM,qU];omega) (by rw[cY];omega) (fun k acc σ H' hk p=> ?_) (fun acc σ H' p=> ?_)
  ·obtain⟨rfl,rfl,o,rfl⟩:=p;have hk2:k<xs.length:=by omega
   have eg:xs.getD (0+(k:Int)).toNat 0=xs[k]:=by rw[show(0+(k:Int)).toNat=k by omega,qG,jc hk2];rfl
   refine⟨_,rfl,_,rfl,sm,_,_,.int (xs.getD (0+(k:Int)).toNat 0),rfl,rfl,ZP,iW (by omega) (by omega),?_,rfl,_,rfl⟩;rw[eg,List.take_succ_eq_append_getElem hk2,cg];rfl
  intro l1 hl1;obtain⟨rfl,rfl,_⟩:=p;rw[Wv (by omega)];have t1:=aZ hl1 (.lst (xs.map V.int));have e1:(upd H' l1 (.lst (xs.map V.int))) l1=some (.lst (xs.map V.int)):=aG;generalize upd H' l1 (.lst (xs.map V.int))=G1 at *;have ht1:=(Bv.trans t1).tup ht0;refine⟨_,rfl,_,rfl,t,_,_,.int pr.2,rfl,rfl,ht1,rfl,l1,_,_,.int (xs.getD pr.2.toNat 0),rfl,rfl,SqL.of e1,iW (by omega) (by omega),?_⟩;have hj:ixN (xs.map V.int).length pr.1=some pr.1.toNat:=by
   unfold ixN;rw[aL q0,aL (by rw[aM];omega)]
  refine⟨_,rfl,_,rfl,t,_,_,.int pr.1,rfl,rfl,ht1,rfl,l1,_,pr.1,pr.1.toNat,rfl,rfl,e1,hj,?_⟩;rw[<-List.map_set];have t2:Same H' (upd G1 l1 (.lst ((xs.set pr.1.toNat (xs.getD pr.2.toNat 0)).map V.int))):=fun a o e=>by
   rw[cN (fun z=>by rw[z,hl1]at e;cases e)];exact t1 _ _ e
  have e2:(upd G1 l1 (.lst ((xs.set pr.1.toNat (xs.getD pr.2.toNat 0)).map V.int))) l1=some (.lst ((xs.set pr.1.toNat (xs.getD pr.2.toNat 0)).map V.int)):=aG;generalize upd G1 l1 (.lst ((xs.set pr.1.toNat (xs.getD pr.2.toNat 0)).map V.int))=G2 at *;have hno:aN n no ts aB (xs.set pr.1.toNat (xs.getD pr.2.toNat 0))=false:=by
   refine CN mem ?_;have i1:pr.1.toNat<xs.length:=by omega
   have i2:pr.2.toNat<xs.length:=by omega
   have g1:(xs.set pr.1.toNat (xs.getD pr.2.toNat 0)).getD pr.1.toNat 0=xs.getD pr.2.toNat 0:=by
    rw[qG,Wx i1];rfl
   have g2:(xs.set pr.1.toNat (xs.getD pr.2.toNat 0)).getD pr.2.toNat 0=xs.getD pr.2.toNat 0:=by
    rw[qG,Wt (by omega),<-qG]
   rw[g1,g2];exact vL hO.pk _
  refine⟨_,rfl,_,rfl,_,rfl,l1,_,rfl,.inl ⟨SqL.of e2,fun tq htq=> ?_⟩⟩;have t3:=aZ htq (.tup ((xs.set pr.1.toNat (xs.getD pr.2.toNat 0)).map V.int));have sx:=Bv.trans (t2.trans t3);refine⟨6,.ref wb,.ref ob,.ref tq,some cp,"place",rfl,by decide,by decide,d6 (KZ.trans sx) (SqT.of aG) hno,.inr (.inr ⟨rfl,rfl⟩),fun H16 Y7=>⟨rfl,_,rfl,?_⟩⟩;rw[pF];exact iteF ⟨sx.trans Y7,_,_,_,_,rfl⟩
 obtain⟨Bv,o5,o6,o7,o8,rfl⟩:=p;have Y6:=KZ.trans Bv;refine⟨7,rfl,by decide,by decide,?_⟩;refine wO (n:=7) (fun k acc σ H'=>acc=(List.replicate k true).map V.bl/\Same H4 H'/\∃o,σ=[o,some (.ref wb),some (.ref ob),some (.ref sm)]) ⟨rfl,Y6,_,rfl⟩ (fun k acc σ H' hk p=>by rw[p.1,aM,wfa];omega) (by rw[cY];decide) (fun k acc σ H15 hk p=> ?_) (fun acc σ H15 p=> ?_)
 ·obtain⟨rfl,Ej,o,rfl⟩:=p;refine⟨_,rfl,_,rfl,_,rfl,_,rfl,0+(k:Int),.ref wb,.ref ob,.ref sm,none,"",rfl,by omega,by omega,.inr ⟨wb,n,ts,rfl,Xp.same Ej,n6,.inr ⟨ob,no,aB,sm,xs,rfl,rfl,hO4.same Ej,no7,Ej.tup VD,.inl ⟨rN,rfl⟩⟩⟩,.inl ⟨rfl,rfl⟩,fun H16 Y7=>⟨rfl,?_,Ej.trans Y7,_,rfl⟩⟩;show _++[V.bl (decide (V.str ""=V.str ""))]=_;rw[dF rfl,List.replicate_succ',cg];rfl
 ·intro l2 hl2;obtain⟨rfl,Ej,_⟩:=p;have t2:=aZ hl2 (.lst ((List.replicate 7 true).map V.bl));refine⟨l2,_,rfl,SqL.of aG,?_⟩;exact q _ (WK.trans ((Ej.trans t2).x _)) (hC4.same (Ej.trans t2))
theorem Fi{H:Hp}{a p:Addr}{ns:List Int}(hS:mZ K H a ns)(h63:ns.length<=63)(hp:H p=none):jZ K (upd H p (.lst [.ref a,.int 0,.int 0])) p a ns:=
 ⟨⟨0,0,aG,JM _,JM _⟩,hS.same (aZ hp _),h63⟩
noncomputable def Za(K:W.Frag):List V->Hp->VK->Prop:=fun xs H Q=>∃p ys,xs=[.ref p]/\(SqL K H p ys\/SqT K H p ys)/\(ys.length<=16777216->Q (.int ys.length) H)
theorem Fg{H:Hp}{tp bA:Addr}{ns:List Int}{k:Int}{r:St}{Q:Bool->Hp->Prop}(tv:jZ K H tp bA ns)(hQ:∀b,Q b H):
  tAnd (tTest (tOp (rI0 fun i j=> .bl (decide (j<i))) (tVar 2) (tC (.int 1)))) (tTest (tOp (rI0 fun i j=> .bl (decide (j<=i))) (tOp (rIxL K) (tVar 1) (tC (.int 1))) (tCB (Za K) (tCons (tVar 0) tNil)))) (some (.ref bA)::some (.ref tp)::some (.int k)::r) H Q:=by
 obtain⟨⟨i,rr,hH,_,_⟩,hS,_⟩:=tv;refine⟨_,rfl,_,_,rfl,rfl,_,rfl,?_⟩;refine ite2 (fun c=> ?_) (fun c=>hQ _);exact⟨_,rfl,tp,_,_,.int i,rfl,rfl,SqL.of hH,rfl,_,rfl,bA,_,rfl,.inl hS.sq,fun _=>⟨_,_,rfl,rfl,_,rfl,hQ _⟩⟩
theorem Nk{H:Hp}{a p:Addr}{ns:List Int}(hS:mZ K H a ns)(h63:ns.length<=63)(hp:H p=none):cB K (upd H p (.lst [.ref a,.int 0,.int 0])) p a ns 0:=
 ⟨Fi hS h63 hp,0,0,aG,JM _⟩
theorem ok_law{f f1 f2 f3 f4:Addr}{fd d1 d2 d3 d4:ρ}(F:Fun K "law" "law" lW f fd)(D1:bF K mg "_law_e_web_of" XC ["cup","n"] f1 d1)(G1:FnOk P w K mg base CX0 3 f1 d1 ["cup","n"] (zV K))(D2:bF K mg "_law_e_dip" Td ["cup","many"] f2 d2)(G2:FnOk P w K mg base CX0 2 f2 d2 ["cup","many"] (uJ K))(D3:bF K mg "_law_e_planted" XH ["cup","other","n"] f3 d3)(G3:FnOk P w K mg base CX0 3 f3 d3 ["cup","other","n"] (rB K))(D4:bF K mg "_law_e_refused_right" X5 ["cup","web","other","some"] f4 d4)(G4:FnOk P w K mg base CX0 28 f4 d4 ["cup","web","other","some"] (rA K))(au:mg "range"=none)(aU:mg "len"=none):
  FnOk P w K mg base CX0 29 f fd ["script"] (spLaw K):=by
 refine F.cM ["script","cup","k","other","web","some"] fun cdv A outer s H vs Q E hr h=> ?_;obtain⟨a,ns,rfl,hS,h63,q⟩:=h;refine⟨_,(aR (pS 1 (nJ (aj (pv 0) (aj aK (aj aK ak))))) (aR (rR qL rfl (rY rfl au (aj aK ak)) (pG 2) (aR (eF (PW.pt (pw_and (dW op_gt (pv 2) aK) (pw_and1 (dW op_ge (bY uw (pv 1) aK) (pB nO aU (aj (pv 0) ak)))))) (aQ ps_break) iG) (aR (pS 3 (pc G1 hr D1 (aj (pv 1) (aj (bM mO aK (pc G2 hr D2 (aj (pv 1) (aj aK ak)))) ak)))) (aR (ps_asg (pc G3 hr D3 (aj (pv 1) (aj (pv 3) (aj (bM mO aK (pc G2 hr D2 (aj (pv 1) (aj aK ak)))) ak)))) (pg_tup rfl (nM (pG 4) (nM (pG 5) Ea)))) (aQ (eF (ur (rT (pc G4 hr D4 (aj (pv 1) (aj (pv 4) (aj (pv 3) (aj (pv 5) ak))))))) (aQ (bW pe_bl)) iG)))))) (aQ (bW pe_bl)))),?_⟩;refine⟨_,rfl,(by show 3<=sizeLine;decide),fun cp hcp=> ?_⟩;have c0:=Nk hS h63 hcp;dsimp only;refine⟨3,rfl,by decide,by decide,?_⟩;refine Kh (n:=3) (fun k σ H'=>cB K H' cp a ns (1000*(k:Int))/\∃b2 b3 b4 b5,σ=[some (.ref a),some (.ref cp),b2,b3,b4,b5]) ⟨c0.mono (by omega),_,_,_,_,rfl⟩ (fun k σ H' hk p=> ?_) (fun σ H' p=>q H');obtain⟨c,b2,b3,b4,b5,rfl⟩:=p;refine Fg (K:=K) (r:=[b3,b4,b5]) c.tv (fun b=> ?_);cases b with
 |true=>exact q H'
 |false=>
  refine⟨_,rfl,_,rfl,cp,a,ns,7,_,rfl,c,by omega,by decide,by decide,fun d H2 hd0 hd1 x2 c2=>⟨_,_,rfl,rfl,cp,a,ns,1+d,_,rfl,c2,by omega,by omega,by omega,fun ob aB H3 x3 c3 hO=> ?_⟩⟩;obtain⟨z3,Mx⟩:=c3.lst;refine⟨_,rfl,_,rfl,_,rfl,cp,a,ns,6,_,rfl,c3,by omega,by decide,by decide,fun e H4 he0 T9 x4 c4=>⟨_,_,rfl,rfl,cp,a,ob,ns,1+e,1+d,_,aB,rfl,c4,by omega,hO.cT x4 Mx,by omega,by omega,by omega,fun r wb sm ts xs H5 x5 c5 hr' hW hX hl hx hp=> ?_⟩⟩;obtain⟨z4,Zt⟩:=c4.lst;have hO5:=(hO.cT x4 Mx).cT x5 Zt;refine⟨r,_,rfl,hr',rfl,_,_,rfl,_,_,rfl,rfl,?_⟩;have rN:aN (1+e) (1+d) ts aB xs=true:=by
   unfold aN;rw[gU,gU];refine⟨dF hl,iR.mpr fun y hy=> ?_,iR.mpr fun p' hp'=>hp p' hp'⟩;have:=hx y hy;rw[dF this.1,dF this.2];rfl
  refine⟨_,rfl,_,rfl,_,rfl,_,rfl,cp,a,ns,wb,ob,sm,_,1+e,1+d,ts,aB,xs,rfl,c5,by omega,hW,by omega,by omega,hO5,by omega,hX,rN,fun H6 x6 c6=>⟨_,rfl,iteF ?_⟩⟩;exact⟨c6.mono (by omega),_,_,_,_,rfl⟩
end
end Hs
namespace L2
open PySem
section
variable{K:W.Frag}{x y:Str}{st:Stmt}{f C:Addr}{fd:ρ}{oc:ζ}{od an:Option Addr}{osl:Array (Option ζ)}{kV doc pm cdv ct:ζ}{mg:L5}{h:Heap}
noncomputable def DA(K:W.Frag)(x:Str)(st:Stmt)(f:Addr):Prop:=∃fd,Fun K x x st f fd/\PySem.W.nsIn K mainGlobals x=some (some (.ref f))
theorem DA.of(a:PySem.W.nsIn K mainGlobals x=some (some (.ref f)):=by k_is)(l:K.lookup f=some ⟨oc,od,.func (PySem.W.fnOf x x (defArgs st) (defBody st) (defScope st) .none kV doc pm an cdv ct),osl⟩:=by k_is)(c:PySem.W.codeIn K cdv x=true:=by k_is)(k:PySem.W.keepIn K (.ref f)=true:=by k_is):DA K x st f:=⟨_,fun_mk l c k,a⟩
noncomputable def MA(K:W.Frag)(C:Addr)(x y:Str)(st:Stmt)(f:Addr):Prop:=∃fd,Fun K x y st f fd/\PySem.W.findIn K (.ref C) x=some (some (.ref f))/\PySem.W.isFn K (.ref f)=true/\PySem.W.keepIn K (.ref f)=true
theorem MA.of(a:PySem.W.findIn K (.ref C) x=some (some (.ref f)):=by k_is)(l:K.lookup f=some ⟨oc,od,.func (PySem.W.fnOf x y (defArgs st) (defBody st) (defScope st) .none kV doc pm an cdv ct),osl⟩:=by k_is)(c:PySem.W.codeIn K cdv y=true:=by k_is)(k:PySem.W.keepIn K (.ref f)=true:=by k_is)(i:PySem.W.isFn K (.ref f)=true:=by k_is):MA K C x y st f:=⟨_,fun_mk l c k,a,i,k⟩
theorem DA.d{ps:List Str}(X:K.In h)(G:h.Ns mainGlobals mg)(F:Fun K x x st f fd)(a:PySem.W.nsIn K mainGlobals x=some (some (.ref f)))(b:∀(kV doc pm:ζ) (an:Option Addr) (cdv ct:ζ) (us:List ζ),us.length=ps.length->bindArgs (PySem.W.fnOf x x (defArgs st) (defBody st) (defScope st) .none kV doc pm an cdv ct) ⟨us,[]⟩=pure (ps.zip us)):bF K mg x st ps f fd:=⟨F,F.binds b,PySem.W.mg_of X G a⟩
theorem MA.d{ps:List Str}(F:Fun K x y st f fd)(a:PySem.W.findIn K (.ref C) x=some (some (.ref f))/\PySem.W.isFn K (.ref f)=true/\PySem.W.keepIn K (.ref f)=true)(b:∀(kV doc pm:ζ) (an:Option Addr) (cdv ct:ζ) (us:List ζ),us.length=ps.length->bindArgs (PySem.W.fnOf x y (defArgs st) (defBody st) (defScope st) .none kV doc pm an cdv ct) ⟨us,[]⟩=pure (ps.zip us)):DK K C x y st ps f fd:=⟨F,F.binds b,⟨a.1,a.2.1,a.2.2⟩⟩
theorem uq{p1:Str}{P:List ζ->Prop}(h:∀a,P [a])(us:List ζ)(hl:us.length=[p1].length):P us:=by
 match us,hl with
 |[a],_=>exact h a
theorem qj{p1 p2:Str}{P:List ζ->Prop}(h:∀a b,P [a,b])(us:List ζ)(hl:us.length=[p1,p2].length):P us:=by
 match us,hl with
 |[a,b],_=>exact h a b
theorem Np{p1 p2 p3:Str}{P:List ζ->Prop}(h:∀a b c,P [a,b,c])(us:List ζ)(hl:us.length=[p1,p2,p3].length):P us:=by
 match us,hl with
 |[a,b,c],_=>exact h a b c
theorem V7{p1 p2 p3 p4:Str}{P:List ζ->Prop}(h:∀a b c d,P [a,b,c,d])(us:List ζ)(hl:us.length=[p1,p2,p3,p4].length):P us:=by
 match us,hl with
 |[a,b,c,d],_=>exact h a b c d
end
end L2
namespace Hs
open PySem L2 kj
theorem all_mk{l:W.OpenLaw}{w:τ}{K:W.Frag}{h:Heap}{mg:L5}{fa:Addr}(X:K.In h)(G:h.Ns mainGlobals mg)(hfa:mg "law"=some (.ref fa))
  {f0 f1 f2 f3 f4 f5 f6 f7 f8 f9 f10 f11 f12 f13 f14 f15 f16 f17 f18 f19 f20 f21 f22 f23 f24 f25 f26 f27 f28 f29 f30 f31 f32 f33 f34 f35 f36 f37 f38 f39 f40 f41 f42 f43 f44 f45 f46 f47 f48 f49 mf0 mf1 mf2 mf3 mf4:Addr}{Z1:Addr}{Zf V9:Option Addr}{Y5:Array (Option ζ)}{Zg Vv V4 Vh Sy V6:ζ}{tk0:Tok}{tk1:Tok}{aP:Addr}{qe:Addr}{ju:Addr}{aH:Addr}{tR:Addr}{qd:Addr}{tQ:Addr}{lF:Addr}{bf:Addr}{lE:Addr}{jw:Addr}{Jt:ClassData}{yS:ClassData}(a0:DA K "is_whole" fX f0)(a1:DA K "is_place" fY f1)(a2:DA K "are_places" Wg f2)(a3:DA K "is_rising" dI f3)(a4:DA K "is_set" jJ f4)(a5:DA K "are_ties" jk f5)(a6:DA K "is_web" jH f6)(a7:DA K "need_web" wL f7)(a8:DA K "need_place" fO f8)(a9:DA K "need_set" ji f9)(a10:DA K "pairs" sH f10)(a11:DA K "without" kW f11)(a12:DA K "has_tie" P0 f12)(a13:DA K "neighbours" fM f13)(a14:DA K "greatest_divisor" Wn f14)(a15:DA K "lowest" jG f15)(a16:DA K "sum_of" oY f16)(a17:DA K "are_left_open" Uq f17)(a18:DA K "count_images" Uo f18)(a19:DA K "way_into" fK f19)(a20:DA K "is_way" eV f20)(a21:DA K "pulled" jF f21)(a22:DA K "places_by_tie" XJ f22)(a23:DA K "in_both" kY f23)(a24:DA K "full_sets" gY f24)(a25:DA K "full_apart" fZ f25)(a26:DA K "first_greatest" XM f26)(a27:DA K "greatest_apart" Wk f27)(a28:DA K "cut_down" jj f28)(a29:DA K "greatest_apart_in" X3 f29)(a30:DA K "sets_one_by_one" XS f30)(a31:DA K "prices_by_sets" XR f31)(a32:DA K "greedy" jK f32)(a33:DA K "count_ties_at" XD f33)(a34:DA K "can_go_on" Ul f34)(a35:DA K "turnings_from" N7 f35)(a36:DA K "turnings" fL f36)(a37:DA K "leads_first_to" XQ f37)(a38:DA K "is_alike" S9 f38)(a39:DA K "alike_value" Wi f39)(a40:DA K "_law_e_stir" fU f40)(a41:DA K "_law_e_dip" Td f41)(a42:DA K "_law_e_web_of" XC f42)(a43:DA K "_law_e_tied" fQ f43)(a44:DA K "_law_e_kind" fV f44)(a45:DA K "_law_e_planted" XH f45)(a46:DA K "_law_e_door" fW f46)(a47:DA K "_law_e_word" Wh f47)(a48:DA K "_law_e_no_webs" XF f48)(a49:DA K "_law_e_refused_right" X5 f49)(a50:W.nsIn K mainGlobals "law"=some (some (.ref Z1)))(l50:K.lookup Z1=some ⟨Zg,Zf,.func (W.fnOf "law" "law" (defArgs lW) (defBody lW) (defScope lW) .none Vv V4 Vh V9 Sy V6),Y5⟩)(c50:W.codeIn K Sy "law"=true)(k50:W.keepIn K (.ref Z1)=true)(x0:W.nsIn K mainGlobals "MOST_PLACES"=some (some (.int 10 tk0)))(x1:W.nsIn K mainGlobals "MOST_TURNINGS"=some (some (.int 720 tk1)))(z0:W.nsIn K mainGlobals "ValueError"=some none)(z1:W.nsIn K mainGlobals "abs"=some none)(z2:W.nsIn K mainGlobals "all"=some none)(z3:W.nsIn K mainGlobals "bool"=some none)(z4:W.nsIn K mainGlobals "enumerate"=some none)(z5:W.nsIn K mainGlobals "int"=some none)(z6:W.nsIn K mainGlobals "isinstance"=some none)(z7:W.nsIn K mainGlobals "len"=some none)(z8:W.nsIn K mainGlobals "list"=some none)(z9:W.nsIn K mainGlobals "max"=some none)(z10:W.nsIn K mainGlobals "min"=some none)(z11:W.nsIn K mainGlobals "range"=some none)(z12:W.nsIn K mainGlobals "sorted"=some none)(z13:W.nsIn K mainGlobals "tuple"=some none)(y0:W.nsIn K mainGlobals "Search"=some (some (.ref aP)))(y1:W.nsIn K mainGlobals "NoFold"=some (some (.ref qe)))(y2:W.nsIn K mainGlobals "NoNumber"=some (some (.ref ju)))(y3:W.nsIn K mainGlobals "NoPlace"=some (some (.ref aH)))(y4:W.nsIn K mainGlobals "NoRow"=some (some (.ref tR)))(y5:W.nsIn K mainGlobals "NoText"=some (some (.ref qd)))(y6:W.nsIn K mainGlobals "NoTie"=some (some (.ref tQ)))(y7:W.nsIn K mainGlobals "NoWants"=some (some (.ref lF)))(y8:W.nsIn K mainGlobals "NoWeb"=some (some (.ref bf)))(y9:W.nsIn K mainGlobals "TooMany"=some (some (.ref lE)))(y10:W.nsIn K mainGlobals "HueError"=some (some (.ref jw)))(Vq:MA K aP "__init__" "Search.__init__" dZ mf0)(Zn:MA K aP "images_left" "Search.images_left" X4 mf1)(Zm:MA K aP "state_behind" "Search.state_behind" Ur mf2)(Zk:MA K aP "lead_first" "Search.lead_first" Qa mf3)(Zj:MA K aP "lead" "Search.lead" N6 mf4)(Dv:W.plainGet K aP Str.empty=true)(Du:W.hasDictIn K aP=true)(Dt:W.plainOver K aP=true)(Ds:W.findIn K (.ref aP) "__setattr__"=some (some (.builtin "object.__setattr__")))(Dr:W.makesIn K aP=true)(Dq:W.keepIn K (.ref aP)=true)(qg:W.findIn K (.ref aP) "near"=some none)(qQ:W.findIn K (.ref aP) "far"=some none)(gO:W.findIn K (.ref aP) "led_nowhere"=some none)(O5:W.specialIn K (.builtin "object.__class__") "__get__"=some (some (.builtin "getset_descriptor.__get__")))(Vg:W.takesIn K (.builtin "object.__class__")=some true)(Mw:W.excIn K bf [.type "ValueError",.type "Exception",.type "BaseException",.type "object"] "ValueError.__new__"=true)(KY:W.clsIn K bf=some Jt)(Iz:W.findIn K (.ref bf) "__getattribute__"=some (some (.builtin "BaseException.__getattribute__")))(Iu:W.findIn K (.ref bf) "__getattr__"=some none)(Iw:W.findIn K (.ref bf) "__class__"=some (some (.builtin "object.__class__")))(Hv:W.mroIn K bf (.type "object")=some true)(Hy:W.mroIn K bf (.type "BaseException")=some true)(Ks:W.kitOne K (.ref bf) (.type "ValueError")=some true)(Ij:W.kitOne K (.ref bf) (.ref qe)=some false)(Ii:W.kitOne K (.ref bf) (.ref ju)=some false)(Ih:W.kitOne K (.ref bf) (.ref aH)=some false)(Ig:W.kitOne K (.ref bf) (.ref tR)=some false)(Ie:W.kitOne K (.ref bf) (.ref qd)=some false)(Ib:W.kitOne K (.ref bf) (.ref tQ)=some false)(Ia:W.kitOne K (.ref bf) (.ref lF)=some false)(HY:W.kitOne K (.ref bf) (.ref bf)=some true)(HX:W.kitOne K (.ref bf) (.ref lE)=some false)(MF:W.exmOne K (.ref bf) (.ref jw)=some true)(CT:W.excIn K aH [.type "ValueError",.type "Exception",.type "BaseException",.type "object"] "ValueError.__new__"=true)(Bu:W.clsIn K aH=some yS)(yJ:W.findIn K (.ref aH) "__getattribute__"=some (some (.builtin "BaseException.__getattribute__")))(yH:W.findIn K (.ref aH) "__getattr__"=some none)(yI:W.findIn K (.ref aH) "__class__"=some (some (.builtin "object.__class__")))(xY:W.mroIn K aH (.type "object")=some true)(yc:W.mroIn K aH (.type "BaseException")=some true)(Bp:W.kitOne K (.ref aH) (.type "ValueError")=some true)(yF:W.kitOne K (.ref aH) (.ref qe)=some false)(yE:W.kitOne K (.ref aH) (.ref ju)=some false)(yD:W.kitOne K (.ref aH) (.ref aH)=some true)(yC:W.kitOne K (.ref aH) (.ref tR)=some false)(yx:W.kitOne K (.ref aH) (.ref qd)=some false)(yw:W.kitOne K (.ref aH) (.ref tQ)=some false)(yu:W.kitOne K (.ref aH) (.ref lF)=some false)(yt:W.kitOne K (.ref aH) (.ref bf)=some false)(yq:W.kitOne K (.ref aH) (.ref lE)=some false)(CV:W.exmOne K (.ref aH) (.ref jw)=some true):
  ∃fd:ρ,(∀(s:η) (v:ζ),BindsTo s fd ⟨[v],[]⟩ [("script",v)])/\∀base:Heap,K.In base->base.Ns mainGlobals mg->FnOk l.prog w K mg base CX0 29 fa fd ["script"] (spLaw K):=by
 have e:=hfa.symm.trans (zJ X G a50);cases e;obtain⟨d0,F0,a0⟩:=a0;have qw:=DA.d (ps:=["thing"]) X G F0 a0 (fun _ _ _ _ _ _=>uq fun _=>rfl);obtain⟨d1,F1,a1⟩:=a1;have qy:=DA.d (ps:=["n","thing"]) X G F1 a1 (fun _ _ _ _ _ _=>qj fun _ _=>rfl);obtain⟨d2,F2,a2⟩:=a2;have j9:=DA.d (ps:=["n","things"]) X G F2 a2 (fun _ _ _ _ _ _=>qj fun _ _=>rfl);obtain⟨d3,F3,a3⟩:=a3;have mJ:=DA.d (ps:=["things"]) X G F3 a3 (fun _ _ _ _ _ _=>uq fun _=>rfl);obtain⟨d4,F4,a4⟩:=a4;have wH:=DA.d (ps:=["n","thing"]) X G F4 a4 (fun _ _ _ _ _ _=>qj fun _ _=>rfl);obtain⟨d5,F5,a5⟩:=a5;have zA:=DA.d (ps:=["n","thing"]) X G F5 a5 (fun _ _ _ _ _ _=>qj fun _ _=>rfl);obtain⟨d6,F6,a6⟩:=a6;have wG:=DA.d (ps:=["thing"]) X G F6 a6 (fun _ _ _ _ _ _=>uq fun _=>rfl);obtain⟨d7,F7,a7⟩:=a7;have aY:=DA.d (ps:=["thing"]) X G F7 a7 (fun _ _ _ _ _ _=>uq fun _=>rfl);obtain⟨d8,F8,a8⟩:=a8;have tX:=DA.d (ps:=["web","thing"]) X G F8 a8 (fun _ _ _ _ _ _=>qj fun _ _=>rfl);obtain⟨d9,F9,a9⟩:=a9;have zx:=DA.d (ps:=["web","thing"]) X G F9 a9 (fun _ _ _ _ _ _=>qj fun _ _=>rfl);obtain⟨d10,F10,a10⟩:=a10;have NP:=DA.d (ps:=["n"]) X G F10 a10 (fun _ _ _ _ _ _=>uq fun _=>rfl);obtain⟨d11,F11,a11⟩:=a11;have DQ:=DA.d (ps:=["some","part"]) X G F11 a11 (fun _ _ _ _ _ _=>qj fun _ _=>rfl);obtain⟨d12,F12,a12⟩:=a12;have fB:=DA.d (ps:=["web","one","other"]) X G F12 a12 (fun _ _ _ _ _ _=>Np fun _ _ _=>rfl);obtain⟨d13,F13,a13⟩:=a13;have tW:=DA.d (ps:=["web","place"]) X G F13 a13 (fun _ _ _ _ _ _=>qj fun _ _=>rfl);obtain⟨d14,F14,a14⟩:=a14;have dB:=DA.d (ps:=["one","other"]) X G F14 a14 (fun _ _ _ _ _ _=>qj fun _ _=>rfl);obtain⟨d15,F15,a15⟩:=a15;have wF:=DA.d (ps:=["a","b"]) X G F15 a15 (fun _ _ _ _ _ _=>qj fun _ _=>rfl);obtain⟨d16,F16,a16⟩:=a16;have JF:=DA.d (ps:=["fractions"]) X G F16 a16 (fun _ _ _ _ _ _=>uq fun _=>rfl);obtain⟨d17,F17,a17⟩:=a17;have nH:=DA.d (ps:=["state"]) X G F17 a17 (fun _ _ _ _ _ _=>uq fun _=>rfl);obtain⟨d18,F18,a18⟩:=a18;have qz:=DA.d (ps:=["open_place"]) X G F18 a18 (fun _ _ _ _ _ _=>uq fun _=>rfl);obtain⟨d19,F19,a19⟩:=a19;have zq:=DA.d (ps:=["web","other"]) X G F19 a19 (fun _ _ _ _ _ _=>qj fun _ _=>rfl);obtain⟨d20,F20,a20⟩:=a20;have qx:=DA.d (ps:=["web","other","some"]) X G F20 a20 (fun _ _ _ _ _ _=>Np fun _ _ _=>rfl);obtain⟨d21,F21,a21⟩:=a21;have JG:=DA.d (ps:=["web","other","some","laying"]) X G F21 a21 (fun _ _ _ _ _ _=>V7 fun _ _ _ _=>rfl);obtain⟨d22,F22,a22⟩:=a22;have nu:=DA.d (ps:=["web","place","tied"]) X G F22 a22 (fun _ _ _ _ _ _=>Np fun _ _ _=>rfl);obtain⟨d23,F23,a23⟩:=a23;have DR:=DA.d (ps:=["ones","others"]) X G F23 a23 (fun _ _ _ _ _ _=>qj fun _ _=>rfl);obtain⟨d24,F24,a24⟩:=a24;have wI:=DA.d (ps:=["friends"]) X G F24 a24 (fun _ _ _ _ _ _=>uq fun _=>rfl);obtain⟨d25,F25,a25⟩:=a25;have ug:=DA.d (ps:=["web"]) X G F25 a25 (fun _ _ _ _ _ _=>uq fun _=>rfl);obtain⟨d26,F26,a26⟩:=a26;have lN:=DA.d (ps:=["sets"]) X G F26 a26 (fun _ _ _ _ _ _=>uq fun _=>rfl);obtain⟨d27,F27,a27⟩:=a27;have fD:=DA.d (ps:=["web"]) X G F27 a27 (fun _ _ _ _ _ _=>uq fun _=>rfl);obtain⟨d28,F28,a28⟩:=a28;have zy:=DA.d (ps:=["web","some"]) X G F28 a28 (fun _ _ _ _ _ _=>qj fun _ _=>rfl);obtain⟨d29,F29,a29⟩:=a29;have iK:=DA.d (ps:=["web","left"]) X G F29 a29 (fun _ _ _ _ _ _=>qj fun _ _=>rfl);obtain⟨d30,F30,a30⟩:=a30;have j8:=DA.d (ps:=["web"]) X G F30 a30 (fun _ _ _ _ _ _=>uq fun _=>rfl);obtain⟨d31,F31,a31⟩:=a31;have lK:=DA.d (ps:=["sets","n"]) X G F31 a31 (fun _ _ _ _ _ _=>qj fun _ _=>rfl);obtain⟨d32,F32,a32⟩:=a32;have JH:=DA.d (ps:=["web"]) X G F32 a32 (fun _ _ _ _ _ _=>uq fun _=>rfl);obtain⟨d33,F33,a33⟩:=a33;have nG:=DA.d (ps:=["web","place"]) X G F33 a33 (fun _ _ _ _ _ _=>qj fun _ _=>rfl);obtain⟨d34,F34,a34⟩:=a34;have mK:=DA.d (ps:=["web","begun","image"]) X G F34 a34 (fun _ _ _ _ _ _=>Np fun _ _ _=>rfl);obtain⟨d35,F35,a35⟩:=a35;have cR:=DA.d (ps:=["web","begun","most"]) X G F35 a35 (fun _ _ _ _ _ _=>Np fun _ _ _=>rfl);obtain⟨d36,F36,a36⟩:=a36;have zu:=DA.d (ps:=["web"]) X G F36 a36 (fun _ _ _ _ _ _=>uq fun _=>rfl);obtain⟨d37,F37,a37⟩:=a37;have lM:=DA.d (ps:=["web","place"]) X G F37 a37 (fun _ _ _ _ _ _=>qj fun _ _=>rfl);obtain⟨d38,F38,a38⟩:=a38;have jz:=DA.d (ps:=["web"]) X G F38 a38 (fun _ _ _ _ _ _=>uq fun _=>rfl);obtain⟨d39,F39,a39⟩:=a39;have qR:=DA.d (ps:=["web"]) X G F39 a39 (fun _ _ _ _ _ _=>uq fun _=>rfl);obtain⟨d40,F40,a40⟩:=a40;have uc:=DA.d (ps:=["cell","at"]) X G F40 a40 (fun _ _ _ _ _ _=>qj fun _ _=>rfl);obtain⟨d41,F41,a41⟩:=a41;have dU:=DA.d (ps:=["cup","many"]) X G F41 a41 (fun _ _ _ _ _ _=>qj fun _ _=>rfl);obtain⟨d42,F42,a42⟩:=a42;have qu:=DA.d (ps:=["cup","n"]) X G F42 a42 (fun _ _ _ _ _ _=>qj fun _ _=>rfl);obtain⟨d43,F43,a43⟩:=a43;have tZ:=DA.d (ps:=["web","one","other"]) X G F43 a43 (fun _ _ _ _ _ _=>Np fun _ _ _=>rfl);obtain⟨d44,F44,a44⟩:=a44;have ud:=DA.d (ps:=["caught"]) X G F44 a44 (fun _ _ _ _ _ _=>uq fun _=>rfl);obtain⟨d45,F45,a45⟩:=a45;have nA:=DA.d (ps:=["cup","other","n"]) X G F45 a45 (fun _ _ _ _ _ _=>Np fun _ _ _=>rfl);obtain⟨d46,F46,a46⟩:=a46;have uf:=DA.d (ps:=["sort","web","other","some"]) X G F46 a46 (fun _ _ _ _ _ _=>V7 fun _ _ _ _=>rfl);obtain⟨d47,F47,a47⟩:=a47;have tY:=DA.d (ps:=["sort","web","other","some"]) X G F47 a47 (fun _ _ _ _ _ _=>V7 fun _ _ _ _=>rfl);obtain⟨d48,F48,a48⟩:=a48;have nF:=DA.d (ps:=["cup","web"]) X G F48 a48 (fun _ _ _ _ _ _=>qj fun _ _=>rfl);obtain⟨d49,F49,a49⟩:=a49;have gP:=DA.d (ps:=["cup","web","other","some"]) X G F49 a49 (fun _ _ _ _ _ _=>V7 fun _ _ _ _=>rfl);have F50:=fun_mk (st:=lW) l50 c50 k50;have qN:=zJ X G x0;have mX:=zJ X G x1;have sX:=zK X G z0;have Vo:=zK X G z1;have mq:=zK X G z2;have Rv:=zK X G z3;have Pa:=zK X G z4;have Vn:=zK X G z5;have bR:=zK X G z6;have cG:=zK X G z7;have Hr:=zK X G z8;have Al:=zK X G z9;have Hq:=zK X G z10;have bJ:=zK X G z11;have pJ:=zK X G z12;have bL:=zK X G z13;have pL:=zJ X G y0;have HB:=zJ X G y1;have yg:=zJ X G y2;have rJ:=zJ X G y3;have Ma:=zJ X G y4;have Hz:=zJ X G y5;have LR:=zJ X G y6;have CG:=zJ X G y7;have Ao:=zJ X G y8;have Cz:=zJ X G y9;have jo:=zJ X G y10;obtain⟨md0,FM0,Vq⟩:=Vq;have kh:=MA.d (ps:=["self","web","other"]) FM0 Vq (fun _ _ _ _ _ _=>Np fun _ _ _=>rfl);obtain⟨md1,FM1,Zn⟩:=Zn;have iu:=MA.d (ps:=["self","images","image"]) FM1 Zn (fun _ _ _ _ _ _=>Np fun _ _ _=>rfl);obtain⟨md2,FM2,Zm⟩:=Zm;have gQ:=MA.d (ps:=["self","state","led","image"]) FM2 Zm (fun _ _ _ _ _ _=>V7 fun _ _ _ _=>rfl);obtain⟨md3,FM3,Zk⟩:=Zk;have iM:=MA.d (ps:=["self","state"]) FM3 Zk (fun _ _ _ _ _ _=>qj fun _ _=>rfl);obtain⟨md4,FM4,Zj⟩:=Zj;have iY:=MA.d (ps:=["self","state"]) FM4 Zj (fun _ _ _ _ _ _=>qj fun _ _=>rfl);have fj:Cls K aP:=⟨Dv,Du,Dt,Ds⟩;have jP:NoAttr K aP "near":=qg;have pH:NoAttr K aP "far":=qQ;have bQ:NoAttr K aP "led_nowhere":=gO;have mk_Search:Mk K aP mf0:=⟨Dr,Vq.1,Vq.2.1,Dq⟩;refine⟨W.fnOf "law" "law" (defArgs lW) (defBody lW) (defScope lW) .none Vv V4 Vh V9 Sy V6,fun s v=> .of_eq rfl,fun base _ _=> ?_⟩;have Aw:=GJ (P:=l.prog) (w:=w) (base:=base) F0 bR Vn Rv;have Ay:=GX (P:=l.prog) (w:=w) (base:=base) F1 qw Aw;have vP:=Cj (P:=l.prog) (w:=w) (base:=base) F2 qy Ay mq;have vO:=Cg (P:=l.prog) (w:=w) (mg:=mg) (base:=base) F3 mq bJ cG;have Pn:=Rf (P:=l.prog) (w:=w) (base:=base) F4 j9 vP mJ vO bR bL;have RP:=Le (P:=l.prog) (w:=w) (base:=base) F5 wH Pn mJ vO bR bL mq cG;have Pk:=Ra (P:=l.prog) (w:=w) (base:=base) F6 qw Aw zA RP bR bL cG qN;have bU:=xT (P:=l.prog) (w:=w) (base:=base) F7 wG Pk;have vR:=Rk (P:=l.prog) (w:=w) (mg:=mg) (base:=base) F12 Hq Al;have M6:=G9 (P:=l.prog) (w:=w) (mg:=mg) (base:=base) F40;have Az:=Rn F41 uc M6 cG;have M5:=G8 (P:=l.prog) (w:=w) (mg:=mg) (base:=base) F43 Hq Al;have MK:=GK F42 dU Az bJ bL;have Df:=xU (P:=l.prog) (w:=w) (base:=base) F9 wH Pn;have R4:=Lr (P:=l.prog) (w:=w) (base:=base) F10 bJ;have M7:=Hg F22 fB vR bJ;have I9:=Cm (P:=l.prog) (w:=w) (mg:=mg) (base:=base) F23;have yK:=u6 F24 DR I9 Hr bJ cG pJ;have vV:=sU F25 aY bU wI yK nu M7 bJ;have Jb:=Cr (P:=l.prog) (w:=w) (mg:=mg) (base:=base) F26 Al cG;have vU:=Cq F27 lN Jb ug vV;have VR:=Ro (P:=l.prog) (w:=w) (base:=base) F28 aY bU zx Df NP R4 fB vR bL cG;have CW:=xO (P:=l.prog) (w:=w) (mg:=mg) (base:=base) F11 bL;have VP:=Vj (P:=l.prog) (w:=w) (mg:=mg) (base:=base) F14;have Pq:=Ri (P:=l.prog) (w:=w) (base:=base) F15 dB VP Vo;have MP:=GQ F16 dB VP;have VN:=Rm F29 fD vU zy VR bL;have VJ:=Rh F30 iK VN DQ CW bL bJ;have IV:=Ci F31 JF MP wF Pq cG bJ;have Ja:=Cp F32 aY bU j8 VJ lK IV;have vQ:=sS (P:=l.prog) (w:=w) (base:=base) F8 qy Ay;have M4:=GZ (P:=l.prog) (w:=w) (base:=base) F13 aY bU tX vQ fB vR bL bJ;have IK:=Rb F20 aY bU j9 vP fB vR cG bR bL mq;have Dd:=xR F45 dU Az tZ M5 bL bJ;have V1:=Rq (P:=l.prog) (w:=w) (mg:=mg) (base:=base) F17 mq cG;have V0:=Rp (P:=l.prog) (w:=w) (mg:=mg) (base:=base) F18 cG;have RT:=Lg (P:=l.prog) (w:=w) (mg:=mg) (base:=base) FM1 fj jP pH bQ bL;have RV:=Lh FM2 fj jP pH bQ iu RT bL;have RQ:=Lf FM0 fj jP pH bQ tW M4 bJ;have VH:=Rj FM4 FM3 fj jP pH bQ iY iM nH V1 gQ RV qz V0 Hq;have CZ:=xP F19 fj jP pH bQ pL aY bU kh mk_Search RQ iY VH bL bJ pJ;have R3:=Lq (P:=l.prog) (w:=w) (mg:=mg) (base:=base) F33 cG;have VL:=Vi F34 nG R3 fB vR cG mq bJ;have Ax:=uZ (P:=l.prog) (w:=w) (mg:=mg) (base:=base) F35 mK VL cR cG bJ;have MN:=Ce F36 aY bU cR Ax cG mX;have RZ:=Ln (P:=l.prog) (w:=w) (mg:=mg) (base:=base) F44 bR sX HB yg rJ Ma Hz LR CG Ao Cz;have RX:=Lk F37 cR Ax mK VL cG;have Ba:=Hh F38 aY bU lM RX mq bJ;have Jc:=Cu F39 jz Ba wF Pq fD vU Al cG;have Bo:=u5 F7 wG Pk wdp Ao Mw;have n1:=bU.up.or Bo;have Es:=xV (P:=l.prog) (w:=w) (mg:=mg) (base:=base) F32 aY n1;have Km:=Cd (P:=l.prog) (w:=w) (mg:=mg) (base:=base) F36 aY n1;have zH:=Cv (P:=l.prog) (w:=w) (mg:=mg) (base:=base) F38 aY n1;have Et:=xW F39 jz zH;have Qo:=uY (P:=l.prog) (w:=w) (mg:=mg) (base:=base) F19 aY n1;have Oh:=Ld (P:=l.prog) (w:=w) (mg:=mg) (base:=base) F20 aY n1;have UL:=Li F21 qx (IK.up.or Oh) wdp rJ CT;have RW:=Lj F21 qx IK pJ;have Hi:=sO Ja (Es.mono (by decide)) (by decide) (fun a n ts H Q E hW _ k=>⟨a,n,ts,rfl,hW,fun r l1 l2 H' s _ _ _ _ _ _=>k _ H' s⟩);have Ls:=sO MN (Km.mono (by decide)) (by decide) (fun a n ts H Q E hW h6 k=>⟨a,n,ts,rfl,hW,compl_720 ts (by omega),fun r its H' s _ _ _=>k _ H' s⟩);have Lw:=sO Ba (zH.mono (by decide)) (by decide) (fun a n ts H Q E hW _ k=>⟨a,n,ts,rfl,hW,fun H' s=>k _ H' s⟩);have Hj:=sO Jc Et (by decide) (fun a n ts H Q E hW _ k=>⟨a,n,ts,rfl,hW,fun _ H' s=>k _ H' s,fun _ p H' u v _ s _ _ _=>k _ H' s⟩);have Rr:=Mt CZ Qo;have Vk:=Qx IK Oh;have Vl:=Q5 RW UL;have R0:=Lp F46 JH Hi zu Ls jz Lw qR Hj zq Rr qx Vk JG Vl;have RN:=Lb F47 uf R0 ud RZ jo MF CV ⟨_,7,(vB ⟨⟨_,KY⟩,Iz,Iu,Iw,O5,Vg,Hv,Hy⟩ Ks Ij Ii Ih Ig Ie Ib Ia HY HX),rfl,rfl,(by decide),rfl⟩ ⟨_,2,(vB ⟨⟨_,Bu⟩,yJ,yH,yI,O5,Vg,xY,yc⟩ Bp yF yE yD yC yx yw yu yt yq),rfl,rfl,(by decide),rfl⟩;have IW:=Ck F48 dU Az cG Hr;have Dc:=xQ F49 nF IW tY RN bJ bL mq;exact ok_law F50 qu MK dU Az nA Dd gP Dc bJ cG
theorem walk{l:PySem.W.OpenLaw}{q:ξ}{loose:List Str}{XP:(L5)->Heap->Prop}{YP:τ->Heap->Prop}{d:DefRec}{K:Params->PySem.W.Frag}(hn:l.most=some 63)(hdf:d.params.defaults=[])(hY:∀(w:τ) (h:Heap),YP w h->(K w.params).In h)
  (F:∀(w:τ) (mg:L5) (fa:Addr) (h:Heap),(K w.params).In h->h.Ns mainGlobals mg->mg d.name=some (.ref fa)->
   ∃fd:ρ,(∀(s:η) (u:ζ),BindsTo s fd ⟨[u],[]⟩ [("script",u)])/\∀base:Heap,(K w.params).In base->base.Ns mainGlobals mg->FnOk l.prog w (K w.params) mg base CX0 29 fa fd ["script"] (spLaw (K w.params))):
  PySem.W.WalkO q loose XP YP l.row.toRowW d [] (fun f vs=>PySem.call f vs):=
 L2.walk_of (n:=63) (k:=29) (x:="script") (CX:=fun _=>CX0) (sp:=fun w=>spLaw (K w.params)) hn (by decide) hdf ⟨rfl,by decide,by decide,rfl⟩ hY F (fun _ _ a ns hl hO hS=>FW hl hO hS) fun _ _ _ _ _ z=>z
end Hs
open PySem PySem.W PyProof.Rows
set_option maxRecDepth 100000 in
set_option maxHeartbeats 0 in
theorem PySem.Challenge.cw_hueshare_k42_ways_and_greedy_refused_holds : PySem.Challenge.rw_hueshare_k42_ways_and_greedy_refused.Holds := by
 refine Hd.early.2 ?_;unfold Hd.early;dsimp only
 k_fill
 refine Hs.walk (l:=PySem.Challenge.rw_hueshare_k42_ways_and_greedy_refused) rfl rfl (fun w h Y=>PySem.W.kIn_of Y) ?F
 case F=>
  intro w mg fa h KX G hmg
  refine' Hs.all_mk KX G hmg .of .of .of .of .of .of .of .of .of .of .of .of .of .of .of .of .of .of .of .of .of .of .of .of .of .of .of .of .of .of .of .of .of .of .of .of .of .of .of .of .of .of .of .of .of .of .of .of .of .of (by k_is) (by k_is) (by k_is) (by k_is) (by k_is) (by k_is) (by k_is) (by k_is) (by k_is) (by k_is) (by k_is) (by k_is) (by k_is) (by k_is) (by k_is) (by k_is) (by k_is) (by k_is) (by k_is) (by k_is) (by k_is) (by k_is) (by k_is) (by k_is) (by k_is) (by k_is) (by k_is) (by k_is) (by k_is) (by k_is) (by k_is) .of .of .of .of .of (by k_is) (by k_is) (by k_is) (by k_is) (by k_is) (by k_is) (by k_is) (by k_is) (by k_is) (by k_is) (by k_is) (by k_exc) (by k_is) (by k_is) (by k_is) (by k_is) (by k_is) (by k_is) (by kit_is) (by kit_is) (by kit_is) (by kit_is) (by kit_is) (by kit_is) (by kit_is) (by kit_is) (by kit_is) (by kit_is) (by kts_exm) (by k_exc) (by k_is) (by k_is) (by k_is) (by k_is) (by k_is) (by k_is) (by kit_is) (by kit_is) (by kit_is) (by kit_is) (by kit_is) (by kit_is) (by kit_is) (by kit_is) (by kit_is) (by kit_is) (by kts_exm)
