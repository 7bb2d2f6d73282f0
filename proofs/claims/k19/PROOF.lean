import PyProof.Rows.All
import Wide.All
import OpenK.AllK
import Wide.FinOn
import Lean
import PyProof.EqAt
import PyProof.EqKinds
import PyProof.TupleCall
import PyProof.ListRange
import PyProof.TupleOfSeq
import PyProof.Draws
import PyProof.EnumMake
import PyProof.TupleIter
import PyProof.Rows.SetFrom
import PyProof.SetRoads
import PyProof.WalksMore
import PyProof.Rows.SortShell
import KE.KMinBuiltin
import PyProof.Rows.CallKwBuiltin
import KE.KRevIter
import PyProof.Rows.Tup
import PyProof.Rows.Range3
import PyProof.DictWalks
import PyProof.DictTruth
import PyProof.TupleKey
import PyProof.Rows.SeqMore2
import PyProof.AutoSeq1
import PyProof.ListOps
import PySem.Challenge.RW_hueshare_k19_handed_by_names
set_option Elab.async false
set_option linter.all false
set_option maxRecDepth 100000

noncomputable section
abbrev aK:=@PySem.wpAny_bind
abbrev cJ:=@decide_eq_true
abbrev bO:=@PySem.wpAny_pure
abbrev gB:=@decide_eq_false
abbrev eF:=@PySem.sizeLine_eq
abbrev uy:=@Bool.false_ne_true
abbrev qt:=@Bool.and_eq_true
abbrev uN:=@decide_eq_true_eq
abbrev yZ:=@of_decide_eq_true
abbrev bD:=@if_pos
abbrev bC:=@if_neg
abbrev cg:=@PySem.W.mg_of
abbrev vA:=@Bool.eq_iff_iff
abbrev Nk:=@PyProof.Rows.callWith_type1
abbrev uV:=@PySem.boot_len
abbrev Ry:=@PySem.F.plainAttrs_list
abbrev Nj:=@PySem.mem_of_lookup
abbrev Nh:=@PySem.Heap.SameBut.update
abbrev was:=@PySem.wpAny_newObj_type
abbrev Ng:=@PySem.wpAny_Call_Name_kw
abbrev Nf:=@PySem.wpAny_truthy_bool
abbrev CK:=@PySem.W.mg_none_of
abbrev Mv:=@PySem.PassesOwn.never
abbrev rH:=@congrArg
abbrev way:=@PySem.F.plain_max_loop
abbrev Nb:=@Option.some.inj
abbrev WX:=@PySem.wpAny_callSpecial?_slot
abbrev wbb:=@PyProof.Rows.slot_tuple_getitem
abbrev UJ:=@Bool.not_eq_true'
abbrev M9:=@PySem.wpAny_holding
abbrev Rx:=@PyProof.Rows.KeyOrd.kle_refl
abbrev X8:=@PySem.F.slot_list_extend
abbrev X7:=@PySem.F.type_list_extend
abbrev UG:=@PySem.wpAny_call_entry
abbrev Mu:=@PySem.wpAny_field
abbrev wbj:=@PySem.F.slot_tuple_iterator_next
abbrev WW:=@PySem.wpAny_pyIter_tuple
abbrev WT:=@PySem.Obj.data_mapFields
abbrev X6:=@PySem.Around.under_plainId
abbrev Mt:=@PySem.wpAny_mono
abbrev Vv:=@PySem.wpAny_passesOwn
abbrev WR:=@PySem.wpAny_pyIter_list
abbrev Vu:=@PySem.codeAny_builtin
abbrev wbr:=@PyProof.Rows.callWith_builtin1
abbrev zF:=@Ne.symm
abbrev wbt:=@decide_eq_false_iff_not
abbrev Q9:=@PySem.wpAny_of_eq
abbrev X5:=@PySem.Calls.spliced_cons
abbrev WQ:=@PySem.wpAny_updateSeq
abbrev wbx:=@PySem.builtinLookup_eq_fast
abbrev X4:=@PySem.Calls.spliced_nil
abbrev X3:=@PyProof.Rows.KeyOrd.kle_of_klt
abbrev Vt:=@PySem.plainId_quiet
abbrev WM:=@PySem.wpAny_seqItems
abbrev WL:=@PySem.wpAny_tryCatch
abbrev Vs:=@PySem.codeAny_mono
abbrev wce:=@PySem.F.args_tuple_add_2
abbrev wcf:=@List.take_append_getElem
abbrev wcg:=@PySem.F.slot_list_append
abbrev wch:=@PySem.F.type_list_append
abbrev wci:=@PySem.F.entry_tuple_add
abbrev Ms:=@Prod.ext
abbrev XS:=@PySem.W.KasT.kasWp_bind
abbrev XR:=@PyProof.Rows.get?_update_seq
abbrev wcm:=@Bool.false_eq_true
abbrev XQ:=@PySem.wpAny_specialOf
abbrev wco:=@PySem.F.slot_tuple_add
abbrev wcp:=@PySem.F.entry_max_loop
abbrev wcq:=@List.flatten_cons
abbrev wcr:=@PySem.wpAny_pyIter_enum
abbrev wcs:=@List.head?_append
abbrev XM:=@PySem.wpAny_setField
abbrev WK:=@PySem.wpAny_typeOf
abbrev wcv:=@List.length_singleton
abbrev wcw:=@PySem.Obj.isFreed_of_fields
abbrev wcx:=@Nat.le_add_right
abbrev wcy:=@PyProof.Rows.KeyOrd.kle_trans
abbrev wcz:=@List.not_mem_nil
abbrev wda:=@PySem.F.args_object_init_2
abbrev wdb:=@PySem.codeAny_call_builtin
abbrev wdc:=@PySem.F.args_tuple_iterator_next_1
abbrev XJ:=@PySem.wpAny_attempt
abbrev Vr:=@PySem.wpAny_rule
abbrev wdf:=@List.filterMap_cons
abbrev wdg:=@PySem.wpAny_execs_nil
abbrev wdh:=@Nat.add_sub_cancel'
abbrev wdi:=@Nat.not_lt_zero
abbrev wdj:=@PySem.F.entry_tuple_iterator_next
abbrev wdk:=@PySem.pushCells_keeps
abbrev wdl:=@PySem.typeLookup_type
abbrev wdm:=@List.length_reverse
abbrev WD:=@List.map_id
abbrev wdo:=@Bool.or_eq_true
abbrev wdp:=@List.filter_sublist
abbrev wdq:=@List.mem_map_of_mem
abbrev wdr:=@Nat.add_le_add_left
abbrev wds:=@Int.fdiv_eq_ediv_of_nonneg
abbrev XH:=@Nat.ne_of_gt
abbrev wdu:=@List.zip_cons_cons
abbrev XF:=@Nat.succ_mul
abbrev wdw:=@PyProof.Rows.firstMet_length_le
abbrev XD:=@List.all_map
abbrev wdy:=@of_decide_eq_false
abbrev wdz:=@Option.toList_some
abbrev wea:=@PySem.isSubtype_type
abbrev wec:=@Classical.byContradiction
abbrev wed:=@List.getElem_append_right
abbrev wee:=@List.take_sublist
abbrev wef:=@List.reverse_cons
abbrev Wz:=@PySem.call_meets
abbrev weh:=@List.length_erase_of_mem
abbrev wei:=@List.filter_congr
abbrev wej:=@List.getElem_take
abbrev wek:=@List.any_eq_false
abbrev wel:=@PySem.Paired.length
abbrev XC:=@PySem.wpAny_letGo
abbrev wen:=@List.pairwise_mergeSort
abbrev weo:=@PySem.noFill_tuple_add
abbrev wep:=@List.le_antisymm
abbrev weq:=@Option.getD_some
abbrev wer:=@PySem.wpAny_isInstance
abbrev wes:=@List.getElem?_set_self
abbrev wet:=@PySem.W.cellsFrom_some
abbrev weu:=@List.find?_cons_of_pos
abbrev wev:=@List.find?_cons_of_neg
abbrev wew:=@List.of_mem_zip
abbrev wex:=@PySem.concat_meets
abbrev wey:=@Array.getElem?_toList
abbrev wez:=@PySem.wpAny_ite_split
abbrev wfa:=@List.getLast?_reverse
abbrev wfb:=@List.take_append_drop
abbrev wfc:=@List.eq_nil_or_concat
abbrev wfd:=@List.concat_eq_append
abbrev wfe:=@List.filter_map
abbrev wff:=@List.getElem?_eq_none
abbrev Xz:=@PySem.wpAny_call
abbrev Vp:=@if_false
abbrev wfi:=@PySem.Walks.list
abbrev wfj:=@Bool.false_or
abbrev wfk:=@Bool.or_false
abbrev wfl:=@Bool.true_and
abbrev Vo:=@if_true
abbrev wfn:=@Nat.sub_le
abbrev wfo:=@List.map_nil
abbrev wfp:=@Bool.not_not
abbrev aQ:=@List.length_map
abbrev bW:=@List.map_append
abbrev fV:=@PySem.Heap.get?_push_of_some
abbrev bx:=@Nat.le_refl
abbrev iY:=@List.getElem?_eq_getElem
abbrev dW:=@List.size_toArray
abbrev gw:=@List.getElem?_map
abbrev iz:=@List.length_append
abbrev cT:=@List.mem_cons
abbrev fj:=@List.mem_append
abbrev lZ:=@List.mem_cons_of_mem
abbrev jl:=@List.mem_cons_self
abbrev jk:=@List.mem_singleton
abbrev dw:=@PySem.Heap.lt_size
abbrev mQ:=@Nat.lt_of_lt_of_le
abbrev qp:=@PySem.Heap.get?_push_size
abbrev zE:=@List.getD_eq_getElem?_getD
abbrev eE:=@List.mem_map
abbrev Aq:=@List.getElem?_eq_some_iff
abbrev mO:=@List.all_eq_true
abbrev fU:=@Nat.ne_of_lt
abbrev lY:=@List.mem_filter
abbrev yX:=@List.mem_append_right
abbrev yW:=@List.length_filter_le
abbrev gJ:=@Nat.le_trans
abbrev ux:=@List.take_length
abbrev jj:=@Nat.zero_le
abbrev uU:=@List.append_nil
abbrev uw:=@List.mem_range
abbrev yV:=@List.length_take
abbrev yU:=@List.getElem_mem
abbrev Ao:=@List.take_add_one
abbrev Fz:=@List.mem_of_getElem?
abbrev Ft:=@Nat.lt_of_le_of_lt
abbrev yS:=@Nat.lt_irrefl
abbrev yO:=@Nat.lt_trans
abbrev Iz:=@List.pairwise_map
abbrev M7:=@List.mem_append_left
abbrev JQ:=@List.nodup_append
abbrev Rw:=@PySem.Heap.get?_update_other
abbrev Mr:=@Nat.lt_succ_of_lt
abbrev Uz:=@List.getElem_append_left
abbrev Mq:=@List.length_cons
abbrev Mp:=@List.lookup_cons
abbrev CJ:=@List.map_map
abbrev Fy:=@List.map_cons
abbrev Ml:=@List.range_succ
abbrev Mj:=@Nat.min_le_left
abbrev M6:=@List.filter_cons
abbrev Fx:=@Nat.le_of_eq
abbrev Rv:=@List.filter_append
abbrev M5:=@List.nodup_cons
abbrev Xy:=@List.eq_nil_of_length_eq_zero
abbrev Uy:=@Array.length_toList
abbrev Ux:=@Nat.lt_of_le_of_ne
abbrev Ru:=@Nat.lt_succ_self
abbrev Xx:=@List.getElem?_append_right
abbrev Uw:=@Nat.le_of_lt_succ
abbrev Uv:=@List.length_range
abbrev Xw:=@List.getElem?_append_left
abbrev Xv:=@List.pairwise_iff_getElem
abbrev Q8:=@PySem.Heap.size_push
abbrev Mi:=@Nat.le_of_lt
abbrev Rt:=@List.length_nil
abbrev Wy:=@PySem.Heap.get?_update_self
abbrev Xu:=@List.getLast?_cons_cons
abbrev M4:=@Nat.succ_pos
abbrev Mh:=@List.not_lt
abbrev Wx:=@List.getElem_of_mem
abbrev Ww:=@List.map_congr_left
abbrev Xr:=@List.pairwise_lt_range
abbrev Vn:=@List.getElem_inj
abbrev Wv:=@List.pairwise_cons
abbrev ycv:=@List.drop_eq_getElem_cons
abbrev Xq:=@Nat.sub_one_lt_of_le
abbrev Xp:=@List.pairwise_append
abbrev Vm:=@Nat.le_antisymm
abbrev ycz:=@Nat.succ_add_eq_add_succ
abbrev Xo:=@List.replicate_succ
abbrev Uu:=@List.any_cons
abbrev ydc:=@List.length_pos_of_mem
abbrev ydd:=@List.filter_eq_nil_iff
abbrev yde:=@List.cons_lt_cons_iff
abbrev Wu:=@List.find?_cons
abbrev Xn:=@Int.toNat_natCast
abbrev Xm:=@List.append_assoc
abbrev ydi:=@Array.perm_iff_toList_perm
abbrev ydj:=@List.nodup_iff_pairwise_ne
abbrev ydk:=@Nat.le_sub_one_of_lt
abbrev ydl:=@List.mem_take_iff_getElem
abbrev Xl:=@List.length_drop
abbrev Vl:=@Nat.le_succ
namespace Hd
open PySem PySem.W PySem.Calls PyProof.Rows
-- a run of the text's top over the heap as a tree, as one fold
def VB(tb:String->Option Builtin)(p:Program)(w:World)(m:Nat)(ann:Option Value)(n:Nat):SharedT->Thread->Option SharedT:=
 @Nat.rec (fun _=>SharedT->Thread->Option SharedT) (fun _ _=>none)
  (fun _ ih s t=> @Bool.rec (fun _=>Option SharedT)
   (@Bool.rec (fun _=>Option SharedT) none
    (@Option.rec (SharedT×Thread) (fun _=>Option SharedT) none (fun r=>ih r.1 r.2) (stepT (denote tb) p w s t)) (stepOk m ann t))
   (some s) (through t)) n
theorem RT{tb:String->Option Builtin}{p:Program}{w:World}{m:Nat}{ann:Option Value}:∀(n:Nat) (s s':SharedT) (t:Thread),
  VB tb p w m ann n s t=some s'->topRun tb p w m ann n s.abs t=some s'.abs:=by
 intro n
 induction n with
 |zero=>intro s s' t h;exact absurd h (by intro h;cases h)
 |succ n ih=>
  intro s s' t h
  have h1: @Bool.rec (fun _=>Option SharedT) (@Bool.rec (fun _=>Option SharedT) none
    (@Option.rec (SharedT×Thread) (fun _=>Option SharedT) none (fun r=>VB tb p w m ann n r.1 r.2) (stepT (denote tb) p w s t)) (stepOk m ann t))
    (some s) (through t)=some s':=h
  unfold topRun
  cases e1:through t with
  |true=>rw[e1]at h1;injection h1 with h1;rw[h1]
  |false=>
   rw[e1]at h1
   cases e2:stepOk m ann t with
   |false=>rw[e2]at h1;cases h1
   |true=>
    rw[e2]at h1
    cases e3:stepT (denote tb) p w s t with
    |none=>rw[e3]at h1;cases h1
    |some r=>
     rw[e3]at h1
     have e4:=stepT_spec (s':=r.1) (t':=r.2) e3
     show(match step (denote tb) p w s.abs t with | .go a b=>topRun tb p w m ann n a b| .halt _ _=>none)=_
     rw[e4]
     exact ih _ _ _ h1
def treeOf(l:List Obj):BT:=(l.foldl (fun x o=>(x.1.ins x.2 o,x.2+1)) ((BT.nil,0):BT×Nat)).1
-- the run from the start that the kit has laid
def ran(p:Program)(N:Nat)(w:World)(os:OsState):Option SharedT:=
 VB treeTable p w 11 (some (.ref 6)) N ⟨treeOf (boot_heap w.params).objs.toList,11,{},Array.mk [],boot_drawn,boot_toks,os⟩ (topStub p)
-- what is looked at behind the run
def looked(p q:Program)(loose:List Str)(Xt:Shared->Bool)(g0:Bool)(h:Heap)(s:Shared):=
 ((staticsOk (importedModules p.main.body) h s.heap&&namesBound p s.heap&&gensDone s&&laidKept h s.heap),openSeen q loose (importedModules p.main.body) Xt g0 s)
def ug(p q:Program)(loose:List Str)(Xt:Shared->Bool)(g0:Bool)(N:Nat):Prop:=
 ∀(w:World) (os:OsState),(ran p N w os).map (fun s=>looked p q loose Xt g0 (boot_heap w.params) s.abs)=some (true,openGood q loose)
theorem Sw{p q:Program}{loose:List Str}{Xt:Shared->Bool}{α:Type}{Yf:Shared->α}{Ya:World->α}{N:Nat}{g0:Bool}(r:ug p q loose Xt g0 N)(e:opening p=plainProg p.main.scope.names)(hN:Nat.ble 600 N=true)(f:∀s,fenceModules? p s=some s)(y:∀(w:World) (os:OsState),(ran p N w os).map (fun s=>Yf s.abs)=some (Ya w)):
  LeftO p q loose Xt Yf Ya N g0:=fun w=>by
 have b:((boot_heap w.params).isNs mainGlobals&&(Array.mk []:Array GenState).size==0,(boot_heap w.params).objs.size,(boot_heap w.params).nsMap mainGlobals "__annotations__")=(true,11,some (.ref 6)):=by kernel_rfl
 have c:absHeap (treeOf (boot_heap w.params).objs.toList) 11 {}=boot_heap w.params:=by kernel_rfl
 obtain⟨⟨h,gs',d',k',os⟩,e1,e'⟩:=Option.map_eq_some_iff.mp (boot_open e hN f w)
 obtain⟨rfl,rfl,rfl,rfl⟩:h=boot_heap w.params/\gs'=Array.mk []/\d'=boot_drawn/\k'=boot_toks:=by simpa using e'
 obtain⟨b1,b2,b3⟩:_/\_/\_:=by simpa only[Prod.mk.injEq]using b
 obtain⟨s,r1,r2⟩:=Option.map_eq_some_iff.mp (r w os)
 obtain⟨s',y1,y2⟩:=Option.map_eq_some_iff.mp (y w os)
 have es:s'=s:=by rw[r1]at y1;injection y1 with y1;exact y1.symm
 subst es
 obtain⟨l1,l2⟩:_/\_:=by simpa only[looked,Prod.mk.injEq]using r2
 have t1:=RT N _ _ _ r1
 have ab:SharedT.abs ⟨treeOf (boot_heap w.params).objs.toList,11,{},Array.mk [],boot_drawn,boot_toks,os⟩=⟨boot_heap w.params,Array.mk [],boot_drawn,boot_toks,os⟩:=by unfold SharedT.abs;rw[c]
 rw[ab]at t1
 have t:topFrom treeTable p w N ⟨boot_heap w.params,Array.mk [],boot_drawn,boot_toks,os⟩=some s'.abs:=by
  unfold topFrom
  dsimp only
  rw[b1,b2,b3,t1]
  show(match staticsOk (importedModules p.main.body) (boot_heap w.params) s'.abs.heap&&namesBound p s'.abs.heap&&gensDone s'.abs&&laidKept (boot_heap w.params) s'.abs.heap with |true=>_|false=>_)=_
  rw[l1]
 unfold openEnds
 rw[e1]
 show(topFrom treeTable p w N _).map _=_
 rw[t]
 show some (_,_)=_
 rw[l2,y2]
-- what is looked at behind the run, in five groups: a run for each, so that none needs the memory of all
theorem two{α β γ:Type}{o:Option α}{f:α->β}{g:α->γ}{a:β}{b:γ}(h:o.map f=some a)(h':o.map g=some b):o.map (fun s=>(f s,g s))=some (a,b):=by
 cases o with
 |none=>cases h
 |some s=>
  injection h with h
  injection h' with h'
  show some (f s,g s)=_
  rw[h,h']
theorem Nm{α β γ:Type}{o:Option α}{f:α->β}{g:α->γ}{a:β}{b:γ}(h:o.map (fun s=>(f s,g s))=some (a,b)):o.map f=some a/\o.map g=some b:=by
 cases o with
 |none=>cases h
 |some s=>
  injection h with h
  injection h with h h'
  exact⟨rH some h,rH some h'⟩
theorem both{α:Type}{o:Option α}{f g:α->Bool}(h:o.map f=some true)(h':o.map g=some true):o.map (fun s=>f s&&g s)=some true:=by
 cases o with
 |none=>cases h
 |some s=>
  injection h with h
  injection h' with h'
  show some (f s&&g s)=_
  rw[h,h'];rfl
section
variable(p q:Program)(Xt:Shared->Bool)(N:Nat)
abbrev GA:Prop:=∀(w:World) (os:OsState),(ran p N w os).map (fun s=>(seen ((recsOf q).map (·.name)) (ownsOf q) [] {s.abs with gens:=#[]},s.abs.heap.bltView,s.abs.heap.isNs mainGlobals,s.abs.heap.isNs builtinsNs,tablesOk q s.abs.heap,s.abs.gens.size==0))=some (expectedOf q,bltViewBooted,true,true,true,true)
abbrev GB:Prop:=∀(w:World) (os:OsState),(ran p N w os).map (fun s=>(s.abs.heap.keysOk (looseW q []) ((recsOf q).map (·.name)) ((litsOf q).map (·.1)) ((clssOf q (looseW q [])).map (·.name)),(staticsOk (importedModules p.main.body) (boot_heap w.params) s.abs.heap&&namesBound p s.abs.heap&&gensDone s.abs&&laidKept (boot_heap w.params) s.abs.heap),s.abs.heap.accountedOkI (importedModules p.main.body),Xt s.abs,plainSeenD q [] s.abs))=some (true,true,true,true,plainGoodD q [])
abbrev GC:Prop:=∀(w:World) (os:OsState),(ran p N w os).map (fun s=>(tabsOk q s.abs,pinSeenD q (drecsOf q) s.abs))=some (true,pinGoodD (drecsOf q))
abbrev GD:Prop:=∀(w:World) (os:OsState),(ran p N w os).map (fun s=>plainSeenE q (looseW q []) s.abs)=some (plainGoodE q (looseW q []))
abbrev GE:Prop:=∀(w:World) (os:OsState),(ran p N w os).map (fun s=>(wideSeen q s.abs,clsSeenW q [] s.abs))=some (wideGood q,clsGoodW q [])
end
theorem Pu{p q:Program}{Xt:Shared->Bool}{N:Nat}(ga:GA p q N)(gb:GB p q Xt N)(gc:GC p q N)(gd:GD p q N)(ge:GE p q N):ug p q [] Xt true N:=fun w os=>by
 obtain⟨h1,a2⟩:=Nm (ga w os)
 obtain⟨h2,a3⟩:=Nm a2
 obtain⟨h5,a4⟩:=Nm a3
 obtain⟨h6,a5⟩:=Nm a4
 obtain⟨h7,h9⟩:=Nm a5
 obtain⟨h3,b2⟩:=Nm (gb w os)
 obtain⟨h0,b3⟩:=Nm b2
 obtain⟨h4,b4⟩:=Nm b3
 obtain⟨h8,k4⟩:=Nm b4
 obtain⟨k1,k2⟩:=Nm (gc w os)
 obtain⟨k5,k6⟩:=Nm (ge w os)
 exact two h0 (two h1 (two h2 (two (both (both (both (both (both (both h3 h4) h5) h6) h7) h8) h9) (two k1 (two k2 (two (gd w os) (two k4 (two k5 k6))))))))
end Hd
section
open PySem PySem.W PyProof.Rows
namespace Hd
abbrev L:=PySem.Challenge.rw_hueshare_k19_handed_by_names
def Q:Program:=view L.row.toRowW.prog [1,2,3,4,5,6,7,8,9,10,12,13,14,15,16,17,18,19,20,21,22,23,24,25,26,27,28,29,30,32,33,34,35,36,37,38,39,41,42,43,44,45,46,47,48,49,50,51,52,54,55,56,57,58,59,60,61,62,63,64,66,67,68,69,71,72,73,74,75,76]
abbrev X:Shared->Bool:=fun s=>xlAt Q [] s&&recOk (RowW.records L.row.toRowW) s
set_option maxRecDepth 100000 in
theorem g0:GA L.row.toRowW.prog Q 7732:=fun w os=>by kernel_rfl
set_option maxRecDepth 100000 in
theorem g1:GB L.row.toRowW.prog Q X 7732:=fun w os=>by kernel_rfl
set_option maxRecDepth 100000 in
theorem g2:GC L.row.toRowW.prog Q 7732:=fun w os=>by kernel_rfl
set_option maxRecDepth 100000 in
theorem g3:GD L.row.toRowW.prog Q 7732:=fun w os=>by kernel_rfl
set_option maxRecDepth 100000 in
theorem g4:GE L.row.toRowW.prog Q 7732:=fun w os=>by kernel_rfl
theorem looks:ug L.row.toRowW.prog Q [] X true 7732:=Pu g0 g1 g2 g3 g4
end Hd
local macro_rules
 |`(tactic|o_head $H)=>`(tactic|
  refine holds_open (q:=Hd.Q) (loose:=[]) (N:=7732) (Xt:=Hd.X) (XP:=XL Hd.Q [])
   (Yf:=Hook.obs $H) (Ya:=Hook.val $H) (YP:=Hook.says $H)
   (Hd.Sw Hd.looks (by kernel_rfl) rfl (fun _=>by kernel_rfl) (fun _ _=>by kernel_rfl))
   (Hook.of $H) (Hook.keeps $H) (fun s e=>xl_of s (Bool.and_eq_true_iff.mp e).1) XL.keeps
   (by rfl) (by rfl) (by rfl) (fun s e=>recFacts_of (Bool.and_eq_true_iff.mp e).2) (by rfl)
   (by first |assumption|decide+kernel) (by decide+kernel) ⟨rfl,rfl,rfl,rfl,rfl,by decide+kernel⟩ ?hw ?hc)
set_option maxRecDepth 100000 in
set_option maxHeartbeats 0 in
def Hd.early:PSigma fun P:Prop=>P->PySem.Challenge.rw_hueshare_k19_handed_by_names.Holds:=by
 refine⟨?P,fun W=> ?_⟩
 rotate_left
 w_on;o_law;k_head;(case hw=>w_witness2)
 exact W
end
namespace L2
open PySem PySem.Spec PyProof.Rows
abbrev Key:=Sum Int Str
def keyIs:Key->Value->Bool
 | .inl k,v=>Value.isInt k v
 | .inr x,v=>Value.isStrOf x v
def keyH(w:World):Key->Int
 | .inl k=>hashInt k
 | .inr x=>hashStr w x
theorem MK:∀{k:Key} {v:Value},keyIs k v=true->(∃i t,k=Sum.inl i/\v=Value.int i t)\/(∃x t,k=Sum.inr x/\v=Value.str x t)
 | .inl i,v,h=>by
  obtain⟨t,e⟩:=Value.isInt_shape (k:=i) (v:=v) h
  exact .inl ⟨i,t,rfl,e⟩
 | .inr x,v,h=>by
  obtain⟨t,e⟩:=Value.isStrOf_shape (x:=x) (v:=v) h
  exact .inr ⟨x,t,rfl,e⟩
theorem keyIs_int(i:Int)(t:Tok):keyIs (.inl i) (.int i t)=true:=by simp[keyIs,Value.isInt]
theorem keyIs_str(x:Str)(t:Tok):keyIs (.inr x) (.str x t)=true:=by simp[keyIs,Value.isStrOf]
theorem key_ll(a b:Int):decide ((Sum.inl a:Key)=Sum.inl b)=(a==b):=by
 by_cases e:a=b
 ·subst e;simp
 ·have h:¬(Sum.inl a:Key)=Sum.inl b:=fun q=>e (Sum.inl.inj q)
  rw[gB h]
  exact(beq_eq_false_iff_ne.mpr e).symm
theorem key_rr(a b:Str):decide ((Sum.inr a:Key)=Sum.inr b)=decide (a=b):=by
 by_cases e:a=b
 ·subst e;simp
 ·have h:¬(Sum.inr a:Key)=Sum.inr b:=fun q=>e (Sum.inr.inj q)
  rw[gB h,gB e]
theorem key_lr(a:Int)(b:Str):decide ((Sum.inl a:Key)=Sum.inr b)=false:=gB (fun q=>nomatch q)
theorem key_rl(a:Str)(b:Int):decide ((Sum.inr a:Key)=Sum.inl b)=false:=gB (fun q=>nomatch q)
def mixKind(prog:Program)(w:World):PySem.KeyKind prog w Key where
 is:=keyIs
 hash:=keyH w
 inj:=fun v a b ha hb=>by
  rcases MK ha with⟨i,t,rfl,rfl⟩|⟨x,t,rfl,rfl⟩
  ·rcases MK hb with⟨j,u,rfl,e⟩|⟨y,u,rfl,e⟩
   ·injection e with e1 _;rw[e1]
   ·exact nomatch e
  ·rcases MK hb with⟨j,u,rfl,e⟩|⟨y,u,rfl,e⟩
   ·exact nomatch e
   ·injection e with e1 _;rw[e1]
 byValue:=fun k v h=>by
  rcases MK h with⟨i,t,rfl,rfl⟩|⟨x,t,rfl,rfl⟩<;>rfl
 pyHash:=fun hv h=>by
  rcases MK hv with⟨i,t,rfl,rfl⟩|⟨x,t,rfl,rfl⟩
  ·exact wpAny_pyHash_int h
  ·exact wpAny_pyHash_str h
 eqBool:=fun hu hv h=>by
  rcases MK hu with⟨i,t,rfl,rfl⟩|⟨x,t,rfl,rfl⟩
  ·rcases MK hv with⟨j,u,rfl,rfl⟩|⟨y,u,rfl,rfl⟩
   ·rw[key_ll]at h;exact wpAny_eqBool_int h
   ·rw[key_lr]at h;exact SeqAt.EqAt.int_str i t y u _ _ _ _ h
  ·rcases MK hv with⟨j,u,rfl,rfl⟩|⟨y,u,rfl,rfl⟩
   ·rw[key_rl]at h;exact SeqAt.EqAt.str_int x t j u _ _ _ _ h
   ·rw[key_rr]at h;exact wpAny_eqBool_str h
 «strs»:=fun k x t v h=>by
  rcases MK h with⟨i,u,rfl,e⟩|⟨y,u,rfl,e⟩
  ·exact nomatch e
  ·injection e with e1 _
   subst e1
   cases v<;>rfl
theorem mixKind_int(prog:Program)(w:World)(i:Int)(t:Tok):(mixKind prog w).is (.inl i) (.int i t)=true:=keyIs_int i t
theorem mixKind_str(prog:Program)(w:World)(x:Str)(t:Tok):(mixKind prog w).is (.inr x) (.str x t)=true:=keyIs_str x t
inductive V where
 |non|bl (b:Bool)|int (i:Int)|str (x:Str)|byt (b:Array UInt8)|flt (b:UInt64)|ref (a:Addr)|ty (n:String)
 deriving DecidableEq
def RelV:V->Value->Prop
 | .non,u=>u=Value.none
 | .bl b,u=>u=Value.bool b
 | .int i,u=>∃t,u=Value.int i t
 | .str x,u=>∃t,u=Value.str x t
 | .byt b,u=>∃t,u=Value.bytes b t
 | .flt b,u=>∃t,u=Value.float b t
 | .ref a,u=>u=Value.ref a
 | .ty n,u=>u=Value.type n
abbrev Vals:List V->List Value->Prop:=Paired RelV
theorem Vals.length{xs:List V}{us:List Value}(r:Vals xs us):xs.length=us.length:=wel r
theorem Vals.get:∀{xs:List V} {us:List Value} {i:Nat} {x:V},Vals xs us->xs[i]? =some x->∃u,us[i]? =some u/\RelV x u
 |_,_,_,_,.nil,e=>by simp at e
 |_,_,0,_,.cons r _,e=>by simp at e;subst e;exact⟨_,rfl,r⟩
 |_,_,i+1,x,.cons _ t,e=>by
  obtain⟨u,h1,h2⟩:=Vals.get (i:=i) (x:=x) t (by simpa using e)
  exact⟨u,by simpa using h1,h2⟩
theorem Vals.append:∀{xs ys:List V} {us ws:List Value},Vals xs us->Vals ys ws->Vals (xs++ys) (us++ws)
 |_,_,_,_,.nil,s=>s
 |_,_,_,_,.cons r t,s=> .cons r (Vals.append t s)
theorem Vals.take:∀{xs:List V} {us:List Value} (n:Nat),Vals xs us->Vals (xs.take n) (us.take n)
 |_,_,0,_=> .nil
 |_,_,_+1,.nil=> .nil
 |_,_,n+1,.cons r t=> .cons r (Vals.take n t)
theorem Vals.drop:∀{xs:List V} {us:List Value} (n:Nat),Vals xs us->Vals (xs.drop n) (us.drop n)
 |_,_,0,r=>r
 |_,_,_+1,.nil=> .nil
 |_,_,n+1,.cons _ t=>Vals.drop n t
def RelO:Option V->Option Value->Prop
 |some v,some u=>RelV v u
 |none,none=>True
 |_,_=>False
def KV{κ:Type}:List (κ×V)->List (κ×Value)->Prop:=Paired fun(p:κ×V) (q:κ×Value)=>p.1=q.1/\RelV p.2 q.2
def kV:Key->V
 | .inl i=> .int i
 | .inr x=> .str x
inductive HO where
 /-- a list -/
 |lst (xs:List V)
 /-- a tuple (never changes) -/
 |tup (xs:List V)
 /-- a dict whose keys are ints and texts; one whose keys are tuples of ints and texts (the empty one is both) -/
 |dK (kvs:List (Key×V))|dT (kvs:List (List Key×V))
 /-- a set of ints: its members, its size -/
 |set (S:Int->Bool) (n:Nat)
 /-- an instance of the class at C, its dict at dx, its attributes -/
 |ins (C dx:Addr) (fs:List (Str×V))
 /-- the dict of the instance at x -/
 |own (x:Addr)
 /-- the dict of an exception -/
 |xd (fs:List (Str×V))
 /-- a bound method, f of x -/
 |met (f x:Addr)
 /-- a range object lo, lo + 1, .. below hi -/
 |rng (lo hi:Int)
 /-- a thing that is known to the object (the script; a dict while a loop walks it): read, never written while it is so -/
 |frz (o:Obj) (u:HO)
 /-- a code object's table -/
 |tbl (ps:Array Value)
 /-- any other thing, by what is true of its one object (a def of one's own: SetO a S n := HO.ext fun h => ..) -/
 |ext (φ:Heap->Prop)
abbrev Hp:=Addr->Option HO
def upd(H:Hp)(a:Addr)(o:HO):Hp:=fun b=>if b=a then some o else H b
theorem aM{H:Hp}{a:Addr}{o:HO}:upd H a o a=some o:=by unfold upd;rw[bD rfl]
theorem dX{H:Hp}{a b:Addr}{o:HO}(h:b≠a):upd H a o b=H b:=by unfold upd;rw[bC h]
theorem ne_of{H:Hp}{a b:Addr}{o u:HO}(h:H a=some o)(h':H b=some u)(d:o≠u):a≠b:=by
 intro e;subst e;rw[h]at h';exact d (Nb h')
theorem Cz{H:Hp}{a b:Addr}{o:HO}(h:H a=some o)(h':H b=none):a≠b:=by
 intro e;subst e;rw[h]at h';cases h'
section
variable(P:Program)(w:World)
def ObjOk(H:Hp)(h:Heap)(a:Addr):HO->Prop
 | .lst xs=>xs.length<=sizeLine/\∃(its:List Value) (n:Nat),Vals xs its/\h.get? a=some {cls:= .type "list",data:= .seq its.toArray n}
 | .tup xs=>xs.length<=sizeLine/\∃its:List Value,Vals xs its/\IsTup h a its.toArray
 | .dK kvs=>kvs.length<=sizeLine/\(a==sysModules)=false/\∃vs,KV kvs vs/\h.DictOf (mixKind P w) a vs
 | .dT kvs=>kvs.length<=sizeLine/\(a==sysModules)=false/\∃xs:List (List Key×Addr×Value),
   Paired (fun(p:List Key×V) (q:List Key×Addr×Value)=>p.1=q.1/\H q.2.1=some (.tup (p.1.map kV))/\RelV p.2 q.2.2) kvs xs/\
   ∃o es ep,h.get? a=some o/\o.ExactDict/\o.data= .dict es ep/\es.toList=xs.map (entryOfKey (tupleKind (mixKind P w)))/\(xs.map (·.1)).Nodup
 | .set S n=>h.SetOf (intKind P w) a S n
 | .ins C dx fs=>H dx=some (.own a)/\fs.length<=1000/\dx≠a/\h.get? a=some (PySem.W.instObj C dx)/\
   ∃mA,h.Ns1 dx mA/\(∀f,RelO (fs.lookup f) (mA f))/\PySem.Within mA (fs.map (·.1))
 | .own _=>∃o,h.get? a=some o
 | .xd fs=>∃mA,h.Ns1 a mA/\∀f,RelO (fs.lookup f) (mA f)
 | .rng lo hi=>∃t u v,h.get? a=some {cls:= .type "range",data:= .fields #[.int lo t,.int hi u,.int 1 v]}
 | .frz o u=>h.get? a=some o/\ObjOk H h a u
 | .tbl ps=>h.get? a=some {cls:= .none,data:= .fields ps}
 | .met f x=>h.get? a=some (PySem.W.methodObj (.ref f) (.ref x))
 | .ext φ=>φ h/\(∃o,h.get? a=some o)/\∀h1 h2:Heap,φ h1->(∀o,h1.get? a=some o->h2.get? a=some o)->φ h2
def HOk(H:Hp)(h:Heap):Prop:=∀a o,H a=some o->ObjOk P w H h a o
end
section
variable{P:Program}{w:World}{H H':Hp}{h h':Heap}{a:Addr}{o:HO}
theorem ObjOk.lt(x:ObjOk P w H h a o):a<h.objs.size:=by
 cases o with
 |lst xs=>obtain⟨_,_,_,_,e⟩:=x;exact dw e
 |tup xs=>obtain⟨_,_,_,p⟩:=x;exact p.lt
 |dK kvs=>obtain⟨_,_,_,_,o,_,_,e,_⟩:=x;exact dw e
 |dT kvs=>obtain⟨_,_,_,_,o,_,_,e,_⟩:=x;exact dw e
 |set S n=>obtain⟨o,_,_,_,e,_⟩:=x;exact dw e
 |ins C dx fs=>obtain⟨_,_,_,e,_⟩:=x;exact dw e
 |own y=>obtain⟨_,e⟩:=x;exact dw e
 |xd fs=>obtain⟨_,⟨_,_,_,e,_⟩,_⟩:=x;exact dw e
 |rng lo hi=>obtain⟨_,_,_,e⟩:=x;exact dw e
 |frz ob u=>obtain⟨e,_⟩:=x;exact dw e
 |tbl ps=>exact dw (show h.get? a=some _ from x)
 |met f y=>exact dw (show h.get? a=some _ from x)
 |ext φ=>obtain⟨_,⟨_,e⟩,_⟩:=x;exact dw e
theorem Paired.mapP{α β:Type}{F G:α->β->Prop}:∀{l₁:List α} {l₂:List β},Paired F l₁ l₂->(∀a b,F a b->G a b)->Paired G l₁ l₂
 |_,_,.nil,_=> .nil
 |_,_,.cons r t,f=> .cons (f _ _ r) (Paired.mapP t f)
theorem ObjOk.stay(x:ObjOk P w H h a o)(k:∀b u,(b=a\/H b=some (.own a))->h.get? b=some u->h'.get? b=some u)(ho:∀b,H b=some (.own a)->H' b=some (.own a))(ht:∀b xs,H b=some (.tup xs)->H' b=some (.tup xs)):ObjOk P w H' h' a o:=by
 induction o with
 |lst xs=>obtain⟨z,its,n,r,e⟩:=x;exact⟨z,its,n,r,k _ _ (.inl rfl) e⟩
 |tup xs=>obtain⟨z,its,r,ob,e,c⟩:=x;exact⟨z,its,r,ob,k _ _ (.inl rfl) e,c⟩
 |dK kvs=>obtain⟨z,y,vs,r,ob,es,ep,e,c⟩:=x;exact⟨z,y,vs,r,ob,es,ep,k _ _ (.inl rfl) e,c⟩
 |dT kvs=>
  obtain⟨z,y,xs,r,ob,es,ep,e,c⟩:=x
  exact⟨z,y,xs,Paired.mapP r fun p q z=>⟨z.1,ht _ _ z.2.1,z.2.2⟩,ob,es,ep,k _ _ (.inl rfl) e,c⟩
 |set S n=>obtain⟨ob,es,ep,t,e,c⟩:=x;exact⟨ob,es,ep,t,k _ _ (.inl rfl) e,c⟩
 |ins C dx fs=>
  obtain⟨d,z,ne,e,mA,⟨od,es,ep,e2,c⟩,r⟩:=x
  exact⟨ho _ d,z,ne,k _ _ (.inl rfl) e,mA,⟨od,es,ep,k _ _ (.inr d) e2,c⟩,r⟩
 |own y=>obtain⟨ob,e⟩:=x;exact⟨ob,k _ _ (.inl rfl) e⟩
 |xd fs=>obtain⟨mA,⟨od,es,ep,e,c⟩,r⟩:=x;exact⟨mA,⟨od,es,ep,k _ _ (.inl rfl) e,c⟩,r⟩
 |rng lo hi=>obtain⟨t,u,v,e⟩:=x;exact⟨t,u,v,k _ _ (.inl rfl) e⟩
 |frz ob u ih=>obtain⟨e,q⟩:=x;exact⟨k _ _ (.inl rfl) e,ih q⟩
 |tbl ps=>
  have e:h.get? a=some {cls:= .none,data:= .fields ps}:=x
  show h'.get? a=some {cls:= .none,data:= .fields ps}
  exact k a _ (.inl rfl) e
 |met f y=>
  have e:h.get? a=some (PySem.W.methodObj (.ref f) (.ref y)):=x
  show h'.get? a=some (PySem.W.methodObj (.ref f) (.ref y))
  exact k a _ (.inl rfl) e
 |ext φ=>obtain⟨p,⟨o,e⟩,st⟩:=x;exact⟨st _ _ p fun o q=>k _ _ (.inl rfl) q,⟨o,k _ _ (.inl rfl) e⟩,st⟩
theorem HOk.lt(x:HOk P w H h)(e:H a=some o):a<h.objs.size:=(x a o e).lt
theorem HOk.fresh(x:HOk P w H h)(e:h.objs.size<=a):H a=none:=by
 cases q:H a with
 |none=>rfl
 |some u=>exact absurd (mQ (x.lt q) e) (yS _)
theorem HOk.kept(x:HOk P w H h)(k:∀b u,h.get? b=some u->h'.get? b=some u):HOk P w H h':=fun a o e=>
 (x a o e).stay (fun b u _ q=>k b u q) (fun _ q=>q) fun _ _ q=>q
theorem HOk.laid(x:HOk P w H h)(k:∀b u,h.get? b=some u->h'.get? b=some u)(hp:h.objs.size<=a)(new:ObjOk P w (upd H a o) h' a o):HOk P w (upd H a o) h':=fun b u e=>by
 have hn:=x.fresh hp
 by_cases hb:b=a
 ·subst hb;rw[aM]at e;cases e;exact new
 ·rw[dX hb]at e
  exact(x b u e).stay (fun c v _ q=>k c v q) (fun c q=>by rw[dX (Cz q hn)];exact q) fun c xs q=>by rw[dX (Cz q hn)];exact q
end
def Rd(H:Hp)(a:Addr)(u:HO):Prop:=H a=some u\/∃o,H a=some (.frz o u)
theorem Rd.ok{P:Program}{w:World}{H:Hp}{h:Heap}{a:Addr}{u:HO}(r:Rd H a u)(x:HOk P w H h):ObjOk P w H h a u:=by
 rcases r with r|⟨o,r⟩
 ·exact x a u r
 ·obtain⟨_,q⟩:=x a _ r
  exact q
def Mut:Option HO->Prop
 |some (.lst _)=>True
 |some (.dK _)=>True
 |some (.dT _)=>True
 |some (.set _ _)=>True
 |some (.ins _ _ _)=>True
 |some (.ext _)=>True
 |_=>False
section
variable{P:Program}{w:World}{H:Hp}{h h':Heap}{x e:Addr}{o':HO}
theorem HOk.write(ok:HOk P w H h)(mu:Mut (H x))(he:e=x\/H e=some (.own x))(k:∀b u,b≠e->h.get? b=some u->h'.get? b=some u)(heo:∃u,h'.get? e=some u)(new:ObjOk P w (upd H x o') h' x o'):HOk P w (upd H x o') h':=fun b u q=>by
 have nown:∀c y,H c=some (.own y)->c≠x:=fun c y r z=>by subst z;rw[r]at mu;exact mu
 have ntup:∀c xs,H c=some (.tup xs)->c≠x:=fun c xs r z=>by subst z;rw[r]at mu;exact mu
 by_cases hb:b=x
 ·subst hb;rw[aM]at q;cases q;exact new
 ·rw[dX hb]at q
  by_cases hbe:b=e
  ·have q':H b=some (.own x):=by
    rcases he with z|z
    ·exact absurd (hbe.trans z) hb
    ·rw[hbe];exact z
   rw[q]at q';cases q'
   obtain⟨v,hv⟩:=heo
   exact⟨v,by rw[hbe];exact hv⟩
  ·refine(ok b u q).stay (fun c v hc r=>k c v ?_ r) (fun c r=>by rw[dX (nown c b r)];exact r) fun c xs r=>by rw[dX (ntup c xs r)];exact r
   rcases hc with rfl|hc
   ·exact hbe
   ·rintro rfl
    rcases he with z|z
    ·exact nown c b hc z
    ·rw[hc]at z;cases z;exact hb rfl
end
structure Un(fs ex:List Addr)(H H':Hp)(h h':Heap):Prop where
 keep:∀b o,h.get? b=some o->H b=none->b∉fs->b∉ex->h'.get? b=some o
 slot:∀b o,h.get? b=some o->H b=none->b∈fs->b∉ex->∃sl,h'.get? b=some {o with slots:=sl}
 free:∀b o,h.get? b=some o->H b=none->b∉ex->H' b=none
 there:∀b o,h.get? b=some o->b∉ex->∃o',h'.get? b=some o'
 tups:∀b xs,H b=some (.tup xs)->H' b=some (.tup xs)
 frzs:∀b o u,H b=some (.frz o u)->H' b=some (.frz o u)
 tbls:∀b ps,H b=some (.tbl ps)->∃more,H' b=some (.tbl (ps++more))
section
variable{fs fs' ex ex':List Addr}{H H1 H2:Hp}{h h1 h2 h':Heap}{a x e:Addr}{o:HO}
theorem Un.any(u:Un fs ex H H1 h h1){b:Addr}{ob:Obj}(q:h.get? b=some ob)(n:H b=none)(hx:b∉ex):∃sl,h1.get? b=some {ob with slots:=sl}:=by
 by_cases hb:b∈fs
 ·exact u.slot b ob q n hb hx
 ·exact⟨ob.slots,u.keep b ob q n hb hx⟩
theorem Un.kept(k:∀b u,h.get? b=some u->h'.get? b=some u):Un fs ex H H h h':=
 ⟨fun b ob q _ _ _=>k b ob q,fun b ob q _ _ _=>⟨ob.slots,k b ob q⟩,fun _ _ _ n _=>n,fun b ob q _=>⟨ob,k b ob q⟩,fun _ _ q=>q,fun _ _ _ q=>q,fun _ ps q=>⟨#[],by rw[q];simp⟩⟩
theorem Un.refl:Un fs ex H H h h:=Un.kept fun _ _ q=>q
theorem Un.laid(k:∀b u,h.get? b=some u->h'.get? b=some u)(hp:h.objs.size<=a)(hn:H a=none):Un fs ex H (upd H a o) h h' where
 keep:=fun b u q _ _ _=>k b u q
 slot:=fun b u q _ _ _=>⟨u.slots,k b u q⟩
 free:=fun b u q n _=>by rw[dX (fU (mQ (dw q) hp))];exact n
 there:=fun b u q _=>⟨u,k b u q⟩
 tups:=fun b xs q=>by rw[dX (Cz q hn)];exact q
 frzs:=fun b u xs q=>by rw[dX (Cz q hn)];exact q
 tbls:=fun b ps q=>⟨#[],by rw[dX (Cz q hn),q];simp⟩
theorem Un.write(mu:Mut (H x))(he:e=x\/H e=some (.own x))(k:∀b u,b≠e->h.get? b=some u->h'.get? b=some u)(heo:∃u,h'.get? e=some u):Un fs ex H (upd H x o) h h':=by
 have hx:∀b,H b=none->b≠x:=fun b n z=>by subst z;rw[n]at mu;exact mu
 have hb:∀b,H b=none->b≠e:=fun b n z=>by
  subst z
  rcases he with r|r
  ·exact hx b n r
  ·rw[n]at r;cases r
 have hm:∀b u,H b=some u->¬Mut (some u)->b≠x:=fun b u q nm z=>by subst z;rw[q]at mu;exact nm mu
 refine⟨fun b u q n _ _=>k b u (hb b n) q,fun b u q n _ _=>⟨u.slots,k b u (hb b n) q⟩,fun b u q n _=>by rw[dX (hx b n)];exact n,fun b u q _=> ?_,
  fun b xs q=>by rw[dX (hm b _ q fun z=>z)];exact q,fun b u xs q=>by rw[dX (hm b _ q fun z=>z)];exact q,fun b ps q=>⟨#[],by rw[dX (hm b _ q fun z=>z),q];simp⟩⟩
 by_cases hbe:b=e
 ·subst hbe;exact heo
 ·exact⟨u,k b u hbe q⟩
end
def trk(h:Heap)(H:Hp):List Addr:=(List.range h.objs.size).filter fun a=>(H a).isSome
def hidT(h:Heap)(H:Hp):Heap:=PySem.W.hideAll h (trk h H)
theorem hidT_size(h:Heap)(H:Hp):(hidT h H).objs.size=h.objs.size:=PySem.W.hideAll_size _ _
theorem hidT_get{h:Heap}{H:Hp}{b:Addr}{o:Obj}(e:h.get? b=some o)(n:H b=none):(hidT h H).get? b=some o:=
 PySem.W.hideAll_get _ e fun hm=>by
  have q:(H b).isSome=true:=(lY.mp hm).2
  rw[n]at q;simp at q
theorem of_hidT{h:Heap}{H:Hp}{b:Addr}{o:Obj}(e:(hidT h H).get? b=some o):h.get? b=some o/\H b=none:=by
 have e':h.get? b=some o:=PySem.W.of_hideAll (trk h H) e
 refine⟨e',?_⟩
 cases q:H b with
 |none=>rfl
 |some x=>
  have hm:b∈trk h H:=lY.mpr ⟨uw.mpr (dw e'),by simp[q]⟩
  have z:(hidT h H).get? b=none:=PySem.W.hideAll_none (trk h H) hm
  rw[z]at e;cases e
structure Mod(K:W.Frag)(mg:Str->Option Value)(base:Heap):Prop where
 kin:K.In base
 glob:base.Ns mainGlobals mg
 blt:∃mb,base.Ns builtinsNs mb/\∀x:Str,x≠"__name__"->mb x=bootBuiltins x
 nolimit:base.NoLimit
structure Cx where
 prog:Program
 w:World
 K:W.Frag
 mg:Str->Option Value
 base:Heap
 A:Around
 N:List Str
 s₀:Shared
 H₀:Hp
 env:Env
 outer:List Env
 stack:List Env
 ex:List Addr
 fn:Str->Bool
 calm:Bool
 pn:List (Addr×Obj)
 xe:Value->Shared->Prop
def frs(l:List Env):List Addr:=l.filterMap (·.frame)
abbrev Cx.fs(X:Cx):List Addr:=frs X.outer
def Vis(sc:Scope)(x:Str):Prop:=sc.names.lookup x=some .local\/sc.names.lookup x=some .cell\/sc.names.lookup x=some .free
def Loc(sc:Scope)(x:Str):Prop:=sc.names.lookup x=some .local\/sc.names.lookup x=some .cell
def Look(env:Env)(h:Heap)(m:Str->Option Value)(x:Str)(u:Value):Prop:=
 (env.kindOf x=some .local/\m x=some u)\/((env.kindOf x=some .cell\/env.kindOf x=some .free)/\∃c,env.cells.lookup x=some c/\h.IsCell c (some u))
structure Cx.Ok(X:Cx):Prop where
 mod:Mod X.K X.mg X.base
 kind:X.env.scope.kind= .function
 glob:X.env.globals=mainGlobals
 blt:X.env.builtins=builtinsNs
 above:X.s₀.heap.objs.size<=X.env.locals
 inj:∀x y c,X.env.cells.lookup x=some c->X.env.cells.lookup y=some c->x=y
 has:∀x,(X.env.kindOf x=some .cell\/X.env.kindOf x=some .free)->∃c,X.env.cells.lookup x=some c
 cab:∀x c,X.fn x=true->X.env.cells.lookup x=some c->X.s₀.heap.objs.size<=c
 hd:X.calm=true->X.A.handled=none
 frames:X.A.frames=some X.stack
 stk:X.stack=X.outer\/(X.stack=X.env::X.outer/\X.env.frame=some X.env.locals)
 exf:∀b∈X.ex,b≠X.env.locals/\∀x c,X.env.cells.lookup x=some c->c≠b
 bs:∀b o,X.base.get? b=some o->X.s₀.heap.get? b=some o/\X.H₀ b=none
 bsz:X.base.objs.size<=X.s₀.heap.objs.size
 noex:∀b o,X.base.get? b=some o->b∉X.ex
 exfs:∀b∈X.ex,b∉X.fs
 funs:X.s₀.heap.FunFrames X.base X.outer
 frf:∀b∈X.fs,X.H₀ b=none
structure Inv(X:Cx)(pins:List (Addr×Obj))(σ:List (Option V))(H:Hp)(s:Shared):Prop where
 ok:X.Ok
 os:s.os=X.s₀.os
 bare:AllBare s.gens
 base:Un X.fs X.ex X.H₀ H X.s₀.heap s.heap
 loc:∃m,s.heap.Ns X.env.locals m/\∀(i:Nat) (x:Str) (v:V),X.N[i]? =some x->σ[i]? =some (some v)->Vis X.env.scope x->∃u,RelV v u/\Look X.env s.heap m x u
 cell:∀x c,X.env.cells.lookup x=some c->∃v,s.heap.IsCell c v
 free:H X.env.locals=none
 freeC:∀x c,X.env.cells.lookup x=some c->H c=none
 pin:∀p∈X.pn++pins,s.heap.get? p.1=some p.2/\H p.1=none/\p.1≠X.env.locals/\p.1∉X.fs/\∀v,p.2.data≠.cell v
 hok:HOk X.prog X.w H s.heap
 len:σ.length=X.N.length
section
variable{X:Cx}{pins:List (Addr×Obj)}{σ:List (Option V)}{H H':Hp}{s:Shared}{h':Heap}
theorem Cx.Ok.nofr(ok:X.Ok){b:Addr}{o:Obj}(e:X.base.get? b=some o):b∉X.fs:=fun hb=>by
 have:=(ok.funs.mem hb).1
 rw[e]at this;cases this
theorem Inv.bs(I:Inv X pins σ H s):∀b o,X.base.get? b=some o->s.heap.get? b=some o/\H b=none:=fun b o e=>
 ⟨I.base.keep b o (I.ok.bs b o e).1 (I.ok.bs b o e).2 (I.ok.nofr e) (I.ok.noex b o e),I.base.free b o (I.ok.bs b o e).1 (I.ok.bs b o e).2 (I.ok.noex b o e)⟩
theorem Inv.bk(I:Inv X pins σ H s):∀b o,X.base.get? b=some o->s.heap.get? b=some o:=fun b o e=>(I.bs b o e).1
theorem Inv.mod(I:Inv X pins σ H s):Mod X.K X.mg X.base:=I.ok.mod
theorem Inv.kIn(I:Inv X pins σ H s):X.K.In s.heap:=I.ok.mod.kin.keeps I.bk
theorem Inv.lt(I:Inv X pins σ H s):X.env.locals<s.heap.objs.size:=let⟨_,hn,_⟩:=I.loc;hn.lt
theorem Inv.sz(I:Inv X pins σ H s):X.s₀.heap.objs.size<=s.heap.objs.size:=gJ I.ok.above (Mi I.lt)
theorem Inv.nofs(I:Inv X pins σ H s){a:Addr}(h:s.heap.objs.size<=a):a∉X.fs:=fun hb=>by
 obtain⟨_,o,ho,_⟩:=I.ok.funs.mem hb
 exact absurd (mQ (dw ho) (gJ I.sz h)) (yS _)
theorem Inv.cne(I:Inv X pins σ H s):∀x c,X.env.cells.lookup x=some c->c≠X.env.locals:=fun x c e z=>by
 obtain⟨v,o,ho,hd⟩:=I.cell x c e
 obtain⟨m,⟨o',es,ep,ho',hd',_⟩,_⟩:=I.loc
 rw[z,ho']at ho;cases ho;rw[hd']at hd;cases hd
theorem Inv.funs(I:Inv X pins σ H s):s.heap.FunFrames X.base X.outer:=by
 have all:∀(l:List Env),(∀b∈frs l,b∈X.fs)->X.s₀.heap.FunFrames X.base l->s.heap.FunFrames X.base l:=by
  intro l
  induction l with
  |nil=>intro _ _;trivial
  |cons env r ih=>
   intro hs hl
   obtain⟨hk,⟨L,o,hf,hn,ho,hd⟩,hr⟩:=hl
   have hL:L∈X.fs:=hs L (by unfold frs;rw[wdf,hf];exact jl)
   obtain⟨sl,e⟩:=I.base.slot L o ho (I.ok.frf L hL) hL fun z=>I.ok.exfs L z hL
   exact⟨hk,⟨L,_,hf,hn,e,hd⟩,ih (fun b hb=>hs b (by unfold frs;rw[wdf,hf];exact lZ _ hb)) hr⟩
 exact all X.outer (fun _ hb=>hb) I.ok.funs
theorem Inv.stack(I:Inv X pins σ H s):s.heap.FunFrames X.base X.stack:=by
 rcases I.ok.stk with e|⟨e,hf⟩
 ·rw[e];exact I.funs
 ·rw[e]
  obtain⟨m,hn,_⟩:=I.loc
  refine .cons (by rw[I.ok.kind];decide) hf hn ?_ I.funs
  exact Heap.get?_none_of_le (gJ I.ok.bsz I.ok.above)
theorem Inv.stkSub(I:Inv X pins σ H s):∀b∈frs X.stack,b∈X.env.locals::X.fs:=fun b hb=>by
 rcases I.ok.stk with e|⟨e,hf⟩
 ·rw[e]at hb;exact lZ _ hb
 ·rw[e]at hb
  unfold frs at hb
  rw[wdf,hf]at hb
  exact hb
theorem Inv.stkFree(I:Inv X pins σ H s):∀b∈frs X.stack,H b=none:=fun b hb=>by
 rcases cT.mp (I.stkSub b hb)with e|hb
 ·rw[e];exact I.free
 ·obtain⟨_,o,ho,_⟩:=I.ok.funs.mem hb
  exact I.base.free b o ho (I.ok.frf b hb) fun z=>I.ok.exfs b z hb
theorem Inv.step{g':Array GenState}{t':Nat}{d':Drawn}{ch:List Addr}(I:Inv X pins σ H s)(hch:∀b∈ch,(b∈X.ex\/X.s₀.heap.objs.size<=b)/\b≠X.env.locals/\(∀x c,X.env.cells.lookup x=some c->c≠b)/\∀p∈X.pn++pins,p.1≠b)(keep:∀b o,b≠X.env.locals->b∉X.fs->b∉ch->s.heap.get? b=some o->H b=none->h'.get? b=some o)(slot:∀b o,b≠X.env.locals->b∈X.fs->b∉ch->s.heap.get? b=some o->H b=none->∃sl,h'.get? b=some {o with slots:=sl})(free:∀b o,b∉ch->s.heap.get? b=some o->H b=none->H' b=none)(there:∀b o,b∉ch->s.heap.get? b=some o->∃o',h'.get? b=some o')(tups:∀b xs,H b=some (.tup xs)->H' b=some (.tup xs))(frzs:∀b o u,H b=some (.frz o u)->H' b=some (.frz o u))(tbls:∀b ps,H b=some (.tbl ps)->∃more,H' b=some (.tbl (ps++more)))(ns:∀m,s.heap.Ns X.env.locals m->h'.Ns X.env.locals m)(hok:HOk X.prog X.w H' h')(hg:AllBare g'):
  Inv X pins σ H' {s with heap:=h',gens:=g',drawn:=d',toks:=t'}:=by
 have neL:∀b o,X.s₀.heap.get? b=some o->b≠X.env.locals:=fun b o e=>fU (mQ (dw e) I.ok.above)
 have neC:∀b o,X.s₀.heap.get? b=some o->b∉X.ex->b∉ch:=fun b o e hx hb=>by
  rcases(hch b hb).1 with z|z
  ·exact hx z
  ·exact absurd (mQ (dw e) z) (yS _)
 have cellK:∀x c,X.env.cells.lookup x=some c->∀v,s.heap.IsCell c v->h'.IsCell c v:=fun x c e v ⟨o,ho,hd⟩=>by
  have nch:c∉ch:=fun z=>(hch c z).2.2.1 x c e rfl
  by_cases hc:c∈X.fs
  ·obtain⟨sl,q⟩:=slot c o (I.cne x c e) hc nch ho (I.freeC x c e)
   exact⟨_,q,hd⟩
  ·exact⟨o,keep c o (I.cne x c e) hc nch ho (I.freeC x c e),hd⟩
 refine⟨I.ok,I.os,hg,⟨fun b o e n hb hx=> ?_,fun b o e n hb hx=> ?_,fun b o e n hx=> ?_,fun b o e hx=> ?_,fun b xs e=>tups b xs (I.base.tups b xs e),fun b o xs e=>frzs b o xs (I.base.frzs b o xs e),fun b ps e=> ?_⟩,?_,fun x c e=> ?_,?_,fun x c e=> ?_,fun p hp=> ?_,hok,I.len⟩
 ·exact keep b o (neL b o e) hb (neC b o e hx) (I.base.keep b o e n hb hx) (I.base.free b o e n hx)
 ·obtain⟨sl,e1⟩:=I.base.slot b o e n hb hx
  obtain⟨sl',e2⟩:=slot b _ (neL b o e) hb (neC b o e hx) e1 (I.base.free b o e n hx)
  exact⟨sl',e2⟩
 ·obtain⟨o',e1⟩:=I.base.there b o e hx
  exact free b o' (neC b o e hx) e1 (I.base.free b o e n hx)
 ·obtain⟨o',e1⟩:=I.base.there b o e hx
  exact there b o' (neC b o e hx) e1
 ·obtain⟨m1,e1⟩:=I.base.tbls b ps e
  obtain⟨m2,e2⟩:=tbls b _ e1
  exact⟨m1++m2,by rw[e2,Array.append_assoc]⟩
 ·obtain⟨m,hn,hl⟩:=I.loc
  refine⟨m,ns m hn,fun i x v e1 e2 e3=> ?_⟩
  obtain⟨u,r,l⟩:=hl i x v e1 e2 e3
  refine⟨u,r,?_⟩
  rcases l with l|⟨k,c,e,z⟩
  ·exact .inl l
  ·exact .inr ⟨k,c,e,cellK x c e _ z⟩
 ·obtain⟨v,z⟩:=I.cell x c e
  exact⟨v,cellK x c e v z⟩
 ·obtain⟨m,⟨o,_,_,ho,_⟩,_⟩:=I.loc
  exact free _ o (fun z=>(hch _ z).2.1 rfl) ho I.free
 ·obtain⟨v,o,ho,hd⟩:=I.cell x c e
  exact free c o (fun z=>(hch c z).2.2.1 x c e rfl) ho (I.freeC x c e)
 ·obtain⟨e,n,ne,nf,d⟩:=I.pin p hp
  have nch:p.1∉ch:=fun z=>(hch p.1 z).2.2.2 p hp rfl
  exact⟨keep p.1 p.2 ne nf nch e n,free p.1 p.2 nch e n,ne,nf,d⟩
theorem Inv.un{t':Nat}(I:Inv X pins σ H s)(u:Un X.fs [] H H' s.heap h')(hok:HOk X.prog X.w H' h'):Inv X pins σ H' {s with heap:=h',toks:=t'}:=by
 obtain⟨m,⟨o,es,ep,ho,r⟩,_⟩:=id I.loc
 obtain⟨sl,hL⟩:=u.any ho I.free (by simp)
 exact I.step (g':=s.gens) (d':=s.drawn) (ch:=[]) (fun _ z=>nomatch z) (fun b o _ hb _ e n=>u.keep b o e n hb (by simp)) (fun b o _ hb _ e n=>u.slot b o e n hb (by simp)) (fun b o _ e n=>u.free b o e n (by simp)) (fun b o _ e=>u.there b o e (by simp)) u.tups u.frzs u.tbls (fun m' hm=>by
  obtain⟨o',es',ep',ho',r'⟩:=hm
  rw[ho]at ho';cases ho'
  exact⟨_,es',ep',hL,r'⟩) hok I.bare
theorem Inv.call{g':Array GenState}{t':Nat}{d':Drawn}{ch:List Addr}(I:Inv X pins σ H s)(u:Un (frs X.stack) ch H H' s.heap h')(hok:HOk X.prog X.w H' h')(hg:AllBare g')(hch:∀b∈ch,(b∈X.ex\/X.s₀.heap.objs.size<=b)/\b≠X.env.locals/\(∀x c,X.env.cells.lookup x=some c->c≠b)/\∀p∈X.pn++pins,p.1≠b):
  Inv X pins σ H' {s with heap:=h',gens:=g',drawn:=d',toks:=t'}:=by
 obtain⟨m,⟨o,es,ep,ho,r⟩,_⟩:=id I.loc
 obtain⟨sl,hL⟩:=u.any ho I.free fun z=>(hch _ z).2.1 rfl
 exact I.step (ch:=ch) hch (fun b o hL hb hc e n=>u.keep b o e n (fun z=>(cT.mp (I.stkSub b z)).elim hL hb) hc) (fun b o _ _ hc e n=>u.any e n hc) (fun b o hc e n=>u.free b o e n hc) (fun b o hc e=>u.there b o e hc) u.tups u.frzs u.tbls (fun m' hm=>by
  obtain⟨o',es',ep',ho',r'⟩:=hm
  rw[ho]at ho';cases ho'
  exact⟨_,es',ep',hL,r'⟩) hok hg
theorem Inv.turned{t':Nat}{it:Addr}(I:Inv X pins σ H s)(k:∀b o,b≠it->s.heap.get? b=some o->h'.get? b=some o)(hn:H it=none)(hL:it≠X.env.locals)(h1:it∈X.ex\/X.s₀.heap.objs.size<=it)(h2:∀x c,X.env.cells.lookup x=some c->c≠it)(h3:∀p∈X.pn++pins,p.1≠it):Inv X pins σ H {s with heap:=h',toks:=t'}:=by
 have nit:∀b u,H b=some u->b≠it:=fun b u e z=>by rw[z,hn]at e;cases e
 refine I.step (g':=s.gens) (d':=s.drawn) (ch:=[it]) (fun b hb=> ?_) (fun b o _ _ hc e _=>k b o (fun z=>hc (by simp[z])) e) (fun b o _ _ hc e _=>⟨o.slots,k b o (fun z=>hc (by simp[z])) e⟩) (fun _ _ _ _ n=>n)
  (fun b o hc e=>⟨o,k b o (fun z=>hc (by simp[z])) e⟩) (fun _ _ e=>e) (fun _ _ _ e=>e) (fun b ps e=>⟨#[],by rw[e];simp⟩) (fun m hm=> ?_) (fun b u e=> ?_) I.bare
 ·have e:b=it:=by simpa using hb
  subst e
  exact⟨h1,hL,h2,h3⟩
 ·obtain⟨o,es,ep,ho,r⟩:=hm
  exact⟨o,es,ep,k _ o (zF hL) ho,r⟩
 ·refine(I.hok b u e).stay (fun c v hc q=>k c v ?_ q) (fun _ q=>q) fun _ _ q=>q
  rcases hc with z|z
  ·rw[z];exact nit b u e
  ·exact nit c _ z
theorem Inv.tok(I:Inv X pins σ H s)(t:Nat):Inv X pins σ H {s with toks:=t}:=I.un (h':=s.heap) (t':=t) Un.refl I.hok
theorem Inv.kept{t':Nat}(I:Inv X pins σ H s)(k:∀b u,s.heap.get? b=some u->h'.get? b=some u):Inv X pins σ H {s with heap:=h',toks:=t'}:=I.un (Un.kept k) (I.hok.kept k)
theorem Inv.laid{a:Addr}{o:HO}{t':Nat}(I:Inv X pins σ H s)(k:∀b u,s.heap.get? b=some u->h'.get? b=some u)(hp:s.heap.objs.size<=a)(new:ObjOk X.prog X.w (upd H a o) h' a o):
  Inv X pins σ (upd H a o) {s with heap:=h',toks:=t'}:=I.un (Un.laid k hp (I.hok.fresh hp)) (I.hok.laid k hp new)
theorem Inv.write{x e:Addr}{o:HO}{t':Nat}(I:Inv X pins σ H s)(mu:Mut (H x))(he:e=x\/H e=some (.own x))(k:∀b u,b≠e->s.heap.get? b=some u->h'.get? b=some u)(heo:∃u,h'.get? e=some u)(new:ObjOk X.prog X.w (upd H x o) h' x o):Inv X pins σ (upd H x o) {s with heap:=h',toks:=t'}:=I.un (Un.write mu he k heo) (I.hok.write mu he k heo new)
theorem Inv.pins_of{pins':List (Addr×Obj)}(I:Inv X pins σ H s)(h:∀p∈pins',s.heap.get? p.1=some p.2/\H p.1=none/\p.1≠X.env.locals/\p.1∉X.fs/\∀v,p.2.data≠.cell v):Inv X pins' σ H s:=
 ⟨I.ok,I.os,I.bare,I.base,I.loc,I.cell,I.free,I.freeC,fun p hp=>(fj.mp hp).elim (fun z=>I.pin p (M7 _ z)) (h p),I.hok,I.len⟩
theorem nodup_ix{N:List Str}(hN:N.Nodup){i j:Nat}{x:Str}(a:N[i]? =some x)(b:N[j]? =some x):i=j:=by
 obtain⟨h1,e1⟩:=Aq.mp a
 obtain⟨h2,e2⟩:=Aq.mp b
 exact(Vn hN).mp (e1.trans e2.symm)
theorem store_ok2{M:Model}{A:Around}{E:Value->Shared->Prop}{i:Nat}{x:Str}{v:V}{u:Value}{Q:Unit->Shared->Prop}(I:Inv X pins σ H s)(hN:X.N.Nodup)(hi:X.N[i]? =some x)(hx:Loc X.env.scope x)(r:RelV v u)(h:∀s',Inv X pins (σ.set i (some v)) H s'->(∃a,Heap.SameBut a s.heap s'.heap/\(a=X.env.locals\/X.env.cells.lookup x=some a))->Q () s')(hf:X.fn x=true\/X.env.scope.names.lookup x=some .local:=by first |exact .inl rfl|exact .inr rfl|assumption):wpAny M A (storeName X.env x u) Q E s:=by
 obtain⟨m,hn,hl⟩:=id I.loc
 have hcls:(X.env.scope.kind== .class||(X.env.scope.kind== .module&&X.env.locals !=X.env.globals))=false:=by rw[I.ok.kind];rfl
 have hiσ:i<σ.length:=by rw[I.len];exact(Aq.mp hi).1
 have cne:=I.cne
 have tracked:∀{a:Addr} {h':Heap},(∃o,s.heap.get? a=some o/\H a=none)->Heap.SameBut a s.heap h'->HOk X.prog X.w H h':=fun{a h'} ha hs b ob e=>by
  obtain⟨_,_,hfree⟩:=ha
  refine(I.hok b ob e).stay (fun c w' hc q=>(hs.2 c ?_).trans q) (fun _ q=>q) fun _ _ q=>q
  rintro rfl
  rcases hc with rfl|hc
  ·rw[hfree]at e;cases e
  ·rw[hfree]at hc;cases hc
 rcases hx with hk|hk
 ·refine wpAny_storeName_local hk hn (fun h' hn' hs=> ?_) hcls
  obtain⟨oL,_,_,hoL,_⟩:=id hn
  refine h _ ⟨I.ok,I.os,I.bare,⟨fun b o e n hb hx=> ?_,fun b o e n hb hx=> ?_,I.base.free,fun b o e hx=> ?_,I.base.tups,I.base.frzs,I.base.tbls⟩,⟨_,hn',fun j y v' e1 e2 e3=> ?_⟩,fun y c e=> ?_,I.free,I.freeC,fun p hp=> ?_,tracked ⟨oL,hoL,I.free⟩ hs,by simpa using I.len⟩ ⟨_,hs,.inl rfl⟩
  ·exact(hs.2 b (fU (mQ (dw e) I.ok.above))).trans (I.base.keep b o e n hb hx)
  ·obtain⟨sl,e1⟩:=I.base.slot b o e n hb hx
   exact⟨sl,(hs.2 b (fU (mQ (dw e) I.ok.above))).trans e1⟩
  ·obtain⟨o',e1⟩:=I.base.there b o e hx
   exact⟨o',(hs.2 b (fU (mQ (dw e) I.ok.above))).trans e1⟩
  ·by_cases hj:j=i
   ·subst hj
    rw[hi]at e1;cases e1
    rw[wes hiσ]at e2
    cases e2
    exact⟨u,r,.inl ⟨hk,by simp⟩⟩
   ·rw[List.getElem?_set_ne (zF hj)]at e2
    obtain⟨u',r',q⟩:=hl j y v' e1 e2 e3
    refine⟨u',r',?_⟩
    rcases q with⟨k,e⟩|⟨k,c,e,z⟩
    ·refine .inl ⟨k,?_⟩
     have:y≠x:=fun e=>hj (nodup_ix hN e1 (e▸hi))
     simp[this,e]
    ·exact .inr ⟨k,c,e,z.sameBut hs (cne y c e)⟩
  ·obtain⟨w',z⟩:=I.cell y c e
   exact⟨w',z.sameBut hs (cne y c e)⟩
  ·obtain⟨e,n,ne,nf,d⟩:=I.pin p hp
   exact⟨(hs.2 p.1 ne).trans e,n,ne,nf,d⟩
 ·have hfn:X.fn x=true:=by
   rcases hf with z|z
   ·exact z
   ·rw[z]at hk;cases hk
  obtain⟨c,hc⟩:=I.ok.has x (.inl hk)
  obtain⟨w',z⟩:=I.cell x c hc
  refine wpAny_storeName_cell I.ok.kind hk hc z (fun h' hc' hs=> ?_)
  obtain⟨oc,hoc,hocd⟩:=id z
  refine h {s with heap:=h'} ⟨I.ok,I.os,I.bare,⟨fun b o e n hb hx=> ?_,fun b o e n hb hx=> ?_,I.base.free,fun b o e hx=> ?_,I.base.tups,I.base.frzs,I.base.tbls⟩,⟨m,hn.sameBut hs (zF (cne x c hc)),fun j y v' e1 e2 e3=> ?_⟩,fun y c' e=> ?_,I.free,I.freeC,fun p hp=> ?_,tracked ⟨oc,hoc,I.freeC x c hc⟩ hs,by simpa using I.len⟩ ⟨c,hs,.inr hc⟩
  ·exact(hs.2 b (fU (mQ (dw e) (I.ok.cab x c hfn hc)))).trans (I.base.keep b o e n hb hx)
  ·obtain⟨sl,e1⟩:=I.base.slot b o e n hb hx
   exact⟨sl,(hs.2 b (fU (mQ (dw e) (I.ok.cab x c hfn hc)))).trans e1⟩
  ·obtain⟨o',e1⟩:=I.base.there b o e hx
   exact⟨o',(hs.2 b (fU (mQ (dw e) (I.ok.cab x c hfn hc)))).trans e1⟩
  ·by_cases hj:j=i
   ·subst hj
    rw[hi]at e1;cases e1
    rw[wes hiσ]at e2
    cases e2
    exact⟨u,r,.inr ⟨.inl hk,c,hc,hc'⟩⟩
   ·rw[List.getElem?_set_ne (zF hj)]at e2
    obtain⟨u',r',q⟩:=hl j y v' e1 e2 e3
    refine⟨u',r',?_⟩
    rcases q with q|⟨k,c',e,z'⟩
    ·exact .inl q
    ·refine .inr ⟨k,c',e,z'.sameBut hs ?_⟩
     rintro rfl
     exact hj (nodup_ix hN e1 (I.ok.inj _ _ _ e hc▸hi))
  ·by_cases hcc:c'=c
   ·subst hcc;exact⟨_,hc'⟩
   ·obtain⟨w2,z2⟩:=I.cell y c' e
    exact⟨w2,z2.sameBut hs hcc⟩
  ·obtain⟨e,n,ne,nf,d⟩:=I.pin p hp
   refine⟨(hs.2 p.1 ?_).trans e,n,ne,nf,d⟩
   intro q
   rw[q,hoc]at e
   have q':oc=p.2:=Nb e
   exact d w' (by rw[<-q'];exact hocd)
theorem store_ok{M:Model}{A:Around}{E:Value->Shared->Prop}{i:Nat}{x:Str}{v:V}{u:Value}{Q:Unit->Shared->Prop}(I:Inv X pins σ H s)(hN:X.N.Nodup)(hi:X.N[i]? =some x)(hx:Loc X.env.scope x)(r:RelV v u)(h:∀s',Inv X pins (σ.set i (some v)) H s'->Q () s')(hf:X.fn x=true\/X.env.scope.names.lookup x=some .local:=by first |exact .inl rfl|exact .inr rfl|assumption):wpAny M A (storeName X.env x u) Q E s:=
 store_ok2 I hN hi hx r (fun s' I' _=>h s' I') hf
theorem Inv.call'{s':Shared}{ch:List Addr}(I:Inv X pins σ H s)(ho:s'.os=s.os)(u:Un (frs X.stack) ch H H' s.heap s'.heap)(hok:HOk X.prog X.w H' s'.heap)(hg:AllBare s'.gens)(hch:∀b∈ch,(b∈X.ex\/X.s₀.heap.objs.size<=b)/\b≠X.env.locals/\(∀x c,X.env.cells.lookup x=some c->c≠b)/\∀p∈X.pn++pins,p.1≠b):Inv X pins σ H' s':=by
 obtain⟨h',g',d',t',o'⟩:=s'
 have e:o'=s.os:=ho
 subst e
 exact I.call (g':=g') (t':=t') (d':=d') u hok hg hch
end
abbrev XK:=Value->Option Addr->Hp->Prop
abbrev St:=List (Option V)
abbrev VK:=V->Hp->Prop
abbrev TE:=St->Hp->VK->Prop
abbrev TT:=St->Hp->(Bool->Hp->Prop)->Prop
abbrev TA:=St->Hp->(List V->Hp->Prop)->Prop
structure Ends where
 nx:St->Hp->Prop
 rt:VK
 bk:St->Hp->Prop:=fun _ _=>False
 ct:St->Hp->Prop:=fun _ _=>False
abbrev TS:=Ends->St->Hp->Prop
def EP(X:Cx)(pins:List (Addr×Obj))(σ:St)(Q:VK)(u:Value)(s':Shared):Prop:=∃v H',Inv X pins σ H' s'/\RelV v u/\Q v H'
def TP(X:Cx)(pins:List (Addr×Obj))(σ:St)(Q:Bool->Hp->Prop)(b:Bool)(s':Shared):Prop:=∃H',Inv X pins σ H' s'/\Q b H'
def AP(X:Cx)(pins:List (Addr×Obj))(σ:St)(Q:List V->Hp->Prop)(us:List Value)(s':Shared):Prop:=∃vs H',Inv X pins σ H' s'/\Vals vs us/\Q vs H'
def SP(X:Cx)(pins:List (Addr×Obj))(D:Ends)(f:Flow)(s':Shared):Prop:=
 match f with
 | .next=>∃σ' H',Inv X pins σ' H' s'/\D.nx σ' H'
 | .brk=>∃σ' H',Inv X pins σ' H' s'/\D.bk σ' H'
 | .cont=>∃σ' H',Inv X pins σ' H' s'/\D.ct σ' H'
 | .ret u=>∃v σ' H',Inv X pins σ' H' s'/\RelV v u/\D.rt v H'
def PE(X:Cx)(e:Expr)(t:TE):Prop:=
 ∀(pins:List (Addr×Obj)) (s:Shared) (σ:St) (H:Hp) (Q:VK),Inv X pins σ H s->t σ H Q->wpAny (model X.prog X.w) X.A (eval e X.env) (EP X pins σ Q) X.xe s
def PT(X:Cx)(e:Expr)(t:TT):Prop:=
 ∀(pins:List (Addr×Obj)) (s:Shared) (σ:St) (H:Hp) (Q:Bool->Hp->Prop),Inv X pins σ H s->t σ H Q->wpAny (model X.prog X.w) X.A (isTrue e X.env (eval e X.env)) (TP X pins σ Q) X.xe s
def PW(X:Cx)(e:Expr)(t:TT):Prop:=
 ∀(whole:Sem Value) (pins:List (Addr×Obj)) (s:Shared) (σ:St) (H:Hp) (Q:Bool->Hp->Prop),Inv X pins σ H s->t σ H Q->wpAny (model X.prog X.w) X.A (isTrue e X.env whole) (TP X pins σ Q) X.xe s
theorem PW.pt{X:Cx}{e:Expr}{t:TT}(h:PW X e t):PT X e t:=h _
def PA(X:Cx)(es:List Expr)(t:TA):Prop:=
 ∀(pos:Pos) (pins:List (Addr×Obj)) (s:Shared) (σ:St) (H:Hp) (Q:List V->Hp->Prop),Inv X pins σ H s->t σ H Q->wpAny (model X.prog X.w) X.A (spliced (backTo pos (starEach es X.env))) (AP X pins σ Q) X.xe s
def PS(X:Cx)(st:Stmt)(t:TS):Prop:=
 ∀(pins:List (Addr×Obj)) (s:Shared) (σ:St) (H:Hp) (D:Ends),Inv X pins σ H s->t D σ H->wpAny (model X.prog X.w) X.A (exec st X.env) (SP X pins D) X.xe s
def PSs(X:Cx)(st:List Stmt)(t:TS):Prop:=
 ∀(pins:List (Addr×Obj)) (s:Shared) (σ:St) (H:Hp) (D:Ends),Inv X pins σ H s->t D σ H->wpAny (model X.prog X.w) X.A (execs st X.env) (SP X pins D) X.xe s
theorem thn{α:Type}{t:Sem α}{Q Q':α->Shared->Prop}{M:Model}{A:Around}{E:Value->Shared->Prop}{s:Shared}(h:wpAny M A t Q E s)(hQ:∀a s,Q a s->Q' a s):wpAny M A t Q' E s:=Mt h hQ fun _ _ x=>x
section
variable{X:Cx}
def tVar(i:Nat):TE:=fun σ H Q=>∃v,σ[i]? =some (some v)/\Q v H
def tC(v:V):TE:=fun _ H Q=>Q v H
theorem pe_var{i:Nat}{x:Str}{pos:Pos}(hN:X.N[i]? =some x)(hv:Vis X.env.scope x)(hd:(x==("__debug__":Str))=false:=by decide)(hcd:(x==("__classdict__":Str))=false:=by decide):PE X (.Name x pos) (tVar i):=by
 intro pins s σ H Q I h
 obtain⟨v,e,h⟩:=h
 obtain⟨m,hn,hl⟩:=I.loc
 obtain⟨u,r,l⟩:=hl i x v hN e hv
 have fin:EP X pins σ Q u s:=⟨v,H,I,r,h⟩
 rcases l with⟨hk,hm⟩|⟨hk,c,hc,hcell⟩
 ·exact wpAny_Name (wpAny_loadName_local I.ok.kind hk hn hm fin) hd
 ·rcases hk with hk|hk
  ·exact wpAny_Name (wpAny_loadName_cell I.ok.kind hk hc hcell fin) hd
  ·exact wpAny_Name (wpAny_loadName_free I.ok.kind hk hc hcell fin hcd) hd
theorem aY{i j pos}:PE X (.Constant (.int i) j pos) (tC (.int i)):=fun _ _ _ H _ I h=>wpAny_Constant_int ⟨.int i,H,I.tok _,⟨_,rfl⟩,h⟩
theorem pe_bl{b j pos}:PE X (.Constant (.bool b) j pos) (tC (.bl b)):=fun _ _ _ H _ I h=>Constant_bool ⟨.bl b,H,I,rfl,h⟩
theorem pe_non{j pos}:PE X (.Constant .none j pos) (tC .non):=fun _ _ _ H _ I h=>Constant_none ⟨.non,H,I,rfl,h⟩
theorem pe_str{x j pos}:PE X (.Constant (.str x) j pos) (tC (.str x)):=fun _ _ _ H _ I h=>Calls.Constant_str ⟨.str x,H,I.tok _,⟨_,rfl⟩,h⟩
def Gl(X:Cx)(x:Str):Prop:=X.env.kindOf x=some .globalImplicit
theorem ld_glob{E:Value->Shared->Prop}{pins:List (Addr×Obj)}{s:Shared}{σ:St}{H:Hp}{x:Str}{u:Value}{pos:Pos}{Q:Value->Shared->Prop}(I:Inv X pins σ H s)(hg:Gl X x)(hm:X.mg x=some u)(h:Q u s)(hd:(x==("__debug__":Str))=false:=by decide):wpAny (model X.prog X.w) X.A (eval (.Name x pos) X.env) Q E s:=
 Calls.Name_function_global I.ok.kind hg (Calls.loadGlobal_global (by rw[I.ok.glob];exact I.mod.glob.keeps I.bk) hm h) hd
theorem ld_blt{E:Value->Shared->Prop}{pins:List (Addr×Obj)}{s:Shared}{σ:St}{H:Hp}{x:Str}{u:Value}{pos:Pos}{Q:Value->Shared->Prop}(I:Inv X pins σ H s)(hg:Gl X x)(hm:X.mg x=none)(hv:bootBuiltins x=some u)(h:Q u s)(hn:x≠"__name__":=by decide)(hd:(x==("__debug__":Str))=false:=by decide):wpAny (model X.prog X.w) X.A (eval (.Name x pos) X.env) Q E s:=by
 obtain⟨mb,h1,h2⟩:=I.mod.blt
 exact Calls.Name_function_global I.ok.kind hg (Calls.loadGlobal_builtin (by rw[I.ok.glob];exact I.mod.glob.keeps I.bk) hm (by rw[I.ok.blt];exact h1.keeps I.bk) ((h2 x hn).trans hv) h) hd
theorem CG{x:Str}{v:V}{u:Value}{pos:Pos}(hg:Gl X x)(hm:X.mg x=some u)(r:RelV v u)(hd:(x==("__debug__":Str))=false:=by decide):PE X (.Name x pos) (tC v):=
 fun _ _ _ H _ I h=>ld_glob I hg hm ⟨v,H,I,r,h⟩ hd
theorem pe_bltn{x:Str}{v:V}{u:Value}{pos:Pos}(hg:Gl X x)(hm:X.mg x=none)(hv:bootBuiltins x=some u)(r:RelV v u)(hn:x≠"__name__":=by decide)(hd:(x==("__debug__":Str))=false:=by decide):PE X (.Name x pos) (tC v):=
 fun _ _ _ H _ I h=>ld_blt I hg hm hv ⟨v,H,I,r,h⟩ hn hd
variable{a b:Expr}{ta tb:TE}{pos:Pos}
def tB(t:TE):TT:=fun σ H Q=>t σ H fun x H1=>∃c,x= .bl c/\Q c H1
theorem pt_val{e:Expr}{t:TE}(h:PE X e t)(he:∀whole,isTrue e X.env whole=(do let v<-whole;standAt e.pos;holding [v] (truthy v)):=by intro _;rfl):PT X e (tB t):=by
 intro pins s σ H Q I hw
 refine isTrue_plain (thn (h pins s σ H _ I hw) fun v s1 ⟨x,H1,I1,r1,q1⟩=> ?_) (he _)
 obtain⟨d,rfl,q⟩:=q1
 cases r1
 exact Nf ⟨H1,I1,q⟩
variable{tA tB':TT}{rest:List Expr}
def tAnd(t u:TT):TT:=fun σ H Q=>t σ H fun c H1=>if c=true then u σ H1 Q else Q false H1
def tOr(t u:TT):TT:=fun σ H Q=>t σ H fun c H1=>if c=true then Q true H1 else u σ H1 Q
def tNot(t:TT):TT:=fun σ H Q=>t σ H fun c H1=>Q (!c) H1
theorem pw_and1(ha:PT X a tA):PW X (.BoolOp .And [a] pos) tA:=by
 intro wh pins s σ H Q I h
 refine isTrue_and (thn (ha pins s σ H Q I h) fun c s1 e=> ?_)
 cases c with
 |true=>exact isTrue_and_nil e
 |false=>exact e
theorem pw_or1(ha:PT X a tA):PW X (.BoolOp .Or [a] pos) tA:=by
 intro wh pins s σ H Q I h
 refine isTrue_or (thn (ha pins s σ H Q I h) fun c s1 e=> ?_)
 cases c with
 |false=>exact isTrue_or_nil e
 |true=>exact e
theorem pw_and(ha:PT X a tA)(hb:PW X (.BoolOp .And (b::rest) pos) tB'):PW X (.BoolOp .And (a::b::rest) pos) (tAnd tA tB'):=by
 intro wh pins s σ H Q I h
 refine isTrue_and (thn (ha pins s σ H _ I h) fun c s1 ⟨H1,I1,q1⟩=> ?_)
 cases c with
 |true=>exact hb wh pins s1 σ H1 Q I1 q1
 |false=>exact⟨H1,I1,q1⟩
theorem pw_or(ha:PT X a tA)(hb:PW X (.BoolOp .Or (b::rest) pos) tB'):PW X (.BoolOp .Or (a::b::rest) pos) (tOr tA tB'):=by
 intro wh pins s σ H Q I h
 refine isTrue_or (thn (ha pins s σ H _ I h) fun c s1 ⟨H1,I1,q1⟩=> ?_)
 cases c with
 |true=>exact⟨H1,I1,q1⟩
 |false=>exact hb wh pins s1 σ H1 Q I1 q1
theorem pt_not(ha:PT X a tA):PT X (.UnaryOp .Not a pos) (tNot tA):=by
 intro pins s σ H Q I h
 exact isTrue_not (ha pins s σ H (fun c H1=>Q (!c) H1) I h)
def tAndV(ta tb:TE):TE:=fun σ H Q=>ta σ H fun x H1=>∃c,x= .bl c/\if c=true then tb σ H1 Q else Q (.bl false) H1
def tNotV(ta:TE):TE:=fun σ H Q=>ta σ H fun x H1=>∃c,x= .bl c/\Q (.bl (!c)) H1
theorem pe_one{op}{t:TE}(h:PE X a t):PE X (.BoolOp op [a] pos) t:=fun pins s σ H Q I hw=>BoolOp_one (h pins s σ H Q I hw)
theorem pe_and(ha:PE X a ta)(hb:PE X (.BoolOp .And (b::rest) pos) tb):PE X (.BoolOp .And (a::b::rest) pos) (tAndV ta tb):=by
 intro pins s σ H Q I h
 refine BoolOp_and (thn (ha pins s σ H _ I h) fun v s1 ⟨x,H1,I1,r1,q1⟩=> ?_)
 obtain⟨c,rfl,q1⟩:=q1
 cases r1
 refine Nf ?_
 cases c with
 |true=>exact hb pins s1 σ H1 Q I1 q1
 |false=>exact⟨.bl false,H1,I1,rfl,q1⟩
theorem pe_not(ha:PE X a ta):PE X (.UnaryOp .Not a pos) (tNotV ta):=by
 intro pins s σ H Q I h
 refine UnaryOp_ (thn (ha pins s σ H _ I h) fun v s1 ⟨x,H1,I1,r1,q1⟩=> ?_)
 obtain⟨c,rfl,q1⟩:=q1
 cases r1
 exact not_of (Nf ⟨.bl (!c),H1,I1,rfl,q1⟩)
end
def SqL(K:W.Frag)(H:Hp)(a:Addr)(xs:List V):Prop:=
 Rd H a (.lst xs)\/
  ∃(o:Obj) (its:Array Value) (n:Nat),K.lookup a=some o/\o.cls= .type "list"/\o.dict=none/\o.data= .seq its n/\its.size<=sizeLine/\Vals xs its.toList
def SqT(K:W.Frag)(H:Hp)(a:Addr)(xs:List V):Prop:=
 Rd H a (.tup xs)\/
  ∃(o:Obj) (its:Array Value) (n:Nat),K.lookup a=some o/\o.cls= .type "tuple"/\o.data= .seq its n/\its.size<=sizeLine/\Vals xs its.toList
def absV:Value->Option V
 | .none=>some .non
 | .bool b=>some (.bl b)
 | .int i _=>some (.int i)
 | .str x _=>some (.str x)
 | .bytes b _=>some (.byt b)
 | .float b _=>some (.flt b)
 | .ref a=>some (.ref a)
 | .type n=>some (.ty n)
 |_=>none
theorem RelV.abs{x:V}{u:Value}(r:RelV x u):absV u=some x:=by
 cases x with
 |non=>cases r;rfl
 |bl _=>cases r;rfl
 |int _=>obtain⟨t,rfl⟩:=r;rfl
 |str _=>obtain⟨t,rfl⟩:=r;rfl
 |byt _=>obtain⟨t,rfl⟩:=r;rfl
 |flt _=>obtain⟨t,rfl⟩:=r;rfl
 |ref _=>cases r;rfl
 |ty _=>cases r;rfl
theorem RelV.inj{x y:V}{u:Value}(r:RelV x u)(q:RelV y u):x=y:=Nb (r.abs.symm.trans q.abs)
theorem Vals.inj{xs ys:List V}{us:List Value}(h:Vals xs us)(h':Vals ys us):xs=ys:=by
 induction h generalizing ys with
 |nil=>cases h';rfl
 |cons r _ ih=>cases h' with |cons r' t'=>rw[r.inj r',ih t']
section
variable{X:Cx}{pins:List (Addr×Obj)}{σ:St}{H:Hp}{s:Shared}{a:Addr}{xs ys:List V}
theorem SqL.of{K:W.Frag}(h:H a=some (.lst xs)):SqL K H a xs:= .inl (.inl h)
theorem SqT.of{K:W.Frag}(h:H a=some (.tup xs)):SqT K H a xs:= .inl (.inl h)
theorem Inv.list(I:Inv X pins σ H s)(h:SqL X.K H a xs):∃its:List Value,Vals xs its/\PlainL s.heap a its.toArray/\xs.length<=sizeLine:=by
 rcases h with h|⟨o,its,n,hk,hc,hd,hs,hz,r⟩
 ·obtain⟨z,its,n,r,e⟩:=h.ok I.hok
  exact⟨its,r,⟨_,n,e,rfl,rfl,rfl⟩,z⟩
 ·refine⟨its.toList,r,⟨o,n,I.kIn a o hk,hc,hd,by simpa using hs⟩,?_⟩
  have e:=r.length
  simp only[Uy]at e
  omega
theorem Inv.tuple(I:Inv X pins σ H s)(h:SqT X.K H a xs):∃its:List Value,Vals xs its/\IsTup s.heap a its.toArray/\xs.length<=sizeLine:=by
 rcases h with h|⟨o,its,n,hk,hc,hs,hz,r⟩
 ·obtain⟨z,its,r,p⟩:=h.ok I.hok
  exact⟨its,r,p,z⟩
 ·refine⟨its.toList,r,⟨o,I.kIn a o hk,hc,n,by simpa using hs⟩,?_⟩
  have e:=r.length
  simp only[Uy]at e
  omega
theorem Inv.list_inj(I:Inv X pins σ H s)(h:SqL X.K H a xs)(h':SqL X.K H a ys):xs=ys:=by
 obtain⟨its,r,⟨o,n,e,_,_,d⟩,_⟩:=I.list h
 obtain⟨its',r',⟨o',n',e',_,_,d'⟩,_⟩:=I.list h'
 rw[e]at e';cases e'
 rw[d]at d'
 injection d' with d1 _
 have:its=its':=by simpa using rH Array.toList d1
 subst this
 exact r.inj r'
theorem Inv.tuple_inj(I:Inv X pins σ H s)(h:SqT X.K H a xs)(h':SqT X.K H a ys):xs=ys:=by
 obtain⟨its,r,⟨o,e,_,n,d⟩,_⟩:=I.tuple h
 obtain⟨its',r',⟨o',e',_,n',d'⟩,_⟩:=I.tuple h'
 rw[e]at e';cases e'
 rw[d]at d'
 injection d' with d1 _
 have:its=its':=by simpa using rH Array.toList d1
 subst this
 exact r.inj r'
end
abbrev Cx.wish(X:Cx)(E:Value->Shared->Prop):Cx:={X with xe:=E}
abbrev Cx.nox(X:Cx):Cx:=X.wish fun _ _=>False
theorem Cx.Ok.wish{X:Cx}(ok:X.Ok)(E:Value->Shared->Prop):(X.wish E).Ok:=
 ⟨ok.mod,ok.kind,ok.glob,ok.blt,ok.above,ok.inj,ok.has,ok.cab,ok.hd,ok.frames,ok.stk,ok.exf,ok.bs,ok.bsz,ok.noex,ok.exfs,ok.funs,ok.frf⟩
theorem Cx.Ok.unwish{X:Cx}{E:Value->Shared->Prop}(ok:(X.wish E).Ok):X.Ok:=
 ⟨ok.mod,ok.kind,ok.glob,ok.blt,ok.above,ok.inj,ok.has,ok.cab,ok.hd,ok.frames,ok.stk,ok.exf,ok.bs,ok.bsz,ok.noex,ok.exfs,ok.funs,ok.frf⟩
section
variable{X:Cx}{pins:List (Addr×Obj)}{σ:St}{H:Hp}{s:Shared}{E:Value->Shared->Prop}
theorem Inv.wish(I:Inv X pins σ H s)(E:Value->Shared->Prop):Inv (X.wish E) pins σ H s:=⟨I.ok.wish E,I.os,I.bare,I.base,I.loc,I.cell,I.free,I.freeC,I.pin,I.hok,I.len⟩
theorem Inv.unwish(I:Inv (X.wish E) pins σ H s):Inv X pins σ H s:=⟨I.ok.unwish,I.os,I.bare,I.base,I.loc,I.cell,I.free,I.freeC,I.pin,I.hok,I.len⟩
theorem SP.unwish{D:Ends}{f:Flow}{s':Shared}(h:SP (X.wish E) pins D f s'):SP X pins D f s':=by
 cases f with
 |next=>obtain⟨σ',H',I,q⟩:=h;exact⟨σ',H',I.unwish,q⟩
 |brk=>obtain⟨σ',H',I,q⟩:=h;exact⟨σ',H',I.unwish,q⟩
 |cont=>obtain⟨σ',H',I,q⟩:=h;exact⟨σ',H',I.unwish,q⟩
 |ret u=>obtain⟨v,σ',H',I,r,q⟩:=h;exact⟨v,σ',H',I.unwish,r,q⟩
theorem PSs.nox{st:List Stmt}{t:TS}(h:PSs X.nox st t):PSs X st t:=fun pins s σ H D I hw=>
 Mt (h pins s σ H D (I.wish _) hw) (fun _ _ q=>q.unwish) fun _ _ z=>False.elim z
end
section
variable{X:Cx}{st:Stmt}{rest:List Stmt}{t u:TS}{e:Expr}{te:TE}{pos:Pos}
def tNext:TS:=fun D σ H=>D.nx σ H
def tSeq(t u:TS):TS:=fun D σ H=>t {D with nx:=u D} σ H
theorem ur:PSs X [] tNext:=fun _ _ σ H _ I h=>wdg ⟨σ,H,I,h⟩
theorem bh(h1:PS X st t)(h2:PSs X rest u):PSs X (st::rest) (tSeq t u):=by
 intro pins s σ H D I h
 refine wpAny_execs_cons (thn (h1 pins s σ H {D with nx:=u D} I h) fun f s1 q=> ?_)
 cases f with
 |next=>
  obtain⟨σ',H',I',q⟩:=q
  exact h2 pins s1 σ' H' D I' q
 |ret v=>exact q
 |brk=>exact q
 |cont=>exact q
theorem bB(h1:PS X st t):PSs X [st] t:=by
 intro pins s σ H D I h
 refine wpAny_execs_cons (thn (h1 pins s σ H D I h) fun f s1 q=> ?_)
 cases f with
 |next=>exact wdg q
 |ret v=>exact q
 |brk=>exact q
 |cont=>exact q
theorem Inv.quiet{pins:List (Addr×Obj)}{σ:St}{H:Hp}{s:Shared}(I:Inv X pins σ H s):interactive X.env=false:=by simp[interactive,I.ok.kind]
def tDrop(te:TE):TS:=fun D σ H=>te σ H fun _ H1=>D.nx σ H1
theorem jg(he:PE X e te)(hs:swapsWith e none pos.line X.env=pure false:=by rfl):PS X (.Expr e pos) (tDrop te):=by
 intro pins s σ H D I h
 exact wpAny_Expr_any (thn (he pins s σ H _ I h) fun v s1 ⟨x,H1,I1,r1,q1⟩=>⟨σ,H1,I1,q1⟩) I.quiet hs
def tRet(te:TE):TS:=fun D σ H=>te σ H D.rt
theorem bV(he:PE X e te):PS X (.Return (some e) pos) (tRet te):=by
 intro pins s σ H D I h
 exact wpAny_Return_some (thn (he pins s σ H _ I h) fun v s1 ⟨x,H1,I1,r1,q1⟩=>⟨x,σ,H1,I1,r1,q1⟩)
def tIfS(c:TT)(t u:TS):TS:=fun D σ H=>c σ H fun b H1=>if b=true then t D σ H1 else u D σ H1
theorem ps_if{c:Expr}{a b:List Stmt}{tc:TT}(hc:PT X c tc)(ha:PSs X a t)(hb:PSs X b u):PS X (.If c a b pos) (tIfS tc t u):=by
 intro pins s σ H D I h
 refine wpAny_If (thn (hc pins s σ H _ I h) fun d s1 ⟨H1,I1,q1⟩=> ?_)
 cases d with
 |true=>exact ha pins s1 σ H1 D I1 q1
 |false=>exact hb pins s1 σ H1 D I1 q1
def tNever:TS:=fun _ _ _=>False
theorem pss_never{sts:List Stmt}:PSs X sts tNever:=fun _ _ _ _ _ _ h=>h.elim
end
abbrev TG:=V->St->Hp->(St->Hp->Prop)->Prop
abbrev TGs:=List V->St->Hp->(St->Hp->Prop)->Prop
def PG(X:Cx)(target:Expr)(t:TG):Prop:=
 ∀(pins:List (Addr×Obj)) (s:Shared) (σ:St) (H:Hp) (v:V) (u:Value) (Q:St->Hp->Prop),Inv X pins σ H s->RelV v u->t v σ H Q->
  wpAny (model X.prog X.w) X.A (assign target X.env u) (fun _ s'=>∃σ' H',Inv X pins σ' H' s'/\Q σ' H') X.xe s
def PGs(X:Cx)(ts:List Expr)(t:TGs):Prop:=
 ∀(pins:List (Addr×Obj)) (s:Shared) (σ:St) (H:Hp) (vs:List V) (us:List Value) (Q:St->Hp->Prop),Inv X pins σ H s->Vals vs us->t vs σ H Q->
  wpAny (model X.prog X.w) X.A (assignInOrder ((assignEach ts X.env).map (·.2)) us) (fun _ s'=>∃σ' H',Inv X pins σ' H' s'/\Q σ' H') X.xe s
section
variable{X:Cx}{pos:Pos}
def gName(i:Nat):TG:=fun v σ H Q=>Q (σ.set i (some v)) H
theorem dD{i:Nat}{x:Str}(hN:X.N.Nodup)(hi:X.N[i]? =some x)(hx:Loc X.env.scope x)(hf:X.fn x=true\/X.env.scope.names.lookup x=some .local:=by first |exact .inl rfl|exact .inr rfl|assumption):PG X (.Name x pos) (gName i):=by
 intro pins s σ H v u Q I r h
 exact wpAny_assign_Name (store_ok I hN hi hx r (fun s' I'=>⟨_,H,I',h⟩) hf)
def gNil:TGs:=fun vs σ H Q=>vs=[]/\Q σ H
def gCons(t:TG)(u:TGs):TGs:=fun vs σ H Q=>∃v r,vs=v::r/\t v σ H fun σ' H'=>u r σ' H' Q
theorem pgs_nil:PGs X [] gNil:=by
 intro pins s σ H vs us Q I r h
 obtain⟨e,h⟩:=h
 subst e
 cases r
 exact assignInOrder_nil ⟨σ,H,I,h⟩
theorem zA{e:Expr}{es:List Expr}{t:TG}{u:TGs}(h1:PG X e t)(h2:PGs X es u)(hs:(assignEach (e::es) X.env).map (·.2)=assign e X.env::(assignEach es X.env).map (·.2):=by rfl):PGs X (e::es) (gCons t u):=by
 intro pins s σ H vs us Q I r h
 obtain⟨v,vr,e1,h⟩:=h
 subst e1
 cases r with
 |cons r rr=>
  rw[hs]
  refine assignInOrder_cons (thn (h1 pins s σ H _ _ _ I r h) fun _ s1 ⟨σ1,H1,I1,q1⟩=> ?_)
  exact h2 pins s1 σ1 H1 _ _ Q I1 rr q1
def gTup(K:W.Frag)(n:Nat)(t:TGs):TG:=fun v σ H Q=>∃a xs,v= .ref a/\SqT K H a xs/\xs.length=n/\t xs σ H Q
theorem pg_tup{es:List Expr}{k:Nat}{t:TGs}{n:Nat}(hc:X.calm=true)(h:PGs X es t)(hn:(assignEach es X.env).length=n:=by rfl)(hst:(assignEach es X.env).findIdx? (·.1)=none:=by rfl):PG X (.Tuple es k pos) (gTup X.K n t):=by
 intro pins s σ H v u Q I r hw
 obtain⟨a,xs,e1,hq,hl,hw⟩:=hw
 subst e1
 cases r
 obtain⟨its,rv,ht,hz⟩:=I.tuple hq
 refine assign_Tuple_tuple (I.ok.hd hc) ht (by simp[hn,<-hl,rv.length]) hst fun h' hx=> ?_
 have I1:Inv X pins σ H {s with heap:=h'}:=I.kept (t':=s.toks) fun b o e=>hx b o (fU (dw e)) e
 exact h pins _ σ H xs _ Q I1 (by simpa using rv) hw
def tAsg(te:TE)(g:TG):TS:=fun D σ H=>te σ H fun x H1=>g x σ H1 D.nx
theorem gG{i:Nat}{x:Str}{e:Expr}{te:TE}{pos':Pos}(hN:X.N.Nodup)(hi:X.N[i]? =some x)(hx:Loc X.env.scope x)(he:PE X e te)(hs:swapsWith e (some (.Name x pos')) pos.line X.env=pure false:=by rfl)(hf:X.fn x=true\/X.env.scope.names.lookup x=some .local:=by first |exact .inl rfl|exact .inr rfl|assumption):
  PS X (.Assign [.Name x pos'] e pos) (tAsg te (gName i)):=by
 intro pins s σ H D I h
 refine wpAny_Assign_Name (thn (he pins s σ H _ I h) fun v s1 ⟨y,H1,I1,r1,q1⟩=> ?_) hs
 exact store_ok I1 hN hi hx r1 (fun s2 I2=>⟨_,H1,I2,q1⟩) hf
end
section
variable{X:Cx}{pos:Pos}
def tWhile(c:TT)(tb:TS):TS:=fun D σ H=>∃W:Nat->St->Hp->Prop,(∃m,W m σ H)/\∀m σ H,W m σ H->
 c σ H fun b H1=>if b=true then∃N:St->Hp->Prop,(∀σ' H',N σ' H'->∃m',m'<m/\W m' σ' H')/\tb {D with nx:=N,ct:=N,bk:=D.nx} σ H1 else D.nx σ H1
theorem ps_while{c:Expr}{body:List Stmt}{tc:TT}{tb:TS}(hp:PassesOwn (model X.prog X.w) X.A X.env X.xe)(hc:PT X c tc)(hb:PSs X body tb):PS X (.While c body [] pos) (tWhile tc tb):=by
 intro pins s σ H D I h
 obtain⟨W,⟨m0,w0⟩,turn⟩:=h
 refine wpAny_While (codeAny_whileLoop (fun n s'=>∃σ' H',Inv X pins σ' H' s'/\W n σ' H') ?_ m0 ⟨σ,H,I,w0⟩)
 rintro n s1 ⟨σ1,H1,I1,w1⟩
 refine Vv hp (thn (hc pins s1 σ1 H1 _ I1 (turn n σ1 H1 w1)) fun b s2 ⟨H2,I2,q2⟩=> ?_)
 cases b with
 |true=>
  obtain⟨N,hN,q2⟩:=q2
  rw[bD rfl]
  refine Vv hp (thn (hb pins s2 σ1 H2 _ I2 q2) fun f s3 q3=> ?_)
  cases f with
  |next=>
   obtain⟨σ3,H3,I3,n3⟩:=q3
   obtain⟨m',hm,w3⟩:=hN σ3 H3 n3
   exact⟨m',hm,σ3,H3,I3,w3⟩
  |cont=>
   obtain⟨σ3,H3,I3,n3⟩:=q3
   obtain⟨m',hm,w3⟩:=hN σ3 H3 n3
   exact⟨m',hm,σ3,H3,I3,w3⟩
  |brk=>exact q3
  |ret v=>exact q3
 |false=>
  rw[bC uy]
  exact wdg ⟨σ1,H2,I2,q2⟩
end
structure It where
 go:Nat->Hp->Prop
 yld:Nat->Hp->V->Hp->Prop
 stop:Nat->Hp->Prop
def FpOk(X:Cx)(pins:List (Addr×Obj))(H:Hp)(b:Addr):Prop:=
 H b=none/\b≠X.env.locals/\b∉X.fs/\(b∈X.ex\/X.s₀.heap.objs.size<=b)/\(∀x c,X.env.cells.lookup x=some c->c≠b)/\∀p∈X.pn++pins,p.1≠b
theorem Inv.fpOk{X:Cx}{pins:List (Addr×Obj)}{σ:St}{H H':Hp}{s:Shared}{b:Addr}(I:Inv X pins σ H s)(hb:s.heap.objs.size<=b)(hn:H' b=none):FpOk X pins H' b:=by
 refine⟨hn,XH (mQ I.lt hb),I.nofs hb,.inr (gJ I.sz hb),fun x c e z=> ?_,fun p hp z=> ?_⟩
 ·obtain⟨v,q⟩:=I.cell x c e
  exact absurd (mQ q.lt (by rw[z];exact hb)) (yS _)
 ·exact absurd (mQ (dw (I.pin p hp).1) (by rw[z];exact hb)) (yS _)
structure Turn(P:Program)(w:World)(K:W.Frag)(tg:Expr)(J:It)(fp:List Addr)(it:Addr)(tn:Nat->Heap->Prop):Prop where
 mem:it∈fp
 obj:∀i h,tn i h->∀b∈fp,∃o,h.get? b=some o/\∀v,o.data≠.cell v
 keep:∀i h h',tn i h->(∀b∈fp,∀o,h.get? b=some o->h'.get? b=some o)->tn i h'
 item:∀(X:Cx),X.prog=P->X.w=w->X.K=K->X.calm=true->∀(i:Nat) (pins:List (Addr×Obj)) (s:Shared) (σ:St) (H:Hp) (E:Value->Shared->Prop),Inv X pins σ H s->(∀b∈fp,FpOk X pins H b)->tn i s.heap->J.go i H->
  wpAny (model P w) X.A (pyNext (.ref it)) (fun r s1=>∃u,r=some u/\
   wpAny (model P w) X.A (letOwnedTupleGo tg (.ref it) u) (fun _ s2=>∃x H',Inv X pins σ H' s2/\RelV x u/\J.yld i H x H'/\tn (i+1) s2.heap/\∀b∈fp,H' b=none) E s1) E s
 done:∀(X:Cx),X.prog=P->X.w=w->X.K=K->X.calm=true->∀(i:Nat) (pins:List (Addr×Obj)) (s:Shared) (σ:St) (H:Hp) (E:Value->Shared->Prop),Inv X pins σ H s->(∀b∈fp,FpOk X pins H b)->tn i s.heap->J.stop i H->
  wpAny (model P w) X.A (pyNext (.ref it)) (fun r s1=>r=none/\Inv X pins σ H s1) E s
 self:∀(A:Around) (i:Nat) (s:Shared) (Q:Value->Shared->Prop) (E:Value->Shared->Prop),tn i s.heap->Q (.ref it) s->wpAny (model P w) A (pyIter (.ref it)) Q E s
abbrev TI:=St->Hp->(It->Hp->Prop)->Prop
def PIE(X:Cx)(pins:List (Addr×Obj))(σ:St)(tg:Expr)(R:It->Hp->Prop)(itv:Value)(s2:Shared):Prop:=
 ∃(it:Addr) (fp:List Addr) (tn:Nat->Heap->Prop) (J:It) (H':Hp),itv= .ref it/\Inv X pins σ H' s2/\Turn X.prog X.w X.K tg J fp it tn/\tn 0 s2.heap/\(∀b∈fp,FpOk X pins H' b)/\R J H'
def PI(X:Cx)(tg iter:Expr)(wi:TI):Prop:=
 ∀(pins:List (Addr×Obj)) (s:Shared) (σ:St) (H:Hp) (R:It->Hp->Prop),Inv X pins σ H s->wi σ H R->
  wpAny (model X.prog X.w) X.A (eval iter X.env) (fun v s1=>wpAny (model X.prog X.w) X.A (pyIter v) (PIE X pins σ tg R) X.xe s1) X.xe s
theorem go_of{M:Model}{A:Around}{E:Value->Shared->Prop}{s:Shared}{tg:Expr}{it:Addr}{u:Value}{o:Obj}{n:String}{vs:Array Value}{Q:Unit->Shared->Prop}(ho:s.heap.get? it=some o)(hc:o.cls= .type n)(hd:o.data= .fields vs)(hn:["enumerate","zip","dict_itemiterator","dict_reverseitemiterator","odict_iterator","itertools.zip_longest","itertools.pairwise"].contains n=false)(hQ:Q () s):wpAny M A (letOwnedTupleGo tg (.ref it) u) Q E s:=by
 unfold letOwnedTupleGo
 cases tg<;>first
  |exact bO hQ
  |(cases u<;>first
    |exact bO hQ
    |(refine aK (wpAny_load ho ?_)
      rw[hc,hd]
      show wpAny M A (if(["enumerate","zip","dict_itemiterator","dict_reverseitemiterator","odict_iterator","itertools.zip_longest","itertools.pairwise"].contains n&&vs[0]? ==some (rawInt _))=true then _ else _) Q E s
      rw[bC (by intro h;rw[hn,Bool.false_and]at h;cases h)]
      exact bO hQ))
def Itl(K:W.Frag)(a:Addr):It:=
 ⟨fun i H=>∃xs x,SqL K H a xs/\xs[i]? =some x,fun i H x H'=>H'=H/\∀xs,SqL K H a xs->xs[i]? =some x,fun i H=>∃xs,SqL K H a xs/\xs.length<=i⟩
def Itt(K:W.Frag)(a:Addr):It:=
 ⟨fun i H=>∃xs x,SqT K H a xs/\xs[i]? =some x,fun i H x H'=>H'=H/\∀xs,SqT K H a xs->xs[i]? =some x,fun i H=>∃xs,SqT K H a xs/\xs.length<=i⟩
def Itr(lo:Int)(n:Nat):It:=⟨fun i _=>i<n,fun i H x H'=>H'=H/\x= .int (lo+i),fun i _=>n<=i⟩
theorem turn_list{P:Program}{w:World}{K:W.Frag}{tg:Expr}(a it:Addr):Turn P w K tg (Itl K a) [it] it (fun i h=>h.IsListIter it a i) where
 mem:=by simp
 obj:=fun i h st b hb=>by
  have e:b=it:=by simpa using hb
  subst e
  obtain⟨o,e,c,d⟩:=st
  exact⟨o,e,fun v z=>by rw[d]at z;cases z⟩
 keep:=fun i h h' st k=>st.at fun o e=>k it (by simp) o e
 item:=by
  intro X hP hw hK hc i pins s σ H E I hf st hg
  subst hP hw hK
  obtain⟨xs,x,hq,hx⟩:=hg
  obtain⟨its,rv,p,hz⟩:=I.list hq
  obtain⟨u,hu,ru⟩:=rv.get hx
  obtain⟨f0,f1,f2,f3,f4,f5⟩:=hf it (by simp)
  refine wpAny_pyNext_list_item st p.isList (x:=u) (by simpa using hu) fun h' st' sb=> ?_
  have I1:Inv X pins σ H {s with heap:=h'}:=I.turned (t':=s.toks) (fun b o hb e=>(sb.2 b hb).trans e) f0 f1 f3 f4 f5
  obtain⟨o,e,c,d⟩:=id st'
  exact⟨u,rfl,go_of (s:={s with heap:=h'}) e c d (by decide) ⟨x,H,I1,ru,⟨rfl,fun ys hy=>by rw[I.list_inj hy hq];exact hx⟩,st',fun b hb=>(hf b hb).1⟩⟩
 done:=by
  intro X hP hw hK hc i pins s σ H E I hf st hg
  subst hP hw hK
  obtain⟨xs,hq,hx⟩:=hg
  obtain⟨its,rv,p,hz⟩:=I.list hq
  obtain⟨f0,f1,f2,f3,f4,f5⟩:=hf it (by simp)
  have hl:=rv.length
  exact wpAny_pyNext_list_end (I.ok.hd hc) st p.isList (by simp;omega) fun h' eb=>⟨rfl,I.turned (t':=s.toks) (fun b o hb e=>eb b o hb e) f0 f1 f3 f4 f5⟩
 self:=fun _ _ _ _ _ st h=>wpAny_pyIter_listiter st h
theorem turn_tuple{P:Program}{w:World}{K:W.Frag}{tg:Expr}(a it:Addr):Turn P w K tg (Itt K a) [it] it (fun i h=>h.IsTupleIter it a i) where
 mem:=by simp
 obj:=fun i h st b hb=>by
  have e:b=it:=by simpa using hb
  subst e
  obtain⟨o,e,c,d⟩:=st
  exact⟨o,e,fun v z=>by rw[d]at z;cases z⟩
 keep:=fun i h h' st k=>st.at fun o e=>k it (by simp) o e
 item:=by
  intro X hP hw hK hc i pins s σ H E I hf st hg
  subst hP hw hK
  obtain⟨xs,x,hq,hx⟩:=hg
  obtain⟨its,rv,p,hz⟩:=I.tuple hq
  obtain⟨u,hu,ru⟩:=rv.get hx
  obtain⟨f0,f1,f2,f3,f4,f5⟩:=hf it (by simp)
  refine wpAny_pyNext_tuple_item st (show s.heap.IsTuple a its.toArray from p) (x:=u) (by simpa using hu) fun h' st' sb=> ?_
  have I1:Inv X pins σ H {s with heap:=h'}:=I.turned (t':=s.toks) (fun b o hb e=>(sb.2 b hb).trans e) f0 f1 f3 f4 f5
  obtain⟨o,e,c,d⟩:=id st'
  exact⟨u,rfl,go_of (s:={s with heap:=h'}) e c d (by decide) ⟨x,H,I1,ru,⟨rfl,fun ys hy=>by rw[I.tuple_inj hy hq];exact hx⟩,st',fun b hb=>(hf b hb).1⟩⟩
 done:=by
  intro X hP hw hK hc i pins s σ H E I hf st hg
  subst hP hw hK
  obtain⟨xs,hq,hx⟩:=hg
  obtain⟨its,rv,p,hz⟩:=I.tuple hq
  obtain⟨f0,f1,f2,f3,f4,f5⟩:=hf it (by simp)
  have hl:=rv.length
  exact wpAny_pyNext_tuple_end (I.ok.hd hc) st (show s.heap.IsTuple a its.toArray from p) (by simp;omega) fun h' eb=>⟨rfl,I.turned (t':=s.toks) (fun b o hb e=>eb b o hb e) f0 f1 f3 f4 f5⟩
 self:=fun _ _ _ _ _ st h=>wpAny_pyIter_tupleiter st h
theorem turn_range{P:Program}{w:World}{K:W.Frag}{tg:Expr}(it:Addr)(lo:Int)(n:Nat):Turn P w K tg (Itr lo n) [it] it (fun i h=>IsRangeIter h it (lo+(i:Nat)*1) ((n:Int)-(i:Nat)) 1) where
 mem:=by simp
 obj:=fun i h st b hb=>by
  have e:b=it:=by simpa using hb
  subst e
  exact⟨_,st,fun v z=>by
   have z':Data.fields _=Data.cell v:=z
   cases z'⟩
 keep:=fun i h h' st k=>k it (by simp) _ st
 item:=by
  intro X hP hw hK hc i pins s σ H E I hf st hg
  subst hP hw hK
  obtain⟨f0,f1,f2,f3,f4,f5⟩:=hf it (by simp)
  have W:=Walks.range (prog:=X.prog) (w:=X.w) (I.ok.hd hc) it lo 1 n
  refine W.item i s _ _ hg st fun v h' tk hv st' kk=> ?_
  obtain⟨t,rfl⟩:=hv
  have I1:Inv X pins σ H {s with heap:=h',toks:=tk}:=I.turned (fun b o hb e=>kk b o (by simpa using hb) e) f0 f1 f3 f4 f5
  refine⟨_,rfl,go_of (s:={s with heap:=h',toks:=tk}) (n:="range_iterator") st' rfl rfl (by decide) ⟨.int (lo+i),H,I1,⟨t,?_⟩,⟨rfl,rfl⟩,st',fun b hb=>(hf b hb).1⟩⟩
  rw[Int.mul_one]
 done:=by
  intro X hP hw hK hc i pins s σ H E I hf st hg
  subst hP hw hK
  obtain⟨f0,f1,f2,f3,f4,f5⟩:=hf it (by simp)
  exact wpAny_pyNext_range_end (I.ok.hd hc) st (by have:n<=i:=hg;omega) fun h' eb=>⟨rfl,I.turned (t':=s.toks) (fun b o hb e=>eb b o hb e) f0 f1 f3 f4 f5⟩
 self:=fun _ _ _ _ _ st h=>wpAny_pyIter_rangeiter st h
section
variable{X:Cx}{tg:Expr}
theorem range_it{pins:List (Addr×Obj)}{σ:St}{H:Hp}{s:Shared}{R:It->Hp->Prop}{E:Value->Shared->Prop}{lo hi:Int}{t u v:Tok}{tk:Nat}(I:Inv X pins σ H s)(h1: -(2^62)<=lo)(h2:lo<2^62)(h3: -(2^62)<=hi)(h4:hi<2^62)(q:R (Itr lo (hi-lo).toNat) H):wpAny (model X.prog X.w) X.A (pyIter (.ref s.heap.objs.size)) (PIE X pins σ tg R) E {s with heap:=s.heap.push {cls:= .type "range",data:= .fields #[.int lo t,.int hi u,.int 1 v]},toks:=tk}:=by
 refine wpAny_pyIter_range (IsRange.new ..) (small_one h1 h2 h3 h4) ?_
 have I1:Inv X pins σ H {s with heap:=s.heap.push {cls:= .type "range",data:= .fields #[.int lo t,.int hi u,.int 1 v]},toks:=tk}:=I.kept fun b o e=>fV _ e
 refine⟨(s.heap.push {cls:= .type "range",data:= .fields #[.int lo t,.int hi u,.int 1 v]}).objs.size,[(s.heap.push {cls:= .type "range",data:= .fields #[.int lo t,.int hi u,.int 1 v]}).objs.size],_,_,H,rfl,
  I1.kept (t':=tk) fun b o e=>fV _ e,turn_range _ lo (hi-lo).toNat,?_,fun b hb=> ?_,q⟩
 ·have e1:lo+((0:Nat):Int)*1=lo:=by simp
  have e2:(((hi-lo).toNat:Nat):Int)-((0:Nat):Int)=Builtin.Range.rangeSize lo hi 1:=by rw[rangeSize_one];split<;>omega
  show IsRangeIter _ _ (lo+((0:Nat):Int)*1) ((((hi-lo).toNat:Nat):Int)-((0:Nat):Int)) 1
  rw[e1,e2]
  exact qp _ rfl
 ·have e:b=(s.heap.push {cls:= .type "range",data:= .fields #[.int lo t,.int hi u,.int 1 v]}).objs.size:=by simpa using hb
  subst e
  exact I1.fpOk (bx _) (I1.hok.fresh (bx _))
def iRng1(ta:TA):TI:=fun σ H R=>ta σ H fun vs H1=>∃j:Int,vs=[.int j]/\ -(2^62)<=j/\j<2^62/\R (Itr 0 j.toNat) H1
def iRng2(ta:TA):TI:=fun σ H R=>ta σ H fun vs H1=>∃i j:Int,vs=[.int i,.int j]/\(-(2^62)<=i/\i<2^62/\ -(2^62)<=j/\j<2^62)/\R (Itr i (j-i).toNat) H1
theorem Fq{a:Expr}{ta:TA}{p pos:Pos}(hg:Gl X "range")(hm:X.mg "range"=none)(ha:PA X [a] ta)(hs:starEach [a] X.env=[(false,eval a X.env)]:=by rfl):PI X tg (.Call (.Name "range" p) [a] [] pos) (iRng1 ta):=by
 intro pins s σ H R I h
 refine Call_ (ld_blt I hg hm boot_range (Nk (thn (ha pos pins s σ H _ I h) fun us s1 ⟨vs,H1,I1,r1,q1⟩=> ?_) hs rfl))
 obtain⟨j,e,q1,q2,q⟩:=q1
 subst e
 cases r1 with
 |cons r rr=>
  cases rr
  obtain⟨t,rfl⟩:=r
  exact call_range_1 (range_it I1 (by omega) (by omega) q1 q2 (by simpa using q))
theorem pi_range2{a b:Expr}{ta:TA}{p pos:Pos}(hg:Gl X "range")(hm:X.mg "range"=none)(ha:PA X [a,b] ta)(hs:starEach [a,b] X.env=[(false,eval a X.env),(false,eval b X.env)]:=by rfl)(hs2:starEach [b] X.env=[(false,eval b X.env)]:=by rfl):
  PI X tg (.Call (.Name "range" p) [a,b] [] pos) (iRng2 ta):=by
 intro pins s σ H R I h
 refine Call_ (ld_blt I hg hm boot_range (Nk (thn (ha pos pins s σ H _ I h) fun us s1 ⟨vs,H1,I1,r1,q1⟩=> ?_) (by rw[hs,hs2]) (by rw[hs2];rfl)))
 obtain⟨i,j,e,⟨q1,q2,q3,q4⟩,q⟩:=q1
 subst e
 cases r1 with
 |cons r rr=>
  cases rr with
  |cons r' rr=>
   cases rr
   obtain⟨t,rfl⟩:=r
   obtain⟨t',rfl⟩:=r'
   exact call_range_2 (range_it I1 q1 q2 q3 q4 q)
def tFor(wi:TI)(g:TG)(tb:TS):TS:=fun D σ H=>wi σ H fun J H1=>∃W:Nat->Nat->St->Hp->Prop,(∃m,W 0 m σ H1)/\∀i m σ H,W i m σ H->
 (J.stop i H/\D.nx σ H)\/(J.go i H/\∃N:St->Hp->Prop,(∀σ' H',N σ' H'->∃m',m'<m/\W (i+1) m' σ' H')/\∀x H',J.yld i H x H'->g x σ H' fun σ2 H2=>tb {D with nx:=N,ct:=N,bk:=D.nx} σ2 H2)
def pinsAt(fp:List Addr)(h:Heap):List (Addr×Obj):=fp.filterMap fun b=>(h.get? b).map fun o=>(b,o)
theorem mem_pinsAt{fp:List Addr}{h:Heap}{b:Addr}{o:Obj}(hb:b∈fp)(e:h.get? b=some o):(b,o)∈pinsAt fp h:=List.mem_filterMap.mpr ⟨b,hb,by rw[e];rfl⟩
theorem of_pinsAt{fp:List Addr}{h:Heap}{p:Addr×Obj}(hp:p∈pinsAt fp h):p.1∈fp/\h.get? p.1=some p.2:=by
 obtain⟨b,hb,e⟩:=List.mem_filterMap.mp hp
 cases q:h.get? b with
 |none=>rw[q]at e;cases e
 |some o=>
  rw[q]at e
  have e':(b,o)=p:=Nb e
  subst e'
  exact⟨hb,q⟩
theorem Inv.pinned{pins:List (Addr×Obj)}{σ:St}{H:Hp}{s:Shared}{fp:List Addr}(I:Inv X pins σ H s)(hf:∀b∈fp,FpOk X pins H b)(ho:∀b∈fp,∃o,s.heap.get? b=some o/\∀v,o.data≠.cell v):Inv X (pins++pinsAt fp s.heap) σ H s:=
 I.pins_of fun p hp=>(fj.mp hp).elim (fun z=>I.pin p (yX _ z)) fun z=>by
  obtain⟨hb,e⟩:=of_pinsAt z
  obtain⟨f0,f1,f2,_⟩:=hf p.1 hb
  obtain⟨o,e',d⟩:=ho p.1 hb
  rw[e]at e';cases e'
  exact⟨e,f0,f1,f2,d⟩
theorem Inv.unpinned{pins pl:List (Addr×Obj)}{σ:St}{H:Hp}{s:Shared}(I:Inv X (pins++pl) σ H s):Inv X pins σ H s:=I.pins_of fun p hp=>I.pin p (yX _ (M7 _ hp))
theorem ps_for{iter:Expr}{body:List Stmt}{wi:TI}{g:TG}{tb:TS}{pos:Pos}(hp:PassesOwn (model X.prog X.w) X.A X.env X.xe)(hc:X.calm=true)(hi:PI X tg iter wi)(hg:PG X tg g)(hb:PSs X body tb)(hs:∀x,foldedSetIterable iter X.env x=pure x:=by intro _;rfl):PS X (.For tg iter body [] pos) (tFor wi g tb):=by
 intro pins s σ H D I h
 refine wpAny_For (thn (hi pins s σ H _ I h) fun v s1 h1=>thn h1 fun itv s2 h2=> ?_) hs
 obtain⟨it,fp,tn,J,H2,e,I2,T,st2,f2,W,⟨m0,w0⟩,turn⟩:=h2
 subst e
 -- what stays true of the iterator's objects through the loop
 have stat:∀{H':Hp},(∀b∈fp,H' b=none)->∀b∈fp,FpOk X pins H' b:=fun hn b hb=>⟨hn b hb,(f2 b hb).2⟩
 refine codeAny_forLoop_any (fun n s'=>∃i σ' H',Inv X pins σ' H' s'/\tn i s'.heap/\(∀b∈fp,H' b=none)/\W i n σ' H') ?_ m0 ⟨0,σ,H2,I2,st2,fun b hb=>(f2 b hb).1,w0⟩
 rintro n s3 ⟨i,σ3,H3,I3,st3,fr3,w3⟩
 rcases turn i n σ3 H3 w3 with⟨stop,qn⟩|⟨go,N,hN,step⟩
 ·refine Vv hp (thn (T.done X rfl rfl rfl hc i pins s3 σ3 H3 X.xe I3 (stat fr3) st3 stop) fun r s4 ⟨hr,I4⟩=> ?_)
  subst hr
  exact wdg ⟨σ3,H3,I4,qn⟩
 ·refine Vv hp (thn (T.item X rfl rfl rfl hc i pins s3 σ3 H3 X.xe I3 (stat fr3) st3 go) fun r s4 ⟨u,hr,h4⟩=> ?_)
  subst hr
  refine Vv hp (thn h4 fun _ s5 ⟨x,H5,I5,r5,y5,st5,fr5⟩=> ?_)
  have I5':=I5.pinned (stat fr5) (T.obj _ _ st5)
  refine Vv hp (thn (hg _ s5 σ3 H5 x u _ I5' r5 (step x H5 y5)) fun _ s6 ⟨σ6,H6,I6,q6⟩=> ?_)
  refine Vv hp (thn (hb _ s6 σ6 H6 _ I6 q6) fun f s7 q7=> ?_)
  have again:∀{σ7:St} {H7:Hp},Inv X (pins++pinsAt fp s5.heap) σ7 H7 s7->N σ7 H7->∃m,m<n/\∃i σ' H',Inv X pins σ' H' s7/\tn i s7.heap/\(∀b∈fp,H' b=none)/\W i m σ' H':=fun{σ7 H7} I7 n7=>by
   obtain⟨m',hm,w7⟩:=hN σ7 H7 n7
   refine⟨m',hm,i+1,σ7,H7,I7.unpinned,T.keep _ _ _ st5 fun b hb o e=>(I7.pin (b,o) (yX _ (yX _ (mem_pinsAt hb e)))).1,fun b hb=> ?_,w7⟩
   obtain⟨o,e,d⟩:=T.obj _ _ st5 b hb
   exact(I7.pin (b,o) (yX _ (yX _ (mem_pinsAt hb e)))).2.1
  cases f with
  |next=>obtain⟨σ7,H7,I7,n7⟩:=q7;exact again I7 n7
  |cont=>obtain⟨σ7,H7,I7,n7⟩:=q7;exact again I7 n7
  |brk=>obtain⟨σ7,H7,I7,q7⟩:=q7;exact⟨σ7,H7,I7.unpinned,q7⟩
  |ret v=>obtain⟨x7,σ7,H7,I7,r7,q7⟩:=q7;exact⟨x7,σ7,H7,I7.unpinned,r7,q7⟩
end
theorem for_list{K:W.Frag}{a:Addr}{xs:List V}{g:TG}{tb:TS}{D:Ends}{σ:St}{H:Hp}(Pv:Nat->St->Hp->Prop)(h0:Pv 0 σ H)(hl:∀i σ H,i<=xs.length->Pv i σ H->SqL K H a xs)(hs:∀i x σ H,xs[i]? =some x->Pv i σ H->g x σ H fun σ2 H2=>tb {D with nx:=Pv (i+1),ct:=Pv (i+1),bk:=D.nx} σ2 H2)(hd:∀σ H,Pv xs.length σ H->D.nx σ H):
  ∃W:Nat->Nat->St->Hp->Prop,(∃m,W 0 m σ H)/\∀i m σ H,W i m σ H->
   ((Itl K a).stop i H/\D.nx σ H)\/((Itl K a).go i H/\∃N:St->Hp->Prop,(∀σ' H',N σ' H'->∃m',m'<m/\W (i+1) m' σ' H')/\∀x H',(Itl K a).yld i H x H'->g x σ H' fun σ2 H2=>tb {D with nx:=N,ct:=N,bk:=D.nx} σ2 H2):=by
 refine⟨fun i m σ H=>m=xs.length-i/\i<=xs.length/\Pv i σ H,⟨xs.length,by simp,jj _,h0⟩,?_⟩
 rintro i m σ H ⟨rfl,hi,p⟩
 have q:=hl i σ H hi p
 by_cases hlt:i<xs.length
 ·refine .inr ⟨⟨xs,xs[i],q,by simp[hlt]⟩,Pv (i+1),fun σ' H' p'=>⟨xs.length-(i+1),by omega,rfl,hlt,p'⟩,fun x H' y=> ?_⟩
  obtain⟨e,y⟩:=y
  subst e
  exact hs i x σ _ (y xs q) p
 ·have e:i=xs.length:=by omega
  subst e
  exact .inl ⟨⟨xs,q,bx _⟩,hd σ H p⟩
theorem for_tup{K:W.Frag}{a:Addr}{xs:List V}{g:TG}{tb:TS}{D:Ends}{σ:St}{H:Hp}(Pv:Nat->St->Hp->Prop)(h0:Pv 0 σ H)(hl:∀i σ H,i<=xs.length->Pv i σ H->SqT K H a xs)(hs:∀i x σ H,xs[i]? =some x->Pv i σ H->g x σ H fun σ2 H2=>tb {D with nx:=Pv (i+1),ct:=Pv (i+1),bk:=D.nx} σ2 H2)(hd:∀σ H,Pv xs.length σ H->D.nx σ H):
  ∃W:Nat->Nat->St->Hp->Prop,(∃m,W 0 m σ H)/\∀i m σ H,W i m σ H->
   ((Itt K a).stop i H/\D.nx σ H)\/((Itt K a).go i H/\∃N:St->Hp->Prop,(∀σ' H',N σ' H'->∃m',m'<m/\W (i+1) m' σ' H')/\∀x H',(Itt K a).yld i H x H'->g x σ H' fun σ2 H2=>tb {D with nx:=N,ct:=N,bk:=D.nx} σ2 H2):=by
 refine⟨fun i m σ H=>m=xs.length-i/\i<=xs.length/\Pv i σ H,⟨xs.length,by simp,jj _,h0⟩,?_⟩
 rintro i m σ H ⟨rfl,hi,p⟩
 have q:=hl i σ H hi p
 by_cases hlt:i<xs.length
 ·refine .inr ⟨⟨xs,xs[i],q,by simp[hlt]⟩,Pv (i+1),fun σ' H' p'=>⟨xs.length-(i+1),by omega,rfl,hlt,p'⟩,fun x H' y=> ?_⟩
  obtain⟨e,y⟩:=y
  subst e
  exact hs i x σ _ (y xs q) p
 ·have e:i=xs.length:=by omega
  subst e
  exact .inl ⟨⟨xs,q,bx _⟩,hd σ H p⟩
theorem for_range{lo:Int}{n:Nat}{g:TG}{tb:TS}{D:Ends}{σ:St}{H:Hp}(Pv:Nat->St->Hp->Prop)(h0:Pv 0 σ H)(hs:∀i σ H,i<n->Pv i σ H->g (.int (lo+i)) σ H fun σ2 H2=>tb {D with nx:=Pv (i+1),ct:=Pv (i+1),bk:=D.nx} σ2 H2)(hd:∀σ H,Pv n σ H->D.nx σ H):
  ∃W:Nat->Nat->St->Hp->Prop,(∃m,W 0 m σ H)/\∀i m σ H,W i m σ H->
   ((Itr lo n).stop i H/\D.nx σ H)\/((Itr lo n).go i H/\∃N:St->Hp->Prop,(∀σ' H',N σ' H'->∃m',m'<m/\W (i+1) m' σ' H')/\∀x H',(Itr lo n).yld i H x H'->g x σ H' fun σ2 H2=>tb {D with nx:=N,ct:=N,bk:=D.nx} σ2 H2):=by
 refine⟨fun i m σ H=>m=n-i/\i<=n/\Pv i σ H,⟨n,by simp,jj _,h0⟩,?_⟩
 rintro i m σ H ⟨rfl,hi,p⟩
 by_cases hlt:i<n
 ·refine .inr ⟨hlt,Pv (i+1),fun σ' H' p'=>⟨n-(i+1),by omega,rfl,hlt,p'⟩,fun x H' y=> ?_⟩
  obtain⟨e,y⟩:=y
  subst e y
  exact hs i σ _ hlt p
 ·have e:i=n:=by omega
  subst e
  exact .inl ⟨bx _,hd σ H p⟩
abbrev R2:=V->V->Hp->VK->Prop
def OpR(X:Cx)(f:Value->Value->Sem Value)(r:R2):Prop:=
 ∀(pins:List (Addr×Obj)) (s:Shared) (σ:St) (H:Hp) (x y:V) (v u:Value) (Q:VK),Inv X pins σ H s->RelV x v->RelV y u->r x y H Q->
  wpAny (model X.prog X.w) X.A (f v u) (EP X pins σ Q) X.xe s
def UnR(X:Cx)(f:Value->Sem Value)(r:V->Hp->VK->Prop):Prop:=
 ∀(pins:List (Addr×Obj)) (s:Shared) (σ:St) (H:Hp) (x:V) (v:Value) (Q:VK),Inv X pins σ H s->RelV x v->r x H Q->
  wpAny (model X.prog X.w) X.A (f v) (EP X pins σ Q) X.xe s
def CallR(X:Cx)(f:Value)(r:List V->Hp->VK->Prop):Prop:=
 ∀(pins:List (Addr×Obj)) (s:Shared) (σ:St) (H:Hp) (xs:List V) (us:List Value) (Q:VK),Inv X pins σ H s->Vals xs us->r xs H Q->
  wpAny (model X.prog X.w) X.A (call f us) (EP X pins σ Q) X.xe s
def TruR(X:Cx)(r:V->Hp->(Bool->Hp->Prop)->Prop):Prop:=
 ∀(pins:List (Addr×Obj)) (s:Shared) (σ:St) (H:Hp) (x:V) (v:Value) (Q:Bool->Hp->Prop),Inv X pins σ H s->RelV x v->r x H Q->
  wpAny (model X.prog X.w) X.A (truthy v) (TP X pins σ Q) X.xe s
def tOp(r:R2)(ta tb:TE):TE:=fun σ H Q=>ta σ H fun x H1=>tb σ H1 fun y H2=>r x y H2 Q
def tUn(r:V->Hp->VK->Prop)(ta:TE):TE:=fun σ H Q=>ta σ H fun x H1=>r x H1 Q
def rI(C:Int->Int->Prop)(g:Int->Int->V):R2:=fun x y H Q=>∃i j,x= .int i/\y= .int j/\C i j/\Q (g i j) H
def rI0(g:Int->Int->V):R2:=fun x y H Q=>∃i j,x= .int i/\y= .int j/\Q (g i j) H
def rU(g:Int->V):V->Hp->VK->Prop:=fun x H Q=>∃i,x= .int i/\Q (g i) H
section
variable{X:Cx}{a b c:Expr}{ta tb tc:TE}{pos:Pos}
theorem binT(ha:PE X a ta)(hb:PE X b tb){pins:List (Addr×Obj)}{s:Shared}{σ:St}{H:Hp}{R:V->V->Hp->Prop}(I:Inv X pins σ H s)(h:ta σ H fun x H1=>tb σ H1 fun y H2=>R x y H2){Q:Value->Shared->Prop}{f:Value->Value->Sem Value}(hf:∀v u s2 x y H2,Inv X pins σ H2 s2->RelV x v->RelV y u->R x y H2->wpAny (model X.prog X.w) X.A (f v u) Q X.xe s2):
  wpAny (model X.prog X.w) X.A (eval a X.env) (fun v s₁=>wpAny (model X.prog X.w) X.A (eval b X.env) (fun u s₂=>wpAny (model X.prog X.w) X.A (f v u) Q X.xe s₂) X.xe s₁) X.xe s:=by
 refine thn (ha pins s σ H _ I h) fun v s1 ⟨x,H1,I1,r1,q1⟩=> ?_
 refine thn (hb pins s1 σ H1 _ I1 q1) fun u s2 ⟨y,H2,I2,r2,q2⟩=> ?_
 exact hf v u s2 x y H2 I2 r1 r2 q2
theorem fQ{op:Operator}{r:R2}(ho:OpR X (binaryOp op) r)(ha:PE X a ta)(hb:PE X b tb):PE X (.BinOp a op b pos) (tOp r ta tb):=by
 intro pins s σ H Q I h
 exact wpAny_BinOp (binT ha hb I h fun v u s2 x y H2 I2 rx ry q=>ho pins s2 σ H2 x y v u Q I2 rx ry q)
theorem pe_un{op:UnaryOp}{r:V->Hp->VK->Prop}(ho:UnR X (unaryOp op) r)(ha:PE X a ta):PE X (.UnaryOp op a pos) (tUn r ta):=by
 intro pins s σ H Q I h
 exact UnaryOp_ (thn (ha pins s σ H _ I h) fun v s1 ⟨x,H1,I1,r1,q1⟩=>ho pins s1 σ H1 x v Q I1 r1 q1)
theorem opI{f:Value->Value->Sem Value}{C:Int->Int->Prop}{g:Int->Int->Int}(rule:∀(i j:Int) (t u:Tok) (s:Shared) (Q:Value->Shared->Prop) (E:Value->Shared->Prop),C i j->Q (.int (g i j) s.toks) {s with toks:=s.toks+1}->wpAny (model X.prog X.w) X.A (f (.int i t) (.int j u)) Q E s):
  OpR X f (rI C fun i j=> .int (g i j)):=by
 intro pins s σ H x y v u Q I rx ry h
 obtain⟨i,j,rfl,rfl,hc,q⟩:=h
 obtain⟨t,rfl⟩:=rx
 obtain⟨t',rfl⟩:=ry
 exact rule i j t t' s _ _ hc ⟨.int (g i j),H,I.tok _,⟨_,rfl⟩,q⟩
theorem opI0{f:Value->Value->Sem Value}{g:Int->Int->Int}(rule:∀(i j:Int) (t u:Tok) (s:Shared) (Q:Value->Shared->Prop) (E:Value->Shared->Prop),Q (.int (g i j) s.toks) {s with toks:=s.toks+1}->wpAny (model X.prog X.w) X.A (f (.int i t) (.int j u)) Q E s):
  OpR X f (rI0 fun i j=> .int (g i j)):=by
 intro pins s σ H x y v u Q I rx ry h
 obtain⟨i,j,rfl,rfl,q⟩:=h
 obtain⟨t,rfl⟩:=rx
 obtain⟨t',rfl⟩:=ry
 exact rule i j t t' s _ _ ⟨.int (g i j),H,I.tok _,⟨_,rfl⟩,q⟩
theorem opB0{f:Value->Value->Sem Value}{g:Int->Int->Bool}(rule:∀(i j:Int) (t u:Tok) (s:Shared) (Q:Value->Shared->Prop) (E:Value->Shared->Prop),Q (.bool (g i j)) s->wpAny (model X.prog X.w) X.A (f (.int i t) (.int j u)) Q E s):
  OpR X f (rI0 fun i j=> .bl (g i j)):=by
 intro pins s σ H x y v u Q I rx ry h
 obtain⟨i,j,rfl,rfl,q⟩:=h
 obtain⟨t,rfl⟩:=rx
 obtain⟨t',rfl⟩:=ry
 exact rule i j t t' s _ _ ⟨.bl (g i j),H,I,rfl,q⟩
def CDiv(i j:Int):Prop:=0<j/\j<1073741824
def CMul(i j:Int):Prop:=(-(2^64)<i/\i<2^64)\/(-(2^64)<j/\j<2^64)
theorem CMul.ok{i j:Int}(h:CMul i j):IntMulOk i j:=by
 rcases h with⟨h1,h2⟩|⟨h1,h2⟩
 ·exact .of_left (intBits_le_64 h1 h2)
 ·exact .of_right (intBits_le_64 h1 h2)
theorem op_add:OpR X (binaryOp .Add) (rI0 fun i j=> .int (i+j)):=opI0 fun _ _ _ _ _ _ _ q=>add_int q
theorem op_sub:OpR X (binaryOp .Sub) (rI0 fun i j=> .int (i-j)):=opI0 fun _ _ _ _ _ _ _ q=>sub_int q
theorem op_mul:OpR X (binaryOp .Mult) (rI CMul fun i j=> .int (i*j)):=opI fun _ _ _ _ _ _ _ hc q=>mul_int q hc.ok
theorem op_fdiv:OpR X (binaryOp .FloorDiv) (rI CDiv fun i j=> .int (i/j)):=opI fun i j _ _ _ _ _ hc q=>by
 have h1:(0:Int)<j:=hc.1
 have h2:j<1073741824:=hc.2
 exact floordiv_int (by omega) (by rw[wds i (by omega)];exact q) (.inl (PyProof.noPylong_small (by omega)))
theorem op_mod:OpR X (binaryOp .Mod) (rI (fun _ j=>0<j) fun i j=> .int (i %j)):=opI fun i j _ _ _ _ _ hc q=>by
 have h1:(0:Int)<j:=hc
 exact mod_int' (by omega) (by rw[Int.fmod_eq_emod_of_nonneg i (by omega)];exact q)
theorem unI{f:Value->Sem Value}{g:Int->Int}(rule:∀(i:Int) (t:Tok) (s:Shared) (Q:Value->Shared->Prop) (E:Value->Shared->Prop),Q (.int (g i) s.toks) {s with toks:=s.toks+1}->wpAny (model X.prog X.w) X.A (f (.int i t)) Q E s):
  UnR X f (rU fun i=> .int (g i)):=by
 intro pins s σ H x v Q I rx h
 obtain⟨i,rfl,q⟩:=h
 obtain⟨t,rfl⟩:=rx
 exact rule i t s _ _ ⟨.int (g i),H,I.tok _,⟨_,rfl⟩,q⟩
theorem un_neg:UnR X (unaryOp .USub) (rU fun i=> .int (-i)):=unI fun _ _ _ _ _ q=>neg_int q
end
def scal:V->V->Bool
 | .non,.non=>true| .non,.int _=>true| .int _,.non=>true| .non,.bl _=>true| .bl _,.non=>true| .non,.str _=>true| .str _,.non=>true
 | .int _,.int _=>true| .bl _,.bl _=>true| .str _,.str _=>true| .byt _,.byt _=>true
 | .int _,.str _=>true| .str _,.int _=>true| .bl _,.str _=>true| .str _,.bl _=>true
 |_,_=>false
def rEq:R2:=fun x y H Q=>scal x y=true/\Q (.bl (decide (x=y))) H
def rNe:R2:=fun x y H Q=>scal x y=true/\Q (.bl (!decide (x=y))) H
theorem dec_int{i j:Int}:decide (V.int i=V.int j)=(i==j):=by
 rw[vA]
 simp
theorem dec_bl{i j:Bool}:decide (V.bl i=V.bl j)=(i==j):=by
 rw[vA]
 simp
theorem dec_str{i j:Str}:decide (V.str i=V.str j)=(i==j):=by
 rw[vA]
 simp
theorem dec_byt{i j:Array UInt8}:decide (V.byt i=V.byt j)=(i.toList==j.toList):=by
 rw[vA]
 cases i
 cases j
 simp
section
variable{X:Cx}{a b c:Expr}{ta tb tc:TE}{pos:Pos}
theorem mY{pins:List (Addr×Obj)}{σ:St}{H:Hp}{s:Shared}{Q:VK}{k k':Bool}(I:Inv X pins σ H s)(q:Q (.bl k) H)(e:k=k'):EP X pins σ Q (.bool k') s:=by
 subst e
 exact⟨.bl k,H,I,rfl,q⟩
theorem op_eq:OpR X (compareOp .Eq) rEq:=by
 intro pins s σ H x y v u Q I rx ry h
 obtain⟨hs,q⟩:=h
 cases x with
 |non=>
  cases rx
  cases y with
  |non=>cases ry;exact PySem.EqNone.eq_none_none (mY I q (by simp))
  |bl j=>cases ry;exact PySem.EqNone.eq_none_bool (mY I q (by simp))
  |int j=>obtain⟨t',rfl⟩:=ry;exact PySem.EqNone.eq_none_int (mY I q (by simp))
  |str j=>obtain⟨t',rfl⟩:=ry;exact PySem.EqNone.eq_none_str (mY I q (by simp))
  |_=>exact absurd (show false=true from hs) uy
 |bl i=>
  cases rx
  cases y with
  |non=>cases ry;exact PySem.EqNone.eq_bool_none (mY I q (by simp))
  |bl j=>cases ry;exact eq_bool (mY I q dec_bl)
  |str j=>obtain⟨t',rfl⟩:=ry;exact PySem.EqMixed.eq_bool_str (mY I q (by simp))
  |_=>exact absurd (show false=true from hs) uy
 |int i=>
  obtain⟨t,rfl⟩:=rx
  cases y with
  |non=>cases ry;exact PySem.EqNone.eq_int_none (mY I q (by simp))
  |int j=>obtain⟨t',rfl⟩:=ry;exact eq_int (mY I q dec_int)
  |str j=>obtain⟨t',rfl⟩:=ry;exact PySem.EqMixed.eq_int_str (mY I q (by simp))
  |_=>exact absurd (show false=true from hs) uy
 |str i=>
  obtain⟨t,rfl⟩:=rx
  cases y with
  |non=>cases ry;exact PySem.EqNone.eq_str_none (mY I q (by simp))
  |bl j=>cases ry;exact PySem.EqMixed.eq_str_bool (mY I q (by simp))
  |int j=>obtain⟨t',rfl⟩:=ry;exact PySem.EqMixed.eq_str_int (mY I q (by simp))
  |str j=>obtain⟨t',rfl⟩:=ry;exact eq_str (mY I q dec_str)
  |_=>exact absurd (show false=true from hs) uy
 |byt i=>
  obtain⟨t,rfl⟩:=rx
  cases y with
  |byt j=>obtain⟨t',rfl⟩:=ry;exact PySem.W.eq_bytes (mY I q dec_byt)
  |_=>exact absurd (show false=true from hs) uy
 |_=>cases y<;>exact absurd (show false=true from hs) uy
theorem op_ne:OpR X (compareOp .NotEq) rNe:=by
 intro pins s σ H x y v u Q I rx ry h
 obtain⟨hs,q⟩:=h
 cases x with
 |non=>
  cases rx
  cases y with
  |non=>cases ry;exact PySem.EqNone.ne_none_none (mY I q (by simp))
  |bl j=>cases ry;exact PySem.EqNone.ne_none_bool (mY I q (by simp))
  |int j=>obtain⟨t',rfl⟩:=ry;exact PySem.EqNone.ne_none_int (mY I q (by simp))
  |str j=>obtain⟨t',rfl⟩:=ry;exact PySem.EqNone.ne_none_str (mY I q (by simp))
  |_=>exact absurd (show false=true from hs) uy
 |bl i=>
  cases rx
  cases y with
  |non=>cases ry;exact PySem.EqNone.ne_bool_none (mY I q (by simp))
  |bl j=>cases ry;exact ne_bool (mY I q (rH not dec_bl))
  |str j=>obtain⟨t',rfl⟩:=ry;exact PySem.EqMixed.ne_bool_str (mY I q (by simp))
  |_=>exact absurd (show false=true from hs) uy
 |int i=>
  obtain⟨t,rfl⟩:=rx
  cases y with
  |non=>cases ry;exact PySem.EqNone.ne_int_none (mY I q (by simp))
  |int j=>obtain⟨t',rfl⟩:=ry;exact ne_int (mY I q (rH not dec_int))
  |str j=>obtain⟨t',rfl⟩:=ry;exact PySem.EqMixed.ne_int_str (mY I q (by simp))
  |_=>exact absurd (show false=true from hs) uy
 |str i=>
  obtain⟨t,rfl⟩:=rx
  cases y with
  |non=>cases ry;exact PySem.EqNone.ne_str_none (mY I q (by simp))
  |bl j=>cases ry;exact PySem.EqMixed.ne_str_bool (mY I q (by simp))
  |int j=>obtain⟨t',rfl⟩:=ry;exact PySem.EqMixed.ne_str_int (mY I q (by simp))
  |str j=>obtain⟨t',rfl⟩:=ry;exact ne_str (mY I q (rH not dec_str))
  |_=>exact absurd (show false=true from hs) uy
 |byt i=>
  obtain⟨t,rfl⟩:=rx
  cases y with
  |byt j=>obtain⟨t',rfl⟩:=ry;exact PySem.W.ne_bytes (mY I q (rH not dec_byt))
  |_=>exact absurd (show false=true from hs) uy
 |_=>cases y<;>exact absurd (show false=true from hs) uy
theorem op_lt:OpR X (compareOp .Lt) (rI0 fun i j=> .bl (decide (i<j))):=opB0 fun _ _ _ _ _ _ _ q=>lt_int q
theorem op_le:OpR X (compareOp .LtE) (rI0 fun i j=> .bl (decide (i<=j))):=opB0 fun _ _ _ _ _ _ _ q=>le_int q
theorem op_gt:OpR X (compareOp .Gt) (rI0 fun i j=> .bl (decide (j<i))):=opB0 fun _ _ _ _ _ _ _ q=>gt_int q
theorem op_ge:OpR X (compareOp .GtE) (rI0 fun i j=> .bl (decide (j<=i))):=opB0 fun _ _ _ _ _ _ _ q=>ge_int q
theorem op_isN:OpR X (compareOp .Is) (fun x y H Q=>y= .non/\Q (.bl (decide (x= .non))) H):=by
 intro pins s σ H x y v u Q I rx ry h
 obtain⟨rfl,q⟩:=h
 cases ry
 refine is_none_gen (mY I q ?_)
 cases x<;>first
  |(cases rx;rfl)
  |(obtain⟨t,rfl⟩:=rx;rfl)
theorem OpR.or{f:Value->Value->Sem Value}{r r':R2}(h:OpR X f r)(h':OpR X f r'):OpR X f (fun x y H Q=>r x y H Q\/r' x y H Q):=by
 intro pins s σ H x y v u Q I rx ry q
 rcases q with q|q
 ·exact h pins s σ H x y v u Q I rx ry q
 ·exact h' pins s σ H x y v u Q I rx ry q
theorem nomark(b:Expr){op:CmpOp}(h:op≠.In:=by decide)(h2:op≠.NotIn:=by decide):behindInMarks op b=false:=by
 have e1:(op==CmpOp.In)=false:=by cases op<;>first |rfl|exact absurd rfl h
 have e2:(op==CmpOp.NotIn)=false:=by cases op<;>first |rfl|exact absurd rfl h2
 cases b<;>simp[behindInMarks,e1,e2]
theorem Fo{op:CmpOp}{r:R2}(ho:OpR X (compareOp op) r)(ha:PE X a ta)(hb:PE X b tb)(hm:behindInMarks op b=false):PE X (.Compare a [op] [b] pos) (tOp r ta tb):=by
 intro pins s σ H Q I h
 exact wpAny_Compare1 (binT ha hb I h fun v u s2 x y H2 I2 rx ry q=>ho pins s2 σ H2 x y v u Q I2 rx ry q) hm
def tTest(t:TE):TT:=fun σ H Q=>t σ H fun x H'=>∃k,x= .bl k/\Q k H'
theorem iW{op:CmpOp}{r:R2}(ho:OpR X (compareOp op) r)(ha:PE X a ta)(hb:PE X b tb)(hm:behindInMarks op b=false):PT X (.Compare a [op] [b] pos) (tTest (tOp r ta tb)):=by
 intro pins s σ H Q I h
 refine wpAny_isTrue_Compare1 (thn (ha pins s σ H _ I h) fun v s1 ⟨x,H1,I1,r1,q1⟩=>thn (hb pins s1 σ H1 _ I1 q1) fun u s2 ⟨y,H2,I2,r2,q2⟩=>
  thn (ho pins s2 σ H2 x y v u _ I2 r1 r2 q2) fun c s3 ⟨z,H3,I3,r3,k,e,q3⟩=> ?_) hm
 subst e
 cases r3
 exact Nf ⟨H3,I3,q3⟩
def tChain(r r':R2)(ta tb tc:TE):TE:=fun σ H Q=>ta σ H fun x H1=>tb σ H1 fun y H2=>r x y H2 fun z H3=>∃k,z= .bl k/\
 (if k=true then tc σ H3 fun w' H4=>r' y w' H4 Q else Q (.bl false) H3)
theorem pe_chain{op op':CmpOp}{r r':R2}(ho:OpR X (compareOp op) r)(ho':OpR X (compareOp op') r')(ha:PE X a ta)(hb:PE X b tb)(hc:PE X c tc)(hm:lastMarks [op,op'] [b,c]=false:=by with_unfolding_all rfl):PE X (.Compare a [op,op'] [b,c] pos) (tChain r r' ta tb tc):=by
 intro pins s σ H Q I h
 refine Compare_chain (thn (ha pins s σ H _ I h) fun v s1 ⟨x,H1,I1,r1,q1⟩=>chain_link (thn (hb pins s1 σ H1 _ I1 q1) fun u s2 ⟨y,H2,I2,r2,q2⟩=>
  thn (ho pins s2 σ H2 x y v u _ I2 r1 r2 q2) fun d s3 ⟨z,H3,I3,r3,k,e,q3⟩=> ?_)) hm
 subst e
 cases r3
 refine Nf ?_
 cases k with
 |false=>exact ite_ff ⟨.bl false,H3,I3,rfl,q3⟩
 |true=>exact ite_tt (chain_last (thn (hc pins s3 σ H3 _ I3 q3) fun w' s4 ⟨z',H4,I4,r4,q4⟩=>ho' pins s4 σ H4 y z' u w' Q I4 r2 r4 q4))
theorem pt_chain{op op':CmpOp}{r r':R2}(ho:OpR X (compareOp op) r)(ho':OpR X (compareOp op') r')(ha:PE X a ta)(hb:PE X b tb)(hc:PE X c tc)(hm:lastMarks [op,op'] [b,c]=false:=by with_unfolding_all rfl):PT X (.Compare a [op,op'] [b,c] pos) (tTest (tChain r r' ta tb tc)):=by
 intro pins s σ H Q I h
 refine isTrue_chain (thn (ha pins s σ H _ I h) fun v s1 ⟨x,H1,I1,r1,q1⟩=>test_link (thn (hb pins s1 σ H1 _ I1 q1) fun u s2 ⟨y,H2,I2,r2,q2⟩=>
  thn (ho pins s2 σ H2 x y v u _ I2 r1 r2 q2) fun d s3 ⟨z,H3,I3,r3,k,e,q3⟩=> ?_)) hm
 subst e
 cases r3
 refine Nf ?_
 cases k with
 |false=>
  obtain⟨k',e',q'⟩:=q3
  cases e'
  exact ite_ff ⟨H3,I3,q'⟩
 |true=>
  refine ite_tt (test_last (thn (hc pins s3 σ H3 _ I3 q3) fun w' s4 ⟨z',H4,I4,r4,q4⟩=>thn (ho' pins s4 σ H4 y z' u w' _ I4 r2 r4 q4) fun d' s5 ⟨z2,H5,I5,r5,k2,e2,q5⟩=> ?_))
  subst e2
  cases r5
  exact Nf ⟨H5,I5,q5⟩
def TruV(K:W.Frag)(x:V)(H:Hp)(k:Bool):Prop:=
 match x with
 | .non=>k=false
 | .bl b=>k=b
 | .int i=>k=(i !=0)
 | .str y=>y.length<=sizeLine/\k=((y.length:Int) !=0)
 | .byt y=>y.size<=sizeLine/\k=((y.size:Int) !=0)
 | .ref p=>(∃xs,SqL K H p xs/\k= !xs.isEmpty)\/(∃xs,SqT K H p xs/\k= !xs.isEmpty)\/∃kvs,H p=some (.dK kvs)/\k= !kvs.isEmpty
 |_=>False
theorem isEmpty_kv{κ:Type}{kvs:List (κ×V)}{vs:List (κ×Value)}(r:KV kvs vs):(!vs.isEmpty)= !kvs.isEmpty:=by
 cases r<;>rfl
theorem isEmpty_of{xs:List V}{its:List Value}(r:Vals xs its):(!its.toArray.isEmpty)= !xs.isEmpty:=by
 cases r<;>simp
theorem line63:(sizeLine:Nat)<2^63:=by rw[eF];decide
theorem tru_ok:TruR X (fun x H Q=>∃k,TruV X.K x H k/\Q k H):=by
 intro pins s σ H x v Q I rx h
 obtain⟨k,e,q⟩:=h
 have hl:=line63
 have hs:sizeLine=16777216:=eF
 cases x with
 |non=>
  cases rx
  have e':k=false:=e
  subst e'
  exact truthy_none ⟨H,I,q⟩
 |bl b=>
  cases rx
  have e':k=b:=e
  subst e'
  exact Nf ⟨H,I,q⟩
 |int i=>
  obtain⟨t,rfl⟩:=rx
  have e':k=(i !=0):=e
  subst e'
  exact PySem.P.truthy_int ⟨H,I,q⟩
 |str y=>
  obtain⟨t,rfl⟩:=rx
  obtain⟨hy,e'⟩:y.length<=sizeLine/\k=((y.length:Int) !=0):=e
  subst e'
  exact PySem.P.truthy_str (by omega) ⟨H,I.tok _,q⟩
 |byt y=>
  obtain⟨t,rfl⟩:=rx
  obtain⟨hy,e'⟩:y.size<=sizeLine/\k=((y.size:Int) !=0):=e
  subst e'
  exact PySem.W.truthy_bytes (by omega) ⟨H,I.tok _,q⟩
 |ref p=>
  cases rx
  have e':(∃xs,SqL X.K H p xs/\k= !xs.isEmpty)\/(∃xs,SqT X.K H p xs/\k= !xs.isEmpty)\/∃kvs,H p=some (.dK kvs)/\k= !kvs.isEmpty:=e
  rcases e' with⟨xs,hx,e'⟩|⟨xs,hx,e'⟩|⟨kvs,hx,e'⟩
  ·subst e'
   obtain⟨its,r,pl,hz⟩:=I.list hx
   have hlen:=r.length
   exact wpAny_truthy_list pl.isList (by simp only[dW];omega) ⟨H,I.tok _,by rw[isEmpty_of r];exact q⟩
  ·subst e'
   obtain⟨its,r,pl,hz⟩:=I.tuple hx
   have hlen:=r.length
   exact truthy_tuple pl (by simp only[dW];omega) ⟨H,I.tok _,by rw[isEmpty_of r];exact q⟩
  ·subst e'
   obtain⟨hz,hS,vs,r,m⟩:kvs.length<=sizeLine/\(p==sysModules)=false/\∃vs,KV kvs vs/\s.heap.DictOf (mixKind X.prog X.w) p vs:=I.hok p _ hx
   have hlen:kvs.length=vs.length:=wel r
   exact wpAny_truthy_dict hS m (by omega) ⟨H,I.tok _,by rw[isEmpty_kv r];exact q⟩
 |_=>exact(show False from e).elim
theorem pt_truth(ha:PE X a ta)(he:∀whole,isTrue a X.env whole=(do let v<-whole;standAt a.pos;holding [v] (truthy v))):
  PT X a (fun σ H Q=>ta σ H fun x H'=>∃k,TruV X.K x H' k/\Q k H'):=by
 intro pins s σ H Q I h
 exact isTrue_plain (thn (ha pins s σ H _ I h) fun v s1 ⟨x,H1,I1,r1,q1⟩=>tru_ok pins s1 σ H1 x v Q I1 r1 q1) (he _)
theorem vals1{x:V}{us:List Value}(r:Vals [x] us):∃u,us=[u]/\RelV x u:=by
 cases r with
 |cons r1 r2=>cases r2;exact⟨_,rfl,r1⟩
theorem vals2{x y:V}{us:List Value}(r:Vals [x,y] us):∃u w',us=[u,w']/\RelV x u/\RelV y w':=by
 cases r with
 |cons r1 r2=>
  cases r2 with
  |cons r3 r4=>cases r4;exact⟨_,_,rfl,r1,r3⟩
theorem call_abs:CallR X (.builtin "abs") (fun xs H Q=>∃i,xs=[.int i]/\Q (.int (if i<0 then -i else i)) H):=by
 intro pins s σ H xs us Q I r h
 obtain⟨i,rfl,q⟩:=h
 obtain⟨u,rfl,t,rfl⟩:=vals1 r
 exact call_abs_int fun u tk=>⟨.int (if i<0 then -i else i),H,I.tok _,⟨_,rfl⟩,q⟩
theorem call_max2(hc:X.calm=true):CallR X (.builtin "max") (fun xs H Q=>∃i j,xs=[.int i,.int j]/\Q (.int (if j>i then j else i)) H):=by
 intro pins s σ H xs us Q I r h
 obtain⟨i,j,rfl,q⟩:=h
 obtain⟨u,w',rfl,⟨t,rfl⟩,⟨t',rfl⟩⟩:=vals2 r
 refine max_two_ints (I.ok.hd hc) fun h' tk k=>⟨_,H,I.kept k,?_,q⟩
 by_cases hj:j>i
 ·rw[bD hj,bD hj];exact⟨_,rfl⟩
 ·rw[bC hj,bC hj];exact⟨_,rfl⟩
theorem call_min2(hc:X.calm=true):CallR X (.builtin "min") (fun xs H Q=>∃i j,xs=[.int i,.int j]/\Q (.int (if j<i then j else i)) H):=by
 intro pins s σ H xs us Q I r h
 obtain⟨i,j,rfl,q⟩:=h
 obtain⟨u,w',rfl,⟨t,rfl⟩,⟨t',rfl⟩⟩:=vals2 r
 refine min_two_ints (I.ok.hd hc) fun h' tk k=>⟨_,H,I.kept k,?_,q⟩
 by_cases hj:j<i
 ·rw[bD hj,bD hj];exact⟨_,rfl⟩
 ·rw[bC hj,bC hj];exact⟨_,rfl⟩
end
section
variable{prog:Program}{w:World}{A:Around}{E:Value->Shared->Prop}{s:Shared}{K:W.Frag}{x dx C f:Addr}{mA:Str->Option Value}{name:Str}{v:Value}
end
theorem RelO.some_of{v:V}{o:Option Value}(r:RelO (some v) o):∃u,o=some u/\RelV v u:=by
 cases o with
 |none=>exact(show False from r).elim
 |some u=>exact⟨u,rfl,r⟩
section
variable{P:Program}{w:World}{H H':Hp}{h h':Heap}{a C dx:Addr}{fs fs':List (Str×V)}
end
section
variable{X:Cx}{pins:List (Addr×Obj)}{σ:St}{H:Hp}{s:Shared}{a C dx:Addr}{fs:List (Str×V)}{f:Str}{v:V}{A:Around}{E:Value->Shared->Prop}
end
section
variable{X:Cx}{o e value:Expr}{f:Str}{pos pos' tpos:Pos}{ta tv:TE}
end
section
variable{X:Cx}{pins:List (Addr×Obj)}{σ:St}{H:Hp}{s:Shared}{A:Around}{E:Value->Shared->Prop}{Q:Value->Shared->Prop}{c:Value}{b:Bool}
end
structure Room(k:Nat)(A:Around):Prop where
 hd:A.handled=none
 dp:A.depth+3*k+5<recursionLimit
 un:A.units+16*k+200<cLine
 gd:A.guards=some []
theorem Room.mono{j k:Nat}{A:Around}(r:Room k A)(h:j<=k):Room j A:=⟨r.hd,by have:=r.dp;omega,by have:=r.un;omega,r.gd⟩
theorem Room.deeper{k:Nat}{A:Around}(r:Room (k+1) A)(env:Env):Room k (A.deeper env):=
 ⟨r.hd,by have:=r.dp;show A.depth+1+3*k+5<_;omega,by have:=r.un;show A.units+3+16*k+200<_;omega,r.gd⟩
theorem Room.depth{k:Nat}{A:Around}(r:Room k A):A.depth<recursionLimit:=by have:=r.dp;omega
theorem Room.units{k:Nat}{A:Around}(r:Room k A):A.units+64<cLine:=by have:=r.un;omega
theorem Room.units0{k:Nat}{A:Around}(r:Room k A):A.units<cLine:=by have:=r.un;omega
def tNil:TA:=fun _ H Q=>Q [] H
def tCons(ta:TE)(tr:TA):TA:=fun σ H Q=>ta σ H fun x H1=>tr σ H1 fun xs H2=>Q (x::xs) H2
section
variable{X:Cx}{e:Expr}{es:List Expr}{te:TE}{t:TA}{pos:Pos}
theorem ak:PA X [] tNil:=fun _ _ _ _ H Q I h=>X4 ⟨[],H,I,.nil,h⟩
theorem aj(ha:PE X e te)(hr:PA X es t)(hs:starEach (e::es) X.env=(false,eval e X.env)::starEach es X.env:=by rfl):PA X (e::es) (tCons te t):=by
 intro pos pins s σ H Q I h
 rw[hs]
 show wpAny _ _ (spliced ((false,eval e X.env)::backTo pos (starEach es X.env))) _ _ s
 refine X5 (thn (ha pins s σ H _ I h) fun u s1 ⟨x,H1,I1,r1,q1⟩=> ?_)
 exact thn (hr pos pins s1 σ H1 _ I1 q1) fun us s2 ⟨xs,H2,I2,r2,q2⟩=>⟨x::xs,H2,I2,.cons r1 r2,q2⟩
def tTup(t:TA):TE:=fun σ H Q=>t σ H fun xs H1=>xs.length<=sizeLine/\∀p,H1 p=none->Q (.ref p) (upd H1 p (.tup xs))
def tLst(t:TA):TE:=fun σ H Q=>t σ H fun xs H1=>xs.length<=sizeLine/\∀p,H1 p=none->Q (.ref p) (upd H1 p (.lst xs))
theorem gH{x1}(h:PA X es t):PE X (.Tuple es x1 pos) (tTup t):=by
 intro pins s σ H Q I hq
 refine wpAny_Tuple_spliced (thn (h pos pins s σ H _ I hq) fun us s1 ⟨xs,H1,I1,r,z,q⟩=>⟨by rw[<-r.length];exact z,?_⟩)
 have hf:H1 s1.heap.objs.size=none:=I1.hok.fresh (bx _)
 refine⟨.ref s1.heap.objs.size,upd H1 s1.heap.objs.size (.tup xs),I1.laid (t':=s1.toks) (fun b u e=>fV _ e) (bx _) ?_,rfl,q _ hf⟩
 exact⟨z,us,r,⟨_,qp _ rfl,rfl,_,rfl⟩⟩
theorem pe_lst(h:PA X es t):PE X (.List es pos) (tLst t):=by
 intro pins s σ H Q I hq
 refine wpAny_List_spliced (thn (h pos pins s σ H _ I hq) fun us s1 ⟨xs,H1,I1,r,z,q⟩=>⟨by rw[<-r.length];exact z,?_⟩)
 have hf:H1 s1.heap.objs.size=none:=I1.hok.fresh (bx _)
 refine⟨.ref s1.heap.objs.size,upd H1 s1.heap.objs.size (.lst xs),I1.laid (t':=s1.toks) (fun b u e=>fV _ e) (bx _) ?_,rfl,q _ hf⟩
 exact⟨z,us,0,r,qp _ rfl⟩
end
abbrev Sp:=List V->Hp->VK->XK->Prop
abbrev CXT:=List Env->Hp->Shared->XK->Value->Shared->Prop
structure Env0(P:Program)(w:World)(K:W.Frag)(mg:Str->Option Value)(base:Heap)(A:Around)(outer:List Env)(s:Shared)(H:Hp):Prop where
 frames:A.frames=some outer
 mod:Mod K mg base
 bs:∀b o,base.get? b=some o->s.heap.get? b=some o/\H b=none
 bsz:base.objs.size<=s.heap.objs.size
 funs:s.heap.FunFrames base outer
 frf:∀b∈frs outer,H b=none
 hok:HOk P w H s.heap
 bare:AllBare s.gens
def CE(outer:List Env)(P:Program)(w:World)(H:Hp)(s:Shared)(Q:VK)(u:Value)(s':Shared):Prop:=
 ∃v H',s'.os=s.os/\AllBare s'.gens/\Un (frs outer) [] H H' s.heap s'.heap/\HOk P w H' s'.heap/\RelV v u/\Q v H'
def CR(CX:CXT)(outer:List Env)(P:Program)(w:World)(H:Hp)(s:Shared)(Q:VK)(E:XK)(r:Result)(s':Shared):Prop:=
 match r with
 | .ok (.ret u)=>CE outer P w H s Q u s'
 | .ok _=>False
 | .error e=>CX outer H s E e s'
structure FnOk(P:Program)(w:World)(K:W.Frag)(mg:Str->Option Value)(base:Heap)(CX:CXT)(k:Nat)(f:Addr)(fd:FuncData)(ps:List Str)(sp:Sp):Prop where
 len:∀vs H Q E,sp vs H Q E->vs.length=ps.length
 run:∀(A:Around) (outer:List Env) (s:Shared) (H:Hp) (args:Args) (us:List Value) (vs:List V) (Q:VK) (E:XK),Room k A->Env0 P w K mg base A outer s H->BindsTo s fd args (ps.zip us)->Vals vs us->sp vs H Q E->
  codeAny (model P w) A (.call (.ref f) args) (CR CX outer P w H s Q E) s
theorem FnOk.mono{P:Program}{w:World}{K:W.Frag}{mg:Str->Option Value}{base:Heap}{CX:CXT}{j k:Nat}{f:Addr}{fd:FuncData}{ps:List Str}{sp:Sp}(F:FnOk P w K mg base CX j f fd ps sp)(h:j<=k):
  FnOk P w K mg base CX k f fd ps sp:=⟨F.len,fun A outer s H args us vs Q E hr=>F.run A outer s H args us vs Q E (hr.mono h)⟩
section
variable{X:Cx}{pins:List (Addr×Obj)}{σ:St}{H:Hp}{s s':Shared}
theorem Inv.env0(I:Inv X pins σ H s):Env0 X.prog X.w X.K X.mg X.base X.A X.stack s H:=
 ⟨I.ok.frames,I.ok.mod,I.bs,gJ I.ok.bsz I.sz,I.stack,I.stkFree,I.hok,I.bare⟩
theorem Inv.after{Q:VK}{u:Value}(I:Inv X pins σ H s)(h:CE X.stack X.prog X.w H s Q u s'):EP X pins σ Q u s':=by
 obtain⟨v,H',os,bare,un,hok,r,q⟩:=h
 obtain⟨hh,g,d,t,os'⟩:=s'
 obtain rfl:os'=s.os:=os
 exact⟨v,H',I.call (h':=hh) (g':=g) (d':=d) (t':=t) (ch:=[]) un hok bare (fun b z=>absurd z (by simp)),r,q⟩
end
def tCall(sp:Sp)(dvs:List V)(E:XK)(t:TA):TE:=fun σ H Q=>t σ H fun vs H1=>sp (vs++dvs) H1 Q E
def Binds(K:W.Frag)(fd:FuncData)(ps:List Str)(ds:List Value):Prop:=
 ∀(s:Shared) (us:List Value),K.In s.heap->(us++ds).length=ps.length->BindsTo s fd ⟨us,[]⟩ (ps.zip (us++ds))
theorem Binds.all{K:W.Frag}{fd:FuncData}{ps:List Str}(h:∀us:List Value,us.length=ps.length->bindArgs fd ⟨us,[]⟩=pure (ps.zip us)):Binds K fd ps []:=fun s us _ hl=>by
 rw[uU]at hl⊢
 exact .of_eq (h us hl)
def Passes(CX:CXT)(X:Cx)(E:XK):Prop:=∀(pins:List (Addr×Obj)) (σ:St) (H:Hp) (s:Shared) (e:Value) (s':Shared),Inv X pins σ H s->CX X.stack H s E e s'->X.xe e s'
section
variable{X:Cx}{CX:CXT}{k:Nat}{f C:Addr}{fd:FuncData}{ps:List Str}{sp:Sp}{dvs:List V}{ds:List Value}{E:XK}{x m:Str}{p pos apos:Pos}{e o:Expr}{es:List Expr}{ta:TE}{t:TA}
theorem run_fn{pins:List (Addr×Obj)}{σ:St}{H:Hp}{s:Shared}{Q:VK}{us:List Value}{vs:List V}(F:FnOk X.prog X.w X.K X.mg X.base CX k f fd ps sp)(hr:Room k X.A)(hb:Binds X.K fd ps ds)(hd:Vals dvs ds)(hx:Passes CX X E)
  (I:Inv X pins σ H s)(r:Vals vs us)(h:sp (vs++dvs) H Q E):wpAny (model X.prog X.w) X.A (call (.ref f) us) (EP X pins σ Q) X.xe s:=by
 have r2:Vals (vs++dvs) (us++ds):=r.append hd
 have hl:(us++ds).length=ps.length:=by rw[<-r2.length];exact F.len _ _ _ _ h
 refine Xz (Vs (F.run X.A X.stack s H ⟨us,[]⟩ (us++ds) (vs++dvs) Q E hr I.env0 (hb s us I.kIn hl) r2 h) fun r s' hq=> ?_)
 cases r with
 |error e=>exact hx pins σ H s e s' I hq
 |ok fl=>
  cases fl with
  |ret u=>exact I.after hq
  |next=>exact False.elim hq
  |brk=>exact False.elim hq
  |cont=>exact False.elim hq
theorem pe_call(F:FnOk X.prog X.w X.K X.mg X.base CX k f fd ps sp)(hr:Room k X.A)(hg:Gl X x)(hm:X.mg x=some (.ref f))(hk:PySem.W.keepIn X.K (.ref f)=true)(hb:Binds X.K fd ps ds)(hd:Vals dvs ds)(hx:Passes CX X E)(ha:PA X (e::es) t)(hdb:(x==("__debug__":Str))=false:=by decide)(he:starEach (e::es) X.env=(false,eval e X.env)::starEach es X.env:=by rfl)(hpl:(backTo pos (starEach es X.env)).any (·.1)=false:=by rfl):
  PE X (.Call (.Name x p) (e::es) [] pos) (tCall sp dvs E t):=by
 intro pins s σ H Q I h
 refine Ng (ld_glob I hg hm ?_ hdb)
 refine PySem.W.callWith_K (h₀:=X.base) I.ok.mod.kin hk (thn (ha pos pins s σ H _ I h) fun us s1 ⟨vs,H1,I1,r,q⟩=>⟨I1.kIn,?_⟩) he hpl
 exact run_fn F hr hb hd hx I1 r q
theorem pe_call0(F:FnOk X.prog X.w X.K X.mg X.base CX k f fd ps sp)(hr:Room k X.A)(hg:Gl X x)(hm:X.mg x=some (.ref f))(hk:PySem.W.keepIn X.K (.ref f)=true)(hb:Binds X.K fd ps ds)(hd:Vals dvs ds)(hx:Passes CX X E)(hdb:(x==("__debug__":Str))=false:=by decide):PE X (.Call (.Name x p) [] [] pos) (tCall sp dvs E tNil):=by
 intro pins s σ H Q I h
 refine Ng (ld_glob I hg hm ?_ hdb)
 exact PySem.W.callWith_K0 I.kIn hk (run_fn (us:=[]) F hr hb hd hx I .nil h)
end
def PK(X:Cx)(kws:List Keyword)(t:TA):Prop:=
 ∀(pos:Pos) (pins:List (Addr×Obj)) (s:Shared) (σ:St) (H:Hp) (Q:List V->Hp->Prop),Inv X pins σ H s->t σ H Q->wpAny (model X.prog X.w) X.A (evalAll ((backToKw pos (keywordEach kws X.env)).map (·.2))) (AP X pins σ Q) X.xe s
section
variable{X:Cx}{CX:CXT}{k:Nat}{f C:Addr}{fd:FuncData}{ps ks:List Str}{sp:Sp}{E:XK}{x m:Str}{p pos apos kpos:Pos}{e o:Expr}{es:List Expr}{kws:List Keyword}{te ta:TE}{t tk:TA}{nm:Option Str}
theorem yP:PK X [] tNil:=fun _ _ _ _ H Q I h=>wpAny_evalAll_nil ⟨[],H,I,.nil,h⟩
theorem lW(ha:PE X e te)(hr:PK X kws t):PK X (⟨nm,e,kpos⟩::kws) (tCons te t):=by
 intro pos pins s σ H Q I h
 show wpAny _ _ (evalAll ((do let v<-eval e X.env;standAt pos;pure v)::(backToKw pos (keywordEach kws X.env)).map (·.2))) _ _ s
 refine wpAny_evalAll_cons (aK (thn (ha pins s σ H _ I h) fun u s1 ⟨x,H1,I1,r1,q1⟩=>aK (wpAny_standAt (bO ?_))))
 exact thn (hr pos pins s1 σ H1 _ I1 q1) fun us s2 ⟨xs,H2,I2,r2,q2⟩=>⟨x::xs,H2,I2,.cons r1 r2,q2⟩
variable{g:List Value->List Value->List Value}{gV:List V->List V->List V}
end
structure FnScope(N P:List Str)(sc:Scope):Prop where
 kind:sc.kind= .function
 co:sc.isCoroutine=false
 gen:sc.isGenerator=false
 nd:N.Nodup
 pre:N.take P.length=P
 par:∀x∈P,sc.names.lookup x=some .local\/sc.names.lookup x=some .cell
 nofree:∀y∈sc.names,y.2≠.free
theorem bindL_out{kindOf:Str->Option NameKind}{x:Str}:∀{binds:List (Str×Value)} {m:Str->Option Value},(∀v,(x,v)∉binds)->bindL kindOf binds m x=m x
 |[],_,_=>rfl
 |(n,v)::r,m,h=>by
  unfold bindL
  rw[bindL_out fun w hw=>h w (lZ _ hw)]
  split
  ·have:x≠n:=by rintro rfl;exact h v jl
   simp[this]
  ·rfl
theorem bindC_out{kindOf:Str->Option NameKind}{x:Str}:∀{binds:List (Str×Value)} {m:Str->Option Value},(∀v,(x,v)∉binds)->bindC kindOf binds m x=m x
 |[],_,_=>rfl
 |(n,v)::r,m,h=>by
  unfold bindC
  rw[bindC_out fun w hw=>h w (lZ _ hw)]
  split
  ·rfl
  ·have:x≠n:=by rintro rfl;exact h v jl
   simp[this]
theorem bindL_get{kindOf:Str->Option NameKind}{x:Str}{v:Value}:∀{P:List Str} {vs:List Value} {i:Nat} {m:Str->Option Value},P.Nodup->P[i]? =some x->vs[i]? =some v->kindOf x=some .local->
  bindL kindOf (P.zip vs) m x=some v
 |[],_,_,_,_,h,_,_=>by simp at h
 |_::_,[],_,_,_,_,h,_=>by simp at h
 |p::P,w::vs,0,m,nd,h1,h2,hk=>by
  simp at h1 h2;subst h1;subst h2
  show bindL kindOf ((p,w)::P.zip vs) m p=_
  unfold bindL
  rw[bindL_out fun v hv=>(M5.mp nd).1 (wew hv).1,bD hk]
  simp
 |p::P,w::vs,i+1,m,nd,h1,h2,hk=>by
  show bindL kindOf ((p,w)::P.zip vs) m x=_
  unfold bindL
  exact bindL_get (i:=i) (M5.mp nd).2 (by simpa using h1) (by simpa using h2) hk
theorem bindC_get{kindOf:Str->Option NameKind}{x:Str}{v:Value}:∀{P:List Str} {vs:List Value} {i:Nat} {m:Str->Option Value},P.Nodup->P[i]? =some x->vs[i]? =some v->kindOf x≠some .local->
  bindC kindOf (P.zip vs) m x=some v
 |[],_,_,_,_,h,_,_=>by simp at h
 |_::_,[],_,_,_,_,h,_=>by simp at h
 |p::P,w::vs,0,m,nd,h1,h2,hk=>by
  simp at h1 h2;subst h1;subst h2
  show bindC kindOf ((p,w)::P.zip vs) m p=_
  unfold bindC
  rw[bindC_out fun v hv=>(M5.mp nd).1 (wew hv).1,bC hk]
  simp
 |p::P,w::vs,i+1,m,nd,h1,h2,hk=>by
  show bindC kindOf ((p,w)::P.zip vs) m x=_
  unfold bindC
  exact bindC_get (i:=i) (M5.mp nd).2 (by simpa using h1) (by simpa using h2) hk
def start(N:List Str)(vs:List V):St:=vs.map some++List.replicate (N.length-vs.length) none
def cxOf(CX:CXT)(P:Program)(w:World)(K:W.Frag)(mg:Str->Option Value)(base:Heap)(N:List Str)(qual:Str)(scope:Scope)(f:Addr)(cd:Value)(A:Around)(outer:List Env)(s:Shared)(H:Hp)(E:XK):Cx where
 prog:=P
 w:=w
 K:=K
 mg:=mg
 base:=base
 A:=A.deeper (envOfC qual scope s.heap.objs.size f cd)
 N:=N
 s₀:=s
 H₀:=H
 env:=envOfC qual scope s.heap.objs.size f cd
 outer:=outer
 stack:=envOfC qual scope s.heap.objs.size f cd::outer
 ex:=[]
 calm:=true
 fn:=fun _=>true
 pn:=[]
 xe:=fun e s'=>wpAny (model P w) (A.deeper (envOfC qual scope s.heap.objs.size f cd)) (leaving (envOfC qual scope s.heap.objs.size f cd) e) (fun _ s''=>CX outer H s E e s'') (fun e' s''=>CX outer H s E e' s'') s'
theorem cell_has{sc:Scope}{n:Nat}{x:Str}(h:sc.names.lookup x=some .cell):∃c,(cellsFrom n sc.names []).lookup x=some c:=by
 have q:=wet sc.names n [] (.inl h)
 exact Option.isSome_iff_exists.mp q
theorem inv_start{CX:CXT}{P:Program}{w:World}{K:W.Frag}{mg:Str->Option Value}{base:Heap}{N ps:List Str}{qual:Str}{scope:Scope}{f:Addr}{cd:Value}{A:Around}{outer:List Env}{s s1:Shared}{H:Hp}{E:XK}{us:List Value}{vs:List V}
  (S:FnScope N ps scope)(hd:A.handled=none)(e0:Env0 P w K mg base A outer s H)(hl:vs.length=ps.length)(r:Vals vs us)(x:InCallC s s.heap.objs.size (bindL (envOfC qual scope s.heap.objs.size f cd).kindOf (ps.zip us) fun _=>none) (cellsFrom (s.heap.objs.size+1) scope.names []) (bindC (envOfC qual scope s.heap.objs.size f cd).kindOf (ps.zip us) fun _=>none) s1):
  Inv (cxOf CX P w K mg base N qual scope f cd A outer s H E) [] (start N vs) H s1:=by
 have hpl:ps.length<=N.length:=by have:=rH List.length S.pre;rw[yV]at this;omega
 obtain⟨h1,tk,rfl,hk⟩:=x.done
 have noA:∀b:Addr,b∉(cxOf CX P w K mg base N qual scope f cd A outer s H E).ex:=fun b z=>absurd (show b∈([]:List Addr)from z) (by simp)
 refine⟨⟨e0.mod,S.kind,rfl,rfl,bx _,fun y z c h1 h2=> ?_,fun y hy=> ?_,fun y c _ h=> ?_,fun _=>hd,Around.frames_deeper e0.frames,.inr ⟨rfl,rfl⟩,fun b z=>absurd z (noA b),e0.bs,e0.bsz,fun b _ _=>noA b,fun b z=>absurd z (noA b),e0.funs,e0.frf⟩,
  rfl,e0.bare,Un.kept hk,⟨_,x.toInCall.ns,fun i y v h1 h2 h3=> ?_⟩,fun y c h=>⟨_,x.cell y c h⟩,e0.hok.fresh (bx _),fun y c h=> ?_,fun p hp=>absurd (show p∈([]:List (Addr×Obj))from hp) (by simp),e0.hok.kept hk,?_⟩
 ·exact name_of_addr x.apart (Nj h1) (Nj h2)
 ·have hy:scope.names.lookup y=some .cell\/scope.names.lookup y=some .free:=hy
  rcases hy with hy|hy
  ·exact cell_has hy
  ·exact absurd rfl (S.nofree _ (Nj hy))
 ·exact Mi (x.above y c (Nj h))
 ·have hi:i<vs.length:=by
   unfold start at h2
   by_cases hi:i<vs.length
   ·exact hi
   ·rw[Xx (by simpa using hi)]at h2
    rw[List.getElem?_replicate]at h2
    split at h2<;>cases h2
  have ha:vs[i]? =some v:=by
   unfold start at h2
   rw[Xw (by simpa using hi),gw]at h2
   cases e:vs[i]? with
   |none=>rw[e]at h2;cases h2
   |some a=>rw[e]at h2;cases h2;rfl
  obtain⟨u,hu,rv⟩:=r.get ha
  have hp:ps[i]? =some y:=by
   rw[<-S.pre,List.getElem?_take_of_lt (by omega)];exact h1
  have ndP:ps.Nodup:=by rw[<-S.pre];exact S.nd.sublist (wee _ _)
  refine⟨u,rv,?_⟩
  rcases S.par y (Fz hp)with k|k
  ·exact .inl ⟨k,bindL_get ndP hp hu k⟩
  ·obtain⟨c,e⟩:=cell_has (n:=s.heap.objs.size+1) k
   refine .inr ⟨.inl k,c,e,?_⟩
   have q:=x.cell y c e
   rw[bindC_get ndP hp hu (by show scope.names.lookup y≠_;rw[k];decide)]at q
   exact q
 ·exact e0.hok.fresh (Mi (x.above y c (Nj h)))
 ·unfold start
  show _=N.length
  rw[iz,aQ,List.length_replicate]
  omega
theorem fn_of{CX:CXT}{P:Program}{w:World}{K:W.Frag}{mg:Str->Option Value}{base:Heap}{k:Nat}{f:Addr}{name qual:Str}{params:Arguments}{body:List Stmt}{scope:Scope}{dV kV doc pm cdv ct oc:Value}{an od:Option Addr}{osl:Array (Option Value)}{N ps:List Str}{sp:Sp}(lk:K.lookup f=some ⟨oc,od,.func (PySem.W.fnOf name qual params body scope dV kV doc pm an cdv ct),osl⟩)(hcd:PySem.W.codeIn K cdv qual=true)(S:FnScope N ps scope)(len:∀vs H Q E,sp vs H Q E->vs.length=ps.length)(hbody:∀(A:Around) (outer:List Env) (s:Shared) (H:Hp) (vs:List V) (Q:VK) (E:XK),Room k (A.deeper (envOfC qual scope s.heap.objs.size f cdv))->sp vs H Q E->
   ∃t,PSs (cxOf CX P w K mg base N qual scope f cdv A outer s H E) body t/\t {nx:=fun _ H'=>Q .non H',rt:=Q} (start N vs) H):
  FnOk P w K mg base CX (k+1) f (PySem.W.fnOf name qual params body scope dV kV doc pm an cdv ct) ps sp:=by
 refine⟨len,fun A outer s H args us vs Q E hr e0 hb r hsp=> ?_⟩
 have hl:=len _ _ _ _ hsp
 have KX:K.In s.heap:=e0.mod.kin.keeps fun b o e=>(e0.bs b o e).1
 have lim:s.heap.NoLimit:=e0.mod.nolimit.keeps fun b o e=>(e0.bs b o e).1
 have hkind:∀y∈ps.zip us,scope.names.lookup y.1=some .local\/(scope.names.lookup y.1=some .cell/\((cellsFrom (s.heap.objs.size+1) scope.names []).lookup y.1).isSome=true):=fun⟨n,v⟩ hy=>by
  rcases S.par n (wew hy).1 with q|q
  ·exact .inl q
  ·exact .inr ⟨q,wet _ _ _ (.inl q)⟩
 refine codeAny_call_function hr.depth (KX _ _ lk) rfl S.co S.gen rfl (PySem.W.codeRec_of KX hcd) (hb _ _ _ _ ?_)
 refine wpAny_newFunctionEnv_cells S.kind hkind fun env he s1 x=> ?_
 subst he
 refine⟨lim.keeps x.toInCall.keep,codeAny_func ?_⟩
 obtain⟨t,ht,hq⟩:=hbody A outer s H vs Q E (hr.deeper _) hsp
 have I:Inv (cxOf CX P w K mg base N qual scope f cdv A outer s H E) [] (start N vs) H s1:=inv_start S hr.hd e0 hl r x
 refine Mt (ht [] s1 (start N vs) H _ I hq) (fun fl s' hs=> ?_) fun e s' hs=>hs
 have fin:∀{σ':St} {H':Hp} {v:V} {u:Value},Inv (cxOf CX P w K mg base N qual scope f cdv A outer s H E) [] σ' H' s'->RelV v u->Q v H'->CE outer P w H s Q u s':=
  fun{σ' H' v u} J rv q=>⟨v,H',J.os,J.bare,J.base,J.hok,rv,q⟩
 cases fl with
 |ret u=>
  obtain⟨v,σ',H',J,rv,q⟩:=hs
  exact fin J rv q
 |next=>
  obtain⟨σ',H',J,q⟩:=hs
  exact fin (v:=V.non) (u:=Value.none) J rfl q
 |brk=>
  obtain⟨_,_,_,q⟩:=hs
  exact False.elim q
 |cont=>
  obtain⟨_,_,_,q⟩:=hs
  exact False.elim q
section
variable{X:Cx}{x:Str}{p pos:Pos}{e:Expr}{es:List Expr}{t:TA}{id T:String}{r:List V->Hp->VK->Prop}
def tCB(r:List V->Hp->VK->Prop)(t:TA):TE:=fun σ H Q=>t σ H fun vs H1=>r vs H1 Q
theorem dF(hc:CallR X (.builtin id) r)(hg:Gl X x)(hm:X.mg x=none)(hv:bootBuiltins x=some (.builtin id))(ha:PA X (e::es) t)(hn:x≠"__name__":=by decide)(hdb:(x==("__debug__":Str))=false:=by decide)(he:starEach (e::es) X.env=(false,eval e X.env)::starEach es X.env:=by rfl)(hpl:(backTo pos (starEach es X.env)).any (·.1)=false:=by rfl):PE X (.Call (.Name x p) (e::es) [] pos) (tCB r t):=by
 intro pins s σ H Q I h
 refine Ng (ld_blt I hg hm hv ?_ hn hdb)
 exact wbr (thn (ha pos pins s σ H _ I h) fun us s1 ⟨vs,H1,I1,r1,q1⟩=>hc pins s1 σ H1 vs us Q I1 r1 q1) he hpl
theorem Fv(hc:CallR X (.type T) r)(hg:Gl X x)(hm:X.mg x=none)(hv:bootBuiltins x=some (.type T))(ha:PA X (e::es) t)(hn:x≠"__name__":=by decide)(hdb:(x==("__debug__":Str))=false:=by decide)(he:starEach (e::es) X.env=(false,eval e X.env)::starEach es X.env:=by rfl)(hpl:(backTo pos (starEach es X.env)).any (·.1)=false:=by rfl):PE X (.Call (.Name x p) (e::es) [] pos) (tCB r t):=by
 intro pins s σ H Q I h
 refine Ng (ld_blt I hg hm hv ?_ hn hdb)
 exact Nk (thn (ha pos pins s σ H _ I h) fun us s1 ⟨vs,H1,I1,r1,q1⟩=>hc pins s1 σ H1 vs us Q I1 r1 q1) he hpl
end
end L2
namespace HT
open PySem PyProof.Rows
def lexLt:List Int->List Int->Bool
 |[],[]=>false
 |[],_::_=>true
 |_::_,[]=>false
 |x::xs,y::ys=>if x=y then lexLt xs ys else decide (x<y)
theorem lexLt_cons(x y:Int)(xs ys:List Int):lexLt (x::xs) (y::ys)=if x=y then lexLt xs ys else decide (x<y):=rfl
theorem lexLt_nil_nil:lexLt [] []=false:=rfl
theorem lexLt_nil_cons(y:Int)(ys:List Int):lexLt [] (y::ys)=true:=rfl
theorem lexLt_cons_nil(x:Int)(xs:List Int):lexLt (x::xs) []=false:=rfl
theorem eqAt_int(A:Around)(s:Shared)(a:Int)(t:Tok)(c:Int)(u:Tok):∃e,SeqAt.EqAt A s (.int a t) (.int c u) e/\(e=true↔a=c):=
 ⟨(a==c),SeqAt.EqAt.int_int a t c u,by simp⟩
theorem rcLt_int(A:Around)(s:Shared)(a:Int)(t:Tok)(c:Int)(u:Tok)(prog:Program)(w:World)(E:Value->Shared->Prop)(Q:Value->Shared->Prop)(h:Q (.bool (decide (a<c))) s):
  wpAny (model prog w) A (richCompare .Lt (.int a t) (.int c u)) Q E s:=
 (PyProof.Rows.lt_int h:wpAny (model prog w) A (compareOp .Lt (.int a t) (.int c u)) Q E s)
section
open PySem.SeqAt
open PySem.AutoSeq1 (wpAny_loadPart')
open PySem.MeetsSeq PySem.MeetsSeq2 PySem.MeetsSeq3
theorem tuple_lt_ints(l b:Addr)(items items2:Array Value)(n n2:Nat)(dd dd2:Option Addr)(sl sl2:Array (Option Value))(ns ms:List Int)(hi:IntsAre items.toList ns)(hj:IntsAre items2.toList ms):
  Meets (Builtin.«tuple.__lt__» ⟨[.ref l,.ref b],[]⟩)
   (fun _ R s=>s.heap.get? l=some {cls:= .type "tuple",dict:=dd,data:= .seq items n,slots:=sl}/\s.heap.get? b=some {cls:= .type "tuple",dict:=dd2,data:= .seq items2 n2,slots:=sl2}/\
    R (.ok (.ret (.bool (lexLt ns ms)))) s):=
 .of_wp fun prog w A R s h=>by
  obtain⟨hp,g,d,tk,os⟩:=s;obtain⟨hl,hb,h⟩:=h
  have f2:=AutoSeq1.sub_tuple_tuple
  have z1:items.size=ns.length:=by rw[<-hi.length];simp
  have z2:items2.size=ms.length:=by rw[<-hj.length];simp
  wp_walk using wpAny_loadPart' hl,wpAny_loadPart' hb,wpAny_forIn_list _ (fun rest b s'=>b.1=none/\s'=⟨hp,g,d,tk,os⟩/\∃(vs ws:List Value) (ns' ms':List Int),rest=vs.zip ws/\
   IntsAre vs ns'/\IntsAre ws ms'/\ns'.length+items2.size=ms'.length+items.size/\R (.ok (.ret (.bool (lexLt ns' ms')))) ⟨hp,g,d,tk,os⟩) _
  case turn=>
   rintro⟨y,x⟩ rest b s' ⟨hb',rfl,vs,ws,ns',ms',hz,hvi,hwi,hlen,hR⟩
   cases hvi with
   |nil=>rw[List.zip_nil_left]at hz;cases hz
   |cons a t hvi'=>
    cases hwi with
    |nil=>rw[List.zip_nil_right]at hz;cases hz
    |cons c u hwi'=>
     rw[wdu]at hz
     injection hz with hyx hrest
     injection hyx with hy hx
     subst hy hx
     rw[lexLt_cons]at hR
     simp only[Mq]at hlen
     obtain⟨e,he,hiff⟩:=eqAt_int A.in1 ⟨hp,g,d,tk,os⟩ a t c u
     refine aK (he prog w _ _ ?_)
     cases e with
     |true=>
      rw[bD (hiff.mp rfl)]at hR
      wp_walk
      exact⟨rfl,rfl,_,_,_,_,hrest,hvi',hwi',by omega,hR⟩
     |false=>
      rw[bC (fun q=>absurd (hiff.mpr q) uy)]at hR
      have hri:=rcLt_int A.in1 ⟨hp,g,d,tk,os⟩ a t c u prog w
      wp_walk using hri
      exact⟨_,rfl,by simpa using hR⟩
  case fin=>
   rintro⟨b1,b2⟩ s' ⟨hb',rfl,vs,ws,ns',ms',hz,hvi,hwi,hlen,hR⟩
   simp only at hb'
   subst hb'
   have hv:lexLt ns' ms'=decide (items.size<items2.size):=by
    cases hvi with
    |nil=>
     cases hwi with
     |nil=>
      simp only[Rt]at hlen
      rw[lexLt_nil_nil]
      exact(gB (by omega)).symm
     |cons c u hw=>
      simp only[Rt,Mq]at hlen
      rw[lexLt_nil_cons]
      exact(cJ (by omega)).symm
    |cons a t hv=>
     cases hwi with
     |nil=>
      simp only[Rt,Mq]at hlen
      rw[lexLt_cons_nil]
      exact(gB (by omega)).symm
     |cons c u hw=>
      rw[wdu]at hz
      cases hz
   rw[hv]at hR
   wp_walk
   exact⟨_,rfl,by simpa[Builtin.Tuple.tupleCompareSizes]using hR⟩
  case h=>
   exact⟨rfl,rfl,items.toList,items2.toList,ns,ms,rfl,hi,hj,by omega,h⟩
end
section
variable{prog:Program}{w:World}{A:Around}{E:Value->Shared->Prop}{s:Shared}
theorem lt_tupInts{l b:Addr}{items items2:Array Value}{ns ms:List Int}{Q:Value->Shared->Prop}(hl:IsTup s.heap l items)(hb:IsTup s.heap b items2)(hi:IntsAre items.toList ns)(hj:IntsAre items2.toList ms)(hu:A.units<cLine)(h:Q (.bool (lexLt ns ms)) s):wpAny (model prog w) A (compareOp .Lt (.ref l) (.ref b)) Q E s:=by
 obtain⟨⟨cls,dd,data,sl⟩,ho,hc,n,hd⟩:=id hl
 obtain⟨⟨cls2,dd2,data2,sl2⟩,ho2,hc2,n2,hd2⟩:=id hb
 simp only at hc hd hc2 hd2
 subst hc hd hc2 hd2
 exact richCompare_meets_room (op:= .Lt) ⟨_,ho,rfl⟩ ⟨_,ho2,rfl⟩ PySem.F.slot_tuple_lt PySem.F.entry_tuple_lt (PySem.F.args_tuple_lt_2 _ _) (tuple_lt_ints l b items items2 n n2 dd dd2 sl sl2 ns ms hi hj)
  ⟨ho,ho2,show Value.bool (lexLt ns ms)≠Value.notImplemented/\Q (.bool (lexLt ns ms)) s from⟨(fun x=>nomatch x),h⟩⟩ hu
theorem cat_tup{t b:Addr}{vs ws:List Value}{Q:Value->Shared->Prop}(ht:IsTup s.heap t vs.toArray)(hb:IsTup s.heap b ws.toArray)(hv:vs≠[])(h1:ws=[]->Q (.ref t) s)(h2:ws≠[]->Q (.ref s.heap.objs.size) {s with heap:=s.heap.push {cls:= .type "tuple",data:= .seq (vs++ws).toArray}})(hsz:vs.length+ws.length<=sizeLine):wpAny (model prog w) A (binaryOp .Add (.ref t) (.ref b)) Q E s:=by
 obtain⟨⟨cls,dd,data,sl⟩,ho,hc,n,hd⟩:=id ht
 obtain⟨⟨cls2,dd2,data2,sl2⟩,ho2,hc2,n2,hd2⟩:=id hb
 simp only at hc hd hc2 hd2
 subst hc hd hc2 hd2
 have e:vs.toArray++ws.toArray=(vs++ws).toArray:=by simp
 by_cases hw:ws=[]
 ·exact wex ⟨_,ho,rfl⟩ ⟨_,ho2,rfl⟩ weo seq_tuple_add wco wci (wce _ _)
   (tuple_addW1 t b vs.toArray ws.toArray n n2 dd dd2 sl sl2 (by simpa using hv) (by simp[hw])) ⟨ho,ho2,h1 hw⟩
 ·refine wex ⟨_,ho,rfl⟩ ⟨_,ho2,rfl⟩ weo seq_tuple_add wco wci (wce _ _)
   (tuple_addW2 t b vs.toArray ws.toArray n n2 dd dd2 sl sl2 (by simpa using hv) (by simpa using hw) (by rw[dW,dW];exact hsz)) ⟨ho,ho2,?_⟩
  rw[e]
  exact h2 hw
def sIx(n d:Nat):Option Int->Nat
 |none=>d
 |some v=>if v<0 then(v+(n:Int)).toNat else min v.toNat n
theorem sIx_none(n d:Nat):sIx n d none=d:=rfl
theorem sIx_nat(n d k:Nat):sIx n d (some (k:Int))=min k n:=by
 show(if(k:Int)<0 then((k:Int)+(n:Int)).toNat else min (k:Int).toNat n)=min k n
 rw[bC (by omega),Xn]
theorem sIx_le(n d:Nat)(hd:d<=n)(o:Option Int):sIx n d o<=n:=by
 cases o with
 |none=>exact hd
 |some v=>
  show(if v<0 then(v+(n:Int)).toNat else min v.toNat n)<=n
  by_cases hv:v<0
  ·rw[bD hv];omega
  ·rw[bC hv];exact Nat.min_le_right _ _
theorem clip_eq(v:Int)(n d:Nat):(if v<0 then max (v+(n:Int)) 0 else min v (n:Int))=((sIx n d (some v):Nat):Int):=by
 show(if v<0 then max (v+(n:Int)) 0 else min v (n:Int))=(((if v<0 then(v+(n:Int)).toNat else min v.toNat n):Nat):Int)
 by_cases hv:v<0
 ·simp only[bD hv];omega
 ·simp only[bC hv];omega
theorem adjust_gen(lo hi:Option Int)(n:Nat):Builtin.Slice.sliceAdjust lo hi 1 (n:Int)=(((sIx n 0 lo:Nat):Int),((sIx n n hi:Nat):Int)):=by
 have h1:¬((1:Int)<0):=by omega
 unfold Builtin.Slice.sliceAdjust
 simp only[h1,Vp]
 refine Ms ?_ ?_
 ·cases lo with
  |none=>rfl
  |some v=>exact clip_eq v n 0
 ·cases hi with
  |none=>rfl
  |some v=>exact clip_eq v n n
theorem places_gen(i j:Nat):Builtin.Slice.slicePlaces (i:Int) (j:Int) 1=j-i:=by
 unfold Builtin.Slice.slicePlaces
 have h1:(1:Int)>0:=by omega
 simp only[h1,Vo,Int.ediv_one]
 split<;>omega
theorem slicePart_{v:Value}{o:Option Int}{Q:Option Int->Shared->Prop}(p:IsPart v o)(h:Q o s):wpAny (model prog w) A (Builtin.Slice.slicePartIndex v) Q E s:=by
 cases p with
 |none=>exact slicePart_none h
 |int i t=>exact slicePart_int h
theorem sliceApplied_gen{sl:Addr}{vl vu:Value}{lo hi:Option Int}{n:Nat}{Q:Int×Int×Nat->Shared->Prop}(hs:s.heap.IsSliceOf sl vl vu .none)(pl:IsPart vl lo)(pu:IsPart vu hi)(h:Q (((sIx n 0 lo:Nat):Int),1,sIx n n hi-sIx n 0 lo) s):wpAny (model prog w) A (Builtin.Slice.sliceApplied (.ref sl) (pure (n:Int))) Q E s:=by
 obtain⟨os,hos,hcs,hds⟩:=id hs
 unfold Builtin.Slice.sliceApplied Builtin.Slice.sliceFields
 refine aK (aK (Mu hos hds (x:=vl) rfl (aK (Mu hos hds (x:=vu) rfl (aK (Mu hos hds (x:= .none) rfl (bO ?_)))))))
 refine aK (slicePart_none ?_)
 show wpAny _ _ (if((1:Int)==0)=true then _ else _) _ _ s
 rw[bC (by decide)]
 refine aK (slicePart_ pl (aK (slicePart_ pu (aK (bO ?_)))))
 show wpAny _ _ (match Builtin.Slice.sliceAdjust lo hi 1 (n:Int)with |(lo,hi)=>pure (lo,(1:Int),Builtin.Slice.slicePlaces lo hi 1)) _ _ s
 rw[adjust_gen lo hi n]
 show wpAny _ _ (pure (((sIx n 0 lo:Nat):Int),(1:Int),Builtin.Slice.slicePlaces ((sIx n 0 lo:Nat):Int) ((sIx n n hi:Nat):Int) 1)) _ _ s
 rw[places_gen]
 exact bO h
theorem pick_gen(xs:Array Value)(i k:Nat):((List.range k).filterMap fun(m:Nat)=>xs[((i:Int)+(m:Int)*1).toNat]?).toArray=((xs.toList.drop i).take k).toArray:=by
 have e:(fun(m:Nat)=>xs[((i:Int)+(m:Int)*1).toNat]?)=fun m=>xs[i+m]? :=by
  funext m
  have:((i:Int)+(m:Int)*1).toNat=i+m:=by omega
  rw[this]
 rw[e]
 have:=pick_run xs i k
 rw[List.filterMap_map]at this
 have e2:((fun x=>xs[x]?)∘fun x=>i+x)=fun m=>xs[i+m]? :=rfl
 rw[e2]at this
 rw[this]
theorem getItem_tuple_cut{t sl:Addr}{items:Array Value}{vl vu:Value}{lo hi:Option Int}{Q:Value->Shared->Prop}(ht:IsTup s.heap t items)(hs:s.heap.IsSliceOf sl vl vu .none)(pl:IsPart vl lo)(pu:IsPart vu hi)(hw:¬(sIx items.size 0 lo=0/\sIx items.size items.size hi=items.size))(h:Q (.ref s.heap.objs.size) {s with heap:=s.heap.push {cls:= .type "tuple",data:= .seq ((items.toList.drop (sIx items.size 0 lo)).take (sIx items.size items.size hi-sIx items.size 0 lo)).toArray}})(hsz:items.size<=sizeLine):wpAny (model prog w) A (getItem (.ref t) (.ref sl)) Q E s:=by
 have htake:sizeOk (.seq ((items.toList.drop (sIx items.size 0 lo)).take (sIx items.size items.size hi-sIx items.size 0 lo)).toArray):=by
  show((items.toList.drop (sIx items.size 0 lo)).take (sIx items.size items.size hi-sIx items.size 0 lo)).toArray.size<=sizeLine
  rw[dW,yV,Xl,Uy]
  omega
 have hj:sIx items.size items.size hi<=items.size:=sIx_le _ _ (bx _) hi
 obtain⟨os,hos,hcs,hds⟩:=id hs
 have hTs:s.TypeIs (.ref sl) "slice":=⟨os,hos,hcs⟩
 unfold getItem
 try with_reducible refine M9 ?_
 first |refine aK (bO ?_)|skip
 refine aK (wpAny_sequenceKey ht.typeIs (by decide) ?_)
 refine aK (WX (name:=Str.ofString "__getitem__") ht.typeIs wbb
  (UG wbb ht.typeIs entry_tuple_getitem ?_ (args_tuple_getitem _ _)))
 show wpAny _ _ (Builtin.Tuple.tupleItemsOf (.ref t)>>=_) _ _ s
 refine aK (tupleItemsOf_ ht ?_)
 refine aK (WK hTs ?_)
 rw[bD (by decide)]
 refine aK (sliceApplied_gen hs pl pu ?_)
 have hno:¬((((sIx items.size 0 lo:Nat):Int)==0&&(1:Int)==1&&(sIx items.size items.size hi-sIx items.size 0 lo)==items.size)=true):=by
  intro q
  rw[qt,qt]at q
  have q1:((sIx items.size 0 lo:Nat):Int)=0:=eq_of_beq q.1.1
  have q2:sIx items.size items.size hi-sIx items.size 0 lo=items.size:=eq_of_beq q.2
  exact hw ⟨by omega,by omega⟩
 show wpAny _ _ (if(((sIx items.size 0 lo:Nat):Int)==0&&(1:Int)==1&&(sIx items.size items.size hi-sIx items.size 0 lo)==items.size)=true then _ else _) _ _ s
 rw[bC hno,pick_gen]
 first
  |exact aK (m:=Builtin.Tuple.tupleExact _) (was (bO ⟨_,rfl,bO h⟩) htake)
  |exact aK (m:=Builtin.Tuple.tupleExact _) (was (aK (bO (bO ⟨_,rfl,bO h⟩))) htake)
  |exact aK (aK (m:=Builtin.Tuple.tupleExact _) (was (bO (bO ⟨_,rfl,bO h⟩)) htake))
  |exact aK (aK (m:=Builtin.Tuple.tupleExact _) (was (bO ⟨_,rfl,bO h⟩) htake))
end
end HT
namespace L2
open PySem PySem.Spec PyProof.Rows
abbrev TO:=St->Hp->(Option Int->Hp->Prop)->Prop
def PO(X:Cx)(e:Option Expr)(t:TO):Prop:=
 ∀(pins:List (Addr×Obj)) (s:Shared) (σ:St) (H:Hp) (Q:Option Int->Hp->Prop),Inv X pins σ H s->t σ H Q->
  wpAny (model X.prog X.w) X.A (evalPart e X.env) (fun u s'=>∃o H',Inv X pins σ H' s'/\IsPart u o/\Q o H') X.xe s
def tNoPart:TO:=fun _ H Q=>Q none H
def tPart(t:TE):TO:=fun σ H Q=>t σ H fun x H1=>∃i,x= .int i/\Q (some i) H1
theorem intsAre_of{ns:List Int}:∀{us:List Value},Vals (ns.map V.int) us->IntsAre us ns:=by
 induction ns with
 |nil=>intro us r;rw[wfo]at r;cases r;exact .nil
 |cons n ns ih=>
  intro us r
  rw[Fy]at r
  cases r with
  |cons r1 r2=>
   obtain⟨t,e⟩:=r1
   subst e
   exact .cons n t (ih r2)
section
variable{X:Cx}{e:Expr}{te:TE}{lo hi:Option Expr}{tl th:TO}{pos p2:Pos}
theorem po_none:PO X none tNoPart:=by
 intro pins s σ H Q I h
 rw[evalPart_none]
 exact bO ⟨none,H,I,.none,h⟩
theorem po_some(h:PE X e te):PO X (some e) (tPart te):=by
 intro pins s σ H Q I hw
 rw[evalPart_some]
 refine thn (h pins s σ H _ I hw) fun u s1 ⟨x,H1,I1,r1,q1⟩=> ?_
 obtain⟨i,rfl,q⟩:=q1
 obtain⟨t,rfl⟩:=r1
 exact⟨some i,H1,I1,.int i t,q⟩
def SlR(X:Cx)(r:V->Option Int->Option Int->Hp->VK->Prop):Prop:=
 ∀(pins:List (Addr×Obj)) (s:Shared) (σ:St) (H:Hp) (x:V) (v vl vu:Value) (lo hi:Option Int) (sl:Addr) (Q:VK),Inv X pins σ H s->RelV x v->s.heap.IsSliceOf sl vl vu .none->IsPart vl lo->IsPart vu hi->r x lo hi H Q->
  ∃T id,typeLookup (.type T) "__getitem__"=pure (some (.builtin id))/\s.TypeIs v T/\wpAny (model X.prog X.w) X.A (getItem v (.ref sl)) (EP X pins σ Q) X.xe s
def tSl(r:V->Option Int->Option Int->Hp->VK->Prop)(te:TE)(tl th:TO):TE:=fun σ H Q=>te σ H fun x H1=>tl σ H1 fun l H2=>th σ H2 fun u H3=>r x l u H3 Q
theorem pe_slice{r:V->Option Int->Option Int->Hp->VK->Prop}(hr:SlR X r)(he:PE X e te)(hl:PO X lo tl)(hu:PO X hi th):PE X (.Subscript e (.Slice lo hi none p2) pos) (tSl r te tl th):=by
 intro pins s σ H Q I h
 refine Subscript_ (thn (he pins s σ H _ I h) fun v s1 ⟨x,H1,I1,r1,q1⟩=> ?_)
 refine wpAny_Slice (thn (hl pins s1 σ H1 _ I1 q1) fun vl s2 ⟨l,H2,I2,pl,q2⟩=>thn (hu pins s2 σ H2 _ I2 q2) fun vu s3 ⟨u,H3,I3,pu,q3⟩=> ?_)
 rw[evalPart_none]
 refine bO ?_
 have I4:Inv X pins σ H3 {s3 with heap:=s3.heap.push {cls:= .type "slice",data:= .fields #[vl,vu,.none]}}:=I3.kept (t':=s3.toks) fun b ob q=>fV _ q
 obtain⟨T,id,hT,ht,hg⟩:=hr pins {s3 with heap:=s3.heap.push {cls:= .type "slice",data:= .fields #[vl,vu,.none]}} σ H3 x v vl vu l u s3.heap.objs.size Q I4 r1 (Heap.IsSliceOf.new ..) pl pu q3
 show wpAny (model X.prog X.w) X.A (subscriptTail e (.Slice lo hi none p2) v (.ref s3.heap.objs.size)) (EP X pins σ Q) X.xe {s3 with heap:=s3.heap.push {cls:= .type "slice",data:= .fields #[vl,vu,.none]}}
 exact tail_any (ops:=[.ref s3.heap.objs.size,v]) ht hT hg (by with_unfolding_all rfl)
def cutV(xs:List V)(lo hi:Option Int):List V:=(xs.drop (HT.sIx xs.length 0 lo)).take (HT.sIx xs.length xs.length hi-HT.sIx xs.length 0 lo)
theorem cutV_length(xs:List V)(lo hi:Option Int):(cutV xs lo hi).length<=xs.length:=by
 unfold cutV
 rw[yV,Xl]
 omega
def rSlT(K:W.Frag):V->Option Int->Option Int->Hp->VK->Prop:=fun x lo hi H Q=>∃a xs,x= .ref a/\SqT K H a xs/\
 ¬(HT.sIx xs.length 0 lo=0/\HT.sIx xs.length xs.length hi=xs.length)/\∀p,H p=none->Q (.ref p) (upd H p (.tup (cutV xs lo hi)))
theorem sl_tup:SlR X (rSlT X.K):=by
 intro pins s σ H x v vl vu lo hi sl Q I rx hs pl pu h
 obtain⟨a,xs,rfl,hx,hw,q⟩:=h
 cases rx
 obtain⟨its,r,ht,hz⟩:=I.tuple hx
 have hlen:its.toArray.size=xs.length:=by rw[dW];exact r.length.symm
 refine⟨"tuple",_,PyProof.Rows.slot_tuple_getitem.lookup,ht.typeIs,?_⟩
 refine HT.getItem_tuple_cut ht hs pl pu (by rw[hlen];exact hw) ?_ (by rw[hlen];exact hz)
 rw[hlen]
 refine⟨.ref s.heap.objs.size,_,I.laid (t':=s.toks) (o:= .tup (cutV xs lo hi)) (fun b ob q=>fV _ q) (bx _) ?_,rfl,q _ (I.hok.fresh (bx _))⟩
 exact⟨gJ (cutV_length xs lo hi) hz,_,(r.drop (HT.sIx xs.length 0 lo)).take (HT.sIx xs.length xs.length hi-HT.sIx xs.length 0 lo),IsTup.new _ _⟩
def rLtT(K:W.Frag):R2:=fun x y H Q=>∃a b ns ms,x= .ref a/\y= .ref b/\SqT K H a (ns.map V.int)/\SqT K H b (ms.map V.int)/\Q (.bl (HT.lexLt ns ms)) H
theorem op_ltT(hu:X.A.units<cLine):OpR X (compareOp .Lt) (rLtT X.K):=by
 intro pins s σ H x y v u Q I rx ry h
 obtain⟨a,b,ns,ms,rfl,rfl,ha,hb,q⟩:=h
 cases rx
 cases ry
 obtain⟨its,r1,p1,_⟩:=I.tuple ha
 obtain⟨its2,r2,p2,_⟩:=I.tuple hb
 have i1:IntsAre its.toArray.toList ns:=intsAre_of r1
 have i2:IntsAre its2.toArray.toList ms:=intsAre_of r2
 exact HT.lt_tupInts p1 p2 i1 i2 hu ⟨.bl (HT.lexLt ns ms),H,I,rfl,q⟩
def rCatT(K:W.Frag):R2:=fun x y H Q=>∃a b xs ys,x= .ref a/\y= .ref b/\SqT K H a xs/\SqT K H b ys/\xs≠[]/\xs.length+ys.length<=sizeLine/\
 (ys=[]->Q (.ref a) H)/\(ys≠[]->∀p,H p=none->Q (.ref p) (upd H p (.tup (xs++ys))))
theorem Vals.nil_iff{xs:List V}{us:List Value}(r:Vals xs us):us=[]↔xs=[]:=by
 cases r with
 |nil=>simp
 |cons _ _=>simp
theorem op_catT:OpR X (binaryOp .Add) (rCatT X.K):=by
 intro pins s σ H x y v u Q I rx ry h
 obtain⟨a,b,xs,ys,rfl,rfl,ha,hb,hx,hz,q1,q2⟩:=h
 cases rx
 cases ry
 obtain⟨its,r1,p1,_⟩:=I.tuple ha
 obtain⟨its2,r2,p2,_⟩:=I.tuple hb
 refine HT.cat_tup p1 p2 (fun z=>hx (r1.nil_iff.mp z)) (fun z=>⟨.ref a,H,I,rfl,q1 (r2.nil_iff.mp z)⟩) (fun z=> ?_) (by rw[<-r1.length,<-r2.length];exact hz)
 refine⟨.ref s.heap.objs.size,_,I.laid (t':=s.toks) (o:= .tup (xs++ys)) (fun b ob q=>fV _ q) (bx _) ?_,rfl,q2 (fun w=>z (r2.nil_iff.mpr w)) _ (I.hok.fresh (bx _))⟩
 exact⟨by rw[iz];exact hz,_,r1.append r2,IsTup.new _ _⟩
end
def ixN(n:Nat)(i:Int):Option Nat:=if 0<=i then(if i<n then some i.toNat else none)else if -(n:Int)<=i then some (i+n).toNat else none
def atI{α:Type}(xs:List α)(i:Int):Option α:=(ixN xs.length i).bind fun j=>xs[j]?
theorem ixN_seq{n:Nat}{i:Int}{j:Nat}(h:ixN n i=some j):seqIndex? i n=some j/\j<n/\ -(n:Int)<=i/\i<n:=by
 unfold ixN at h
 by_cases h0:0<=i
 ·rw[bD h0]at h
  by_cases h1:i<n
  ·rw[bD h1]at h
   have e:i.toNat=j:=Nb h
   exact⟨by rw[seqIndex_of h0 h1,e],by omega,by omega,h1⟩
  ·rw[bC h1]at h;cases h
 ·rw[bC h0]at h
  by_cases h1: -(n:Int)<=i
  ·rw[bD h1]at h
   have e:(i+n).toNat=j:=Nb h
   exact⟨by rw[seqIndex_neg (by omega) h1,e],by omega,h1,by omega⟩
  ·rw[bC h1]at h;cases h
theorem atI_get{α:Type}{xs:List α}{i:Int}{v:α}(h:atI xs i=some v):∃j,seqIndex? i xs.length=some j/\xs[j]? =some v/\j<xs.length/\ -(xs.length:Int)<=i/\i<xs.length:=by
 unfold atI at h
 cases e:ixN xs.length i with
 |none=>rw[e]at h;cases h
 |some j=>
  rw[e]at h
  obtain⟨h1,h2,h3,h4⟩:=ixN_seq e
  exact⟨j,h1,h,h2,h3,h4⟩
theorem atI_nat{α:Type}{xs:List α}{j:Nat}{v:α}(h:xs[j]? =some v):atI xs (j:Int)=some v:=by
 have hj:j<xs.length:=(Aq.mp h).1
 have e:ixN xs.length (j:Int)=some j:=by
  unfold ixN
  rw[bD (by omega),bD (by omega)];simp
 unfold atI;rw[e];exact h
theorem atI_last{α:Type}(xs:List α)(v:α):atI (xs++[v]) (-1)=some v:=by
 have hl:(xs++[v]).length=xs.length+1:=by simp
 have e:ixN (xs++[v]).length (-1)=some xs.length:=by
  unfold ixN
  rw[hl,bC (by decide),bD (by omega)]
  congr 1
  omega
 unfold atI
 rw[e]
 show(xs++[v])[xs.length]? =some v
 simp
def PlainIx(b:Expr):Prop:=∀o i,subscripted b false o i=operate [o,i] (getItem o i)
def IxR(X:Cx)(r:R2):Prop:=
 ∀(value slice:Expr) (pins:List (Addr×Obj)) (s:Shared) (σ:St) (H:Hp) (x y:V) (v u:Value) (Q:VK),Inv X pins σ H s->RelV x v->RelV y u->r x y H Q->
  subscripted slice false v u=operate [v,u] (getItem v u)->wpAny (model X.prog X.w) X.A (subscriptTail value slice v u) (EP X pins σ Q) X.xe s
def MtR(X:Cx)(id:String)(r:V->List V->Hp->VK->Prop):Prop:=
 ∀(pins:List (Addr×Obj)) (s:Shared) (σ:St) (H:Hp) (x:V) (xs:List V) (v:Value) (us:List Value) (Q:VK),Inv X pins σ H s->RelV x v->Vals xs us->r x xs H Q->
  wpAny (model X.prog X.w) X.A (call (.builtin id) (v::us)) (EP X pins σ Q) X.xe s
section
variable{X:Cx}{a b:Expr}{ta tb:TE}{pos:Pos}
theorem cR{r:R2}(hr:IxR X r)(ha:PE X a ta)(hb:PE X b tb)(hs:PlainIx b):PE X (.Subscript a b pos) (tOp r ta tb):=by
 intro pins s σ H Q I h
 exact Subscript_ (binT ha hb I h fun v u s2 x y H2 I2 rx ry q=>hr a b pins s2 σ H2 x y v u Q I2 rx ry q (hs _ _))
def rIxL(K:W.Frag):R2:=fun x y H Q=>∃p xs i v,x= .ref p/\y= .int i/\SqL K H p xs/\atI xs i=some v/\Q v H
def rIxT(K:W.Frag):R2:=fun x y H Q=>∃p xs i v,x= .ref p/\y= .int i/\SqT K H p xs/\atI xs i=some v/\Q v H
theorem ix_list:IxR X (rIxL X.K):=by
 intro value slice pins s σ H x y v u Q I rx ry h hs
 obtain⟨p,xs,i,z,rfl,rfl,hq,he,q⟩:=h
 cases rx
 obtain⟨t,rfl⟩:=ry
 obtain⟨its,r,pl,hz⟩:=I.list hq
 obtain⟨j,h1,h2,h3,h4,h5⟩:=atI_get he
 obtain⟨w,ew,rw'⟩:=r.get h2
 have hl:=r.length
 have hn:=line63
 have fin:EP X pins σ Q w s:=⟨z,H,I,rw',q⟩
 by_cases h0:0<=i
 ·have hj:i.toNat=j:=by
   rw[seqIndex_of h0 h5]at h1
   exact Nb h1
  exact item_listR pl.isList h0 (by omega) (by rw[hj];simpa using ew) fin hs
 ·have hj:(i+(its.toArray.size:Int)).toNat=j:=by
   rw[seqIndex_neg (by omega) h4]at h1
   rw[dW,<-hl]
   exact Nb h1
  exact subscriptTail_builtinR (x:=w) pl.isList.typeIs slot_list_getitem.lookup
   (wpAny_getItem_list_neg (Q:=fun r s'=>r=w/\EP X pins σ Q r s') pl.isList (by omega) (by rw[dW]<;>omega) (by omega) (by rw[hj];simpa using ew) ⟨rfl,fin⟩) hs
theorem eZ:IxR X (rIxT X.K):=by
 intro value slice pins s σ H x y v u Q I rx ry h hs
 obtain⟨p,xs,i,z,rfl,rfl,hq,he,q⟩:=h
 cases rx
 obtain⟨t,rfl⟩:=ry
 obtain⟨its,r,pl,hz⟩:=I.tuple hq
 obtain⟨j,h1,h2,h3,h4,h5⟩:=atI_get he
 obtain⟨w,ew,rw'⟩:=r.get h2
 have hl:=r.length
 have hn:=line63
 have fin:EP X pins σ Q w s:=⟨z,H,I,rw',q⟩
 exact subscriptTail_builtinR (x:=w) pl.typeIs slot_tuple_getitem.lookup
  (getItem_tuple (j:=j) (Q:=fun r s'=>r=w/\EP X pins σ Q r s') pl (by omega) (by omega) (by rw[dW,<-hl];exact h1) (by simpa using ew) ⟨rfl,fin⟩) hs
theorem slice_bounds(lo hi:Option Int)(n:Nat):(sliceBounds lo hi none n).1=((HT.sIx n 0 lo:Nat):Int)/\(sliceBounds lo hi none n).2.1=((HT.sIx n n hi:Nat):Int)/\(sliceBounds lo hi none n).2.2=1:=by
 refine⟨?_,?_,rfl⟩
 ·cases lo with
  |none=>simp[sliceBounds,HT.sIx]
  |some i=>
   simp only[sliceBounds,HT.sIx,Option.getD_none,show(1:Int)>0 by decide,Vo]
   by_cases h:i<0
   ·simp only[h,Vo]<;>omega
   ·simp only[h,Vp]<;>omega
 ·cases hi with
  |none=>simp[sliceBounds,HT.sIx]
  |some i=>
   simp only[sliceBounds,HT.sIx,Option.getD_none,show(1:Int)>0 by decide,Vo]
   by_cases h:i<0
   ·simp only[h,Vo]<;>omega
   ·simp only[h,Vp]<;>omega
theorem slicePick_cut(its:List Value)(lo hi:Option Int):slicePick its.toArray lo hi none=((its.drop (HT.sIx its.length 0 lo)).take (HT.sIx its.length its.length hi-HT.sIx its.length 0 lo)).toArray:=by
 obtain⟨h1,h2,h3⟩:=slice_bounds lo hi its.toArray.size
 unfold slicePick
 rw[h1,h2,h3]
 simp only[sliceRange_one,pick_run,dW]<;>rfl
def rSlL(K:W.Frag):V->Option Int->Option Int->Hp->VK->Prop:=fun x lo hi H Q=>∃a xs,x= .ref a/\SqL K H a xs/\∀p,H p=none->Q (.ref p) (upd H p (.lst (cutV xs lo hi)))
theorem sl_list:SlR X (rSlL X.K):=by
 intro pins s σ H x v vl vu lo hi sl Q I rx hs pl pu h
 obtain⟨a,xs,rfl,hx,q⟩:=h
 cases rx
 obtain⟨its,r,ht,hz⟩:=I.list hx
 have hlen:=r.length
 refine⟨"list",_,slot_list_getitem.lookup,ht.isList.typeIs,?_⟩
 refine wpAny_getItem_list_slice ht.isList hs pl pu .none (by simp) ?_ (by rw[dW]<;>omega)
 rw[slicePick_cut,<-hlen]
 refine⟨.ref s.heap.objs.size,_,I.laid (t':=s.toks) (o:= .lst (cutV xs lo hi)) (fun b ob q=>fV _ q) (bx _) ?_,rfl,q _ (I.hok.fresh (bx _))⟩
 exact⟨gJ (cutV_length xs lo hi) hz,_,0,(r.drop (HT.sIx xs.length 0 lo)).take (HT.sIx xs.length xs.length hi-HT.sIx xs.length 0 lo),qp _ rfl⟩
theorem call_len_seq:CallR X (.builtin "len") (fun xs H Q=>∃p ys,xs=[.ref p]/\(SqL X.K H p ys\/SqT X.K H p ys)/\Q (.int ys.length) H):=by
 intro pins s σ H xs us Q I r h
 obtain⟨p,ys,rfl,hq,q⟩:=h
 obtain⟨u,rfl,rx⟩:=vals1 r
 cases rx
 have hn:=line63
 rcases hq with hq|hq
 ·obtain⟨its,r',pl,hz⟩:=I.list hq
  have hlen:=r'.length
  exact Calls.call_len_list pl.isList (by simp only[dW]<;>omega) ⟨.int ys.length,H,I.tok _,⟨s.toks+1,by rw[dW,hlen]⟩,q⟩
 ·obtain⟨its,r',pl,hz⟩:=I.tuple hq
  have hlen:=r'.length
  exact len_tuple pl (by simp only[dW]<;>omega) ⟨.int ys.length,H,I.tok _,⟨s.toks+1,by rw[dW,hlen]⟩,q⟩
theorem call_list_of:CallR X (.type "list") (fun xs H Q=>∃p ys,xs=[.ref p]/\(SqL X.K H p ys\/SqT X.K H p ys)/\∀l,H l=none->Q (.ref l) (upd H l (.lst ys))):=by
 intro pins s σ H xs us Q I r h
 obtain⟨p,ys,rfl,hq,q⟩:=h
 obtain⟨u,rfl,rx⟩:=vals1 r
 cases rx
 have fin:∀(its:List Value),Vals ys its->ys.length<=sizeLine->∀(h':Heap) (c':Nat),(∀b o',s.heap.get? b=some o'->h'.get? b=some o')->
   h'.get? s.heap.objs.size=some {cls:= .type "list",dict:=none,data:= .seq its.toArray c',slots:=#[]}->EP X pins σ Q (.ref s.heap.objs.size) {s with heap:=h'}:=fun its r' hz h' c' kp e=>
  ⟨.ref s.heap.objs.size,_,I.laid (t':=s.toks) kp (bx _) (show ObjOk X.prog X.w _ h' _ (.lst ys)from⟨hz,its,c',r',e⟩),rfl,q _ (I.hok.fresh (bx _))⟩
 rcases hq with hq|hq
 ·obtain⟨its,r',pl,hz⟩:=I.list hq
  have hlen:=r'.length
  obtain⟨o,ho,hc,n,hd⟩:=pl.isList
  exact call_list_seq p (.inl rfl) ho hc hd (fun h' c' kp e=>fin its r' hz h' c' kp e) (by simp only[dW]<;>omega)
 ·obtain⟨its,r',pl,hz⟩:=I.tuple hq
  have hlen:=r'.length
  obtain⟨o,ho,hc,n,hd⟩:=pl
  exact call_list_seq p (.inr rfl) ho hc hd (fun h' c' kp e=>fin its r' hz h' c' kp e) (by simp only[dW]<;>omega)
theorem JN:CallR X (.type "tuple") (fun xs H Q=>∃p ys,xs=[.ref p]/\((SqL X.K H p ys/\∀l,H l=none->Q (.ref l) (upd H l (.tup ys)))\/(SqT X.K H p ys/\Q (.ref p) H))):=by
 intro pins s σ H xs us Q I r h
 obtain⟨p,ys,rfl,h⟩:=h
 obtain⟨u,rfl,rx⟩:=vals1 r
 cases rx
 rcases h with⟨hq,q⟩|⟨hq,q⟩
 ·obtain⟨its,r',pl,hz⟩:=I.list hq
  have hlen:=r'.length
  refine call_tuple_list pl.isList (fun h' kp=> ?_) (by simp only[dW]<;>omega)
  have I1:Inv X pins σ H {s with heap:=h'}:=I.kept (t':=s.toks) kp
  have I2:Inv X pins σ (upd H h'.objs.size (.tup ys)) {s with heap:=h'.push {cls:= .type "tuple",data:= .seq its.toArray}}:=
   I1.laid (t':=s.toks) (fun b o e=>fV _ e) (bx _) (show ObjOk X.prog X.w _ _ _ (.tup ys)from⟨hz,its,r',IsTup.new _ _⟩)
  exact⟨.ref h'.objs.size,_,I2,rfl,q _ (I1.hok.fresh (bx _))⟩
 ·obtain⟨its,r',pl,hz⟩:=I.tuple hq
  exact call_tuple_same pl ⟨.ref p,H,I,rfl,q⟩
def tyV(K:W.Frag)(T:String)(x:V)(H:Hp):Prop:=match x with
 | .str _=>T="str"
 | .int _=>T="int"
 | .ref p=>(T="list"/\∃xs,SqL K H p xs)\/(T="tuple"/\∃o,K.lookup p=some o/\o.cls= .type "tuple"/\o.dict=none)\/
   (T="dict"/\((∃kvs,H p=some (.dK kvs))\/∃kvs,H p=some (.dT kvs)))\/(T="set"/\∃S n,H p=some (.set S n))
 |_=>False
theorem tyV_is{pins:List (Addr×Obj)}{σ:St}{H:Hp}{s:Shared}{T:String}{x:V}{v:Value}(I:Inv X pins σ H s)(r:RelV x v)(ty:tyV X.K T x H):
  s.TypeIs v T/\∀a,v= .ref a->∃ob,s.heap.get? a=some ob/\ob.dict=none:=by
 cases x with
 |str z=>
  obtain⟨t,rfl⟩:=r
  cases(show T="str" from ty)
  exact⟨typeIs_str s z t,fun _ e=>nomatch e⟩
 |int i=>
  obtain⟨t,rfl⟩:=r
  cases(show T="int" from ty)
  exact⟨typeIs_int s i t,fun _ e=>nomatch e⟩
 |ref p=>
  cases r
  rcases ty with⟨rfl,xs,hq⟩|⟨rfl,o,hk,hc,hd⟩|⟨rfl,hk⟩|⟨rfl,S,n,hk⟩
  ·obtain⟨its,_,pl,_⟩:=I.list hq
   refine⟨pl.isList.typeIs,fun a e=> ?_⟩
   cases e
   obtain⟨o,n,e,c,hd,_⟩:=pl
   exact⟨o,e,hd⟩
  ·refine⟨⟨o,I.kIn p o hk,hc⟩,fun a e=> ?_⟩
   cases e
   exact⟨o,I.kIn _ o hk,hd⟩
  ·have z:∃o,s.heap.get? p=some o/\o.ExactDict:=by
    rcases hk with⟨kvs,hk⟩|⟨kvs,hk⟩
    ·obtain⟨_,_,_,_,o,_,_,e,ex,_⟩:=I.hok p _ hk
     exact⟨o,e,ex⟩
    ·obtain⟨_,_,_,_,o,_,_,e,ex,_⟩:=I.hok p _ hk
     exact⟨o,e,ex⟩
   obtain⟨o,e,ex⟩:=z
   refine⟨⟨o,e,ex.1⟩,fun a e2=> ?_⟩
   cases e2
   exact⟨o,e,ex.2.1⟩
  ·obtain⟨o,_,_,_,e,ex,_⟩:=I.hok p _ hk
   refine⟨⟨o,e,ex.1⟩,fun a e2=> ?_⟩
   cases e2
   exact⟨o,e,ex.2.1⟩
 |_=>exact False.elim ty
def tBM0(K:W.Frag)(T:String)(r:V->List V->Hp->VK->Prop)(to:TE):TE:=fun σ H Q=>to σ H fun x H1=>tyV K T x H1/\r x [] H1 Q
def tBM(K:W.Frag)(T:String)(r:V->List V->Hp->VK->Prop)(to:TE)(t:TA):TE:=fun σ H Q=>to σ H fun x H1=>tyV K T x H1/\t σ H1 fun xs H2=>r x xs H2 Q
variable{o e:Expr}{es:List Expr}{to:TE}{t:TA}{name:Str}{apos cpos:Pos}{T id:String}{r:V->List V->Hp->VK->Prop}
theorem pe_bm0(pa:PlainAttrs T)(slot:Slot T name id)(hty:typeOf (.builtin id)=pure (.type "method_descriptor"))(hm:MtR X id r)(ho:PE X o to)(hbase:attributeBase o name X.env (eval o X.env)=eval o X.env:=by rfl)(hline:(apos.endLine==cpos.line)=true:=by rfl):PE X (.Call (.Attribute o name apos) [] [] cpos) (tBM0 X.K T r to):=by
 intro pins s σ H Q I h
 refine wpAny_Call_method0_late hbase hline (thn (ho pins s σ H _ I h) fun v s1 ⟨x,H1,I1,r1,ty,q1⟩=> ?_)
 obtain⟨h1,h2⟩:=tyV_is I1 r1 ty
 exact⟨T,id,pa,slot,hty,h1,h2,Calls.callWith_builtin rfl (PySem.evalArgs_none (hm pins s1 σ H1 x [] v [] Q I1 r1 .nil q1))⟩
theorem pe_bm(pa:PlainAttrs T)(slot:Slot T name id)(hty:typeOf (.builtin id)=pure (.type "method_descriptor"))(hm:MtR X id r)(ho:PE X o to)(ha:PA X (e::es) t)(hbase:attributeBase o name X.env (eval o X.env)=eval o X.env:=by rfl)(hfew:((backTo cpos (starEach (e::es) X.env)).all (fun x=> !x.1)&&(backToKw cpos (keywordEach [] X.env)).all (fun x=>x.1.isSome)
   &&decide ((e::es).length+([]:List Keyword).length+(if([]:List Keyword).isEmpty then 0 else 1)<30))=true:=by rfl)(hline:(apos.endLine==cpos.line)=true:=by rfl)(hs:starEach (e::es) X.env=(false,eval e X.env)::starEach es X.env:=by rfl)(hplain:(backTo cpos (starEach es X.env)).any (·.1)=false:=by rfl):
  PE X (.Call (.Attribute o name apos) (e::es) [] cpos) (tBM X.K T r to t):=by
 intro pins s σ H Q I h
 refine wpAny_Call_method_late hbase hfew hline rfl (thn (ho pins s σ H _ I h) fun v s1 ⟨x,H1,I1,r1,ty,q1⟩=> ?_)
 obtain⟨h1,h2⟩:=tyV_is I1 r1 ty
 refine⟨T,id,pa,slot,hty,h1,h2,?_⟩
 have hA:=ha cpos pins s1 σ H1 _ I1 q1
 rw[hs]at hA⊢
 refine Calls.callWith_builtin (by show(false||(backTo cpos (starEach es X.env)).any (·.1))=false;rw[hplain]<;>rfl) (Calls.evalArgs_plain ?_)
 exact thn hA fun us s2 ⟨vs,H2,I2,r2,q2⟩=>hm pins s2 σ H2 x vs v us Q I2 r1 r2 q2
end
def MtM(X:Cx)(id:String)(r:V->List V->Hp->VK->Prop):Prop:=
 ∀(pins:List (Addr×Obj)) (s:Shared) (σ:St) (H:Hp) (x:V) (xs:List V) (v:Value) (us:List Value) (Q:VK),Inv X pins σ H s->RelV x v->Vals xs us->r x xs H Q->
  wpAny (model X.prog X.w) X.A (call (.builtin id) (v::us)) (EP X pins σ Q) X.xe s
theorem Vals.one{x:V}{us:List Value}(h:Vals [x] us):∃u,us=[u]/\RelV x u:=by
 cases h with
 |cons r h=>cases h;exact⟨_,rfl,r⟩
theorem Vals.two{x y:V}{us:List Value}(h:Vals [x,y] us):∃u v,us=[u,v]/\RelV x u/\RelV y v:=by
 cases h with
 |cons r h=>obtain⟨v,rfl,q⟩:=Vals.one h;exact⟨_,_,rfl,r,q⟩
theorem Vals.zero:∀{us:List Value},Vals [] us->us=[]
 |_,.nil=>rfl
theorem Vals.dropLast{xs:List V}{us:List Value}(h:Vals xs us):Vals xs.dropLast us.dropLast:=by
 induction h with
 |nil=>exact .nil
 |cons r t ih=>
  cases t with
  |nil=>exact .nil
  |cons q t'=>exact .cons r ih
theorem Vals.reverse{xs:List V}{us:List Value}(h:Vals xs us):Vals xs.reverse us.reverse:=by
 induction h with
 |nil=>exact .nil
 |cons r t ih=>rw[wef,wef];exact Vals.append ih (.cons r .nil)
theorem Vals.rep{xs:List V}{us:List Value}(h:Vals xs us):∀k:Nat,Vals (List.replicate k xs).flatten (List.replicate k us).flatten
 |0=> .nil
 |k+1=>by
  rw[Xo,Xo,wcq,wcq]
  exact Vals.append h (Vals.rep h k)
theorem erase_last{α:Type}(l:List α):l.eraseIdx (l.length-1)=l.dropLast:=by
 induction l with
 |nil=>rfl
 |cons a r ih=>
  cases r with
  |nil=>rfl
  |cons b r=>
   have e:(a::b::r).length-1=((b::r).length-1)+1:=by
    have h1:(a::b::r).length=r.length+2:=rfl
    have h2:(b::r).length=r.length+1:=rfl
    omega
   rw[e,List.eraseIdx_cons_succ,ih]
   all_goals rfl
theorem foldl_rep(its:List Value):∀(k:Nat) (acc:List Value),
  List.foldl (fun x1 x2=>x1++x2) acc.toArray (List.replicate k its.toArray)=(acc++(List.replicate k its).flatten).toArray
 |0,acc=>by simp
 |k+1,acc=>by
  have e:acc.toArray++its.toArray=(acc++its).toArray:=by simp
  have e2:(acc++its)++(List.replicate k its).flatten=acc++(List.replicate (k+1) its).flatten:=by
   rw[Xo,wcq,Xm]
  rw[<-e2,<-foldl_rep its k (acc++its),<-e,Xo,List.foldl_cons]
section
variable{X:Cx}{pins:List (Addr×Obj)}{σ:St}{H:Hp}{s:Shared}{l b:Addr}{xs ys zs:List V}
theorem Inv.lset{its its':List Value}{n:Nat}{f:Array Value->Array Value}{t':Nat}(I:Inv X pins σ H s)(hH:H l=some (.lst xs))(e:s.heap.get? l=some {cls:= .type "list",data:= .seq its.toArray n})(hf:f its.toArray=its'.toArray)(hv:Vals ys its')(hz:ys.length<=sizeLine):
  Inv X pins σ (upd H l (.lst ys)) {s with heap:=s.heap.update l (Obj.mapSeq f),toks:=t'}:=by
 have q:=PySem.IsL.update e f
 rw[hf]at q
 refine I.write (x:=l) (e:=l) (by rw[hH];exact trivial) (.inl rfl) (fun b' u hb hu=>(Rw s.heap (Obj.mapSeq f) (zF hb)).trans hu) ⟨_,q⟩ ?_
 exact⟨hz,its',_,hv,q⟩
theorem Inv.lnew{its:List Value}{t':Nat}(I:Inv X pins σ H s)(hv:Vals ys its)(hz:ys.length<=sizeLine):
  Inv X pins σ (upd H s.heap.objs.size (.lst ys)) {s with heap:=s.heap.push {cls:= .type "list",data:= .seq its.toArray},toks:=t'}:=
 I.laid (fun _ _ q=>fV _ q) (bx _) ⟨hz,its,0,hv,qp _ rfl⟩
theorem Inv.fresh(I:Inv X pins σ H s):H s.heap.objs.size=none:=I.hok.fresh (bx _)
theorem Inv.lstM(I:Inv X pins σ H s)(hH:H l=some (.lst xs)):xs.length<=sizeLine/\∃(its:List Value) (n:Nat),Vals xs its/\xs.length=its.length/\s.heap.get? l=some {cls:= .type "list",data:= .seq its.toArray n}:=by
 obtain⟨z,its,n,r,e⟩:=I.hok l _ hH
 exact⟨z,its,n,r,r.length,e⟩
theorem notLongL{n:Nat}(h:n<=sizeLine):Builtin.List.listTooLong n=false:=by
 unfold Builtin.List.listTooLong
 exact gB (by omega)
end
section
variable{X:Cx}
def rAppend:V->List V->Hp->VK->Prop:=fun x vs H Q=>∃l xs y,x= .ref l/\vs=[y]/\H l=some (.lst xs)/\xs.length<sizeLine/\Q .non (upd H l (.lst (xs++[y])))
theorem mt_append:MtM X "list.append" rAppend:=by
 intro pins s σ H x vs v us Q I rx rv h
 obtain⟨l,xs,y,rfl,rfl,hH,hz,q⟩:=h
 cases rx
 obtain⟨u,rfl,ru⟩:=rv.one
 obtain⟨z,its,n,r,hl,e⟩:=I.lstM hH
 refine Wz F.slot_list_append ⟨_,e,rfl⟩ F.entry_list_append (F.args_list_append_2 _ _) (PySem.list_append l its.toArray n u (by rw[dW];omega)) ⟨e,?_⟩
 refine⟨.non,_,I.lset (its':=its++[u]) hH e (by simp) (r.append (.cons ru .nil)) ?_,rfl,q⟩
 rw[iz,wcv]
 omega
def rExtend:V->List V->Hp->VK->Prop:=fun x vs H Q=>∃l b xs zs,x= .ref l/\vs=[.ref b]/\H l=some (.lst xs)/\H b=some (.lst zs)/\xs.length+zs.length<=sizeLine/\Q .non (upd H l (.lst (xs++zs)))
theorem mt_extend:MtM X "list.extend" rExtend:=by
 intro pins s σ H x vs v us Q I rx rv h
 obtain⟨l,b,xs,zs,rfl,rfl,hH,hB,hz,q⟩:=h
 cases rx
 obtain⟨u,rfl,ru⟩:=rv.one
 cases ru
 obtain⟨z,its,n,r,hl,e⟩:=I.lstM hH
 obtain⟨z2,its2,n2,r2,hl2,e2⟩:=I.lstM hB
 have hsz:its.toArray.size+its2.toArray.size<=sizeLine:=by rw[dW,dW];omega
 have hlong:¬(!its.toArray.isEmpty&&Builtin.List.listTooLong (its.toArray.size+its2.toArray.size))=true:=by
  rw[notLongL hsz,Bool.and_false]
  exact uy
 refine Wz F.slot_list_extend ⟨_,e,rfl⟩ F.entry_list_extend (F.args_list_extend_2 _ _)
  (AutoSeq1.list_extend_list_list_0 l its.toArray n b its2.toArray n2 hlong (by rw[dW];omega) (by omega)) ⟨e,e2,?_⟩
 refine⟨.non,_,I.lset (its':=its++its2) hH e (by simp) (r.append r2) ?_,rfl,q⟩
 rw[iz]
 omega
def rPop:V->List V->Hp->VK->Prop:=fun x vs H Q=>∃l xs y,x= .ref l/\vs=[]/\H l=some (.lst xs)/\xs[xs.length-1]? =some y/\Q y (upd H l (.lst xs.dropLast))
theorem mt_pop:MtM X "list.pop" rPop:=by
 intro pins s σ H x vs v us Q I rx rv h
 obtain⟨l,xs,y,rfl,rfl,hH,hy,q⟩:=h
 cases rx
 have hus:=rv.zero
 subst hus
 obtain⟨z,its,n,r,hl,e⟩:=I.lstM hH
 obtain⟨u,hu,ru⟩:=r.get hy
 have hy':its.toArray[its.toArray.size-1]? =some u:=by
  show its.toArray[its.length-1]? =some u
  rw[<-wey,<-hl]
  exact hu
 refine Wz F.slot_list_pop ⟨_,e,rfl⟩ F.entry_list_pop (F.args_list_pop_1 _) (MeetsSeq.list_pop_last l its.toArray n u hy' (by rw[dW];omega)) ⟨e,?_⟩
 refine⟨y,_,I.lset (its':=its.dropLast) hH e ?_ r.dropLast ?_,ru,q⟩
 ·show its.toArray.eraseIdxIfInBounds (its.toArray.size-1)=its.dropLast.toArray
  rw[dW,List.eraseIdxIfInBounds_toArray,erase_last]
 ·rw[List.length_dropLast]
  omega
def rCat:R2:=fun x y H Q=>∃l b xs zs,x= .ref l/\y= .ref b/\H l=some (.lst xs)/\H b=some (.lst zs)/\xs.length+zs.length<=sizeLine/\∀p,H p=none->Q (.ref p) (upd H p (.lst (xs++zs)))
theorem op_cat:OpR X (binaryOp .Add) rCat:=by
 intro pins s σ H x y v u Q I rx ry h
 obtain⟨l,b,xs,zs,rfl,rfl,hH,hB,hz,q⟩:=h
 cases rx
 cases ry
 obtain⟨z,its,n,r,hl,e⟩:=I.lstM hH
 obtain⟨z2,its2,n2,r2,hl2,e2⟩:=I.lstM hB
 refine PySem.P.add_list e e2 ?_ (by rw[dW,dW];omega)
 have ea:its.toArray++its2.toArray=(its++its2).toArray:=by simp
 rw[ea]
 exact⟨.ref _,_,I.lnew (t':=s.toks) (r.append r2) (by rw[iz];omega),rfl,q _ I.fresh⟩
def rRep:R2:=fun x y H Q=>∃l k xs,x= .ref l/\y= .int k/\H l=some (.lst xs)/\ -(2^63)<=k/\k<2^63/\xs.length*k.toNat<=sizeLine/\
 ∀p,H p=none->Q (.ref p) (upd H p (.lst (List.replicate k.toNat xs).flatten))
theorem len_rep{α:Type}(xs:List α)(k:Nat):(List.replicate k xs).flatten.length=k*xs.length:=by
 induction k with
 |zero=>simp
 |succ k ih=>rw[Xo,wcq,iz,ih,XF,Nat.add_comm]
theorem op_rep:OpR X (binaryOp .Mult) rRep:=by
 intro pins s σ H x y v u Q I rx ry h
 obtain⟨l,k,xs,rfl,rfl,hH,h1,h2,hz,q⟩:=h
 cases rx
 obtain⟨t,rfl⟩:=ry
 obtain⟨z,its,n,r,hl,e⟩:=I.lstM hH
 have hlen:its.toArray.size*k.toNat<=sizeLine:=by rw[dW,<-hl];exact hz
 have hcap:¬its.toArray.size*k.toNat>(2^63-1)/8:=by
  have:(sizeLine:Nat)<=(2^63-1)/8:=by decide
  omega
 have hfit:¬(!Builtin.List.listFitsIndex k)=true:=by
  rw[fitsIndex_both h1 h2]
  exact uy
 have hlong:¬Builtin.List.listTooLong (its.toArray.size*k.toNat)=true:=by
  rw[notLongL hlen]
  exact uy
 have hnew:List.foldl (fun x1 x2=>x1++x2) #[] (List.replicate (if its.toArray.isEmpty=true then 0 else k.toNat) its.toArray)=(List.replicate k.toNat its).flatten.toArray:=by
  have f0:∀m:Nat,List.foldl (fun x1 x2=>x1++x2) #[] (List.replicate m its.toArray)=(List.replicate m its).flatten.toArray:=fun m=>by
   have:=foldl_rep its m []
   rw[List.nil_append]at this
   exact this
  rw[f0]
  cases its with
  |nil=>simp
  |cons a r'=>rw[bC (by simp)]
 refine wpAny_binaryOp_repeat_ref (T:="list") (U:="int") (by decide) ⟨_,e,rfl⟩ (fun s'=>typeIs_int s' k t) noFill_list_mul F.fills_int_mul F.slot_int_rmul repeat_list F.slot_int_index.lookup
  (Wz F.slot_int_rmul (typeIs_int s k t) F.entry_int_rmul (F.args_int_rmul_2 _ _) (int___rmul___int_list k t l its.toArray n)
   ⟨e,rfl,⟨_,e,rfl⟩,Wz F.slot_list_mul ⟨_,e,rfl⟩ F.entry_list_mul (F.args_list_mul_2 _ _) (AutoListH.list___mul___list_int_3 l its.toArray n k t hfit hcap hlong) ⟨e,?_⟩⟩)
 rw[hnew]
 exact⟨.ref _,_,I.lnew (t':=s.toks) (r.rep k.toNat) (by rw[len_rep,Nat.mul_comm];exact hz),rfl,q _ I.fresh⟩
end
section
variable{prog:Program}{w:World}{A:Around}{E:Value->Shared->Prop}{s:Shared}
end
section
variable{X:Cx}
end
end L2
namespace Att
open PySem PySem.W PySem.Calls PyProof.Rows
theorem ints_of_wellAll{P:Params}{h:Heap}:∀(ns:List Int) (vs:List Value),WellAll P h vs (ns.map WData.int)->IntsAre vs ns:=by
 intro ns
 induction ns with
 |nil=>
  intro vs w
  rw[wfo]at w
  cases w
  exact .nil
 |cons n ns ih=>
  intro vs w
  rw[Fy]at w
  cases w with
  |cons a b=>
   cases a
   exact .cons _ _ (ih _ b)
theorem script_of{l:OpenLaw}{n:Nat}(hn:l.most=some n){P:Params}{h:Heap}{args:List WData}{vals:List Value}(hpre:l.row.toRowW.claim.pre args=true)(hwl:WellAll P h vals args):
  ∃a vs ns,vals=[Value.ref a]/\args=[WData.list (ns.map WData.int)]/\h.get? a=some {cls:= .type "list",data:= .seq vs.toArray}/\IntsAre vs ns/\ns.length<=n:=by
 have hsh:WShape.hasAll [] args [.list .int]=true:=(pre_splitW hpre).1
 have hc:l.pre.holds [] {args:=args}=true:=(pre_splitW hpre).2
 obtain⟨d,r,rfl,h1,h2⟩:=hasAllW_cons hsh
 obtain rfl:=hasAllW_nil h2
 obtain⟨xs,rfl,h3⟩:=hasW_list h1
 obtain⟨ns,rfl⟩:=items_int h3
 have hlen:ns.length<=n:=by
  unfold OpenLaw.pre at hc
  have h4:(WTm.not (.lt (.lit (.int (n:Int))) (.len (.arg 0)))).holds [] {args:=[.list (ns.map .int)]}=true:=by
   have h4:=(holds_andW hc).1
   rw[hn]at h4
   exact h4
  have h5:=condW_of h4 (w_not (w_lt w_lit (w_len_list (w_arg rfl))))
  rw[aQ]at h5
  refine Nat.le_of_not_lt fun q=> ?_
  have q':(n:Int)<((ns.length:Nat):Int):=by omega
  first
   |(rw[cJ q']at h5;exact absurd h5 (by decide))
   |(simp at h5;omega)
 cases hwl with
 |cons w1 w2=>
  cases w2
  cases w1 with
  |list ho hall=>exact⟨_,_,ns,rfl,rfl,ho,ints_of_wellAll ns _ hall,hlen⟩
theorem post_true(l:OpenLaw)(args:List WData):l.row.toRowW.claim.post args (.bool true) args=true:=
 postW_of (r:=l.row.toRowW) (X:=(true==true))
  (show WShape.has [] (.bool true) .bool=true by first |rfl|decide|simp[WShape.has,WShape.arms,WShape.armsAll])
  (show(WTm.eq .res (.lit (.bool true))).value [] {args:=args,res:=some (.bool true),after:=args}=some (.bool (true==true))from w_eq_bool (w_res rfl) w_lit) rfl
theorem attach_call{l:OpenLaw}{n:Nat}{q:Program}{loose:List Str}{XP:(Str->Option Value)->Heap->Prop}{YP:World->Heap->Prop}{d:DefRec}(hn:l.most=some n)(hdf:d.params.defaults=[])(call:∀(w:World) (s₀ s₁:Shared) (mg mb:Str->Option Value) (fa:Addr) (o:Obj) (pm cd doc:Value) (a:Addr) (vs:List Value) (ns:List Int),
   Ground q loose [] XP w s₀ mg mb s₁.heap->YP w s₁.heap->
   s₁.heap.get? fa=some o->o.data= .func (docDef d.name d.params d.body d.scope pm cd doc)->s₁.heap.CodeRec cd d.name->mg d.name=some (.ref fa)->
   s₁.heap.get? a=some {cls:= .type "list",data:= .seq vs.toArray}->IntsAre vs ns->ns.length<=n->s₁.gens=#[]->
   codeAny (model l.prog w) callerA (.call (.ref fa) ⟨[.ref a],[]⟩) (fun r s'=>r= .ok (.ret (.bool true))/\OldK s₁.heap s'.heap/\s'.os=s₁.os/\AllBare s'.gens) s₁):
  WalkO q loose XP YP l.row.toRowW d [] (fun f vs=>PySem.call f vs):=by
 intro w s₀ s₁ mg mb G Y fa o pm cd doc dV kV ho hd hcd hD hmg hg args vals as hpre hlay hrd hwl hlo
 obtain rfl:dV= .none:=Dflts.none hD hdf
 obtain rfl:kV= .none:=Dflts.noKw hD
 obtain⟨a,vs,ns,rfl,rfl,hobj,hints,hlen⟩:=script_of hn hpre hwl
 refine enter_call (Vs (call w s₀ s₁ mg mb fa o pm cd doc a vs ns G Y ho (fd_plain hd) hcd hmg hobj hints hlen hg) fun r s' hq=> ?_)
 obtain⟨rfl,h2,h3,h4⟩:=hq
 exact⟨.inl ⟨.bool true,.bool true,[],rfl,fun _=>rfl,.bool true,post_true l _,fun _=>⟨List.Pairwise.nil,fun _ hm=>(nomatch hm)⟩⟩,h2,h3,h4⟩
section
variable{prog:Program}{w:World}{A:Around}{E:Value->Shared->Prop}{s:Shared}{K:Frag}
end
end Att
namespace L2
open PySem PySem.Spec PyProof.Rows
theorem vals_ints:∀{vs:List Value} {ns:List Int},IntsAre vs ns->Vals (ns.map V.int) vs
 |_,_,.nil=> .nil
 |_,_,.cons n t h=> .cons ⟨t,rfl⟩ (vals_ints h)
def Only(H:Hp):Prop:=∀b,H b=none\/∃o xs,H b=some (.frz o (.lst xs))
theorem law_call{P:Program}{w:World}{K:W.Frag}{mg mb:Str->Option Value}{CX:CXT}{k:Nat}{fa a:Addr}{fd:FuncData}{x:Str}{sp:Sp}{s₁:Shared}{vs:List Value}{ns:List Int}
  (KX:K.In s₁.heap)(hns:s₁.heap.Ns mainGlobals mg)(hb:s₁.heap.Ns builtinsNs mb)(hbb:∀x:Str,x≠"__name__"->mb x=bootBuiltins x)(hlim:s₁.heap.NoLimit)(hg:s₁.gens=#[])(ha:s₁.heap.get? a=some {cls:= .type "list",data:= .seq vs.toArray})(hi:IntsAre vs ns)(hl:ns.length<=sizeLine)(hr:Room k callerA)
  (F:∀base:Heap,K.In base->base.Ns mainGlobals mg->FnOk P w K mg base CX k fa fd [x] sp)(hbind:∀(s:Shared) (u:Value),BindsTo s fd ⟨[u],[]⟩ [(x,u)])(hsp:∀H:Hp,Only H->SqL K H a (ns.map V.int)->sp [.ref a] H (fun v _=>v= .bl true) fun _ _ _=>False)(hCX:∀H e s',CX [] H s₁ (fun _ _ _=>False) e s'->False):
  codeAny (model P w) callerA (.call (.ref fa) ⟨[.ref a],[]⟩) (fun r s'=>r= .ok (.ret (.bool true))/\OldK s₁.heap s'.heap/\s'.os=s₁.os/\AllBare s'.gens) s₁:=by
 have rv:=vals_ints hi
 have lenV:=hi.length
 -- from an abstract heap in which nothing but the script may be tracked
 have core:∀H:Hp,Only H->SqL K H a (ns.map V.int)->HOk P w H s₁.heap->(∀b,H b≠none->b=a)->(H a≠none->K.lookup a=none)->
   codeAny (model P w) callerA (.call (.ref fa) ⟨[.ref a],[]⟩) (fun r s'=>r= .ok (.ret (.bool true))/\OldK s₁.heap s'.heap/\s'.os=s₁.os/\AllBare s'.gens) s₁:=by
  intro H hO hS hok hA hK
  have base_of:∀{b:Addr} {o:Obj},s₁.heap.get? b=some o->H b=none->(hidT s₁.heap H).get? b=some o:=fun e n=>hidT_get e n
  have noA:∀{b:Addr} {o:Obj} {es:Array DictEntry} {ep:Nat},s₁.heap.get? b=some o->o.data= .dict es ep->H b=none:=fun{b o es ep} e d=>by
   cases q:H b with
   |none=>rfl
   |some u=>
    have e':b=a:=hA b (by rw[q];simp)
    subst e'
    rw[ha]at e;cases e
    have d':Data.seq vs.toArray _=Data.dict es ep:=d
    cases d'
  have nsK:∀{b:Addr} {m:Str->Option Value},s₁.heap.Ns b m->(hidT s₁.heap H).Ns b m:=fun{b m} ⟨o,es,ep,e,d,r⟩=>⟨o,es,ep,base_of e (noA e d),d,r⟩
  have hKb:K.In (hidT s₁.heap H):=fun b o e=>base_of (KX b o e) (by
   cases q:H b with
   |none=>rfl
   |some u=>
    have e':b=a:=hA b (by rw[q];simp)
    subst e'
    rw[hK (by rw[q];simp)]at e;cases e)
  have hM:Mod K mg (hidT s₁.heap H):=⟨hKb,nsK hns,⟨mb,nsK hb,hbb⟩,let⟨mc,h1,h2⟩:=hlim;⟨mc,nsK h1,h2⟩⟩
  have e0:Env0 P w K mg (hidT s₁.heap H) callerA [] s₁ H:=⟨rfl,hM,fun b o e=>of_hidT e,Fx (hidT_size _ _),trivial,fun b hb=>absurd (show b∈([]:List Addr)from hb) (by simp),hok,.of_eq hg⟩
  refine Vs ((F _ hKb (nsK hns)).run callerA [] s₁ H ⟨[.ref a],[]⟩ [.ref a] [.ref a] _ _ hr e0 (hbind s₁ (.ref a)) (.cons rfl .nil) (hsp H hO hS)) fun r s' h=> ?_
  cases r with
  |error e=>exact(hCX H e s' h).elim
  |ok fl=>
   cases fl with
   |next=>exact False.elim h
   |brk=>exact False.elim h
   |cont=>exact False.elim h
   |ret u=>
    obtain⟨v,H',os,bare,un,hok',r',q⟩:=h
    have q':v= .bl true:=q
    subst q'
    obtain rfl:u=Value.bool true:=r'
    refine⟨rfl,OldK.of_keep fun b o e=> ?_,os,bare⟩
    cases q:H b with
    |none=>exact un.keep b o e q (by intro z;exact absurd (show b∈([]:List Addr)from z) (by simp)) (by simp)
    |some u=>
     rcases hO b with z|⟨ob,xs,z⟩
     ·rw[q]at z;cases z
     ·have z2:=un.frzs b ob _ z
      obtain⟨e1,_⟩:=hok b _ z
      obtain⟨e2,_⟩:=hok' b _ z2
      rw[e]at e1;cases e1
      exact e2
 cases hk:K.lookup a with
 |some o=>
  -- the script is one of the module's own objects
  have e:=KX a o hk
  rw[ha]at e
  cases e
  refine core (fun _=>none) (fun _=> .inl rfl) (.inr ⟨_,vs.toArray,_,hk,rfl,rfl,rfl,by rw[dW,lenV];exact hl,by simpa using rv⟩) (fun b u z=>by have z':(none:Option HO)=some u:=z;cases z') (fun b z=>absurd rfl z) fun z=>absurd rfl z
 |none=>
  refine core (fun b=>if b=a then some (.frz {cls:= .type "list",data:= .seq vs.toArray} (.lst (ns.map V.int)))else none) (fun b=> ?_) (.inl (.inr ⟨{cls:= .type "list",data:= .seq vs.toArray},bD rfl⟩)) (fun b u z=> ?_) (fun b z=> ?_) fun _=>hk
  ·by_cases hb:b=a
   ·exact .inr ⟨_,_,bD hb⟩
   ·exact .inl (bC hb)
  ·by_cases hb:b=a
   ·have z':=(bD hb).symm.trans z
    cases z'
    subst hb
    exact⟨ha,by rw[aQ];exact hl,vs,_,rv,ha⟩
   ·have z':=(bC hb).symm.trans z
    cases z'
  ·by_cases hb:b=a
   ·exact hb
   ·exact absurd (bC hb) z
theorem walk_of{l:PySem.W.OpenLaw}{n k:Nat}{q:Program}{loose:List Str}{XP:(Str->Option Value)->Heap->Prop}{YP:World->Heap->Prop}{d:DefRec}{K:Params->PySem.W.Frag}{CX:World->CXT}{sp:World->Sp}{x:Str}(hn:l.most=some n)(hn2:n<=sizeLine)(hdf:d.params.defaults=[])(hr:Room k callerA)(hY:∀(w:World) (h:Heap),YP w h->(K w.params).In h)
  (F:∀(w:World) (mg:Str->Option Value) (fa:Addr) (h:Heap),(K w.params).In h->h.Ns mainGlobals mg->mg d.name=some (.ref fa)->
   ∃fd:FuncData,(∀(s:Shared) (u:Value),BindsTo s fd ⟨[u],[]⟩ [(x,u)])/\
    ∀base:Heap,(K w.params).In base->base.Ns mainGlobals mg->FnOk l.prog w (K w.params) mg base (CX w) k fa fd [x] (sp w))(hsp:∀(w:World) (H:Hp) (a:Addr) (ns:List Int),ns.length<=n->Only H->SqL (K w.params) H a (ns.map V.int)->sp w [.ref a] H (fun v _=>v= .bl true) fun _ _ _=>False)(hCX:∀(w:World) (H:Hp) (s:Shared) (e:Value) (s':Shared),CX w [] H s (fun _ _ _=>False) e s'->False):
  PySem.W.WalkO q loose XP YP l.row.toRowW d [] (fun f vs=>PySem.call f vs):=by
 refine Att.attach_call hn hdf fun w s₀ s₁ mg mb fa o pm cd doc a vs ns G Y ho hd hcd hmg hobj hints hlen hg=> ?_
 have KX:=hY w _ Y
 obtain⟨fd,hb,hF⟩:=F w mg fa _ KX G.T.g hmg
 exact law_call KX G.T.g G.T.b G.T.builtins G.T.nolimit hg hobj hints (gJ hlen hn2) hr hF hb (fun H hO hS=>hsp w H a ns hlen hO hS) fun H e s'=>hCX w H s₁ e s'
def defArgs(s:Stmt):Arguments:=match s with
 | .FunctionDef _ a _ _ _ _ _ _ _ _=>a
 |_=>{posonlyargs:=[],args:=[],vararg:=none,kwonlyargs:=[],kw_defaults:=[],kwarg:=none,defaults:=[]}
def defBody(s:Stmt):List Stmt:=match s with
 | .FunctionDef _ _ b _ _ _ _ _ _ _=>b
 |_=>[]
def defScope(s:Stmt):Scope:=match s with
 | .FunctionDef _ _ _ _ _ _ sc _ _ _=>sc
 |_=>{kind:= .function,names:=[],isGenerator:=false,isCoroutine:=false}
abbrev CX0:CXT:=fun _ _ _ _ _ _=>False
abbrev E0:XK:=fun _ _ _=>False
theorem pass0{X:Cx}:Passes CX0 X E0:=fun _ _ _ _ _ _ _ h=>h.elim
structure Fun(K:W.Frag)(x qual:Str)(st:Stmt)(f:Addr)(fd:FuncData):Prop where
 ex:∃(oc:Value) (od:Option Addr) (kV doc pm:Value) (an:Option Addr) (cdv ct:Value) (osl:Array (Option Value)),
  fd=PySem.W.fnOf x qual (defArgs st) (defBody st) (defScope st) .none kV doc pm an cdv ct/\K.lookup f=some ⟨oc,od,.func fd,osl⟩/\PySem.W.codeIn K cdv qual=true
 kp:PySem.W.keepIn K (.ref f)=true
section
variable{P:Program}{w:World}{K:W.Frag}{mg:Str->Option Value}{base:Heap}
theorem Fun.ok{x qual:Str}{st:Stmt}{f:Addr}{fd:FuncData}{N ps:List Str}{k:Nat}{sp:Sp}(F:Fun K x qual st f fd)(S:FnScope N ps (defScope st))(len:∀vs H Q E,sp vs H Q E->vs.length=ps.length)(hbody:∀(cdv:Value) (A:Around) (outer:List Env) (s:Shared) (H:Hp) (vs:List V) (Q:VK) (E:XK),Room k (A.deeper (envOfC qual (defScope st) s.heap.objs.size f cdv))->sp vs H Q E->
   ∃t,PSs (cxOf CX0 P w K mg base N qual (defScope st) f cdv A outer s H E).nox (defBody st) t/\t {nx:=fun _ H'=>Q .non H',rt:=Q} (start N vs) H):FnOk P w K mg base CX0 (k+1) f fd ps sp:=by
 obtain⟨oc,od,kV,doc,pm,an,cdv,ct,osl,rfl,lk,hcd⟩:=F.ex
 refine fn_of lk hcd S len fun A outer s H vs Q E hr hsp=> ?_
 obtain⟨t,h,q⟩:=hbody cdv A outer s H vs Q E hr hsp
 exact⟨t,h.nox,q⟩
theorem Fun.binds{x qual:Str}{st:Stmt}{f:Addr}{fd:FuncData}{ps:List Str}(F:Fun K x qual st f fd)(h:∀(kV doc pm:Value) (an:Option Addr) (cdv ct:Value) (us:List Value),us.length=ps.length->bindArgs (PySem.W.fnOf x qual (defArgs st) (defBody st) (defScope st) .none kV doc pm an cdv ct) ⟨us,[]⟩=pure (ps.zip us)):Binds K fd ps []:=by
 obtain⟨oc,od,kV,doc,pm,an,cdv,ct,osl,rfl,lk,hcd⟩:=F.ex
 exact .all (h kV doc pm an cdv ct)
theorem dB{x qual:Str}{st:Stmt}{f:Addr}{oc:Value}{od an:Option Addr}{osl:Array (Option Value)}{kV doc pm cdv ct:Value}(l:K.lookup f=some ⟨oc,od,.func (PySem.W.fnOf x qual (defArgs st) (defBody st) (defScope st) .none kV doc pm an cdv ct),osl⟩)(c:PySem.W.codeIn K cdv qual=true)(k:PySem.W.keepIn K (.ref f)=true):Fun K x qual st f (PySem.W.fnOf x qual (defArgs st) (defBody st) (defScope st) .none kV doc pm an cdv ct):=⟨⟨oc,od,kV,doc,pm,an,cdv,ct,osl,rfl,l,c⟩,k⟩
end
theorem small1000{n:Nat}(h:n<=1000):n<sizeLine:=Ft h (by decide)
section
variable{X:Cx}
theorem pv(i:Nat){x:Str}{pos:Pos}(hN:X.N[i]? =some x:=by rfl)(hv:Vis X.env.scope x:=by first |exact Or.inl rfl|exact Or.inr (Or.inl rfl)|exact Or.inr (Or.inr rfl))(hd:(x==("__debug__":Str))=false:=by decide)(hcd:(x==("__classdict__":Str))=false:=by decide):PE X (.Name x pos) (tVar i):=pe_var hN hv hd hcd
end
theorem iteF{A B:Prop}(h:B):if false=true then A else B:=by
 rw[bC uy]
 exact h
theorem iteT{A B:Prop}(h:A):if true=true then A else B:=by
 rw[bD rfl]
 exact h
theorem ite2{c A B:Prop} [Decidable c](h1:c->A)(h2:¬c->B):if c then A else B:=by
 by_cases h:c
 ·rw[bD h]
  exact h1 h
 ·rw[bC h]
  exact h2 h
def Same(H H':Hp):Prop:=∀b o,H b=some o->H' b=some o
theorem Same.refl(H:Hp):Same H H:=fun _ _ h=>h
theorem Same.trans{H H1 H2:Hp}(a:Same H H1)(b:Same H1 H2):Same H H2:=fun c o h=>b c o (a c o h)
theorem Same.free{H H':Hp}(e:Same H H'){l:Addr}(h:H' l=Option.none):H l=Option.none:=by
 cases q:H l with
 |none=>rfl
 |some o=>
  rw[e l o q]at h
  cases h
theorem Same.seq{K:W.Frag}{H H':Hp}{a:Addr}{xs:List V}(e:Same H H')(h:SqL K H a xs):SqL K H' a xs:=by
 rcases h with(h|⟨o,h⟩)|h
 ·exact .inl (.inl (e _ _ h))
 ·exact .inl (.inr ⟨o,e _ _ h⟩)
 ·exact .inr h
end L2
set_option maxHeartbeats 4000000
namespace L2
open PySem PySem.Spec PyProof.Rows
def mJ(cells:List (Str×Addr)):List (Str×NameKind)->List (Str×Addr)->List (Str×Addr)
 |[],acc=>acc
 |p::r,acc=>mJ cells r (if(p.2==NameKind.free)=true then(p.1,(cells.lookup p.1).getD 0)::acc else acc)
theorem q9{cells:List (Str×Addr)}:∀{names:List (Str×NameKind)} {acc:List (Str×Addr)} {x:Str} {c:Addr},(x,c)∈mJ cells names acc->(x,c)∈acc\/c=(cells.lookup x).getD 0/\(x,NameKind.free)∈names
 |[],_,_,_,h=> .inl h
 |(n,k)::r,acc,x,c,h=>by
  rcases q9 (names:=r) h with q|⟨q,m⟩
  ·dsimp only at q
   split at q
   ·rename_i hk
    rcases cT.mp q with e|e
    ·cases e
     have:k=NameKind.free:=by simpa using hk
     subst this
     exact .inr ⟨rfl,jl⟩
    ·exact .inl e
   ·exact .inl q
  ·exact .inr ⟨q,lZ _ m⟩
theorem Ew{cells:List (Str×Addr)}:∀{names:List (Str×NameKind)} {acc:List (Str×Addr)} {p:Str×Addr},p∈acc->p∈mJ cells names acc
 |[],_,_,h=>h
 |(n,k)::r,acc,p,h=>by
  refine Ew (names:=r) ?_
  split
  ·exact lZ _ h
  ·exact h
theorem Eu{cells:List (Str×Addr)}:∀{names:List (Str×NameKind)} {acc:List (Str×Addr)} {x:Str},(x,NameKind.free)∈names->∃c,(x,c)∈mJ cells names acc
 |(n,k)::r,acc,x,h=>by
  rcases cT.mp h with e|e
  ·cases e
   refine⟨(cells.lookup n).getD 0,Ew (names:=r) ?_⟩
   rw[bD (show(NameKind.free==NameKind.free)=true from rfl)]
   exact jl
  ·exact Eu (names:=r) e
theorem Z9{β:Type}:∀{l:List (Str×β)} {x:Str} {c:β},(x,c)∈l->∃d,l.lookup x=some d/\(x,d)∈l
 |(n,k)::r,x,c,h=>by
  cases hx:x==n with
  |true=>
   have e:x=n:=by simpa using hx
   subst e
   exact⟨k,by simp[Mp],jl⟩
  |false=>
   rcases cT.mp h with e|e
   ·cases e;simp at hx
   ·obtain⟨d,h1,h2⟩:=Z9 e
    exact⟨d,by simp only[Mp,hx];exact h1,lZ _ h2⟩
section
variable{sc scope:Scope}
end
theorem yx{scope:Scope}{env:Env}(h:∀x,(x,NameKind.free)∈scope.names->∃c,env.cells.lookup x=some c):closureFor scope env=pure (mJ env.cells scope.names []):=by
 have key:∀(names:List (Str×NameKind)) (acc:List (Str×Addr)),(∀x,(x,NameKind.free)∈names->∃c,env.cells.lookup x=some c)->
   (forIn names acc fun(x:Str×NameKind) (cs:List (Str×Addr))=>if(x.2==NameKind.free)=true then(do let y<-cellOf env x.1;pure (ForInStep.yield ((x.1,y)::cs)))else pure (ForInStep.yield cs):Sem (List (Str×Addr)))=pure (mJ env.cells names acc):=by
  intro names
  induction names with
  |nil=>intro acc _;rfl
  |cons p r ih=>
   intro acc hh
   obtain⟨n,k⟩:=p
   rw[List.forIn_cons]
   dsimp only
   by_cases hk:(k==NameKind.free)=true
   ·have e:k=NameKind.free:=by simpa using hk
    subst e
    obtain⟨c,hc⟩:=hh n jl
    rw[bD hk]
    unfold cellOf
    rw[hc]
    simp only[pure_bind]
    refine Eq.trans (ih _ fun x hx=>hh x (lZ _ hx)) ?_
    show _=pure (mJ env.cells r (if(NameKind.free==NameKind.free)=true then(n,(env.cells.lookup n).getD 0)::acc else acc))
    rw[bD hk,hc]
    rfl
   ·rw[bC hk]
    simp only[pure_bind]
    refine Eq.trans (ih _ fun x hx=>hh x (lZ _ hx)) ?_
    show _=pure (mJ env.cells r (if(k==NameKind.free)=true then(n,(env.cells.lookup n).getD 0)::acc else acc))
    rw[bC hk]
 have q:=key scope.names [] h
 unfold closureFor
 simp only[bind_pure]
 exact q
theorem nQ{env:Env}:∀{names:List (Str×NameKind)} {x:Str} {k:NameKind},names.lookup x=some k->
  (names.map fun(n,k)=>if(k==NameKind.free&&env.scope.kind== .function&&env.kindOf n==some .cell)then(n,NameKind.cell)else(n,k)).lookup x=some (if(k==NameKind.free&&env.scope.kind== .function&&env.kindOf x==some .cell)=true then .cell else k)
 |[],_,_,h=>by simp at h
 |(n,k)::r,x,k',h=>by
  have ih:= @nQ env r x k'
  show List.lookup x ((if(k==NameKind.free&&env.scope.kind== .function&&env.kindOf n==some .cell)=true then(n,NameKind.cell)else(n,k))::_)=_
  cases hx:x==n with
  |true=>
   have e:x=n:=by simpa using hx
   subst e
   simp only[Mp,hx]at h
   cases h
   by_cases hc:(k==NameKind.free&&env.scope.kind== .function&&env.kindOf x==some .cell)=true
   ·rw[bD hc,bD hc];simp[Mp]
   ·rw[bC hc,bC hc];simp[Mp]
  |false=>
   simp only[Mp,hx]at h
   by_cases hc:(k==NameKind.free&&env.scope.kind== .function&&env.kindOf n==some .cell)=true
   ·rw[bD hc];simp only[Mp,hx];exact ih h
   ·rw[bC hc];simp only[Mp,hx];exact ih h
theorem wg{env:Env}:∀{names:List (Str×NameKind)} {x:Str},names.lookup x=none->
  (names.map fun(n,k)=>if(k==NameKind.free&&env.scope.kind== .function&&env.kindOf n==some .cell)then(n,NameKind.cell)else(n,k)).lookup x=none
 |[],_,_=>rfl
 |(n,k)::r,x,h=>by
  have ih:= @wg env r x
  show List.lookup x ((if(k==NameKind.free&&env.scope.kind== .function&&env.kindOf n==some .cell)=true then(n,NameKind.cell)else(n,k))::_)=_
  cases hx:x==n with
  |true=>simp only[Mp,hx]at h;cases h
  |false=>
   simp only[Mp,hx]at h
   by_cases hc:(k==NameKind.free&&env.scope.kind== .function&&env.kindOf n==some .cell)=true
   ·rw[bD hc];simp only[Mp,hx];exact ih h
   ·rw[bC hc];simp only[Mp,hx];exact ih h
theorem Gq{scope:Scope}{env:Env}{x:Str}(h:scope.names.lookup x=some .free):(relabel scope env).names.lookup x=some .cell\/(relabel scope env).names.lookup x=some .free:=by
 have q:=nQ (env:=env) h
 by_cases hc:((NameKind.free==NameKind.free)&&env.scope.kind== .function&&env.kindOf x==some .cell)=true
 ·rw[bD hc]at q;exact .inl q
 ·rw[bC hc]at q;exact .inr q
inductive uq(X:Cx)(scope:Scope):List Str->List Nat->Prop
 |nil:uq X scope [] []
 |cons {x:Str} {j:Nat} {xs:List Str} {js:List Nat} (hN:X.N[j]? =some x) (hf:scope.names.lookup x=some .free) (t:uq X scope xs js):uq X scope (x::xs) (j::js)
theorem uq.get{X:Cx}{scope:Scope}:∀{xs:List Str} {js:List Nat} {k:Nat} {x:Str},uq X scope xs js->xs[k]? =some x->∃j,js[k]? =some j/\X.N[j]? =some x/\scope.names.lookup x=some .free
 |_,_,k,x,.nil,h=>by simp at h
 |_,_,0,x,.cons h1 h2 _,h=>by simp at h;subst h;exact⟨_,rfl,h1,h2⟩
 |_,_,k+1,x,.cons _ _ t,h=>by
  obtain⟨j,a,b⟩:=uq.get (k:=k) t (by simpa using h)
  exact⟨j,by simpa using a,b⟩
theorem uq.len{X:Cx}{scope:Scope}:∀{xs:List Str} {js:List Nat},uq X scope xs js->xs.length=js.length
 |_,_,.nil=>rfl
 |_,_,.cons _ _ t=>by simp[uq.len t]
def Ef(own:List Str)(ix:List Nat)(σ:St):St:=own.map (fun _=>none)++ix.map fun j=>(σ[j]?).join
def Xk(X:Cx)(ifs:List Expr)(t:TT):Prop:=
 ∀(pins:List (Addr×Obj)) (s:Shared) (σ:St) (H:Hp) (Q:Bool->Hp->Prop),Inv X pins σ H s->t σ H Q->
  wpAny (model X.prog X.w) X.A (forIn ifs true fun c r=>if r=true then do let ok<-isTrue c X.env (eval c X.env);pure (ForInStep.yield ok)else pure (ForInStep.yield r)) (TP X pins σ Q) X.xe s
theorem zy{X:Cx}:Xk X [] (fun _ H Q=>Q true H):=fun _ _ _ H _ I h=>wpAny_tests_nil ⟨H,I,h⟩
theorem Fp{X:Cx}{c:Expr}{t:TT}(h:PT X c t):Xk X [c] t:=fun pins s σ H Q I hq=>wpAny_tests_one (h pins s σ H Q I hq)
theorem HOk.add{P:Program}{w:World}{H:Hp}{h:Heap}{a:Addr}{o:HO}(x:HOk P w H h)(hn:H a=none)(new:ObjOk P w (upd H a o) h a o):HOk P w (upd H a o) h:=fun b u e=>by
 by_cases hb:b=a
 ·subst hb;rw[aM]at e;cases e;exact new
 ·rw[dX hb]at e
  exact(x b u e).stay (fun c v _ q=>q) (fun c q=>by rw[dX (Cz q hn)];exact q) fun c xs q=>by rw[dX (Cz q hn)];exact q
theorem Un.add{fs ex:List Addr}{H H':Hp}{h h':Heap}{a:Addr}{o:HO}(u:Un fs ex H H' h h')(ha:h.objs.size<=a)(hn:H' a=none):Un fs ex H (upd H' a o) h h' where
 keep:=u.keep
 slot:=u.slot
 free:=fun b ob q n hx=>by rw[dX (fU (mQ (dw q) ha))];exact u.free b ob q n hx
 there:=u.there
 tups:=fun b xs q=>by have:=u.tups b xs q;rw[dX (Cz this hn)];exact this
 frzs:=fun b ob xs q=>by have:=u.frzs b ob xs q;rw[dX (Cz this hn)];exact this
 tbls:=fun b ps q=>by obtain⟨m,e⟩:=u.tbls b ps q;exact⟨m,by rw[dX (Cz e hn)];exact e⟩
section
variable{X:Cx}{tg iter elt:Expr}{ifs:List Expr}{scope:Scope}{pos:Pos}{own caps:List Str}{ix:List Nat}{g:TG}{tc:TT}{te:TE}
end
def Am(J:It)(ini:St)(H:Hp)(g:TG)(tc:TT)(te:TE)(Fin:List V->Hp->Prop):Prop:=
 ∃W:Nat->Nat->List V->St->Hp->Prop,(∃m,W 0 m [] ini H)/\∀i m acc σ H,W i m acc σ H->
  (J.stop i H/\acc.length<=sizeLine/\Fin acc H)\/(J.go i H/\acc.length<sizeLine/\∃N:List V->St->Hp->Prop,(∀acc' σ' H',N acc' σ' H'->∃m',m'<m/\W (i+1) m' acc' σ' H')/\∀x H',J.yld i H x H'->g x σ H' fun σ2 H2=>tc σ2 H2 fun b H3=>
   if b=true then te σ2 H3 fun v H4=>N (acc++[v]) σ2 H4 else N acc σ2 H3)
def UW(wi:TI)(own:List Str)(ix:List Nat)(g:TG)(tc:TT)(te:TE):TE:=fun σ H Q=>wi σ H fun J H1=>
 Am J (Ef own ix σ) H1 g tc te fun acc H'=>∀p,H' p=none->Q (.ref p) (upd H' p (.lst acc))
section
variable{X:Cx}{tg iter elt:Expr}{ifs:List Expr}{scope:Scope}{pos:Pos}{own caps:List Str}{ix:List Nat}{wi:TI}{g:TG}{tc:TT}{te:TE}
end
section
variable{K:W.Frag}{a:Addr}{xs:List V}{g:TG}{tc:TT}{te:TE}{Fin:List V->Hp->Prop}{ini:St}{H:Hp}
theorem MF(Pv:Nat->List V->St->Hp->Prop)(h0:Pv 0 [] ini H)(hl:∀(i:Nat) acc σ H,i<=xs.length->Pv i acc σ H->SqL K H a xs)(hz:∀(i:Nat) acc σ H,i<=xs.length->Pv i acc σ H->acc.length<=i)(hx:xs.length<=sizeLine)(hs:∀(i:Nat) x acc σ H,xs[i]? =some x->Pv i acc σ H->g x σ H fun σ2 H2=>tc σ2 H2 fun b H3=>if b=true then te σ2 H3 fun v H4=>Pv (i+1) (acc++[v]) σ2 H4 else Pv (i+1) acc σ2 H3)(hd:∀acc σ H,Pv xs.length acc σ H->Fin acc H):Am (Itl K a) ini H g tc te Fin:=by
 refine⟨fun i m acc σ H=>m=xs.length-i/\i<=xs.length/\Pv i acc σ H,⟨xs.length,by simp,jj _,h0⟩,?_⟩
 rintro i m acc σ H ⟨rfl,hi,p⟩
 have q:=hl i acc σ H hi p
 have z:=hz i acc σ H hi p
 by_cases hlt:i<xs.length
 ·refine .inr ⟨⟨xs,xs[i],q,by simp[hlt]⟩,by omega,fun acc σ H=>Pv (i+1) acc σ H,fun acc' σ' H' r=>⟨_,by omega,rfl,hlt,r⟩,fun x H' y=> ?_⟩
  obtain⟨e,y⟩:=y
  subst e
  exact hs i x acc σ _ (y xs q) p
 ·have e:i=xs.length:=by omega
  subst e
  exact .inl ⟨⟨xs,q,bx _⟩,by omega,hd acc σ H p⟩
theorem cZ(Pv:Nat->List V->St->Hp->Prop)(h0:Pv 0 [] ini H)(hl:∀(i:Nat) acc σ H,i<=xs.length->Pv i acc σ H->SqT K H a xs)(hz:∀(i:Nat) acc σ H,i<=xs.length->Pv i acc σ H->acc.length<=i)(hx:xs.length<=sizeLine)(hs:∀(i:Nat) x acc σ H,xs[i]? =some x->Pv i acc σ H->g x σ H fun σ2 H2=>tc σ2 H2 fun b H3=>if b=true then te σ2 H3 fun v H4=>Pv (i+1) (acc++[v]) σ2 H4 else Pv (i+1) acc σ2 H3)(hd:∀acc σ H,Pv xs.length acc σ H->Fin acc H):Am (Itt K a) ini H g tc te Fin:=by
 refine⟨fun i m acc σ H=>m=xs.length-i/\i<=xs.length/\Pv i acc σ H,⟨xs.length,by simp,jj _,h0⟩,?_⟩
 rintro i m acc σ H ⟨rfl,hi,p⟩
 have q:=hl i acc σ H hi p
 have z:=hz i acc σ H hi p
 by_cases hlt:i<xs.length
 ·refine .inr ⟨⟨xs,xs[i],q,by simp[hlt]⟩,by omega,fun acc σ H=>Pv (i+1) acc σ H,fun acc' σ' H' r=>⟨_,by omega,rfl,hlt,r⟩,fun x H' y=> ?_⟩
  obtain⟨e,y⟩:=y
  subst e
  exact hs i x acc σ _ (y xs q) p
 ·have e:i=xs.length:=by omega
  subst e
  exact .inl ⟨⟨xs,q,bx _⟩,by omega,hd acc σ H p⟩
theorem JM{lo:Int}{n:Nat}(Pv:Nat->List V->St->Hp->Prop)(h0:Pv 0 [] ini H)(hz:∀(i:Nat) acc σ H,i<=n->Pv i acc σ H->acc.length<=i)(hx:n<=sizeLine)(hs:∀(i:Nat) acc σ H,i<n->Pv i acc σ H->g (.int (lo+i)) σ H fun σ2 H2=>tc σ2 H2 fun b H3=>if b=true then te σ2 H3 fun v H4=>Pv (i+1) (acc++[v]) σ2 H4 else Pv (i+1) acc σ2 H3)(hd:∀acc σ H,Pv n acc σ H->Fin acc H):Am (Itr lo n) ini H g tc te Fin:=by
 refine⟨fun i m acc σ H=>m=n-i/\i<=n/\Pv i acc σ H,⟨n,by simp,jj _,h0⟩,?_⟩
 rintro i m acc σ H ⟨rfl,hi,p⟩
 have z:=hz i acc σ H hi p
 by_cases hlt:i<n
 ·refine .inr ⟨hlt,by omega,fun acc σ H=>Pv (i+1) acc σ H,fun acc' σ' H' r=>⟨_,by omega,rfl,hlt,r⟩,fun x H' y=> ?_⟩
  obtain⟨e,y⟩:=y
  subst e y
  exact hs i acc σ _ hlt p
 ·have e:i=n:=by omega
  subst e
  exact .inl ⟨bx _,by omega,hd acc σ H p⟩
end
end L2
namespace Cq
open PySem PySem.W PyProof.Rows
section
variable{O:KeyOrd}{key:Nat->O.α}{N:Nat}{cmp:Nat->Nat->(Bool->Shared->Prop)->Shared->Prop}{s:Shared}
def mX(O:KeyOrd)(key:Nat->O.α)(N:Nat)(cmp:Nat->Nat->(Bool->Shared->Prop)->Shared->Prop)(s:Shared):Prop:=
 ∀i j (C:Bool->Shared->Prop),i<N->j<N->C (O.blt (key i) (key j)) s->cmp i j C s
def KN(key:Nat->O.α)(p:Array Nat)(i:Nat):O.α:=key (p.getD i 0)
def So(key:Nat->O.α)(p:Array Nat)(k:Nat):Prop:=∀i j,i<=j->j<k->O.kle (KN key p i) (KN key p j)
def Ni(key:Nat->O.α)(p:Array Nat)(k:Nat):Prop:=∀i j,i<=j->j<k->O.kle (KN key p j) (KN key p i)
structure Ord(N:Nat)(p:Array Nat):Prop where
 perm:p.Perm (List.toArray (List.range N))
theorem Ord.size{p:Array Nat}(h:Ord N p):p.size=N:=by have:=h.perm.size_eq;simpa using this
theorem Ord.lt{p:Array Nat}(h:Ord N p){i:Nat}(hi:i<N):p.getD i 0<N:=by
 have hi':i<p.size:=by rw[h.size];exact hi
 have e:p.getD i 0=p[i]:=by simp[Array.getD,hi']
 rw[e]
 have m:p[i]∈p.toList:=by simp
 have:=(ydi.mp h.perm).mem_iff.mp m
 simpa using this
theorem Ord.rev{p:Array Nat}(h:Ord N p)(i j:Nat):Ord N (kas_rev p i j):=⟨(mirror_perm _ _ _ _).trans h.perm⟩
theorem Ord.bub{p:Array Nat}(h:Ord N p)(i j:Nat):Ord N (bubble p i j):=⟨(bubble_perm _ _ _).trans h.perm⟩
theorem xZ(p:Array Nat)(i:Nat):p.getD i 0=(p[i]?).getD 0:=by simp
theorem Im{p:Array Nat}{i j:Nat}(hj:j<=p.size)(k:Nat):KN key (kas_rev p i j) k=if i<=k/\k<j then KN key p (i+j-1-k)else KN key p k:=by
 have e:=getElem?_mirror_all (i:=i) hj k
 unfold KN kas_rev
 rw[xZ,e]
 split
 ·rw[xZ]
 ·rw[xZ]
theorem dh{p:Array Nat}{i j:Nat}(hj:j<=p.size)(heq:∀k,i<=k->k<j->KN key p k=KN key p (j-1))(k:Nat):KN key (kas_rev p i j) k=KN key p k:=by
 rw[Im hj]
 split
 ·rename_i h
  rw[heq k h.1 h.2,heq _ (by omega) (by omega)]
 ·rfl
theorem QL{p:Array Nat}{src d:Nat}(hs:src<p.size)(hd:d<=src)(k:Nat):KN key (bubble p src d) k=if k=src-d then KN key p src else if src-d<k/\k<=src then KN key p (k-1)else KN key p k:=by
 have e:=getElem?_bubble hs d hd k
 have q:KN key (bubble p src d) k=key (((bubble p src d)[k]?).getD 0):=rH key (xZ _ _)
 have q2:∀i,KN key p i=key ((p[i]?).getD 0):=fun i=>rH key (xZ _ _)
 rw[q,e,q2,q2,q2]
 by_cases h1:k=src-d
 ·rw[bD h1,bD h1]
 ·rw[bC h1,bC h1]
  by_cases h2:src-d<k/\k<=src
  ·rw[bD h2,bD h2]
  ·rw[bC h2,bC h2]
theorem Jt{i j:Nat}(h:i<=j)(hn:¬i=j):i<=j-1:=ydk (Ux h hn)
theorem HJ{j n:Nat}(h:j<n+1)(hn:¬j<n):j=n:=Vm (Uw h) (Nat.not_lt.mp hn)
theorem jr{x k:Nat}(h:1<=x)(hk:x<=k):x-1<k:=Xq h hk
theorem Hx{x f N:Nat}(h:x+(f+1)<=N):x<N:=mQ (Nat.lt_add_of_pos_right (M4 f)) h
theorem Ay{x f N:Nat}(h:x+(f+1)<=N):x+1+f<=N:=gJ (Fx (ycz x f)) h
theorem UL{x f m:Nat}(h:m<=x+1+f):m<=x+(f+1):=gJ h (Fx (ycz x f))
theorem VG{i j n:Nat}(h:i<=j):0+n-1-j<=0+n-1-i:=Nat.sub_le_sub_left h _
theorem VF{i n:Nat}(h:i<n):0+n-1-i<n:=by
 rw[Nat.zero_add]
 exact Ft (wfn _ _) (Xq (Ft (jj _) h) (bx _))
theorem asc(ok:mX O key N cmp s){p:Array Nat}(hp:Ord N p){Q:Nat->Shared->Prop}:∀(f n:Nat),1<=n->n+f<=N->So key p n->(∀m,n<=m->m<=n+f->So key p m->(m=n+f\/O.klt (KN key p m) (KN key p (m-1)))->Q m s)->(kas_asc p f n).kasWp cmp Q s
 |0,n,_,_,hs,h=>h n (bx _) (bx _) hs (.inl rfl)
 |f+1,n,h1,hn,hs,h=>by
  have V4:n<N:=Hx hn
  refine ok _ _ _ (hp.lt V4) (hp.lt (jr h1 (Mi V4))) ?_
  cases hless:O.blt (key (p.getD n 0)) (key (p.getD (n-1) 0))with
  |true=>
   show Q n s
   exact h n (bx _) (wcx _ _) hs (.inr hless)
  |false=>
   show(kas_asc p f (n+1)).kasWp cmp Q s
   refine asc ok hp f (n+1) (M4 _) (Ay hn) (fun i j hij hj=> ?_) fun m a b c d=>h m (Nat.le_of_succ_le a) (UL b) c (d.imp (fun z=>z.trans (ycz n f)) id)
   by_cases hjn:j<n
   ·exact hs i j hij hjn
   ·have hj':j=n:=HJ hj hjn
    subst hj'
    by_cases hi':i=j
    ·subst hi';exact Rx _
    ·exact wcy (hs i (j-1) (Jt hij hi') (jr h1 (bx _))) hless
theorem tail3(ok:mX O key N cmp s){p:Array Nat}(hp:Ord N p){n:Nat}{Q:Nat×Array Nat->Shared->Prop}(h1:1<=n)(hn:n<=N)(hs:Ni key p n)(h:∀m p',Ord N p'->1<=m->m<=N->So key p' m->Q (m,p') s):(kas_tail3 n N p).kasWp cmp Q s:=by
 unfold kas_tail3
 rw[XS]
 have hsz:n<=p.size:=by rw[hp.size];exact hn
 have hN:n+(N-n)=N:=wdh hn
 refine asc ok (hp.rev 0 n) (N-n) n h1 (Fx hN) (fun i j hij hj=> ?_) fun m a b c _=>h m _ (hp.rev 0 n) (gJ h1 a) (gJ b (Fx hN)) c
 rw[Im hsz,Im hsz,bD ⟨jj _,Ft hij hj⟩,bD ⟨jj _,hj⟩]
 exact hs _ _ (VG hij) (VF (Ft hij hj))
theorem Qs{p p':Array Nat}{x:Nat}(h1:1<=x)(hs:Ni key p x)(hless:O.kle (KN key p x) (KN key p (x-1)))(hk:∀k,KN key p' k=KN key p k):Ni key p' (x+1):=by
 intro i j hij hj
 rw[hk,hk]
 by_cases hjx:j<x
 ·exact hs i j hij hjx
 ·have hj':j=x:=HJ hj hjx
  subst hj'
  by_cases hi':i=j
  ·subst hi';exact Rx _
  ·exact wcy hless (hs i (j-1) (Jt hij hi') (jr h1 (bx _)))
theorem one_eq{p:Array Nat}{x i:Nat}(h1:x+1-(0+1)<=i)(h2:i<x+1):KN key p i=KN key p (x+1-1):=rH _ (Vm (Uw h2) h1)
theorem desc(ok:mX O key N cmp s){Q:Array Nat×Nat×Nat->Shared->Prop}:∀(f:Nat) (p:Array Nat) (x neq:Nat),Ord N p->1<=x->x+f<=N->Ni key p x->neq+1<=x->(∀i,x-(neq+1)<=i->i<x->KN key p i=KN key p (x-1))->
  (∀p' m q,Ord N p'->x<=m->m<=x+f->Ni key p' m->q+1<=m->(∀i,m-(q+1)<=i->i<m->KN key p' i=KN key p' (m-1))->Q (p',m,q) s)->(kas_desc f p x neq).kasWp cmp Q s
 |0,p,x,neq,hp,_,_,hs,hq,he,h=>h p x neq hp (bx _) (bx _) hs hq he
 |f+1,p,x,neq,hp,h1,hn,hs,hq,he,h=>by
  have hxN:x<N:=Hx hn
  have hsz:x<=p.size:=by rw[hp.size];exact Mi hxN
  have hx1:x-1<N:=jr h1 (Mi hxN)
  have hh:∀p' m q,Ord N p'->x+1<=m->m<=x+1+f->Ni key p' m->q+1<=m->(∀i,m-(q+1)<=i->i<m->KN key p' i=KN key p' (m-1))->Q (p',m,q) s:=fun p' m q a b c d e g=>h p' m q a (Nat.le_of_succ_le b) (UL c) d e g
  refine ok _ _ _ (hp.lt hxN) (hp.lt hx1) ?_
  cases hless:O.blt (key (p.getD x 0)) (key (p.getD (x-1) 0))with
  |true=>
   show(if neq>0 then kas_desc f (kas_rev p (x-(neq+1)) x) (x+1) 0 else kas_desc f p (x+1) 0).kasWp cmp Q s
   by_cases hneq:neq>0
   ·rw[bD hneq]
    exact desc ok f _ (x+1) 0 (hp.rev _ _) (M4 _) (Ay hn) (Qs h1 hs (X3 hless) (dh hsz he)) (M4 _) (fun i h1 h2=>one_eq h1 h2) hh
   ·rw[bC hneq]
    exact desc ok f _ (x+1) 0 hp (M4 _) (Ay hn) (Qs h1 hs (X3 hless) fun _=>rfl) (M4 _) (fun i h1 h2=>one_eq h1 h2) hh
  |false=>
   show(KasT.ask (p.getD (x-1) 0) (p.getD x 0) fun d=>if d=true then KasT.ret (p,x,neq)else kas_desc f p (x+1) (neq+1)).kasWp cmp Q s
   refine ok _ _ _ (hp.lt hx1) (hp.lt hxN) ?_
   cases hl:O.blt (key (p.getD (x-1) 0)) (key (p.getD x 0))with
   |true=>exact h p x neq hp (bx _) (wcx _ _) hs hq he
   |false=>
    show(kas_desc f p (x+1) (neq+1)).kasWp cmp Q s
    have heqx:KN key p x=KN key p (x-1):=KeyOrd.kle_antisymm hl hless
    refine desc ok f _ (x+1) (neq+1) hp (M4 _) (Ay hn) (Qs h1 hs (by rw[heqx];exact Rx _) fun _=>rfl) (Nat.succ_le_succ hq) (fun i h1 h2=> ?_) hh
    show KN key p i=KN key p x
    by_cases hix:i=x
    ·subst hix;rfl
    ·rw[heqx];exact he i (gJ (Fx (Nat.succ_sub_succ x (neq+1)).symm) h1) (Ux (Uw h2) hix)
theorem descPart(ok:mX O key N cmp s){p:Array Nat}(hp:Ord N p){n:Nat}{Q:Nat×Array Nat->Shared->Prop}(hn:n+1<=N)(hs:Ni key p (n+1))(h:∀m p',Ord N p'->1<=m->m<=N->So key p' m->Q (m,p') s):(kas_descPart n N p).kasWp cmp Q s:=by
 unfold kas_descPart
 rw[XS]
 have hN:n+1+(N-(n+1))<=N:=Fx (wdh hn)
 refine desc ok _ _ _ _ hp (M4 _) hN hs (M4 _) (fun i h1 h2=>one_eq h1 h2) fun p' m q a b c d e g=> ?_
 have hm:m<=N:=gJ c hN
 have hm1:1<=m:=gJ (M4 _) b
 have hsz:m<=p'.size:=by rw[a.size];exact hm
 dsimp only
 by_cases hq:q>0
 ·rw[bD hq]
  refine tail3 ok (a.rev _ _) hm1 hm (fun i j hij hj=> ?_) h
  rw[dh hsz g,dh hsz g]
  exact d i j hij hj
 ·rw[bC hq]
  exact tail3 ok a hm1 hm d h
theorem count(ok:mX O key N cmp s){p:Array Nat}(hp:Ord N p){Q:Nat×Array Nat->Shared->Prop}(h1:1<=N)(h:∀m p',Ord N p'->1<=m->m<=N->So key p' m->Q (m,p') s):(kas_count N p).kasWp cmp Q s:=by
 unfold kas_count
 rw[XS]
 have hN:1+(N-1)=N:=wdh h1
 refine asc ok hp (N-1) 1 (bx _) (Fx hN) (fun i j hij hj=>by
  have hj0:j=0:=Nat.lt_one_iff.mp hj
  subst hj0
  have hi0:i=0:=Nat.le_zero.mp hij
  subst hi0;exact Rx _) fun n a b hsn hor=> ?_
 have V4:n<=N:=gJ b (Fx hN)
 by_cases hnn:n=N
 ·rw[bD (by simpa using hnn)]
  exact h n p hp a V4 hsn
 ·rw[bC (by simpa using hnn)]
  have hlt:O.klt (KN key p n) (KN key p (n-1)):=hor.resolve_left fun z=>hnn (z.trans hN)
  have PX:n<N:=Ux V4 hnn
  by_cases hgt:n>1
  ·rw[bD hgt]
   have hn1:n-1<n:=jr a (bx _)
   refine ok _ _ _ (hp.lt h1) (hp.lt (yO hn1 PX)) ?_
   cases hrose:O.blt (key (p.getD 0 0)) (key (p.getD (n-1) 0))with
   |true=>exact h n p hp a V4 hsn
   |false=>
    show(kas_descPart n N (kas_rev p 0 n)).kasWp cmp Q s
    have hsz:n<=p.size:=by rw[hp.size];exact V4
    have hall:∀k,0<=k->k<n->KN key p k=KN key p (n-1):=fun k _ hk=>
     KeyOrd.kle_antisymm (hsn k (n-1) (ydk hk) hn1) (wcy hrose (hsn 0 k (jj _) hk))
    refine descPart ok (hp.rev 0 n) PX (fun i j hij hj=> ?_) h
    rw[dh hsz hall,dh hsz hall]
    by_cases hjn:j<n
    ·rw[hall i (jj _) (Ft hij hjn),hall j (jj _) hjn];exact Rx _
    ·have hj':j=n:=HJ hj hjn
     subst hj'
     by_cases hi':i=j
     ·subst hi';exact Rx _
     ·rw[hall i (jj _) (Ux hij hi')];exact X3 hlt
  ·rw[bC hgt]
   have hn1':n=1:=Vm (Nat.not_lt.mp hgt) a
   subst hn1'
   refine descPart ok hp PX (fun i j hij hj=> ?_) h
   by_cases hi':i=j
   ·subst hi';exact Rx _
   ·have hij':i<j:=Ux hij hi'
    have hj1:j=1:=Vm (Uw hj) (Ft (jj i) hij')
    subst hj1
    have hi0:i=0:=Nat.lt_one_iff.mp hij'
    subst hi0
    exact X3 hlt
theorem half_lt{l r:Nat}(h:l<r):(l+r)/2<r:=by omega
theorem Sy{l r:Nat}(h:l<r):l<=(l+r)/2:=by omega
theorem place(ok:mX O key N cmp s){p:Array Nat}(hp:Ord N p){k:Nat}{Q:Nat->Shared->Prop}(hk:k<N)(hs:So key p k):∀(f l r:Nat),l<=r->r<=k->r-l<=f->(∀i,i<l->O.kle (KN key p i) (KN key p k))->(∀i,r<=i->i<k->O.klt (KN key p k) (KN key p i))->
  (∀l,l<=k->(∀i,i<l->O.kle (KN key p i) (KN key p k))->(∀i,l<=i->i<k->O.klt (KN key p k) (KN key p i))->Q l s)->(kas_place p k f l r).kasWp cmp Q s
 |0,l,r,hlr,hrk,hm,hlo,hhi,h=>by
  have e:l=r:=Vm hlr (Nat.sub_eq_zero_iff_le.mp (Nat.le_zero.mp hm))
  subst e
  exact h l hrk hlo hhi
 |f+1,l,r,hlr,hrk,hm,hlo,hhi,h=>by
  show(if l≥r then KasT.ret l else KasT.ask (p.getD k 0) (p.getD ((l+r)/2) 0) fun c=>if c=true then kas_place p k f l ((l+r)/2)else kas_place p k f ((l+r)/2+1) r).kasWp cmp Q s
  by_cases hge:l≥r
  ·rw[bD hge]
   have e:l=r:=Vm hlr hge
   subst e
   exact h l hrk hlo hhi
  ·rw[bC hge]
   have hc:(l+r)/2<r:=half_lt (Nat.not_le.mp hge)
   have hd:l<=(l+r)/2:=Sy (Nat.not_le.mp hge)
   generalize (l+r)/2=c at hc hd⊢
   refine ok _ _ _ (hp.lt hk) (hp.lt (yO (mQ hc hrk) hk)) ?_
   cases hless:O.blt (key (p.getD k 0)) (key (p.getD c 0))with
   |true=>
    refine place ok hp hk hs f l c hd (Mi (mQ hc hrk)) (Uw (mQ (Nat.sub_lt_sub_right hd hc) hm)) hlo (fun i h1 h2=> ?_) h
    by_cases hi:i=c
    ·subst hi;exact hless
    ·exact KeyOrd.klt_of_klt_of_kle hless (hs c i h1 h2)
   |false=>
    refine place ok hp hk hs f (c+1) r hc hrk (Uw (mQ (Nat.sub_lt_sub_left (Ft hd hc) (Nat.lt_succ_of_le hd)) hm)) (fun i h1=> ?_) hhi h
    by_cases hi:i=c
    ·subst hi;exact hless
    ·exact wcy (hs i c (Uw h1) (mQ hc hrk)) hless
theorem Z0{p:Array Nat}{k l:Nat}(hs:So key p k)(hl:l<=k)(hsz:k<p.size)(hlo:∀i,i<l->O.kle (KN key p i) (KN key p k))(hhi:∀i,l<=i->i<k->O.klt (KN key p k) (KN key p i)):So key (bubble p k (k-l)) (k+1):=by
 intro i j hij hj
 have e:k-(k-l)=l:=Nat.sub_sub_self hl
 rw[QL hsz (wfn _ _),QL hsz (wfn _ _),e]
 have hjk:j<=k:=Uw hj
 by_cases hi1:i=l
 ·rw[bD hi1]
  by_cases hj1:j=l
  ·rw[bD hj1];exact Rx _
  ·have lj:l<j:=Ux (hi1▸hij) (zF hj1)
   rw[bC hj1,bD ⟨lj,hjk⟩]
   exact X3 (hhi (j-1) (ydk lj) (Xq (Ft (jj _) lj) hjk))
 ·rw[bC hi1]
  by_cases hi2:l<i/\i<=k
  ·have lj:l<j:=mQ hi2.1 hij
   rw[bD hi2,bC (zF (fU lj)),bD ⟨lj,hjk⟩]
   exact hs _ _ (Nat.sub_le_sub_right hij 1) (Xq (Ft (jj _) lj) hjk)
  ·rw[bC hi2]
   have il:i<l:=Ux (Nat.not_lt.mp fun z=>hi2 ⟨z,gJ hij hjk⟩) hi1
   by_cases hj1:j=l
   ·rw[bD hj1];exact hlo i il
   ·rw[bC hj1]
    by_cases hj2:l<j/\j<=k
    ·rw[bD hj2];exact hs _ _ (ydk (yO il hj2.1)) (Xq (Ft (jj _) hj2.1) hjk)
    ·rw[bC hj2];exact hs _ _ hij (mQ (Ux (Nat.not_lt.mp fun z=>hj2 ⟨z,hjk⟩) hj1) hl)
theorem bins(ok:mX O key N cmp s){Q:Array Nat->Shared->Prop}:∀(f:Nat) (p:Array Nat) (k:Nat),Ord N p->1<=k->k+f=N->So key p k->(∀p',Ord N p'->So key p' N->Q p' s)->(kas_bin f p k).kasWp cmp Q s
 |0,p,k,hp,_,hf,hs,h=>h p hp ((show k=N from hf)▸hs)
 |f+1,p,k,hp,h1,hf,hs,h=>by
  show((kas_place p k k 0 k).bind fun l=>kas_bin f (bubble p k (k-l)) (k+1)).kasWp cmp Q s
  rw[XS]
  have hk:k<N:=Hx (Fx hf)
  have hsz:k<p.size:=by rw[hp.size];exact hk
  refine place ok hp hk hs k 0 k (jj _) (bx _) (wfn _ _) (fun i hi=>absurd hi (wdi _)) (fun i h1 h2=>absurd h2 (Nat.not_lt.mpr h1)) fun l hl hlo hhi=> ?_
  exact bins ok f _ (k+1) (hp.bub _ _) (M4 _) ((ycz k f).trans hf) (Z0 hs hl hsz hlo hhi) h
theorem sort(ok:mX O key N cmp s){Q:Array Nat->Shared->Prop}(h1:1<=N)(h:∀p',Ord N p'->So key p' N->Q p' s):(kas_sort N).kasWp cmp Q s:=by
 unfold kas_sort
 rw[XS]
 refine count ok ⟨Array.Perm.refl _⟩ h1 fun m p' hp hm1 hm2 hs=> ?_
 dsimp only
 by_cases hlt:m<N
 ·rw[bD hlt]
  have e:max m 1=m:=by omega
  rw[e]
  exact bins ok _ _ _ hp hm1 (by omega) hs h
 ·rw[bC hlt]
  have e:m=N:=by omega
  subst e
  exact h p' hp hs
end
end Cq
namespace Cq
open PySem PySem.W PyProof.Rows PySem.Calls
def TY{O:KeyOrd}(key:Nat->O.α)(vs out:List Value):Prop:=∃p:Array Nat,Ord vs.length p/\So key p vs.length/\out=p.toList.map fun i=>vs.getD i Value.none
section
variable{prog:Program}{w:World}{A:Around}{E:Value->Shared->Prop}{s:Shared}{O:KeyOrd}{key:Nat->O.α}{κ:SortKind}{vs:List Value}
theorem Gx(h2:vs.length<2):TY key vs vs:=by
 refine⟨List.toArray (List.range vs.length),⟨Array.Perm.refl _⟩,fun i j hij hj=> ?_,?_⟩
 ·have e:i=j:=by omega
  subst e;exact Rx _
 ·match vs,h2 with
  |[],_=>rfl
  |[v],_=>rfl
  |_::_::_,h=>simp at h;omega
theorem zm{a:Addr}{n:Nat}{P:PySem.Fin->Shared->Prop}(ho:s.heap.get? a=some (seqObj "list" vs.toArray n))(h64:vs.length<64)(hkind:2<=vs.length->∀h',(∀b o,b≠a->s.heap.get? b=some o->h'.get? b=some o)->∀Q:SortKind->Shared->Prop,Q κ {s with heap:=h'}->wpAny (model prog w) A (keyKind' vs.toArray) Q E {s with heap:=h'})(V5:2<=vs.length->∀h',(∀b o,b≠a->s.heap.get? b=some o->h'.get? b=some o)->mX O key vs.length (kas_ask prog w A κ vs) {s with heap:=h'})(h:∀h' out c,TY key vs out->(∀b o,b≠a->s.heap.get? b=some o->h'.get? b=some o)->h'.get? a=some (seqObj "list" (List.toArray out) c)->P (.done (.ret .none)) {s with heap:=h'}):
  wpAny (model prog w) A (Builtin.«list.sort» ⟨[.ref a],[]⟩) P E s:=by
 have ha:a<s.heap.objs.size:=dw ho
 have s1:=Nh s.heap a (Obj.mapSeq fun _=>(#[]:Array Value))
 obtain⟨e1,ho1⟩:∃e1,(s.heap.update a (Obj.mapSeq fun _=>(#[]:Array Value))).get? a=some (seqObj "list" #[] e1):=⟨_,XR ho fun _=>#[]⟩
 have keep:∀b o,b≠a->s.heap.get? b=some o->(((s.heap.update a (Obj.mapSeq fun _=>(#[]:Array Value))).push (seqObj "tuple" vs.toArray 0)).push (seqObj "list" #[] 0)).get? b=some o:=fun b o hb e=>
  fV _ (fV _ ((s1.2 b hb).trans e))
 have ho6:(((s.heap.update a (Obj.mapSeq fun _=>(#[]:Array Value))).push (seqObj "tuple" vs.toArray 0)).push (seqObj "list" #[] 0)).get? a=some (seqObj "list" #[] e1):=fV _ (fV _ ho1)
 rw[list_sort_plain]
 refine aK (listItems_at ho rfl ?_)
 refine aK (listUpdate_at ho rfl ?_ (by rw[dW,eF];omega) (jj _))
 refine aK (seqEpoch_at ho1 rfl ?_)
 refine aK (wpAny_newTuple ?_ (by show vs.length<=_;rw[eF];omega))
 refine aK (wpAny_newList ?_ (jj _))
 refine M9 ?_
 show wpAny (model prog w) A _ P E {s with heap:=((s.heap.update a (Obj.mapSeq fun _=>(#[]:Array Value))).push (seqObj "tuple" vs.toArray 0)).push (seqObj "list" #[] 0)}
 dsimp only
 by_cases h2:vs.toArray.size<2
 ·have h2':vs.length<2:=by simpa using h2
  rw[bD h2,bD h2]
  refine aK (bO ?_)
  rw[StateT.run_pure]
  refine aK (bO ?_)
  dsimp only
  refine aK (seqEpoch_at ho6 rfl ?_)
  refine aK (listUpdate_at ho6 rfl ?_ (jj _) (by rw[Array.size_map];show(pairsOf vs).size<=_;rw[pairsOf_size,eF];omega))
  simp only[bne_self_eq_false,wcm,Vp]
  refine bO ?_
  have eo:(vs.toArray.zip vs.toArray).map (·.2)=List.toArray vs:=by
   apply Array.toList_inj.mp
   simp[List.map_snd_zip]
  have s2:=Nh (((s.heap.update a (Obj.mapSeq fun _=>(#[]:Array Value))).push (seqObj "tuple" vs.toArray 0)).push (seqObj "list" #[] 0)) a (Obj.mapSeq fun _=>List.toArray vs)
  obtain⟨c2,hc2⟩:∃c2,((((s.heap.update a (Obj.mapSeq fun _=>(#[]:Array Value))).push (seqObj "tuple" vs.toArray 0)).push (seqObj "list" #[] 0)).update a (Obj.mapSeq fun _=>List.toArray vs)).get? a=some (seqObj "list" (List.toArray vs) c2):=⟨_,XR ho6 fun _=>List.toArray vs⟩
  have fin:=h _ vs c2 (Gx h2') (fun b o hb e=>(s2.2 b hb).trans (keep b o hb e)) hc2
  first
   |exact fin
   |(rw[<-eo]at fin;exact fin)
   |(show P _ {s with heap:=Heap.update _ a (Obj.mapSeq fun _=>(vs.toArray.zip vs.toArray).map (·.2))};rw[eo];exact fin)
 ·have h2':2<=vs.length:=by rw[dW]at h2;omega
  rw[bC h2,bC h2]
  refine aK (hkind h2' _ keep _ ?_)
  refine aK (Mt (kat_run (Q:=fun st' s'=>s'={s with heap:=((s.heap.update a (Obj.mapSeq fun _=>(#[]:Array Value))).push (seqObj "tuple" vs.toArray 0)).push (seqObj "list" #[] 0)}/\∃p:Array Nat,p.size=vs.length/\arrOf st'=p.map (kas_item (vs.toArray.zip vs.toArray))/\failedOf st'=none/\Ord vs.length p/\So key p vs.length)
   (G:=fun p s'=>s'={s with heap:=((s.heap.update a (Obj.mapSeq fun _=>(#[]:Array Value))).push (seqObj "tuple" vs.toArray 0)).push (seqObj "list" #[] 0)}/\Ord vs.length p/\So key p vs.length)
   rfl h2' h64 (fun p' st' s' a1 a2 a3 a4=>⟨a4.1,p',a1,a2,a3,a4.2.1,a4.2.2⟩) (sort (V5 h2' _ keep) (by omega) fun p' hp hs=>⟨rfl,hp,hs⟩)) ?_ fun _ _ e=>e)
  rintro⟨⟨⟩,st'⟩ s' ⟨rfl,p,hp,har,hf,hor,hso⟩
  dsimp only
  have hout:=kat_snds rfl har
  have hsz:(List.toArray (p.toList.map fun i=>vs.getD i Value.none)).size=vs.length:=by rw[dW,aQ,Uy,hp]
  rw[hout]
  refine aK (seqEpoch_at ho6 rfl ?_)
  refine aK (listUpdate_at ho6 rfl ?_ (jj _) (gJ (Fx hsz) (by rw[eF];omega)))
  rw[hf]
  simp only[bne_self_eq_false,wcm,Vp]
  have s2:=Nh (((s.heap.update a (Obj.mapSeq fun _=>(#[]:Array Value))).push (seqObj "tuple" vs.toArray 0)).push (seqObj "list" #[] 0)) a (Obj.mapSeq fun _=>List.toArray (p.toList.map fun i=>vs.getD i Value.none))
  obtain⟨c2,hc2⟩:∃c2,((((s.heap.update a (Obj.mapSeq fun _=>(#[]:Array Value))).push (seqObj "tuple" vs.toArray 0)).push (seqObj "list" #[] 0)).update a (Obj.mapSeq fun _=>List.toArray (p.toList.map fun i=>vs.getD i Value.none))).get? a=some (seqObj "list" (List.toArray (p.toList.map fun i=>vs.getD i Value.none)) c2):=⟨_,XR ho6 fun _=>_⟩
  exact bO (h _ _ c2 ⟨p,hor,hso,rfl⟩ (fun b o hb e=>(s2.2 b hb).trans (keep b o hb e)) hc2)
theorem vP{l:Addr}{Q:Value->Shared->Prop}(hl:s.heap.IsList l vs.toArray)(h64:vs.length<64)(hkind:2<=vs.length->∀h',(∀b o,s.heap.get? b=some o->h'.get? b=some o)->∀(E:Value->Shared->Prop) (Q:SortKind->Shared->Prop),Q κ {s with heap:=h'}->wpAny (model prog w) A.in1.in1 (keyKind' vs.toArray) Q E {s with heap:=h'})(V5:2<=vs.length->∀h',(∀b o,s.heap.get? b=some o->h'.get? b=some o)->mX O key vs.length (kas_ask prog w A.in1.in1 κ vs) {s with heap:=h'})(h:∀D h' out c,TY key vs out->s.heap.objs.size<=D->(∀b o,s.heap.get? b=some o->h'.get? b=some o)->h'.get? D=some (seqObj "list" (List.toArray out) c)->Q (.ref D) {s with heap:=h'}):
  wpAny (model prog w) A (call (.builtin "sorted") [.ref l]) Q E s:=by
 refine Calls.call_function_entry kind_sorted plain_sorted entry_sorted (args_sorted1 _) ?_
 unfold Builtin.«sorted»
 refine aK (m:=checkCount "sorted" 1 1 _) (bO ?_)
 refine aK (collect_list hl ?_ (by rw[eF];omega))
 refine aK (wpAny_newList ?_ (by rw[eF];omega))
 have hsz:((s.heap.push (seqObj "list" #[] 0)).update s.heap.objs.size (Obj.mapSeq (· ++vs.toArray))).objs.size=s.heap.objs.size+1:=by
  rw[Heap.size_update,size_push']
 have hoL:(((s.heap.push (seqObj "list" #[] 0)).update s.heap.objs.size (Obj.mapSeq (· ++vs.toArray))).push (seqObj "list" vs.toArray 0)).get? (s.heap.objs.size+1)=some (seqObj "list" vs.toArray 0):=by
  rw[<-hsz];exact qp _ rfl
 have keep:∀b o,s.heap.get? b=some o->(((s.heap.push (seqObj "list" #[] 0)).update s.heap.objs.size (Obj.mapSeq (· ++vs.toArray))).push (seqObj "list" vs.toArray 0)).get? b=some o:=fun b o q=>by
  have hlt:b<s.heap.objs.size:=dw q
  rw[Heap.get?_push_ne _ _ _ (by rw[hsz];exact fU (Mr hlt)),Heap.get?_update_ne _ _ _ _ (fU hlt),Heap.get?_push_ne _ _ _ (fU hlt)]
  exact q
 have ne:∀b o,s.heap.get? b=some o->b≠s.heap.objs.size+1:=fun b o q=>fU (Mr (dw q))
 show wpAny _ _ _ _ _ {s with heap:=((s.heap.push (seqObj "list" #[] 0)).update s.heap.objs.size (Obj.mapSeq (· ++vs.toArray))).push (seqObj "list" vs.toArray 0)}
 rw[hsz]
 refine aK (M9 (UG slot_list_sort ⟨_,hoL,rfl⟩ entry_list_sort ?body (args_list_sort _)))
 case body=>
  refine zm (key:=key) (κ:=κ) (s:={s with heap:=((s.heap.push (seqObj "list" #[] 0)).update s.heap.objs.size (Obj.mapSeq (· ++vs.toArray))).push (seqObj "list" vs.toArray 0)}) hoL h64
   (fun h2 h' k Q hq=>hkind h2 h' (fun b o q=>k b o (ne b o q) (keep b o q)) _ Q hq) (fun h2 h' k=>V5 h2 h' fun b o q=>k b o (ne b o q) (keep b o q)) fun h' out c ho k hc=> ?_
  exact⟨_,rfl,bO ⟨_,rfl,h _ h' out c ho (Vl _) (fun b o q=>k b o (ne b o q) (keep b o q)) hc⟩⟩
end
end Cq
namespace HT
open PySem PyProof.Rows
theorem bF:∀(a b:List Int),lexLt a b=decide (a<b)
 |[],[]=>by simp[lexLt]
 |[],_::_=>by simp[lexLt]
 |_::_,[]=>by simp[lexLt]
 |x::xs,y::ys=>by
  rw[lexLt_cons,bF xs ys]
  by_cases e:x=y
  ·subst e;simp
  ·rw[bC e]
   by_cases l:x<y
   ·simp[l,yde]
   ·have:¬(x::xs<y::ys):=by rw[yde];simp[l,e]
    simp[l,this]
end HT
namespace Cq
open PySem PySem.W PyProof.Rows PySem.Calls
def lexOrd:KeyOrd where
 α:=List Int
 blt a b:=decide (a<b)
 irrefl a:=by simpa using List.lt_irrefl a
 trans a b c h1 h2:=by simp only[uN]at *;exact List.lt_trans h1 h2
 negTrans a b c h:=by
  simp only[uN]at *
  by_cases hab:a<b
  ·exact .inl hab
  ·exact .inr (List.lt_of_le_of_lt (Mh.mp hab) h)
 total a b h1 h2:=by simp only[wbt]at *;exact wep (Mh.mp h2) (Mh.mp h1)
section
variable{prog:Program}{w:World}{A:Around}{E:Value->Shared->Prop}{s:Shared}{Q:Bool->Shared->Prop}
theorem DQ{na nb:Nat}{xs ys:List Value}{ns ms:List Int}(i:Nat)(hx:IntsAre xs ns)(hy:IntsAre ys ms)(hl:ns.length+nb=ms.length+na)(h:Q (HT.lexLt ns ms) s):KatLex prog w A true (decide (na<nb)) Q (xs.zip ys) i s:=by
 induction hx generalizing ys ms i with
 |nil=>
  rw[List.zip_nil_left]
  refine kat_nil ?_
  cases hy with
  |nil=>
   rw[HT.lexLt_nil_nil]at h
   rw[gB (by simp only[Rt]at hl;omega)];exact h
  |cons c u hw=>
   rw[HT.lexLt_nil_cons]at h
   rw[cJ (by simp only[Rt,Mq]at hl;omega)];exact h
 |cons a t hv ih=>
  cases hy with
  |nil=>
   rw[List.zip_nil_right]
   refine kat_nil ?_
   rw[HT.lexLt_cons_nil]at h
   rw[gB (by simp only[Rt,Mq]at hl;omega)];exact h
  |cons c u hw=>
   rw[wdu]
   rw[HT.lexLt_cons]at h
   refine kat_cons (wpAny_eqBool_int ?_)
   refine kat_go (fun e=> ?_) fun e=> ?_
   ·have e':a=c:=by simpa using e
    rw[bD e']at h
    exact kat_yes (ih (i+1) hw (by simp only[Mq]at hl;omega) h)
   ·have e':a≠c:=by simpa using e
    rw[bC e']at h
    refine kat_no ?_
    cases i with
    |zero=>exact oneLt_int h
    |succ i=>exact kat_one _ _ (lt_int (show PySem.W.BoolBack Q (.bool (decide (a<c))) s from h))
end
theorem Jq{O:KeyOrd}{key:Nat->O.α}{α:Type}{vs out:List Value}{its:List α}{d:α}{f:α->O.α}{R:α->Value->Prop}(hR:Paired R its vs)(hk:∀i (hi:i<its.length),key i=f its[i])(h:TY key vs out):
  ∃its':List α,its'.Perm its/\Paired R its' out/\its'.Pairwise fun x y=>O.kle (f x) (f y):=by
 obtain⟨p,hp,hs,rfl⟩:=h
 have hl:=hR.length
 have get:∀{l₁:List α} {l₂:List Value} {i:Nat},Paired R l₁ l₂->(h:i<l₁.length)->∃v,l₂[i]? =some v/\R l₁[i] v:=by
  intro l₁ l₂ i q
  induction q generalizing i with
  |nil=>intro h;simp at h
  |cons r t ih=>
   intro h
   cases i with
   |zero=>exact⟨_,rfl,r⟩
   |succ i=>
    obtain⟨v,e,rv⟩:=ih (i:=i) (by simpa using h)
    exact⟨v,by simpa using e,by simpa using rv⟩
 have hlt:∀i∈p.toList,i<its.length:=fun i hi=>by
  have:=(ydi.mp hp.perm).mem_iff.mp hi
  rw[hl];simpa using this
 refine⟨p.toList.map fun i=>its.getD i d,?_,?_,?_⟩
 ·have q:=(ydi.mp hp.perm).map (fun i=>its.getD i d)
  refine q.trans ?_
  have e:(List.toArray (List.range vs.length)).toList.map (fun i=>its.getD i d)=its:=by
   rw[<-hl]
   apply List.ext_getElem?
   intro i
   simp only[gw]
   by_cases hi:i<its.length
   ·simp[hi]
   ·simp[hi]
  rw[e]
 ·have mk:∀l:List Nat,(∀i∈l,i<its.length)->Paired R (l.map fun i=>its.getD i d) (l.map fun i=>vs.getD i Value.none):=by
   intro l
   induction l with
   |nil=>intro _;exact .nil
   |cons i l ih=>
    intro hb
    refine .cons ?_ (ih fun j hj=>hb j (lZ _ hj))
    have hi:=hb i jl
    obtain⟨v,e,r⟩:=get hR hi
    have e1:its.getD i d=its[i]:=by simp[hi]
    have e2:vs.getD i Value.none=v:=by rw[zE,e];rfl
    show R (its.getD i d) (vs.getD i Value.none)
    rw[e1,e2];exact r
  exact mk _ hlt
 ·rw[Xv]
  intro i j hi hj hij
  simp only[aQ,Uy]at hi hj
  simp only[List.getElem_map]
  have hsz:=hp.size
  have q:=hs i j (by omega) (by omega)
  have e:∀k (hk':k<p.size),KN key p k=f (its.getD p.toList[k] d):=fun k hk'=>by
   have e1:p.getD k 0=p.toList[k]:=by simp[Array.getD,hk']
   have hb:=hlt p.toList[k] (yU _)
   have e2:its.getD p.toList[k] d=its[p.toList[k]]:=by simp only[zE,iY hb,weq]
   unfold KN
   rw[e1,e2]
   exact hk _ hb
  rw[e i hi,e j hj]at q
  exact q
end Cq
namespace L2
open PySem PySem.Spec PyProof.Rows PySem.W
section
variable{X:Cx}
theorem eU:CallR X (.builtin "sorted") (fun xs H Q=>∃(a:Addr) (its:List (Addr×List Int)),xs=[.ref a]/\SqL X.K H a (its.map fun p=>V.ref p.1)/\(∀p∈its,SqT X.K H p.1 (p.2.map V.int)/\p.2≠[])/\its.length<64/\
  ∀(l:Addr) (its':List (Addr×List Int)),H l=none->its'.Perm its->its'.Pairwise (fun p q=>HT.lexLt q.2 p.2=false)->Q (.ref l) (upd H l (.lst (its'.map fun p=>V.ref p.1)))):=by
 intro pins s σ H xs us Q I r h
 obtain⟨a,its,rfl,hS,hT,h64,q⟩:=h
 obtain⟨u,rfl,ru⟩:=r.one
 cases ru
 obtain⟨vs,rv,pl,hz⟩:=I.list hS
 have hlen:its.length=vs.length:=by have:=rv.length;simpa using this
 -- the values beside the tuples
 have pr:Paired (fun(p:Addr×List Int) (v:Value)=>v= .ref p.1) its vs:=by
  have go:∀(l:List (Addr×List Int)) (us:List Value),Vals (l.map fun p=>V.ref p.1) us->Paired (fun(p:Addr×List Int) (v:Value)=>v= .ref p.1) l us:=by
   intro l
   induction l with
   |nil=>intro us h;cases h;exact .nil
   |cons p l ih=>
    intro us h
    cases h with
    |cons r t=>exact .cons r (ih _ t)
  exact go its vs rv
 have tup:∀p∈its,∃(items:List Value),IntsAre items p.2/\IsTup s.heap p.1 items.toArray:=fun p hp=>by
  obtain⟨its',r',t',_⟩:=I.tuple (hT p hp).1
  exact⟨its',intsAre_of r',t'⟩
 refine Cq.vP (O:=Cq.lexOrd) (key:=fun i=>(its.getD i (0,[])).2) (κ:=tuples' true) (s:=s) pl.isList (by omega) (fun h2 h' k E' Q' hq=> ?_) (fun h2 h' k=> ?_) (fun D h' out c ho hD k hc=> ?_)
 ·have kt:∀(l:List (Addr×List Int)) (us:List Value),Paired (fun(p:Addr×List Int) (v:Value)=>v= .ref p.1) l us->(∀p∈l,p∈its)->∃fs:List Value,KatTups h' us fs/\fs.length=us.length/\∀v∈fs,∃i t,v=Value.int i t:=by
   intro l us h
   induction h with
   |nil=>intro _;exact⟨[],trivial,rfl,fun _ hv=>nomatch hv⟩
   | @cons p v l us r t ih=>
    intro hs
    obtain⟨fs,k1,k2,k3⟩:=ih fun p hp=>hs p (lZ _ hp)
    obtain⟨items,hi,o,e,hc,n,hd⟩:=tup p (hs p jl)
    have hne:=(hT p (hs p jl)).2
    obtain⟨pa,pn⟩:=p
    dsimp only at hi hne e r
    cases hi with
    |nil=>exact absurd rfl hne
    |cons i t hi'=>
     rw[r]
     refine⟨Value.int i t::fs,KatTups.cons (k _ _ e) hc hd (by simp) k1,by simp[k2],fun v hv=> ?_⟩
     rcases cT.mp hv with e|e
     ·exact⟨i,t,e⟩
     ·exact k3 v e
  obtain⟨fs,k1,k2,k3⟩:=kt its vs pr fun _ hp=>hp
  refine kat_kind (s:={s with heap:=h'}) (T:= .type "int") k1 (by omega) (fun v hv=> ?_) (by rfl) hq
  obtain⟨i,t,rfl⟩:=k3 v hv
  exact fun A Q E s _ q=>bO q
 ·intro i j C hi hj hC
  rw[<-hlen]at hi hj
  have get:∀i (hi:i<its.length),vs.getD i Value.none= .ref its[i].1:=by
   have go:∀(l:List (Addr×List Int)) (us:List Value),Paired (fun(p:Addr×List Int) (v:Value)=>v= .ref p.1) l us->∀i (hi:i<l.length),us.getD i Value.none= .ref l[i].1:=by
    intro l us h
    induction h with
    |nil=>intro i hi;simp at hi
    |cons r t ih=>
     intro i hi
     cases i with
     |zero=>exact r
     |succ i=>simpa using ih i (by simpa using hi)
   exact go its vs pr
  unfold kas_ask
  rw[get i hi,get j hj]
  obtain⟨xi,hxi,oi,ei,ci,ni,di⟩:=tup its[i] (yU _)
  obtain⟨xj,YB,oj,ej,cj,nj,dj⟩:=tup its[j] (yU _)
  refine kat_lt (s:={s with heap:=h'}) (k _ _ ei) di (k _ _ ej) dj ?_
  refine Cq.DQ 0 hxi YB ?_ ?_
  ·have:=hxi.length;have:=YB.length
   simp only[dW]
   omega
  ·rw[HT.bF]
   have e1:its.getD i (0,[])=its[i]:=by simp[hi]
   have e2:its.getD j (0,[])=its[j]:=by simp[hj]
   have hC':C (decide ((its.getD i (0,[])).2<(its.getD j (0,[])).2)) {s with heap:=h'}:=hC
   rw[e1,e2]at hC'
   exact hC'
 ·obtain⟨its',hp,hr,hw⟩:=Cq.Jq (d:=((0,[]):Addr×List Int)) (f:=fun p=>p.2) pr (fun i hi=>by show(its.getD i (0,[])).2=_;simp[hi]) ho
  have hn:H D=none:=I.hok.fresh hD
  have rv':Vals (its'.map fun p=>V.ref p.1) out:=by
   have go:∀(l:List (Addr×List Int)) (us:List Value),Paired (fun(p:Addr×List Int) (v:Value)=>v= .ref p.1) l us->Vals (l.map fun p=>V.ref p.1) us:=by
    intro l us h
    induction h with
    |nil=>exact .nil
    |cons r t ih=>exact .cons r ih
   exact go its' out hr
  have zl:(its'.map fun p=>V.ref p.1).length<=sizeLine:=by
   have:=hp.length_eq
   rw[aQ]
   exact Mi (small1000 (by omega))
  have J:Inv X pins σ (upd H D (.lst (its'.map fun p=>V.ref p.1))) {s with heap:=h',toks:=s.toks}:=I.laid k hD ⟨zl,out,c,rv',hc⟩
  refine⟨.ref D,_,J,rfl,q D its' hn hp (hw.imp fun{x y} hxy=> ?_)⟩
  rw[HT.bF];exact hxy
end
end L2
namespace L2
open PySem PySem.Spec PyProof.Rows
section
variable{X:Cx}
theorem yE:∀{bs:List Bool} {us:List Value},Vals (bs.map V.bl) us->us=bs.map Value.bool
 |[],_,h=>by cases h;rfl
 |b::bs,_,h=>by
  cases h with
  |cons r t=>rw[Fy,yE t];exact rH (· ::_) r
theorem ig(hc:X.calm=true):CallR X (.builtin "all") (fun xs H Q=>∃(a:Addr) (bs:List Bool),xs=[.ref a]/\SqL X.K H a (bs.map V.bl)/\Q (.bl (bs.all id)) H):=by
 intro pins s σ H xs us Q I r h
 obtain⟨a,bs,rfl,hS,q⟩:=h
 obtain⟨u,rfl,ru⟩:=r.one
 cases ru
 obtain⟨vs,rv,pl,hz⟩:=I.list hS
 have hv:=yE rv
 have hl:=pl.isList
 have hlt:a<s.heap.objs.size:=by obtain⟨_,e,_⟩:=hl;exact dw e
 refine call_all_walk (WR hl ?_)
 refine⟨s.heap.objs.size,[s.heap.objs.size,a],[s.heap.objs.size],vs.toArray.size,_,_,fun i=>(bs[i]?).getD true,rfl,wfi (A:=X.A.in1) (I.ok.hd hc) _ a (fU hlt) vs.toArray,
  ⟨⟨_,qp _ rfl,rfl,rfl⟩,hl.push _⟩,fun i v s' Q' E' hP hQ=> ?_,fun h' tk hk=> ?_⟩
 ·have hP':vs[i]? =some v:=by simpa using hP
  rw[hv,gw]at hP'
  cases e:bs[i]? with
  |none=>rw[e]at hP';cases hP'
  |some b=>
   rw[e]at hP'
   cases hP'
   simp only[e,weq]at hQ
   exact Nf hQ
 ·have e:((List.range vs.toArray.size).all fun i=>(bs[i]?).getD true)=bs.all id:=by
   rw[dW,hv,aQ];exact LSm.range_all bs
  rw[e]
  exact⟨.bl _,H,I.kept (LSm.kept_iter hk),rfl,q⟩
theorem QB(hc:X.calm=true):CallR X (.builtin "any") (fun xs H Q=>∃(a:Addr) (bs:List Bool),xs=[.ref a]/\SqL X.K H a (bs.map V.bl)/\Q (.bl (bs.any id)) H):=by
 intro pins s σ H xs us Q I r h
 obtain⟨a,bs,rfl,hS,q⟩:=h
 obtain⟨u,rfl,ru⟩:=r.one
 cases ru
 obtain⟨vs,rv,pl,hz⟩:=I.list hS
 have hv:=yE rv
 have hl:=pl.isList
 have hlt:a<s.heap.objs.size:=by obtain⟨_,e,_⟩:=hl;exact dw e
 refine call_any_walk (WR hl ?_)
 refine⟨s.heap.objs.size,[s.heap.objs.size,a],[s.heap.objs.size],vs.toArray.size,_,_,fun i=>(bs[i]?).getD false,rfl,wfi (A:=X.A.in1) (I.ok.hd hc) _ a (fU hlt) vs.toArray,
  ⟨⟨_,qp _ rfl,rfl,rfl⟩,hl.push _⟩,fun i v s' Q' E' hP hQ=> ?_,fun h' tk hk=> ?_⟩
 ·have hP':vs[i]? =some v:=by simpa using hP
  rw[hv,gw]at hP'
  cases e:bs[i]? with
  |none=>rw[e]at hP';cases hP'
  |some b=>
   rw[e]at hP'
   cases hP'
   simp only[e,weq]at hQ
   exact Nf hQ
 ·have e:((List.range vs.toArray.size).any fun i=>(bs[i]?).getD false)=bs.any id:=by
   rw[dW,hv,aQ];exact LSm.range_any bs
  rw[e]
  exact⟨.bl _,H,I.kept (LSm.kept_iter hk),rfl,q⟩
def Vh(K:W.Frag)(H:Hp):V->String->Prop
 | .non,T=>T="NoneType"
 | .bl _,T=>T="bool"
 | .int _,T=>T="int"
 | .str _,T=>T="str"
 | .ref a,T=>(T="tuple"/\∃xs,SqT K H a xs)\/(T="list"/\∃xs,SqL K H a xs)\/(T="dict"/\∃kvs,H a=some (.dK kvs))
 |_,_=>False
def Hy(T C:String):Bool:=T==C||(T=="bool"&&C=="int")
theorem fM:CallR X (.builtin "isinstance") (fun xs H Q=>∃(x:V) (T C:String),xs=[x,.ty C]/\Vh X.K H x T/\(C="int"\/C="bool"\/C="tuple"\/C="list")/\Q (.bl (Hy T C)) H):=by
 intro pins s σ H xs us Q I r h
 obtain⟨x,T,C,rfl,hk,hC,q⟩:=h
 obtain⟨u,v,rfl,ru,rv⟩:=r.two
 cases rv
 have Qn:∀b,b=Hy T C->EP X pins σ Q (.bool b) s:=fun b e=>⟨.bl b,H,I,rfl,by rw[e];exact q⟩
 have fL:∀b,b=Hy T C->EP X pins σ Q (.bool b) {s with toks:=s.toks+1}:=fun b e=>⟨.bl b,H,I.tok _,rfl,by rw[e];exact q⟩
 cases x with
 |non=>
  cases ru;cases hk
  rcases hC with rfl|rfl|rfl|rfl
  ·exact IsiPair.NoneType_int (fL _ rfl)
  ·exact IsiPair.NoneType_bool (fL _ rfl)
  ·exact IsiPair.NoneType_tuple (fL _ rfl)
  ·exact IsiPair.NoneType_list (fL _ rfl)
 |bl b=>
  cases ru;cases hk
  rcases hC with rfl|rfl|rfl|rfl
  ·exact IsiPair.bool_int (Qn _ rfl)
  ·exact IsiPair.bool_bool (Qn _ rfl)
  ·exact IsiPair.bool_tuple (fL _ rfl)
  ·exact IsiPair.bool_list (fL _ rfl)
 |int i=>
  obtain⟨t,rfl⟩:=ru;cases hk
  rcases hC with rfl|rfl|rfl|rfl
  ·exact IsiPair.int_int (Qn _ rfl)
  ·exact IsiPair.int_bool (fL _ rfl)
  ·exact IsiPair.int_tuple (fL _ rfl)
  ·exact IsiPair.int_list (fL _ rfl)
 |str z=>
  obtain⟨t,rfl⟩:=ru;cases hk
  rcases hC with rfl|rfl|rfl|rfl
  ·exact IsiPair.str_int (fL _ rfl)
  ·exact IsiPair.str_bool (fL _ rfl)
  ·exact IsiPair.str_tuple (fL _ rfl)
  ·exact IsiPair.str_list (fL _ rfl)
 |ref a=>
  cases ru
  rcases hk with⟨rfl,xs,hS⟩|⟨rfl,xs,hS⟩|⟨rfl,kvs,hS⟩
  ·obtain⟨its,_,⟨o,e,c,n,d⟩,_⟩:=I.tuple hS
   rcases hC with rfl|rfl|rfl|rfl
   ·exact IsiPair.tuple_int e c (fL _ rfl)
   ·exact IsiPair.tuple_bool e c (fL _ rfl)
   ·exact IsiPair.tuple_tuple e c (Qn _ rfl)
   ·exact IsiPair.tuple_list e c (fL _ rfl)
  ·obtain⟨its,_,⟨o,n,e,c,d,_⟩,_⟩:=I.list hS
   rcases hC with rfl|rfl|rfl|rfl
   ·exact IsiPair.list_int e c (fL _ rfl)
   ·exact IsiPair.list_bool e c (fL _ rfl)
   ·exact IsiPair.list_tuple e c (fL _ rfl)
   ·exact IsiPair.list_list e c (Qn _ rfl)
  ·obtain⟨_,_,vs,_,o,es,ep,e,c,_⟩:=I.hok a _ hS
   have c':o.cls= .type "dict":=c.1
   rcases hC with rfl|rfl|rfl|rfl
   ·exact IsiPair.dict_int e c' (fL _ rfl)
   ·exact IsiPair.dict_bool e c' (fL _ rfl)
   ·exact IsiPair.dict_tuple e c' (fL _ rfl)
   ·exact IsiPair.dict_list e c' (fL _ rfl)
 |_=>exact hk.elim
end
mutual
inductive DV(K:W.Frag)(H:Hp):V->PyData->Prop
 |non:DV K H .non .none
 |bl (b:Bool):DV K H (.bl b) (.bool b)
 |int (i:Int):DV K H (.int i) (.int i)
 |str (x:Str):DV K H (.str x) (.str x)
 |tup {a:Addr} {xs:List V} {ds:List PyData} (h:SqT K H a xs) (t:bL K H xs ds):DV K H (.ref a) (.tuple ds)
 |lst {a:Addr} {xs:List V} {ds:List PyData} (h:SqL K H a xs) (t:bL K H xs ds):DV K H (.ref a) (.list ds)
 |dc0 {a:Addr} (h:H a=some (.dK [])):DV K H (.ref a) (.dict [])
 |dc1 {a b:Addr} {i:Int} (h:H a=some (.dK [(Sum.inl i,.ref b)])) (t:SqT K H b []):DV K H (.ref a) (.dict [(.int i,.tuple [])])
inductive bL(K:W.Frag)(H:Hp):List V->List PyData->Prop
 |nil:bL K H [] []
 |cons {x:V} {d:PyData} {xs:List V} {ds:List PyData} (h:DV K H x d) (t:bL K H xs ds):bL K H (x::xs) (d::ds)
end
theorem Same.tup{K:W.Frag}{H H':Hp}{a:Addr}{xs:List V}(e:Same H H')(h:SqT K H a xs):SqT K H' a xs:=by
 rcases h with(h|⟨o,h⟩)|h
 ·exact .inl (.inl (e _ _ h))
 ·exact .inl (.inr ⟨o,e _ _ h⟩)
 ·exact .inr h
theorem bL.same{K:W.Frag}{H H':Hp}(e:Same H H'){xs:List V}{ds:List PyData}(h:bL K H xs ds):bL K H' xs ds:=
 bL.rec (motive_1:=fun x d _=>DV K H' x d) (motive_2:=fun xs ds _=>bL K H' xs ds) .non (fun b=> .bl b) (fun i=> .int i) (fun x=> .str x) (fun h _ t=> .tup (e.tup h) t) (fun h _ t=> .lst (e.seq h) t) (fun h=> .dc0 (e _ _ h)) (fun h t=> .dc1 (e _ _ h) (e.tup t)) .nil (fun _ _ h t=> .cons h t) h
theorem Ko{P:Program}{w:World}{es:List DictEntry}(h:Pairs (mixKind P w) es []):es=[]:=by
 cases h;rfl
theorem Km{P:Program}{w:World}{es:List DictEntry}{k:Key}{u:Value}(h:Pairs (mixKind P w) es [(k,u)]):∃e,es=[e]/\keyIs k e.key=true/\e.val=u:=by
 cases h with
 |cons h1 h2 h3=>
  cases h3
  exact⟨_,rfl,h1,h2⟩
section
variable{X:Cx}{pins:List (Addr×Obj)}{σ:St}{H:Hp}{s:Shared}
theorem Lp(I:Inv X pins σ H s){a:Addr}(h:H a=some (.dK [])):Reads s.heap (.ref a) (.dict []) (a::[]++[])/\(a==sysModules)=false:=by
 obtain⟨_,hne,vs,r0,o,es,ep,e,c,d,_,pr,_⟩:=I.hok _ _ h
 cases r0
 have hes:es.toList=[]:=Ko pr
 refine⟨.dict (kvs:=[]) (as:=[]) (bs:=[]) e c.1 d ?_ ?_,hne⟩
 ·rw[hes];exact .nil
 ·rw[hes];exact .nil
theorem Ln(I:Inv X pins σ H s){a b:Addr}{i:Int}(h:H a=some (.dK [(Sum.inl i,.ref b)]))(t:SqT X.K H b []):Reads s.heap (.ref a) (.dict [(.int i,.tuple [])]) (a::([]++[])++([]++[]))/\(a==sysModules)=false:=by
 obtain⟨_,hne,vs,r0,o,es,ep,e,c,d,_,pr,_⟩:=I.hok _ _ h
 obtain⟨its,rv,⟨o2,e2,c2,n2,d2⟩,_⟩:=I.tuple t
 cases rv
 cases r0 with
 | @cons p q ps qs hq tl=>
  cases tl
  obtain⟨en,he,hk,hv⟩:=Km pr
  obtain⟨k,u⟩:=q
  dsimp only at hq
  obtain⟨hk1,hu1⟩:=hq
  subst hk1
  cases hu1
  obtain⟨tk,ek⟩:∃tk,en.key=Value.int i tk:=by
   rcases MK hk with⟨i',t',e3,e4⟩|⟨x,t',e3,e4⟩
   ·cases e3;exact⟨t',e4⟩
   ·cases e3
  refine⟨.dict (kvs:=[(.int i,.tuple [])]) (as:=[]++[]) (bs:=[]++[]) e c.1 d ?_ ?_,hne⟩
  ·rw[he]
   show ReadsAll s.heap [en.key] [PyData.int i] _
   rw[ek]
   exact .cons (.int i tk) .nil
  ·rw[he]
   show ReadsAll s.heap [en.val] [PyData.tuple []] _
   rw[hv]
   exact .cons (.tuple e2 c2 d2 .nil) .nil
end
section
variable{X:Cx}{pins:List (Addr×Obj)}{σ:St}{H:Hp}{s:Shared}
theorem J9(I:Inv X pins σ H s){a:Addr}{xs:List V}{ds:List PyData}(h:SqT X.K H a xs)(t:∀{us:List Value},Vals xs us->∃as,ReadsAll s.heap us ds as){u:Value}(r:RelV (.ref a) u):∃as,Reads s.heap u (.tuple ds) as:=by
 cases r
 obtain⟨its,rv,⟨o,e,c,n,d⟩,_⟩:=I.tuple h
 obtain⟨as,ra⟩:=t rv
 exact⟨_,.tuple e c d (by simpa using ra)⟩
theorem Ka(I:Inv X pins σ H s){a:Addr}{xs:List V}{ds:List PyData}(h:SqL X.K H a xs)(t:∀{us:List Value},Vals xs us->∃as,ReadsAll s.heap us ds as){u:Value}(r:RelV (.ref a) u):∃as,Reads s.heap u (.list ds) as:=by
 cases r
 obtain⟨its,rv,⟨o,n,e,c,_,d⟩,_⟩:=I.list h
 obtain⟨as,ra⟩:=t rv
 exact⟨_,.list e c d (by simpa using ra)⟩
theorem DV.reads(I:Inv X pins σ H s){x:V}{d:PyData}{u:Value}(h:DV X.K H x d)(r:RelV x u):∃as,Reads s.heap u d as:=
 DV.rec (motive_1:=fun x d _=>∀{u:Value},RelV x u->∃as,Reads s.heap u d as) (motive_2:=fun xs ds _=>∀{us:List Value},Vals xs us->∃as,ReadsAll s.heap us ds as)
  (fun r=>by cases r;exact⟨_,.none⟩) (fun b _ r=>by cases r;exact⟨_,.bool b⟩) (fun i _ r=>by obtain⟨t,rfl⟩:=r;exact⟨_,.int i t⟩) (fun x _ r=>by obtain⟨t,rfl⟩:=r;exact⟨_,.str x t⟩)
  (fun h _ t _ r=>J9 I h t r) (fun h _ t _ r=>Ka I h t r) (fun h _ r=>by cases r;exact⟨_,(Lp I h).1⟩) (fun h t _ r=>by cases r;exact⟨_,(Ln I h t).1⟩)
  (fun r=>by cases r;exact⟨_,.nil⟩) (fun _ _ h t _ r=>by
   cases r with
   |cons r rr=>
    obtain⟨as,ra⟩:=h r
    obtain⟨bs,rb⟩:=t rr
    exact⟨_,.cons ra rb⟩) h r
theorem bL.reads(I:Inv X pins σ H s){xs:List V}{ds:List PyData}{us:List Value}(h:bL X.K H xs ds)(r:Vals xs us):∃as,ReadsAll s.heap us ds as:=
 bL.rec (motive_1:=fun _ _ _=>True) (motive_2:=fun xs ds _=>∀{us:List Value},Vals xs us->∃as,ReadsAll s.heap us ds as) trivial (fun _=>trivial) (fun _=>trivial) (fun _=>trivial) (fun _ _ _=>trivial) (fun _ _ _=>trivial) (fun _=>trivial) (fun _ _=>trivial)
  (fun r=>by cases r;exact⟨_,.nil⟩) (fun h _ _ t _ r=>by
   cases r with
   |cons r rr=>
    obtain⟨as,ra⟩:=DV.reads I h r
    obtain⟨bs,rb⟩:=t rr
    exact⟨_,.cons ra rb⟩) h r
end
mutual
def noL:PyData->Bool
 | .list _=>false
 | .tuple ds=>Yl ds
 |_=>true
def Yl:List PyData->Bool
 |[]=>true
 |d::ds=>noL d&&Yl ds
end
section
variable{X:Cx}{pins:List (Addr×Obj)}{σ:St}{H:Hp}{s:Shared}
end
theorem bL.ints{K:W.Frag}{H:Hp}:∀(ns:List Int),bL K H (ns.map V.int) (ns.map PyData.int)
 |[]=> .nil
 |n::ns=> .cons (.int n) (bL.ints ns)
theorem bL.len{K:W.Frag}{H:Hp}{xs:List V}{ds:List PyData}(h:bL K H xs ds):xs.length=ds.length:=
 bL.rec (motive_1:=fun _ _ _=>True) (motive_2:=fun xs ds _=>xs.length=ds.length) trivial (fun _=>trivial) (fun _=>trivial) (fun _=>trivial) (fun _ _ _=>trivial) (fun _ _ _=>trivial) (fun _=>trivial) (fun _ _=>trivial) rfl (fun _ _ _ t=>rH Nat.succ t) h
section
variable{X:Cx}
theorem Gy(hu:X.A.units+64<cLine):OpR X (compareOp .Eq) (fun x y H Q=>∃da db,DV X.K H x da/\DV X.K H y db/\da.canLay0=true/\db.canLay0=true/\min da.depth db.depth<=64/\Q (.bl (PyData.eqv da db)) H):=by
 intro pins s σ H x y v u Q I rx ry h
 obtain⟨da,db,hx,hy,ca,cb,hd,q⟩:=h
 obtain⟨as,ra⟩:=DV.reads I hx rx
 obtain⟨bs,rb⟩:=DV.reads I hy ry
 exact SeqAt.rcAt_reads ra rb ca cb (by omega) _ _ _ _ ⟨.bl _,H,I,rfl,q⟩
theorem cX(hu:X.A.units+64<cLine):OpR X (compareOp .NotEq) (fun x y H Q=>∃da db,DV X.K H x da/\DV X.K H y db/\da.canLay0=true/\db.canLay0=true/\min da.depth db.depth<=64/\Q (.bl (!PyData.eqv da db)) H):=by
 intro pins s σ H x y v u Q I rx ry h
 obtain⟨da,db,hx,hy,ca,cb,hd,q⟩:=h
 obtain⟨as,ra⟩:=DV.reads I hx rx
 obtain⟨bs,rb⟩:=DV.reads I hy ry
 exact SeqAt.rcNeAt_reads ra rb ca cb (by omega) _ _ _ _ ⟨.bl _,H,I,rfl,q⟩
theorem Ij:∀{ds:List PyData},PyData.canLayAll0 ds=true->∀d∈ds,d.canLay0=true
 |[],_,d,h=>nomatch h
 |e::ds,h,d,hd=>by
  have h':(e.canLay0&&PyData.canLayAll0 ds)=true:=h
  rw[qt]at h'
  rcases cT.mp hd with rfl|hd
  ·exact h'.1
  ·exact Ij h'.2 d hd
open Classical in
theorem Ox(hu:X.A.units+64<cLine):OpR X (compareOp .In) (fun x y H Q=>∃(p:Addr) (xs:List V) (ds:List PyData) (dx:PyData),y= .ref p/\(SqL X.K H p xs\/SqT X.K H p xs)/\bL X.K H xs ds/\DV X.K H x dx/\PyData.canLayAll0 ds=true/\dx.canLay0=true/\dx.depth<=60/\
  Q (.bl (ds.any fun d=>PyData.eqv d dx)) H):=by
 intro pins s σ H x y v u Q I rx ry h
 obtain⟨p,xs,ds,dx,rfl,hq,hds,hx,ca,cb,hd,q⟩:=h
 cases ry
 obtain⟨bs,rb⟩:=DV.reads I hx rx
 have key:∀{its:List Value},Vals xs its->(∀y∈its,SeqAt.EqAt X.A.in1 s y v (decide (∃d as,Reads s.heap y d as/\d∈ds/\PyData.eqv d dx=true)))/\(its.any fun y=>decide (∃d as,Reads s.heap y d as/\d∈ds/\PyData.eqv d dx=true))=ds.any fun d=>PyData.eqv d dx:=by
  intro its rv
  obtain⟨as,ra⟩:=bL.reads I hds rv
  have each:∀{us:List Value} {es:List PyData} {as:List Addr},ReadsAll s.heap us es as->(∀e∈es,e∈ds)->(∀y∈us,SeqAt.EqAt X.A.in1 s y v (decide (∃d as,Reads s.heap y d as/\d∈ds/\PyData.eqv d dx=true)))/\(us.any fun y=>decide (∃d as,Reads s.heap y d as/\d∈ds/\PyData.eqv d dx=true))=es.any fun d=>PyData.eqv d dx:=by
   intro us
   induction us with
   |nil=>intro es as h _;cases h;exact⟨(fun y hy=>(nomatch hy)),rfl⟩
   |cons y us ih=>
    intro es as h hs
    cases h with
    | @cons _ _ d ds' as' bs' r rr=>
     obtain⟨i1,i2⟩:=ih rr fun e he=>hs e (lZ _ he)
     have cl:=Ij ca d (hs d jl)
     have e:decide (∃d as,Reads s.heap y d as/\d∈ds/\PyData.eqv d dx=true)=PyData.eqv d dx:=by
      rw[vA,uN]
      constructor
      ·rintro⟨d',as'',r',_,q'⟩
       obtain⟨rfl,_⟩:=(PySem.Reads.unique r _ _ r')
       exact q'
      ·intro q'
       exact⟨d,_,r,hs d jl,q'⟩
     refine⟨fun z hz=> ?_,?_⟩
     ·rcases cT.mp hz with rfl|hz
      ·rw[e]
       exact SeqAt.eqAt_reads d dx _ s _ _ _ _ r rb cl cb (by show X.A.units+1+min d.depth dx.depth<cLine;omega)
      ·exact i1 z hz
     ·rw[Uu,Uu,i2,e]
  exact each ra fun e he=>he
 rcases hq with hq|hq
 ·obtain⟨its,r,pl,hz⟩:=I.list hq
  obtain⟨k1,k2⟩:=key r
  refine SeqAt.in_listAt _ pl.isList (fun w hw=>k1 w (by simpa using hw)) ⟨.bl _,H,I,rfl,?_⟩
  rw[show∀f:Value->Bool,its.toArray.any f=its.any f from fun f=>by simp,k2]
  exact q
 ·obtain⟨its,r,pl,hz⟩:=I.tuple hq
  obtain⟨k1,k2⟩:=key r
  refine SeqAt.in_tupleAt _ pl (fun w hw=>k1 w (by simpa using hw)) ⟨.bl _,H,I,rfl,?_⟩
  rw[show∀f:Value->Bool,its.toArray.any f=its.any f from fun f=>by simp,k2]
  exact q
end
end L2
namespace HT
open PySem PyProof.Rows
section
open PySem.SeqAt
open PySem.AutoSeq1 (wpAny_loadPart')
open PySem.MeetsSeq PySem.MeetsSeq2 PySem.MeetsSeq3
end
section
variable{prog:Program}{w:World}{A:Around}{E:Value->Shared->Prop}{s:Shared}
theorem mF{t sl:Addr}{items:Array Value}{vl vu:Value}{lo hi:Option Int}{Q:Value->Shared->Prop}(ht:IsTup s.heap t items)(hs:s.heap.IsSliceOf sl vl vu .none)(pl:IsPart vl lo)(pu:IsPart vu hi)(hw:sIx items.size 0 lo=0/\sIx items.size items.size hi=items.size)(h:Q (.ref t) s):wpAny (model prog w) A (getItem (.ref t) (.ref sl)) Q E s:=by
 obtain⟨os,hos,hcs,hds⟩:=id hs
 have hTs:s.TypeIs (.ref sl) "slice":=⟨os,hos,hcs⟩
 unfold getItem
 try with_reducible refine M9 ?_
 first |refine aK (bO ?_)|skip
 refine aK (wpAny_sequenceKey ht.typeIs (by decide) ?_)
 refine aK (WX (name:=Str.ofString "__getitem__") ht.typeIs wbb
  (UG wbb ht.typeIs entry_tuple_getitem ?_ (args_tuple_getitem _ _)))
 show wpAny _ _ (Builtin.Tuple.tupleItemsOf (.ref t)>>=_) _ _ s
 refine aK (tupleItemsOf_ ht ?_)
 refine aK (WK hTs ?_)
 rw[bD (by decide)]
 refine aK (sliceApplied_gen hs pl pu ?_)
 have hyes:((((sIx items.size 0 lo:Nat):Int)==0&&(1:Int)==1&&(sIx items.size items.size hi-sIx items.size 0 lo)==items.size)=true):=by
  rw[hw.1,hw.2];simp
 show wpAny _ _ (if(((sIx items.size 0 lo:Nat):Int)==0&&(1:Int)==1&&(sIx items.size items.size hi-sIx items.size 0 lo)==items.size)=true then _ else _) _ _ s
 rw[bD hyes]
 obtain⟨o,ho,hc,n,hd⟩:=id ht
 refine aK ?_
 show wpAny _ _ (Builtin.Tuple.tupleIsExact (.ref t)) _ _ s
 unfold Builtin.Tuple.tupleIsExact
 refine aK (WK ht.typeIs ?_)
 refine bO ?_
 rw[bD (by decide)]
 first
  |exact aK (Vr (aK (bO ⟨_,rfl,bO h⟩)))
  |exact aK (Vr (bO ⟨_,rfl,bO h⟩))
  |exact aK (Vr (aK (bO (bO ⟨_,rfl,bO h⟩))))
  |(trace_state;exact aK (aK (Vr (bO ⟨_,rfl,bO h⟩))))
end
end HT
namespace L2
open PySem PySem.Spec PyProof.Rows
section
variable{X:Cx}
theorem Ow:OpR X (compareOp .Is) (fun x y H Q=>∃a b,x= .bl a/\y= .bl b/\Q (.bl (a==b)) H):=by
 intro pins s σ H x y v u Q I rx ry h
 obtain⟨a,b,rfl,rfl,q⟩:=h
 cases rx;cases ry
 exact is_bool ⟨.bl _,H,I,rfl,q⟩
theorem Kr:OpR X (compareOp .IsNot) (fun x y H Q=>∃a b,x= .bl a/\y= .bl b/\Q (.bl (a !=b)) H):=by
 intro pins s σ H x y v u Q I rx ry h
 obtain⟨a,b,rfl,rfl,q⟩:=h
 cases rx;cases ry
 exact isnot_bool ⟨.bl _,H,I,rfl,q⟩
theorem Dy:OpR X (binaryOp .FloorDiv) (rI (fun _ j=>0<j/\j<1000000000000000000000000000000) fun i j=> .int (i/j)):=opI fun i j _ _ _ _ _ hc q=>by
 have h1:(0:Int)<j:=hc.1
 have h2:j<1000000000000000000000000000000:=hc.2
 refine floordiv_int (by omega) ?_ (Or.inl (PyProof.noPylong_of_log2 ?_))
 ·rw[wds _ (by omega)]
  exact q
 ·have h3:j.natAbs≠0:=by omega
  have h4:j.natAbs<2^100:=by
   have:(2:Nat)^100=1267650600228229401496703205376:=by decide
   omega
  have:=(Nat.log2_lt h3).mpr h4
  omega
def U5(K:W.Frag):R2:=fun x y H Q=>∃a b xs ys,x= .ref a/\y= .ref b/\SqT K H a xs/\SqT K H b ys/\xs.length+ys.length<=sizeLine/\∀r H',Same H H'->SqT K H' r (xs++ys)->Q (.ref r) H'
theorem RZ:OpR X (binaryOp .Add) (U5 X.K):=by
 intro pins s σ H x y v u Q I rx ry h
 obtain⟨a,b,xs,ys,rfl,rfl,ha,hb,hz,q⟩:=h
 by_cases hx:xs=[]
 ·subst hx
  cases rx
  cases ry
  obtain⟨its,r1,p1,_⟩:=I.tuple ha
  obtain⟨its2,r2,p2,_⟩:=I.tuple hb
  cases r1
  obtain⟨⟨cls,dd,data,sl⟩,ho,hc,n,hd⟩:=id p1
  obtain⟨⟨cls2,dd2,data2,sl2⟩,ho2,hc2,n2,hd2⟩:=id p2
  simp only at hc hd hc2 hd2
  subst hc hd hc2 hd2
  exact wex ⟨_,ho,rfl⟩ ⟨_,ho2,rfl⟩ weo seq_tuple_add wco wci (wce _ _)
   (tuple_addW0 a b _ _ n n2 dd dd2 sl sl2 (by simp)) ⟨ho,ho2,⟨.ref b,H,I,rfl,q b H (Same.refl _) hb⟩⟩
 ·refine op_catT pins s σ H _ _ v u Q I rx ry ⟨a,b,xs,ys,rfl,rfl,ha,hb,hx,hz,fun e=> ?_,fun e p hp=> ?_⟩
  ·subst e
   exact q a H (Same.refl _) (by rw[uU];exact ha)
  ·exact q p _ (fun c o e=>by rw[dX (Cz e hp)];exact e) (SqT.of aM)
def Yh(K:W.Frag):V->Option Int->Option Int->Hp->VK->Prop:=fun x lo hi H Q=>∃a xs,x= .ref a/\SqT K H a xs/\∀r H',Same H H'->SqT K H' r (cutV xs lo hi)->Q (.ref r) H'
theorem RL:SlR X (Yh X.K):=by
 intro pins s σ H x v vl vu lo hi sl Q I rx hs pl pu h
 obtain⟨a,xs,rfl,hx,q⟩:=h
 by_cases hw:HT.sIx xs.length 0 lo=0/\HT.sIx xs.length xs.length hi=xs.length
 ·cases rx
  obtain⟨its,r,ht,hz⟩:=I.tuple hx
  have hlen:its.toArray.size=xs.length:=by rw[dW];exact r.length.symm
  refine⟨"tuple",_,PyProof.Rows.slot_tuple_getitem.lookup,ht.typeIs,?_⟩
  refine HT.mF ht hs pl pu (by rw[hlen];exact hw) ⟨.ref a,H,I,rfl,q a H (Same.refl _) ?_⟩
  have e:cutV xs lo hi=xs:=by
   unfold cutV
   rw[hw.1,hw.2]
   simp
  rw[e];exact hx
 ·exact sl_tup pins s σ H _ v vl vu lo hi sl Q I rx hs pl pu ⟨a,xs,rfl,hx,hw,fun p hp=>q p _ (fun c o e=>by rw[dX (Cz e hp)];exact e) (SqT.of aM)⟩
end
end L2
namespace HT
open PySem PySem.Calls PySem.Spec PyProof.Rows PySem.W
section
variable{prog:Program}{w:World}{A:Around}{E:Value->Shared->Prop}{s:Shared}
end
end HT
namespace L2
open PySem PySem.Spec PyProof.Rows
section
variable{X:Cx}{e m:Expr}{te:TE}{tm:TO}{pos p2:Pos}
end
section
variable{X:Cx}{tg:Expr}
def PN(K:W.Frag)(tl:TE):TI:=fun σ H R=>tl σ H fun x H1=>∃a xs,x= .ref a/\SqL K H1 a xs/\(xs.length<=sizeLine->R (Itl K a) H1)
def Yx(K:W.Frag)(tl:TE):TI:=fun σ H R=>tl σ H fun x H1=>∃a xs,x= .ref a/\SqT K H1 a xs/\(xs.length<=sizeLine->R (Itt K a) H1)
theorem Mf{l:Expr}{tl:TE}(hl:PE X l tl):PI X tg l (PN X.K tl):=by
 intro pins s σ H R I h
 refine thn (hl pins s σ H _ I h) fun v s1 ⟨x,H1,I1,r1,q1⟩=> ?_
 obtain⟨a,xs,e,hq,q⟩:=q1
 subst e
 cases r1
 obtain⟨its,rv,p,hz⟩:=I1.list hq
 refine WR p.isList ?_
 refine⟨s1.heap.objs.size,[s1.heap.objs.size],_,_,H1,rfl,I1.kept (t':=s1.toks) fun b o e=>fV _ e,turn_list a _,⟨_,qp _ rfl,rfl,rfl⟩,fun b hb=> ?_,q hz⟩
 have e:b=s1.heap.objs.size:=by simpa using hb
 subst e
 exact I1.fpOk (bx _) (I1.hok.fresh (bx _))
theorem dI{l:Expr}{tl:TE}(hl:PE X l tl):PI X tg l (Yx X.K tl):=by
 intro pins s σ H R I h
 refine thn (hl pins s σ H _ I h) fun v s1 ⟨x,H1,I1,r1,q1⟩=> ?_
 obtain⟨a,xs,e,hq,q⟩:=q1
 subst e
 cases r1
 obtain⟨its,rv,p,hz⟩:=I1.tuple hq
 refine WW (show s1.heap.IsTuple a its.toArray from p) ?_
 refine⟨s1.heap.objs.size,[s1.heap.objs.size],_,_,H1,rfl,I1.kept (t':=s1.toks) fun b o e=>fV _ e,turn_tuple a _,⟨_,qp _ rfl,rfl,rfl⟩,fun b hb=> ?_,q hz⟩
 have e:b=s1.heap.objs.size:=by simpa using hb
 subst e
 exact I1.fpOk (bx _) (I1.hok.fresh (bx _))
theorem zB:CallR X (.builtin "len") (fun xs H Q=>∃p ys,xs=[.ref p]/\(SqL X.K H p ys\/SqT X.K H p ys)/\(ys.length<=16777216->Q (.int ys.length) H)):=by
 intro pins s σ H xs us Q I r h
 obtain⟨p,ys,rfl,hq,q⟩:=h
 have hz:ys.length<=16777216:=by
  rw[<-eF]
  rcases hq with hq|hq
  ·exact(I.list hq).choose_spec.2.2
  ·exact(I.tuple hq).choose_spec.2.2
 exact call_len_seq pins s σ H _ us Q I r ⟨p,ys,rfl,hq,q hz⟩
end
mutual
inductive DX(K:W.Frag)(H:Hp):V->PyData->Prop
 |non:DX K H .non .none
 |bl (b:Bool):DX K H (.bl b) (.bool b)
 |int (i:Int):DX K H (.int i) (.int i)
 |str (x:Str):DX K H (.str x) (.str x)
 |tup {a:Addr} {xs:List V} {ds:List PyData} (h:SqT K H a xs) (t:uM K H xs ds):DX K H (.ref a) (.tuple ds)
 |lst {a:Addr} {xs:List V} {ds:List PyData} (h:SqL K H a xs) (t:uM K H xs ds):DX K H (.ref a) (.list ds)
 |dct {a:Addr} {kvs:List (Key×V)} (ds:List (PyData×PyData)) (h:H a=some (.dK kvs)):DX K H (.ref a) (.dict ds)
inductive uM(K:W.Frag)(H:Hp):List V->List PyData->Prop
 |nil:uM K H [] []
 |cons {x:V} {d:PyData} {xs:List V} {ds:List PyData} (h:DX K H x d) (t:uM K H xs ds):uM K H (x::xs) (d::ds)
end
theorem DX.same{K:W.Frag}{H H':Hp}(e:Same H H'){x:V}{d:PyData}(h:DX K H x d):DX K H' x d:=
 DX.rec (motive_1:=fun x d _=>DX K H' x d) (motive_2:=fun xs ds _=>uM K H' xs ds) .non (fun b=> .bl b) (fun i=> .int i) (fun x=> .str x) (fun h _ t=> .tup (e.tup h) t) (fun h _ t=> .lst (e.seq h) t) (fun ds h=> .dct ds (e _ _ h)) .nil (fun _ _ h t=> .cons h t) h
theorem uM.same{K:W.Frag}{H H':Hp}(e:Same H H'){xs:List V}{ds:List PyData}(h:uM K H xs ds):uM K H' xs ds:=
 uM.rec (motive_1:=fun x d _=>DX K H' x d) (motive_2:=fun xs ds _=>uM K H' xs ds) .non (fun b=> .bl b) (fun i=> .int i) (fun x=> .str x) (fun h _ t=> .tup (e.tup h) t) (fun h _ t=> .lst (e.seq h) t) (fun ds h=> .dct ds (e _ _ h)) .nil (fun _ _ h t=> .cons h t) h
theorem DV.dx{K:W.Frag}{H:Hp}{x:V}{d:PyData}(h:DV K H x d):DX K H x d:=
 DV.rec (motive_1:=fun x d _=>DX K H x d) (motive_2:=fun xs ds _=>uM K H xs ds) .non (fun b=> .bl b) (fun i=> .int i) (fun x=> .str x) (fun h _ t=> .tup h t) (fun h _ t=> .lst h t) (fun h=> .dct [] h) (fun h _=> .dct _ h) .nil (fun _ _ h t=> .cons h t) h
theorem bL.dx{K:W.Frag}{H:Hp}{xs:List V}{ds:List PyData}(h:bL K H xs ds):uM K H xs ds:=
 bL.rec (motive_1:=fun _ _ _=>True) (motive_2:=fun xs ds _=>uM K H xs ds) trivial (fun _=>trivial) (fun _=>trivial) (fun _=>trivial) (fun _ _ _=>trivial) (fun _ _ _=>trivial) (fun _=>trivial) (fun _ _=>trivial) .nil (fun h _ _ t=> .cons h.dx t) h
def Eb:PyData->String
 | .none=>"NoneType"
 | .bool _=>"bool"
 | .int _=>"int"
 | .str _=>"str"
 | .list _=>"list"
 | .tuple _=>"tuple"
 | .dict _=>"dict"
theorem DX.kind{K:W.Frag}{H:Hp}:∀{x:V} {d:PyData},DX K H x d->Vh K H x (Eb d)
 |_,_,.non=>rfl
 |_,_,.bl _=>rfl
 |_,_,.int _=>rfl
 |_,_,.str _=>rfl
 |_,_,.tup h _=> .inl ⟨rfl,_,h⟩
 |_,_,.lst h _=> .inr (.inl ⟨rfl,_,h⟩)
 |_,_,.dct _ h=> .inr (.inr ⟨rfl,_,h⟩)
theorem uM.len{K:W.Frag}{H:Hp}{xs:List V}{ds:List PyData}(h:uM K H xs ds):xs.length=ds.length:=
 uM.rec (motive_1:=fun _ _ _=>True) (motive_2:=fun xs ds _=>xs.length=ds.length) trivial (fun _=>trivial) (fun _=>trivial) (fun _=>trivial) (fun _ _ _=>trivial) (fun _ _ _=>trivial) (fun _ _=>trivial) rfl (fun _ _ _ t=>rH Nat.succ t) h
theorem uM.get{K:W.Frag}{H:Hp}:∀{xs:List V} {ds:List PyData} {i:Nat} {x:V},uM K H xs ds->xs[i]? =some x->∃d,ds[i]? =some d/\DX K H x d
 |_,_,_,_,.nil,e=>by simp at e
 |_,_,0,_,.cons h _,e=>by simp at e;subst e;exact⟨_,rfl,h⟩
 |_,_,i+1,x,.cons _ t,e=>by
  obtain⟨d,h1,h2⟩:=uM.get (i:=i) t (by simpa using e)
  exact⟨d,by simpa using h1,h2⟩
structure aL(K:W.Frag)(mg:Str->Option Value)(x:Str)(st:Stmt)(ps:List Str)(f:Addr)(fd:FuncData):Prop where
 F:Fun K x x st f fd
 b:Binds K fd ps []
 m:mg x=some (.ref f)
theorem pc{X:Cx}{x:Str}{st:Stmt}{ps:List Str}{f:Addr}{fd:FuncData}{j k:Nat}{sp:Sp}{E:XK}{e:Expr}{es:List Expr}{t:TA}{p pos:Pos}(F:FnOk X.prog X.w X.K X.mg X.base CX0 j f fd ps sp)(hr:Room k X.A)(D:aL X.K X.mg x st ps f fd)(ha:PA X (e::es) t)(hj:j<=k:=by first |decide|omega)(hg:Gl X x:=by rfl)(hx:Passes CX0 X E:=by exact pass0)(hdb:(x==("__debug__":Str))=false:=by decide)(he:starEach (e::es) X.env=(false,eval e X.env)::starEach es X.env:=by rfl)(hpl:(backTo pos (starEach es X.env)).any (·.1)=false:=by rfl):PE X (.Call (.Name x p) (e::es) [] pos) (tCall sp [] E t):=pe_call (F.mono hj) hr hg D.m D.F.kp D.b .nil hx ha hdb he hpl
theorem fsc{N P:List Str}{sc:Scope}(a:sc.kind= .function:=by rfl)(b:sc.isCoroutine=false:=by rfl)(c:sc.isGenerator=false:=by rfl)(d:N.Nodup:=by decide+kernel)(e:N.take P.length=P:=by rfl)(f:∀x∈P,sc.names.lookup x=some .local\/sc.names.lookup x=some .cell:=by decide+kernel)(g:∀y∈sc.names,y.2≠.free:=by decide+kernel):FnScope N P sc:=⟨a,b,c,d,e,f,g⟩
theorem aR{H:Hp}{p:Addr}(h:H p=none)(o:HO):Same H (upd H p o):=fun b u q=>by rw[dX (Cz q h)];exact q
end L2
namespace yL
open PySem L2
def vp:PyData->Bool
 | .int _=>true
 |_=>false
def bw(n:Int):PyData->Bool
 | .int i=>decide (0<=i)&&decide (i<n)
 |_=>false
def intD:PyData->Int
 | .int i=>i
 |_=>0
def kids:PyData->List PyData
 | .tuple ds=>ds
 |_=>[]
def iI(ns:List Int):Bool:=(List.range (ns.length-1)).all fun k=>decide (ns.getD k 0<ns.getD (k+1) 0)
def iH(ts:List (List Int)):Bool:=(List.range (ts.length-1)).all fun k=>HT.lexLt (ts.getD k []) (ts.getD (k+1) [])
def mD(n:Int):PyData->Bool
 | .tuple ds=>ds.all (bw n)&&iI (ds.map intD)
 |_=>false
def nA(n:Int)(d:PyData):Bool:=mD n d&&decide ((kids d).length=2)
def qw(n:Int):PyData->Bool
 | .tuple ds=>ds.all (nA n)&&iH (ds.map fun t=>(kids t).map intD)
 |_=>false
def vq:PyData->Bool
 | .tuple [n,t]=>vp n&&(decide (0<=intD n)&&decide (intD n<=10))&&qw (intD n) t
 |_=>false
theorem Gu{n:Int}:∀{d:PyData},bw n d=true->∃i,d= .int i/\0<=i/\i<n
 | .int i,h=>⟨i,rfl,by simpa[bw]using h⟩
end yL
namespace L2
open PySem PySem.Spec PyProof.Rows
section
variable{X:Cx}
theorem iQ(K:W.Frag)(h:X.K=K:=by rfl):IxR X (rIxT K):=by subst h;exact eZ
theorem jZ(K:W.Frag)(h:X.K=K:=by rfl):IxR X (rIxL K):=by subst h;exact ix_list
theorem Aj(K:W.Frag)(h:X.K=K:=by rfl):CallR X (.builtin "len") (fun xs H Q=>∃p ys,xs=[.ref p]/\(SqL K H p ys\/SqT K H p ys)/\(ys.length<=16777216->Q (.int ys.length) H)):=by subst h;exact zB
theorem RW(K:W.Frag)(hu:X.A.units<cLine)(h:X.K=K:=by rfl):OpR X (compareOp .Lt) (rLtT K):=by subst h;exact op_ltT hu
theorem lJ(K:W.Frag)(hu:X.A.units+64<cLine)(h:X.K=K:=by rfl):OpR X (compareOp .In) (fun x y H Q=>∃(p:Addr) (xs:List V) (ds:List PyData) (dx:PyData),y= .ref p/\(SqL K H p xs\/SqT K H p xs)/\bL K H xs ds/\DV K H x dx/\PyData.canLayAll0 ds=true/\dx.canLay0=true/\dx.depth<=60/\
  Q (.bl (ds.any fun d=>PyData.eqv d dx)) H):=by subst h;exact Ox hu
theorem eN(K:W.Frag){es:List Expr}{k:Nat}{t:TGs}{n:Nat}{pos:Pos}(hc:X.calm=true)(h:PGs X es t)(hn:(assignEach es X.env).length=n:=by rfl)(hst:(assignEach es X.env).findIdx? (·.1)=none:=by rfl)(hK:X.K=K:=by rfl):PG X (.Tuple es k pos) (gTup K n t):=by subst hK;exact pg_tup hc h hn hst
end
end L2
namespace PySem
open Sem (wp)
open AutoSeq1 (wpAny_loadPart')
section
variable{prog:Program}{w:World}{A:Around}{E:Value->Shared->Prop}{s:Shared}
theorem mq{Q:List Value->Shared->Prop}{r:Addr}{a b c:Int}{t u v:Tok}{n:Nat}(hh:A.handled=none)(hr:IsRange s.heap r a b c t u v)(hsmall:Builtin.Range.small a b c=true)(hn:Builtin.Range.rangeSize a b c=n)(hlen:n<=2^24)(hQ:∀h' tk acc,(∀b o',s.heap.get? b=some o'->h'.get? b=some o')->ItemsOf (fun i v=>∃t,v= .int (a+i*c) t) acc n->Q acc.toList {s with heap:=h',toks:=tk}):
  wpAny (model prog w) A (collect (.ref r)) Q E s:=by
 unfold collect
 refine aK (wpAny_runValue (Vu F.entry_proto_collect ?_));rw[X6 F.plain_proto_collect _];show wpAny _ A.in1 (newList []>>=fun l=>again (.builtin "list.__iadd__" ⟨[l,.ref r],[]⟩)) _ _ s;refine aK (was ?_);refine bO ⟨Vt F.plain_list_iadd _,Vu F.entry_list_iadd ?_⟩;rw[X6 F.plain_list_iadd _]
 show wpAny _ A.in1 (Builtin.List.listExtendWith (.ref s.heap.objs.size) (.ref r) (.ref s.heap.objs.size)) _ _ _;have hS:(s.heap.push {cls:= .type "list",data:= .seq ([]:List Value).toArray}).get? s.heap.objs.size=some {cls:= .type "list",data:= .seq #[] 0}:=qp _ rfl;have fin':∀h' tk acc' c',(∀b o,b≠s.heap.objs.size->(s.heap.push {cls:= .type "list",data:= .seq ([]:List Value).toArray}).get? b=some o->h'.get? b=some o)->
   h'.get? s.heap.objs.size=some {cls:= .type "list",dict:=none,data:= .seq acc' c',slots:=#[]}->ItemsOf (fun i v=>∃t,v= .int (a+i*c) t) acc' n->wpAny (model prog w) A (match Value.ref s.heap.objs.size with
   |Value.ref a=>do
    match(<-load a).data with
     |Data.seq xs _=>pure xs.toList
     |_=>unsupported "internal:collect"
   |_=>unsupported "internal:collect") Q E {s with heap:=h',toks:=tk}:=fun h' tk acc' c' hk hS' hacc=>by
  show wpAny _ A (load s.heap.objs.size>>=_) _ _ _
  refine aK (wpAny_load hS' ?_)
  refine bO ?_
  exact hQ h' tk acc' (fun b o e=>hk b o (fU (dw e)) (fV _ e)) hacc
 refine Mt (wpAny_extend_range (A:=A) (R:=fun r s'=>r= .ok (.ret (.ref s.heap.objs.size))/\∃h' tk acc' c',s'={s with heap:=h',toks:=tk}/\(∀b o,b≠s.heap.objs.size->(s.heap.push {cls:= .type "list",data:= .seq ([]:List Value).toArray}).get? b=some o->h'.get? b=some o)/\
   h'.get? s.heap.objs.size=some {cls:= .type "list",dict:=none,data:= .seq acc' c',slots:=#[]}/\ItemsOf (fun i v=>∃t,v= .int (a+i*c) t) acc' n) (s:={s with heap:=s.heap.push {cls:= .type "list",data:= .seq ([]:List Value).toArray}}) hh (fV _ hr) hsmall hn hlen s.heap.objs.size (.ref s.heap.objs.size) 0 hS (fun h' tk acc' c' hk hS' hacc=>⟨rfl,h',tk,acc',c',rfl,hk,hS',hacc⟩)) (fun fin s' h=> ?_) (fun e s' h=> ?_)
 ·cases fin with
  |done f=>
   obtain⟨e,h',tk,acc',c',rfl,h1,h2,h3⟩:=h
   cases e
   exact fin' h' tk acc' c' h1 h2 h3
  |again c'=>exact⟨h.1,Vs h.2 fun r s'' hr=>by obtain⟨rfl,h',tk,acc',c',rfl,h1,h2,h3⟩:=hr;exact fin' h' tk acc' c' h1 h2 h3⟩
 ·exact absurd h.1 (by simp)
end
theorem ji(r:Addr)(a b c:Int)(t u v:Tok)(n:Nat)(hsmall:Builtin.Range.small a b c=true)(hn:Builtin.Range.rangeSize a b c=n)(hlen:n<=2^24):
  Meets (Builtin.«tuple.__new__» ⟨[.type "tuple",.ref r],[]⟩)
   (fun A R s=>A.handled=none/\IsRange s.heap r a b c t u v/\∀(h':Heap) tk acc,(∀b o',s.heap.get? b=some o'->h'.get? b=some o')->ItemsOf (fun i v=>∃t,v= .int (a+i*c) t) acc n->R (.ok (.ret (.ref h'.objs.size))) {s with heap:=h'.push {cls:= .type "tuple",data:= .seq acc},toks:=tk}):=
 .of_wp fun prog w A R s h=>by
  obtain⟨hp,g,d,tk,os⟩:=s;obtain⟨hh,ht,h⟩:=h
  have hsub:=sub_tuple_self
  have hinit:=init_tuple_lookup
  have hmh:=madeHere_tuple
  have hT:Shared.TypeIs ⟨hp,g,d,tk,os⟩ (.ref r) "range":=⟨_,ht,rfl⟩
  wp_walk using wpAny_loadPart' ht,WK hT,mq (A:=A.in1) hh ht hsmall hn hlen
  intro h' tk' acc hk hacc
  show wpAny _ _ (Builtin.Tuple.tupleExact acc.toList.toArray>>=fun v=>ret v) _ _ _
  unfold Builtin.Tuple.tupleExact
  refine aK (was ?_ (by show acc.toList.toArray.size<=sizeLine;rw[eF];simp;rw[hacc.1];omega))
  refine bO ⟨_,rfl,?_⟩
  have e:acc.toList.toArray=acc:=by simp
  rw[e]
  exact h h' tk' acc hk hacc
section
variable{prog:Program}{w:World}{A:Around}{E:Value->Shared->Prop}{s:Shared}
theorem uf{Q:Value->Shared->Prop}{r:Addr}{a b c:Int}{t u v:Tok}{n:Nat}(hh:A.handled=none)(hr:IsRange s.heap r a b c t u v)(hsmall:Builtin.Range.small a b c=true)(hn:Builtin.Range.rangeSize a b c=n)(hlen:n<=2^24)(h:∀(h':Heap) tk acc,(∀b o',s.heap.get? b=some o'->h'.get? b=some o')->ItemsOf (fun i v=>∃t,v= .int (a+i*c) t) acc n->Q (.ref h'.objs.size) {s with heap:=h'.push {cls:= .type "tuple",data:= .seq acc},toks:=tk}):
  wpAny (model prog w) A (call (.type "tuple") [.ref r]) Q E s:=
 callType_new F.called_tuple (by decide) (F.typeCall_tuple_1 _) (F.newCall_tuple_1 _) (fun obj=>wda obj _) F.entry_tuple_new
  (ji r a b c t u v n hsmall hn hlen) ⟨hh,hr,fun h' tk acc hk hacc=>⟨⟨_,qp _ rfl,rfl⟩,h h' tk acc hk hacc⟩⟩
end
end PySem
namespace L2
open PySem PySem.Spec PyProof.Rows
section
variable{X:Cx}{p p' pos pos':Pos}{a:Expr}{ta:TA}
def jh(n:Nat):List V:=(List.range n).map fun(k:Nat)=>V.int (k:Int)
def Yb(ta:TA):TE:=fun σ H Q=>ta σ H fun vs H1=>∃j:Int,vs=[.int j]/\0<=j/\j<=16777216/\∀l,H1 l=none->Q (.ref l) (upd H1 l (.tup (jh j.toNat)))
theorem vC:∀{n:Nat} {us:List Value},us.length=n->(∀(j:Nat) (u:Value),us[j]? =some u->∃t:Tok,u=Value.int (0+((j:Nat):Int)*1) t)->Vals (jh n) us:=by
 intro n us hl hi
 have go:∀(us:List Value) (k:Nat),(∀(j:Nat) (u:Value),us[j]? =some u->∃t:Tok,u=Value.int (0+((j+k:Nat):Int)*1) t)->Vals ((List.range' k us.length).map fun(k:Nat)=>V.int (k:Int)) us:=by
  intro us
  induction us with
  |nil=>intro k _;exact .nil
  |cons u us ih=>
   intro k h
   obtain⟨t,e⟩:=h 0 u rfl
   refine .cons ⟨t,?_⟩ (ih (k+1) fun j u' hj=> ?_)
   ·rw[e];congr 1;omega
   ·obtain⟨t',e'⟩:=h (j+1) u' (by simpa using hj)
    refine⟨t',?_⟩
    rw[e'];congr 1;omega
 have:=go us 0 (fun j u hj=>by obtain⟨t,e⟩:=hi j u hj;exact⟨t,by rw[e];rfl⟩)
 unfold jh
 rw[List.range_eq_range',<-hl]
 exact this
theorem Dv(hc:X.calm=true)(hgT:Gl X "tuple")(hmT:X.mg "tuple"=none)(hg:Gl X "range")(hm:X.mg "range"=none)(ha:PA X [a] ta)(hs:starEach [a] X.env=[(false,eval a X.env)]:=by rfl)(hs2:starEach [Expr.Call (.Name "range" p') [a] [] pos'] X.env=[(false,eval (Expr.Call (.Name "range" p') [a] [] pos') X.env)]:=by rfl):
  PE X (.Call (.Name "tuple" p) [.Call (.Name "range" p') [a] [] pos'] [] pos) (Yb ta):=by
 intro pins s σ H Q I h
 refine Ng (ld_blt I hgT hmT (show bootBuiltins "tuple"=some (.type "tuple")from by decide+kernel) ?_ (by decide) (by decide))
 refine Nk ?_ hs2 rfl
 rw[hs2]
 refine X5 ?_
 refine Call_ (ld_blt I hg hm boot_range (Nk (thn (ha pos' pins s σ H _ I h) fun us s1 ⟨vs,H1,I1,r1,q1⟩=> ?_) hs rfl))
 obtain⟨j,e,q1,q2,q⟩:=q1
 subst e
 cases r1 with
 |cons r rr=>
  cases rr
  obtain⟨t,rfl⟩:=r
  refine call_range_1 ?_
  refine X4 ?_
  have hn:Builtin.Range.rangeSize 0 j 1=((j.toNat:Nat):Int):=by rw[rangeSize_one];split<;>omega
  refine uf (I.ok.hd hc) (IsRange.new ..) (small_one (by decide) (by decide) (by omega) (by omega)) hn (by omega) fun h' tk acc hk hacc=> ?_
  have I2:Inv X pins σ H1 {s1 with heap:=h',toks:=tk}:=I1.kept fun b o e=>hk b o (fV _ e)
  have hv:Vals (jh j.toNat) acc.toList:=vC (by rw[Uy];exact hacc.1) (fun i u hu=>hacc.2 i u (by simpa using hu))
  have hz:(jh j.toNat).length<=sizeLine:=by unfold jh;rw[eF];simp;omega
  have I3:Inv X pins σ (upd H1 h'.objs.size (.tup (jh j.toNat))) {s1 with heap:=h'.push {cls:= .type "tuple",data:= .seq acc},toks:=tk}:=
   I2.laid (t':=tk) (fun b o e=>fV _ e) (bx _) (show ObjOk X.prog X.w _ _ _ (.tup (jh j.toNat))from⟨hz,acc.toList,hv,by rw[show acc=acc.toList.toArray by simp];exact IsTup.new _ _⟩)
  exact⟨.ref h'.objs.size,_,I3,rfl,q _ (I2.hok.fresh (bx _))⟩
open Classical in
theorem Kq(hu:X.A.units+64<cLine):OpR X (compareOp .NotIn) (fun x y H Q=>∃(p:Addr) (xs:List V) (ds:List PyData) (dx:PyData),y= .ref p/\(SqL X.K H p xs\/SqT X.K H p xs)/\bL X.K H xs ds/\DV X.K H x dx/\PyData.canLayAll0 ds=true/\dx.canLay0=true/\dx.depth<=60/\
  Q (.bl (!(ds.any fun d=>PyData.eqv d dx))) H):=by
 intro pins s σ H x y v u Q I rx ry h
 obtain⟨p,xs,ds,dx,rfl,hq,hds,hx,ca,cb,hd,q⟩:=h
 cases ry
 obtain⟨bs,rb⟩:=DV.reads I hx rx
 have key:∀{its:List Value},Vals xs its->(∀y∈its,SeqAt.EqAt X.A.in1 s y v (decide (∃d as,Reads s.heap y d as/\d∈ds/\PyData.eqv d dx=true)))/\(its.any fun y=>decide (∃d as,Reads s.heap y d as/\d∈ds/\PyData.eqv d dx=true))=ds.any fun d=>PyData.eqv d dx:=by
  intro its rv
  obtain⟨as,ra⟩:=bL.reads I hds rv
  have each:∀{us:List Value} {es:List PyData} {as:List Addr},ReadsAll s.heap us es as->(∀e∈es,e∈ds)->(∀y∈us,SeqAt.EqAt X.A.in1 s y v (decide (∃d as,Reads s.heap y d as/\d∈ds/\PyData.eqv d dx=true)))/\(us.any fun y=>decide (∃d as,Reads s.heap y d as/\d∈ds/\PyData.eqv d dx=true))=es.any fun d=>PyData.eqv d dx:=by
   intro us
   induction us with
   |nil=>intro es as h _;cases h;exact⟨(fun y hy=>(nomatch hy)),rfl⟩
   |cons y us ih=>
    intro es as h hs
    cases h with
    | @cons _ _ d ds' as' bs' r rr=>
     obtain⟨i1,i2⟩:=ih rr fun e he=>hs e (lZ _ he)
     have cl:=Ij ca d (hs d jl)
     have e:decide (∃d as,Reads s.heap y d as/\d∈ds/\PyData.eqv d dx=true)=PyData.eqv d dx:=by
      rw[vA,uN]
      constructor
      ·rintro⟨d',as'',r',_,q'⟩
       obtain⟨rfl,_⟩:=(PySem.Reads.unique r _ _ r')
       exact q'
      ·intro q'
       exact⟨d,_,r,hs d jl,q'⟩
     refine⟨fun z hz=> ?_,?_⟩
     ·rcases cT.mp hz with rfl|hz
      ·rw[e]
       exact SeqAt.eqAt_reads d dx _ s _ _ _ _ r rb cl cb (by show X.A.units+1+min d.depth dx.depth<cLine;omega)
      ·exact i1 z hz
     ·rw[Uu,Uu,i2,e]
  exact each ra fun e he=>he
 rcases hq with hq|hq
 ·obtain⟨its,r,pl,hz⟩:=I.list hq
  obtain⟨k1,k2⟩:=key r
  refine SeqAt.notIn_listAt _ pl.isList (fun w hw=>k1 w (by simpa using hw)) ⟨.bl _,H,I,rfl,?_⟩
  rw[show∀f:Value->Bool,its.toArray.any f=its.any f from fun f=>by simp,k2]
  exact q
 ·obtain⟨its,r,pl,hz⟩:=I.tuple hq
  obtain⟨k1,k2⟩:=key r
  refine SeqAt.notIn_tupleAt _ pl (fun w hw=>k1 w (by simpa using hw)) ⟨.bl _,H,I,rfl,?_⟩
  rw[show∀f:Value->Bool,its.toArray.any f=its.any f from fun f=>by simp,k2]
  exact q
theorem iJ(K:W.Frag)(hu:X.A.units+64<cLine)(h:X.K=K:=by rfl):OpR X (compareOp .NotIn) (fun x y H Q=>∃(p:Addr) (xs:List V) (ds:List PyData) (dx:PyData),y= .ref p/\(SqL K H p xs\/SqT K H p xs)/\bL K H xs ds/\DV K H x dx/\PyData.canLayAll0 ds=true/\dx.canLay0=true/\dx.depth<=60/\
  Q (.bl (!(ds.any fun d=>PyData.eqv d dx))) H):=by subst h;exact Kq hu
end
end L2
namespace PySem
open Sem (wp)
open Builtin
open AutoSeq1 (wpAny_loadPart')
end PySem
namespace L2
open PySem PySem.Spec PyProof.Rows
section
variable{X:Cx}{p p' pos pos':Pos}{a:Expr}{ta:TA}
def Yc(ta:TA):TE:=fun σ H Q=>ta σ H fun vs H1=>∃j:Int,vs=[.int j]/\0<=j/\j<=16777216/\∀l,H1 l=none->Q (.ref l) (upd H1 l (.lst (jh j.toNat)))
theorem Dw(hc:X.calm=true)(hgT:Gl X "list")(hmT:X.mg "list"=none)(hg:Gl X "range")(hm:X.mg "range"=none)(ha:PA X [a] ta)(hs:starEach [a] X.env=[(false,eval a X.env)]:=by rfl)(hs2:starEach [Expr.Call (.Name "range" p') [a] [] pos'] X.env=[(false,eval (Expr.Call (.Name "range" p') [a] [] pos') X.env)]:=by rfl):
  PE X (.Call (.Name "list" p) [.Call (.Name "range" p') [a] [] pos'] [] pos) (Yc ta):=by
 intro pins s σ H Q I h
 refine Ng (ld_blt I hgT hmT (show bootBuiltins "list"=some (.type "list")from by decide+kernel) ?_ (by decide) (by decide))
 refine Nk ?_ hs2 rfl
 rw[hs2]
 refine X5 ?_
 refine Call_ (ld_blt I hg hm boot_range (Nk (thn (ha pos' pins s σ H _ I h) fun us s1 ⟨vs,H1,I1,r1,q1⟩=> ?_) hs rfl))
 obtain⟨j,e,q1,q2,q⟩:=q1
 subst e
 cases r1 with
 |cons r rr=>
  cases rr
  obtain⟨t,rfl⟩:=r
  refine call_range_1 ?_
  refine X4 ?_
  have hn:Builtin.Range.rangeSize 0 j 1=((j.toNat:Nat):Int):=by rw[rangeSize_one];split<;>omega
  refine call_list_range (I.ok.hd hc) (IsRange.new ..) (small_one (by decide) (by decide) (by omega) (by omega)) hn (by omega) fun h' tk acc c hk hS hacc=> ?_
  have hv:Vals (jh j.toNat) acc.toList:=vC (by rw[Uy];exact hacc.1) (fun i u hu=>hacc.2 i u (by simpa using hu))
  have hz:(jh j.toNat).length<=sizeLine:=by unfold jh;rw[eF];simp;omega
  have I2:Inv X pins σ H1 {s1 with heap:=s1.heap.push {cls:=Value.type "range",data:=Data.fields #[Value.int 0 s1.toks,Value.int j t,Value.int 1 (s1.toks+1)]},toks:=s1.toks+1+1}:=I1.kept fun b o e=>fV _ e
  exact⟨.ref _,_,I2.laid (t':=tk) (o:= .lst (jh j.toNat)) hk (bx _) ⟨hz,acc.toList,c,hv,by simpa using hS⟩,rfl,q _ (I2.hok.fresh (bx _))⟩
end
end L2
namespace PySem
open Sem (wp)
open AutoSeq1 (wpAny_loadPart')
theorem Ce(l:Addr)(items:Array Value)(n:Nat)(dct:Option Addr)(sl:Array (Option Value)):
  Meets (Builtin.«enumerate.__new__» ⟨[.type "enumerate",.ref l],[]⟩) (fun _ R s=>s.heap.get? l=some {cls:= .type "tuple",dict:=dct,data:= .seq items n,slots:=sl}/\
   R (.ok (.ret (.ref (s.heap.push {cls:= .type "tuple_iterator",data:= .fields #[.ref l,.int 0 0]}).objs.size)))
    {s with heap:=(s.heap.push {cls:= .type "tuple_iterator",data:= .fields #[.ref l,.int 0 0]}).push {cls:= .type "enumerate",data:= .fields #[.none,.bool false,.ref s.heap.objs.size,rawInt 0,.none,.none]}}):=
 .of_wp fun prog w A R s h=>by
  obtain⟨hp,g,d,tk,os⟩:=s;obtain⟨hl,h⟩:=h;have hsub:=sub_enumerate
  have hL:Heap.IsTuple (Shared.heap ⟨hp,g,d,tk,os⟩) l items:=⟨_,hl,rfl,n,rfl⟩
  wp_walk using wpAny_loadPart' hl
  refine wpAny_stack_any fun st=>bO ?_;split
  ·rename_i c _ _ _ _ _
   cases(c==Value.type "enumerate")
   ·wp_walk using wpAny_loadPart' hl,WW hL;exact⟨_,rfl,h⟩
   ·wp_walk using wpAny_loadPart' hl,WW hL;exact⟨_,rfl,h⟩
  ·wp_walk using wpAny_loadPart' hl,WW hL;exact⟨_,rfl,h⟩
section
variable{prog:Program}{w:World}{A:Around}{E:Value->Shared->Prop}{s:Shared}
theorem Ho{it t:Addr}{i:Nat}{items:Array Value}{x:Value}{Q:Value->Shared->Prop}(hit:s.heap.IsTupleIter it t i)(ht:s.heap.IsTuple t items)(hx:items[i]? =some x)(hQ:∀h',h'.IsTupleIter it t (i+1)->Heap.SameBut it s.heap h'->Q x {s with heap:=h'}):wpAny (model prog w) A (Builtin.SmallTypes.nextOf (.ref it)) Q E s:=by
 obtain⟨o,ho,hc,hd⟩:=id hit;obtain⟨ol,hol,_,nl,hdl⟩:=ht;unfold Builtin.SmallTypes.nextOf
 refine aK (WX (name:=Str.ofString "__next__") hit.typeIs wbj (UG wbj hit.typeIs wdj ?_ (wdc _)))
 show wpAny _ _ (field (.ref it) 0>>=_) _ _ s;refine aK (Mu ho hd (x:= .ref t) rfl ?_)
 show wpAny _ _ (if(Value.ref t==Value.none)=true then _ else _) _ _ s;rw[bC (show¬((Value.ref t==Value.none)=true)from uy)]
 show wpAny _ _ (field (.ref it) 1>>=_) _ _ s;refine aK (Mu ho hd (x:= .int i 0) rfl ?_)
 show wpAny _ _ (seqItems? (.ref t)>>=_) _ _ s;refine aK (WM hol hdl ?_)
 simp only[Xn,hx];refine aK (XM ho hd (by simp) (bO ⟨x,rfl,bO (hQ _ ?_ (Nh ..))⟩))
 exact⟨_,Wy _ ho (wcw (WT hd _)),(Obj.cls_mapFields ..).trans hc,by rw[WT hd];simp[rawInt]⟩
theorem wk{it t:Addr}{i:Nat}{items:Array Value}{Q:Value->Shared->Prop}(hh:A.handled=none)(hit:s.heap.IsTupleIter it t i)(ht:s.heap.IsTuple t items)(hx:items[i]? =none)(hE:∀h' e,Heap.ExtBut it s.heap h'->(∃o,h'.get? e=some o/\o.cls= .type "StopIteration")->E (.ref e) {s with heap:=h'}):wpAny (model prog w) A (Builtin.SmallTypes.nextOf (.ref it)) Q E s:=by
 obtain⟨o,ho,hc,hd⟩:=id hit;obtain⟨ol,hol,_,nl,hdl⟩:=ht;unfold Builtin.SmallTypes.nextOf
 refine aK (WX (name:=Str.ofString "__next__") hit.typeIs wbj (UG wbj hit.typeIs wdj ?_ (wdc _)))
 show wpAny _ _ (field (.ref it) 0>>=_) _ _ s;refine aK (Mu ho hd (x:= .ref t) rfl ?_)
 show wpAny _ _ (if(Value.ref t==Value.none)=true then _ else _) _ _ s;rw[bC (show¬((Value.ref t==Value.none)=true)from uy)]
 show wpAny _ _ (field (.ref it) 1>>=_) _ _ s;refine aK (Mu ho hd (x:= .int i 0) rfl ?_)
 show wpAny _ _ (seqItems? (.ref t)>>=_) _ _ s;refine aK (WM hol hdl ?_)
 simp only[Xn,hx];refine aK (Vr (aK (XM ho hd (by simp) ?_)))
 show wpAny _ _ (newExc (.type "StopIteration") []>>=_) _ _ _;refine aK ?_;simp only[newExc,newTuple];refine aK (was ?_ (by size_fits))
 refine aK (m:=firstArgMember _ _) (Q9 (a:=Value.none) (by first |rfl|(simp only[firstArgMember];rfl)) ?_);refine was ?_ (by size_fits)
 simp only[raiseNew];refine aK (wpAny_handled ?_);first |rw[show A.in1.handled=none from hh]|rw[hh]
 refine aK (bO (wpAny_throw ?_));exact hE _ _ (((Nh ..).extBut.push _).push _) ⟨_,qp _ rfl,rfl⟩
end
theorem Draws.tup{prog:Program}{w:World}{A:Around}(hh:A.handled=none)(it l:Addr)(hne:l≠it)(items:Array Value):
  Draws prog w A it [it,l] items.size (fun i v=>items[i]? =some v) (fun i h=>h.IsTupleIter it l i/\h.IsTuple l items) where
 live:=fun i h st=>by obtain⟨⟨o,e,_⟩,_⟩:=st;exact⟨o,e⟩
 frame:=fun i h h' st k=>⟨st.1.at fun o e=>k it (by simp) o e,st.2.at fun o e=>k l (by simp) o e⟩
 item:=fun i s Q E hi st hQ=>by
  have hx:items[i]? =some items[i]:=Array.getElem?_eq_getElem hi
  exact Ho st.1 st.2 hx fun h' hit' hs=>hQ _ h' s.toks hx ⟨hit',st.2.at fun o e=>(hs.2 l hne).trans e⟩ hs
 done:=fun s Q E st hE=>wk hh st.1 st.2 (Array.getElem?_eq_none (bx _)) hE
section
variable{prog:Program}{w:World}{A:Around}{E:Value->Shared->Prop}{s:Shared}
theorem zp{l:Addr}{items:Array Value}{Q:Value->Shared->Prop}(hL:s.heap.IsTuple l items)(h:∀h',IsEnum h' (s.heap.objs.size+1) s.heap.objs.size 0 .none->h'.IsTupleIter s.heap.objs.size l 0->h'.objs.size=s.heap.objs.size+2->(∀b o,s.heap.get? b=some o->h'.get? b=some o)->Q (.ref (s.heap.objs.size+1)) {s with heap:=h'}):
  wpAny (model prog w) A (call (.type "enumerate") [.ref l]) Q E s:=by
 obtain⟨⟨c,dct,dt,sl⟩,hl,hc,n,hd⟩:=hL;replace hc:c= .type "tuple":=hc;replace hd:dt= .seq items n:=hd;subst hc hd
 refine callType_new F.called_enumerate (by decide) (F.typeCall_enumerate_1 _) (F.newCall_enumerate_1 _) (fun obj=>wda obj _) F.entry_enumerate_new (Ce l items n dct sl) ⟨hl,?_⟩
 have hz:(s.heap.push {cls:= .type "tuple_iterator",data:= .fields #[.ref l,.int 0 0]}).objs.size=s.heap.objs.size+1:=Q8 ..
 show _/\_
 rw[hz]
 have he:IsEnum ((s.heap.push {cls:= .type "tuple_iterator",data:= .fields #[.ref l,.int 0 0]}).push {cls:= .type "enumerate",data:= .fields #[.none,.bool false,.ref s.heap.objs.size,rawInt 0,.none,.none]}) (s.heap.objs.size+1) s.heap.objs.size 0 .none:=by
  have:=qp (s.heap.push {cls:= .type "tuple_iterator",data:= .fields #[.ref l,.int 0 0]}) (o:={cls:= .type "enumerate",data:= .fields #[.none,.bool false,.ref s.heap.objs.size,rawInt 0,.none,.none]}) rfl
  rw[hz]at this;exact this
 exact⟨⟨_,he,rfl⟩,h _ he ⟨_,fV _ (qp _ rfl),rfl,rfl⟩ (by rw[Q8,hz]) fun b o x=>fV _ (fV _ x)⟩
end
end PySem
namespace L2
open PySem PySem.Spec PyProof.Rows
section
variable{X:Cx}{pins:List (Addr×Obj)}{σ:St}{H:Hp}{s:Shared}{h':Heap}
theorem Inv.zH{t':Nat}{fp:List Addr}{T:Addr}{o:HO}(I:Inv X pins σ H s)(k:∀b o,b∉fp->s.heap.get? b=some o->h'.get? b=some o)(hf:∀b∈fp,FpOk X pins H b)(hT:s.heap.objs.size<=T)(new:ObjOk X.prog X.w (upd H T o) h' T o):
  Inv X pins σ (upd H T o) {s with heap:=h',toks:=t'}:=by
 have hTn:H T=none:=I.hok.fresh hT
 have Ym:∀b u,H b=some u->b∉fp:=fun b u e z=>by rw[(hf b z).1]at e;cases e
 have neT:∀b o,s.heap.get? b=some o->b≠T:=fun b o e=>fU (mQ (dw e) hT)
 have Yn:∀b u,H b=some u->b≠T:=fun b u e z=>by rw[z,hTn]at e;cases e
 refine I.step (g':=s.gens) (d':=s.drawn) (ch:=fp) (fun b hb=> ?_) (fun b o _ _ hc e _=>k b o hc e) (fun b o _ _ hc e _=>⟨o.slots,k b o hc e⟩) (fun b o _ e n=>by rw[dX (neT b o e)];exact n)
  (fun b o hc e=>⟨o,k b o hc e⟩) (fun b xs e=>by rw[dX (Yn b _ e)];exact e) (fun b o u e=>by rw[dX (Yn b _ e)];exact e) (fun b ps e=>⟨#[],by rw[dX (Yn b _ e),e];simp⟩) (fun m hm=> ?_) (fun b u e=> ?_) I.bare
 ·obtain⟨f0,f1,f2,f3,f4,f5⟩:=hf b hb
  exact⟨f3,f1,f4,f5⟩
 ·obtain⟨o,es,ep,ho,r⟩:=hm
  exact⟨o,es,ep,k _ o (fun z=>(hf _ z).2.1 rfl) ho,r⟩
 ·by_cases hb:b=T
  ·subst hb
   rw[aM]at e
   cases e
   exact new
  ·rw[dX hb]at e
   refine(I.hok b u e).stay (fun c v hc q=>k c v ?_ q) (fun c q=>by rw[dX (Yn c _ q)];exact q) fun c xs q=>by rw[dX (Yn c _ q)];exact q
   rcases hc with z|z
   ·rw[z];exact Ym b u e
   ·exact Ym c _ z
theorem Inv.turns{t':Nat}{fp:List Addr}(I:Inv X pins σ H s)(k:∀b o,b∉fp->s.heap.get? b=some o->h'.get? b=some o)(hf:∀b∈fp,FpOk X pins H b):Inv X pins σ H {s with heap:=h',toks:=t'}:=by
 have Ym:∀b u,H b=some u->b∉fp:=fun b u e z=>by rw[(hf b z).1]at e;cases e
 refine I.step (g':=s.gens) (d':=s.drawn) (ch:=fp) (fun b hb=> ?_) (fun b o _ _ hc e _=>k b o hc e) (fun b o _ _ hc e _=>⟨o.slots,k b o hc e⟩) (fun b o _ e n=>n)
  (fun b o hc e=>⟨o,k b o hc e⟩) (fun b xs e=>e) (fun b o u e=>e) (fun b ps e=>⟨#[],by rw[e];simp⟩) (fun m hm=> ?_) (fun b u e=> ?_) I.bare
 ·obtain⟨f0,f1,f2,f3,f4,f5⟩:=hf b hb
  exact⟨f3,f1,f4,f5⟩
 ·obtain⟨o,es,ep,ho,r⟩:=hm
  exact⟨o,es,ep,k _ o (fun z=>(hf _ z).2.1 rfl) ho,r⟩
 ·refine(I.hok b u e).stay (fun c v hc q=>k c v ?_ q) (fun c q=>q) fun c xs q=>q
  rcases hc with z|z
  ·rw[z];exact Ym b u e
  ·exact Ym c _ z
end
def Fe(K:W.Frag)(b:Bool)(H:Hp)(a:Addr)(xs:List V):Prop:=match b with
 |false=>SqL K H a xs
 |true=>SqT K H a xs
def Ite(K:W.Frag)(b:Bool)(a:Addr)(xs:List V):It:=
 ⟨fun i H=>Fe K b H a xs/\i<xs.length,fun i H x H'=>∃t v,x= .ref t/\H t=none/\H'=upd H t (.tup [.int (i:Int),v])/\xs[i]? =some v,fun i H=>Fe K b H a xs/\i=xs.length⟩
theorem FQ{P:Program}{w:World}{K:W.Frag}{es:List Expr}{k:Nat}{pos:Pos}(a e it:Addr)(xs:List V)(hne:e≠it):
  Turn P w K (.Tuple es k pos) (Ite K false a xs) [e,it] e (fun i h=>(∃old,IsEnum h e it (i:Int) old)/\h.IsListIter it a i) where
 mem:=by simp
 obj:=fun i h st b hb=>by
  obtain⟨⟨old,he⟩,o,e1,c,d⟩:=st
  rcases cT.mp hb with z|hb
  ·subst z;exact⟨_,he,fun v z=>by cases z⟩
  ·have z:b=it:=by simpa using hb
   subst z
   exact⟨o,e1,fun v z=>by rw[d]at z;cases z⟩
 keep:=fun i h h' st k=>⟨st.1.imp fun old he=>k e (by simp) _ he,st.2.at fun o e=>k it (by simp) o e⟩
 item:=by
  intro X hP hw hK hc i pins s σ H E I hf st hg
  subst hP hw hK
  obtain⟨hq0,hi⟩:=hg
  have hq:SqL X.K H a xs:=hq0
  obtain⟨its,rv,p,hz⟩:=I.list hq
  have hx:xs[i]? =some xs[i]:=iY hi
  obtain⟨u,hu,ru⟩:=rv.get hx
  obtain⟨⟨old,he⟩,hit⟩:=st
  refine wpAny_pyNext_enum_item he hit p.isList (x:=u) (by simpa using hu) hne fun h1 ho hit1 hT hsz hk=>⟨_,rfl,?_⟩
  refine wpAny_letOwnedTupleGo_enum ho fun h2 he2 hs2=> ?_
  have Hz:Heap.SameBut e h1 h2:=hs2
  have Yr:s.heap.objs.size≠e:=fun z=>absurd (dw he) (by rw[<-z];exact yS _)
  have keep:∀b o,b∉[e,it]->s.heap.get? b=some o->h2.get? b=some o:=fun b o hb q=>(Hz.2 b fun z=>hb (by simp[z])).trans (hk b o (fun z=>hb (by simp[z])) (fun z=>hb (by simp[z])) q)
  have hT2:h2.get? s.heap.objs.size=some {cls:= .type "tuple",data:= .seq #[.int i s.toks,u]}:=(Hz.2 _ Yr).trans hT
  have I2:=I.zH (h':=h2) (t':=s.toks+1) (o:= .tup [.int (i:Int),xs[i]]) keep hf (bx _) ⟨(by show 2<=sizeLine;decide),[.int i s.toks,u],.cons ⟨_,rfl⟩ (.cons ru .nil),_,hT2,rfl,_,rfl⟩
  exact⟨.ref s.heap.objs.size,_,I2,rfl,⟨_,_,rfl,I.hok.fresh (bx _),rfl,hx⟩,⟨⟨_,by simpa using he2⟩,hit1.at fun o q=>(Hz.2 it hne.symm).trans q⟩,fun b hb=>by
   rw[dX (fun z=> ?_)]
   ·exact(hf b hb).1
   ·obtain⟨_,q1,_⟩:=hit
    rcases cT.mp hb with y|y
    ·exact Yr (z.symm.trans y)
    ·have y:b=it:=by simpa using y
     rw[<-y,z]at q1
     exact absurd (dw q1) (yS _)⟩
 done:=by
  intro X hP hw hK hc i pins s σ H E I hf st hg
  subst hP hw hK
  obtain⟨hq0,hi⟩:=hg
  have hq:SqL X.K H a xs:=hq0
  obtain⟨its,rv,p,hz⟩:=I.list hq
  have hl:=rv.length
  obtain⟨⟨old,he⟩,hit⟩:=st
  exact wpAny_pyNext_enum_end (I.ok.hd hc) he hit p.isList (by simp;omega) fun h' eb=>⟨rfl,I.turns (t':=s.toks) (fp:=[e,it]) (fun b o hb q=>eb b o (fun z=>hb (by simp[z])) q) hf⟩
 self:=fun _ _ _ _ _ st h=>by
  obtain⟨⟨old,he⟩,_⟩:=st
  exact wcr he h
theorem FN{P:Program}{w:World}{K:W.Frag}{es:List Expr}{k:Nat}{pos:Pos}(a e it:Addr)(xs:List V)(hne:e≠it)(hat:a≠it)(hae:a≠e):
  Turn P w K (.Tuple es k pos) (Ite K true a xs) [e,it] e (fun i h=>(∃old,IsEnum h e it (i:Int) old)/\h.IsTupleIter it a i) where
 mem:=by simp
 obj:=fun i h st b hb=>by
  obtain⟨⟨old,he⟩,o,e1,c,d⟩:=st
  rcases cT.mp hb with z|hb
  ·subst z;exact⟨_,he,fun v z=>by cases z⟩
  ·have z:b=it:=by simpa using hb
   subst z
   exact⟨o,e1,fun v z=>by rw[d]at z;cases z⟩
 keep:=fun i h h' st k=>⟨st.1.imp fun old he=>k e (by simp) _ he,st.2.at fun o e=>k it (by simp) o e⟩
 item:=by
  intro X hP hw hK hc i pins s σ H E I hf st hg
  subst hP hw hK
  obtain⟨hq0,hi⟩:=hg
  have hq:SqT X.K H a xs:=hq0
  obtain⟨its,rv,p,hz⟩:=I.tuple hq
  have hx:xs[i]? =some xs[i]:=iY hi
  obtain⟨u,hu,ru⟩:=rv.get hx
  obtain⟨⟨old,he⟩,hit⟩:=st
  have hl:=rv.length
  have pt:s.heap.IsTuple a its.toArray:=p
  have D:=Draws.tup (prog:=X.prog) (w:=X.w) (A:=X.A.in1) (I.ok.hd hc) it a hat its.toArray
  refine wpAny_pyNext_enum_itemD D he ⟨hit,pt⟩ (by simp;omega) hne (by simp;exact⟨hne,fun z=>hae z.symm⟩) fun y h1 tk hy ho aek hT hsz hk=>⟨_,rfl,?_⟩
  have ey:y=u:=by
   have hu':its.toArray[i]? =some u:=by simpa using hu
   rw[hu']at hy
   exact(Nb hy).symm
  subst ey
  refine wpAny_letOwnedTupleGo_enum ho fun h2 he2 hs2=> ?_
  have Hz:Heap.SameBut e h1 h2:=hs2
  have Yr:s.heap.objs.size≠e:=fun z=>absurd (dw he) (by rw[<-z];exact yS _)
  have keep:∀b o,b∉[e,it]->s.heap.get? b=some o->h2.get? b=some o:=fun b o hb q=>(Hz.2 b fun z=>hb (by simp[z])).trans (hk b o (fun z=>hb (by simp[z])) (fun z=>hb (by simp[z])) q)
  have hT2:h2.get? s.heap.objs.size=some {cls:= .type "tuple",data:= .seq #[.int i tk,y]}:=(Hz.2 _ Yr).trans hT
  have I2:=I.zH (h':=h2) (t':=tk+1) (o:= .tup [.int (i:Int),xs[i]]) keep hf (bx _) ⟨(by show 2<=sizeLine;decide),[.int i tk,y],.cons ⟨_,rfl⟩ (.cons ru .nil),_,hT2,rfl,_,rfl⟩
  exact⟨.ref s.heap.objs.size,_,I2,rfl,⟨_,_,rfl,I.hok.fresh (bx _),rfl,hx⟩,⟨⟨_,by simpa using he2⟩,aek.1.at fun o q=>(Hz.2 it hne.symm).trans q⟩,fun b hb=>by
   rw[dX (fun z=> ?_)]
   ·exact(hf b hb).1
   ·obtain⟨_,q1,_⟩:=hit
    rcases cT.mp hb with y|y
    ·exact Yr (z.symm.trans y)
    ·have y:b=it:=by simpa using y
     rw[<-y,z]at q1
     exact absurd (dw q1) (yS _)⟩
 done:=by
  intro X hP hw hK hc i pins s σ H E I hf st hg
  subst hP hw hK
  obtain⟨hq0,hi⟩:=hg
  have hq:SqT X.K H a xs:=hq0
  obtain⟨its,rv,p,hz⟩:=I.tuple hq
  have hl:=rv.length
  obtain⟨⟨old,he⟩,hit⟩:=st
  have pt:s.heap.IsTuple a its.toArray:=p
  have ei:i=its.toArray.size:=by rw[dW];omega
  subst ei
  have D:=Draws.tup (prog:=X.prog) (w:=X.w) (A:=X.A.in1) (I.ok.hd hc) it a hat its.toArray
  exact wpAny_pyNext_enum_endD D he ⟨hit,pt⟩ fun h' eb=>⟨rfl,I.turns (t':=s.toks) (fp:=[e,it]) (fun b o hb q=>eb b o (fun z=>hb (by simp[z])) q) hf⟩
 self:=fun _ _ _ _ _ st h=>by
  obtain⟨⟨old,he⟩,_⟩:=st
  exact wcr he h
section
variable{X:Cx}{es:List Expr}{k:Nat}{aaZ:Pos}
def Yz(K:W.Frag)(ta:TA):TI:=fun σ H R=>ta σ H fun vs H1=>∃(b:Bool) (a:Addr) (xs:List V),vs=[.ref a]/\Fe K b H1 a xs/\(xs.length<=sizeLine->R (Ite K b a xs) H1)
theorem Jp{a:Expr}{ta:TA}{p pos:Pos}(hg:Gl X "enumerate")(hm:X.mg "enumerate"=none)(ha:PA X [a] ta)(hs:starEach [a] X.env=[(false,eval a X.env)]:=by rfl):
  PI X (.Tuple es k aaZ) (.Call (.Name "enumerate" p) [a] [] pos) (Yz X.K ta):=by
 intro pins s σ H R I h
 refine Call_ (ld_blt I hg hm (show bootBuiltins "enumerate"=some (.type "enumerate")from by decide+kernel) (Nk (thn (ha pos pins s σ H _ I h) fun us s1 ⟨vs,H1,I1,r1,q1⟩=> ?_) hs rfl))
 obtain⟨b,l,xs,e,hq,q⟩:=q1
 subst e
 cases r1 with
 |cons r rr=>
  cases rr
  cases r
  cases b with
  |false=>
   obtain⟨its,rv,pl,hz⟩:=I1.list (show SqL X.K H1 l xs from hq)
   refine call_enumerate_list pl.isList fun h' he hit hsz hk=> ?_
   refine wcr he ?_
   have I2:Inv X pins σ H1 {s1 with heap:=h'}:=I1.kept (t':=s1.toks) hk
   have hne:s1.heap.objs.size+1≠s1.heap.objs.size:=Nat.succ_ne_self _
   refine⟨s1.heap.objs.size+1,[s1.heap.objs.size+1,s1.heap.objs.size],_,_,H1,rfl,I2,FQ l _ _ xs hne,⟨⟨_,he⟩,hit⟩,fun c hc=> ?_,q hz⟩
   rcases cT.mp hc with z|z
   ·subst z;exact I1.fpOk (Vl _) (I1.hok.fresh (Vl _))
   ·have z:c=s1.heap.objs.size:=by simpa using z
    subst z;exact I1.fpOk (bx _) (I1.hok.fresh (bx _))
  |true=>
   obtain⟨its,rv,pl,hz⟩:=I1.tuple (show SqT X.K H1 l xs from hq)
   have pt:s1.heap.IsTuple l its.toArray:=pl
   have hlt:l<s1.heap.objs.size:=by obtain⟨_,e,_⟩:=id pt;exact dw e
   refine zp pt fun h' he hit hsz hk=> ?_
   refine wcr he ?_
   have I2:Inv X pins σ H1 {s1 with heap:=h'}:=I1.kept (t':=s1.toks) hk
   have hne:s1.heap.objs.size+1≠s1.heap.objs.size:=Nat.succ_ne_self _
   refine⟨s1.heap.objs.size+1,[s1.heap.objs.size+1,s1.heap.objs.size],_,_,H1,rfl,I2,FN l _ _ xs hne (fU hlt) (fU (Mr hlt)),⟨⟨_,he⟩,hit⟩,fun c hc=> ?_,q hz⟩
   rcases cT.mp hc with z|z
   ·subst z;exact I1.fpOk (Vl _) (I1.hok.fresh (Vl _))
   ·have z:c=s1.heap.objs.size:=by simpa using z
    subst z;exact I1.fpOk (bx _) (I1.hok.fresh (bx _))
end
theorem Qm{K:W.Frag}{b:Bool}{a:Addr}{xs:List V}{g:TG}{tb:TS}{D:Ends}{σ:St}{H:Hp}(Pv:Nat->St->Hp->Prop)(h0:Pv 0 σ H)(hl:∀i σ H,i<=xs.length->Pv i σ H->Fe K b H a xs)(hs:∀i v t σ H,xs[i]? =some v->Pv i σ H->H t=none->g (.ref t) σ (upd H t (.tup [.int (i:Int),v])) fun σ2 H2=>tb {D with nx:=Pv (i+1),ct:=Pv (i+1),bk:=D.nx} σ2 H2)(hd:∀σ H,Pv xs.length σ H->D.nx σ H):
  ∃W:Nat->Nat->St->Hp->Prop,(∃m,W 0 m σ H)/\∀i m σ H,W i m σ H->
   ((Ite K b a xs).stop i H/\D.nx σ H)\/((Ite K b a xs).go i H/\∃N:St->Hp->Prop,(∀σ' H',N σ' H'->∃m',m'<m/\W (i+1) m' σ' H')/\∀x H',(Ite K b a xs).yld i H x H'->g x σ H' fun σ2 H2=>tb {D with nx:=N,ct:=N,bk:=D.nx} σ2 H2):=by
 refine⟨fun i m σ H=>m=xs.length-i/\i<=xs.length/\Pv i σ H,⟨xs.length,by simp,jj _,h0⟩,?_⟩
 rintro i m σ H ⟨rfl,hi,p⟩
 have q:=hl i σ H hi p
 by_cases e:i=xs.length
 ·subst e
  exact .inl ⟨⟨q,rfl⟩,hd σ H p⟩
 ·refine .inr ⟨⟨q,by omega⟩,Pv (i+1),fun σ' H' w=>⟨xs.length-(i+1),by omega,rfl,by omega,w⟩,fun x H' y=> ?_⟩
  obtain⟨t,v,rfl,ht,rfl,hv⟩:=y
  exact hs i v t σ H hv p ht
section
variable{ini:St}{H:Hp}{g:TG}{tc:TT}{te:TE}{Fin:List V->Hp->Prop}{K:W.Frag}{b:Bool}{a:Addr}{xs:List V}
theorem Lr(Pv:Nat->List V->St->Hp->Prop)(h0:Pv 0 [] ini H)(hl:∀(i:Nat) acc σ H,i<=xs.length->Pv i acc σ H->Fe K b H a xs)(hz:∀(i:Nat) acc σ H,i<=xs.length->Pv i acc σ H->acc.length<=i)(hx:xs.length<=sizeLine)(hs:∀(i:Nat) v t acc σ H,xs[i]? =some v->Pv i acc σ H->H t=none->g (.ref t) σ (upd H t (.tup [.int (i:Int),v])) fun σ2 H2=>tc σ2 H2 fun b H3=>if b=true then te σ2 H3 fun v H4=>Pv (i+1) (acc++[v]) σ2 H4 else Pv (i+1) acc σ2 H3)(hd:∀acc σ H,Pv xs.length acc σ H->Fin acc H):Am (Ite K b a xs) ini H g tc te Fin:=by
 refine⟨fun i m acc σ H=>m=xs.length-i/\i<=xs.length/\Pv i acc σ H,⟨xs.length,by simp,jj _,h0⟩,?_⟩
 rintro i m acc σ H ⟨rfl,hi,p⟩
 have q:=hl i acc σ H hi p
 have z:=hz i acc σ H hi p
 by_cases hlt:i<xs.length
 ·refine .inr ⟨⟨q,hlt⟩,by omega,fun acc σ H=>Pv (i+1) acc σ H,fun acc' σ' H' r=>⟨_,by omega,rfl,hlt,r⟩,fun x H' y=> ?_⟩
  obtain⟨t,v,rfl,ht,rfl,hv⟩:=y
  exact hs i v t acc σ H hv p ht
 ·have e:i=xs.length:=by omega
  subst e
  exact .inl ⟨⟨q,rfl⟩,by omega,hd acc σ H p⟩
end
section
variable{X:Cx}{e m a:Expr}{te:TE}{tm:TO}{ta:TA}{p p' pos pos' p2:Pos}
def distinct(ns:List Int):Nat:=(firstMet (fun i=>ns.getD i 0) ns.length).length
def RG(K:W.Frag)(ta:TA):TE:=fun σ H Q=>ta σ H fun vs H1=>∃(l:Addr) (ns:List Int),vs=[.ref l]/\SqL K H1 l (ns.map V.int)/\ns.length<1000/\Q (.int (distinct ns:Int)) H1
theorem Kg(hc:X.calm=true)(YH:Gl X "len")(YD:X.mg "len"=none)(hg:Gl X "set")(hm:X.mg "set"=none)(ha:PA X [a] ta)(hs:starEach [a] X.env=[(false,eval a X.env)]:=by rfl)(hs2:starEach [Expr.Call (.Name "set" p') [a] [] pos'] X.env=[(false,eval (Expr.Call (.Name "set" p') [a] [] pos') X.env)]:=by rfl):
  PE X (.Call (.Name "len" p) [.Call (.Name "set" p') [a] [] pos'] [] pos) (RG X.K ta):=by
 intro pins s σ H Q I h
 refine Ng (ld_blt I YH YD uV ?_ (by decide) (by decide))
 refine wbr ?_ hs2 rfl
 rw[hs2]
 refine X5 ?_
 refine Call_ (ld_blt I hg hm (show bootBuiltins "set"=some (.type "set")from by decide+kernel) (Nk (thn (ha pos' pins s σ H _ I h) fun us s1 ⟨vs,H1,I1,r1,q1⟩=> ?_) hs rfl))
 obtain⟨l,ns,e,hq,hz,q⟩:=q1
 subst e
 cases r1 with
 |cons r rr=>
  cases rr
  cases r
  obtain⟨its,rv,pl,_⟩:=I1.list hq
  have hi:IntsAre its ns:=intsAre_of rv
  have PX:its.length=ns.length:=IntsAre.length hi
  refine PySem.call_set_list (ns:=ns) (I.ok.hd hc) pl.isList (by simpa using hi) (by unfold scanBound;simp;omega) fun h' tk hS hk=> ?_
  refine X4 ?_
  obtain⟨o,ho,hex,es,ep,t,hd,hel,hmem,hn,hf⟩:=hS.objOf
  have hsz:its.toArray.size=ns.length:=by rw[dW];exact PX
  rw[hsz]at hn
  have hle:=wdw (fun i=>ns.getD i 0) ns.length
  refine call_len_set ho hex hd hf (by omega) ?_
  have e2:(es.size:Int)=(distinct ns:Int):=by rw[hn];rfl
  rw[e2]
  have I2:Inv X pins σ H1 {s1 with heap:=h',toks:=tk}:=I1.kept fun b o e=>hk b o (dw e) e
  exact⟨.int _,H1,I2.tok _,⟨_,rfl⟩,q⟩
theorem IW{l:List Int}{k:Int}(h:k∈l):step_dedup l k=l:=by unfold step_dedup;simp[h]
theorem CP{l:List Int}{k:Int}(h:¬k∈l):step_dedup l k=l++[k]:=by unfold step_dedup;simp[h]
theorem qY(ns:List Int):∀(i:Nat),i<=ns.length->∀k,k∈firstMet (fun i=>ns.getD i 0) i↔k∈ns.take i
 |0,_,k=>by rw[firstMet_zero,List.take_zero]
 |i+1,h,k=>by
  have ih:=qY ns i (by omega) k
  have e1:ns.getD i 0=ns[i]:=by simp[show i<ns.length by omega]
  rw[firstMet_succ,Ao,iY (by omega),fj,<-ih]
  try dsimp only
  rw[e1]
  by_cases hm:ns[i]∈firstMet (fun i=>ns.getD i 0) i
  ·rw[IW hm]
   constructor
   ·exact .inl
   ·rintro(z|z)
    ·exact z
    ·have:k=ns[i]:=by simpa using z
     rw[this];exact hm
  ·rw[CP hm,fj]
   simp
theorem qZ(ns:List Int):distinct ns=ns.length↔ns.Nodup:=by
 have key:∀i:Nat,i<=ns.length->((firstMet (fun i=>ns.getD i 0) i).length=i↔(ns.take i).Nodup):=by
  intro i
  induction i with
  |zero=>intro _;simp[firstMet_zero]
  |succ i ih=>
   intro h
   have ih:=ih (by omega)
   have hle:=wdw (fun i=>ns.getD i 0) i
   have e1:ns.getD i 0=ns[i]:=by simp[show i<ns.length by omega]
   have hm:=qY ns i (by omega) ns[i]
   rw[firstMet_succ,Ao,iY (by omega)]
   try dsimp only
   rw[e1]
   by_cases c:ns[i]∈firstMet (fun i=>ns.getD i 0) i
   ·rw[IW c]
    constructor
    ·intro z;omega
    ·intro z
     exfalso
     rw[JQ]at z
     exact z.2.2 ns[i] (hm.mp c) ns[i] (by simp) rfl
   ·rw[CP c,iz]
    constructor
    ·intro z
     have z':(firstMet (fun i=>ns.getD i 0) i).length+1=i+1:=z
     refine JQ.mpr ⟨ih.mp (by omega),by simp,fun a ha b hb e=> ?_⟩
     have eb:b=ns[i]:=by simpa using hb
     exact c (hm.mpr (by rw[<-eb,<-e];exact ha))
    ·intro z
     rw[JQ]at z
     show(firstMet (fun i=>ns.getD i 0) i).length+1=i+1
     rw[ih.mpr z.1]
 have:=key ns.length (bx _)
 rw[ux]at this
 exact this
theorem Ke(K:W.Frag){tg l:Expr}{tl:TE}(hl:PE X l tl)(h:X.K=K:=by rfl):PI X tg l (PN K tl):=by subst h;exact Mf hl
theorem N7(K:W.Frag)(h:X.K=K:=by rfl):SlR X (rSlL K):=by subst h;exact sl_list
theorem N6(K:W.Frag)(h:X.K=K:=by rfl):SlR X (Yh K):=by subst h;exact RL
theorem Dz(K:W.Frag)(h:X.K=K:=by rfl):OpR X (binaryOp .Add) (U5 K):=by subst h;exact RZ
def Its(K:W.Frag)(b:Bool)(a:Addr)(xs:List V):It:=⟨fun i H=>Fe K b H a xs/\i<xs.length,fun i H x H'=>H'=H/\xs[i]? =some x,fun i H=>Fe K b H a xs/\i=xs.length⟩
def Yy(K:W.Frag)(tl:TE):TI:=fun σ H R=>tl σ H fun x H1=>∃(b:Bool) (a:Addr) (xs:List V),x= .ref a/\Fe K b H1 a xs/\(xs.length<=sizeLine->R (Its K b a xs) H1)
theorem Turn.its{P:Program}{w:World}{K:W.Frag}{tg:Expr}{J:It}{fp:List Addr}{it:Addr}{tn:Nat->Heap->Prop}{b:Bool}{a:Addr}{xs:List V}(T:Turn P w K tg J fp it tn)(hg:∀i H,(Its K b a xs).go i H->J.go i H/\∀x H',J.yld i H x H'->(Its K b a xs).yld i H x H')(hs:∀i H,(Its K b a xs).stop i H->J.stop i H):Turn P w K tg (Its K b a xs) fp it tn where
 mem:=T.mem
 obj:=T.obj
 keep:=T.keep
 item:=fun X h1 h2 h3 h4 i pins s σ H E I hf st g=>by
  obtain⟨g1,g2⟩:=hg i H g
  refine Mt (T.item X h1 h2 h3 h4 i pins s σ H E I hf st g1) (fun r s1 ⟨u,e,q⟩=>⟨u,e,Mt q (fun _ s2 ⟨x,H',a1,a2,a3,a4⟩=>⟨x,H',a1,a2,g2 x H' a3,a4⟩) fun _ _ e=>e⟩) fun _ _ e=>e
 done:=fun X h1 h2 h3 h4 i pins s σ H E I hf st g=>T.done X h1 h2 h3 h4 i pins s σ H E I hf st (hs i H g)
 self:=T.self
theorem Jo{tg l:Expr}{tl:TE}(hl:PE X l tl):PI X tg l (Yy X.K tl):=by
 intro pins s σ H R I h
 refine thn (hl pins s σ H _ I h) fun v s1 ⟨x,H1,I1,r1,q1⟩=> ?_
 obtain⟨b,a,xs,e,hq,q⟩:=q1
 subst e
 cases r1
 cases b with
 |false=>
  have hq':SqL X.K H1 a xs:=hq
  obtain⟨its,rv,p,hz⟩:=I1.list hq'
  refine WR p.isList ?_
  refine⟨s1.heap.objs.size,[s1.heap.objs.size],_,_,H1,rfl,I1.kept (t':=s1.toks) fun b o e=>fV _ e,Turn.its (b:=false) (a:=a) (xs:=xs) (turn_list a _) (fun i H g=>⟨⟨xs,xs[i]'g.2,g.1,iY g.2⟩,fun x H' y=>⟨y.1,y.2 xs g.1⟩⟩) (fun i H g=>⟨xs,g.1,Fx g.2.symm⟩),⟨_,qp _ rfl,rfl,rfl⟩,fun b hb=> ?_,q hz⟩
  have e:b=s1.heap.objs.size:=by simpa using hb
  subst e
  exact I1.fpOk (bx _) (I1.hok.fresh (bx _))
 |true=>
  have hq':SqT X.K H1 a xs:=hq
  obtain⟨its,rv,p,hz⟩:=I1.tuple hq'
  refine WW (show s1.heap.IsTuple a its.toArray from p) ?_
  refine⟨s1.heap.objs.size,[s1.heap.objs.size],_,_,H1,rfl,I1.kept (t':=s1.toks) fun b o e=>fV _ e,Turn.its (b:=true) (a:=a) (xs:=xs) (turn_tuple a _) (fun i H g=>⟨⟨xs,xs[i]'g.2,g.1,iY g.2⟩,fun x H' y=>⟨y.1,y.2 xs g.1⟩⟩) (fun i H g=>⟨xs,g.1,Fx g.2.symm⟩),⟨_,qp _ rfl,rfl,rfl⟩,fun b hb=> ?_,q hz⟩
  have e:b=s1.heap.objs.size:=by simpa using hb
  subst e
  exact I1.fpOk (bx _) (I1.hok.fresh (bx _))
end
section
variable{ini:St}{H:Hp}{g:TG}{tc:TT}{te:TE}{Fin:List V->Hp->Prop}{K:W.Frag}{b:Bool}{a:Addr}{xs:List V}
theorem Es(Pv:Nat->List V->St->Hp->Prop)(h0:Pv 0 [] ini H)(hl:∀(i:Nat) acc σ H,i<=xs.length->Pv i acc σ H->Fe K b H a xs)(hz:∀(i:Nat) acc σ H,i<=xs.length->Pv i acc σ H->acc.length<=i)(hx:xs.length<=sizeLine)(hs:∀(i:Nat) x acc σ H,xs[i]? =some x->Pv i acc σ H->g x σ H fun σ2 H2=>tc σ2 H2 fun b H3=>if b=true then te σ2 H3 fun v H4=>Pv (i+1) (acc++[v]) σ2 H4 else Pv (i+1) acc σ2 H3)(hd:∀acc σ H,Pv xs.length acc σ H->Fin acc H):Am (Its K b a xs) ini H g tc te Fin:=by
 refine⟨fun i m acc σ H=>m=xs.length-i/\i<=xs.length/\Pv i acc σ H,⟨xs.length,by simp,jj _,h0⟩,?_⟩
 rintro i m acc σ H ⟨rfl,hi,p⟩
 have q:=hl i acc σ H hi p
 have z:=hz i acc σ H hi p
 by_cases hlt:i<xs.length
 ·refine .inr ⟨⟨q,hlt⟩,by omega,fun acc σ H=>Pv (i+1) acc σ H,fun acc' σ' H' r=>⟨_,by omega,rfl,hlt,r⟩,fun x H' y=> ?_⟩
  obtain⟨rfl,hv⟩:=y
  exact hs i x acc σ _ hv p
 ·have e:i=xs.length:=by omega
  subst e
  exact .inl ⟨⟨q,rfl⟩,by omega,hd acc σ H p⟩
end
theorem Fe.same{K:W.Frag}{b:Bool}{H H':Hp}{a:Addr}{xs:List V}(h:Fe K b H a xs)(e:Same H H'):Fe K b H' a xs:=by
 cases b with
 |false=>exact e.seq (show SqL K H a xs from h)
 |true=>exact e.tup (show SqT K H a xs from h)
theorem Ji{s u:TS}{D:Ends}{σ:St}{H:Hp}(I:St->Hp->Prop)(h1:∀N:St->Hp->Prop,(∀σ' H',I σ' H'->N σ' H')->s {D with nx:=N} σ H)(h2:∀σ' H',I σ' H'->u D σ' H'):tSeq s u D σ H:=h1 (u D) h2
section
variable{K:W.Frag}{σ:St}{H0:Hp}{tp:Addr}
end
theorem HS:∀(names:List (Str×NameKind)) (n:Nat) (acc:List (Str×Addr)) {x:Str} {c:Addr},(x,c)∈cellsFrom n names acc->(x,c)∈acc\/((x,NameKind.cell)∈names/\n<=c)
 |[],_,_,_,_,h=> .inl h
 |(nm,k)::r,n,acc,x,c,h=>by
  unfold cellsFrom at h
  split at h
  ·rename_i hk
   have ek:k=NameKind.cell:=by simpa using hk
   rcases HS r _ _ h with q|⟨q,m⟩
   ·rcases cT.mp q with e|e
    ·cases e
     subst ek
     exact .inr ⟨jl,bx _⟩
    ·exact .inl e
   ·exact .inr ⟨lZ _ q,by omega⟩
  ·rcases HS r _ _ h with q|⟨q,m⟩
   ·exact .inl q
   ·exact .inr ⟨lZ _ q,m⟩
theorem Ck:∀(names:List (Str×NameKind)) (n:Nat) (acc:List (Str×Addr)) {p:Str×Addr},p∈acc->p∈cellsFrom n names acc
 |[],_,_,_,h=>h
 |(nm,k)::r,n,acc,p,h=>by
  unfold cellsFrom
  split
  ·exact Ck r _ _ (lZ _ h)
  ·exact Ck r _ _ h
theorem HX:∀(names:List (Str×NameKind)) (n:Nat) (acc:List (Str×Addr)) {x:Str},(x,NameKind.cell)∈names->∃c,(x,c)∈cellsFrom n names acc
 |(nm,k)::r,n,acc,x,h=>by
  unfold cellsFrom
  rcases cT.mp h with e|e
  ·cases e
   rw[bD (show(NameKind.cell==NameKind.cell)=true from rfl)]
   exact⟨n,Ck r _ _ jl⟩
  ·split
   ·exact HX r _ _ e
   ·exact HX r _ _ e
theorem HW{n0:Nat}:∀(names:List (Str×NameKind)) (n:Nat) (acc:List (Str×Addr)),n0<=n->(∀x y c,(x,c)∈acc->(y,c)∈acc->n0<=c->x=y)->(∀x c,(x,c)∈acc->c<n)->∀x y c,(x,c)∈cellsFrom n names acc->(y,c)∈cellsFrom n names acc->n0<=c->x=y
 |[],_,_,_,h,_=>h
 |(nm,k)::r,n,acc,hn,h,hl=>by
  unfold cellsFrom
  split
  ·refine HW r (n+1) ((nm,n)::acc) (by omega) (fun x y c hx hy hc=> ?_) (fun x c hx=> ?_)
   ·rcases cT.mp hx with e1|e1<;>rcases cT.mp hy with e2|e2
    ·cases e1;cases e2;rfl
    ·cases e1;exact absurd (hl _ _ e2) (yS _)
    ·cases e2;exact absurd (hl _ _ e1) (yS _)
    ·exact h x y c e1 e2 hc
   ·rcases cT.mp hx with e1|e1
    ·cases e1;exact Ru _
    ·exact Mr (hl _ _ e1)
  ·exact HW r n acc hn h hl
theorem Cj:∀(names:List (Str×NameKind)) (h:Heap) (acc:List (Str×Addr)) {x:Str} {c:Addr},(x,c)∈cellsFrom h.objs.size names acc->(x,c)∈acc\/(pushCells h names).IsCell c none
 |[],_,_,_,_,h=> .inl h
 |(nm,k)::r,h,acc,x,c,hm=>by
  unfold cellsFrom at hm
  unfold pushCells
  split at hm
  ·rename_i hk
   rw[bD hk]
   have hm':(x,c)∈cellsFrom (h.push {cls:= .type "cell",data:= .cell none}).objs.size r ((nm,h.objs.size)::acc):=by rw[Q8];exact hm
   rcases Cj r (h.push {cls:= .type "cell",data:= .cell none}) _ hm' with q|q
   ·rcases cT.mp q with e|e
    ·cases e
     exact .inr ⟨_,wdk _ _ _ _ (qp _ rfl),rfl⟩
    ·exact .inl e
   ·exact .inr q
  ·rename_i hk
   rw[bC hk]
   exact Cj r h acc hm
theorem Sg{M:Model}{A:Around}{E:Value->Shared->Prop}{s:Shared}{scope:Scope}{globals:Addr}{closure:List (Str×Addr)}{qual:Str}{env:Env}{Q:Env->Shared->Prop}(hQ:Q (newEnv scope s.heap.objs.size globals (cellsFrom (s.heap.objs.size+1) scope.names closure) qual none Value.none (some env) 0) {s with heap:=pushCells (s.heap.push {cls:= .type "dict",data:= .dict #[]}) scope.names}):
  wpAny M A (newFunctionEnv scope globals closure [] qual none .none (some env)) Q E s:=by
 simp only[newFunctionEnv,Option.isSome_some,Vo]
 refine aK (wpAny_alloc ?_)
 refine aK (wpAny_layCells _ (fun name kind cells=>by cases hkc:kind==NameKind.cell<;>simp[hkc]) _ _ _ _ ?_)
 rw[List.forIn_nil]
 refine aK (bO (bO ?_))
 rw[show({s with heap:=s.heap.push {cls:= .type "dict",data:= .dict #[]}}:Shared).heap.objs.size=s.heap.objs.size+1 from Q8 ..]
 exact hQ
def aW(sc scope:Scope):Bool:=scope.names.all fun p=>(p.2 !=NameKind.cell||scope.names.lookup p.1==some NameKind.cell)&&(p.2 !=NameKind.local||scope.names.lookup p.1==some NameKind.local)&&
 (p.2 !=NameKind.free||(scope.names.lookup p.1==some NameKind.free&&(sc.names.lookup p.1==some NameKind.cell||sc.names.lookup p.1==some NameKind.free)))
section
variable{sc scope:Scope}
theorem aW.cell(h:aW sc scope=true){x:Str}(hy:(x,NameKind.cell)∈scope.names):scope.names.lookup x=some .cell:=by
 have q:=mO.mp h _ hy
 simpa using q
theorem aW.names(h:aW sc scope=true):∀y∈scope.names,y.2= .local->scope.names.lookup y.1=some .local:=fun y hy e=>by
 have q:=mO.mp h y hy
 simpa[e]using q
theorem aW.free(h:aW sc scope=true){x:Str}(hy:(x,NameKind.free)∈scope.names):scope.names.lookup x=some .free/\(sc.names.lookup x=some .cell\/sc.names.lookup x=some .free):=by
 have q:=mO.mp h _ hy
 simpa using q
end
theorem Du{scope:Scope}{env:Env}{x:Str}(h:(relabel scope env).names.lookup x=some .cell\/(relabel scope env).names.lookup x=some .free):(x,NameKind.free)∈scope.names\/(x,NameKind.cell)∈scope.names:=by
 cases e:scope.names.lookup x with
 |none=>
  have q:=wg (env:=env) e
  rcases h with h|h
  ·rw[show(relabel scope env).names.lookup x=none from q]at h;cases h
  ·rw[show(relabel scope env).names.lookup x=none from q]at h;cases h
 |some k=>
  have q:=nQ (env:=env) e
  have m:=Nj e
  by_cases hk:k= .free
  ·subst hk;exact .inl m
  ·have q':(relabel scope env).names.lookup x=some k:=by
    refine Eq.trans q ?_
    have:(k==NameKind.free)=false:=by simpa using hk
    simp[this]
   rw[q']at h
   rcases h with h|h
   ·cases h;exact .inr m
   ·cases h;exact absurd rfl hk
def cM(X:Cx)(scope:Scope)(N:List Str)(s:Shared)(H:Hp)(cl:List (Str×Addr))(C:Addr)(ex:List Addr):Cx:=
 {X with N:=N,s₀:=s,H₀:=H,env:=compEnvC scope cl C X.env,outer:=X.stack,ex:=ex,fn:=fun x=>scope.names.lookup x==some NameKind.cell,pn:=[],xe:=fun _ _=>False}
section
variable{X:Cx}{tg iter elt:Expr}{ifs:List Expr}{scope:Scope}{pos:Pos}{own caps:List Str}{ix:List Nat}{g:TG}{tc:TT}{te:TE}
abbrev Mx(X:Cx)(scope:Scope)(C:Addr):List (Str×Addr):=cellsFrom (C+1) scope.names (mJ X.env.cells scope.names [])
theorem Cg{pins:List (Addr×Obj)}{s:Shared}{σ:St}{H:Hp}{C:Addr}(ck:aW X.env.scope scope=true)(I:Inv X pins σ H s){x:Str}{c:Addr}(e:(Mx X scope C).lookup x=some c):
  (X.env.cells.lookup x=some c/\(x,NameKind.free)∈scope.names)\/((x,NameKind.cell)∈scope.names/\C<c/\(x,c)∉mJ X.env.cells scope.names []):=by
 have old:(x,c)∈mJ X.env.cells scope.names []->X.env.cells.lookup x=some c/\(x,NameKind.free)∈scope.names:=fun q=>by
  rcases q9 q with q|⟨q,mm⟩
  ·cases q
  ·obtain⟨d,hd⟩:=I.ok.has x (aW.free ck mm).2
   rw[hd]at q
   have q:c=d:=q
   rw[q]
   exact⟨hd,mm⟩
 rcases HS _ _ _ (Nj e)with q|⟨q,m⟩
 ·exact .inl (old q)
 ·refine .inr ⟨q,m,fun z=> ?_⟩
  have h1:=aW.cell ck q
  have h2:=(aW.free ck (old z).2).1
  rw[h1]at h2;cases h2
theorem Et{pins:List (Addr×Obj)}{s s':Shared}{σ:St}{H:Hp}{fp:List Addr}{C:Addr}{m:Str->Option Value}(ck:aW X.env.scope scope=true)(hkind:scope.kind= .function)(hcap:uq X scope caps ix)
  (I:Inv X pins σ H s)(f2:∀b∈fp,FpOk X pins H b)(hlt:∀b∈fp,b<s.heap.objs.size)(hC:s.heap.objs.size<=C)(hos:s'.os=s.os)(hg:AllBare s'.gens)(hk:∀b o,s.heap.get? b=some o->s'.heap.get? b=some o)(hn:s'.heap.Ns C m)(hcl:∀x c,(Mx X scope C).lookup x=some c->(x,c)∉mJ X.env.cells scope.names []->s'.heap.IsCell c none):
  Inv (cM X scope (own++caps) s H (Mx X scope C) C fp) [] (Ef own ix σ) H s':=by
 have cl1:=fun x c e=>Cg (C:=C) (x:=x) (c:=c) ck I e
 have Jr:∀x c,X.env.cells.lookup x=some c->c<s.heap.objs.size:=fun x c e=>by
  obtain⟨v,o,ho,_⟩:=I.cell x c e
  exact dw ho
 have cl2:∀x,(x,NameKind.free)∈scope.names\/(x,NameKind.cell)∈scope.names->∃c,(Mx X scope C).lookup x=some c:=fun x mm=>by
  rcases mm with mm|mm
  ·obtain⟨c,hc⟩:=Eu (cells:=X.env.cells) (acc:=[]) mm
   obtain⟨d,hd,_⟩:=Z9 (Ck scope.names (C+1) _ hc)
   exact⟨d,hd⟩
  ·obtain⟨c,hc⟩:=HX scope.names (C+1) (mJ X.env.cells scope.names []) mm
   obtain⟨d,hd,_⟩:=Z9 hc
   exact⟨d,hd⟩
 have inj:∀x y c,(Mx X scope C).lookup x=some c->(Mx X scope C).lookup y=some c->x=y:=fun x y c h1 h2=>by
  rcases cl1 x c h1 with⟨q1,_⟩|⟨q1,m1,_⟩<;>rcases cl1 y c h2 with⟨q2,_⟩|⟨q2,m2,_⟩
  ·exact I.ok.inj x y c q1 q2
  ·exact absurd (yO (mQ (Jr x c q1) hC) m2) (yS _)
  ·exact absurd (yO (mQ (Jr y c q2) hC) m1) (yS _)
  ·refine HW (n0:=C+1) scope.names (C+1) _ (bx _) (fun x y c hx hy hc=> ?_) (fun x c hx=> ?_) x y c (Nj h1) (Nj h2) m1
   ·obtain⟨d,hd,_⟩:=Z9 hx
    rcases q9 hx with q|⟨q,mm⟩
    ·cases q
    ·obtain⟨d,hd⟩:=I.ok.has x (aW.free ck mm).2
     rw[hd]at q
     have q:c=d:=q
     subst q
     exact absurd (mQ (mQ (Jr x c hd) hC) (Mi hc)) (yS _)
   ·rcases q9 hx with q|⟨q,mm⟩
    ·cases q
    ·obtain⟨d,hd⟩:=I.ok.has x (aW.free ck mm).2
     rw[hd]at q
     have q:c=d:=q
     subst q
     exact Mr (mQ (Jr x c hd) hC)
 have bsz:X.base.objs.size<=s.heap.objs.size:=gJ I.ok.bsz I.sz
 refine⟨⟨I.ok.mod,hkind,I.ok.glob,I.ok.blt,hC,inj,fun x hx=>cl2 x (Du hx),fun x c h e=> ?cab,I.ok.hd,I.ok.frames,.inl rfl,fun b hb=>⟨fU (mQ (hlt b hb) hC),fun x c e=> ?exf⟩,I.bs,bsz,
  fun b o e hb=> ?_,fun b hb hz=> ?_,I.stack,I.stkFree⟩,?_,hg,Un.kept hk,⟨m,hn,fun i x v h1 h2 h3=> ?_⟩,fun x c e=> ?_,I.hok.fresh hC,fun x c e=> ?frc,fun p hp=>absurd (show p∈([]:List (Addr×Obj))from hp) (by simp),I.hok.kept hk,?_⟩
 case cab=>
  rcases cl1 x c e with⟨_,q⟩|⟨_,q,_⟩
  ·have y1:=(aW.free ck q).1
   have y2:(scope.names.lookup x==some NameKind.cell)=true:=h
   rw[y1]at y2
   exact absurd y2 (by decide)
  ·exact gJ hC (Mi q)
 case exf=>
  rcases cl1 x c e with⟨q,_⟩|⟨_,q,_⟩
  ·exact(f2 b hb).2.2.2.2.1 x c q
  ·exact zF (fU (yO (mQ (hlt b hb) hC) q))
 case frc=>
  rcases cl1 x c e with⟨q,_⟩|⟨_,q,_⟩
  ·exact I.freeC x c q
  ·exact I.hok.fresh (gJ hC (Mi q))
 ·rcases(f2 b hb).2.2.2.1 with z|z
  ·exact I.ok.noex b o e z
  ·exact absurd (mQ (dw e) (gJ I.ok.bsz z)) (yS _)
 ·rcases cT.mp (I.stkSub b hz)with z|z
  ·exact(f2 b hb).2.1 z
  ·exact(f2 b hb).2.2.1 z
 ·exact hos
 ·have h1:(own++caps)[i]? =some x:=h1
  have h2:(own.map (fun _=>(none:Option V))++ix.map fun j=>(σ[j]?).join)[i]? =some (some v):=h2
  by_cases hi:i<own.length
  ·rw[Xw (by simpa using hi),gw]at h2
   cases e:own[i]? <;>rw[e]at h2<;>simp at h2
  ·rw[Xx (by simpa using hi)]at h2
   rw[Xx (by omega)]at h1
   rw[aQ]at h2
   obtain⟨j,e1,e2,e3⟩:=hcap.get h1
   rw[gw,e1]at h2
   have h2':(σ[j]?).join=some v:=by simpa using h2
   have h4:σ[j]? =some (some v):=by
    cases q:σ[j]? with
    |none=>rw[q]at h2';cases h2'
    |some w=>rw[q]at h2';exact rH some h2'
   obtain⟨m0,hn0,hl0⟩:=I.loc
   have mm:=Nj e3
   have vis:=(aW.free ck mm).2
   obtain⟨u,r,l⟩:=hl0 j x v e2 h4 (.inr vis)
   refine⟨u,r,.inr ?_⟩
   rcases l with⟨k,_⟩|⟨k,c,e,z⟩
   ·rcases vis with q|q
    ·rw[show X.env.kindOf x=some .cell from q]at k;cases k
    ·rw[show X.env.kindOf x=some .free from q]at k;cases k
   ·obtain⟨d,hd⟩:=cl2 x (.inl mm)
    rcases cl1 x d hd with⟨this,_⟩|⟨qc,_⟩
    ·rw[e]at this
     cases this
     exact⟨Gq e3,c,hd,z.keeps hk⟩
    ·have y1:=aW.cell ck qc
     rw[e3]at y1;cases y1
 ·rcases cl1 x c e with⟨q,_⟩|⟨_,_,q⟩
  ·obtain⟨v,z⟩:=I.cell x c q
   exact⟨v,z.keeps hk⟩
  ·exact⟨none,hcl x c e q⟩
 ·show(own.map (fun _=>(none:Option V))++ix.map fun j=>(σ[j]?).join).length=(own++caps).length
  simp[hcap.len]
theorem yw(ck:aW X.env.scope scope=true)(hkind:scope.kind= .function)(hcap:uq X scope caps ix)(hc:X.calm=true)(hg:∀s H cl C ex,PG (cM X scope (own++caps) s H cl C ex) tg g)(ht:∀s H cl C ex,Xk (cM X scope (own++caps) s H cl C ex) ifs tc)(he:∀s H cl C ex,PE (cM X scope (own++caps) s H cl C ex) elt te){pins:List (Addr×Obj)}{s2:Shared}{σ:St}{H2:Hp}{E:Value->Shared->Prop}(I2:Inv X pins σ H2 s2){it:Addr}{fp:List Addr}{tn:Nat->Heap->Prop}{J:It}(T:Turn X.prog X.w X.K tg J fp it tn)(st2:tn 0 s2.heap)(f2:∀b∈fp,FpOk X pins H2 b)
  {W:Nat->Nat->List V->St->Hp->Prop}{m0:Nat}(w0:W 0 m0 [] (Ef own ix σ) H2){Fin:List V->Hp->Prop}(turn:∀i m acc σ H,W i m acc σ H->(J.stop i H/\acc.length<=sizeLine/\Fin acc H)\/(J.go i H/\acc.length<sizeLine/\∃N:List V->St->Hp->Prop,(∀acc' σ' H',N acc' σ' H'->∃m',m'<m/\W (i+1) m' acc' σ' H')/\∀x H',J.yld i H x H'->g x σ H' fun σ2 H2=>tc σ2 H2 fun b H3=>
   if b=true then te σ2 H3 fun v H4=>N (acc++[v]) σ2 H4 else N acc σ2 H3))
  {RR:Value->Addr->Result->Shared->Prop}(hRR:∀D C s' acc Hf m,Inv X pins σ (upd Hf D (.lst acc)) s'->Hf D=none->s'.heap.Ns C m->FpOk X pins (upd Hf D (.lst acc)) C->Fin acc Hf->RR (.ref D) C (.ok .next) s'):
  wpAny (model X.prog X.w) X.A (newList []) (fun acc s₃=>wpAny (model X.prog X.w) X.A (newFunctionEnv scope X.env.globals (mJ X.env.cells scope.names []) [] X.env.qual none .none (some X.env)) (fun cenv s₄=>
   codeAny (model X.prog X.w) X.A (.compStart (.ListComp elt [⟨tg,iter,ifs,0⟩] scope pos) 0 (.ref it) acc {cenv with scope:=relabel scope X.env}) (RR acc cenv.locals) s₄) E s₃) E s2:=by
 refine was (Sg ?_)
 generalize hP:s2.heap.push {cls:= .type "list",dict:=none,data:= .seq ([]:List Value).toArray}=P1
 have hC:P1.objs.size=s2.heap.objs.size+1:=by rw[<-hP,Q8]
 have hlt:∀b∈fp,b<s2.heap.objs.size:=fun b hb=>by
  obtain⟨o,e,_⟩:=T.obj _ _ st2 b hb
  exact dw e
 generalize hh1:pushCells (P1.push {cls:= .type "dict",data:= .dict #[]}) scope.names=h₁
 have hns₁:h₁.Ns P1.objs.size (fun _=>none):=by rw[<-hh1];exact(Heap.Ns.new P1 (.type "dict")).keeps (wdk _ _)
 have old:∀b o,s2.heap.get? b=some o->h₁.get? b=some o:=fun b o e=>by
  rw[<-hh1];exact wdk _ _ b o (fV _ (hP▸fV _ e))
 have hD1:h₁.get? s2.heap.objs.size=some {cls:= .type "list",data:= .seq ([]:List Value).toArray 0}:=by
  rw[<-hh1];exact wdk _ _ _ _ (fV _ (hP▸qp _ rfl))
 have YK:∀x c,(Mx X scope P1.objs.size).lookup x=some c->(x,c)∉mJ X.env.cells scope.names []->h₁.IsCell c none:=fun x c e n=>by
  have e':(x,c)∈cellsFrom (P1.objs.size+1) scope.names (mJ X.env.cells scope.names []):=Nj e
  rw[show P1.objs.size+1=(P1.push {cls:= .type "dict",data:= .dict #[]}).objs.size from(Q8 ..).symm]at e'
  rcases Cj _ _ _ e' with q|q
  ·exact absurd q n
  ·rw[<-hh1];exact q
 show codeAny (model X.prog X.w) X.A (.compStart (.ListComp elt [⟨tg,iter,ifs,0⟩] scope pos) 0 (.ref it) (.ref s2.heap.objs.size) {newEnv scope P1.objs.size X.env.globals (Mx X scope P1.objs.size) X.env.qual none Value.none (some X.env) 0 with scope:=relabel scope X.env}) (RR (.ref s2.heap.objs.size) P1.objs.size) {s2 with heap:=h₁}
 generalize SJ:s2.heap.objs.size=D at *
 rw[hC]at hns₁ YK⊢
 have entry:Inv (cM X scope (own++caps) s2 H2 (Mx X scope (D+1)) (D+1) fp) [] (Ef own ix σ) H2 {s2 with heap:=h₁}:=
  Et ck hkind hcap I2 f2 (by rw[SJ];exact hlt) (by rw[SJ];exact Vl _) rfl I2.bare old hns₁ YK
 generalize hX':cM X scope (own++caps) s2 H2 (Mx X scope (D+1)) (D+1) fp=X' at entry
 have eP:X'.prog=X.prog:=by rw[<-hX'];rfl
 have ew:X'.w=X.w:=by rw[<-hX'];rfl
 have eK:X'.K=X.K:=by rw[<-hX'];rfl
 have eA:X'.A=X.A:=by rw[<-hX'];rfl
 have Vd:X'.calm=true:=by rw[<-hX'];exact hc
 have efs:X'.fs=frs X.stack:=by rw[<-hX'];rfl
 have eex:X'.ex=fp:=by rw[<-hX'];rfl
 have epn:X'.pn=[]:=by rw[<-hX'];rfl
 have es0:X'.s₀=s2:=by rw[<-hX'];rfl
 have eH0:X'.H₀=H2:=by rw[<-hX'];rfl
 have exe:X'.xe=fun _ _=>False:=by rw[<-hX'];rfl
 have Tt:X'.env=compEnvC scope (Mx X scope (D+1)) (D+1) X.env:=by rw[<-hX'];rfl
 have Qp:X'.env.locals=D+1:=by rw[Tt];rfl
 have hg':PG X' tg g:=by rw[<-hX'];exact hg _ _ _ _ _
 have ht':Xk X' ifs tc:=by rw[<-hX'];exact ht _ _ _ _ _
 have he':PE X' elt te:=by rw[<-hX'];exact he _ _ _ _ _
 have ecl:∀x c,X'.env.cells.lookup x=some c->c≠D:=fun x c e=>by
  rw[Tt]at e
  rcases Cg (C:=D+1) ck I2 e with⟨q,_⟩|⟨_,q,_⟩
  ·obtain⟨v',o',ho',_⟩:=I2.cell x c q
   exact fU (by rw[<-SJ];exact dw ho')
  ·exact zF (fU (yO (Ru D) q))
 have dfs:D∉frs X.stack:=fun hb=>by
  rcases cT.mp (I2.stkSub D hb)with z|z
  ·exact absurd (Nat.lt_of_lt_of_eq I2.lt SJ) (by rw[z];exact yS _)
  ·exact I2.nofs (Fx SJ) z
 have fpn:∀{H':Hp} {o:Obj},(∀b∈fp,H' b=none)->∀b∈fp,FpOk X' [(D,o)] H' b:=fun{H' o} hn b hb=>by
  have P0:=hlt b hb
  refine⟨hn b hb,by rw[Qp];exact fU (Mr P0),?_,.inl (by rw[eex];exact hb),fun x c e=> ?_,fun p hp=> ?_⟩
  ·rw[efs]
   intro z
   rcases cT.mp (I2.stkSub b z)with z|z
   ·exact(f2 b hb).2.1 z
   ·exact(f2 b hb).2.2.1 z
  ·rw[Tt]at e
   rcases Cg (C:=D+1) ck I2 e with⟨q,_⟩|⟨_,q,_⟩
   ·exact(f2 b hb).2.2.2.2.1 x c q
   ·exact zF (fU (yO (Mr P0) q))
  ·rw[epn]at hp
   have:p=(D,o):=by simpa using hp
   rw[this]
   exact XH P0
 have abN:∀{σ':St} {H':Hp} {s':Shared} {o:Obj},Inv X' [] σ' H' s'->s'.heap.get? D=some o->H' D=none->(∀v,o.data≠.cell v)->Inv X' [(D,o)] σ' H' s':=fun{σ' H' s' o} I e n d=>
  I.pins_of fun p hp=>by
   have:p=(D,o):=by simpa using hp
   subst this
   exact⟨e,n,by rw[Qp];exact fU (Ru D),by rw[efs];exact dfs,d⟩
 have loop:∀s₃:Shared,s₃={s2 with heap:=h₁}->
   codeAny (model X.prog X.w) X.A (.compLoop (.ListComp elt [⟨tg,iter,ifs,0⟩] scope pos) 0 (.ref it) (.ref D) X'.env) (RR (.ref D) (D+1)) s₃:=by
  intro s₃ hs₃
  refine codeAny_loop rfl (fun n s'=>∃i acc its k σ' H',Inv X' [] σ' H' s'/\tn i s'.heap/\(∀b∈fp,H' b=none)/\s'.heap.get? D=some {cls:= .type "list",data:= .seq (List.toArray its) k}/\Vals acc its/\H' D=none/\W i n acc σ' H') ?_ m0
   ⟨0,[],[],0,Ef own ix σ,H2,by rw[hs₃];exact entry,by rw[hs₃];exact T.keep _ _ _ st2 fun b _ o e=>old b o e,fun b hb=>(f2 b hb).1,by rw[hs₃];exact hD1,.nil,I2.hok.fresh (Fx SJ),w0⟩
  rintro n s3 ⟨i,acc,its,k,σ3,H3,I3,st3,fr3,eD,rv,nD,w3⟩
  show wpAny _ X.A ((compTurn (.ListComp elt [⟨tg,iter,ifs,0⟩] scope pos) 0 (.ref it) (.ref D) X'.env).onRaise (fun x=>do noteFrame x X'.env;theTreesLotGoes x)) _ _ s3
  refine wpAny_noted ?_
  rw[compTurn_list]
  have noE:∀{α:Type} {t:Sem α} {Q:α->Shared->Prop} {E':Value->Shared->Prop} {s:Shared},wpAny (model X'.prog X'.w) X'.A t Q X'.xe s->wpAny (model X.prog X.w) X.A t Q E' s:=fun{α t Q E' s} h=>by
   rw[eP,ew,eA,exe]at h
   exact Mt h (fun _ _ q=>q) fun _ _ z=>z.elim
  have I3':=abN (o:={cls:= .type "list",data:= .seq (List.toArray its) k}) I3 eD nD (fun v z=>by
   have z':Data.seq (List.toArray its) k=Data.cell v:=z
   cases z')
  refine aK (wpAny_standAt (aK ?_))
  rcases turn i n acc σ3 H3 w3 with⟨stop,hz,fin⟩|⟨go,hz,Nn,hN,step⟩
  ·have q:=T.done X' eP ew eK Vd i [(D,_)] s3 σ3 H3 (notedBy (model X.prog X.w) X.A X'.env fun e s'=>RR (.ref D) (D+1) (.error e) s') I3' (fpn fr3) st3 stop
   rw[eA]at q
   refine thn q fun r s4 ⟨hr,I4⟩=> ?_
   subst hr
   refine bO ?_
   obtain⟨e4,_⟩:=I4.pin (D,_) (yX _ jl)
   obtain⟨mC,hnC,_⟩:=I4.loc
   have u4:=I4.base
   rw[efs,eex,eH0,es0]at u4
   have ok4:=I4.hok
   rw[eP,ew]at ok4
   have nC:H3 (D+1)=none:=by have:=I4.free;rw[Qp]at this;exact this
   have hok:HOk X.prog X.w (upd H3 D (.lst acc)) s4.heap:=ok4.add nD ⟨hz,its,k,rv,e4⟩
   refine hRR D (D+1) s4 acc H3 mC ?_ nD (by rw[Qp]at hnC;exact hnC) ?_ fin
   ·refine I2.call' (s':=s4) (ch:=fp) ?_ (u4.add (by rw[SJ];exact bx _) nD) hok I4.bare fun b hb=> ?_
    ·have:=I4.os;rw[es0]at this;exact this
    ·obtain⟨f0,f1,f3,f4,f5,f6⟩:=f2 b hb
     exact⟨f4,f1,f5,f6⟩
   ·refine I2.fpOk (by rw[SJ];exact Vl _) ?_
    rw[dX (XH (Ru D))]
    exact nC
  ·have q:=T.item X' eP ew eK Vd i [(D,_)] s3 σ3 H3 (notedBy (model X.prog X.w) X.A X'.env fun e s'=>RR (.ref D) (D+1) (.error e) s') I3' (fpn fr3) st3 go
   rw[eA]at q
   refine thn q fun r s4 ⟨u,hr,h4⟩=> ?_
   subst hr
   dsimp only
   refine aK (thn h4 fun _ s5 ⟨x,H5,I5,r5,y5,st5,fr5⟩=> ?_)
   have I5':=I5.pinned (fpn fr5) (T.obj _ _ st5)
   have again:∀{σ7:St} {H7:Hp} {s7:Shared},Inv X' ([(D,{cls:= .type "list",data:= .seq (List.toArray its) k})]++pinsAt fp s5.heap) σ7 H7 s7->tn (i+1) s7.heap/\(∀b∈fp,H7 b=none)/\s7.heap.get? D=some {cls:= .type "list",data:= .seq (List.toArray its) k}/\H7 D=none:=fun{σ7 H7 s7} I7=>by
    refine⟨T.keep _ _ _ st5 fun b hb o e=>(I7.pin (b,o) (yX _ (yX _ (mem_pinsAt hb e)))).1,fun b hb=> ?_,?_⟩
    ·obtain⟨o,e,d⟩:=T.obj _ _ st5 b hb
     exact(I7.pin (b,o) (yX _ (yX _ (mem_pinsAt hb e)))).2.1
    ·have:=I7.pin (D,_) (yX _ (M7 _ jl))
     exact⟨this.1,this.2.1⟩
   refine aK (thn (noE (hg' _ s5 σ3 H5 x u _ I5' r5 (step x H5 y5))) fun _ s6 ⟨σ6,H6,I6,q6⟩=> ?_)
   refine aK (thn (noE (ht' _ s6 σ6 H6 _ I6 q6)) fun ok s7 ⟨H7,I7,q7⟩=> ?_)
   cases ok with
   |false=>
    rw[bC uy]at q7
    obtain⟨m',hm,w7⟩:=hN _ _ _ q7
    obtain⟨a1,a2,a3,a4⟩:=again I7
    exact bO ⟨rfl,m',hm,i+1,acc,its,k,σ6,H7,I7.pins_of (fun p hp=>nomatch hp),a1,a2,a3,rv,a4,w7⟩
   |true=>
    rw[bD rfl]at q7
    refine aK (aK (thn (noE (he' _ s7 σ6 H7 _ I7 q7)) fun v s8 ⟨y,H8,I8,r8,q8⟩=> ?_))
    obtain⟨m',hm,w8⟩:=hN _ _ _ q8
    obtain⟨a1,a2,a3,a4⟩:=again I8
    have hl:=rv.length
    refine aK (Wz F.slot_list_append ⟨_,a3,rfl⟩ F.entry_list_append (F.args_list_append_2 _ _) (PySem.list_append D its.toArray k v (by rw[dW];omega)) ⟨a3,?_⟩)
    refine bO (bO ⟨rfl,m',hm,i+1,acc++[y],its++[v],?_⟩)
    have qD:=PySem.IsL.update a3 (fun a:Array Value=>a.push v)
    rw[List.push_toArray]at qD
    have kp:∀b o,b≠D->s8.heap.get? b=some o->(s8.heap.update D (Obj.mapSeq fun a=>a.push v)).get? b=some o:=fun b o hb e=>(Rw s8.heap _ (zF hb)).trans e
    have I8':Inv X' [] σ6 H8 {s8 with heap:=s8.heap.update D (Obj.mapSeq fun a=>a.push v)}:=by
     refine(I8.pins_of (pins':=[]) (fun p hp=>nomatch hp)).turned (t':=s8.toks) (it:=D) kp a4 (by rw[Qp];exact fU (Ru D)) (.inr (by rw[es0,SJ];exact bx _)) (fun x c e=>ecl x c e) (fun p hp=> ?_)
     rw[epn]at hp
     exact nomatch hp
    exact⟨_,σ6,H8,I8',T.keep _ _ _ a1 fun b hb o e=>kp b o (fU (hlt b hb)) e,a2,qD,rv.append (.cons r8 .nil),a4,w8⟩
 have YS:({newEnv scope (D+1) X.env.globals (Mx X scope (D+1)) X.env.qual none Value.none (some X.env) 0 with scope:=relabel scope X.env}:Env)=X'.env:=by rw[Tt];rfl
 have L:=loop _ rfl
 rw[<-YS]at L
 exact codeAny_compStart_list L (T.self X.A 0 _ _ _ (T.keep _ _ _ st2 fun b _ o e=>old b o e) L)
end
section
variable{X:Cx}{tg iter elt:Expr}{ifs:List Expr}{scope:Scope}{pos:Pos}{own caps:List Str}{ix:List Nat}{wi:TI}{g:TG}{tc:TT}{te:TE}
theorem lX(hc:X.calm=true)(hi:PI X tg iter wi)(ck:aW X.env.scope scope=true)(hkind:scope.kind= .function)(hcap:uq X scope caps ix)(hg:∀s H cl C ex,PG (cM X scope (own++caps) s H cl C ex) tg g)(ht:∀s H cl C ex,Xk (cM X scope (own++caps) s H cl C ex) ifs tc)(he:∀s H cl C ex,PE (cM X scope (own++caps) s H cl C ex) elt te)(hs:∀x,foldedSetIterable iter X.env x=pure x:=by intro _;rfl):PE X (.ListComp elt [⟨tg,iter,ifs,0⟩] scope pos) (UW wi own ix g tc te):=by
 intro pins s σ H Q I h
 rw[eval_ListComp]
 refine wpAny_comprehension_free (use:=none) rfl hs (yx fun x hx=>I.ok.has x ((aW.free ck hx).2)) hkind (aW.names ck) (thn (hi pins s σ H _ I h) fun xv s1 h1=>thn h1 fun itv s2 h2=> ?_)
 obtain⟨it,fp,tn,J,H2,e,I2,T,st2,f2,W,⟨m0,w0⟩,turn⟩:=h2
 subst e
 refine yw (RR:=fun acc C=>compPost (model X.prog X.w) X.A X.xe none (EP X pins σ Q) acc C) ck hkind hcap hc hg ht he I2 T st2 f2 w0 turn ?_
 intro D C s' acc Hf m I' nD hn fC fin
 refine⟨m,hn,fun h' sb=> ?_⟩
 obtain⟨f0,f1,f3,f4,f5,f6⟩:=fC
 exact⟨.ref D,_,I'.turned (t':=s'.toks) (it:=C) (fun b o hb e=>(sb.2 b hb).trans e) f0 f1 f4 f5 f6,rfl,fin D nD⟩
theorem jq{i:Nat}{y:Str}{py spos:Pos}(hN:X.N.Nodup)(hiN:X.N[i]? =some y)(hx:Loc X.env.scope y)(hc:X.calm=true)(hi:PI X tg iter wi)(ck:aW X.env.scope scope=true)(hkind:scope.kind= .function)(hcap:uq X scope caps ix)(hg:∀s H cl C ex,PG (cM X scope (own++caps) s H cl C ex) tg g)(ht:∀s H cl C ex,Xk (cM X scope (own++caps) s H cl C ex) ifs tc)(he:∀s H cl C ex,PE (cM X scope (own++caps) s H cl C ex) elt te)(hsw:swapsWith (.ListComp elt [⟨tg,iter,ifs,0⟩] scope pos) (some (.Name y py)) spos.line X.env=pure true:=by rfl)(hf:X.fn y=true\/X.env.scope.names.lookup y=some .local:=by first |exact .inl rfl|exact .inr rfl|assumption)(hs:∀x,foldedSetIterable iter X.env x=pure x:=by intro _;rfl):PS X (.Assign [.Name y py] (.ListComp elt [⟨tg,iter,ifs,0⟩] scope pos) spos) (tAsg (UW wi own ix g tc te) (gName i)):=by
 intro pins s σ H Dn I h
 rw[exec_Assign_Name_used _ _ _ _ hsw]
 refine aK (wpAny_standAt (aK ?_))
 show wpAny _ X.A (do let _<-comprehension (.ListComp elt [⟨tg,iter,ifs,0⟩] scope pos) scope X.env _ (newList []) false (eval iter X.env) (some (assign (.Name y py) X.env))) _ _ s
 refine aK (Mt (wpAny_comprehension_free (use:=some (assign (.Name y py) X.env)) (Q:=fun _ s'=>SP X pins Dn .next s') rfl hs (yx fun x hx=>I.ok.has x ((aW.free ck hx).2)) hkind (aW.names ck)
  (thn (hi pins s σ H _ I h) fun xv s1 h1=>thn h1 fun itv s2 h2=> ?_)) (fun _ s' hq=>bO (bO hq)) fun _ _ e=>e)
 obtain⟨it,fp,tn,J,H2,e,I2,T,st2,f2,W,⟨m0,w0⟩,turn⟩:=h2
 subst e
 refine yw (RR:=fun acc C=>compPost (model X.prog X.w) X.A X.xe (some (assign (.Name y py) X.env)) (fun _ s'=>SP X pins Dn .next s') acc C) ck hkind hcap hc hg ht he I2 T st2 f2 w0 turn ?_
 intro D C s' acc Hf m I' nD hn fC fin
 obtain⟨f0,f1,f3,f4,f5,f6⟩:=fC
 show wpAny _ X.A (assign (.Name y py) X.env (.ref D)) _ _ _
 refine wpAny_assign_Name (store_ok2 I' hN hiN hx (show RelV (.ref D) (.ref D)from rfl) (fun s'' I'' ⟨a,sb,ha⟩=> ?_) hf)
 have hCa:C≠a:=by
  rcases ha with ha|ha
  ·rw[ha];exact f1
  ·exact fun z=>f5 y a ha z.symm
 refine⟨m,hn.sameBut sb hCa,fun h' sb'=> ?_⟩
 exact⟨_,_,I''.turned (t':=s''.toks) (it:=C) (fun b o hb e=>(sb'.2 b hb).trans e) f0 f1 f4 f5 f6,fin D nD⟩
end
section
variable{prog:Program}{w:World}{A:Around}{E:Value->Shared->Prop}{s:Shared}
theorem set_tuple{t:Addr}{its:Array Value}{ns:List Int}{Q:Value->Shared->Prop}(hA:A.handled=none)(ht:s.heap.IsTuple t its)(hI:PyProof.Rows.IntsAre its.toList ns)(hz:its.size+1<scanBound)(fin:∀(g:Heap) (tk:Nat),g.SetOf (intKind prog w) s.heap.objs.size (fun k'=>(firstMet (fun i=>ns.getD i 0) its.size).any (· ==k')) (firstMet (fun i=>ns.getD i 0) its.size).length->(∀b o,b<s.heap.objs.size->s.heap.get? b=some o->g.get? b=some o)->Q (.ref s.heap.objs.size) {s with heap:=g,toks:=tk}):
  wpAny (model prog w) A (call (.type "set") [.ref t]) Q E s:=by
 obtain⟨c,tl,q1⟩:=F.called_set.mro
 have q2:=F.called_set.made
 have q3:=F.called_set.sub
 refine Xz (codeAny_of_tree ?_)
 show wpAny _ _ (callAny (.type "set") _) _ _ _
 refine bO ⟨Code.quiet_builtin _ (by decide+kernel),Vu PySem.F.entry_type_call ?_⟩
 rw[Around.under_plain (weight_type_call_type "set" [.ref t] []) rfl]
 have q4:=F.called_set.notType
 have q5:=F.called_set.canCreate
 have q6:=F.typeCall_set_1 (.ref t)
 repeat(any_goals(first |assumption|wp_step))
 refine Vs (code_set_new_1 (.ref t) (E:=E) (Q₁:=fun ob u=>∃led:Bool,ob= .ref s.heap.objs.size/\u={s with heap:=s.heap.push {cls:= .type "set",dict:=none,data:= .set #[] 0 (.fresh 0 0 led)}}) fun led=>⟨led,rfl,rfl⟩) fun r u hr=> ?_
 cases r with
 |error e=>exact hr
 |ok fl=>
  cases fl with
  |ret obj=>
   obtain⟨led,rfl,rfl⟩:=hr
   have g0:(s.heap.push {cls:= .type "set",dict:=none,data:= .set #[] 0 (.fresh 0 0 led)}).get? s.heap.objs.size=some {cls:= .type "set",dict:=none,data:= .set #[] 0 (.fresh 0 0 led)}:=qp _ rfl
   have g1:Shared.TypeIs {s with heap:=s.heap.push {cls:= .type "set",dict:=none,data:= .set #[] 0 (.fresh 0 0 led)}} (.ref s.heap.objs.size) "set":=⟨_,g0,rfl⟩
   have q7:=F.called_set.init.lookup
   have q8:=F.called_set.init.bind (.ref s.heap.objs.size)
   repeat(any_goals(first |assumption|wp_step))
   refine Vs (wdb (R:=wants (fun r s₂=>r= .none/\∃g tk,s₂={s with heap:=g,toks:=tk}/\g.SetOf (intKind prog w) s.heap.objs.size (fun k'=>(firstMet (fun i=>ns.getD i 0) its.size).any (· ==k')) (firstMet (fun i=>ns.getD i 0) its.size).length/\(∀b o,b<s.heap.objs.size->s.heap.get? b=some o->g.get? b=some o)) E) F.called_set.init.plain F.entry_set_init (check_set_init_1 g1 ?_)) fun r₂ s₂ hr₂=> ?_
   ·obtain⟨⟨oc,od,oda,os⟩,ho,hc,nl,hd⟩:=ht
    simp only at hc hd
    subst hc hd
    have ho':(s.heap.push {cls:= .type "set",dict:=none,data:= .set #[] 0 (.fresh 0 0 led)}).get? t=some {cls:= .type "tuple",dict:=od,data:= .seq its nl,slots:=os}:=fV _ ho
    have b1:=PySem.F.sub_tuple_set
    have b2:=PySem.F.sub_tuple_frozenset
    have b3:(Value.type "tuple"==Value.type "dict")=false:=by decide
    have ht1:(s.heap.push {cls:= .type "set",dict:=none,data:= .set #[] 0 (.fresh 0 0 led)}).IsTuple t its:=⟨_,ho',rfl,nl,rfl⟩
    unfold Builtin.«set.__init__» noKeywords Builtin.Frozenset.updateFrom
    generalize hPI:pyIter=PI
    wp_walk
    subst hPI
    refine WW ht1 (aK (wpAny_runValue ?_))
    have lt:t<s.heap.objs.size:=dw ho
    have YM:A.in1.in1.in1.handled=none:=by simp[hA]
    have nI:t≠(s.heap.push {cls:= .type "set",dict:=none,data:= .set #[] 0 (.fresh 0 0 led)}).objs.size:=by rw[Q8];exact fU (Mr lt)
    have nf:s.heap.objs.size∉[(s.heap.push {cls:= .type "set",dict:=none,data:= .set #[] 0 (.fresh 0 0 led)}).objs.size,t]:=by
     rw[Q8];simp only[cT,jk,wcz,or_false,not_or];exact⟨fU (Ru _),XH lt⟩
    refine codeAny_set_update_loopS ((Walks.tuple YM _ t nI its).toS) s.heap.objs.size nf (fun i=>ns.getD i 0) (fun i v hv=>IntsAre.int_at hI i v (by rw[wey];exact hv)) hz (its.size-0) 0 _ (by omega) (jj _)
     ⟨⟨_,qp _ rfl,rfl,rfl⟩,ht1.at fun o e=>fV _ e⟩ ?hS0 ?hR
    case hS0=>exact SetOf_congr ((setObjOf_fresh (knd:=intKind prog w) led).setOf (fV _ g0) (by unfold scanBound;omega)) (fun _=>rfl) rfl
    case hR=>
     intro s' hm hS'
     obtain⟨g,g',d',tk',os'⟩:=s'
     obtain⟨rfl,rfl,rfl⟩:g'=s.gens/\d'=s.drawn/\os'=s.os:=⟨hm.gens,hm.drawn,hm.os⟩
     show wpAny _ _ _ _ _ _
     refine bO ?_
     show wpAny _ _ (ret Value.none) _ _ _
     refine bO ⟨rfl,g,tk',rfl,hS',fun b o hb e=>hm.heap b o ?_ (fV _ (fV _ e))⟩
     have n1:b≠s.heap.objs.size:=fU hb
     have n2:b≠(s.heap.push {cls:= .type "set",dict:=none,data:= .set #[] 0 (.fresh 0 0 led)}).objs.size:=by rw[Q8];exact fU (Mr hb)
     simp only[cT,jk,wcz,or_false,not_or];exact⟨n1,n2⟩
   ·cases r₂ with
    |error e=>exact hr₂
    |ok fl₂=>
     cases fl₂ with
     |ret r=>
      obtain⟨rfl,g,tk,rfl,hS',hk'⟩:=hr₂
      repeat(any_goals(first |assumption|wp_step))
      exact fin _ _ hS' hk'
     |_=>exact hr₂.elim
  |_=>exact hr.elim
end
section
variable{X:Cx}{a:Expr}{ta:TA}{p p' pos pos':Pos}
def Nt(K:W.Frag)(ta:TA):TE:=fun σ H Q=>ta σ H fun vs H1=>∃(l:Addr) (ns:List Int),vs=[.ref l]/\SqT K H1 l (ns.map V.int)/\ns.length<1000/\Q (.int (distinct ns:Int)) H1
theorem Gv(hc:X.calm=true)(YH:Gl X "len")(YD:X.mg "len"=none)(hg:Gl X "set")(hm:X.mg "set"=none)(ha:PA X [a] ta)(hs:starEach [a] X.env=[(false,eval a X.env)]:=by rfl)(hs2:starEach [Expr.Call (.Name "set" p') [a] [] pos'] X.env=[(false,eval (Expr.Call (.Name "set" p') [a] [] pos') X.env)]:=by rfl):
  PE X (.Call (.Name "len" p) [.Call (.Name "set" p') [a] [] pos'] [] pos) (Nt X.K ta):=by
 intro pins s σ H Q I h
 refine Ng (ld_blt I YH YD uV ?_ (by decide) (by decide))
 refine wbr ?_ hs2 rfl
 rw[hs2]
 refine X5 ?_
 refine Call_ (ld_blt I hg hm (show bootBuiltins "set"=some (.type "set")from by decide+kernel) (Nk (thn (ha pos' pins s σ H _ I h) fun us s1 ⟨vs,H1,I1,r1,q1⟩=> ?_) hs rfl))
 obtain⟨l,ns,e,hq,hz,q⟩:=q1
 subst e
 cases r1 with
 |cons r rr=>
  cases rr
  cases r
  obtain⟨its,rv,pl,_⟩:=I1.tuple hq
  have hi:IntsAre its ns:=intsAre_of rv
  have PX:its.length=ns.length:=IntsAre.length hi
  refine set_tuple (ns:=ns) (I.ok.hd hc) (show s1.heap.IsTuple l its.toArray from pl) (by simpa using hi) (by unfold scanBound;simp;omega) fun h' tk hS hk=> ?_
  refine X4 ?_
  obtain⟨o,ho,hex,es,ep,t,hd,hel,hmem,hn,hf⟩:=hS.objOf
  have hsz:its.toArray.size=ns.length:=by rw[dW];exact PX
  rw[hsz]at hn
  have hle:=wdw (fun i=>ns.getD i 0) ns.length
  refine call_len_set ho hex hd hf (by omega) ?_
  have e2:(es.size:Int)=(distinct ns:Int):=by rw[hn];rfl
  rw[e2]
  have I2:Inv X pins σ H1 {s1 with heap:=h',toks:=tk}:=I1.kept fun b o e=>hk b o (dw e) e
  exact⟨.int _,H1,I2.tok _,⟨_,rfl⟩,q⟩
end
end L2
namespace Cq
open PySem PySem.W PyProof.Rows PySem.Calls
section
variable{prog:Program}{w:World}{A:Around}{E:Value->Shared->Prop}{s:Shared}{O:KeyOrd}{key:Nat->O.α}{κ:SortKind}{vs:List Value}
end
end Cq
namespace L2
open PySem PySem.Spec PyProof.Rows
section
variable{X:Cx}
end
def IB:V->Prop
 | .int _=>True
 | .bl _=>True
 |_=>False
def Wo(xs:List V):Prop:=∀x∈xs,IB x
theorem Wo.ints(xs:List Int):Wo (xs.map V.int):=fun x hx=>by
 obtain⟨i,_,rfl⟩:=eE.mp hx
 trivial
section
variable{K:W.Frag}{σ:St}{H0:Hp}
end
end L2
namespace L2
open PySem PySem.W PySem.Spec PyProof.Rows
section
variable{X:Cx}
theorem Cm:CallR X (.builtin "sorted") (fun xs H Q=>∃(a:Addr) (its:List (Addr×List Int)),xs=[.ref a]/\SqL X.K H a (its.map fun p=>V.ref p.1)/\(∀p∈its,SqT X.K H p.1 (p.2.map V.int)/\(2<=its.length->p.2≠[]))/\its.length<64/\
  ∀(l:Addr) (its':List (Addr×List Int)),H l=none->its'.Perm its->its'.Pairwise (fun p q=>HT.lexLt q.2 p.2=false)->Q (.ref l) (upd H l (.lst (its'.map fun p=>V.ref p.1)))):=by
 intro pins s σ H xs us Q I r h
 obtain⟨a,its,rfl,hS,hT,h64,q⟩:=h
 obtain⟨u,rfl,ru⟩:=r.one
 cases ru
 obtain⟨vs,rv,pl,hz⟩:=I.list hS
 have hlen:its.length=vs.length:=by have:=rv.length;simpa using this
 -- the values beside the tuples
 have pr:Paired (fun(p:Addr×List Int) (v:Value)=>v= .ref p.1) its vs:=by
  have go:∀(l:List (Addr×List Int)) (us:List Value),Vals (l.map fun p=>V.ref p.1) us->Paired (fun(p:Addr×List Int) (v:Value)=>v= .ref p.1) l us:=by
   intro l
   induction l with
   |nil=>intro us h;cases h;exact .nil
   |cons p l ih=>
    intro us h
    cases h with
    |cons r t=>exact .cons r (ih _ t)
  exact go its vs rv
 have tup:∀p∈its,∃(items:List Value),IntsAre items p.2/\IsTup s.heap p.1 items.toArray:=fun p hp=>by
  obtain⟨its',r',t',_⟩:=I.tuple (hT p hp).1
  exact⟨its',intsAre_of r',t'⟩
 refine Cq.vP (O:=Cq.lexOrd) (key:=fun i=>(its.getD i (0,[])).2) (κ:=tuples' true) (s:=s) pl.isList (by omega) (fun h2 h' k E' Q' hq=> ?_) (fun h2 h' k=> ?_) (fun D h' out c ho hD k hc=> ?_)
 ·have kt:∀(l:List (Addr×List Int)) (us:List Value),Paired (fun(p:Addr×List Int) (v:Value)=>v= .ref p.1) l us->(∀p∈l,p∈its)->∃fs:List Value,KatTups h' us fs/\fs.length=us.length/\∀v∈fs,∃i t,v=Value.int i t:=by
   intro l us h
   induction h with
   |nil=>intro _;exact⟨[],trivial,rfl,fun _ hv=>nomatch hv⟩
   | @cons p v l us r t ih=>
    intro hs
    obtain⟨fs,k1,k2,k3⟩:=ih fun p hp=>hs p (lZ _ hp)
    obtain⟨items,hi,o,e,hc,n,hd⟩:=tup p (hs p jl)
    have hne:=(hT p (hs p jl)).2 (by omega)
    obtain⟨pa,pn⟩:=p
    dsimp only at hi hne e r
    cases hi with
    |nil=>exact absurd rfl hne
    |cons i t hi'=>
     rw[r]
     refine⟨Value.int i t::fs,KatTups.cons (k _ _ e) hc hd (by simp) k1,by simp[k2],fun v hv=> ?_⟩
     rcases cT.mp hv with e|e
     ·exact⟨i,t,e⟩
     ·exact k3 v e
  obtain⟨fs,k1,k2,k3⟩:=kt its vs pr fun _ hp=>hp
  refine kat_kind (s:={s with heap:=h'}) (T:= .type "int") k1 (by omega) (fun v hv=> ?_) (by rfl) hq
  obtain⟨i,t,rfl⟩:=k3 v hv
  exact fun A Q E s _ q=>bO q
 ·intro i j C hi hj hC
  rw[<-hlen]at hi hj
  have get:∀i (hi:i<its.length),vs.getD i Value.none= .ref its[i].1:=by
   have go:∀(l:List (Addr×List Int)) (us:List Value),Paired (fun(p:Addr×List Int) (v:Value)=>v= .ref p.1) l us->∀i (hi:i<l.length),us.getD i Value.none= .ref l[i].1:=by
    intro l us h
    induction h with
    |nil=>intro i hi;simp at hi
    |cons r t ih=>
     intro i hi
     cases i with
     |zero=>exact r
     |succ i=>simpa using ih i (by simpa using hi)
   exact go its vs pr
  unfold kas_ask
  rw[get i hi,get j hj]
  obtain⟨xi,hxi,oi,ei,ci,ni,di⟩:=tup its[i] (yU _)
  obtain⟨xj,YB,oj,ej,cj,nj,dj⟩:=tup its[j] (yU _)
  refine kat_lt (s:={s with heap:=h'}) (k _ _ ei) di (k _ _ ej) dj ?_
  refine Cq.DQ 0 hxi YB ?_ ?_
  ·have:=hxi.length;have:=YB.length
   simp only[dW]
   omega
  ·rw[HT.bF]
   have e1:its.getD i (0,[])=its[i]:=by simp[hi]
   have e2:its.getD j (0,[])=its[j]:=by simp[hj]
   have hC':C (decide ((its.getD i (0,[])).2<(its.getD j (0,[])).2)) {s with heap:=h'}:=hC
   rw[e1,e2]at hC'
   exact hC'
 ·obtain⟨its',hp,hr,hw⟩:=Cq.Jq (d:=((0,[]):Addr×List Int)) (f:=fun p=>p.2) pr (fun i hi=>by show(its.getD i (0,[])).2=_;simp[hi]) ho
  have hn:H D=none:=I.hok.fresh hD
  have rv':Vals (its'.map fun p=>V.ref p.1) out:=by
   have go:∀(l:List (Addr×List Int)) (us:List Value),Paired (fun(p:Addr×List Int) (v:Value)=>v= .ref p.1) l us->Vals (l.map fun p=>V.ref p.1) us:=by
    intro l us h
    induction h with
    |nil=>exact .nil
    |cons r t ih=>exact .cons r ih
   exact go its' out hr
  have zl:(its'.map fun p=>V.ref p.1).length<=sizeLine:=by
   have:=hp.length_eq
   rw[aQ]
   exact Mi (small1000 (by omega))
  have J:Inv X pins σ (upd H D (.lst (its'.map fun p=>V.ref p.1))) {s with heap:=h',toks:=s.toks}:=I.laid k hD ⟨zl,out,c,rv',hc⟩
  refine⟨.ref D,_,J,rfl,q D its' hn hp (hw.imp fun{x y} hxy=> ?_)⟩
  rw[HT.bF];exact hxy
theorem gM(K:W.Frag){a:Expr}{ta:TE}(ha:PE X a ta)(he:∀whole,isTrue a X.env whole=(do let v<-whole;standAt a.pos;holding [v] (truthy v)))(h:X.K=K:=by rfl):
  PT X a (fun σ H Q=>ta σ H fun x H'=>∃k,TruV K x H' k/\Q k H'):=by subst h;exact pt_truth ha he
end
end L2
namespace L2
open PySem PySem.Spec PyProof.Rows
section
variable{prog:Program}{w:World}{A:Around}{E:Value->Shared->Prop}{s:Shared}{l:Addr}{kid:String}{vs:List Value}{R:Result->Shared->Prop}{Q:Value->Shared->Prop}
def Kp(s:Shared)(h:Heap):Prop:=∀b o,s.heap.get? b=some o->h.get? b=some o
theorem V1(kf:Nat->Int)(hA:A.handled=none)(hl:s.heap.IsList l vs.toArray)(turn:∀(i:Nat) (v:Value),vs[i]? =some v->∀(h:Heap) (tk:Nat),Kp s h->∀Q E:Value->Shared->Prop,(∀t tk',Q (.int (kf i) t) {s with heap:=h,toks:=tk'})->wpAny (model prog w) A.in1 (call (.builtin kid) [v]) Q E {s with heap:=h,toks:=tk})(hR:∀i v h' tk',vs[i]? =some v->(∀j,j<vs.length->kf j<=kf i/\(j<i->kf j<kf i))->Kp s h'->R (.ok (.ret v)) {s with heap:=h',toks:=tk'}):
  ∀(r j i:Nat) (h:Heap) (tk:Nat) (vb:Value) (tb:Tok) (c:Nat),vs.length-(j+1)=r->j+1<=vs.length->Kp s h->h.get? (s.heap.objs.size+1)=some (seqObj "list" #[vb,.int (kf i) tb] c)->h.IsListIter s.heap.objs.size l (j+1)->vs[i]? =some vb->i<=j->(∀j',j'<=j->kf j'<=kf i/\(j'<i->kf j'<kf i))->
   codeAny (model prog w) A (.builtin "max.loop" ⟨[.ref s.heap.objs.size,.builtin kid,.ref (s.heap.objs.size+1)],[]⟩) R {s with heap:=h,toks:=tk}:=by
 have nm:(toString "max"++toString ".loop":String)="max.loop":=by decide
 obtain⟨ol,hol,hlc,PX,hld⟩:=id hl
 have nlI:l≠s.heap.objs.size:=fU (dw hol)
 have W:=wfi (prog:=prog) (w:=w) (A:=A.in1) hA s.heap.objs.size l nlI vs.toArray
 have zs:vs.toArray.size=vs.length:=dW ..
 have nSI:s.heap.objs.size+1≠s.heap.objs.size:=XH (Ru _)
 have hlK:∀h,Kp s h->h.IsList l vs.toArray:=fun h k=>⟨ol,k _ _ hol,hlc,PX,hld⟩
 have kI:∀h h',Kp s h->(∀b o,b∉[s.heap.objs.size]->h.get? b=some o->h'.get? b=some o)->Kp s h':=fun h h' k q b o e=>q b o (fun z=>yS _ ((jk.mp z)▸dw e)) (k b o e)
 have kS:∀h h',Kp s h->(∀b,b≠s.heap.objs.size+1->h'.get? b=h.get? b)->Kp s h':=fun h h' k q b o e=>(q b (fU (Mr (dw e)))).trans (k b o e)
 intro r
 induction r with
 |zero=>
  intro j i h tk vb tb c hr hj k hS hit hvb hij hbest
  refine Vu wcp (by
   rw[X6 way _]
   show wpAny _ A.in1 (seqItems? (.ref (s.heap.objs.size+1))>>=_) _ _ _
   refine aK (WM hS rfl (?_))
   show wpAny _ A.in1 (tryCatch (pyNext (.ref s.heap.objs.size)) _>>=_) _ _ _
   refine aK (WL (W.done _ _ _ ⟨by rw[zs,<-show j+1=vs.length by omega];exact hit,hlK h k⟩ fun h' tk' hk'=> ?_))
   have g:=hk' (s.heap.objs.size+1) _ (by simp) hS
   show wpAny _ A.in1 (updateSeq (s.heap.objs.size+1) (fun _=>#[])>>=_) _ _ _
   refine aK (WQ g rfl (aK (XC (bO ?_))))
   exact hR i vb _ _ hvb (fun j' hj'=>hbest j' (by omega)) (kS _ _ (kI _ _ k hk') (Nh h' (s.heap.objs.size+1) (Obj.mapSeq fun _=>(#[]:Array Value))).2))
 |succ r ih=>
  intro j i h tk vb tb c hr hj k hS hit hvb hij hbest
  have hlt:j+1<vs.length:=by omega
  refine Vu wcp (by
   rw[X6 way _]
   show wpAny _ A.in1 (seqItems? (.ref (s.heap.objs.size+1))>>=_) _ _ _
   refine aK (WM hS rfl (?_))
   show wpAny _ A.in1 (tryCatch (pyNext (.ref s.heap.objs.size)) _>>=_) _ _ _
   refine aK (WL (W.item (j+1) _ _ _ (by rw[zs];exact hlt) ⟨hit,hlK h k⟩ fun v h' tk' hP hst' hk'=> ?_))
   have hv:vs[j+1]? =some v:=(by simpa using hP)
   have k1:=kI _ _ k hk'
   have g:=hk' (s.heap.objs.size+1) _ (by simp) hS
   show wpAny _ A.in1 (tryCatch (holding [v] (call (.builtin kid) [v])) _>>=_) _ _ _
   refine aK (WL (M9 (turn (j+1) v hv h' tk' k1 _ _ fun t2 tk2=> ?_)))
   show wpAny _ A.in1 (tryCatch (holding [v,.int (kf (j+1)) t2] (richCompare .Gt (.int (kf (j+1)) t2) (.int (kf i) tb)>>=_)) _>>=_) _ _ _
   refine aK (WL (M9 (aK (CmpOf.ints_gt (prog:=prog) (w:=w) (A:=A.in1) (P:=fun i v=>∃t,v= .int (kf i) t) kf (fun i v h=>h) (j+1) i _ _ _ _ _ ⟨t2,rfl⟩ ⟨tb,rfl⟩ (aK (M9 (Nf (aK (XC (bO ?_))))))))))
   by_cases hb:kf (j+1)>kf i
   ·have sb:=Nh h' (s.heap.objs.size+1) (Obj.mapSeq fun _=>#[v,.int (kf (j+1)) t2])
    obtain⟨c2,hc2⟩:∃c2,(h'.update (s.heap.objs.size+1) (Obj.mapSeq fun _=>#[v,.int (kf (j+1)) t2])).get? (s.heap.objs.size+1)=some (seqObj "list" #[v,.int (kf (j+1)) t2] c2):=⟨_,XR g fun _=>#[v,.int (kf (j+1)) t2]⟩
    simp only[hb,decide_true,Vo]
    refine aK (WQ g rfl (aK (XC ?_)))
    obtain⟨oI,hoI,hoc,hod⟩:=id hst'.1
    rw[nm]
    refine bO ⟨Vt way _,ih (j+1) (j+1) _ _ v t2 c2 (by omega) hlt (kS _ _ k1 sb.2) hc2 ⟨oI,(sb.2 _ nSI.symm).trans hoI,hoc,hod⟩ hv (bx _) fun j' hj'=> ?_⟩
    by_cases e:j'=j+1
    ·subst e;exact⟨Int.le_refl _,fun z=>absurd z (yS _)⟩
    ·have q:=(hbest j' (by omega)).1
     exact⟨by omega,fun _=>by omega⟩
   ·simp only[hb,decide_false,wcm,Vp]
    refine aK (XC (?_))
    rw[nm]
    refine bO ⟨Vt way _,ih (j+1) i _ _ vb tb c (by omega) hlt k1 g hst'.1 hvb (by omega) fun j' hj'=> ?_⟩
    by_cases e:j'=j+1
    ·subst e;exact⟨by omega,fun z=>by omega⟩
    ·exact hbest j' (by omega))
theorem Sh(kf:Nat->Int)(hA:A.handled=none)(hl:s.heap.IsList l vs.toArray)(hne:0<vs.length)(turn:∀(i:Nat) (v:Value),vs[i]? =some v->∀(h:Heap) (tk:Nat),Kp s h->∀Q E:Value->Shared->Prop,(∀t tk',Q (.int (kf i) t) {s with heap:=h,toks:=tk'})->wpAny (model prog w) A.in1 (call (.builtin kid) [v]) Q E {s with heap:=h,toks:=tk})(hQ:∀i v h' tk',vs[i]? =some v->(∀j,j<vs.length->kf j<=kf i/\(j<i->kf j<kf i))->Kp s h'->Q v {s with heap:=h',toks:=tk'}):
  wpAny (model prog w) A (call (.builtin "max") [.ref l] [(Str.ofString "key",.builtin kid)]) Q E s:=by
 have nm:(toString "max"++toString ".loop":String)="max.loop":=by decide
 obtain⟨ol,hol,hlc,PX,hld⟩:=id hl
 have nlI:l≠s.heap.objs.size:=fU (dw hol)
 refine kmb_tree PySem.F.kind_max PySem.F.plain_max PySem.F.entry_max (kmb_max_key _ _) (by
  show wpAny _ A.in1 (Builtin.Builtins.bindParams "max" ["key","default"] 0 ⟨[],[(Str.ofString "key",.builtin kid)]⟩>>=_) _ _ s
  refine aK (Q9 (show Builtin.Builtins.bindParams "max" ["key","default"] 0 ⟨[],[(Str.ofString "key",.builtin kid)]⟩=pure [some (.builtin kid),none]from rfl) (aK (bO (aK (WR hl (aK (wpAny_newList ?_ (jj _))))))))
  rw[nm]
  have zS:(s.heap.push {cls:= .type "list_iterator",data:= .fields #[.ref l,.int 0 0]}).objs.size=s.heap.objs.size+1:=size_push' ..
  rw[zS]
  have k0:Kp s ((s.heap.push {cls:= .type "list_iterator",data:= .fields #[.ref l,.int 0 0]}).push (seqObj "list" #[] 0)):=fun b o e=>fV _ (fV _ e)
  have gI:((s.heap.push {cls:= .type "list_iterator",data:= .fields #[.ref l,.int 0 0]}).push (seqObj "list" #[] 0)).IsListIter s.heap.objs.size l 0:=⟨_,fV _ (qp _ rfl),rfl,rfl⟩
  have gS:((s.heap.push {cls:= .type "list_iterator",data:= .fields #[.ref l,.int 0 0]}).push (seqObj "list" #[] 0)).get? (s.heap.objs.size+1)=some (seqObj "list" #[] 0):=by rw[<-zS];exact qp _ rfl
  have W:=wfi (prog:=prog) (w:=w) (A:=A.in1) hA s.heap.objs.size l nlI vs.toArray
  refine bO ⟨Vt way _,Vu wcp ?_⟩
  rw[X6 way _]
  show wpAny _ A.in1 (seqItems? (.ref (s.heap.objs.size+1))>>=_) _ _ _
  refine aK (WM gS rfl (?_))
  show wpAny _ A.in1 (tryCatch (pyNext (.ref s.heap.objs.size)) _>>=_) _ _ _
  refine aK (WL (W.item 0 _ _ _ (by rw[dW];exact hne) ⟨gI,⟨ol,k0 _ _ hol,hlc,PX,hld⟩⟩ fun v h' tk' hP hst' hk'=> ?_))
  have hv:vs[0]? =some v:=(by simpa using hP)
  have k1:Kp s h':=fun b o e=>hk' b o (fun z=>yS _ ((jk.mp z)▸dw e)) (k0 b o e)
  have g:=hk' (s.heap.objs.size+1) _ (by simp) gS
  show wpAny _ A.in1 (tryCatch (holding [v] (call (.builtin kid) [v])) _>>=_) _ _ _
  refine aK (WL (M9 (turn 0 v hv h' tk' k1 _ _ fun t2 tk2=> ?_)))
  have sb:=Nh h' (s.heap.objs.size+1) (Obj.mapSeq fun _=>#[v,.int (kf 0) t2])
  obtain⟨c2,hc2⟩:∃c2,(h'.update (s.heap.objs.size+1) (Obj.mapSeq fun _=>#[v,.int (kf 0) t2])).get? (s.heap.objs.size+1)=some (seqObj "list" #[v,.int (kf 0) t2] c2):=⟨_,XR g fun _=>#[v,.int (kf 0) t2]⟩
  obtain⟨oI,hoI,hoc,hod⟩:=id hst'.1
  show wpAny _ A.in1 (updateSeq (s.heap.objs.size+1) (fun _=>#[v,.int (kf 0) t2])>>=_) _ _ _
  refine aK (WQ g rfl ?_)
  rw[nm]
  exact bO ⟨Vt way _,V1 kf hA hl turn hQ _ 0 0 _ _ v t2 c2 rfl hne (fun b o e=>(sb.2 b (fU (Mr (dw e)))).trans (k1 b o e)) hc2 ⟨oI,(sb.2 _ (fU (Ru _))).trans hoI,hoc,hod⟩ hv (bx _) fun j' hj'=>by
   have e:j'=0:=by omega
   subst e
   exact⟨Int.le_refl _,fun z=>absurd z (yS _)⟩⟩)
end
section
variable{X:Cx}{a:Expr}{ta:TA}{p p2 kp pos:Pos}
def RD(K:W.Frag)(ta:TA):TE:=fun σ H Q=>ta σ H fun vs H1=>∃(l:Addr) (its:List (Addr×List Int)),vs=[.ref l]/\SqL K H1 l (its.map fun p=>V.ref p.1)/\(∀p∈its,SqT K H1 p.1 (p.2.map V.int))/\its≠[]/\
 ∀(i:Nat) (p:Addr×List Int),its[i]? =some p->(∀(j:Nat) r,its[j]? =some r->r.2.length<=p.2.length/\(j<i->r.2.length<p.2.length))->Q (.ref p.1) H1
theorem vB:∀{its:List (Addr×List Int)} {us:List Value} {i:Nat} {v:Value},Vals (its.map fun p=>V.ref p.1) us->us[i]? =some v->∃p,its[i]? =some p/\v= .ref p.1
 |[],_,i,v,h,e=>by cases h;simp at e
 |p::its,_,0,v,h,e=>by
  cases h with
  |cons r t=>
   cases r
   simp at e
   exact⟨p,rfl,e.symm⟩
 |p::its,_,i+1,v,h,e=>by
  cases h with
  |cons r t=>exact vB (i:=i) t (by simpa using e)
theorem Kf(hc:X.calm=true)(hg:Gl X "max")(hm:X.mg "max"=none)(YH:Gl X "len")(YD:X.mg "len"=none)(ha:PA X [a] ta)(hs:starEach [a] X.env=[(false,eval a X.env)]:=by rfl)(he:backTo pos (starEach [a] X.env)=(false,eval a X.env)::backTo pos (starEach [] X.env):=by rfl)(hp:(backTo pos (starEach [a] X.env)).any (·.1)=false:=by rfl):PE X (.Call (.Name "max" p) [a] [⟨some "key",.Name "len" p2,kp⟩] pos) (RD X.K ta):=by
 intro pins s σ H Q I h
 refine Ng (ld_blt I hg hm (show bootBuiltins "max"=some (.builtin "max")from by decide+kernel) ?_ (by decide) (by decide))
 refine PyProof.Rows.callWith_kw (thn (ha pos pins s σ H _ I h) fun us s1 ⟨vs,H1,I1,r1,q1⟩=>kws_cons (ld_blt I1 YH YD uV (kws_nil ?_) (by decide) (by decide))) he hp
 obtain⟨l,its,e,hq,hT,hne,q⟩:=q1
 subst e
 cases r1 with
 |cons r rr=>
  cases rr
  cases r
  obtain⟨ws,rv,pl,hz⟩:=I1.list hq
  have hlen:its.length=ws.length:=by have:=rv.length;simpa using this
  have hpos:0<ws.length:=by
   rw[<-hlen]
   cases its with
   |nil=>exact absurd rfl hne
   |cons _ _=>simp
  have kf:∀i p,its[i]? =some p->its.getD i (0,[])=p:=fun i p e=>by rw[zE,e];rfl
  show wpAny (model X.prog X.w) X.A (call (.builtin "max") [.ref l] [(Str.ofString "key",.builtin "len")]) (EP X pins σ Q) X.xe s1
  refine Sh (fun i=>((its.getD i (0,[])).2.length:Int)) (I.ok.hd hc) pl.isList hpos (fun i v hv h' tk k Q' E' hq'=> ?_) (fun i v h' tk' hv hb k=> ?_)
  ·obtain⟨p,e1,rfl⟩:=vB rv hv
   obtain⟨xs,rx,px,hx⟩:=I1.tuple (hT p (Fz e1))
   obtain⟨o,ho,ho2,n,hd⟩:=id px
   have hxl:xs.length=p.2.length:=by have:=rx.length;simpa using this.symm
   have hz2:xs.toArray.size=p.2.length:=by rw[dW];exact hxl
   refine len_tuple (s:={s1 with heap:=h',toks:=tk}) (t:=p.1) (items:=xs.toArray) ⟨o,k _ _ ho,ho2,n,hd⟩ ?_ ?_
   ·rw[dW]
    have:xs.length<=sizeLine:=by rw[hxl];simpa using hx
    rw[eF]at this
    omega
   ·have z:=hq' (tk+1) (tk+1+1)
    rw[kf i p e1]at z
    rw[hz2]
    exact z
  ·obtain⟨p,e1,rfl⟩:=vB rv hv
   have I2:Inv X pins σ H1 {s1 with heap:=h',toks:=tk'}:=I1.kept k
   refine⟨.ref p.1,H1,I2,rfl,q i p e1 fun j r hr=> ?_⟩
   have hj:j<ws.length:=by rw[<-hlen];exact(Aq.mp hr).1
   have z:=hb j hj
   rw[kf i p e1,kf j r hr]at z
   exact⟨by omega,fun hji=>by have:=z.2 hji;omega⟩
end
def bY(a C:Addr):HO:= .ext fun h=>∃o vs,h.get? a=some o/\o.cls= .ref C/\o.data= .fields vs
theorem ObjOk.any{P:Program}{w:World}{H:Hp}{h:Heap}{a:Addr}{o:HO}(x:ObjOk P w H h a o):∃u,h.get? a=some u:=by
 cases o with
 |lst xs=>obtain⟨_,_,_,_,e⟩:=x;exact⟨_,e⟩
 |tup xs=>obtain⟨_,_,_,ob,e,_⟩:=x;exact⟨_,e⟩
 |dK kvs=>obtain⟨_,_,_,_,o,_,_,e,_⟩:=x;exact⟨_,e⟩
 |dT kvs=>obtain⟨_,_,_,_,o,_,_,e,_⟩:=x;exact⟨_,e⟩
 |set S n=>obtain⟨o,_,_,_,e,_⟩:=x;exact⟨_,e⟩
 |ins C dx fs=>obtain⟨_,_,_,e,_⟩:=x;exact⟨_,e⟩
 |own y=>exact x
 |xd fs=>obtain⟨_,⟨_,_,_,e,_⟩,_⟩:=x;exact⟨_,e⟩
 |rng lo hi=>obtain⟨_,_,_,e⟩:=x;exact⟨_,e⟩
 |frz ob u=>obtain⟨e,_⟩:=x;exact⟨_,e⟩
 |tbl ps=>exact⟨_,x⟩
 |met f y=>exact⟨_,x⟩
 |ext φ=>exact x.2.1
theorem HOk.none{P:Program}{w:World}{H:Hp}{h:Heap}{a:Addr}(x:HOk P w H h)(e:h.get? a=none):H a=none:=by
 cases q:H a with
 |none=>rfl
 |some u=>
  obtain⟨o,z⟩:=(x a u q).any
  rw[e]at z;cases z
section
variable{P:Program}{w:World}{K:W.Frag}{mg:Str->Option Value}{base:Heap}{N:List Str}{qual:Str}{scope:Scope}{f:Addr}{cd:Value}{A:Around}{outer:List Env}{s:Shared}{H:Hp}{E:XK}
end
theorem Wc{K:W.Frag}{h:Heap}{C:Addr}{bmB:List Value}{newId:String}(X:K.In h)(q:PySem.W.excIn K C bmB newId=true):
  ∃bm N nm qn bs hd sn sub ab col dd k0 k1 k2 k3 k5 mN,h.get? C=some (excClassObj nm qn C N bs bm hd sn sub ab col dd k0 k1 k2 k3 k5 newId)/\h.Ns N mN/\mN "__init__"=none/\OwnTail h bmB bm:=by
 unfold PySem.W.excIn at q
 split at q
 ·rename_i dd cd sl ho
  split at q
  ·rename_i C' bm k0 k1 k2 k3 n k5 hm hs
   simp only[qt,beq_iff_eq,UJ]at q
   obtain⟨⟨⟨⟨⟨q1,q2⟩,hdel⟩,ht⟩,hok⟩,hni⟩:=q
   cases q1;cases q2
   obtain⟨nm,bs,mro,ns,qn,hd,sn,sub,ab,col,del⟩:=cd
   obtain⟨l⟩:=sl
   dsimp only at hm hdel hok hni hs
   subst hm;subst hdel;subst hs
   exact⟨bm,ns,nm,qn,bs,hd,sn,sub,ab,col,dd,k0,k1,k2,k3,k5,_,X _ _ ho,.of_isNs (PySem.W.isNs_of_in X hok),PySem.W.nsMap_none_of_in X hok hni,PySem.W.tail_of_in X ht⟩
  ·cases q
 ·cases q
section
variable{P:Program}{w:World}{K:W.Frag}{mg:Str->Option Value}{base:Heap}{N:List Str}{qual:Str}{scope:Scope}{f:Addr}{cd:Value}{A:Around}{outer:List Env}{s:Shared}{H:Hp}{E:XK}
end
end L2
namespace L2
open PySem PySem.Spec PySem.Calls PyProof.Rows PySem.W PySem.Builtin.Getset_descriptor
structure uh(K:Frag)(D:Addr):Prop where
 cls:∃cd,clsIn K D=some cd
 ga:findIn K (.ref D) "__getattribute__"=some (some (.builtin "BaseException.__getattribute__"))
 gn:findIn K (.ref D) "__getattr__"=some none
 at_:findIn K (.ref D) "__class__"=some (some (.builtin "object.__class__"))
 get:specialIn K (.builtin "object.__class__") "__get__"=some (some (.builtin "getset_descriptor.__get__"))
 tk:takesIn K (.builtin "object.__class__")=some true
 obj:mroIn K D (.type "object")=some true
 exc:mroIn K D (.type "BaseException")=some true
section
variable{prog:Program}{w:World}{A:Around}{E:Value->Shared->Prop}{s:Shared}{K:Frag}{x D:Addr}
def yJ(x D:Addr)(h:Heap):Prop:=∃o,h.get? x=some o/\o.cls= .ref D
theorem yJ.ty{M:Model}{h:Heap}(p:yJ x D h):Looks M h (typeOf (.ref x)) (.ref D):=by
 obtain⟨o,e,c⟩:=p
 exact c▸(Looks.ld e).andThen .now
theorem Lh{M:Model}{h:Heap}{C:Addr}{name:Str}{a g:Value}(X:K.In h)(ha:findIn K (.ref C) name=some (some a))(hg:specialIn K a "__get__"=some (some g))(ht:takesIn K a=some true):
  Looks M h (Builtin.ObjectAttr.find (.ref x) (.ref C) name) (.bind g a):=
 (looks_findIn X ha).andThen ((show Looks M h (Builtin.ObjectAttr.getOf (some a)) (some g)from looks_specialIn X hg).andThen
  ((show Looks M h (Builtin.ObjectAttr.dataDescriptor? (some a) (some g)) (some (g,a))from(looks_takesIn X ht).andThen .now).andThen (Looks.tag .now)))
theorem TF{tp:Value}{R:Result->Shared->Prop}(X:K.In s.heap)(I:yJ x D s.heap)(hm:mroIn K D (.type "object")=some true)(h:R (.ok (.ret (.ref D))) s):
  codeAny (model prog w) A (.call (.builtin "getset_descriptor.__get__") ⟨[.builtin "object.__class__",.ref x,tp],[]⟩) R s:=by
 obtain⟨hh,gg,dr,tt,os⟩:=s
 have A0:=I.ty (M:=model prog w)
 have A1:=looks_mroIn (M:=model prog w) X hm
 have A2:=KF.slot_gs.check (model prog w)
 refine wdb KF.slot_gs.plain KF.entry_gs (A2 _ _ _ _ _ _ _ KF.type_class
  (KF.args_gs _ _ _) ?_)
 unfold Builtin.«getset_descriptor.__get__» descrGet;rw[dga_obj]
 refine aK (bO ?_)
 unfold descrGetter descrCheckInstance descrNameAndClass isInstance;simp only[KF.owner_class]
 repeat lk
 refine⟨Code.quiet_builtin _ (by decide+kernel),
  Vu KF.entry_class ?_⟩
 unfold Builtin.«object.__class__» shownTypeOf;(repeat lk);exact h
theorem Lj{nameV:Value}{Q:Unit->Shared->Prop}(X:K.In s.heap)(I:yJ x D s.heap)(hb:mroIn K D (.type "BaseException")=some true)(hq:Q () s):
  wpAny (model prog w) A (checkBuiltinCall "BaseException.__getattribute__" ⟨[.ref x,nameV],[]⟩) Q E s:=by
 obtain⟨hh,gg,dr,tt,os⟩:=s
 have kd:builtinKind "BaseException.__getattribute__"=some .slot:=by decide+kernel
 have sp:splitId "BaseException.__getattribute__"=some ("BaseException","__getattribute__"):=by decide+kernel
 have A0:=I.ty (M:=model prog w)
 have A1:=looks_mroIn (M:=model prog w) X hb
 have ar:=F.args_bexc_ga (.ref x) nameV
 simp only[checkBuiltinCall,kd,sp]
 refine aK ?_
 unfold isInstance
 repeat(any_goals(first |assumption|lk|wp_step))
theorem Li{Q:Option Value->Shared->Prop}(X:K.In s.heap)(I:yJ x D s.heap)(c:uh K D)(h:Q (some (.ref D)) {s with toks:=s.toks+1}):
  wpAny (model prog w) A (getAttr? (.ref x) "__class__") Q E s:=by
 obtain⟨hc,hga,hgn,ha,hn,htk,hm,hb⟩:=c
 obtain⟨hh,gg,dr,tt,os⟩:=s
 have A0:=I.ty (M:=model prog w)
 have A1:=looks_findIn (M:=model prog w) X hga
 have A2:=looks_findIn (M:=model prog w) X hgn
 have A3:=Lh (M:=model prog w) (x:=x) X ha hn htk
 have n2:(Value.builtin "BaseException.__getattribute__"==Value.builtin "object.__getattribute__")=false:=by decide+kernel
 have n1:(onTheHeap (Value.ref D)&&Value.builtin "BaseException.__getattribute__"==Value.builtin "object.__getattribute__")=false:=by rw[n2];rfl
 have hbd:=F.attr_ValueError.ga.bind (.ref x)
 unfold getAttr? getAttrBy? getAttrBy
 refine aK (wpAny_mkText (aK (XJ (M9 (aK (A0.at (aK (A1.at ?_))))))))
 dsimp only
 rw[bC (by rw[n1];exact uy)]
 unfold getAttrByItsOwn hookBefore
 rw[bD (by rfl)]
 refine aK (A2.at (aK (XJ (M9 ?_))))
 unfold callGetattribute
 rw[bC (by intro z;cases z)]
 unfold boundAndCalled
 rw[hbd]
 refine aK (bO ?_)
 refine Xz (wdb F.attr_ValueError.ga.plain F.entry_bexc_ga (Lj X I hb ?_))
 unfold Builtin.«object.__getattribute__»
 repeat(any_goals(first |assumption|(with_reducible refine Xz (TF X I hm ?_))|lk|wp_step))
theorem Ea(c:uh K D):KitX K (.ref x) (.ref D) (yJ x D):=by
 obtain⟨cd,hcD⟩:=c.cls
 unfold clsIn at hcD
 split at hcD
 ·rename_i d' sl' cd' c'' ho
  refine⟨fun _ _ _ p=>p.ty,fun _ _ X _ A' Q' E' s' k q=> ?_,fun h tp dd its n sl X htp=>Bool.eq_false_iff.mpr fun q=> ?_,fun X p k=>Li X p c k⟩
  ·unfold isType loadHead
   exact aK (wpAny_loadPart (k _ _ (X _ _ ho)) (bO q))
  ·obtain rfl:D=tp:=Value.ref.inj (beq_iff_eq.mp q)
   cases(X _ _ ho).symm.trans htp
 ·cases hcD
end
theorem Qo{X:Cx}{pins:List (Addr×Obj)}{σ:St}{H:Hp}{s:Shared}{a C:Addr}(I:Inv X pins σ H s)(h:H a=some (bY a C)):yJ a C s.heap:=by
 obtain⟨⟨o,vs,e,c,_⟩,_⟩:=I.hok a _ h
 exact⟨o,e,c⟩
theorem QW{X:Cx}:CallR X (.builtin "isinstance") (fun xs H Q=>∃(a C D:Addr) (b:Bool),xs=[.ref a,.ref D]/\H a=some (bY a C)/\uh X.K C/\kitOne X.K (.ref C) (.ref D)=some b/\Q (.bl b) H):=by
 intro pins s σ H xs us Q I r h
 obtain⟨a,C,D,b,rfl,he,hc,hk,q⟩:=h
 obtain⟨u,v,rfl,ru,rv⟩:=r.two
 cases ru;cases rv
 exact kia_one (Ea hc) I.kIn (Qo I he) hk (fun z=>nomatch z) fun tk=>⟨.bl b,H,I.tok _,rfl,q⟩
theorem Ly{X:Cx}:CallR X (.builtin "isinstance") (fun xs H Q=>∃(a C:Addr) (T:String) (b:Bool),xs=[.ref a,.ty T]/\H a=some (bY a C)/\uh X.K C/\kitOne X.K (.ref C) (.type T)=some b/\Q (.bl b) H):=by
 intro pins s σ H xs us Q I r h
 obtain⟨a,C,T,b,rfl,he,hc,hk,q⟩:=h
 obtain⟨u,v,rfl,ru,rv⟩:=r.two
 cases ru;cases rv
 exact kia_one (Ea hc) I.kIn (Qo I he) hk (fun z=>nomatch z) fun tk=>⟨.bl b,H,I.tok _,rfl,q⟩
end L2
namespace L2
open PySem PySem.Spec PyProof.Rows
section
variable{X:Cx}{pins:List (Addr×Obj)}{σ:St}{H H':Hp}{s s':Shared}{e C:Addr}{B:Heap}
end
section
variable{X:Cx}{k:Nat}{f D:Addr}{fd:FuncData}{ps:List Str}{sp:Sp}{fn x n:Str}{p cpos epos np hpos pos:Pos}{a:Expr}{as:List Expr}{t:TA}{ts:TS}{b₀:Stmt}{suite:List Stmt}{i:Nat}
end
section
variable{X:Cx}
end
mutual
def adx:Nat->Expr->Option PyData
 |0,_=>none
 |n+1,e=>match e with
  | .Constant (.int i) _ _=>some (.int i)
  | .Constant (.bool b) _ _=>some (.bool b)
  | .Constant .none _ _=>some .none
  | .Constant (.str x) _ _=>some (.str x)
  | .UnaryOp .USub (.Constant (.int i) _ _) _=>some (.int (-i))
  | .Tuple es _ _=>(Px n es).map .tuple
  | .List es _=>(Px n es).map .list
  | .Dict [] [] _=>some (.dict [])
  |_=>none
def Px:Nat->List Expr->Option (List PyData)
 |0,_=>none
 |_+1,[]=>some []
 |n+1,e::es=>match adx n e,Px n es with
  |some d,some ds=>some (d::ds)
  |_,_=>none
end
section
variable{X:Cx}
end
end L2
namespace L2
open PySem PySem.Spec PyProof.Rows
section
variable{κ:Type} [DecidableEq κ]
def valV(kvs:List (κ×V))(k:κ):Option V:=(kvs.find? fun kv=>decide (kv.1=k)).map (·.2)
def putK(kvs:List (κ×V))(k:κ)(v:V):List (κ×V):=
 if(kvs.any fun kv=>decide (kv.1=k))=true then kvs.map (fun kv=>if kv.1=k then(kv.1,v)else kv)else kvs++[(k,v)]
theorem valV_pos{p:κ×V}{r:List (κ×V)}{k:κ}(e:p.1=k):valV (p::r) k=some p.2:=by simp[valV,Wu,e]
theorem valV_neg{p:κ×V}{r:List (κ×V)}{k:κ}(e:¬p.1=k):valV (p::r) k=valV r k:=by simp[valV,Wu,e]
theorem valV_any(k:κ):∀kvs:List (κ×V),(kvs.any fun kv=>decide (kv.1=k))=(valV kvs k).isSome
 |[]=>rfl
 |p::r=>by
  rw[Uu]
  by_cases e:p.1=k
  ·simp only[valV_pos e,cJ e,Bool.true_or,Option.isSome_some]
  ·rw[valV_neg e,gB e,wfj];exact valV_any k r
theorem length_putK(kvs:List (κ×V))(k:κ)(v:V):(putK kvs k v).length<=kvs.length+1:=by
 unfold putK
 split
 ·rw[aQ];omega
 ·rw[iz,Mq,Rt];omega
theorem putK_new{kvs:List (κ×V)}{k:κ}(v:V)(h:valV kvs k=none):putK kvs k v=kvs++[(k,v)]:=by
 unfold putK
 rw[valV_any,h]
 exact bC (by decide)
theorem RelO.isSome_eq{o:Option V}{u:Option Value}(r:RelO o u):o.isSome=u.isSome:=by
 cases o with
 |none=>cases u with
  |none=>rfl
  |some _=>exact(show False from r).elim
 |some _=>cases u with
  |none=>exact(show False from r).elim
  |some _=>rfl
theorem KV.val{kvs:List (κ×V)}{vs:List (κ×Value)}(r:KV kvs vs)(k:κ):RelO (valV kvs k) (valueAt vs k):=by
 unfold KV at r
 induction r with
 |nil=>exact True.intro
 | @cons p q ps qs h t ih=>
  obtain⟨h1,h2⟩:=h
  by_cases e:p.1=k
  ·have e':q.1=k:=h1.symm.trans e
   have b:valueAt (q::qs) k=some q.2:=by simp[valueAt,Wu,e']
   rw[valV_pos e,b];exact h2
  ·have e':¬q.1=k:=fun z=>e (h1.trans z)
   have b:valueAt (q::qs) k=valueAt qs k:=by simp[valueAt,Wu,e']
   rw[valV_neg e,b];exact ih
theorem KV.any{kvs:List (κ×V)}{vs:List (κ×Value)}(r:KV kvs vs)(k:κ):(kvs.any fun kv=>decide (kv.1=k))=vs.any fun kv=>decide (kv.1=k):=by
 unfold KV at r
 induction r with
 |nil=>rfl
 |cons h t ih=>rw[Uu,Uu,ih,h.1]
theorem KV.repl{kvs:List (κ×V)}{vs:List (κ×Value)}(r:KV kvs vs)(k:κ){y:V}{u:Value}(ry:RelV y u):
  KV (kvs.map fun kv=>if kv.1=k then(kv.1,y)else kv) (vs.map fun kv=>if kv.1=k then(kv.1,u)else kv):=by
 unfold KV at r⊢
 induction r with
 |nil=>exact .nil
 | @cons p q ps qs h t ih=>
  rw[Fy,Fy]
  refine .cons ?_ ih
  obtain⟨h1,h2⟩:=h
  by_cases e:p.1=k
  ·rw[bD e,bD (h1.symm.trans e)];exact⟨h1,ry⟩
  ·rw[bC e,bC (fun z=>e (h1.trans z))];exact⟨h1,h2⟩
theorem KV.put{kvs:List (κ×V)}{vs:List (κ×Value)}(r:KV kvs vs)(k:κ){y:V}{u:Value}(ry:RelV y u):KV (putK kvs k y) (stored vs k u):=by
 unfold putK stored
 rw[r.any k]
 by_cases e:(vs.any fun kv=>decide (kv.1=k))=true
 ·rw[bD e,bD e];exact r.repl k ry
 ·rw[bC e,bC e];exact Paired.snoc r ⟨rfl,ry⟩
theorem KV.keys{kvs:List (κ×V)}{vs:List (κ×Value)}(r:KV kvs vs):kvs.map (·.1)=vs.map (·.1):=by
 unfold KV at r
 induction r with
 |nil=>rfl
 |cons h t ih=>rw[Fy,Fy,ih,h.1]
theorem KV.length{kvs:List (κ×V)}{vs:List (κ×Value)}(r:KV kvs vs):kvs.length=vs.length:=wel r
end
theorem kV_is{P:Program}{w:World}{k:Key}{u:Value}(r:RelV (kV k) u):(mixKind P w).is k u=true:=by
 cases k with
 |inl i=>obtain⟨t,e⟩:=(show∃t,u=Value.int i t from r);subst e;exact mixKind_int P w i t
 |inr x=>obtain⟨t,e⟩:=(show∃t,u=Value.str x t from r);subst e;exact mixKind_str P w x t
theorem items_are{P:Program}{w:World}:∀{ks:List Key} {us:List Value},Vals (ks.map kV) us->ItemsAre (mixKind P w) ks us
 |[],_,r=>by rw[wfo]at r;cases r;exact .nil
 |k::ks,_,r=>by
  rw[Fy]at r
  cases r with
  |cons h t=>exact .cons (kV_is h) (items_are t)
abbrev KT(H:Hp):List (List Key×V)->List (List Key×Addr×Value)->Prop:=Paired fun p q=>p.1=q.1/\H q.2.1=some (.tup (p.1.map kV))/\RelV p.2 q.2.2
theorem KT.val{H:Hp}{kvs:List (List Key×V)}{xs:List (List Key×Addr×Value)}(r:KT H kvs xs)(k:List Key):RelO (valV kvs k) ((atKey xs k).map (·.2)):=by
 induction r with
 |nil=>exact True.intro
 | @cons p q ps qs h t ih=>
  obtain⟨h1,_,h2⟩:=h
  by_cases e:p.1=k
  ·have e':q.1=k:=h1.symm.trans e
   have b:atKey (q::qs) k=some q.2:=by simp[atKey,Wu,e']
   rw[valV_pos e,b];exact h2
  ·have e':¬q.1=k:=fun z=>e (h1.trans z)
   have b:atKey (q::qs) k=atKey qs k:=by simp[atKey,Wu,e']
   rw[valV_neg e,b];exact ih
theorem KT.repl{H:Hp}{kvs:List (List Key×V)}{xs:List (List Key×Addr×Value)}(r:KT H kvs xs)(k:List Key){y:V}{u:Value}(ry:RelV y u):
  KT H (kvs.map fun kv=>if kv.1=k then(kv.1,y)else kv) (xs.map (putAt k u)):=by
 induction r with
 |nil=>exact .nil
 | @cons p q ps qs h t ih=>
  rw[Fy,Fy]
  refine .cons ?_ ih
  obtain⟨h1,h2,h3⟩:=h
  unfold putAt
  by_cases e:p.1=k
  ·rw[bD e,bD (h1.symm.trans e)];exact⟨h1,h2,ry⟩
  ·rw[bC e,bC (fun z=>e (h1.trans z))];exact⟨h1,h2,h3⟩
theorem KT.put{H:Hp}{kvs:List (List Key×V)}{xs:List (List Key×Addr×Value)}(r:KT H kvs xs)(k:List Key){b:Addr}{y:V}{u:Value}(hb:H b=some (.tup (k.map kV)))(ry:RelV y u):
  KT H (putK kvs k y) (storedH xs k b u):=by
 have e:(kvs.any fun kv=>decide (kv.1=k))=(atKey xs k).isSome:=by
  rw[valV_any,(r.val k).isSome_eq,Option.isSome_map]
 unfold putK storedH
 rw[e]
 by_cases q:(atKey xs k).isSome=true
 ·rw[bD q,bD q];exact r.repl k ry
 ·rw[bC q,bC q];exact Paired.snoc r ⟨rfl,hb,ry⟩
theorem KT.keeps{H H':Hp}{kvs:List (List Key×V)}{xs:List (List Key×Addr×Value)}(r:KT H kvs xs)(ht:∀b ys,H b=some (.tup ys)->H' b=some (.tup ys)):KT H' kvs xs:=
 Paired.mapP r fun _ _ z=>⟨z.1,ht _ _ z.2.1,z.2.2⟩
section
variable{P:Program}{w:World}{H:Hp}{h:Heap}{a:Addr}
theorem rd_of{u:HO}(ok:HOk P w H h)(e:Rd H a u):ObjOk P w H h a u:=e.ok ok
theorem dk_rd{kvs:List (Key×V)}(ok:HOk P w H h)(e:Rd H a (.dK kvs)):kvs.length<=sizeLine/\(a==sysModules)=false/\∃vs,KV kvs vs/\h.DictOf (mixKind P w) a vs:=
 show ObjOk P w H h a (.dK kvs)from rd_of ok e
theorem dk_of{kvs:List (Key×V)}(ok:HOk P w H h)(e:H a=some (.dK kvs)):kvs.length<=sizeLine/\(a==sysModules)=false/\∃vs,KV kvs vs/\h.DictOf (mixKind P w) a vs:=dk_rd ok (.inl e)
theorem key_of{ks:List Key}(ok:HOk P w H h)(e:H a=some (.tup (ks.map kV))):(tupleKind (mixKind P w)).is h ks a:=by
 obtain⟨_,its,r,o,h1,h2,n,h3⟩:=(show ObjOk P w H h a (.tup (ks.map kV))from ok a _ e)
 exact⟨o,its.toArray,n,h1,h2,h3,by simpa using items_are r⟩
theorem dt_rd{kvs:List (List Key×V)}(ok:HOk P w H h)(e:Rd H a (.dT kvs)):kvs.length<=sizeLine/\(a==sysModules)=false/\
  ∃xs,KT H kvs xs/\h.DictOfH (tupleKind (mixKind P w)) a xs:=by
 obtain⟨z,y,xs,r,o,es,ep,h1,h2,h3,h4,h5⟩:=(show ObjOk P w H h a (.dT kvs)from rd_of ok e)
 refine⟨z,y,xs,r,o,es,ep,h1,h2,h3,h4,fun x hx=> ?_,h5⟩
 have all:∀{l:List (List Key×V)} {m:List (List Key×Addr×Value)},KT H l m->∀x∈m,(tupleKind (mixKind P w)).is h x.1 x.2.1:=by
  intro l m q
  induction q with
  |nil=>intro x hx;exact nomatch hx
  | @cons p q ps qs hq t ih=>
   intro x hx
   rcases cT.mp hx with e|hx
   ·subst e
    exact key_of ok (by rw[<-hq.1];exact hq.2.1)
   ·exact ih x hx
 exact all r x hx
theorem dt_of{kvs:List (List Key×V)}(ok:HOk P w H h)(e:H a=some (.dT kvs)):kvs.length<=sizeLine/\(a==sysModules)=false/\
  ∃xs,KT H kvs xs/\h.DictOfH (tupleKind (mixKind P w)) a xs:=dt_rd ok (.inl e)
end
def DGet(H:Hp)(a:Addr)(y:V)(r:Option V):Prop:=
 (∃kvs k,Rd H a (.dK kvs)/\y=kV k/\r=valV kvs k)\/∃kvs k b,Rd H a (.dT kvs)/\y= .ref b/\H b=some (.tup (k.map kV))/\r=valV kvs k
def DPut(H:Hp)(a:Addr)(y v:V)(H':Hp):Prop:=
 (∃kvs k,H a=some (.dK kvs)/\y=kV k/\kvs.length<sizeLine/\H'=upd H a (.dK (putK kvs k v)))\/
 ∃kvs k b,H a=some (.dT kvs)/\y= .ref b/\H b=some (.tup (k.map kV))/\kvs.length<sizeLine/\H'=upd H a (.dT (putK kvs k v))
theorem DPut.k{H:Hp}{a:Addr}{kvs:List (Key×V)}{k:Key}{v:V}(e:H a=some (.dK kvs))(hl:kvs.length<sizeLine):DPut H a (kV k) v (upd H a (.dK (putK kvs k v))):= .inl ⟨kvs,k,e,rfl,hl,rfl⟩
section
variable{X:Cx}{pins:List (Addr×Obj)}{σ:St}{H:Hp}{s:Shared}{a:Addr}{y v:V}{u r:Value}{o:Option V}{A:Around}{E:Value->Shared->Prop}
theorem Inv.big(I:Inv X pins σ H s):sysModules<s.heap.objs.size:=by
 have h:mainGlobals<s.heap.objs.size:=(I.mod.glob.keeps I.bk).lt
 exact yO (by decide) h
theorem d_getItem{Q:Value->Shared->Prop}(hu:A.units+1<cLine)(I:Inv X pins σ H s)(g:DGet H a y (some v))(ry:RelV y u)(h:∀w' s',Inv X pins σ H s'->RelV v w'->Q w' s'):
  wpAny (model X.prog X.w) A (getItem (.ref a) u) Q E s:=by
 rcases g with⟨kvs,k,e,ey,l⟩|⟨kvs,k,b,e,ey,eb,l⟩
 ·subst ey
  obtain⟨z,hd,vs,rel,dd⟩:=dk_rd I.hok e
  obtain⟨w',hw,rw'⟩:=RelO.some_of (v:=v) (o:=valueAt vs k) (by rw[l];exact rel.val k)
  exact wpAny_getItem_of (kV_is ry) dd.mapOf hw (h w' _ (I.tok _) rw')
 ·subst ey
  cases(show u=Value.ref b from ry)
  obtain⟨z,hd,xs,rel,dd⟩:=dt_rd I.hok e
  obtain⟨w',hw,rw'⟩:=RelO.some_of (v:=v) (o:=(atKey xs k).map (·.2)) (by rw[l];exact rel.val k)
  obtain⟨p,hp,hp2⟩:=Option.map_eq_some_iff.mp hw
  refine wpAny_getItem_heap (tupleKind_room_in1 hu) (key_of I.hok eb) dd hp ?_
  rw[hp2]
  exact h w' _ (I.tok _) rw'
theorem d_write{h':Heap}{t':Nat}{ob:HO}(I:Inv X pins σ H s)(mu:Mut (H a))(hs:Heap.SameBut a s.heap h')(he:∃q,h'.get? a=some q)(new:ObjOk X.prog X.w (upd H a ob) h' a ob):
  Inv X pins σ (upd H a ob) {s with heap:=h',toks:=t'}:=
 I.write (x:=a) (e:=a) mu (.inl rfl) (fun b q hb z=>(hs.2 b hb).trans z) he new
theorem dk_new{P:Program}{w:World}{H':Hp}{h':Heap}{kvs:List (Key×V)}{vs:List (Key×Value)}(z:kvs.length<=sizeLine)(hd:(a==sysModules)=false)(rel:KV kvs vs)(dd:h'.DictOf (mixKind P w) a vs):
  ObjOk P w H' h' a (.dK kvs):=⟨z,hd,vs,rel,dd⟩
theorem d_setItem{H':Hp}{Q:Unit->Shared->Prop}(hu:A.units+1<cLine)(I:Inv X pins σ H s)(g:DPut H a y v H')(ry:RelV y u)(rv:RelV v r)(h:∀s',Inv X pins σ H' s'->Q () s'):
  wpAny (model X.prog X.w) A (setItem (.ref a) u r) Q E s:=by
 rcases g with⟨kvs,k,e,ey,l,eH⟩|⟨kvs,k,b,e,ey,eb,l,eH⟩
 ·subst ey eH
  obtain⟨z,hd,vs,rel,dd⟩:=dk_of I.hok e
  have hz:vs.length<=sizeLine:=by rw[<-rel.length];exact z
  have hl:(putK kvs k v).length<=sizeLine:=by have:=length_putK kvs k v;omega
  refine wpAny_setItem_pairs (hsz:=hz) (kV_is ry) dd fun h' dd' hs=>h _ ?_
  have he:∃q,h'.get? a=some q:=let⟨q,_,_,hq,_⟩:=dd';⟨q,hq⟩
  exact d_write I (by rw[e];exact True.intro) hs he (dk_new hl hd (rel.put k rv) dd')
 ·subst ey eH
  cases(show u=Value.ref b from ry)
  obtain⟨z,hd,xs,rel,dd⟩:=dt_of I.hok e
  have hz:xs.length<=sizeLine:=by rw[<-wel rel];exact z
  have hl:(putK kvs k v).length<=sizeLine:=by have:=length_putK kvs k v;omega
  refine wpAny_setItem_heap (hsz:=hz) (tupleKind_room_in1 hu) (key_of I.hok eb) dd fun h' dd' hs=>h _ ?_
  obtain⟨q,es,ep,hq,h2,h3,h4,_,h5⟩:=dd'
  refine d_write I (by rw[e];exact True.intro) hs ⟨q,hq⟩ ⟨hl,hd,_,(rel.put k eb rv).keeps fun c ys ec=> ?_,q,es,ep,hq,h2,h3,h4,h5⟩
  rw[dX (ne_of ec e (fun z=>nomatch z))]
  exact ec
end
section
variable{X:Cx}{pins:List (Addr×Obj)}{σ:St}{H:Hp}{s:Shared}{a:Addr}{kvs:List (Key×V)}{k:Key}{u:Value}{A:Around}{E:Value->Shared->Prop}
end
def NoSl(i:Expr):Prop:=∀ov iv,subscripted i false ov iv=operate [ov,iv] (getItem ov iv)
theorem subD_of{prog:Program}{w:World}{A:Around}{E:Value->Shared->Prop}{s:Shared}{env:Env}{value slice:Expr}{pos:Pos}{T id:String}{Q:Value->Shared->Prop}(hl:typeLookup (.type T) "__getitem__"=pure (some (.builtin id)))(hs:NoSl slice)(h:wpAny (model prog w) A (eval value env) (fun o s₁=>wpAny (model prog w) A (eval slice env) (fun i s₂=>s₂.TypeIs o T/\wpAny (model prog w) A (getItem o i) Q E s₂) E s₁) E s):
  wpAny (model prog w) A (eval (.Subscript value slice pos) env) Q E s:=by
 refine Subscript_ (Mt h (fun o s₁ h₁=>Mt h₁ (fun i s₂ h₂=> ?_) fun _ _ x=>x) fun _ _ x=>x)
 obtain⟨hT,h₂⟩:=h₂
 unfold subscriptTail
 refine aK ?_
 rw[getitemInPython_of_ne hT.not_modules]
 refine aK (XQ hT hl ?_)
 have fin:wpAny (model prog w) A (subscripted slice false o i) (fun r s₃=>wpAny (model prog w) A (letTemporaryGo value o r>>=fun _=>pure r) Q E s₃) E s₂:=by
  rw[hs o i]
  exact wpAny_operating (Mt h₂ (fun r s₃ h₃=>aK (wpAny_letTemporaryGo (bO h₃))) fun _ _ x=>x)
 first
  |exact bO (aK fin)
  |exact aK (bO (aK fin))
  |exact aK fin
theorem dict_typeIs{X:Cx}{pins:List (Addr×Obj)}{σ:St}{H:Hp}{s:Shared}{a:Addr}{y:V}{o:Option V}(I:Inv X pins σ H s)(g:DGet H a y o):s.TypeIs (.ref a) "dict":=by
 rcases g with⟨kvs,k,e,_,_⟩|⟨kvs,k,b,e,_,_,_⟩
 ·obtain⟨_,_,vs,_,dd⟩:=dk_rd I.hok e
  exact dd.typeIs
 ·obtain⟨_,_,xs,_,dd⟩:=dt_rd I.hok e
  exact dd.typeIs
def tDGet(td ty:TE):TE:=fun σ H Q=>td σ H fun x H1=>ty σ H1 fun y H2=>∃a v,x= .ref a/\DGet H2 a y (some v)/\Q v H2
def sDPut(td ty tv:TE):TS:=fun D σ H=>tv σ H fun v H1=>td σ H1 fun x H2=>ty σ H2 fun y H3=>∃a H4,x= .ref a/\DPut H3 a y v H4/\D.nx σ H4
section
variable{X:Cx}{o i e value:Expr}{pos pos' tpos:Pos}{td ty tv:TE}
theorem pe_dget(hu:X.A.units+1<cLine)(ho:PE X o td)(hi:PE X i ty)(hs:NoSl i):PE X (.Subscript o i pos) (tDGet td ty):=by
 intro pins s σ H Q I h
 refine subD_of PySem.F.slot_dict_getitem.lookup hs (thn (ho pins s σ H _ I h) fun u s1 ⟨x,H1,I1,rx,q1⟩=>thn (hi pins s1 σ H1 _ I1 q1) fun iv s2 ⟨y,H2,I2,ry,a,v,ex,g,q2⟩=> ?_)
 subst ex
 obtain rfl:u=Value.ref a:=rx
 exact⟨dict_typeIs I2 g,d_getItem hu I2 g ry fun w' s3 I3 rw'=>⟨v,H2,I3,rw',q2⟩⟩
theorem ps_dput(hu:X.A.units+1<cLine)(ho:PE X o td)(hi:PE X i ty)(hv:PE X value tv)(hs:swapsWith value (some (.Subscript o i pos')) pos.line X.env=pure false):
  PS X (.Assign [.Subscript o i pos'] value pos) (sDPut td ty tv):=by
 intro pins s σ H D I h
 refine wpAny_Assign_Subscript (thn (hv pins s σ H _ I h) fun r s1 ⟨v,H1,I1,rv,q1⟩=>thn (ho pins s1 σ H1 _ I1 q1) fun u s2 ⟨x,H2,I2,rx,q2⟩=>thn (hi pins s2 σ H2 _ I2 q2) fun iv s3 ⟨y,H3,I3,ry,a,H4,ex,g,q3⟩=> ?_) hs
 subst ex
 obtain rfl:u=Value.ref a:=rx
 exact d_setItem hu I3 g ry rv fun s4 I4=>⟨σ,H4,I4,q3⟩
end
theorem dk_empty{P:Program}{w:World}{H:Hp}(h:Heap)(hb:sysModules<h.objs.size):ObjOk P w H (h.push {cls:= .type "dict",data:= .dict #[]}) h.objs.size (.dK []):=
 ⟨jj _,beq_eq_false_iff_ne.mpr (zF (fU hb)),[],.nil,Heap.DictOf.new h⟩
def tDNewK:TE:=fun _ H Q=>∀p,H p=none->Q (.ref p) (upd H p (.dK []))
section
variable{X:Cx}{pos:Pos}
theorem pe_dnewK:PE X (.Dict [] [] pos) tDNewK:=fun pins s σ H Q I h=>
 wpAny_Dict_empty ⟨.ref s.heap.objs.size,_,I.laid (a:=s.heap.objs.size) (o:= .dK []) (t':=s.toks) (fun _ _ q=>fV _ q) (bx _) (dk_empty s.heap I.big),rfl,h _ (I.hok.fresh (bx _))⟩
end
end L2
namespace PySem
namespace F
theorem zZ:Manifest.owners.lookup (String.ofList ['d','e','s','r','e','v','e','r'].reverse)=some Manifest.sig_reversed:=by kernel_rfl
theorem cG:Slot "reversed" "__next__" "reversed.__next__":=
 .of (owner:="reversed") (n:="__next__") (by rw[wdl,wbx];kernel_rfl) (by decide+kernel) (by decide+kernel) (by decide+kernel)
  (by first |exact .inl (by decide+kernel)|exact .inr (by decide+kernel)) (by rw[wea];kernel_rfl)
theorem kY:entryFor table "reversed.__next__"=some Builtin.«reversed.__next__»:=entryFor_of_tree (by kernel_rfl)
theorem args_rvd_next_1(a:Value):argsOk "reversed.__next__" ⟨[a],[]⟩:=by
 unfold argsOk;rw[signature?_of (id:="reversed.__next__") (n:=['_','_','t','x','e','n','_','_']) (o:=['d','e','s','r','e','v','e','r']) (by kernel_rfl) zZ];kernel_rfl
theorem mU:Slot "reversed" "__iter__" "reversed.__iter__":=
 .of (owner:="reversed") (n:="__iter__") (by rw[wdl,wbx];kernel_rfl) (by decide+kernel) (by decide+kernel) (by decide+kernel)
  (by first |exact .inl (by decide+kernel)|exact .inr (by decide+kernel)) (by rw[wea];kernel_rfl)
theorem args_rvd_iter_1(a:Value):argsOk "reversed.__iter__" ⟨[a],[]⟩:=by
 unfold argsOk;rw[signature?_of (id:="reversed.__iter__") (n:=['_','_','r','e','t','i','_','_']) (o:=['d','e','s','r','e','v','e','r']) (by kernel_rfl) zZ];kernel_rfl
theorem yu:entryFor table "reversed.__iter__"=some Builtin.«dict_keyiterator.__iter__»:=
 entryFor_alias (id':="dict_keyiterator.__iter__") (by kernel_rfl) (by first |rfl|decide+kernel|(unfold String.splitOn;simp +decide [String.splitOnAux])) (by decide+kernel) (by kernel_rfl)
theorem CN:typeLookup (.type "tuple") "__reversed__"=pure none:=by rw[wdl,wbx];kernel_rfl
end F
section
variable{prog:Program}{w:World}{A:Around}{E:Value->Shared->Prop}{s:Shared}
def Gm(l:Addr)(i:Int):Obj:={cls:= .type "reversed",data:= .fields #[.ref l,rawInt i]}
def Heap.lq(h:Heap)(a l:Addr)(i:Int):Prop:=∃o,h.get? a=some o/\o.cls= .type "reversed"/\o.data= .fields #[.ref l,rawInt i]
theorem Heap.lq.typeIs{a l:Addr}{i:Int}(x:s.heap.lq a l i):s.TypeIs (.ref a) "reversed":=let⟨o,ho,hc,_⟩:=x;⟨o,ho,hc⟩
theorem Heap.lq.at{h h':Heap}{a l:Addr}{i:Int}(x:h.lq a l i)(e:∀o,h.get? a=some o->h'.get? a=some o):h'.lq a l i:=let⟨o,ho,r⟩:=x;⟨o,e _ ho,r⟩
theorem Ie:TypeCalled "reversed" "reversed.__new__" "object.__init__":=
 ⟨by decide+kernel,by decide+kernel,⟨_,_,F.mro_reversed⟩,F.made_reversed,by decide+kernel,F.sub_reversed_self,
  .of (owner:="object") (n:="__init__") (by rw[wdl,wbx];kernel_rfl) (by decide+kernel) (by decide+kernel) (by decide+kernel)
  (by first |exact .inl (by decide+kernel)|exact .inr (by decide+kernel)) (by rw[wea];kernel_rfl)⟩
theorem Gk(l:Addr)(items:Array Value):MeetsIn prog w (Builtin.«reversed.__new__» ⟨[.type "reversed",.ref l],[]⟩) (fun _ R s=>(PyProof.Rows.IsTup s.heap l items/\(items.size:Int)<2^62)/\
  ∀tk,R (.ok (.ret (.ref s.heap.objs.size))) {s with heap:=s.heap.push (Gm l ((items.size:Int)-1)),toks:=tk}):= .of_wp fun A R s h=>by
 obtain⟨⟨hl,hz⟩,h⟩:=h
 unfold Builtin.«reversed.__new__»
 refine aK (Q9 (newClass_reversed _) ?_)
 try dsimp only
 refine aK (Q9 (a:=()) (by first |rfl|kernel_rfl) ?_)
 refine aK (Q9 (a:=()) (by first |rfl|kernel_rfl) ?_)
 try dsimp only
 refine aK (XQ hl.typeIs F.CN ?_)
 try dsimp only
 refine aK ?_
 show wpAny _ _ (isInstance (Value.ref l) (.type "dict")>>=_) _ _ s
 refine aK (wer hl.typeIs F.sub_tuple_dict ?_)
 show wpAny _ _ (specialOf (Value.ref l) "__getitem__">>=_) _ _ s
 refine aK (XQ hl.typeIs F.slot_tuple_getitem.lookup ?_)
 refine Q9 (a:=true) (by first |rfl|kernel_rfl) ?_
 show wpAny _ _ (call (.builtin "len") [Value.ref l]>>=_) _ _ s
 refine aK (PyProof.Rows.len_tuple hl (by omega) ?_)
 refine aK (Q9 (a:=some (items.size:Int)) (by first |rfl|kernel_rfl) ?_)
 show wpAny _ _ (Builtin.SmallTypes.newRecord (.type "reversed") [Value.ref l,rawInt ((items.size:Int)-1)]>>=_) _ _ _
 unfold Builtin.SmallTypes.newRecord
 refine aK (was (bO ?_))
 exact⟨_,rfl,h _⟩
theorem rm{l:Addr}{items:Array Value}{Q:Value->Shared->Prop}(hl:PyProof.Rows.IsTup s.heap l items)(hz:(items.size:Int)<2^62)(h:∀tk,Q (.ref s.heap.objs.size) {s with heap:=s.heap.push (Gm l ((items.size:Int)-1)),toks:=tk}):wpAny (model prog w) A (call (.type "reversed") [.ref l]) Q E s:=
 callType_newIn Ie (by decide) (F.typeCall_reversed_1 _) (F.newCall_reversed_1 _) (fun obj=>wda obj _) F.entry_reversed_new (Gk l items) ⟨⟨hl,hz⟩,fun tk=>⟨⟨_,qp _ rfl,rfl⟩,h tk⟩⟩
theorem Pn{it l:Addr}{i:Nat}{items:Array Value}{x:Value}{Q:Option Value->Shared->Prop}(hit:s.heap.lq it l (i:Int))(hl:PyProof.Rows.IsTup s.heap l items)(hx:items[i]? =some x)(hz:(items.size:Int)<2^62)(hQ:∀h' tk,h'.lq it l ((i:Int)-1)->Heap.SameBut it s.heap h'->Q (some x) {s with heap:=h',toks:=tk}):wpAny (model prog w) A (pyNext (.ref it)) Q E s:=by
 obtain⟨o,ho,hc,hd⟩:=id hit
 have hi:i<items.size:=(Array.getElem?_eq_some_iff.mp hx).1
 unfold pyNext
 refine aK (XJ (WX (name:=Str.ofString "__next__") hit.typeIs F.cG
  (UG F.cG hit.typeIs F.kY ?_ (F.args_rvd_next_1 _))))
 unfold Builtin.«reversed.__next__»
 refine aK (Q9 (a:=(Value.ref it,[])) rfl ?_)
 try dsimp only
 refine aK (Mu ho hd (x:= .ref l) rfl ?_)
 refine aK (Mu ho hd (x:=rawInt (i:Int)) rfl ?_)
 show wpAny _ _ (if(i:Int)<0 then _ else _) _ _ s
 rw[bC (by omega)]
 show wpAny _ _ (specialOf (Value.ref l) "__getitem__">>=_) _ _ s
 refine aK (XQ hl.typeIs F.slot_tuple_getitem.lookup ?_)
 show wpAny _ _ (mkInt (i:Int)>>=_) _ _ s
 refine aK (wpAny_mkInt ?_)
 refine aK (XJ (PyProof.Rows.getItem_tuple (s:={s with toks:=s.toks+1}) hl (j:=i) (by omega) (by omega) ?_ hx ?_))
 ·unfold seqIndex?
  simp
  omega
 show wpAny _ _ (field (Value.ref it) 1>>=_) _ _ _
 refine aK (Mu (s:={s with toks:=s.toks+1}) ho hd (x:=rawInt (i:Int)) rfl ?_)
 show wpAny _ _ (setField (Value.ref it) 1 (rawInt ((i:Int)-1))>>=_) _ _ _
 refine aK (XM (s:={s with toks:=s.toks+1}) ho hd (by simp) ?_)
 refine bO ⟨x,rfl,bO (hQ _ _ ?_ (Nh ..))⟩
 exact⟨_,Wy _ ho (wcw (WT hd _)),(Obj.cls_mapFields ..).trans hc,by
  rw[WT hd];simp⟩
theorem Ec{it l:Addr}{i:Int}{Q:Value->Shared->Prop}(hit:s.heap.lq it l i)(h:Q (.ref it) s):wpAny (model prog w) A (pyIter (.ref it)) Q E s:=by
 refine wpAny_pyIter_slot hit.typeIs F.mU (UG F.mU hit.typeIs F.yu ?_ (F.args_rvd_iter_1 _))
 show wpAny _ _ (ret (.ref it)) _ _ s
 exact bO ⟨_,rfl,"reversed",_,hit.typeIs,F.cG.lookup,h⟩
theorem Bx{it l:Addr}{Q:Option Value->Shared->Prop}(hh:A.handled=none)(hit:s.heap.lq it l (-1))(hQ:∀h',Heap.ExtBut it s.heap h'->Q none {s with heap:=h'}):wpAny (model prog w) A (pyNext (.ref it)) Q E s:=by
 obtain⟨o,ho,hc,hd⟩:=id hit
 unfold pyNext
 refine aK (XJ (WX (name:=Str.ofString "__next__") hit.typeIs F.cG
  (UG F.cG hit.typeIs F.kY ?_ (F.args_rvd_next_1 _))))
 unfold Builtin.«reversed.__next__»
 refine aK (Q9 (a:=(Value.ref it,[])) rfl ?_)
 try dsimp only
 refine aK (Mu ho hd (x:= .ref l) rfl ?_)
 refine aK (Mu ho hd (x:=rawInt (-1)) rfl ?_)
 show wpAny _ _ (if(-1:Int)<0 then _ else _) _ _ s
 rw[bD (by decide)]
 refine aK (Vr ?_)
 refine aK ?_
 show wpAny _ _ (setField (Value.ref it) 1 (rawInt (-1))>>=_) _ _ _
 refine aK (XM ho hd (by simp) ?_)
 have e1:=Wy (Obj.mapFields (·.setIfInBounds 1 (rawInt (-1)))) ho (wcw (WT hd _))
 refine XM (s:={s with heap:=_}) e1 (WT hd _) (by simp) ?_
 first
 |show wpAny _ _ (newExc (.type "StopIteration") []>>=_) _ _ _
 |(refine aK ?_;show wpAny _ _ (newExc (.type "StopIteration") []>>=_) _ _ _)
 refine aK ?_
 simp only[newExc,newTuple]
 refine aK (was ?_ (by size_fits))
 refine aK (m:=firstArgMember _ _) (Q9 (a:=Value.none) (by first |rfl|(simp only[firstArgMember];rfl)) ?_)
 refine was ?_ (by size_fits)
 simp only[raiseNew]
 refine aK (wpAny_handled ?_)
 first |rw[show A.in1.handled=none from hh]|rw[hh]
 refine aK (bO (wpAny_throw ?_))
 refine aK (wer (T:="StopIteration") (b:=true) ⟨_,qp _ rfl,rfl⟩ isSubtype_stop ?_)
 exact bO (hQ _ ((((Nh ..).extBut.trans (Nh ..).extBut).push _).push _))
end
end PySem
namespace L2
open PySem PySem.Spec PyProof.Rows
def Z5(K:W.Frag)(a:Addr)(xs:List V):It:=
 ⟨fun i H=>SqT K H a xs/\i<xs.length,fun i H x H'=>H'=H/\xs.reverse[i]? =some x,fun i H=>SqT K H a xs/\i=xs.length⟩
theorem Np{P:Program}{w:World}{K:W.Frag}{tg:Expr}(a it:Addr)(xs:List V)(hz:xs.length<=sizeLine):Turn P w K tg (Z5 K a xs) [it] it (fun i h=>i<=xs.length/\h.lq it a ((xs.length:Int)-1-(i:Int))) where
 mem:=by simp
 obj:=fun i h st b hb=>by
  have e:b=it:=by simpa using hb
  subst e
  obtain⟨_,o,e,c,d⟩:=st
  exact⟨o,e,fun v z=>by rw[d]at z;cases z⟩
 keep:=fun i h h' st k=>⟨st.1,st.2.at fun o e=>k it (by simp) o e⟩
 item:=by
  intro X hP hw hK hc i pins s σ H E I hf st hg
  subst hP hw hK
  obtain⟨hq,hi⟩:=hg
  obtain⟨its,rv,p,_⟩:=I.tuple hq
  have hl:=rv.length
  have hj:xs.length-1-i<xs.length:=by omega
  have hx:xs[xs.length-1-i]? =some xs[xs.length-1-i]:=iY hj
  obtain⟨u,hu,ru⟩:=rv.get hx
  obtain⟨f0,f1,f2,f3,f4,f5⟩:=hf it (by simp)
  have e1:(xs.length:Int)-1-(i:Int)=((xs.length-1-i:Nat):Int):=by omega
  have hit:=st.2
  rw[e1]at hit
  rw[eF]at hz
  refine Pn hit (show PyProof.Rows.IsTup s.heap a its.toArray from p) (x:=u) (by simpa using hu) (by rw[dW];omega) fun h' tk st' sb=> ?_
  have I1:Inv X pins σ H {s with heap:=h',toks:=tk}:=I.turned (t':=tk) (fun b o hb e=>(sb.2 b hb).trans e) f0 f1 f3 f4 f5
  obtain⟨o,e,c,d⟩:=id st'
  have e2:((xs.length-1-i:Nat):Int)-1=(xs.length:Int)-1-((i+1:Nat):Int):=by omega
  rw[e2]at st'
  refine⟨u,rfl,go_of (s:={s with heap:=h',toks:=tk}) e c d (by decide) ⟨xs[xs.length-1-i],H,I1,ru,⟨rfl,?_⟩,⟨hi,st'⟩,fun b hb=>(hf b hb).1⟩⟩
  rw[List.getElem?_reverse hi];exact hx
 done:=by
  intro X hP hw hK hc i pins s σ H E I hf st hg
  subst hP hw hK
  obtain⟨hq,hi⟩:=hg
  obtain⟨f0,f1,f2,f3,f4,f5⟩:=hf it (by simp)
  have e1:(xs.length:Int)-1-(i:Int)= -1:=by omega
  have hit:=st.2
  rw[e1]at hit
  exact Bx (I.ok.hd hc) hit fun h' eb=>⟨rfl,I.turned (t':=s.toks) (fun b o hb e=>eb b o hb e) f0 f1 f3 f4 f5⟩
 self:=fun _ _ _ _ _ st h=>Ec st.2 h
section
variable{X:Cx}{tg:Expr}
def aei(K:W.Frag)(ta:TA):TI:=fun σ H R=>ta σ H fun vs H1=>∃(a:Addr) (xs:List V),vs=[.ref a]/\SqT K H1 a xs/\(xs.length<=sizeLine->R (Z5 K a xs) H1)
theorem VH{a:Expr}{ta:TA}{p pos:Pos}(hg:Gl X "reversed")(hm:X.mg "reversed"=none)(ha:PA X [a] ta)(hs:starEach [a] X.env=[(false,eval a X.env)]:=by rfl):
  PI X tg (.Call (.Name "reversed" p) [a] [] pos) (aei X.K ta):=by
 intro pins s σ H R I h
 refine Call_ (ld_blt I hg hm (show bootBuiltins "reversed"=some (.type "reversed")from by decide+kernel) (Nk (thn (ha pos pins s σ H _ I h) fun us s1 ⟨vs,H1,I1,r1,q1⟩=> ?_) hs rfl))
 obtain⟨l,xs,e,hq,q⟩:=q1
 subst e
 cases r1 with
 |cons r rr=>
  cases rr
  cases r
  obtain⟨its,rv,pl,hz⟩:=I1.tuple hq
  have hl:=rv.length
  have hz':=hz
  rw[eF]at hz'
  refine rm (show PyProof.Rows.IsTup s1.heap l its.toArray from pl) (by rw[dW];omega) fun tk=> ?_
  have gi:(s1.heap.push (Gm l ((its.toArray.size:Int)-1))).lq s1.heap.objs.size l ((its.toArray.size:Int)-1):=⟨_,qp _ rfl,rfl,rfl⟩
  refine Ec (s:={s1 with heap:=_,toks:=tk}) gi ?_
  have e1:(its.toArray.size:Int)-1=(xs.length:Int)-1-((0:Nat):Int):=by rw[dW];omega
  rw[e1]at gi⊢
  refine⟨s1.heap.objs.size,[s1.heap.objs.size],_,_,H1,rfl,I1.kept (t':=tk) fun b o e=>fV _ e,Np l _ xs hz,⟨jj _,gi⟩,fun b hb=> ?_,q hz⟩
  have e:b=s1.heap.objs.size:=by simpa using hb
  subst e
  exact I1.fpOk (bx _) (I1.hok.fresh (bx _))
end
theorem Tj{K:W.Frag}{a:Addr}{xs:List V}{g:TG}{tb:TS}{D:Ends}{σ:St}{H:Hp}(Pv:Nat->St->Hp->Prop)(h0:Pv 0 σ H)(hl:∀i σ H,i<=xs.length->Pv i σ H->SqT K H a xs)(hs:∀i x σ H,xs.reverse[i]? =some x->Pv i σ H->g x σ H fun σ2 H2=>tb {D with nx:=Pv (i+1),ct:=Pv (i+1),bk:=D.nx} σ2 H2)(hd:∀σ H,Pv xs.length σ H->D.nx σ H):
  ∃W:Nat->Nat->St->Hp->Prop,(∃m,W 0 m σ H)/\∀i m σ H,W i m σ H->
   ((Z5 K a xs).stop i H/\D.nx σ H)\/((Z5 K a xs).go i H/\∃N:St->Hp->Prop,(∀σ' H',N σ' H'->∃m',m'<m/\W (i+1) m' σ' H')/\∀x H',(Z5 K a xs).yld i H x H'->g x σ H' fun σ2 H2=>tb {D with nx:=N,ct:=N,bk:=D.nx} σ2 H2):=by
 refine⟨fun i m σ H=>m=xs.length-i/\i<=xs.length/\Pv i σ H,⟨xs.length,by simp,jj _,h0⟩,?_⟩
 rintro i m σ H ⟨rfl,hi,p⟩
 have q:=hl i σ H hi p
 by_cases e:i=xs.length
 ·subst e
  exact .inl ⟨⟨q,rfl⟩,hd σ H p⟩
 ·refine .inr ⟨⟨q,by omega⟩,Pv (i+1),fun σ' H' w=>⟨xs.length-(i+1),by omega,rfl,by omega,w⟩,fun x H' y=> ?_⟩
  obtain⟨rfl,hv⟩:=y
  exact hs i x σ _ hv p
section
variable{X:Cx}
theorem Lx(hc:X.calm=true):CallR X (.builtin "min") (fun xs H Q=>∃(a:Addr) (ns:List Int),xs=[.ref a]/\SqL X.K H a (ns.map V.int)/\ns≠[]/\∀m∈ns,(∀n∈ns,m<=n)->Q (.int m) H):=by
 intro pins s σ H xs us Q I r h
 obtain⟨a,ns,rfl,hS,hne,q⟩:=h
 obtain⟨u,rfl,ru⟩:=r.one
 cases ru
 obtain⟨vs,rv,pl,hz⟩:=I.list hS
 have hl:=pl.isList
 have hlt:a<s.heap.objs.size:=by obtain⟨_,e,_⟩:=hl;exact dw e
 have hlen:=rv.length
 rw[aQ]at hlen
 have hI:∀(i:Nat) (v:Value),vs.toArray[i]? =some v->∃t,v= .int (ns.getD i 0) t:=fun i v hv=>by
  have hv':vs[i]? =some v:=by simpa using hv
  have hi:i<ns.length:=by have:=(Aq.mp hv').1;omega
  have hn:(ns.map V.int)[i]? =some (.int (ns.getD i 0)):=by rw[gw,iY hi,zE,iY hi];rfl
  obtain⟨u,hu,ru⟩:=rv.get hn
  rw[hv']at hu
  cases hu
  obtain⟨t,rfl⟩:=ru
  exact⟨t,rfl⟩
 refine call_min_walk (WR hl ?_)
 refine⟨s.heap.objs.size,[s.heap.objs.size,a],[s.heap.objs.size],vs.toArray.size,_,_,_,rfl,wfi (A:=X.A.in1) (I.ok.hd hc) _ a (fU hlt) vs.toArray,
  ⟨⟨_,qp _ rfl,rfl,rfl⟩,hl.push _⟩,?_,?_,CmpOf.ints_lt (fun i=>ns.getD i 0) hI,fun v h' tk hP hk=> ?_⟩
 ·intro b hb
  show b<(s.heap.push _).objs.size
  rw[Q8]
  rcases cT.mp hb with rfl|hb
  ·exact Ru _
  ·rw[jk.mp hb];exact Mr hlt
 ·rw[dW,<-hlen];exact List.length_pos_iff.mpr hne
 ·obtain⟨t,rfl⟩:=hI _ v hP
  obtain⟨h1,h2⟩:=argBest_lt (fun i=>ns.getD i 0) (vs.toArray.size-1)
  have hn0:0<ns.length:=List.length_pos_iff.mpr hne
  have hb:argBest (fun i j=>decide (ns.getD i 0<ns.getD j 0)) (vs.toArray.size-1)<ns.length:=by
   have:vs.toArray.size=ns.length:=by rw[dW];omega
   omega
  refine⟨.int _,H,I.kept (LSm.kept_iter hk),⟨t,rfl⟩,q _ ?_ fun n hn=> ?_⟩
  ·rw[zE,iY hb];exact yU hb
  ·obtain⟨j,hj,rfl⟩:=Wx hn
   have:=h2 j (by rw[dW];omega)
   rw[zE (i:=j),iY hj]at this
   exact this
end
end L2
namespace PySem
section
variable{prog:Program}{w:World}{Ky:Type} [DecidableEq Ky]{knd:KeyKind prog w Ky}{A:Around}{E:Value->Shared->Prop}{s:Shared}
theorem K6{d:Addr}{kvs:List (Ky×Value)}{Q:Bool->Shared->Prop}(hm:s.heap.DictOf knd d kvs)(h:Q false s):wpAny (model prog w) A (Builtin.List.listLengthHint (.ref d)) Q E s:=by
 have hT:s.TypeIs (.ref d) "dict":=hm.typeIs
 unfold Builtin.List.listLengthHint
 refine aK (XQ hT F.slot_dict_len.lookup ?_)
 generalize hid:("dict.__len__":String)=id0
 wp_delta
 rw[show splitId id0=some ("dict","__len__")from by subst hid;decide+kernel]
 subst hid
 refine aK (wer (T:="dict") (b:=true) hT (by rw[wea];kernel_rfl) ?_)
 refine wez (fun hab=>absurd hab (by decide)) (fun _=> ?_)
 refine wez (fun _=> ?_) (fun hab=>absurd (by decide+kernel) hab)
 refine aK (WK hT ?_)
 exact bO h
theorem Ep{R:Result->Shared->Prop}{d:Addr}{kvs:List (Ky×Value)}(hh:A.handled=none)(hd:(d==sysModules)=false)(hm:s.heap.DictOf knd d kvs)(hlen:kvs.length<=2^24)(S:Addr)(res:Value)(c₀:Nat)(hS:s.heap.get? S=some {cls:= .type "list",data:= .seq #[] c₀})(hR:∀h' tk acc' c',(∀b o,b≠S->s.heap.get? b=some o->h'.get? b=some o)->h'.get? S=some {cls:= .type "list",dict:=none,data:= .seq acc' c',slots:=#[]}->
   ItemsOf (fun i v=>∃k x,kvs[i]? =some (k,x)/\knd.is k v=true) acc' kvs.length->R (.ok (.ret res)) {s with heap:=h',toks:=tk}):
  wpAny (model prog w) A.in1 (Builtin.List.listExtendWith (.ref S) (.ref d) res)
   (fun fin s'=>match fin with | .done f=>R (.ok f) s'| .again c'=>c'.quiet=true/\codeAny (model prog w) A c' R s') (fun e s'=>R (.error e) s') s:=by
 obtain⟨od,es,ep,ho,hx,hdat,hk,hp,hn⟩:=id hm
 have hat:s.heap.DictAt knd d kvs ep:=⟨od,es,ho,hx,hdat,hk,hp,hn⟩
 have hSd:S≠d:=fun e=>by
  rw[e,ho]at hS
  cases hS
  cases hdat
 have hSlt:S<s.heap.objs.size:=dw hS
 have ael:d<s.heap.objs.size:=dw ho
 have hSI:S≠s.heap.objs.size:=fU hSlt
 have hSf:S∉[s.heap.objs.size,d]:=fun z=>by
  rcases cT.mp z with z|z
  ·exact hSI z
  ·exact hSd (jk.mp z)
 have W:=(Walks.dictKeys (prog:=prog) (w:=w) (A:=A.in1) (knd:=knd) hh s.heap.objs.size d (fU ael) kvs ep).toS
 have key:∀(h:Heap) (c₁ tk:Nat),h.IsKeyIter s.heap.objs.size d 0 kvs.length ep->h.DictAt knd d kvs ep->(∀b o,b≠S->s.heap.get? b=some o->h.get? b=some o)->
   h.get? S=some {cls:= .type "list",data:= .seq #[] c₁}->codeAny (model prog w) A (.builtin "list.extend.loop" ⟨[.ref S,.ref s.heap.objs.size,res],[]⟩) R {s with heap:=h,toks:=tk}:=by
  intro h c₁ tk hit hda hk' hS₁
  refine codeAny_extend_loopS W (by rw[eF];omega) S hSf res kvs.length 0 _ #[] c₁ rfl (jj _) ⟨hit,hda⟩ hS₁ (ItemsOf.nil _) fun s' acc' c' hmv hS' hacc=> ?_
  rw[Moved.eq_with hmv]
  refine hR s'.heap s'.toks acc' c' (fun b o hb e=>hmv.heap b o (fun hmem=> ?_) (hk' b o hb e)) hS' hacc
  rcases cT.mp hmem with e'|hmem
  ·exact hb e'
  ·exact absurd (dw e) (by rw[jk.mp hmem];exact yS _)
 unfold Builtin.List.listExtendWith
 refine aK (WK (T:="dict") hm.typeIs ?_)
 have h1:Builtin.List.listSameRef (.ref S) (.ref d)=false:=by simp[Builtin.List.listSameRef,hSd]
 have h2:(Value.type "dict"==Value.type "list")=false:=by decide
 have h3:(Value.type "dict"==Value.type "tuple")=false:=by decide
 simp only[h1,h2,h3,wfk,wcm,Vp]
 refine aK (wpAny_pyIter_dict hd hat ?_)
 have g1:=hat.push {cls:= .type "dict_keyiterator",data:= .fields #[.ref d,.int 0 0,.int kvs.length 0,.int ep 0]}
 have g2:(s.heap.push {cls:= .type "dict_keyiterator",data:= .fields #[.ref d,.int 0 0,.int kvs.length 0,.int ep 0]}).DictOf knd d kvs:=let⟨o,es,r1,r2,r3,r4⟩:=g1;⟨o,es,ep,r1,r2,r3,r4⟩
 refine aK (M9 (K6 (s:={s with heap:=_}) g2 ?_))
 have hit₁:(s.heap.push {cls:= .type "dict_keyiterator",data:= .fields #[.ref d,.int 0 0,.int kvs.length 0,.int ep 0]}).IsKeyIter s.heap.objs.size d 0 kvs.length ep:=⟨_,qp _ rfl,rfl,rfl⟩
 have hS₁:=fV {cls:= .type "dict_keyiterator",data:= .fields #[.ref d,.int 0 0,.int kvs.length 0,.int ep 0]} hS
 refine wez (fun _=> ?_) (fun _=>bO ⟨Vt F.plain_extend_loop _,key _ c₀ _ hit₁ g1 (fun b o _ e=>fV _ e) hS₁⟩)
 refine aK (Vr ?_)
 refine aK ?_
 show wpAny _ _ (updateSeq S (·.push .none)>>=fun _=>updateSeq S (·.pop)) _ _ _
 refine aK (WQ hS₁ rfl ?_)
 have hS₂:=Wy (Obj.mapSeq (·.push Value.none)) hS₁ rfl
 refine WQ (hz:=by seq_fits) hS₂ rfl ?_
 have hS₃:=Wy (Obj.mapSeq (·.pop)) hS₂ rfl
 refine bO ⟨Vt F.plain_extend_loop _,key _ _ _ (hit₁.at fun o e=> ?_) (g1.at' fun o e=> ?_) (fun b o hb e=> ?_) hS₃⟩
 ·exact(Rw _ _ hSI).trans ((Rw _ _ hSI).trans e)
 ·exact(Rw _ _ hSd).trans ((Rw _ _ hSd).trans e)
 ·exact(Rw _ _ (zF hb)).trans ((Rw _ _ (zF hb)).trans (fV _ e))
theorem yC{Q:Value->Shared->Prop}{d:Addr}{kvs:List (Ky×Value)}(hh:A.handled=none)(hd:(d==sysModules)=false)(hm:s.heap.DictOf knd d kvs)(hlen:kvs.length<=2^24)(hQ:∀h' tk acc' c',(∀b o,s.heap.get? b=some o->h'.get? b=some o)->
   h'.get? s.heap.objs.size=some {cls:= .type "list",dict:=none,data:= .seq acc' c',slots:=#[]}->ItemsOf (fun i v=>∃k x,kvs[i]? =some (k,x)/\knd.is k v=true) acc' kvs.length->Q (.ref s.heap.objs.size) {s with heap:=h',toks:=tk}):
  wpAny (model prog w) A (call (.type "list") [.ref d]) Q E s:=by
 refine callType_codes (Q₁:=fun obj s₁=>obj= .ref s.heap.objs.size/\s₁={s with heap:=s.heap.push {cls:= .type "list",data:= .seq #[]}}) F.called_list (F.typeCall_list_1 _) F.entry_list_init
  (code_list_new _ ⟨rfl,rfl⟩) fun obj s₁ h₁=> ?_
 obtain⟨rfl,rfl⟩:=h₁
 have hS:(s.heap.push {cls:= .type "list",data:= .seq #[]}).get? s.heap.objs.size=some {cls:= .type "list",data:= .seq #[]}:=qp _ rfl
 obtain⟨od,es,ep,ho,r⟩:=id hm
 have hm':(s.heap.push {cls:= .type "list",data:= .seq #[]}).DictOf knd d kvs:=⟨od,es,ep,fV _ ho,r⟩
 refine⟨⟨_,hS,rfl⟩,F.args_list_init_2 _ _,?_⟩
 show wpAny _ _ (do let old<-Builtin.List.listItems (.ref s.heap.objs.size);Builtin.List.listUpdate (.ref s.heap.objs.size) (fun _=>#[]);letGo old.toList.reverse;Builtin.List.listExtendWith (.ref s.heap.objs.size) (.ref d) .none) _ _ _
 refine aK ?_
 unfold Builtin.List.listItems
 refine aK (WM hS rfl (bO ?_))
 show wpAny _ _ (updateSeq s.heap.objs.size (fun _=>#[])>>=fun _=>letGo (#[]:Array Value).toList.reverse>>=fun _=>Builtin.List.listExtendWith (.ref s.heap.objs.size) (.ref d) .none) _ _ _
 refine aK (WQ hS rfl ?_)
 have hS₂:=Wy (Obj.mapSeq (fun _=>(#[]:Array Value))) hS rfl
 have oth:∀b o,b≠s.heap.objs.size->(s.heap.push {cls:= .type "list",data:= .seq #[]}).get? b=some o->((s.heap.push {cls:= .type "list",data:= .seq #[]}).update s.heap.objs.size (Obj.mapSeq (fun _=>(#[]:Array Value)))).get? b=some o:=
  fun b o hb e=>(Rw _ _ (zF hb)).trans e
 refine aK (XC ?_)
 have hm2:((s.heap.push {cls:= .type "list",data:= .seq #[]}).update s.heap.objs.size (Obj.mapSeq (fun _=>(#[]:Array Value)))).DictOf knd d kvs:=⟨od,es,ep,oth d _ (fU (dw ho)) (fV _ ho),r⟩
 refine Ep (A:=A.in1) (knd:=knd) hh hd hm2 hlen s.heap.objs.size .none _ hS₂ fun h' tk acc' c' hk hS' hacc=> ?_
 exact⟨rfl,hQ h' tk acc' c' (fun b o e=>hk b o (fU (dw e)) (oth b o (fU (dw e)) (fV _ e))) hS' hacc⟩
end
end PySem
namespace L2
open PySem PySem.Spec PyProof.Rows
section
variable{X:Cx}
theorem Ig(hc:X.calm=true):CallR X (.type "list") (fun xs H Q=>∃(a:Addr) (kvs:List (Key×V)) (ns:List Int),xs=[.ref a]/\H a=some (.dK kvs)/\kvs.length<=1000/\kvs.map (·.1)=ns.map Sum.inl/\∀l,H l=none->Q (.ref l) (upd H l (.lst (ns.map V.int)))):=by
 intro pins s σ H xs us Q I r h
 obtain⟨a,kvs,ns,rfl,ha,hl,hn,q⟩:=h
 obtain⟨u,rfl,rx⟩:=vals1 r
 cases rx
 obtain⟨z,hd,vs,rel,dd⟩:=dk_of I.hok ha
 have hkv:vs.map (·.1)=ns.map Sum.inl:=by rw[<-rel.keys];exact hn
 have hlen:=rel.length
 refine yC (I.ok.hd hc) hd dd (by omega) fun h' tk acc c hk hS hacc=> ?_
 have nl:ns.length=vs.length:=by
  have:=rH List.length hkv
  rw[aQ,aQ]at this
  exact this.symm
 have hv:Vals (ns.map V.int) acc.toList:=by
  have aux:∀(ms:List Int) (us:List Value),us.length=ms.length->(∀(i:Nat) (v:Value),us[i]? =some v->∃t,v= .int (ms.getD i 0) t)->Vals (ms.map V.int) us:=by
   intro ms
   induction ms with
   |nil=>intro us h1 _;rw[Xy h1];exact .nil
   |cons m ms ih=>
    intro us h1 h2
    rcases us with _|⟨v,us⟩
    ·cases h1
    ·obtain⟨t,rfl⟩:=h2 0 v rfl
     exact .cons ⟨t,rfl⟩ (ih us (Nat.succ.inj h1) fun i v hv=>h2 (i+1) v hv)
  refine aux ns acc.toList (by rw[Uy,hacc.1];omega) fun i v hv=> ?_
  obtain⟨k,x,hk1,hk2⟩:=hacc.2 i v (by simpa using hv)
  have e1:(vs.map (·.1))[i]? =some k:=by rw[gw,hk1];rfl
  rw[hkv,gw]at e1
  cases en:ns[i]? with
  |none=>rw[en]at e1;cases e1
  |some n=>
   rw[en]at e1
   injection e1 with e1
   subst e1
   have hg:ns.getD i 0=n:=by rw[zE,en];rfl
   rw[hg]
   rcases MK (show keyIs (Sum.inl n) v=true from hk2)with⟨j,t,e,rfl⟩|⟨y,t,e,rfl⟩
   ·injection e with e;subst e;exact⟨t,rfl⟩
   ·cases e
 have hz:(ns.map V.int).length<=sizeLine:=by rw[aQ,eF];omega
 exact⟨.ref _,_,I.laid (t':=tk) (o:= .lst (ns.map V.int)) hk (bx _) ⟨hz,acc.toList,c,hv,by simpa using hS⟩,rfl,q _ (I.hok.fresh (bx _))⟩
end
end L2
namespace L2
open PySem
end L2
namespace PySem
namespace F
end F
end PySem
namespace PySem
section
variable{prog:Program}{w:World}{A:Around}{E:Value->Shared->Prop}{s:Shared}
end
end PySem
namespace PySem
section
variable{prog:Program}{w:World}{A:Around}{E:Value->Shared->Prop}{s:Shared}
end
end PySem
namespace PySem
section
variable{prog:Program}{w:World}{A:Around}{E:Value->Shared->Prop}{s:Shared}
end
end PySem
namespace L2
open PySem PySem.Spec PyProof.Rows
section
variable{prog:Program}{w:World}{A:Around}{E:Value->Shared->Prop}{s:Shared}
end
section
variable{prog:Program}{w:World}{A:Around}{R:Result->Shared->Prop}{I:Addr}{fp wr:List Addr}{G:Array GenState->Array GenState->Prop}{n:Nat}{P:Nat->Value->Prop}{St:Nat->Shared->Prop}
end
section
variable{prog:Program}{w:World}{A:Around}{E:Value->Shared->Prop}{s:Shared}
end
end L2
namespace Cq
open PySem PySem.W PyProof.Rows PySem.Calls
section
variable{prog:Program}{w:World}{A:Around}{E:Value->Shared->Prop}{s:Shared}
end
end Cq
namespace L2
open PySem PySem.Spec PyProof.Rows
section
variable{prog:Program}{w:World}{A:Around}{E:Value->Shared->Prop}{s:Shared}
end
end L2
namespace Cq
open PySem PySem.W PyProof.Rows PySem.Calls
section
variable{prog:Program}{w:World}{A:Around}{E:Value->Shared->Prop}{s:Shared}
end
end Cq
namespace L2
open PySem PySem.Spec PyProof.Rows
section
variable{X:Cx}{a:Expr}{ta:TA}{p p' pos pos':Pos}
end
section
variable{prog:Program}{w:World}{A:Around}{E:Value->Shared->Prop}{s:Shared}
end
section
variable{X:Cx}{o e:Expr}{to:TE}{t:TA}{apos cpos:Pos}
end
def aad(C:Addr)(t:TA):TE:=fun σ H Q=>t σ H fun vs H1=>vs.length<=16/\∀e,H1 e=none->Q (.ref e) (upd H1 e (bY e C))
theorem Inv.laidN{X:Cx}{pins:List (Addr×Obj)}{σ:St}{H:Hp}{s:Shared}{h':Heap}{a:Addr}{o:HO}{t':Nat}(I:Inv X pins σ H s)(k:∀b u,s.heap.get? b=some u->h'.get? b=some u)(hp:s.heap.get? a=none)(new:ObjOk X.prog X.w (upd H a o) h' a o):
  Inv X pins σ (upd H a o) {s with heap:=h',toks:=t'}:=by
 have hn:=I.hok.none hp
 refine I.un ⟨fun b u q _ _ _=>k b u q,fun b u q _ _ _=>⟨u.slots,k b u q⟩,fun b u q n _=> ?_,fun b u q _=>⟨u,k b u q⟩,fun b xs q=> ?_,fun b u xs q=> ?_,fun b ps q=>⟨#[],?_⟩⟩ fun b u e=> ?_
 ·rw[dX (fun z=>by rw[z,hp]at q;cases q)];exact n
 ·rw[dX (Cz q hn)];exact q
 ·rw[dX (Cz q hn)];exact q
 ·rw[dX (Cz q hn),q];simp
 ·by_cases hb:b=a
  ·subst hb;rw[aM]at e;cases e;exact new
  ·rw[dX hb]at e
   exact(I.hok b u e).stay (fun c v _ q=>k c v q) (fun c q=>by rw[dX (Cz q hn)];exact q) fun c xs q=>by rw[dX (Cz q hn)];exact q
section
variable{X:Cx}
theorem gD{x:Str}{C:Addr}{B newId initId:String}{bmB:List Value}{e:Expr}{es:List Expr}{t:TA}{np cpos:Pos}(FB:ExcBaseFacts B newId initId bmB)(hg:Gl X x)(hm:X.mg x=some (.ref C))(q:PySem.W.excIn X.K C bmB newId=true)(hk:PySem.W.keepIn X.K (.ref C)=true)(ha:PA X (e::es) t)(hdb:(x==("__debug__":Str))=false:=by decide)(he:starEach (e::es) X.env=(false,eval e X.env)::starEach es X.env:=by rfl)(hpl:(backTo cpos (starEach es X.env)).any (·.1)=false:=by rfl):
  PE X (.Call (.Name x np) (e::es) [] cpos) (aad C t):=by
 intro pins s σ H Q I h
 obtain⟨bm,Na,nm,qn,bs,hd,sn,sub,ab,col,dd,k0,k1,k2,k3,k5,mN,hC,hN,hni,T⟩:=Wc I.ok.mod.kin q
 refine Ng (ld_glob I hg hm ?_ hdb)
 refine PySem.W.callWith_K (h₀:=X.base) I.ok.mod.kin hk (thn (ha cpos pins s σ H _ I h) fun us s1 ⟨vs,H1,I1,r,hl,hq⟩=>⟨I1.kIn,?_⟩) he hpl
 have sz:us.length<=sizeLine:=by rw[<-r.length];exact gJ hl (by decide)
 obtain⟨hp,g,d,tk,os⟩:=s1
 refine wpAny_call_exc_subT (hrest:=sz) FB (T.keeps I1.bk) (I1.bk _ _ hC) (hN.keeps I1.bk) hni fun h' e' hx=> ?_
 obtain⟨t',z,_,_⟩:=hx.there
 refine⟨.ref e',upd H1 e' (bY e' C),I1.laidN (t':=tk) hx.keeps hx.new ?_,rfl,hq e' (I1.hok.none hx.new)⟩
 refine⟨⟨_,_,z,rfl,rfl⟩,⟨_,z⟩,fun h1 h2 p k=> ?_⟩
 obtain⟨o,ws,p1,p2,p3⟩:=p
 exact⟨o,ws,k o p1,p2,p3⟩
def Vw(sp:Sp)(E:XK)(tk:TA):TE:=fun σ H Q=>tk σ H fun zs H1=>sp zs.reverse H1 Q E
theorem yQ{CX:CXT}{k:Nat}{f:Addr}{fd:FuncData}{ps:List Str}{sp:Sp}{E:XK}{x:Str}{p pos:Pos}{kws:List Keyword}{tk:TA}(F:FnOk X.prog X.w X.K X.mg X.base CX k f fd ps sp)(hr:Room k X.A)(hg:Gl X x)(hm:X.mg x=some (.ref f))(hk:PySem.W.keepIn X.K (.ref f)=true)(hb:∀ws:List Value,ws.length=ps.length->bindArgs fd ⟨[],ps.reverse.zip ws⟩=pure (ps.zip ws.reverse))(hx:Passes CX X E)(hkw:PK X kws tk)(hall:(backToKw pos (keywordEach kws X.env)).all (·.1.isSome)=true:=by rfl)(hks:(backToKw pos (keywordEach kws X.env)).filterMap (·.1)=ps.reverse:=by rfl)(hdb:(x==("__debug__":Str))=false:=by decide)(hpl:((backTo pos (starEach [] X.env)).any (·.1)||(backToKw pos (keywordEach kws X.env)).any (·.1.isNone))=false:=by rfl):
  PE X (.Call (.Name x p) [] kws pos) (Vw sp E tk):=by
 intro pins s σ H Q I h
 refine Ng (ld_glob I hg hm ?_ hdb)
 refine PySem.W.callWith_KW0 (h₀:=X.base) I.ok.mod.kin hk hall (thn (hkw pos pins s σ H _ I h) fun ws s2 ⟨zs,H2,I2,rz,q2⟩=>⟨I2.kIn,?_⟩) hpl
 rw[hks]
 have r2:=rz.reverse
 have hl:ws.length=ps.length:=by rw[<-wdm (as:=ws),<-r2.length];exact F.len _ _ _ _ q2
 refine Xz (Vs (F.run X.A X.stack s2 H2 ⟨[],ps.reverse.zip ws⟩ ws.reverse zs.reverse Q E hr I2.env0 (.of_eq (hb ws hl)) r2 q2) fun r s' hq=> ?_)
 cases r with
 |error e=>exact hx pins σ H2 s2 e s' I2 hq
 |ok fl=>
  cases fl with
  |ret u=>exact I2.after hq
  |next=>exact False.elim hq
  |brk=>exact False.elim hq
  |cont=>exact False.elim hq
end
section
variable{K:W.Frag}{mg:Str->Option Value}{x:Str}{st:Stmt}{ps:List Str}{f:Addr}{fd:FuncData}
theorem aL.kb(D:aL K mg x st ps f fd)(h:∀(kV doc pm:Value) (an:Option Addr) (cdv ct:Value) (ws:List Value),ws.length=ps.length->bindArgs (PySem.W.fnOf x x (defArgs st) (defBody st) (defScope st) .none kV doc pm an cdv ct) ⟨[],ps.reverse.zip ws⟩=pure (ps.zip ws.reverse)):
  ∀ws:List Value,ws.length=ps.length->bindArgs fd ⟨[],ps.reverse.zip ws⟩=pure (ps.zip ws.reverse):=by
 obtain⟨oc,od,kV,doc,pm,an,cdv,ct,osl,rfl,lk,hcd⟩:=D.F.ex
 exact h kV doc pm an cdv ct
theorem Rb{p1:Str}{P:List Value->Prop}(h:∀a,P [a])(us:List Value)(hl:us.length=[p1].length):P us:=by
 match us,hl with
 |[a],_=>exact h a
theorem Ra{p1 p2:Str}{P:List Value->Prop}(h:∀a b,P [a,b])(us:List Value)(hl:us.length=[p1,p2].length):P us:=by
 match us,hl with
 |[a,b],_=>exact h a b
theorem rn3{p1 p2 p3:Str}{P:List Value->Prop}(h:∀a b c,P [a,b,c])(us:List Value)(hl:us.length=[p1,p2,p3].length):P us:=by
 match us,hl with
 |[a,b,c],_=>exact h a b c
end
end L2
namespace L2
open PySem PySem.AutoSeq1
theorem Wj(l:Addr)(items:Array Value)(b:Addr)(its2:Array Value)(n2:Nat)(hc:items.size+its2.size<=sizeLine):
  Meets (Builtin.«list.__add__» ⟨[.ref l,.ref b],[]⟩) (fun _ R s=>PlainL s.heap l items/\s.heap.get? b=some {cls:= .type "list",dict:=none,data:= .seq its2 n2,slots:=#[]}/\R (.ok (.ret (.ref s.heap.objs.size))) {s with heap:=s.heap.push {cls:= .type "list",data:= .seq (items++its2)}}):=
 .of_wp fun prog w A R s h=>by
  obtain⟨hp,g,d,tk,os⟩:=s
  obtain⟨⟨⟨c,dc,dt,sl⟩,n,hl,h1,h2,h3⟩,hb,h⟩:=h
  cases h1;cases h2;cases h3
  have f2:=sub_tuple_tuple;have f3:=sub_list_list;have f4:=sub_tuple_list;have f5:=sub_list_tuple
  have hz:(items++its2).size<=sizeLine:=by rw[Array.size_append];exact hc
  wp_walk using wpAny_loadPart' hl,wpAny_loadPart' hb
  all_goals first |exact⟨_,rfl,h⟩|exact h|assumption
variable{X:Cx}
def Yi(K:W.Frag):R2:=fun x y H Q=>∃l b xs zs,x= .ref l/\y= .ref b/\SqL K H l xs/\H b=some (.lst zs)/\xs.length+zs.length<=sizeLine/\∀p,H p=none->Q (.ref p) (upd H p (.lst (xs++zs)))
theorem RX:OpR X (binaryOp .Add) (Yi X.K):=by
 intro pins s σ H x y v u Q I rx ry h
 obtain⟨l,b,xs,zs,rfl,rfl,hH,hB,hz,q⟩:=h
 cases rx
 cases ry
 obtain⟨its,r,pl,_⟩:=I.list hH
 have hl:=r.length
 obtain⟨z2,its2,n2,r2,hl2,e2⟩:=I.lstM hB
 have ea:its.toArray++its2.toArray=(its++its2).toArray:=by simp
 obtain⟨o,n,h0,h1,h2,h3⟩:=id pl
 refine wex ⟨o,h0,h1⟩ ⟨_,e2,rfl⟩ noFill_list_add seq_list_add F.slot_list_add F.entry_list_add (F.args_list_add_2 _ _) (Wj l its.toArray b its2.toArray n2 (by rw[dW,dW];omega)) ⟨pl,e2,?_⟩
 rw[ea]
 exact⟨.ref _,_,I.lnew (t':=s.toks) (r.append r2) (by rw[iz];omega),rfl,q _ I.fresh⟩
end L2
namespace Hs
open PySem L2 yL
def top(i:Nat):Stmt:=PySem.Challenge.pw_hueshare_k19_handed_by_names.main.body.getD i (.Pass ⟨0,0,0,0⟩)
abbrev Q5:Stmt:=top 13
abbrev Q0:Stmt:=top 14
abbrev Mg:Stmt:=top 15
abbrev Rg:Stmt:=top 16
abbrev cV:Stmt:=top 17
abbrev T7:Stmt:=top 18
abbrev cU:Stmt:=top 19
abbrev yR:Stmt:=top 20
abbrev Rj:Stmt:=top 21
abbrev Q6:Stmt:=top 22
abbrev Rn:Stmt:=top 23
abbrev MJ:Stmt:=top 24
abbrev cL:Stmt:=top 25
abbrev T5:Stmt:=top 26
abbrev cN:Stmt:=top 27
abbrev Fw:Stmt:=top 28
abbrev T6:Stmt:=top 29
abbrev Rk:Stmt:=top 30
abbrev Ri:Stmt:=top 32
abbrev Uh:Stmt:=top 33
abbrev cW:Stmt:=top 34
abbrev dO:Stmt:=top 35
abbrev Uj:Stmt:=top 36
abbrev dN:Stmt:=top 37
abbrev Ub:Stmt:=top 38
abbrev T8:Stmt:=top 39
abbrev Ro:Stmt:=top 41
abbrev Q7:Stmt:=top 42
abbrev T9:Stmt:=top 43
abbrev Ua:Stmt:=top 44
abbrev Rp:Stmt:=top 45
abbrev QX:Stmt:=top 46
abbrev Rf:Stmt:=top 47
abbrev Rh:Stmt:=top 48
abbrev Rm:Stmt:=top 49
abbrev Rq:Stmt:=top 50
abbrev Ul:Stmt:=top 51
abbrev Rr:Stmt:=top 52
abbrev MP:Stmt:=top 55
abbrev MN:Stmt:=top 56
abbrev Ud:Stmt:=top 57
abbrev Uc:Stmt:=top 58
abbrev Uk:Stmt:=top 59
abbrev iG:Stmt:=top 60
abbrev cO:Stmt:=top 61
abbrev Ug:Stmt:=top 62
abbrev Ui:Stmt:=top 63
abbrev cP:Stmt:=top 64
abbrev jo:Stmt:=top 67
abbrev fZ:Stmt:=top 68
abbrev gj:Stmt:=top 69
abbrev Ue:Stmt:=top 71
abbrev Ur:Stmt:=top 72
abbrev Uo:Stmt:=top 73
abbrev Um:Stmt:=top 74
abbrev Uq:Stmt:=top 75
abbrev qJ:Stmt:=top 76
section
variable{P:Program}{w:World}{K:W.Frag}{mg:Str->Option Value}{base:Heap}
def uW(K:W.Frag):Sp:=fun vs H Q _=>∃x d,vs=[x]/\DX K H x d/\Q (.bl (vp d)) H
theorem N8:FnScope ["thing"] ["thing"] (defScope Q5):=fsc
theorem Oz{f:Addr}{fd:FuncData}(F:Fun K "is_whole" "is_whole" Q5 f fd)(mi:mg "isinstance"=none)(mI:mg "int"=none)(mB:mg "bool"=none):FnOk P w K mg base CX0 1 f fd ["thing"] (uW K):=by
 refine F.ok N8 (fun vs H Q E h=> ?_) (fun cdv A outer s H vs Q E hr h=> ?_)
 ·obtain⟨x,d,rfl,_⟩:=h
  rfl
 obtain⟨x,d,rfl,hx,q⟩:=h
 refine⟨_,bB (bV (pe_and (dF fM rfl mi (by decide+kernel) (aj (pv 0) (aj (pe_bltn rfl mI (v:= .ty "int") (by decide+kernel) rfl) ak)))
  (pe_one (pe_not (dF fM rfl mi (by decide+kernel) (aj (pv 0) (aj (pe_bltn rfl mB (v:= .ty "bool") (by decide+kernel) rfl) ak))))))),?_⟩
 refine⟨_,rfl,x,_,_,rfl,hx.kind,.inl rfl,_,rfl,?_⟩
 refine ite2 (fun c=> ?_) (fun c=> ?_)
 ·refine⟨_,rfl,x,_,_,rfl,hx.kind,.inr (.inl rfl),_,rfl,?_⟩
  cases d<;>first |exact q|(simp[Hy,Eb]at c;done)
 ·cases d<;>first |exact q|(exfalso;exact c rfl)
def uX(K:W.Frag):Sp:=fun vs H Q _=>∃(n:Int) (x:V) (d:PyData),vs=[.int n,x]/\DX K H x d/\Q (.bl (bw n d)) H
theorem Oc:FnScope ["n","thing"] ["n","thing"] (defScope Q0):=fsc
theorem O2{f g:Addr}{fd gd:FuncData}(F:Fun K "is_place" "is_place" Q0 f fd)(D:aL K mg "is_whole" Q5 ["thing"] g gd)(G:FnOk P w K mg base CX0 1 g gd ["thing"] (uW K)):FnOk P w K mg base CX0 2 f fd ["n","thing"] (uX K):=by
 refine F.ok Oc (fun vs H Q E h=> ?_) (fun cdv A outer s H vs Q E hr h=> ?_)
 ·obtain⟨n,x,d,rfl,_⟩:=h
  rfl
 obtain⟨n,x,d,rfl,hx,q⟩:=h
 refine⟨_,bB (bV (pe_and (pe_call G hr rfl D.m D.F.kp D.b .nil pass0 (aj (pv 1) ak)) (pe_one (pe_chain op_le op_lt aY (pv 1) (pv 0))))),?_⟩
 refine⟨_,rfl,x,d,rfl,hx,_,rfl,?_⟩
 refine ite2 (fun c=> ?_) (fun c=> ?_)
 ·cases hx with
  |int i=>
   refine⟨_,rfl,_,_,rfl,rfl,_,rfl,?_⟩
   refine ite2 (fun c2=> ?_) (fun c2=> ?_)
   ·refine⟨_,rfl,_,_,rfl,rfl,?_⟩
    have e:bw n (.int i)=decide (i<n):=by show(decide (0<=i)&&decide (i<n))=_;rw[c2];rfl
    rw[e]at q;exact q
   ·have e:bw n (.int i)=false:=by show(decide (0<=i)&&decide (i<n))=_;rw[Bool.eq_false_iff.mpr c2];rfl
    rw[e]at q;exact q
  |_=>simp[vp]at c
 ·have e:bw n d=false:=by
   cases d<;>first |rfl|(exfalso;exact c rfl)
  rw[e]at q;exact q
def CV(K:W.Frag):Sp:=fun vs H Q _=>∃(n:Int) (a:Addr) (xs:List V) (ds:List PyData),vs=[.int n,.ref a]/\SqT K H a xs/\uM K H xs ds/\∀H',Same H H'->Q (.bl (ds.all (bw n))) H'
theorem J0:FnScope ["n","things"] ["n","things"] (defScope Mg):=fsc
theorem iu{α:Type}(ds:List α)(p:α->Bool):(ds.map p).all id=ds.all p:=by rw[XD];rfl
theorem Kw{f g:Addr}{fd gd:FuncData}(F:Fun K "are_places" "are_places" Mg f fd)(D:aL K mg "is_place" Q0 ["n","thing"] g gd)(G:FnOk P w K mg base CX0 2 g gd ["n","thing"] (uX K))(mA:mg "all"=none):FnOk P w K mg base CX0 3 f fd ["n","things"] (CV K):=by
 refine F.ok J0 (fun vs H Q E h=> ?_) (fun cdv A outer s H vs Q E hr h=> ?_)
 ·obtain⟨n,a,xs,ds,rfl,_⟩:=h
  rfl
 obtain⟨n,a,xs,ds,rfl,hS,hd,q⟩:=h
 refine⟨_,bB (bV (dF (ig rfl) rfl mA (by decide+kernel) (aj (lX (own:=["thing"]) (caps:=["n"]) (ix:=[0]) rfl (dI (pv 1)) rfl rfl (.cons rfl rfl .nil) (fun _ _ _ _ _=>dD (i:=0) (show(["thing","n"]:List Str).Nodup from by decide+kernel) rfl (Or.inl rfl)) (fun _ _ _ _ _=>zy) (fun _ _ _ _ _=>pe_call G hr rfl D.m D.F.kp D.b .nil pass0 (aj (pv 1) (aj (pv 0) ak)))) ak))),?_⟩
 refine⟨_,rfl,a,xs,rfl,hS,fun hz=> ?_⟩
 have hl:=hd.len
 refine cZ (xs:=xs) (fun i acc σ H'=>acc=((ds.take i).map (bw n)).map V.bl/\Same H H'/\∃o,σ=[o,some (.int n)]) ⟨rfl,Same.refl _,_,rfl⟩ (fun i acc σ H' _ p=>p.2.1.tup hS) (fun i acc σ H' hi p=> ?_) hz (fun i x acc σ H' hx p=> ?_) (fun acc σ H' p=> ?_)
 ·rw[p.1];simp;omega
 ·obtain⟨rfl,sm,o,rfl⟩:=p
  obtain⟨d,e1,e2⟩:=hd.get hx
  refine⟨_,rfl,_,rfl,n,x,d,rfl,DX.same sm e2,?_,sm,_,rfl⟩
  rw[Ao,e1]
  simp
 ·intro p1 hp1
  obtain⟨rfl,sm,_⟩:=p
  refine⟨p1,(ds.map (bw n)),rfl,SqL.of (by rw[aM,hl,ux]),?_⟩
  rw[iu]
  exact q _ (sm.trans (aR hp1 _))
def Wm(K:W.Frag)(H:Hp)(x y:V)(b:Bool):Prop:=(∃i j,x= .int i/\y= .int j/\b=decide (i<j))\/(∃p q ns ms,x= .ref p/\y= .ref q/\SqT K H p (ns.map V.int)/\SqT K H q (ms.map V.int)/\b=HT.lexLt ns ms)
def vK(K:W.Frag):Sp:=fun vs H Q _=>∃(a:Addr) (xs:List V) (bs:Nat->Bool),vs=[.ref a]/\SqT K H a xs/\(∀k,k+1<xs.length->∃x y,xs[k]? =some x/\xs[k+1]? =some y/\Wm K H x y (bs k))/\
 ∀H',Same H H'->Q (.bl ((List.range (xs.length-1)).all bs)) H'
theorem JZ:FnScope ["things"] ["things"] (defScope Rg):=fsc
theorem Kv{f:Addr}{fd:FuncData}(F:Fun K "is_rising" "is_rising" Rg f fd)(mA:mg "all"=none)(mR:mg "range"=none)(mL:mg "len"=none):FnOk P w K mg base CX0 1 f fd ["things"] (vK K):=by
 refine F.ok JZ (fun vs H Q E h=> ?_) (fun cdv A outer s H vs Q E hr h=> ?_)
 ·obtain⟨a,xs,bs,rfl,_⟩:=h
  rfl
 obtain⟨a,xs,bs,rfl,hS,hb,q⟩:=h
 refine⟨_,bB (bV (dF (ig rfl) rfl mA (by decide+kernel) (aj (lX (own:=["k"]) (caps:=["things"]) (ix:=[0]) rfl
  (pi_range2 rfl mR (aj aY (aj (dF zB rfl mL uV (aj (pv 0) ak)) ak))) rfl rfl (.cons rfl rfl .nil) (fun _ _ _ _ _=>dD (i:=0) (show(["k","things"]:List Str).Nodup from by decide+kernel) rfl (Or.inl rfl)) (fun _ _ _ _ _=>zy) (fun _ _ _ _ _=>Fo (op_lt.or (RW K hr.units0)) (cR (iQ K) (pv 1) (fQ op_sub (pv 0) aY) (fun _ _=>rfl)) (cR (iQ K) (pv 1) (pv 0) (fun _ _=>rfl)) (nomark _))) ak))),?_⟩
 refine⟨_,rfl,a,xs,rfl,.inr hS,fun hz=>⟨1,_,rfl,⟨by omega,by omega,by omega,by omega⟩,?_⟩⟩
 have en:((xs.length:Int)-1).toNat=xs.length-1:=by omega
 rw[en]
 refine JM (fun i acc σ H'=>acc=((List.range i).map bs).map V.bl/\Same H H'/\∃o,σ=[o,some (.ref a)]) ⟨rfl,Same.refl _,_,rfl⟩ (fun i acc σ H' hi p=>by rw[p.1];simp) (by rw[eF];omega) (fun i acc σ H' hi p=> ?_) (fun acc σ H' p=> ?_)
 ·obtain⟨rfl,sm,o,rfl⟩:=p
  obtain⟨x,y,hx,hy,hxy⟩:=hb i (by omega)
  have e1:(1+(i:Int))-1=((i:Nat):Int):=by omega
  have e2:(1+(i:Int))=((i+1:Nat):Int):=by omega
  have a1:atI xs (1+(i:Int)-1)=some x:=by rw[e1];exact atI_nat hx
  have a2:atI xs (1+(i:Int))=some y:=by rw[e2];exact atI_nat hy
  refine⟨_,rfl,_,rfl,_,_,rfl,rfl,a,xs,_,x,rfl,rfl,sm.tup hS,a1,_,rfl,_,rfl,a,xs,_,y,rfl,rfl,sm.tup hS,a2,?_⟩
  have ea:((List.range i).map bs).map V.bl++[V.bl (bs i)]=((List.range (i+1)).map bs).map V.bl:=by rw[Ml];simp
  rcases hxy with⟨u,v,rfl,rfl,e⟩|⟨p,p',ns,ms,rfl,rfl,h1,h2,e⟩
  ·refine .inl ⟨u,v,rfl,rfl,?_,sm,_,rfl⟩
   show _++[V.bl (decide (u<v))]=_
   rw[<-e];exact ea
  ·refine .inr ⟨p,p',ns,ms,rfl,rfl,sm.tup h1,sm.tup h2,?_,sm,_,rfl⟩
   show _++[V.bl (HT.lexLt ns ms)]=_
   rw[<-e];exact ea
 ·intro p1 hp1
  obtain⟨rfl,sm,_⟩:=p
  refine⟨p1,(List.range (xs.length-1)).map bs,rfl,SqL.of aM,?_⟩
  rw[iu]
  exact q _ (sm.trans (aR hp1 _))
theorem ints_of{H:Hp}{n:Int}{xs:List V}{ds:List PyData}(h:uM K H xs ds)(hp:ds.all (bw n)=true):xs=(ds.map intD).map V.int:=by
 induction ds generalizing xs with
 |nil=>cases h;rfl
 |cons d ds ih=>
  rw[List.all_cons,qt]at hp
  cases h with
  |cons h t=>
   obtain⟨i,rfl,_⟩:=Gu hp.1
   cases h
   rw[Fy,Fy,<-ih t hp.2]
   rfl
theorem J8{H:Hp}(ns:List Int):∀k,k+1<(ns.map V.int).length->∃x y,(ns.map V.int)[k]? =some x/\(ns.map V.int)[k+1]? =some y/\Wm K H x y (decide (ns.getD k 0<ns.getD (k+1) 0)):=fun k hk=>by
 rw[aQ]at hk
 have h1:k<ns.length:=by omega
 refine⟨.int (ns.getD k 0),.int (ns.getD (k+1) 0),by simp[h1],by simp[hk],.inl ⟨_,_,rfl,rfl,rfl⟩⟩
def Nz(K:W.Frag):Sp:=fun vs H Q _=>∃(n:Int) (x:V) (d:PyData),vs=[.int n,x]/\DX K H x d/\∀H',Same H H'->Q (.bl (mD n d)) H'
theorem Vx:FnScope ["n","thing"] ["n","thing"] (defScope cV):=fsc
theorem VL{f f1 f2:Addr}{fd d1 d2:FuncData}(F:Fun K "is_set" "is_set" cV f fd)(D1:aL K mg "are_places" Mg ["n","things"] f1 d1)(G1:FnOk P w K mg base CX0 3 f1 d1 ["n","things"] (CV K))(D2:aL K mg "is_rising" Rg ["things"] f2 d2)(G2:FnOk P w K mg base CX0 1 f2 d2 ["things"] (vK K))(mi:mg "isinstance"=none)(mT:mg "tuple"=none):FnOk P w K mg base CX0 4 f fd ["n","thing"] (Nz K):=by
 refine F.ok Vx (fun vs H Q E h=> ?_) (fun cdv A outer s H vs Q E hr h=> ?_)
 ·obtain⟨n,x,d,rfl,_⟩:=h
  rfl
 obtain⟨n,x,d,rfl,hx,q⟩:=h
 refine⟨_,bB (bV (pe_and (dF fM rfl mi (by decide+kernel) (aj (pv 1) (aj (pe_bltn rfl mT (v:= .ty "tuple") (by decide+kernel) rfl) ak)))
  (pe_and (pc G1 hr D1 (aj (pv 0) (aj (pv 1) ak))) (pe_one (pc G2 hr D2 (aj (pv 1) ak)))))),?_⟩
 refine⟨_,rfl,x,_,_,rfl,hx.kind,.inr (.inr (.inl rfl)),_,rfl,?_⟩
 refine ite2 (fun c=> ?_) (fun c=> ?_)
 ·cases hx with
  | @tup a xs ds h t=>
   refine⟨_,rfl,_,rfl,n,a,xs,ds,rfl,h,t,fun H1 sm=>⟨_,rfl,?_⟩⟩
   refine ite2 (fun c2=> ?_) (fun c2=> ?_)
   ·have ex:=ints_of t c2
    refine⟨_,rfl,a,xs,fun k=>decide ((ds.map intD).getD k 0<(ds.map intD).getD (k+1) 0),rfl,sm.tup h,?_,fun H2 sm2=> ?_⟩
    ·rw[ex];exact J8 _
    ·have e:mD n (.tuple ds)=(List.range (xs.length-1)).all fun k=>decide ((ds.map intD).getD k 0<(ds.map intD).getD (k+1) 0):=by
      show(ds.all (bw n)&&iI (ds.map intD))=_
      rw[c2,t.len]
      show iI (ds.map intD)=_
      unfold iI
      rw[aQ]
     have:=q H2 (sm.trans sm2)
     rw[e]at this;exact this
   ·have e:mD n (.tuple ds)=false:=by
     show(ds.all (bw n)&&iI (ds.map intD))=_
     rw[Bool.eq_false_iff.mpr c2];rfl
    have:=q H1 sm
    rw[e]at this;exact this
  |_=>simp[Hy,Eb]at c
 ·have e:mD n d=false:=by
   cases d<;>first |rfl|(exfalso;exact c rfl)
  have:=q H (Same.refl _)
  rw[e]at this;exact this
def Ny(K:W.Frag):Sp:=fun vs H Q _=>∃(n:Int) (x:V) (d:PyData),vs=[.int n,x]/\DX K H x d/\∀H',Same H H'->Q (.bl (qw n d)) H'
theorem RM:FnScope ["n","thing"] ["n","thing"] (defScope T7):=fsc
theorem IV{H:Hp}{n:Int}{x:V}{d:PyData}(h:DX K H x d)(ht:nA n d=true):∃p,x= .ref p/\SqT K H p (((kids d).map intD).map V.int):=by
 cases h with
 | @tup a xs ds h t=>
  have q:(ds.all (bw n)&&iI (ds.map intD)&&decide (ds.length=2))=true:=ht
  rw[qt,qt]at q
  exact⟨a,rfl,by rw[ints_of t q.1.1]at h;exact h⟩
 |_=>simp[nA,mD]at ht
theorem J7{H:Hp}{n:Int}{xs:List V}{ds:List PyData}(t:uM K H xs ds)(ha:ds.all (nA n)=true):∀k,k+1<xs.length->∃x y,xs[k]? =some x/\xs[k+1]? =some y/\
  Wm K H x y (HT.lexLt ((ds.map fun t=>(kids t).map intD).getD k []) ((ds.map fun t=>(kids t).map intD).getD (k+1) [])):=fun k hk=>by
 have hl:=t.len
 have h1:k<xs.length:=by omega
 obtain⟨d1,e1,x1⟩:=t.get (i:=k) (x:=xs[k]) (by simp[h1])
 obtain⟨d2,e2,x2⟩:=t.get (i:=k+1) (x:=xs[k+1]) (by simp[hk])
 have m1:=mO.mp ha d1 (Fz e1)
 have m2:=mO.mp ha d2 (Fz e2)
 obtain⟨p1,q1,s1⟩:=IV x1 m1
 obtain⟨p2,q2,s2⟩:=IV x2 m2
 refine⟨xs[k],xs[k+1],by simp[h1],by simp[hk],.inr ⟨p1,p2,_,_,q1,q2,s1,s2,?_⟩⟩
 have g1:(ds.map fun t=>(kids t).map intD).getD k []=(kids d1).map intD:=by rw[zE,gw,e1];rfl
 have g2:(ds.map fun t=>(kids t).map intD).getD (k+1) []=(kids d2).map intD:=by rw[zE,gw,e2];rfl
 rw[g1,g2]
theorem R0{f f1 f2:Addr}{fd d1 d2:FuncData}(F:Fun K "are_ties" "are_ties" T7 f fd)(D1:aL K mg "is_set" cV ["n","thing"] f1 d1)(G1:FnOk P w K mg base CX0 4 f1 d1 ["n","thing"] (Nz K))(D2:aL K mg "is_rising" Rg ["things"] f2 d2)(G2:FnOk P w K mg base CX0 1 f2 d2 ["things"] (vK K))(mi:mg "isinstance"=none)(mT:mg "tuple"=none)(mA:mg "all"=none)(mL:mg "len"=none):FnOk P w K mg base CX0 5 f fd ["n","thing"] (Ny K):=by
 refine F.ok RM (fun vs H Q E h=> ?_) (fun cdv A outer s H vs Q E hr h=> ?_)
 ·obtain⟨n,x,d,rfl,_⟩:=h
  rfl
 obtain⟨n,x,d,rfl,hx,q⟩:=h
 refine⟨_,bh (ps_if (pt_not (pt_val (dF fM rfl mi (by decide+kernel) (aj (pv 1) (aj (pe_bltn rfl mT (v:= .ty "tuple") (by decide+kernel) rfl) ak))))) (bB (bV pe_bl)) ur) (bB (bV (pe_and (dF (ig rfl) rfl mA (by decide+kernel) (aj (lX (own:=["tie"]) (caps:=["n"]) (ix:=[0]) rfl (dI (pv 1)) rfl rfl (.cons rfl rfl .nil) (fun _ _ _ _ _=>dD (i:=0) (show(["tie","n"]:List Str).Nodup from by decide+kernel) rfl (Or.inl rfl)) (fun _ _ _ _ _=>zy) (fun _ _ _ _ _=>pe_and (pc G1 hr D1 (aj (pv 1) (aj (pv 0) ak))) (pe_one (Fo op_eq (dF (Aj K) rfl mL uV (aj (pv 0) ak)) aY (nomark _))))) ak))
  (pe_one (pc G2 hr D2 (aj (pv 1) ak)))))),?_⟩
 refine⟨_,rfl,x,_,_,rfl,hx.kind,.inr (.inr (.inl rfl)),_,rfl,?_⟩
 refine ite2 (fun c=> ?_) (fun c=> ?_)
 ·have e:qw n d=false:=by
   cases d<;>first |rfl|(exfalso;simp[Hy,Eb]at c;done)
  have:=q H (Same.refl _)
  rw[e]at this;exact this
 ·cases hx with
  | @tup a xs ds h t=>
   refine⟨_,rfl,a,xs,rfl,h,fun hz=> ?_⟩
   have hl:=t.len
   refine cZ (xs:=xs) (fun i acc σ H'=>acc=((ds.take i).map (nA n)).map V.bl/\Same H H'/\∃o,σ=[o,some (.int n)]) ⟨rfl,Same.refl _,_,rfl⟩ (fun i acc σ H' _ p=>p.2.1.tup h) (fun i acc σ H' hi p=> ?_) hz (fun i x acc σ H' hx p=> ?_) (fun acc σ H' p=> ?_)
   ·rw[p.1];simp;omega
   ·obtain⟨rfl,sm,o,rfl⟩:=p
    obtain⟨d,e1,e2⟩:=t.get hx
    refine⟨_,rfl,_,rfl,n,x,d,rfl,DX.same sm e2,fun H1 sm1=>⟨_,rfl,?_⟩⟩
    have ea:∀b,b=nA n d->((ds.take i).map (nA n)).map V.bl++[V.bl b]=((ds.take (i+1)).map (nA n)).map V.bl:=fun b hb=>by
     rw[Ao,e1,hb];simp
    refine ite2 (fun c2=> ?_) (fun c2=> ?_)
    ·cases e2 with
     | @tup a2 xs2 ds2 h2 t2=>
      refine⟨_,rfl,a2,xs2,rfl,.inr (sm1.tup (sm.tup h2)),fun hz2=>⟨rfl,ea _ ?_,sm.trans sm1,_,rfl⟩⟩
      show decide (V.int (xs2.length:Int)=V.int 2)=(mD n (.tuple ds2)&&decide (ds2.length=2))
      rw[c2,t2.len]
      by_cases e3:ds2.length=2
      ·rw[e3];rfl
      ·rw[gB e3,gB (by intro z;injection z with z;exact e3 (by omega))];rfl
     |_=>simp[mD]at c2
    ·refine⟨ea _ ?_,sm.trans sm1,_,rfl⟩
     show false=(mD n d&&decide ((kids d).length=2))
     rw[Bool.eq_false_iff.mpr c2];rfl
   ·intro p1 hp1
    obtain⟨rfl,sm,_⟩:=p
    have sm':Same H (upd H' p1 (.lst (((ds.take xs.length).map (nA n)).map V.bl))):=sm.trans (aR hp1 _)
    refine⟨p1,(ds.map (nA n)),rfl,SqL.of (by rw[aM,hl,ux]),_,rfl,?_⟩
    rw[iu]
    refine ite2 (fun c2=> ?_) (fun c2=> ?_)
    ·refine⟨_,rfl,a,xs,fun k=>HT.lexLt ((ds.map fun t=>(kids t).map intD).getD k []) ((ds.map fun t=>(kids t).map intD).getD (k+1) []),rfl,sm'.tup h,?_,fun H2 sm2=> ?_⟩
     ·exact J7 (uM.same sm' t) c2
     ·have e:qw n (.tuple ds)=(List.range (xs.length-1)).all fun k=>HT.lexLt ((ds.map fun t=>(kids t).map intD).getD k []) ((ds.map fun t=>(kids t).map intD).getD (k+1) []):=by
       show(ds.all (nA n)&&iH (ds.map fun t=>(kids t).map intD))=_
       rw[c2,hl]
       show iH (ds.map fun t=>(kids t).map intD)=_
       unfold iH
       rw[aQ]
      have:=q H2 (sm'.trans sm2)
      rw[e]at this;exact this
    ·have e:qw n (.tuple ds)=false:=by
      show(ds.all (nA n)&&iH (ds.map fun t=>(kids t).map intD))=_
      rw[Bool.eq_false_iff.mpr c2];rfl
     have:=q _ sm'
     rw[e]at this;exact this
  |_=>exfalso;exact c rfl
end
end Hs
namespace yL
open PySem L2
def pairD(p:Int×Int):PyData:= .tuple [.int p.1,.int p.2]
def gA(n:Int)(ts:List (Int×Int)):PyData:= .tuple [.int n,.tuple (ts.map pairD)]
def cF(K:W.Frag)(H:Hp)(a:Addr)(n:Int)(ts:List (Int×Int)):Prop:=∃t rs,SqT K H a [.int n,.ref t]/\SqT K H t rs/\bL K H rs (ts.map pairD)
theorem cF.dv{K:W.Frag}{H:Hp}{a:Addr}{n:Int}{ts:List (Int×Int)}(h:cF K H a n ts):DV K H (.ref a) (gA n ts):=by
 obtain⟨t,rs,h1,h2,h3⟩:=h
 exact .tup h1 (.cons (.int n) (.cons (.tup h2 h3) .nil))
theorem cF.same{K:W.Frag}{H H':Hp}{a:Addr}{n:Int}{ts:List (Int×Int)}(h:cF K H a n ts)(e:Same H H'):cF K H' a n ts:=by
 obtain⟨t,rs,h1,h2,h3⟩:=h
 exact⟨t,rs,e.tup h1,e.tup h2,bL.same e h3⟩
def aU(ts:List (Int×Int))(i j:Int):Bool:=decide ((if j<i then j else i,if j>i then j else i)∈ts)
theorem Er(p q:Int×Int):PyData.eqv (pairD p) (pairD q)=decide (p=q):=by
 obtain⟨a,b⟩:=p
 obtain⟨c,d⟩:=q
 show((a==c)&&((b==d)&&true))=_
 rw[vA]
 simp
theorem lQ:∀ts:List (Int×Int),PyData.canLayAll0 (ts.map pairD)=true
 |[]=>rfl
 |p::ts=>by
  show(PyData.canLay0 (pairD p)&&PyData.canLayAll0 (ts.map pairD))=true
  rw[lQ ts];rfl
theorem EY(ts:List (Int×Int))(q:Int×Int):((ts.map pairD).any fun d=>PyData.eqv d (pairD q))=decide (q∈ts):=by
 rw[List.any_map,vA,List.any_eq_true]
 constructor
 ·rintro⟨p,hp,h⟩
  have h':PyData.eqv (pairD p) (pairD q)=true:=h
  rw[Er]at h'
  have e:p=q:=yZ h'
  subst e
  exact cJ hp
 ·intro h
  refine⟨q,yZ h,?_⟩
  show PyData.eqv (pairD q) (pairD q)=true
  rw[Er]
  exact cJ rfl
def qL(n:Int)(ts:List (Int×Int))(i:Int):List Int:=((List.range n.toNat).map fun k=>(0+(k:Nat):Int)).filter fun j=>aU ts i j
end yL
namespace Hs
open PySem L2 yL
section
variable{P:Program}{w:World}{K:W.Frag}{mg:Str->Option Value}{base:Heap}
def Ja(K:W.Frag):Sp:=fun vs H Q _=>∃(x:V) (d:PyData),vs=[x]/\DX K H x d/\∀H',Same H H'->Q (.bl (vq d)) H'
theorem Oa:FnScope ["thing","n"] ["thing"] (defScope cU):=fsc
theorem VJ{f f1 f2:Addr}{fd d1 d2:FuncData}{tk:Tok}(F:Fun K "is_web" "is_web" cU f fd)(D1:aL K mg "is_whole" Q5 ["thing"] f1 d1)(G1:FnOk P w K mg base CX0 1 f1 d1 ["thing"] (uW K))(D2:aL K mg "are_ties" T7 ["n","thing"] f2 d2)(G2:FnOk P w K mg base CX0 5 f2 d2 ["n","thing"] (Ny K))(mi:mg "isinstance"=none)(mT:mg "tuple"=none)(mL:mg "len"=none)(mM:mg "MOST_PLACES"=some (.int 10 tk)):FnOk P w K mg base CX0 6 f fd ["thing"] (Ja K):=by
 refine F.ok Oa (fun vs H Q E h=> ?_) (fun cdv A outer s H vs Q E hr h=> ?_)
 ·obtain⟨x,d,rfl,_⟩:=h
  rfl
 obtain⟨x,d,rfl,hx,q⟩:=h
 refine⟨_,bh (ps_if (PW.pt (pw_or (pt_not (pt_val (dF fM rfl mi (by decide+kernel) (aj (pv 0) (aj (pe_bltn rfl mT (v:= .ty "tuple") (by decide+kernel) rfl) ak)))))
   (pw_or1 (iW op_ne (dF zB rfl mL uV (aj (pv 0) ak)) aY (nomark _))))) (bB (bV pe_bl)) ur) (bh (gG (i:=1) Oa.nd rfl (Or.inl rfl) (cR eZ (pv 0) aY (fun _ _=>rfl))) (bB (bV (pe_and (pc G1 hr D1 (aj (pv 1) ak)) (pe_and (pe_chain op_le op_le aY (pv 1) (CG rfl mM (v:= .int 10) ⟨_,rfl⟩))
   (pe_one (pc G2 hr D2 (aj (pv 1) (aj (cR eZ (pv 0) aY (fun _ _=>rfl)) ak))))))))),?_⟩
 refine⟨_,rfl,x,_,_,rfl,hx.kind,.inr (.inr (.inl rfl)),_,rfl,?_⟩
 refine ite2 (fun c=> ?_) (fun c=> ?_)
 ·have e:vq d=false:=by
   cases d<;>first |rfl|(exfalso;simp[Hy,Eb]at c;done)
  have:=q H (Same.refl _)
  rw[e]at this;exact this
 ·cases hx with
  | @tup a xs ds h t=>
   have hl:=t.len
   refine⟨_,rfl,a,xs,rfl,.inr h,fun hz=>⟨rfl,_,rfl,?_⟩⟩
   refine ite2 (fun c2=> ?_) (fun c2=> ?_)
   ·have e:vq (.tuple ds)=false:=by
     match ds,hl with
     |[],_=>rfl
     |[_],_=>rfl
     |[_,_],hl=>
      exfalso
      have e2:(!decide (V.int (xs.length:Int)=V.int 2))=true:=c2
      rw[hl]at e2
      simp at e2
     |_::_::_::_,_=>rfl
    have:=q H (Same.refl _)
    rw[e]at this;exact this
   ·have e2:xs.length=2:=by
     have e2:¬(!decide (V.int (xs.length:Int)=V.int 2))=true:=c2
     simp at e2
     omega
    cases t with
    |nil=>simp at e2
    |cons h0 t0=>
     cases t0 with
     |nil=>simp at e2
     | @cons x1 Xi xs1 ds1 h1 t1=>
      cases t1 with
      |cons _ _=>simp at e2
      |nil=>
       rename_i x0 Xj
       refine⟨_,rfl,a,_,_,x0,rfl,rfl,h,by rfl,?_⟩
       refine⟨_,rfl,x0,Xj,rfl,h0,_,rfl,?_⟩
       refine ite2 (fun c3=> ?_) (fun c3=> ?_)
       ·cases h0 with
        |int n=>
         refine⟨_,rfl,_,_,rfl,rfl,_,rfl,?_⟩
         have fin:∀b,b=vq (.tuple [.int n,Xi])->∀H',Same H H'->Q (.bl b) H':=fun b hb H' sm=>by rw[hb];exact q H' sm
         have wd:vq (.tuple [.int n,Xi])=((decide (0<=n)&&decide (n<=10))&&qw n Xi):=rfl
         refine ite2 (fun c4=> ?_) (fun c4=> ?_)
         ·refine⟨_,_,rfl,rfl,_,rfl,?_⟩
          refine ite2 (fun c5=> ?_) (fun c5=> ?_)
          ·refine⟨_,rfl,_,rfl,a,_,_,x1,rfl,rfl,h,by rfl,n,x1,Xi,rfl,h1,fun H' sm=>fin _ ?_ H' sm⟩
           rw[wd,c4,c5];rfl
          ·refine fin _ ?_ H (Same.refl _)
           rw[wd,Bool.eq_false_iff.mpr c5,Bool.and_false];rfl
         ·refine⟨_,rfl,?_⟩
          refine iteF (fin _ ?_ H (Same.refl _))
          rw[wd,Bool.eq_false_iff.mpr c4];rfl
        |_=>simp[vp]at c3
       ·have e:vq (.tuple [Xj,Xi])=false:=by
         show(vp Xj&&(decide (0<=intD Xj)&&decide (intD Xj<=10))&&qw (intD Xj) Xi)=false
         rw[Bool.eq_false_iff.mpr c3];rfl
        have:=q H (Same.refl _)
        rw[e]at this;exact this
  |_=>exfalso;exact c rfl
def aZ(K:W.Frag):Sp:=fun vs H Q _=>∃(x:V) (d:PyData),vs=[x]/\DX K H x d/\vq d=true/\∀H',Same H H'->Q .non H'
theorem Ge:FnScope ["thing"] ["thing"] (defScope yR):=fsc
theorem GK{f f1:Addr}{fd d1:FuncData}(F:Fun K "need_web" "need_web" yR f fd)(D1:aL K mg "is_web" cU ["thing"] f1 d1)(G1:FnOk P w K mg base CX0 6 f1 d1 ["thing"] (Ja K)):FnOk P w K mg base CX0 7 f fd ["thing"] (aZ K):=by
 refine F.ok Ge (fun vs H Q E h=> ?_) (fun cdv A outer s H vs Q E hr h=> ?_)
 ·obtain⟨x,d,rfl,_⟩:=h
  rfl
 obtain⟨x,d,rfl,hx,hw,q⟩:=h
 refine⟨_,bB (ps_if (pt_not (pt_val (pc G1 hr D1 (aj (pv 0) ak)))) pss_never ur),?_⟩
 refine⟨_,rfl,x,d,rfl,hx,fun H' sm=>⟨_,rfl,?_⟩⟩
 rw[hw]
 exact iteF (q H' sm)
def jm(K:W.Frag):Sp:=fun vs H Q _=>∃(a:Addr) (n i:Int) (t:V),vs=[.ref a,.int i]/\SqT K H a [.int n,t]/\0<=i/\i<n/\Q .non H
theorem Bl:FnScope ["web","thing"] ["web","thing"] (defScope Rj):=fsc
theorem Bu{f f1:Addr}{fd d1:FuncData}(F:Fun K "need_place" "need_place" Rj f fd)(D1:aL K mg "is_place" Q0 ["n","thing"] f1 d1)(G1:FnOk P w K mg base CX0 2 f1 d1 ["n","thing"] (uX K)):FnOk P w K mg base CX0 3 f fd ["web","thing"] (jm K):=by
 refine F.ok Bl (fun vs H Q E h=> ?_) (fun cdv A outer s H vs Q E hr h=> ?_)
 ·obtain⟨a,n,i,t,rfl,_⟩:=h
  rfl
 obtain⟨a,n,i,t,rfl,hS,h0,h1,q⟩:=h
 refine⟨_,bB (ps_if (pt_not (pt_val (pc G1 hr D1 (aj (cR eZ (pv 0) aY (fun _ _=>rfl)) (aj (pv 1) ak))))) pss_never ur),?_⟩
 refine⟨_,rfl,a,_,_,.int n,rfl,rfl,hS,rfl,_,rfl,n,.int i,.int i,rfl,.int i,_,rfl,?_⟩
 have e:bw n (.int i)=true:=by show(decide (0<=i)&&decide (i<n))=true;rw[cJ h0,cJ h1];rfl
 rw[e]
 exact iteF q
def lE(K:W.Frag):Sp:=fun vs H Q _=>∃(a:Addr) (n:Int) (t x:V) (d:PyData),vs=[.ref a,x]/\SqT K H a [.int n,t]/\DX K H x d/\mD n d=true/\∀H',Same H H'->Q .non H'
theorem Gf:FnScope ["web","thing"] ["web","thing"] (defScope Q6):=fsc
theorem GQ{f f1:Addr}{fd d1:FuncData}(F:Fun K "need_set" "need_set" Q6 f fd)(D1:aL K mg "is_set" cV ["n","thing"] f1 d1)(G1:FnOk P w K mg base CX0 4 f1 d1 ["n","thing"] (Nz K)):FnOk P w K mg base CX0 5 f fd ["web","thing"] (lE K):=by
 refine F.ok Gf (fun vs H Q E h=> ?_) (fun cdv A outer s H vs Q E hr h=> ?_)
 ·obtain⟨a,n,t,x,d,rfl,_⟩:=h
  rfl
 obtain⟨a,n,t,x,d,rfl,ha,hx,hd,q⟩:=h
 refine⟨_,bB (ps_if (pt_not (pt_val (pc G1 hr D1 (aj (cR eZ (pv 0) aY (fun _ _=>rfl)) (aj (pv 1) ak))))) pss_never ur),?_⟩
 refine⟨_,rfl,a,_,_,.int n,rfl,rfl,ha,rfl,_,rfl,n,x,d,rfl,hx,fun H' sm=>⟨_,rfl,?_⟩⟩
 rw[hd]
 exact iteF (q H' sm)
def gK(K:W.Frag):Sp:=fun vs H Q _=>∃(n:Int),vs=[.int n]/\n<=10/\Q .non H
theorem Gg:FnScope ["n"] ["n"] (defScope MJ):=fsc
theorem GR{f:Addr}{fd:FuncData}{tk:Tok}(F:Fun K "need_few" "need_few" MJ f fd)(mM:mg "MOST_PLACES"=some (.int 10 tk)):FnOk P w K mg base CX0 1 f fd ["n"] (gK K):=by
 refine F.ok Gg (fun vs H Q E h=> ?_) (fun cdv A outer s H vs Q E hr h=> ?_)
 ·obtain⟨n,rfl,_⟩:=h
  rfl
 obtain⟨n,rfl,hn,q⟩:=h
 refine⟨_,bB (ps_if (iW op_gt (pv 0) (CG rfl mM (v:= .int 10) ⟨_,rfl⟩) (nomark _)) pss_never ur),?_⟩
 refine⟨_,rfl,_,_,rfl,rfl,_,rfl,?_⟩
 rw[gB (show¬(10:Int)<n by omega)]
 exact iteF q
def qz(K:W.Frag):Sp:=fun vs H Q _=>∃(a:Addr) (n i j:Int) (ts:List (Int×Int)),vs=[.ref a,.int i,.int j]/\cF K H a n ts/\∀H',Same H H'->Q (.bl (aU ts i j)) H'
theorem Vy:FnScope ["web","one","other"] ["web","one","other"] (defScope Fw):=fsc
theorem VN{f:Addr}{fd:FuncData}(F:Fun K "has_tie" "has_tie" Fw f fd)(mi:mg "min"=none)(ma:mg "max"=none):FnOk P w K mg base CX0 1 f fd ["web","one","other"] (qz K):=by
 refine F.ok Vy (fun vs H Q E h=> ?_) (fun cdv A outer s H vs Q E hr h=> ?_)
 ·obtain⟨a,n,i,j,ts,rfl,_⟩:=h
  rfl
 obtain⟨a,n,i,j,ts,rfl,hW,q⟩:=h
 refine⟨_,bB (bV (Fo (Ox hr.units) (gH (aj (dF (call_min2 rfl) rfl mi (by decide+kernel) (aj (pv 1) (aj (pv 2) ak))) (aj (dF (call_max2 rfl) rfl ma (by decide+kernel) (aj (pv 1) (aj (pv 2) ak))) ak)))
  (cR eZ (pv 0) aY (fun _ _=>rfl)) (by with_unfolding_all rfl))),?_⟩
 refine⟨_,rfl,_,rfl,_,_,rfl,_,rfl,_,rfl,_,_,rfl,(by show 2<=sizeLine;decide),fun p hp=> ?_⟩
 have sm:=aR hp (.tup [.int (if j<i then j else i),.int (if j>i then j else i)])
 obtain⟨t,rs,h1,h2,h3⟩:=hW.same sm
 refine⟨_,rfl,a,_,_,.ref t,rfl,rfl,h1,rfl,t,rs,_,pairD (if j<i then j else i,if j>i then j else i),rfl,.inr h2,h3,.tup (SqT.of aM) (.cons (.int _) (.cons (.int _) .nil)),lQ ts,rfl,(by show max 0 (max 0 0)+1<=60;decide),?_⟩
 rw[EY]
 exact q _ sm
def mV(n:Int)(ts:List (Int×Int)):Prop:=vq (gA n ts)=true
def uY(K:W.Frag):Sp:=fun vs H Q _=>∃(a:Addr) (n i:Int) (ts:List (Int×Int)),vs=[.ref a,.int i]/\cF K H a n ts/\mV n ts/\(0<=i/\i<n)/\n<=10/\∀r H',Same H H'->H' r=some (.tup ((qL n ts i).map V.int))->Q (.ref r) H'
theorem Oe:FnScope ["web","place"] ["web","place"] (defScope Rk):=fsc
theorem O6{f f1 f2 f3:Addr}{fd d1 d2 d3:FuncData}(F:Fun K "neighbours" "neighbours" Rk f fd)(D1:aL K mg "need_web" yR ["thing"] f1 d1)(G1:FnOk P w K mg base CX0 7 f1 d1 ["thing"] (aZ K))(D2:aL K mg "need_place" Rj ["web","thing"] f2 d2)(G2:FnOk P w K mg base CX0 3 f2 d2 ["web","thing"] (jm K))(D3:aL K mg "has_tie" Fw ["web","one","other"] f3 d3)(G3:FnOk P w K mg base CX0 1 f3 d3 ["web","one","other"] (qz K))(mT:mg "tuple"=none)(mR:mg "range"=none):FnOk P w K mg base CX0 8 f fd ["web","place"] (uY K):=by
 refine F.ok Oe (fun vs H Q E h=> ?_) (fun cdv A outer s H vs Q E hr h=> ?_)
 ·obtain⟨a,n,i,ts,rfl,_⟩:=h
  rfl
 obtain⟨a,n,i,ts,rfl,hW,hok,hi,hn,q⟩:=h
 refine⟨_,bh (jg (pc G1 hr D1 (aj (pv 0) ak))) (bh (jg (pc G2 hr D2 (aj (pv 0) (aj (pv 1) ak)))) (bB (bV (Fv JN rfl mT (by decide+kernel) (aj (lX (own:=["other"]) (caps:=["web","place"]) (ix:=[0,1]) rfl (Fq rfl mR (aj (cR eZ (pv 0) aY (fun _ _=>rfl)) ak)) rfl rfl (.cons rfl rfl (.cons rfl rfl .nil)) (fun _ _ _ _ _=>dD (i:=0) (show(["other","web","place"]:List Str).Nodup from by decide+kernel) rfl (Or.inl rfl)) (fun _ _ _ _ _=>Fp (pt_val (pc G3 hr D3 (aj (pv 1) (aj (pv 2) (aj (pv 0) ak)))))) (fun _ _ _ _ _=>pv 0)) ak))))),?_⟩
 refine⟨_,rfl,_,_,rfl,hW.dv.dx,hok,fun H1 s1=> ?_⟩
 obtain⟨t,rs,h1,h2,h3⟩:=hW.same s1
 refine⟨_,rfl,_,rfl,a,n,i,_,rfl,h1,hi.1,hi.2,?_⟩
 refine⟨_,rfl,a,_,_,.int n,rfl,rfl,h1,rfl,n,rfl,by omega,by omega,?_⟩
 refine JM (fun k acc σ H'=>acc=(((List.range k).map fun k=>(0+(k:Nat):Int)).filter fun j=>aU ts i j).map V.int/\Same H1 H'/\∃o,σ=[o,some (.ref a),some (.int i)]) ⟨rfl,Same.refl _,_,rfl⟩ (fun k acc σ H' hk p=> ?_) (by rw[eF];omega) (fun k acc σ H' hk p=> ?_) (fun acc σ H' p=> ?_)
 ·rw[p.1,aQ]
  refine gJ (yW _ _) ?_
  simp
 ·obtain⟨rfl,sm,o,rfl⟩:=p
  refine⟨_,rfl,_,rfl,_,rfl,a,n,i,_,ts,rfl,hW.same (s1.trans sm),fun H2 s2=>⟨_,rfl,?_⟩⟩
  have ea:((List.range (k+1)).map fun k=>(0+(k:Nat):Int)).filter (fun j=>aU ts i j)=((List.range k).map fun k=>(0+(k:Nat):Int)).filter (fun j=>aU ts i j)++(if aU ts i (0+(k:Int))=true then[0+(k:Int)]else[]):=by
   rw[Ml,bW,Rv]
   congr 1
   show List.filter _ [0+(k:Int)]=_
   rw[M6]
   rfl
  rw[ea]
  refine ite2 (fun c=> ?_) (fun c=> ?_)
  ·refine⟨_,rfl,?_,sm.trans s2,_,rfl⟩
   rw[bD c,bW];rfl
  ·refine⟨?_,sm.trans s2,_,rfl⟩
   rw[bC c,uU]
 ·intro p1 hp1
  obtain⟨rfl,sm,_⟩:=p
  refine⟨p1,_,rfl,.inl ⟨SqL.of aM,fun l hl=> ?_⟩⟩
  exact q l _ (s1.trans (sm.trans ((aR hp1 _).trans (aR hl _)))) aM
end
end Hs
namespace L2
open PySem
def dG(t:Addr)(H H':Hp):Prop:=∀b o,b≠t->H b=some o->H' b=some o
theorem dG.refl(t:Addr)(H:Hp):dG t H H:=fun _ _ _ h=>h
theorem dG.upd{t:Addr}{H H':Hp}{o:HO}(h:dG t H H'):dG t H (upd H' t o):=fun b u n e=>by rw[dX n];exact h b u n e
def LC(K:W.Frag)(H:Hp)(U0:Addr)(ns:List Int):Prop:=(∃o,H U0=some (.frz o (.lst (ns.map V.int))))\/
 ∃(o:Obj) (its:Array Value) (n:Nat),K.lookup U0=some o/\o.cls= .type "list"/\o.dict=none/\o.data= .seq its n/\its.size<=sizeLine/\Vals (ns.map V.int) its.toList
theorem LC.sq{K:W.Frag}{H:Hp}{U0:Addr}{ns:List Int}(h:LC K H U0 ns):SqL K H U0 (ns.map V.int):=by
 rcases h with⟨o,h⟩|h
 ·exact .inl (.inr ⟨o,h⟩)
 ·exact .inr h
theorem LC.same{K:W.Frag}{H H':Hp}{U0:Addr}{ns:List Int}(h:LC K H U0 ns)(e:Same H H'):LC K H' U0 ns:=by
 rcases h with⟨o,h⟩|h
 ·exact .inl ⟨o,e _ _ h⟩
 ·exact .inr h
theorem lay_ints:∀ns:List Int,PyData.canLayAll0 (ns.map PyData.int)=true
 |[]=>rfl
 |n::ns=>by
  show(true&&PyData.canLayAll0 (ns.map PyData.int))=true
  rw[lay_ints ns];rfl
theorem Pk{H:Hp}{a b:Addr}{o:HO}(h:H a=some o)(n:H b=none):b≠a:=fun e=>by rw[e,h]at n;cases n
end L2
namespace Hs
open PySem L2 yL
section
variable{P:Program}{w:World}{K:W.Frag}{mg:Str->Option Value}{base:Heap}
theorem Bw{H:Hp}{a b:Addr}{o:HO}(h:H a=some o)(n:H b=none):b≠a:=fun e=>by rw[e,h]at n;cases n
def FW(K:W.Frag):Sp:=fun vs H Q _=>∃(a:Addr) (n i j:Int) (ts:List (Int×Int)),vs=[.ref a,.int i,.int j]/\cF K H a n ts/\mV n ts/\(0<=i/\i<n)/\(0<=j/\j<n)/\∀H',Same H H'->Q (.bl (aU ts i j)) H'
theorem RN:FnScope ["web","one","other"] ["web","one","other"] (defScope T6):=fsc
theorem R3{f f1 f2 f3:Addr}{fd d1 d2 d3:FuncData}(F:Fun K "are_tied" "are_tied" T6 f fd)(D1:aL K mg "need_web" yR ["thing"] f1 d1)(G1:FnOk P w K mg base CX0 7 f1 d1 ["thing"] (aZ K))(D2:aL K mg "need_place" Rj ["web","thing"] f2 d2)(G2:FnOk P w K mg base CX0 3 f2 d2 ["web","thing"] (jm K))(D3:aL K mg "has_tie" Fw ["web","one","other"] f3 d3)(G3:FnOk P w K mg base CX0 1 f3 d3 ["web","one","other"] (qz K)):
  FnOk P w K mg base CX0 8 f fd ["web","one","other"] (FW K):=by
 refine F.ok RN (fun vs H Q E h=> ?_) (fun cdv A outer s H vs Q E hr h=> ?_)
 ·obtain⟨a,n,i,j,ts,rfl,_⟩:=h
  rfl
 obtain⟨a,n,i,j,ts,rfl,hW,hok,hi,hj,q⟩:=h
 refine⟨_,bh (jg (pc G1 hr D1 (aj (pv 0) ak))) (bh (jg (pc G2 hr D2 (aj (pv 0) (aj (pv 1) ak)))) (bh (jg (pc G2 hr D2 (aj (pv 0) (aj (pv 2) ak)))) (bB (bV (pc G3 hr D3 (aj (pv 0) (aj (pv 1) (aj (pv 2) ak)))))))),?_⟩
 refine⟨_,rfl,_,_,rfl,hW.dv.dx,hok,fun H1 s1=> ?_⟩
 obtain⟨t,rs,h1,h2,h3⟩:=hW.same s1
 refine⟨_,rfl,_,rfl,a,n,i,_,rfl,h1,hi.1,hi.2,?_⟩
 refine⟨_,rfl,_,rfl,a,n,j,_,rfl,h1,hj.1,hj.2,?_⟩
 exact⟨_,rfl,_,rfl,_,rfl,a,n,i,j,ts,rfl,hW.same s1,fun H2 s2=>q H2 (s1.trans s2)⟩
theorem Wh{b:Bool}{A B:Prop}(h:b=true)(hA:A):if b=true then A else B:=by rw[h];exact iteT hA
theorem Wg{b:Bool}{A B:Prop}(h:b=false)(hB:B):if b=true then A else B:=by rw[h];exact iteF hB
def vN(K:W.Frag):Sp:=fun vs H Q _=>∃a b i:Int,vs=[.int a,.int b,.int i]/\a<=i/\i<=b/\Q .non H
theorem J4:FnScope ["least","most","thing"] ["least","most","thing"] (defScope Rn):=fsc
theorem KJ{f f1:Addr}{fd d1:FuncData}(F:Fun K "need_from_to" "need_from_to" Rn f fd)(D1:aL K mg "is_whole" Q5 ["thing"] f1 d1)(G1:FnOk P w K mg base CX0 1 f1 d1 ["thing"] (uW K)):
  FnOk P w K mg base CX0 2 f fd ["least","most","thing"] (vN K):=by
 refine F.ok J4 (fun vs H Q E h=> ?_) (fun cdv A outer s H vs Q E hr h=> ?_)
 ·obtain⟨_,_,_,rfl,_⟩:=h
  rfl
 obtain⟨a,b,i,rfl,h0,h1,q⟩:=h
 refine⟨_,bB (ps_if (PW.pt (pw_or (pt_not (pt_val (pc G1 hr D1 (aj (pv 2) ak)))) (pw_or1 (pt_not (pt_chain op_le op_le (pv 0) (pv 2) (pv 1)))))) pss_never ur),?_⟩
 refine⟨_,rfl,.int i,.int i,rfl,.int i,_,rfl,?_⟩
 refine iteF ?_
 refine⟨_,rfl,_,rfl,_,_,rfl,rfl,_,rfl,?_⟩
 refine Wh (cJ h0) ?_
 refine⟨_,rfl,_,_,rfl,rfl,_,rfl,?_⟩
 refine Wg (by rw[cJ h1];rfl) q
end
end Hs
namespace L2
open PySem
theorem bL.append{K:W.Frag}{H:Hp}{xs ys:List V}{ds es:List PyData}(h:bL K H xs ds)(h':bL K H ys es):bL K H (xs++ys) (ds++es):=
 bL.rec (motive_1:=fun _ _ _=>True) (motive_2:=fun xs ds _=>bL K H (xs++ys) (ds++es)) trivial (fun _=>trivial) (fun _=>trivial) (fun _=>trivial) (fun _ _ _=>trivial) (fun _ _ _=>trivial) (fun _=>trivial) (fun _ _=>trivial) h' (fun h _ _ t=> .cons h t) h
theorem dG.tup{K:W.Frag}{t:Addr}{H H':Hp}{a:Addr}{xs zs:List V}(e:dG t H H')(n:H t=some (.lst zs))(h:SqT K H a xs):SqT K H' a xs:=by
 rcases h with(h|⟨o,h⟩)|h
 ·exact .inl (.inl (e _ _ (ne_of h n (by intro z;cases z)) h))
 ·exact .inl (.inr ⟨o,e _ _ (ne_of h n (by intro z;cases z)) h⟩)
 ·exact .inr h
end L2
namespace yL
open PySem L2
theorem jt{K:W.Frag}{t:Addr}{H H':Hp}{zs:List V}(e:dG t H H')(n:H t=some (.lst zs)){rs:List V}{ps:List (Int×Int)}(h:bL K H rs (ps.map pairD)):bL K H' rs (ps.map pairD):=by
 induction ps generalizing rs with
 |nil=>cases h;exact .nil
 |cons p ps ih=>
  cases h with
  |cons h tl=>
   refine .cons ?_ (ih tl)
   cases h with
   |tup h hd=>
    cases hd with
    |cons a1 t1=>
     cases a1
     cases t1 with
     |cons a2 t2=>
      cases a2
      cases t2
      exact .tup (e.tup n h) (.cons (.int _) (.cons (.int _) .nil))
structure Sub(j:Nat)(l:List Int):Prop where
 nd:l.Nodup
 lt:∀i∈l,0<=i/\i<(j:Int)
theorem cu{α:Type} [DecidableEq α]:∀{l m:List α},l.Nodup->(∀a∈l,a∈m)->l.length<=m.length
 |[],m,_,_=>jj _
 |a::l,m,nd,h=>by
  have ha:=h a jl
  have nd':=M5.mp nd
  have q:∀b∈l,b∈m.erase a:=fun b hb=>by
   have hne:b≠a:=fun e=>nd'.1 (e▸hb)
   exact(List.mem_erase_of_ne hne).mpr (h b (lZ _ hb))
  have:=cu nd'.2 q
  have e:=weh ha
  have:0<m.length:=ydc ha
  simp only[Mq]
  omega
theorem Sub.len{j:Nat}{l:List Int}(h:Sub j l):l.length<=j:=by
 have q:=cu (m:=(List.range j).map fun(k:Nat)=>(k:Int)) h.nd fun i hi=>by
  have:=h.lt i hi
  exact eE.mpr ⟨i.toNat,uw.mpr (by omega),by omega⟩
 simpa using q
structure aG(n:Int)(ps:List (Int×Int)):Prop where
 nd:ps.Nodup
 lt:∀p∈ps,0<=p.1/\p.1<p.2/\p.2<n
def Z2(n:Nat):List (Int×Int):=((List.range n).map fun(j:Nat)=>(List.range j).map fun(i:Nat)=>((i:Int),(j:Int))).flatten
theorem pairs_len{n:Int}{ps:List (Int×Int)}(h:aG n ps)(hn:n<=10):ps.length<=45:=by
 have q:=cu (m:=Z2 10) h.nd fun p hp=>by
  obtain⟨h0,h1,h2⟩:=h.lt p hp
  obtain⟨a,b⟩:=p
  dsimp only at h0 h1 h2
  refine List.mem_flatten.mpr ⟨(List.range b.toNat).map fun(i:Nat)=>((i:Int),((b.toNat:Nat):Int)),eE.mpr ⟨b.toNat,uw.mpr (by omega),rfl⟩,eE.mpr ⟨a.toNat,uw.mpr (by omega),?_⟩⟩
  have e1:((a.toNat:Nat):Int)=a:=by omega
  have e2:((b.toNat:Nat):Int)=b:=by omega
  rw[e1,e2]
 have e:(Z2 10).length=45:=by decide
 omega
def pl(p:Int×Int):List Int:=[p.1,p.2]
theorem Ot{p q:Int×Int}(h:pl p=pl q):p=q:=by
 obtain⟨a,b⟩:=p
 obtain⟨c,d⟩:=q
 unfold pl at h
 simp at h
 rw[h.1,h.2]
theorem Py{a b:List Int}(h:HT.lexLt b a=false)(ne:a≠b):HT.lexLt a b=true:=by
 rw[HT.bF]at h⊢
 have h1:¬b<a:=wdy h
 have h2:a<=b:=Mh.mp h1
 refine cJ ?_
 rcases Classical.em (a<b)with h3|h3
 ·exact h3
 ·exact absurd (wep h2 (Mh.mp h3)) ne
theorem Nr{n:Int}{p:Int×Int}(h0:0<=p.1)(h1:p.1<p.2)(h2:p.2<n):nA n (pairD p)=true:=by
 show((bw n (.int p.1)&&(bw n (.int p.2)&&true))&&iI [p.1,p.2]&&decide (([PyData.int p.1,PyData.int p.2]).length=2))=true
 have e1:bw n (.int p.1)=true:=by
  show(decide (0<=p.1)&&decide (p.1<n))=true
  rw[cJ h0,cJ (by omega)];rfl
 have e2:bw n (.int p.2)=true:=by
  show(decide (0<=p.2)&&decide (p.2<n))=true
  rw[cJ (by omega),cJ h2];rfl
 have e3:iI [p.1,p.2]=true:=by
  show(decide (p.1<p.2)&&true)=true
  rw[cJ h1];rfl
 rw[e1,e2,e3];rfl
theorem Vq{n:Int}{ts:List (Int×Int)}(hn0:0<=n)(hn1:n<=10)(h:aG n ts)(hs:ts.Pairwise fun p q=>HT.lexLt (pl q) (pl p)=false):vq (gA n ts)=true:=by
 show(true&&(decide (0<=n)&&decide (n<=10))&&((ts.map pairD).all (nA n)&&iH ((ts.map pairD).map fun t=>(kids t).map intD)))=true
 have e1:(ts.map pairD).all (nA n)=true:=by
  rw[XD,mO]
  intro p hp
  obtain⟨h0,h1,h2⟩:=h.lt p hp
  exact Nr h0 h1 h2
 have e2:(ts.map pairD).map (fun t=>(kids t).map intD)=ts.map pl:=by rw[CJ];rfl
 have e3:iH (ts.map pl)=true:=by
  unfold iH
  rw[mO]
  intro k hk
  have hk':k<ts.length-1:=by simpa using hk
  have g1:(ts.map pl).getD k []=pl ts[k]:=by rw[zE,gw,iY (by omega)];rfl
  have g2:(ts.map pl).getD (k+1) []=pl ts[k+1]:=by rw[zE,gw,iY (by omega)];rfl
  rw[g1,g2]
  refine Py (Xv.mp hs k (k+1) (by omega) (by omega) (by omega)) fun e=> ?_
  have:=(Vn h.nd).mp (Ot e)
  omega
 rw[cJ hn0,cJ hn1,e1,e2,e3];rfl
theorem Ed{K:W.Frag}{H:Hp}{rs:List V}{ps:List (Int×Int)}(h:bL K H rs (ps.map pairD)):∃its:List (Addr×(Int×Int)),rs=its.map (fun p=>V.ref p.1)/\its.map (·.2)=ps/\∀p∈its,SqT K H p.1 ((pl p.2).map V.int):=by
 induction ps generalizing rs with
 |nil=>cases h;exact⟨[],rfl,rfl,fun p h=>(nomatch h)⟩
 |cons p ps ih=>
  cases h with
  |cons h tl=>
   obtain⟨its,e1,e2,e3⟩:=ih tl
   cases h with
   | @tup a _ _ h hd=>
    cases hd with
    |cons a1 t1=>
     cases a1
     cases t1 with
     |cons a2 t2=>
      cases a2
      cases t2
      refine⟨(a,p)::its,by rw[e1];rfl,by rw[<-e2];rfl,fun q hq=> ?_⟩
      rcases cT.mp hq with e|e
      ·rw[e];exact h
      ·exact e3 q e
theorem wj{K:W.Frag}{H:Hp}:∀(its:List (Addr×(Int×Int))),(∀p∈its,SqT K H p.1 ((pl p.2).map V.int))->bL K H (its.map fun p=>V.ref p.1) ((its.map (·.2)).map pairD)
 |[],_=> .nil
 |p::its,h=> .cons (.tup (h p jl) (.cons (.int _) (.cons (.int _) .nil))) (wj its fun q hq=>h q (lZ _ hq))
theorem uF:∀ts:List (Int×Int),PyData.depthAll (ts.map pairD)<=1
 |[]=>jj _
 |p::ts=>by
  show max (max 0 (max 0 0)+1) (PyData.depthAll (ts.map pairD))<=1
  have:=uF ts
  omega
def aq(ts:List (Int×Int))(i j:Int):Bool:=decide ((i,j)∈ts)||decide ((j,i)∈ts)
theorem tied_eq{n:Int}{ts:List (Int×Int)}(h:aG n ts)(i j:Int):aU ts i j=aq ts i j:=by
 unfold aU aq
 have no:∀{a b:Int},b<=a->decide ((a,b)∈ts)=false:=fun{a b} hab=>gB fun hm=>by
  have:=(h.lt _ hm).2.1
  dsimp only at this
  omega
 rcases Int.lt_trichotomy i j with c|c|c
 ·rw[bC (show¬j<i by omega),bD (show j>i by omega),no (show i<=j by omega),wfk]
 ·subst c
  rw[bC (show¬i<i by omega),Bool.or_self]
  try rw[bC (show¬i>i by omega)]
 ·rw[bD (show j<i by omega),bC (show¬j>i by omega),no (show j<=i by omega),wfj]
end yL
namespace Hs
open PySem L2 yL
def gQ(p q:Int×Int):Prop:=p.1<q.1\/(p.1=q.1/\p.2<q.2)
theorem gQ.trans{p q r:Int×Int}(a:gQ p q)(b:gQ q r):gQ p r:=by
 unfold gQ at *;omega
theorem gQ.K5{p:Int×Int}(a:gQ p p):False:=by
 unfold gQ at a;omega
theorem eq_of_sorted:∀{l m:List (Int×Int)},l.Pairwise gQ->m.Pairwise gQ->(∀p,p∈l↔p∈m)->l=m
 |[],[],_,_,_=>rfl
 |[],q::m,_,_,h=>absurd ((h q).mpr (jl ..)) (by simp)
 |p::l,[],_,_,h=>absurd ((h p).mp (jl ..)) (by simp)
 |p::l,q::m,hl,hm,h=>by
  rw[Wv]at hl hm
  have e:p=q:=by
   rcases cT.mp ((h p).mp (jl ..))with e|e
   ·exact e
   rcases cT.mp ((h q).mpr (jl ..))with e'|e'
   ·exact e'.symm
   exact(gQ.K5 ((hl.1 _ e').trans (hm.1 _ e))).elim
  subst e
  have:l=m:=eq_of_sorted hl.2 hm.2 (fun r=>by
   have hr:=h r
   rw[cT,cT]at hr
   constructor
   ·intro hi
    rcases hr.mp (.inr hi)with e|e
    ·subst e;exact(gQ.K5 (hl.1 _ hi)).elim
    ·exact e
   ·intro hi
    rcases hr.mpr (.inr hi)with e|e
    ·subst e;exact(gQ.K5 (hm.1 _ hi)).elim
    ·exact e)
  rw[this]
theorem BW{p q:Int×Int}(h:HT.lexLt (pl p) (pl q)=true):gQ p q:=by
 rw[HT.bF]at h
 have:=yZ h
 unfold pl at this
 rw[yde]at this
 rcases this with a|⟨a,b⟩
 ·exact .inl a
 ·rw[yde]at b
  rcases b with b|⟨_,b⟩
  ·exact .inr ⟨a,b⟩
  ·exact absurd b (by simp)
theorem Ss{p q:Int×Int}(h:HT.lexLt (pl q) (pl p)=false)(ne:p≠q):gQ p q:=BW (Py h (fun e=>ne (Ot e)))
theorem vQ{l:List (Int×Int)}(hs:l.Pairwise fun p q=>HT.lexLt (pl q) (pl p)=false)(nd:l.Nodup):l.Pairwise gQ:=
 (List.Pairwise.and hs nd).imp fun h=>Ss h.1 h.2
theorem uP{l:List (Int×Int)}(h:∀k,(hk:k+1<l.length)->gQ l[k] l[k+1]):l.Pairwise gQ:=by
 rw[Xv]
 intro i j hi hj hij
 have go:∀d:Nat,(hd:i+1+d<l.length)->gQ l[i] l[i+1+d]:=by
  intro d
  induction d with
  |zero=>intro hd;exact h i hd
  |succ d ih=>intro hd;exact(ih (by omega)).trans (h (i+1+d) hd)
 have e:j=i+1+(j-i-1):=by omega
 have:=go (j-i-1) (by omega)
 simpa[<-e]using this
theorem iB{n:Int}{ts:List (Int×Int)}(h:mV n ts):ts.Pairwise gQ:=by
 have h1:qw n (.tuple (ts.map pairD))=true:=by
  unfold mV gA vq at h
  rw[qt]at h
  exact h.2
 unfold qw at h1
 rw[qt]at h1
 have h2:=h1.2
 unfold iH at h2
 rw[mO]at h2
 refine uP fun k hk=> ?_
 have e:(List.map (fun t=>(kids t).map intD) (ts.map pairD))=ts.map pl:=by
  rw[CJ];rfl
 rw[e,aQ]at h2
 have h3:=h2 k (by rw[uw];omega)
 have g:∀j,(hj:j<ts.length)->(ts.map pl).getD j []=pl ts[j]:=fun j hj=>by
  rw[zE,gw,iY hj];rfl
 rw[g k (by omega),g (k+1) hk]at h3
 exact BW h3
def row(so:Int->Int->Bool)(i:Int)(k:Nat):List (Int×Int):=((List.range k).map fun(t:Nat)=>(i,i+1+(t:Int))).filter fun p=>so p.1 p.2
def rows(so:Int->Int->Bool)(m:Int)(i:Nat):List (Int×Int):=((List.range i).map fun(t:Nat)=>row so (0+(t:Int)) (m-(0+(t:Int)+1)).toNat).flatten
theorem Dq(so:Int->Int->Bool)(i:Int)(k:Nat):row so i (k+1)=row so i k++(if so i (i+1+(k:Int))=true then[(i,i+1+(k:Int))]else[]):=by
 unfold row
 rw[Ml,bW,Rv]
 congr 1
 show List.filter _ [(i,i+1+(k:Int))]=_
 rw[M6]
 rfl
theorem lG(so:Int->Int->Bool)(m:Int)(i:Nat):rows so m (i+1)=rows so m i++row so (0+(i:Int)) (m-(0+(i:Int)+1)).toNat:=by
 unfold rows
 rw[Ml,bW,List.flatten_append]
 simp
theorem u6{so:Int->Int->Bool}{i:Int}{k:Nat}{p:Int×Int}:p∈row so i k↔p.1=i/\i<p.2/\p.2<i+1+(k:Int)/\so p.1 p.2=true:=by
 unfold row
 rw[lY,eE]
 constructor
 ·rintro⟨⟨t,ht,rfl⟩,h⟩
  rw[uw]at ht
  exact⟨rfl,by show i<i+1+(t:Int);omega,by show i+1+(t:Int)<_;omega,h⟩
 ·rintro⟨h1,h2,h3,h4⟩
  refine⟨⟨(p.2-i-1).toNat,by rw[uw];omega,?_⟩,h4⟩
  apply Ms
  ·exact h1.symm
  ·show i+1+(((p.2-i-1).toNat:Nat):Int)=p.2;omega
theorem JL{so:Int->Int->Bool}{m:Int}:∀{i:Nat} {p:Int×Int},p∈rows so m i↔0<=p.1/\p.1<(i:Int)/\p.1<p.2/\p.2<m/\so p.1 p.2=true
 |0,p=>by
  constructor
  ·intro h;simp[rows]at h
  ·intro h;omega
 |i+1,p=>by
  rw[lG,fj,JL (i:=i),u6]
  constructor
  ·rintro(h|h)
   ·exact⟨h.1,by omega,h.2.2⟩
   ·exact⟨by omega,by omega,by omega,by omega,h.2.2.2⟩
  ·rintro⟨h1,h2,h3,h4,h5⟩
   by_cases e:p.1<(i:Int)
   ·exact .inl ⟨h1,e,h3,h4,h5⟩
   ·exact .inr ⟨by omega,by omega,by omega,h5⟩
theorem v7(so:Int->Int->Bool)(i:Int)(k:Nat):(row so i k).Pairwise gQ:=by
 unfold row
 refine List.Pairwise.filter _ ?_
 rw[Iz]
 exact Xr.imp fun h=> .inr ⟨rfl,by show i+1+_<i+1+_;omega⟩
theorem Vj(so:Int->Int->Bool)(m:Int):∀i:Nat,(rows so m i).Pairwise gQ
 |0=>by unfold rows;exact List.Pairwise.nil
 |i+1=>by
  rw[lG,Xp]
  refine⟨Vj so m i,v7 so _ _,fun p hp q hq=> ?_⟩
  rw[JL]at hp
  rw[u6]at hq
  exact .inl (by omega)
theorem rows_eq{so:Int->Int->Bool}{m:Int}{l:List (Int×Int)}(hm:0<=m)(hs:l.Pairwise gQ)(h:∀p:Int×Int,p∈l↔0<=p.1/\p.1<p.2/\p.2<m/\so p.1 p.2=true):l=rows so m m.toNat:=by
 refine eq_of_sorted hs (Vj so m _) fun p=> ?_
 rw[h,JL]
 constructor
 ·rintro⟨a,b,c,d⟩;exact⟨a,by omega,b,c,d⟩
 ·rintro⟨a,b,c,d,e⟩;exact⟨a,c,d,e⟩
theorem Jk{so:Int->Int->Bool}{m:Int}{i:Nat}:aG m (rows so m i):=
 ⟨(Vj so m i).imp fun h e=>by subst e;exact gQ.K5 h,fun p hp=>by rw[JL]at hp;exact⟨hp.1,hp.2.2.1,hp.2.2.2.1⟩⟩
theorem lK{l:List (Int×Int)}(h:l.Pairwise gQ):l.Nodup:=h.imp fun h e=>by subst e;exact gQ.K5 h
end Hs
namespace L2
open PySem
theorem bL.get'{K:W.Frag}{H:Hp}:∀{xs:List V} {ds:List PyData} {i:Nat},bL K H xs ds->i<ds.length->∃x d,xs[i]? =some x/\ds[i]? =some d/\DV K H x d
 |_,_,i,.nil,h=>by simp at h
 |_,_,0,.cons h _,_=>⟨_,_,rfl,rfl,h⟩
 |_,_,i+1,.cons _ t,h=>by
  obtain⟨x,d,h1,h2,h3⟩:=bL.get' (i:=i) t (by simpa using h)
  exact⟨x,d,by simpa using h1,by simpa using h2,h3⟩
end L2
namespace Hs
open PySem L2 yL
theorem FJ(n:Int)(ts:List (Int×Int)):(gA n ts).depth<=3:=by
 have h:=uF ts
 show max 0 (max (PyData.depthAll (ts.map pairD)+1) 0)+1<=3
 omega
theorem JG{xs:List Int}{i:Int}(h0:0<=i)(h1:i<(xs.length:Int)):atI (xs.map V.int) i=some (.int (xs.getD i.toNat 0)):=by
 have hk:i.toNat<xs.length:=by omega
 have ek:((i.toNat:Nat):Int)=i:=by omega
 have q:atI (xs.map V.int) ((i.toNat:Nat):Int)=some (.int (xs.getD i.toNat 0)):=atI_nat (by rw[gw,iY hk,zE,iY hk];rfl)
 rw[ek]at q
 exact q
theorem zj{α β γ:Type}{f:α->β}{g:β->γ}{l:List α}{i:Nat}(hi:i<l.length):((l.take i).map f).map g++[g (f l[i])]=((l.take (i+1)).map f).map g:=by
 rw[Ao,iY hi,bW,bW]
 rfl
structure bA(K:W.Frag)(H:Hp)(a:Addr)(n:Int)(ts:List (Int×Int)):Prop where
 web:cF K H a n ts
 h0:0<=n
 h1:n<=10
 pk:aG n ts
 ok:mV n ts
theorem bA.same{K:W.Frag}{H H':Hp}{a:Addr}{n:Int}{ts:List (Int×Int)}(h:bA K H a n ts)(e:Same H H'):bA K H' a n ts:=⟨h.web.same e,h.h0,h.h1,h.pk,h.ok⟩
theorem bA.len{K:W.Frag}{H:Hp}{a:Addr}{n:Int}{ts:List (Int×Int)}(h:bA K H a n ts):ts.length<=45:=pairs_len h.pk h.h1
section
variable{K:W.Frag}{H:Hp}{a b:Addr}{n1 n2:Int}{t1 t2:List (Int×Int)}
end
def tt(_ _:Int):Bool:=true
theorem gk{so:Int->Int->Bool}{m:Int}{i:Nat}:(rows tt m i).filter (fun p=>so p.1 p.2)=rows so m i:=by
 refine eq_of_sorted ((Vj _ _ _).filter _) (Vj _ _ _) fun p=> ?_
 rw[lY,JL,JL]
 constructor
 ·rintro⟨⟨a,b,c,d,_⟩,e⟩;exact⟨a,b,c,d,e⟩
 ·rintro⟨a,b,c,d,e⟩;exact⟨⟨a,b,c,d,rfl⟩,e⟩
section
variable{P:Program}{w:World}{K:W.Frag}{mg:Str->Option Value}{base:Heap}
structure LK(K:W.Frag)(H:Hp)(l:Addr)(ps:List (Int×Int)):Prop where
 ex:∃rs,H l=some (.lst rs)/\bL K H rs (ps.map pairD)
theorem LK.same{H H':Hp}{l:Addr}{ps:List (Int×Int)}(h:LK K H l ps)(e:Same H H'):LK K H' l ps:=by
 obtain⟨rs,h1,h2⟩:=h.ex
 exact⟨rs,e _ _ h1,h2.same e⟩
def rR(K:W.Frag):Sp:=fun vs H Q _=>∃(n:Int),vs=[.int n]/\0<=n/\n<=10/\∀l H',Same H H'->LK K H' l (rows tt n n.toNat)->Q (.ref l) H'
theorem Bo:FnScope ["n","found","one"] ["n"] (defScope cL):=fsc
theorem R9{f:Addr}{fd:FuncData}(F:Fun K "pairs" "pairs" cL f fd)(mR:mg "range"=none):FnOk P w K mg base CX0 1 f fd ["n"] (rR K):=by
 refine F.ok Bo (fun vs H Q E h=> ?_) (fun cdv A outer s H vs Q E hr h=> ?_)
 ·obtain⟨n,rfl,_⟩:=h
  rfl
 obtain⟨n,rfl,hn0,hn1,q⟩:=h
 refine⟨_,bh (gG (i:=1) Bo.nd rfl (Or.inl rfl) (pe_lst ak)) (bh (ps_for Mv rfl (Fq rfl mR (aj (pv 0) ak)) (dD (i:=2) Bo.nd rfl (Or.inr rfl)) (bB (jg (pe_bm Ry X8 X7 mt_extend (pv 1) (aj
    (lX (own:=["other"]) (caps:=["one"]) (ix:=[2]) rfl (pi_range2 rfl mR (aj (fQ op_add (pv 2) aY) (aj (pv 0) ak))) rfl rfl (.cons rfl rfl .nil) (fun _ _ _ _ _=>dD (i:=0) (show(["other","one"]:List Str).Nodup from by decide+kernel) rfl (Or.inl rfl)) (fun _ _ _ _ _=>zy) (fun _ _ _ _ _=>gH (aj (pv 1) (aj (pv 0) ak)))) ak))))) (bB (bV (pv 1)))),?_⟩
 refine⟨(by show 0<=sizeLine;decide),fun l hl=> ?_⟩
 refine⟨_,rfl,n,rfl,by omega,by omega,?_⟩
 refine for_range (n:=n.toNat) (fun i σ H'=>Same H H'/\(∃rs,H' l=some (.lst rs)/\bL K H' rs ((rows tt n i).map pairD))/\∃o,σ=[some (.int n),some (.ref l),o]) ⟨aR hl _,⟨[],aM,.nil⟩,_,rfl⟩ (fun i σ H' hi p=> ?_) (fun σ H' p=> ?_)
 ·obtain⟨sm,⟨rs,hr1,hr2⟩,o,rfl⟩:=p
  have hlen:=hr2.len
  rw[aQ]at hlen
  have h45:=pairs_len (Jk (so:=tt) (m:=n) (i:=i)) hn1
  refine⟨_,rfl,.inl ⟨rfl,_,SqL.of hr1⟩,_,rfl,_,_,rfl,rfl,_,rfl,_,_,rfl,⟨by omega,by omega,by omega,by omega⟩,?_⟩
  refine JM (n:=(n-(0+(i:Int)+1)).toNat) (fun k acc σ H2=>Same H' H2/\acc.length=k/\bL K H2 acc ((row tt (0+(i:Int)) k).map pairD)/\∃o1,σ=[o1,some (.int (0+(i:Int)))]) ⟨Same.refl _,rfl,.nil,_,rfl⟩ (fun k acc σ H2 hk p=>by rw[p.2.1];exact bx _) (by rw[eF];omega) (fun k acc σ H2 hk p=> ?_) (fun acc σ H2 p=> ?_)
  ·obtain⟨s2,hl2,hd,o1,rfl⟩:=p
   refine⟨_,rfl,_,rfl,(by show 2<=sizeLine;decide),fun p hp=> ?_⟩
   have s3:=aR hp (.tup [.int (0+(i:Int)),.int (0+(i:Int)+1+(k:Int))])
   refine⟨s2.trans s3,by rw[iz,hl2];rfl,?_,_,rfl⟩
   rw[Dq,bW,bD (show tt (0+(i:Int)) (0+(i:Int)+1+(k:Int))=true from rfl)]
   exact(hd.same s3).append (.cons (.tup (SqT.of aM) (.cons (.int _) (.cons (.int _) .nil))) .nil)
  ·intro p1 hp1
   obtain⟨s2,hl2,hd,_⟩:=p
   have s3:=aR hp1 (.lst acc)
   have YC:=s3 _ _ (s2 _ _ hr1)
   refine⟨l,p1,rs,acc,rfl,rfl,YC,aM,?_,?_⟩
   ·rw[eF];omega
   ·have x4:dG l (upd H2 p1 (.lst acc)) (upd (upd H2 p1 (.lst acc)) l (.lst (rs++acc))):=(dG.refl _ _).upd
    refine⟨?_,⟨_,aM,?_⟩,_,rfl⟩
    ·intro b o hb
     have nb:b≠l:=fun e=>by rw[e,hl]at hb;cases hb
     exact x4 _ _ nb (s3 _ _ (s2 _ _ (sm _ _ hb)))
    ·rw[lG]
     exact jt x4 YC (by rw[bW];exact((hr2.same s2).same s3).append (hd.same s3))
 ·obtain⟨sm,⟨rs,hr1,hr2⟩,o,rfl⟩:=p
  exact⟨_,rfl,q l _ sm ⟨rs,hr1,hr2⟩⟩
theorem gq{H:Hp}{rs:List V}{ps:List (Int×Int)}{i:Nat}{x:V}(h:bL K H rs (ps.map pairD))(hx:rs[i]? =some x):∃(t:Addr) (hi:i<ps.length),x= .ref t/\SqT K H t [.int (ps[i]).1,.int (ps[i]).2]:=by
 have hlen:=h.len
 rw[aQ]at hlen
 have hi:i<ps.length:=by rw[<-hlen];exact(Aq.mp hx).1
 obtain⟨x',d,e1,e2,e3⟩:=bL.get' (i:=i) h (by rw[aQ];exact hi)
 rw[hx]at e1;cases e1
 rw[gw,iY hi]at e2
 cases e2
 cases e3 with
 |tup hp tp=>
  cases tp with
  |cons ta tb=>
   cases tb with
   |cons tc td=>
    cases td
    cases ta
    cases tc
    exact⟨_,hi,rfl,hp⟩
theorem kW{so:Int×Int->Bool}{ps:List (Int×Int)}{i:Nat}(hi:i<ps.length):(ps.take (i+1)).filter so=(ps.take i).filter so++(if so ps[i]=true then[ps[i]]else[]):=by
 rw[Ao,iY hi,Rv]
 congr 1
 show List.filter so [ps[i]]=_
 rw[M6]
 rfl
end
structure rB(n:Int)(xs:List Int):Prop where
 srt:xs.Pairwise (· < ·)
 lt:∀x∈xs,0<=x/\x<n
theorem rB.len{n:Int}{xs:List Int}(h:rB n xs)(hn:n<=10):xs.length<=10:=by
 have h1:Sub n.toNat xs:=⟨h.srt.imp fun h e=>by omega,fun i hi=>by have:=h.lt i hi;omega⟩
 have:=h1.len
 omega
theorem rB.mD{n:Int}{xs:List Int}(h:rB n xs):yL.mD n (.tuple (xs.map PyData.int))=true:=by
 unfold yL.mD
 rw[qt]
 refine⟨?_,?_⟩
 ·rw[XD,mO]
  intro x hx
  have:=h.lt x hx
  show(decide (0<=x)&&decide (x<n))=true
  rw[cJ this.1,cJ this.2];rfl
 ·rw[CJ]
  have e:xs.map (intD∘PyData.int)=xs:=(Ww fun x _=>rfl).trans (WD xs)
  rw[e]
  unfold iI
  rw[mO]
  intro k hk
  rw[uw]at hk
  have h2:=Xv.mp h.srt k (k+1) (by omega) (by omega) (by omega)
  have g:∀j,(hj:j<xs.length)->xs.getD j 0=xs[j]:=fun j hj=>by rw[zE,iY hj];rfl
  rw[g k (by omega),g (k+1) (by omega)]
  exact cJ h2
def so9(xs:List Int)(ts:List (Int×Int))(i j:Int):Bool:=aU ts (xs.getD i.toNat 0) (xs.getD j.toNat 0)
def RK(ts:List (Int×Int))(i j:Int):Bool:= !decide ((i,j)∈ts)
section
variable{P:Program}{w:World}{K:W.Frag}{mg:Str->Option Value}{base:Heap}
def NZ(K:W.Frag):Sp:=fun vs H Q _=>∃(a sm:Addr) (n:Int) (ts:List (Int×Int)) (xs:List Int),vs=[.ref a,.ref sm]/\bA K H a n ts/\SqT K H sm (xs.map V.int)/\rB n xs/\
 ∀r H',Same H H'->cF K H' r (xs.length:Int) (rows (so9 xs ts) (xs.length:Int) (xs.length:Int).toNat)->Q (.ref r) H'
theorem Oh:FnScope ["web","some","kept"] ["web","some"] (defScope T8):=fsc
theorem VP{f f1 f2 f3 f4:Addr}{fd d1 d2 d3 d4:FuncData}(F:Fun K "cut_down" "cut_down" T8 f fd)(D1:aL K mg "need_web" yR ["thing"] f1 d1)(G1:FnOk P w K mg base CX0 7 f1 d1 ["thing"] (aZ K))(D2:aL K mg "need_set" Q6 ["web","thing"] f2 d2)(G2:FnOk P w K mg base CX0 5 f2 d2 ["web","thing"] (lE K))(D3:aL K mg "pairs" cL ["n"] f3 d3)(G3:FnOk P w K mg base CX0 1 f3 d3 ["n"] (rR K))(D4:aL K mg "has_tie" Fw ["web","one","other"] f4 d4)(G4:FnOk P w K mg base CX0 1 f4 d4 ["web","one","other"] (qz K))(mT:mg "tuple"=none)(mL:mg "len"=none):
  FnOk P w K mg base CX0 8 f fd ["web","some"] (NZ K):=by
 refine F.ok Oh (fun vs H Q E h=> ?_) (fun cdv A outer s H vs Q E hr h=> ?_)
 ·obtain⟨a,sm,n,ts,xs,rfl,_⟩:=h
  rfl
 obtain⟨a,sm,n,ts,xs,rfl,hA,hX,hok,q⟩:=h
 refine⟨_,bh (jg (pc G1 hr D1 (aj (pv 0) ak))) (bh (jg (pc G2 hr D2 (aj (pv 0) (aj (pv 1) ak)))) (bh (jq (i:=2) (own:=["i","j"]) (caps:=["web","some"]) (ix:=[0,1]) Oh.nd rfl (Or.inl rfl) rfl (Mf (pc G3 hr D3 (aj (dF zB rfl mL uV (aj (pv 1) ak)) ak))) rfl rfl (.cons rfl rfl (.cons rfl rfl .nil)) (fun _ _ _ _ _=>eN K (n:=2) rfl (zA (dD (i:=0) (show(["i","j","web","some"]:List Str).Nodup from by decide+kernel) rfl (Or.inl rfl)) (zA (dD (i:=1) (show(["i","j","web","some"]:List Str).Nodup from by decide+kernel) rfl (Or.inl rfl)) pgs_nil))) (fun _ _ _ _ _=>Fp (pt_val (pc G4 hr D4 (aj (pv 2) (aj (cR (iQ K) (pv 3) (pv 0) (fun _ _=>rfl)) (aj (cR (iQ K) (pv 3) (pv 1) (fun _ _=>rfl)) ak)))))) (fun _ _ _ _ _=>gH (aj (pv 0) (aj (pv 1) ak)))) (bB (bV (gH (aj (dF zB rfl mL uV (aj (pv 1) ak)) (aj (Fv JN rfl mT (by decide+kernel) (aj (pv 2) ak)) ak))))))),?_⟩
 have vh:=hA.h1
 have h10:=hok.len vh
 refine⟨_,rfl,_,_,rfl,hA.web.dv.dx,hA.ok,fun H1 s1=> ?_⟩
 obtain⟨ta,ra,a1,a2,a3⟩:=id (hA.same s1).web
 have YL:DX K H1 (.ref sm) (.tuple (xs.map PyData.int)):=(DV.tup (s1.tup hX) (bL.ints xs)).dx
 refine⟨_,rfl,_,rfl,a,n,_,_,_,rfl,a1,YL,hok.mD,fun H2 s2=> ?_⟩
 have s12:=s1.trans s2
 refine⟨_,rfl,sm,_,rfl,.inr (s12.tup hX),fun _=>⟨_,rfl,by omega,by rw[aQ];omega,fun l H3 s3 p1=> ?_⟩⟩
 rw[aQ]at p1
 obtain⟨rs,e1,v1⟩:=p1.ex
 refine⟨l,rs,rfl,SqL.of e1,fun hz=> ?_⟩
 have hlen:=v1.len
 rw[aQ]at hlen
 have RQ:=s12.trans s3
 generalize hR:rows tt (xs.length:Int) (xs.length:Int).toNat=R at *
 have hR':∀p∈R,0<=p.1/\p.1<p.2/\p.2<(xs.length:Int):=fun p hp=>by rw[<-hR,JL]at hp;exact⟨hp.1,hp.2.2.1,hp.2.2.2.1⟩
 refine MF (xs:=rs) (fun i acc σ H'=>Same H3 H'/\acc.length<=i/\bL K H' acc ((R.take i).filter (fun p=>so9 xs ts p.1 p.2)|>.map pairD)/\∃o1 o2,σ=[o1,o2,some (.ref a),some (.ref sm)]) ⟨Same.refl _,bx _,.nil,_,_,rfl⟩ (fun i acc σ H' _ p=>p.1.seq (SqL.of e1)) (fun i acc σ H' hi p=>p.2.1) hz (fun i x acc σ H' hx p=> ?_) (fun acc σ H' p=> ?_)
 ·obtain⟨sm',hl,hd,o1,o2,rfl⟩:=p
  obtain⟨t,hi,rfl,ht⟩:=gq v1 hx
  have sA:=RQ.trans sm'
  have hb:=hR' _ (yU hi)
  refine⟨t,_,rfl,sm'.tup ht,rfl,_,_,rfl,_,_,rfl,rfl,?_⟩
  refine⟨_,rfl,_,rfl,_,rfl,sm,_,_,_,rfl,rfl,sA.tup hX,JG hb.1 (by omega),_,rfl,_,rfl,sm,_,_,_,rfl,rfl,sA.tup hX,JG (by omega) hb.2.2,?_⟩
  refine⟨a,n,_,_,ts,rfl,(hA.same sA).web,fun H5 s5=>⟨_,rfl,?_⟩⟩
  rw[kW hi]
  refine ite2 (fun c=> ?_) (fun c=> ?_)
  ·refine⟨_,rfl,_,rfl,(by show 2<=sizeLine;decide),fun p hp=> ?_⟩
   have s6:=aR hp (.tup [.int (R[i]).1,.int (R[i]).2])
   refine⟨sm'.trans (s5.trans s6),by rw[iz];show acc.length+1<=i+1;omega,?_,_,_,rfl⟩
   rw[bD (show so9 xs ts _ _=true from c),bW]
   exact(hd.same (s5.trans s6)).append (.cons (.tup (SqT.of aM) (.cons (.int _) (.cons (.int _) .nil))) .nil)
  ·refine⟨sm'.trans s5,by omega,?_,_,_,rfl⟩
   rw[bC (show¬so9 xs ts _ _=true from c),uU]
   exact hd.same s5
 ·intro p1 hp1
  obtain⟨sm',hl,hd,_⟩:=p
  rw[hlen,ux,<-hR,gk]at hd
  have s5:=aR hp1 (.lst acc)
  have sA:=RQ.trans (sm'.trans s5)
  refine⟨_,rfl,sm,_,rfl,.inr (sA.tup hX),fun _=>⟨_,rfl,p1,_,rfl,.inl ⟨SqL.of aM,fun t ht=> ?_⟩⟩⟩
  have s6:=aR ht (.tup acc)
  refine⟨(by show 2<=sizeLine;decide),fun r hr'=> ?_⟩
  rw[aQ]
  have s7:=aR hr' (.tup [.int (xs.length:Int),.ref t])
  exact q r _ (sA.trans (s6.trans s7)) ⟨t,acc,SqT.of aM,SqT.of (s7 _ _ aM),hd.same (s5.trans (s6.trans s7))⟩
def Bc(K:W.Frag):Sp:=fun vs H Q _=>∃(a:Addr) (n:Int) (ts:List (Int×Int)),vs=[.ref a]/\bA K H a n ts/\∀r H',Same H H'->cF K H' r n (rows (RK ts) n n.toNat)->Q (.ref r) H'
theorem Od:FnScope ["web"] ["web"] (defScope Ub):=fsc
theorem O5{f f1 f3:Addr}{fd d1 d3:FuncData}(F:Fun K "other_web" "other_web" Ub f fd)(D1:aL K mg "need_web" yR ["thing"] f1 d1)(G1:FnOk P w K mg base CX0 7 f1 d1 ["thing"] (aZ K))(D3:aL K mg "pairs" cL ["n"] f3 d3)(G3:FnOk P w K mg base CX0 1 f3 d3 ["n"] (rR K))(mT:mg "tuple"=none):
  FnOk P w K mg base CX0 8 f fd ["web"] (Bc K):=by
 refine F.ok Od (fun vs H Q E h=> ?_) (fun cdv A outer s H vs Q E hr h=> ?_)
 ·obtain⟨a,n,ts,rfl,_⟩:=h
  rfl
 obtain⟨a,n,ts,rfl,hA,q⟩:=h
 refine⟨_,bh (jg (pc G1 hr D1 (aj (pv 0) ak))) (bB (bV (gH (aj (cR eZ (pv 0) aY (fun _ _=>rfl)) (aj (Fv JN rfl mT (by decide+kernel) (aj
   (lX (own:=["tie"]) (caps:=["web"]) (ix:=[0]) rfl (Mf (pc G3 hr D3 (aj (cR eZ (pv 0) aY (fun _ _=>rfl)) ak))) rfl rfl (.cons rfl rfl .nil) (fun _ _ _ _ _=>dD (i:=0) (show(["tie","web"]:List Str).Nodup from by decide+kernel) rfl (Or.inl rfl)) (fun _ _ _ _ _=>Fp (iW (iJ K hr.units) (pv 0) (cR (iQ K) (pv 1) aY (fun _ _=>rfl)) (by with_unfolding_all rfl))) (fun _ _ _ _ _=>pv 0)) ak)) ak))))),?_⟩
 refine⟨_,rfl,_,_,rfl,hA.web.dv.dx,hA.ok,fun H1 s1=> ?_⟩
 obtain⟨ta,ra,a1,a2,a3⟩:=id (hA.same s1).web
 have hA0:=hA.h0
 have vh:=hA.h1
 refine⟨_,rfl,a,_,_,.int n,rfl,rfl,a1,rfl,?_⟩
 refine⟨_,rfl,a,_,_,.int n,rfl,rfl,a1,rfl,n,rfl,hA0,vh,fun l H3 s3 p1=> ?_⟩
 obtain⟨rs,e1,v1⟩:=p1.ex
 refine⟨l,rs,rfl,SqL.of e1,fun hz=> ?_⟩
 have hlen:=v1.len
 rw[aQ]at hlen
 have RQ:=s1.trans s3
 refine MF (xs:=rs) (fun i acc σ H'=>Same H3 H'/\acc.length<=i/\bL K H' acc (((rows tt n n.toNat).take i).filter (fun p=>RK ts p.1 p.2)|>.map pairD)/\∃o,σ=[o,some (.ref a)]) ⟨Same.refl _,bx _,.nil,_,rfl⟩ (fun i acc σ H' _ p=>p.1.seq (SqL.of e1)) (fun i acc σ H' hi p=>p.2.1) hz (fun i x acc σ H' hx p=> ?_) (fun acc σ H' p=> ?_)
 ·obtain⟨sm,hl,hd,o,rfl⟩:=p
  obtain⟨t,hi,rfl,ht⟩:=gq v1 hx
  have sA:=s3.trans sm
  have hp:DV K H' (.ref t) (pairD (rows tt n n.toNat)[i]):= .tup (sm.tup ht) (.cons (.int _) (.cons (.int _) .nil))
  refine⟨_,rfl,_,rfl,a,_,_,.ref ta,rfl,rfl,sA.tup a1,rfl,ta,ra,_,_,rfl,.inr (sA.tup a2),a3.same sA,hp,lQ ts,rfl,(by show max 0 (max 0 0)+1<=60;decide),_,rfl,?_⟩
  rw[EY,kW hi]
  refine ite2 (fun c=> ?_) (fun c=> ?_)
  ·refine⟨_,rfl,sm,by rw[iz];show acc.length+1<=i+1;omega,?_,_,rfl⟩
   rw[bD (show RK ts (rows tt n n.toNat)[i].fst (rows tt n n.toNat)[i].snd=true from c),bW]
   exact hd.append (.cons hp .nil)
  ·refine⟨sm,by omega,?_,_,rfl⟩
   rw[bC (show¬RK ts (rows tt n n.toNat)[i].fst (rows tt n n.toNat)[i].snd=true from c),uU]
   exact hd
 ·intro p1 hp1
  obtain⟨sm,hl,hd,_⟩:=p
  rw[hlen,ux,gk]at hd
  have s5:=aR hp1 (.lst acc)
  refine⟨p1,_,rfl,.inl ⟨SqL.of aM,fun t ht=> ?_⟩⟩
  have s6:=aR ht (.tup acc)
  refine⟨(by show 2<=sizeLine;decide),fun r hr'=> ?_⟩
  have s7:=aR hr' (.tup [.int n,.ref t])
  exact q r _ (RQ.trans (sm.trans (s5.trans (s6.trans s7)))) ⟨t,acc,SqT.of aM,SqT.of (s7 _ _ aM),hd.same (s5.trans (s6.trans s7))⟩
def sh(b:Int)(p:Int×Int):Int×Int:=(p.1+b,p.2+b)
def Mz(n m:Int)(i:Nat):List (Int×Int):=((List.range i).map fun(t:Nat)=>(List.range m.toNat).map fun(k:Nat)=>((0+(t:Int)),n+(0+(k:Int)))).flatten
theorem rA(n m:Int)(i:Nat):Mz n m (i+1)=Mz n m i++(List.range m.toNat).map fun(k:Nat)=>((0+(i:Int)),n+(0+(k:Int))):=by
 unfold Mz
 rw[Ml,bW,List.flatten_append]
 simp
theorem JD(n m:Int):∀i:Nat,(Mz n m i).length=i*m.toNat
 |0=>by simp[Mz]
 |i+1=>by rw[rA,iz,JD n m i,aQ,Uv,XF]
theorem u9{n m:Int}{i:Nat}{p:Int×Int}:p∈Mz n m i↔0<=p.1/\p.1<(i:Int)/\n<=p.2/\p.2<n+(m.toNat:Int):=by
 induction i with
 |zero=>
  constructor
  ·intro h;simp[Mz]at h
  ·intro h;omega
 |succ i ih=>
  rw[rA,fj,ih,eE]
  constructor
  ·rintro(h|⟨k,hk,rfl⟩)
   ·exact⟨h.1,by omega,h.2.2⟩
   ·rw[uw]at hk
    exact⟨by show(0:Int)<=0+_;omega,by show(0:Int)+_<_;omega,by show n<=n+(0+_);omega,by show n+(0+_)<_;omega⟩
  ·rintro⟨h1,h2,h3,h4⟩
   by_cases e:p.1<(i:Int)
   ·exact .inl ⟨h1,e,h3,h4⟩
   ·refine .inr ⟨(p.2-n).toNat,by rw[uw];omega,?_⟩
    apply Ms
    ·show(0:Int)+(i:Int)=p.1;omega
    ·show n+(0+(((p.2-n).toNat:Nat):Int))=p.2;omega
theorem yD(n m:Int):∀i:Nat,(Mz n m i).Pairwise gQ
 |0=>by unfold Mz;exact List.Pairwise.nil
 |i+1=>by
  rw[rA,Xp]
  refine⟨yD n m i,?_,fun p hp q hq=> ?_⟩
  ·rw[Iz]
   exact Xr.imp fun h=> .inr ⟨rfl,by show n+(0+_)<n+(0+_);omega⟩
  ·rw[u9]at hp
   rw[eE]at hq
   obtain⟨k,_,rfl⟩:=hq
   exact .inl (by show p.1<0+(i:Int);omega)
theorem zT{b:Int}{ts:List (Int×Int)}(h:ts.Pairwise gQ):(ts.map (sh b)).Pairwise gQ:=by
 rw[Iz]
 refine h.imp fun h=> ?_
 unfold gQ sh at *
 omega
theorem Hu{b:Int}{ts:List (Int×Int)}{p:Int×Int}:p∈ts.map (sh b)↔(p.1-b,p.2-b)∈ts:=by
 rw[eE]
 constructor
 ·rintro⟨q,hq,rfl⟩
  have e:(q.1+b-b,q.2+b-b)=q:=Ms (by show q.1+b-b=q.1;omega) (by show q.2+b-b=q.2;omega)
  show(q.1+b-b,q.2+b-b)∈ts
  rw[e];exact hq
 ·intro h
  exact⟨_,h,Ms (by show p.1-b+b=p.1;omega) (by show p.2-b+b=p.2;omega)⟩
def Bd(K:W.Frag):Sp:=fun vs H Q _=>∃(a:Addr) (n b:Int) (ts:List (Int×Int)),vs=[.ref a,.int b]/\cF K H a n ts/\∀l H',Same H H'->LK K H' l (ts.map (sh b))->H l=none->Q (.ref l) H'
theorem Og:FnScope ["web","by"] ["web","by"] (defScope Ri):=fsc
theorem O7{f:Addr}{fd:FuncData}(F:Fun K "moved_ties" "moved_ties" Ri f fd):FnOk P w K mg base CX0 1 f fd ["web","by"] (Bd K):=by
 refine F.ok Og (fun vs H Q E h=> ?_) (fun cdv A outer s H vs Q E hr h=> ?_)
 ·obtain⟨a,n,b,ts,rfl,_⟩:=h
  rfl
 obtain⟨a,n,b,ts,rfl,hW,q⟩:=h
 refine⟨_,bB (bV (lX (own:=["one","other"]) (caps:=["by"]) (ix:=[1]) rfl (dI (cR eZ (pv 0) aY (fun _ _=>rfl))) rfl rfl (.cons rfl rfl .nil) (fun _ _ _ _ _=>eN K (n:=2) rfl (zA (dD (i:=0) (show(["one","other","by"]:List Str).Nodup from by decide+kernel) rfl (Or.inl rfl)) (zA (dD (i:=1) (show(["one","other","by"]:List Str).Nodup from by decide+kernel) rfl (Or.inl rfl)) pgs_nil))) (fun _ _ _ _ _=>zy) (fun _ _ _ _ _=>gH (aj (fQ op_add (pv 0) (pv 2)) (aj (fQ op_add (pv 1) (pv 2)) ak))))),?_⟩
 obtain⟨t,rs,h1,h2,h3⟩:=hW
 refine⟨_,rfl,a,_,_,.ref t,rfl,rfl,h1,rfl,t,rs,rfl,h2,fun hz=> ?_⟩
 have hlen:=h3.len
 rw[aQ]at hlen
 refine cZ (xs:=rs) (fun i acc σ H'=>Same H H'/\acc.length=i/\bL K H' acc (((ts.take i).map (sh b)).map pairD)/\∃o1 o2,σ=[o1,o2,some (.int b)]) ⟨Same.refl _,rfl,.nil,_,_,rfl⟩ (fun i acc σ H' _ p=>p.1.tup h2) (fun i acc σ H' hi p=>by rw[p.2.1];exact bx _) hz (fun i x acc σ H' hx p=> ?_) (fun acc σ H' p=> ?_)
 ·obtain⟨sm,hl,hd,o1,o2,rfl⟩:=p
  have hi:i<ts.length:=by rw[<-hlen];exact(Aq.mp hx).1
  obtain⟨x',d,e1,e2,e3⟩:=bL.get' (i:=i) h3 (by rw[aQ];exact hi)
  rw[hx]at e1;cases e1
  rw[gw,iY hi]at e2
  cases e2
  cases e3 with
  |tup hp tp=>
   cases tp with
   |cons ta tb=>
    cases tb with
    |cons tc td=>
     cases td
     cases ta
     cases tc
     refine⟨_,_,rfl,sm.tup hp,rfl,_,_,rfl,_,_,rfl,rfl,?_⟩
     refine⟨_,rfl,_,rfl,_,_,rfl,rfl,_,rfl,_,rfl,_,_,rfl,rfl,(by show 2<=sizeLine;decide),fun p hp'=> ?_⟩
     have s2:=aR hp' (.tup [.int (ts[i].1+b),.int (ts[i].2+b)])
     refine⟨sm.trans s2,by rw[iz,hl];rfl,?_,_,_,rfl⟩
     rw[Ao,iY hi]
     simp only[wdz,bW]
     refine(hd.same s2).append (.cons (.tup (SqT.of aM) (.cons (.int _) (.cons (.int _) .nil))) .nil)
 ·intro p1 hp1
  obtain⟨sm,hl,hd,_⟩:=p
  rw[hlen,ux]at hd
  have s2:=aR hp1 (.lst acc)
  exact q p1 _ (sm.trans s2) ⟨acc,aM,hd.same s2⟩ (sm.free hp1)
def zN(K:W.Frag):Sp:=fun vs H Q _=>∃(n m:Int),vs=[.int n,.int m]/\0<=n/\n<=10/\0<=m/\m<=10/\∀l H',Same H H'->LK K H' l (Mz n m n.toNat)->Q (.ref l) H'
theorem nM:FnScope ["n","m","ties","place"] ["n","m"] (defScope Uh):=fsc
theorem Hi{f:Addr}{fd:FuncData}(F:Fun K "ties_between" "ties_between" Uh f fd)(mR:mg "range"=none):FnOk P w K mg base CX0 1 f fd ["n","m"] (zN K):=by
 refine F.ok nM (fun vs H Q E h=> ?_) (fun cdv A outer s H vs Q E hr h=> ?_)
 ·obtain⟨n,m,rfl,_⟩:=h
  rfl
 obtain⟨n,m,rfl,hn0,hn1,hm0,hm1,q⟩:=h
 refine⟨_,bh (gG (i:=2) nM.nd rfl (Or.inl rfl) (pe_lst ak)) (bh (ps_for Mv rfl (Fq rfl mR (aj (pv 0) ak)) (dD (i:=3) nM.nd rfl (Or.inr rfl)) (bB (jg (pe_bm Ry X8 X7 mt_extend (pv 2) (aj
    (lX (own:=["k"]) (caps:=["place","n"]) (ix:=[3,0]) rfl (Fq rfl mR (aj (pv 1) ak)) rfl rfl (.cons rfl rfl (.cons rfl rfl .nil)) (fun _ _ _ _ _=>dD (i:=0) (show(["k","place","n"]:List Str).Nodup from by decide+kernel) rfl (Or.inl rfl)) (fun _ _ _ _ _=>zy) (fun _ _ _ _ _=>gH (aj (pv 1) (aj (fQ op_add (pv 2) (pv 0)) ak)))) ak))))) (bB (bV (pv 2)))),?_⟩
 refine⟨(by show 0<=sizeLine;decide),fun l hl=> ?_⟩
 refine⟨_,rfl,n,rfl,by omega,by omega,?_⟩
 refine for_range (n:=n.toNat) (fun i σ H'=>Same H H'/\(∃rs,H' l=some (.lst rs)/\bL K H' rs ((Mz n m i).map pairD))/\∃o,σ=[some (.int n),some (.int m),some (.ref l),o]) ⟨aR hl _,⟨[],aM,.nil⟩,_,rfl⟩ (fun i σ H' hi p=> ?_) (fun σ H' p=> ?_)
 ·obtain⟨sm,⟨rs,hr1,hr2⟩,o,rfl⟩:=p
  have hlen:=hr2.len
  rw[aQ,JD]at hlen
  refine⟨_,rfl,.inl ⟨rfl,_,SqL.of hr1⟩,_,rfl,m,rfl,by omega,by omega,?_⟩
  refine JM (n:=m.toNat) (fun k acc σ H2=>Same H' H2/\acc.length=k/\bL K H2 acc (((List.range k).map fun(k:Nat)=>((0+(i:Int)),n+(0+(k:Int)))).map pairD)/\∃o1,σ=[o1,some (.int (0+(i:Int))),some (.int n)]) ⟨Same.refl _,rfl,.nil,_,rfl⟩ (fun k acc σ H2 hk p=>by rw[p.2.1];exact bx _) (by rw[eF];omega) (fun k acc σ H2 hk p=> ?_) (fun acc σ H2 p=> ?_)
  ·obtain⟨s2,hl2,hd,o1,rfl⟩:=p
   refine⟨_,rfl,_,rfl,_,rfl,_,_,rfl,rfl,(by show 2<=sizeLine;decide),fun p hp=> ?_⟩
   have s3:=aR hp (.tup [.int (0+(i:Int)),.int (n+(0+(k:Int)))])
   refine⟨s2.trans s3,by rw[iz,hl2];rfl,?_,_,rfl⟩
   rw[Ml,bW,bW]
   exact(hd.same s3).append (.cons (.tup (SqT.of aM) (.cons (.int _) (.cons (.int _) .nil))) .nil)
  ·intro p1 hp1
   obtain⟨s2,hl2,hd,_⟩:=p
   have s3:=aR hp1 (.lst acc)
   have YC:=s3 _ _ (s2 _ _ hr1)
   refine⟨l,p1,rs,acc,rfl,rfl,YC,aM,?_,?_⟩
   ·have h1:i*m.toNat<=10*10:=Nat.mul_le_mul (by omega) (by omega)
    rw[eF];omega
   ·-- the list itself changes
    have hne:p1≠l:=fun e=>by rw[e]at hp1;rw[s2 _ _ hr1]at hp1;cases hp1
    have x4:dG l (upd H2 p1 (.lst acc)) (upd (upd H2 p1 (.lst acc)) l (.lst (rs++acc))):=(dG.refl _ _).upd
    refine⟨?_,⟨_,aM,?_⟩,_,rfl⟩
    ·intro b o hb
     have nb:b≠l:=fun e=>by rw[e,hl]at hb;cases hb
     exact x4 _ _ nb (s3 _ _ (s2 _ _ (sm _ _ hb)))
    ·rw[rA]
     exact jt x4 YC (by rw[bW];exact((hr2.same s2).same s3).append (hd.same s3))
 ·obtain⟨sm,⟨rs,hr1,hr2⟩,o,rfl⟩:=p
  exact⟨_,rfl,q l _ sm ⟨rs,hr1,hr2⟩⟩
def Ve(n1:Int)(t1 t2:List (Int×Int)):List (Int×Int):=t1.map (sh 0)++t2.map (sh n1)
def Vf(n1 n2:Int)(t1 t2:List (Int×Int)):List (Int×Int):=Ve n1 t1 t2++Mz n1 n2 n1.toNat
def so7(n1:Int)(t1 t2:List (Int×Int))(tied:Bool)(i j:Int):Bool:=if j<n1 then decide ((i,j)∈t1)else if n1<=i then decide ((i-n1,j-n1)∈t2)else tied
theorem Js{n1:Int}{t1 t2:List (Int×Int)}{p:Int×Int}:p∈Ve n1 t1 t2↔p∈t1\/(p.1-n1,p.2-n1)∈t2:=by
 unfold Ve
 rw[fj,Hu,Hu]
 have e:(p.1-0,p.2-0)=p:=Ms (by show p.1-0=p.1;omega) (by show p.2-0=p.2;omega)
 rw[e]
theorem Ih{n1 n2:Int}{t1 t2:List (Int×Int)}(h1:aG n1 t1)(h2:aG n2 t2)(s1:t1.Pairwise gQ)(s2:t2.Pairwise gQ):(Ve n1 t1 t2).Pairwise gQ:=by
 unfold Ve
 rw[Xp]
 refine⟨zT s1,zT s2,fun p hp q hq=> ?_⟩
 rw[Hu]at hp hq
 have a:=h1.lt _ hp
 have b:=h2.lt _ hq
 exact .inl (by have a1:p.1-0<p.2-0:=a.2.1;have a2:p.2-0<n1:=a.2.2;have b1:0<=q.1-n1:=b.1;omega)
theorem QC{n1 n2:Int}{t1 t2:List (Int×Int)}(h1:aG n1 t1)(h2:aG n2 t2)(hn1:0<=n1)(hn2:0<=n2):∀p∈Ve n1 t1 t2,0<=p.1/\p.1<p.2/\p.2<n1+n2/\(p.2<n1\/n1<=p.1):=by
 intro p hp
 rw[Js]at hp
 rcases hp with hp|hp
 ·have a:=h1.lt _ hp
  omega
 ·obtain⟨b1,b2,b3⟩:=h2.lt _ hp
  have b1':0<=p.1-n1:=b1
  have b2':p.1-n1<p.2-n1:=b2
  have b3':p.2-n1<n2:=b3
  omega
theorem QJ{n1 n2:Int}{t1 t2:List (Int×Int)}(h1:aG n1 t1)(h2:aG n2 t2)(hn1:0<=n1)(hn2:0<=n2)(s1:t1.Pairwise gQ)(s2:t2.Pairwise gQ):aG (n1+n2) (Vf n1 n2 t1 t2):=by
 unfold Vf
 refine⟨JQ.mpr ⟨lK (Ih h1 h2 s1 s2),lK (yD _ _ _),fun p hp q hq e=> ?_⟩,fun p hp=> ?_⟩
 ·subst e
  have a:=QC h1 h2 hn1 hn2 p hp
  rw[u9]at hq
  omega
 ·rw[fj]at hp
  rcases hp with hp|hp
  ·have a:=QC h1 h2 hn1 hn2 p hp
   exact⟨a.1,a.2.1,a.2.2.1⟩
  ·rw[u9]at hp
   omega
theorem acr_eq{n1 n2:Int}{t1 t2 ts:List (Int×Int)}(h1:aG n1 t1)(h2:aG n2 t2)(hn1:0<=n1)(hn2:0<=n2)(s1:t1.Pairwise gQ)(s2:t2.Pairwise gQ)(hp:ts.Perm (Vf n1 n2 t1 t2))(hs:ts.Pairwise fun p q=>HT.lexLt (pl q) (pl p)=false):
  ts=rows (so7 n1 t1 t2 true) (n1+n2) (n1+n2).toNat:=by
 have hok:=QJ h1 h2 hn1 hn2 s1 s2
 refine rows_eq (by omega) (vQ hs (hp.nodup_iff.mpr hok.nd)) fun p=> ?_
 rw[hp.mem_iff]
 unfold Vf
 rw[fj,Js,u9]
 unfold so7
 constructor
 ·rintro((h|h)|h)
  ·have a:=h1.lt _ h
   refine⟨a.1,a.2.1,by omega,?_⟩
   rw[bD a.2.2]
   exact cJ h
  ·obtain⟨b1,b2,b3⟩:=h2.lt _ h
   have b1':0<=p.1-n1:=b1
   have b2':p.1-n1<p.2-n1:=b2
   have b3':p.2-n1<n2:=b3
   refine⟨by omega,by omega,by omega,?_⟩
   rw[bC (by omega),bD (by omega)]
   exact cJ h
  ·refine⟨by omega,by omega,by omega,?_⟩
   rw[bC (by omega),bC (by omega)]
 ·rintro⟨a1,a2,a3,a4⟩
  split at a4
  ·exact .inl (.inl (yZ a4))
  ·split at a4
   ·exact .inl (.inr (yZ a4))
   ·exact .inr (by omega)
def qC(K:W.Frag):Sp:=fun vs H Q _=>∃(a b:Addr) (n1 n2:Int) (t1 t2:List (Int×Int)),vs=[.ref a,.ref b]/\cF K H a n1 t1/\cF K H b n2 t2/\mV n1 t1/\mV n2 t2/\t1.length<=45/\t2.length<=45/\n1+n2<=10/\∀r H',Same H H'->cF K H' r (n1+n2) (Ve n1 t1 t2)->Q (.ref r) H'
theorem zX:FnScope ["one","other","n"] ["one","other"] (defScope cW):=fsc
theorem KY{f f1 f2 f3:Addr}{fd d1 d2 d3:FuncData}(F:Fun K "beside" "beside" cW f fd)(D1:aL K mg "need_web" yR ["thing"] f1 d1)(G1:FnOk P w K mg base CX0 7 f1 d1 ["thing"] (aZ K))(D2:aL K mg "need_few" MJ ["n"] f2 d2)(G2:FnOk P w K mg base CX0 1 f2 d2 ["n"] (gK K))(D3:aL K mg "moved_ties" Ri ["web","by"] f3 d3)(G3:FnOk P w K mg base CX0 1 f3 d3 ["web","by"] (Bd K))(mT:mg "tuple"=none):
  FnOk P w K mg base CX0 8 f fd ["one","other"] (qC K):=by
 refine F.ok zX (fun vs H Q E h=> ?_) (fun cdv A outer s H vs Q E hr h=> ?_)
 ·obtain⟨a,b,n1,n2,t1,t2,rfl,_⟩:=h
  rfl
 obtain⟨a,b,n1,n2,t1,t2,rfl,hA,hB,oA,oB,lA,lB,hn,q⟩:=h
 refine⟨_,bh (jg (pc G1 hr D1 (aj (pv 0) ak))) (bh (jg (pc G1 hr D1 (aj (pv 1) ak))) (bh (gG (i:=2) zX.nd rfl (Or.inl rfl) (fQ op_add (cR eZ (pv 0) aY (fun _ _=>rfl)) (cR eZ (pv 1) aY (fun _ _=>rfl)))) (bh (jg (pc G2 hr D2 (aj (pv 2) ak))) (bB (bV (gH (aj (pv 2) (aj (Fv JN rfl mT (by decide+kernel) (aj (fQ op_cat
   (pc G3 hr D3 (aj (pv 0) (aj aY ak)))
   (pc G3 hr D3 (aj (pv 1) (aj (cR eZ (pv 0) aY (fun _ _=>rfl)) ak)))) ak)) ak)))))))),?_⟩
 refine⟨_,rfl,_,_,rfl,hA.dv.dx,oA,fun H1 s1=> ?_⟩
 refine⟨_,rfl,_,_,rfl,(hB.same s1).dv.dx,oB,fun H2 s2=> ?_⟩
 have s12:=s1.trans s2
 obtain⟨ta,ra,a1,a2,a3⟩:=id (hA.same s12)
 obtain⟨tb,rb,b1,b2,b3⟩:=id (hB.same s12)
 refine⟨_,rfl,a,_,_,.int n1,rfl,rfl,a1,rfl,_,rfl,b,_,_,.int n2,rfl,rfl,b1,rfl,_,_,rfl,rfl,?_⟩
 refine⟨_,rfl,n1+n2,rfl,hn,?_⟩
 refine⟨_,rfl,_,rfl,a,n1,0,t1,rfl,hA.same s12,fun l1 H3 s3 p1 _=> ?_⟩
 refine⟨_,rfl,_,rfl,a,_,_,.int n1,rfl,rfl,s3.tup a1,rfl,b,n2,n1,t2,rfl,(hB.same s12).same s3,fun l2 H4 s4 p2 _=> ?_⟩
 obtain⟨r1,e1,v1⟩:=(p1.same s4).ex
 obtain⟨r2,e2,v2⟩:=p2.ex
 have hl1:=v1.len
 have hl2:=v2.len
 simp only[aQ]at hl1 hl2
 refine⟨l1,l2,r1,r2,rfl,rfl,e1,e2,by rw[eF];omega,fun p hp=> ?_⟩
 have s5:=aR hp (.lst (r1++r2))
 refine⟨p,_,rfl,.inl ⟨SqL.of aM,fun t ht=> ?_⟩⟩
 have s6:=aR ht (.tup (r1++r2))
 refine⟨(by show 2<=sizeLine;decide),fun r hr'=> ?_⟩
 have s7:=aR hr' (.tup [.int (n1+n2),.ref t])
 refine q r _ (s12.trans (s3.trans (s4.trans (s5.trans (s6.trans s7))))) ⟨t,r1++r2,SqT.of aM,SqT.of (s7 _ _ aM),?_⟩
 unfold Ve
 rw[bW]
 exact((v1.append v2).same s5).same (s6.trans s7)
def Df(K:W.Frag):Sp:=fun vs H Q _=>∃(a b:Addr) (n1 n2:Int) (t1 t2:List (Int×Int)),vs=[.ref a,.ref b]/\cF K H a n1 t1/\cF K H b n2 t2/\mV n1 t1/\mV n2 t2/\aG n1 t1/\aG n2 t2/\0<=n1/\0<=n2/\n1+n2<=10/\∀r H',Same H H'->cF K H' r (n1+n2) (rows (so7 n1 t1 t2 true) (n1+n2) (n1+n2).toNat)->Q (.ref r) H'
theorem zY:FnScope ["one","other","web"] ["one","other"] (defScope dO):=fsc
theorem KZ{f f1 f2:Addr}{fd d1 d2:FuncData}(F:Fun K "across" "across" dO f fd)(D1:aL K mg "beside" cW ["one","other"] f1 d1)(G1:FnOk P w K mg base CX0 8 f1 d1 ["one","other"] (qC K))(D2:aL K mg "ties_between" Uh ["n","m"] f2 d2)(G2:FnOk P w K mg base CX0 1 f2 d2 ["n","m"] (zN K))(mT:mg "tuple"=none)(mS:mg "sorted"=none)(mLi:mg "list"=none):
  FnOk P w K mg base CX0 9 f fd ["one","other"] (Df K):=by
 refine F.ok zY (fun vs H Q E h=> ?_) (fun cdv A outer s H vs Q E hr h=> ?_)
 ·obtain⟨a,b,n1,n2,t1,t2,rfl,_⟩:=h
  rfl
 obtain⟨a,b,n1,n2,t1,t2,rfl,hA,hB,oA,oB,kA,kB,hn1,hn2,hn,q⟩:=h
 refine⟨_,bh (gG (i:=2) zY.nd rfl (Or.inl rfl) (pc G1 hr D1 (aj (pv 0) (aj (pv 1) ak)))) (bB (bV (gH (aj (cR eZ (pv 2) aY (fun _ _=>rfl)) (aj (Fv JN rfl mT (by decide+kernel) (aj (dF eU rfl mS (by decide+kernel) (aj (fQ op_cat
   (Fv call_list_of rfl mLi (by decide+kernel) (aj (cR eZ (pv 2) aY (fun _ _=>rfl)) ak))
   (pc G2 hr D2 (aj (cR eZ (pv 0) aY (fun _ _=>rfl)) (aj (cR eZ (pv 1) aY (fun _ _=>rfl)) ak)))) ak)) ak)) ak))))),?_⟩
 refine⟨_,rfl,_,rfl,a,b,n1,n2,t1,t2,rfl,hA,hB,oA,oB,pairs_len kA (by omega),pairs_len kB (by omega),hn,fun wb H1 s1 hW=> ?_⟩
 obtain⟨t,rs,w1,w2,w3⟩:=hW
 obtain⟨ta,ra,a1,a2,a3⟩:=id (hA.same s1)
 obtain⟨tb,rb,b1,b2,b3⟩:=id (hB.same s1)
 refine⟨_,rfl,wb,_,_,.int (n1+n2),rfl,rfl,w1,rfl,?_⟩
 refine⟨_,rfl,wb,_,_,.ref t,rfl,rfl,w1,rfl,t,rs,rfl,.inr w2,fun l1 hl1=> ?_⟩
 have s2:=aR hl1 (.lst rs)
 refine⟨_,rfl,a,_,_,.int n1,rfl,rfl,s2.tup a1,rfl,_,rfl,b,_,_,.int n2,rfl,rfl,s2.tup b1,rfl,n1,n2,rfl,hn1,by omega,hn2,by omega,fun l2 H3 s3 p2=> ?_⟩
 obtain⟨r2,e2,v2⟩:=p2.ex
 have g1:=w3.len
 have g2:=v2.len
 have v1:=(w3.same s2).same s3
 have v12:bL K H3 (rs++r2) ((Vf n1 n2 t1 t2).map pairD):=by
  unfold Vf
  rw[bW]
  exact v1.append v2
 have hok:=QJ kA kB hn1 hn2 (iB oA) (iB oB)
 have h45:=pairs_len hok hn
 have g3:=v12.len
 rw[iz,aQ]at g3
 refine⟨l1,l2,rs,r2,rfl,rfl,s3 _ _ aM,e2,by rw[eF];omega,fun p hp=> ?_⟩
 have s4:=aR hp (.lst (rs++r2))
 obtain⟨its,i1,i2,i3⟩:=Ed (v12.same s4)
 refine⟨p,its.map (fun p=>(p.1,pl p.2)),rfl,?_,?_,?_,fun l its' hl hperm j6=> ?_⟩
 ·rw[CJ]
  have:(its.map ((fun(p:Addr×List Int)=>V.ref p.1)∘fun p=>(p.1,pl p.2)))=rs++r2:=i1.symm
  rw[this]
  exact SqL.of aM
 ·intro p hp
  rw[eE]at hp
  obtain⟨q',hq',rfl⟩:=hp
  exact⟨i3 _ hq',by simp[pl]⟩
 ·have:its.length=(Vf n1 n2 t1 t2).length:=by rw[<-i2,aQ]
  rw[aQ];omega
 ·-- back to pairs
  have s5:=aR hl (.lst (its'.map fun p=>V.ref p.1))
  obtain⟨jts,j1,j2⟩:∃jts:List (Addr×(Int×Int)),its'=jts.map (fun p=>(p.1,pl p.2))/\jts.Perm its:=by
   have hh:∀x∈its',∃y∈its,x=(y.1,pl y.2):=fun x hx=>by
    obtain⟨y,hy,e⟩:=eE.mp (hperm.mem_iff.mp hx)
    exact⟨y,hy,e.symm⟩
   let back:Addr×List Int->Addr×(Int×Int):=fun x=>(x.1,(x.2.getD 0 0,x.2.getD 1 0))
   have hb:∀y:Addr×(Int×Int),back (y.1,pl y.2)=y:=fun y=>rfl
   refine⟨its'.map back,?_,?_⟩
   ·rw[CJ]
    refine(WD its').symm.trans (Ww fun x hx=> ?_)
    obtain⟨y,_,rfl⟩:=hh x hx
    rfl
   ·have:=hperm.map back
    rw[CJ]at this
    have e:its.map (back∘fun p=>(p.1,pl p.2))=its:=by
     refine(Ww fun x _=> ?_).trans (WD its)
     rfl
    rw[e]at this
    exact this
  have hp2:(jts.map (·.2)).Perm (Vf n1 n2 t1 t2):=by rw[<-i2];exact j2.map _
  have hs2:(jts.map (·.2)).Pairwise fun p q=>HT.lexLt (pl q) (pl p)=false:=by
   rw[j1,Iz]at j6
   rw[Iz]
   exact j6
  have e:=acr_eq kA kB hn1 hn2 (iB oA) (iB oB) hp2 hs2
  have items:∀y∈jts,SqT K (upd H3 p (.lst (rs++r2))) y.1 ((pl y.2).map V.int):=fun y hy=>i3 _ (j2.mem_iff.mp hy)
  have ev:its'.map (fun p=>V.ref p.1)=jts.map fun p=>V.ref p.1:=by rw[j1,CJ];rfl
  refine⟨l,_,rfl,.inl ⟨SqL.of aM,fun t' ht'=> ?_⟩⟩
  have s6:=aR ht' (.tup (its'.map fun p=>V.ref p.1))
  refine⟨(by show 2<=sizeLine;decide),fun r hr'=> ?_⟩
  have s7:=aR hr' (.tup [.int (n1+n2),.ref t'])
  refine q r _ (s1.trans (s2.trans (s3.trans (s4.trans (s5.trans (s6.trans s7)))))) ⟨t',its'.map (fun p=>V.ref p.1),SqT.of aM,SqT.of (s7 _ _ aM),?_⟩
  rw[<-e]
  have z:=((wj jts items).same s5).same (s6.trans s7)
  rw[<-ev]at z
  exact z
def Yd(m:Int)(t1 t2:List (Int×Int))(i j:Int):Bool:=if i/m=j/m then aU t2 (i %m) (j %m)else aU t1 (i/m) (j/m)
def Jb(K:W.Frag):Sp:=fun vs H Q _=>∃(a b t:Addr) (n1 n2 i j:Int) (t1 t2:List (Int×Int)),vs=[.ref a,.ref b,.ref t]/\cF K H a n1 t1/\cF K H b n2 t2/\0<n2/\n2<=10/\SqT K H t [.int i,.int j]/\∀H',Same H H'->Q (.bl (Yd n2 t1 t2 i j)) H'
theorem qG:FnScope ["one","other","tie","m","i","j"] ["one","other","tie"] (defScope Uj):=fsc
theorem OD{f f1:Addr}{fd d1:FuncData}(F:Fun K "is_tie_within" "is_tie_within" Uj f fd)(D1:aL K mg "has_tie" Fw ["web","one","other"] f1 d1)(G1:FnOk P w K mg base CX0 1 f1 d1 ["web","one","other"] (qz K)):
  FnOk P w K mg base CX0 2 f fd ["one","other","tie"] (Jb K):=by
 refine F.ok qG (fun vs H Q E h=> ?_) (fun cdv A outer s H vs Q E hr h=> ?_)
 ·obtain⟨a,b,t,n1,n2,i,j,t1,t2,rfl,_⟩:=h
  rfl
 obtain⟨a,b,t,n1,n2,i,j,t1,t2,rfl,hA,hB,hn,hn',ht,q⟩:=h
 refine⟨_,bh (gG (i:=3) qG.nd rfl (Or.inl rfl) (cR eZ (pv 1) aY (fun _ _=>rfl))) (bh (gG (i:=4) qG.nd rfl (Or.inl rfl) (fQ Dy (cR eZ (pv 2) aY (fun _ _=>rfl)) (pv 3))) (bh (gG (i:=5) qG.nd rfl (Or.inl rfl) (fQ Dy (cR eZ (pv 2) aY (fun _ _=>rfl)) (pv 3))) (bh (ps_if (iW op_eq (pv 4) (pv 5) (nomark _)) (bB (bV (pc G1 hr D1 (aj (pv 1) (aj (fQ op_mod (cR eZ (pv 2) aY (fun _ _=>rfl)) (pv 3)) (aj (fQ op_mod (cR eZ (pv 2) aY (fun _ _=>rfl)) (pv 3)) ak)))))) ur) (bB (bV (pc G1 hr D1 (aj (pv 0) (aj (pv 4) (aj (pv 5) ak))))))))),?_⟩
 obtain⟨tb,rb,b1,b2,b3⟩:=id hB
 refine⟨_,rfl,b,_,_,.int n2,rfl,rfl,b1,rfl,?_⟩
 refine⟨_,rfl,t,_,_,.int i,rfl,rfl,ht,rfl,_,rfl,_,_,rfl,rfl,⟨hn,by omega⟩,?_⟩
 refine⟨_,rfl,t,_,_,.int j,rfl,rfl,ht,rfl,_,rfl,_,_,rfl,rfl,⟨hn,by omega⟩,?_⟩
 refine⟨_,rfl,_,rfl,rfl,_,rfl,?_⟩
 refine ite2 (fun c=> ?_) (fun c=> ?_)
 ·have e:i/n2=j/n2:=by have:=yZ c;injection this
  refine⟨_,rfl,_,rfl,t,_,_,.int i,rfl,rfl,ht,rfl,_,rfl,_,_,rfl,rfl,hn,_,rfl,t,_,_,.int j,rfl,rfl,ht,rfl,_,rfl,_,_,rfl,rfl,hn,?_⟩
  refine⟨b,n2,_,_,t2,rfl,hB,fun H' sm=> ?_⟩
  have:=q H' sm
  unfold Yd at this
  rw[bD e]at this
  exact this
 ·have e:¬(i/n2=j/n2):=fun z=>c (cJ (rH V.int z))
  refine⟨_,rfl,_,rfl,_,rfl,a,n1,_,_,t1,rfl,hA,fun H' sm=> ?_⟩
  have:=q H' sm
  unfold Yd at this
  rw[bC e]at this
  exact this
def vJ(K:W.Frag):Sp:=fun vs H Q _=>∃(a b:Addr) (n1 n2:Int) (t1 t2:List (Int×Int)),vs=[.ref a,.ref b]/\bA K H a n1 t1/\bA K H b n2 t2/\n1*n2<=10/\∀r H',Same H H'->cF K H' r (n1*n2) (rows (Yd n2 t1 t2) (n1*n2) (n1*n2).toNat)->Q (.ref r) H'
theorem zU:FnScope ["one","other","n"] ["one","other"] (defScope dN):=fsc
theorem Ks{f f1 f2 f3 f4:Addr}{fd d1 d2 d3 d4:FuncData}(F:Fun K "within" "within" dN f fd)(D1:aL K mg "need_web" yR ["thing"] f1 d1)(G1:FnOk P w K mg base CX0 7 f1 d1 ["thing"] (aZ K))(D2:aL K mg "need_few" MJ ["n"] f2 d2)(G2:FnOk P w K mg base CX0 1 f2 d2 ["n"] (gK K))(D3:aL K mg "pairs" cL ["n"] f3 d3)(G3:FnOk P w K mg base CX0 1 f3 d3 ["n"] (rR K))(D4:aL K mg "is_tie_within" Uj ["one","other","tie"] f4 d4)(G4:FnOk P w K mg base CX0 2 f4 d4 ["one","other","tie"] (Jb K))(mT:mg "tuple"=none):
  FnOk P w K mg base CX0 8 f fd ["one","other"] (vJ K):=by
 refine F.ok zU (fun vs H Q E h=> ?_) (fun cdv A outer s H vs Q E hr h=> ?_)
 ·obtain⟨a,b,n1,n2,t1,t2,rfl,_⟩:=h
  rfl
 obtain⟨a,b,n1,n2,t1,t2,rfl,hA,hB,hn,q⟩:=h
 refine⟨_,bh (jg (pc G1 hr D1 (aj (pv 0) ak))) (bh (jg (pc G1 hr D1 (aj (pv 1) ak))) (bh (gG (i:=2) zU.nd rfl (Or.inl rfl) (fQ op_mul (cR eZ (pv 0) aY (fun _ _=>rfl)) (cR eZ (pv 1) aY (fun _ _=>rfl)))) (bh (jg (pc G2 hr D2 (aj (pv 2) ak))) (bB (bV (gH (aj (pv 2) (aj (Fv JN rfl mT (by decide+kernel) (aj
   (lX (own:=["tie"]) (caps:=["one","other"]) (ix:=[0,1]) rfl (Mf (pc G3 hr D3 (aj (pv 2) ak))) rfl rfl (.cons rfl rfl (.cons rfl rfl .nil)) (fun _ _ _ _ _=>dD (i:=0) (show(["tie","one","other"]:List Str).Nodup from by decide+kernel) rfl (Or.inl rfl)) (fun _ _ _ _ _=>Fp (pt_val (pc G4 hr D4 (aj (pv 1) (aj (pv 2) (aj (pv 0) ak)))))) (fun _ _ _ _ _=>pv 0)) ak)) ak)))))))),?_⟩
 refine⟨_,rfl,_,_,rfl,hA.web.dv.dx,hA.ok,fun H1 s1=> ?_⟩
 refine⟨_,rfl,_,_,rfl,(hB.same s1).web.dv.dx,hB.ok,fun H2 s2=> ?_⟩
 have s12:=s1.trans s2
 obtain⟨ta,ra,a1,a2,a3⟩:=id (hA.same s12).web
 obtain⟨tb,rb,b1,b2,b3⟩:=id (hB.same s12).web
 have hA0:=hA.h0
 have vh:=hA.h1
 have hB0:=hB.h0
 have hB1:=hB.h1
 have hm0:0<=n1*n2:=Int.mul_nonneg hA0 hB0
 refine⟨_,rfl,a,_,_,.int n1,rfl,rfl,a1,rfl,_,rfl,b,_,_,.int n2,rfl,rfl,b1,rfl,_,_,rfl,rfl,.inl ⟨by omega,by omega⟩,?_⟩
 generalize hmm:((fun i j=>V.int (i*j)) _ _:V)=vm
 obtain⟨m,em,hm⟩:∃m:Int,vm= .int m/\n1*n2=m:=⟨_,hmm.symm,rfl⟩
 subst em
 simp only[hm]at hn q hm0
 refine⟨_,rfl,m,rfl,hn,?_⟩
 refine⟨_,rfl,_,rfl,m,rfl,hm0,hn,fun l H3 s3 p1=> ?_⟩
 obtain⟨rs,e1,v1⟩:=p1.ex
 refine⟨l,rs,rfl,SqL.of e1,fun hz=> ?_⟩
 have hlen:=v1.len
 rw[aQ]at hlen
 have hpos:∀i:Nat,(h:i<(rows tt m m.toNat).length)->0<n2:=fun i h=>by
  have hmem:=yU h
  rw[JL]at hmem
  have hmp:0<m:=by omega
  rcases Int.lt_or_le 0 n2 with c|c
  ·exact c
  ·have:n2=0:=by omega
   rw[this,Int.mul_zero]at hm
   omega
 have Vz:=s12.trans s3
 refine MF (xs:=rs) (fun i acc σ H'=>Same H3 H'/\acc.length<=i/\bL K H' acc (((rows tt m m.toNat).take i).filter (fun p=>Yd n2 t1 t2 p.1 p.2)|>.map pairD)/\∃o,σ=[o,some (.ref a),some (.ref b)]) ⟨Same.refl _,bx _,.nil,_,rfl⟩ (fun i acc σ H' _ p=>p.1.seq (SqL.of e1)) (fun i acc σ H' hi p=>p.2.1) hz (fun i x acc σ H' hx p=> ?_) (fun acc σ H' p=> ?_)
 ·obtain⟨sm,hl,hd,o,rfl⟩:=p
  obtain⟨t,hi,rfl,ht⟩:=gq v1 hx
  refine⟨_,rfl,_,rfl,_,rfl,a,b,t,n1,n2,_,_,t1,t2,rfl,(hA.same (Vz.trans sm)).web,(hB.same (Vz.trans sm)).web,hpos i hi,hB1,sm.tup ht,fun H5 s5=>⟨_,rfl,?_⟩⟩
  rw[kW hi]
  refine ite2 (fun c=> ?_) (fun c=> ?_)
  ·refine⟨_,rfl,sm.trans s5,by rw[iz];show acc.length+1<=i+1;omega,?_,_,rfl⟩
   rw[bD c,bW]
   exact(hd.same s5).append (.cons (.tup ((sm.trans s5).tup ht) (.cons (.int _) (.cons (.int _) .nil))) .nil)
  ·refine⟨sm.trans s5,by omega,?_,_,rfl⟩
   rw[bC c,uU]
   exact hd.same s5
 ·intro p1 hp1
  obtain⟨sm,hl,hd,_⟩:=p
  rw[hlen,ux,gk]at hd
  have s5:=aR hp1 (.lst acc)
  refine⟨p1,_,rfl,.inl ⟨SqL.of aM,fun t ht=> ?_⟩⟩
  have s6:=aR ht (.tup acc)
  refine⟨(by show 2<=sizeLine;decide),fun r hr'=> ?_⟩
  have s7:=aR hr' (.tup [.int m,.ref t])
  exact q r _ (Vz.trans (sm.trans (s5.trans (s6.trans s7)))) ⟨t,acc,SqT.of aM,SqT.of (s7 _ _ aM),hd.same (s5.trans (s6.trans s7))⟩
end
end Hs
namespace Hs
open yL
def prs:List Int->List (Int×Int)
 |[]=>[]
 |x::xs=>xs.map (fun y=>(x,y))++prs xs
theorem Jm:∀xs:List Int,2*(prs xs).length+xs.length=xs.length*xs.length
 |[]=>rfl
 |x::xs=>by
  have ih:=Jm xs
  show 2*((xs.map fun y=>(x,y))++prs xs).length+(xs.length+1)=(xs.length+1)*(xs.length+1)
  rw[iz,aQ,Nat.add_mul,Nat.mul_add,Nat.one_mul,Nat.mul_add,Nat.mul_one]
  omega
theorem BL{xs:List Int}(h:xs.Pairwise (· < ·)){p:Int×Int}:p∈prs xs↔p.1∈xs/\p.2∈xs/\p.1<p.2:=by
 induction xs with
 |nil=>simp[prs]
 |cons x xs ih=>
  rw[Wv]at h
  show p∈(xs.map fun y=>(x,y))++prs xs↔_
  rw[fj,ih h.2,eE,cT,cT]
  constructor
  ·rintro(⟨y,hy,rfl⟩|⟨a,b,c⟩)
   ·exact⟨.inl rfl,.inr hy,h.1 y hy⟩
   ·exact⟨.inr a,.inr b,c⟩
  ·rintro⟨a|a,b|b,c⟩
   ·omega
   ·exact .inl ⟨p.2,b,by rw[<-a]⟩
   ·have:=h.1 _ a;omega
   ·exact .inr ⟨a,b,c⟩
theorem Kc{xs:List Int}(h:xs.Pairwise (· < ·)):(prs xs).Nodup:=by
 induction xs with
 |nil=>exact List.nodup_nil
 |cons x xs ih=>
  rw[Wv]at h
  show((xs.map fun y=>(x,y))++prs xs).Nodup
  refine JQ.mpr ⟨?_,ih h.2,fun a ha b hb e=> ?_⟩
  ·rw[ydj,Iz]
   exact h.2.imp fun{a b} h e=>by injection e with _ e2;omega
  ·obtain⟨y,hy,rfl⟩:=eE.mp ha
   subst e
   have:=h.1 _ ((BL h.2).mp hb).1
   dsimp only at this
   omega
def inB(xs:List Int)(p:Int×Int):Bool:=decide (p.1∈xs)&&decide (p.2∈xs)
theorem Ai{n:Int}{ts:List (Int×Int)}{xs:List Int}(ht:aG n ts)(h:xs.Pairwise (· < ·)):(ts.filter (inB xs)).length=((prs xs).filter fun p=>decide (p∈ts)).length:=by
 have m:∀p:Int×Int,p∈ts.filter (inB xs)↔p∈(prs xs).filter fun p=>decide (p∈ts):=fun p=>by
  rw[lY,lY,BL h]
  unfold inB
  rw[qt,uN,uN,uN]
  constructor
  ·rintro⟨a,b,c⟩;exact⟨⟨b,c,(ht.lt p a).2.1⟩,a⟩
  ·rintro⟨⟨a,b,_⟩,c⟩;exact⟨c,a,b⟩
 exact Vm (cu (ht.nd.filter _) fun p hp=>(m p).mp hp) (cu ((Kc h).filter _) fun p hp=>(m p).mpr hp)
def cD(ts:List (Int×Int))(xs:List Int)(w:Bool):Bool:=(List.range xs.length).all fun j=>(xs.take j).all fun o=>aq ts (xs.getD j 0) o==w
theorem lV{ts:List (Int×Int)}{xs:List Int}{w:Bool}:cD ts xs w=true↔∀p∈prs xs,aq ts p.2 p.1=w:=by
 have key:∀xs:List Int,(∀j,j<xs.length->∀o∈xs.take j,aq ts (xs.getD j 0) o=w)↔∀p∈prs xs,aq ts p.2 p.1=w:=by
  intro xs
  induction xs with
  |nil=>simp[prs]
  |cons x xs ih=>
   constructor
   ·intro h p hp
    rcases fj.mp (show p∈(xs.map fun y=>(x,y))++prs xs from hp)with q|q
    ·obtain⟨y,hy,rfl⟩:=eE.mp q
     obtain⟨i,hi,rfl⟩:=Wx hy
     have:=h (i+1) (by simpa using hi) x (by simp)
     simpa[hi]using this
    ·refine ih.mp (fun j hj o ho=> ?_) p q
     have:=h (j+1) (by simpa using hj) o (by simp[ho])
     simpa using this
   ·intro h j hj o ho
    cases j with
    |zero=>simp at ho
    |succ j=>
     have hj':j<xs.length:=by simpa using hj
     rw[List.take_succ_cons,cT]at ho
     rcases ho with rfl|ho
     ·have:=h (o,xs[j]) (M7 _ (eE.mpr ⟨xs[j],yU _,rfl⟩))
      simpa[hj']using this
     ·have:=ih.mpr (fun p hp=>h p (yX _ hp)) j hj' o ho
      simpa using this
 rw[<-key]
 unfold cD
 rw[mO]
 constructor
 ·intro h j hj o ho
  have:=mO.mp (h j (uw.mpr hj)) o ho
  simpa using this
 ·intro h j hj
  rw[mO]
  intro o ho
  simpa using h j (uw.mp hj) o ho
theorem qx{n:Int}{ts:List (Int×Int)}{xs:List Int}(ht:aG n ts)(h:xs.Pairwise (· < ·)){p:Int×Int}(hp:p∈prs xs):aq ts p.2 p.1=decide (p∈ts):=by
 have lt:=((BL h).mp hp).2.2
 unfold aq
 have:decide ((p.2,p.1)∈ts)=false:=gB fun z=>by have:=(ht.lt _ z).2.1;dsimp only at this;omega
 rw[this,wfj]
theorem apart_eq{n:Int}{ts:List (Int×Int)}{xs:List Int}(ht:aG n ts)(h:xs.Pairwise (· < ·)):decide ((ts.filter (inB xs)).length=0)=cD ts xs false:=by
 rw[vA,uN,lV,Ai ht h,List.length_eq_zero_iff,ydd]
 constructor
 ·intro a p hp;rw[qx ht h hp];simpa using a p hp
 ·intro a p hp;have:=a p hp;rw[qx ht h hp]at this;simpa using this
theorem crowd_eq{n:Int}{ts:List (Int×Int)}{xs:List Int}(ht:aG n ts)(h:xs.Pairwise (· < ·)):decide (((ts.filter (inB xs)).length:Int)=(xs.length:Int)*((xs.length:Int)-1)/2)=cD ts xs true:=by
 have e:(xs.length:Int)*((xs.length:Int)-1)/2=((prs xs).length:Int):=by
  have:=Jm xs
  have h2:(xs.length:Int)*((xs.length:Int)-1)=2*((prs xs).length:Int):=by
   rw[Int.mul_sub,Int.mul_one]
   have h3:(xs.length:Int)*(xs.length:Int)=((xs.length*xs.length:Nat):Int):=by simp
   rw[h3,<-this]
   omega
  rw[h2];omega
 rw[e,vA,uN,lV,Ai ht h]
 constructor
 ·intro a p hp
  rw[qx ht h hp]
  have a':((prs xs).filter fun p=>decide (p∈ts)).length=(prs xs).length:=by omega
  exact List.length_filter_eq_length_iff.mp a' p hp
 ·intro a
  have:((prs xs).filter fun p=>decide (p∈ts)).length=(prs xs).length:=List.length_filter_eq_length_iff.mpr fun p hp=>by
   have:=a p hp;rw[qx ht h hp]at this;exact this
  omega
end Hs
namespace Hs
open PySem yL
def inR(n:Int)(y:Int):Bool:=decide (0<=y)&&decide (y<n)
theorem J6{xs:List Int}(nd:xs.Nodup):∃ys:List Int,ys.Perm xs/\ys.Pairwise (· < ·):=by
 have hp:=List.mergeSort_perm xs (fun a b=>decide (a<=b))
 have hs:=wen (le:=fun a b:Int=>decide (a<=b)) (fun a b c h1 h2=>by simp only[uN]at *;omega) (fun a b=>by simp only[wdo,uN];omega) xs
 refine⟨_,hp,(hs.and (ydj.mp (hp.nodup_iff.mpr nd))).imp fun{a b} h=> ?_⟩
 have:=yZ h.1
 have:=h.2
 omega
theorem Gs{R:Int->Int->Prop}:∀xs:List Int,(∀p∈prs xs,R p.1 p.2)↔xs.Pairwise R
 |[]=>by simp[prs]
 |x::xs=>by
  rw[Wv,<-Gs xs]
  constructor
  ·intro h
   exact⟨fun y hy=>h (x,y) (M7 _ (eE.mpr ⟨y,hy,rfl⟩)),fun p hp=>h p (yX _ hp)⟩
  ·rintro⟨h1,h2⟩ p hp
   rcases fj.mp (show p∈(xs.map fun y=>(x,y))++prs xs from hp)with q|q
   ·obtain⟨y,hy,rfl⟩:=eE.mp q
    exact h1 y hy
   ·exact h2 p q
theorem Cy(ts:List (Int×Int))(i j:Int):aq ts i j=aq ts j i:=by unfold aq;rw[Bool.or_comm]
theorem Ik{ts:List (Int×Int)}{xs ys:List Int}{w:Bool}(h:ys.Perm xs):cD ts ys w=cD ts xs w:=by
 rw[vA,lV,lV]
 have a:=Gs (R:=fun x y=>aq ts y x=w) ys
 have b:=Gs (R:=fun x y=>aq ts y x=w) xs
 rw[a,b]
 exact h.pairwise_iff fun{x y} e=>by rw[Cy];exact e
theorem Qu{n:Int}{ts:List (Int×Int)}{xs:List Int}(ht:aG n ts)(nd:xs.Nodup):decide (((ts.filter (inB xs)).length:Int)=(xs.length:Int)*((xs.length:Int)-1)/2)=cD ts xs true:=by
 obtain⟨ys,hp,hs⟩:=J6 nd
 have e:=crowd_eq ht hs
 rw[Ik hp,hp.length_eq]at e
 rw[<-e]
 have ei:inB xs=inB ys:=by
  funext p
  unfold inB
  have a:=hp.mem_iff (a:=p.1)
  have b:=hp.mem_iff (a:=p.2)
  simp only[a,b]
 rw[ei]
theorem any_ints(xs:List Int)(k:Int):((xs.map PyData.int).any fun d=>PyData.eqv d (.int k))=decide (k∈xs):=by
 induction xs with
 |nil=>simp
 |cons x xs ih=>
  rw[Fy,Uu,ih]
  have e:PyData.eqv (.int x) (.int k)=decide (k=x):=by
   show(x==k)=_
   rw[vA];simp;exact⟨fun h=>h.symm,fun h=>h.symm⟩
  rw[e,vA]
  simp
def rng(n:Nat):List Int:=(List.range n).map fun k=>((k:Nat):Int)
def qy(ts:List (Int×Int))(xs:List Int)(k:Nat):Bool:=cD ts ((xs.drop (k+1)).filter fun o=>aq ts (xs.getD k 0) o) true
def qX(n:Int)(ts:List (Int×Int))(xs:List Int):Bool:=decide ((xs.length:Int)=n)&&(xs.all (inR n)&&decide xs.Nodup)&&(List.range xs.length).all (qy ts xs)
theorem vI{n:Int}{ts:List (Int×Int)}(ht:aG n ts)(i:Int):aq ts i i=false:=by
 unfold aq
 have:decide ((i,i)∈ts)=false:=gB fun z=>by have:=(ht.lt _ z).2.1;dsimp only at this;omega
 rw[this];rfl
theorem Lk{n:Int}{ts:List (Int×Int)}{xs:List Int}{k:Nat}(ht:aG n ts)(hk:k<xs.length):(xs.drop k).filter (fun o=>aU ts (xs.getD k 0) o)=(xs.drop (k+1)).filter fun o=>aq ts (xs.getD k 0) o:=by
 have e:xs.getD k 0=xs[k]:=by simp[hk]
 have ef:(fun o=>aU ts (xs.getD k 0) o)=fun o=>aq ts (xs.getD k 0) o:=by funext o;exact tied_eq ht _ _
 rw[ef,e,ycv hk,M6,vI ht]
 rfl
end Hs
namespace bZ
section
variable{r:Int->Int->Bool}
def Simp(r:Int->Int->Bool)(V:List Int)(x:Int):Prop:=∀a∈V,∀b∈V,a≠b->r x a=true->r x b=true->r a b=true
structure Bare(r:Int->Int->Bool)(c:List Int):Prop where
 len:4<=c.length
 nd:c.Nodup
 so:∀i j (hij:i<j) (hj:j<c.length),r (c[i]'(yO hij hj)) c[j]=decide (j-i=1\/(i=0/\j+1=c.length))
inductive Ch(r:Int->Int->Bool):List Int->Prop
 |nil:Ch r []
 |one (a:Int):Ch r [a]
 |cons {a b:Int} {l:List Int} (h:r a b=true) (t:Ch r (b::l)):Ch r (a::b::l)
theorem kZ{a b:Int}{l:List Int}:Ch r (a::b::l)↔r a b=true/\Ch r (b::l):=⟨fun h=>by cases h with |cons h t=>exact⟨h,t⟩,fun h=> .cons h.1 h.2⟩
theorem dg{c:Int}{B:List Int}:∀{A:List Int},Ch r (A++c::B)↔Ch r (A++[c])/\Ch r (c::B)
 |[]=>⟨fun h=>⟨.one c,h⟩,fun h=>h.2⟩
 |[a]=>by
  show Ch r (a::c::B)↔Ch r [a,c]/\_
  rw[kZ]
  exact⟨fun h=>⟨.cons h.1 (.one c),h.2⟩,fun h=>⟨(kZ.mp h.1).1,h.2⟩⟩
 |a::b::A=>by
  show Ch r (a::b::(A++c::B))↔Ch r (a::b::(A++[c]))/\_
  have ih:=dg (c:=c) (B:=B) (A:=b::A)
  rw[kZ,kZ]
  exact⟨fun h=>⟨⟨h.1,(ih.mp h.2).1⟩,(ih.mp h.2).2⟩,fun h=>⟨h.1.1,ih.mpr ⟨h.1.2,h.2⟩⟩⟩
theorem Ci{y z:Int}:∀{p:List Int},Ch r p->p.getLast? =some y->r y z=true->Ch r (p++[z])
 |[],_,h,_=>by cases h
 |[a],_,h,hr=>by cases h;exact .cons hr (.one z)
 |a::b::l,hc,h,hr=>by
  rw[Xu]at h
  have:=kZ.mp hc
  exact .cons this.1 (Ci this.2 h hr)
theorem Qw(sym:∀a b,r a b=r b a):∀{p:List Int},Ch r p->Ch r p.reverse
 |[],_=> .nil
 |[a],_=> .one a
 |a::b::l,hc=>by
  have:=kZ.mp hc
  rw[wef]
  exact Ci (Qw sym this.2) (by rw[wfa];rfl) (by rw[sym];exact this.1)
structure zq(r:Int->Int->Bool)(P:Int->Prop)(x y:Int)(p:List Int):Prop where
 hd:p.head? =some x
 lt:p.getLast? =some y
 ch:Ch r p
 al:∀z∈p,P z
variable{P Q:Int->Prop}{x y z:Int}{p q:List Int}
theorem zq.one(h:P x):zq r P x x [x]:=⟨rfl,rfl,.one _,fun z hz=>by rw[jk.mp hz];exact h⟩
theorem zq.cons(h:zq r P y z p)(hx:P x)(hr:r x y=true):zq r P x z (x::p):=by
 obtain⟨h1,h2,h3,h4⟩:=h
 cases p with
 |nil=>cases h1
 |cons a l=>
  cases h1
  refine⟨rfl,?_,kZ.mpr ⟨hr,h3⟩,fun w hw=> ?_⟩
  ·rw[Xu];exact h2
  ·rcases cT.mp hw with e|e
   ·rw[e];exact hx
   ·exact h4 w e
theorem zq.snoc(h:zq r P x y p)(hz:P z)(hr:r y z=true):zq r P x z (p++[z]):=by
 obtain⟨h1,h2,h3,h4⟩:=h
 refine⟨?_,by simp,?_,fun w hw=> ?_⟩
 ·rw[wcs,h1];rfl
 ·exact Ci h3 h2 hr
 ·rcases fj.mp hw with e|e
  ·exact h4 w e
  ·rw[jk.mp e];exact hz
theorem zq.rev(sym:∀a b,r a b=r b a)(h:zq r P x y p):zq r P y x p.reverse:=by
 obtain⟨h1,h2,h3,h4⟩:=h
 refine⟨by rw[List.head?_reverse];exact h2,by rw[wfa];exact h1,Qw sym h3,fun z hz=>h4 z (List.mem_reverse.mp hz)⟩
theorem zq.trans(h:zq r P x y p)(g:zq r P y z q):∃w,zq r P x z w:=by
 induction p generalizing x with
 |nil=>cases h.hd
 |cons a l ih=>
  have hx:=h.hd
  cases hx
  cases l with
  |nil=>
   have:=h.lt
   cases this
   exact⟨q,g⟩
  |cons b l=>
   have hc:=kZ.mp h.ch
   obtain⟨w,hw⟩:=ih ⟨rfl,by have:=h.lt;rw[Xu]at this;exact this,hc.2,fun c hc=>h.al c (lZ _ hc)⟩
   exact⟨a::w,hw.cons (h.al a jl) hc.1⟩
structure Tight(r:Int->Int->Bool)(p:List Int):Prop where
 cut:∀A x M y B,p=A++x::(M++y::B)->M≠[]->r x y=false
 nd:∀A x M B,p=A++x::(M++x::B)->False
theorem Az:∀(n:Nat) (p:List Int),p.length<=n->zq r P x y p->∃q,zq r P x y q/\Tight r q
 |0,p,hn,h=>by
  cases p with
  |nil=>cases h.hd
  |cons a l=>simp at hn
 |n+1,p,hn,h=>by
  by_cases c1:∃A a M b B,p=A++a::(M++b::B)/\M≠[]/\r a b=true
  ·obtain⟨A,a,M,b,B,rfl,hM,hr⟩:=c1
   refine Az n (A++a::b::B) ?_ ⟨?_,?_,?_,fun z hz=>h.al z ?_⟩
   ·have:0<M.length:=List.length_pos_iff.mpr hM
    simp only[iz,Mq]at hn⊢
    omega
   ·have:=h.hd
    rw[wcs]at this⊢
    exact this
   ·have:=h.lt
    simp only[List.getLast?_append,List.getLast?_cons,Xu]at this⊢
    simpa using this
   ·have c:=dg.mp h.ch
    have d:=dg.mp (show Ch r ((a::M)++b::B)from c.2)
    exact dg.mpr ⟨c.1,kZ.mpr ⟨hr,d.2⟩⟩
   ·simp only[fj,cT]at hz⊢
    rcases hz with z1|z1|z1|z1
    ·exact .inl z1
    ·exact .inr (.inl z1)
    ·exact .inr (.inr (.inr (.inl z1)))
    ·exact .inr (.inr (.inr (.inr z1)))
  ·by_cases c2:∃A a M B,p=A++a::(M++a::B)
   ·obtain⟨A,a,M,B,rfl⟩:=c2
    refine Az n (A++a::B) ?_ ⟨?_,?_,?_,fun z hz=>h.al z ?_⟩
    ·simp only[iz,Mq]at hn⊢
     omega
    ·have:=h.hd
     rw[wcs]at this⊢
     exact this
    ·have:=h.lt
     simp only[List.getLast?_append,List.getLast?_cons,Xu]at this⊢
     simpa using this
    ·have c:=dg.mp h.ch
     have d:=dg.mp (show Ch r ((a::M)++a::B)from c.2)
     exact dg.mpr ⟨c.1,d.2⟩
    ·simp only[fj,cT]at hz⊢
     rcases hz with z1|z1|z1
     ·exact .inl z1
     ·exact .inr (.inl z1)
     ·exact .inr (.inr (.inr (.inr z1)))
   ·refine⟨p,h,fun A a M b B e hM=> ?_,fun A a M B e=>c2 ⟨A,a,M,B,e⟩⟩
    cases z:r a b with
    |false=>rfl
    |true=>exact absurd ⟨A,a,M,b,B,e,hM,z⟩ c1
theorem Nx{p:List Int}{i j:Nat}(hij:i<j)(hj:j<p.length):∃A M B,p=A++(p[i]'(yO hij hj))::(M++p[j]::B)/\A.length=i/\M.length=j-i-1:=by
 refine⟨p.take i,(p.drop (i+1)).take (j-i-1),p.drop (j+1),?_,by rw[yV];omega,by rw[yV,Xl];omega⟩
 have h1:p=p.take i++p.drop i:=(wfb i p).symm
 have h2:p.drop i=p[i]::p.drop (i+1):=ycv (by omega)
 have h3:p.drop (i+1)=(p.drop (i+1)).take (j-i-1)++(p.drop (i+1)).drop (j-i-1):=(wfb _ _).symm
 have h4:(p.drop (i+1)).drop (j-i-1)=p.drop j:=by rw[List.drop_drop];congr 1;omega
 have h5:p.drop j=p[j]::p.drop (j+1):=ycv hj
 rw[h4,h5]at h3
 rw[<-h3,<-h2]
 exact h1
theorem Tight.nodup(h:Tight r p):p.Nodup:=by
 rw[ydj,Xv]
 intro i j hi hj hij e
 obtain⟨A,M,B,hp,_,_⟩:=Nx hij hj
 rw[<-e]at hp
 exact h.nd A _ M B hp
theorem Tight.so(h:Tight r p)(hc:Ch r p){i j:Nat}(hij:i<j)(hj:j<p.length):r (p[i]'(yO hij hj)) p[j]=decide (j-i=1):=by
 obtain⟨A,M,B,hp,hA,hM⟩:=Nx hij hj
 by_cases c:j-i=1
 ·rw[cJ c]
  have hM0:M=[]:=List.length_eq_zero_iff.mp (by omega)
  rw[hM0,List.nil_append]at hp
  rw[hp]at hc
  exact(kZ.mp (dg.mp hc).2).1
 ·rw[gB c]
  exact h.cut A _ M _ B hp (fun z=>by rw[z]at hM;simp at hM;omega)
theorem RV(sym:∀a b,r a b=r b a){v s t:Int}(C:Int->Prop)(hv:r v s=true)(hv2:r v t=true)(hst:s≠t)(nst:r s t=false)(nv:∀c,C c->r v c=false/\c≠v)(hvs:s≠v)(hvt:t≠v)(h:zq r (fun z=>z=s\/z=t\/C z) s t p):
  ∃c,Bare r c/\∀z∈c,z=v\/z=s\/z=t\/C z:=by
 obtain⟨q,hq,T⟩:=Az p.length p (bx _) h
 have nd:=T.nodup
 have hlen:3<=q.length:=by
  have h1:=hq.hd;have h2:=hq.lt
  match q,h1,h2,hq with
  |[a],h1,h2,_=>cases h1;cases h2;exact absurd rfl hst
  |[a,b],h1,h2,hq=>
   have ea:a=s:=by simpa using h1
   have eb:b=t:=by simpa using h2
   have:=(kZ.mp hq.ch).1
   rw[ea,eb,nst]at this;cases this
  |a::b::c::l,_,_,_=>simp
 have q0:q[0]'(by omega)=s:=by
  have h1:=hq.hd
  rw[List.head?_eq_getElem?,iY (by omega)]at h1
  exact Nb h1
 have ql:q[q.length-1]'(by omega)=t:=by
  have h1:=hq.lt
  rw[List.getLast?_eq_getElem?,iY (by omega)]at h1
  exact Nb h1
 have aac:v∉q:=fun hm=>by
  rcases hq.al v hm with e|e|e
  ·exact hvs e.symm
  ·exact hvt e.symm
  ·exact(nv v e).2 rfl
 refine⟨v::q,⟨by simp;omega,M5.mpr ⟨aac,nd⟩,fun i j hij hj=> ?_⟩,fun z hz=> ?_⟩
 ·cases j with
  |zero=>exact absurd hij (wdi _)
  |succ j=>
   have hj':j<q.length:=by simpa using hj
   cases i with
   |zero=>
    show r v q[j]=_
    by_cases c0:j=0
    ·subst c0
     rw[q0,hv];exact(cJ (.inl rfl)).symm
    ·by_cases c1:j+1=q.length
     ·have e:q[j]=t:=by rw[<-ql];congr 1;omega
      rw[e,hv2]
      exact(cJ (.inr ⟨rfl,by simp;omega⟩)).symm
     ·have hC:C q[j]:=by
       rcases hq.al q[j] (yU hj')with e|e|e
       ·rw[<-q0]at e
        exact absurd ((Vn nd).mp e) c0
       ·rw[<-ql]at e
        have:=(Vn nd).mp e
        omega
       ·exact e
      rw[(nv _ hC).1]
      refine(gB ?_).symm
      rintro(z|⟨_,z⟩)
      ·omega
      ·simp at z;omega
   |succ i=>
    show r q[i] q[j]=_
    rw[T.so hq.ch (by omega) hj']
    refine decide_eq_decide.mpr ⟨fun z=> .inl (by omega),?_⟩
    rintro(z|⟨z,_⟩)
    ·omega
    ·cases z
 ·rcases cT.mp hz with e|e
  ·exact .inl e
  ·exact .inr (hq.al z e)
open Classical in
theorem far(sym:∀a b,r a b=r b a)(K5:∀a,r a a=false):∀(n:Nat) (V:List Int),V.length<=n->(∀c,Bare r c->¬∀x∈c,x∈V)->∀v∈V,∀u∈V,u≠v->r v u=false->∃s∈V,s≠v/\r v s=false/\Simp r V s
 |0,V,hn,_,v,hv,_,_,_,_=>by
  cases V with
  |nil=>cases hv
  |cons a l=>simp at hn
 |n+1,V,hn,hno,v,hv,u,hu,huv,hru=>by
  -- the places of V that are not tied to v, and among them those that u reaches
  let W:Int->Prop:=fun x=>x∈V/\x≠v/\r v x=false
  let C:Int->Prop:=fun x=>∃p,zq r W u x p
  have hWu:W u:=⟨hu,huv,hru⟩
  have CW:∀x,C x->W x:=fun x ⟨p,hp⟩=>hp.al x (List.mem_of_getLast? hp.lt)
  have Cu:C u:=⟨[u],.one hWu⟩
  have Z8:∀x y,C x->W y->r x y=true->C y:=fun x y ⟨p,hp⟩ hy hr=>⟨p++[y],hp.snoc hy hr⟩
  let S:Int->Prop:=fun s=>s∈V/\r v s=true/\∃c,C c/\r s c=true
  have Sv:∀s,S s->s≠v:=fun s hs z=>by have:=hs.2.1;rw[z,K5]at this;cases this
  have clique:∀s t,S s->S t->s≠t->r s t=true:=fun s t hs ht hst=>by
   cases z:r s t with
   |true=>rfl
   |false=>
    obtain⟨c,⟨pc,hc⟩,hsc⟩:=hs.2.2
    obtain⟨d,⟨pd,hd⟩,htd⟩:=ht.2.2
    obtain⟨w,hw⟩:=(hc.rev sym).trans hd
    have Cw:∀x∈w,C x:=by
     -- all of w lies in what u reaches: follow w from c on
     intro x hx
     obtain⟨A,B,e⟩:=List.append_of_mem hx
     subst e
     have hcA:Ch r (A++[x]):=(dg.mp hw.ch).1
     have hAx:zq r W c x (A++[x]):=by
      refine⟨?_,by simp,hcA,fun y hy=>hw.al y ?_⟩
      ·have:=hw.hd
       rw[wcs]at this⊢
       exact this
      ·simp only[fj,jk,cT]at hy⊢
       rcases hy with h|h|h
       ·exact .inl h
       ·exact .inr (.inl h)
       ·cases h
     obtain⟨w',hw'⟩:=hc.trans hAx
     exact⟨w',hw'⟩
    have hw2:zq r (fun x=>x=s\/x=t\/C x) c d w:=⟨hw.hd,hw.lt,hw.ch,fun x hx=> .inr (.inr (Cw x hx))⟩
    have hp:=(hw2.cons (x:=s) (.inl rfl) hsc).snoc (z:=t) (.inr (.inl rfl)) (by rw[sym];exact htd)
    obtain⟨ring,hb,hal⟩:=RV sym C hs.2.1 ht.2.1 hst z (fun c hc=>⟨(CW c hc).2.2,(CW c hc).2.1⟩) (Sv s hs) (Sv t ht) hp
    refine absurd (fun x hx=> ?_) (hno ring hb)
    rcases hal x hx with e|e|e|e
    ·rw[e];exact hv
    ·rw[e];exact hs.1
    ·rw[e];exact ht.1
    ·exact(CW x e).1
  let H:=V.filter fun x=>decide (C x\/S x)
  have mH:∀x,x∈H↔C x\/S x:=fun x=>by
   show x∈V.filter _↔_
   rw[lY]
   constructor
   ·exact fun z=>yZ z.2
   ·intro z
    refine⟨?_,cJ z⟩
    rcases z with z|z
    ·exact(CW x z).1
    ·exact z.1
  have vH:¬(C v\/S v):=by
   rintro(z|z)
   ·exact(CW v z).2.1 rfl
   ·exact Sv v z rfl
  have lH:H.length<=n:=by
   have:H.length<V.length:=List.length_filter_lt_length_iff_exists.mpr ⟨v,hv,by rw[gB vH];exact uy⟩
   omega
  have noH:∀c,Bare r c->¬∀x∈c,x∈H:=fun c hb hall=>hno c hb fun x hx=>(lY.mp (hall x hx)).1
  -- a place that u reaches and that can go within H can go within V
  have out:∀x,C x->Simp r H x->∃s∈V,s≠v/\r v s=false/\Simp r V s:=fun x hx hs=>by
   have wx:=CW x hx
   have near:∀y∈V,r x y=true->y∈H:=fun y hy hr=>by
    rw[mH]
    by_cases e:y=v
    ·rw[e,sym,wx.2.2]at hr;cases hr
    ·cases z:r v y with
     |true=>exact .inr ⟨hy,z,x,hx,by rw[sym];exact hr⟩
     |false=>exact .inl (Z8 x y hx ⟨hy,e,z⟩ hr)
   exact⟨x,wx.1,wx.2.1,wx.2.2,fun a ha b hb hab h1 h2=>hs a (near a ha h1) b (near b hb h2) hab h1 h2⟩
  by_cases cA:∃s g,S s/\g∈H/\g≠s/\r s g=false
  ·obtain⟨s,g,hs,hg,hgs,hr⟩:=cA
   obtain⟨x,hx,hxs,hrx,hsx⟩:=far sym K5 n H lH noH s ((mH s).mpr (.inr hs)) g hg hgs hr
   rcases(mH x).mp hx with z|z
   ·exact out x z hsx
   ·rw[clique s x hs z (zF hxs)]at hrx;cases hrx
  ·by_cases cB:∃c g,C c/\g∈H/\g≠c/\r c g=false
   ·obtain⟨c,g,hc,hg,hgc,hr⟩:=cB
    obtain⟨x,hx,hxc,hrx,hsx⟩:=far sym K5 n H lH noH c ((mH c).mpr (.inl hc)) g hg hgc hr
    rcases(mH x).mp hx with z|z
    ·exact out x z hsx
    ·exact absurd ⟨x,c,z,(mH c).mpr (.inl hc),zF hxc,by rw[sym];exact hrx⟩ cA
   ·refine out u Cu fun a ha b hb hab h1 h2=> ?_
    cases z:r a b with
    |true=>rfl
    |false=>
     rcases(mH a).mp ha with q|q
     ·exact absurd ⟨a,b,q,hb,zF hab,z⟩ cB
     ·exact absurd ⟨a,b,q,hb,zF hab,z⟩ cA
theorem Gn(sym:∀a b,r a b=r b a)(K5:∀a,r a a=false){V:List Int}(hne:V≠[])(h:∀x∈V,¬Simp r V x):∃c,Bare r c/\∀x∈c,x∈V:=by
 apply wec
 intro hno
 have hno':∀c,Bare r c->¬∀x∈c,x∈V:=fun c hb hall=>hno ⟨c,hb,hall⟩
 obtain⟨v,hv⟩:=List.exists_mem_of_ne_nil V hne
 by_cases c:∃a b,a∈V/\b∈V/\b≠a/\r a b=false
 ·obtain⟨a,b,ha,hb,hab,hr⟩:=c
  obtain⟨s,hs,_,_,hss⟩:=far sym K5 V.length V (bx _) hno' a ha b hb hab hr
  exact h s hs hss
 ·refine h v hv fun a ha b hb hab _ _=> ?_
  cases z:r a b with
  |true=>rfl
  |false=>exact absurd ⟨a,b,ha,hb,zF hab,z⟩ c
end
end bZ
namespace Hs
open yL
def uD(L i j:Int):Bool:=decide (j-i=1)||decide (j-i=L-1)
def soB(L i j:Int):Bool:=decide (j-i=1)||(decide (i=0)&&decide (j=L-1))
theorem RJ{L i j:Int}(h0:0<=i)(h1:i<j)(h2:j<L):uD L i j=soB L i j:=by
 unfold uD soB
 congr 1
 rw[vA,qt,uN,uN,uN]
 omega
def jd(n:Int)(ts:List (Int×Int))(xs:List Int):Bool:=decide (4<=xs.length)&&(xs.all (inR n)&&(decide xs.Nodup&&(rows tt (xs.length:Int) (xs.length:Int).toNat).all fun p=>aU ts (xs.getD p.1.toNat 0) (xs.getD p.2.toNat 0)==uD (xs.length:Int) p.1 p.2))
theorem Ii{n:Int}{ts:List (Int×Int)}{xs:List Int}(h:¬4<=xs.length):jd n ts xs=false:=by unfold jd;rw[gB h];rfl
theorem QD{n:Int}{ts:List (Int×Int)}{xs:List Int}(h:xs.all (inR n)=false):jd n ts xs=false:=by unfold jd;rw[h];simp
theorem QF{n:Int}{ts:List (Int×Int)}{xs:List Int}(h:¬xs.Nodup):jd n ts xs=false:=by unfold jd;rw[gB h];simp
end Hs
namespace Hs
open PySem yL
theorem Il{ts:List (Int×Int)}{xs:List Int}:cD ts xs true=true↔∀i j (hij:i<j) (hj:j<xs.length),aq ts (xs[i]'(yO hij hj)) xs[j]=true:=by
 unfold cD
 rw[mO]
 constructor
 ·intro h i j hij hj
  have z:=mO.mp (h j (uw.mpr hj)) (xs[i]'(yO hij hj)) (ydl.mpr ⟨i,by omega,rfl⟩)
  rw[zE,iY hj]at z
  rw[Cy]
  simpa using z
 ·intro h j hj
  have hj:=uw.mp hj
  rw[mO]
  intro o ho
  obtain⟨i,hi,rfl⟩:=ydl.mp ho
  rw[zE,iY hj]
  have z:=h i j (by omega) hj
  rw[Cy]at z
  simpa using z
theorem HB{ts:List (Int×Int)}{xs:List Int}{v:Int}(nd:xs.Nodup):cD ts (xs.filter fun o=>aq ts v o) true=true↔bZ.Simp (aq ts) xs v:=by
 rw[Il]
 constructor
 ·intro h a ha b hb hab h1 h2
  obtain⟨i,hi,ei⟩:=Wx (lY.mpr ⟨ha,h1⟩)
  obtain⟨j,hj,ej⟩:=Wx (lY.mpr ⟨hb,h2⟩)
  rcases Nat.lt_trichotomy i j with c|c|c
  ·have z:=h i j c hj
   rw[ei,ej]at z;exact z
  ·subst c
   exact absurd (ei.symm.trans ej) hab
  ·have z:=h j i c hi
   rw[ei,ej]at z
   rw[Cy];exact z
 ·intro h i j hij hj
  have mi:=lY.mp (yU (l:=xs.filter fun o=>aq ts v o) (yO hij hj))
  have mj:=lY.mp (yU (l:=xs.filter fun o=>aq ts v o) hj)
  refine h _ mi.1 _ mj.1 (fun e=> ?_) mi.2 mj.2
  have:=(Vn (nd.filter _)).mp e
  omega
def Wn(ts:List (Int×Int))(V:List Int):Prop:=∀c,bZ.Bare (aq ts) c->¬∀x∈c,x∈V
theorem Gp{ts:List (Int×Int)}{V c:List Int}{v:Int}(hb:bZ.Bare (aq ts) c)(hc:∀x∈c,x∈V)(hv:v∈c):¬bZ.Simp (aq ts) V v:=fun h=>by
 obtain⟨i,hi,rfl⟩:=Wx hv
 have l4:=hb.len
 -- the two beside it
 have two:∃a b,∃(ha:a<c.length) (hb':b<c.length),a≠b/\aq ts c[i] c[a]=true/\aq ts c[i] c[b]=true/\aq ts c[a] c[b]=false:=by
  by_cases e0:i=0
  ·subst e0
   refine⟨1,c.length-1,by omega,by omega,by omega,?_,?_,?_⟩
   ·rw[hb.so 0 1 (by omega) (by omega)];exact cJ (.inl rfl)
   ·rw[hb.so 0 (c.length-1) (by omega) (by omega)];exact cJ (.inr ⟨rfl,by omega⟩)
   ·rw[hb.so 1 (c.length-1) (by omega) (by omega)];exact gB (by rintro(z|⟨z,_⟩)<;>omega)
  ·by_cases e1:i+1=c.length
   ·refine⟨0,i-1,by omega,by omega,by omega,?_,?_,?_⟩
    ·rw[Cy,hb.so 0 i (by omega) hi];exact cJ (.inr ⟨rfl,e1⟩)
    ·rw[Cy,hb.so (i-1) i (by omega) hi];exact cJ (.inl (by omega))
    ·rw[hb.so 0 (i-1) (by omega) (by omega)];exact gB (by rintro(z|⟨_,z⟩)<;>omega)
   ·refine⟨i-1,i+1,by omega,by omega,by omega,?_,?_,?_⟩
    ·rw[Cy,hb.so (i-1) i (by omega) hi];exact cJ (.inl (by omega))
    ·rw[hb.so i (i+1) (by omega) (by omega)];exact cJ (.inl (by omega))
    ·rw[hb.so (i-1) (i+1) (by omega) (by omega)];exact gB (by rintro(z|⟨z,z'⟩)<;>omega)
 obtain⟨a,b,ha,hb',hab,h1,h2,h3⟩:=two
 have z:=h c[a] (hc _ (yU ha)) c[b] (hc _ (yU hb')) (fun e=>hab ((Vn hb.nd).mp e)) h1 h2
 rw[h3]at z;cases z
theorem Tn{ts:List (Int×Int)}{xs:List Int}(nd:xs.Nodup)(h:∀k (hk:k<xs.length),bZ.Simp (aq ts) (xs.drop (k+1)) xs[k]):Wn ts xs:=fun c hb hc=>by
 -- all of the ring lies behind each place, so it is empty
 have K5:∀v∈c,aq ts v v=false->True:=fun _ _ _=>trivial
 have all:∀k,k<=xs.length->∀x∈c,x∈xs.drop k:=by
  intro k
  induction k with
  |zero=>intro _ x hx;simpa using hc x hx
  |succ k ih=>
   intro hk x hx
   have prev:=ih (by omega)
   have e:xs.drop k=xs[k]::xs.drop (k+1):=ycv (by omega)
   have nk:xs[k]∉c:=fun hm=>by
    refine Gp hb (V:=xs.drop k) (fun y hy=>prev y hy) hm ?_
    intro a ha b hb' hab h1 h2
    rw[e]at ha hb'
    have na:∀w,w∈xs[k]::xs.drop (k+1)->aq ts xs[k] w=true->w∈xs.drop (k+1)\/w=xs[k]:=fun w hw _=>(cT.mp hw).symm
    rcases na a ha h1 with a1|a1
    ·rcases na b hb' h2 with b1|b1
     ·exact h k (by omega) a a1 b b1 hab h1 h2
     ·rw[b1,Cy];exact h1
    ·rw[a1];exact h2
   have m:=prev x hx
   rw[e]at m
   rcases cT.mp m with z|z
   ·exact absurd (z▸hx) nk
   ·exact z
 have l4:=hb.len
 have z:=all xs.length (bx _) (c[0]'(by omega)) (yU (by omega))
 simp at z
theorem TQ{n:Int}{ts:List (Int×Int)}{c:List Int}(ht:aG n ts)(hb:bZ.Bare (aq ts) c)(hc:∀x∈c,0<=x/\x<n):jd n ts c=true:=by
 unfold jd
 rw[qt,qt,qt]
 refine⟨cJ hb.len,?_,cJ hb.nd,?_⟩
 ·rw[mO]
  intro x hx
  unfold inR
  rw[cJ (hc x hx).1,cJ (hc x hx).2];rfl
 ·rw[mO]
  intro p hp
  obtain⟨a,b,d,e,_⟩:=JL.mp hp
  have h1:p.1.toNat<p.2.toNat:=by omega
  have h2:p.2.toNat<c.length:=by omega
  have g1:c.getD p.1.toNat 0=c[p.1.toNat]'(yO h1 h2):=by rw[zE,iY (yO h1 h2)];rfl
  have g2:c.getD p.2.toNat 0=c[p.2.toNat]:=by rw[zE,iY h2];rfl
  rw[g1,g2,tied_eq ht,hb.so _ _ h1 h2,RJ a d (by omega)]
  unfold soB
  rw[beq_iff_eq,vA,uN,wdo,qt,uN,uN,uN]
  constructor
  ·rintro(z|⟨z,z'⟩)
   ·exact .inl (by omega)
   ·exact .inr ⟨by omega,by omega⟩
  ·rintro(z|⟨z,z'⟩)
   ·exact .inl (by omega)
   ·exact .inr ⟨by omega,by omega⟩
end Hs
namespace Hs
open PySem L2 yL
section
variable{P:Program}{w:World}{K:W.Frag}{mg:Str->Option Value}{base:Heap}
def rO(K:W.Frag):Sp:=fun vs H Q _=>∃(b:Bool) (n:Int) (a:Addr) (xs:List V) (ds:List PyData),vs=[.int n,.ref a]/\Fe K b H a xs/\uM K H xs ds/\∀H',Same H H'->Q (.bl (ds.all (bw n))) H'
theorem Gd:FnScope ["n","things"] ["n","things"] (defScope Mg):=fsc
theorem GJ{f f1:Addr}{fd d1:FuncData}(F:Fun K "are_places" "are_places" Mg f fd)(D1:aL K mg "is_place" Q0 ["n","thing"] f1 d1)(G1:FnOk P w K mg base CX0 2 f1 d1 ["n","thing"] (uX K))(DP:mg "all"=none):
  FnOk P w K mg base CX0 3 f fd ["n","things"] (rO K):=by
 refine F.ok Gd (fun vs H Q E h=> ?_) (fun cdv A outer s H vs Q E hr h=> ?_)
 ·obtain⟨b,n,a,xs,ds,rfl,_⟩:=h
  rfl
 obtain⟨b,n,a,xs,ds,rfl,hS,hd,q⟩:=h
 refine⟨_,(bB (bV (dF (ig rfl) rfl DP (by decide+kernel) (aj (lX (own:=["thing"]) (caps:=["n"]) (ix:=[0]) rfl (Jo (pv 1)) rfl rfl (.cons rfl rfl .nil) (fun _ _ _ _ _=>(dD (i:=0) (show(["thing","n"]:List Str).Nodup from by decide+kernel) rfl (Or.inl rfl))) (fun _ _ _ _ _=>zy) (fun _ _ _ _ _=>(pc G1 hr D1 (aj (pv 1) (aj (pv 0) ak))))) ak)))),?_⟩
 refine⟨_,rfl,b,a,xs,rfl,hS,fun hz=> ?_⟩
 have hl:=hd.len
 refine Es (xs:=xs) (fun i acc σ H'=>acc=((ds.take i).map (bw n)).map V.bl/\Same H H'/\∃o,σ=[o,some (.int n)]) ⟨rfl,Same.refl _,_,rfl⟩ (fun i acc σ H' _ p=>hS.same p.2.1) (fun i acc σ H' hi p=> ?_) hz (fun i x acc σ H' hx p=> ?_) (fun acc σ H' p=> ?_)
 ·rw[p.1];simp;omega
 ·obtain⟨rfl,sm,o,rfl⟩:=p
  obtain⟨d,e1,e2⟩:=hd.get hx
  refine⟨_,rfl,_,rfl,n,x,d,rfl,DX.same sm e2,?_,sm,_,rfl⟩
  rw[Ao,e1]
  simp
 ·intro p1 hp1
  obtain⟨rfl,sm,_⟩:=p
  refine⟨p1,(ds.map (bw n)),rfl,SqL.of (by rw[aM,hl,ux]),?_⟩
  rw[iu]
  exact q _ (sm.trans (aR hp1 _))
theorem Nv{b:Bool}{H:Hp}{a:Addr}{xs:List V}(h:Fe K b H a xs):SqL K H a xs\/SqT K H a xs:=by
 cases b with
 |false=>exact .inl h
 |true=>exact .inr h
theorem blV_eq(a b:Bool):decide (V.bl a=V.bl b)=(a==b):=by cases a<;>cases b<;>rfl
theorem intV_eq(a b:Int):decide (V.int a=V.int b)=decide (a=b):=by
 by_cases e:a=b
 ·subst e;simp
 ·rw[gB e,gB (by intro z;injection z with z;exact e z)]
theorem Jv{a b:Int}:(!decide (V.int a=V.int b))= !decide (a=b):=by rw[intV_eq]
def Bh(K:W.Frag):Sp:=fun vs H Q _=>∃(b:Bool) (a l:Addr) (n:Int) (ts:List (Int×Int)) (xs:List Int),vs=[.ref a,.ref l]/\bA K H a n ts/\Fe K b H l (xs.map V.int)/\∀H',Same H H'->Q (.int ((ts.filter (inB xs)).length:Int)) H'
theorem Vk{α:Type}{p:α->Bool}{l:List α}{i:Nat}(hi:i<l.length):(l.take (i+1)).filter p=(l.take i).filter p++(if p l[i]=true then[l[i]]else[]):=by
 rw[Ao,iY hi,Rv]
 congr 1
 show[l[i]].filter p=_
 rw[M6]
 rfl
theorem Oi:FnScope ["web","some"] ["web","some"] (defScope Ro):=fsc
theorem Pg{f:Addr}{fd:FuncData}(F:Fun K "count_ties_in" "count_ties_in" Ro f fd)(bK:mg "len"=none):
  FnOk P w K mg base CX0 1 f fd ["web","some"] (Bh K):=by
 refine F.ok Oi (fun vs H Q E h=> ?_) (fun cdv A outer s H vs Q E hr h=> ?_)
 ·obtain⟨b,a,l,n,ts,xs,rfl,_⟩:=h
  rfl
 obtain⟨b,a,l,n,ts,xs,rfl,hA,hL,q⟩:=h
 refine⟨_,(bB (bV (dF zB rfl bK uV (aj (lX (own:=["tie"]) (caps:=["some"]) (ix:=[1]) rfl (dI (cR eZ (pv 0) aY (fun _ _=>rfl))) rfl rfl (.cons rfl rfl .nil) (fun _ _ _ _ _=>(dD (i:=0) (show(["tie","some"]:List Str).Nodup from by decide+kernel) rfl (Or.inl rfl))) (fun _ _ _ _ _=>Fp (PW.pt (pw_and (iW (lJ K hr.units) (cR (iQ K) (pv 0) aY (fun _ _=>rfl)) (pv 1) (by with_unfolding_all rfl)) (pw_and1 (iW (lJ K hr.units) (cR (iQ K) (pv 0) aY (fun _ _=>rfl)) (pv 1) (by with_unfolding_all rfl)))))) (fun _ _ _ _ _=>(pv 0))) ak)))),?_⟩
 obtain⟨ta,ra,a1,a2,a3⟩:=id hA.web
 have hra:=a3.len
 rw[aQ]at hra
 have h45:=hA.len
 refine⟨_,rfl,a,_,_,.ref ta,rfl,rfl,a1,rfl,ta,ra,rfl,a2,fun hz=> ?_⟩
 refine cZ (xs:=ra) (fun i acc σ H'=>acc.length=((ts.take i).filter (inB xs)).length/\Same H H'/\∃o,σ=[o,some (.ref l)]) ⟨rfl,Same.refl _,_,rfl⟩ (fun i acc σ H' _ p=>p.2.1.tup a2) (fun i acc σ H' hi p=> ?_) hz (fun i x acc σ H' hx p=> ?_) (fun acc σ H' p=> ?_)
 ·rw[p.1]
  exact gJ (yW _ _) (by rw[yV];exact Mj _ _)
 ·obtain⟨ea,sm,o,rfl⟩:=p
  obtain⟨t,hi,rfl,ht⟩:=gq a3 hx
  have hl:=Nv (hL.same sm)
  have e:∀(acc':List V) (c:Bool),c=inB xs ts[i]->acc'.length=acc.length+(if c=true then 1 else 0)->acc'.length=((ts.take (i+1)).filter (inB xs)).length:=fun acc' c hc hl=>by
   rw[Vk hi,iz,<-ea,hl,<-hc]
   cases c<;>rfl
  refine⟨_,rfl,t,_,_,.int (ts[i]).1,rfl,rfl,sm.tup ht,rfl,_,rfl,l,_,_,.int (ts[i]).1,rfl,hl,bL.ints xs,.int _,lay_ints xs,rfl,(by show 0<=60;decide),_,rfl,?_⟩
  rw[any_ints]
  refine ite2 (fun c=> ?_) (fun c=> ?_)
  ·refine⟨_,rfl,t,_,_,.int (ts[i]).2,rfl,rfl,sm.tup ht,rfl,_,rfl,l,_,_,.int (ts[i]).2,rfl,hl,bL.ints xs,.int _,lay_ints xs,rfl,(by show 0<=60;decide),_,rfl,?_⟩
   rw[any_ints]
   refine ite2 (fun c2=> ?_) (fun c2=> ?_)
   ·exact⟨_,rfl,e _ true (by unfold inB;rw[c,c2];rfl) (by rw[iz];rfl),sm,_,rfl⟩
   ·exact⟨e _ false (by unfold inB;rw[c,Bool.eq_false_iff.mpr c2];rfl) rfl,sm,_,rfl⟩
  ·exact⟨e _ false (by unfold inB;rw[Bool.eq_false_iff.mpr c];rfl) rfl,sm,_,rfl⟩
 ·intro p1 hp1
  obtain⟨ea,sm,_⟩:=p
  refine⟨p1,acc,rfl,.inl (SqL.of aM),fun _=> ?_⟩
  rw[ea,hra,ux]
  exact q _ (sm.trans (aR hp1 (.lst acc)))
def lF(K:W.Frag):Sp:=fun vs H Q _=>∃(b:Bool) (a l:Addr) (n:Int) (ts:List (Int×Int)) (xs:List Int),vs=[.ref a,.ref l]/\bA K H a n ts/\Fe K b H l (xs.map V.int)/\xs.Nodup/\xs.length<1000/\∀H',Same H H'->Q (.bl (cD ts xs true)) H'
theorem Gj:FnScope ["web","some"] ["web","some"] (defScope Q7):=fsc
theorem Hj{f f1:Addr}{fd d1:FuncData}(F:Fun K "are_all_tied" "are_all_tied" Q7 f fd)(D1:aL K mg "count_ties_in" Ro ["web","some"] f1 d1)(G1:FnOk P w K mg base CX0 1 f1 d1 ["web","some"] (Bh K))(bK:mg "len"=none):
  FnOk P w K mg base CX0 2 f fd ["web","some"] (lF K):=by
 refine F.ok Gj (fun vs H Q E h=> ?_) (fun cdv A outer s H vs Q E hr h=> ?_)
 ·obtain⟨b,a,l,n,ts,xs,rfl,_⟩:=h
  rfl
 obtain⟨b,a,l,n,ts,xs,rfl,hA,hL,nd,hz,q⟩:=h
 refine⟨_,(bB (bV (Fo op_eq (pc G1 hr D1 (aj (pv 0) (aj (pv 1) ak))) (fQ op_fdiv (fQ op_mul (dF zB rfl bK uV (aj (pv 1) ak)) (fQ op_sub (dF zB rfl bK uV (aj (pv 1) ak)) aY)) aY) (nomark _)))),?_⟩
 refine⟨_,rfl,_,rfl,b,a,l,n,ts,xs,rfl,hA,hL,fun H1 s1=> ?_⟩
 have hl:=Nv (hL.same s1)
 have el:((xs.map V.int).length:Int)=(xs.length:Int):=by rw[aQ]
 refine⟨_,rfl,l,_,rfl,hl,fun _=>⟨_,rfl,l,_,rfl,hl,fun _=>⟨_,_,rfl,rfl,_,_,rfl,rfl,.inl ⟨by rw[el];omega,by rw[el];omega⟩,_,_,rfl,rfl,⟨by decide,by decide⟩,rfl,?_⟩⟩⟩
 rw[intV_eq,el,Qu hA.pk nd]
 exact q H1 s1
def intsOf:List V->Option (List Int)
 |[]=>some []
 | .int i::xs=>(intsOf xs).map (i:: ·)
 |_::_=>none
theorem pL:∀ys:List Int,intsOf (ys.map V.int)=some ys
 |[]=>rfl
 |y::ys=>by show(intsOf (ys.map V.int)).map (y:: ·)=_;rw[pL ys];rfl
theorem tQ:∀{xs:List V} {b:Bool},V.bl b∈xs->intsOf xs=none
 |x::xs,b,h=>by
  rcases cT.mp h with e|e
  ·rw[<-e];rfl
  ·cases x with
   |int i=>show(intsOf xs).map (i:: ·)=none;rw[tQ e];rfl
   |_=>rfl
theorem qP:∀{xs:List V},Wo xs->(∃ys:List Int,xs=ys.map V.int)\/∃b,V.bl b∈xs
 |[],_=> .inl ⟨[],rfl⟩
 |x::xs,h=>by
  have hx:IB x:=h x jl
  cases x with
  |int i=>
   rcases qP (xs:=xs) (fun y hy=>h y (lZ _ hy))with⟨ys,e⟩|⟨b,e⟩
   ·exact .inl ⟨i::ys,by rw[e];rfl⟩
   ·exact .inr ⟨b,lZ _ e⟩
  |bl b=>exact .inr ⟨b,jl⟩
  |_=>exact hx.elim
def Wd:V->PyData
 | .int i=> .int i
 | .bl b=> .bool b
 |_=> .none
theorem PL{H:Hp}:∀{xs:List V},Wo xs->uM K H xs (xs.map Wd)
 |[],_=> .nil
 |x::xs,h=>by
  have hx:IB x:=h x jl
  have t:=PL (H:=H) (xs:=xs) fun y hy=>h y (lZ _ hy)
  cases x with
  |int i=>exact .cons (.int i) t
  |bl b=>exact .cons (.bl b) t
  |_=>exact hx.elim
theorem TV(n:Int)(ys:List Int):((ys.map V.int).map Wd).all (bw n)=ys.all (inR n):=by rw[CJ,XD];rfl
theorem Lz{n:Int}{xs:List V}{b:Bool}(h:V.bl b∈xs):(xs.map Wd).all (bw n)=false:=by
 rw[Bool.eq_false_iff]
 intro z
 have:=mO.mp z (.bool b) (eE.mpr ⟨_,h,rfl⟩)
 cases this
def qu(n:Int)(xs:List V):Bool:=match intsOf xs with
 |some ys=>ys.all (inR n)&&decide ys.Nodup
 |none=>false
def Eo(n:Int)(ts:List (Int×Int))(xs:List V):Bool:=match intsOf xs with
 |some ys=>qX n ts ys
 |none=>false
theorem uz(n:Int)(ys:List Int):qu n (ys.map V.int)=(ys.all (inR n)&&decide ys.Nodup):=by unfold qu;rw[pL]
theorem ud(n:Int)(ts:List (Int×Int))(ys:List Int):Eo n ts (ys.map V.int)=qX n ts ys:=by unfold Eo;rw[pL]
theorem zG{n:Int}{xs:List V}{b:Bool}(h:V.bl b∈xs):qu n xs=false:=by unfold qu;rw[tQ h]
theorem Tp{n:Int}{ts:List (Int×Int)}{xs:List V}{b:Bool}(h:V.bl b∈xs):Eo n ts xs=false:=by unfold Eo;rw[tQ h]
def zK(K:W.Frag):Sp:=fun vs H Q _=>∃(n:Int) (a:Addr) (xs:List V),vs=[.int n,.ref a]/\SqT K H a xs/\Wo xs/\xs.length<1000/\∀H',Same H H'->Q (.bl (qu n xs)) H'
theorem Gb:FnScope ["n","things"] ["n","things"] (defScope MP):=fsc
theorem GF{f f1:Addr}{fd d1:FuncData}(F:Fun K "are_unlike_places" "are_unlike_places" MP f fd)(D1:aL K mg "are_places" Mg ["n","things"] f1 d1)(G1:FnOk P w K mg base CX0 3 f1 d1 ["n","things"] (rO K))(Pr:mg "set"=none)(bK:mg "len"=none):
  FnOk P w K mg base CX0 4 f fd ["n","things"] (zK K):=by
 refine F.ok Gb (fun vs H Q E h=> ?_) (fun cdv A outer s H vs Q E hr h=> ?_)
 ·obtain⟨n,a,xs,rfl,_⟩:=h
  rfl
 obtain⟨n,a,xs,rfl,hS,hb,hz,q⟩:=h
 refine⟨_,(bB (bV (pe_and (pc G1 hr D1 (aj (pv 0) (aj (pv 1) ak))) (pe_one (Fo op_eq (Gv rfl rfl bK rfl Pr (aj (pv 1) ak)) (dF zB rfl bK uV (aj (pv 1) ak)) (nomark _)))))),?_⟩
 refine⟨_,rfl,_,rfl,true,n,a,xs,_,rfl,hS,PL hb,fun H1 s1=>⟨_,rfl,?_⟩⟩
 rcases qP hb with⟨ys,rfl⟩|⟨b,P0⟩
 ·rw[TV]
  rw[aQ]at hz
  rw[uz]at q
  refine ite2 (fun c=> ?_) (fun c=> ?_)
  ·refine⟨_,rfl,a,ys,rfl,s1.tup hS,hz,_,rfl,a,_,rfl,.inr (s1.tup hS),fun _=>⟨rfl,?_⟩⟩
   have e:decide (V.int (distinct ys:Int)=V.int ((ys.map V.int).length:Int))=(ys.all (inR n)&&decide ys.Nodup):=by
    rw[c,wfl,aQ,vA,uN,uN,<-qZ]
    constructor
    ·intro z;injection z with z;omega
    ·intro z;rw[z]
   rw[e]
   exact q H1 s1
  ·have e:(ys.all (inR n)&&decide ys.Nodup)=false:=by rw[Bool.eq_false_iff.mpr c];rfl
   have:=q H1 s1
   rw[e]at this;exact this
 ·rw[Lz P0]
  have:=q H1 s1
  rw[zG P0]at this
  exact iteF this
def qF(K:W.Frag):Sp:=fun vs H Q _=>∃(b:Bool) (a l:Addr) (n i:Int) (ts:List (Int×Int)) (xs:List Int),vs=[.ref a,.int i,.ref l]/\bA K H a n ts/\Fe K b H l (xs.map V.int)/\∀r H',Same H H'->H' r=some (.lst ((xs.filter fun o=>aU ts i o).map V.int))->H r=none->Q (.ref r) H'
theorem Ol:FnScope ["web","place","some"] ["web","place","some"] (defScope MN):=fsc
theorem Pj{f f1:Addr}{fd d1:FuncData}(F:Fun K "tied_among" "tied_among" MN f fd)(D1:aL K mg "has_tie" Fw ["web","one","other"] f1 d1)(G1:FnOk P w K mg base CX0 1 f1 d1 ["web","one","other"] (qz K)):
  FnOk P w K mg base CX0 2 f fd ["web","place","some"] (qF K):=by
 refine F.ok Ol (fun vs H Q E h=> ?_) (fun cdv A outer s H vs Q E hr h=> ?_)
 ·obtain⟨b,a,l,n,i,ts,xs,rfl,_⟩:=h
  rfl
 obtain⟨b,a,l,n,i,ts,xs,rfl,hA,hL,q⟩:=h
 refine⟨_,(bB (bV (lX (own:=["other"]) (caps:=["web","place"]) (ix:=[0,1]) rfl (Jo (pv 2)) rfl rfl (.cons rfl rfl (.cons rfl rfl .nil)) (fun _ _ _ _ _=>(dD (i:=0) (show(["other","web","place"]:List Str).Nodup from by decide+kernel) rfl (Or.inl rfl))) (fun _ _ _ _ _=>Fp (pt_val (pc G1 hr D1 (aj (pv 1) (aj (pv 2) (aj (pv 0) ak)))))) (fun _ _ _ _ _=>(pv 0))))),?_⟩
 refine⟨_,rfl,b,l,_,rfl,hL,fun hz=> ?_⟩
 refine Es (xs:=xs.map V.int) (fun k acc σ H'=>acc=((xs.take k).filter fun o=>aU ts i o).map V.int/\Same H H'/\∃o,σ=[o,some (.ref a),some (.int i)]) ⟨rfl,Same.refl _,_,rfl⟩ (fun k acc σ H' _ p=>hL.same p.2.1) (fun k acc σ H' hk p=> ?_) hz (fun k x acc σ H' hx p=> ?_) (fun acc σ H' p=> ?_)
 ·rw[p.1,aQ]
  exact gJ (yW _ _) (by rw[yV];exact Mj _ _)
 ·obtain⟨rfl,sm,o,rfl⟩:=p
  rw[gw]at hx
  cases ex:xs[k]? with
  |none=>rw[ex]at hx;cases hx
  |some y=>
   rw[ex]at hx
   cases hx
   obtain⟨hk,ey⟩:=Aq.mp ex
   refine⟨_,rfl,_,rfl,_,rfl,a,n,_,_,ts,rfl,(hA.same sm).web,fun H5 s5=>⟨_,rfl,?_⟩⟩
   have e:=Vk (p:=fun o=>aU ts i o) hk
   rw[ey]at e
   refine ite2 (fun c=> ?_) (fun c=> ?_)
   ·exact⟨_,rfl,by rw[e,bD c,bW];rfl,sm.trans s5,_,rfl⟩
   ·exact⟨by rw[e,bC c,uU],sm.trans s5,_,rfl⟩
 ·intro p1 hp1
  obtain⟨rfl,sm,_⟩:=p
  rw[aQ,ux]
  exact q p1 _ (sm.trans (aR hp1 _)) aM (sm.free hp1)
theorem Qt{xs:List Int}{k:Nat}(hk:k<=xs.length):cutV (xs.map V.int) (some (k:Int)) none=(xs.drop k).map V.int:=by
 unfold cutV
 rw[HT.sIx_nat,HT.sIx_none,aQ,Nat.min_eq_left hk,<-List.map_drop,List.take_of_length_le (by rw[aQ,Xl];omega)]
def vL(K:W.Frag):Sp:=fun vs H Q _=>∃(a l:Addr) (n:Int) (ts:List (Int×Int)) (xs:List V),vs=[.ref a,.ref l]/\bA K H a n ts/\SqT K H l xs/\Wo xs/\xs.length<62/\∀H',Same H H'->Q (.bl (Eo n ts xs)) H'
theorem J1:FnScope ["web","order"] ["web","order"] (defScope cO):=fsc
theorem Kz{f f1 f2 f3 f4:Addr}{fd d1 d2 d3 d4:FuncData}(F:Fun K "is_fold" "is_fold" cO f fd)(D1:aL K mg "need_web" yR ["thing"] f1 d1)(G1:FnOk P w K mg base CX0 7 f1 d1 ["thing"] (aZ K))(D2:aL K mg "are_unlike_places" MP ["n","things"] f2 d2)(G2:FnOk P w K mg base CX0 4 f2 d2 ["n","things"] (zK K))(D3:aL K mg "are_all_tied" Q7 ["web","some"] f3 d3)(G3:FnOk P w K mg base CX0 2 f3 d3 ["web","some"] (lF K))(D4:aL K mg "tied_among" MN ["web","place","some"] f4 d4)(G4:FnOk P w K mg base CX0 2 f4 d4 ["web","place","some"] (qF K))(bK:mg "len"=none)(cC:mg "isinstance"=none)(bN:mg "tuple"=none)(DP:mg "all"=none)(jA:mg "enumerate"=none):
  FnOk P w K mg base CX0 8 f fd ["web","order"] (vL K):=by
 refine F.ok J1 (fun vs H Q E h=> ?_) (fun cdv A outer s H vs Q E hr h=> ?_)
 ·obtain⟨a,l,n,ts,xs,rfl,_⟩:=h
  rfl
 obtain⟨a,l,n,ts,xs,rfl,hA,hL,hb,hz,q⟩:=h
 refine⟨_,(bh (jg (pc G1 hr D1 (aj (pv 0) ak))) (bh (ps_if (PW.pt (pw_or (pt_not (pt_val (dF fM rfl cC (by decide+kernel) (aj (pv 1) (aj (pe_bltn rfl bN (v:= .ty "tuple") (by decide+kernel) rfl) ak))))) (pw_or (iW op_ne (dF zB rfl bK uV (aj (pv 1) ak)) (cR eZ (pv 0) aY (fun _ _=>rfl)) (nomark _)) (pw_or1 (pt_not (pt_val (pc G2 hr D2 (aj (cR eZ (pv 0) aY (fun _ _=>rfl)) (aj (pv 1) ak))))))))) (bB (bV pe_bl)) ur) (bB (bV (dF (ig rfl) rfl DP (by decide+kernel) (aj (lX (own:=["k","place"]) (caps:=["web","order"]) (ix:=[0,1]) rfl (Jp rfl jA (aj (pv 1) ak)) rfl rfl (.cons rfl rfl (.cons rfl rfl .nil)) (fun _ _ _ _ _=>(eN K (n:=2) rfl (zA (dD (i:=0) (show(["k","place","web","order"]:List Str).Nodup from by decide+kernel) rfl (Or.inl rfl)) (zA (dD (i:=1) (show(["k","place","web","order"]:List Str).Nodup from by decide+kernel) rfl (Or.inl rfl)) pgs_nil)))) (fun _ _ _ _ _=>zy) (fun _ _ _ _ _=>(pc G3 hr D3 (aj (pv 2) (aj (pc G4 hr D4 (aj (pv 2) (aj (pv 1) (aj (pe_slice (N6 K) (pv 3) (po_some (pv 0)) po_none) ak)))) ak))))) ak)))))),?_⟩
 refine⟨_,rfl,_,_,rfl,hA.web.dv.dx,hA.ok,fun H1 s1=> ?_⟩
 have hL1:=s1.tup hL
 obtain⟨ta,ra,a1,a2,a3⟩:=id (hA.same s1).web
 refine⟨_,rfl,.ref l,"tuple",_,rfl,.inl ⟨rfl,_,hL1⟩,.inr (.inr (.inl rfl)),_,rfl,?_⟩
 refine iteF ?_
 refine⟨_,rfl,l,_,rfl,.inr hL1,fun _=>⟨_,rfl,a,_,_,.int n,rfl,rfl,a1,rfl,rfl,_,rfl,?_⟩⟩
 rw[Jv]
 have no:∀ys:List Int,xs=ys.map V.int->qX n ts ys=false->∀H',Same H H'->Q (.bl false) H':=fun ys e hf H' s=>by
  have:=q H' s
  rw[e,ud,hf]at this;exact this
 have nob:∀b,V.bl b∈xs->∀H',Same H H'->Q (.bl false) H':=fun b e H' s=>by
  have:=q H' s
  rw[Tp e]at this;exact this
 refine ite2 (fun c=> ?_) (fun c=> ?_)
 ·rcases qP hb with⟨ys,e⟩|⟨b,P0⟩
  ·refine no ys e ?_ H1 s1
   unfold qX
   rw[gB (by rw[e,aQ]at c;simpa using c)]
   rfl
  ·exact nob b P0 H1 s1
 refine⟨_,rfl,a,_,_,.int n,rfl,rfl,a1,rfl,_,rfl,n,l,xs,rfl,hL1,hb,by omega,fun H2 s2=>⟨_,rfl,?_⟩⟩
 have s12:=s1.trans s2
 rcases qP hb with⟨ys,rfl⟩|⟨b,P0⟩
 ·rw[uz]
  rw[aQ]at c hz
  have hlen:(ys.length:Int)=n:=by simpa using c
  refine ite2 (fun c2=> ?_) (fun c2=> ?_)
  ·refine no ys rfl ?_ H2 s12
   unfold qX
   rw[show(ys.all (inR n)&&decide ys.Nodup)=false from(UJ _).mp c2]
   simp
  have c3:(ys.all (inR n)&&decide ys.Nodup)=true:=by
   cases h:(ys.all (inR n)&&decide ys.Nodup)with
   |true=>rfl
   |false=>exact absurd (by rw[h];rfl) c2
  have nd:ys.Nodup:=by rw[qt]at c3;exact yZ c3.2
  have hL2:=s2.tup hL1
  refine⟨_,rfl,true,l,_,rfl,hL2,fun hz2=> ?_⟩
  refine Lr (K:=K) (b:=true) (a:=l) (xs:=ys.map V.int) (fun i acc σ H'=>acc=((List.range i).map (qy ts ys)).map V.bl/\Same H2 H'/\∃o1 o2,σ=[o1,o2,some (.ref a),some (.ref l)]) ⟨rfl,Same.refl _,_,_,rfl⟩ (fun i acc σ H' _ p=>p.2.1.tup hL2) (fun i acc σ H' hi p=> ?_) hz2 (fun i v t acc σ H' hv p ht=> ?_) (fun acc σ H' p=> ?_)
  ·rw[p.1];simp
  ·obtain⟨rfl,sm,o1,o2,rfl⟩:=p
   rw[gw]at hv
   cases ey:ys[i]? with
   |none=>rw[ey]at hv;cases hv
   |some y=>
    rw[ey]at hv
    cases hv
    obtain⟨hi,e⟩:=Aq.mp ey
    have egy:ys.getD i 0=y:=by rw[zE,ey];rfl
    have s3:=aR ht (.tup [.int (i:Int),.int y])
    have s23:=sm.trans s3
    refine⟨t,_,rfl,SqT.of aM,rfl,_,_,rfl,_,_,rfl,rfl,?_⟩
    refine⟨_,rfl,_,rfl,_,rfl,_,rfl,_,rfl,(i:Int),rfl,l,_,rfl,s23.tup hL2,fun r H4 s4 h4=> ?_⟩
    rw[Qt (by omega)]at h4
    have hA4:=hA.same (s12.trans (s23.trans s4))
    refine⟨true,a,r,n,y,ts,ys.drop i,rfl,hA4,h4,fun r5 H5 s5 h5 n5=> ?_⟩
    have ed:=Lk (ts:=ts) (xs:=ys) (k:=i) hA.pk hi
    rw[egy]at ed
    rw[ed]at h5
    refine⟨false,a,r5,n,ts,_,rfl,hA4.same s5,SqL.of h5,?_,?_,fun H6 s6=>⟨?_,s23.trans (s4.trans (s5.trans s6)),_,_,rfl⟩⟩
    ·exact(nd.sublist (List.drop_sublist _ _)).filter _
    ·refine Ft (yW _ _) ?_
     rw[Xl]
     omega
    ·rw[Ml,bW,bW]
     have:qy ts ys i=cD ts ((ys.drop (i+1)).filter fun o=>aq ts y o) true:=by unfold qy;rw[egy]
     show _=_++[V.bl (qy ts ys i)]
     rw[this]
  ·intro p1 hp1
   obtain⟨rfl,sm,_⟩:=p
   refine⟨p1,((List.range ys.length).map (qy ts ys)),rfl,SqL.of (by rw[aM,aQ]),?_⟩
   have:=q _ (s12.trans (sm.trans (aR hp1 (.lst (((List.range (ys.map V.int).length).map (qy ts ys)).map V.bl)))))
   rw[ud]at this
   rw[iu]
   have e:qX n ts ys=(List.range ys.length).all (qy ts ys):=by unfold qX;rw[cJ hlen,c3];rfl
   rw[e]at this;exact this
 ·rw[zG P0]
  refine ite2 (fun c2=> ?_) (fun c2=>absurd rfl c2)
  exact nob b P0 H2 s12
theorem QH(n:Int)(ys:List Int):(ys.map PyData.int).all (bw n)=ys.all (inR n):=by rw[XD];rfl
def CT(K:W.Frag):Sp:=fun vs H Q _=>∃(n:Int) (a:Addr) (xs:List Int),vs=[.int n,.ref a]/\SqL K H a (xs.map V.int)/\xs.length<1000/\∀H',Same H H'->Q (.bl (xs.all (inR n)&&decide xs.Nodup)) H'
theorem JX:FnScope ["n","things"] ["n","things"] (defScope MP):=fsc
theorem Ku{f f1:Addr}{fd d1:FuncData}(F:Fun K "are_unlike_places" "are_unlike_places" MP f fd)(D1:aL K mg "are_places" Mg ["n","things"] f1 d1)(G1:FnOk P w K mg base CX0 3 f1 d1 ["n","things"] (rO K))(Pr:mg "set"=none)(bK:mg "len"=none):
  FnOk P w K mg base CX0 4 f fd ["n","things"] (CT K):=by
 refine F.ok JX (fun vs H Q E h=> ?_) (fun cdv A outer s H vs Q E hr h=> ?_)
 ·obtain⟨n,a,xs,rfl,_⟩:=h
  rfl
 obtain⟨n,a,xs,rfl,hS,hz,q⟩:=h
 refine⟨_,(bB (bV (pe_and (pc G1 hr D1 (aj (pv 0) (aj (pv 1) ak))) (pe_one (Fo op_eq (Kg rfl rfl bK rfl Pr (aj (pv 1) ak)) (dF zB rfl bK uV (aj (pv 1) ak)) (nomark _)))))),?_⟩
 refine⟨_,rfl,_,rfl,false,n,a,_,_,rfl,hS,bL.dx (bL.ints xs),fun H1 s1=>⟨_,rfl,?_⟩⟩
 rw[QH]
 refine ite2 (fun c=> ?_) (fun c=> ?_)
 ·refine⟨_,rfl,a,xs,rfl,s1.seq hS,hz,_,rfl,a,_,rfl,.inl (s1.seq hS),fun _=>⟨rfl,?_⟩⟩
  have e:decide (V.int (distinct xs:Int)=V.int ((xs.map V.int).length:Int))=(xs.all (inR n)&&decide xs.Nodup):=by
   rw[c,wfl,aQ,vA,uN,uN,<-qZ]
   constructor
   ·intro z;injection z with z;omega
   ·intro z;rw[z]
  rw[e]
  exact q H1 s1
 ·have e:(xs.all (inR n)&&decide xs.Nodup)=false:=by rw[Bool.eq_false_iff.mpr c];rfl
  have:=q H1 s1
  rw[e]at this;exact this
theorem Sd{n:Int}{xs:List Int}(hn:n<=10)(h:xs.all (inR n)=true)(nd:xs.Nodup):xs.length<=10:=by
 have h1:Sub n.toNat xs:=⟨nd,fun i hi=>by
  have:=mO.mp h i hi
  unfold inR at this
  simp at this
  omega⟩
 have:=h1.len
 omega
def nG(K:W.Frag):Sp:=fun vs H Q _=>∃(a l:Addr) (n:Int) (ts:List (Int×Int)) (xs:List Int),vs=[.ref a,.ref l]/\bA K H a n ts/\SqL K H l (xs.map V.int)/\xs.length<1000/\∀H',Same H H'->Q (.bl (jd n ts xs)) H'
theorem Rz(x a b:Int):([PyData.int a,PyData.int b].any fun d=>PyData.eqv d (.int x))=(decide (x=a)||decide (x=b)):=by
 show((a==x)||((b==x)||false))=_
 rw[wfk]
 congr 1
 ·rw[vA];simp;exact⟨fun h=>h.symm,fun h=>h.symm⟩
 ·rw[vA];simp;exact⟨fun h=>h.symm,fun h=>h.symm⟩
theorem uE:FnScope ["web","some","steps"] ["web","some"] (defScope Ug):=fsc
theorem DK{f f1 f2 f3 f4:Addr}{fd d1 d2 d3 d4:FuncData}{tk0:Tok}(F:Fun K "is_bare_ring" "is_bare_ring" Ug f fd)(D1:aL K mg "need_web" yR ["thing"] f1 d1)(G1:FnOk P w K mg base CX0 7 f1 d1 ["thing"] (aZ K))(D2:aL K mg "are_unlike_places" MP ["n","things"] f2 d2)(G2:FnOk P w K mg base CX0 4 f2 d2 ["n","things"] (CT K))(D3:aL K mg "pairs" cL ["n"] f3 d3)(G3:FnOk P w K mg base CX0 1 f3 d3 ["n"] (rR K))(D4:aL K mg "has_tie" Fw ["web","one","other"] f4 d4)(G4:FnOk P w K mg base CX0 1 f4 d4 ["web","one","other"] (qz K))(bK:mg "len"=none)(cC:mg "isinstance"=none)(wI:mg "list"=none)(DP:mg "all"=none)(cY:mg "LEAST_BARE_RING"=some (.int 4 tk0)):
  FnOk P w K mg base CX0 8 f fd ["web","some"] (nG K):=by
 refine F.ok uE (fun vs H Q E h=> ?_) (fun cdv A outer s H vs Q E hr h=> ?_)
 ·obtain⟨a,l,n,ts,xs,rfl,_⟩:=h
  rfl
 obtain⟨a,l,n,ts,xs,rfl,hA,hL,hz,q⟩:=h
 refine⟨_,(bh (jg (pc G1 hr D1 (aj (pv 0) ak))) (bh (ps_if (PW.pt (pw_or (pt_not (pt_val (dF fM rfl cC (by decide+kernel) (aj (pv 1) (aj (pe_bltn rfl wI (v:= .ty "list") (by decide+kernel) rfl) ak))))) (pw_or (iW op_lt (dF zB rfl bK uV (aj (pv 1) ak)) (CG rfl cY (v:= .int 4) ⟨_,rfl⟩) (nomark _)) (pw_or1 (pt_not (pt_val (pc G2 hr D2 (aj (cR eZ (pv 0) aY (fun _ _=>rfl)) (aj (pv 1) ak))))))))) (bB (bV pe_bl)) ur) (bh (gG (i:=2) uE.nd rfl (Or.inr rfl) (gH (aj aY (aj (fQ op_sub (dF zB rfl bK uV (aj (pv 1) ak)) aY) ak)))) (bB (bV (dF (ig rfl) rfl DP (by decide+kernel) (aj (lX (own:=["i","j"]) (caps:=["web","some","steps"]) (ix:=[0,1,2]) rfl (Mf (pc G3 hr D3 (aj (dF zB rfl bK uV (aj (pv 1) ak)) ak))) rfl rfl (.cons rfl rfl (.cons rfl rfl (.cons rfl rfl .nil))) (fun _ _ _ _ _=>(eN K (n:=2) rfl (zA (dD (i:=0) (show(["i","j","web","some","steps"]:List Str).Nodup from by decide+kernel) rfl (Or.inl rfl)) (zA (dD (i:=1) (show(["i","j","web","some","steps"]:List Str).Nodup from by decide+kernel) rfl (Or.inl rfl)) pgs_nil)))) (fun _ _ _ _ _=>zy) (fun _ _ _ _ _=>(Fo op_eq (pc G4 hr D4 (aj (pv 2) (aj (cR (jZ K) (pv 3) (pv 0) (fun _ _=>rfl)) (aj (cR (jZ K) (pv 3) (pv 1) (fun _ _=>rfl)) ak)))) (Fo (lJ K hr.units) (fQ op_sub (pv 1) (pv 0)) (pv 4) (by with_unfolding_all rfl)) (nomark _)))) ak))))))),?_⟩
 have vh:=hA.h1
 refine⟨_,rfl,_,_,rfl,hA.web.dv.dx,hA.ok,fun H1 s1=> ?_⟩
 have hL1:=s1.seq hL
 obtain⟨ta,ra,a1,a2,a3⟩:=id (hA.same s1).web
 refine⟨_,rfl,.ref l,"list",_,rfl,.inr (.inl ⟨rfl,_,hL1⟩),.inr (.inr (.inr rfl)),_,rfl,?_⟩
 refine iteF ?_
 refine⟨_,rfl,l,_,rfl,.inl hL1,fun _=>⟨_,_,rfl,rfl,_,rfl,?_⟩⟩
 refine ite2 (fun c=> ?_) (fun c=> ?_)
 ·have h4:((xs.map V.int).length:Int)<4:=yZ c
  rw[aQ]at h4
  have:=q H1 s1
  rw[Ii (by omega)]at this;exact this
 have h4:4<=xs.length:=by
  have:¬((xs.map V.int).length:Int)<4:=fun z=>c (cJ z)
  rw[aQ]at this
  omega
 refine⟨_,rfl,a,_,_,.int n,rfl,rfl,a1,rfl,_,rfl,n,l,xs,rfl,hL1,hz,fun H2 s2=>⟨_,rfl,?_⟩⟩
 refine ite2 (fun c2=> ?_) (fun c2=> ?_)
 ·have e:jd n ts xs=false:=by
   have c2:(xs.all (inR n)&&decide xs.Nodup)=false:=(UJ _).mp c2
   cases hr:xs.all (inR n)with
   |false=>exact QD hr
   |true=>rw[hr,wfl]at c2;exact QF (wdy c2)
  have:=q H2 (s1.trans s2)
  rw[e]at this;exact this
 have c3:(xs.all (inR n)&&decide xs.Nodup)=true:=by
  cases h:(xs.all (inR n)&&decide xs.Nodup)with
  |true=>rfl
  |false=>exact absurd (by rw[h];rfl) c2
 rw[qt]at c3
 have h10:=Sd vh c3.1 (yZ c3.2)
 have hL2:=s2.seq hL1
 refine⟨_,rfl,l,_,rfl,.inl hL2,fun _=>⟨_,_,rfl,rfl,(by show 2<=sizeLine;decide),fun st hst=> ?_⟩⟩
 have s3:=aR hst (.tup [.int 1,.int (((xs.map V.int).length:Int)-1)])
 have hL3:=s3.seq hL2
 have aej:SqT K (upd H2 st (.tup [.int 1,.int (((xs.map V.int).length:Int)-1)])) st [.int 1,.int (((xs.map V.int).length:Int)-1)]:=SqT.of aM
 have s03:=s1.trans (s2.trans s3)
 have el:((xs.map V.int).length:Int)=(xs.length:Int):=by rw[aQ]
 refine⟨_,rfl,l,_,rfl,.inl hL3,fun _=>⟨((xs.map V.int).length:Int),rfl,by omega,by rw[el];omega,fun pl H4 s4 p1=> ?_⟩⟩
 rw[el]at p1
 obtain⟨rs,e1,v1⟩:=p1.ex
 refine⟨pl,rs,rfl,SqL.of e1,fun hz4=> ?_⟩
 have hlen:=v1.len
 rw[aQ]at hlen
 have s04:=s03.trans s4
 generalize hR:rows tt (xs.length:Int) (xs.length:Int).toNat=R at *
 have hR':∀p∈R,0<=p.1/\p.1<p.2/\p.2<(xs.length:Int):=fun p hp=>by rw[<-hR,JL]at hp;exact⟨hp.1,hp.2.2.1,hp.2.2.2.1⟩
 refine MF (xs:=rs) (fun i acc σ H'=>acc=((R.take i).map fun p=>aU ts (xs.getD p.1.toNat 0) (xs.getD p.2.toNat 0)==uD (xs.length:Int) p.1 p.2).map V.bl/\Same H4 H'/\∃o1 o2,σ=[o1,o2,some (.ref a),some (.ref l),some (.ref st)]) ⟨rfl,Same.refl _,_,_,rfl⟩ (fun i acc σ H' _ p=>p.2.1.seq (SqL.of e1)) (fun i acc σ H' hi p=> ?_) hz4 (fun i x acc σ H' hx p=> ?_) (fun acc σ H' p=> ?_)
 ·rw[p.1];simp;omega
 ·obtain⟨rfl,sm,b1,b2,rfl⟩:=p
  obtain⟨t,hi,rfl,ht⟩:=gq v1 hx
  have hp:=hR' R[i] (yU _)
  have s4m:=s4.trans sm
  refine⟨t,_,rfl,sm.tup ht,rfl,_,_,rfl,_,_,rfl,rfl,?_⟩
  refine⟨_,rfl,_,rfl,_,rfl,l,_,_,_,rfl,rfl,s4m.seq hL3,JG hp.1 (by omega),_,rfl,_,rfl,l,_,_,_,rfl,rfl,s4m.seq hL3,JG (by omega) hp.2.2,a,n,_,_,ts,rfl,(hA.same (s03.trans s4m)).web,fun H5 s5=> ?_⟩
  refine⟨_,rfl,_,rfl,_,_,rfl,rfl,_,rfl,st,_,[.int 1,.int (((xs.map V.int).length:Int)-1)],.int ((R[i]).2-(R[i]).1),rfl,.inr ((s4m.trans s5).tup aej),.cons (.int _) (.cons (.int _) .nil),.int _,rfl,rfl,(by show 0<=60;decide),rfl,?_,sm.trans s5,_,_,rfl⟩
  rw[Rz,blV_eq,el]
  exact zj (f:=fun p:Int×Int=>aU ts (xs.getD p.1.toNat 0) (xs.getD p.2.toNat 0)==uD (xs.length:Int) p.1 p.2) hi
 ·intro p1 hp1
  obtain⟨rfl,sm,_⟩:=p
  refine⟨p1,(R.map fun p=>aU ts (xs.getD p.1.toNat 0) (xs.getD p.2.toNat 0)==uD (xs.length:Int) p.1 p.2),rfl,SqL.of (by rw[aM,hlen,ux]),?_⟩
  have:=q _ (s04.trans (sm.trans (aR hp1 (.lst (((R.take rs.length).map fun p=>aU ts (xs.getD p.1.toNat 0) (xs.getD p.2.toNat 0)==uD (xs.length:Int) p.1 p.2).map V.bl)))))
  rw[iu]
  have e:jd n ts xs=R.all fun p=>aU ts (xs.getD p.1.toNat 0) (xs.getD p.2.toNat 0)==uD (xs.length:Int) p.1 p.2:=by unfold jd;rw[hR,cJ h4,c3.1,c3.2];rfl
  rw[e]at this;exact this
def zJ(K:W.Frag):Sp:=fun vs H Q _=>∃(a b:Addr) (xs:List Int) (p:Int),vs=[.ref a,.ref b]/\SqT K H a (xs.map V.int)/\SqT K H b [.int p]/\∀r H',Same H H'->SqT K H' r ((xs.filter fun o=> !decide (o∈[p])).map V.int)->Q (.ref r) H'
theorem Ga:FnScope ["some","part"] ["some","part"] (defScope cN):=fsc
theorem Gz{f:Addr}{fd:FuncData}(F:Fun K "without" "without" cN f fd)(bN:mg "tuple"=none):
  FnOk P w K mg base CX0 1 f fd ["some","part"] (zJ K):=by
 refine F.ok Ga (fun vs H Q E h=> ?_) (fun cdv A outer s H vs Q E hr h=> ?_)
 ·obtain⟨a,b,xs,p,rfl,_⟩:=h
  rfl
 obtain⟨a,b,xs,p,rfl,hA,hB,q⟩:=h
 refine⟨_,(bB (bV (Fv JN rfl bN (by decide+kernel) (aj (lX (own:=["place"]) (caps:=["part"]) (ix:=[1]) rfl (dI (pv 0)) rfl rfl (.cons rfl rfl .nil) (fun _ _ _ _ _=>(dD (i:=0) (show(["place","part"]:List Str).Nodup from by decide+kernel) rfl (Or.inl rfl))) (fun _ _ _ _ _=>Fp (iW (iJ K hr.units) (pv 0) (pv 1) (by with_unfolding_all rfl))) (fun _ _ _ _ _=>(pv 0))) ak)))),?_⟩
 refine⟨_,rfl,a,_,rfl,hA,fun hz=> ?_⟩
 refine cZ (xs:=xs.map V.int) (fun k acc σ H'=>acc=((xs.take k).filter fun o=> !decide (o∈[p])).map V.int/\Same H H'/\∃o,σ=[o,some (.ref b)]) ⟨rfl,Same.refl _,_,rfl⟩ (fun k acc σ H' _ p=>p.2.1.tup hA) (fun k acc σ H' hk p=> ?_) hz (fun k x acc σ H' hx pp=> ?_) (fun acc σ H' p=> ?_)
 ·rw[p.1,aQ]
  exact gJ (yW _ _) (by rw[yV];exact Mj _ _)
 ·obtain⟨rfl,sm,o,rfl⟩:=pp
  rw[gw]at hx
  cases ex:xs[k]? with
  |none=>rw[ex]at hx;cases hx
  |some y=>
   rw[ex]at hx
   cases hx
   obtain⟨hk,ey⟩:=Aq.mp ex
   have e:=Vk (p:=fun o=> !decide (o∈[p])) hk
   rw[ey]at e
   refine⟨_,rfl,_,rfl,b,_,_,.int y,rfl,.inr (sm.tup hB),bL.ints [p],.int _,lay_ints [p],rfl,(by show 0<=60;decide),_,rfl,?_⟩
   rw[any_ints]
   refine ite2 (fun c=> ?_) (fun c=> ?_)
   ·exact⟨_,rfl,by rw[e,bD c,bW];rfl,sm,_,rfl⟩
   ·exact⟨by rw[e,bC c,uU],sm,_,rfl⟩
 ·intro p1 hp1
  obtain⟨rfl,sm,_⟩:=p
  refine⟨p1,_,rfl,.inl ⟨SqL.of aM,fun l hl=> ?_⟩⟩
  exact q l _ (sm.trans ((aR hp1 _).trans (aR hl _))) (SqT.of (by rw[aM,aQ,ux]))
def Jf(K:W.Frag):Sp:=fun vs H Q _=>∃(a l:Addr) (n:Int) (ts:List (Int×Int)) (xs:List Int),vs=[.ref a,.ref l]/\bA K H a n ts/\SqT K H l (xs.map V.int)/\xs.Nodup/\xs.length<1000/\
 (∀v∈xs,bZ.Simp (aq ts) xs v->∀H',Same H H'->Q (.int v) H')/\((∀v∈xs,¬bZ.Simp (aq ts) xs v)->∀H',Same H H'->Q .non H')
theorem Dm:FnScope ["web","left","place"] ["web","left"] (defScope Ud):=fsc
theorem Pb{f f1 f2:Addr}{fd d1 d2:FuncData}(F:Fun K "first_to_go" "first_to_go" Ud f fd)(D1:aL K mg "are_all_tied" Q7 ["web","some"] f1 d1)(G1:FnOk P w K mg base CX0 2 f1 d1 ["web","some"] (lF K))(D2:aL K mg "tied_among" MN ["web","place","some"] f2 d2)(G2:FnOk P w K mg base CX0 2 f2 d2 ["web","place","some"] (qF K)):
  FnOk P w K mg base CX0 3 f fd ["web","left"] (Jf K):=by
 refine F.ok Dm (fun vs H Q E h=> ?_) (fun cdv A outer s H vs Q E hr h=> ?_)
 ·obtain⟨a,l,n,ts,xs,rfl,_⟩:=h
  rfl
 obtain⟨a,l,n,ts,xs,rfl,hA,hL,nd,hz,q1,q2⟩:=h
 refine⟨_,(bh (ps_for Mv rfl (dI (pv 1)) (dD (i:=2) Dm.nd rfl (Or.inl rfl)) (bB (ps_if (pt_val (pc G1 hr D1 (aj (pv 0) (aj (pc G2 hr D2 (aj (pv 0) (aj (pv 2) (aj (pv 1) ak)))) ak)))) (bB (bV (pv 2))) ur))) (bB (bV pe_non))),?_⟩
 refine⟨_,rfl,l,_,rfl,hL,fun _=> ?_⟩
 refine for_tup (K:=K) (a:=l) (xs:=xs.map V.int) (fun i σ H'=>Same H H'/\(∀v∈xs.take i,¬bZ.Simp (aq ts) xs v)/\∃o,σ=[some (.ref a),some (.ref l),o]) ⟨Same.refl _,(by intro v hv;simp at hv),_,rfl⟩ (fun i σ H' _ p=>p.1.tup hL) (fun i x σ H' hx p=> ?_) (fun σ H' p=> ?_)
 ·obtain⟨sm,no,o,rfl⟩:=p
  rw[gw]at hx
  cases ex:xs[i]? with
  |none=>rw[ex]at hx;cases hx
  |some y=>
   rw[ex]at hx
   cases hx
   have hm:=Fz ex
   have vh:=hA.same sm
   refine⟨_,rfl,_,rfl,_,rfl,_,rfl,true,a,l,n,y,ts,xs,rfl,vh,sm.tup hL,fun r H5 s5 h5 n5=> ?_⟩
   have ef:(xs.filter fun o=>aU ts y o)=xs.filter fun o=>aq ts y o:=wei fun o _=>tied_eq hA.pk y o
   rw[ef]at h5
   refine⟨false,a,r,n,ts,_,rfl,vh.same s5,SqL.of h5,nd.filter _,Ft (yW _ _) hz,fun H6 s6=>⟨_,rfl,?_⟩⟩
   have U3:=sm.trans (s5.trans s6)
   refine ite2 (fun c=> ?_) (fun c=> ?_)
   ·exact⟨_,rfl,q1 y hm ((HB nd).mp c) H6 U3⟩
   ·refine⟨U3,fun v hv=> ?_,_,rfl⟩
    rw[Ao,ex]at hv
    rcases fj.mp hv with z|z
    ·exact no v z
    ·rw[jk.mp z];exact fun z=>c ((HB nd).mpr z)
 ·obtain⟨sm,no,_⟩:=p
  rw[aQ,ux]at no
  exact q2 no H' sm
def steps(n:Int)(ts:List (Int×Int))(p:List Int)(y:Int):List Int:=(qL n ts y).filter fun o=> !decide (o∈p++[y])&&(p.tail.filter fun z=>aU ts o z).isEmpty
theorem Tw(p:List Int)(y:Int):cutV ((p++[y]).map V.int) (some 1) (some (-1))=p.tail.map V.int:=by
 unfold cutV
 have e1:HT.sIx ((p++[y]).map V.int).length 0 (some 1)=1:=by
  have:=HT.sIx_nat ((p++[y]).map V.int).length 0 1
  rw[show((1:Nat):Int)=1 from rfl]at this
  rw[this];simp
 have e2:HT.sIx ((p++[y]).map V.int).length ((p++[y]).map V.int).length (some (-1))=p.length:=by
  show(if(-1:Int)<0 then((-1:Int)+(((p++[y]).map V.int).length:Int)).toNat else min (-1:Int).toNat ((p++[y]).map V.int).length)=p.length
  rw[bD (by decide),aQ,iz,wcv]
  omega
 rw[e1,e2]
 cases p with
 |nil=>rfl
 |cons a p=>
  show(((p++[y]).map V.int).take (p.length+1-1))=_
  rw[Nat.add_sub_cancel,bW,<-aQ (f:=V.int) (as:=p),List.take_left]
  rfl
def NP(K:W.Frag):Sp:=fun vs H Q _=>∃(a l:Addr) (n:Int) (ts:List (Int×Int)) (p:List Int) (y:Int),vs=[.ref a,.ref l]/\bA K H a n ts/\SqL K H l ((p++[y]).map V.int)/\(0<=y/\y<n)/\
 ∀r H',Same H H'->H' r=some (.lst ((steps n ts p y).map V.int))->H r=none->Q (.ref r) H'
theorem Jj:FnScope ["web","path","near"] ["web","path"] (defScope Uc):=fsc
theorem R5{f f1 f2:Addr}{fd d1 d2:FuncData}(F:Fun K "next_steps" "next_steps" Uc f fd)(D1:aL K mg "neighbours" Rk ["web","place"] f1 d1)(G1:FnOk P w K mg base CX0 8 f1 d1 ["web","place"] (uY K))(D2:aL K mg "tied_among" MN ["web","place","some"] f2 d2)(G2:FnOk P w K mg base CX0 2 f2 d2 ["web","place","some"] (qF K)):
  FnOk P w K mg base CX0 9 f fd ["web","path"] (NP K):=by
 refine F.ok Jj (fun vs H Q E h=> ?_) (fun cdv A outer s H vs Q E hr h=> ?_)
 ·obtain⟨a,l,n,ts,p,y,rfl,_⟩:=h
  rfl
 obtain⟨a,l,n,ts,p,y,rfl,hA,hL,hy,q⟩:=h
 refine⟨_,(bh (gG (i:=2) Jj.nd rfl (Or.inl rfl) (pc G1 hr D1 (aj (pv 0) (aj (cR ix_list (pv 1) (pe_un un_neg aY) (fun _ _=>rfl)) ak)))) (bB (bV (lX (own:=["place"]) (caps:=["path","web"]) (ix:=[1,0]) rfl (dI (pv 2)) rfl rfl (.cons rfl rfl (.cons rfl rfl .nil)) (fun _ _ _ _ _=>(dD (i:=0) (show(["place","path","web"]:List Str).Nodup from by decide+kernel) rfl (Or.inl rfl))) (fun _ _ _ _ _=>Fp (PW.pt (pw_and (iW (iJ K hr.units) (pv 0) (pv 1) (by with_unfolding_all rfl)) (pw_and1 (pt_not (gM K (pc G2 hr D2 (aj (pv 2) (aj (pv 0) (aj (pe_slice (N7 K) (pv 1) (po_some aY) (po_some (pe_un un_neg aY))) ak)))) (fun _=>rfl))))))) (fun _ _ _ _ _=>(pv 0)))))),?_⟩
 have YF:atI ((p++[y]).map V.int) (-1)=some (.int y):=by rw[bW];exact atI_last _ _
 refine⟨_,rfl,_,rfl,1,rfl,l,_, -1,.int y,rfl,rfl,hL,YF,a,n,y,ts,rfl,hA.web,hA.ok,hy,hA.h1,fun t H1 s1 h1=> ?_⟩
 have hL1:=s1.seq hL
 refine⟨_,rfl,t,_,rfl,SqT.of h1,fun hz=> ?_⟩
 refine cZ (xs:=(qL n ts y).map V.int) (fun k acc σ H'=>acc=(((qL n ts y).take k).filter fun o=> !decide (o∈p++[y])&&(p.tail.filter fun z=>aU ts o z).isEmpty).map V.int/\Same H1 H'/\∃o,σ=[o,some (.ref l),some (.ref a)]) ⟨rfl,Same.refl _,_,rfl⟩ (fun k acc σ H' _ p=>p.2.1.tup (SqT.of h1)) (fun k acc σ H' hk p=> ?_) hz (fun k x acc σ H' hx pp=> ?_) (fun acc σ H' pp=> ?_)
 ·rw[p.1,aQ]
  exact gJ (yW _ _) (by rw[yV];exact Mj _ _)
 ·obtain⟨rfl,sm,o,rfl⟩:=pp
  rw[gw]at hx
  cases ex:(qL n ts y)[k]? with
  |none=>rw[ex]at hx;cases hx
  |some z=>
   rw[ex]at hx
   cases hx
   obtain⟨hk,ey⟩:=Aq.mp ex
   have e:=Vk (p:=fun o=> !decide (o∈p++[y])&&(p.tail.filter fun z=>aU ts o z).isEmpty) hk
   rw[ey]at e
   have hL2:=sm.seq hL1
   refine⟨_,rfl,_,rfl,l,_,_,.int z,rfl,.inl hL2,bL.ints (p++[y]),.int _,lay_ints (p++[y]),rfl,(by show 0<=60;decide),_,rfl,?_⟩
   rw[any_ints]
   refine ite2 (fun c=> ?_) (fun c=> ?_)
   ·refine⟨_,rfl,_,rfl,_,rfl,1,rfl,_,rfl, -1,rfl,l,_,rfl,hL2,fun p3 hp3=> ?_⟩
    rw[Tw]
    have s3:=aR hp3 (.lst (p.tail.map V.int))
    have YM:=hA.same (s1.trans (sm.trans s3))
    refine⟨false,a,p3,n,z,ts,p.tail,rfl,YM,SqL.of aM,fun r5 H5 s5 h5 n5=>⟨_,.inl ⟨_,SqL.of h5,rfl⟩,?_⟩⟩
    have U4:=sm.trans (s3.trans s5)
    have eb:(!(!(((p.tail.filter fun o=>aU ts z o).map V.int).isEmpty)))=(p.tail.filter fun o=>aU ts z o).isEmpty:=by
     rw[wfp];cases(p.tail.filter fun o=>aU ts z o)<;>rfl
    dsimp only
    rw[eb]
    refine ite2 (fun c2=> ?_) (fun c2=> ?_)
    ·exact⟨_,rfl,by rw[e,bD (by rw[c,c2];rfl),bW];rfl,U4,_,rfl⟩
    ·exact⟨by rw[e,bC (by rw[c,Bool.eq_false_iff.mpr c2];exact uy),uU],U4,_,rfl⟩
   ·exact⟨by rw[e,bC (by rw[Bool.eq_false_iff.mpr c];exact uy),uU],sm,_,rfl⟩
 ·intro p1 hp1
  obtain⟨rfl,sm,_⟩:=pp
  rw[aQ,ux]
  have s01:=s1.trans sm
  exact q p1 _ (s01.trans (aR hp1 _)) aM (s01.free hp1)
end
end Hs
namespace Hs
open PySem yL
structure iT(n:Int)(ts:List (Int×Int))(p:List Int):Prop where
 nd:p.Nodup
 rg:∀x∈p,0<=x/\x<n
 so:∀i j (hij:i<j) (hj:j<p.length),aq ts (p[i]'(yO hij hj)) p[j]=decide (j-i=1)
section
variable{n:Int}{ts:List (Int×Int)}{p c:List Int}{y z:Int}
theorem K1:z∈qL n ts y↔(0<=z/\z<n)/\aU ts y z=true:=by
 unfold qL
 rw[lY,eE]
 constructor
 ·rintro⟨⟨k,hk,rfl⟩,h⟩
  have:=uw.mp hk
  exact⟨⟨by omega,by omega⟩,h⟩
 ·rintro⟨⟨a,b⟩,h⟩
  exact⟨⟨z.toNat,uw.mpr (by omega),by omega⟩,h⟩
theorem DN:(qL n ts y).Nodup:=by
 unfold qL
 refine List.Pairwise.filter _ ?_
 rw[Iz]
 exact Xr.imp fun h=>by omega
theorem gO(ht:aG n ts):z∈steps n ts p y↔(0<=z/\z<n)/\aq ts y z=true/\z∉p++[y]/\∀x∈p.tail,aq ts z x=false:=by
 unfold steps
 rw[lY,K1,qt,List.isEmpty_iff,ydd,tied_eq ht]
 constructor
 ·rintro⟨⟨h1,h2⟩,h3,h4⟩
  refine⟨h1,h2,fun hm=> ?_,fun x hx=> ?_⟩
  ·rw[cJ hm]at h3;cases h3
  ·have:=h4 x hx
   rw[tied_eq ht]at this
   exact Bool.eq_false_iff.mpr this
 ·rintro⟨h1,h2,h3,h4⟩
  refine⟨⟨h1,h2⟩,by rw[gB h3];rfl,fun x hx=> ?_⟩
  rw[tied_eq ht,h4 x hx];exact uy
theorem PJ{xs:List Int}(h:∀x∈xs,0<=x/\x<n)(nd:xs.Nodup):xs.length<=n.toNat:=by
 have z:=cu (m:=(List.range n.toNat).map fun(k:Nat)=>(k:Int)) nd (fun x hx=>by
  have:=h x hx
  exact eE.mpr ⟨x.toNat,uw.mpr (by omega),by omega⟩)
 rwa [aQ,Uv]at z
theorem JT(ht:aG n ts)(h:iT n ts (p++[y])):(steps n ts p y).length+(p++[y]).length<=n.toNat:=by
 rw[<-iz]
 refine PJ (fun x hx=> ?_) (JQ.mpr ⟨DN.filter _,h.nd,fun a ha b hb e=>((gO ht).mp ha).2.2.1 (e▸hb)⟩)
 rcases fj.mp hx with z|z
 ·exact((gO ht).mp z).1
 ·exact h.rg x z
theorem DY(ht:aG n ts)(hz:z∈steps n ts p y){i:Nat}(hi:i<(p++[y]).length)(h0:0<i\/p=[]):aq ts (p++[y])[i] z=decide (i+1=(p++[y]).length):=by
 obtain⟨_,h1,_,h2⟩:=(gO ht).mp hz
 have el:(p++[y]).length=p.length+1:=by simp
 by_cases e:i=p.length
 ·subst e
  have:(p++[y])[p.length]=y:=by simp
  rw[this,h1,cJ (by omega)]
 ·have hi':i<p.length:=by omega
  have:(p++[y])[i]=p[i]:=Uz hi'
  rw[this,gB (by omega),Cy]
  refine h2 _ ?_
  cases p with
  |nil=>exact absurd hi' (wdi _)
  |cons a q=>
   cases i with
   |zero=>rcases h0 with z|z<;>cases z
   |succ i=>exact yU (Nat.lt_of_succ_lt_succ hi')
theorem grown(ht:aG n ts)(h:iT n ts (p++[y]))(hz:z∈steps n ts p y):((p++[y])++[z]).Nodup/\∀x∈(p++[y])++[z],0<=x/\x<n:=by
 obtain⟨hr,_,h3,_⟩:=(gO ht).mp hz
 refine⟨JQ.mpr ⟨h.nd,by simp,fun a ha b hb e=> ?_⟩,fun x hx=> ?_⟩
 ·rw[jk.mp hb]at e
  exact h3 (e▸ha)
 ·rcases fj.mp hx with z|z
  ·exact h.rg x z
  ·rw[jk.mp z];exact hr
theorem Kl(ht:aG n ts)(h:iT n ts (p++[y]))(hz:z∈steps n ts p y)(h0:p=[]\/aq ts ((p++[y])[0]'(by simp)) z=false):iT n ts ((p++[y])++[z]):=by
 obtain⟨g1,g2⟩:=grown ht h hz
 refine⟨g1,g2,fun i j hij hj=> ?_⟩
 have el:(p++[y]).length=p.length+1:=by simp
 have hj':j<p.length+2:=by simpa using hj
 by_cases e:j<(p++[y]).length
 ·have e1:((p++[y])++[z])[j]=(p++[y])[j]:=Uz e
  have e2:((p++[y])++[z])[i]=(p++[y])[i]'(yO hij e):=Uz (yO hij e)
  rw[e1,e2]
  exact h.so i j hij e
 ·have ej:j=(p++[y]).length:=by omega
  subst ej
  have e1:((p++[y])++[z])[(p++[y]).length]=z:=by rw[wed (bx _)];simp
  have e2:((p++[y])++[z])[i]=(p++[y])[i]:=Uz hij
  rw[e1,e2]
  by_cases hi:0<i\/p=[]
  ·rw[DY ht hz hij hi]
   congr 1
   exact propext ⟨fun z=>by omega,fun z=>by omega⟩
  ·have i0:i=0:=by omega
   subst i0
   rcases h0 with z|z
   ·exact absurd (.inr z) hi
   ·rw[z]
    have:p.length≠0:=fun z=>hi (.inr (Xy z))
    rw[gB (by omega)]
theorem Kh(ht:aG n ts)(h:iT n ts (p++[y]))(hz:z∈steps n ts p y)(h1:aq ts ((p++[y])[0]'(by simp)) z=true)(h4:4<=((p++[y])++[z]).length):bZ.Bare (aq ts) ((p++[y])++[z]):=by
 obtain⟨g1,g2⟩:=grown ht h hz
 refine⟨h4,g1,fun i j hij hj=> ?_⟩
 have el:(p++[y]).length=p.length+1:=by simp
 have el2:((p++[y])++[z]).length=p.length+2:=by simp
 have hj':j<p.length+2:=by omega
 by_cases e:j<(p++[y]).length
 ·have e1:((p++[y])++[z])[j]=(p++[y])[j]:=Uz e
  have e2:((p++[y])++[z])[i]=(p++[y])[i]'(yO hij e):=Uz (yO hij e)
  rw[e1,e2,h.so i j hij e]
  congr 1
  exact propext ⟨fun z=> .inl z,fun z=>by rcases z with z|⟨_,z⟩<;>omega⟩
 ·have ej:j=(p++[y]).length:=by omega
  subst ej
  have e1:((p++[y])++[z])[(p++[y]).length]=z:=by rw[wed (bx _)];simp
  have e2:((p++[y])++[z])[i]=(p++[y])[i]:=Uz hij
  rw[e1,e2]
  by_cases hi:0<i
  ·rw[DY ht hz hij (.inl hi)]
   congr 1
   exact propext ⟨fun z=> .inl (by omega),fun z=>by rcases z with z|⟨z,_⟩<;>omega⟩
  ·have i0:i=0:=by omega
   subst i0
   rw[h1,cJ (.inr ⟨rfl,by omega⟩)]
theorem M8(ht:aG n ts)(hb:bZ.Bare (aq ts) c)(hr:∀x∈c,0<=x/\x<n){k:Nat}(h1:1<=k)(hk:k<c.length)(e:p++[y]=c.take k):c[k]∈steps n ts p y:=by
 have e1:c.take (k-1)++[c[k-1]]=c.take k:=by
  have:=wcf (l:=c) (i:=k-1) (by omega)
  rwa [show k-1+1=k by omega]at this
 obtain⟨ep,ey⟩:=List.append_inj' (e.trans e1.symm) rfl
 have ey:y=c[k-1]:=by injection ey
 rw[gO ht]
 refine⟨hr _ (yU hk),?_,?_,fun x hx=> ?_⟩
 ·rw[ey,hb.so (k-1) k (by omega) hk]
  exact cJ (.inl (by omega))
 ·rw[e]
  intro hm
  obtain⟨i,hi,ei⟩:=ydl.mp hm
  have:=(Vn hb.nd).mp ei
  omega
 ·rw[ep]at hx
  obtain⟨i,hi,ei⟩:=Wx hx
  rw[List.length_tail,yV]at hi
  rw[List.getElem_tail,wej]at ei
  rw[<-ei,Cy,hb.so (i+1) k (by omega) hk]
  exact gB (by rintro(z|⟨z,_⟩)<;>omega)
end
def Wit(c:List Int)(its:List (Addr×List Int)):Prop:=∃q∈its,∃k,1<=k/\k<c.length/\q.2=c.take k
theorem Ov{n:Int}{ts:List (Int×Int)}{x:Int}(h:0<=x/\x<n):iT n ts [x]:=⟨by simp,fun y hy=>by rw[jk.mp hy];exact h,fun i j hij hj=>by have:j<1:=hj;omega⟩
def Wt:Nat->Nat
 |0=>1
 |r+1=>1+(r+1)*Wt r
theorem Wk:∀r,1<=Wt r
 |0=>bx _
 |r+1=>wcx _ _
def meas:List (Addr×List Int)->Nat
 |[]=>0
 |q::its=>Wt (10-q.2.length)+meas its
theorem gP:∀a b,meas (a++b)=meas a+meas b
 |[],b=>(Nat.zero_add _).symm
 |q::a,b=>by
  show Wt _+meas (a++b)=Wt _+meas a+meas b
  rw[gP a b,Nat.add_assoc]
theorem wD(q:Addr×List Int):meas [q]=Wt (10-q.2.length):=rfl
theorem DR:∀its:List (Addr×List Int),its.length<=meas its
 |[]=>bx _
 |q::its=>by
  have:=DR its
  have:=Wk (10-q.2.length)
  show its.length+1<=Wt _+meas its
  omega
theorem qM:∀{its:List (Addr×List Int)},(∀q∈its,q.2.length=1)->meas its=its.length*Wt 9
 |[],_=>(Nat.zero_mul _).symm
 |q::its,h=>by
  show Wt (10-q.2.length)+meas its=(its.length+1)*Wt 9
  rw[h q jl,qM fun p hp=>h p (lZ _ hp),XF,Nat.add_comm]
theorem Wt_9:Wt 9=986410:=by decide
theorem Fd{s L:Nat}(h:s<=10-L):s*Wt (10-(L+1))<Wt (10-L):=by
 cases e:10-L with
 |zero=>
  rw[e]at h
  rw[Nat.le_zero.mp h,Nat.zero_mul]
  exact Nat.one_pos
 |succ r=>
  have:10-(L+1)=r:=by omega
  rw[this]
  show _<1+(r+1)*Wt r
  have:s*Wt r<=(r+1)*Wt r:=Nat.mul_le_mul_right _ (by omega)
  omega
end Hs
namespace Hs
open PySem L2 yL
section
variable{P:Program}{w:World}{K:W.Frag}{mg:Str->Option Value}{base:Heap}
structure TX(H0 H:Hp)(ps:Addr)(n:Int)(ts:List (Int×Int))(its:List (Addr×List Int)):Prop where
 sm:Same H0 H
 f0:H0 ps=none
 st:H ps=some (.lst (its.map fun q=>V.ref q.1))
 ok:∀q∈its,H q.1=some (.lst (q.2.map V.int))/\q.1≠ps/\q.2≠[]/\iT n ts q.2
section
variable{H0 H H':Hp}{ps:Addr}{n:Int}{ts:List (Int×Int)}{its:List (Addr×List Int)}
theorem TX.same(h:TX H0 H ps n ts its)(e:Same H H'):TX H0 H' ps n ts its:=⟨h.sm.trans e,h.f0,e _ _ h.st,fun q hq=>⟨e _ _ (h.ok q hq).1,(h.ok q hq).2⟩⟩
theorem TX.put(h:TX H0 H ps n ts its){its':List (Addr×List Int)}(hs:∀q∈its',q∈its\/(H q.1=some (.lst (q.2.map V.int))/\q.1≠ps/\q.2≠[]/\iT n ts q.2)):TX H0 (upd H ps (.lst (its'.map fun q=>V.ref q.1))) ps n ts its':=by
 refine⟨fun b o e=> ?_,h.f0,aM,fun q hq=> ?_⟩
 ·have nb:b≠ps:=fun z=>by rw[z,h.f0]at e;cases e
  rw[dX nb];exact h.sm _ _ e
 ·have z:H q.1=some (.lst (q.2.map V.int))/\q.1≠ps/\q.2≠[]/\iT n ts q.2:=by
   rcases hs q hq with z|z
   ·exact h.ok q z
   ·exact z
  exact⟨by rw[dX z.2.1];exact z.1,z.2⟩
end
def Vg(a ps:Addr)(n:Int)(ts:List (Int×Int))(c:List Int)(H0:Hp)(m:Nat)(σ:St)(H:Hp):Prop:=
 ∃its b2 b3 b4,TX H0 H ps n ts its/\Wit c its/\m=meas its/\m<=9864100/\σ=[some (.ref a),some (.ref ps),b2,b3,b4]
structure QK(a ps r t:Addr)(n:Int)(ts:List (Int×Int))(c:List Int)(H0:Hp)(rest:List (Addr×List Int))(p:List Int)(y:Int)(i:Nat)(σ:St)(H:Hp)(new:List (Addr×List Int)):Prop where
 S:TX H0 H ps n ts (rest++new)
 hr:H r=some (.lst ((p++[y]).map V.int))
 nr:r≠ps
 ht:H t=some (.lst ((steps n ts p y).map V.int))
 nt:t≠ps
 ms:meas new<=i*Wt (10-((p++[y]).length+1))
 wi:∀k,1<=k->∀hk:k<c.length,p++[y]=c.take k->c[k]∈(steps n ts p y).take i->Wit c new
 sg:∃b3 b4,σ=[some (.ref a),some (.ref ps),some (.ref r),b3,b4]
theorem Ds{D:Ends}{σ:St}{H:Hp}{ps l:Addr}{xs:List V}(h1:σ[1]? =some (some (.ref ps)))(h4:σ[4]? =some (some (.ref l)))(st:H ps=some (.lst xs))(hz:xs.length<sizeLine)(q:D.nx σ (upd H ps (.lst (xs++[.ref l])))):
  tDrop (tBM K "list" rAppend (tVar 1) (tCons (tVar 4) tNil)) D σ H:=⟨_,h1,.inl ⟨rfl,_,SqL.of st⟩,_,h4,ps,xs,_,rfl,rfl,st,hz,q⟩
def NK(K:W.Frag):Sp:=fun vs H Q _=>∃(a:Addr) (n:Int) (ts:List (Int×Int)) (c:List Int),vs=[.ref a]/\bA K H a n ts/\bZ.Bare (aq ts) c/\(∀x∈c,0<=x/\x<n)/\
 ∀r c' H',Same H H'->H' r=some (.lst (c'.map V.int))->H r=none->bZ.Bare (aq ts) c'->(∀x∈c',0<=x/\x<n)->Q (.ref r) H'
theorem qH:FnScope ["web","paths","path","place","longer"] ["web"] (defScope Uk):=fsc
theorem R4{f f1 f2:Addr}{fd d1 d2:FuncData}{tk0:Tok}(F:Fun K "find_bare_ring" "find_bare_ring" Uk f fd)(D1:aL K mg "next_steps" Uc ["web","path"] f1 d1)(G1:FnOk P w K mg base CX0 9 f1 d1 ["web","path"] (NP K))(D2:aL K mg "has_tie" Fw ["web","one","other"] f2 d2)(G2:FnOk P w K mg base CX0 1 f2 d2 ["web","one","other"] (qz K))(aV:mg "range"=none)(bK:mg "len"=none)(cY:mg "LEAST_BARE_RING"=some (.int 4 tk0)):
  FnOk P w K mg base CX0 10 f fd ["web"] (NK K):=by
 refine F.ok qH (fun vs H Q E h=> ?_) (fun cdv A outer s H vs Q E hr h=> ?_)
 ·obtain⟨a,n,ts,c,rfl,_⟩:=h
  rfl
 obtain⟨a,n,ts,c,rfl,hA,hB,hc,q⟩:=h
 refine⟨_,(bh (jq (i:=1) (own:=["place"]) (caps:=[]) (ix:=[]) qH.nd rfl (Or.inl rfl) rfl (Fq rfl aV (aj (cR eZ (pv 0) aY (fun _ _=>rfl)) ak)) rfl rfl .nil (fun _ _ _ _ _=>(dD (i:=0) (show(["place"]:List Str).Nodup from by decide+kernel) rfl (Or.inl rfl))) (fun _ _ _ _ _=>zy) (fun _ _ _ _ _=>(pe_lst (aj (pv 0) ak)))) (bh (ps_while Mv (gM K (pv 1) (fun _=>rfl)) (bh (gG (i:=2) qH.nd rfl (Or.inl rfl) (pe_bm0 Ry PySem.F.slot_list_pop PySem.F.type_list_pop mt_pop (pv 1))) (bB (ps_for Mv rfl (Ke K (pc G1 hr D1 (aj (pv 0) (aj (pv 2) ak)))) (dD (i:=3) qH.nd rfl (Or.inl rfl)) (bh (gG (i:=4) qH.nd rfl (Or.inl rfl) (fQ op_cat (pv 2) (pe_lst (aj (pv 3) ak)))) (bB (ps_if (PW.pt (pw_or (iW op_eq (dF zB rfl bK uV (aj (pv 2) ak)) aY (nomark _)) (pw_or1 (pt_not (pt_val (pc G2 hr D2 (aj (pv 0) (aj (cR ix_list (pv 2) aY (fun _ _=>rfl)) (aj (pv 3) ak))))))))) (bB (jg (pe_bm Ry wcg wch mt_append (pv 1) (aj (pv 4) ak)))) (bB (ps_if (iW op_ge (dF zB rfl bK uV (aj (pv 4) ak)) (CG rfl cY (v:= .int 4) ⟨_,rfl⟩) (nomark _)) (bB (bV (pv 4))) ur))))))))) (bB (bV pe_non)))),?_⟩
 have h0:=hA.h0
 have h10:=hA.h1
 have l4:=hB.len
 obtain⟨ta,ra,a1,a2,a3⟩:=id hA.web
 refine⟨_,rfl,a,_,_,.int n,rfl,rfl,a1,rfl,n,rfl,by omega,by omega,?_⟩
 refine JM (fun k acc σ H'=>∃its:List (Addr×List Int),acc=(its.map fun q=>V.ref q.1)/\its.map (fun q=>q.2)=(List.range k).map (fun(j:Nat)=>[0+(j:Int)])/\(∀q∈its,H' q.1=some (.lst (q.2.map V.int)))/\Same H H'/\∃o,σ=[o])
  ⟨[],rfl,rfl,(by intro q hq;cases hq),Same.refl _,_,rfl⟩ (fun k acc σ H' hk p=> ?_) (by rw[eF];omega) (fun k acc σ H' hk p=> ?_) (fun acc σ H' p=> ?_)
 ·obtain⟨its,rfl,e,_⟩:=p
  have:=rH List.length e
  rw[aQ,aQ,Uv]at this
  rw[aQ];omega
 ·obtain⟨its,rfl,e,hl,sm,o,rfl⟩:=p
  refine⟨_,rfl,(by show 1<=sizeLine;decide),fun l hl1=> ?_⟩
  have s1:=aR hl1 (.lst [.int (0+(k:Int))])
  refine⟨its++[(l,[0+(k:Int)])],by rw[bW];rfl,by rw[bW,e,Ml,bW];rfl,fun q hq=> ?_,sm.trans s1,_,rfl⟩
  rcases fj.mp hq with z|z
  ·exact s1 _ _ (hl q z)
  ·rw[jk.mp z];exact aM
 obtain⟨its,rfl,e,hl,sm,_⟩:=p
 intro ps hps
 have s1:=aR hps (.lst (its.map fun q=>V.ref q.1))
 have el:its.length=n.toNat:=by
  have:=rH List.length e
  rwa [aQ,aQ,Uv]at this
 have each:∀q∈its,∃j:Nat,j<n.toNat/\q.2=[0+(j:Int)]:=fun q hq=>by
  have:q.2∈its.map (fun q=>q.2):=eE.mpr ⟨q,hq,rfl⟩
  rw[e]at this
  obtain⟨j,hj,ej⟩:=eE.mp this
  exact⟨j,uw.mp hj,ej.symm⟩
 have S0:TX H (upd H' ps (.lst (its.map fun q=>V.ref q.1))) ps n ts its:=⟨sm.trans s1,sm.free hps,aM,fun q hq=>by
  obtain⟨j,hj,ej⟩:=each q hq
  exact⟨s1 _ _ (hl q hq),(Bw (hl q hq) hps).symm,by rw[ej];simp,by rw[ej];exact Ov ⟨by omega,by omega⟩⟩⟩
 have W0:Wit c its:=by
  have hx:=hc _ (yU (show 0<c.length by omega))
  have:[c[0]]∈its.map (fun q=>q.2):=by
   rw[e]
   exact eE.mpr ⟨(c[0]).toNat,uw.mpr (by omega),by congr 1;omega⟩
  obtain⟨q,hq,eq⟩:=eE.mp this
  refine⟨q,hq,1,bx _,by omega,?_⟩
  rw[eq]
  exact wcf (l:=c) (i:=0) (by omega)
 have M0:meas its<=9864100:=by
  rw[qM (fun q hq=>by obtain⟨j,_,ej⟩:=each q hq;rw[ej];rfl),Wt_9,el]
  omega
 refine⟨Vg a ps n ts c H,⟨_,its,_,_,_,S0,W0,rfl,M0,rfl⟩,?_⟩
 rintro m σ H1 ⟨its,b2,b3,b4,S,Wi,rfl,hm,rfl⟩
 refine⟨_,rfl,_,.inl ⟨_,SqL.of S.st,rfl⟩,?_⟩
 rcases wfc its with e0|⟨rest,⟨r,p0⟩,e0⟩
 ·subst e0
  obtain⟨q,hq,_⟩:=Wi
  cases hq
 rw[wfd]at e0
 subst e0
 have hq0:=S.ok (r,p0) (yX _ jl)
 rcases wfc p0 with e0|⟨p,y,e0⟩
 ·exact absurd e0 hq0.2.2.1
 rw[wfd]at e0
 subst e0
 obtain⟨hr0,nr,_,hp⟩:=hq0
 dsimp only at hr0 nr hp
 have et:(!((rest++[(r,p++[y])]).map fun q=>V.ref q.1).isEmpty)=true:=by simp
 refine ite2 (fun _=> ?_) (fun z=>absurd et z)
 refine⟨fun σ' H'=>∃m',m'<meas (rest++[(r,p++[y])])/\Vg a ps n ts c H m' σ' H',fun σ' H' h=>h,?_⟩
 refine⟨_,rfl,.inl ⟨rfl,_,SqL.of S.st⟩,ps,_,.ref r,rfl,rfl,S.st,by simp,?_⟩
 have ed:((rest++[(r,p++[y])]).map fun q=>V.ref q.1).dropLast=rest.map fun q=>V.ref q.1:=by rw[bW];exact List.dropLast_concat
 rw[ed]
 have S2:=S.put (its':=rest) (fun q hq=> .inl (M7 _ hq))
 have hr2:upd H1 ps (.lst (rest.map fun q=>V.ref q.1)) r=some (.lst ((p++[y]).map V.int)):=by rw[dX nr];exact hr0
 generalize upd H1 ps (.lst (rest.map fun q=>V.ref q.1))=H2 at *
 have hmm:meas rest+Wt (10-(p++[y]).length)<=9864100:=by rw[gP,wD]at hm;exact hm
 have hsl:=JT hA.pk hp
 have hlp:(p++[y]).length=p.length+1:=by simp
 have hy:=hp.rg y (by simp)
 have H02:=S2.sm
 refine⟨_,rfl,_,rfl,a,r,n,ts,p,y,rfl,hA.same H02,SqL.of hr2,hy,fun t H3 s3 h3 n3=> ?_⟩
 refine⟨t,_,rfl,SqL.of h3,fun _=> ?_⟩
 refine for_list (K:=K) (a:=t) (xs:=(steps n ts p y).map V.int) (fun i σ H'=>∃new,QK a ps r t n ts c H rest p y i σ H' new) ⟨[],?_⟩ (fun i σ H' _ p=>by obtain⟨new,I⟩:=p;exact SqL.of I.ht) (fun i x σ H4 hx p4=> ?_) (fun σ H4 p4=> ?_)
 ·exact⟨by rw[uU];exact S2.same s3,s3 _ _ hr2,nr,h3,(Bw S2.st n3),jj _,fun k _ _ _ hm=>by simp at hm,_,_,rfl⟩
 ·obtain⟨new,I⟩:=p4
  obtain⟨b3',b4',rfl⟩:=I.sg
  rw[gw]at hx
  cases ex:(steps n ts p y)[i]? with
  |none=>rw[ex]at hx;cases hx
  |some z=>
   rw[ex]at hx
   cases hx
   have hz:=Fz ex
   obtain⟨hi,_⟩:=Aq.mp ex
   refine⟨_,rfl,_,rfl,(by show 1<=sizeLine;decide),fun l1 hl1=> ?_⟩
   have s5:=aR hl1 (.lst [.int z])
   refine⟨r,l1,_,_,rfl,rfl,s5 _ _ I.hr,aM,by rw[aQ,eF];show(p++[y]).length+1<=_;omega,fun l hl=> ?_⟩
   have s6:=s5.trans (aR hl (.lst ((p++[y]).map V.int++[.int z])))
   have hl6:upd (upd H4 l1 (.lst [.int z])) l (.lst ((p++[y]).map V.int++[.int z])) l=some (.lst (((p++[y])++[z]).map V.int)):=by rw[aM,bW (l₁:=p++[y])];rfl
   have nl:l≠ps:=Bw (s5 _ _ I.S.st) hl
   have l0:H l=none:=I.S.sm.free (s5.free hl)
   generalize upd (upd H4 l1 (.lst [.int z])) l (.lst ((p++[y]).map V.int++[.int z]))=H6 at *
   have take1:∀x,x∈(steps n ts p y).take (i+1)->x∈(steps n ts p y).take i\/x=z:=fun x hx=>by
    rw[Ao,ex]at hx
    rcases fj.mp hx with h|h
    ·exact .inl h
    ·exact .inr (jk.mp h)
   have wt1:=Fd (s:=i+1) (L:=(p++[y]).length) (by omega)
   have ms1:meas new+Wt (10-((p++[y]).length+1))<=(i+1)*Wt (10-((p++[y]).length+1)):=by
    have:=I.ms
    rw[XF];omega
   -- it goes on to the stack
   have app:∀(σ:St) (H7:Hp),σ=[some (.ref a),some (.ref ps),some (.ref r),some (.int z),some (.ref l)]->Same H6 H7->(p=[]\/aq ts ((p++[y])[0]'(by simp)) z=false)->
     (((rest++new).map fun q=>V.ref q.1).length<sizeLine)/\∃Hq,QK a ps r t n ts c H rest p y (i+1) σ (upd H7 ps (.lst (((rest++new).map fun q=>V.ref q.1)++[.ref l]))) Hq:=fun σ H7 eσ s7 hn=>by
    have Mw:=s6.trans s7
    have S7:=I.S.same Mw
    have eo:((rest++new).map fun q=>V.ref q.1)++[.ref l]=(rest++(new++[(l,(p++[y])++[z])])).map fun q=>V.ref q.1:=by rw[<-Xm,bW (l₁:=rest++new)];rfl
    refine⟨?_,new++[(l,(p++[y])++[z])],?_⟩
    ·have:=DR (rest++new)
     rw[gP]at this
     rw[aQ,eF]
     have:=I.ms
     omega
    rw[eo]
    refine⟨S7.put fun q hq=> ?_,?_,I.nr,?_,I.nt,?_,fun k h1 hk ek hm=> ?_,_,_,eσ⟩
    ·rw[<-Xm]at hq
     rcases fj.mp hq with h|h
     ·exact .inl h
     ·rw[jk.mp h]
      exact .inr ⟨s7 _ _ hl6,nl,by simp,Kl hA.pk hp hz hn⟩
    ·rw[dX I.nr];exact Mw _ _ I.hr
    ·rw[dX I.nt];exact Mw _ _ I.ht
    ·rw[gP,wD]
     have:((p++[y])++[z]).length=(p++[y]).length+1:=by simp
     rw[this];exact ms1
    ·rcases take1 _ hm with h|h
     ·obtain⟨q,hq,w⟩:=I.wi k h1 hk ek h
      exact⟨q,M7 _ hq,w⟩
     ·refine⟨(l,(p++[y])++[z]),yX _ jl,k+1,by omega,?_,?_⟩
      ·rcases Nat.lt_or_ge (k+1) c.length with g|g
       ·exact g
       ·exfalso
        have lk:(p++[y]).length=k:=by rw[ek,yV];omega
        rcases hn with hn|hn
        ·rw[hn]at lk;simp at lk;omega
        ·have e0:(p++[y])[0]'(by simp)=c[0]'(by omega):=by simp only[ek,wej]
         rw[e0,<-h,hB.so 0 k (by omega) hk,cJ (.inr ⟨rfl,by omega⟩)]at hn
         cases hn
      ·show(p++[y])++[z]=_
       rw[ek,<-h];exact wcf hk
   -- it is let go
   have skip:∀(σ:St) (H7:Hp),σ=[some (.ref a),some (.ref ps),some (.ref r),some (.int z),some (.ref l)]->Same H6 H7->p≠[]->aq ts ((p++[y])[0]'(by simp)) z=true->(p++[y]).length+1<4->
     ∃Hq,QK a ps r t n ts c H rest p y (i+1) σ H7 Hq:=fun σ H7 eσ s7 np hn h4=>by
    have Mw:=s6.trans s7
    refine⟨new,I.S.same Mw,Mw _ _ I.hr,I.nr,Mw _ _ I.ht,I.nt,gJ (wcx _ _) ms1,fun k h1 hk ek hm=> ?_,_,_,eσ⟩
    rcases take1 _ hm with h|h
    ·exact I.wi k h1 hk ek h
    ·exfalso
     have lk:(p++[y]).length=k:=by rw[ek,yV];omega
     have:p.length≠0:=fun z=>np (Xy z)
     have e0:(p++[y])[0]'(by simp)=c[0]'(by omega):=by simp only[ek,wej]
     rw[e0,<-h,hB.so 0 k (by omega) hk,gB (by rintro(z|⟨_,z⟩)<;>omega)]at hn
     cases hn
   have hr6:=s6 _ _ I.hr
   refine⟨_,rfl,r,_,rfl,.inl (SqL.of hr6),fun _=>⟨rfl,_,rfl,?_⟩⟩
   rw[intV_eq,aQ]
   refine ite2 (fun c1=> ?_) (fun c1=> ?_)
   ·have p0:p=[]:=by
     have:=yZ c1
     exact Xy (by omega)
    obtain⟨hz1,Hq,I'⟩:=app _ H6 rfl (Same.refl _) (.inl p0)
    exact iteT (Ds rfl rfl (I.S.same s6).st hz1 ⟨Hq,I'⟩)
   ·have np:p≠[]:=fun e=>c1 (cJ (by rw[e];rfl))
    have hat:atI ((p++[y]).map V.int) 0=some (.int ((p++[y])[0]'(by simp))):=atI_nat (j:=0) (by rw[gw,iY (by simp)];rfl)
    refine⟨_,rfl,_,rfl,r,_,_,_,rfl,rfl,SqL.of hr6,hat,_,rfl,a,n,_,z,ts,rfl,(hA.same (I.S.sm.trans s6)).web,fun H7 s7=>⟨_,rfl,?_⟩⟩
    rw[tied_eq hA.pk]
    refine ite2 (fun c2=> ?_) (fun c2=> ?_)
    ·obtain⟨hz1,Hq,I'⟩:=app _ H7 rfl s7 (.inr ((UJ _).mp c2))
     exact Ds rfl rfl (I.S.same (s6.trans s7)).st hz1 ⟨Hq,I'⟩
    ·have ct:aq ts ((p++[y])[0]'(by simp)) z=true:=by
      cases h:aq ts ((p++[y])[0]'(by simp)) z with
      |true=>rfl
      |false=>exact absurd (by rw[h];rfl) c2
     have hl7:=s7 _ _ hl6
     refine⟨_,rfl,l,_,rfl,.inl (SqL.of hl7),fun _=>⟨_,_,rfl,rfl,_,rfl,?_⟩⟩
     refine ite2 (fun c3=> ?_) (fun c3=> ?_)
     ·have h4:4<=((p++[y])++[z]).length:=by
       have:=yZ c3
       rw[aQ]at this
       omega
      exact⟨_,rfl,q l _ H7 ((I.S.sm.trans s6).trans s7) hl7 l0 (Kh hA.pk hp hz ct h4) (grown hA.pk hp hz).2⟩
     ·refine skip _ H7 rfl s7 np ct ?_
      have:¬(4:Int)<=((((p++[y])++[z]).map V.int).length:Int):=fun z=>c3 (cJ z)
      rw[aQ,iz,wcv]at this
      omega
 ·obtain⟨new,I⟩:=p4
  obtain⟨b3',b4',rfl⟩:=I.sg
  rw[aQ]at I
  have wt:=Fd (s:=(steps n ts p y).length) (L:=(p++[y]).length) (by omega)
  have ms:=I.ms
  have lt:meas (rest++new)<meas (rest++[(r,p++[y])]):=by rw[gP,gP,wD];dsimp only;omega
  refine⟨meas (rest++new),lt,rest++new,_,_,_,I.S,?_,rfl,by omega,rfl⟩
  obtain⟨q',hq',k,k1,k2,ek⟩:=Wi
  rcases fj.mp hq' with h|h
  ·exact⟨q',M7 _ h,k,k1,k2,ek⟩
  ·rw[jk.mp h]at ek
   obtain⟨q2,h2,w2⟩:=I.wi k k1 k2 ek (by rw[ux];exact M8 hA.pk hB hc k1 k2 ek)
   exact⟨q2,yX _ h2,w2⟩
end
def rg(n:Int):List Int:=(List.range n.toNat).map fun(k:Nat)=>(k:Int)
theorem Hv{n x:Int}:x∈rg n↔0<=x/\x<n:=by
 unfold rg
 rw[eE]
 constructor
 ·rintro⟨k,hk,rfl⟩
  have:=uw.mp hk
  exact⟨by omega,by omega⟩
 ·rintro⟨a,b⟩
  exact⟨x.toNat,uw.mpr (by omega),by omega⟩
theorem Oo(n:Int):(rg n).Nodup:=by
 unfold rg
 show List.Pairwise _ _
 rw[Iz]
 exact Xr.imp fun h=>by omega
theorem Oq(n:Int):(rg n).length=n.toNat:=by unfold rg;rw[aQ,Uv]
theorem RB(n:Int):jh n.toNat=(rg n).map V.int:=by unfold jh rg;rw[CJ];rfl
theorem zR{r:Int->Int->Bool}{V V':List Int}{x:Int}(h:∀a∈V',a∈V)(s:bZ.Simp r V x):bZ.Simp r V' x:=fun a ha b hb=>s a (h a ha) b (h b hb)
theorem Ac{V:List Int}{v:Int}(nd:V.Nodup):(V.filter fun o=> !decide (o∈[v]))=V.erase v:=by
 rw[nd.erase_eq_filter v]
 refine wei fun o _=> ?_
 rw[vA];simp
structure bQ(n:Int)(ts:List (Int×Int))(xs V:List Int):Prop where
 pm:(xs++V).Perm (rg n)
 go:∀k (hk:k<xs.length),bZ.Simp (aq ts) (xs.drop (k+1)++V) xs[k]
section
variable{n:Int}{ts:List (Int×Int)}{xs V:List Int}{v:Int}
theorem bQ.nd(h:bQ n ts xs V):(xs++V).Nodup:=h.pm.nodup_iff.mpr (Oo n)
theorem bQ.ndV(h:bQ n ts xs V):V.Nodup:=(JQ.mp h.nd).2.1
theorem bQ.len(h:bQ n ts xs V):xs.length+V.length=n.toNat:=by
 have:=h.pm.length_eq
 rwa [iz,Oq]at this
theorem bQ.rgV(h:bQ n ts xs V){x:Int}(hx:x∈V):0<=x/\x<n:=Hv.mp (h.pm.mem_iff.mp (yX _ hx))
theorem bQ.start(n:Int)(ts:List (Int×Int)):bQ n ts [] (rg n):=⟨List.Perm.refl _,fun k hk=>absurd hk (wdi _)⟩
theorem bQ.step(h:bQ n ts xs V)(hv:v∈V)(sv:bZ.Simp (aq ts) V v):bQ n ts (xs++[v]) (V.filter fun o=> !decide (o∈[v]))/\(V.filter fun o=> !decide (o∈[v])).length<V.length:=by
 have sub:∀a,a∈(V.filter fun o=> !decide (o∈[v]))->a∈V:=fun a ha=>(lY.mp ha).1
 refine⟨⟨?_,fun k hk=> ?_⟩,?_⟩
 ·rw[Ac h.ndV,Xm]
  exact(List.Perm.append_left xs (List.perm_cons_erase hv).symm).trans h.pm
 ·have hk':k<xs.length+1:=by simpa using hk
  by_cases e:k<xs.length
  ·have e1:(xs++[v])[k]=xs[k]:=Uz e
   rw[e1]
   refine zR (fun a ha=> ?_) (h.go k e)
   rcases fj.mp ha with z|z
   ·rw[List.drop_append_of_le_length (by omega)]at z
    rcases fj.mp z with z|z
    ·exact M7 _ z
    ·rw[jk.mp z];exact yX _ hv
   ·exact yX _ (sub a z)
  ·have ek:k=xs.length:=by omega
   subst ek
   have e1:(xs++[v])[xs.length]=v:=by simp
   rw[e1]
   refine zR (fun a ha=> ?_) sv
   rcases fj.mp ha with z|z
   ·rw[List.drop_of_length_le (by simp)]at z;cases z
   ·exact sub a z
 ·rw[Ac h.ndV,weh hv]
  have:=ydc hv
  omega
theorem bQ.VR(h:bQ n ts xs []){c:List Int}(hb:bZ.Bare (aq ts) c)(hc:∀x∈c,0<=x/\x<n):False:=by
 have p:=h.pm
 have nd:=h.nd
 rw[uU]at p nd
 refine Tn nd (fun k hk=> ?_) c hb (fun x hx=>p.mem_iff.mpr (Hv.mpr (hc x hx)))
 have:=h.go k hk
 rwa [uU]at this
theorem bQ.V3(h:bQ n ts xs [])(h0:0<=n):qX n ts xs=true:=by
 have p:=h.pm
 have nd:=h.nd
 rw[uU]at p nd
 unfold qX
 rw[qt,qt,qt]
 have hl:=p.length_eq
 rw[Oq]at hl
 refine⟨⟨cJ (by omega),?_,cJ nd⟩,?_⟩
 ·rw[mO]
  intro x hx
  have:=Hv.mp (p.mem_iff.mp hx)
  unfold inR
  rw[cJ this.1,cJ this.2];rfl
 ·rw[mO]
  intro k hk
  have hk:=uw.mp hk
  unfold qy
  have e:xs.getD k 0=xs[k]:=by simp[hk]
  rw[e,HB (nd.sublist (List.drop_sublist _ _))]
  have:=h.go k hk
  rwa [uU]at this
theorem bQ.ring(h:bQ n ts xs V)(ht:aG n ts)(hne:V≠[])(no:∀v∈V,¬bZ.Simp (aq ts) V v):∃c,bZ.Bare (aq ts) c/\∀x∈c,0<=x/\x<n:=by
 obtain⟨c,h1,h2⟩:=bZ.Gn (r:=aq ts) (Cy ts) (vI ht) hne no
 exact⟨c,h1,fun x hx=>h.rgV (h2 x hx)⟩
end
section
variable{P:Program}{w:World}{K:W.Frag}{mg:Str->Option Value}{base:Heap}
def Vi(K:W.Frag)(a o:Addr)(n:Int)(ts:List (Int×Int))(H0:Hp)(m:Nat)(σ:St)(H:Hp):Prop:=
 ∃(l:Addr) (xs us:List Int) (b3:Option V),σ=[some (.ref a),some (.ref o),some (.ref l),b3]/\Same H0 H/\H o=some (.lst (xs.map V.int))/\SqT K H l (us.map V.int)/\bQ n ts xs us/\m=us.length
def Bg(K:W.Frag):Sp:=fun vs H Q _=>∃(a:Addr) (n:Int) (ts:List (Int×Int)),vs=[.ref a]/\bA K H a n ts/\
 (∀r o xs H',Same H H'->SqT K H' r [.str "fold",.ref o]->SqT K H' o (xs.map V.int)->bQ n ts xs []->Q (.ref r) H')/\
 (∀r l c H',Same H H'->SqT K H' r [.str "ring",.ref l]->H' l=some (.lst (c.map V.int))->H l=none->bZ.Bare (aq ts) c->(∀x∈c,0<=x/\x<n)->Q (.ref r) H')
theorem qI:FnScope ["web","order","left","place"] ["web"] (defScope iG):=fsc
theorem R7{f f1 f2 f3 f4:Addr}{fd d1 d2 d3 d4:FuncData}(F:Fun K "fold" "fold" iG f fd)(D1:aL K mg "need_web" yR ["thing"] f1 d1)(G1:FnOk P w K mg base CX0 7 f1 d1 ["thing"] (aZ K))(D2:aL K mg "first_to_go" Ud ["web","left"] f2 d2)(G2:FnOk P w K mg base CX0 3 f2 d2 ["web","left"] (Jf K))(D3:aL K mg "find_bare_ring" Uk ["web"] f3 d3)(G3:FnOk P w K mg base CX0 10 f3 d3 ["web"] (NK K))(D4:aL K mg "without" cN ["some","part"] f4 d4)(G4:FnOk P w K mg base CX0 1 f4 d4 ["some","part"] (zJ K))(bN:mg "tuple"=none)(aV:mg "range"=none):
  FnOk P w K mg base CX0 11 f fd ["web"] (Bg K):=by
 refine F.ok qI (fun vs H Q E h=> ?_) (fun cdv A outer s H vs Q E hr h=> ?_)
 ·obtain⟨a,n,ts,rfl,_⟩:=h
  rfl
 obtain⟨a,n,ts,rfl,hA,q1,q2⟩:=h
 refine⟨_,(bh (jg (pc G1 hr D1 (aj (pv 0) ak))) (bh (gG (i:=1) qI.nd rfl (Or.inl rfl) (pe_lst ak)) (bh (gG (i:=2) qI.nd rfl (Or.inl rfl) (Dv rfl rfl bN rfl aV (aj (cR eZ (pv 0) aY (fun _ _=>rfl)) ak))) (bh (ps_while Mv (gM K (pv 2) (fun _=>rfl)) (bh (gG (i:=3) qI.nd rfl (Or.inl rfl) (pc G2 hr D2 (aj (pv 0) (aj (pv 2) ak)))) (bh (ps_if (iW op_isN (pv 3) pe_non (nomark _)) (bB (bV (gH (aj pe_str (aj (pc G3 hr D3 (aj (pv 0) ak)) ak))))) ur) (bh (jg (pe_bm Ry wcg wch mt_append (pv 1) (aj (pv 3) ak))) (bB (gG (i:=2) qI.nd rfl (Or.inl rfl) (pc G4 hr D4 (aj (pv 2) (aj (gH (aj (pv 3) ak)) ak))))))))) (bB (bV (gH (aj pe_str (aj (Fv JN rfl bN (by decide+kernel) (aj (pv 1) ak)) ak))))))))),?_⟩
 have h0:=hA.h0
 have h10:=hA.h1
 refine⟨_,rfl,_,_,rfl,hA.web.dv.dx,hA.ok,fun H1 s1=> ?_⟩
 refine⟨(by show 0<=sizeLine;decide),fun o ho=> ?_⟩
 have s2:=s1.trans (aR ho (.lst []))
 have o0:H o=none:=s1.free ho
 have ho2:upd H1 o (.lst []) o=some (.lst []):=aM
 generalize upd H1 o (.lst [])=H2 at *
 obtain⟨ta,ra,a1,a2,a3⟩:=id (hA.same s2).web
 refine⟨_,rfl,a,_,_,.int n,rfl,rfl,a1,rfl,n,rfl,h0,by omega,fun l hl=> ?_⟩
 rw[RB]
 have s3:=s2.trans (aR hl (.tup ((rg n).map V.int)))
 have ho3:=(aR hl (.tup ((rg n).map V.int))) _ _ ho2
 have hl3:SqT K (upd H2 l (.tup ((rg n).map V.int))) l ((rg n).map V.int):=SqT.of aM
 generalize upd H2 l (.tup ((rg n).map V.int))=H3 at *
 refine⟨Vi K a o n ts H,⟨_,l,[],rg n,_,rfl,s3,ho3,hl3,bQ.start n ts,rfl⟩,?_⟩
 rintro m σ H4 ⟨l,xs,us,b3,rfl,sm,ho4,YG,I,rfl⟩
 have hlen:=I.len
 refine⟨_,rfl,_,.inr (.inl ⟨_,YG,rfl⟩),?_⟩
 refine ite2 (fun c=> ?_) (fun c=> ?_)
 ·have hne:us≠[]:=fun e=>by
   rw[e]at c
   exact absurd c (by decide)
  refine⟨fun σ' H'=>∃m',m'<us.length/\Vi K a o n ts H m' σ' H',fun σ' H' h=>h,?_⟩
  refine⟨_,rfl,_,rfl,a,l,n,ts,us,rfl,hA.same sm,YG,I.ndV,by omega,fun v hv sv H5 s5=> ?_,fun no H5 s5=> ?_⟩
  ·refine⟨_,rfl,rfl,_,rfl,?_⟩
   refine ite2 (fun c=>absurd (yZ c) (fun z=>by cases z)) (fun _=> ?_)
   have ho5:=s5 _ _ ho4
   refine⟨_,rfl,.inl ⟨rfl,_,SqL.of ho5⟩,_,rfl,o,_,_,rfl,rfl,ho5,by rw[aQ,eF];omega,?_⟩
   have x6:Same H (upd H5 o (.lst (xs.map V.int++[.int v]))):=fun b u e=>by
    have nb:b≠o:=fun z=>by rw[z,o0]at e;cases e
    rw[dX nb];exact(sm.trans s5) _ _ e
   have hl6:SqT K (upd H5 o (.lst (xs.map V.int++[.int v]))) l (us.map V.int):=dG.tup ((dG.refl o H5).upd) ho5 (s5.tup YG)
   have ho6:upd H5 o (.lst (xs.map V.int++[.int v])) o=some (.lst ((xs++[v]).map V.int)):=by rw[aM,bW];rfl
   generalize upd H5 o (.lst (xs.map V.int++[.int v]))=H6 at *
   refine⟨_,rfl,_,rfl,(by show 1<=sizeLine;decide),fun t ht=>⟨l,t,us,v,rfl,(aR ht _).tup hl6,SqT.of aM,fun r H8 s8 h8=> ?_⟩⟩
   obtain⟨I',lt⟩:=I.step hv sv
   exact⟨_,lt,r,xs++[v],_,_,rfl,x6.trans ((aR ht _).trans s8),s8 _ _ ((aR ht _) _ _ ho6),h8,I',rfl⟩
  ·refine⟨_,rfl,rfl,_,rfl,?_⟩
   refine ite2 (fun _=> ?_) (fun c=>absurd (cJ rfl) c)
   obtain⟨c,hb,hc⟩:=I.ring hA.pk hne no
   refine⟨_,rfl,a,n,ts,c,rfl,hA.same (sm.trans s5),hb,hc,fun r c' H6 s6 h6 n6 hb' hc'=>⟨(by show 2<=sizeLine;decide),fun t ht=> ?_⟩⟩
   have s7:=aR ht (.tup [.str "ring",.ref r])
   exact q2 t r c' _ (sm.trans (s5.trans (s6.trans s7))) (SqT.of aM) (s7 _ _ h6) ((sm.trans s5).free n6) hb' hc'
 ·have e:us=[]:=by
   cases us with
   |nil=>rfl
   |cons x us=>exact absurd rfl c
  subst e
  refine⟨_,rfl,o,_,rfl,.inl ⟨SqL.of ho4,fun t ht=>⟨(by show 2<=sizeLine;decide),fun r hr'=> ?_⟩⟩⟩
  have s5:=aR ht (.tup (xs.map V.int))
  have s6:=aR hr' (.tup [.str "fold",.ref t])
  exact q1 r t xs _ (sm.trans (s5.trans s6)) (SqT.of aM) (s6.tup (SqT.of aM)) I
end
end Hs
namespace Hs
def ff:Nat->Nat
 |0=>1
 |1=>1
 |2=>2
 |3=>3
 |4=>4
 |5=>6
 |6=>9
 |7=>12
 |8=>18
 |9=>27
 |_=>36
theorem Cd:∀m n:Nat,m<=n->n<=10->ff m<=ff n:=by
 have h:∀n:Fin 11,∀m:Fin 11,m.val<=n.val->ff m.val<=ff n.val:=by decide
 intro m n hm hn
 exact h ⟨n,by omega⟩ ⟨m,by omega⟩ hm
theorem Tr:∀n d:Nat,0<d->d<=n->n<=10->d*ff (n-d)<=ff n:=by
 have h:∀n:Fin 11,∀d:Fin 11,0<d.val->d.val<=n.val->d.val*ff (n.val-d.val)<=ff n.val:=by decide
 intro n d h0 hd hn
 exact h ⟨n,by omega⟩ ⟨d,by omega⟩ h0 hd
structure Full(r:Int->Int->Bool)(V:List Int)(s:List Int):Prop where
 up:s.Pairwise (· < ·)
 sub:∀x∈s,x∈V
 ind:∀x∈s,∀y∈s,x≠y->r x y=false
 max:∀v∈V,v∉s->∃x∈s,r x v=true
theorem DW(g:Int->Nat):∀V:List Int,V≠[]->∃v∈V,∀u∈V,g v<=g u
 |[],h=>absurd rfl h
 |[x],_=>⟨x,by simp,fun u hu=>by rw[jk.mp hu];exact bx _⟩
 |x::y::V,_=>by
  obtain⟨v,hv,hm⟩:=DW g (y::V) (by simp)
  by_cases c:g x<=g v
  ·refine⟨x,by simp,fun u hu=> ?_⟩
   rcases cT.mp hu with e|e
   ·rw[e];exact bx _
   ·exact gJ c (hm u e)
  ·refine⟨v,lZ _ hv,fun u hu=> ?_⟩
   rcases cT.mp hu with e|e
   ·rw[e];omega
   ·exact hm u e
theorem qb{α:Type}(p:α->Bool):∀l:List α,(l.filter p).length+(l.filter fun x=> !p x).length=l.length
 |[]=>rfl
 |x::l=>by
  have ih:=qb p l
  rw[M6,M6]
  cases p x<;>simp <;>omega
theorem Ah{α β:Type}(p:β->α->Bool)(m:Nat):∀(us:List β) (fs:List α),(∀s∈fs,∃u∈us,p u s=true)->(∀u∈us,∀gs:List α,gs.Sublist fs->(∀s∈gs,p u s=true)->gs.length<=m)->fs.length<=us.length*m
 |[],fs,h,_=>by
  cases fs with
  |nil=>simp
  |cons s fs=>obtain⟨u,hu,_⟩:=h s (by simp);cases hu
 |u::us,fs,h,hm=>by
  have e:=qb (p u) fs
  have a:=hm u (by simp) (fs.filter (p u)) wdp (fun s hs=>(lY.mp hs).2)
  have b:=Ah p m us (fs.filter fun x=> !p u x) (fun s hs=>by
   obtain⟨h1,h2⟩:=lY.mp hs
   obtain⟨w,hw,hp⟩:=h s h1
   rcases cT.mp hw with z|z
   ·rw[z]at hp;rw[hp]at h2;cases h2
   ·exact⟨w,z,hp⟩) (fun w hw gs hg hp=>hm w (lZ _ hw) gs (hg.trans wdp) hp)
  rw[Mq,XF]
  omega
theorem IK:∀{xs ys:List Int},xs.Pairwise (· < ·)->ys.Pairwise (· < ·)->(∀k,k∈xs↔k∈ys)->xs=ys
 |[],[],_,_,_=>rfl
 |[],y::ys,_,_,h=>by have:=(h y).mpr (by simp);simp at this
 |x::xs,[],_,_,h=>by have:=(h x).mp (by simp);simp at this
 |x::xs,y::ys,hx,hy,h=>by
  rw[Wv]at hx hy
  have e:x=y:=by
   have a:=(h x).mp (by simp)
   have b:=(h y).mpr (by simp)
   rcases cT.mp a with a|a
   ·exact a
   ·rcases cT.mp b with b|b
    ·exact b.symm
    ·have:=hy.1 x a;have:=hx.1 y b;omega
  subst e
  rw[IK hx.2 hy.2 fun k=> ?_]
  constructor
  ·intro hk
   rcases cT.mp ((h k).mp (lZ _ hk))with a|a
   ·have:=hx.1 k hk;omega
   ·exact a
  ·intro hk
   rcases cT.mp ((h k).mpr (lZ _ hk))with a|a
   ·have:=hy.1 k hk;omega
   ·exact a
theorem eY{α β:Type}{g:α->β}:∀{l:List α},l.Nodup->(∀a∈l,∀b∈l,g a=g b->a=b)->(l.map g).Nodup
 |[],_,_=>List.nodup_nil
 |a::l,h,hi=>by
  rw[M5]at h
  rw[Fy,M5]
  refine⟨fun hm=> ?_,eY h.2 fun x hx y hy=>hi x (lZ _ hx) y (lZ _ hy)⟩
  obtain⟨b,hb,e⟩:=eE.mp hm
  have:=hi b (lZ _ hb) a (by simp) e
  rw[this]at hb
  exact h.1 hb
def bR(r:Int->Int->Bool)(v u:Int):Bool:=decide (u=v)||r u v
theorem HF{r:Int->Int->Bool}(sym:∀i j,r i j=r j i):∀(n:Nat) (V:List Int),V.length=n->n<=10->∀fs:List (List Int),fs.Nodup->(∀s∈fs,Full r V s)->fs.length<=ff n:=by
 intro n
 induction n using Nat.strongRecOn with
 |ind n ih=>
  intro V hV hn fs nd hf
  by_cases hz:V=[]
  ·have e:∀s∈fs,s=[]:=fun s hs=>by
    cases s with
    |nil=>rfl
    |cons x s=>have:=(hf _ hs).sub x (by simp);rw[hz]at this;cases this
   have l1:fs.length<=1:=by
    match fs,nd,e with
    |[],_,_=>simp
    |[_],_,_=>simp
    |a::b::fs,nd,e=>
     exfalso
     rw[M5]at nd
     apply nd.1
     rw[e a (by simp),e b (by simp)]
     simp
   have:1<=ff n:=by
    have:=Cd 0 n (jj _) hn
    exact this
   omega
  obtain⟨v,hv,hmin⟩:=DW (fun u=>(V.filter (bR r u)).length) V hz
  have key:=Ah (fun(u:Int) (s:List Int)=>decide (u∈s)) (ff (n-(V.filter (bR r v)).length)) (V.filter (bR r v)) fs (fun s hs=> ?_) (fun u hu gs hg hp=> ?_)
  ·have hle:(V.filter (bR r v)).length<=n:=by rw[<-hV];exact yW _ _
   have hpos:0<(V.filter (bR r v)).length:=ydc (lY.mpr ⟨hv,by unfold bR;simp⟩)
   exact gJ key (Tr n _ hpos hle hn)
  ·by_cases c:v∈s
   ·exact⟨v,lY.mpr ⟨hv,by unfold bR;simp⟩,cJ c⟩
   ·obtain⟨x,hx,hr⟩:=(hf s hs).max v hv c
    exact⟨x,lY.mpr ⟨(hf s hs).sub x hx,by unfold bR;rw[hr];simp⟩,cJ hx⟩
  ·have huV:u∈V:=(lY.mp hu).1
   have fg:∀s∈gs,Full r V s/\u∈s:=fun s hs=>⟨hf s (hg.subset hs),yZ (hp s hs)⟩
   have hle:(V.filter (bR r u)).length<=n:=by rw[<-hV];exact yW _ _
   have hge:=hmin u huV
   have hpos:0<(V.filter (bR r u)).length:=ydc (lY.mpr ⟨huV,by unfold bR;simp⟩)
   have hV2:(V.filter fun x=> !bR r u x).length=n-(V.filter (bR r u)).length:=by have:=qb (bR r u) V;omega
   have Ht:∀(s:List Int) (x:Int),x∈s.filter (fun x=> !decide (x=u))↔x∈s/\x≠u:=fun s x=>by rw[lY];simp
   have h1:=ih (n-(V.filter (bR r u)).length) (by omega) (V.filter fun x=> !bR r u x) hV2 (by omega) (gs.map fun s=>s.filter fun x=> !decide (x=u)) (eY (nd.sublist hg) fun s hs t ht e=> ?_) (fun t ht=> ?_)
   ·rw[aQ]at h1
    exact gJ h1 (Cd _ _ (by omega) (by omega))
   ·obtain⟨a1,a2⟩:=fg s hs
    obtain⟨b1,b2⟩:=fg t ht
    refine IK a1.up b1.up fun k=> ?_
    have hk:k∈s.filter (fun x=> !decide (x=u))↔k∈t.filter (fun x=> !decide (x=u)):=by rw[show s.filter (fun x=> !decide (x=u))=t.filter (fun x=> !decide (x=u))from e]
    rw[Ht,Ht]at hk
    by_cases c:k=u
    ·rw[c];exact⟨fun _=>b2,fun _=>a2⟩
    ·exact⟨fun z=>(hk.mp ⟨z,c⟩).1,fun z=>(hk.mpr ⟨z,c⟩).1⟩
   ·obtain⟨s,hs,rfl⟩:=eE.mp ht
    obtain⟨a1,a2⟩:=fg s hs
    refine⟨a1.up.sublist wdp,fun x hx=> ?_,fun x hx y hy=> ?_,fun w hw hn=> ?_⟩
    ·obtain⟨x1,x2⟩:=(Ht s x).mp hx
     refine lY.mpr ⟨a1.sub x x1,?_⟩
     unfold bR
     rw[a1.ind x x1 u a2 x2,gB x2]
     rfl
    ·exact a1.ind x ((Ht s x).mp hx).1 y ((Ht s y).mp hy).1
    ·obtain⟨w1,w2⟩:=lY.mp hw
     have w3:bR r u w=false:=by simpa using w2
     unfold bR at w3
     rw[Bool.or_eq_false_iff]at w3
     have wu:w≠u:=wdy w3.1
     have ws:w∉s:=fun z=>hn ((Ht s w).mpr ⟨z,wu⟩)
     obtain⟨x,hx,hr⟩:=a1.max w w1 ws
     have xu:x≠u:=fun z=>by rw[z,sym u w,w3.2]at hr;cases hr
     exact⟨x,(Ht s x).mpr ⟨hx,xu⟩,hr⟩
end Hs
namespace Hs
open PySem yL
theorem eO{n:Nat}{x:Int}:x∈rng n↔0<=x/\x<(n:Int):=by
 unfold rng
 rw[eE]
 constructor
 ·rintro⟨k,hk,rfl⟩
  have:=uw.mp hk
  omega
 ·rintro⟨h0,h1⟩
  exact⟨x.toNat,uw.mpr (by omega),by omega⟩
def goB(ts:List (Int×Int))(w:Bool)(s:List Int)(p:Int):Bool:=s.all fun q=>aq ts p q==w
def bU(ts:List (Int×Int))(w:Bool):Nat->List (List Int)
 |0=>[[]]
 |k+1=>bU ts w k++((bU ts w k).filter fun s=>goB ts w s (k:Int)).map fun s=>s++[(k:Int)]
def qW(ts:List (Int×Int))(w:Bool)(n:Nat)(s:List Int):Bool:= !((rng n).any fun p=> !decide (p∈s)&&goB ts w s p)
def kO(ts:List (Int×Int))(w:Bool)(n:Nat):List (List Int):=(bU ts w n).filter (qW ts w n)
structure Z4(ts:List (Int×Int))(w:Bool)(k:Nat)(s:List Int):Prop where
 up:s.Pairwise (· < ·)
 lt:∀x∈s,0<=x/\x<(k:Int)
 all:∀x∈s,∀y∈s,x≠y->(aq ts x y==w)=true
theorem vR{ts:List (Int×Int)}{w:Bool}:∀(k:Nat) (s:List Int),s∈bU ts w k->Z4 ts w k s
 |0,s,h=>by
  rw[jk.mp (show s∈[[]]from h)]
  exact⟨List.Pairwise.nil,fun x hx=>(nomatch hx),fun x hx=>(nomatch hx)⟩
 |k+1,s,h=>by
  rcases fj.mp (show s∈bU ts w k++((bU ts w k).filter fun s=>goB ts w s (k:Int)).map fun s=>s++[(k:Int)]from h)with q|q
  ·have S:=vR k s q
   exact⟨S.up,fun x hx=>by have:=S.lt x hx;omega,S.all⟩
  ·obtain⟨t,ht,rfl⟩:=eE.mp q
   obtain⟨t1,t2⟩:=lY.mp ht
   have S:=vR k t t1
   have g:∀y∈t,(aq ts (k:Int) y==w)=true:=fun y hy=>mO.mp t2 y hy
   refine⟨?_,fun x hx=> ?_,fun x hx y hy hne=> ?_⟩
   ·rw[Xp]
    refine⟨S.up,List.pairwise_singleton _ _,fun x hx y hy=> ?_⟩
    rw[jk.mp hy]
    exact(S.lt x hx).2
   ·rcases fj.mp hx with z|z
    ·have:=S.lt x z;omega
    ·rw[jk.mp z];omega
   ·rcases fj.mp hx with z|z
    ·rcases fj.mp hy with z'|z'
     ·exact S.all x z y z' hne
     ·rw[jk.mp z',Cy];exact g x z
    ·rw[jk.mp z]at hne⊢
     rcases fj.mp hy with z'|z'
     ·exact g y z'
     ·exact absurd (jk.mp z').symm hne
theorem nJ{ts:List (Int×Int)}{w:Bool}:∀k:Nat,(bU ts w k).Nodup
 |0=>by show([[]]:List (List Int)).Nodup;simp
 |k+1=>by
  show(bU ts w k++((bU ts w k).filter fun s=>goB ts w s (k:Int)).map fun s=>s++[(k:Int)]).Nodup
  refine JQ.mpr ⟨nJ k,eY ((nJ k).filter _) (fun a _ b _ e=>List.append_cancel_right e),fun a ha b hb e=> ?_⟩
  obtain⟨t,_,rfl⟩:=eE.mp hb
  have:=(vR k a ha).lt (k:Int) (by rw[e];simp)
  omega
theorem Dh{ts:List (Int×Int)}{w:Bool}:∀k:Nat,(bU ts w k).length<=2^k
 |0=>bx _
 |k+1=>by
  show(bU ts w k++((bU ts w k).filter fun s=>goB ts w s (k:Int)).map fun s=>s++[(k:Int)]).length<=2^(k+1)
  rw[iz,aQ,Nat.pow_succ]
  have a:=Dh (ts:=ts) (w:=w) k
  have b:=yW (fun s=>goB ts w s (k:Int)) (bU ts w k)
  omega
theorem JB{ts:List (Int×Int)}{w:Bool}{n:Nat}{s:List Int}(h:s∈kO ts w n):Full (fun i j=> !(aq ts i j==w)) (rng n) s:=by
 obtain⟨h1,h2⟩:=lY.mp h
 have S:=vR n s h1
 refine⟨S.up,fun x hx=>eO.mpr (S.lt x hx),fun x hx y hy hne=>by rw[S.all x hx y hy hne];rfl,fun v hv hn=> ?_⟩
 unfold qW at h2
 apply wec
 intro hc
 have h3:((rng n).any fun p=> !decide (p∈s)&&goB ts w s p)=false:=by simpa using h2
 rw[wek]at h3
 apply h3 v hv
 rw[gB hn]
 show goB ts w s v=true
 unfold goB
 rw[mO]
 intro q hq
 cases e:(aq ts v q==w)with
 |true=>rfl
 |false=>exact absurd ⟨q,hq,by show(!(aq ts q v==w))=true;rw[Cy,e];rfl⟩ hc
theorem Lg{ts:List (Int×Int)}{w:Bool}{n:Nat}(hn:n<=10):(kO ts w n).length<=36:=by
 have h:=HF (r:=fun i j=> !(aq ts i j==w)) (fun i j=>by rw[Cy]) n (rng n) (by unfold rng;simp) hn (kO ts w n) ((nJ n).filter _) (fun s hs=>JB hs)
 have:=Cd n 10 hn (bx _)
 exact gJ h this
def jc(ts:List (Int×Int))(w:Bool)(n:Nat)(s:List Int):List Int:=(rng n).filter fun p=>s.all fun q=> !decide (p=q)&&(aq ts q p==w)
def lU(ts:List (Int×Int))(w:Bool)(n:Nat)(q:Int):List Int:=(rng n).filter fun p=> !decide (p=q)&&(aq ts q p==w)
theorem Pz(ts:List (Int×Int))(w:Bool)(n:Nat):jc ts w n []=rng n:=by unfold jc;exact List.filter_eq_self.mpr fun _ _=>rfl
theorem K3(ts:List (Int×Int))(w:Bool)(n:Nat)(s:List Int)(k:Int):jc ts w n (s++[k])=(jc ts w n s).filter fun p=>decide (p∈lU ts w n k):=by
 unfold jc
 rw[List.filter_filter]
 refine wei fun p hp=> ?_
 rw[List.all_append,Bool.and_comm]
 congr 1
 unfold lU
 rw[vA,uN,lY]
 simp[hp]
theorem Sx{ts:List (Int×Int)}{w:Bool}{n k:Nat}{s:List Int}(hs:Z4 ts w k s)(hk:k<n):decide ((k:Int)∈jc ts w n s)=goB ts w s (k:Int):=by
 unfold jc goB
 rw[vA,uN,lY,mO,mO]
 constructor
 ·rintro⟨_,h⟩ q hq
  have:=h q hq
  rw[qt]at this
  rw[Cy];exact this.2
 ·intro h
  refine⟨eO.mpr ⟨by omega,by omega⟩,fun q hq=> ?_⟩
  have:=(hs.lt q hq).2
  rw[qt]
  refine⟨?_,by rw[Cy];exact h q hq⟩
  rw[gB (by omega)];rfl
theorem K4(ts:List (Int×Int))(w:Bool)(n:Nat)(s:List Int):decide (jc ts w n s=[])=qW ts w n s:=by
 unfold jc qW
 rw[vA,uN,ydd,UJ,wek]
 constructor
 ·intro h p hp hc
  rw[qt]at hc
  apply h p hp
  rw[mO]
  intro q hq
  have h1:p∉s:=by simpa using hc.1
  have h2:=mO.mp hc.2 q hq
  rw[qt]
  refine⟨?_,by rw[Cy];exact h2⟩
  have ne:¬p=q:=fun e=>h1 (by rw[e];exact hq)
  rw[gB ne];rfl
 ·intro h p hp hc
  apply h p hp
  rw[mO]at hc
  rw[qt]
  refine⟨?_,?_⟩
  ·have:p∉s:=fun z=>by
    have:=hc p z
    simp at this
   rw[gB this];rfl
  ·unfold goB
   rw[mO]
   intro q hq
   have:=hc q hq
   rw[qt]at this
   rw[Cy];exact this.2
theorem Ju{xs ys:List (List Int)}(h:xs.Perm ys)(hx:xs.Pairwise fun a b=>HT.lexLt b a=false)(hy:ys.Pairwise fun a b=>HT.lexLt b a=false):xs=ys:=by
 refine List.Perm.eq_of_pairwise (le:=fun a b=>HT.lexLt b a=false) (fun a b _ _ h1 h2=> ?_) hx hy h
 rw[HT.bF,wbt]at h1 h2
 exact wep (Mh.mp h1) (Mh.mp h2)
end Hs
namespace Hs
open PySem L2 yL
section
variable{P:Program}{w:World}{K:W.Frag}{mg:Str->Option Value}{base:Heap}
theorem v8(k:Nat):rng (k+1)=rng k++[(k:Int)]:=by unfold rng;rw[Ml,bW];rfl
theorem Nq(n:Nat):jh n=(rng n).map V.int:=by unfold jh rng;rw[CJ];rfl
def CZ(K:W.Frag):Sp:=fun vs H Q _=>∃(l m:Addr) (xs ys:List Int),vs=[.ref l,.ref m]/\SqL K H l (xs.map V.int)/\SqL K H m (ys.map V.int)/\∀r H',Same H H'->H' r=some (.lst ((xs.filter fun p=>decide (p∈ys)).map V.int))->H r=none->Q (.ref r) H'
theorem zV:FnScope ["ones","others"] ["ones","others"] (defScope QX):=fsc
theorem KC{f:Addr}{fd:FuncData}(F:Fun K "in_both" "in_both" QX f fd):
  FnOk P w K mg base CX0 1 f fd ["ones","others"] (CZ K):=by
 refine F.ok zV (fun vs H Q E h=> ?_) (fun cdv A outer s H vs Q E hr h=> ?_)
 ·obtain⟨l,m,xs,ys,rfl,_⟩:=h
  rfl
 obtain⟨l,m,xs,ys,rfl,hL,hM,q⟩:=h
 refine⟨_,(bB (bV (lX (own:=["place"]) (caps:=["others"]) (ix:=[1]) rfl (Mf (pv 0)) rfl rfl (.cons rfl rfl .nil) (fun _ _ _ _ _=>(dD (i:=0) (show(["place","others"]:List Str).Nodup from by decide+kernel) rfl (Or.inl rfl))) (fun _ _ _ _ _=>Fp (iW (lJ K hr.units) (pv 0) (pv 1) (by with_unfolding_all rfl))) (fun _ _ _ _ _=>(pv 0))))),?_⟩
 refine⟨_,rfl,l,_,rfl,hL,fun hz=> ?_⟩
 refine MF (xs:=xs.map V.int) (fun k acc σ H'=>acc=((xs.take k).filter fun p=>decide (p∈ys)).map V.int/\Same H H'/\∃o,σ=[o,some (.ref m)]) ⟨rfl,Same.refl _,_,rfl⟩ (fun k acc σ H' _ p=>p.2.1.seq hL) (fun k acc σ H' hk p=> ?_) hz (fun k x acc σ H' hx p=> ?_) (fun acc σ H' p=> ?_)
 ·rw[p.1,aQ]
  exact gJ (yW _ _) (by rw[yV];exact Mj _ _)
 ·obtain⟨rfl,sm,o,rfl⟩:=p
  rw[gw]at hx
  cases ex:xs[k]? with
  |none=>rw[ex]at hx;cases hx
  |some y=>
   rw[ex]at hx
   cases hx
   obtain⟨hk,ey⟩:=Aq.mp ex
   have e:=Vk (p:=fun p=>decide (p∈ys)) hk
   rw[ey]at e
   refine⟨_,rfl,_,rfl,m,_,_,.int y,rfl,.inl (sm.seq hM),bL.ints ys,.int _,lay_ints ys,rfl,(by show 0<=60;decide),_,rfl,?_⟩
   rw[any_ints]
   refine ite2 (fun c=> ?_) (fun c=> ?_)
   ·exact⟨_,rfl,by rw[e,bD c,bW];rfl,sm,_,rfl⟩
   ·exact⟨by rw[e,bC c,uU],sm,_,rfl⟩
 ·intro p1 hp1
  obtain⟨rfl,sm,_⟩:=p
  rw[aQ,ux]
  exact q p1 _ (sm.trans (aR hp1 _)) aM (sm.free hp1)
def Bj(K:W.Frag):Sp:=fun vs H Q _=>∃(a:Addr) (n i:Int) (ts:List (Int×Int)) (w:Bool),vs=[.ref a,.int i,.bl w]/\bA K H a n ts/\∀r H',Same H H'->H' r=some (.lst ((lU ts w n.toNat i).map V.int))->H r=none->Q (.ref r) H'
theorem Oj:FnScope ["web","place","tied"] ["web","place","tied"] (defScope Rp):=fsc
theorem Ph{f f1:Addr}{fd d1:FuncData}(F:Fun K "places_by_tie" "places_by_tie" Rp f fd)(D1:aL K mg "has_tie" Fw ["web","one","other"] f1 d1)(G1:FnOk P w K mg base CX0 1 f1 d1 ["web","one","other"] (qz K))(aV:mg "range"=none):
  FnOk P w K mg base CX0 2 f fd ["web","place","tied"] (Bj K):=by
 refine F.ok Oj (fun vs H Q E h=> ?_) (fun cdv A outer s H vs Q E hr h=> ?_)
 ·obtain⟨a,n,i,ts,w,rfl,_⟩:=h
  rfl
 obtain⟨a,n,i,ts,w,rfl,hA,q⟩:=h
 refine⟨_,(bB (bV (lX (own:=["other"]) (caps:=["place","web","tied"]) (ix:=[1,0,2]) rfl (Fq rfl aV (aj (cR eZ (pv 0) aY (fun _ _=>rfl)) ak)) rfl rfl (.cons rfl rfl (.cons rfl rfl (.cons rfl rfl .nil))) (fun _ _ _ _ _=>(dD (i:=0) (show(["other","place","web","tied"]:List Str).Nodup from by decide+kernel) rfl (Or.inl rfl))) (fun _ _ _ _ _=>Fp (PW.pt (pw_and (iW op_ne (pv 0) (pv 1) (nomark _)) (pw_and1 (iW op_eq (pc G1 hr D1 (aj (pv 2) (aj (pv 1) (aj (pv 0) ak)))) (pv 3) (nomark _)))))) (fun _ _ _ _ _=>(pv 0))))),?_⟩
 have h0:=hA.h0
 have h10:=hA.h1
 obtain⟨ta,ra,a1,a2,a3⟩:=id hA.web
 refine⟨_,rfl,a,_,_,.int n,rfl,rfl,a1,rfl,n,rfl,by omega,by omega,?_⟩
 refine JM (n:=n.toNat) (fun k acc σ H'=>acc=((rng k).filter fun p=> !decide (p=i)&&(aq ts i p==w)).map V.int/\Same H H'/\∃o,σ=[o,some (.int i),some (.ref a),some (.bl w)]) ⟨rfl,Same.refl _,_,rfl⟩ (fun k acc σ H' hk p=> ?_) (by rw[eF];omega) (fun k acc σ H' hk p=> ?_) (fun acc σ H' p=> ?_)
 ·rw[p.1,aQ]
  exact gJ (yW _ _) (by unfold rng;simp)
 ·obtain⟨rfl,sm,o,rfl⟩:=p
  have ek:(0+(k:Int))=(k:Int):=by omega
  rw[ek]
  have e:∀b,b=(!decide ((k:Int)=i)&&(aq ts i (k:Int)==w))->((rng (k+1)).filter fun p=> !decide (p=i)&&(aq ts i p==w))=((rng k).filter fun p=> !decide (p=i)&&(aq ts i p==w))++(if b=true then[(k:Int)]else[]):=fun b hb=>by
   rw[v8,Rv,M6,hb];rfl
  refine⟨_,rfl,_,rfl,rfl,_,rfl,?_⟩
  rw[Jv]
  refine ite2 (fun c=> ?_) (fun c=> ?_)
  ·refine⟨_,rfl,_,rfl,_,rfl,a,n,_,_,ts,rfl,(hA.same sm).web,fun H5 s5=>⟨_,rfl,rfl,_,rfl,?_⟩⟩
   rw[blV_eq,tied_eq hA.pk]
   refine ite2 (fun c2=> ?_) (fun c2=> ?_)
   ·exact⟨_,rfl,by rw[e true (by rw[c,c2];rfl),bW];rfl,sm.trans s5,_,rfl⟩
   ·exact⟨by rw[e false (by rw[c,Bool.eq_false_iff.mpr c2];rfl)];simp,sm.trans s5,_,rfl⟩
  ·exact⟨by rw[e false (by rw[Bool.eq_false_iff.mpr c];rfl)];simp,sm,_,rfl⟩
 ·intro p1 hp1
  obtain⟨rfl,sm,_⟩:=p
  exact q p1 _ (sm.trans (aR hp1 _)) aM (sm.free hp1)
def lg(K:W.Frag)(H:Hp)(r:Addr)(ss:List (List Int)):Prop:=∃its:List (Addr×List Int),H r=some (.lst (its.map fun p=>V.ref p.1))/\(∀p∈its,SqT K H p.1 (p.2.map V.int))/\its.map (fun p=>p.2)=ss
theorem lg.same{H H':Hp}{r:Addr}{ss:List (List Int)}(h:lg K H r ss)(e:Same H H'):lg K H' r ss:=by
 obtain⟨its,h1,h2,h3⟩:=h
 exact⟨its,e _ _ h1,fun p hp=>e.tup (h2 p hp),h3⟩
def iR(ss:List (List Int))(ts:List (Int×Int))(w:Bool)(n:Nat):Prop:=ss.Perm (kO ts w n)/\ss.Pairwise fun a b=>HT.lexLt b a=false
theorem Ti{ts:List (Int×Int)}{w:Bool}{n:Nat}(h2:2<=(kO ts w n).length):∀s∈kO ts w n,s≠[]:=by
 intro s hs e
 subst e
 have F:=JB hs
 cases n with
 |zero=>
  have:(kO ts w 0).length<=1:=by
   show(([[]]:List (List Int)).filter (qW ts w 0)).length<=1
   exact yW _ _
  omega
 |succ n=>
  obtain⟨x,hx,_⟩:=F.max 0 (eO.mpr ⟨by omega,by omega⟩) (by simp)
  cases hx
structure Z7(K:W.Frag)(H:Hp)(ts:List (Int×Int))(w:Bool)(n:Nat)(q:Addr×Addr×Addr×List Int):Prop where
 pr:SqT K H q.1 [.ref q.2.1,.ref q.2.2.1]
 so:SqT K H q.2.1 (q.2.2.2.map V.int)
 le:H q.2.2.1=some (.lst ((jc ts w n q.2.2.2).map V.int))
theorem Z7.same{H H':Hp}{ts:List (Int×Int)}{w:Bool}{n:Nat}{q:Addr×Addr×Addr×List Int}(h:Z7 K H ts w n q)(e:Same H H'):Z7 K H' ts w n q:=⟨e.tup h.pr,e.tup h.so,e _ _ h.le⟩
def QM(K:W.Frag)(H:Hp)(fd:Addr)(ts:List (Int×Int))(w:Bool)(n:Nat)(ss:List (List Int)):Prop:=∃its:List (Addr×Addr×Addr×List Int),H fd=some (.lst (its.map fun q=>V.ref q.1))/\(∀q∈its,Z7 K H ts w n q)/\its.map (fun q=>q.2.2.2)=ss
def nF(K:W.Frag):Sp:=fun vs H Q _=>∃(fl:Addr) (fas:List Addr) (ts:List (Int×Int)) (w:Bool) (n:Nat),vs=[.ref fl]/\H fl=some (.lst (fas.map V.ref))/\fas.length=n/\n<=10/\(∀(i:Nat) f,fas[i]? =some f->H f=some (.lst ((lU ts w n (i:Int)).map V.int)))/\
 ∀r ss H',Same H H'->lg K H' r ss->iR ss ts w n->H r=none->Q (.ref r) H'
theorem dM:FnScope ["friends","found","place","wider"] ["friends"] (defScope Rf):=fsc
theorem DG{f f1:Addr}{fd d1:FuncData}(F:Fun K "full_sets" "full_sets" Rf f fd)(D1:aL K mg "in_both" QX ["ones","others"] f1 d1)(G1:FnOk P w K mg base CX0 1 f1 d1 ["ones","others"] (CZ K))(wI:mg "list"=none)(aV:mg "range"=none)(bK:mg "len"=none)(fB:mg "sorted"=none):
  FnOk P w K mg base CX0 2 f fd ["friends"] (nF K):=by
 refine F.ok dM (fun vs H Q E h=> ?_) (fun cdv A outer s H vs Q E hr h=> ?_)
 ·obtain⟨fl,fas,ts,w,n,rfl,_⟩:=h
  rfl
 obtain⟨fl,fas,ts,w,n,rfl,hF,hn,h10,hfr,q⟩:=h
 refine⟨_,(bh (gG (i:=1) dM.nd rfl (Or.inl rfl) (pe_lst (aj (gH (aj (gH ak) (aj (Dw rfl rfl wI rfl aV (aj (dF zB rfl bK uV (aj (pv 0) ak)) ak)) ak))) ak))) (bh (ps_for Mv rfl (Fq rfl aV (aj (dF zB rfl bK uV (aj (pv 0) ak)) ak)) (dD (i:=2) dM.nd rfl (Or.inr rfl)) (bh (jq (i:=3) (own:=["some","left"]) (caps:=["place","friends"]) (ix:=[2,0]) dM.nd rfl (Or.inl rfl) rfl (Mf (pv 1)) rfl rfl (.cons rfl rfl (.cons rfl rfl .nil)) (fun _ _ _ _ _=>(eN K (n:=2) rfl (zA (dD (i:=0) (show(["some","left","place","friends"]:List Str).Nodup from by decide+kernel) rfl (Or.inl rfl)) (zA (dD (i:=1) (show(["some","left","place","friends"]:List Str).Nodup from by decide+kernel) rfl (Or.inl rfl)) pgs_nil)))) (fun _ _ _ _ _=>Fp (iW (lJ K hr.units) (pv 2) (pv 1) (by with_unfolding_all rfl))) (fun _ _ _ _ _=>(gH (aj (fQ (Dz K) (pv 0) (gH (aj (pv 2) ak))) (aj (pc G1 hr D1 (aj (pv 1) (aj (cR (jZ K) (pv 3) (pv 2) (fun _ _=>rfl)) ak))) ak))))) (bB (gG (i:=1) dM.nd rfl (Or.inl rfl) (fQ op_cat (pv 1) (pv 3)))))) (bB (bV (dF Cm rfl fB (by decide+kernel) (aj (lX (own:=["some","left"]) (caps:=[]) (ix:=[]) rfl (Mf (pv 1)) rfl rfl .nil (fun _ _ _ _ _=>(eN K (n:=2) rfl (zA (dD (i:=0) (show(["some","left"]:List Str).Nodup from by decide+kernel) rfl (Or.inl rfl)) (zA (dD (i:=1) (show(["some","left"]:List Str).Nodup from by decide+kernel) rfl (Or.inl rfl)) pgs_nil)))) (fun _ _ _ _ _=>Fp (pt_not (gM K (pv 1) (fun _=>rfl)))) (fun _ _ _ _ _=>(pv 0))) ak)))))),?_⟩
 have el:((fas.map V.ref).length:Int)=(n:Int):=by rw[aQ,hn]
 refine⟨(by show 0<=sizeLine;decide),fun e1 he1=> ?_⟩
 have s1:=aR he1 (.tup [])
 have t1:SqT K (upd H e1 (.tup [])) e1 []:=SqT.of aM
 generalize (upd H e1 (.tup []))=H1 at *
 refine⟨_,rfl,fl,_,rfl,.inl (SqL.of (s1 _ _ hF)),fun _=>⟨_,rfl,by omega,by rw[el];omega,fun rl hrl=> ?_⟩⟩
 have er:jh ((fas.map V.ref).length:Int).toNat=(rng n).map V.int:=by rw[el,Xn,Nq]
 rw[er]
 have s2:=aR hrl (.lst ((rng n).map V.int))
 have t2:(upd H1 rl (.lst ((rng n).map V.int))) rl=some (.lst ((rng n).map V.int)):=aM
 generalize (upd H1 rl (.lst ((rng n).map V.int)))=H2 at *
 refine⟨(by show 2<=sizeLine;decide),fun e3 he3=> ?_⟩
 have s3:=aR he3 (.tup [.ref e1,.ref rl])
 have t3:SqT K (upd H2 e3 (.tup [.ref e1,.ref rl])) e3 [.ref e1,.ref rl]:=SqT.of aM
 generalize (upd H2 e3 (.tup [.ref e1,.ref rl]))=H3 at *
 refine⟨(by show 1<=sizeLine;decide),fun fd hfd=> ?_⟩
 have s4:=aR hfd (.lst [.ref e3])
 have F4:QM K (upd H3 fd (.lst [.ref e3])) fd ts w n (bU ts w 0):=by
  refine⟨[(e3,e1,rl,[])],aM,fun q hq=> ?_,rfl⟩
  rw[jk.mp hq]
  exact⟨s4.tup t3,s4.tup (s3.tup (s2.tup t1)),by rw[Pz];exact s4 _ _ (s3 _ _ t2)⟩
 have s04:=s1.trans (s2.trans (s3.trans s4))
 generalize (upd H3 fd (.lst [.ref e3]))=H4 at *
 refine⟨_,rfl,fl,_,rfl,.inl (SqL.of (s04 _ _ hF)),fun _=>⟨_,rfl,by omega,by rw[el];omega,?_⟩⟩
 have en:((fas.map V.ref).length:Int).toNat=n:=by rw[el,Xn]
 rw[en]
 refine for_range (n:=n) (fun k σ H'=>Same H H'/\∃fd b2 b3,QM K H' fd ts w n (bU ts w k)/\σ=[some (.ref fl),some (.ref fd),b2,b3]) ⟨s04,fd,_,_,F4,rfl⟩ (fun k σ H' hk p=> ?_) (fun σ H' p=> ?_)
 ·obtain⟨s5,fd,b2,b3,F5,rfl⟩:=p
  have ek:(0+(k:Int))=(k:Int):=by omega
  rw[ek]
  obtain⟨its,f1,f2,f3⟩:=F5
  have hlen:its.length<=1024:=by
   have a:=Dh (ts:=ts) (w:=w) k
   rw[<-f3,aQ]at a
   have b:2^k<=2^10:=Nat.pow_le_pow_right (by decide) (by omega)
   have c:2^10=1024:=by decide
   omega
  have hkf:k<fas.length:=by omega
  have hfk:(fas.map V.ref)[k]? =some (.ref fas[k]):=by rw[gw,iY hkf];rfl
  have hgk:=hfr k fas[k] (iY hkf)
  refine⟨_,rfl,fd,_,rfl,SqL.of f1,fun hzf=> ?_⟩
  refine MF (xs:=its.map fun q=>V.ref q.1) (fun i acc σ JK=>(∃its2:List (Addr×Addr×Addr×List Int),acc=its2.map (fun q=>V.ref q.1)/\(∀q∈its2,Z7 K JK ts w n q)/\its2.map (fun q=>q.2.2.2)=(((bU ts w k).take i).filter fun s=>goB ts w s (k:Int)).map fun s=>s++[(k:Int)])/\Same H' JK/\∃o1 o2,σ=[o1,o2,some (.int (k:Int)),some (.ref fl)]) ⟨⟨[],rfl,fun q hq=>(nomatch hq),rfl⟩,Same.refl _,_,_,rfl⟩ (fun i acc σ JK _ p=>p.2.1.seq (SqL.of f1)) (fun i acc σ JK hi p=> ?_) hzf (fun i x acc σ JK hx p=> ?_) (fun acc σ JK p=> ?_)
  ·obtain⟨⟨its2,rfl,g2,g3⟩,_⟩:=p
   have a:=rH List.length g3
   rw[aQ,aQ]at a
   rw[aQ,a]
   exact gJ (yW _ _) (by rw[yV];exact Mj _ _)
  ·obtain⟨⟨its2,rfl,g2,g3⟩,sm,o1,o2,rfl⟩:=p
   rw[gw]at hx
   cases ex:its[i]? with
   |none=>rw[ex]at hx;cases hx
   |some v=>
    rw[ex]at hx
    cases hx
    have fv:=(f2 v (Fz ex)).same sm
    have hsv:(bU ts w k)[i]? =some v.2.2.2:=by rw[<-f3,gw,ex];rfl
    obtain⟨hi,esv⟩:=Aq.mp hsv
    have Sv:=vR k v.2.2.2 (Fz hsv)
    have e:=Vk (p:=fun s=>goB ts w s (k:Int)) hi
    rw[esv]at e
    refine⟨v.1,_,rfl,fv.pr,rfl,_,_,rfl,_,_,rfl,rfl,?_⟩
    refine⟨_,rfl,_,rfl,v.2.2.1,_,_,.int (k:Int),rfl,.inl (SqL.of fv.le),bL.ints _,.int _,lay_ints _,rfl,(by show 0<=60;decide),_,rfl,?_⟩
    rw[any_ints,Sx Sv hk]
    refine ite2 (fun c=> ?_) (fun c=> ?_)
    ·refine⟨_,rfl,_,rfl,(by show 1<=sizeLine;decide),fun e5 he5=> ?_⟩
     have s6:=aR he5 (.tup [.int (k:Int)])
     have t6:SqT K (upd JK e5 (.tup [.int (k:Int)])) e5 [.int (k:Int)]:=SqT.of aM
     generalize (upd JK e5 (.tup [.int (k:Int)]))=H6 at *
     have hvl:v.2.2.2.length<=10:=by
      have a:=cu (l:=v.2.2.2) (m:=rng n) (Sv.up.imp fun{x y} h=>by omega) (fun x hx=>eO.mpr (by have:=Sv.lt x hx;omega))
      have b:(rng n).length=n:=by unfold rng;simp
      omega
     refine⟨v.2.1,e5,_,_,rfl,rfl,s6.tup fv.so,t6,(by rw[aQ,eF];show v.2.2.2.length+1<=_;omega),fun r7 H7 s7 h7=> ?_⟩
     have Mw:=s6.trans s7
     refine⟨_,rfl,_,rfl,_,rfl,fl,_,_,.ref fas[k],rfl,rfl,SqL.of ((s5.trans (sm.trans Mw)) _ _ hF),atI_nat hfk,v.2.2.1,fas[k],_,_,rfl,SqL.of (Mw _ _ fv.le),SqL.of ((s5.trans (sm.trans Mw)) _ _ hgk),fun r8 H8 s8 h8 n8=> ?_⟩
     refine⟨(by show 2<=sizeLine;decide),fun e9 he9=> ?_⟩
     have s9:=aR he9 (.tup [.ref r7,.ref r8])
     have s69:=Mw.trans (s8.trans s9)
     refine⟨⟨its2++[(e9,r7,r8,v.2.2.2++[(k:Int)])],by rw[bW];rfl,fun q hq=> ?_,by rw[bW,g3,e,bD c,bW];rfl⟩,sm.trans s69,_,_,rfl⟩
     rcases fj.mp hq with z|z
     ·exact(g2 q z).same s69
     ·rw[jk.mp z]
      refine⟨SqT.of aM,s9.tup (s8.tup ?_),by rw[K3];exact s9 _ _ h8⟩
      rw[bW];exact h7
    ·exact⟨⟨its2,rfl,g2,by rw[g3,e,bC c,uU]⟩,sm,_,_,rfl⟩
  ·intro p1 hp1
   obtain⟨⟨its2,rfl,g2,g3⟩,sm,o1,o2,rfl⟩:=p
   have hle:(its.map fun q=>V.ref q.1).length=(bU ts w k).length:=by rw[aQ,<-f3,aQ]
   rw[hle,ux]at g3
   have s6:=aR hp1 (.lst (its2.map fun q=>V.ref q.1))
   have l2:its2.length<=1024:=by
    have a:=rH List.length g3
    rw[aQ,aQ]at a
    have b:=yW (fun s=>goB ts w s (k:Int)) (bU ts w k)
    rw[<-f3,aQ]at b
    rw[<-f3]at a
    omega
   refine⟨_,rfl,_,rfl,fd,p1,_,_,rfl,rfl,(sm.trans s6) _ _ f1,aM,by rw[aQ,aQ,eF];omega,fun p2 hp2=> ?_⟩
   have s7:=aR hp2 (.lst ((its.map fun q=>V.ref q.1)++(its2.map fun q=>V.ref q.1)))
   refine⟨s5.trans (sm.trans (s6.trans s7)),p2,_,_,⟨its++its2,by rw[aM,bW],fun q hq=> ?_,by rw[bW,f3,g3];rfl⟩,rfl⟩
   rcases fj.mp hq with z|z
   ·exact(f2 q z).same (sm.trans (s6.trans s7))
   ·exact(g2 q z).same (s6.trans s7)
 ·obtain⟨s5,fd,b2,b3,⟨its,f1,f2,f3⟩,rfl⟩:=p
  refine⟨_,rfl,fd,_,rfl,SqL.of f1,fun hzf=> ?_⟩
  refine MF (xs:=its.map fun q=>V.ref q.1) (fun i acc σ JK=>(∃its2:List (Addr×List Int),acc=its2.map (fun q=>V.ref q.1)/\(∀q∈its2,SqT K H' q.1 (q.2.map V.int))/\its2.map (fun q=>q.2)=((bU ts w n).take i).filter (qW ts w n))/\Same H' JK/\∃o1 o2,σ=[o1,o2]) ⟨⟨[],rfl,fun q hq=>(nomatch hq),rfl⟩,Same.refl _,_,_,rfl⟩ (fun i acc σ JK _ p=>p.2.1.seq (SqL.of f1)) (fun i acc σ JK hi p=> ?_) hzf (fun i x acc σ JK hx p=> ?_) (fun acc σ JK p=> ?_)
  ·obtain⟨⟨its2,rfl,g2,g3⟩,_⟩:=p
   have a:=rH List.length g3
   rw[aQ]at a
   rw[aQ,a]
   exact gJ (yW _ _) (by rw[yV];exact Mj _ _)
  ·obtain⟨⟨its2,rfl,g2,g3⟩,sm,o1,o2,rfl⟩:=p
   rw[gw]at hx
   cases ex:its[i]? with
   |none=>rw[ex]at hx;cases hx
   |some v=>
    rw[ex]at hx
    cases hx
    have fv:=f2 v (Fz ex)
    have hsv:(bU ts w n)[i]? =some v.2.2.2:=by rw[<-f3,gw,ex];rfl
    obtain⟨hi,esv⟩:=Aq.mp hsv
    have e:=Vk (p:=qW ts w n) hi
    rw[esv]at e
    refine⟨v.1,_,rfl,sm.tup fv.pr,rfl,_,_,rfl,_,_,rfl,rfl,?_⟩
    refine⟨_,rfl,_,.inl ⟨_,SqL.of (sm _ _ fv.le),rfl⟩,?_⟩
    have eb:(!!((jc ts w n v.2.2.2).map V.int).isEmpty)=qW ts w n v.2.2.2:=by
     rw[wfp,<-K4]
     cases jc ts w n v.2.2.2<;>rfl
    dsimp only
    rw[eb]
    refine ite2 (fun c=> ?_) (fun c=> ?_)
    ·refine⟨_,rfl,⟨its2++[(v.2.1,v.2.2.2)],by rw[bW];rfl,fun q hq=> ?_,by rw[bW,g3,e,bD c];rfl⟩,sm,_,_,rfl⟩
     rcases fj.mp hq with z|z
     ·exact g2 q z
     ·rw[jk.mp z];exact fv.so
    ·exact⟨⟨its2,rfl,g2,by rw[g3,e,bC c,uU]⟩,sm,_,_,rfl⟩
  ·intro p1 hp1
   obtain⟨⟨its2,rfl,g2,g3⟩,sm,_⟩:=p
   have hle:(its.map fun q=>V.ref q.1).length=(bU ts w n).length:=by rw[aQ,<-f3,aQ]
   rw[hle,ux]at g3
   have g4:its2.map (fun q=>q.2)=kO ts w n:=g3
   have hl2:its2.length=(kO ts w n).length:=by rw[<-g4,aQ]
   have h36:=Lg (ts:=ts) (w:=w) h10
   have s6:=aR hp1 (.lst (its2.map fun q=>V.ref q.1))
   refine⟨p1,its2,rfl,SqL.of aM,fun p hp=>⟨(sm.trans s6).tup (g2 p hp),fun h2=> ?_⟩,by omega,fun l its' hl hpm hpw=> ?_⟩
   ·exact Ti (ts:=ts) (w:=w) (n:=n) (by omega) p.2 (by rw[<-g4];exact eE.mpr ⟨p,hp,rfl⟩)
   ·have s7:=aR hl (.lst (its'.map fun q=>V.ref q.1))
    have s57:=s5.trans (sm.trans (s6.trans s7))
    refine q l (its'.map fun q=>q.2) _ s57 ⟨its',aM,fun p hp=>(sm.trans (s6.trans s7)).tup (g2 p (hpm.mem_iff.mp hp)),rfl⟩ ⟨?_,?_⟩ ((s5.trans (sm.trans s6)).free hl)
    ·rw[<-g4];exact hpm.map _
    ·rw[Iz];exact hpw
def fY(K:W.Frag):Sp:=fun vs H Q _=>∃(a:Addr) (n:Int) (ts:List (Int×Int)),vs=[.ref a]/\bA K H a n ts/\∀r ss H',Same H H'->lg K H' r ss->iR ss ts false n.toNat->H r=none->Q (.ref r) H'
theorem Bm:FnScope ["web"] ["web"] (defScope Rh):=fsc
theorem Bv{f f1 f2 f3:Addr}{fd d1 d2 d3:FuncData}(F:Fun K "full_apart" "full_apart" Rh f fd)(D1:aL K mg "need_web" yR ["thing"] f1 d1)(G1:FnOk P w K mg base CX0 7 f1 d1 ["thing"] (aZ K))(D2:aL K mg "full_sets" Rf ["friends"] f2 d2)(G2:FnOk P w K mg base CX0 2 f2 d2 ["friends"] (nF K))(D3:aL K mg "places_by_tie" Rp ["web","place","tied"] f3 d3)(G3:FnOk P w K mg base CX0 2 f3 d3 ["web","place","tied"] (Bj K))(aV:mg "range"=none):
  FnOk P w K mg base CX0 8 f fd ["web"] (fY K):=by
 refine F.ok Bm (fun vs H Q E h=> ?_) (fun cdv A outer s H vs Q E hr h=> ?_)
 ·obtain⟨a,n,ts,rfl,_⟩:=h
  rfl
 obtain⟨a,n,ts,rfl,hA,q⟩:=h
 refine⟨_,(bh (jg (pc G1 hr D1 (aj (pv 0) ak))) (bB (bV (pc G2 hr D2 (aj (lX (own:=["place"]) (caps:=["web"]) (ix:=[0]) rfl (Fq rfl aV (aj (cR eZ (pv 0) aY (fun _ _=>rfl)) ak)) rfl rfl (.cons rfl rfl .nil) (fun _ _ _ _ _=>(dD (i:=0) (show(["place","web"]:List Str).Nodup from by decide+kernel) rfl (Or.inl rfl))) (fun _ _ _ _ _=>zy) (fun _ _ _ _ _=>(pc G3 hr D3 (aj (pv 1) (aj (pv 0) (aj pe_bl ak)))))) ak))))),?_⟩
 have h0:=hA.h0
 have h10:=hA.h1
 refine⟨_,rfl,_,_,rfl,hA.web.dv.dx,hA.ok,fun H1 s1=> ?_⟩
 have vh:=hA.same s1
 obtain⟨ta,ra,a1,a2,a3⟩:=id vh.web
 refine⟨_,rfl,a,_,_,.int n,rfl,rfl,a1,rfl,n,rfl,by omega,by omega,?_⟩
 refine JM (n:=n.toNat) (fun k acc σ H'=>(∃fas:List Addr,acc=fas.map V.ref/\fas.length=k/\∀(i:Nat) f,fas[i]? =some f->H' f=some (.lst ((lU ts false n.toNat (i:Int)).map V.int)))/\Same H1 H'/\∃o,σ=[o,some (.ref a)]) ⟨⟨[],rfl,rfl,fun i f h=>by simp at h⟩,Same.refl _,_,rfl⟩ (fun k acc σ H' hk p=> ?_) (by rw[eF];omega) (fun k acc σ H' hk p=> ?_) (fun acc σ H' p=> ?_)
 ·obtain⟨⟨fas,rfl,hl,_⟩,_⟩:=p
  rw[aQ];omega
 ·obtain⟨⟨fas,rfl,hl,hf⟩,sm,o,rfl⟩:=p
  have ek:(0+(k:Int))=(k:Int):=by omega
  rw[ek]
  refine⟨_,rfl,_,rfl,a,n,_,ts,false,rfl,vh.same sm,fun r H5 s5 h5 n5=>⟨⟨fas++[r],by rw[bW];rfl,by rw[iz,hl];rfl,fun i f hi=> ?_⟩,sm.trans s5,_,rfl⟩⟩
  by_cases c:i<fas.length
  ·rw[Xw c]at hi
   exact s5 _ _ (hf i f hi)
  ·have hb:i<(fas++[r]).length:=(Aq.mp hi).1
   rw[iz]at hb
   have e:i=fas.length:=by have:[r].length=1:=rfl;omega
   rw[e,Xx (bx _),Nat.sub_self]at hi
   cases hi
   rw[e,hl];exact h5
 ·intro p1 hp1
  obtain⟨⟨fas,rfl,hl,hf⟩,sm,_⟩:=p
  have s6:=aR hp1 (.lst (fas.map V.ref))
  exact⟨p1,fas,ts,false,n.toNat,rfl,aM,hl,by omega,fun i f hi=>s6 _ _ (hf i f hi),fun r ss H7 s7 h7 h8 n7=>q r ss H7 (s1.trans (sm.trans (s6.trans s7))) h7 h8 ((s1.trans (sm.trans s6)).free n7)⟩
def eG(K:W.Frag):Sp:=fun vs H Q _=>∃(a:Addr) (n:Int) (ts:List (Int×Int)),vs=[.ref a]/\bA K H a n ts/\∀r ss H',Same H H'->lg K H' r ss->iR ss ts true n.toNat->H r=none->Q (.ref r) H'
theorem zc:FnScope ["web"] ["web"] (defScope Rm):=fsc
theorem zf{f f1 f2 f3:Addr}{fd d1 d2 d3:FuncData}(F:Fun K "full_crowds" "full_crowds" Rm f fd)(D1:aL K mg "need_web" yR ["thing"] f1 d1)(G1:FnOk P w K mg base CX0 7 f1 d1 ["thing"] (aZ K))(D2:aL K mg "full_sets" Rf ["friends"] f2 d2)(G2:FnOk P w K mg base CX0 2 f2 d2 ["friends"] (nF K))(D3:aL K mg "places_by_tie" Rp ["web","place","tied"] f3 d3)(G3:FnOk P w K mg base CX0 2 f3 d3 ["web","place","tied"] (Bj K))(aV:mg "range"=none):
  FnOk P w K mg base CX0 8 f fd ["web"] (eG K):=by
 refine F.ok zc (fun vs H Q E h=> ?_) (fun cdv A outer s H vs Q E hr h=> ?_)
 ·obtain⟨a,n,ts,rfl,_⟩:=h
  rfl
 obtain⟨a,n,ts,rfl,hA,q⟩:=h
 refine⟨_,(bh (jg (pc G1 hr D1 (aj (pv 0) ak))) (bB (bV (pc G2 hr D2 (aj (lX (own:=["place"]) (caps:=["web"]) (ix:=[0]) rfl (Fq rfl aV (aj (cR eZ (pv 0) aY (fun _ _=>rfl)) ak)) rfl rfl (.cons rfl rfl .nil) (fun _ _ _ _ _=>(dD (i:=0) (show(["place","web"]:List Str).Nodup from by decide+kernel) rfl (Or.inl rfl))) (fun _ _ _ _ _=>zy) (fun _ _ _ _ _=>(pc G3 hr D3 (aj (pv 1) (aj (pv 0) (aj pe_bl ak)))))) ak))))),?_⟩
 have h0:=hA.h0
 have h10:=hA.h1
 refine⟨_,rfl,_,_,rfl,hA.web.dv.dx,hA.ok,fun H1 s1=> ?_⟩
 have vh:=hA.same s1
 obtain⟨ta,ra,a1,a2,a3⟩:=id vh.web
 refine⟨_,rfl,a,_,_,.int n,rfl,rfl,a1,rfl,n,rfl,by omega,by omega,?_⟩
 refine JM (n:=n.toNat) (fun k acc σ H'=>(∃fas:List Addr,acc=fas.map V.ref/\fas.length=k/\∀(i:Nat) f,fas[i]? =some f->H' f=some (.lst ((lU ts true n.toNat (i:Int)).map V.int)))/\Same H1 H'/\∃o,σ=[o,some (.ref a)]) ⟨⟨[],rfl,rfl,fun i f h=>by simp at h⟩,Same.refl _,_,rfl⟩ (fun k acc σ H' hk p=> ?_) (by rw[eF];omega) (fun k acc σ H' hk p=> ?_) (fun acc σ H' p=> ?_)
 ·obtain⟨⟨fas,rfl,hl,_⟩,_⟩:=p
  rw[aQ];omega
 ·obtain⟨⟨fas,rfl,hl,hf⟩,sm,o,rfl⟩:=p
  have ek:(0+(k:Int))=(k:Int):=by omega
  rw[ek]
  refine⟨_,rfl,_,rfl,a,n,_,ts,true,rfl,vh.same sm,fun r H5 s5 h5 n5=>⟨⟨fas++[r],by rw[bW];rfl,by rw[iz,hl];rfl,fun i f hi=> ?_⟩,sm.trans s5,_,rfl⟩⟩
  by_cases c:i<fas.length
  ·rw[Xw c]at hi
   exact s5 _ _ (hf i f hi)
  ·have hb:i<(fas++[r]).length:=(Aq.mp hi).1
   rw[iz]at hb
   have e:i=fas.length:=by have:[r].length=1:=rfl;omega
   rw[e,Xx (bx _),Nat.sub_self]at hi
   cases hi
   rw[e,hl];exact h5
 ·intro p1 hp1
  obtain⟨⟨fas,rfl,hl,hf⟩,sm,_⟩:=p
  have s6:=aR hp1 (.lst (fas.map V.ref))
  exact⟨p1,fas,ts,true,n.toNat,rfl,aM,hl,by omega,fun i f hi=>s6 _ _ (hf i f hi),fun r ss H7 s7 h7 h8 n7=>q r ss H7 (s1.trans (sm.trans (s6.trans s7))) h7 h8 ((s1.trans (sm.trans s6)).free n7)⟩
def dY(ts:List (Int×Int))(w:Bool):Nat->List Int
 |0=>[]
 |k+1=>if goB ts w (dY ts w k) (k:Int)=true then dY ts w k++[(k:Int)]else dY ts w k
theorem Af{ts:List (Int×Int)}{w:Bool}:∀k:Nat,dY ts w k∈bU ts w k
 |0=>by show([]:List Int)∈[[]];simp
 |k+1=>by
  have ih:=Af (ts:=ts) (w:=w) k
  show dY ts w (k+1)∈bU ts w k++((bU ts w k).filter fun s=>goB ts w s (k:Int)).map fun s=>s++[(k:Int)]
  unfold dY
  by_cases c:goB ts w (dY ts w k) (k:Int)=true
  ·rw[bD c]
   exact yX _ (eE.mpr ⟨_,lY.mpr ⟨ih,c⟩,rfl⟩)
  ·rw[bC c]
   exact M7 _ ih
theorem pN{ts:List (Int×Int)}{w:Bool}{x:Int}{k:Nat}(h:x∈dY ts w k):∀m:Nat,x∈dY ts w (k+m)
 |0=>h
 |m+1=>by
  have ih:=pN h m
  show x∈dY ts w (k+m+1)
  unfold dY
  split
  ·exact M7 _ ih
  ·exact ih
theorem Qk(ts:List (Int×Int))(w:Bool)(n:Nat):kO ts w n≠[]:=by
 have h:dY ts w n∈kO ts w n:=by
  refine lY.mpr ⟨Af n,?_⟩
  unfold qW
  rw[UJ,wek]
  intro p hp hc
  rw[qt]at hc
  have hn:p∉dY ts w n:=by simpa using hc.1
  obtain⟨p0,p1⟩:=eO.mp hp
  have ep:((p.toNat:Nat):Int)=p:=by omega
  have hk:¬goB ts w (dY ts w p.toNat) p=true:=fun c=>by
   apply hn
   have h1:p∈dY ts w (p.toNat+1):=by
    unfold dY
    rw[ep,bD c]
    simp
   have h2:=pN h1 (n-(p.toNat+1))
   rw[show p.toNat+1+(n-(p.toNat+1))=n by omega]at h2
   exact h2
  apply hk
  unfold goB
  rw[mO]
  intro q hq
  have h2:=pN hq (n-p.toNat)
  rw[show p.toNat+(n-p.toNat)=n by omega]at h2
  exact mO.mp hc.2 q h2
 intro e
 rw[e]at h
 cases h
def vO(K:W.Frag):Sp:=fun vs H Q _=>∃(l:Addr) (its:List (Addr×List Int)),vs=[.ref l]/\SqL K H l (its.map fun p=>V.ref p.1)/\(∀p∈its,SqT K H p.1 (p.2.map V.int))/\its≠[]/\
 ∀(i:Nat) (p:Addr×List Int),its[i]? =some p->(∀(j:Nat) r,its[j]? =some r->r.2.length<=p.2.length/\(j<i->r.2.length<p.2.length))->Q (.ref p.1) H
theorem J5:FnScope ["sets"] ["sets"] (defScope Rq):=fsc
theorem KR{f:Addr}{fd:FuncData}(F:Fun K "first_greatest" "first_greatest" Rq f fd)(Yu:mg "max"=none)(bK:mg "len"=none):
  FnOk P w K mg base CX0 1 f fd ["sets"] (vO K):=by
 refine F.ok J5 (fun vs H Q E h=> ?_) (fun cdv A outer s H vs Q E hr h=> ?_)
 ·obtain⟨l,its,rfl,_⟩:=h
  rfl
 obtain⟨l,its,rfl,hL,hT,hne,q⟩:=h
 refine⟨_,(bB (bV (Kf rfl rfl Yu rfl bK (aj (pv 0) ak)))),?_⟩
 exact⟨_,rfl,l,its,rfl,hL,hT,hne,q⟩
def yK(s:List Int)(ts:List (Int×Int))(w:Bool)(n:Nat):Prop:=∃ss,iR ss ts w n/\∃i:Nat,ss[i]? =some s/\∀(j:Nat) t,ss[j]? =some t->t.length<=s.length/\(j<i->t.length<s.length)
theorem nH{ss tt:List (List Int)}{ts:List (Int×Int)}{w:Bool}{n:Nat}(h:iR ss ts w n)(h':iR tt ts w n):ss=tt:=Ju (h.1.trans h'.1.symm) h.2 h'.2
theorem wz{s t:List Int}{ts:List (Int×Int)}{w:Bool}{n:Nat}(h:yK s ts w n)(h':yK t ts w n):s=t:=by
 obtain⟨ss,a1,i,a2,a3⟩:=h
 obtain⟨tt,b1,j,b2,b3⟩:=h'
 have e:=nH a1 b1
 subst e
 have x:=a3 j t b2
 have y:=b3 i s a2
 have ij:i=j:=by
  rcases Nat.lt_trichotomy i j with z|z|z
  ·have:=y.2 z;omega
  ·exact z
  ·have:=x.2 z;omega
 subst ij
 rw[a2]at b2
 cases b2
 rfl
theorem zP{ss:List (List Int)}{ts:List (Int×Int)}{w:Bool}{n:Nat}(h:iR ss ts w n):ss≠[]:=fun e=>by
 have:=h.1.length_eq
 rw[e]at this
 exact Qk ts w n (List.length_eq_zero_iff.mp this.symm)
def Dc(K:W.Frag):Sp:=fun vs H Q _=>∃(a:Addr) (n:Int) (ts:List (Int×Int)),vs=[.ref a]/\bA K H a n ts/\∀(r:Addr) (s:List Int) H',Same H H'->SqT K H' r (s.map V.int)->yK s ts false n.toNat->Q (.ref r) H'
theorem J3:FnScope ["web"] ["web"] (defScope Ul):=fsc
theorem KH{f f1 f2:Addr}{fd d1 d2:FuncData}(F:Fun K "greatest_apart" "greatest_apart" Ul f fd)(D1:aL K mg "first_greatest" Rq ["sets"] f1 d1)(G1:FnOk P w K mg base CX0 1 f1 d1 ["sets"] (vO K))(D2:aL K mg "full_apart" Rh ["web"] f2 d2)(G2:FnOk P w K mg base CX0 8 f2 d2 ["web"] (fY K)):
  FnOk P w K mg base CX0 9 f fd ["web"] (Dc K):=by
 refine F.ok J3 (fun vs H Q E h=> ?_) (fun cdv A outer s H vs Q E hr h=> ?_)
 ·obtain⟨a,n,ts,rfl,_⟩:=h
  rfl
 obtain⟨a,n,ts,rfl,hA,q⟩:=h
 refine⟨_,(bB (bV (pc G1 hr D1 (aj (pc G2 hr D2 (aj (pv 0) ak)) ak)))),?_⟩
 refine⟨_,rfl,a,n,ts,rfl,hA,fun r ss H1 s1 h1 h2 n1=> ?_⟩
 obtain⟨its,g1,g2,g3⟩:=h1
 refine⟨r,its,rfl,SqL.of g1,g2,fun e=>zP h2 (by rw[<-g3,e];rfl),fun i p hi hb=>q p.1 p.2 H1 s1 (g2 p (Fz hi)) ⟨ss,h2,i,by rw[<-g3,gw,hi];rfl,fun j t ht=> ?_⟩⟩
 rw[<-g3,gw]at ht
 cases ej:its[j]? with
 |none=>rw[ej]at ht;cases ht
 |some r'=>
  rw[ej]at ht
  cases ht
  exact hb j r' ej
def vM(K:W.Frag):Sp:=fun vs H Q _=>∃(a:Addr) (n:Int) (ts:List (Int×Int)),vs=[.ref a]/\bA K H a n ts/\∀(r:Addr) (s:List Int) H',Same H H'->SqT K H' r (s.map V.int)->yK s ts true n.toNat->Q (.ref r) H'
theorem J2:FnScope ["web"] ["web"] (defScope Rr):=fsc
theorem KD{f f1 f2:Addr}{fd d1 d2:FuncData}(F:Fun K "greatest_crowd" "greatest_crowd" Rr f fd)(D1:aL K mg "first_greatest" Rq ["sets"] f1 d1)(G1:FnOk P w K mg base CX0 1 f1 d1 ["sets"] (vO K))(D2:aL K mg "full_crowds" Rm ["web"] f2 d2)(G2:FnOk P w K mg base CX0 8 f2 d2 ["web"] (eG K)):
  FnOk P w K mg base CX0 9 f fd ["web"] (vM K):=by
 refine F.ok J2 (fun vs H Q E h=> ?_) (fun cdv A outer s H vs Q E hr h=> ?_)
 ·obtain⟨a,n,ts,rfl,_⟩:=h
  rfl
 obtain⟨a,n,ts,rfl,hA,q⟩:=h
 refine⟨_,(bB (bV (pc G1 hr D1 (aj (pc G2 hr D2 (aj (pv 0) ak)) ak)))),?_⟩
 refine⟨_,rfl,a,n,ts,rfl,hA,fun r ss H1 s1 h1 h2 n1=> ?_⟩
 obtain⟨its,g1,g2,g3⟩:=h1
 refine⟨r,its,rfl,SqL.of g1,g2,fun e=>zP h2 (by rw[<-g3,e];rfl),fun i p hi hb=>q p.1 p.2 H1 s1 (g2 p (Fz hi)) ⟨ss,h2,i,by rw[<-g3,gw,hi];rfl,fun j t ht=> ?_⟩⟩
 rw[<-g3,gw]at ht
 cases ej:its[j]? with
 |none=>rw[ej]at ht;cases ht
 |some r'=>
  rw[ej]at ht
  cases ht
  exact hb j r' ej
def gr(n:Int)(ts:List (Int×Int)):List (Int×Int):=ts.map (sh 0)++(ts.map fun p=>(p.1,n+p.2))++(ts.map fun p=>(p.2,n+p.1))++(List.range n.toNat).map fun(k:Nat)=>(n+(0+(k:Int)),2*n)
def soG(n:Int)(ts:List (Int×Int))(i j:Int):Bool:=if j<n then decide ((i,j)∈ts)else if j<2*n then aq ts i (j-n)else decide (n<=i)
theorem sh0(ts:List (Int×Int)):ts.map (sh 0)=ts:=(Ww fun p _=>Ms (by show p.1+0=p.1;omega) (by show p.2+0=p.2;omega)).trans (WD ts)
theorem Pq{n:Int}{ts:List (Int×Int)}{p:Int×Int}:p∈gr n ts↔p∈ts\/(p.1,p.2-n)∈ts\/(p.2-n,p.1)∈ts\/(p.2=2*n/\n<=p.1/\p.1<n+(n.toNat:Int)):=by
 unfold gr
 rw[sh0,fj,fj,fj,eE,eE,eE]
 constructor
 ·rintro(((h|⟨q,hq,rfl⟩)|⟨q,hq,rfl⟩)|⟨k,hk,rfl⟩)
  ·exact .inl h
  ·refine .inr (.inl ?_)
   show(q.1,n+q.2-n)∈ts
   rw[show n+q.2-n=q.2 by omega];exact hq
  ·refine .inr (.inr (.inl ?_))
   show(n+q.1-n,q.2)∈ts
   rw[show n+q.1-n=q.1 by omega];exact hq
  ·have:=uw.mp hk
   exact .inr (.inr (.inr ⟨rfl,by show n<=n+(0+_);omega,by show n+(0+_)<_;omega⟩))
 ·rintro(h|h|h|⟨h1,h2,h3⟩)
  ·exact .inl (.inl (.inl h))
  ·exact .inl (.inl (.inr ⟨_,h,Ms rfl (by show n+(p.2-n)=p.2;omega)⟩))
  ·exact .inl (.inr ⟨_,h,Ms rfl (by show n+(p.2-n)=p.2;omega)⟩)
  ·exact .inr ⟨(p.1-n).toNat,uw.mpr (by omega),Ms (by show n+(0+(((p.1-n).toNat:Nat):Int))=p.1;omega) h1.symm⟩
theorem Va{n:Int}{ts:List (Int×Int)}(h0:0<=n)(h:aG n ts):aG (2*n+1) (gr n ts):=by
 have b:∀p∈ts,0<=p.1/\p.1<p.2/\p.2<n:=h.lt
 constructor
 ·unfold gr
  rw[sh0]
  refine JQ.mpr ⟨JQ.mpr ⟨JQ.mpr ⟨h.nd,eY h.nd fun p _ q _ e=> ?_,fun p hp q hq e=> ?_⟩,eY h.nd fun p _ q _ e=> ?_,fun p hp q hq e=> ?_⟩,eY List.nodup_range fun i _ j _ e=> ?_,fun p hp q hq e=> ?_⟩
  ·injection e with e1 e2
   exact Ms e1 (by omega)
  ·obtain⟨r,hr,rfl⟩:=eE.mp hq
   have z:=b p hp
   rw[e]at z
   have z2:n+r.2<n:=z.2.2
   have z3:=b r hr
   omega
  ·injection e with e1 e2
   exact Ms (by omega) e1
  ·obtain⟨r,hr,rfl⟩:=eE.mp hq
   have br:=b r hr
   rcases fj.mp hp with hp|hp
   ·have z:=b p hp
    rw[e]at z
    have z2:n+r.1<n:=z.2.2
    omega
   ·obtain⟨s,hs,e2⟩:=eE.mp hp
    have bs:=b s hs
    rw[<-e2]at e
    injection e with e3 e4
    omega
  ·injection e with e1 e2
   omega
  ·obtain⟨k,hk,rfl⟩:=eE.mp hq
   rcases fj.mp hp with hp|hp
   ·rcases fj.mp hp with hp|hp
    ·have z:=b p hp
     rw[e]at z
     have z2:2*n<n:=z.2.2
     omega
    ·obtain⟨s,hs,e2⟩:=eE.mp hp
     have bs:=b s hs
     rw[<-e2]at e
     injection e with e3 e4
     omega
   ·obtain⟨s,hs,e2⟩:=eE.mp hp
    have bs:=b s hs
    rw[<-e2]at e
    injection e with e3 e4
    omega
 ·intro p hp
  rcases Pq.mp hp with c|c|c|c
  ·have:=b p c;omega
  ·obtain⟨z1,z2,z3⟩:=b _ c
   have z1':0<=p.1:=z1
   have z2':p.1<p.2-n:=z2
   have z3':p.2-n<n:=z3
   omega
  ·obtain⟨z1,z2,z3⟩:=b _ c
   have z1':0<=p.2-n:=z1
   have z2':p.2-n<p.1:=z2
   have z3':p.1<n:=z3
   omega
  ·omega
theorem gr_eq{n:Int}{ts l:List (Int×Int)}(h0:0<=n)(h:aG n ts)(hp:l.Perm (gr n ts))(hs:l.Pairwise fun p q=>HT.lexLt (pl q) (pl p)=false):l=rows (soG n ts) (2*n+1) (2*n+1).toNat:=by
 have ok:=Va h0 h
 have b:∀p∈ts,0<=p.1/\p.1<p.2/\p.2<n:=h.lt
 refine rows_eq (by omega) (vQ hs (hp.nodup_iff.mpr ok.nd)) fun p=> ?_
 rw[hp.mem_iff]
 have bd:p∈gr n ts->0<=p.1/\p.1<p.2/\p.2<2*n+1:=fun z=>ok.lt p z
 rw[Pq]at bd⊢
 unfold soG
 constructor
 ·intro z
  refine⟨(bd z).1,(bd z).2.1,(bd z).2.2,?_⟩
  rcases z with c|c|c|c
  ·rw[bD (b p c).2.2];exact cJ c
  ·obtain⟨z1,z2,z3⟩:=b _ c
   have z2':p.1<p.2-n:=z2
   have z3':p.2-n<n:=z3
   have z1':0<=p.1:=z1
   rw[bC (by omega),bD (by omega)]
   unfold aq
   rw[cJ c];rfl
  ·obtain⟨z1,z2,z3⟩:=b _ c
   have z1':0<=p.2-n:=z1
   have z3':p.1<n:=z3
   have z2':p.2-n<p.1:=z2
   rw[bC (by omega),bD (by omega)]
   unfold aq
   rw[cJ c,Bool.or_true]
  ·rw[bC (by omega),bC (by omega)]
   exact cJ c.2.1
 ·rintro⟨z1,z2,z3,z4⟩
  split at z4
  ·exact .inl (yZ z4)
  ·split at z4
   ·unfold aq at z4
    rw[wdo]at z4
    rcases z4 with z|z
    ·exact .inr (.inl (yZ z))
    ·exact .inr (.inr (.inl (yZ z)))
   ·exact .inr (.inr (.inr ⟨by omega,yZ z4,by have:=yZ z4;omega⟩))
structure Gw(K:W.Frag)(H H':Hp)(l:Addr)(ps:List (Int×Int)):Prop where
 sm:Same H H'
 nl:H l=none
 ex:∃rs,H' l=some (.lst rs)/\bL K H' rs (ps.map pairD)
theorem Gw.step{H H' H2:Hp}{l p1:Addr}{ps qs:List (Int×Int)}{rs acc:List V}(g:Gw K H H' l ps)(e1:H' l=some (.lst rs))(s2:Same H' H2)(hd:bL K H2 acc (qs.map pairD))(hp1:H2 p1=none):Gw K H (upd (upd H2 p1 (.lst acc)) l (.lst (rs++acc))) l (ps++qs):=by
 obtain⟨rs',e1',e2⟩:=g.ex
 rw[e1]at e1'
 cases e1'
 have s3:=aR hp1 (.lst acc)
 have x4:dG l (upd H2 p1 (.lst acc)) (upd (upd H2 p1 (.lst acc)) l (.lst (rs++acc))):=(dG.refl _ _).upd
 refine⟨?_,g.nl,_,aM,?_⟩
 ·intro b o hb
  have nb:b≠l:=fun e=>by rw[e,g.nl]at hb;cases hb
  exact x4 _ _ nb (s3 _ _ (s2 _ _ (g.sm _ _ hb)))
 ·exact jt x4 (s3 _ _ (s2 _ _ e1)) (by rw[bW];exact((e2.same s2).same s3).append (hd.same s3))
def Bf(K:W.Frag):Sp:=fun vs H Q _=>∃(a:Addr) (n:Int) (ts:List (Int×Int)),vs=[.ref a]/\bA K H a n ts/\2*n+1<=10/\∀r H',Same H H'->cF K H' r (2*n+1) (rows (soG n ts) (2*n+1) (2*n+1).toNat)->Q (.ref r) H'
theorem vX:FnScope ["web","n","ties"] ["web"] (defScope gj):=fsc
theorem Pa{f f1 f2 f3:Addr}{fd d1 d2 d3:FuncData}(F:Fun K "grown" "grown" gj f fd)(D1:aL K mg "need_web" yR ["thing"] f1 d1)(G1:FnOk P w K mg base CX0 7 f1 d1 ["thing"] (aZ K))(D2:aL K mg "need_few" MJ ["n"] f2 d2)(G2:FnOk P w K mg base CX0 1 f2 d2 ["n"] (gK K))(D3:aL K mg "moved_ties" Ri ["web","by"] f3 d3)(G3:FnOk P w K mg base CX0 1 f3 d3 ["web","by"] (Bd K))(aV:mg "range"=none)(bN:mg "tuple"=none)(fB:mg "sorted"=none):
  FnOk P w K mg base CX0 8 f fd ["web"] (Bf K):=by
 refine F.ok vX (fun vs H Q E h=> ?_) (fun cdv A outer s H vs Q E hr h=> ?_)
 ·obtain⟨a,n,ts,rfl,_⟩:=h
  rfl
 obtain⟨a,n,ts,rfl,hA,hn,q⟩:=h
 refine⟨_,(bh (jg (pc G1 hr D1 (aj (pv 0) ak))) (bh (gG (i:=1) vX.nd rfl (Or.inr rfl) (cR eZ (pv 0) aY (fun _ _=>rfl))) (bh (jg (pc G2 hr D2 (aj (fQ op_add (fQ op_mul aY (pv 1)) aY) ak))) (bh (gG (i:=2) vX.nd rfl (Or.inl rfl) (pc G3 hr D3 (aj (pv 0) (aj aY ak)))) (bh (jg (pe_bm Ry X8 X7 mt_extend (pv 2) (aj (lX (own:=["one","other"]) (caps:=["n"]) (ix:=[1]) rfl (dI (cR eZ (pv 0) aY (fun _ _=>rfl))) rfl rfl (.cons rfl rfl .nil) (fun _ _ _ _ _=>(eN K (n:=2) rfl (zA (dD (i:=0) (show(["one","other","n"]:List Str).Nodup from by decide+kernel) rfl (Or.inl rfl)) (zA (dD (i:=1) (show(["one","other","n"]:List Str).Nodup from by decide+kernel) rfl (Or.inl rfl)) pgs_nil)))) (fun _ _ _ _ _=>zy) (fun _ _ _ _ _=>(gH (aj (pv 0) (aj (fQ op_add (pv 2) (pv 1)) ak))))) ak))) (bh (jg (pe_bm Ry X8 X7 mt_extend (pv 2) (aj (lX (own:=["one","other"]) (caps:=["n"]) (ix:=[1]) rfl (dI (cR eZ (pv 0) aY (fun _ _=>rfl))) rfl rfl (.cons rfl rfl .nil) (fun _ _ _ _ _=>(eN K (n:=2) rfl (zA (dD (i:=0) (show(["one","other","n"]:List Str).Nodup from by decide+kernel) rfl (Or.inl rfl)) (zA (dD (i:=1) (show(["one","other","n"]:List Str).Nodup from by decide+kernel) rfl (Or.inl rfl)) pgs_nil)))) (fun _ _ _ _ _=>zy) (fun _ _ _ _ _=>(gH (aj (pv 1) (aj (fQ op_add (pv 2) (pv 0)) ak))))) ak))) (bh (jg (pe_bm Ry X8 X7 mt_extend (pv 2) (aj (lX (own:=["place"]) (caps:=["n"]) (ix:=[1]) rfl (Fq rfl aV (aj (pv 1) ak)) rfl rfl (.cons rfl rfl .nil) (fun _ _ _ _ _=>(dD (i:=0) (show(["place","n"]:List Str).Nodup from by decide+kernel) rfl (Or.inl rfl))) (fun _ _ _ _ _=>zy) (fun _ _ _ _ _=>(gH (aj (fQ op_add (pv 1) (pv 0)) (aj (fQ op_mul aY (pv 1)) ak))))) ak))) (bB (bV (gH (aj (fQ op_add (fQ op_mul aY (pv 1)) aY) (aj (Fv JN rfl bN (by decide+kernel) (aj (dF eU rfl fB (by decide+kernel) (aj (pv 2) ak)) ak)) ak)))))))))))),?_⟩
 have h0:=hA.h0
 have h45:=hA.len
 refine⟨_,rfl,_,_,rfl,hA.web.dv.dx,hA.ok,fun H1 s1=> ?_⟩
 have vh:=hA.same s1
 obtain⟨ta,ra,a1,a2,a3⟩:=id vh.web
 have hra:=a3.len
 rw[aQ]at hra
 refine⟨_,rfl,a,_,_,.int n,rfl,rfl,a1,rfl,?_⟩
 refine⟨_,rfl,_,_,rfl,rfl,.inl ⟨by omega,by omega⟩,_,_,rfl,rfl,2*n+1,rfl,hn,?_⟩
 refine⟨_,rfl,a,n,0,ts,rfl,vh.web,fun l H2 s2 p2 nl=> ?_⟩
 obtain⟨r0,e0,v0⟩:=p2.ex
 have g0:Gw K H1 H2 l (ts.map (sh 0)):=⟨s2,nl,r0,e0,v0⟩
 have l0:=v0.len
 rw[aQ,aQ]at l0
 refine⟨_,rfl,.inl ⟨rfl,_,SqL.of e0⟩,_,rfl,a,_,_,.ref ta,rfl,rfl,g0.sm.tup a1,rfl,ta,ra,rfl,g0.sm.tup a2,fun hz=> ?_⟩
 refine cZ (xs:=ra) (fun i acc σ H'=>Same H2 H'/\acc.length=i/\bL K H' acc (((ts.take i).map fun p=>(p.1,n+p.2)).map pairD)/\∃o1 o2,σ=[o1,o2,some (.int n)]) ⟨Same.refl _,rfl,.nil,_,_,rfl⟩ (fun i acc σ H' _ p=>(g0.sm.trans p.1).tup a2) (fun i acc σ H' hi p=>by rw[p.2.1];exact bx _) hz (fun i x acc σ H' hx p=> ?_) (fun acc σ H' p=> ?_)
 ·obtain⟨sm,hl,hd,o1,o2,rfl⟩:=p
  obtain⟨t,hi,rfl,ht⟩:=gq a3 hx
  refine⟨t,_,rfl,(g0.sm.trans sm).tup ht,rfl,_,_,rfl,_,_,rfl,rfl,?_⟩
  refine⟨_,rfl,_,rfl,_,rfl,_,_,rfl,rfl,(by show 2<=sizeLine;decide),fun p hp=> ?_⟩
  have s3:=aR hp (.tup [.int (ts[i]).1,.int (n+(ts[i]).2)])
  refine⟨sm.trans s3,by rw[iz,hl];rfl,?_,_,_,rfl⟩
  rw[Ao,iY hi]
  simp only[wdz,bW]
  exact(hd.same s3).append (.cons (.tup (SqT.of aM) (.cons (.int _) (.cons (.int _) .nil))) .nil)
 intro p1 hp1
 obtain⟨sm,hl,hd,o1,o2,rfl⟩:=p
 rw[hra,ux]at hd
 have g1:=g0.step e0 sm hd hp1
 refine⟨l,p1,r0,acc,rfl,rfl,(aR hp1 _) _ _ (sm _ _ e0),aM,(by rw[eF];omega),?_⟩
 have e1:(upd (upd H' p1 (.lst acc)) l (.lst (r0++acc))) l=some (.lst (r0++acc)):=aM
 have l1:(r0++acc).length=ts.length+ts.length:=by rw[iz];omega
 generalize (upd (upd H' p1 (.lst acc)) l (.lst (r0++acc)))=H3 at *
 generalize r0++acc=r1 at *
 clear hd sm hl hp1
 refine⟨_,rfl,.inl ⟨rfl,_,SqL.of e1⟩,_,rfl,a,_,_,.ref ta,rfl,rfl,g1.sm.tup a1,rfl,ta,ra,rfl,g1.sm.tup a2,fun hz=> ?_⟩
 refine cZ (xs:=ra) (fun i acc σ H'=>Same H3 H'/\acc.length=i/\bL K H' acc (((ts.take i).map fun p=>(p.2,n+p.1)).map pairD)/\∃o1 o2,σ=[o1,o2,some (.int n)]) ⟨Same.refl _,rfl,.nil,_,_,rfl⟩ (fun i acc σ H' _ p=>(g1.sm.trans p.1).tup a2) (fun i acc σ H' hi p=>by rw[p.2.1];exact bx _) hz (fun i x acc σ H' hx p=> ?_) (fun Fb σ H4 p=> ?_)
 ·obtain⟨sm,hl,hd,o1,o2,rfl⟩:=p
  obtain⟨t,hi,rfl,ht⟩:=gq a3 hx
  refine⟨t,_,rfl,(g1.sm.trans sm).tup ht,rfl,_,_,rfl,_,_,rfl,rfl,?_⟩
  refine⟨_,rfl,_,rfl,_,rfl,_,_,rfl,rfl,(by show 2<=sizeLine;decide),fun p hp=> ?_⟩
  have s3:=aR hp (.tup [.int (ts[i]).2,.int (n+(ts[i]).1)])
  refine⟨sm.trans s3,by rw[iz,hl];rfl,?_,_,_,rfl⟩
  rw[Ao,iY hi]
  simp only[wdz,bW]
  exact(hd.same s3).append (.cons (.tup (SqT.of aM) (.cons (.int _) (.cons (.int _) .nil))) .nil)
 intro p3 hp3
 obtain⟨sm,hl,hd,o1,o2,rfl⟩:=p
 rw[hra,ux]at hd
 have g2:=g1.step e1 sm hd hp3
 refine⟨l,p3,r1,Fb,rfl,rfl,(aR hp3 _) _ _ (sm _ _ e1),aM,(by rw[eF];omega),?_⟩
 have e2:(upd (upd H4 p3 (.lst Fb)) l (.lst (r1++Fb))) l=some (.lst (r1++Fb)):=aM
 have l2:(r1++Fb).length=ts.length+ts.length+ts.length:=by rw[iz];omega
 generalize (upd (upd H4 p3 (.lst Fb)) l (.lst (r1++Fb)))=H5 at *
 generalize r1++Fb=r2 at *
 clear hd sm hl hp3
 refine⟨_,rfl,.inl ⟨rfl,_,SqL.of e2⟩,_,rfl,n,rfl,by omega,by omega,?_⟩
 refine JM (n:=n.toNat) (fun k acc σ H'=>Same H5 H'/\acc.length=k/\bL K H' acc (((List.range k).map fun(k:Nat)=>(n+(0+(k:Int)),2*n)).map pairD)/\∃o1,σ=[o1,some (.int n)]) ⟨Same.refl _,rfl,.nil,_,rfl⟩ (fun k acc σ H' hk p=>by rw[p.2.1];exact bx _) (by rw[eF];omega) (fun k acc σ H' hk p=> ?_) (fun Cp σ H6 p=> ?_)
 ·obtain⟨sm,hl,hd,o1,rfl⟩:=p
  refine⟨_,rfl,_,rfl,_,_,rfl,rfl,_,rfl,_,_,rfl,rfl,.inl ⟨by omega,by omega⟩,(by show 2<=sizeLine;decide),fun p hp=> ?_⟩
  have s3:=aR hp (.tup [.int (n+(0+(k:Int))),.int (2*n)])
  refine⟨sm.trans s3,by rw[iz,hl];rfl,?_,_,rfl⟩
  rw[Ml,bW,bW]
  exact(hd.same s3).append (.cons (.tup (SqT.of aM) (.cons (.int _) (.cons (.int _) .nil))) .nil)
 intro p5 hp5
 obtain⟨sm,hl,hd,o1,rfl⟩:=p
 have g3:=g2.step e2 sm hd hp5
 refine⟨l,p5,r2,Cp,rfl,rfl,(aR hp5 _) _ _ (sm _ _ e2),aM,(by rw[eF];omega),?_⟩
 have e3:(upd (upd H6 p5 (.lst Cp)) l (.lst (r2++Cp))) l=some (.lst (r2++Cp)):=aM
 have g3':Gw K H1 (upd (upd H6 p5 (.lst Cp)) l (.lst (r2++Cp))) l (gr n ts):=g3
 generalize (upd (upd H6 p5 (.lst Cp)) l (.lst (r2++Cp)))=H7 at *
 generalize r2++Cp=r3 at *
 obtain⟨r4,e4,v4⟩:=g3'.ex
 rw[e3]at e4
 cases e4
 have hok:=Va h0 hA.pk
 have agL:=pairs_len hok hn
 refine⟨_,rfl,_,_,rfl,rfl,.inl ⟨by omega,by omega⟩,_,_,rfl,rfl,?_⟩
 obtain⟨its,i1,i2,i3⟩:=Ed v4
 refine⟨_,rfl,l,its.map (fun p=>(p.1,pl p.2)),rfl,?_,?_,?_,fun l' its' hl' hperm j6=> ?_⟩
 ·rw[CJ]
  have:(its.map ((fun(p:Addr×List Int)=>V.ref p.1)∘fun p=>(p.1,pl p.2)))=r3:=i1.symm
  rw[this]
  exact SqL.of e3
 ·intro p hp
  rw[eE]at hp
  obtain⟨q',hq',rfl⟩:=hp
  exact⟨i3 _ hq',by simp[pl]⟩
 ·have:its.length=(gr n ts).length:=by rw[<-i2,aQ]
  rw[aQ];omega
 ·have s5:=aR hl' (.lst (its'.map fun p=>V.ref p.1))
  obtain⟨jts,j1,j2⟩:∃jts:List (Addr×(Int×Int)),its'=jts.map (fun p=>(p.1,pl p.2))/\jts.Perm its:=by
   have hh:∀x∈its',∃y∈its,x=(y.1,pl y.2):=fun x hx=>by
    obtain⟨y,hy,e⟩:=eE.mp (hperm.mem_iff.mp hx)
    exact⟨y,hy,e.symm⟩
   let back:Addr×List Int->Addr×(Int×Int):=fun x=>(x.1,(x.2.getD 0 0,x.2.getD 1 0))
   refine⟨its'.map back,?_,?_⟩
   ·rw[CJ]
    refine(WD its').symm.trans (Ww fun x hx=> ?_)
    obtain⟨y,_,rfl⟩:=hh x hx
    rfl
   ·have:=hperm.map back
    rw[CJ]at this
    have e:its.map (back∘fun p=>(p.1,pl p.2))=its:=by
     refine(Ww fun x _=> ?_).trans (WD its)
     rfl
    rw[e]at this
    exact this
  have hp2:(jts.map (·.2)).Perm (gr n ts):=by rw[<-i2];exact j2.map _
  have hs2:(jts.map (·.2)).Pairwise fun p q=>HT.lexLt (pl q) (pl p)=false:=by
   rw[j1,Iz]at j6
   rw[Iz]
   exact j6
  have e:=gr_eq h0 hA.pk hp2 hs2
  have items:∀y∈jts,SqT K H7 y.1 ((pl y.2).map V.int):=fun y hy=>i3 _ (j2.mem_iff.mp hy)
  have ev:its'.map (fun p=>V.ref p.1)=jts.map fun p=>V.ref p.1:=by rw[j1,CJ];rfl
  refine⟨l',_,rfl,.inl ⟨SqL.of aM,fun t' ht'=> ?_⟩⟩
  have s6:=aR ht' (.tup (its'.map fun p=>V.ref p.1))
  refine⟨(by show 2<=sizeLine;decide),fun r hr'=> ?_⟩
  have s7:=aR hr' (.tup [.int (2*n+1),.ref t'])
  refine q r _ (s1.trans (g3'.sm.trans (s5.trans (s6.trans s7)))) ⟨t',its'.map (fun p=>V.ref p.1),SqT.of aM,SqT.of (s7 _ _ aM),?_⟩
  rw[<-e]
  have z:=((wj jts items).same s5).same (s6.trans s7)
  rw[<-ev]at z
  exact z
def yI:Nat->List (List Int)
 |0=>[[]]
 |k+1=>yI k++(yI k).map fun s=>s++[(k:Int)]
theorem yH:∀k,(yI k).length=2^k
 |0=>rfl
 |k+1=>by
  show(yI k++(yI k).map fun s=>s++[(k:Int)]).length=_
  rw[iz,aQ,yH k,Nat.pow_succ];omega
theorem yG:∀k,∀s∈yI k,s.length<=k
 |0,s,h=>by rw[jk.mp h];exact bx _
 |k+1,s,h=>by
  rcases fj.mp h with z|z
  ·exact Nat.le_succ_of_le (yG k s z)
  ·obtain⟨t,ht,rfl⟩:=eE.mp z
   have:=yG k t ht
   rw[iz]
   show t.length+1<=k+1
   omega
abbrev JH(K:W.Frag)(H:Hp)(its:List (Addr×List Int)):Prop:=∀p∈its,SqT K H p.1 (p.2.map V.int)
def zO(K:W.Frag):Sp:=fun vs H Q _=>∃n:Int,vs=[.int n]/\0<=n/\n<=10/\∀(r:Addr) (its:List (Addr×List Int)) H',Same H H'->H' r=some (.lst (its.map fun p=>V.ref p.1))->JH K H' its->its.map (·.2)=yI n.toNat->Q (.ref r) H'
theorem iD:FnScope ["n","found","place"] ["n"] (defScope T5):=fsc
theorem Hl{f:Addr}{fd:FuncData}(F:Fun K "all_sets" "all_sets" T5 f fd)(aV:mg "range"=none):
  FnOk P w K mg base CX0 1 f fd ["n"] (zO K):=by
 refine F.ok iD (fun vs H Q E h=> ?_) (fun cdv A outer s H vs Q E hr h=> ?_)
 ·obtain⟨n,rfl,_⟩:=h
  rfl
 obtain⟨n,rfl,h0,h1,q⟩:=h
 refine⟨_,(bh (gG (i:=1) iD.nd rfl (Or.inl rfl) (pe_lst (aj (gH ak) ak))) (bh (ps_for Mv rfl (Fq rfl aV (aj (pv 0) ak)) (dD (i:=2) iD.nd rfl (Or.inr rfl)) (bB (gG (i:=1) iD.nd rfl (Or.inl rfl) (fQ op_cat (pv 1) (lX (own:=["some"]) (caps:=["place"]) (ix:=[2]) rfl (Mf (pv 1)) rfl rfl (.cons rfl rfl .nil) (fun _ _ _ _ _=>(dD (i:=0) (show(["some","place"]:List Str).Nodup from by decide+kernel) rfl (Or.inl rfl))) (fun _ _ _ _ _=>zy) (fun _ _ _ _ _=>(fQ (Dz K) (pv 0) (gH (aj (pv 1) ak))))))))) (bB (bV (pv 1))))),?_⟩
 refine⟨(by show 0<=sizeLine;decide),fun p0 hp0=> ?_⟩
 have s0:=aR hp0 (.tup [])
 refine⟨(by show 1<=sizeLine;decide),fun l0 hl0=> ?_⟩
 have s1:=aR hl0 (.lst [.ref p0])
 refine⟨_,rfl,n,rfl,by omega,by omega,?_⟩
 refine for_range (n:=n.toNat) (fun k σ H'=>∃(l:Addr) (its:List (Addr×List Int)) (b2:Option V),σ=[some (.int n),some (.ref l),b2]/\Same H H'/\H' l=some (.lst (its.map fun p=>V.ref p.1))/\JH K H' its/\its.map (·.2)=yI k) ⟨l0,[(p0,[])],_,rfl,s0.trans s1,aM,fun p hp=>by rw[jk.mp hp];exact s1.tup (SqT.of aM),rfl⟩ (fun k σ H1 hk p=> ?_) (fun σ H1 p=> ?_)
 ·obtain⟨l,its,b2,rfl,sm,hl,hT,hm⟩:=p
  have hlen:its.length=2^k:=by rw[<-yH k,<-hm,aQ]
  have agM:2^k<=512:=Nat.pow_le_pow_right (n:=2) (by decide) (show k<=9 by omega)
  refine⟨_,rfl,_,rfl,l,_,rfl,SqL.of hl,fun hz=> ?_⟩
  refine MF (xs:=its.map fun p=>V.ref p.1) (fun i acc σ H2=>∃jts:List (Addr×List Int),acc=jts.map (fun p=>V.ref p.1)/\jts.map (·.2)=((its.take i).map (·.2)).map (fun s=>s++[(k:Int)])/\JH K H2 jts/\Same H1 H2/\∃o,σ=[o,some (.int (0+(k:Int)))]) ⟨[],rfl,rfl,fun p hp=>(nomatch hp),Same.refl _,_,rfl⟩ (fun i acc σ H2 _ p=> ?_) (fun i acc σ H2 hi p=> ?_) hz (fun i x acc σ H2 hx p=> ?_) (fun acc σ H2 p=> ?_)
  ·obtain⟨_,_,_,_,s2,_⟩:=p
   exact s2.seq (SqL.of hl)
  ·obtain⟨jts,rfl,hj,_⟩:=p
   have:=rH List.length hj
   simp only[aQ,yV]at this
   rw[aQ,this];exact Mj _ _
  ·obtain⟨jts,rfl,hj,hJ,s2,o,rfl⟩:=p
   rw[gw]at hx
   cases ex:its[i]? with
   |none=>rw[ex]at hx;cases hx
   |some v=>
    rw[ex]at hx
    cases hx
    have mv:=Fz ex
    have lv:v.2.length<=10:=by
     have:=yG k v.2 (by rw[<-hm];exact wdq mv)
     omega
    refine⟨_,rfl,_,rfl,(by show 1<=sizeLine;decide),fun p1 hp1=> ?_⟩
    have s3:=aR hp1 (.tup [.int (0+(k:Int))])
    refine⟨v.1,p1,_,_,rfl,rfl,(s2.trans s3).tup (hT v mv),SqT.of aM,(by rw[aQ,eF];show _+1<=_;omega),fun r H4 s4 h4=> ?_⟩
    have ek:(0+(k:Int))=(k:Int):=by omega
    have RP:=s3.trans s4
    refine⟨jts++[(r,v.2++[(k:Int)])],by rw[bW];rfl,?_,fun p hp=> ?_,s2.trans RP,_,rfl⟩
    ·rw[bW,hj,Ao,ex,bW,bW];rfl
    ·rcases fj.mp hp with z|z
     ·exact RP.tup (hJ p z)
     ·rw[jk.mp z]
      show SqT K H4 r ((v.2++[(k:Int)]).map V.int)
      rw[bW,<-ek]
      exact h4
  ·intro p1 hp1
   obtain⟨jts,rfl,hj,hJ,s2,o,rfl⟩:=p
   rw[aQ,ux,hm]at hj
   have hjl:jts.length=2^k:=by
    have:=rH List.length hj
    rw[aQ,aQ,yH]at this
    exact this
   have s3:=aR hp1 (.lst (jts.map fun p=>V.ref p.1))
   refine⟨l,p1,_,_,rfl,rfl,s3 _ _ (s2 _ _ hl),aM,(by rw[aQ,aQ,hjl,hlen,eF];omega),fun l2 hl2=> ?_⟩
   have s4:=aR hl2 (.lst (its.map (fun p=>V.ref p.1)++jts.map fun p=>V.ref p.1))
   have RP:=s3.trans s4
   refine⟨l2,its++jts,_,rfl,sm.trans (s2.trans RP),by rw[aM,bW],fun p hp=> ?_,?_⟩
   ·rcases fj.mp hp with z|z
    ·exact(s2.trans RP).tup (hT p z)
    ·exact RP.tup (hJ p z)
   ·rw[bW,hm,hj];rfl
 ·obtain⟨l,its,b2,rfl,sm,hl,hT,hm⟩:=p
  exact⟨_,rfl,q l its H1 sm hl hT hm⟩
def g8(m k:Int):Nat:=((yI m.toNat).filter fun s=>decide (s.length=k.toNat)).length
theorem Tz{its:List (Addr×List Int)}{m k:Int}(h:its.map (·.2)=yI m.toNat):(its.filter fun p=>decide (p.2.length=k.toNat)).length=g8 m k:=by
 unfold g8
 rw[<-h,wfe,aQ]
 rfl
theorem Kd{H:Hp}{its:List (Addr×List Int)}{k:Int}{i:Nat}{v:Addr×List Int}(h:its[i]? =some v):((its.take (i+1)).filter fun p=>decide (p.2.length=k.toNat))=((its.take i).filter fun p=>decide (p.2.length=k.toNat))++(if decide (v.2.length=k.toNat)=true then[v]else[]):=by
 rw[Ao,h,Rv]
 show _++([v].filter _)=_
 rw[M6]
 rfl
def Ou(m k:Nat):List (List Int):=(yI m).filter fun s=>decide (s.length=k)
def JW(l:List (List Int)):List (List Int):=l.mergeSort fun a b=> !HT.lexLt b a
theorem JV(l:List (List Int)):(JW l).Perm l:=List.mergeSort_perm _ _
theorem CQ(l:List (List Int)):(JW l).Pairwise fun a b=>HT.lexLt b a=false:=by
 have h:=wen (le:=fun a b:List Int=> !HT.lexLt b a) (fun a b c h1 h2=> ?_) (fun a b=> ?_) l
 ·exact h.imp fun{a b} z=>by simpa using z
 ·simp only[UJ,HT.bF,wbt]at h1 h2⊢
  exact Mh.mpr (List.le_trans (Mh.mp h1) (Mh.mp h2))
 ·simp only[wdo,UJ,HT.bF,wbt]
  rcases List.le_total a b with z|z
  ·exact .inl (Mh.mpr z)
  ·exact .inr (Mh.mpr z)
theorem I9{xs l:List (List Int)}(h:xs.Perm l)(hx:xs.Pairwise fun a b=>HT.lexLt b a=false):xs=JW l:=Ju (h.trans (JV l).symm) hx (CQ l)
def Yk(m k:Nat):List (List Int):=JW (Ou m k)
def qK(L:List (List Int))(i j:Int):Bool:=((L.getD i.toNat []).filter fun o=>decide (o∈L.getD j.toNat [])).isEmpty
def Dt(n:Int):List (List Int):=((List.range (n-1).toNat).map fun(t:Nat)=>[0+(t:Int),0+(t:Int)+1])++[[0,n-1]]
def unP(l:List Int):Int×Int:=(l.getD 0 0,l.getD 1 0)
def Jl(n:Int):List (Int×Int):=(JW (Dt n)).map unP
theorem Tq{p:Int->Bool}{xs:List Int}{i:Nat}{y:Int}(ex:xs[i]? =some y):(xs.take (i+1)).filter p=(xs.take i).filter p++(if p y=true then[y]else[]):=by
 rw[Ao,ex,Rv]
 show _++List.filter p [y]=_
 rw[M6]
 split<;>rfl
def zL(K:W.Frag):Sp:=fun vs H Q _=>∃(a b:Addr) (xs ys:List Int),vs=[.ref a,.ref b]/\SqT K H a (xs.map V.int)/\SqT K H b (ys.map V.int)/\∀(r:Addr) H',Same H H'->H' r=some (.lst ((xs.filter fun o=>decide (o∈ys)).map V.int))->Q (.ref r) H'
theorem Hg{f:Addr}{fd:FuncData}(F:Fun K "in_both" "in_both" QX f fd):
  FnOk P w K mg base CX0 1 f fd ["ones","others"] (zL K):=by
 refine F.ok zV (fun vs H Q E h=> ?_) (fun cdv A outer s H vs Q E hr h=> ?_)
 ·obtain⟨a,b,xs,ys,rfl,_⟩:=h
  rfl
 obtain⟨a,b,xs,ys,rfl,hX,hY,q⟩:=h
 refine⟨_,(bB (bV (lX (own:=["place"]) (caps:=["others"]) (ix:=[1]) rfl (dI (pv 0)) rfl rfl (.cons rfl rfl .nil) (fun _ _ _ _ _=>(dD (i:=0) (show(["place","others"]:List Str).Nodup from by decide+kernel) rfl (Or.inl rfl))) (fun _ _ _ _ _=>Fp (iW (lJ K hr.units) (pv 0) (pv 1) (by with_unfolding_all rfl))) (fun _ _ _ _ _=>(pv 0))))),?_⟩
 refine⟨_,rfl,a,_,rfl,hX,fun hz=> ?_⟩
 refine cZ (xs:=xs.map V.int) (fun i acc σ H'=>acc=((xs.take i).filter fun o=>decide (o∈ys)).map V.int/\Same H H'/\∃o,σ=[o,some (.ref b)]) ⟨rfl,Same.refl _,_,rfl⟩ (fun i acc σ H' _ p=>p.2.1.tup hX) (fun i acc σ H' _ p=> ?_) hz (fun i x acc σ H' hx p=> ?_) (fun acc σ H' p=> ?_)
 ·rw[p.1,aQ]
  exact gJ (yW _ _) (by rw[yV];exact Mj _ _)
 ·obtain⟨rfl,sm,o,rfl⟩:=p
  rw[gw]at hx
  cases ex:xs[i]? with
  |none=>rw[ex]at hx;cases hx
  |some y=>
   rw[ex]at hx
   cases hx
   refine⟨_,rfl,_,rfl,b,_,_,.int y,rfl,.inr (sm.tup hY),bL.ints ys,.int _,lay_ints ys,rfl,(by show 0<=60;decide),_,rfl,?_⟩
   rw[any_ints]
   have go:=Tq (p:=fun o=>decide (o∈ys)) ex
   refine ite2 (fun c=> ?_) (fun c=> ?_)
   ·exact⟨_,rfl,by rw[go,bD c,bW];rfl,sm,_,rfl⟩
   ·exact⟨by rw[go,bC c,uU],sm,_,rfl⟩
 ·intro p1 hp1
  obtain⟨rfl,sm,_⟩:=p
  rw[aQ,ux]
  exact q p1 _ (sm.trans (aR hp1 _)) aM
theorem Qq{H:Hp}:∀its:List (Addr×List Int),(∀p∈its,SqT K H p.1 (p.2.map V.int)/\p.2.length=2)->bL K H (its.map fun p=>V.ref p.1) ((its.map fun p=>unP p.2).map pairD)
 |[],_=> .nil
 |(a,l)::its,h=>by
  obtain⟨h1,h2⟩:=h _ jl
  have ih:=Qq its fun p hp=>h p (lZ _ hp)
  match l,h2 with
  |[x,y],_=>exact .cons (.tup h1 (.cons (.int _) (.cons (.int _) .nil))) ih
theorem Dr{n:Int}:∀l∈Dt n,l.length=2:=fun l hl=>by
 rcases fj.mp hl with z|z
 ·obtain⟨t,_,rfl⟩:=eE.mp z;rfl
 ·rw[jk.mp z];rfl
theorem Om{H:Hp}{n:Int}{its its':List (Addr×List Int)}{t1 wb:Addr}(hm:(its.map (·.2)).Perm (Dt n))(hperm:its'.Perm its)(j6:its'.Pairwise fun p q=>HT.lexLt q.2 p.2=false)(hT:∀p∈its,SqT K H p.1 (p.2.map V.int))(hwb:SqT K H wb [.int n,.ref t1])(ht1:SqT K H t1 (its'.map fun p=>V.ref p.1)):cF K H wb n (Jl n):=by
 have e:its'.map (·.2)=JW (Dt n):=I9 ((hperm.map _).trans hm) (by rw[Iz];exact j6)
 refine⟨t1,_,hwb,ht1,?_⟩
 rw[show Jl n=its'.map fun p=>unP p.2 from by unfold Jl;rw[<-e,CJ];rfl]
 exact Qq its' fun p hp=>⟨hT p (hperm.mem_iff.mp hp),Dr p.2 ((hm.mem_iff).mp (wdq (hperm.mem_iff.mp hp)))⟩
def Ba(K:W.Frag):Sp:=fun vs H Q _=>∃n:Int,vs=[.int n]/\3<=n/\n<=10/\∀r H',Same H H'->cF K H' r n (Jl n)->Q (.ref r) H'
theorem Dk:FnScope ["n","around"] ["n"] (defScope jo):=fsc
theorem O1{f f1:Addr}{fd d1:FuncData}{tk0:Tok}{tk1:Tok}(F:Fun K "ring" "ring" jo f fd)(D1:aL K mg "need_from_to" Rn ["least","most","thing"] f1 d1)(G1:FnOk P w K mg base CX0 2 f1 d1 ["least","most","thing"] (vN K))(aV:mg "range"=none)(bN:mg "tuple"=none)(fB:mg "sorted"=none)(BR:mg "LEAST_RING"=some (.int 3 tk0))(gF:mg "MOST_PLACES"=some (.int 10 tk1)):
  FnOk P w K mg base CX0 3 f fd ["n"] (Ba K):=by
 refine F.ok Dk (fun vs H Q E h=> ?_) (fun cdv A outer s H vs Q E hr h=> ?_)
 ·obtain⟨n,rfl,_⟩:=h
  rfl
 obtain⟨n,rfl,h0,h1,q⟩:=h
 refine⟨_,(bh (jg (pc G1 hr D1 (aj (CG rfl BR (v:= .int 3) ⟨_,rfl⟩) (aj (CG rfl gF (v:= .int 10) ⟨_,rfl⟩) (aj (pv 0) ak))))) (bh (gG (i:=1) Dk.nd rfl (Or.inl rfl) (fQ op_cat (lX (own:=["place"]) (caps:=[]) (ix:=[]) rfl (Fq rfl aV (aj (fQ op_sub (pv 0) aY) ak)) rfl rfl .nil (fun _ _ _ _ _=>(dD (i:=0) (show(["place"]:List Str).Nodup from by decide+kernel) rfl (Or.inl rfl))) (fun _ _ _ _ _=>zy) (fun _ _ _ _ _=>(gH (aj (pv 0) (aj (fQ op_add (pv 0) aY) ak))))) (pe_lst (aj (gH (aj aY (aj (fQ op_sub (pv 0) aY) ak))) ak)))) (bB (bV (gH (aj (pv 0) (aj (Fv JN rfl bN (by decide+kernel) (aj (dF eU rfl fB (by decide+kernel) (aj (pv 1) ak)) ak)) ak))))))),?_⟩
 refine⟨_,rfl,3,10,n,rfl,h0,h1,?_⟩
 refine⟨_,rfl,_,_,rfl,rfl,_,rfl,by omega,by omega,?_⟩
 refine JM (n:=(n-1).toNat) (fun i acc σ H'=>∃its:List (Addr×List Int),acc=its.map (fun p=>V.ref p.1)/\its.map (·.2)=((List.range i).map fun(t:Nat)=>[0+(t:Int),0+(t:Int)+1])/\(∀p∈its,SqT K H' p.1 (p.2.map V.int))/\Same H H'/\∃o,σ=[o]) ⟨[],rfl,rfl,fun p hp=>(nomatch hp),Same.refl _,_,rfl⟩ (fun i acc σ H' hi p=> ?_) (by rw[eF];omega) (fun i acc σ H' hi p=> ?_) (fun acc σ H' p=> ?_)
 ·obtain⟨its,rfl,hl,_⟩:=p
  have:=rH List.length hl
  rw[aQ,aQ,Uv]at this
  rw[aQ,this];exact bx _
 ·obtain⟨its,rfl,hl,hok,sm,o,rfl⟩:=p
  refine⟨_,rfl,_,rfl,_,_,rfl,rfl,(by show 2<=sizeLine;decide),fun pn hpn=> ?_⟩
  have sn:=aR hpn (.tup [.int (0+(i:Int)),.int (0+(i:Int)+1)])
  refine⟨its++[(pn,[0+(i:Int),0+(i:Int)+1])],by rw[bW];rfl,by rw[bW,hl,Ml,bW];rfl,fun p hp=> ?_,sm.trans sn,_,rfl⟩
  rcases fj.mp hp with z|z
  ·exact sn.tup (hok p z)
  ·rw[jk.mp z]
   exact SqT.of aM
 ·intro p1 hp1
  obtain⟨its,rfl,hl,hok,sm,_⟩:=p
  have hlen:its.length=(n-1).toNat:=by
   have:=rH List.length hl
   rwa [aQ,aQ,Uv]at this
  have s2:=aR hp1 (.lst (its.map fun p=>V.ref p.1))
  refine⟨_,rfl,_,_,rfl,rfl,(by show 2<=sizeLine;decide),fun p2 hp2=> ?_⟩
  have s3:=aR hp2 (.tup [.int 0,.int (n-1)])
  have k3:SqT K (upd (upd H' p1 (.lst (its.map fun p=>V.ref p.1))) p2 (.tup [.int 0,.int (n-1)])) p2 (([0,n-1]:List Int).map V.int):=SqT.of aM
  refine⟨(by show 1<=sizeLine;decide),fun p3 hp3=> ?_⟩
  have s4:=aR hp3 (.lst [.ref p2])
  refine⟨p1,p3,_,_,rfl,rfl,s4 _ _ (s3 _ _ aM),aM,(by rw[aQ,hlen,eF];show _+1<=_;omega),fun p4 hp4=> ?_⟩
  have s5:=aR hp4 (.lst (its.map (fun p=>V.ref p.1)++[.ref p2]))
  have s25:=s2.trans (s3.trans (s4.trans s5))
  have k5:=(s4.trans s5).tup k3
  have e5:(upd (upd (upd (upd H' p1 (.lst (its.map fun p=>V.ref p.1))) p2 (.tup [.int 0,.int (n-1)])) p3 (.lst [.ref p2])) p4 (.lst (its.map (fun p=>V.ref p.1)++[.ref p2]))) p4=some (.lst ((its++[(p2,[0,n-1])]).map fun p=>V.ref p.1)):=by rw[aM,bW];rfl
  generalize (upd (upd (upd (upd H' p1 (.lst (its.map fun p=>V.ref p.1))) p2 (.tup [.int 0,.int (n-1)])) p3 (.lst [.ref p2])) p4 (.lst (its.map (fun p=>V.ref p.1)++[.ref p2])))=H5 at *
  have hT:∀p∈its++[(p2,[0,n-1])],SqT K H5 p.1 (p.2.map V.int):=fun p hp=>by
   rcases fj.mp hp with z|z
   ·exact s25.tup (hok p z)
   ·rw[jk.mp z];exact k5
  have hm:((its++[(p2,[0,n-1])]).map (·.2)).Perm (Dt n):=by rw[bW,hl];exact List.Perm.refl _
  refine⟨_,rfl,_,rfl,p4,its++[(p2,[0,n-1])],rfl,SqL.of e5,fun p hp=>⟨hT p hp,fun e=> ?_⟩,by rw[iz,hlen];show _+1<64;omega,fun l its' hl' hperm j6=> ?_⟩
  ·have:=Dr p.2 ((hm.mem_iff).mp (wdq hp))
   rw[e]at this;cases this
  ·have s6:=aR hl' (.lst (its'.map fun p=>V.ref p.1))
   refine⟨l,_,rfl,.inl ⟨SqL.of aM,fun t ht=>⟨(by show 2<=sizeLine;decide),fun r hr'=> ?_⟩⟩⟩
   have s7:=aR ht (.tup (its'.map fun p=>V.ref p.1))
   have s8:=aR hr' (.tup [.int n,.ref t])
   refine q r _ (sm.trans (s25.trans (s6.trans (s7.trans s8)))) ?_
   exact Om hm hperm j6 (fun p hp=>(s6.trans (s7.trans s8)).tup (hT p hp)) (SqT.of aM) (s8.tup (SqT.of aM))
def nbT(m k:Int):List (Int×Int):=rows (qK (Yk m.toNat k.toNat)) (g8 m k) (g8 m k:Int).toNat
theorem Bs{so:Int->Int->Bool}{l:List (Int×Int)}{i:Nat}{p:Int×Int}(ex:l[i]? =some p):(l.take (i+1)).filter (fun q=>so q.1 q.2)=(l.take i).filter (fun q=>so q.1 q.2)++(if so p.1 p.2=true then[p]else[]):=by
 rw[Ao,ex,Rv]
 show _++List.filter _ [p]=_
 rw[M6]
 split<;>rfl
theorem QG{its:List (Addr×List Int)}{L:List (List Int)}(h:its.map (·.2)=L){j:Int}(j0:0<=j)(j1:j<its.length):∃v∈its,atI (its.map fun p=>V.ref p.1) j=some (.ref v.1)/\v.2=L.getD j.toNat []:=by
 have hj:j.toNat<its.length:=by omega
 refine⟨its[j.toNat],yU hj,?_,?_⟩
 ·have z:atI (its.map fun p=>V.ref p.1) ((j.toNat:Nat):Int)=some (.ref its[j.toNat].1):=atI_nat (by rw[gw,iY hj];rfl)
  rwa [show((j.toNat:Nat):Int)=j by omega]at z
 ·rw[<-h,zE,gw,iY hj];rfl
def Bb(K:W.Frag):Sp:=fun vs H Q _=>∃m k:Int,vs=[.int m,.int k]/\1<=m/\m<=10/\1<=k/\k<=m/\g8 m k<=10/\∀r H',Same H H'->cF K H' r (g8 m k) (nbT m k)->Q (.ref r) H'
theorem vV:FnScope ["m","k","picked","n"] ["m","k"] (defScope fZ):=fsc
theorem O4{f f1 f2 f3 f4 f5:Addr}{fd d1 d2 d3 d4 d5:FuncData}{tk0:Tok}(F:Fun K "picks" "picks" fZ f fd)(D1:aL K mg "need_from_to" Rn ["least","most","thing"] f1 d1)(G1:FnOk P w K mg base CX0 2 f1 d1 ["least","most","thing"] (vN K))(D2:aL K mg "all_sets" T5 ["n"] f2 d2)(G2:FnOk P w K mg base CX0 1 f2 d2 ["n"] (zO K))(D3:aL K mg "need_few" MJ ["n"] f3 d3)(G3:FnOk P w K mg base CX0 1 f3 d3 ["n"] (gK K))(D4:aL K mg "in_both" QX ["ones","others"] f4 d4)(G4:FnOk P w K mg base CX0 1 f4 d4 ["ones","others"] (zL K))(D5:aL K mg "pairs" cL ["n"] f5 d5)(G5:FnOk P w K mg base CX0 1 f5 d5 ["n"] (rR K))(fB:mg "sorted"=none)(bK:mg "len"=none)(bN:mg "tuple"=none)(gF:mg "MOST_PLACES"=some (.int 10 tk0)):
  FnOk P w K mg base CX0 3 f fd ["m","k"] (Bb K):=by
 refine F.ok vV (fun vs H Q E h=> ?_) (fun cdv A outer s H vs Q E hr h=> ?_)
 ·obtain⟨m,k,rfl,_⟩:=h
  rfl
 obtain⟨m,k,rfl,m0,m1,k0,k1,hc,q⟩:=h
 refine⟨_,(bh (jg (pc G1 hr D1 (aj aY (aj (CG rfl gF (v:= .int 10) ⟨_,rfl⟩) (aj (pv 0) ak))))) (bh (jg (pc G1 hr D1 (aj aY (aj (pv 0) (aj (pv 1) ak))))) (bh (gG (i:=2) vV.nd rfl (Or.inr rfl) (dF eU rfl fB (by decide+kernel) (aj (lX (own:=["some"]) (caps:=["k"]) (ix:=[1]) rfl (Mf (pc G2 hr D2 (aj (pv 0) ak))) rfl rfl (.cons rfl rfl .nil) (fun _ _ _ _ _=>(dD (i:=0) (show(["some","k"]:List Str).Nodup from by decide+kernel) rfl (Or.inl rfl))) (fun _ _ _ _ _=>Fp (iW op_eq (dF (Aj K) rfl bK uV (aj (pv 0) ak)) (pv 1) (nomark _))) (fun _ _ _ _ _=>(pv 0))) ak))) (bh (gG (i:=3) vV.nd rfl (Or.inl rfl) (dF zB rfl bK uV (aj (pv 2) ak))) (bh (jg (pc G3 hr D3 (aj (pv 3) ak))) (bB (bV (gH (aj (pv 3) (aj (Fv JN rfl bN (by decide+kernel) (aj (lX (own:=["i","j"]) (caps:=["picked"]) (ix:=[2]) rfl (Mf (pc G5 hr D5 (aj (pv 3) ak))) rfl rfl (.cons rfl rfl .nil) (fun _ _ _ _ _=>(eN K (n:=2) rfl (zA (dD (i:=0) (show(["i","j","picked"]:List Str).Nodup from by decide+kernel) rfl (Or.inl rfl)) (zA (dD (i:=1) (show(["i","j","picked"]:List Str).Nodup from by decide+kernel) rfl (Or.inl rfl)) pgs_nil)))) (fun _ _ _ _ _=>Fp (pt_not (gM K (pc G4 hr D4 (aj (cR (jZ K) (pv 2) (pv 0) (fun _ _=>rfl)) (aj (cR (jZ K) (pv 2) (pv 1) (fun _ _=>rfl)) ak))) (fun _=>rfl)))) (fun _ _ _ _ _=>(gH (aj (pv 0) (aj (pv 1) ak))))) ak)) ak)))))))))),?_⟩
 refine⟨_,rfl,1,10,m,rfl,m0,m1,?_⟩
 refine⟨_,rfl,_,rfl,1,m,k,rfl,k0,k1,?_⟩
 refine⟨_,rfl,m,rfl,by omega,m1,fun r its H1 s1 hr1 hT hm=> ?_⟩
 refine⟨r,_,rfl,SqL.of hr1,fun hz=> ?_⟩
 refine MF (xs:=its.map fun p=>V.ref p.1) (fun i acc σ H'=>acc=((its.take i).filter fun p=>decide (p.2.length=k.toNat)).map (fun p=>V.ref p.1)/\Same H1 H'/\∃o,σ=[o,some (.int k)]) ⟨rfl,Same.refl _,_,rfl⟩ (fun i acc σ H' _ p=>p.2.1.seq (SqL.of hr1)) (fun i acc σ H' hi p=> ?_) hz (fun i x acc σ H' hx p=> ?_) (fun acc σ H' p=> ?_)
 ·rw[p.1,aQ]
  exact gJ (yW _ _) (by rw[yV];exact Mj _ _)
 ·obtain⟨rfl,sm,o,rfl⟩:=p
  rw[gw]at hx
  cases ex:its[i]? with
  |none=>rw[ex]at hx;cases hx
  |some v=>
   rw[ex]at hx
   cases hx
   have mv:=Fz ex
   refine⟨_,rfl,v.1,_,rfl,.inr (sm.tup (hT v mv)),fun _=>⟨_,rfl,rfl,_,rfl,?_⟩⟩
   have e:decide (V.int (((v.2.map V.int).length:Nat):Int)=V.int k)=decide (v.2.length=k.toNat):=by
    refine decide_eq_decide.mpr ⟨fun z=> ?_,fun z=> ?_⟩
    ·have:=V.int.inj z
     rw[aQ]at this
     omega
    ·rw[aQ,z]
     congr 1
     omega
   rw[e]
   have go:=Kd (H:=H) (k:=k) ex
   refine ite2 (fun c=> ?_) (fun c=> ?_)
   ·exact⟨_,rfl,by rw[go,bD c,bW];rfl,sm,_,rfl⟩
   ·exact⟨by rw[go,bC c,uU],sm,_,rfl⟩
 intro p1 hp1
 obtain⟨rfl,sm,_⟩:=p
 rw[aQ,ux]
 have YJ:=Tz (k:=k) hm
 have s2:=aR hp1 (.lst ((its.filter fun p=>decide (p.2.length=k.toNat)).map fun p=>V.ref p.1))
 have s02:=s1.trans (sm.trans s2)
 have hJ:∀p∈(its.filter fun p=>decide (p.2.length=k.toNat)),SqT K (upd H' p1 (.lst ((its.filter fun p=>decide (p.2.length=k.toNat)).map fun p=>V.ref p.1))) p.1 (p.2.map V.int)/\p.2≠[]:=fun p hp=>by
  obtain⟨z1,z2⟩:=lY.mp hp
  refine⟨(sm.trans s2).tup (hT p z1),fun e=> ?_⟩
  have:=yZ z2
  rw[e,Rt]at this
  omega
 refine⟨p1,_,rfl,SqL.of aM,hJ,by rw[YJ];omega,fun l its' hl hperm j6=> ?_⟩
 have s3:=aR hl (.lst (its'.map fun p=>V.ref p.1))
 have hlen:its'.length=g8 m k:=by rw[hperm.length_eq,YJ]
 have e3:(upd (upd H' p1 (.lst ((its.filter fun p=>decide (p.2.length=k.toNat)).map fun p=>V.ref p.1))) l (.lst (its'.map fun p=>V.ref p.1))) l=some (.lst (its'.map fun p=>V.ref p.1)):=aM
 have hJ3:JH K (upd (upd H' p1 (.lst ((its.filter fun p=>decide (p.2.length=k.toNat)).map fun p=>V.ref p.1))) l (.lst (its'.map fun p=>V.ref p.1))) its':=fun p hp=>s3.tup (hJ p (hperm.mem_iff.mp hp)).1
 have s03:=s02.trans s3
 generalize (upd (upd H' p1 (.lst ((its.filter fun p=>decide (p.2.length=k.toNat)).map fun p=>V.ref p.1))) l (.lst (its'.map fun p=>V.ref p.1)))=H3 at *
 have hL:its'.map (·.2)=Yk m.toNat k.toNat:=by
  refine I9 ((hperm.map _).trans ?_) (by rw[Iz];exact j6)
  have e:Ou m.toNat k.toNat=(its.filter fun p=>decide (p.2.length=k.toNat)).map (·.2):=by
   unfold Ou
   rw[<-hm,wfe]
   rfl
  rw[e]
 refine⟨_,rfl,l,_,rfl,.inl (SqL.of e3),fun _=> ?_⟩
 rw[aQ,hlen]
 refine⟨_,rfl,(g8 m k:Int),rfl,by omega,?_⟩
 refine⟨_,rfl,_,rfl,(g8 m k:Int),rfl,by omega,by omega,fun l2 H4 s4 hP=> ?_⟩
 obtain⟨rs,e1,v1⟩:=hP.ex
 refine⟨l2,rs,rfl,SqL.of e1,fun hz2=> ?_⟩
 have hrs:rs.length=(rows tt (g8 m k:Int) (g8 m k:Int).toNat).length:=by have:=v1.len;rwa [aQ]at this
 refine MF (xs:=rs) (fun i acc σ H'=>bL K H' acc ((((rows tt (g8 m k:Int) (g8 m k:Int).toNat).take i).filter fun q=>qK (Yk m.toNat k.toNat) q.1 q.2).map pairD)/\Same H4 H'/\∃o1 o2,σ=[o1,o2,some (.ref l)]) ⟨.nil,Same.refl _,_,_,rfl⟩ (fun i acc σ H' _ p=>p.2.1.seq (SqL.of e1)) (fun i acc σ H' _ p=> ?_) hz2 (fun i x acc σ H5 hx p=> ?_) (fun acc σ H5 p=> ?_)
 ·have z:=p.1.len
  rw[z,aQ]
  exact gJ (yW _ _) (by rw[yV];exact Mj _ _)
 ·obtain⟨hla,s5,o1,o2,rfl⟩:=p
  obtain⟨t,hi,rfl,ht⟩:=gq v1 hx
  have hmem:=yU hi
  have hget:(rows tt (g8 m k:Int) (g8 m k:Int).toNat)[i]? =some (rows tt (g8 m k:Int) (g8 m k:Int).toNat)[i]:=iY hi
  have go:=Bs (so:=qK (Yk m.toNat k.toNat)) hget
  generalize (rows tt (g8 m k:Int) (g8 m k:Int).toNat)[i]=pr at *
  obtain⟨q0,q1,q2,q3,_⟩:=JL.mp hmem
  have s45:=s4.trans s5
  have hLs:SqL K H5 l (its'.map fun p=>V.ref p.1):=SqL.of (s45 _ _ e3)
  obtain⟨v,mv,av,ev⟩:=QG hL (j:=pr.1) q0 (by omega)
  obtain⟨u,mu,au,eu⟩:=QG hL (j:=pr.2) (by omega) (by omega)
  refine⟨t,_,rfl,s5.tup ht,rfl,_,_,rfl,_,_,rfl,rfl,?_⟩
  refine⟨_,rfl,_,rfl,l,_,_,_,rfl,rfl,hLs,av,_,rfl,_,rfl,l,_,_,_,rfl,rfl,hLs,au,v.1,u.1,v.2,u.2,rfl,s45.tup (hJ3 v mv),s45.tup (hJ3 u mu),fun r6 H6 s6 h6=>⟨_,.inl ⟨_,SqL.of h6,rfl⟩,?_⟩⟩
  have nb:(!(!((v.2.filter fun o=>decide (o∈u.2)).map V.int).isEmpty))=qK (Yk m.toNat k.toNat) pr.1 pr.2:=by
   unfold qK
   rw[wfp,List.isEmpty_map,ev,eu]
  dsimp only
  rw[nb]
  refine ite2 (fun c=> ?_) (fun c=> ?_)
  ·refine⟨_,rfl,_,rfl,(by show 2<=sizeLine;decide),fun pn hpn=> ?_⟩
   have s7:=s6.trans (aR hpn (.tup [.int pr.1,.int pr.2]))
   refine⟨?_,s5.trans s7,_,_,rfl⟩
   rw[go,bD c,bW]
   exact(hla.same s7).append (.cons (.tup (SqT.of aM) (.cons (.int _) (.cons (.int _) .nil))) .nil)
  ·refine⟨?_,s5.trans s6,_,_,rfl⟩
   rw[go,bC c,uU]
   exact hla.same s6
 ·intro p2 hp2
  obtain⟨hla,s5,_⟩:=p
  rw[hrs,ux,gk]at hla
  refine⟨p2,_,rfl,.inl ⟨SqL.of aM,fun t ht=>⟨(by show 2<=sizeLine;decide),fun r' hr'=> ?_⟩⟩⟩
  have s6:=aR hp2 (.lst acc)
  have s7:=aR ht (.tup acc)
  have s8:=aR hr' (.tup [.int (g8 m k:Int),.ref t])
  refine q r' _ (s03.trans (s4.trans (s5.trans (s6.trans (s7.trans s8))))) ?_
  exact⟨t,acc,SqT.of aM,s8.tup (SqT.of aM),hla.same (s6.trans (s7.trans s8))⟩
theorem Bt(n:Nat):(rng n).Pairwise (· < ·):=by
 unfold rng
 rw[Iz]
 exact Xr.imp fun{a b} h=>by omega
theorem v9(n:Nat):(rng n).length=n:=by unfold rng;simp
theorem Ae:∀ns:List Int,PyData.canLayAll0 (ns.map PyData.int)=true
 |[]=>rfl
 |n::ns=>by
  show(true&&PyData.canLayAll0 (ns.map PyData.int))=true
  rw[Ae ns];rfl
def BX(n:Nat)(taken:List Int):Int:=((rng n).filter fun h=> !decide (h∈taken)).headD 0
def iC(ts:List (Int×Int))(kv:List (Int×Int))(p:Int):List (Int×Int):=kv.filter fun q=>aU ts p q.1
def hstep(n:Nat)(ts:List (Int×Int))(kv:List (Int×Int))(p:Int):List (Int×Int):=kv++[(p,BX n ((iC ts kv p).map (·.2)))]
def hkv(n:Nat)(ts:List (Int×Int))(xs:List Int):List (Int×Int):=xs.foldl (hstep n ts) []
theorem Ei(n:Nat)(ts:List (Int×Int))(xs:List Int)(p:Int):hkv n ts (xs++[p])=hstep n ts (hkv n ts xs) p:=by unfold hkv;rw[List.foldl_append];rfl
theorem xV(n:Nat)(ts:List (Int×Int)):∀(k:Nat) (xs:List Int),xs.length=k->(hkv n ts xs).map (·.1)=xs
 |0,xs,h=>by rw[Xy h];rfl
 |k+1,l0,h=>by
  have hne:l0≠[]:=fun e=>by rw[e]at h;cases h
  obtain⟨l,p,rfl⟩:∃ys p,l0=ys++[p]:=⟨l0.dropLast,l0.getLast hne,(List.dropLast_concat_getLast hne).symm⟩
  rw[Ei]
  unfold hstep
  rw[bW,xV n ts k l (by rw[iz]at h;exact Nat.succ.inj h)]
  rfl
def Eh(kv:List (Int×Int))(p:Int):Int:=((kv.find? fun q=>decide (q.1=p)).map (·.2)).getD 0
def conv(kv:List (Int×Int)):List (Key×V):=kv.map fun q=>(Sum.inl q.1,V.int q.2)
theorem Lq(kv:List (Int×Int)):(conv kv).map (·.1)=(kv.map (·.1)).map Sum.inl:=by unfold conv;rw[CJ,CJ];rfl
theorem lD(p:Int):∀kv:List (Int×Int),valV (conv kv) (.inl p)=((kv.find? fun q=>decide (q.1=p)).map (·.2)).map V.int
 |[]=>rfl
 |q::kv=>by
  by_cases e:q.1=p
  ·have:valV (conv (q::kv)) (.inl p)=some (.int q.2):=valV_pos (p:=(Sum.inl q.1,V.int q.2)) (by rw[e])
   rw[this,weu (by rw[e];exact cJ rfl)];rfl
  ·have:valV (conv (q::kv)) (.inl p)=valV (conv kv) (.inl p):=valV_neg (p:=(Sum.inl q.1,V.int q.2)) (fun z=>e (Sum.inl.inj z))
   rw[this,lD p kv,wev (by rw[gB e];decide)]
theorem JC{kv:List (Int×Int)}(nd:(kv.map (·.1)).Nodup){q:Int×Int}(hq:q∈kv):(kv.find? fun r=>decide (r.1=q.1))=some q:=by
 induction kv with
 |nil=>cases hq
 |cons a kv ih=>
  rw[Fy,M5]at nd
  rcases cT.mp hq with rfl|h
  ·exact weu (p:=fun r:Int×Int=>decide (r.1=q.1)) (by exact cJ rfl)
  ·have ne:a.1≠q.1:=fun e=>nd.1 (by rw[e];exact eE.mpr ⟨q,h,rfl⟩)
   rw[wev (by rw[gB ne];decide)]
   exact ih nd.2 h
theorem JR{kv:List (Int×Int)}{p:Int}(h:p∉kv.map (·.1)):valV (conv kv) (.inl p)=none:=by
 rw[lD]
 have:(kv.find? fun q=>decide (q.1=p))=none:=List.find?_eq_none.mpr fun q hq=>by
  rw[gB (fun e=>h (eE.mpr ⟨q,hq,e⟩))];decide
 rw[this];rfl
theorem Qv{kv:List (Int×Int)}{p k:Int}(h:p∉kv.map (·.1)):putK (conv kv) (.inl p) (.int k)=conv (kv++[(p,k)]):=by
 rw[putK_new _ (JR h)];unfold conv;rw[bW];rfl
theorem Ql{n:Nat}{ts:List (Int×Int)}{kv:List (Int×Int)}{p:Int}(nd:(kv.map (·.1)).Nodup)(hk:∀q∈kv,0<=q.1/\q.1<(n:Int))(hp:p∉kv.map (·.1))(hp0:0<=p)(hp1:p<(n:Int)):((rng n).filter fun h=> !decide (h∈(iC ts kv p).map (·.2)))≠[]:=fun e=>by
 have hall:∀h∈rng n,h∈(iC ts kv p).map (·.2):=fun h hh=>by
  have:=ydd.mp e h hh
  simpa using this
 have hnd:(rng n).Nodup:=(Bt n).imp fun h=>Int.ne_of_lt h
 have l1:=cu hnd hall
 rw[aQ]at l1
 have l2:(iC ts kv p).length<=kv.length:=yW _ _
 have l3:(p::kv.map (·.1)).length<=(rng n).length:=cu (M5.mpr ⟨hp,nd⟩) fun x hx=>by
  rcases cT.mp hx with rfl|hx
  ·exact eO.mpr ⟨hp0,hp1⟩
  ·obtain⟨q,hq,rfl⟩:=eE.mp hx
   exact eO.mpr (hk q hq)
 rw[Mq,aQ]at l3
 omega
theorem PB{n:Nat}{taken:List Int}{m:Int}(h1:m∈(rng n).filter fun h=> !decide (h∈taken))(h2:∀x∈(rng n).filter fun h=> !decide (h∈taken),m<=x):m=BX n taken:=by
 unfold BX
 have hs:((rng n).filter fun h=> !decide (h∈taken)).Pairwise (· < ·):=(Bt n).filter _
 generalize ((rng n).filter fun h=> !decide (h∈taken))=ys at *
 rcases ys with _|⟨y,ys⟩
 ·cases h1
 ·show m=y
  have a:=h2 y (jl ..)
  rcases cT.mp h1 with rfl|h1
  ·rfl
  ·have:=(Wv.mp hs).1 m h1
   omega
def NT(K:W.Frag):Sp:=fun vs H Q _=>∃(a o:Addr) (n:Int) (ts:List (Int×Int)) (xs:List Int),vs=[.ref a,.ref o]/\bA K H a n ts/\SqT K H o (xs.map V.int)/\xs.Perm (rng n.toNat)/\
 ∀r H',Same H H'->SqT K H' r (((rng n.toNat).map (Eh (hkv n.toNat ts xs.reverse))).map V.int)->Q (.ref r) H'
theorem uZ:FnScope ["web","order","hues","place","taken"] ["web","order"] (defScope Ui):=fsc
theorem R6{f f1:Addr}{fd d1:FuncData}(F:Fun K "hues_by_order" "hues_by_order" Ui f fd)(D1:aL K mg "tied_among" MN ["web","place","some"] f1 d1)(G1:FnOk P w K mg base CX0 2 f1 d1 ["web","place","some"] (qF K))(Hw:mg "reversed"=none)(wI:mg "list"=none)(Yt:mg "min"=none)(aV:mg "range"=none)(bN:mg "tuple"=none):
  FnOk P w K mg base CX0 3 f fd ["web","order"] (NT K):=by
 refine F.ok uZ (fun vs H Q E h=> ?_) (fun cdv A outer s H vs Q E hr h=> ?_)
 ·obtain⟨a,o,n,ts,xs,rfl,_⟩:=h
  rfl
 obtain⟨a,o,n,ts,xs,rfl,hA,hO,hp,q⟩:=h
 refine⟨_,(bh (gG (i:=2) uZ.nd rfl (Or.inr rfl) pe_dnewK) (bh (ps_for Mv rfl (VH rfl Hw (aj (pv 1) ak)) (dD (i:=3) uZ.nd rfl (Or.inl rfl)) (bh (gG (i:=4) uZ.nd rfl (Or.inr rfl) (lX (own:=["other"]) (caps:=["hues"]) (ix:=[2]) rfl (Mf (pc G1 hr D1 (aj (pv 0) (aj (pv 3) (aj (Fv (Ig rfl) rfl wI (by decide+kernel) (aj (pv 2) ak)) ak))))) rfl rfl (.cons rfl rfl .nil) (fun _ _ _ _ _=>(dD (i:=0) (show(["other","hues"]:List Str).Nodup from by decide+kernel) rfl (Or.inl rfl))) (fun _ _ _ _ _=>zy) (fun _ _ _ _ _=>(pe_dget (Ft (wdr (by decide:1<=64) _) hr.units) (pv 1) (pv 0) (fun _ _=>rfl))))) (bB (ps_dput (Ft (wdr (by decide:1<=64) _) hr.units) (pv 2) (pv 3) (dF (Lx rfl) rfl Yt (by decide+kernel) (aj (lX (own:=["hue"]) (caps:=["taken"]) (ix:=[4]) rfl (Fq rfl aV (aj (cR eZ (pv 0) aY (fun _ _=>rfl)) ak)) rfl rfl (.cons rfl rfl .nil) (fun _ _ _ _ _=>(dD (i:=0) (show(["hue","taken"]:List Str).Nodup from by decide+kernel) rfl (Or.inl rfl))) (fun _ _ _ _ _=>Fp (iW (iJ K hr.units) (pv 0) (pv 1) (by with_unfolding_all rfl))) (fun _ _ _ _ _=>(pv 0))) ak)) rfl)))) (bB (bV (Fv JN rfl bN (by decide+kernel) (aj (lX (own:=["place"]) (caps:=["hues"]) (ix:=[2]) rfl (Fq rfl aV (aj (cR eZ (pv 0) aY (fun _ _=>rfl)) ak)) rfl rfl (.cons rfl rfl .nil) (fun _ _ _ _ _=>(dD (i:=0) (show(["place","hues"]:List Str).Nodup from by decide+kernel) rfl (Or.inl rfl))) (fun _ _ _ _ _=>zy) (fun _ _ _ _ _=>(pe_dget (Ft (wdr (by decide:1<=64) _) hr.units) (pv 1) (pv 0) (fun _ _=>rfl)))) ak)))))),?_⟩
 have h0:=hA.h0
 have h10:=hA.h1
 have xnd:xs.Nodup:=hp.nodup_iff.mpr ((Bt n.toNat).imp fun h=>Int.ne_of_lt h)
 have xm:∀x∈xs,0<=x/\x<(n.toNat:Int):=fun x hx=>eO.mp (hp.mem_iff.mp hx)
 have xl:xs.length<=10:=by have:=hp.length_eq;rw[v9]at this;omega
 refine Ji (fun σ' H'=>∃d,σ'=[some (.ref a),some (.ref o),some (.ref d),none,none]/\H d=none/\Same H H'/\H' d=some (.dK [])) (fun N hN=>fun d hd=>hN _ _ ⟨d,rfl,hd,aR hd (.dK []),aM⟩) ?_
 rintro σ' H1 ⟨d,rfl,hd,s1,hd1⟩
 try dsimp only
 refine Ji (fun σ' H'=>∃o3 o4,σ'=[some (.ref a),some (.ref o),some (.ref d),o3,o4]/\Same H H'/\H' d=some (.dK (conv (hkv n.toNat ts xs.reverse)))) (fun N hN=> ?_) ?_
 ·refine⟨_,rfl,o,_,rfl,s1.tup hO,fun _=> ?_⟩
  refine Tj (K:=K) (a:=o) (xs:=xs.map V.int) (fun i σ H'=>Same H H'/\H' d=some (.dK (conv (hkv n.toNat ts (xs.reverse.take i))))/\∃o3 o4,σ=[some (.ref a),some (.ref o),some (.ref d),o3,o4]) ⟨s1,hd1,_,_,rfl⟩ (fun i σ H' _ p=>p.1.tup hO) (fun i x σ H2 hx p=> ?_) (fun σ H2 p=> ?_)
  ·obtain⟨s2,hd2,o3,o4,rfl⟩:=p
   rw[<-List.map_reverse,gw]at hx
   cases ex:xs.reverse[i]? with
   |none=>rw[ex]at hx;cases hx
   |some p=>
    rw[ex]at hx
    cases hx
    have et:xs.reverse.take (i+1)=xs.reverse.take i++[p]:=by rw[Ao,ex];rfl
    have hpx:p∈xs:=List.mem_reverse.mp (Fz ex)
    have pb:=xm p hpx
    have key:=xV n.toNat ts _ (xs.reverse.take i) rfl
    have rnd:xs.reverse.Nodup:=(List.reverse_perm xs).nodup_iff.mpr xnd
    have knd:((hkv n.toNat ts (xs.reverse.take i)).map (·.1)).Nodup:=by rw[key];exact rnd.sublist (wee _ _)
    have pn:p∉(hkv n.toNat ts (xs.reverse.take i)).map (·.1):=by
     rw[key]
     have q1:(xs.reverse.take i++[p]).Nodup:=by rw[<-et];exact rnd.sublist (wee _ _)
     exact fun z=>(JQ.mp q1).2.2 p z p (jk.mpr rfl) rfl
    have kb:∀q∈hkv n.toNat ts (xs.reverse.take i),0<=q.1/\q.1<(n.toNat:Int):=fun q hq=>xm q.1 (by
     have:q.1∈(hkv n.toNat ts (xs.reverse.take i)).map (·.1):=eE.mpr ⟨q,hq,rfl⟩
     rw[key]at this
     exact List.mem_reverse.mp (List.mem_of_mem_take this))
    have kl:(hkv n.toNat ts (xs.reverse.take i)).length<=10:=by
     have:=rH List.length key
     rw[aQ]at this
     have l3:(xs.reverse.take i).length<=xs.length:=by rw[yV,wdm];exact Nat.min_le_right _ _
     omega
    have eh:hkv n.toNat ts (xs.reverse.take (i+1))=hkv n.toNat ts (xs.reverse.take i)++[(p,BX n.toNat ((iC ts (hkv n.toNat ts (xs.reverse.take i)) p).map (·.2)))]:=by rw[et,Ei];rfl
    generalize hkv n.toNat ts (xs.reverse.take i)=kv at *
    have fh:=Ql (ts:=ts) knd kb pn pb.1 pb.2
    refine⟨_,rfl,_,rfl,_,rfl,d,conv kv,kv.map (·.1),rfl,hd2,by unfold conv;rw[aQ];omega,Lq kv,fun lk hlk=> ?_⟩
    have s3:=aR hlk (.lst ((kv.map (·.1)).map V.int))
    refine⟨false,a,lk,n,p,ts,kv.map (·.1),rfl,hA.same (s2.trans s3),SqL.of aM,fun r4 H4 s4 h4 n4=> ?_⟩
    have RP:=s3.trans s4
    have hd4:=RP _ _ hd2
    generalize upd H2 lk (.lst ((kv.map (·.1)).map V.int))=H3 at *
    have ef:((kv.map (·.1)).filter fun o=>aU ts p o)=(iC ts kv p).map (·.1):=by unfold iC;rw[wfe];rfl
    rw[ef]at h4
    have tm:∀q∈iC ts kv p,q∈kv:=fun q hq=>(lY.mp hq).1
    generalize iC ts kv p=L at *
    refine⟨r4,_,rfl,SqL.of h4,fun hz=> ?_⟩
    refine MF (xs:=(L.map (·.1)).map V.int) (fun k acc σ H'=>acc=((L.take k).map (·.2)).map V.int/\Same H4 H'/\∃o,σ=[o,some (.ref d)]) ⟨rfl,Same.refl _,_,rfl⟩ (fun k acc σ H' _ p=>p.2.1.seq (SqL.of h4)) (fun k acc σ H' hk p=>by rw[p.1,aQ,aQ,yV];exact Mj _ _) hz (fun k x acc σ H5 hx pp=> ?_) (fun acc σ H5 pp=> ?_)
    ·obtain⟨rfl,s5,o5,rfl⟩:=pp
     rw[gw,gw]at hx
     cases ey:L[k]? with
     |none=>rw[ey]at hx;cases hx
     |some y=>
      rw[ey]at hx
      cases hx
      have hy:=tm y (Fz ey)
      have gv:valV (conv kv) (.inl y.1)=some (.int y.2):=by rw[lD,JC knd hy];rfl
      refine⟨_,rfl,_,rfl,d,_,rfl,.inl ⟨conv kv,.inl y.1,.inl (s5 _ _ hd4),rfl,gv.symm⟩,?_,s5,_,rfl⟩
      rw[Ao,ey,bW,bW];rfl
    ·intro p1 hp1
     obtain⟨rfl,s5,o5,rfl⟩:=pp
     have s6:=s5.trans (aR hp1 (.lst ((((L.take ((L.map (·.1)).map V.int).length)).map (·.2)).map V.int)))
     have e6:upd H5 p1 (.lst ((((L.take ((L.map (·.1)).map V.int).length)).map (·.2)).map V.int)) p1=some (.lst ((L.map (·.2)).map V.int)):=by rw[aM,aQ,aQ,ux]
     generalize upd H5 p1 (.lst ((((L.take ((L.map (·.1)).map V.int).length)).map (·.2)).map V.int))=H6 at *
     have s26:=s2.trans (RP.trans s6)
     obtain⟨ta,ra,a1,a2,a3⟩:=id (hA.same s26).web
     refine⟨_,rfl,a,_,_,.int n,rfl,rfl,a1,rfl,_,rfl,by omega,by omega,?_⟩
     refine JM (n:=n.toNat) (fun k acc σ H'=>acc=((rng k).filter fun h=> !decide (h∈L.map (·.2))).map V.int/\Same H6 H'/\∃o,σ=[o,some (.ref p1)]) ⟨rfl,Same.refl _,_,rfl⟩ (fun k acc σ H' _ p=>by rw[p.1,aQ];exact gJ (yW _ _) (by rw[v9];exact bx _)) (by rw[eF];omega) (fun k acc σ H7 hk pp=> ?_) (fun acc σ H7 pp=> ?_)
     ·obtain⟨rfl,s7,o7,rfl⟩:=pp
      have e0:(0:Int)+(k:Int)=(k:Int):=by omega
      refine⟨_,rfl,_,rfl,p1,_,_,.int (0+(k:Int)),rfl,.inl (s7.seq (SqL.of e6)),bL.ints (L.map (·.2)),.int _,Ae (L.map (·.2)),rfl,(by show 0<=60;decide),_,rfl,?_⟩
      rw[any_ints,e0,v8,Rv,bW]
      refine ite2 (fun c=> ?_) (fun c=> ?_)
      ·refine⟨_,rfl,?_,s7,_,rfl⟩
       rw[List.filter_cons_of_pos (p:=fun h:Int=> !decide (h∈L.map (·.2))) (by exact c)];rfl
      ·refine⟨?_,s7,_,rfl⟩
       rw[List.filter_cons_of_neg (p:=fun h:Int=> !decide (h∈L.map (·.2))) (by exact c)];simp
     ·intro p2 hp2
      obtain⟨rfl,s7,o7,rfl⟩:=pp
      have s8:=s7.trans (aR hp2 (.lst (((rng n.toNat).filter fun h=> !decide (h∈L.map (·.2))).map V.int)))
      refine⟨p2,_,rfl,SqL.of aM,fh,fun m hm hm2=> ?_⟩
      have em:=PB hm hm2
      have hd8:=(s6.trans s8) _ _ hd4
      have s28:=s26.trans s8
      generalize upd H7 p2 (.lst (((rng n.toNat).filter fun h=> !decide (h∈L.map (·.2))).map V.int))=H8 at *
      refine⟨_,rfl,_,rfl,d,_,rfl,DPut.k (k:= .inl p) hd8 (by unfold conv;rw[aQ,eF];omega),?_⟩
      refine⟨fun b u e=>by rw[dX (fun z=>by rw[z,hd]at e;cases e)];exact s28 _ _ e,?_,_,_,rfl⟩
      rw[aM,eh,Qv pn,em]
  ·obtain⟨s2,hd2,o3,o4,rfl⟩:=p
   have e:xs.reverse.take (xs.map V.int).length=xs.reverse:=by rw[aQ,<-wdm,ux]
   rw[e]at hd2
   exact hN _ _ ⟨o3,o4,rfl,s2,hd2⟩
 rintro σ' H2 ⟨o3,o4,rfl,s2,hd2⟩
 try dsimp only
 obtain⟨ta,ra,a1,a2,a3⟩:=id (hA.same s2).web
 have key:=xV n.toNat ts _ xs.reverse rfl
 have knd:((hkv n.toNat ts xs.reverse).map (·.1)).Nodup:=by rw[key];exact(List.reverse_perm xs).nodup_iff.mpr xnd
 have kin:∀p:Int,0<=p->p<(n.toNat:Int)->valV (conv (hkv n.toNat ts xs.reverse)) (.inl p)=some (.int (Eh (hkv n.toNat ts xs.reverse) p)):=fun p p0 p1=>by
  have:p∈(hkv n.toNat ts xs.reverse).map (·.1):=by rw[key];exact List.mem_reverse.mpr (hp.mem_iff.mpr (eO.mpr ⟨p0,p1⟩))
  obtain⟨z,hz,rfl⟩:=eE.mp this
  have fz:=JC knd hz
  rw[lD]
  unfold Eh
  rw[fz];rfl
 generalize hkv n.toNat ts xs.reverse=kv at *
 refine⟨_,rfl,a,_,_,.int n,rfl,rfl,a1,rfl,_,rfl,by omega,by omega,?_⟩
 refine JM (n:=n.toNat) (fun k acc σ H'=>acc=((rng k).map (Eh kv)).map V.int/\Same H2 H'/\∃o,σ=[o,some (.ref d)]) ⟨rfl,Same.refl _,_,rfl⟩ (fun k acc σ H' _ p=>by rw[p.1,aQ,aQ,v9];exact bx _) (by rw[eF];omega) (fun k acc σ H3 hk pp=> ?_) (fun acc σ H3 pp=> ?_)
 ·obtain⟨rfl,s3,o5,rfl⟩:=pp
  have e0:(0:Int)+(k:Int)=(k:Int):=by omega
  refine⟨_,rfl,_,rfl,d,_,rfl,.inl ⟨conv kv,.inl (0+(k:Int)),.inl (s3 _ _ hd2),rfl,by rw[e0,kin (k:Int) (by omega) (by omega)]⟩,?_,s3,_,rfl⟩
  rw[v8,bW,bW];rfl
 ·intro p1 hp1
  obtain⟨rfl,s3,o5,rfl⟩:=pp
  refine⟨p1,_,rfl,.inl ⟨SqL.of aM,fun r hr'=> ?_⟩⟩
  exact q r _ (s2.trans (s3.trans ((aR hp1 _).trans (aR hr' _)))) (SqT.of aM)
end
end Hs
namespace Hs
open PySem yL
end Hs
namespace Hs
open PySem L2 yL
section
variable{P:Program}{w:World}{K:W.Frag}{mg:Str->Option Value}{base:Heap}
theorem VD{n:Int}:rg n=rng n.toNat:=rfl
theorem bQ.pmR{n:Int}{ts:List (Int×Int)}{xs:List Int}(h:bQ n ts xs []):xs.Perm (rng n.toNat):=by
 have z:=h.pm
 rw[uU,VD]at z
 exact z
theorem Nu{i j:Str}{A B:Prop}(h:¬i=j)(hB:B):if decide (V.str i=V.str j)=true then A else B:=by
 rw[gB fun z=>h (V.str.inj z)]
 exact iteF hB
theorem str_eq{i:Str}{A B:Prop}(hA:A):if decide (V.str i=V.str i)=true then A else B:=by
 rw[cJ rfl]
 exact iteT hA
def Cr(n:Int)(ts:List (Int×Int)):Prop:=∃c,bZ.Bare (aq ts) c/\∀x∈c,0<=x/\x<n
def zM(K:W.Frag):Sp:=fun vs H Q _=>∃(a:Addr) (n:Int) (ts:List (Int×Int)),vs=[.ref a]/\bA K H a n ts/\¬Cr n ts/\
 ∀(r h c:Addr) (s xs:List Int) H',Same H H'->SqT K H' r [.int s.length,.ref h,.ref c]->SqT K H' h (((rng n.toNat).map (Eh (hkv n.toNat ts xs.reverse))).map V.int)->SqT K H' c (s.map V.int)->yK s ts true n.toNat->bQ n ts xs []->Q (.ref r) H'
theorem rT:FnScope ["web","told","crowd"] ["web"] (defScope cP):=fsc
theorem Hh{f f1 f2 f3:Addr}{fd d1 d2 d3:FuncData}(F:Fun K "by_fold" "by_fold" cP f fd)(D1:aL K mg "fold" iG ["web"] f1 d1)(G1:FnOk P w K mg base CX0 11 f1 d1 ["web"] (Bg K))(D2:aL K mg "greatest_crowd" Rr ["web"] f2 d2)(G2:FnOk P w K mg base CX0 9 f2 d2 ["web"] (vM K))(D3:aL K mg "hues_by_order" Ui ["web","order"] f3 d3)(G3:FnOk P w K mg base CX0 3 f3 d3 ["web","order"] (NT K))(bK:mg "len"=none):
  FnOk P w K mg base CX0 12 f fd ["web"] (zM K):=by
 refine F.ok rT (fun vs H Q E h=> ?_) (fun cdv A outer s H vs Q E hr h=> ?_)
 ·obtain⟨_,_,_,rfl,_⟩:=h
  rfl
 obtain⟨a,n,ts,rfl,hA,no,q⟩:=h
 refine⟨_,(bh (gG (i:=1) rT.nd rfl (Or.inl rfl) (pc G1 hr D1 (aj (pv 0) ak))) (bh (ps_if (iW op_eq (cR eZ (pv 1) aY (fun _ _=>rfl)) pe_str (nomark _)) pss_never ur) (bh (gG (i:=2) rT.nd rfl (Or.inl rfl) (pc G2 hr D2 (aj (pv 0) ak))) (bB (bV (gH (aj (dF zB rfl bK uV (aj (pv 2) ak)) (aj (pc G3 hr D3 (aj (pv 0) (aj (cR eZ (pv 1) aY (fun _ _=>rfl)) ak))) (aj (pv 2) ak))))))))),?_⟩
 refine⟨_,rfl,a,n,ts,rfl,hA,fun r o xs H1 s1 c1 c2 hf=> ?_,fun r l c H1 s1 c1 c2 nl hB hc=>(no ⟨c,hB,hc⟩).elim⟩
 refine⟨_,rfl,r,_,_,.str "fold",rfl,rfl,c1,rfl,?_⟩
 refine⟨rfl,_,rfl,Nu (by decide) ?_⟩
 refine⟨_,rfl,a,n,ts,rfl,hA.same s1,fun g gs H2 s2 c3 hm=> ?_⟩
 refine⟨_,rfl,g,_,rfl,.inr c3,fun _=> ?_⟩
 refine⟨_,rfl,_,rfl,r,_,_,.ref o,rfl,rfl,s2.tup c1,rfl,a,o,n,ts,xs,rfl,(hA.same s1).same s2,s2.tup c2,hf.pmR,fun h H3 s3 c4=> ?_⟩
 refine⟨_,rfl,(by show 3<=sizeLine;decide),fun t ht=> ?_⟩
 have s4:=aR ht (.tup [.int (gs.map V.int).length,.ref h,.ref g])
 refine q t h g gs xs _ (s1.trans (s2.trans (s3.trans s4))) ?_ (s4.tup c4) ((s3.trans s4).tup c3) hm hf
 rw[aQ]
 exact SqT.of aM
def rP(K:W.Frag):Sp:=fun vs H Q _=>∃(a l:Addr) (n:Int) (ts:List (Int×Int)) (xs:List Int),vs=[.ref a,.ref l]/\bA K H a n ts/\SqT K H l (xs.map V.int)/\rB n xs/\∀H',Same H H'->Q (.bl (cD ts xs true)) H'
theorem Gh:FnScope ["web","some"] ["web","some"] (defScope Ua):=fsc
theorem GX{f f1 f2 f3:Addr}{fd d1 d2 d3:FuncData}(F:Fun K "is_crowd" "is_crowd" Ua f fd)(D1:aL K mg "need_web" yR ["thing"] f1 d1)(G1:FnOk P w K mg base CX0 7 f1 d1 ["thing"] (aZ K))(D2:aL K mg "need_set" Q6 ["web","thing"] f2 d2)(G2:FnOk P w K mg base CX0 5 f2 d2 ["web","thing"] (lE K))(D3:aL K mg "are_all_tied" Q7 ["web","some"] f3 d3)(G3:FnOk P w K mg base CX0 2 f3 d3 ["web","some"] (lF K)):
  FnOk P w K mg base CX0 8 f fd ["web","some"] (rP K):=by
 refine F.ok Gh (fun vs H Q E h=> ?_) (fun cdv A outer s H vs Q E hr h=> ?_)
 ·obtain⟨a,l,n,ts,xs,rfl,_⟩:=h
  rfl
 obtain⟨a,l,n,ts,xs,rfl,hA,hX,hok,q⟩:=h
 refine⟨_,(bh (jg (pc G1 hr D1 (aj (pv 0) ak))) (bh (jg (pc G2 hr D2 (aj (pv 0) (aj (pv 1) ak)))) (bB (bV (pc G3 hr D3 (aj (pv 0) (aj (pv 1) ak))))))),?_⟩
 refine⟨_,rfl,_,_,rfl,hA.web.dv.dx,hA.ok,fun H1 s1=> ?_⟩
 obtain⟨ta,ra,a1,a2,a3⟩:=id (hA.same s1).web
 have YL:DX K H1 (.ref l) (.tuple (xs.map PyData.int)):=(DV.tup (s1.tup hX) (bL.ints xs)).dx
 refine⟨_,rfl,_,rfl,a,n,_,_,_,rfl,a1,YL,hok.mD,fun H2 s2=> ?_⟩
 have s12:=s1.trans s2
 have h10:=hok.len hA.h1
 exact⟨_,rfl,_,rfl,true,a,l,n,ts,xs,rfl,hA.same s12,s12.tup hX,hok.srt.imp (fun h e=>by omega),by omega,fun H3 s3=>q H3 (s12.trans s3)⟩
def rQ(K:W.Frag):Sp:=fun vs H Q _=>∃(a l:Addr) (n:Int) (ts:List (Int×Int)) (xs:List Int),vs=[.ref a,.ref l]/\bA K H a n ts/\SqT K H l (xs.map V.int)/\rB n xs/\∀H',Same H H'->Q (.bl (cD ts xs false)) H'
theorem Gi:FnScope ["web","some"] ["web","some"] (defScope T9):=fsc
theorem GZ{f f1 f2 f3:Addr}{fd d1 d2 d3:FuncData}(F:Fun K "is_apart" "is_apart" T9 f fd)(D1:aL K mg "need_web" yR ["thing"] f1 d1)(G1:FnOk P w K mg base CX0 7 f1 d1 ["thing"] (aZ K))(D2:aL K mg "need_set" Q6 ["web","thing"] f2 d2)(G2:FnOk P w K mg base CX0 5 f2 d2 ["web","thing"] (lE K))(D3:aL K mg "count_ties_in" Ro ["web","some"] f3 d3)(G3:FnOk P w K mg base CX0 1 f3 d3 ["web","some"] (Bh K)):
  FnOk P w K mg base CX0 8 f fd ["web","some"] (rQ K):=by
 refine F.ok Gi (fun vs H Q E h=> ?_) (fun cdv A outer s H vs Q E hr h=> ?_)
 ·obtain⟨a,l,n,ts,xs,rfl,_⟩:=h
  rfl
 obtain⟨a,l,n,ts,xs,rfl,hA,hX,hok,q⟩:=h
 refine⟨_,(bh (jg (pc G1 hr D1 (aj (pv 0) ak))) (bh (jg (pc G2 hr D2 (aj (pv 0) (aj (pv 1) ak)))) (bB (bV (Fo op_eq (pc G3 hr D3 (aj (pv 0) (aj (pv 1) ak))) aY (nomark _)))))),?_⟩
 refine⟨_,rfl,_,_,rfl,hA.web.dv.dx,hA.ok,fun H1 s1=> ?_⟩
 obtain⟨ta,ra,a1,a2,a3⟩:=id (hA.same s1).web
 have YL:DX K H1 (.ref l) (.tuple (xs.map PyData.int)):=(DV.tup (s1.tup hX) (bL.ints xs)).dx
 refine⟨_,rfl,_,rfl,a,n,_,_,_,rfl,a1,YL,hok.mD,fun H2 s2=> ?_⟩
 have s12:=s1.trans s2
 refine⟨_,rfl,_,rfl,true,a,l,n,ts,xs,rfl,hA.same s12,s12.tup hX,fun H3 s3=>⟨rfl,?_⟩⟩
 have e:decide (V.int ((ts.filter (inB xs)).length:Int)=V.int 0)=cD ts xs false:=by
  rw[intV_eq,<-apart_eq hA.pk hok.srt]
  exact decide_eq_decide.mpr (by omega)
 rw[e]
 exact q H3 (s12.trans s3)
theorem pK:∀ns:List Int,PyData.depthAll (ns.map PyData.int)=0
 |[]=>rfl
 |x::xs=>by show max 0 (PyData.depthAll (xs.map PyData.int))=0;rw[pK xs];rfl
def dJ(s:List Int):PyData:= .tuple (s.map PyData.int)
theorem Dj(s:List Int):(dJ s).depth<=3:=by
 show PyData.depthAll (s.map PyData.int)+1<=3
 rw[pK];decide
theorem QZ(s:List Int):(dJ s).canLay0=true:=lay_ints s
theorem Di:∀ss:List (List Int),PyData.canLayAll0 (ss.map dJ)=true
 |[]=>rfl
 |s::ss=>by
  show(PyData.canLay0 (dJ s)&&PyData.canLayAll0 (ss.map dJ))=true
  rw[Di ss,QZ];rfl
theorem vU:∀ss:List (List Int),PyData.depthAll (ss.map dJ)<=1
 |[]=>jj _
 |s::ss=>by
  show max (PyData.depthAll (s.map PyData.int)+1) (PyData.depthAll (ss.map dJ))<=1
  have:=vU ss
  rw[pK];omega
theorem Jg{H:Hp}:∀{its:List (Addr×List Int)},(∀p∈its,SqT K H p.1 (p.2.map V.int))->bL K H (its.map fun p=>V.ref p.1) ((its.map fun p=>p.2).map dJ)
 |[],_=> .nil
 |p::its,h=> .cons (.tup (h p jl) (bL.ints _)) (Jg fun q hq=>h q (lZ _ hq))
theorem lg.dv{H:Hp}{r:Addr}{ss:List (List Int)}(h:lg K H r ss):DV K H (.ref r) (.list (ss.map dJ)):=by
 obtain⟨its,h1,h2,h3⟩:=h
 rw[<-h3]
 exact .lst (SqL.of h1) (Jg h2)
theorem uT(n:Int)(ts:List (Int×Int)):(gA n ts).canLay0=true:=by
 show(true&&(PyData.canLayAll0 (ts.map pairD)&&true))=true
 rw[lQ ts];rfl
theorem fW(n:Int)(ts:List (Int×Int)):min (gA n ts).depth (gA n ts).depth<=64:=by
 have:=FJ n ts
 omega
structure Kinds(K:W.Frag)(cs:List Addr)(C:Addr)(bs:List Bool):Prop where
 ok:uh K C
 one:PySem.W.kitOne K (.ref C) (.type "ValueError")=some true
 len:cs.length=9
 get:∀(i:Nat) (c:Addr),cs[i]? =some c->∃b,bs[i]? =some b/\PySem.W.kitOne K (.ref C) (.ref c)=some b
 ady:bs.length=9
theorem cI{c0 c1 c2 c3 c4 c5 c6 c7 c8 C:Addr}{b0 b1 b2 b3 b4 b5 b6 b7 b8:Bool}(ok:uh K C)(one:PySem.W.kitOne K (.ref C) (.type "ValueError")=some true)(k0:PySem.W.kitOne K (.ref C) (.ref c0)=some b0)(k1:PySem.W.kitOne K (.ref C) (.ref c1)=some b1)(k2:PySem.W.kitOne K (.ref C) (.ref c2)=some b2)(k3:PySem.W.kitOne K (.ref C) (.ref c3)=some b3)(k4:PySem.W.kitOne K (.ref C) (.ref c4)=some b4)(k5:PySem.W.kitOne K (.ref C) (.ref c5)=some b5)(k6:PySem.W.kitOne K (.ref C) (.ref c6)=some b6)(k7:PySem.W.kitOne K (.ref C) (.ref c7)=some b7)(k8:PySem.W.kitOne K (.ref C) (.ref c8)=some b8):
  Kinds K [c0,c1,c2,c3,c4,c5,c6,c7,c8] C [b0,b1,b2,b3,b4,b5,b6,b7,b8]:=
 ⟨ok,one,rfl,(fun i c e=>by
  match i,e with
  |0,e=>cases e;exact⟨_,rfl,k0⟩
  |1,e=>cases e;exact⟨_,rfl,k1⟩
  |2,e=>cases e;exact⟨_,rfl,k2⟩
  |3,e=>cases e;exact⟨_,rfl,k3⟩
  |4,e=>cases e;exact⟨_,rfl,k4⟩
  |5,e=>cases e;exact⟨_,rfl,k5⟩
  |6,e=>cases e;exact⟨_,rfl,k6⟩
  |7,e=>cases e;exact⟨_,rfl,k7⟩
  |8,e=>cases e;exact⟨_,rfl,k8⟩
  |_+9,e=>cases e),rfl⟩
def Je(K:W.Frag)(cs:List Addr):Sp:=fun vs H Q _=>∃(a C:Addr) (bs:List Bool),vs=[.ref a]/\H a=some (bY a C)/\Kinds K cs C bs/\∀r H',Same H H'->H' r=some (.lst (bs.map V.bl))->Q (.ref r) H'
theorem vW:FnScope ["e","kinds"] ["e"] (defScope Ue):=fsc
theorem O9{f c0 c1 c2 c3 c4 c5 c6 c7 c8:Addr}{fd:FuncData}(F:Fun K "_law_b_kinds" "_law_b_kinds" Ue f fd)(mi:mg "isinstance"=none)(m0:mg "NoFold"=some (.ref c0))(m1:mg "NoNumber"=some (.ref c1))(m2:mg "NoPlace"=some (.ref c2))(m3:mg "NoRow"=some (.ref c3))(m4:mg "NoText"=some (.ref c4))(m5:mg "NoTie"=some (.ref c5))(m6:mg "NoWants"=some (.ref c6))(m7:mg "NoWeb"=some (.ref c7))(m8:mg "TooMany"=some (.ref c8)):
  FnOk P w K mg base CX0 1 f fd ["e"] (Je K [c0,c1,c2,c3,c4,c5,c6,c7,c8]):=by
 refine F.ok vW (fun vs H Q E h=> ?_) (fun cdv A outer s H vs Q E hr h=> ?_)
 ·obtain⟨a,C,bs,rfl,_⟩:=h
  rfl
 obtain⟨a,C,bs,rfl,hA,hK,q⟩:=h
 refine⟨_,bh (gG (i:=1) vW.nd rfl (Or.inl rfl) (pe_lst (aj (dF QW rfl mi (by decide+kernel) (aj (pv 0) (aj (CG rfl m0 (v:= .ref c0) rfl) ak))) (aj (dF QW rfl mi (by decide+kernel) (aj (pv 0) (aj (CG rfl m1 (v:= .ref c1) rfl) ak)))
   (aj (dF QW rfl mi (by decide+kernel) (aj (pv 0) (aj (CG rfl m2 (v:= .ref c2) rfl) ak))) (aj (dF QW rfl mi (by decide+kernel) (aj (pv 0) (aj (CG rfl m3 (v:= .ref c3) rfl) ak))) ak)))))) (bh (gG (i:=1) vW.nd rfl (Or.inl rfl) (fQ op_cat (pv 1) (pe_lst (aj (dF QW rfl mi (by decide+kernel) (aj (pv 0) (aj (CG rfl m4 (v:= .ref c4) rfl) ak))) (aj (dF QW rfl mi (by decide+kernel) (aj (pv 0) (aj (CG rfl m5 (v:= .ref c5) rfl) ak)))
   (aj (dF QW rfl mi (by decide+kernel) (aj (pv 0) (aj (CG rfl m6 (v:= .ref c6) rfl) ak))) (aj (dF QW rfl mi (by decide+kernel) (aj (pv 0) (aj (CG rfl m7 (v:= .ref c7) rfl) ak))) ak))))))) (bB (bV (fQ op_cat (pv 1) (pe_lst (aj (dF QW rfl mi (by decide+kernel) (aj (pv 0) (aj (CG rfl m8 (v:= .ref c8) rfl) ak))) ak)))))),?_⟩
 obtain⟨b0,e0,k0⟩:=hK.get 0 _ rfl
 obtain⟨b1,e1,k1⟩:=hK.get 1 _ rfl
 obtain⟨b2,e2,k2⟩:=hK.get 2 _ rfl
 obtain⟨b3,e3,k3⟩:=hK.get 3 _ rfl
 obtain⟨b4,e4,k4⟩:=hK.get 4 _ rfl
 obtain⟨b5,e5,k5⟩:=hK.get 5 _ rfl
 obtain⟨b6,e6,k6⟩:=hK.get 6 _ rfl
 obtain⟨b7,e7,k7⟩:=hK.get 7 _ rfl
 obtain⟨b8,e8,k8⟩:=hK.get 8 _ rfl
 have hbs:bs=[b0,b1,b2,b3,b4,b5,b6,b7,b8]:=by
  refine List.ext_getElem? fun i=> ?_
  by_cases hi:i<9
  ·match i,hi with
   |0,_=>exact e0
   |1,_=>exact e1
   |2,_=>exact e2
   |3,_=>exact e3
   |4,_=>exact e4
   |5,_=>exact e5
   |6,_=>exact e6
   |7,_=>exact e7
   |8,_=>exact e8
  ·rw[wff (by have:=hK.ady;omega),wff (by show 9<=i;omega)]
 have ok:=hK.ok
 refine⟨_,rfl,a,C,c0,b0,rfl,hA,ok,k0,_,rfl,a,C,c1,b1,rfl,hA,ok,k1,_,rfl,a,C,c2,b2,rfl,hA,ok,k2,_,rfl,a,C,c3,b3,rfl,hA,ok,k3,(by show 4<=sizeLine;decide),fun l hl=> ?_⟩
 have s1:=aR hl (.lst [.bl b0,.bl b1,.bl b2,.bl b3])
 have vh:=s1 _ _ hA
 refine⟨_,rfl,_,rfl,a,C,c4,b4,rfl,vh,ok,k4,_,rfl,a,C,c5,b5,rfl,vh,ok,k5,_,rfl,a,C,c6,b6,rfl,vh,ok,k6,_,rfl,a,C,c7,b7,rfl,vh,ok,k7,(by show 4<=sizeLine;decide),fun l2 hl2=> ?_⟩
 have s2:=aR hl2 (.lst [.bl b4,.bl b5,.bl b6,.bl b7])
 refine⟨l,l2,_,_,rfl,rfl,s2 _ _ aM,aM,(by show 8<=sizeLine;decide),fun l3 hl3=> ?_⟩
 have s3:=aR hl3 (.lst ([.bl b0,.bl b1,.bl b2,.bl b3]++[.bl b4,.bl b5,.bl b6,.bl b7]))
 have YM:=s3 _ _ (s2 _ _ vh)
 refine⟨_,rfl,_,rfl,a,C,c8,b8,rfl,YM,ok,k8,(by show 1<=sizeLine;decide),fun l4 YG=> ?_⟩
 have s4:=aR YG (.lst [.bl b8])
 refine⟨l3,l4,_,_,rfl,rfl,s4 _ _ aM,aM,(by show 9<=sizeLine;decide),fun l5 hl5=> ?_⟩
 have s5:=aR hl5 (.lst (([.bl b0,.bl b1,.bl b2,.bl b3]++[.bl b4,.bl b5,.bl b6,.bl b7])++[.bl b8]))
 refine q l5 _ (s1.trans (s2.trans (s3.trans (s4.trans s5)))) ?_
 rw[hbs]
 exact aM
theorem V2{n:Int}{c:List Int}(nd:c.Nodup)(lt:∀y∈c,0<=y/\y<n)(h1:n<=10):c.length<=10:=by
 have h1:Sub n.toNat c:=⟨nd,fun i hi=>by have:=lt i hi;omega⟩
 have:=h1.len
 omega
theorem yt{n:Int}{ts:List (Int×Int)}{os:List Int}(h:bQ n ts os []):¬Cr n ts:=fun⟨c,hb,hc⟩=>h.VR hb hc
theorem Sq{p q:Int×Int}(h:gQ p q):HT.lexLt (pl q) (pl p)=false:=by
 rw[HT.bF]
 refine gB fun z=> ?_
 have:gQ q p:=BW (by rw[HT.bF];exact cJ z)
 exact gQ.K5 (h.trans this)
theorem mZ{n:Int}{ts:List (Int×Int)}{i:Nat}(h0:0<=n)(h1:n<=10)(h:ts.Sublist (rows tt n i)):aG n ts/\mV n ts:=by
 have hs:ts.Pairwise gQ:=(Vj tt n i).sublist h
 have ho:aG n ts:=⟨lK hs,fun p hp=>(Jk (so:=tt) (m:=n) (i:=i)).lt p (h.subset hp)⟩
 exact⟨ho,Vq h0 h1 ho (hs.imp Sq)⟩
theorem sub_len{n:Int}{ts:List (Int×Int)}{i k:Nat}(h1:n<=10)(hk:0+(i:Int)+1+(k:Int)<=n)(h:ts.Sublist (rows tt n i++row tt (0+(i:Int)) k)):ts.length<=45:=by
 refine pairs_len (n:=n) ⟨?_,fun p hp=> ?_⟩ h1
 ·refine lK (List.Pairwise.sublist h ?_)
  rw[Xp]
  refine⟨Vj _ _ _,v7 _ _ _,fun p hp q hq=> ?_⟩
  rw[JL]at hp
  rw[u6]at hq
  exact .inl (by omega)
 ·rcases fj.mp (h.subset hp)with q|q
  ·rw[JL]at q;exact⟨q.1,q.2.2.1,q.2.2.2.1⟩
  ·rw[u6]at q;exact⟨by omega,by omega,by omega⟩
theorem nq{d:PyData}(h:d.canLay0=true){A B:Prop}(hB:B):if(!PyData.eqv d d)=true then A else B:=by rw[PySem.SeqAt.eqv_refl d h];exact iteF hB
theorem eqq{d:PyData}(h:d.canLay0=true):PyData.eqv d d=true:=PySem.SeqAt.eqv_refl d h
theorem Bk(s:List Int):min (dJ s).depth (dJ s).depth<=64:=by have:=Dj s;omega
theorem Dg(ss:List (List Int)):min (PyData.list (ss.map dJ)).depth (PyData.list (ss.map dJ)).depth<=64:=by
 have:(PyData.list (ss.map dJ)).depth=PyData.depthAll (ss.map dJ)+1:=rfl
 have:=vU ss
 omega
theorem eX(ss:List (List Int)):(PyData.list (ss.map dJ)).canLay0=true:=Di ss
theorem rN{H:Hp}{r:Addr}{s:List Int}(h:SqT K H r (s.map V.int)):DV K H (.ref r) (dJ s):= .tup h (bL.ints _)
theorem Jh{n:Int}(h:2<=n):rB n [0,1]:=⟨by decide,fun x hx=>by simp only[cT,wcz,or_false]at hx;rcases hx with rfl|rfl<;>omega⟩
theorem Ye{n:Int}(h:2<=n):rB n [1]:=⟨by decide,fun x hx=>by simp only[cT,wcz,or_false]at hx;subst hx;omega⟩
def Jc(K:W.Frag):Sp:=fun vs H Q _=>∃(a:Addr) (n:Int) (ts:List (Int×Int)),vs=[.ref a]/\bA K H a n ts/\2<=n/\∀H',Same H H'->Q (.bl true) H'
theorem Ob:FnScope ["net"] ["net"] (defScope Uo):=fsc
theorem OJ{f f1 f2 f3 f4 f5 f6 f7 f8 f9:Addr}{fd d1 d2 d3 d4 d5 d6 d7 d8 d9:FuncData}(F:Fun K "_law_b_sets_right" "_law_b_sets_right" Uo f fd)(D1:aL K mg "are_tied" T6 ["web","one","other"] f1 d1)(G1':FnOk P w K mg base CX0 8 f1 d1 ["web","one","other"] (FW K))(D2:aL K mg "is_web" cU ["thing"] f2 d2)(Wq:FnOk P w K mg base CX0 6 f2 d2 ["thing"] (Ja K))(D3:aL K mg "is_apart" T9 ["web","some"] f3 d3)(G3':FnOk P w K mg base CX0 8 f3 d3 ["web","some"] (rQ K))(D4:aL K mg "neighbours" Rk ["web","place"] f4 d4)(Z6:FnOk P w K mg base CX0 8 f4 d4 ["web","place"] (uY K))(D5:aL K mg "full_apart" Rh ["web"] f5 d5)(G5':FnOk P w K mg base CX0 8 f5 d5 ["web"] (fY K))(D6:aL K mg "is_crowd" Ua ["web","some"] f6 d6)(G6':FnOk P w K mg base CX0 8 f6 d6 ["web","some"] (rP K))(D7:aL K mg "greatest_apart" Ul ["web"] f7 d7)(G7:FnOk P w K mg base CX0 9 f7 d7 ["web"] (Dc K))(D8:aL K mg "full_crowds" Rm ["web"] f8 d8)(G8':FnOk P w K mg base CX0 8 f8 d8 ["web"] (eG K))(D9:aL K mg "greatest_crowd" Rr ["web"] f9 d9)(G9:FnOk P w K mg base CX0 9 f9 d9 ["web"] (vM K)):
  FnOk P w K mg base CX0 10 f fd ["net"] (Jc K):=by
 have G1:FnOk P w K mg base CX0 9 f1 d1 ["web","one","other"] (FW K):=G1'.mono (by decide)
 have G2:FnOk P w K mg base CX0 9 f2 d2 ["thing"] (Ja K):=Wq.mono (by decide)
 have G3:FnOk P w K mg base CX0 9 f3 d3 ["web","some"] (rQ K):=G3'.mono (by decide)
 have G4:FnOk P w K mg base CX0 9 f4 d4 ["web","place"] (uY K):=Z6.mono (by decide)
 have G5:FnOk P w K mg base CX0 9 f5 d5 ["web"] (fY K):=G5'.mono (by decide)
 have G6:FnOk P w K mg base CX0 9 f6 d6 ["web","some"] (rP K):=G6'.mono (by decide)
 have G8:FnOk P w K mg base CX0 9 f8 d8 ["web"] (eG K):=G8'.mono (by decide)
 refine F.ok Ob (fun vs H Q E h=> ?_) (fun cdv A outer s H vs Q E hr h=> ?_)
 ·obtain⟨a,n,ts,rfl,_⟩:=h
  rfl
 obtain⟨a,n,ts,rfl,hA,h2,q⟩:=h
 refine⟨_,(bh (ps_if (PW.pt (pw_or (iW Kr (yQ G2 hr rfl D2.m D2.F.kp (D2.kb fun _ _ _ _ _ _=>Rb fun _=>rfl) pass0 (lW (pv 0) yP)) pe_bl (nomark _)) (pw_or1 (iW (cX hr.units) (yQ G1 hr rfl D1.m D1.F.kp (D1.kb fun _ _ _ _ _ _=>rn3 fun _ _ _=>rfl) pass0 (lW aY (lW aY (lW (pv 0) yP)))) (pc G1 hr D1 (aj (pv 0) (aj aY (aj aY ak)))) (nomark _))))) (bB (bV pe_bl)) ur) (bh (ps_if (PW.pt (pw_or (iW (cX hr.units) (yQ G4 hr rfl D4.m D4.F.kp (D4.kb fun _ _ _ _ _ _=>Ra fun _ _=>rfl) pass0 (lW aY (lW (pv 0) yP))) (pc G4 hr D4 (aj (pv 0) (aj aY ak))) (nomark _)) (pw_or1 (iW (cX hr.units) (yQ G3 hr rfl D3.m D3.F.kp (D3.kb fun _ _ _ _ _ _=>Ra fun _ _=>rfl) pass0 (lW (gH (aj aY (aj aY ak))) (lW (pv 0) yP))) (pc G3 hr D3 (aj (pv 0) (aj (gH (aj aY (aj aY ak))) ak))) (nomark _))))) (bB (bV pe_bl)) ur) (bh (ps_if (PW.pt (pw_or (iW (cX hr.units) (yQ G6 hr rfl D6.m D6.F.kp (D6.kb fun _ _ _ _ _ _=>Ra fun _ _=>rfl) pass0 (lW (gH (aj aY (aj aY ak))) (lW (pv 0) yP))) (pc G6 hr D6 (aj (pv 0) (aj (gH (aj aY (aj aY ak))) ak))) (nomark _)) (pw_or1 (iW (cX hr.units) (yQ G5 hr rfl D5.m D5.F.kp (D5.kb fun _ _ _ _ _ _=>Rb fun _=>rfl) pass0 (lW (pv 0) yP)) (pc G5 hr D5 (aj (pv 0) ak)) (nomark _))))) (bB (bV pe_bl)) ur) (bh (ps_if (PW.pt (pw_or (iW (cX hr.units) (yQ G8 hr rfl D8.m D8.F.kp (D8.kb fun _ _ _ _ _ _=>Rb fun _=>rfl) pass0 (lW (pv 0) yP)) (pc G8 hr D8 (aj (pv 0) ak)) (nomark _)) (pw_or1 (iW (cX hr.units) (yQ G7 hr rfl D7.m D7.F.kp (D7.kb fun _ _ _ _ _ _=>Rb fun _=>rfl) pass0 (lW (pv 0) yP)) (pc G7 hr D7 (aj (pv 0) ak)) (nomark _))))) (bB (bV pe_bl)) ur) (bB (bV (Fo (Gy hr.units) (yQ G9 hr rfl D9.m D9.F.kp (D9.kb fun _ _ _ _ _ _=>Rb fun _=>rfl) pass0 (lW (pv 0) yP)) (pc G9 hr D9 (aj (pv 0) ak)) (nomark _)))))))),?_⟩
 refine⟨_,rfl,.ref a,gA n ts,rfl,hA.web.dv.dx,fun H1 s1=>⟨_,_,rfl,rfl,_,rfl,?_⟩⟩
 rw[show vq (gA n ts)=true from hA.ok]
 refine iteF ?_
 have A1:=hA.same s1
 refine⟨_,rfl,a,n,0,1,ts,rfl,A1.web,A1.ok,⟨by omega,by omega⟩,⟨by omega,by omega⟩,fun H2 s2=> ?_⟩
 have A2:=A1.same s2
 refine⟨_,rfl,a,n,0,1,ts,rfl,A2.web,A2.ok,⟨by omega,by omega⟩,⟨by omega,by omega⟩,fun H3 s3=>⟨_,_,.bl _,.bl _,rfl,rfl,(by show min 0 0<=64;decide),_,rfl,nq rfl ?_⟩⟩
 have A3:=A2.same s3
 refine⟨_,rfl,a,n,1,ts,rfl,A3.web,A3.ok,⟨by omega,by omega⟩,A3.h1,fun r4 H4 s4 e4=> ?_⟩
 have A4:=A3.same s4
 refine⟨_,rfl,a,n,1,ts,rfl,A4.web,A4.ok,⟨by omega,by omega⟩,A4.h1,fun r5 H5 s5 e5=>⟨_,_,rN (SqT.of (s5 _ _ e4)),rN (SqT.of e5),QZ _,QZ _,Bk _,_,rfl,nq (QZ _) ?_⟩⟩
 have A5:=A4.same s5
 refine⟨(by show 2<=sizeLine;decide),fun p6 h6=> ?_⟩
 have z6:=aR h6 (.tup [.int 0,.int 1])
 have A6:=A5.same z6
 refine⟨_,rfl,a,p6,n,ts,[0,1],rfl,A6,SqT.of aM,Jh h2,fun H7 s7=> ?_⟩
 have A7:=A6.same s7
 refine⟨_,rfl,(by show 2<=sizeLine;decide),fun p8 h8=> ?_⟩
 have z8:=aR h8 (.tup [.int 0,.int 1])
 have A8:=A7.same z8
 refine⟨a,p8,n,ts,[0,1],rfl,A8,SqT.of aM,Jh h2,fun H9 s9=>⟨_,_,.bl _,.bl _,rfl,rfl,(by show min 0 0<=64;decide),_,rfl,nq rfl ?_⟩⟩
 have A9:=A8.same s9
 refine⟨(by show 2<=sizeLine;decide),fun p10 h10=> ?_⟩
 have Ut:=aR h10 (.tup [.int 0,.int 1])
 have A10:=A9.same Ut
 refine⟨_,rfl,a,p10,n,ts,[0,1],rfl,A10,SqT.of aM,Jh h2,fun H11 WY=> ?_⟩
 have A11:=A10.same WY
 refine⟨_,rfl,(by show 2<=sizeLine;decide),fun p12 h12=> ?_⟩
 have Ws:=aR h12 (.tup [.int 0,.int 1])
 have A12:=A11.same Ws
 refine⟨a,p12,n,ts,[0,1],rfl,A12,SqT.of aM,Jh h2,fun H13 RQ=>⟨_,_,.bl _,.bl _,rfl,rfl,(by show min 0 0<=64;decide),_,rfl,nq rfl ?_⟩⟩
 have A13:=A12.same RQ
 refine⟨_,rfl,a,n,ts,rfl,A13,fun r14 agK H14 Yg e14 Xh _=> ?_⟩
 have A14:=A13.same Yg
 refine⟨_,rfl,a,n,ts,rfl,A14,fun r15 agJ H15 U4 e15 Xg _=> ?_⟩
 obtain rfl:=nH Xh Xg
 have A15:=A14.same U4
 refine⟨_,_,(e14.same U4).dv,e15.dv,eX _,eX _,Dg _,_,rfl,nq (eX _) ?_⟩
 refine⟨_,rfl,a,n,ts,rfl,A15,fun r16 agI H16 U3 e16 Xf _=> ?_⟩
 have A16:=A15.same U3
 refine⟨_,rfl,a,n,ts,rfl,A16,fun r17 agH H17 s17 e17 Xe _=> ?_⟩
 obtain rfl:=nH Xf Xe
 have A17:=A16.same s17
 refine⟨_,_,(e16.same s17).dv,e17.dv,eX _,eX _,Dg _,_,rfl,nq (eX _) ?_⟩
 refine⟨_,rfl,a,n,ts,rfl,A17,fun r18 agG H18 s18 e18 Xd=> ?_⟩
 have A18:=A17.same s18
 refine⟨_,rfl,a,n,ts,rfl,A18,fun r19 agF H19 s19 e19 Xc=> ?_⟩
 obtain rfl:=wz Xd Xc
 have A19:=A18.same s19
 refine⟨_,_,rN (s19.tup e18),rN e19,QZ _,QZ _,Bk _,_,rfl,nq (QZ _) ?_⟩
 refine⟨_,rfl,a,n,ts,rfl,A19,fun r20 agE H20 s20 e20 Xb=> ?_⟩
 have A20:=A19.same s20
 refine⟨_,rfl,a,n,ts,rfl,A20,fun r21 agD H21 s21 e21 Xa=> ?_⟩
 obtain rfl:=wz Xb Xa
 refine⟨_,_,rN (s21.tup e20),rN e21,QZ _,QZ _,Bk _,?_⟩
 rw[eqq (QZ _)]
 exact q _ (s1.trans (s2.trans (s3.trans (s4.trans (s5.trans (z6.trans (s7.trans (z8.trans (s9.trans (Ut.trans (WY.trans (Ws.trans (RQ.trans (Yg.trans (U4.trans (U3.trans (s17.trans (s18.trans (s19.trans (s20.trans s21))))))))))))))))))))
theorem zQ:([(0,1)]:List (Int×Int)).Sublist (rows tt 2 (2:Int).toNat):=by rw[show rows tt 2 (2:Int).toNat=[(0,1)]from by decide+kernel];exact List.Sublist.refl _
theorem N5{H:Hp}{p1 p2 p3:Addr}(h1:SqT K H p1 [.int 0,.int 1])(h2:SqT K H p2 [.ref p1])(h3:SqT K H p3 [.int 2,.ref p2]):bA K H p3 2 [(0,1)]:=
 ⟨⟨p2,[.ref p1],h3,h2,.cons (.tup h1 (.cons (.int _) (.cons (.int _) .nil))) .nil⟩,by decide,by decide,(mZ (by decide) (by decide) zQ).1,(mZ (by decide) (by decide) zQ).2⟩
def Jd(K:W.Frag):Sp:=fun vs H Q _=>∃(a:Addr) (n:Int) (ts:List (Int×Int)),vs=[.ref a]/\bA K H a n ts/\2<=n/\n<=5/\∀H',Same H H'->Q (.bl true) H'
theorem Dl:FnScope ["net","small"] ["net"] (defScope Um):=fsc
theorem O8{f f1 f2 f3 f4 f5 f6 f7 f8:Addr}{fd d1 d2 d3 d4 d5 d6 d7 d8:FuncData}(F:Fun K "_law_b_made_right" "_law_b_made_right" Um f fd)(D1:aL K mg "across" dO ["one","other"] f1 d1)(G1:FnOk P w K mg base CX0 9 f1 d1 ["one","other"] (Df K))(D2:aL K mg "beside" cW ["one","other"] f2 d2)(Wq:FnOk P w K mg base CX0 8 f2 d2 ["one","other"] (qC K))(D3:aL K mg "other_web" Ub ["web"] f3 d3)(G3':FnOk P w K mg base CX0 8 f3 d3 ["web"] (Bc K))(D4:aL K mg "within" dN ["one","other"] f4 d4)(Z6:FnOk P w K mg base CX0 8 f4 d4 ["one","other"] (vJ K))(D5:aL K mg "grown" gj ["web"] f5 d5)(G5':FnOk P w K mg base CX0 8 f5 d5 ["web"] (Bf K))(D6:aL K mg "cut_down" T8 ["web","some"] f6 d6)(G6':FnOk P w K mg base CX0 8 f6 d6 ["web","some"] (NZ K))(D7:aL K mg "picks" fZ ["m","k"] f7 d7)(G7':FnOk P w K mg base CX0 3 f7 d7 ["m","k"] (Bb K))(D8:aL K mg "ring" jo ["n"] f8 d8)(G8':FnOk P w K mg base CX0 3 f8 d8 ["n"] (Ba K)):
  FnOk P w K mg base CX0 10 f fd ["net"] (Jd K):=by
 have G2:FnOk P w K mg base CX0 9 f2 d2 ["one","other"] (qC K):=Wq.mono (by decide)
 have G3:FnOk P w K mg base CX0 9 f3 d3 ["web"] (Bc K):=G3'.mono (by decide)
 have G4:FnOk P w K mg base CX0 9 f4 d4 ["one","other"] (vJ K):=Z6.mono (by decide)
 have G5:FnOk P w K mg base CX0 9 f5 d5 ["web"] (Bf K):=G5'.mono (by decide)
 have G6:FnOk P w K mg base CX0 9 f6 d6 ["web","some"] (NZ K):=G6'.mono (by decide)
 have G7:FnOk P w K mg base CX0 9 f7 d7 ["m","k"] (Bb K):=G7'.mono (by decide)
 have G8:FnOk P w K mg base CX0 9 f8 d8 ["n"] (Ba K):=G8'.mono (by decide)
 refine F.ok Dl (fun vs H Q E h=> ?_) (fun cdv A outer s H vs Q E hr h=> ?_)
 ·obtain⟨a,n,ts,rfl,_⟩:=h
  rfl
 obtain⟨a,n,ts,rfl,hA,h2,h5,q⟩:=h
 refine⟨_,(bh (gG (i:=1) Dl.nd rfl (Or.inl rfl) (gH (aj aY (aj (gH (aj (gH (aj aY (aj aY ak))) ak)) ak)))) (bh (ps_if (PW.pt (pw_or (iW (cX hr.units) (yQ G2 hr rfl D2.m D2.F.kp (D2.kb fun _ _ _ _ _ _=>Ra fun _ _=>rfl) pass0 (lW (pv 1) (lW (pv 0) yP))) (pc G2 hr D2 (aj (pv 0) (aj (pv 1) ak))) (nomark _)) (pw_or1 (iW (cX hr.units) (yQ G1 hr rfl D1.m D1.F.kp (D1.kb fun _ _ _ _ _ _=>Ra fun _ _=>rfl) pass0 (lW (pv 1) (lW (pv 0) yP))) (pc G1 hr D1 (aj (pv 0) (aj (pv 1) ak))) (nomark _))))) (bB (bV pe_bl)) ur) (bh (ps_if (PW.pt (pw_or (iW (cX hr.units) (yQ G4 hr rfl D4.m D4.F.kp (D4.kb fun _ _ _ _ _ _=>Ra fun _ _=>rfl) pass0 (lW (pv 1) (lW (pv 0) yP))) (pc G4 hr D4 (aj (pv 0) (aj (pv 1) ak))) (nomark _)) (pw_or1 (iW (cX hr.units) (yQ G3 hr rfl D3.m D3.F.kp (D3.kb fun _ _ _ _ _ _=>Rb fun _=>rfl) pass0 (lW (pv 0) yP)) (pc G3 hr D3 (aj (pv 0) ak)) (nomark _))))) (bB (bV pe_bl)) ur) (bh (ps_if (PW.pt (pw_or (iW (cX hr.units) (yQ G6 hr rfl D6.m D6.F.kp (D6.kb fun _ _ _ _ _ _=>Ra fun _ _=>rfl) pass0 (lW (gH (aj aY ak)) (lW (pv 0) yP))) (pc G6 hr D6 (aj (pv 0) (aj (gH (aj aY ak)) ak))) (nomark _)) (pw_or1 (iW (cX hr.units) (yQ G5 hr rfl D5.m D5.F.kp (D5.kb fun _ _ _ _ _ _=>Rb fun _=>rfl) pass0 (lW (pv 1) yP)) (pc G5 hr D5 (aj (pv 1) ak)) (nomark _))))) (bB (bV pe_bl)) ur) (bB (bV (pe_and (Fo (Gy hr.units) (yQ G8 hr rfl D8.m D8.F.kp (D8.kb fun _ _ _ _ _ _=>Rb fun _=>rfl) pass0 (lW aY yP)) (pc G8 hr D8 (aj aY ak)) (nomark _)) (pe_one (Fo (Gy hr.units) (yQ G7 hr rfl D7.m D7.F.kp (D7.kb fun _ _ _ _ _ _=>Ra fun _ _=>rfl) pass0 (lW aY (lW aY yP))) (pc G7 hr D7 (aj aY (aj aY ak))) (nomark _)))))))))),?_⟩
 refine⟨(by show 2<=sizeLine;decide),fun p1 h1=>⟨(by show 1<=sizeLine;decide),fun p2 h2'=>⟨(by show 2<=sizeLine;decide),fun p3 h3=> ?_⟩⟩⟩
 have z1:=aR h1 (.tup [.int 0,.int 1])
 have z2:=aR h2' (.tup [.ref p1])
 have z3:=aR h3 (.tup [.int 2,.ref p2])
 have S0:=N5 (K:=K) ((z2.trans z3).tup (SqT.of (aM (H:=H)))) (z3.tup (SqT.of aM)) (SqT.of aM)
 have z0:=z1.trans (z2.trans z3)
 have A0:=hA.same z0
 generalize (upd (upd (upd H p1 (.tup [.int 0,.int 1])) p2 (.tup [.ref p1])) p3 (.tup [.int 2,.ref p2]))=H0 at *
 refine⟨_,rfl,_,rfl,a,p3,n,2,ts,[(0,1)],rfl,A0.web,S0.web,A0.ok,S0.ok,A0.len,S0.len,by omega,fun r1 H1 s1 W1=> ?_⟩
 have A1:=A0.same s1
 have S1:=S0.same s1
 refine⟨_,rfl,_,rfl,a,p3,n,2,ts,[(0,1)],rfl,A1.web,S1.web,A1.ok,S1.ok,A1.len,S1.len,by omega,fun r2 H2 s2 W2=> ?_⟩
 have A2:=A1.same s2
 have S2:=S1.same s2
 refine⟨_,_,(cF.same W1 s2).dv,W2.dv,uT _ _,uT _ _,fW _ _,_,rfl,nq (uT _ _) ?_⟩
 refine⟨_,rfl,_,rfl,a,p3,n,2,ts,[(0,1)],rfl,A2.web,S2.web,A2.ok,S2.ok,A2.pk,S2.pk,A2.h0,S2.h0,by omega,fun r3 H3 s3 W3=> ?_⟩
 have A3:=A2.same s3
 have S3:=S2.same s3
 refine⟨_,rfl,_,rfl,a,p3,n,2,ts,[(0,1)],rfl,A3.web,S3.web,A3.ok,S3.ok,A3.pk,S3.pk,A3.h0,S3.h0,by omega,fun r4 H4 s4 W4=> ?_⟩
 have A4:=A3.same s4
 have S4:=S3.same s4
 refine⟨_,_,(cF.same W3 s4).dv,W4.dv,uT _ _,uT _ _,fW _ _,_,rfl,nq (uT _ _) ?_⟩
 refine⟨_,rfl,_,rfl,a,p3,n,2,ts,[(0,1)],rfl,A4,S4,by omega,fun r5 H5 s5 W5=> ?_⟩
 have A5:=A4.same s5
 have S5:=S4.same s5
 refine⟨_,rfl,_,rfl,a,p3,n,2,ts,[(0,1)],rfl,A5,S5,by omega,fun r6 H6 s6 W6=> ?_⟩
 have A6:=A5.same s6
 have S6:=S5.same s6
 refine⟨_,_,(cF.same W5 s6).dv,W6.dv,uT _ _,uT _ _,fW _ _,_,rfl,nq (uT _ _) ?_⟩
 refine⟨_,rfl,a,n,ts,rfl,A6,fun r7 H7 s7 W7=> ?_⟩
 have A7:=A6.same s7
 have S7:=S6.same s7
 refine⟨_,rfl,a,n,ts,rfl,A7,fun r8 H8 s8 W8=> ?_⟩
 have A8:=A7.same s8
 have S8:=S7.same s8
 refine⟨_,_,(cF.same W7 s8).dv,W8.dv,uT _ _,uT _ _,fW _ _,_,rfl,nq (uT _ _) ?_⟩
 refine⟨(by show 1<=sizeLine;decide),fun pa ha=> ?_⟩
 have za:=aR ha (.tup [.int 1])
 have Aa:=A8.same za
 have Sa:=S8.same za
 refine⟨_,rfl,a,pa,n,ts,[1],rfl,Aa,SqT.of aM,Ye h2,fun r9 H9 s9 W9=> ?_⟩
 have A9:=Aa.same s9
 have S9:=Sa.same s9
 refine⟨_,rfl,(by show 1<=sizeLine;decide),fun pb hb=> ?_⟩
 have zb:=aR hb (.tup [.int 1])
 have Ab:=A9.same zb
 have Sb:=S9.same zb
 refine⟨a,pb,n,ts,[1],rfl,Ab,SqT.of aM,Ye h2,fun r10 H10 s10 W10=> ?_⟩
 have A10:=Ab.same s10
 have S10:=Sb.same s10
 refine⟨_,_,(cF.same W9 (zb.trans s10)).dv,W10.dv,uT _ _,uT _ _,fW _ _,_,rfl,nq (uT _ _) ?_⟩
 refine⟨_,rfl,p3,2,[(0,1)],rfl,S10,by decide,fun r11 H11 WY W11=> ?_⟩
 have A11:=A10.same WY
 have S11:=S10.same WY
 refine⟨_,rfl,p3,2,[(0,1)],rfl,S11,by decide,fun r12 H12 s12 W12=> ?_⟩
 have A12:=A11.same s12
 have S12:=S11.same s12
 refine⟨_,_,(cF.same W11 s12).dv,W12.dv,uT _ _,uT _ _,fW _ _,_,rfl,nq (uT _ _) ?_⟩
 refine⟨5,rfl,by decide,by decide,fun r13 H13 RQ W13=>⟨5,rfl,by decide,by decide,fun r14 H14 Yg W14=>⟨_,_,(cF.same W13 Yg).dv,W14.dv,uT _ _,uT _ _,fW _ _,?_⟩⟩⟩
 rw[eqq (uT _ _)]
 refine⟨_,rfl,iteT ?_⟩
 refine⟨4,2,rfl,by decide,by decide,by decide,by decide,by decide+kernel,fun r15 H15 U4 W15=>⟨4,2,rfl,by decide,by decide,by decide,by decide,by decide+kernel,fun r16 H16 U3 W16=>⟨_,_,(cF.same W15 U3).dv,W16.dv,uT _ _,uT _ _,fW _ _,?_⟩⟩⟩
 rw[eqq (uT _ _)]
 exact q _ (z0.trans (s1.trans (s2.trans (s3.trans (s4.trans (s5.trans (s6.trans (s7.trans (s8.trans (za.trans (s9.trans (zb.trans (s10.trans (WY.trans (s12.trans (RQ.trans (Yg.trans (U4.trans U3))))))))))))))))))
def Dd(K:W.Frag):Sp:=fun vs H Q _=>∃(a:Addr) (n:Int) (ts:List (Int×Int)),vs=[.ref a]/\bA K H a n ts/\∀H',Same H H'->Q (.bl true) H'
theorem zW:FnScope ["net","told"] ["net"] (defScope Uq):=fsc
theorem KQ{f f1 f2 f3 f4:Addr}{fd d1 d2 d3 d4:FuncData}(F:Fun K "_law_b_folds_right" "_law_b_folds_right" Uq f fd)(D1:aL K mg "fold" iG ["web"] f1 d1)(G1':FnOk P w K mg base CX0 11 f1 d1 ["web"] (Bg K))(D2:aL K mg "is_bare_ring" Ug ["web","some"] f2 d2)(Wq:FnOk P w K mg base CX0 8 f2 d2 ["web","some"] (nG K))(D3:aL K mg "by_fold" cP ["web"] f3 d3)(G3:FnOk P w K mg base CX0 12 f3 d3 ["web"] (zM K))(D4:aL K mg "is_fold" cO ["web","order"] f4 d4)(Z6:FnOk P w K mg base CX0 8 f4 d4 ["web","order"] (vL K)):
  FnOk P w K mg base CX0 13 f fd ["net"] (Dd K):=by
 have G1:FnOk P w K mg base CX0 12 f1 d1 ["web"] (Bg K):=G1'.mono (by decide)
 have G2:FnOk P w K mg base CX0 12 f2 d2 ["web","some"] (nG K):=Wq.mono (by decide)
 have G4:FnOk P w K mg base CX0 12 f4 d4 ["web","order"] (vL K):=Z6.mono (by decide)
 refine F.ok zW (fun vs H Q E h=> ?_) (fun cdv A outer s H vs Q E hr h=> ?_)
 ·obtain⟨a,n,ts,rfl,_⟩:=h
  rfl
 obtain⟨a,n,ts,rfl,hA,q⟩:=h
 refine⟨_,(bh (gG (i:=1) zW.nd rfl (Or.inl rfl) (yQ G1 hr rfl D1.m D1.F.kp (D1.kb fun _ _ _ _ _ _=>Rb fun _=>rfl) pass0 (lW (pv 0) yP))) (bh (ps_if (iW op_ne (cR eZ (pv 1) aY (fun _ _=>rfl)) (cR eZ (pc G1 hr D1 (aj (pv 0) ak)) aY (fun _ _=>rfl)) (nomark _)) (bB (bV pe_bl)) ur) (bh (ps_if (iW op_eq (cR eZ (pv 1) aY (fun _ _=>rfl)) pe_str (nomark _)) (bB (bV (Fo Ow (yQ G2 hr rfl D2.m D2.F.kp (D2.kb fun _ _ _ _ _ _=>Ra fun _ _=>rfl) pass0 (lW (cR eZ (pv 1) aY (fun _ _=>rfl)) (lW (pv 0) yP))) pe_bl (nomark _)))) ur) (bB (bV (pe_and (Fo Ow (yQ G4 hr rfl D4.m D4.F.kp (D4.kb fun _ _ _ _ _ _=>Ra fun _ _=>rfl) pass0 (lW (cR eZ (pv 1) aY (fun _ _=>rfl)) (lW (pv 0) yP))) pe_bl (nomark _)) (pe_one (Fo op_eq (cR eZ (yQ G3 hr rfl D3.m D3.F.kp (D3.kb fun _ _ _ _ _ _=>Rb fun _=>rfl) pass0 (lW (pv 0) yP)) aY (fun _ _=>rfl)) (cR eZ (pc G3 hr D3 (aj (pv 0) ak)) aY (fun _ _=>rfl)) (nomark _))))))))),?_⟩
 have h0:=hA.h0
 have h10:=hA.h1
 refine⟨_,rfl,a,n,ts,rfl,hA,fun r o xs H1 s1 c1 c2 hf=> ?_,fun r l c H1 s1 c1 c2 nl hB hc=> ?_⟩
 ·have no:=yt hf
  have hl:=hf.len
  rw[Rt]at hl
  have A1:=hA.same s1
  refine⟨_,rfl,r,_,_,.str "fold",rfl,rfl,c1,rfl,?_⟩
  refine⟨_,rfl,a,n,ts,rfl,A1,fun r2 o2 xs2 H2 s2 d1 d2 hf2=>⟨r2,_,_,.str "fold",rfl,rfl,d1,rfl,rfl,_,rfl,?_⟩,fun r2 l2 c' H2 s2 d1 d2 nl2 hB2 hc2=>(no ⟨c',hB2,hc2⟩).elim⟩
  refine iteF ?_
  have e1:=s2.tup c1
  have A2:=A1.same s2
  refine⟨_,rfl,r,_,_,.str "fold",rfl,rfl,e1,rfl,rfl,_,rfl,Nu (by decide) ?_⟩
  refine⟨_,rfl,r,_,_,.ref o,rfl,rfl,e1,rfl,_,rfl,a,o,n,ts,xs.map V.int,rfl,A2,s2.tup c2,Wo.ints xs,by rw[aQ];omega,fun H3 s3=>⟨_,_,rfl,rfl,_,rfl,?_⟩⟩
  rw[ud,hf.V3 h0]
  refine iteT ?_
  have A3:=A2.same s3
  refine⟨_,rfl,a,n,ts,rfl,A3,no,fun r4 h4 c4 sL xs4 H4 s4 hR hH hC hm hf4=>⟨r4,_,_,.int sL.length,rfl,rfl,hR,rfl,?_⟩⟩
  have A4:=A3.same s4
  refine⟨_,rfl,a,n,ts,rfl,A4,no,fun r5 h5 c5 sM xs5 H5 s5 hR5 hH5 hC5 hm5 hf5=>⟨r5,_,_,.int sM.length,rfl,rfl,hR5,rfl,rfl,?_⟩⟩
  obtain rfl:=wz hm hm5
  rw[cJ rfl]
  exact q _ (s1.trans (s2.trans (s3.trans (s4.trans s5))))
 ·have yes:Cr n ts:=⟨c,hB,hc⟩
  have hlen:=V2 hB.nd hc h10
  have A1:=hA.same s1
  refine⟨_,rfl,r,_,_,.str "ring",rfl,rfl,c1,rfl,?_⟩
  refine⟨_,rfl,a,n,ts,rfl,A1,fun r2 o2 xs2 H2 s2 d1 d2 hf2=>(yt hf2 yes).elim,fun r2 l2 c' H2 s2 d1 d2 nl2 hB2 hc2=>⟨r2,_,_,.str "ring",rfl,rfl,d1,rfl,rfl,_,rfl,?_⟩⟩
  refine iteF ?_
  have e1:=s2.tup c1
  have A2:=A1.same s2
  refine⟨_,rfl,r,_,_,.str "ring",rfl,rfl,e1,rfl,rfl,_,rfl,str_eq ?_⟩
  refine⟨_,rfl,r,_,_,.ref l,rfl,rfl,e1,rfl,_,rfl,a,l,n,ts,c,rfl,A2,SqL.of (s2 _ _ c2),by omega,fun H3 s3=>⟨_,_,rfl,rfl,?_⟩⟩
  rw[TQ hA.pk hB hc]
  exact q _ (s1.trans (s2.trans s3))
def oneAt(i:Nat):List Bool:=(List.range 9).map fun k=>decide (i=k)
structure Made(K:W.Frag)(cs:List Addr)(cH:Addr):Prop where
 all:∀(i:Nat) (C:Addr),cs[i]? =some C->Kinds K cs C (oneAt i)/\PySem.W.kitOne K (.ref C) (.ref cH)=some true
 hue:Kinds K cs cH (List.replicate 9 false)
theorem Ys{c0 c1 c2 c3 c4 c5 c6 c7 c8 cH:Addr}(k0:Kinds K [c0,c1,c2,c3,c4,c5,c6,c7,c8] c0 (oneAt 0)/\PySem.W.kitOne K (.ref c0) (.ref cH)=some true)(k1:Kinds K [c0,c1,c2,c3,c4,c5,c6,c7,c8] c1 (oneAt 1)/\PySem.W.kitOne K (.ref c1) (.ref cH)=some true)(k2:Kinds K [c0,c1,c2,c3,c4,c5,c6,c7,c8] c2 (oneAt 2)/\PySem.W.kitOne K (.ref c2) (.ref cH)=some true)(k3:Kinds K [c0,c1,c2,c3,c4,c5,c6,c7,c8] c3 (oneAt 3)/\PySem.W.kitOne K (.ref c3) (.ref cH)=some true)(k4:Kinds K [c0,c1,c2,c3,c4,c5,c6,c7,c8] c4 (oneAt 4)/\PySem.W.kitOne K (.ref c4) (.ref cH)=some true)(k5:Kinds K [c0,c1,c2,c3,c4,c5,c6,c7,c8] c5 (oneAt 5)/\PySem.W.kitOne K (.ref c5) (.ref cH)=some true)(k6:Kinds K [c0,c1,c2,c3,c4,c5,c6,c7,c8] c6 (oneAt 6)/\PySem.W.kitOne K (.ref c6) (.ref cH)=some true)(k7:Kinds K [c0,c1,c2,c3,c4,c5,c6,c7,c8] c7 (oneAt 7)/\PySem.W.kitOne K (.ref c7) (.ref cH)=some true)(k8:Kinds K [c0,c1,c2,c3,c4,c5,c6,c7,c8] c8 (oneAt 8)/\PySem.W.kitOne K (.ref c8) (.ref cH)=some true):
  ∀(i:Nat) (C:Addr),[c0,c1,c2,c3,c4,c5,c6,c7,c8][i]? =some C->Kinds K [c0,c1,c2,c3,c4,c5,c6,c7,c8] C (oneAt i)/\PySem.W.kitOne K (.ref C) (.ref cH)=some true:=by
 intro i C e
 match i,e with
 |0,e=>cases e;exact k0
 |1,e=>cases e;exact k1
 |2,e=>cases e;exact k2
 |3,e=>cases e;exact k3
 |4,e=>cases e;exact k4
 |5,e=>cases e;exact k5
 |6,e=>cases e;exact k6
 |7,e=>cases e;exact k7
 |8,e=>cases e;exact k8
 |_+9,e=>cases e
theorem HN{H:Hp}:∀bs:List Bool,bL K H (bs.map V.bl) (bs.map PyData.bool)
 |[]=> .nil
 |b::bs=> .cons (.bl b) (HN bs)
theorem JF:∀bs:List Bool,PyData.canLayAll0 (bs.map PyData.bool)=true
 |[]=>rfl
 |b::bs=>by show(true&&PyData.canLayAll0 (bs.map PyData.bool))=true;rw[JF bs];rfl
theorem yF(bs:List Bool):(PyData.list (bs.map PyData.bool)).canLay0=true:=JF bs
theorem Ak:∀bs:List Bool,PyData.depthAll (bs.map PyData.bool)=0
 |[]=>rfl
 |b::bs=>by show max 0 (PyData.depthAll (bs.map PyData.bool))=0;rw[Ak bs];rfl
theorem TJ(bs:List Bool):min (PyData.list (bs.map PyData.bool)).depth (PyData.list (bs.map PyData.bool)).depth<=64:=by
 have:(PyData.list (bs.map PyData.bool)).depth=PyData.depthAll (bs.map PyData.bool)+1:=rfl
 have:=Ak bs
 omega
def FZ(K:W.Frag):Sp:=fun vs H Q _=>vs=[]/\∀H',Same H H'->Q (.bl true) H'
theorem u5:FnScope ["made","at","e"] [] (defScope Ur):=fsc
theorem R8{f f1 c0 c1 c2 c3 c4 c5 c6 c7 c8 cH:Addr}{bmB:List Value}{B newId initId:String}{fd d1:FuncData}(F:Fun K "_law_b_errors_right" "_law_b_errors_right" Ur f fd)(D1:aL K mg "_law_b_kinds" Ue ["e"] f1 d1)(G1:FnOk P w K mg base CX0 1 f1 d1 ["e"] (Je K [c0,c1,c2,c3,c4,c5,c6,c7,c8]))
  (FB:ExcBaseFacts B newId initId bmB)(MD:Made K [c0,c1,c2,c3,c4,c5,c6,c7,c8] cH)(qO:mg "NoFold"=some (.ref c0))(j5:PySem.W.excIn K c0 bmB newId=true)(gU:PySem.W.keepIn K (.ref c0)=true)(iK:mg "NoNumber"=some (.ref c1))(fJ:PySem.W.excIn K c1 bmB newId=true)(dR:PySem.W.keepIn K (.ref c1)=true)(lO:mg "NoPlace"=some (.ref c2))(gZ:PySem.W.excIn K c2 bmB newId=true)(fH:PySem.W.keepIn K (.ref c2)=true)(vg:mg "NoRow"=some (.ref c3))(qT:PySem.W.excIn K c3 bmB newId=true)(jD:PySem.W.keepIn K (.ref c3)=true)(qN:mg "NoText"=some (.ref c4))(j4:PySem.W.excIn K c4 bmB newId=true)(gR:PySem.W.keepIn K (.ref c4)=true)(vf:mg "NoTie"=some (.ref c5))(qR:PySem.W.excIn K c5 bmB newId=true)(jC:PySem.W.keepIn K (.ref c5)=true)(lN:mg "NoWants"=some (.ref c6))(gY:PySem.W.excIn K c6 bmB newId=true)(fG:PySem.W.keepIn K (.ref c6)=true)(vd:mg "NoWeb"=some (.ref c7))(qQ:PySem.W.excIn K c7 bmB newId=true)(jB:PySem.W.keepIn K (.ref c7)=true)(lM:mg "TooMany"=some (.ref c8))(gW:PySem.W.excIn K c8 bmB newId=true)(fD:PySem.W.keepIn K (.ref c8)=true)(iM:mg "HueError"=some (.ref cH))(fK:PySem.W.excIn K cH bmB newId=true)(dU:PySem.W.keepIn K (.ref cH)=true)(jA:mg "enumerate"=none)(BP:mg "ValueError"=none)(cC:mg "isinstance"=none)(aV:mg "range"=none)(Yv:mg "any"=none):
  FnOk P w K mg base CX0 2 f fd [] (FZ K):=by
 refine F.ok u5 (fun vs H Q E h=> ?_) (fun cdv A outer s H vs Q E hr h=> ?_)
 ·obtain⟨rfl,_⟩:=h
  rfl
 obtain⟨rfl,q⟩:=h
 refine⟨_,(bh (gG (i:=0) u5.nd rfl (Or.inl rfl) (pe_lst (aj (gD FB rfl qO j5 gU (aj pe_str ak)) (aj (gD FB rfl iK fJ dR (aj pe_str ak)) (aj (gD FB rfl lO gZ fH (aj pe_str ak)) (aj (gD FB rfl vg qT jD (aj pe_str ak)) (aj (gD FB rfl qN j4 gR (aj pe_str ak)) (aj (gD FB rfl vf qR jC (aj pe_str ak)) (aj (gD FB rfl lN gY fG (aj pe_str ak)) (aj (gD FB rfl vd qQ jB (aj pe_str ak)) ak)))))))))) (bh (jg (pe_bm Ry wcg wch mt_append (pv 0) (aj (gD FB rfl lM gW fD (aj pe_str ak)) ak))) (bh (ps_for Mv rfl (Jp rfl jA (aj (pv 0) ak)) (pg_tup rfl (zA (dD (i:=1) u5.nd rfl (Or.inr rfl)) (zA (dD (i:=2) u5.nd rfl (Or.inl rfl)) pgs_nil))) (bh (ps_if (PW.pt (pw_or (pt_not (pt_val (dF QW rfl cC (by decide+kernel) (aj (pv 2) (aj (CG rfl iM (v:= .ref cH) rfl) ak))))) (pw_or1 (pt_not (pt_val (dF Ly rfl cC (by decide+kernel) (aj (pv 2) (aj (pe_bltn rfl BP (v:= .ty "ValueError") (by decide+kernel) rfl) ak)))))))) (bB (bV pe_bl)) ur) (bB (ps_if (iW (cX hr.units) (pc G1 hr D1 (aj (pv 2) ak)) (lX (own:=["number"]) (caps:=["at"]) (ix:=[1]) rfl (Fq rfl aV (aj aY ak)) rfl rfl (.cons rfl rfl .nil) (fun _ _ _ _ _=>(dD (i:=0) (show(["number","at"]:List Str).Nodup from by decide+kernel) rfl (Or.inl rfl))) (fun _ _ _ _ _=>zy) (fun _ _ _ _ _=>(Fo op_eq (pv 1) (pv 0) (nomark _)))) (nomark _)) (bB (bV pe_bl)) ur)))) (bB (bV (pe_not (dF (QB rfl) rfl Yv (by decide+kernel) (aj (pc G1 hr D1 (aj (gD FB rfl iM fK dU (aj pe_str ak)) ak)) ak)))))))),?_⟩
 refine⟨(by show 1<=16;decide),fun e0 h0=>⟨(by show 1<=16;decide),fun e1 h1=>⟨(by show 1<=16;decide),fun e2 h2=>⟨(by show 1<=16;decide),fun e3 h3=>⟨(by show 1<=16;decide),fun e4 h4=>⟨(by show 1<=16;decide),fun e5 h5=>⟨(by show 1<=16;decide),fun e6 h6=>⟨(by show 1<=16;decide),fun e7 h7=>⟨(by show 8<=sizeLine;decide),fun l hl=> ?_⟩⟩⟩⟩⟩⟩⟩⟩⟩
 have z0:=aR h0 (bY e0 c0)
 have z1:=aR h1 (bY e1 c1)
 have z2:=aR h2 (bY e2 c2)
 have z3:=aR h3 (bY e3 c3)
 have z4:=aR h4 (bY e4 c4)
 have z5:=aR h5 (bY e5 c5)
 have z6:=aR h6 (bY e6 c6)
 have z7:=aR h7 (bY e7 c7)
 have y0:=(z0.trans (z1.trans (z2.trans (z3.trans (z4.trans (z5.trans (z6.trans z7)))))))
 have f8:∀(i:Nat) e,[e0,e1,e2,e3,e4,e5,e6,e7][i]? =some e->∃C,[c0,c1,c2,c3,c4,c5,c6,c7,c8][i]? =some C/\(upd (upd (upd (upd (upd (upd (upd (upd H e0 (bY e0 c0)) e1 (bY e1 c1)) e2 (bY e2 c2)) e3 (bY e3 c3)) e4 (bY e4 c4)) e5 (bY e5 c5)) e6 (bY e6 c6)) e7 (bY e7 c7)) e=some (bY e C):=by
  intro i e hi
  match i,hi with
  |0,hi=>cases hi;exact⟨c0,rfl,(z1.trans (z2.trans (z3.trans (z4.trans (z5.trans (z6.trans z7)))))) _ _ aM⟩
  |1,hi=>cases hi;exact⟨c1,rfl,(z2.trans (z3.trans (z4.trans (z5.trans (z6.trans z7))))) _ _ aM⟩
  |2,hi=>cases hi;exact⟨c2,rfl,(z3.trans (z4.trans (z5.trans (z6.trans z7)))) _ _ aM⟩
  |3,hi=>cases hi;exact⟨c3,rfl,(z4.trans (z5.trans (z6.trans z7))) _ _ aM⟩
  |4,hi=>cases hi;exact⟨c4,rfl,(z5.trans (z6.trans z7)) _ _ aM⟩
  |5,hi=>cases hi;exact⟨c5,rfl,(z6.trans z7) _ _ aM⟩
  |6,hi=>cases hi;exact⟨c6,rfl,z7 _ _ aM⟩
  |7,hi=>cases hi;exact⟨c7,rfl,aM⟩
  |_+8,hi=>cases hi
 generalize (upd (upd (upd (upd (upd (upd (upd (upd H e0 (bY e0 c0)) e1 (bY e1 c1)) e2 (bY e2 c2)) e3 (bY e3 c3)) e4 (bY e4 c4)) e5 (bY e5 c5)) e6 (bY e6 c6)) e7 (bY e7 c7))=H1 at *
 have yl:=aR hl (.lst [.ref e0,.ref e1,.ref e2,.ref e3,.ref e4,.ref e5,.ref e6,.ref e7])
 have el:(upd H1 l (.lst [.ref e0,.ref e1,.ref e2,.ref e3,.ref e4,.ref e5,.ref e6,.ref e7])) l=some (.lst [.ref e0,.ref e1,.ref e2,.ref e3,.ref e4,.ref e5,.ref e6,.ref e7]):=aM
 have nl:∀b o,H1 b=some o->b≠l:=fun b o e z=>by rw[z,hl]at e;cases e
 generalize (upd H1 l (.lst [.ref e0,.ref e1,.ref e2,.ref e3,.ref e4,.ref e5,.ref e6,.ref e7]))=H2 at *
 refine⟨_,rfl,.inl ⟨rfl,_,SqL.of el⟩,(by show 1<=16;decide),fun e8 h8=> ?_⟩
 have z8:=aR h8 (bY e8 c8)
 have el8:=z8 _ _ el
 have n8:e8≠l:=Pk el h8
 refine⟨l,_,.ref e8,rfl,rfl,el8,(by show 8+1<=sizeLine;decide),?_⟩
 have ex8:(upd H2 e8 (bY e8 c8)) e8=some (bY e8 c8):=aM
 generalize (upd H2 e8 (bY e8 c8))=H3 at *
 have sx:dG l H3 (upd H3 l (.lst ([.ref e0,.ref e1,.ref e2,.ref e3,.ref e4,.ref e5,.ref e6,.ref e7]++[.ref e8]))):=(dG.refl _ _).upd
 have e9:(upd H3 l (.lst ([.ref e0,.ref e1,.ref e2,.ref e3,.ref e4,.ref e5,.ref e6,.ref e7]++[.ref e8]))) l=some (.lst ([e0,e1,e2,e3,e4,e5,e6,e7,e8].map V.ref)):=aM
 generalize (upd H3 l (.lst ([.ref e0,.ref e1,.ref e2,.ref e3,.ref e4,.ref e5,.ref e6,.ref e7]++[.ref e8])))=H4 at *
 have f9:∀(i:Nat) e,[e0,e1,e2,e3,e4,e5,e6,e7,e8][i]? =some e->∃C,[c0,c1,c2,c3,c4,c5,c6,c7,c8][i]? =some C/\H4 e=some (bY e C):=by
  intro i e hi
  by_cases hi8:i<8
  ·have hi':[e0,e1,e2,e3,e4,e5,e6,e7][i]? =some e:=by
    rw[<-hi]
    exact(Xw (l₁:=[e0,e1,e2,e3,e4,e5,e6,e7]) (l₂:=[e8]) hi8).symm
   obtain⟨C,k1,k2⟩:=f8 i e hi'
   exact⟨C,k1,sx _ _ (nl _ _ k2) (z8 _ _ (yl _ _ k2))⟩
  ·match i,hi8,hi with
   |8,_,hi=>cases hi;exact⟨c8,rfl,sx _ _ n8 ex8⟩
   |_+9,_,hi=>cases hi
 have sF:Same H H4:=fun b o e=>sx _ _ (nl _ _ (y0 _ _ e)) (z8 _ _ (yl _ _ (y0 _ _ e)))
 dsimp only[gName,List.set]
 refine⟨_,rfl,false,l,_,rfl,SqL.of e9,fun hz=> ?_⟩
 refine Qm (K:=K) (b:=false) (a:=l) (xs:=[e0,e1,e2,e3,e4,e5,e6,e7,e8].map V.ref) (fun i σ H'=>Same H4 H'/\∃b1 b2,σ=[some (.ref l),b1,b2]) ⟨Same.refl _,_,_,rfl⟩ (fun i σ H' _ p=>p.1.seq (SqL.of e9)) (fun i v t σ H' hv p ht=> ?_) (fun σ H' p=> ?_)
 ·obtain⟨sm,b1,b2,rfl⟩:=p
  have hi9:i<9:=by
   have:=(Aq.mp hv).1
   exact this
  rw[gw]at hv
  cases ev:[e0,e1,e2,e3,e4,e5,e6,e7,e8][i]? with
  |none=>rw[ev]at hv;cases hv
  |some e=>
   rw[ev]at hv
   cases hv
   obtain⟨C,k1,k2⟩:=f9 i e ev
   obtain⟨kK,kH⟩:=MD.all i C k1
   have t1:=aR ht (.tup [.int (i:Int),.ref e])
   have k4:=t1 _ _ (sm _ _ k2)
   refine⟨t,_,rfl,SqT.of aM,rfl,_,_,rfl,_,_,rfl,rfl,?_⟩
   generalize (upd H' t (.tup [.int (i:Int),.ref e]))=H5 at *
   refine⟨_,rfl,e,C,cH,true,rfl,k4,kK.ok,kH,_,rfl,?_⟩
   refine iteF ?_
   refine⟨_,rfl,e,C,"ValueError",true,rfl,k4,kK.ok,kK.one,_,rfl,?_⟩
   refine iteF ?_
   refine⟨_,rfl,e,C,oneAt i,rfl,k4,kK,fun r H6 s6 e6'=> ?_⟩
   refine⟨9,rfl,by decide,by decide,?_⟩
   refine JM (n:=9) (fun k acc σ H'=>acc=((List.range k).map fun j=>decide (i=j)).map V.bl/\Same H6 H'/\∃o,σ=[o,some (.int (i:Int))]) ⟨rfl,Same.refl _,_,rfl⟩ (fun k acc σ H' hk p=> ?_) (by rw[eF];decide) (fun k acc σ H' hk p=> ?_) (fun acc σ H' p=> ?_)
   ·rw[p.1,aQ,aQ,Uv];exact bx _
   ·obtain⟨rfl,sm',o,rfl⟩:=p
    refine⟨_,rfl,_,rfl,rfl,?_,sm',_,rfl⟩
    rw[Ml,bW,bW]
    congr 1
    show[V.bl _]=[V.bl _]
    congr 2
    exact decide_eq_decide.mpr ⟨fun z=>by have:=V.int.inj z;omega,fun z=>by subst z;congr 1;omega⟩
   ·intro p1 hp1
    obtain⟨rfl,sm',_⟩:=p
    have w1:=aR hp1 (.lst (((List.range 9).map fun j=>decide (i=j)).map V.bl))
    refine⟨_,_,.lst (SqL.of (w1 _ _ (sm' _ _ e6'))) (HN _),.lst (SqL.of aM) (HN _),yF _,yF _,TJ (oneAt i),_,rfl,nq (yF _) ?_⟩
    exact⟨sm.trans (t1.trans (s6.trans (sm'.trans w1))),_,_,rfl⟩
 ·obtain⟨sm,b1,b2,rfl⟩:=p
  refine⟨(by show 1<=16;decide),fun e10 h10=> ?_⟩
  have Ut:=aR h10 (bY e10 cH)
  refine⟨e10,cH,List.replicate 9 false,rfl,aM,MD.hue,fun r H6 s6 e6'=>⟨r,_,rfl,SqL.of e6',_,rfl,?_⟩⟩
  exact q _ (sF.trans (sm.trans (Ut.trans s6)))
def spLaw(K:W.Frag):Sp:=fun vs H Q _=>∃(a:Addr) (ns:List Int),vs=[.ref a]/\LC K H a ns/\ns.length<=63/\∀H',Q (.bl true) H'
theorem NQ{H:Hp}{a:Addr}{ns:List Int}(hl:ns.length<=63)(hO:Only H)(hS:SqL K H a (ns.map V.int)):spLaw K [.ref a] H (fun v _=>v= .bl true) fun _ _ _=>False:=by
 refine⟨a,ns,rfl,?_,hl,fun _=>rfl⟩
 rcases hS with(h|⟨o,h⟩)|h
 ·rcases hO a with q|⟨o,xs,q⟩
  ·rw[q]at h;cases h
  ·rw[q]at h;cases h
 ·exact .inl ⟨o,h⟩
 ·exact .inr h
theorem YX(ns:List Int):∃c:Int,atI (ns.map V.int++[V.int 0]) 0=some (.int c):=by
 cases ns with
 |nil=>exact⟨0,by have:=atI_nat (xs:=[V.int 0]) (j:=0) rfl;exact this⟩
 |cons x xs=>exact⟨x,by have:=atI_nat (xs:=V.int x::(xs.map V.int++[V.int 0])) (j:=0) rfl;exact this⟩
def TL(K:W.Frag)(H:Hp)(l:Addr)(R:List (Int×Int)):Prop:=∃(rs:List V) (ts:List (Int×Int)),H l=some (.lst rs)/\bL K H rs (ts.map pairD)/\ts.Sublist R
theorem Tv{H:Hp}{xs ys:List V}{ds es:List PyData}(h:bL K H xs ds)(h':bL K H ys es):bL K H (xs++ys) (ds++es):=
 bL.rec (motive_1:=fun _ _ _=>True) (motive_2:=fun xs ds _=>bL K H (xs++ys) (ds++es)) trivial (fun _=>trivial) (fun _=>trivial) (fun _=>trivial) (fun _ _ _=>trivial) (fun _ _ _=>trivial) (fun _=>trivial) (fun _ _=>trivial) h' (fun h _ _ t=> .cons h t) h
theorem gC:FnScope ["script","cell","size","left","ties","i","j","net"] ["script"] (defScope qJ):=fsc
theorem ok_law{f f1 f2 f3 f4:Addr}{fd d1 d2 d3 d4:FuncData}(F:Fun K "law" "law" qJ f fd)(D1:aL K mg "_law_b_sets_right" Uo ["net"] f1 d1)(G1:FnOk P w K mg base CX0 10 f1 d1 ["net"] (Jc K))(D2:aL K mg "_law_b_errors_right" Ur [] f2 d2)(Wq:FnOk P w K mg base CX0 2 f2 d2 [] (FZ K))(D3:aL K mg "_law_b_folds_right" Uq ["net"] f3 d3)(G3:FnOk P w K mg base CX0 13 f3 d3 ["net"] (Dd K))(D4:aL K mg "_law_b_made_right" Um ["net"] f4 d4)(G4:FnOk P w K mg base CX0 10 f4 d4 ["net"] (Jd K))(U9:mg "abs"=none)(aV:mg "range"=none)(bN:mg "tuple"=none):
  FnOk P w K mg base CX0 14 f fd ["script"] (spLaw K):=by
 have G2:FnOk P w K mg base CX0 13 f2 d2 [] (FZ K):=Wq.mono (by decide)
 refine F.ok gC (fun vs H Q E h=> ?_) (fun cdv A outer s H vs Q E hr h=> ?_)
 ·obtain⟨a,ns,rfl,_⟩:=h
  rfl
 obtain⟨a,ns,rfl,hS,h63,q⟩:=h
 refine⟨_,(bh (gG (i:=1) gC.nd rfl (Or.inl rfl) (cR ix_list (fQ RX (pv 0) (pe_lst (aj aY ak))) aY (fun _ _=>rfl))) (bh (gG (i:=2) gC.nd rfl (Or.inl rfl) (fQ op_add aY (fQ op_mod (dF call_abs rfl U9 (by decide+kernel) (aj (pv 1) ak)) aY))) (bh (gG (i:=3) gC.nd rfl (Or.inl rfl) (fQ op_fdiv (dF call_abs rfl U9 (by decide+kernel) (aj (pv 1) ak)) aY)) (bh (gG (i:=4) gC.nd rfl (Or.inl rfl) (pe_lst ak)) (bh (ps_for Mv rfl (Fq rfl aV (aj (pv 2) ak)) (dD (i:=5) gC.nd rfl (Or.inl rfl)) (bB (ps_for Mv rfl (pi_range2 rfl aV (aj (fQ op_add (pv 5) aY) (aj (pv 2) ak))) (dD (i:=6) gC.nd rfl (Or.inl rfl)) (bh (gG (i:=4) gC.nd rfl (Or.inl rfl) (fQ op_cat (pv 4) (fQ op_rep (pe_lst (aj (gH (aj (pv 5) (aj (pv 6) ak))) ak)) (fQ op_mod (pv 3) aY)))) (bB (gG (i:=3) gC.nd rfl (Or.inl rfl) (fQ op_fdiv (pv 3) aY))))))) (bh (gG (i:=7) gC.nd rfl (Or.inl rfl) (gH (aj (pv 2) (aj (Fv JN rfl bN (by decide+kernel) (aj (pv 4) ak)) ak)))) (bh (ps_if (PW.pt (pw_or (pt_not (pt_val (pe_call0 G2 hr rfl D2.m D2.F.kp D2.b .nil pass0))) (pw_or1 (pt_not (pt_val (pc G1 hr D1 (aj (pv 7) ak))))))) (bB (bV pe_bl)) ur) (bB (bV (pe_and (pc G4 hr D4 (aj (pv 7) ak)) (pe_one (pc G3 hr D3 (aj (pv 7) ak))))))))))))),?_⟩
 obtain⟨c,ec⟩:=YX ns
 refine⟨_,rfl,(by show 1<=sizeLine;decide),fun pz hpz=>⟨a,pz,_,_,rfl,rfl,(hS.same (aR hpz _)).sq,aM,by rw[aQ,eF];show ns.length+1<=_;omega,fun pc hpc=>⟨pc,_,_,.int c,rfl,rfl,SqL.of aM,ec,?_⟩⟩⟩
 refine⟨_,rfl,c,rfl,_,_,rfl,rfl,(by show(0:Int)<4;decide),_,_,rfl,rfl,?_⟩
 refine⟨_,rfl,c,rfl,_,_,rfl,rfl,⟨by decide,by decide⟩,?_⟩
 dsimp only[gName,List.set]
 have n0:2<=2+(if c<0 then -c else c) %4:=by omega
 have n5:2+(if c<0 then -c else c) %4<=5:=by omega
 generalize 2+(if c<0 then -c else c) %4=n at *
 generalize (if c<0 then -c else c)/4=lv at *
 refine⟨(by show 0<=sizeLine;decide),fun tl htl=> ?_⟩
 generalize hH:(upd _ tl (.lst []))=H1
 have e1:H1 tl=some (.lst []):=by rw[<-hH];exact aM
 clear hH
 dsimp only[gName,List.set]
 refine⟨_,rfl,n,rfl,by omega,by omega,?_⟩
 refine for_range (n:=n.toNat) (fun i σ H'=>∃l lv a5 a6,TL K H' l (rows tt n i)/\σ=[some (.ref a),some (.int c),some (.int n),some (.int lv),some (.ref l),a5,a6,none])
  ⟨tl,lv,_,_,⟨[],[],e1,.nil,List.nil_sublist _⟩,rfl⟩ (fun i σ H' hi p=> ?_) (fun σ H' p=> ?_)
 ·obtain⟨l,lv,a5,a6,T,rfl⟩:=p
  refine⟨_,rfl,_,_,rfl,rfl,_,rfl,_,_,rfl,⟨by omega,by omega,by omega,by omega⟩,?_⟩
  refine for_range (n:=(n-(0+(i:Int)+1)).toNat) (fun k σ H'=>∃l lv a6,TL K H' l (rows tt n i++row tt (0+(i:Int)) k)/\σ=[some (.ref a),some (.int c),some (.int n),some (.int lv),some (.ref l),some (.int (0+(i:Int))),a6,none])
   ⟨l,lv,_,by rw[show row tt (0+(i:Int)) 0=[]from rfl,uU];exact T,rfl⟩ (fun k σ H' hk p=> ?_) (fun σ H' p=> ?_)
  ·obtain⟨l,lv,a6,⟨rs,ts,h1,h2,h3⟩,rfl⟩:=p
   have er:rows tt n i++row tt (0+(i:Int)) (k+1)=(rows tt n i++row tt (0+(i:Int)) k)++[(0+(i:Int),0+(i:Int)+1+(k:Int))]:=by rw[Dq,bD (show tt _ _=true from rfl),Xm]
   rw[er]
   have hl:=sub_len (by omega) (by omega) h3
   have hrl:=h2.len
   rw[aQ]at hrl
   refine⟨_,rfl,_,rfl,_,rfl,(by show 2<=sizeLine;decide),fun p hp=>⟨(by show 1<=sizeLine;decide),fun pl hpl=> ?_⟩⟩
   have z1:=aR hp (.tup [.int (0+(i:Int)),.int (0+(i:Int)+1+(k:Int))])
   have z2:=aR hpl (.lst [.ref p])
   have m0:0<=lv %2:=by omega
   have m1:lv %2<2:=by omega
   refine⟨_,rfl,_,_,rfl,rfl,(by show(0:Int)<2;decide),pl,lv %2,[.ref p],rfl,rfl,aM,by omega,by omega,by rw[eF];show 1*(lv %2).toNat<=_;omega,fun pr hpr=> ?_⟩
   have z3:=aR hpr (.lst (List.replicate (lv %2).toNat [V.ref p]).flatten)
   have hf:(List.replicate (lv %2).toNat [V.ref p]).flatten.length<=1:=by
    rw[len_rep];show(lv %2).toNat*1<=1;omega
   refine⟨l,pr,rs,_,rfl,rfl,(z1.trans (z2.trans z3)) _ _ h1,aM,by rw[eF];omega,fun pc hpc=> ?_⟩
   have z4:=aR hpc (.lst (rs++(List.replicate (lv %2).toNat [V.ref p]).flatten))
   have Us:=z1.trans (z2.trans (z3.trans z4))
   have hq:=(z2.trans (z3.trans z4)).tup (SqT.of (K:=K) (aM (H:=H')))
   refine⟨_,rfl,_,_,rfl,rfl,⟨by decide,by decide⟩,?_⟩
   refine⟨pc,_,_,?_,rfl⟩
   rcases(show lv %2=0\/lv %2=1 by omega)with z|z
   ·refine⟨_,ts,aM,?_,h3.trans (List.sublist_append_left _ _)⟩
    rw[z]at Us⊢
    show bL K _ (rs++[]) _
    rw[uU]
    exact h2.same Us
   ·refine⟨_,ts++[(0+(i:Int),0+(i:Int)+1+(k:Int))],aM,?_,List.Sublist.append h3 (List.Sublist.refl _)⟩
    rw[bW]
    rw[z]at Us hq⊢
    exact Tv (h2.same Us) (.cons (.tup hq (.cons (.int _) (.cons (.int _) .nil))) .nil)
  ·obtain⟨l,lv,a6,T,rfl⟩:=p
   rw[<-lG]at T
   exact⟨l,lv,_,_,T,rfl⟩
 ·obtain⟨l,lv,a5,a6,⟨rs,ts,h1,h2,h3⟩,rfl⟩:=p
  refine⟨_,rfl,_,rfl,l,rs,rfl,.inl ⟨SqL.of h1,fun t ht=>⟨(by show 2<=sizeLine;decide),fun wb hwb=> ?_⟩⟩⟩
  have s3:=aR ht (.tup rs)
  have s4:=aR hwb (.tup [.int n,.ref t])
  obtain⟨g1,g2⟩:=mZ (by omega) (by omega) h3
  have hA:bA K (upd (upd H' t (.tup rs)) wb (.tup [.int n,.ref t])) wb n ts:=⟨⟨t,rs,SqT.of aM,SqT.of (s4 _ _ aM),h2.same (s3.trans s4)⟩,by omega,by omega,g1,g2⟩
  refine⟨rfl,fun H5 s5=>⟨_,rfl,?_⟩⟩
  refine iteF ?_
  have A5:=hA.same s5
  refine⟨_,rfl,wb,n,ts,rfl,A5,n0,fun H6 s6=>⟨_,rfl,?_⟩⟩
  refine iteF ?_
  have A6:=A5.same s6
  refine⟨_,rfl,wb,n,ts,rfl,A6,n0,n5,fun H7 s7=>⟨_,rfl,?_⟩⟩
  refine iteT ?_
  exact⟨_,rfl,wb,n,ts,rfl,A6.same s7,fun H8 s8=>q H8⟩
end
theorem len_0{α:Type}:∀{us:List α},us.length=0->us=[]
 |[],_=>rfl
theorem len_1{α:Type}:∀{us:List α},us.length=1->∃a,us=[a]
 |[a],_=>⟨a,rfl⟩
theorem len_2{α:Type}:∀{us:List α},us.length=2->∃a b,us=[a,b]
 |[a,b],_=>⟨a,b,rfl⟩
theorem len_3{α:Type}:∀{us:List α},us.length=3->∃a b c,us=[a,b,c]
 |[a,b,c],_=>⟨a,b,c,rfl⟩
theorem all_mk{l:W.OpenLaw}{w:World}{K:W.Frag}{h:Heap}{mg:Str->Option Value}{fa:Addr}(X:K.In h)(G:h.Ns mainGlobals mg)(hfa:mg "law"=some (.ref fa)){f0 f1 f2 f3 f4 f5 f6 f7 f8 f9 f10 f11 f12 f13 Xh Xg Xf Xe Xd Xc Xb Xa f22 f23 f24 f25 f26 f27 f28 f29 f30 f31 f32 f33 f34 f35 f36 f37 f38 f39 f40 f41 f42 f43 f44 f45 f46 f47 f48 f49 f50 f51 f52 f53 f54 f55 f56:Addr}{od0 an0 od1 an1 od2 an2 od3 an3 od4 an4 od5 an5 od6 an6 od7 an7 od8 an8 od9 an9 acG agC acF agB acE agA acD agz acC agy acB agx acA agw acz agv acy agu acw agt acv ags acu agr acs agq acq agp acp ago aco agn acn agm acj agl aci agk ach agj acg agi acf agh ace agg acd agf ab' agd ab9 agc ab8 agb ab7 aga ab6 af' ab5 af9 ab4 af8 ab3 af7 ab2 af6 ab1 af5 ab0 af4 abZ af3 abY af2 abX af0 abW afZ abV afY abU afX abT afW abS afV abR afU abQ afT abP afS abO Z1:Option Addr}{sl0 sl1 sl2 sl3 sl4 sl5 sl6 sl7 sl8 sl9 aaY aaX aaW aaV aaU aaT aaS aaR aaQ aaP aaO aaN aaM aaL aaK aaJ aaI aaH aaG aaF aaE aaD aaC aaB aaA aaz aay aax aaw aav aau aat aas aar aaq aap aao aan aam aal aak aaj aai aah aag aaf aae:Array (Option Value)}{oc0 kV0 dc0 pm0 cd0 ct0 oc1 kV1 dc1 pm1 cd1 ct1 oc2 kV2 dc2 pm2 cd2 ct2 oc3 kV3 dc3 pm3 cd3 ct3 oc4 kV4 dc4 pm4 cd4 ct4 oc5 kV5 dc5 pm5 cd5 ct5 oc6 kV6 dc6 pm6 cd6 ct6 oc7 kV7 dc7 pm7 cd7 ct7 oc8 kV8 dc8 pm8 cd8 ct8 oc9 kV9 dc9 pm9 cd9 ct9 adw aeh ae7 abM ZX afR adv aeg ae6 abL ZW afQ adu aef ae5 abK ZV afP adt aee ae4 abJ ZS afO adq aed ae3 abI ZR afN adp aec ae2 abH ZQ afM ado aeb ae1 abG ZP afL adn aea ae0 abF ZM afK adl ad' aeZ abE ZL afJ adk ad9 aeY abD ZK afI adi ad8 aeX abC ZJ afH adh ad7 aeW abB ZG afG adg ad6 aeV abA ZF afF adf ad5 aeU abz ZD afE ade ad4 aeT aby ZC afD adb ad3 aeS abx Zz afC ada ad2 aeR abw Zy afB ac' ad1 aeQ abv Zx afA ac9 ad0 aeP abu Zw afz ac8 adZ aeO abt Zv afy ac7 adY aeN abr Zu afx ac6 adX aeM abq Zt afw ac5 adW aeL abp Zr afv ac4 adV aeK abo Zq afu ac3 adU aeJ abn Zo aft ac2 adT aeI abm Zn afs ac1 adS aeH abl Zm afr ac0 adR aeG abk Zk afq acZ adQ aeF abj Zj afp acY adP aeE abh Zi afo acX adO aeD abg Zh afn acW adN aeC abf Zg afm acV adM aeB abe Zf afl acU adL aeA abd Ze afk acT adK aez abb Zd afj acS adJ aey aa' Zc afi acR adI aex aa9 Zb afh acQ adH aew aa8 Za afg acP adG aev aa7 Y9 afe acO adF aeu aa6 Y8 afd acN adE aes aa5 Y7 afc acM adD aer aa4 Y6 afb acL adC aep aa3 Y5 afa acK adB aeo aa2 Y4 ae' acJ adA aen aa1 Y0 ae9 acI adz aem aa0 YZ ae8 acH Yw YT Yj Wf YW:Value}{tk0:Tok}{tk1:Tok}{tk2:Tok}{aJ:Addr}{ao:Addr}{aF:Addr}{aP:Addr}{aH:Addr}{aO:Addr}{aD:Addr}{aN:Addr}{aB:Addr}{aA:Addr}{Lw:ClassData}{Ey:ClassData}{Ib:ClassData}{Qz:ClassData}{Ls:ClassData}{Qy:ClassData}{Ia:ClassData}{Qx:ClassData}{HY:ClassData}{Ez:ClassData}(a0:W.nsIn K mainGlobals "is_whole"=some (some (.ref f0)))(l0:K.lookup f0=some ⟨oc0,od0,.func (W.fnOf "is_whole" "is_whole" (defArgs Q5) (defBody Q5) (defScope Q5) .none kV0 dc0 pm0 an0 cd0 ct0),sl0⟩)(c0:W.codeIn K cd0 "is_whole"=true)(k0:W.keepIn K (.ref f0)=true)(a1:W.nsIn K mainGlobals "is_place"=some (some (.ref f1)))(l1:K.lookup f1=some ⟨oc1,od1,.func (W.fnOf "is_place" "is_place" (defArgs Q0) (defBody Q0) (defScope Q0) .none kV1 dc1 pm1 an1 cd1 ct1),sl1⟩)(c1:W.codeIn K cd1 "is_place"=true)(k1:W.keepIn K (.ref f1)=true)(a2:W.nsIn K mainGlobals "are_places"=some (some (.ref f2)))(l2:K.lookup f2=some ⟨oc2,od2,.func (W.fnOf "are_places" "are_places" (defArgs Mg) (defBody Mg) (defScope Mg) .none kV2 dc2 pm2 an2 cd2 ct2),sl2⟩)(c2:W.codeIn K cd2 "are_places"=true)(k2:W.keepIn K (.ref f2)=true)(a3:W.nsIn K mainGlobals "is_rising"=some (some (.ref f3)))(l3:K.lookup f3=some ⟨oc3,od3,.func (W.fnOf "is_rising" "is_rising" (defArgs Rg) (defBody Rg) (defScope Rg) .none kV3 dc3 pm3 an3 cd3 ct3),sl3⟩)(c3:W.codeIn K cd3 "is_rising"=true)(k3:W.keepIn K (.ref f3)=true)(a4:W.nsIn K mainGlobals "is_set"=some (some (.ref f4)))(l4:K.lookup f4=some ⟨oc4,od4,.func (W.fnOf "is_set" "is_set" (defArgs cV) (defBody cV) (defScope cV) .none kV4 dc4 pm4 an4 cd4 ct4),sl4⟩)(c4:W.codeIn K cd4 "is_set"=true)(k4:W.keepIn K (.ref f4)=true)(a5:W.nsIn K mainGlobals "are_ties"=some (some (.ref f5)))(l5:K.lookup f5=some ⟨oc5,od5,.func (W.fnOf "are_ties" "are_ties" (defArgs T7) (defBody T7) (defScope T7) .none kV5 dc5 pm5 an5 cd5 ct5),sl5⟩)(c5:W.codeIn K cd5 "are_ties"=true)(k5:W.keepIn K (.ref f5)=true)(a6:W.nsIn K mainGlobals "is_web"=some (some (.ref f6)))(l6:K.lookup f6=some ⟨oc6,od6,.func (W.fnOf "is_web" "is_web" (defArgs cU) (defBody cU) (defScope cU) .none kV6 dc6 pm6 an6 cd6 ct6),sl6⟩)(c6:W.codeIn K cd6 "is_web"=true)(k6:W.keepIn K (.ref f6)=true)(a7:W.nsIn K mainGlobals "need_web"=some (some (.ref f7)))(l7:K.lookup f7=some ⟨oc7,od7,.func (W.fnOf "need_web" "need_web" (defArgs yR) (defBody yR) (defScope yR) .none kV7 dc7 pm7 an7 cd7 ct7),sl7⟩)(c7:W.codeIn K cd7 "need_web"=true)(k7:W.keepIn K (.ref f7)=true)(a8:W.nsIn K mainGlobals "need_place"=some (some (.ref f8)))(l8:K.lookup f8=some ⟨oc8,od8,.func (W.fnOf "need_place" "need_place" (defArgs Rj) (defBody Rj) (defScope Rj) .none kV8 dc8 pm8 an8 cd8 ct8),sl8⟩)(c8:W.codeIn K cd8 "need_place"=true)(k8:W.keepIn K (.ref f8)=true)(a9:W.nsIn K mainGlobals "need_set"=some (some (.ref f9)))(l9:K.lookup f9=some ⟨oc9,od9,.func (W.fnOf "need_set" "need_set" (defArgs Q6) (defBody Q6) (defScope Q6) .none kV9 dc9 pm9 an9 cd9 ct9),sl9⟩)(c9:W.codeIn K cd9 "need_set"=true)(k9:W.keepIn K (.ref f9)=true)(a10:W.nsIn K mainGlobals "need_from_to"=some (some (.ref f10)))(l10:K.lookup f10=some ⟨adw,acG,.func (W.fnOf "need_from_to" "need_from_to" (defArgs Rn) (defBody Rn) (defScope Rn) .none aeh ae7 abM agC ZX afR),aaY⟩)(c10:W.codeIn K ZX "need_from_to"=true)(k10:W.keepIn K (.ref f10)=true)(a11:W.nsIn K mainGlobals "need_few"=some (some (.ref f11)))(l11:K.lookup f11=some ⟨adv,acF,.func (W.fnOf "need_few" "need_few" (defArgs MJ) (defBody MJ) (defScope MJ) .none aeg ae6 abL agB ZW afQ),aaX⟩)(c11:W.codeIn K ZW "need_few"=true)(k11:W.keepIn K (.ref f11)=true)(a12:W.nsIn K mainGlobals "pairs"=some (some (.ref f12)))(l12:K.lookup f12=some ⟨adu,acE,.func (W.fnOf "pairs" "pairs" (defArgs cL) (defBody cL) (defScope cL) .none aef ae5 abK agA ZV afP),aaW⟩)(c12:W.codeIn K ZV "pairs"=true)(k12:W.keepIn K (.ref f12)=true)(a13:W.nsIn K mainGlobals "all_sets"=some (some (.ref f13)))(l13:K.lookup f13=some ⟨adt,acD,.func (W.fnOf "all_sets" "all_sets" (defArgs T5) (defBody T5) (defScope T5) .none aee ae4 abJ agz ZS afO),aaV⟩)(c13:W.codeIn K ZS "all_sets"=true)(k13:W.keepIn K (.ref f13)=true)(a14:W.nsIn K mainGlobals "without"=some (some (.ref Xh)))(l14:K.lookup Xh=some ⟨adq,acC,.func (W.fnOf "without" "without" (defArgs cN) (defBody cN) (defScope cN) .none aed ae3 abI agy ZR afN),aaU⟩)(c14:W.codeIn K ZR "without"=true)(k14:W.keepIn K (.ref Xh)=true)(a15:W.nsIn K mainGlobals "has_tie"=some (some (.ref Xg)))(l15:K.lookup Xg=some ⟨adp,acB,.func (W.fnOf "has_tie" "has_tie" (defArgs Fw) (defBody Fw) (defScope Fw) .none aec ae2 abH agx ZQ afM),aaT⟩)(c15:W.codeIn K ZQ "has_tie"=true)(k15:W.keepIn K (.ref Xg)=true)(a16:W.nsIn K mainGlobals "are_tied"=some (some (.ref Xf)))(l16:K.lookup Xf=some ⟨ado,acA,.func (W.fnOf "are_tied" "are_tied" (defArgs T6) (defBody T6) (defScope T6) .none aeb ae1 abG agw ZP afL),aaS⟩)(c16:W.codeIn K ZP "are_tied"=true)(k16:W.keepIn K (.ref Xf)=true)(a17:W.nsIn K mainGlobals "neighbours"=some (some (.ref Xe)))(l17:K.lookup Xe=some ⟨adn,acz,.func (W.fnOf "neighbours" "neighbours" (defArgs Rk) (defBody Rk) (defScope Rk) .none aea ae0 abF agv ZM afK),aaR⟩)(c17:W.codeIn K ZM "neighbours"=true)(k17:W.keepIn K (.ref Xe)=true)(a18:W.nsIn K mainGlobals "moved_ties"=some (some (.ref Xd)))(l18:K.lookup Xd=some ⟨adl,acy,.func (W.fnOf "moved_ties" "moved_ties" (defArgs Ri) (defBody Ri) (defScope Ri) .none ad' aeZ abE agu ZL afJ),aaQ⟩)(c18:W.codeIn K ZL "moved_ties"=true)(k18:W.keepIn K (.ref Xd)=true)(a19:W.nsIn K mainGlobals "ties_between"=some (some (.ref Xc)))(l19:K.lookup Xc=some ⟨adk,acw,.func (W.fnOf "ties_between" "ties_between" (defArgs Uh) (defBody Uh) (defScope Uh) .none ad9 aeY abD agt ZK afI),aaP⟩)(c19:W.codeIn K ZK "ties_between"=true)(k19:W.keepIn K (.ref Xc)=true)(a20:W.nsIn K mainGlobals "beside"=some (some (.ref Xb)))(l20:K.lookup Xb=some ⟨adi,acv,.func (W.fnOf "beside" "beside" (defArgs cW) (defBody cW) (defScope cW) .none ad8 aeX abC ags ZJ afH),aaO⟩)(c20:W.codeIn K ZJ "beside"=true)(k20:W.keepIn K (.ref Xb)=true)(a21:W.nsIn K mainGlobals "across"=some (some (.ref Xa)))(l21:K.lookup Xa=some ⟨adh,acu,.func (W.fnOf "across" "across" (defArgs dO) (defBody dO) (defScope dO) .none ad7 aeW abB agr ZG afG),aaN⟩)(c21:W.codeIn K ZG "across"=true)(k21:W.keepIn K (.ref Xa)=true)(a22:W.nsIn K mainGlobals "is_tie_within"=some (some (.ref f22)))(l22:K.lookup f22=some ⟨adg,acs,.func (W.fnOf "is_tie_within" "is_tie_within" (defArgs Uj) (defBody Uj) (defScope Uj) .none ad6 aeV abA agq ZF afF),aaM⟩)(c22:W.codeIn K ZF "is_tie_within"=true)(k22:W.keepIn K (.ref f22)=true)(a23:W.nsIn K mainGlobals "within"=some (some (.ref f23)))(l23:K.lookup f23=some ⟨adf,acq,.func (W.fnOf "within" "within" (defArgs dN) (defBody dN) (defScope dN) .none ad5 aeU abz agp ZD afE),aaL⟩)(c23:W.codeIn K ZD "within"=true)(k23:W.keepIn K (.ref f23)=true)(a24:W.nsIn K mainGlobals "other_web"=some (some (.ref f24)))(l24:K.lookup f24=some ⟨ade,acp,.func (W.fnOf "other_web" "other_web" (defArgs Ub) (defBody Ub) (defScope Ub) .none ad4 aeT aby ago ZC afD),aaK⟩)(c24:W.codeIn K ZC "other_web"=true)(k24:W.keepIn K (.ref f24)=true)(a25:W.nsIn K mainGlobals "cut_down"=some (some (.ref f25)))(l25:K.lookup f25=some ⟨adb,aco,.func (W.fnOf "cut_down" "cut_down" (defArgs T8) (defBody T8) (defScope T8) .none ad3 aeS abx agn Zz afC),aaJ⟩)(c25:W.codeIn K Zz "cut_down"=true)(k25:W.keepIn K (.ref f25)=true)(a26:W.nsIn K mainGlobals "count_ties_in"=some (some (.ref f26)))(l26:K.lookup f26=some ⟨ada,acn,.func (W.fnOf "count_ties_in" "count_ties_in" (defArgs Ro) (defBody Ro) (defScope Ro) .none ad2 aeR abw agm Zy afB),aaI⟩)(c26:W.codeIn K Zy "count_ties_in"=true)(k26:W.keepIn K (.ref f26)=true)(a27:W.nsIn K mainGlobals "are_all_tied"=some (some (.ref f27)))(l27:K.lookup f27=some ⟨ac',acj,.func (W.fnOf "are_all_tied" "are_all_tied" (defArgs Q7) (defBody Q7) (defScope Q7) .none ad1 aeQ abv agl Zx afA),aaH⟩)(c27:W.codeIn K Zx "are_all_tied"=true)(k27:W.keepIn K (.ref f27)=true)(a28:W.nsIn K mainGlobals "is_apart"=some (some (.ref f28)))(l28:K.lookup f28=some ⟨ac9,aci,.func (W.fnOf "is_apart" "is_apart" (defArgs T9) (defBody T9) (defScope T9) .none ad0 aeP abu agk Zw afz),aaG⟩)(c28:W.codeIn K Zw "is_apart"=true)(k28:W.keepIn K (.ref f28)=true)(a29:W.nsIn K mainGlobals "is_crowd"=some (some (.ref f29)))(l29:K.lookup f29=some ⟨ac8,ach,.func (W.fnOf "is_crowd" "is_crowd" (defArgs Ua) (defBody Ua) (defScope Ua) .none adZ aeO abt agj Zv afy),aaF⟩)(c29:W.codeIn K Zv "is_crowd"=true)(k29:W.keepIn K (.ref f29)=true)(a30:W.nsIn K mainGlobals "places_by_tie"=some (some (.ref f30)))(l30:K.lookup f30=some ⟨ac7,acg,.func (W.fnOf "places_by_tie" "places_by_tie" (defArgs Rp) (defBody Rp) (defScope Rp) .none adY aeN abr agi Zu afx),aaE⟩)(c30:W.codeIn K Zu "places_by_tie"=true)(k30:W.keepIn K (.ref f30)=true)(a31:W.nsIn K mainGlobals "in_both"=some (some (.ref f31)))(l31:K.lookup f31=some ⟨ac6,acf,.func (W.fnOf "in_both" "in_both" (defArgs QX) (defBody QX) (defScope QX) .none adX aeM abq agh Zt afw),aaD⟩)(c31:W.codeIn K Zt "in_both"=true)(k31:W.keepIn K (.ref f31)=true)(a32:W.nsIn K mainGlobals "full_sets"=some (some (.ref f32)))(l32:K.lookup f32=some ⟨ac5,ace,.func (W.fnOf "full_sets" "full_sets" (defArgs Rf) (defBody Rf) (defScope Rf) .none adW aeL abp agg Zr afv),aaC⟩)(c32:W.codeIn K Zr "full_sets"=true)(k32:W.keepIn K (.ref f32)=true)(a33:W.nsIn K mainGlobals "full_apart"=some (some (.ref f33)))(l33:K.lookup f33=some ⟨ac4,acd,.func (W.fnOf "full_apart" "full_apart" (defArgs Rh) (defBody Rh) (defScope Rh) .none adV aeK abo agf Zq afu),aaB⟩)(c33:W.codeIn K Zq "full_apart"=true)(k33:W.keepIn K (.ref f33)=true)(a34:W.nsIn K mainGlobals "full_crowds"=some (some (.ref f34)))(l34:K.lookup f34=some ⟨ac3,ab',.func (W.fnOf "full_crowds" "full_crowds" (defArgs Rm) (defBody Rm) (defScope Rm) .none adU aeJ abn agd Zo aft),aaA⟩)(c34:W.codeIn K Zo "full_crowds"=true)(k34:W.keepIn K (.ref f34)=true)(a35:W.nsIn K mainGlobals "first_greatest"=some (some (.ref f35)))(l35:K.lookup f35=some ⟨ac2,ab9,.func (W.fnOf "first_greatest" "first_greatest" (defArgs Rq) (defBody Rq) (defScope Rq) .none adT aeI abm agc Zn afs),aaz⟩)(c35:W.codeIn K Zn "first_greatest"=true)(k35:W.keepIn K (.ref f35)=true)(a36:W.nsIn K mainGlobals "greatest_apart"=some (some (.ref f36)))(l36:K.lookup f36=some ⟨ac1,ab8,.func (W.fnOf "greatest_apart" "greatest_apart" (defArgs Ul) (defBody Ul) (defScope Ul) .none adS aeH abl agb Zm afr),aay⟩)(c36:W.codeIn K Zm "greatest_apart"=true)(k36:W.keepIn K (.ref f36)=true)(a37:W.nsIn K mainGlobals "greatest_crowd"=some (some (.ref f37)))(l37:K.lookup f37=some ⟨ac0,ab7,.func (W.fnOf "greatest_crowd" "greatest_crowd" (defArgs Rr) (defBody Rr) (defScope Rr) .none adR aeG abk aga Zk afq),aax⟩)(c37:W.codeIn K Zk "greatest_crowd"=true)(k37:W.keepIn K (.ref f37)=true)(a38:W.nsIn K mainGlobals "are_unlike_places"=some (some (.ref f38)))(l38:K.lookup f38=some ⟨acZ,ab6,.func (W.fnOf "are_unlike_places" "are_unlike_places" (defArgs MP) (defBody MP) (defScope MP) .none adQ aeF abj af' Zj afp),aaw⟩)(c38:W.codeIn K Zj "are_unlike_places"=true)(k38:W.keepIn K (.ref f38)=true)(a39:W.nsIn K mainGlobals "tied_among"=some (some (.ref f39)))(l39:K.lookup f39=some ⟨acY,ab5,.func (W.fnOf "tied_among" "tied_among" (defArgs MN) (defBody MN) (defScope MN) .none adP aeE abh af9 Zi afo),aav⟩)(c39:W.codeIn K Zi "tied_among"=true)(k39:W.keepIn K (.ref f39)=true)(a40:W.nsIn K mainGlobals "first_to_go"=some (some (.ref f40)))(l40:K.lookup f40=some ⟨acX,ab4,.func (W.fnOf "first_to_go" "first_to_go" (defArgs Ud) (defBody Ud) (defScope Ud) .none adO aeD abg af8 Zh afn),aau⟩)(c40:W.codeIn K Zh "first_to_go"=true)(k40:W.keepIn K (.ref f40)=true)(a41:W.nsIn K mainGlobals "next_steps"=some (some (.ref f41)))(l41:K.lookup f41=some ⟨acW,ab3,.func (W.fnOf "next_steps" "next_steps" (defArgs Uc) (defBody Uc) (defScope Uc) .none adN aeC abf af7 Zg afm),aat⟩)(c41:W.codeIn K Zg "next_steps"=true)(k41:W.keepIn K (.ref f41)=true)(a42:W.nsIn K mainGlobals "find_bare_ring"=some (some (.ref f42)))(l42:K.lookup f42=some ⟨acV,ab2,.func (W.fnOf "find_bare_ring" "find_bare_ring" (defArgs Uk) (defBody Uk) (defScope Uk) .none adM aeB abe af6 Zf afl),aas⟩)(c42:W.codeIn K Zf "find_bare_ring"=true)(k42:W.keepIn K (.ref f42)=true)(a43:W.nsIn K mainGlobals "fold"=some (some (.ref f43)))(l43:K.lookup f43=some ⟨acU,ab1,.func (W.fnOf "fold" "fold" (defArgs iG) (defBody iG) (defScope iG) .none adL aeA abd af5 Ze afk),aar⟩)(c43:W.codeIn K Ze "fold"=true)(k43:W.keepIn K (.ref f43)=true)(a44:W.nsIn K mainGlobals "is_fold"=some (some (.ref f44)))(l44:K.lookup f44=some ⟨acT,ab0,.func (W.fnOf "is_fold" "is_fold" (defArgs cO) (defBody cO) (defScope cO) .none adK aez abb af4 Zd afj),aaq⟩)(c44:W.codeIn K Zd "is_fold"=true)(k44:W.keepIn K (.ref f44)=true)(a45:W.nsIn K mainGlobals "is_bare_ring"=some (some (.ref f45)))(l45:K.lookup f45=some ⟨acS,abZ,.func (W.fnOf "is_bare_ring" "is_bare_ring" (defArgs Ug) (defBody Ug) (defScope Ug) .none adJ aey aa' af3 Zc afi),aap⟩)(c45:W.codeIn K Zc "is_bare_ring"=true)(k45:W.keepIn K (.ref f45)=true)(a46:W.nsIn K mainGlobals "hues_by_order"=some (some (.ref f46)))(l46:K.lookup f46=some ⟨acR,abY,.func (W.fnOf "hues_by_order" "hues_by_order" (defArgs Ui) (defBody Ui) (defScope Ui) .none adI aex aa9 af2 Zb afh),aao⟩)(c46:W.codeIn K Zb "hues_by_order"=true)(k46:W.keepIn K (.ref f46)=true)(a47:W.nsIn K mainGlobals "by_fold"=some (some (.ref f47)))(l47:K.lookup f47=some ⟨acQ,abX,.func (W.fnOf "by_fold" "by_fold" (defArgs cP) (defBody cP) (defScope cP) .none adH aew aa8 af0 Za afg),aan⟩)(c47:W.codeIn K Za "by_fold"=true)(k47:W.keepIn K (.ref f47)=true)(a48:W.nsIn K mainGlobals "ring"=some (some (.ref f48)))(l48:K.lookup f48=some ⟨acP,abW,.func (W.fnOf "ring" "ring" (defArgs jo) (defBody jo) (defScope jo) .none adG aev aa7 afZ Y9 afe),aam⟩)(c48:W.codeIn K Y9 "ring"=true)(k48:W.keepIn K (.ref f48)=true)(a49:W.nsIn K mainGlobals "picks"=some (some (.ref f49)))(l49:K.lookup f49=some ⟨acO,abV,.func (W.fnOf "picks" "picks" (defArgs fZ) (defBody fZ) (defScope fZ) .none adF aeu aa6 afY Y8 afd),aal⟩)(c49:W.codeIn K Y8 "picks"=true)(k49:W.keepIn K (.ref f49)=true)(a50:W.nsIn K mainGlobals "grown"=some (some (.ref f50)))(l50:K.lookup f50=some ⟨acN,abU,.func (W.fnOf "grown" "grown" (defArgs gj) (defBody gj) (defScope gj) .none adE aes aa5 afX Y7 afc),aak⟩)(c50:W.codeIn K Y7 "grown"=true)(k50:W.keepIn K (.ref f50)=true)(a51:W.nsIn K mainGlobals "_law_b_kinds"=some (some (.ref f51)))(l51:K.lookup f51=some ⟨acM,abT,.func (W.fnOf "_law_b_kinds" "_law_b_kinds" (defArgs Ue) (defBody Ue) (defScope Ue) .none adD aer aa4 afW Y6 afb),aaj⟩)(c51:W.codeIn K Y6 "_law_b_kinds"=true)(k51:W.keepIn K (.ref f51)=true)(a52:W.nsIn K mainGlobals "_law_b_errors_right"=some (some (.ref f52)))(l52:K.lookup f52=some ⟨acL,abS,.func (W.fnOf "_law_b_errors_right" "_law_b_errors_right" (defArgs Ur) (defBody Ur) (defScope Ur) .none adC aep aa3 afV Y5 afa),aai⟩)(c52:W.codeIn K Y5 "_law_b_errors_right"=true)(k52:W.keepIn K (.ref f52)=true)(a53:W.nsIn K mainGlobals "_law_b_sets_right"=some (some (.ref f53)))(l53:K.lookup f53=some ⟨acK,abR,.func (W.fnOf "_law_b_sets_right" "_law_b_sets_right" (defArgs Uo) (defBody Uo) (defScope Uo) .none adB aeo aa2 afU Y4 ae'),aah⟩)(c53:W.codeIn K Y4 "_law_b_sets_right"=true)(k53:W.keepIn K (.ref f53)=true)(a54:W.nsIn K mainGlobals "_law_b_made_right"=some (some (.ref f54)))(l54:K.lookup f54=some ⟨acJ,abQ,.func (W.fnOf "_law_b_made_right" "_law_b_made_right" (defArgs Um) (defBody Um) (defScope Um) .none adA aen aa1 afT Y0 ae9),aag⟩)(c54:W.codeIn K Y0 "_law_b_made_right"=true)(k54:W.keepIn K (.ref f54)=true)(a55:W.nsIn K mainGlobals "_law_b_folds_right"=some (some (.ref f55)))(l55:K.lookup f55=some ⟨acI,abP,.func (W.fnOf "_law_b_folds_right" "_law_b_folds_right" (defArgs Uq) (defBody Uq) (defScope Uq) .none adz aem aa0 afS YZ ae8),aaf⟩)(c55:W.codeIn K YZ "_law_b_folds_right"=true)(k55:W.keepIn K (.ref f55)=true)(a56:W.nsIn K mainGlobals "law"=some (some (.ref f56)))(l56:K.lookup f56=some ⟨acH,abO,.func (W.fnOf "law" "law" (defArgs qJ) (defBody qJ) (defScope qJ) .none Yw YT Yj Z1 Wf YW),aae⟩)(c56:W.codeIn K Wf "law"=true)(k56:W.keepIn K (.ref f56)=true)(x0:W.nsIn K mainGlobals "MOST_PLACES"=some (some (.int 10 tk0)))(x1:W.nsIn K mainGlobals "LEAST_BARE_RING"=some (some (.int 4 tk1)))(x2:W.nsIn K mainGlobals "LEAST_RING"=some (some (.int 3 tk2)))(z0:W.nsIn K mainGlobals "ValueError"=some none)(z1:W.nsIn K mainGlobals "abs"=some none)(z2:W.nsIn K mainGlobals "all"=some none)(z3:W.nsIn K mainGlobals "any"=some none)(z4:W.nsIn K mainGlobals "bool"=some none)(z5:W.nsIn K mainGlobals "enumerate"=some none)(z6:W.nsIn K mainGlobals "int"=some none)(z7:W.nsIn K mainGlobals "isinstance"=some none)(z8:W.nsIn K mainGlobals "len"=some none)(z9:W.nsIn K mainGlobals "list"=some none)(Ut:W.nsIn K mainGlobals "max"=some none)(z11:W.nsIn K mainGlobals "min"=some none)(Ws:W.nsIn K mainGlobals "range"=some none)(z13:W.nsIn K mainGlobals "reversed"=some none)(Us:W.nsIn K mainGlobals "set"=some none)(z15:W.nsIn K mainGlobals "sorted"=some none)(z16:W.nsIn K mainGlobals "tuple"=some none)(y0:W.nsIn K mainGlobals "NoFold"=some (some (.ref aJ)))(y1:W.nsIn K mainGlobals "NoNumber"=some (some (.ref ao)))(y2:W.nsIn K mainGlobals "NoPlace"=some (some (.ref aF)))(y3:W.nsIn K mainGlobals "NoRow"=some (some (.ref aP)))(y4:W.nsIn K mainGlobals "NoText"=some (some (.ref aH)))(y5:W.nsIn K mainGlobals "NoTie"=some (some (.ref aO)))(y6:W.nsIn K mainGlobals "NoWants"=some (some (.ref aD)))(y7:W.nsIn K mainGlobals "NoWeb"=some (some (.ref aN)))(y8:W.nsIn K mainGlobals "TooMany"=some (some (.ref aB)))(y9:W.nsIn K mainGlobals "HueError"=some (some (.ref aA)))(iZ:W.specialIn K (.builtin "object.__class__") "__get__"=some (some (.builtin "getset_descriptor.__get__")))(uO:W.takesIn K (.builtin "object.__class__")=some true)(j5:W.excIn K aJ [.type "ValueError",.type "Exception",.type "BaseException",.type "object"] "ValueError.__new__"=true)(gU:W.keepIn K (.ref aJ)=true)(vZ:W.clsIn K aJ=some Lw)(tY:W.findIn K (.ref aJ) "__getattribute__"=some (some (.builtin "BaseException.__getattribute__")))(tU:W.findIn K (.ref aJ) "__getattr__"=some none)(tW:W.findIn K (.ref aJ) "__class__"=some (some (.builtin "object.__class__")))(sy:W.mroIn K aJ (.type "object")=some true)(sG:W.mroIn K aJ (.type "BaseException")=some true)(vG:W.kitOne K (.ref aJ) (.type "ValueError")=some true)(tO:W.kitOne K (.ref aJ) (.ref aJ)=some true)(tL:W.kitOne K (.ref aJ) (.ref ao)=some false)(tH:W.kitOne K (.ref aJ) (.ref aF)=some false)(tE:W.kitOne K (.ref aJ) (.ref aP)=some false)(tu:W.kitOne K (.ref aJ) (.ref aH)=some false)(sY:W.kitOne K (.ref aJ) (.ref aO)=some false)(sW:W.kitOne K (.ref aJ) (.ref aD)=some false)(sU:W.kitOne K (.ref aJ) (.ref aN)=some false)(sO:W.kitOne K (.ref aJ) (.ref aB)=some false)(sI:W.kitOne K (.ref aJ) (.ref aA)=some true)(fJ:W.excIn K ao [.type "ValueError",.type "Exception",.type "BaseException",.type "object"] "ValueError.__new__"=true)(dR:W.keepIn K (.ref ao)=true)(nO:W.clsIn K ao=some Ey)(kj:W.findIn K (.ref ao) "__getattribute__"=some (some (.builtin "BaseException.__getattribute__")))(j7:W.findIn K (.ref ao) "__getattr__"=some none)(j9:W.findIn K (.ref ao) "__class__"=some (some (.builtin "object.__class__")))(jw:W.mroIn K ao (.type "object")=some true)(jy:W.mroIn K ao (.type "BaseException")=some true)(m9:W.kitOne K (.ref ao) (.type "ValueError")=some true)(jX:W.kitOne K (.ref ao) (.ref aJ)=some false)(jV:W.kitOne K (.ref ao) (.ref ao)=some true)(jT:W.kitOne K (.ref ao) (.ref aF)=some false)(jQ:W.kitOne K (.ref ao) (.ref aP)=some false)(jO:W.kitOne K (.ref ao) (.ref aH)=some false)(jM:W.kitOne K (.ref ao) (.ref aO)=some false)(jK:W.kitOne K (.ref ao) (.ref aD)=some false)(jH:W.kitOne K (.ref ao) (.ref aN)=some false)(jF:W.kitOne K (.ref ao) (.ref aB)=some false)(jE:W.kitOne K (.ref ao) (.ref aA)=some true)(gZ:W.excIn K aF [.type "ValueError",.type "Exception",.type "BaseException",.type "object"] "ValueError.__new__"=true)(fH:W.keepIn K (.ref aF)=true)(rZ:W.clsIn K aF=some Ib)(p7:W.findIn K (.ref aF) "__getattribute__"=some (some (.builtin "BaseException.__getattribute__")))(pR:W.findIn K (.ref aF) "__getattr__"=some none)(pX:W.findIn K (.ref aF) "__class__"=some (some (.builtin "object.__class__")))(nU:W.mroIn K aF (.type "object")=some true)(nZ:W.mroIn K aF (.type "BaseException")=some true)(rM:W.kitOne K (.ref aF) (.type "ValueError")=some true)(pJ:W.kitOne K (.ref aF) (.ref aJ)=some false)(pG:W.kitOne K (.ref aF) (.ref ao)=some false)(pC:W.kitOne K (.ref aF) (.ref aF)=some true)(pq:W.kitOne K (.ref aF) (.ref aP)=some false)(oZ:W.kitOne K (.ref aF) (.ref aH)=some false)(oW:W.kitOne K (.ref aF) (.ref aO)=some false)(oR:W.kitOne K (.ref aF) (.ref aD)=some false)(oM:W.kitOne K (.ref aF) (.ref aN)=some false)(oH:W.kitOne K (.ref aF) (.ref aB)=some false)(oE:W.kitOne K (.ref aF) (.ref aA)=some true)(qT:W.excIn K aP [.type "ValueError",.type "Exception",.type "BaseException",.type "object"] "ValueError.__new__"=true)(jD:W.keepIn K (.ref aP)=true)(Br:W.clsIn K aP=some Qz)(yp:W.findIn K (.ref aP) "__getattribute__"=some (some (.builtin "BaseException.__getattribute__")))(xY:W.findIn K (.ref aP) "__getattr__"=some none)(yg:W.findIn K (.ref aP) "__class__"=some (some (.builtin "object.__class__")))(wC:W.mroIn K aP (.type "object")=some true)(wH:W.mroIn K aP (.type "BaseException")=some true)(Aw:W.kitOne K (.ref aP) (.type "ValueError")=some true)(xU:W.kitOne K (.ref aP) (.ref aJ)=some false)(xQ:W.kitOne K (.ref aP) (.ref ao)=some false)(xM:W.kitOne K (.ref aP) (.ref aF)=some false)(xH:W.kitOne K (.ref aP) (.ref aP)=some true)(xq:W.kitOne K (.ref aP) (.ref aH)=some false)(w5:W.kitOne K (.ref aP) (.ref aO)=some false)(wX:W.kitOne K (.ref aP) (.ref aD)=some false)(wU:W.kitOne K (.ref aP) (.ref aN)=some false)(wO:W.kitOne K (.ref aP) (.ref aB)=some false)(wL:W.kitOne K (.ref aP) (.ref aA)=some true)(j4:W.excIn K aH [.type "ValueError",.type "Exception",.type "BaseException",.type "object"] "ValueError.__new__"=true)(gR:W.keepIn K (.ref aH)=true)(vY:W.clsIn K aH=some Ls)(tX:W.findIn K (.ref aH) "__getattribute__"=some (some (.builtin "BaseException.__getattribute__")))(tR:W.findIn K (.ref aH) "__getattr__"=some none)(tV:W.findIn K (.ref aH) "__class__"=some (some (.builtin "object.__class__")))(su:W.mroIn K aH (.type "object")=some true)(sE:W.mroIn K aH (.type "BaseException")=some true)(vD:W.kitOne K (.ref aH) (.type "ValueError")=some true)(tM:W.kitOne K (.ref aH) (.ref aJ)=some false)(tK:W.kitOne K (.ref aH) (.ref ao)=some false)(tG:W.kitOne K (.ref aH) (.ref aF)=some false)(tD:W.kitOne K (.ref aH) (.ref aP)=some false)(sZ:W.kitOne K (.ref aH) (.ref aH)=some true)(sX:W.kitOne K (.ref aH) (.ref aO)=some false)(sV:W.kitOne K (.ref aH) (.ref aD)=some false)(sS:W.kitOne K (.ref aH) (.ref aN)=some false)(sJ:W.kitOne K (.ref aH) (.ref aB)=some false)(sH:W.kitOne K (.ref aH) (.ref aA)=some true)(qR:W.excIn K aO [.type "ValueError",.type "Exception",.type "BaseException",.type "object"] "ValueError.__new__"=true)(jC:W.keepIn K (.ref aO)=true)(Bq:W.clsIn K aO=some Qy)(yj:W.findIn K (.ref aO) "__getattribute__"=some (some (.builtin "BaseException.__getattribute__")))(xX:W.findIn K (.ref aO) "__getattr__"=some none)(yd:W.findIn K (.ref aO) "__class__"=some (some (.builtin "object.__class__")))(wB:W.mroIn K aO (.type "object")=some true)(wG:W.mroIn K aO (.type "BaseException")=some true)(Av:W.kitOne K (.ref aO) (.type "ValueError")=some true)(xT:W.kitOne K (.ref aO) (.ref aJ)=some false)(xP:W.kitOne K (.ref aO) (.ref ao)=some false)(xK:W.kitOne K (.ref aO) (.ref aF)=some false)(xG:W.kitOne K (.ref aO) (.ref aP)=some false)(xg:W.kitOne K (.ref aO) (.ref aH)=some false)(wZ:W.kitOne K (.ref aO) (.ref aO)=some true)(wW:W.kitOne K (.ref aO) (.ref aD)=some false)(wR:W.kitOne K (.ref aO) (.ref aN)=some false)(wN:W.kitOne K (.ref aO) (.ref aB)=some false)(wK:W.kitOne K (.ref aO) (.ref aA)=some true)(gY:W.excIn K aD [.type "ValueError",.type "Exception",.type "BaseException",.type "object"] "ValueError.__new__"=true)(fG:W.keepIn K (.ref aD)=true)(rY:W.clsIn K aD=some Ia)(pZ:W.findIn K (.ref aD) "__getattribute__"=some (some (.builtin "BaseException.__getattribute__")))(pQ:W.findIn K (.ref aD) "__getattr__"=some none)(pW:W.findIn K (.ref aD) "__class__"=some (some (.builtin "object.__class__")))(nT:W.mroIn K aD (.type "object")=some true)(nY:W.mroIn K aD (.type "BaseException")=some true)(rK:W.kitOne K (.ref aD) (.type "ValueError")=some true)(pI:W.kitOne K (.ref aD) (.ref aJ)=some false)(pF:W.kitOne K (.ref aD) (.ref ao)=some false)(pB:W.kitOne K (.ref aD) (.ref aF)=some false)(o9:W.kitOne K (.ref aD) (.ref aP)=some false)(oY:W.kitOne K (.ref aD) (.ref aH)=some false)(oV:W.kitOne K (.ref aD) (.ref aO)=some false)(oO:W.kitOne K (.ref aD) (.ref aD)=some true)(oK:W.kitOne K (.ref aD) (.ref aN)=some false)(oG:W.kitOne K (.ref aD) (.ref aB)=some false)(ou:W.kitOne K (.ref aD) (.ref aA)=some true)(qQ:W.excIn K aN [.type "ValueError",.type "Exception",.type "BaseException",.type "object"] "ValueError.__new__"=true)(jB:W.keepIn K (.ref aN)=true)(Bp:W.clsIn K aN=some Qx)(yh:W.findIn K (.ref aN) "__getattribute__"=some (some (.builtin "BaseException.__getattribute__")))(xW:W.findIn K (.ref aN) "__getattr__"=some none)(yc:W.findIn K (.ref aN) "__class__"=some (some (.builtin "object.__class__")))(wA:W.mroIn K aN (.type "object")=some true)(wF:W.mroIn K aN (.type "BaseException")=some true)(Ar:W.kitOne K (.ref aN) (.type "ValueError")=some true)(xR:W.kitOne K (.ref aN) (.ref aJ)=some false)(xO:W.kitOne K (.ref aN) (.ref ao)=some false)(xJ:W.kitOne K (.ref aN) (.ref aF)=some false)(xr:W.kitOne K (.ref aN) (.ref aP)=some false)(w6:W.kitOne K (.ref aN) (.ref aH)=some false)(wY:W.kitOne K (.ref aN) (.ref aO)=some false)(wV:W.kitOne K (.ref aN) (.ref aD)=some false)(wQ:W.kitOne K (.ref aN) (.ref aN)=some true)(wM:W.kitOne K (.ref aN) (.ref aB)=some false)(wJ:W.kitOne K (.ref aN) (.ref aA)=some true)(gW:W.excIn K aB [.type "ValueError",.type "Exception",.type "BaseException",.type "object"] "ValueError.__new__"=true)(fD:W.keepIn K (.ref aB)=true)(rW:W.clsIn K aB=some HY)(pY:W.findIn K (.ref aB) "__getattribute__"=some (some (.builtin "BaseException.__getattribute__")))(pO:W.findIn K (.ref aB) "__getattr__"=some none)(pU:W.findIn K (.ref aB) "__class__"=some (some (.builtin "object.__class__")))(nR:W.mroIn K aB (.type "object")=some true)(nW:W.mroIn K aB (.type "BaseException")=some true)(rJ:W.kitOne K (.ref aB) (.type "ValueError")=some true)(pH:W.kitOne K (.ref aB) (.ref aJ)=some false)(pD:W.kitOne K (.ref aB) (.ref ao)=some false)(pA:W.kitOne K (.ref aB) (.ref aF)=some false)(o8:W.kitOne K (.ref aB) (.ref aP)=some false)(oX:W.kitOne K (.ref aB) (.ref aH)=some false)(oU:W.kitOne K (.ref aB) (.ref aO)=some false)(oN:W.kitOne K (.ref aB) (.ref aD)=some false)(oJ:W.kitOne K (.ref aB) (.ref aN)=some false)(oF:W.kitOne K (.ref aB) (.ref aB)=some true)(oh:W.kitOne K (.ref aB) (.ref aA)=some true)(fK:W.excIn K aA [.type "ValueError",.type "Exception",.type "BaseException",.type "object"] "ValueError.__new__"=true)(dU:W.keepIn K (.ref aA)=true)(nP:W.clsIn K aA=some Ez)(kJ:W.findIn K (.ref aA) "__getattribute__"=some (some (.builtin "BaseException.__getattribute__")))(j8:W.findIn K (.ref aA) "__getattr__"=some none)(kh:W.findIn K (.ref aA) "__class__"=some (some (.builtin "object.__class__")))(jx:W.mroIn K aA (.type "object")=some true)(jz:W.mroIn K aA (.type "BaseException")=some true)(nu:W.kitOne K (.ref aA) (.type "ValueError")=some true)(jY:W.kitOne K (.ref aA) (.ref aJ)=some false)(jW:W.kitOne K (.ref aA) (.ref ao)=some false)(jU:W.kitOne K (.ref aA) (.ref aF)=some false)(jR:W.kitOne K (.ref aA) (.ref aP)=some false)(jP:W.kitOne K (.ref aA) (.ref aH)=some false)(jN:W.kitOne K (.ref aA) (.ref aO)=some false)(jL:W.kitOne K (.ref aA) (.ref aD)=some false)(jJ:W.kitOne K (.ref aA) (.ref aN)=some false)(jG:W.kitOne K (.ref aA) (.ref aB)=some false):
  ∃fd:FuncData,(∀(s:Shared) (v:Value),BindsTo s fd ⟨[v],[]⟩ [("script",v)])/\∀base:Heap,K.In base->base.Ns mainGlobals mg->FnOk l.prog w K mg base CX0 14 fa fd ["script"] (spLaw K):=by
 have e:=hfa.symm.trans (cg X G a56)
 cases e
 have F0:=dB (st:=Q5) l0 c0 k0
 have qj:aL K mg "is_whole" Q5 ["thing"] f0 _:=⟨F0,F0.binds (fun _ _ _ _ _ _ us hl=>by obtain⟨u0,rfl⟩:=Hs.len_1 hl;rfl),cg X G a0⟩
 have F1:=dB (st:=Q0) l1 c1 k1
 have qm:aL K mg "is_place" Q0 ["n","thing"] f1 _:=⟨F1,F1.binds (fun _ _ _ _ _ _ us hl=>by obtain⟨u0,u1,rfl⟩:=Hs.len_2 hl;rfl),cg X G a1⟩
 have F2:=dB (st:=Mg) l2 c2 k2
 have iV:aL K mg "are_places" Mg ["n","things"] f2 _:=⟨F2,F2.binds (fun _ _ _ _ _ _ us hl=>by obtain⟨u0,u1,rfl⟩:=Hs.len_2 hl;rfl),cg X G a2⟩
 have F3:=dB (st:=Rg) l3 c3 k3
 have uK:aL K mg "is_rising" Rg ["things"] f3 _:=⟨F3,F3.binds (fun _ _ _ _ _ _ us hl=>by obtain⟨u0,rfl⟩:=Hs.len_1 hl;rfl),cg X G a3⟩
 have F4:=dB (st:=cV) l4 c4 k4
 have Fj:aL K mg "is_set" cV ["n","thing"] f4 _:=⟨F4,F4.binds (fun _ _ _ _ _ _ us hl=>by obtain⟨u0,u1,rfl⟩:=Hs.len_2 hl;rfl),cg X G a4⟩
 have F5:=dB (st:=T7) l5 c5 k5
 have Iu:aL K mg "are_ties" T7 ["n","thing"] f5 _:=⟨F5,F5.binds (fun _ _ _ _ _ _ us hl=>by obtain⟨u0,u1,rfl⟩:=Hs.len_2 hl;rfl),cg X G a5⟩
 have F6:=dB (st:=cU) l6 c6 k6
 have Fi:aL K mg "is_web" cU ["thing"] f6 _:=⟨F6,F6.binds (fun _ _ _ _ _ _ us hl=>by obtain⟨u0,rfl⟩:=Hs.len_1 hl;rfl),cg X G a6⟩
 have F7:=dB (st:=yR) l7 c7 k7
 have aX:aL K mg "need_web" yR ["thing"] f7 _:=⟨F7,F7.binds (fun _ _ _ _ _ _ us hl=>by obtain⟨u0,rfl⟩:=Hs.len_1 hl;rfl),cg X G a7⟩
 have F8:=dB (st:=Rj) l8 c8 k8
 have rE:aL K mg "need_place" Rj ["web","thing"] f8 _:=⟨F8,F8.binds (fun _ _ _ _ _ _ us hl=>by obtain⟨u0,u1,rfl⟩:=Hs.len_2 hl;rfl),cg X G a8⟩
 have F9:=dB (st:=Q6) l9 c9 k9
 have qd:aL K mg "need_set" Q6 ["web","thing"] f9 _:=⟨F9,F9.binds (fun _ _ _ _ _ _ us hl=>by obtain⟨u0,u1,rfl⟩:=Hs.len_2 hl;rfl),cg X G a9⟩
 have F10:=dB (st:=Rn) l10 c10 k10
 have lu:aL K mg "need_from_to" Rn ["least","most","thing"] f10 _:=⟨F10,F10.binds (fun _ _ _ _ _ _ us hl=>by obtain⟨u0,u1,u2,rfl⟩:=Hs.len_3 hl;rfl),cg X G a10⟩
 have F11:=dB (st:=MJ) l11 c11 k11
 have iU:aL K mg "need_few" MJ ["n"] f11 _:=⟨F11,F11.binds (fun _ _ _ _ _ _ us hl=>by obtain⟨u0,rfl⟩:=Hs.len_1 hl;rfl),cg X G a11⟩
 have F12:=dB (st:=cL) l12 c12 k12
 have rC:aL K mg "pairs" cL ["n"] f12 _:=⟨F12,F12.binds (fun _ _ _ _ _ _ us hl=>by obtain⟨u0,rfl⟩:=Hs.len_1 hl;rfl),cg X G a12⟩
 have F13:=dB (st:=T5) l13 c13 k13
 have Iw:aL K mg "all_sets" T5 ["n"] f13 _:=⟨F13,F13.binds (fun _ _ _ _ _ _ us hl=>by obtain⟨u0,rfl⟩:=Hs.len_1 hl;rfl),cg X G a13⟩
 have F14:=dB (st:=cN) l14 c14 k14
 have LQ:aL K mg "without" cN ["some","part"] Xh _:=⟨F14,F14.binds (fun _ _ _ _ _ _ us hl=>by obtain⟨u0,u1,rfl⟩:=Hs.len_2 hl;rfl),cg X G a14⟩
 have F15:=dB (st:=Fw) l15 c15 k15
 have cQ:aL K mg "has_tie" Fw ["web","one","other"] Xg _:=⟨F15,F15.binds (fun _ _ _ _ _ _ us hl=>by obtain⟨u0,u1,u2,rfl⟩:=Hs.len_3 hl;rfl),cg X G a15⟩
 have F16:=dB (st:=T6) l16 c16 k16
 have Iv:aL K mg "are_tied" T6 ["web","one","other"] Xf _:=⟨F16,F16.binds (fun _ _ _ _ _ _ us hl=>by obtain⟨u0,u1,u2,rfl⟩:=Hs.len_3 hl;rfl),cg X G a16⟩
 have F17:=dB (st:=Rk) l17 c17 k17
 have rD:aL K mg "neighbours" Rk ["web","place"] Xe _:=⟨F17,F17.binds (fun _ _ _ _ _ _ us hl=>by obtain⟨u0,u1,rfl⟩:=Hs.len_2 hl;rfl),cg X G a17⟩
 have F18:=dB (st:=Ri) l18 c18 k18
 have rF:aL K mg "moved_ties" Ri ["web","by"] Xd _:=⟨F18,F18.binds (fun _ _ _ _ _ _ us hl=>by obtain⟨u0,u1,rfl⟩:=Hs.len_2 hl;rfl),cg X G a18⟩
 have F19:=dB (st:=Uh) l19 c19 k19
 have yM:aL K mg "ties_between" Uh ["n","m"] Xc _:=⟨F19,F19.binds (fun _ _ _ _ _ _ us hl=>by obtain⟨u0,u1,rfl⟩:=Hs.len_2 hl;rfl),cg X G a19⟩
 have F20:=dB (st:=cW) l20 c20 k20
 have Fl:aL K mg "beside" cW ["one","other"] Xb _:=⟨F20,F20.binds (fun _ _ _ _ _ _ us hl=>by obtain⟨u0,u1,rfl⟩:=Hs.len_2 hl;rfl),cg X G a20⟩
 have F21:=dB (st:=dO) l21 c21 k21
 have QV:aL K mg "across" dO ["one","other"] Xa _:=⟨F21,F21.binds (fun _ _ _ _ _ _ us hl=>by obtain⟨u0,u1,rfl⟩:=Hs.len_2 hl;rfl),cg X G a21⟩
 have F22:=dB (st:=Uj) l22 c22 k22
 have uQ:aL K mg "is_tie_within" Uj ["one","other","tie"] f22 _:=⟨F22,F22.binds (fun _ _ _ _ _ _ us hl=>by obtain⟨u0,u1,u2,rfl⟩:=Hs.len_3 hl;rfl),cg X G a22⟩
 have F23:=dB (st:=dN) l23 c23 k23
 have QS:aL K mg "within" dN ["one","other"] f23 _:=⟨F23,F23.binds (fun _ _ _ _ _ _ us hl=>by obtain⟨u0,u1,rfl⟩:=Hs.len_2 hl;rfl),cg X G a23⟩
 have F24:=dB (st:=Ub) l24 c24 k24
 have Fg:aL K mg "other_web" Ub ["web"] f24 _:=⟨F24,F24.binds (fun _ _ _ _ _ _ us hl=>by obtain⟨u0,rfl⟩:=Hs.len_1 hl;rfl),cg X G a24⟩
 have F25:=dB (st:=T8) l25 c25 k25
 have Ir:aL K mg "cut_down" T8 ["web","some"] f25 _:=⟨F25,F25.binds (fun _ _ _ _ _ _ us hl=>by obtain⟨u0,u1,rfl⟩:=Hs.len_2 hl;rfl),cg X G a25⟩
 have F26:=dB (st:=Ro) l26 c26 k26
 have jf:aL K mg "count_ties_in" Ro ["web","some"] f26 _:=⟨F26,F26.binds (fun _ _ _ _ _ _ us hl=>by obtain⟨u0,u1,rfl⟩:=Hs.len_2 hl;rfl),cg X G a26⟩
 have F27:=dB (st:=Q7) l27 c27 k27
 have fO:aL K mg "are_all_tied" Q7 ["web","some"] f27 _:=⟨F27,F27.binds (fun _ _ _ _ _ _ us hl=>by obtain⟨u0,u1,rfl⟩:=Hs.len_2 hl;rfl),cg X G a27⟩
 have F28:=dB (st:=T9) l28 c28 k28
 have Ip:aL K mg "is_apart" T9 ["web","some"] f28 _:=⟨F28,F28.binds (fun _ _ _ _ _ _ us hl=>by obtain⟨u0,u1,rfl⟩:=Hs.len_2 hl;rfl),cg X G a28⟩
 have F29:=dB (st:=Ua) l29 c29 k29
 have Io:aL K mg "is_crowd" Ua ["web","some"] f29 _:=⟨F29,F29.binds (fun _ _ _ _ _ _ us hl=>by obtain⟨u0,u1,rfl⟩:=Hs.len_2 hl;rfl),cg X G a29⟩
 have F30:=dB (st:=Rp) l30 c30 k30
 have je:aL K mg "places_by_tie" Rp ["web","place","tied"] f30 _:=⟨F30,F30.binds (fun _ _ _ _ _ _ us hl=>by obtain⟨u0,u1,u2,rfl⟩:=Hs.len_3 hl;rfl),cg X G a30⟩
 have F31:=dB (st:=QX) l31 c31 k31
 have Al:aL K mg "in_both" QX ["ones","others"] f31 _:=⟨F31,F31.binds (fun _ _ _ _ _ _ us hl=>by obtain⟨u0,u1,rfl⟩:=Hs.len_2 hl;rfl),cg X G a31⟩
 have F32:=dB (st:=Rf) l32 c32 k32
 have uL:aL K mg "full_sets" Rf ["friends"] f32 _:=⟨F32,F32.binds (fun _ _ _ _ _ _ us hl=>by obtain⟨u0,rfl⟩:=Hs.len_1 hl;rfl),cg X G a32⟩
 have F33:=dB (st:=Rh) l33 c33 k33
 have rG:aL K mg "full_apart" Rh ["web"] f33 _:=⟨F33,F33.binds (fun _ _ _ _ _ _ us hl=>by obtain⟨u0,rfl⟩:=Hs.len_1 hl;rfl),cg X G a33⟩
 have F34:=dB (st:=Rm) l34 c34 k34
 have mW:aL K mg "full_crowds" Rm ["web"] f34 _:=⟨F34,F34.binds (fun _ _ _ _ _ _ us hl=>by obtain⟨u0,rfl⟩:=Hs.len_1 hl;rfl),cg X G a34⟩
 have F35:=dB (st:=Rq) l35 c35 k35
 have iy:aL K mg "first_greatest" Rq ["sets"] f35 _:=⟨F35,F35.binds (fun _ _ _ _ _ _ us hl=>by obtain⟨u0,rfl⟩:=Hs.len_1 hl;rfl),cg X G a35⟩
 have F36:=dB (st:=Ul) l36 c36 k36
 have um:aL K mg "greatest_apart" Ul ["web"] f36 _:=⟨F36,F36.binds (fun _ _ _ _ _ _ us hl=>by obtain⟨u0,rfl⟩:=Hs.len_1 hl;rfl),cg X G a36⟩
 have F37:=dB (st:=Rr) l37 c37 k37
 have iw:aL K mg "greatest_crowd" Rr ["web"] f37 _:=⟨F37,F37.binds (fun _ _ _ _ _ _ us hl=>by obtain⟨u0,rfl⟩:=Hs.len_1 hl;rfl),cg X G a37⟩
 have F38:=dB (st:=MP) l38 c38 k38
 have dZ:aL K mg "are_unlike_places" MP ["n","things"] f38 _:=⟨F38,F38.binds (fun _ _ _ _ _ _ us hl=>by obtain⟨u0,u1,rfl⟩:=Hs.len_2 hl;rfl),cg X G a38⟩
 have F39:=dB (st:=MN) l39 c39 k39
 have eV:aL K mg "tied_among" MN ["web","place","some"] f39 _:=⟨F39,F39.binds (fun _ _ _ _ _ _ us hl=>by obtain⟨u0,u1,u2,rfl⟩:=Hs.len_3 hl;rfl),cg X G a39⟩
 have F40:=dB (st:=Ud) l40 c40 k40
 have zx:aL K mg "first_to_go" Ud ["web","left"] f40 _:=⟨F40,F40.binds (fun _ _ _ _ _ _ us hl=>by obtain⟨u0,u1,rfl⟩:=Hs.len_2 hl;rfl),cg X G a40⟩
 have F41:=dB (st:=Uc) l41 c41 k41
 have Cv:aL K mg "next_steps" Uc ["web","path"] f41 _:=⟨F41,F41.binds (fun _ _ _ _ _ _ us hl=>by obtain⟨u0,u1,rfl⟩:=Hs.len_2 hl;rfl),cg X G a41⟩
 have F42:=dB (st:=Uk) l42 c42 k42
 have uo:aL K mg "find_bare_ring" Uk ["web"] f42 _:=⟨F42,F42.binds (fun _ _ _ _ _ _ us hl=>by obtain⟨u0,rfl⟩:=Hs.len_1 hl;rfl),cg X G a42⟩
 have F43:=dB (st:=iG) l43 c43 k43
 have QT:aL K mg "fold" iG ["web"] f43 _:=⟨F43,F43.binds (fun _ _ _ _ _ _ us hl=>by obtain⟨u0,rfl⟩:=Hs.len_1 hl;rfl),cg X G a43⟩
 have F44:=dB (st:=cO) l44 c44 k44
 have LR:aL K mg "is_fold" cO ["web","order"] f44 _:=⟨F44,F44.binds (fun _ _ _ _ _ _ us hl=>by obtain⟨u0,u1,rfl⟩:=Hs.len_2 hl;rfl),cg X G a44⟩
 have F45:=dB (st:=Ug) l45 c45 k45
 have yN:aL K mg "is_bare_ring" Ug ["web","some"] f45 _:=⟨F45,F45.binds (fun _ _ _ _ _ _ us hl=>by obtain⟨u0,u1,rfl⟩:=Hs.len_2 hl;rfl),cg X G a45⟩
 have F46:=dB (st:=Ui) l46 c46 k46
 have uR:aL K mg "hues_by_order" Ui ["web","order"] f46 _:=⟨F46,F46.binds (fun _ _ _ _ _ _ us hl=>by obtain⟨u0,u1,rfl⟩:=Hs.len_2 hl;rfl),cg X G a46⟩
 have F47:=dB (st:=cP) l47 c47 k47
 have Ma:aL K mg "by_fold" cP ["web"] f47 _:=⟨F47,F47.binds (fun _ _ _ _ _ _ us hl=>by obtain⟨u0,rfl⟩:=Hs.len_1 hl;rfl),cg X G a47⟩
 have F48:=dB (st:=jo) l48 c48 k48
 have Wr:aL K mg "ring" jo ["n"] f48 _:=⟨F48,F48.binds (fun _ _ _ _ _ _ us hl=>by obtain⟨u0,rfl⟩:=Hs.len_1 hl;rfl),cg X G a48⟩
 have F49:=dB (st:=fZ) l49 c49 k49
 have T3:aL K mg "picks" fZ ["m","k"] f49 _:=⟨F49,F49.binds (fun _ _ _ _ _ _ us hl=>by obtain⟨u0,u1,rfl⟩:=Hs.len_2 hl;rfl),cg X G a49⟩
 have F50:=dB (st:=gj) l50 c50 k50
 have T4:aL K mg "grown" gj ["web"] f50 _:=⟨F50,F50.binds (fun _ _ _ _ _ _ us hl=>by obtain⟨u0,rfl⟩:=Hs.len_1 hl;rfl),cg X G a50⟩
 have F51:=dB (st:=Ue) l51 c51 k51
 have zu:aL K mg "_law_b_kinds" Ue ["e"] f51 _:=⟨F51,F51.binds (fun _ _ _ _ _ _ us hl=>by obtain⟨u0,rfl⟩:=Hs.len_1 hl;rfl),cg X G a51⟩
 have F52:=dB (st:=Ur) l52 c52 k52
 have lC:aL K mg "_law_b_errors_right" Ur [] f52 _:=⟨F52,F52.binds (fun _ _ _ _ _ _ us hl=>by obtain⟨rfl⟩:=Hs.len_0 hl;rfl),cg X G a52⟩
 have F53:=dB (st:=Uo) l53 c53 k53
 have qe:aL K mg "_law_b_sets_right" Uo ["net"] f53 _:=⟨F53,F53.binds (fun _ _ _ _ _ _ us hl=>by obtain⟨u0,rfl⟩:=Hs.len_1 hl;rfl),cg X G a53⟩
 have F54:=dB (st:=Um) l54 c54 k54
 have qg:aL K mg "_law_b_made_right" Um ["net"] f54 _:=⟨F54,F54.binds (fun _ _ _ _ _ _ us hl=>by obtain⟨u0,rfl⟩:=Hs.len_1 hl;rfl),cg X G a54⟩
 have F55:=dB (st:=Uq) l55 c55 k55
 have mK:aL K mg "_law_b_folds_right" Uq ["net"] f55 _:=⟨F55,F55.binds (fun _ _ _ _ _ _ us hl=>by obtain⟨u0,rfl⟩:=Hs.len_1 hl;rfl),cg X G a55⟩
 have F56:=dB (st:=qJ) l56 c56 k56
 have dH:=cg X G x0
 have fX:=cg X G x1
 have Ax:=cg X G x2
 have BK:=CK X G z0
 have Yq:=CK X G z1
 have Ad:=CK X G z2
 have Yp:=CK X G z3
 have V0:=CK X G z4
 have uG:=CK X G z5
 have Yo:=CK X G z6
 have bJ:=CK X G z7
 have fu:=CK X G z8
 have BJ:=CK X G z9
 have U8:=CK X G Ut
 have U7:=CK X G z11
 have bM:=CK X G Ws
 have Hr:=CK X G z13
 have U6:=CK X G Us
 have ju:=CK X G z15
 have bH:=CK X G z16
 have qO:=cg X G y0
 have iK:=cg X G y1
 have lO:=cg X G y2
 have vg:=cg X G y3
 have qN:=cg X G y4
 have vf:=cg X G y5
 have lN:=cg X G y6
 have vd:=cg X G y7
 have lM:=cg X G y8
 have iM:=cg X G y9
 refine⟨W.fnOf "law" "law" (defArgs qJ) (defBody qJ) (defScope qJ) .none Yw YT Yj Z1 Wf YW,fun s v=> .of_eq rfl,fun base _ _=> ?_⟩
 have BZ:=Oz (P:=l.prog) (w:=w) (base:=base) F0 bJ Yo V0
 have Ca:=O2 (P:=l.prog) (w:=w) (base:=base) F1 qj BZ
 have Qd:=Kw (P:=l.prog) (w:=w) (base:=base) F2 qm Ca Ad
 have Ej:=Kv (P:=l.prog) (w:=w) (mg:=mg) (base:=base) F3 Ad bM fu
 have Vc:=VL (P:=l.prog) (w:=w) (base:=base) F4 iV Qd uK Ej bJ bH
 have V6:=R0 (P:=l.prog) (w:=w) (base:=base) F5 Fj Vc uK Ej bJ bH Ad fu
 have Vb:=VJ (P:=l.prog) (w:=w) (base:=base) F6 qj BZ Iu V6 bJ bH fu dH
 have bf:=GK (P:=l.prog) (w:=w) (base:=base) F7 Fi Vb
 have uH:=Bu (P:=l.prog) (w:=w) (base:=base) F8 qm Ca
 have tZ:=GQ (P:=l.prog) (w:=w) (base:=base) F9 Fj Vc
 have lR:=GR (P:=l.prog) (w:=w) (base:=base) F11 dH
 have El:=KJ (P:=l.prog) (w:=w) (mg:=mg) (base:=base) F10 qj BZ
 have uI:=VN (P:=l.prog) (w:=w) (mg:=mg) (base:=base) F15 U7 U8
 have Jw:=O6 (P:=l.prog) (w:=w) (base:=base) F17 aX bf rE uH cQ uI bH bM
 have V7:=R3 (P:=l.prog) (w:=w) (base:=base) F16 aX bf rE uH cQ uI
 have Ag:=GJ (P:=l.prog) (w:=w) (mg:=mg) (base:=base) F2 qm Ca Ad
 have yr:=R9 (P:=l.prog) (w:=w) (base:=base) F12 bM
 have YQ:=VP (P:=l.prog) (w:=w) (base:=base) F25 aX bf qd tZ rC yr cQ uI bH fu
 have Tc:=O5 (P:=l.prog) (w:=w) (base:=base) F24 aX bf rC yr bH
 have Jx:=O7 (P:=l.prog) (w:=w) (mg:=mg) (base:=base) F18
 have Le:=Hi (P:=l.prog) (w:=w) (base:=base) F19 bM
 have En:=KY (P:=l.prog) (w:=w) (base:=base) F20 aX bf iU lR rF Jx bH
 have Qj:=KZ (P:=l.prog) (w:=w) (base:=base) F21 Fl En yM Le bH ju BJ
 have SM:=OD (P:=l.prog) (w:=w) (base:=base) F22 cQ uI
 have Qa:=Ks (P:=l.prog) (w:=w) (base:=base) F23 aX bf iU lR rC yr uQ SM bH
 have Jy:=Pg (P:=l.prog) (w:=w) (mg:=mg) (base:=base) F26 fu
 have uc:=Hj (P:=l.prog) (w:=w) (mg:=mg) (base:=base) F27 jf Jy fu
 have La:=GZ (P:=l.prog) (w:=w) (mg:=mg) (base:=base) F28 aX bf qd tZ jf Jy
 have K9:=GX (P:=l.prog) (w:=w) (mg:=mg) (base:=base) F29 aX bf qd tZ fO uc
 have K8:=GF (P:=l.prog) (w:=w) (mg:=mg) (base:=base) F38 iV Ag U6 fu
 have Qc:=Ku (P:=l.prog) (w:=w) (mg:=mg) (base:=base) F38 iV Ag U6 fu
 have vo:=Pj (P:=l.prog) (w:=w) (mg:=mg) (base:=base) F39 cQ uI
 have Qe:=Kz (P:=l.prog) (w:=w) (mg:=mg) (base:=base) F44 aX bf dZ K8 fO uc eV vo fu bJ bH Ad uG
 have HD:=DK (P:=l.prog) (w:=w) (mg:=mg) (base:=base) F45 aX bf dZ Qc rC yr cQ uI fu bJ BJ Ad fX
 have K7:=Gz (P:=l.prog) (w:=w) (mg:=mg) (base:=base) F14 bH
 have Tg:=Pb (P:=l.prog) (w:=w) (mg:=mg) (base:=base) F40 fO uc eV vo
 have V9:=R5 (P:=l.prog) (w:=w) (mg:=mg) (base:=base) F41 rD Jw eV vo
 have V8:=R4 (P:=l.prog) (w:=w) (mg:=mg) (base:=base) F42 Cv V9 cQ uI bM fu fX
 have Qi:=R7 (P:=l.prog) (w:=w) (mg:=mg) (base:=base) F43 aX bf zx Tg uo V8 LQ K7 bH bM
 have Jz:=Ph (P:=l.prog) (w:=w) (mg:=mg) (base:=base) F30 cQ uI bM
 have Qf:=KC (P:=l.prog) (w:=w) (mg:=mg) (base:=base) F31
 have yq:=DG (P:=l.prog) (w:=w) (mg:=mg) (base:=base) F32 Al Qf BJ bM fu ju
 have uJ:=Bv (P:=l.prog) (w:=w) (mg:=mg) (base:=base) F33 aX bf uL yq je Jz bM
 have qU:=zf (P:=l.prog) (w:=w) (mg:=mg) (base:=base) F34 aX bf uL yq je Jz bM
 have Em:=KR (P:=l.prog) (w:=w) (mg:=mg) (base:=base) F35 U8 fu
 have Qg:=KH (P:=l.prog) (w:=w) (mg:=mg) (base:=base) F36 iy Em rG uJ
 have Ek:=KD (P:=l.prog) (w:=w) (mg:=mg) (base:=base) F37 iy Em mW qU
 have Tf:=Pa (P:=l.prog) (w:=w) (mg:=mg) (base:=base) F50 aX bf iU lR rF Jx bM bH ju
 have Lf:=Hl (P:=l.prog) (w:=w) (mg:=mg) (base:=base) F13 bM
 have Lb:=Hg (P:=l.prog) (w:=w) (mg:=mg) (base:=base) F31
 have SQ:=O1 (P:=l.prog) (w:=w) (mg:=mg) (base:=base) F48 lu El bM bH ju Ax dH
 have SX:=O4 (P:=l.prog) (w:=w) (mg:=mg) (base:=base) F49 lu El Iw Lf iU lR Al Lb rC yr ju fu bH dH
 have Wa:=R6 (P:=l.prog) (w:=w) (mg:=mg) (base:=base) F46 eV vo Hr BJ U7 bM bH
 have Ld:=Hh (P:=l.prog) (w:=w) (mg:=mg) (base:=base) F47 QT Qi iw Ek uR Wa fu
 have Te:=O9 (P:=l.prog) (w:=w) (mg:=mg) (base:=base) F51 bJ qO iK lO vg qN vf lN vd lM
 have Wb:=R8 (P:=l.prog) (w:=w) (mg:=mg) (base:=base) F52 zu Te PySem.F.excBase_ValueError ⟨Ys ⟨(cI ⟨⟨_,vZ⟩,tY,tU,tW,iZ,uO,sy,sG⟩ vG tO tL tH tE tu sY sW sU sO),sI⟩ ⟨(cI ⟨⟨_,nO⟩,kj,j7,j9,iZ,uO,jw,jy⟩ m9 jX jV jT jQ jO jM jK jH jF),jE⟩ ⟨(cI ⟨⟨_,rZ⟩,p7,pR,pX,iZ,uO,nU,nZ⟩ rM pJ pG pC pq oZ oW oR oM oH),oE⟩ ⟨(cI ⟨⟨_,Br⟩,yp,xY,yg,iZ,uO,wC,wH⟩ Aw xU xQ xM xH xq w5 wX wU wO),wL⟩ ⟨(cI ⟨⟨_,vY⟩,tX,tR,tV,iZ,uO,su,sE⟩ vD tM tK tG tD sZ sX sV sS sJ),sH⟩ ⟨(cI ⟨⟨_,Bq⟩,yj,xX,yd,iZ,uO,wB,wG⟩ Av xT xP xK xG xg wZ wW wR wN),wK⟩ ⟨(cI ⟨⟨_,rY⟩,pZ,pQ,pW,iZ,uO,nT,nY⟩ rK pI pF pB o9 oY oV oO oK oG),ou⟩ ⟨(cI ⟨⟨_,Bp⟩,yh,xW,yc,iZ,uO,wA,wF⟩ Ar xR xO xJ xr w6 wY wV wQ wM),wJ⟩ ⟨(cI ⟨⟨_,rW⟩,pY,pO,pU,iZ,uO,nR,nW⟩ rJ pH pD pA o8 oX oU oN oJ oF),oh⟩,(cI ⟨⟨_,nP⟩,kJ,j8,kh,iZ,uO,jx,jz⟩ nu jY jW jU jR jP jN jL jJ jG)⟩ qO j5 gU iK fJ dR lO gZ fH vg qT jD qN j4 gR vf qR jC lN gY fG vd qQ jB lM gW fD iM fK dU uG BK bJ bM Yp
 have SN:=OJ (P:=l.prog) (w:=w) (mg:=mg) (base:=base) F53 Iv V7 Fi Vb Ip La rD Jw rG uJ Io K9 um Qg mW qU iw Ek
 have Td:=O8 (P:=l.prog) (w:=w) (mg:=mg) (base:=base) F54 QV Qj Fl En Fg Tc QS Qa T4 Tf Ir YQ T3 SX Wr SQ
 have Qh:=KQ (P:=l.prog) (w:=w) (mg:=mg) (base:=base) F55 QT Qi yN HD Ma Ld LR Qe
 exact ok_law (P:=l.prog) (w:=w) (mg:=mg) (base:=base) F56 qe SN lC Wb mK Qh qg Td Yq bM bH
theorem walk{l:PySem.W.OpenLaw}{q:Program}{loose:List Str}{XP:(Str->Option Value)->Heap->Prop}{YP:World->Heap->Prop}{d:DefRec}{K:Params->PySem.W.Frag}(hn:l.most=some 63)(hdf:d.params.defaults=[])(hY:∀(w:World) (h:Heap),YP w h->(K w.params).In h)
  (F:∀(w:World) (mg:Str->Option Value) (fa:Addr) (h:Heap),(K w.params).In h->h.Ns mainGlobals mg->mg d.name=some (.ref fa)->
   ∃fd:FuncData,(∀(s:Shared) (u:Value),BindsTo s fd ⟨[u],[]⟩ [("script",u)])/\∀base:Heap,(K w.params).In base->base.Ns mainGlobals mg->FnOk l.prog w (K w.params) mg base CX0 14 fa fd ["script"] (spLaw (K w.params))):
  PySem.W.WalkO q loose XP YP l.row.toRowW d [] (fun f vs=>PySem.call f vs):=
 L2.walk_of (n:=63) (k:=14) (x:="script") (CX:=fun _=>CX0) (sp:=fun w=>spLaw (K w.params)) hn (by decide) hdf ⟨rfl,by decide,by decide,rfl⟩ hY F (fun _ _ a ns hl hO hS=>NQ hl hO hS) fun _ _ _ _ _ z=>z
end Hs
open PySem PySem.W PyProof.Rows
set_option maxRecDepth 100000 in
set_option maxHeartbeats 0 in
theorem PySem.Challenge.cw_hueshare_k19_handed_by_names_holds : PySem.Challenge.rw_hueshare_k19_handed_by_names.Holds := by
 refine Hd.early.2 ?_
 unfold Hd.early
 dsimp only
 k_fill
 refine Hs.walk (l:=PySem.Challenge.rw_hueshare_k19_handed_by_names) rfl rfl (fun w h Y=>PySem.W.kIn_of Y) ?F
 case F=>
  intro w mg fa h KX G hmg
  refine' Hs.all_mk KX G hmg ?a0 ?l0 ?c0 ?k0 ?a1 ?l1 ?c1 ?k1 ?a2 ?l2 ?c2 ?k2 ?a3 ?l3 ?c3 ?k3 ?a4 ?l4 ?c4 ?k4 ?a5 ?l5 ?c5 ?k5 ?a6 ?l6 ?c6 ?k6 ?a7 ?l7 ?c7 ?k7 ?a8 ?l8 ?c8 ?k8 ?a9 ?l9 ?c9 ?k9 ?a10 ?l10 ?c10 ?k10 ?a11 ?l11 ?c11 ?k11 ?a12 ?l12 ?c12 ?k12 ?a13 ?l13 ?c13 ?k13 ?a14 ?l14 ?c14 ?k14 ?a15 ?l15 ?c15 ?k15 ?a16 ?l16 ?c16 ?k16 ?a17 ?l17 ?c17 ?k17 ?a18 ?l18 ?c18 ?k18 ?a19 ?l19 ?c19 ?k19 ?a20 ?l20 ?c20 ?k20 ?a21 ?l21 ?c21 ?k21 ?a22 ?l22 ?c22 ?k22 ?a23 ?l23 ?c23 ?k23 ?a24 ?l24 ?c24 ?k24 ?a25 ?l25 ?c25 ?k25 ?a26 ?l26 ?c26 ?k26 ?a27 ?l27 ?c27 ?k27 ?a28 ?l28 ?c28 ?k28 ?a29 ?l29 ?c29 ?k29 ?a30 ?l30 ?c30 ?k30 ?a31 ?l31 ?c31 ?k31 ?a32 ?l32 ?c32 ?k32 ?a33 ?l33 ?c33 ?k33 ?a34 ?l34 ?c34 ?k34 ?a35 ?l35 ?c35 ?k35 ?a36 ?l36 ?c36 ?k36 ?a37 ?l37 ?c37 ?k37 ?a38 ?l38 ?c38 ?k38 ?a39 ?l39 ?c39 ?k39 ?a40 ?l40 ?c40 ?k40 ?a41 ?l41 ?c41 ?k41 ?a42 ?l42 ?c42 ?k42 ?a43 ?l43 ?c43 ?k43 ?a44 ?l44 ?c44 ?k44 ?a45 ?l45 ?c45 ?k45 ?a46 ?l46 ?c46 ?k46 ?a47 ?l47 ?c47 ?k47 ?a48 ?l48 ?c48 ?k48 ?a49 ?l49 ?c49 ?k49 ?a50 ?l50 ?c50 ?k50 ?a51 ?l51 ?c51 ?k51 ?a52 ?l52 ?c52 ?k52 ?a53 ?l53 ?c53 ?k53 ?a54 ?l54 ?c54 ?k54 ?a55 ?l55 ?c55 ?k55 ?a56 ?l56 ?c56 ?k56 ?x0 ?x1 ?x2 ?z0 ?z1 ?z2 ?z3 ?z4 ?z5 ?z6 ?z7 ?z8 ?z9 ?Ut ?z11 ?Ws ?z13 ?Us ?z15 ?z16 ?y0 ?y1 ?y2 ?y3 ?y4 ?y5 ?y6 ?y7 ?y8 ?y9 ?iZ ?uO ?j5 ?gU ?vZ ?tY ?tU ?tW ?sy ?sG ?vG ?tO ?tL ?tH ?tE ?tu ?sY ?sW ?sU ?sO ?sI ?fJ ?dR ?nO ?kj ?j7 ?j9 ?jw ?jy ?m9 ?jX ?jV ?jT ?jQ ?jO ?jM ?jK ?jH ?jF ?jE ?gZ ?fH ?rZ ?p7 ?pR ?pX ?nU ?nZ ?rM ?pJ ?pG ?pC ?pq ?oZ ?oW ?oR ?oM ?oH ?oE ?qT ?jD ?Br ?yp ?xY ?yg ?wC ?wH ?Aw ?xU ?xQ ?xM ?xH ?xq ?w5 ?wX ?wU ?wO ?wL ?j4 ?gR ?vY ?tX ?tR ?tV ?su ?sE ?vD ?tM ?tK ?tG ?tD ?sZ ?sX ?sV ?sS ?sJ ?sH ?qR ?jC ?Bq ?yj ?xX ?yd ?wB ?wG ?Av ?xT ?xP ?xK ?xG ?xg ?wZ ?wW ?wR ?wN ?wK ?gY ?fG ?rY ?pZ ?pQ ?pW ?nT ?nY ?rK ?pI ?pF ?pB ?o9 ?oY ?oV ?oO ?oK ?oG ?ou ?qQ ?jB ?Bp ?yh ?xW ?yc ?wA ?wF ?Ar ?xR ?xO ?xJ ?xr ?w6 ?wY ?wV ?wQ ?wM ?wJ ?gW ?fD ?rW ?pY ?pO ?pU ?nR ?nW ?rJ ?pH ?pD ?pA ?o8 ?oX ?oU ?oN ?oJ ?oF ?oh ?fK ?dU ?nP ?kJ ?j8 ?kh ?jx ?jz ?nu ?jY ?jW ?jU ?jR ?jP ?jN ?jL ?jJ ?jG
  (case a0=>k_is)
  (case l0=>k_is)
  (case c0=>k_is)
  (case k0=>k_is)
  (case a1=>k_is)
  (case l1=>k_is)
  (case c1=>k_is)
  (case k1=>k_is)
  (case a2=>k_is)
  (case l2=>k_is)
  (case c2=>k_is)
  (case k2=>k_is)
  (case a3=>k_is)
  (case l3=>k_is)
  (case c3=>k_is)
  (case k3=>k_is)
  (case a4=>k_is)
  (case l4=>k_is)
  (case c4=>k_is)
  (case k4=>k_is)
  (case a5=>k_is)
  (case l5=>k_is)
  (case c5=>k_is)
  (case k5=>k_is)
  (case a6=>k_is)
  (case l6=>k_is)
  (case c6=>k_is)
  (case k6=>k_is)
  (case a7=>k_is)
  (case l7=>k_is)
  (case c7=>k_is)
  (case k7=>k_is)
  (case a8=>k_is)
  (case l8=>k_is)
  (case c8=>k_is)
  (case k8=>k_is)
  (case a9=>k_is)
  (case l9=>k_is)
  (case c9=>k_is)
  (case k9=>k_is)
  (case a10=>k_is)
  (case l10=>k_is)
  (case c10=>k_is)
  (case k10=>k_is)
  (case a11=>k_is)
  (case l11=>k_is)
  (case c11=>k_is)
  (case k11=>k_is)
  (case a12=>k_is)
  (case l12=>k_is)
  (case c12=>k_is)
  (case k12=>k_is)
  (case a13=>k_is)
  (case l13=>k_is)
  (case c13=>k_is)
  (case k13=>k_is)
  (case a14=>k_is)
  (case l14=>k_is)
  (case c14=>k_is)
  (case k14=>k_is)
  (case a15=>k_is)
  (case l15=>k_is)
  (case c15=>k_is)
  (case k15=>k_is)
  (case a16=>k_is)
  (case l16=>k_is)
  (case c16=>k_is)
  (case k16=>k_is)
  (case a17=>k_is)
  (case l17=>k_is)
  (case c17=>k_is)
  (case k17=>k_is)
  (case a18=>k_is)
  (case l18=>k_is)
  (case c18=>k_is)
  (case k18=>k_is)
  (case a19=>k_is)
  (case l19=>k_is)
  (case c19=>k_is)
  (case k19=>k_is)
  (case a20=>k_is)
  (case l20=>k_is)
  (case c20=>k_is)
  (case k20=>k_is)
  (case a21=>k_is)
  (case l21=>k_is)
  (case c21=>k_is)
  (case k21=>k_is)
  (case a22=>k_is)
  (case l22=>k_is)
  (case c22=>k_is)
  (case k22=>k_is)
  (case a23=>k_is)
  (case l23=>k_is)
  (case c23=>k_is)
  (case k23=>k_is)
  (case a24=>k_is)
  (case l24=>k_is)
  (case c24=>k_is)
  (case k24=>k_is)
  (case a25=>k_is)
  (case l25=>k_is)
  (case c25=>k_is)
  (case k25=>k_is)
  (case a26=>k_is)
  (case l26=>k_is)
  (case c26=>k_is)
  (case k26=>k_is)
  (case a27=>k_is)
  (case l27=>k_is)
  (case c27=>k_is)
  (case k27=>k_is)
  (case a28=>k_is)
  (case l28=>k_is)
  (case c28=>k_is)
  (case k28=>k_is)
  (case a29=>k_is)
  (case l29=>k_is)
  (case c29=>k_is)
  (case k29=>k_is)
  (case a30=>k_is)
  (case l30=>k_is)
  (case c30=>k_is)
  (case k30=>k_is)
  (case a31=>k_is)
  (case l31=>k_is)
  (case c31=>k_is)
  (case k31=>k_is)
  (case a32=>k_is)
  (case l32=>k_is)
  (case c32=>k_is)
  (case k32=>k_is)
  (case a33=>k_is)
  (case l33=>k_is)
  (case c33=>k_is)
  (case k33=>k_is)
  (case a34=>k_is)
  (case l34=>k_is)
  (case c34=>k_is)
  (case k34=>k_is)
  (case a35=>k_is)
  (case l35=>k_is)
  (case c35=>k_is)
  (case k35=>k_is)
  (case a36=>k_is)
  (case l36=>k_is)
  (case c36=>k_is)
  (case k36=>k_is)
  (case a37=>k_is)
  (case l37=>k_is)
  (case c37=>k_is)
  (case k37=>k_is)
  (case a38=>k_is)
  (case l38=>k_is)
  (case c38=>k_is)
  (case k38=>k_is)
  (case a39=>k_is)
  (case l39=>k_is)
  (case c39=>k_is)
  (case k39=>k_is)
  (case a40=>k_is)
  (case l40=>k_is)
  (case c40=>k_is)
  (case k40=>k_is)
  (case a41=>k_is)
  (case l41=>k_is)
  (case c41=>k_is)
  (case k41=>k_is)
  (case a42=>k_is)
  (case l42=>k_is)
  (case c42=>k_is)
  (case k42=>k_is)
  (case a43=>k_is)
  (case l43=>k_is)
  (case c43=>k_is)
  (case k43=>k_is)
  (case a44=>k_is)
  (case l44=>k_is)
  (case c44=>k_is)
  (case k44=>k_is)
  (case a45=>k_is)
  (case l45=>k_is)
  (case c45=>k_is)
  (case k45=>k_is)
  (case a46=>k_is)
  (case l46=>k_is)
  (case c46=>k_is)
  (case k46=>k_is)
  (case a47=>k_is)
  (case l47=>k_is)
  (case c47=>k_is)
  (case k47=>k_is)
  (case a48=>k_is)
  (case l48=>k_is)
  (case c48=>k_is)
  (case k48=>k_is)
  (case a49=>k_is)
  (case l49=>k_is)
  (case c49=>k_is)
  (case k49=>k_is)
  (case a50=>k_is)
  (case l50=>k_is)
  (case c50=>k_is)
  (case k50=>k_is)
  (case a51=>k_is)
  (case l51=>k_is)
  (case c51=>k_is)
  (case k51=>k_is)
  (case a52=>k_is)
  (case l52=>k_is)
  (case c52=>k_is)
  (case k52=>k_is)
  (case a53=>k_is)
  (case l53=>k_is)
  (case c53=>k_is)
  (case k53=>k_is)
  (case a54=>k_is)
  (case l54=>k_is)
  (case c54=>k_is)
  (case k54=>k_is)
  (case a55=>k_is)
  (case l55=>k_is)
  (case c55=>k_is)
  (case k55=>k_is)
  (case a56=>k_is)
  (case l56=>k_is)
  (case c56=>k_is)
  (case k56=>k_is)
  (case x0=>k_is)
  (case x1=>k_is)
  (case x2=>k_is)
  (case z0=>k_is)
  (case z1=>k_is)
  (case z2=>k_is)
  (case z3=>k_is)
  (case z4=>k_is)
  (case z5=>k_is)
  (case z6=>k_is)
  (case z7=>k_is)
  (case z8=>k_is)
  (case z9=>k_is)
  (case Ut=>k_is)
  (case z11=>k_is)
  (case Ws=>k_is)
  (case z13=>k_is)
  (case Us=>k_is)
  (case z15=>k_is)
  (case z16=>k_is)
  (case y0=>k_is)
  (case y1=>k_is)
  (case y2=>k_is)
  (case y3=>k_is)
  (case y4=>k_is)
  (case y5=>k_is)
  (case y6=>k_is)
  (case y7=>k_is)
  (case y8=>k_is)
  (case y9=>k_is)
  (case iZ=>k_is)
  (case uO=>k_is)
  (case j5=>k_exc)
  (case gU=>k_is)
  (case vZ=>k_is)
  (case tY=>k_is)
  (case tU=>k_is)
  (case tW=>k_is)
  (case sy=>k_is)
  (case sG=>k_is)
  (case vG=>kit_is)
  (case tO=>kit_is)
  (case tL=>kit_is)
  (case tH=>kit_is)
  (case tE=>kit_is)
  (case tu=>kit_is)
  (case sY=>kit_is)
  (case sW=>kit_is)
  (case sU=>kit_is)
  (case sO=>kit_is)
  (case sI=>kit_is)
  (case fJ=>k_exc)
  (case dR=>k_is)
  (case nO=>k_is)
  (case kj=>k_is)
  (case j7=>k_is)
  (case j9=>k_is)
  (case jw=>k_is)
  (case jy=>k_is)
  (case m9=>kit_is)
  (case jX=>kit_is)
  (case jV=>kit_is)
  (case jT=>kit_is)
  (case jQ=>kit_is)
  (case jO=>kit_is)
  (case jM=>kit_is)
  (case jK=>kit_is)
  (case jH=>kit_is)
  (case jF=>kit_is)
  (case jE=>kit_is)
  (case gZ=>k_exc)
  (case fH=>k_is)
  (case rZ=>k_is)
  (case p7=>k_is)
  (case pR=>k_is)
  (case pX=>k_is)
  (case nU=>k_is)
  (case nZ=>k_is)
  (case rM=>kit_is)
  (case pJ=>kit_is)
  (case pG=>kit_is)
  (case pC=>kit_is)
  (case pq=>kit_is)
  (case oZ=>kit_is)
  (case oW=>kit_is)
  (case oR=>kit_is)
  (case oM=>kit_is)
  (case oH=>kit_is)
  (case oE=>kit_is)
  (case qT=>k_exc)
  (case jD=>k_is)
  (case Br=>k_is)
  (case yp=>k_is)
  (case xY=>k_is)
  (case yg=>k_is)
  (case wC=>k_is)
  (case wH=>k_is)
  (case Aw=>kit_is)
  (case xU=>kit_is)
  (case xQ=>kit_is)
  (case xM=>kit_is)
  (case xH=>kit_is)
  (case xq=>kit_is)
  (case w5=>kit_is)
  (case wX=>kit_is)
  (case wU=>kit_is)
  (case wO=>kit_is)
  (case wL=>kit_is)
  (case j4=>k_exc)
  (case gR=>k_is)
  (case vY=>k_is)
  (case tX=>k_is)
  (case tR=>k_is)
  (case tV=>k_is)
  (case su=>k_is)
  (case sE=>k_is)
  (case vD=>kit_is)
  (case tM=>kit_is)
  (case tK=>kit_is)
  (case tG=>kit_is)
  (case tD=>kit_is)
  (case sZ=>kit_is)
  (case sX=>kit_is)
  (case sV=>kit_is)
  (case sS=>kit_is)
  (case sJ=>kit_is)
  (case sH=>kit_is)
  (case qR=>k_exc)
  (case jC=>k_is)
  (case Bq=>k_is)
  (case yj=>k_is)
  (case xX=>k_is)
  (case yd=>k_is)
  (case wB=>k_is)
  (case wG=>k_is)
  (case Av=>kit_is)
  (case xT=>kit_is)
  (case xP=>kit_is)
  (case xK=>kit_is)
  (case xG=>kit_is)
  (case xg=>kit_is)
  (case wZ=>kit_is)
  (case wW=>kit_is)
  (case wR=>kit_is)
  (case wN=>kit_is)
  (case wK=>kit_is)
  (case gY=>k_exc)
  (case fG=>k_is)
  (case rY=>k_is)
  (case pZ=>k_is)
  (case pQ=>k_is)
  (case pW=>k_is)
  (case nT=>k_is)
  (case nY=>k_is)
  (case rK=>kit_is)
  (case pI=>kit_is)
  (case pF=>kit_is)
  (case pB=>kit_is)
  (case o9=>kit_is)
  (case oY=>kit_is)
  (case oV=>kit_is)
  (case oO=>kit_is)
  (case oK=>kit_is)
  (case oG=>kit_is)
  (case ou=>kit_is)
  (case qQ=>k_exc)
  (case jB=>k_is)
  (case Bp=>k_is)
  (case yh=>k_is)
  (case xW=>k_is)
  (case yc=>k_is)
  (case wA=>k_is)
  (case wF=>k_is)
  (case Ar=>kit_is)
  (case xR=>kit_is)
  (case xO=>kit_is)
  (case xJ=>kit_is)
  (case xr=>kit_is)
  (case w6=>kit_is)
  (case wY=>kit_is)
  (case wV=>kit_is)
  (case wQ=>kit_is)
  (case wM=>kit_is)
  (case wJ=>kit_is)
  (case gW=>k_exc)
  (case fD=>k_is)
  (case rW=>k_is)
  (case pY=>k_is)
  (case pO=>k_is)
  (case pU=>k_is)
  (case nR=>k_is)
  (case nW=>k_is)
  (case rJ=>kit_is)
  (case pH=>kit_is)
  (case pD=>kit_is)
  (case pA=>kit_is)
  (case o8=>kit_is)
  (case oX=>kit_is)
  (case oU=>kit_is)
  (case oN=>kit_is)
  (case oJ=>kit_is)
  (case oF=>kit_is)
  (case oh=>kit_is)
  (case fK=>k_exc)
  (case dU=>k_is)
  (case nP=>k_is)
  (case kJ=>k_is)
  (case j8=>k_is)
  (case kh=>k_is)
  (case jx=>k_is)
  (case jz=>k_is)
  (case nu=>kit_is)
  (case jY=>kit_is)
  (case jW=>kit_is)
  (case jU=>kit_is)
  (case jR=>kit_is)
  (case jP=>kit_is)
  (case jN=>kit_is)
  (case jL=>kit_is)
  (case jJ=>kit_is)
  (case jG=>kit_is)
