import PyProof.Rows.All
import Wide.All
import OpenK.AllK
import Wide.FinOn
import Lean
import PyProof.EqAt
import PyProof.EqKinds
import PyProof.TupleCall
import PyProof.ListRange
import PyProof.TupleOfSeq
import PyProof.Draws
import PyProof.EnumMake
import PyProof.TupleIter
import PyProof.Rows.SetFrom
import PyProof.SetRoads
import PyProof.WalksMore
import PyProof.Rows.SortShell
import KE.KMinBuiltin
import PyProof.Rows.CallKwBuiltin
import KE.KRevIter
import PyProof.Rows.Tup
import PyProof.Rows.Range3
import PyProof.DictWalks
import PyProof.DictTruth
import PyProof.TupleKey
import PyProof.Rows.SeqMore2
import PyProof.FString
import PyProof.StrWalks
import PyProof.StrBlockH
import PyProof.StrCalls2
import PyProof.SliceStr2
import KE.KIntText
import PyProof.StrLawsTight
import KE.KDictList
import PyProof.DictRoadsH
import KE.KLam
import KE.KNestM
import PyProof.DictItems
import PyProof.IsiHeapPairs
import KE.KPairComp
import PyProof.MinMaxWalk
import PyProof.MeetsSeq
import PyProof.Rows.ZipGen
import KE.IntBitsLaws
import PyProof.FitsBits
import PyProof.Tail
import PySem.Challenge.RW_hueshare_k28_so_many_hues_each
set_option Elab.async false
set_option linter.all false
set_option maxRecDepth 100000

noncomputable section
abbrev ak:=@PySem.wpAny_bind
abbrev aF:=@PySem.wpAny_pure
abbrev ao:=@if_neg
abbrev au:=@if_pos
abbrev fj:=@decide_eq_true
abbrev jN:=@decide_eq_false
abbrev fM:=@PySem.sizeLine_eq
abbrev qC:=@Bool.false_ne_true
abbrev tM:=@PySem.mem_of_lookup
abbrev Ez:=@PyProof.Rows.callWith_type1
abbrev pq:=@PySem.wpAny_ite_split
abbrev p8:=@Option.some.inj
abbrev tL:=@of_decide_eq_true
abbrev wY:=@PySem.Heap.SameBut.update
abbrev sG:=@PySem.PassesOwn.never
abbrev wK:=@PySem.wpAny_newObj_type
abbrev uM:=@PySem.wpAny_holding
abbrev wX:=@PySem.boot_len
abbrev jh:=@congrArg
abbrev Dd:=@PySem.wpAny_call_entry
abbrev Dc:=@Bool.and_eq_true
abbrev Ey:=@decide_eq_true_eq
abbrev zV:=@Bool.eq_iff_iff
abbrev M7:=@PySem.F.plainAttrs_list
abbrev Qw:=@Classical.byContradiction
abbrev Ho:=@PySem.wpAny_truthy_bool
abbrev CZ:=@PySem.codeAny_builtin
abbrev Qv:=@PySem.wpAny_callSpecial?_slot
abbrev M6:=@PySem.Around.under_plainId
abbrev Mt:=@PySem.wpAny_Call_Name_kw
abbrev Ms:=@PySem.Obj.data_mapFields
abbrev Mr:=@decide_eq_true_iff
abbrev zU:=@PySem.W.mg_none_of
abbrev RG:=@PySem.F.plain_min_loop
abbrev jY:=@Ne.symm
abbrev wbl:=@PyProof.Rows.slot_tuple_getitem
abbrev M5:=@PyProof.Rows.KeyOrd.kle_refl
abbrev zT:=@PySem.wpAny_mono
abbrev RD:=@of_decide_eq_false
abbrev wbp:=@PyProof.Rows.F.plain_set_update_loop
abbrev RB:=@PySem.Calls.spliced_nil
abbrev Qu:=@Bool.or_eq_true
abbrev wbs:=@PySem.F.slot_tuple_iterator_next
abbrev Vp:=@PySem.Calls.spliced_cons
abbrev WM:=@PySem.Obj.isFreed_of_fields
abbrev Qt:=@PySem.wpAny_setField
abbrev Vo:=@PySem.Value.isInt_shape
abbrev Rz:=@PySem.wpAny_passesOwn
abbrev wby:=@PySem.F.args_tuple_add_2
abbrev Ry:=@PyProof.Rows.get?_update_seq
abbrev Vn:=@PySem.wpAny_pyIter_list
abbrev Vm:=@PySem.Heap.SameBut.refl
abbrev Vl:=@List.Sublist.refl
abbrev wcd:=@PySem.F.slot_list_append
abbrev wce:=@PySem.F.type_list_append
abbrev M4:=@PySem.codeAny_mono
abbrev wcg:=@PyProof.Rows.callWith_builtin1
abbrev wch:=@PySem.F.entry_tuple_add
abbrev Qs:=@PySem.plainId_quiet
abbrev Vk:=@PySem.wpAny_isInstance
abbrev wck:=@PySem.F.slot_tuple_add
abbrev WL:=@Bool.false_eq_true
abbrev WK:=@PySem.wpAny_pyIter_tuple
abbrev Mq:=@PySem.call_meets
abbrev WD:=@PyProof.Rows.KeyOrd.kle_of_klt
abbrev Rx:=@PySem.wpAny_newList
abbrev wcq:=@PySem.Calls.call_function_entry
abbrev wcr:=@PyProof.Rows.F.entry_set_update_loop
abbrev Vj:=@PyProof.Rows.IntsAre.length
abbrev Vi:=@PySem.wpAny_tryCatch
abbrev Rw:=@PySem.wpAny_typeOf
abbrev wcv:=@PySem.wpAny_comprehension_free
abbrev MP:=@PySem.wpAny_rule
abbrev wcx:=@List.sublist_append_left
abbrev Wz:=@PySem.W.KasT.kasWp_bind
abbrev wcz:=@PySem.Code.quiet_builtin
abbrev Wy:=@PySem.wpAny_updateSeq
abbrev wdb:=@List.mem_singleton_self
abbrev wdc:=@PySem.F.slot_list_index
abbrev wdd:=@PySem.F.type_list_index
abbrev wde:=@PySem.F.entry_min_loop
abbrev Rv:=@PySem.wpAny_field
abbrev wdg:=@PySem.Heap.get?_push_ne
abbrev wdh:=@PySem.Obj.cls_mapFields
abbrev wdi:=@PySem.wpAny_pyIter_enum
abbrev wdj:=@PySem.wpAny_setState_of
abbrev wdk:=@Bool.not_eq_true'
abbrev wdl:=@List.getElem?_set
abbrev Wx:=@PySem.wpAny_runValue
abbrev Ww:=@PySem.wpAny_seqItems
abbrev wdo:=@PySem.noFill_tuple_add
abbrev wdp:=@Nat.le_of_not_lt
abbrev wdq:=@PyProof.Rows.KeyOrd.kle_trans
abbrev wdr:=@List.eq_nil_of_length_eq_zero
abbrev wds:=@PySem.wpAny_askSetting
abbrev wdt:=@List.any_eq_true
abbrev wdu:=@PySem.F.args_list_append_2
abbrev wdv:=@List.getElem?_append
abbrev wdw:=@PySem.F.args_tuple_iterator_next_1
abbrev Wv:=@Bool.false_or
abbrev Wu:=@Int.mul_assoc
abbrev Wt:=@Int.ofNat.inj
abbrev wea:=@PySem.wpAny_execs_nil
abbrev wec:=@PySem.W.plainGet_of
abbrev wed:=@List.length_set
abbrev wee:=@PySem.F.entry_list_append
abbrev wef:=@PySem.F.slot_int_rmul
abbrev weg:=@Nat.add_sub_cancel'
abbrev weh:=@PySem.F.entry_tuple_iterator_next
abbrev wei:=@PySem.pushCells_keeps
abbrev wej:=@Int.emod_nonneg
abbrev wek:=@Nat.min_eq_left
abbrev wel:=@Int.mul_lt_mul_of_pos_left
abbrev wem:=@PySem.W.callWith_K
abbrev wen:=@List.zip_cons_cons
abbrev weo:=@PySem.F.slot_list_append
abbrev Wr:=@Bool.true_or
abbrev weq:=@Nat.add_sub_cancel
abbrev wer:=@PyProof.Rows.firstMet_length_le
abbrev Wq:=@Int.zero_add
abbrev wet:=@Int.natAbs_natCast
abbrev weu:=@Nat.eq_zero_or_pos
abbrev wev:=@PySem.wpAny_fieldsOf
abbrev wew:=@Int.eq_of_mul_eq_mul_left
abbrev wex:=@Int.lt_of_mul_lt_mul_left
abbrev wey:=@List.mem_or_eq_of_mem_set
abbrev wez:=@List.getElem?_take_of_lt
abbrev wfa:=@PySem.list_append
abbrev wfb:=@Nat.le_of_succ_le
abbrev wfc:=@bne_self_eq_false
abbrev Vh:=@PySem.Walks.list
abbrev wfe:=@PyProof.noPylong_of_log2
abbrev wff:=@PySem.wpAny_storeSet_of
abbrev wfg:=@PySem.fits_of_scanBound
abbrev wfh:=@Int.mul_ediv_cancel_left
abbrev wfi:=@List.append_cancel_right
abbrev wfj:=@Nat.gcd_pos_of_pos_right
abbrev wfk:=@PySem.Paired.length
abbrev Z9:=@PySem.wpAny_standAt
abbrev Z8:=@PySem.rangeSize_one
abbrev Z6:=@PySem.seq_tuple_add
abbrev Z1:=@PyProof.Rows.listUpdate_at
abbrev wfp:=@decide_eq_false_iff_not
abbrev Wo:=@PySem.wpAny_of_eq
abbrev Z0:=@PyProof.Rows.firstMet_succ
abbrev ZX:=@PySem.wpAny_attempt
abbrev wft:=@PySem.F.entry_type_call
abbrev Wn:=@Int.mul_pos
abbrev wfv:=@PySem.IsL.update
abbrev wfw:=@Nat.le_add_right
abbrev wfx:=@Option.getD_some
abbrev wfy:=@PySem.AutoSeq1.idx_int
abbrev wfz:=@List.getElem?_set_self
abbrev wga:=@PySem.W.cellsFrom_some
abbrev wgb:=@Array.getElem?_eq_none
abbrev wgc:=@Nat.le_mul_of_pos_left
abbrev wgd:=@PySem.W.methodCall_KW
abbrev wge:=@List.of_mem_zip
abbrev ZW:=@PySem.concat_meets
abbrev ZV:=@List.map_nil
abbrev Vg:=@PyProof.Rows.IsTup.new
abbrev wgi:=@PySem.codeAny_of_tree
abbrev wgj:=@PySem.F.plain_set_new
abbrev ZS:=@PySem.sub_set_self
abbrev ZR:=@Nat.pow_succ
abbrev wgm:=@Int.le_antisymm
abbrev ZQ:=@List.map_set
abbrev wgo:=@Int.ediv_nonneg
abbrev Wm:=@PySem.wpAny_load
abbrev Wk:=@PyProof.Rows.boot_range
abbrev Wj:=@PySem.wpAny_call
abbrev Rt:=@if_false
abbrev Wi:=@PySem.typeIs_int
abbrev wgu:=@Int.natAbs_mul
abbrev wgv:=@List.Perm.refl
abbrev ZP:=@Int.mul_one
abbrev ZM:=@PySem.IsRange.new
abbrev ZL:=@PySem.wpAny_letGo
abbrev wgz:=@Int.lt_irrefl
abbrev Rr:=@if_true
abbrev ZK:=@Nat.sub_le
abbrev whc:=@Nat.mul_comm
abbrev whd:=@Int.le_trans
abbrev Wh:=@or_false
abbrev Vf:=@PySem.W.mg_of
abbrev aG:=@List.length_map
abbrev cM:=@PySem.Heap.get?_push_of_some
abbrev aH:=@Nat.le_refl
abbrev gn:=@List.getElem?_eq_getElem
abbrev dG:=@List.mem_cons_of_mem
abbrev cV:=@List.mem_cons_self
abbrev c7:=@List.getElem?_map
abbrev cJ:=@List.map_append
abbrev gY:=@List.mem_append_right
abbrev gB:=@PySem.Heap.get?_push_size
abbrev eU:=@List.size_toArray
abbrev kO:=@List.getD_eq_getElem?_getD
abbrev cB:=@List.mem_cons
abbrev bQ:=@Nat.ne_of_lt
abbrev gA:=@Nat.lt_of_lt_of_le
abbrev cA:=@PySem.Heap.lt_size
abbrev g8:=@List.mem_singleton
abbrev cQ:=@Nat.le_of_lt
abbrev qy:=@List.getElem?_eq_some_iff
abbrev lX:=@List.mem_of_getElem?
abbrev cX:=@Nat.zero_le
abbrev eO:=@Nat.le_trans
abbrev je:=@List.mem_filter
abbrev lW:=@List.length_append
abbrev lV:=@Nat.lt_succ_of_lt
abbrev kJ:=@List.mem_append
abbrev nQ:=@Nat.lt_succ_self
abbrev sO:=@Array.length_toList
abbrev wJ:=@List.length_filter_le
abbrev qx:=@List.length_cons
abbrev qw:=@List.all_eq_true
abbrev sJ:=@List.length_range
abbrev j8:=@List.mem_map
abbrev sE:=@List.append_nil
abbrev uI:=@List.take_length
abbrev p7:=@Nat.lt_irrefl
abbrev zR:=@List.getElem_of_mem
abbrev wW:=@List.take_add_one
abbrev wI:=@List.length_take
abbrev sI:=@List.mem_range
abbrev Ew:=@List.mem_append_left
abbrev wV:=@Nat.succ_ne_zero
abbrev zQ:=@Int.toNat_natCast
abbrev CW:=@Nat.lt_of_le_of_lt
abbrev wH:=@PySem.Heap.size_push
abbrev wG:=@Int.mul_nonneg
abbrev Qn:=@List.getElem?_append_right
abbrev Mp:=@List.getElem?_eq_none
abbrev HB:=@List.replicate_succ
abbrev Qm:=@List.pairwise_iff_getElem
abbrev Ql:=@Array.getElem?_eq_getElem
abbrev wU:=@List.map_cons
abbrev Eu:=@List.lookup_cons
abbrev Et:=@List.getElem_mem
abbrev CV:=@List.range_succ
abbrev Hz:=@Nat.lt_of_le_of_ne
abbrev MN:=@List.length_replicate
abbrev wF:=@Nat.succ_pos
abbrev Ml:=@Int.toNat_of_nonneg
abbrev Ve:=@Int.mul_le_mul_of_nonneg_left
abbrev wR:=@Nat.ne_of_gt
abbrev wQ:=@Int.mul_zero
abbrev zN:=@Nat.le_of_eq
abbrev wD:=@Nat.le_succ
abbrev Hl:=@List.nodup_cons
abbrev Qk:=@PySem.Heap.get?_update_self
abbrev Vd:=@List.getElem?_append_left
abbrev zM:=@Int.le_refl
abbrev MK:=@List.append_assoc
abbrev Mj:=@List.length_nil
abbrev Rp:=@List.pairwise_append
abbrev MJ:=@List.filter_cons
abbrev Vc:=@PySem.Heap.get?_update_other
abbrev Vb:=@List.pairwise_lt_range
abbrev Va:=@List.length_pos_of_mem
abbrev Qj:=@List.any_eq_false
abbrev Qi:=@List.flatten_cons
abbrev Qh:=@Nat.le_of_lt_succ
abbrev MF:=@Nat.not_lt_zero
abbrev U9:=@Array.getElem?_toList
abbrev Hj:=@Int.le_of_lt
abbrev Mz:=@Nat.min_le_left
abbrev Ro:=@List.filter_append
abbrev U8:=@Nat.pow_le_pow_right
abbrev U7:=@List.replicate_succ'
abbrev Wf:=@List.pairwise_singleton
abbrev Hy:=@Nat.lt_trans
abbrev Rn:=@List.pairwise_map
abbrev U6:=@List.filter_sublist
abbrev Mi:=@Int.mul_comm
abbrev Wd:=@Nat.sub_one_lt_of_le
abbrev Rm:=@Nat.le_antisymm
abbrev ZG:=@Nat.succ_add_eq_add_succ
abbrev ZF:=@List.length_erase_of_mem
abbrev ydq:=@Int.mul_le_mul_of_nonneg_right
abbrev Wc:=@List.filterMap_cons
abbrev Qg:=@List.any_cons
abbrev Mh:=@Int.one_mul
abbrev Wb:=@List.getElem?_range
abbrev Wa:=@List.mem_map_of_mem
abbrev U5:=@List.length_drop
abbrev ZD:=@List.take_of_length_le
abbrev V9:=@List.pairwise_cons
abbrev ZC:=@List.cons_lt_cons_iff
abbrev U4:=@List.find?_cons
abbrev Qf:=@Int.zero_mul
abbrev Zz:=@Int.mul_ediv_add_emod
abbrev V8:=@List.ext_getElem?
abbrev yee:=@Int.fdiv_eq_ediv_of_nonneg
abbrev yef:=@Array.perm_iff_toList_perm
abbrev Zy:=@Nat.le_sub_one_of_lt
abbrev Zx:=@List.mem_erase_of_ne
abbrev V7:=@List.not_mem_nil
abbrev Zw:=@List.map_congr_left
abbrev Zv:=@Int.emod_lt_of_pos
abbrev Qe:=@Nat.not_lt
abbrev U3:=@Int.le_of_eq
abbrev U0:=@List.map_map
namespace Hd
open PySem PySem.W PySem.Calls PyProof.Rows
-- a run of the text's top over the heap as a tree, as one fold
def R8(tb:String->Option Builtin)(p:Program)(w:World)(m:Nat)(ann:Option Value)(n:Nat):SharedT->Thread->Option SharedT:=
 @Nat.rec (fun _=>SharedT->Thread->Option SharedT) (fun _ _=>none)
  (fun _ ih s t=> @Bool.rec (fun _=>Option SharedT)
   (@Bool.rec (fun _=>Option SharedT) none
    (@Option.rec (SharedT×Thread) (fun _=>Option SharedT) none (fun r=>ih r.1 r.2) (stepT (denote tb) p w s t)) (stepOk m ann t))
   (some s) (through t)) n
theorem Nx{tb:String->Option Builtin}{p:Program}{w:World}{m:Nat}{ann:Option Value}:∀(n:Nat) (s s':SharedT) (t:Thread),
  R8 tb p w m ann n s t=some s'->topRun tb p w m ann n s.abs t=some s'.abs:=by
 intro n
 induction n with
 |zero=>intro s s' t h;exact absurd h (by intro h;cases h)
 |succ n ih=>
  intro s s' t h
  have h1: @Bool.rec (fun _=>Option SharedT) (@Bool.rec (fun _=>Option SharedT) none
    (@Option.rec (SharedT×Thread) (fun _=>Option SharedT) none (fun r=>R8 tb p w m ann n r.1 r.2) (stepT (denote tb) p w s t)) (stepOk m ann t))
    (some s) (through t)=some s':=h
  unfold topRun
  cases e1:through t with
  |true=>rw[e1]at h1;injection h1 with h1;rw[h1]
  |false=>
   rw[e1]at h1
   cases e2:stepOk m ann t with
   |false=>rw[e2]at h1;cases h1
   |true=>
    rw[e2]at h1
    cases e3:stepT (denote tb) p w s t with
    |none=>rw[e3]at h1;cases h1
    |some r=>
     rw[e3]at h1
     have e4:=stepT_spec (s':=r.1) (t':=r.2) e3
     show(match step (denote tb) p w s.abs t with | .go a b=>topRun tb p w m ann n a b| .halt _ _=>none)=_
     rw[e4]
     exact ih _ _ _ h1
def treeOf(l:List Obj):BT:=(l.foldl (fun x o=>(x.1.ins x.2 o,x.2+1)) ((BT.nil,0):BT×Nat)).1
-- the run from the start that the kit has laid
def ran(p:Program)(N:Nat)(w:World)(os:OsState):Option SharedT:=
 R8 treeTable p w 11 (some (.ref 6)) N ⟨treeOf (boot_heap w.params).objs.toList,11,{},Array.mk [],boot_drawn,boot_toks,os⟩ (topStub p)
-- what is looked at behind the run
def looked(p q:Program)(loose:List Str)(Xt:Shared->Bool)(g0:Bool)(h:Heap)(s:Shared):=
 ((staticsOk (importedModules p.main.body) h s.heap&&namesBound p s.heap&&gensDone s&&laidKept h s.heap),openSeen q loose (importedModules p.main.body) Xt g0 s)
def uE(p q:Program)(loose:List Str)(Xt:Shared->Bool)(g0:Bool)(N:Nat):Prop:=
 ∀(w:World) (os:OsState),(ran p N w os).map (fun s=>looked p q loose Xt g0 (boot_heap w.params) s.abs)=some (true,openGood q loose)
theorem Ov{p q:Program}{loose:List Str}{Xt:Shared->Bool}{α:Type}{Yf:Shared->α}{Ya:World->α}{N:Nat}{g0:Bool}(r:uE p q loose Xt g0 N)(e:opening p=plainProg p.main.scope.names)(hN:Nat.ble 600 N=true)(f:∀s,fenceModules? p s=some s)(y:∀(w:World) (os:OsState),(ran p N w os).map (fun s=>Yf s.abs)=some (Ya w)):
  LeftO p q loose Xt Yf Ya N g0:=fun w=>by
 have b:((boot_heap w.params).isNs mainGlobals&&(Array.mk []:Array GenState).size==0,(boot_heap w.params).objs.size,(boot_heap w.params).nsMap mainGlobals "__annotations__")=(true,11,some (.ref 6)):=by kernel_rfl
 have c:absHeap (treeOf (boot_heap w.params).objs.toList) 11 {}=boot_heap w.params:=by kernel_rfl
 obtain⟨⟨h,gs',d',k',os⟩,e1,e'⟩:=Option.map_eq_some_iff.mp (boot_open e hN f w)
 obtain⟨rfl,rfl,rfl,rfl⟩:h=boot_heap w.params/\gs'=Array.mk []/\d'=boot_drawn/\k'=boot_toks:=by simpa using e'
 obtain⟨b1,b2,b3⟩:_/\_/\_:=by simpa only[Prod.mk.injEq]using b
 obtain⟨s,r1,r2⟩:=Option.map_eq_some_iff.mp (r w os)
 obtain⟨s',y1,y2⟩:=Option.map_eq_some_iff.mp (y w os)
 have es:s'=s:=by rw[r1]at y1;injection y1 with y1;exact y1.symm
 subst es
 obtain⟨l1,l2⟩:_/\_:=by simpa only[looked,Prod.mk.injEq]using r2
 have t1:=Nx N _ _ _ r1
 have ab:SharedT.abs ⟨treeOf (boot_heap w.params).objs.toList,11,{},Array.mk [],boot_drawn,boot_toks,os⟩=⟨boot_heap w.params,Array.mk [],boot_drawn,boot_toks,os⟩:=by unfold SharedT.abs;rw[c]
 rw[ab]at t1
 have t:topFrom treeTable p w N ⟨boot_heap w.params,Array.mk [],boot_drawn,boot_toks,os⟩=some s'.abs:=by
  unfold topFrom
  dsimp only
  rw[b1,b2,b3,t1]
  show(match staticsOk (importedModules p.main.body) (boot_heap w.params) s'.abs.heap&&namesBound p s'.abs.heap&&gensDone s'.abs&&laidKept (boot_heap w.params) s'.abs.heap with |true=>_|false=>_)=_
  rw[l1]
 unfold openEnds
 rw[e1]
 show(topFrom treeTable p w N _).map _=_
 rw[t]
 show some (_,_)=_
 rw[l2,y2]
end Hd
section
open PySem PySem.W PyProof.Rows
namespace Hd
abbrev L:=PySem.Challenge.rw_hueshare_k28_so_many_hues_each
def Q:Program:=view L.row.toRowW.prog [1,2,3,4,5,7,8,9,10,11,12,13,14,15,16,17,18,19,20,21,23,24,26,27,28,29,30,31,32,34,35,37,38,39,40,42,43,44,45,46,48,49,50,51,52,54,55,56,57,58,59,60,61,62]
abbrev X:Shared->Bool:=fun s=>xlAt Q [] s&&recOk (RowW.records L.row.toRowW) s
set_option maxRecDepth 100000 in
theorem looks:uE L.row.toRowW.prog Q [] X true 6042:=fun w os=>by kernel_rfl
end Hd
local macro_rules
 |`(tactic|o_head $H)=>`(tactic|
  refine holds_open (q:=Hd.Q) (loose:=[]) (N:=6042) (Xt:=Hd.X) (XP:=XL Hd.Q [])
   (Yf:=Hook.obs $H) (Ya:=Hook.val $H) (YP:=Hook.says $H)
   (Hd.Ov Hd.looks (by kernel_rfl) rfl (fun _=>by kernel_rfl) (fun _ _=>by kernel_rfl))
   (Hook.of $H) (Hook.keeps $H) (fun s e=>xl_of s (Bool.and_eq_true_iff.mp e).1) XL.keeps
   (by rfl) (by rfl) (by rfl) (fun s e=>recFacts_of (Bool.and_eq_true_iff.mp e).2) (by rfl)
   (by first |assumption|decide+kernel) (by decide+kernel) ⟨rfl,rfl,rfl,rfl,rfl,by decide+kernel⟩ ?hw ?hc)
set_option maxRecDepth 100000 in
set_option maxHeartbeats 0 in
def Hd.early:PSigma fun P:Prop=>P->PySem.Challenge.rw_hueshare_k28_so_many_hues_each.Holds:=by
 refine⟨?P,fun W=> ?_⟩
 rotate_left
 w_on;o_law;k_head;(case hw=>w_witness2)
 exact W
end
namespace L2
open PySem PySem.Spec PyProof.Rows
abbrev Key:=Sum Int Str
def keyIs:Key->Value->Bool
 | .inl k,v=>Value.isInt k v
 | .inr x,v=>Value.isStrOf x v
def keyH(w:World):Key->Int
 | .inl k=>hashInt k
 | .inr x=>hashStr w x
theorem Mg:∀{k:Key} {v:Value},keyIs k v=true->(∃i t,k=Sum.inl i/\v=Value.int i t)\/(∃x t,k=Sum.inr x/\v=Value.str x t)
 | .inl i,v,h=>by
  obtain⟨t,e⟩:=Vo (k:=i) (v:=v) h
  exact .inl ⟨i,t,rfl,e⟩
 | .inr x,v,h=>by
  obtain⟨t,e⟩:=Value.isStrOf_shape (x:=x) (v:=v) h
  exact .inr ⟨x,t,rfl,e⟩
theorem keyIs_int(i:Int)(t:Tok):keyIs (.inl i) (.int i t)=true:=by simp[keyIs,Value.isInt]
theorem keyIs_str(x:Str)(t:Tok):keyIs (.inr x) (.str x t)=true:=by simp[keyIs,Value.isStrOf]
theorem key_ll(a b:Int):decide ((Sum.inl a:Key)=Sum.inl b)=(a==b):=by
 by_cases e:a=b
 ·subst e;simp
 ·have h:¬(Sum.inl a:Key)=Sum.inl b:=fun q=>e (Sum.inl.inj q)
  rw[jN h]
  exact(beq_eq_false_iff_ne.mpr e).symm
theorem key_rr(a b:Str):decide ((Sum.inr a:Key)=Sum.inr b)=decide (a=b):=by
 by_cases e:a=b
 ·subst e;simp
 ·have h:¬(Sum.inr a:Key)=Sum.inr b:=fun q=>e (Sum.inr.inj q)
  rw[jN h,jN e]
theorem key_lr(a:Int)(b:Str):decide ((Sum.inl a:Key)=Sum.inr b)=false:=jN (fun q=>nomatch q)
theorem key_rl(a:Str)(b:Int):decide ((Sum.inr a:Key)=Sum.inl b)=false:=jN (fun q=>nomatch q)
def mixKind(prog:Program)(w:World):PySem.KeyKind prog w Key where
 is:=keyIs
 hash:=keyH w
 inj:=fun v a b ha hb=>by
  rcases Mg ha with⟨i,t,rfl,rfl⟩|⟨x,t,rfl,rfl⟩
  ·rcases Mg hb with⟨j,u,rfl,e⟩|⟨y,u,rfl,e⟩
   ·injection e with e1 _;rw[e1]
   ·exact nomatch e
  ·rcases Mg hb with⟨j,u,rfl,e⟩|⟨y,u,rfl,e⟩
   ·exact nomatch e
   ·injection e with e1 _;rw[e1]
 byValue:=fun k v h=>by
  rcases Mg h with⟨i,t,rfl,rfl⟩|⟨x,t,rfl,rfl⟩<;>rfl
 pyHash:=fun hv h=>by
  rcases Mg hv with⟨i,t,rfl,rfl⟩|⟨x,t,rfl,rfl⟩
  ·exact wpAny_pyHash_int h
  ·exact wpAny_pyHash_str h
 eqBool:=fun hu hv h=>by
  rcases Mg hu with⟨i,t,rfl,rfl⟩|⟨x,t,rfl,rfl⟩
  ·rcases Mg hv with⟨j,u,rfl,rfl⟩|⟨y,u,rfl,rfl⟩
   ·rw[key_ll]at h;exact wpAny_eqBool_int h
   ·rw[key_lr]at h;exact SeqAt.EqAt.int_str i t y u _ _ _ _ h
  ·rcases Mg hv with⟨j,u,rfl,rfl⟩|⟨y,u,rfl,rfl⟩
   ·rw[key_rl]at h;exact SeqAt.EqAt.str_int x t j u _ _ _ _ h
   ·rw[key_rr]at h;exact wpAny_eqBool_str h
 «strs»:=fun k x t v h=>by
  rcases Mg h with⟨i,u,rfl,e⟩|⟨y,u,rfl,e⟩
  ·exact nomatch e
  ·injection e with e1 _
   subst e1
   cases v<;>rfl
theorem mixKind_int(prog:Program)(w:World)(i:Int)(t:Tok):(mixKind prog w).is (.inl i) (.int i t)=true:=keyIs_int i t
theorem mixKind_str(prog:Program)(w:World)(x:Str)(t:Tok):(mixKind prog w).is (.inr x) (.str x t)=true:=keyIs_str x t
inductive V where
 |non|bl (b:Bool)|int (i:Int)|str (x:Str)|byt (b:Array UInt8)|flt (b:UInt64)|ref (a:Addr)|ty (n:String)
 deriving DecidableEq
def RelV:V->Value->Prop
 | .non,u=>u=Value.none
 | .bl b,u=>u=Value.bool b
 | .int i,u=>∃t,u=Value.int i t
 | .str x,u=>∃t,u=Value.str x t
 | .byt b,u=>∃t,u=Value.bytes b t
 | .flt b,u=>∃t,u=Value.float b t
 | .ref a,u=>u=Value.ref a
 | .ty n,u=>u=Value.type n
abbrev Vals:List V->List Value->Prop:=Paired RelV
theorem Vals.length{xs:List V}{us:List Value}(r:Vals xs us):xs.length=us.length:=wfk r
theorem Vals.get:∀{xs:List V} {us:List Value} {i:Nat} {x:V},Vals xs us->xs[i]? =some x->∃u,us[i]? =some u/\RelV x u
 |_,_,_,_,.nil,e=>by simp at e
 |_,_,0,_,.cons r _,e=>by simp at e;subst e;exact⟨_,rfl,r⟩
 |_,_,i+1,x,.cons _ t,e=>by
  obtain⟨u,h1,h2⟩:=Vals.get (i:=i) (x:=x) t (by simpa using e)
  exact⟨u,by simpa using h1,h2⟩
theorem Vals.set{x:V}{u:Value}(r:RelV x u):∀{xs:List V} {us:List Value} (i:Nat),Vals xs us->Vals (xs.set i x) (us.set i u)
 |_,_,_,.nil=> .nil
 |_,_,0,.cons _ t=> .cons r t
 |_,_,i+1,.cons q t=> .cons q (Vals.set r i t)
theorem Vals.append:∀{xs ys:List V} {us ws:List Value},Vals xs us->Vals ys ws->Vals (xs++ys) (us++ws)
 |_,_,_,_,.nil,s=>s
 |_,_,_,_,.cons r t,s=> .cons r (Vals.append t s)
theorem Vals.take:∀{xs:List V} {us:List Value} (n:Nat),Vals xs us->Vals (xs.take n) (us.take n)
 |_,_,0,_=> .nil
 |_,_,_+1,.nil=> .nil
 |_,_,n+1,.cons r t=> .cons r (Vals.take n t)
theorem Vals.drop:∀{xs:List V} {us:List Value} (n:Nat),Vals xs us->Vals (xs.drop n) (us.drop n)
 |_,_,0,r=>r
 |_,_,_+1,.nil=> .nil
 |_,_,n+1,.cons _ t=>Vals.drop n t
def RelO:Option V->Option Value->Prop
 |some v,some u=>RelV v u
 |none,none=>True
 |_,_=>False
def KV{κ:Type}:List (κ×V)->List (κ×Value)->Prop:=Paired fun(p:κ×V) (q:κ×Value)=>p.1=q.1/\RelV p.2 q.2
def kV:Key->V
 | .inl i=> .int i
 | .inr x=> .str x
inductive HO where
 /-- a list -/
 |lst (xs:List V)
 /-- a tuple (never changes) -/
 |tup (xs:List V)
 /-- a dict whose keys are ints and texts; one whose keys are tuples of ints and texts (the empty one is both) -/
 |dK (kvs:List (Key×V))|dT (kvs:List (List Key×V))
 /-- a set of ints: its members, its size -/
 |set (S:Int->Bool) (n:Nat)
 /-- an instance of the class at C, its dict at dx, its attributes -/
 |ins (C dx:Addr) (fs:List (Str×V))
 /-- the dict of the instance at x -/
 |own (x:Addr)
 /-- the dict of an exception -/
 |xd (fs:List (Str×V))
 /-- a bound method, f of x -/
 |met (f x:Addr)
 /-- a range object lo, lo + 1, .. below hi -/
 |rng (lo hi:Int)
 /-- a thing that is known to the object (the script; a dict while a loop walks it): read, never written while it is so -/
 |frz (o:Obj) (u:HO)
 /-- a code object's table -/
 |tbl (ps:Array Value)
 /-- any other thing, by what is true of its one object (a def of one's own: SetO a S n := HO.ext fun h => ..) -/
 |ext (φ:Heap->Prop)
abbrev Hp:=Addr->Option HO
def upd(H:Hp)(a:Addr)(o:HO):Hp:=fun b=>if b=a then some o else H b
theorem aJ{H:Hp}{a:Addr}{o:HO}:upd H a o a=some o:=by unfold upd;rw[au rfl]
theorem cu{H:Hp}{a b:Addr}{o:HO}(h:b≠a):upd H a o b=H b:=by unfold upd;rw[ao h]
theorem upd_upd{H:Hp}{a:Addr}{o u:HO}:upd (upd H a o) a u=upd H a u:=by
 funext b;unfold upd;split<;>rfl
theorem ne_of{H:Hp}{a b:Addr}{o u:HO}(h:H a=some o)(h':H b=some u)(d:o≠u):a≠b:=by
 intro e;subst e;rw[h]at h';exact d (p8 h')
theorem j7{H:Hp}{a b:Addr}{o:HO}(h:H a=some o)(h':H b=none):a≠b:=by
 intro e;subst e;rw[h]at h';cases h'
section
variable(P:Program)(w:World)
def ObjOk(H:Hp)(h:Heap)(a:Addr):HO->Prop
 | .lst xs=>xs.length<=sizeLine/\∃(its:List Value) (n:Nat),Vals xs its/\h.get? a=some {cls:= .type "list",data:= .seq its.toArray n}
 | .tup xs=>xs.length<=sizeLine/\∃its:List Value,Vals xs its/\IsTup h a its.toArray
 | .dK kvs=>kvs.length<=sizeLine/\(a==sysModules)=false/\∃vs,KV kvs vs/\h.DictOf (mixKind P w) a vs
 | .dT kvs=>kvs.length<=sizeLine/\(a==sysModules)=false/\∃xs:List (List Key×Addr×Value),
   Paired (fun(p:List Key×V) (q:List Key×Addr×Value)=>p.1=q.1/\H q.2.1=some (.tup (p.1.map kV))/\RelV p.2 q.2.2) kvs xs/\
   ∃o es ep,h.get? a=some o/\o.ExactDict/\o.data= .dict es ep/\es.toList=xs.map (entryOfKey (tupleKind (mixKind P w)))/\(xs.map (·.1)).Nodup
 | .set S n=>h.SetOf (intKind P w) a S n
 | .ins C dx fs=>H dx=some (.own a)/\fs.length<=1000/\dx≠a/\h.get? a=some (PySem.W.instObj C dx)/\
   ∃mA,h.Ns1 dx mA/\(∀f,RelO (fs.lookup f) (mA f))/\PySem.Within mA (fs.map (·.1))
 | .own _=>∃o,h.get? a=some o
 | .xd fs=>∃mA,h.Ns1 a mA/\∀f,RelO (fs.lookup f) (mA f)
 | .rng lo hi=>∃t u v,h.get? a=some {cls:= .type "range",data:= .fields #[.int lo t,.int hi u,.int 1 v]}
 | .frz o u=>h.get? a=some o/\ObjOk H h a u
 | .tbl ps=>h.get? a=some {cls:= .none,data:= .fields ps}
 | .met f x=>h.get? a=some (PySem.W.methodObj (.ref f) (.ref x))
 | .ext φ=>φ h/\(∃o,h.get? a=some o)/\∀h1 h2:Heap,φ h1->(∀o,h1.get? a=some o->h2.get? a=some o)->φ h2
def HOk(H:Hp)(h:Heap):Prop:=∀a o,H a=some o->ObjOk P w H h a o
end
section
variable{P:Program}{w:World}{H H':Hp}{h h':Heap}{a:Addr}{o:HO}
theorem ObjOk.lt(x:ObjOk P w H h a o):a<h.objs.size:=by
 cases o with
 |lst xs=>obtain⟨_,_,_,_,e⟩:=x;exact cA e
 |tup xs=>obtain⟨_,_,_,p⟩:=x;exact p.lt
 |dK kvs=>obtain⟨_,_,_,_,o,_,_,e,_⟩:=x;exact cA e
 |dT kvs=>obtain⟨_,_,_,_,o,_,_,e,_⟩:=x;exact cA e
 |set S n=>obtain⟨o,_,_,_,e,_⟩:=x;exact cA e
 |ins C dx fs=>obtain⟨_,_,_,e,_⟩:=x;exact cA e
 |own y=>obtain⟨_,e⟩:=x;exact cA e
 |xd fs=>obtain⟨_,⟨_,_,_,e,_⟩,_⟩:=x;exact cA e
 |rng lo hi=>obtain⟨_,_,_,e⟩:=x;exact cA e
 |frz ob u=>obtain⟨e,_⟩:=x;exact cA e
 |tbl ps=>exact cA (show h.get? a=some _ from x)
 |met f y=>exact cA (show h.get? a=some _ from x)
 |ext φ=>obtain⟨_,⟨_,e⟩,_⟩:=x;exact cA e
theorem Paired.mapP{α β:Type}{F G:α->β->Prop}:∀{l₁:List α} {l₂:List β},Paired F l₁ l₂->(∀a b,F a b->G a b)->Paired G l₁ l₂
 |_,_,.nil,_=> .nil
 |_,_,.cons r t,f=> .cons (f _ _ r) (Paired.mapP t f)
theorem ObjOk.stay(x:ObjOk P w H h a o)(k:∀b u,(b=a\/H b=some (.own a))->h.get? b=some u->h'.get? b=some u)(ho:∀b,H b=some (.own a)->H' b=some (.own a))(ht:∀b xs,H b=some (.tup xs)->H' b=some (.tup xs)):ObjOk P w H' h' a o:=by
 induction o with
 |lst xs=>obtain⟨z,its,n,r,e⟩:=x;exact⟨z,its,n,r,k _ _ (.inl rfl) e⟩
 |tup xs=>obtain⟨z,its,r,ob,e,c⟩:=x;exact⟨z,its,r,ob,k _ _ (.inl rfl) e,c⟩
 |dK kvs=>obtain⟨z,y,vs,r,ob,es,ep,e,c⟩:=x;exact⟨z,y,vs,r,ob,es,ep,k _ _ (.inl rfl) e,c⟩
 |dT kvs=>
  obtain⟨z,y,xs,r,ob,es,ep,e,c⟩:=x
  exact⟨z,y,xs,Paired.mapP r fun p q z=>⟨z.1,ht _ _ z.2.1,z.2.2⟩,ob,es,ep,k _ _ (.inl rfl) e,c⟩
 |set S n=>obtain⟨ob,es,ep,t,e,c⟩:=x;exact⟨ob,es,ep,t,k _ _ (.inl rfl) e,c⟩
 |ins C dx fs=>
  obtain⟨d,z,ne,e,mA,⟨od,es,ep,e2,c⟩,r⟩:=x
  exact⟨ho _ d,z,ne,k _ _ (.inl rfl) e,mA,⟨od,es,ep,k _ _ (.inr d) e2,c⟩,r⟩
 |own y=>obtain⟨ob,e⟩:=x;exact⟨ob,k _ _ (.inl rfl) e⟩
 |xd fs=>obtain⟨mA,⟨od,es,ep,e,c⟩,r⟩:=x;exact⟨mA,⟨od,es,ep,k _ _ (.inl rfl) e,c⟩,r⟩
 |rng lo hi=>obtain⟨t,u,v,e⟩:=x;exact⟨t,u,v,k _ _ (.inl rfl) e⟩
 |frz ob u ih=>obtain⟨e,q⟩:=x;exact⟨k _ _ (.inl rfl) e,ih q⟩
 |tbl ps=>
  have e:h.get? a=some {cls:= .none,data:= .fields ps}:=x
  show h'.get? a=some {cls:= .none,data:= .fields ps}
  exact k a _ (.inl rfl) e
 |met f y=>
  have e:h.get? a=some (PySem.W.methodObj (.ref f) (.ref y)):=x
  show h'.get? a=some (PySem.W.methodObj (.ref f) (.ref y))
  exact k a _ (.inl rfl) e
 |ext φ=>obtain⟨p,⟨o,e⟩,st⟩:=x;exact⟨st _ _ p fun o q=>k _ _ (.inl rfl) q,⟨o,k _ _ (.inl rfl) e⟩,st⟩
theorem HOk.lt(x:HOk P w H h)(e:H a=some o):a<h.objs.size:=(x a o e).lt
theorem HOk.fresh(x:HOk P w H h)(e:h.objs.size<=a):H a=none:=by
 cases q:H a with
 |none=>rfl
 |some u=>exact absurd (gA (x.lt q) e) (p7 _)
theorem HOk.kept(x:HOk P w H h)(k:∀b u,h.get? b=some u->h'.get? b=some u):HOk P w H h':=fun a o e=>
 (x a o e).stay (fun b u _ q=>k b u q) (fun _ q=>q) fun _ _ q=>q
theorem HOk.laid(x:HOk P w H h)(k:∀b u,h.get? b=some u->h'.get? b=some u)(hp:h.objs.size<=a)(new:ObjOk P w (upd H a o) h' a o):HOk P w (upd H a o) h':=fun b u e=>by
 have hn:=x.fresh hp
 by_cases hb:b=a
 ·subst hb;rw[aJ]at e;cases e;exact new
 ·rw[cu hb]at e
  exact(x b u e).stay (fun c v _ q=>k c v q) (fun c q=>by rw[cu (j7 q hn)];exact q) fun c xs q=>by rw[cu (j7 q hn)];exact q
end
def Rd(H:Hp)(a:Addr)(u:HO):Prop:=H a=some u\/∃o,H a=some (.frz o u)
theorem Rd.ok{P:Program}{w:World}{H:Hp}{h:Heap}{a:Addr}{u:HO}(r:Rd H a u)(x:HOk P w H h):ObjOk P w H h a u:=by
 rcases r with r|⟨o,r⟩
 ·exact x a u r
 ·obtain⟨_,q⟩:=x a _ r
  exact q
def Mut:Option HO->Prop
 |some (.lst _)=>True
 |some (.dK _)=>True
 |some (.dT _)=>True
 |some (.set _ _)=>True
 |some (.ins _ _ _)=>True
 |some (.ext _)=>True
 |_=>False
section
variable{P:Program}{w:World}{H:Hp}{h h':Heap}{x e:Addr}{o':HO}
theorem HOk.write(ok:HOk P w H h)(mu:Mut (H x))(he:e=x\/H e=some (.own x))(k:∀b u,b≠e->h.get? b=some u->h'.get? b=some u)(heo:∃u,h'.get? e=some u)(new:ObjOk P w (upd H x o') h' x o'):HOk P w (upd H x o') h':=fun b u q=>by
 have nown:∀c y,H c=some (.own y)->c≠x:=fun c y r z=>by subst z;rw[r]at mu;exact mu
 have ntup:∀c xs,H c=some (.tup xs)->c≠x:=fun c xs r z=>by subst z;rw[r]at mu;exact mu
 by_cases hb:b=x
 ·subst hb;rw[aJ]at q;cases q;exact new
 ·rw[cu hb]at q
  by_cases hbe:b=e
  ·have q':H b=some (.own x):=by
    rcases he with z|z
    ·exact absurd (hbe.trans z) hb
    ·rw[hbe];exact z
   rw[q]at q';cases q'
   obtain⟨v,hv⟩:=heo
   exact⟨v,by rw[hbe];exact hv⟩
  ·refine(ok b u q).stay (fun c v hc r=>k c v ?_ r) (fun c r=>by rw[cu (nown c b r)];exact r) fun c xs r=>by rw[cu (ntup c xs r)];exact r
   rcases hc with rfl|hc
   ·exact hbe
   ·rintro rfl
    rcases he with z|z
    ·exact nown c b hc z
    ·rw[hc]at z;cases z;exact hb rfl
end
structure Un(fs ex:List Addr)(H H':Hp)(h h':Heap):Prop where
 keep:∀b o,h.get? b=some o->H b=none->b∉fs->b∉ex->h'.get? b=some o
 slot:∀b o,h.get? b=some o->H b=none->b∈fs->b∉ex->∃sl,h'.get? b=some {o with slots:=sl}
 free:∀b o,h.get? b=some o->H b=none->b∉ex->H' b=none
 there:∀b o,h.get? b=some o->b∉ex->∃o',h'.get? b=some o'
 tups:∀b xs,H b=some (.tup xs)->H' b=some (.tup xs)
 frzs:∀b o u,H b=some (.frz o u)->H' b=some (.frz o u)
 tbls:∀b ps,H b=some (.tbl ps)->∃more,H' b=some (.tbl (ps++more))
section
variable{fs fs' ex ex':List Addr}{H H1 H2:Hp}{h h1 h2 h':Heap}{a x e:Addr}{o:HO}
theorem Un.any(u:Un fs ex H H1 h h1){b:Addr}{ob:Obj}(q:h.get? b=some ob)(n:H b=none)(hx:b∉ex):∃sl,h1.get? b=some {ob with slots:=sl}:=by
 by_cases hb:b∈fs
 ·exact u.slot b ob q n hb hx
 ·exact⟨ob.slots,u.keep b ob q n hb hx⟩
theorem Un.kept(k:∀b u,h.get? b=some u->h'.get? b=some u):Un fs ex H H h h':=
 ⟨fun b ob q _ _ _=>k b ob q,fun b ob q _ _ _=>⟨ob.slots,k b ob q⟩,fun _ _ _ n _=>n,fun b ob q _=>⟨ob,k b ob q⟩,fun _ _ q=>q,fun _ _ _ q=>q,fun _ ps q=>⟨#[],by rw[q];simp⟩⟩
theorem Un.refl:Un fs ex H H h h:=Un.kept fun _ _ q=>q
theorem Un.laid(k:∀b u,h.get? b=some u->h'.get? b=some u)(hp:h.objs.size<=a)(hn:H a=none):Un fs ex H (upd H a o) h h' where
 keep:=fun b u q _ _ _=>k b u q
 slot:=fun b u q _ _ _=>⟨u.slots,k b u q⟩
 free:=fun b u q n _=>by rw[cu (bQ (gA (cA q) hp))];exact n
 there:=fun b u q _=>⟨u,k b u q⟩
 tups:=fun b xs q=>by rw[cu (j7 q hn)];exact q
 frzs:=fun b u xs q=>by rw[cu (j7 q hn)];exact q
 tbls:=fun b ps q=>⟨#[],by rw[cu (j7 q hn),q];simp⟩
theorem Un.write(mu:Mut (H x))(he:e=x\/H e=some (.own x))(k:∀b u,b≠e->h.get? b=some u->h'.get? b=some u)(heo:∃u,h'.get? e=some u):Un fs ex H (upd H x o) h h':=by
 have hx:∀b,H b=none->b≠x:=fun b n z=>by subst z;rw[n]at mu;exact mu
 have hb:∀b,H b=none->b≠e:=fun b n z=>by
  subst z
  rcases he with r|r
  ·exact hx b n r
  ·rw[n]at r;cases r
 have hm:∀b u,H b=some u->¬Mut (some u)->b≠x:=fun b u q nm z=>by subst z;rw[q]at mu;exact nm mu
 refine⟨fun b u q n _ _=>k b u (hb b n) q,fun b u q n _ _=>⟨u.slots,k b u (hb b n) q⟩,fun b u q n _=>by rw[cu (hx b n)];exact n,fun b u q _=> ?_,
  fun b xs q=>by rw[cu (hm b _ q fun z=>z)];exact q,fun b u xs q=>by rw[cu (hm b _ q fun z=>z)];exact q,fun b ps q=>⟨#[],by rw[cu (hm b _ q fun z=>z),q];simp⟩⟩
 by_cases hbe:b=e
 ·subst hbe;exact heo
 ·exact⟨u,k b u hbe q⟩
end
def trk(h:Heap)(H:Hp):List Addr:=(List.range h.objs.size).filter fun a=>(H a).isSome
def hidT(h:Heap)(H:Hp):Heap:=PySem.W.hideAll h (trk h H)
theorem hidT_size(h:Heap)(H:Hp):(hidT h H).objs.size=h.objs.size:=PySem.W.hideAll_size _ _
theorem hidT_get{h:Heap}{H:Hp}{b:Addr}{o:Obj}(e:h.get? b=some o)(n:H b=none):(hidT h H).get? b=some o:=
 PySem.W.hideAll_get _ e fun hm=>by
  have q:(H b).isSome=true:=(je.mp hm).2
  rw[n]at q;simp at q
theorem of_hidT{h:Heap}{H:Hp}{b:Addr}{o:Obj}(e:(hidT h H).get? b=some o):h.get? b=some o/\H b=none:=by
 have e':h.get? b=some o:=PySem.W.of_hideAll (trk h H) e
 refine⟨e',?_⟩
 cases q:H b with
 |none=>rfl
 |some x=>
  have hm:b∈trk h H:=je.mpr ⟨sI.mpr (cA e'),by simp[q]⟩
  have z:(hidT h H).get? b=none:=PySem.W.hideAll_none (trk h H) hm
  rw[z]at e;cases e
structure Mod(K:W.Frag)(mg:Str->Option Value)(base:Heap):Prop where
 kin:K.In base
 glob:base.Ns mainGlobals mg
 blt:∃mb,base.Ns builtinsNs mb/\∀x:Str,x≠"__name__"->mb x=bootBuiltins x
 nolimit:base.NoLimit
structure Cx where
 prog:Program
 w:World
 K:W.Frag
 mg:Str->Option Value
 base:Heap
 A:Around
 N:List Str
 s₀:Shared
 H₀:Hp
 env:Env
 outer:List Env
 stack:List Env
 ex:List Addr
 fn:Str->Bool
 calm:Bool
 pn:List (Addr×Obj)
 xe:Value->Shared->Prop
def frs(l:List Env):List Addr:=l.filterMap (·.frame)
abbrev Cx.fs(X:Cx):List Addr:=frs X.outer
def Vis(sc:Scope)(x:Str):Prop:=sc.names.lookup x=some .local\/sc.names.lookup x=some .cell\/sc.names.lookup x=some .free
def Loc(sc:Scope)(x:Str):Prop:=sc.names.lookup x=some .local\/sc.names.lookup x=some .cell
def Look(env:Env)(h:Heap)(m:Str->Option Value)(x:Str)(u:Value):Prop:=
 (env.kindOf x=some .local/\m x=some u)\/((env.kindOf x=some .cell\/env.kindOf x=some .free)/\∃c,env.cells.lookup x=some c/\h.IsCell c (some u))
structure Cx.Ok(X:Cx):Prop where
 mod:Mod X.K X.mg X.base
 kind:X.env.scope.kind= .function
 glob:X.env.globals=mainGlobals
 blt:X.env.builtins=builtinsNs
 above:X.s₀.heap.objs.size<=X.env.locals
 inj:∀x y c,X.env.cells.lookup x=some c->X.env.cells.lookup y=some c->x=y
 has:∀x,(X.env.kindOf x=some .cell\/X.env.kindOf x=some .free)->∃c,X.env.cells.lookup x=some c
 cab:∀x c,X.fn x=true->X.env.cells.lookup x=some c->X.s₀.heap.objs.size<=c
 hd:X.calm=true->X.A.handled=none
 frames:X.A.frames=some X.stack
 stk:X.stack=X.outer\/(X.stack=X.env::X.outer/\X.env.frame=some X.env.locals)
 exf:∀b∈X.ex,b≠X.env.locals/\∀x c,X.env.cells.lookup x=some c->c≠b
 bs:∀b o,X.base.get? b=some o->X.s₀.heap.get? b=some o/\X.H₀ b=none
 bsz:X.base.objs.size<=X.s₀.heap.objs.size
 noex:∀b o,X.base.get? b=some o->b∉X.ex
 exfs:∀b∈X.ex,b∉X.fs
 funs:X.s₀.heap.FunFrames X.base X.outer
 frf:∀b∈X.fs,X.H₀ b=none
structure Inv(X:Cx)(pins:List (Addr×Obj))(σ:List (Option V))(H:Hp)(s:Shared):Prop where
 ok:X.Ok
 os:s.os=X.s₀.os
 bare:AllBare s.gens
 base:Un X.fs X.ex X.H₀ H X.s₀.heap s.heap
 loc:∃m,s.heap.Ns X.env.locals m/\∀(i:Nat) (x:Str) (v:V),X.N[i]? =some x->σ[i]? =some (some v)->Vis X.env.scope x->∃u,RelV v u/\Look X.env s.heap m x u
 cell:∀x c,X.env.cells.lookup x=some c->∃v,s.heap.IsCell c v
 free:H X.env.locals=none
 freeC:∀x c,X.env.cells.lookup x=some c->H c=none
 pin:∀p∈X.pn++pins,s.heap.get? p.1=some p.2/\H p.1=none/\p.1≠X.env.locals/\p.1∉X.fs/\∀v,p.2.data≠.cell v
 hok:HOk X.prog X.w H s.heap
 len:σ.length=X.N.length
section
variable{X:Cx}{pins:List (Addr×Obj)}{σ:List (Option V)}{H H':Hp}{s:Shared}{h':Heap}
theorem Cx.Ok.nofr(ok:X.Ok){b:Addr}{o:Obj}(e:X.base.get? b=some o):b∉X.fs:=fun hb=>by
 have:=(ok.funs.mem hb).1
 rw[e]at this;cases this
theorem Inv.bs(I:Inv X pins σ H s):∀b o,X.base.get? b=some o->s.heap.get? b=some o/\H b=none:=fun b o e=>
 ⟨I.base.keep b o (I.ok.bs b o e).1 (I.ok.bs b o e).2 (I.ok.nofr e) (I.ok.noex b o e),I.base.free b o (I.ok.bs b o e).1 (I.ok.bs b o e).2 (I.ok.noex b o e)⟩
theorem Inv.bk(I:Inv X pins σ H s):∀b o,X.base.get? b=some o->s.heap.get? b=some o:=fun b o e=>(I.bs b o e).1
theorem Inv.mod(I:Inv X pins σ H s):Mod X.K X.mg X.base:=I.ok.mod
theorem Inv.kIn(I:Inv X pins σ H s):X.K.In s.heap:=I.ok.mod.kin.keeps I.bk
theorem Inv.nolimit(I:Inv X pins σ H s):s.heap.NoLimit:=I.ok.mod.nolimit.keeps I.bk
theorem Inv.lt(I:Inv X pins σ H s):X.env.locals<s.heap.objs.size:=let⟨_,hn,_⟩:=I.loc;hn.lt
theorem Inv.sz(I:Inv X pins σ H s):X.s₀.heap.objs.size<=s.heap.objs.size:=eO I.ok.above (cQ I.lt)
theorem Inv.nofs(I:Inv X pins σ H s){a:Addr}(h:s.heap.objs.size<=a):a∉X.fs:=fun hb=>by
 obtain⟨_,o,ho,_⟩:=I.ok.funs.mem hb
 exact absurd (gA (cA ho) (eO I.sz h)) (p7 _)
theorem Inv.cne(I:Inv X pins σ H s):∀x c,X.env.cells.lookup x=some c->c≠X.env.locals:=fun x c e z=>by
 obtain⟨v,o,ho,hd⟩:=I.cell x c e
 obtain⟨m,⟨o',es,ep,ho',hd',_⟩,_⟩:=I.loc
 rw[z,ho']at ho;cases ho;rw[hd']at hd;cases hd
theorem Inv.funs(I:Inv X pins σ H s):s.heap.FunFrames X.base X.outer:=by
 have all:∀(l:List Env),(∀b∈frs l,b∈X.fs)->X.s₀.heap.FunFrames X.base l->s.heap.FunFrames X.base l:=by
  intro l
  induction l with
  |nil=>intro _ _;trivial
  |cons env r ih=>
   intro hs hl
   obtain⟨hk,⟨L,o,hf,hn,ho,hd⟩,hr⟩:=hl
   have hL:L∈X.fs:=hs L (by unfold frs;rw[Wc,hf];exact cV)
   obtain⟨sl,e⟩:=I.base.slot L o ho (I.ok.frf L hL) hL fun z=>I.ok.exfs L z hL
   exact⟨hk,⟨L,_,hf,hn,e,hd⟩,ih (fun b hb=>hs b (by unfold frs;rw[Wc,hf];exact dG _ hb)) hr⟩
 exact all X.outer (fun _ hb=>hb) I.ok.funs
theorem Inv.stack(I:Inv X pins σ H s):s.heap.FunFrames X.base X.stack:=by
 rcases I.ok.stk with e|⟨e,hf⟩
 ·rw[e];exact I.funs
 ·rw[e]
  obtain⟨m,hn,_⟩:=I.loc
  refine .cons (by rw[I.ok.kind];decide) hf hn ?_ I.funs
  exact Heap.get?_none_of_le (eO I.ok.bsz I.ok.above)
theorem Inv.stkSub(I:Inv X pins σ H s):∀b∈frs X.stack,b∈X.env.locals::X.fs:=fun b hb=>by
 rcases I.ok.stk with e|⟨e,hf⟩
 ·rw[e]at hb;exact dG _ hb
 ·rw[e]at hb
  unfold frs at hb
  rw[Wc,hf]at hb
  exact hb
theorem Inv.stkFree(I:Inv X pins σ H s):∀b∈frs X.stack,H b=none:=fun b hb=>by
 rcases cB.mp (I.stkSub b hb)with e|hb
 ·rw[e];exact I.free
 ·obtain⟨_,o,ho,_⟩:=I.ok.funs.mem hb
  exact I.base.free b o ho (I.ok.frf b hb) fun z=>I.ok.exfs b z hb
theorem Inv.step{g':Array GenState}{t':Nat}{d':Drawn}{ch:List Addr}(I:Inv X pins σ H s)(hch:∀b∈ch,(b∈X.ex\/X.s₀.heap.objs.size<=b)/\b≠X.env.locals/\(∀x c,X.env.cells.lookup x=some c->c≠b)/\∀p∈X.pn++pins,p.1≠b)(keep:∀b o,b≠X.env.locals->b∉X.fs->b∉ch->s.heap.get? b=some o->H b=none->h'.get? b=some o)(slot:∀b o,b≠X.env.locals->b∈X.fs->b∉ch->s.heap.get? b=some o->H b=none->∃sl,h'.get? b=some {o with slots:=sl})(free:∀b o,b∉ch->s.heap.get? b=some o->H b=none->H' b=none)(there:∀b o,b∉ch->s.heap.get? b=some o->∃o',h'.get? b=some o')(tups:∀b xs,H b=some (.tup xs)->H' b=some (.tup xs))(frzs:∀b o u,H b=some (.frz o u)->H' b=some (.frz o u))(tbls:∀b ps,H b=some (.tbl ps)->∃more,H' b=some (.tbl (ps++more)))(ns:∀m,s.heap.Ns X.env.locals m->h'.Ns X.env.locals m)(hok:HOk X.prog X.w H' h')(hg:AllBare g'):
  Inv X pins σ H' {s with heap:=h',gens:=g',drawn:=d',toks:=t'}:=by
 have neL:∀b o,X.s₀.heap.get? b=some o->b≠X.env.locals:=fun b o e=>bQ (gA (cA e) I.ok.above)
 have neC:∀b o,X.s₀.heap.get? b=some o->b∉X.ex->b∉ch:=fun b o e hx hb=>by
  rcases(hch b hb).1 with z|z
  ·exact hx z
  ·exact absurd (gA (cA e) z) (p7 _)
 have cellK:∀x c,X.env.cells.lookup x=some c->∀v,s.heap.IsCell c v->h'.IsCell c v:=fun x c e v ⟨o,ho,hd⟩=>by
  have nch:c∉ch:=fun z=>(hch c z).2.2.1 x c e rfl
  by_cases hc:c∈X.fs
  ·obtain⟨sl,q⟩:=slot c o (I.cne x c e) hc nch ho (I.freeC x c e)
   exact⟨_,q,hd⟩
  ·exact⟨o,keep c o (I.cne x c e) hc nch ho (I.freeC x c e),hd⟩
 refine⟨I.ok,I.os,hg,⟨fun b o e n hb hx=> ?_,fun b o e n hb hx=> ?_,fun b o e n hx=> ?_,fun b o e hx=> ?_,fun b xs e=>tups b xs (I.base.tups b xs e),fun b o xs e=>frzs b o xs (I.base.frzs b o xs e),fun b ps e=> ?_⟩,?_,fun x c e=> ?_,?_,fun x c e=> ?_,fun p hp=> ?_,hok,I.len⟩
 ·exact keep b o (neL b o e) hb (neC b o e hx) (I.base.keep b o e n hb hx) (I.base.free b o e n hx)
 ·obtain⟨sl,e1⟩:=I.base.slot b o e n hb hx
  obtain⟨sl',e2⟩:=slot b _ (neL b o e) hb (neC b o e hx) e1 (I.base.free b o e n hx)
  exact⟨sl',e2⟩
 ·obtain⟨o',e1⟩:=I.base.there b o e hx
  exact free b o' (neC b o e hx) e1 (I.base.free b o e n hx)
 ·obtain⟨o',e1⟩:=I.base.there b o e hx
  exact there b o' (neC b o e hx) e1
 ·obtain⟨m1,e1⟩:=I.base.tbls b ps e
  obtain⟨m2,e2⟩:=tbls b _ e1
  exact⟨m1++m2,by rw[e2,Array.append_assoc]⟩
 ·obtain⟨m,hn,hl⟩:=I.loc
  refine⟨m,ns m hn,fun i x v e1 e2 e3=> ?_⟩
  obtain⟨u,r,l⟩:=hl i x v e1 e2 e3
  refine⟨u,r,?_⟩
  rcases l with l|⟨k,c,e,z⟩
  ·exact .inl l
  ·exact .inr ⟨k,c,e,cellK x c e _ z⟩
 ·obtain⟨v,z⟩:=I.cell x c e
  exact⟨v,cellK x c e v z⟩
 ·obtain⟨m,⟨o,_,_,ho,_⟩,_⟩:=I.loc
  exact free _ o (fun z=>(hch _ z).2.1 rfl) ho I.free
 ·obtain⟨v,o,ho,hd⟩:=I.cell x c e
  exact free c o (fun z=>(hch c z).2.2.1 x c e rfl) ho (I.freeC x c e)
 ·obtain⟨e,n,ne,nf,d⟩:=I.pin p hp
  have nch:p.1∉ch:=fun z=>(hch p.1 z).2.2.2 p hp rfl
  exact⟨keep p.1 p.2 ne nf nch e n,free p.1 p.2 nch e n,ne,nf,d⟩
theorem Inv.un{t':Nat}(I:Inv X pins σ H s)(u:Un X.fs [] H H' s.heap h')(hok:HOk X.prog X.w H' h'):Inv X pins σ H' {s with heap:=h',toks:=t'}:=by
 obtain⟨m,⟨o,es,ep,ho,r⟩,_⟩:=id I.loc
 obtain⟨sl,hL⟩:=u.any ho I.free (by simp)
 exact I.step (g':=s.gens) (d':=s.drawn) (ch:=[]) (fun _ z=>nomatch z) (fun b o _ hb _ e n=>u.keep b o e n hb (by simp)) (fun b o _ hb _ e n=>u.slot b o e n hb (by simp)) (fun b o _ e n=>u.free b o e n (by simp)) (fun b o _ e=>u.there b o e (by simp)) u.tups u.frzs u.tbls (fun m' hm=>by
  obtain⟨o',es',ep',ho',r'⟩:=hm
  rw[ho]at ho';cases ho'
  exact⟨_,es',ep',hL,r'⟩) hok I.bare
theorem Inv.call{g':Array GenState}{t':Nat}{d':Drawn}{ch:List Addr}(I:Inv X pins σ H s)(u:Un (frs X.stack) ch H H' s.heap h')(hok:HOk X.prog X.w H' h')(hg:AllBare g')(hch:∀b∈ch,(b∈X.ex\/X.s₀.heap.objs.size<=b)/\b≠X.env.locals/\(∀x c,X.env.cells.lookup x=some c->c≠b)/\∀p∈X.pn++pins,p.1≠b):
  Inv X pins σ H' {s with heap:=h',gens:=g',drawn:=d',toks:=t'}:=by
 obtain⟨m,⟨o,es,ep,ho,r⟩,_⟩:=id I.loc
 obtain⟨sl,hL⟩:=u.any ho I.free fun z=>(hch _ z).2.1 rfl
 exact I.step (ch:=ch) hch (fun b o hL hb hc e n=>u.keep b o e n (fun z=>(cB.mp (I.stkSub b z)).elim hL hb) hc) (fun b o _ _ hc e n=>u.any e n hc) (fun b o hc e n=>u.free b o e n hc) (fun b o hc e=>u.there b o e hc) u.tups u.frzs u.tbls (fun m' hm=>by
  obtain⟨o',es',ep',ho',r'⟩:=hm
  rw[ho]at ho';cases ho'
  exact⟨_,es',ep',hL,r'⟩) hok hg
theorem Inv.turned{t':Nat}{it:Addr}(I:Inv X pins σ H s)(k:∀b o,b≠it->s.heap.get? b=some o->h'.get? b=some o)(hn:H it=none)(hL:it≠X.env.locals)(h1:it∈X.ex\/X.s₀.heap.objs.size<=it)(h2:∀x c,X.env.cells.lookup x=some c->c≠it)(h3:∀p∈X.pn++pins,p.1≠it):Inv X pins σ H {s with heap:=h',toks:=t'}:=by
 have nit:∀b u,H b=some u->b≠it:=fun b u e z=>by rw[z,hn]at e;cases e
 refine I.step (g':=s.gens) (d':=s.drawn) (ch:=[it]) (fun b hb=> ?_) (fun b o _ _ hc e _=>k b o (fun z=>hc (by simp[z])) e) (fun b o _ _ hc e _=>⟨o.slots,k b o (fun z=>hc (by simp[z])) e⟩) (fun _ _ _ _ n=>n)
  (fun b o hc e=>⟨o,k b o (fun z=>hc (by simp[z])) e⟩) (fun _ _ e=>e) (fun _ _ _ e=>e) (fun b ps e=>⟨#[],by rw[e];simp⟩) (fun m hm=> ?_) (fun b u e=> ?_) I.bare
 ·have e:b=it:=by simpa using hb
  subst e
  exact⟨h1,hL,h2,h3⟩
 ·obtain⟨o,es,ep,ho,r⟩:=hm
  exact⟨o,es,ep,k _ o (jY hL) ho,r⟩
 ·refine(I.hok b u e).stay (fun c v hc q=>k c v ?_ q) (fun _ q=>q) fun _ _ q=>q
  rcases hc with z|z
  ·rw[z];exact nit b u e
  ·exact nit c _ z
theorem Inv.tok(I:Inv X pins σ H s)(t:Nat):Inv X pins σ H {s with toks:=t}:=I.un (h':=s.heap) (t':=t) Un.refl I.hok
theorem Inv.kept{t':Nat}(I:Inv X pins σ H s)(k:∀b u,s.heap.get? b=some u->h'.get? b=some u):Inv X pins σ H {s with heap:=h',toks:=t'}:=I.un (Un.kept k) (I.hok.kept k)
theorem Inv.laid{a:Addr}{o:HO}{t':Nat}(I:Inv X pins σ H s)(k:∀b u,s.heap.get? b=some u->h'.get? b=some u)(hp:s.heap.objs.size<=a)(new:ObjOk X.prog X.w (upd H a o) h' a o):
  Inv X pins σ (upd H a o) {s with heap:=h',toks:=t'}:=I.un (Un.laid k hp (I.hok.fresh hp)) (I.hok.laid k hp new)
theorem Inv.write{x e:Addr}{o:HO}{t':Nat}(I:Inv X pins σ H s)(mu:Mut (H x))(he:e=x\/H e=some (.own x))(k:∀b u,b≠e->s.heap.get? b=some u->h'.get? b=some u)(heo:∃u,h'.get? e=some u)(new:ObjOk X.prog X.w (upd H x o) h' x o):Inv X pins σ (upd H x o) {s with heap:=h',toks:=t'}:=I.un (Un.write mu he k heo) (I.hok.write mu he k heo new)
theorem Inv.pins_of{pins':List (Addr×Obj)}(I:Inv X pins σ H s)(h:∀p∈pins',s.heap.get? p.1=some p.2/\H p.1=none/\p.1≠X.env.locals/\p.1∉X.fs/\∀v,p.2.data≠.cell v):Inv X pins' σ H s:=
 ⟨I.ok,I.os,I.bare,I.base,I.loc,I.cell,I.free,I.freeC,fun p hp=>(kJ.mp hp).elim (fun z=>I.pin p (Ew _ z)) (h p),I.hok,I.len⟩
theorem nodup_ix{N:List Str}(hN:N.Nodup){i j:Nat}{x:Str}(a:N[i]? =some x)(b:N[j]? =some x):i=j:=by
 obtain⟨h1,e1⟩:=qy.mp a
 obtain⟨h2,e2⟩:=qy.mp b
 exact(List.getElem_inj hN).mp (e1.trans e2.symm)
theorem store_ok2{M:Model}{A:Around}{E:Value->Shared->Prop}{i:Nat}{x:Str}{v:V}{u:Value}{Q:Unit->Shared->Prop}(I:Inv X pins σ H s)(hN:X.N.Nodup)(hi:X.N[i]? =some x)(hx:Loc X.env.scope x)(r:RelV v u)(h:∀s',Inv X pins (σ.set i (some v)) H s'->(∃a,Heap.SameBut a s.heap s'.heap/\(a=X.env.locals\/X.env.cells.lookup x=some a))->Q () s')(hf:X.fn x=true\/X.env.scope.names.lookup x=some .local:=by first |exact .inl rfl|exact .inr rfl|assumption):wpAny M A (storeName X.env x u) Q E s:=by
 obtain⟨m,hn,hl⟩:=id I.loc
 have hcls:(X.env.scope.kind== .class||(X.env.scope.kind== .module&&X.env.locals !=X.env.globals))=false:=by rw[I.ok.kind];rfl
 have hiσ:i<σ.length:=by rw[I.len];exact(qy.mp hi).1
 have cne:=I.cne
 have tracked:∀{a:Addr} {h':Heap},(∃o,s.heap.get? a=some o/\H a=none)->Heap.SameBut a s.heap h'->HOk X.prog X.w H h':=fun{a h'} ha hs b ob e=>by
  obtain⟨_,_,hfree⟩:=ha
  refine(I.hok b ob e).stay (fun c w' hc q=>(hs.2 c ?_).trans q) (fun _ q=>q) fun _ _ q=>q
  rintro rfl
  rcases hc with rfl|hc
  ·rw[hfree]at e;cases e
  ·rw[hfree]at hc;cases hc
 rcases hx with hk|hk
 ·refine wpAny_storeName_local hk hn (fun h' hn' hs=> ?_) hcls
  obtain⟨oL,_,_,hoL,_⟩:=id hn
  refine h _ ⟨I.ok,I.os,I.bare,⟨fun b o e n hb hx=> ?_,fun b o e n hb hx=> ?_,I.base.free,fun b o e hx=> ?_,I.base.tups,I.base.frzs,I.base.tbls⟩,⟨_,hn',fun j y v' e1 e2 e3=> ?_⟩,fun y c e=> ?_,I.free,I.freeC,fun p hp=> ?_,tracked ⟨oL,hoL,I.free⟩ hs,by simpa using I.len⟩ ⟨_,hs,.inl rfl⟩
  ·exact(hs.2 b (bQ (gA (cA e) I.ok.above))).trans (I.base.keep b o e n hb hx)
  ·obtain⟨sl,e1⟩:=I.base.slot b o e n hb hx
   exact⟨sl,(hs.2 b (bQ (gA (cA e) I.ok.above))).trans e1⟩
  ·obtain⟨o',e1⟩:=I.base.there b o e hx
   exact⟨o',(hs.2 b (bQ (gA (cA e) I.ok.above))).trans e1⟩
  ·by_cases hj:j=i
   ·subst hj
    rw[hi]at e1;cases e1
    rw[wfz hiσ]at e2
    cases e2
    exact⟨u,r,.inl ⟨hk,by simp⟩⟩
   ·rw[List.getElem?_set_ne (jY hj)]at e2
    obtain⟨u',r',q⟩:=hl j y v' e1 e2 e3
    refine⟨u',r',?_⟩
    rcases q with⟨k,e⟩|⟨k,c,e,z⟩
    ·refine .inl ⟨k,?_⟩
     have:y≠x:=fun e=>hj (nodup_ix hN e1 (e▸hi))
     simp[this,e]
    ·exact .inr ⟨k,c,e,z.sameBut hs (cne y c e)⟩
  ·obtain⟨w',z⟩:=I.cell y c e
   exact⟨w',z.sameBut hs (cne y c e)⟩
  ·obtain⟨e,n,ne,nf,d⟩:=I.pin p hp
   exact⟨(hs.2 p.1 ne).trans e,n,ne,nf,d⟩
 ·have hfn:X.fn x=true:=by
   rcases hf with z|z
   ·exact z
   ·rw[z]at hk;cases hk
  obtain⟨c,hc⟩:=I.ok.has x (.inl hk)
  obtain⟨w',z⟩:=I.cell x c hc
  refine wpAny_storeName_cell I.ok.kind hk hc z (fun h' hc' hs=> ?_)
  obtain⟨oc,hoc,hocd⟩:=id z
  refine h {s with heap:=h'} ⟨I.ok,I.os,I.bare,⟨fun b o e n hb hx=> ?_,fun b o e n hb hx=> ?_,I.base.free,fun b o e hx=> ?_,I.base.tups,I.base.frzs,I.base.tbls⟩,⟨m,hn.sameBut hs (jY (cne x c hc)),fun j y v' e1 e2 e3=> ?_⟩,fun y c' e=> ?_,I.free,I.freeC,fun p hp=> ?_,tracked ⟨oc,hoc,I.freeC x c hc⟩ hs,by simpa using I.len⟩ ⟨c,hs,.inr hc⟩
  ·exact(hs.2 b (bQ (gA (cA e) (I.ok.cab x c hfn hc)))).trans (I.base.keep b o e n hb hx)
  ·obtain⟨sl,e1⟩:=I.base.slot b o e n hb hx
   exact⟨sl,(hs.2 b (bQ (gA (cA e) (I.ok.cab x c hfn hc)))).trans e1⟩
  ·obtain⟨o',e1⟩:=I.base.there b o e hx
   exact⟨o',(hs.2 b (bQ (gA (cA e) (I.ok.cab x c hfn hc)))).trans e1⟩
  ·by_cases hj:j=i
   ·subst hj
    rw[hi]at e1;cases e1
    rw[wfz hiσ]at e2
    cases e2
    exact⟨u,r,.inr ⟨.inl hk,c,hc,hc'⟩⟩
   ·rw[List.getElem?_set_ne (jY hj)]at e2
    obtain⟨u',r',q⟩:=hl j y v' e1 e2 e3
    refine⟨u',r',?_⟩
    rcases q with q|⟨k,c',e,z'⟩
    ·exact .inl q
    ·refine .inr ⟨k,c',e,z'.sameBut hs ?_⟩
     rintro rfl
     exact hj (nodup_ix hN e1 (I.ok.inj _ _ _ e hc▸hi))
  ·by_cases hcc:c'=c
   ·subst hcc;exact⟨_,hc'⟩
   ·obtain⟨w2,z2⟩:=I.cell y c' e
    exact⟨w2,z2.sameBut hs hcc⟩
  ·obtain⟨e,n,ne,nf,d⟩:=I.pin p hp
   refine⟨(hs.2 p.1 ?_).trans e,n,ne,nf,d⟩
   intro q
   rw[q,hoc]at e
   have q':oc=p.2:=p8 e
   exact d w' (by rw[<-q'];exact hocd)
theorem store_ok{M:Model}{A:Around}{E:Value->Shared->Prop}{i:Nat}{x:Str}{v:V}{u:Value}{Q:Unit->Shared->Prop}(I:Inv X pins σ H s)(hN:X.N.Nodup)(hi:X.N[i]? =some x)(hx:Loc X.env.scope x)(r:RelV v u)(h:∀s',Inv X pins (σ.set i (some v)) H s'->Q () s')(hf:X.fn x=true\/X.env.scope.names.lookup x=some .local:=by first |exact .inl rfl|exact .inr rfl|assumption):wpAny M A (storeName X.env x u) Q E s:=
 store_ok2 I hN hi hx r (fun s' I' _=>h s' I') hf
theorem Inv.call'{s':Shared}{ch:List Addr}(I:Inv X pins σ H s)(ho:s'.os=s.os)(u:Un (frs X.stack) ch H H' s.heap s'.heap)(hok:HOk X.prog X.w H' s'.heap)(hg:AllBare s'.gens)(hch:∀b∈ch,(b∈X.ex\/X.s₀.heap.objs.size<=b)/\b≠X.env.locals/\(∀x c,X.env.cells.lookup x=some c->c≠b)/\∀p∈X.pn++pins,p.1≠b):Inv X pins σ H' s':=by
 obtain⟨h',g',d',t',o'⟩:=s'
 have e:o'=s.os:=ho
 subst e
 exact I.call (g':=g') (t':=t') (d':=d') u hok hg hch
end
abbrev XK:=Value->Option Addr->Hp->Prop
abbrev St:=List (Option V)
abbrev VK:=V->Hp->Prop
abbrev TE:=St->Hp->VK->Prop
abbrev TT:=St->Hp->(Bool->Hp->Prop)->Prop
abbrev TA:=St->Hp->(List V->Hp->Prop)->Prop
structure Ends where
 nx:St->Hp->Prop
 rt:VK
 bk:St->Hp->Prop:=fun _ _=>False
 ct:St->Hp->Prop:=fun _ _=>False
abbrev TS:=Ends->St->Hp->Prop
def EP(X:Cx)(pins:List (Addr×Obj))(σ:St)(Q:VK)(u:Value)(s':Shared):Prop:=∃v H',Inv X pins σ H' s'/\RelV v u/\Q v H'
def TP(X:Cx)(pins:List (Addr×Obj))(σ:St)(Q:Bool->Hp->Prop)(b:Bool)(s':Shared):Prop:=∃H',Inv X pins σ H' s'/\Q b H'
def AP(X:Cx)(pins:List (Addr×Obj))(σ:St)(Q:List V->Hp->Prop)(us:List Value)(s':Shared):Prop:=∃vs H',Inv X pins σ H' s'/\Vals vs us/\Q vs H'
def SP(X:Cx)(pins:List (Addr×Obj))(D:Ends)(f:Flow)(s':Shared):Prop:=
 match f with
 | .next=>∃σ' H',Inv X pins σ' H' s'/\D.nx σ' H'
 | .brk=>∃σ' H',Inv X pins σ' H' s'/\D.bk σ' H'
 | .cont=>∃σ' H',Inv X pins σ' H' s'/\D.ct σ' H'
 | .ret u=>∃v σ' H',Inv X pins σ' H' s'/\RelV v u/\D.rt v H'
def PE(X:Cx)(e:Expr)(t:TE):Prop:=
 ∀(pins:List (Addr×Obj)) (s:Shared) (σ:St) (H:Hp) (Q:VK),Inv X pins σ H s->t σ H Q->wpAny (model X.prog X.w) X.A (eval e X.env) (EP X pins σ Q) X.xe s
def PT(X:Cx)(e:Expr)(t:TT):Prop:=
 ∀(pins:List (Addr×Obj)) (s:Shared) (σ:St) (H:Hp) (Q:Bool->Hp->Prop),Inv X pins σ H s->t σ H Q->wpAny (model X.prog X.w) X.A (isTrue e X.env (eval e X.env)) (TP X pins σ Q) X.xe s
def PW(X:Cx)(e:Expr)(t:TT):Prop:=
 ∀(whole:Sem Value) (pins:List (Addr×Obj)) (s:Shared) (σ:St) (H:Hp) (Q:Bool->Hp->Prop),Inv X pins σ H s->t σ H Q->wpAny (model X.prog X.w) X.A (isTrue e X.env whole) (TP X pins σ Q) X.xe s
theorem PW.pt{X:Cx}{e:Expr}{t:TT}(h:PW X e t):PT X e t:=h _
def PA(X:Cx)(es:List Expr)(t:TA):Prop:=
 ∀(pos:Pos) (pins:List (Addr×Obj)) (s:Shared) (σ:St) (H:Hp) (Q:List V->Hp->Prop),Inv X pins σ H s->t σ H Q->wpAny (model X.prog X.w) X.A (spliced (backTo pos (starEach es X.env))) (AP X pins σ Q) X.xe s
def PS(X:Cx)(st:Stmt)(t:TS):Prop:=
 ∀(pins:List (Addr×Obj)) (s:Shared) (σ:St) (H:Hp) (D:Ends),Inv X pins σ H s->t D σ H->wpAny (model X.prog X.w) X.A (exec st X.env) (SP X pins D) X.xe s
def PSs(X:Cx)(st:List Stmt)(t:TS):Prop:=
 ∀(pins:List (Addr×Obj)) (s:Shared) (σ:St) (H:Hp) (D:Ends),Inv X pins σ H s->t D σ H->wpAny (model X.prog X.w) X.A (execs st X.env) (SP X pins D) X.xe s
theorem thn{α:Type}{t:Sem α}{Q Q':α->Shared->Prop}{M:Model}{A:Around}{E:Value->Shared->Prop}{s:Shared}(h:wpAny M A t Q E s)(hQ:∀a s,Q a s->Q' a s):wpAny M A t Q' E s:=zT h hQ fun _ _ x=>x
section
variable{X:Cx}
def tVar(i:Nat):TE:=fun σ H Q=>∃v,σ[i]? =some (some v)/\Q v H
def tC(v:V):TE:=fun _ H Q=>Q v H
theorem pe_var{i:Nat}{x:Str}{pos:Pos}(hN:X.N[i]? =some x)(hv:Vis X.env.scope x)(hd:(x==("__debug__":Str))=false:=by decide)(hcd:(x==("__classdict__":Str))=false:=by decide):PE X (.Name x pos) (tVar i):=by
 intro pins s σ H Q I h
 obtain⟨v,e,h⟩:=h
 obtain⟨m,hn,hl⟩:=I.loc
 obtain⟨u,r,l⟩:=hl i x v hN e hv
 have fin:EP X pins σ Q u s:=⟨v,H,I,r,h⟩
 rcases l with⟨hk,hm⟩|⟨hk,c,hc,hcell⟩
 ·exact wpAny_Name (wpAny_loadName_local I.ok.kind hk hn hm fin) hd
 ·rcases hk with hk|hk
  ·exact wpAny_Name (wpAny_loadName_cell I.ok.kind hk hc hcell fin) hd
  ·exact wpAny_Name (wpAny_loadName_free I.ok.kind hk hc hcell fin hcd) hd
theorem aK{i j pos}:PE X (.Constant (.int i) j pos) (tC (.int i)):=fun _ _ _ H _ I h=>wpAny_Constant_int ⟨.int i,H,I.tok _,⟨_,rfl⟩,h⟩
theorem pe_bl{b j pos}:PE X (.Constant (.bool b) j pos) (tC (.bl b)):=fun _ _ _ H _ I h=>Constant_bool ⟨.bl b,H,I,rfl,h⟩
theorem pe_non{j pos}:PE X (.Constant .none j pos) (tC .non):=fun _ _ _ H _ I h=>Constant_none ⟨.non,H,I,rfl,h⟩
def Gl(X:Cx)(x:Str):Prop:=X.env.kindOf x=some .globalImplicit
theorem ld_glob{E:Value->Shared->Prop}{pins:List (Addr×Obj)}{s:Shared}{σ:St}{H:Hp}{x:Str}{u:Value}{pos:Pos}{Q:Value->Shared->Prop}(I:Inv X pins σ H s)(hg:Gl X x)(hm:X.mg x=some u)(h:Q u s)(hd:(x==("__debug__":Str))=false:=by decide):wpAny (model X.prog X.w) X.A (eval (.Name x pos) X.env) Q E s:=
 Calls.Name_function_global I.ok.kind hg (Calls.loadGlobal_global (by rw[I.ok.glob];exact I.mod.glob.keeps I.bk) hm h) hd
theorem wC{E:Value->Shared->Prop}{pins:List (Addr×Obj)}{s:Shared}{σ:St}{H:Hp}{x:Str}{u:Value}{pos:Pos}{Q:Value->Shared->Prop}(I:Inv X pins σ H s)(hg:Gl X x)(hm:X.mg x=none)(hv:bootBuiltins x=some u)(h:Q u s)(hn:x≠"__name__":=by decide)(hd:(x==("__debug__":Str))=false:=by decide):wpAny (model X.prog X.w) X.A (eval (.Name x pos) X.env) Q E s:=by
 obtain⟨mb,h1,h2⟩:=I.mod.blt
 exact Calls.Name_function_global I.ok.kind hg (Calls.loadGlobal_builtin (by rw[I.ok.glob];exact I.mod.glob.keeps I.bk) hm (by rw[I.ok.blt];exact h1.keeps I.bk) ((h2 x hn).trans hv) h) hd
theorem pe_glob{x:Str}{v:V}{u:Value}{pos:Pos}(hg:Gl X x)(hm:X.mg x=some u)(r:RelV v u)(hd:(x==("__debug__":Str))=false:=by decide):PE X (.Name x pos) (tC v):=
 fun _ _ _ H _ I h=>ld_glob I hg hm ⟨v,H,I,r,h⟩ hd
theorem En{x:Str}{v:V}{u:Value}{pos:Pos}(hg:Gl X x)(hm:X.mg x=none)(hv:bootBuiltins x=some u)(r:RelV v u)(hn:x≠"__name__":=by decide)(hd:(x==("__debug__":Str))=false:=by decide):PE X (.Name x pos) (tC v):=
 fun _ _ _ H _ I h=>wC I hg hm hv ⟨v,H,I,r,h⟩ hn hd
variable{a b:Expr}{ta tb:TE}{pos:Pos}
def tB(t:TE):TT:=fun σ H Q=>t σ H fun x H1=>∃c,x= .bl c/\Q c H1
theorem wO{e:Expr}{t:TE}(h:PE X e t)(he:∀whole,isTrue e X.env whole=(do let v<-whole;standAt e.pos;holding [v] (truthy v)):=by intro _;rfl):PT X e (tB t):=by
 intro pins s σ H Q I hw
 refine isTrue_plain (thn (h pins s σ H _ I hw) fun v s1 ⟨x,H1,I1,r1,q1⟩=> ?_) (he _)
 obtain⟨d,rfl,q⟩:=q1
 cases r1
 exact Ho ⟨H1,I1,q⟩
variable{tA tB':TT}{rest:List Expr}
def tAnd(t u:TT):TT:=fun σ H Q=>t σ H fun c H1=>if c=true then u σ H1 Q else Q false H1
def tOr(t u:TT):TT:=fun σ H Q=>t σ H fun c H1=>if c=true then Q true H1 else u σ H1 Q
def tNot(t:TT):TT:=fun σ H Q=>t σ H fun c H1=>Q (!c) H1
theorem pw_and1(ha:PT X a tA):PW X (.BoolOp .And [a] pos) tA:=by
 intro wh pins s σ H Q I h
 refine isTrue_and (thn (ha pins s σ H Q I h) fun c s1 e=> ?_)
 cases c with
 |true=>exact isTrue_and_nil e
 |false=>exact e
theorem pw_or1(ha:PT X a tA):PW X (.BoolOp .Or [a] pos) tA:=by
 intro wh pins s σ H Q I h
 refine isTrue_or (thn (ha pins s σ H Q I h) fun c s1 e=> ?_)
 cases c with
 |false=>exact isTrue_or_nil e
 |true=>exact e
theorem pw_and(ha:PT X a tA)(hb:PW X (.BoolOp .And (b::rest) pos) tB'):PW X (.BoolOp .And (a::b::rest) pos) (tAnd tA tB'):=by
 intro wh pins s σ H Q I h
 refine isTrue_and (thn (ha pins s σ H _ I h) fun c s1 ⟨H1,I1,q1⟩=> ?_)
 cases c with
 |true=>exact hb wh pins s1 σ H1 Q I1 q1
 |false=>exact⟨H1,I1,q1⟩
theorem pw_or(ha:PT X a tA)(hb:PW X (.BoolOp .Or (b::rest) pos) tB'):PW X (.BoolOp .Or (a::b::rest) pos) (tOr tA tB'):=by
 intro wh pins s σ H Q I h
 refine isTrue_or (thn (ha pins s σ H _ I h) fun c s1 ⟨H1,I1,q1⟩=> ?_)
 cases c with
 |true=>exact⟨H1,I1,q1⟩
 |false=>exact hb wh pins s1 σ H1 Q I1 q1
theorem wN(ha:PT X a tA):PT X (.UnaryOp .Not a pos) (tNot tA):=by
 intro pins s σ H Q I h
 exact isTrue_not (ha pins s σ H (fun c H1=>Q (!c) H1) I h)
def tAndV(ta tb:TE):TE:=fun σ H Q=>ta σ H fun x H1=>∃c,x= .bl c/\if c=true then tb σ H1 Q else Q (.bl false) H1
def tOrV(ta tb:TE):TE:=fun σ H Q=>ta σ H fun x H1=>∃c,x= .bl c/\if c=true then Q (.bl true) H1 else tb σ H1 Q
def tNotV(ta:TE):TE:=fun σ H Q=>ta σ H fun x H1=>∃c,x= .bl c/\Q (.bl (!c)) H1
theorem pe_one{op}{t:TE}(h:PE X a t):PE X (.BoolOp op [a] pos) t:=fun pins s σ H Q I hw=>BoolOp_one (h pins s σ H Q I hw)
theorem pe_and(ha:PE X a ta)(hb:PE X (.BoolOp .And (b::rest) pos) tb):PE X (.BoolOp .And (a::b::rest) pos) (tAndV ta tb):=by
 intro pins s σ H Q I h
 refine BoolOp_and (thn (ha pins s σ H _ I h) fun v s1 ⟨x,H1,I1,r1,q1⟩=> ?_)
 obtain⟨c,rfl,q1⟩:=q1
 cases r1
 refine Ho ?_
 cases c with
 |true=>exact hb pins s1 σ H1 Q I1 q1
 |false=>exact⟨.bl false,H1,I1,rfl,q1⟩
theorem pe_or(ha:PE X a ta)(hb:PE X (.BoolOp .Or (b::rest) pos) tb):PE X (.BoolOp .Or (a::b::rest) pos) (tOrV ta tb):=by
 intro pins s σ H Q I h
 refine BoolOp_or (thn (ha pins s σ H _ I h) fun v s1 ⟨x,H1,I1,r1,q1⟩=> ?_)
 obtain⟨c,rfl,q1⟩:=q1
 cases r1
 refine Ho ?_
 cases c with
 |false=>exact hb pins s1 σ H1 Q I1 q1
 |true=>exact⟨.bl true,H1,I1,rfl,q1⟩
theorem pe_not(ha:PE X a ta):PE X (.UnaryOp .Not a pos) (tNotV ta):=by
 intro pins s σ H Q I h
 refine UnaryOp_ (thn (ha pins s σ H _ I h) fun v s1 ⟨x,H1,I1,r1,q1⟩=> ?_)
 obtain⟨c,rfl,q1⟩:=q1
 cases r1
 exact not_of (Ho ⟨.bl (!c),H1,I1,rfl,q1⟩)
def tIf(t:TT)(ta tb:TE):TE:=fun σ H Q=>t σ H fun c H1=>if c=true then ta σ H1 Q else tb σ H1 Q
theorem pe_ifExp{c:Expr}(hc:PT X c tA)(ha:PE X a ta)(hb:PE X b tb):PE X (.IfExp c a b pos) (tIf tA ta tb):=by
 intro pins s σ H Q I h
 refine wpAny_IfExp (thn (hc pins s σ H _ I h) fun d s1 ⟨H1,I1,q1⟩=> ?_)
 cases d with
 |true=>exact ha pins s1 σ H1 Q I1 q1
 |false=>exact hb pins s1 σ H1 Q I1 q1
end
def SqL(K:W.Frag)(H:Hp)(a:Addr)(xs:List V):Prop:=
 Rd H a (.lst xs)\/
  ∃(o:Obj) (its:Array Value) (n:Nat),K.lookup a=some o/\o.cls= .type "list"/\o.dict=none/\o.data= .seq its n/\its.size<=sizeLine/\Vals xs its.toList
def SqT(K:W.Frag)(H:Hp)(a:Addr)(xs:List V):Prop:=
 Rd H a (.tup xs)\/
  ∃(o:Obj) (its:Array Value) (n:Nat),K.lookup a=some o/\o.cls= .type "tuple"/\o.data= .seq its n/\its.size<=sizeLine/\Vals xs its.toList
def absV:Value->Option V
 | .none=>some .non
 | .bool b=>some (.bl b)
 | .int i _=>some (.int i)
 | .str x _=>some (.str x)
 | .bytes b _=>some (.byt b)
 | .float b _=>some (.flt b)
 | .ref a=>some (.ref a)
 | .type n=>some (.ty n)
 |_=>none
theorem RelV.abs{x:V}{u:Value}(r:RelV x u):absV u=some x:=by
 cases x with
 |non=>cases r;rfl
 |bl _=>cases r;rfl
 |int _=>obtain⟨t,rfl⟩:=r;rfl
 |str _=>obtain⟨t,rfl⟩:=r;rfl
 |byt _=>obtain⟨t,rfl⟩:=r;rfl
 |flt _=>obtain⟨t,rfl⟩:=r;rfl
 |ref _=>cases r;rfl
 |ty _=>cases r;rfl
theorem RelV.inj{x y:V}{u:Value}(r:RelV x u)(q:RelV y u):x=y:=p8 (r.abs.symm.trans q.abs)
theorem Vals.inj{xs ys:List V}{us:List Value}(h:Vals xs us)(h':Vals ys us):xs=ys:=by
 induction h generalizing ys with
 |nil=>cases h';rfl
 |cons r _ ih=>cases h' with |cons r' t'=>rw[r.inj r',ih t']
section
variable{X:Cx}{pins:List (Addr×Obj)}{σ:St}{H:Hp}{s:Shared}{a:Addr}{xs ys:List V}
theorem SqL.of{K:W.Frag}(h:H a=some (.lst xs)):SqL K H a xs:= .inl (.inl h)
theorem SqT.of{K:W.Frag}(h:H a=some (.tup xs)):SqT K H a xs:= .inl (.inl h)
theorem Inv.list(I:Inv X pins σ H s)(h:SqL X.K H a xs):∃its:List Value,Vals xs its/\PlainL s.heap a its.toArray/\xs.length<=sizeLine:=by
 rcases h with h|⟨o,its,n,hk,hc,hd,hs,hz,r⟩
 ·obtain⟨z,its,n,r,e⟩:=h.ok I.hok
  exact⟨its,r,⟨_,n,e,rfl,rfl,rfl⟩,z⟩
 ·refine⟨its.toList,r,⟨o,n,I.kIn a o hk,hc,hd,by simpa using hs⟩,?_⟩
  have e:=r.length
  simp only[sO]at e
  omega
theorem Inv.tuple(I:Inv X pins σ H s)(h:SqT X.K H a xs):∃its:List Value,Vals xs its/\IsTup s.heap a its.toArray/\xs.length<=sizeLine:=by
 rcases h with h|⟨o,its,n,hk,hc,hs,hz,r⟩
 ·obtain⟨z,its,r,p⟩:=h.ok I.hok
  exact⟨its,r,p,z⟩
 ·refine⟨its.toList,r,⟨o,I.kIn a o hk,hc,n,by simpa using hs⟩,?_⟩
  have e:=r.length
  simp only[sO]at e
  omega
theorem Inv.list_inj(I:Inv X pins σ H s)(h:SqL X.K H a xs)(h':SqL X.K H a ys):xs=ys:=by
 obtain⟨its,r,⟨o,n,e,_,_,d⟩,_⟩:=I.list h
 obtain⟨its',r',⟨o',n',e',_,_,d'⟩,_⟩:=I.list h'
 rw[e]at e';cases e'
 rw[d]at d'
 injection d' with d1 _
 have:its=its':=by simpa using jh Array.toList d1
 subst this
 exact r.inj r'
theorem Inv.tuple_inj(I:Inv X pins σ H s)(h:SqT X.K H a xs)(h':SqT X.K H a ys):xs=ys:=by
 obtain⟨its,r,⟨o,e,_,n,d⟩,_⟩:=I.tuple h
 obtain⟨its',r',⟨o',e',_,n',d'⟩,_⟩:=I.tuple h'
 rw[e]at e';cases e'
 rw[d]at d'
 injection d' with d1 _
 have:its=its':=by simpa using jh Array.toList d1
 subst this
 exact r.inj r'
end
abbrev Cx.wish(X:Cx)(E:Value->Shared->Prop):Cx:={X with xe:=E}
abbrev Cx.nox(X:Cx):Cx:=X.wish fun _ _=>False
theorem Cx.Ok.wish{X:Cx}(ok:X.Ok)(E:Value->Shared->Prop):(X.wish E).Ok:=
 ⟨ok.mod,ok.kind,ok.glob,ok.blt,ok.above,ok.inj,ok.has,ok.cab,ok.hd,ok.frames,ok.stk,ok.exf,ok.bs,ok.bsz,ok.noex,ok.exfs,ok.funs,ok.frf⟩
theorem Cx.Ok.unwish{X:Cx}{E:Value->Shared->Prop}(ok:(X.wish E).Ok):X.Ok:=
 ⟨ok.mod,ok.kind,ok.glob,ok.blt,ok.above,ok.inj,ok.has,ok.cab,ok.hd,ok.frames,ok.stk,ok.exf,ok.bs,ok.bsz,ok.noex,ok.exfs,ok.funs,ok.frf⟩
section
variable{X:Cx}{pins:List (Addr×Obj)}{σ:St}{H:Hp}{s:Shared}{E:Value->Shared->Prop}
theorem Inv.wish(I:Inv X pins σ H s)(E:Value->Shared->Prop):Inv (X.wish E) pins σ H s:=⟨I.ok.wish E,I.os,I.bare,I.base,I.loc,I.cell,I.free,I.freeC,I.pin,I.hok,I.len⟩
theorem Inv.unwish(I:Inv (X.wish E) pins σ H s):Inv X pins σ H s:=⟨I.ok.unwish,I.os,I.bare,I.base,I.loc,I.cell,I.free,I.freeC,I.pin,I.hok,I.len⟩
theorem SP.unwish{D:Ends}{f:Flow}{s':Shared}(h:SP (X.wish E) pins D f s'):SP X pins D f s':=by
 cases f with
 |next=>obtain⟨σ',H',I,q⟩:=h;exact⟨σ',H',I.unwish,q⟩
 |brk=>obtain⟨σ',H',I,q⟩:=h;exact⟨σ',H',I.unwish,q⟩
 |cont=>obtain⟨σ',H',I,q⟩:=h;exact⟨σ',H',I.unwish,q⟩
 |ret u=>obtain⟨v,σ',H',I,r,q⟩:=h;exact⟨v,σ',H',I.unwish,r,q⟩
theorem PSs.nox{st:List Stmt}{t:TS}(h:PSs X.nox st t):PSs X st t:=fun pins s σ H D I hw=>
 zT (h pins s σ H D (I.wish _) hw) (fun _ _ q=>q.unwish) fun _ _ z=>False.elim z
end
section
variable{X:Cx}{st:Stmt}{rest:List Stmt}{t u:TS}{e:Expr}{te:TE}{pos:Pos}
def tNext:TS:=fun D σ H=>D.nx σ H
def tSeq(t u:TS):TS:=fun D σ H=>t {D with nx:=u D} σ H
theorem lU:PSs X [] tNext:=fun _ _ σ H _ I h=>wea ⟨σ,H,I,h⟩
theorem aO(h1:PS X st t)(h2:PSs X rest u):PSs X (st::rest) (tSeq t u):=by
 intro pins s σ H D I h
 refine wpAny_execs_cons (thn (h1 pins s σ H {D with nx:=u D} I h) fun f s1 q=> ?_)
 cases f with
 |next=>
  obtain⟨σ',H',I',q⟩:=q
  exact h2 pins s1 σ' H' D I' q
 |ret v=>exact q
 |brk=>exact q
 |cont=>exact q
theorem bw(h1:PS X st t):PSs X [st] t:=by
 intro pins s σ H D I h
 refine wpAny_execs_cons (thn (h1 pins s σ H D I h) fun f s1 q=> ?_)
 cases f with
 |next=>exact wea q
 |ret v=>exact q
 |brk=>exact q
 |cont=>exact q
theorem Inv.quiet{pins:List (Addr×Obj)}{σ:St}{H:Hp}{s:Shared}(I:Inv X pins σ H s):interactive X.env=false:=by simp[interactive,I.ok.kind]
def tDrop(te:TE):TS:=fun D σ H=>te σ H fun _ H1=>D.nx σ H1
theorem tH(he:PE X e te)(hs:swapsWith e none pos.line X.env=pure false:=by rfl):PS X (.Expr e pos) (tDrop te):=by
 intro pins s σ H D I h
 exact wpAny_Expr_any (thn (he pins s σ H _ I h) fun v s1 ⟨x,H1,I1,r1,q1⟩=>⟨σ,H1,I1,q1⟩) I.quiet hs
def tRet(te:TE):TS:=fun D σ H=>te σ H D.rt
theorem cI(he:PE X e te):PS X (.Return (some e) pos) (tRet te):=by
 intro pins s σ H D I h
 exact wpAny_Return_some (thn (he pins s σ H _ I h) fun v s1 ⟨x,H1,I1,r1,q1⟩=>⟨x,σ,H1,I1,r1,q1⟩)
def tIfS(c:TT)(t u:TS):TS:=fun D σ H=>c σ H fun b H1=>if b=true then t D σ H1 else u D σ H1
theorem lR{c:Expr}{a b:List Stmt}{tc:TT}(hc:PT X c tc)(ha:PSs X a t)(hb:PSs X b u):PS X (.If c a b pos) (tIfS tc t u):=by
 intro pins s σ H D I h
 refine wpAny_If (thn (hc pins s σ H _ I h) fun d s1 ⟨H1,I1,q1⟩=> ?_)
 cases d with
 |true=>exact ha pins s1 σ H1 D I1 q1
 |false=>exact hb pins s1 σ H1 D I1 q1
def tNever:TS:=fun _ _ _=>False
theorem pss_never{sts:List Stmt}:PSs X sts tNever:=fun _ _ _ _ _ _ h=>h.elim
end
abbrev TG:=V->St->Hp->(St->Hp->Prop)->Prop
abbrev TGs:=List V->St->Hp->(St->Hp->Prop)->Prop
def PG(X:Cx)(target:Expr)(t:TG):Prop:=
 ∀(pins:List (Addr×Obj)) (s:Shared) (σ:St) (H:Hp) (v:V) (u:Value) (Q:St->Hp->Prop),Inv X pins σ H s->RelV v u->t v σ H Q->
  wpAny (model X.prog X.w) X.A (assign target X.env u) (fun _ s'=>∃σ' H',Inv X pins σ' H' s'/\Q σ' H') X.xe s
def PGs(X:Cx)(ts:List Expr)(t:TGs):Prop:=
 ∀(pins:List (Addr×Obj)) (s:Shared) (σ:St) (H:Hp) (vs:List V) (us:List Value) (Q:St->Hp->Prop),Inv X pins σ H s->Vals vs us->t vs σ H Q->
  wpAny (model X.prog X.w) X.A (assignInOrder ((assignEach ts X.env).map (·.2)) us) (fun _ s'=>∃σ' H',Inv X pins σ' H' s'/\Q σ' H') X.xe s
abbrev TSet:=V->V->V->Hp->(Hp->Prop)->Prop
def PSet(X:Cx)(t:TSet):Prop:=
 ∀(pins:List (Addr×Obj)) (s:Shared) (σ:St) (H:Hp) (o i v:V) (ov iv u:Value) (Q:Hp->Prop),Inv X pins σ H s->RelV o ov->RelV i iv->RelV v u->t o i v H Q->
  wpAny (model X.prog X.w) X.A (setItem ov iv u) (fun _ s'=>∃H',Inv X pins σ H' s'/\Q H') X.xe s
abbrev TIp:=V->V->Hp->VK->Prop
def PIp(X:Cx)(op:Operator)(t:TIp):Prop:=
 ∀(pins:List (Addr×Obj)) (s:Shared) (σ:St) (H:Hp) (x y:V) (v u:Value) (Q:VK),Inv X pins σ H s->RelV x v->RelV y u->t x y H Q->
  wpAny (model X.prog X.w) X.A (inplaceOp op v u) (EP X pins σ Q) X.xe s
section
variable{X:Cx}{pos:Pos}
def gName(i:Nat):TG:=fun v σ H Q=>Q (σ.set i (some v)) H
theorem cZ{i:Nat}{x:Str}(hN:X.N.Nodup)(hi:X.N[i]? =some x)(hx:Loc X.env.scope x)(hf:X.fn x=true\/X.env.scope.names.lookup x=some .local:=by first |exact .inl rfl|exact .inr rfl|assumption):PG X (.Name x pos) (gName i):=by
 intro pins s σ H v u Q I r h
 exact wpAny_assign_Name (store_ok I hN hi hx r (fun s' I'=>⟨_,H,I',h⟩) hf)
def gNil:TGs:=fun vs σ H Q=>vs=[]/\Q σ H
def gCons(t:TG)(u:TGs):TGs:=fun vs σ H Q=>∃v r,vs=v::r/\t v σ H fun σ' H'=>u r σ' H' Q
theorem pgs_nil:PGs X [] gNil:=by
 intro pins s σ H vs us Q I r h
 obtain⟨e,h⟩:=h
 subst e
 cases r
 exact assignInOrder_nil ⟨σ,H,I,h⟩
theorem zL{e:Expr}{es:List Expr}{t:TG}{u:TGs}(h1:PG X e t)(h2:PGs X es u)(hs:(assignEach (e::es) X.env).map (·.2)=assign e X.env::(assignEach es X.env).map (·.2):=by rfl):PGs X (e::es) (gCons t u):=by
 intro pins s σ H vs us Q I r h
 obtain⟨v,vr,e1,h⟩:=h
 subst e1
 cases r with
 |cons r rr=>
  rw[hs]
  refine assignInOrder_cons (thn (h1 pins s σ H _ _ _ I r h) fun _ s1 ⟨σ1,H1,I1,q1⟩=> ?_)
  exact h2 pins s1 σ1 H1 _ _ Q I1 rr q1
def gTup(K:W.Frag)(n:Nat)(t:TGs):TG:=fun v σ H Q=>∃a xs,v= .ref a/\SqT K H a xs/\xs.length=n/\t xs σ H Q
theorem pg_tup{es:List Expr}{k:Nat}{t:TGs}{n:Nat}(hc:X.calm=true)(h:PGs X es t)(hn:(assignEach es X.env).length=n:=by rfl)(hst:(assignEach es X.env).findIdx? (·.1)=none:=by rfl):PG X (.Tuple es k pos) (gTup X.K n t):=by
 intro pins s σ H v u Q I r hw
 obtain⟨a,xs,e1,hq,hl,hw⟩:=hw
 subst e1
 cases r
 obtain⟨its,rv,ht,hz⟩:=I.tuple hq
 refine assign_Tuple_tuple (I.ok.hd hc) ht (by simp[hn,<-hl,rv.length]) hst fun h' hx=> ?_
 have I1:Inv X pins σ H {s with heap:=h'}:=I.kept (t':=s.toks) fun b o e=>hx b o (bQ (cA e)) e
 exact h pins _ σ H xs _ Q I1 (by simpa using rv) hw
def gSub(to ti:TE)(t:TSet):TG:=fun v σ H Q=>to σ H fun o H1=>ti σ H1 fun i H2=>t o i v H2 fun H3=>Q σ H3
theorem pg_sub{o i:Expr}{to ti:TE}{t:TSet}(ho:PE X o to)(hi:PE X i ti)(hs:PSet X t)(ha:∀v,assign (.Subscript o i pos) X.env v=(do
   let ov<-holding [v] (eval o X.env)
   let iv<-holding [v,ov] (eval i X.env)
   standAt pos
   holding [v,ov,iv] (setItem ov iv v)
   release [v,ov,iv] []):=by intro _;rfl):PG X (.Subscript o i pos) (gSub to ti t):=by
 intro pins s σ H v u Q I r h
 rw[ha]
 refine ak (uM (thn (ho pins s σ H _ I h) fun ov s1 ⟨x,H1,I1,r1,q1⟩=> ?_))
 refine ak (uM (thn (hi pins s1 σ H1 _ I1 q1) fun iv s2 ⟨y,H2,I2,r2,q2⟩=> ?_))
 refine ak (Z9 (ak (uM (thn (hs pins s2 σ H2 x y v ov iv u _ I2 r1 r2 r q2) fun _ s3 ⟨H3,I3,q3⟩=> ?_))))
 exact wpAny_release ⟨σ,H3,I3,q3⟩
def tAsg(te:TE)(g:TG):TS:=fun D σ H=>te σ H fun x H1=>g x σ H1 D.nx
theorem ps_asg{tg e:Expr}{te:TE}{g:TG}(he:PE X e te)(hg:PG X tg g)(hs:swapsWithSole [tg] e pos.line X.env=pure false:=by rfl)(hw:swappedStores [tg] e X.env=pure none:=by rfl)(h1:(assignEach [tg] X.env).map (·.2)=[assign tg X.env]:=by rfl):PS X (.Assign [tg] e pos) (tAsg te g):=by
 intro pins s σ H D I h
 refine wpAny_Assign_stores (thn (he pins s σ H _ I h) fun v s1 ⟨x,H1,I1,r1,q1⟩=> ?_) hs hw
 rw[h1]
 exact thn (hg pins s1 σ H1 x v _ I1 r1 q1) fun _ s2 q=>q
theorem cW{i:Nat}{x:Str}{e:Expr}{te:TE}{pos':Pos}(hN:X.N.Nodup)(hi:X.N[i]? =some x)(hx:Loc X.env.scope x)(he:PE X e te)(hs:swapsWith e (some (.Name x pos')) pos.line X.env=pure false:=by rfl)(hf:X.fn x=true\/X.env.scope.names.lookup x=some .local:=by first |exact .inl rfl|exact .inr rfl|assumption):
  PS X (.Assign [.Name x pos'] e pos) (tAsg te (gName i)):=by
 intro pins s σ H D I h
 refine wpAny_Assign_Name (thn (he pins s σ H _ I h) fun v s1 ⟨y,H1,I1,r1,q1⟩=> ?_) hs
 exact store_ok I1 hN hi hx r1 (fun s2 I2=>⟨_,H1,I2,q1⟩) hf
def tAug(i:Nat)(te:TE)(ti:TIp):TS:=fun D σ H=>∃x,σ[i]? =some (some x)/\te σ H fun y H1=>ti x y H1 fun z H2=>D.nx (σ.set i (some z)) H2
theorem ps_aug{i:Nat}{x:Str}{e:Expr}{te:TE}{op:Operator}{ti:TIp}{pos':Pos}(hN:X.N.Nodup)(hi:X.N[i]? =some x)(hx:Loc X.env.scope x)(he:PE X e te)(ho:PIp X op ti)(hf:X.fn x=true\/X.env.scope.names.lookup x=some .local:=by first |exact .inl rfl|exact .inr rfl|assumption):
  PS X (.AugAssign (.Name x pos') op e pos) (tAug i te ti):=by
 intro pins s σ H D I h
 obtain⟨v,e1,h⟩:=h
 obtain⟨m,hn,hl⟩:=I.loc
 have vis:Vis X.env.scope x:=by rcases hx with k|k;exact .inl k;exact .inr (.inl k)
 obtain⟨u,r,l⟩:=hl i x v hi e1 vis
 refine wpAny_AugAssign_Name ?_
 have go:wpAny (model X.prog X.w) X.A (eval e X.env) (fun w s₂=>wpAny (model X.prog X.w) X.A (inplaceOp op u w) (fun r s₃=>wpAny (model X.prog X.w) X.A (storeName X.env x r) (fun _=>SP X pins D .next) X.xe s₃) X.xe s₂) X.xe s:=by
  refine thn (he pins s σ H _ I h) fun w s1 ⟨y,H1,I1,r1,q1⟩=> ?_
  refine thn (ho pins s1 σ H1 v y u w _ I1 r r1 q1) fun z s2 ⟨zv,H2,I2,r2,q2⟩=> ?_
  exact store_ok I2 hN hi hx r2 (fun s3 I3=>⟨_,H2,I3,q2⟩) hf
 rcases l with⟨hk,hm⟩|⟨hk,c,hc,hcell⟩
 ·exact wpAny_loadName_local I.ok.kind hk hn hm go
 ·rcases hk with hk|hk
  ·exact wpAny_loadName_cell I.ok.kind hk hc hcell go
  ·rcases hx with k|k
   ·have:X.env.scope.names.lookup x=some .free:=hk
    rw[k]at this;cases this
   ·have:X.env.scope.names.lookup x=some .free:=hk
    rw[k]at this;cases this
def ipI(f:Int->Int->Int):TIp:=fun x y H Q=>∃i j,x= .int i/\y= .int j/\Q (.int (f i j)) H
theorem ip_add:PIp X .Add (ipI fun i j=>i+j):=by
 intro pins s σ H x y v u Q I r1 r2 h
 obtain⟨i,j,e1,e2,q⟩:=h
 subst e1;subst e2
 obtain⟨t,rfl⟩:=r1
 obtain⟨t',rfl⟩:=r2
 exact iadd_int ⟨.int _,H,I.tok _,⟨_,rfl⟩,q⟩
end
section
variable{X:Cx}{pos:Pos}
def tWhile(c:TT)(tb:TS):TS:=fun D σ H=>∃W:Nat->St->Hp->Prop,(∃m,W m σ H)/\∀m σ H,W m σ H->
 c σ H fun b H1=>if b=true then∃N:St->Hp->Prop,(∀σ' H',N σ' H'->∃m',m'<m/\W m' σ' H')/\tb {D with nx:=N,ct:=N,bk:=D.nx} σ H1 else D.nx σ H1
theorem ps_while{c:Expr}{body:List Stmt}{tc:TT}{tb:TS}(hp:PassesOwn (model X.prog X.w) X.A X.env X.xe)(hc:PT X c tc)(hb:PSs X body tb):PS X (.While c body [] pos) (tWhile tc tb):=by
 intro pins s σ H D I h
 obtain⟨W,⟨m0,w0⟩,turn⟩:=h
 refine wpAny_While (codeAny_whileLoop (fun n s'=>∃σ' H',Inv X pins σ' H' s'/\W n σ' H') ?_ m0 ⟨σ,H,I,w0⟩)
 rintro n s1 ⟨σ1,H1,I1,w1⟩
 refine Rz hp (thn (hc pins s1 σ1 H1 _ I1 (turn n σ1 H1 w1)) fun b s2 ⟨H2,I2,q2⟩=> ?_)
 cases b with
 |true=>
  obtain⟨N,hN,q2⟩:=q2
  rw[au rfl]
  refine Rz hp (thn (hb pins s2 σ1 H2 _ I2 q2) fun f s3 q3=> ?_)
  cases f with
  |next=>
   obtain⟨σ3,H3,I3,n3⟩:=q3
   obtain⟨m',hm,w3⟩:=hN σ3 H3 n3
   exact⟨m',hm,σ3,H3,I3,w3⟩
  |cont=>
   obtain⟨σ3,H3,I3,n3⟩:=q3
   obtain⟨m',hm,w3⟩:=hN σ3 H3 n3
   exact⟨m',hm,σ3,H3,I3,w3⟩
  |brk=>exact q3
  |ret v=>exact q3
 |false=>
  rw[ao qC]
  exact wea ⟨σ1,H2,I2,q2⟩
end
structure It where
 go:Nat->Hp->Prop
 yld:Nat->Hp->V->Hp->Prop
 stop:Nat->Hp->Prop
def FpOk(X:Cx)(pins:List (Addr×Obj))(H:Hp)(b:Addr):Prop:=
 H b=none/\b≠X.env.locals/\b∉X.fs/\(b∈X.ex\/X.s₀.heap.objs.size<=b)/\(∀x c,X.env.cells.lookup x=some c->c≠b)/\∀p∈X.pn++pins,p.1≠b
theorem Inv.fpOk{X:Cx}{pins:List (Addr×Obj)}{σ:St}{H H':Hp}{s:Shared}{b:Addr}(I:Inv X pins σ H s)(hb:s.heap.objs.size<=b)(hn:H' b=none):FpOk X pins H' b:=by
 refine⟨hn,wR (gA I.lt hb),I.nofs hb,.inr (eO I.sz hb),fun x c e z=> ?_,fun p hp z=> ?_⟩
 ·obtain⟨v,q⟩:=I.cell x c e
  exact absurd (gA q.lt (by rw[z];exact hb)) (p7 _)
 ·exact absurd (gA (cA (I.pin p hp).1) (by rw[z];exact hb)) (p7 _)
structure Turn(P:Program)(w:World)(K:W.Frag)(tg:Expr)(J:It)(fp:List Addr)(it:Addr)(tn:Nat->Heap->Prop):Prop where
 mem:it∈fp
 obj:∀i h,tn i h->∀b∈fp,∃o,h.get? b=some o/\∀v,o.data≠.cell v
 keep:∀i h h',tn i h->(∀b∈fp,∀o,h.get? b=some o->h'.get? b=some o)->tn i h'
 item:∀(X:Cx),X.prog=P->X.w=w->X.K=K->X.calm=true->∀(i:Nat) (pins:List (Addr×Obj)) (s:Shared) (σ:St) (H:Hp) (E:Value->Shared->Prop),Inv X pins σ H s->(∀b∈fp,FpOk X pins H b)->tn i s.heap->J.go i H->
  wpAny (model P w) X.A (pyNext (.ref it)) (fun r s1=>∃u,r=some u/\
   wpAny (model P w) X.A (letOwnedTupleGo tg (.ref it) u) (fun _ s2=>∃x H',Inv X pins σ H' s2/\RelV x u/\J.yld i H x H'/\tn (i+1) s2.heap/\∀b∈fp,H' b=none) E s1) E s
 done:∀(X:Cx),X.prog=P->X.w=w->X.K=K->X.calm=true->∀(i:Nat) (pins:List (Addr×Obj)) (s:Shared) (σ:St) (H:Hp) (E:Value->Shared->Prop),Inv X pins σ H s->(∀b∈fp,FpOk X pins H b)->tn i s.heap->J.stop i H->
  wpAny (model P w) X.A (pyNext (.ref it)) (fun r s1=>r=none/\Inv X pins σ H s1) E s
 self:∀(A:Around) (i:Nat) (s:Shared) (Q:Value->Shared->Prop) (E:Value->Shared->Prop),tn i s.heap->Q (.ref it) s->wpAny (model P w) A (pyIter (.ref it)) Q E s
abbrev TI:=St->Hp->(It->Hp->Prop)->Prop
def PIE(X:Cx)(pins:List (Addr×Obj))(σ:St)(tg:Expr)(R:It->Hp->Prop)(itv:Value)(s2:Shared):Prop:=
 ∃(it:Addr) (fp:List Addr) (tn:Nat->Heap->Prop) (J:It) (H':Hp),itv= .ref it/\Inv X pins σ H' s2/\Turn X.prog X.w X.K tg J fp it tn/\tn 0 s2.heap/\(∀b∈fp,FpOk X pins H' b)/\R J H'
def PI(X:Cx)(tg iter:Expr)(wi:TI):Prop:=
 ∀(pins:List (Addr×Obj)) (s:Shared) (σ:St) (H:Hp) (R:It->Hp->Prop),Inv X pins σ H s->wi σ H R->
  wpAny (model X.prog X.w) X.A (eval iter X.env) (fun v s1=>wpAny (model X.prog X.w) X.A (pyIter v) (PIE X pins σ tg R) X.xe s1) X.xe s
theorem go_of{M:Model}{A:Around}{E:Value->Shared->Prop}{s:Shared}{tg:Expr}{it:Addr}{u:Value}{o:Obj}{n:String}{vs:Array Value}{Q:Unit->Shared->Prop}(ho:s.heap.get? it=some o)(hc:o.cls= .type n)(hd:o.data= .fields vs)(hn:["enumerate","zip","dict_itemiterator","dict_reverseitemiterator","odict_iterator","itertools.zip_longest","itertools.pairwise"].contains n=false)(hQ:Q () s):wpAny M A (letOwnedTupleGo tg (.ref it) u) Q E s:=by
 unfold letOwnedTupleGo
 cases tg<;>first
  |exact aF hQ
  |(cases u<;>first
    |exact aF hQ
    |(refine ak (Wm ho ?_)
      rw[hc,hd]
      show wpAny M A (if(["enumerate","zip","dict_itemiterator","dict_reverseitemiterator","odict_iterator","itertools.zip_longest","itertools.pairwise"].contains n&&vs[0]? ==some (rawInt _))=true then _ else _) Q E s
      rw[ao (by intro h;rw[hn,Bool.false_and]at h;cases h)]
      exact aF hQ))
def Itl(K:W.Frag)(a:Addr):It:=
 ⟨fun i H=>∃xs x,SqL K H a xs/\xs[i]? =some x,fun i H x H'=>H'=H/\∀xs,SqL K H a xs->xs[i]? =some x,fun i H=>∃xs,SqL K H a xs/\xs.length<=i⟩
def Itt(K:W.Frag)(a:Addr):It:=
 ⟨fun i H=>∃xs x,SqT K H a xs/\xs[i]? =some x,fun i H x H'=>H'=H/\∀xs,SqT K H a xs->xs[i]? =some x,fun i H=>∃xs,SqT K H a xs/\xs.length<=i⟩
def Itr(lo:Int)(n:Nat):It:=⟨fun i _=>i<n,fun i H x H'=>H'=H/\x= .int (lo+i),fun i _=>n<=i⟩
theorem turn_list{P:Program}{w:World}{K:W.Frag}{tg:Expr}(a it:Addr):Turn P w K tg (Itl K a) [it] it (fun i h=>h.IsListIter it a i) where
 mem:=by simp
 obj:=fun i h st b hb=>by
  have e:b=it:=by simpa using hb
  subst e
  obtain⟨o,e,c,d⟩:=st
  exact⟨o,e,fun v z=>by rw[d]at z;cases z⟩
 keep:=fun i h h' st k=>st.at fun o e=>k it (by simp) o e
 item:=by
  intro X hP hw hK hc i pins s σ H E I hf st hg
  subst hP hw hK
  obtain⟨xs,x,hq,hx⟩:=hg
  obtain⟨its,rv,p,hz⟩:=I.list hq
  obtain⟨u,hu,ru⟩:=rv.get hx
  obtain⟨f0,f1,f2,f3,f4,f5⟩:=hf it (by simp)
  refine wpAny_pyNext_list_item st p.isList (x:=u) (by simpa using hu) fun h' st' sb=> ?_
  have I1:Inv X pins σ H {s with heap:=h'}:=I.turned (t':=s.toks) (fun b o hb e=>(sb.2 b hb).trans e) f0 f1 f3 f4 f5
  obtain⟨o,e,c,d⟩:=id st'
  exact⟨u,rfl,go_of (s:={s with heap:=h'}) e c d (by decide) ⟨x,H,I1,ru,⟨rfl,fun ys hy=>by rw[I.list_inj hy hq];exact hx⟩,st',fun b hb=>(hf b hb).1⟩⟩
 done:=by
  intro X hP hw hK hc i pins s σ H E I hf st hg
  subst hP hw hK
  obtain⟨xs,hq,hx⟩:=hg
  obtain⟨its,rv,p,hz⟩:=I.list hq
  obtain⟨f0,f1,f2,f3,f4,f5⟩:=hf it (by simp)
  have hl:=rv.length
  exact wpAny_pyNext_list_end (I.ok.hd hc) st p.isList (by simp;omega) fun h' eb=>⟨rfl,I.turned (t':=s.toks) (fun b o hb e=>eb b o hb e) f0 f1 f3 f4 f5⟩
 self:=fun _ _ _ _ _ st h=>wpAny_pyIter_listiter st h
theorem turn_tuple{P:Program}{w:World}{K:W.Frag}{tg:Expr}(a it:Addr):Turn P w K tg (Itt K a) [it] it (fun i h=>h.IsTupleIter it a i) where
 mem:=by simp
 obj:=fun i h st b hb=>by
  have e:b=it:=by simpa using hb
  subst e
  obtain⟨o,e,c,d⟩:=st
  exact⟨o,e,fun v z=>by rw[d]at z;cases z⟩
 keep:=fun i h h' st k=>st.at fun o e=>k it (by simp) o e
 item:=by
  intro X hP hw hK hc i pins s σ H E I hf st hg
  subst hP hw hK
  obtain⟨xs,x,hq,hx⟩:=hg
  obtain⟨its,rv,p,hz⟩:=I.tuple hq
  obtain⟨u,hu,ru⟩:=rv.get hx
  obtain⟨f0,f1,f2,f3,f4,f5⟩:=hf it (by simp)
  refine wpAny_pyNext_tuple_item st (show s.heap.IsTuple a its.toArray from p) (x:=u) (by simpa using hu) fun h' st' sb=> ?_
  have I1:Inv X pins σ H {s with heap:=h'}:=I.turned (t':=s.toks) (fun b o hb e=>(sb.2 b hb).trans e) f0 f1 f3 f4 f5
  obtain⟨o,e,c,d⟩:=id st'
  exact⟨u,rfl,go_of (s:={s with heap:=h'}) e c d (by decide) ⟨x,H,I1,ru,⟨rfl,fun ys hy=>by rw[I.tuple_inj hy hq];exact hx⟩,st',fun b hb=>(hf b hb).1⟩⟩
 done:=by
  intro X hP hw hK hc i pins s σ H E I hf st hg
  subst hP hw hK
  obtain⟨xs,hq,hx⟩:=hg
  obtain⟨its,rv,p,hz⟩:=I.tuple hq
  obtain⟨f0,f1,f2,f3,f4,f5⟩:=hf it (by simp)
  have hl:=rv.length
  exact wpAny_pyNext_tuple_end (I.ok.hd hc) st (show s.heap.IsTuple a its.toArray from p) (by simp;omega) fun h' eb=>⟨rfl,I.turned (t':=s.toks) (fun b o hb e=>eb b o hb e) f0 f1 f3 f4 f5⟩
 self:=fun _ _ _ _ _ st h=>wpAny_pyIter_tupleiter st h
theorem turn_range{P:Program}{w:World}{K:W.Frag}{tg:Expr}(it:Addr)(lo:Int)(n:Nat):Turn P w K tg (Itr lo n) [it] it (fun i h=>IsRangeIter h it (lo+(i:Nat)*1) ((n:Int)-(i:Nat)) 1) where
 mem:=by simp
 obj:=fun i h st b hb=>by
  have e:b=it:=by simpa using hb
  subst e
  exact⟨_,st,fun v z=>by
   have z':Data.fields _=Data.cell v:=z
   cases z'⟩
 keep:=fun i h h' st k=>k it (by simp) _ st
 item:=by
  intro X hP hw hK hc i pins s σ H E I hf st hg
  subst hP hw hK
  obtain⟨f0,f1,f2,f3,f4,f5⟩:=hf it (by simp)
  have W:=Walks.range (prog:=X.prog) (w:=X.w) (I.ok.hd hc) it lo 1 n
  refine W.item i s _ _ hg st fun v h' tk hv st' kk=> ?_
  obtain⟨t,rfl⟩:=hv
  have I1:Inv X pins σ H {s with heap:=h',toks:=tk}:=I.turned (fun b o hb e=>kk b o (by simpa using hb) e) f0 f1 f3 f4 f5
  refine⟨_,rfl,go_of (s:={s with heap:=h',toks:=tk}) (n:="range_iterator") st' rfl rfl (by decide) ⟨.int (lo+i),H,I1,⟨t,?_⟩,⟨rfl,rfl⟩,st',fun b hb=>(hf b hb).1⟩⟩
  rw[ZP]
 done:=by
  intro X hP hw hK hc i pins s σ H E I hf st hg
  subst hP hw hK
  obtain⟨f0,f1,f2,f3,f4,f5⟩:=hf it (by simp)
  exact wpAny_pyNext_range_end (I.ok.hd hc) st (by have:n<=i:=hg;omega) fun h' eb=>⟨rfl,I.turned (t':=s.toks) (fun b o hb e=>eb b o hb e) f0 f1 f3 f4 f5⟩
 self:=fun _ _ _ _ _ st h=>wpAny_pyIter_rangeiter st h
section
variable{X:Cx}{tg:Expr}
theorem range_it{pins:List (Addr×Obj)}{σ:St}{H:Hp}{s:Shared}{R:It->Hp->Prop}{E:Value->Shared->Prop}{lo hi:Int}{t u v:Tok}{tk:Nat}(I:Inv X pins σ H s)(h1: -(2^62)<=lo)(h2:lo<2^62)(h3: -(2^62)<=hi)(h4:hi<2^62)(q:R (Itr lo (hi-lo).toNat) H):wpAny (model X.prog X.w) X.A (pyIter (.ref s.heap.objs.size)) (PIE X pins σ tg R) E {s with heap:=s.heap.push {cls:= .type "range",data:= .fields #[.int lo t,.int hi u,.int 1 v]},toks:=tk}:=by
 refine wpAny_pyIter_range (ZM ..) (small_one h1 h2 h3 h4) ?_
 have I1:Inv X pins σ H {s with heap:=s.heap.push {cls:= .type "range",data:= .fields #[.int lo t,.int hi u,.int 1 v]},toks:=tk}:=I.kept fun b o e=>cM _ e
 refine⟨(s.heap.push {cls:= .type "range",data:= .fields #[.int lo t,.int hi u,.int 1 v]}).objs.size,[(s.heap.push {cls:= .type "range",data:= .fields #[.int lo t,.int hi u,.int 1 v]}).objs.size],_,_,H,rfl,
  I1.kept (t':=tk) fun b o e=>cM _ e,turn_range _ lo (hi-lo).toNat,?_,fun b hb=> ?_,q⟩
 ·have e1:lo+((0:Nat):Int)*1=lo:=by simp
  have e2:(((hi-lo).toNat:Nat):Int)-((0:Nat):Int)=Builtin.Range.rangeSize lo hi 1:=by rw[Z8];split<;>omega
  show IsRangeIter _ _ (lo+((0:Nat):Int)*1) ((((hi-lo).toNat:Nat):Int)-((0:Nat):Int)) 1
  rw[e1,e2]
  exact gB _ rfl
 ·have e:b=(s.heap.push {cls:= .type "range",data:= .fields #[.int lo t,.int hi u,.int 1 v]}).objs.size:=by simpa using hb
  subst e
  exact I1.fpOk (aH _) (I1.hok.fresh (aH _))
def iRng1(ta:TA):TI:=fun σ H R=>ta σ H fun vs H1=>∃j:Int,vs=[.int j]/\ -(2^62)<=j/\j<2^62/\R (Itr 0 j.toNat) H1
def iRng2(ta:TA):TI:=fun σ H R=>ta σ H fun vs H1=>∃i j:Int,vs=[.int i,.int j]/\(-(2^62)<=i/\i<2^62/\ -(2^62)<=j/\j<2^62)/\R (Itr i (j-i).toNat) H1
theorem CT{a:Expr}{ta:TA}{p pos:Pos}(hg:Gl X "range")(hm:X.mg "range"=none)(ha:PA X [a] ta)(hs:starEach [a] X.env=[(false,eval a X.env)]:=by rfl):PI X tg (.Call (.Name "range" p) [a] [] pos) (iRng1 ta):=by
 intro pins s σ H R I h
 refine Call_ (wC I hg hm Wk (Ez (thn (ha pos pins s σ H _ I h) fun us s1 ⟨vs,H1,I1,r1,q1⟩=> ?_) hs rfl))
 obtain⟨j,e,q1,q2,q⟩:=q1
 subst e
 cases r1 with
 |cons r rr=>
  cases rr
  obtain⟨t,rfl⟩:=r
  exact call_range_1 (range_it I1 (by omega) (by omega) q1 q2 (by simpa using q))
theorem pi_range2{a b:Expr}{ta:TA}{p pos:Pos}(hg:Gl X "range")(hm:X.mg "range"=none)(ha:PA X [a,b] ta)(hs:starEach [a,b] X.env=[(false,eval a X.env),(false,eval b X.env)]:=by rfl)(hs2:starEach [b] X.env=[(false,eval b X.env)]:=by rfl):
  PI X tg (.Call (.Name "range" p) [a,b] [] pos) (iRng2 ta):=by
 intro pins s σ H R I h
 refine Call_ (wC I hg hm Wk (Ez (thn (ha pos pins s σ H _ I h) fun us s1 ⟨vs,H1,I1,r1,q1⟩=> ?_) (by rw[hs,hs2]) (by rw[hs2];rfl)))
 obtain⟨i,j,e,⟨q1,q2,q3,q4⟩,q⟩:=q1
 subst e
 cases r1 with
 |cons r rr=>
  cases rr with
  |cons r' rr=>
   cases rr
   obtain⟨t,rfl⟩:=r
   obtain⟨t',rfl⟩:=r'
   exact call_range_2 (range_it I1 q1 q2 q3 q4 q)
def tFor(wi:TI)(g:TG)(tb:TS):TS:=fun D σ H=>wi σ H fun J H1=>∃W:Nat->Nat->St->Hp->Prop,(∃m,W 0 m σ H1)/\∀i m σ H,W i m σ H->
 (J.stop i H/\D.nx σ H)\/(J.go i H/\∃N:St->Hp->Prop,(∀σ' H',N σ' H'->∃m',m'<m/\W (i+1) m' σ' H')/\∀x H',J.yld i H x H'->g x σ H' fun σ2 H2=>tb {D with nx:=N,ct:=N,bk:=D.nx} σ2 H2)
def pinsAt(fp:List Addr)(h:Heap):List (Addr×Obj):=fp.filterMap fun b=>(h.get? b).map fun o=>(b,o)
theorem mem_pinsAt{fp:List Addr}{h:Heap}{b:Addr}{o:Obj}(hb:b∈fp)(e:h.get? b=some o):(b,o)∈pinsAt fp h:=List.mem_filterMap.mpr ⟨b,hb,by rw[e];rfl⟩
theorem of_pinsAt{fp:List Addr}{h:Heap}{p:Addr×Obj}(hp:p∈pinsAt fp h):p.1∈fp/\h.get? p.1=some p.2:=by
 obtain⟨b,hb,e⟩:=List.mem_filterMap.mp hp
 cases q:h.get? b with
 |none=>rw[q]at e;cases e
 |some o=>
  rw[q]at e
  have e':(b,o)=p:=p8 e
  subst e'
  exact⟨hb,q⟩
theorem Inv.pinned{pins:List (Addr×Obj)}{σ:St}{H:Hp}{s:Shared}{fp:List Addr}(I:Inv X pins σ H s)(hf:∀b∈fp,FpOk X pins H b)(ho:∀b∈fp,∃o,s.heap.get? b=some o/\∀v,o.data≠.cell v):Inv X (pins++pinsAt fp s.heap) σ H s:=
 I.pins_of fun p hp=>(kJ.mp hp).elim (fun z=>I.pin p (gY _ z)) fun z=>by
  obtain⟨hb,e⟩:=of_pinsAt z
  obtain⟨f0,f1,f2,_⟩:=hf p.1 hb
  obtain⟨o,e',d⟩:=ho p.1 hb
  rw[e]at e';cases e'
  exact⟨e,f0,f1,f2,d⟩
theorem Inv.unpinned{pins pl:List (Addr×Obj)}{σ:St}{H:Hp}{s:Shared}(I:Inv X (pins++pl) σ H s):Inv X pins σ H s:=I.pins_of fun p hp=>I.pin p (gY _ (Ew _ hp))
theorem uH{iter:Expr}{body:List Stmt}{wi:TI}{g:TG}{tb:TS}{pos:Pos}(hp:PassesOwn (model X.prog X.w) X.A X.env X.xe)(hc:X.calm=true)(hi:PI X tg iter wi)(hg:PG X tg g)(hb:PSs X body tb)(hs:∀x,foldedSetIterable iter X.env x=pure x:=by intro _;rfl):PS X (.For tg iter body [] pos) (tFor wi g tb):=by
 intro pins s σ H D I h
 refine wpAny_For (thn (hi pins s σ H _ I h) fun v s1 h1=>thn h1 fun itv s2 h2=> ?_) hs
 obtain⟨it,fp,tn,J,H2,e,I2,T,st2,f2,W,⟨m0,w0⟩,turn⟩:=h2
 subst e
 -- what stays true of the iterator's objects through the loop
 have stat:∀{H':Hp},(∀b∈fp,H' b=none)->∀b∈fp,FpOk X pins H' b:=fun hn b hb=>⟨hn b hb,(f2 b hb).2⟩
 refine codeAny_forLoop_any (fun n s'=>∃i σ' H',Inv X pins σ' H' s'/\tn i s'.heap/\(∀b∈fp,H' b=none)/\W i n σ' H') ?_ m0 ⟨0,σ,H2,I2,st2,fun b hb=>(f2 b hb).1,w0⟩
 rintro n s3 ⟨i,σ3,H3,I3,st3,fr3,w3⟩
 rcases turn i n σ3 H3 w3 with⟨stop,qn⟩|⟨go,N,hN,step⟩
 ·refine Rz hp (thn (T.done X rfl rfl rfl hc i pins s3 σ3 H3 X.xe I3 (stat fr3) st3 stop) fun r s4 ⟨hr,I4⟩=> ?_)
  subst hr
  exact wea ⟨σ3,H3,I4,qn⟩
 ·refine Rz hp (thn (T.item X rfl rfl rfl hc i pins s3 σ3 H3 X.xe I3 (stat fr3) st3 go) fun r s4 ⟨u,hr,h4⟩=> ?_)
  subst hr
  refine Rz hp (thn h4 fun _ s5 ⟨x,H5,I5,r5,y5,st5,fr5⟩=> ?_)
  have I5':=I5.pinned (stat fr5) (T.obj _ _ st5)
  refine Rz hp (thn (hg _ s5 σ3 H5 x u _ I5' r5 (step x H5 y5)) fun _ s6 ⟨σ6,H6,I6,q6⟩=> ?_)
  refine Rz hp (thn (hb _ s6 σ6 H6 _ I6 q6) fun f s7 q7=> ?_)
  have again:∀{σ7:St} {H7:Hp},Inv X (pins++pinsAt fp s5.heap) σ7 H7 s7->N σ7 H7->∃m,m<n/\∃i σ' H',Inv X pins σ' H' s7/\tn i s7.heap/\(∀b∈fp,H' b=none)/\W i m σ' H':=fun{σ7 H7} I7 n7=>by
   obtain⟨m',hm,w7⟩:=hN σ7 H7 n7
   refine⟨m',hm,i+1,σ7,H7,I7.unpinned,T.keep _ _ _ st5 fun b hb o e=>(I7.pin (b,o) (gY _ (gY _ (mem_pinsAt hb e)))).1,fun b hb=> ?_,w7⟩
   obtain⟨o,e,d⟩:=T.obj _ _ st5 b hb
   exact(I7.pin (b,o) (gY _ (gY _ (mem_pinsAt hb e)))).2.1
  cases f with
  |next=>obtain⟨σ7,H7,I7,n7⟩:=q7;exact again I7 n7
  |cont=>obtain⟨σ7,H7,I7,n7⟩:=q7;exact again I7 n7
  |brk=>obtain⟨σ7,H7,I7,q7⟩:=q7;exact⟨σ7,H7,I7.unpinned,q7⟩
  |ret v=>obtain⟨x7,σ7,H7,I7,r7,q7⟩:=q7;exact⟨x7,σ7,H7,I7.unpinned,r7,q7⟩
end
theorem for_list{K:W.Frag}{a:Addr}{xs:List V}{g:TG}{tb:TS}{D:Ends}{σ:St}{H:Hp}(Pv:Nat->St->Hp->Prop)(h0:Pv 0 σ H)(hl:∀i σ H,i<=xs.length->Pv i σ H->SqL K H a xs)(hs:∀i x σ H,xs[i]? =some x->Pv i σ H->g x σ H fun σ2 H2=>tb {D with nx:=Pv (i+1),ct:=Pv (i+1),bk:=D.nx} σ2 H2)(hd:∀σ H,Pv xs.length σ H->D.nx σ H):
  ∃W:Nat->Nat->St->Hp->Prop,(∃m,W 0 m σ H)/\∀i m σ H,W i m σ H->
   ((Itl K a).stop i H/\D.nx σ H)\/((Itl K a).go i H/\∃N:St->Hp->Prop,(∀σ' H',N σ' H'->∃m',m'<m/\W (i+1) m' σ' H')/\∀x H',(Itl K a).yld i H x H'->g x σ H' fun σ2 H2=>tb {D with nx:=N,ct:=N,bk:=D.nx} σ2 H2):=by
 refine⟨fun i m σ H=>m=xs.length-i/\i<=xs.length/\Pv i σ H,⟨xs.length,by simp,cX _,h0⟩,?_⟩
 rintro i m σ H ⟨rfl,hi,p⟩
 have q:=hl i σ H hi p
 by_cases hlt:i<xs.length
 ·refine .inr ⟨⟨xs,xs[i],q,by simp[hlt]⟩,Pv (i+1),fun σ' H' p'=>⟨xs.length-(i+1),by omega,rfl,hlt,p'⟩,fun x H' y=> ?_⟩
  obtain⟨e,y⟩:=y
  subst e
  exact hs i x σ _ (y xs q) p
 ·have e:i=xs.length:=by omega
  subst e
  exact .inl ⟨⟨xs,q,aH _⟩,hd σ H p⟩
theorem for_tup{K:W.Frag}{a:Addr}{xs:List V}{g:TG}{tb:TS}{D:Ends}{σ:St}{H:Hp}(Pv:Nat->St->Hp->Prop)(h0:Pv 0 σ H)(hl:∀i σ H,i<=xs.length->Pv i σ H->SqT K H a xs)(hs:∀i x σ H,xs[i]? =some x->Pv i σ H->g x σ H fun σ2 H2=>tb {D with nx:=Pv (i+1),ct:=Pv (i+1),bk:=D.nx} σ2 H2)(hd:∀σ H,Pv xs.length σ H->D.nx σ H):
  ∃W:Nat->Nat->St->Hp->Prop,(∃m,W 0 m σ H)/\∀i m σ H,W i m σ H->
   ((Itt K a).stop i H/\D.nx σ H)\/((Itt K a).go i H/\∃N:St->Hp->Prop,(∀σ' H',N σ' H'->∃m',m'<m/\W (i+1) m' σ' H')/\∀x H',(Itt K a).yld i H x H'->g x σ H' fun σ2 H2=>tb {D with nx:=N,ct:=N,bk:=D.nx} σ2 H2):=by
 refine⟨fun i m σ H=>m=xs.length-i/\i<=xs.length/\Pv i σ H,⟨xs.length,by simp,cX _,h0⟩,?_⟩
 rintro i m σ H ⟨rfl,hi,p⟩
 have q:=hl i σ H hi p
 by_cases hlt:i<xs.length
 ·refine .inr ⟨⟨xs,xs[i],q,by simp[hlt]⟩,Pv (i+1),fun σ' H' p'=>⟨xs.length-(i+1),by omega,rfl,hlt,p'⟩,fun x H' y=> ?_⟩
  obtain⟨e,y⟩:=y
  subst e
  exact hs i x σ _ (y xs q) p
 ·have e:i=xs.length:=by omega
  subst e
  exact .inl ⟨⟨xs,q,aH _⟩,hd σ H p⟩
theorem CQ{lo:Int}{n:Nat}{g:TG}{tb:TS}{D:Ends}{σ:St}{H:Hp}(Pv:Nat->St->Hp->Prop)(h0:Pv 0 σ H)(hs:∀i σ H,i<n->Pv i σ H->g (.int (lo+i)) σ H fun σ2 H2=>tb {D with nx:=Pv (i+1),ct:=Pv (i+1),bk:=D.nx} σ2 H2)(hd:∀σ H,Pv n σ H->D.nx σ H):
  ∃W:Nat->Nat->St->Hp->Prop,(∃m,W 0 m σ H)/\∀i m σ H,W i m σ H->
   ((Itr lo n).stop i H/\D.nx σ H)\/((Itr lo n).go i H/\∃N:St->Hp->Prop,(∀σ' H',N σ' H'->∃m',m'<m/\W (i+1) m' σ' H')/\∀x H',(Itr lo n).yld i H x H'->g x σ H' fun σ2 H2=>tb {D with nx:=N,ct:=N,bk:=D.nx} σ2 H2):=by
 refine⟨fun i m σ H=>m=n-i/\i<=n/\Pv i σ H,⟨n,by simp,cX _,h0⟩,?_⟩
 rintro i m σ H ⟨rfl,hi,p⟩
 by_cases hlt:i<n
 ·refine .inr ⟨hlt,Pv (i+1),fun σ' H' p'=>⟨n-(i+1),by omega,rfl,hlt,p'⟩,fun x H' y=> ?_⟩
  obtain⟨e,y⟩:=y
  subst e y
  exact hs i σ _ hlt p
 ·have e:i=n:=by omega
  subst e
  exact .inl ⟨aH _,hd σ H p⟩
abbrev R2:=V->V->Hp->VK->Prop
def OpR(X:Cx)(f:Value->Value->Sem Value)(r:R2):Prop:=
 ∀(pins:List (Addr×Obj)) (s:Shared) (σ:St) (H:Hp) (x y:V) (v u:Value) (Q:VK),Inv X pins σ H s->RelV x v->RelV y u->r x y H Q->
  wpAny (model X.prog X.w) X.A (f v u) (EP X pins σ Q) X.xe s
def UnR(X:Cx)(f:Value->Sem Value)(r:V->Hp->VK->Prop):Prop:=
 ∀(pins:List (Addr×Obj)) (s:Shared) (σ:St) (H:Hp) (x:V) (v:Value) (Q:VK),Inv X pins σ H s->RelV x v->r x H Q->
  wpAny (model X.prog X.w) X.A (f v) (EP X pins σ Q) X.xe s
def CallR(X:Cx)(f:Value)(r:List V->Hp->VK->Prop):Prop:=
 ∀(pins:List (Addr×Obj)) (s:Shared) (σ:St) (H:Hp) (xs:List V) (us:List Value) (Q:VK),Inv X pins σ H s->Vals xs us->r xs H Q->
  wpAny (model X.prog X.w) X.A (call f us) (EP X pins σ Q) X.xe s
def TruR(X:Cx)(r:V->Hp->(Bool->Hp->Prop)->Prop):Prop:=
 ∀(pins:List (Addr×Obj)) (s:Shared) (σ:St) (H:Hp) (x:V) (v:Value) (Q:Bool->Hp->Prop),Inv X pins σ H s->RelV x v->r x H Q->
  wpAny (model X.prog X.w) X.A (truthy v) (TP X pins σ Q) X.xe s
def tOp(r:R2)(ta tb:TE):TE:=fun σ H Q=>ta σ H fun x H1=>tb σ H1 fun y H2=>r x y H2 Q
def tUn(r:V->Hp->VK->Prop)(ta:TE):TE:=fun σ H Q=>ta σ H fun x H1=>r x H1 Q
def rI(C:Int->Int->Prop)(g:Int->Int->V):R2:=fun x y H Q=>∃i j,x= .int i/\y= .int j/\C i j/\Q (g i j) H
def rI0(g:Int->Int->V):R2:=fun x y H Q=>∃i j,x= .int i/\y= .int j/\Q (g i j) H
def rU(g:Int->V):V->Hp->VK->Prop:=fun x H Q=>∃i,x= .int i/\Q (g i) H
section
variable{X:Cx}{a b c:Expr}{ta tb tc:TE}{pos:Pos}
theorem binT(ha:PE X a ta)(hb:PE X b tb){pins:List (Addr×Obj)}{s:Shared}{σ:St}{H:Hp}{R:V->V->Hp->Prop}(I:Inv X pins σ H s)(h:ta σ H fun x H1=>tb σ H1 fun y H2=>R x y H2){Q:Value->Shared->Prop}{f:Value->Value->Sem Value}(hf:∀v u s2 x y H2,Inv X pins σ H2 s2->RelV x v->RelV y u->R x y H2->wpAny (model X.prog X.w) X.A (f v u) Q X.xe s2):
  wpAny (model X.prog X.w) X.A (eval a X.env) (fun v s₁=>wpAny (model X.prog X.w) X.A (eval b X.env) (fun u s₂=>wpAny (model X.prog X.w) X.A (f v u) Q X.xe s₂) X.xe s₁) X.xe s:=by
 refine thn (ha pins s σ H _ I h) fun v s1 ⟨x,H1,I1,r1,q1⟩=> ?_
 refine thn (hb pins s1 σ H1 _ I1 q1) fun u s2 ⟨y,H2,I2,r2,q2⟩=> ?_
 exact hf v u s2 x y H2 I2 r1 r2 q2
theorem bK{op:Operator}{r:R2}(ho:OpR X (binaryOp op) r)(ha:PE X a ta)(hb:PE X b tb):PE X (.BinOp a op b pos) (tOp r ta tb):=by
 intro pins s σ H Q I h
 exact wpAny_BinOp (binT ha hb I h fun v u s2 x y H2 I2 rx ry q=>ho pins s2 σ H2 x y v u Q I2 rx ry q)
theorem pe_un{op:UnaryOp}{r:V->Hp->VK->Prop}(ho:UnR X (unaryOp op) r)(ha:PE X a ta):PE X (.UnaryOp op a pos) (tUn r ta):=by
 intro pins s σ H Q I h
 exact UnaryOp_ (thn (ha pins s σ H _ I h) fun v s1 ⟨x,H1,I1,r1,q1⟩=>ho pins s1 σ H1 x v Q I1 r1 q1)
theorem opI{f:Value->Value->Sem Value}{C:Int->Int->Prop}{g:Int->Int->Int}(rule:∀(i j:Int) (t u:Tok) (s:Shared) (Q:Value->Shared->Prop) (E:Value->Shared->Prop),C i j->Q (.int (g i j) s.toks) {s with toks:=s.toks+1}->wpAny (model X.prog X.w) X.A (f (.int i t) (.int j u)) Q E s):
  OpR X f (rI C fun i j=> .int (g i j)):=by
 intro pins s σ H x y v u Q I rx ry h
 obtain⟨i,j,rfl,rfl,hc,q⟩:=h
 obtain⟨t,rfl⟩:=rx
 obtain⟨t',rfl⟩:=ry
 exact rule i j t t' s _ _ hc ⟨.int (g i j),H,I.tok _,⟨_,rfl⟩,q⟩
theorem opI0{f:Value->Value->Sem Value}{g:Int->Int->Int}(rule:∀(i j:Int) (t u:Tok) (s:Shared) (Q:Value->Shared->Prop) (E:Value->Shared->Prop),Q (.int (g i j) s.toks) {s with toks:=s.toks+1}->wpAny (model X.prog X.w) X.A (f (.int i t) (.int j u)) Q E s):
  OpR X f (rI0 fun i j=> .int (g i j)):=by
 intro pins s σ H x y v u Q I rx ry h
 obtain⟨i,j,rfl,rfl,q⟩:=h
 obtain⟨t,rfl⟩:=rx
 obtain⟨t',rfl⟩:=ry
 exact rule i j t t' s _ _ ⟨.int (g i j),H,I.tok _,⟨_,rfl⟩,q⟩
theorem opB0{f:Value->Value->Sem Value}{g:Int->Int->Bool}(rule:∀(i j:Int) (t u:Tok) (s:Shared) (Q:Value->Shared->Prop) (E:Value->Shared->Prop),Q (.bool (g i j)) s->wpAny (model X.prog X.w) X.A (f (.int i t) (.int j u)) Q E s):
  OpR X f (rI0 fun i j=> .bl (g i j)):=by
 intro pins s σ H x y v u Q I rx ry h
 obtain⟨i,j,rfl,rfl,q⟩:=h
 obtain⟨t,rfl⟩:=rx
 obtain⟨t',rfl⟩:=ry
 exact rule i j t t' s _ _ ⟨.bl (g i j),H,I,rfl,q⟩
def CDiv(i j:Int):Prop:=0<j/\j<1073741824
def CMul(i j:Int):Prop:=(-(2^64)<i/\i<2^64)\/(-(2^64)<j/\j<2^64)
theorem CMul.ok{i j:Int}(h:CMul i j):IntMulOk i j:=by
 rcases h with⟨h1,h2⟩|⟨h1,h2⟩
 ·exact .of_left (intBits_le_64 h1 h2)
 ·exact .of_right (intBits_le_64 h1 h2)
theorem su:OpR X (binaryOp .Add) (rI0 fun i j=> .int (i+j)):=opI0 fun _ _ _ _ _ _ _ q=>add_int q
theorem op_sub:OpR X (binaryOp .Sub) (rI0 fun i j=> .int (i-j)):=opI0 fun _ _ _ _ _ _ _ q=>sub_int q
theorem uG:OpR X (binaryOp .Mult) (rI CMul fun i j=> .int (i*j)):=opI fun _ _ _ _ _ _ _ hc q=>mul_int q hc.ok
theorem op_fdiv:OpR X (binaryOp .FloorDiv) (rI CDiv fun i j=> .int (i/j)):=opI fun i j _ _ _ _ _ hc q=>by
 have h1:(0:Int)<j:=hc.1
 have h2:j<1073741824:=hc.2
 exact floordiv_int (by omega) (by rw[yee i (by omega)];exact q) (.inl (PyProof.noPylong_small (by omega)))
theorem op_mod:OpR X (binaryOp .Mod) (rI (fun _ j=>0<j) fun i j=> .int (i %j)):=opI fun i j _ _ _ _ _ hc q=>by
 have h1:(0:Int)<j:=hc
 exact mod_int' (by omega) (by rw[Int.fmod_eq_emod_of_nonneg i (by omega)];exact q)
theorem unI{f:Value->Sem Value}{g:Int->Int}(rule:∀(i:Int) (t:Tok) (s:Shared) (Q:Value->Shared->Prop) (E:Value->Shared->Prop),Q (.int (g i) s.toks) {s with toks:=s.toks+1}->wpAny (model X.prog X.w) X.A (f (.int i t)) Q E s):
  UnR X f (rU fun i=> .int (g i)):=by
 intro pins s σ H x v Q I rx h
 obtain⟨i,rfl,q⟩:=h
 obtain⟨t,rfl⟩:=rx
 exact rule i t s _ _ ⟨.int (g i),H,I.tok _,⟨_,rfl⟩,q⟩
theorem un_neg:UnR X (unaryOp .USub) (rU fun i=> .int (-i)):=unI fun _ _ _ _ _ q=>neg_int q
end
def scal:V->V->Bool
 | .non,.non=>true| .non,.int _=>true| .int _,.non=>true| .non,.bl _=>true| .bl _,.non=>true| .non,.str _=>true| .str _,.non=>true
 | .int _,.int _=>true| .bl _,.bl _=>true| .str _,.str _=>true| .byt _,.byt _=>true
 | .int _,.str _=>true| .str _,.int _=>true| .bl _,.str _=>true| .str _,.bl _=>true
 |_,_=>false
def rEq:R2:=fun x y H Q=>scal x y=true/\Q (.bl (decide (x=y))) H
def rNe:R2:=fun x y H Q=>scal x y=true/\Q (.bl (!decide (x=y))) H
theorem dec_int{i j:Int}:decide (V.int i=V.int j)=(i==j):=by
 rw[zV]
 simp
theorem dec_bl{i j:Bool}:decide (V.bl i=V.bl j)=(i==j):=by
 rw[zV]
 simp
theorem dec_str{i j:Str}:decide (V.str i=V.str j)=(i==j):=by
 rw[zV]
 simp
theorem dec_byt{i j:Array UInt8}:decide (V.byt i=V.byt j)=(i.toList==j.toList):=by
 rw[zV]
 cases i
 cases j
 simp
section
variable{X:Cx}{a b c:Expr}{ta tb tc:TE}{pos:Pos}
theorem j6{pins:List (Addr×Obj)}{σ:St}{H:Hp}{s:Shared}{Q:VK}{k k':Bool}(I:Inv X pins σ H s)(q:Q (.bl k) H)(e:k=k'):EP X pins σ Q (.bool k') s:=by
 subst e
 exact⟨.bl k,H,I,rfl,q⟩
theorem op_eq:OpR X (compareOp .Eq) rEq:=by
 intro pins s σ H x y v u Q I rx ry h
 obtain⟨hs,q⟩:=h
 cases x with
 |non=>
  cases rx
  cases y with
  |non=>cases ry;exact PySem.EqNone.eq_none_none (j6 I q (by simp))
  |bl j=>cases ry;exact PySem.EqNone.eq_none_bool (j6 I q (by simp))
  |int j=>obtain⟨t',rfl⟩:=ry;exact PySem.EqNone.eq_none_int (j6 I q (by simp))
  |str j=>obtain⟨t',rfl⟩:=ry;exact PySem.EqNone.eq_none_str (j6 I q (by simp))
  |_=>exact absurd (show false=true from hs) qC
 |bl i=>
  cases rx
  cases y with
  |non=>cases ry;exact PySem.EqNone.eq_bool_none (j6 I q (by simp))
  |bl j=>cases ry;exact eq_bool (j6 I q dec_bl)
  |str j=>obtain⟨t',rfl⟩:=ry;exact PySem.EqMixed.eq_bool_str (j6 I q (by simp))
  |_=>exact absurd (show false=true from hs) qC
 |int i=>
  obtain⟨t,rfl⟩:=rx
  cases y with
  |non=>cases ry;exact PySem.EqNone.eq_int_none (j6 I q (by simp))
  |int j=>obtain⟨t',rfl⟩:=ry;exact eq_int (j6 I q dec_int)
  |str j=>obtain⟨t',rfl⟩:=ry;exact PySem.EqMixed.eq_int_str (j6 I q (by simp))
  |_=>exact absurd (show false=true from hs) qC
 |str i=>
  obtain⟨t,rfl⟩:=rx
  cases y with
  |non=>cases ry;exact PySem.EqNone.eq_str_none (j6 I q (by simp))
  |bl j=>cases ry;exact PySem.EqMixed.eq_str_bool (j6 I q (by simp))
  |int j=>obtain⟨t',rfl⟩:=ry;exact PySem.EqMixed.eq_str_int (j6 I q (by simp))
  |str j=>obtain⟨t',rfl⟩:=ry;exact eq_str (j6 I q dec_str)
  |_=>exact absurd (show false=true from hs) qC
 |byt i=>
  obtain⟨t,rfl⟩:=rx
  cases y with
  |byt j=>obtain⟨t',rfl⟩:=ry;exact PySem.W.eq_bytes (j6 I q dec_byt)
  |_=>exact absurd (show false=true from hs) qC
 |_=>cases y<;>exact absurd (show false=true from hs) qC
theorem op_ne:OpR X (compareOp .NotEq) rNe:=by
 intro pins s σ H x y v u Q I rx ry h
 obtain⟨hs,q⟩:=h
 cases x with
 |non=>
  cases rx
  cases y with
  |non=>cases ry;exact PySem.EqNone.ne_none_none (j6 I q (by simp))
  |bl j=>cases ry;exact PySem.EqNone.ne_none_bool (j6 I q (by simp))
  |int j=>obtain⟨t',rfl⟩:=ry;exact PySem.EqNone.ne_none_int (j6 I q (by simp))
  |str j=>obtain⟨t',rfl⟩:=ry;exact PySem.EqNone.ne_none_str (j6 I q (by simp))
  |_=>exact absurd (show false=true from hs) qC
 |bl i=>
  cases rx
  cases y with
  |non=>cases ry;exact PySem.EqNone.ne_bool_none (j6 I q (by simp))
  |bl j=>cases ry;exact ne_bool (j6 I q (jh not dec_bl))
  |str j=>obtain⟨t',rfl⟩:=ry;exact PySem.EqMixed.ne_bool_str (j6 I q (by simp))
  |_=>exact absurd (show false=true from hs) qC
 |int i=>
  obtain⟨t,rfl⟩:=rx
  cases y with
  |non=>cases ry;exact PySem.EqNone.ne_int_none (j6 I q (by simp))
  |int j=>obtain⟨t',rfl⟩:=ry;exact ne_int (j6 I q (jh not dec_int))
  |str j=>obtain⟨t',rfl⟩:=ry;exact PySem.EqMixed.ne_int_str (j6 I q (by simp))
  |_=>exact absurd (show false=true from hs) qC
 |str i=>
  obtain⟨t,rfl⟩:=rx
  cases y with
  |non=>cases ry;exact PySem.EqNone.ne_str_none (j6 I q (by simp))
  |bl j=>cases ry;exact PySem.EqMixed.ne_str_bool (j6 I q (by simp))
  |int j=>obtain⟨t',rfl⟩:=ry;exact PySem.EqMixed.ne_str_int (j6 I q (by simp))
  |str j=>obtain⟨t',rfl⟩:=ry;exact ne_str (j6 I q (jh not dec_str))
  |_=>exact absurd (show false=true from hs) qC
 |byt i=>
  obtain⟨t,rfl⟩:=rx
  cases y with
  |byt j=>obtain⟨t',rfl⟩:=ry;exact PySem.W.ne_bytes (j6 I q (jh not dec_byt))
  |_=>exact absurd (show false=true from hs) qC
 |_=>cases y<;>exact absurd (show false=true from hs) qC
theorem op_lt:OpR X (compareOp .Lt) (rI0 fun i j=> .bl (decide (i<j))):=opB0 fun _ _ _ _ _ _ _ q=>lt_int q
theorem op_le:OpR X (compareOp .LtE) (rI0 fun i j=> .bl (decide (i<=j))):=opB0 fun _ _ _ _ _ _ _ q=>le_int q
theorem op_gt:OpR X (compareOp .Gt) (rI0 fun i j=> .bl (decide (j<i))):=opB0 fun _ _ _ _ _ _ _ q=>gt_int q
theorem op_ge:OpR X (compareOp .GtE) (rI0 fun i j=> .bl (decide (j<=i))):=opB0 fun _ _ _ _ _ _ _ q=>ge_int q
theorem op_isN:OpR X (compareOp .Is) (fun x y H Q=>y= .non/\Q (.bl (decide (x= .non))) H):=by
 intro pins s σ H x y v u Q I rx ry h
 obtain⟨rfl,q⟩:=h
 cases ry
 refine is_none_gen (j6 I q ?_)
 cases x<;>first
  |(cases rx;rfl)
  |(obtain⟨t,rfl⟩:=rx;rfl)
theorem op_notN:OpR X (compareOp .IsNot) (fun x y H Q=>y= .non/\Q (.bl (!decide (x= .non))) H):=by
 intro pins s σ H x y v u Q I rx ry h
 obtain⟨rfl,q⟩:=h
 cases ry
 refine isnot_none_gen (j6 I q ?_)
 cases x<;>first
  |(cases rx;rfl)
  |(obtain⟨t,rfl⟩:=rx;rfl)
theorem OpR.or{f:Value->Value->Sem Value}{r r':R2}(h:OpR X f r)(h':OpR X f r'):OpR X f (fun x y H Q=>r x y H Q\/r' x y H Q):=by
 intro pins s σ H x y v u Q I rx ry q
 rcases q with q|q
 ·exact h pins s σ H x y v u Q I rx ry q
 ·exact h' pins s σ H x y v u Q I rx ry q
theorem nomark(b:Expr){op:CmpOp}(h:op≠.In:=by decide)(h2:op≠.NotIn:=by decide):behindInMarks op b=false:=by
 have e1:(op==CmpOp.In)=false:=by cases op<;>first |rfl|exact absurd rfl h
 have e2:(op==CmpOp.NotIn)=false:=by cases op<;>first |rfl|exact absurd rfl h2
 cases b<;>simp[behindInMarks,e1,e2]
theorem Hg{op:CmpOp}{r:R2}(ho:OpR X (compareOp op) r)(ha:PE X a ta)(hb:PE X b tb)(hm:behindInMarks op b=false):PE X (.Compare a [op] [b] pos) (tOp r ta tb):=by
 intro pins s σ H Q I h
 exact wpAny_Compare1 (binT ha hb I h fun v u s2 x y H2 I2 rx ry q=>ho pins s2 σ H2 x y v u Q I2 rx ry q) hm
def tTest(t:TE):TT:=fun σ H Q=>t σ H fun x H'=>∃k,x= .bl k/\Q k H'
theorem gZ{op:CmpOp}{r:R2}(ho:OpR X (compareOp op) r)(ha:PE X a ta)(hb:PE X b tb)(hm:behindInMarks op b=false):PT X (.Compare a [op] [b] pos) (tTest (tOp r ta tb)):=by
 intro pins s σ H Q I h
 refine wpAny_isTrue_Compare1 (thn (ha pins s σ H _ I h) fun v s1 ⟨x,H1,I1,r1,q1⟩=>thn (hb pins s1 σ H1 _ I1 q1) fun u s2 ⟨y,H2,I2,r2,q2⟩=>
  thn (ho pins s2 σ H2 x y v u _ I2 r1 r2 q2) fun c s3 ⟨z,H3,I3,r3,k,e,q3⟩=> ?_) hm
 subst e
 cases r3
 exact Ho ⟨H3,I3,q3⟩
def tChain(r r':R2)(ta tb tc:TE):TE:=fun σ H Q=>ta σ H fun x H1=>tb σ H1 fun y H2=>r x y H2 fun z H3=>∃k,z= .bl k/\
 (if k=true then tc σ H3 fun w' H4=>r' y w' H4 Q else Q (.bl false) H3)
theorem pe_chain{op op':CmpOp}{r r':R2}(ho:OpR X (compareOp op) r)(ho':OpR X (compareOp op') r')(ha:PE X a ta)(hb:PE X b tb)(hc:PE X c tc)(hm:lastMarks [op,op'] [b,c]=false:=by with_unfolding_all rfl):PE X (.Compare a [op,op'] [b,c] pos) (tChain r r' ta tb tc):=by
 intro pins s σ H Q I h
 refine Compare_chain (thn (ha pins s σ H _ I h) fun v s1 ⟨x,H1,I1,r1,q1⟩=>chain_link (thn (hb pins s1 σ H1 _ I1 q1) fun u s2 ⟨y,H2,I2,r2,q2⟩=>
  thn (ho pins s2 σ H2 x y v u _ I2 r1 r2 q2) fun d s3 ⟨z,H3,I3,r3,k,e,q3⟩=> ?_)) hm
 subst e
 cases r3
 refine Ho ?_
 cases k with
 |false=>exact ite_ff ⟨.bl false,H3,I3,rfl,q3⟩
 |true=>exact ite_tt (chain_last (thn (hc pins s3 σ H3 _ I3 q3) fun w' s4 ⟨z',H4,I4,r4,q4⟩=>ho' pins s4 σ H4 y z' u w' Q I4 r2 r4 q4))
theorem pt_chain{op op':CmpOp}{r r':R2}(ho:OpR X (compareOp op) r)(ho':OpR X (compareOp op') r')(ha:PE X a ta)(hb:PE X b tb)(hc:PE X c tc)(hm:lastMarks [op,op'] [b,c]=false:=by with_unfolding_all rfl):PT X (.Compare a [op,op'] [b,c] pos) (tTest (tChain r r' ta tb tc)):=by
 intro pins s σ H Q I h
 refine isTrue_chain (thn (ha pins s σ H _ I h) fun v s1 ⟨x,H1,I1,r1,q1⟩=>test_link (thn (hb pins s1 σ H1 _ I1 q1) fun u s2 ⟨y,H2,I2,r2,q2⟩=>
  thn (ho pins s2 σ H2 x y v u _ I2 r1 r2 q2) fun d s3 ⟨z,H3,I3,r3,k,e,q3⟩=> ?_)) hm
 subst e
 cases r3
 refine Ho ?_
 cases k with
 |false=>
  obtain⟨k',e',q'⟩:=q3
  cases e'
  exact ite_ff ⟨H3,I3,q'⟩
 |true=>
  refine ite_tt (test_last (thn (hc pins s3 σ H3 _ I3 q3) fun w' s4 ⟨z',H4,I4,r4,q4⟩=>thn (ho' pins s4 σ H4 y z' u w' _ I4 r2 r4 q4) fun d' s5 ⟨z2,H5,I5,r5,k2,e2,q5⟩=> ?_))
  subst e2
  cases r5
  exact Ho ⟨H5,I5,q5⟩
def TruV(K:W.Frag)(x:V)(H:Hp)(k:Bool):Prop:=
 match x with
 | .non=>k=false
 | .bl b=>k=b
 | .int i=>k=(i !=0)
 | .str y=>y.length<=sizeLine/\k=((y.length:Int) !=0)
 | .byt y=>y.size<=sizeLine/\k=((y.size:Int) !=0)
 | .ref p=>(∃xs,SqL K H p xs/\k= !xs.isEmpty)\/(∃xs,SqT K H p xs/\k= !xs.isEmpty)\/∃kvs,H p=some (.dK kvs)/\k= !kvs.isEmpty
 |_=>False
theorem isEmpty_kv{κ:Type}{kvs:List (κ×V)}{vs:List (κ×Value)}(r:KV kvs vs):(!vs.isEmpty)= !kvs.isEmpty:=by
 cases r<;>rfl
theorem isEmpty_of{xs:List V}{its:List Value}(r:Vals xs its):(!its.toArray.isEmpty)= !xs.isEmpty:=by
 cases r<;>simp
theorem line63:(sizeLine:Nat)<2^63:=by rw[fM];decide
theorem tru_ok:TruR X (fun x H Q=>∃k,TruV X.K x H k/\Q k H):=by
 intro pins s σ H x v Q I rx h
 obtain⟨k,e,q⟩:=h
 have hl:=line63
 have hs:sizeLine=16777216:=fM
 cases x with
 |non=>
  cases rx
  have e':k=false:=e
  subst e'
  exact truthy_none ⟨H,I,q⟩
 |bl b=>
  cases rx
  have e':k=b:=e
  subst e'
  exact Ho ⟨H,I,q⟩
 |int i=>
  obtain⟨t,rfl⟩:=rx
  have e':k=(i !=0):=e
  subst e'
  exact PySem.P.truthy_int ⟨H,I,q⟩
 |str y=>
  obtain⟨t,rfl⟩:=rx
  obtain⟨hy,e'⟩:y.length<=sizeLine/\k=((y.length:Int) !=0):=e
  subst e'
  exact PySem.P.truthy_str (by omega) ⟨H,I.tok _,q⟩
 |byt y=>
  obtain⟨t,rfl⟩:=rx
  obtain⟨hy,e'⟩:y.size<=sizeLine/\k=((y.size:Int) !=0):=e
  subst e'
  exact PySem.W.truthy_bytes (by omega) ⟨H,I.tok _,q⟩
 |ref p=>
  cases rx
  have e':(∃xs,SqL X.K H p xs/\k= !xs.isEmpty)\/(∃xs,SqT X.K H p xs/\k= !xs.isEmpty)\/∃kvs,H p=some (.dK kvs)/\k= !kvs.isEmpty:=e
  rcases e' with⟨xs,hx,e'⟩|⟨xs,hx,e'⟩|⟨kvs,hx,e'⟩
  ·subst e'
   obtain⟨its,r,pl,hz⟩:=I.list hx
   have hlen:=r.length
   exact wpAny_truthy_list pl.isList (by simp only[eU];omega) ⟨H,I.tok _,by rw[isEmpty_of r];exact q⟩
  ·subst e'
   obtain⟨its,r,pl,hz⟩:=I.tuple hx
   have hlen:=r.length
   exact truthy_tuple pl (by simp only[eU];omega) ⟨H,I.tok _,by rw[isEmpty_of r];exact q⟩
  ·subst e'
   obtain⟨hz,hS,vs,r,m⟩:kvs.length<=sizeLine/\(p==sysModules)=false/\∃vs,KV kvs vs/\s.heap.DictOf (mixKind X.prog X.w) p vs:=I.hok p _ hx
   have hlen:kvs.length=vs.length:=wfk r
   exact wpAny_truthy_dict hS m (by omega) ⟨H,I.tok _,by rw[isEmpty_kv r];exact q⟩
 |_=>exact(show False from e).elim
theorem pt_truth(ha:PE X a ta)(he:∀whole,isTrue a X.env whole=(do let v<-whole;standAt a.pos;holding [v] (truthy v))):
  PT X a (fun σ H Q=>ta σ H fun x H'=>∃k,TruV X.K x H' k/\Q k H'):=by
 intro pins s σ H Q I h
 exact isTrue_plain (thn (ha pins s σ H _ I h) fun v s1 ⟨x,H1,I1,r1,q1⟩=>tru_ok pins s1 σ H1 x v Q I1 r1 q1) (he _)
theorem vals1{x:V}{us:List Value}(r:Vals [x] us):∃u,us=[u]/\RelV x u:=by
 cases r with
 |cons r1 r2=>cases r2;exact⟨_,rfl,r1⟩
theorem vals2{x y:V}{us:List Value}(r:Vals [x,y] us):∃u w',us=[u,w']/\RelV x u/\RelV y w':=by
 cases r with
 |cons r1 r2=>
  cases r2 with
  |cons r3 r4=>cases r4;exact⟨_,_,rfl,r1,r3⟩
theorem call_abs:CallR X (.builtin "abs") (fun xs H Q=>∃i,xs=[.int i]/\Q (.int (if i<0 then -i else i)) H):=by
 intro pins s σ H xs us Q I r h
 obtain⟨i,rfl,q⟩:=h
 obtain⟨u,rfl,t,rfl⟩:=vals1 r
 exact call_abs_int fun u tk=>⟨.int (if i<0 then -i else i),H,I.tok _,⟨_,rfl⟩,q⟩
theorem call_max2(hc:X.calm=true):CallR X (.builtin "max") (fun xs H Q=>∃i j,xs=[.int i,.int j]/\Q (.int (if j>i then j else i)) H):=by
 intro pins s σ H xs us Q I r h
 obtain⟨i,j,rfl,q⟩:=h
 obtain⟨u,w',rfl,⟨t,rfl⟩,⟨t',rfl⟩⟩:=vals2 r
 refine max_two_ints (I.ok.hd hc) fun h' tk k=>⟨_,H,I.kept k,?_,q⟩
 by_cases hj:j>i
 ·rw[au hj,au hj];exact⟨_,rfl⟩
 ·rw[ao hj,ao hj];exact⟨_,rfl⟩
theorem call_min2(hc:X.calm=true):CallR X (.builtin "min") (fun xs H Q=>∃i j,xs=[.int i,.int j]/\Q (.int (if j<i then j else i)) H):=by
 intro pins s σ H xs us Q I r h
 obtain⟨i,j,rfl,q⟩:=h
 obtain⟨u,w',rfl,⟨t,rfl⟩,⟨t',rfl⟩⟩:=vals2 r
 refine min_two_ints (I.ok.hd hc) fun h' tk k=>⟨_,H,I.kept k,?_,q⟩
 by_cases hj:j<i
 ·rw[au hj,au hj];exact⟨_,rfl⟩
 ·rw[ao hj,ao hj];exact⟨_,rfl⟩
theorem call_int1:CallR X (.type "int") (fun xs H Q=>(∃i,xs=[.int i]/\Q (.int i) H)\/∃k,xs=[.bl k]/\Q (.int (if k then 1 else 0)) H):=by
 intro pins s σ H xs us Q I r h
 rcases h with⟨i,rfl,q⟩|⟨k,rfl,q⟩
 ·obtain⟨u,rfl,t,rfl⟩:=vals1 r
  exact call_int_int ⟨.int i,H,I,⟨_,rfl⟩,q⟩
 ·obtain⟨u,rfl,r1⟩:=vals1 r
  cases r1
  exact call_int_bool ⟨.int (if k then 1 else 0),H,I.tok _,⟨_,rfl⟩,q⟩
end
structure ObjM(h:Heap)(x dx C:Addr)(mA:Str->Option Value):Prop where
 obj:h.get? x=some (PySem.W.instObj C dx)
 ns:h.Ns1 dx mA
 ne:dx≠x
theorem lookIn_ns{h:Heap}{dx:Addr}{mA:Str->Option Value}(n:h.Ns1 dx mA):∃od,h.get? dx=some od/\∀name,PySem.W.lookIn name od=some (mA name):=by
 obtain⟨o,es,ep,ho,hd,hk,_,hm⟩:=n
 refine⟨o,ho,fun name=> ?_⟩
 have e:=hm name
 unfold nsFind findBy at e
 rw[<-Array.find?_toList]at e
 unfold PySem.W.lookIn
 rw[hd]
 dsimp only
 split
 ·rename_i y q
  rw[q]at e
  exact jh some e
 ·rename_i q
  rw[q]at e
  have a:es.toList.any (·.refKey)=false:=by
   rw[Qj]
   intro y hy
   obtain⟨z,t,hkey⟩:=hk y (Array.mem_toList_iff.mp hy)
   simp[DictEntry.refKey,hkey]
  have a':¬es.toList.any (·.refKey)=true:=by rw[a];exact qC
  rw[ao a']
  exact jh some e
theorem ObjM.look{h:Heap}{x dx C:Addr}{mA:Str->Option Value}(I:ObjM h x dx C mA):∃od,PySem.W.InstAt h x (PySem.W.instObj C dx) C (some od)/\∀name,PySem.W.lookIn name od=some (mA name):=
 let⟨od,ho,hl⟩:=lookIn_ns I.ns
 ⟨od,⟨I.obj,rfl,rfl,ho⟩,hl⟩
section
variable{prog:Program}{w:World}{A:Around}{E:Value->Shared->Prop}{s:Shared}{K:W.Frag}{x dx C f:Addr}{mA:Str->Option Value}{name:Str}{v:Value}
theorem get_map{expr:Bool}{Q:Value->Shared->Prop}(X:K.In s.heap)(I:ObjM s.heap x dx C mA)(hg:PySem.W.plainGet K C name=true)(hh:PySem.W.hasDictIn K C=true)(ha:PySem.W.findIn K (.ref C) name=some none)(hv:mA name=some v)(hv':PySem.W.handedIn v=true)(h:Q v {s with toks:=s.toks+1}):
  wpAny (model prog w) A (getAttr (.ref x) name expr) Q E s:=by
 obtain⟨od,J,hl⟩:=I.look
 exact PySem.W.get_value X J (wec hg).1 (PySem.W.findObj_own hh ha rfl (by rw[hl,hv])) hv' h
theorem get_meth{pl:Sem Bool}{Q:Value×List Value->Shared->Prop}(X:K.In s.heap)(I:ObjM s.heap x dx C mA)(hg:PySem.W.plainGet K C name=true)(hf:PySem.W.findIn K (.ref C) name=some (some (.ref f)))(ht:PySem.W.isFn K (.ref f)=true)(hv:mA name=none)(h:Q (.ref f,[.ref x]) s):
  wpAny (model prog w) A (getMethod (.ref x) name pl) Q E s:=by
 obtain⟨od,J,hl⟩:=I.look
 exact PySem.W.method_fn X J (wec hg).1 (wec hg).2 hf (beq_iff_eq.mp ht) (by show(PySem.W.lookIn name od).map (·.isSome)=some false;rw[hl,hv];rfl) h
theorem set_map{ns:List Str}{Q:Unit->Shared->Prop}(X:K.In s.heap)(I:ObjM s.heap x dx C mA)(hs:PySem.W.findIn K (.ref C) "__setattr__"=some (some (.builtin "object.__setattr__")))(hp:PySem.W.plainOver K C=true)(ht:PySem.W.takerIn K C name=some none)(hh:PySem.W.hasDictIn K C=true)(hw:PySem.Within mA ns)(hsz:ns.length<=sizeLine)(h:∀h',ObjM h' x dx C (fun y=>if y=name then some v else mA y)->Heap.SameBut dx s.heap h'->Q () {s with heap:=h',toks:=s.toks+2}):
  wpAny (model prog w) A (setAttr (.ref x) name v) Q E s:=by
 obtain⟨od,J,hl⟩:=I.look
 refine PySem.W.set_plain X J hs (PySem.W.osa_open (s:={s with toks:=s.toks+1}) (r:=none) X J hp ht fun b=> ?_)
 obtain⟨cd,hc,hd'⟩:=PySem.W.any_some hh
 have hx:s.heap.get? x=some ⟨.ref C,some dx,.plain,#[]⟩:=I.obj
 refine ak (aF (ak (ak (wpAny_loadPart hx (ak (PySem.W.Looks.here (s:={s with toks:=s.toks+1}) (PySem.W.looks_clsIn X hc) ?_))))))
 rw[hd']
 refine aF (a:=some dx) (ak (aF (ak ?_)))
 refine wpAny_nsSet1 (s:={s with toks:=s.toks+1}) I.ns fun h' hn2 hs2=> ?_
 obtain⟨oD,esD,epD,hoD,hdD,hcD⟩:=hn2.count (PySem.Within.cons name v hw)
 refine ak (wpAny_lookBehind hoD (by rw[hdD];exact pastItsLine_dict (eO hcD (by rw[qx];omega))) ?_)
 exact aF (h _ ⟨(hs2.2 _ (jY I.ne)).trans I.obj,hn2,I.ne⟩ hs2)
theorem make_map{R:Result->Shared->Prop}{vs:List Value}{kw:List (Str×Value)}(X:K.In s.heap)(hm:PySem.W.makesIn K C=true)(hi:PySem.W.findIn K (.ref C) "__init__"=some (some (.ref f)))(hf:PySem.W.typeIn K (.ref f)=some (.type "function"))(h:codeAny (model prog w) (A.under (.builtin "type.__call__" ⟨.ref C::vs,kw⟩)) (.call (.ref f) ⟨.ref (s.heap.objs.size+1)::vs,kw⟩) (PySem.W.InitBack (s.heap.objs.size+1) R)
   {s with heap:=(s.heap.push PySem.W.emptyDict).push (PySem.W.instObj C s.heap.objs.size)}):
  codeAny (model prog w) A (.call (.ref C) ⟨vs,kw⟩) R s:=by
 obtain⟨hh,g,d,t,os⟩:=s
 exact PySem.W.make_core (PySem.W.makes_of X hm) (PySem.W.looks_findIn X hi) (fun self=>PySem.W.bind_fn X self hf) (.inl rfl) h
end
def putF(f:Str)(v:V):List (Str×V)->List (Str×V)
 |[]=>[(f,v)]
 |(g,x)::r=>if g=f then(g,v)::r else(g,x)::putF f v r
theorem lookup_putF(f g:Str)(v:V):∀fs:List (Str×V),(putF f v fs).lookup g=if g=f then some v else fs.lookup g
 |[]=>by
  show List.lookup g [(f,v)]=_
  by_cases h:g=f
  ·have hb:(g==f)=true:=beq_iff_eq.mpr h
   simp only[List.lookup,hb,au h]
  ·have hb:(g==f)=false:=beq_eq_false_iff_ne.mpr h
   simp only[List.lookup,hb,ao h]
 |(k,x)::r=>by
  have ih:=lookup_putF f g v r
  rw[show putF f v ((k,x)::r)=(if k=f then(k,v)::r else(k,x)::putF f v r)from rfl]
  by_cases hk:k=f
  ·rw[au hk]
   by_cases h:g=k
   ·have hb:(g==k)=true:=beq_iff_eq.mpr h
    simp only[List.lookup,hb,au (h.trans hk)]
   ·have hb:(g==k)=false:=beq_eq_false_iff_ne.mpr h
    simp only[List.lookup,hb,ao (fun e:g=f=>h (e.trans hk.symm))]
  ·rw[ao hk]
   by_cases h:g=k
   ·have hb:(g==k)=true:=beq_iff_eq.mpr h
    simp only[List.lookup,hb,ao (fun e:g=f=>hk (h.symm.trans e))]
   ·have hb:(g==k)=false:=beq_eq_false_iff_ne.mpr h
    simp only[List.lookup,hb]
    exact ih
theorem keys_putF(f:Str)(v:V):∀fs:List (Str×V),f∈(putF f v fs).map (·.1)/\∀g,g∈fs.map (·.1)->g∈(putF f v fs).map (·.1)
 |[]=>⟨by simp[putF],fun g h=>by simp at h⟩
 |(k,x)::r=>by
  obtain⟨i1,i2⟩:=keys_putF f v r
  rw[show putF f v ((k,x)::r)=(if k=f then(k,v)::r else(k,x)::putF f v r)from rfl]
  by_cases hk:k=f
  ·rw[au hk]
   subst hk
   exact⟨by simp,fun g h=>by simpa using h⟩
  ·rw[ao hk]
   refine⟨?_,fun g h=> ?_⟩
   ·rw[wU]
    exact dG _ i1
   ·rw[wU]at h⊢
    rcases cB.mp h with e|e
    ·exact cB.mpr (.inl e)
    ·exact dG _ (i2 g e)
theorem length_putF(f:Str)(v:V):∀fs:List (Str×V),(putF f v fs).length<=fs.length+1
 |[]=>by simp[putF]
 |(k,x)::r=>by
  have ih:=length_putF f v r
  rw[show putF f v ((k,x)::r)=(if k=f then(k,v)::r else(k,x)::putF f v r)from rfl]
  by_cases hk:k=f
  ·rw[au hk,qx,qx];omega
  ·rw[ao hk,qx,qx];omega
theorem RelO.some_of{v:V}{o:Option Value}(r:RelO (some v) o):∃u,o=some u/\RelV v u:=by
 cases o with
 |none=>exact(show False from r).elim
 |some u=>exact⟨u,rfl,r⟩
theorem RelO.none_of{o:Option Value}(r:RelO none o):o=none:=by
 cases o with
 |none=>rfl
 |some u=>exact(show False from r).elim
theorem handed_of{v:V}{u:Value}(r:RelV v u):PySem.W.handedIn u=true:=by
 cases v with
 |non=>cases(show u=Value.none from r);rfl
 |bl b=>cases(show u=Value.bool b from r);rfl
 |int i=>obtain⟨t,e⟩:=(show∃t,u=Value.int i t from r);cases e;rfl
 |str x=>obtain⟨t,e⟩:=(show∃t,u=Value.str x t from r);cases e;rfl
 |byt b=>obtain⟨t,e⟩:=(show∃t,u=Value.bytes b t from r);cases e;rfl
 |flt b=>obtain⟨t,e⟩:=(show∃t,u=Value.float b t from r);cases e;rfl
 |ref a=>cases(show u=Value.ref a from r);rfl
 |ty n=>cases(show u=Value.type n from r);rfl
section
variable{P:Program}{w:World}{H H':Hp}{h h':Heap}{a C dx:Addr}{fs fs':List (Str×V)}
theorem ins_get(hok:HOk P w H h)(e:H a=some (.ins C dx fs)):∃mA,ObjM h a dx C mA/\(∀f,RelO (fs.lookup f) (mA f))/\PySem.Within mA (fs.map (·.1))/\fs.length<=1000/\H dx=some (.own a):=by
 obtain⟨d,z,ne,ob,mA,n,r,q⟩:=(show ObjOk P w H h a (.ins C dx fs)from hok a _ e)
 exact⟨mA,⟨ob,n,ne⟩,r,q,z,d⟩
end
structure Cls(K:W.Frag)(C:Addr):Prop where
 pg:PySem.W.plainGet K C Str.empty=true
 hd:PySem.W.hasDictIn K C=true
 po:PySem.W.plainOver K C=true
 sa:PySem.W.findIn K (.ref C) "__setattr__"=some (some (.builtin "object.__setattr__"))
theorem Cls.get{K:W.Frag}{C:Addr}(c:Cls K C)(f:Str):PySem.W.plainGet K C f=true:=c.pg
def NoAttr(K:W.Frag)(C:Addr)(f:Str):Prop:=PySem.W.findIn K (.ref C) f=some none
theorem NoAttr.taker{K:W.Frag}{C:Addr}{f:Str}(n:NoAttr K C f):PySem.W.takerIn K C f=some none:=by
 unfold PySem.W.takerIn
 rw[show PySem.W.findIn K (.ref C) f=some none from n]
 rfl
structure Meth(K:W.Frag)(C:Addr)(m:Str)(f:Addr):Prop where
 at_:PySem.W.findIn K (.ref C) m=some (some (.ref f))
 fn:PySem.W.isFn K (.ref f)=true
 kp:PySem.W.keepIn K (.ref f)=true
section
variable{X:Cx}{pins:List (Addr×Obj)}{σ:St}{H:Hp}{s:Shared}{a C dx:Addr}{fs:List (Str×V)}{f:Str}{v:V}{A:Around}{E:Value->Shared->Prop}
theorem getattr_ok{b:Bool}{Q:Value->Shared->Prop}(I:Inv X pins σ H s)(e:H a=some (.ins C dx fs))(c:Cls X.K C)(n:NoAttr X.K C f)(l:fs.lookup f=some v)(h:∀u s',Inv X pins σ H s'->RelV v u->Q u s'):wpAny (model X.prog X.w) A (getAttr (.ref a) f b) Q E s:=by
 obtain⟨mA,O,r,_,_,_⟩:=ins_get I.hok e
 obtain⟨u,hu,ru⟩:=RelO.some_of (v:=v) (o:=mA f) (by rw[<-l];exact r f)
 exact get_map I.kIn O (c.get f) c.hd n hu (handed_of ru) (h u _ (I.tok _) ru)
theorem getmeth_ok{m:Str}{g:Addr}{pl:Sem Bool}{Q:Value×List Value->Shared->Prop}(I:Inv X pins σ H s)(e:H a=some (.ins C dx fs))(c:Cls X.K C)(k:Meth X.K C m g)(l:fs.lookup m=none)(h:Q (.ref g,[.ref a]) s):wpAny (model X.prog X.w) A (getMethod (.ref a) m pl) Q E s:=by
 obtain⟨mA,O,r,_,_,_⟩:=ins_get I.hok e
 have hn:mA m=none:=RelO.none_of (by rw[<-l];exact r m)
 exact get_meth I.kIn O (c.get m) k.at_ k.fn hn h
theorem setattr_ok{y:V}{u:Value}{Q:Unit->Shared->Prop}(I:Inv X pins σ H s)(e:H a=some (.ins C dx fs))(c:Cls X.K C)(n:NoAttr X.K C f)(hl:fs.length<1000)(ry:RelV y u)(h:∀s',Inv X pins σ (upd H a (.ins C dx (putF f y fs))) s'->Q () s'):wpAny (model X.prog X.w) A (setAttr (.ref a) f u) Q E s:=by
 obtain⟨mA,O,r,wi,_,ho⟩:=ins_get I.hok e
 have hz:(fs.map (·.1)).length<=sizeLine:=by rw[aG,fM];omega
 refine set_map I.kIn O c.sa c.po n.taker c.hd wi hz fun h' O' sb=>h _ ?_
 have hd:∃o,h'.get? dx=some o:=let⟨o,_,_,e',_⟩:=O'.ns;⟨o,e'⟩
 refine I.write (x:=a) (e:=dx) (by rw[e];exact True.intro) (.inr ho) (fun b q hb z=>(sb.2 b hb).trans z) hd ?_
 refine⟨by rw[cu O.ne];exact ho,?_,O.ne,O'.obj,_,O'.ns,fun g=> ?_,fun g hg=> ?_⟩
 ·have:=length_putF f y fs;omega
 ·show RelO ((putF f y fs).lookup g) (if g=f then some u else mA g)
  rw[lookup_putF]
  by_cases q:g=f
  ·rw[au q,au q];exact ry
  ·rw[ao q,ao q];exact r g
 ·by_cases q:g=f
  ·rw[q];exact(keys_putF f y fs).1
  ·refine(keys_putF f y fs).2 g (wi g fun z=>hg ?_)
   show(if g=f then some u else mA g)=none
   rw[ao q];exact z
theorem Inv.made(I:Inv X pins σ H s):Inv X pins σ (upd (upd H s.heap.objs.size (.own (s.heap.objs.size+1))) (s.heap.objs.size+1) (.ins C s.heap.objs.size []))
  {s with heap:=(s.heap.push PySem.W.emptyDict).push (PySem.W.instObj C s.heap.objs.size)}:=by
 have e1:(s.heap.push PySem.W.emptyDict).get? s.heap.objs.size=some PySem.W.emptyDict:=gB s.heap rfl
 have e2:((s.heap.push PySem.W.emptyDict).push (PySem.W.instObj C s.heap.objs.size)).get? (s.heap.objs.size+1)=some (PySem.W.instObj C s.heap.objs.size):=by
  have:=gB (s.heap.push PySem.W.emptyDict) (o:=PySem.W.instObj C s.heap.objs.size) rfl
  rwa [wH]at this
 have e3:(s.heap.push PySem.W.emptyDict).Ns s.heap.objs.size (fun _=>none):=⟨PySem.W.emptyDict,#[],_,e1,rfl,(fun e he=>absurd he (by simp)),fun _=>rfl⟩
 have I1:=I.laid (a:=s.heap.objs.size) (o:= .own (s.heap.objs.size+1)) (h':=s.heap.push PySem.W.emptyDict) (t':=s.toks) (fun b u q=>cM _ q) (aH _) ⟨_,e1⟩
 refine I1.laid (a:=s.heap.objs.size+1) (o:= .ins C s.heap.objs.size []) (t':=s.toks) (fun b u q=>cM _ q) (zN (wH _ _)) ?_
 have ne:s.heap.objs.size≠s.heap.objs.size+1:=bQ (nQ _)
 refine⟨by rw[cu ne,aJ],cX _,ne,e2,fun _=>none,(Heap.Ns1.of_empty e3).at fun o q=>cM _ q,fun _=>True.intro,fun y hy=>absurd rfl hy⟩
theorem attr_of{prog:Program}{w:World}{env:Env}{e:Expr}{f:Str}{pos:Pos}{s:Shared}{Q:Value->Shared->Prop}(hb:attributeBase e f env (eval e env)=eval e env)(h:wpAny (model prog w) A (eval e env) (fun o s₁=>wpAny (model prog w) A (getAttr o f true) Q E s₁) E s):wpAny (model prog w) A (eval (.Attribute e f pos) env) Q E s:=
 Attribute_any_ h (by rw[arm_eval_Attribute,hb])
end
def tFld(K:W.Frag)(ta:TE)(f:Str):TE:=fun σ H Q=>ta σ H fun x H1=>∃a C dx fs v,x= .ref a/\H1 a=some (.ins C dx fs)/\Cls K C/\NoAttr K C f/\fs.lookup f=some v/\Q v H1
def sFld(K:W.Frag)(ta tv:TE)(f:Str):TS:=fun D σ H=>tv σ H fun y H1=>ta σ H1 fun x H2=>∃a C dx fs,x= .ref a/\H2 a=some (.ins C dx fs)/\Cls K C/\NoAttr K C f/\fs.length<1000/\
 D.nx σ (upd H2 a (.ins C dx (putF f y fs)))
section
variable{X:Cx}{o e value:Expr}{f:Str}{pos pos' tpos:Pos}{ta tv:TE}
theorem nM(he:PE X e ta)(hb:attributeBase e f X.env (eval e X.env)=eval e X.env):PE X (.Attribute e f pos) (tFld X.K ta f):=by
 intro pins s σ H Q I h
 refine attr_of hb (thn (he pins s σ H _ I h) fun u s1 ⟨x,H1,I1,rx,a,C,dx,fs,v,ex,ea,c,n,l,q⟩=> ?_)
 subst ex
 obtain rfl:u=Value.ref a:=rx
 exact getattr_ok I1 ea c n l fun u' s2 I2 ru=>⟨v,H1,I2,ru,q⟩
theorem ps_fld(ha:PE X o ta)(hv:PE X value tv)(hs:swapsWith value (some (.Attribute o f pos')) pos.line X.env=pure false):PS X (.Assign [.Attribute o f pos'] value pos) (sFld X.K ta tv f):=by
 intro pins s σ H D I h
 refine plainObj_wpAny_Assign_Attribute (thn (hv pins s σ H _ I h) fun u s1 ⟨y,H1,I1,ry,q⟩=>thn (ha pins s1 σ H1 _ I1 q) fun ov s2 ⟨x,H2,I2,rx,a,C,dx,fs,ex,ea,c,n,l,q2⟩=> ?_) hs
 subst ex
 obtain rfl:ov=Value.ref a:=rx
 exact setattr_ok I2 ea c n l ry fun s3 I3=>⟨σ,_,I3,q2⟩
end
section
variable{X:Cx}{pins:List (Addr×Obj)}{σ:St}{H:Hp}{s:Shared}{A:Around}{E:Value->Shared->Prop}{Q:Value->Shared->Prop}{c:Value}{b:Bool}
end
structure Room(k:Nat)(A:Around):Prop where
 hd:A.handled=none
 dp:A.depth+3*k+5<recursionLimit
 un:A.units+16*k+200<cLine
 gd:A.guards=some []
theorem Room.mono{j k:Nat}{A:Around}(r:Room k A)(h:j<=k):Room j A:=⟨r.hd,by have:=r.dp;omega,by have:=r.un;omega,r.gd⟩
theorem Room.deeper{k:Nat}{A:Around}(r:Room (k+1) A)(env:Env):Room k (A.deeper env):=
 ⟨r.hd,by have:=r.dp;show A.depth+1+3*k+5<_;omega,by have:=r.un;show A.units+3+16*k+200<_;omega,r.gd⟩
theorem Room.in1{k:Nat}{A:Around}(r:Room (k+1) A):Room k A.in1:=
 ⟨r.hd,by have:=r.dp;show A.depth+3*k+5<_;omega,by have:=r.un;show A.units+1+16*k+200<_;omega,r.gd⟩
theorem make_depth{A:Around}{C:Addr}{us:List Value}{kw:List (Str×Value)}:(A.under (.builtin "type.__call__" ⟨.ref C::us,kw⟩)).depth=A.depth+1:=by
 first |rfl|simp[Around.under,Code.weight,Code.isCreation,Code.isGuard,Code.isCaller,Code.frames,Code.isFrame,guardIds]
theorem make_units{A:Around}{C:Addr}{us:List Value}{kw:List (Str×Value)}:(A.under (.builtin "type.__call__" ⟨.ref C::us,kw⟩)).units=A.units+1:=by
 first |rfl|simp[Around.under,Code.cUnits,Code.frames,Code.isFrame]
theorem Room.make{k:Nat}{A:Around}(r:Room (k+1) A)(C:Addr)(us:List Value)(kw:List (Str×Value)):Room k (A.under (.builtin "type.__call__" ⟨.ref C::us,kw⟩)):=
 ⟨r.hd,by have:=r.dp;rw[make_depth];omega,by have:=r.un;rw[make_units];omega,by
  have q:=r.gd
  first |exact q|(simp[Around.under,Code.isGuard,guardIds];exact q)|(unfold Around.under;simp[Code.isGuard,guardIds,q])⟩
theorem Room.depth{k:Nat}{A:Around}(r:Room k A):A.depth<recursionLimit:=by have:=r.dp;omega
theorem Room.units{k:Nat}{A:Around}(r:Room k A):A.units+64<cLine:=by have:=r.un;omega
theorem Room.units0{k:Nat}{A:Around}(r:Room k A):A.units<cLine:=by have:=r.un;omega
def tNil:TA:=fun _ H Q=>Q [] H
def tCons(ta:TE)(tr:TA):TA:=fun σ H Q=>ta σ H fun x H1=>tr σ H1 fun xs H2=>Q (x::xs) H2
section
variable{X:Cx}{e:Expr}{es:List Expr}{te:TE}{t:TA}{pos:Pos}
theorem aA:PA X [] tNil:=fun _ _ _ _ H Q I h=>RB ⟨[],H,I,.nil,h⟩
theorem aj(ha:PE X e te)(hr:PA X es t)(hs:starEach (e::es) X.env=(false,eval e X.env)::starEach es X.env:=by rfl):PA X (e::es) (tCons te t):=by
 intro pos pins s σ H Q I h
 rw[hs]
 show wpAny _ _ (spliced ((false,eval e X.env)::backTo pos (starEach es X.env))) _ _ s
 refine Vp (thn (ha pins s σ H _ I h) fun u s1 ⟨x,H1,I1,r1,q1⟩=> ?_)
 exact thn (hr pos pins s1 σ H1 _ I1 q1) fun us s2 ⟨xs,H2,I2,r2,q2⟩=>⟨x::xs,H2,I2,.cons r1 r2,q2⟩
def tTup(t:TA):TE:=fun σ H Q=>t σ H fun xs H1=>xs.length<=sizeLine/\∀p,H1 p=none->Q (.ref p) (upd H1 p (.tup xs))
def tLst(t:TA):TE:=fun σ H Q=>t σ H fun xs H1=>xs.length<=sizeLine/\∀p,H1 p=none->Q (.ref p) (upd H1 p (.lst xs))
theorem pY{x1}(h:PA X es t):PE X (.Tuple es x1 pos) (tTup t):=by
 intro pins s σ H Q I hq
 refine wpAny_Tuple_spliced (thn (h pos pins s σ H _ I hq) fun us s1 ⟨xs,H1,I1,r,z,q⟩=>⟨by rw[<-r.length];exact z,?_⟩)
 have hf:H1 s1.heap.objs.size=none:=I1.hok.fresh (aH _)
 refine⟨.ref s1.heap.objs.size,upd H1 s1.heap.objs.size (.tup xs),I1.laid (t':=s1.toks) (fun b u e=>cM _ e) (aH _) ?_,rfl,q _ hf⟩
 exact⟨z,us,r,⟨_,gB _ rfl,rfl,_,rfl⟩⟩
theorem pe_lst(h:PA X es t):PE X (.List es pos) (tLst t):=by
 intro pins s σ H Q I hq
 refine wpAny_List_spliced (thn (h pos pins s σ H _ I hq) fun us s1 ⟨xs,H1,I1,r,z,q⟩=>⟨by rw[<-r.length];exact z,?_⟩)
 have hf:H1 s1.heap.objs.size=none:=I1.hok.fresh (aH _)
 refine⟨.ref s1.heap.objs.size,upd H1 s1.heap.objs.size (.lst xs),I1.laid (t':=s1.toks) (fun b u e=>cM _ e) (aH _) ?_,rfl,q _ hf⟩
 exact⟨z,us,0,r,gB _ rfl⟩
end
abbrev Sp:=List V->Hp->VK->XK->Prop
abbrev CXT:=List Env->Hp->Shared->XK->Value->Shared->Prop
structure Env0(P:Program)(w:World)(K:W.Frag)(mg:Str->Option Value)(base:Heap)(A:Around)(outer:List Env)(s:Shared)(H:Hp):Prop where
 frames:A.frames=some outer
 mod:Mod K mg base
 bs:∀b o,base.get? b=some o->s.heap.get? b=some o/\H b=none
 bsz:base.objs.size<=s.heap.objs.size
 funs:s.heap.FunFrames base outer
 frf:∀b∈frs outer,H b=none
 hok:HOk P w H s.heap
 bare:AllBare s.gens
def CE(outer:List Env)(P:Program)(w:World)(H:Hp)(s:Shared)(Q:VK)(u:Value)(s':Shared):Prop:=
 ∃v H',s'.os=s.os/\AllBare s'.gens/\Un (frs outer) [] H H' s.heap s'.heap/\HOk P w H' s'.heap/\RelV v u/\Q v H'
def CR(CX:CXT)(outer:List Env)(P:Program)(w:World)(H:Hp)(s:Shared)(Q:VK)(E:XK)(r:Result)(s':Shared):Prop:=
 match r with
 | .ok (.ret u)=>CE outer P w H s Q u s'
 | .ok _=>False
 | .error e=>CX outer H s E e s'
structure FnOk(P:Program)(w:World)(K:W.Frag)(mg:Str->Option Value)(base:Heap)(CX:CXT)(k:Nat)(f:Addr)(fd:FuncData)(ps:List Str)(sp:Sp):Prop where
 len:∀vs H Q E,sp vs H Q E->vs.length=ps.length
 run:∀(A:Around) (outer:List Env) (s:Shared) (H:Hp) (args:Args) (us:List Value) (vs:List V) (Q:VK) (E:XK),Room k A->Env0 P w K mg base A outer s H->BindsTo s fd args (ps.zip us)->Vals vs us->sp vs H Q E->
  codeAny (model P w) A (.call (.ref f) args) (CR CX outer P w H s Q E) s
theorem FnOk.mono{P:Program}{w:World}{K:W.Frag}{mg:Str->Option Value}{base:Heap}{CX:CXT}{j k:Nat}{f:Addr}{fd:FuncData}{ps:List Str}{sp:Sp}(F:FnOk P w K mg base CX j f fd ps sp)(h:j<=k):
  FnOk P w K mg base CX k f fd ps sp:=⟨F.len,fun A outer s H args us vs Q E hr=>F.run A outer s H args us vs Q E (hr.mono h)⟩
theorem Env0.make{P:Program}{w:World}{K:W.Frag}{mg:Str->Option Value}{base:Heap}{A:Around}{outer:List Env}{s:Shared}{H:Hp}(e:Env0 P w K mg base A outer s H)(C:Addr)(us:List Value)(kw:List (Str×Value)):
  Env0 P w K mg base (A.under (.builtin "type.__call__" ⟨.ref C::us,kw⟩)) outer s H:=⟨by first |exact e.frames|(simpa[Around.under,Code.envs,Code.isFrame,pushEnvs]using e.frames),e.mod,e.bs,e.bsz,e.funs,e.frf,e.hok,e.bare⟩
theorem Env0.in1{P:Program}{w:World}{K:W.Frag}{mg:Str->Option Value}{base:Heap}{A:Around}{outer:List Env}{s:Shared}{H:Hp}(e:Env0 P w K mg base A outer s H):
  Env0 P w K mg base A.in1 outer s H:=⟨e.frames,e.mod,e.bs,e.bsz,e.funs,e.frf,e.hok,e.bare⟩
section
variable{X:Cx}{pins:List (Addr×Obj)}{σ:St}{H:Hp}{s s':Shared}
theorem Inv.env0(I:Inv X pins σ H s):Env0 X.prog X.w X.K X.mg X.base X.A X.stack s H:=
 ⟨I.ok.frames,I.ok.mod,I.bs,eO I.ok.bsz I.sz,I.stack,I.stkFree,I.hok,I.bare⟩
theorem Inv.after{Q:VK}{u:Value}(I:Inv X pins σ H s)(h:CE X.stack X.prog X.w H s Q u s'):EP X pins σ Q u s':=by
 obtain⟨v,H',os,bare,un,hok,r,q⟩:=h
 obtain⟨hh,g,d,t,os'⟩:=s'
 obtain rfl:os'=s.os:=os
 exact⟨v,H',I.call (h':=hh) (g':=g) (d':=d) (t':=t) (ch:=[]) un hok bare (fun b z=>absurd z (by simp)),r,q⟩
end
def tCall(sp:Sp)(dvs:List V)(E:XK)(t:TA):TE:=fun σ H Q=>t σ H fun vs H1=>sp (vs++dvs) H1 Q E
def tMeth(C:Addr)(m:Str)(sp:Sp)(dvs:List V)(E:XK)(ta:TE)(t:TA):TE:=fun σ H Q=>ta σ H fun x H1=>∃a dx fs,x= .ref a/\H1 a=some (.ins C dx fs)/\fs.lookup m=none/\
 t σ H1 fun vs H2=>sp (x::(vs++dvs)) H2 Q E
def tMake(C:Addr)(sp:Sp)(dvs:List V)(E:XK)(t:TA):TE:=fun σ H Q=>t σ H fun vs H1=>∀x dx,H1 x=none->H1 dx=none->dx≠x->
 sp (.ref x::(vs++dvs)) (upd (upd H1 dx (.own x)) x (.ins C dx [])) (fun v H2=>v= .non/\Q (.ref x) H2) E
def Binds(K:W.Frag)(fd:FuncData)(ps:List Str)(ds:List Value):Prop:=
 ∀(s:Shared) (us:List Value),K.In s.heap->(us++ds).length=ps.length->BindsTo s fd ⟨us,[]⟩ (ps.zip (us++ds))
theorem Binds.all{K:W.Frag}{fd:FuncData}{ps:List Str}(h:∀us:List Value,us.length=ps.length->bindArgs fd ⟨us,[]⟩=pure (ps.zip us)):Binds K fd ps []:=fun s us _ hl=>by
 rw[sE]at hl⊢
 exact .of_eq (h us hl)
def Passes(CX:CXT)(X:Cx)(E:XK):Prop:=∀(pins:List (Addr×Obj)) (σ:St) (H:Hp) (s:Shared) (e:Value) (s':Shared),Inv X pins σ H s->CX X.stack H s E e s'->X.xe e s'
section
variable{X:Cx}{CX:CXT}{k:Nat}{f C:Addr}{fd:FuncData}{ps:List Str}{sp:Sp}{dvs:List V}{ds:List Value}{E:XK}{x m:Str}{p pos apos:Pos}{e o:Expr}{es:List Expr}{ta:TE}{t:TA}
theorem run_fn{pins:List (Addr×Obj)}{σ:St}{H:Hp}{s:Shared}{Q:VK}{us:List Value}{vs:List V}(F:FnOk X.prog X.w X.K X.mg X.base CX k f fd ps sp)(hr:Room k X.A)(hb:Binds X.K fd ps ds)(hd:Vals dvs ds)(hx:Passes CX X E)
  (I:Inv X pins σ H s)(r:Vals vs us)(h:sp (vs++dvs) H Q E):wpAny (model X.prog X.w) X.A (call (.ref f) us) (EP X pins σ Q) X.xe s:=by
 have r2:Vals (vs++dvs) (us++ds):=r.append hd
 have hl:(us++ds).length=ps.length:=by rw[<-r2.length];exact F.len _ _ _ _ h
 refine Wj (M4 (F.run X.A X.stack s H ⟨us,[]⟩ (us++ds) (vs++dvs) Q E hr I.env0 (hb s us I.kIn hl) r2 h) fun r s' hq=> ?_)
 cases r with
 |error e=>exact hx pins σ H s e s' I hq
 |ok fl=>
  cases fl with
  |ret u=>exact I.after hq
  |next=>exact False.elim hq
  |brk=>exact False.elim hq
  |cont=>exact False.elim hq
theorem pe_call(F:FnOk X.prog X.w X.K X.mg X.base CX k f fd ps sp)(hr:Room k X.A)(hg:Gl X x)(hm:X.mg x=some (.ref f))(hk:PySem.W.keepIn X.K (.ref f)=true)(hb:Binds X.K fd ps ds)(hd:Vals dvs ds)(hx:Passes CX X E)(ha:PA X (e::es) t)(hdb:(x==("__debug__":Str))=false:=by decide)(he:starEach (e::es) X.env=(false,eval e X.env)::starEach es X.env:=by rfl)(hpl:(backTo pos (starEach es X.env)).any (·.1)=false:=by rfl):
  PE X (.Call (.Name x p) (e::es) [] pos) (tCall sp dvs E t):=by
 intro pins s σ H Q I h
 refine Mt (ld_glob I hg hm ?_ hdb)
 refine wem (h₀:=X.base) I.ok.mod.kin hk (thn (ha pos pins s σ H _ I h) fun us s1 ⟨vs,H1,I1,r,q⟩=>⟨I1.kIn,?_⟩) he hpl
 exact run_fn F hr hb hd hx I1 r q
theorem pe_meth{pl:Sem Bool}(he:PE X o ta)(c:Cls X.K C)(hm:Meth X.K C m f)(F:FnOk X.prog X.w X.K X.mg X.base CX k f fd ps sp)(hr:Room k X.A)(hb:Binds X.K fd ps ds)(hd:Vals dvs ds)(hx:Passes CX X E)(ha:PA X (e::es) t)(hst:starEach (e::es) X.env=(false,eval e X.env)::starEach es X.env:=by rfl)(hpl:(backTo pos (starEach es X.env)).any (·.1)=false:=by rfl)(ht:eval (.Call (.Attribute o m apos) (e::es) [] pos) X.env=(do
   let ov<-eval o X.env
   standAt apos.atName
   let(f,first)<-holding [ov] (getMethod ov m pl)
   callWith pos f first (backTo pos (starEach (e::es) X.env)) (backToKw pos (keywordEach [] X.env))):=by rfl):
  PE X (.Call (.Attribute o m apos) (e::es) [] pos) (tMeth C m sp dvs E ta t):=by
 intro pins s σ H Q I h
 refine wgd (pl:=pl) (thn (he pins s σ H _ I h) fun u s1 ⟨x,H1,I1,rx,a,dx,fs,ex,ea,l,q⟩=> ?_) ht
 subst ex
 obtain rfl:u=Value.ref a:=rx
 refine getmeth_ok I1 ea c hm l ?_
 refine wem (first:=[.ref a]) (h₀:=X.base) I.ok.mod.kin hm.kp (thn (ha pos pins s1 σ H1 _ I1 q) fun us s2 ⟨vs,H2,I2,r,q2⟩=>⟨I2.kIn,?_⟩) hst hpl
 exact run_fn (us:= .ref a::us) (vs:= .ref a::vs) F hr hb hd hx I2 (.cons rfl r) q2
theorem pe_meth0{pl:Sem Bool}(he:PE X o ta)(c:Cls X.K C)(hm:Meth X.K C m f)(F:FnOk X.prog X.w X.K X.mg X.base CX k f fd ps sp)(hr:Room k X.A)(hb:Binds X.K fd ps ds)(hd:Vals dvs ds)(hx:Passes CX X E)(ht:eval (.Call (.Attribute o m apos) [] [] pos) X.env=(do
   let ov<-eval o X.env
   standAt apos.atName
   let(f,first)<-holding [ov] (getMethod ov m pl)
   callWith pos f first (backTo pos (starEach [] X.env)) (backToKw pos (keywordEach [] X.env))):=by rfl):
  PE X (.Call (.Attribute o m apos) [] [] pos) (tMeth C m sp dvs E ta tNil):=by
 intro pins s σ H Q I h
 refine wgd (pl:=pl) (thn (he pins s σ H _ I h) fun u s1 ⟨x,H1,I1,rx,a,dx,fs,ex,ea,l,q⟩=> ?_) ht
 subst ex
 obtain rfl:u=Value.ref a:=rx
 refine getmeth_ok I1 ea c hm l ?_
 exact PySem.W.callWith_K0 (first:=[.ref a]) I1.kIn hm.kp (run_fn (us:=[.ref a]) (vs:=[.ref a]) F hr hb hd hx I1 (.cons rfl .nil) q)
structure Mk(K:W.Frag)(C f:Addr):Prop where
 makes:PySem.W.makesIn K C=true
 init:PySem.W.findIn K (.ref C) "__init__"=some (some (.ref f))
 fn:PySem.W.isFn K (.ref f)=true
 kp:PySem.W.keepIn K (.ref C)=true
theorem run_make{pins:List (Addr×Obj)}{σ:St}{H:Hp}{s:Shared}{Q:VK}{us:List Value}{vs:List V}(M:Mk X.K C f)(F:FnOk X.prog X.w X.K X.mg X.base CX k f fd ps sp)(hr:Room (k+1) X.A)(hb:Binds X.K fd ps ds)(hd:Vals dvs ds)(hx:Passes CX X E)(I:Inv X pins σ H s)(r:Vals vs us)(h:∀x dx,H x=none->H dx=none->dx≠x->sp (.ref x::(vs++dvs)) (upd (upd H dx (.own x)) x (.ins C dx [])) (fun v H2=>v= .non/\Q (.ref x) H2) E):
  wpAny (model X.prog X.w) X.A (call (.ref C) us) (EP X pins σ Q) X.xe s:=by
 have hq:=h (s.heap.objs.size+1) s.heap.objs.size (I.hok.fresh (wD _)) (I.hok.fresh (aH _)) (bQ (nQ _))
 have I2:=Inv.made (C:=C) I
 have r2:Vals (V.ref (s.heap.objs.size+1)::(vs++dvs)) (Value.ref (s.heap.objs.size+1)::(us++ds)):= .cons rfl (r.append hd)
 have hl:(Value.ref (s.heap.objs.size+1)::us++ds).length=ps.length:=by
  have e:=r2.length
  rw[F.len _ _ _ _ hq]at e
  exact e.symm
 refine Wj (make_map (f:=f) I.kIn M.makes M.init (beq_iff_eq.mp M.fn) (M4 (F.run _ X.stack _ _ ⟨Value.ref (s.heap.objs.size+1)::us,[]⟩ (Value.ref (s.heap.objs.size+1)::(us++ds)) _ _ E (hr.make C us [])
  (I2.env0.make C us []) (hb _ (Value.ref (s.heap.objs.size+1)::us) I2.kIn hl) r2 hq) fun r s' hq'=> ?_))
 cases r with
 |error e=>exact hx pins σ _ _ e s' I2 hq'
 |ok fl=>
  cases fl with
  |ret u=>
   obtain⟨v,H',I3,rv,ev,q3⟩:=I2.after hq'
   subst ev
   exact⟨rv,⟨V.ref (s.heap.objs.size+1),H',I3,rfl,q3⟩⟩
  |next=>exact False.elim hq'
  |brk=>exact False.elim hq'
  |cont=>exact False.elim hq'
theorem pe_make(M:Mk X.K C f)(F:FnOk X.prog X.w X.K X.mg X.base CX k f fd ps sp)(hr:Room (k+1) X.A)(hg:Gl X x)(hm:X.mg x=some (.ref C))(hb:Binds X.K fd ps ds)(hd:Vals dvs ds)(hx:Passes CX X E)(ha:PA X (e::es) t)(hdb:(x==("__debug__":Str))=false:=by decide)(he:starEach (e::es) X.env=(false,eval e X.env)::starEach es X.env:=by rfl)(hpl:(backTo pos (starEach es X.env)).any (·.1)=false:=by rfl):
  PE X (.Call (.Name x p) (e::es) [] pos) (tMake C sp dvs E t):=by
 intro pins s σ H Q I h
 refine Mt (ld_glob I hg hm ?_ hdb)
 refine wem (h₀:=X.base) I.ok.mod.kin M.kp (thn (ha pos pins s σ H _ I h) fun us s1 ⟨vs,H1,I1,r,q⟩=>⟨I1.kIn,?_⟩) he hpl
 exact run_make M F hr hb hd hx I1 r q
end
section
variable{X:Cx}{CX:CXT}{k:Nat}{f C:Addr}{fd:FuncData}{ps ks:List Str}{sp:Sp}{E:XK}{x m:Str}{p pos apos kpos:Pos}{e o:Expr}{es:List Expr}{kws:List Keyword}{te ta:TE}{t tk:TA}{nm:Option Str}
variable{g:List Value->List Value->List Value}{gV:List V->List V->List V}
end
structure FnScope(N P:List Str)(sc:Scope):Prop where
 kind:sc.kind= .function
 co:sc.isCoroutine=false
 gen:sc.isGenerator=false
 nd:N.Nodup
 pre:N.take P.length=P
 par:∀x∈P,sc.names.lookup x=some .local\/sc.names.lookup x=some .cell
 nofree:∀y∈sc.names,y.2≠.free
theorem bindL_out{kindOf:Str->Option NameKind}{x:Str}:∀{binds:List (Str×Value)} {m:Str->Option Value},(∀v,(x,v)∉binds)->bindL kindOf binds m x=m x
 |[],_,_=>rfl
 |(n,v)::r,m,h=>by
  unfold bindL
  rw[bindL_out fun w hw=>h w (dG _ hw)]
  split
  ·have:x≠n:=by rintro rfl;exact h v cV
   simp[this]
  ·rfl
theorem bindC_out{kindOf:Str->Option NameKind}{x:Str}:∀{binds:List (Str×Value)} {m:Str->Option Value},(∀v,(x,v)∉binds)->bindC kindOf binds m x=m x
 |[],_,_=>rfl
 |(n,v)::r,m,h=>by
  unfold bindC
  rw[bindC_out fun w hw=>h w (dG _ hw)]
  split
  ·rfl
  ·have:x≠n:=by rintro rfl;exact h v cV
   simp[this]
theorem bindL_get{kindOf:Str->Option NameKind}{x:Str}{v:Value}:∀{P:List Str} {vs:List Value} {i:Nat} {m:Str->Option Value},P.Nodup->P[i]? =some x->vs[i]? =some v->kindOf x=some .local->
  bindL kindOf (P.zip vs) m x=some v
 |[],_,_,_,_,h,_,_=>by simp at h
 |_::_,[],_,_,_,_,h,_=>by simp at h
 |p::P,w::vs,0,m,nd,h1,h2,hk=>by
  simp at h1 h2;subst h1;subst h2
  show bindL kindOf ((p,w)::P.zip vs) m p=_
  unfold bindL
  rw[bindL_out fun v hv=>(Hl.mp nd).1 (wge hv).1,au hk]
  simp
 |p::P,w::vs,i+1,m,nd,h1,h2,hk=>by
  show bindL kindOf ((p,w)::P.zip vs) m x=_
  unfold bindL
  exact bindL_get (i:=i) (Hl.mp nd).2 (by simpa using h1) (by simpa using h2) hk
theorem bindC_get{kindOf:Str->Option NameKind}{x:Str}{v:Value}:∀{P:List Str} {vs:List Value} {i:Nat} {m:Str->Option Value},P.Nodup->P[i]? =some x->vs[i]? =some v->kindOf x≠some .local->
  bindC kindOf (P.zip vs) m x=some v
 |[],_,_,_,_,h,_,_=>by simp at h
 |_::_,[],_,_,_,_,h,_=>by simp at h
 |p::P,w::vs,0,m,nd,h1,h2,hk=>by
  simp at h1 h2;subst h1;subst h2
  show bindC kindOf ((p,w)::P.zip vs) m p=_
  unfold bindC
  rw[bindC_out fun v hv=>(Hl.mp nd).1 (wge hv).1,ao hk]
  simp
 |p::P,w::vs,i+1,m,nd,h1,h2,hk=>by
  show bindC kindOf ((p,w)::P.zip vs) m x=_
  unfold bindC
  exact bindC_get (i:=i) (Hl.mp nd).2 (by simpa using h1) (by simpa using h2) hk
def start(N:List Str)(vs:List V):St:=vs.map some++List.replicate (N.length-vs.length) none
def cxOf(CX:CXT)(P:Program)(w:World)(K:W.Frag)(mg:Str->Option Value)(base:Heap)(N:List Str)(qual:Str)(scope:Scope)(f:Addr)(cd:Value)(A:Around)(outer:List Env)(s:Shared)(H:Hp)(E:XK):Cx where
 prog:=P
 w:=w
 K:=K
 mg:=mg
 base:=base
 A:=A.deeper (envOfC qual scope s.heap.objs.size f cd)
 N:=N
 s₀:=s
 H₀:=H
 env:=envOfC qual scope s.heap.objs.size f cd
 outer:=outer
 stack:=envOfC qual scope s.heap.objs.size f cd::outer
 ex:=[]
 calm:=true
 fn:=fun _=>true
 pn:=[]
 xe:=fun e s'=>wpAny (model P w) (A.deeper (envOfC qual scope s.heap.objs.size f cd)) (leaving (envOfC qual scope s.heap.objs.size f cd) e) (fun _ s''=>CX outer H s E e s'') (fun e' s''=>CX outer H s E e' s'') s'
theorem cell_has{sc:Scope}{n:Nat}{x:Str}(h:sc.names.lookup x=some .cell):∃c,(cellsFrom n sc.names []).lookup x=some c:=by
 have q:=wga sc.names n [] (.inl h)
 exact Option.isSome_iff_exists.mp q
theorem inv_start{CX:CXT}{P:Program}{w:World}{K:W.Frag}{mg:Str->Option Value}{base:Heap}{N ps:List Str}{qual:Str}{scope:Scope}{f:Addr}{cd:Value}{A:Around}{outer:List Env}{s s1:Shared}{H:Hp}{E:XK}{us:List Value}{vs:List V}
  (S:FnScope N ps scope)(hd:A.handled=none)(e0:Env0 P w K mg base A outer s H)(hl:vs.length=ps.length)(r:Vals vs us)(x:InCallC s s.heap.objs.size (bindL (envOfC qual scope s.heap.objs.size f cd).kindOf (ps.zip us) fun _=>none) (cellsFrom (s.heap.objs.size+1) scope.names []) (bindC (envOfC qual scope s.heap.objs.size f cd).kindOf (ps.zip us) fun _=>none) s1):
  Inv (cxOf CX P w K mg base N qual scope f cd A outer s H E) [] (start N vs) H s1:=by
 have hpl:ps.length<=N.length:=by have:=jh List.length S.pre;rw[wI]at this;omega
 obtain⟨h1,tk,rfl,hk⟩:=x.done
 have noA:∀b:Addr,b∉(cxOf CX P w K mg base N qual scope f cd A outer s H E).ex:=fun b z=>absurd (show b∈([]:List Addr)from z) (by simp)
 refine⟨⟨e0.mod,S.kind,rfl,rfl,aH _,fun y z c h1 h2=> ?_,fun y hy=> ?_,fun y c _ h=> ?_,fun _=>hd,Around.frames_deeper e0.frames,.inr ⟨rfl,rfl⟩,fun b z=>absurd z (noA b),e0.bs,e0.bsz,fun b _ _=>noA b,fun b z=>absurd z (noA b),e0.funs,e0.frf⟩,
  rfl,e0.bare,Un.kept hk,⟨_,x.toInCall.ns,fun i y v h1 h2 h3=> ?_⟩,fun y c h=>⟨_,x.cell y c h⟩,e0.hok.fresh (aH _),fun y c h=> ?_,fun p hp=>absurd (show p∈([]:List (Addr×Obj))from hp) (by simp),e0.hok.kept hk,?_⟩
 ·exact name_of_addr x.apart (tM h1) (tM h2)
 ·have hy:scope.names.lookup y=some .cell\/scope.names.lookup y=some .free:=hy
  rcases hy with hy|hy
  ·exact cell_has hy
  ·exact absurd rfl (S.nofree _ (tM hy))
 ·exact cQ (x.above y c (tM h))
 ·have hi:i<vs.length:=by
   unfold start at h2
   by_cases hi:i<vs.length
   ·exact hi
   ·rw[Qn (by simpa using hi)]at h2
    rw[List.getElem?_replicate]at h2
    split at h2<;>cases h2
  have ha:vs[i]? =some v:=by
   unfold start at h2
   rw[Vd (by simpa using hi),c7]at h2
   cases e:vs[i]? with
   |none=>rw[e]at h2;cases h2
   |some a=>rw[e]at h2;cases h2;rfl
  obtain⟨u,hu,rv⟩:=r.get ha
  have hp:ps[i]? =some y:=by
   rw[<-S.pre,wez (by omega)];exact h1
  have ndP:ps.Nodup:=by rw[<-S.pre];exact S.nd.sublist (List.take_sublist _ _)
  refine⟨u,rv,?_⟩
  rcases S.par y (lX hp)with k|k
  ·exact .inl ⟨k,bindL_get ndP hp hu k⟩
  ·obtain⟨c,e⟩:=cell_has (n:=s.heap.objs.size+1) k
   refine .inr ⟨.inl k,c,e,?_⟩
   have q:=x.cell y c e
   rw[bindC_get ndP hp hu (by show scope.names.lookup y≠_;rw[k];decide)]at q
   exact q
 ·exact e0.hok.fresh (cQ (x.above y c (tM h)))
 ·unfold start
  show _=N.length
  rw[lW,aG,MN]
  omega
theorem fn_of{CX:CXT}{P:Program}{w:World}{K:W.Frag}{mg:Str->Option Value}{base:Heap}{k:Nat}{f:Addr}{name qual:Str}{params:Arguments}{body:List Stmt}{scope:Scope}{dV kV doc pm cdv ct oc:Value}{an od:Option Addr}{osl:Array (Option Value)}{N ps:List Str}{sp:Sp}(lk:K.lookup f=some ⟨oc,od,.func (PySem.W.fnOf name qual params body scope dV kV doc pm an cdv ct),osl⟩)(hcd:PySem.W.codeIn K cdv qual=true)(S:FnScope N ps scope)(len:∀vs H Q E,sp vs H Q E->vs.length=ps.length)(hbody:∀(A:Around) (outer:List Env) (s:Shared) (H:Hp) (vs:List V) (Q:VK) (E:XK),Room k (A.deeper (envOfC qual scope s.heap.objs.size f cdv))->sp vs H Q E->
   ∃t,PSs (cxOf CX P w K mg base N qual scope f cdv A outer s H E) body t/\t {nx:=fun _ H'=>Q .non H',rt:=Q} (start N vs) H):
  FnOk P w K mg base CX (k+1) f (PySem.W.fnOf name qual params body scope dV kV doc pm an cdv ct) ps sp:=by
 refine⟨len,fun A outer s H args us vs Q E hr e0 hb r hsp=> ?_⟩
 have hl:=len _ _ _ _ hsp
 have KX:K.In s.heap:=e0.mod.kin.keeps fun b o e=>(e0.bs b o e).1
 have lim:s.heap.NoLimit:=e0.mod.nolimit.keeps fun b o e=>(e0.bs b o e).1
 have hkind:∀y∈ps.zip us,scope.names.lookup y.1=some .local\/(scope.names.lookup y.1=some .cell/\((cellsFrom (s.heap.objs.size+1) scope.names []).lookup y.1).isSome=true):=fun⟨n,v⟩ hy=>by
  rcases S.par n (wge hy).1 with q|q
  ·exact .inl q
  ·exact .inr ⟨q,wga _ _ _ (.inl q)⟩
 refine codeAny_call_function hr.depth (KX _ _ lk) rfl S.co S.gen rfl (PySem.W.codeRec_of KX hcd) (hb _ _ _ _ ?_)
 refine wpAny_newFunctionEnv_cells S.kind hkind fun env he s1 x=> ?_
 subst he
 refine⟨lim.keeps x.toInCall.keep,codeAny_func ?_⟩
 obtain⟨t,ht,hq⟩:=hbody A outer s H vs Q E (hr.deeper _) hsp
 have I:Inv (cxOf CX P w K mg base N qual scope f cdv A outer s H E) [] (start N vs) H s1:=inv_start S hr.hd e0 hl r x
 refine zT (ht [] s1 (start N vs) H _ I hq) (fun fl s' hs=> ?_) fun e s' hs=>hs
 have fin:∀{σ':St} {H':Hp} {v:V} {u:Value},Inv (cxOf CX P w K mg base N qual scope f cdv A outer s H E) [] σ' H' s'->RelV v u->Q v H'->CE outer P w H s Q u s':=
  fun{σ' H' v u} J rv q=>⟨v,H',J.os,J.bare,J.base,J.hok,rv,q⟩
 cases fl with
 |ret u=>
  obtain⟨v,σ',H',J,rv,q⟩:=hs
  exact fin J rv q
 |next=>
  obtain⟨σ',H',J,q⟩:=hs
  exact fin (v:=V.non) (u:=Value.none) J rfl q
 |brk=>
  obtain⟨_,_,_,q⟩:=hs
  exact False.elim q
 |cont=>
  obtain⟨_,_,_,q⟩:=hs
  exact False.elim q
section
variable{X:Cx}{x:Str}{p pos:Pos}{e:Expr}{es:List Expr}{t:TA}{id T:String}{r:List V->Hp->VK->Prop}
def tCB(r:List V->Hp->VK->Prop)(t:TA):TE:=fun σ H Q=>t σ H fun vs H1=>r vs H1 Q
theorem fW(hc:CallR X (.builtin id) r)(hg:Gl X x)(hm:X.mg x=none)(hv:bootBuiltins x=some (.builtin id))(ha:PA X (e::es) t)(hn:x≠"__name__":=by decide)(hdb:(x==("__debug__":Str))=false:=by decide)(he:starEach (e::es) X.env=(false,eval e X.env)::starEach es X.env:=by rfl)(hpl:(backTo pos (starEach es X.env)).any (·.1)=false:=by rfl):PE X (.Call (.Name x p) (e::es) [] pos) (tCB r t):=by
 intro pins s σ H Q I h
 refine Mt (wC I hg hm hv ?_ hn hdb)
 exact wcg (thn (ha pos pins s σ H _ I h) fun us s1 ⟨vs,H1,I1,r1,q1⟩=>hc pins s1 σ H1 vs us Q I1 r1 q1) he hpl
theorem Hx(hc:CallR X (.type T) r)(hg:Gl X x)(hm:X.mg x=none)(hv:bootBuiltins x=some (.type T))(ha:PA X (e::es) t)(hn:x≠"__name__":=by decide)(hdb:(x==("__debug__":Str))=false:=by decide)(he:starEach (e::es) X.env=(false,eval e X.env)::starEach es X.env:=by rfl)(hpl:(backTo pos (starEach es X.env)).any (·.1)=false:=by rfl):PE X (.Call (.Name x p) (e::es) [] pos) (tCB r t):=by
 intro pins s σ H Q I h
 refine Mt (wC I hg hm hv ?_ hn hdb)
 exact Ez (thn (ha pos pins s σ H _ I h) fun us s1 ⟨vs,H1,I1,r1,q1⟩=>hc pins s1 σ H1 vs us Q I1 r1 q1) he hpl
end
end L2
namespace HT
open PySem PyProof.Rows
def lexLt:List Int->List Int->Bool
 |[],[]=>false
 |[],_::_=>true
 |_::_,[]=>false
 |x::xs,y::ys=>if x=y then lexLt xs ys else decide (x<y)
theorem lexLt_cons(x y:Int)(xs ys:List Int):lexLt (x::xs) (y::ys)=if x=y then lexLt xs ys else decide (x<y):=rfl
theorem lexLt_nil_nil:lexLt [] []=false:=rfl
theorem lexLt_nil_cons(y:Int)(ys:List Int):lexLt [] (y::ys)=true:=rfl
theorem lexLt_cons_nil(x:Int)(xs:List Int):lexLt (x::xs) []=false:=rfl
theorem eqAt_int(A:Around)(s:Shared)(a:Int)(t:Tok)(c:Int)(u:Tok):∃e,SeqAt.EqAt A s (.int a t) (.int c u) e/\(e=true↔a=c):=
 ⟨(a==c),SeqAt.EqAt.int_int a t c u,by simp⟩
theorem rcLt_int(A:Around)(s:Shared)(a:Int)(t:Tok)(c:Int)(u:Tok)(prog:Program)(w:World)(E:Value->Shared->Prop)(Q:Value->Shared->Prop)(h:Q (.bool (decide (a<c))) s):
  wpAny (model prog w) A (richCompare .Lt (.int a t) (.int c u)) Q E s:=
 (PyProof.Rows.lt_int h:wpAny (model prog w) A (compareOp .Lt (.int a t) (.int c u)) Q E s)
section
open PySem.SeqAt
open PySem.AutoSeq1 (wpAny_loadPart')
open PySem.MeetsSeq PySem.MeetsSeq2 PySem.MeetsSeq3
theorem tuple_lt_ints(l b:Addr)(items items2:Array Value)(n n2:Nat)(dd dd2:Option Addr)(sl sl2:Array (Option Value))(ns ms:List Int)(hi:IntsAre items.toList ns)(hj:IntsAre items2.toList ms):
  Meets (Builtin.«tuple.__lt__» ⟨[.ref l,.ref b],[]⟩)
   (fun _ R s=>s.heap.get? l=some {cls:= .type "tuple",dict:=dd,data:= .seq items n,slots:=sl}/\s.heap.get? b=some {cls:= .type "tuple",dict:=dd2,data:= .seq items2 n2,slots:=sl2}/\
    R (.ok (.ret (.bool (lexLt ns ms)))) s):=
 .of_wp fun prog w A R s h=>by
  obtain⟨hp,g,d,tk,os⟩:=s;obtain⟨hl,hb,h⟩:=h
  have f2:=AutoSeq1.sub_tuple_tuple
  have z1:items.size=ns.length:=by rw[<-hi.length];simp
  have z2:items2.size=ms.length:=by rw[<-hj.length];simp
  wp_walk using wpAny_loadPart' hl,wpAny_loadPart' hb,wpAny_forIn_list _ (fun rest b s'=>b.1=none/\s'=⟨hp,g,d,tk,os⟩/\∃(vs ws:List Value) (ns' ms':List Int),rest=vs.zip ws/\
   IntsAre vs ns'/\IntsAre ws ms'/\ns'.length+items2.size=ms'.length+items.size/\R (.ok (.ret (.bool (lexLt ns' ms')))) ⟨hp,g,d,tk,os⟩) _
  case turn=>
   rintro⟨y,x⟩ rest b s' ⟨hb',rfl,vs,ws,ns',ms',hz,hvi,hwi,hlen,hR⟩
   cases hvi with
   |nil=>rw[List.zip_nil_left]at hz;cases hz
   |cons a t hvi'=>
    cases hwi with
    |nil=>rw[List.zip_nil_right]at hz;cases hz
    |cons c u hwi'=>
     rw[wen]at hz
     injection hz with hyx hrest
     injection hyx with hy hx
     subst hy hx
     rw[lexLt_cons]at hR
     simp only[qx]at hlen
     obtain⟨e,he,hiff⟩:=eqAt_int A.in1 ⟨hp,g,d,tk,os⟩ a t c u
     refine ak (he prog w _ _ ?_)
     cases e with
     |true=>
      rw[au (hiff.mp rfl)]at hR
      wp_walk
      exact⟨rfl,rfl,_,_,_,_,hrest,hvi',hwi',by omega,hR⟩
     |false=>
      rw[ao (fun q=>absurd (hiff.mpr q) qC)]at hR
      have hri:=rcLt_int A.in1 ⟨hp,g,d,tk,os⟩ a t c u prog w
      wp_walk using hri
      exact⟨_,rfl,by simpa using hR⟩
  case fin=>
   rintro⟨b1,b2⟩ s' ⟨hb',rfl,vs,ws,ns',ms',hz,hvi,hwi,hlen,hR⟩
   simp only at hb'
   subst hb'
   have hv:lexLt ns' ms'=decide (items.size<items2.size):=by
    cases hvi with
    |nil=>
     cases hwi with
     |nil=>
      simp only[Mj]at hlen
      rw[lexLt_nil_nil]
      exact(jN (by omega)).symm
     |cons c u hw=>
      simp only[Mj,qx]at hlen
      rw[lexLt_nil_cons]
      exact(fj (by omega)).symm
    |cons a t hv=>
     cases hwi with
     |nil=>
      simp only[Mj,qx]at hlen
      rw[lexLt_cons_nil]
      exact(jN (by omega)).symm
     |cons c u hw=>
      rw[wen]at hz
      cases hz
   rw[hv]at hR
   wp_walk
   exact⟨_,rfl,by simpa[Builtin.Tuple.tupleCompareSizes]using hR⟩
  case h=>
   exact⟨rfl,rfl,items.toList,items2.toList,ns,ms,rfl,hi,hj,by omega,h⟩
end
section
variable{prog:Program}{w:World}{A:Around}{E:Value->Shared->Prop}{s:Shared}
theorem lt_tupInts{l b:Addr}{items items2:Array Value}{ns ms:List Int}{Q:Value->Shared->Prop}(hl:IsTup s.heap l items)(hb:IsTup s.heap b items2)(hi:IntsAre items.toList ns)(hj:IntsAre items2.toList ms)(hu:A.units<cLine)(h:Q (.bool (lexLt ns ms)) s):wpAny (model prog w) A (compareOp .Lt (.ref l) (.ref b)) Q E s:=by
 obtain⟨⟨cls,dd,data,sl⟩,ho,hc,n,hd⟩:=id hl
 obtain⟨⟨cls2,dd2,data2,sl2⟩,ho2,hc2,n2,hd2⟩:=id hb
 simp only at hc hd hc2 hd2
 subst hc hd hc2 hd2
 exact richCompare_meets_room (op:= .Lt) ⟨_,ho,rfl⟩ ⟨_,ho2,rfl⟩ PySem.F.slot_tuple_lt PySem.F.entry_tuple_lt (PySem.F.args_tuple_lt_2 _ _) (tuple_lt_ints l b items items2 n n2 dd dd2 sl sl2 ns ms hi hj)
  ⟨ho,ho2,show Value.bool (lexLt ns ms)≠Value.notImplemented/\Q (.bool (lexLt ns ms)) s from⟨(fun x=>nomatch x),h⟩⟩ hu
theorem cat_tup{t b:Addr}{vs ws:List Value}{Q:Value->Shared->Prop}(ht:IsTup s.heap t vs.toArray)(hb:IsTup s.heap b ws.toArray)(hv:vs≠[])(h1:ws=[]->Q (.ref t) s)(h2:ws≠[]->Q (.ref s.heap.objs.size) {s with heap:=s.heap.push {cls:= .type "tuple",data:= .seq (vs++ws).toArray}})(hsz:vs.length+ws.length<=sizeLine):wpAny (model prog w) A (binaryOp .Add (.ref t) (.ref b)) Q E s:=by
 obtain⟨⟨cls,dd,data,sl⟩,ho,hc,n,hd⟩:=id ht
 obtain⟨⟨cls2,dd2,data2,sl2⟩,ho2,hc2,n2,hd2⟩:=id hb
 simp only at hc hd hc2 hd2
 subst hc hd hc2 hd2
 have e:vs.toArray++ws.toArray=(vs++ws).toArray:=by simp
 by_cases hw:ws=[]
 ·exact ZW ⟨_,ho,rfl⟩ ⟨_,ho2,rfl⟩ wdo Z6 wck wch (wby _ _)
   (tuple_addW1 t b vs.toArray ws.toArray n n2 dd dd2 sl sl2 (by simpa using hv) (by simp[hw])) ⟨ho,ho2,h1 hw⟩
 ·refine ZW ⟨_,ho,rfl⟩ ⟨_,ho2,rfl⟩ wdo Z6 wck wch (wby _ _)
   (tuple_addW2 t b vs.toArray ws.toArray n n2 dd dd2 sl sl2 (by simpa using hv) (by simpa using hw) (by rw[eU,eU];exact hsz)) ⟨ho,ho2,?_⟩
  rw[e]
  exact h2 hw
def sIx(n d:Nat):Option Int->Nat
 |none=>d
 |some v=>if v<0 then(v+(n:Int)).toNat else min v.toNat n
theorem sIx_none(n d:Nat):sIx n d none=d:=rfl
theorem sIx_nat(n d k:Nat):sIx n d (some (k:Int))=min k n:=by
 show(if(k:Int)<0 then((k:Int)+(n:Int)).toNat else min (k:Int).toNat n)=min k n
 rw[ao (by omega),zQ]
theorem sIx_le(n d:Nat)(hd:d<=n)(o:Option Int):sIx n d o<=n:=by
 cases o with
 |none=>exact hd
 |some v=>
  show(if v<0 then(v+(n:Int)).toNat else min v.toNat n)<=n
  by_cases hv:v<0
  ·rw[au hv];omega
  ·rw[ao hv];exact Nat.min_le_right _ _
theorem clip_eq(v:Int)(n d:Nat):(if v<0 then max (v+(n:Int)) 0 else min v (n:Int))=((sIx n d (some v):Nat):Int):=by
 show(if v<0 then max (v+(n:Int)) 0 else min v (n:Int))=(((if v<0 then(v+(n:Int)).toNat else min v.toNat n):Nat):Int)
 by_cases hv:v<0
 ·simp only[au hv];omega
 ·simp only[ao hv];omega
theorem adjust_gen(lo hi:Option Int)(n:Nat):Builtin.Slice.sliceAdjust lo hi 1 (n:Int)=(((sIx n 0 lo:Nat):Int),((sIx n n hi:Nat):Int)):=by
 have h1:¬((1:Int)<0):=by omega
 unfold Builtin.Slice.sliceAdjust
 simp only[h1,Rt]
 refine Prod.ext ?_ ?_
 ·cases lo with
  |none=>rfl
  |some v=>exact clip_eq v n 0
 ·cases hi with
  |none=>rfl
  |some v=>exact clip_eq v n n
theorem places_gen(i j:Nat):Builtin.Slice.slicePlaces (i:Int) (j:Int) 1=j-i:=by
 unfold Builtin.Slice.slicePlaces
 have h1:(1:Int)>0:=by omega
 simp only[h1,Rr,Int.ediv_one]
 split<;>omega
theorem slicePart_{v:Value}{o:Option Int}{Q:Option Int->Shared->Prop}(p:IsPart v o)(h:Q o s):wpAny (model prog w) A (Builtin.Slice.slicePartIndex v) Q E s:=by
 cases p with
 |none=>exact slicePart_none h
 |int i t=>exact slicePart_int h
theorem sliceApplied_gen{sl:Addr}{vl vu:Value}{lo hi:Option Int}{n:Nat}{Q:Int×Int×Nat->Shared->Prop}(hs:s.heap.IsSliceOf sl vl vu .none)(pl:IsPart vl lo)(pu:IsPart vu hi)(h:Q (((sIx n 0 lo:Nat):Int),1,sIx n n hi-sIx n 0 lo) s):wpAny (model prog w) A (Builtin.Slice.sliceApplied (.ref sl) (pure (n:Int))) Q E s:=by
 obtain⟨os,hos,hcs,hds⟩:=id hs
 unfold Builtin.Slice.sliceApplied Builtin.Slice.sliceFields
 refine ak (ak (Rv hos hds (x:=vl) rfl (ak (Rv hos hds (x:=vu) rfl (ak (Rv hos hds (x:= .none) rfl (aF ?_)))))))
 refine ak (slicePart_none ?_)
 show wpAny _ _ (if((1:Int)==0)=true then _ else _) _ _ s
 rw[ao (by decide)]
 refine ak (slicePart_ pl (ak (slicePart_ pu (ak (aF ?_)))))
 show wpAny _ _ (match Builtin.Slice.sliceAdjust lo hi 1 (n:Int)with |(lo,hi)=>pure (lo,(1:Int),Builtin.Slice.slicePlaces lo hi 1)) _ _ s
 rw[adjust_gen lo hi n]
 show wpAny _ _ (pure (((sIx n 0 lo:Nat):Int),(1:Int),Builtin.Slice.slicePlaces ((sIx n 0 lo:Nat):Int) ((sIx n n hi:Nat):Int) 1)) _ _ s
 rw[places_gen]
 exact aF h
theorem pick_gen(xs:Array Value)(i k:Nat):((List.range k).filterMap fun(m:Nat)=>xs[((i:Int)+(m:Int)*1).toNat]?).toArray=((xs.toList.drop i).take k).toArray:=by
 have e:(fun(m:Nat)=>xs[((i:Int)+(m:Int)*1).toNat]?)=fun m=>xs[i+m]? :=by
  funext m
  have:((i:Int)+(m:Int)*1).toNat=i+m:=by omega
  rw[this]
 rw[e]
 have:=pick_run xs i k
 rw[List.filterMap_map]at this
 have e2:((fun x=>xs[x]?)∘fun x=>i+x)=fun m=>xs[i+m]? :=rfl
 rw[e2]at this
 rw[this]
theorem getItem_tuple_cut{t sl:Addr}{items:Array Value}{vl vu:Value}{lo hi:Option Int}{Q:Value->Shared->Prop}(ht:IsTup s.heap t items)(hs:s.heap.IsSliceOf sl vl vu .none)(pl:IsPart vl lo)(pu:IsPart vu hi)(hw:¬(sIx items.size 0 lo=0/\sIx items.size items.size hi=items.size))(h:Q (.ref s.heap.objs.size) {s with heap:=s.heap.push {cls:= .type "tuple",data:= .seq ((items.toList.drop (sIx items.size 0 lo)).take (sIx items.size items.size hi-sIx items.size 0 lo)).toArray}})(hsz:items.size<=sizeLine):wpAny (model prog w) A (getItem (.ref t) (.ref sl)) Q E s:=by
 have htake:sizeOk (.seq ((items.toList.drop (sIx items.size 0 lo)).take (sIx items.size items.size hi-sIx items.size 0 lo)).toArray):=by
  show((items.toList.drop (sIx items.size 0 lo)).take (sIx items.size items.size hi-sIx items.size 0 lo)).toArray.size<=sizeLine
  rw[eU,wI,U5,sO]
  omega
 have hj:sIx items.size items.size hi<=items.size:=sIx_le _ _ (aH _) hi
 obtain⟨os,hos,hcs,hds⟩:=id hs
 have hTs:s.TypeIs (.ref sl) "slice":=⟨os,hos,hcs⟩
 unfold getItem
 try with_reducible refine uM ?_
 first |refine ak (aF ?_)|skip
 refine ak (wpAny_sequenceKey ht.typeIs (by decide) ?_)
 refine ak (Qv (name:=Str.ofString "__getitem__") ht.typeIs wbl
  (Dd wbl ht.typeIs entry_tuple_getitem ?_ (args_tuple_getitem _ _)))
 show wpAny _ _ (Builtin.Tuple.tupleItemsOf (.ref t)>>=_) _ _ s
 refine ak (tupleItemsOf_ ht ?_)
 refine ak (Rw hTs ?_)
 rw[au (by decide)]
 refine ak (sliceApplied_gen hs pl pu ?_)
 have hno:¬((((sIx items.size 0 lo:Nat):Int)==0&&(1:Int)==1&&(sIx items.size items.size hi-sIx items.size 0 lo)==items.size)=true):=by
  intro q
  rw[Dc,Dc]at q
  have q1:((sIx items.size 0 lo:Nat):Int)=0:=eq_of_beq q.1.1
  have q2:sIx items.size items.size hi-sIx items.size 0 lo=items.size:=eq_of_beq q.2
  exact hw ⟨by omega,by omega⟩
 show wpAny _ _ (if(((sIx items.size 0 lo:Nat):Int)==0&&(1:Int)==1&&(sIx items.size items.size hi-sIx items.size 0 lo)==items.size)=true then _ else _) _ _ s
 rw[ao hno,pick_gen]
 first
  |exact ak (m:=Builtin.Tuple.tupleExact _) (wK (aF ⟨_,rfl,aF h⟩) htake)
  |exact ak (m:=Builtin.Tuple.tupleExact _) (wK (ak (aF (aF ⟨_,rfl,aF h⟩))) htake)
  |exact ak (ak (m:=Builtin.Tuple.tupleExact _) (wK (aF (aF ⟨_,rfl,aF h⟩)) htake))
  |exact ak (ak (m:=Builtin.Tuple.tupleExact _) (wK (aF ⟨_,rfl,aF h⟩) htake))
end
end HT
namespace L2
open PySem PySem.Spec PyProof.Rows
abbrev TO:=St->Hp->(Option Int->Hp->Prop)->Prop
def PO(X:Cx)(e:Option Expr)(t:TO):Prop:=
 ∀(pins:List (Addr×Obj)) (s:Shared) (σ:St) (H:Hp) (Q:Option Int->Hp->Prop),Inv X pins σ H s->t σ H Q->
  wpAny (model X.prog X.w) X.A (evalPart e X.env) (fun u s'=>∃o H',Inv X pins σ H' s'/\IsPart u o/\Q o H') X.xe s
def tNoPart:TO:=fun _ H Q=>Q none H
def tPart(t:TE):TO:=fun σ H Q=>t σ H fun x H1=>∃i,x= .int i/\Q (some i) H1
theorem intsAre_of{ns:List Int}:∀{us:List Value},Vals (ns.map V.int) us->IntsAre us ns:=by
 induction ns with
 |nil=>intro us r;rw[ZV]at r;cases r;exact .nil
 |cons n ns ih=>
  intro us r
  rw[wU]at r
  cases r with
  |cons r1 r2=>
   obtain⟨t,e⟩:=r1
   subst e
   exact .cons n t (ih r2)
section
variable{X:Cx}{e:Expr}{te:TE}{lo hi:Option Expr}{tl th:TO}{pos p2:Pos}
theorem po_none:PO X none tNoPart:=by
 intro pins s σ H Q I h
 rw[evalPart_none]
 exact aF ⟨none,H,I,.none,h⟩
theorem po_some(h:PE X e te):PO X (some e) (tPart te):=by
 intro pins s σ H Q I hw
 rw[evalPart_some]
 refine thn (h pins s σ H _ I hw) fun u s1 ⟨x,H1,I1,r1,q1⟩=> ?_
 obtain⟨i,rfl,q⟩:=q1
 obtain⟨t,rfl⟩:=r1
 exact⟨some i,H1,I1,.int i t,q⟩
def SlR(X:Cx)(r:V->Option Int->Option Int->Hp->VK->Prop):Prop:=
 ∀(pins:List (Addr×Obj)) (s:Shared) (σ:St) (H:Hp) (x:V) (v vl vu:Value) (lo hi:Option Int) (sl:Addr) (Q:VK),Inv X pins σ H s->RelV x v->s.heap.IsSliceOf sl vl vu .none->IsPart vl lo->IsPart vu hi->r x lo hi H Q->
  ∃T id,typeLookup (.type T) "__getitem__"=pure (some (.builtin id))/\s.TypeIs v T/\wpAny (model X.prog X.w) X.A (getItem v (.ref sl)) (EP X pins σ Q) X.xe s
def tSl(r:V->Option Int->Option Int->Hp->VK->Prop)(te:TE)(tl th:TO):TE:=fun σ H Q=>te σ H fun x H1=>tl σ H1 fun l H2=>th σ H2 fun u H3=>r x l u H3 Q
theorem pe_slice{r:V->Option Int->Option Int->Hp->VK->Prop}(hr:SlR X r)(he:PE X e te)(hl:PO X lo tl)(hu:PO X hi th):PE X (.Subscript e (.Slice lo hi none p2) pos) (tSl r te tl th):=by
 intro pins s σ H Q I h
 refine Subscript_ (thn (he pins s σ H _ I h) fun v s1 ⟨x,H1,I1,r1,q1⟩=> ?_)
 refine wpAny_Slice (thn (hl pins s1 σ H1 _ I1 q1) fun vl s2 ⟨l,H2,I2,pl,q2⟩=>thn (hu pins s2 σ H2 _ I2 q2) fun vu s3 ⟨u,H3,I3,pu,q3⟩=> ?_)
 rw[evalPart_none]
 refine aF ?_
 have I4:Inv X pins σ H3 {s3 with heap:=s3.heap.push {cls:= .type "slice",data:= .fields #[vl,vu,.none]}}:=I3.kept (t':=s3.toks) fun b ob q=>cM _ q
 obtain⟨T,id,hT,ht,hg⟩:=hr pins {s3 with heap:=s3.heap.push {cls:= .type "slice",data:= .fields #[vl,vu,.none]}} σ H3 x v vl vu l u s3.heap.objs.size Q I4 r1 (Heap.IsSliceOf.new ..) pl pu q3
 show wpAny (model X.prog X.w) X.A (subscriptTail e (.Slice lo hi none p2) v (.ref s3.heap.objs.size)) (EP X pins σ Q) X.xe {s3 with heap:=s3.heap.push {cls:= .type "slice",data:= .fields #[vl,vu,.none]}}
 exact tail_any (ops:=[.ref s3.heap.objs.size,v]) ht hT hg (by with_unfolding_all rfl)
def cutV(xs:List V)(lo hi:Option Int):List V:=(xs.drop (HT.sIx xs.length 0 lo)).take (HT.sIx xs.length xs.length hi-HT.sIx xs.length 0 lo)
theorem cutV_length(xs:List V)(lo hi:Option Int):(cutV xs lo hi).length<=xs.length:=by
 unfold cutV
 rw[wI,U5]
 omega
def rSlT(K:W.Frag):V->Option Int->Option Int->Hp->VK->Prop:=fun x lo hi H Q=>∃a xs,x= .ref a/\SqT K H a xs/\
 ¬(HT.sIx xs.length 0 lo=0/\HT.sIx xs.length xs.length hi=xs.length)/\∀p,H p=none->Q (.ref p) (upd H p (.tup (cutV xs lo hi)))
theorem sl_tup:SlR X (rSlT X.K):=by
 intro pins s σ H x v vl vu lo hi sl Q I rx hs pl pu h
 obtain⟨a,xs,rfl,hx,hw,q⟩:=h
 cases rx
 obtain⟨its,r,ht,hz⟩:=I.tuple hx
 have hlen:its.toArray.size=xs.length:=by rw[eU];exact r.length.symm
 refine⟨"tuple",_,PyProof.Rows.slot_tuple_getitem.lookup,ht.typeIs,?_⟩
 refine HT.getItem_tuple_cut ht hs pl pu (by rw[hlen];exact hw) ?_ (by rw[hlen];exact hz)
 rw[hlen]
 refine⟨.ref s.heap.objs.size,_,I.laid (t':=s.toks) (o:= .tup (cutV xs lo hi)) (fun b ob q=>cM _ q) (aH _) ?_,rfl,q _ (I.hok.fresh (aH _))⟩
 exact⟨eO (cutV_length xs lo hi) hz,_,(r.drop (HT.sIx xs.length 0 lo)).take (HT.sIx xs.length xs.length hi-HT.sIx xs.length 0 lo),Vg _ _⟩
def rLtT(K:W.Frag):R2:=fun x y H Q=>∃a b ns ms,x= .ref a/\y= .ref b/\SqT K H a (ns.map V.int)/\SqT K H b (ms.map V.int)/\Q (.bl (HT.lexLt ns ms)) H
theorem op_ltT(hu:X.A.units<cLine):OpR X (compareOp .Lt) (rLtT X.K):=by
 intro pins s σ H x y v u Q I rx ry h
 obtain⟨a,b,ns,ms,rfl,rfl,ha,hb,q⟩:=h
 cases rx
 cases ry
 obtain⟨its,r1,p1,_⟩:=I.tuple ha
 obtain⟨its2,r2,p2,_⟩:=I.tuple hb
 have i1:IntsAre its.toArray.toList ns:=intsAre_of r1
 have i2:IntsAre its2.toArray.toList ms:=intsAre_of r2
 exact HT.lt_tupInts p1 p2 i1 i2 hu ⟨.bl (HT.lexLt ns ms),H,I,rfl,q⟩
def rCatT(K:W.Frag):R2:=fun x y H Q=>∃a b xs ys,x= .ref a/\y= .ref b/\SqT K H a xs/\SqT K H b ys/\xs≠[]/\xs.length+ys.length<=sizeLine/\
 (ys=[]->Q (.ref a) H)/\(ys≠[]->∀p,H p=none->Q (.ref p) (upd H p (.tup (xs++ys))))
theorem Vals.nil_iff{xs:List V}{us:List Value}(r:Vals xs us):us=[]↔xs=[]:=by
 cases r with
 |nil=>simp
 |cons _ _=>simp
theorem op_catT:OpR X (binaryOp .Add) (rCatT X.K):=by
 intro pins s σ H x y v u Q I rx ry h
 obtain⟨a,b,xs,ys,rfl,rfl,ha,hb,hx,hz,q1,q2⟩:=h
 cases rx
 cases ry
 obtain⟨its,r1,p1,_⟩:=I.tuple ha
 obtain⟨its2,r2,p2,_⟩:=I.tuple hb
 refine HT.cat_tup p1 p2 (fun z=>hx (r1.nil_iff.mp z)) (fun z=>⟨.ref a,H,I,rfl,q1 (r2.nil_iff.mp z)⟩) (fun z=> ?_) (by rw[<-r1.length,<-r2.length];exact hz)
 refine⟨.ref s.heap.objs.size,_,I.laid (t':=s.toks) (o:= .tup (xs++ys)) (fun b ob q=>cM _ q) (aH _) ?_,rfl,q2 (fun w=>z (r2.nil_iff.mpr w)) _ (I.hok.fresh (aH _))⟩
 exact⟨by rw[lW];exact hz,_,r1.append r2,Vg _ _⟩
end
def ixN(n:Nat)(i:Int):Option Nat:=if 0<=i then(if i<n then some i.toNat else none)else if -(n:Int)<=i then some (i+n).toNat else none
def atI{α:Type}(xs:List α)(i:Int):Option α:=(ixN xs.length i).bind fun j=>xs[j]?
theorem ixN_seq{n:Nat}{i:Int}{j:Nat}(h:ixN n i=some j):seqIndex? i n=some j/\j<n/\ -(n:Int)<=i/\i<n:=by
 unfold ixN at h
 by_cases h0:0<=i
 ·rw[au h0]at h
  by_cases h1:i<n
  ·rw[au h1]at h
   have e:i.toNat=j:=p8 h
   exact⟨by rw[seqIndex_of h0 h1,e],by omega,by omega,h1⟩
  ·rw[ao h1]at h;cases h
 ·rw[ao h0]at h
  by_cases h1: -(n:Int)<=i
  ·rw[au h1]at h
   have e:(i+n).toNat=j:=p8 h
   exact⟨by rw[seqIndex_neg (by omega) h1,e],by omega,h1,by omega⟩
  ·rw[ao h1]at h;cases h
theorem atI_get{α:Type}{xs:List α}{i:Int}{v:α}(h:atI xs i=some v):∃j,seqIndex? i xs.length=some j/\xs[j]? =some v/\j<xs.length/\ -(xs.length:Int)<=i/\i<xs.length:=by
 unfold atI at h
 cases e:ixN xs.length i with
 |none=>rw[e]at h;cases h
 |some j=>
  rw[e]at h
  obtain⟨h1,h2,h3,h4⟩:=ixN_seq e
  exact⟨j,h1,h,h2,h3,h4⟩
theorem atI_nat{α:Type}{xs:List α}{j:Nat}{v:α}(h:xs[j]? =some v):atI xs (j:Int)=some v:=by
 have hj:j<xs.length:=(qy.mp h).1
 have e:ixN xs.length (j:Int)=some j:=by
  unfold ixN
  rw[au (by omega),au (by omega)];simp
 unfold atI;rw[e];exact h
def PlainIx(b:Expr):Prop:=∀o i,subscripted b false o i=operate [o,i] (getItem o i)
def IxR(X:Cx)(r:R2):Prop:=
 ∀(value slice:Expr) (pins:List (Addr×Obj)) (s:Shared) (σ:St) (H:Hp) (x y:V) (v u:Value) (Q:VK),Inv X pins σ H s->RelV x v->RelV y u->r x y H Q->
  subscripted slice false v u=operate [v,u] (getItem v u)->wpAny (model X.prog X.w) X.A (subscriptTail value slice v u) (EP X pins σ Q) X.xe s
def MtR(X:Cx)(id:String)(r:V->List V->Hp->VK->Prop):Prop:=
 ∀(pins:List (Addr×Obj)) (s:Shared) (σ:St) (H:Hp) (x:V) (xs:List V) (v:Value) (us:List Value) (Q:VK),Inv X pins σ H s->RelV x v->Vals xs us->r x xs H Q->
  wpAny (model X.prog X.w) X.A (call (.builtin id) (v::us)) (EP X pins σ Q) X.xe s
section
variable{X:Cx}{a b:Expr}{ta tb:TE}{pos:Pos}
theorem bM{r:R2}(hr:IxR X r)(ha:PE X a ta)(hb:PE X b tb)(hs:PlainIx b):PE X (.Subscript a b pos) (tOp r ta tb):=by
 intro pins s σ H Q I h
 exact Subscript_ (binT ha hb I h fun v u s2 x y H2 I2 rx ry q=>hr a b pins s2 σ H2 x y v u Q I2 rx ry q (hs _ _))
def rIxL(K:W.Frag):R2:=fun x y H Q=>∃p xs i v,x= .ref p/\y= .int i/\SqL K H p xs/\atI xs i=some v/\Q v H
def rIxT(K:W.Frag):R2:=fun x y H Q=>∃p xs i v,x= .ref p/\y= .int i/\SqT K H p xs/\atI xs i=some v/\Q v H
theorem nO:IxR X (rIxL X.K):=by
 intro value slice pins s σ H x y v u Q I rx ry h hs
 obtain⟨p,xs,i,z,rfl,rfl,hq,he,q⟩:=h
 cases rx
 obtain⟨t,rfl⟩:=ry
 obtain⟨its,r,pl,hz⟩:=I.list hq
 obtain⟨j,h1,h2,h3,h4,h5⟩:=atI_get he
 obtain⟨w,ew,rw'⟩:=r.get h2
 have hl:=r.length
 have hn:=line63
 have fin:EP X pins σ Q w s:=⟨z,H,I,rw',q⟩
 by_cases h0:0<=i
 ·have hj:i.toNat=j:=by
   rw[seqIndex_of h0 h5]at h1
   exact p8 h1
  exact item_listR pl.isList h0 (by omega) (by rw[hj];simpa using ew) fin hs
 ·have hj:(i+(its.toArray.size:Int)).toNat=j:=by
   rw[seqIndex_neg (by omega) h4]at h1
   rw[eU,<-hl]
   exact p8 h1
  exact subscriptTail_builtinR (x:=w) pl.isList.typeIs slot_list_getitem.lookup
   (wpAny_getItem_list_neg (Q:=fun r s'=>r=w/\EP X pins σ Q r s') pl.isList (by omega) (by rw[eU]<;>omega) (by omega) (by rw[hj];simpa using ew) ⟨rfl,fin⟩) hs
theorem gO:IxR X (rIxT X.K):=by
 intro value slice pins s σ H x y v u Q I rx ry h hs
 obtain⟨p,xs,i,z,rfl,rfl,hq,he,q⟩:=h
 cases rx
 obtain⟨t,rfl⟩:=ry
 obtain⟨its,r,pl,hz⟩:=I.tuple hq
 obtain⟨j,h1,h2,h3,h4,h5⟩:=atI_get he
 obtain⟨w,ew,rw'⟩:=r.get h2
 have hl:=r.length
 have hn:=line63
 have fin:EP X pins σ Q w s:=⟨z,H,I,rw',q⟩
 exact subscriptTail_builtinR (x:=w) pl.typeIs slot_tuple_getitem.lookup
  (getItem_tuple (j:=j) (Q:=fun r s'=>r=w/\EP X pins σ Q r s') pl (by omega) (by omega) (by rw[eU,<-hl];exact h1) (by simpa using ew) ⟨rfl,fin⟩) hs
theorem mapSeq_set(its:List Value)(n j:Nat)(u:Value):Obj.mapSeq (·.setIfInBounds j u) {cls:= .type "list",data:= .seq its.toArray n}={cls:= .type "list",data:= .seq (its.set j u).toArray n}:=by
 simp[Obj.mapSeq]
theorem Inv.lst{pins:List (Addr×Obj)}{σ:St}{H:Hp}{s:Shared}{p:Addr}{xs:List V}(I:Inv X pins σ H s)(h:H p=some (.lst xs)):
  ∃(its:List Value) (n:Nat),Vals xs its/\s.heap.get? p=some {cls:= .type "list",data:= .seq its.toArray n}/\xs.length<=sizeLine:=by
 obtain⟨z,its,n,r,e⟩:=I.hok p _ h
 exact⟨its,n,r,e,z⟩
theorem Inv.lstUpd{pins:List (Addr×Obj)}{σ:St}{H:Hp}{s:Shared}{p:Addr}{xs ys:List V}{its its':List Value}{n n':Nat}{f:Obj->Obj}(I:Inv X pins σ H s)(h:H p=some (.lst xs))(ho:s.heap.get? p=some {cls:= .type "list",data:= .seq its.toArray n})(hf:f {cls:= .type "list",data:= .seq its.toArray n}={cls:= .type "list",data:= .seq its'.toArray n'})(r:Vals ys its')(hz:ys.length<=sizeLine)(t:Nat):
  Inv X pins σ (upd H p (.lst ys)) {s with heap:=s.heap.update p f,toks:=t}:=by
 have e:(s.heap.update p f).get? p=some {cls:= .type "list",data:= .seq its'.toArray n'}:=by
  rw[Qk f ho (by rw[hf]<;>rfl),hf]
 refine I.write (x:=p) (e:=p) (by rw[h];trivial) (.inl rfl) (fun b u hb q=>(Vc _ _ (jY hb)).trans q) ⟨_,e⟩ ?_
 exact⟨hz,its',n',r,e⟩
def rSetL:V->V->V->Hp->(Hp->Prop)->Prop:=fun o i v H Q=>∃p xs k j,o= .ref p/\i= .int k/\H p=some (.lst xs)/\ixN xs.length k=some j/\Q (upd H p (.lst (xs.set j v)))
theorem set_list:PSet X rSetL:=by
 intro pins s σ H o i v ov iv u Q I ro ri rv h
 obtain⟨p,xs,k,j,rfl,rfl,hp,hj,q⟩:=h
 cases ro
 obtain⟨t,rfl⟩:=ri
 obtain⟨its,n,r,ho,hz⟩:=I.lst hp
 obtain⟨h1,h2,h3,h4⟩:=ixN_seq hj
 have hl:=r.length
 have hn:=line63
 have I':Inv X pins σ (upd H p (.lst (xs.set j v))) {s with heap:=s.heap.update p (Obj.mapSeq (·.setIfInBounds j u))}:=
  I.lstUpd hp ho (mapSeq_set its n j u) (r.set rv j) (by rw[wed];exact hz) s.toks
 by_cases h0:0<=k
 ·have hk:k.toNat=j:=by
   rw[seqIndex_of h0 h4]at h1
   exact p8 h1
  exact PySem.W.ki_setAt ho h0 (by omega) (by rw[eU,<-hl];exact h4) (by rw[hk];exact⟨_,I',q⟩)
 ·have hk:(k+(its.toArray.size:Int)).toNat=j:=by
   rw[seqIndex_neg (by omega) h3]at h1
   rw[eU,<-hl]
   exact p8 h1
  exact PySem.W.ki_setBack ho (by omega) (by rw[eU,<-hl];exact h3) (by omega) (by rw[hk];exact⟨_,I',q⟩)
theorem slice_bounds(lo hi:Option Int)(n:Nat):(sliceBounds lo hi none n).1=((HT.sIx n 0 lo:Nat):Int)/\(sliceBounds lo hi none n).2.1=((HT.sIx n n hi:Nat):Int)/\(sliceBounds lo hi none n).2.2=1:=by
 refine⟨?_,?_,rfl⟩
 ·cases lo with
  |none=>simp[sliceBounds,HT.sIx]
  |some i=>
   simp only[sliceBounds,HT.sIx,Option.getD_none,show(1:Int)>0 by decide,Rr]
   by_cases h:i<0
   ·simp only[h,Rr]<;>omega
   ·simp only[h,Rt]<;>omega
 ·cases hi with
  |none=>simp[sliceBounds,HT.sIx]
  |some i=>
   simp only[sliceBounds,HT.sIx,Option.getD_none,show(1:Int)>0 by decide,Rr]
   by_cases h:i<0
   ·simp only[h,Rr]<;>omega
   ·simp only[h,Rt]<;>omega
theorem slicePick_cut(its:List Value)(lo hi:Option Int):slicePick its.toArray lo hi none=((its.drop (HT.sIx its.length 0 lo)).take (HT.sIx its.length its.length hi-HT.sIx its.length 0 lo)).toArray:=by
 obtain⟨h1,h2,h3⟩:=slice_bounds lo hi its.toArray.size
 unfold slicePick
 rw[h1,h2,h3]
 simp only[sliceRange_one,pick_run,eU]<;>rfl
def rSlL(K:W.Frag):V->Option Int->Option Int->Hp->VK->Prop:=fun x lo hi H Q=>∃a xs,x= .ref a/\SqL K H a xs/\∀p,H p=none->Q (.ref p) (upd H p (.lst (cutV xs lo hi)))
theorem sl_list:SlR X (rSlL X.K):=by
 intro pins s σ H x v vl vu lo hi sl Q I rx hs pl pu h
 obtain⟨a,xs,rfl,hx,q⟩:=h
 cases rx
 obtain⟨its,r,ht,hz⟩:=I.list hx
 have hlen:=r.length
 refine⟨"list",_,slot_list_getitem.lookup,ht.isList.typeIs,?_⟩
 refine wpAny_getItem_list_slice ht.isList hs pl pu .none (by simp) ?_ (by rw[eU]<;>omega)
 rw[slicePick_cut,<-hlen]
 refine⟨.ref s.heap.objs.size,_,I.laid (t':=s.toks) (o:= .lst (cutV xs lo hi)) (fun b ob q=>cM _ q) (aH _) ?_,rfl,q _ (I.hok.fresh (aH _))⟩
 exact⟨eO (cutV_length xs lo hi) hz,_,0,(r.drop (HT.sIx xs.length 0 lo)).take (HT.sIx xs.length xs.length hi-HT.sIx xs.length 0 lo),gB _ rfl⟩
theorem call_len_seq:CallR X (.builtin "len") (fun xs H Q=>∃p ys,xs=[.ref p]/\(SqL X.K H p ys\/SqT X.K H p ys)/\Q (.int ys.length) H):=by
 intro pins s σ H xs us Q I r h
 obtain⟨p,ys,rfl,hq,q⟩:=h
 obtain⟨u,rfl,rx⟩:=vals1 r
 cases rx
 have hn:=line63
 rcases hq with hq|hq
 ·obtain⟨its,r',pl,hz⟩:=I.list hq
  have hlen:=r'.length
  exact Calls.call_len_list pl.isList (by simp only[eU]<;>omega) ⟨.int ys.length,H,I.tok _,⟨s.toks+1,by rw[eU,hlen]⟩,q⟩
 ·obtain⟨its,r',pl,hz⟩:=I.tuple hq
  have hlen:=r'.length
  exact len_tuple pl (by simp only[eU]<;>omega) ⟨.int ys.length,H,I.tok _,⟨s.toks+1,by rw[eU,hlen]⟩,q⟩
theorem call_list_of:CallR X (.type "list") (fun xs H Q=>∃p ys,xs=[.ref p]/\(SqL X.K H p ys\/SqT X.K H p ys)/\∀l,H l=none->Q (.ref l) (upd H l (.lst ys))):=by
 intro pins s σ H xs us Q I r h
 obtain⟨p,ys,rfl,hq,q⟩:=h
 obtain⟨u,rfl,rx⟩:=vals1 r
 cases rx
 have fin:∀(its:List Value),Vals ys its->ys.length<=sizeLine->∀(h':Heap) (c':Nat),(∀b o',s.heap.get? b=some o'->h'.get? b=some o')->
   h'.get? s.heap.objs.size=some {cls:= .type "list",dict:=none,data:= .seq its.toArray c',slots:=#[]}->EP X pins σ Q (.ref s.heap.objs.size) {s with heap:=h'}:=fun its r' hz h' c' kp e=>
  ⟨.ref s.heap.objs.size,_,I.laid (t':=s.toks) kp (aH _) (show ObjOk X.prog X.w _ h' _ (.lst ys)from⟨hz,its,c',r',e⟩),rfl,q _ (I.hok.fresh (aH _))⟩
 rcases hq with hq|hq
 ·obtain⟨its,r',pl,hz⟩:=I.list hq
  have hlen:=r'.length
  obtain⟨o,ho,hc,n,hd⟩:=pl.isList
  exact call_list_seq p (.inl rfl) ho hc hd (fun h' c' kp e=>fin its r' hz h' c' kp e) (by simp only[eU]<;>omega)
 ·obtain⟨its,r',pl,hz⟩:=I.tuple hq
  have hlen:=r'.length
  obtain⟨o,ho,hc,n,hd⟩:=pl
  exact call_list_seq p (.inr rfl) ho hc hd (fun h' c' kp e=>fin its r' hz h' c' kp e) (by simp only[eU]<;>omega)
theorem Qc:CallR X (.type "tuple") (fun xs H Q=>∃p ys,xs=[.ref p]/\((SqL X.K H p ys/\∀l,H l=none->Q (.ref l) (upd H l (.tup ys)))\/(SqT X.K H p ys/\Q (.ref p) H))):=by
 intro pins s σ H xs us Q I r h
 obtain⟨p,ys,rfl,h⟩:=h
 obtain⟨u,rfl,rx⟩:=vals1 r
 cases rx
 rcases h with⟨hq,q⟩|⟨hq,q⟩
 ·obtain⟨its,r',pl,hz⟩:=I.list hq
  have hlen:=r'.length
  refine call_tuple_list pl.isList (fun h' kp=> ?_) (by simp only[eU]<;>omega)
  have I1:Inv X pins σ H {s with heap:=h'}:=I.kept (t':=s.toks) kp
  have I2:Inv X pins σ (upd H h'.objs.size (.tup ys)) {s with heap:=h'.push {cls:= .type "tuple",data:= .seq its.toArray}}:=
   I1.laid (t':=s.toks) (fun b o e=>cM _ e) (aH _) (show ObjOk X.prog X.w _ _ _ (.tup ys)from⟨hz,its,r',Vg _ _⟩)
  exact⟨.ref h'.objs.size,_,I2,rfl,q _ (I1.hok.fresh (aH _))⟩
 ·obtain⟨its,r',pl,hz⟩:=I.tuple hq
  exact call_tuple_same pl ⟨.ref p,H,I,rfl,q⟩
def tyV(K:W.Frag)(T:String)(x:V)(H:Hp):Prop:=match x with
 | .str _=>T="str"
 | .int _=>T="int"
 | .ref p=>(T="list"/\∃xs,SqL K H p xs)\/(T="tuple"/\∃o,K.lookup p=some o/\o.cls= .type "tuple"/\o.dict=none)\/
   (T="dict"/\((∃kvs,H p=some (.dK kvs))\/∃kvs,H p=some (.dT kvs)))\/(T="set"/\∃S n,H p=some (.set S n))
 |_=>False
theorem tyV_is{pins:List (Addr×Obj)}{σ:St}{H:Hp}{s:Shared}{T:String}{x:V}{v:Value}(I:Inv X pins σ H s)(r:RelV x v)(ty:tyV X.K T x H):
  s.TypeIs v T/\∀a,v= .ref a->∃ob,s.heap.get? a=some ob/\ob.dict=none:=by
 cases x with
 |str z=>
  obtain⟨t,rfl⟩:=r
  cases(show T="str" from ty)
  exact⟨typeIs_str s z t,fun _ e=>nomatch e⟩
 |int i=>
  obtain⟨t,rfl⟩:=r
  cases(show T="int" from ty)
  exact⟨Wi s i t,fun _ e=>nomatch e⟩
 |ref p=>
  cases r
  rcases ty with⟨rfl,xs,hq⟩|⟨rfl,o,hk,hc,hd⟩|⟨rfl,hk⟩|⟨rfl,S,n,hk⟩
  ·obtain⟨its,_,pl,_⟩:=I.list hq
   refine⟨pl.isList.typeIs,fun a e=> ?_⟩
   cases e
   obtain⟨o,n,e,c,hd,_⟩:=pl
   exact⟨o,e,hd⟩
  ·refine⟨⟨o,I.kIn p o hk,hc⟩,fun a e=> ?_⟩
   cases e
   exact⟨o,I.kIn _ o hk,hd⟩
  ·have z:∃o,s.heap.get? p=some o/\o.ExactDict:=by
    rcases hk with⟨kvs,hk⟩|⟨kvs,hk⟩
    ·obtain⟨_,_,_,_,o,_,_,e,ex,_⟩:=I.hok p _ hk
     exact⟨o,e,ex⟩
    ·obtain⟨_,_,_,_,o,_,_,e,ex,_⟩:=I.hok p _ hk
     exact⟨o,e,ex⟩
   obtain⟨o,e,ex⟩:=z
   refine⟨⟨o,e,ex.1⟩,fun a e2=> ?_⟩
   cases e2
   exact⟨o,e,ex.2.1⟩
  ·obtain⟨o,_,_,_,e,ex,_⟩:=I.hok p _ hk
   refine⟨⟨o,e,ex.1⟩,fun a e2=> ?_⟩
   cases e2
   exact⟨o,e,ex.2.1⟩
 |_=>exact False.elim ty
def tBM0(K:W.Frag)(T:String)(r:V->List V->Hp->VK->Prop)(to:TE):TE:=fun σ H Q=>to σ H fun x H1=>tyV K T x H1/\r x [] H1 Q
def tBM(K:W.Frag)(T:String)(r:V->List V->Hp->VK->Prop)(to:TE)(t:TA):TE:=fun σ H Q=>to σ H fun x H1=>tyV K T x H1/\t σ H1 fun xs H2=>r x xs H2 Q
variable{o e:Expr}{es:List Expr}{to:TE}{t:TA}{name:Str}{apos cpos:Pos}{T id:String}{r:V->List V->Hp->VK->Prop}
theorem pe_bm0(pa:PlainAttrs T)(slot:Slot T name id)(hty:typeOf (.builtin id)=pure (.type "method_descriptor"))(hm:MtR X id r)(ho:PE X o to)(hbase:attributeBase o name X.env (eval o X.env)=eval o X.env:=by rfl)(hline:(apos.endLine==cpos.line)=true:=by rfl):PE X (.Call (.Attribute o name apos) [] [] cpos) (tBM0 X.K T r to):=by
 intro pins s σ H Q I h
 refine wpAny_Call_method0_late hbase hline (thn (ho pins s σ H _ I h) fun v s1 ⟨x,H1,I1,r1,ty,q1⟩=> ?_)
 obtain⟨h1,h2⟩:=tyV_is I1 r1 ty
 exact⟨T,id,pa,slot,hty,h1,h2,Calls.callWith_builtin rfl (PySem.evalArgs_none (hm pins s1 σ H1 x [] v [] Q I1 r1 .nil q1))⟩
theorem pe_bm(pa:PlainAttrs T)(slot:Slot T name id)(hty:typeOf (.builtin id)=pure (.type "method_descriptor"))(hm:MtR X id r)(ho:PE X o to)(ha:PA X (e::es) t)(hbase:attributeBase o name X.env (eval o X.env)=eval o X.env:=by rfl)(hfew:((backTo cpos (starEach (e::es) X.env)).all (fun x=> !x.1)&&(backToKw cpos (keywordEach [] X.env)).all (fun x=>x.1.isSome)
   &&decide ((e::es).length+([]:List Keyword).length+(if([]:List Keyword).isEmpty then 0 else 1)<30))=true:=by rfl)(hline:(apos.endLine==cpos.line)=true:=by rfl)(hs:starEach (e::es) X.env=(false,eval e X.env)::starEach es X.env:=by rfl)(hplain:(backTo cpos (starEach es X.env)).any (·.1)=false:=by rfl):
  PE X (.Call (.Attribute o name apos) (e::es) [] cpos) (tBM X.K T r to t):=by
 intro pins s σ H Q I h
 refine wpAny_Call_method_late hbase hfew hline rfl (thn (ho pins s σ H _ I h) fun v s1 ⟨x,H1,I1,r1,ty,q1⟩=> ?_)
 obtain⟨h1,h2⟩:=tyV_is I1 r1 ty
 refine⟨T,id,pa,slot,hty,h1,h2,?_⟩
 have hA:=ha cpos pins s1 σ H1 _ I1 q1
 rw[hs]at hA⊢
 refine Calls.callWith_builtin (by show(false||(backTo cpos (starEach es X.env)).any (·.1))=false;rw[hplain]<;>rfl) (Calls.evalArgs_plain ?_)
 exact thn hA fun us s2 ⟨vs,H2,I2,r2,q2⟩=>hm pins s2 σ H2 x vs v us Q I2 r1 r2 q2
end
def MtM(X:Cx)(id:String)(r:V->List V->Hp->VK->Prop):Prop:=
 ∀(pins:List (Addr×Obj)) (s:Shared) (σ:St) (H:Hp) (x:V) (xs:List V) (v:Value) (us:List Value) (Q:VK),Inv X pins σ H s->RelV x v->Vals xs us->r x xs H Q->
  wpAny (model X.prog X.w) X.A (call (.builtin id) (v::us)) (EP X pins σ Q) X.xe s
theorem Vals.one{x:V}{us:List Value}(h:Vals [x] us):∃u,us=[u]/\RelV x u:=by
 cases h with
 |cons r h=>cases h;exact⟨_,rfl,r⟩
theorem Vals.two{x y:V}{us:List Value}(h:Vals [x,y] us):∃u v,us=[u,v]/\RelV x u/\RelV y v:=by
 cases h with
 |cons r h=>obtain⟨v,rfl,q⟩:=Vals.one h;exact⟨_,_,rfl,r,q⟩
theorem Vals.zero:∀{us:List Value},Vals [] us->us=[]
 |_,.nil=>rfl
theorem Vals.rep{xs:List V}{us:List Value}(h:Vals xs us):∀k:Nat,Vals (List.replicate k xs).flatten (List.replicate k us).flatten
 |0=> .nil
 |k+1=>by
  rw[HB,HB,Qi,Qi]
  exact Vals.append h (Vals.rep h k)
theorem foldl_rep(its:List Value):∀(k:Nat) (acc:List Value),
  List.foldl (fun x1 x2=>x1++x2) acc.toArray (List.replicate k its.toArray)=(acc++(List.replicate k its).flatten).toArray
 |0,acc=>by simp
 |k+1,acc=>by
  have e:acc.toArray++its.toArray=(acc++its).toArray:=by simp
  have e2:(acc++its)++(List.replicate k its).flatten=acc++(List.replicate (k+1) its).flatten:=by
   rw[HB,Qi,MK]
  rw[<-e2,<-foldl_rep its k (acc++its),<-e,HB,List.foldl_cons]
section
variable{X:Cx}{pins:List (Addr×Obj)}{σ:St}{H:Hp}{s:Shared}{l b:Addr}{xs ys zs:List V}
theorem Inv.lset{its its':List Value}{n:Nat}{f:Array Value->Array Value}{t':Nat}(I:Inv X pins σ H s)(hH:H l=some (.lst xs))(e:s.heap.get? l=some {cls:= .type "list",data:= .seq its.toArray n})(hf:f its.toArray=its'.toArray)(hv:Vals ys its')(hz:ys.length<=sizeLine):
  Inv X pins σ (upd H l (.lst ys)) {s with heap:=s.heap.update l (Obj.mapSeq f),toks:=t'}:=by
 have q:=wfv e f
 rw[hf]at q
 refine I.write (x:=l) (e:=l) (by rw[hH];exact trivial) (.inl rfl) (fun b' u hb hu=>(Vc s.heap (Obj.mapSeq f) (jY hb)).trans hu) ⟨_,q⟩ ?_
 exact⟨hz,its',_,hv,q⟩
theorem Inv.lnew{its:List Value}{t':Nat}(I:Inv X pins σ H s)(hv:Vals ys its)(hz:ys.length<=sizeLine):
  Inv X pins σ (upd H s.heap.objs.size (.lst ys)) {s with heap:=s.heap.push {cls:= .type "list",data:= .seq its.toArray},toks:=t'}:=
 I.laid (fun _ _ q=>cM _ q) (aH _) ⟨hz,its,0,hv,gB _ rfl⟩
theorem Inv.fresh(I:Inv X pins σ H s):H s.heap.objs.size=none:=I.hok.fresh (aH _)
theorem Inv.lstM(I:Inv X pins σ H s)(hH:H l=some (.lst xs)):xs.length<=sizeLine/\∃(its:List Value) (n:Nat),Vals xs its/\xs.length=its.length/\s.heap.get? l=some {cls:= .type "list",data:= .seq its.toArray n}:=by
 obtain⟨z,its,n,r,e⟩:=I.hok l _ hH
 exact⟨z,its,n,r,r.length,e⟩
theorem notLongL{n:Nat}(h:n<=sizeLine):Builtin.List.listTooLong n=false:=by
 unfold Builtin.List.listTooLong
 exact jN (by omega)
end
section
variable{X:Cx}
def rAppend:V->List V->Hp->VK->Prop:=fun x vs H Q=>∃l xs y,x= .ref l/\vs=[y]/\H l=some (.lst xs)/\xs.length<sizeLine/\Q .non (upd H l (.lst (xs++[y])))
theorem mt_append:MtM X "list.append" rAppend:=by
 intro pins s σ H x vs v us Q I rx rv h
 obtain⟨l,xs,y,rfl,rfl,hH,hz,q⟩:=h
 cases rx
 obtain⟨u,rfl,ru⟩:=rv.one
 obtain⟨z,its,n,r,hl,e⟩:=I.lstM hH
 refine Mq weo ⟨_,e,rfl⟩ wee (wdu _ _) (wfa l its.toArray n u (by rw[eU];omega)) ⟨e,?_⟩
 refine⟨.non,_,I.lset (its':=its++[u]) hH e (by simp) (r.append (.cons ru .nil)) ?_,rfl,q⟩
 rw[lW,List.length_singleton]
 omega
def rExtend:V->List V->Hp->VK->Prop:=fun x vs H Q=>∃l b xs zs,x= .ref l/\vs=[.ref b]/\H l=some (.lst xs)/\H b=some (.lst zs)/\xs.length+zs.length<=sizeLine/\Q .non (upd H l (.lst (xs++zs)))
theorem mt_extend:MtM X "list.extend" rExtend:=by
 intro pins s σ H x vs v us Q I rx rv h
 obtain⟨l,b,xs,zs,rfl,rfl,hH,hB,hz,q⟩:=h
 cases rx
 obtain⟨u,rfl,ru⟩:=rv.one
 cases ru
 obtain⟨z,its,n,r,hl,e⟩:=I.lstM hH
 obtain⟨z2,its2,n2,r2,hl2,e2⟩:=I.lstM hB
 have hsz:its.toArray.size+its2.toArray.size<=sizeLine:=by rw[eU,eU];omega
 have hlong:¬(!its.toArray.isEmpty&&Builtin.List.listTooLong (its.toArray.size+its2.toArray.size))=true:=by
  rw[notLongL hsz,Bool.and_false]
  exact qC
 refine Mq F.slot_list_extend ⟨_,e,rfl⟩ F.entry_list_extend (F.args_list_extend_2 _ _)
  (AutoSeq1.list_extend_list_list_0 l its.toArray n b its2.toArray n2 hlong (by rw[eU];omega) (by omega)) ⟨e,e2,?_⟩
 refine⟨.non,_,I.lset (its':=its++its2) hH e (by simp) (r.append r2) ?_,rfl,q⟩
 rw[lW]
 omega
def rClear:V->List V->Hp->VK->Prop:=fun x vs H Q=>∃l xs,x= .ref l/\vs=[]/\H l=some (.lst xs)/\Q .non (upd H l (.lst []))
theorem mt_clear:MtM X "list.clear" rClear:=by
 intro pins s σ H x vs v us Q I rx rv h
 obtain⟨l,xs,rfl,rfl,hH,q⟩:=h
 cases rx
 have hus:=rv.zero
 subst hus
 obtain⟨z,its,n,r,hl,e⟩:=I.lstM hH
 refine Mq F.slot_list_clear ⟨_,e,rfl⟩ F.entry_list_clear (F.args_list_clear_1 _) (AutoSeq1.list_clear_list_0 l its.toArray n (by rw[eU];omega)) ⟨e,?_⟩
 exact⟨.non,_,I.lset (its':=[]) (ys:=[]) hH e rfl .nil (cX _),rfl,q⟩
def rCat:R2:=fun x y H Q=>∃l b xs zs,x= .ref l/\y= .ref b/\H l=some (.lst xs)/\H b=some (.lst zs)/\xs.length+zs.length<=sizeLine/\∀p,H p=none->Q (.ref p) (upd H p (.lst (xs++zs)))
theorem op_cat:OpR X (binaryOp .Add) rCat:=by
 intro pins s σ H x y v u Q I rx ry h
 obtain⟨l,b,xs,zs,rfl,rfl,hH,hB,hz,q⟩:=h
 cases rx
 cases ry
 obtain⟨z,its,n,r,hl,e⟩:=I.lstM hH
 obtain⟨z2,its2,n2,r2,hl2,e2⟩:=I.lstM hB
 refine PySem.P.add_list e e2 ?_ (by rw[eU,eU];omega)
 have ea:its.toArray++its2.toArray=(its++its2).toArray:=by simp
 rw[ea]
 exact⟨.ref _,_,I.lnew (t':=s.toks) (r.append r2) (by rw[lW];omega),rfl,q _ I.fresh⟩
def rRep:R2:=fun x y H Q=>∃l k xs,x= .ref l/\y= .int k/\H l=some (.lst xs)/\ -(2^63)<=k/\k<2^63/\xs.length*k.toNat<=sizeLine/\
 ∀p,H p=none->Q (.ref p) (upd H p (.lst (List.replicate k.toNat xs).flatten))
theorem len_rep{α:Type}(xs:List α)(k:Nat):(List.replicate k xs).flatten.length=k*xs.length:=by
 induction k with
 |zero=>simp
 |succ k ih=>rw[HB,Qi,lW,ih,Nat.succ_mul,Nat.add_comm]
theorem op_rep:OpR X (binaryOp .Mult) rRep:=by
 intro pins s σ H x y v u Q I rx ry h
 obtain⟨l,k,xs,rfl,rfl,hH,h1,h2,hz,q⟩:=h
 cases rx
 obtain⟨t,rfl⟩:=ry
 obtain⟨z,its,n,r,hl,e⟩:=I.lstM hH
 have hlen:its.toArray.size*k.toNat<=sizeLine:=by rw[eU,<-hl];exact hz
 have hcap:¬its.toArray.size*k.toNat>(2^63-1)/8:=by
  have:(sizeLine:Nat)<=(2^63-1)/8:=by decide
  omega
 have hfit:¬(!Builtin.List.listFitsIndex k)=true:=by
  rw[fitsIndex_both h1 h2]
  exact qC
 have hlong:¬Builtin.List.listTooLong (its.toArray.size*k.toNat)=true:=by
  rw[notLongL hlen]
  exact qC
 have hnew:List.foldl (fun x1 x2=>x1++x2) #[] (List.replicate (if its.toArray.isEmpty=true then 0 else k.toNat) its.toArray)=(List.replicate k.toNat its).flatten.toArray:=by
  have f0:∀m:Nat,List.foldl (fun x1 x2=>x1++x2) #[] (List.replicate m its.toArray)=(List.replicate m its).flatten.toArray:=fun m=>by
   have:=foldl_rep its m []
   rw[List.nil_append]at this
   exact this
  rw[f0]
  cases its with
  |nil=>simp
  |cons a r'=>rw[ao (by simp)]
 refine wpAny_binaryOp_repeat_ref (T:="list") (U:="int") (by decide) ⟨_,e,rfl⟩ (fun s'=>Wi s' k t) noFill_list_mul F.fills_int_mul wef repeat_list F.slot_int_index.lookup
  (Mq wef (Wi s k t) F.entry_int_rmul (F.args_int_rmul_2 _ _) (int___rmul___int_list k t l its.toArray n)
   ⟨e,rfl,⟨_,e,rfl⟩,Mq F.slot_list_mul ⟨_,e,rfl⟩ F.entry_list_mul (F.args_list_mul_2 _ _) (AutoListH.list___mul___list_int_3 l its.toArray n k t hfit hcap hlong) ⟨e,?_⟩⟩)
 rw[hnew]
 exact⟨.ref _,_,I.lnew (t':=s.toks) (r.rep k.toNat) (by rw[len_rep,whc];exact hz),rfl,q _ I.fresh⟩
end
section
variable{prog:Program}{w:World}{A:Around}{E:Value->Shared->Prop}{s:Shared}
end
section
variable{X:Cx}
end
end L2
namespace Att
open PySem PySem.W PySem.Calls PyProof.Rows
theorem ints_of_wellAll{P:Params}{h:Heap}:∀(ns:List Int) (vs:List Value),WellAll P h vs (ns.map WData.int)->IntsAre vs ns:=by
 intro ns
 induction ns with
 |nil=>
  intro vs w
  rw[ZV]at w
  cases w
  exact .nil
 |cons n ns ih=>
  intro vs w
  rw[wU]at w
  cases w with
  |cons a b=>
   cases a
   exact .cons _ _ (ih _ b)
theorem script_of{l:OpenLaw}{n:Nat}(hn:l.most=some n){P:Params}{h:Heap}{args:List WData}{vals:List Value}(hpre:l.row.toRowW.claim.pre args=true)(hwl:WellAll P h vals args):
  ∃a vs ns,vals=[Value.ref a]/\args=[WData.list (ns.map WData.int)]/\h.get? a=some {cls:= .type "list",data:= .seq vs.toArray}/\IntsAre vs ns/\ns.length<=n:=by
 have hsh:WShape.hasAll [] args [.list .int]=true:=(pre_splitW hpre).1
 have hc:l.pre.holds [] {args:=args}=true:=(pre_splitW hpre).2
 obtain⟨d,r,rfl,h1,h2⟩:=hasAllW_cons hsh
 obtain rfl:=hasAllW_nil h2
 obtain⟨xs,rfl,h3⟩:=hasW_list h1
 obtain⟨ns,rfl⟩:=items_int h3
 have hlen:ns.length<=n:=by
  unfold OpenLaw.pre at hc
  have h4:(WTm.not (.lt (.lit (.int (n:Int))) (.len (.arg 0)))).holds [] {args:=[.list (ns.map .int)]}=true:=by
   have h4:=(holds_andW hc).1
   rw[hn]at h4
   exact h4
  have h5:=condW_of h4 (w_not (w_lt w_lit (w_len_list (w_arg rfl))))
  rw[aG]at h5
  refine wdp fun q=> ?_
  have q':(n:Int)<((ns.length:Nat):Int):=by omega
  first
   |(rw[fj q']at h5;exact absurd h5 (by decide))
   |(simp at h5;omega)
 cases hwl with
 |cons w1 w2=>
  cases w2
  cases w1 with
  |list ho hall=>exact⟨_,_,ns,rfl,rfl,ho,ints_of_wellAll ns _ hall,hlen⟩
theorem post_true(l:OpenLaw)(args:List WData):l.row.toRowW.claim.post args (.bool true) args=true:=
 postW_of (r:=l.row.toRowW) (X:=(true==true))
  (show WShape.has [] (.bool true) .bool=true by first |rfl|decide|simp[WShape.has,WShape.arms,WShape.armsAll])
  (show(WTm.eq .res (.lit (.bool true))).value [] {args:=args,res:=some (.bool true),after:=args}=some (.bool (true==true))from w_eq_bool (w_res rfl) w_lit) rfl
theorem attach_call{l:OpenLaw}{n:Nat}{q:Program}{loose:List Str}{XP:(Str->Option Value)->Heap->Prop}{YP:World->Heap->Prop}{d:DefRec}(hn:l.most=some n)(hdf:d.params.defaults=[])(call:∀(w:World) (s₀ s₁:Shared) (mg mb:Str->Option Value) (fa:Addr) (o:Obj) (pm cd doc:Value) (a:Addr) (vs:List Value) (ns:List Int),
   Ground q loose [] XP w s₀ mg mb s₁.heap->YP w s₁.heap->
   s₁.heap.get? fa=some o->o.data= .func (docDef d.name d.params d.body d.scope pm cd doc)->s₁.heap.CodeRec cd d.name->mg d.name=some (.ref fa)->
   s₁.heap.get? a=some {cls:= .type "list",data:= .seq vs.toArray}->IntsAre vs ns->ns.length<=n->s₁.gens=#[]->
   codeAny (model l.prog w) callerA (.call (.ref fa) ⟨[.ref a],[]⟩) (fun r s'=>r= .ok (.ret (.bool true))/\OldK s₁.heap s'.heap/\s'.os=s₁.os/\AllBare s'.gens) s₁):
  WalkO q loose XP YP l.row.toRowW d [] (fun f vs=>PySem.call f vs):=by
 intro w s₀ s₁ mg mb G Y fa o pm cd doc dV kV ho hd hcd hD hmg hg args vals as hpre hlay hrd hwl hlo
 obtain rfl:dV= .none:=Dflts.none hD hdf
 obtain rfl:kV= .none:=Dflts.noKw hD
 obtain⟨a,vs,ns,rfl,rfl,hobj,hints,hlen⟩:=script_of hn hpre hwl
 refine enter_call (M4 (call w s₀ s₁ mg mb fa o pm cd doc a vs ns G Y ho (fd_plain hd) hcd hmg hobj hints hlen hg) fun r s' hq=> ?_)
 obtain⟨rfl,h2,h3,h4⟩:=hq
 exact⟨.inl ⟨.bool true,.bool true,[],rfl,fun _=>rfl,.bool true,post_true l _,fun _=>⟨List.Pairwise.nil,fun _ hm=>(nomatch hm)⟩⟩,h2,h3,h4⟩
section
variable{prog:Program}{w:World}{A:Around}{E:Value->Shared->Prop}{s:Shared}{K:Frag}
end
end Att
namespace L2
open PySem PySem.Spec PyProof.Rows
theorem vals_ints:∀{vs:List Value} {ns:List Int},IntsAre vs ns->Vals (ns.map V.int) vs
 |_,_,.nil=> .nil
 |_,_,.cons n t h=> .cons ⟨t,rfl⟩ (vals_ints h)
def inClass(s:Stmt)(j:Nat):Stmt:=match s with
 | .ClassDef _ _ _ body _ _ _ _ _ _ _=>body.getD j (.Pass ⟨0,0,0,0⟩)
 |_=> .Pass ⟨0,0,0,0⟩
def defArgs(s:Stmt):Arguments:=match s with
 | .FunctionDef _ a _ _ _ _ _ _ _ _=>a
 |_=>{posonlyargs:=[],args:=[],vararg:=none,kwonlyargs:=[],kw_defaults:=[],kwarg:=none,defaults:=[]}
def defBody(s:Stmt):List Stmt:=match s with
 | .FunctionDef _ _ b _ _ _ _ _ _ _=>b
 |_=>[]
def defScope(s:Stmt):Scope:=match s with
 | .FunctionDef _ _ _ _ _ _ sc _ _ _=>sc
 |_=>{kind:= .function,names:=[],isGenerator:=false,isCoroutine:=false}
abbrev CX0:CXT:=fun _ _ _ _ _ _=>False
abbrev E0:XK:=fun _ _ _=>False
theorem pass0{X:Cx}:Passes CX0 X E0:=fun _ _ _ _ _ _ _ h=>h.elim
structure Fun(K:W.Frag)(x qual:Str)(st:Stmt)(f:Addr)(fd:FuncData):Prop where
 ex:∃(oc:Value) (od:Option Addr) (kV doc pm:Value) (an:Option Addr) (cdv ct:Value) (osl:Array (Option Value)),
  fd=PySem.W.fnOf x qual (defArgs st) (defBody st) (defScope st) .none kV doc pm an cdv ct/\K.lookup f=some ⟨oc,od,.func fd,osl⟩/\PySem.W.codeIn K cdv qual=true
 kp:PySem.W.keepIn K (.ref f)=true
section
variable{P:Program}{w:World}{K:W.Frag}{mg:Str->Option Value}{base:Heap}
theorem Fun.ok{x qual:Str}{st:Stmt}{f:Addr}{fd:FuncData}{N ps:List Str}{k:Nat}{sp:Sp}(F:Fun K x qual st f fd)(S:FnScope N ps (defScope st))(len:∀vs H Q E,sp vs H Q E->vs.length=ps.length)(hbody:∀(cdv:Value) (A:Around) (outer:List Env) (s:Shared) (H:Hp) (vs:List V) (Q:VK) (E:XK),Room k (A.deeper (envOfC qual (defScope st) s.heap.objs.size f cdv))->sp vs H Q E->
   ∃t,PSs (cxOf CX0 P w K mg base N qual (defScope st) f cdv A outer s H E).nox (defBody st) t/\t {nx:=fun _ H'=>Q .non H',rt:=Q} (start N vs) H):FnOk P w K mg base CX0 (k+1) f fd ps sp:=by
 obtain⟨oc,od,kV,doc,pm,an,cdv,ct,osl,rfl,lk,hcd⟩:=F.ex
 refine fn_of lk hcd S len fun A outer s H vs Q E hr hsp=> ?_
 obtain⟨t,h,q⟩:=hbody cdv A outer s H vs Q E hr hsp
 exact⟨t,h.nox,q⟩
theorem Fun.binds{x qual:Str}{st:Stmt}{f:Addr}{fd:FuncData}{ps:List Str}(F:Fun K x qual st f fd)(h:∀(kV doc pm:Value) (an:Option Addr) (cdv ct:Value) (us:List Value),us.length=ps.length->bindArgs (PySem.W.fnOf x qual (defArgs st) (defBody st) (defScope st) .none kV doc pm an cdv ct) ⟨us,[]⟩=pure (ps.zip us)):Binds K fd ps []:=by
 obtain⟨oc,od,kV,doc,pm,an,cdv,ct,osl,rfl,lk,hcd⟩:=F.ex
 exact .all (h kV doc pm an cdv ct)
theorem fun_mk{x qual:Str}{st:Stmt}{f:Addr}{oc:Value}{od an:Option Addr}{osl:Array (Option Value)}{kV doc pm cdv ct:Value}(l:K.lookup f=some ⟨oc,od,.func (PySem.W.fnOf x qual (defArgs st) (defBody st) (defScope st) .none kV doc pm an cdv ct),osl⟩)(c:PySem.W.codeIn K cdv qual=true)(k:PySem.W.keepIn K (.ref f)=true):Fun K x qual st f (PySem.W.fnOf x qual (defArgs st) (defBody st) (defScope st) .none kV doc pm an cdv ct):=⟨⟨oc,od,kV,doc,pm,an,cdv,ct,osl,rfl,l,c⟩,k⟩
end
theorem hu_of{A:Around}{k:Nat}(hr:Room k A):A.units+1<cLine:=CW (Nat.add_le_add_left (by decide:1<=64) _) hr.units
theorem small1000{n:Nat}(h:n<=1000):n<sizeLine:=CW h (by decide)
section
variable{X:Cx}
theorem pv(i:Nat){x:Str}{pos:Pos}(hN:X.N[i]? =some x:=by rfl)(hv:Vis X.env.scope x:=by first |exact Or.inl rfl|exact Or.inr (Or.inl rfl)|exact Or.inr (Or.inr rfl))(hd:(x==("__debug__":Str))=false:=by decide)(hcd:(x==("__classdict__":Str))=false:=by decide):PE X (.Name x pos) (tVar i):=pe_var hN hv hd hcd
end
theorem iteF{A B:Prop}(h:B):if false=true then A else B:=by
 rw[ao qC]
 exact h
theorem iteT{A B:Prop}(h:A):if true=true then A else B:=by
 rw[au rfl]
 exact h
theorem ite2{c A B:Prop} [Decidable c](h1:c->A)(h2:¬c->B):if c then A else B:=by
 by_cases h:c
 ·rw[au h]
  exact h1 h
 ·rw[ao h]
  exact h2 h
def Same(H H':Hp):Prop:=∀b o,H b=some o->H' b=some o
theorem Same.refl(H:Hp):Same H H:=fun _ _ h=>h
theorem Same.trans{H H1 H2:Hp}(a:Same H H1)(b:Same H1 H2):Same H H2:=fun c o h=>b c o (a c o h)
theorem Same.free{H H':Hp}(e:Same H H'){l:Addr}(h:H' l=Option.none):H l=Option.none:=by
 cases q:H l with
 |none=>rfl
 |some o=>
  rw[e l o q]at h
  cases h
theorem Same.seq{K:W.Frag}{H H':Hp}{a:Addr}{xs:List V}(e:Same H H')(h:SqL K H a xs):SqL K H' a xs:=by
 rcases h with(h|⟨o,h⟩)|h
 ·exact .inl (.inl (e _ _ h))
 ·exact .inl (.inr ⟨o,e _ _ h⟩)
 ·exact .inr h
end L2
set_option maxHeartbeats 4000000
namespace L2
open PySem PySem.Spec PyProof.Rows
def cG(cells:List (Str×Addr)):List (Str×NameKind)->List (Str×Addr)->List (Str×Addr)
 |[],acc=>acc
 |p::r,acc=>cG cells r (if(p.2==NameKind.free)=true then(p.1,(cells.lookup p.1).getD 0)::acc else acc)
theorem eG{cells:List (Str×Addr)}:∀{names:List (Str×NameKind)} {acc:List (Str×Addr)} {x:Str} {c:Addr},(x,c)∈cG cells names acc->(x,c)∈acc\/c=(cells.lookup x).getD 0/\(x,NameKind.free)∈names
 |[],_,_,_,h=> .inl h
 |(n,k)::r,acc,x,c,h=>by
  rcases eG (names:=r) h with q|⟨q,m⟩
  ·dsimp only at q
   split at q
   ·rename_i hk
    rcases cB.mp q with e|e
    ·cases e
     have:k=NameKind.free:=by simpa using hk
     subst this
     exact .inr ⟨rfl,cV⟩
    ·exact .inl e
   ·exact .inl q
  ·exact .inr ⟨q,dG _ m⟩
theorem zp{cells:List (Str×Addr)}:∀{names:List (Str×NameKind)} {acc:List (Str×Addr)} {p:Str×Addr},p∈acc->p∈cG cells names acc
 |[],_,_,h=>h
 |(n,k)::r,acc,p,h=>by
  refine zp (names:=r) ?_
  split
  ·exact dG _ h
  ·exact h
theorem nF{cells:List (Str×Addr)}:∀{names:List (Str×NameKind)} {acc:List (Str×Addr)} {x:Str},(x,NameKind.free)∈names->∃c,(x,c)∈cG cells names acc
 |(n,k)::r,acc,x,h=>by
  rcases cB.mp h with e|e
  ·cases e
   refine⟨(cells.lookup n).getD 0,zp (names:=r) ?_⟩
   rw[au (show(NameKind.free==NameKind.free)=true from rfl)]
   exact cV
  ·exact nF (names:=r) e
theorem UL{β:Type}:∀{l:List (Str×β)} {x:Str} {c:β},(x,c)∈l->∃d,l.lookup x=some d/\(x,d)∈l
 |(n,k)::r,x,c,h=>by
  cases hx:x==n with
  |true=>
   have e:x=n:=by simpa using hx
   subst e
   exact⟨k,by simp[Eu],cV⟩
  |false=>
   rcases cB.mp h with e|e
   ·cases e;simp at hx
   ·obtain⟨d,h1,h2⟩:=UL e
    exact⟨d,by simp only[Eu,hx];exact h1,dG _ h2⟩
def aR(sc scope:Scope):Bool:=scope.names.all fun p=>(p.2 !=NameKind.cell)&&(p.2 !=NameKind.local||scope.names.lookup p.1==some NameKind.local)&&
 (p.2 !=NameKind.free||sc.names.lookup p.1==some NameKind.cell||sc.names.lookup p.1==some NameKind.free)
section
variable{sc scope:Scope}
theorem aR.cell(h:aR sc scope=true):∀y∈scope.names,y.2≠.cell:=fun y hy e=>by
 have q:=qw.mp h y hy
 simp[e]at q
theorem aR.names(h:aR sc scope=true):∀y∈scope.names,y.2= .local->scope.names.lookup y.1=some .local:=fun y hy e=>by
 have q:=qw.mp h y hy
 simpa[e]using q
theorem aR.free(h:aR sc scope=true){x:Str}(hy:(x,NameKind.free)∈scope.names):sc.names.lookup x=some .cell\/sc.names.lookup x=some .free:=by
 have q:=qw.mp h _ hy
 simpa using q
end
theorem iW{scope:Scope}{env:Env}(h:∀x,(x,NameKind.free)∈scope.names->∃c,env.cells.lookup x=some c):closureFor scope env=pure (cG env.cells scope.names []):=by
 have key:∀(names:List (Str×NameKind)) (acc:List (Str×Addr)),(∀x,(x,NameKind.free)∈names->∃c,env.cells.lookup x=some c)->
   (forIn names acc fun(x:Str×NameKind) (cs:List (Str×Addr))=>if(x.2==NameKind.free)=true then(do let y<-cellOf env x.1;pure (ForInStep.yield ((x.1,y)::cs)))else pure (ForInStep.yield cs):Sem (List (Str×Addr)))=pure (cG env.cells names acc):=by
  intro names
  induction names with
  |nil=>intro acc _;rfl
  |cons p r ih=>
   intro acc hh
   obtain⟨n,k⟩:=p
   rw[List.forIn_cons]
   dsimp only
   by_cases hk:(k==NameKind.free)=true
   ·have e:k=NameKind.free:=by simpa using hk
    subst e
    obtain⟨c,hc⟩:=hh n cV
    rw[au hk]
    unfold cellOf
    rw[hc]
    simp only[pure_bind]
    refine Eq.trans (ih _ fun x hx=>hh x (dG _ hx)) ?_
    show _=pure (cG env.cells r (if(NameKind.free==NameKind.free)=true then(n,(env.cells.lookup n).getD 0)::acc else acc))
    rw[au hk,hc]
    rfl
   ·rw[ao hk]
    simp only[pure_bind]
    refine Eq.trans (ih _ fun x hx=>hh x (dG _ hx)) ?_
    show _=pure (cG env.cells r (if(k==NameKind.free)=true then(n,(env.cells.lookup n).getD 0)::acc else acc))
    rw[ao hk]
 have q:=key scope.names [] h
 unfold closureFor
 simp only[bind_pure]
 exact q
theorem iT{env:Env}:∀{names:List (Str×NameKind)} {x:Str} {k:NameKind},names.lookup x=some k->
  (names.map fun(n,k)=>if(k==NameKind.free&&env.scope.kind== .function&&env.kindOf n==some .cell)then(n,NameKind.cell)else(n,k)).lookup x=some (if(k==NameKind.free&&env.scope.kind== .function&&env.kindOf x==some .cell)=true then .cell else k)
 |[],_,_,h=>by simp at h
 |(n,k)::r,x,k',h=>by
  have ih:= @iT env r x k'
  show List.lookup x ((if(k==NameKind.free&&env.scope.kind== .function&&env.kindOf n==some .cell)=true then(n,NameKind.cell)else(n,k))::_)=_
  cases hx:x==n with
  |true=>
   have e:x=n:=by simpa using hx
   subst e
   simp only[Eu,hx]at h
   cases h
   by_cases hc:(k==NameKind.free&&env.scope.kind== .function&&env.kindOf x==some .cell)=true
   ·rw[au hc,au hc];simp[Eu]
   ·rw[ao hc,ao hc];simp[Eu]
  |false=>
   simp only[Eu,hx]at h
   by_cases hc:(k==NameKind.free&&env.scope.kind== .function&&env.kindOf n==some .cell)=true
   ·rw[au hc];simp only[Eu,hx];exact ih h
   ·rw[ao hc];simp only[Eu,hx];exact ih h
theorem lA{env:Env}:∀{names:List (Str×NameKind)} {x:Str},names.lookup x=none->
  (names.map fun(n,k)=>if(k==NameKind.free&&env.scope.kind== .function&&env.kindOf n==some .cell)then(n,NameKind.cell)else(n,k)).lookup x=none
 |[],_,_=>rfl
 |(n,k)::r,x,h=>by
  have ih:= @lA env r x
  show List.lookup x ((if(k==NameKind.free&&env.scope.kind== .function&&env.kindOf n==some .cell)=true then(n,NameKind.cell)else(n,k))::_)=_
  cases hx:x==n with
  |true=>simp only[Eu,hx]at h;cases h
  |false=>
   simp only[Eu,hx]at h
   by_cases hc:(k==NameKind.free&&env.scope.kind== .function&&env.kindOf n==some .cell)=true
   ·rw[au hc];simp only[Eu,hx];exact ih h
   ·rw[ao hc];simp only[Eu,hx];exact ih h
theorem Az{scope:Scope}{env:Env}{x:Str}(hc:∀y∈scope.names,y.2≠.cell)(h:(relabel scope env).names.lookup x=some .cell\/(relabel scope env).names.lookup x=some .free):(x,NameKind.free)∈scope.names:=by
 cases e:scope.names.lookup x with
 |none=>
  have q:=lA (env:=env) e
  rcases h with h|h
  ·rw[show(relabel scope env).names.lookup x=none from q]at h;cases h
  ·rw[show(relabel scope env).names.lookup x=none from q]at h;cases h
 |some k=>
  have q:=iT (env:=env) e
  have m:=tM e
  by_cases hk:k= .free
  ·subst hk;exact m
  ·have q':(relabel scope env).names.lookup x=some k:=by
    refine Eq.trans q ?_
    have:(k==NameKind.free)=false:=by simpa using hk
    simp[this]
   rw[q']at h
   rcases h with h|h
   ·cases h;exact absurd rfl (hc _ m)
   ·cases h;exact absurd rfl hk
theorem qP{scope:Scope}{env:Env}{x:Str}(h:scope.names.lookup x=some .free):(relabel scope env).names.lookup x=some .cell\/(relabel scope env).names.lookup x=some .free:=by
 have q:=iT (env:=env) h
 by_cases hc:((NameKind.free==NameKind.free)&&env.scope.kind== .function&&env.kindOf x==some .cell)=true
 ·rw[au hc]at q;exact .inl q
 ·rw[ao hc]at q;exact .inr q
def eZ(X:Cx)(scope:Scope)(N:List Str)(s:Shared)(H:Hp)(cl:List (Str×Addr))(C:Addr)(ex:List Addr):Cx:=
 {X with N:=N,s₀:=s,H₀:=H,env:=compEnvC scope cl C X.env,outer:=X.stack,ex:=ex,fn:=fun _=>false,pn:=[],xe:=fun _ _=>False}
inductive jd(X:Cx)(scope:Scope):List Str->List Nat->Prop
 |nil:jd X scope [] []
 |cons {x:Str} {j:Nat} {xs:List Str} {js:List Nat} (hN:X.N[j]? =some x) (hf:scope.names.lookup x=some .free) (t:jd X scope xs js):jd X scope (x::xs) (j::js)
theorem jd.get{X:Cx}{scope:Scope}:∀{xs:List Str} {js:List Nat} {k:Nat} {x:Str},jd X scope xs js->xs[k]? =some x->∃j,js[k]? =some j/\X.N[j]? =some x/\scope.names.lookup x=some .free
 |_,_,k,x,.nil,h=>by simp at h
 |_,_,0,x,.cons h1 h2 _,h=>by simp at h;subst h;exact⟨_,rfl,h1,h2⟩
 |_,_,k+1,x,.cons _ _ t,h=>by
  obtain⟨j,a,b⟩:=jd.get (k:=k) t (by simpa using h)
  exact⟨j,by simpa using a,b⟩
theorem jd.len{X:Cx}{scope:Scope}:∀{xs:List Str} {js:List Nat},jd X scope xs js->xs.length=js.length
 |_,_,.nil=>rfl
 |_,_,.cons _ _ t=>by simp[jd.len t]
def m7(own:List Str)(ix:List Nat)(σ:St):St:=own.map (fun _=>none)++ix.map fun j=>(σ[j]?).join
def PX(X:Cx)(ifs:List Expr)(t:TT):Prop:=
 ∀(pins:List (Addr×Obj)) (s:Shared) (σ:St) (H:Hp) (Q:Bool->Hp->Prop),Inv X pins σ H s->t σ H Q->
  wpAny (model X.prog X.w) X.A (forIn ifs true fun c r=>if r=true then do let ok<-isTrue c X.env (eval c X.env);pure (ForInStep.yield ok)else pure (ForInStep.yield r)) (TP X pins σ Q) X.xe s
theorem sy{X:Cx}:PX X [] (fun _ H Q=>Q true H):=fun _ _ _ H _ I h=>wpAny_tests_nil ⟨H,I,h⟩
theorem dX{X:Cx}{c:Expr}{t:TT}(h:PT X c t):PX X [c] t:=fun pins s σ H Q I hq=>wpAny_tests_one (h pins s σ H Q I hq)
theorem HOk.add{P:Program}{w:World}{H:Hp}{h:Heap}{a:Addr}{o:HO}(x:HOk P w H h)(hn:H a=none)(new:ObjOk P w (upd H a o) h a o):HOk P w (upd H a o) h:=fun b u e=>by
 by_cases hb:b=a
 ·subst hb;rw[aJ]at e;cases e;exact new
 ·rw[cu hb]at e
  exact(x b u e).stay (fun c v _ q=>q) (fun c q=>by rw[cu (j7 q hn)];exact q) fun c xs q=>by rw[cu (j7 q hn)];exact q
theorem Un.add{fs ex:List Addr}{H H':Hp}{h h':Heap}{a:Addr}{o:HO}(u:Un fs ex H H' h h')(ha:h.objs.size<=a)(hn:H' a=none):Un fs ex H (upd H' a o) h h' where
 keep:=u.keep
 slot:=u.slot
 free:=fun b ob q n hx=>by rw[cu (bQ (gA (cA q) ha))];exact u.free b ob q n hx
 there:=u.there
 tups:=fun b xs q=>by have:=u.tups b xs q;rw[cu (j7 this hn)];exact this
 frzs:=fun b ob xs q=>by have:=u.frzs b ob xs q;rw[cu (j7 this hn)];exact this
 tbls:=fun b ps q=>by obtain⟨m,e⟩:=u.tbls b ps q;exact⟨m,by rw[cu (j7 e hn)];exact e⟩
section
variable{X:Cx}{tg iter elt:Expr}{ifs:List Expr}{scope:Scope}{pos:Pos}{own caps:List Str}{ix:List Nat}{g:TG}{tc:TT}{te:TE}
theorem BX{pins:List (Addr×Obj)}{s s':Shared}{σ:St}{H:Hp}{fp:List Addr}{C:Addr}{m:Str->Option Value}(ck:aR X.env.scope scope=true)(hkind:scope.kind= .function)(hcap:jd X scope caps ix)
  (I:Inv X pins σ H s)(f2:∀b∈fp,FpOk X pins H b)(hlt:∀b∈fp,b<s.heap.objs.size)(hC:s.heap.objs.size<=C)(hos:s'.os=s.os)(hg:AllBare s'.gens)(hk:∀b o,s.heap.get? b=some o->s'.heap.get? b=some o)(hn:s'.heap.Ns C m):
  Inv (eZ X scope (own++caps) s H (cG X.env.cells scope.names []) C fp) [] (m7 own ix σ) H s':=by
 have cl1:∀x c,(cG X.env.cells scope.names []).lookup x=some c->X.env.cells.lookup x=some c:=fun x c e=>by
  rcases eG (tM e)with q|⟨q,mm⟩
  ·cases q
  ·obtain⟨d,hd⟩:=I.ok.has x (aR.free ck mm)
   rw[hd]at q
   rw[hd,q];rfl
 have cl2:∀x,(x,NameKind.free)∈scope.names->∃c,(cG X.env.cells scope.names []).lookup x=some c:=fun x mm=>by
  obtain⟨c,hc⟩:=nF (cells:=X.env.cells) (acc:=[]) mm
  obtain⟨d,hd,_⟩:=UL hc
  exact⟨d,hd⟩
 have bsz:X.base.objs.size<=s.heap.objs.size:=eO I.ok.bsz I.sz
 refine⟨⟨I.ok.mod,hkind,I.ok.glob,I.ok.blt,hC,fun x y c h1 h2=>I.ok.inj x y c (cl1 x c h1) (cl1 y c h2),fun x hx=>cl2 x (Az (aR.cell ck) hx),fun x c h=>(nomatch h),I.ok.hd,I.ok.frames,.inl rfl,fun b hb=>⟨bQ (gA (hlt b hb) hC),fun x c e=>(f2 b hb).2.2.2.2.1 x c (cl1 x c e)⟩,I.bs,bsz,
  fun b o e hb=> ?_,fun b hb hz=> ?_,I.stack,I.stkFree⟩,?_,hg,Un.kept hk,⟨m,hn,fun i x v h1 h2 h3=> ?_⟩,fun x c e=> ?_,I.hok.fresh hC,fun x c e=>I.freeC x c (cl1 x c e),fun p hp=>absurd (show p∈([]:List (Addr×Obj))from hp) (by simp),I.hok.kept hk,?_⟩
 ·rcases(f2 b hb).2.2.2.1 with z|z
  ·exact I.ok.noex b o e z
  ·exact absurd (gA (cA e) (eO I.ok.bsz z)) (p7 _)
 ·rcases cB.mp (I.stkSub b hz)with z|z
  ·exact(f2 b hb).2.1 z
  ·exact(f2 b hb).2.2.1 z
 ·exact hos
 ·have h1:(own++caps)[i]? =some x:=h1
  have h2:(own.map (fun _=>(none:Option V))++ix.map fun j=>(σ[j]?).join)[i]? =some (some v):=h2
  by_cases hi:i<own.length
  ·rw[Vd (by simpa using hi),c7]at h2
   cases e:own[i]? <;>rw[e]at h2<;>simp at h2
  ·rw[Qn (by simpa using hi)]at h2
   rw[Qn (by omega)]at h1
   rw[aG]at h2
   obtain⟨j,e1,e2,e3⟩:=hcap.get h1
   rw[c7,e1]at h2
   have h2':(σ[j]?).join=some v:=by simpa using h2
   have h4:σ[j]? =some (some v):=by
    cases q:σ[j]? with
    |none=>rw[q]at h2';cases h2'
    |some w=>rw[q]at h2';exact jh some h2'
   obtain⟨m0,hn0,hl0⟩:=I.loc
   have mm:=tM e3
   have vis:=aR.free ck mm
   obtain⟨u,r,l⟩:=hl0 j x v e2 h4 (.inr vis)
   refine⟨u,r,.inr ?_⟩
   rcases l with⟨k,_⟩|⟨k,c,e,z⟩
   ·rcases vis with q|q
    ·rw[show X.env.kindOf x=some .cell from q]at k;cases k
    ·rw[show X.env.kindOf x=some .free from q]at k;cases k
   ·obtain⟨d,hd⟩:=cl2 x mm
    have:=cl1 x d hd
    rw[e]at this
    cases this
    exact⟨qP e3,c,hd,z.keeps hk⟩
 ·obtain⟨v,z⟩:=I.cell x c (cl1 x c e)
  exact⟨v,z.keeps hk⟩
 ·show(own.map (fun _=>(none:Option V))++ix.map fun j=>(σ[j]?).join).length=(own++caps).length
  simp[hcap.len]
theorem ux(ck:aR X.env.scope scope=true)(hkind:scope.kind= .function)(hcap:jd X scope caps ix)(hc:X.calm=true)(hg:∀s H cl C ex,PG (eZ X scope (own++caps) s H cl C ex) tg g)(ht:∀s H cl C ex,PX (eZ X scope (own++caps) s H cl C ex) ifs tc)(he:∀s H cl C ex,PE (eZ X scope (own++caps) s H cl C ex) elt te){pins:List (Addr×Obj)}{s2:Shared}{σ:St}{H2:Hp}{E:Value->Shared->Prop}(I2:Inv X pins σ H2 s2){it:Addr}{fp:List Addr}{tn:Nat->Heap->Prop}{J:It}(T:Turn X.prog X.w X.K tg J fp it tn)(st2:tn 0 s2.heap)(f2:∀b∈fp,FpOk X pins H2 b)
  {W:Nat->Nat->List V->St->Hp->Prop}{m0:Nat}(w0:W 0 m0 [] (m7 own ix σ) H2){Fin:List V->Hp->Prop}(turn:∀i m acc σ H,W i m acc σ H->(J.stop i H/\acc.length<=sizeLine/\Fin acc H)\/(J.go i H/\acc.length<sizeLine/\∃N:List V->St->Hp->Prop,(∀acc' σ' H',N acc' σ' H'->∃m',m'<m/\W (i+1) m' acc' σ' H')/\∀x H',J.yld i H x H'->g x σ H' fun σ2 H2=>tc σ2 H2 fun b H3=>
   if b=true then te σ2 H3 fun v H4=>N (acc++[v]) σ2 H4 else N acc σ2 H3))
  {RR:Value->Addr->Result->Shared->Prop}(hRR:∀D C s' acc Hf m,Inv X pins σ (upd Hf D (.lst acc)) s'->Hf D=none->s'.heap.Ns C m->FpOk X pins (upd Hf D (.lst acc)) C->Fin acc Hf->RR (.ref D) C (.ok .next) s'):
  wpAny (model X.prog X.w) X.A (newList []) (fun acc s₃=>wpAny (model X.prog X.w) X.A (newFunctionEnv scope X.env.globals (cG X.env.cells scope.names []) [] X.env.qual none .none (some X.env)) (fun cenv s₄=>
   codeAny (model X.prog X.w) X.A (.compStart (.ListComp elt [⟨tg,iter,ifs,0⟩] scope pos) 0 (.ref it) acc {cenv with scope:=relabel scope X.env}) (RR acc cenv.locals) s₄) E s₃) E s2:=by
 refine wK (wpAny_newFunctionEnv (aR.cell ck) (by intro y hy;simp at hy) (fun h₁ hns₁ hsb₁=> ?_) hkind)
 dsimp only at hns₁ hsb₁⊢
 generalize hP:s2.heap.push {cls:= .type "list",dict:=none,data:= .seq ([]:List Value).toArray}=P1 at hns₁ hsb₁⊢
 have hC:P1.objs.size=s2.heap.objs.size+1:=by rw[<-hP,wH]
 have hlt:∀b∈fp,b<s2.heap.objs.size:=fun b hb=>by
  obtain⟨o,e,_⟩:=T.obj _ _ st2 b hb
  exact cA e
 have old:∀b o,s2.heap.get? b=some o->h₁.get? b=some o:=fun b o e=>
  hsb₁.extBut b o (by rw[hC];exact bQ (lV (cA e))) (cM _ (hP▸cM _ e))
 have hD1:h₁.get? s2.heap.objs.size=some {cls:= .type "list",data:= .seq ([]:List Value).toArray 0}:=
  hsb₁.extBut _ _ (by rw[hC];exact bQ (nQ _)) (cM _ (hP▸gB _ rfl))
 generalize vK:s2.heap.objs.size=D at *
 rw[hC]at hns₁⊢
 have entry:Inv (eZ X scope (own++caps) s2 H2 (cG X.env.cells scope.names []) (D+1) fp) [] (m7 own ix σ) H2 {s2 with heap:=h₁,toks:=s2.toks+([]:List (Str×Value)).length}:=
  BX ck hkind hcap I2 f2 (by rw[vK];exact hlt) (by rw[vK];exact wD _) rfl I2.bare old hns₁
 generalize hX':eZ X scope (own++caps) s2 H2 (cG X.env.cells scope.names []) (D+1) fp=X' at entry
 have eP:X'.prog=X.prog:=by rw[<-hX'];rfl
 have ew:X'.w=X.w:=by rw[<-hX'];rfl
 have eK:X'.K=X.K:=by rw[<-hX'];rfl
 have eA:X'.A=X.A:=by rw[<-hX'];rfl
 have yZ:X'.calm=true:=by rw[<-hX'];exact hc
 have Uo:X'.fs=frs X.stack:=by rw[<-hX'];rfl
 have YH:X'.ex=fp:=by rw[<-hX'];rfl
 have YF:X'.pn=[]:=by rw[<-hX'];rfl
 have Um:X'.s₀=s2:=by rw[<-hX'];rfl
 have eH0:X'.H₀=H2:=by rw[<-hX'];rfl
 have exe:X'.xe=fun _ _=>False:=by rw[<-hX'];rfl
 have vQ:X'.env=compEnvC scope (cG X.env.cells scope.names []) (D+1) X.env:=by rw[<-hX'];rfl
 have rF:X'.env.locals=D+1:=by rw[vQ];rfl
 have hg':PG X' tg g:=by rw[<-hX'];exact hg _ _ _ _ _
 have ht':PX X' ifs tc:=by rw[<-hX'];exact ht _ _ _ _ _
 have he':PE X' elt te:=by rw[<-hX'];exact he _ _ _ _ _
 have ecl:∀x c,X'.env.cells.lookup x=some c->c<D:=fun x c e=>by
  obtain⟨v,o,ho,_⟩:=entry.cell x c e
  have hcn:=entry.freeC x c e
  -- a cell of the enclosing frame: it lies in aaH heap
  rw[vQ]at e
  rcases eG (tM e)with q|⟨q,mm⟩
  ·cases q
  ·obtain⟨d,hd⟩:=I2.ok.has x (aR.free ck mm)
   rw[hd]at q
   have q:c=d:=q
   subst q
   obtain⟨v',o',ho',_⟩:=I2.cell x c hd
   rw[<-vK]
   exact cA ho'
 have dfs:D∉frs X.stack:=fun hb=>by
  rcases cB.mp (I2.stkSub D hb)with z|z
  ·exact absurd (Nat.lt_of_lt_of_eq I2.lt vK) (by rw[z];exact p7 _)
  ·exact I2.nofs (zN vK) z
 have Uk:∀{H':Hp} {o:Obj},(∀b∈fp,H' b=none)->∀b∈fp,FpOk X' [(D,o)] H' b:=fun{H' o} hn b hb=>by
  have Vw:=hlt b hb
  refine⟨hn b hb,by rw[rF];exact bQ (lV Vw),?_,.inl (by rw[YH];exact hb),fun x c e=> ?_,fun p hp=> ?_⟩
  ·rw[Uo]
   intro z
   rcases cB.mp (I2.stkSub b z)with z|z
   ·exact(f2 b hb).2.1 z
   ·exact(f2 b hb).2.2.1 z
  ·rw[vQ]at e
   rcases eG (tM e)with q|⟨q,mm⟩
   ·cases q
   ·obtain⟨d,hd⟩:=I2.ok.has x (aR.free ck mm)
    rw[hd]at q
    have q:c=d:=q
    subst q
    exact(f2 b hb).2.2.2.2.1 x c hd
  ·rw[YF]at hp
   have:p=(D,o):=by simpa using hp
   rw[this]
   exact wR Vw
 have JC:∀{σ':St} {H':Hp} {s':Shared} {o:Obj},Inv X' [] σ' H' s'->s'.heap.get? D=some o->H' D=none->(∀v,o.data≠.cell v)->Inv X' [(D,o)] σ' H' s':=fun{σ' H' s' o} I e n d=>
  I.pins_of fun p hp=>by
   have:p=(D,o):=by simpa using hp
   subst this
   exact⟨e,n,by rw[rF];exact bQ (nQ D),by rw[Uo];exact dfs,d⟩
 have loop:∀s₃:Shared,s₃={s2 with heap:=h₁,toks:=s2.toks+([]:List (Str×Value)).length}->
   codeAny (model X.prog X.w) X.A (.compLoop (.ListComp elt [⟨tg,iter,ifs,0⟩] scope pos) 0 (.ref it) (.ref D) X'.env) (RR (.ref D) (D+1)) s₃:=by
  intro s₃ hs₃
  refine codeAny_loop rfl (fun n s'=>∃i acc its k σ' H',Inv X' [] σ' H' s'/\tn i s'.heap/\(∀b∈fp,H' b=none)/\s'.heap.get? D=some {cls:= .type "list",data:= .seq (List.toArray its) k}/\Vals acc its/\H' D=none/\W i n acc σ' H') ?_ m0
   ⟨0,[],[],0,m7 own ix σ,H2,by rw[hs₃];exact entry,by rw[hs₃];exact T.keep _ _ _ st2 fun b _ o e=>old b o e,fun b hb=>(f2 b hb).1,by rw[hs₃];exact hD1,.nil,I2.hok.fresh (zN vK),w0⟩
  rintro n s3 ⟨i,acc,its,k,σ3,H3,I3,st3,fr3,eD,rv,nD,w3⟩
  show wpAny _ X.A ((compTurn (.ListComp elt [⟨tg,iter,ifs,0⟩] scope pos) 0 (.ref it) (.ref D) X'.env).onRaise (fun x=>do noteFrame x X'.env;theTreesLotGoes x)) _ _ s3
  refine wpAny_noted ?_
  rw[compTurn_list]
  have Tv:∀{α:Type} {t:Sem α} {Q:α->Shared->Prop} {E':Value->Shared->Prop} {s:Shared},wpAny (model X'.prog X'.w) X'.A t Q X'.xe s->wpAny (model X.prog X.w) X.A t Q E' s:=fun{α t Q E' s} h=>by
   rw[eP,ew,eA,exe]at h
   exact zT h (fun _ _ q=>q) fun _ _ z=>z.elim
  have Y4:=JC (o:={cls:= .type "list",data:= .seq (List.toArray its) k}) I3 eD nD (fun v z=>by
   have z':Data.seq (List.toArray its) k=Data.cell v:=z
   cases z')
  refine ak (Z9 (ak ?_))
  rcases turn i n acc σ3 H3 w3 with⟨stop,hz,fin⟩|⟨go,hz,Nn,hN,step⟩
  ·have q:=T.done X' eP ew eK yZ i [(D,_)] s3 σ3 H3 (notedBy (model X.prog X.w) X.A X'.env fun e s'=>RR (.ref D) (D+1) (.error e) s') Y4 (Uk fr3) st3 stop
   rw[eA]at q
   refine thn q fun r s4 ⟨hr,I4⟩=> ?_
   subst hr
   refine aF ?_
   obtain⟨e4,_⟩:=I4.pin (D,_) (gY _ cV)
   obtain⟨mC,hnC,_⟩:=I4.loc
   have u4:=I4.base
   rw[Uo,YH,eH0,Um]at u4
   have Xl:=I4.hok
   rw[eP,ew]at Xl
   have nC:H3 (D+1)=none:=by have:=I4.free;rw[rF]at this;exact this
   have hok:HOk X.prog X.w (upd H3 D (.lst acc)) s4.heap:=Xl.add nD ⟨hz,its,k,rv,e4⟩
   refine hRR D (D+1) s4 acc H3 mC ?_ nD (by rw[rF]at hnC;exact hnC) ?_ fin
   ·refine I2.call' (s':=s4) (ch:=fp) ?_ (u4.add (by rw[vK];exact aH _) nD) hok I4.bare fun b hb=> ?_
    ·have:=I4.os;rw[Um]at this;exact this
    ·obtain⟨f0,f1,f3,f4,f5,f6⟩:=f2 b hb
     exact⟨f4,f1,f5,f6⟩
   ·refine I2.fpOk (by rw[vK];exact wD _) ?_
    rw[cu (wR (nQ D))]
    exact nC
  ·have q:=T.item X' eP ew eK yZ i [(D,_)] s3 σ3 H3 (notedBy (model X.prog X.w) X.A X'.env fun e s'=>RR (.ref D) (D+1) (.error e) s') Y4 (Uk fr3) st3 go
   rw[eA]at q
   refine thn q fun r s4 ⟨u,hr,h4⟩=> ?_
   subst hr
   dsimp only
   refine ak (thn h4 fun _ s5 ⟨x,H5,I5,r5,y5,st5,fr5⟩=> ?_)
   have I5':=I5.pinned (Uk fr5) (T.obj _ _ st5)
   have again:∀{σ7:St} {H7:Hp} {s7:Shared},Inv X' ([(D,{cls:= .type "list",data:= .seq (List.toArray its) k})]++pinsAt fp s5.heap) σ7 H7 s7->tn (i+1) s7.heap/\(∀b∈fp,H7 b=none)/\s7.heap.get? D=some {cls:= .type "list",data:= .seq (List.toArray its) k}/\H7 D=none:=fun{σ7 H7 s7} I7=>by
    refine⟨T.keep _ _ _ st5 fun b hb o e=>(I7.pin (b,o) (gY _ (gY _ (mem_pinsAt hb e)))).1,fun b hb=> ?_,?_⟩
    ·obtain⟨o,e,d⟩:=T.obj _ _ st5 b hb
     exact(I7.pin (b,o) (gY _ (gY _ (mem_pinsAt hb e)))).2.1
    ·have:=I7.pin (D,_) (gY _ (Ew _ cV))
     exact⟨this.1,this.2.1⟩
   refine ak (thn (Tv (hg' _ s5 σ3 H5 x u _ I5' r5 (step x H5 y5))) fun _ s6 ⟨σ6,H6,I6,q6⟩=> ?_)
   refine ak (thn (Tv (ht' _ s6 σ6 H6 _ I6 q6)) fun ok s7 ⟨H7,I7,q7⟩=> ?_)
   cases ok with
   |false=>
    rw[ao qC]at q7
    obtain⟨m',hm,w7⟩:=hN _ _ _ q7
    obtain⟨a1,a2,a3,a4⟩:=again I7
    exact aF ⟨rfl,m',hm,i+1,acc,its,k,σ6,H7,I7.pins_of (fun p hp=>nomatch hp),a1,a2,a3,rv,a4,w7⟩
   |true=>
    rw[au rfl]at q7
    refine ak (ak (thn (Tv (he' _ s7 σ6 H7 _ I7 q7)) fun v s8 ⟨y,H8,I8,r8,q8⟩=> ?_))
    obtain⟨m',hm,w8⟩:=hN _ _ _ q8
    obtain⟨a1,a2,a3,a4⟩:=again I8
    have hl:=rv.length
    refine ak (Mq weo ⟨_,a3,rfl⟩ wee (wdu _ _) (wfa D its.toArray k v (by rw[eU];omega)) ⟨a3,?_⟩)
    refine aF (aF ⟨rfl,m',hm,i+1,acc++[y],its++[v],?_⟩)
    have qD:=wfv a3 (fun a:Array Value=>a.push v)
    rw[List.push_toArray]at qD
    have kp:∀b o,b≠D->s8.heap.get? b=some o->(s8.heap.update D (Obj.mapSeq fun a=>a.push v)).get? b=some o:=fun b o hb e=>(Vc s8.heap _ (jY hb)).trans e
    have I8':Inv X' [] σ6 H8 {s8 with heap:=s8.heap.update D (Obj.mapSeq fun a=>a.push v)}:=by
     refine(I8.pins_of (pins':=[]) (fun p hp=>nomatch hp)).turned (t':=s8.toks) (it:=D) kp a4 (by rw[rF];exact bQ (nQ D)) (.inr (by rw[Um,vK];exact aH _)) (fun x c e=>bQ (ecl x c e)) (fun p hp=> ?_)
     rw[YF]at hp
     exact nomatch hp
    exact⟨_,σ6,H8,I8',T.keep _ _ _ a1 fun b hb o e=>kp b o (bQ (hlt b hb)) e,a2,qD,rv.append (.cons r8 .nil),a4,w8⟩
 have K8:({newEnv scope (D+1) X.env.globals (cG X.env.cells scope.names []) X.env.qual none Value.none (some X.env) 0 with scope:=relabel scope X.env}:Env)=X'.env:=by rw[vQ];rfl
 have L:=loop _ rfl
 rw[<-K8]at L
 exact codeAny_compStart_list L (T.self X.A 0 _ _ _ (T.keep _ _ _ st2 fun b _ o e=>old b o e) L)
end
def zK(J:It)(ini:St)(H:Hp)(g:TG)(tc:TT)(te:TE)(Fin:List V->Hp->Prop):Prop:=
 ∃W:Nat->Nat->List V->St->Hp->Prop,(∃m,W 0 m [] ini H)/\∀i m acc σ H,W i m acc σ H->
  (J.stop i H/\acc.length<=sizeLine/\Fin acc H)\/(J.go i H/\acc.length<sizeLine/\∃N:List V->St->Hp->Prop,(∀acc' σ' H',N acc' σ' H'->∃m',m'<m/\W (i+1) m' acc' σ' H')/\∀x H',J.yld i H x H'->g x σ H' fun σ2 H2=>tc σ2 H2 fun b H3=>
   if b=true then te σ2 H3 fun v H4=>N (acc++[v]) σ2 H4 else N acc σ2 H3)
def Ie(wi:TI)(own:List Str)(ix:List Nat)(g:TG)(tc:TT)(te:TE):TE:=fun σ H Q=>wi σ H fun J H1=>
 zK J (m7 own ix σ) H1 g tc te fun acc H'=>∀p,H' p=none->Q (.ref p) (upd H' p (.lst acc))
section
variable{X:Cx}{tg iter elt:Expr}{ifs:List Expr}{scope:Scope}{pos:Pos}{own caps:List Str}{ix:List Nat}{wi:TI}{g:TG}{tc:TT}{te:TE}
theorem pZ(hc:X.calm=true)(hi:PI X tg iter wi)(ck:aR X.env.scope scope=true)(hkind:scope.kind= .function)(hcap:jd X scope caps ix)(hg:∀s H cl C ex,PG (eZ X scope (own++caps) s H cl C ex) tg g)(ht:∀s H cl C ex,PX (eZ X scope (own++caps) s H cl C ex) ifs tc)(he:∀s H cl C ex,PE (eZ X scope (own++caps) s H cl C ex) elt te)(hs:∀x,foldedSetIterable iter X.env x=pure x:=by intro _;rfl):PE X (.ListComp elt [⟨tg,iter,ifs,0⟩] scope pos) (Ie wi own ix g tc te):=by
 intro pins s σ H Q I h
 rw[eval_ListComp]
 refine wcv (use:=none) rfl hs (iW fun x hx=>I.ok.has x (aR.free ck hx)) hkind (aR.names ck) (thn (hi pins s σ H _ I h) fun xv s1 h1=>thn h1 fun itv s2 h2=> ?_)
 obtain⟨it,fp,tn,J,H2,e,I2,T,st2,f2,W,⟨m0,w0⟩,turn⟩:=h2
 subst e
 refine ux (RR:=fun acc C=>compPost (model X.prog X.w) X.A X.xe none (EP X pins σ Q) acc C) ck hkind hcap hc hg ht he I2 T st2 f2 w0 turn ?_
 intro D C s' acc Hf m I' nD hn fC fin
 refine⟨m,hn,fun h' sb=> ?_⟩
 obtain⟨f0,f1,f3,f4,f5,f6⟩:=fC
 exact⟨.ref D,_,I'.turned (t':=s'.toks) (it:=C) (fun b o hb e=>(sb.2 b hb).trans e) f0 f1 f4 f5 f6,rfl,fin D nD⟩
theorem Rj{i:Nat}{y:Str}{py spos:Pos}(hN:X.N.Nodup)(hiN:X.N[i]? =some y)(hx:Loc X.env.scope y)(hc:X.calm=true)(hi:PI X tg iter wi)(ck:aR X.env.scope scope=true)(hkind:scope.kind= .function)(hcap:jd X scope caps ix)(hg:∀s H cl C ex,PG (eZ X scope (own++caps) s H cl C ex) tg g)(ht:∀s H cl C ex,PX (eZ X scope (own++caps) s H cl C ex) ifs tc)(he:∀s H cl C ex,PE (eZ X scope (own++caps) s H cl C ex) elt te)(hsw:swapsWith (.ListComp elt [⟨tg,iter,ifs,0⟩] scope pos) (some (.Name y py)) spos.line X.env=pure true:=by rfl)(hf:X.fn y=true\/X.env.scope.names.lookup y=some .local:=by first |exact .inl rfl|exact .inr rfl|assumption)(hs:∀x,foldedSetIterable iter X.env x=pure x:=by intro _;rfl):PS X (.Assign [.Name y py] (.ListComp elt [⟨tg,iter,ifs,0⟩] scope pos) spos) (tAsg (Ie wi own ix g tc te) (gName i)):=by
 intro pins s σ H Dn I h
 rw[exec_Assign_Name_used _ _ _ _ hsw]
 refine ak (Z9 (ak ?_))
 show wpAny _ X.A (do let _<-comprehension (.ListComp elt [⟨tg,iter,ifs,0⟩] scope pos) scope X.env _ (newList []) false (eval iter X.env) (some (assign (.Name y py) X.env))) _ _ s
 refine ak (zT (wcv (use:=some (assign (.Name y py) X.env)) (Q:=fun _ s'=>SP X pins Dn .next s') rfl hs (iW fun x hx=>I.ok.has x (aR.free ck hx)) hkind (aR.names ck)
  (thn (hi pins s σ H _ I h) fun xv s1 h1=>thn h1 fun itv s2 h2=> ?_)) (fun _ s' hq=>aF (aF hq)) fun _ _ e=>e)
 obtain⟨it,fp,tn,J,H2,e,I2,T,st2,f2,W,⟨m0,w0⟩,turn⟩:=h2
 subst e
 refine ux (RR:=fun acc C=>compPost (model X.prog X.w) X.A X.xe (some (assign (.Name y py) X.env)) (fun _ s'=>SP X pins Dn .next s') acc C) ck hkind hcap hc hg ht he I2 T st2 f2 w0 turn ?_
 intro D C s' acc Hf m I' nD hn fC fin
 obtain⟨f0,f1,f3,f4,f5,f6⟩:=fC
 show wpAny _ X.A (assign (.Name y py) X.env (.ref D)) _ _ _
 refine wpAny_assign_Name (store_ok2 I' hN hiN hx (show RelV (.ref D) (.ref D)from rfl) (fun s'' I'' ⟨a,sb,ha⟩=> ?_) hf)
 have hCa:C≠a:=by
  rcases ha with ha|ha
  ·rw[ha];exact f1
  ·exact fun z=>f5 y a ha z.symm
 refine⟨m,hn.sameBut sb hCa,fun h' sb'=> ?_⟩
 exact⟨_,_,I''.turned (t':=s''.toks) (it:=C) (fun b o hb e=>(sb'.2 b hb).trans e) f0 f1 f4 f5 f6,fin D nD⟩
end
section
variable{K:W.Frag}{a:Addr}{xs:List V}{g:TG}{tc:TT}{te:TE}{Fin:List V->Hp->Prop}{ini:St}{H:Hp}
theorem Hi(Pv:Nat->List V->St->Hp->Prop)(h0:Pv 0 [] ini H)(hl:∀(i:Nat) acc σ H,i<=xs.length->Pv i acc σ H->SqL K H a xs)(hz:∀(i:Nat) acc σ H,i<=xs.length->Pv i acc σ H->acc.length<=i)(hx:xs.length<=sizeLine)(hs:∀(i:Nat) x acc σ H,xs[i]? =some x->Pv i acc σ H->g x σ H fun σ2 H2=>tc σ2 H2 fun b H3=>if b=true then te σ2 H3 fun v H4=>Pv (i+1) (acc++[v]) σ2 H4 else Pv (i+1) acc σ2 H3)(hd:∀acc σ H,Pv xs.length acc σ H->Fin acc H):zK (Itl K a) ini H g tc te Fin:=by
 refine⟨fun i m acc σ H=>m=xs.length-i/\i<=xs.length/\Pv i acc σ H,⟨xs.length,by simp,cX _,h0⟩,?_⟩
 rintro i m acc σ H ⟨rfl,hi,p⟩
 have q:=hl i acc σ H hi p
 have z:=hz i acc σ H hi p
 by_cases hlt:i<xs.length
 ·refine .inr ⟨⟨xs,xs[i],q,by simp[hlt]⟩,by omega,fun acc σ H=>Pv (i+1) acc σ H,fun acc' σ' H' r=>⟨_,by omega,rfl,hlt,r⟩,fun x H' y=> ?_⟩
  obtain⟨e,y⟩:=y
  subst e
  exact hs i x acc σ _ (y xs q) p
 ·have e:i=xs.length:=by omega
  subst e
  exact .inl ⟨⟨xs,q,aH _⟩,by omega,hd acc σ H p⟩
theorem LQ(Pv:Nat->List V->St->Hp->Prop)(h0:Pv 0 [] ini H)(hl:∀(i:Nat) acc σ H,i<=xs.length->Pv i acc σ H->SqT K H a xs)(hz:∀(i:Nat) acc σ H,i<=xs.length->Pv i acc σ H->acc.length<=i)(hx:xs.length<=sizeLine)(hs:∀(i:Nat) x acc σ H,xs[i]? =some x->Pv i acc σ H->g x σ H fun σ2 H2=>tc σ2 H2 fun b H3=>if b=true then te σ2 H3 fun v H4=>Pv (i+1) (acc++[v]) σ2 H4 else Pv (i+1) acc σ2 H3)(hd:∀acc σ H,Pv xs.length acc σ H->Fin acc H):zK (Itt K a) ini H g tc te Fin:=by
 refine⟨fun i m acc σ H=>m=xs.length-i/\i<=xs.length/\Pv i acc σ H,⟨xs.length,by simp,cX _,h0⟩,?_⟩
 rintro i m acc σ H ⟨rfl,hi,p⟩
 have q:=hl i acc σ H hi p
 have z:=hz i acc σ H hi p
 by_cases hlt:i<xs.length
 ·refine .inr ⟨⟨xs,xs[i],q,by simp[hlt]⟩,by omega,fun acc σ H=>Pv (i+1) acc σ H,fun acc' σ' H' r=>⟨_,by omega,rfl,hlt,r⟩,fun x H' y=> ?_⟩
  obtain⟨e,y⟩:=y
  subst e
  exact hs i x acc σ _ (y xs q) p
 ·have e:i=xs.length:=by omega
  subst e
  exact .inl ⟨⟨xs,q,aH _⟩,by omega,hd acc σ H p⟩
theorem Ri{lo:Int}{n:Nat}(Pv:Nat->List V->St->Hp->Prop)(h0:Pv 0 [] ini H)(hz:∀(i:Nat) acc σ H,i<=n->Pv i acc σ H->acc.length<=i)(hx:n<=sizeLine)(hs:∀(i:Nat) acc σ H,i<n->Pv i acc σ H->g (.int (lo+i)) σ H fun σ2 H2=>tc σ2 H2 fun b H3=>if b=true then te σ2 H3 fun v H4=>Pv (i+1) (acc++[v]) σ2 H4 else Pv (i+1) acc σ2 H3)(hd:∀acc σ H,Pv n acc σ H->Fin acc H):zK (Itr lo n) ini H g tc te Fin:=by
 refine⟨fun i m acc σ H=>m=n-i/\i<=n/\Pv i acc σ H,⟨n,by simp,cX _,h0⟩,?_⟩
 rintro i m acc σ H ⟨rfl,hi,p⟩
 have z:=hz i acc σ H hi p
 by_cases hlt:i<n
 ·refine .inr ⟨hlt,by omega,fun acc σ H=>Pv (i+1) acc σ H,fun acc' σ' H' r=>⟨_,by omega,rfl,hlt,r⟩,fun x H' y=> ?_⟩
  obtain⟨e,y⟩:=y
  subst e y
  exact hs i acc σ _ hlt p
 ·have e:i=n:=by omega
  subst e
  exact .inl ⟨aH _,by omega,hd acc σ H p⟩
end
end L2
namespace pK
open PySem PySem.W PyProof.Rows
section
variable{O:KeyOrd}{key:Nat->O.α}{N:Nat}{cmp:Nat->Nat->(Bool->Shared->Prop)->Shared->Prop}{s:Shared}
def jg(O:KeyOrd)(key:Nat->O.α)(N:Nat)(cmp:Nat->Nat->(Bool->Shared->Prop)->Shared->Prop)(s:Shared):Prop:=
 ∀i j (C:Bool->Shared->Prop),i<N->j<N->C (O.blt (key i) (key j)) s->cmp i j C s
def KN(key:Nat->O.α)(p:Array Nat)(i:Nat):O.α:=key (p.getD i 0)
def So(key:Nat->O.α)(p:Array Nat)(k:Nat):Prop:=∀i j,i<=j->j<k->O.kle (KN key p i) (KN key p j)
def Ni(key:Nat->O.α)(p:Array Nat)(k:Nat):Prop:=∀i j,i<=j->j<k->O.kle (KN key p j) (KN key p i)
structure Ord(N:Nat)(p:Array Nat):Prop where
 perm:p.Perm (List.toArray (List.range N))
theorem Ord.size{p:Array Nat}(h:Ord N p):p.size=N:=by have:=h.perm.size_eq;simpa using this
theorem Ord.lt{p:Array Nat}(h:Ord N p){i:Nat}(hi:i<N):p.getD i 0<N:=by
 have hi':i<p.size:=by rw[h.size];exact hi
 have e:p.getD i 0=p[i]:=by simp[Array.getD,hi']
 rw[e]
 have m:p[i]∈p.toList:=by simp
 have:=(yef.mp h.perm).mem_iff.mp m
 simpa using this
theorem Ord.rev{p:Array Nat}(h:Ord N p)(i j:Nat):Ord N (kas_rev p i j):=⟨(mirror_perm _ _ _ _).trans h.perm⟩
theorem Ord.bub{p:Array Nat}(h:Ord N p)(i j:Nat):Ord N (bubble p i j):=⟨(bubble_perm _ _ _).trans h.perm⟩
theorem rA(p:Array Nat)(i:Nat):p.getD i 0=(p[i]?).getD 0:=by simp
theorem Cw{p:Array Nat}{i j:Nat}(hj:j<=p.size)(k:Nat):KN key (kas_rev p i j) k=if i<=k/\k<j then KN key p (i+j-1-k)else KN key p k:=by
 have e:=getElem?_mirror_all (i:=i) hj k
 unfold KN kas_rev
 rw[rA,e]
 split
 ·rw[rA]
 ·rw[rA]
theorem V2{p:Array Nat}{i j:Nat}(hj:j<=p.size)(heq:∀k,i<=k->k<j->KN key p k=KN key p (j-1))(k:Nat):KN key (kas_rev p i j) k=KN key p k:=by
 rw[Cw hj]
 split
 ·rename_i h
  rw[heq k h.1 h.2,heq _ (by omega) (by omega)]
 ·rfl
theorem Lr{p:Array Nat}{src d:Nat}(hs:src<p.size)(hd:d<=src)(k:Nat):KN key (bubble p src d) k=if k=src-d then KN key p src else if src-d<k/\k<=src then KN key p (k-1)else KN key p k:=by
 have e:=getElem?_bubble hs d hd k
 have q:KN key (bubble p src d) k=key (((bubble p src d)[k]?).getD 0):=jh key (rA _ _)
 have q2:∀i,KN key p i=key ((p[i]?).getD 0):=fun i=>jh key (rA _ _)
 rw[q,e,q2,q2,q2]
 by_cases h1:k=src-d
 ·rw[au h1,au h1]
 ·rw[ao h1,ao h1]
  by_cases h2:src-d<k/\k<=src
  ·rw[au h2,au h2]
  ·rw[ao h2,ao h2]
theorem Eb{i j:Nat}(h:i<=j)(hn:¬i=j):i<=j-1:=Zy (Hz h hn)
theorem BW{j n:Nat}(h:j<n+1)(hn:¬j<n):j=n:=Rm (Qh h) (Qe.mp hn)
theorem jy{x k:Nat}(h:1<=x)(hk:x<=k):x-1<k:=Wd h hk
theorem Br{x f N:Nat}(h:x+(f+1)<=N):x<N:=gA (Nat.lt_add_of_pos_right (wF f)) h
theorem uN{x f N:Nat}(h:x+(f+1)<=N):x+1+f<=N:=eO (zN (ZG x f)) h
theorem Qx{x f m:Nat}(h:m<=x+1+f):m<=x+(f+1):=eO h (zN (ZG x f))
theorem Sg{i j n:Nat}(h:i<=j):0+n-1-j<=0+n-1-i:=Nat.sub_le_sub_left h _
theorem Sd{i n:Nat}(h:i<n):0+n-1-i<n:=by
 rw[Nat.zero_add]
 exact CW (ZK _ _) (Wd (CW (cX _) h) (aH _))
theorem asc(ok:jg O key N cmp s){p:Array Nat}(hp:Ord N p){Q:Nat->Shared->Prop}:∀(f n:Nat),1<=n->n+f<=N->So key p n->(∀m,n<=m->m<=n+f->So key p m->(m=n+f\/O.klt (KN key p m) (KN key p (m-1)))->Q m s)->(kas_asc p f n).kasWp cmp Q s
 |0,n,_,_,hs,h=>h n (aH _) (aH _) hs (.inl rfl)
 |f+1,n,h1,hn,hs,h=>by
  have T4:n<N:=Br hn
  refine ok _ _ _ (hp.lt T4) (hp.lt (jy h1 (cQ T4))) ?_
  cases hless:O.blt (key (p.getD n 0)) (key (p.getD (n-1) 0))with
  |true=>
   show Q n s
   exact h n (aH _) (wfw _ _) hs (.inr hless)
  |false=>
   show(kas_asc p f (n+1)).kasWp cmp Q s
   refine asc ok hp f (n+1) (wF _) (uN hn) (fun i j hij hj=> ?_) fun m a b c d=>h m (wfb a) (Qx b) c (d.imp (fun z=>z.trans (ZG n f)) id)
   by_cases hjn:j<n
   ·exact hs i j hij hjn
   ·have hj':j=n:=BW hj hjn
    subst hj'
    by_cases hi':i=j
    ·subst hi';exact M5 _
    ·exact wdq (hs i (j-1) (Eb hij hi') (jy h1 (aH _))) hless
theorem tail3(ok:jg O key N cmp s){p:Array Nat}(hp:Ord N p){n:Nat}{Q:Nat×Array Nat->Shared->Prop}(h1:1<=n)(hn:n<=N)(hs:Ni key p n)(h:∀m p',Ord N p'->1<=m->m<=N->So key p' m->Q (m,p') s):(kas_tail3 n N p).kasWp cmp Q s:=by
 unfold kas_tail3
 rw[Wz]
 have hsz:n<=p.size:=by rw[hp.size];exact hn
 have hN:n+(N-n)=N:=weg hn
 refine asc ok (hp.rev 0 n) (N-n) n h1 (zN hN) (fun i j hij hj=> ?_) fun m a b c _=>h m _ (hp.rev 0 n) (eO h1 a) (eO b (zN hN)) c
 rw[Cw hsz,Cw hsz,au ⟨cX _,CW hij hj⟩,au ⟨cX _,hj⟩]
 exact hs _ _ (Sg hij) (Sd (CW hij hj))
theorem Ld{p p':Array Nat}{x:Nat}(h1:1<=x)(hs:Ni key p x)(hless:O.kle (KN key p x) (KN key p (x-1)))(hk:∀k,KN key p' k=KN key p k):Ni key p' (x+1):=by
 intro i j hij hj
 rw[hk,hk]
 by_cases hjx:j<x
 ·exact hs i j hij hjx
 ·have hj':j=x:=BW hj hjx
  subst hj'
  by_cases hi':i=j
  ·subst hi';exact M5 _
  ·exact wdq hless (hs i (j-1) (Eb hij hi') (jy h1 (aH _)))
theorem one_eq{p:Array Nat}{x i:Nat}(h1:x+1-(0+1)<=i)(h2:i<x+1):KN key p i=KN key p (x+1-1):=jh _ (Rm (Qh h2) h1)
theorem desc(ok:jg O key N cmp s){Q:Array Nat×Nat×Nat->Shared->Prop}:∀(f:Nat) (p:Array Nat) (x neq:Nat),Ord N p->1<=x->x+f<=N->Ni key p x->neq+1<=x->(∀i,x-(neq+1)<=i->i<x->KN key p i=KN key p (x-1))->
  (∀p' m q,Ord N p'->x<=m->m<=x+f->Ni key p' m->q+1<=m->(∀i,m-(q+1)<=i->i<m->KN key p' i=KN key p' (m-1))->Q (p',m,q) s)->(kas_desc f p x neq).kasWp cmp Q s
 |0,p,x,neq,hp,_,_,hs,hq,he,h=>h p x neq hp (aH _) (aH _) hs hq he
 |f+1,p,x,neq,hp,h1,hn,hs,hq,he,h=>by
  have hxN:x<N:=Br hn
  have hsz:x<=p.size:=by rw[hp.size];exact cQ hxN
  have hx1:x-1<N:=jy h1 (cQ hxN)
  have hh:∀p' m q,Ord N p'->x+1<=m->m<=x+1+f->Ni key p' m->q+1<=m->(∀i,m-(q+1)<=i->i<m->KN key p' i=KN key p' (m-1))->Q (p',m,q) s:=fun p' m q a b c d e g=>h p' m q a (wfb b) (Qx c) d e g
  refine ok _ _ _ (hp.lt hxN) (hp.lt hx1) ?_
  cases hless:O.blt (key (p.getD x 0)) (key (p.getD (x-1) 0))with
  |true=>
   show(if neq>0 then kas_desc f (kas_rev p (x-(neq+1)) x) (x+1) 0 else kas_desc f p (x+1) 0).kasWp cmp Q s
   by_cases hneq:neq>0
   ·rw[au hneq]
    exact desc ok f _ (x+1) 0 (hp.rev _ _) (wF _) (uN hn) (Ld h1 hs (WD hless) (V2 hsz he)) (wF _) (fun i h1 h2=>one_eq h1 h2) hh
   ·rw[ao hneq]
    exact desc ok f _ (x+1) 0 hp (wF _) (uN hn) (Ld h1 hs (WD hless) fun _=>rfl) (wF _) (fun i h1 h2=>one_eq h1 h2) hh
  |false=>
   show(KasT.ask (p.getD (x-1) 0) (p.getD x 0) fun d=>if d=true then KasT.ret (p,x,neq)else kas_desc f p (x+1) (neq+1)).kasWp cmp Q s
   refine ok _ _ _ (hp.lt hx1) (hp.lt hxN) ?_
   cases hl:O.blt (key (p.getD (x-1) 0)) (key (p.getD x 0))with
   |true=>exact h p x neq hp (aH _) (wfw _ _) hs hq he
   |false=>
    show(kas_desc f p (x+1) (neq+1)).kasWp cmp Q s
    have heqx:KN key p x=KN key p (x-1):=KeyOrd.kle_antisymm hl hless
    refine desc ok f _ (x+1) (neq+1) hp (wF _) (uN hn) (Ld h1 hs (by rw[heqx];exact M5 _) fun _=>rfl) (Nat.succ_le_succ hq) (fun i h1 h2=> ?_) hh
    show KN key p i=KN key p x
    by_cases hix:i=x
    ·subst hix;rfl
    ·rw[heqx];exact he i (eO (zN (Nat.succ_sub_succ x (neq+1)).symm) h1) (Hz (Qh h2) hix)
theorem descPart(ok:jg O key N cmp s){p:Array Nat}(hp:Ord N p){n:Nat}{Q:Nat×Array Nat->Shared->Prop}(hn:n+1<=N)(hs:Ni key p (n+1))(h:∀m p',Ord N p'->1<=m->m<=N->So key p' m->Q (m,p') s):(kas_descPart n N p).kasWp cmp Q s:=by
 unfold kas_descPart
 rw[Wz]
 have hN:n+1+(N-(n+1))<=N:=zN (weg hn)
 refine desc ok _ _ _ _ hp (wF _) hN hs (wF _) (fun i h1 h2=>one_eq h1 h2) fun p' m q a b c d e g=> ?_
 have hm:m<=N:=eO c hN
 have hm1:1<=m:=eO (wF _) b
 have hsz:m<=p'.size:=by rw[a.size];exact hm
 dsimp only
 by_cases hq:q>0
 ·rw[au hq]
  refine tail3 ok (a.rev _ _) hm1 hm (fun i j hij hj=> ?_) h
  rw[V2 hsz g,V2 hsz g]
  exact d i j hij hj
 ·rw[ao hq]
  exact tail3 ok a hm1 hm d h
theorem count(ok:jg O key N cmp s){p:Array Nat}(hp:Ord N p){Q:Nat×Array Nat->Shared->Prop}(h1:1<=N)(h:∀m p',Ord N p'->1<=m->m<=N->So key p' m->Q (m,p') s):(kas_count N p).kasWp cmp Q s:=by
 unfold kas_count
 rw[Wz]
 have hN:1+(N-1)=N:=weg h1
 refine asc ok hp (N-1) 1 (aH _) (zN hN) (fun i j hij hj=>by
  have hj0:j=0:=Nat.lt_one_iff.mp hj
  subst hj0
  have hi0:i=0:=Nat.le_zero.mp hij
  subst hi0;exact M5 _) fun n a b hsn hor=> ?_
 have T4:n<=N:=eO b (zN hN)
 by_cases hnn:n=N
 ·rw[au (by simpa using hnn)]
  exact h n p hp a T4 hsn
 ·rw[ao (by simpa using hnn)]
  have hlt:O.klt (KN key p n) (KN key p (n-1)):=hor.resolve_left fun z=>hnn (z.trans hN)
  have Gx:n<N:=Hz T4 hnn
  by_cases hgt:n>1
  ·rw[au hgt]
   have hn1:n-1<n:=jy a (aH _)
   refine ok _ _ _ (hp.lt h1) (hp.lt (Hy hn1 Gx)) ?_
   cases hrose:O.blt (key (p.getD 0 0)) (key (p.getD (n-1) 0))with
   |true=>exact h n p hp a T4 hsn
   |false=>
    show(kas_descPart n N (kas_rev p 0 n)).kasWp cmp Q s
    have hsz:n<=p.size:=by rw[hp.size];exact T4
    have hall:∀k,0<=k->k<n->KN key p k=KN key p (n-1):=fun k _ hk=>
     KeyOrd.kle_antisymm (hsn k (n-1) (Zy hk) hn1) (wdq hrose (hsn 0 k (cX _) hk))
    refine descPart ok (hp.rev 0 n) Gx (fun i j hij hj=> ?_) h
    rw[V2 hsz hall,V2 hsz hall]
    by_cases hjn:j<n
    ·rw[hall i (cX _) (CW hij hjn),hall j (cX _) hjn];exact M5 _
    ·have hj':j=n:=BW hj hjn
     subst hj'
     by_cases hi':i=j
     ·subst hi';exact M5 _
     ·rw[hall i (cX _) (Hz hij hi')];exact WD hlt
  ·rw[ao hgt]
   have hn1':n=1:=Rm (Qe.mp hgt) a
   subst hn1'
   refine descPart ok hp Gx (fun i j hij hj=> ?_) h
   by_cases hi':i=j
   ·subst hi';exact M5 _
   ·have hij':i<j:=Hz hij hi'
    have hj1:j=1:=Rm (Qh hj) (CW (cX i) hij')
    subst hj1
    have hi0:i=0:=Nat.lt_one_iff.mp hij'
    subst hi0
    exact WD hlt
theorem half_lt{l r:Nat}(h:l<r):(l+r)/2<r:=by omega
theorem O1{l r:Nat}(h:l<r):l<=(l+r)/2:=by omega
theorem place(ok:jg O key N cmp s){p:Array Nat}(hp:Ord N p){k:Nat}{Q:Nat->Shared->Prop}(hk:k<N)(hs:So key p k):∀(f l r:Nat),l<=r->r<=k->r-l<=f->(∀i,i<l->O.kle (KN key p i) (KN key p k))->(∀i,r<=i->i<k->O.klt (KN key p k) (KN key p i))->
  (∀l,l<=k->(∀i,i<l->O.kle (KN key p i) (KN key p k))->(∀i,l<=i->i<k->O.klt (KN key p k) (KN key p i))->Q l s)->(kas_place p k f l r).kasWp cmp Q s
 |0,l,r,hlr,hrk,hm,hlo,hhi,h=>by
  have e:l=r:=Rm hlr (Nat.sub_eq_zero_iff_le.mp (Nat.le_zero.mp hm))
  subst e
  exact h l hrk hlo hhi
 |f+1,l,r,hlr,hrk,hm,hlo,hhi,h=>by
  show(if l≥r then KasT.ret l else KasT.ask (p.getD k 0) (p.getD ((l+r)/2) 0) fun c=>if c=true then kas_place p k f l ((l+r)/2)else kas_place p k f ((l+r)/2+1) r).kasWp cmp Q s
  by_cases hge:l≥r
  ·rw[au hge]
   have e:l=r:=Rm hlr hge
   subst e
   exact h l hrk hlo hhi
  ·rw[ao hge]
   have hc:(l+r)/2<r:=half_lt (Nat.not_le.mp hge)
   have hd:l<=(l+r)/2:=O1 (Nat.not_le.mp hge)
   generalize (l+r)/2=c at hc hd⊢
   refine ok _ _ _ (hp.lt hk) (hp.lt (Hy (gA hc hrk) hk)) ?_
   cases hless:O.blt (key (p.getD k 0)) (key (p.getD c 0))with
   |true=>
    refine place ok hp hk hs f l c hd (cQ (gA hc hrk)) (Qh (gA (Nat.sub_lt_sub_right hd hc) hm)) hlo (fun i h1 h2=> ?_) h
    by_cases hi:i=c
    ·subst hi;exact hless
    ·exact KeyOrd.klt_of_klt_of_kle hless (hs c i h1 h2)
   |false=>
    refine place ok hp hk hs f (c+1) r hc hrk (Qh (gA (Nat.sub_lt_sub_left (CW hd hc) (Nat.lt_succ_of_le hd)) hm)) (fun i h1=> ?_) hhi h
    by_cases hi:i=c
    ·subst hi;exact hless
    ·exact wdq (hs i c (Qh h1) (gA hc hrk)) hless
theorem YT{p:Array Nat}{k l:Nat}(hs:So key p k)(hl:l<=k)(hsz:k<p.size)(hlo:∀i,i<l->O.kle (KN key p i) (KN key p k))(hhi:∀i,l<=i->i<k->O.klt (KN key p k) (KN key p i)):So key (bubble p k (k-l)) (k+1):=by
 intro i j hij hj
 have e:k-(k-l)=l:=Nat.sub_sub_self hl
 rw[Lr hsz (ZK _ _),Lr hsz (ZK _ _),e]
 have hjk:j<=k:=Qh hj
 by_cases hi1:i=l
 ·rw[au hi1]
  by_cases hj1:j=l
  ·rw[au hj1];exact M5 _
  ·have lj:l<j:=Hz (hi1▸hij) (jY hj1)
   rw[ao hj1,au ⟨lj,hjk⟩]
   exact WD (hhi (j-1) (Zy lj) (Wd (CW (cX _) lj) hjk))
 ·rw[ao hi1]
  by_cases hi2:l<i/\i<=k
  ·have lj:l<j:=gA hi2.1 hij
   rw[au hi2,ao (jY (bQ lj)),au ⟨lj,hjk⟩]
   exact hs _ _ (Nat.sub_le_sub_right hij 1) (Wd (CW (cX _) lj) hjk)
  ·rw[ao hi2]
   have il:i<l:=Hz (Qe.mp fun z=>hi2 ⟨z,eO hij hjk⟩) hi1
   by_cases hj1:j=l
   ·rw[au hj1];exact hlo i il
   ·rw[ao hj1]
    by_cases hj2:l<j/\j<=k
    ·rw[au hj2];exact hs _ _ (Zy (Hy il hj2.1)) (Wd (CW (cX _) hj2.1) hjk)
    ·rw[ao hj2];exact hs _ _ hij (gA (Hz (Qe.mp fun z=>hj2 ⟨z,hjk⟩) hj1) hl)
theorem bins(ok:jg O key N cmp s){Q:Array Nat->Shared->Prop}:∀(f:Nat) (p:Array Nat) (k:Nat),Ord N p->1<=k->k+f=N->So key p k->(∀p',Ord N p'->So key p' N->Q p' s)->(kas_bin f p k).kasWp cmp Q s
 |0,p,k,hp,_,hf,hs,h=>h p hp ((show k=N from hf)▸hs)
 |f+1,p,k,hp,h1,hf,hs,h=>by
  show((kas_place p k k 0 k).bind fun l=>kas_bin f (bubble p k (k-l)) (k+1)).kasWp cmp Q s
  rw[Wz]
  have hk:k<N:=Br (zN hf)
  have hsz:k<p.size:=by rw[hp.size];exact hk
  refine place ok hp hk hs k 0 k (cX _) (aH _) (ZK _ _) (fun i hi=>absurd hi (MF _)) (fun i h1 h2=>absurd h2 (Qe.mpr h1)) fun l hl hlo hhi=> ?_
  exact bins ok f _ (k+1) (hp.bub _ _) (wF _) ((ZG k f).trans hf) (YT hs hl hsz hlo hhi) h
theorem sort(ok:jg O key N cmp s){Q:Array Nat->Shared->Prop}(h1:1<=N)(h:∀p',Ord N p'->So key p' N->Q p' s):(kas_sort N).kasWp cmp Q s:=by
 unfold kas_sort
 rw[Wz]
 refine count ok ⟨Array.Perm.refl _⟩ h1 fun m p' hp hm1 hm2 hs=> ?_
 dsimp only
 by_cases hlt:m<N
 ·rw[au hlt]
  have e:max m 1=m:=by omega
  rw[e]
  exact bins ok _ _ _ hp hm1 (by omega) hs h
 ·rw[ao hlt]
  have e:m=N:=by omega
  subst e
  exact h p' hp hs
end
end pK
namespace pK
open PySem PySem.W PyProof.Rows PySem.Calls
def GX{O:KeyOrd}(key:Nat->O.α)(vs out:List Value):Prop:=∃p:Array Nat,Ord vs.length p/\So key p vs.length/\out=p.toList.map fun i=>vs.getD i Value.none
section
variable{prog:Program}{w:World}{A:Around}{E:Value->Shared->Prop}{s:Shared}{O:KeyOrd}{key:Nat->O.α}{κ:SortKind}{vs:List Value}
theorem Bc(h2:vs.length<2):GX key vs vs:=by
 refine⟨List.toArray (List.range vs.length),⟨Array.Perm.refl _⟩,fun i j hij hj=> ?_,?_⟩
 ·have e:i=j:=by omega
  subst e;exact M5 _
 ·match vs,h2 with
  |[],_=>rfl
  |[v],_=>rfl
  |_::_::_,h=>simp at h;omega
theorem gU{a:Addr}{n:Nat}{P:PySem.Fin->Shared->Prop}(ho:s.heap.get? a=some (seqObj "list" vs.toArray n))(h64:vs.length<64)(hkind:2<=vs.length->∀h',(∀b o,b≠a->s.heap.get? b=some o->h'.get? b=some o)->∀Q:SortKind->Shared->Prop,Q κ {s with heap:=h'}->wpAny (model prog w) A (keyKind' vs.toArray) Q E {s with heap:=h'})(Kq:2<=vs.length->∀h',(∀b o,b≠a->s.heap.get? b=some o->h'.get? b=some o)->jg O key vs.length (kas_ask prog w A κ vs) {s with heap:=h'})(h:∀h' out c,GX key vs out->(∀b o,b≠a->s.heap.get? b=some o->h'.get? b=some o)->h'.get? a=some (seqObj "list" (List.toArray out) c)->P (.done (.ret .none)) {s with heap:=h'}):
  wpAny (model prog w) A (Builtin.«list.sort» ⟨[.ref a],[]⟩) P E s:=by
 have ha:a<s.heap.objs.size:=cA ho
 have s1:=wY s.heap a (Obj.mapSeq fun _=>(#[]:Array Value))
 obtain⟨e1,ho1⟩:∃e1,(s.heap.update a (Obj.mapSeq fun _=>(#[]:Array Value))).get? a=some (seqObj "list" #[] e1):=⟨_,Ry ho fun _=>#[]⟩
 have keep:∀b o,b≠a->s.heap.get? b=some o->(((s.heap.update a (Obj.mapSeq fun _=>(#[]:Array Value))).push (seqObj "tuple" vs.toArray 0)).push (seqObj "list" #[] 0)).get? b=some o:=fun b o hb e=>
  cM _ (cM _ ((s1.2 b hb).trans e))
 have ho6:(((s.heap.update a (Obj.mapSeq fun _=>(#[]:Array Value))).push (seqObj "tuple" vs.toArray 0)).push (seqObj "list" #[] 0)).get? a=some (seqObj "list" #[] e1):=cM _ (cM _ ho1)
 rw[list_sort_plain]
 refine ak (listItems_at ho rfl ?_)
 refine ak (Z1 ho rfl ?_ (by rw[eU,fM];omega) (cX _))
 refine ak (seqEpoch_at ho1 rfl ?_)
 refine ak (wpAny_newTuple ?_ (by show vs.length<=_;rw[fM];omega))
 refine ak (Rx ?_ (cX _))
 refine uM ?_
 show wpAny (model prog w) A _ P E {s with heap:=((s.heap.update a (Obj.mapSeq fun _=>(#[]:Array Value))).push (seqObj "tuple" vs.toArray 0)).push (seqObj "list" #[] 0)}
 dsimp only
 by_cases h2:vs.toArray.size<2
 ·have h2':vs.length<2:=by simpa using h2
  rw[au h2,au h2]
  refine ak (aF ?_)
  rw[StateT.run_pure]
  refine ak (aF ?_)
  dsimp only
  refine ak (seqEpoch_at ho6 rfl ?_)
  refine ak (Z1 ho6 rfl ?_ (cX _) (by rw[Array.size_map];show(pairsOf vs).size<=_;rw[pairsOf_size,fM];omega))
  simp only[wfc,WL,Rt]
  refine aF ?_
  have eo:(vs.toArray.zip vs.toArray).map (·.2)=List.toArray vs:=by
   apply Array.toList_inj.mp
   simp[List.map_snd_zip]
  have s2:=wY (((s.heap.update a (Obj.mapSeq fun _=>(#[]:Array Value))).push (seqObj "tuple" vs.toArray 0)).push (seqObj "list" #[] 0)) a (Obj.mapSeq fun _=>List.toArray vs)
  obtain⟨c2,hc2⟩:∃c2,((((s.heap.update a (Obj.mapSeq fun _=>(#[]:Array Value))).push (seqObj "tuple" vs.toArray 0)).push (seqObj "list" #[] 0)).update a (Obj.mapSeq fun _=>List.toArray vs)).get? a=some (seqObj "list" (List.toArray vs) c2):=⟨_,Ry ho6 fun _=>List.toArray vs⟩
  have fin:=h _ vs c2 (Bc h2') (fun b o hb e=>(s2.2 b hb).trans (keep b o hb e)) hc2
  first
   |exact fin
   |(rw[<-eo]at fin;exact fin)
   |(show P _ {s with heap:=Heap.update _ a (Obj.mapSeq fun _=>(vs.toArray.zip vs.toArray).map (·.2))};rw[eo];exact fin)
 ·have h2':2<=vs.length:=by rw[eU]at h2;omega
  rw[ao h2,ao h2]
  refine ak (hkind h2' _ keep _ ?_)
  refine ak (zT (kat_run (Q:=fun st' s'=>s'={s with heap:=((s.heap.update a (Obj.mapSeq fun _=>(#[]:Array Value))).push (seqObj "tuple" vs.toArray 0)).push (seqObj "list" #[] 0)}/\∃p:Array Nat,p.size=vs.length/\arrOf st'=p.map (kas_item (vs.toArray.zip vs.toArray))/\failedOf st'=none/\Ord vs.length p/\So key p vs.length)
   (G:=fun p s'=>s'={s with heap:=((s.heap.update a (Obj.mapSeq fun _=>(#[]:Array Value))).push (seqObj "tuple" vs.toArray 0)).push (seqObj "list" #[] 0)}/\Ord vs.length p/\So key p vs.length)
   rfl h2' h64 (fun p' st' s' a1 a2 a3 a4=>⟨a4.1,p',a1,a2,a3,a4.2.1,a4.2.2⟩) (sort (Kq h2' _ keep) (by omega) fun p' hp hs=>⟨rfl,hp,hs⟩)) ?_ fun _ _ e=>e)
  rintro⟨⟨⟩,st'⟩ s' ⟨rfl,p,hp,har,hf,hor,hso⟩
  dsimp only
  have hout:=kat_snds rfl har
  have hsz:(List.toArray (p.toList.map fun i=>vs.getD i Value.none)).size=vs.length:=by rw[eU,aG,sO,hp]
  rw[hout]
  refine ak (seqEpoch_at ho6 rfl ?_)
  refine ak (Z1 ho6 rfl ?_ (cX _) (eO (zN hsz) (by rw[fM];omega)))
  rw[hf]
  simp only[wfc,WL,Rt]
  have s2:=wY (((s.heap.update a (Obj.mapSeq fun _=>(#[]:Array Value))).push (seqObj "tuple" vs.toArray 0)).push (seqObj "list" #[] 0)) a (Obj.mapSeq fun _=>List.toArray (p.toList.map fun i=>vs.getD i Value.none))
  obtain⟨c2,hc2⟩:∃c2,((((s.heap.update a (Obj.mapSeq fun _=>(#[]:Array Value))).push (seqObj "tuple" vs.toArray 0)).push (seqObj "list" #[] 0)).update a (Obj.mapSeq fun _=>List.toArray (p.toList.map fun i=>vs.getD i Value.none))).get? a=some (seqObj "list" (List.toArray (p.toList.map fun i=>vs.getD i Value.none)) c2):=⟨_,Ry ho6 fun _=>_⟩
  exact aF (h _ _ c2 ⟨p,hor,hso,rfl⟩ (fun b o hb e=>(s2.2 b hb).trans (keep b o hb e)) hc2)
theorem qK{l:Addr}{Q:Value->Shared->Prop}(hl:s.heap.IsList l vs.toArray)(h64:vs.length<64)(hkind:2<=vs.length->∀h',(∀b o,s.heap.get? b=some o->h'.get? b=some o)->∀(E:Value->Shared->Prop) (Q:SortKind->Shared->Prop),Q κ {s with heap:=h'}->wpAny (model prog w) A.in1.in1 (keyKind' vs.toArray) Q E {s with heap:=h'})(Kq:2<=vs.length->∀h',(∀b o,s.heap.get? b=some o->h'.get? b=some o)->jg O key vs.length (kas_ask prog w A.in1.in1 κ vs) {s with heap:=h'})(h:∀D h' out c,GX key vs out->s.heap.objs.size<=D->(∀b o,s.heap.get? b=some o->h'.get? b=some o)->h'.get? D=some (seqObj "list" (List.toArray out) c)->Q (.ref D) {s with heap:=h'}):
  wpAny (model prog w) A (call (.builtin "sorted") [.ref l]) Q E s:=by
 refine wcq kind_sorted plain_sorted entry_sorted (args_sorted1 _) ?_
 unfold Builtin.«sorted»
 refine ak (m:=checkCount "sorted" 1 1 _) (aF ?_)
 refine ak (collect_list hl ?_ (by rw[fM];omega))
 refine ak (Rx ?_ (by rw[fM];omega))
 have hsz:((s.heap.push (seqObj "list" #[] 0)).update s.heap.objs.size (Obj.mapSeq (· ++vs.toArray))).objs.size=s.heap.objs.size+1:=by
  rw[Heap.size_update,size_push']
 have hoL:(((s.heap.push (seqObj "list" #[] 0)).update s.heap.objs.size (Obj.mapSeq (· ++vs.toArray))).push (seqObj "list" vs.toArray 0)).get? (s.heap.objs.size+1)=some (seqObj "list" vs.toArray 0):=by
  rw[<-hsz];exact gB _ rfl
 have keep:∀b o,s.heap.get? b=some o->(((s.heap.push (seqObj "list" #[] 0)).update s.heap.objs.size (Obj.mapSeq (· ++vs.toArray))).push (seqObj "list" vs.toArray 0)).get? b=some o:=fun b o q=>by
  have hlt:b<s.heap.objs.size:=cA q
  rw[wdg _ _ _ (by rw[hsz];exact bQ (lV hlt)),Heap.get?_update_ne _ _ _ _ (bQ hlt),wdg _ _ _ (bQ hlt)]
  exact q
 have ne:∀b o,s.heap.get? b=some o->b≠s.heap.objs.size+1:=fun b o q=>bQ (lV (cA q))
 show wpAny _ _ _ _ _ {s with heap:=((s.heap.push (seqObj "list" #[] 0)).update s.heap.objs.size (Obj.mapSeq (· ++vs.toArray))).push (seqObj "list" vs.toArray 0)}
 rw[hsz]
 refine ak (uM (Dd slot_list_sort ⟨_,hoL,rfl⟩ entry_list_sort ?body (args_list_sort _)))
 case body=>
  refine gU (key:=key) (κ:=κ) (s:={s with heap:=((s.heap.push (seqObj "list" #[] 0)).update s.heap.objs.size (Obj.mapSeq (· ++vs.toArray))).push (seqObj "list" vs.toArray 0)}) hoL h64
   (fun h2 h' k Q hq=>hkind h2 h' (fun b o q=>k b o (ne b o q) (keep b o q)) _ Q hq) (fun h2 h' k=>Kq h2 h' fun b o q=>k b o (ne b o q) (keep b o q)) fun h' out c ho k hc=> ?_
  exact⟨_,rfl,aF ⟨_,rfl,h _ h' out c ho (wD _) (fun b o q=>k b o (ne b o q) (keep b o q)) hc⟩⟩
end
end pK
namespace HT
open PySem PyProof.Rows
theorem dN:∀(a b:List Int),lexLt a b=decide (a<b)
 |[],[]=>by simp[lexLt]
 |[],_::_=>by simp[lexLt]
 |_::_,[]=>by simp[lexLt]
 |x::xs,y::ys=>by
  rw[lexLt_cons,dN xs ys]
  by_cases e:x=y
  ·subst e;simp
  ·rw[ao e]
   by_cases l:x<y
   ·simp[l,ZC]
   ·have:¬(x::xs<y::ys):=by rw[ZC];simp[l,e]
    simp[l,this]
end HT
namespace pK
open PySem PySem.W PyProof.Rows PySem.Calls
def lexOrd:KeyOrd where
 α:=List Int
 blt a b:=decide (a<b)
 irrefl a:=by simpa using List.lt_irrefl a
 trans a b c h1 h2:=by simp only[Ey]at *;exact List.lt_trans h1 h2
 negTrans a b c h:=by
  simp only[Ey]at *
  by_cases hab:a<b
  ·exact .inl hab
  ·exact .inr (List.lt_of_le_of_lt (List.not_lt.mp hab) h)
 total a b h1 h2:=by simp only[wfp]at *;exact List.le_antisymm (List.not_lt.mp h2) (List.not_lt.mp h1)
def rm:KeyOrd where
 α:=Int
 blt a b:=decide (a<b)
 irrefl a:=by simp
 trans a b c h1 h2:=by simp only[Ey]at *;omega
 negTrans a b c h:=by simp only[Ey]at *;omega
 total a b h1 h2:=by simp only[wfp]at *;omega
section
variable{prog:Program}{w:World}{A:Around}{E:Value->Shared->Prop}{s:Shared}{Q:Bool->Shared->Prop}
theorem Kd{na nb:Nat}{xs ys:List Value}{ns ms:List Int}(i:Nat)(hx:IntsAre xs ns)(hy:IntsAre ys ms)(hl:ns.length+nb=ms.length+na)(h:Q (HT.lexLt ns ms) s):KatLex prog w A true (decide (na<nb)) Q (xs.zip ys) i s:=by
 induction hx generalizing ys ms i with
 |nil=>
  rw[List.zip_nil_left]
  refine kat_nil ?_
  cases hy with
  |nil=>
   rw[HT.lexLt_nil_nil]at h
   rw[jN (by simp only[Mj]at hl;omega)];exact h
  |cons c u hw=>
   rw[HT.lexLt_nil_cons]at h
   rw[fj (by simp only[Mj,qx]at hl;omega)];exact h
 |cons a t hv ih=>
  cases hy with
  |nil=>
   rw[List.zip_nil_right]
   refine kat_nil ?_
   rw[HT.lexLt_cons_nil]at h
   rw[jN (by simp only[Mj,qx]at hl;omega)];exact h
  |cons c u hw=>
   rw[wen]
   rw[HT.lexLt_cons]at h
   refine kat_cons (wpAny_eqBool_int ?_)
   refine kat_go (fun e=> ?_) fun e=> ?_
   ·have e':a=c:=by simpa using e
    rw[au e']at h
    exact kat_yes (ih (i+1) hw (by simp only[qx]at hl;omega) h)
   ·have e':a≠c:=by simpa using e
    rw[ao e']at h
    refine kat_no ?_
    cases i with
    |zero=>exact oneLt_int h
    |succ i=>exact kat_one _ _ (lt_int (show PySem.W.BoolBack Q (.bool (decide (a<c))) s from h))
end
theorem vA{O:KeyOrd}{key:Nat->O.α}{α:Type}{vs out:List Value}{its:List α}{d:α}{f:α->O.α}{R:α->Value->Prop}(hR:Paired R its vs)(hk:∀i (hi:i<its.length),key i=f its[i])(h:GX key vs out):
  ∃its':List α,its'.Perm its/\Paired R its' out/\its'.Pairwise fun x y=>O.kle (f x) (f y):=by
 obtain⟨p,hp,hs,rfl⟩:=h
 have hl:=hR.length
 have get:∀{l₁:List α} {l₂:List Value} {i:Nat},Paired R l₁ l₂->(h:i<l₁.length)->∃v,l₂[i]? =some v/\R l₁[i] v:=by
  intro l₁ l₂ i q
  induction q generalizing i with
  |nil=>intro h;simp at h
  |cons r t ih=>
   intro h
   cases i with
   |zero=>exact⟨_,rfl,r⟩
   |succ i=>
    obtain⟨v,e,rv⟩:=ih (i:=i) (by simpa using h)
    exact⟨v,by simpa using e,by simpa using rv⟩
 have hlt:∀i∈p.toList,i<its.length:=fun i hi=>by
  have:=(yef.mp hp.perm).mem_iff.mp hi
  rw[hl];simpa using this
 refine⟨p.toList.map fun i=>its.getD i d,?_,?_,?_⟩
 ·have q:=(yef.mp hp.perm).map (fun i=>its.getD i d)
  refine q.trans ?_
  have e:(List.toArray (List.range vs.length)).toList.map (fun i=>its.getD i d)=its:=by
   rw[<-hl]
   apply V8
   intro i
   simp only[c7]
   by_cases hi:i<its.length
   ·simp[hi]
   ·simp[hi]
  rw[e]
 ·have mk:∀l:List Nat,(∀i∈l,i<its.length)->Paired R (l.map fun i=>its.getD i d) (l.map fun i=>vs.getD i Value.none):=by
   intro l
   induction l with
   |nil=>intro _;exact .nil
   |cons i l ih=>
    intro hb
    refine .cons ?_ (ih fun j hj=>hb j (dG _ hj))
    have hi:=hb i cV
    obtain⟨v,e,r⟩:=get hR hi
    have e1:its.getD i d=its[i]:=by simp[hi]
    have e2:vs.getD i Value.none=v:=by rw[kO,e];rfl
    show R (its.getD i d) (vs.getD i Value.none)
    rw[e1,e2];exact r
  exact mk _ hlt
 ·rw[Qm]
  intro i j hi hj hij
  simp only[aG,sO]at hi hj
  simp only[List.getElem_map]
  have hsz:=hp.size
  have q:=hs i j (by omega) (by omega)
  have e:∀k (hk':k<p.size),KN key p k=f (its.getD p.toList[k] d):=fun k hk'=>by
   have e1:p.getD k 0=p.toList[k]:=by simp[Array.getD,hk']
   have hb:=hlt p.toList[k] (Et _)
   have e2:its.getD p.toList[k] d=its[p.toList[k]]:=by simp only[kO,gn hb,wfx]
   unfold KN
   rw[e1,e2]
   exact hk _ hb
  rw[e i hi,e j hj]at q
  exact q
end pK
namespace L2
open PySem PySem.Spec PyProof.Rows PySem.W
section
variable{X:Cx}
end
end L2
namespace L2
open PySem PySem.Spec PyProof.Rows
section
variable{X:Cx}
theorem rH:∀{bs:List Bool} {us:List Value},Vals (bs.map V.bl) us->us=bs.map Value.bool
 |[],_,h=>by cases h;rfl
 |b::bs,_,h=>by
  cases h with
  |cons r t=>rw[wU,rH t];exact jh (· ::_) r
theorem iB(hc:X.calm=true):CallR X (.builtin "all") (fun xs H Q=>∃(a:Addr) (bs:List Bool),xs=[.ref a]/\SqL X.K H a (bs.map V.bl)/\Q (.bl (bs.all id)) H):=by
 intro pins s σ H xs us Q I r h
 obtain⟨a,bs,rfl,hS,q⟩:=h
 obtain⟨u,rfl,ru⟩:=r.one
 cases ru
 obtain⟨vs,rv,pl,hz⟩:=I.list hS
 have hv:=rH rv
 have hl:=pl.isList
 have hlt:a<s.heap.objs.size:=by obtain⟨_,e,_⟩:=hl;exact cA e
 refine call_all_walk (Vn hl ?_)
 refine⟨s.heap.objs.size,[s.heap.objs.size,a],[s.heap.objs.size],vs.toArray.size,_,_,fun i=>(bs[i]?).getD true,rfl,Vh (A:=X.A.in1) (I.ok.hd hc) _ a (bQ hlt) vs.toArray,
  ⟨⟨_,gB _ rfl,rfl,rfl⟩,hl.push _⟩,fun i v s' Q' E' hP hQ=> ?_,fun h' tk hk=> ?_⟩
 ·have hP':vs[i]? =some v:=by simpa using hP
  rw[hv,c7]at hP'
  cases e:bs[i]? with
  |none=>rw[e]at hP';cases hP'
  |some b=>
   rw[e]at hP'
   cases hP'
   simp only[e,wfx]at hQ
   exact Ho hQ
 ·have e:((List.range vs.toArray.size).all fun i=>(bs[i]?).getD true)=bs.all id:=by
   rw[eU,hv,aG];exact LSm.range_all bs
  rw[e]
  exact⟨.bl _,H,I.kept (LSm.kept_iter hk),rfl,q⟩
theorem zq(hc:X.calm=true):CallR X (.builtin "any") (fun xs H Q=>∃(a:Addr) (bs:List Bool),xs=[.ref a]/\SqL X.K H a (bs.map V.bl)/\Q (.bl (bs.any id)) H):=by
 intro pins s σ H xs us Q I r h
 obtain⟨a,bs,rfl,hS,q⟩:=h
 obtain⟨u,rfl,ru⟩:=r.one
 cases ru
 obtain⟨vs,rv,pl,hz⟩:=I.list hS
 have hv:=rH rv
 have hl:=pl.isList
 have hlt:a<s.heap.objs.size:=by obtain⟨_,e,_⟩:=hl;exact cA e
 refine call_any_walk (Vn hl ?_)
 refine⟨s.heap.objs.size,[s.heap.objs.size,a],[s.heap.objs.size],vs.toArray.size,_,_,fun i=>(bs[i]?).getD false,rfl,Vh (A:=X.A.in1) (I.ok.hd hc) _ a (bQ hlt) vs.toArray,
  ⟨⟨_,gB _ rfl,rfl,rfl⟩,hl.push _⟩,fun i v s' Q' E' hP hQ=> ?_,fun h' tk hk=> ?_⟩
 ·have hP':vs[i]? =some v:=by simpa using hP
  rw[hv,c7]at hP'
  cases e:bs[i]? with
  |none=>rw[e]at hP';cases hP'
  |some b=>
   rw[e]at hP'
   cases hP'
   simp only[e,wfx]at hQ
   exact Ho hQ
 ·have e:((List.range vs.toArray.size).any fun i=>(bs[i]?).getD false)=bs.any id:=by
   rw[eU,hv,aG];exact LSm.range_any bs
  rw[e]
  exact⟨.bl _,H,I.kept (LSm.kept_iter hk),rfl,q⟩
def Lq(K:W.Frag)(H:Hp):V->String->Prop
 | .non,T=>T="NoneType"
 | .bl _,T=>T="bool"
 | .int _,T=>T="int"
 | .str _,T=>T="str"
 | .ref a,T=>(T="tuple"/\∃xs,SqT K H a xs)\/(T="list"/\∃xs,SqL K H a xs)\/(T="dict"/\∃kvs,H a=some (.dK kvs))
 |_,_=>False
def yG(T C:String):Bool:=T==C||(T=="bool"&&C=="int")
theorem Ep:CallR X (.builtin "isinstance") (fun xs H Q=>∃(x:V) (T C:String),xs=[x,.ty C]/\Lq X.K H x T/\(C="int"\/C="bool"\/C="tuple"\/C="list")/\Q (.bl (yG T C)) H):=by
 intro pins s σ H xs us Q I r h
 obtain⟨x,T,C,rfl,hk,hC,q⟩:=h
 obtain⟨u,v,rfl,ru,rv⟩:=r.two
 cases rv
 have K5:∀b,b=yG T C->EP X pins σ Q (.bool b) s:=fun b e=>⟨.bl b,H,I,rfl,by rw[e];exact q⟩
 have gj:∀b,b=yG T C->EP X pins σ Q (.bool b) {s with toks:=s.toks+1}:=fun b e=>⟨.bl b,H,I.tok _,rfl,by rw[e];exact q⟩
 cases x with
 |non=>
  cases ru;cases hk
  rcases hC with rfl|rfl|rfl|rfl
  ·exact IsiPair.NoneType_int (gj _ rfl)
  ·exact IsiPair.NoneType_bool (gj _ rfl)
  ·exact IsiPair.NoneType_tuple (gj _ rfl)
  ·exact IsiPair.NoneType_list (gj _ rfl)
 |bl b=>
  cases ru;cases hk
  rcases hC with rfl|rfl|rfl|rfl
  ·exact IsiPair.bool_int (K5 _ rfl)
  ·exact IsiPair.bool_bool (K5 _ rfl)
  ·exact IsiPair.bool_tuple (gj _ rfl)
  ·exact IsiPair.bool_list (gj _ rfl)
 |int i=>
  obtain⟨t,rfl⟩:=ru;cases hk
  rcases hC with rfl|rfl|rfl|rfl
  ·exact IsiPair.int_int (K5 _ rfl)
  ·exact IsiPair.int_bool (gj _ rfl)
  ·exact IsiPair.int_tuple (gj _ rfl)
  ·exact IsiPair.int_list (gj _ rfl)
 |str z=>
  obtain⟨t,rfl⟩:=ru;cases hk
  rcases hC with rfl|rfl|rfl|rfl
  ·exact IsiPair.str_int (gj _ rfl)
  ·exact IsiPair.str_bool (gj _ rfl)
  ·exact IsiPair.str_tuple (gj _ rfl)
  ·exact IsiPair.str_list (gj _ rfl)
 |ref a=>
  cases ru
  rcases hk with⟨rfl,xs,hS⟩|⟨rfl,xs,hS⟩|⟨rfl,kvs,hS⟩
  ·obtain⟨its,_,⟨o,e,c,n,d⟩,_⟩:=I.tuple hS
   rcases hC with rfl|rfl|rfl|rfl
   ·exact IsiPair.tuple_int e c (gj _ rfl)
   ·exact IsiPair.tuple_bool e c (gj _ rfl)
   ·exact IsiPair.tuple_tuple e c (K5 _ rfl)
   ·exact IsiPair.tuple_list e c (gj _ rfl)
  ·obtain⟨its,_,⟨o,n,e,c,d,_⟩,_⟩:=I.list hS
   rcases hC with rfl|rfl|rfl|rfl
   ·exact IsiPair.list_int e c (gj _ rfl)
   ·exact IsiPair.list_bool e c (gj _ rfl)
   ·exact IsiPair.list_tuple e c (gj _ rfl)
   ·exact IsiPair.list_list e c (K5 _ rfl)
  ·obtain⟨_,_,vs,_,o,es,ep,e,c,_⟩:=I.hok a _ hS
   have c':o.cls= .type "dict":=c.1
   rcases hC with rfl|rfl|rfl|rfl
   ·exact IsiPair.dict_int e c' (gj _ rfl)
   ·exact IsiPair.dict_bool e c' (gj _ rfl)
   ·exact IsiPair.dict_tuple e c' (gj _ rfl)
   ·exact IsiPair.dict_list e c' (gj _ rfl)
 |_=>exact hk.elim
end
mutual
inductive DV(K:W.Frag)(H:Hp):V->PyData->Prop
 |non:DV K H .non .none
 |bl (b:Bool):DV K H (.bl b) (.bool b)
 |int (i:Int):DV K H (.int i) (.int i)
 |str (x:Str):DV K H (.str x) (.str x)
 |tup {a:Addr} {xs:List V} {ds:List PyData} (h:SqT K H a xs) (t:cY K H xs ds):DV K H (.ref a) (.tuple ds)
 |lst {a:Addr} {xs:List V} {ds:List PyData} (h:SqL K H a xs) (t:cY K H xs ds):DV K H (.ref a) (.list ds)
 |dc0 {a:Addr} (h:H a=some (.dK [])):DV K H (.ref a) (.dict [])
 |dc1 {a b:Addr} {i:Int} (h:H a=some (.dK [(Sum.inl i,.ref b)])) (t:SqT K H b []):DV K H (.ref a) (.dict [(.int i,.tuple [])])
inductive cY(K:W.Frag)(H:Hp):List V->List PyData->Prop
 |nil:cY K H [] []
 |cons {x:V} {d:PyData} {xs:List V} {ds:List PyData} (h:DV K H x d) (t:cY K H xs ds):cY K H (x::xs) (d::ds)
end
theorem Same.tup{K:W.Frag}{H H':Hp}{a:Addr}{xs:List V}(e:Same H H')(h:SqT K H a xs):SqT K H' a xs:=by
 rcases h with(h|⟨o,h⟩)|h
 ·exact .inl (.inl (e _ _ h))
 ·exact .inl (.inr ⟨o,e _ _ h⟩)
 ·exact .inr h
theorem cY.same{K:W.Frag}{H H':Hp}(e:Same H H'){xs:List V}{ds:List PyData}(h:cY K H xs ds):cY K H' xs ds:=
 cY.rec (motive_1:=fun x d _=>DV K H' x d) (motive_2:=fun xs ds _=>cY K H' xs ds) .non (fun b=> .bl b) (fun i=> .int i) (fun x=> .str x) (fun h _ t=> .tup (e.tup h) t) (fun h _ t=> .lst (e.seq h) t) (fun h=> .dc0 (e _ _ h)) (fun h t=> .dc1 (e _ _ h) (e.tup t)) .nil (fun _ _ h t=> .cons h t) h
theorem FJ{P:Program}{w:World}{es:List DictEntry}(h:Pairs (mixKind P w) es []):es=[]:=by
 cases h;rfl
theorem Fz{P:Program}{w:World}{es:List DictEntry}{k:Key}{u:Value}(h:Pairs (mixKind P w) es [(k,u)]):∃e,es=[e]/\keyIs k e.key=true/\e.val=u:=by
 cases h with
 |cons h1 h2 h3=>
  cases h3
  exact⟨_,rfl,h1,h2⟩
section
variable{X:Cx}{pins:List (Addr×Obj)}{σ:St}{H:Hp}{s:Shared}
theorem GJ(I:Inv X pins σ H s){a:Addr}(h:H a=some (.dK [])):Reads s.heap (.ref a) (.dict []) (a::[]++[])/\(a==sysModules)=false:=by
 obtain⟨_,hne,vs,r0,o,es,ep,e,c,d,_,pr,_⟩:=I.hok _ _ h
 cases r0
 have hes:es.toList=[]:=FJ pr
 refine⟨.dict (kvs:=[]) (as:=[]) (bs:=[]) e c.1 d ?_ ?_,hne⟩
 ·rw[hes];exact .nil
 ·rw[hes];exact .nil
theorem GF(I:Inv X pins σ H s){a b:Addr}{i:Int}(h:H a=some (.dK [(Sum.inl i,.ref b)]))(t:SqT X.K H b []):Reads s.heap (.ref a) (.dict [(.int i,.tuple [])]) (a::([]++[])++([]++[]))/\(a==sysModules)=false:=by
 obtain⟨_,hne,vs,r0,o,es,ep,e,c,d,_,pr,_⟩:=I.hok _ _ h
 obtain⟨its,rv,⟨o2,e2,c2,n2,d2⟩,_⟩:=I.tuple t
 cases rv
 cases r0 with
 | @cons p q ps qs hq tl=>
  cases tl
  obtain⟨en,he,hk,hv⟩:=Fz pr
  obtain⟨k,u⟩:=q
  dsimp only at hq
  obtain⟨hk1,hu1⟩:=hq
  subst hk1
  cases hu1
  obtain⟨tk,ek⟩:∃tk,en.key=Value.int i tk:=by
   rcases Mg hk with⟨i',t',e3,e4⟩|⟨x,t',e3,e4⟩
   ·cases e3;exact⟨t',e4⟩
   ·cases e3
  refine⟨.dict (kvs:=[(.int i,.tuple [])]) (as:=[]++[]) (bs:=[]++[]) e c.1 d ?_ ?_,hne⟩
  ·rw[he]
   show ReadsAll s.heap [en.key] [PyData.int i] _
   rw[ek]
   exact .cons (.int i tk) .nil
  ·rw[he]
   show ReadsAll s.heap [en.val] [PyData.tuple []] _
   rw[hv]
   exact .cons (.tuple e2 c2 d2 .nil) .nil
end
section
variable{X:Cx}{pins:List (Addr×Obj)}{σ:St}{H:Hp}{s:Shared}
theorem Ft(I:Inv X pins σ H s){a:Addr}{xs:List V}{ds:List PyData}(h:SqT X.K H a xs)(t:∀{us:List Value},Vals xs us->∃as,ReadsAll s.heap us ds as){u:Value}(r:RelV (.ref a) u):∃as,Reads s.heap u (.tuple ds) as:=by
 cases r
 obtain⟨its,rv,⟨o,e,c,n,d⟩,_⟩:=I.tuple h
 obtain⟨as,ra⟩:=t rv
 exact⟨_,.tuple e c d (by simpa using ra)⟩
theorem Fv(I:Inv X pins σ H s){a:Addr}{xs:List V}{ds:List PyData}(h:SqL X.K H a xs)(t:∀{us:List Value},Vals xs us->∃as,ReadsAll s.heap us ds as){u:Value}(r:RelV (.ref a) u):∃as,Reads s.heap u (.list ds) as:=by
 cases r
 obtain⟨its,rv,⟨o,n,e,c,_,d⟩,_⟩:=I.list h
 obtain⟨as,ra⟩:=t rv
 exact⟨_,.list e c d (by simpa using ra)⟩
theorem DV.reads(I:Inv X pins σ H s){x:V}{d:PyData}{u:Value}(h:DV X.K H x d)(r:RelV x u):∃as,Reads s.heap u d as:=
 DV.rec (motive_1:=fun x d _=>∀{u:Value},RelV x u->∃as,Reads s.heap u d as) (motive_2:=fun xs ds _=>∀{us:List Value},Vals xs us->∃as,ReadsAll s.heap us ds as)
  (fun r=>by cases r;exact⟨_,.none⟩) (fun b _ r=>by cases r;exact⟨_,.bool b⟩) (fun i _ r=>by obtain⟨t,rfl⟩:=r;exact⟨_,.int i t⟩) (fun x _ r=>by obtain⟨t,rfl⟩:=r;exact⟨_,.str x t⟩)
  (fun h _ t _ r=>Ft I h t r) (fun h _ t _ r=>Fv I h t r) (fun h _ r=>by cases r;exact⟨_,(GJ I h).1⟩) (fun h t _ r=>by cases r;exact⟨_,(GF I h t).1⟩)
  (fun r=>by cases r;exact⟨_,.nil⟩) (fun _ _ h t _ r=>by
   cases r with
   |cons r rr=>
    obtain⟨as,ra⟩:=h r
    obtain⟨bs,rb⟩:=t rr
    exact⟨_,.cons ra rb⟩) h r
theorem cY.reads(I:Inv X pins σ H s){xs:List V}{ds:List PyData}{us:List Value}(h:cY X.K H xs ds)(r:Vals xs us):∃as,ReadsAll s.heap us ds as:=
 cY.rec (motive_1:=fun _ _ _=>True) (motive_2:=fun xs ds _=>∀{us:List Value},Vals xs us->∃as,ReadsAll s.heap us ds as) trivial (fun _=>trivial) (fun _=>trivial) (fun _=>trivial) (fun _ _ _=>trivial) (fun _ _ _=>trivial) (fun _=>trivial) (fun _ _=>trivial)
  (fun r=>by cases r;exact⟨_,.nil⟩) (fun h _ _ t _ r=>by
   cases r with
   |cons r rr=>
    obtain⟨as,ra⟩:=DV.reads I h r
    obtain⟨bs,rb⟩:=t rr
    exact⟨_,.cons ra rb⟩) h r
end
mutual
def noL:PyData->Bool
 | .list _=>false
 | .tuple ds=>Xn ds
 |_=>true
def Xn:List PyData->Bool
 |[]=>true
 |d::ds=>noL d&&Xn ds
end
section
variable{X:Cx}{pins:List (Addr×Obj)}{σ:St}{H:Hp}{s:Shared}
end
theorem cY.ints{K:W.Frag}{H:Hp}:∀(ns:List Int),cY K H (ns.map V.int) (ns.map PyData.int)
 |[]=> .nil
 |n::ns=> .cons (.int n) (cY.ints ns)
theorem cY.len{K:W.Frag}{H:Hp}{xs:List V}{ds:List PyData}(h:cY K H xs ds):xs.length=ds.length:=
 cY.rec (motive_1:=fun _ _ _=>True) (motive_2:=fun xs ds _=>xs.length=ds.length) trivial (fun _=>trivial) (fun _=>trivial) (fun _=>trivial) (fun _ _ _=>trivial) (fun _ _ _=>trivial) (fun _=>trivial) (fun _ _=>trivial) rfl (fun _ _ _ t=>jh Nat.succ t) h
section
variable{X:Cx}
theorem JG(hu:X.A.units+64<cLine):OpR X (compareOp .NotEq) (fun x y H Q=>∃da db,DV X.K H x da/\DV X.K H y db/\da.canLay0=true/\db.canLay0=true/\min da.depth db.depth<=64/\Q (.bl (!PyData.eqv da db)) H):=by
 intro pins s σ H x y v u Q I rx ry h
 obtain⟨da,db,hx,hy,ca,cb,hd,q⟩:=h
 obtain⟨as,ra⟩:=DV.reads I hx rx
 obtain⟨bs,rb⟩:=DV.reads I hy ry
 exact SeqAt.rcNeAt_reads ra rb ca cb (by omega) _ _ _ _ ⟨.bl _,H,I,rfl,q⟩
theorem Cu:∀{ds:List PyData},PyData.canLayAll0 ds=true->∀d∈ds,d.canLay0=true
 |[],_,d,h=>nomatch h
 |e::ds,h,d,hd=>by
  have h':(e.canLay0&&PyData.canLayAll0 ds)=true:=h
  rw[Dc]at h'
  rcases cB.mp hd with rfl|hd
  ·exact h'.1
  ·exact Cu h'.2 d hd
open Classical in
theorem qT(hu:X.A.units+64<cLine):OpR X (compareOp .In) (fun x y H Q=>∃(p:Addr) (xs:List V) (ds:List PyData) (dx:PyData),y= .ref p/\(SqL X.K H p xs\/SqT X.K H p xs)/\cY X.K H xs ds/\DV X.K H x dx/\PyData.canLayAll0 ds=true/\dx.canLay0=true/\dx.depth<=60/\
  Q (.bl (ds.any fun d=>PyData.eqv d dx)) H):=by
 intro pins s σ H x y v u Q I rx ry h
 obtain⟨p,xs,ds,dx,rfl,hq,hds,hx,ca,cb,hd,q⟩:=h
 cases ry
 obtain⟨bs,rb⟩:=DV.reads I hx rx
 have key:∀{its:List Value},Vals xs its->(∀y∈its,SeqAt.EqAt X.A.in1 s y v (decide (∃d as,Reads s.heap y d as/\d∈ds/\PyData.eqv d dx=true)))/\(its.any fun y=>decide (∃d as,Reads s.heap y d as/\d∈ds/\PyData.eqv d dx=true))=ds.any fun d=>PyData.eqv d dx:=by
  intro its rv
  obtain⟨as,ra⟩:=cY.reads I hds rv
  have each:∀{us:List Value} {es:List PyData} {as:List Addr},ReadsAll s.heap us es as->(∀e∈es,e∈ds)->(∀y∈us,SeqAt.EqAt X.A.in1 s y v (decide (∃d as,Reads s.heap y d as/\d∈ds/\PyData.eqv d dx=true)))/\(us.any fun y=>decide (∃d as,Reads s.heap y d as/\d∈ds/\PyData.eqv d dx=true))=es.any fun d=>PyData.eqv d dx:=by
   intro us
   induction us with
   |nil=>intro es as h _;cases h;exact⟨(fun y hy=>(nomatch hy)),rfl⟩
   |cons y us ih=>
    intro es as h hs
    cases h with
    | @cons _ _ d ds' as' bs' r rr=>
     obtain⟨i1,i2⟩:=ih rr fun e he=>hs e (dG _ he)
     have cl:=Cu ca d (hs d cV)
     have e:decide (∃d as,Reads s.heap y d as/\d∈ds/\PyData.eqv d dx=true)=PyData.eqv d dx:=by
      rw[zV,Ey]
      constructor
      ·rintro⟨d',as'',r',_,q'⟩
       obtain⟨rfl,_⟩:=(PySem.Reads.unique r _ _ r')
       exact q'
      ·intro q'
       exact⟨d,_,r,hs d cV,q'⟩
     refine⟨fun z hz=> ?_,?_⟩
     ·rcases cB.mp hz with rfl|hz
      ·rw[e]
       exact SeqAt.eqAt_reads d dx _ s _ _ _ _ r rb cl cb (by show X.A.units+1+min d.depth dx.depth<cLine;omega)
      ·exact i1 z hz
     ·rw[Qg,Qg,i2,e]
  exact each ra fun e he=>he
 rcases hq with hq|hq
 ·obtain⟨its,r,pl,hz⟩:=I.list hq
  obtain⟨k1,k2⟩:=key r
  refine SeqAt.in_listAt _ pl.isList (fun w hw=>k1 w (by simpa using hw)) ⟨.bl _,H,I,rfl,?_⟩
  rw[show∀f:Value->Bool,its.toArray.any f=its.any f from fun f=>by simp,k2]
  exact q
 ·obtain⟨its,r,pl,hz⟩:=I.tuple hq
  obtain⟨k1,k2⟩:=key r
  refine SeqAt.in_tupleAt _ pl (fun w hw=>k1 w (by simpa using hw)) ⟨.bl _,H,I,rfl,?_⟩
  rw[show∀f:Value->Bool,its.toArray.any f=its.any f from fun f=>by simp,k2]
  exact q
end
end L2
namespace HT
open PySem PyProof.Rows
section
open PySem.SeqAt
open PySem.AutoSeq1 (wpAny_loadPart')
open PySem.MeetsSeq PySem.MeetsSeq2 PySem.MeetsSeq3
end
section
variable{prog:Program}{w:World}{A:Around}{E:Value->Shared->Prop}{s:Shared}
theorem jZ{t sl:Addr}{items:Array Value}{vl vu:Value}{lo hi:Option Int}{Q:Value->Shared->Prop}(ht:IsTup s.heap t items)(hs:s.heap.IsSliceOf sl vl vu .none)(pl:IsPart vl lo)(pu:IsPart vu hi)(hw:sIx items.size 0 lo=0/\sIx items.size items.size hi=items.size)(h:Q (.ref t) s):wpAny (model prog w) A (getItem (.ref t) (.ref sl)) Q E s:=by
 obtain⟨os,hos,hcs,hds⟩:=id hs
 have hTs:s.TypeIs (.ref sl) "slice":=⟨os,hos,hcs⟩
 unfold getItem
 try with_reducible refine uM ?_
 first |refine ak (aF ?_)|skip
 refine ak (wpAny_sequenceKey ht.typeIs (by decide) ?_)
 refine ak (Qv (name:=Str.ofString "__getitem__") ht.typeIs wbl
  (Dd wbl ht.typeIs entry_tuple_getitem ?_ (args_tuple_getitem _ _)))
 show wpAny _ _ (Builtin.Tuple.tupleItemsOf (.ref t)>>=_) _ _ s
 refine ak (tupleItemsOf_ ht ?_)
 refine ak (Rw hTs ?_)
 rw[au (by decide)]
 refine ak (sliceApplied_gen hs pl pu ?_)
 have hyes:((((sIx items.size 0 lo:Nat):Int)==0&&(1:Int)==1&&(sIx items.size items.size hi-sIx items.size 0 lo)==items.size)=true):=by
  rw[hw.1,hw.2];simp
 show wpAny _ _ (if(((sIx items.size 0 lo:Nat):Int)==0&&(1:Int)==1&&(sIx items.size items.size hi-sIx items.size 0 lo)==items.size)=true then _ else _) _ _ s
 rw[au hyes]
 obtain⟨o,ho,hc,n,hd⟩:=id ht
 refine ak ?_
 show wpAny _ _ (Builtin.Tuple.tupleIsExact (.ref t)) _ _ s
 unfold Builtin.Tuple.tupleIsExact
 refine ak (Rw ht.typeIs ?_)
 refine aF ?_
 rw[au (by decide)]
 first
  |exact ak (MP (ak (aF ⟨_,rfl,aF h⟩)))
  |exact ak (MP (aF ⟨_,rfl,aF h⟩))
  |exact ak (MP (ak (aF (aF ⟨_,rfl,aF h⟩))))
  |(trace_state;exact ak (ak (MP (aF ⟨_,rfl,aF h⟩))))
end
end HT
namespace L2
open PySem PySem.Spec PyProof.Rows
section
variable{X:Cx}
theorem Sy:OpR X (compareOp .Is) (fun x y H Q=>∃a b,x= .bl a/\y= .bl b/\Q (.bl (a==b)) H):=by
 intro pins s σ H x y v u Q I rx ry h
 obtain⟨a,b,rfl,rfl,q⟩:=h
 cases rx;cases ry
 exact is_bool ⟨.bl _,H,I,rfl,q⟩
theorem dh:OpR X (binaryOp .FloorDiv) (rI (fun _ j=>0<j/\j<1000000000000000000000000000000) fun i j=> .int (i/j)):=opI fun i j _ _ _ _ _ hc q=>by
 have h1:(0:Int)<j:=hc.1
 have h2:j<1000000000000000000000000000000:=hc.2
 refine floordiv_int (by omega) ?_ (Or.inl (wfe ?_))
 ·rw[yee _ (by omega)]
  exact q
 ·have h3:j.natAbs≠0:=by omega
  have h4:j.natAbs<2^100:=by
   have:(2:Nat)^100=1267650600228229401496703205376:=by decide
   omega
  have:=(Nat.log2_lt h3).mpr h4
  omega
def QT(K:W.Frag):R2:=fun x y H Q=>∃a b xs ys,x= .ref a/\y= .ref b/\SqT K H a xs/\SqT K H b ys/\xs.length+ys.length<=sizeLine/\∀r H',Same H H'->SqT K H' r (xs++ys)->Q (.ref r) H'
theorem N8:OpR X (binaryOp .Add) (QT X.K):=by
 intro pins s σ H x y v u Q I rx ry h
 obtain⟨a,b,xs,ys,rfl,rfl,ha,hb,hz,q⟩:=h
 by_cases hx:xs=[]
 ·subst hx
  cases rx
  cases ry
  obtain⟨its,r1,p1,_⟩:=I.tuple ha
  obtain⟨its2,r2,p2,_⟩:=I.tuple hb
  cases r1
  obtain⟨⟨cls,dd,data,sl⟩,ho,hc,n,hd⟩:=id p1
  obtain⟨⟨cls2,dd2,data2,sl2⟩,ho2,hc2,n2,hd2⟩:=id p2
  simp only at hc hd hc2 hd2
  subst hc hd hc2 hd2
  exact ZW ⟨_,ho,rfl⟩ ⟨_,ho2,rfl⟩ wdo Z6 wck wch (wby _ _)
   (tuple_addW0 a b _ _ n n2 dd dd2 sl sl2 (by simp)) ⟨ho,ho2,⟨.ref b,H,I,rfl,q b H (Same.refl _) hb⟩⟩
 ·refine op_catT pins s σ H _ _ v u Q I rx ry ⟨a,b,xs,ys,rfl,rfl,ha,hb,hx,hz,fun e=> ?_,fun e p hp=> ?_⟩
  ·subst e
   exact q a H (Same.refl _) (by rw[sE];exact ha)
  ·exact q p _ (fun c o e=>by rw[cu (j7 e hp)];exact e) (SqT.of aJ)
def Xd(K:W.Frag):V->Option Int->Option Int->Hp->VK->Prop:=fun x lo hi H Q=>∃a xs,x= .ref a/\SqT K H a xs/\∀r H',Same H H'->SqT K H' r (cutV xs lo hi)->Q (.ref r) H'
theorem uQ:SlR X (Xd X.K):=by
 intro pins s σ H x v vl vu lo hi sl Q I rx hs pl pu h
 obtain⟨a,xs,rfl,hx,q⟩:=h
 by_cases hw:HT.sIx xs.length 0 lo=0/\HT.sIx xs.length xs.length hi=xs.length
 ·cases rx
  obtain⟨its,r,ht,hz⟩:=I.tuple hx
  have hlen:its.toArray.size=xs.length:=by rw[eU];exact r.length.symm
  refine⟨"tuple",_,PyProof.Rows.slot_tuple_getitem.lookup,ht.typeIs,?_⟩
  refine HT.jZ ht hs pl pu (by rw[hlen];exact hw) ⟨.ref a,H,I,rfl,q a H (Same.refl _) ?_⟩
  have e:cutV xs lo hi=xs:=by
   unfold cutV
   rw[hw.1,hw.2]
   simp
  rw[e];exact hx
 ·exact sl_tup pins s σ H _ v vl vu lo hi sl Q I rx hs pl pu ⟨a,xs,rfl,hx,hw,fun p hp=>q p _ (fun c o e=>by rw[cu (j7 e hp)];exact e) (SqT.of aJ)⟩
end
end L2
namespace HT
open PySem PySem.Calls PySem.Spec PyProof.Rows PySem.W
section
variable{prog:Program}{w:World}{A:Around}{E:Value->Shared->Prop}{s:Shared}
end
end HT
namespace L2
open PySem PySem.Spec PyProof.Rows
section
variable{X:Cx}{e m:Expr}{te:TE}{tm:TO}{pos p2:Pos}
end
section
variable{X:Cx}{tg:Expr}
def TX(K:W.Frag)(tl:TE):TI:=fun σ H R=>tl σ H fun x H1=>∃a xs,x= .ref a/\SqL K H1 a xs/\(xs.length<=sizeLine->R (Itl K a) H1)
def XM(K:W.Frag)(tl:TE):TI:=fun σ H R=>tl σ H fun x H1=>∃a xs,x= .ref a/\SqT K H1 a xs/\(xs.length<=sizeLine->R (Itt K a) H1)
theorem CP{l:Expr}{tl:TE}(hl:PE X l tl):PI X tg l (TX X.K tl):=by
 intro pins s σ H R I h
 refine thn (hl pins s σ H _ I h) fun v s1 ⟨x,H1,I1,r1,q1⟩=> ?_
 obtain⟨a,xs,e,hq,q⟩:=q1
 subst e
 cases r1
 obtain⟨its,rv,p,hz⟩:=I1.list hq
 refine Vn p.isList ?_
 refine⟨s1.heap.objs.size,[s1.heap.objs.size],_,_,H1,rfl,I1.kept (t':=s1.toks) fun b o e=>cM _ e,turn_list a _,⟨_,gB _ rfl,rfl,rfl⟩,fun b hb=> ?_,q hz⟩
 have e:b=s1.heap.objs.size:=by simpa using hb
 subst e
 exact I1.fpOk (aH _) (I1.hok.fresh (aH _))
theorem Eo{l:Expr}{tl:TE}(hl:PE X l tl):PI X tg l (XM X.K tl):=by
 intro pins s σ H R I h
 refine thn (hl pins s σ H _ I h) fun v s1 ⟨x,H1,I1,r1,q1⟩=> ?_
 obtain⟨a,xs,e,hq,q⟩:=q1
 subst e
 cases r1
 obtain⟨its,rv,p,hz⟩:=I1.tuple hq
 refine WK (show s1.heap.IsTuple a its.toArray from p) ?_
 refine⟨s1.heap.objs.size,[s1.heap.objs.size],_,_,H1,rfl,I1.kept (t':=s1.toks) fun b o e=>cM _ e,turn_tuple a _,⟨_,gB _ rfl,rfl,rfl⟩,fun b hb=> ?_,q hz⟩
 have e:b=s1.heap.objs.size:=by simpa using hb
 subst e
 exact I1.fpOk (aH _) (I1.hok.fresh (aH _))
theorem zP:CallR X (.builtin "len") (fun xs H Q=>∃p ys,xs=[.ref p]/\(SqL X.K H p ys\/SqT X.K H p ys)/\(ys.length<=16777216->Q (.int ys.length) H)):=by
 intro pins s σ H xs us Q I r h
 obtain⟨p,ys,rfl,hq,q⟩:=h
 have hz:ys.length<=16777216:=by
  rw[<-fM]
  rcases hq with hq|hq
  ·exact(I.list hq).choose_spec.2.2
  ·exact(I.tuple hq).choose_spec.2.2
 exact call_len_seq pins s σ H _ us Q I r ⟨p,ys,rfl,hq,q hz⟩
end
mutual
inductive DX(K:W.Frag)(H:Hp):V->PyData->Prop
 |non:DX K H .non .none
 |bl (b:Bool):DX K H (.bl b) (.bool b)
 |int (i:Int):DX K H (.int i) (.int i)
 |str (x:Str):DX K H (.str x) (.str x)
 |tup {a:Addr} {xs:List V} {ds:List PyData} (h:SqT K H a xs) (t:sH K H xs ds):DX K H (.ref a) (.tuple ds)
 |lst {a:Addr} {xs:List V} {ds:List PyData} (h:SqL K H a xs) (t:sH K H xs ds):DX K H (.ref a) (.list ds)
 |dct {a:Addr} {kvs:List (Key×V)} (ds:List (PyData×PyData)) (h:H a=some (.dK kvs)):DX K H (.ref a) (.dict ds)
inductive sH(K:W.Frag)(H:Hp):List V->List PyData->Prop
 |nil:sH K H [] []
 |cons {x:V} {d:PyData} {xs:List V} {ds:List PyData} (h:DX K H x d) (t:sH K H xs ds):sH K H (x::xs) (d::ds)
end
theorem DX.same{K:W.Frag}{H H':Hp}(e:Same H H'){x:V}{d:PyData}(h:DX K H x d):DX K H' x d:=
 DX.rec (motive_1:=fun x d _=>DX K H' x d) (motive_2:=fun xs ds _=>sH K H' xs ds) .non (fun b=> .bl b) (fun i=> .int i) (fun x=> .str x) (fun h _ t=> .tup (e.tup h) t) (fun h _ t=> .lst (e.seq h) t) (fun ds h=> .dct ds (e _ _ h)) .nil (fun _ _ h t=> .cons h t) h
theorem sH.same{K:W.Frag}{H H':Hp}(e:Same H H'){xs:List V}{ds:List PyData}(h:sH K H xs ds):sH K H' xs ds:=
 sH.rec (motive_1:=fun x d _=>DX K H' x d) (motive_2:=fun xs ds _=>sH K H' xs ds) .non (fun b=> .bl b) (fun i=> .int i) (fun x=> .str x) (fun h _ t=> .tup (e.tup h) t) (fun h _ t=> .lst (e.seq h) t) (fun ds h=> .dct ds (e _ _ h)) .nil (fun _ _ h t=> .cons h t) h
theorem DV.dx{K:W.Frag}{H:Hp}{x:V}{d:PyData}(h:DV K H x d):DX K H x d:=
 DV.rec (motive_1:=fun x d _=>DX K H x d) (motive_2:=fun xs ds _=>sH K H xs ds) .non (fun b=> .bl b) (fun i=> .int i) (fun x=> .str x) (fun h _ t=> .tup h t) (fun h _ t=> .lst h t) (fun h=> .dct [] h) (fun h _=> .dct _ h) .nil (fun _ _ h t=> .cons h t) h
def yF:PyData->String
 | .none=>"NoneType"
 | .bool _=>"bool"
 | .int _=>"int"
 | .str _=>"str"
 | .list _=>"list"
 | .tuple _=>"tuple"
 | .dict _=>"dict"
theorem DX.kind{K:W.Frag}{H:Hp}:∀{x:V} {d:PyData},DX K H x d->Lq K H x (yF d)
 |_,_,.non=>rfl
 |_,_,.bl _=>rfl
 |_,_,.int _=>rfl
 |_,_,.str _=>rfl
 |_,_,.tup h _=> .inl ⟨rfl,_,h⟩
 |_,_,.lst h _=> .inr (.inl ⟨rfl,_,h⟩)
 |_,_,.dct _ h=> .inr (.inr ⟨rfl,_,h⟩)
theorem sH.len{K:W.Frag}{H:Hp}{xs:List V}{ds:List PyData}(h:sH K H xs ds):xs.length=ds.length:=
 sH.rec (motive_1:=fun _ _ _=>True) (motive_2:=fun xs ds _=>xs.length=ds.length) trivial (fun _=>trivial) (fun _=>trivial) (fun _=>trivial) (fun _ _ _=>trivial) (fun _ _ _=>trivial) (fun _ _=>trivial) rfl (fun _ _ _ t=>jh Nat.succ t) h
theorem sH.get{K:W.Frag}{H:Hp}:∀{xs:List V} {ds:List PyData} {i:Nat} {x:V},sH K H xs ds->xs[i]? =some x->∃d,ds[i]? =some d/\DX K H x d
 |_,_,_,_,.nil,e=>by simp at e
 |_,_,0,_,.cons h _,e=>by simp at e;subst e;exact⟨_,rfl,h⟩
 |_,_,i+1,x,.cons _ t,e=>by
  obtain⟨d,h1,h2⟩:=sH.get (i:=i) t (by simpa using e)
  exact⟨d,by simpa using h1,h2⟩
structure bY(K:W.Frag)(mg:Str->Option Value)(x:Str)(st:Stmt)(ps:List Str)(f:Addr)(fd:FuncData):Prop where
 F:Fun K x x st f fd
 b:Binds K fd ps []
 m:mg x=some (.ref f)
theorem pc{X:Cx}{x:Str}{st:Stmt}{ps:List Str}{f:Addr}{fd:FuncData}{j k:Nat}{sp:Sp}{E:XK}{e:Expr}{es:List Expr}{t:TA}{p pos:Pos}(F:FnOk X.prog X.w X.K X.mg X.base CX0 j f fd ps sp)(hr:Room k X.A)(D:bY X.K X.mg x st ps f fd)(ha:PA X (e::es) t)(hj:j<=k:=by decide)(hg:Gl X x:=by rfl)(hx:Passes CX0 X E:=by exact pass0)(hdb:(x==("__debug__":Str))=false:=by decide)(he:starEach (e::es) X.env=(false,eval e X.env)::starEach es X.env:=by rfl)(hpl:(backTo pos (starEach es X.env)).any (·.1)=false:=by rfl):PE X (.Call (.Name x p) (e::es) [] pos) (tCall sp [] E t):=pe_call (F.mono hj) hr hg D.m D.F.kp D.b .nil hx ha hdb he hpl
theorem fsc{N P:List Str}{sc:Scope}(a:sc.kind= .function:=by rfl)(b:sc.isCoroutine=false:=by rfl)(c:sc.isGenerator=false:=by rfl)(d:N.Nodup:=by decide+kernel)(e:N.take P.length=P:=by rfl)(f:∀x∈P,sc.names.lookup x=some .local\/sc.names.lookup x=some .cell:=by decide+kernel)(g:∀y∈sc.names,y.2≠.free:=by decide+kernel):FnScope N P sc:=⟨a,b,c,d,e,f,g⟩
theorem aY{H:Hp}{p:Addr}(h:H p=none)(o:HO):Same H (upd H p o):=fun b u q=>by rw[cu (j7 q h)];exact q
end L2
namespace zO
open PySem L2
def qz:PyData->Bool
 | .int _=>true
 |_=>false
def bR(n:Int):PyData->Bool
 | .int i=>decide (0<=i)&&decide (i<n)
 |_=>false
def intD:PyData->Int
 | .int i=>i
 |_=>0
def kids:PyData->List PyData
 | .tuple ds=>ds
 |_=>[]
def jx(ns:List Int):Bool:=(List.range (ns.length-1)).all fun k=>decide (ns.getD k 0<ns.getD (k+1) 0)
def jw(ts:List (List Int)):Bool:=(List.range (ts.length-1)).all fun k=>HT.lexLt (ts.getD k []) (ts.getD (k+1) [])
def uU(n:Int):PyData->Bool
 | .tuple ds=>ds.all (bR n)&&jx (ds.map intD)
 |_=>false
def kZ(n:Int)(d:PyData):Bool:=uU n d&&decide ((kids d).length=2)
def qG(n:Int):PyData->Bool
 | .tuple ds=>ds.all (kZ n)&&jw (ds.map fun t=>(kids t).map intD)
 |_=>false
def uL:PyData->Bool
 | .tuple [n,t]=>qz n&&(decide (0<=intD n)&&decide (intD n<=10))&&qG (intD n) t
 |_=>false
theorem Bb{n:Int}:∀{d:PyData},bR n d=true->∃i,d= .int i/\0<=i/\i<n
 | .int i,h=>⟨i,rfl,by simpa[bR]using h⟩
end zO
namespace L2
open PySem PySem.Spec PyProof.Rows
section
variable{X:Cx}
theorem qm(K:W.Frag)(h:X.K=K:=by rfl):IxR X (rIxT K):=by subst h;exact gO
theorem gb(K:W.Frag)(h:X.K=K:=by rfl):IxR X (rIxL K):=by subst h;exact nO
theorem uz(K:W.Frag)(h:X.K=K:=by rfl):CallR X (.builtin "len") (fun xs H Q=>∃p ys,xs=[.ref p]/\(SqL K H p ys\/SqT K H p ys)/\(ys.length<=16777216->Q (.int ys.length) H)):=by subst h;exact zP
theorem N6(K:W.Frag)(hu:X.A.units<cLine)(h:X.K=K:=by rfl):OpR X (compareOp .Lt) (rLtT K):=by subst h;exact op_ltT hu
theorem GQ(K:W.Frag)(h:X.K=K:=by rfl):CallR X (.builtin "isinstance") (fun xs H Q=>∃(x:V) (T C:String),xs=[x,.ty C]/\Lq K H x T/\(C="int"\/C="bool"\/C="tuple"\/C="list")/\Q (.bl (yG T C)) H):=by subst h;exact Ep
theorem qj(K:W.Frag)(hu:X.A.units+64<cLine)(h:X.K=K:=by rfl):OpR X (compareOp .In) (fun x y H Q=>∃(p:Addr) (xs:List V) (ds:List PyData) (dx:PyData),y= .ref p/\(SqL K H p xs\/SqT K H p xs)/\cY K H xs ds/\DV K H x dx/\PyData.canLayAll0 ds=true/\dx.canLay0=true/\dx.depth<=60/\
  Q (.bl (ds.any fun d=>PyData.eqv d dx)) H):=by subst h;exact qT hu
theorem jU(K:W.Frag){es:List Expr}{k:Nat}{t:TGs}{n:Nat}{pos:Pos}(hc:X.calm=true)(h:PGs X es t)(hn:(assignEach es X.env).length=n:=by rfl)(hst:(assignEach es X.env).findIdx? (·.1)=none:=by rfl)(hK:X.K=K:=by rfl):PG X (.Tuple es k pos) (gTup K n t):=by subst hK;exact pg_tup hc h hn hst
end
end L2
namespace PySem
open Sem (wp)
open AutoSeq1 (wpAny_loadPart')
section
variable{prog:Program}{w:World}{A:Around}{E:Value->Shared->Prop}{s:Shared}
theorem jX{Q:List Value->Shared->Prop}{r:Addr}{a b c:Int}{t u v:Tok}{n:Nat}(hh:A.handled=none)(hr:IsRange s.heap r a b c t u v)(hsmall:Builtin.Range.small a b c=true)(hn:Builtin.Range.rangeSize a b c=n)(hlen:n<=2^24)(hQ:∀h' tk acc,(∀b o',s.heap.get? b=some o'->h'.get? b=some o')->ItemsOf (fun i v=>∃t,v= .int (a+i*c) t) acc n->Q acc.toList {s with heap:=h',toks:=tk}):
  wpAny (model prog w) A (collect (.ref r)) Q E s:=by
 unfold collect
 refine ak (Wx (CZ F.entry_proto_collect ?_));rw[M6 F.plain_proto_collect _];show wpAny _ A.in1 (newList []>>=fun l=>again (.builtin "list.__iadd__" ⟨[l,.ref r],[]⟩)) _ _ s;refine ak (wK ?_);refine aF ⟨Qs F.plain_list_iadd _,CZ F.entry_list_iadd ?_⟩;rw[M6 F.plain_list_iadd _]
 show wpAny _ A.in1 (Builtin.List.listExtendWith (.ref s.heap.objs.size) (.ref r) (.ref s.heap.objs.size)) _ _ _;have hS:(s.heap.push {cls:= .type "list",data:= .seq ([]:List Value).toArray}).get? s.heap.objs.size=some {cls:= .type "list",data:= .seq #[] 0}:=gB _ rfl;have fin':∀h' tk acc' c',(∀b o,b≠s.heap.objs.size->(s.heap.push {cls:= .type "list",data:= .seq ([]:List Value).toArray}).get? b=some o->h'.get? b=some o)->
   h'.get? s.heap.objs.size=some {cls:= .type "list",dict:=none,data:= .seq acc' c',slots:=#[]}->ItemsOf (fun i v=>∃t,v= .int (a+i*c) t) acc' n->wpAny (model prog w) A (match Value.ref s.heap.objs.size with
   |Value.ref a=>do
    match(<-load a).data with
     |Data.seq xs _=>pure xs.toList
     |_=>unsupported "internal:collect"
   |_=>unsupported "internal:collect") Q E {s with heap:=h',toks:=tk}:=fun h' tk acc' c' hk hS' hacc=>by
  show wpAny _ A (load s.heap.objs.size>>=_) _ _ _
  refine ak (Wm hS' ?_)
  refine aF ?_
  exact hQ h' tk acc' (fun b o e=>hk b o (bQ (cA e)) (cM _ e)) hacc
 refine zT (wpAny_extend_range (A:=A) (R:=fun r s'=>r= .ok (.ret (.ref s.heap.objs.size))/\∃h' tk acc' c',s'={s with heap:=h',toks:=tk}/\(∀b o,b≠s.heap.objs.size->(s.heap.push {cls:= .type "list",data:= .seq ([]:List Value).toArray}).get? b=some o->h'.get? b=some o)/\
   h'.get? s.heap.objs.size=some {cls:= .type "list",dict:=none,data:= .seq acc' c',slots:=#[]}/\ItemsOf (fun i v=>∃t,v= .int (a+i*c) t) acc' n) (s:={s with heap:=s.heap.push {cls:= .type "list",data:= .seq ([]:List Value).toArray}}) hh (cM _ hr) hsmall hn hlen s.heap.objs.size (.ref s.heap.objs.size) 0 hS (fun h' tk acc' c' hk hS' hacc=>⟨rfl,h',tk,acc',c',rfl,hk,hS',hacc⟩)) (fun fin s' h=> ?_) (fun e s' h=> ?_)
 ·cases fin with
  |done f=>
   obtain⟨e,h',tk,acc',c',rfl,h1,h2,h3⟩:=h
   cases e
   exact fin' h' tk acc' c' h1 h2 h3
  |again c'=>exact⟨h.1,M4 h.2 fun r s'' hr=>by obtain⟨rfl,h',tk,acc',c',rfl,h1,h2,h3⟩:=hr;exact fin' h' tk acc' c' h1 h2 h3⟩
 ·exact absurd h.1 (by simp)
end
theorem ji(r:Addr)(a b c:Int)(t u v:Tok)(n:Nat)(hsmall:Builtin.Range.small a b c=true)(hn:Builtin.Range.rangeSize a b c=n)(hlen:n<=2^24):
  Meets (Builtin.«tuple.__new__» ⟨[.type "tuple",.ref r],[]⟩)
   (fun A R s=>A.handled=none/\IsRange s.heap r a b c t u v/\∀(h':Heap) tk acc,(∀b o',s.heap.get? b=some o'->h'.get? b=some o')->ItemsOf (fun i v=>∃t,v= .int (a+i*c) t) acc n->R (.ok (.ret (.ref h'.objs.size))) {s with heap:=h'.push {cls:= .type "tuple",data:= .seq acc},toks:=tk}):=
 .of_wp fun prog w A R s h=>by
  obtain⟨hp,g,d,tk,os⟩:=s;obtain⟨hh,ht,h⟩:=h
  have hsub:=sub_tuple_self
  have hinit:=init_tuple_lookup
  have hmh:=madeHere_tuple
  have hT:Shared.TypeIs ⟨hp,g,d,tk,os⟩ (.ref r) "range":=⟨_,ht,rfl⟩
  wp_walk using wpAny_loadPart' ht,Rw hT,jX (A:=A.in1) hh ht hsmall hn hlen
  intro h' tk' acc hk hacc
  show wpAny _ _ (Builtin.Tuple.tupleExact acc.toList.toArray>>=fun v=>ret v) _ _ _
  unfold Builtin.Tuple.tupleExact
  refine ak (wK ?_ (by show acc.toList.toArray.size<=sizeLine;rw[fM];simp;rw[hacc.1];omega))
  refine aF ⟨_,rfl,?_⟩
  have e:acc.toList.toArray=acc:=by simp
  rw[e]
  exact h h' tk' acc hk hacc
section
variable{prog:Program}{w:World}{A:Around}{E:Value->Shared->Prop}{s:Shared}
theorem oN{Q:Value->Shared->Prop}{r:Addr}{a b c:Int}{t u v:Tok}{n:Nat}(hh:A.handled=none)(hr:IsRange s.heap r a b c t u v)(hsmall:Builtin.Range.small a b c=true)(hn:Builtin.Range.rangeSize a b c=n)(hlen:n<=2^24)(h:∀(h':Heap) tk acc,(∀b o',s.heap.get? b=some o'->h'.get? b=some o')->ItemsOf (fun i v=>∃t,v= .int (a+i*c) t) acc n->Q (.ref h'.objs.size) {s with heap:=h'.push {cls:= .type "tuple",data:= .seq acc},toks:=tk}):
  wpAny (model prog w) A (call (.type "tuple") [.ref r]) Q E s:=
 callType_new F.called_tuple (by decide) (F.typeCall_tuple_1 _) (F.newCall_tuple_1 _) (fun obj=>F.args_object_init_2 obj _) F.entry_tuple_new
  (ji r a b c t u v n hsmall hn hlen) ⟨hh,hr,fun h' tk acc hk hacc=>⟨⟨_,gB _ rfl,rfl⟩,h h' tk acc hk hacc⟩⟩
end
end PySem
namespace L2
open PySem PySem.Spec PyProof.Rows
section
variable{X:Cx}{p p' pos pos':Pos}{a:Expr}{ta:TA}
def cR(n:Nat):List V:=(List.range n).map fun(k:Nat)=>V.int (k:Int)
def WW(ta:TA):TE:=fun σ H Q=>ta σ H fun vs H1=>∃j:Int,vs=[.int j]/\0<=j/\j<=16777216/\∀l,H1 l=none->Q (.ref l) (upd H1 l (.tup (cR j.toNat)))
theorem qF:∀{n:Nat} {us:List Value},us.length=n->(∀(j:Nat) (u:Value),us[j]? =some u->∃t:Tok,u=Value.int (0+((j:Nat):Int)*1) t)->Vals (cR n) us:=by
 intro n us hl hi
 have go:∀(us:List Value) (k:Nat),(∀(j:Nat) (u:Value),us[j]? =some u->∃t:Tok,u=Value.int (0+((j+k:Nat):Int)*1) t)->Vals ((List.range' k us.length).map fun(k:Nat)=>V.int (k:Int)) us:=by
  intro us
  induction us with
  |nil=>intro k _;exact .nil
  |cons u us ih=>
   intro k h
   obtain⟨t,e⟩:=h 0 u rfl
   refine .cons ⟨t,?_⟩ (ih (k+1) fun j u' hj=> ?_)
   ·rw[e];congr 1;omega
   ·obtain⟨t',e'⟩:=h (j+1) u' (by simpa using hj)
    refine⟨t',?_⟩
    rw[e'];congr 1;omega
 have:=go us 0 (fun j u hj=>by obtain⟨t,e⟩:=hi j u hj;exact⟨t,by rw[e];rfl⟩)
 unfold cR
 rw[List.range_eq_range',<-hl]
 exact this
theorem pF(hc:X.calm=true)(Yd:Gl X "tuple")(X6:X.mg "tuple"=none)(hg:Gl X "range")(hm:X.mg "range"=none)(ha:PA X [a] ta)(hs:starEach [a] X.env=[(false,eval a X.env)]:=by rfl)(hs2:starEach [Expr.Call (.Name "range" p') [a] [] pos'] X.env=[(false,eval (Expr.Call (.Name "range" p') [a] [] pos') X.env)]:=by rfl):
  PE X (.Call (.Name "tuple" p) [.Call (.Name "range" p') [a] [] pos'] [] pos) (WW ta):=by
 intro pins s σ H Q I h
 refine Mt (wC I Yd X6 (show bootBuiltins "tuple"=some (.type "tuple")from by decide+kernel) ?_ (by decide) (by decide))
 refine Ez ?_ hs2 rfl
 rw[hs2]
 refine Vp ?_
 refine Call_ (wC I hg hm Wk (Ez (thn (ha pos' pins s σ H _ I h) fun us s1 ⟨vs,H1,I1,r1,q1⟩=> ?_) hs rfl))
 obtain⟨j,e,q1,q2,q⟩:=q1
 subst e
 cases r1 with
 |cons r rr=>
  cases rr
  obtain⟨t,rfl⟩:=r
  refine call_range_1 ?_
  refine RB ?_
  have hn:Builtin.Range.rangeSize 0 j 1=((j.toNat:Nat):Int):=by rw[Z8];split<;>omega
  refine oN (I.ok.hd hc) (ZM ..) (small_one (by decide) (by decide) (by omega) (by omega)) hn (by omega) fun h' tk acc hk hacc=> ?_
  have I2:Inv X pins σ H1 {s1 with heap:=h',toks:=tk}:=I1.kept fun b o e=>hk b o (cM _ e)
  have hv:Vals (cR j.toNat) acc.toList:=qF (by rw[sO];exact hacc.1) (fun i u hu=>hacc.2 i u (by simpa using hu))
  have hz:(cR j.toNat).length<=sizeLine:=by unfold cR;rw[fM];simp;omega
  have I3:Inv X pins σ (upd H1 h'.objs.size (.tup (cR j.toNat))) {s1 with heap:=h'.push {cls:= .type "tuple",data:= .seq acc},toks:=tk}:=
   I2.laid (t':=tk) (fun b o e=>cM _ e) (aH _) (show ObjOk X.prog X.w _ _ _ (.tup (cR j.toNat))from⟨hz,acc.toList,hv,by rw[show acc=acc.toList.toArray by simp];exact Vg _ _⟩)
  exact⟨.ref h'.objs.size,_,I3,rfl,q _ (I2.hok.fresh (aH _))⟩
open Classical in
theorem nW(hu:X.A.units+64<cLine):OpR X (compareOp .NotIn) (fun x y H Q=>∃(p:Addr) (xs:List V) (ds:List PyData) (dx:PyData),y= .ref p/\(SqL X.K H p xs\/SqT X.K H p xs)/\cY X.K H xs ds/\DV X.K H x dx/\PyData.canLayAll0 ds=true/\dx.canLay0=true/\dx.depth<=60/\
  Q (.bl (!(ds.any fun d=>PyData.eqv d dx))) H):=by
 intro pins s σ H x y v u Q I rx ry h
 obtain⟨p,xs,ds,dx,rfl,hq,hds,hx,ca,cb,hd,q⟩:=h
 cases ry
 obtain⟨bs,rb⟩:=DV.reads I hx rx
 have key:∀{its:List Value},Vals xs its->(∀y∈its,SeqAt.EqAt X.A.in1 s y v (decide (∃d as,Reads s.heap y d as/\d∈ds/\PyData.eqv d dx=true)))/\(its.any fun y=>decide (∃d as,Reads s.heap y d as/\d∈ds/\PyData.eqv d dx=true))=ds.any fun d=>PyData.eqv d dx:=by
  intro its rv
  obtain⟨as,ra⟩:=cY.reads I hds rv
  have each:∀{us:List Value} {es:List PyData} {as:List Addr},ReadsAll s.heap us es as->(∀e∈es,e∈ds)->(∀y∈us,SeqAt.EqAt X.A.in1 s y v (decide (∃d as,Reads s.heap y d as/\d∈ds/\PyData.eqv d dx=true)))/\(us.any fun y=>decide (∃d as,Reads s.heap y d as/\d∈ds/\PyData.eqv d dx=true))=es.any fun d=>PyData.eqv d dx:=by
   intro us
   induction us with
   |nil=>intro es as h _;cases h;exact⟨(fun y hy=>(nomatch hy)),rfl⟩
   |cons y us ih=>
    intro es as h hs
    cases h with
    | @cons _ _ d ds' as' bs' r rr=>
     obtain⟨i1,i2⟩:=ih rr fun e he=>hs e (dG _ he)
     have cl:=Cu ca d (hs d cV)
     have e:decide (∃d as,Reads s.heap y d as/\d∈ds/\PyData.eqv d dx=true)=PyData.eqv d dx:=by
      rw[zV,Ey]
      constructor
      ·rintro⟨d',as'',r',_,q'⟩
       obtain⟨rfl,_⟩:=(PySem.Reads.unique r _ _ r')
       exact q'
      ·intro q'
       exact⟨d,_,r,hs d cV,q'⟩
     refine⟨fun z hz=> ?_,?_⟩
     ·rcases cB.mp hz with rfl|hz
      ·rw[e]
       exact SeqAt.eqAt_reads d dx _ s _ _ _ _ r rb cl cb (by show X.A.units+1+min d.depth dx.depth<cLine;omega)
      ·exact i1 z hz
     ·rw[Qg,Qg,i2,e]
  exact each ra fun e he=>he
 rcases hq with hq|hq
 ·obtain⟨its,r,pl,hz⟩:=I.list hq
  obtain⟨k1,k2⟩:=key r
  refine SeqAt.notIn_listAt _ pl.isList (fun w hw=>k1 w (by simpa using hw)) ⟨.bl _,H,I,rfl,?_⟩
  rw[show∀f:Value->Bool,its.toArray.any f=its.any f from fun f=>by simp,k2]
  exact q
 ·obtain⟨its,r,pl,hz⟩:=I.tuple hq
  obtain⟨k1,k2⟩:=key r
  refine SeqAt.notIn_tupleAt _ pl (fun w hw=>k1 w (by simpa using hw)) ⟨.bl _,H,I,rfl,?_⟩
  rw[show∀f:Value->Bool,its.toArray.any f=its.any f from fun f=>by simp,k2]
  exact q
theorem Bd(K:W.Frag)(hu:X.A.units+64<cLine)(h:X.K=K:=by rfl):OpR X (compareOp .NotIn) (fun x y H Q=>∃(p:Addr) (xs:List V) (ds:List PyData) (dx:PyData),y= .ref p/\(SqL K H p xs\/SqT K H p xs)/\cY K H xs ds/\DV K H x dx/\PyData.canLayAll0 ds=true/\dx.canLay0=true/\dx.depth<=60/\
  Q (.bl (!(ds.any fun d=>PyData.eqv d dx))) H):=by subst h;exact nW hu
end
end L2
namespace PySem
open Sem (wp)
open Builtin
open AutoSeq1 (wpAny_loadPart')
theorem nY:fillsNumberSlot (.type "tuple") "mul"=pure false:=
 fillsNumberSlot_seq (id:="tuple.__mul__") (r:=some (.builtin "tuple.__rmul__")) F.slot_tuple_mul.lookup (by decide+kernel) F.slot_tuple_rmul.lookup (by decide+kernel)
theorem vd:seqRepeat? (.type "tuple")=pure (some (.builtin "tuple.__mul__")):=by
 unfold seqRepeat?
 rw[seqSlot_of (T:="tuple") (name:="__mul__") (id:="tuple.__mul__") F.slot_tuple_mul.lookup (by decide+kernel),seqSlot_of (T:="tuple") (name:="__rmul__") (id:="tuple.__rmul__") F.slot_tuple_rmul.lookup (by decide+kernel)]
 rfl
theorem vJ(a:Int)(t:Tok)(l:Addr)(items:Array Value)(n:Nat)(d:Option Addr)(sl:Array (Option Value)):
  Meets (Builtin.«int.__rmul__» ⟨[.int a t,.ref l],[]⟩) (fun _ R s=>s.heap.get? l=some {cls:= .type "tuple",dict:=d,data:= .seq items n,slots:=sl}/\R (.ok (.ret Value.notImplemented)) s):=
 .of_wp fun prog w A R s h=>by obtain⟨hp,g,d,tk,os⟩:=s;obtain⟨hl,h⟩:=h;wp_walk;exact⟨_,rfl,h⟩
theorem tup_mul_1(l:Addr)(items:Array Value)(n:Nat)(d:Option Addr)(sl:Array (Option Value))(x:Int)(u:Tok)(hx:x=1):
  Meets (Builtin.«tuple.__mul__» ⟨[.ref l,.int x u],[]⟩) (fun _ R s=>s.heap.get? l=some {cls:= .type "tuple",dict:=d,data:= .seq items n,slots:=sl}/\R (.ok (.ret (Value.ref l))) s):=
 .of_wp fun prog w A R s h=>by
  subst hx
  obtain⟨hp,g,d,tk,os⟩:=s;obtain⟨hl,h⟩:=h;have f1:=wfy
  wp_walk using wpAny_loadPart' hl;exact⟨_,rfl,h⟩
theorem tup_mul_0(l:Addr)(items:Array Value)(n:Nat)(d:Option Addr)(sl:Array (Option Value))(x:Int)(u:Tok)(hx:x<=0)(hlo: -(2^63)<=x)(hne:items.isEmpty=false):
  Meets (Builtin.«tuple.__mul__» ⟨[.ref l,.int x u],[]⟩) (fun _ R s=>s.heap.get? l=some {cls:= .type "tuple",dict:=d,data:= .seq items n,slots:=sl}/\R (.ok (.ret (Value.ref s.heap.objs.size))) {s with heap:=s.heap.push {cls:=Value.type "tuple",data:=Data.seq #[]},toks:=s.toks}):=
 .of_wp fun prog w A R s h=>by
  obtain⟨hp,g,d,tk,os⟩:=s;obtain⟨hl,h⟩:=h;have f1:=wfy
  have c1:¬((decide (x< -(2^63))||decide (x≥2^63))=true):=by simp;omega
  have c2:¬((items.isEmpty||x==1)=true):=by rw[hne];simp;omega
  have c3:(decide (x<=0)||items.isEmpty)=true:=by rw[hne];simp;omega
  wp_walk using wpAny_loadPart' hl;rw[ao c1];wp_walk using wpAny_loadPart' hl;rw[ao c2];wp_walk using wpAny_loadPart' hl;exact⟨_,rfl,h⟩
theorem Fb(l:Addr)(items:Array Value)(n:Nat)(d:Option Addr)(sl:Array (Option Value))(x:Int)(u:Tok)(hx:1<x)(hhi:x<2^63)(hne:items.isEmpty=false)(hsz:items.size*x.toNat<=1000):
  Meets (Builtin.«tuple.__mul__» ⟨[.ref l,.int x u],[]⟩) (fun _ R s=>s.heap.get? l=some {cls:= .type "tuple",dict:=d,data:= .seq items n,slots:=sl}/\R (.ok (.ret (Value.ref s.heap.objs.size))) {s with heap:=s.heap.push {cls:=Value.type "tuple",data:=Data.seq (List.foldl (fun x1 x2=>x1++x2) #[] (List.replicate x.toNat items))},toks:=s.toks}):=
 .of_wp fun prog w A R s h=>by
  obtain⟨hp,g,d,tk,os⟩:=s;obtain⟨hl,h⟩:=h;have f1:=wfy
  have c1:¬((decide (x< -(2^63))||decide (x≥2^63))=true):=by simp;omega
  have c2:¬((items.isEmpty||x==1)=true):=by rw[hne];simp;omega
  have c3:¬((decide (x<=0)||items.isEmpty)=true):=by rw[hne];simp;omega
  have hxs:(items.size:Int)*x=((items.size*x.toNat:Nat):Int):=by rw[Int.natCast_mul,Ml (by omega)]
  have c4:¬((items.size:Int)*x>(2^63-1)/8):=by rw[hxs];omega
  have c5:¬(Builtin.Tuple.tupleTooMany ((items.size:Int)*x)=true):=by
   rw[hxs]
   intro z
   have z':((items.size*x.toNat:Nat):Int)>(sizeLine:Int):=tL z
   have:=fM
   generalize items.size*x.toNat=m at *
   omega
  have htake:(List.foldl (fun x1 x2=>x1++x2) #[] (List.replicate x.toNat items)).size<=sizeLine:=by
   have e:List.foldl (fun x1 x2=>x1++x2) #[] (List.replicate x.toNat items)=(List.replicate x.toNat items.toList).flatten.toArray:=by
    have:=PyProof.Rows.listMul_foldl_if items x.toNat
    rw[ao (by rw[hne];simp)]at this
    exact this
   rw[e,eU]
   have:(List.replicate x.toNat items.toList).flatten.length=x.toNat*items.size:=by simp
   rw[this,whc,fM]
   omega
  wp_walk using wpAny_loadPart' hl;rw[ao c1];wp_walk using wpAny_loadPart' hl;rw[ao c2];wp_walk using wpAny_loadPart' hl;rw[ao c3]
  try dsimp only
  rw[ao c4]
  try dsimp only
  rw[ao c5]
  try dsimp only
  unfold Builtin.Tuple.tupleExact
  refine ak (wK (aF ?_) htake)
  exact⟨_,rfl,h⟩
end PySem
namespace L2
open PySem PySem.Spec PyProof.Rows
section
variable{X:Cx}{p p' pos pos':Pos}{a:Expr}{ta:TA}
theorem Vals.Xb{xs:List V}{us:List Value}(h:Vals xs us):∀k:Nat,Vals (List.replicate k xs).flatten (List.replicate k us).flatten
 |0=> .nil
 |k+1=>by rw[HB,HB,Qi,Qi];exact h.append (Vals.Xb h k)
def Xe(K:W.Frag):R2:=fun x y H Q=>∃a k xs,x= .ref a/\y= .int k/\SqT K H a xs/\xs≠[]/\ -(2^63)<=k/\k<2^63/\xs.length*k.toNat<=1000/\∀r H',Same H H'->SqT K H' r (List.replicate k.toNat xs).flatten->Q (.ref r) H'
theorem N5:OpR X (binaryOp .Mult) (Xe X.K):=by
 intro pins s σ H x y v u Q I rx ry h
 obtain⟨a,k,xs,rfl,rfl,ha,hne,h1,h2,hz,q⟩:=h
 cases rx
 obtain⟨t,rfl⟩:=ry
 obtain⟨its,r1,p1,_⟩:=I.tuple ha
 obtain⟨⟨cls,dd,data,sl⟩,ho,hc,n,hd⟩:=id p1
 simp only at hc hd
 subst hc hd
 have hlen:=r1.length
 have hem:its.toArray.isEmpty=false:=by
  cases its with
  |nil=>cases r1;exact absurd rfl hne
  |cons _ _=>rfl
 have road:∀{S:PySem.Spec},Meets (Builtin.«tuple.__mul__» ⟨[.ref a,.int k t],[]⟩) S->S X.A (wants (EP X pins σ Q) X.xe) s->wpAny (model X.prog X.w) X.A (binaryOp .Mult (.ref a) (.int k t)) (EP X pins σ Q) X.xe s:=fun M hS=>
  wpAny_binaryOp_repeat_ref (T:="tuple") (U:="int") (by decide) ⟨_,ho,rfl⟩ (fun s'=>Wi s' k t) nY F.fills_int_mul wef vd F.slot_int_index.lookup
   (Mq wef (Wi s k t) F.entry_int_rmul (F.args_int_rmul_2 _ _) (vJ k t a its.toArray n dd sl)
    ⟨ho,rfl,⟨_,ho,rfl⟩,Mq F.slot_tuple_mul ⟨_,ho,rfl⟩ F.entry_tuple_mul (F.args_tuple_mul_2 _ _) M hS⟩)
 by_cases c1:k=1
 ·refine road (tup_mul_1 a its.toArray n dd sl k t c1) ⟨ho,⟨.ref a,H,I,rfl,q a H (Same.refl _) ?_⟩⟩
  subst c1
  have:(List.replicate (1:Int).toNat xs).flatten=xs:=by simp
  rw[this];exact ha
 by_cases c0:k<=0
 ·refine road (tup_mul_0 a its.toArray n dd sl k t c0 h1 hem) ⟨ho,?_⟩
  have e0:k.toNat=0:=by omega
  refine⟨.ref s.heap.objs.size,_,I.laid (t':=s.toks) (o:= .tup []) (fun b ob q=>cM _ q) (aH _) ⟨cX _,[],.nil,Vg _ _⟩,rfl,q _ _ (fun c o e=>by rw[cu (j7 e (I.hok.fresh (aH _)))];exact e) ?_⟩
  rw[e0]
  exact SqT.of aJ
 ·have hsz:its.toArray.size*k.toNat<=1000:=by rw[eU,<-hlen];exact hz
  refine road (Fb a its.toArray n dd sl k t (by omega) h2 hem hsz) ⟨ho,?_⟩
  have hnew:List.foldl (fun x1 x2=>x1++x2) #[] (List.replicate k.toNat its.toArray)=(List.replicate k.toNat its).flatten.toArray:=by
   have:=foldl_rep its k.toNat []
   rw[List.nil_append]at this
   exact this
  rw[hnew]
  have hz':(List.replicate k.toNat xs).flatten.length<=sizeLine:=by
   rw[len_rep,whc]
   exact eO hz (by rw[fM];decide)
  refine⟨.ref s.heap.objs.size,_,I.laid (t':=s.toks) (o:= .tup (List.replicate k.toNat xs).flatten) (fun b ob q=>cM _ q) (aH _) ⟨hz',_,Vals.Xb r1 k.toNat,Vg _ _⟩,rfl,q _ _ (fun c o e=>by rw[cu (j7 e (I.hok.fresh (aH _)))];exact e) (SqT.of aJ)⟩
def WX(ta:TA):TE:=fun σ H Q=>ta σ H fun vs H1=>∃j:Int,vs=[.int j]/\0<=j/\j<=16777216/\∀l,H1 l=none->Q (.ref l) (upd H1 l (.lst (cR j.toNat)))
theorem pG(hc:X.calm=true)(Yd:Gl X "list")(X6:X.mg "list"=none)(hg:Gl X "range")(hm:X.mg "range"=none)(ha:PA X [a] ta)(hs:starEach [a] X.env=[(false,eval a X.env)]:=by rfl)(hs2:starEach [Expr.Call (.Name "range" p') [a] [] pos'] X.env=[(false,eval (Expr.Call (.Name "range" p') [a] [] pos') X.env)]:=by rfl):
  PE X (.Call (.Name "list" p) [.Call (.Name "range" p') [a] [] pos'] [] pos) (WX ta):=by
 intro pins s σ H Q I h
 refine Mt (wC I Yd X6 (show bootBuiltins "list"=some (.type "list")from by decide+kernel) ?_ (by decide) (by decide))
 refine Ez ?_ hs2 rfl
 rw[hs2]
 refine Vp ?_
 refine Call_ (wC I hg hm Wk (Ez (thn (ha pos' pins s σ H _ I h) fun us s1 ⟨vs,H1,I1,r1,q1⟩=> ?_) hs rfl))
 obtain⟨j,e,q1,q2,q⟩:=q1
 subst e
 cases r1 with
 |cons r rr=>
  cases rr
  obtain⟨t,rfl⟩:=r
  refine call_range_1 ?_
  refine RB ?_
  have hn:Builtin.Range.rangeSize 0 j 1=((j.toNat:Nat):Int):=by rw[Z8];split<;>omega
  refine call_list_range (I.ok.hd hc) (ZM ..) (small_one (by decide) (by decide) (by omega) (by omega)) hn (by omega) fun h' tk acc c hk hS hacc=> ?_
  have hv:Vals (cR j.toNat) acc.toList:=qF (by rw[sO];exact hacc.1) (fun i u hu=>hacc.2 i u (by simpa using hu))
  have hz:(cR j.toNat).length<=sizeLine:=by unfold cR;rw[fM];simp;omega
  have I2:Inv X pins σ H1 {s1 with heap:=s1.heap.push {cls:=Value.type "range",data:=Data.fields #[Value.int 0 s1.toks,Value.int j t,Value.int 1 (s1.toks+1)]},toks:=s1.toks+1+1}:=I1.kept fun b o e=>cM _ e
  exact⟨.ref _,_,I2.laid (t':=tk) (o:= .lst (cR j.toNat)) hk (aH _) ⟨hz,acc.toList,c,hv,by simpa using hS⟩,rfl,q _ (I2.hok.fresh (aH _))⟩
end
end L2
namespace PySem
open Sem (wp)
open AutoSeq1 (wpAny_loadPart')
theorem vP(l:Addr)(items:Array Value)(n:Nat)(dct:Option Addr)(sl:Array (Option Value)):
  Meets (Builtin.«enumerate.__new__» ⟨[.type "enumerate",.ref l],[]⟩) (fun _ R s=>s.heap.get? l=some {cls:= .type "tuple",dict:=dct,data:= .seq items n,slots:=sl}/\
   R (.ok (.ret (.ref (s.heap.push {cls:= .type "tuple_iterator",data:= .fields #[.ref l,.int 0 0]}).objs.size)))
    {s with heap:=(s.heap.push {cls:= .type "tuple_iterator",data:= .fields #[.ref l,.int 0 0]}).push {cls:= .type "enumerate",data:= .fields #[.none,.bool false,.ref s.heap.objs.size,rawInt 0,.none,.none]}}):=
 .of_wp fun prog w A R s h=>by
  obtain⟨hp,g,d,tk,os⟩:=s;obtain⟨hl,h⟩:=h;have hsub:=sub_enumerate
  have hL:Heap.IsTuple (Shared.heap ⟨hp,g,d,tk,os⟩) l items:=⟨_,hl,rfl,n,rfl⟩
  wp_walk using wpAny_loadPart' hl
  refine wpAny_stack_any fun st=>aF ?_;split
  ·rename_i c _ _ _ _ _
   cases(c==Value.type "enumerate")
   ·wp_walk using wpAny_loadPart' hl,WK hL;exact⟨_,rfl,h⟩
   ·wp_walk using wpAny_loadPart' hl,WK hL;exact⟨_,rfl,h⟩
  ·wp_walk using wpAny_loadPart' hl,WK hL;exact⟨_,rfl,h⟩
section
variable{prog:Program}{w:World}{A:Around}{E:Value->Shared->Prop}{s:Shared}
theorem Bm{it t:Addr}{i:Nat}{items:Array Value}{x:Value}{Q:Value->Shared->Prop}(hit:s.heap.IsTupleIter it t i)(ht:s.heap.IsTuple t items)(hx:items[i]? =some x)(hQ:∀h',h'.IsTupleIter it t (i+1)->Heap.SameBut it s.heap h'->Q x {s with heap:=h'}):wpAny (model prog w) A (Builtin.SmallTypes.nextOf (.ref it)) Q E s:=by
 obtain⟨o,ho,hc,hd⟩:=id hit;obtain⟨ol,hol,_,nl,hdl⟩:=ht;unfold Builtin.SmallTypes.nextOf
 refine ak (Qv (name:=Str.ofString "__next__") hit.typeIs wbs (Dd wbs hit.typeIs weh ?_ (wdw _)))
 show wpAny _ _ (field (.ref it) 0>>=_) _ _ s;refine ak (Rv ho hd (x:= .ref t) rfl ?_)
 show wpAny _ _ (if(Value.ref t==Value.none)=true then _ else _) _ _ s;rw[ao (show¬((Value.ref t==Value.none)=true)from qC)]
 show wpAny _ _ (field (.ref it) 1>>=_) _ _ s;refine ak (Rv ho hd (x:= .int i 0) rfl ?_)
 show wpAny _ _ (seqItems? (.ref t)>>=_) _ _ s;refine ak (Ww hol hdl ?_)
 simp only[zQ,hx];refine ak (Qt ho hd (by simp) (aF ⟨x,rfl,aF (hQ _ ?_ (wY ..))⟩))
 exact⟨_,Qk _ ho (WM (Ms hd _)),(wdh ..).trans hc,by rw[Ms hd];simp[rawInt]⟩
theorem qU{it t:Addr}{i:Nat}{items:Array Value}{Q:Value->Shared->Prop}(hh:A.handled=none)(hit:s.heap.IsTupleIter it t i)(ht:s.heap.IsTuple t items)(hx:items[i]? =none)(hE:∀h' e,Heap.ExtBut it s.heap h'->(∃o,h'.get? e=some o/\o.cls= .type "StopIteration")->E (.ref e) {s with heap:=h'}):wpAny (model prog w) A (Builtin.SmallTypes.nextOf (.ref it)) Q E s:=by
 obtain⟨o,ho,hc,hd⟩:=id hit;obtain⟨ol,hol,_,nl,hdl⟩:=ht;unfold Builtin.SmallTypes.nextOf
 refine ak (Qv (name:=Str.ofString "__next__") hit.typeIs wbs (Dd wbs hit.typeIs weh ?_ (wdw _)))
 show wpAny _ _ (field (.ref it) 0>>=_) _ _ s;refine ak (Rv ho hd (x:= .ref t) rfl ?_)
 show wpAny _ _ (if(Value.ref t==Value.none)=true then _ else _) _ _ s;rw[ao (show¬((Value.ref t==Value.none)=true)from qC)]
 show wpAny _ _ (field (.ref it) 1>>=_) _ _ s;refine ak (Rv ho hd (x:= .int i 0) rfl ?_)
 show wpAny _ _ (seqItems? (.ref t)>>=_) _ _ s;refine ak (Ww hol hdl ?_)
 simp only[zQ,hx];refine ak (MP (ak (Qt ho hd (by simp) ?_)))
 show wpAny _ _ (newExc (.type "StopIteration") []>>=_) _ _ _;refine ak ?_;simp only[newExc,newTuple];refine ak (wK ?_ (by size_fits))
 refine ak (m:=firstArgMember _ _) (Wo (a:=Value.none) (by first |rfl|(simp only[firstArgMember];rfl)) ?_);refine wK ?_ (by size_fits)
 simp only[raiseNew];refine ak (wpAny_handled ?_);first |rw[show A.in1.handled=none from hh]|rw[hh]
 refine ak (aF (wpAny_throw ?_));exact hE _ _ (((wY ..).extBut.push _).push _) ⟨_,gB _ rfl,rfl⟩
end
theorem Draws.tup{prog:Program}{w:World}{A:Around}(hh:A.handled=none)(it l:Addr)(hne:l≠it)(items:Array Value):
  Draws prog w A it [it,l] items.size (fun i v=>items[i]? =some v) (fun i h=>h.IsTupleIter it l i/\h.IsTuple l items) where
 live:=fun i h st=>by obtain⟨⟨o,e,_⟩,_⟩:=st;exact⟨o,e⟩
 frame:=fun i h h' st k=>⟨st.1.at fun o e=>k it (by simp) o e,st.2.at fun o e=>k l (by simp) o e⟩
 item:=fun i s Q E hi st hQ=>by
  have hx:items[i]? =some items[i]:=Ql hi
  exact Bm st.1 st.2 hx fun h' hit' hs=>hQ _ h' s.toks hx ⟨hit',st.2.at fun o e=>(hs.2 l hne).trans e⟩ hs
 done:=fun s Q E st hE=>qU hh st.1 st.2 (wgb (aH _)) hE
section
variable{prog:Program}{w:World}{A:Around}{E:Value->Shared->Prop}{s:Shared}
theorem sX{l:Addr}{items:Array Value}{Q:Value->Shared->Prop}(hL:s.heap.IsTuple l items)(h:∀h',IsEnum h' (s.heap.objs.size+1) s.heap.objs.size 0 .none->h'.IsTupleIter s.heap.objs.size l 0->h'.objs.size=s.heap.objs.size+2->(∀b o,s.heap.get? b=some o->h'.get? b=some o)->Q (.ref (s.heap.objs.size+1)) {s with heap:=h'}):
  wpAny (model prog w) A (call (.type "enumerate") [.ref l]) Q E s:=by
 obtain⟨⟨c,dct,dt,sl⟩,hl,hc,n,hd⟩:=hL;replace hc:c= .type "tuple":=hc;replace hd:dt= .seq items n:=hd;subst hc hd
 refine callType_new F.called_enumerate (by decide) (F.typeCall_enumerate_1 _) (F.newCall_enumerate_1 _) (fun obj=>F.args_object_init_2 obj _) F.entry_enumerate_new (vP l items n dct sl) ⟨hl,?_⟩
 have hz:(s.heap.push {cls:= .type "tuple_iterator",data:= .fields #[.ref l,.int 0 0]}).objs.size=s.heap.objs.size+1:=wH ..
 show _/\_
 rw[hz]
 have he:IsEnum ((s.heap.push {cls:= .type "tuple_iterator",data:= .fields #[.ref l,.int 0 0]}).push {cls:= .type "enumerate",data:= .fields #[.none,.bool false,.ref s.heap.objs.size,rawInt 0,.none,.none]}) (s.heap.objs.size+1) s.heap.objs.size 0 .none:=by
  have:=gB (s.heap.push {cls:= .type "tuple_iterator",data:= .fields #[.ref l,.int 0 0]}) (o:={cls:= .type "enumerate",data:= .fields #[.none,.bool false,.ref s.heap.objs.size,rawInt 0,.none,.none]}) rfl
  rw[hz]at this;exact this
 exact⟨⟨_,he,rfl⟩,h _ he ⟨_,cM _ (gB _ rfl),rfl,rfl⟩ (by rw[wH,hz]) fun b o x=>cM _ (cM _ x)⟩
end
end PySem
namespace L2
open PySem PySem.Spec PyProof.Rows
section
variable{X:Cx}{pins:List (Addr×Obj)}{σ:St}{H:Hp}{s:Shared}{h':Heap}
theorem Inv.tQ{t':Nat}{fp:List Addr}{T:Addr}{o:HO}(I:Inv X pins σ H s)(k:∀b o,b∉fp->s.heap.get? b=some o->h'.get? b=some o)(hf:∀b∈fp,FpOk X pins H b)(hT:s.heap.objs.size<=T)(new:ObjOk X.prog X.w (upd H T o) h' T o):
  Inv X pins σ (upd H T o) {s with heap:=h',toks:=t'}:=by
 have hTn:H T=none:=I.hok.fresh hT
 have Xo:∀b u,H b=some u->b∉fp:=fun b u e z=>by rw[(hf b z).1]at e;cases e
 have neT:∀b o,s.heap.get? b=some o->b≠T:=fun b o e=>bQ (gA (cA e) hT)
 have Xp:∀b u,H b=some u->b≠T:=fun b u e z=>by rw[z,hTn]at e;cases e
 refine I.step (g':=s.gens) (d':=s.drawn) (ch:=fp) (fun b hb=> ?_) (fun b o _ _ hc e _=>k b o hc e) (fun b o _ _ hc e _=>⟨o.slots,k b o hc e⟩) (fun b o _ e n=>by rw[cu (neT b o e)];exact n)
  (fun b o hc e=>⟨o,k b o hc e⟩) (fun b xs e=>by rw[cu (Xp b _ e)];exact e) (fun b o u e=>by rw[cu (Xp b _ e)];exact e) (fun b ps e=>⟨#[],by rw[cu (Xp b _ e),e];simp⟩) (fun m hm=> ?_) (fun b u e=> ?_) I.bare
 ·obtain⟨f0,f1,f2,f3,f4,f5⟩:=hf b hb
  exact⟨f3,f1,f4,f5⟩
 ·obtain⟨o,es,ep,ho,r⟩:=hm
  exact⟨o,es,ep,k _ o (fun z=>(hf _ z).2.1 rfl) ho,r⟩
 ·by_cases hb:b=T
  ·subst hb
   rw[aJ]at e
   cases e
   exact new
  ·rw[cu hb]at e
   refine(I.hok b u e).stay (fun c v hc q=>k c v ?_ q) (fun c q=>by rw[cu (Xp c _ q)];exact q) fun c xs q=>by rw[cu (Xp c _ q)];exact q
   rcases hc with z|z
   ·rw[z];exact Xo b u e
   ·exact Xo c _ z
theorem Inv.turns{t':Nat}{fp:List Addr}(I:Inv X pins σ H s)(k:∀b o,b∉fp->s.heap.get? b=some o->h'.get? b=some o)(hf:∀b∈fp,FpOk X pins H b):Inv X pins σ H {s with heap:=h',toks:=t'}:=by
 have Xo:∀b u,H b=some u->b∉fp:=fun b u e z=>by rw[(hf b z).1]at e;cases e
 refine I.step (g':=s.gens) (d':=s.drawn) (ch:=fp) (fun b hb=> ?_) (fun b o _ _ hc e _=>k b o hc e) (fun b o _ _ hc e _=>⟨o.slots,k b o hc e⟩) (fun b o _ e n=>n)
  (fun b o hc e=>⟨o,k b o hc e⟩) (fun b xs e=>e) (fun b o u e=>e) (fun b ps e=>⟨#[],by rw[e];simp⟩) (fun m hm=> ?_) (fun b u e=> ?_) I.bare
 ·obtain⟨f0,f1,f2,f3,f4,f5⟩:=hf b hb
  exact⟨f3,f1,f4,f5⟩
 ·obtain⟨o,es,ep,ho,r⟩:=hm
  exact⟨o,es,ep,k _ o (fun z=>(hf _ z).2.1 rfl) ho,r⟩
 ·refine(I.hok b u e).stay (fun c v hc q=>k c v ?_ q) (fun c q=>q) fun c xs q=>q
  rcases hc with z|z
  ·rw[z];exact Xo b u e
  ·exact Xo c _ z
end
def Mv(K:W.Frag)(b:Bool)(H:Hp)(a:Addr)(xs:List V):Prop:=match b with
 |false=>SqL K H a xs
 |true=>SqT K H a xs
def Ite(K:W.Frag)(b:Bool)(a:Addr)(xs:List V):It:=
 ⟨fun i H=>Mv K b H a xs/\i<xs.length,fun i H x H'=>∃t v,x= .ref t/\H t=none/\H'=upd H t (.tup [.int (i:Int),v])/\xs[i]? =some v,fun i H=>Mv K b H a xs/\i=xs.length⟩
theorem zX{P:Program}{w:World}{K:W.Frag}{es:List Expr}{k:Nat}{pos:Pos}(a e it:Addr)(xs:List V)(hne:e≠it):
  Turn P w K (.Tuple es k pos) (Ite K false a xs) [e,it] e (fun i h=>(∃old,IsEnum h e it (i:Int) old)/\h.IsListIter it a i) where
 mem:=by simp
 obj:=fun i h st b hb=>by
  obtain⟨⟨old,he⟩,o,e1,c,d⟩:=st
  rcases cB.mp hb with z|hb
  ·subst z;exact⟨_,he,fun v z=>by cases z⟩
  ·have z:b=it:=by simpa using hb
   subst z
   exact⟨o,e1,fun v z=>by rw[d]at z;cases z⟩
 keep:=fun i h h' st k=>⟨st.1.imp fun old he=>k e (by simp) _ he,st.2.at fun o e=>k it (by simp) o e⟩
 item:=by
  intro X hP hw hK hc i pins s σ H E I hf st hg
  subst hP hw hK
  obtain⟨hq0,hi⟩:=hg
  have hq:SqL X.K H a xs:=hq0
  obtain⟨its,rv,p,hz⟩:=I.list hq
  have hx:xs[i]? =some xs[i]:=gn hi
  obtain⟨u,hu,ru⟩:=rv.get hx
  obtain⟨⟨old,he⟩,hit⟩:=st
  refine wpAny_pyNext_enum_item he hit p.isList (x:=u) (by simpa using hu) hne fun h1 ho hit1 hT hsz hk=>⟨_,rfl,?_⟩
  refine wpAny_letOwnedTupleGo_enum ho fun h2 he2 hs2=> ?_
  have Bv:Heap.SameBut e h1 h2:=hs2
  have Xr:s.heap.objs.size≠e:=fun z=>absurd (cA he) (by rw[<-z];exact p7 _)
  have keep:∀b o,b∉[e,it]->s.heap.get? b=some o->h2.get? b=some o:=fun b o hb q=>(Bv.2 b fun z=>hb (by simp[z])).trans (hk b o (fun z=>hb (by simp[z])) (fun z=>hb (by simp[z])) q)
  have hT2:h2.get? s.heap.objs.size=some {cls:= .type "tuple",data:= .seq #[.int i s.toks,u]}:=(Bv.2 _ Xr).trans hT
  have I2:=I.tQ (h':=h2) (t':=s.toks+1) (o:= .tup [.int (i:Int),xs[i]]) keep hf (aH _) ⟨(by show 2<=sizeLine;decide),[.int i s.toks,u],.cons ⟨_,rfl⟩ (.cons ru .nil),_,hT2,rfl,_,rfl⟩
  exact⟨.ref s.heap.objs.size,_,I2,rfl,⟨_,_,rfl,I.hok.fresh (aH _),rfl,hx⟩,⟨⟨_,by simpa using he2⟩,hit1.at fun o q=>(Bv.2 it hne.symm).trans q⟩,fun b hb=>by
   rw[cu (fun z=> ?_)]
   ·exact(hf b hb).1
   ·obtain⟨_,q1,_⟩:=hit
    rcases cB.mp hb with y|y
    ·exact Xr (z.symm.trans y)
    ·have y:b=it:=by simpa using y
     rw[<-y,z]at q1
     exact absurd (cA q1) (p7 _)⟩
 done:=by
  intro X hP hw hK hc i pins s σ H E I hf st hg
  subst hP hw hK
  obtain⟨hq0,hi⟩:=hg
  have hq:SqL X.K H a xs:=hq0
  obtain⟨its,rv,p,hz⟩:=I.list hq
  have hl:=rv.length
  obtain⟨⟨old,he⟩,hit⟩:=st
  exact wpAny_pyNext_enum_end (I.ok.hd hc) he hit p.isList (by simp;omega) fun h' eb=>⟨rfl,I.turns (t':=s.toks) (fp:=[e,it]) (fun b o hb q=>eb b o (fun z=>hb (by simp[z])) q) hf⟩
 self:=fun _ _ _ _ _ st h=>by
  obtain⟨⟨old,he⟩,_⟩:=st
  exact wdi he h
theorem zW{P:Program}{w:World}{K:W.Frag}{es:List Expr}{k:Nat}{pos:Pos}(a e it:Addr)(xs:List V)(hne:e≠it)(hat:a≠it)(hae:a≠e):
  Turn P w K (.Tuple es k pos) (Ite K true a xs) [e,it] e (fun i h=>(∃old,IsEnum h e it (i:Int) old)/\h.IsTupleIter it a i) where
 mem:=by simp
 obj:=fun i h st b hb=>by
  obtain⟨⟨old,he⟩,o,e1,c,d⟩:=st
  rcases cB.mp hb with z|hb
  ·subst z;exact⟨_,he,fun v z=>by cases z⟩
  ·have z:b=it:=by simpa using hb
   subst z
   exact⟨o,e1,fun v z=>by rw[d]at z;cases z⟩
 keep:=fun i h h' st k=>⟨st.1.imp fun old he=>k e (by simp) _ he,st.2.at fun o e=>k it (by simp) o e⟩
 item:=by
  intro X hP hw hK hc i pins s σ H E I hf st hg
  subst hP hw hK
  obtain⟨hq0,hi⟩:=hg
  have hq:SqT X.K H a xs:=hq0
  obtain⟨its,rv,p,hz⟩:=I.tuple hq
  have hx:xs[i]? =some xs[i]:=gn hi
  obtain⟨u,hu,ru⟩:=rv.get hx
  obtain⟨⟨old,he⟩,hit⟩:=st
  have hl:=rv.length
  have pt:s.heap.IsTuple a its.toArray:=p
  have D:=Draws.tup (prog:=X.prog) (w:=X.w) (A:=X.A.in1) (I.ok.hd hc) it a hat its.toArray
  refine wpAny_pyNext_enum_itemD D he ⟨hit,pt⟩ (by simp;omega) hne (by simp;exact⟨hne,fun z=>hae z.symm⟩) fun y h1 tk hy ho aas hT hsz hk=>⟨_,rfl,?_⟩
  have ey:y=u:=by
   have hu':its.toArray[i]? =some u:=by simpa using hu
   rw[hu']at hy
   exact(p8 hy).symm
  subst ey
  refine wpAny_letOwnedTupleGo_enum ho fun h2 he2 hs2=> ?_
  have Bv:Heap.SameBut e h1 h2:=hs2
  have Xr:s.heap.objs.size≠e:=fun z=>absurd (cA he) (by rw[<-z];exact p7 _)
  have keep:∀b o,b∉[e,it]->s.heap.get? b=some o->h2.get? b=some o:=fun b o hb q=>(Bv.2 b fun z=>hb (by simp[z])).trans (hk b o (fun z=>hb (by simp[z])) (fun z=>hb (by simp[z])) q)
  have hT2:h2.get? s.heap.objs.size=some {cls:= .type "tuple",data:= .seq #[.int i tk,y]}:=(Bv.2 _ Xr).trans hT
  have I2:=I.tQ (h':=h2) (t':=tk+1) (o:= .tup [.int (i:Int),xs[i]]) keep hf (aH _) ⟨(by show 2<=sizeLine;decide),[.int i tk,y],.cons ⟨_,rfl⟩ (.cons ru .nil),_,hT2,rfl,_,rfl⟩
  exact⟨.ref s.heap.objs.size,_,I2,rfl,⟨_,_,rfl,I.hok.fresh (aH _),rfl,hx⟩,⟨⟨_,by simpa using he2⟩,aas.1.at fun o q=>(Bv.2 it hne.symm).trans q⟩,fun b hb=>by
   rw[cu (fun z=> ?_)]
   ·exact(hf b hb).1
   ·obtain⟨_,q1,_⟩:=hit
    rcases cB.mp hb with y|y
    ·exact Xr (z.symm.trans y)
    ·have y:b=it:=by simpa using y
     rw[<-y,z]at q1
     exact absurd (cA q1) (p7 _)⟩
 done:=by
  intro X hP hw hK hc i pins s σ H E I hf st hg
  subst hP hw hK
  obtain⟨hq0,hi⟩:=hg
  have hq:SqT X.K H a xs:=hq0
  obtain⟨its,rv,p,hz⟩:=I.tuple hq
  have hl:=rv.length
  obtain⟨⟨old,he⟩,hit⟩:=st
  have pt:s.heap.IsTuple a its.toArray:=p
  have ei:i=its.toArray.size:=by rw[eU];omega
  subst ei
  have D:=Draws.tup (prog:=X.prog) (w:=X.w) (A:=X.A.in1) (I.ok.hd hc) it a hat its.toArray
  exact wpAny_pyNext_enum_endD D he ⟨hit,pt⟩ fun h' eb=>⟨rfl,I.turns (t':=s.toks) (fp:=[e,it]) (fun b o hb q=>eb b o (fun z=>hb (by simp[z])) q) hf⟩
 self:=fun _ _ _ _ _ st h=>by
  obtain⟨⟨old,he⟩,_⟩:=st
  exact wdi he h
section
variable{X:Cx}{es:List Expr}{k:Nat}{NQ:Pos}
def XQ(K:W.Frag)(ta:TA):TI:=fun σ H R=>ta σ H fun vs H1=>∃(b:Bool) (a:Addr) (xs:List V),vs=[.ref a]/\Mv K b H1 a xs/\(xs.length<=sizeLine->R (Ite K b a xs) H1)
theorem vg{a:Expr}{ta:TA}{p pos:Pos}(hg:Gl X "enumerate")(hm:X.mg "enumerate"=none)(ha:PA X [a] ta)(hs:starEach [a] X.env=[(false,eval a X.env)]:=by rfl):
  PI X (.Tuple es k NQ) (.Call (.Name "enumerate" p) [a] [] pos) (XQ X.K ta):=by
 intro pins s σ H R I h
 refine Call_ (wC I hg hm (show bootBuiltins "enumerate"=some (.type "enumerate")from by decide+kernel) (Ez (thn (ha pos pins s σ H _ I h) fun us s1 ⟨vs,H1,I1,r1,q1⟩=> ?_) hs rfl))
 obtain⟨b,l,xs,e,hq,q⟩:=q1
 subst e
 cases r1 with
 |cons r rr=>
  cases rr
  cases r
  cases b with
  |false=>
   obtain⟨its,rv,pl,hz⟩:=I1.list (show SqL X.K H1 l xs from hq)
   refine call_enumerate_list pl.isList fun h' he hit hsz hk=> ?_
   refine wdi he ?_
   have I2:Inv X pins σ H1 {s1 with heap:=h'}:=I1.kept (t':=s1.toks) hk
   have hne:s1.heap.objs.size+1≠s1.heap.objs.size:=Nat.succ_ne_self _
   refine⟨s1.heap.objs.size+1,[s1.heap.objs.size+1,s1.heap.objs.size],_,_,H1,rfl,I2,zX l _ _ xs hne,⟨⟨_,he⟩,hit⟩,fun c hc=> ?_,q hz⟩
   rcases cB.mp hc with z|z
   ·subst z;exact I1.fpOk (wD _) (I1.hok.fresh (wD _))
   ·have z:c=s1.heap.objs.size:=by simpa using z
    subst z;exact I1.fpOk (aH _) (I1.hok.fresh (aH _))
  |true=>
   obtain⟨its,rv,pl,hz⟩:=I1.tuple (show SqT X.K H1 l xs from hq)
   have pt:s1.heap.IsTuple l its.toArray:=pl
   have hlt:l<s1.heap.objs.size:=by obtain⟨_,e,_⟩:=id pt;exact cA e
   refine sX pt fun h' he hit hsz hk=> ?_
   refine wdi he ?_
   have I2:Inv X pins σ H1 {s1 with heap:=h'}:=I1.kept (t':=s1.toks) hk
   have hne:s1.heap.objs.size+1≠s1.heap.objs.size:=Nat.succ_ne_self _
   refine⟨s1.heap.objs.size+1,[s1.heap.objs.size+1,s1.heap.objs.size],_,_,H1,rfl,I2,zW l _ _ xs hne (bQ hlt) (bQ (lV hlt)),⟨⟨_,he⟩,hit⟩,fun c hc=> ?_,q hz⟩
   rcases cB.mp hc with z|z
   ·subst z;exact I1.fpOk (wD _) (I1.hok.fresh (wD _))
   ·have z:c=s1.heap.objs.size:=by simpa using z
    subst z;exact I1.fpOk (aH _) (I1.hok.fresh (aH _))
end
section
variable{ini:St}{H:Hp}{g:TG}{tc:TT}{te:TE}{Fin:List V->Hp->Prop}{K:W.Frag}{b:Bool}{a:Addr}{xs:List V}
theorem oM(Pv:Nat->List V->St->Hp->Prop)(h0:Pv 0 [] ini H)(hl:∀(i:Nat) acc σ H,i<=xs.length->Pv i acc σ H->Mv K b H a xs)(hz:∀(i:Nat) acc σ H,i<=xs.length->Pv i acc σ H->acc.length<=i)(hx:xs.length<=sizeLine)(hs:∀(i:Nat) v t acc σ H,xs[i]? =some v->Pv i acc σ H->H t=none->g (.ref t) σ (upd H t (.tup [.int (i:Int),v])) fun σ2 H2=>tc σ2 H2 fun b H3=>if b=true then te σ2 H3 fun v H4=>Pv (i+1) (acc++[v]) σ2 H4 else Pv (i+1) acc σ2 H3)(hd:∀acc σ H,Pv xs.length acc σ H->Fin acc H):zK (Ite K b a xs) ini H g tc te Fin:=by
 refine⟨fun i m acc σ H=>m=xs.length-i/\i<=xs.length/\Pv i acc σ H,⟨xs.length,by simp,cX _,h0⟩,?_⟩
 rintro i m acc σ H ⟨rfl,hi,p⟩
 have q:=hl i acc σ H hi p
 have z:=hz i acc σ H hi p
 by_cases hlt:i<xs.length
 ·refine .inr ⟨⟨q,hlt⟩,by omega,fun acc σ H=>Pv (i+1) acc σ H,fun acc' σ' H' r=>⟨_,by omega,rfl,hlt,r⟩,fun x H' y=> ?_⟩
  obtain⟨t,v,rfl,ht,rfl,hv⟩:=y
  exact hs i v t acc σ H hv p ht
 ·have e:i=xs.length:=by omega
  subst e
  exact .inl ⟨⟨q,rfl⟩,by omega,hd acc σ H p⟩
end
section
variable{X:Cx}{e m a:Expr}{te:TE}{tm:TO}{ta:TA}{p p' pos pos' p2:Pos}
theorem Nh{l:List Int}{k:Int}(h:k∈l):step_dedup l k=l:=by unfold step_dedup;simp[h]
theorem Ig{l:List Int}{k:Int}(h:¬k∈l):step_dedup l k=l++[k]:=by unfold step_dedup;simp[h]
theorem fK(ns:List Int):∀(i:Nat),i<=ns.length->∀k,k∈firstMet (fun i=>ns.getD i 0) i↔k∈ns.take i
 |0,_,k=>by rw[firstMet_zero,List.take_zero]
 |i+1,h,k=>by
  have ih:=fK ns i (by omega) k
  have e1:ns.getD i 0=ns[i]:=by simp[show i<ns.length by omega]
  rw[Z0,wW,gn (by omega),kJ,<-ih]
  try dsimp only
  rw[e1]
  by_cases hm:ns[i]∈firstMet (fun i=>ns.getD i 0) i
  ·rw[Nh hm]
   constructor
   ·exact .inl
   ·rintro(z|z)
    ·exact z
    ·have:k=ns[i]:=by simpa using z
     rw[this];exact hm
  ·rw[Ig hm,kJ]
   simp
theorem IW(K:W.Frag)(h:X.K=K:=by rfl):SlR X (Xd K):=by subst h;exact uQ
theorem yd(K:W.Frag)(h:X.K=K:=by rfl):OpR X (binaryOp .Add) (QT K):=by subst h;exact N8
end
section
variable{ini:St}{H:Hp}{g:TG}{tc:TT}{te:TE}{Fin:List V->Hp->Prop}{K:W.Frag}{b:Bool}{a:Addr}{xs:List V}
end
theorem Np{s u:TS}{D:Ends}{σ:St}{H:Hp}(I:St->Hp->Prop)(h1:∀N:St->Hp->Prop,(∀σ' H',I σ' H'->N σ' H')->s {D with nx:=N} σ H)(h2:∀σ' H',I σ' H'->u D σ' H'):tSeq s u D σ H:=h1 (u D) h2
section
variable{K:W.Frag}{σ:St}{H0:Hp}{tp:Addr}
end
theorem Cd:∀(names:List (Str×NameKind)) (n:Nat) (acc:List (Str×Addr)) {x:Str} {c:Addr},(x,c)∈cellsFrom n names acc->(x,c)∈acc\/((x,NameKind.cell)∈names/\n<=c)
 |[],_,_,_,_,h=> .inl h
 |(nm,k)::r,n,acc,x,c,h=>by
  unfold cellsFrom at h
  split at h
  ·rename_i hk
   have ek:k=NameKind.cell:=by simpa using hk
   rcases Cd r _ _ h with q|⟨q,m⟩
   ·rcases cB.mp q with e|e
    ·cases e
     subst ek
     exact .inr ⟨cV,aH _⟩
    ·exact .inl e
   ·exact .inr ⟨dG _ q,by omega⟩
  ·rcases Cd r _ _ h with q|⟨q,m⟩
   ·exact .inl q
   ·exact .inr ⟨dG _ q,m⟩
theorem vY:∀(names:List (Str×NameKind)) (n:Nat) (acc:List (Str×Addr)) {p:Str×Addr},p∈acc->p∈cellsFrom n names acc
 |[],_,_,_,h=>h
 |(nm,k)::r,n,acc,p,h=>by
  unfold cellsFrom
  split
  ·exact vY r _ _ (dG _ h)
  ·exact vY r _ _ h
theorem Cg:∀(names:List (Str×NameKind)) (n:Nat) (acc:List (Str×Addr)) {x:Str},(x,NameKind.cell)∈names->∃c,(x,c)∈cellsFrom n names acc
 |(nm,k)::r,n,acc,x,h=>by
  unfold cellsFrom
  rcases cB.mp h with e|e
  ·cases e
   rw[au (show(NameKind.cell==NameKind.cell)=true from rfl)]
   exact⟨n,vY r _ _ cV⟩
  ·split
   ·exact Cg r _ _ e
   ·exact Cg r _ _ e
theorem Ce{n0:Nat}:∀(names:List (Str×NameKind)) (n:Nat) (acc:List (Str×Addr)),n0<=n->(∀x y c,(x,c)∈acc->(y,c)∈acc->n0<=c->x=y)->(∀x c,(x,c)∈acc->c<n)->∀x y c,(x,c)∈cellsFrom n names acc->(y,c)∈cellsFrom n names acc->n0<=c->x=y
 |[],_,_,_,h,_=>h
 |(nm,k)::r,n,acc,hn,h,hl=>by
  unfold cellsFrom
  split
  ·refine Ce r (n+1) ((nm,n)::acc) (by omega) (fun x y c hx hy hc=> ?_) (fun x c hx=> ?_)
   ·rcases cB.mp hx with e1|e1<;>rcases cB.mp hy with e2|e2
    ·cases e1;cases e2;rfl
    ·cases e1;exact absurd (hl _ _ e2) (p7 _)
    ·cases e2;exact absurd (hl _ _ e1) (p7 _)
    ·exact h x y c e1 e2 hc
   ·rcases cB.mp hx with e1|e1
    ·cases e1;exact nQ _
    ·exact lV (hl _ _ e1)
  ·exact Ce r n acc hn h hl
theorem vX:∀(names:List (Str×NameKind)) (h:Heap) (acc:List (Str×Addr)) {x:Str} {c:Addr},(x,c)∈cellsFrom h.objs.size names acc->(x,c)∈acc\/(pushCells h names).IsCell c none
 |[],_,_,_,_,h=> .inl h
 |(nm,k)::r,h,acc,x,c,hm=>by
  unfold cellsFrom at hm
  unfold pushCells
  split at hm
  ·rename_i hk
   rw[au hk]
   have hm':(x,c)∈cellsFrom (h.push {cls:= .type "cell",data:= .cell none}).objs.size r ((nm,h.objs.size)::acc):=by rw[wH];exact hm
   rcases vX r (h.push {cls:= .type "cell",data:= .cell none}) _ hm' with q|q
   ·rcases cB.mp q with e|e
    ·cases e
     exact .inr ⟨_,wei _ _ _ _ (gB _ rfl),rfl⟩
    ·exact .inl e
   ·exact .inr q
  ·rename_i hk
   rw[ao hk]
   exact vX r h acc hm
theorem Om{M:Model}{A:Around}{E:Value->Shared->Prop}{s:Shared}{scope:Scope}{globals:Addr}{closure:List (Str×Addr)}{qual:Str}{env:Env}{Q:Env->Shared->Prop}(hQ:Q (newEnv scope s.heap.objs.size globals (cellsFrom (s.heap.objs.size+1) scope.names closure) qual none Value.none (some env) 0) {s with heap:=pushCells (s.heap.push {cls:= .type "dict",data:= .dict #[]}) scope.names}):
  wpAny M A (newFunctionEnv scope globals closure [] qual none .none (some env)) Q E s:=by
 simp only[newFunctionEnv,Option.isSome_some,Rr]
 refine ak (wpAny_alloc ?_)
 refine ak (wpAny_layCells _ (fun name kind cells=>by cases hkc:kind==NameKind.cell<;>simp[hkc]) _ _ _ _ ?_)
 rw[List.forIn_nil]
 refine ak (aF (aF ?_))
 rw[show({s with heap:=s.heap.push {cls:= .type "dict",data:= .dict #[]}}:Shared).heap.objs.size=s.heap.objs.size+1 from wH ..]
 exact hQ
def aZ(sc scope:Scope):Bool:=scope.names.all fun p=>(p.2 !=NameKind.cell||scope.names.lookup p.1==some NameKind.cell)&&(p.2 !=NameKind.local||scope.names.lookup p.1==some NameKind.local)&&
 (p.2 !=NameKind.free||(scope.names.lookup p.1==some NameKind.free&&(sc.names.lookup p.1==some NameKind.cell||sc.names.lookup p.1==some NameKind.free)))
section
variable{sc scope:Scope}
theorem aZ.cell(h:aZ sc scope=true){x:Str}(hy:(x,NameKind.cell)∈scope.names):scope.names.lookup x=some .cell:=by
 have q:=qw.mp h _ hy
 simpa using q
theorem aZ.names(h:aZ sc scope=true):∀y∈scope.names,y.2= .local->scope.names.lookup y.1=some .local:=fun y hy e=>by
 have q:=qw.mp h y hy
 simpa[e]using q
theorem aZ.free(h:aZ sc scope=true){x:Str}(hy:(x,NameKind.free)∈scope.names):scope.names.lookup x=some .free/\(sc.names.lookup x=some .cell\/sc.names.lookup x=some .free):=by
 have q:=qw.mp h _ hy
 simpa using q
end
theorem xY{scope:Scope}{env:Env}{x:Str}(h:(relabel scope env).names.lookup x=some .cell\/(relabel scope env).names.lookup x=some .free):(x,NameKind.free)∈scope.names\/(x,NameKind.cell)∈scope.names:=by
 cases e:scope.names.lookup x with
 |none=>
  have q:=lA (env:=env) e
  rcases h with h|h
  ·rw[show(relabel scope env).names.lookup x=none from q]at h;cases h
  ·rw[show(relabel scope env).names.lookup x=none from q]at h;cases h
 |some k=>
  have q:=iT (env:=env) e
  have m:=tM e
  by_cases hk:k= .free
  ·subst hk;exact .inl m
  ·have q':(relabel scope env).names.lookup x=some k:=by
    refine Eq.trans q ?_
    have:(k==NameKind.free)=false:=by simpa using hk
    simp[this]
   rw[q']at h
   rcases h with h|h
   ·cases h;exact .inr m
   ·cases h;exact absurd rfl hk
def fL(X:Cx)(scope:Scope)(N:List Str)(s:Shared)(H:Hp)(cl:List (Str×Addr))(C:Addr)(ex:List Addr):Cx:=
 {X with N:=N,s₀:=s,H₀:=H,env:=compEnvC scope cl C X.env,outer:=X.stack,ex:=ex,fn:=fun x=>scope.names.lookup x==some NameKind.cell,pn:=[],xe:=fun _ _=>False}
section
variable{X:Cx}{tg iter elt:Expr}{ifs:List Expr}{scope:Scope}{pos:Pos}{own caps:List Str}{ix:List Nat}{g:TG}{tc:TT}{te:TE}
abbrev Ht(X:Cx)(scope:Scope)(C:Addr):List (Str×Addr):=cellsFrom (C+1) scope.names (cG X.env.cells scope.names [])
theorem vW{pins:List (Addr×Obj)}{s:Shared}{σ:St}{H:Hp}{C:Addr}(ck:aZ X.env.scope scope=true)(I:Inv X pins σ H s){x:Str}{c:Addr}(e:(Ht X scope C).lookup x=some c):
  (X.env.cells.lookup x=some c/\(x,NameKind.free)∈scope.names)\/((x,NameKind.cell)∈scope.names/\C<c/\(x,c)∉cG X.env.cells scope.names []):=by
 have old:(x,c)∈cG X.env.cells scope.names []->X.env.cells.lookup x=some c/\(x,NameKind.free)∈scope.names:=fun q=>by
  rcases eG q with q|⟨q,mm⟩
  ·cases q
  ·obtain⟨d,hd⟩:=I.ok.has x (aZ.free ck mm).2
   rw[hd]at q
   have q:c=d:=q
   rw[q]
   exact⟨hd,mm⟩
 rcases Cd _ _ _ (tM e)with q|⟨q,m⟩
 ·exact .inl (old q)
 ·refine .inr ⟨q,m,fun z=> ?_⟩
  have h1:=aZ.cell ck q
  have h2:=(aZ.free ck (old z).2).1
  rw[h1]at h2;cases h2
theorem zf{pins:List (Addr×Obj)}{s s':Shared}{σ:St}{H:Hp}{fp:List Addr}{C:Addr}{m:Str->Option Value}(ck:aZ X.env.scope scope=true)(hkind:scope.kind= .function)(hcap:jd X scope caps ix)
  (I:Inv X pins σ H s)(f2:∀b∈fp,FpOk X pins H b)(hlt:∀b∈fp,b<s.heap.objs.size)(hC:s.heap.objs.size<=C)(hos:s'.os=s.os)(hg:AllBare s'.gens)(hk:∀b o,s.heap.get? b=some o->s'.heap.get? b=some o)(hn:s'.heap.Ns C m)(hcl:∀x c,(Ht X scope C).lookup x=some c->(x,c)∉cG X.env.cells scope.names []->s'.heap.IsCell c none):
  Inv (fL X scope (own++caps) s H (Ht X scope C) C fp) [] (m7 own ix σ) H s':=by
 have cl1:=fun x c e=>vW (C:=C) (x:=x) (c:=c) ck I e
 have DR:∀x c,X.env.cells.lookup x=some c->c<s.heap.objs.size:=fun x c e=>by
  obtain⟨v,o,ho,_⟩:=I.cell x c e
  exact cA ho
 have cl2:∀x,(x,NameKind.free)∈scope.names\/(x,NameKind.cell)∈scope.names->∃c,(Ht X scope C).lookup x=some c:=fun x mm=>by
  rcases mm with mm|mm
  ·obtain⟨c,hc⟩:=nF (cells:=X.env.cells) (acc:=[]) mm
   obtain⟨d,hd,_⟩:=UL (vY scope.names (C+1) _ hc)
   exact⟨d,hd⟩
  ·obtain⟨c,hc⟩:=Cg scope.names (C+1) (cG X.env.cells scope.names []) mm
   obtain⟨d,hd,_⟩:=UL hc
   exact⟨d,hd⟩
 have inj:∀x y c,(Ht X scope C).lookup x=some c->(Ht X scope C).lookup y=some c->x=y:=fun x y c h1 h2=>by
  rcases cl1 x c h1 with⟨q1,_⟩|⟨q1,m1,_⟩<;>rcases cl1 y c h2 with⟨q2,_⟩|⟨q2,m2,_⟩
  ·exact I.ok.inj x y c q1 q2
  ·exact absurd (Hy (gA (DR x c q1) hC) m2) (p7 _)
  ·exact absurd (Hy (gA (DR y c q2) hC) m1) (p7 _)
  ·refine Ce (n0:=C+1) scope.names (C+1) _ (aH _) (fun x y c hx hy hc=> ?_) (fun x c hx=> ?_) x y c (tM h1) (tM h2) m1
   ·obtain⟨d,hd,_⟩:=UL hx
    rcases eG hx with q|⟨q,mm⟩
    ·cases q
    ·obtain⟨d,hd⟩:=I.ok.has x (aZ.free ck mm).2
     rw[hd]at q
     have q:c=d:=q
     subst q
     exact absurd (gA (gA (DR x c hd) hC) (cQ hc)) (p7 _)
   ·rcases eG hx with q|⟨q,mm⟩
    ·cases q
    ·obtain⟨d,hd⟩:=I.ok.has x (aZ.free ck mm).2
     rw[hd]at q
     have q:c=d:=q
     subst q
     exact lV (gA (DR x c hd) hC)
 have bsz:X.base.objs.size<=s.heap.objs.size:=eO I.ok.bsz I.sz
 refine⟨⟨I.ok.mod,hkind,I.ok.glob,I.ok.blt,hC,inj,fun x hx=>cl2 x (xY hx),fun x c h e=> ?cab,I.ok.hd,I.ok.frames,.inl rfl,fun b hb=>⟨bQ (gA (hlt b hb) hC),fun x c e=> ?exf⟩,I.bs,bsz,
  fun b o e hb=> ?_,fun b hb hz=> ?_,I.stack,I.stkFree⟩,?_,hg,Un.kept hk,⟨m,hn,fun i x v h1 h2 h3=> ?_⟩,fun x c e=> ?_,I.hok.fresh hC,fun x c e=> ?frc,fun p hp=>absurd (show p∈([]:List (Addr×Obj))from hp) (by simp),I.hok.kept hk,?_⟩
 case cab=>
  rcases cl1 x c e with⟨_,q⟩|⟨_,q,_⟩
  ·have y1:=(aZ.free ck q).1
   have y2:(scope.names.lookup x==some NameKind.cell)=true:=h
   rw[y1]at y2
   exact absurd y2 (by decide)
  ·exact eO hC (cQ q)
 case exf=>
  rcases cl1 x c e with⟨q,_⟩|⟨_,q,_⟩
  ·exact(f2 b hb).2.2.2.2.1 x c q
  ·exact jY (bQ (Hy (gA (hlt b hb) hC) q))
 case frc=>
  rcases cl1 x c e with⟨q,_⟩|⟨_,q,_⟩
  ·exact I.freeC x c q
  ·exact I.hok.fresh (eO hC (cQ q))
 ·rcases(f2 b hb).2.2.2.1 with z|z
  ·exact I.ok.noex b o e z
  ·exact absurd (gA (cA e) (eO I.ok.bsz z)) (p7 _)
 ·rcases cB.mp (I.stkSub b hz)with z|z
  ·exact(f2 b hb).2.1 z
  ·exact(f2 b hb).2.2.1 z
 ·exact hos
 ·have h1:(own++caps)[i]? =some x:=h1
  have h2:(own.map (fun _=>(none:Option V))++ix.map fun j=>(σ[j]?).join)[i]? =some (some v):=h2
  by_cases hi:i<own.length
  ·rw[Vd (by simpa using hi),c7]at h2
   cases e:own[i]? <;>rw[e]at h2<;>simp at h2
  ·rw[Qn (by simpa using hi)]at h2
   rw[Qn (by omega)]at h1
   rw[aG]at h2
   obtain⟨j,e1,e2,e3⟩:=hcap.get h1
   rw[c7,e1]at h2
   have h2':(σ[j]?).join=some v:=by simpa using h2
   have h4:σ[j]? =some (some v):=by
    cases q:σ[j]? with
    |none=>rw[q]at h2';cases h2'
    |some w=>rw[q]at h2';exact jh some h2'
   obtain⟨m0,hn0,hl0⟩:=I.loc
   have mm:=tM e3
   have vis:=(aZ.free ck mm).2
   obtain⟨u,r,l⟩:=hl0 j x v e2 h4 (.inr vis)
   refine⟨u,r,.inr ?_⟩
   rcases l with⟨k,_⟩|⟨k,c,e,z⟩
   ·rcases vis with q|q
    ·rw[show X.env.kindOf x=some .cell from q]at k;cases k
    ·rw[show X.env.kindOf x=some .free from q]at k;cases k
   ·obtain⟨d,hd⟩:=cl2 x (.inl mm)
    rcases cl1 x d hd with⟨this,_⟩|⟨qc,_⟩
    ·rw[e]at this
     cases this
     exact⟨qP e3,c,hd,z.keeps hk⟩
    ·have y1:=aZ.cell ck qc
     rw[e3]at y1;cases y1
 ·rcases cl1 x c e with⟨q,_⟩|⟨_,_,q⟩
  ·obtain⟨v,z⟩:=I.cell x c q
   exact⟨v,z.keeps hk⟩
  ·exact⟨none,hcl x c e q⟩
 ·show(own.map (fun _=>(none:Option V))++ix.map fun j=>(σ[j]?).join).length=(own++caps).length
  simp[hcap.len]
theorem BZ(ck:aZ X.env.scope scope=true)(hkind:scope.kind= .function)(hcap:jd X scope caps ix)(hc:X.calm=true)(hg:∀s H cl C ex,PG (fL X scope (own++caps) s H cl C ex) tg g)(ht:∀s H cl C ex,PX (fL X scope (own++caps) s H cl C ex) ifs tc)(he:∀s H cl C ex,PE (fL X scope (own++caps) s H cl C ex) elt te){pins:List (Addr×Obj)}{s2:Shared}{σ:St}{H2:Hp}{E:Value->Shared->Prop}(I2:Inv X pins σ H2 s2){it:Addr}{fp:List Addr}{tn:Nat->Heap->Prop}{J:It}(T:Turn X.prog X.w X.K tg J fp it tn)(st2:tn 0 s2.heap)(f2:∀b∈fp,FpOk X pins H2 b)
  {W:Nat->Nat->List V->St->Hp->Prop}{m0:Nat}(w0:W 0 m0 [] (m7 own ix σ) H2){Fin:List V->Hp->Prop}(turn:∀i m acc σ H,W i m acc σ H->(J.stop i H/\acc.length<=sizeLine/\Fin acc H)\/(J.go i H/\acc.length<sizeLine/\∃N:List V->St->Hp->Prop,(∀acc' σ' H',N acc' σ' H'->∃m',m'<m/\W (i+1) m' acc' σ' H')/\∀x H',J.yld i H x H'->g x σ H' fun σ2 H2=>tc σ2 H2 fun b H3=>
   if b=true then te σ2 H3 fun v H4=>N (acc++[v]) σ2 H4 else N acc σ2 H3))
  {RR:Value->Addr->Result->Shared->Prop}(hRR:∀D C s' acc Hf m,Inv X pins σ (upd Hf D (.lst acc)) s'->Hf D=none->s'.heap.Ns C m->FpOk X pins (upd Hf D (.lst acc)) C->Fin acc Hf->RR (.ref D) C (.ok .next) s'):
  wpAny (model X.prog X.w) X.A (newList []) (fun acc s₃=>wpAny (model X.prog X.w) X.A (newFunctionEnv scope X.env.globals (cG X.env.cells scope.names []) [] X.env.qual none .none (some X.env)) (fun cenv s₄=>
   codeAny (model X.prog X.w) X.A (.compStart (.ListComp elt [⟨tg,iter,ifs,0⟩] scope pos) 0 (.ref it) acc {cenv with scope:=relabel scope X.env}) (RR acc cenv.locals) s₄) E s₃) E s2:=by
 refine wK (Om ?_)
 generalize hP:s2.heap.push {cls:= .type "list",dict:=none,data:= .seq ([]:List Value).toArray}=P1
 have hC:P1.objs.size=s2.heap.objs.size+1:=by rw[<-hP,wH]
 have hlt:∀b∈fp,b<s2.heap.objs.size:=fun b hb=>by
  obtain⟨o,e,_⟩:=T.obj _ _ st2 b hb
  exact cA e
 generalize hh1:pushCells (P1.push {cls:= .type "dict",data:= .dict #[]}) scope.names=h₁
 have hns₁:h₁.Ns P1.objs.size (fun _=>none):=by rw[<-hh1];exact(Heap.Ns.new P1 (.type "dict")).keeps (wei _ _)
 have old:∀b o,s2.heap.get? b=some o->h₁.get? b=some o:=fun b o e=>by
  rw[<-hh1];exact wei _ _ b o (cM _ (hP▸cM _ e))
 have hD1:h₁.get? s2.heap.objs.size=some {cls:= .type "list",data:= .seq ([]:List Value).toArray 0}:=by
  rw[<-hh1];exact wei _ _ _ _ (cM _ (hP▸gB _ rfl))
 have Ye:∀x c,(Ht X scope P1.objs.size).lookup x=some c->(x,c)∉cG X.env.cells scope.names []->h₁.IsCell c none:=fun x c e n=>by
  have e':(x,c)∈cellsFrom (P1.objs.size+1) scope.names (cG X.env.cells scope.names []):=tM e
  rw[show P1.objs.size+1=(P1.push {cls:= .type "dict",data:= .dict #[]}).objs.size from(wH ..).symm]at e'
  rcases vX _ _ _ e' with q|q
  ·exact absurd q n
  ·rw[<-hh1];exact q
 show codeAny (model X.prog X.w) X.A (.compStart (.ListComp elt [⟨tg,iter,ifs,0⟩] scope pos) 0 (.ref it) (.ref s2.heap.objs.size) {newEnv scope P1.objs.size X.env.globals (Ht X scope P1.objs.size) X.env.qual none Value.none (some X.env) 0 with scope:=relabel scope X.env}) (RR (.ref s2.heap.objs.size) P1.objs.size) {s2 with heap:=h₁}
 generalize vK:s2.heap.objs.size=D at *
 rw[hC]at hns₁ Ye⊢
 have entry:Inv (fL X scope (own++caps) s2 H2 (Ht X scope (D+1)) (D+1) fp) [] (m7 own ix σ) H2 {s2 with heap:=h₁}:=
  zf ck hkind hcap I2 f2 (by rw[vK];exact hlt) (by rw[vK];exact wD _) rfl I2.bare old hns₁ Ye
 generalize hX':fL X scope (own++caps) s2 H2 (Ht X scope (D+1)) (D+1) fp=X' at entry
 have eP:X'.prog=X.prog:=by rw[<-hX'];rfl
 have ew:X'.w=X.w:=by rw[<-hX'];rfl
 have eK:X'.K=X.K:=by rw[<-hX'];rfl
 have eA:X'.A=X.A:=by rw[<-hX'];rfl
 have yZ:X'.calm=true:=by rw[<-hX'];exact hc
 have Uo:X'.fs=frs X.stack:=by rw[<-hX'];rfl
 have YH:X'.ex=fp:=by rw[<-hX'];rfl
 have YF:X'.pn=[]:=by rw[<-hX'];rfl
 have Um:X'.s₀=s2:=by rw[<-hX'];rfl
 have eH0:X'.H₀=H2:=by rw[<-hX'];rfl
 have exe:X'.xe=fun _ _=>False:=by rw[<-hX'];rfl
 have vQ:X'.env=compEnvC scope (Ht X scope (D+1)) (D+1) X.env:=by rw[<-hX'];rfl
 have rF:X'.env.locals=D+1:=by rw[vQ];rfl
 have hg':PG X' tg g:=by rw[<-hX'];exact hg _ _ _ _ _
 have ht':PX X' ifs tc:=by rw[<-hX'];exact ht _ _ _ _ _
 have he':PE X' elt te:=by rw[<-hX'];exact he _ _ _ _ _
 have ecl:∀x c,X'.env.cells.lookup x=some c->c≠D:=fun x c e=>by
  rw[vQ]at e
  rcases vW (C:=D+1) ck I2 e with⟨q,_⟩|⟨_,q,_⟩
  ·obtain⟨v',o',ho',_⟩:=I2.cell x c q
   exact bQ (by rw[<-vK];exact cA ho')
  ·exact jY (bQ (Hy (nQ D) q))
 have dfs:D∉frs X.stack:=fun hb=>by
  rcases cB.mp (I2.stkSub D hb)with z|z
  ·exact absurd (Nat.lt_of_lt_of_eq I2.lt vK) (by rw[z];exact p7 _)
  ·exact I2.nofs (zN vK) z
 have Uk:∀{H':Hp} {o:Obj},(∀b∈fp,H' b=none)->∀b∈fp,FpOk X' [(D,o)] H' b:=fun{H' o} hn b hb=>by
  have Vw:=hlt b hb
  refine⟨hn b hb,by rw[rF];exact bQ (lV Vw),?_,.inl (by rw[YH];exact hb),fun x c e=> ?_,fun p hp=> ?_⟩
  ·rw[Uo]
   intro z
   rcases cB.mp (I2.stkSub b z)with z|z
   ·exact(f2 b hb).2.1 z
   ·exact(f2 b hb).2.2.1 z
  ·rw[vQ]at e
   rcases vW (C:=D+1) ck I2 e with⟨q,_⟩|⟨_,q,_⟩
   ·exact(f2 b hb).2.2.2.2.1 x c q
   ·exact jY (bQ (Hy (lV Vw) q))
  ·rw[YF]at hp
   have:p=(D,o):=by simpa using hp
   rw[this]
   exact wR Vw
 have JC:∀{σ':St} {H':Hp} {s':Shared} {o:Obj},Inv X' [] σ' H' s'->s'.heap.get? D=some o->H' D=none->(∀v,o.data≠.cell v)->Inv X' [(D,o)] σ' H' s':=fun{σ' H' s' o} I e n d=>
  I.pins_of fun p hp=>by
   have:p=(D,o):=by simpa using hp
   subst this
   exact⟨e,n,by rw[rF];exact bQ (nQ D),by rw[Uo];exact dfs,d⟩
 have loop:∀s₃:Shared,s₃={s2 with heap:=h₁}->
   codeAny (model X.prog X.w) X.A (.compLoop (.ListComp elt [⟨tg,iter,ifs,0⟩] scope pos) 0 (.ref it) (.ref D) X'.env) (RR (.ref D) (D+1)) s₃:=by
  intro s₃ hs₃
  refine codeAny_loop rfl (fun n s'=>∃i acc its k σ' H',Inv X' [] σ' H' s'/\tn i s'.heap/\(∀b∈fp,H' b=none)/\s'.heap.get? D=some {cls:= .type "list",data:= .seq (List.toArray its) k}/\Vals acc its/\H' D=none/\W i n acc σ' H') ?_ m0
   ⟨0,[],[],0,m7 own ix σ,H2,by rw[hs₃];exact entry,by rw[hs₃];exact T.keep _ _ _ st2 fun b _ o e=>old b o e,fun b hb=>(f2 b hb).1,by rw[hs₃];exact hD1,.nil,I2.hok.fresh (zN vK),w0⟩
  rintro n s3 ⟨i,acc,its,k,σ3,H3,I3,st3,fr3,eD,rv,nD,w3⟩
  show wpAny _ X.A ((compTurn (.ListComp elt [⟨tg,iter,ifs,0⟩] scope pos) 0 (.ref it) (.ref D) X'.env).onRaise (fun x=>do noteFrame x X'.env;theTreesLotGoes x)) _ _ s3
  refine wpAny_noted ?_
  rw[compTurn_list]
  have Tv:∀{α:Type} {t:Sem α} {Q:α->Shared->Prop} {E':Value->Shared->Prop} {s:Shared},wpAny (model X'.prog X'.w) X'.A t Q X'.xe s->wpAny (model X.prog X.w) X.A t Q E' s:=fun{α t Q E' s} h=>by
   rw[eP,ew,eA,exe]at h
   exact zT h (fun _ _ q=>q) fun _ _ z=>z.elim
  have Y4:=JC (o:={cls:= .type "list",data:= .seq (List.toArray its) k}) I3 eD nD (fun v z=>by
   have z':Data.seq (List.toArray its) k=Data.cell v:=z
   cases z')
  refine ak (Z9 (ak ?_))
  rcases turn i n acc σ3 H3 w3 with⟨stop,hz,fin⟩|⟨go,hz,Nn,hN,step⟩
  ·have q:=T.done X' eP ew eK yZ i [(D,_)] s3 σ3 H3 (notedBy (model X.prog X.w) X.A X'.env fun e s'=>RR (.ref D) (D+1) (.error e) s') Y4 (Uk fr3) st3 stop
   rw[eA]at q
   refine thn q fun r s4 ⟨hr,I4⟩=> ?_
   subst hr
   refine aF ?_
   obtain⟨e4,_⟩:=I4.pin (D,_) (gY _ cV)
   obtain⟨mC,hnC,_⟩:=I4.loc
   have u4:=I4.base
   rw[Uo,YH,eH0,Um]at u4
   have Xl:=I4.hok
   rw[eP,ew]at Xl
   have nC:H3 (D+1)=none:=by have:=I4.free;rw[rF]at this;exact this
   have hok:HOk X.prog X.w (upd H3 D (.lst acc)) s4.heap:=Xl.add nD ⟨hz,its,k,rv,e4⟩
   refine hRR D (D+1) s4 acc H3 mC ?_ nD (by rw[rF]at hnC;exact hnC) ?_ fin
   ·refine I2.call' (s':=s4) (ch:=fp) ?_ (u4.add (by rw[vK];exact aH _) nD) hok I4.bare fun b hb=> ?_
    ·have:=I4.os;rw[Um]at this;exact this
    ·obtain⟨f0,f1,f3,f4,f5,f6⟩:=f2 b hb
     exact⟨f4,f1,f5,f6⟩
   ·refine I2.fpOk (by rw[vK];exact wD _) ?_
    rw[cu (wR (nQ D))]
    exact nC
  ·have q:=T.item X' eP ew eK yZ i [(D,_)] s3 σ3 H3 (notedBy (model X.prog X.w) X.A X'.env fun e s'=>RR (.ref D) (D+1) (.error e) s') Y4 (Uk fr3) st3 go
   rw[eA]at q
   refine thn q fun r s4 ⟨u,hr,h4⟩=> ?_
   subst hr
   dsimp only
   refine ak (thn h4 fun _ s5 ⟨x,H5,I5,r5,y5,st5,fr5⟩=> ?_)
   have I5':=I5.pinned (Uk fr5) (T.obj _ _ st5)
   have again:∀{σ7:St} {H7:Hp} {s7:Shared},Inv X' ([(D,{cls:= .type "list",data:= .seq (List.toArray its) k})]++pinsAt fp s5.heap) σ7 H7 s7->tn (i+1) s7.heap/\(∀b∈fp,H7 b=none)/\s7.heap.get? D=some {cls:= .type "list",data:= .seq (List.toArray its) k}/\H7 D=none:=fun{σ7 H7 s7} I7=>by
    refine⟨T.keep _ _ _ st5 fun b hb o e=>(I7.pin (b,o) (gY _ (gY _ (mem_pinsAt hb e)))).1,fun b hb=> ?_,?_⟩
    ·obtain⟨o,e,d⟩:=T.obj _ _ st5 b hb
     exact(I7.pin (b,o) (gY _ (gY _ (mem_pinsAt hb e)))).2.1
    ·have:=I7.pin (D,_) (gY _ (Ew _ cV))
     exact⟨this.1,this.2.1⟩
   refine ak (thn (Tv (hg' _ s5 σ3 H5 x u _ I5' r5 (step x H5 y5))) fun _ s6 ⟨σ6,H6,I6,q6⟩=> ?_)
   refine ak (thn (Tv (ht' _ s6 σ6 H6 _ I6 q6)) fun ok s7 ⟨H7,I7,q7⟩=> ?_)
   cases ok with
   |false=>
    rw[ao qC]at q7
    obtain⟨m',hm,w7⟩:=hN _ _ _ q7
    obtain⟨a1,a2,a3,a4⟩:=again I7
    exact aF ⟨rfl,m',hm,i+1,acc,its,k,σ6,H7,I7.pins_of (fun p hp=>nomatch hp),a1,a2,a3,rv,a4,w7⟩
   |true=>
    rw[au rfl]at q7
    refine ak (ak (thn (Tv (he' _ s7 σ6 H7 _ I7 q7)) fun v s8 ⟨y,H8,I8,r8,q8⟩=> ?_))
    obtain⟨m',hm,w8⟩:=hN _ _ _ q8
    obtain⟨a1,a2,a3,a4⟩:=again I8
    have hl:=rv.length
    refine ak (Mq weo ⟨_,a3,rfl⟩ wee (wdu _ _) (wfa D its.toArray k v (by rw[eU];omega)) ⟨a3,?_⟩)
    refine aF (aF ⟨rfl,m',hm,i+1,acc++[y],its++[v],?_⟩)
    have qD:=wfv a3 (fun a:Array Value=>a.push v)
    rw[List.push_toArray]at qD
    have kp:∀b o,b≠D->s8.heap.get? b=some o->(s8.heap.update D (Obj.mapSeq fun a=>a.push v)).get? b=some o:=fun b o hb e=>(Vc s8.heap _ (jY hb)).trans e
    have I8':Inv X' [] σ6 H8 {s8 with heap:=s8.heap.update D (Obj.mapSeq fun a=>a.push v)}:=by
     refine(I8.pins_of (pins':=[]) (fun p hp=>nomatch hp)).turned (t':=s8.toks) (it:=D) kp a4 (by rw[rF];exact bQ (nQ D)) (.inr (by rw[Um,vK];exact aH _)) (fun x c e=>ecl x c e) (fun p hp=> ?_)
     rw[YF]at hp
     exact nomatch hp
    exact⟨_,σ6,H8,I8',T.keep _ _ _ a1 fun b hb o e=>kp b o (bQ (hlt b hb)) e,a2,qD,rv.append (.cons r8 .nil),a4,w8⟩
 have K8:({newEnv scope (D+1) X.env.globals (Ht X scope (D+1)) X.env.qual none Value.none (some X.env) 0 with scope:=relabel scope X.env}:Env)=X'.env:=by rw[vQ];rfl
 have L:=loop _ rfl
 rw[<-K8]at L
 exact codeAny_compStart_list L (T.self X.A 0 _ _ _ (T.keep _ _ _ st2 fun b _ o e=>old b o e) L)
end
section
variable{X:Cx}{tg iter elt:Expr}{ifs:List Expr}{scope:Scope}{pos:Pos}{own caps:List Str}{ix:List Nat}{wi:TI}{g:TG}{tc:TT}{te:TE}
theorem JD(hc:X.calm=true)(hi:PI X tg iter wi)(ck:aZ X.env.scope scope=true)(hkind:scope.kind= .function)(hcap:jd X scope caps ix)(hg:∀s H cl C ex,PG (fL X scope (own++caps) s H cl C ex) tg g)(ht:∀s H cl C ex,PX (fL X scope (own++caps) s H cl C ex) ifs tc)(he:∀s H cl C ex,PE (fL X scope (own++caps) s H cl C ex) elt te)(hs:∀x,foldedSetIterable iter X.env x=pure x:=by intro _;rfl):PE X (.ListComp elt [⟨tg,iter,ifs,0⟩] scope pos) (Ie wi own ix g tc te):=by
 intro pins s σ H Q I h
 rw[eval_ListComp]
 refine wcv (use:=none) rfl hs (iW fun x hx=>I.ok.has x ((aZ.free ck hx).2)) hkind (aZ.names ck) (thn (hi pins s σ H _ I h) fun xv s1 h1=>thn h1 fun itv s2 h2=> ?_)
 obtain⟨it,fp,tn,J,H2,e,I2,T,st2,f2,W,⟨m0,w0⟩,turn⟩:=h2
 subst e
 refine BZ (RR:=fun acc C=>compPost (model X.prog X.w) X.A X.xe none (EP X pins σ Q) acc C) ck hkind hcap hc hg ht he I2 T st2 f2 w0 turn ?_
 intro D C s' acc Hf m I' nD hn fC fin
 refine⟨m,hn,fun h' sb=> ?_⟩
 obtain⟨f0,f1,f3,f4,f5,f6⟩:=fC
 exact⟨.ref D,_,I'.turned (t':=s'.toks) (it:=C) (fun b o hb e=>(sb.2 b hb).trans e) f0 f1 f4 f5 f6,rfl,fin D nD⟩
end
section
variable{prog:Program}{w:World}{A:Around}{E:Value->Shared->Prop}{s:Shared}
end
section
variable{X:Cx}{a:Expr}{ta:TA}{p p' pos pos':Pos}
end
end L2
namespace pK
open PySem PySem.W PyProof.Rows PySem.Calls
section
variable{prog:Program}{w:World}{A:Around}{E:Value->Shared->Prop}{s:Shared}{O:KeyOrd}{key:Nat->O.α}{κ:SortKind}{vs:List Value}
theorem zj{t:Addr}{Q:List Value->Shared->Prop}(ht:s.heap.IsTuple t vs.toArray)(h:Q vs {s with heap:=(s.heap.push (seqObj "list" #[] 0)).update s.heap.objs.size (Obj.mapSeq (· ++vs.toArray))})(hz:vs.length<=sizeLine):
  wpAny (model prog w) A (collect (.ref t)) Q E s:=by
 obtain⟨o,ho,hc,n,hd⟩:=id ht
 unfold collect
 refine ak (Wx (CZ entry_proto_collect' ?_))
 show wpAny _ _ (do again (.builtin "list.__iadd__" ⟨[<-newList [],.ref t],[]⟩)) _ _ s
 refine ak (Rx (aF ⟨wcz _ (by decide+kernel),CZ entry_list_iadd' ?_⟩))
 show wpAny _ _ (Builtin.List.listExtendWith (.ref s.heap.objs.size) (.ref t) (.ref s.heap.objs.size)) _ _ {s with heap:=s.heap.push (seqObj "list" #[] 0)}
 unfold Builtin.List.listExtendWith
 have h1:(s.heap.push (seqObj "list" #[] 0)).get? t=some o:=cM _ ho
 have h2:(Value.type "tuple"==Value.type "tuple")=true:=by rfl
 refine ak (Rw (T:="tuple") ⟨o,h1,hc⟩ ?_)
 rw[au (by rw[h2];simp)]
 refine ak (listItems_at h1 hd (ak (listItems_at (xs:=#[]) (n:=0) (gB _ rfl) rfl ?_)))
 rw[ao (by simp)]
 refine ak (Z1 (xs:=#[]) (n:=0) (gB _ rfl) rfl (aF ?_) (cX _) (by show(#[]++vs.toArray).size<=sizeLine+1;simp only[Array.size_append,eU,Mj];omega))
 show wpAny (model prog w) A (load s.heap.objs.size>>=_) Q E {s with heap:=(s.heap.push (seqObj "list" #[] 0)).update s.heap.objs.size (Obj.mapSeq (· ++vs.toArray))}
 refine ak (Wm (Ry (gB _ rfl) _) ?_)
 show wpAny _ _ (pure ((#[]:Array Value)++vs.toArray).toList) Q E _
 have e:((#[]:Array Value)++vs.toArray).toList=vs:=by simp
 rw[e]
 exact aF h
theorem Ae{l:Addr}{Q:Value->Shared->Prop}(hl:s.heap.IsTuple l vs.toArray)(h64:vs.length<64)(hkind:2<=vs.length->∀h',(∀b o,s.heap.get? b=some o->h'.get? b=some o)->∀(E:Value->Shared->Prop) (Q:SortKind->Shared->Prop),Q κ {s with heap:=h'}->wpAny (model prog w) A.in1.in1 (keyKind' vs.toArray) Q E {s with heap:=h'})(Kq:2<=vs.length->∀h',(∀b o,s.heap.get? b=some o->h'.get? b=some o)->jg O key vs.length (kas_ask prog w A.in1.in1 κ vs) {s with heap:=h'})(h:∀D h' out c,GX key vs out->s.heap.objs.size<=D->(∀b o,s.heap.get? b=some o->h'.get? b=some o)->h'.get? D=some (seqObj "list" (List.toArray out) c)->Q (.ref D) {s with heap:=h'}):
  wpAny (model prog w) A (call (.builtin "sorted") [.ref l]) Q E s:=by
 refine wcq kind_sorted plain_sorted entry_sorted (args_sorted1 _) ?_
 unfold Builtin.«sorted»
 refine ak (m:=checkCount "sorted" 1 1 _) (aF (ak (zj hl (ak (Rx ?_ (by rw[fM];omega))) (by rw[fM];omega))))
 have hsz:((s.heap.push (seqObj "list" #[] 0)).update s.heap.objs.size (Obj.mapSeq (· ++vs.toArray))).objs.size=s.heap.objs.size+1:=by
  rw[Heap.size_update,size_push']
 have hoL:(((s.heap.push (seqObj "list" #[] 0)).update s.heap.objs.size (Obj.mapSeq (· ++vs.toArray))).push (seqObj "list" vs.toArray 0)).get? (s.heap.objs.size+1)=some (seqObj "list" vs.toArray 0):=by
  rw[<-hsz];exact gB _ rfl
 have keep:∀b o,s.heap.get? b=some o->(((s.heap.push (seqObj "list" #[] 0)).update s.heap.objs.size (Obj.mapSeq (· ++vs.toArray))).push (seqObj "list" vs.toArray 0)).get? b=some o:=fun b o q=>by
  have hlt:b<s.heap.objs.size:=cA q
  rw[wdg _ _ _ (by rw[hsz];exact bQ (lV hlt)),Heap.get?_update_ne _ _ _ _ (bQ hlt),wdg _ _ _ (bQ hlt)]
  exact q
 have ne:∀b o,s.heap.get? b=some o->b≠s.heap.objs.size+1:=fun b o q=>bQ (lV (cA q))
 show wpAny _ _ _ _ _ {s with heap:=((s.heap.push (seqObj "list" #[] 0)).update s.heap.objs.size (Obj.mapSeq (· ++vs.toArray))).push (seqObj "list" vs.toArray 0)}
 rw[hsz]
 refine ak (uM (Dd slot_list_sort ⟨_,hoL,rfl⟩ entry_list_sort ?body (args_list_sort _)))
 case body=>
  refine gU (key:=key) (κ:=κ) (s:={s with heap:=((s.heap.push (seqObj "list" #[] 0)).update s.heap.objs.size (Obj.mapSeq (· ++vs.toArray))).push (seqObj "list" vs.toArray 0)}) hoL h64
   (fun h2 h' k Q hq=>hkind h2 h' (fun b o q=>k b o (ne b o q) (keep b o q)) _ Q hq) (fun h2 h' k=>Kq h2 h' fun b o q=>k b o (ne b o q) (keep b o q)) fun h' out c ho k hc=> ?_
  exact⟨_,rfl,aF ⟨_,rfl,h _ h' out c ho (wD _) (fun b o q=>k b o (ne b o q) (keep b o q)) hc⟩⟩
end
end pK
namespace L2
open PySem PySem.Spec PyProof.Rows
section
variable{X:Cx}
theorem jl:∀{xs:List Int} {us:List Value},Vals (xs.map V.int) us->Paired (fun(i:Int) (v:Value)=>∃t,v= .int i t) xs us
 |[],_,h=>by cases h;exact .nil
 |_::_,_,h=>by
  cases h with
  |cons r t=>exact .cons r (jl t)
theorem jA:∀{xs:List Int} {us:List Value},Paired (fun(i:Int) (v:Value)=>∃t,v= .int i t) xs us->Vals (xs.map V.int) us
 |_,_,.nil=> .nil
 |_,_,.cons r t=> .cons r (jA t)
theorem qp{xs:List Int}{us:List Value}(h:Paired (fun(i:Int) (v:Value)=>∃t,v= .int i t) xs us):∀i (hi:i<xs.length),∃t,us.getD i Value.none= .int xs[i] t:=by
 induction h with
 |nil=>intro i hi;simp at hi
 |cons r t ih=>
  intro i hi
  cases i with
  |zero=>exact r
  |succ i=>simpa using ih i (by simpa using hi)
theorem vZ:CallR X (.builtin "sorted") (fun vs H Q=>∃(b:Bool) (a:Addr) (xs:List Int),vs=[.ref a]/\Mv X.K b H a (xs.map V.int)/\xs.length<64/\
  ∀(l:Addr) (ys:List Int),H l=none->ys.Perm xs->ys.Pairwise (· <= ·)->Q (.ref l) (upd H l (.lst (ys.map V.int)))):=by
 intro pins s σ H xs us Q I r h
 obtain⟨b,a,ns,rfl,hS,h64,q⟩:=h
 obtain⟨u,rfl,ru⟩:=r.one
 cases ru
 have main:∀vs:List Value,Vals (ns.map V.int) vs->(b=false/\s.heap.IsList a vs.toArray\/b=true/\s.heap.IsTuple a vs.toArray)->wpAny (model X.prog X.w) X.A (call (.builtin "sorted") [.ref a]) (EP X pins σ Q) X.xe s:=by
  intro vs rv hb
  have hlen:ns.length=vs.length:=by have:=rv.length;simpa using this
  have pr:=jl rv
  have hi:IntsAre vs ns:=intsAre_of rv
  have p1:2<=vs.length->∀h',(∀b o,s.heap.get? b=some o->h'.get? b=some o)->∀(E:Value->Shared->Prop) (Q:SortKind->Shared->Prop),Q oneType' {s with heap:=h'}->wpAny (model X.prog X.w) X.A.in1.in1 (keyKind' vs.toArray) Q E {s with heap:=h'}:=fun h2 h' k E' Q' hq=>by
   rw[ksk_kind (kz:=ns) (by simpa using hi) (by simpa using h2)]
   exact aF hq
  have p2:2<=vs.length->∀h',(∀b o,s.heap.get? b=some o->h'.get? b=some o)->pK.jg pK.rm (fun i=>ns.getD i 0) vs.length (PySem.W.kas_ask X.prog X.w X.A.in1.in1 oneType' vs) {s with heap:=h'}:=fun h2 h' k=>by
   intro i j C hi hj hC
   rw[<-hlen]at hi hj
   unfold PySem.W.kas_ask
   obtain⟨t1,e1⟩:=qp pr i hi
   obtain⟨t2,e2⟩:=qp pr j hj
   rw[e1,e2]
   refine PySem.W.kat_lt_int ?_
   have hC':C (decide (ns.getD i 0<ns.getD j 0)) {s with heap:=h'}:=hC
   have e3:ns.getD i 0=ns[i]:=by simp[hi]
   have e4:ns.getD j 0=ns[j]:=by simp[hj]
   rw[e3,e4]at hC'
   exact hC'
  have p3:∀D h' out c,pK.GX (O:=pK.rm) (fun i=>ns.getD i 0) vs out->s.heap.objs.size<=D->(∀b o,s.heap.get? b=some o->h'.get? b=some o)->h'.get? D=some (seqObj "list" (List.toArray out) c)->EP X pins σ Q (.ref D) {s with heap:=h'}:=fun D h' out c ho hD k hc=>by
   obtain⟨ys,hp,hr,hw⟩:=pK.vA (d:=(0:Int)) (f:=fun p=>p) pr (fun i hi=>by show ns.getD i 0=_;simp[hi]) ho
   have zl:(ys.map V.int).length<=sizeLine:=by
    have:=hp.length_eq
    rw[aG]
    exact cQ (small1000 (by omega))
   have J:Inv X pins σ (upd H D (.lst (ys.map V.int))) {s with heap:=h',toks:=s.toks}:=I.laid k hD ⟨zl,out,c,jA hr,hc⟩
   refine⟨.ref D,_,J,rfl,q D ys (I.hok.fresh hD) hp (hw.imp fun{x y} hxy=> ?_)⟩
   have:decide (y<x)=false:=hxy
   have:=RD this
   omega
  rcases hb with⟨_,hb⟩|⟨_,hb⟩
  ·exact pK.qK (O:=pK.rm) (key:=fun i=>ns.getD i 0) (κ:=oneType') hb (by omega) p1 p2 p3
  ·exact pK.Ae (O:=pK.rm) (key:=fun i=>ns.getD i 0) (κ:=oneType') hb (by omega) p1 p2 p3
 cases b with
 |false=>
  obtain⟨vs,rv,pl,hz⟩:=I.list (show SqL X.K H a (ns.map V.int)from hS)
  exact main vs rv (.inl ⟨rfl,pl.isList⟩)
 |true=>
  obtain⟨vs,rv,pl,hz⟩:=I.tuple (show SqT X.K H a (ns.map V.int)from hS)
  exact main vs rv (.inr ⟨rfl,pl⟩)
end
section
variable{K:W.Frag}{σ:St}{H0:Hp}
end
end L2
namespace L2
open PySem PySem.W PySem.Spec PyProof.Rows
section
variable{X:Cx}
theorem v7:CallR X (.builtin "sorted") (fun xs H Q=>∃(a:Addr) (its:List (Addr×List Int)),xs=[.ref a]/\SqL X.K H a (its.map fun p=>V.ref p.1)/\(∀p∈its,SqT X.K H p.1 (p.2.map V.int)/\(2<=its.length->p.2≠[]))/\its.length<64/\
  ∀(l:Addr) (its':List (Addr×List Int)),H l=none->its'.Perm its->its'.Pairwise (fun p q=>HT.lexLt q.2 p.2=false)->Q (.ref l) (upd H l (.lst (its'.map fun p=>V.ref p.1)))):=by
 intro pins s σ H xs us Q I r h
 obtain⟨a,its,rfl,hS,hT,h64,q⟩:=h
 obtain⟨u,rfl,ru⟩:=r.one
 cases ru
 obtain⟨vs,rv,pl,hz⟩:=I.list hS
 have hlen:its.length=vs.length:=by have:=rv.length;simpa using this
 -- the values beside the tuples
 have pr:Paired (fun(p:Addr×List Int) (v:Value)=>v= .ref p.1) its vs:=by
  have go:∀(l:List (Addr×List Int)) (us:List Value),Vals (l.map fun p=>V.ref p.1) us->Paired (fun(p:Addr×List Int) (v:Value)=>v= .ref p.1) l us:=by
   intro l
   induction l with
   |nil=>intro us h;cases h;exact .nil
   |cons p l ih=>
    intro us h
    cases h with
    |cons r t=>exact .cons r (ih _ t)
  exact go its vs rv
 have tup:∀p∈its,∃(items:List Value),IntsAre items p.2/\IsTup s.heap p.1 items.toArray:=fun p hp=>by
  obtain⟨its',r',t',_⟩:=I.tuple (hT p hp).1
  exact⟨its',intsAre_of r',t'⟩
 refine pK.qK (O:=pK.lexOrd) (key:=fun i=>(its.getD i (0,[])).2) (κ:=tuples' true) (s:=s) pl.isList (by omega) (fun h2 h' k E' Q' hq=> ?_) (fun h2 h' k=> ?_) (fun D h' out c ho hD k hc=> ?_)
 ·have kt:∀(l:List (Addr×List Int)) (us:List Value),Paired (fun(p:Addr×List Int) (v:Value)=>v= .ref p.1) l us->(∀p∈l,p∈its)->∃fs:List Value,KatTups h' us fs/\fs.length=us.length/\∀v∈fs,∃i t,v=Value.int i t:=by
   intro l us h
   induction h with
   |nil=>intro _;exact⟨[],trivial,rfl,fun _ hv=>nomatch hv⟩
   | @cons p v l us r t ih=>
    intro hs
    obtain⟨fs,k1,k2,k3⟩:=ih fun p hp=>hs p (dG _ hp)
    obtain⟨items,hi,o,e,hc,n,hd⟩:=tup p (hs p cV)
    have hne:=(hT p (hs p cV)).2 (by omega)
    obtain⟨pa,pn⟩:=p
    dsimp only at hi hne e r
    cases hi with
    |nil=>exact absurd rfl hne
    |cons i t hi'=>
     rw[r]
     refine⟨Value.int i t::fs,KatTups.cons (k _ _ e) hc hd (by simp) k1,by simp[k2],fun v hv=> ?_⟩
     rcases cB.mp hv with e|e
     ·exact⟨i,t,e⟩
     ·exact k3 v e
  obtain⟨fs,k1,k2,k3⟩:=kt its vs pr fun _ hp=>hp
  refine kat_kind (s:={s with heap:=h'}) (T:= .type "int") k1 (by omega) (fun v hv=> ?_) (by rfl) hq
  obtain⟨i,t,rfl⟩:=k3 v hv
  exact fun A Q E s _ q=>aF q
 ·intro i j C hi hj hC
  rw[<-hlen]at hi hj
  have get:∀i (hi:i<its.length),vs.getD i Value.none= .ref its[i].1:=by
   have go:∀(l:List (Addr×List Int)) (us:List Value),Paired (fun(p:Addr×List Int) (v:Value)=>v= .ref p.1) l us->∀i (hi:i<l.length),us.getD i Value.none= .ref l[i].1:=by
    intro l us h
    induction h with
    |nil=>intro i hi;simp at hi
    |cons r t ih=>
     intro i hi
     cases i with
     |zero=>exact r
     |succ i=>simpa using ih i (by simpa using hi)
   exact go its vs pr
  unfold kas_ask
  rw[get i hi,get j hj]
  obtain⟨xi,hxi,oi,ei,ci,ni,di⟩:=tup its[i] (Et _)
  obtain⟨xj,hxj,oj,ej,cj,nj,dj⟩:=tup its[j] (Et _)
  refine kat_lt (s:={s with heap:=h'}) (k _ _ ei) di (k _ _ ej) dj ?_
  refine pK.Kd 0 hxi hxj ?_ ?_
  ·have:=hxi.length;have:=hxj.length
   simp only[eU]
   omega
  ·rw[HT.dN]
   have e1:its.getD i (0,[])=its[i]:=by simp[hi]
   have e2:its.getD j (0,[])=its[j]:=by simp[hj]
   have hC':C (decide ((its.getD i (0,[])).2<(its.getD j (0,[])).2)) {s with heap:=h'}:=hC
   rw[e1,e2]at hC'
   exact hC'
 ·obtain⟨its',hp,hr,hw⟩:=pK.vA (d:=((0,[]):Addr×List Int)) (f:=fun p=>p.2) pr (fun i hi=>by show(its.getD i (0,[])).2=_;simp[hi]) ho
  have hn:H D=none:=I.hok.fresh hD
  have rv':Vals (its'.map fun p=>V.ref p.1) out:=by
   have go:∀(l:List (Addr×List Int)) (us:List Value),Paired (fun(p:Addr×List Int) (v:Value)=>v= .ref p.1) l us->Vals (l.map fun p=>V.ref p.1) us:=by
    intro l us h
    induction h with
    |nil=>exact .nil
    |cons r t ih=>exact .cons r ih
   exact go its' out hr
  have zl:(its'.map fun p=>V.ref p.1).length<=sizeLine:=by
   have:=hp.length_eq
   rw[aG]
   exact cQ (small1000 (by omega))
  have J:Inv X pins σ (upd H D (.lst (its'.map fun p=>V.ref p.1))) {s with heap:=h',toks:=s.toks}:=I.laid k hD ⟨zl,out,c,rv',hc⟩
  refine⟨.ref D,_,J,rfl,q D its' hn hp (hw.imp fun{x y} hxy=> ?_)⟩
  rw[HT.dN];exact hxy
theorem Fw(K:W.Frag){a:Expr}{ta:TE}(ha:PE X a ta)(he:∀whole,isTrue a X.env whole=(do let v<-whole;standAt a.pos;holding [v] (truthy v)))(h:X.K=K:=by rfl):
  PT X a (fun σ H Q=>ta σ H fun x H'=>∃k,TruV K x H' k/\Q k H'):=by subst h;exact pt_truth ha he
end
end L2
namespace L2
open PySem PySem.Spec PyProof.Rows
section
variable{prog:Program}{w:World}{A:Around}{E:Value->Shared->Prop}{s:Shared}{l:Addr}{kid:String}{vs:List Value}{R:Result->Shared->Prop}{Q:Value->Shared->Prop}
end
section
variable{X:Cx}{a:Expr}{ta:TA}{p p2 kp pos:Pos}
end
section
variable{P:Program}{w:World}{K:W.Frag}{mg:Str->Option Value}{base:Heap}{N:List Str}{qual:Str}{scope:Scope}{f:Addr}{cd:Value}{A:Around}{outer:List Env}{s:Shared}{H:Hp}{E:XK}
end
section
variable{P:Program}{w:World}{K:W.Frag}{mg:Str->Option Value}{base:Heap}{N:List Str}{qual:Str}{scope:Scope}{f:Addr}{cd:Value}{A:Around}{outer:List Env}{s:Shared}{H:Hp}{E:XK}
end
end L2
namespace L2
open PySem PySem.Spec PySem.Calls PyProof.Rows PySem.W PySem.Builtin.Getset_descriptor
section
variable{prog:Program}{w:World}{A:Around}{E:Value->Shared->Prop}{s:Shared}{K:Frag}{x D:Addr}
end
end L2
namespace L2
open PySem PySem.Spec PyProof.Rows
section
variable{X:Cx}{pins:List (Addr×Obj)}{σ:St}{H H':Hp}{s s':Shared}{e C:Addr}{B:Heap}
end
section
variable{X:Cx}{k:Nat}{f D:Addr}{fd:FuncData}{ps:List Str}{sp:Sp}{fn x n:Str}{p cpos epos np hpos pos:Pos}{a:Expr}{as:List Expr}{t:TA}{ts:TS}{b₀:Stmt}{suite:List Stmt}{i:Nat}
end
section
variable{X:Cx}
end
mutual
def aan:Nat->Expr->Option PyData
 |0,_=>none
 |n+1,e=>match e with
  | .Constant (.int i) _ _=>some (.int i)
  | .Constant (.bool b) _ _=>some (.bool b)
  | .Constant .none _ _=>some .none
  | .Constant (.str x) _ _=>some (.str x)
  | .UnaryOp .USub (.Constant (.int i) _ _) _=>some (.int (-i))
  | .Tuple es _ _=>(Kc n es).map .tuple
  | .List es _=>(Kc n es).map .list
  | .Dict [] [] _=>some (.dict [])
  |_=>none
def Kc:Nat->List Expr->Option (List PyData)
 |0,_=>none
 |_+1,[]=>some []
 |n+1,e::es=>match aan n e,Kc n es with
  |some d,some ds=>some (d::ds)
  |_,_=>none
end
section
variable{X:Cx}
end
end L2
namespace L2
open PySem PySem.Spec PyProof.Rows
section
variable{κ:Type} [DecidableEq κ]
def valV(kvs:List (κ×V))(k:κ):Option V:=(kvs.find? fun kv=>decide (kv.1=k)).map (·.2)
def putK(kvs:List (κ×V))(k:κ)(v:V):List (κ×V):=
 if(kvs.any fun kv=>decide (kv.1=k))=true then kvs.map (fun kv=>if kv.1=k then(kv.1,v)else kv)else kvs++[(k,v)]
theorem valV_pos{p:κ×V}{r:List (κ×V)}{k:κ}(e:p.1=k):valV (p::r) k=some p.2:=by simp[valV,U4,e]
theorem valV_neg{p:κ×V}{r:List (κ×V)}{k:κ}(e:¬p.1=k):valV (p::r) k=valV r k:=by simp[valV,U4,e]
theorem valV_any(k:κ):∀kvs:List (κ×V),(kvs.any fun kv=>decide (kv.1=k))=(valV kvs k).isSome
 |[]=>rfl
 |p::r=>by
  rw[Qg]
  by_cases e:p.1=k
  ·simp only[valV_pos e,fj e,Wr,Option.isSome_some]
  ·rw[valV_neg e,jN e,Wv];exact valV_any k r
theorem length_putK(kvs:List (κ×V))(k:κ)(v:V):(putK kvs k v).length<=kvs.length+1:=by
 unfold putK
 split
 ·rw[aG];omega
 ·rw[lW,qx,Mj];omega
theorem putK_new{kvs:List (κ×V)}{k:κ}(v:V)(h:valV kvs k=none):putK kvs k v=kvs++[(k,v)]:=by
 unfold putK
 rw[valV_any,h]
 exact ao (by decide)
theorem RelO.isSome_eq{o:Option V}{u:Option Value}(r:RelO o u):o.isSome=u.isSome:=by
 cases o with
 |none=>cases u with
  |none=>rfl
  |some _=>exact(show False from r).elim
 |some _=>cases u with
  |none=>exact(show False from r).elim
  |some _=>rfl
theorem KV.val{kvs:List (κ×V)}{vs:List (κ×Value)}(r:KV kvs vs)(k:κ):RelO (valV kvs k) (valueAt vs k):=by
 unfold KV at r
 induction r with
 |nil=>exact True.intro
 | @cons p q ps qs h t ih=>
  obtain⟨h1,h2⟩:=h
  by_cases e:p.1=k
  ·have e':q.1=k:=h1.symm.trans e
   have b:valueAt (q::qs) k=some q.2:=by simp[valueAt,U4,e']
   rw[valV_pos e,b];exact h2
  ·have e':¬q.1=k:=fun z=>e (h1.trans z)
   have b:valueAt (q::qs) k=valueAt qs k:=by simp[valueAt,U4,e']
   rw[valV_neg e,b];exact ih
theorem KV.any{kvs:List (κ×V)}{vs:List (κ×Value)}(r:KV kvs vs)(k:κ):(kvs.any fun kv=>decide (kv.1=k))=vs.any fun kv=>decide (kv.1=k):=by
 unfold KV at r
 induction r with
 |nil=>rfl
 |cons h t ih=>rw[Qg,Qg,ih,h.1]
theorem KV.repl{kvs:List (κ×V)}{vs:List (κ×Value)}(r:KV kvs vs)(k:κ){y:V}{u:Value}(ry:RelV y u):
  KV (kvs.map fun kv=>if kv.1=k then(kv.1,y)else kv) (vs.map fun kv=>if kv.1=k then(kv.1,u)else kv):=by
 unfold KV at r⊢
 induction r with
 |nil=>exact .nil
 | @cons p q ps qs h t ih=>
  rw[wU,wU]
  refine .cons ?_ ih
  obtain⟨h1,h2⟩:=h
  by_cases e:p.1=k
  ·rw[au e,au (h1.symm.trans e)];exact⟨h1,ry⟩
  ·rw[ao e,ao (fun z=>e (h1.trans z))];exact⟨h1,h2⟩
theorem KV.put{kvs:List (κ×V)}{vs:List (κ×Value)}(r:KV kvs vs)(k:κ){y:V}{u:Value}(ry:RelV y u):KV (putK kvs k y) (stored vs k u):=by
 unfold putK stored
 rw[r.any k]
 by_cases e:(vs.any fun kv=>decide (kv.1=k))=true
 ·rw[au e,au e];exact r.repl k ry
 ·rw[ao e,ao e];exact Paired.snoc r ⟨rfl,ry⟩
theorem KV.length{kvs:List (κ×V)}{vs:List (κ×Value)}(r:KV kvs vs):kvs.length=vs.length:=wfk r
end
theorem kV_is{P:Program}{w:World}{k:Key}{u:Value}(r:RelV (kV k) u):(mixKind P w).is k u=true:=by
 cases k with
 |inl i=>obtain⟨t,e⟩:=(show∃t,u=Value.int i t from r);subst e;exact mixKind_int P w i t
 |inr x=>obtain⟨t,e⟩:=(show∃t,u=Value.str x t from r);subst e;exact mixKind_str P w x t
theorem items_are{P:Program}{w:World}:∀{ks:List Key} {us:List Value},Vals (ks.map kV) us->ItemsAre (mixKind P w) ks us
 |[],_,r=>by rw[ZV]at r;cases r;exact .nil
 |k::ks,_,r=>by
  rw[wU]at r
  cases r with
  |cons h t=>exact .cons (kV_is h) (items_are t)
abbrev KT(H:Hp):List (List Key×V)->List (List Key×Addr×Value)->Prop:=Paired fun p q=>p.1=q.1/\H q.2.1=some (.tup (p.1.map kV))/\RelV p.2 q.2.2
theorem KT.val{H:Hp}{kvs:List (List Key×V)}{xs:List (List Key×Addr×Value)}(r:KT H kvs xs)(k:List Key):RelO (valV kvs k) ((atKey xs k).map (·.2)):=by
 induction r with
 |nil=>exact True.intro
 | @cons p q ps qs h t ih=>
  obtain⟨h1,_,h2⟩:=h
  by_cases e:p.1=k
  ·have e':q.1=k:=h1.symm.trans e
   have b:atKey (q::qs) k=some q.2:=by simp[atKey,U4,e']
   rw[valV_pos e,b];exact h2
  ·have e':¬q.1=k:=fun z=>e (h1.trans z)
   have b:atKey (q::qs) k=atKey qs k:=by simp[atKey,U4,e']
   rw[valV_neg e,b];exact ih
theorem KT.repl{H:Hp}{kvs:List (List Key×V)}{xs:List (List Key×Addr×Value)}(r:KT H kvs xs)(k:List Key){y:V}{u:Value}(ry:RelV y u):
  KT H (kvs.map fun kv=>if kv.1=k then(kv.1,y)else kv) (xs.map (putAt k u)):=by
 induction r with
 |nil=>exact .nil
 | @cons p q ps qs h t ih=>
  rw[wU,wU]
  refine .cons ?_ ih
  obtain⟨h1,h2,h3⟩:=h
  unfold putAt
  by_cases e:p.1=k
  ·rw[au e,au (h1.symm.trans e)];exact⟨h1,h2,ry⟩
  ·rw[ao e,ao (fun z=>e (h1.trans z))];exact⟨h1,h2,h3⟩
theorem KT.put{H:Hp}{kvs:List (List Key×V)}{xs:List (List Key×Addr×Value)}(r:KT H kvs xs)(k:List Key){b:Addr}{y:V}{u:Value}(hb:H b=some (.tup (k.map kV)))(ry:RelV y u):
  KT H (putK kvs k y) (storedH xs k b u):=by
 have e:(kvs.any fun kv=>decide (kv.1=k))=(atKey xs k).isSome:=by
  rw[valV_any,(r.val k).isSome_eq,Option.isSome_map]
 unfold putK storedH
 rw[e]
 by_cases q:(atKey xs k).isSome=true
 ·rw[au q,au q];exact r.repl k ry
 ·rw[ao q,ao q];exact Paired.snoc r ⟨rfl,hb,ry⟩
theorem KT.keeps{H H':Hp}{kvs:List (List Key×V)}{xs:List (List Key×Addr×Value)}(r:KT H kvs xs)(ht:∀b ys,H b=some (.tup ys)->H' b=some (.tup ys)):KT H' kvs xs:=
 Paired.mapP r fun _ _ z=>⟨z.1,ht _ _ z.2.1,z.2.2⟩
section
variable{P:Program}{w:World}{H:Hp}{h:Heap}{a:Addr}
theorem rd_of{u:HO}(ok:HOk P w H h)(e:Rd H a u):ObjOk P w H h a u:=e.ok ok
theorem dk_rd{kvs:List (Key×V)}(ok:HOk P w H h)(e:Rd H a (.dK kvs)):kvs.length<=sizeLine/\(a==sysModules)=false/\∃vs,KV kvs vs/\h.DictOf (mixKind P w) a vs:=
 show ObjOk P w H h a (.dK kvs)from rd_of ok e
theorem dk_of{kvs:List (Key×V)}(ok:HOk P w H h)(e:H a=some (.dK kvs)):kvs.length<=sizeLine/\(a==sysModules)=false/\∃vs,KV kvs vs/\h.DictOf (mixKind P w) a vs:=dk_rd ok (.inl e)
theorem key_of{ks:List Key}(ok:HOk P w H h)(e:H a=some (.tup (ks.map kV))):(tupleKind (mixKind P w)).is h ks a:=by
 obtain⟨_,its,r,o,h1,h2,n,h3⟩:=(show ObjOk P w H h a (.tup (ks.map kV))from ok a _ e)
 exact⟨o,its.toArray,n,h1,h2,h3,by simpa using items_are r⟩
theorem dt_rd{kvs:List (List Key×V)}(ok:HOk P w H h)(e:Rd H a (.dT kvs)):kvs.length<=sizeLine/\(a==sysModules)=false/\
  ∃xs,KT H kvs xs/\h.DictOfH (tupleKind (mixKind P w)) a xs:=by
 obtain⟨z,y,xs,r,o,es,ep,h1,h2,h3,h4,h5⟩:=(show ObjOk P w H h a (.dT kvs)from rd_of ok e)
 refine⟨z,y,xs,r,o,es,ep,h1,h2,h3,h4,fun x hx=> ?_,h5⟩
 have all:∀{l:List (List Key×V)} {m:List (List Key×Addr×Value)},KT H l m->∀x∈m,(tupleKind (mixKind P w)).is h x.1 x.2.1:=by
  intro l m q
  induction q with
  |nil=>intro x hx;exact nomatch hx
  | @cons p q ps qs hq t ih=>
   intro x hx
   rcases cB.mp hx with e|hx
   ·subst e
    exact key_of ok (by rw[<-hq.1];exact hq.2.1)
   ·exact ih x hx
 exact all r x hx
theorem dt_of{kvs:List (List Key×V)}(ok:HOk P w H h)(e:H a=some (.dT kvs)):kvs.length<=sizeLine/\(a==sysModules)=false/\
  ∃xs,KT H kvs xs/\h.DictOfH (tupleKind (mixKind P w)) a xs:=dt_rd ok (.inl e)
end
def DGet(H:Hp)(a:Addr)(y:V)(r:Option V):Prop:=
 (∃kvs k,Rd H a (.dK kvs)/\y=kV k/\r=valV kvs k)\/∃kvs k b,Rd H a (.dT kvs)/\y= .ref b/\H b=some (.tup (k.map kV))/\r=valV kvs k
def DPut(H:Hp)(a:Addr)(y v:V)(H':Hp):Prop:=
 (∃kvs k,H a=some (.dK kvs)/\y=kV k/\kvs.length<sizeLine/\H'=upd H a (.dK (putK kvs k v)))\/
 ∃kvs k b,H a=some (.dT kvs)/\y= .ref b/\H b=some (.tup (k.map kV))/\kvs.length<sizeLine/\H'=upd H a (.dT (putK kvs k v))
theorem DGet.t{H:Hp}{a b:Addr}{kvs:List (List Key×V)}{k:List Key}(e:H a=some (.dT kvs))(eb:H b=some (.tup (k.map kV))):DGet H a (.ref b) (valV kvs k):= .inr ⟨kvs,k,b,.inl e,rfl,eb,rfl⟩
theorem DPut.t{H:Hp}{a b:Addr}{kvs:List (List Key×V)}{k:List Key}{v:V}(e:H a=some (.dT kvs))(eb:H b=some (.tup (k.map kV)))(hl:kvs.length<sizeLine):
  DPut H a (.ref b) v (upd H a (.dT (putK kvs k v))):= .inr ⟨kvs,k,b,e,rfl,eb,hl,rfl⟩
section
variable{X:Cx}{pins:List (Addr×Obj)}{σ:St}{H:Hp}{s:Shared}{a:Addr}{y v:V}{u r:Value}{o:Option V}{A:Around}{E:Value->Shared->Prop}
theorem Inv.big(I:Inv X pins σ H s):sysModules<s.heap.objs.size:=by
 have h:mainGlobals<s.heap.objs.size:=(I.mod.glob.keeps I.bk).lt
 exact Hy (by decide) h
theorem d_getItem{Q:Value->Shared->Prop}(hu:A.units+1<cLine)(I:Inv X pins σ H s)(g:DGet H a y (some v))(ry:RelV y u)(h:∀w' s',Inv X pins σ H s'->RelV v w'->Q w' s'):
  wpAny (model X.prog X.w) A (getItem (.ref a) u) Q E s:=by
 rcases g with⟨kvs,k,e,ey,l⟩|⟨kvs,k,b,e,ey,eb,l⟩
 ·subst ey
  obtain⟨z,hd,vs,rel,dd⟩:=dk_rd I.hok e
  obtain⟨w',hw,rw'⟩:=RelO.some_of (v:=v) (o:=valueAt vs k) (by rw[l];exact rel.val k)
  exact wpAny_getItem_of (kV_is ry) dd.mapOf hw (h w' _ (I.tok _) rw')
 ·subst ey
  cases(show u=Value.ref b from ry)
  obtain⟨z,hd,xs,rel,dd⟩:=dt_rd I.hok e
  obtain⟨w',hw,rw'⟩:=RelO.some_of (v:=v) (o:=(atKey xs k).map (·.2)) (by rw[l];exact rel.val k)
  obtain⟨p,hp,hp2⟩:=Option.map_eq_some_iff.mp hw
  refine wpAny_getItem_heap (tupleKind_room_in1 hu) (key_of I.hok eb) dd hp ?_
  rw[hp2]
  exact h w' _ (I.tok _) rw'
theorem d_write{h':Heap}{t':Nat}{ob:HO}(I:Inv X pins σ H s)(mu:Mut (H a))(hs:Heap.SameBut a s.heap h')(he:∃q,h'.get? a=some q)(new:ObjOk X.prog X.w (upd H a ob) h' a ob):
  Inv X pins σ (upd H a ob) {s with heap:=h',toks:=t'}:=
 I.write (x:=a) (e:=a) mu (.inl rfl) (fun b q hb z=>(hs.2 b hb).trans z) he new
theorem dk_new{P:Program}{w:World}{H':Hp}{h':Heap}{kvs:List (Key×V)}{vs:List (Key×Value)}(z:kvs.length<=sizeLine)(hd:(a==sysModules)=false)(rel:KV kvs vs)(dd:h'.DictOf (mixKind P w) a vs):
  ObjOk P w H' h' a (.dK kvs):=⟨z,hd,vs,rel,dd⟩
theorem d_setItem{H':Hp}{Q:Unit->Shared->Prop}(hu:A.units+1<cLine)(I:Inv X pins σ H s)(g:DPut H a y v H')(ry:RelV y u)(rv:RelV v r)(h:∀s',Inv X pins σ H' s'->Q () s'):
  wpAny (model X.prog X.w) A (setItem (.ref a) u r) Q E s:=by
 rcases g with⟨kvs,k,e,ey,l,eH⟩|⟨kvs,k,b,e,ey,eb,l,eH⟩
 ·subst ey eH
  obtain⟨z,hd,vs,rel,dd⟩:=dk_of I.hok e
  have hz:vs.length<=sizeLine:=by rw[<-rel.length];exact z
  have hl:(putK kvs k v).length<=sizeLine:=by have:=length_putK kvs k v;omega
  refine wpAny_setItem_pairs (hsz:=hz) (kV_is ry) dd fun h' dd' hs=>h _ ?_
  have he:∃q,h'.get? a=some q:=let⟨q,_,_,hq,_⟩:=dd';⟨q,hq⟩
  exact d_write I (by rw[e];exact True.intro) hs he (dk_new hl hd (rel.put k rv) dd')
 ·subst ey eH
  cases(show u=Value.ref b from ry)
  obtain⟨z,hd,xs,rel,dd⟩:=dt_of I.hok e
  have hz:xs.length<=sizeLine:=by rw[<-wfk rel];exact z
  have hl:(putK kvs k v).length<=sizeLine:=by have:=length_putK kvs k v;omega
  refine wpAny_setItem_heap (hsz:=hz) (tupleKind_room_in1 hu) (key_of I.hok eb) dd fun h' dd' hs=>h _ ?_
  obtain⟨q,es,ep,hq,h2,h3,h4,_,h5⟩:=dd'
  refine d_write I (by rw[e];exact True.intro) hs ⟨q,hq⟩ ⟨hl,hd,_,(rel.put k eb rv).keeps fun c ys ec=> ?_,q,es,ep,hq,h2,h3,h4,h5⟩
  rw[cu (ne_of ec e (fun z=>nomatch z))]
  exact ec
end
section
variable{X:Cx}{pins:List (Addr×Obj)}{σ:St}{H:Hp}{s:Shared}{a:Addr}{kvs:List (Key×V)}{k:Key}{u:Value}{A:Around}{E:Value->Shared->Prop}
end
def NoSl(i:Expr):Prop:=∀ov iv,subscripted i false ov iv=operate [ov,iv] (getItem ov iv)
theorem subD_of{prog:Program}{w:World}{A:Around}{E:Value->Shared->Prop}{s:Shared}{env:Env}{value slice:Expr}{pos:Pos}{T id:String}{Q:Value->Shared->Prop}(hl:typeLookup (.type T) "__getitem__"=pure (some (.builtin id)))(hs:NoSl slice)(h:wpAny (model prog w) A (eval value env) (fun o s₁=>wpAny (model prog w) A (eval slice env) (fun i s₂=>s₂.TypeIs o T/\wpAny (model prog w) A (getItem o i) Q E s₂) E s₁) E s):
  wpAny (model prog w) A (eval (.Subscript value slice pos) env) Q E s:=by
 refine Subscript_ (zT h (fun o s₁ h₁=>zT h₁ (fun i s₂ h₂=> ?_) fun _ _ x=>x) fun _ _ x=>x)
 obtain⟨hT,h₂⟩:=h₂
 unfold subscriptTail
 refine ak ?_
 rw[getitemInPython_of_ne hT.not_modules]
 refine ak (wpAny_specialOf hT hl ?_)
 have fin:wpAny (model prog w) A (subscripted slice false o i) (fun r s₃=>wpAny (model prog w) A (letTemporaryGo value o r>>=fun _=>pure r) Q E s₃) E s₂:=by
  rw[hs o i]
  exact wpAny_operating (zT h₂ (fun r s₃ h₃=>ak (wpAny_letTemporaryGo (aF h₃))) fun _ _ x=>x)
 first
  |exact aF (ak fin)
  |exact ak (aF (ak fin))
  |exact ak fin
theorem dict_typeIs{X:Cx}{pins:List (Addr×Obj)}{σ:St}{H:Hp}{s:Shared}{a:Addr}{y:V}{o:Option V}(I:Inv X pins σ H s)(g:DGet H a y o):s.TypeIs (.ref a) "dict":=by
 rcases g with⟨kvs,k,e,_,_⟩|⟨kvs,k,b,e,_,_,_⟩
 ·obtain⟨_,_,vs,_,dd⟩:=dk_rd I.hok e
  exact dd.typeIs
 ·obtain⟨_,_,xs,_,dd⟩:=dt_rd I.hok e
  exact dd.typeIs
def tDGet(td ty:TE):TE:=fun σ H Q=>td σ H fun x H1=>ty σ H1 fun y H2=>∃a v,x= .ref a/\DGet H2 a y (some v)/\Q v H2
def sDPut(td ty tv:TE):TS:=fun D σ H=>tv σ H fun v H1=>td σ H1 fun x H2=>ty σ H2 fun y H3=>∃a H4,x= .ref a/\DPut H3 a y v H4/\D.nx σ H4
section
variable{X:Cx}{o i e value:Expr}{pos pos' tpos:Pos}{td ty tv:TE}
theorem pe_dget(hu:X.A.units+1<cLine)(ho:PE X o td)(hi:PE X i ty)(hs:NoSl i):PE X (.Subscript o i pos) (tDGet td ty):=by
 intro pins s σ H Q I h
 refine subD_of PySem.F.slot_dict_getitem.lookup hs (thn (ho pins s σ H _ I h) fun u s1 ⟨x,H1,I1,rx,q1⟩=>thn (hi pins s1 σ H1 _ I1 q1) fun iv s2 ⟨y,H2,I2,ry,a,v,ex,g,q2⟩=> ?_)
 subst ex
 obtain rfl:u=Value.ref a:=rx
 exact⟨dict_typeIs I2 g,d_getItem hu I2 g ry fun w' s3 I3 rw'=>⟨v,H2,I3,rw',q2⟩⟩
theorem ps_dput(hu:X.A.units+1<cLine)(ho:PE X o td)(hi:PE X i ty)(hv:PE X value tv)(hs:swapsWith value (some (.Subscript o i pos')) pos.line X.env=pure false):
  PS X (.Assign [.Subscript o i pos'] value pos) (sDPut td ty tv):=by
 intro pins s σ H D I h
 refine wpAny_Assign_Subscript (thn (hv pins s σ H _ I h) fun r s1 ⟨v,H1,I1,rv,q1⟩=>thn (ho pins s1 σ H1 _ I1 q1) fun u s2 ⟨x,H2,I2,rx,q2⟩=>thn (hi pins s2 σ H2 _ I2 q2) fun iv s3 ⟨y,H3,I3,ry,a,H4,ex,g,q3⟩=> ?_) hs
 subst ex
 obtain rfl:u=Value.ref a:=rx
 exact d_setItem hu I3 g ry rv fun s4 I4=>⟨σ,H4,I4,q3⟩
end
theorem dt_empty{P:Program}{w:World}{H:Hp}(h:Heap)(hb:sysModules<h.objs.size):ObjOk P w H (h.push {cls:= .type "dict",data:= .dict #[]}) h.objs.size (.dT []):=
 ⟨cX _,beq_eq_false_iff_ne.mpr (jY (bQ hb)),[],.nil,_,#[],0,gB _ rfl,⟨rfl,rfl,rfl⟩,rfl,rfl,List.nodup_nil⟩
def tDNewT:TE:=fun _ H Q=>∀p,H p=none->Q (.ref p) (upd H p (.dT []))
section
variable{X:Cx}{pos:Pos}
theorem pe_dnewT:PE X (.Dict [] [] pos) tDNewT:=fun pins s σ H Q I h=>
 wpAny_Dict_empty ⟨.ref s.heap.objs.size,_,I.laid (a:=s.heap.objs.size) (o:= .dT []) (t':=s.toks) (fun _ _ q=>cM _ q) (aH _) (dt_empty s.heap I.big),rfl,h _ (I.hok.fresh (aH _))⟩
end
end L2
namespace PySem
namespace F
end F
section
variable{prog:Program}{w:World}{A:Around}{E:Value->Shared->Prop}{s:Shared}
end
end PySem
namespace L2
open PySem PySem.Spec PyProof.Rows
section
variable{X:Cx}{tg:Expr}
end
section
variable{X:Cx}
theorem uy(hc:X.calm=true):CallR X (.builtin "min") (fun xs H Q=>∃(a:Addr) (ns:List Int),xs=[.ref a]/\SqL X.K H a (ns.map V.int)/\ns≠[]/\∀m∈ns,(∀n∈ns,m<=n)->Q (.int m) H):=by
 intro pins s σ H xs us Q I r h
 obtain⟨a,ns,rfl,hS,hne,q⟩:=h
 obtain⟨u,rfl,ru⟩:=r.one
 cases ru
 obtain⟨vs,rv,pl,hz⟩:=I.list hS
 have hl:=pl.isList
 have hlt:a<s.heap.objs.size:=by obtain⟨_,e,_⟩:=hl;exact cA e
 have hlen:=rv.length
 rw[aG]at hlen
 have hI:∀(i:Nat) (v:Value),vs.toArray[i]? =some v->∃t,v= .int (ns.getD i 0) t:=fun i v hv=>by
  have hv':vs[i]? =some v:=by simpa using hv
  have hi:i<ns.length:=by have:=(qy.mp hv').1;omega
  have hn:(ns.map V.int)[i]? =some (.int (ns.getD i 0)):=by rw[c7,gn hi,kO,gn hi];rfl
  obtain⟨u,hu,ru⟩:=rv.get hn
  rw[hv']at hu
  cases hu
  obtain⟨t,rfl⟩:=ru
  exact⟨t,rfl⟩
 refine call_min_walk (Vn hl ?_)
 refine⟨s.heap.objs.size,[s.heap.objs.size,a],[s.heap.objs.size],vs.toArray.size,_,_,_,rfl,Vh (A:=X.A.in1) (I.ok.hd hc) _ a (bQ hlt) vs.toArray,
  ⟨⟨_,gB _ rfl,rfl,rfl⟩,hl.push _⟩,?_,?_,CmpOf.ints_lt (fun i=>ns.getD i 0) hI,fun v h' tk hP hk=> ?_⟩
 ·intro b hb
  show b<(s.heap.push _).objs.size
  rw[wH]
  rcases cB.mp hb with rfl|hb
  ·exact nQ _
  ·rw[g8.mp hb];exact lV hlt
 ·rw[eU,<-hlen];exact List.length_pos_iff.mpr hne
 ·obtain⟨t,rfl⟩:=hI _ v hP
  obtain⟨h1,h2⟩:=argBest_lt (fun i=>ns.getD i 0) (vs.toArray.size-1)
  have hn0:0<ns.length:=List.length_pos_iff.mpr hne
  have hb:argBest (fun i j=>decide (ns.getD i 0<ns.getD j 0)) (vs.toArray.size-1)<ns.length:=by
   have:vs.toArray.size=ns.length:=by rw[eU];omega
   omega
  refine⟨.int _,H,I.kept (LSm.kept_iter hk),⟨t,rfl⟩,q _ ?_ fun n hn=> ?_⟩
  ·rw[kO,gn hb];exact Et hb
  ·obtain⟨j,hj,rfl⟩:=zR hn
   have:=h2 j (by rw[eU];omega)
   rw[kO (i:=j),gn hj]at this
   exact this
end
end L2
namespace PySem
section
variable{prog:Program}{w:World}{Ky:Type} [DecidableEq Ky]{knd:KeyKind prog w Ky}{A:Around}{E:Value->Shared->Prop}{s:Shared}
end
end PySem
namespace L2
open PySem PySem.Spec PyProof.Rows
section
variable{X:Cx}
end
end L2
namespace L2
open PySem
def nH(xs:Array Nat):Prop:=xs.toList.Pairwise (· < ·)
theorem nH.at{xs:Array Nat}(h:nH xs){i k:Nat}(hk:k<xs.size)(hik:i<k):xs.toList[i]'(by simp;omega)<xs.toList[k]'(by simpa using hk):=Qm.mp h i k _ _ hik
theorem getD_at{xs:Array Nat}{i d:Nat}(h:i<xs.size):xs.getD i d=xs.toList[i]'(by simpa using h):=by
 rw[Array.getElem_toList]
 simp[Array.getD,h]
theorem rJ{xs:Array Nat}(hx:nH xs)(j:Nat):∀(fuel lo hi:Nat),lo<=hi->hi<=xs.size->hi-lo<=fuel->(∀i (h:i<xs.size),i<lo->xs.toList[i]'(by simpa using h)<j)->(∀i (h:i<xs.size),hi<=i->j<=xs.toList[i]'(by simpa using h))->
  SetTable.below.go xs j fuel lo hi<=xs.size/\(∀i (h:i<xs.size),i<SetTable.below.go xs j fuel lo hi->xs.toList[i]'(by simpa using h)<j)/\(∀i (h:i<xs.size),SetTable.below.go xs j fuel lo hi<=i->j<=xs.toList[i]'(by simpa using h))
 |0,lo,hi,h1,h2,h3,a,b=>by
  have e:lo=hi:=by omega
  subst e
  unfold SetTable.below.go
  exact⟨h2,a,b⟩
 |fuel+1,lo,hi,h1,h2,h3,a,b=>by
  unfold SetTable.below.go
  by_cases c:lo<hi
  ·rw[au c]
   have hm:(lo+hi)/2<xs.size:=by omega
   dsimp only
   rw[getD_at hm]
   by_cases q:xs.toList[(lo+hi)/2]'(by simpa using hm)<j
   ·rw[au q]
    refine rJ hx j fuel _ hi (by omega) h2 (by omega) (fun i hi' hlt=> ?_) b
    by_cases e:i=(lo+hi)/2
    ·subst e;exact q
    ·exact Hy (hx.at hm (by omega)) q
   ·rw[ao q]
    refine rJ hx j fuel lo _ (by omega) (by omega) (by omega) a (fun i hi' hle=> ?_)
    by_cases e:i=(lo+hi)/2
    ·subst e;omega
    ·have:=hx.at hi' (show(lo+hi)/2<i by omega)
     omega
  ·rw[ao c]
   have e:lo=hi:=by omega
   subst e
   exact⟨h2,a,b⟩
theorem zu{xs:Array Nat}(hx:nH xs)(j:Nat):SetTable.below xs j<=xs.size/\(∀i (h:i<xs.size),i<SetTable.below xs j->xs.toList[i]'(by simpa using h)<j)/\(∀i (h:i<xs.size),SetTable.below xs j<=i->j<=xs.toList[i]'(by simpa using h)):=
 rJ hx j xs.size 0 xs.size (cX _) (aH _) (aH _) (fun i _ h=>absurd h (MF _)) (fun i h h'=>absurd h (Qe.mpr h'))
theorem yI{α:Type}(xs:Array α)(p:Nat)(x:α):(SetTable.insertAt xs p x).toList=xs.toList.take p++x::xs.toList.drop p:=by
 unfold SetTable.insertAt
 simp
 exact ZD (by simp)
theorem yH{xs:Array Nat}(hx:nH xs){j:Nat}(hn:xs[SetTable.below xs j]? ≠some j):nH (SetTable.insertAt xs (SetTable.below xs j) j):=by
 obtain⟨b1,b2,b3⟩:=zu hx j
 unfold nH
 rw[yI,Rp]
 have Vt:∀a∈xs.toList.take (SetTable.below xs j),a<j:=fun a ha=>by
  obtain⟨i,hi,e⟩:=List.mem_take_iff_getElem.mp ha
  rw[<-e]
  exact b2 i (by simp at hi;omega) (by omega)
 have oA:∀a∈xs.toList.drop (SetTable.below xs j),j<a:=fun a ha=>by
  obtain⟨i,hi,e⟩:=List.mem_drop_iff_getElem.mp ha
  have hs0:i+SetTable.below xs j<xs.size:=by simpa using hi
  have hs:SetTable.below xs j+i<xs.size:=by omega
  have z:=b3 (SetTable.below xs j+i) hs (wfw _ _)
  have e':xs.toList[SetTable.below xs j+i]'(by simpa using hs)=a:=by rw[<-e]
  rw[e']at z
  by_cases c:i=0
  ·subst c
   refine Hz z fun ej=>hn ?_
   rw[<-U9,gn (by simpa using hs)]
   exact jh some (e'.trans ej.symm)
  ·have hs0:SetTable.below xs j<xs.size:=by omega
   have z0:=b3 (SetTable.below xs j) hs0 (aH _)
   have:=hx.at hs (show SetTable.below xs j<SetTable.below xs j+i by omega)
   rw[e']at this
   omega
 refine⟨hx.sublist (List.take_sublist _ _),V9.mpr ⟨oA,hx.sublist (List.drop_sublist _ _)⟩,fun a ha b hb=> ?_⟩
 rcases cB.mp hb with e|e
 ·rw[e];exact Vt a ha
 ·exact Hy (Vt a ha) (oA b e)
structure TabOk(b:Bool)(t:SetTable):Prop where
 rise:nH t.place
 nod:t.dummies=#[]
 led:t.led=b
theorem has_none(j:Nat):SetTable.has #[] j=false:=by
 unfold SetTable.has
 simp
theorem Ah{t:SetTable}{j:Nat}(h:t.slot j= .empty):t.place[SetTable.below t.place j]? ≠some j:=fun e=>by
 unfold SetTable.slot at h
 dsimp only at h
 rw[e]at h
 simp at h
theorem xZ{t:SetTable}(ht:t.dummies=#[])(ha:Nat->Int)(h:Int):∀(fuel:Nat) (p:SetTable.Probe) (j:Nat) (d:Option Nat),p.dummy=none->SetTable.probe.go t ha h fuel p=some (.empty j d)->d=none/\t.slot j= .empty
 |0,p,j,d,_,e=>by unfold SetTable.probe.go at e;cases e
 |fuel+1,p,j,d,hp,e=>by
  unfold SetTable.probe.go at e
  have adv:(t.advance p).dummy=none:=by
   unfold SetTable.advance
   split
   ·exact hp
   ·exact hp
  cases z:t.slot p.j with
  |empty=>
   rw[z]at e
   cases e
   exact⟨hp,z⟩
  |dummy=>
   exfalso
   unfold SetTable.slot at z
   dsimp only at z
   rw[ht,has_none]at z
   split at z
   ·cases z
   ·simp at z
  |live i=>
   rw[z]at e
   dsimp only at e
   split at e
   ·cases e
   ·exact xZ ht ha h fuel _ j d adv e
theorem Ba(n:Nat):nH (Array.range n):=by
 unfold nH
 rw[Array.toList_range]
 exact Vb
theorem iH{b:Bool}{t:SetTable}(h:TabOk b t)(n:Nat):TabOk b (t.standIn n):=⟨Ba n,rfl,h.led⟩
theorem Kf{b:Bool}{t:SetTable}(h:TabOk b t)(es:Array (Int×Value))(hh:Int)(x:Value):TabOk b (layNew t es hh x).2.1:=by
 unfold layNew
 cases z:t.freeSlot hh with
 |none=>exact iH h _
 |some q=>
  obtain⟨slot,was⟩:=q
  have emp:t.slot slot= .empty:=by
   unfold SetTable.freeSlot SetTable.probe at z
   cases y:SetTable.probe.go t (fun _=>hh+1) hh (10*SetTable.turns t.mask) (t.probeStart hh)with
   |none=>rw[y]at z;cases z
   |some m=>
    rw[y]at z
    cases m with
    |candidate _ _ _=>cases z
    |empty j d=>
     obtain⟨rfl,e⟩:=xZ h.nod _ _ _ _ _ _ rfl y
     cases z
     exact e
  have Jz:TabOk b (t.put slot).1:=by
   refine⟨yH h.rise (Ah emp),?_,h.led⟩
   show(if SetTable.has t.dummies slot then _ else t.dummies)=#[]
   rw[h.nod,has_none]
   rfl
  dsimp only
  unfold SetTable.orStandIn
  split
  ·exact Jz
  ·exact iH Jz _
theorem Ox{mask finger moves:Nat}{b plain:Bool}{hs:Array Int}{t':SetTable}{order:Array Nat}(e:SetTable.laid mask finger moves b plain hs=some (t',order)):TabOk b t':=by
 unfold SetTable.laid at e
 cases z:SetTable.layClean mask hs with
 |none=>rw[z]at e;cases e
 |some owner=>
  rw[z]at e
  cases e
  refine⟨?_,rfl,rfl⟩
  unfold nH
  show(((List.range (mask+1)).filterMap fun j=>(owner.getD j none).map (j, ·)).map (·.1)).Pairwise (· < ·)
  rw[List.map_filterMap]
  refine List.Pairwise.filterMap _ (R:=(· < ·)) (fun a a' aaM c hc c' hc'=> ?_) Vb
  cases y:owner.getD a none with
  |none=>simp[y]at hc
  |some k=>
   cases y':owner.getD a' none with
   |none=>simp[y']at hc'
   |some k'=>
    simp[y]at hc
    simp[y']at hc'
    omega
theorem xX{b:Bool}{t:SetTable}(h:TabOk b t)(es:Array (Int×Value))(wanted:Nat):TabOk b (relayAll t es wanted).2.1:=by
 unfold relayAll
 cases z:t.relaid (es.map (·.1)) wanted with
 |none=>exact iH h _
 |some q=>
  obtain⟨t',order⟩:=q
  dsimp only
  split
  ·unfold SetTable.relaid at z
   have:=Ox z
   rw[h.led]at this
   exact this
  ·exact iH h _
theorem nu(b:Bool):TabOk b (.fresh 0 0 b):=⟨.nil,rfl,rfl⟩
theorem kY{b:Bool}{t:SetTable}(h:TabOk b t):TabOk b {t with plain:=false}:=⟨h.rise,h.nod,h.led⟩
end L2
namespace PySem
namespace F
theorem aL:Slot "set_iterator" "__next__" "set_iterator.__next__":=
 .of (owner:="set_iterator") (n:="__next__") (by rw[typeLookup_type,builtinLookup_eq_fast];kernel_rfl) (by decide+kernel) (by decide+kernel) (by decide+kernel)
  (by first |exact .inl (by decide+kernel)|exact .inr (by decide+kernel)) (by rw[isSubtype_type];kernel_rfl)
theorem kh:Slot "set_iterator" "__iter__" "set_iterator.__iter__":=
 .of (owner:="set_iterator") (n:="__iter__") (by rw[typeLookup_type,builtinLookup_eq_fast];kernel_rfl) (by decide+kernel) (by decide+kernel) (by decide+kernel)
  (by first |exact .inl (by decide+kernel)|exact .inr (by decide+kernel)) (by rw[isSubtype_type];kernel_rfl)
theorem dF:entryFor table "set_iterator.__next__"=some Builtin.«set_iterator.__next__»:=entryFor_of_tree (by kernel_rfl)
theorem rD:entryFor table "set_iterator.__iter__"=some Builtin.«dict_keyiterator.__iter__»:=
 entryFor_alias (id':="dict_keyiterator.__iter__") (by kernel_rfl) rfl (by decide+kernel) (by kernel_rfl)
theorem pN:entryFor table "set.__iter__"=some Builtin.«frozenset.__iter__»:=
 entryFor_alias (id':="frozenset.__iter__") (by kernel_rfl) rfl (by decide+kernel) (by kernel_rfl)
theorem dY(a:Value):argsOk "set_iterator.__next__" ⟨[a],[]⟩:=by
 unfold argsOk;kernel_rfl
theorem sZ(a:Value):argsOk "set_iterator.__iter__" ⟨[a],[]⟩:=by
 unfold argsOk;kernel_rfl
end F
end PySem
namespace PySem
open L2 (TabOk nH)
theorem lE{α:Type}:∀(l:List α) (i:Nat) (x:α),l[i]? =some x->(x::l.eraseIdx i).Perm l
 |[],i,x,h=>by cases i<;>cases h
 |y::l,0,x,h=>by cases h;exact .refl _
 |y::l,i+1,x,h=>(List.Perm.swap y x _).trans ((lE l i x h).cons y)
theorem DQ{α:Type}(next:Nat->Nat):∀(fuel k:Nat) (left:List α) (out:Array α),left.length=fuel->(pickOrder.go next fuel k left out).toList.Perm (out.toList++left)
 |0,k,left,out,h=>by
  rw[wdr h]
  unfold pickOrder.go
  rw[sE]
 |fuel+1,k,left,out,h=>by
  unfold pickOrder.go
  have lt:next k %left.length<left.length:=Nat.mod_lt _ (by omega)
  rw[gn lt]
  dsimp only
  refine(DQ next fuel (k+1) _ _ (by rw[List.length_eraseIdx,au lt];omega)).trans ?_
  rw[Array.toList_push,MK]
  exact List.Perm.append_left _ (lE left _ _ (gn lt))
theorem jT{α:Type}(next:Nat->Nat)(xs:Array α):(pickOrder next xs).toList.Perm xs.toList:=by
 unfold pickOrder
 have:=DQ next xs.size 0 xs.toList #[] (by simp)
 simpa using this
section
variable{prog:Program}{w:World}{A:Around}{E:Value->Shared->Prop}{s:Shared}
theorem uJ{src:Source}{n:Nat}{Q:Nat->Shared->Prop}(hn:n≠0)(h:∀i d,i<n->Q i {s with drawn:=d}):wpAny (model prog w) A (choose src n) Q E s:=fun Γ p _=>by
 unfold choose
 rw[Sem.wp_choose]
 refine⟨hn,?_⟩
 rw[Sem.wp_pure]
 exact h _ _ (Nat.mod_lt _ (Nat.pos_of_ne_zero hn))
theorem eV{α:Type}:∀(n:Nat) (xs:List α) {s:Shared} {Q:List α->Shared->Prop},xs.length=n->(∀ys d,ys.Perm xs->Q ys {s with drawn:=d})->wpAny (model prog w) A (drawOrder n xs) Q E s
 |0,xs,s,Q,h,q=>by
  have:=q [] s.drawn (by rw[wdr h])
  unfold drawOrder
  exact aF this
 |n+1,[],s,Q,h,q=>by cases h
 |n+1,x::xs,s,Q,h,q=>by
  unfold drawOrder
  refine ak (uJ (by simp) fun i d hi=> ?_)
  rw[gn hi]
  dsimp only
  refine ak (eV n ((x::xs).eraseIdx i) (by rw[List.length_eraseIdx,au hi];omega) fun ys d' hp=>aF ?_)
  exact q _ d' ((hp.cons _).trans (lE _ i _ (gn hi)))
structure aV(w:World)(h:Heap)(d:Addr)(es:Array (Int×Value))(ep:Nat)(t:SetTable):Prop where
 ob:∃o,h.get? d=some o/\o.ExactSet/\o.data= .set es ep t
 fits:t.fits es.size=true
 tab:TabOk (!w.params.followText "set-order") t
theorem aV.at{h h':Heap}{d:Addr}{es:Array (Int×Value)}{ep:Nat}{t:SetTable}(S:aV w h d es ep t)(e:∀o,h.get? d=some o->h'.get? d=some o):aV w h' d es ep t:=
 let⟨o,ho,r⟩:=S.ob;⟨⟨o,e _ ho,r⟩,S.fits,S.tab⟩
theorem aV.typeIs{d:Addr}{es:Array (Int×Value)}{ep:Nat}{t:SetTable}(S:aV w s.heap d es ep t):s.TypeIs (.ref d) "set":=let⟨o,ho,hx,_⟩:=S.ob;⟨o,ho,hx.1⟩
theorem aV.state{d:Addr}{es:Array (Int×Value)}{ep:Nat}{t:SetTable}{Q:(Array (Int×Value)×Nat×SetTable)->Shared->Prop}(S:aV w s.heap d es ep t)(q:Q (es,ep,t) s):wpAny (model prog w) A (setState d) Q E s:=let⟨o,ho,hx,hd⟩:=S.ob;wdj ho hd S.fits q
theorem Rk{Q:Bool->Shared->Prop}(q:Q (w.params.followText "set-order") s):wpAny (model prog w) A setsByText Q E s:=by
 unfold setsByText
 exact ak (wds (aF q))
def bF(t:SetTable)(i:Nat):Nat:=if i=0 then 0 else t.place.getD (i-1) 0+1
theorem rK{b:Bool}{t:SetTable}(ht:TabOk b t){i:Nat}(hi:i<=t.place.size):SetTable.below t.place (bF t i)=i:=by
 obtain⟨b1,b2,b3⟩:=L2.zu ht.rise (bF t i)
 have lo:i<=SetTable.below t.place (bF t i):=by
  refine wdp fun c=> ?_
  have hs:i-1<t.place.size:=by omega
  have z:=b3 (i-1) hs (by omega)
  have e:bF t i=t.place.toList[i-1]'(by simpa using hs)+1:=by
   unfold bF
   rw[ao (by omega),L2.getD_at hs]
  omega
 have hi':SetTable.below t.place (bF t i)<=i:=by
  refine wdp fun c=> ?_
  have hs:i<t.place.size:=by omega
  have z:=b2 i hs c
  by_cases c0:i=0
  ·subst c0
   unfold bF at z
   rw[au rfl]at z
   omega
  ·have e:bF t i=t.place.toList[i-1]'(by simp;omega)+1:=by
    unfold bF
    rw[ao c0,L2.getD_at (by omega)]
   have:=ht.rise.at hs (show i-1<i by omega)
   omega
 omega
theorem Gk{d:Addr}{es:Array (Int×Value)}{ep:Nat}{t:SetTable}{i:Nat}{Q:Option (Value×Nat)->Shared->Prop}(S:aV w s.heap d es ep t)(hb:w.params.followText "set-order"=false)(hd:(!t.plain&&decide (es.size>1))=false)(hi:i<=es.size)(q:Q ((es[i]?).map fun e=>(e.2,bF t (i+1))) s):wpAny (model prog w) A (setNext d (bF t i) i ep) Q E s:=by
 have ps:t.place.size=es.size:=by have:=S.fits;unfold SetTable.fits at this;simp at this;exact this.1
 have led:t.led=true:=by rw[S.tab.led,hb];rfl
 unfold setNext
 refine ak (S.state (ak (Rk ?_)))
 rw[hb]
 dsimp only
 refine pq (fun hab=>absurd hab (by decide)) fun _=> ?_
 refine pq (fun hab=> ?_) fun _=> ?_
 ·have hab:(!t.plain&&decide (es.size>1))=true:=hab
  rw[hd]at hab;cases hab
 refine ak ?_
 show wpAny _ _ (if(!t.led&& !es.isEmpty)=true then _ else _) _ _ _
 rw[led]
 refine pq (fun hab=>absurd hab (by simp)) fun _=> ?_
 refine aF ?_
 refine aF ?_
 rw[rK S.tab (by omega)]
 by_cases c:i<es.size
 ·rw[Ql c]at q⊢
  rw[Ql (by omega:i<t.place.size)]
  have e:bF t (i+1)=t.place[i]+1:=by
   unfold bF
   rw[ao (by omega),weq]
   simp[Array.getD,(by omega:i<t.place.size)]
  rw[e]at q
  exact q
 ·rw[wgb (by omega)]at q⊢
  exact q
theorem Gj{d:Addr}{es:Array (Int×Value)}{ep:Nat}{t:SetTable}{i slot:Nat}{Q:Option (Value×Nat)->Shared->Prop}(S:aV w s.heap d es ep t)(hb:w.params.followText "set-order"=true)(q:Q (((pickOrder (w.params.setOrder d ep) es)[i]?).map fun e=>(e.2,slot)) s):wpAny (model prog w) A (setNext d slot i ep) Q E s:=by
 unfold setNext
 refine ak (S.state (ak (Rk ?_)))
 rw[hb]
 dsimp only
 refine pq (fun _=> ?_) fun hab=>absurd rfl hab
 refine pq (fun hab=> ?_) fun _=> ?_
 ·simp at hab
 refine ak ?_
 unfold setWalk
 refine ak (S.state (ak (Rk ?_)))
 rw[hb]
 refine pq (fun _=> ?_) fun hab=>absurd rfl hab
 refine ak (wds ?_)
 exact aF (aF q)
def bf(h:Heap)(I d:Addr)(first:Value)(i n ep:Nat):Prop:=∃o,h.get? I=some o/\o.cls= .type "set_iterator"/\o.data= .fields #[first,.int i 0,.ref d,.int n 0,.int ep 0]
theorem bf.at{h h':Heap}{I d:Addr}{first:Value}{i n ep:Nat}(x:bf h I d first i n ep)(e:∀o,h.get? I=some o->h'.get? I=some o):bf h' I d first i n ep:=let⟨o,ho,r⟩:=x;⟨o,e _ ho,r⟩
theorem bf.typeIs{I d:Addr}{first:Value}{i n ep:Nat}(x:bf s.heap I d first i n ep):s.TypeIs (.ref I) "set_iterator":=let⟨o,ho,hc,_⟩:=x;⟨o,ho,hc⟩
theorem mj{I d:Addr}{first:Value}{i n ep:Nat}{Q:Value->Shared->Prop}(hit:bf s.heap I d first i n ep)(h:Q (.ref I) s):wpAny (model prog w) A (pyIter (.ref I)) Q E s:=by
 refine wpAny_pyIter_slot hit.typeIs F.kh (Dd F.kh hit.typeIs F.rD ?_ (F.sZ _))
 show wpAny _ _ (ret (.ref I)) _ _ s
 exact aF ⟨_,rfl,"set_iterator",_,hit.typeIs,F.aL.lookup,h⟩
theorem aV.entries{d:Addr}{es:Array (Int×Value)}{ep:Nat}{t:SetTable}{Q:Array (Int×Value)->Shared->Prop}(S:aV w s.heap d es ep t)(q:Q es s):wpAny (model prog w) A (setEntries d) Q E s:=by
 unfold setEntries
 exact ak (S.state (aF q))
theorem uR{I d:Addr}{es:Array (Int×Value)}{ep:Nat}{t:SetTable}{i sl sl':Nat}{x:Value}{Q:Option Value->Shared->Prop}(hit:bf s.heap I d (.int sl 0) i es.size ep)(S:aV w s.heap d es ep t)(hne:d≠I)(hnext:∀(Q':Option (Value×Nat)->Shared->Prop) (E':Value->Shared->Prop),Q' (some (x,sl')) s->wpAny (model prog w) A.in1 (setNext d sl i ep) Q' E' s)(hQ:∀h',bf h' I d (.int sl' 0) (i+1) es.size ep->Heap.SameBut I s.heap h'->Q (some x) {s with heap:=h'}):wpAny (model prog w) A (pyNext (.ref I)) Q E s:=by
 obtain⟨o,ho,hc,hd⟩:=id hit
 unfold pyNext
 refine ak (ZX (Qv (name:=Str.ofString "__next__") hit.typeIs F.aL (Dd F.aL hit.typeIs F.dF ?_ (F.dY _))))
 unfold Builtin.«set_iterator.__next__»
 refine ak (aF ?_)
 refine ak (wev ho hd ?_)
 refine ak (S.entries ?_)
 refine pq (fun hab=>absurd hab (by simp)) fun _=> ?_
 refine ak ?_
 rw[zQ,zQ,zQ]
 refine hnext _ _ ?_
 refine ak (Qt ho hd (by simp) ?_)
 have ho1:=Qk (Obj.mapFields (·.setIfInBounds 0 (rawInt (sl':Int)))) ho (WM (Ms hd _))
 have hd1:=Ms hd (·.setIfInBounds 0 (rawInt (sl':Int)))
 refine ak (Qt ho1 hd1 (by simp) ?_)
 refine aF ⟨_,rfl,aF (hQ _ ⟨_,Qk _ ho1 (WM (Ms hd1 _)),(wdh ..).trans ((wdh ..).trans hc),by rw[Ms hd1];simp[rawInt]⟩ ((wY ..).trans (wY ..)))⟩
theorem xU{I d:Addr}{es:Array (Int×Value)}{ep:Nat}{t:SetTable}{i sl:Nat}{Q:Option Value->Shared->Prop}(hh:A.handled=none)(hit:bf s.heap I d (.int sl 0) i es.size ep)(S:aV w s.heap d es ep t)(hne:d≠I)(hnext:∀(Q':Option (Value×Nat)->Shared->Prop) (E':Value->Shared->Prop),Q' none s->wpAny (model prog w) A.in1 (setNext d sl i ep) Q' E' s)(hQ:∀h',Heap.ExtBut I s.heap h'->Q none {s with heap:=h'}):wpAny (model prog w) A (pyNext (.ref I)) Q E s:=by
 obtain⟨o,ho,hc,hd⟩:=id hit
 unfold pyNext
 refine ak (ZX (Qv (name:=Str.ofString "__next__") hit.typeIs F.aL (Dd F.aL hit.typeIs F.dF ?_ (F.dY _))))
 unfold Builtin.«set_iterator.__next__»
 refine ak (aF ?_)
 refine ak (wev ho hd ?_)
 refine ak (S.entries ?_)
 refine pq (fun hab=>absurd hab (by simp)) fun _=> ?_
 refine ak ?_
 rw[zQ,zQ,zQ]
 refine hnext _ _ ?_
 refine ak (Qt ho hd (by simp) ?_)
 show wpAny _ _ (newExc (.type "StopIteration") []>>=_) _ _ _
 refine ak ?_
 simp only[newExc,newTuple]
 refine ak (wK ?_ (by size_fits))
 refine ak (m:=firstArgMember _ _) (Wo (a:=Value.none) (by first |rfl|(simp only[firstArgMember];rfl)) ?_)
 refine wK ?_ (by size_fits)
 simp only[raiseNew]
 refine ak (wpAny_handled ?_)
 rw[show A.in1.handled=none from hh]
 refine ak (aF (wpAny_throw ?_))
 refine ak (Vk (T:="StopIteration") (b:=true) ⟨_,gB _ rfl,rfl⟩ isSubtype_stop ?_)
 exact aF (hQ _ (((wY ..).extBut.push _).push _))
theorem Walks.setInt(hh:A.handled=none)(I d:Addr)(hne:d≠I)(es:Array (Int×Value))(ep:Nat)(t:SetTable)(L:List Value)(hL:L.length=es.size)(slot:Nat->Nat)(hnext:∀(i:Nat) (s:Shared) (Q':Option (Value×Nat)->Shared->Prop) (E':Value->Shared->Prop),i<=es.size->aV w s.heap d es ep t->Q' ((L[i]?).map fun x=>(x,slot (i+1))) s->wpAny (model prog w) A.in1 (setNext d (slot i) i ep) Q' E' s):
  Walks prog w A I [I,d] [I] es.size (fun i v=>L[i]? =some v) (fun i h=>bf h I d (.int (slot i) 0) i es.size ep/\aV w h d es ep t) where
 sub:=fun b hb=>by simp at hb;simp[hb]
 frame:=fun _ _ _ st hk=>⟨st.1.at fun o e=>hk I (by simp) o e,st.2.at fun o e=>hk d (by simp) o e⟩
 item:=fun i s Q E hi st hQ=>by
  obtain⟨x,hx⟩:∃x,L[i]? =some x:=⟨L[i],by simp[hL,hi]⟩
  refine uR (t:=t) (x:=x) (sl':=slot (i+1)) st.1 st.2 hne (fun Q' E' q=>hnext i s Q' E' (by omega) st.2 (by rw[hx];exact q)) fun h' hit' hs'=> ?_
  exact hQ x h' s.toks hx ⟨hit',st.2.at fun o e=>hs'.extBut d o hne e⟩ fun b o hb e=>hs'.extBut b o (fun h=>hb (by simp[h])) e
 done:=fun s Q E st hQ=>xU hh st.1 st.2 hne (fun Q' E' q=>hnext _ s Q' E' (aH _) st.2 (by rw[Mp (by omega)];exact q)) fun h' he'=>hQ h' s.toks fun b o hb e=>he' b o (fun h=>hb (by simp[h])) e
 self:=fun _ _ _ _ st hQ=>mj st.1 hQ
theorem jq{T:Addr}{its:Array Value}{Q:Option (Array Value)->Shared->Prop}(h:s.heap.IsTuple T its)(q:Q (some its) s):wpAny (model prog w) A (seqItems? (.ref T)) Q E s:=by
 obtain⟨o,ho,hc,n,hd⟩:=h
 unfold seqItems?
 dsimp only
 refine ak (Wm ho ?_)
 rw[hd]
 exact aF q
theorem sU{I d T:Addr}{es:Array (Int×Value)}{ep:Nat}{t:SetTable}{i p:Nat}{x:Int×Value}{its:Array Value}{Q:Option Value->Shared->Prop}(hit:bf s.heap I d (.ref T) i es.size ep)(S:aV w s.heap d es ep t)(hT:s.heap.IsTuple T its)(hp:its[i]? =some (.int p 0))(hx:es[p]? =some x)(hQ:∀h',bf h' I d (.ref T) (i+1) es.size ep->Heap.SameBut I s.heap h'->Q (some x.2) {s with heap:=h'}):wpAny (model prog w) A (pyNext (.ref I)) Q E s:=by
 obtain⟨o,ho,hc,hd⟩:=id hit
 unfold pyNext
 refine ak (ZX (Qv (name:=Str.ofString "__next__") hit.typeIs F.aL (Dd F.aL hit.typeIs F.dF ?_ (F.dY _))))
 unfold Builtin.«set_iterator.__next__»
 refine ak (aF ?_)
 refine ak (wev ho hd ?_)
 refine ak (S.entries ?_)
 refine pq (fun hab=>absurd hab (by simp)) fun _=> ?_
 refine ak (jq hT ?_)
 dsimp only
 rw[zQ,hp]
 dsimp only
 refine ak ?_
 unfold setNextDrawn
 refine ak (S.state ?_)
 refine pq (fun hab=>absurd hab (by simp)) fun _=> ?_
 rw[zQ,hx]
 refine aF ?_
 refine ak (Qt ho hd (by simp) ?_)
 refine aF ⟨_,rfl,aF (hQ _ ⟨_,Qk _ ho (WM (Ms hd _)),(wdh ..).trans hc,by rw[Ms hd];simp[rawInt]⟩ (wY ..))⟩
theorem uT{I d T:Addr}{es:Array (Int×Value)}{ep:Nat}{t:SetTable}{i:Nat}{its:Array Value}{Q:Option Value->Shared->Prop}(hh:A.handled=none)(hit:bf s.heap I d (.ref T) i es.size ep)(S:aV w s.heap d es ep t)(hT:s.heap.IsTuple T its)(hp:its[i]? =none)(hQ:∀h',Heap.ExtBut I s.heap h'->Q none {s with heap:=h'}):wpAny (model prog w) A (pyNext (.ref I)) Q E s:=by
 obtain⟨o,ho,hc,hd⟩:=id hit
 unfold pyNext
 refine ak (ZX (Qv (name:=Str.ofString "__next__") hit.typeIs F.aL (Dd F.aL hit.typeIs F.dF ?_ (F.dY _))))
 unfold Builtin.«set_iterator.__next__»
 refine ak (aF ?_)
 refine ak (wev ho hd ?_)
 refine ak (S.entries ?_)
 refine pq (fun hab=>absurd hab (by simp)) fun _=> ?_
 refine ak (jq hT ?_)
 dsimp only
 rw[zQ,hp]
 dsimp only
 refine ak (Qt ho hd (by simp) ?_)
 have ho1:=Qk (Obj.mapFields (·.setIfInBounds 0 (rawInt 0))) ho (WM (Ms hd _))
 have hd1:=Ms hd (·.setIfInBounds 0 (rawInt 0))
 refine ak (Qt ho1 hd1 (by simp) ?_)
 show wpAny _ _ (newExc (.type "StopIteration") []>>=_) _ _ _
 refine ak ?_
 simp only[newExc,newTuple]
 refine ak (wK ?_ (by size_fits))
 refine ak (m:=firstArgMember _ _) (Wo (a:=Value.none) (by first |rfl|(simp only[firstArgMember];rfl)) ?_)
 refine wK ?_ (by size_fits)
 simp only[raiseNew]
 refine ak (wpAny_handled ?_)
 rw[show A.in1.handled=none from hh]
 refine ak (aF (wpAny_throw ?_))
 refine ak (Vk (T:="StopIteration") (b:=true) ⟨_,gB _ rfl,rfl⟩ isSubtype_stop ?_)
 exact aF (hQ _ ((((wY ..).trans (wY ..)).extBut.push _).push _))
theorem Walks.setRef(hh:A.handled=none)(I d T:Addr)(hne:d≠I)(hTI:T≠I)(es:Array (Int×Value))(ep:Nat)(t:SetTable)(ps:List Nat)(hps:ps.Perm (List.range es.size)):
  Walks prog w A I [I,d,T] [I] es.size (fun i v=>∃p x,ps[i]? =some p/\es[p]? =some x/\v=x.2) (fun i h=>bf h I d (.ref T) i es.size ep/\aV w h d es ep t/\h.IsTuple T (ps.map fun(p:Nat)=>Value.int p 0).toArray) where
 sub:=fun b hb=>by simp at hb;simp[hb]
 frame:=fun _ _ _ st hk=>⟨st.1.at fun o e=>hk I (by simp) o e,st.2.1.at fun o e=>hk d (by simp) o e,let⟨o,ho,r⟩:=st.2.2;⟨o,hk T (by simp) o ho,r⟩⟩
 item:=fun i s Q E hi st hQ=>by
  have hl:ps.length=es.size:=by rw[hps.length_eq,sJ]
  obtain⟨p,hp⟩:∃p,ps[i]? =some p:=⟨ps[i],by simp[hl,hi]⟩
  have hlt:p<es.size:=sI.mp (hps.mem_iff.mp (lX hp))
  refine sU (t:=t) (p:=p) (x:=es[p]) st.1 st.2.1 st.2.2 (by simp[hp]) (Ql hlt) fun h' hit' hs'=> ?_
  exact hQ _ h' s.toks ⟨p,_,hp,Ql hlt,rfl⟩ ⟨hit',st.2.1.at fun o e=>hs'.extBut d o hne e,let⟨o,ho,r⟩:=st.2.2;⟨o,hs'.extBut T o hTI ho,r⟩⟩ fun b o hb e=>hs'.extBut b o (fun h=>hb (by simp[h])) e
 done:=fun s Q E st hQ=>uT hh st.1 st.2.1 st.2.2 (by simp[hps.length_eq]) fun h' he'=>hQ h' s.toks fun b o hb e=>he' b o (fun h=>hb (by simp[h])) e
 self:=fun _ _ _ _ st hQ=>mj st.1 hQ
end
section
variable{prog:Program}{w:World}{A:Around}{E:Value->Shared->Prop}{s:Shared}
def Fe(first:Value)(d:Addr)(n ep:Nat):Obj:={cls:= .type "set_iterator",dict:=none,data:= .fields #[first,.int 0 0,.ref d,.int n 0,.int ep 0]}
def m5(ps:List Nat):Obj:={cls:= .type "tuple",dict:=none,data:= .seq (ps.map fun(p:Nat)=>Value.int p 0).toArray}
theorem aV.push{h:Heap}{d:Addr}{es:Array (Int×Value)}{ep:Nat}{t:SetTable}(S:aV w h d es ep t)(o:Obj):aV w (h.push o) d es ep t:=S.at fun _ e=>cM _ e
theorem Kh{d:Addr}{es:Array (Int×Value)}{ep:Nat}{t:SetTable}{Q:Value->Shared->Prop}(S:aV w s.heap d es ep t)(hz:es.size<=1000)(hA:(w.params.followText "set-order"=true\/(!t.plain&&decide (es.size>1))=false)->Q (.ref s.heap.objs.size) {s with heap:=s.heap.push (Fe (.int 0 0) d es.size ep)})(hB:∀ps dr,ps.Perm (List.range es.size)->Q (.ref (s.heap.objs.size+1)) {s with heap:=(s.heap.push (m5 ps)).push (Fe (.ref s.heap.objs.size) d es.size ep),drawn:=dr}):
  wpAny (model prog w) A (pyIter (.ref d)) Q E s:=by
 refine wpAny_pyIter_slot S.typeIs F.slot_set_iter (Dd F.slot_set_iter S.typeIs F.pN ?_ (F.args_set_iter_1 _))
 unfold Builtin.«frozenset.__iter__»
 refine ak (aF ?_)
 refine ak ?_
 unfold Builtin.Frozenset.sizeOf
 refine ak (S.entries (aF ?_))
 refine ak ?_
 unfold setDrawn
 refine ak (S.state (ak (Rk (aF ?_))))
 have Q9:∀{s':Shared} {Q':Nat->Shared->Prop} {E':Value->Shared->Prop},aV w s'.heap d es ep t->Q' ep s'->wpAny (model prog w) A.in1 (setEpoch d) Q' E' s':=fun S' q=>by
  unfold setEpoch
  exact ak (S'.state (aF q))
 refine pq (fun hab=> ?_) fun hab=> ?_
 ·refine ak (eV _ _ (by simp) fun ps dr hp=> ?_)
  refine ak ?_
  simp only[newTuple]
  refine wK ?_ (show(ps.map fun(i:Nat)=>rawInt (i:Int)).toArray.size<=sizeLine from by
   have:=hp.length_eq
   rw[sJ]at this
   rw[eU,aG,fM];omega)
  refine ak (Q9 (S.push _) ?_)
  simp only[newFields]
  refine ak (wK ?_ (by size_fits))
  have q:=hB ps dr hp
  refine aF ⟨_,rfl,"set_iterator",_,⟨_,gB _ rfl,rfl⟩,F.aL.lookup,?_⟩
  rw[wH]
  exact q
 ·refine ak (aF ?_)
  refine ak (Q9 S ?_)
  simp only[newFields]
  refine ak (wK ?_ (by size_fits))
  refine aF ⟨_,rfl,"set_iterator",_,⟨_,gB _ rfl,rfl⟩,F.aL.lookup,hA ?_⟩
  have hab:¬(!w.params.followText "set-order"&&(!t.plain&&decide (es.size>1)))=true:=hab
  cases hb:w.params.followText "set-order" with
  |true=>exact .inl rfl
  |false=>rw[hb]at hab;exact .inr (by simpa using hab)
theorem Kp{d:Addr}{es:Array (Int×Value)}{ep:Nat}{t:SetTable}{Q:Bool->Shared->Prop}(S:aV w s.heap d es ep t)(h:Q false s):wpAny (model prog w) A (Builtin.List.listLengthHint (.ref d)) Q E s:=by
 have hT:s.TypeIs (.ref d) "set":=S.typeIs
 unfold Builtin.List.listLengthHint
 refine ak (wpAny_specialOf hT F.slot_set_len.lookup ?_)
 generalize hid:("set.__len__":String)=id0
 wp_delta
 rw[show splitId id0=some ("set","__len__")from by subst hid;decide+kernel]
 subst hid
 refine ak (Vk (T:="set") (b:=true) hT (by rw[isSubtype_type];kernel_rfl) ?_)
 refine pq (fun hab=>absurd hab (by decide)) (fun _=> ?_)
 refine pq (fun _=> ?_) (fun hab=>absurd (by decide+kernel) hab)
 refine ak (Rw hT ?_)
 exact aF h
theorem lC{L:List Value}{acc:Array Value}(h:ItemsOf (fun i v=>L[i]? =some v) acc L.length):acc.toList=L:=by
 refine V8 fun i=> ?_
 by_cases c:i<acc.size
 ·have e:acc.toList[i]? =some acc[i]:=by rw[U9,Ql c]
  rw[e]
  exact(h.2 i _ (by rw[Ql c])).symm
 ·have:=h.1
  rw[Mp (by simpa using c),Mp (by omega)]
theorem jz{α:Type}(xs:Array α){ps:List Nat}(hp:ps.Perm (List.range xs.size)):(ps.filterMap fun p=>xs[p]?).Perm xs.toList:=by
 refine(hp.filterMap _).trans ?_
 have e:(List.range xs.size).filterMap (fun p=>xs[p]?)=xs.toList:=by
  have key:∀(l:List α),(List.range l.length).filterMap (fun p=>l[p]?)=l:=by
   intro l
   induction l with
   |nil=>rfl
   |cons x l ih=>
    rw[qx,List.range_succ_eq_map,Wc,List.filterMap_map]
    show x::(List.range l.length).filterMap (fun p=>l[p]?)=x::l
    rw[ih]
  have:=key xs.toList
  simpa using this
 rw[e]
theorem K3{α:Type}(xs:Array α):∀(pl:List Nat),(∀p∈pl,p<xs.size)->∀i:Nat,(pl.filterMap fun p=>xs[p]?)[i]? =(pl[i]?).bind fun p=>xs[p]?
 |[],_,i=>by simp
 |p::pl,h,i=>by
  have hp:=h p cV
  rw[Wc,Ql hp]
  cases i with
  |zero=>simp[hp]
  |succ i=>simpa using K3 xs pl (fun q hq=>h q (dG _ hq)) i
theorem BR{R:Result->Shared->Prop}{d:Addr}{es:Array (Int×Value)}{ep:Nat}{t:SetTable}(hh:A.handled=none)(S:aV w s.heap d es ep t)(hz:es.size<=1000)(l:Addr)(res:Value)(c₀:Nat)(hl:s.heap.get? l=some {cls:= .type "list",data:= .seq #[] c₀})(hR:∀h' tk dr acc' c',(∀b o,b≠l->s.heap.get? b=some o->h'.get? b=some o)->h'.get? l=some {cls:= .type "list",dict:=none,data:= .seq acc' c',slots:=#[]}->
   acc'.toList.Perm (es.toList.map (·.2))->R (.ok (.ret res)) {s with heap:=h',toks:=tk,drawn:=dr}):
  wpAny (model prog w) A.in1 (Builtin.List.listExtendWith (.ref l) (.ref d) res)
   (fun fin s'=>match fin with | .done f=>R (.ok f) s'| .again c'=>c'.quiet=true/\codeAny (model prog w) A c' R s') (fun e s'=>R (.error e) s') s:=by
 obtain⟨od,ho,hx,hdat⟩:=S.ob
 have hld:l≠d:=fun e=>by
  rw[e,ho]at hl
  cases hl
  cases hdat
 have Ko:l<s.heap.objs.size:=cA hl
 have T8:d<s.heap.objs.size:=cA ho
 have ps:t.place.size=es.size:=by have:=S.fits;unfold SetTable.fits at this;simp at this;exact this.1
 -- from a walk that stands at its start
 have key:∀(h:Heap) (I:Addr) (fp:List Addr) (P:Nat->Value->Prop) (St:Nat->Heap->Prop) (dr:Drawn) (W:Walks prog w A.in1 I fp [I] es.size P St),l∉fp->s.heap.objs.size<=I->(∀acc,ItemsOf P acc es.size->acc.toList.Perm (es.toList.map (·.2)))->
   aV w h d es ep t->(∀b o,s.heap.get? b=some o->h.get? b=some o)->St 0 h->
   wpAny (model prog w) A.in1 (do
     let room<-holding [Value.ref I] (Builtin.List.listLengthHint (.ref d))
     if(room||true)=true then do rule "list.extend.makes-room";Builtin.List.listTouch (.ref l)
     again (.builtin "list.extend.loop" ⟨[.ref l,.ref I,res],[]⟩))
    (fun fin s'=>match fin with | .done f=>R (.ok f) s'| .again c'=>c'.quiet=true/\codeAny (model prog w) A c' R s') (fun e s'=>R (.error e) s') {s with heap:=h,drawn:=dr}:=by
  intro h I fp P St dr W hlf hI hP hS hk st
  have hlI:l≠I:=bQ (gA Ko hI)
  refine ak (uM (Kp (s:={s with heap:=h,drawn:=dr}) hS ?_))
  refine pq (fun _=> ?_) (fun hab=>absurd rfl hab)
  refine ak (MP ?_)
  refine ak ?_
  show wpAny _ _ (updateSeq l (·.push .none)>>=fun _=>updateSeq l (·.pop)) _ _ _
  have hl1:=hk _ _ hl
  refine ak (Wy hl1 rfl ?_)
  have hl2:=Qk (Obj.mapSeq (·.push Value.none)) hl1 rfl
  refine Wy (hz:=by seq_fits) hl2 rfl ?_
  have hl3:=Qk (Obj.mapSeq (·.pop)) hl2 rfl
  have keep:∀b o,b≠l->h.get? b=some o->((h.update l (Obj.mapSeq (·.push Value.none))).update l (Obj.mapSeq (·.pop))).get? b=some o:=fun b o hb e=>(Vc _ _ (jY hb)).trans ((Vc _ _ (jY hb)).trans e)
  have st':=W.frame 0 _ _ st fun b hb o e=>keep b o (fun q=>hlf (q▸hb)) e
  refine aF ⟨Qs F.plain_extend_loop _,?_⟩
  refine codeAny_extend_loopS W.toS (by rw[fM];omega) l hlf res es.size 0 _ #[] _ rfl (cX _) st' hl3 (ItemsOf.nil _) fun s' acc' c' hmv hS' hacc=> ?_
  rw[Moved.eq_with hmv]
  refine hR s'.heap s'.toks dr acc' c' (fun b o hb e=>hmv.heap b o (fun hmem=> ?_) (keep b o hb (hk b o e))) hS' (hP acc' hacc)
  rcases cB.mp hmem with e'|hmem
  ·exact hb e'
  ·have:=cA e
   rw[g8.mp hmem]at this
   exact absurd (gA this hI) (p7 _)
 unfold Builtin.List.listExtendWith
 refine ak (Rw (T:="set") S.typeIs ?_)
 have h1:Builtin.List.listSameRef (.ref l) (.ref d)=false:=by simp[Builtin.List.listSameRef,hld]
 have h2:(Value.type "set"==Value.type "list")=false:=by decide
 have h3:(Value.type "set"==Value.type "tuple")=false:=by decide
 simp only[h1,h2,h3,Bool.or_false,WL,Rt]
 refine ak (Kh S hz (fun hm=> ?_) fun pl dr hp=> ?_)
 ·by_cases hb:w.params.followText "set-order"=true
  ·have W:=Walks.setInt (prog:=prog) (w:=w) (A:=A.in1) hh s.heap.objs.size d (bQ T8) es ep t ((pickOrder (w.params.setOrder d ep) es).toList.map (·.2)) (by rw[aG,(jT _ es).length_eq,sO]) (fun _=>0)
    (fun i s Q' E' _ S' q=>Gj S' hb (by rw[c7,Option.map_map,U9]at q;exact q))
   have k:=key (s.heap.push (Fe (.int 0 0) d es.size ep)) _ _ _ _ s.drawn W (by simp;exact⟨bQ Ko,hld⟩) (aH _) (fun acc ha=>by
     have e:=lC (L:=(pickOrder (w.params.setOrder d ep) es).toList.map (·.2)) (acc:=acc) (by rw[aG,(jT _ es).length_eq,sO];exact ha)
     rw[e]
     exact(jT _ es).map _) (S.push _) (fun b o e=>cM _ e) ⟨⟨_,gB _ rfl,rfl,rfl⟩,S.push _⟩
   exact k
  ·have hb:w.params.followText "set-order"=false:=by simpa using hb
   have hd:(!t.plain&&decide (es.size>1))=false:=hm.resolve_left (by rw[hb];decide)
   have W:=Walks.setInt (prog:=prog) (w:=w) (A:=A.in1) hh s.heap.objs.size d (bQ T8) es ep t (es.toList.map (·.2)) (by simp) (bF t)
    (fun i s Q' E' hi S' q=>Gk S' hb hd hi (by rw[c7,Option.map_map,U9]at q;exact q))
   have k:=key (s.heap.push (Fe (.int 0 0) d es.size ep)) _ _ _ _ s.drawn W (by simp;exact⟨bQ Ko,hld⟩) (aH _) (fun acc ha=>by
     have e:=lC (L:=es.toList.map (·.2)) (acc:=acc) (by rw[aG,sO];exact ha)
     rw[e]) (S.push _) (fun b o e=>cM _ e) ⟨⟨_,gB _ rfl,rfl,rfl⟩,S.push _⟩
   exact k
 ·have W:=Walks.setRef (prog:=prog) (w:=w) (A:=A.in1) hh (s.heap.objs.size+1) d s.heap.objs.size (bQ (lV T8)) (bQ (nQ _)) es ep t pl hp
  have g0:(s.heap.push (m5 pl)).get? s.heap.objs.size=some (m5 pl):=gB _ rfl
  have k:=key ((s.heap.push (m5 pl)).push (Fe (.ref s.heap.objs.size) d es.size ep)) _ _ _ _ dr W (by simp;exact⟨bQ (lV Ko),hld,bQ Ko⟩) (wD _) (fun acc ha=>by
    have hl':pl.length=es.size:=by rw[hp.length_eq,sJ]
    have e:acc.toList=(pl.filterMap fun p=>es[p]?).map (·.2):=by
     have ll:((pl.filterMap fun p=>es[p]?).map (·.2)).length=es.size:=by rw[aG,(jz es hp).length_eq,sO]
     refine lC (L:=(pl.filterMap fun p=>es[p]?).map (·.2)) ?_
     rw[ll]
     refine⟨ha.1,fun i v hv=> ?_⟩
     obtain⟨p,x,q1,q2,rfl⟩:=ha.2 i v hv
     rw[c7,K3 es pl (fun p hp'=>sI.mp (hp.mem_iff.mp hp')),q1]
     show(es[p]?).map _=_
     rw[q2];rfl
    rw[e]
    exact(jz es hp).map _) ((S.push _).push _) (fun b o e=>cM _ (cM _ e))
    ⟨⟨Fe (.ref s.heap.objs.size) d es.size ep,by rw[<-wH s.heap (m5 pl)];exact gB _ rfl,rfl,rfl⟩,(S.push _).push _,⟨_,cM _ g0,rfl,_,rfl⟩⟩
  exact k
end
end PySem
namespace PySem
open L2 (TabOk nH Kf xX kY)
section
variable{prog:Program}{w:World}{A:Around}{E:Value->Shared->Prop}{s:Shared}
def aX(prog:Program)(w:World)(h:Heap)(d:Addr)(S:Int->Bool)(n:Nat):Prop:=
 ∃o es ep t,h.get? d=some o/\o.ExactSet/\o.data= .set es ep t/\ElemsOf (intKind prog w) es.toList/\(∀k,S k=true↔∃e∈es.toList,(intKind prog w).is k e.2=true)/\es.size<scanBound/\t.fits es.size=true/\es.size=n/\TabOk (!w.params.followText "set-order") t
theorem aX.at{h h':Heap}{d:Addr}{S:Int->Bool}{n:Nat}(g:aX prog w h d S n)(e:∀o,h.get? d=some o->h'.get? d=some o):aX prog w h' d S n:=let⟨o,es,ep,t,ho,r⟩:=g;⟨o,es,ep,t,e _ ho,r⟩
theorem aX.congr{h:Heap}{d:Addr}{S S':Int->Bool}{n n':Nat}(g:aX prog w h d S n)(e:∀k,S k=S' k)(en:n=n'):aX prog w h d S' n':=by
 have:S=S':=funext e
 subst this;subst en;exact g
theorem aX.store{h:Heap}{d:Addr}{o:Obj}{es:Array (Int×Value)}{ep:Nat}{t:SetTable}(ho:h.get? d=some o)(hx:o.ExactSet)(hd:o.data= .set es ep t)
  {es':Array (Int×Value)}{t':SetTable}{S:Int->Bool}(el:ElemsOf (intKind prog w) es'.toList)(mem:∀k,S k=true↔∃e∈es'.toList,(intKind prog w).is k e.2=true)(lt:es'.size<scanBound)(ft:t'.fits es'.size=true)(tb:TabOk (!w.params.followText "set-order") t'):
  (h.update d (Obj.putSet es' t')).get? d=some {o with data:= .set es' (ep+1) t'}/\aX prog w (h.update d (Obj.putSet es' t')) d S es'.size:=by
 obtain⟨g,_⟩:=SetOf_store (knd:=intKind prog w) ho hx hd el mem lt ft
 exact⟨g,_,es',ep+1,t',g,hx,rfl,el,mem,lt,ft,rfl,tb⟩
theorem Dj{gw:Bool->Sem Unit}(hg:∀(b:Bool) (s₁:Shared) (Q':Unit->Shared->Prop),Q' () s₁->wpAny (model prog w) A (gw b) Q' E s₁){d:Addr}{o:Obj}{es:Array (Int×Value)}{ep:Nat}{t:SetTable}(ho:s.heap.get? d=some o)(hx:o.ExactSet)(hd:o.data= .set es ep t){es1:Array (Int×Value)}{t1:SetTable}{S:Int->Bool}(el:ElemsOf (intKind prog w) es1.toList)(mem:∀k,S k=true↔∃e∈es1.toList,(intKind prog w).is k e.2=true)(lt:es1.size<scanBound)(ft:t1.fits es1.size=true)(tb:TabOk (!w.params.followText "set-order") t1){was:Bool}{R:Option Bool->Shared->Prop}(q:∀h',Heap.SameBut d s.heap h'->aX prog w h' d S es1.size->R (some true) {s with heap:=h'}):
  wpAny (model prog w) A (do
    storeSet d es1 t1
    if(!was&&t1.tooFull)=true then do
      gw (relayAll t1 es1 (SetTable.grown es1.size)).2.2
      storeSet d (relayAll t1 es1 (SetTable.grown es1.size)).1 (relayAll t1 es1 (SetTable.grown es1.size)).2.1
      pure (some true)
     else pure (some true)) R E s:=by
 refine ak (wff ho hd ?_ (wfg lt))
 obtain⟨g1,G1⟩:=aX.store (prog:=prog) (w:=w) ho hx hd el mem lt ft tb
 have b1:=wY s.heap d (Obj.putSet es1 t1)
 refine pq (fun _=> ?_) fun _=>aF (q _ b1 G1)
 have pm:=relayAll_perm t1 es1 (SetTable.grown es1.size)
 have ff:=relayAll_fits t1 es1 (SetTable.grown es1.size)
 have tt:=xX tb es1 (SetTable.grown es1.size)
 generalize relayAll t1 es1 (SetTable.grown es1.size)=r at pm ff tt⊢
 obtain⟨es2,t2,gv⟩:=r
 dsimp only at pm ff tt⊢
 have sz:es2.size=es1.size:=by rw[<-sO,pm.length_eq,sO]
 refine ak (hg _ _ _ (ak (wff g1 rfl ?_ (wfg (by rw[sz];exact lt)))))
 obtain⟨_,G2⟩:=aX.store (prog:=prog) (w:=w) (S:=S) g1 hx rfl (el.perm pm) (fun k=>(mem k).trans ⟨fun⟨e,he,z⟩=>⟨e,pm.mem_iff.mpr he,z⟩,fun⟨e,he,z⟩=>⟨e,pm.mem_iff.mp he,z⟩⟩) (by rw[sz];exact lt) ff tt
 rw[sz]at G2
 exact aF (q _ (b1.trans (wY _ d _)) G2)
theorem Lh{d:Addr}{S:Int->Bool}{n:Nat}{k:Int}{x:Value}{Q:Bool->Shared->Prop}(hk:(intKind prog w).is k x=true)(hs:x.scannable=true)(G:aX prog w s.heap d S n)(room:n+1<scanBound)(q:∀h' b,Heap.SameBut d s.heap h'->aX prog w h' d (fun k'=>S k'||decide (k'=k)) (if S k then n else n+1)->Q b {s with heap:=h'}):wpAny (model prog w) A (setAddHashed d x ((intKind prog w).hash k)) Q E s:=by
 obtain⟨o,es,ep,t,ho,hx,hd,el,mem,lt,ft,en,tb⟩:=G
 unfold setAddHashed setAddHashedIn
 refine uM (ak (wdj ho hd ft ?_))
 dsimp only
 rw[byScan_of hs lt el]
 simp only[↓reduceIte]
 unfold setAddByScan
 refine ak (ak (MP (ak (wpAny_setScan_of hk ho hd ft el ?_))))
 cases z:List.findIdx? (fun e=>(intKind prog w).is k e.2) es.toList with
 |some j=>
  obtain⟨hj,pj,_⟩:=List.findIdx?_eq_some_iff_getElem.mp z
  have yes:S k=true:=(mem k).mpr ⟨es.toList[j],Et hj,pj⟩
  refine aF (aF ?_)
  have r:=q s.heap false (Vm d s.heap) ⟨o,es,ep,t,ho,hx,hd,el,fun k'=>by
   rw[Qu,Ey,<-mem k']
   exact⟨fun y=>y.elim id fun e=>e▸yes,.inl⟩,lt,ft,by rw[yes];exact en,tb⟩
  exact r
 |none=>
  dsimp only
  have no:S k=false:=by
   cases y:S k with
   |false=>rfl
   |true=>
    obtain⟨e,he,p⟩:=(mem k).mp y
    have:=List.findIdx?_eq_none_iff.mp z e he
    rw[p]at this;cases this
  have gwk:∀(b:Bool) (s₁:Shared) (Q':Unit->Shared->Prop),Q' () s₁->wpAny (model prog w) A (match b with |true=>rule "set.scan.the-table-gave-way"|false=>pure ()) Q' E s₁:=fun b s₁ Q' y=>by cases b<;>first |exact aF y|exact MP y
  have pm:=layNew_perm t es ((intKind prog w).hash k) x
  have ff:=layNew_fits t es ((intKind prog w).hash k) x
  have tt:=Kf tb es ((intKind prog w).hash k) x
  generalize layNew t es ((intKind prog w).hash k) x=r at pm ff tt⊢
  obtain⟨es1,t1,was,gv⟩:=r
  dsimp only at pm ff tt⊢
  rw[Array.toList_push]at pm
  have el1:ElemsOf (intKind prog w) es1.toList:=(el.push hk hs).perm pm
  have TF:=mem_push_iff (knd:=intKind prog w) hk mem pm
  have sz:es1.size=n+1:=by rw[<-sO,pm.length_eq,lW,sO,en];rfl
  have Vt:es1.size<scanBound:=by rw[sz];exact room
  refine ak (gwk _ _ _ ?_)
  have fin:∀h',Heap.SameBut d s.heap h'->aX prog w h' d (fun k'=>S k'||decide (k'=k)) es1.size->wpAny (model prog w) A (match some true with |some added=>pure added|none=>setAddHashedIn d x ((intKind prog w).hash k) 99999) Q E {s with heap:=h'}:=fun h' sb g=>by
   have r:=q h' true sb (by rw[no];rw[sz]at g;exact g)
   exact aF r
  split
  ·refine ak ?_
   rw[hashByValue_scannable 8 hs]
   refine aF (Dj gwk ho hx hd el1 TF Vt ?_ ?_ fin)
   ·split
    ·exact ff
    ·exact SetTable.fits_plain_off ff
   ·split
    ·exact tt
    ·exact kY tt
  ·refine ak (aF ?_)
   simp only[↓reduceIte]
   exact Dj gwk ho hx hd el1 TF Vt ff tt fin
end
end PySem
namespace L2
open PySem PySem.Spec PyProof.Rows
section
variable{prog:Program}{w:World}{A:Around}{E:Value->Shared->Prop}{s:Shared}
theorem kj(a:Value){Q₁:Value->Shared->Prop}(h:Q₁ (.ref s.heap.objs.size) {s with heap:=s.heap.push {cls:= .type "set",dict:=none,data:= .set #[] 0 (.fresh 0 0 (!w.params.followText "set-order"))}}):
  codeAny (model prog w) A (.call (.builtin "set.__new__") ⟨[.type "set",a],[]⟩) (wants Q₁ E) s:=by
 refine wgi ?_
 show wpAny _ A.in1 (do checkBuiltinCall "set.__new__" ⟨[.type "set",a],[]⟩;again (.builtin "set.__new__" ⟨[.type "set",a],[]⟩)) _ _ s
 refine ak (Wo (PySem.F.newCall_set_1 a) (aF ⟨Qs wgj _,CZ PySem.F.entry_set_new ?_⟩))
 rw[M6 wgj _]
 unfold Builtin.«set.__new__» Builtin.Frozenset.newClass
 have hsub:=ZS
 obtain⟨hp,g,d,tk,os⟩:=s
 dsimp only
 wp_walk
 refine wds (aF ?_)
 dsimp only
 simp only[newObj]
 refine ak (wpAny_alloc (aF ?_))
 exact aF h
end
section
variable{prog:Program}{w:World}{A:Around}{R:Result->Shared->Prop}{I:Addr}{fp wr:List Addr}{G:Array GenState->Array GenState->Prop}{n:Nat}{P:Nat->Value->Prop}{St:Nat->Shared->Prop}
theorem Q5(W:WalksS prog w A.in1 I fp wr G n P St)(D:Addr)(hD:D∉fp)(val:Nat->Int)(hv:∀i v,P i v->∃t,v= .int (val i) t)(hb:n+1<scanBound):
  ∀(k i:Nat) (s:Shared),n-i=k->i<=n->St i s->aX prog w s.heap D (fun k'=>(firstMet val i).any (· ==k')) (firstMet val i).length->
   (∀s',Moved (D::wr) G s s'->aX prog w s'.heap D (fun k'=>(firstMet val n).any (· ==k')) (firstMet val n).length->R (.ok (.ret .none)) s')->
   codeAny (model prog w) A (.builtin "set.update.loop" ⟨[.ref D,.ref I],[]⟩) R s:=by
 have hw:D∉wr:=fun h=>hD (W.sub _ h)
 have sub:∀b∈wr,b∈D::wr:=fun b hb=>dG _ hb
 intro k
 induction k with
 |zero=>
  intro i s hk hi st g hR
  obtain rfl:i=n:=by omega
  refine CZ wcr ?_
  rw[M6 wbp _]
  show wpAny _ A.in1 (pyNext (.ref I)>>=_) _ _ s
  refine ak (W.done s _ _ st fun s' hm=> ?_)
  show wpAny _ A.in1 (ret Value.none) _ _ s'
  exact aF (hR s' (hm.mono sub) (g.at fun o e=>hm.heap D _ hw e))
 |succ k ih=>
  intro i s hk hi st g hR
  have lt:i<n:=by omega
  refine CZ wcr ?_
  rw[M6 wbp _]
  show wpAny _ A.in1 (pyNext (.ref I)>>=_) _ _ s
  refine ak (W.item i s _ _ lt st fun v s' hP st' hm=> ?_)
  obtain⟨t,rfl⟩:=hv i v hP
  have g':=g.at (h':=s'.heap) fun o e=>hm.heap D _ hw e
  show wpAny _ A.in1 (holding [Value.int (val i) t] (setAdd D (.int (val i) t))>>=_) _ _ s'
  refine ak (uM ?_)
  unfold setAdd
  refine uM (ak ((intKind prog w).pyHash (k:=val i) (intKind_is _ _ _ _) ?_))
  refine Lh (s:={s' with toks:=s'.toks+1}) (intKind_is _ _ _ _) rfl g' (by have:=wer val i;omega) fun h' _ sb g2=> ?_
  refine aF ⟨Qs wbp _,ih (i+1) _ (by omega) lt (W.frame _ s' _ _ st' (wD _) fun b hb o e=> ?_) (g2.congr (fun k'=>by rw[Z0,step_any]) (by rw[Z0,step_length])) fun s'' hm'' g3=> ?_⟩
  ·rw[sb.2 b (fun h:b=D=>hD (by rw[<-h];exact hb))];exact e
  ·refine hR s'' (Moved.trans W.gtrans ((hm.mono sub).then_heap (wD _) fun b o hb e=> ?_) hm'') g3
   rw[sb.2 b (fun h:b=D=>hb (by rw[h];exact cV))];exact e
end
section
variable{prog:Program}{w:World}{A:Around}{E:Value->Shared->Prop}{s:Shared}
theorem qL{t:Addr}{its:Array Value}{ns:List Int}{Q:Value->Shared->Prop}(hA:A.handled=none)(ht:s.heap.IsTuple t its)(hI:PyProof.Rows.IntsAre its.toList ns)(hz:its.size+1<scanBound)(fin:∀(g:Heap) (tk:Nat),aX prog w g s.heap.objs.size (fun k'=>(firstMet (fun i=>ns.getD i 0) its.size).any (· ==k')) (firstMet (fun i=>ns.getD i 0) its.size).length->(∀b o,b<s.heap.objs.size->s.heap.get? b=some o->g.get? b=some o)->Q (.ref s.heap.objs.size) {s with heap:=g,toks:=tk}):
  wpAny (model prog w) A (call (.type "set") [.ref t]) Q E s:=by
 obtain⟨c,tl,q1⟩:=F.called_set.mro
 have q2:=F.called_set.made
 have q3:=F.called_set.sub
 refine Wj (wgi ?_)
 show wpAny _ _ (callAny (.type "set") _) _ _ _
 refine aF ⟨wcz _ (by decide+kernel),CZ wft ?_⟩
 rw[Around.under_plain (weight_type_call_type "set" [.ref t] []) rfl]
 have q4:=F.called_set.notType
 have q5:=F.called_set.canCreate
 have q6:=F.typeCall_set_1 (.ref t)
 repeat(any_goals(first |assumption|wp_step))
 refine M4 (kj (.ref t) (E:=E) (Q₁:=fun ob u=>ob= .ref s.heap.objs.size/\u={s with heap:=s.heap.push {cls:= .type "set",dict:=none,data:= .set #[] 0 (.fresh 0 0 (!w.params.followText "set-order"))}}) ⟨rfl,rfl⟩) fun r u hr=> ?_
 cases r with
 |error e=>exact hr
 |ok fl=>
  cases fl with
  |ret obj=>
   obtain⟨rfl,rfl⟩:=hr
   generalize T5:(!w.params.followText "set-order")=led at *
   have g0:(s.heap.push {cls:= .type "set",dict:=none,data:= .set #[] 0 (.fresh 0 0 led)}).get? s.heap.objs.size=some {cls:= .type "set",dict:=none,data:= .set #[] 0 (.fresh 0 0 led)}:=gB _ rfl
   have g1:Shared.TypeIs {s with heap:=s.heap.push {cls:= .type "set",dict:=none,data:= .set #[] 0 (.fresh 0 0 led)}} (.ref s.heap.objs.size) "set":=⟨_,g0,rfl⟩
   have q7:=F.called_set.init.lookup
   have q8:=F.called_set.init.bind (.ref s.heap.objs.size)
   repeat(any_goals(first |assumption|wp_step))
   refine M4 (codeAny_call_builtin (R:=wants (fun r s₂=>r= .none/\∃g tk,s₂={s with heap:=g,toks:=tk}/\aX prog w g s.heap.objs.size (fun k'=>(firstMet (fun i=>ns.getD i 0) its.size).any (· ==k')) (firstMet (fun i=>ns.getD i 0) its.size).length/\(∀b o,b<s.heap.objs.size->s.heap.get? b=some o->g.get? b=some o)) E) F.called_set.init.plain F.entry_set_init (check_set_init_1 g1 ?_)) fun r₂ s₂ hr₂=> ?_
   ·obtain⟨⟨oc,od,oda,os⟩,ho,hc,nl,hd⟩:=ht
    simp only at hc hd
    subst hc hd
    have ho':(s.heap.push {cls:= .type "set",dict:=none,data:= .set #[] 0 (.fresh 0 0 led)}).get? t=some {cls:= .type "tuple",dict:=od,data:= .seq its nl,slots:=os}:=cM _ ho
    have b1:=PySem.F.sub_tuple_set
    have b2:=PySem.F.sub_tuple_frozenset
    have b3:(Value.type "tuple"==Value.type "dict")=false:=by decide
    have ht1:(s.heap.push {cls:= .type "set",dict:=none,data:= .set #[] 0 (.fresh 0 0 led)}).IsTuple t its:=⟨_,ho',rfl,nl,rfl⟩
    unfold Builtin.«set.__init__» noKeywords Builtin.Frozenset.updateFrom
    generalize hPI:pyIter=PI
    wp_walk
    subst hPI
    refine WK ht1 (ak (Wx ?_))
    have lt:t<s.heap.objs.size:=cA ho
    have Yl:A.in1.in1.in1.handled=none:=by simp[hA]
    have nI:t≠(s.heap.push {cls:= .type "set",dict:=none,data:= .set #[] 0 (.fresh 0 0 led)}).objs.size:=by rw[wH];exact bQ (lV lt)
    have nf:s.heap.objs.size∉[(s.heap.push {cls:= .type "set",dict:=none,data:= .set #[] 0 (.fresh 0 0 led)}).objs.size,t]:=by
     rw[wH];simp only[cB,g8,V7,Wh,not_or];exact⟨bQ (nQ _),wR lt⟩
    refine Q5 ((Walks.tuple Yl _ t nI its).toS) s.heap.objs.size nf (fun i=>ns.getD i 0) (fun i v hv=>IntsAre.int_at hI i v (by rw[U9];exact hv)) hz (its.size-0) 0 _ (by omega) (cX _)
     ⟨⟨_,gB _ rfl,rfl,rfl⟩,ht1.at fun o e=>cM _ e⟩ ?hS0 ?hR
    case hS0=>exact⟨_,#[],0,_,cM _ g0,⟨rfl,rfl,rfl⟩,rfl,fun e he=>by simp at he,fun k=>by simp[firstMet],by unfold scanBound;simp,rfl,rfl,by rw[T5];exact nu led⟩
    case hR=>
     intro s' hm hS'
     obtain⟨g,g',d',tk',os'⟩:=s'
     obtain⟨rfl,rfl,rfl⟩:g'=s.gens/\d'=s.drawn/\os'=s.os:=⟨hm.gens,hm.drawn,hm.os⟩
     show wpAny _ _ _ _ _ _
     refine aF ?_
     show wpAny _ _ (ret Value.none) _ _ _
     refine aF ⟨rfl,g,tk',rfl,hS',fun b o hb e=>hm.heap b o ?_ (cM _ (cM _ e))⟩
     have n1:b≠s.heap.objs.size:=bQ hb
     have n2:b≠(s.heap.push {cls:= .type "set",dict:=none,data:= .set #[] 0 (.fresh 0 0 led)}).objs.size:=by rw[wH];exact bQ (lV hb)
     simp only[cB,g8,V7,Wh,not_or];exact⟨n1,n2⟩
   ·cases r₂ with
    |error e=>exact hr₂
    |ok fl₂=>
     cases fl₂ with
     |ret r=>
      obtain⟨rfl,g,tk,rfl,hS',hk'⟩:=hr₂
      repeat(any_goals(first |assumption|wp_step))
      exact fin _ _ hS' hk'
     |_=>exact hr₂.elim
  |_=>exact hr.elim
theorem tW{t:Addr}{its:Array Value}{ns:List Int}{Q:Value->Shared->Prop}(hA:A.handled=none)(ht:s.heap.IsList t its)(hI:PyProof.Rows.IntsAre its.toList ns)(hz:its.size+1<scanBound)(fin:∀(g:Heap) (tk:Nat),aX prog w g s.heap.objs.size (fun k'=>(firstMet (fun i=>ns.getD i 0) its.size).any (· ==k')) (firstMet (fun i=>ns.getD i 0) its.size).length->(∀b o,b<s.heap.objs.size->s.heap.get? b=some o->g.get? b=some o)->Q (.ref s.heap.objs.size) {s with heap:=g,toks:=tk}):
  wpAny (model prog w) A (call (.type "set") [.ref t]) Q E s:=by
 obtain⟨c,tl,q1⟩:=F.called_set.mro
 have q2:=F.called_set.made
 have q3:=F.called_set.sub
 refine Wj (wgi ?_)
 show wpAny _ _ (callAny (.type "set") _) _ _ _
 refine aF ⟨wcz _ (by decide+kernel),CZ wft ?_⟩
 rw[Around.under_plain (weight_type_call_type "set" [.ref t] []) rfl]
 have q4:=F.called_set.notType
 have q5:=F.called_set.canCreate
 have q6:=F.typeCall_set_1 (.ref t)
 repeat(any_goals(first |assumption|wp_step))
 refine M4 (kj (.ref t) (E:=E) (Q₁:=fun ob u=>ob= .ref s.heap.objs.size/\u={s with heap:=s.heap.push {cls:= .type "set",dict:=none,data:= .set #[] 0 (.fresh 0 0 (!w.params.followText "set-order"))}}) ⟨rfl,rfl⟩) fun r u hr=> ?_
 cases r with
 |error e=>exact hr
 |ok fl=>
  cases fl with
  |ret obj=>
   obtain⟨rfl,rfl⟩:=hr
   generalize T5:(!w.params.followText "set-order")=led at *
   have g0:(s.heap.push {cls:= .type "set",dict:=none,data:= .set #[] 0 (.fresh 0 0 led)}).get? s.heap.objs.size=some {cls:= .type "set",dict:=none,data:= .set #[] 0 (.fresh 0 0 led)}:=gB _ rfl
   have g1:Shared.TypeIs {s with heap:=s.heap.push {cls:= .type "set",dict:=none,data:= .set #[] 0 (.fresh 0 0 led)}} (.ref s.heap.objs.size) "set":=⟨_,g0,rfl⟩
   have q7:=F.called_set.init.lookup
   have q8:=F.called_set.init.bind (.ref s.heap.objs.size)
   repeat(any_goals(first |assumption|wp_step))
   refine M4 (codeAny_call_builtin (R:=wants (fun r s₂=>r= .none/\∃g tk,s₂={s with heap:=g,toks:=tk}/\aX prog w g s.heap.objs.size (fun k'=>(firstMet (fun i=>ns.getD i 0) its.size).any (· ==k')) (firstMet (fun i=>ns.getD i 0) its.size).length/\(∀b o,b<s.heap.objs.size->s.heap.get? b=some o->g.get? b=some o)) E) F.called_set.init.plain F.entry_set_init (check_set_init_1 g1 ?_)) fun r₂ s₂ hr₂=> ?_
   ·obtain⟨⟨oc,od,oda,os⟩,ho,hc,nl,hd⟩:=ht
    simp only at hc hd
    subst hc hd
    have ho':(s.heap.push {cls:= .type "set",dict:=none,data:= .set #[] 0 (.fresh 0 0 led)}).get? t=some {cls:= .type "list",dict:=od,data:= .seq its nl,slots:=os}:=cM _ ho
    have b1:=PySem.F.sub_list_set
    have b2:=PySem.F.sub_list_frozenset
    have b3:(Value.type "list"==Value.type "dict")=false:=by decide
    have ht1:(s.heap.push {cls:= .type "set",dict:=none,data:= .set #[] 0 (.fresh 0 0 led)}).IsList t its:=⟨_,ho',rfl,nl,rfl⟩
    unfold Builtin.«set.__init__» noKeywords Builtin.Frozenset.updateFrom
    generalize hPI:pyIter=PI
    wp_walk
    subst hPI
    refine Vn ht1 (ak (Wx ?_))
    have lt:t<s.heap.objs.size:=cA ho
    have Yl:A.in1.in1.in1.handled=none:=by simp[hA]
    have nI:t≠(s.heap.push {cls:= .type "set",dict:=none,data:= .set #[] 0 (.fresh 0 0 led)}).objs.size:=by rw[wH];exact bQ (lV lt)
    have nf:s.heap.objs.size∉[(s.heap.push {cls:= .type "set",dict:=none,data:= .set #[] 0 (.fresh 0 0 led)}).objs.size,t]:=by
     rw[wH];simp only[cB,g8,V7,Wh,not_or];exact⟨bQ (nQ _),wR lt⟩
    refine Q5 ((Vh Yl _ t nI its).toS) s.heap.objs.size nf (fun i=>ns.getD i 0) (fun i v hv=>IntsAre.int_at hI i v (by rw[U9];exact hv)) hz (its.size-0) 0 _ (by omega) (cX _)
     ⟨⟨_,gB _ rfl,rfl,rfl⟩,ht1.push _⟩ ?hS0 ?hR
    case hS0=>exact⟨_,#[],0,_,cM _ g0,⟨rfl,rfl,rfl⟩,rfl,fun e he=>by simp at he,fun k=>by simp[firstMet],by unfold scanBound;simp,rfl,rfl,by rw[T5];exact nu led⟩
    case hR=>
     intro s' hm hS'
     obtain⟨g,g',d',tk',os'⟩:=s'
     obtain⟨rfl,rfl,rfl⟩:g'=s.gens/\d'=s.drawn/\os'=s.os:=⟨hm.gens,hm.drawn,hm.os⟩
     show wpAny _ _ _ _ _ _
     refine aF ?_
     show wpAny _ _ (ret Value.none) _ _ _
     refine aF ⟨rfl,g,tk',rfl,hS',fun b o hb e=>hm.heap b o ?_ (cM _ (cM _ e))⟩
     have n1:b≠s.heap.objs.size:=bQ hb
     have n2:b≠(s.heap.push {cls:= .type "set",dict:=none,data:= .set #[] 0 (.fresh 0 0 led)}).objs.size:=by rw[wH];exact bQ (lV hb)
     simp only[cB,g8,V7,Wh,not_or];exact⟨n1,n2⟩
   ·cases r₂ with
    |error e=>exact hr₂
    |ok fl₂=>
     cases fl₂ with
     |ret r=>
      obtain⟨rfl,g,tk,rfl,hS',hk'⟩:=hr₂
      repeat(any_goals(first |assumption|wp_step))
      exact fin _ _ hS' hk'
     |_=>exact hr₂.elim
  |_=>exact hr.elim
end
end L2
namespace pK
open PySem PySem.W PyProof.Rows PySem.Calls
section
variable{prog:Program}{w:World}{A:Around}{E:Value->Shared->Prop}{s:Shared}
theorem zm{d:Addr}{es:Array (Int×Value)}{ep:Nat}{t:SetTable}{Q:List Value->Shared->Prop}(hA:A.handled=none)(S:aV w s.heap d es ep t)(hz:es.size<=1000)(h:∀h' tk dr items,(∀b o,s.heap.get? b=some o->h'.get? b=some o)->s.heap.objs.size<=h'.objs.size->List.Perm items (es.toList.map (·.2))->Q items {s with heap:=h',toks:=tk,drawn:=dr}):
  wpAny (model prog w) A (collect (.ref d)) Q E s:=by
 unfold collect
 refine ak (Wx (CZ entry_proto_collect' ?_))
 show wpAny _ _ (do again (.builtin "list.__iadd__" ⟨[<-newList [],.ref d],[]⟩)) _ _ s
 refine ak (Rx (aF ⟨wcz _ (by decide+kernel),CZ entry_list_iadd' ?_⟩))
 rw[M6 PySem.F.plain_list_iadd _]
 show wpAny _ _ (Builtin.List.listExtendWith (.ref s.heap.objs.size) (.ref d) (.ref s.heap.objs.size)) _ _ {s with heap:=s.heap.push (seqObj "list" #[] 0)}
 refine BR (R:=fun r s'=>match r with
   | .ok (.ret v)=>wpAny (model prog w) A (match v with
    | .ref a=>do match(<-load a).data with
     | .seq xs _=>pure xs.toList
     |_=>unsupported "internal:collect"
    |_=>unsupported "internal:collect") Q E s'
   | .ok _=>False
   | .error e=>E e s') (s:={s with heap:=s.heap.push (seqObj "list" #[] 0)}) (by simpa using hA) (S.push _) hz s.heap.objs.size _ 0 (gB _ rfl) fun h' tk dr acc c keep hl pm=> ?_
 show wpAny (model prog w) A (load s.heap.objs.size>>=_) Q E _
 refine ak (Wm hl ?_)
 exact aF (h h' tk dr acc.toList (fun b o e=>keep b o (bQ (cA e)) (cM _ e)) (cQ (cA hl)) pm)
end
end pK
namespace L2
open PySem PySem.Spec PyProof.Rows
def iv:Value->Int
 | .int k _=>k
 |_=>0
theorem Df:∀{us:List Value},(∀v∈us,∃k t,v= .int k t)->Vals ((us.map iv).map V.int) us
 |[],_=> .nil
 |v::us,h=>by
  obtain⟨k,t,rfl⟩:=h v cV
  exact .cons ⟨t,rfl⟩ (Df fun u hu=>h u (dG _ hu))
theorem QV:∀{c t:List Int},c.Nodup->(∀x∈c,x∈t)->c.length<=t.length
 |[],_,_,_=>cX _
 |x::c,t,nd,h=>by
  have hx:=h x cV
  rw[Hl]at nd
  have z:=QV (c:=c) (t:=t.erase x) nd.2 fun y hy=>(Zx (fun e:y=x=>nd.1 (e▸hy))).mpr (h y (dG _ hy))
  rw[ZF hx]at z
  have p:0<t.length:=Va hx
  rw[qx]
  omega
theorem Gn:∀{c t:List Int},c.Nodup->(∀x∈c,x∈t)->t.length<=c.length->t.Nodup:=by
 intro c t nd sub len
 refine Qw fun no=> ?_
 obtain⟨x,hx⟩:∃x,2<=t.count x:=by
  refine Qw fun n2=>no (List.nodup_iff_count.mpr fun a=> ?_)
  exact wdp fun c2=>n2 ⟨a,c2⟩
 have hm:x∈t:=List.count_pos_iff.mp (by omega)
 have z:=QV (c:=c) (t:=t.erase x) nd fun y hy=>by
  by_cases e:y=x
  ·subst e
   exact List.count_pos_iff.mp (by rw[List.count_erase_self];omega)
  ·exact(Zx e).mpr (sub y hy)
 rw[ZF hm]at z
 have p:0<t.length:=Va hm
 omega
section
variable{prog:Program}{w:World}{A:Around}{E:Value->Shared->Prop}{s:Shared}
theorem jF(val:Nat->Int):∀n,(firstMet val n).Nodup
 |0=> .nil
 |n+1=>by
  rw[Z0]
  unfold step_dedup
  split
  ·exact jF val n
  ·rename_i h
   rw[List.nodup_append]
   refine⟨jF val n,by simp,fun a ha b hb e=>h ?_⟩
   rw[wdt]
   rw[g8.mp hb]at e
   exact⟨a,ha,by simp[e]⟩
theorem Fg{d:Addr}{n:Nat}{val:Nat->Int}(G:aX prog w s.heap d (fun k'=>(firstMet val n).any (· ==k')) (firstMet val n).length):
  ∃es ep t,aV w s.heap d es ep t/\es.size=(firstMet val n).length/\(∀v∈es.toList.map (·.2),∃k t,v= .int k t)/\((es.toList.map (·.2)).map iv).Nodup/\∀k,k∈(es.toList.map (·.2)).map iv↔k∈firstMet val n:=by
 obtain⟨o,es,ep,t,ho,hx,hd,el,mem,lt,ft,en,tb⟩:=G
 have Pb:∀v∈es.toList.map (·.2),∃k t,v= .int k t:=fun v hv=>by
  obtain⟨e,he,rfl⟩:=j8.mp hv
  obtain⟨⟨k,hk,_⟩,_⟩:=el e he
  exact⟨k,Vo (k:=k) (v:=e.2) hk⟩
 have mm:∀k,k∈(es.toList.map (·.2)).map iv↔k∈firstMet val n:=fun k=>by
  have m:=mem k
  have e1:(firstMet val n).any (· ==k)=true↔k∈firstMet val n:=by
   rw[wdt]
   exact⟨fun⟨x,hx,e⟩=>by rw[<-beq_iff_eq.mp e];exact hx,fun h=>⟨k,h,by simp⟩⟩
  rw[<-e1,m]
  constructor
  ·intro h
   obtain⟨v,hv,rfl⟩:=j8.mp h
   obtain⟨j,tk,rfl⟩:=Pb v hv
   obtain⟨e,he,e2⟩:=j8.mp hv
   exact⟨e,he,by rw[e2];exact intKind_is _ _ _ _⟩
  ·rintro⟨e,he,z⟩
   obtain⟨tk,e2⟩:=Vo (k:=k) (v:=e.2) z
   exact j8.mpr ⟨e.2,j8.mpr ⟨e,he,rfl⟩,by rw[e2];rfl⟩
 refine⟨es,ep,t,⟨⟨o,ho,hx,hd⟩,ft,tb⟩,en,Pb,?_,mm⟩
 exact Gn (jF val n) (fun x hx=>(mm x).mpr hx) (by rw[aG,aG,sO,en];exact aH _)
end
end L2
namespace pK
open PySem PySem.W PyProof.Rows PySem.Calls
section
variable{prog:Program}{w:World}{A:Around}{E:Value->Shared->Prop}{s:Shared}
theorem Af{d:Addr}{es:Array (Int×Value)}{ep:Nat}{t:SetTable}{Q:Value->Shared->Prop}(hA:A.handled=none)(S:aV w s.heap d es ep t)(h64:es.size<64)(hi:∀v∈es.toList.map (·.2),∃k t,v= .int k t)(q:∀D h' tk dr out c (ys:List Int),ys.Perm ((es.toList.map (·.2)).map L2.iv)->ys.Pairwise (· <= ·)->L2.Vals (ys.map L2.V.int) out->s.heap.objs.size<=D->(∀b o,s.heap.get? b=some o->h'.get? b=some o)->h'.get? D=some (seqObj "list" (List.toArray out) c)->Q (.ref D) {s with heap:=h',toks:=tk,drawn:=dr}):
  wpAny (model prog w) A (call (.builtin "sorted") [.ref d]) Q E s:=by
 refine wcq kind_sorted plain_sorted entry_sorted (args_sorted1 _) ?_
 unfold Builtin.«sorted»
 refine ak (m:=checkCount "sorted" 1 1 _) (aF (ak (zm (by simpa using hA) S (by omega) fun h1 tk dr vs Q7 le pm=> ?_)))
 have hi':∀v∈vs,∃k t,v=Value.int k t:=fun v hv=>hi v (pm.mem_iff.mp hv)
 have rv:=L2.Df hi'
 have pm':(vs.map L2.iv).Perm ((es.toList.map (·.2)).map L2.iv):=pm.map _
 have hl:vs.length=es.size:=by rw[pm.length_eq,aG,sO]
 have Gx:(vs.map L2.iv).length=vs.length:=aG _
 generalize vs.map L2.iv=ns at *
 have pr:=L2.jl rv
 have hI:IntsAre vs ns:=L2.intsAre_of rv
 refine ak (Rx ?_ (by rw[fM];omega))
 have hoL:(h1.push (seqObj "list" vs.toArray 0)).get? h1.objs.size=some (seqObj "list" vs.toArray 0):=gB _ rfl
 have keep:∀b o,s.heap.get? b=some o->(h1.push (seqObj "list" vs.toArray 0)).get? b=some o:=fun b o e=>cM _ (Q7 b o e)
 have ne:∀b o,s.heap.get? b=some o->b≠h1.objs.size:=fun b o e=>bQ (cA (Q7 b o e))
 refine ak (uM (Dd slot_list_sort ⟨_,hoL,rfl⟩ entry_list_sort ?body (args_list_sort _)))
 case body=>
  refine gU (O:=rm) (key:=fun i=>ns.getD i 0) (κ:=oneType') (s:={s with heap:=h1.push (seqObj "list" vs.toArray 0),toks:=tk,drawn:=dr}) hoL (by omega)
   (fun h2 h' k Q hq=> ?_) (fun h2 h' k=> ?_) fun h' out c ho k hc=> ?_
  ·rw[ksk_kind (kz:=ns) (by simpa using hI) (by simpa using h2)]
   exact aF hq
  ·intro i j C hi hj hC
   rw[<-Gx]at hi hj
   unfold PySem.W.kas_ask
   obtain⟨t1,e1⟩:=L2.qp pr i hi
   obtain⟨t2,e2⟩:=L2.qp pr j hj
   rw[e1,e2]
   refine PySem.W.kat_lt_int ?_
   have hC':C (decide (ns.getD i 0<ns.getD j 0)) _:=hC
   have e3:ns.getD i 0=ns[i]:=by simp[hi]
   have e4:ns.getD j 0=ns[j]:=by simp[hj]
   rw[e3,e4]at hC'
   exact hC'
  ·obtain⟨ys,hp,hr,hw⟩:=pK.vA (d:=(0:Int)) (f:=fun p=>p) pr (fun i hi=>by show ns.getD i 0=_;simp[hi]) ho
   refine⟨_,rfl,aF ⟨_,rfl,q _ h' tk dr out c ys (hp.trans pm') (hw.imp fun{x y} hxy=> ?_) (L2.jA hr) le (fun b o e=>k b o (ne b o e) (keep b o e)) hc⟩⟩
   have:decide (y<x)=false:=hxy
   have:=RD this
   omega
end
end pK
namespace L2
open PySem PySem.Spec PyProof.Rows
section
variable{X:Cx}{a:Expr}{ta:TA}{p p' pos pos':Pos}
def Ib(K:W.Frag)(ta:TA):TE:=fun σ H Q=>ta σ H fun vs H1=>∃(b:Bool) (l:Addr) (ns:List Int),vs=[.ref l]/\Mv K b H1 l (ns.map V.int)/\ns.length<60/\
 ∀(r:Addr) (ys:List Int),H1 r=none->ys.Pairwise (· < ·)->(∀k,k∈ys↔k∈ns)->Q (.ref r) (upd H1 r (.lst (ys.map V.int)))
theorem vh(hc:X.calm=true)(T7:Gl X "sorted")(hmL:X.mg "sorted"=none)(hg:Gl X "set")(hm:X.mg "set"=none)(ha:PA X [a] ta)(hs:starEach [a] X.env=[(false,eval a X.env)]:=by rfl)(hs2:starEach [Expr.Call (.Name "set" p') [a] [] pos'] X.env=[(false,eval (Expr.Call (.Name "set" p') [a] [] pos') X.env)]:=by rfl):
  PE X (.Call (.Name "sorted" p) [.Call (.Name "set" p') [a] [] pos'] [] pos) (Ib X.K ta):=by
 intro pins s σ H Q I h
 refine Mt (wC I T7 hmL (show bootBuiltins "sorted"=some (.builtin "sorted")from by decide+kernel) ?_ (by decide) (by decide))
 refine wcg ?_ hs2 rfl
 rw[hs2]
 refine Vp ?_
 refine Call_ (wC I hg hm (show bootBuiltins "set"=some (.type "set")from by decide+kernel) (Ez (thn (ha pos' pins s σ H _ I h) fun us s1 ⟨vs,H1,I1,r1,q1⟩=> ?_) hs rfl))
 obtain⟨b,l,ns,e,hq,hz,q⟩:=q1
 subst e
 cases r1 with
 |cons r rr=>
  cases rr
  cases r
  have main:∀its:List Value,Vals (ns.map V.int) its->∀(g:Heap) (tk:Nat),aX X.prog X.w g s1.heap.objs.size (fun k'=>(firstMet (fun i=>ns.getD i 0) its.toArray.size).any (· ==k')) (firstMet (fun i=>ns.getD i 0) its.toArray.size).length->(∀b o,b<s1.heap.objs.size->s1.heap.get? b=some o->g.get? b=some o)->
    wpAny (model X.prog X.w) X.A (call (.builtin "sorted") [.ref s1.heap.objs.size]) (EP X pins σ Q) X.xe {s1 with heap:=g,toks:=tk}:=by
   intro its rv g tk G keep
   have Gx:its.toArray.size=ns.length:=by rw[eU];exact Vj (intsAre_of rv)
   obtain⟨es,ep,t,S,en,Pb,nd,mm⟩:=Fg (s:={s1 with heap:=g,toks:=tk}) G
   have hle:=wer (fun i=>ns.getD i 0) its.toArray.size
   have szg:s1.heap.objs.size<=g.objs.size:=by obtain⟨o,ho,_⟩:=S.ob;exact cQ (cA ho)
   refine pK.Af (s:={s1 with heap:=g,toks:=tk}) (I.ok.hd hc) S (by omega) Pb fun D h' tk' dr out c ys hp hw rv' hD k hO=> ?_
   have zl:(ys.map V.int).length<=sizeLine:=by
    have h1:=hp.length_eq
    have h2:es.toList.length=es.size:=sO
    simp only[aG]at h1
    rw[aG,fM];omega
   have J:Inv X pins σ (upd H1 D (.lst (ys.map V.int))) {s1 with heap:=h',toks:=tk'}:=I1.laid (fun b o e=>k b o (keep b o (cA e) e)) (eO szg hD) ⟨zl,out,c,rv',hO⟩
   have J':Inv X pins σ (upd H1 D (.lst (ys.map V.int))) {s1 with heap:=h',toks:=tk',drawn:=dr}:=⟨J.ok,J.os,J.bare,J.base,J.loc,J.cell,J.free,J.freeC,J.pin,J.hok,J.len⟩
   refine⟨.ref D,_,J',rfl,q D ys (I1.hok.fresh (eO szg hD)) ?_ fun k=> ?_⟩
   ·have nd':ys.Nodup:=hp.nodup_iff.mpr nd
    have both:=hw.and nd'
    exact both.imp fun{x y} h=>by have:=h.1;have:=h.2;omega
   ·rw[hp.mem_iff,mm,Gx,fK,uI]
    exact aH _
  cases b with
  |true=>
   obtain⟨its,rv,pl,_⟩:=I1.tuple (show SqT X.K H1 l (ns.map V.int)from hq)
   have hi:IntsAre its ns:=intsAre_of rv
   have Gx:its.length=ns.length:=Vj hi
   refine qL (ns:=ns) (I.ok.hd hc) (show s1.heap.IsTuple l its.toArray from pl) (by simpa using hi) (by unfold scanBound;simp;omega) fun g tk G keep=> ?_
   exact RB (main its rv g tk G keep)
  |false=>
   obtain⟨its,rv,pl,_⟩:=I1.list (show SqL X.K H1 l (ns.map V.int)from hq)
   have hi:IntsAre its ns:=intsAre_of rv
   have Gx:its.length=ns.length:=Vj hi
   refine tW (ns:=ns) (I.ok.hd hc) pl.isList (by simpa using hi) (by unfold scanBound;simp;omega) fun g tk G keep=> ?_
   exact RB (main its rv g tk G keep)
end
section
variable{prog:Program}{w:World}{A:Around}{E:Value->Shared->Prop}{s:Shared}
end
section
variable{X:Cx}{o e:Expr}{to:TE}{t:TA}{apos cpos:Pos}
end
section
variable{X:Cx}{e e1 e2:Expr}{es:List Expr}{te:TE}{pos:Pos}
end
section
variable{X:Cx}{e:Expr}{te:TE}{pos:Pos}
end
section
variable{X:Cx}{tg l:Expr}{tl:TE}
end
section
variable{g:TG}{tc:TT}{te:TE}{Fin:List V->Hp->Prop}{ini:St}{H:Hp}
end
end L2
namespace aaE
open PySem PySem.StrLaws PySem.Builtin.Str
section
variable{c:Nat}{ys:List Nat}
end
end aaE
namespace DH
open PySem PySem.W PyProof.Rows PySem.Calls
section
variable{prog:Program}{w:World}{A:Around}{E:Value->Shared->Prop}{s:Shared}{d it:Addr}{es:Array DictEntry}{ep i:Nat}
end
section
variable{M:Model}{A:Around}{E:Value->Shared->Prop}{s:Shared}
end
section
variable{prog:Program}{w:World}{A:Around}{E:Value->Shared->Prop}{s:Shared}
end
section
variable{prog:Program}{w:World}{A:Around}{E:Value->Shared->Prop}{s:Shared}{d:Addr}{es:Array DictEntry}{ep:Nat}
end
end DH
namespace L2
open PySem PySem.Spec PyProof.Rows
section
variable{X:Cx}
end
end L2
namespace DH
open PySem PySem.W PyProof.Rows PySem.Calls
section
variable{prog:Program}{w:World}{K:Type} [DecidableEq K]{knd:HeapKind prog w K}{A:Around}{E:Value->Shared->Prop}{s:Shared}
end
end DH
namespace L2
open PySem PySem.Spec PyProof.Rows
section
variable{X:Cx}
end
section
variable{X:Cx}
def Xf:R2:=fun x y H Q=>∃a b xs ys,x= .ref a/\y= .ref b/\H a=some (.tup xs)/\H b=some (.tup ys)/\xs.length+ys.length<=sizeLine/\∀r H',Same H H'->H' r=some (.tup (xs++ys))->Q (.ref r) H'
theorem N7:OpR X (binaryOp .Add) Xf:=by
 intro pins s σ H x y v u Q I rx ry h
 obtain⟨a,b,xs,ys,rfl,rfl,ha,hb,hz,q⟩:=h
 by_cases hx:xs=[]
 ·subst hx
  cases rx
  cases ry
  obtain⟨its,r1,p1,_⟩:=I.tuple (SqT.of (K:=X.K) ha)
  obtain⟨its2,r2,p2,_⟩:=I.tuple (SqT.of (K:=X.K) hb)
  cases r1
  obtain⟨⟨cls,dd,data,sl⟩,ho,hc,n,hd⟩:=id p1
  obtain⟨⟨cls2,dd2,data2,sl2⟩,ho2,hc2,n2,hd2⟩:=id p2
  simp only at hc hd hc2 hd2
  subst hc hd hc2 hd2
  exact ZW ⟨_,ho,rfl⟩ ⟨_,ho2,rfl⟩ wdo Z6 wck wch (wby _ _)
   (tuple_addW0 a b _ _ n n2 dd dd2 sl sl2 (by simp)) ⟨ho,ho2,⟨.ref b,H,I,rfl,q b H (Same.refl _) hb⟩⟩
 ·refine op_catT pins s σ H _ _ v u Q I rx ry ⟨a,b,xs,ys,rfl,rfl,SqT.of ha,SqT.of hb,hx,hz,fun e=> ?_,fun e p hp=> ?_⟩
  ·subst e
   exact q a H (Same.refl _) (by rw[sE];exact ha)
  ·exact q p _ (fun c o e=>by rw[cu (j7 e hp)];exact e) aJ
end
def q9(X:Cx)(scope:Scope)(s:Shared)(f:Addr)(cdv:Value):Env:=PySem.W.envX (X.env.qual++"<lambda>") scope s.heap.objs.size f cdv (cG X.env.cells scope.names [])
def Ec(X:Cx)(A:Around)(N:List Str)(s:Shared)(H:Hp)(env:Env):Cx:=
 {X with A:=A.deeper env,N:=N,s₀:=s,H₀:=H,env:=env,outer:=X.stack,stack:=env::X.stack,ex:=[],fn:=fun _=>false,calm:=true,pn:=[],xe:=fun _ _=>False}
def Bt(ix:List Nat)(σ:St)(v:V):St:=some v::ix.map fun j=>(σ[j]?).join
section
variable{X:Cx}{scope:Scope}{caps:List Str}{ix:List Nat}{y:Str}{A:Around}{pins:List (Addr×Obj)}{σ:St}{H:Hp}{s:Shared}{f:Addr}{cdv:Value}{v:V}{u:Value}
theorem Gv{s':Shared}(ck:aR X.env.scope scope=true)(hkind:scope.kind= .function)(hcap:jd X scope caps ix)(hy:scope.names.lookup y=some .local)(hhd:A.handled=none)(hfr:A.frames=some X.stack)
  (I:Inv X pins σ H s)(rv:RelV v u)(hos:s'.os=s.os)(hg:AllBare s'.gens)(hk:∀b o,s.heap.get? b=some o->s'.heap.get? b=some o)(hn:s'.heap.Ns s.heap.objs.size (fun x=>[(y,u)].reverse.lookup x)):
  Inv (Ec X A (y::caps) s H (q9 X scope s f cdv)) [] (Bt ix σ v) H s':=by
 have cl1:∀x c,(cG X.env.cells scope.names []).lookup x=some c->X.env.cells.lookup x=some c:=fun x c e=>by
  rcases eG (tM e)with q|⟨q,mm⟩
  ·cases q
  ·obtain⟨d,hd⟩:=I.ok.has x (aR.free ck mm)
   rw[hd]at q
   rw[hd,q];rfl
 have cl2:∀x,(x,NameKind.free)∈scope.names->∃c,(cG X.env.cells scope.names []).lookup x=some c:=fun x mm=>by
  obtain⟨c,hc⟩:=nF (cells:=X.env.cells) (acc:=[]) mm
  obtain⟨d,hd,_⟩:=UL hc
  exact⟨d,hd⟩
 have bsz:X.base.objs.size<=s.heap.objs.size:=eO I.ok.bsz I.sz
 refine⟨⟨I.ok.mod,hkind,rfl,rfl,aH _,fun x y c h1 h2=>I.ok.inj x y c (cl1 x c h1) (cl1 y c h2),fun x hx=> ?_,fun x c h=>(nomatch h),fun _=>hhd,Around.frames_deeper hfr,.inr ⟨rfl,rfl⟩,fun b hb=>(nomatch hb),I.bs,bsz,
  fun b o e hb=>(nomatch hb),fun b hb=>(nomatch hb),I.stack,I.stkFree⟩,hos,hg,Un.kept hk,⟨_,hn,fun i x w h1 h2 h3=> ?_⟩,fun x c e=> ?_,I.hok.fresh (aH _),fun x c e=>I.freeC x c (cl1 x c e),fun p hp=>absurd (show p∈([]:List (Addr×Obj))from hp) (by simp),I.hok.kept hk,?_⟩
 ·have hx:scope.names.lookup x=some .cell\/scope.names.lookup x=some .free:=hx
  rcases hx with q|q
  ·exact absurd rfl (aR.cell ck _ (tM q))
  ·exact cl2 x (tM q)
 ·have h1:(y::caps)[i]? =some x:=h1
  have h2:(some v::ix.map fun j=>(σ[j]?).join)[i]? =some (some w):=h2
  cases i with
  |zero=>
   have h1:some y=some x:=h1
   have h2:some (some v)=some (some w):=h2
   cases h1
   cases h2
   exact⟨u,rv,.inl ⟨hy,by simp[Eu]⟩⟩
  |succ i=>
   rw[List.getElem?_cons_succ]at h1 h2
   obtain⟨j,e1,e2,e3⟩:=hcap.get h1
   rw[c7,e1]at h2
   have h2':(σ[j]?).join=some w:=by simpa using h2
   have h4:σ[j]? =some (some w):=by
    cases q:σ[j]? with
    |none=>rw[q]at h2';cases h2'
    |some w=>rw[q]at h2';exact jh some h2'
   obtain⟨m0,hn0,hl0⟩:=I.loc
   have mm:=tM e3
   have vis:=aR.free ck mm
   obtain⟨u,r,l⟩:=hl0 j x w e2 h4 (.inr vis)
   refine⟨u,r,.inr ?_⟩
   rcases l with⟨k,_⟩|⟨k,c,e,z⟩
   ·rcases vis with q|q
    ·rw[show X.env.kindOf x=some .cell from q]at k;cases k
    ·rw[show X.env.kindOf x=some .free from q]at k;cases k
   ·obtain⟨d,hd⟩:=cl2 x mm
    have:=cl1 x d hd
    rw[e]at this
    cases this
    exact⟨.inr e3,c,hd,z.keeps hk⟩
 ·obtain⟨v,z⟩:=I.cell x c (cl1 x c e)
  exact⟨v,z.keeps hk⟩
 ·show(some v::ix.map fun j=>(σ[j]?).join).length=(y::caps).length
  simp[hcap.len]
theorem Ow{k:Nat}{Q:VK}{te:TE}{params:Arguments}{body:Expr}{pm ctv:Value}{c':Addr}(ck:aR X.env.scope scope=true)(hkind:scope.kind= .function)(hcap:jd X scope caps ix)(hy:scope.names.lookup y=some .local)(hco:scope.isCoroutine=false)(hgen:scope.isGenerator=false)(hr:Room (k+1) A)(hfr:A.frames=some X.stack)(he:PE (Ec X A (y::caps) s H (q9 X scope s f (.ref c'))) body te)(I:Inv X pins σ H s)(rv:RelV v u)(ho:s.heap.get? f=some (PySem.W.kla_obj "<lambda>" (X.env.qual++"<lambda>") params body scope (cG X.env.cells scope.names []) pm c' ctv))(hcd:s.heap.CodeRec (.ref c') (X.env.qual++"<lambda>"))(hbind:∀(q:Str) (cl:List (Str×Addr)) (pm cd ct u:Value),bindArgs (PySem.W.kla_fn "<lambda>" q params body scope cl pm cd ct) ⟨[u],[]⟩=pure [(y,u)])(hq:te (Bt ix σ v) H Q):
  wpAny (model X.prog X.w) A (call (.ref f) [u]) (EP X pins σ fun v H'=>Q v H'/\∀b o u,H b=some (.frz o u)->H' b=some (.frz o u)) (fun _ _=>False) s:=by
 refine Wj (PySem.W.kla_callFunE hr.depth ho rfl hco hgen rfl hcd ?_)
 rw[hbind]
 refine aF (wpAny_newFunctionEnv (aR.cell ck) (fun z hz=>by rw[g8.mp hz];exact hy) (fun h₁ hns hsb=>⟨I.nolimit.fresh _ hsb,?_⟩) hkind)
 have hk₁:∀b o,s.heap.get? b=some o->h₁.get? b=some o:=fun b o e=>hsb.extBut b o (bQ (cA e)) (cM _ e)
 show codeAny _ _ (.expr body (q9 X scope s f (.ref c'))) _ _
 have I':=Gv (A:=A) (f:=f) (cdv:= .ref c') (s':={s with heap:=h₁,toks:=s.toks+[(y,u)].length}) ck hkind hcap hy hr.hd hfr I rv rfl I.bare hk₁ hns
 refine PySem.W.kla_codeExpr (zT (he [] _ _ _ _ I' hq) (fun v' s' z=> ?_) fun _ _ z=>z.elim)
 obtain⟨x,H',J,r,q⟩:=z
 exact I.after ⟨x,H',J.os,J.bare,J.base,J.hok,r,q,J.base.frzs⟩
end
def iC(H:Hp)(P:Addr)(pos:Pos)(qual:Str):Prop:=H P=some (.tbl #[])\/∃(c':Addr) (oc:Obj) (vs:Array Value) (tq:Tok),H P=some (.tbl #[rawInt pos.line,rawInt pos.col,.ref c'])/\H c'=some (.frz oc (.own 0))/\oc.data= .fields vs/\vs[1]? =some (.str qual tq)
structure zB(base:Heap)(mg:Str->Option Value)(c P:Addr):Prop where
 hd:PySem.W.CodeHd base c P
 blt:base.BuiltinsAt mg P
 ne:mainGlobals≠P
theorem BuiltinsAt.keeps{h h':Heap}{mg:Str->Option Value}{P:Addr}(x:h.BuiltinsAt mg P)(k:∀b o,h.get? b=some o->h'.get? b=some o):h'.BuiltinsAt mg P:=
 let⟨bm,o,a,b,c,d,e,r⟩:=x;⟨bm,o,a,b,c,d,k _ _ e,r⟩
section
variable{X:Cx}{scope:Scope}{pins:List (Addr×Obj)}{σ:St}{H:Hp}{s:Shared}{c P:Addr}{pos:Pos}{params:Arguments}{body:Expr}{A:Around}{E:Value->Shared->Prop}{Q:Value->Shared->Prop}
theorem Kg(I:Inv X pins σ H s)(L:zB X.base X.mg c P)(hcode:X.env.code= .ref c)(hT:iC H P pos (X.env.qual++"<lambda>"))(ck:aR X.env.scope scope=true)(hdef:defaultsOf params X.env=([],[]))(h:∀(f c':Addr) (pm ctv:Value) (H':Hp) (s':Shared),Inv X pins σ H' s'->(∀b o,b≠P->H b=some o->H' b=some o)->iC H' P pos (X.env.qual++"<lambda>")->s'.heap.get? f=some (PySem.W.kla_obj "<lambda>" (X.env.qual++"<lambda>") params body scope (cG X.env.cells scope.names []) pm c' ctv)->
   H' f=none->s.heap.objs.size<=f->(∃(oc:Obj) (vs:Array Value) (tq:Tok),H' c'=some (.frz oc (.own 0))/\oc.data= .fields vs/\vs[1]? =some (.str (X.env.qual++"<lambda>") tq))->Q (.ref f) s'):
  wpAny (model X.prog X.w) A (eval (.Lambda params body scope pos) X.env) Q E s:=by
 refine PySem.W.kla_eval hdef ?_
 have hcl:closureFor scope X.env=pure (cG X.env.cells scope.names []):=iW fun x hx=>I.ok.has x (aR.free ck hx)
 have hg:s.heap.Ns mainGlobals X.mg:=I.mod.glob.keeps I.bk
 have C:=L.hd.keeps I.bk
 have B:=BuiltinsAt.keeps L.blt I.bk
 rcases hT with hT|⟨c',oc,vs,tq,hT,hC,hd,hv⟩
 ·have hP:s.heap.get? P=some (PySem.W.tabObj #[]):=I.hok P _ hT
  refine PySem.W.kla_makeFunction (ps:=#[]) hcl I.ok.glob hg hcode C hP trivial rfl L.ne B fun c' ctv h' tk hx hge hlt hrec htb=> ?_
  obtain⟨c₂,oc,vs,tq,e2,hoc,hd,hv⟩:=id hrec
  cases e2
  have cP:c'≠P:=wR (gA (cA hP) hge)
  have old:∀b o,s.heap.get? b=some o->b≠c':=fun b o e=>bQ (gA (cA e) hge)
  have hc0:H c'=none:=I.hok.fresh hge
  have kp:∀b o,b≠P->s.heap.get? b=some o->(h'.push (PySem.W.kla_obj "<lambda>" (X.env.qual++"<lambda>") params body scope (cG X.env.cells scope.names []) ((X.mg "__name__").getD .none) c' ctv)).get? b=some o:=fun b o hb e=>cM _ (hx b o hb e)
  have nP:∀b o,H b=some o->o≠.tbl #[]->b≠P:=fun b o e n z=>by rw[z,hT]at e;cases e;exact n rfl
  have eH:∀b,b≠P->b≠c'->upd (upd H P (.tbl (#[]++#[rawInt pos.line,rawInt pos.col,.ref c']))) c' (.frz oc (.own 0)) b=H b:=fun b h1 h2=>by rw[cu h2,cu h1]
  have eP:upd (upd H P (.tbl (#[]++#[rawInt pos.line,rawInt pos.col,.ref c']))) c' (.frz oc (.own 0)) P=some (.tbl (#[]++#[rawInt pos.line,rawInt pos.col,.ref c'])):=by rw[cu cP.symm,aJ]
  have J:Inv X pins σ (upd (upd H P (.tbl (#[]++#[rawInt pos.line,rawInt pos.col,.ref c']))) c' (.frz oc (.own 0))) {s with heap:=h'.push (PySem.W.kla_obj "<lambda>" (X.env.qual++"<lambda>") params body scope (cG X.env.cells scope.names []) ((X.mg "__name__").getD .none) c' ctv),toks:=tk}:=by
   refine I.un (h':=h'.push _) (t':=tk) ⟨fun b o e n hb he=>kp b o (fun z=>by rw[z,hT]at n;cases n) e,fun b o e n hb he=>⟨o.slots,kp b o (fun z=>by rw[z,hT]at n;cases n) e⟩,fun b o e n he=> ?_,fun b o e he=> ?_,fun b xs e=> ?_,fun b o u e=> ?_,fun b ps e=> ?_⟩ fun b u e=> ?_
   ·rw[eH b (fun z=>by rw[z,hT]at n;cases n) (old b o e)];exact n
   ·by_cases hb:b=P
    ·subst hb;exact⟨_,cM _ htb⟩
    ·exact⟨o,kp b o hb e⟩
   ·rw[eH b (nP b _ e (fun z=>nomatch z)) (j7 e hc0)];exact e
   ·rw[eH b (nP b _ e (fun z=>nomatch z)) (j7 e hc0)];exact e
   ·by_cases hb:b=P
    ·subst hb;rw[hT]at e;cases e;exact⟨_,eP⟩
    ·exact⟨#[],by rw[eH b hb (j7 e hc0),e];simp⟩
   ·by_cases hb:b=P
    ·subst hb
     rw[eP]at e
     cases e
     exact cM _ htb
    ·by_cases hb2:b=c'
     ·subst hb2
      rw[aJ]at e
      cases e
      exact⟨cM _ hoc,⟨_,cM _ hoc⟩⟩
     ·rw[eH b hb hb2]at e
      have ow:∀z,H z=some (.own b)->z≠P/\z≠c':=fun z e=>⟨nP z _ e (fun q=>nomatch q),j7 e hc0⟩
      refine(I.hok b u e).stay (fun z o hz q=>kp z o ?_ q) (fun z q=>by rw[eH z (ow z q).1 (ow z q).2];exact q) fun z xs q=>by rw[eH z (nP z _ q (fun q=>nomatch q)) (j7 q hc0)];exact q
      rcases hz with hz|hz
      ·rw[hz];exact hb
      ·exact(ow z hz).1
  have hsz:s.heap.objs.size<=h'.objs.size:=cQ (CW hge hlt)
  refine h h'.objs.size c' _ ctv _ _ J (fun b o hb e=>by rw[eH b hb (j7 e hc0)];exact e) (.inr ⟨c',oc,vs,tq,by rw[eP];simp,aJ,hd,hv⟩) (gB _ rfl) ?_ hsz ⟨oc,vs,tq,aJ,hd,hv⟩
  rw[eH _ (wR (gA (cA hP) hsz)) (wR hlt)]
  exact I.hok.fresh hsz
 ·have hP:s.heap.get? P=some (PySem.W.tabObj #[rawInt pos.line,rawInt pos.col,.ref c']):=I.hok P _ hT
  have hc:s.heap.get? c'=some oc:=(I.hok c' _ hC).1
  refine PySem.W.kla_makeFunctionHit (ps:=#[rawInt pos.line,rawInt pos.col,.ref c']) (cv:= .ref c') hcl I.ok.glob hg hcode C hP trivial (by simp[codeAmong,rawInt]) B fun ctv h' tk hk hsz=> ?_
  have kp:∀b o,s.heap.get? b=some o->(h'.push {cls:= .type "function",data:= .func (PySem.W.kla_fn "<lambda>" (X.env.qual++"<lambda>") params body scope (cG X.env.cells scope.names []) ((X.mg "__name__").getD .none) (.ref c') ctv)}).get? b=some o:=fun b o e=>cM _ (hk b o e)
  exact h h'.objs.size c' _ ctv H _ (I.kept (h':=h'.push _) (t':=tk) kp) (fun b o _ e=>e) (.inr ⟨c',oc,vs,tq,hT,hC,hd,hv⟩) (gB _ rfl) (I.hok.fresh hsz) hsz ⟨oc,vs,tq,hC,hd,hv⟩
end
structure oU(X:Cx)(pins:List (Addr×Obj))(I:Addr):Prop where
 lo:X.s₀.heap.objs.size<=I
 loc:I≠X.env.locals
 fs:I∉X.fs
 cl:∀x c,X.env.cells.lookup x=some c->c≠I
 pn:∀p∈X.pn++pins,p.1≠I
section
variable{X:Cx}{σ:St}{H:Hp}{s:Shared}{pins:List (Addr×Obj)}
theorem oU.new{I:Addr}(J:Inv X pins σ H s)(h:s.heap.objs.size<=I):oU X pins I:=by
 refine⟨eO J.sz h,wR (gA J.lt h),J.nofs h,fun x c e=> ?_,fun p hp=>bQ (gA (cA (J.pin p hp).1) h)⟩
 obtain⟨v,o,ho,_⟩:=J.cell x c e
 exact bQ (gA (cA ho) h)
theorem Inv.pA{p:Addr×Obj}(J:Inv X (p::pins) σ H s):Inv X pins σ H s:=J.pins_of fun q hq=>J.pin q (gY _ (dG _ hq))
theorem Inv.xW{I:Addr}{o o':Obj}{h':Heap}{tk:Nat}(J:Inv X ((I,o)::pins) σ H s)(m:oU X pins I)(k:∀b x,b≠I->s.heap.get? b=some x->h'.get? b=some x)(e:h'.get? I=some o')(d:∀v,o'.data≠.cell v):
  Inv X ((I,o')::pins) σ H {s with heap:=h',toks:=tk}:=by
 have hI:=J.pin (I,o) (gY _ cV)
 have K:=(J.pA).turned (t':=tk) (it:=I) k hI.2.1 m.loc (.inr m.lo) m.cl m.pn
 refine K.pins_of fun q hq=> ?_
 rcases cB.mp hq with z|z
 ·subst z;exact⟨e,hI.2.1,m.loc,m.fs,d⟩
 ·exact K.pin q (gY _ z)
theorem Inv.swap{p q:Addr×Obj}(J:Inv X (p::q::pins) σ H s):Inv X (q::p::pins) σ H s:=J.pins_of fun r hr=>J.pin r (gY _ (by
 rcases cB.mp hr with z|z
 ·rw[z];exact dG _ cV
 ·rcases cB.mp z with z|z
  ·rw[z];exact cV
  ·exact dG _ (dG _ z)))
theorem oU.under{I:Addr}{p:Addr×Obj}(m:oU X pins I)(n:p.1≠I):oU X (p::pins) I:=⟨m.lo,m.loc,m.fs,m.cl,fun q hq=>by
 rcases kJ.mp hq with z|z
 ·exact m.pn q (Ew _ z)
 ·rcases cB.mp z with z|z
  ·rw[z];exact n
  ·exact m.pn q (gY _ z)⟩
theorem vG{a:Array Value}{k:Nat}(T:String):∀v,(seqObj T a k).data≠.cell v:=fun v z=>by
 have z':Data.seq a k=Data.cell v:=z
 cases z'
variable{I S f l:Addr}{fo:Obj}{vs:List Value}{RR:Result->Shared->Prop}
theorem Oo(kf:Nat->Int)(R:Nat->Hp->Prop)(hA:X.A.handled=none)(mI:oU X ((f,fo)::pins) I)(mS:oU X ((f,fo)::pins) S)(Vs:S≠I)(nlI:l≠I)(hl:∀j H s,Inv X ((f,fo)::pins) σ H s->R j H->s.heap.IsList l vs.toArray)(turn:∀j v (ps:List (Addr×Obj)) H s,vs[j]? =some v->Inv X ps σ H s->(f,fo)∈ps->R j H->wpAny (model X.prog X.w) X.A.in1 (call (.ref f) [v]) (fun u s'=>∃H' t,u= .int (kf j) t/\Inv X ps σ H' s'/\R (j+1) H') (fun _ _=>False) s)(hR:∀i v H' s',vs[i]? =some v->(∀j,j<vs.length->kf i<=kf j/\(j<i->kf i<kf j))->Inv X pins σ H' s'->R vs.length H'->RR (.ok (.ret v)) s'):
  ∀(r j i:Nat) (H:Hp) (s:Shared) (vb:Value) (tb:Tok) (c:Nat) (oI:Obj),vs.length-(j+1)=r->j+1<=vs.length->Inv X ((I,oI)::(S,seqObj "list" #[vb,.int (kf i) tb] c)::(f,fo)::pins) σ H s->R (j+1) H->s.heap.IsListIter I l (j+1)->vs[i]? =some vb->i<=j->(∀j',j'<=j->kf i<=kf j'/\(j'<i->kf i<kf j'))->
   codeAny (model X.prog X.w) X.A (.builtin "min.loop" ⟨[.ref I,.ref f,.ref S],[]⟩) RR s:=by
 have nm:(toString "min"++toString ".loop":String)="min.loop":=by decide
 have W:=Vh (prog:=X.prog) (w:=X.w) (A:=X.A.in1) hA I l nlI vs.toArray
 have zs:vs.toArray.size=vs.length:=eU ..
 have m2:∀o,oU X ((S,o)::(f,fo)::pins) I:=fun o=>mI.under (p:=(S,o)) Vs
 have m3:∀o,oU X ((I,o)::(f,fo)::pins) S:=fun o=>mS.under (p:=(I,o)) Vs.symm
 intro r
 induction r with
 |zero=>
  intro j i H s vb tb c oI hr hj J Yh hit hvb hij hbest
  have pS:=(J.pin _ (gY _ (dG _ cV))).1
  refine CZ wde (by
   rw[M6 RG _]
   show wpAny _ X.A.in1 (seqItems? (.ref S)>>=_) _ _ _
   refine ak (Ww pS rfl (?_))
   show wpAny _ X.A.in1 (tryCatch (pyNext (.ref I)) _>>=_) _ _ _
   refine ak (Vi (W.done _ _ _ ⟨by rw[zs,<-show j+1=vs.length by omega];exact hit,hl (j+1) H s J.pA.pA Yh⟩ fun h' tk' hk'=> ?_))
   have k1:∀b x,b≠I->s.heap.get? b=some x->h'.get? b=some x:=fun b x hb e=>hk' b x (fun z=>hb (g8.mp z)) e
   have pI:=J.pin (I,oI) (gY _ cV)
   have J1:Inv X ((S,seqObj "list" #[vb,.int (kf i) tb] c)::(f,fo)::pins) σ H {s with heap:=h',toks:=tk'}:=J.pA.turned (t':=tk') (it:=I) k1 pI.2.1 mI.loc (.inr mI.lo) mI.cl (m2 _).pn
   have g:=(J1.pin _ (gY _ cV)).1
   show wpAny _ X.A.in1 (updateSeq S (fun _=>#[])>>=_) _ _ _
   refine ak (Wy g rfl (ak (ZL (aF ?_))))
   have sb:=wY h' S (Obj.mapSeq fun _=>(#[]:Array Value))
   have J2:=(J1.xW (o':=seqObj "list" #[] _) (tk:=tk') mS (fun b x hb e=>(sb.2 b hb).trans e) (Ry g fun _=>#[]) (vG _))
   exact hR i vb H _ hvb (fun j' hj'=>hbest j' (by omega)) J2.pA.pA (by rw[<-show j+1=vs.length by omega];exact Yh))
 |succ r ih=>
  intro j i H s vb tb c oI hr hj J Yh hit hvb hij hbest
  have hlt:j+1<vs.length:=by omega
  have pS:=(J.pin _ (gY _ (dG _ cV))).1
  refine CZ wde (by
   rw[M6 RG _]
   show wpAny _ X.A.in1 (seqItems? (.ref S)>>=_) _ _ _
   refine ak (Ww pS rfl (?_))
   show wpAny _ X.A.in1 (tryCatch (pyNext (.ref I)) _>>=_) _ _ _
   refine ak (Vi (W.item (j+1) _ _ _ (by rw[zs];exact hlt) ⟨hit,hl (j+1) H s J.pA.pA Yh⟩ fun v h' tk' hP hst' hk'=> ?_))
   have hv:vs[j+1]? =some v:=(by simpa using hP)
   have k1:∀b x,b≠I->s.heap.get? b=some x->h'.get? b=some x:=fun b x hb e=>hk' b x (fun z=>hb (g8.mp z)) e
   obtain⟨oI',hoI,hoc,hod⟩:=id hst'.1
   have J1:=J.xW (o':=oI') (tk:=tk') (m2 _) k1 hoI (fun v z=>by rw[hod]at z;cases z)
   show wpAny _ X.A.in1 (tryCatch (holding [v] (call (.ref f) [v])) _>>=_) _ _ _
   refine ak (Vi (uM (zT (turn (j+1) v _ H _ hv J1 (dG _ (dG _ cV)) Yh) (fun u s2 z=> ?_) fun _ _ z=>z.elim)))
   obtain⟨H2,t2,rfl,J2,VB⟩:=z
   have hit2:s2.heap.IsListIter I l (j+1+1):=⟨oI',(J2.pin _ (gY _ cV)).1,hoc,hod⟩
   have g:=(J2.pin _ (gY _ (dG _ cV))).1
   show wpAny _ X.A.in1 (tryCatch (holding [v,.int (kf (j+1)) t2] (richCompare .Lt (.int (kf (j+1)) t2) (.int (kf i) tb)>>=_)) _>>=_) _ _ _
   refine ak (Vi (uM (ak (CmpOf.ints_lt (prog:=X.prog) (w:=X.w) (A:=X.A.in1) (P:=fun i v=>∃t,v= .int (kf i) t) kf (fun i v h=>h) (j+1) i _ _ _ _ _ ⟨t2,rfl⟩ ⟨tb,rfl⟩ (ak (uM (Ho (ak (ZL (aF ?_))))))))))
   by_cases hb:kf (j+1)<kf i
   ·have sb:=wY s2.heap S (Obj.mapSeq fun _=>#[v,.int (kf (j+1)) t2])
    simp only[hb,decide_true,Rr]
    refine ak (Wy g rfl (ak (ZL ?_)))
    rw[nm]
    have J3:=(J2.swap.xW (o':=seqObj "list" #[v,.int (kf (j+1)) t2] _) (tk:=s2.toks) (m3 _) (fun b x hb e=>(sb.2 b hb).trans e) (Ry g fun _=>#[v,.int (kf (j+1)) t2]) (vG _)).swap
    refine aF ⟨Qs RG _,ih (j+1) (j+1) H2 _ v t2 _ oI' (by omega) hlt J3 VB ⟨oI',(J3.pin _ (gY _ cV)).1,hoc,hod⟩ hv (aH _) fun j' hj'=> ?_⟩
    by_cases e:j'=j+1
    ·subst e;exact⟨zM _,fun z=>absurd z (p7 _)⟩
    ·have q:=(hbest j' (by omega)).1
     exact⟨by omega,fun _=>by omega⟩
   ·simp only[hb,decide_false,WL,Rt]
    refine ak (ZL (?_))
    rw[nm]
    refine aF ⟨Qs RG _,ih (j+1) i H2 _ vb tb c oI' (by omega) hlt J2 VB hit2 hvb (by omega) fun j' hj'=> ?_⟩
    by_cases e:j'=j+1
    ·subst e;exact⟨by omega,fun z=>by omega⟩
    ·exact hbest j' (by omega))
theorem J0{Q:Value->Shared->Prop}{E:Value->Shared->Prop}(kf:Nat->Int)(R:Nat->Hp->Prop)(hA:X.A.handled=none)(hne:0<vs.length)(J:Inv X ((f,fo)::pins) σ H s)(Yj:R 0 H)(hl:∀j H s,Inv X ((f,fo)::pins) σ H s->R j H->s.heap.IsList l vs.toArray)(turn:∀j v (ps:List (Addr×Obj)) H s,vs[j]? =some v->Inv X ps σ H s->(f,fo)∈ps->R j H->wpAny (model X.prog X.w) X.A.in1 (call (.ref f) [v]) (fun u s'=>∃H' t,u= .int (kf j) t/\Inv X ps σ H' s'/\R (j+1) H') (fun _ _=>False) s)(hQ:∀i v H' s',vs[i]? =some v->(∀j,j<vs.length->kf i<=kf j/\(j<i->kf i<kf j))->Inv X pins σ H' s'->R vs.length H'->Q v s'):
  wpAny (model X.prog X.w) X.A (call (.builtin "min") [.ref l] [(Str.ofString "key",.ref f)]) Q E s:=by
 have nm:(toString "min"++toString ".loop":String)="min.loop":=by decide
 have hls:=hl 0 H s J Yj
 obtain⟨ol,hol,_⟩:=id hls
 have nlI:l≠s.heap.objs.size:=bQ (cA hol)
 refine kmb_tree PySem.F.kind_min PySem.F.plain_min PySem.F.entry_min (kmb_min_key _ _) (by
  show wpAny _ X.A.in1 (Builtin.Builtins.bindParams "min" ["key","default"] 0 ⟨[],[(Str.ofString "key",.ref f)]⟩>>=_) _ _ s
  refine ak (Wo (show Builtin.Builtins.bindParams "min" ["key","default"] 0 ⟨[],[(Str.ofString "key",.ref f)]⟩=pure [some (.ref f),none]from rfl) (ak (aF (ak (Vn hls (ak (Rx ?_ (cX _))))))))
  rw[nm]
  have zS:(s.heap.push {cls:= .type "list_iterator",data:= .fields #[.ref l,.int 0 0]}).objs.size=s.heap.objs.size+1:=size_push' ..
  rw[zS]
  have k0:∀b o,s.heap.get? b=some o->((s.heap.push {cls:= .type "list_iterator",data:= .fields #[.ref l,.int 0 0]}).push (seqObj "list" #[] 0)).get? b=some o:=fun b o e=>cM _ (cM _ e)
  have gI0:((s.heap.push {cls:= .type "list_iterator",data:= .fields #[.ref l,.int 0 0]}).push (seqObj "list" #[] 0)).get? s.heap.objs.size=some {cls:= .type "list_iterator",data:= .fields #[.ref l,.int 0 0]}:=cM _ (gB _ rfl)
  have gS:((s.heap.push {cls:= .type "list_iterator",data:= .fields #[.ref l,.int 0 0]}).push (seqObj "list" #[] 0)).get? (s.heap.objs.size+1)=some (seqObj "list" #[] 0):=by rw[<-zS];exact gB _ rfl
  have mI:=oU.new J (aH _)
  have mS:=oU.new J (wD s.heap.objs.size)
  have Vs:s.heap.objs.size+1≠s.heap.objs.size:=wR (nQ _)
  have Jk:Inv X ((f,fo)::pins) σ H {s with heap:=(s.heap.push {cls:= .type "list_iterator",data:= .fields #[.ref l,.int 0 0]}).push (seqObj "list" #[] 0),toks:=s.toks}:=J.kept k0
  have JI:Inv X ((s.heap.objs.size,{cls:= .type "list_iterator",data:= .fields #[.ref l,.int 0 0]})::(s.heap.objs.size+1,seqObj "list" #[] 0)::(f,fo)::pins) σ H {s with heap:=(s.heap.push {cls:= .type "list_iterator",data:= .fields #[.ref l,.int 0 0]}).push (seqObj "list" #[] 0),toks:=s.toks}:=Jk.pins_of fun q hq=>by
   rcases cB.mp hq with z|z
   ·subst z;exact⟨gI0,J.hok.fresh (aH _),mI.loc,mI.fs,fun v z=>by have z':Data.fields #[Value.ref l,.int 0 0]=Data.cell v:=z;cases z'⟩
   ·rcases cB.mp z with z|z
    ·subst z;exact⟨gS,J.hok.fresh (wD _),mS.loc,mS.fs,vG _⟩
    ·exact Jk.pin q (gY _ z)
  have W:=Vh (prog:=X.prog) (w:=X.w) (A:=X.A.in1) hA s.heap.objs.size l nlI vs.toArray
  refine aF ⟨Qs RG _,CZ wde ?_⟩
  rw[M6 RG _]
  show wpAny _ X.A.in1 (seqItems? (.ref (s.heap.objs.size+1))>>=_) _ _ _
  refine ak (Ww gS rfl (?_))
  show wpAny _ X.A.in1 (tryCatch (pyNext (.ref s.heap.objs.size)) _>>=_) _ _ _
  refine ak (Vi (W.item 0 _ _ _ (by rw[eU];exact hne) ⟨⟨_,gI0,rfl,rfl⟩,hl 0 H _ Jk Yj⟩ fun v h' tk' hP hst' hk'=> ?_))
  have hv:vs[0]? =some v:=(by simpa using hP)
  obtain⟨oI',hoI,hoc,hod⟩:=id hst'.1
  have J1:=JI.xW (o':=oI') (tk:=tk') (mI.under (p:=(s.heap.objs.size+1,seqObj "list" #[] 0)) Vs) (fun b x hb e=>hk' b x (fun z=>hb (g8.mp z)) e) hoI (fun v z=>by rw[hod]at z;cases z)
  show wpAny _ X.A.in1 (tryCatch (holding [v] (call (.ref f) [v])) _>>=_) _ _ _
  refine ak (Vi (uM (zT (turn 0 v _ H _ hv J1 (dG _ (dG _ cV)) Yj) (fun u s2 z=> ?_) fun _ _ z=>z.elim)))
  obtain⟨H2,t2,rfl,J2,VB⟩:=z
  have g:=(J2.pin _ (gY _ (dG _ cV))).1
  have sb:=wY s2.heap (s.heap.objs.size+1) (Obj.mapSeq fun _=>#[v,.int (kf 0) t2])
  show wpAny _ X.A.in1 (updateSeq (s.heap.objs.size+1) (fun _=>#[v,.int (kf 0) t2])>>=_) _ _ _
  refine ak (Wy g rfl ?_)
  rw[nm]
  have J3:=(J2.swap.xW (o':=seqObj "list" #[v,.int (kf 0) t2] _) (tk:=s2.toks) (mS.under (p:=(s.heap.objs.size,oI')) Vs.symm) (fun b x hb e=>(sb.2 b hb).trans e) (Ry g fun _=>#[v,.int (kf 0) t2]) (vG _)).swap
  exact aF ⟨Qs RG _,Oo kf R hA mI mS Vs nlI hl turn hQ _ 0 0 H2 _ v t2 _ oI' rfl hne J3 VB ⟨oI',(J3.pin _ (gY _ cV)).1,hoc,hod⟩ hv (aH _) fun j' hj'=>by
   have e:j'=0:=by omega
   subst e
   exact⟨zM _,fun z=>absurd z (p7 _)⟩⟩)
end
def Nf(K:W.Frag)(P:Addr)(pos:Pos)(qual:Str)(ix:List Nat)(ta:TA)(te:TE):TE:=fun σ H Q=>ta σ H fun vs H1=>∃(l:Addr) (its:List (Addr×List Int)),vs=[.ref l]/\SqL K H1 l (its.map fun p=>V.ref p.1)/\its≠[]/\iC H1 P pos qual/\
 ∃(kf:Nat->Int) (R:Nat->Hp->Prop),(∀H2,(∀b o,b≠P->H1 b=some o->H2 b=some o)->iC H2 P pos qual->R 0 H2)/\(∀j H,R j H->SqL K H l (its.map fun p=>V.ref p.1))/\
  (∀j p H,its[j]? =some p->R j H->te (Bt ix σ (.ref p.1)) H fun v H'=>v= .int (kf j)/\R (j+1) H')/\
  ∀i p H,its[i]? =some p->(∀j,j<its.length->kf i<=kf j/\(j<i->kf i<kf j))->R its.length H->Q (.ref p.1) H
theorem tO:∀{its:List (Addr×List Int)} {us:List Value},Vals (its.map fun p=>V.ref p.1) us->us=its.map fun p=>Value.ref p.1
 |[],_,h=>by cases h;rfl
 |p::its,_,h=>by
  cases h with
  |cons r t=>rw[tO t];cases r;rfl
section
variable{X:Cx}{a body:Expr}{ta:TA}{te:TE}{p kp pos Xy:Pos}{k:Nat}{scope:Scope}{caps:List Str}{ix:List Nat}{y:Str}{params:Arguments}{c P:Addr}
theorem Fx(L:zB X.base X.mg c P)(hcode:X.env.code= .ref c)(hc:X.calm=true)(hr:Room (k+2) X.A)(hg:Gl X "min")(hm:X.mg "min"=none)(ha:PA X [a] ta)(hcap:jd X scope caps ix)(he:∀s H f cd,Room k (Ec X X.A.in1 (y::caps) s H (q9 X scope s f cd)).A->PE (Ec X X.A.in1 (y::caps) s H (q9 X scope s f cd)) body te)(ck:aR X.env.scope scope=true:=by rfl)(hkind:scope.kind= .function:=by rfl)(hy:scope.names.lookup y=some .local:=by rfl)(hco:scope.isCoroutine=false:=by rfl)(hgen:scope.isGenerator=false:=by rfl)(hdef:defaultsOf params X.env=([],[]):=by rfl)(hbind:∀(q:Str) (cl:List (Str×Addr)) (pm cd ct u:Value),bindArgs (PySem.W.kla_fn "<lambda>" q params body scope cl pm cd ct) ⟨[u],[]⟩=pure [(y,u)]:=by intros;rfl)(he1:backTo pos (starEach [a] X.env)=(false,eval a X.env)::backTo pos (starEach [] X.env):=by rfl)(hp:(backTo pos (starEach [a] X.env)).any (·.1)=false:=by rfl):PE X (.Call (.Name "min" p) [a] [⟨some "key",.Lambda params body scope Xy,kp⟩] pos) (Nf X.K P Xy (X.env.qual++"<lambda>") ix ta te):=by
 intro pins s σ H Q I h
 refine Mt (wC I hg hm (show bootBuiltins "min"=some (.builtin "min")from by decide+kernel) ?_ (by decide) (by decide))
 refine PyProof.Rows.callWith_kw (thn (ha pos pins s σ H _ I h) fun us s1 ⟨vs,H1,I1,r1,q1⟩=>kws_cons ?_) he1 hp
 obtain⟨l,its,e,hq,hne,hL,kf,R,Yj,hRl,hturn,q⟩:=q1
 subst e
 cases r1 with
 |cons r rr=>
  cases rr
  cases r
  refine Kg (params:=params) (body:=body) I1 L hcode hL ck hdef fun f c' pm ctv H2 s2 I2 hS hL2 ho hf hge hrec=>kws_nil ?_
  have mF:=oU.new I1 hge
  have J:Inv X ((f,PySem.W.kla_obj "<lambda>" (X.env.qual++"<lambda>") params body scope (cG X.env.cells scope.names []) pm c' ctv)::pins) σ H2 s2:=I2.pins_of fun z hz=>by
   rcases cB.mp hz with z|z
   ·subst z;exact⟨ho,hf,mF.loc,mF.fs,fun v z=>nomatch z⟩
   ·exact I2.pin _ (gY _ z)
  obtain⟨oc,ocv,tq,hC,hd,hv⟩:=hrec
  have Xz:(its.map fun p=>Value.ref p.1).length=its.length:=aG _
  show wpAny (model X.prog X.w) X.A (call (.builtin "min") [.ref l] [(Str.ofString "key",.ref f)]) (EP X pins σ Q) X.xe s2
  refine J0 (vs:=its.map fun p=>Value.ref p.1) kf (fun j H=>R j H/\H c'=some (.frz oc (.own 0))) (I.ok.hd hc) (by rw[Xz];exact List.length_pos_iff.mpr hne) J ⟨Yj H2 hS hL2,hC⟩ (fun j H s J hj=> ?_) (fun j v ps H s hv' J hm hj=> ?_) fun i v H' s' hv' hb J hj=> ?_
  ·obtain⟨ws,rv,pl,hz⟩:=J.list (hRl j H hj.1)
   rw[tO rv]at pl
   exact pl.isList
  ·rw[c7]at hv'
   cases ej:its[j]? with
   |none=>rw[ej]at hv';cases hv'
   |some p=>
    rw[ej]at hv'
    cases hv'
    have hf:=(J.pin _ (gY _ hm)).1
    have hcd:s.heap.CodeRec (.ref c') (X.env.qual++"<lambda>"):=⟨c',oc,ocv,tq,rfl,(J.hok c' _ hj.2).1,hd,hv⟩
    refine zT (Ow (A:=X.A.in1) (v:= .ref p.1) ck hkind hcap hy hco hgen hr.in1 J.env0.in1.frames (he _ _ _ _ (hr.in1.deeper _)) J rfl hf hcd hbind (hturn j p H ej hj.1)) (fun u s' z=> ?_) fun _ _ z=>z.elim
    obtain⟨w,H',J',rw',⟨rfl,hR'⟩,hfz⟩:=z
    obtain⟨t,rfl⟩:=rw'
    exact⟨H',t,rfl,J',hR',hfz _ _ _ hj.2⟩
  ·rw[c7]at hv'
   cases ei:its[i]? with
   |none=>rw[ei]at hv';cases hv'
   |some p=>
    rw[ei]at hv'
    cases hv'
    rw[Xz]at hb hj
    exact⟨.ref p.1,H',J,rfl,q i p H' ei hb hj.1⟩
end
def El(T:Addr)(H:Hp):Prop:=H T=some (.tbl #[])/\∀b,b≠T->H b=none\/∃o xs,H b=some (.frz o (.lst xs))
theorem Gu{P:Program}{w:World}{K:W.Frag}{mg mb:Str->Option Value}{CX:CXT}{k:Nat}{fa a c T:Addr}{fd:FuncData}{x:Str}{sp:Sp}{s₁:Shared}{vs:List Value}{ns:List Int}
  (KX:K.In s₁.heap)(hT:PySem.W.CodeHd s₁.heap c T)(hT0:s₁.heap.get? T=some (PySem.W.tabObj #[]))(Yk:K.lookup T=none)(hbm:∃bm ob,mg "__builtins__"=some (.ref bm)/\bm≠builtinsNs/\s₁.heap.get? bm=some ob/\ob.cls= .type "module"/\ob.dict=some builtinsNs/\ob.data= .plain)(hns:s₁.heap.Ns mainGlobals mg)(hb:s₁.heap.Ns builtinsNs mb)(hbb:∀x:Str,x≠"__name__"->mb x=bootBuiltins x)(hlim:s₁.heap.NoLimit)(hg:s₁.gens=#[])(ha:s₁.heap.get? a=some {cls:= .type "list",data:= .seq vs.toArray})(hi:IntsAre vs ns)(hl:ns.length<=sizeLine)(hr:Room k callerA)
  (F:∀base:Heap,K.In base->base.Ns mainGlobals mg->zB base mg c T->FnOk P w K mg base CX k fa fd [x] sp)(hbind:∀(s:Shared) (u:Value),BindsTo s fd ⟨[u],[]⟩ [(x,u)])(hsp:∀H:Hp,El T H->SqL K H a (ns.map V.int)->sp [.ref a] H (fun v _=>v= .bl true) fun _ _ _=>False)(hCX:∀H e s',CX [] H s₁ (fun _ _ _=>False) e s'->False):
  codeAny (model P w) callerA (.call (.ref fa) ⟨[.ref a],[]⟩) (fun r s'=>r= .ok (.ret (.bool true))/\OldK s₁.heap s'.heap/\s'.os=s₁.os/\AllBare s'.gens) s₁:=by
 have rv:=vals_ints hi
 have lenV:=hi.length
 have aT:a≠T:=fun e=>by rw[e,hT0]at ha;cases ha
 have core:∀H:Hp,El T H->SqL K H a (ns.map V.int)->HOk P w H s₁.heap->(∀b,H b≠none->b=a\/b=T)->(H a≠none->K.lookup a=none)->
   codeAny (model P w) callerA (.call (.ref fa) ⟨[.ref a],[]⟩) (fun r s'=>r= .ok (.ret (.bool true))/\OldK s₁.heap s'.heap/\s'.os=s₁.os/\AllBare s'.gens) s₁:=by
  intro H hO hS hok hA hK
  have base_of:∀{b:Addr} {o:Obj},s₁.heap.get? b=some o->H b=none->(hidT s₁.heap H).get? b=some o:=fun e n=>hidT_get e n
  have noA:∀{b:Addr} {o:Obj},s₁.heap.get? b=some o->(∀vs n,o.data≠.seq vs n)->o.cls≠.none->H b=none:=fun{b o} e d d2=>by
   cases q:H b with
   |none=>rfl
   |some u=>
    rcases hA b (by rw[q];simp)with e'|e'
    ·subst e'
     rw[ha]at e;cases e
     exact absurd rfl (d _ _)
    ·subst e'
     rw[hT0]at e;cases e
     exact absurd rfl d2
  have noD:∀{b:Addr} {o:Obj} {es:Array DictEntry} {ep:Nat},s₁.heap.get? b=some o->o.data= .dict es ep->H b=none:=fun{b o es ep} e d=>by
   cases q:H b with
   |none=>rfl
   |some u=>
    rcases hA b (by rw[q];simp)with e'|e'
    ·subst e'
     rw[ha]at e;cases e
     have d':Data.seq vs.toArray _=Data.dict es ep:=d
     cases d'
    ·subst e'
     rw[hT0]at e;cases e
     have d':Data.fields (#[]:Array Value)=Data.dict es ep:=d
     cases d'
  have nsK:∀{b:Addr} {m:Str->Option Value},s₁.heap.Ns b m->(hidT s₁.heap H).Ns b m:=fun{b m} ⟨o,es,ep,e,d,r⟩=>⟨o,es,ep,base_of e (noD e d),d,r⟩
  have hKb:K.In (hidT s₁.heap H):=fun b o e=>base_of (KX b o e) (by
   cases q:H b with
   |none=>rfl
   |some u=>
    rcases hA b (by rw[q];simp)with e'|e'
    ·subst e'
     rw[hK (by rw[q];simp)]at e;cases e
    ·subst e'
     rw[Yk]at e;cases e)
  have gT:mainGlobals≠T:=fun z=>by
   obtain⟨o,es,ep,e,d,_⟩:=hns
   rw[z,hT0]at e
   cases e
   have d':Data.fields (#[]:Array Value)=Data.dict es ep:=d
   cases d'
  have hM:Mod K mg (hidT s₁.heap H):=⟨hKb,nsK hns,⟨mb,nsK hb,hbb⟩,let⟨mc,h1,h2⟩:=hlim;⟨mc,nsK h1,h2⟩⟩
  have hLB:zB (hidT s₁.heap H) mg c T:=by
   refine⟨?_,?_,gT⟩
   ·obtain⟨o,vs,file,tf,flags,tg,inF,text,tt,e1,r1,r2,r⟩:=hT
    exact⟨o,vs,file,tf,flags,tg,inF,text,tt,base_of e1 (noA e1 (fun vs n z=>by rw[r2]at z;cases z) (by rw[r1];exact fun z=>nomatch z)),r1,r2,r⟩
   ·obtain⟨bm,ob,b1,b2,b3,b4,b5,b6⟩:=hbm
    refine⟨bm,ob,b1,b2,fun z=> ?_,fun z=> ?_,base_of b3 (noA b3 (fun vs n z=>by rw[b6]at z;cases z) (by rw[b4];exact fun z=>nomatch z)),b4,b5,b6⟩
    ·obtain⟨o,es,ep,e,d,_⟩:=hns
     rw[<-z,b3]at e;cases e;rw[b6]at d;cases d
    ·rw[z,hT0]at b3;cases b3;cases b4
  have e0:Env0 P w K mg (hidT s₁.heap H) callerA [] s₁ H:=⟨rfl,hM,fun b o e=>of_hidT e,zN (hidT_size _ _),trivial,fun b hb=>absurd (show b∈([]:List Addr)from hb) (by simp),hok,.of_eq hg⟩
  refine M4 ((F _ hKb (nsK hns) hLB).run callerA [] s₁ H ⟨[.ref a],[]⟩ [.ref a] [.ref a] _ _ hr e0 (hbind s₁ (.ref a)) (.cons rfl .nil) (hsp H hO hS)) fun r s' h=> ?_
  cases r with
  |error e=>exact(hCX H e s' h).elim
  |ok fl=>
   cases fl with
   |next=>exact False.elim h
   |brk=>exact False.elim h
   |cont=>exact False.elim h
   |ret u=>
    obtain⟨v,H',os,bare,un,hok',r',q⟩:=h
    have q':v= .bl true:=q
    subst q'
    obtain rfl:u=Value.bool true:=r'
    refine⟨rfl,⟨fun b o e=> ?_,fun b o e=>un.there b o e (by simp)⟩,os,bare⟩
    by_cases hbT:b=T
    ·subst hbT
     obtain⟨more,z⟩:=un.tbls b _ hO.1
     have z2:s'.heap.get? b=some (PySem.W.tabObj (#[]++more)):=hok' b _ z
     rw[hT0]at e
     cases e
     exact .inr (.inl ⟨(hT.tab hT0).isCodeTable,rfl,#[],more,rfl,z2⟩)
    ·refine .inl ?_
     cases q:H b with
     |none=>exact un.keep b o e q (by intro z;exact absurd (show b∈([]:List Addr)from z) (by simp)) (by simp)
     |some u=>
      rcases hO.2 b hbT with z|⟨ob,xs,z⟩
      ·rw[q]at z;cases z
      ·have z2:=un.frzs b ob _ z
       obtain⟨e1,_⟩:=hok b _ z
       obtain⟨e2,_⟩:=hok' b _ z2
       rw[e]at e1;cases e1
       exact e2
 cases hk:K.lookup a with
 |some o=>
  have e:=KX a o hk
  rw[ha]at e
  cases e
  refine core (fun b=>if b=T then some (.tbl #[])else none) ⟨au rfl,fun b hb=> .inl (ao hb)⟩ (.inr ⟨_,vs.toArray,_,hk,rfl,rfl,rfl,by rw[eU,lenV];exact hl,by simpa using rv⟩) (fun b u z=> ?_) (fun b z=> ?_) fun z=>absurd (ao aT) z
  ·by_cases hb:b=T
   ·have z':=(au hb).symm.trans z
    cases z'
    subst hb
    exact hT0
   ·have z':=(ao hb).symm.trans z
    cases z'
  ·by_cases hb:b=T
   ·exact .inr hb
   ·exact absurd (ao hb) z
 |none=>
  refine core (fun b=>if b=T then some (.tbl #[])else if b=a then some (.frz {cls:= .type "list",data:= .seq vs.toArray} (.lst (ns.map V.int)))else none) ⟨au rfl,fun b hb=> ?_⟩ (.inl (.inr ⟨{cls:= .type "list",data:= .seq vs.toArray},(ao aT).trans (au rfl)⟩)) (fun b u z=> ?_) (fun b z=> ?_) fun _=>hk
  ·by_cases hba:b=a
   ·exact .inr ⟨_,_,(ao hb).trans (au hba)⟩
   ·exact .inl ((ao hb).trans (ao hba))
  ·by_cases hb:b=T
   ·have z':=(au hb).symm.trans z
    cases z'
    subst hb
    exact hT0
   ·by_cases hba:b=a
    ·have z':=((ao hb).trans (au hba)).symm.trans z
     cases z'
     subst hba
     exact⟨ha,by rw[aG];exact hl,vs,_,rv,ha⟩
    ·have z':=((ao hb).trans (ao hba)).symm.trans z
     cases z'
  ·by_cases hb:b=T
   ·exact .inr hb
   ·by_cases hba:b=a
    ·exact .inl hba
    ·exact absurd ((ao hb).trans (ao hba)) z
theorem HN{l:PySem.W.OpenLaw}{n k:Nat}{q:Program}{loose:List Str}{XP:(Str->Option Value)->Heap->Prop}{YP:World->Heap->Prop}{d:DefRec}{K:Params->PySem.W.Frag}{CX:CXT}{sp:Addr->PySem.W.Frag->Sp}{x:Str}{c T:Addr}(hn:l.most=some n)(hn2:n<=sizeLine)(hdf:d.params.defaults=[])(hr:Room k callerA)(hY:∀(w:World) (h:Heap),YP w h->(K w.params).In h/\h.get? T=some (PySem.W.tabObj #[]))(hc:∀w:World,PySem.W.codeHdIn (K w.params) c T=true)(Yk:∀w:World,(K w.params).lookup T=none)
  (F:∀(w:World) (mg:Str->Option Value) (fa:Addr) (h:Heap),(K w.params).In h->h.Ns mainGlobals mg->mg d.name=some (.ref fa)->
   ∃fd:FuncData,(∀(s:Shared) (u:Value),BindsTo s fd ⟨[u],[]⟩ [(x,u)])/\
    ∀base:Heap,(K w.params).In base->base.Ns mainGlobals mg->zB base mg c T->FnOk l.prog w (K w.params) mg base CX k fa fd [x] (sp T (K w.params)))(hsp:∀(K:W.Frag) (H:Hp) (a:Addr) (ns:List Int),ns.length<=n->El T H->SqL K H a (ns.map V.int)->sp T K [.ref a] H (fun v _=>v= .bl true) fun _ _ _=>False)(hCX:∀(H:Hp) (s:Shared) (e:Value) (s':Shared),CX [] H s (fun _ _ _=>False) e s'->False):
  PySem.W.WalkO q loose XP YP l.row.toRowW d [] (fun f vs=>PySem.call f vs):=by
 refine Att.attach_call hn hdf fun w s₀ s₁ mg mb fa o pm cd doc a vs ns G Y ho hd hcd hmg hobj hints hlen hg=> ?_
 obtain⟨KX,hT0⟩:=hY w _ Y
 obtain⟨fd,hb,hF⟩:=F w mg fa _ KX G.T.g hmg
 exact Gu KX (PySem.W.codeHd_of_K KX (hc w)) hT0 (Yk w) G.T.bmain G.T.g G.T.b G.T.builtins G.T.nolimit hg hobj hints (eO hlen hn2) hr hF hb (fun H hO hS=>hsp (K w.params) H a ns hlen hO hS) fun H e s'=>hCX H s₁ e s'
theorem Fun.okC{P:Program}{w:World}{K:W.Frag}{mg:Str->Option Value}{base:Heap}{x qual:Str}{st:Stmt}{f c:Addr}{fd:FuncData}{N ps:List Str}{k:Nat}{sp:Sp}(F:Fun K x qual st f fd)(hcd:fd.code= .ref c)(S:FnScope N ps (defScope st))(len:∀vs H Q E,sp vs H Q E->vs.length=ps.length)(hbody:∀(A:Around) (outer:List Env) (s:Shared) (H:Hp) (vs:List V) (Q:VK) (E:XK),Room k (A.deeper (envOfC qual (defScope st) s.heap.objs.size f (.ref c)))->sp vs H Q E->
   ∃t,PSs (cxOf CX0 P w K mg base N qual (defScope st) f (.ref c) A outer s H E).nox (defBody st) t/\t {nx:=fun _ H'=>Q .non H',rt:=Q} (start N vs) H):FnOk P w K mg base CX0 (k+1) f fd ps sp:=by
 obtain⟨oc,od,kV,doc,pm,an,cdv,ct,osl,rfl,lk,hcd'⟩:=F.ex
 have e:cdv= .ref c:=hcd
 subst e
 refine fn_of lk hcd' S len fun A outer s H vs Q E hr hsp=> ?_
 obtain⟨t,h,q⟩:=hbody A outer s H vs Q E hr hsp
 exact⟨t,h.nox,q⟩
end L2
namespace DH
open PySem PySem.W PyProof.Rows PySem.Calls
section
variable{prog:Program}{w:World}{A:Around}{E:Value->Shared->Prop}{s:Shared}{d it v:Addr}{es:Array DictEntry}{ep i:Nat}
end
end DH
namespace L2
open PySem PySem.Spec PyProof.Rows
section
variable{X:Cx}{pins aaG:List (Addr×Obj)}{σ σ0:St}{H H0:Hp}{s s0:Shared}{d:Addr}{kvs:List (List Key×V)}{o:Obj}
end
section
variable{d:Addr}{o:Obj}{kvs:List (List Key×V)}{g:TG}{tc:TT}{te:TE}{Fin:List V->Hp->Prop}{ini:St}{H:Hp}
end
def isK(k:Int):Value->Bool
 | .int i _=>i==k
 |_=>false
theorem EY{i:Int}:∀{n:Nat} {us:List Value},us.length=n->(∀(j:Nat) (u:Value),us[j]? =some u->∃t:Tok,u=Value.int (i+((j:Nat):Int)*1) t)->Vals (((List.range n).map fun(k:Nat)=>i+(k:Int)).map V.int) us:=by
 intro n us hl hi
 have go:∀(us:List Value) (k:Nat),(∀(j:Nat) (u:Value),us[j]? =some u->∃t:Tok,u=Value.int (i+((j+k:Nat):Int)*1) t)->Vals (((List.range' k us.length).map fun(k:Nat)=>i+(k:Int)).map V.int) us:=by
  intro us
  induction us with
  |nil=>intro k _;exact .nil
  |cons u us ih=>
   intro k h
   obtain⟨t,e⟩:=h 0 u rfl
   refine .cons ⟨t,?_⟩ ?_
   ·rw[e]
    show Value.int (i+((0+k:Nat):Int)*1) t=Value.int (i+(k:Int)) t
    congr 1;omega
   ·refine ih (k+1) fun j u hu=> ?_
    obtain⟨t,e⟩:=h (j+1) u (by simpa using hu)
    exact⟨t,by rw[e];congr 1;omega⟩
 have:=go us 0 fun j u hu=>hi j u hu
 rw[hl,<-List.range_eq_range']at this
 exact this
section
variable{X:Cx}{e a b:Expr}{ta:TE}{f:Str}{pos p p' pos':Pos}
theorem NT(K:W.Frag)(he:PE X e ta)(hb:attributeBase e f X.env (eval e X.env)=eval e X.env)(h:X.K=K:=by rfl):PE X (.Attribute e f pos) (tFld K ta f):=by subst h;exact nM he hb
theorem nZ:MtM X "list.index" (fun x vs H Q=>∃(l:Addr) (ns:List Int) (k:Int) (j:Nat),x= .ref l/\vs=[.int k]/\H l=some (.lst (ns.map V.int))/\ns[j]? =some k/\(∀i,i<j->ns[i]? ≠some k)/\ns.length<=1000/\Q (.int (j:Nat)) H):=by
 intro pins s σ H x vs v us Q I rx rv h
 obtain⟨l,ns,k,j,rfl,rfl,hH,hj,hno,hb,q⟩:=h
 cases rx
 obtain⟨u,rfl,ru⟩:=rv.one
 obtain⟨t,rfl⟩:=ru
 obtain⟨z,its,n,r,hl,e⟩:=I.lstM hH
 rw[aG]at z hl
 have hI:∀(i:Nat) (v:Value),its[i]? =some v->∃t,v= .int (ns.getD i 0) t/\ns[i]? =some (ns.getD i 0):=fun i v hv=>by
  have hi:i<ns.length:=by have:=(qy.mp hv).1;omega
  have e0:ns[i]? =some (ns.getD i 0):=by rw[kO,gn hi];rfl
  obtain⟨u,hu,ru⟩:=r.get (show(ns.map V.int)[i]? =some (.int (ns.getD i 0)) by rw[c7,e0];rfl)
  rw[hv]at hu
  cases hu
  obtain⟨t,rfl⟩:=ru
  exact⟨t,rfl,e0⟩
 have hj':j<its.length:=by have:=(qy.mp hj).1;omega
 refine Mq F.slot_list_index ⟨_,e,rfl⟩ F.entry_list_index (F.args_list_index_2 _ _)
  (MeetsSeq.list_index l its.toArray n (.int k t) (isK k) (fun y hy=> ?_) j (by simpa using hj') (by omega) ?_ (fun i hi hlt=> ?_)) ⟨e,?_⟩
 ·obtain⟨i,hi,rfl⟩:=zR (show y∈its by simpa using hy)
  obtain⟨t',e',_⟩:=hI i its[i] (gn hi)
  rw[e']
  exact MeetsSeq.EqGives.int _ _ _ _
 ·obtain⟨t',e',e0⟩:=hI j its[j] (gn hj')
  show isK k its[j]=true
  rw[e']
  rw[hj]at e0
  have:k=ns.getD j 0:=p8 e0
  show(ns.getD j 0==k)=true
  rw[<-this];exact beq_self_eq_true _
 ·have hi':i<its.length:=by simpa using hi
  obtain⟨t',e',e0⟩:=hI i its[i] (gn hi')
  show isK k its[i]=false
  rw[e']
  show(ns.getD i 0==k)=false
  refine beq_eq_false_iff_ne.mpr fun z=>hno i hlt ?_
  rw[e0,z]
 ·exact⟨.int (j:Nat),H,I.tok _,⟨s.toks,rfl⟩,q⟩
end
section
variable{X:Cx}{a b:Expr}{ta:TA}{p pos p' pos':Pos}
def mZ(i:Int)(n:Nat):List Int:=(List.range n).map fun(k:Nat)=>i+(k:Int)
def RN(ta:TA):TE:=fun σ H Q=>ta σ H fun vs H1=>∃i j:Int,vs=[.int i,.int j]/\0<=i/\i<=j/\j<=1000000/\∀l,H1 l=none->Q (.ref l) (upd H1 l (.lst ((mZ i (j-i).toNat).map V.int)))
theorem vo(hc:X.calm=true)(Yd:Gl X "list")(X6:X.mg "list"=none)(hg:Gl X "range")(hm:X.mg "range"=none)(ha:PA X [a,b] ta)(hs:starEach [a,b] X.env=[(false,eval a X.env),(false,eval b X.env)]:=by rfl)(hs':starEach [b] X.env=[(false,eval b X.env)]:=by rfl)(hs2:starEach [Expr.Call (.Name "range" p') [a,b] [] pos'] X.env=[(false,eval (Expr.Call (.Name "range" p') [a,b] [] pos') X.env)]:=by rfl):
  PE X (.Call (.Name "list" p) [.Call (.Name "range" p') [a,b] [] pos'] [] pos) (RN ta):=by
 intro pins s σ H Q I h
 refine Mt (wC I Yd X6 (show bootBuiltins "list"=some (.type "list")from by decide+kernel) ?_ (by decide) (by decide))
 refine Ez ?_ hs2 rfl
 rw[hs2]
 refine Vp ?_
 refine Call_ (wC I hg hm Wk (Ez (thn (ha pos' pins s σ H _ I h) fun us s1 ⟨vs,H1,I1,r1,q1⟩=> ?_) (by rw[hs,hs']) (by rw[hs'];rfl)))
 obtain⟨i,j,e,q0,q1,q2,q⟩:=q1
 subst e
 cases r1 with
 |cons r rr=>
  cases rr with
  |cons r' rr=>
   cases rr
   obtain⟨t,rfl⟩:=r
   obtain⟨t',rfl⟩:=r'
   refine call_range_2 ?_
   refine RB ?_
   have hn:Builtin.Range.rangeSize i j 1=(((j-i).toNat:Nat):Int):=by rw[Z8];split<;>omega
   refine call_list_range (I.ok.hd hc) (ZM ..) (small_one (by omega) (by omega) (by omega) (by omega)) hn (by omega) fun h' tk acc c hk hS hacc=> ?_
   have hv:Vals ((mZ i (j-i).toNat).map V.int) acc.toList:=EY (by rw[sO];exact hacc.1) (fun k u hu=>hacc.2 k u (by simpa using hu))
   have hz:((mZ i (j-i).toNat).map V.int).length<=sizeLine:=by unfold mZ;rw[fM];simp;omega
   have I2:Inv X pins σ H1 {s1 with heap:=s1.heap.push {cls:=Value.type "range",data:=Data.fields #[Value.int i t,Value.int j t',Value.int 1 s1.toks]},toks:=s1.toks+1}:=I1.kept fun b o e=>cM _ e
   exact⟨.ref _,_,I2.laid (t':=tk) (o:= .lst ((mZ i (j-i).toNat).map V.int)) hk (aH _) ⟨hz,acc.toList,c,hv,by simpa using hS⟩,rfl,q _ (I2.hok.fresh (aH _))⟩
end
structure GZ(K:W.Frag)(C:Addr)(x qual:Str)(st:Stmt)(ps:List Str)(f:Addr)(fd:FuncData):Prop where
 F:Fun K x qual st f fd
 b:Binds K fd ps []
 m:Meth K C x f
end L2
namespace L2
open PySem PySem.Spec PyProof.Rows PySem.W
section
variable{X:Cx}
end
end L2
namespace PySem
open Sem (wp)
section
variable{prog:Program}{w:World}{A:Around}{E:Value->Shared->Prop}{s:Shared}
end
section
variable{prog:Program}{w:World}{A:Around}{E:Value->Shared->Prop}{s:Shared}
end
end PySem
namespace L2
open PySem PySem.Spec PyProof.Rows
section
variable{X:Cx}{es:List Expr}{k:Nat}{NQ:Pos}
end
section
variable{ini:St}{H:Hp}{g:TG}{tc:TT}{te:TE}{Fin:List V->Hp->Prop}{K:W.Frag}{a b:Addr}{xs ys:List V}
end
end L2
namespace HT
open PySem PyProof.Rows
section
open PySem.SeqAt
open PySem.AutoSeq1 (wpAny_loadPart')
open PySem.MeetsSeq PySem.MeetsSeq2 PySem.MeetsSeq3
end
section
variable{prog:Program}{w:World}{A:Around}{E:Value->Shared->Prop}{s:Shared}
end
end HT
namespace L2
open PySem PySem.Spec PyProof.Rows
section
variable{X:Cx}
end
end L2
namespace Sx
abbrev Vec:=Nat->Int
abbrev tu:=Nat->Vec
def sm:Nat->(Nat->Int)->Int
 |0,_=>0
 |k+1,f=>sm k f+f k
theorem aP{f g:Nat->Int}:∀k,(∀i,i<k->f i=g i)->sm k f=sm k g
 |0,_=>rfl
 |k+1,h=>by
  show sm k f+f k=sm k g+g k
  rw[aP k fun i hi=>h i (lV hi),h k (nQ k)]
theorem jo(f g:Nat->Int):∀k,sm k (fun i=>f i+g i)=sm k f+sm k g
 |0=>rfl
 |k+1=>by
  show sm k (fun i=>f i+g i)+(f k+g k)=sm k f+f k+(sm k g+g k)
  rw[jo f g k];omega
theorem eX(a:Int)(f:Nat->Int):∀k,sm k (fun i=>a*f i)=a*sm k f
 |0=>by show(0:Int)=a*0;rw[wQ]
 |k+1=>by
  show sm k (fun i=>a*f i)+a*f k=a*(sm k f+f k)
  rw[eX a f k,Int.mul_add]
theorem cO{f:Nat->Int}:∀k,(∀i,i<k->f i=0)->sm k f=0
 |0,_=>rfl
 |k+1,h=>by
  show sm k f+f k=0
  rw[cO k fun i hi=>h i (lV hi),h k (nQ k)];rfl
theorem dI{f:Nat->Int}{j:Nat}:∀k,j<k->(∀i,i<k->i≠j->f i=0)->sm k f=f j
 |k+1,hj,h=>by
  show sm k f+f k=f j
  by_cases e:j=k
  ·subst e
   rw[cO j fun i hi=>h i (lV hi) (bQ hi),Wq]
  ·rw[dI k (by omega) fun i hi=>h i (lV hi),h k (nQ k) (jY e),Int.add_zero]
theorem Iw{f:Nat->Int}{j:Nat}:∀k,j+1<k->(∀i,i<k->i≠j->i≠j+1->f i=0)->f j+f (j+1)=0->sm k f=0
 |k+1,hj,h,z=>by
  show sm k f+f k=0
  by_cases e:j+1=k
  ·subst e
   rw[dI (j:=j) (j+1) (nQ _) fun i hi hn=>h i (lV hi) hn (bQ hi)]
   exact z
  ·rw[Iw k (by omega) (fun i hi=>h i (lV hi)) z,h k (nQ k) (by omega) (jY e)];rfl
theorem uP(f:Nat->Nat->Int)(m:Nat):∀k,sm k (fun i=>sm m (fun j=>f i j))=sm m (fun j=>sm k (fun i=>f i j))
 |0=>by show(0:Int)=sm m fun _=>0;rw[cO m fun _ _=>rfl]
 |k+1=>by
  show sm k (fun i=>sm m (fun j=>f i j))+sm m (fun j=>f k j)=sm m (fun j=>sm k (fun i=>f i j)+f k j)
  rw[uP f m k,jo]
theorem Dz{f:Nat->Int}:∀k,(∀i,i<k->0<=f i)->0<=sm k f
 |0,_=>zM _
 |k+1,h=>Int.add_nonneg (Dz k fun i hi=>h i (lV hi)) (h k (nQ k))
theorem Iz{f:Nat->Int}:∀k,sm k f<0->∃i,i<k/\f i<0
 |0,h=>absurd h (wgz 0)
 |k+1,h=>by
  by_cases c:f k<0
  ·exact⟨k,nQ k,c⟩
  ·have h':sm k f+f k<0:=h
   obtain⟨i,hi,hf⟩:=Iz k (f:=f) (by omega)
   exact⟨i,lV hi,hf⟩
theorem Dy{f:Nat->Int}:∀k,(∀i,i<k->0<=f i)->sm k f<=0->∀i,i<k->f i=0
 |0,_,_,i,hi=>absurd hi (MF i)
 |k+1,h,z,i,hi=>by
  have h1:=Dz k fun i hi=>h i (lV hi)
  have h2:=h k (nQ k)
  have z':sm k f+f k<=0:=z
  by_cases e:i=k
  ·subst e;omega
  ·exact Dy k (fun i hi=>h i (lV hi)) (by omega) i (by omega)
def sg(i:Nat):Int:=if i %2=0 then 1 else -1
theorem Nj(i:Nat):sg (i+1)= -sg i:=by
 unfold sg
 rcases Nat.mod_two_eq_zero_or_one i with h|h
 ·rw[au h,ao (by omega)]
 ·rw[au (by omega),ao (by omega)];rfl
theorem RQ(i:Nat):sg i=1\/sg i= -1:=by unfold sg;split;exact .inl rfl;exact .inr rfl
def Hq(i r:Nat):Nat:=if r<i then r else r+1
def Mu(i r:Nat):Nat:=if r<i then r else r-1
theorem I9(i r:Nat):Hq i r≠i:=by unfold Hq;split<;>omega
theorem qb{i r j:Nat}(h:j≠i):Hq i r=j↔r=Mu i j:=by unfold Hq Mu;split<;>split<;>omega
theorem Ai{i r k:Nat}(hi:i<k+1)(hr:r<k):Hq i r<k+1:=by unfold Hq;split<;>omega
theorem RJ{i j k:Nat}(h:j≠i)(hi:i<k+1)(hj:j<k+1):Mu i j<k:=by unfold Mu;split<;>omega
def qX(M:tu)(i:Nat):tu:=fun r c=>M (Hq i r) (c+1)
def det:Nat->tu->Int
 |0,_=>1
 |k+1,M=>sm (k+1) fun i=>sg i*M i 0*det k (qX M i)
def put(M:tu)(r:Nat)(v:Vec):tu:=fun i=>if i=r then v else M i
theorem put_same(M:tu)(r:Nat)(v:Vec):put M r v r=v:=by unfold put;rw[au rfl]
theorem gR(M:tu){r i:Nat}(v:Vec)(h:i≠r):put M r v i=M i:=by unfold put;rw[ao h]
theorem qQ(M:tu)(r:Nat):put M r (M r)=M:=by funext i;unfold put;split;rename_i h;rw[h];rfl
theorem iw(M:tu){r t:Nat}(u v:Vec)(h:r≠t):put (put M r u) t v=put (put M t v) r u:=by
 funext i;unfold put
 by_cases h1:i=t
 ·by_cases h2:i=r
  ·exact absurd (h2.symm.trans h1) h
  ·rw[au h1,ao h2,au h1]
 ·rw[ao h1]
  by_cases h2:i=r
  ·rw[au h2,au h2]
  ·rw[ao h2,ao h2,ao h1]
theorem iU(M:tu)(i:Nat)(v:Vec):qX (put M i v) i=qX M i:=by
 funext r c;unfold qX;rw[gR _ _ (I9 i r)]
theorem vI(M:tu){i j:Nat}(v:Vec)(h:j≠i):qX (put M j v) i=put (qX M i) (Mu i j) (fun c=>v (c+1)):=by
 funext r c
 unfold qX put
 by_cases e:r=Mu i j
 ·rw[au e,au ((qb h).mpr e)]
 ·rw[ao e,ao fun z=>e ((qb h).mp z)]
theorem uq:∀k {M N:tu},(∀i,i<k->∀j,j<k->M i j=N i j)->det k M=det k N
 |0,_,_,_=>rfl
 |k+1,M,N,h=>aP (k+1) fun i hi=>by
  rw[h i hi 0 (wF k),uq k (M:=qX M i) (N:=qX N i) fun r hr c hc=>h _ (Ai hi hr) _ (Nat.succ_lt_succ hc)]
theorem vR:∀k (M:tu) (r:Nat) (a b:Int) (u v:Vec),r<k->det k (put M r fun c=>a*u c+b*v c)=a*det k (put M r u)+b*det k (put M r v)
 |k+1,M,r,a,b,u,v,hr=>by
  unfold det
  rw[<-eX,<-eX,<-jo]
  refine aP (k+1) fun i hi=> ?_
  by_cases e:r=i
  ·subst e
   rw[iU,iU,iU,put_same,put_same,put_same]
   grind
  ·rw[vI _ _ e,vI _ _ e,vI _ _ e,gR _ _ (jY e),gR _ _ (jY e),gR _ _ (jY e),vR k (qX M i) (Mu i r) a b (fun c=>u (c+1)) (fun c=>v (c+1)) (RJ e hi hr)]
   grind
theorem qt:∀k (M:tu) (r:Nat),r+1<k->M r=M (r+1)->det k M=0
 |k+1,M,r,hr,e=>by
  unfold det
  refine Iw (j:=r) (k+1) hr (fun i hi h1 h2=> ?_) ?_
  ·have z:det k (qX M i)=0:=by
    by_cases c:i<r
    ·refine qt k (qX M i) (r-1) (by omega) ?_
     funext x;unfold qX Hq
     rw[ao (by omega),ao (by omega),show r-1+1=r by omega,e]
    ·refine qt k (qX M i) r (by omega) ?_
     funext x;unfold qX Hq
     rw[au (by omega),au (by omega),e]
   rw[z,wQ]
  ·have z:qX M r=qX M (r+1):=by
    funext x c;unfold qX Hq
    by_cases h1:x<r
    ·rw[au h1,au (by omega)]
    ·rw[ao h1]
     by_cases h2:x=r
     ·subst h2;rw[au (by omega),e]
     ·rw[ao (by omega)]
   rw[z,e,Nj]
   grind
theorem Lb(k:Nat)(M:tu)(t:Nat)(u v:Vec)(h:t+1<k):det k (put (put M t u) (t+1) v)= -det k (put (put M t v) (t+1) u):=by
 have n1:t≠t+1:=by omega
 have z:∀w:Vec,det k (put (put M t w) (t+1) w)=0:=fun w=>qt k _ t h (by rw[gR _ _ n1,put_same,put_same])
 have TJ:∀(N:tu) (r:Nat) (a b:Vec),r<k->det k (put N r fun c=>a c+b c)=det k (put N r a)+det k (put N r b):=fun N r a b hr=>by
  have:=vR k N r 1 1 a b hr
  simp only[Mh]at this
  exact this
 have z1:=z fun c=>u c+v c
 rw[TJ _ (t+1) u v h,iw M _ _ n1,iw M _ _ n1,TJ _ t u v (by omega),TJ _ t u v (by omega),<-iw M _ _ n1,<-iw M _ _ n1,<-iw M _ _ n1,<-iw M _ _ n1,z u,z v]at z1
 omega
theorem oK:∀(d k:Nat) (M:tu) (r:Nat),r+d+1<k->M r=M (r+d+1)->det k M=0
 |0,k,M,r,h,e=>qt k M r h e
 |d+1,k,M,r,h,e=>by
  have f:=Lb k M (r+d+1) (M (r+d+1)) (M (r+d+1+1)) h
  rw[qQ,qQ]at f
  rw[f,oK d k _ r (by omega) (by rw[gR _ _ (by omega),gR _ _ (by omega),gR _ _ (by omega),put_same,e];rfl)]
  rfl
theorem La{k:Nat}{M:tu}{r t:Nat}(hr:r<k)(ht:t<k)(h:r≠t)(e:M r=M t):det k M=0:=by
 by_cases c:r<t
 ·exact oK (t-r-1) k M r (by omega) (by rw[e];congr 1;omega)
 ·exact oK (r-t-1) k M t (by omega) (by rw[<-e];congr 1;omega)
theorem zc:∀k (M:tu),(∀i,i<k->∀j,j<k->M i j=if i=j then 1 else 0)->det k M=1
 |0,_,_=>rfl
 |k+1,M,h=>by
  unfold det
  rw[dI (j:=0) (k+1) (wF k) fun i hi hn=>by rw[h i hi 0 (wF k),ao hn];grind]
  rw[h 0 (wF k) 0 (wF k),au rfl,zc k (qX M 0) fun i hi j hj=> ?_]
  ·rfl
  ·unfold qX Hq
   rw[ao (by omega),h _ (by omega) _ (by omega)]
   by_cases e:i=j
   ·rw[au e,au (by omega)]
   ·rw[ao e,ao (by omega)]
def fct:Nat->Int
 |0=>1
 |k+1=>(k+1:Int)*fct k
theorem IV{f:Nat->Int}{b:Int}:∀k,(∀i,i<k-> -b<=f i/\f i<=b)-> -((k:Int)*b)<=sm k f/\sm k f<=(k:Int)*b
 |0,_=>by
  show -((0:Int)*b)<=0/\(0:Int)<=0*b
  omega
 |k+1,h=>by
  have ih:=IV k fun i hi=>h i (lV hi)
  have hk:=h k (nQ k)
  show -((k+1:Nat)*b)<=sm k f+f k/\sm k f+f k<=(k+1:Nat)*b
  rw[show(((k+1:Nat):Int))*b=(k:Int)*b+b by rw[Int.natCast_succ,Int.add_mul,Mh]]
  omega
theorem DW{x y a b:Int}(hx: -a<=x/\x<=a)(hy: -b<=y/\y<=b): -(a*b)<=x*y/\x*y<=a*b:=by
 have h1:0<=(a-x)*(b-y):=wG (by omega) (by omega)
 have h2:0<=(a+x)*(b+y):=wG (by omega) (by omega)
 have h3:0<=(a-x)*(b+y):=wG (by omega) (by omega)
 have h4:0<=(a+x)*(b-y):=wG (by omega) (by omega)
 constructor<;>grind
theorem vU:∀k (M:tu) (c:Nat) (B:Int),1<=B->(∀i,i<k->∀j,j<k->i≠c-> -1<=M i j/\M i j<=1)->(∀j,j<k->c<k-> -B<=M c j/\M c j<=B)-> -(fct k*B)<=det k M/\det k M<=fct k*B
 |0,M,c,B,hB,_,_=>by
  show -(1*B)<=1/\(1:Int)<=1*B
  omega
 |k+1,M,c,B,hB,h1,h2=>by
  unfold det
  have e:fct (k+1)*B=((k+1:Nat):Int)*(fct k*B):=by show((k:Int)+1)*fct k*B=_;rw[Wu];rfl
  rw[e]
  refine IV (k+1) fun i hi=> ?_
  have hs:∀x y:Int, -y<=x/\x<=y-> -y<=sg i*x/\sg i*x<=y:=fun x y h=>by
   rcases RQ i with s|s
   ·rw[s,Mh];exact h
   ·rw[s];omega
  rw[Wu]
  refine hs _ _ ?_
  by_cases ci:i=c
  ·subst ci
   have a:=vU k (qX M i) k 1 (by decide) (fun r hr x hx _=>h1 _ (Ai hi hr) _ (by omega) (I9 i r)) (fun x hx hk=>absurd hk (p7 k))
   have b:=h2 0 (wF k) hi
   rw[ZP]at a
   have:=DW b a
   rw[Mi (fct k) B]
   exact this
  ·have a:=vU k (qX M i) (Mu i c) B hB (fun r hr x hx hn=>h1 _ (Ai hi hr) _ (by omega) fun z=>hn ((qb (jY ci)).mp z)) (fun x hx hk=>by
    have hc:Hq i (Mu i c)=c:=(qb (jY ci)).mpr rfl
    have hlt:c<k+1:=by unfold Mu at hk;split at hk<;>omega
    have:=h2 (x+1) (by omega) hlt
    unfold qX
    rw[hc];exact this)
   have b:=h1 i hi 0 (wF k) ci
   have:=DW b a
   rw[Mh]at this
   exact this
end Sx
namespace Sx
structure Tab where
 col:Nat->Nat
 row:Nat->Nat
 cell:Nat->Nat->Int
 over:Int
 s:Int
def one:Vec:=fun j=>if j=0 then 1 else 0
section
variable(n m:Nat)(S:Nat->Nat->Bool)(w:Nat->Int)
def nv(a:Nat):Vec:=fun j=>if a<n then(if j=a+1 then 1 else 0)else(if j=0 then 1 else if S (a-n) (j-1)=true then -1 else 0)
def zv:Vec:=fun j=>if j=0 then 0 else w (j-1)
def rv(T:Tab)(r:Nat):Vec:=if r<m then nv n S (T.row r)else zv w
def sY(T:Tab):tu:=fun i=>if i=0 then one else nv n S (T.col (i-1))
def Fn(T:Tab)(c:Nat)(v:Vec):Int:=T.s*det (n+1) (put (sY n S T) c v)
structure Good(T:Tab):Prop where
 pos:0<T.over
 eq:∀r,r<=m->∀j,j<=n->T.over*rv n m S w T r j=T.cell r n*one j-sm n (fun c=>T.cell r c*nv n S (T.col c) j)
 sg:T.s=1\/T.s= -1
 dt:T.over=T.s*det (n+1) (sY n S T)
 Ca:∀c c',c<n->c'<n->T.col c=T.col c'->c=c'
 Jw:∀r r',r<m->r'<m->T.row r=T.row r'->r=r'
 dis:∀c r,c<n->r<m->T.col c≠T.row r
 PJ:∀c,c<n->T.col c<n+m
 rlt:∀r,r<m->T.row r<n+m
 all:∀a,a<n+m->(∃c,c<n/\T.col c=a)\/∃r,r<m/\T.row r=a
 VN:∀r,r<m->0<=T.cell r n
end
section
variable{n m:Nat}{S:Nat->Nat->Bool}{w:Nat->Int}{T:Tab}
theorem eY{r:Nat}(h:r<m):rv n m S w T r=nv n S (T.row r):=au h
theorem gG:rv n m S w T m=zv w:=ao (p7 m)
theorem zx:sY n S T 0=one:=rfl
theorem Ej(c:Nat):sY n S T (c+1)=nv n S (T.col c):=by unfold sY;rw[ao (wV c)];rfl
theorem wg{c:Nat}(hc:c<=n)(a b:Int)(u v:Vec):Fn n S T c (fun j=>a*u j+b*v j)=a*Fn n S T c u+b*Fn n S T c v:=by
 unfold Fn;rw[vR (n+1) (sY n S T) c a b u v (by omega)];grind
theorem Hw{c:Nat}{u v:Vec}(h:∀j,j<=n->u j=v j):Fn n S T c u=Fn n S T c v:=by
 unfold Fn
 rw[uq (n+1) (M:=put (sY n S T) c u) (N:=put (sY n S T) c v) fun i _ j hj=> ?_]
 unfold put
 split
 ·exact h j (by omega)
 ·rfl
theorem iZ{c:Nat}(hc:c<=n)(x:Int)(a:Vec)(y:Nat->Int)(W:Nat->Vec):∀k,Fn n S T c (fun j=>x*a j-sm k (fun i=>y i*W i j))=x*Fn n S T c a-sm k (fun i=>y i*Fn n S T c (W i))
 |0=>by
  have h:=wg (T:=T) (S:=S) hc x 0 a a
  rw[Hw (v:=fun j=>x*a j+0*a j) fun j _=>by show x*a j-0=_;omega,h]
  show _=_-0
  omega
 |k+1=>by
  have h:=wg (T:=T) (S:=S) hc 1 (-(y k)) (fun j=>x*a j-sm k (fun i=>y i*W i j)) (W k)
  rw[Hw (v:=fun j=>1*(x*a j-sm k (fun i=>y i*W i j))+ -(y k)*W k j) fun j _=>by show x*a j-(sm k _+y k*W k j)=_;grind,h,iZ hc x a y W k]
  show _=x*Fn n S T c a-(sm k _+y k*Fn n S T c (W k))
  grind
theorem nJ{c:Nat}(hc:c<=n)(a:Int)(u:Vec):Fn n S T c (fun j=>a*u j)=a*Fn n S T c u:=by
 have h:=wg (T:=T) (S:=S) hc a 0 u u
 rw[Hw (v:=fun j=>a*u j+0*u j) fun j _=>by omega,h];omega
theorem Lw(g:T.over=T.s*det (n+1) (sY n S T)){c i:Nat}(hc:c<=n)(hi:i<=n):Fn n S T c (sY n S T i)=if i=c then T.over else 0:=by
 unfold Fn
 by_cases e:i=c
 ·subst e;rw[au rfl,qQ,<-g]
 ·rw[ao e,La (r:=c) (t:=i) (by omega) (by omega) (jY e) (by rw[put_same,gR _ _ e]),wQ]
theorem jJ(g:T.over=T.s*det (n+1) (sY n S T)){c:Nat}(hc:c<=n):Fn n S T c one=if c=0 then T.over else 0:=by
 have:=Lw g hc (cX n)
 rw[zx]at this
 rw[this]
 by_cases e:c=0
 ·rw[au e,au e.symm]
 ·rw[ao e,ao (jY e)]
theorem wM(g:T.over=T.s*det (n+1) (sY n S T)){c i:Nat}(hc:c<=n)(hi:i<n):Fn n S T c (nv n S (T.col i))=if i+1=c then T.over else 0:=by
 have:=Lw g hc (show i+1<=n by omega)
 rw[Ej]at this
 exact this
theorem V4{a x y:Int}(h:0<a)(e:a*x=a*y):x=y:=wew (by omega) e
theorem Good.base(G:Good n m S w T){r:Nat}(hr:r<=m):Fn n S T 0 (rv n m S w T r)=T.cell r n:=by
 have h1:=nJ (T:=T) (S:=S) (c:=0) (cX n) T.over (rv n m S w T r)
 rw[Hw fun j hj=>G.eq r hr j hj,iZ (cX n) _ _ (T.cell r) (fun c=>nv n S (T.col c)),jJ G.dt (cX n),au rfl,cO n fun c hc=>by rw[wM G.dt (cX n) hc,ao (wV c),wQ]]at h1
 refine V4 G.pos ?_
 rw[<-h1,Mi];omega
theorem Good.dir(G:Good n m S w T){r c:Nat}(hr:r<=m)(hc:c<n):Fn n S T (c+1) (rv n m S w T r)= -T.cell r c:=by
 have h1:=nJ (T:=T) (S:=S) (c:=c+1) hc T.over (rv n m S w T r)
 rw[Hw fun j hj=>G.eq r hr j hj,iZ hc _ _ (T.cell r) (fun c=>nv n S (T.col c)),jJ G.dt hc,ao (wV c),dI (j:=c) n hc fun i hi hn=>by rw[wM G.dt hc hi,ao (by omega),wQ],wM G.dt hc hc,au rfl]at h1
 refine V4 G.pos ?_
 rw[<-h1];grind
def turn(T:Tab)(p q:Nat):Tab where
 col:=fun c=>if c=q then T.row p else T.col c
 row:=fun r=>if r=p then T.col q else T.row r
 over:=T.cell p q
 s:= -T.s
 cell:=fun r c=>if r=p then(if c=q then T.over else T.cell p c)else if c=q then -T.cell r q else(T.cell r c*T.cell p q-T.cell r q*T.cell p c)/T.over
theorem HW{p q:Nat}:sY n S (turn T p q)=put (sY n S T) (q+1) (nv n S (T.row p)):=by
 funext i
 unfold sY put turn
 dsimp only
 by_cases h0:i=0
 ·rw[au h0,ao (by omega),au h0]
 ·rw[ao h0]
  by_cases h1:i=q+1
  ·rw[au h1,au (by omega)]
  ·rw[ao h1,ao (by omega),ao h0]
theorem M9{p q r:Nat}(h:r≠p):rv n m S w (turn T p q) r=rv n m S w T r:=by
 unfold rv turn
 dsimp only
 rw[ao h]
theorem Good.tR(G:Good n m S w T){p q:Nat}(hp:p<m)(hq:q<n):(turn T p q).over=(turn T p q).s*det (n+1) (sY n S (turn T p q)):=by
 have h:=G.dir (r:=p) (cQ hp) hq
 rw[eY hp]at h
 unfold Fn at h
 rw[HW]
 show T.cell p q= -T.s*_
 grind
theorem Good.exact(G:Good n m S w T){p q r c:Nat}(hp:p<m)(hq:q<n)(hb:0<T.cell p q)(hr:r<=m)(hrp:r≠p)(hc:c<=n)(T9:c≠q):
  T.over*(turn T p q).cell r c=T.cell r c*T.cell p q-T.cell r q*T.cell p c:=by
 have g':=G.tR hp hq
 have aal:∀j,j<=n->T.cell p q*T.over*rv n m S w T r j=(T.cell r n*T.cell p q-T.cell r q*T.cell p n)*one j-sm n (fun c=>(T.cell r c*T.cell p q-T.cell r q*T.cell p c)*nv n S (T.col c) j)+T.over*T.cell r q*nv n S (T.row p) j:=fun j hj=>by
  have e1:=G.eq r hr j hj
  have e2:=G.eq p (cQ hp) j hj
  rw[eY hp]at e2
  have e3:sm n (fun c=>(T.cell r c*T.cell p q-T.cell r q*T.cell p c)*nv n S (T.col c) j)=T.cell p q*sm n (fun c=>T.cell r c*nv n S (T.col c) j)+ -(T.cell r q)*sm n (fun c=>T.cell p c*nv n S (T.col c) j):=by
   rw[<-eX,<-eX,<-jo]
   exact aP n fun c _=>by grind
  rw[e3]
  generalize sm n (fun c=>T.cell r c*nv n S (T.col c) j)=A at *
  generalize sm n (fun c=>T.cell p c*nv n S (T.col c) j)=B at *
  grind
 have app:∀d,d<=n->T.cell p q*T.over*Fn n S (turn T p q) d (rv n m S w T r)=(T.cell r n*T.cell p q-T.cell r q*T.cell p n)*Fn n S (turn T p q) d one-sm n (fun c=>(T.cell r c*T.cell p q-T.cell r q*T.cell p c)*Fn n S (turn T p q) d (nv n S (T.col c)))+T.over*T.cell r q*Fn n S (turn T p q) d (nv n S (T.row p)):=fun d hd=>by
  rw[<-nJ hd,Hw aal,<-iZ hd _ _ (fun c=>T.cell r c*T.cell p q-T.cell r q*T.cell p c) (fun c=>nv n S (T.col c))]
  have h:=wg (T:=turn T p q) (S:=S) hd 1 (T.over*T.cell r q) (fun j=>(T.cell r n*T.cell p q-T.cell r q*T.cell p n)*one j-sm n (fun c=>(T.cell r c*T.cell p q-T.cell r q*T.cell p c)*nv n S (T.col c) j)) (nv n S (T.row p))
  simp only[Mh]at h
  exact h
 have YL:nv n S ((turn T p q).col q)=nv n S (T.row p):=by unfold turn;dsimp only;rw[au rfl]
 have Us:∀c,c≠q->nv n S ((turn T p q).col c)=nv n S (T.col c):=fun c h=>by unfold turn;dsimp only;rw[ao h]
 have ov:(turn T p q).over=T.cell p q:=rfl
 have key:∃x,T.cell r c*T.cell p q-T.cell r q*T.cell p c=T.over*x:=by
  by_cases hl:c=n
  ·subst hl
   have h:=app 0 (cX _)
   have f1:=jJ g' (cX c)
   have f2:=wM g' (cX c) hq
   rw[au rfl,ov]at f1
   rw[YL,ao (wV q)]at f2
   rw[f1,f2,cO c fun i hi=> ?_]at h
   ·refine⟨Fn c S (turn T p q) 0 (rv c m S w T r),V4 hb ?_⟩
    grind
   ·by_cases Yc:i=q
    ·subst Yc;rw[Int.sub_self,Qf]
    ·have f3:=wM g' (cX c) hi
     rw[Us i Yc,ao (wV i)]at f3
     rw[f3,wQ]
  ·have hc':c<n:=by omega
   have h:=app (c+1) hc'
   have f1:=jJ g' (show c+1<=n from hc')
   have f2:=wM g' (show c+1<=n from hc') hq
   have f3:=wM g' (show c+1<=n from hc') hc'
   rw[ao (wV c)]at f1
   rw[YL,ao (by omega)]at f2
   rw[Us c T9,au rfl,ov]at f3
   rw[f1,f2,dI (j:=c) n hc' fun i hi hn=> ?_,f3]at h
   ·refine⟨-Fn n S (turn T p q) (c+1) (rv n m S w T r),V4 hb ?_⟩
    grind
   ·by_cases Yc:i=q
    ·subst Yc;rw[Int.sub_self,Qf]
    ·have f4:=wM g' (show c+1<=n from hc') hi
     rw[Us i Yc,ao (by omega)]at f4
     rw[f4,wQ]
 obtain⟨x,hx⟩:=key
 show T.over*(if r=p then _ else if c=q then _ else(T.cell r c*T.cell p q-T.cell r q*T.cell p c)/T.over)=_
 rw[ao hrp,ao T9,hx,wfh _ (Int.ne_of_gt G.pos)]
theorem Good.turn(G:Good n m S w T){p q:Nat}(hp:p<m)(hq:q<n)(hb:0<T.cell p q)(ra:∀r,r<m->0<T.cell r q->T.cell p n*T.cell r q<=T.cell r n*T.cell p q):Good n m S w (turn T p q):=by
 have hqn:n≠q:=by omega
 have c1:∀r,r≠p->(Sx.turn T p q).cell r q= -T.cell r q:=fun r h=>by unfold Sx.turn;dsimp only;rw[ao h,au rfl]
 have c2:(Sx.turn T p q).cell p q=T.over:=by unfold Sx.turn;dsimp only;rw[au rfl,au rfl]
 have c3:∀c,c≠q->(Sx.turn T p q).cell p c=T.cell p c:=fun c h=>by unfold Sx.turn;dsimp only;rw[au rfl,ao h]
 have k1:(Sx.turn T p q).col q=T.row p:=by unfold Sx.turn;dsimp only;rw[au rfl]
 have k2:∀c,c≠q->(Sx.turn T p q).col c=T.col c:=fun c h=>by unfold Sx.turn;dsimp only;rw[ao h]
 have r1:(Sx.turn T p q).row p=T.col q:=by unfold Sx.turn;dsimp only;rw[au rfl]
 have r2:∀r,r≠p->(Sx.turn T p q).row r=T.row r:=fun r h=>by unfold Sx.turn;dsimp only;rw[ao h]
 refine⟨hb,fun r hr j hj=> ?_,?_,G.tR hp hq,fun c c' hc hc' e=> ?_,fun r r' hr hr' e=> ?_,fun c r hc hr e=> ?_,fun c hc=> ?_,fun r hr=> ?_,fun a ha=> ?_,fun r hr=> ?_⟩
 ·have e2:=G.eq p (cQ hp) j hj
  rw[eY hp]at e2
  by_cases h:r=p
  ·subst h
   rw[eY hp,r1,c3 n hqn]
   have e3:sm n (fun c=>(Sx.turn T r q).cell r c*nv n S ((Sx.turn T r q).col c) j)=sm n (fun c=>T.cell r c*nv n S (T.col c) j)+(T.over*nv n S (T.row r) j-T.cell r q*nv n S (T.col q) j):=by
    have:sm n (fun c=>if c=q then T.over*nv n S (T.row r) j-T.cell r q*nv n S (T.col q) j else 0)=T.over*nv n S (T.row r) j-T.cell r q*nv n S (T.col q) j:=by
     rw[dI (j:=q) n hq fun i _ hn=>ao hn,au rfl]
    rw[<-this,<-jo]
    refine aP n fun c _=> ?_
    by_cases hc:c=q
    ·subst hc;rw[c2,k1,au rfl];omega
    ·rw[c3 c hc,k2 c hc,ao hc];omega
   rw[e3]
   show T.cell r q*nv n S (T.col q) j=_
   omega
  ·rw[M9 h]
   have e1:=G.eq r hr j hj
   have e3:T.over*sm n (fun c=>(Sx.turn T p q).cell r c*nv n S ((Sx.turn T p q).col c) j)=T.cell p q*sm n (fun c=>T.cell r c*nv n S (T.col c) j)+ -(T.cell r q)*sm n (fun c=>T.cell p c*nv n S (T.col c) j)+ -(T.over*T.cell r q*nv n S (T.row p) j):=by
    have:sm n (fun c=>if c=q then -(T.over*T.cell r q*nv n S (T.row p) j)else 0)= -(T.over*T.cell r q*nv n S (T.row p) j):=by
     rw[dI (j:=q) n hq fun i _ hn=>ao hn,au rfl]
    rw[<-this,<-eX,<-eX,<-eX,<-jo,<-jo]
    refine aP n fun c hc=> ?_
    by_cases T9:c=q
    ·subst T9;rw[c1 r h,k1,au rfl];grind
    ·have:=G.exact hp hq hb hr h (cQ hc) T9
     rw[k2 c T9,ao T9,<-Wu,this];grind
   have e4:=G.exact hp hq hb hr h (aH n) hqn
   refine V4 G.pos ?_
   show T.over*(T.cell p q*rv n m S w T r j)=_
   rw[Int.mul_sub,e3,<-Wu T.over ((Sx.turn T p q).cell r n),e4]
   generalize sm n (fun c=>T.cell r c*nv n S (T.col c) j)=A at *
   generalize sm n (fun c=>T.cell p c*nv n S (T.col c) j)=B at *
   grind
 ·rcases G.sg with e|e
  ·exact .inr (by show -T.s= -1;rw[e])
  ·exact .inl (by show -T.s=1;rw[e];rfl)
 ·by_cases h1:c=q
  ·by_cases h2:c'=q
   ·rw[h1,h2]
   ·rw[h1,k1,k2 c' h2]at e;exact absurd e.symm (G.dis c' p hc' hp)
  ·by_cases h2:c'=q
   ·rw[h2,k1,k2 c h1]at e;exact absurd e (G.dis c p hc hp)
   ·rw[k2 c h1,k2 c' h2]at e;exact G.Ca c c' hc hc' e
 ·by_cases h1:r=p
  ·by_cases h2:r'=p
   ·rw[h1,h2]
   ·rw[h1,r1,r2 r' h2]at e;exact absurd e (G.dis q r' hq hr')
  ·by_cases h2:r'=p
   ·rw[h2,r1,r2 r h1]at e;exact absurd e.symm (G.dis q r hq hr)
   ·rw[r2 r h1,r2 r' h2]at e;exact G.Jw r r' hr hr' e
 ·by_cases h1:c=q
  ·by_cases h2:r=p
   ·rw[h1,h2,k1,r1]at e;exact G.dis q p hq hp e.symm
   ·rw[h1,k1,r2 r h2]at e;exact h2 (G.Jw p r hp hr e).symm
  ·by_cases h2:r=p
   ·rw[h2,k2 c h1,r1]at e;exact h1 (G.Ca c q hc hq e)
   ·rw[k2 c h1,r2 r h2]at e;exact G.dis c r hc hr e
 ·by_cases h1:c=q
  ·rw[h1,k1];exact G.rlt p hp
  ·rw[k2 c h1];exact G.PJ c hc
 ·by_cases h1:r=p
  ·rw[h1,r1];exact G.PJ q hq
  ·rw[r2 r h1];exact G.rlt r hr
 ·rcases G.all a ha with⟨c,hc,e⟩|⟨r,hr,e⟩
  ·by_cases h1:c=q
   ·exact .inr ⟨p,hp,by rw[r1,<-h1,e]⟩
   ·exact .inl ⟨c,hc,by rw[k2 c h1,e]⟩
  ·by_cases h1:r=p
   ·exact .inl ⟨q,hq,by rw[k1,<-h1,e]⟩
   ·exact .inr ⟨r,hr,by rw[r2 r h1,e]⟩
 ·by_cases h1:r=p
  ·rw[h1,c3 n hqn];exact G.VN p hp
  ·have e:=G.exact hp hq hb (cQ hr) h1 (aH n) hqn
   have f1:=G.VN r hr
   have f2:=G.VN p hp
   have z:0<=T.cell r n*T.cell p q-T.cell r q*T.cell p n:=by
    by_cases hc:0<T.cell r q
    ·have:=ra r hr hc
     rw[Mi (T.cell r q)];omega
    ·have a1:0<=T.cell r n*T.cell p q:=wG f1 (by omega)
     have a2:0<= -(T.cell r q)*T.cell p n:=wG (by omega) f2
     grind
   rw[<-e]at z
   have:=G.pos
   refine Int.not_lt.mp fun hn=> ?_
   have:T.over*(Sx.turn T p q).cell r n<0:=Int.mul_neg_of_pos_of_neg G.pos hn
   omega
end
end Sx
namespace Sx
structure Step(n m:Nat)(T:Tab)(p q:Nat):Prop where
 hp:p<m
 hq:q<n
 neg:T.cell m q<0
 ent:∀c,c<n->T.cell m c<0->T.col q<=T.col c
 by_:0<T.cell p q
 lev:∀r,r<m->0<T.cell r q->T.cell p n*T.cell r q<T.cell r n*T.cell p q\/(T.cell p n*T.cell r q=T.cell r n*T.cell p q/\T.row p<=T.row r)
def inC(n:Nat)(T:Tab)(a:Nat):Prop:=∃c,c<n/\T.col c=a
section
variable{n m:Nat}{S:Nat->Nat->Bool}{w:Nat->Int}
theorem Step.good{T:Tab}{p q:Nat}(s:Step n m T p q)(G:Good n m S w T):Good n m S w (turn T p q):=
 G.turn s.hp s.hq s.by_ fun r hr h=>(s.lev r hr h).elim Hj fun e=>U3 e.1
theorem Step.worth{T:Tab}{p q:Nat}(s:Step n m T p q)(G:Good n m S w T):T.over*(turn T p q).cell m n-(turn T p q).over*T.cell m n= -(T.cell m q)*T.cell p n:=by
 have h:=G.exact s.hp s.hq s.by_ (aH m) (wR s.hp) (aH n) (wR s.hq)
 rw[h]
 show _-T.cell p q*_=_
 grind
theorem Step.le{T:Tab}{p q:Nat}(s:Step n m T p q)(G:Good n m S w T):(turn T p q).over*T.cell m n<=T.over*(turn T p q).cell m n:=by
 have h:=s.worth G
 have:=wG (a:= -(T.cell m q)) (b:=T.cell p n) (by have:=s.neg;omega) (G.VN p s.hp)
 omega
theorem vM{a b c d e f:Int}(hd:0<d)(hb:0<b)(hf:0<f)(h1:d*a<=b*c)(h2:f*c<=d*e):f*a<=b*e:=by
 have x:=Ve h1 (Hj hf)
 have y:=Ve h2 (Hj hb)
 refine Int.le_of_mul_le_mul_left (a:=d) ?_ hd
 grind
theorem vL{a b c d e f:Int}(hd:0<d)(hb:0<b)(hf:0<f)(h1:d*a<=b*c)(h2:f*c<d*e):f*a<b*e:=by
 have x:=Ve h1 (Hj hf)
 have y:=wel h2 hb
 refine wex (a:=d) ?_ (Hj hd)
 grind
theorem yQ{a b c d e f:Int}(hd:0<d)(hb:0<b)(hf:0<f)(h1:d*a<b*c)(h2:f*c<=d*e):f*a<b*e:=by
 have x:=wel h1 hf
 have y:=Ve h2 (Hj hb)
 refine wex (a:=d) ?_ (Hj hd)
 grind
theorem goes{P:Nat->Prop}{s:Nat}:∀d,P s->¬P (s+d)->∃t,s<=t/\t<s+d/\P t/\¬P (t+1)
 |0,h,h'=>absurd h h'
 |d+1,h,h'=>by
  by_cases c:P (s+d)
  ·exact⟨s+d,by omega,by omega,c,h'⟩
  ·obtain⟨t,a,b,x⟩:=goes d h c
   exact⟨t,a,by omega,x⟩
theorem yM{P:Nat->Prop}{s e:Nat}(hse:s<=e)(h:P s)(h':¬P e):∃t,s<=t/\t<e/\P t/\¬P (t+1):=by
 obtain⟨t,a,b,x⟩:=goes (s:=s) (e-s) h (by rw[show s+(e-s)=e by omega];exact h')
 exact⟨t,a,by omega,x⟩
theorem most{P:Nat->Prop}:∀N,(∃a,P a)->(∀a,P a->a<N)->∃a,P a/\∀b,P b->b<=a
 |0,⟨a,h⟩,hb=>absurd (hb a h) (MF a)
 |N+1,h,hb=>by
  by_cases c:P N
  ·exact⟨N,c,fun b hP=>by have:=hb b hP;omega⟩
  ·exact most N h fun a hP=>by
    have:=hb a hP
    have:a≠N:=fun e=>c (e▸hP)
    omega
structure Run(n m:Nat)(S:Nat->Nat->Bool)(w:Nat->Int)(T:Nat->Tab)(p q:Nat->Nat)(L:Nat):Prop where
 first:Good n m S w (T 0)
 step:∀t,t<L->Step n m (T t) (p t) (q t)
 next:∀t,t<L->T (t+1)=turn (T t) (p t) (q t)
variable{T:Nat->Tab}{p q:Nat->Nat}{L:Nat}
theorem Run.good(R:Run n m S w T p q L):∀t,t<=L->Good n m S w (T t)
 |0,_=>R.first
 |t+1,h=>by rw[R.next t h];exact(R.step t h).good (R.good t (wfb h))
theorem Run.worth(R:Run n m S w T p q L){i:Nat}:∀d,i+d<=L->(T (i+d)).over*(T i).cell m n<=(T i).over*(T (i+d)).cell m n
 |0,_=>zM _
 |d+1,h=>by
  have ih:=R.worth d (i:=i) (by omega)
  have g1:=R.good (i+d) (by omega)
  have st:=(R.step (i+d) (by omega)).le g1
  rw[<-R.next (i+d) (by omega)]at st
  exact vM g1.pos (R.good i (by omega)).pos (R.good (i+d+1) h).pos ih st
theorem Run.HF(R:Run n m S w T p q L){i j:Nat}(hij:i<=j)(hj:j<=L):(T j).over*(T i).cell m n<=(T i).over*(T j).cell m n:=by
 have:=R.worth (i:=i) (j-i) (by omega)
 rwa [show i+(j-i)=j by omega]at this
theorem Aw{A B:Tab}(GA:Good n m S w A)(GB:Good n m S w B)(h:∀a,inC n B a->inC n A a):B.over*A.cell m n=A.over*B.cell m n:=by
 have h1:=nJ (T:=A) (S:=S) (c:=0) (cX n) B.over (zv w)
 have e:=GB.eq m (aH m)
 rw[gG]at e
 have b:=GA.base (aH m)
 rw[gG]at b
 rw[Hw e,iZ (cX n) _ _ (B.cell m) (fun c=>nv n S (B.col c)),jJ GA.dt (cX n),au rfl,cO n fun c hc=> ?_,b]at h1
 ·rw[<-h1,Mi];omega
 ·obtain⟨c',hc',e'⟩:=h _ ⟨c,hc,rfl⟩
  rw[<-e',wM GA.dt (cX n) hc',ao (wV c'),wQ]
theorem HS{T:Tab}{p q:Nat}(G:Good n m S w T)(hp:p<m)(hq:q<n)(a:Nat):inC n (turn T p q) a↔(inC n T a/\a≠T.col q)\/a=T.row p:=by
 constructor
 ·rintro⟨c,hc,e⟩
  have e':(if c=q then T.row p else T.col c)=a:=e
  by_cases h:c=q
  ·rw[au h]at e';exact .inr e'.symm
  ·rw[ao h]at e'
   exact .inl ⟨⟨c,hc,e'⟩,fun z=>h (G.Ca c q hc hq (e'.trans z))⟩
 ·rintro(⟨⟨c,hc,e⟩,hn⟩|e)
  ·have h:c≠q:=fun z=>hn (by rw[<-e,z])
   exact⟨c,hc,by show(if c=q then _ else _)=a;rw[ao h];exact e⟩
  ·exact⟨q,hq,by show(if q=q then _ else _)=a;rw[au rfl];exact e.symm⟩
theorem flat{T:Tab}{p q:Nat}(G:Good n m S w T)(G':Good n m S w (turn T p q))(s:Step n m T p q)(h0:T.cell p n=0){a:Nat}(ha:a<n+m):Fn n S (turn T p q) 0 (nv n S a)=0↔Fn n S T 0 (nv n S a)=0:=by
 have z0:=cX n
 rcases G'.all a ha with⟨c,hc,e⟩|⟨r,hr,e⟩
 ·have f1:=wM G'.dt z0 hc
  rw[e,ao (wV c)]at f1
  refine⟨fun _=> ?_,fun _=>f1⟩
  have e':(if c=q then T.row p else T.col c)=a:=e
  by_cases h:c=q
  ·rw[au h]at e'
   have:=G.base (cQ s.hp)
   rw[eY s.hp,e']at this
   rw[this,h0]
  ·rw[ao h]at e'
   have:=wM G.dt z0 hc
   rw[e',ao (wV c)]at this
   exact this
 ·have f1:=G'.base (cQ hr)
  rw[eY hr,e]at f1
  have e':(if r=p then T.col q else T.row r)=a:=e
  rw[f1]
  by_cases h:r=p
  ·rw[au h]at e'
   have f2:=wM G.dt z0 s.hq
   rw[e',ao (wV q)]at f2
   have f3:(turn T p q).cell r n=T.cell p n:=by
    show(if r=p then(if n=q then _ else _)else _)=_
    rw[au h,ao (wR s.hq)]
   rw[f3,h0]
   exact⟨fun _=>f2,fun _=>rfl⟩
  ·rw[ao h]at e'
   have f2:=G.base (cQ hr)
   rw[eY hr,e']at f2
   rw[f2]
   have x:=G.exact s.hp s.hq s.by_ (cQ hr) h (aH n) (wR s.hq)
   rw[h0,wQ,Int.sub_zero]at x
   constructor
   ·intro z
    rw[z,wQ]at x
    rcases Int.mul_eq_zero.mp x.symm with y|y
    ·exact y
    ·have:=s.by_;omega
   ·intro z
    rw[z,Qf]at x
    rcases Int.mul_eq_zero.mp x with y|y
    ·have:=G.pos;omega
    ·exact y
theorem Run.Gi(R:Run n m S w T p q L){i j:Nat}(hij:i<j)(hj:j<=L):¬∀a,inC n (T i) a↔inC n (T j) a:=by
 intro same
 have Gt:∀t,i<=t->t<=j->Good n m S w (T t):=fun t _ h=>R.good t (eO h hj)
 have D:=Aw (Gt i (aH i) (cQ hij)) (Gt j (cQ hij) (aH j)) fun a=>(same a).mpr
 have St:∀t,t<j->Step n m (T t) (p t) (q t):=fun t h=>R.step t (gA h hj)
 have nx:∀t,t<j->T (t+1)=turn (T t) (p t) (q t):=fun t h=>R.next t (gA h hj)
 -- every turn of these is flat
 have fl:∀t,i<=t->t<j->(T t).cell (p t) n=0:=fun t hi ht=>by
  have g:=Gt t hi (cQ ht)
  have W:=(St t ht).worth g
  have F:=g.VN (p t) (St t ht).hp
  have N:=(St t ht).neg
  by_cases z:(T t).cell (p t) n=0
  ·exact z
  ·exfalso
   have B:(turn (T t) (p t) (q t)).over*(T t).cell m n<(T t).over*(turn (T t) (p t) (q t)).cell m n:=by
    have:=Wn (a:= -((T t).cell m (q t))) (b:=(T t).cell (p t) n) (by omega) (by omega)
    omega
   rw[<-nx t ht]at B
   have A:=R.HF (i:=i) (j:=t) hi (by omega)
   have C:=R.HF (i:=t+1) (j:=j) ht hj
   have o1:=(Gt i (aH i) (cQ hij)).pos
   have o2:=g.pos
   have o3:=(Gt (t+1) (by omega) ht).pos
   have o4:=(Gt j (cQ hij) (aH j)).pos
   have x:=vL o2 o1 o3 A B
   have y:=yQ o3 o1 o4 x C
   omega
 have ic:∀t,t<j->i<=t->∀a,inC n (T (t+1)) a↔(inC n (T t) a/\a≠(T t).col (q t))\/a=(T t).row (p t):=fun t ht hi a=>by
  rw[nx t ht];exact HS (Gt t hi (cQ ht)) (St t ht).hp (St t ht).hq a
 have zeros:∀{a:Nat},a<n+m->∀d s,i<=s->s+d<=j->(Fn n S (T (s+d)) 0 (nv n S a)=0↔Fn n S (T s) 0 (nv n S a)=0):=fun{a} ha d=>by
  induction d with
  |zero=>intro s _ _;exact Iff.rfl
  |succ d ih=>
   intro s hs hd
   have f:=flat (Gt (s+d) (by omega) (by omega)) (by rw[<-nx (s+d) (by omega)];exact Gt (s+d+1) (by omega) hd) (St (s+d) (by omega)) (fl (s+d) (by omega) (by omega)) ha
   rw[<-nx (s+d) (by omega)]at f
   exact f.trans (ih s hs (by omega))
 have V1:∀{a s t:Nat},a<n+m->i<=s->s<=j->i<=t->t<=j->Fn n S (T s) 0 (nv n S a)=0->Fn n S (T t) 0 (nv n S a)=0:=fun{a s t} ha h1 h2 h3 h4 z=>by
  by_cases c:s<=t
  ·have:=zeros ha (t-s) s h1 (by omega)
   rw[show s+(t-s)=t by omega]at this
   exact this.mpr z
  ·have:=zeros ha (s-t) t h3 (by omega)
   rw[show t+(s-t)=s by omega]at this
   exact this.mp z
 -- the greatest name that comes and goes
 let Fk:Nat->Prop:=fun a=>∃t,i<=t/\t<j/\((inC n (T t) a/\¬inC n (T (t+1)) a)\/(¬inC n (T t) a/\inC n (T (t+1)) a))
 have fkc:∀t,i<=t->t<j->Fk ((T t).col (q t)):=fun t hi ht=>by
  have g:=Gt t hi (cQ ht)
  refine⟨t,hi,ht,.inl ⟨⟨q t,(St t ht).hq,rfl⟩,fun z=> ?_⟩⟩
  rcases(ic t ht hi _).mp z with⟨_,z⟩|z
  ·exact z rfl
  ·exact g.dis (q t) (p t) (St t ht).hq (St t ht).hp z
 have lt:∀a,Fk a->a<n+m:=fun a h=>by
  obtain⟨t,hi,ht,(⟨⟨c,hc,e⟩,_⟩|⟨_,⟨c,hc,e⟩⟩)⟩:=h
  ·rw[<-e];exact(Gt t hi (cQ ht)).PJ c hc
  ·rw[<-e];exact(Gt (t+1) (by omega) ht).PJ c hc
 obtain⟨tt,hF,hmax⟩:=most (n+m) ⟨_,fkc i (aH i) hij⟩ lt
 have diff:∀{a s e:Nat},i<=s->s<=j->i<=e->e<=j->inC n (T s) a->¬inC n (T e) a->Fk a:=fun{a s e} h1 h2 h3 h4 x y=>by
  by_cases c:s<=e
  ·obtain⟨t,a1,a2,a3,a4⟩:=yM (P:=fun t=>inC n (T t) a) c x y
   exact⟨t,by omega,by omega,.inl ⟨a3,a4⟩⟩
  ·obtain⟨t,a1,a2,a3,a4⟩:=yM (P:=fun t=>¬inC n (T t) a) (s:=e) (e:=s) (by omega) y (fun z=>z x)
   exact⟨t,by omega,by omega,.inr ⟨a3,Classical.not_not.mp a4⟩⟩
 obtain⟨t1,Yn,VJ,h1a,h1b⟩:∃t,i<=t/\t<j/\inC n (T t) tt/\¬inC n (T (t+1)) tt:=by
  obtain⟨t,hi,ht,(⟨x,y⟩|⟨x,y⟩)⟩:=hF
  ·exact⟨t,hi,ht,x,y⟩
  ·by_cases c:inC n (T j) tt
   ·obtain⟨u,a1,a2,a3,a4⟩:=yM (P:=fun t=>inC n (T t) tt) hi ((same tt).mpr c) x
    exact⟨u,a1,by omega,a3,a4⟩
   ·obtain⟨u,a1,a2,a3,a4⟩:=yM (P:=fun t=>inC n (T t) tt) (s:=t+1) (e:=j) ht y c
    exact⟨u,by omega,a2,a3,a4⟩
 obtain⟨t2,VH,Ua,h2a,h2b⟩:∃t,i<=t/\t<j/\¬inC n (T t) tt/\inC n (T (t+1)) tt:=by
  have up:∀s e,i<=s->s<=e->e<=j->¬inC n (T s) tt->inC n (T e) tt->∃t,i<=t/\t<j/\¬inC n (T t) tt/\inC n (T (t+1)) tt:=fun s e a b c x y=>by
   obtain⟨u,a1,a2,a3,a4⟩:=yM (P:=fun t=>¬inC n (T t) tt) b x (fun z=>z y)
   exact⟨u,by omega,by omega,a3,Classical.not_not.mp a4⟩
  by_cases c:inC n (T j) tt
  ·exact up (t1+1) j (by omega) VJ (aH j) h1b c
  ·exact up i t1 (aH i) Yn (by omega) (fun z=>c ((same tt).mp z)) h1a
 have e1:tt=(T t1).col (q t1):=by
  refine Qw fun hn=>h1b ((ic t1 VJ Yn tt).mpr (.inl ⟨h1a,hn⟩))
 have e2:tt=(T t2).row (p t2):=by
  rcases(ic t2 Ua VH tt).mp h2b with⟨z,_⟩|z
  ·exact absurd z h2a
  ·exact z
 have G1:=Gt t1 Yn (cQ VJ)
 have G2:=Gt t2 VH (cQ Ua)
 have S1:=St t1 VJ
 have S2:=St t2 Ua
 -- along the column that enters at t2
 have hq2:q t2+1<=n:=S2.hq
 have dz:=G2.dir (aH m) S2.hq
 rw[gG]at dz
 have sum:=nJ (T:=T t2) (S:=S) hq2 (T t1).over (zv w)
 have eq1:=G1.eq m (aH m)
 rw[gG]at eq1
 rw[Hw eq1,iZ hq2 _ _ ((T t1).cell m) (fun c=>nv n S ((T t1).col c)),jJ G2.dt hq2,ao (wV _),dz]at sum
 have neg:sm n (fun c=>(T t1).cell m c*Fn n S (T t2) (q t2+1) (nv n S ((T t1).col c)))<0:=by
  have:=Wn G1.pos (b:= -((T t2).cell m (q t2))) (by have:=S2.neg;omega)
  omega
 obtain⟨c,hc,hlt⟩:=Iz n neg
 have hnm:=G1.PJ c hc
 rcases G2.all _ hnm with⟨c0,hc0,e0⟩|⟨r0,hr0,e0⟩
 ·have f:=wM G2.dt hq2 hc0
  rw[e0]at f
  by_cases z:c0=q t2
  ·rw[au (by omega)]at f
   rw[f]at hlt
   have cn:(T t1).cell m c<0:=by
    refine Int.not_le.mp fun h=> ?_
    have:=wG h (Hj G2.pos)
    omega
   have a:=S1.ent c hc cn
   rw[<-e1,<-e0,z]at a
   have b:=hmax _ (fkc t2 VH Ua)
   have:tt=(T t2).col (q t2):=Rm a b
   exact G2.dis (q t2) (p t2) S2.hq S2.hp (this.symm.trans e2)
  ·rw[ao (by omega)]at f
   rw[f,wQ]at hlt
   exact absurd hlt (wgz 0)
 ·have f:=G2.dir (cQ hr0) S2.hq
  rw[eY hr0,e0]at f
  rw[f]at hlt
  have fk:Fk ((T t1).col c):=diff Yn (cQ VJ) VH (cQ Ua) ⟨c,hc,rfl⟩ (fun⟨c',hc',e'⟩=>G2.dis c' r0 hc' hr0 (e'.trans e0.symm))
  have le:=hmax _ fk
  by_cases z:(T t1).col c=tt
  ·have cq:c=q t1:=G1.Ca c (q t1) hc S1.hq (z.trans e1)
   have rp:r0=p t2:=G2.Jw r0 (p t2) hr0 S2.hp (e0.trans (z.trans e2))
   subst cq rp
   have a:=S1.neg
   have b:=S2.by_
   have:=Wn (a:= -((T t1).cell m (q t1))) (b:=(T t2).cell (p t2) (q t2)) (by omega) b
   grind
  ·have cn:¬(T t1).cell m c<0:=fun h=>by
    have:=S1.ent c hc h
    omega
   have NQ:0<(T t2).cell r0 (q t2):=by
    refine Int.not_le.mp fun h=> ?_
    have:=wG (a:=(T t1).cell m c) (b:= -((T t2).cell r0 (q t2))) (by omega) (by omega)
    omega
   have v1:Fn n S (T t1) 0 (nv n S ((T t1).col c))=0:=by rw[wM G1.dt (cX n) hc,ao (wV c)]
   have v2:=V1 hnm Yn (cQ VJ) VH (cQ Ua) v1
   have b:=G2.base (cQ hr0)
   rw[eY hr0,e0,v2]at b
   have k:=fl t2 VH Ua
   rcases S2.lev r0 hr0 NQ with h|⟨_,h⟩
   ·rw[k,<-b,Qf,Qf]at h
    exact absurd h (wgz 0)
   ·rw[<-e2,e0]at h
    omega
def enc:List Bool->Nat
 |[]=>0
 |b::l=>(if b=true then 1 else 0)+2*enc l
theorem K7:∀l:List Bool,enc l<2^l.length
 |[]=>by decide
 |b::l=>by
  have:=K7 l
  show(if b=true then 1 else 0)+2*enc l<2^(l.length+1)
  rw[ZR]
  split<;>omega
theorem Ei:∀{l l':List Bool},l.length=l'.length->enc l=enc l'->l=l'
 |[],[],_,_=>rfl
 |b::l,b'::l',h,e=>by
  have e':(if b=true then 1 else 0)+2*enc l=(if b'=true then 1 else 0)+2*enc l':=e
  have hb:b=b':=by cases b<;>cases b'<;>simp at e'⊢<;>omega
  subst hb
  rw[Ei (l:=l) (l':=l') (by simpa using h) (by omega)]
theorem few:∀(K:Nat) (l:List Nat),l.Nodup->(∀x∈l,x<K)->l.length<=K
 |0,[],_,_=>aH 0
 |0,x::_,_,h=>absurd (h x cV) (MF x)
 |K+1,l,nd,h=>by
  have a:=few K (l.filter fun x=>decide (x≠K)) (nd.filter _) fun x hx=>by
   obtain⟨h1,h2⟩:=je.mp hx
   have:=h x h1
   have:=tL h2
   omega
  have b:l.length<=(l.filter fun x=>decide (x≠K)).length+1:=by
   clear a h
   induction l with
   |nil=>exact cX _
   |cons y l ih=>
    have nd':=Hl.mp nd
    rw[MJ]
    by_cases c:y=K
    ·subst c
     rw[ao (by simp)]
     have:l.filter (fun x=>decide (x≠y))=l:=List.filter_eq_self.mpr fun x hx=>fj fun e=>nd'.1 (e▸hx)
     rw[this];exact aH _
    ·rw[au (fj c)]
     have:=ih nd'.2
     simp only[qx]
     omega
  omega
open Classical in
def code(n m:Nat)(T:Tab):Nat:=enc ((List.range (n+m)).map fun a=>decide (inC n T a))
theorem Run.short(R:Run n m S w T p q L):L<2^(n+m):=by
 have inj:∀i j,i<=L->j<=L->code n m (T i)=code n m (T j)->i=j:=by
  have one:∀i j,i<j->j<=L->code n m (T i)≠code n m (T j):=fun i j hij hj e=>by
   have l:=Ei (by simp) e
   refine R.Gi hij hj fun a=> ?_
   by_cases ha:a<n+m
   ·have:=jh (fun l:List Bool=>l[a]?) l
    simp only[c7,Wb ha,Option.map_some,Option.some.injEq,decide_eq_decide]at this
    exact this
   ·exact⟨fun⟨c,hc,e⟩=>absurd ((R.good i (by omega)).PJ c hc) (by omega),fun⟨c,hc,e⟩=>absurd ((R.good j hj).PJ c hc) (by omega)⟩
  intro i j hi hj e
  rcases Nat.lt_trichotomy i j with h|h|h
  ·exact absurd e (one i j h hj)
  ·exact h
  ·exact absurd e.symm (one j i h hi)
 have nd:((List.range (L+1)).map fun t=>code n m (T t)).Nodup:=by
  refine Rn.mpr (List.nodup_range.imp_of_mem fun{a b} ha hb hab e=>hab (inj a b ?_ ?_ e))
  ·have:=sI.mp ha;omega
  ·have:=sI.mp hb;omega
 have:=few (2^(n+m)) _ nd fun x hx=>by
  obtain⟨t,_,rfl⟩:=j8.mp hx
  have:=K7 ((List.range (n+m)).map fun a=> @decide (inC n (T t) a) (Classical.propDecidable _))
  rw[aG,sJ]at this
  exact this
 rw[aG,sJ]at this
 omega
end
end Sx
namespace Sx
section
variable{n m:Nat}{S:Nat->Nat->Bool}{w:Nat->Int}{T:Tab}
theorem lB{a j:Nat}(h:a<n):nv n S a j=if j=a+1 then 1 else 0:=au h
theorem vD{k j:Nat}:nv n S (n+k) j=if j=0 then 1 else if S k (j-1)=true then -1 else 0:=by
 unfold nv;rw[ao (by omega),show n+k-n=k by omega]
theorem Dw{y:Nat->Int}{j:Nat}(hj:j<=n):sm n (fun c=>y c*nv n S c j)=if j=0 then 0 else y (j-1):=by
 by_cases h:j=0
 ·rw[au h]
  exact cO n fun c hc=>by rw[lB hc,ao (by omega),wQ]
 ·rw[ao h,dI (j:=j-1) n (by omega) fun c hc hn=>by rw[lB hc,ao (by omega),wQ],lB (by omega),au (by omega),ZP]
theorem Bl{k j:Nat}(hj:j<=n):nv n S (n+k) j=1*one j-sm n (fun c=>(if S k c=true then 1 else 0)*nv n S c j):=by
 rw[vD,Dw hj]
 unfold one
 by_cases h:j=0
 ·rw[au h,au h,au h];rfl
 ·rw[ao h,ao h,ao h]
  split<;>rfl
theorem Hv{j:Nat}(hj:j<=n):zv w j=0*one j-sm n (fun c=> -(w c)*nv n S c j):=by
 rw[Dw hj]
 unfold zv
 by_cases h:j=0
 ·rw[au h,au h];omega
 ·rw[ao h,ao h];omega
def start(n m:Nat)(S:Nat->Nat->Bool)(w:Nat->Int):Tab where
 col:=fun c=>c
 row:=fun r=>n+r
 cell:=fun r c=>if r=m then(if c=n then 0 else -(w c))else if c=n then 1 else if S r c=true then 1 else 0
 over:=1
 s:=1
theorem zZ:Good n m S w (start n m S w):=by
 refine⟨Int.one_pos,fun r hr j hj=> ?_,.inl rfl,?_,fun c c' _ _ e=>e,fun r r' _ _ e=>by have:n+r=n+r':=e;omega,fun c r hc _ e=>by have:c=n+r:=e;omega,fun c hc=>by show c<n+m;omega,fun r hr=>by show n+r<n+m;omega,fun a ha=> ?_,fun r hr=> ?_⟩
 ·show 1*rv n m S w (start n m S w) r j=(start n m S w).cell r n*one j-sm n (fun c=>(start n m S w).cell r c*nv n S c j)
  by_cases h:r<m
  ·rw[eY h]
   show 1*nv n S (n+r) j=_
   rw[Mh,Bl hj]
   have e1:(start n m S w).cell r n=1:=by show(if r=m then _ else if n=n then(1:Int)else _)=1;rw[ao (by omega),au rfl]
   rw[e1,aP n fun c hc=> ?_]
   show _=(if r=m then _ else if c=n then(1:Int)else if S r c=true then 1 else 0)*_
   rw[ao (show¬r=m by omega),ao (show¬c=n by omega)]
  ·have e:r=m:=by omega
   subst e
   rw[gG,Mh,Hv (n:=n) (S:=S) hj]
   have e1:(start n r S w).cell r n=0:=by show(if r=r then(if n=n then(0:Int)else _)else _)=0;rw[au rfl,au rfl]
   rw[e1,aP n fun c hc=> ?_]
   show _=(if r=r then(if c=n then(0:Int)else -(w c))else _)*_
   rw[au rfl,ao (show¬c=n by omega)]
 ·show(1:Int)=1*det (n+1) _
  rw[zc (n+1) _ fun i hi j hj=> ?_]; · rfl
  by_cases h:i=0
  ·subst h
   rw[zx]
   unfold one
   by_cases e:j=0
   ·rw[au e,au e.symm]
   ·rw[ao e,ao (jY e)]
  ·obtain⟨c,rfl⟩:∃c,i=c+1:=⟨i-1,by omega⟩
   rw[Ej]
   show nv n S c j=_
   rw[lB (by omega)]
   by_cases e:j=c+1
   ·rw[au e,au e.symm]
   ·rw[ao e,ao (jY e)]
 ·by_cases h:a<n
  ·exact .inl ⟨a,h,rfl⟩
  ·exact .inr ⟨a-n,by omega,by show n+(a-n)=a;omega⟩
 ·show 0<=(if r=m then _ else if n=n then(1:Int)else _)
  rw[ao (by omega),au rfl];decide
theorem Good.bounded(G:Good n m S w T)(cov:∀p,p<n->∃k,k<m/\S k p=true){q:Nat}(hq:q<n):∃r,r<m/\0<T.cell r q:=by
 refine Qw fun no=> ?_
 have no':∀r,r<m->T.cell r q<=0:=fun r hr=>Int.not_lt.mp fun h=>no ⟨r,hr,h⟩
 have hq':q+1<=n:=hq
 have nn:∀a,a<n+m->0<=Fn n S T (q+1) (nv n S a):=fun a ha=>by
  rcases G.all a ha with⟨c,hc,e⟩|⟨r,hr,e⟩
  ·rw[<-e,wM G.dt hq' hc]
   split
   ·exact Hj G.pos
   ·exact zM 0
  ·have:=G.dir (cQ hr) hq
   rw[eY hr,e]at this
   rw[this]
   have:=no' r hr
   omega
 have set:∀k,Fn n S T (q+1) (nv n S (n+k))= -sm n (fun p=>(if S k p=true then 1 else 0)*Fn n S T (q+1) (nv n S p)):=fun k=>by
  rw[Hw fun j hj=>Bl hj,iZ hq' _ _ (fun c=>if S k c=true then 1 else 0) (fun c=>nv n S c),jJ G.dt hq',ao (wV q)]
  omega
 have low:∀p,p<n->Fn n S T (q+1) (nv n S p)=0:=fun p hp=>by
  obtain⟨k,hk,hs⟩:=cov p hp
  have a:=nn (n+k) (by omega)
  rw[set k]at a
  have:=Dy n (f:=fun p=>(if S k p=true then 1 else 0)*Fn n S T (q+1) (nv n S p)) (fun i hi=> ?_) (by omega) p hp
  ·rw[au hs,Mh]at this
   exact this
  ·have:=nn i (by omega)
   split<;>omega
 have z:Fn n S T (q+1) (nv n S (T.col q))=0:=by
  have hc:=G.PJ q hq
  by_cases h:T.col q<n
  ·exact low _ h
  ·have e:T.col q=n+(T.col q-n):=by omega
   rw[e,set,cO n fun p hp=>by rw[low p hp,wQ]];rfl
 rw[wM G.dt hq' hq,au rfl]at z
 have:=G.pos
 omega
theorem JV(a j:Nat): -1<=nv n S a j/\nv n S a j<=1:=by
 unfold nv
 split
 ·split<;>decide
 ·split
  ·decide
  ·split<;>decide
theorem Ek(i j:Nat): -1<=sY n S T i j/\sY n S T i j<=1:=by
 unfold sY
 split
 ·unfold one;split<;>decide
 ·exact JV _ _
theorem Cy(G:Good n m S w T){c:Nat}{v:Vec}{B:Int}(hB:1<=B)(h:∀j,j<=n-> -B<=v j/\v j<=B): -(fct (n+1)*B)<=Fn n S T c v/\Fn n S T c v<=fct (n+1)*B:=by
 have d:=vU (n+1) (put (sY n S T) c v) c B hB (fun i _ j _ hn=>by rw[gR _ _ hn];exact Ek i j) (fun j hj _=>by rw[put_same];exact h j (by omega))
 unfold Fn
 rcases G.sg with s|s
 ·rw[s,Mh];exact d
 ·rw[s];omega
theorem Good.NZ(G:Good n m S w T):T.over<=fct (n+1):=by
 have d:=Cy G (c:=0) (v:=sY n S T 0) (B:=1) (by decide) fun j _=>Ek 0 j
 rw[Lw G.dt (cX n) (cX n),au rfl]at d
 omega
theorem Good.Le(G:Good n m S w T)(hw:∀p,p<n->0<=w p/\w p<=99){r c:Nat}(hr:r<=m)(hc:c<=n): -(fct (n+1)*99)<=T.cell r c/\T.cell r c<=fct (n+1)*99:=by
 have hv:∀j,j<=n-> -99<=rv n m S w T r j/\rv n m S w T r j<=99:=fun j hj=>by
  unfold rv
  split
  ·have:=JV (n:=n) (S:=S) (T.row r) j;omega
  ·unfold zv
   split
   ·decide
   ·have:=hw (j-1) (by omega);omega
 by_cases h:c=n
 ·subst h
  have d:=Cy G (c:=0) (B:=99) (by decide) hv
  rw[G.base hr]at d
  exact d
 ·have d:=Cy G (c:=c+1) (B:=99) (by decide) hv
  rw[G.dir hr (by omega)]at d
  omega
theorem K6:∀{k:Nat},k<=11->fct k<=39916800
 |0,_|1,_|2,_|3,_|4,_|5,_|6,_|7,_|8,_|9,_|10,_|11,_=>by decide
def Ys(n m:Nat)(T:Tab)(a:Nat):Int:=sm n fun c=>if T.col c=a then T.cell m c else 0
def Xs(n m:Nat)(T:Tab)(a:Nat):Int:=sm m fun r=>if T.row r=a then T.cell r n else 0
theorem Good.V6(G:Good n m S w T){c:Nat}(hc:c<n):Ys n m T (T.col c)=T.cell m c:=by
 unfold Ys
 rw[dI (j:=c) n hc fun i hi hn=>ao fun e=>hn (G.Ca i c hi hc e),au rfl]
theorem V5{a:Nat}(h:∀c,c<n->T.col c≠a):Ys n m T a=0:=cO n fun c hc=>ao (h c hc)
theorem Good.Qq(G:Good n m S w T){r:Nat}(hr:r<m):Xs n m T (T.row r)=T.cell r n:=by
 unfold Xs
 rw[dI (j:=r) m hr fun i hi hn=>ao fun e=>hn (G.Jw i r hi hr e),au rfl]
theorem Qo{a:Nat}(h:∀r,r<m->T.row r≠a):Xs n m T a=0:=cO m fun r hr=>ao (h r hr)
theorem Good.HD(G:Good n m S w T){a:Nat}(ha:a<n+m):Fn n S T 0 (nv n S a)=Xs n m T a:=by
 rcases G.all a ha with⟨c,hc,e⟩|⟨r,hr,e⟩
 ·rw[<-e,wM G.dt (cX n) hc,ao (wV c),Qo fun r hr z=>G.dis c r hc hr z.symm]
 ·rw[<-e,G.Qq hr]
  have:=G.base (cQ hr)
  rw[eY hr]at this
  exact this
theorem Good.Qp(G:Good n m S w T)(a:Nat):0<=Xs n m T a:=Dz m fun r hr=>by
 have:=G.VN r hr
 split
 ·exact this
 ·exact zM 0
theorem Qd(h:∀c,c<n->0<=T.cell m c)(a:Nat):0<=Ys n m T a:=Dz n fun c hc=>by
 have:=h c hc
 split
 ·exact this
 ·exact zM 0
theorem xP(f:Nat->Int)(a:Nat):∀b,sm (a+b) f=sm a f+sm b fun k=>f (a+k)
 |0=>by show sm a f=sm a f+0;omega
 |b+1=>by
  show sm (a+b) f+f (a+b)=_
  rw[xP f a b]
  show _=sm a f+(sm b (fun k=>f (a+k))+f (a+b))
  omega
theorem Good.Xc(G:Good n m S w T)(g:Nat->Int):sm n (fun c=>T.cell m c*g (T.col c))=sm n (fun a=>Ys n m T a*g a)+sm m (fun k=>Ys n m T (n+k)*g (n+k)):=by
 rw[<-xP (fun a=>Ys n m T a*g a)]
 have e:∀a,Ys n m T a*g a=sm n fun c=>(if T.col c=a then T.cell m c else 0)*g a:=fun a=>by
  unfold Ys
  rw[Mi,<-eX]
  exact aP n fun c _=>Mi _ _
 rw[aP (n+m) fun a _=>e a,uP (fun a c=>(if T.col c=a then T.cell m c else 0)*g a)]
 refine aP n fun c hc=> ?_
 rw[dI (j:=T.col c) (n+m) (G.PJ c hc) fun a _ hn=>by rw[ao (jY hn),Qf],au rfl]
theorem Good.total(G:Good n m S w T):sm m (fun k=>Ys n m T (n+k))=T.cell m n:=by
 have e:=G.eq m (aH m) 0 (cX n)
 rw[gG,G.Xc (fun a=>nv n S a 0),cO n fun a ha=>by rw[lB ha,ao (by omega),wQ]]at e
 have z:zv w 0=0:=rfl
 have o:one 0=1:=rfl
 rw[z,o,aP m fun k _=>show Ys n m T (n+k)*nv n S (n+k) 0=Ys n m T (n+k) by rw[vD,au rfl,ZP]]at e
 omega
theorem Good.enough(G:Good n m S w T){p:Nat}(hp:p<n):sm m (fun k=>if S k p=true then Ys n m T (n+k)else 0)=T.over*w p+Ys n m T p:=by
 have e:=G.eq m (aH m) (p+1) hp
 rw[gG,G.Xc (fun a=>nv n S a (p+1)),dI (j:=p) n hp fun a ha hn=>by rw[lB ha,ao (by omega),wQ],lB hp,au rfl]at e
 have z:zv w (p+1)=w p:=by unfold zv;rw[ao (wV p)];rfl
 have o:one (p+1)=0:=ao (wV p)
 rw[z,o,aP m fun k _=>show Ys n m T (n+k)*nv n S (n+k) (p+1)= -1*(if S k p=true then Ys n m T (n+k)else 0) by
  rw[vD,ao (wV p),weq]
  split<;>omega,eX]at e
 omega
theorem Good.light(G:Good n m S w T){k:Nat}(hk:k<m):sm n (fun p=>if S k p=true then Xs n m T p else 0)<=T.over:=by
 have h:Fn n S T 0 (nv n S (n+k))=1*Fn n S T 0 one-sm n (fun p=>(if S k p=true then 1 else 0)*Fn n S T 0 (nv n S p)):=by
  rw[Hw fun j hj=>Bl hj,iZ (cX n) _ _ (fun c=>if S k c=true then 1 else 0) (fun c=>nv n S c)]
 rw[jJ G.dt (cX n),au rfl,G.HD (by omega),aP n fun p hp=>show(if S k p=true then(1:Int)else 0)*Fn n S T 0 (nv n S p)=if S k p=true then Xs n m T p else 0 by
  rw[G.HD (by omega)]
  split<;>omega]at h
 have:=G.Qp (n+k)
 omega
theorem Good.prices(G:Good n m S w T):sm n (fun p=>w p*Xs n m T p)=T.cell m n:=by
 have h:=G.base (aH m)
 rw[gG,Hw fun j hj=>Hv (n:=n) (S:=S) hj,iZ (cX n) _ _ (fun c=> -(w c)) (fun c=>nv n S c),aP n fun p hp=>show -(w p)*Fn n S T 0 (nv n S p)= -1*(w p*Xs n m T p) by rw[G.HD (by omega)];grind,eX]at h
 omega
end
end Sx
namespace Hs
open PySem L2 zO
def top(i:Nat):Stmt:=PySem.Challenge.pw_hueshare_k28_so_many_hues_each.main.body.getD i (.Pass ⟨0,0,0,0⟩)
abbrev Mw:Stmt:=top 8
abbrev iK:Stmt:=top 9
abbrev fH:Stmt:=top 10
abbrev Uz:Stmt:=top 11
abbrev mV:Stmt:=top 12
abbrev iM:Stmt:=top 13
abbrev mQ:Stmt:=top 14
abbrev Mf:Stmt:=top 15
abbrev Zb:Stmt:=top 16
abbrev fX:Stmt:=top 17
abbrev mK:Stmt:=top 18
abbrev iR:Stmt:=top 19
abbrev fQ:Stmt:=top 20
abbrev fU:Stmt:=top 21
abbrev Zr:Stmt:=top 23
abbrev iu:Stmt:=top 24
abbrev Zi:Stmt:=top 26
abbrev V3:Stmt:=top 27
abbrev Zd:Stmt:=top 28
abbrev Zk:Stmt:=top 29
abbrev Mx:Stmt:=top 30
abbrev Zm:Stmt:=top 31
abbrev jt:Stmt:=top 32
abbrev Ze:Stmt:=top 34
abbrev mH:Stmt:=top 35
abbrev Zf:Stmt:=top 37
abbrev jQ:Stmt:=top 38
abbrev gF:Stmt:=top 39
abbrev fG:Stmt:=top 40
abbrev Y7:Stmt:=inClass (top 43) 0
abbrev Zu:Stmt:=inClass (top 43) 1
abbrev Zt:Stmt:=inClass (top 43) 2
abbrev Zn:Stmt:=inClass (top 43) 3
abbrev Zh:Stmt:=inClass (top 43) 4
abbrev Y8:Stmt:=inClass (top 43) 5
abbrev Zc:Stmt:=inClass (top 43) 6
abbrev UW:Stmt:=inClass (top 43) 7
abbrev Zo:Stmt:=inClass (top 43) 8
abbrev Zq:Stmt:=inClass (top 43) 9
abbrev fu:Stmt:=top 44
abbrev mJ:Stmt:=top 45
abbrev qg:Stmt:=top 46
abbrev Y9:Stmt:=top 49
abbrev mW:Stmt:=top 50
abbrev Zj:Stmt:=top 51
abbrev iQ:Stmt:=top 52
abbrev UG:Stmt:=top 54
abbrev gD:Stmt:=top 55
abbrev UJ:Stmt:=top 56
abbrev fB:Stmt:=top 57
abbrev fY:Stmt:=top 58
abbrev dU:Stmt:=top 59
abbrev Za:Stmt:=top 60
abbrev fD:Stmt:=top 61
abbrev mO:Stmt:=top 62
section
variable{P:Program}{w:World}{K:W.Frag}{mg:Str->Option Value}{base:Heap}
def iI(K:W.Frag):Sp:=fun vs H Q _=>∃x d,vs=[x]/\DX K H x d/\Q (.bl (qz d)) H
theorem Jf:FnScope ["thing"] ["thing"] (defScope Mw):=fsc
theorem JH{f:Addr}{fd:FuncData}(F:Fun K "is_whole" "is_whole" Mw f fd)(mi:mg "isinstance"=none)(mI:mg "int"=none)(mB:mg "bool"=none):FnOk P w K mg base CX0 1 f fd ["thing"] (iI K):=by
 refine F.ok Jf (fun vs H Q E h=> ?_) (fun cdv A outer s H vs Q E hr h=> ?_)
 ·obtain⟨x,d,rfl,_⟩:=h
  rfl
 obtain⟨x,d,rfl,hx,q⟩:=h
 refine⟨_,bw (cI (pe_and (fW Ep rfl mi (by decide+kernel) (aj (pv 0) (aj (En rfl mI (v:= .ty "int") (by decide+kernel) rfl) aA)))
  (pe_one (pe_not (fW Ep rfl mi (by decide+kernel) (aj (pv 0) (aj (En rfl mB (v:= .ty "bool") (by decide+kernel) rfl) aA))))))),?_⟩
 refine⟨_,rfl,x,_,_,rfl,hx.kind,.inl rfl,_,rfl,?_⟩
 refine ite2 (fun c=> ?_) (fun c=> ?_)
 ·refine⟨_,rfl,x,_,_,rfl,hx.kind,.inr (.inl rfl),_,rfl,?_⟩
  cases d<;>first |exact q|(simp[yG,yF]at c;done)
 ·cases d<;>first |exact q|(exfalso;exact c rfl)
def Dq(K:W.Frag):Sp:=fun vs H Q _=>∃(n:Int) (x:V) (d:PyData),vs=[.int n,x]/\DX K H x d/\Q (.bl (bR n d)) H
theorem Jj:FnScope ["n","thing"] ["n","thing"] (defScope iK):=fsc
theorem JN{f g:Addr}{fd gd:FuncData}(F:Fun K "is_place" "is_place" iK f fd)(D:bY K mg "is_whole" Mw ["thing"] g gd)(G:FnOk P w K mg base CX0 1 g gd ["thing"] (iI K)):FnOk P w K mg base CX0 2 f fd ["n","thing"] (Dq K):=by
 refine F.ok Jj (fun vs H Q E h=> ?_) (fun cdv A outer s H vs Q E hr h=> ?_)
 ·obtain⟨n,x,d,rfl,_⟩:=h
  rfl
 obtain⟨n,x,d,rfl,hx,q⟩:=h
 refine⟨_,bw (cI (pe_and (pe_call G hr rfl D.m D.F.kp D.b .nil pass0 (aj (pv 1) aA)) (pe_one (pe_chain op_le op_lt aK (pv 1) (pv 0))))),?_⟩
 refine⟨_,rfl,x,d,rfl,hx,_,rfl,?_⟩
 refine ite2 (fun c=> ?_) (fun c=> ?_)
 ·cases hx with
  |int i=>
   refine⟨_,rfl,_,_,rfl,rfl,_,rfl,?_⟩
   refine ite2 (fun c2=> ?_) (fun c2=> ?_)
   ·refine⟨_,rfl,_,_,rfl,rfl,?_⟩
    have e:bR n (.int i)=decide (i<n):=by show(decide (0<=i)&&decide (i<n))=_;rw[c2];rfl
    rw[e]at q;exact q
   ·have e:bR n (.int i)=false:=by show(decide (0<=i)&&decide (i<n))=_;rw[Bool.eq_false_iff.mpr c2];rfl
    rw[e]at q;exact q
  |_=>simp[qz]at c
 ·have e:bR n d=false:=by
   cases d<;>first |rfl|(exfalso;exact c rfl)
  rw[e]at q;exact q
def xG(K:W.Frag):Sp:=fun vs H Q _=>∃(n:Int) (a:Addr) (xs:List V) (ds:List PyData),vs=[.int n,.ref a]/\SqT K H a xs/\sH K H xs ds/\∀H',Same H H'->Q (.bl (ds.all (bR n))) H'
theorem Fj:FnScope ["n","things"] ["n","things"] (defScope fH):=fsc
theorem rN{α:Type}(ds:List α)(p:α->Bool):(ds.map p).all id=ds.all p:=by rw[List.all_map];rfl
theorem FZ{f g:Addr}{fd gd:FuncData}(F:Fun K "are_places" "are_places" fH f fd)(D:bY K mg "is_place" iK ["n","thing"] g gd)(G:FnOk P w K mg base CX0 2 g gd ["n","thing"] (Dq K))(mA:mg "all"=none):FnOk P w K mg base CX0 3 f fd ["n","things"] (xG K):=by
 refine F.ok Fj (fun vs H Q E h=> ?_) (fun cdv A outer s H vs Q E hr h=> ?_)
 ·obtain⟨n,a,xs,ds,rfl,_⟩:=h
  rfl
 obtain⟨n,a,xs,ds,rfl,hS,hd,q⟩:=h
 refine⟨_,bw (cI (fW (iB rfl) rfl mA (by decide+kernel) (aj (pZ (own:=["thing"]) (caps:=["n"]) (ix:=[0]) rfl (Eo (pv 1)) rfl rfl (.cons rfl rfl .nil) (fun _ _ _ _ _=>cZ (i:=0) (show(["thing","n"]:List Str).Nodup from by decide+kernel) rfl (Or.inl rfl)) (fun _ _ _ _ _=>sy) (fun _ _ _ _ _=>pe_call G hr rfl D.m D.F.kp D.b .nil pass0 (aj (pv 1) (aj (pv 0) aA)))) aA))),?_⟩
 refine⟨_,rfl,a,xs,rfl,hS,fun hz=> ?_⟩
 have hl:=hd.len
 refine LQ (xs:=xs) (fun i acc σ H'=>acc=((ds.take i).map (bR n)).map V.bl/\Same H H'/\∃o,σ=[o,some (.int n)]) ⟨rfl,Same.refl _,_,rfl⟩ (fun i acc σ H' _ p=>p.2.1.tup hS) (fun i acc σ H' hi p=> ?_) hz (fun i x acc σ H' hx p=> ?_) (fun acc σ H' p=> ?_)
 ·rw[p.1];simp;omega
 ·obtain⟨rfl,sm,o,rfl⟩:=p
  obtain⟨d,e1,e2⟩:=hd.get hx
  refine⟨_,rfl,_,rfl,n,x,d,rfl,DX.same sm e2,?_,sm,_,rfl⟩
  rw[wW,e1]
  simp
 ·intro p1 hp1
  obtain⟨rfl,sm,_⟩:=p
  refine⟨p1,(ds.map (bR n)),rfl,SqL.of (by rw[aJ,hl,uI]),?_⟩
  rw[rN]
  exact q _ (sm.trans (aY hp1 _))
def Uy(K:W.Frag)(H:Hp)(x y:V)(b:Bool):Prop:=(∃i j,x= .int i/\y= .int j/\b=decide (i<j))\/(∃p q ns ms,x= .ref p/\y= .ref q/\SqT K H p (ns.map V.int)/\SqT K H q (ms.map V.int)/\b=HT.lexLt ns ms)
def lY(K:W.Frag):Sp:=fun vs H Q _=>∃(a:Addr) (xs:List V) (bs:Nat->Bool),vs=[.ref a]/\SqT K H a xs/\(∀k,k+1<xs.length->∃x y,xs[k]? =some x/\xs[k+1]? =some y/\Uy K H x y (bs k))/\
 ∀H',Same H H'->Q (.bl ((List.range (xs.length-1)).all bs)) H'
theorem Fi:FnScope ["things"] ["things"] (defScope Uz):=fsc
theorem FW{f:Addr}{fd:FuncData}(F:Fun K "is_rising" "is_rising" Uz f fd)(mA:mg "all"=none)(mR:mg "range"=none)(mL:mg "len"=none):FnOk P w K mg base CX0 1 f fd ["things"] (lY K):=by
 refine F.ok Fi (fun vs H Q E h=> ?_) (fun cdv A outer s H vs Q E hr h=> ?_)
 ·obtain⟨a,xs,bs,rfl,_⟩:=h
  rfl
 obtain⟨a,xs,bs,rfl,hS,hb,q⟩:=h
 refine⟨_,bw (cI (fW (iB rfl) rfl mA (by decide+kernel) (aj (pZ (own:=["k"]) (caps:=["things"]) (ix:=[0]) rfl
  (pi_range2 rfl mR (aj aK (aj (fW zP rfl mL wX (aj (pv 0) aA)) aA))) rfl rfl (.cons rfl rfl .nil) (fun _ _ _ _ _=>cZ (i:=0) (show(["k","things"]:List Str).Nodup from by decide+kernel) rfl (Or.inl rfl)) (fun _ _ _ _ _=>sy) (fun _ _ _ _ _=>Hg (op_lt.or (N6 K hr.units0)) (bM (qm K) (pv 1) (bK op_sub (pv 0) aK) (fun _ _=>rfl)) (bM (qm K) (pv 1) (pv 0) (fun _ _=>rfl)) (nomark _))) aA))),?_⟩
 refine⟨_,rfl,a,xs,rfl,.inr hS,fun hz=>⟨1,_,rfl,⟨by omega,by omega,by omega,by omega⟩,?_⟩⟩
 have en:((xs.length:Int)-1).toNat=xs.length-1:=by omega
 rw[en]
 refine Ri (fun i acc σ H'=>acc=((List.range i).map bs).map V.bl/\Same H H'/\∃o,σ=[o,some (.ref a)]) ⟨rfl,Same.refl _,_,rfl⟩ (fun i acc σ H' hi p=>by rw[p.1];simp) (by rw[fM];omega) (fun i acc σ H' hi p=> ?_) (fun acc σ H' p=> ?_)
 ·obtain⟨rfl,sm,o,rfl⟩:=p
  obtain⟨x,y,hx,hy,hxy⟩:=hb i (by omega)
  have e1:(1+(i:Int))-1=((i:Nat):Int):=by omega
  have e2:(1+(i:Int))=((i+1:Nat):Int):=by omega
  have a1:atI xs (1+(i:Int)-1)=some x:=by rw[e1];exact atI_nat hx
  have a2:atI xs (1+(i:Int))=some y:=by rw[e2];exact atI_nat hy
  refine⟨_,rfl,_,rfl,_,_,rfl,rfl,a,xs,_,x,rfl,rfl,sm.tup hS,a1,_,rfl,_,rfl,a,xs,_,y,rfl,rfl,sm.tup hS,a2,?_⟩
  have ea:((List.range i).map bs).map V.bl++[V.bl (bs i)]=((List.range (i+1)).map bs).map V.bl:=by rw[CV];simp
  rcases hxy with⟨u,v,rfl,rfl,e⟩|⟨p,p',ns,ms,rfl,rfl,h1,h2,e⟩
  ·refine .inl ⟨u,v,rfl,rfl,?_,sm,_,rfl⟩
   show _++[V.bl (decide (u<v))]=_
   rw[<-e];exact ea
  ·refine .inr ⟨p,p',ns,ms,rfl,rfl,sm.tup h1,sm.tup h2,?_,sm,_,rfl⟩
   show _++[V.bl (HT.lexLt ns ms)]=_
   rw[<-e];exact ea
 ·intro p1 hp1
  obtain⟨rfl,sm,_⟩:=p
  refine⟨p1,(List.range (xs.length-1)).map bs,rfl,SqL.of aJ,?_⟩
  rw[rN]
  exact q _ (sm.trans (aY hp1 _))
theorem ints_of{H:Hp}{n:Int}{xs:List V}{ds:List PyData}(h:sH K H xs ds)(hp:ds.all (bR n)=true):xs=(ds.map intD).map V.int:=by
 induction ds generalizing xs with
 |nil=>cases h;rfl
 |cons d ds ih=>
  rw[List.all_cons,Dc]at hp
  cases h with
  |cons h t=>
   obtain⟨i,rfl,_⟩:=Bb hp.1
   cases h
   rw[wU,wU,<-ih t hp.2]
   rfl
theorem tY{H:Hp}(ns:List Int):∀k,k+1<(ns.map V.int).length->∃x y,(ns.map V.int)[k]? =some x/\(ns.map V.int)[k+1]? =some y/\Uy K H x y (decide (ns.getD k 0<ns.getD (k+1) 0)):=fun k hk=>by
 rw[aG]at hk
 have h1:k<ns.length:=by omega
 refine⟨.int (ns.getD k 0),.int (ns.getD (k+1) 0),by simp[h1],by simp[hk],.inl ⟨_,_,rfl,rfl,rfl⟩⟩
def QG(K:W.Frag):Sp:=fun vs H Q _=>∃(n:Int) (x:V) (d:PyData),vs=[.int n,x]/\DX K H x d/\∀H',Same H H'->Q (.bl (uU n d)) H'
theorem RZ:FnScope ["n","thing"] ["n","thing"] (defScope mV):=fsc
theorem Te{f f1 f2:Addr}{fd d1 d2:FuncData}(F:Fun K "is_set" "is_set" mV f fd)(D1:bY K mg "are_places" fH ["n","things"] f1 d1)(G1:FnOk P w K mg base CX0 3 f1 d1 ["n","things"] (xG K))(D2:bY K mg "is_rising" Uz ["things"] f2 d2)(G2:FnOk P w K mg base CX0 1 f2 d2 ["things"] (lY K))(mi:mg "isinstance"=none)(mT:mg "tuple"=none):FnOk P w K mg base CX0 4 f fd ["n","thing"] (QG K):=by
 refine F.ok RZ (fun vs H Q E h=> ?_) (fun cdv A outer s H vs Q E hr h=> ?_)
 ·obtain⟨n,x,d,rfl,_⟩:=h
  rfl
 obtain⟨n,x,d,rfl,hx,q⟩:=h
 refine⟨_,bw (cI (pe_and (fW Ep rfl mi (by decide+kernel) (aj (pv 1) (aj (En rfl mT (v:= .ty "tuple") (by decide+kernel) rfl) aA)))
  (pe_and (pc G1 hr D1 (aj (pv 0) (aj (pv 1) aA))) (pe_one (pc G2 hr D2 (aj (pv 1) aA)))))),?_⟩
 refine⟨_,rfl,x,_,_,rfl,hx.kind,.inr (.inr (.inl rfl)),_,rfl,?_⟩
 refine ite2 (fun c=> ?_) (fun c=> ?_)
 ·cases hx with
  | @tup a xs ds h t=>
   refine⟨_,rfl,_,rfl,n,a,xs,ds,rfl,h,t,fun H1 sm=>⟨_,rfl,?_⟩⟩
   refine ite2 (fun c2=> ?_) (fun c2=> ?_)
   ·have ex:=ints_of t c2
    refine⟨_,rfl,a,xs,fun k=>decide ((ds.map intD).getD k 0<(ds.map intD).getD (k+1) 0),rfl,sm.tup h,?_,fun H2 W0=> ?_⟩
    ·rw[ex];exact tY _
    ·have e:uU n (.tuple ds)=(List.range (xs.length-1)).all fun k=>decide ((ds.map intD).getD k 0<(ds.map intD).getD (k+1) 0):=by
      show(ds.all (bR n)&&jx (ds.map intD))=_
      rw[c2,t.len]
      show jx (ds.map intD)=_
      unfold jx
      rw[aG]
     have:=q H2 (sm.trans W0)
     rw[e]at this;exact this
   ·have e:uU n (.tuple ds)=false:=by
     show(ds.all (bR n)&&jx (ds.map intD))=_
     rw[Bool.eq_false_iff.mpr c2];rfl
    have:=q H1 sm
    rw[e]at this;exact this
  |_=>simp[yG,yF]at c
 ·have e:uU n d=false:=by
   cases d<;>first |rfl|(exfalso;exact c rfl)
  have:=q H (Same.refl _)
  rw[e]at this;exact this
def Ih(K:W.Frag):Sp:=fun vs H Q _=>∃(n:Int) (x:V) (d:PyData),vs=[.int n,x]/\DX K H x d/\∀H',Same H H'->Q (.bl (qG n d)) H'
theorem Nq:FnScope ["n","thing"] ["n","thing"] (defScope iM):=fsc
theorem Di{H:Hp}{n:Int}{x:V}{d:PyData}(h:DX K H x d)(ht:kZ n d=true):∃p,x= .ref p/\SqT K H p (((kids d).map intD).map V.int):=by
 cases h with
 | @tup a xs ds h t=>
  have q:(ds.all (bR n)&&jx (ds.map intD)&&decide (ds.length=2))=true:=ht
  rw[Dc,Dc]at q
  exact⟨a,rfl,by rw[ints_of t q.1.1]at h;exact h⟩
 |_=>simp[kZ,uU]at ht
theorem Fq{H:Hp}{n:Int}{xs:List V}{ds:List PyData}(t:sH K H xs ds)(ha:ds.all (kZ n)=true):∀k,k+1<xs.length->∃x y,xs[k]? =some x/\xs[k+1]? =some y/\
  Uy K H x y (HT.lexLt ((ds.map fun t=>(kids t).map intD).getD k []) ((ds.map fun t=>(kids t).map intD).getD (k+1) [])):=fun k hk=>by
 have hl:=t.len
 have h1:k<xs.length:=by omega
 obtain⟨d1,e1,x1⟩:=t.get (i:=k) (x:=xs[k]) (by simp[h1])
 obtain⟨d2,e2,x2⟩:=t.get (i:=k+1) (x:=xs[k+1]) (by simp[hk])
 have m1:=qw.mp ha d1 (lX e1)
 have m2:=qw.mp ha d2 (lX e2)
 obtain⟨p1,q1,s1⟩:=Di x1 m1
 obtain⟨p2,q2,s2⟩:=Di x2 m2
 refine⟨xs[k],xs[k+1],by simp[h1],by simp[hk],.inr ⟨p1,p2,_,_,q1,q2,s1,s2,?_⟩⟩
 have g1:(ds.map fun t=>(kids t).map intD).getD k []=(kids d1).map intD:=by rw[kO,c7,e1];rfl
 have g2:(ds.map fun t=>(kids t).map intD).getD (k+1) []=(kids d2).map intD:=by rw[kO,c7,e2];rfl
 rw[g1,g2]
theorem Oa{f f1 f2:Addr}{fd d1 d2:FuncData}(F:Fun K "are_ties" "are_ties" iM f fd)(D1:bY K mg "is_set" mV ["n","thing"] f1 d1)(G1:FnOk P w K mg base CX0 4 f1 d1 ["n","thing"] (QG K))(D2:bY K mg "is_rising" Uz ["things"] f2 d2)(G2:FnOk P w K mg base CX0 1 f2 d2 ["things"] (lY K))(mi:mg "isinstance"=none)(mT:mg "tuple"=none)(mA:mg "all"=none)(mL:mg "len"=none):FnOk P w K mg base CX0 5 f fd ["n","thing"] (Ih K):=by
 refine F.ok Nq (fun vs H Q E h=> ?_) (fun cdv A outer s H vs Q E hr h=> ?_)
 ·obtain⟨n,x,d,rfl,_⟩:=h
  rfl
 obtain⟨n,x,d,rfl,hx,q⟩:=h
 refine⟨_,aO (lR (wN (wO (fW Ep rfl mi (by decide+kernel) (aj (pv 1) (aj (En rfl mT (v:= .ty "tuple") (by decide+kernel) rfl) aA))))) (bw (cI pe_bl)) lU) (bw (cI (pe_and (fW (iB rfl) rfl mA (by decide+kernel) (aj (pZ (own:=["tie"]) (caps:=["n"]) (ix:=[0]) rfl (Eo (pv 1)) rfl rfl (.cons rfl rfl .nil) (fun _ _ _ _ _=>cZ (i:=0) (show(["tie","n"]:List Str).Nodup from by decide+kernel) rfl (Or.inl rfl)) (fun _ _ _ _ _=>sy) (fun _ _ _ _ _=>pe_and (pc G1 hr D1 (aj (pv 1) (aj (pv 0) aA))) (pe_one (Hg op_eq (fW (uz K) rfl mL wX (aj (pv 0) aA)) aK (nomark _))))) aA))
  (pe_one (pc G2 hr D2 (aj (pv 1) aA)))))),?_⟩
 refine⟨_,rfl,x,_,_,rfl,hx.kind,.inr (.inr (.inl rfl)),_,rfl,?_⟩
 refine ite2 (fun c=> ?_) (fun c=> ?_)
 ·have e:qG n d=false:=by
   cases d<;>first |rfl|(exfalso;simp[yG,yF]at c;done)
  have:=q H (Same.refl _)
  rw[e]at this;exact this
 ·cases hx with
  | @tup a xs ds h t=>
   refine⟨_,rfl,a,xs,rfl,h,fun hz=> ?_⟩
   have hl:=t.len
   refine LQ (xs:=xs) (fun i acc σ H'=>acc=((ds.take i).map (kZ n)).map V.bl/\Same H H'/\∃o,σ=[o,some (.int n)]) ⟨rfl,Same.refl _,_,rfl⟩ (fun i acc σ H' _ p=>p.2.1.tup h) (fun i acc σ H' hi p=> ?_) hz (fun i x acc σ H' hx p=> ?_) (fun acc σ H' p=> ?_)
   ·rw[p.1];simp;omega
   ·obtain⟨rfl,sm,o,rfl⟩:=p
    obtain⟨d,e1,e2⟩:=t.get hx
    refine⟨_,rfl,_,rfl,n,x,d,rfl,DX.same sm e2,fun H1 sm1=>⟨_,rfl,?_⟩⟩
    have ea:∀b,b=kZ n d->((ds.take i).map (kZ n)).map V.bl++[V.bl b]=((ds.take (i+1)).map (kZ n)).map V.bl:=fun b hb=>by
     rw[wW,e1,hb];simp
    refine ite2 (fun c2=> ?_) (fun c2=> ?_)
    ·cases e2 with
     | @tup a2 xs2 ds2 h2 t2=>
      refine⟨_,rfl,a2,xs2,rfl,.inr (sm1.tup (sm.tup h2)),fun hz2=>⟨rfl,ea _ ?_,sm.trans sm1,_,rfl⟩⟩
      show decide (V.int (xs2.length:Int)=V.int 2)=(uU n (.tuple ds2)&&decide (ds2.length=2))
      rw[c2,t2.len]
      by_cases e3:ds2.length=2
      ·rw[e3];rfl
      ·rw[jN e3,jN (by intro z;injection z with z;exact e3 (by omega))];rfl
     |_=>simp[uU]at c2
    ·refine⟨ea _ ?_,sm.trans sm1,_,rfl⟩
     show false=(uU n d&&decide ((kids d).length=2))
     rw[Bool.eq_false_iff.mpr c2];rfl
   ·intro p1 hp1
    obtain⟨rfl,sm,_⟩:=p
    have sm':Same H (upd H' p1 (.lst (((ds.take xs.length).map (kZ n)).map V.bl))):=sm.trans (aY hp1 _)
    refine⟨p1,(ds.map (kZ n)),rfl,SqL.of (by rw[aJ,hl,uI]),_,rfl,?_⟩
    rw[rN]
    refine ite2 (fun c2=> ?_) (fun c2=> ?_)
    ·refine⟨_,rfl,a,xs,fun k=>HT.lexLt ((ds.map fun t=>(kids t).map intD).getD k []) ((ds.map fun t=>(kids t).map intD).getD (k+1) []),rfl,sm'.tup h,?_,fun H2 W0=> ?_⟩
     ·exact Fq (sH.same sm' t) c2
     ·have e:qG n (.tuple ds)=(List.range (xs.length-1)).all fun k=>HT.lexLt ((ds.map fun t=>(kids t).map intD).getD k []) ((ds.map fun t=>(kids t).map intD).getD (k+1) []):=by
       show(ds.all (kZ n)&&jw (ds.map fun t=>(kids t).map intD))=_
       rw[c2,hl]
       show jw (ds.map fun t=>(kids t).map intD)=_
       unfold jw
       rw[aG]
      have:=q H2 (sm'.trans W0)
      rw[e]at this;exact this
    ·have e:qG n (.tuple ds)=false:=by
      show(ds.all (kZ n)&&jw (ds.map fun t=>(kids t).map intD))=_
      rw[Bool.eq_false_iff.mpr c2];rfl
     have:=q _ sm'
     rw[e]at this;exact this
  |_=>exfalso;exact c rfl
end
end Hs
namespace zO
open PySem L2
def pairD(p:Int×Int):PyData:= .tuple [.int p.1,.int p.2]
def uK(n:Int)(ts:List (Int×Int)):PyData:= .tuple [.int n,.tuple (ts.map pairD)]
def iY(K:W.Frag)(H:Hp)(a:Addr)(n:Int)(ts:List (Int×Int)):Prop:=∃t rs,SqT K H a [.int n,.ref t]/\SqT K H t rs/\cY K H rs (ts.map pairD)
theorem iY.dv{K:W.Frag}{H:Hp}{a:Addr}{n:Int}{ts:List (Int×Int)}(h:iY K H a n ts):DV K H (.ref a) (uK n ts):=by
 obtain⟨t,rs,h1,h2,h3⟩:=h
 exact .tup h1 (.cons (.int n) (.cons (.tup h2 h3) .nil))
theorem iY.same{K:W.Frag}{H H':Hp}{a:Addr}{n:Int}{ts:List (Int×Int)}(h:iY K H a n ts)(e:Same H H'):iY K H' a n ts:=by
 obtain⟨t,rs,h1,h2,h3⟩:=h
 exact⟨t,rs,e.tup h1,e.tup h2,cY.same e h3⟩
def bh(ts:List (Int×Int))(i j:Int):Bool:=decide ((if j<i then j else i,if j>i then j else i)∈ts)
theorem yW(p q:Int×Int):PyData.eqv (pairD p) (pairD q)=decide (p=q):=by
 obtain⟨a,b⟩:=p
 obtain⟨c,d⟩:=q
 show((a==c)&&((b==d)&&true))=_
 rw[zV]
 simp
theorem oF:∀ts:List (Int×Int),PyData.canLayAll0 (ts.map pairD)=true
 |[]=>rfl
 |p::ts=>by
  show(PyData.canLay0 (pairD p)&&PyData.canLayAll0 (ts.map pairD))=true
  rw[oF ts];rfl
theorem zA(ts:List (Int×Int))(q:Int×Int):((ts.map pairD).any fun d=>PyData.eqv d (pairD q))=decide (q∈ts):=by
 rw[List.any_map,zV,wdt]
 constructor
 ·rintro⟨p,hp,h⟩
  have h':PyData.eqv (pairD p) (pairD q)=true:=h
  rw[yW]at h'
  have e:p=q:=tL h'
  subst e
  exact fj hp
 ·intro h
  refine⟨q,tL h,?_⟩
  show PyData.eqv (pairD q) (pairD q)=true
  rw[yW]
  exact fj rfl
end zO
namespace Hs
open PySem L2 zO
section
variable{P:Program}{w:World}{K:W.Frag}{mg:Str->Option Value}{base:Heap}
def Qz(K:W.Frag):Sp:=fun vs H Q _=>∃(x:V) (d:PyData),vs=[x]/\DX K H x d/\∀H',Same H H'->Q (.bl (uL d)) H'
theorem Jg:FnScope ["thing","n"] ["thing"] (defScope mQ):=fsc
theorem SJ{f f1 f2:Addr}{fd d1 d2:FuncData}{tk:Tok}(F:Fun K "is_web" "is_web" mQ f fd)(D1:bY K mg "is_whole" Mw ["thing"] f1 d1)(G1:FnOk P w K mg base CX0 1 f1 d1 ["thing"] (iI K))(D2:bY K mg "are_ties" iM ["n","thing"] f2 d2)(G2:FnOk P w K mg base CX0 5 f2 d2 ["n","thing"] (Ih K))(mi:mg "isinstance"=none)(mT:mg "tuple"=none)(mL:mg "len"=none)(mM:mg "MOST_PLACES"=some (.int 10 tk)):FnOk P w K mg base CX0 6 f fd ["thing"] (Qz K):=by
 refine F.ok Jg (fun vs H Q E h=> ?_) (fun cdv A outer s H vs Q E hr h=> ?_)
 ·obtain⟨x,d,rfl,_⟩:=h
  rfl
 obtain⟨x,d,rfl,hx,q⟩:=h
 refine⟨_,aO (lR (PW.pt (pw_or (wN (wO (fW Ep rfl mi (by decide+kernel) (aj (pv 0) (aj (En rfl mT (v:= .ty "tuple") (by decide+kernel) rfl) aA)))))
   (pw_or1 (gZ op_ne (fW zP rfl mL wX (aj (pv 0) aA)) aK (nomark _))))) (bw (cI pe_bl)) lU) (aO (cW (i:=1) Jg.nd rfl (Or.inl rfl) (bM gO (pv 0) aK (fun _ _=>rfl))) (bw (cI (pe_and (pc G1 hr D1 (aj (pv 1) aA)) (pe_and (pe_chain op_le op_le aK (pv 1) (pe_glob rfl mM (v:= .int 10) ⟨_,rfl⟩))
   (pe_one (pc G2 hr D2 (aj (pv 1) (aj (bM gO (pv 0) aK (fun _ _=>rfl)) aA))))))))),?_⟩
 refine⟨_,rfl,x,_,_,rfl,hx.kind,.inr (.inr (.inl rfl)),_,rfl,?_⟩
 refine ite2 (fun c=> ?_) (fun c=> ?_)
 ·have e:uL d=false:=by
   cases d<;>first |rfl|(exfalso;simp[yG,yF]at c;done)
  have:=q H (Same.refl _)
  rw[e]at this;exact this
 ·cases hx with
  | @tup a xs ds h t=>
   have hl:=t.len
   refine⟨_,rfl,a,xs,rfl,.inr h,fun hz=>⟨rfl,_,rfl,?_⟩⟩
   refine ite2 (fun c2=> ?_) (fun c2=> ?_)
   ·have e:uL (.tuple ds)=false:=by
     match ds,hl with
     |[],_=>rfl
     |[_],_=>rfl
     |[_,_],hl=>
      exfalso
      have e2:(!decide (V.int (xs.length:Int)=V.int 2))=true:=c2
      rw[hl]at e2
      simp at e2
     |_::_::_::_,_=>rfl
    have:=q H (Same.refl _)
    rw[e]at this;exact this
   ·have e2:xs.length=2:=by
     have e2:¬(!decide (V.int (xs.length:Int)=V.int 2))=true:=c2
     simp at e2
     omega
    cases t with
    |nil=>simp at e2
    |cons h0 t0=>
     cases t0 with
     |nil=>simp at e2
     | @cons x1 VP xs1 ds1 h1 t1=>
      cases t1 with
      |cons _ _=>simp at e2
      |nil=>
       rename_i x0 VR
       refine⟨_,rfl,a,_,_,x0,rfl,rfl,h,by rfl,?_⟩
       refine⟨_,rfl,x0,VR,rfl,h0,_,rfl,?_⟩
       refine ite2 (fun c3=> ?_) (fun c3=> ?_)
       ·cases h0 with
        |int n=>
         refine⟨_,rfl,_,_,rfl,rfl,_,rfl,?_⟩
         have fin:∀b,b=uL (.tuple [.int n,VP])->∀H',Same H H'->Q (.bl b) H':=fun b hb H' sm=>by rw[hb];exact q H' sm
         have wd:uL (.tuple [.int n,VP])=((decide (0<=n)&&decide (n<=10))&&qG n VP):=rfl
         refine ite2 (fun c4=> ?_) (fun c4=> ?_)
         ·refine⟨_,_,rfl,rfl,_,rfl,?_⟩
          refine ite2 (fun c5=> ?_) (fun c5=> ?_)
          ·refine⟨_,rfl,_,rfl,a,_,_,x1,rfl,rfl,h,by rfl,n,x1,VP,rfl,h1,fun H' sm=>fin _ ?_ H' sm⟩
           rw[wd,c4,c5];rfl
          ·refine fin _ ?_ H (Same.refl _)
           rw[wd,Bool.eq_false_iff.mpr c5,Bool.and_false];rfl
         ·refine⟨_,rfl,?_⟩
          refine iteF (fin _ ?_ H (Same.refl _))
          rw[wd,Bool.eq_false_iff.mpr c4];rfl
        |_=>simp[qz]at c3
       ·have e:uL (.tuple [VR,VP])=false:=by
         show(qz VR&&(decide (0<=intD VR)&&decide (intD VR<=10))&&qG (intD VR) VP)=false
         rw[Bool.eq_false_iff.mpr c3];rfl
        have:=q H (Same.refl _)
        rw[e]at this;exact this
  |_=>exfalso;exact c rfl
def cF(K:W.Frag):Sp:=fun vs H Q _=>∃(x:V) (d:PyData),vs=[x]/\DX K H x d/\uL d=true/\∀H',Same H H'->Q .non H'
theorem Aq:FnScope ["thing"] ["thing"] (defScope Mf):=fsc
theorem Bg{f f1:Addr}{fd d1:FuncData}(F:Fun K "need_web" "need_web" Mf f fd)(D1:bY K mg "is_web" mQ ["thing"] f1 d1)(G1:FnOk P w K mg base CX0 6 f1 d1 ["thing"] (Qz K)):FnOk P w K mg base CX0 7 f fd ["thing"] (cF K):=by
 refine F.ok Aq (fun vs H Q E h=> ?_) (fun cdv A outer s H vs Q E hr h=> ?_)
 ·obtain⟨x,d,rfl,_⟩:=h
  rfl
 obtain⟨x,d,rfl,hx,hw,q⟩:=h
 refine⟨_,bw (lR (wN (wO (pc G1 hr D1 (aj (pv 0) aA)))) pss_never lU),?_⟩
 refine⟨_,rfl,x,d,rfl,hx,fun H' sm=>⟨_,rfl,?_⟩⟩
 rw[hw]
 exact iteF (q H' sm)
def Du(K:W.Frag):Sp:=fun vs H Q _=>∃(a:Addr) (n i j:Int) (ts:List (Int×Int)),vs=[.ref a,.int i,.int j]/\iY K H a n ts/\∀H',Same H H'->Q (.bl (bh ts i j)) H'
theorem R3:FnScope ["web","one","other"] ["web","one","other"] (defScope fU):=fsc
theorem Ti{f:Addr}{fd:FuncData}(F:Fun K "has_tie" "has_tie" fU f fd)(mi:mg "min"=none)(ma:mg "max"=none):FnOk P w K mg base CX0 1 f fd ["web","one","other"] (Du K):=by
 refine F.ok R3 (fun vs H Q E h=> ?_) (fun cdv A outer s H vs Q E hr h=> ?_)
 ·obtain⟨a,n,i,j,ts,rfl,_⟩:=h
  rfl
 obtain⟨a,n,i,j,ts,rfl,hW,q⟩:=h
 refine⟨_,bw (cI (Hg (qT hr.units) (pY (aj (fW (call_min2 rfl) rfl mi (by decide+kernel) (aj (pv 1) (aj (pv 2) aA))) (aj (fW (call_max2 rfl) rfl ma (by decide+kernel) (aj (pv 1) (aj (pv 2) aA))) aA)))
  (bM gO (pv 0) aK (fun _ _=>rfl)) (by with_unfolding_all rfl))),?_⟩
 refine⟨_,rfl,_,rfl,_,_,rfl,_,rfl,_,rfl,_,_,rfl,(by show 2<=sizeLine;decide),fun p hp=> ?_⟩
 have sm:=aY hp (.tup [.int (if j<i then j else i),.int (if j>i then j else i)])
 obtain⟨t,rs,h1,h2,h3⟩:=hW.same sm
 refine⟨_,rfl,a,_,_,.ref t,rfl,rfl,h1,rfl,t,rs,_,pairD (if j<i then j else i,if j>i then j else i),rfl,.inr h2,h3,.tup (SqT.of aJ) (.cons (.int _) (.cons (.int _) .nil)),oF ts,rfl,(by show max 0 (max 0 0)+1<=60;decide),?_⟩
 rw[zA]
 exact q _ sm
end
def Li(n:Int)(ts:List (Int×Int)):Prop:=uL (uK n ts)=true
section
variable{P:Program}{w:World}{K:W.Frag}{mg:Str->Option Value}{base:Heap}
def nR(K:W.Frag):Sp:=fun vs H Q _=>∃(n:Int),vs=[.int n]/\n<=10/\Q .non H
theorem Ar:FnScope ["n"] ["n"] (defScope fX):=fsc
theorem Bh{f:Addr}{fd:FuncData}{tk:Tok}(F:Fun K "need_few" "need_few" fX f fd)(mM:mg "MOST_PLACES"=some (.int 10 tk)):FnOk P w K mg base CX0 1 f fd ["n"] (nR K):=by
 refine F.ok Ar (fun vs H Q E h=> ?_) (fun cdv A outer s H vs Q E hr h=> ?_)
 ·obtain⟨n,rfl,_⟩:=h
  rfl
 obtain⟨n,rfl,hn,q⟩:=h
 refine⟨_,bw (lR (gZ op_gt (pv 0) (pe_glob rfl mM (v:= .int 10) ⟨_,rfl⟩) (nomark _)) pss_never lU),?_⟩
 refine⟨_,rfl,_,_,rfl,rfl,_,rfl,?_⟩
 rw[jN (show¬(10:Int)<n by omega)]
 exact iteF q
theorem Uw{b:Bool}{A B:Prop}(h:b=true)(hA:A):if b=true then A else B:=by rw[h];exact iteT hA
theorem Uv{b:Bool}{A B:Prop}(h:b=false)(hB:B):if b=true then A else B:=by rw[h];exact iteF hB
def xJ(K:W.Frag):Sp:=fun vs H Q _=>∃a b i:Int,vs=[.int a,.int b,.int i]/\a<=i/\i<=b/\Q .non H
theorem Fo:FnScope ["least","most","thing"] ["least","most","thing"] (defScope Zb):=fsc
theorem Ge{f f1:Addr}{fd d1:FuncData}(F:Fun K "need_from_to" "need_from_to" Zb f fd)(D1:bY K mg "is_whole" Mw ["thing"] f1 d1)(G1:FnOk P w K mg base CX0 1 f1 d1 ["thing"] (iI K)):
  FnOk P w K mg base CX0 2 f fd ["least","most","thing"] (xJ K):=by
 refine F.ok Fo (fun vs H Q E h=> ?_) (fun cdv A outer s H vs Q E hr h=> ?_)
 ·obtain⟨_,_,_,rfl,_⟩:=h
  rfl
 obtain⟨a,b,i,rfl,h0,h1,q⟩:=h
 refine⟨_,bw (lR (PW.pt (pw_or (wN (wO (pc G1 hr D1 (aj (pv 2) aA)))) (pw_or1 (wN (pt_chain op_le op_le (pv 0) (pv 2) (pv 1)))))) pss_never lU),?_⟩
 refine⟨_,rfl,.int i,.int i,rfl,.int i,_,rfl,?_⟩
 refine iteF ?_
 refine⟨_,rfl,_,rfl,_,_,rfl,rfl,_,rfl,?_⟩
 refine Uw (fj h0) ?_
 refine⟨_,rfl,_,_,rfl,rfl,_,rfl,?_⟩
 refine Uv (by rw[fj h1];rfl) q
end
end Hs
namespace L2
open PySem
def aq(t:Addr)(H H':Hp):Prop:=∀b o,b≠t->H b=some o->H' b=some o
theorem aq.refl(t:Addr)(H:Hp):aq t H H:=fun _ _ _ h=>h
theorem aq.trans{t:Addr}{H H1 H2:Hp}(a:aq t H H1)(b:aq t H1 H2):aq t H H2:=fun c o n h=>b c o n (a c o n h)
theorem Same.x{H H':Hp}(h:Same H H')(t:Addr):aq t H H':=fun b o _ e=>h b o e
theorem aq.upd{t:Addr}{H H':Hp}{o:HO}(h:aq t H H'):aq t H (upd H' t o):=fun b u n e=>by rw[cu n];exact h b u n e
def j5(K:W.Frag)(H:Hp)(gq:Addr)(ns:List Int):Prop:=(∃o,H gq=some (.frz o (.lst (ns.map V.int))))\/
 ∃(o:Obj) (its:Array Value) (n:Nat),K.lookup gq=some o/\o.cls= .type "list"/\o.dict=none/\o.data= .seq its n/\its.size<=sizeLine/\Vals (ns.map V.int) its.toList
theorem j5.sq{K:W.Frag}{H:Hp}{gq:Addr}{ns:List Int}(h:j5 K H gq ns):SqL K H gq (ns.map V.int):=by
 rcases h with⟨o,h⟩|h
 ·exact .inl (.inr ⟨o,h⟩)
 ·exact .inr h
theorem j5.mD{K:W.Frag}{H H':Hp}{gq t:Addr}{ns:List Int}{zs:List V}(h:j5 K H gq ns)(e:aq t H H')(n:H t=some (.lst zs)):j5 K H' gq ns:=by
 rcases h with⟨o,h⟩|h
 ·exact .inl ⟨o,e _ _ (ne_of h n (by intro z;cases z)) h⟩
 ·exact .inr h
theorem j5.same{K:W.Frag}{H H':Hp}{gq:Addr}{ns:List Int}(h:j5 K H gq ns)(e:Same H H'):j5 K H' gq ns:=by
 rcases h with⟨o,h⟩|h
 ·exact .inl ⟨o,e _ _ h⟩
 ·exact .inr h
theorem LR:∀ns:List Int,PyData.canLayAll0 (ns.map PyData.int)=true
 |[]=>rfl
 |n::ns=>by
  show(true&&PyData.canLayAll0 (ns.map PyData.int))=true
  rw[LR ns];rfl
theorem yp{H:Hp}{a b:Addr}{o:HO}(h:H a=some o)(n:H b=none):b≠a:=fun e=>by rw[e,h]at n;cases n
theorem aq.free{t:Addr}{H H':Hp}{a:Addr}(e:aq t H H')(n:a≠t)(h:H' a=none):H a=none:=by
 cases q:H a with
 |none=>rfl
 |some o=>rw[e a o n q]at h;cases h
end L2
namespace Hs
open PySem L2 zO
section
variable{P:Program}{w:World}{K:W.Frag}{mg:Str->Option Value}{base:Heap}
theorem Bo(a:Int){b:Int}(h:0<b):0<=a %b:=wej _ (by omega)
theorem mod_lt(a:Int){b:Int}(h:0<b):a %b<b:=Zv _ h
theorem PL{ns:List Int}{k:Int}(h0:0<=k)(h1:k<(ns.length:Int)):∃v:Int,atI (ns.map V.int) k=some (.int v):=by
 have hk:k.toNat<ns.length:=by omega
 have ek:((k.toNat:Nat):Int)=k:=by omega
 have q:atI (ns.map V.int) ((k.toNat:Nat):Int)=some (.int ns[k.toNat]):=atI_nat (by rw[c7,gn hk];rfl)
 rw[ek]at q
 exact⟨_,q⟩
def uO(K:W.Frag):Sp:=fun vs H Q _=>∃(gq:Addr) (ns:List Int) (k:Int),vs=[.ref gq,.int k]/\j5 K H gq ns/\0<=k/\∀c:Int,Q (.int c) H
theorem Nt:FnScope ["script","k"] ["script","k"] (defScope UG):=fsc
theorem Og{f:Addr}{fd:FuncData}(F:Fun K "_law_acell" "_law_acell" UG f fd)(mL:mg "len"=none):FnOk P w K mg base CX0 1 f fd ["script","k"] (uO K):=by
 refine F.ok Nt (fun vs H Q E h=> ?_) (fun cdv A outer s H vs Q E hr h=> ?_)
 ·obtain⟨m,n,k,rfl,_⟩:=h
  rfl
 obtain⟨gq,ns,k,rfl,hS,hk,q⟩:=h
 refine⟨_,aO (lR (gZ op_lt (pv 1) (fW zP rfl mL wX (aj (pv 0) aA)) (nomark _)) (bw (cI (bM nO (pv 0) (pv 1) (fun _ _=>rfl)))) lU) (bw (cI aK)),?_⟩
 refine⟨_,rfl,_,rfl,gq,_,rfl,.inl hS.sq,fun hz=>⟨_,_,rfl,rfl,_,rfl,?_⟩⟩
 refine ite2 (fun c=> ?_) (fun c=> ?_)
 ·have c3:k<((ns.map V.int).length:Int):=tL c
  rw[aG]at c3
  obtain⟨v,hx⟩:=PL hk c3
  exact⟨_,rfl,_,rfl,gq,_,_,_,rfl,rfl,hS.sq,hx,q v⟩
 ·exact q 0
def Ii(K:W.Frag):Sp:=fun vs H Q _=>∃(gq:Addr) (ns:List Int) (k:Int),vs=[.ref gq,.int k]/\j5 K H gq ns/\0<=k/\∀p H' t,Same H H'->H' p=some (.lst [.int t])->H p=none->Q (.ref p) H'
theorem gC:FnScope ["script","k","cell","p","number","last","turn"] ["script","k"] (defScope gD):=fsc
theorem Ob{f f1:Addr}{fd d1:FuncData}(F:Fun K "_law_atape" "_law_atape" gD f fd)(D1:bY K mg "_law_acell" UG ["script","k"] f1 d1)(G1:FnOk P w K mg base CX0 1 f1 d1 ["script","k"] (uO K))(mR:mg "range"=none):
  FnOk P w K mg base CX0 2 f fd ["script","k"] (Ii K):=by
 refine F.ok gC (fun vs H Q E h=> ?_) (fun cdv A outer s H vs Q E hr h=> ?_)
 ·obtain⟨m,n,k,rfl,_⟩:=h
  rfl
 obtain⟨gq,ns,k,rfl,hS,hk,q⟩:=h
 refine⟨_,aO (cW (i:=2) gC.nd rfl (Or.inl rfl) (pc G1 hr D1 (aj (pv 0) (aj (pv 1) aA)))) (aO (lR (gZ op_eq (bK op_mod (pv 2) aK) aK (nomark _)) (bw (cI (pe_lst (aj (bK op_fdiv (pv 2) aK) aA)))) lU) (aO (cW (i:=3) gC.nd rfl (Or.inl rfl) aK) (aO (cW (i:=4) gC.nd rfl (Or.inl rfl) aK) (aO (cW (i:=5) gC.nd rfl (Or.inl rfl) (bK op_mod (bK su (bK su (bK uG (bK op_mod (pv 2) (pv 3)) aK) (bK uG aK (pv 1))) aK) (pv 3))) (aO (uH sG rfl (CT rfl mR (aj aK aA)) (cZ (i:=6) gC.nd rfl (Or.inl rfl)) (aO (cW (i:=4) gC.nd rfl (Or.inl rfl) (bK su (bK uG (pv 4) (pv 3)) (pv 5))) (bw (cW (i:=5) gC.nd rfl (Or.inl rfl) (bK op_mod (bK su (bK su (bK uG (pv 5) (pv 5)) (bK uG aK (pv 1))) (pv 6)) (pv 3)))))) (bw (cI (pe_lst (aj (pv 4) aA))))))))),?_⟩
 refine⟨_,rfl,_,rfl,gq,ns,k,rfl,hS,hk,fun c=> ?_⟩
 refine⟨_,rfl,_,_,rfl,rfl,(by show(0:Int)<2;decide),rfl,_,rfl,?_⟩
 refine ite2 (fun c1=> ?_) (fun c1=> ?_)
 ·exact⟨_,rfl,_,_,rfl,rfl,⟨by decide,by decide⟩,(by show 1<=sizeLine;decide),fun p hp=>q p _ _ (aY hp _) aJ hp⟩
 ·refine⟨_,rfl,_,rfl,_,_,rfl,rfl,(by show(0:Int)<2305843009213693951;decide),_,_,rfl,rfl,.inr ⟨by decide,by decide⟩,_,rfl,_,_,rfl,rfl,.inl ⟨by decide,by decide⟩,_,_,rfl,rfl,_,_,rfl,rfl,_,rfl,_,_,rfl,rfl,(by show(0:Int)<2305843009213693951;decide),?_⟩
  generalize hfirst:((fun i j=>V.int (i %j)) _ _:V)=vf
  obtain⟨a1,e1,a2,a3⟩:∃a:Int,vf= .int a/\0<=a/\a<2305843009213693951:=⟨_,hfirst.symm,Bo _ (by decide),mod_lt _ (by decide)⟩
  rw[e1]
  refine⟨9,rfl,by decide,by decide,?_⟩
  refine CQ (n:=9) (fun i σ H'=>H'=H/\∃(b l:Int) (o:Option V),σ=[some (.ref gq),some (.int k),some (.int c),some (.int 2305843009213693951),some (.int b),some (.int l),o]/\0<=l/\l<2305843009213693951) ⟨rfl,_,_,_,rfl,a2,a3⟩ (fun i σ H' hi p=> ?_) (fun σ H' p=> ?_)
  ·obtain⟨rfl,b,l,o,rfl,h0,h1⟩:=p
   refine⟨_,rfl,_,rfl,_,_,rfl,rfl,.inr ⟨by decide,by decide⟩,_,rfl,_,_,rfl,rfl,?_⟩
   refine⟨_,rfl,_,rfl,_,_,rfl,rfl,.inl ⟨by omega,by omega⟩,_,rfl,_,_,rfl,rfl,.inl ⟨by decide,by decide⟩,_,_,rfl,rfl,_,rfl,_,_,rfl,rfl,_,rfl,_,_,rfl,rfl,(by show(0:Int)<2305843009213693951;decide),?_⟩
   exact⟨rfl,_,_,_,rfl,Bo _ (by decide),mod_lt _ (by decide)⟩
  ·obtain⟨rfl,b,l,o,rfl,h0,h1⟩:=p
   exact⟨_,rfl,(by show 1<=sizeLine;decide),fun p hp=>q p _ _ (aY hp _) aJ hp⟩
def xK(K:W.Frag):Sp:=fun vs H Q _=>∃(tp:Addr) (t m:Int),vs=[.ref tp,.int m]/\H tp=some (.lst [.int t])/\0<m/\m<1000000000000000000000000000000/\∀r t':Int,0<=r->r<m->Q (.int r) (upd H tp (.lst [.int t']))
theorem Jp:FnScope ["tape","many","found"] ["tape","many"] (defScope UJ):=fsc
theorem Tn{f:Addr}{fd:FuncData}(F:Fun K "_law_adigit" "_law_adigit" UJ f fd):FnOk P w K mg base CX0 1 f fd ["tape","many"] (xK K):=by
 refine F.ok Jp (fun vs H Q E h=> ?_) (fun cdv A outer s H vs Q E hr h=> ?_)
 ·obtain⟨m,n,k,rfl,_⟩:=h
  rfl
 obtain⟨tp,t,m,rfl,hH,hm0,hm1,q⟩:=h
 refine⟨_,aO (cW (i:=2) Jp.nd rfl (Or.inl rfl) (bK op_mod (bM nO (pv 0) aK (fun _ _=>rfl)) (pv 1))) (aO (ps_asg (bK dh (bM nO (pv 0) aK (fun _ _=>rfl)) (pv 1)) (pg_sub (pv 0) aK set_list)) (bw (cI (pv 2)))),?_⟩
 refine⟨_,rfl,tp,_,_,.int t,rfl,rfl,SqL.of hH,rfl,_,rfl,_,_,rfl,rfl,hm0,?_⟩
 refine⟨_,rfl,tp,_,_,.int t,rfl,rfl,SqL.of hH,rfl,_,rfl,_,_,rfl,rfl,⟨hm0,hm1⟩,_,rfl,tp,_,_,0,rfl,rfl,hH,rfl,?_⟩
 exact⟨_,rfl,q _ _ (Bo _ hm0) (mod_lt _ hm0)⟩
def RP(K:W.Frag):Sp:=fun vs H Q _=>∃(i:Int),vs=[.int i]/\Q (.bl true) H
theorem W6:FnScope ["found"] ["found"] (defScope fB):=fsc
theorem Xk{f:Addr}{fd:FuncData}(F:Fun K "_law_awhole" "_law_awhole" fB f fd)(mi:mg "isinstance"=none)(mI:mg "int"=none)(mB:mg "bool"=none):FnOk P w K mg base CX0 1 f fd ["found"] (RP K):=by
 refine F.ok W6 (fun vs H Q E h=> ?_) (fun cdv A outer s H vs Q E hr h=> ?_)
 ·obtain⟨x,rfl,_⟩:=h
  rfl
 obtain⟨i,rfl,q⟩:=h
 refine⟨_,bw (cI (pe_and (fW Ep rfl mi (by decide+kernel) (aj (pv 0) (aj (En rfl mI (v:= .ty "int") (by decide+kernel) rfl) aA)))
  (pe_one (pe_not (fW Ep rfl mi (by decide+kernel) (aj (pv 0) (aj (En rfl mB (v:= .ty "bool") (by decide+kernel) rfl) aA))))))),?_⟩
 refine⟨_,rfl,.int i,"int",_,rfl,rfl,.inl rfl,_,rfl,?_⟩
 refine iteT ?_
 exact⟨_,rfl,.int i,"int",_,rfl,rfl,.inr (.inl rfl),_,rfl,q⟩
end
end Hs
namespace L2
open PySem
theorem cY.append{K:W.Frag}{H:Hp}{xs ys:List V}{ds es:List PyData}(h:cY K H xs ds)(h':cY K H ys es):cY K H (xs++ys) (ds++es):=
 cY.rec (motive_1:=fun _ _ _=>True) (motive_2:=fun xs ds _=>cY K H (xs++ys) (ds++es)) trivial (fun _=>trivial) (fun _=>trivial) (fun _=>trivial) (fun _ _ _=>trivial) (fun _ _ _=>trivial) (fun _=>trivial) (fun _ _=>trivial) h' (fun h _ _ t=> .cons h t) h
theorem aq.tup{K:W.Frag}{t:Addr}{H H':Hp}{a:Addr}{xs zs:List V}(e:aq t H H')(n:H t=some (.lst zs))(h:SqT K H a xs):SqT K H' a xs:=by
 rcases h with(h|⟨o,h⟩)|h
 ·exact .inl (.inl (e _ _ (ne_of h n (by intro z;cases z)) h))
 ·exact .inl (.inr ⟨o,e _ _ (ne_of h n (by intro z;cases z)) h⟩)
 ·exact .inr h
end L2
namespace zO
open PySem L2
theorem gH{K:W.Frag}{t:Addr}{H H':Hp}{zs:List V}(e:aq t H H')(n:H t=some (.lst zs)){rs:List V}{ps:List (Int×Int)}(h:cY K H rs (ps.map pairD)):cY K H' rs (ps.map pairD):=by
 induction ps generalizing rs with
 |nil=>cases h;exact .nil
 |cons p ps ih=>
  cases h with
  |cons h tl=>
   refine .cons ?_ (ih tl)
   cases h with
   |tup h hd=>
    cases hd with
    |cons a1 t1=>
     cases a1
     cases t1 with
     |cons a2 t2=>
      cases a2
      cases t2
      exact .tup (e.tup n h) (.cons (.int _) (.cons (.int _) .nil))
theorem iY.mD{K:W.Frag}{t:Addr}{H H':Hp}{zs:List V}{a:Addr}{n:Int}{ts:List (Int×Int)}(h:iY K H a n ts)(e:aq t H H')(hn:H t=some (.lst zs)):iY K H' a n ts:=by
 obtain⟨u,rs,h1,h2,h3⟩:=h
 exact⟨u,rs,e.tup hn h1,e.tup hn h2,gH e hn h3⟩
theorem jV{α:Type} [DecidableEq α]:∀{l m:List α},l.Nodup->(∀a∈l,a∈m)->l.length<=m.length
 |[],m,_,_=>cX _
 |a::l,m,nd,h=>by
  have ha:=h a cV
  have nd':=Hl.mp nd
  have q:∀b∈l,b∈m.erase a:=fun b hb=>by
   have hne:b≠a:=fun e=>nd'.1 (e▸hb)
   exact(Zx hne).mpr (h b (dG _ hb))
  have:=jV nd'.2 q
  have e:=ZF ha
  have:0<m.length:=Va ha
  simp only[qx]
  omega
structure bO(n:Int)(ps:List (Int×Int)):Prop where
 nd:ps.Nodup
 lt:∀p∈ps,0<=p.1/\p.1<p.2/\p.2<n
def YX(n:Nat):List (Int×Int):=((List.range n).map fun(j:Nat)=>(List.range j).map fun(i:Nat)=>((i:Int),(j:Int))).flatten
theorem pairs_len{n:Int}{ps:List (Int×Int)}(h:bO n ps)(hn:n<=10):ps.length<=45:=by
 have q:=jV (m:=YX 10) h.nd fun p hp=>by
  obtain⟨h0,h1,h2⟩:=h.lt p hp
  obtain⟨a,b⟩:=p
  dsimp only at h0 h1 h2
  refine List.mem_flatten.mpr ⟨(List.range b.toNat).map fun(i:Nat)=>((i:Int),((b.toNat:Nat):Int)),j8.mpr ⟨b.toNat,sI.mpr (by omega),rfl⟩,j8.mpr ⟨a.toNat,sI.mpr (by omega),?_⟩⟩
  have e1:((a.toNat:Nat):Int)=a:=by omega
  have e2:((b.toNat:Nat):Int)=b:=by omega
  rw[e1,e2]
 have e:(YX 10).length=45:=by decide
 omega
def pl(p:Int×Int):List Int:=[p.1,p.2]
theorem Sq{p q:Int×Int}(h:pl p=pl q):p=q:=by
 obtain⟨a,b⟩:=p
 obtain⟨c,d⟩:=q
 unfold pl at h
 simp at h
 rw[h.1,h.2]
theorem TQ{a b:List Int}(h:HT.lexLt b a=false)(ne:a≠b):HT.lexLt a b=true:=by
 rw[HT.dN]at h⊢
 have h1:¬b<a:=RD h
 have h2:a<=b:=List.not_lt.mp h1
 refine fj ?_
 rcases Classical.em (a<b)with h3|h3
 ·exact h3
 ·exact absurd (List.le_antisymm h2 (List.not_lt.mp h3)) ne
theorem HY{n:Int}{p:Int×Int}(h0:0<=p.1)(h1:p.1<p.2)(h2:p.2<n):kZ n (pairD p)=true:=by
 show((bR n (.int p.1)&&(bR n (.int p.2)&&true))&&jx [p.1,p.2]&&decide (([PyData.int p.1,PyData.int p.2]).length=2))=true
 have e1:bR n (.int p.1)=true:=by
  show(decide (0<=p.1)&&decide (p.1<n))=true
  rw[fj h0,fj (by omega)];rfl
 have e2:bR n (.int p.2)=true:=by
  show(decide (0<=p.2)&&decide (p.2<n))=true
  rw[fj (by omega),fj h2];rfl
 have e3:jx [p.1,p.2]=true:=by
  show(decide (p.1<p.2)&&true)=true
  rw[fj h1];rfl
 rw[e1,e2,e3];rfl
theorem Ru{n:Int}{ts:List (Int×Int)}(hn0:0<=n)(hn1:n<=10)(h:bO n ts)(hs:ts.Pairwise fun p q=>HT.lexLt (pl q) (pl p)=false):uL (uK n ts)=true:=by
 show(true&&(decide (0<=n)&&decide (n<=10))&&((ts.map pairD).all (kZ n)&&jw ((ts.map pairD).map fun t=>(kids t).map intD)))=true
 have e1:(ts.map pairD).all (kZ n)=true:=by
  rw[List.all_map,qw]
  intro p hp
  obtain⟨h0,h1,h2⟩:=h.lt p hp
  exact HY h0 h1 h2
 have e2:(ts.map pairD).map (fun t=>(kids t).map intD)=ts.map pl:=by rw[U0];rfl
 have e3:jw (ts.map pl)=true:=by
  unfold jw
  rw[qw]
  intro k hk
  have hk':k<ts.length-1:=by simpa using hk
  have g1:(ts.map pl).getD k []=pl ts[k]:=by rw[kO,c7,gn (by omega)];rfl
  have g2:(ts.map pl).getD (k+1) []=pl ts[k+1]:=by rw[kO,c7,gn (by omega)];rfl
  rw[g1,g2]
  refine TQ (Qm.mp hs k (k+1) (by omega) (by omega) (by omega)) fun e=> ?_
  have:=(List.getElem_inj h.nd).mp (Sq e)
  omega
 rw[fj hn0,fj hn1,e1,e2,e3];rfl
theorem Kl{K:W.Frag}{H:Hp}{rs:List V}{ps:List (Int×Int)}(h:cY K H rs (ps.map pairD)):∃its:List (Addr×(Int×Int)),rs=its.map (fun p=>V.ref p.1)/\its.map (·.2)=ps/\∀p∈its,SqT K H p.1 ((pl p.2).map V.int):=by
 induction ps generalizing rs with
 |nil=>cases h;exact⟨[],rfl,rfl,fun p h=>(nomatch h)⟩
 |cons p ps ih=>
  cases h with
  |cons h tl=>
   obtain⟨its,e1,e2,e3⟩:=ih tl
   cases h with
   | @tup a _ _ h hd=>
    cases hd with
    |cons a1 t1=>
     cases a1
     cases t1 with
     |cons a2 t2=>
      cases a2
      cases t2
      refine⟨(a,p)::its,by rw[e1];rfl,by rw[<-e2];rfl,fun q hq=> ?_⟩
      rcases cB.mp hq with e|e
      ·rw[e];exact h
      ·exact e3 q e
theorem yj{K:W.Frag}{H:Hp}:∀(its:List (Addr×(Int×Int))),(∀p∈its,SqT K H p.1 ((pl p.2).map V.int))->cY K H (its.map fun p=>V.ref p.1) ((its.map (·.2)).map pairD)
 |[],_=> .nil
 |p::its,h=> .cons (.tup (h p cV) (.cons (.int _) (.cons (.int _) .nil))) (yj its fun q hq=>h q (dG _ hq))
def aW(ts:List (Int×Int))(i j:Int):Bool:=decide ((i,j)∈ts)||decide ((j,i)∈ts)
theorem tied_eq{n:Int}{ts:List (Int×Int)}(h:bO n ts)(i j:Int):bh ts i j=aW ts i j:=by
 unfold bh aW
 have no:∀{a b:Int},b<=a->decide ((a,b)∈ts)=false:=fun{a b} hab=>jN fun hm=>by
  have:=(h.lt _ hm).2.1
  dsimp only at this
  omega
 rcases Int.lt_trichotomy i j with c|c|c
 ·rw[ao (show¬j<i by omega),au (show j>i by omega),no (show i<=j by omega),Bool.or_false]
 ·subst c
  rw[ao (show¬i<i by omega),Bool.or_self]
  try rw[ao (show¬i>i by omega)]
 ·rw[au (show j<i by omega),ao (show¬j>i by omega),no (show j<=i by omega),Wv]
end zO
namespace Hs
open PySem L2 zO
def oA(p q:Int×Int):Prop:=p.1<q.1\/(p.1=q.1/\p.2<q.2)
theorem oA.trans{p q r:Int×Int}(a:oA p q)(b:oA q r):oA p r:=by
 unfold oA at *;omega
theorem oA.Vu{p:Int×Int}(a:oA p p):False:=by
 unfold oA at a;omega
theorem eq_of_sorted:∀{l m:List (Int×Int)},l.Pairwise oA->m.Pairwise oA->(∀p,p∈l↔p∈m)->l=m
 |[],[],_,_,_=>rfl
 |[],q::m,_,_,h=>absurd ((h q).mpr (cV ..)) (by simp)
 |p::l,[],_,_,h=>absurd ((h p).mp (cV ..)) (by simp)
 |p::l,q::m,hl,hm,h=>by
  rw[V9]at hl hm
  have e:p=q:=by
   rcases cB.mp ((h p).mp (cV ..))with e|e
   ·exact e
   rcases cB.mp ((h q).mpr (cV ..))with e'|e'
   ·exact e'.symm
   exact(oA.Vu ((hl.1 _ e').trans (hm.1 _ e))).elim
  subst e
  have:l=m:=eq_of_sorted hl.2 hm.2 (fun r=>by
   have hr:=h r
   rw[cB,cB]at hr
   constructor
   ·intro hi
    rcases hr.mp (.inr hi)with e|e
    ·subst e;exact(oA.Vu (hl.1 _ hi)).elim
    ·exact e
   ·intro hi
    rcases hr.mpr (.inr hi)with e|e
    ·subst e;exact(oA.Vu (hm.1 _ hi)).elim
    ·exact e)
  rw[this]
theorem Ou{p q:Int×Int}(h:HT.lexLt (pl p) (pl q)=true):oA p q:=by
 rw[HT.dN]at h
 have:=tL h
 unfold pl at this
 rw[ZC]at this
 rcases this with a|⟨a,b⟩
 ·exact .inl a
 ·rw[ZC]at b
  rcases b with b|⟨_,b⟩
  ·exact .inr ⟨a,b⟩
  ·exact absurd b (by simp)
def row(so:Int->Int->Bool)(i:Int)(k:Nat):List (Int×Int):=((List.range k).map fun(t:Nat)=>(i,i+1+(t:Int))).filter fun p=>so p.1 p.2
def rows(so:Int->Int->Bool)(m:Int)(i:Nat):List (Int×Int):=((List.range i).map fun(t:Nat)=>row so (0+(t:Int)) (m-(0+(t:Int)+1)).toNat).flatten
theorem mX(so:Int->Int->Bool)(i:Int)(k:Nat):row so i (k+1)=row so i k++(if so i (i+1+(k:Int))=true then[(i,i+1+(k:Int))]else[]):=by
 unfold row
 rw[CV,cJ,Ro]
 congr 1
 show List.filter _ [(i,i+1+(k:Int))]=_
 rw[MJ]
 rfl
theorem fV(so:Int->Int->Bool)(m:Int)(i:Nat):rows so m (i+1)=rows so m i++row so (0+(i:Int)) (m-(0+(i:Int)+1)).toNat:=by
 unfold rows
 rw[CV,cJ,List.flatten_append]
 simp
theorem ql{so:Int->Int->Bool}{i:Int}{k:Nat}{p:Int×Int}:p∈row so i k↔p.1=i/\i<p.2/\p.2<i+1+(k:Int)/\so p.1 p.2=true:=by
 unfold row
 rw[je,j8]
 constructor
 ·rintro⟨⟨t,ht,rfl⟩,h⟩
  rw[sI]at ht
  exact⟨rfl,by show i<i+1+(t:Int);omega,by show i+1+(t:Int)<_;omega,h⟩
 ·rintro⟨h1,h2,h3,h4⟩
  refine⟨⟨(p.2-i-1).toNat,by rw[sI];omega,?_⟩,h4⟩
  apply Prod.ext
  ·exact h1.symm
  ·show i+1+(((p.2-i-1).toNat:Nat):Int)=p.2;omega
theorem Hh{so:Int->Int->Bool}{m:Int}:∀{i:Nat} {p:Int×Int},p∈rows so m i↔0<=p.1/\p.1<(i:Int)/\p.1<p.2/\p.2<m/\so p.1 p.2=true
 |0,p=>by
  constructor
  ·intro h;simp[rows]at h
  ·intro h;omega
 |i+1,p=>by
  rw[fV,kJ,Hh (i:=i),ql]
  constructor
  ·rintro(h|h)
   ·exact⟨h.1,by omega,h.2.2⟩
   ·exact⟨by omega,by omega,by omega,by omega,h.2.2.2⟩
  ·rintro⟨h1,h2,h3,h4,h5⟩
   by_cases e:p.1<(i:Int)
   ·exact .inl ⟨h1,e,h3,h4,h5⟩
   ·exact .inr ⟨by omega,by omega,by omega,h5⟩
theorem qO(so:Int->Int->Bool)(i:Int)(k:Nat):(row so i k).Pairwise oA:=by
 unfold row
 refine List.Pairwise.filter _ ?_
 rw[Rn]
 exact Vb.imp fun h=> .inr ⟨rfl,by show i+1+_<i+1+_;omega⟩
theorem Qa(so:Int->Int->Bool)(m:Int):∀i:Nat,(rows so m i).Pairwise oA
 |0=>by unfold rows;exact List.Pairwise.nil
 |i+1=>by
  rw[fV,Rp]
  refine⟨Qa so m i,qO so _ _,fun p hp q hq=> ?_⟩
  rw[Hh]at hp
  rw[ql]at hq
  exact .inl (by omega)
theorem u9{so:Int->Int->Bool}{m:Int}{i:Nat}:bO m (rows so m i):=
 ⟨(Qa so m i).imp fun h e=>by subst e;exact oA.Vu h,fun p hp=>by rw[Hh]at hp;exact⟨hp.1,hp.2.2.1,hp.2.2.2.1⟩⟩
theorem tZ{l:List (Int×Int)}(h:l.Pairwise oA):l.Nodup:=h.imp fun h e=>by subst e;exact oA.Vu h
end Hs
namespace L2
open PySem
theorem cY.get'{K:W.Frag}{H:Hp}:∀{xs:List V} {ds:List PyData} {i:Nat},cY K H xs ds->i<ds.length->∃x d,xs[i]? =some x/\ds[i]? =some d/\DV K H x d
 |_,_,i,.nil,h=>by simp at h
 |_,_,0,.cons h _,_=>⟨_,_,rfl,rfl,h⟩
 |_,_,i+1,.cons _ t,h=>by
  obtain⟨x,d,h1,h2,h3⟩:=cY.get' (i:=i) t (by simpa using h)
  exact⟨x,d,by simpa using h1,by simpa using h2,h3⟩
end L2
namespace Hs
open PySem L2 zO
structure bH(K:W.Frag)(H:Hp)(a:Addr)(n:Int)(ts:List (Int×Int)):Prop where
 web:iY K H a n ts
 h0:0<=n
 h1:n<=10
 pk:bO n ts
 ok:Li n ts
theorem bH.same{K:W.Frag}{H H':Hp}{a:Addr}{n:Int}{ts:List (Int×Int)}(h:bH K H a n ts)(e:Same H H'):bH K H' a n ts:=⟨h.web.same e,h.h0,h.h1,h.pk,h.ok⟩
theorem bH.mD{K:W.Frag}{H H':Hp}{t a:Addr}{zs:List V}{n:Int}{ts:List (Int×Int)}(h:bH K H a n ts)(e:aq t H H')(hn:H t=some (.lst zs)):bH K H' a n ts:=⟨h.web.mD e hn,h.h0,h.h1,h.pk,h.ok⟩
def tt(_ _:Int):Bool:=true
theorem Oq{p q:Int×Int}(h:oA p q):HT.lexLt (pl q) (pl p)=false:=by
 rw[HT.dN]
 refine jN fun z=> ?_
 have:oA q p:=Ou (by rw[HT.dN];exact fj z)
 exact oA.Vu (h.trans this)
theorem iD{n:Int}{ts:List (Int×Int)}{i:Nat}(h0:0<=n)(h1:n<=10)(h:ts.Sublist (rows tt n i)):bO n ts/\Li n ts:=by
 have hs:ts.Pairwise oA:=(Qa tt n i).sublist h
 have ho:bO n ts:=⟨tZ hs,fun p hp=>(u9 (so:=tt) (m:=n) (i:=i)).lt p (h.subset hp)⟩
 exact⟨ho,Ru h0 h1 ho (hs.imp Oq)⟩
theorem vq{K:W.Frag}{H:Hp}{rs:List V}{ps:List (Int×Int)}{i:Nat}{x:V}(h:cY K H rs (ps.map pairD))(hx:rs[i]? =some x):∃(t:Addr) (hi:i<ps.length),x= .ref t/\SqT K H t [.int (ps[i]).1,.int (ps[i]).2]:=by
 have hlen:=h.len
 rw[aG]at hlen
 have hi:i<ps.length:=by rw[<-hlen];exact(qy.mp hx).1
 obtain⟨x',d,e1,e2,e3⟩:=cY.get' (i:=i) h (by rw[aG];exact hi)
 rw[hx]at e1;cases e1
 rw[c7,gn hi]at e2
 cases e2
 cases e3 with
 |tup hp tp=>
  cases tp with
  |cons ta tb=>
   cases tb with
   |cons tc td=>
    cases td
    cases ta
    cases tc
    exact⟨_,hi,rfl,hp⟩
def dH(K:W.Frag)(H:Hp)(l:Addr)(R:List (Int×Int))(P:Int×Int->Prop):Prop:=∃(rs:List V) (ts:List (Int×Int)),H l=some (.lst rs)/\cY K H rs (ts.map pairD)/\ts.Sublist R/\∀p∈ts,P p
theorem dH.nil{K:W.Frag}{H:Hp}{l:Addr}{R:List (Int×Int)}{P:Int×Int->Prop}(h:H l=some (.lst [])):dH K H l R P:=⟨[],[],h,.nil,List.nil_sublist _,fun p hp=>(nomatch hp)⟩
theorem dH.step{K:W.Frag}{H H':Hp}{l c:Addr}{R:List (Int×Int)}{P:Int×Int->Prop}{zs:List V}(h:dH K H l R P)(e:aq c H H')(hc:H c=some (.lst zs))(n:l≠c):dH K H' l R P:=by
 obtain⟨rs,ts,h1,h2,h3⟩:=h
 exact⟨rs,ts,e _ _ n h1,gH e hc h2,h3⟩
theorem dH.mono{K:W.Frag}{H:Hp}{l:Addr}{R R':List (Int×Int)}{P:Int×Int->Prop}(h:dH K H l R P)(e:R.Sublist R'):dH K H l R' P:=by
 obtain⟨rs,ts,h1,h2,h3,h4⟩:=h
 exact⟨rs,ts,h1,h2,h3.trans e,h4⟩
theorem dH.push{K:W.Frag}{H:Hp}{l p:Addr}{R:List (Int×Int)}{P:Int×Int->Prop}{i j:Int}{rs:List V}{ts:List (Int×Int)}(h1:H l=some (.lst rs))(h2:cY K H rs (ts.map pairD))(h3:ts.Sublist R)(h4:∀p∈ts,P p)(hp:SqT K H p [.int i,.int j])(hP:P (i,j)):dH K (upd H l (.lst (rs++[.ref p]))) l (R++[(i,j)]) P:=by
 have x:aq l H (upd H l (.lst (rs++[.ref p]))):=(aq.refl _ _).upd
 refine⟨_,ts++[(i,j)],aJ,?_,h3.append (Vl _),fun q hq=> ?_⟩
 ·rw[cJ]
  exact(gH x h1 h2).append (.cons (.tup (x.tup h1 hp) (.cons (.int _) (.cons (.int _) .nil))) .nil)
 ·rcases kJ.mp hq with q'|q'
  ·exact h4 q q'
  ·rw[g8.mp q'];exact hP
theorem sub_len{n:Int}{ts:List (Int×Int)}{i k:Nat}(h1:n<=10)(hk:0+(i:Int)+1+(k:Int)<=n)(h:ts.Sublist (rows tt n i++row tt (0+(i:Int)) k)):ts.length<=45:=by
 refine pairs_len (n:=n) ⟨?_,fun p hp=> ?_⟩ h1
 ·refine tZ (List.Pairwise.sublist h ?_)
  rw[Rp]
  refine⟨Qa _ _ _,qO _ _ _,fun p hp q hq=> ?_⟩
  rw[Hh]at hp
  rw[ql]at hq
  exact .inl (by omega)
 ·rcases kJ.mp (h.subset hp)with q|q
  ·rw[Hh]at q;exact⟨q.1,q.2.2.1,q.2.2.2.1⟩
  ·rw[ql]at q;exact⟨by omega,by omega,by omega⟩
section
variable{P:Program}{w:World}{K:W.Frag}{mg:Str->Option Value}{base:Heap}
end
theorem Ay{so so':Int->Int->Bool}{m:Int}{i:Nat}(h:∀x y:Int,0<=x->x<y->y<m->so x y=so' x y):rows so m i=rows so' m i:=by
 refine eq_of_sorted (Qa _ _ _) (Qa _ _ _) fun p=> ?_
 rw[Hh,Hh]
 constructor
 ·rintro⟨a,b,c,d,e⟩;exact⟨a,b,c,d,by rw[<-h _ _ a c d];exact e⟩
 ·rintro⟨a,b,c,d,e⟩;exact⟨a,b,c,d,by rw[h _ _ a c d];exact e⟩
theorem ju{so:Int->Int->Bool}{m:Int}{i:Nat}:(rows tt m i).filter (fun p=>so p.1 p.2)=rows so m i:=by
 refine eq_of_sorted ((Qa _ _ _).filter _) (Qa _ _ _) fun p=> ?_
 rw[je,Hh,Hh]
 constructor
 ·rintro⟨⟨a,b,c,d,_⟩,e⟩;exact⟨a,b,c,d,e⟩
 ·rintro⟨a,b,c,d,e⟩;exact⟨⟨a,b,c,d,rfl⟩,e⟩
section
variable{P:Program}{w:World}{K:W.Frag}{mg:Str->Option Value}{base:Heap}
structure Cv(K:W.Frag)(H:Hp)(l:Addr)(ps:List (Int×Int)):Prop where
 ex:∃rs,H l=some (.lst rs)/\cY K H rs (ps.map pairD)
theorem Cv.same{H H':Hp}{l:Addr}{ps:List (Int×Int)}(h:Cv K H l ps)(e:Same H H'):Cv K H' l ps:=by
 obtain⟨rs,h1,h2⟩:=h.ex
 exact⟨rs,e _ _ h1,h2.same e⟩
def Ab(K:W.Frag):Sp:=fun vs H Q _=>∃(n:Int),vs=[.int n]/\0<=n/\n<=10/\∀l H',Same H H'->Cv K H' l (rows tt n n.toNat)->Q (.ref l) H'
theorem u6:FnScope ["n","found","one"] ["n"] (defScope mK):=fsc
theorem Oj{f:Addr}{fd:FuncData}(F:Fun K "pairs" "pairs" mK f fd)(mR:mg "range"=none):FnOk P w K mg base CX0 1 f fd ["n"] (Ab K):=by
 refine F.ok u6 (fun vs H Q E h=> ?_) (fun cdv A outer s H vs Q E hr h=> ?_)
 ·obtain⟨n,rfl,_⟩:=h
  rfl
 obtain⟨n,rfl,hn0,hn1,q⟩:=h
 refine⟨_,aO (cW (i:=1) u6.nd rfl (Or.inl rfl) (pe_lst aA)) (aO (uH sG rfl (CT rfl mR (aj (pv 0) aA)) (cZ (i:=2) u6.nd rfl (Or.inr rfl)) (bw (tH (pe_bm M7 PySem.F.slot_list_extend PySem.F.type_list_extend mt_extend (pv 1) (aj
    (pZ (own:=["other"]) (caps:=["one"]) (ix:=[2]) rfl (pi_range2 rfl mR (aj (bK su (pv 2) aK) (aj (pv 0) aA))) rfl rfl (.cons rfl rfl .nil) (fun _ _ _ _ _=>cZ (i:=0) (show(["other","one"]:List Str).Nodup from by decide+kernel) rfl (Or.inl rfl)) (fun _ _ _ _ _=>sy) (fun _ _ _ _ _=>pY (aj (pv 1) (aj (pv 0) aA)))) aA))))) (bw (cI (pv 1)))),?_⟩
 refine⟨(by show 0<=sizeLine;decide),fun l hl=> ?_⟩
 refine⟨_,rfl,n,rfl,by omega,by omega,?_⟩
 refine CQ (n:=n.toNat) (fun i σ H'=>Same H H'/\(∃rs,H' l=some (.lst rs)/\cY K H' rs ((rows tt n i).map pairD))/\∃o,σ=[some (.int n),some (.ref l),o]) ⟨aY hl _,⟨[],aJ,.nil⟩,_,rfl⟩ (fun i σ H' hi p=> ?_) (fun σ H' p=> ?_)
 ·obtain⟨sm,⟨rs,hr1,hr2⟩,o,rfl⟩:=p
  have hlen:=hr2.len
  rw[aG]at hlen
  have h45:=pairs_len (u9 (so:=tt) (m:=n) (i:=i)) hn1
  refine⟨_,rfl,.inl ⟨rfl,_,SqL.of hr1⟩,_,rfl,_,_,rfl,rfl,_,rfl,_,_,rfl,⟨by omega,by omega,by omega,by omega⟩,?_⟩
  refine Ri (n:=(n-(0+(i:Int)+1)).toNat) (fun k acc σ H2=>Same H' H2/\acc.length=k/\cY K H2 acc ((row tt (0+(i:Int)) k).map pairD)/\∃o1,σ=[o1,some (.int (0+(i:Int)))]) ⟨Same.refl _,rfl,.nil,_,rfl⟩ (fun k acc σ H2 hk p=>by rw[p.2.1];exact aH _) (by rw[fM];omega) (fun k acc σ H2 hk p=> ?_) (fun acc σ H2 p=> ?_)
  ·obtain⟨s2,hl2,hd,o1,rfl⟩:=p
   refine⟨_,rfl,_,rfl,(by show 2<=sizeLine;decide),fun p hp=> ?_⟩
   have s3:=aY hp (.tup [.int (0+(i:Int)),.int (0+(i:Int)+1+(k:Int))])
   refine⟨s2.trans s3,by rw[lW,hl2];rfl,?_,_,rfl⟩
   rw[mX,cJ,au (show tt (0+(i:Int)) (0+(i:Int)+1+(k:Int))=true from rfl)]
   exact(hd.same s3).append (.cons (.tup (SqT.of aJ) (.cons (.int _) (.cons (.int _) .nil))) .nil)
  ·intro p1 hp1
   obtain⟨s2,hl2,hd,_⟩:=p
   have s3:=aY hp1 (.lst acc)
   have hr3:=s3 _ _ (s2 _ _ hr1)
   refine⟨l,p1,rs,acc,rfl,rfl,hr3,aJ,?_,?_⟩
   ·rw[fM];omega
   ·have x4:aq l (upd H2 p1 (.lst acc)) (upd (upd H2 p1 (.lst acc)) l (.lst (rs++acc))):=(aq.refl _ _).upd
    refine⟨?_,⟨_,aJ,?_⟩,_,rfl⟩
    ·intro b o hb
     have nb:b≠l:=fun e=>by rw[e,hl]at hb;cases hb
     exact x4 _ _ nb (s3 _ _ (s2 _ _ (sm _ _ hb)))
    ·rw[fV]
     exact gH x4 hr3 (by rw[cJ];exact((hr2.same s2).same s3).append (hd.same s3))
 ·obtain⟨sm,⟨rs,hr1,hr2⟩,o,rfl⟩:=p
  exact⟨_,rfl,q l _ sm ⟨rs,hr1,hr2⟩⟩
theorem yU{so:Int×Int->Bool}{ps:List (Int×Int)}{i:Nat}(hi:i<ps.length):(ps.take (i+1)).filter so=(ps.take i).filter so++(if so ps[i]=true then[ps[i]]else[]):=by
 rw[wW,gn hi,Ro]
 congr 1
 show List.filter so [ps[i]]=_
 rw[MJ]
 rfl
end
structure YZ(n:Int)(xs:List Int):Prop where
 srt:xs.Pairwise (· < ·)
 lt:∀x∈xs,0<=x/\x<n
def upto(n:Nat):List Int:=(List.range n).map fun(k:Nat)=>(k:Int)
theorem Dg(n:Int):YZ n (upto n.toNat):=by
 unfold upto
 refine⟨?_,fun x hx=> ?_⟩
 ·rw[Rn]
  exact Vb.imp fun h=>by omega
 ·obtain⟨k,hk,rfl⟩:=j8.mp hx
  rw[sI]at hk
  omega
section
variable{P:Program}{w:World}{K:W.Frag}{mg:Str->Option Value}{base:Heap}
end
end Hs
namespace Hs
open zO
end Hs
namespace Hs
def ff:Nat->Nat
 |0=>1
 |1=>1
 |2=>2
 |3=>3
 |4=>4
 |5=>6
 |6=>9
 |7=>12
 |8=>18
 |9=>27
 |_=>36
theorem vO:∀m n:Nat,m<=n->n<=10->ff m<=ff n:=by
 have h:∀n:Fin 11,∀m:Fin 11,m.val<=n.val->ff m.val<=ff n.val:=by decide
 intro m n hm hn
 exact h ⟨n,by omega⟩ ⟨m,by omega⟩ hm
theorem Py:∀n d:Nat,0<d->d<=n->n<=10->d*ff (n-d)<=ff n:=by
 have h:∀n:Fin 11,∀d:Fin 11,0<d.val->d.val<=n.val->d.val*ff (n.val-d.val)<=ff n.val:=by decide
 intro n d h0 hd hn
 exact h ⟨n,by omega⟩ ⟨d,by omega⟩ h0 hd
structure Full(r:Int->Int->Bool)(V:List Int)(s:List Int):Prop where
 up:s.Pairwise (· < ·)
 sub:∀x∈s,x∈V
 ind:∀x∈s,∀y∈s,x≠y->r x y=false
 max:∀v∈V,v∉s->∃x∈s,r x v=true
theorem yE(g:Int->Nat):∀V:List Int,V≠[]->∃v∈V,∀u∈V,g v<=g u
 |[],h=>absurd rfl h
 |[x],_=>⟨x,by simp,fun u hu=>by rw[g8.mp hu];exact aH _⟩
 |x::y::V,_=>by
  obtain⟨v,hv,hm⟩:=yE g (y::V) (by simp)
  by_cases c:g x<=g v
  ·refine⟨x,by simp,fun u hu=> ?_⟩
   rcases cB.mp hu with e|e
   ·rw[e];exact aH _
   ·exact eO c (hm u e)
  ·refine⟨v,dG _ hv,fun u hu=> ?_⟩
   rcases cB.mp hu with e|e
   ·rw[e];omega
   ·exact hm u e
theorem lD{α:Type}(p:α->Bool):∀l:List α,(l.filter p).length+(l.filter fun x=> !p x).length=l.length
 |[]=>rfl
 |x::l=>by
  have ih:=lD p l
  rw[MJ,MJ]
  cases p x<;>simp <;>omega
theorem uw{α β:Type}(p:β->α->Bool)(m:Nat):∀(us:List β) (fs:List α),(∀s∈fs,∃u∈us,p u s=true)->(∀u∈us,∀gs:List α,gs.Sublist fs->(∀s∈gs,p u s=true)->gs.length<=m)->fs.length<=us.length*m
 |[],fs,h,_=>by
  cases fs with
  |nil=>simp
  |cons s fs=>obtain⟨u,hu,_⟩:=h s (by simp);cases hu
 |u::us,fs,h,hm=>by
  have e:=lD (p u) fs
  have a:=hm u (by simp) (fs.filter (p u)) U6 (fun s hs=>(je.mp hs).2)
  have b:=uw p m us (fs.filter fun x=> !p u x) (fun s hs=>by
   obtain⟨h1,h2⟩:=je.mp hs
   obtain⟨w,hw,hp⟩:=h s h1
   rcases cB.mp hw with z|z
   ·rw[z]at hp;rw[hp]at h2;cases h2
   ·exact⟨w,z,hp⟩) (fun w hw gs hg hp=>hm w (dG _ hw) gs (hg.trans U6) hp)
  rw[qx,Nat.succ_mul]
  omega
theorem Dh:∀{xs ys:List Int},xs.Pairwise (· < ·)->ys.Pairwise (· < ·)->(∀k,k∈xs↔k∈ys)->xs=ys
 |[],[],_,_,_=>rfl
 |[],y::ys,_,_,h=>by have:=(h y).mpr (by simp);simp at this
 |x::xs,[],_,_,h=>by have:=(h x).mp (by simp);simp at this
 |x::xs,y::ys,hx,hy,h=>by
  rw[V9]at hx hy
  have e:x=y:=by
   have a:=(h x).mp (by simp)
   have b:=(h y).mpr (by simp)
   rcases cB.mp a with a|a
   ·exact a
   ·rcases cB.mp b with b|b
    ·exact b.symm
    ·have:=hy.1 x a;have:=hx.1 y b;omega
  subst e
  rw[Dh hx.2 hy.2 fun k=> ?_]
  constructor
  ·intro hk
   rcases cB.mp ((h k).mp (dG _ hk))with a|a
   ·have:=hx.1 k hk;omega
   ·exact a
  ·intro hk
   rcases cB.mp ((h k).mpr (dG _ hk))with a|a
   ·have:=hy.1 k hk;omega
   ·exact a
theorem oh{α β:Type}{g:α->β}:∀{l:List α},l.Nodup->(∀a∈l,∀b∈l,g a=g b->a=b)->(l.map g).Nodup
 |[],_,_=>List.nodup_nil
 |a::l,h,hi=>by
  rw[Hl]at h
  rw[wU,Hl]
  refine⟨fun hm=> ?_,oh h.2 fun x hx y hy=>hi x (dG _ hx) y (dG _ hy)⟩
  obtain⟨b,hb,e⟩:=j8.mp hm
  have:=hi b (dG _ hb) a (by simp) e
  rw[this]at hb
  exact h.1 hb
def bN(r:Int->Int->Bool)(v u:Int):Bool:=decide (u=v)||r u v
theorem BJ{r:Int->Int->Bool}(sym:∀i j,r i j=r j i):∀(n:Nat) (V:List Int),V.length=n->n<=10->∀fs:List (List Int),fs.Nodup->(∀s∈fs,Full r V s)->fs.length<=ff n:=by
 intro n
 induction n using Nat.strongRecOn with
 |ind n ih=>
  intro V hV hn fs nd hf
  by_cases hz:V=[]
  ·have e:∀s∈fs,s=[]:=fun s hs=>by
    cases s with
    |nil=>rfl
    |cons x s=>have:=(hf _ hs).sub x (by simp);rw[hz]at this;cases this
   have l1:fs.length<=1:=by
    match fs,nd,e with
    |[],_,_=>simp
    |[_],_,_=>simp
    |a::b::fs,nd,e=>
     exfalso
     rw[Hl]at nd
     apply nd.1
     rw[e a (by simp),e b (by simp)]
     simp
   have:1<=ff n:=by
    have:=vO 0 n (cX _) hn
    exact this
   omega
  obtain⟨v,hv,hmin⟩:=yE (fun u=>(V.filter (bN r u)).length) V hz
  have key:=uw (fun(u:Int) (s:List Int)=>decide (u∈s)) (ff (n-(V.filter (bN r v)).length)) (V.filter (bN r v)) fs (fun s hs=> ?_) (fun u hu gs hg hp=> ?_)
  ·have hle:(V.filter (bN r v)).length<=n:=by rw[<-hV];exact wJ _ _
   have hpos:0<(V.filter (bN r v)).length:=Va (je.mpr ⟨hv,by unfold bN;simp⟩)
   exact eO key (Py n _ hpos hle hn)
  ·by_cases c:v∈s
   ·exact⟨v,je.mpr ⟨hv,by unfold bN;simp⟩,fj c⟩
   ·obtain⟨x,hx,hr⟩:=(hf s hs).max v hv c
    exact⟨x,je.mpr ⟨(hf s hs).sub x hx,by unfold bN;rw[hr];simp⟩,fj hx⟩
  ·have huV:u∈V:=(je.mp hu).1
   have fg:∀s∈gs,Full r V s/\u∈s:=fun s hs=>⟨hf s (hg.subset hs),tL (hp s hs)⟩
   have hle:(V.filter (bN r u)).length<=n:=by rw[<-hV];exact wJ _ _
   have hge:=hmin u huV
   have hpos:0<(V.filter (bN r u)).length:=Va (je.mpr ⟨huV,by unfold bN;simp⟩)
   have hV2:(V.filter fun x=> !bN r u x).length=n-(V.filter (bN r u)).length:=by have:=lD (bN r u) V;omega
   have Bq:∀(s:List Int) (x:Int),x∈s.filter (fun x=> !decide (x=u))↔x∈s/\x≠u:=fun s x=>by rw[je];simp
   have h1:=ih (n-(V.filter (bN r u)).length) (by omega) (V.filter fun x=> !bN r u x) hV2 (by omega) (gs.map fun s=>s.filter fun x=> !decide (x=u)) (oh (nd.sublist hg) fun s hs t ht e=> ?_) (fun t ht=> ?_)
   ·rw[aG]at h1
    exact eO h1 (vO _ _ (by omega) (by omega))
   ·obtain⟨a1,a2⟩:=fg s hs
    obtain⟨b1,b2⟩:=fg t ht
    refine Dh a1.up b1.up fun k=> ?_
    have hk:k∈s.filter (fun x=> !decide (x=u))↔k∈t.filter (fun x=> !decide (x=u)):=by rw[show s.filter (fun x=> !decide (x=u))=t.filter (fun x=> !decide (x=u))from e]
    rw[Bq,Bq]at hk
    by_cases c:k=u
    ·rw[c];exact⟨fun _=>b2,fun _=>a2⟩
    ·exact⟨fun z=>(hk.mp ⟨z,c⟩).1,fun z=>(hk.mpr ⟨z,c⟩).1⟩
   ·obtain⟨s,hs,rfl⟩:=j8.mp ht
    obtain⟨a1,a2⟩:=fg s hs
    refine⟨a1.up.sublist U6,fun x hx=> ?_,fun x hx y hy=> ?_,fun w hw hn=> ?_⟩
    ·obtain⟨x1,x2⟩:=(Bq s x).mp hx
     refine je.mpr ⟨a1.sub x x1,?_⟩
     unfold bN
     rw[a1.ind x x1 u a2 x2,jN x2]
     rfl
    ·exact a1.ind x ((Bq s x).mp hx).1 y ((Bq s y).mp hy).1
    ·obtain⟨w1,w2⟩:=je.mp hw
     have w3:bN r u w=false:=by simpa using w2
     unfold bN at w3
     rw[Bool.or_eq_false_iff]at w3
     have wu:w≠u:=RD w3.1
     have ws:w∉s:=fun z=>hn ((Bq s w).mpr ⟨z,wu⟩)
     obtain⟨x,hx,hr⟩:=a1.max w w1 ws
     have xu:x≠u:=fun z=>by rw[z,sym u w,w3.2]at hr;cases hr
     exact⟨x,(Bq s x).mpr ⟨hx,xu⟩,hr⟩
end Hs
namespace Hs
open PySem zO
def rng(n:Nat):List Int:=(List.range n).map fun k=>((k:Nat):Int)
theorem gJ{n:Nat}{x:Int}:x∈rng n↔0<=x/\x<(n:Int):=by
 unfold rng
 rw[j8]
 constructor
 ·rintro⟨k,hk,rfl⟩
  have:=sI.mp hk
  omega
 ·rintro⟨h0,h1⟩
  exact⟨x.toNat,sI.mpr (by omega),by omega⟩
theorem Ma(ts:List (Int×Int))(i j:Int):aW ts i j=aW ts j i:=by unfold aW;rw[Bool.or_comm]
def goB(ts:List (Int×Int))(w:Bool)(s:List Int)(p:Int):Bool:=s.all fun q=>aW ts p q==w
def bJ(ts:List (Int×Int))(w:Bool):Nat->List (List Int)
 |0=>[[]]
 |k+1=>bJ ts w k++((bJ ts w k).filter fun s=>goB ts w s (k:Int)).map fun s=>s++[(k:Int)]
def m8(ts:List (Int×Int))(w:Bool)(n:Nat)(s:List Int):Bool:= !((rng n).any fun p=> !decide (p∈s)&&goB ts w s p)
def jD(ts:List (Int×Int))(w:Bool)(n:Nat):List (List Int):=(bJ ts w n).filter (m8 ts w n)
structure rO(ts:List (Int×Int))(w:Bool)(k:Nat)(s:List Int):Prop where
 up:s.Pairwise (· < ·)
 lt:∀x∈s,0<=x/\x<(k:Int)
 all:∀x∈s,∀y∈s,x≠y->(aW ts x y==w)=true
theorem nT{ts:List (Int×Int)}{w:Bool}:∀(k:Nat) (s:List Int),s∈bJ ts w k->rO ts w k s
 |0,s,h=>by
  rw[g8.mp (show s∈[[]]from h)]
  exact⟨List.Pairwise.nil,fun x hx=>(nomatch hx),fun x hx=>(nomatch hx)⟩
 |k+1,s,h=>by
  rcases kJ.mp (show s∈bJ ts w k++((bJ ts w k).filter fun s=>goB ts w s (k:Int)).map fun s=>s++[(k:Int)]from h)with q|q
  ·have S:=nT k s q
   exact⟨S.up,fun x hx=>by have:=S.lt x hx;omega,S.all⟩
  ·obtain⟨t,ht,rfl⟩:=j8.mp q
   obtain⟨t1,t2⟩:=je.mp ht
   have S:=nT k t t1
   have g:∀y∈t,(aW ts (k:Int) y==w)=true:=fun y hy=>qw.mp t2 y hy
   refine⟨?_,fun x hx=> ?_,fun x hx y hy hne=> ?_⟩
   ·rw[Rp]
    refine⟨S.up,Wf _ _,fun x hx y hy=> ?_⟩
    rw[g8.mp hy]
    exact(S.lt x hx).2
   ·rcases kJ.mp hx with z|z
    ·have:=S.lt x z;omega
    ·rw[g8.mp z];omega
   ·rcases kJ.mp hx with z|z
    ·rcases kJ.mp hy with z'|z'
     ·exact S.all x z y z' hne
     ·rw[g8.mp z',Ma];exact g x z
    ·rw[g8.mp z]at hne⊢
     rcases kJ.mp hy with z'|z'
     ·exact g y z'
     ·exact absurd (g8.mp z').symm hne
theorem lg{ts:List (Int×Int)}{w:Bool}:∀k:Nat,(bJ ts w k).Nodup
 |0=>by show([[]]:List (List Int)).Nodup;simp
 |k+1=>by
  show(bJ ts w k++((bJ ts w k).filter fun s=>goB ts w s (k:Int)).map fun s=>s++[(k:Int)]).Nodup
  refine List.nodup_append.mpr ⟨lg k,oh ((lg k).filter _) (fun a _ b _ e=>wfi e),fun a ha b hb e=> ?_⟩
  obtain⟨t,_,rfl⟩:=j8.mp hb
  have:=(nT k a ha).lt (k:Int) (by rw[e];simp)
  omega
theorem xT{ts:List (Int×Int)}{w:Bool}:∀k:Nat,(bJ ts w k).length<=2^k
 |0=>aH _
 |k+1=>by
  show(bJ ts w k++((bJ ts w k).filter fun s=>goB ts w s (k:Int)).map fun s=>s++[(k:Int)]).length<=2^(k+1)
  rw[lW,aG,ZR]
  have a:=xT (ts:=ts) (w:=w) k
  have b:=wJ (fun s=>goB ts w s (k:Int)) (bJ ts w k)
  omega
theorem Ed{ts:List (Int×Int)}{w:Bool}{n:Nat}{s:List Int}(h:s∈jD ts w n):Full (fun i j=> !(aW ts i j==w)) (rng n) s:=by
 obtain⟨h1,h2⟩:=je.mp h
 have S:=nT n s h1
 refine⟨S.up,fun x hx=>gJ.mpr (S.lt x hx),fun x hx y hy hne=>by rw[S.all x hx y hy hne];rfl,fun v hv hn=> ?_⟩
 unfold m8 at h2
 apply Qw
 intro hc
 have h3:((rng n).any fun p=> !decide (p∈s)&&goB ts w s p)=false:=by simpa using h2
 rw[Qj]at h3
 apply h3 v hv
 rw[jN hn]
 show goB ts w s v=true
 unfold goB
 rw[qw]
 intro q hq
 cases e:(aW ts v q==w)with
 |true=>rfl
 |false=>exact absurd ⟨q,hq,by show(!(aW ts q v==w))=true;rw[Ma,e];rfl⟩ hc
theorem um{ts:List (Int×Int)}{w:Bool}{n:Nat}(hn:n<=10):(jD ts w n).length<=36:=by
 have h:=BJ (r:=fun i j=> !(aW ts i j==w)) (fun i j=>by rw[Ma]) n (rng n) (by unfold rng;simp) hn (jD ts w n) ((lg n).filter _) (fun s hs=>Ed hs)
 have:=vO n 10 hn (aH _)
 exact eO h this
def jf(ts:List (Int×Int))(w:Bool)(n:Nat)(s:List Int):List Int:=(rng n).filter fun p=>s.all fun q=> !decide (p=q)&&(aW ts q p==w)
def m9(ts:List (Int×Int))(w:Bool)(n:Nat)(q:Int):List Int:=(rng n).filter fun p=> !decide (p=q)&&(aW ts q p==w)
theorem Ke(ts:List (Int×Int))(w:Bool)(n:Nat):jf ts w n []=rng n:=by unfold jf;exact List.filter_eq_self.mpr fun _ _=>rfl
theorem Gq(ts:List (Int×Int))(w:Bool)(n:Nat)(s:List Int)(k:Int):jf ts w n (s++[k])=(jf ts w n s).filter fun p=>decide (p∈m9 ts w n k):=by
 unfold jf
 rw[List.filter_filter]
 refine List.filter_congr fun p hp=> ?_
 rw[List.all_append,Bool.and_comm]
 congr 1
 unfold m9
 rw[zV,Ey,je]
 simp[hp]
theorem OJ{ts:List (Int×Int)}{w:Bool}{n k:Nat}{s:List Int}(hs:rO ts w k s)(hk:k<n):decide ((k:Int)∈jf ts w n s)=goB ts w s (k:Int):=by
 unfold jf goB
 rw[zV,Ey,je,qw,qw]
 constructor
 ·rintro⟨_,h⟩ q hq
  have:=h q hq
  rw[Dc]at this
  rw[Ma];exact this.2
 ·intro h
  refine⟨gJ.mpr ⟨by omega,by omega⟩,fun q hq=> ?_⟩
  have:=(hs.lt q hq).2
  rw[Dc]
  refine⟨?_,by rw[Ma];exact h q hq⟩
  rw[jN (by omega)];rfl
theorem Gs(ts:List (Int×Int))(w:Bool)(n:Nat)(s:List Int):decide (jf ts w n s=[])=m8 ts w n s:=by
 unfold jf m8
 rw[zV,Ey,List.filter_eq_nil_iff,wdk,Qj]
 constructor
 ·intro h p hp hc
  rw[Dc]at hc
  apply h p hp
  rw[qw]
  intro q hq
  have h1:p∉s:=by simpa using hc.1
  have h2:=qw.mp hc.2 q hq
  rw[Dc]
  refine⟨?_,by rw[Ma];exact h2⟩
  have ne:¬p=q:=fun e=>h1 (by rw[e];exact hq)
  rw[jN ne];rfl
 ·intro h p hp hc
  apply h p hp
  rw[qw]at hc
  rw[Dc]
  refine⟨?_,?_⟩
  ·have:p∉s:=fun z=>by
    have:=hc p z
    simp at this
   rw[jN this];rfl
  ·unfold goB
   rw[qw]
   intro q hq
   have:=hc q hq
   rw[Dc]at this
   rw[Ma];exact this.2
theorem pD:∀{xs ys:List Int},xs.Pairwise (· < ·)->ys.Pairwise (· < ·)->(∀k,k∈xs↔k∈ys)->xs=ys
 |[],[],_,_,_=>rfl
 |[],y::ys,_,_,h=>by have:=(h y).mpr (by simp);simp at this
 |x::xs,[],_,_,h=>by have:=(h x).mp (by simp);simp at this
 |x::xs,y::ys,hx,hy,h=>by
  rw[V9]at hx hy
  have e:x=y:=by
   have a:=(h x).mp (by simp)
   have b:=(h y).mpr (by simp)
   rcases cB.mp a with a|a
   ·exact a
   ·rcases cB.mp b with b|b
    ·exact b.symm
    ·have:=hy.1 x a;have:=hx.1 y b;omega
  subst e
  rw[pD hx.2 hy.2 fun k=> ?_]
  constructor
  ·intro hk
   rcases cB.mp ((h k).mp (dG _ hk))with a|a
   ·have:=hx.1 k hk;omega
   ·exact a
  ·intro hk
   rcases cB.mp ((h k).mpr (dG _ hk))with a|a
   ·have:=hy.1 k hk;omega
   ·exact a
theorem lZ{ts:List (Int×Int)}{w:Bool}:∀(k:Nat) (s:List Int),rO ts w k s->s∈bJ ts w k
 |0,s,h=>by
  cases s with
  |nil=>show([]:List Int)∈[[]];simp
  |cons x s=>have:=h.lt x (by simp);omega
 |k+1,s,h=>by
  show s∈bJ ts w k++((bJ ts w k).filter fun s=>goB ts w s (k:Int)).map fun s=>s++[(k:Int)]
  by_cases c:(k:Int)∈s
  ·have hm:∀x,x∈s.filter (fun x=> !decide (x=(k:Int)))↔x∈s/\x≠(k:Int):=fun x=>by rw[je];simp
   refine gY _ (j8.mpr ⟨s.filter (fun x=> !decide (x=(k:Int))),je.mpr ⟨lZ k _ ⟨h.up.filter _,fun x hx=> ?_,fun x hx y hy hne=> ?_⟩,?_⟩,?_⟩)
   ·have a:=(hm x).mp hx
    have b:=h.lt x a.1
    have:=a.2
    omega
   ·exact h.all x ((hm x).mp hx).1 y ((hm y).mp hy).1 hne
   ·unfold goB
    rw[qw]
    intro q hq
    have a:=(hm q).mp hq
    exact h.all _ c q a.1 (fun e=>a.2 e.symm)
   ·refine pD ?_ h.up fun x=> ?_
    ·rw[Rp]
     refine⟨h.up.filter _,Wf _ _,fun x hx y hy=> ?_⟩
     rw[g8.mp hy]
     have a:=(hm x).mp hx
     have b:=h.lt x a.1
     have:=a.2
     omega
    ·rw[kJ,hm,g8]
     constructor
     ·rintro(a|a)
      ·exact a.1
      ·rw[a];exact c
     ·intro a
      by_cases e:x=(k:Int)
      ·exact .inr e
      ·exact .inl ⟨a,e⟩
  ·refine Ew _ (lZ k s ⟨h.up,fun x hx=> ?_,h.all⟩)
   have b:=h.lt x hx
   have:x≠(k:Int):=fun e=>c (by rw[<-e];exact hx)
   omega
theorem rO.of{ts:List (Int×Int)}{w:Bool}{n:Nat}{s:List Int}(F:Full (fun i j=> !(aW ts i j==w)) (rng n) s):rO ts w n s:=
 ⟨F.up,fun x hx=>gJ.mp (F.sub x hx),fun x hx y hy hne=>by
  have:=F.ind x hx y hy hne
  try dsimp only at this
  cases e:(aW ts x y==w)with
  |true=>rfl
  |false=>rw[e]at this;cases this⟩
theorem Px{ts:List (Int×Int)}{w:Bool}{n:Nat}{s:List Int}(F:Full (fun i j=> !(aW ts i j==w)) (rng n) s):s∈jD ts w n:=by
 refine je.mpr ⟨lZ n s (rO.of F),?_⟩
 unfold m8
 rw[wdk,Qj]
 intro p hp hc
 rw[Dc]at hc
 have hn:p∉s:=by simpa using hc.1
 obtain⟨x,hx,hr⟩:=F.max p hp hn
 have:=qw.mp hc.2 x hx
 try dsimp only at hr this
 rw[Ma,this]at hr
 cases hr
theorem DY{α:Type}(g:α->Nat):∀V:List α,V≠[]->∃v∈V,∀u∈V,g u<=g v
 |[],h=>absurd rfl h
 |[x],_=>⟨x,by simp,fun u hu=>by rw[g8.mp hu];exact aH _⟩
 |x::y::V,_=>by
  obtain⟨v,hv,hm⟩:=DY g (y::V) (by simp)
  by_cases c:g v<=g x
  ·refine⟨x,by simp,fun u hu=> ?_⟩
   rcases cB.mp hu with e|e
   ·rw[e];exact aH _
   ·exact eO (hm u e) c
  ·refine⟨v,dG _ hv,fun u hu=> ?_⟩
   rcases cB.mp hu with e|e
   ·rw[e];omega
   ·exact hm u e
theorem yV{ts:List (Int×Int)}{w:Bool}{n:Nat}{s:List Int}(hs:rO ts w n s):∃t∈jD ts w n,∀x∈s,x∈t:=by
 let C:=(bJ ts w n).filter fun t=>s.all fun x=>decide (x∈t)
 have mC:∀t,t∈C↔t∈bJ ts w n/\∀x∈s,x∈t:=fun t=>by
  show t∈(bJ ts w n).filter _↔_
  rw[je,qw]
  simp
 have hne:C≠[]:=fun e=>by
  have:s∈C:=(mC s).mpr ⟨lZ n s hs,fun x hx=>hx⟩
  rw[e]at this;cases this
 obtain⟨t,ht,hm⟩:=DY List.length C hne
 obtain⟨h1,h2⟩:=(mC t).mp ht
 have T:=nT n t h1
 refine⟨t,Px ⟨T.up,fun x hx=>gJ.mpr (T.lt x hx),fun x hx y hy hne=> ?_,fun v hv hn=> ?_⟩,h2⟩
 ·show(!(aW ts x y==w))=false
  rw[T.all x hx y hy hne];rfl
 ·apply Qw
  intro hc
  have go:∀x∈t,(aW ts x v==w)=true:=fun x hx=>by
   cases e:(aW ts x v==w)with
   |true=>rfl
   |false=>exact absurd ⟨x,hx,by show(!(aW ts x v==w))=true;rw[e];rfl⟩ hc
  have mU:∀x,x∈(rng n).filter (fun x=>decide (x∈t)||decide (x=v))↔x∈t\/x=v:=fun x=>by
   rw[je,Qu,Ey,Ey]
   constructor
   ·exact fun z=>z.2
   ·rintro(z|z)
    ·exact⟨gJ.mpr (T.lt x z),.inl z⟩
    ·exact⟨by rw[z];exact hv,.inr z⟩
  have up:((rng n).filter (fun x=>decide (x∈t)||decide (x=v))).Pairwise (· < ·):=by
   refine List.Pairwise.filter _ ?_
   unfold rng
   rw[Rn]
   exact Vb.imp fun{a b} h=>by omega
  have U:rO ts w n ((rng n).filter (fun x=>decide (x∈t)||decide (x=v))):=⟨up,fun x hx=>gJ.mp (je.mp hx).1,fun x hx y hy hne=>by
   rcases(mU x).mp hx with a|a
   ·rcases(mU y).mp hy with b|b
    ·exact T.all x a y b hne
    ·rw[b];exact go x a
   ·rcases(mU y).mp hy with b|b
    ·rw[a,Ma];exact go y b
    ·exact absurd (a.trans b.symm) hne⟩
  have inC:=(mC _).mpr ⟨lZ n _ U,fun x hx=>(mU x).mpr (.inl (h2 x hx))⟩
  have l1:=hm _ inC
  have l2:=jV (l:=v::t) (m:=(rng n).filter (fun x=>decide (x∈t)||decide (x=v))) (Hl.mpr ⟨hn,T.up.imp fun{a b} h=>by omega⟩) (fun x hx=>by
   rcases cB.mp hx with z|z
   ·exact(mU x).mpr (.inr z)
   ·exact(mU x).mpr (.inl z))
  rw[qx]at l2
  omega
end Hs
namespace Hs
open PySem L2 zO
section
variable{P:Program}{w:World}{K:W.Frag}{mg:Str->Option Value}{base:Heap}
theorem blV_eq(a b:Bool):decide (V.bl a=V.bl b)=(a==b):=by cases a<;>cases b<;>rfl
theorem intV_eq(a b:Int):decide (V.int a=V.int b)=decide (a=b):=by
 by_cases e:a=b
 ·subst e;simp
 ·rw[jN e,jN (by intro z;injection z with z;exact e z)]
theorem Oz{a b:Int}:(!decide (V.int a=V.int b))= !decide (a=b):=by rw[intV_eq]
theorem any_ints(xs:List Int)(k:Int):((xs.map PyData.int).any fun d=>PyData.eqv d (.int k))=decide (k∈xs):=by
 induction xs with
 |nil=>simp
 |cons x xs ih=>
  rw[wU,Qg,ih]
  have e:PyData.eqv (.int x) (.int k)=decide (k=x):=by
   show(x==k)=_
   rw[zV];simp;exact⟨fun h=>h.symm,fun h=>h.symm⟩
  rw[e,zV]
  simp
theorem Zg{α:Type}{p:α->Bool}{l:List α}{i:Nat}(hi:i<l.length):(l.take (i+1)).filter p=(l.take i).filter p++(if p l[i]=true then[l[i]]else[]):=by
 rw[wW,gn hi,Ro]
 congr 1
 show[l[i]].filter p=_
 rw[MJ]
 rfl
theorem Jv(k:Nat):rng (k+1)=rng k++[(k:Int)]:=by unfold rng;rw[CV,cJ];rfl
theorem HX(n:Nat):cR n=(rng n).map V.int:=by unfold cR rng;rw[U0];rfl
def xH(K:W.Frag):Sp:=fun vs H Q _=>∃(l m:Addr) (xs ys:List Int),vs=[.ref l,.ref m]/\SqL K H l (xs.map V.int)/\SqL K H m (ys.map V.int)/\∀r H',Same H H'->H' r=some (.lst ((xs.filter fun p=>decide (p∈ys)).map V.int))->H r=none->Q (.ref r) H'
theorem Fl:FnScope ["ones","others"] ["ones","others"] (defScope jQ):=fsc
theorem Gb{f:Addr}{fd:FuncData}(F:Fun K "in_both" "in_both" jQ f fd):
  FnOk P w K mg base CX0 1 f fd ["ones","others"] (xH K):=by
 refine F.ok Fl (fun vs H Q E h=> ?_) (fun cdv A outer s H vs Q E hr h=> ?_)
 ·obtain⟨l,m,xs,ys,rfl,_⟩:=h
  rfl
 obtain⟨l,m,xs,ys,rfl,hL,hM,q⟩:=h
 refine⟨_,(bw (cI (pZ (own:=["place"]) (caps:=["others"]) (ix:=[1]) rfl (CP (pv 0)) rfl rfl (.cons rfl rfl .nil) (fun _ _ _ _ _=>(cZ (i:=0) (show(["place","others"]:List Str).Nodup from by decide+kernel) rfl (Or.inl rfl))) (fun _ _ _ _ _=>dX (gZ (qj K hr.units) (pv 0) (pv 1) (by with_unfolding_all rfl))) (fun _ _ _ _ _=>(pv 0))))),?_⟩
 refine⟨_,rfl,l,_,rfl,hL,fun hz=> ?_⟩
 refine Hi (xs:=xs.map V.int) (fun k acc σ H'=>acc=((xs.take k).filter fun p=>decide (p∈ys)).map V.int/\Same H H'/\∃o,σ=[o,some (.ref m)]) ⟨rfl,Same.refl _,_,rfl⟩ (fun k acc σ H' _ p=>p.2.1.seq hL) (fun k acc σ H' hk p=> ?_) hz (fun k x acc σ H' hx p=> ?_) (fun acc σ H' p=> ?_)
 ·rw[p.1,aG]
  exact eO (wJ _ _) (by rw[wI];exact Mz _ _)
 ·obtain⟨rfl,sm,o,rfl⟩:=p
  rw[c7]at hx
  cases ex:xs[k]? with
  |none=>rw[ex]at hx;cases hx
  |some y=>
   rw[ex]at hx
   cases hx
   obtain⟨hk,ey⟩:=qy.mp ex
   have e:=Zg (p:=fun p=>decide (p∈ys)) hk
   rw[ey]at e
   refine⟨_,rfl,_,rfl,m,_,_,.int y,rfl,.inl (sm.seq hM),cY.ints ys,.int _,LR ys,rfl,(by show 0<=60;decide),_,rfl,?_⟩
   rw[any_ints]
   refine ite2 (fun c=> ?_) (fun c=> ?_)
   ·exact⟨_,rfl,by rw[e,au c,cJ];rfl,sm,_,rfl⟩
   ·exact⟨by rw[e,ao c,sE],sm,_,rfl⟩
 ·intro p1 hp1
  obtain⟨rfl,sm,_⟩:=p
  rw[aG,uI]
  exact q p1 _ (sm.trans (aY hp1 _)) aJ (sm.free hp1)
def Dv(K:W.Frag):Sp:=fun vs H Q _=>∃(a:Addr) (n i:Int) (ts:List (Int×Int)) (w:Bool),vs=[.ref a,.int i,.bl w]/\bH K H a n ts/\∀r H',Same H H'->H' r=some (.lst ((m9 ts w n.toNat i).map V.int))->H r=none->Q (.ref r) H'
theorem Jq:FnScope ["web","place","tied"] ["web","place","tied"] (defScope Zf):=fsc
theorem JT{f f1:Addr}{fd d1:FuncData}(F:Fun K "places_by_tie" "places_by_tie" Zf f fd)(D1:bY K mg "has_tie" fU ["web","one","other"] f1 d1)(G1:FnOk P w K mg base CX0 1 f1 d1 ["web","one","other"] (Du K))(aD:mg "range"=none):
  FnOk P w K mg base CX0 2 f fd ["web","place","tied"] (Dv K):=by
 refine F.ok Jq (fun vs H Q E h=> ?_) (fun cdv A outer s H vs Q E hr h=> ?_)
 ·obtain⟨a,n,i,ts,w,rfl,_⟩:=h
  rfl
 obtain⟨a,n,i,ts,w,rfl,hA,q⟩:=h
 refine⟨_,(bw (cI (pZ (own:=["other"]) (caps:=["place","web","tied"]) (ix:=[1,0,2]) rfl (CT rfl aD (aj (bM gO (pv 0) aK (fun _ _=>rfl)) aA)) rfl rfl (.cons rfl rfl (.cons rfl rfl (.cons rfl rfl .nil))) (fun _ _ _ _ _=>(cZ (i:=0) (show(["other","place","web","tied"]:List Str).Nodup from by decide+kernel) rfl (Or.inl rfl))) (fun _ _ _ _ _=>dX (PW.pt (pw_and (gZ op_ne (pv 0) (pv 1) (nomark _)) (pw_and1 (gZ op_eq (pc G1 hr D1 (aj (pv 2) (aj (pv 1) (aj (pv 0) aA)))) (pv 3) (nomark _)))))) (fun _ _ _ _ _=>(pv 0))))),?_⟩
 have h0:=hA.h0
 have h10:=hA.h1
 obtain⟨ta,ra,a1,a2,a3⟩:=id hA.web
 refine⟨_,rfl,a,_,_,.int n,rfl,rfl,a1,rfl,n,rfl,by omega,by omega,?_⟩
 refine Ri (n:=n.toNat) (fun k acc σ H'=>acc=((rng k).filter fun p=> !decide (p=i)&&(aW ts i p==w)).map V.int/\Same H H'/\∃o,σ=[o,some (.int i),some (.ref a),some (.bl w)]) ⟨rfl,Same.refl _,_,rfl⟩ (fun k acc σ H' hk p=> ?_) (by rw[fM];omega) (fun k acc σ H' hk p=> ?_) (fun acc σ H' p=> ?_)
 ·rw[p.1,aG]
  exact eO (wJ _ _) (by unfold rng;simp)
 ·obtain⟨rfl,sm,o,rfl⟩:=p
  have ek:(0+(k:Int))=(k:Int):=by omega
  rw[ek]
  have e:∀b,b=(!decide ((k:Int)=i)&&(aW ts i (k:Int)==w))->((rng (k+1)).filter fun p=> !decide (p=i)&&(aW ts i p==w))=((rng k).filter fun p=> !decide (p=i)&&(aW ts i p==w))++(if b=true then[(k:Int)]else[]):=fun b hb=>by
   rw[Jv,Ro,MJ,hb];rfl
  refine⟨_,rfl,_,rfl,rfl,_,rfl,?_⟩
  rw[Oz]
  refine ite2 (fun c=> ?_) (fun c=> ?_)
  ·refine⟨_,rfl,_,rfl,_,rfl,a,n,_,_,ts,rfl,(hA.same sm).web,fun H5 s5=>⟨_,rfl,rfl,_,rfl,?_⟩⟩
   rw[blV_eq,tied_eq hA.pk]
   refine ite2 (fun c2=> ?_) (fun c2=> ?_)
   ·exact⟨_,rfl,by rw[e true (by rw[c,c2];rfl),cJ];rfl,sm.trans s5,_,rfl⟩
   ·exact⟨by rw[e false (by rw[c,Bool.eq_false_iff.mpr c2];rfl)];simp,sm.trans s5,_,rfl⟩
  ·exact⟨by rw[e false (by rw[Bool.eq_false_iff.mpr c];rfl)];simp,sm,_,rfl⟩
 ·intro p1 hp1
  obtain⟨rfl,sm,_⟩:=p
  exact q p1 _ (sm.trans (aY hp1 _)) aJ (sm.free hp1)
def Lp(K:W.Frag)(H:Hp)(r:Addr)(ss:List (List Int)):Prop:=∃its:List (Addr×List Int),H r=some (.lst (its.map fun p=>V.ref p.1))/\(∀p∈its,SqT K H p.1 (p.2.map V.int))/\its.map (fun p=>p.2)=ss
def gM(ss:List (List Int))(ts:List (Int×Int))(w:Bool)(n:Nat):Prop:=ss.Perm (jD ts w n)/\ss.Pairwise fun a b=>HT.lexLt b a=false
theorem Pu{ts:List (Int×Int)}{w:Bool}{n:Nat}(h2:2<=(jD ts w n).length):∀s∈jD ts w n,s≠[]:=by
 intro s hs e
 subst e
 have F:=Ed hs
 cases n with
 |zero=>
  have:(jD ts w 0).length<=1:=by
   show(([[]]:List (List Int)).filter (m8 ts w 0)).length<=1
   exact wJ _ _
  omega
 |succ n=>
  obtain⟨x,hx,_⟩:=F.max 0 (gJ.mpr ⟨by omega,by omega⟩) (by simp)
  cases hx
structure Y6(K:W.Frag)(H:Hp)(ts:List (Int×Int))(w:Bool)(n:Nat)(q:Addr×Addr×Addr×List Int):Prop where
 pr:SqT K H q.1 [.ref q.2.1,.ref q.2.2.1]
 so:SqT K H q.2.1 (q.2.2.2.map V.int)
 le:H q.2.2.1=some (.lst ((jf ts w n q.2.2.2).map V.int))
theorem Y6.same{H H':Hp}{ts:List (Int×Int)}{w:Bool}{n:Nat}{q:Addr×Addr×Addr×List Int}(h:Y6 K H ts w n q)(e:Same H H'):Y6 K H' ts w n q:=⟨e.tup h.pr,e.tup h.so,e _ _ h.le⟩
def Ls(K:W.Frag)(H:Hp)(fd:Addr)(ts:List (Int×Int))(w:Bool)(n:Nat)(ss:List (List Int)):Prop:=∃its:List (Addr×Addr×Addr×List Int),H fd=some (.lst (its.map fun q=>V.ref q.1))/\(∀q∈its,Y6 K H ts w n q)/\its.map (fun q=>q.2.2.2)=ss
def qI(K:W.Frag):Sp:=fun vs H Q _=>∃(fl:Addr) (fas:List Addr) (ts:List (Int×Int)) (w:Bool) (n:Nat),vs=[.ref fl]/\H fl=some (.lst (fas.map V.ref))/\fas.length=n/\n<=10/\(∀(i:Nat) f,fas[i]? =some f->H f=some (.lst ((m9 ts w n (i:Int)).map V.int)))/\
 ∀r ss H',Same H H'->Lp K H' r ss->gM ss ts w n->H r=none->Q (.ref r) H'
theorem dZ:FnScope ["friends","found","place","wider"] ["friends"] (defScope gF):=fsc
theorem yh{f f1:Addr}{fd d1:FuncData}(F:Fun K "full_sets" "full_sets" gF f fd)(D1:bY K mg "in_both" jQ ["ones","others"] f1 d1)(G1:FnOk P w K mg base CX0 1 f1 d1 ["ones","others"] (xH K))(iV:mg "list"=none)(aD:mg "range"=none)(cN:mg "len"=none)(jC:mg "sorted"=none):
  FnOk P w K mg base CX0 2 f fd ["friends"] (qI K):=by
 refine F.ok dZ (fun vs H Q E h=> ?_) (fun cdv A outer s H vs Q E hr h=> ?_)
 ·obtain⟨fl,fas,ts,w,n,rfl,_⟩:=h
  rfl
 obtain⟨fl,fas,ts,w,n,rfl,hF,hn,h10,hfr,q⟩:=h
 refine⟨_,(aO (cW (i:=1) dZ.nd rfl (Or.inl rfl) (pe_lst (aj (pY (aj (pY aA) (aj (pG rfl rfl iV rfl aD (aj (fW zP rfl cN wX (aj (pv 0) aA)) aA)) aA))) aA))) (aO (uH sG rfl (CT rfl aD (aj (fW zP rfl cN wX (aj (pv 0) aA)) aA)) (cZ (i:=2) dZ.nd rfl (Or.inr rfl)) (aO (Rj (i:=3) (own:=["some","left"]) (caps:=["place","friends"]) (ix:=[2,0]) dZ.nd rfl (Or.inl rfl) rfl (CP (pv 1)) rfl rfl (.cons rfl rfl (.cons rfl rfl .nil)) (fun _ _ _ _ _=>(jU K (n:=2) rfl (zL (cZ (i:=0) (show(["some","left","place","friends"]:List Str).Nodup from by decide+kernel) rfl (Or.inl rfl)) (zL (cZ (i:=1) (show(["some","left","place","friends"]:List Str).Nodup from by decide+kernel) rfl (Or.inl rfl)) pgs_nil)))) (fun _ _ _ _ _=>dX (gZ (qj K hr.units) (pv 2) (pv 1) (by with_unfolding_all rfl))) (fun _ _ _ _ _=>(pY (aj (bK (yd K) (pv 0) (pY (aj (pv 2) aA))) (aj (pc G1 hr D1 (aj (pv 1) (aj (bM (gb K) (pv 3) (pv 2) (fun _ _=>rfl)) aA))) aA))))) (bw (cW (i:=1) dZ.nd rfl (Or.inl rfl) (bK op_cat (pv 1) (pv 3)))))) (bw (cI (fW v7 rfl jC (by decide+kernel) (aj (pZ (own:=["some","left"]) (caps:=[]) (ix:=[]) rfl (CP (pv 1)) rfl rfl .nil (fun _ _ _ _ _=>(jU K (n:=2) rfl (zL (cZ (i:=0) (show(["some","left"]:List Str).Nodup from by decide+kernel) rfl (Or.inl rfl)) (zL (cZ (i:=1) (show(["some","left"]:List Str).Nodup from by decide+kernel) rfl (Or.inl rfl)) pgs_nil)))) (fun _ _ _ _ _=>dX (wN (Fw K (pv 1) (fun _=>rfl)))) (fun _ _ _ _ _=>(pv 0))) aA)))))),?_⟩
 have el:((fas.map V.ref).length:Int)=(n:Int):=by rw[aG,hn]
 refine⟨(by show 0<=sizeLine;decide),fun e1 he1=> ?_⟩
 have s1:=aY he1 (.tup [])
 have t1:SqT K (upd H e1 (.tup [])) e1 []:=SqT.of aJ
 generalize (upd H e1 (.tup []))=H1 at *
 refine⟨_,rfl,fl,_,rfl,.inl (SqL.of (s1 _ _ hF)),fun _=>⟨_,rfl,by omega,by rw[el];omega,fun rl hrl=> ?_⟩⟩
 have er:cR ((fas.map V.ref).length:Int).toNat=(rng n).map V.int:=by rw[el,zQ,HX]
 rw[er]
 have s2:=aY hrl (.lst ((rng n).map V.int))
 have t2:(upd H1 rl (.lst ((rng n).map V.int))) rl=some (.lst ((rng n).map V.int)):=aJ
 generalize (upd H1 rl (.lst ((rng n).map V.int)))=H2 at *
 refine⟨(by show 2<=sizeLine;decide),fun e3 he3=> ?_⟩
 have s3:=aY he3 (.tup [.ref e1,.ref rl])
 have t3:SqT K (upd H2 e3 (.tup [.ref e1,.ref rl])) e3 [.ref e1,.ref rl]:=SqT.of aJ
 generalize (upd H2 e3 (.tup [.ref e1,.ref rl]))=H3 at *
 refine⟨(by show 1<=sizeLine;decide),fun fd hfd=> ?_⟩
 have s4:=aY hfd (.lst [.ref e3])
 have F4:Ls K (upd H3 fd (.lst [.ref e3])) fd ts w n (bJ ts w 0):=by
  refine⟨[(e3,e1,rl,[])],aJ,fun q hq=> ?_,rfl⟩
  rw[g8.mp hq]
  exact⟨s4.tup t3,s4.tup (s3.tup (s2.tup t1)),by rw[Ke];exact s4 _ _ (s3 _ _ t2)⟩
 have W8:=s1.trans (s2.trans (s3.trans s4))
 generalize (upd H3 fd (.lst [.ref e3]))=H4 at *
 refine⟨_,rfl,fl,_,rfl,.inl (SqL.of (W8 _ _ hF)),fun _=>⟨_,rfl,by omega,by rw[el];omega,?_⟩⟩
 have en:((fas.map V.ref).length:Int).toNat=n:=by rw[el,zQ]
 rw[en]
 refine CQ (n:=n) (fun k σ H'=>Same H H'/\∃fd b2 b3,Ls K H' fd ts w n (bJ ts w k)/\σ=[some (.ref fl),some (.ref fd),b2,b3]) ⟨W8,fd,_,_,F4,rfl⟩ (fun k σ H' hk p=> ?_) (fun σ H' p=> ?_)
 ·obtain⟨s5,fd,b2,b3,F5,rfl⟩:=p
  have ek:(0+(k:Int))=(k:Int):=by omega
  rw[ek]
  obtain⟨its,f1,f2,f3⟩:=F5
  have hlen:its.length<=1024:=by
   have a:=xT (ts:=ts) (w:=w) k
   rw[<-f3,aG]at a
   have b:2^k<=2^10:=U8 (by decide) (by omega)
   have c:2^10=1024:=by decide
   omega
  have hkf:k<fas.length:=by omega
  have hfk:(fas.map V.ref)[k]? =some (.ref fas[k]):=by rw[c7,gn hkf];rfl
  have hgk:=hfr k fas[k] (gn hkf)
  refine⟨_,rfl,fd,_,rfl,SqL.of f1,fun hzf=> ?_⟩
  refine Hi (xs:=its.map fun q=>V.ref q.1) (fun i acc σ uF=>(∃its2:List (Addr×Addr×Addr×List Int),acc=its2.map (fun q=>V.ref q.1)/\(∀q∈its2,Y6 K uF ts w n q)/\its2.map (fun q=>q.2.2.2)=(((bJ ts w k).take i).filter fun s=>goB ts w s (k:Int)).map fun s=>s++[(k:Int)])/\Same H' uF/\∃o1 o2,σ=[o1,o2,some (.int (k:Int)),some (.ref fl)]) ⟨⟨[],rfl,fun q hq=>(nomatch hq),rfl⟩,Same.refl _,_,_,rfl⟩ (fun i acc σ uF _ p=>p.2.1.seq (SqL.of f1)) (fun i acc σ uF hi p=> ?_) hzf (fun i x acc σ uF hx p=> ?_) (fun acc σ uF p=> ?_)
  ·obtain⟨⟨its2,rfl,g2,g3⟩,_⟩:=p
   have a:=jh List.length g3
   rw[aG,aG]at a
   rw[aG,a]
   exact eO (wJ _ _) (by rw[wI];exact Mz _ _)
  ·obtain⟨⟨its2,rfl,g2,g3⟩,sm,o1,o2,rfl⟩:=p
   rw[c7]at hx
   cases ex:its[i]? with
   |none=>rw[ex]at hx;cases hx
   |some v=>
    rw[ex]at hx
    cases hx
    have fv:=(f2 v (lX ex)).same sm
    have hsv:(bJ ts w k)[i]? =some v.2.2.2:=by rw[<-f3,c7,ex];rfl
    obtain⟨hi,esv⟩:=qy.mp hsv
    have Sv:=nT k v.2.2.2 (lX hsv)
    have e:=Zg (p:=fun s=>goB ts w s (k:Int)) hi
    rw[esv]at e
    refine⟨v.1,_,rfl,fv.pr,rfl,_,_,rfl,_,_,rfl,rfl,?_⟩
    refine⟨_,rfl,_,rfl,v.2.2.1,_,_,.int (k:Int),rfl,.inl (SqL.of fv.le),cY.ints _,.int _,LR _,rfl,(by show 0<=60;decide),_,rfl,?_⟩
    rw[any_ints,OJ Sv hk]
    refine ite2 (fun c=> ?_) (fun c=> ?_)
    ·refine⟨_,rfl,_,rfl,(by show 1<=sizeLine;decide),fun e5 he5=> ?_⟩
     have s6:=aY he5 (.tup [.int (k:Int)])
     have t6:SqT K (upd uF e5 (.tup [.int (k:Int)])) e5 [.int (k:Int)]:=SqT.of aJ
     generalize (upd uF e5 (.tup [.int (k:Int)]))=H6 at *
     have hvl:v.2.2.2.length<=10:=by
      have a:=jV (l:=v.2.2.2) (m:=rng n) (Sv.up.imp fun{x y} h=>by omega) (fun x hx=>gJ.mpr (by have:=Sv.lt x hx;omega))
      have b:(rng n).length=n:=by unfold rng;simp
      omega
     refine⟨v.2.1,e5,_,_,rfl,rfl,s6.tup fv.so,t6,(by rw[aG,fM];show v.2.2.2.length+1<=_;omega),fun r7 H7 s7 h7=> ?_⟩
     have s67:=s6.trans s7
     refine⟨_,rfl,_,rfl,_,rfl,fl,_,_,.ref fas[k],rfl,rfl,SqL.of ((s5.trans (sm.trans s67)) _ _ hF),atI_nat hfk,v.2.2.1,fas[k],_,_,rfl,SqL.of (s67 _ _ fv.le),SqL.of ((s5.trans (sm.trans s67)) _ _ hgk),fun r8 H8 s8 h8 n8=> ?_⟩
     refine⟨(by show 2<=sizeLine;decide),fun e9 he9=> ?_⟩
     have s9:=aY he9 (.tup [.ref r7,.ref r8])
     have s69:=s67.trans (s8.trans s9)
     refine⟨⟨its2++[(e9,r7,r8,v.2.2.2++[(k:Int)])],by rw[cJ];rfl,fun q hq=> ?_,by rw[cJ,g3,e,au c,cJ];rfl⟩,sm.trans s69,_,_,rfl⟩
     rcases kJ.mp hq with z|z
     ·exact(g2 q z).same s69
     ·rw[g8.mp z]
      refine⟨SqT.of aJ,s9.tup (s8.tup ?_),by rw[Gq];exact s9 _ _ h8⟩
      rw[cJ];exact h7
    ·exact⟨⟨its2,rfl,g2,by rw[g3,e,ao c,sE]⟩,sm,_,_,rfl⟩
  ·intro p1 hp1
   obtain⟨⟨its2,rfl,g2,g3⟩,sm,o1,o2,rfl⟩:=p
   have hle:(its.map fun q=>V.ref q.1).length=(bJ ts w k).length:=by rw[aG,<-f3,aG]
   rw[hle,uI]at g3
   have s6:=aY hp1 (.lst (its2.map fun q=>V.ref q.1))
   have l2:its2.length<=1024:=by
    have a:=jh List.length g3
    rw[aG,aG]at a
    have b:=wJ (fun s=>goB ts w s (k:Int)) (bJ ts w k)
    rw[<-f3,aG]at b
    rw[<-f3]at a
    omega
   refine⟨_,rfl,_,rfl,fd,p1,_,_,rfl,rfl,(sm.trans s6) _ _ f1,aJ,by rw[aG,aG,fM];omega,fun p2 hp2=> ?_⟩
   have s7:=aY hp2 (.lst ((its.map fun q=>V.ref q.1)++(its2.map fun q=>V.ref q.1)))
   refine⟨s5.trans (sm.trans (s6.trans s7)),p2,_,_,⟨its++its2,by rw[aJ,cJ],fun q hq=> ?_,by rw[cJ,f3,g3];rfl⟩,rfl⟩
   rcases kJ.mp hq with z|z
   ·exact(f2 q z).same (sm.trans (s6.trans s7))
   ·exact(g2 q z).same (s6.trans s7)
 ·obtain⟨s5,fd,b2,b3,⟨its,f1,f2,f3⟩,rfl⟩:=p
  refine⟨_,rfl,fd,_,rfl,SqL.of f1,fun hzf=> ?_⟩
  refine Hi (xs:=its.map fun q=>V.ref q.1) (fun i acc σ uF=>(∃its2:List (Addr×List Int),acc=its2.map (fun q=>V.ref q.1)/\(∀q∈its2,SqT K H' q.1 (q.2.map V.int))/\its2.map (fun q=>q.2)=((bJ ts w n).take i).filter (m8 ts w n))/\Same H' uF/\∃o1 o2,σ=[o1,o2]) ⟨⟨[],rfl,fun q hq=>(nomatch hq),rfl⟩,Same.refl _,_,_,rfl⟩ (fun i acc σ uF _ p=>p.2.1.seq (SqL.of f1)) (fun i acc σ uF hi p=> ?_) hzf (fun i x acc σ uF hx p=> ?_) (fun acc σ uF p=> ?_)
  ·obtain⟨⟨its2,rfl,g2,g3⟩,_⟩:=p
   have a:=jh List.length g3
   rw[aG]at a
   rw[aG,a]
   exact eO (wJ _ _) (by rw[wI];exact Mz _ _)
  ·obtain⟨⟨its2,rfl,g2,g3⟩,sm,o1,o2,rfl⟩:=p
   rw[c7]at hx
   cases ex:its[i]? with
   |none=>rw[ex]at hx;cases hx
   |some v=>
    rw[ex]at hx
    cases hx
    have fv:=f2 v (lX ex)
    have hsv:(bJ ts w n)[i]? =some v.2.2.2:=by rw[<-f3,c7,ex];rfl
    obtain⟨hi,esv⟩:=qy.mp hsv
    have e:=Zg (p:=m8 ts w n) hi
    rw[esv]at e
    refine⟨v.1,_,rfl,sm.tup fv.pr,rfl,_,_,rfl,_,_,rfl,rfl,?_⟩
    refine⟨_,rfl,_,.inl ⟨_,SqL.of (sm _ _ fv.le),rfl⟩,?_⟩
    have eb:(!!((jf ts w n v.2.2.2).map V.int).isEmpty)=m8 ts w n v.2.2.2:=by
     rw[Bool.not_not,<-Gs]
     cases jf ts w n v.2.2.2<;>rfl
    dsimp only
    rw[eb]
    refine ite2 (fun c=> ?_) (fun c=> ?_)
    ·refine⟨_,rfl,⟨its2++[(v.2.1,v.2.2.2)],by rw[cJ];rfl,fun q hq=> ?_,by rw[cJ,g3,e,au c];rfl⟩,sm,_,_,rfl⟩
     rcases kJ.mp hq with z|z
     ·exact g2 q z
     ·rw[g8.mp z];exact fv.so
    ·exact⟨⟨its2,rfl,g2,by rw[g3,e,ao c,sE]⟩,sm,_,_,rfl⟩
  ·intro p1 hp1
   obtain⟨⟨its2,rfl,g2,g3⟩,sm,_⟩:=p
   have hle:(its.map fun q=>V.ref q.1).length=(bJ ts w n).length:=by rw[aG,<-f3,aG]
   rw[hle,uI]at g3
   have g4:its2.map (fun q=>q.2)=jD ts w n:=g3
   have hl2:its2.length=(jD ts w n).length:=by rw[<-g4,aG]
   have h36:=um (ts:=ts) (w:=w) h10
   have s6:=aY hp1 (.lst (its2.map fun q=>V.ref q.1))
   refine⟨p1,its2,rfl,SqL.of aJ,fun p hp=>⟨(sm.trans s6).tup (g2 p hp),fun h2=> ?_⟩,by omega,fun l its' hl hpm hpw=> ?_⟩
   ·exact Pu (ts:=ts) (w:=w) (n:=n) (by omega) p.2 (by rw[<-g4];exact j8.mpr ⟨p,hp,rfl⟩)
   ·have s7:=aY hl (.lst (its'.map fun q=>V.ref q.1))
    have s57:=s5.trans (sm.trans (s6.trans s7))
    refine q l (its'.map fun q=>q.2) _ s57 ⟨its',aJ,fun p hp=>(sm.trans (s6.trans s7)).tup (g2 p (hpm.mem_iff.mp hp)),rfl⟩ ⟨?_,?_⟩ ((s5.trans (sm.trans s6)).free hl)
    ·rw[<-g4];exact hpm.map _
    ·rw[Rn];exact hpw
def pC(K:W.Frag):Sp:=fun vs H Q _=>∃(a:Addr) (n:Int) (ts:List (Int×Int)),vs=[.ref a]/\bH K H a n ts/\∀r ss H',Same H H'->Lp K H' r ss->gM ss ts false n.toNat->H r=none->Q (.ref r) H'
theorem uZ:FnScope ["web"] ["web"] (defScope fG):=fsc
theorem vC{f f1 f2 f3:Addr}{fd d1 d2 d3:FuncData}(F:Fun K "full_apart" "full_apart" fG f fd)(D1:bY K mg "need_web" Mf ["thing"] f1 d1)(G1:FnOk P w K mg base CX0 7 f1 d1 ["thing"] (cF K))(D2:bY K mg "full_sets" gF ["friends"] f2 d2)(G2:FnOk P w K mg base CX0 2 f2 d2 ["friends"] (qI K))(D3:bY K mg "places_by_tie" Zf ["web","place","tied"] f3 d3)(G3:FnOk P w K mg base CX0 2 f3 d3 ["web","place","tied"] (Dv K))(aD:mg "range"=none):
  FnOk P w K mg base CX0 8 f fd ["web"] (pC K):=by
 refine F.ok uZ (fun vs H Q E h=> ?_) (fun cdv A outer s H vs Q E hr h=> ?_)
 ·obtain⟨a,n,ts,rfl,_⟩:=h
  rfl
 obtain⟨a,n,ts,rfl,hA,q⟩:=h
 refine⟨_,(aO (tH (pc G1 hr D1 (aj (pv 0) aA))) (bw (cI (pc G2 hr D2 (aj (pZ (own:=["place"]) (caps:=["web"]) (ix:=[0]) rfl (CT rfl aD (aj (bM gO (pv 0) aK (fun _ _=>rfl)) aA)) rfl rfl (.cons rfl rfl .nil) (fun _ _ _ _ _=>(cZ (i:=0) (show(["place","web"]:List Str).Nodup from by decide+kernel) rfl (Or.inl rfl))) (fun _ _ _ _ _=>sy) (fun _ _ _ _ _=>(pc G3 hr D3 (aj (pv 1) (aj (pv 0) (aj pe_bl aA)))))) aA))))),?_⟩
 have h0:=hA.h0
 have h10:=hA.h1
 refine⟨_,rfl,_,_,rfl,hA.web.dv.dx,hA.ok,fun H1 s1=> ?_⟩
 have Ym:=hA.same s1
 obtain⟨ta,ra,a1,a2,a3⟩:=id Ym.web
 refine⟨_,rfl,a,_,_,.int n,rfl,rfl,a1,rfl,n,rfl,by omega,by omega,?_⟩
 refine Ri (n:=n.toNat) (fun k acc σ H'=>(∃fas:List Addr,acc=fas.map V.ref/\fas.length=k/\∀(i:Nat) f,fas[i]? =some f->H' f=some (.lst ((m9 ts false n.toNat (i:Int)).map V.int)))/\Same H1 H'/\∃o,σ=[o,some (.ref a)]) ⟨⟨[],rfl,rfl,fun i f h=>by simp at h⟩,Same.refl _,_,rfl⟩ (fun k acc σ H' hk p=> ?_) (by rw[fM];omega) (fun k acc σ H' hk p=> ?_) (fun acc σ H' p=> ?_)
 ·obtain⟨⟨fas,rfl,hl,_⟩,_⟩:=p
  rw[aG];omega
 ·obtain⟨⟨fas,rfl,hl,hf⟩,sm,o,rfl⟩:=p
  have ek:(0+(k:Int))=(k:Int):=by omega
  rw[ek]
  refine⟨_,rfl,_,rfl,a,n,_,ts,false,rfl,Ym.same sm,fun r H5 s5 h5 n5=>⟨⟨fas++[r],by rw[cJ];rfl,by rw[lW,hl];rfl,fun i f hi=> ?_⟩,sm.trans s5,_,rfl⟩⟩
  by_cases c:i<fas.length
  ·rw[Vd c]at hi
   exact s5 _ _ (hf i f hi)
  ·have hb:i<(fas++[r]).length:=(qy.mp hi).1
   rw[lW]at hb
   have e:i=fas.length:=by have:[r].length=1:=rfl;omega
   rw[e,Qn (aH _),Nat.sub_self]at hi
   cases hi
   rw[e,hl];exact h5
 ·intro p1 hp1
  obtain⟨⟨fas,rfl,hl,hf⟩,sm,_⟩:=p
  have s6:=aY hp1 (.lst (fas.map V.ref))
  exact⟨p1,fas,ts,false,n.toNat,rfl,aJ,hl,by omega,fun i f hi=>s6 _ _ (hf i f hi),fun r ss H7 s7 h7 h8 n7=>q r ss H7 (s1.trans (sm.trans (s6.trans s7))) h7 h8 ((s1.trans (sm.trans s6)).free n7)⟩
def Iv(m:Int)(t1 t2:List (Int×Int))(i j:Int):Bool:=if i/m=j/m then bh t2 (i %m) (j %m)else bh t1 (i/m) (j/m)
def Dl(K:W.Frag):Sp:=fun vs H Q _=>∃(a b t:Addr) (n1 n2 i j:Int) (t1 t2:List (Int×Int)),vs=[.ref a,.ref b,.ref t]/\iY K H a n1 t1/\iY K H b n2 t2/\0<n2/\n2<=10/\SqT K H t [.int i,.int j]/\∀H',Same H H'->Q (.bl (Iv n2 t1 t2 i j)) H'
theorem mq:FnScope ["one","other","tie","m","i","j"] ["one","other","tie"] (defScope Ze):=fsc
theorem JL{f f1:Addr}{fd d1:FuncData}(F:Fun K "is_tie_within" "is_tie_within" Ze f fd)(D1:bY K mg "has_tie" fU ["web","one","other"] f1 d1)(G1:FnOk P w K mg base CX0 1 f1 d1 ["web","one","other"] (Du K)):
  FnOk P w K mg base CX0 2 f fd ["one","other","tie"] (Dl K):=by
 refine F.ok mq (fun vs H Q E h=> ?_) (fun cdv A outer s H vs Q E hr h=> ?_)
 ·obtain⟨a,b,t,n1,n2,i,j,t1,t2,rfl,_⟩:=h
  rfl
 obtain⟨a,b,t,n1,n2,i,j,t1,t2,rfl,hA,hB,hn,hn',ht,q⟩:=h
 refine⟨_,aO (cW (i:=3) mq.nd rfl (Or.inl rfl) (bM gO (pv 1) aK (fun _ _=>rfl))) (aO (cW (i:=4) mq.nd rfl (Or.inl rfl) (bK dh (bM gO (pv 2) aK (fun _ _=>rfl)) (pv 3))) (aO (cW (i:=5) mq.nd rfl (Or.inl rfl) (bK dh (bM gO (pv 2) aK (fun _ _=>rfl)) (pv 3))) (aO (lR (gZ op_eq (pv 4) (pv 5) (nomark _)) (bw (cI (pc G1 hr D1 (aj (pv 1) (aj (bK op_mod (bM gO (pv 2) aK (fun _ _=>rfl)) (pv 3)) (aj (bK op_mod (bM gO (pv 2) aK (fun _ _=>rfl)) (pv 3)) aA)))))) lU) (bw (cI (pc G1 hr D1 (aj (pv 0) (aj (pv 4) (aj (pv 5) aA))))))))),?_⟩
 obtain⟨tb,rb,b1,b2,b3⟩:=id hB
 refine⟨_,rfl,b,_,_,.int n2,rfl,rfl,b1,rfl,?_⟩
 refine⟨_,rfl,t,_,_,.int i,rfl,rfl,ht,rfl,_,rfl,_,_,rfl,rfl,⟨hn,by omega⟩,?_⟩
 refine⟨_,rfl,t,_,_,.int j,rfl,rfl,ht,rfl,_,rfl,_,_,rfl,rfl,⟨hn,by omega⟩,?_⟩
 refine⟨_,rfl,_,rfl,rfl,_,rfl,?_⟩
 refine ite2 (fun c=> ?_) (fun c=> ?_)
 ·have e:i/n2=j/n2:=by have:=tL c;injection this
  refine⟨_,rfl,_,rfl,t,_,_,.int i,rfl,rfl,ht,rfl,_,rfl,_,_,rfl,rfl,hn,_,rfl,t,_,_,.int j,rfl,rfl,ht,rfl,_,rfl,_,_,rfl,rfl,hn,?_⟩
  refine⟨b,n2,_,_,t2,rfl,hB,fun H' sm=> ?_⟩
  have:=q H' sm
  unfold Iv at this
  rw[au e]at this
  exact this
 ·have e:¬(i/n2=j/n2):=fun z=>c (fj (jh V.int z))
  refine⟨_,rfl,_,rfl,_,rfl,a,n1,_,_,t1,rfl,hA,fun H' sm=> ?_⟩
  have:=q H' sm
  unfold Iv at this
  rw[ao e]at this
  exact this
def xg(K:W.Frag):Sp:=fun vs H Q _=>∃(a b:Addr) (n1 n2:Int) (t1 t2:List (Int×Int)),vs=[.ref a,.ref b]/\bH K H a n1 t1/\bH K H b n2 t2/\n1*n2<=10/\∀r H',Same H H'->iY K H' r (n1*n2) (rows (Iv n2 t1 t2) (n1*n2) (n1*n2).toNat)->Q (.ref r) H'
theorem tX:FnScope ["one","other","n"] ["one","other"] (defScope mH):=fsc
theorem FN{f f1 f2 f3 f4:Addr}{fd d1 d2 d3 d4:FuncData}(F:Fun K "within" "within" mH f fd)(D1:bY K mg "need_web" Mf ["thing"] f1 d1)(G1:FnOk P w K mg base CX0 7 f1 d1 ["thing"] (cF K))(D2:bY K mg "need_few" fX ["n"] f2 d2)(G2:FnOk P w K mg base CX0 1 f2 d2 ["n"] (nR K))(D3:bY K mg "pairs" mK ["n"] f3 d3)(G3:FnOk P w K mg base CX0 1 f3 d3 ["n"] (Ab K))(D4:bY K mg "is_tie_within" Ze ["one","other","tie"] f4 d4)(G4:FnOk P w K mg base CX0 2 f4 d4 ["one","other","tie"] (Dl K))(mT:mg "tuple"=none):
  FnOk P w K mg base CX0 8 f fd ["one","other"] (xg K):=by
 refine F.ok tX (fun vs H Q E h=> ?_) (fun cdv A outer s H vs Q E hr h=> ?_)
 ·obtain⟨a,b,n1,n2,t1,t2,rfl,_⟩:=h
  rfl
 obtain⟨a,b,n1,n2,t1,t2,rfl,hA,hB,hn,q⟩:=h
 refine⟨_,aO (tH (pc G1 hr D1 (aj (pv 0) aA))) (aO (tH (pc G1 hr D1 (aj (pv 1) aA))) (aO (cW (i:=2) tX.nd rfl (Or.inl rfl) (bK uG (bM gO (pv 0) aK (fun _ _=>rfl)) (bM gO (pv 1) aK (fun _ _=>rfl)))) (aO (tH (pc G2 hr D2 (aj (pv 2) aA))) (bw (cI (pY (aj (pv 2) (aj (Hx Qc rfl mT (by decide+kernel) (aj
   (pZ (own:=["tie"]) (caps:=["one","other"]) (ix:=[0,1]) rfl (CP (pc G3 hr D3 (aj (pv 2) aA))) rfl rfl (.cons rfl rfl (.cons rfl rfl .nil)) (fun _ _ _ _ _=>cZ (i:=0) (show(["tie","one","other"]:List Str).Nodup from by decide+kernel) rfl (Or.inl rfl)) (fun _ _ _ _ _=>dX (wO (pc G4 hr D4 (aj (pv 1) (aj (pv 2) (aj (pv 0) aA)))))) (fun _ _ _ _ _=>pv 0)) aA)) aA)))))))),?_⟩
 refine⟨_,rfl,_,_,rfl,hA.web.dv.dx,hA.ok,fun H1 s1=> ?_⟩
 refine⟨_,rfl,_,_,rfl,(hB.same s1).web.dv.dx,hB.ok,fun H2 s2=> ?_⟩
 have s12:=s1.trans s2
 obtain⟨ta,ra,a1,a2,a3⟩:=id (hA.same s12).web
 obtain⟨tb,rb,b1,b2,b3⟩:=id (hB.same s12).web
 have hA0:=hA.h0
 have Ym:=hA.h1
 have hB0:=hB.h0
 have hB1:=hB.h1
 have hm0:0<=n1*n2:=wG hA0 hB0
 refine⟨_,rfl,a,_,_,.int n1,rfl,rfl,a1,rfl,_,rfl,b,_,_,.int n2,rfl,rfl,b1,rfl,_,_,rfl,rfl,.inl ⟨by omega,by omega⟩,?_⟩
 generalize hmm:((fun i j=>V.int (i*j)) _ _:V)=vm
 obtain⟨m,em,hm⟩:∃m:Int,vm= .int m/\n1*n2=m:=⟨_,hmm.symm,rfl⟩
 subst em
 simp only[hm]at hn q hm0
 refine⟨_,rfl,m,rfl,hn,?_⟩
 refine⟨_,rfl,_,rfl,m,rfl,hm0,hn,fun l H3 s3 p1=> ?_⟩
 obtain⟨rs,e1,v1⟩:=p1.ex
 refine⟨l,rs,rfl,SqL.of e1,fun hz=> ?_⟩
 have hlen:=v1.len
 rw[aG]at hlen
 have hpos:∀i:Nat,(h:i<(rows tt m m.toNat).length)->0<n2:=fun i h=>by
  have hmem:=Et h
  rw[Hh]at hmem
  have hmp:0<m:=by omega
  rcases Int.lt_or_le 0 n2 with c|c
  ·exact c
  ·have:n2=0:=by omega
   rw[this,wQ]at hm
   omega
 have R6:=s12.trans s3
 refine Hi (xs:=rs) (fun i acc σ H'=>Same H3 H'/\acc.length<=i/\cY K H' acc (((rows tt m m.toNat).take i).filter (fun p=>Iv n2 t1 t2 p.1 p.2)|>.map pairD)/\∃o,σ=[o,some (.ref a),some (.ref b)]) ⟨Same.refl _,aH _,.nil,_,rfl⟩ (fun i acc σ H' _ p=>p.1.seq (SqL.of e1)) (fun i acc σ H' hi p=>p.2.1) hz (fun i x acc σ H' hx p=> ?_) (fun acc σ H' p=> ?_)
 ·obtain⟨sm,hl,hd,o,rfl⟩:=p
  obtain⟨t,hi,rfl,ht⟩:=vq v1 hx
  refine⟨_,rfl,_,rfl,_,rfl,a,b,t,n1,n2,_,_,t1,t2,rfl,(hA.same (R6.trans sm)).web,(hB.same (R6.trans sm)).web,hpos i hi,hB1,sm.tup ht,fun H5 s5=>⟨_,rfl,?_⟩⟩
  rw[yU hi]
  refine ite2 (fun c=> ?_) (fun c=> ?_)
  ·refine⟨_,rfl,sm.trans s5,by rw[lW];show acc.length+1<=i+1;omega,?_,_,rfl⟩
   rw[au c,cJ]
   exact(hd.same s5).append (.cons (.tup ((sm.trans s5).tup ht) (.cons (.int _) (.cons (.int _) .nil))) .nil)
  ·refine⟨sm.trans s5,by omega,?_,_,rfl⟩
   rw[ao c,sE]
   exact hd.same s5
 ·intro p1 hp1
  obtain⟨sm,hl,hd,_⟩:=p
  rw[hlen,uI,ju]at hd
  have s5:=aY hp1 (.lst acc)
  refine⟨p1,_,rfl,.inl ⟨SqL.of aJ,fun t ht=> ?_⟩⟩
  have s6:=aY ht (.tup acc)
  refine⟨(by show 2<=sizeLine;decide),fun r hr'=> ?_⟩
  have s7:=aY hr' (.tup [.int m,.ref t])
  exact q r _ (R6.trans (sm.trans (s5.trans (s6.trans s7)))) ⟨t,acc,SqT.of aJ,SqT.of (s7 _ _ aJ),hd.same (s5.trans (s6.trans s7))⟩
end
def fZ(n:Nat):List Int:=(List.range n).map fun(t:Nat)=>(t:Int)
theorem gK{n:Nat}{x:Int}:x∈fZ n↔0<=x/\x<(n:Int):=by
 unfold fZ
 rw[j8]
 constructor
 ·rintro⟨t,ht,rfl⟩
  have:=sI.mp ht
  omega
 ·intro h
  exact⟨x.toNat,sI.mpr (by omega),by omega⟩
theorem DP(n:Nat):(fZ n).length=n:=by unfold fZ;rw[aG,sJ]
theorem Jx(n:Nat):fZ (n+1)=fZ n++[(n:Int)]:=by unfold fZ;rw[CV,cJ];rfl
def cH:Nat->List (List Int)
 |0=>[[]]
 |k+1=>cH k++(cH k).map fun s=>s++[(k:Int)]
theorem jG:∀k,(cH k).length=2^k
 |0=>rfl
 |k+1=>by
  show(cH k++(cH k).map fun s=>s++[(k:Int)]).length=_
  rw[lW,aG,jG k,ZR];omega
theorem nG:∀k,∀s∈cH k,s.length<=k
 |0,s,h=>by rw[g8.mp h];exact aH _
 |k+1,s,h=>by
  rcases kJ.mp h with z|z
  ·exact Nat.le_succ_of_le (nG k s z)
  ·obtain⟨t,ht,rfl⟩:=j8.mp z
   have:=nG k t ht
   rw[lW]
   show t.length+1<=k+1
   omega
theorem yu{a:Int}:∀{l:List Int},l.Sublist [a]->l=[]\/l=[a]
 |[],_=> .inl rfl
 |_::_,h=>by
  cases h with
  |cons _ h=>cases h
  |cons_cons _ h=>cases h;exact .inr rfl
theorem eE:∀(n:Nat) (ys:List Int),ys∈cH n↔ys.Sublist (fZ n)
 |0,ys=>by
  show ys∈[[]]↔ys.Sublist []
  rw[g8,List.sublist_nil]
 |n+1,ys=>by
  show ys∈cH n++(cH n).map (fun s=>s++[(n:Int)])↔_
  rw[Jx,kJ,j8,List.sublist_append_iff,eE n ys]
  constructor
  ·rintro(h|⟨s,hs,rfl⟩)
   ·exact⟨ys,[],(sE _).symm,h,List.nil_sublist _⟩
   ·exact⟨s,[(n:Int)],rfl,(eE n s).mp hs,Vl _⟩
  ·rintro⟨l1,l2,rfl,h1,h2⟩
   rcases yu h2 with rfl|rfl
   ·rw[sE];exact .inl h1
   ·exact .inr ⟨l1,(eE n l1).mpr h1,rfl⟩
theorem lG:∀n,(cH n).Nodup
 |0=>by show List.Nodup [[]];simp
 |n+1=>by
  show(cH n++(cH n).map (fun s=>s++[(n:Int)])).Nodup
  refine List.nodup_append.mpr ⟨lG n,?_,fun a ha b hb e=> ?_⟩
  ·unfold List.Nodup
   rw[Rn]
   exact(lG n).imp fun{x y} h z=>h (wfi z)
  ·subst e
   obtain⟨s,_,rfl⟩:=j8.mp hb
   have:=gK.mp (((eE n _).mp ha).subset (gY _ (wdb _)))
   omega
theorem oR:∀(n i:Nat) (xs ys:List Int),(cH n)[i]? =some xs->ys.Sublist xs->ys≠xs->ys∈(cH n).take i
 |0,i,xs,ys,h,hs,hn=>by
  have h':([[]]:List (List Int))[i]? =some xs:=h
  cases i with
  |zero=>
   simp at h'
   subst h'
   exact absurd (List.sublist_nil.mp hs) hn
  |succ i=>simp at h'
 |n+1,i,xs,ys,h,hs,hn=>by
  show ys∈(cH n++(cH n).map (fun s=>s++[(n:Int)])).take i
  have h':(cH n++(cH n).map (fun s=>s++[(n:Int)]))[i]? =some xs:=h
  by_cases hi:i<(cH n).length
  ·rw[Vd hi]at h'
   rw[List.take_append_of_le_length (cQ hi)]
   exact oR n i xs ys h' hs hn
  ·have hi:=Qe.mp hi
   rw[Qn hi,c7]at h'
   cases e:(cH n)[i-(cH n).length]? with
   |none=>rw[e]at h';cases h'
   |some zs=>
    rw[e]at h'
    cases h'
    rw[List.take_append,kJ,ZD hi]
    obtain⟨l1,l2,rfl,h1,h2⟩:=List.sublist_append_iff.mp hs
    have mz:zs.Sublist (fZ n):=(eE n zs).mp (lX e)
    rcases yu h2 with rfl|rfl
    ·rw[sE];exact .inl ((eE n _).mpr (h1.trans mz))
    ·refine .inr ?_
     rw[<-List.map_take]
     exact j8.mpr ⟨l1,oR n _ zs l1 e h1 (fun z=>hn (by rw[z])),rfl⟩
def wo(xs p:List Int):List Int:=xs.filter fun o=> !decide (o∈p)
theorem kW(xs p:List Int):(wo xs p).Sublist xs:=U6
theorem qY{xs p:List Int}{x:Int}:x∈wo xs p↔x∈xs/\x∉p:=by
 unfold wo
 rw[je]
 simp
theorem HJ{x:Int}{r p:List Int}(h:x∈p):wo (x::r) p≠x::r:=fun e=>by
 have:x∈wo (x::r) p:=by rw[e];exact cV
 exact(qY.mp this).2 h
theorem Wg{x:Int}{r p:List Int}(h:x∈p):(wo (x::r) p).length<(x::r).length:=
 Hz (kW _ _).length_le fun e=>HJ h ((kW _ _).eq_of_length e)
abbrev Lk:=List Int->Int->Bool
def gW(st:Lk)(found:List (List Int))(x:Int):List (List Int):=found++(found.filter fun p=>st p x).map fun p=>p++[x]
def jj(st:Lk)(xs:List Int)(k:Nat):List (List Int):=((xs.drop 1).take k).foldl (gW st) [xs.take 1]
def VL(st:Lk)(xs:List Int):List (List Int):=(xs.drop 1).foldl (gW st) [xs.take 1]
theorem yS(st:Lk)(xs:List Int):jj st xs (xs.drop 1).length=VL st xs:=by unfold jj VL;rw[uI]
theorem oH{st:Lk}{xs:List Int}{k:Nat}{y:Int}(h:(xs.drop 1)[k]? =some y):jj st xs (k+1)=gW st (jj st xs k) y:=by
 unfold jj
 rw[wW (l:=xs.drop 1),h,List.foldl_append];rfl
theorem yR(st:Lk)(xs:List Int):∀k,(jj st xs k).length<=2^k
 |0=>by show([xs.take 1]:List (List Int)).length<=1;simp
 |k+1=>by
  have ih:=yR st xs k
  cases e:(xs.drop 1)[k]? with
  |none=>
   have:jj st xs (k+1)=jj st xs k:=by unfold jj;rw[wW (l:=xs.drop 1),e];simp
   rw[this]
   exact eO ih (U8 (by decide) (wD k))
  |some y=>
   rw[oH e]
   unfold gW
   rw[lW,aG]
   have:=wJ (fun p=>st p y) (jj st xs k)
   rw[ZR];omega
theorem iz{st:Lk}{x:Int}{r:List Int}:∀(k:Nat),∀p∈jj st (x::r) k,p.Sublist (x::r.take k)/\x∈p
 |0,p,h=>by
  have h':p∈[[x]]:=h
  rw[g8.mp h']
  exact⟨by simp,wdb _⟩
 |k+1,p,h=>by
  cases e:r[k]? with
  |none=>
   have e1:jj st (x::r) (k+1)=jj st (x::r) k:=by unfold jj;show((r.take (k+1)).foldl _ _)=((r.take k).foldl _ _);rw[wW (l:=r),e];simp
   rw[e1]at h
   obtain⟨h1,h2⟩:=iz k p h
   exact⟨h1.trans (by rw[wW,e];simp),h2⟩
  |some y=>
   rw[oH (xs:=x::r) (show((x::r).drop 1)[k]? =some y from e)]at h
   have et:x::r.take (k+1)=(x::r.take k)++[y]:=by rw[wW,e];rfl
   rw[et]
   rcases kJ.mp h with z|z
   ·obtain⟨h1,h2⟩:=iz k p z
    exact⟨h1.trans (wcx _ _),h2⟩
   ·obtain⟨q,hq,rfl⟩:=j8.mp z
    obtain⟨h1,h2⟩:=iz k q (je.mp hq).1
    exact⟨h1.append (Vl _),Ew _ h2⟩
theorem jE{st:Lk}{x:Int}{r:List Int}{p:List Int}(h:p∈VL st (x::r)):p.Sublist (x::r)/\x∈p:=by
 rw[<-yS]at h
 have:=iz _ p h
 have e:r.take ((x::r).drop 1).length=r:=uI
 rw[e]at this
 exact this
theorem BL(st:Lk)(xs:List Int):VL st xs≠[]:=by
 have key:∀(l:List Int) (f:List (List Int)),f≠[]->l.foldl (gW st) f≠[]:=fun l=>by
  induction l with
  |nil=>intro f h;exact h
  |cons a l ih=>intro f h;exact ih _ (by unfold gW;intro z;exact h (List.append_eq_nil_iff.mp z).1)
 exact key _ _ (by simp)
def cC(ts:List (Int×Int)):Lk:=fun part x=> !(part.any fun o=>bh ts o x)
abbrev fparts(ts:List (Int×Int)):List Int->List (List Int):=VL (cC ts)
theorem vN{ts:List (Int×Int)}{xs p:List Int}(h:p∈fparts ts xs):p.Pairwise fun a b=>bh ts a b=false:=by
 have key:∀(l:List Int) (f:List (List Int)),(∀p∈f,p.Pairwise fun a b=>bh ts a b=false)->∀p∈l.foldl (gW (cC ts)) f,p.Pairwise fun a b=>bh ts a b=false:=fun l=>by
  induction l with
  |nil=>intro f h;exact h
  |cons a l ih=>
   intro f h
   refine ih _ fun p hp=> ?_
   rcases kJ.mp hp with z|z
   ·exact h p z
   ·obtain⟨q,hq,rfl⟩:=j8.mp z
    obtain⟨h1,h2⟩:=je.mp hq
    rw[Rp]
    refine⟨h q h1,Wf _ _,fun o ho y hy=> ?_⟩
    rw[g8.mp hy]
    unfold cC at h2
    rw[wdk,Qj]at h2
    have:=h2 o ho
    simpa using this
 refine key _ _ (fun p hp=> ?_) p h
 rw[g8.mp hp]
 cases xs with
 |nil=>exact List.Pairwise.nil
 |cons x r=>exact Wf _ _
def JZ:List Int->Int
 |[]=>0
 |[a]=>a
 |a::b::l=>if a<=JZ (b::l)then a else JZ (b::l)
theorem Bp:∀{ns:List Int},ns≠[]->JZ ns∈ns/\∀n∈ns,JZ ns<=n
 |[],h=>absurd rfl h
 |[a],_=>⟨wdb _,fun n hn=>by rw[g8.mp hn];exact zM _⟩
 |a::b::l,_=>by
  obtain⟨h1,h2⟩:=Bp (ns:=b::l) (by simp)
  show(if a<=JZ (b::l)then a else JZ (b::l))∈_/\∀n∈_,(if a<=JZ (b::l)then a else JZ (b::l))<=n
  by_cases c:a<=JZ (b::l)
  ·rw[au c]
   refine⟨cV,fun n hn=> ?_⟩
   rcases cB.mp hn with z|z
   ·rw[z];exact zM _
   ·exact whd c (h2 n z)
  ·rw[ao c]
   refine⟨dG _ h1,fun n hn=> ?_⟩
   rcases cB.mp hn with z|z
   ·rw[z];omega
   ·exact h2 n z
theorem mnL_eq{ns:List Int}{m:Int}(h1:m∈ns)(h2:∀n∈ns,m<=n):m=JZ ns:=by
 have hn:ns≠[]:=fun e=>by rw[e]at h1;cases h1
 obtain⟨a,b⟩:=Bp hn
 exact wgm (h2 _ a) (b _ h1)
def Hr(g:List Int->Int)(ts:List (Int×Int))(xs:List Int):Int:=if xs=[]then 0 else 1+JZ ((fparts ts xs).map fun p=>g (wo xs p))
theorem uf{g g':List Int->Int}{ts:List (Int×Int)}{xs:List Int}(h:∀ys:List Int,ys.Sublist xs->ys≠xs->g ys=g' ys):Hr g ts xs=Hr g' ts xs:=by
 unfold Hr
 cases xs with
 |nil=>rfl
 |cons x r=>
  rw[ao (by simp),ao (by simp)]
  congr 2
  exact Zw fun p hp=>h _ (kW _ _) (HJ (jE hp).2)
def BP(ts:List (Int×Int)):Nat->List Int->Int
 |0,_=>0
 |k+1,xs=>Hr (BP ts k) ts xs
theorem rC(ts:List (Int×Int)):∀(k j:Nat) (xs:List Int),xs.length<=k->xs.length<=j->BP ts k xs=BP ts j xs
 |0,j,xs,h,_=>by
  have e:xs=[]:=List.length_eq_zero_iff.mp (Nat.le_zero.mp h)
  subst e
  cases j with
  |zero=>rfl
  |succ j=>rfl
 |k+1,0,xs,_,h=>by
  have e:xs=[]:=List.length_eq_zero_iff.mp (Nat.le_zero.mp h)
  subst e
  rfl
 |k+1,j+1,xs,h1,h2=>by
  show Hr (BP ts k) ts xs=Hr (BP ts j) ts xs
  refine uf fun ys hs hn=> ?_
  have:ys.length<xs.length:=Hz hs.length_le fun e=>hn (hs.eq_of_length e)
  exact rC ts k j ys (by omega) (by omega)
def fJ(ts:List (Int×Int))(xs:List Int):Int:=BP ts xs.length xs
theorem flo_eq(ts:List (Int×Int))(xs:List Int):fJ ts xs=Hr (fJ ts) ts xs:=by
 unfold fJ
 rw[rC ts xs.length (xs.length+1) xs (aH _) (wD _)]
 refine uf (g:=BP ts xs.length) fun ys hs hn=> ?_
 exact rC ts _ _ ys hs.length_le (aH _)
theorem Ef(ts:List (Int×Int)):fJ ts []=0:=rfl
theorem Ul{ts:List (Int×Int)}{xs p:List Int}(hx:xs≠[])(hp:p∈fparts ts xs):fJ ts xs<=1+fJ ts (wo xs p):=by
 rw[flo_eq,Hr,ao hx]
 have:=(Bp (ns:=(fparts ts xs).map fun p=>fJ ts (wo xs p)) (fun z=>BL _ _ (List.map_eq_nil_iff.mp z))).2 _ (j8.mpr ⟨p,hp,rfl⟩)
 omega
theorem K4{ts:List (Int×Int)}{xs p:List Int}(hx:xs≠[])(hp:p∈fparts ts xs)(hb:∀q∈fparts ts xs,fJ ts (wo xs p)<=fJ ts (wo xs q)):fJ ts xs=1+fJ ts (wo xs p):=by
 rw[flo_eq,Hr,ao hx]
 rw[<-mnL_eq (m:=fJ ts (wo xs p)) (j8.mpr ⟨p,hp,rfl⟩) fun n hn=> ?_]
 obtain⟨q,hq,rfl⟩:=j8.mp hn
 exact hb q hq
def pL(f:List Int->Int)(l:List (List Int)):List (List Key×V):=l.map fun s=>(s.map Sum.inl,V.int (f s))
theorem yJ:∀{a b:List Int},(a.map (Sum.inl (β:=Str))=b.map Sum.inl)->a=b
 |[],[],_=>rfl
 |[],_::_,h=>by cases h
 |_::_,[],h=>by cases h
 |a::l,b::m,h=>by
  rw[wU,wU]at h
  injection h with h1 h2
  injection h1 with h1
  rw[h1,yJ h2]
theorem jm(f:List Int->Int)(k:List Int):∀l:List (List Int),valV (pL f l) (k.map Sum.inl)=if k∈l then some (.int (f k))else none
 |[]=>rfl
 |s::l=>by
  show valV ((s.map Sum.inl,V.int (f s))::pL f l) (k.map Sum.inl)=_
  by_cases e:s=k
  ·subst e
   rw[valV_pos rfl,au cV]
  ·rw[valV_neg (fun z=>e (yJ z)),jm f k l]
   by_cases c:k∈l
   ·rw[au c,au (dG _ c)]
   ·rw[ao c,ao fun z=>(cB.mp z).elim (fun y=>e y.symm) c]
theorem Jb{f:List Int->Int}{l:List (List Int)}{s:List Int}(h:s∉l):putK (pL f l) (s.map Sum.inl) (.int (f s))=pL f (l++[s]):=by
 rw[putK_new _ (by rw[jm,ao h])]
 unfold pL
 rw[cJ];rfl
theorem Jc(f:List Int->Int)(l:List (List Int)):(pL f l).length=l.length:=aG _
def uV(hs:List Int)(p:List Int)(h:Int):List Int:=p.foldl (fun l q=>l.set q.toNat h) hs
theorem qM(h:Int):∀(p hs:List Int),(uV hs p h).length=hs.length
 |[],_=>rfl
 |q::p,hs=>by
  show(uV (hs.set q.toNat h) p h).length=_
  rw[qM h p,wed]
theorem Kr{hs:List Int}{a b:Nat}{h:Int}(hb:b<hs.length):(hs.set a h).getD b 0=if a=b then h else hs.getD b 0:=by
 rw[kO,wdl]
 by_cases e:a=b
 ·subst e
  rw[au rfl,au hb,au rfl];rfl
 ·rw[ao e,ao e,kO]
theorem ug(h:Int){b:Nat}:∀(p hs:List Int),b<hs.length->(∀q∈p,0<=q)->(uV hs p h).getD b 0=if(b:Int)∈p then h else hs.getD b 0
 |[],hs,_,_=>by rw[ao (by simp)];rfl
 |q::p,hs,hb,hp=>by
  show(uV (hs.set q.toNat h) p h).getD b 0=_
  rw[ug h p _ (by rw[wed];exact hb) fun z hz=>hp z (dG _ hz),Kr hb]
  have hq:=hp q cV
  by_cases c:(b:Int)∈p
  ·rw[au c,au (dG _ c)]
  ·rw[ao c]
   by_cases e:q.toNat=b
   ·rw[au e,au (by rw[show(b:Int)=q by omega];exact cV)]
   ·rw[ao e,ao fun z=>(cB.mp z).elim (fun y=>e (by omega)) c]
structure tE(ts:List (Int×Int))(n:Nat)(k:Int)(xs:List Int)(h:Int)(hs:List Int):Prop where
 len:hs.length=n
 sub:xs.Sublist (fZ n)
 h0:0<=h
 sum:h+fJ ts xs=k
 out:∀p:Nat,p<n->(p:Int)∉xs->0<=hs.getD p 0/\hs.getD p 0<h
 all:∀c,0<=c->c<h->∃p:Nat,p<n/\(p:Int)∉xs/\hs.getD p 0=c
 ok:∀a b:Nat,a<n->b<n->(a:Int)∉xs->(b:Int)∉xs->bh ts (a:Int) (b:Int)=true->hs.getD a 0≠hs.getD b 0
theorem tE.start(ts:List (Int×Int))(n:Nat):tE ts n (fJ ts (fZ n)) (fZ n) 0 (List.replicate n 0):=by
 have no:∀p:Nat,p<n->(p:Int)∉fZ n->False:=fun p hp h=>h (gK.mpr ⟨by omega,by omega⟩)
 exact⟨MN,Vl _,zM _,by omega,fun p hp h=>(no p hp h).elim,fun c h1 h2=>by omega,fun a b ha hb h=>(no a ha h).elim⟩
theorem Ia(ts:List (Int×Int))(a b:Int):bh ts a b=bh ts b a:=by
 unfold bh
 rcases Int.lt_trichotomy a b with c|c|c
 ·rw[ao (show¬b<a by omega),au (show b>a by omega),au (show a<b by omega),ao (show¬a>b by omega)]
 ·rw[c]
 ·rw[au (show b<a by omega),ao (show¬b>a by omega),ao (show¬a<b by omega),au (show a>b by omega)]
theorem vp{ts:List (Int×Int)}{n:Int}(hp:bO n ts):∀{p:List Int},(p.Pairwise fun a b=>bh ts a b=false)->∀a∈p,∀b∈p,bh ts a b=false
 |_,h,a,ha,b,hb=>by
  by_cases e:a=b
  ·subst e
   rw[tied_eq hp]
   unfold aW
   have:(a,a)∉ts:=fun z=>by have:=(hp.lt _ z).2.1;dsimp only at this;omega
   simp[this]
  ·obtain⟨i,hi,rfl⟩:=zR ha
   obtain⟨j,hj,rfl⟩:=zR hb
   have hij:i≠j:=fun z=>e (by subst z;rfl)
   rcases Nat.lt_or_gt_of_ne hij with c|c
   ·exact Qm.mp h i j hi hj c
   ·rw[Ia];exact Qm.mp h j i hj hi c
theorem tE.step{ts:List (Int×Int)}{n:Nat}{k h:Int}{xs hs p:List Int}(I:tE ts n k xs h hs)(hok:bO (n:Int) ts)(hx:xs≠[])(hp:p∈fparts ts xs)(hb:∀q∈fparts ts xs,fJ ts (wo xs p)<=fJ ts (wo xs q)):tE ts n k (wo xs p) (h+1) (uV hs p h):=by
 obtain⟨x,r,rfl⟩:∃x r,xs=x::r:=by cases xs with |nil=>exact absurd rfl hx|cons x r=>exact⟨x,r,rfl⟩
 obtain⟨ps,px⟩:=jE hp
 have pr:∀q∈p,0<=q/\q<(n:Int):=fun q hq=>gK.mp (I.sub.subset (ps.subset hq))
 have p0:∀q∈p,0<=q:=fun q hq=>(pr q hq).1
 have ap:=vp hok (vN hp)
 have gv:∀b:Nat,b<n->(uV hs p h).getD b 0=if(b:Int)∈p then h else hs.getD b 0:=fun b hb=>ug h p hs (by rw[I.len];exact hb) p0
 have nx:∀b:Nat,(b:Int)∉wo (x::r) p->(b:Int)∉p->(b:Int)∉x::r:=fun b h1 h2 h3=>h1 (qY.mpr ⟨h3,h2⟩)
 refine⟨by rw[qM];exact I.len,(kW _ _).trans I.sub,by have:=I.h0;omega,?_,fun b hb hn=> ?_,fun c h1 h2=> ?_,fun a b ha hb na nb ht=> ?_⟩
 ·have:=K4 hx hp hb
  have:=I.sum
  omega
 ·rw[gv b hb]
  by_cases c:(b:Int)∈p
  ·rw[au c];have:=I.h0;omega
  ·rw[ao c]
   have:=I.out b hb (nx b hn c)
   omega
 ·by_cases e:c=h
  ·have:=pr x px
   refine⟨x.toNat,by omega,fun z=> ?_,?_⟩
   ·rw[show((x.toNat:Nat):Int)=x by omega]at z
    exact(qY.mp z).2 px
   ·rw[gv _ (by omega),au (by rw[show((x.toNat:Nat):Int)=x by omega];exact px),e]
  ·obtain⟨b,b1,b2,b3⟩:=I.all c h1 (by omega)
   refine⟨b,b1,fun z=>b2 (qY.mp z).1,?_⟩
   rw[gv b b1,ao fun z=>b2 (ps.subset z)]
   exact b3
 ·rw[gv a ha,gv b hb]
  by_cases ca:(a:Int)∈p
  ·by_cases cb:(b:Int)∈p
   ·rw[ap _ ca _ cb]at ht;cases ht
   ·rw[au ca,ao cb]
    have:=I.out b hb (nx b nb cb)
    omega
  ·by_cases cb:(b:Int)∈p
   ·rw[ao ca,au cb]
    have:=I.out a ha (nx a na ca)
    omega
   ·rw[ao ca,ao cb]
    exact I.ok a b ha hb (nx a na ca) (nx b nb cb) ht
structure lJ(ts:List (Int×Int))(n:Nat)(k:Int)(hs:List Int):Prop where
 len:hs.length=n
 k0:0<=k
 rg:∀p:Nat,p<n->0<=hs.getD p 0/\hs.getD p 0<k
 all:∀c,0<=c->c<k->∃p:Nat,p<n/\hs.getD p 0=c
 ok:∀a b:Nat,a<n->b<n->bh ts (a:Int) (b:Int)=true->hs.getD a 0≠hs.getD b 0
theorem tE.done{ts:List (Int×Int)}{n:Nat}{k h:Int}{hs:List Int}(I:tE ts n k [] h hs):lJ ts n k hs:=by
 have e:h=k:=by have:=I.sum;rw[Ef]at this;omega
 subst e
 exact⟨I.len,I.h0,fun p hp=>I.out p hp (by simp),fun c h1 h2=>by obtain⟨p,h3,_,h4⟩:=I.all c h1 h2;exact⟨p,h3,h4⟩,fun a b ha hb ht=>I.ok a b ha hb (by simp) (by simp) ht⟩
section
variable{P:Program}{w:World}{K:W.Frag}{mg:Str->Option Value}{base:Heap}
theorem YC{α:Type}(p:α->Bool)(a:α):[a].filter p=if p a=true then[a]else[]:=by
 by_cases c:p a=true
 ·rw[au c,List.filter_cons_of_pos c];rfl
 ·rw[ao c,List.filter_cons_of_neg c];rfl
theorem w6(n:Nat):cR n=(fZ n).map V.int:=by unfold cR fZ;rw[U0];rfl
theorem keyV(xs:List Int):(xs.map (Sum.inl (β:=Str))).map kV=xs.map V.int:=by rw[U0];rfl
abbrev KnS(H:Hp)(its:List (Addr×List Int)):Prop:=∀p∈its,H p.1=some (.tup (p.2.map V.int))
def tV(K:W.Frag):Sp:=fun vs H Q _=>∃n:Int,vs=[.int n]/\0<=n/\n<=10/\∀(r:Addr) (its:List (Addr×List Int)) H',Same H H'->H' r=some (.lst (its.map fun p=>V.ref p.1))->KnS H' its->its.map (·.2)=cH n.toNat->Q (.ref r) H'
theorem iJ:FnScope ["n","found","place"] ["n"] (defScope iR):=fsc
theorem Bk{f:Addr}{fd:FuncData}(F:Fun K "all_sets" "all_sets" iR f fd)(aD:mg "range"=none):
  FnOk P w K mg base CX0 1 f fd ["n"] (tV K):=by
 refine F.ok iJ (fun vs H Q E h=> ?_) (fun cdv A outer s H vs Q E hr h=> ?_)
 ·obtain⟨n,rfl,_⟩:=h
  rfl
 obtain⟨n,rfl,h0,h1,q⟩:=h
 refine⟨_,(aO (cW (i:=1) iJ.nd rfl (Or.inl rfl) (pe_lst (aj (pY aA) aA))) (aO (uH sG rfl (CT rfl aD (aj (pv 0) aA)) (cZ (i:=2) iJ.nd rfl (Or.inr rfl)) (bw (cW (i:=1) iJ.nd rfl (Or.inl rfl) (bK op_cat (pv 1) (pZ (own:=["some"]) (caps:=["place"]) (ix:=[2]) rfl (CP (pv 1)) rfl rfl (.cons rfl rfl .nil) (fun _ _ _ _ _=>(cZ (i:=0) (show(["some","place"]:List Str).Nodup from by decide+kernel) rfl (Or.inl rfl))) (fun _ _ _ _ _=>sy) (fun _ _ _ _ _=>(bK N7 (pv 0) (pY (aj (pv 1) aA))))))))) (bw (cI (pv 1))))),?_⟩
 refine⟨(by show 0<=sizeLine;decide),fun p0 hp0=> ?_⟩
 have s0:=aY hp0 (.tup [])
 refine⟨(by show 1<=sizeLine;decide),fun l0 hl0=> ?_⟩
 have s1:=aY hl0 (.lst [.ref p0])
 refine⟨_,rfl,n,rfl,by omega,by omega,?_⟩
 refine CQ (n:=n.toNat) (fun k σ H'=>∃(l:Addr) (its:List (Addr×List Int)) (b2:Option V),σ=[some (.int n),some (.ref l),b2]/\Same H H'/\H' l=some (.lst (its.map fun p=>V.ref p.1))/\KnS H' its/\its.map (·.2)=cH k) ⟨l0,[(p0,[])],_,rfl,s0.trans s1,aJ,fun p hp=>by rw[g8.mp hp];exact s1 _ _ aJ,rfl⟩ (fun k σ H1 hk p=> ?_) (fun σ H1 p=> ?_)
 ·obtain⟨l,its,b2,rfl,sm,hl,hT,hm⟩:=p
  have hlen:its.length=2^k:=by rw[<-jG k,<-hm,aG]
  have aaN:2^k<=512:=U8 (n:=2) (by decide) (show k<=9 by omega)
  refine⟨_,rfl,_,rfl,l,_,rfl,SqL.of hl,fun hz=> ?_⟩
  refine Hi (xs:=its.map fun p=>V.ref p.1) (fun i acc σ H2=>∃jts:List (Addr×List Int),acc=jts.map (fun p=>V.ref p.1)/\jts.map (·.2)=((its.take i).map (·.2)).map (fun s=>s++[(k:Int)])/\KnS H2 jts/\Same H1 H2/\∃o,σ=[o,some (.int (0+(k:Int)))]) ⟨[],rfl,rfl,fun p hp=>(nomatch hp),Same.refl _,_,rfl⟩ (fun i acc σ H2 _ p=> ?_) (fun i acc σ H2 hi p=> ?_) hz (fun i x acc σ H2 hx p=> ?_) (fun acc σ H2 p=> ?_)
  ·obtain⟨_,_,_,_,s2,_⟩:=p
   exact s2.seq (SqL.of hl)
  ·obtain⟨jts,rfl,hj,_⟩:=p
   have:=jh List.length hj
   simp only[aG,wI]at this
   rw[aG,this];exact Mz _ _
  ·obtain⟨jts,rfl,hj,hJ,s2,o,rfl⟩:=p
   rw[c7]at hx
   cases ex:its[i]? with
   |none=>rw[ex]at hx;cases hx
   |some v=>
    rw[ex]at hx
    cases hx
    have mv:=lX ex
    have lv:v.2.length<=10:=by
     have:=nG k v.2 (by rw[<-hm];exact Wa mv)
     omega
    refine⟨_,rfl,_,rfl,(by show 1<=sizeLine;decide),fun p1 hp1=> ?_⟩
    have s3:=aY hp1 (.tup [.int (0+(k:Int))])
    refine⟨v.1,p1,_,_,rfl,rfl,(s2.trans s3) _ _ (hT v mv),aJ,(by rw[aG,fM];show _+1<=_;omega),fun r H4 s4 h4=> ?_⟩
    have ek:(0+(k:Int))=(k:Int):=by omega
    have DN:=s3.trans s4
    refine⟨jts++[(r,v.2++[(k:Int)])],by rw[cJ];rfl,?_,fun p hp=> ?_,s2.trans DN,_,rfl⟩
    ·rw[cJ,hj,wW,ex,cJ,cJ];rfl
    ·rcases kJ.mp hp with z|z
     ·exact DN _ _ (hJ p z)
     ·rw[g8.mp z]
      show H4 r=some (.tup ((v.2++[(k:Int)]).map V.int))
      rw[cJ,<-ek]
      exact h4
  ·intro p1 hp1
   obtain⟨jts,rfl,hj,hJ,s2,o,rfl⟩:=p
   rw[aG,uI,hm]at hj
   have hjl:jts.length=2^k:=by
    have:=jh List.length hj
    rw[aG,aG,jG]at this
    exact this
   have s3:=aY hp1 (.lst (jts.map fun p=>V.ref p.1))
   refine⟨l,p1,_,_,rfl,rfl,s3 _ _ (s2 _ _ hl),aJ,(by rw[aG,aG,hjl,hlen,fM];omega),fun l2 hl2=> ?_⟩
   have s4:=aY hl2 (.lst (its.map (fun p=>V.ref p.1)++jts.map fun p=>V.ref p.1))
   have DN:=s3.trans s4
   refine⟨l2,its++jts,_,rfl,sm.trans (s2.trans DN),by rw[aJ,cJ],fun p hp=> ?_,?_⟩
   ·rcases kJ.mp hp with z|z
    ·exact(s2.trans DN) _ _ (hT p z)
    ·exact DN _ _ (hJ p z)
   ·rw[cJ,hm,hj];rfl
 ·obtain⟨l,its,b2,rfl,sm,hl,hT,hm⟩:=p
  exact⟨_,rfl,q l its H1 sm hl hT hm⟩
def ig(K:W.Frag):Sp:=fun vs H Q _=>∃(a b:Addr) (xs ys:List Int),vs=[.ref a,.ref b]/\SqT K H a (xs.map V.int)/\SqT K H b (ys.map V.int)/\∀r H',Same H H'->H' r=some (.tup ((wo xs ys).map V.int))->Q (.ref r) H'
theorem Aj:FnScope ["some","part"] ["some","part"] (defScope fQ):=fsc
theorem Bf{f:Addr}{fd:FuncData}(F:Fun K "without" "without" fQ f fd)(aU:mg "tuple"=none):
  FnOk P w K mg base CX0 1 f fd ["some","part"] (ig K):=by
 refine F.ok Aj (fun vs H Q E h=> ?_) (fun cdv A outer s H vs Q E hr h=> ?_)
 ·obtain⟨a,b,xs,ys,rfl,_⟩:=h
  rfl
 obtain⟨a,b,xs,ys,rfl,hA,hB,q⟩:=h
 refine⟨_,(bw (cI (Hx Qc rfl aU (by decide+kernel) (aj (pZ (own:=["place"]) (caps:=["part"]) (ix:=[1]) rfl (Eo (pv 0)) rfl rfl (.cons rfl rfl .nil) (fun _ _ _ _ _=>(cZ (i:=0) (show(["place","part"]:List Str).Nodup from by decide+kernel) rfl (Or.inl rfl))) (fun _ _ _ _ _=>dX (gZ (Bd K hr.units) (pv 0) (pv 1) (by with_unfolding_all rfl))) (fun _ _ _ _ _=>(pv 0))) aA)))),?_⟩
 refine⟨_,rfl,a,_,rfl,hA,fun hz=> ?_⟩
 refine LQ (xs:=xs.map V.int) (fun k acc σ H'=>acc=((xs.take k).filter fun o=> !decide (o∈ys)).map V.int/\Same H H'/\∃o,σ=[o,some (.ref b)]) ⟨rfl,Same.refl _,_,rfl⟩ (fun k acc σ H' _ p=>p.2.1.tup hA) (fun k acc σ H' hk p=> ?_) hz (fun k x acc σ H' hx pp=> ?_) (fun acc σ H' p=> ?_)
 ·rw[p.1,aG]
  exact eO (wJ _ _) (by rw[wI];exact Mz _ _)
 ·obtain⟨rfl,sm,o,rfl⟩:=pp
  rw[c7]at hx
  cases ex:xs[k]? with
  |none=>rw[ex]at hx;cases hx
  |some y=>
   rw[ex]at hx
   cases hx
   obtain⟨hk,ey⟩:=qy.mp ex
   have e:=Zg (p:=fun o=> !decide (o∈ys)) hk
   rw[ey]at e
   refine⟨_,rfl,_,rfl,b,_,_,.int y,rfl,.inr (sm.tup hB),cY.ints ys,.int _,LR ys,rfl,(by show 0<=60;decide),_,rfl,?_⟩
   rw[any_ints]
   refine ite2 (fun c=> ?_) (fun c=> ?_)
   ·exact⟨_,rfl,by rw[e,au c,cJ];rfl,sm,_,rfl⟩
   ·exact⟨by rw[e,ao c,sE],sm,_,rfl⟩
 ·intro p1 hp1
  obtain⟨rfl,sm,_⟩:=p
  refine⟨p1,_,rfl,.inl ⟨SqL.of aJ,fun l hl=> ?_⟩⟩
  exact q l _ (sm.trans ((aY hp1 _).trans (aY hl _))) (by rw[aJ,aG,uI];rfl)
def Dm(K:W.Frag):Sp:=fun vs H Q _=>∃(a b:Addr) (n x:Int) (ts:List (Int×Int)) (ps:List Int),vs=[.ref a,.ref b,.int x]/\iY K H a n ts/\SqT K H b (ps.map V.int)/\∀H',Same H H'->Q (.bl (cC ts ps x)) H'
theorem Ji:FnScope ["web","part","place"] ["web","part","place"] (defScope Zi):=fsc
theorem JM{f f1:Addr}{fd d1:FuncData}(F:Fun K "can_stand_with" "can_stand_with" Zi f fd)(D1:bY K mg "has_tie" fU ["web","one","other"] f1 d1)(G1:FnOk P w K mg base CX0 1 f1 d1 ["web","one","other"] (Du K))(J7:mg "any"=none):
  FnOk P w K mg base CX0 2 f fd ["web","part","place"] (Dm K):=by
 refine F.ok Ji (fun vs H Q E h=> ?_) (fun cdv A outer s H vs Q E hr h=> ?_)
 ·obtain⟨a,b,n,x,ts,ps,rfl,_⟩:=h
  rfl
 obtain⟨a,b,n,x,ts,ps,rfl,hW,hB,q⟩:=h
 refine⟨_,(bw (cI (pe_not (fW (zq rfl) rfl J7 (by decide+kernel) (aj (pZ (own:=["other"]) (caps:=["web","place"]) (ix:=[0,2]) rfl (Eo (pv 1)) rfl rfl (.cons rfl rfl (.cons rfl rfl .nil)) (fun _ _ _ _ _=>(cZ (i:=0) (show(["other","web","place"]:List Str).Nodup from by decide+kernel) rfl (Or.inl rfl))) (fun _ _ _ _ _=>sy) (fun _ _ _ _ _=>(pc G1 hr D1 (aj (pv 1) (aj (pv 0) (aj (pv 2) aA)))))) aA))))),?_⟩
 refine⟨_,rfl,b,_,rfl,hB,fun hz=> ?_⟩
 refine LQ (xs:=ps.map V.int) (fun k acc σ H'=>acc=(((ps.take k).map fun o=>bh ts o x)).map V.bl/\Same H H'/\∃o,σ=[o,some (.ref a),some (.int x)]) ⟨rfl,Same.refl _,_,rfl⟩ (fun k acc σ H' _ p=>p.2.1.tup hB) (fun k acc σ H' hk p=> ?_) hz (fun k v acc σ H' hx pp=> ?_) (fun acc σ H' p=> ?_)
 ·rw[p.1,aG,aG,wI];exact Mz _ _
 ·obtain⟨rfl,sm,o,rfl⟩:=pp
  rw[c7]at hx
  cases ex:ps[k]? with
  |none=>rw[ex]at hx;cases hx
  |some y=>
   rw[ex]at hx
   cases hx
   refine⟨_,rfl,_,rfl,_,rfl,a,n,y,x,ts,rfl,hW.same sm,fun H2 s2=>⟨?_,sm.trans s2,_,rfl⟩⟩
   rw[wW,ex,cJ,cJ];rfl
 ·intro p1 hp1
  obtain⟨rfl,sm,_⟩:=p
  refine⟨p1,_,rfl,SqL.of aJ,_,rfl,?_⟩
  have e:(!(((ps.take (ps.map V.int).length).map fun o=>bh ts o x).any id))=cC ts ps x:=by
   rw[aG,uI,List.any_map];rfl
  rw[e]
  exact q _ (sm.trans (aY hp1 _))
abbrev uD(K:W.Frag)(H:Hp)(its:List (Addr×List Int)):Prop:=∀p∈its,SqT K H p.1 (p.2.map V.int)
theorem uD.same{H H':Hp}{its:List (Addr×List Int)}(h:uD K H its)(e:Same H H'):uD K H' its:=fun p hp=>e.tup (h p hp)
theorem aaB(xs:List Int):cutV (xs.map V.int) none (some 1)=(xs.take 1).map V.int:=by
 cases xs with
 |nil=>rfl
 |cons x r=>
  unfold cutV HT.sIx
  simp
  try omega
theorem aaA(xs:List Int):cutV (xs.map V.int) (some 1) none=(xs.drop 1).map V.int:=by
 cases xs with
 |nil=>rfl
 |cons x r=>
  unfold cutV HT.sIx
  simp
  rw[ZD (by rw[aG];exact aH _)]
def qJ(K:W.Frag):Sp:=fun vs H Q _=>∃(a b:Addr) (n:Int) (ts:List (Int×Int)) (xs:List Int),vs=[.ref a,.ref b]/\iY K H a n ts/\SqT K H b (xs.map V.int)/\xs.length<=10/\
 ∀(r:Addr) (its:List (Addr×List Int)) H',Same H H'->H' r=some (.lst (its.map fun p=>V.ref p.1))->uD K H' its->its.map (·.2)=fparts ts xs->H r=none->Q (.ref r) H'
theorem jO:FnScope ["web","some","found","place"] ["web","some"] (defScope V3):=fsc
theorem Gf{f f1:Addr}{fd d1:FuncData}(F:Fun K "first_parts" "first_parts" V3 f fd)(D1:bY K mg "can_stand_with" Zi ["web","part","place"] f1 d1)(G1:FnOk P w K mg base CX0 2 f1 d1 ["web","part","place"] (Dm K)):
  FnOk P w K mg base CX0 3 f fd ["web","some"] (qJ K):=by
 refine F.ok jO (fun vs H Q E h=> ?_) (fun cdv A outer s H vs Q E hr h=> ?_)
 ·obtain⟨a,b,n,ts,xs,rfl,_⟩:=h
  rfl
 obtain⟨a,b,n,ts,xs,rfl,hW,hB,hlen,q⟩:=h
 refine⟨_,(aO (cW (i:=2) jO.nd rfl (Or.inl rfl) (pe_lst (aj (pe_slice uQ (pv 1) po_none (po_some aK)) aA))) (aO (uH sG rfl (Eo (pe_slice uQ (pv 1) (po_some aK) po_none)) (cZ (i:=3) jO.nd rfl (Or.inr rfl)) (bw (cW (i:=2) jO.nd rfl (Or.inl rfl) (bK op_cat (pv 2) (pZ (own:=["part"]) (caps:=["web","place"]) (ix:=[0,3]) rfl (CP (pv 2)) rfl rfl (.cons rfl rfl (.cons rfl rfl .nil)) (fun _ _ _ _ _=>(cZ (i:=0) (show(["part","web","place"]:List Str).Nodup from by decide+kernel) rfl (Or.inl rfl))) (fun _ _ _ _ _=>dX (wO (pc G1 hr D1 (aj (pv 1) (aj (pv 0) (aj (pv 2) aA)))))) (fun _ _ _ _ _=>(bK (yd K) (pv 0) (pY (aj (pv 2) aA))))))))) (bw (cI (pv 2))))),?_⟩
 refine⟨_,rfl,_,rfl,b,_,rfl,hB,fun r0 H0 s0 h0=> ?_⟩
 rw[aaB]at h0
 refine⟨(by show 1<=sizeLine;decide),fun l0 hl0=> ?_⟩
 have s1:=aY hl0 (.lst [.ref r0])
 refine⟨_,rfl,_,rfl,b,_,rfl,(s0.trans s1).tup hB,fun r1 H1 s2 h1=> ?_⟩
 rw[aaA]at h1
 refine⟨r1,_,rfl,h1,fun hz=> ?_⟩
 refine for_tup (K:=K) (a:=r1) (xs:=(xs.drop 1).map V.int) (fun k σ H'=>∃(l:Addr) (its:List (Addr×List Int)) (o3:Option V),σ=[some (.ref a),some (.ref b),some (.ref l),o3]/\Same H H'/\Same H1 H'/\H' l=some (.lst (its.map fun p=>V.ref p.1))/\uD K H' its/\its.map (·.2)=jj (cC ts) xs k/\H l=none)
  ⟨l0,[(r0,xs.take 1)],_,rfl,s0.trans (s1.trans s2),Same.refl _,s2 _ _ aJ,fun p hp=>by rw[g8.mp hp];exact(s1.trans s2).tup h0,rfl,s0.free hl0⟩ (fun k σ H' _ p=> ?_) (fun k x σ H2 hx p=> ?_) (fun σ H2 p=> ?_)
 ·obtain⟨_,_,_,_,_,s3,_⟩:=p
  exact s3.tup h1
 ·obtain⟨l,its,o3,rfl,sm,s3,hl,hT,hm,l00⟩:=p
  rw[c7]at hx
  cases ek:(xs.drop 1)[k]? with
  |none=>rw[ek]at hx;cases hx
  |some y=>
   rw[ek]at hx
   cases hx
   have hk:k<=9:=by
    have:=(qy.mp ek).1
    rw[U5]at this
    omega
   have hlen2:its.length<=512:=by
    have h1:its.length=(jj (cC ts) xs k).length:=by rw[<-hm,aG]
    rw[h1]
    exact eO (yR _ _ _) (U8 (n:=2) (by decide) hk)
   have aag:∀p∈its,p.2.length<=10:=fun p hp=>by
    have hm':p.2∈jj (cC ts) xs k:=by rw[<-hm];exact Wa hp
    cases xs with
    |nil=>simp at ek
    |cons x r=>
     have:=(iz k _ hm').1.length_le
     rw[qx,wI]at this
     rw[qx]at hlen
     omega
   refine⟨_,rfl,_,rfl,l,_,rfl,SqL.of hl,fun hz=> ?_⟩
   refine Hi (xs:=its.map fun p=>V.ref p.1) (fun i acc σ H'=>∃jts:List (Addr×List Int),acc=jts.map (fun p=>V.ref p.1)/\jts.map (·.2)=(((its.take i).map (·.2)).filter fun p=>cC ts p y).map (fun s=>s++[y])/\uD K H' jts/\Same H2 H'/\∃o,σ=[o,some (.ref a),some (.int y)]) ⟨[],rfl,rfl,fun p hp=>(nomatch hp),Same.refl _,_,rfl⟩ (fun i acc σ H' _ p=> ?_) (fun i acc σ H' hi p=> ?_) hz (fun i x acc σ H4 hx p=> ?_) (fun acc σ H4 p=> ?_)
   ·obtain⟨_,_,_,_,s2,_⟩:=p
    exact s2.seq (SqL.of hl)
   ·obtain⟨jts,rfl,hj,_⟩:=p
    have:=jh List.length hj
    rw[aG,aG]at this
    rw[aG,this]
    refine eO (wJ _ _) ?_
    rw[aG,wI];exact Mz _ _
   ·obtain⟨jts,rfl,hj,hJ,s4,o,rfl⟩:=p
    rw[c7]at hx
    cases ex:its[i]? with
    |none=>rw[ex]at hx;cases hx
    |some v=>
     rw[ex]at hx
     cases hx
     have mv:=lX ex
     have et:(((its.take (i+1)).map (·.2)).filter fun p=>cC ts p y)=(((its.take i).map (·.2)).filter fun p=>cC ts p y)++(if cC ts v.2 y=true then[v.2]else[]):=by
      rw[wW,ex,cJ,Ro]
      congr 1
      exact YC _ _
     refine⟨_,rfl,_,rfl,_,rfl,a,v.1,n,y,ts,v.2,rfl,hW.same (sm.trans s4),s4.tup (hT v mv),fun H5 s5=>⟨_,rfl,?_⟩⟩
     refine ite2 (fun c=> ?_) (fun c=> ?_)
     ·refine⟨_,rfl,_,rfl,(by show 1<=sizeLine;decide),fun p1 hp1=> ?_⟩
      have s6:=aY hp1 (.tup [.int y])
      refine⟨v.1,p1,_,_,rfl,rfl,(s4.trans (s5.trans s6)).tup (hT v mv),SqT.of aJ,(by have:=aag v mv;rw[aG,fM];show _+1<=_;omega),fun r H7 s7 h7=> ?_⟩
      have s57:=s5.trans (s6.trans s7)
      refine⟨jts++[(r,v.2++[y])],by rw[cJ];rfl,?_,fun p hp=> ?_,s4.trans s57,_,rfl⟩
      ·rw[cJ,hj,et,au c,cJ];rfl
      ·rcases kJ.mp hp with z|z
       ·exact s57.tup (hJ p z)
       ·rw[g8.mp z]
        show SqT K H7 r ((v.2++[y]).map V.int)
        rw[cJ]
        exact h7
     ·refine⟨jts,rfl,?_,hJ.same s5,s4.trans s5,_,rfl⟩
      rw[hj,et,ao c,sE]
   ·intro p1 hp1
    obtain⟨jts,rfl,hj,hJ,s4,o,rfl⟩:=p
    rw[aG,uI,hm]at hj
    have hjl:jts.length<=its.length:=by
     have:=jh List.length hj
     rw[aG,aG]at this
     have e2:its.length=(jj (cC ts) xs k).length:=by rw[<-hm,aG]
     rw[this,e2]
     exact wJ _ _
    have s5:=aY hp1 (.lst (jts.map fun p=>V.ref p.1))
    refine⟨l,p1,_,_,rfl,rfl,s5 _ _ (s4 _ _ hl),aJ,(by rw[aG,aG,fM];omega),fun l2 hl2=> ?_⟩
    have s6:=aY hl2 (.lst (its.map (fun p=>V.ref p.1)++jts.map fun p=>V.ref p.1))
    have s56:=s5.trans s6
    refine⟨l2,its++jts,_,rfl,sm.trans (s4.trans s56),s3.trans (s4.trans s56),by rw[aJ,cJ],fun p hp=> ?_,?_,(sm.trans (s4.trans s5)).free hl2⟩
    ·rcases kJ.mp hp with z|z
     ·exact(s4.trans s56).tup (hT p z)
     ·exact s56.tup (hJ p z)
    ·rw[cJ,hm,hj,oH ek];rfl
 ·obtain⟨l,its,o3,rfl,sm,s3,hl,hT,hm,l00⟩:=p
  rw[aG,yS]at hm
  exact⟨_,rfl,q l its H2 sm hl hT hm l00⟩
theorem Same.over{H0 H H':Hp}{d:Addr}(s:Same H0 H)(n:H0 d=none)(e:aq d H H'):Same H0 H':=fun b u h=>e _ _ (fun z=>by rw[z,n]at h;cases h) (s _ _ h)
theorem iG{T a:Addr}{H:Hp}{ps:Array Value}{o:HO}(h:H T=some (.tbl ps))(e:H a=some o)(n:∀ps,o≠.tbl ps):a≠T:=fun z=>by rw[z,h]at e;cases e;exact n _ rfl
theorem zY{T a:Addr}{H H':Hp}{ps:Array Value}{xs:List V}(e:aq T H H')(h:H T=some (.tbl ps))(hx:SqT K H a xs):SqT K H' a xs:=by
 rcases hx with(q|⟨o,q⟩)|q
 ·exact .inl (.inl (e _ _ (iG h q fun _ z=>nomatch z) q))
 ·exact .inl (.inr ⟨o,e _ _ (iG h q fun _ z=>nomatch z) q⟩)
 ·exact .inr q
theorem aam{T a:Addr}{H H':Hp}{ps:Array Value}{xs:List V}(e:aq T H H')(h:H T=some (.tbl ps))(hx:SqL K H a xs):SqL K H' a xs:=by
 rcases hx with(q|⟨o,q⟩)|q
 ·exact .inl (.inl (e _ _ (iG h q fun _ z=>nomatch z) q))
 ·exact .inl (.inr ⟨o,e _ _ (iG h q fun _ z=>nomatch z) q⟩)
 ·exact .inr q
theorem Ss{T:Addr}{H H':Hp}{tb:Array Value}(e:aq T H H')(n:H T=some (.tbl tb)){rs:List V}{ps:List (Int×Int)}(h:cY K H rs (ps.map pairD)):cY K H' rs (ps.map pairD):=by
 induction ps generalizing rs with
 |nil=>cases h;exact .nil
 |cons p ps ih=>
  cases h with
  |cons h tl=>
   refine .cons ?_ (ih tl)
   cases h with
   |tup h hd=>
    cases hd with
    |cons a1 t1=>
     cases a1
     cases t1 with
     |cons a2 t2=>
      cases a2
      cases t2
      exact .tup (zY e n h) (.cons (.int _) (.cons (.int _) .nil))
theorem Ws{T a:Addr}{H H':Hp}{tb:Array Value}{n:Int}{ts:List (Int×Int)}(h:iY K H a n ts)(e:aq T H H')(hn:H T=some (.tbl tb)):iY K H' a n ts:=by
 obtain⟨u,rs,h1,h2,h3⟩:=h
 exact⟨u,rs,zY e hn h1,zY e hn h2,Ss e hn h3⟩
theorem bH.tbl{T a:Addr}{H H':Hp}{tb:Array Value}{n:Int}{ts:List (Int×Int)}(h:bH K H a n ts)(e:aq T H H')(hn:H T=some (.tbl tb)):bH K H' a n ts:=⟨Ws h.web e hn,h.h0,h.h1,h.pk,h.ok⟩
theorem _root_.L2.iC.at{H:Hp}{T:Addr}{p:Pos}{q:Str}(h:iC H T p q):∃tb,H T=some (.tbl tb):=by
 rcases h with h|⟨_,_,_,_,h,_⟩
 ·exact⟨_,h⟩
 ·exact⟨_,h⟩
theorem _root_.L2.iC.same{H H':Hp}{T:Addr}{p:Pos}{q:Str}(h:iC H T p q)(e:Same H H'):iC H' T p q:=by
 rcases h with h|⟨c,oc,vs,tq,h,h1,h2⟩
 ·exact .inl (e _ _ h)
 ·exact .inr ⟨c,oc,vs,tq,e _ _ h,e _ _ h1,h2⟩
theorem _root_.L2.iC.mD{H H':Hp}{T l:Addr}{p:Pos}{q:Str}{zs:List V}(h:iC H T p q)(e:aq l H H')(hl:H l=some (.lst zs)):iC H' T p q:=by
 rcases h with h|⟨c,oc,vs,tq,h,h1,h2⟩
 ·exact .inl (e _ _ (ne_of h hl (fun z=>nomatch z)) h)
 ·exact .inr ⟨c,oc,vs,tq,e _ _ (ne_of h hl (fun z=>nomatch z)) h,e _ _ (ne_of h1 hl (fun z=>nomatch z)) h1,h2⟩
def TV:Pos:=match defBody Mx with
 |[.Return (some (.Call _ _ [⟨_,.Lambda _ _ _ p,_⟩] _)) _]=>p
 |_=>⟨0,0,0,0⟩
def aap:Str:=("best_part":Str)++".<locals>."++"<lambda>"
abbrev v9(H:Hp)(T:Addr):Prop:=iC H T TV aap
theorem Tr{xs:List Int}(c:(!(!((xs.map V.int).isEmpty)))=true):xs=[]:=by
 cases xs with
 |nil=>rfl
 |cons x r=>exact absurd c (by show¬(!(!false))=true;decide)
theorem XJ{xs:List Int}(c:¬(!(!((xs.map V.int).isEmpty)))=true):xs≠[]:=fun e=>by subst e;exact c rfl
def Io(K:W.Frag):Sp:=fun vs H Q _=>∃(a d b:Addr) (n:Int) (ts:List (Int×Int)) (xs:List Int) (kvs:List (List Key×V)) (g:List Int->Int),vs=[.ref a,.ref d,.ref b]/\iY K H a n ts/\H d=some (.dT kvs)/\SqT K H b (xs.map V.int)/\xs.length<=10/\
 (xs≠[]->∀p∈fparts ts xs,valV kvs ((wo xs p).map Sum.inl)=some (.int (g (wo xs p))))/\∀H',Same H H'->Q (.int (Hr g ts xs)) H'
theorem Nr:FnScope ["web","floors","some"] ["web","floors","some"] (defScope Zd):=fsc
theorem Od{f f1 f2:Addr}{fd d1 d2:FuncData}(F:Fun K "highest_floor" "highest_floor" Zd f fd)(D1:bY K mg "first_parts" V3 ["web","some"] f1 d1)(G1:FnOk P w K mg base CX0 3 f1 d1 ["web","some"] (qJ K))(D2:bY K mg "without" fQ ["some","part"] f2 d2)(G2:FnOk P w K mg base CX0 1 f2 d2 ["some","part"] (ig K))(pH:mg "min"=none):
  FnOk P w K mg base CX0 4 f fd ["web","floors","some"] (Io K):=by
 refine F.ok Nr (fun vs H Q E h=> ?_) (fun cdv A outer s H vs Q E hr h=> ?_)
 ·obtain⟨a,d,b,n,ts,xs,kvs,g,rfl,_⟩:=h
  rfl
 obtain⟨a,d,b,n,ts,xs,kvs,g,rfl,hW,hD,hB,hlen,hv,q⟩:=h
 refine⟨_,(aO (lR (wN (pt_truth (pv 2) (fun _=>rfl))) (bw (cI aK)) lU) (bw (cI (bK su aK (fW (uy rfl) rfl pH (by decide+kernel) (aj (pZ (own:=["part"]) (caps:=["floors","some"]) (ix:=[1,2]) rfl (CP (pc G1 hr D1 (aj (pv 0) (aj (pv 2) aA)))) rfl rfl (.cons rfl rfl (.cons rfl rfl .nil)) (fun _ _ _ _ _=>(cZ (i:=0) (show(["part","floors","some"]:List Str).Nodup from by decide+kernel) rfl (Or.inl rfl))) (fun _ _ _ _ _=>sy) (fun _ _ _ _ _=>(pe_dget (hu_of hr) (pv 1) (pc G2 hr D2 (aj (pv 2) (aj (pv 0) aA))) (fun _ _=>rfl)))) aA)))))),?_⟩
 refine⟨_,rfl,!((xs.map V.int).isEmpty),.inr (.inl ⟨_,hB,rfl⟩),?_⟩
 refine ite2 (fun c=> ?_) (fun c=> ?_)
 ·have e:=Tr c
  subst e
  exact q H (Same.refl _)
 ·have hx:=XJ c
  have hv:=hv hx
  refine⟨_,rfl,_,rfl,a,b,n,ts,xs,rfl,hW,hB,hlen,fun r its H1 s1 hr1 hT hm hr0=>⟨r,_,rfl,SqL.of hr1,fun hz=> ?_⟩⟩
  refine Hi (xs:=its.map fun p=>V.ref p.1) (fun i acc σ H'=>acc=((its.take i).map fun p=>g (wo xs p.2)).map V.int/\Same H1 H'/\∃o,σ=[o,some (.ref d),some (.ref b)]) ⟨rfl,Same.refl _,_,rfl⟩ (fun i acc σ H' _ p=>p.2.1.seq (SqL.of hr1)) (fun i acc σ H' _ p=> ?_) hz (fun i x acc σ H' hx p=> ?_) (fun acc σ H' p=> ?_)
  ·rw[p.1,aG,aG,wI];exact Mz _ _
  ·obtain⟨rfl,sm,o,rfl⟩:=p
   rw[c7]at hx
   cases ex:its[i]? with
   |none=>rw[ex]at hx;cases hx
   |some v=>
    rw[ex]at hx
    cases hx
    have mv:=lX ex
    have mp:v.2∈fparts ts xs:=by rw[<-hm];exact Wa mv
    refine⟨_,rfl,_,rfl,_,rfl,b,v.1,xs,v.2,rfl,(s1.trans sm).tup hB,sm.tup (hT v mv),fun rr H2 s2 h2=> ?_⟩
    have G:=DGet.t (k:=(wo xs v.2).map Sum.inl) ((s1.trans (sm.trans s2)) _ _ hD) (by rw[keyV];exact h2)
    rw[hv _ mp]at G
    refine⟨d,_,rfl,G,?_,sm.trans s2,_,rfl⟩
    rw[wW,ex,cJ,cJ];rfl
  ·intro p1 hp1
   obtain⟨rfl,sm,_⟩:=p
   have e:(its.take (its.map fun p=>V.ref p.1).length).map (fun p=>g (wo xs p.2))=(fparts ts xs).map fun p=>g (wo xs p):=by
    rw[aG,uI,<-hm,U0];rfl
   rw[e]
   refine⟨p1,_,rfl,SqL.of aJ,fun z=>BL _ _ (List.map_eq_nil_iff.mp z),fun m h1 h2=>⟨_,_,rfl,rfl,?_⟩⟩
   have e2:Hr g ts xs=1+m:=by rw[mnL_eq h1 h2,Hr,ao hx]
   show Q (.int (1+m)) _
   rw[<-e2]
   exact q _ (s1.trans (sm.trans (aY hp1 _)))
def Dt(K:W.Frag):Sp:=fun vs H Q _=>∃(a:Addr) (n:Int) (ts:List (Int×Int)),vs=[.ref a]/\bH K H a n ts/\∀d H',Same H H'->H' d=some (.dT (pL (fJ ts) (cH n.toNat)))->H d=none->Q (.ref d) H'
theorem qN:FnScope ["web","floors","some"] ["web"] (defScope Zk):=fsc
theorem JR{f f1 f2:Addr}{fd d1 d2:FuncData}(F:Fun K "highest_floors" "highest_floors" Zk f fd)(D1:bY K mg "all_sets" iR ["n"] f1 d1)(G1:FnOk P w K mg base CX0 1 f1 d1 ["n"] (tV K))(D2:bY K mg "highest_floor" Zd ["web","floors","some"] f2 d2)(G2:FnOk P w K mg base CX0 4 f2 d2 ["web","floors","some"] (Io K)):
  FnOk P w K mg base CX0 5 f fd ["web"] (Dt K):=by
 refine F.ok qN (fun vs H Q E h=> ?_) (fun cdv A outer s H vs Q E hr h=> ?_)
 ·obtain⟨a,n,ts,rfl,_⟩:=h
  rfl
 obtain⟨a,n,ts,rfl,hA,q⟩:=h
 refine⟨_,(aO (cW (i:=1) qN.nd rfl (Or.inl rfl) pe_dnewT) (aO (uH sG rfl (CP (pc G1 hr D1 (aj (bM gO (pv 0) aK (fun _ _=>rfl)) aA))) (cZ (i:=2) qN.nd rfl (Or.inl rfl)) (bw (ps_dput (hu_of hr) (pv 1) (pv 2) (pc G2 hr D2 (aj (pv 0) (aj (pv 1) (aj (pv 2) aA)))) rfl))) (bw (cI (pv 1))))),?_⟩
 intro d hd
 have s0:=aY hd (.dT [])
 have h0:(upd H d (.dT [])) d=some (.dT (pL (fJ ts) ((cH n.toNat).take 0))):=aJ
 generalize upd H d (.dT [])=H0 at *
 obtain⟨t,rs,w1,w2,w3⟩:=id (hA.web.same s0)
 refine⟨_,rfl,a,_,_,.int n,rfl,rfl,w1,rfl,n,rfl,hA.h0,hA.h1,fun r its H1 s1 hr1 hT hm=>⟨r,_,rfl,SqL.of hr1,fun hz=> ?_⟩⟩
 have h1:=s1 _ _ h0
 have nrd:r≠d:=ne_of hr1 h1 (fun z=>nomatch z)
 have hlen:its.length<=1024:=by
  have:its.length=2^n.toNat:=by rw[<-jG,<-hm,aG]
  rw[this]
  exact U8 (n:=2) (by decide) (show n.toNat<=10 by have:=hA.h1;omega)
 refine for_list (K:=K) (a:=r) (xs:=its.map fun p=>V.ref p.1) (fun i σ H'=>Same H H'/\H' r=some (.lst (its.map fun p=>V.ref p.1))/\KnS H' its/\H' d=some (.dT (pL (fJ ts) ((cH n.toNat).take i)))/\∃o,σ=[some (.ref a),some (.ref d),o])
  ⟨s0.trans s1,hr1,hT,h1,_,rfl⟩ (fun i σ H' _ p=>SqL.of p.2.1) (fun i x σ H' hx p=> ?_) (fun σ H' p=> ?_)
 ·obtain⟨sm,hr2,hT2,hd2,o,rfl⟩:=p
  rw[c7]at hx
  cases ex:its[i]? with
  |none=>rw[ex]at hx;cases hx
  |some v=>
   rw[ex]at hx
   cases hx
   have mv:=lX ex
   have es:(cH n.toNat)[i]? =some v.2:=by rw[<-hm,c7,ex];rfl
   have lv:v.2.length<=10:=by
    have:=nG n.toNat v.2 (lX es)
    have:=hA.h1
    omega
   have nv:v.2∉(cH n.toNat).take i:=fun z=>by
    obtain⟨j,hj,ej⟩:=zR z
    rw[wI]at hj
    rw[List.getElem_take]at ej
    have h2:=qy.mp es
    obtain⟨hi,ei⟩:=h2
    have:=Qm.mp (lG n.toNat) j i (by omega) hi (by omega)
    exact this (ej.trans ei.symm)
   refine⟨_,rfl,_,rfl,_,rfl,a,d,v.1,n,ts,v.2,_,fJ ts,rfl,hA.web.same sm,hd2,SqT.of (hT2 v mv),lv,fun hx p hp=> ?_,fun H3 s3=> ?_⟩
   ·rw[jm,au]
    obtain⟨y,yr,ey⟩:∃y yr,v.2=y::yr:=by
     cases hv:v.2 with
     |nil=>exact absurd hv hx
     |cons y yr=>exact⟨y,yr,rfl⟩
    rw[ey]at hp es⊢
    exact oR n.toNat i _ _ es (kW _ _) (HJ (jE hp).2)
   ·rw[<-flo_eq]
    refine⟨_,rfl,_,rfl,d,_,rfl,DPut.t (k:=v.2.map Sum.inl) (s3 _ _ hd2) (by rw[keyV];exact s3 _ _ (hT2 v mv)) ?_,?_⟩
    ·rw[Jc,wI,jG,fM]
     have:2^n.toNat<=1024:=U8 (n:=2) (by decide) (show n.toNat<=10 by have:=hA.h1;omega)
     omega
    ·rw[Jb nv]
     have xd:aq d H3 (upd H3 d (.dT (pL (fJ ts) ((cH n.toNat).take i++[v.2])))):=(aq.refl _ _).upd
     refine⟨Same.over (sm.trans s3) hd xd,xd _ _ nrd (s3 _ _ hr2),fun p hp=>xd _ _ (ne_of (s3 _ _ (hT2 p hp)) (s3 _ _ hd2) (fun z=>nomatch z)) (s3 _ _ (hT2 p hp)),?_,_,rfl⟩
     rw[aJ,wW,es];rfl
 ·obtain⟨sm,hr2,hT2,hd2,o,rfl⟩:=p
  have e:(cH n.toNat).take (its.map fun p=>V.ref p.1).length=cH n.toNat:=by
   rw[aG,show its.length=(cH n.toNat).length by rw[<-hm,aG],uI]
  rw[e]at hd2
  exact⟨_,rfl,q d H' sm hd2 hd⟩
def Iu(K:W.Frag)(T:Addr):Sp:=fun vs H Q _=>∃(a d b:Addr) (n:Int) (ts:List (Int×Int)) (xs:List Int) (kvs:List (List Key×V)) (g:List Int->Int),vs=[.ref a,.ref d,.ref b]/\iY K H a n ts/\H d=some (.dT kvs)/\SqT K H b (xs.map V.int)/\xs≠[]/\xs.length<=10/\
 (∀p∈fparts ts xs,valV kvs ((wo xs p).map Sum.inl)=some (.int (g (wo xs p))))/\v9 H T/\∀r p H',aq T H H'->v9 H' T->SqT K H' r (p.map V.int)->p∈fparts ts xs->(∀q∈fparts ts xs,g (wo xs p)<=g (wo xs q))->Q (.ref r) H'
theorem Nu:FnScope ["web","floors","some"] ["web","floors","some"] (defScope Mx):=fsc
theorem Oh{f f1 f2 c T:Addr}{fd d1 d2:FuncData}(F:Fun K "best_part" "best_part" Mx f fd)(hcd:fd.code= .ref c)(LB:zB base mg c T)(D1:bY K mg "first_parts" V3 ["web","some"] f1 d1)(G1:FnOk P w K mg base CX0 3 f1 d1 ["web","some"] (qJ K))(D2:bY K mg "without" fQ ["some","part"] f2 d2)(G2':FnOk P w K mg base CX0 1 f2 d2 ["some","part"] (ig K))(pH:mg "min"=none):
  FnOk P w K mg base CX0 5 f fd ["web","floors","some"] (Iu K T):=by
 have G2:FnOk P w K mg base CX0 2 f2 d2 ["some","part"] (ig K):=G2'.mono (by decide)
 refine F.okC hcd Nu (fun vs H Q E h=> ?_) (fun A outer s H vs Q E hr h=> ?_)
 ·obtain⟨a,d,b,n,ts,xs,kvs,g,rfl,_⟩:=h
  rfl
 obtain⟨a,d,b,n,ts,xs,kvs,g,rfl,hW,hD,hB,hx,hlen,hv,hL,q⟩:=h
 refine⟨_,(bw (cI (Fx (k:=2) (y:="part") (caps:=["floors","some"]) (ix:=[1,2]) LB rfl rfl hr rfl pH (aj (pc G1 hr D1 (aj (pv 0) (aj (pv 2) aA))) aA)
   (.cons rfl rfl (.cons rfl rfl .nil)) (fun _ _ _ _ hl=>pe_dget (hu_of hl) (pv 1) (pe_call G2 hl rfl D2.m D2.F.kp D2.b .nil pass0 (aj (pv 2) (aj (pv 0) aA))) (fun _ _=>rfl))))),?_⟩
 refine⟨_,rfl,_,rfl,a,b,n,ts,xs,rfl,hW,hB,hlen,fun r its H1 s1 hr1 hT hm hr0=> ?_⟩
 have hL1:=hL.same s1
 obtain⟨tb,ht⟩:=hL1.at
 have hne:its≠[]:=fun z=>BL (cC ts) xs (by rw[<-show its.map (·.2)=VL (cC ts) xs from hm,z];rfl)
 refine⟨r,its,rfl,SqL.of hr1,hne,hL1,fun j=>g (wo xs (its.getD j (0,[])).2),fun _ H'=>aq T H1 H'/\v9 H' T,fun H2 e l=>⟨e,l⟩,fun j H' e=>aam e.1 ht (SqL.of hr1),fun j p H' hp e=> ?_,fun i p H' hp hb e=> ?_⟩
 ·have mp:=lX hp
  have mf:p.2∈fparts ts xs:=by rw[<-hm];exact Wa mp
  have ed:its.getD j (0,[])=p:=by rw[kO,hp];rfl
  refine⟨_,rfl,_,rfl,_,rfl,b,p.1,xs,p.2,rfl,zY e.1 ht (s1.tup hB),zY e.1 ht (hT p mp),fun rr H2 s2 h2=> ?_⟩
  have hd2:=e.1 _ _ (iG ht (s1 _ _ hD) fun _ z=>nomatch z) (s1 _ _ hD)
  have G:=DGet.t (k:=(wo xs p.2).map Sum.inl) (s2 _ _ hd2) (by rw[keyV];exact h2)
  rw[hv _ mf]at G
  refine⟨d,_,rfl,G,(by show V.int _=V.int (g (wo xs (its.getD j (0,[])).2));rw[ed]),fun c o n e'=>s2 _ _ (e.1 c o n e'),e.2.same s2⟩
 ·have mp:=lX hp
  have ed:its.getD i (0,[])=p:=by rw[kO,hp];rfl
  refine q p.1 p.2 H' (fun c o n e'=>e.1 c o n (s1 _ _ e')) e.2 (zY e.1 ht (hT p mp)) (by rw[<-hm];exact Wa mp) fun z hz=> ?_
  rw[<-hm]at hz
  obtain⟨y,hy,rfl⟩:=j8.mp hz
  obtain⟨j,hj,ej⟩:=zR hy
  have:=(hb j hj).1
  have ey:its.getD j (0,[])=y:=by rw[kO,gn hj,ej];rfl
  dsimp only at this
  rw[ed,ey]at this
  exact this
def QJ(K:W.Frag)(T:Addr):Sp:=fun vs H Q _=>∃(a d:Addr) (n:Int) (ts:List (Int×Int)),vs=[.ref a,.ref d]/\bH K H a n ts/\H d=some (.dT (pL (fJ ts) (cH n.toNat)))/\v9 H T/\
 ∀r hs H',aq T H H'->v9 H' T->H' r=some (.tup (hs.map V.int))->lJ ts n.toNat (fJ ts (fZ n.toNat)) hs->Q (.ref r) H'
theorem Ja{hs:List Int}{i:Nat}{x:Int}:(hs.map V.int).set i (.int x)=(hs.set i x).map V.int:=by rw[ZQ]
theorem jr:FnScope ["web","floors","hues","left","hue","part","place"] ["web","floors"] (defScope Zm):=fsc
theorem Tp{f f1 f2 T:Addr}{fd d1 d2:FuncData}(F:Fun K "hues_by_floors" "hues_by_floors" Zm f fd)(D1:bY K mg "best_part" Mx ["web","floors","some"] f1 d1)(G1:FnOk P w K mg base CX0 5 f1 d1 ["web","floors","some"] (Iu K T))(D2:bY K mg "without" fQ ["some","part"] f2 d2)(G2:FnOk P w K mg base CX0 1 f2 d2 ["some","part"] (ig K))(aU:mg "tuple"=none)(aD:mg "range"=none):
  FnOk P w K mg base CX0 6 f fd ["web","floors"] (QJ K T):=by
 refine F.ok jr (fun vs H Q E h=> ?_) (fun cdv A outer s H vs Q E hr h=> ?_)
 ·obtain⟨a,d,n,ts,rfl,_⟩:=h
  rfl
 obtain⟨a,d,n,ts,rfl,hA,hD,hL,q⟩:=h
 refine⟨_,(aO (cW (i:=2) jr.nd rfl (Or.inl rfl) (bK op_rep (pe_lst (aj aK aA)) (bM gO (pv 0) aK (fun _ _=>rfl)))) (aO (cW (i:=3) jr.nd rfl (Or.inl rfl) (pF rfl rfl aU rfl aD (aj (bM gO (pv 0) aK (fun _ _=>rfl)) aA))) (aO (cW (i:=4) jr.nd rfl (Or.inl rfl) aK) (aO (ps_while sG (pt_truth (pv 3) (fun _=>rfl)) (aO (cW (i:=5) jr.nd rfl (Or.inl rfl) (pc G1 hr D1 (aj (pv 0) (aj (pv 1) (aj (pv 3) aA))))) (aO (uH sG rfl (Eo (pv 5)) (cZ (i:=6) jr.nd rfl (Or.inl rfl)) (bw (ps_asg (pv 4) (pg_sub (pv 2) (pv 6) set_list)))) (aO (cW (i:=3) jr.nd rfl (Or.inl rfl) (pc G2 hr D2 (aj (pv 3) (aj (pv 5) aA)))) (bw (ps_aug (i:=4) jr.nd rfl (Or.inl rfl) aK ip_add)))))) (bw (cI (Hx Qc rfl aU (by decide+kernel) (aj (pv 2) aA)))))))),?_⟩
 obtain⟨t,rs,w1,w2,w3⟩:=id hA.web
 have hn0:=hA.h0
 have hn1:=hA.h1
 refine⟨(by show 1<=sizeLine;decide),fun l0 hl0=> ?_⟩
 have s0:=aY hl0 (.lst [.int 0])
 refine⟨_,rfl,a,_,_,.int n,rfl,rfl,s0.tup w1,rfl,l0,n,_,rfl,rfl,aJ,by omega,by omega,by rw[fM];show 1*n.toNat<=_;omega,fun l hl=> ?_⟩
 have s1:=s0.trans (aY hl (.lst (List.replicate n.toNat [V.int 0]).flatten))
 have e0:(List.replicate n.toNat [V.int 0]).flatten=(List.replicate n.toNat 0).map V.int:=by
  rw[List.map_replicate]
  induction n.toNat with
  |zero=>rfl
  |succ k ih=>rw[HB,Qi,ih,HB];rfl
 have hl1:(upd (upd H l0 (.lst [.int 0])) l (.lst (List.replicate n.toNat [V.int 0]).flatten)) l=some (.lst ((List.replicate n.toNat (0:Int)).map V.int)):=by rw[aJ,e0]
 have l00:H l=none:=s0.free hl
 dsimp only at s1 hl1⊢
 generalize upd (upd H l0 (.lst [.int 0])) l (.lst (List.replicate n.toNat [V.int 0]).flatten)=H1 at *
 refine⟨_,rfl,a,_,_,.int n,rfl,rfl,s1.tup w1,rfl,n,rfl,hn0,by omega,fun lf hlf=> ?_⟩
 have s2:=aY hlf (.tup (cR n.toNat))
 have X7:(upd H1 lf (.tup (cR n.toNat))) lf=some (.tup ((fZ n.toNat).map V.int)):=by rw[aJ,w6]
 have hl2:=s2 _ _ hl1
 have s12:=s1.trans s2
 dsimp only at s12 X7 hl2⊢
 generalize upd H1 lf (.tup (cR n.toNat))=H2 at *
 refine⟨fun m σ H'=>∃(xs hs:List Int) (h:Int) (b:Addr) (o5 o6:Option V),m=xs.length/\σ=[some (.ref a),some (.ref d),some (.ref l),some (.ref b),some (.int h),o5,o6]/\aq T H H'/\v9 H' T/\H' l=some (.lst (hs.map V.int))/\SqT K H' b (xs.map V.int)/\tE ts n.toNat (fJ ts (fZ n.toNat)) xs h hs,
  ⟨_,fZ n.toNat,_,0,lf,_,_,rfl,rfl,s12.x T,hL.same s12,hl2,SqT.of X7,tE.start ts n.toNat⟩,?_⟩
 rintro m σ H' ⟨xs,hs,h,b,o5,o6,rfl,rfl,sx,hLm,hl3,hB,HI⟩
 refine⟨_,rfl,!((xs.map V.int).isEmpty),.inr (.inl ⟨_,hB,rfl⟩),?_⟩
 obtain⟨tb0,ht0⟩:=hL.at
 obtain⟨tb,ht⟩:=hLm.at
 have Tw:l≠T:=iG ht hl3 fun _ z=>nomatch z
 refine ite2 (fun c=> ?_) (fun c=> ?_)
 ·have hx:xs≠[]:=fun e=>by subst e;exact absurd c (by decide)
  have xl:xs.length<=10:=by
   have:=HI.sub.length_le
   rw[DP]at this
   omega
  have hA':=hA.tbl sx ht0
  have hD':=sx _ _ (iG ht0 hD fun _ z=>nomatch z) hD
  refine⟨fun σ' uF=>∃m',m'<xs.length/\∃(xs hs:List Int) (h:Int) (b:Addr) (o5 o6:Option V),m'=xs.length/\σ'=[some (.ref a),some (.ref d),some (.ref l),some (.ref b),some (.int h),o5,o6]/\aq T H uF/\v9 uF T/\uF l=some (.lst (hs.map V.int))/\SqT K uF b (xs.map V.int)/\tE ts n.toNat (fJ ts (fZ n.toNat)) xs h hs,fun σ' uF z=>z,?_⟩
  refine⟨_,rfl,_,rfl,_,rfl,a,d,b,n,ts,xs,_,fJ ts,rfl,hA'.web,hD',hB,hx,xl,fun p hp=> ?_,hLm,fun r p H3 s3 VF hr hp hb=> ?_⟩
  ·rw[jm,au ((eE _ _).mpr ((kW _ _).trans HI.sub))]
  ·have T6:=s3 _ _ Tw hl3
   have hB3:=zY s3 ht hB
   have pin:∀z∈p,0<=z/\z<(n.toNat:Int):=fun z hz=>by
    obtain⟨y,yr,rfl⟩:∃y yr,xs=y::yr:=by
     cases xs with
     |nil=>exact absurd rfl hx
     |cons y yr=>exact⟨y,yr,rfl⟩
    exact gK.mp (HI.sub.subset ((jE hp).1.subset hz))
   refine⟨_,rfl,r,_,rfl,hr,fun hz=> ?_⟩
   refine for_tup (K:=K) (a:=r) (xs:=p.map V.int) (fun i σ H'=>∃o6,σ=[some (.ref a),some (.ref d),some (.ref l),some (.ref b),some (.int h),some (.ref r),o6]/\aq l H3 H'/\H' l=some (.lst ((uV hs (p.take i) h).map V.int)))
    ⟨_,rfl,aq.refl _ _,T6⟩ (fun i σ H' _ z=> ?_) (fun i x σ H4 TY z=> ?_) (fun σ H4 z=> ?_)
   ·obtain⟨_,_,z,_⟩:=z
    exact z.tup T6 hr
   ·obtain⟨o6,rfl,x4,h4⟩:=z
    rw[c7]at TY
    cases ex:p[i]? with
    |none=>rw[ex]at TY;cases TY
    |some y=>
     rw[ex]at TY
     cases TY
     have hy:=pin y (lX ex)
     refine⟨_,rfl,_,rfl,_,rfl,l,_,y,y.toNat,rfl,rfl,h4,?_,_,rfl,x4.upd,?_⟩
     ·unfold ixN
      rw[au hy.1,au (by rw[aG,qM,HI.len];omega)]
     ·rw[aJ,Ja,wW,ex]
      unfold uV
      rw[List.foldl_append];rfl
   ·obtain⟨o6,rfl,x4,h4⟩:=z
    rw[aG,uI]at h4
    refine⟨_,rfl,_,rfl,b,r,xs,p,rfl,x4.tup T6 hB3,x4.tup T6 hr,fun b2 H5 s5 h5=> ?_⟩
    refine⟨_,rfl,_,_,rfl,rfl,?_⟩
    have xl2:aq l H3 H5:=x4.trans (s5.x l)
    have Pa:=(VF.mD x4 T6).same s5
    refine⟨_,?_,wo xs p,uV hs p h,h+1,b2,_,_,rfl,rfl,fun c o nc e=> ?_,Pa,s5 _ _ h4,SqT.of h5,HI.step (by rw[show((n.toNat:Nat):Int)=n by omega];exact hA.pk) hx hp hb⟩
    ·obtain⟨y,yr,rfl⟩:∃y yr,xs=y::yr:=by
      cases xs with
      |nil=>exact absurd rfl hx
      |cons y yr=>exact⟨y,yr,rfl⟩
     exact Wg (jE hp).2
    ·exact xl2 _ _ (fun z=>by rw[z,l00]at e;cases e) (s3 _ _ nc (sx _ _ nc e))
 ·have hx:xs=[]:=by
   cases xs with
   |nil=>rfl
   |cons y yr=>exact absurd rfl c
  subst hx
  refine⟨_,rfl,l,_,rfl,.inl ⟨SqL.of hl3,fun r hr=> ?_⟩⟩
  exact q r hs _ (sx.trans ((aY hr _).x T)) (hLm.same (aY hr _)) aJ HI.done
def Ip(K:W.Frag)(T:Addr):Sp:=fun vs H Q _=>∃(a:Addr) (n:Int) (ts:List (Int×Int)),vs=[.ref a]/\bH K H a n ts/\v9 H T/\
 ∀r h d hs H',aq T H H'->v9 H' T->H' r=some (.tup [.int (fJ ts (fZ n.toNat)),.ref h,.ref d])->H' h=some (.tup (hs.map V.int))->lJ ts n.toNat (fJ ts (fZ n.toNat)) hs->H' d=some (.dT (pL (fJ ts) (cH n.toNat)))->H d=none->Q (.ref r) H'
theorem Jo:FnScope ["web","floors"] ["web"] (defScope jt):=fsc
theorem Tj{f f1 f2 f3 T:Addr}{fd d1 d2 d3:FuncData}(F:Fun K "fewest" "fewest" jt f fd)(D1:bY K mg "need_web" Mf ["thing"] f1 d1)(G1:FnOk P w K mg base CX0 7 f1 d1 ["thing"] (cF K))(D2:bY K mg "highest_floors" Zk ["web"] f2 d2)(G2:FnOk P w K mg base CX0 5 f2 d2 ["web"] (Dt K))(D3:bY K mg "hues_by_floors" Zm ["web","floors"] f3 d3)(G3:FnOk P w K mg base CX0 6 f3 d3 ["web","floors"] (QJ K T))(aU:mg "tuple"=none)(aD:mg "range"=none):
  FnOk P w K mg base CX0 8 f fd ["web"] (Ip K T):=by
 refine F.ok Jo (fun vs H Q E h=> ?_) (fun cdv A outer s H vs Q E hr h=> ?_)
 ·obtain⟨a,n,ts,rfl,_⟩:=h
  rfl
 obtain⟨a,n,ts,rfl,hA,hL,q⟩:=h
 refine⟨_,(aO (tH (pc G1 hr D1 (aj (pv 0) aA))) (aO (cW (i:=1) Jo.nd rfl (Or.inl rfl) (pc G2 hr D2 (aj (pv 0) aA))) (bw (cI (pY (aj (pe_dget (hu_of hr) (pv 1) (pF rfl rfl aU rfl aD (aj (bM gO (pv 0) aK (fun _ _=>rfl)) aA)) (fun _ _=>rfl)) (aj (pc G3 hr D3 (aj (pv 0) (aj (pv 1) aA))) (aj (pv 1) aA)))))))),?_⟩
 refine⟨_,rfl,_,uK n ts,rfl,hA.web.dv.dx,hA.ok,fun H0 s0=> ?_⟩
 refine⟨_,rfl,a,n,ts,rfl,hA.same s0,fun d H1 s1 hd1 hd0=> ?_⟩
 have s01:=s0.trans s1
 obtain⟨t,rs,w1,w2,w3⟩:=id (hA.web.same s01)
 have hn0:=hA.h0
 have hn1:=hA.h1
 refine⟨_,rfl,_,rfl,a,_,_,.int n,rfl,rfl,w1,rfl,n,rfl,hn0,by omega,fun l hl=> ?_⟩
 have s2:=aY hl (.tup (cR n.toNat))
 have hl2:(upd H1 l (.tup (cR n.toNat))) l=some (.tup ((fZ n.toNat).map V.int)):=by rw[aJ,w6]
 have Js:=s01.trans s2
 have hd2:=s2 _ _ hd1
 dsimp only at Js hl2 hd2⊢
 generalize upd H1 l (.tup (cR n.toNat))=H2 at *
 have G:=DGet.t (k:=(fZ n.toNat).map Sum.inl) hd2 (by rw[keyV];exact hl2)
 rw[jm,au ((eE _ _).mpr (Vl _))]at G
 refine⟨d,_,rfl,G,_,rfl,_,rfl,a,d,n,ts,rfl,hA.same Js,hd2,hL.same Js,fun h hs H3 s3 VF hh HO=> ?_⟩
 obtain⟨tb,ht⟩:=(hL.same Js).at
 have hd3:=s3 _ _ (iG ht hd2 fun _ z=>nomatch z) hd2
 refine⟨_,rfl,(by show 3<=sizeLine;decide),fun r hr=> ?_⟩
 have s4:=aY hr (.tup [.int (fJ ts (fZ n.toNat)),.ref h,.ref d])
 exact q r h d hs _ (((Js.x T).trans s3).trans (s4.x T)) (VF.same s4) aJ (s4 _ _ hh) HO (s4 _ _ hd3) (s0.free hd0)
def Ac(K:W.Frag):Sp:=fun vs H Q _=>∃(tp:Addr) (t m:Int),vs=[.ref tp,.int m]/\H tp=some (.lst [.int t])/\0<=m/\m<=10/\
 ∀r n ts H' t',aq tp H H'->H' tp=some (.lst [.int t'])->bH K H' r n ts->n<=m->Q (.ref r) H'
theorem JF{c:Bool}{u:TT}{σ:St}{H:Hp}{Q:Bool->Hp->Prop}(hQ:∀b,Q b H)(hu:(∀b,Q b H)->u σ H Q):if c=true then Q true H else u σ H Q:=by
 by_cases h:c=true
 ·rw[au h];exact hQ true
 ·rw[ao h];exact hu hQ
theorem jP:FnScope ["tape","most","n","often","ties","i","j"] ["tape","most"] (defScope fY):=fsc
theorem Oi{f f1:Addr}{fd d1:FuncData}(F:Fun K "_law_aweb" "_law_aweb" fY f fd)(D1:bY K mg "_law_adigit" UJ ["tape","many"] f1 d1)(G1:FnOk P w K mg base CX0 1 f1 d1 ["tape","many"] (xK K))(aD:mg "range"=none)(aU:mg "tuple"=none):
  FnOk P w K mg base CX0 2 f fd ["tape","most"] (Ac K):=by
 refine F.ok jP (fun vs H Q E h=> ?_) (fun cdv A outer s H vs Q E hr h=> ?_)
 ·obtain⟨tp,t,m,rfl,_⟩:=h
  rfl
 obtain⟨tp,t,m,rfl,hT,hm0,hm1,q⟩:=h
 refine⟨_,(aO (cW (i:=2) jP.nd rfl (Or.inl rfl) (pc G1 hr D1 (aj (pv 0) (aj (bK su (pv 1) aK) aA)))) (aO (cW (i:=3) jP.nd rfl (Or.inl rfl) (bK su aK (pc G1 hr D1 (aj (pv 0) (aj aK aA))))) (aO (cW (i:=4) jP.nd rfl (Or.inl rfl) (pe_lst aA)) (aO (uH sG rfl (CT rfl aD (aj (pv 2) aA)) (cZ (i:=5) jP.nd rfl (Or.inl rfl)) (bw (uH sG rfl (pi_range2 rfl aD (aj (bK su (pv 5) aK) (aj (pv 2) aA))) (cZ (i:=6) jP.nd rfl (Or.inl rfl)) (bw (lR (gZ op_lt (pc G1 hr D1 (aj (pv 0) (aj aK aA))) (pv 3) (nomark _)) (bw (tH (pe_bm M7 wcd wce mt_append (pv 4) (aj (pY (aj (pv 5) (aj (pv 6) aA))) aA)))) lU))))) (bw (cI (pY (aj (pv 2) (aj (Hx Qc rfl aU (by decide+kernel) (aj (pv 4) aA)) aA))))))))),?_⟩
 refine⟨_,rfl,_,rfl,_,_,rfl,rfl,tp,t,m+1,rfl,hT,by omega,by omega,fun n t1 hn0 hn1'=> ?_⟩
 have hn1:n<=10:=by omega
 refine⟨_,rfl,tp,t1,5,rfl,aJ,by decide,by decide,fun o t2 ho0 ho1=>⟨_,_,rfl,rfl,?_⟩⟩
 refine⟨(by show 0<=sizeLine;decide),fun tl htl=> ?_⟩
 have Tq:tl≠tp:=yp (aJ (H:=upd H tp (.lst [.int t1])) (a:=tp) (o:= .lst [.int t2])) htl
 have s2:=aY htl (.lst [])
 have tl0:H tl=none:=by
  have z:∀t1 t2:Int,upd (upd H tp (.lst [.int t1])) tp (.lst [.int t2])=upd H tp (.lst [.int t2]):=fun _ _=>upd_upd
  rw[z,cu Tq]at htl
  exact htl
 refine⟨_,rfl,n,rfl,by omega,by omega,?_⟩
 refine CQ (n:=n.toNat) (fun i σ H'=>aq tp H H'/\(∃t',H' tp=some (.lst [.int t']))/\dH K H' tl (rows tt n i) (fun _=>True)/\∃a4 a5,σ=[some (.ref tp),some (.int m),some (.int n),some (.int (1+o)),some (.ref tl),a4,a5])
  ⟨((aq.refl tp H).upd.upd).trans (s2.x _),⟨_,s2 _ _ aJ⟩,dH.nil aJ,_,_,rfl⟩ (fun i σ H' hi p=> ?_) (fun σ H' p=> ?_)
 ·obtain⟨x,⟨t0,c⟩,tl1,a4,a5,rfl⟩:=p
  refine⟨_,rfl,_,_,rfl,rfl,_,rfl,_,_,rfl,⟨by omega,by omega,by omega,by omega⟩,?_⟩
  refine CQ (n:=(n-(0+(i:Int)+1)).toNat) (fun k σ H'=>aq tp H H'/\(∃t',H' tp=some (.lst [.int t']))/\dH K H' tl (rows tt n i++row tt (0+(i:Int)) k) (fun _=>True)/\∃a5,σ=[some (.ref tp),some (.int m),some (.int n),some (.int (1+o)),some (.ref tl),some (.int (0+(i:Int))),a5])
   ⟨x,⟨_,c⟩,by rw[show row tt (0+(i:Int)) 0=[]from rfl,sE];exact tl1,_,rfl⟩ (fun k σ H' hk p=> ?_) (fun σ H' p=> ?_)
  ·obtain⟨x,⟨t0,c⟩,tl1,a5,rfl⟩:=p
   refine⟨_,rfl,tp,t0,6,rfl,c,by decide,by decide,fun d t2 hd0 hd1=>⟨_,rfl,_,_,rfl,rfl,_,rfl,?_⟩⟩
   have x2:aq tp H' (upd H' tp (.lst [.int t2])):=(aq.refl _ _).upd
   have c2:(upd H' tp (.lst [.int t2])) tp=some (.lst [.int t2]):=aJ
   have WR:=tl1.step x2 c Tq
   have er:rows tt n i++row tt (0+(i:Int)) (k+1)=(rows tt n i++row tt (0+(i:Int)) k)++[(0+(i:Int),0+(i:Int)+1+(k:Int))]:=by rw[mX,au (show tt _ _=true from rfl),MK]
   rw[er]
   generalize upd H' tp (.lst [.int t2])=H2 at *
   refine ite2 (fun cc=> ?_) (fun cc=> ?_)
   ·obtain⟨rs,ts,h1,h2,h3,h4⟩:=WR
    have hl:=sub_len hn1 (by omega) h3
    have hrl:=h2.len
    rw[aG]at hrl
    refine⟨_,rfl,.inl ⟨rfl,_,SqL.of h1⟩,_,rfl,_,rfl,(by show 2<=sizeLine;decide),fun p hp=> ?_⟩
    have s3:=aY hp (.tup [.int (0+(i:Int)),.int (0+(i:Int)+1+(k:Int))])
    refine⟨tl,rs,_,rfl,rfl,s3 _ _ h1,(by rw[fM];omega),?_⟩
    have xw:aq tl (upd H2 p (.tup [.int (0+(i:Int)),.int (0+(i:Int)+1+(k:Int))])) (upd (upd H2 p (.tup [.int (0+(i:Int)),.int (0+(i:Int)+1+(k:Int))])) tl (.lst (rs++[.ref p]))):=(aq.refl _ _).upd
    refine⟨fun q o hq e=> ?_,⟨t2,xw _ _ Tq.symm (s3 _ _ c2)⟩,dH.push (s3 _ _ h1) (h2.same s3) h3 h4 (SqT.of aJ) trivial,_,rfl⟩
    have nq:q≠tl:=fun z=>by rw[z,tl0]at e;cases e
    exact xw _ _ nq (s3 _ _ (x2 _ _ hq (x _ _ hq e)))
   ·exact⟨x.trans x2,⟨_,c2⟩,WR.mono (wcx _ _),_,rfl⟩
  ·obtain⟨x,c,tl1,a5,rfl⟩:=p
   rw[<-fV]at tl1
   exact⟨x,c,tl1,_,_,rfl⟩
 ·obtain⟨x,⟨t0,c⟩,⟨rs,ts,h1,h2,h3,h4⟩,a4,a5,rfl⟩:=p
  refine⟨_,rfl,_,rfl,tl,rs,rfl,.inl ⟨SqL.of h1,fun t ht=>⟨(by show 2<=sizeLine;decide),fun wb T3=> ?_⟩⟩⟩
  have s3:=aY ht (.tup rs)
  have s4:=aY T3 (.tup [.int n,.ref t])
  have DN:=s3.trans s4
  obtain⟨g1,g2⟩:=iD hn0 hn1 h3
  exact q wb n ts _ t0 (x.trans (DN.x _)) (DN _ _ c) ⟨⟨t,rs,SqT.of aJ,SqT.of (s4 _ _ aJ),h2.same DN⟩,hn0,hn1,g1,g2⟩ (by omega)
def xM(K:W.Frag):Sp:=fun vs H Q _=>∃(gq tp:Addr) (ns:List Int) (st t:Int),vs=[.ref gq,.int st,.ref tp]/\j5 K H gq ns/\H tp=some (.lst [.int t])/\
 ∀r n ts H' t',aq tp H H'->H' tp=some (.lst [.int t'])->bH K H' r n ts->Q (.ref r) H'
theorem fO:FnScope ["script","start","tape","n","often","ties","i","j"] ["script","start","tape"] (defScope dU):=fsc
theorem Gg{f f1 f2 f3:Addr}{fd d1 d2 d3:FuncData}(F:Fun K "_law_aweb_of" "_law_aweb_of" dU f fd)(D1:bY K mg "_law_acell" UG ["script","k"] f1 d1)(G1:FnOk P w K mg base CX0 1 f1 d1 ["script","k"] (uO K))(D2:bY K mg "_law_aweb" fY ["tape","most"] f2 d2)(G2:FnOk P w K mg base CX0 2 f2 d2 ["tape","most"] (Ac K))(D3:bY K mg "_law_adigit" UJ ["tape","many"] f3 d3)(G3:FnOk P w K mg base CX0 1 f3 d3 ["tape","many"] (xK K))(aD:mg "range"=none)(aU:mg "tuple"=none):
  FnOk P w K mg base CX0 3 f fd ["script","start","tape"] (xM K):=by
 refine F.ok fO (fun vs H Q E h=> ?_) (fun cdv A outer s H vs Q E hr h=> ?_)
 ·obtain⟨gq,tp,ns,st,t,rfl,_⟩:=h
  rfl
 obtain⟨gq,tp,ns,st,t,rfl,hS,hT,q⟩:=h
 refine⟨_,(aO (lR (PW.pt (pw_or (gZ op_gt (pv 1) aK (nomark _)) (pw_or1 (gZ op_ne (bK op_mod (bK op_fdiv (pc G1 hr D1 (aj (pv 0) (aj aK aA))) aK) aK) aK (nomark _))))) (bw (cI (pc G2 hr D2 (aj (pv 2) (aj aK aA))))) lU) (aO (cW (i:=3) fO.nd rfl (Or.inl rfl) (bK su aK (pc G3 hr D3 (aj (pv 2) (aj aK aA))))) (aO (cW (i:=4) fO.nd rfl (Or.inl rfl) (bK su aK (pc G3 hr D3 (aj (pv 2) (aj aK aA))))) (aO (cW (i:=5) fO.nd rfl (Or.inl rfl) (pe_lst aA)) (aO (uH sG rfl (CT rfl aD (aj (pv 3) aA)) (cZ (i:=6) fO.nd rfl (Or.inl rfl)) (bw (uH sG rfl (pi_range2 rfl aD (aj (bK su (pv 6) aK) (aj (pv 3) aA))) (cZ (i:=7) fO.nd rfl (Or.inl rfl)) (bw (lR (PW.pt (pw_or (gZ op_lt (pc G3 hr D3 (aj (pv 2) (aj aK aA))) (pv 4) (nomark _)) (pw_or1 (gZ op_eq (pv 7) (bK su (pv 6) aK) (nomark _))))) (bw (tH (pe_bm M7 wcd wce mt_append (pv 5) (aj (pY (aj (pv 6) (aj (pv 7) aA))) aA)))) lU))))) (bw (cI (pY (aj (pv 3) (aj (Hx Qc rfl aU (by decide+kernel) (aj (pv 5) aA)) aA)))))))))),?_⟩
 refine⟨_,rfl,_,_,rfl,rfl,_,rfl,?_⟩
 refine JF (fun b=> ?_) (fun hQ=> ?_)
 rotate_left
 ·refine⟨_,rfl,gq,ns,7,rfl,hS,by decide,fun c=> ?_⟩
  exact⟨_,_,rfl,rfl,⟨by decide,by decide⟩,_,_,rfl,rfl,(by show(0:Int)<8;decide),rfl,_,rfl,hQ _⟩
 refine ite2 (fun c=> ?_) (fun c=> ?_)
 ·exact⟨_,rfl,tp,t,7,rfl,hT,by decide,by decide,fun r n ts H' t' x h1 h2 _=>q r n ts H' t' x h1 h2⟩
 refine⟨_,rfl,tp,t,3,rfl,hT,by decide,by decide,fun n' t1 hn0' hn1'=>⟨_,_,rfl,rfl,?_⟩⟩
 obtain⟨n,en,hn0,hn1⟩:∃n:Int,8+n'=n/\0<=n/\n<=10:=⟨_,rfl,by omega,by omega⟩
 refine⟨_,rfl,tp,t1,3,rfl,aJ,by decide,by decide,fun o t2 ho0 ho1=>⟨_,_,rfl,rfl,?_⟩⟩
 refine⟨(by show 0<=sizeLine;decide),fun tl htl=> ?_⟩
 have Tq:tl≠tp:=yp (aJ (H:=upd H tp (.lst [.int t1])) (a:=tp) (o:= .lst [.int t2])) htl
 show tSeq _ _ _ [some (.ref gq),some (.int st),some (.ref tp),some (.int (8+n')),some (.int (3+o)),some (.ref tl),none,none] _
 rw[en]
 have s2:=aY htl (.lst [])
 have tl0:H tl=none:=by
  have z:∀t1 t2:Int,upd (upd H tp (.lst [.int t1])) tp (.lst [.int t2])=upd H tp (.lst [.int t2]):=fun _ _=>upd_upd
  rw[z,cu Tq]at htl
  exact htl
 refine⟨_,rfl,n,rfl,by omega,by omega,?_⟩
 refine CQ (n:=n.toNat) (fun i σ H'=>aq tp H H'/\(∃t',H' tp=some (.lst [.int t']))/\dH K H' tl (rows tt n i) (fun _=>True)/\∃a4 a5,σ=[some (.ref gq),some (.int st),some (.ref tp),some (.int n),some (.int (3+o)),some (.ref tl),a4,a5])
  ⟨((aq.refl tp H).upd.upd).trans (s2.x _),⟨_,s2 _ _ aJ⟩,dH.nil aJ,_,_,rfl⟩ (fun i σ H' hi p=> ?_) (fun σ H' p=> ?_)
 ·obtain⟨x,⟨t0,c⟩,tl1,a4,a5,rfl⟩:=p
  refine⟨_,rfl,_,_,rfl,rfl,_,rfl,_,_,rfl,⟨by omega,by omega,by omega,by omega⟩,?_⟩
  refine CQ (n:=(n-(0+(i:Int)+1)).toNat) (fun k σ H'=>aq tp H H'/\(∃t',H' tp=some (.lst [.int t']))/\dH K H' tl (rows tt n i++row tt (0+(i:Int)) k) (fun _=>True)/\∃a5,σ=[some (.ref gq),some (.int st),some (.ref tp),some (.int n),some (.int (3+o)),some (.ref tl),some (.int (0+(i:Int))),a5])
   ⟨x,⟨_,c⟩,by rw[show row tt (0+(i:Int)) 0=[]from rfl,sE];exact tl1,_,rfl⟩ (fun k σ H' hk p=> ?_) (fun σ H' p=> ?_)
  ·obtain⟨x,⟨t0,c⟩,tl1,a5,rfl⟩:=p
   refine⟨_,rfl,tp,t0,6,rfl,c,by decide,by decide,fun d t2 hd0 hd1=>⟨_,rfl,_,_,rfl,rfl,_,rfl,?_⟩⟩
   have x2:aq tp H' (upd H' tp (.lst [.int t2])):=(aq.refl _ _).upd
   have c2:(upd H' tp (.lst [.int t2])) tp=some (.lst [.int t2]):=aJ
   have WR:=tl1.step x2 c Tq
   have er:rows tt n i++row tt (0+(i:Int)) (k+1)=(rows tt n i++row tt (0+(i:Int)) k)++[(0+(i:Int),0+(i:Int)+1+(k:Int))]:=by rw[mX,au (show tt _ _=true from rfl),MK]
   rw[er]
   generalize upd H' tp (.lst [.int t2])=H2 at *
   refine JF (fun b=> ?_) (fun hQ=> ?_)
   rotate_left
   ·exact⟨_,rfl,_,rfl,_,_,rfl,rfl,rfl,_,rfl,hQ _⟩
   refine ite2 (fun cc=> ?_) (fun cc=> ?_)
   ·obtain⟨rs,ts,h1,h2,h3,h4⟩:=WR
    have hl:=sub_len hn1 (by omega) h3
    have hrl:=h2.len
    rw[aG]at hrl
    refine⟨_,rfl,.inl ⟨rfl,_,SqL.of h1⟩,_,rfl,_,rfl,(by show 2<=sizeLine;decide),fun p hp=> ?_⟩
    have s3:=aY hp (.tup [.int (0+(i:Int)),.int (0+(i:Int)+1+(k:Int))])
    refine⟨tl,rs,_,rfl,rfl,s3 _ _ h1,(by rw[fM];omega),?_⟩
    have xw:aq tl (upd H2 p (.tup [.int (0+(i:Int)),.int (0+(i:Int)+1+(k:Int))])) (upd (upd H2 p (.tup [.int (0+(i:Int)),.int (0+(i:Int)+1+(k:Int))])) tl (.lst (rs++[.ref p]))):=(aq.refl _ _).upd
    refine⟨fun q o hq e=> ?_,⟨t2,xw _ _ Tq.symm (s3 _ _ c2)⟩,dH.push (s3 _ _ h1) (h2.same s3) h3 h4 (SqT.of aJ) trivial,_,rfl⟩
    have nq:q≠tl:=fun z=>by rw[z,tl0]at e;cases e
    exact xw _ _ nq (s3 _ _ (x2 _ _ hq (x _ _ hq e)))
   ·exact⟨x.trans x2,⟨_,c2⟩,WR.mono (wcx _ _),_,rfl⟩
  ·obtain⟨x,c,tl1,a5,rfl⟩:=p
   rw[<-fV]at tl1
   exact⟨x,c,tl1,_,_,rfl⟩
 ·obtain⟨x,⟨t0,c⟩,⟨rs,ts,h1,h2,h3,h4⟩,a4,a5,rfl⟩:=p
  refine⟨_,rfl,_,rfl,tl,rs,rfl,.inl ⟨SqL.of h1,fun t ht=>⟨(by show 2<=sizeLine;decide),fun wb T3=> ?_⟩⟩⟩
  have s3:=aY ht (.tup rs)
  have s4:=aY T3 (.tup [.int n,.ref t])
  have DN:=s3.trans s4
  obtain⟨g1,g2⟩:=iD hn0 hn1 h3
  exact q wb n ts _ t0 (x.trans (DN.x _)) (DN _ _ c) ⟨⟨t,rs,SqT.of aJ,SqT.of (s4 _ _ aJ),h2.same DN⟩,hn0,hn1,g1,g2⟩
end
end Hs
namespace L2
open PySem PySem.Spec PyProof.Rows
theorem Ux{n:Nat}(h:n<=10^200):n<2^700:=CW h (by decide+kernel)
section
variable{X:Cx}
theorem yc:OpR X (binaryOp .FloorDiv) (rI (fun _ j=>0<j/\j.natAbs<=10^200) fun i j=> .int (i/j)):=opI fun i j _ _ _ _ _ hc q=>by
 have h1:(0:Int)<j:=hc.1
 refine floordiv_int (by omega) ?_ (Or.inl (wfe ?_))
 ·rw[yee _ (by omega)]
  exact q
 ·have h3:j.natAbs≠0:=by omega
  have h4:=(Nat.log2_lt h3).mpr (Ux hc.2)
  omega
end
end L2
namespace Hs
open PySem L2 zO
theorem Ks(m n:Nat):Nat.gcd n (m %n)=Nat.gcd m n:=by
 rw[Nat.gcd_comm m n,Nat.gcd_rec n m,Nat.gcd_comm]
structure Low(a:Int)(b:Nat)(u:Int)(v:Nat):Prop where
 pos:0<v
 cop:Nat.gcd u.natAbs v=1
 eq:u*(b:Int)=a*(v:Int)
 lu:u.natAbs<=a.natAbs
 lv:v<=b
 nn:0<=a->0<=u
theorem J9(a:Int)(b:Nat)(hb:0<b):Low a b (a/((Nat.gcd a.natAbs b:Nat):Int)) (b/Nat.gcd a.natAbs b):=by
 have hg:0<Nat.gcd a.natAbs b:=wfj _ hb
 obtain⟨x,hx⟩:((Nat.gcd a.natAbs b:Nat):Int)∣a:=Int.natAbs_dvd_natAbs.mp (by rw[wet];exact Nat.gcd_dvd_left _ _)
 obtain⟨y,hy⟩:=Nat.gcd_dvd_right a.natAbs b
 generalize hgg:Nat.gcd a.natAbs b=g at *
 have e1:a/(g:Int)=x:=by rw[hx];exact wfh _ (by omega)
 have e2:b/g=y:=by rw[hy];exact Nat.mul_div_cancel_left _ hg
 rw[e1,e2]
 have hna:a.natAbs=g*x.natAbs:=by rw[hx,wgu];rfl
 have hy0:0<y:=by
  rcases weu y with h|h
  ·subst h;simp at hy;omega
  ·exact h
 refine⟨hy0,?_,?_,?_,?_,fun h=> ?_⟩
 ·have h2:Nat.gcd (g*x.natAbs) (g*y)=g:=by rw[<-hna,<-hy];exact hgg
  rw[Nat.gcd_mul_left]at h2
  have h3:g*Nat.gcd x.natAbs y=g*1:=by omega
  exact Nat.eq_of_mul_eq_mul_left hg h3
 ·rw[hx]
  have:(b:Int)=(g:Int)*(y:Int):=by rw[hy];exact Int.natCast_mul _ _
  rw[this,Mi (g:Int) x,Wu]
 ·rw[hna];exact wgc _ hg
 ·rw[hy];exact wgc _ hg
 ·rw[<-e1];exact wgo h (by omega)
theorem abs_eq(i:Int):(if i<0 then -i else i)=((i.natAbs:Nat):Int):=by split<;>omega
theorem Ub(a:Int)(b:Nat)(hb:0<b):Nat.gcd a.natAbs b<=b:=Nat.le_of_dvd hb (Nat.gcd_dvd_right _ _)
section
variable{P:Program}{w:World}{K:W.Frag}{mg:Str->Option Value}{base:Heap}
def WY(K:W.Frag):Sp:=fun vs H Q _=>∃(m n:Nat),vs=[.int m,.int n]/\Q (.int ((Nat.gcd m n:Nat):Int)) H
theorem DK:FnScope ["one","other","rest"] ["one","other"] (defScope Zr):=fsc
theorem Xj{f:Addr}{fd:FuncData}(F:Fun K "greatest_divisor" "greatest_divisor" Zr f fd):FnOk P w K mg base CX0 1 f fd ["one","other"] (WY K):=by
 refine F.ok DK (fun vs H Q E h=> ?_) (fun cdv A outer s H vs Q E hr h=> ?_)
 ·obtain⟨m,n,rfl,_⟩:=h
  rfl
 obtain⟨m,n,rfl,q⟩:=h
 refine⟨_,aO (ps_while sG (pt_truth (pv 1) (fun _=>rfl)) (aO (cW (i:=2) DK.nd rfl (Or.inl rfl) (bK op_mod (pv 0) (pv 1))) (aO (cW (i:=0) DK.nd rfl (Or.inl rfl) (pv 1)) (bw (cW (i:=1) DK.nd rfl (Or.inl rfl) (pv 2)))))) (bw (cI (pv 0))),?_⟩
 refine⟨fun k σ H'=>H'=H/\∃(m':Nat) (r:Option V),σ=[some (.int (m':Int)),some (.int (k:Int)),r]/\Nat.gcd m' k=Nat.gcd m n,⟨n,rfl,m,_,rfl,rfl⟩,?_⟩
 rintro k σ H' ⟨rfl,m',r,rfl,hg⟩
 refine⟨_,rfl,_,rfl,?_⟩
 refine ite2 (fun c=> ?_) (fun c=> ?_)
 ·have hk:0<k:=by
   rcases weu k with h|h
   ·subst h;exact absurd c (by decide)
   ·exact h
  refine⟨fun σ' H2=>H2=H'/\∃r',σ'=[some (.int (k:Int)),some (.int ((m' %k:Nat):Int)),r'],fun σ' H2 ⟨e1,r',e2⟩=>⟨m' %k,Nat.mod_lt _ hk,e1,k,r',e2,?_⟩,?_⟩
  ·rw[Ks];exact hg
  ·exact⟨_,rfl,_,rfl,_,_,rfl,rfl,Int.ofNat_lt.mpr hk,_,rfl,_,rfl,rfl,_,rfl⟩
 ·have hk:k=0:=by
   rcases weu k with h|h
   ·exact h
   ·exfalso;apply c;show((k:Int) !=0)=true;simp;omega
  subst hk
  rw[Nat.gcd_zero_right]at hg
  refine⟨_,rfl,?_⟩
  rw[hg];exact q
def Dr(K:W.Frag):Sp:=fun vs H Q _=>∃(a:Int) (b:Nat),vs=[.int a,.int b]/\0<b/\b<=10^200/\∀p H' u v,Same H H'->H' p=some (.tup [.int u,.int ((v:Nat):Int)])->Low a b u v->Q (.ref p) H'
theorem Jl:FnScope ["a","b","by"] ["a","b"] (defScope iu):=fsc
theorem Ot{H:Hp}{a:Int}{b:Nat}{p:Addr}(hp:H p=none):(upd H p (.tup [.int (a/((Nat.gcd a.natAbs b:Nat):Int)),.int ((b:Int)/((Nat.gcd a.natAbs b:Nat):Int))])) p=some (.tup [.int (a/((Nat.gcd a.natAbs b:Nat):Int)),.int (((b/Nat.gcd a.natAbs b:Nat)):Int)]):=by
 rw[aJ,Int.natCast_ediv]
theorem Tf{f f1:Addr}{fd d1:FuncData}(F:Fun K "lowest" "lowest" iu f fd)(D1:bY K mg "greatest_divisor" Zr ["one","other"] f1 d1)(G1:FnOk P w K mg base CX0 1 f1 d1 ["one","other"] (WY K))(mA:mg "abs"=none):
  FnOk P w K mg base CX0 2 f fd ["a","b"] (Dr K):=by
 refine F.ok Jl (fun vs H Q E h=> ?_) (fun cdv A outer s H vs Q E hr h=> ?_)
 ·obtain⟨m,n,rfl,_⟩:=h
  rfl
 obtain⟨a,b,rfl,hb,hB,q⟩:=h
 refine⟨_,aO (cW (i:=2) Jl.nd rfl (Or.inl rfl) (pc G1 hr D1 (aj (fW call_abs rfl mA (by decide+kernel) (aj (pv 0) aA)) (aj (pv 1) aA)))) (bw (cI (pY (aj (bK yc (pv 0) (pv 2)) (aj (bK yc (pv 1) (pv 2)) aA))))),?_⟩
 refine⟨_,rfl,a,rfl,_,rfl,a.natAbs,b,?_,?_⟩
 ·rw[abs_eq];rfl
 have hg:0<Nat.gcd a.natAbs b:=wfj _ hb
 have hg2:(((Nat.gcd a.natAbs b:Nat):Int)).natAbs<=10^200:=eO (Ub a b hb) hB
 refine⟨_,rfl,_,rfl,_,_,rfl,rfl,⟨Int.ofNat_lt.mpr hg,hg2⟩,_,rfl,_,rfl,_,_,rfl,rfl,⟨Int.ofNat_lt.mpr hg,hg2⟩,(by show 2<=sizeLine;decide),fun p hp=> ?_⟩
 exact q p _ _ _ (aY hp _) (Ot hp) (J9 a b hb)
def aN(n:Nat)(X:Nat->Int):List V:=((List.range (n+1)).map X).map V.int
def bL(n:Nat)(c:Nat->Nat):List Int:=(List.range n).map fun k=>((c k:Nat):Int)
def flds(cl co ro:Addr)(o:Int):List (Str×V):=[("cells",.ref cl),("over",.int o),("columns",.ref co),("rows",.ref ro)]
structure bV(K:W.Frag)(C:Addr)(H0 H:Hp)(o dx cl co ro:Addr)(rws:List Addr)(n m:Nat)(T:Sx.Tab):Prop where
 same:Same H0 H
 o0:H0 o=none
 Ut:H0 cl=none
 Rf:H0 co=none
 QS:H0 ro=none
 ne:co≠ro
 nc:co∉rws
 nr:ro∉rws
 at_:H o=some (.ins C dx (flds cl co ro T.over))
 cells:H cl=some (.lst (rws.map V.ref))
 len:rws.length=m+1
 row:∀r a,rws[r]? =some a->H a=some (.lst (aN n (T.cell r)))
 cols:H co=some (.lst ((bL n T.col).map V.int))
 rows:H ro=some (.lst ((bL m T.row).map V.int))
def jH(K:W.Frag)(C:Addr)(H0 H:Hp)(o:Addr)(n m:Nat)(T:Sx.Tab):Prop:=∃dx cl co ro rws,bV K C H0 H o dx cl co ro rws n m T
theorem bV.sm{C:Addr}{H0 H H':Hp}{o dx cl co ro:Addr}{rws:List Addr}{n m:Nat}{T:Sx.Tab}(h:bV K C H0 H o dx cl co ro rws n m T)(s:Same H H'):bV K C H0 H' o dx cl co ro rws n m T:=
 ⟨h.same.trans s,h.o0,h.Ut,h.Rf,h.QS,h.ne,h.nc,h.nr,s _ _ h.at_,s _ _ h.cells,h.len,fun r a e=>s _ _ (h.row r a e),s _ _ h.cols,s _ _ h.rows⟩
theorem jH.sm{C:Addr}{H0 H H':Hp}{o:Addr}{n m:Nat}{T:Sx.Tab}(h:jH K C H0 H o n m T)(s:Same H H'):jH K C H0 H' o n m T:=by
 obtain⟨dx,cl,co,ro,rws,h⟩:=h
 exact⟨dx,cl,co,ro,rws,h.sm s⟩
structure TG(n m:Nat)(S:Nat->Nat->Bool)(wt:Nat->Int)(T:Sx.Tab):Prop where
 good:Sx.Good n m S wt T
 n10:n<=10
 Xx:m<=40
 wb:∀p,p<n->0<=wt p/\wt p<=99
 cov:∀p,p<n->∃k,k<m/\S k p=true
theorem TG.cell{n m:Nat}{S:Nat->Nat->Bool}{wt:Nat->Int}{T:Sx.Tab}(h:TG n m S wt T){r c:Nat}(hr:r<=m)(hc:c<=n): -4000000000<=T.cell r c/\T.cell r c<=4000000000:=by
 have a:=h.good.Le h.wb hr hc
 have b:=Sx.K6 (k:=n+1) (by have:=h.n10;omega)
 omega
theorem TG.over{n m:Nat}{S:Nat->Nat->Bool}{wt:Nat->Int}{T:Sx.Tab}(h:TG n m S wt T):0<T.over/\T.over<=39916800:=by
 have a:=h.good.NZ
 have b:=Sx.K6 (k:=n+1) (by have:=h.n10;omega)
 exact⟨h.good.pos,by omega⟩
theorem Er(n:Nat)(X:Nat->Int):(aN n X).length=n+1:=by unfold aN;rw[aG,aG,sJ]
theorem mY{n c:Nat}(X:Nat->Int)(h:c<=n):(aN n X)[c]? =some (.int (X c)):=by
 unfold aN;rw[c7,c7,Wb (by omega)];rfl
theorem dW{n c:Nat}(X:Nat->Int)(h:c<=n):atI (aN n X) (c:Int)=some (.int (X c)):=atI_nat (mY X h)
theorem atI_last{xs:List V}{v:V}(h:xs[xs.length-1]? =some v)(h0:0<xs.length):atI xs (-1)=some v:=by
 have e:ixN xs.length (-1)=some (xs.length-1):=by
  unfold ixN
  rw[ao (by decide),au (by omega)]
  congr 1
  omega
 unfold atI
 rw[e]
 exact h
theorem nU(n:Nat)(X:Nat->Int):atI (aN n X) (-1)=some (.int (X n)):=atI_last (by rw[Er];exact mY X (aH n)) (by rw[Er];omega)
theorem Es(n:Nat)(c:Nat->Nat):(bL n c).length=n:=by unfold bL;rw[aG,sJ]
theorem CN{n k:Nat}(c:Nat->Nat)(h:k<n):(bL n c)[k]? =some ((c k:Nat):Int):=by
 unfold bL;rw[c7,Wb h];rfl
theorem m6{n k:Nat}(c:Nat->Nat)(h:k<n):atI ((bL n c).map V.int) (k:Int)=some (.int ((c k:Nat):Int)):=atI_nat (by rw[c7,CN c h];rfl)
theorem uc{n k:Nat}(c:Nat->Nat)(v:Nat)(h:k<n):(bL n c).set k (v:Int)=bL n (fun i=>if i=k then v else c i):=by
 refine V8 fun i=> ?_
 rw[wdl]
 by_cases hi:i<n
 ·rw[CN _ hi,CN _ hi,Es]
  by_cases e:k=i
  ·rw[au e,au h,au e.symm]
  ·rw[ao e,ao (jY e)]
 ·rw[Mp (by rw[Es];omega),Mp (by rw[Es];omega),ao (by omega)]
theorem bV.Fp{C:Addr}{H0 H:Hp}{o dx cl co ro:Addr}{rws:List Addr}{n m:Nat}{T:Sx.Tab}(h:bV K C H0 H o dx cl co ro rws n m T){r:Nat}(hr:r<=m):∃a,rws[r]? =some a/\atI (rws.map V.ref) (r:Int)=some (.ref a)/\H a=some (.lst (aN n (T.cell r))):=by
 have hl:=h.len
 have e:rws[r]? =some rws[r]:=gn (by omega)
 exact⟨rws[r],e,atI_nat (by rw[c7,e];rfl),h.row r _ e⟩
theorem bV.Xa{C:Addr}{H0 H:Hp}{o dx cl co ro:Addr}{rws:List Addr}{n m:Nat}{T:Sx.Tab}(h:bV K C H0 H o dx cl co ro rws n m T):∃a,rws[m]? =some a/\atI (rws.map V.ref) (-1)=some (.ref a)/\H a=some (.lst (aN n (T.cell m))):=by
 obtain⟨a,e,_,f⟩:=h.Fp (aH m)
 exact⟨a,e,atI_last (by rw[aG,h.len,c7,weq,e];rfl) (by rw[aG,h.len];omega),f⟩
def Im(K:W.Frag)(C:Addr):Sp:=fun vs H Q _=>∃(o:Addr) (H0:Hp) (n m:Nat) (S:Nat->Nat->Bool) (wt:Nat->Int) (T:Sx.Tab),vs=[.ref o]/\jH K C H0 H o n m T/\TG n m S wt T/\
 ((∀c,c<n->0<=T.cell m c)->∀H',Same H H'->Q .non H')/\∀(q:Nat) H',q<n->T.cell m q<0->(∀c,c<n->T.cell m c<0->T.col q<=T.col c)->Same H H'->Q (.int (q:Int)) H'
theorem Ao:FnScope ["self","worth","names"] ["self"] (defScope Zu):=fsc
theorem Tc{f C:Addr}{fd:FuncData}(F:Fun K "next_column" "Tableau.next_column" Zu f fd)
  (Cc:Cls K C)(aQ:NoAttr K C "cells")(cT:NoAttr K C "over")(aM:NoAttr K C "columns")(bU:NoAttr K C "rows")(eF:mg "enumerate"=none)(pH:mg "min"=none):
  FnOk P w K mg base CX0 1 f fd ["self"] (Im K C):=by
 refine F.ok Ao (fun vs H Q E h=> ?_) (fun cdv A outer s H vs Q E hr h=> ?_)
 ·obtain⟨o,H0,n,m,S,wt,T,rfl,_⟩:=h
  rfl
 obtain⟨o,H0,n,m,S,wt,T,rfl,⟨dx,cl,co,ro,rws,hT⟩,hG,q1,q2⟩:=h
 refine⟨_,(aO (cW (i:=1) Ao.nd rfl (Or.inr rfl) (bM nO (nM (pv 0) rfl) (pe_un un_neg aK) (fun _ _=>rfl))) (aO (Rj (i:=2) (own:=["k","name"]) (caps:=["worth"]) (ix:=[1]) Ao.nd rfl (Or.inl rfl) rfl (vg rfl eF (aj (nM (pv 0) rfl) aA)) rfl rfl (.cons rfl rfl .nil) (fun _ _ _ _ _=>(jU K (n:=2) rfl (zL (cZ (i:=0) (show(["k","name","worth"]:List Str).Nodup from by decide+kernel) rfl (Or.inl rfl)) (zL (cZ (i:=1) (show(["k","name","worth"]:List Str).Nodup from by decide+kernel) rfl (Or.inl rfl)) pgs_nil)))) (fun _ _ _ _ _=>dX (gZ op_lt (bM (gb K) (pv 2) (pv 0) (fun _ _=>rfl)) aK (nomark _))) (fun _ _ _ _ _=>(pv 1))) (bw (cI (pe_ifExp (pt_truth (pv 2) (fun _=>rfl)) (pe_bm M7 wdc wdd nZ (nM (pv 0) rfl) (aj (fW (uy rfl) rfl pH (by decide+kernel) (aj (pv 2) aA)) aA)) pe_non))))),?_⟩
 obtain⟨za,ze,zi,zr⟩:=hT.Xa
 refine⟨_,rfl,o,C,dx,_,_,rfl,hT.at_,Cc,aQ,rfl,_,rfl,cl,_,_,_,rfl,rfl,SqL.of hT.cells,zi,?_⟩
 refine⟨_,rfl,o,C,dx,_,_,rfl,hT.at_,Cc,aM,rfl,false,co,_,rfl,SqL.of hT.cols,fun hz=> ?_⟩
 refine oM (K:=K) (b:=false) (a:=co) (xs:=(bL n T.col).map V.int) (fun i acc σ H'=>acc=(((List.range i).filter fun c=>decide (T.cell m c<0)).map fun c=>((T.col c:Nat):Int)).map V.int/\Same H H'/\∃o1 o2,σ=[o1,o2,some (.ref za)]) ⟨rfl,Same.refl _,_,_,rfl⟩ (fun i acc σ H' _ p=>p.2.1.seq (SqL.of hT.cols)) (fun i acc σ H' _ p=> ?_) hz (fun i v t acc σ H' hv p ht=> ?_) (fun acc σ H' p=> ?_)
 ·rw[p.1,aG,aG]
  exact eO (wJ _ _) (by rw[sJ];exact aH _)
 ·obtain⟨rfl,sm,o1,o2,rfl⟩:=p
  have hi:i<n:=by
   have:=(qy.mp hv).1
   rw[aG,Es]at this
   exact this
  rw[c7,CN _ hi]at hv
  cases hv
  have s1:=aY ht (.tup [.int (i:Int),.int ((T.col i:Nat):Int)])
  refine⟨t,_,rfl,SqT.of aJ,rfl,_,_,rfl,_,_,rfl,rfl,?_⟩
  refine⟨_,rfl,_,rfl,za,_,_,_,rfl,rfl,SqL.of ((sm.trans s1) _ _ zr),dW _ (cQ hi),_,_,rfl,rfl,_,rfl,?_⟩
  have go:((List.range (i+1)).filter fun c=>decide (T.cell m c<0))=((List.range i).filter fun c=>decide (T.cell m c<0))++(if decide (T.cell m i<0)=true then[i]else[]):=by
   rw[CV,Ro]
   congr 1
   rw[MJ]
   split<;>rfl
  refine ite2 (fun c=> ?_) (fun c=> ?_)
  ·exact⟨_,rfl,by rw[go,au c,cJ,cJ];rfl,sm.trans s1,_,_,rfl⟩
  ·exact⟨by rw[go,ao c,sE],sm.trans s1,_,_,rfl⟩
 ·intro p1 hp1
  obtain⟨rfl,sm,_⟩:=p
  rw[aG,Es]
  have s1:=aY hp1 (.lst ((((List.range n).filter fun c=>decide (T.cell m c<0)).map fun c=>((T.col c:Nat):Int)).map V.int))
  have e1:(upd H' p1 (.lst ((((List.range n).filter fun c=>decide (T.cell m c<0)).map fun c=>((T.col c:Nat):Int)).map V.int))) p1=some (.lst ((((List.range n).filter fun c=>decide (T.cell m c<0)).map fun c=>((T.col c:Nat):Int)).map V.int)):=aJ
  have s2:=sm.trans s1
  generalize (upd H' p1 (.lst ((((List.range n).filter fun c=>decide (T.cell m c<0)).map fun c=>((T.col c:Nat):Int)).map V.int)))=H1 at *
  have hT1:=hT.sm s2
  refine⟨_,rfl,_,.inl ⟨_,SqL.of e1,rfl⟩,?_⟩
  cases hl:(List.range n).filter fun c=>decide (T.cell m c<0)with
  |nil=>
   refine iteF ?_
   refine q1 (fun c hc=>Int.not_lt.mp fun hn=> ?_) _ s2
   have:c∈(List.range n).filter fun c=>decide (T.cell m c<0):=je.mpr ⟨sI.mpr hc,fj hn⟩
   rw[hl]at this
   cases this
  |cons c0 rest=>
   rw[hl]at e1
   refine iteT ?_
   refine⟨_,rfl,o,C,dx,_,_,rfl,hT1.at_,Cc,aM,rfl,.inl ⟨rfl,_,SqL.of hT1.cols⟩,_,rfl,p1,_,rfl,SqL.of e1,(fun e=>nomatch e),fun mn hmn hle=> ?_⟩
   rw[<-hl]at hmn hle
   obtain⟨c,hc,rfl⟩:=j8.mp hmn
   obtain⟨hc1,hc2⟩:=je.mp hc
   have hcn:=sI.mp hc1
   refine⟨co,bL n T.col,_,c,rfl,rfl,hT1.cols,CN _ hcn,fun i hi e=> ?_,by rw[Es];have:=hG.n10;omega,?_⟩
   ·rw[CN _ (by omega)]at e
    have:T.col i=T.col c:=Wt (p8 e)
    have:=hG.good.Ca i c (by omega) hcn this
    omega
   ·refine q2 c _ hcn (tL hc2) (fun c' hc' hn=> ?_) s2
    have:=hle _ (j8.mpr ⟨c',je.mpr ⟨sI.mpr hc',fj hn⟩,rfl⟩)
    omega
def Vq(n q:Nat)(T:Sx.Tab)(r t:Nat):Bool:=decide (T.cell r n*T.cell t q<T.cell t n*T.cell r q)||(decide (T.cell r n*T.cell t q=T.cell t n*T.cell r q)&&decide (T.row r<T.row t))
def QC(K:W.Frag)(C:Addr):Sp:=fun vs H Q _=>∃(o:Addr) (H0:Hp) (n m q r t:Nat) (S:Nat->Nat->Bool) (wt:Nat->Int) (T:Sx.Tab),vs=[.ref o,.int (q:Int),.int (r:Int),.int (t:Int)]/\jH K C H0 H o n m T/\TG n m S wt T/\q<n/\r<m/\t<m/\Q (.bl (Vq n q T r t)) H
theorem Ak:FnScope ["self","column","row","other","one","two"] ["self","column","row","other"] (defScope Zt):=fsc
theorem SN{f C:Addr}{fd:FuncData}(F:Fun K "is_tighter" "Tableau.is_tighter" Zt f fd)
  (Cc:Cls K C)(aQ:NoAttr K C "cells")(cT:NoAttr K C "over")(aM:NoAttr K C "columns")(bU:NoAttr K C "rows"):
  FnOk P w K mg base CX0 1 f fd ["self","column","row","other"] (QC K C):=by
 refine F.ok Ak (fun vs H Q E h=> ?_) (fun cdv A outer s H vs Q E hr h=> ?_)
 ·obtain⟨o,H0,n,m,q,r,t,S,wt,T,rfl,_⟩:=h
  rfl
 obtain⟨o,H0,n,m,q,r,t,S,wt,T,rfl,⟨dx,cl,co,ro,rws,hT⟩,hG,hq,hr0,ht,qq⟩:=h
 refine⟨_,(aO (cW (i:=4) Ak.nd rfl (Or.inl rfl) (bK uG (bM nO (bM nO (nM (pv 0) rfl) (pv 2) (fun _ _=>rfl)) (pe_un un_neg aK) (fun _ _=>rfl)) (bM nO (bM nO (nM (pv 0) rfl) (pv 3) (fun _ _=>rfl)) (pv 1) (fun _ _=>rfl)))) (aO (cW (i:=5) Ak.nd rfl (Or.inl rfl) (bK uG (bM nO (bM nO (nM (pv 0) rfl) (pv 3) (fun _ _=>rfl)) (pe_un un_neg aK) (fun _ _=>rfl)) (bM nO (bM nO (nM (pv 0) rfl) (pv 2) (fun _ _=>rfl)) (pv 1) (fun _ _=>rfl)))) (bw (cI (pe_or (Hg op_lt (pv 4) (pv 5) (nomark _)) (pe_one (pe_and (Hg op_eq (pv 4) (pv 5) (nomark _)) (pe_one (Hg op_lt (bM nO (nM (pv 0) rfl) (pv 2) (fun _ _=>rfl)) (bM nO (nM (pv 0) rfl) (pv 3) (fun _ _=>rfl)) (nomark _)))))))))),?_⟩
 obtain⟨ra,re,ri,rr⟩:=hT.Fp (cQ hr0)
 obtain⟨ta,te,ti,tr⟩:=hT.Fp (cQ ht)
 have b1:=hG.cell (cQ hr0) (aH n)
 have b2:=hG.cell (cQ ht) (aH n)
 refine⟨_,rfl,o,C,dx,_,_,rfl,hT.at_,Cc,aQ,rfl,_,rfl,cl,_,_,_,rfl,rfl,SqL.of hT.cells,ri,_,rfl,ra,_,_,_,rfl,rfl,SqL.of rr,nU _ _,?_⟩
 refine⟨_,rfl,o,C,dx,_,_,rfl,hT.at_,Cc,aQ,rfl,_,rfl,cl,_,_,_,rfl,rfl,SqL.of hT.cells,ti,_,rfl,ta,_,_,_,rfl,rfl,SqL.of tr,dW _ (cQ hq),_,_,rfl,rfl,.inl ⟨by omega,by omega⟩,?_⟩
 refine⟨_,rfl,o,C,dx,_,_,rfl,hT.at_,Cc,aQ,rfl,_,rfl,cl,_,_,_,rfl,rfl,SqL.of hT.cells,ti,_,rfl,ta,_,_,_,rfl,rfl,SqL.of tr,nU _ _,?_⟩
 refine⟨_,rfl,o,C,dx,_,_,rfl,hT.at_,Cc,aQ,rfl,_,rfl,cl,_,_,_,rfl,rfl,SqL.of hT.cells,ri,_,rfl,ra,_,_,_,rfl,rfl,SqL.of rr,dW _ (cQ hq),_,_,rfl,rfl,.inl ⟨by omega,by omega⟩,?_⟩
 refine⟨_,rfl,_,rfl,_,_,rfl,rfl,_,rfl,?_⟩
 unfold Vq at qq
 refine ite2 (fun c=> ?_) (fun c=> ?_)
 ·rw[c,Wr]at qq;exact qq
 ·rw[eq_false_of_ne_true c,Wv]at qq
  refine⟨_,rfl,_,rfl,rfl,_,rfl,?_⟩
  refine ite2 (fun c2=> ?_) (fun c2=> ?_)
  ·have c2':decide (T.cell r n*T.cell t q=T.cell t n*T.cell r q)=true:=fj (V.int.inj (tL c2))
   rw[c2',Bool.true_and]at qq
   refine⟨_,rfl,o,C,dx,_,_,rfl,hT.at_,Cc,bU,rfl,_,rfl,ro,_,_,_,rfl,rfl,SqL.of hT.rows,m6 _ hr0,?_⟩
   refine⟨_,rfl,o,C,dx,_,_,rfl,hT.at_,Cc,bU,rfl,_,rfl,ro,_,_,_,rfl,rfl,SqL.of hT.rows,m6 _ ht,_,_,rfl,rfl,?_⟩
   rw[<-show decide (((T.row r:Nat):Int)<((T.row t:Nat):Int))=decide (T.row r<T.row t)from decide_eq_decide.mpr Int.ofNat_lt]at qq
   exact qq
  ·have c2':decide (T.cell r n*T.cell t q=T.cell t n*T.cell r q)=false:=jN fun e=>c2 (fj (jh V.int e))
   rw[c2',Bool.false_and]at qq
   exact qq
def Rg(n q:Nat)(T:Sx.Tab)(p r:Nat):Prop:=T.cell p n*T.cell r q<T.cell r n*T.cell p q\/(T.cell p n*T.cell r q=T.cell r n*T.cell p q/\T.row p<=T.row r)
theorem Gp{n q:Nat}{T:Sx.Tab}{a b c:Nat}(ha:0<T.cell a q)(hb:0<T.cell b q)(hc:0<T.cell c q)(h1:Rg n q T a b)(h2:Rg n q T b c):Rg n q T a c:=by
 have cm:∀x y:Nat,T.cell x n*T.cell y q=T.cell y q*T.cell x n:=fun x y=>Mi _ _
 have cn:∀x y:Nat,T.cell y n*T.cell x q=T.cell x q*T.cell y n:=fun x y=>Mi _ _
 unfold Rg at *
 rw[cm a b,cn a b]at h1
 rw[cm b c,cn b c]at h2
 rw[cm a c,cn a c]
 rcases h1 with h1|⟨h1,l1⟩
 ·rcases h2 with h2|⟨h2,_⟩
  ·exact .inl (Sx.vL hb ha hc (Hj h1) h2)
  ·exact .inl (Sx.yQ hb ha hc h1 (U3 h2))
 ·rcases h2 with h2|⟨h2,l2⟩
  ·exact .inl (Sx.vL hb ha hc (U3 h1) h2)
  ·exact .inr ⟨wgm (Sx.vM hb ha hc (U3 h1) (U3 h2)) (Sx.vM hb hc ha (by rw[<-h2];exact zM _) (by rw[<-h1];exact zM _)),eO l1 l2⟩
theorem RM{n q:Nat}{T:Sx.Tab}{r t:Nat}(h:Vq n q T r t=true):Rg n q T r t:=by
 unfold Vq at h
 rw[Qu,Dc]at h
 rcases h with h|⟨h1,h2⟩
 ·exact .inl (tL h)
 ·exact .inr ⟨tL h1,cQ (tL h2)⟩
theorem WT{n q:Nat}{T:Sx.Tab}{r t:Nat}(h:Vq n q T r t=false):Rg n q T t r:=by
 unfold Vq at h
 rw[Bool.or_eq_false_iff,Bool.and_eq_false_iff]at h
 have h1:=RD h.1
 by_cases c:T.cell r n*T.cell t q=T.cell t n*T.cell r q
 ·refine .inr ⟨c.symm,?_⟩
  rcases h.2 with z|z
  ·exact absurd c (RD z)
  ·exact Qe.mp (RD z)
 ·exact .inl (by omega)
def QF(K:W.Frag)(C:Addr):Sp:=fun vs H Q _=>∃(o:Addr) (H0:Hp) (n m q:Nat) (S:Nat->Nat->Bool) (wt:Nat->Int) (T:Sx.Tab),vs=[.ref o,.int (q:Int)]/\jH K C H0 H o n m T/\TG n m S wt T/\q<n/\
 ∀p:Nat,p<m->0<T.cell p q->(∀r,r<m->0<T.cell r q->Rg n q T p r)->Q (.int (p:Int)) H
theorem uX:FnScope ["self","column","tightest","row"] ["self","column"] (defScope Zn):=fsc
theorem S9{f f1 C:Addr}{fd d1:FuncData}(F:Fun K "next_row" "Tableau.next_row" Zn f fd)
  (Cc:Cls K C)(aQ:NoAttr K C "cells")(cT:NoAttr K C "over")(aM:NoAttr K C "columns")(bU:NoAttr K C "rows")(D1:GZ K C "is_tighter" "Tableau.is_tighter" Zt ["self","column","row","other"] f1 d1)(G1:FnOk P w K mg base CX0 1 f1 d1 ["self","column","row","other"] (QC K C))(aD:mg "range"=none)(cN:mg "len"=none):
  FnOk P w K mg base CX0 2 f fd ["self","column"] (QF K C):=by
 refine F.ok uX (fun vs H Q E h=> ?_) (fun cdv A outer s H vs Q E hr h=> ?_)
 ·obtain⟨o,H0,n,m,q,S,wt,T,rfl,_⟩:=h
  rfl
 obtain⟨o,H0,n,m,q,S,wt,T,rfl,⟨dx,cl,co,ro,rws,hT⟩,hG,hq,qq⟩:=h
 refine⟨_,(aO (cW (i:=2) uX.nd rfl (Or.inl rfl) pe_non) (aO (uH sG rfl (CT rfl aD (aj (fW zP rfl cN wX (aj (nM (pv 0) rfl) aA)) aA)) (cZ (i:=3) uX.nd rfl (Or.inl rfl)) (bw (lR (PW.pt (pw_and (gZ op_gt (bM nO (bM nO (nM (pv 0) rfl) (pv 3) (fun _ _=>rfl)) (pv 1) (fun _ _=>rfl)) aK (nomark _)) (pw_and1 (PW.pt (pw_or (gZ op_isN (pv 2) pe_non (nomark _)) (pw_or1 (wO (pe_meth (pv 0) Cc D1.m G1 hr D1.b .nil pass0 (aj (pv 1) (aj (pv 3) (aj (pv 2) aA))))))))))) (bw (cW (i:=2) uX.nd rfl (Or.inl rfl) (pv 3))) lU))) (bw (cI (pv 2))))),?_⟩
 refine⟨_,rfl,o,C,dx,_,_,rfl,hT.at_,Cc,bU,rfl,ro,_,rfl,.inl (SqL.of hT.rows),fun _=> ?_⟩
 rw[aG,Es]
 refine⟨_,rfl,by have:=hG.Xx;omega,by have:=hG.Xx;omega,?_⟩
 refine CQ (n:=m) (fun i σ H'=>H'=H/\∃(x:V) (o3:Option V),σ=[some (.ref o),some (.int (q:Int)),some x,o3]/\((x= .non/\∀r,r<i->T.cell r q<=0)\/∃p:Nat,p<i/\x= .int (p:Int)/\0<T.cell p q/\∀r,r<i->0<T.cell r q->Rg n q T p r)) ⟨rfl,_,_,rfl,.inl ⟨rfl,fun r hr=>absurd hr (MF r)⟩⟩ (fun i σ H' hi p=> ?_) (fun σ H' p=> ?_)
 ·obtain⟨rfl,x,o3,rfl,hx⟩:=p
  rw[Wq]
  obtain⟨ra,re,ri,rr⟩:=hT.Fp (cQ hi)
  refine⟨_,rfl,o,C,dx,_,_,rfl,hT.at_,Cc,aQ,rfl,_,rfl,cl,_,_,_,rfl,rfl,SqL.of hT.cells,ri,_,rfl,ra,_,_,_,rfl,rfl,SqL.of rr,dW _ (cQ hq),_,_,rfl,rfl,_,rfl,?_⟩
  refine ite2 (fun c=> ?_) (fun c=> ?_)
  ·have c':0<T.cell i q:=tL c
   rcases hx with⟨rfl,hx⟩|⟨p,hp,rfl,hp0,hlev⟩
   ·refine⟨_,rfl,rfl,_,rfl,?_⟩
    refine iteT ?_
    refine iteT ?_
    refine⟨_,rfl,rfl,_,_,rfl,.inr ⟨i,nQ i,rfl,c',fun r hr h0=> ?_⟩⟩
    by_cases e:r=i
    ·subst e;exact .inr ⟨rfl,aH _⟩
    ·have:=hx r (by omega);omega
   ·refine⟨_,rfl,rfl,_,rfl,?_⟩
    refine iteF ?_
    refine⟨_,rfl,o,dx,_,rfl,hT.at_,rfl,_,rfl,_,rfl,_,rfl,o,H0,n,m,q,i,p,S,wt,T,rfl,⟨dx,cl,co,ro,rws,hT⟩,hG,hq,hi,by omega,_,rfl,?_⟩
    refine ite2 (fun z=> ?_) (fun z=> ?_)
    ·refine⟨_,rfl,rfl,_,_,rfl,.inr ⟨i,nQ i,rfl,c',fun r hr h0=> ?_⟩⟩
     by_cases e:r=i
     ·subst e;exact .inr ⟨rfl,aH _⟩
     ·exact Gp c' hp0 h0 (RM z) (hlev r (by omega) h0)
    ·refine⟨rfl,_,_,rfl,.inr ⟨p,by omega,rfl,hp0,fun r hr h0=> ?_⟩⟩
     by_cases e:r=i
     ·subst e;exact WT (eq_false_of_ne_true z)
     ·exact hlev r (by omega) h0
  ·refine iteF ?_
   have c':T.cell i q<=0:=Int.not_lt.mp fun h=>c (fj h)
   refine⟨rfl,_,_,rfl,?_⟩
   rcases hx with⟨rfl,hx⟩|⟨p,hp,rfl,hp0,hlev⟩
   ·refine .inl ⟨rfl,fun r hr=> ?_⟩
    by_cases e:r=i
    ·subst e;exact c'
    ·exact hx r (by omega)
   ·refine .inr ⟨p,by omega,rfl,hp0,fun r hr h0=> ?_⟩
    by_cases e:r=i
    ·subst e;omega
    ·exact hlev r (by omega) h0
 ·obtain⟨rfl,x,o3,rfl,hx⟩:=p
  rcases hx with⟨rfl,hx⟩|⟨p,hp,rfl,hp0,hlev⟩
  ·obtain⟨r,hr0,h0⟩:=hG.good.bounded hG.cov hq
   have:=hx r hr0
   omega
  ·exact⟨_,rfl,qq p hp hp0 hlev⟩
def tdF(ov:Int)(X Y:Nat->Int)(q c:Nat):Int:=if c=q then -X q else(X c*Y q-X q*Y c)/ov
theorem xV{n q:Nat}(X:Nat->Int)(v:Int)(h:q<=n):(aN n X).set q (.int v)=aN n fun c=>if c=q then v else X c:=by
 refine V8 fun i=> ?_
 rw[wdl]
 by_cases hi:i<=n
 ·rw[mY _ hi,mY _ hi,Er]
  by_cases e:q=i
  ·rw[au e,au (by omega),au e.symm]
  ·rw[ao e,ao (jY e)]
 ·rw[Mp (by rw[Er];omega),Mp (by rw[Er];omega),ao (by omega)]
theorem lq{n:Nat}{X Y:Nat->Int}(h:∀c,c<=n->X c=Y c):aN n X=aN n Y:=by
 unfold aN
 rw[Zw fun c hc=>h c (by have:=sI.mp hc;omega)]
def QD(K:W.Frag)(C:Addr):Sp:=fun vs H Q _=>∃(o xa ya:Addr) (H0:Hp) (n m q:Nat) (X Y:Nat->Int) (T:Sx.Tab),vs=[.ref o,.ref xa,.ref ya,.int (q:Int)]/\jH K C H0 H o n m T/\n<=10/\(0<T.over/\T.over<=39916800)/\q<=n/\H xa=some (.lst (aN n X))/\H ya=some (.lst (aN n Y))/\
 (∀c,c<=n->(-4000000000<=X c/\X c<=4000000000)/\(-4000000000<=Y c/\Y c<=4000000000))/\∀r H',Same H H'->H r=none->H' r=some (.lst (aN n (tdF T.over X Y q)))->Q (.ref r) H'
theorem Al:FnScope ["self","cells","pivots","column","by","fresh"] ["self","cells","pivots","column"] (defScope Zh):=fsc
theorem SQ{f C:Addr}{fd:FuncData}(F:Fun K "turned" "Tableau.turned" Zh f fd)
  (Cc:Cls K C)(aQ:NoAttr K C "cells")(cT:NoAttr K C "over")(aM:NoAttr K C "columns")(bU:NoAttr K C "rows")(eF:mg "enumerate"=none):
  FnOk P w K mg base CX0 1 f fd ["self","cells","pivots","column"] (QD K C):=by
 refine F.ok Al (fun vs H Q E h=> ?_) (fun cdv A outer s H vs Q E hr h=> ?_)
 ·obtain⟨o,xa,ya,H0,n,m,q,X,Y,T,rfl,_⟩:=h
  rfl
 obtain⟨o,xa,ya,H0,n,m,q,X,Y,T,rfl,⟨dx,cl,co,ro,rws,hT⟩,hn,⟨ho0,ho1⟩,hq,hX,hY,hb,qq⟩:=h
 refine⟨_,(aO (cW (i:=4) Al.nd rfl (Or.inr rfl) (bM nO (pv 2) (pv 3) (fun _ _=>rfl))) (aO (Rj (i:=5) (own:=["k","cell"]) (caps:=["by","cells","column","pivots","self"]) (ix:=[4,1,3,2,0]) Al.nd rfl (Or.inl rfl) rfl (vg rfl eF (aj (pv 1) aA)) rfl rfl (.cons rfl rfl (.cons rfl rfl (.cons rfl rfl (.cons rfl rfl (.cons rfl rfl .nil))))) (fun _ _ _ _ _=>(jU K (n:=2) rfl (zL (cZ (i:=0) (show(["k","cell","by","cells","column","pivots","self"]:List Str).Nodup from by decide+kernel) rfl (Or.inl rfl)) (zL (cZ (i:=1) (show(["k","cell","by","cells","column","pivots","self"]:List Str).Nodup from by decide+kernel) rfl (Or.inl rfl)) pgs_nil)))) (fun _ _ _ _ _=>sy) (fun _ _ _ _ _=>(bK dh (bK op_sub (bK uG (pv 1) (pv 2)) (bK uG (bM (gb K) (pv 3) (pv 4) (fun _ _=>rfl)) (bM (gb K) (pv 5) (pv 0) (fun _ _=>rfl)))) (NT K (pv 6) rfl)))) (aO (ps_asg (pe_un un_neg (bM nO (pv 1) (pv 3) (fun _ _=>rfl))) (pg_sub (pv 5) (pv 3) set_list)) (bw (cI (pv 5)))))),?_⟩
 refine⟨_,rfl,_,rfl,ya,_,_,_,rfl,rfl,SqL.of hY,dW _ hq,?_⟩
 refine⟨_,rfl,false,xa,_,rfl,SqL.of hX,fun hz=> ?_⟩
 refine oM (K:=K) (b:=false) (a:=xa) (xs:=aN n X) (fun i acc σ H'=>acc=((List.range i).map fun c=>(X c*Y q-X q*Y c)/T.over).map V.int/\Same H H'/\∃o1 o2,σ=[o1,o2,some (.int (Y q)),some (.ref xa),some (.int (q:Int)),some (.ref ya),some (.ref o)]) ⟨rfl,Same.refl _,_,_,rfl⟩ (fun i acc σ H' _ p=>p.2.1.seq (SqL.of hX)) (fun i acc σ H' _ p=> ?_) hz (fun i v t acc σ H' hv p ht=> ?_) (fun acc σ H' p=> ?_)
 ·rw[p.1,aG,aG,sJ];exact aH _
 ·obtain⟨rfl,sm,o1,o2,rfl⟩:=p
  have hi:i<=n:=by
   have:=(qy.mp hv).1
   rw[Er]at this
   omega
  rw[mY _ hi]at hv
  cases hv
  have s1:=aY ht (.tup [.int (i:Int),.int (X i)])
  have s2:=sm.trans s1
  have bi:=(hb i hi).1
  have bq:=(hb q hq).1
  refine⟨t,_,rfl,SqT.of aJ,rfl,_,_,rfl,_,_,rfl,rfl,?_⟩
  refine⟨_,rfl,_,rfl,_,_,rfl,rfl,.inl ⟨by omega,by omega⟩,?_⟩
  refine⟨_,rfl,_,rfl,xa,_,_,_,rfl,rfl,SqL.of (s2 _ _ hX),dW _ hq,_,rfl,_,rfl,ya,_,_,_,rfl,rfl,SqL.of (s2 _ _ hY),dW _ hi,_,_,rfl,rfl,.inl ⟨by omega,by omega⟩,_,_,rfl,rfl,?_⟩
  refine⟨_,rfl,o,C,dx,_,_,rfl,s2 _ _ hT.at_,Cc,cT,rfl,_,_,rfl,rfl,⟨ho0,by omega⟩,?_⟩
  exact⟨by rw[CV,cJ,cJ];rfl,s2,_,_,rfl⟩
 ·intro p1 hp1
  obtain⟨rfl,sm,_⟩:=p
  rw[Er]
  have s1:=aY hp1 (.lst (aN n fun c=>(X c*Y q-X q*Y c)/T.over))
  have s2:=sm.trans s1
  have h0:H p1=none:=by
   cases e:H p1 with
   |none=>rfl
   |some u=>rw[sm _ _ e]at hp1;cases hp1
  refine⟨_,rfl,_,rfl,xa,_,_,_,rfl,rfl,SqL.of (s2 _ _ hX),dW _ hq,_,rfl,?_⟩
  refine⟨_,rfl,_,rfl,p1,_,_,q,rfl,rfl,aJ,?_,?_⟩
  ·have e:ixN (aN n fun c=>(X c*Y q-X q*Y c)/T.over).length (q:Int)=some q:=by
    rw[Er];unfold ixN
    rw[au (by omega),au (by omega)];rfl
   exact e
  ·refine⟨_,rfl,qq p1 _ (fun b u hb=> ?_) h0 ?_⟩
   ·have nb:b≠p1:=fun e=>by rw[e,h0]at hb;cases hb
    rw[cu nb]
    exact s2 _ _ hb
   ·rw[aJ]
    have e:=xV (fun c=>(X c*Y q-X q*Y c)/T.over) (-X q) hq
    exact jh (fun l=>some (HO.lst l)) e
theorem PB{xs:List V}{k:Nat}(hk:k<=xs.length):cutV xs none (some (k:Int))=xs.take k:=by
 unfold cutV
 rw[HT.sIx_nat,HT.sIx_none,wek hk,List.drop_zero,Nat.sub_zero]
theorem GK{xs:List V}{k:Nat}(hk:k<=xs.length):cutV xs (some (k:Int)) none=xs.drop k:=by
 unfold cutV
 rw[HT.sIx_nat,HT.sIx_none,wek hk,ZD (by rw[U5];omega)]
theorem _root_.L2.Same.sS{H0 H:Hp}{a:Addr}{u:HO}(s:Same H0 H)(h:H0 a=none):Same H0 (upd H a u):=fun b o hb=>by
 have nb:b≠a:=fun e=>by rw[e,h]at hb;cases hb
 rw[cu nb];exact s _ _ hb
theorem _root_.L2.Same.none{H0 H:Hp}{a:Addr}(s:Same H0 H)(h:H a=none):H0 a=none:=by
 cases e:H0 a with
 |none=>rfl
 |some u=>rw[s _ _ e]at h;cases h
section
variable{C:Addr}{H0 H:Hp}{o dx cl co ro:Addr}{rws:List Addr}{n m:Nat}{T:Sx.Tab}
theorem bV.ocl(h:bV K C H0 H o dx cl co ro rws n m T):o≠cl:=ne_of h.at_ h.cells fun e=>nomatch e
theorem bV.oco(h:bV K C H0 H o dx cl co ro rws n m T):o≠co:=ne_of h.at_ h.cols fun e=>nomatch e
theorem bV.oro(h:bV K C H0 H o dx cl co ro rws n m T):o≠ro:=ne_of h.at_ h.rows fun e=>nomatch e
theorem jR{rws:List Addr}{xs:List Int}(h:0<rws.length)(e:rws.map V.ref=xs.map V.int):False:=by
 cases rws with
 |nil=>exact absurd h (p7 0)
 |cons a r=>
  cases xs with
  |nil=>cases e
  |cons x xs=>injection e with e1 _;cases e1
theorem bV.YS(h:bV K C H0 H o dx cl co ro rws n m T):cl≠co:=fun e=>by
 have z:=h.cols
 rw[<-e,h.cells]at z
 exact jR (by rw[h.len];omega) (HO.lst.inj (p8 z))
theorem bV.YQ(h:bV K C H0 H o dx cl co ro rws n m T):cl≠ro:=fun e=>by
 have z:=h.rows
 rw[<-e,h.cells]at z
 exact jR (by rw[h.len];omega) (HO.lst.inj (p8 z))
theorem bV.YM(h:bV K C H0 H o dx cl co ro rws n m T){r:Nat}{a:Addr}(e:rws[r]? =some a):a≠cl:=fun z=>by
 have y:=h.row r a e
 rw[z,h.cells]at y
 exact jR (by rw[h.len];omega) (HO.lst.inj (p8 y))
theorem bV.orow(h:bV K C H0 H o dx cl co ro rws n m T){r:Nat}{a:Addr}(e:rws[r]? =some a):a≠o:=fun z=>by
 have y:=h.row r a e
 rw[z,h.at_]at y
 cases y
theorem bV.Jd(h:bV K C H0 H o dx cl co ro rws n m T){V0:Addr}{Ax:List Addr}{X:Nat->Nat->Int}(h0:H0 V0=none)(hc:H V0=some (.lst (Ax.map V.ref)))(hl:Ax.length=m+1)(hr:∀r a,Ax[r]? =some a->H a=some (.lst (aN n (X r))))(n1:co∉Ax)(n2:ro∉Ax):
  bV K C H0 (upd H o (.ins C dx (putF "cells" (.ref V0) (flds cl co ro T.over)))) o dx V0 co ro Ax n m {T with cell:=X}:=by
 have k:∀b,b≠o->∀u,H b=some u->(upd H o (.ins C dx (putF "cells" (.ref V0) (flds cl co ro T.over)))) b=some u:=fun b hb u e=>by rw[cu hb];exact e
 refine⟨h.same.sS h.o0,h.o0,h0,h.Rf,h.QS,h.ne,n1,n2,aJ,k _ (fun e=> ?_) _ hc,hl,fun r a e=>k _ (fun z=> ?_) _ (hr r a e),k _ h.oco.symm _ h.cols,k _ h.oro.symm _ h.rows⟩
 ·rw[e,h.at_]at hc;cases hc
 ·have y:=hr r a e
  rw[z,h.at_]at y
  cases y
theorem bV.RT(h:bV K C H0 H o dx cl co ro rws n m T){p:Nat}{a:Addr}{X:Nat->Int}(hp:p<=m)(ha:H a=some (.lst (aN n X)))(n1:co≠a)(n2:ro≠a):
  bV K C H0 (upd H cl (.lst ((rws.map V.ref).set p (.ref a)))) o dx cl co ro (rws.set p a) n m {T with cell:=fun r c=>if r=p then X c else T.cell r c}:=by
 have k:∀b,b≠cl->∀u,H b=some u->(upd H cl (.lst ((rws.map V.ref).set p (.ref a)))) b=some u:=fun b hb u e=>by rw[cu hb];exact e
 have hac:a≠cl:=fun z=>by
  rw[z,h.cells]at ha
  exact jR (by rw[h.len];omega) (HO.lst.inj (p8 ha))
 refine⟨h.same.sS h.Ut,h.o0,h.Ut,h.Rf,h.QS,h.ne,fun z=> ?_,fun z=> ?_,k _ h.ocl _ h.at_,by rw[aJ,ZQ],by rw[wed];exact h.len,fun r b e=> ?_,k _ h.YS.symm _ h.cols,k _ h.YQ.symm _ h.rows⟩
 ·rcases wey z with z|z
  ·exact h.nc z
  ·exact n1 z
 ·rcases wey z with z|z
  ·exact h.nr z
  ·exact n2 z
 ·rw[wdl]at e
  by_cases c:p=r
  ·rw[au c,au (by rw[h.len];omega)]at e
   cases e
   rw[k _ hac _ ha]
   exact jh (fun l=>some (HO.lst l)) (lq fun c' _=>by show X c'=if r=p then X c' else T.cell r c';rw[au c.symm])
  ·rw[ao c]at e
   rw[k _ (h.YM e) _ (h.row r b e)]
   exact jh (fun l=>some (HO.lst l)) (lq fun c' _=>by show T.cell r c'=if r=p then X c' else T.cell r c';rw[ao (jY c)])
theorem bV.setOver(h:bV K C H0 H o dx cl co ro rws n m T)(v:Int):bV K C H0 (upd H o (.ins C dx (putF "over" (.int v) (flds cl co ro T.over)))) o dx cl co ro rws n m {T with over:=v}:=by
 have k:∀b,b≠o->∀u,H b=some u->(upd H o (.ins C dx (putF "over" (.int v) (flds cl co ro T.over)))) b=some u:=fun b hb u e=>by rw[cu hb];exact e
 exact⟨h.same.sS h.o0,h.o0,h.Ut,h.Rf,h.QS,h.ne,h.nc,h.nr,aJ,k _ h.ocl.symm _ h.cells,h.len,fun r a e=>k _ (h.orow e) _ (h.row r a e),k _ h.oco.symm _ h.cols,k _ h.oro.symm _ h.rows⟩
theorem bV.Nk(h:bV K C H0 H o dx cl co ro rws n m T){p:Nat}(v:Nat)(hp:p<m):bV K C H0 (upd H ro (.lst (((bL m T.row).map V.int).set p (.int (v:Int))))) o dx cl co ro rws n m {T with row:=fun r=>if r=p then v else T.row r}:=by
 have k:∀b,b≠ro->∀u,H b=some u->(upd H ro (.lst (((bL m T.row).map V.int).set p (.int (v:Int))))) b=some u:=fun b hb u e=>by rw[cu hb];exact e
 refine⟨h.same.sS h.QS,h.o0,h.Ut,h.Rf,h.QS,h.ne,h.nc,h.nr,k _ h.oro _ h.at_,k _ h.YQ _ h.cells,h.len,fun r a e=>k _ (fun z=>h.nr (z▸lX e)) _ (h.row r a e),k _ h.ne _ h.cols,?_⟩
 rw[aJ,<-ZQ,uc _ _ hp]
theorem bV.Nm(h:bV K C H0 H o dx cl co ro rws n m T){q:Nat}(v:Nat)(hq:q<n):bV K C H0 (upd H co (.lst (((bL n T.col).map V.int).set q (.int (v:Int))))) o dx cl co ro rws n m {T with col:=fun c=>if c=q then v else T.col c}:=by
 have k:∀b,b≠co->∀u,H b=some u->(upd H co (.lst (((bL n T.col).map V.int).set q (.int (v:Int))))) b=some u:=fun b hb u e=>by rw[cu hb];exact e
 refine⟨h.same.sS h.Rf,h.o0,h.Ut,h.Rf,h.QS,h.ne,h.nc,h.nr,k _ h.oco _ h.at_,k _ h.YS _ h.cells,h.len,fun r a e=>k _ (fun z=>h.nc (z▸lX e)) _ (h.row r a e),?_,k _ h.ne.symm _ h.rows⟩
 rw[aJ,<-ZQ,uc _ _ hq]
end
theorem Ju{n q:Nat}(X:Nat->Int)(v:Int)(h:q<=n):((aN n X).take q++[.int v])++(aN n X).drop (q+1)=aN n fun c=>if c=q then v else X c:=by
 rw[<-xV X v h,List.set_eq_take_append_cons_drop,au (by rw[Er];omega),MK]
 rfl
def QB(K:W.Frag)(C:Addr):Sp:=fun vs H Q _=>∃(o:Addr) (H0:Hp) (n m p q:Nat) (S:Nat->Nat->Bool) (wt:Nat->Int) (T:Sx.Tab),vs=[.ref o,.int (p:Int),.int (q:Int)]/\jH K C H0 H o n m T/\TG n m S wt T/\p<m/\q<n/\∀H',jH K C H0 H' o n m (Sx.turn T p q)->Q .non H'
theorem uW:FnScope ["self","row","column","pivots","by","name"] ["self","row","column"] (defScope Y8):=fsc
theorem SM{f f1 C:Addr}{fd d1:FuncData}(F:Fun K "turn" "Tableau.turn" Y8 f fd)
  (Cc:Cls K C)(aQ:NoAttr K C "cells")(cT:NoAttr K C "over")(aM:NoAttr K C "columns")(bU:NoAttr K C "rows")(D1:GZ K C "turned" "Tableau.turned" Zh ["self","cells","pivots","column"] f1 d1)(G1:FnOk P w K mg base CX0 1 f1 d1 ["self","cells","pivots","column"] (QD K C)):
  FnOk P w K mg base CX0 2 f fd ["self","row","column"] (QB K C):=by
 refine F.ok uW (fun vs H Q E h=> ?_) (fun cdv A outer s H vs Q E hr h=> ?_)
 ·obtain⟨o,H0,n,m,p,q,S,wt,T,rfl,_⟩:=h
  rfl
 obtain⟨o,H0,n,m,p,q,S,wt,T,rfl,⟨dx,cl,co,ro,rws,hT⟩,hG,hp,hq,qq⟩:=h
 refine⟨_,(aO (cW (i:=3) uW.nd rfl (Or.inr rfl) (bM nO (nM (pv 0) rfl) (pv 1) (fun _ _=>rfl))) (aO (cW (i:=4) uW.nd rfl (Or.inl rfl) (bM nO (pv 3) (pv 2) (fun _ _=>rfl))) (aO (ps_fld (pv 0) (pZ (own:=["cells"]) (caps:=["self","pivots","column"]) (ix:=[0,3,2]) rfl (CP (nM (pv 0) rfl)) rfl rfl (.cons rfl rfl (.cons rfl rfl (.cons rfl rfl .nil))) (fun _ _ _ _ _=>(cZ (i:=0) (show(["cells","self","pivots","column"]:List Str).Nodup from by decide+kernel) rfl (Or.inl rfl))) (fun _ _ _ _ _=>sy) (fun _ _ _ _ _=>(pe_meth (pv 1) Cc D1.m G1 hr D1.b .nil pass0 (aj (pv 0) (aj (pv 2) (aj (pv 3) aA)))))) rfl) (aO (ps_asg (bK op_cat (bK op_cat (pe_slice sl_list (pv 3) po_none (po_some (pv 2))) (pe_lst (aj (nM (pv 0) rfl) aA))) (pe_slice sl_list (pv 3) (po_some (bK su (pv 2) aK)) po_none)) (pg_sub (nM (pv 0) rfl) (pv 1) set_list)) (aO (ps_fld (pv 0) (pv 4) rfl) (aO (cW (i:=5) uW.nd rfl (Or.inl rfl) (bM nO (nM (pv 0) rfl) (pv 1) (fun _ _=>rfl))) (aO (ps_asg (bM nO (nM (pv 0) rfl) (pv 2) (fun _ _=>rfl)) (pg_sub (nM (pv 0) rfl) (pv 1) set_list)) (bw (ps_asg (pv 5) (pg_sub (nM (pv 0) rfl) (pv 2) set_list)))))))))),?_⟩
 obtain⟨pa,pe,pi,pr⟩:=hT.Fp (cQ hp)
 refine⟨_,rfl,o,C,dx,_,_,rfl,hT.at_,Cc,aQ,rfl,_,rfl,cl,_,_,_,rfl,rfl,SqL.of hT.cells,pi,?_⟩
 refine⟨_,rfl,_,rfl,pa,_,_,_,rfl,rfl,SqL.of pr,dW _ (cQ hq),?_⟩
 refine⟨_,rfl,o,C,dx,_,_,rfl,hT.at_,Cc,aQ,rfl,cl,_,rfl,SqL.of hT.cells,fun hz=> ?_⟩
 refine Hi (xs:=rws.map V.ref) (fun i acc σ H'=>∃as:List Addr,acc=as.map V.ref/\as.length=i/\Same H H'/\(∀r a,as[r]? =some a->H a=none/\H' a=some (.lst (aN n (tdF T.over (T.cell r) (T.cell p) q))))/\∃o1,σ=[o1,some (.ref o),some (.ref pa),some (.int (q:Int))]) ⟨[],rfl,rfl,Same.refl _,fun r a e=>(nomatch e),_,rfl⟩ (fun i acc σ H' _ x=> ?_) (fun i acc σ H' _ x=> ?_) hz (fun i v acc σ H' hv x=> ?_) (fun acc σ H' x=> ?_)
 ·obtain⟨_,_,_,sm,_⟩:=x
  exact sm.seq (SqL.of hT.cells)
 ·obtain⟨as,rfl,hl,_⟩:=x
  rw[aG,hl];exact aH _
 ·obtain⟨as,rfl,hl,sm,has,o1,rfl⟩:=x
  rw[c7]at hv
  cases er:rws[i]? with
  |none=>rw[er]at hv;cases hv
  |some ra=>
   rw[er]at hv
   cases hv
   have him:i<=m:=by have:=(qy.mp er).1;rw[hT.len]at this;omega
   refine⟨_,rfl,o,dx,_,rfl,sm _ _ hT.at_,rfl,_,rfl,_,rfl,_,rfl,o,ra,pa,H0,n,m,q,T.cell i,T.cell p,T,rfl,⟨dx,cl,co,ro,rws,hT.sm sm⟩,hG.n10,hG.over,cQ hq,sm _ _ (hT.row i ra er),sm _ _ pr,fun c hc=>⟨hG.cell him hc,hG.cell (cQ hp) hc⟩,fun r1 H1 s1 h1 e1=> ?_⟩
   refine⟨as++[r1],by rw[cJ];rfl,by rw[lW,hl];rfl,sm.trans s1,fun r a e=> ?_,_,rfl⟩
   rw[wdv]at e
   by_cases c:r<as.length
   ·rw[au c]at e
    exact⟨(has r a e).1,s1 _ _ (has r a e).2⟩
   ·rw[ao c]at e
    have YD:r-as.length=0:=by
     have:=(qy.mp e).1
     have:r-as.length<1:=this
     omega
    rw[YD]at e
    cases e
    have:r=i:=by omega
    subst this
    exact⟨sm.none h1,e1⟩
 ·intro p1 hp1
  obtain⟨as,rfl,hl,sm,has,_⟩:=x
  rw[aG,hT.len]at hl
  have s1:=aY hp1 (.lst (as.map V.ref))
  have hT1:=hT.sm (sm.trans s1)
  have h10:H0 p1=none:=hT.same.none (sm.none hp1)
  have nas:∀b u,H b=some u->b∉as:=fun b u hb hm=>by
   obtain⟨r,hr1,rfl⟩:=zR hm
   have:=(has r _ (gn hr1)).1
   rw[hb]at this;cases this
  have hT2:=hT1.Jd (V0:=p1) (Ax:=as) (X:=fun r=>tdF T.over (T.cell r) (T.cell p) q) h10 aJ hl (fun r a e=>s1 _ _ (has r a e).2) (nas _ _ hT.cols) (nas _ _ hT.rows)
  refine⟨_,rfl,o,C,dx,_,rfl,hT1.at_,Cc,aQ,(by show 4<1000;decide),?_⟩
  have npo:pa≠o:=hT.orow pe
  have pr2:=(sm.trans s1) _ _ pr
  have pr3:(upd (upd H' p1 (.lst (as.map V.ref))) o (.ins C dx (putF "cells" (.ref p1) (flds cl co ro T.over)))) pa=some (.lst (aN n (T.cell p))):=by rw[cu npo];exact pr2
  generalize (upd (upd H' p1 (.lst (as.map V.ref))) o (.ins C dx (putF "cells" (.ref p1) (flds cl co ro T.over))))=H2 at *
  -- the row of the turn
  refine⟨_,rfl,_,rfl,_,rfl,pa,_,rfl,SqL.of pr3,fun l1 hl1=> ?_⟩
  have t1:=aY hl1 (.lst (cutV (aN n (T.cell p)) none (some (q:Int))))
  have f1:(upd H2 l1 (.lst (cutV (aN n (T.cell p)) none (some (q:Int))))) l1=some (.lst (cutV (aN n (T.cell p)) none (some (q:Int)))):=aJ
  generalize (upd H2 l1 (.lst (cutV (aN n (T.cell p)) none (some (q:Int)))))=H3 at *
  refine⟨_,rfl,o,C,dx,_,_,rfl,t1 _ _ hT2.at_,Cc,cT,rfl,(by show 1<=sizeLine;decide),fun l2 hl2=> ?_⟩
  have t2:=aY hl2 (.lst [.int T.over])
  have f2:(upd H3 l2 (.lst [.int T.over])) l2=some (.lst [.int T.over]):=aJ
  have f1':=t2 _ _ f1
  refine⟨l1,l2,_,_,rfl,rfl,f1',f2,?_,fun l3 hl3=> ?_⟩
  ·have:=cutV_length (aN n (T.cell p)) none (some (q:Int))
   rw[Er]at this
   have:=hG.n10
   rw[fM];show _+1<=_;omega
  have t3:=aY hl3 (.lst (cutV (aN n (T.cell p)) none (some (q:Int))++[.int T.over]))
  have f3:(upd (upd H3 l2 (.lst [.int T.over])) l3 (.lst (cutV (aN n (T.cell p)) none (some (q:Int))++[.int T.over]))) l3=some (.lst (cutV (aN n (T.cell p)) none (some (q:Int))++[.int T.over])):=aJ
  have t13:=t1.trans (t2.trans t3)
  generalize (upd (upd H3 l2 (.lst [.int T.over])) l3 (.lst (cutV (aN n (T.cell p)) none (some (q:Int))++[.int T.over])))=H5 at *
  refine⟨_,rfl,_,rfl,_,_,rfl,rfl,_,rfl,pa,_,rfl,SqL.of (t13 _ _ pr3),fun l4 T6=> ?_⟩
  have t4:=aY T6 (.lst (cutV (aN n (T.cell p)) (some ((q:Int)+1)) none))
  refine⟨l3,l4,_,_,rfl,rfl,t4 _ _ f3,aJ,?_,fun l5 hl5=> ?_⟩
  ·have a1:=cutV_length (aN n (T.cell p)) none (some (q:Int))
   have a2:=cutV_length (aN n (T.cell p)) (some ((q:Int)+1)) none
   rw[Er]at a1 a2
   have:=hG.n10
   rw[lW,fM];show _+1+_<=_;omega
  have t5:=aY hl5 (.lst ((cutV (aN n (T.cell p)) none (some (q:Int))++[.int T.over])++cutV (aN n (T.cell p)) (some ((q:Int)+1)) none))
  have aay:(cutV (aN n (T.cell p)) none (some (q:Int))++[.int T.over])++cutV (aN n (T.cell p)) (some ((q:Int)+1)) none=aN n fun c=>if c=q then T.over else T.cell p c:=by
   rw[PB (by rw[Er];omega),show(q:Int)+1=((q+1:Nat):Int)from by omega,GK (by rw[Er];omega)]
   exact Ju _ _ (cQ hq)
  rw[aay]at t5⊢
  have hT3:=hT2.sm (t13.trans (t4.trans t5))
  have f5:(upd (upd H5 l4 (.lst (cutV (aN n (T.cell p)) (some ((q:Int)+1)) none))) l5 (.lst (aN n fun c=>if c=q then T.over else T.cell p c))) l5=some (.lst (aN n fun c=>if c=q then T.over else T.cell p c)):=aJ
  have g1:co≠l5:=j7 ((t13.trans t4) _ _ hT2.cols) hl5
  have g2:ro≠l5:=j7 ((t13.trans t4) _ _ hT2.rows) hl5
  generalize (upd (upd H5 l4 (.lst (cutV (aN n (T.cell p)) (some ((q:Int)+1)) none))) l5 (.lst (aN n fun c=>if c=q then T.over else T.cell p c)))=H6 at *
  have Vz:=hT3.RT (p:=p) (cQ hp) f5 g1 g2
  refine⟨_,rfl,o,C,dx,_,_,rfl,hT3.at_,Cc,aQ,rfl,_,rfl,p1,_,_,p,rfl,rfl,hT3.cells,?_,?_⟩
  ·have e:ixN (as.map V.ref).length (p:Int)=some p:=by
    rw[aG,hl];unfold ixN
    rw[au (by omega),au (by omega)];rfl
   exact e
  generalize (upd H6 p1 (.lst ((as.map V.ref).set p (.ref l5))))=H7 at *
  have hT5:=Vz.setOver (T.cell p q)
  refine⟨_,rfl,_,rfl,o,C,dx,_,rfl,Vz.at_,Cc,cT,(by show 4<1000;decide),?_⟩
  generalize (upd H7 o (.ins C dx (putF "over" (.int (T.cell p q)) (flds p1 co ro T.over))))=H8 at *
  refine⟨_,rfl,o,C,dx,_,_,rfl,hT5.at_,Cc,bU,rfl,_,rfl,ro,_,_,_,rfl,rfl,SqL.of hT5.rows,m6 _ hp,?_⟩
  refine⟨_,rfl,o,C,dx,_,_,rfl,hT5.at_,Cc,aM,rfl,_,rfl,co,_,_,_,rfl,rfl,SqL.of hT5.cols,m6 _ hq,?_⟩
  have Vy:=hT5.Nk (p:=p) (T.col q) hp
  refine⟨_,rfl,o,C,dx,_,_,rfl,hT5.at_,Cc,bU,rfl,_,rfl,ro,_,_,p,rfl,rfl,hT5.rows,?_,?_⟩
  ·have e:ixN ((bL m T.row).map V.int).length (p:Int)=some p:=by
    rw[aG,Es];unfold ixN
    rw[au (by omega),au (by omega)];rfl
   exact e
  generalize (upd H8 ro (.lst (((bL m T.row).map V.int).set p (.int ((T.col q:Nat):Int)))))=H9 at *
  have yK:=Vy.Nm (q:=q) (T.row p) hq
  refine⟨_,rfl,_,rfl,o,C,dx,_,_,rfl,Vy.at_,Cc,aM,rfl,_,rfl,co,_,_,q,rfl,rfl,Vy.cols,?_,?_⟩
  ·have e:ixN ((bL n T.col).map V.int).length (q:Int)=some q:=by
    rw[aG,Es];unfold ixN
    rw[au (by omega),au (by omega)];rfl
   exact e
  refine qq _ ⟨dx,p1,co,ro,_,yK.same,yK.o0,yK.Ut,yK.Rf,yK.QS,yK.ne,yK.nc,yK.nr,yK.at_,yK.cells,yK.len,fun r a e=> ?_,yK.cols,yK.rows⟩
  rw[yK.row r a e]
  refine jh (fun l=>some (HO.lst l)) (lq fun c _=> ?_)
  show(if r=p then(if c=q then T.over else T.cell p c)else tdF T.over (T.cell r) (T.cell p) q c)=_
  rfl
end
section
variable{P:Program}{w:World}{K:W.Frag}{mg:Str->Option Value}{base:Heap}
theorem Jt{n m:Nat}{S:Nat->Nat->Bool}{wt:Nat->Int}{Ts:Nat->Sx.Tab}{ps qs:Nat->Nat}{L p q:Nat}(R:Sx.Run n m S wt Ts ps qs L)(s:Sx.Step n m (Ts L) p q):
  Sx.Run n m S wt (fun t=>if t<=L then Ts t else Sx.turn (Ts L) p q) (fun t=>if t<L then ps t else p) (fun t=>if t<L then qs t else q) (L+1):=by
 refine⟨by rw[au (cX L)];exact R.first,fun t ht=> ?_,fun t ht=> ?_⟩
 ·by_cases c:t<L
  ·rw[au (cQ c),au c,au c];exact R.step t c
  ·have e:t=L:=by omega
   subst e
   rw[au (aH t),ao c,ao c];exact s
 ·by_cases c:t<L
  ·rw[au (show t+1<=L from c),au (cQ c),au c,au c];exact R.next t c
  ·have e:t=L:=by omega
   subst e
   rw[ao (by omega),au (aH t),ao c,ao c]
structure Sta(n m:Nat)(S:Nat->Nat->Bool)(wt:Nat->Int):Prop where
 n10:n<=10
 Xx:m<=40
 wb:∀p,p<n->0<=wt p/\wt p<=99
 cov:∀p,p<n->∃k,k<m/\S k p=true
theorem Sta.tg{n m:Nat}{S:Nat->Nat->Bool}{wt:Nat->Int}{T:Sx.Tab}(h:Sta n m S wt)(g:Sx.Good n m S wt T):TG n m S wt T:=⟨g,h.n10,h.Xx,h.wb,h.cov⟩
def NcV(n m:Nat)(T:Sx.Tab)(x:V):Prop:=(x= .non/\∀c,c<n->0<=T.cell m c)\/∃q:Nat,x= .int (q:Int)/\q<n/\T.cell m q<0/\∀c,c<n->T.cell m c<0->T.col q<=T.col c
def Ln(K:W.Frag)(C o:Addr)(H0:Hp)(n m:Nat)(S:Nat->Nat->Bool)(wt:Nat->Int)(k:Nat)(σ:St)(H:Hp):Prop:=
 ∃(Ts:Nat->Sx.Tab) (ps qs:Nat->Nat) (L:Nat) (x:V),Sx.Run n m S wt Ts ps qs L/\L+k=2^(n+m)/\jH K C H0 H o n m (Ts L)/\σ=[some (.ref o),some x]/\NcV n m (Ts L) x
def Ij(K:W.Frag)(C:Addr):Sp:=fun vs H Q _=>∃(o:Addr) (H0:Hp) (n m:Nat) (S:Nat->Nat->Bool) (wt:Nat->Int) (T:Sx.Tab),vs=[.ref o]/\jH K C H0 H o n m T/\Sta n m S wt/\Sx.Good n m S wt T/\
 ∀T' H',jH K C H0 H' o n m T'->Sx.Good n m S wt T'->(∀c,c<n->0<=T'.cell m c)->Q .non H'
theorem Am:FnScope ["self","column"] ["self"] (defScope Zc):=fsc
theorem SX{f f1 f2 f3 C:Addr}{fd d1 d2 d3:FuncData}(F:Fun K "solve" "Tableau.solve" Zc f fd)
  (Cc:Cls K C)(aQ:NoAttr K C "cells")(cT:NoAttr K C "over")(aM:NoAttr K C "columns")(bU:NoAttr K C "rows")(D1:GZ K C "next_column" "Tableau.next_column" Zu ["self"] f1 d1)(Y5:FnOk P w K mg base CX0 1 f1 d1 ["self"] (Im K C))(D2:GZ K C "turn" "Tableau.turn" Y8 ["self","row","column"] f2 d2)(G2:FnOk P w K mg base CX0 2 f2 d2 ["self","row","column"] (QB K C))(D3:GZ K C "next_row" "Tableau.next_row" Zn ["self","column"] f3 d3)(G3:FnOk P w K mg base CX0 2 f3 d3 ["self","column"] (QF K C)):
  FnOk P w K mg base CX0 3 f fd ["self"] (Ij K C):=by
 have G1:FnOk P w K mg base CX0 2 f1 d1 ["self"] (Im K C):=Y5.mono (by decide)
 refine F.ok Am (fun vs H Q E h=> ?_) (fun cdv A outer s H vs Q E hr h=> ?_)
 ·obtain⟨o,H0,n,m,S,wt,T,rfl,_⟩:=h
  rfl
 obtain⟨o,H0,n,m,S,wt,T,rfl,hT,hS,hg,qq⟩:=h
 refine⟨_,(aO (cW (i:=1) Am.nd rfl (Or.inl rfl) (pe_meth0 (pv 0) Cc D1.m G1 hr D1.b .nil pass0)) (bw (ps_while sG (gZ op_notN (pv 1) pe_non (nomark _)) (aO (tH (pe_meth (pv 0) Cc D2.m G2 hr D2.b .nil pass0 (aj (pe_meth (pv 0) Cc D3.m G3 hr D3.b .nil pass0 (aj (pv 1) aA)) (aj (pv 1) aA)))) (bw (cW (i:=1) Am.nd rfl (Or.inl rfl) (pe_meth0 (pv 0) Cc D1.m G1 hr D1.b .nil pass0))))))),?_⟩
 have key:∀(x:V) (H1:Hp),jH K C H0 H1 o n m T->NcV n m T x->∃k,Ln K C o H0 n m S wt k [some (.ref o),some x] H1:=fun x H1 h1 h2=>
  ⟨2^(n+m),fun _=>T,fun _=>0,fun _=>0,0,x,⟨hg,fun t ht=>absurd ht (MF t),fun t ht=>absurd ht (MF t)⟩,Nat.zero_add _,h1,rfl,h2⟩
 obtain⟨dx,cl,co,ro,rws,hA0⟩:=id hT
 refine⟨_,rfl,o,dx,_,rfl,hA0.at_,rfl,o,H0,n,m,S,wt,T,rfl,hT,hS.tg hg,?a,?b⟩
 case' a=>
  intro h H1 s1
  have w0:=key _ _ (hT.sm s1) (.inl ⟨rfl,h⟩)
  refine⟨Ln K C o H0 n m S wt,w0,?_⟩
  clear w0 s1 h
 case' b=>
  intro q H1 hq hn he s1
  have w0:=key _ _ (hT.sm s1) (.inr ⟨q,rfl,hq,hn,he⟩)
  refine⟨Ln K C o H0 n m S wt,w0,?_⟩
  clear w0 s1 he hn hq q
 all_goals
  clear H1
  intro k σ H1 h
  obtain⟨Ts,ps,qs,L,x,R,hk,⟨dx',cl,co,ro,rws,hA⟩,rfl,hx⟩:=h
  have T7:=R.good L (aH L)
  have hG:=hS.tg T7
  have hsh:=R.short
  rcases hx with⟨rfl,hx⟩|⟨q,rfl,hq,hn,he⟩
  ·refine⟨_,rfl,rfl,_,rfl,?_⟩
   refine iteF ?_
   exact qq (Ts L) H1 ⟨dx',cl,co,ro,rws,hA⟩ T7 hx
  ·refine⟨_,rfl,rfl,_,rfl,?_⟩
   refine iteT ?_
   refine⟨Ln K C o H0 n m S wt (k-1),fun σ' H' z=>⟨k-1,by omega,z⟩,?_⟩
   refine⟨_,rfl,o,dx',_,rfl,hA.at_,rfl,_,rfl,o,dx',_,rfl,hA.at_,rfl,_,rfl,o,H0,n,m,q,S,wt,Ts L,rfl,⟨dx',cl,co,ro,rws,hA⟩,hG,hq,fun p hp h0 hlev=> ?_⟩
   have st:Sx.Step n m (Ts L) p q:=⟨hp,hq,hn,he,h0,hlev⟩
   refine⟨_,rfl,o,H0,n,m,p,q,S,wt,Ts L,rfl,⟨dx',cl,co,ro,rws,hA⟩,hG,hp,hq,fun H2 hT2=> ?_⟩
   have R2:=Jt R st
   have g2:=st.good T7
   obtain⟨dx2,cl2,co2,ro2,aaI,VG⟩:=id hT2
   have fin:∀(x:V) (H3:Hp),Same H2 H3->NcV n m (Sx.turn (Ts L) p q) x->Ln K C o H0 n m S wt (k-1) [some (.ref o),some x] H3:=fun x H3 s3 hx=>by
    refine⟨_,_,_,L+1,x,R2,by omega,?_,rfl,?_⟩
    ·rw[ao (by omega)];exact hT2.sm s3
    ·rw[ao (by omega)];exact hx
   exact⟨_,rfl,o,dx2,_,rfl,VG.at_,rfl,o,H0,n,m,S,wt,_,rfl,hT2,hS.tg g2,fun h H3 s3=>fin _ H3 s3 (.inl ⟨rfl,h⟩),fun q' H3 hq' hn' he' s3=>fin _ H3 s3 (.inr ⟨q',rfl,hq',hn',he'⟩)⟩
def Y0(k:Nat)(i:Int)(r:Nat):Prop:=(i=(r:Int)/\r<=k)\/(i= -1/\r=k)
def xq(K:W.Frag)(C:Addr):Sp:=fun vs H Q _=>∃(o:Addr) (H0:Hp) (n m r c:Nat) (i j:Int) (S:Nat->Nat->Bool) (wt:Nat->Int) (T:Sx.Tab),vs=[.ref o,.int i,.int j]/\jH K C H0 H o n m T/\TG n m S wt T/\Y0 m i r/\Y0 n j c/\
 ∀p H' u v,Same H H'->H' p=some (.tup [.int u,.int ((v:Nat):Int)])->Low (T.cell r c) T.over.toNat u v->Q (.ref p) H'
theorem RX:FnScope ["self","row","column"] ["self","row","column"] (defScope UW):=fsc
theorem Td{f f1 C:Addr}{fd d1:FuncData}(F:Fun K "fraction_at" "Tableau.fraction_at" UW f fd)
  (Cc:Cls K C)(aQ:NoAttr K C "cells")(cT:NoAttr K C "over")(aM:NoAttr K C "columns")(bU:NoAttr K C "rows")(D1:bY K mg "lowest" iu ["a","b"] f1 d1)(G1:FnOk P w K mg base CX0 2 f1 d1 ["a","b"] (Dr K)):
  FnOk P w K mg base CX0 3 f fd ["self","row","column"] (xq K C):=by
 refine F.ok RX (fun vs H Q E h=> ?_) (fun cdv A outer s H vs Q E hr h=> ?_)
 ·obtain⟨o,H0,n,m,r,c,i,j,S,wt,T,rfl,_⟩:=h
  rfl
 obtain⟨o,H0,n,m,r,c,i,j,S,wt,T,rfl,⟨dx,cl,co,ro,rws,hT⟩,hG,hi,hj,qq⟩:=h
 refine⟨_,(bw (cI (pc G1 hr D1 (aj (bM nO (bM nO (nM (pv 0) rfl) (pv 1) (fun _ _=>rfl)) (pv 2) (fun _ _=>rfl)) (aj (nM (pv 0) rfl) aA))))),?_⟩
 have hri:∃a,atI (rws.map V.ref) i=some (.ref a)/\H a=some (.lst (aN n (T.cell r))):=by
  rcases hi with⟨rfl,h⟩|⟨rfl,rfl⟩
  ·obtain⟨a,_,h1,h2⟩:=hT.Fp h
   exact⟨a,h1,h2⟩
  ·obtain⟨a,_,h1,h2⟩:=hT.Xa
   exact⟨a,h1,h2⟩
 have hcj:atI (aN n (T.cell r)) j=some (.int (T.cell r c)):=by
  rcases hj with⟨rfl,h⟩|⟨rfl,rfl⟩
  ·exact dW _ h
  ·exact nU _ _
 obtain⟨a,h1,h2⟩:=hri
 have ho:=hG.over
 refine⟨_,rfl,o,C,dx,_,_,rfl,hT.at_,Cc,aQ,rfl,_,rfl,cl,_,_,_,rfl,rfl,SqL.of hT.cells,h1,_,rfl,a,_,_,_,rfl,rfl,SqL.of h2,hcj,?_⟩
 refine⟨_,rfl,o,C,dx,_,_,rfl,hT.at_,Cc,cT,rfl,T.cell r c,T.over.toNat,?_,by omega,eO (show T.over.toNat<=39916800 by omega) (by decide),fun p H' u v s e l=>qq p H' u v s e l⟩
 rw[show((T.over.toNat:Nat):Int)=T.over by omega];rfl
theorem yD{u:Int}{v b:Nat}(hb:0<b)(h:Low 0 1 u v):Low 0 b u v:=by
 have e:=h.eq
 have hu:u=0:=by omega
 subst hu
 have c:=h.cop
 rw[show(0:Int).natAbs=0 from rfl,Nat.gcd_zero_left]at c
 subst c
 exact⟨by decide,rfl,by omega,aH _,hb,fun _=>zM _⟩
def Il(K:W.Frag)(C:Addr):Sp:=fun vs H Q _=>∃(o:Addr) (H0:Hp) (n m a:Nat) (S:Nat->Nat->Bool) (wt:Nat->Int) (T:Sx.Tab),vs=[.ref o,.int (a:Int)]/\jH K C H0 H o n m T/\TG n m S wt T/\
 ∀p H' u v,Same H H'->H' p=some (.tup [.int u,.int ((v:Nat):Int)])->Low (Sx.Xs n m T a) T.over.toNat u v->Q (.ref p) H'
theorem RW:FnScope ["self","name"] ["self","name"] (defScope Zo):=fsc
theorem S8{f f1 f2 C:Addr}{fd d1 d2:FuncData}(F:Fun K "price_of" "Tableau.price_of" Zo f fd)
  (Cc:Cls K C)(aQ:NoAttr K C "cells")(cT:NoAttr K C "over")(aM:NoAttr K C "columns")(bU:NoAttr K C "rows")(D1:bY K mg "lowest" iu ["a","b"] f1 d1)(G1:FnOk P w K mg base CX0 2 f1 d1 ["a","b"] (Dr K))(D2:GZ K C "fraction_at" "Tableau.fraction_at" UW ["self","row","column"] f2 d2)(G2:FnOk P w K mg base CX0 3 f2 d2 ["self","row","column"] (xq K C)):
  FnOk P w K mg base CX0 4 f fd ["self","name"] (Il K C):=by
 refine F.ok RW (fun vs H Q E h=> ?_) (fun cdv A outer s H vs Q E hr h=> ?_)
 ·obtain⟨o,H0,n,m,a,S,wt,T,rfl,_⟩:=h
  rfl
 obtain⟨o,H0,n,m,a,S,wt,T,rfl,⟨dx,cl,co,ro,rws,hT⟩,hG,qq⟩:=h
 refine⟨_,(aO (lR (gZ (nW hr.units) (pv 1) (nM (pv 0) rfl) (by with_unfolding_all rfl)) (bw (cI (pc G1 hr D1 (aj aK (aj aK aA))))) lU) (bw (cI (pe_meth (pv 0) Cc D2.m G2 hr D2.b .nil pass0 (aj (pe_bm M7 wdc wdd nZ (nM (pv 0) rfl) (aj (pv 1) aA)) (aj (pe_un un_neg aK) aA)))))),?_⟩
 have ho:=hG.over
 refine⟨_,rfl,_,rfl,o,C,dx,_,_,rfl,hT.at_,Cc,bU,rfl,ro,_,_,.int (a:Int),rfl,.inl (SqL.of hT.rows),cY.ints _,.int _,LR _,rfl,(by show 0<=60;decide),_,rfl,?_⟩
 rw[any_ints]
 refine ite2 (fun c=> ?_) (fun c=> ?_)
 ·have c':((a:Nat):Int)∉bL m T.row:=by
   intro hm
   rw[fj hm]at c
   cases c
  refine⟨0,1,rfl,by decide,by decide,fun p H' u v s e l=>qq p H' u v s e ?_⟩
  rw[Sx.Qo fun r hr z=>c' (by
   have:=CN T.row hr
   rw[z]at this
   exact lX this)]
  exact yD (by omega) l
 ·have c':((a:Nat):Int)∈bL m T.row:=by
   refine Qw fun hm=>c ?_
   rw[jN hm];rfl
  obtain⟨r,hr1,er⟩:=zR c'
  have hr0:r<m:=by rw[Es]at hr1;exact hr1
  have e0:=gn hr1
  rw[er]at e0
  have ea:T.row r=a:=by
   rw[CN _ hr0]at e0
   exact Wt (p8 e0)
  subst ea
  refine⟨_,rfl,o,dx,_,rfl,hT.at_,rfl,_,rfl,o,C,dx,_,_,rfl,hT.at_,Cc,bU,rfl,.inl ⟨rfl,_,SqL.of hT.rows⟩,_,rfl,ro,bL m T.row,_,r,rfl,rfl,hT.rows,CN _ hr0,fun i hi e=> ?_,by rw[Es];have:=hG.Xx;omega,?_⟩
  ·rw[CN _ (by omega)]at e
   have:=hG.good.Jw i r (by omega) hr0 (Wt (p8 e))
   omega
  ·refine⟨_,rfl,o,H0,n,m,r,n,_,_,S,wt,T,rfl,⟨dx,cl,co,ro,rws,hT⟩,hG,.inl ⟨rfl,cQ hr0⟩,.inr ⟨rfl,rfl⟩,fun p H' u v s e l=>qq p H' u v s e ?_⟩
   rw[hG.good.Qq hr0]
   exact l
def Ik(K:W.Frag)(C:Addr):Sp:=fun vs H Q _=>∃(o:Addr) (H0:Hp) (n m a:Nat) (S:Nat->Nat->Bool) (wt:Nat->Int) (T:Sx.Tab),vs=[.ref o,.int (a:Int)]/\jH K C H0 H o n m T/\TG n m S wt T/\
 ∀p H' u v,Same H H'->H' p=some (.tup [.int u,.int ((v:Nat):Int)])->Low (Sx.Ys n m T a) T.over.toNat u v->Q (.ref p) H'
theorem RV:FnScope ["self","name"] ["self","name"] (defScope Zq):=fsc
theorem S6{f f1 f2 C:Addr}{fd d1 d2:FuncData}(F:Fun K "share_of" "Tableau.share_of" Zq f fd)
  (Cc:Cls K C)(aQ:NoAttr K C "cells")(cT:NoAttr K C "over")(aM:NoAttr K C "columns")(bU:NoAttr K C "rows")(D1:bY K mg "lowest" iu ["a","b"] f1 d1)(G1:FnOk P w K mg base CX0 2 f1 d1 ["a","b"] (Dr K))(D2:GZ K C "fraction_at" "Tableau.fraction_at" UW ["self","row","column"] f2 d2)(G2:FnOk P w K mg base CX0 3 f2 d2 ["self","row","column"] (xq K C)):
  FnOk P w K mg base CX0 4 f fd ["self","name"] (Ik K C):=by
 refine F.ok RV (fun vs H Q E h=> ?_) (fun cdv A outer s H vs Q E hr h=> ?_)
 ·obtain⟨o,H0,n,m,a,S,wt,T,rfl,_⟩:=h
  rfl
 obtain⟨o,H0,n,m,a,S,wt,T,rfl,⟨dx,cl,co,ro,rws,hT⟩,hG,qq⟩:=h
 refine⟨_,(aO (lR (gZ (nW hr.units) (pv 1) (nM (pv 0) rfl) (by with_unfolding_all rfl)) (bw (cI (pc G1 hr D1 (aj aK (aj aK aA))))) lU) (bw (cI (pe_meth (pv 0) Cc D2.m G2 hr D2.b .nil pass0 (aj (pe_un un_neg aK) (aj (pe_bm M7 wdc wdd nZ (nM (pv 0) rfl) (aj (pv 1) aA)) aA)))))),?_⟩
 have ho:=hG.over
 refine⟨_,rfl,_,rfl,o,C,dx,_,_,rfl,hT.at_,Cc,aM,rfl,co,_,_,.int (a:Int),rfl,.inl (SqL.of hT.cols),cY.ints _,.int _,LR _,rfl,(by show 0<=60;decide),_,rfl,?_⟩
 rw[any_ints]
 refine ite2 (fun c=> ?_) (fun c=> ?_)
 ·have c':((a:Nat):Int)∉bL n T.col:=by
   intro hm
   rw[fj hm]at c
   cases c
  refine⟨0,1,rfl,by decide,by decide,fun p H' u v s e l=>qq p H' u v s e ?_⟩
  rw[Sx.V5 fun r hr z=>c' (by
   have:=CN T.col hr
   rw[z]at this
   exact lX this)]
  exact yD (by omega) l
 ·have c':((a:Nat):Int)∈bL n T.col:=by
   refine Qw fun hm=>c ?_
   rw[jN hm];rfl
  obtain⟨r,hr1,er⟩:=zR c'
  have hr0:r<n:=by rw[Es]at hr1;exact hr1
  have e0:=gn hr1
  rw[er]at e0
  have ea:T.col r=a:=by
   rw[CN _ hr0]at e0
   exact Wt (p8 e0)
  subst ea
  refine⟨_,rfl,o,dx,_,rfl,hT.at_,rfl,_,rfl,_,rfl,o,C,dx,_,_,rfl,hT.at_,Cc,aM,rfl,.inl ⟨rfl,_,SqL.of hT.cols⟩,_,rfl,co,bL n T.col,_,r,rfl,rfl,hT.cols,CN _ hr0,fun i hi e=> ?_,by rw[Es];have:=hG.n10;omega,?_⟩
  ·rw[CN _ (by omega)]at e
   have:=hG.good.Ca i r (by omega) hr0 (Wt (p8 e))
   omega
  ·refine⟨o,H0,n,m,m,r,_,_,S,wt,T,rfl,⟨dx,cl,co,ro,rws,hT⟩,hG,.inr ⟨rfl,rfl⟩,.inl ⟨rfl,cQ hr0⟩,fun p H' u v s e l=>qq p H' u v s e ?_⟩
   rw[hG.good.V6 hr0]
   exact l
def gP(L:List (List Int))(k p:Nat):Bool:=decide (((p:Nat):Int)∈L.getD k [])
def tK(wl:List Int)(p:Nat):Int:=wl.getD p 0
theorem R9{n m r:Nat}{L:List (List Int)}{wt:Nat->Int}(hr:r<m):((List.range n).map fun(p:Nat)=>if decide (((p:Nat):Int)∈L.getD r [])=true then(1:Int)else 0).map V.int++[.int 1]=aN n ((Sx.start n m (gP L) wt).cell r):=by
 unfold aN
 rw[CV,cJ,cJ]
 congr 1
 ·refine jh _ (Zw fun c hc=> ?_)
  have hc':=sI.mp hc
  show _=if r=m then _ else if c=n then(1:Int)else if gP L r c=true then 1 else 0
  rw[ao (show¬r=m by omega),ao (show¬c=n by omega)]
  rfl
 ·show[V.int 1]=[V.int (if r=m then _ else if n=n then(1:Int)else _)]
  rw[ao (by omega),au rfl]
theorem NP{m:Nat}{L:List (List Int)}{wl:List Int}:(wl.map fun x=> -x).map V.int++[.int 0]=aN wl.length ((Sx.start wl.length m (gP L) (tK wl)).cell m):=by
 unfold aN
 rw[CV,cJ,cJ]
 congr 1
 ·refine jh _ (V8 fun i=> ?_)
  rw[c7,c7]
  by_cases hi:i<wl.length
  ·rw[gn hi,Wb hi]
   show some (-wl[i])=some (if m=m then(if i=wl.length then(0:Int)else -(wl.getD i 0))else _)
   rw[au rfl,ao (by omega),kO,gn hi]
   rfl
  ·rw[Mp (by omega),Mp (by rw[sJ];omega)];rfl
 ·show[V.int 0]=[V.int (if m=m then(if wl.length=wl.length then(0:Int)else _)else _)]
  rw[au rfl,au rfl]
theorem _root_.L2.SqT.aac{H:Hp}{a o C dx:Addr}{fs:List (Str×V)}{u:HO}{xs:List V}(hO:H o=some (.ins C dx fs))(h:SqT K H a xs):SqT K (upd H o u) a xs:=by
 rcases h with(h|⟨ob,h⟩)|h
 ·exact .inl (.inl (by rw[cu (ne_of h hO fun e=>nomatch e)];exact h))
 ·exact .inl (.inr ⟨ob,by rw[cu (ne_of h hO fun e=>nomatch e)];exact h⟩)
 ·exact .inr h
def Aa(K:W.Frag)(C:Addr):Sp:=fun vs H Q _=>∃(o dx sl wa:Addr) (H0:Hp) (its:List (Addr×List Int)) (wl:List Int),vs=[.ref o,.ref sl,.ref wa]/\H o=some (.ins C dx [])/\Same H0 H/\H0 o=none/\H sl=some (.lst (its.map fun p=>V.ref p.1))/\(∀p∈its,SqT K H p.1 (p.2.map V.int))/\SqT K H wa (wl.map V.int)/\wl.length<=10/\its.length<=40/\
 ∀H',jH K C H0 H' o wl.length its.length (Sx.start wl.length its.length (gP (its.map (·.2))) (tK wl))->Q .non H'
theorem DG:FnScope ["self","sets","wants","n"] ["self","sets","wants"] (defScope Y7):=fsc
theorem Oc{f C:Addr}{fd:FuncData}(F:Fun K "__init__" "Tableau.__init__" Y7 f fd)
  (Cc:Cls K C)(aQ:NoAttr K C "cells")(cT:NoAttr K C "over")(aM:NoAttr K C "columns")(bU:NoAttr K C "rows")(cN:mg "len"=none)(aD:mg "range"=none)(iV:mg "list"=none):
  FnOk P w K mg base CX0 1 f fd ["self","sets","wants"] (Aa K C):=by
 refine F.ok DG (fun vs H Q E h=> ?_) (fun cdv A outer s H vs Q E hr h=> ?_)
 ·obtain⟨o,dx,sl,wa,H0,its,wl,rfl,_⟩:=h
  rfl
 obtain⟨o,dx,sl,wa,H0,its,wl,rfl,hO,hS0,h0,hS,hP,hW,hn,hm,qq⟩:=h
 refine⟨_,(aO (cW (i:=3) DG.nd rfl (Or.inr rfl) (fW zP rfl cN wX (aj (pv 2) aA))) (aO (ps_fld (pv 0) (JD (own:=["some"]) (caps:=["n"]) (ix:=[3]) rfl (CP (pv 1)) rfl rfl (.cons rfl rfl .nil) (fun _ _ _ _ _=>(cZ (i:=0) (show(["some","n"]:List Str).Nodup from by decide+kernel) rfl (Or.inr rfl))) (fun _ _ _ _ _=>sy) (fun _ _ _ _ _=>(bK op_cat (pZ (own:=["place"]) (caps:=["some"]) (ix:=[0]) rfl (CT rfl aD (aj (pv 1) aA)) rfl rfl (.cons rfl rfl .nil) (fun _ _ _ _ _=>(cZ (i:=0) (show(["place","some"]:List Str).Nodup from by decide+kernel) rfl (Or.inl rfl))) (fun _ _ _ _ _=>sy) (fun _ _ _ _ _=>(pe_ifExp (gZ (qj K hr.units) (pv 0) (pv 1) (by with_unfolding_all rfl)) aK aK))) (pe_lst (aj aK aA))))) rfl) (aO (tH (pe_bm M7 wcd wce mt_append (nM (pv 0) rfl) (aj (bK op_cat (pZ (own:=["want"]) (caps:=[]) (ix:=[]) rfl (Eo (pv 2)) rfl rfl .nil (fun _ _ _ _ _=>(cZ (i:=0) (show(["want"]:List Str).Nodup from by decide+kernel) rfl (Or.inl rfl))) (fun _ _ _ _ _=>sy) (fun _ _ _ _ _=>(pe_un un_neg (pv 0)))) (pe_lst (aj aK aA))) aA))) (aO (ps_fld (pv 0) aK rfl) (aO (ps_fld (pv 0) (pG rfl rfl iV rfl aD (aj (pv 3) aA)) rfl) (bw (ps_fld (pv 0) (vo rfl rfl iV rfl aD (aj (pv 3) (aj (bK su (pv 3) (fW zP rfl cN wX (aj (pv 1) aA))) aA))) rfl))))))),?_⟩
 refine⟨_,rfl,wa,_,rfl,.inr hW,fun _=> ?_⟩
 rw[aG]
 refine⟨_,rfl,sl,_,rfl,SqL.of hS,fun hz=> ?_⟩
 refine Hi (xs:=its.map fun p=>V.ref p.1) (fun i acc σ H'=>∃as:List Addr,acc=as.map V.ref/\as.length=i/\Same H H'/\(∀r a,as[r]? =some a->H' a=some (.lst (aN wl.length ((Sx.start wl.length its.length (gP (its.map (·.2))) (tK wl)).cell r))))/\∃o1,σ=[o1,some (.int (wl.length:Int))]) ⟨[],rfl,rfl,Same.refl _,fun r a e=>(nomatch e),_,rfl⟩ (fun i acc σ H' _ x=> ?_) (fun i acc σ H' _ x=> ?_) hz (fun i v acc σ H1 hv x=> ?_) (fun acc σ H1 x=> ?_)
 ·obtain⟨_,_,_,sm,_⟩:=x
  exact sm.seq (SqL.of hS)
 ·obtain⟨as,rfl,hl,_⟩:=x
  rw[aG,hl];exact aH _
 ·obtain⟨as,rfl,hl,sm,has,o1,rfl⟩:=x
  rw[c7]at hv
  cases ev:its[i]? with
  |none=>rw[ev]at hv;cases hv
  |some it=>
   rw[ev]at hv
   cases hv
   have him:i<its.length:=(qy.mp ev).1
   have hit:=hP it (lX ev)
   have eg:(its.map (·.2)).getD i []=it.2:=by rw[kO,c7,ev];rfl
   refine⟨_,rfl,_,rfl,by omega,by omega,?_⟩
   refine Ri (n:=wl.length) (fun c acc σ H'=>acc=((List.range c).map fun(p:Nat)=>if decide (((p:Nat):Int)∈it.2)=true then(1:Int)else 0).map V.int/\H'=H1/\∃o2,σ=[o2,some (.ref it.1)]) ⟨rfl,rfl,_,rfl⟩ (fun c acc σ H' hc y=> ?_) (by rw[fM];omega) (fun c acc σ H' hc y=> ?_) (fun acc σ H' y=> ?_)
   ·rw[y.1,aG,aG,sJ];exact aH _
   ·obtain⟨rfl,rfl,o2,rfl⟩:=y
    refine⟨_,rfl,_,rfl,it.1,_,_,.int (0+(c:Int)),rfl,.inr (sm.tup hit),cY.ints _,.int _,LR _,rfl,(by show 0<=60;decide),_,rfl,?_⟩
    rw[any_ints,Wq]
    refine ite2 (fun z=> ?_) (fun z=> ?_)
    ·exact⟨by rw[CV,cJ,cJ];show _=_++[V.int (if _ then _ else _)];rw[au z],rfl,_,rfl⟩
    ·exact⟨by rw[CV,cJ,cJ];show _=_++[V.int (if _ then _ else _)];rw[ao z],rfl,_,rfl⟩
   ·intro p1 hp1
    obtain⟨rfl,rfl,_⟩:=y
    have s1:=aY hp1 (.lst (((List.range wl.length).map fun(p:Nat)=>if decide (((p:Nat):Int)∈it.2)=true then(1:Int)else 0).map V.int))
    refine⟨(by show 1<=sizeLine;decide),fun p2 hp2=> ?_⟩
    have s2:=aY hp2 (.lst [.int 1])
    refine⟨p1,p2,_,_,rfl,rfl,s2 _ _ aJ,aJ,(by rw[aG,aG,sJ,fM];show _+1<=_;omega),fun p3 hp3=> ?_⟩
    have s3:=aY hp3 (.lst (((List.range wl.length).map fun(p:Nat)=>if decide (((p:Nat):Int)∈it.2)=true then(1:Int)else 0).map V.int++[.int 1]))
    have wL:=s1.trans (s2.trans s3)
    refine⟨as++[p3],by rw[cJ];rfl,by rw[lW,hl];rfl,sm.trans wL,fun r a e=> ?_,_,rfl⟩
    rw[wdv]at e
    by_cases c:r<as.length
    ·rw[au c]at e
     exact wL _ _ (has r a e)
    ·rw[ao c]at e
     have YD:r-as.length=0:=by
      have:=(qy.mp e).1
      have:r-as.length<1:=this
      omega
     rw[YD]at e
     cases e
     have:r=i:=by omega
     subst this
     rw[aJ,<-R9 (wt:=tK wl) him,eg]
 ·intro p1 hp1
  obtain⟨as,rfl,hl,sm,has,_⟩:=x
  rw[aG]at hl
  have s1:=aY hp1 (.lst (as.map V.ref))
  have hO1:=(sm.trans s1) _ _ hO
  refine⟨_,rfl,o,C,dx,_,rfl,hO1,Cc,aQ,(by show 0<1000;decide),?_⟩
  -- what lies beside the object
  have np:p1≠o:=(j7 (sm _ _ hO) hp1).symm
  have h10:H p1=none:=sm.none hp1
  have Lf:∀r a,as[r]? =some a->a≠o/\a≠p1:=fun r a e=>⟨fun z=>(by have y:=has r a e;rw[z,sm _ _ hO]at y;cases y),fun z=>(by have y:=has r a e;rw[z,hp1]at y;cases y)⟩
  have W2:SqT K (upd (upd H1 p1 (.lst (as.map V.ref))) o (.ins C dx (putF "cells" (.ref p1) []))) wa (wl.map V.int):=((sm.trans s1).tup hW).aac hO1
  have S2:(upd (upd H1 p1 (.lst (as.map V.ref))) o (.ins C dx (putF "cells" (.ref p1) []))) sl=some (.lst (its.map fun p=>V.ref p.1)):=by
   rw[cu (ne_of ((sm.trans s1) _ _ hS) hO1 fun e=>nomatch e)];exact(sm.trans s1) _ _ hS
  have A2:∀r a,as[r]? =some a->(upd (upd H1 p1 (.lst (as.map V.ref))) o (.ins C dx (putF "cells" (.ref p1) []))) a=some (.lst (aN wl.length ((Sx.start wl.length its.length (gP (its.map (·.2))) (tK wl)).cell r))):=fun r a e=>by
   rw[cu (Lf r a e).1];exact s1 _ _ (has r a e)
  have P2:(upd (upd H1 p1 (.lst (as.map V.ref))) o (.ins C dx (putF "cells" (.ref p1) []))) p1=some (.lst (as.map V.ref)):=by rw[cu np,aJ]
  have O2:(upd (upd H1 p1 (.lst (as.map V.ref))) o (.ins C dx (putF "cells" (.ref p1) []))) o=some (.ins C dx [("cells",.ref p1)]):=aJ
  have Z2:Same H0 (upd (upd H1 p1 (.lst (as.map V.ref))) o (.ins C dx (putF "cells" (.ref p1) []))):=Same.sS (hS0.trans (sm.trans s1)) h0
  generalize (upd (upd H1 p1 (.lst (as.map V.ref))) o (.ins C dx (putF "cells" (.ref p1) [])))=H2 at *
  refine⟨_,rfl,o,C,dx,_,_,rfl,O2,Cc,aQ,rfl,.inl ⟨rfl,_,SqL.of P2⟩,_,rfl,wa,_,rfl,W2,fun hz2=> ?_⟩
  refine LQ (xs:=wl.map V.int) (fun i acc σ H'=>acc=((wl.take i).map fun x=> -x).map V.int/\H'=H2/\∃o2,σ=[o2]) ⟨rfl,rfl,_,rfl⟩ (fun i acc σ H' _ y=>by rw[y.2.1];exact W2) (fun i acc σ H' _ y=> ?_) hz2 (fun i v acc σ H' hv y=> ?_) (fun acc σ H' y=> ?_)
  ·rw[y.1,aG,aG,wI];exact Mz _ _
  ·obtain⟨rfl,rfl,o2,rfl⟩:=y
   rw[c7]at hv
   cases ev:wl[i]? with
   |none=>rw[ev]at hv;cases hv
   |some x=>
    rw[ev]at hv
    cases hv
    exact⟨_,rfl,_,rfl,by rw[wW,ev,cJ,cJ];rfl,rfl,_,rfl⟩
  intro p2 hp2
  obtain⟨rfl,rfl,_⟩:=y
  rw[aG,uI]
  have s2:=aY hp2 (.lst ((wl.map fun x=> -x).map V.int))
  refine⟨(by show 1<=sizeLine;decide),fun p3 hp3=> ?_⟩
  have s3:=aY hp3 (.lst [.int 0])
  refine⟨p2,p3,_,_,rfl,rfl,s3 _ _ aJ,aJ,(by rw[aG,aG,fM];show _+1<=_;omega),fun p4 X5=> ?_⟩
  have s4:=aY X5 (.lst ((wl.map fun x=> -x).map V.int++[.int 0]))
  have Nv:=s2.trans (s3.trans s4)
  rw[NP (m:=its.length) (L:=its.map (·.2))]at Nv s4⊢
  have e4:(upd (upd (upd H' p2 (.lst ((wl.map fun x=> -x).map V.int))) p3 (.lst [.int 0])) p4 (.lst (aN wl.length ((Sx.start wl.length its.length (gP (its.map (·.2))) (tK wl)).cell its.length)))) p4=some (.lst (aN wl.length ((Sx.start wl.length its.length (gP (its.map (·.2))) (tK wl)).cell its.length))):=aJ
  have n4:p4≠p1:=(j7 (s3 _ _ (s2 _ _ P2)) X5).symm
  have n4o:p4≠o:=(j7 (s3 _ _ (s2 _ _ O2)) X5).symm
  have P3:=Nv _ _ P2
  have O3:=Nv _ _ O2
  have S3:=Nv _ _ S2
  have Z3:=Z2.trans Nv
  have A3:∀r a,as[r]? =some a->_:=fun r a e=>Nv _ _ (A2 r a e)
  generalize (upd (upd (upd H' p2 (.lst ((wl.map fun x=> -x).map V.int))) p3 (.lst [.int 0])) p4 (.lst (aN wl.length ((Sx.start wl.length its.length (gP (its.map (·.2))) (tK wl)).cell its.length))))=H3 at *
  refine⟨p1,_,_,rfl,rfl,P3,(by rw[aG,fM];omega),?_⟩
  -- all rows
  have h1n:H0 p1=none:=hS0.none h10
  have nos:o≠p1:=np.symm
  have nsl:sl≠p1:=(j7 hS h10)
  have C4:(upd H3 p1 (.lst (as.map V.ref++[.ref p4]))) p1=some (.lst ((as++[p4]).map V.ref)):=by rw[aJ,cJ];rfl
  have O4:(upd H3 p1 (.lst (as.map V.ref++[.ref p4]))) o=some (.ins C dx [("cells",.ref p1)]):=by rw[cu nos];exact O3
  have S4:(upd H3 p1 (.lst (as.map V.ref++[.ref p4]))) sl=some (.lst (its.map fun p=>V.ref p.1)):=by rw[cu nsl];exact S3
  have Z4:Same H0 (upd H3 p1 (.lst (as.map V.ref++[.ref p4]))):=Same.sS Z3 h1n
  have R4:∀r a,(as++[p4])[r]? =some a->(upd H3 p1 (.lst (as.map V.ref++[.ref p4]))) a=some (.lst (aN wl.length ((Sx.start wl.length its.length (gP (its.map (·.2))) (tK wl)).cell r)))/\a≠o:=fun r a e=>by
   rw[wdv]at e
   by_cases c:r<as.length
   ·rw[au c]at e
    refine⟨?_,(Lf r a e).1⟩
    rw[cu (Lf r a e).2];exact A3 r a e
   ·rw[ao c]at e
    have YD:r-as.length=0:=by
     have:=(qy.mp e).1
     have:r-as.length<1:=this
     omega
    rw[YD]at e
    cases e
    have:r=its.length:=by omega
    subst this
    refine⟨?_,n4o⟩
    rw[cu n4];exact e4
  generalize (upd H3 p1 (.lst (as.map V.ref++[.ref p4])))=H4 at *
  refine⟨_,rfl,o,C,dx,_,rfl,O4,Cc,cT,(by show 1<1000;decide),?_⟩
  have O5:(upd H4 o (.ins C dx (putF "over" (.int 1) [("cells",.ref p1)]))) o=some (.ins C dx [("cells",.ref p1),("over",.int 1)]):=aJ
  have k5:∀b u,b≠o->H4 b=some u->(upd H4 o (.ins C dx (putF "over" (.int 1) [("cells",.ref p1)]))) b=some u:=fun b u hb e=>by rw[cu hb];exact e
  have nso:sl≠o:=ne_of S4 O4 fun e=>nomatch e
  have C5:=k5 _ _ np C4
  have S5:=k5 _ _ nso S4
  have Z5:Same H0 (upd H4 o (.ins C dx (putF "over" (.int 1) [("cells",.ref p1)]))):=Same.sS Z4 h0
  have R5:∀r a,(as++[p4])[r]? =some a->_:=fun r a e=>k5 _ _ (R4 r a e).2 (R4 r a e).1
  generalize (upd H4 o (.ins C dx (putF "over" (.int 1) [("cells",.ref p1)])))=H5 at *
  refine⟨_,rfl,(wl.length:Int),rfl,by omega,by omega,fun co hco=> ?_⟩
  have s6:=aY hco (.lst (cR (wl.length:Int).toNat))
  have O6:=s6 _ _ O5
  refine⟨_,rfl,o,C,dx,_,rfl,O6,Cc,aM,(by show 2<1000;decide),?_⟩
  have nco:co≠o:=(j7 O5 hco).symm
  have k7:∀b u,b≠o->(upd H5 co (.lst (cR (wl.length:Int).toNat))) b=some u->(upd (upd H5 co (.lst (cR (wl.length:Int).toNat))) o (.ins C dx (putF "columns" (.ref co) [("cells",.ref p1),("over",.int 1)]))) b=some u:=fun b u hb e=>by rw[cu hb];exact e
  have O7:(upd (upd H5 co (.lst (cR (wl.length:Int).toNat))) o (.ins C dx (putF "columns" (.ref co) [("cells",.ref p1),("over",.int 1)]))) o=some (.ins C dx [("cells",.ref p1),("over",.int 1),("columns",.ref co)]):=aJ
  have C7:=k7 _ _ np (s6 _ _ C5)
  have S7:=k7 _ _ nso (s6 _ _ S5)
  have L7:=k7 _ _ nco aJ
  have R7:∀r a,(as++[p4])[r]? =some a->_:=fun r a e=>k7 _ _ (R4 r a e).2 (s6 _ _ (R5 r a e))
  have Z7:Same H0 (upd (upd H5 co (.lst (cR (wl.length:Int).toNat))) o (.ins C dx (putF "columns" (.ref co) [("cells",.ref p1),("over",.int 1)]))):=Same.sS (Z5.trans s6) h0
  have c0:H0 co=none:=Z5.none hco
  have ncr:co∉as++[p4]:=fun hm=>by
   obtain⟨r,hr1,e⟩:=zR hm
   have:=R5 r _ (gn hr1)
   rw[e,hco]at this;cases this
  generalize (upd (upd H5 co (.lst (cR (wl.length:Int).toNat))) o (.ins C dx (putF "columns" (.ref co) [("cells",.ref p1),("over",.int 1)])))=H7 at *
  refine⟨_,rfl,_,rfl,_,rfl,sl,_,rfl,.inl (SqL.of S7),fun _=>⟨_,_,rfl,rfl,_,_,rfl,by omega,?_,?_,fun ro X3=> ?_⟩⟩
  ·rw[aG];omega
  ·rw[aG];omega
  rw[aG]
  have s8:=aY X3 (.lst ((mZ (wl.length:Int) ((wl.length:Int)+(its.length:Int)-(wl.length:Int)).toNat).map V.int))
  have O8:=s8 _ _ O7
  refine⟨_,rfl,o,C,dx,_,rfl,O8,Cc,bU,(by show 3<1000;decide),?_⟩
  have nro:ro≠o:=(j7 O7 X3).symm
  have k9:∀b u,b≠o->(upd H7 ro (.lst ((mZ (wl.length:Int) ((wl.length:Int)+(its.length:Int)-(wl.length:Int)).toNat).map V.int))) b=some u->(upd (upd H7 ro (.lst ((mZ (wl.length:Int) ((wl.length:Int)+(its.length:Int)-(wl.length:Int)).toNat).map V.int))) o (.ins C dx (putF "rows" (.ref ro) [("cells",.ref p1),("over",.int 1),("columns",.ref co)]))) b=some u:=fun b u hb e=>by rw[cu hb];exact e
  refine qq _ ⟨dx,p1,co,ro,as++[p4],Same.sS (Z7.trans s8) h0,h0,h1n,c0,Z7.none X3,j7 L7 X3,ncr,fun hm=> ?_,aJ,k9 _ _ np (s8 _ _ C7),by rw[lW,hl];rfl,fun r a e=>k9 _ _ (R4 r a e).2 (s8 _ _ (R7 r a e)),?_,?_⟩
  ·obtain⟨r,hr1,e⟩:=zR hm
   have:=R7 r _ (gn hr1)
   rw[e,X3]at this;cases this
  ·rw[k9 _ _ nco (s8 _ _ L7)]
   congr 2
   unfold cR bL
   rw[U0,show(wl.length:Int).toNat=wl.length by omega]
   rfl
  ·rw[k9 _ _ nro aJ]
   congr 2
   unfold mZ bL
   rw[show((wl.length:Int)+(its.length:Int)-(wl.length:Int)).toNat=its.length by omega]
   refine jh _ (Zw fun k _=> ?_)
   show(wl.length:Int)+(k:Int)=((wl.length+k:Nat):Int)
   omega
end
def cg(a:Int)(b:Nat):Int×Nat:=(a/((Nat.gcd a.natAbs b:Nat):Int),b/Nat.gcd a.natAbs b)
theorem qZ(a:Int){b:Nat}(hb:0<b):Low a b (cg a b).1 (cg a b).2:=J9 a b hb
theorem J8{a:Int}{b:Nat}{u u':Int}{v v':Nat}(hb:0<b)(h:Low a b u v)(h':Low a b u' v'):u=u'/\v=v':=by
 have e1:=h.eq
 have e2:=h'.eq
 have bi:(0:Int)<(b:Int):=by omega
 have cr:u*(v':Int)=u'*(v:Int):=by
  refine wew (a:=(b:Int)) (by omega) ?_
  have x:(b:Int)*(u*(v':Int))=u*(b:Int)*(v':Int):=by grind
  have y:(b:Int)*(u'*(v:Int))=u'*(b:Int)*(v:Int):=by grind
  rw[x,y,e1,e2];grind
 have cn:u.natAbs*v'=u'.natAbs*v:=by
  have:=jh Int.natAbs cr
  rwa [wgu,wgu,wet,wet]at this
 have d1:v∣v':=by
  have:v∣u.natAbs*v':=by rw[cn];exact Nat.dvd_mul_left _ _
  exact(Nat.Coprime.symm h.cop).dvd_of_dvd_mul_left this
 have d2:v'∣v:=by
  have:v'∣u'.natAbs*v:=by rw[<-cn];exact Nat.dvd_mul_left _ _
  exact(Nat.Coprime.symm h'.cop).dvd_of_dvd_mul_left this
 have ev:=Nat.dvd_antisymm d1 d2
 subst ev
 refine⟨?_,rfl⟩
 have hv:=h.pos
 exact Int.eq_of_mul_eq_mul_right (a:=(v:Int)) (by omega) cr
theorem Bs{a:Int}{b:Nat}{u:Int}{v:Nat}(hb:0<b)(h:Low a b u v):(u,v)=cg a b:=by
 obtain⟨e1,e2⟩:=J8 hb h (qZ a hb)
 rw[e1,e2]
theorem qR{x y:Int}(h:0<x*y)(hy:0<y):0<x:=by
 refine Int.not_le.mp fun hn=> ?_
 have:=wG (a:= -x) (b:=y) (by omega) (by omega)
 grind
theorem Ka{a:Int}{b:Nat}(hb:0<b):0<(cg a b).1↔0<a:=by
 have l:=qZ a hb
 have e:=l.eq
 have hv:(0:Int)<((cg a b).2:Int):=by have:=l.pos;omega
 have bi:(0:Int)<(b:Int):=by omega
 constructor
 ·intro h
  have:0<(cg a b).1*(b:Int):=Wn h bi
  rw[e]at this
  exact qR this hv
 ·intro h
  have:0<a*((cg a b).2:Int):=Wn h hv
  rw[<-e]at this
  exact qR this bi
structure Sh(n:Nat)(L:List (List Int))(wl:List Int)(ov:Nat)(Z:Int)(Y X:Nat->Int):Prop where
 pos:0<ov
 big:ov<=39916800
 yn:∀k,0<=Y k
 xn:∀p,0<=X p
 tot:Sx.sm L.length Y=Z
 eno:∀p,p<n->(ov:Int)*tK wl p<=Sx.sm L.length fun k=>if gP L k p=true then Y k else 0
 lig:∀k,k<L.length->(Sx.sm n fun p=>if gP L k p=true then X p else 0)<=(ov:Int)
 wor:(Sx.sm n fun p=>tK wl p*X p)=Z
theorem W4{n:Nat}{L:List (List Int)}{wl:List Int}{T:Sx.Tab}(hg:TG n L.length (gP L) (tK wl) T)(hz:∀c,c<n->0<=T.cell L.length c):
  Sh n L wl T.over.toNat (T.cell L.length n) (fun k=>Sx.Ys n L.length T (n+k)) (fun p=>Sx.Xs n L.length T p):=by
 have ho:=hg.over
 have eo:((T.over.toNat:Nat):Int)=T.over:=by omega
 refine⟨by omega,by omega,fun k=>Sx.Qd hz _,fun p=>hg.good.Qp _,hg.good.total,fun p hp=> ?_,fun k hk=> ?_,hg.good.prices⟩
 ·rw[eo,hg.good.enough hp]
  have:=Sx.Qd hz p
  omega
 ·rw[eo];exact hg.good.light hk
theorem Ur{ts:List (Int×Int)}{n:Nat}{ss:List (List Int)}(h:gM ss ts false n){p:Nat}(hp:p<n):∃k,k<ss.length/\gP ss k p=true:=by
 have sk:rO ts false n [(p:Int)]:=⟨Wf _ _,fun x hx=>by rw[g8.mp hx];omega,fun x hx y hy hn=>absurd ((g8.mp hx).trans (g8.mp hy).symm) hn⟩
 obtain⟨t,ht,hx⟩:=yV sk
 have ht':=h.1.mem_iff.mpr ht
 obtain⟨k,hk,rfl⟩:=zR ht'
 refine⟨k,hk,?_⟩
 unfold gP
 rw[kO,gn hk]
 exact fj (hx _ cV)
theorem Ag{ts:List (Int×Int)}{n:Nat}{ss:List (List Int)}(h:gM ss ts false n)(hn:n<=10):ss.length<=36:=by rw[h.1.length_eq];exact um hn
def XC(ss:List (List Int))(ov:Nat)(Y:Nat->Int):List (List Int×(Int×Nat)):=((List.range ss.length).filter fun k=>decide (0<Y k)).map fun k=>(ss.getD k [],cg (Y k) ov)
def Xg(n ov:Nat)(X:Nat->Int):List (Int×Nat):=(List.range n).map fun p=>cg (X p) ov
section
variable{K:W.Frag}
def Rh(K:W.Frag)(H:Hp)(a:Addr)(f:Int×Nat):Prop:=SqT K H a [.int f.1,.int ((f.2:Nat):Int)]
def PN(K:W.Frag)(H:Hp)(v:V)(q:List Int×(Int×Nat)):Prop:=∃t sa fa,v= .ref t/\SqT K H t [.ref sa,.ref fa]/\SqT K H sa (q.1.map V.int)/\Rh K H fa q.2
def tD(K:W.Frag)(H:Hp):List V->List (List Int×(Int×Nat))->Prop:=Paired (PN K H)
def zE(K:W.Frag)(H:Hp):List V->List (Int×Nat)->Prop:=Paired fun v f=>∃a,v= .ref a/\Rh K H a f
theorem PN.same{H H':Hp}{v:V}{q:List Int×(Int×Nat)}(h:PN K H v q)(s:Same H H'):PN K H' v q:=by
 obtain⟨t,sa,fa,e,h1,h2,h3⟩:=h
 exact⟨t,sa,fa,e,s.tup h1,s.tup h2,s.tup h3⟩
theorem tD.same{H H':Hp}{vs:List V}{l:List (List Int×(Int×Nat))}(h:tD K H vs l)(s:Same H H'):tD K H' vs l:=Paired.mapP h fun _ _ z=>z.same s
theorem zE.same{H H':Hp}{vs:List V}{l:List (Int×Nat)}(h:zE K H vs l)(s:Same H H'):zE K H' vs l:=Paired.mapP h fun _ _ ⟨a,e,z⟩=>⟨a,e,s.tup z⟩
theorem Paired.snoc{α β:Type}{R:α->β->Prop}:∀{l:List α} {m:List β} {a:α} {b:β},Paired R l m->R a b->Paired R (l++[a]) (m++[b])
 |_,_,_,_,.nil,h=> .cons h .nil
 |_,_,_,_,.cons r t,h=> .cons r (Paired.snoc t h)
theorem Paired.at_{α β:Type}{R:α->β->Prop}:∀{l:List α} {m:List β} {i:Nat} {a:α},Paired R l m->l[i]? =some a->∃b,m[i]? =some b/\R a b
 |_,_,_,_,.nil,e=>by simp at e
 |_,_,0,_,.cons r _,e=>by simp at e;subst e;exact⟨_,rfl,r⟩
 |_,_,i+1,a,.cons _ t,e=>by
  obtain⟨b,h1,h2⟩:=Paired.at_ (i:=i) (a:=a) t (by simpa using e)
  exact⟨b,by simpa using h1,h2⟩
theorem Paired.sV{α β:Type}{R:α->β->Prop}:∀{l:List α} {m:List β},Paired R l m->l.length=m.length
 |_,_,.nil=>rfl
 |_,_,.cons _ t=>by simp[Paired.sV t]
end
section
variable{P:Program}{w:World}{K:W.Frag}{mg:Str->Option Value}{base:Heap}
def Lj(n:Int)(wl:List Int):Prop:=(wl.length:Int)=n/\∀x∈wl,0<=x/\x<=99
theorem all_true(k:Nat):(List.replicate k true).all id=true:=by
 rw[qw]
 intro b hb
 rw[(List.mem_replicate.mp hb).2];rfl
def pB(K:W.Frag):Sp:=fun vs H Q _=>∃(a wa:Addr) (n:Int) (t:V) (wl:List Int),vs=[.ref a,.ref wa]/\SqT K H a [.int n,t]/\SqT K H wa (wl.map V.int)/\Lj n wl/\∀H',Same H H'->Q .non H'
theorem uY:FnScope ["web","thing"] ["web","thing"] (defScope fu):=fsc
theorem vB{f f1:Addr}{fd d1:FuncData}{tk0:Tok}(F:Fun K "need_wants" "need_wants" fu f fd)(D1:bY K mg "is_whole" Mw ["thing"] f1 d1)(G1:FnOk P w K mg base CX0 1 f1 d1 ["thing"] (iI K))(cN:mg "len"=none)(bA:mg "isinstance"=none)(aU:mg "tuple"=none)(yw:mg "all"=none)(yx:mg "MOST_WANT"=some (.int 99 tk0)):
  FnOk P w K mg base CX0 2 f fd ["web","thing"] (pB K):=by
 refine F.ok uY (fun vs H Q E h=> ?_) (fun cdv A outer s H vs Q E hr h=> ?_)
 ·obtain⟨a,wa,n,t,wl,rfl,_⟩:=h
  rfl
 obtain⟨a,wa,n,t,wl,rfl,hA,hW,⟨hl,hb⟩,qq⟩:=h
 refine⟨_,(aO (lR (PW.pt (pw_or (wN (wO (fW Ep rfl bA (by decide+kernel) (aj (pv 1) (aj (En rfl aU (v:= .ty "tuple") (by decide+kernel) rfl) aA))))) (pw_or1 (gZ op_ne (fW zP rfl cN wX (aj (pv 1) aA)) (bM gO (pv 0) aK (fun _ _=>rfl)) (nomark _))))) pss_never lU) (bw (lR (wN (wO (fW (iB rfl) rfl yw (by decide+kernel) (aj (pZ (own:=["want"]) (caps:=[]) (ix:=[]) rfl (Eo (pv 1)) rfl rfl .nil (fun _ _ _ _ _=>(cZ (i:=0) (show(["want"]:List Str).Nodup from by decide+kernel) rfl (Or.inl rfl))) (fun _ _ _ _ _=>sy) (fun _ _ _ _ _=>(pe_and (pc G1 hr D1 (aj (pv 0) aA)) (pe_one (pe_chain op_le op_le aK (pv 0) (pe_glob rfl yx (v:= .int 99) ⟨_,rfl⟩)))))) aA)))) pss_never lU))),?_⟩
 refine⟨_,rfl,.ref wa,"tuple",_,rfl,.inl ⟨rfl,_,hW⟩,.inr (.inr (.inl rfl)),_,rfl,?_⟩
 refine iteF ?_
 refine⟨_,rfl,wa,_,rfl,.inr hW,fun hz=>⟨_,rfl,a,_,_,.int n,rfl,rfl,hA,rfl,rfl,_,rfl,?_⟩⟩
 have e1:(!decide (V.int (((wl.map V.int).length:Nat):Int)=V.int n))=false:=by rw[aG,hl];simp
 rw[e1]
 refine iteF ?_
 refine⟨_,rfl,wa,_,rfl,hW,fun hz=> ?_⟩
 refine LQ (xs:=wl.map V.int) (fun i acc σ H'=>acc=(List.replicate i true).map V.bl/\H'=H/\∃o,σ=[o]) ⟨rfl,rfl,_,rfl⟩ (fun i acc σ H' _ p=>by rw[p.2.1];exact hW) (fun i acc σ H' _ p=>by rw[p.1,aG,MN];exact aH _) hz (fun i x acc σ H' hx p=> ?_) (fun acc σ H' p=> ?_)
 ·obtain⟨rfl,rfl,o,rfl⟩:=p
  rw[c7]at hx
  cases ex:wl[i]? with
  |none=>rw[ex]at hx;cases hx
  |some y=>
   rw[ex]at hx
   cases hx
   have hy:=hb y (lX ex)
   refine⟨_,rfl,.int y,.int y,rfl,.int _,_,rfl,iteT ?_⟩
   refine⟨_,rfl,_,_,rfl,rfl,_,rfl,?_⟩
   rw[fj hy.1]
   refine iteT ?_
   refine⟨_,_,rfl,rfl,?_,rfl,_,rfl⟩
   show _++[V.bl (decide (y<=99))]=_
   rw[fj hy.2,U7,cJ];rfl
 ·intro p1 hp1
  obtain⟨rfl,rfl,_⟩:=p
  refine⟨p1,_,rfl,SqL.of aJ,_,rfl,?_⟩
  rw[all_true]
  exact iteF (qq _ (aY hp1 _))
def xr(K:W.Frag):Sp:=fun vs H Q _=>∃(a wa:Addr) (n:Int) (ts:List (Int×Int)) (wl:List Int),vs=[.ref a,.ref wa]/\bH K H a n ts/\SqT K H wa (wl.map V.int)/\Lj n wl/\
 ∀(r va la pa:Addr) (lrefs JB:List V) (ss:List (List Int)) (ov:Nat) (Z:Int) (Y X:Nat->Int) H',Same H H'->H' r=some (.tup [.ref va,.ref la,.ref pa])->Rh K H' va (cg Z ov)->H' la=some (.lst lrefs)->tD K H' lrefs (XC ss ov Y)->H' pa=some (.lst JB)->zE K H' JB (Xg n.toNat ov X)->
  gM ss ts false n.toNat->Sh n.toNat ss wl ov Z Y X->H la=none->H pa=none->la≠pa->Q (.ref r) H'
theorem dJ:FnScope ["web","wants","n","sets","tableau","given","laying","prices"] ["web","wants"] (defScope mJ):=fsc
theorem FQ{f f1 f2 f3 f4 f5 f6 f7 f8 C:Addr}{fd d1 d2 d3 d4 d5 d6 d7 d8:FuncData}(F:Fun K "shares" "shares" mJ f fd)
  (Cc:Cls K C)(aQ:NoAttr K C "cells")(cT:NoAttr K C "over")(aM:NoAttr K C "columns")(bU:NoAttr K C "rows")(ou:mg "Tableau"=some (.ref C))(D1:bY K mg "need_web" Mf ["thing"] f1 d1)(G1:FnOk P w K mg base CX0 7 f1 d1 ["thing"] (cF K))(D2:bY K mg "need_wants" fu ["web","thing"] f2 d2)(G2:FnOk P w K mg base CX0 2 f2 d2 ["web","thing"] (pB K))(D3:bY K mg "full_apart" fG ["web"] f3 d3)(G3:FnOk P w K mg base CX0 8 f3 d3 ["web"] (pC K))(D4:GZ K C "__init__" "Tableau.__init__" Y7 ["self","sets","wants"] f4 d4)(Mk4:Mk K C f4)(aaF:FnOk P w K mg base CX0 1 f4 d4 ["self","sets","wants"] (Aa K C))(D5:GZ K C "solve" "Tableau.solve" Zc ["self"] f5 d5)(G5':FnOk P w K mg base CX0 3 f5 d5 ["self"] (Ij K C))(D6:GZ K C "share_of" "Tableau.share_of" Zq ["self","name"] f6 d6)(G6':FnOk P w K mg base CX0 4 f6 d6 ["self","name"] (Ik K C))(D7:GZ K C "price_of" "Tableau.price_of" Zo ["self","name"] f7 d7)(G7':FnOk P w K mg base CX0 4 f7 d7 ["self","name"] (Il K C))(D8:GZ K C "fraction_at" "Tableau.fraction_at" UW ["self","row","column"] f8 d8)(G8':FnOk P w K mg base CX0 3 f8 d8 ["self","row","column"] (xq K C))(eF:mg "enumerate"=none)(aD:mg "range"=none):
  FnOk P w K mg base CX0 9 f fd ["web","wants"] (xr K):=by
 have G4m:FnOk P w K mg base CX0 7 f4 d4 ["self","sets","wants"] (Aa K C):=aaF.mono (by decide)
 have G5:FnOk P w K mg base CX0 8 f5 d5 ["self"] (Ij K C):=G5'.mono (by decide)
 have G6:FnOk P w K mg base CX0 8 f6 d6 ["self","name"] (Ik K C):=G6'.mono (by decide)
 have G7:FnOk P w K mg base CX0 8 f7 d7 ["self","name"] (Il K C):=G7'.mono (by decide)
 have G8:FnOk P w K mg base CX0 8 f8 d8 ["self","row","column"] (xq K C):=G8'.mono (by decide)
 refine F.ok dJ (fun vs H Q E h=> ?_) (fun cdv A outer s H vs Q E hr h=> ?_)
 ·obtain⟨a,wa,n,ts,wl,rfl,_⟩:=h
  rfl
 obtain⟨a,wa,n,ts,wl,rfl,hA,hW,hwl,qq⟩:=h
 refine⟨_,(aO (tH (pc G1 hr D1 (aj (pv 0) aA))) (aO (tH (pc G2 hr D2 (aj (pv 0) (aj (pv 1) aA)))) (aO (cW (i:=2) dJ.nd rfl (Or.inr rfl) (bM gO (pv 0) aK (fun _ _=>rfl))) (aO (cW (i:=3) dJ.nd rfl (Or.inl rfl) (pc G3 hr D3 (aj (pv 0) aA))) (aO (cW (i:=4) dJ.nd rfl (Or.inr rfl) (pe_make Mk4 G4m hr rfl ou D4.b .nil pass0 (aj (pv 3) (aj (pv 1) aA)))) (aO (tH (pe_meth0 (pv 4) Cc D5.m G5 hr D5.b .nil pass0)) (aO (Rj (i:=5) (own:=["k","some"]) (caps:=["tableau","n"]) (ix:=[4,2]) dJ.nd rfl (Or.inl rfl) rfl (vg rfl eF (aj (pv 3) aA)) rfl rfl (.cons rfl rfl (.cons rfl rfl .nil)) (fun _ _ _ _ _=>(jU K (n:=2) rfl (zL (cZ (i:=0) (show(["k","some","tableau","n"]:List Str).Nodup from by decide+kernel) rfl (Or.inl rfl)) (zL (cZ (i:=1) (show(["k","some","tableau","n"]:List Str).Nodup from by decide+kernel) rfl (Or.inl rfl)) pgs_nil)))) (fun _ _ _ _ _=>sy) (fun _ _ _ _ _=>(pY (aj (pv 1) (aj (pe_meth (pv 2) Cc D6.m G6 hr D6.b .nil pass0 (aj (bK su (pv 3) (pv 0)) aA)) aA))))) (aO (Rj (i:=6) (own:=["share"]) (caps:=[]) (ix:=[]) dJ.nd rfl (Or.inl rfl) rfl (CP (pv 5)) rfl rfl .nil (fun _ _ _ _ _=>(cZ (i:=0) (show(["share"]:List Str).Nodup from by decide+kernel) rfl (Or.inl rfl))) (fun _ _ _ _ _=>dX (gZ op_gt (bM (qm K) (bM (qm K) (pv 0) aK (fun _ _=>rfl)) aK (fun _ _=>rfl)) aK (nomark _))) (fun _ _ _ _ _=>(pv 0))) (aO (Rj (i:=7) (own:=["place"]) (caps:=["tableau"]) (ix:=[4]) dJ.nd rfl (Or.inl rfl) rfl (CT rfl aD (aj (pv 2) aA)) rfl rfl (.cons rfl rfl .nil) (fun _ _ _ _ _=>(cZ (i:=0) (show(["place","tableau"]:List Str).Nodup from by decide+kernel) rfl (Or.inl rfl))) (fun _ _ _ _ _=>sy) (fun _ _ _ _ _=>(pe_meth (pv 1) Cc D7.m G7 hr D7.b .nil pass0 (aj (pv 0) aA)))) (bw (cI (pY (aj (pe_meth (pv 4) Cc D8.m G8 hr D8.b .nil pass0 (aj (pe_un un_neg aK) (aj (pe_un un_neg aK) aA))) (aj (pv 6) (aj (pv 7) aA))))))))))))))),?_⟩
 have h0:=hA.h0
 have h10:=hA.h1
 refine⟨_,rfl,.ref a,_,rfl,hA.web.dv.dx,hA.ok,fun H1 s1=> ?_⟩
 obtain⟨RL,QM,w1,w2,w3⟩:=id (hA.same s1).web
 refine⟨_,rfl,_,rfl,a,wa,n,_,wl,rfl,w1,s1.tup hW,hwl,fun H2 s2=> ?_⟩
 have s12:=s1.trans s2
 have VG:=hA.same s12
 obtain⟨Nb,W9,x1,x2,x3⟩:=id VG.web
 refine⟨_,rfl,a,_,_,.int n,rfl,rfl,x1,rfl,?_⟩
 refine⟨_,rfl,a,n,ts,rfl,VG,fun sl ss H3 s3 aav yL hsl=> ?_⟩
 obtain⟨its,hS,hP,hss⟩:=aav
 have wL:=s12.trans s3
 have hm:its.length=ss.length:=by rw[<-hss,aG]
 have aaK:=Ag yL (by omega)
 have hwn:wl.length=n.toNat:=by have:=hwl.1;omega
 refine⟨_,rfl,_,rfl,fun o dx ho hdx hne=> ?_⟩
 have sM:Same H3 (upd (upd H3 dx (.own o)) o (.ins C dx [])):=(aY hdx _).trans (aY (by rw[cu (jY hne)];exact ho) _)
 refine⟨o,dx,sl,wa,H3,its,wl,rfl,aJ,sM,ho,sM _ _ hS,fun p hp=>sM.tup (hP p hp),sM.tup (wL.tup hW),by omega,by omega,fun H4 Vz=>⟨rfl,?_⟩⟩
 rw[hss,hm,hwn]at Vz
 have Yg:Sta n.toNat ss.length (gP ss) (tK wl):=by
  refine⟨by omega,by omega,fun p hp=> ?_,fun p hp=>Ur yL hp⟩
  unfold tK
  rw[kO,gn (by omega)]
  exact hwl.2 _ (Et _)
 obtain⟨dx4,cl4,co4,ro4,rw4,hA4⟩:=id Vz
 refine⟨_,rfl,o,dx4,_,rfl,hA4.at_,rfl,o,H3,n.toNat,ss.length,gP ss,tK wl,_,rfl,Vz,Yg,Sx.zZ,fun T H5 hT5 hg5 hz5=> ?_⟩
 have hG:=Yg.tg hg5
 have hSh:=W4 hG hz5
 obtain⟨dx5,cl5,co5,ro5,rw5,hA5⟩:=id hT5
 have Vr:=hA5.same
 have ovp:=hSh.pos
 generalize hY:(fun k=>Sx.Ys n.toNat ss.length T (n.toNat+k))=Y at *
 generalize hX:(fun p=>Sx.Xs n.toNat ss.length T p)=X at *
 -- given
 refine⟨_,rfl,false,sl,_,rfl,SqL.of (Vr _ _ hS),fun hz=> ?_⟩
 refine oM (K:=K) (b:=false) (a:=sl) (xs:=its.map fun p=>V.ref p.1) (fun i acc σ H'=>tD K H' acc ((List.range i).map fun k=>(ss.getD k [],cg (Y k) T.over.toNat))/\Same H5 H'/\∃o1 o2,σ=[o1,o2,some (.ref o),some (.int n)]) ⟨.nil,Same.refl _,_,_,rfl⟩ (fun i acc σ H' _ p=>p.2.1.seq (SqL.of (Vr _ _ hS))) (fun i acc σ H' _ p=> ?_) hz (fun i v t acc σ H' hv p ht=> ?_) (fun acc σ H' p=> ?_)
 ·rw[Paired.sV p.1,aG,sJ];exact aH _
 ·obtain⟨hl,sm,o1,o2,rfl⟩:=p
  rw[c7]at hv
  cases ev:its[i]? with
  |none=>rw[ev]at hv;cases hv
  |some it=>
   rw[ev]at hv
   cases hv
   have eg:ss.getD i []=it.2:=by rw[<-hss,kO,c7,ev];rfl
   have t1:=aY ht (.tup [.int (i:Int),.ref it.1])
   have Vy:=hT5.sm (sm.trans t1)
   obtain⟨dx6,cl6,co6,ro6,rw6,hA6⟩:=id Vy
   refine⟨t,_,rfl,SqT.of aJ,rfl,_,_,rfl,_,_,rfl,rfl,?_⟩
   refine⟨_,rfl,_,rfl,o,dx6,_,rfl,hA6.at_,rfl,_,rfl,_,rfl,_,_,rfl,rfl,o,H3,n.toNat,ss.length,n.toNat+i,gP ss,tK wl,T,?_,Vy,hG,fun fa H7 u v' s7 e7 l7=> ?_⟩
   ·rw[show(((n.toNat+i:Nat)):Int)=n+(i:Int) by omega];rfl
   ·refine⟨(by show 2<=sizeLine;decide),fun tp htp=> ?_⟩
    have s8:=aY htp (.tup [.ref it.1,.ref fa])
    have s68:=t1.trans (s7.trans s8)
    have hlow:(u,v')=cg (Y i) T.over.toNat:=by rw[<-hY];exact Bs ovp l7
    refine⟨?_,sm.trans s68,_,_,rfl⟩
    rw[CV,cJ]
    refine Paired.snoc (tD.same hl s68) ⟨tp,it.1,fa,rfl,SqT.of aJ,?_,?_⟩
    ·show SqT K _ it.1 ((ss.getD i []).map V.int)
     rw[eg]
     exact(Vr.trans (sm.trans s68)).tup (hP it (lX ev))
    ·show Rh K _ fa (cg (Y i) T.over.toNat)
     rw[<-hlow]
     exact s8.tup (SqT.of e7)
 intro gl hgl
 obtain⟨hl,sm5,_⟩:=p
 rw[aG,hm]at hl
 have g1:=aY hgl (.lst acc)
 have s6:=sm5.trans g1
 have eg1:(upd H' gl (.lst acc)) gl=some (.lst acc):=aJ
 have Yb:=tD.same hl g1
 generalize (upd H' gl (.lst acc))=H6 at *
 -- laying
 refine⟨_,rfl,gl,_,rfl,SqL.of eg1,fun hz=> ?_⟩
 refine Hi (xs:=acc) (fun i acc' σ H'=>H'=H6/\tD K H6 acc' (((List.range i).filter fun k=>decide (0<Y k)).map fun k=>(ss.getD k [],cg (Y k) T.over.toNat))/\∃o1,σ=[o1]) ⟨rfl,.nil,_,rfl⟩ (fun i acc' σ H' _ p=>by rw[p.1];exact SqL.of eg1) (fun i acc' σ H' _ p=> ?_) hz (fun i v acc' σ H' hv p=> ?_) (fun acc' σ H' p=> ?_)
 ·rw[Paired.sV p.2.1,aG]
  exact eO (wJ _ _) (by rw[sJ];exact aH _)
 ·obtain⟨rfl,hl',o1,rfl⟩:=p
  obtain⟨qv,eq1,hv1⟩:=Paired.at_ Yb hv
  have hi:i<ss.length:=by
   have:=(qy.mp hv).1
   rw[Paired.sV Yb,aG,sJ]at this
   exact this
  rw[c7,Wb hi]at eq1
  have eq2:qv=(ss.getD i [],cg (Y i) T.over.toNat):=(p8 eq1).symm
  obtain⟨t,sa,fa,rfl,h1,h2,h3⟩:=id hv1
  have h3':Rh K H' fa (cg (Y i) T.over.toNat):=by rw[eq2]at h3;exact h3
  refine⟨_,rfl,t,_,_,.ref fa,rfl,rfl,h1,rfl,fa,_,_,.int (cg (Y i) T.over.toNat).1,rfl,rfl,h3',rfl,_,_,rfl,rfl,_,rfl,?_⟩
  have go:((List.range (i+1)).filter fun k=>decide (0<Y k))=((List.range i).filter fun k=>decide (0<Y k))++(if decide (0<Y i)=true then[i]else[]):=by
   rw[CV,Ro]
   congr 1
   rw[MJ]
   split<;>rfl
  have ed:decide (0<(cg (Y i) T.over.toNat).1)=decide (0<Y i):=decide_eq_decide.mpr (Ka ovp)
  refine ite2 (fun c=> ?_) (fun c=> ?_)
  ·have c':decide (0<Y i)=true:=by rw[<-ed];exact c
   refine⟨_,rfl,rfl,?_,_,rfl⟩
   rw[go,au c',cJ]
   refine Paired.snoc hl' ?_
   rw[eq2]at hv1
   exact hv1
  ·have c':¬decide (0<Y i)=true:=by rw[<-ed];exact c
   refine⟨rfl,?_,_,rfl⟩
   rw[go,ao c',sE]
   exact hl'
 intro la hla
 obtain⟨rfl,hlay,_⟩:=p
 rw[Paired.sV Yb,aG,sJ]at hlay
 have g2:=aY hla (.lst acc')
 have s7:=s6.trans g2
 have ela:(upd H' la (.lst acc')) la=some (.lst acc'):=aJ
 have X8:=tD.same hlay g2
 have yK:=hT5.sm s7
 generalize (upd H' la (.lst acc'))=H7 at *
 -- prices
 refine⟨_,rfl,n,rfl,by omega,by omega,?_⟩
 refine Ri (n:=n.toNat) (fun i v8 σ H2=>zE K H2 v8 ((List.range i).map fun p=>cg (X p) T.over.toNat)/\Same H7 H2/\∃o1,σ=[o1,some (.ref o)]) ⟨.nil,Same.refl _,_,rfl⟩ (fun i v8 σ H2 hi p=> ?_) (by rw[fM];omega) (fun i v8 σ H2 hi p=> ?_) (fun v8 σ H2 p=> ?_)
 ·rw[Paired.sV p.1,aG,sJ];exact aH _
 ·obtain⟨hf,sm,o1,rfl⟩:=p
  have hT8:=yK.sm sm
  obtain⟨dx8,cl8,co8,ro8,rw8,hA8⟩:=id hT8
  refine⟨_,rfl,o,dx8,_,rfl,hA8.at_,rfl,_,rfl,o,H3,n.toNat,ss.length,i,gP ss,tK wl,T,by rw[Wq];rfl,hT8,hG,fun fa H9 u v' s9 e9 l9=> ?_⟩
  have hlow:(u,v')=cg (X i) T.over.toNat:=by rw[<-hX];exact Bs ovp l9
  refine⟨?_,sm.trans s9,_,rfl⟩
  rw[CV,cJ]
  refine Paired.snoc (zE.same hf s9) ⟨fa,rfl,?_⟩
  show Rh K H9 fa (cg (X i) T.over.toNat)
  rw[<-hlow]
  exact SqT.of e9
 intro pa hpa
 obtain⟨hf,sm7,_⟩:=p
 have g3:=aY hpa (.lst v8)
 have s8:=sm7.trans g3
 have epa:(upd H2 pa (.lst v8)) pa=some (.lst v8):=aJ
 have hf8:=zE.same hf g3
 have hT8:=yK.sm s8
 have nlp:la≠pa:=j7 (sm7 _ _ ela) hpa
 generalize (upd H2 pa (.lst v8))=H8 at *
 obtain⟨dx8,cl8,co8,ro8,rw8,hA8⟩:=id hT8
 refine⟨_,rfl,o,dx8,_,rfl,hA8.at_,rfl,_,rfl,_,rfl,o,H3,n.toNat,ss.length,ss.length,n.toNat,_,_,gP ss,tK wl,T,rfl,hT8,hG,.inr ⟨rfl,rfl⟩,.inr ⟨rfl,rfl⟩,fun va H9 u v' s9 e9 l9=> ?_⟩
 refine⟨_,rfl,_,rfl,(by show 3<=sizeLine;decide),fun r hr'=> ?_⟩
 have s10:=aY hr' (.tup [.ref va,.ref la,.ref pa])
 have Jr:=s9.trans s10
 have hlow:(u,v')=cg (T.cell ss.length n.toNat) T.over.toNat:=Bs ovp l9
 refine qq r va la pa acc' v8 ss T.over.toNat (T.cell ss.length n.toNat) Y X _ (wL.trans (Vr.trans (s7.trans (s8.trans Jr)))) aJ ?_ ((s8.trans Jr) _ _ ela) (tD.same X8 (s8.trans Jr)) (Jr _ _ epa) (zE.same hf8 Jr) yL hSh ?_ ?_ nlp
 ·rw[<-hlow];exact s10.tup (SqT.of e9)
 ·exact(wL.trans (Vr.trans s6)).none hla
 ·exact(wL.trans (Vr.trans (s7.trans sm7))).none hpa
def yg(n:Nat):List Int:=List.replicate n 1
def Dk(K:W.Frag):Sp:=fun vs H Q _=>∃(a:Addr) (n:Int) (ts:List (Int×Int)),vs=[.ref a]/\bH K H a n ts/\
 ∀(va:Addr) (ss:List (List Int)) (ov:Nat) (Z:Int) (Y X:Nat->Int) H',Same H H'->Rh K H' va (cg Z ov)->gM ss ts false n.toNat->Sh n.toNat ss (yg n.toNat) ov Z Y X->Q (.ref va) H'
theorem Jh:FnScope ["web"] ["web"] (defScope qg):=fsc
theorem JK{f f1 f2:Addr}{fd d1 d2:FuncData}(F:Fun K "value" "value" qg f fd)(D1:bY K mg "need_web" Mf ["thing"] f1 d1)(G1:FnOk P w K mg base CX0 7 f1 d1 ["thing"] (cF K))(D2:bY K mg "shares" mJ ["web","wants"] f2 d2)(G2:FnOk P w K mg base CX0 9 f2 d2 ["web","wants"] (xr K)):
  FnOk P w K mg base CX0 10 f fd ["web"] (Dk K):=by
 refine F.ok Jh (fun vs H Q E h=> ?_) (fun cdv A outer s H vs Q E hr h=> ?_)
 ·obtain⟨a,n,ts,rfl,_⟩:=h
  rfl
 obtain⟨a,n,ts,rfl,hA,qq⟩:=h
 refine⟨_,(aO (tH (pc G1 hr D1 (aj (pv 0) aA))) (bw (cI (bM gO (pc G2 hr D2 (aj (pv 0) (aj (bK N5 (pY (aj aK aA)) (bM gO (pv 0) aK (fun _ _=>rfl))) aA))) aK (fun _ _=>rfl))))),?_⟩
 have h0:=hA.h0
 have h10:=hA.h1
 refine⟨_,rfl,.ref a,_,rfl,hA.web.dv.dx,hA.ok,fun H1 s1=> ?_⟩
 obtain⟨RL,QM,w1,w2,w3⟩:=id (hA.same s1).web
 refine⟨_,rfl,(by show 1<=sizeLine;decide),fun p1 hp1=> ?_⟩
 have s2:=aY hp1 (.tup [.int 1])
 refine⟨_,rfl,a,_,_,.int n,rfl,rfl,s2.tup w1,rfl,p1,n,_,rfl,rfl,SqT.of aJ,(fun e=>nomatch e),by omega,by omega,?_,fun wa H3 s3 h3=> ?_⟩
 ·show 1*n.toNat<=1000
  omega
 have ew:(List.replicate n.toNat [V.int 1]).flatten=(yg n.toNat).map V.int:=by
  unfold yg
  generalize n.toNat=k
  induction k with
  |zero=>rfl
  |succ k ih=>rw[HB,Qi,ih,HB];rfl
 rw[ew]at h3
 have wL:=s1.trans (s2.trans s3)
 refine⟨a,wa,n,ts,yg n.toNat,rfl,hA.same wL,h3,⟨by unfold yg;rw[MN];omega,fun x hx=> ?_⟩,fun r va la pa lrefs JB ss ov Z Y X H4 s4 e1 e2 e3 e4 e5 e6 yL hSh _ _ _=> ?_⟩
 ·rw[(List.mem_replicate.mp hx).2];decide
 exact⟨r,_,_,.ref va,rfl,rfl,SqT.of e1,rfl,qq va ss ov Z Y X H4 (wL.trans s4) e2 yL hSh⟩
end
theorem Ea{n:Nat}{X:Nat->Int}:∀{xs:List Int},xs.Nodup->(∀x∈xs,0<=x/\x<(n:Int))->(xs.map fun x=>X x.toNat).sum=Sx.sm n fun p=>if decide (((p:Nat):Int)∈xs)=true then X p else 0
 |[],_,_=>(Sx.cO n fun i _=>by simp).symm
 |x::xs,nd,hb=>by
  obtain⟨nx,nd'⟩:=Hl.mp nd
  have hx:=hb x cV
  have ih:=Ea (X:=X) nd' fun y hy=>hb y (dG _ hy)
  show X x.toNat+(xs.map fun x=>X x.toNat).sum=_
  rw[ih]
  have e1:Sx.sm n (fun p=>if p=x.toNat then X p else 0)=X x.toNat:=by
   rw[Sx.dI (j:=x.toNat) n (by omega) fun i _ hi=>ao hi,au rfl]
  rw[<-e1,<-Sx.jo]
  refine Sx.aP n fun p hp=> ?_
  by_cases h:p=x.toNat
  ·have h1:((p:Nat):Int)=x:=by omega
   rw[au h,ao (by rw[h1];simpa using nx),au (by rw[h1];simp)]
   omega
  ·have h1:((p:Nat):Int)≠x:=by omega
   rw[ao h]
   have:decide (((p:Nat):Int)∈x::xs)=decide (((p:Nat):Int)∈xs):=by
    refine decide_eq_decide.mpr ⟨fun z=> ?_,dG _⟩
    rcases cB.mp z with z|z
    ·exact absurd z h1
    ·exact z
   rw[this];omega
theorem IK{f g:Nat->Int}:∀k,(∀i,i<k->f i<=g i)->Sx.sm k f<=Sx.sm k g
 |0,_=>zM _
 |k+1,h=>Int.add_le_add (IK k fun i hi=>h i (by omega)) (h k (by omega))
theorem BK{st:Lk}:∀(l:List Int) (f:List (List Int)) (q p:List Int),q∈f->p.Sublist l->(∀(a b:List Int) (x:Int),p=a++x::b->st (q++a) x=true)->q++p∈l.foldl (gW st) f
 |[],f,q,p,hq,hp,_=>by
  have:p=[]:=List.sublist_nil.mp hp
  subst this
  rw[sE];exact hq
 |y::l,f,q,p,hq,hp,hst=>by
  show q++p∈l.foldl (gW st) (gW st f y)
  cases hp with
  |cons _ h=>exact BK l _ q p (Ew _ hq) h hst
  |cons_cons _ h=>
   rename_i p'
   have e:q++y::p'=(q++[y])++p':=by rw[MK];rfl
   rw[e]
   refine BK l _ (q++[y]) p' (gY _ (j8.mpr ⟨q,je.mpr ⟨hq,?_⟩,rfl⟩)) h fun a b x eb=> ?_
   ·have:=hst [] p' y rfl
    rwa [sE]at this
   ·have:=hst (y::a) b x (by rw[eb];rfl)
    rw[MK];exact this
theorem Eh{ts:List (Int×Int)}(col:Int->Int):∀(k:Nat) (xs cs:List Int),cs.length=k->(∀x∈xs,col x∈cs)->xs.Pairwise (fun x y=>bh ts x y=true->col x≠col y)->fJ ts xs<=(k:Int)
 |k,[],_,_,_,_=>by rw[Ef];exact Int.natCast_nonneg k
 |0,x::r,cs,hk,hc,_=>by
  have:cs=[]:=List.length_eq_zero_iff.mp hk
  subst this
  exact absurd (hc x cV) (by simp)
 |k+1,x::r,cs,hk,hc,hp=>by
  have hx:=hc x cV
  have hr:=V9.mp hp
  have mp:x::r.filter (fun y=>decide (col y=col x))∈fparts ts (x::r):=by
   have:=BK (st:=cC ts) r [[x]] [x] (r.filter fun y=>decide (col y=col x)) cV U6 (fun a b y e=>by
    unfold cC
    rw[wdk,Qj]
    intro o ho
    have my:y∈r.filter fun y=>decide (col y=col x):=by rw[e];simp
    have cy:=tL (je.mp my).2
    have ry:=(je.mp my).1
    intro t
    rcases kJ.mp ho with z|z
    ·rw[g8.mp z]at t
     exact hr.1 y ry t cy.symm
    ·have pf:(r.filter fun y=>decide (col y=col x)).Pairwise (fun x y=>bh ts x y=true->col x≠col y):=hr.2.filter _
     rw[e]at pf
     have:=(Rp.mp pf).2.2 o z y cV t
     have mo:o∈r.filter fun y=>decide (col y=col x):=by rw[e];exact Ew _ z
     exact this ((tL (je.mp mo).2).trans cy.symm))
   exact this
  have l:=Ul (by simp) mp
  have ih:=Eh (ts:=ts) col k (wo (x::r) (x::r.filter fun y=>decide (col y=col x))) (cs.erase (col x)) (by rw[ZF hx];omega) (fun y hy=>by
   obtain⟨m1,m2⟩:=qY.mp hy
   have ny:col y≠col x:=fun z=>m2 (by
    rcases cB.mp m1 with w|w
    ·rw[w];exact cV
    ·exact dG _ (je.mpr ⟨w,fj z⟩))
   exact(Zx ny).mpr (hc y m1)) (hp.sublist (kW _ _))
  have e:((k+1:Nat):Int)=(k:Int)+1:=by omega
  omega
def j4(n b:Int)(ts:List (Int×Int)):List (Int×Int):=rows (Iv b ts (rows tt b b.toNat)) (n*b) (n*b).toNat
def nA(b:Int)(ts:List (Int×Int))(i j:Int):Bool:=decide (i/b=j/b)||decide ((i/b,j/b)∈ts)
theorem Uq{i n b:Int}(hb:0<b)(h0:0<=i)(h1:i<n*b):0<=i/b/\i/b<n:=⟨wgo h0 (by omega),Int.ediv_lt_of_lt_mul hb h1⟩
theorem Ra{n b:Int}{ts:List (Int×Int)}(hb:0<b)(hp:bO n ts){i j:Int}(h0:0<=i)(hij:i<j):Iv b ts (rows tt b b.toNat) i j=nA b ts i j:=by
 unfold Iv nA
 have e1:=Zz i b
 have e2:=Zz j b
 have m1:=wej i (show b≠0 by omega)
 have m2:=Zv i hb
 have m3:=wej j (show b≠0 by omega)
 have m4:=Zv j hb
 by_cases c:i/b=j/b
 ·rw[au c,fj c,Wr]
  rw[c]at e1
  have lt:i %b<j %b:=by omega
  unfold bh
  rw[ao (by omega),au (by omega)]
  refine fj ?_
  rw[Hh]
  exact⟨m1,by show i %b<_;omega,lt,m4,rfl⟩
 ·rw[ao c,jN c,Wv]
  have le:i/b<=j/b:=Int.ediv_le_ediv hb (by omega)
  unfold bh
  rw[ao (by omega),au (by omega)]
theorem vV{n b:Int}{ts:List (Int×Int)}(hb:0<b)(hp:bO n ts){i j:Int}(h0:0<=i)(h1:i<n*b)(g0:0<=j)(g1:j<n*b)(hne:i≠j):bh (j4 n b ts) i j=true↔(i/b=j/b\/aW ts (i/b) (j/b)=true):=by
 have key:∀{i j:Int},0<=i->i<j->j<n*b->((i,j)∈j4 n b ts↔(i/b=j/b\/aW ts (i/b) (j/b)=true)):=fun{i j} h0 hij h1=>by
  unfold j4
  rw[Hh]
  have hs:Iv b ts (rows tt b b.toNat) i j=nA b ts i j:=Ra hb hp h0 hij
  have ht:aW ts (i/b) (j/b)=true↔(i/b,j/b)∈ts:=by
   unfold aW
   rw[Qu,Mr,Mr]
   refine⟨fun z=>z.elim id fun z=> ?_,.inl⟩
   have:=(hp.lt _ z).2.1
   have le:i/b<=j/b:=Int.ediv_le_ediv hb (by omega)
   have:j/b<i/b:=this
   omega
  rw[ht]
  constructor
  ·rintro⟨_,_,_,_,z⟩
   have z:Iv b ts (rows tt b b.toNat) i j=true:=z
   rw[hs]at z
   unfold nA at z
   rw[Qu,Mr,Mr]at z
   exact z
  ·intro z
   refine⟨h0,by show i<_;omega,hij,h1,?_⟩
   show Iv b ts (rows tt b b.toNat) i j=true
   rw[hs]
   unfold nA
   rw[Qu,Mr,Mr]
   exact z
 unfold bh
 rw[Mr]
 by_cases c:i<j
 ·rw[ao (by omega),au (by omega)]
  exact key h0 c g1
 ·rw[au (by omega),ao (by omega),key g0 (by omega) h1]
  have:aW ts (j/b) (i/b)=aW ts (i/b) (j/b):=Ma _ _ _
  rw[this]
  exact⟨fun z=>z.imp Eq.symm id,fun z=>z.imp Eq.symm id⟩
theorem Rb{n b:Int}{ts:List (Int×Int)}(h0:0<=n*b)(h1:n*b<=10):bO (n*b) (j4 n b ts)/\Li (n*b) (j4 n b ts):=by
 refine iD (i:=(n*b).toNat) h0 h1 ?_
 unfold j4
 rw[<-ju]
 exact U6
theorem zy{b p t:Int}(hb:0<b)(t0:0<=t)(t1:t<b):(p*b+t)/b=p/\(p*b+t) %b=t:=by
 have e:p*b+t=t+b*p:=by rw[Mi];omega
 rw[e]
 refine⟨?_,?_⟩
 ·rw[Int.add_mul_ediv_left _ _ (by omega),Int.ediv_eq_zero_of_lt t0 t1];omega
 ·rw[Int.add_mul_emod_self_left,Int.emod_eq_of_lt t0 t1]
theorem rM{n b p t:Int}(hb:0<b)(p0:0<=p)(p1:p<n)(t0:0<=t)(t1:t<b):0<=p*b+t/\p*b+t<n*b:=by
 have a:=wG p0 (show 0<=b by omega)
 have c:(p+1)*b<=n*b:=ydq (by omega) (by omega)
 have d:(p+1)*b=p*b+b:=by grind
 omega
theorem K9{n b c d kc kd:Int}{ts:List (Int×Int)}{hc hd:List Int}(hn:0<=n)(c0:0<c)(d0:0<d)(eb:b=c+d)(hp:bO n ts)(Hc:lJ (j4 n c ts) (n*c).toNat kc hc)(Hd:lJ (j4 n d ts) (n*d).toNat kd hd):fJ (j4 n b ts) (fZ (n*b).toNat)<=kc+kd:=by
 have k0:=Hc.k0
 have k1:=Hd.k0
 have hb:0<b:=by omega
 have nb:0<=n*b:=wG hn (by omega)
 have nc:0<=n*c:=wG hn (by omega)
 have nd:0<=n*d:=wG hn (by omega)
 let col:Int->Int:=fun x=>if x %b<c then hc.getD (x/b*c+x %b).toNat 0 else kc+hd.getD (x/b*d+(x %b-c)).toNat 0
 have fact:∀x,0<=x->x<n*b->(0<=x/b/\x/b<n)/\0<=x %b/\x %b<b:=fun x a0 a1=>⟨Uq hb a0 a1,wej _ (by omega),Zv _ hb⟩
 have low:∀x,0<=x->x<n*b->x %b<c->0<=hc.getD (x/b*c+x %b).toNat 0/\hc.getD (x/b*c+x %b).toNat 0<kc:=fun x a0 a1 z=>by
  obtain⟨⟨p0,p1⟩,t0,t1⟩:=fact x a0 a1
  have:=rM (n:=n) (b:=c) c0 p0 p1 t0 z
  exact Hc.rg _ (by omega)
 have high:∀x,0<=x->x<n*b->¬x %b<c->0<=hd.getD (x/b*d+(x %b-c)).toNat 0/\hd.getD (x/b*d+(x %b-c)).toNat 0<kd:=fun x a0 a1 z=>by
  obtain⟨⟨p0,p1⟩,t0,t1⟩:=fact x a0 a1
  have:=rM (n:=n) (b:=d) d0 p0 p1 (show 0<=x %b-c by omega) (by omega)
  exact Hd.rg _ (by omega)
 have e:kc+kd=(((kc+kd).toNat:Nat):Int):=by omega
 rw[e]
 refine Eh col (kc+kd).toNat (fZ (n*b).toNat) (fZ (kc+kd).toNat) (DP _) (fun x hx=> ?_) ?_
 ·obtain⟨a0,a1⟩:=gK.mp hx
  have a1:x<n*b:=by omega
  refine gK.mpr ?_
  show 0<=(if x %b<c then _ else _)/\(if x %b<c then _ else _)<_
  by_cases z:x %b<c
  ·rw[au z];have:=low x a0 a1 z;omega
  ·rw[ao z];have:=high x a0 a1 z;omega
 ·have pw:(fZ (n*b).toNat).Pairwise (· < ·):=by
   unfold fZ
   rw[Rn]
   exact Vb.imp fun h=>by omega
  refine pw.imp_of_mem fun{x y} hx hy lt t=> ?_
  obtain⟨a0,a1⟩:=gK.mp hx
  obtain⟨b0,b1⟩:=gK.mp hy
  have a1:x<n*b:=by omega
  have b1:y<n*b:=by omega
  obtain⟨⟨p0,p1⟩,t0,t1⟩:=fact x a0 a1
  obtain⟨⟨q0,q1⟩,u0,u1⟩:=fact y b0 b1
  have tt':=(vV hb hp a0 a1 b0 b1 (by omega)).mp t
  have ex:=Zz x b
  have ey:=Zz y b
  have ne:x/b=y/b->x %b≠y %b:=fun z1 z2=>by rw[z1,z2]at ex;omega
  show(if x %b<c then _ else _)≠(if y %b<c then _ else _)
  by_cases z:x %b<c
  ·rw[au z]
   have lx:=low x a0 a1 z
   by_cases z':y %b<c
   ·rw[au z']
    have r1:=rM (n:=n) (b:=c) c0 p0 p1 t0 z
    have r2:=rM (n:=n) (b:=c) c0 q0 q1 u0 z'
    obtain⟨v1,v2⟩:=zy (p:=x/b) c0 t0 z
    obtain⟨v3,v4⟩:=zy (p:=y/b) c0 u0 z'
    have nxy:x/b*c+x %b≠y/b*c+y %b:=fun w=>by
     have w1:x/b=y/b:=by rw[<-v1,<-v3,w]
     have w2:x %b=y %b:=by rw[<-v2,<-v4,w]
     exact ne w1 w2
    refine Hc.ok _ _ (by omega) (by omega) ?_
    rw[Ml r1.1,Ml r2.1]
    refine(vV c0 hp r1.1 r1.2 r2.1 r2.2 nxy).mpr ?_
    rw[v1,v3];exact tt'
   ·rw[ao z']
    have:=high y b0 b1 z'
    omega
  ·rw[ao z]
   have lx:=high x a0 a1 z
   by_cases z':y %b<c
   ·rw[au z']
    have:=low y b0 b1 z'
    omega
   ·rw[ao z']
    have x0:0<=x %b-c:=by omega
    have x1:x %b-c<d:=by omega
    have y0:0<=y %b-c:=by omega
    have y1:y %b-c<d:=by omega
    have r1:=rM (n:=n) (b:=d) d0 p0 p1 x0 x1
    have r2:=rM (n:=n) (b:=d) d0 q0 q1 y0 y1
    obtain⟨v1,v2⟩:=zy (p:=x/b) d0 x0 x1
    obtain⟨v3,v4⟩:=zy (p:=y/b) d0 y0 y1
    have nxy:x/b*d+(x %b-c)≠y/b*d+(y %b-c):=fun w=>by
     have w1:x/b=y/b:=by rw[<-v1,<-v3,w]
     have w2:x %b-c=y %b-c:=by rw[<-v2,<-v4,w]
     exact ne w1 (by omega)
    have:=Hd.ok _ _ (by omega) (by omega) (show bh (j4 n d ts) (((x/b*d+(x %b-c)).toNat:Nat):Int) (((y/b*d+(y %b-c)).toNat:Nat):Int)=true from by
     rw[Ml r1.1,Ml r2.1]
     refine(vV d0 hp r1.1 r1.2 r2.1 r2.2 nxy).mpr ?_
     rw[v1,v3];exact tt')
    omega
structure lH(n b k:Int)(ts:List (Int×Int))(R:List (List Int)):Prop where
 len:R.length=n.toNat
 up:∀r∈R,r.Pairwise (· < ·)/\(r.length:Int)=b/\∀h∈r,0<=h/\h<k
 no:∀p∈ts,∀h,h∈R.getD p.1.toNat []->h∈R.getD p.2.toNat []->False
theorem n6{hs:List Int}{i c:Nat}{h:Int}(m:h∈(hs.drop i).take c):∃t,t<c/\i+t<hs.length/\h=hs.getD (i+t) 0:=by
 obtain⟨t,ht,rfl⟩:=zR m
 rw[wI,U5]at ht
 refine⟨t,by omega,by omega,?_⟩
 rw[List.getElem_take,List.getElem_drop,kO,gn (by omega)];rfl
theorem xR{hs:List Int}{i c t:Nat}(ht:t<c)(hl:i+t<hs.length):((hs.drop i).take c)[t]? =some (hs.getD (i+t) 0):=by
 rw[wez ht,List.getElem?_drop,kO,gn hl];rfl
theorem Ny{n b k:Int}{ts:List (Int×Int)}{hs:List Int}{R:List (List Int)}(hn:0<=n)(hb:0<b)(hp:bO n ts)(H:lJ (j4 n b ts) (n*b).toNat k hs)(hl:R.length=n.toNat)(hR:∀p:Nat,p<n.toNat->(R.getD p []).Perm ((hs.drop (p*b.toNat)).take b.toNat)/\(R.getD p []).Pairwise (· <= ·)):lH n b k ts R:=by
 have nb:0<=n*b:=wG hn (by omega)
 have eb:((b.toNat:Nat):Int)=b:=by omega
 have en:((n.toNat:Nat):Int)=n:=by omega
 have eN:(n*b).toNat=n.toNat*b.toNat:=by
  have:((n.toNat*b.toNat:Nat):Int)=n*b:=by push_cast;rw[eb,en]
  omega
 have ix:∀(p t:Nat),p<n.toNat->t<b.toNat->p*b.toNat+t<(n*b).toNat/\(((p*b.toNat+t:Nat):Int)/b=(p:Int)/\((p*b.toNat+t:Nat):Int) %b=(t:Int))/\0<=((p*b.toNat+t:Nat):Int)/\((p*b.toNat+t:Nat):Int)<n*b:=fun p t h1 h2=>by
  have c:((p*b.toNat+t:Nat):Int)=(p:Int)*b+(t:Int):=by push_cast;rw[eb]
  have d:=rM (n:=n) (b:=b) (p:=p) (t:=t) hb (by omega) (by omega) (by omega) (by omega)
  have e:=zy (b:=b) (p:=p) (t:=t) hb (by omega) (by omega)
  rw[c]
  exact⟨by omega,e,d.1,d.2⟩
 have neq:∀(p q t u:Nat),p<n.toNat->q<n.toNat->t<b.toNat->u<b.toNat->(p≠q\/t≠u)->(p=q\/aW ts (p:Int) (q:Int)=true)->hs.getD (p*b.toNat+t) 0≠hs.getD (q*b.toNat+u) 0:=fun p q t u h1 h2 h3 h4 hne ht=>by
  obtain⟨a1,⟨a2,a3⟩,a4,a5⟩:=ix p t h1 h3
  obtain⟨b1,⟨b2,b3⟩,b4,b5⟩:=ix q u h2 h4
  refine H.ok _ _ a1 b1 ((vV hb hp a4 a5 b4 b5 fun z=> ?_).mpr ?_)
  ·rw[z]at a2 a3
   rcases hne with w|w
   ·exact w (by omega)
   ·exact w (by omega)
  ·rw[a2,b2]
   rcases ht with w|w
   ·exact .inl (by omega)
   ·exact .inr w
 have hsl:hs.length=n.toNat*b.toNat:=by rw[H.len,eN]
 have inb:∀p t:Nat,p<n.toNat->t<b.toNat->p*b.toNat+t<hs.length:=fun p t h1 h2=>by
  have:=(ix p t h1 h2).1
  omega
 refine⟨hl,fun r hr=> ?_,fun p hp' h m1 m2=> ?_⟩
 ·obtain⟨i,hi,rfl⟩:=zR hr
  have hin:i<n.toNat:=by omega
  obtain⟨pm,le⟩:=hR i hin
  have eg:R.getD i []=R[i]:=by rw[kO,gn hi];rfl
  rw[eg]at pm le
  have hlen:((hs.drop (i*b.toNat)).take b.toNat).length=b.toNat:=by
   rw[wI,U5]
   have:(i+1)*b.toNat<=n.toNat*b.toNat:=Nat.mul_le_mul_right _ hin
   have:(i+1)*b.toNat=i*b.toNat+b.toNat:=by rw[Nat.add_mul,Nat.one_mul]
   omega
  refine⟨?_,by rw[pm.length_eq,hlen];exact eb,fun h hh=> ?_⟩
  ·have nd:R[i].Nodup:=pm.nodup_iff.mpr (Qm.mpr fun t u ht hu htu=>by
    rw[hlen]at ht hu
    have e1:=xR (hs:=hs) (i:=i*b.toNat) ht (inb i t hin ht)
    have e2:=xR (hs:=hs) (i:=i*b.toNat) hu (inb i u hin hu)
    rw[gn (by omega)]at e1 e2
    rw[p8 e1,p8 e2]
    exact neq i i t u hin hin ht hu (.inr (by omega)) (.inl rfl))
   exact(le.and nd).imp fun{x y} h=>by have:=h.1;have:=h.2;omega
  ·obtain⟨t,ht,hl',rfl⟩:=n6 (pm.mem_iff.mp hh)
   exact H.rg _ (by rw[<-H.len];exact hl')
 ·obtain⟨q0,q1,q2⟩:=hp.lt p hp'
  have i1:p.1.toNat<n.toNat:=by omega
  have i2:p.2.toNat<n.toNat:=by omega
  obtain⟨t,ht,_,e1⟩:=n6 ((hR p.1.toNat i1).1.mem_iff.mp m1)
  obtain⟨u,hu,_,e2⟩:=n6 ((hR p.2.toNat i2).1.mem_iff.mp m2)
  refine neq p.1.toNat p.2.toNat t u i1 i2 ht hu (.inl (by omega)) (.inr ?_) (e1.symm.trans e2)
  unfold aW
  rw[Ml q0,Ml (by omega),fj (show(p.1,p.2)∈ts from hp'),Wr]
theorem GR{n:Nat}{ts:List (Int×Int)}{ss:List (List Int)}{wl:List Int}{ov:Nat}{Z:Int}{Y X:Nat->Int}(hS:gM ss ts false n)(h:Sh n ss wl ov Z Y X){xs:List Int}(hk:rO ts false n xs):
  (Sx.sm n fun p=>if decide (((p:Nat):Int)∈xs)=true then X p else 0)<=(ov:Int):=by
 obtain⟨t,ht,hx⟩:=yV hk
 obtain⟨k,hk',rfl⟩:=zR (hS.1.mem_iff.mpr ht)
 refine whd (IK n fun p hp=> ?_) (h.lig k hk')
 have hxn:=h.xn p
 by_cases c:decide (((p:Nat):Int)∈xs)=true
 ·rw[au c,au]
  ·exact zM _
  ·unfold gP
   rw[kO,gn hk']
   exact fj (hx _ (tL c))
 ·rw[ao c]
  split
  ·exact hxn
  ·exact zM _
theorem Rq{n p:Nat}(hp:p<n):tK (yg n) p=1:=by
 unfold tK yg
 rw[kO,List.getElem?_replicate_of_lt hp];rfl
theorem xQ(c:Int):∀m:Nat,(Sx.sm m fun _=>c)=(m:Int)*c
 |0=>by rw[show((0:Nat):Int)=0 from rfl,Qf];rfl
 |m+1=>by
  show Sx.sm m (fun _=>c)+c=_
  rw[xQ c m];push_cast;grind
theorem Nz{n b k:Int}{ts:List (Int×Int)}{R:List (List Int)}{ss:List (List Int)}{ov:Nat}{Z:Int}{Y X:Nat->Int}(hn:0<=n)(k0:0<=k)(hp:bO n ts)(H:lH n b k ts R)(hS:gM ss ts false n.toNat)(h:Sh n.toNat ss (yg n.toNat) ov Z Y X):b*Z<=k*(ov:Int):=by
 have e1:b*Z=Sx.sm k.toNat fun c=>Sx.sm n.toNat fun p=>if((c:Nat):Int)∈R.getD p []then X p else 0:=by
  rw[Sx.uP (fun c p=>if((c:Nat):Int)∈R.getD p []then X p else 0) n.toNat k.toNat,<-h.wor,<-Sx.eX]
  refine Sx.aP _ fun p hp'=> ?_
  have hi:p<R.length:=by rw[H.len];exact hp'
  have eg:R.getD p []=R[p]:=by rw[kO,gn hi];rfl
  obtain⟨u1,u2,u3⟩:=H.up R[p] (Et hi)
  have cnt:(Sx.sm k.toNat fun c=>if decide (((c:Nat):Int)∈R[p])=true then X p else 0)=(R[p].map fun _=>X p).sum:=(Ea (X:=fun _=>X p) (u1.imp fun h e=>by omega) (fun x hx=>by have:=u3 x hx;omega)).symm
  have aao:∀l:List Int,(l.map fun _=>X p).sum=(l.length:Int)*X p:=fun l=>by
   induction l with
   |nil=>rw[ZV,Mj,show((0:Nat):Int)=0 from rfl,Qf];rfl
   |cons a l ih=>
    rw[wU,List.sum_cons,ih,qx];push_cast;grind
  rw[aao,u2]at cnt
  rw[Rq hp',Mh,<-cnt]
  refine Sx.aP _ fun c _=> ?_
  rw[eg]
  by_cases z:((c:Nat):Int)∈R[p]
  ·rw[au (fj z),au z]
  ·rw[ao (by simpa using z),ao z]
 rw[e1]
 have e2:k*(ov:Int)=Sx.sm k.toNat fun _=>(ov:Int):=by rw[xQ,Ml k0]
 rw[e2]
 refine IK _ fun c _=> ?_
 have sk:rO ts false n.toNat ((upto n.toNat).filter fun p=>decide (((c:Nat):Int)∈R.getD p.toNat [])):=by
  have mu:∀x∈((upto n.toNat).filter fun p=>decide (((c:Nat):Int)∈R.getD p.toNat [])),(0<=x/\x<n)/\((c:Nat):Int)∈R.getD x.toNat []:=fun x hx=>by
   obtain⟨h1,h2⟩:=je.mp hx
   exact⟨(Dg n).lt x h1,tL h2⟩
  refine⟨(Dg n).srt.filter _,fun x hx=>by have:=(mu x hx).1;omega,fun x hx y hy hne=> ?_⟩
  obtain⟨⟨x0,x1⟩,x2⟩:=mu x hx
  obtain⟨⟨y0,y1⟩,y2⟩:=mu y hy
  cases t:aW ts x y with
  |false=>rfl
  |true=>
   exfalso
   unfold aW at t
   rw[Qu]at t
   rcases t with t|t
   ·exact H.no _ (tL t) _ x2 y2
   ·exact H.no _ (tL t) _ y2 x2
 refine whd (U3 (Sx.aP _ fun q hq=> ?_)) (GR hS h sk)
 have:decide (((q:Nat):Int)∈(upto n.toNat).filter fun p=>decide (((c:Nat):Int)∈R.getD p.toNat []))=decide (((c:Nat):Int)∈R.getD q []):=by
  rw[zV,Mr,Mr,je,Mr,zQ]
  refine⟨fun z=>z.2,fun z=>⟨?_,z⟩⟩
  unfold upto
  exact j8.mpr ⟨q,sI.mpr hq,rfl⟩
 rw[this]
 by_cases z:((c:Nat):Int)∈R.getD q []
 ·rw[au z,au (fj z)]
 ·rw[ao z,ao (by simpa using z)]
end Hs
namespace PySem
open L2 (TabOk nH kY nu)
open PyProof.Rows
section
variable{prog:Program}{w:World}{A:Around}{E:Value->Shared->Prop}{s:Shared}
theorem aX.of{h:Heap}{d:Addr}{S:Int->Bool}{n:Nat}(g:aX prog w h d S n):h.SetOf (intKind prog w) d S n:=let⟨o,es,ep,t,ho,hx,hd,el,mem,lt,ft,en,_⟩:=g;⟨o,es,ep,t,ho,hx,hd,el,mem,lt,ft,en⟩
theorem aX.typeIs{d:Addr}{S:Int->Bool}{n:Nat}(g:aX prog w s.heap d S n):s.TypeIs (.ref d) "set":=g.of.typeIs
theorem rE{d:Addr}{o:Obj}{es:Array (Int×Value)}{ep:Nat}{t:SetTable}{Q:Array (Int×Value)->Shared->Prop}(ho:s.heap.get? d=some o)(hd:o.data= .set es ep t)(hf:t.fits es.size=true)(q:Q es s):wpAny (model prog w) A (setEntries d) Q E s:=by
 unfold setEntries
 exact ak (wdj ho hd hf (aF q))
theorem Jy{Q:Bool->Shared->Prop}(l:List Addr)(hl:∀a∈l,∃S n,aX prog w s.heap a S n)(q:Q true s):wpAny (model prog w) A (setsQuiet l) Q E s:=by
 unfold setsQuiet
 refine ak (wpAny_forIn_list _ (fun rest r s'=>r.1=none/\s'=s/\∀a∈rest,∃S n,aX prog w s.heap a S n) _ (fun a rest b s' hI=> ?_) (fun b s' hI=> ?_) _ _ ⟨rfl,rfl,hl⟩)
 ·obtain⟨hb,rfl,hr⟩:=hI
  obtain⟨S,n,o,es,ep,t,ho,hx,hd,el,mem,lt,ft,en,tb⟩:=hr a cV
  refine ak (rE ho hd ft ?_)
  refine ak (wpAny_forIn_array' _ (fun rest r s''=>r.1=none/\s''=s'/\∀e∈rest,e∈es.toList) _ (fun e rest' b' s'' hI=> ?_) (fun b' s'' hI=> ?_) _ _ ⟨rfl,rfl,fun e he=>he⟩)
  ·obtain⟨hb',rfl,hr'⟩:=hI
   obtain⟨⟨k,hk,_⟩,_⟩:=el e (hr' e cV)
   obtain⟨tk,ev⟩:=Vo (k:=k) (v:=e.2) hk
   obtain⟨e1,e2⟩:=e
   dsimp only at ev
   subst ev
   exact aF ⟨rfl,rfl,fun e he=>hr' e (dG _ he)⟩
  ·obtain⟨hb',rfl,_⟩:=hI
   dsimp only
   rw[hb']
   exact aF ⟨rfl,rfl,fun a ha=>hr a (dG _ ha)⟩
 ·obtain⟨hb,rfl,_⟩:=hI
  dsimp only
  rw[hb]
  exact aF q
theorem M8{d:Addr}{es:Array (Int×Value)}{ep:Nat}{t:SetTable}{Q:Array (Int×Value)->Shared->Prop}(S:aV w s.heap d es ep t)(q:∀(es':Array (Int×Value)) dr,es'.toList.Perm es.toList->Q es' {s with drawn:=dr}):wpAny (model prog w) A (setWalk d) Q E s:=by
 have q0:Q es s:=q es s.drawn (wgv _)
 unfold setWalk
 refine ak (S.state (ak (Rk ?_)))
 refine pq (fun hb=> ?_) fun hb=> ?_
 ·refine ak (wds ?_)
  exact aF (q _ s.drawn (jT _ es))
 ·have led:t.led=true:=by rw[S.tab.led];simpa using hb
  refine pq (fun hd=> ?_) fun hd=> ?_
  ·refine ak (eV es.size es.toList (by simp) fun ys d' hp=>aF (q _ d' ?_))
   simpa using hp
  ·refine ak ?_
   show wpAny _ _ (if(!t.led&&decide (es.size>1))=true then _ else _) _ _ _
   rw[led]
   refine pq (fun hab=>absurd hab (by simp)) fun _=>aF (aF q0)
theorem Je{d:Addr}{o:Obj}{es:Array (Int×Value)}{ep:Nat}{t:SetTable}{h:Heap}(ho:h.get? d=some o)(hx:o.ExactSet)(hd:o.data= .set es ep t)(ft:t.fits es.size=true)(tb:TabOk (!w.params.followText "set-order") t):aV w h d es ep t:=⟨⟨o,ho,hx,hd⟩,ft,tb⟩
theorem WQ{d da r:Addr}{es:Array (Int×Value)}{ep:Nat}{t:SetTable}{Q:Array (Int×Value)->Shared->Prop}(S:aV w s.heap d es ep t)(Gd:∃S n,aX prog w s.heap d S n)(Ga:∃S n,aX prog w s.heap da S n)(Gr:aX prog w s.heap r (fun _=>false) 0)(q:∀(es':Array (Int×Value)) dr h',es'.toList.Perm es.toList->Heap.SameBut r s.heap h'->aX prog w h' r (fun _=>false) 0->Q es' {s with heap:=h',drawn:=dr}):wpAny (model prog w) A (setWalkUnseen d [da,r] (some r)) Q E s:=by
 unfold setWalkUnseen
 refine ak (S.state (ak (Rk ?_)))
 refine pq (fun hb=> ?_) fun hb=> ?_
 ·exact M8 S fun es' dr hp=>q es' dr s.heap hp (Vm _ _) Gr
 ·refine ak (Jy [d,da,r] (fun a ha=> ?_) ?_)
  ·simp only[cB,V7,Wh]at ha
   rcases ha with rfl|rfl|rfl
   ·exact Gd
   ·exact Ga
   ·exact⟨_,_,Gr⟩
  ·refine pq (fun h=>absurd h (by simp)) fun _=> ?_
   refine ak (MP ?_)
   obtain⟨o,er,epr,tr,ho,hx,hd,el,mem,lt,ft,en,tb⟩:=id Gr
   dsimp only
   refine ak (wdj ho hd ft ?_)
   refine pq (fun _=> ?_) fun _=>aF (q es s.drawn s.heap (wgv _) (Vm _ _) Gr)
   refine ak (wff ho hd ?_ (wfg lt))
   have tb':TabOk (!w.params.followText "set-order") {tr with led:=tr.led&&t.led,plain:=tr.plain&&t.plain}:=⟨tb.rise,tb.nod,by show(tr.led&&t.led)=_;rw[tb.led,S.tab.led,Bool.and_self]⟩
   obtain⟨_,G'⟩:=aX.store (prog:=prog) (w:=w) (S:=fun _=>false) ho hx hd el mem lt (t':={tr with led:=tr.led&&t.led,plain:=tr.plain&&t.plain}) ft tb'
   rw[en]at G'
   exact aF (q es s.drawn _ (wgv _) (wY s.heap r _) G')
theorem Gm{Q:Value->Shared->Prop}(q:Q (.ref s.heap.objs.size) {s with heap:=s.heap.push {cls:= .type "set",dict:=none,data:= .set #[] 0 (.fresh 0 0 (!w.params.followText "set-order"))}}):wpAny (model prog w) A (newSet (.type "set")) Q E s:=by
 unfold newSet
 refine ak (Rk ?_)
 simp only[newObj]
 exact ak (wpAny_alloc (aF q))
theorem GC(h:Heap):aX prog w (h.push {cls:= .type "set",dict:=none,data:= .set #[] 0 (.fresh 0 0 (!w.params.followText "set-order"))}) h.objs.size (fun _=>false) 0:=
 ⟨_,#[],0,_,gB _ rfl,⟨rfl,rfl,rfl⟩,rfl,fun e he=>(by simp at he),fun k=>⟨fun z=>(nomatch z),fun⟨e,he,_⟩=>(by simp at he)⟩,by unfold scanBound;simp,rfl,rfl,nu _⟩
theorem yX{d:Addr}{es:Array (Int×Value)}{ep:Nat}{t:SetTable}{Q:Nat->Shared->Prop}(S:aV w s.heap d es ep t)(q:Q ep s):wpAny (model prog w) A (setEpoch d) Q E s:=by
 unfold setEpoch
 exact ak (S.state (aF q))
theorem Bu{nm:String}{dw da r:Addr}{es es':Array (Int×Value)}{ep:Nat}{t:SetTable}{Sa:Int->Bool}{na:Nat}{Q:Shared->Prop}(S:aV w s.heap dw es ep t)(el:ElemsOf (intKind prog w) es.toList)(Ga:aX prog w s.heap da Sa na)(Gr:aX prog w s.heap r (fun _=>false) 0)(nw:dw≠r)(na':da≠r)(hp:es'.toList.Perm es.toList)(hb:es.size+1<scanBound)(q:∀h' Sr m,Heap.SameBut r s.heap h'->aX prog w h' r Sr m->(∀k,Sr k=true↔(∃e∈es.toList,(intKind prog w).is k e.2=true)/\Sa k=true)->Q {s with heap:=h'}):
  wpAny (model prog w) A (forIn es' PUnit.unit fun(x:Int×Value) (_:PUnit)=>(do
   holding [x.2] (do
    if(<-setFind da x.2 x.1).isSome then
     let _<-setAddHashed r x.2 x.1)
   Builtin.Frozenset.unchanged nm dw ep
   pure (ForInStep.yield PUnit.unit):Sem (ForInStep PUnit))) (fun _=>Q) E s:=by
 refine wpAny_forIn_array' _ (fun rest _ s'=>∃(h':Heap) (pre:List (Int×Value)) (Sr:Int->Bool) (m:Nat),s'={s with heap:=h'}/\es'.toList=pre++rest/\Heap.SameBut r s.heap h'/\aX prog w h' r Sr m/\m<=pre.length/\∀k,Sr k=true↔(∃e∈pre,(intKind prog w).is k e.2=true)/\Sa k=true) _ (fun x rest b s' hI=> ?_) (fun b s' hI=> ?_) _ _ ⟨s.heap,[],fun _=>false,0,rfl,rfl,Vm _ _,Gr,aH _,fun k=>⟨fun z=>(nomatch z),fun⟨⟨e,he,_⟩,_⟩=>(nomatch he)⟩⟩
 ·obtain⟨h',pre,Sr,m,rfl,ep',sb,G,hm,hS⟩:=hI
  have mx:x∈es.toList:=hp.mem_iff.mp (by rw[ep'];simp)
  obtain⟨⟨k,hk,hh⟩,hsc⟩:=el x mx
  have len:pre.length+1<=es.size:=by
   have h1:=hp.length_eq
   have h2:es.toList.length=es.size:=sO
   rw[ep',lW,qx]at h1
   omega
  have Ga':aX prog w h' da Sa na:=Ga.at fun o e=>(sb.2 da na').trans e
  have S':aV w h' dw es ep t:=S.at fun o e=>(sb.2 dw nw).trans e
  have step:∀(R:ForInStep PUnit->Shared->Prop) h2,Heap.SameBut r h' h2->R (.yield PUnit.unit) {s with heap:=h2}->wpAny (model prog w) A (do Builtin.Frozenset.unchanged nm dw ep;pure (ForInStep.yield PUnit.unit)) R E {s with heap:=h2}:=fun R h2 QK hR=>by
   unfold Builtin.Frozenset.unchanged
   have S2:aV w h2 dw es ep t:=S'.at fun o e=>(QK.2 dw nw).trans e
   refine ak (ak (yX (s:={s with heap:=h2}) S2 ?_))
   exact pq (fun z=>absurd z (by simp)) fun _=>aF (aF hR)
  have fin:∀h2 (Sr2:Int->Bool) m2,Heap.SameBut r h' h2->aX prog w h2 r Sr2 m2->m2<=pre.length+1->(∀k',Sr2 k'=true↔(∃e∈pre++[x],(intKind prog w).is k' e.2=true)/\Sa k'=true)->
    ∃(h':Heap) (pre:List (Int×Value)) (Sr:Int->Bool) (m:Nat),({s with heap:=h2}:Shared)={s with heap:=h'}/\es'.toList=pre++rest/\Heap.SameBut r s.heap h'/\aX prog w h' r Sr m/\m<=pre.length/\∀k,Sr k=true↔(∃e∈pre,(intKind prog w).is k e.2=true)/\Sa k=true:=fun h2 Sr2 m2 QK G2 hm2 hS2=>
   ⟨h2,pre++[x],Sr2,m2,rfl,by rw[ep',MK];rfl,sb.trans QK,G2,by rw[lW];exact hm2,hS2⟩
  refine ak (uM ?_)
  rw[hh]
  refine ak (wpAny_setFind_of (s:={s with heap:=h'}) hk hsc Ga'.of fun o ho=> ?_)
  have uniq:∀k',(intKind prog w).is k' x.2=true->k'=k:=fun k' h'=>by
   obtain⟨t1,e1⟩:=Vo (k:=k) (v:=x.2) hk
   obtain⟨t2,e2⟩:=Vo (k:=k') (v:=x.2) h'
   rw[e1]at e2
   injection e2 with e3
   exact e3.symm
  refine pq (fun z=> ?_) fun z=> ?_
  ·rw[ho]at z
   refine ak (Lh (s:={s with heap:=h'}) hk hsc G (by omega) fun h2 b2 QK G2=>aF ?_)
   refine step _ h2 QK (fin h2 _ _ QK G2 (by split<;>omega) fun k'=> ?_)
   rw[Qu,Ey,hS k']
   constructor
   ·rintro(⟨⟨e,he,z1⟩,z2⟩|rfl)
    ·exact⟨⟨e,Ew _ he,z1⟩,z2⟩
    ·exact⟨⟨x,gY _ cV,hk⟩,z⟩
   ·rintro⟨⟨e,he,z1⟩,z2⟩
    rcases kJ.mp he with y|y
    ·exact .inl ⟨⟨e,y,z1⟩,z2⟩
    ·rw[g8.mp y]at z1
     exact .inr (uniq k' z1)
  ·rw[ho]at z
   refine aF ?_
   refine step _ h' (Vm _ _) (fin h' Sr m (Vm _ _) G (by omega) fun k'=> ?_)
   rw[hS k']
   constructor
   ·rintro⟨⟨e,he,z1⟩,z2⟩
    exact⟨⟨e,Ew _ he,z1⟩,z2⟩
   ·rintro⟨⟨e,he,z1⟩,z2⟩
    rcases kJ.mp he with y|y
    ·exact⟨⟨e,y,z1⟩,z2⟩
    ·rw[g8.mp y]at z1
     rw[uniq k' z1]at z2
     exact absurd z2 z
 ·obtain⟨h',pre,Sr,m,rfl,ep',sb,G,hm,hS⟩:=hI
  rw[sE]at ep'
  refine q h' Sr m sb G fun k=> ?_
  rw[hS k,<-ep']
  exact⟨fun⟨⟨e,he,z1⟩,z2⟩=>⟨⟨e,hp.mem_iff.mp he,z1⟩,z2⟩,fun⟨⟨e,he,z1⟩,z2⟩=>⟨⟨e,hp.mem_iff.mpr he,z1⟩,z2⟩⟩
theorem Km{nm:String}{d1 d2:Addr}{S1 S2:Int->Bool}{n1 n2:Nat}{Q:Value->Shared->Prop}(hne:d1≠d2)(G1:aX prog w s.heap d1 S1 n1)(G2:aX prog w s.heap d2 S2 n2)(b1:n1+1<scanBound)(b2:n2+1<scanBound)(q:∀h' dr Sr m,(∀b o,s.heap.get? b=some o->h'.get? b=some o)->aX prog w h' s.heap.objs.size Sr m->(∀k,Sr k=true↔S1 k=true/\S2 k=true)->Q (.ref s.heap.objs.size) {s with heap:=h',drawn:=dr}):
  wpAny (model prog w) A (Builtin.Frozenset.intersection nm d1 (.ref d2)) Q E s:=by
 have l1:d1<s.heap.objs.size:=by obtain⟨o,es,ep,t,ho,_⟩:=id G1;exact cA ho
 have l2:d2<s.heap.objs.size:=by obtain⟨o,es,ep,t,ho,_⟩:=id G2;exact cA ho
 unfold Builtin.Frozenset.intersection
 have hne':(Value.ref d2==Value.ref d1)=false:=by
  rw[beq_eq_false_iff_ne]
  intro z
  injection z with z
  exact hne z.symm
 refine pq (fun z=>absurd z (by rw[hne'];decide)) fun _=> ?_
 unfold Builtin.Frozenset.baseOf
 refine ak (ak (Vk (T:="set") (b:=true) G1.typeIs ZS (aF ?_)))
 refine ak (Gm ?_)
 have keep:∀b o,s.heap.get? b=some o->(s.heap.push {cls:= .type "set",dict:=none,data:= .set #[] 0 (.fresh 0 0 (!w.params.followText "set-order"))}).get? b=some o:=fun b o e=>cM _ e
 have Gr:=GC (prog:=prog) (w:=w) s.heap
 have F1:=G1.at fun o e=>keep d1 o e
 have F2:=G2.at fun o e=>keep d2 o e
 generalize (s.heap.push {cls:= .type "set",dict:=none,data:= .set #[] 0 (.fresh 0 0 (!w.params.followText "set-order"))})=g at *
 have n1r:d1≠s.heap.objs.size:=bQ l1
 have n2r:d2≠s.heap.objs.size:=bQ l2
 have T2:({s with heap:=g}:Shared).TypeIs (.ref d2) "set":=aX.typeIs (s:={s with heap:=g}) F2
 refine ak (aF ?_)
 refine ak (uM ?_)
 unfold Builtin.Frozenset.isAnySet
 refine ak ?_
 refine ak (Vk (s:={s with heap:=g}) (T:="set") (b:=true) T2 ZS ?_)
 refine aF ?_
 dsimp only
 rw[au rfl]
 refine ak (aF ?_)
 obtain⟨o1,es1,ep1,t1,ho1,hx1,hd1,el1,TF,Vt,ft1,en1,tb1⟩:=id F1
 obtain⟨o2,es2,ep2,t2,ho2,hx2,hd2,el2,aaJ,oA,ft2,en2,tb2⟩:=id F2
 have go:∀(da dw:Addr) (Sa Sw:Int->Bool) (na nw:Nat),aX prog w g da Sa na->aX prog w g dw Sw nw->da≠s.heap.objs.size->dw≠s.heap.objs.size->nw+1<scanBound->(∀k,(Sw k=true/\Sa k=true)↔(S1 k=true/\S2 k=true))->
   wpAny (model prog w) A (do
    let was<-setEpoch dw
    let es<-setWalkUnseen dw [da,s.heap.objs.size] (some s.heap.objs.size)
    forIn es PUnit.unit fun(x:Int×Value) (_:PUnit)=>(do
     holding [x.2] (do
      if(<-setFind da x.2 x.1).isSome then
       let _<-setAddHashed s.heap.objs.size x.2 x.1)
     Builtin.Frozenset.unchanged nm dw was
     pure (ForInStep.yield PUnit.unit):Sem (ForInStep PUnit))
    pure ()) (fun _ s'=>wpAny (model prog w) A (pure (Value.ref s.heap.objs.size)) Q E s') E {s with heap:=g}:=fun da dw Sa Sw na nw Ga Gw nar nwr hb hk=>by
  obtain⟨o,es,ep,t,ho,hx,hd,el,mem,lt,ft,en,tb⟩:=id Gw
  have S:aV w g dw es ep t:=Je ho hx hd ft tb
  refine ak (yX (s:={s with heap:=g}) S ?_)
  refine ak (WQ (s:={s with heap:=g}) S ⟨_,_,Gw⟩ ⟨_,_,Ga⟩ Gr fun es' dr h' hp sb Gr'=> ?_)
  refine ak (Bu (s:={s with heap:=h',drawn:=dr}) (S.at fun o e=>(sb.2 dw nwr).trans e) el (Ga.at fun o e=>(sb.2 da nar).trans e) Gr' nwr nar hp (by omega) fun h2 Sr m QK G2 hS=> ?_)
  refine aF (aF ?_)
  refine q h2 dr Sr m (fun b o e=> ?_) G2 fun k=> ?_
  ·have nb:b≠s.heap.objs.size:=bQ (cA e)
   exact((QK.2 b nb).trans ((sb.2 b nb).trans (keep b o e)))
  ·rw[hS k,<-mem k];exact hk k
 have sz:∀{d:Addr} {o:Obj} {es:Array (Int×Value)} {ep:Nat} {t:SetTable} {R:Nat->Shared->Prop},g.get? d=some o->o.data= .set es ep t->t.fits es.size=true->R es.size {s with heap:=g}->wpAny (model prog w) A (Builtin.Frozenset.sizeOf d) R E {s with heap:=g}:=fun ho hd hf hR=>by
  unfold Builtin.Frozenset.sizeOf
  exact ak (rE (s:={s with heap:=g}) ho hd hf (aF hR))
 refine ak (sz ho2 hd2 ft2 (ak (sz ho1 hd1 ft1 ?_)))
 by_cases c:es2.size>es1.size
 ·simp only[au c]
  exact go d2 d1 S2 S1 n2 n1 F2 F1 n2r n1r b1 fun k=>Iff.rfl
 ·simp only[ao c]
  exact go d1 d2 S1 S2 n1 n2 F1 F2 n1r n2r b2 fun k=>And.comm
theorem Lg{d1 d2:Addr}{S1 S2:Int->Bool}{n1 n2:Nat}{Q:Value->Shared->Prop}(hne:d1≠d2)(G1:aX prog w s.heap d1 S1 n1)(G2:aX prog w s.heap d2 S2 n2)(b1:n1+1<scanBound)(b2:n2+1<scanBound)(q:∀h' dr Sr m,(∀b o,s.heap.get? b=some o->h'.get? b=some o)->aX prog w h' s.heap.objs.size Sr m->(∀k,Sr k=true↔S1 k=true/\S2 k=true)->Q (.ref s.heap.objs.size) {s with heap:=h',drawn:=dr}):
  wpAny (model prog w) A (binaryOp .BitAnd (.ref d1) (.ref d2)) Q E s:=by
 have entry:entryFor table "set.__and__"=some Builtin.«frozenset.__and__»:=entryFor_alias (id':="frozenset.__and__") (by kernel_rfl) rfl (by decide+kernel) (by kernel_rfl)
 refine wpAny_binaryOp_same (op:= .BitAnd) (T:="set") G1.typeIs G2.typeIs F.fills_set_and F.slot_set_and (Dd F.slot_set_and G1.typeIs entry ?_ (F.args_set_and_2 _ _))
 unfold Builtin.«frozenset.__and__»
 refine ak (m:=Builtin.Frozenset.slot1 "__and__" ⟨[.ref d1,.ref d2],[]⟩) ?_
 unfold Builtin.Frozenset.slot1 slotArgs
 simp only[List.isEmpty_nil,Bool.not_true,WL,↓reduceIte,bind_assoc,Mj,qx,wfc]
 refine ak (aF (aF ?_))
 have any:∀{d:Addr} {S:Int->Bool} {n:Nat} {R:Bool->Shared->Prop},aX prog w s.heap d S n->R true s->wpAny (model prog w) A.in1 (Builtin.Frozenset.isAnySet (.ref d)) R E s:=fun G h=>by
  unfold Builtin.Frozenset.isAnySet
  exact ak (Vk (T:="set") (b:=true) G.typeIs ZS (aF h))
 refine ak (ak (any G1 (any G2 ?_)))
 refine pq (fun z=>absurd z (by simp)) fun _=> ?_
 refine ak (aF ?_)
 refine ak (Km hne G1 G2 b1 b2 fun h' dr Sr m k G hS=> ?_)
 exact aF ⟨_,rfl,by simp,q h' dr Sr m k G hS⟩
end
end PySem
namespace L2
open PySem PySem.Spec PyProof.Rows
section
variable{X:Cx}{a b:Expr}{ta tb:TA}{p p' pos pos' q' pos'' posB:Pos}
theorem Inv.JC{X:Cx}{pins:List (Addr×Obj)}{σ:St}{H:Hp}{s s1:Shared}{d:Addr}{o:Obj}(I0:Inv X pins σ H s1)(hd:s1.heap.objs.size<=d)(I:Inv X pins σ H s)(e:s.heap.get? d=some o)(hc:∀v,o.data≠.cell v):Inv X ((d,o)::pins) σ H s:=by
 have hl:d≠X.env.locals:=wR (gA I0.lt hd)
 refine⟨I.ok,I.os,I.bare,I.base,I.loc,I.cell,I.free,I.freeC,fun x hx=> ?_,I.hok,I.len⟩
 rcases kJ.mp hx with z|z
 ·exact I.pin x (Ew _ z)
 ·rcases cB.mp z with z|z
  ·rw[z];exact⟨e,I0.hok.fresh hd,hl,I0.nofs hd,hc⟩
  ·exact I.pin x (gY _ z)
theorem Inv.RK{X:Cx}{pins:List (Addr×Obj)}{σ:St}{H:Hp}{s:Shared}{x:Addr×Obj}(I:Inv X (x::pins) σ H s):Inv X pins σ H s:=
 ⟨I.ok,I.os,I.bare,I.base,I.loc,I.cell,I.free,I.freeC,fun y hy=>I.pin y (by
  rcases kJ.mp hy with z|z
  ·exact Ew _ z
  ·exact gY _ (dG _ z)),I.hok,I.len⟩
theorem mk_set{pins:List (Addr×Obj)}{σ:St}{H1:Hp}{s1:Shared}{bb:Bool}{l:Addr}{ns:List Int}{Q:Value->Shared->Prop}(hc:X.calm=true)(I1:Inv X pins σ H1 s1)(hq:Mv X.K bb H1 l (ns.map V.int))(hz:ns.length<60)(h:∀(g:Heap) (tk:Nat) (S:Int->Bool) (n:Nat),aX X.prog X.w g s1.heap.objs.size S n->(∀k,S k=true↔k∈ns)->n<60->(∀b o,s1.heap.get? b=some o->g.get? b=some o)->Q (.ref s1.heap.objs.size) {s1 with heap:=g,toks:=tk}):
  wpAny (model X.prog X.w) X.A (call (.type "set") [.ref l]) Q X.xe s1:=by
 have main:∀its:List Value,Vals (ns.map V.int) its->∀(g:Heap) (tk:Nat),aX X.prog X.w g s1.heap.objs.size (fun k'=>(firstMet (fun i=>ns.getD i 0) its.toArray.size).any (· ==k')) (firstMet (fun i=>ns.getD i 0) its.toArray.size).length->(∀b o,b<s1.heap.objs.size->s1.heap.get? b=some o->g.get? b=some o)->Q (.ref s1.heap.objs.size) {s1 with heap:=g,toks:=tk}:=by
  intro its rv g tk G keep
  have Gx:its.toArray.size=ns.length:=by rw[eU];exact Vj (intsAre_of rv)
  have hle:=wer (fun i=>ns.getD i 0) its.toArray.size
  refine h g tk _ _ G (fun k=> ?_) (by omega) fun b o e=>keep b o (cA e) e
  rw[Gx,wdt]
  constructor
  ·rintro⟨x,hx,e⟩
   rw[<-beq_iff_eq.mp e]
   rw[fK _ _ (aH _),uI]at hx
   exact hx
  ·intro hk
   exact⟨k,by rw[fK _ _ (aH _),uI];exact hk,by simp⟩
 cases bb with
 |true=>
  obtain⟨its,rv,pl,_⟩:=I1.tuple (show SqT X.K H1 l (ns.map V.int)from hq)
  have hi:IntsAre its ns:=intsAre_of rv
  have Gx:its.length=ns.length:=Vj hi
  exact qL (ns:=ns) (I1.ok.hd hc) (show s1.heap.IsTuple l its.toArray from pl) (by simpa using hi) (by unfold scanBound;simp;omega) fun g tk G keep=>main its rv g tk G keep
 |false=>
  obtain⟨its,rv,pl,_⟩:=I1.list (show SqL X.K H1 l (ns.map V.int)from hq)
  have hi:IntsAre its ns:=intsAre_of rv
  have Gx:its.length=ns.length:=Vj hi
  exact tW (ns:=ns) (I1.ok.hd hc) pl.isList (by simpa using hi) (by unfold scanBound;simp;omega) fun g tk G keep=>main its rv g tk G keep
def Ng(K:W.Frag)(ta tb:TA):TE:=fun σ H Q=>ta σ H fun vs H1=>∃(c:Bool) (l:Addr) (ns:List Int),vs=[.ref l]/\Mv K c H1 l (ns.map V.int)/\ns.length<60/\
 tb σ H1 fun us H2=>∃(d:Bool) (k:Addr) (ms:List Int),us=[.ref k]/\Mv K d H2 k (ms.map V.int)/\ms.length<60/\∀m:Nat,(0<m↔∃k,k∈ns/\k∈ms)->Q (.int (m:Int)) H2
theorem Fy(hc:X.calm=true)(T7:Gl X "len")(hmL:X.mg "len"=none)(hg:Gl X "set")(hm:X.mg "set"=none)(ha:PA X [a] ta)(hb:PA X [b] tb)(hs:starEach [a] X.env=[(false,eval a X.env)]:=by rfl)(hs':starEach [b] X.env=[(false,eval b X.env)]:=by rfl)(hs2:starEach [Expr.BinOp (.Call (.Name "set" p') [a] [] pos') .BitAnd (.Call (.Name "set" q') [b] [] pos'') posB] X.env=[(false,eval (Expr.BinOp (.Call (.Name "set" p') [a] [] pos') .BitAnd (.Call (.Name "set" q') [b] [] pos'') posB) X.env)]:=by rfl):
  PE X (.Call (.Name "len" p) [.BinOp (.Call (.Name "set" p') [a] [] pos') .BitAnd (.Call (.Name "set" q') [b] [] pos'') posB] [] pos) (Ng X.K ta tb):=by
 intro pins s σ H Q I h
 refine Mt (wC I T7 hmL wX ?_ (by decide) (by decide))
 refine wcg ?_ hs2 rfl
 rw[hs2]
 refine Vp ?_
 refine wpAny_BinOp ?_
 refine Call_ (wC I hg hm (show bootBuiltins "set"=some (.type "set")from by decide+kernel) (Ez (thn (ha pos' pins s σ H _ I h) fun us s1 ⟨vs,H1,I1,r1,q1⟩=> ?_) hs rfl))
 obtain⟨c,l,ns,e,hq,hz,q⟩:=q1
 subst e
 cases r1 with
 |cons r rr=>
 cases rr
 cases r
 refine mk_set hc I1 hq hz fun g tk S n G hS hn keep=> ?_
 have J1:Inv X pins σ H1 {s1 with heap:=g,toks:=tk}:=I1.kept keep
 obtain⟨o,es,ep,t,ho,hx,hd,el,mem,lt,ft,en,tb'⟩:=id G
 have J2:=Inv.JC I1 (aH _) J1 ho (fun v z=>by rw[hd]at z;cases z)
 refine Call_ (wC J2 hg hm (show bootBuiltins "set"=some (.type "set")from by decide+kernel) (Ez (thn (hb pos'' _ _ σ H1 _ J2 q) fun us2 s2 ⟨vs2,H2,I2,r2,q2⟩=> ?_) hs' rfl))
 obtain⟨c2,l2,ms,e2,hq2,hz2,qq⟩:=q2
 subst e2
 cases r2 with
 |cons r rr=>
 cases rr
 cases r
 have ho2:s2.heap.get? s1.heap.objs.size=some o:=(I2.pin _ (gY _ cV)).1
 have G2:aX X.prog X.w s2.heap s1.heap.objs.size S n:=⟨o,es,ep,t,ho2,hx,hd,el,mem,lt,ft,en,tb'⟩
 refine mk_set hc I2 hq2 hz2 fun g2 tk2 S2 n2 G3 hS2 hn2 Q6=> ?_
 have J3:=(I2.kept (t':=tk2) Q6).RK
 have ne:s1.heap.objs.size≠s2.heap.objs.size:=bQ (cA ho2)
 refine Lg (s:={s2 with heap:=g2,toks:=tk2}) ne (G2.at fun o e=>Q6 _ o e) G3 (by unfold scanBound;omega) (by unfold scanBound;omega) fun g3 dr Sr m XF G4 hS4=> ?_
 refine RB ?_
 obtain⟨o4,es4,ep4,t4,ho4,TY,hd4,el4,Xu,lt4,ft4,en4,tb4⟩:=id G4
 refine call_len_set (s:={s2 with heap:=g3,toks:=tk2,drawn:=dr}) ho4 TY hd4 ft4 (by unfold scanBound at lt4;omega) ?_
 have J4:Inv X pins σ H2 {s2 with heap:=g3,toks:=tk2+1+1}:=J3.kept (t':=tk2+1+1) XF
 have J5:Inv X pins σ H2 {s2 with heap:=g3,toks:=tk2+1+1,drawn:=dr}:=⟨J4.ok,J4.os,J4.bare,J4.base,J4.loc,J4.cell,J4.free,J4.freeC,J4.pin,J4.hok,J4.len⟩
 refine⟨.int (es4.size:Int),H2,J5,⟨_,rfl⟩,qq es4.size ?_⟩
 constructor
 ·intro hp
  obtain⟨⟨k,hk,_⟩,_⟩:=el4 es4[0] (by simp)
  obtain⟨z1,z2⟩:=(hS4 k).mp ((Xu k).mpr ⟨es4[0],by simp,hk⟩)
  exact⟨k,(hS k).mp z1,(hS2 k).mp z2⟩
 ·rintro⟨k,z1,z2⟩
  obtain⟨e,he,_⟩:=(Xu k).mp ((hS4 k).mpr ⟨(hS k).mpr z1,(hS2 k).mpr z2⟩)
  have:=Va he
  rwa [sO]at this
end
end L2
namespace Hs
open PySem L2 zO
section
variable{P:Program}{w:World}{K:W.Frag}{mg:Str->Option Value}{base:Heap}
theorem rG{X:Cx}(K:W.Frag)(h:X.K=K:=by rfl):CallR X (.type "tuple") (fun xs H Q=>∃p ys,xs=[.ref p]/\((SqL K H p ys/\∀l,H l=none->Q (.ref l) (upd H l (.tup ys)))\/(SqT K H p ys/\Q (.ref p) H))):=by subst h;exact Qc
theorem sW{X:Cx}(K:W.Frag)(h:X.K=K:=by rfl):CallR X (.builtin "sorted") (fun vs H Q=>∃(b:Bool) (a:Addr) (xs:List Int),vs=[.ref a]/\Mv K b H a (xs.map V.int)/\xs.length<64/\
  ∀(l:Addr) (ys:List Int),H l=none->ys.Perm xs->ys.Pairwise (· <= ·)->Q (.ref l) (upd H l (.lst (ys.map V.int)))):=by subst h;exact vZ
theorem Pz{xs:List V}{i c:Nat}(h:i+c<=xs.length):cutV xs (some (i:Int)) (some ((i:Int)+(c:Int)))=(xs.drop i).take c:=by
 unfold cutV HT.sIx
 simp only
 rw[ao (by omega),ao (by omega),wek (by omega),wek (by omega)]
 congr 1
 omega
def gk(K:W.Frag)(H:Hp):List V->List (List Int)->Prop:=Paired fun v r=>∃p,v= .ref p/\SqT K H p (r.map V.int)
theorem gk.same{H H':Hp}{rs:List V}{R:List (List Int)}(h:gk K H rs R)(s:Same H H'):gk K H' rs R:=Paired.mapP h fun _ _ ⟨p,e,z⟩=>⟨p,e,s.tup z⟩
theorem getD_snoc{R:List (List Int)}{r:List Int}{p:Nat}:(R++[r]).getD p []=if p<R.length then R.getD p []else if p=R.length then r else[]:=by
 rw[kO,kO]
 by_cases c:p<R.length
 ·rw[au c,Vd c]
 ·rw[ao c]
  by_cases d:p=R.length
  ·rw[au d,d,Qn (aH _),Nat.sub_self];rfl
  ·rw[ao d,Mp (by rw[lW];show R.length+1<=p;omega)];rfl
def Ir(K:W.Frag)(T:Addr):Sp:=fun vs H Q _=>∃(a:Addr) (n b:Int) (ts:List (Int×Int)),vs=[.ref a,.int b]/\bH K H a n ts/\1<=b/\b<=5/\n*b<=10/\v9 H T/\
 ∀r l rs R hs H',aq T H H'->v9 H' T->H' r=some (.tup [.int (fJ (j4 n b ts) (fZ (n*b).toNat)),.ref l])->H' l=some (.lst rs)->gk K H' rs R->lJ (j4 n b ts) (n*b).toNat (fJ (j4 n b ts) (fZ (n*b).toNat)) hs->lH n b (fJ (j4 n b ts) (fZ (n*b).toNat)) ts R->H l=none->Q (.ref r) H'
theorem qd:FnScope ["web","b","crowded","hues","rows"] ["web","b"] (defScope Y9):=fsc
theorem Oe{f f1 f2 f3 f4 f5 f6:Addr}{fd d1 d2 d3 d4 d5 d6:FuncData}{tk0:Tok}(F:Fun K "each_so_many" "each_so_many" Y9 f fd)(D1:bY K mg "need_web" Mf ["thing"] f1 d1)(Y5:FnOk P w K mg base CX0 7 f1 d1 ["thing"] (cF K))(D2:bY K mg "need_from_to" Zb ["least","most","thing"] f2 d2)(G2:FnOk P w K mg base CX0 2 f2 d2 ["least","most","thing"] (xJ K))(D3:bY K mg "need_few" fX ["n"] f3 d3)(G3:FnOk P w K mg base CX0 1 f3 d3 ["n"] (nR K))(D4:bY K mg "fewest" jt ["web"] f4 d4)(G4:FnOk P w K mg base CX0 8 f4 d4 ["web"] (Ip K T))(D5:bY K mg "within" mH ["one","other"] f5 d5)(G5:FnOk P w K mg base CX0 8 f5 d5 ["one","other"] (xg K))(D6:bY K mg "pairs" mK ["n"] f6 d6)(G6:FnOk P w K mg base CX0 1 f6 d6 ["n"] (Ab K))(aU:mg "tuple"=none)(aD:mg "range"=none)(jC:mg "sorted"=none)(yC:mg "MOST_EACH"=some (.int 5 tk0)):
  FnOk P w K mg base CX0 9 f fd ["web","b"] (Ir K T):=by
 have G1:FnOk P w K mg base CX0 8 f1 d1 ["thing"] (cF K):=Y5.mono (by decide)
 refine F.ok qd (fun vs H Q E h=> ?_) (fun cdv A outer s H vs Q E hr h=> ?_)
 ·obtain⟨a,n,b,ts,rfl,_⟩:=h
  rfl
 obtain⟨a,n,b,ts,rfl,hA,b0,b1,hnb,hL,qq⟩:=h
 refine⟨_,(aO (tH (pc G1 hr D1 (aj (pv 0) aA))) (aO (tH (pc G2 hr D2 (aj aK (aj (pe_glob rfl yC (v:= .int 5) ⟨_,rfl⟩) (aj (pv 1) aA))))) (aO (tH (pc G3 hr D3 (aj (bK uG (bM gO (pv 0) aK (fun _ _=>rfl)) (pv 1)) aA))) (aO (cW (i:=2) qd.nd rfl (Or.inl rfl) (pc G4 hr D4 (aj (pc G5 hr D5 (aj (pv 0) (aj (pY (aj (pv 1) (aj (Hx Qc rfl aU (by decide+kernel) (aj (pc G6 hr D6 (aj (pv 1) aA)) aA)) aA))) aA))) aA))) (aO (cW (i:=3) qd.nd rfl (Or.inr rfl) (bM gO (pv 2) aK (fun _ _=>rfl))) (aO (Rj (i:=4) (own:=["place"]) (caps:=["hues","b"]) (ix:=[3,1]) qd.nd rfl (Or.inl rfl) rfl (CT rfl aD (aj (bM gO (pv 0) aK (fun _ _=>rfl)) aA)) rfl rfl (.cons rfl rfl (.cons rfl rfl .nil)) (fun _ _ _ _ _=>(cZ (i:=0) (show(["place","hues","b"]:List Str).Nodup from by decide+kernel) rfl (Or.inl rfl))) (fun _ _ _ _ _=>sy) (fun _ _ _ _ _=>(Hx (rG K) rfl aU (by decide+kernel) (aj (fW (sW K) rfl jC (by decide+kernel) (aj (pe_slice (IW K) (pv 1) (po_some (bK uG (pv 0) (pv 2))) (po_some (bK su (bK uG (pv 0) (pv 2)) (pv 2)))) aA)) aA)))) (bw (cI (pY (aj (bM gO (pv 2) aK (fun _ _=>rfl)) (aj (pv 4) aA))))))))))),?_⟩
 have h0:=hA.h0
 have h10:=hA.h1
 have nb0:0<=n*b:=wG h0 (by omega)
 refine⟨_,rfl,.ref a,_,rfl,hA.web.dv.dx,hA.ok,fun H1 s1=> ?_⟩
 obtain⟨RL,QM,w1,_,_⟩:=id (hA.same s1).web
 refine⟨_,rfl,1,5,b,rfl,b0,b1,?_⟩
 refine⟨_,rfl,a,_,_,.int n,rfl,rfl,w1,rfl,_,rfl,_,_,rfl,rfl,.inl ⟨by omega,by omega⟩,n*b,rfl,hnb,?_⟩
 refine⟨_,rfl,_,rfl,_,rfl,b,rfl,by omega,by omega,fun l2 H2 s2 p2=> ?_⟩
 obtain⟨rs2,e2,v2⟩:=p2.ex
 refine⟨l2,rs2,rfl,.inl ⟨SqL.of e2,fun t2 ht2=> ?_⟩⟩
 have s3:=aY ht2 (.tup rs2)
 refine⟨(by show 2<=sizeLine;decide),fun wb T3=> ?_⟩
 have s4:=aY T3 (.tup [.int b,.ref t2])
 have Nv:=s2.trans (s3.trans s4)
 have okb:=iD (n:=b) (i:=b.toNat) (ts:=rows tt b b.toNat) (by omega) (by omega) (Vl _)
 refine⟨a,wb,n,b,ts,rows tt b b.toNat,rfl,hA.same (s1.trans Nv),⟨⟨t2,rs2,SqT.of aJ,SqT.of (s4 _ _ aJ),v2.same (s3.trans s4)⟩,by omega,by omega,okb.1,okb.2⟩,hnb,fun r3 H3 s5 W3=> ?_⟩
 have Xm:=Rb (n:=n) (b:=b) (ts:=ts) nb0 hnb
 have s15:=s1.trans (Nv.trans s5)
 have VF:=hL.same s15
 obtain⟨tb3,ht3⟩:=VF.at
 refine⟨r3,n*b,j4 n b ts,rfl,⟨W3,nb0,hnb,Xm.1,Xm.2⟩,VF,fun r4 h4 d4 hs H4 x4 hL4 e4 eh hH _ _=> ?_⟩
 refine⟨_,rfl,r4,_,_,.ref h4,rfl,rfl,SqT.of e4,rfl,?_⟩
 have hA4:=(hA.same s15).tbl x4 ht3
 obtain⟨tt4,rr4,w4,_,_⟩:=id hA4.web
 have hlen:=hH.len
 have eb:((b.toNat:Nat):Int)=b:=by omega
 have eN:(n*b).toNat=n.toNat*b.toNat:=by
  have:((n.toNat*b.toNat:Nat):Int)=n*b:=by push_cast;rw[eb,Ml h0]
  omega
 refine⟨_,rfl,a,_,_,.int n,rfl,rfl,w4,rfl,n,rfl,by omega,by omega,?_⟩
 refine Ri (n:=n.toNat) (fun i acc σ H'=>(∃R:List (List Int),gk K H' acc R/\R.length=i/\∀p:Nat,p<i->(R.getD p []).Perm ((hs.drop (p*b.toNat)).take b.toNat)/\(R.getD p []).Pairwise (· <= ·))/\Same H4 H'/\∃o,σ=[o,some (.ref h4),some (.int b)]) ⟨⟨[],.nil,rfl,fun p hp=>absurd hp (MF p)⟩,Same.refl _,_,rfl⟩ (fun i acc σ H' hi p=> ?_) (by rw[fM];omega) (fun i acc σ H' hi p=> ?_) (fun acc σ H' p=> ?_)
 ·obtain⟨⟨R,hR,hl,_⟩,_⟩:=p
  rw[Paired.sV hR];omega
 ·obtain⟨⟨R,hR,hl,hall⟩,sm,o,rfl⟩:=p
  have hin:(i+1)*b.toNat<=n.toNat*b.toNat:=Nat.mul_le_mul_right _ hi
  have aaL:(i+1)*b.toNat=i*b.toNat+b.toNat:=by rw[Nat.add_mul,Nat.one_mul]
  have e0:(0+(i:Int))*b=((i*b.toNat:Nat):Int):=by push_cast;rw[eb,Wq]
  refine⟨_,rfl,_,rfl,_,rfl,_,_,rfl,rfl,.inl ⟨by omega,by omega⟩,_,rfl,_,rfl,_,rfl,_,_,rfl,rfl,.inl ⟨by omega,by omega⟩,_,rfl,_,_,rfl,rfl,_,rfl,h4,_,rfl,sm.tup (SqT.of eh),fun q1 G1 g1 c1=> ?_⟩
  have ec:cutV (hs.map V.int) (some ((0+(i:Int))*b)) (some ((0+(i:Int))*b+b))=((hs.drop (i*b.toNat)).take b.toNat).map V.int:=by
   have cm:=Pz (xs:=hs.map V.int) (i:=i*b.toNat) (c:=b.toNat) (by rw[aG];omega)
   rw[eb]at cm
   rw[e0,cm,List.map_take,List.map_drop]
  rw[ec]at c1
  have sl:((hs.drop (i*b.toNat)).take b.toNat).length<=5:=by rw[wI];omega
  refine⟨true,q1,_,rfl,c1,by omega,fun l ys hl' pm le=> ?_⟩
  have g2:=aY hl' (.lst (ys.map V.int))
  refine⟨l,_,rfl,.inl ⟨SqL.of aJ,fun t ht=> ?_⟩⟩
  have g3:=aY ht (.tup (ys.map V.int))
  have g13:=g1.trans (g2.trans g3)
  refine⟨⟨R++[ys],Paired.snoc (hR.same g13) ⟨t,rfl,SqT.of aJ⟩,by rw[lW,hl];rfl,fun p hp=> ?_⟩,sm.trans g13,_,rfl⟩
  rw[getD_snoc,hl]
  by_cases c:p<i
  ·rw[au c];exact hall p c
  ·have:p=i:=by omega
   subst this
   rw[ao c,au rfl]
   exact⟨pm,le⟩
 ·intro l hl
  obtain⟨⟨R,hR,hRl,hall⟩,sm,_⟩:=p
  have g1:=aY hl (.lst acc)
  have gl:(upd H' l (.lst acc)) l=some (.lst acc):=aJ
  have VD:=hR.same g1
  have e41:=(sm.trans g1) _ _ e4
  generalize (upd H' l (.lst acc))=H5 at *
  refine⟨_,rfl,r4,_,_,.int (fJ (j4 n b ts) (fZ (n*b).toNat)),rfl,rfl,SqT.of e41,rfl,_,rfl,(by show 2<=sizeLine;decide),fun r hr'=> ?_⟩
  have g2:=aY hr' (.tup [.int (fJ (j4 n b ts) (fZ (n*b).toNat)),.ref l])
  refine qq r l acc R hs _ ((s15.x T).trans (x4.trans ((sm.trans (g1.trans g2)).x T))) (hL4.same (sm.trans (g1.trans g2))) aJ (g2 _ _ gl) (VD.same g2) hH (Ny h0 (by omega) hA.pk hH hRl hall) ?_
  have Tw:l≠T:=fun z=>by
   obtain⟨tb4,ht4⟩:=hL4.at
   rw[z,sm _ _ ht4]at hl;cases hl
  exact s15.none ((x4.trans (sm.x T)).free Tw hl)
def Ds(K:W.Frag):Sp:=fun vs H Q _=>∃(p:Addr) (b:Int) (row:List Int),vs=[.int b,.ref p]/\SqT K H p (row.map V.int)/\row.Pairwise (· < ·)/\(row.length:Int)=b/\(∀h∈row,0<=h)/\∀H',Same H H'->Q (.bl true) H'
theorem Jm:FnScope ["b","thing"] ["b","thing"] (defScope mW):=fsc
theorem JQ{f f1 f2:Addr}{fd d1 d2:FuncData}(F:Fun K "is_row" "is_row" mW f fd)(D1:bY K mg "is_rising" Uz ["things"] f1 d1)(G1:FnOk P w K mg base CX0 1 f1 d1 ["things"] (lY K))(D2:bY K mg "is_whole" Mw ["thing"] f2 d2)(G2:FnOk P w K mg base CX0 1 f2 d2 ["thing"] (iI K))(cN:mg "len"=none)(bA:mg "isinstance"=none)(aU:mg "tuple"=none)(yw:mg "all"=none):
  FnOk P w K mg base CX0 2 f fd ["b","thing"] (Ds K):=by
 refine F.ok Jm (fun vs H Q E h=> ?_) (fun cdv A outer s H vs Q E hr h=> ?_)
 ·obtain⟨p,b,row,rfl,_⟩:=h
  rfl
 obtain⟨p,b,row,rfl,hp,up,hl,hn,qq⟩:=h
 refine⟨_,(aO (lR (PW.pt (pw_or (wN (wO (fW Ep rfl bA (by decide+kernel) (aj (pv 1) (aj (En rfl aU (v:= .ty "tuple") (by decide+kernel) rfl) aA))))) (pw_or1 (gZ op_ne (fW zP rfl cN wX (aj (pv 1) aA)) (pv 0) (nomark _))))) (bw (cI pe_bl)) lU) (bw (cI (pe_and (fW (iB rfl) rfl yw (by decide+kernel) (aj (pZ (own:=["hue"]) (caps:=[]) (ix:=[]) rfl (Eo (pv 1)) rfl rfl .nil (fun _ _ _ _ _=>(cZ (i:=0) (show(["hue"]:List Str).Nodup from by decide+kernel) rfl (Or.inl rfl))) (fun _ _ _ _ _=>sy) (fun _ _ _ _ _=>(pe_and (pc G2 hr D2 (aj (pv 0) aA)) (pe_one (Hg op_ge (pv 0) aK (nomark _)))))) aA)) (pe_one (pc G1 hr D1 (aj (pv 1) aA))))))),?_⟩
 refine⟨_,rfl,.ref p,"tuple",_,rfl,.inl ⟨rfl,_,hp⟩,.inr (.inr (.inl rfl)),_,rfl,?_⟩
 refine iteF ?_
 refine⟨_,rfl,p,_,rfl,.inr hp,fun hz=>⟨_,rfl,rfl,_,rfl,?_⟩⟩
 have e1:(!decide (V.int (((row.map V.int).length:Nat):Int)=V.int b))=false:=by rw[aG,hl];simp
 rw[e1]
 refine iteF ?_
 refine⟨_,rfl,p,_,rfl,hp,fun hz=> ?_⟩
 refine LQ (xs:=row.map V.int) (fun i acc σ H'=>acc=(List.replicate i true).map V.bl/\H'=H/\∃o,σ=[o]) ⟨rfl,rfl,_,rfl⟩ (fun i acc σ H' _ p=>by rw[p.2.1];exact hp) (fun i acc σ H' _ p=>by rw[p.1,aG,MN];exact aH _) hz (fun i x acc σ H' hx p=> ?_) (fun acc σ H' p=> ?_)
 ·obtain⟨rfl,rfl,o,rfl⟩:=p
  rw[c7]at hx
  cases ex:row[i]? with
  |none=>rw[ex]at hx;cases hx
  |some y=>
   rw[ex]at hx
   cases hx
   have hy:=hn y (lX ex)
   refine⟨_,rfl,.int y,.int y,rfl,.int _,_,rfl,iteT ?_⟩
   refine⟨_,rfl,_,_,rfl,rfl,?_,rfl,_,rfl⟩
   show _++[V.bl (decide (0<=y))]=_
   rw[fj hy,U7,cJ];rfl
 intro p1 hp1
 obtain⟨rfl,rfl,_⟩:=p
 have s1:=aY hp1 (.lst ((List.replicate (row.map V.int).length true).map V.bl))
 refine⟨p1,_,rfl,SqL.of aJ,_,rfl,?_⟩
 rw[all_true]
 refine iteT ?_
 refine⟨_,rfl,p,_,_,rfl,s1.tup hp,tY row,fun H2 s2=> ?_⟩
 have ea:(List.range ((row.map V.int).length-1)).all (fun k=>decide (row.getD k 0<row.getD (k+1) 0))=true:=by
  rw[qw]
  intro k hk
  rw[sI,aG]at hk
  have h2:=Qm.mp up k (k+1) (by omega) (by omega) (by omega)
  have gg:∀j,(hj:j<row.length)->row.getD j 0=row[j]:=fun j hj=>by rw[kO,gn hj];rfl
  rw[gg k (by omega),gg (k+1) (by omega)]
  exact fj h2
 rw[ea]
 exact qq H2 (s1.trans s2)
def QH(K:W.Frag):Sp:=fun vs H Q _=>∃(p q:Addr) (xs ys:List Int),vs=[.ref p,.ref q]/\SqT K H p (xs.map V.int)/\SqT K H q (ys.map V.int)/\xs.length<60/\ys.length<60/\(∀h,h∈xs->h∈ys->False)/\Q (.bl false) H
theorem R0:FnScope ["one","other"] ["one","other"] (defScope Zj):=fsc
theorem Tg{f:Addr}{fd:FuncData}(F:Fun K "have_in_common" "have_in_common" Zj f fd)(cN:mg "len"=none)(J6:mg "set"=none):
  FnOk P w K mg base CX0 1 f fd ["one","other"] (QH K):=by
 refine F.ok R0 (fun vs H Q E h=> ?_) (fun cdv A outer s H vs Q E hr h=> ?_)
 ·obtain⟨p,q,xs,ys,rfl,_⟩:=h
  rfl
 obtain⟨p,q,xs,ys,rfl,hp,hq,l1,l2,no,qq⟩:=h
 refine⟨_,(bw (cI (Hg op_gt (Fy rfl rfl cN rfl J6 (aj (pv 0) aA) (aj (pv 1) aA)) aK (nomark _)))),?_⟩
 refine⟨_,rfl,true,p,xs,rfl,hp,l1,_,rfl,true,q,ys,rfl,hq,l2,fun m hm=>⟨_,_,rfl,rfl,?_⟩⟩
 have:¬(0:Int)<(m:Int):=fun z=>by
  obtain⟨k,k1,k2⟩:=hm.mp (by omega)
  exact no k k1 k2
 show Q (.bl (decide ((0:Int)<(m:Int)))) H
 rw[jN this];exact qq
theorem Tt(k:Nat):((List.replicate k false).any id)=false:=by
 rw[Qj]
 intro b hb
 rw[(List.mem_replicate.mp hb).2];decide
theorem gk.at{H:Hp}{rs:List V}{R:List (List Int)}{i:Int}(h:gk K H rs R)(h0:0<=i)(h1:i.toNat<R.length):∃p,atI rs i=some (.ref p)/\SqT K H p ((R.getD i.toNat []).map V.int):=by
 have hl:=Paired.sV h
 have hi:i.toNat<rs.length:=by omega
 obtain⟨r,hr,p,e,hp⟩:=Paired.at_ h (gn hi)
 refine⟨p,?_,?_⟩
 ·have:=atI_nat (xs:=rs) (j:=i.toNat) (v:=V.ref p) (by rw[gn hi,e])
  rwa [Ml h0]at this
 ·rw[kO,hr];exact hp
theorem lH.row{n b k:Int}{ts:List (Int×Int)}{R:List (List Int)}(h:lH n b k ts R){i:Nat}(hi:i<R.length):R.getD i []∈R:=by
 rw[kO,gn hi];exact Et hi
def tU(K:W.Frag):Sp:=fun vs H Q _=>∃(a l:Addr) (n b k:Int) (ts:List (Int×Int)) (rs:List V) (R:List (List Int)),vs=[.ref a,.int b,.ref l]/\bH K H a n ts/\1<=b/\b<=5/\SqL K H l rs/\gk K H rs R/\lH n b k ts R/\∀H',Same H H'->Q (.bl true) H'
theorem Av:FnScope ["web","b","rows"] ["web","b","rows"] (defScope iQ):=fsc
theorem Bj{f f1 f2 f3 f4:Addr}{fd d1 d2 d3 d4:FuncData}(F:Fun K "are_rows" "are_rows" iQ f fd)(D1:bY K mg "need_web" Mf ["thing"] f1 d1)(G1:FnOk P w K mg base CX0 7 f1 d1 ["thing"] (cF K))(D2:bY K mg "is_whole" Mw ["thing"] f2 d2)(G2:FnOk P w K mg base CX0 1 f2 d2 ["thing"] (iI K))(D3:bY K mg "is_row" mW ["b","thing"] f3 d3)(G3:FnOk P w K mg base CX0 2 f3 d3 ["b","thing"] (Ds K))(D4:bY K mg "have_in_common" Zj ["one","other"] f4 d4)(G4:FnOk P w K mg base CX0 1 f4 d4 ["one","other"] (QH K))(yw:mg "all"=none)(cN:mg "len"=none)(bA:mg "isinstance"=none)(iV:mg "list"=none)(J7:mg "any"=none):
  FnOk P w K mg base CX0 8 f fd ["web","b","rows"] (tU K):=by
 refine F.ok Av (fun vs H Q E h=> ?_) (fun cdv A outer s H vs Q E hr h=> ?_)
 ·obtain⟨a,l,n,b,k,ts,rs,R,rfl,_⟩:=h
  rfl
 obtain⟨a,l,n,b,k,ts,rs,R,rfl,hA,b0,b1,hl,hR,hok,qq⟩:=h
 refine⟨_,(aO (tH (pc G1 hr D1 (aj (pv 0) aA))) (aO (lR (PW.pt (pw_or (wN (wO (pc G2 hr D2 (aj (pv 1) aA)))) (pw_or1 (gZ op_lt (pv 1) aK (nomark _))))) pss_never lU) (aO (lR (PW.pt (pw_or (wN (wO (fW Ep rfl bA (by decide+kernel) (aj (pv 2) (aj (En rfl iV (v:= .ty "list") (by decide+kernel) rfl) aA))))) (pw_or (gZ op_ne (fW zP rfl cN wX (aj (pv 2) aA)) (bM gO (pv 0) aK (fun _ _=>rfl)) (nomark _)) (pw_or1 (wN (wO (fW (iB rfl) rfl yw (by decide+kernel) (aj (pZ (own:=["row"]) (caps:=["b"]) (ix:=[1]) rfl (CP (pv 2)) rfl rfl (.cons rfl rfl .nil) (fun _ _ _ _ _=>(cZ (i:=0) (show(["row","b"]:List Str).Nodup from by decide+kernel) rfl (Or.inl rfl))) (fun _ _ _ _ _=>sy) (fun _ _ _ _ _=>(pc G3 hr D3 (aj (pv 1) (aj (pv 0) aA))))) aA)))))))) (bw (cI pe_bl)) lU) (bw (cI (pe_not (fW (zq rfl) rfl J7 (by decide+kernel) (aj (pZ (own:=["one","other"]) (caps:=["rows"]) (ix:=[2]) rfl (Eo (bM gO (pv 0) aK (fun _ _=>rfl))) rfl rfl (.cons rfl rfl .nil) (fun _ _ _ _ _=>(jU K (n:=2) rfl (zL (cZ (i:=0) (show(["one","other","rows"]:List Str).Nodup from by decide+kernel) rfl (Or.inl rfl)) (zL (cZ (i:=1) (show(["one","other","rows"]:List Str).Nodup from by decide+kernel) rfl (Or.inl rfl)) pgs_nil)))) (fun _ _ _ _ _=>sy) (fun _ _ _ _ _=>(pc G4 hr D4 (aj (bM (gb K) (pv 2) (pv 0) (fun _ _=>rfl)) (aj (bM (gb K) (pv 2) (pv 1) (fun _ _=>rfl)) aA))))) aA)))))))),?_⟩
 have h0:=hA.h0
 have hRl:=Paired.sV hR
 have hRn:=hok.len
 refine⟨_,rfl,.ref a,_,rfl,hA.web.dv.dx,hA.ok,fun H1 s1=> ?_⟩
 have Ym:=hA.same s1
 obtain⟨RL,QM,w1,w2,w3⟩:=id Ym.web
 refine⟨_,rfl,.int b,.int b,rfl,.int b,_,rfl,?_⟩
 refine iteF ?_
 refine⟨_,rfl,_,_,rfl,rfl,_,rfl,?_⟩
 rw[jN (show¬b<1 by omega)]
 refine iteF ?_
 have hl1:=s1.seq hl
 have VD:=hR.same s1
 refine⟨_,rfl,.ref l,"list",_,rfl,.inr (.inl ⟨rfl,_,hl1⟩),.inr (.inr (.inr rfl)),_,rfl,?_⟩
 refine iteF ?_
 refine⟨_,rfl,l,_,rfl,.inl hl1,fun hz=>⟨_,rfl,a,_,_,.int n,rfl,rfl,w1,rfl,rfl,_,rfl,?_⟩⟩
 have e1:(!decide (V.int ((rs.length:Nat):Int)=V.int n))=false:=by
  have:((rs.length:Nat):Int)=n:=by omega
  rw[this,fj rfl];rfl
 rw[e1]
 refine iteF ?_
 refine⟨_,rfl,l,_,rfl,hl1,fun hz=> ?_⟩
 refine Hi (xs:=rs) (fun i acc σ H'=>acc=(List.replicate i true).map V.bl/\Same H1 H'/\∃o,σ=[o,some (.int b)]) ⟨rfl,Same.refl _,_,rfl⟩ (fun i acc σ H' _ p=>p.2.1.seq hl1) (fun i acc σ H' _ p=>by rw[p.1,aG,MN];exact aH _) hz (fun i x acc σ H' hx p=> ?_) (fun acc σ H' p=> ?_)
 ·obtain⟨rfl,sm,o,rfl⟩:=p
  obtain⟨row,hrow,pp,rfl,hpp⟩:=Paired.at_ VD hx
  obtain⟨u1,u2,u3⟩:=hok.up row (lX hrow)
  refine⟨_,rfl,_,rfl,pp,b,row,rfl,sm.tup hpp,u1,u2,fun h hh=>(u3 h hh).1,fun H2 s2=>⟨?_,sm.trans s2,_,rfl⟩⟩
  rw[U7,cJ];rfl
 intro p1 hp1
 obtain⟨rfl,sm,_⟩:=p
 have g1:=aY hp1 (.lst ((List.replicate rs.length true).map V.bl))
 refine⟨p1,_,rfl,SqL.of aJ,_,rfl,?_⟩
 rw[all_true]
 refine iteF ?_
 have wL:=sm.trans g1
 generalize (upd H' p1 (.lst ((List.replicate rs.length true).map V.bl)))=H3 at *
 have hl3:=wL.seq hl1
 have Yi:=VD.same wL
 refine⟨_,rfl,a,_,_,.ref RL,rfl,rfl,wL.tup w1,rfl,RL,_,rfl,wL.tup w2,fun hz=> ?_⟩
 have w33:=w3.same wL
 have lr:QM.length=ts.length:=by have:=w3.len;rwa [aG]at this
 refine LQ (xs:=QM) (fun i acc σ H'=>acc=(List.replicate i false).map V.bl/\H'=H3/\∃o1 o2,σ=[o1,o2,some (.ref l)]) ⟨rfl,rfl,_,_,rfl⟩ (fun i acc σ H' _ p=>by rw[p.2.1];exact wL.tup w2) (fun i acc σ H' _ p=>by rw[p.1,aG,MN];exact aH _) hz (fun i x acc σ H' hx p=> ?_) (fun acc σ H' p=> ?_)
 ·obtain⟨rfl,rfl,o1,o2,rfl⟩:=p
  obtain⟨t,hi,rfl,ht⟩:=vq w33 hx
  obtain⟨q0,q1,q2⟩:=hA.pk.lt _ (Et hi)
  have i1:(ts[i]).1.toNat<R.length:=by omega
  have i2:(ts[i]).2.toNat<R.length:=by omega
  obtain⟨p1,a1,v1⟩:=gk.at Yi q0 i1
  obtain⟨p2,a2,v2⟩:=gk.at Yi (i:=(ts[i]).2) (by omega) i2
  have l1:=(hok.up _ (hok.row i1)).2.1
  have l2:=(hok.up _ (hok.row i2)).2.1
  refine⟨t,_,rfl,ht,rfl,_,_,rfl,_,_,rfl,rfl,?_⟩
  refine⟨_,rfl,_,rfl,l,_,_,.ref p1,rfl,rfl,hl3,a1,_,rfl,_,rfl,l,_,_,.ref p2,rfl,rfl,hl3,a2,?_⟩
  refine⟨p1,p2,_,_,rfl,v1,v2,by omega,by omega,fun h h1 h2=>hok.no _ (Et hi) h h1 h2,?_,rfl,_,_,rfl⟩
  rw[U7,cJ];rfl
 intro p2 hp2
 obtain⟨rfl,rfl,_⟩:=p
 have g2:=aY hp2 (.lst ((List.replicate QM.length false).map V.bl))
 refine⟨p2,_,rfl,SqL.of aJ,?_⟩
 rw[Tt]
 exact⟨_,rfl,qq _ (s1.trans (wL.trans g2))⟩
def Ad(K:W.Frag):Sp:=fun vs H Q _=>∃(a:Addr) (n b:Int) (ts:List (Int×Int)),vs=[.ref a,.int b]/\bH K H a n ts/\1<=b/\b<=5/\n*b<=10/\∀r H',Same H H'->bH K H' r (n*b) (j4 n b ts)->Q (.ref r) H'
theorem qe:FnScope ["web","b","ties","i","j"] ["web","b"] (defScope Za):=fsc
theorem Ol{f:Addr}{fd:FuncData}(F:Fun K "_law_acrowded" "_law_acrowded" Za f fd)(aD:mg "range"=none)(aU:mg "tuple"=none):
  FnOk P w K mg base CX0 1 f fd ["web","b"] (Ad K):=by
 refine F.ok qe (fun vs H Q E h=> ?_) (fun cdv A outer s H vs Q E hr h=> ?_)
 ·obtain⟨a,n,b,ts,rfl,_⟩:=h
  rfl
 obtain⟨a,n,b,ts,rfl,hA,b0,b1,hnb,qq⟩:=h
 refine⟨_,(aO (cW (i:=2) qe.nd rfl (Or.inl rfl) (pe_lst aA)) (aO (uH sG rfl (CT rfl aD (aj (bK uG (bM gO (pv 0) aK (fun _ _=>rfl)) (pv 1)) aA)) (cZ (i:=3) qe.nd rfl (Or.inl rfl)) (bw (uH sG rfl (pi_range2 rfl aD (aj (bK su (pv 3) aK) (aj (bK uG (bM gO (pv 0) aK (fun _ _=>rfl)) (pv 1)) aA))) (cZ (i:=4) qe.nd rfl (Or.inl rfl)) (bw (lR (PW.pt (pw_or (gZ op_eq (bK dh (pv 3) (pv 1)) (bK dh (pv 4) (pv 1)) (nomark _)) (pw_or1 (gZ (qT hr.units) (pY (aj (bK dh (pv 3) (pv 1)) (aj (bK dh (pv 4) (pv 1)) aA))) (bM gO (pv 0) aK (fun _ _=>rfl)) (by with_unfolding_all rfl))))) (bw (tH (pe_bm M7 wcd wce mt_append (pv 2) (aj (pY (aj (pv 3) (aj (pv 4) aA))) aA)))) lU))))) (bw (cI (pY (aj (bK uG (bM gO (pv 0) aK (fun _ _=>rfl)) (pv 1)) (aj (Hx Qc rfl aU (by decide+kernel) (aj (pv 2) aA)) aA))))))),?_⟩
 have h0:=hA.h0
 have nb0:0<=n*b:=wG h0 (by omega)
 obtain⟨RL,QM,w1,w2,w3⟩:=id hA.web
 refine⟨(by show 0<=sizeLine;decide),fun l hl=> ?_⟩
 have s0:=aY hl (.lst [])
 have e0:(upd H l (.lst [])) l=some (.lst []):=aJ
 generalize (upd H l (.lst []))=H0 at *
 have keep:∀{H':Hp},aq l H0 H'->bH K H' a n ts:=fun{H'} x=>(hA.same s0).mD x e0
 have mul:CMul n b:= .inl ⟨by omega,by have:=hA.h1;omega⟩
 refine⟨_,rfl,a,_,_,.int n,rfl,rfl,s0.tup w1,rfl,_,rfl,_,_,rfl,rfl,mul,n*b,rfl,by omega,by omega,?_⟩
 refine CQ (n:=(n*b).toNat) (fun i σ H'=>aq l H0 H'/\Cv K H' l (rows (nA b ts) (n*b) i)/\∃o1 o2,σ=[some (.ref a),some (.int b),some (.ref l),o1,o2]) ⟨aq.refl _ _,⟨⟨[],e0,.nil⟩⟩,_,_,rfl⟩ (fun i σ H' hi p=> ?_) (fun σ H' p=> ?_)
 ·obtain⟨x,lp,o1,o2,rfl⟩:=p
  obtain⟨Nb,W9,y1,_,_⟩:=id (keep x).web
  refine⟨_,rfl,_,_,rfl,rfl,_,rfl,a,_,_,.int n,rfl,rfl,y1,rfl,_,rfl,_,_,rfl,rfl,mul,_,_,rfl,⟨by omega,by omega,by omega,by omega⟩,?_⟩
  refine CQ (n:=(n*b-(0+(i:Int)+1)).toNat) (fun k σ H'=>aq l H0 H'/\Cv K H' l (rows (nA b ts) (n*b) i++row (nA b ts) (0+(i:Int)) k)/\∃o2,σ=[some (.ref a),some (.int b),some (.ref l),some (.int (0+(i:Int))),o2]) ⟨x,by rw[show row (nA b ts) (0+(i:Int)) 0=[]from rfl,sE];exact lp,_,rfl⟩ (fun k σ H' hk p=> ?_) (fun σ H' p=> ?_)
  ·obtain⟨x,lp,o2,rfl⟩:=p
   have hW:=keep x
   obtain⟨Nb,W9,y1,y2,y3⟩:=id hW.web
   obtain⟨rs,er,vr⟩:=lp.ex
   have hrl:=vr.len
   rw[aG]at hrl
   have rlen:rs.length<=1000:=by
    have sub:(rows (nA b ts) (n*b) i++row (nA b ts) (0+(i:Int)) k).length<=(rows tt (n*b) i++row tt (0+(i:Int)) k).length:=by
     rw[lW,lW]
     have u1:(rows (nA b ts) (n*b) i).length<=(rows tt (n*b) i).length:=by rw[<-ju];exact wJ _ _
     have u2:(row (nA b ts) (0+(i:Int)) k).length<=k:=by
      unfold row
      exact eO (wJ _ _) (by rw[aG,sJ];exact aH _)
     have u3:(row tt (0+(i:Int)) k).length=k:=by
      unfold row
      rw[List.filter_eq_self.mpr (show∀p∈(List.range k).map (fun(t:Nat)=>(0+(i:Int),0+(i:Int)+1+(t:Int))),tt p.1 p.2=true from fun _ _=>rfl),aG,sJ]
     omega
    have u4:(rows tt (n*b) i).length<=45:=pairs_len (u9 (so:=tt) (m:=n*b) (i:=i)) hnb
    have u5:(row tt (0+(i:Int)) k).length<=10:=by
     unfold row
     exact eO (wJ _ _) (by rw[aG,sJ];omega)
    rw[lW]at sub
    rw[lW]at sub
    rw[lW]at hrl
    omega
   have go:rows (nA b ts) (n*b) i++row (nA b ts) (0+(i:Int)) (k+1)=(rows (nA b ts) (n*b) i++row (nA b ts) (0+(i:Int)) k)++(if nA b ts (0+(i:Int)) (0+(i:Int)+1+(k:Int))=true then[(0+(i:Int),0+(i:Int)+1+(k:Int))]else[]):=by rw[mX,MK]
   rw[go]
   have fd:0<b/\b<1000000000000000000000000000000:=⟨by omega,by omega⟩
   have add:∀{H2:Hp},Same H' H2->nA b ts (0+(i:Int)) (0+(i:Int)+1+(k:Int))=true->∀p,H2 p=none->aq l H0 (upd (upd H2 p (.tup [.int (0+(i:Int)),.int (0+(i:Int)+1+(k:Int))])) l (.lst (rs++[.ref p])))/\Cv K (upd (upd H2 p (.tup [.int (0+(i:Int)),.int (0+(i:Int)+1+(k:Int))])) l (.lst (rs++[.ref p]))) l ((rows (nA b ts) (n*b) i++row (nA b ts) (0+(i:Int)) k)++(if nA b ts (0+(i:Int)) (0+(i:Int)+1+(k:Int))=true then[(0+(i:Int),0+(i:Int)+1+(k:Int))]else[])):=fun{H2} s2 c p hp=>by
    have n1:=aY hp (.tup [.int (0+(i:Int)),.int (0+(i:Int)+1+(k:Int))])
    have e2:(upd H2 p (.tup [.int (0+(i:Int)),.int (0+(i:Int)+1+(k:Int))])) l=some (.lst rs):=(s2.trans n1) _ _ er
    have xw:aq l (upd H2 p (.tup [.int (0+(i:Int)),.int (0+(i:Int)+1+(k:Int))])) (upd (upd H2 p (.tup [.int (0+(i:Int)),.int (0+(i:Int)+1+(k:Int))])) l (.lst (rs++[.ref p]))):=(aq.refl _ _).upd
    refine⟨x.trans (((s2.trans n1).x l).trans xw),⟨⟨_,aJ,?_⟩⟩⟩
    rw[au c,cJ]
    refine cY.append ?_ ?_
    ·have v2:=vr.same (s2.trans n1)
     obtain⟨its,rfl,ee,h4⟩:=Kl v2
     rw[<-ee]
     exact yj its fun q hq=>by
      have h5:=h4 q hq
      rcases h5 with(h5|⟨o,h5⟩)|h5
      ·exact .inl (.inl (xw _ _ (fun z=>by rw[z,e2]at h5;cases h5) h5))
      ·exact .inl (.inr ⟨o,xw _ _ (fun z=>by rw[z,e2]at h5;cases h5) h5⟩)
      ·exact .inr h5
    ·have np:p≠l:=fun z=>by rw[z,s2 _ _ er]at hp;cases hp
     exact .cons (.tup (SqT.of (by rw[cu np];exact aJ)) (.cons (.int _) (.cons (.int _) .nil))) .nil
   refine⟨_,rfl,_,rfl,_,_,rfl,rfl,fd,_,rfl,_,rfl,_,_,rfl,rfl,fd,rfl,_,rfl,?_⟩
   by_cases c1:(0+(i:Int))/b=(0+(i:Int)+1+(k:Int))/b
   ·have cc:decide (V.int ((0+(i:Int))/b)=V.int ((0+(i:Int)+1+(k:Int))/b))=true:=by rw[c1];simp
    have cb:nA b ts (0+(i:Int)) (0+(i:Int)+1+(k:Int))=true:=by unfold nA;rw[fj c1,Wr]
    rw[cc]
    refine iteT (iteT ?_)
    refine⟨_,rfl,.inl ⟨rfl,_,SqL.of er⟩,_,rfl,_,rfl,(by show 2<=sizeLine;decide),fun p hp=> ?_⟩
    have n1:=aY hp (.tup [.int (0+(i:Int)),.int (0+(i:Int)+1+(k:Int))])
    obtain⟨g1,g2⟩:=add (Same.refl _) cb p hp
    exact⟨l,rs,_,rfl,rfl,n1 _ _ er,by rw[fM];omega,g1,g2,_,rfl⟩
   ·have cc:decide (V.int ((0+(i:Int))/b)=V.int ((0+(i:Int)+1+(k:Int))/b))=false:=jN fun z=>c1 (V.int.inj z)
    rw[cc]
    refine iteF ?_
    refine⟨_,rfl,_,rfl,_,_,rfl,rfl,fd,_,rfl,_,rfl,_,_,rfl,rfl,fd,(by show 2<=sizeLine;decide),fun q1 hq1=> ?_⟩
    have n1:=aY hq1 (.tup [.int ((0+(i:Int))/b),.int ((0+(i:Int)+1+(k:Int))/b)])
    refine⟨_,rfl,a,_,_,.ref Nb,rfl,rfl,n1.tup y1,rfl,Nb,_,_,pairD ((0+(i:Int))/b,(0+(i:Int)+1+(k:Int))/b),rfl,.inr (n1.tup y2),y3.same n1,.tup (SqT.of aJ) (.cons (.int _) (.cons (.int _) .nil)),oF ts,rfl,(by show max 0 (max 0 0)+1<=60;decide),_,rfl,?_⟩
    rw[zA]
    generalize (upd H' q1 (.tup [.int ((0+(i:Int))/b),.int ((0+(i:Int)+1+(k:Int))/b)]))=H2 at *
    have er2:=n1 _ _ er
    refine ite2 (fun c=> ?_) (fun c=> ?_)
    ·have cb:nA b ts (0+(i:Int)) (0+(i:Int)+1+(k:Int))=true:=by unfold nA;rw[c,Bool.or_true]
     refine⟨_,rfl,.inl ⟨rfl,_,SqL.of er2⟩,_,rfl,_,rfl,(by show 2<=sizeLine;decide),fun p hp=> ?_⟩
     have n2:=aY hp (.tup [.int (0+(i:Int)),.int (0+(i:Int)+1+(k:Int))])
     obtain⟨g1,g2⟩:=add n1 cb p hp
     exact⟨l,rs,_,rfl,rfl,n2 _ _ er2,by rw[fM];omega,g1,g2,_,rfl⟩
    ·have cb:¬nA b ts (0+(i:Int)) (0+(i:Int)+1+(k:Int))=true:=by unfold nA;rw[jN c1,Wv];exact c
     refine⟨x.trans (n1.x l),?_,_,rfl⟩
     rw[ao cb,sE]
     exact lp.same n1
  ·obtain⟨x,lp,o2,rfl⟩:=p
   rw[<-fV]at lp
   exact⟨x,lp,_,_,rfl⟩
 ·obtain⟨x,lp,o1,o2,rfl⟩:=p
  obtain⟨Nb,W9,y1,_,_⟩:=id (keep x).web
  obtain⟨rs,er,vr⟩:=lp.ex
  refine⟨_,rfl,a,_,_,.int n,rfl,rfl,y1,rfl,_,rfl,_,_,rfl,rfl,mul,_,rfl,l,rs,rfl,.inl ⟨SqL.of er,fun t ht=>⟨(by show 2<=sizeLine;decide),fun wb T3=> ?_⟩⟩⟩
  have n1:=aY ht (.tup rs)
  have n2:=aY T3 (.tup [.int (n*b),.ref t])
  have ec:rows (nA b ts) (n*b) (n*b).toNat=j4 n b ts:=(Ay fun i j h1 h2 h3=>(Ra (by omega) hA.pk h1 h2)).symm
  rw[ec]at vr
  have Xm:=Rb (n:=n) (b:=b) (ts:=ts) nb0 hnb
  have hl0:H l=none:=hl
  refine qq wb _ (fun c o e=> ?_) ⟨⟨t,rs,SqT.of aJ,SqT.of (n2 _ _ aJ),vr.same (n1.trans n2)⟩,nb0,hnb,Xm.1,Xm.2⟩
  have nc:c≠l:=fun z=>by rw[z,hl0]at e;cases e
  exact(n1.trans n2) _ _ (x _ _ nc (s0 _ _ e))
theorem yq(k:Nat):((List.replicate k (PyData.bool true)).any fun d=>PyData.eqv d (.bool false))=false:=by
 rw[Qj]
 intro d hd
 rw[List.eq_of_mem_replicate hd]
 simp[PyData.eqv]
theorem oE:∀k:Nat,PyData.canLayAll0 (List.replicate k (PyData.bool true))=true
 |0=>rfl
 |k+1=>by show(true&&PyData.canLayAll0 (List.replicate k (PyData.bool true)))=true;rw[oE k];rfl
theorem oJ{H:Hp}:∀k:Nat,cY K H ((List.replicate k true).map V.bl) (List.replicate k (PyData.bool true))
 |0=> .nil
 |k+1=> .cons (.bl true) (oJ k)
theorem ur:∀l:List Int,PyData.depthAll (l.map PyData.int)<=1
 |[]=>by decide
 |x::l=>by
  have:=ur l
  show max _ (PyData.depthAll (l.map PyData.int))<=1
  exact Nat.max_le.mpr ⟨by show 0<=1;decide,this⟩
theorem OD{a b:List Int}(ha:a.Pairwise (· < ·))(hb:b.Pairwise (· < ·))(h:∀k,k∈a↔k∈b):a=b:=by
 have na:a.Nodup:=ha.imp fun h e=>by omega
 have nb:b.Nodup:=hb.imp fun h e=>by omega
 have hp:a.Perm b:=(List.perm_ext_iff_of_nodup na nb).mpr h
 exact List.Perm.eq_of_pairwise (fun x y _ _ (h1:x<=y) (h2:y<=x)=>wgm h1 h2) (show a.Pairwise (fun x y:Int=>x<=y)from ha.imp fun h=>Hj h) (show b.Pairwise (fun x y:Int=>x<=y)from hb.imp fun h=>Hj h) hp
theorem Tz{k:Nat}(h:k<=39916800)(x:Int):CMul x ((k:Nat):Int):= .inr ⟨by omega,by omega⟩
theorem Same.Xi{H0 H H':Hp}{d:Addr}(s:Same H0 H)(n:H0 d=none)(e:aq d H H'):Same H0 H':=fun b u h=>e _ _ (fun z=>by rw[z,n]at h;cases h) (s _ _ h)
theorem GD(xs ys:List Int):PyData.eqv (.tuple (xs.map PyData.int)) (.tuple (ys.map PyData.int))=decide (xs=ys):=by
 have:∀(xs ys:List Int),PyData.eqvAll (xs.map PyData.int) (ys.map PyData.int)=decide (xs=ys):=by
  intro xs
  induction xs with
  |nil=>intro ys;cases ys<;>simp[PyData.eqvAll]
  |cons x xs ih=>intro ys;cases ys with
   |nil=>simp[PyData.eqvAll]
   |cons y ys=>
    have e:(x==y)=decide (x=y):=by rw[zV];simp
    simp[PyData.eqvAll,PyData.eqv,ih,e]
 simp[PyData.eqv,this]
theorem uo(xs ys:List Int):PyData.eqv (.list (xs.map PyData.int)) (.list (ys.map PyData.int))=decide (xs=ys):=by
 have h:=GD xs ys
 simp only[PyData.eqv]at h⊢
 exact h
theorem pJ(l m:List Int):min (PyData.list (l.map PyData.int)).depth (PyData.list (m.map PyData.int)).depth<=64:=by
 have:=ur l
 have e:(PyData.list (l.map PyData.int)).depth=PyData.depthAll (l.map PyData.int)+1:=rfl
 rw[e];omega
theorem Qy{T a:Addr}{H H':Hp}{xs:List V}{tb:Array Value}(e:aq T H H')(hn:H T=some (.tbl tb))(h:SqT K H a xs):SqT K H' a xs:=by
 rcases h with(q|⟨o,q⟩)|q
 ·exact .inl (.inl (e _ _ (fun z=>by rw[z,hn]at q;cases q) q))
 ·exact .inl (.inr ⟨o,e _ _ (fun z=>by rw[z,hn]at q;cases q) q⟩)
 ·exact .inr q
theorem NK{T:Addr}{H H':Hp}{rs:List V}{R:List (List Int)}{tb:Array Value}(e:aq T H H')(hn:H T=some (.tbl tb))(h:gk K H rs R):gk K H' rs R:=Paired.mapP h fun _ _ ⟨p,a,z⟩=>⟨p,a,Qy e hn z⟩
def xO(K:W.Frag)(T:Addr):Sp:=fun vs H Q _=>∃(a r l:Addr) (n b:Int) (ts:List (Int×Int)) (rs:List V) (R:List (List Int)),vs=[.ref a,.int b,.ref r]/\bH K H a n ts/\1<=b/\b<=5/\n*b<=10/\v9 H T/\H r=some (.tup [.int (fJ (j4 n b ts) (fZ (n*b).toNat)),.ref l])/\H l=some (.lst rs)/\gk K H rs R/\lH n b (fJ (j4 n b ts) (fZ (n*b).toNat)) ts R/\0<=fJ (j4 n b ts) (fZ (n*b).toNat)/\
 ∀H',aq T H H'->v9 H' T->Q (.bl true) H'
theorem dM:FnScope ["web","b","found","a","rows","row","i","j","told"] ["web","b","found"] (defScope fD):=fsc
theorem Gh{f f1 f2 f3 f4 f5 T:Addr}{fd d1 d2 d3 d4 d5:FuncData}(F:Fun K "_law_aright" "_law_aright" fD f fd)(D1:bY K mg "_law_awhole" fB ["found"] f1 d1)(Y5:FnOk P w K mg base CX0 1 f1 d1 ["found"] (RP K))(D2:bY K mg "value" qg ["web"] f2 d2)(G2:FnOk P w K mg base CX0 10 f2 d2 ["web"] (Dk K))(D3:bY K mg "fewest" jt ["web"] f3 d3)(G3:FnOk P w K mg base CX0 8 f3 d3 ["web"] (Ip K T))(D4:bY K mg "_law_acrowded" Za ["web","b"] f4 d4)(G4':FnOk P w K mg base CX0 1 f4 d4 ["web","b"] (Ad K))(D5:bY K mg "are_rows" iQ ["web","b","rows"] f5 d5)(G5:FnOk P w K mg base CX0 8 f5 d5 ["web","b","rows"] (tU K))(bA:mg "isinstance"=none)(iV:mg "list"=none)(cN:mg "len"=none)(aU:mg "tuple"=none)(jC:mg "sorted"=none)(J6:mg "set"=none):
  FnOk P w K mg base CX0 11 f fd ["web","b","found"] (xO K T):=by
 have G1:FnOk P w K mg base CX0 10 f1 d1 ["found"] (RP K):=Y5.mono (by decide)
 have G4:FnOk P w K mg base CX0 10 f4 d4 ["web","b"] (Ad K):=G4'.mono (by decide)
 refine F.ok dM (fun vs H Q E h=> ?_) (fun cdv A outer s H vs Q E hr h=> ?_)
 ·obtain⟨a,r,l,n,b,ts,rs,R,rfl,_⟩:=h
  rfl
 obtain⟨a,r,l,n,b,ts,rs,R,rfl,hA,b0,b1,hnb,hL,hr0,hl0,hR,hok,k0,qq⟩:=h
 refine⟨_,(aO (lR (PW.pt (pw_or (wN (wO (fW Ep rfl bA (by decide+kernel) (aj (pv 2) (aj (En rfl aU (v:= .ty "tuple") (by decide+kernel) rfl) aA))))) (pw_or (gZ op_ne (fW zP rfl cN wX (aj (pv 2) aA)) aK (nomark _)) (pw_or1 (wN (wO (fW Ep rfl bA (by decide+kernel) (aj (bM gO (pv 2) aK (fun _ _=>rfl)) (aj (En rfl iV (v:= .ty "list") (by decide+kernel) rfl) aA))))))))) (bw (cI pe_bl)) lU) (aO (lR (wN (wO (pc G1 hr D1 (aj (bM gO (pv 2) aK (fun _ _=>rfl)) aA)))) (bw (cI pe_bl)) lU) (aO (ps_asg (pv 2) (pg_tup rfl (zL (cZ (i:=3) dM.nd rfl (Or.inr rfl)) (zL (cZ (i:=4) dM.nd rfl (Or.inr rfl)) pgs_nil)))) (aO (lR (PW.pt (pw_or (gZ op_ne (fW zP rfl cN wX (aj (pv 4) aA)) (bM gO (pv 0) aK (fun _ _=>rfl)) (nomark _)) (pw_or1 (gZ (qT hr.units) pe_bl (pZ (own:=["row"]) (caps:=["b"]) (ix:=[1]) rfl (CP (pv 4)) rfl rfl (.cons rfl rfl .nil) (fun _ _ _ _ _=>(cZ (i:=0) (show(["row","b"]:List Str).Nodup from by decide+kernel) rfl (Or.inl rfl))) (fun _ _ _ _ _=>sy) (fun _ _ _ _ _=>(pe_and (fW (GQ K) rfl bA (by decide+kernel) (aj (pv 0) (aj (En rfl aU (v:= .ty "tuple") (by decide+kernel) rfl) aA))) (pe_one (Hg op_eq (fW (uz K) rfl cN wX (aj (pv 0) aA)) (pv 1) (nomark _)))))) (by with_unfolding_all rfl))))) (bw (cI pe_bl)) lU) (aO (uH sG rfl (CP (pv 4)) (cZ (i:=5) dM.nd rfl (Or.inl rfl)) (bw (lR (PW.pt (pw_or (gZ (JG hr.units) (Hx call_list_of rfl iV (by decide+kernel) (aj (pv 5) aA)) (vh rfl rfl jC rfl J6 (aj (pv 5) aA)) (nomark _)) (pw_or1 (gZ (qT hr.units) pe_bl (pZ (own:=["hue"]) (caps:=["a"]) (ix:=[3]) rfl (Eo (pv 5)) rfl rfl (.cons rfl rfl .nil) (fun _ _ _ _ _=>(cZ (i:=0) (show(["hue","a"]:List Str).Nodup from by decide+kernel) rfl (Or.inl rfl))) (fun _ _ _ _ _=>sy) (fun _ _ _ _ _=>(pe_and (pc G1 hr D1 (aj (pv 0) aA)) (pe_one (pe_chain op_le op_lt aK (pv 0) (pv 1)))))) (by with_unfolding_all rfl))))) (bw (cI pe_bl)) lU))) (aO (uH sG rfl (Eo (bM gO (pv 0) aK (fun _ _=>rfl))) (pg_tup rfl (zL (cZ (i:=6) dM.nd rfl (Or.inl rfl)) (zL (cZ (i:=7) dM.nd rfl (Or.inr rfl)) pgs_nil))) (bw (lR (gZ (JG hr.units) (pZ (own:=["hue"]) (caps:=["rows","j"]) (ix:=[4,7]) rfl (Eo (bM nO (pv 4) (pv 6) (fun _ _=>rfl))) rfl rfl (.cons rfl rfl (.cons rfl rfl .nil)) (fun _ _ _ _ _=>(cZ (i:=0) (show(["hue","rows","j"]:List Str).Nodup from by decide+kernel) rfl (Or.inl rfl))) (fun _ _ _ _ _=>dX (gZ (qj K hr.units) (pv 0) (bM (gb K) (pv 1) (pv 2) (fun _ _=>rfl)) (by with_unfolding_all rfl))) (fun _ _ _ _ _=>(pv 0))) (pe_lst aA) (nomark _)) (bw (cI pe_bl)) lU))) (aO (cW (i:=8) dM.nd rfl (Or.inl rfl) (pc G2 hr D2 (aj (pv 0) aA))) (aO (lR (PW.pt (pw_or (gZ op_ne (pv 3) (bM gO (pc G3 hr D3 (aj (pc G4 hr D4 (aj (pv 0) (aj (pv 1) aA))) aA)) aK (fun _ _=>rfl)) (nomark _)) (pw_or1 (gZ op_lt (bK uG (pv 3) (bM gO (pv 8) aK (fun _ _=>rfl))) (bK uG (pv 1) (bM gO (pv 8) aK (fun _ _=>rfl))) (nomark _))))) (bw (cI pe_bl)) lU) (bw (cI (Hg Sy (pc G5 hr D5 (aj (pv 0) (aj (pv 1) (aj (pv 4) aA)))) pe_bl (nomark _)))))))))))),?_⟩
 generalize hk:fJ (j4 n b ts) (fZ (n*b).toNat)=k at *
 have h0:=hA.h0
 have h10:=hA.h1
 have hRl:=Paired.sV hR
 have hRn:=hok.len
 have XS:SqT K H r [.int k,.ref l]:=SqT.of hr0
 have hlt:SqL K H l rs:=SqL.of hl0
 obtain⟨RL,QM,w1,w2,w3⟩:=id hA.web
 refine⟨_,rfl,.ref r,"tuple",_,rfl,.inl ⟨rfl,_,XS⟩,.inr (.inr (.inl rfl)),_,rfl,?_⟩
 refine iteF ?_
 refine⟨_,rfl,r,_,rfl,.inr XS,fun hz=>⟨rfl,_,rfl,?_⟩⟩
 refine iteF ?_
 refine⟨_,rfl,r,_,_,.ref l,rfl,rfl,XS,rfl,.ref l,"list",_,rfl,.inr (.inl ⟨rfl,_,hlt⟩),.inr (.inr (.inr rfl)),_,rfl,?_⟩
 refine iteF ?_
 refine⟨_,rfl,r,_,_,.int k,rfl,rfl,XS,rfl,k,rfl,_,rfl,?_⟩
 refine iteF ?_
 refine⟨_,rfl,r,_,rfl,XS,rfl,_,_,rfl,_,_,rfl,rfl,?_⟩
 refine⟨_,rfl,l,_,rfl,.inl hlt,fun hz=>⟨_,rfl,a,_,_,.int n,rfl,rfl,w1,rfl,rfl,_,rfl,?_⟩⟩
 have e1:(!decide (V.int ((rs.length:Nat):Int)=V.int n))=false:=by
  have:((rs.length:Nat):Int)=n:=by omega
  rw[this,fj rfl];rfl
 rw[e1]
 refine iteF ?_
 refine⟨_,rfl,l,_,rfl,hlt,fun hz=> ?_⟩
 refine Hi (xs:=rs) (fun i acc σ H'=>acc=(List.replicate i true).map V.bl/\H'=H/\∃o,σ=[o,some (.int b)]) ⟨rfl,rfl,_,rfl⟩ (fun i acc σ H' _ p=>by rw[p.2.1];exact hlt) (fun i acc σ H' _ p=>by rw[p.1,aG,MN];exact aH _) hz (fun i x acc σ H' hx p=> ?_) (fun acc σ H' p=> ?_)
 ·obtain⟨rfl,rfl,o,rfl⟩:=p
  obtain⟨row,hrow,pp,rfl,hpp⟩:=Paired.at_ hR hx
  obtain⟨u1,u2,u3⟩:=hok.up row (lX hrow)
  refine⟨_,rfl,.ref pp,"tuple",_,rfl,.inl ⟨rfl,_,hpp⟩,.inr (.inr (.inl rfl)),_,rfl,?_⟩
  refine iteT ?_
  refine⟨_,rfl,pp,_,rfl,.inr hpp,fun hz=>⟨_,rfl,rfl,?_,rfl,_,rfl⟩⟩
  have ee:decide (V.int (((row.map V.int).length:Nat):Int)=V.int b)=true:=by rw[aG,u2];simp
  rw[ee,U7,cJ];rfl
 intro p1 hp1
 obtain⟨rfl,rfl,_⟩:=p
 have g1:=aY hp1 (.lst ((List.replicate rs.length true).map V.bl))
 refine⟨p1,_,_,.bool false,rfl,.inl (SqL.of aJ),oJ _,.bl false,oE _,rfl,(by decide),_,rfl,?_⟩
 rw[yq]
 refine iteF ?_
 generalize (upd H' p1 (.lst ((List.replicate rs.length true).map V.bl)))=H1 at *
 have VD:=hR.same g1
 have hl1:=g1.seq hlt
 -- each row
 refine⟨_,rfl,l,_,rfl,hl1,fun hz=> ?_⟩
 refine for_list (K:=K) (a:=l) (xs:=rs) (fun i σ H'=>Same H1 H'/\∃o5,σ=[some (.ref a),some (.int b),some (.ref r),some (.int k),some (.ref l),o5,none,none,none]) ⟨Same.refl _,_,rfl⟩ (fun i σ H' _ p=>p.1.seq hl1) (fun i x σ H' hx p=> ?_) (fun σ H2 p=> ?_)
 ·obtain⟨sm,o5,rfl⟩:=p
  obtain⟨row,hrow,pp,rfl,aat⟩:=Paired.at_ VD hx
  obtain⟨u1,u2,u3⟩:=hok.up row (lX hrow)
  have hpp:=sm.tup aat
  refine⟨_,rfl,pp,_,rfl,.inr hpp,fun l1 hl1'=> ?_⟩
  have t1:=aY hl1' (.lst (row.map V.int))
  have e5:(upd H' l1 (.lst (row.map V.int))) l1=some (.lst (row.map V.int)):=aJ
  generalize upd H' l1 (.lst (row.map V.int))=G1 at *
  refine⟨_,rfl,true,pp,row,rfl,t1.tup hpp,by omega,fun r3 ys hr3 hys hm=> ?_⟩
  have ey:ys=row:=OD hys u1 hm
  subst ey
  have t2:=aY hr3 (.lst (ys.map V.int))
  refine⟨.list (ys.map PyData.int),.list (ys.map PyData.int),.lst (SqL.of (t2 _ _ e5)) (cY.ints _),.lst (SqL.of aJ) (cY.ints _),LR _,LR _,pJ _ _,_,rfl,?_⟩
  rw[uo,fj rfl]
  refine iteF ?_
  have t12:=t1.trans t2
  generalize upd G1 r3 (.lst (ys.map V.int))=G2 at *
  have X4:=t12.tup hpp
  refine⟨_,rfl,pp,_,rfl,X4,fun hz=> ?_⟩
  refine LQ (xs:=ys.map V.int) (fun k' acc σ H2=>acc=(List.replicate k' true).map V.bl/\H2=G2/\∃o,σ=[o,some (.int k)]) ⟨rfl,rfl,_,rfl⟩ (fun k' acc σ H2 _ p=>by rw[p.2.1];exact X4) (fun k' acc σ H2 _ p=>by rw[p.1,aG,MN];exact aH _) hz (fun k' x acc σ H2 hx2 p=> ?_) (fun acc σ H2 p=> ?_)
  ·obtain⟨rfl,rfl,o,rfl⟩:=p
   rw[c7]at hx2
   cases ex:ys[k']? with
   |none=>rw[ex]at hx2;cases hx2
   |some y=>
    rw[ex]at hx2
    cases hx2
    have hy:=u3 y (lX ex)
    refine⟨_,rfl,y,rfl,_,rfl,iteT ?_⟩
    refine⟨_,rfl,_,_,rfl,rfl,_,rfl,?_⟩
    rw[fj hy.1]
    refine iteT ?_
    refine⟨_,rfl,_,_,rfl,rfl,?_,rfl,_,rfl⟩
    show _++[V.bl (decide (y<k))]=_
    rw[fj hy.2,U7,cJ];rfl
  intro p2 hp2
  obtain⟨rfl,rfl,_⟩:=p
  have t3:=aY hp2 (.lst ((List.replicate (ys.map V.int).length true).map V.bl))
  refine⟨p2,_,_,.bool false,rfl,.inl (SqL.of aJ),oJ _,.bl false,oE _,rfl,(by decide),_,rfl,?_⟩
  rw[yq]
  exact iteF ⟨sm.trans (t12.trans t3),_,rfl⟩
 obtain⟨W0,o5,rfl⟩:=p
 have s02:=g1.trans W0
 have VG:=hA.same s02
 have hl2:=s02.seq hlt
 have VB:=hR.same s02
 obtain⟨Nb,W9,y1,y2,y3⟩:=id VG.web
 -- each tie
 refine⟨_,rfl,a,_,_,.ref Nb,rfl,rfl,y1,rfl,Nb,_,rfl,y2,fun hz=> ?_⟩
 refine for_tup (K:=K) (a:=Nb) (xs:=W9) (fun i σ H'=>Same H2 H'/\∃o5 o6 o7,σ=[some (.ref a),some (.int b),some (.ref r),some (.int k),some (.ref l),o5,o6,o7,none]) ⟨Same.refl _,_,_,_,rfl⟩ (fun i σ H' _ p=>p.1.tup y2) (fun i x σ H' hx p=> ?_) (fun σ H3 p=> ?_)
 ·obtain⟨sm,o5,o6,o7,rfl⟩:=p
  obtain⟨t,hi,rfl,ht⟩:=vq (y3.same sm) hx
  obtain⟨q0,q1,q2⟩:=hA.pk.lt _ (Et hi)
  have i1:(ts[i]).1.toNat<R.length:=by omega
  have i2:(ts[i]).2.toNat<R.length:=by omega
  have Yi:=VB.same sm
  have hl3:=sm.seq hl2
  obtain⟨p1,a1,v1⟩:=gk.at Yi q0 i1
  obtain⟨p2,a2,v2⟩:=gk.at Yi (i:=(ts[i]).2) (by omega) i2
  refine⟨t,_,rfl,ht,rfl,_,_,rfl,_,_,rfl,rfl,?_⟩
  refine⟨_,rfl,_,rfl,l,_,_,.ref p1,rfl,rfl,hl3,a1,p1,_,rfl,v1,fun hz=> ?_⟩
  refine LQ (xs:=(R.getD (ts[i]).1.toNat []).map V.int) (fun k' acc σ H2=>acc=[]/\H2=H'/\∃o,σ=[o,some (.ref l),some (.int (ts[i]).2)]) ⟨rfl,rfl,_,rfl⟩ (fun k' acc σ H2 _ p=>by rw[p.2.1];exact v1) (fun k' acc σ H2 _ p=>by rw[p.1];exact cX _) hz (fun k' x acc σ H2 hx2 p=> ?_) (fun acc σ H2 p=> ?_)
  ·obtain⟨rfl,rfl,o,rfl⟩:=p
   rw[c7]at hx2
   cases ex:(R.getD (ts[i]).1.toNat [])[k']? with
   |none=>rw[ex]at hx2;cases hx2
   |some y=>
    rw[ex]at hx2
    cases hx2
    have my:=lX ex
    have no:y∉R.getD (ts[i]).2.toNat []:=fun z=>hok.no _ (Et hi) y my z
    refine⟨_,rfl,_,rfl,_,rfl,l,_,_,.ref p2,rfl,rfl,hl3,a2,p2,_,_,.int y,rfl,.inr v2,cY.ints _,.int _,LR _,rfl,(by show 0<=60;decide),_,rfl,?_⟩
    rw[any_ints,jN no]
    exact iteF ⟨rfl,rfl,_,rfl⟩
  intro p3 hp3
  obtain⟨rfl,rfl,_⟩:=p
  have t1:=aY hp3 (.lst [])
  have e14:(upd H2 p3 (.lst [])) p3=some (.lst []):=aJ
  generalize (upd H2 p3 (.lst []))=G4 at *
  refine⟨(by show 0<=sizeLine;decide),fun p4 X5=> ?_⟩
  have t2:=aY X5 (.lst [])
  refine⟨.list (([]:List Int).map PyData.int),.list (([]:List Int).map PyData.int),.lst (SqL.of (t2 _ _ e14)) .nil,.lst (SqL.of aJ) .nil,rfl,rfl,pJ [] [],_,rfl,?_⟩
  rw[uo,fj rfl]
  exact iteF ⟨sm.trans (t1.trans t2),_,_,_,rfl⟩
 obtain⟨sm3,o5',o6,o7,rfl⟩:=p
 have s03:=s02.trans sm3
 have Yl:=hA.same s03
 refine⟨_,rfl,a,n,ts,rfl,Yl,fun va ss ov Z Y X H4 s4 e4 hSo hSh=> ?_⟩
 have W8:=s03.trans s4
 refine⟨_,rfl,_,rfl,_,rfl,a,n,b,ts,rfl,hA.same W8,b0,b1,hnb,fun wb H5 s5 W5=> ?_⟩
 have W7:=W8.trans s5
 have Pa:=hL.same W7
 obtain⟨tb5,XR⟩:=Pa.at
 refine⟨wb,n*b,j4 n b ts,rfl,W5,Pa,fun r6 h6 d6 hs6 H6 x6 O9 e6 _ _ _ _=> ?_⟩
 rw[hk]at e6
 refine⟨r6,_,_,.int k,rfl,rfl,SqT.of e6,rfl,rfl,_,rfl,?_⟩
 have ek:(!decide (V.int k=V.int k))=false:=by rw[fj rfl];rfl
 rw[ek]
 refine iteF ?_
 have F6:Rh K H6 va (cg Z ov):=Qy x6 XR (s5.tup e4)
 have hp:=hSh.pos
 have lw:=qZ Z hp
 have lwe:=lw.eq
 have lwp:=lw.pos
 have lwb:(cg Z ov).2<=39916800:=eO (Nat.div_le_self _ _) hSh.big
 refine⟨_,rfl,_,rfl,va,_,_,.int (((cg Z ov).2:Nat):Int),rfl,rfl,F6,rfl,_,_,rfl,rfl,Tz lwb _,_,rfl,_,rfl,va,_,_,.int (cg Z ov).1,rfl,rfl,F6,rfl,_,_,rfl,rfl,.inl ⟨by omega,by omega⟩,_,_,rfl,rfl,_,rfl,?_⟩
 have c3:¬k*((cg Z ov).2:Int)<b*(cg Z ov).1:=fun z=>by
  have kk:=Nz h0 k0 hA.pk hok hSo hSh
  have z2:=Int.mul_lt_mul_of_pos_right z (show(0:Int)<(ov:Int) by omega)
  have x1:b*(cg Z ov).1*(ov:Int)=b*((cg Z ov).1*(ov:Int)):=by grind
  rw[x1,lwe]at z2
  have k2:=ydq kk (Int.natCast_nonneg (cg Z ov).2)
  have x2:k*((cg Z ov).2:Int)*(ov:Int)=k*(ov:Int)*((cg Z ov).2:Int):=by grind
  have x3:b*Z*((cg Z ov).2:Int)=b*(Z*((cg Z ov).2:Int)):=by grind
  rw[x2]at z2
  rw[x3]at k2
  omega
 rw[jN c3]
 refine iteF ?_
 have Tw:l≠T:=fun z=>by
  obtain⟨tb,ht⟩:=hL.at
  rw[<-z,hl0]at ht;cases ht
 have hA6:=(hA.same W7).tbl x6 XR
 have Yb:SqL K H6 l rs:=SqL.of (x6 _ _ Tw (W7 _ _ hl0))
 have hR6:=NK x6 XR (hR.same W7)
 refine⟨_,rfl,_,rfl,_,rfl,a,l,n,b,k,ts,rs,R,rfl,hA6,b0,b1,Yb,hR6,hok,fun H7 s7=> ?_⟩
 exact⟨true,true,rfl,rfl,qq H7 ((W7.x T).trans (x6.trans (s7.x T))) (O9.same s7)⟩
def qH(T:Addr)(K:W.Frag):Sp:=fun vs H Q _=>∃(a:Addr) (ns:List Int),vs=[.ref a]/\j5 K H a ns/\v9 H T/\∀H',Q (.bl true) H'
theorem Fd{T:Addr}{H:Hp}{a:Addr}{ns:List Int}(hO:El T H)(hS:SqL K H a (ns.map V.int)):qH T K [.ref a] H (fun v _=>v= .bl true) fun _ _ _=>False:=by
 refine⟨a,ns,rfl,?_,.inl hO.1,fun _=>rfl⟩
 have na:∀xs,H a≠some (.lst xs):=fun xs h=>by
  by_cases e:a=T
  ·rw[e,hO.1]at h;cases h
  ·rcases hO.2 a e with q|⟨o,ys,q⟩
   ·rw[q]at h;cases h
   ·rw[q]at h;cases h
 rcases hS with(h|⟨o,h⟩)|h
 ·exact absurd h (na _)
 ·exact .inl ⟨o,h⟩
 ·exact .inr h
theorem j5.tbl{T gq:Addr}{H H':Hp}{ns:List Int}{tb:Array Value}(h:j5 K H gq ns)(e:aq T H H')(hn:H T=some (.tbl tb)):j5 K H' gq ns:=by
 rcases h with⟨o,h⟩|h
 ·exact .inl ⟨o,e _ _ (iG hn h fun _ z=>nomatch z) h⟩
 ·exact .inr h
theorem XD{T tp:Addr}{H H':Hp}{zs:List V}(h:v9 H T)(e:aq tp H H')(ht:H tp=some (.lst zs)):v9 H' T:=by
 rcases h with h|⟨c',oc,vs,tq,h1,h2,h3,h4⟩
 ·exact .inl (e _ _ (fun z=>by rw[z,ht]at h;cases h) h)
 ·exact .inr ⟨c',oc,vs,tq,e _ _ (fun z=>by rw[z,ht]at h1;cases h1) h1,e _ _ (fun z=>by rw[z,ht]at h2;cases h2) h2,h3,h4⟩
theorem aq.newL{d l:Addr}{H H':Hp}{o:HO}(e:aq d H H')(n:H l=none):aq d H (upd H' l o):=fun b u hn h=>by
 rw[cu (fun z=>by rw[z,n]at h;cases h)];exact e b u hn h
theorem gQ:FnScope ["script","start","tape","b","web","turn","found","c"] ["script"] (defScope mO):=fsc
theorem ok_law{f f1 f2 f3 f4 f5 f6 f7 T:Addr}{fd d1 d2 d3 d4 d5 d6 d7:FuncData}(F:Fun K "law" "law" mO f fd)(D1:bY K mg "_law_atape" gD ["script","k"] f1 d1)(G1:FnOk P w K mg base CX0 2 f1 d1 ["script","k"] (Ii K))(D2:bY K mg "_law_adigit" UJ ["tape","many"] f2 d2)(G2':FnOk P w K mg base CX0 1 f2 d2 ["tape","many"] (xK K))(D3:bY K mg "_law_aweb" fY ["tape","most"] f3 d3)(G3:FnOk P w K mg base CX0 2 f3 d3 ["tape","most"] (Ac K))(D4:bY K mg "_law_acell" UG ["script","k"] f4 d4)(G4:FnOk P w K mg base CX0 1 f4 d4 ["script","k"] (uO K))(D5:bY K mg "_law_aweb_of" dU ["script","start","tape"] f5 d5)(G5:FnOk P w K mg base CX0 3 f5 d5 ["script","start","tape"] (xM K))(D6:bY K mg "each_so_many" Y9 ["web","b"] f6 d6)(G6:FnOk P w K mg base CX0 9 f6 d6 ["web","b"] (Ir K T))(D7:bY K mg "_law_aright" fD ["web","b","found"] f7 d7)(G7:FnOk P w K mg base CX0 11 f7 d7 ["web","b","found"] (xO K T))(aD:mg "range"=none)(Xw:mg "max"=none)(pH:mg "min"=none)(cN:mg "len"=none)(Q0:mg "int"=none):
  FnOk P w K mg base CX0 12 f fd ["script"] (qH T K):=by
 have G2:FnOk P w K mg base CX0 11 f2 d2 ["tape","many"] (xK K):=G2'.mono (by decide)
 refine F.ok gQ (fun vs H Q E h=> ?_) (fun cdv A outer s H vs Q E hr h=> ?_)
 ·obtain⟨gq,ns,rfl,_⟩:=h
  rfl
 obtain⟨gq,ns,rfl,hS,hL,q⟩:=h
 refine⟨_,(aO (uH sG rfl (pi_range2 rfl aD (aj aK (aj (fW (call_max2 rfl) rfl Xw (by decide+kernel) (aj aK (aj (fW (call_min2 rfl) rfl pH (by decide+kernel) (aj aK (aj (fW zP rfl cN wX (aj (pv 0) aA)) aA))) aA))) aA))) (cZ (i:=1) gQ.nd rfl (Or.inl rfl)) (aO (cW (i:=2) gQ.nd rfl (Or.inl rfl) (pc G1 hr D1 (aj (pv 0) (aj (pv 1) aA)))) (aO (cW (i:=3) gQ.nd rfl (Or.inl rfl) (bK su aK (pc G2 hr D2 (aj (pv 2) (aj aK aA))))) (aO (cW (i:=4) gQ.nd rfl (Or.inl rfl) (pc G3 hr D3 (aj (pv 2) (aj (fW (call_min2 rfl) rfl pH (by decide+kernel) (aj aK (aj (bK dh (bM nO (pe_lst (aj aK (aj aK aA))) (Hx call_int1 rfl Q0 (by decide+kernel) (aj (Hg op_eq (pv 1) aK (nomark _)) aA)) (fun _ _=>rfl)) (pv 3)) aA))) aA)))) (aO (lR (PW.pt (pw_and (gZ op_eq (pv 1) aK (nomark _)) (pw_and1 (gZ op_eq (bK op_mod (bK op_fdiv (pc G4 hr D4 (aj (pv 0) (aj aK aA))) aK) aK) aK (nomark _))))) (aO (cW (i:=3) gQ.nd rfl (Or.inl rfl) aK) (bw (cW (i:=4) gQ.nd rfl (Or.inl rfl) (pc G5 hr D5 (aj (pv 0) (aj (pv 1) (aj (pv 2) aA))))))) lU) (aO (uH sG rfl (CT rfl aD (aj (bK su aK (Hx call_int1 rfl Q0 (by decide+kernel) (aj (Hg op_lt (bK uG (bM gO (pv 4) aK (fun _ _=>rfl)) (pv 3)) aK (nomark _)) aA))) aA)) (cZ (i:=5) gQ.nd rfl (Or.inl rfl)) (aO (cW (i:=6) gQ.nd rfl (Or.inl rfl) (pc G6 hr D6 (aj (pv 4) (aj (pv 3) aA)))) (aO (lR (wN (wO (pc G7 hr D7 (aj (pv 4) (aj (pv 3) (aj (pv 6) aA)))))) (bw (cI pe_bl)) lU) (bw (tH (pe_bm0 M7 PySem.F.slot_list_clear PySem.F.type_list_clear mt_clear (bM gO (pv 6) aK (fun _ _=>rfl)))))))) (bw (uH sG rfl (pi_range2 rfl aD (aj aK (aj (pv 3) aA))) (cZ (i:=7) gQ.nd rfl (Or.inl rfl)) (bw (lR (gZ op_gt (bM gO (pv 6) aK (fun _ _=>rfl)) (bK su (bM gO (pc G6 hr D6 (aj (pv 4) (aj (pv 7) aA))) aK (fun _ _=>rfl)) (bM gO (pc G6 hr D6 (aj (pv 4) (aj (bK op_sub (pv 3) (pv 7)) aA))) aK (fun _ _=>rfl))) (nomark _)) (bw (cI pe_bl)) lU)))))))))) (bw (cI pe_bl))),?_⟩
 obtain⟨tb,ht0⟩:=hL.at
 refine⟨_,rfl,gq,_,rfl,.inl hS.sq,fun hz=>⟨_,_,rfl,_,_,rfl,_,_,rfl,?_⟩⟩
 obtain⟨m,em,hm0,hm1⟩:∃m:Int,(if(if((ns.map V.int).length:Int)<2 then((ns.map V.int).length:Int)else 2)>1 then(if((ns.map V.int).length:Int)<2 then((ns.map V.int).length:Int)else 2)else 1)=m/\0<=m/\m<=2:=by
  refine⟨_,rfl,?_,?_⟩
  ·split
   ·split<;>omega
   ·omega
  ·split
   ·split<;>omega
   ·omega
 rw[em]
 refine⟨⟨by decide,by decide,by omega,by omega⟩,?_⟩
 refine CQ (n:=(m-0).toNat) (fun i σ H'=>aq T H H'/\v9 H' T/\∃o1 o2 o3 o4 o5 o6 o7,σ=[some (.ref gq),o1,o2,o3,o4,o5,o6,o7]) ⟨aq.refl _ _,hL,_,_,_,_,_,_,_,rfl⟩ (fun i σ H1 hi p=> ?_) (fun σ H1 p=> ?_)
 ·obtain⟨s1,hL1,o1,o2,o3,o4,o5,o6,o7,rfl⟩:=p
  have hS1:=j5.tbl hS s1 ht0
  refine⟨_,rfl,_,rfl,gq,ns,0+(i:Int),rfl,hS1,by omega,fun tp H2 t s2 htp aar=> ?_⟩
  have hS2:=hS1.same s2
  refine⟨_,rfl,tp,t,5,rfl,htp,by decide,by decide,fun dg t2 d0 d1=>⟨_,_,rfl,rfl,?_⟩⟩
  have x2:aq tp H2 (upd H2 tp (.lst [.int t2])):=(aq.refl _ _).upd
  have ht2:(upd H2 tp (.lst [.int t2])) tp=some (.lst [.int t2]):=aJ
  generalize (upd H2 tp (.lst [.int t2]))=G2 at *
  obtain⟨m2,hm2,m20,m21⟩:∃m2:Int,atI [V.int 8,V.int 10] (if decide (V.int (0+(i:Int))=V.int 0)=true then 1 else 0)=some (.int m2)/\0<=m2/\m2<=10:=by
   split
   ·exact⟨10,rfl,by decide,by decide⟩
   ·exact⟨8,rfl,by decide,by decide⟩
  have fd:0<1+dg/\1+dg<1000000000000000000000000000000:=⟨by omega,by omega⟩
  refine⟨_,rfl,(by show 2<=sizeLine;decide),fun lm hlm=>⟨_,rfl,rfl,.inr ⟨_,rfl,lm,_,_,.int m2,rfl,rfl,SqL.of aJ,hm2,_,rfl,_,_,rfl,rfl,fd,_,_,rfl,?_⟩⟩⟩
  have sl:=aY hlm (.lst [.int 8,.int 10])
  have dv0:0<=m2/(1+dg):=wgo m20 (by omega)
  have dv1:m2/(1+dg)*(1+dg)<=m2:=Int.ediv_mul_le _ (by omega)
  obtain⟨M,eM,hM0,hM1⟩:∃M:Int,(if m2/(1+dg)<6 then m2/(1+dg)else 6)=M/\0<=M/\(M<=6/\M<=m2/(1+dg)):=by
   refine⟨_,rfl,?_,?_⟩
   ·split<;>omega
   ·split<;>omega
  rw[eM]
  refine⟨tp,t2,M,rfl,sl _ _ ht2,hM0,by omega,fun r0 n0 ts0 H3 t3 x3 h3 hW0 hn0=> ?_⟩
  have ZJ:aq tp H2 H3:=x2.trans ((sl.x tp).trans x3)
  have aau:n0*(1+dg)<=10:=by
   have a1:n0*(1+dg)<=m2/(1+dg)*(1+dg):=ydq (by omega) (by omega)
   omega
  dsimp only[gName,List.set]
  refine Np (fun σ' H'=>∃(r:Addr) (n b:Int) (ts:List (Int×Int)),σ'=[some (.ref gq),some (.int (0+(i:Int))),some (.ref tp),some (.int b),some (.ref r),o5,o6,o7]/\aq tp H2 H'/\bH K H' r n ts/\1<=b/\b<=5/\n*b<=10) (fun N hN=> ?_) (fun σ' H4 p=> ?_)
  ·have QL:N [some (.ref gq),some (.int (0+(i:Int))),some (.ref tp),some (.int (1+dg)),some (.ref r0),o5,o6,o7] H3:=hN _ _ ⟨r0,n0,1+dg,ts0,rfl,ZJ,hW0,by omega,by omega,aau⟩
   refine⟨_,rfl,rfl,_,rfl,?_⟩
   refine ite2 (fun c=> ?_) (fun c=>iteF QL)
   refine⟨_,rfl,gq,ns,7,rfl,hS2.mD ZJ htp,by decide,fun cv=> ?_⟩
   refine⟨_,_,rfl,rfl,⟨by decide,by decide⟩,_,_,rfl,rfl,(by show(0:Int)<8;decide),rfl,_,rfl,?_⟩
   refine ite2 (fun c2=> ?_) (fun c2=>QL)
   refine⟨_,rfl,_,rfl,_,rfl,gq,tp,ns,_,t3,rfl,hS2.mD ZJ htp,h3,fun r1 n1 ts1 H5 t5 x5 h5 hW1=> ?_⟩
   exact hN _ _ ⟨r1,n1,1,ts1,rfl,ZJ.trans x5,hW1,by decide,by decide,by have:=hW1.h1;omega⟩
  obtain⟨r,n,b,ts,rfl,x4,hW,b0,b1,hnb⟩:=p
  have h0:=hW.h0
  have h10:=hW.h1
  have s14:Same H1 H4:=Same.Xi s2 aar x4
  have hL4:=hL1.same s14
  obtain⟨tw,rw',w1,w2,w3⟩:=id hW.web
  have mul:CMul n b:= .inl ⟨by omega,by omega⟩
  refine⟨_,rfl,r,_,_,.int n,rfl,rfl,w1,rfl,_,rfl,_,_,rfl,rfl,mul,_,_,rfl,rfl,.inr ⟨_,rfl,_,_,rfl,rfl,_,rfl,?_⟩⟩
  obtain⟨m3,em3,hq0,hq1⟩:∃m3:Int,(1+if decide (n*b<8)=true then(1:Int)else 0)=m3/\1<=m3/\m3<=2:=by
   refine⟨_,rfl,?_,?_⟩
   ·split<;>omega
   ·split<;>omega
  rw[em3]
  refine⟨by omega,by omega,?_⟩
  refine CQ (n:=m3.toNat) (fun j σ H'=>∃(o5 o6:Option V),σ=[some (.ref gq),some (.int (0+(i:Int))),some (.ref tp),some (.int b),some (.ref r),o5,o6,o7]/\aq T H4 H'/\v9 H' T/\bH K H' r n ts/\(j=0\/∃fr l,o6=some (.ref fr)/\H' fr=some (.tup [.int (fJ (j4 n b ts) (fZ (n*b).toNat)),.ref l])))
   ⟨_,_,rfl,aq.refl _ _,hL4,hW,.inl rfl⟩ (fun j σ H5 hj p=> ?_) (fun σ H5 p=> ?_)
  ·obtain⟨o5,o6,rfl,x5,Pa,hW5,_⟩:=p
   obtain⟨tb5,XR⟩:=Pa.at
   refine⟨_,rfl,_,rfl,r,n,b,ts,rfl,hW5,b0,b1,hnb,Pa,fun fr l rs R hs H6 x6 O9 e6 el hRv hH hok nl=> ?_⟩
   obtain⟨tb6,Vv⟩:=O9.at
   have Vx:=hW5.tbl x6 XR
   refine⟨_,rfl,_,rfl,_,rfl,r,fr,l,n,b,ts,rs,R,rfl,Vx,b0,b1,hnb,O9,e6,el,hRv,hok,hH.k0,fun H7 x7 hL7=>⟨_,rfl,?_⟩⟩
   refine iteF ?_
   have Tw:l≠T:=fun z=>by rw[z,Vv]at el;cases el
   have nfT:fr≠T:=fun z=>by rw[z,Vv]at e6;cases e6
   have e7:=x7 _ _ nfT e6
   have YG:=x7 _ _ Tw el
   refine⟨_,rfl,fr,_,_,.ref l,rfl,rfl,SqT.of e7,rfl,.inl ⟨rfl,_,SqL.of YG⟩,l,rs,rfl,rfl,YG,?_⟩
   have xl:aq l H7 (upd H7 l (.lst [])):=(aq.refl _ _).upd
   have hW7:=Vx.tbl x7 Vv
   have nfl:fr≠l:=fun z=>by rw[z,YG]at e7;cases e7
   refine⟨_,_,rfl,x5.trans (Hs.aq.newL (x6.trans x7) nl),XD hL7 xl YG,hW7.mD xl YG,.inr ⟨fr,l,rfl,?_⟩⟩
   rw[cu nfl];exact e7
  ·obtain⟨o5,o6,rfl,x5,Pa,hW5,hfr⟩:=p
   rcases hfr with hfr|⟨fr,l,rfl,efr⟩
   ·omega
   refine⟨_,rfl,_,_,rfl,⟨by decide,by decide,by omega,by omega⟩,?_⟩
   refine CQ (n:=(b-1).toNat) (fun j σ H'=>∃(o7:Option V),σ=[some (.ref gq),some (.int (0+(i:Int))),some (.ref tp),some (.int b),some (.ref r),o5,some (.ref fr),o7]/\aq T H4 H'/\v9 H' T/\bH K H' r n ts/\H' fr=some (.tup [.int (fJ (j4 n b ts) (fZ (n*b).toNat)),.ref l])) ⟨_,rfl,x5,Pa,hW5,efr⟩ (fun j σ H6 hj p=> ?_) (fun σ H6 p=> ?_)
   ·obtain⟨o7',rfl,x6,O9,Vx,e6⟩:=p
    obtain⟨tb6,Vv⟩:=O9.at
    have c0:0<1+(j:Int):=by omega
    have c1:1+(j:Int)<b:=by omega
    have m1:n*(1+(j:Int))<=n*b:=Ve (by omega) h0
    have m2':n*(b-(1+(j:Int)))<=n*b:=Ve (by omega) h0
    have nfT:fr≠T:=fun z=>by rw[z,Vv]at e6;cases e6
    refine⟨_,rfl,fr,_,_,.int (fJ (j4 n b ts) (fZ (n*b).toNat)),rfl,rfl,SqT.of e6,rfl,_,rfl,_,rfl,r,n,1+(j:Int),ts,rfl,Vx,by omega,by omega,by omega,O9,fun f1 l1 rs1 R1 hs1 H7 x7 hL7 e7 _ _ hH7 _ _=> ?_⟩
    obtain⟨tb7,ht7⟩:=hL7.at
    have hW7:=Vx.tbl x7 Vv
    refine⟨f1,_,_,.int (fJ (j4 n (1+(j:Int)) ts) (fZ (n*(1+(j:Int))).toNat)),rfl,rfl,SqT.of e7,rfl,?_⟩
    refine⟨_,rfl,_,rfl,_,rfl,_,_,rfl,rfl,r,n,b-(1+(j:Int)),ts,rfl,hW7,by omega,by omega,by omega,hL7,fun f2 l2 rs2 R2 hs2 H8 x8 hL8 e8 _ _ hH8 _ _=> ?_⟩
    refine⟨f2,_,_,.int (fJ (j4 n (b-(1+(j:Int))) ts) (fZ (n*(b-(1+(j:Int)))).toNat)),rfl,rfl,SqT.of e8,rfl,_,_,rfl,rfl,_,_,rfl,rfl,_,rfl,?_⟩
    have le:=K9 (n:=n) (b:=b) (c:=1+(j:Int)) (d:=b-(1+(j:Int))) h0 (by omega) (by omega) (by omega) hW.pk hH7 hH8
    rw[jN (show¬fJ (j4 n (1+(j:Int)) ts) (fZ (n*(1+(j:Int))).toNat)+fJ (j4 n (b-(1+(j:Int))) ts) (fZ (n*(b-(1+(j:Int)))).toNat)<fJ (j4 n b ts) (fZ (n*b).toNat) by omega)]
    refine iteF ?_
    exact⟨_,rfl,x6.trans (x7.trans x8),hL8,hW7.tbl x8 ht7,x8 _ _ nfT (x7 _ _ nfT e6)⟩
   ·obtain⟨o7',rfl,x6,O9,Vx,e6⟩:=p
    exact⟨s1.trans ((s14.x T).trans x6),O9,_,_,_,_,_,_,_,rfl⟩
 ·exact q _
end
end Hs
namespace L2
open PySem
section
variable{K:W.Frag}{x y:Str}{st:Stmt}{f C:Addr}{fd:FuncData}{oc:Value}{od an:Option Addr}{osl:Array (Option Value)}{kV doc pm cdv ct:Value}{mg:Str->Option Value}{h:Heap}
def DA(K:W.Frag)(x:Str)(st:Stmt)(f:Addr):Prop:=∃fd,Fun K x x st f fd/\PySem.W.nsIn K mainGlobals x=some (some (.ref f))
theorem DA.of(a:PySem.W.nsIn K mainGlobals x=some (some (.ref f)):=by k_is)(l:K.lookup f=some ⟨oc,od,.func (PySem.W.fnOf x x (defArgs st) (defBody st) (defScope st) .none kV doc pm an cdv ct),osl⟩:=by k_is)(c:PySem.W.codeIn K cdv x=true:=by k_is)(k:PySem.W.keepIn K (.ref f)=true:=by k_is):DA K x st f:=⟨_,fun_mk l c k,a⟩
def MA(K:W.Frag)(C:Addr)(x y:Str)(st:Stmt)(f:Addr):Prop:=∃fd,Fun K x y st f fd/\PySem.W.findIn K (.ref C) x=some (some (.ref f))/\PySem.W.isFn K (.ref f)=true/\PySem.W.keepIn K (.ref f)=true
theorem MA.of(a:PySem.W.findIn K (.ref C) x=some (some (.ref f)):=by k_is)(l:K.lookup f=some ⟨oc,od,.func (PySem.W.fnOf x y (defArgs st) (defBody st) (defScope st) .none kV doc pm an cdv ct),osl⟩:=by k_is)(c:PySem.W.codeIn K cdv y=true:=by k_is)(k:PySem.W.keepIn K (.ref f)=true:=by k_is)(i:PySem.W.isFn K (.ref f)=true:=by k_is):MA K C x y st f:=⟨_,fun_mk l c k,a,i,k⟩
theorem DA.d{ps:List Str}(X:K.In h)(G:h.Ns mainGlobals mg)(F:Fun K x x st f fd)(a:PySem.W.nsIn K mainGlobals x=some (some (.ref f)))(b:∀(kV doc pm:Value) (an:Option Addr) (cdv ct:Value) (us:List Value),us.length=ps.length->bindArgs (PySem.W.fnOf x x (defArgs st) (defBody st) (defScope st) .none kV doc pm an cdv ct) ⟨us,[]⟩=pure (ps.zip us)):bY K mg x st ps f fd:=⟨F,F.binds b,PySem.W.mg_of X G a⟩
theorem MA.d{ps:List Str}(F:Fun K x y st f fd)(a:PySem.W.findIn K (.ref C) x=some (some (.ref f))/\PySem.W.isFn K (.ref f)=true/\PySem.W.keepIn K (.ref f)=true)(b:∀(kV doc pm:Value) (an:Option Addr) (cdv ct:Value) (us:List Value),us.length=ps.length->bindArgs (PySem.W.fnOf x y (defArgs st) (defBody st) (defScope st) .none kV doc pm an cdv ct) ⟨us,[]⟩=pure (ps.zip us)):GZ K C x y st ps f fd:=⟨F,F.binds b,⟨a.1,a.2.1,a.2.2⟩⟩
theorem Cr{p1:Str}{P:List Value->Prop}(h:∀a,P [a])(us:List Value)(hl:us.length=[p1].length):P us:=by
 match us,hl with
 |[a],_=>exact h a
theorem qu{p1 p2:Str}{P:List Value->Prop}(h:∀a b,P [a,b])(us:List Value)(hl:us.length=[p1,p2].length):P us:=by
 match us,hl with
 |[a,b],_=>exact h a b
theorem Hu{p1 p2 p3:Str}{P:List Value->Prop}(h:∀a b c,P [a,b,c])(us:List Value)(hl:us.length=[p1,p2,p3].length):P us:=by
 match us,hl with
 |[a,b,c],_=>exact h a b c
theorem bn4{p1 p2 p3 p4:Str}{P:List Value->Prop}(h:∀a b c d,P [a,b,c,d])(us:List Value)(hl:us.length=[p1,p2,p3,p4].length):P us:=by
 match us,hl with
 |[a,b,c,d],_=>exact h a b c d
end
end L2
namespace Hs
open PySem L2 zO
theorem len_3{α:Type}:∀{us:List α},us.length=3->∃a b c,us=[a,b,c]
 |[a,b,c],_=>⟨a,b,c,rfl⟩
theorem all_mk{l:W.OpenLaw}{w:World}{K:W.Frag}{h:Heap}{mg:Str->Option Value}{fa:Addr}{T:Addr}(X:K.In h)(G:h.Ns mainGlobals mg)(hfa:mg "law"=some (.ref fa))
  {f0 f1 f2 f3 f4 f5 f6 f7 f8 f9 f10 f11 f12 f13 f14 f15 f16 f17 f18 f19 f21 f22 f23 f24 f25 f26 f27 f28 f29 f30 f31 f32 f33 f34 f35 f36 f37 f38 f39 f40 f41 f42 f43 mf0 mf1 mf2 mf3 mf4 mf5 mf6 mf7 mf8 mf9:Addr}{f20 cL:Addr}{aai aaD:Option Addr}{aae:Array (Option Value)}{aak aaq aaz aaf aaC:Value}{f44:Addr}{aah YW:Option Addr}{aad:Array (Option Value)}{aaj XH YJ Xh Uu YK:Value}{tk0:Tok}{tk1:Tok}{tk2:Tok}{aB:Addr}(a0:DA K "is_whole" Mw f0)(a1:DA K "is_place" iK f1)(a2:DA K "are_places" fH f2)(a3:DA K "is_rising" Uz f3)(a4:DA K "is_set" mV f4)(a5:DA K "are_ties" iM f5)(a6:DA K "is_web" mQ f6)(a7:DA K "need_web" Mf f7)(a8:DA K "need_from_to" Zb f8)(a9:DA K "need_few" fX f9)(a10:DA K "pairs" mK f10)(a11:DA K "all_sets" iR f11)(a12:DA K "without" fQ f12)(a13:DA K "has_tie" fU f13)(a14:DA K "greatest_divisor" Zr f14)(a15:DA K "lowest" iu f15)(a16:DA K "can_stand_with" Zi f16)(a17:DA K "first_parts" V3 f17)(a18:DA K "highest_floor" Zd f18)(a19:DA K "highest_floors" Zk f19)(a20:W.nsIn K mainGlobals "best_part"=some (some (.ref f20)))(l20:K.lookup f20=some ⟨aak,aai,.func (W.fnOf "best_part" "best_part" (defArgs Mx) (defBody Mx) (defScope Mx) .none aaq aaz aaf aaD (.ref cL) aaC),aae⟩)(c20:W.codeIn K (.ref cL) "best_part"=true)(k20:W.keepIn K (.ref f20)=true)(a21:DA K "hues_by_floors" Zm f21)(a22:DA K "fewest" jt f22)(a23:DA K "is_tie_within" Ze f23)(a24:DA K "within" mH f24)(a25:DA K "places_by_tie" Zf f25)(a26:DA K "in_both" jQ f26)(a27:DA K "full_sets" gF f27)(a28:DA K "full_apart" fG f28)(a29:DA K "need_wants" fu f29)(a30:DA K "shares" mJ f30)(a31:DA K "value" qg f31)(a32:DA K "each_so_many" Y9 f32)(a33:DA K "is_row" mW f33)(a34:DA K "have_in_common" Zj f34)(a35:DA K "are_rows" iQ f35)(a36:DA K "_law_acell" UG f36)(a37:DA K "_law_atape" gD f37)(a38:DA K "_law_adigit" UJ f38)(a39:DA K "_law_awhole" fB f39)(a40:DA K "_law_aweb" fY f40)(a41:DA K "_law_aweb_of" dU f41)(a42:DA K "_law_acrowded" Za f42)(a43:DA K "_law_aright" fD f43)(a44:W.nsIn K mainGlobals "law"=some (some (.ref f44)))(l44:K.lookup f44=some ⟨aaj,aah,.func (W.fnOf "law" "law" (defArgs mO) (defBody mO) (defScope mO) .none XH YJ Xh YW Uu YK),aad⟩)(c44:W.codeIn K Uu "law"=true)(k44:W.keepIn K (.ref f44)=true)(x0:W.nsIn K mainGlobals "MOST_PLACES"=some (some (.int 10 tk0)))(x1:W.nsIn K mainGlobals "MOST_WANT"=some (some (.int 99 tk1)))(x2:W.nsIn K mainGlobals "MOST_EACH"=some (some (.int 5 tk2)))(z0:W.nsIn K mainGlobals "abs"=some none)(z1:W.nsIn K mainGlobals "all"=some none)(z2:W.nsIn K mainGlobals "any"=some none)(z3:W.nsIn K mainGlobals "bool"=some none)(z4:W.nsIn K mainGlobals "enumerate"=some none)(z5:W.nsIn K mainGlobals "int"=some none)(z6:W.nsIn K mainGlobals "isinstance"=some none)(z7:W.nsIn K mainGlobals "len"=some none)(z8:W.nsIn K mainGlobals "list"=some none)(z9:W.nsIn K mainGlobals "max"=some none)(z10:W.nsIn K mainGlobals "min"=some none)(z11:W.nsIn K mainGlobals "range"=some none)(z12:W.nsIn K mainGlobals "set"=some none)(z13:W.nsIn K mainGlobals "sorted"=some none)(z14:W.nsIn K mainGlobals "tuple"=some none)(y0:W.nsIn K mainGlobals "Tableau"=some (some (.ref aB)))(Xv:MA K aB "__init__" "Tableau.__init__" Y7 mf0)(ma1:MA K aB "next_column" "Tableau.next_column" Zu mf1)(ma2:MA K aB "is_tighter" "Tableau.is_tighter" Zt mf2)(ma3:MA K aB "next_row" "Tableau.next_row" Zn mf3)(ma4:MA K aB "turned" "Tableau.turned" Zh mf4)(ma5:MA K aB "turn" "Tableau.turn" Y8 mf5)(ma6:MA K aB "solve" "Tableau.solve" Zc mf6)(ma7:MA K aB "fraction_at" "Tableau.fraction_at" UW mf7)(ma8:MA K aB "price_of" "Tableau.price_of" Zo mf8)(ma9:MA K aB "share_of" "Tableau.share_of" Zq mf9)(Cq:W.plainGet K aB Str.empty=true)(Cp:W.hasDictIn K aB=true)(Cm:W.plainOver K aB=true)(Ck:W.findIn K (.ref aB) "__setattr__"=some (some (.builtin "object.__setattr__")))(Cj:W.makesIn K aB=true)(Ci:W.keepIn K (.ref aB)=true)(oO:W.findIn K (.ref aB) "cells"=some none)(pQ:W.findIn K (.ref aB) "over"=some none)(lF:W.findIn K (.ref aB) "columns"=some none)(pO:W.findIn K (.ref aB) "rows"=some none):
  ∃fd:FuncData,(∀(s:Shared) (v:Value),BindsTo s fd ⟨[v],[]⟩ [("script",v)])/\∀base:Heap,K.In base->base.Ns mainGlobals mg->zB base mg cL T->FnOk l.prog w K mg base CX0 12 fa fd ["script"] (qH T K):=by
 have e:=hfa.symm.trans (Vf X G a44)
 cases e
 obtain⟨d0,F0,a0⟩:=a0
 have dR:=DA.d (ps:=["thing"]) X G F0 a0 (fun _ _ _ _ _ _=>Cr fun _=>rfl)
 obtain⟨d1,F1,a1⟩:=a1
 have Cz:=DA.d (ps:=["n","thing"]) X G F1 a1 (fun _ _ _ _ _ _=>qu fun _ _=>rfl)
 obtain⟨d2,F2,a2⟩:=a2
 have wB:=DA.d (ps:=["n","things"]) X G F2 a2 (fun _ _ _ _ _ _=>qu fun _ _=>rfl)
 obtain⟨d3,F3,a3⟩:=a3
 have jL:=DA.d (ps:=["things"]) X G F3 a3 (fun _ _ _ _ _ _=>Cr fun _=>rfl)
 obtain⟨d4,F4,a4⟩:=a4
 have LC:=DA.d (ps:=["n","thing"]) X G F4 a4 (fun _ _ _ _ _ _=>qu fun _ _=>rfl)
 obtain⟨d5,F5,a5⟩:=a5
 have CG:=DA.d (ps:=["n","thing"]) X G F5 a5 (fun _ _ _ _ _ _=>qu fun _ _=>rfl)
 obtain⟨d6,F6,a6⟩:=a6
 have Lz:=DA.d (ps:=["thing"]) X G F6 a6 (fun _ _ _ _ _ _=>Cr fun _=>rfl)
 obtain⟨d7,F7,a7⟩:=a7
 have cU:=DA.d (ps:=["thing"]) X G F7 a7 (fun _ _ _ _ _ _=>Cr fun _=>rfl)
 obtain⟨d8,F8,a8⟩:=a8
 have rP:=DA.d (ps:=["least","most","thing"]) X G F8 a8 (fun _ _ _ _ _ _=>Hu fun _ _ _=>rfl)
 obtain⟨d9,F9,a9⟩:=a9
 have rQ:=DA.d (ps:=["n"]) X G F9 a9 (fun _ _ _ _ _ _=>Cr fun _=>rfl)
 obtain⟨d10,F10,a10⟩:=a10
 have Em:=DA.d (ps:=["n"]) X G F10 a10 (fun _ _ _ _ _ _=>Cr fun _=>rfl)
 obtain⟨d11,F11,a11⟩:=a11
 have CK:=DA.d (ps:=["n"]) X G F11 a11 (fun _ _ _ _ _ _=>Cr fun _=>rfl)
 obtain⟨d12,F12,a12⟩:=a12
 have oV:=DA.d (ps:=["some","part"]) X G F12 a12 (fun _ _ _ _ _ _=>qu fun _ _=>rfl)
 obtain⟨d13,F13,a13⟩:=a13
 have oZ:=DA.d (ps:=["web","one","other"]) X G F13 a13 (fun _ _ _ _ _ _=>Hu fun _ _ _=>rfl)
 obtain⟨d14,F14,a14⟩:=a14
 have lK:=DA.d (ps:=["one","other"]) X G F14 a14 (fun _ _ _ _ _ _=>qu fun _ _=>rfl)
 obtain⟨d15,F15,a15⟩:=a15
 have rR:=DA.d (ps:=["a","b"]) X G F15 a15 (fun _ _ _ _ _ _=>qu fun _ _=>rfl)
 obtain⟨d16,F16,a16⟩:=a16
 have o8:=DA.d (ps:=["web","part","place"]) X G F16 a16 (fun _ _ _ _ _ _=>Hu fun _ _ _=>rfl)
 obtain⟨d17,F17,a17⟩:=a17
 have kI:=DA.d (ps:=["web","some"]) X G F17 a17 (fun _ _ _ _ _ _=>qu fun _ _=>rfl)
 obtain⟨d18,F18,a18⟩:=a18
 have pW:=DA.d (ps:=["web","floors","some"]) X G F18 a18 (fun _ _ _ _ _ _=>Hu fun _ _ _=>rfl)
 obtain⟨d19,F19,a19⟩:=a19
 have oX:=DA.d (ps:=["web"]) X G F19 a19 (fun _ _ _ _ _ _=>Cr fun _=>rfl)
 have F20:=fun_mk (st:=Mx) l20 c20 k20
 have zJ:bY K mg "best_part" Mx ["web","floors","some"] f20 _:=⟨F20,F20.binds (ps:=["web","floors","some"]) (fun _ _ _ _ _ _ us hl=>by obtain⟨u0,u1,u2,rfl⟩:=Hs.len_3 hl;rfl),Vf X G a20⟩
 obtain⟨d21,F21,a21⟩:=a21
 have oW:=DA.d (ps:=["web","floors"]) X G F21 a21 (fun _ _ _ _ _ _=>qu fun _ _=>rfl)
 obtain⟨d22,F22,a22⟩:=a22
 have zH:=DA.d (ps:=["web"]) X G F22 a22 (fun _ _ _ _ _ _=>Cr fun _=>rfl)
 obtain⟨d23,F23,a23⟩:=a23
 have pU:=DA.d (ps:=["one","other","tie"]) X G F23 a23 (fun _ _ _ _ _ _=>Hu fun _ _ _=>rfl)
 obtain⟨d24,F24,a24⟩:=a24
 have Lx:=DA.d (ps:=["one","other"]) X G F24 a24 (fun _ _ _ _ _ _=>qu fun _ _=>rfl)
 obtain⟨d25,F25,a25⟩:=a25
 have pR:=DA.d (ps:=["web","place","tied"]) X G F25 a25 (fun _ _ _ _ _ _=>Hu fun _ _ _=>rfl)
 obtain⟨d26,F26,a26⟩:=a26
 have G9:=DA.d (ps:=["ones","others"]) X G F26 a26 (fun _ _ _ _ _ _=>qu fun _ _=>rfl)
 obtain⟨d27,F27,a27⟩:=a27
 have zG:=DA.d (ps:=["friends"]) X G F27 a27 (fun _ _ _ _ _ _=>Cr fun _=>rfl)
 obtain⟨d28,F28,a28⟩:=a28
 have wA:=DA.d (ps:=["web"]) X G F28 a28 (fun _ _ _ _ _ _=>Cr fun _=>rfl)
 obtain⟨d29,F29,a29⟩:=a29
 have wj:=DA.d (ps:=["web","thing"]) X G F29 a29 (fun _ _ _ _ _ _=>qu fun _ _=>rfl)
 obtain⟨d30,F30,a30⟩:=a30
 have Ly:=DA.d (ps:=["web","wants"]) X G F30 a30 (fun _ _ _ _ _ _=>qu fun _ _=>rfl)
 obtain⟨d31,F31,a31⟩:=a31
 have P0:=DA.d (ps:=["web"]) X G F31 a31 (fun _ _ _ _ _ _=>Cr fun _=>rfl)
 obtain⟨d32,F32,a32⟩:=a32
 have rY:=DA.d (ps:=["web","b"]) X G F32 a32 (fun _ _ _ _ _ _=>qu fun _ _=>rfl)
 obtain⟨d33,F33,a33⟩:=a33
 have LK:=DA.d (ps:=["b","thing"]) X G F33 a33 (fun _ _ _ _ _ _=>qu fun _ _=>rfl)
 obtain⟨d34,F34,a34⟩:=a34
 have oY:=DA.d (ps:=["one","other"]) X G F34 a34 (fun _ _ _ _ _ _=>qu fun _ _=>rfl)
 obtain⟨d35,F35,a35⟩:=a35
 have CJ:=DA.d (ps:=["web","b","rows"]) X G F35 a35 (fun _ _ _ _ _ _=>Hu fun _ _ _=>rfl)
 obtain⟨d36,F36,a36⟩:=a36
 have jK:=DA.d (ps:=["script","k"]) X G F36 a36 (fun _ _ _ _ _ _=>qu fun _ _=>rfl)
 obtain⟨d37,F37,a37⟩:=a37
 have zF:=DA.d (ps:=["script","k"]) X G F37 a37 (fun _ _ _ _ _ _=>qu fun _ _=>rfl)
 obtain⟨d38,F38,a38⟩:=a38
 have jc:=DA.d (ps:=["tape","many"]) X G F38 a38 (fun _ _ _ _ _ _=>qu fun _ _=>rfl)
 obtain⟨d39,F39,a39⟩:=a39
 have wk:=DA.d (ps:=["found"]) X G F39 a39 (fun _ _ _ _ _ _=>Cr fun _=>rfl)
 obtain⟨d40,F40,a40⟩:=a40
 have rT:=DA.d (ps:=["tape","most"]) X G F40 a40 (fun _ _ _ _ _ _=>qu fun _ _=>rfl)
 obtain⟨d41,F41,a41⟩:=a41
 have tG:=DA.d (ps:=["script","start","tape"]) X G F41 a41 (fun _ _ _ _ _ _=>Hu fun _ _ _=>rfl)
 obtain⟨d42,F42,a42⟩:=a42
 have rW:=DA.d (ps:=["web","b"]) X G F42 a42 (fun _ _ _ _ _ _=>qu fun _ _=>rfl)
 obtain⟨d43,F43,a43⟩:=a43
 have wz:=DA.d (ps:=["web","b","found"]) X G F43 a43 (fun _ _ _ _ _ _=>Hu fun _ _ _=>rfl)
 have F44:=fun_mk (st:=mO) l44 c44 k44
 have j9:=Vf X G x0
 have wZ:=Vf X G x1
 have w5:=Vf X G x2
 have Xq:=zU X G z0
 have ud:=zU X G z1
 have QZ:=zU X G z2
 have JX:=zU X G z3
 have jB:=zU X G z4
 have JW:=zU X G z5
 have bx:=zU X G z6
 have iy:=zU X G z7
 have vH:=zU X G z8
 have QX:=zU X G z9
 have yt:=zU X G z10
 have bD:=zU X G z11
 have QW:=zU X G z12
 have qW:=zU X G z13
 have bZ:=zU X G z14
 have ou:=Vf X G y0
 obtain⟨md0,FM0,Xv⟩:=Xv
 have lQ:=MA.d (ps:=["self","sets","wants"]) FM0 Xv (fun _ _ _ _ _ _=>Hu fun _ _ _=>rfl)
 obtain⟨md1,FM1,ma1⟩:=ma1
 have jk:=MA.d (ps:=["self"]) FM1 ma1 (fun _ _ _ _ _ _=>Cr fun _=>rfl)
 obtain⟨md2,FM2,ma2⟩:=ma2
 have jM:=MA.d (ps:=["self","column","row","other"]) FM2 ma2 (fun _ _ _ _ _ _=>bn4 fun _ _ _ _=>rfl)
 obtain⟨md3,FM3,ma3⟩:=ma3
 have lO:=MA.d (ps:=["self","column"]) FM3 ma3 (fun _ _ _ _ _ _=>qu fun _ _=>rfl)
 obtain⟨md4,FM4,ma4⟩:=ma4
 have o9:=MA.d (ps:=["self","cells","pivots","column"]) FM4 ma4 (fun _ _ _ _ _ _=>bn4 fun _ _ _ _=>rfl)
 obtain⟨md5,FM5,ma5⟩:=ma5
 have rZ:=MA.d (ps:=["self","row","column"]) FM5 ma5 (fun _ _ _ _ _ _=>Hu fun _ _ _=>rfl)
 obtain⟨md6,FM6,ma6⟩:=ma6
 have pX:=MA.d (ps:=["self"]) FM6 ma6 (fun _ _ _ _ _ _=>Cr fun _=>rfl)
 obtain⟨md7,FM7,ma7⟩:=ma7
 have bW:=MA.d (ps:=["self","row","column"]) FM7 ma7 (fun _ _ _ _ _ _=>Hu fun _ _ _=>rfl)
 obtain⟨md8,FM8,ma8⟩:=ma8
 have lN:=MA.d (ps:=["self","name"]) FM8 ma8 (fun _ _ _ _ _ _=>qu fun _ _=>rfl)
 obtain⟨md9,FM9,ma9⟩:=ma9
 have lM:=MA.d (ps:=["self","name"]) FM9 ma9 (fun _ _ _ _ _ _=>qu fun _ _=>rfl)
 have bC:Cls K aB:=⟨Cq,Cp,Cm,Ck⟩
 have cD:NoAttr K aB "cells":=oO
 have dD:NoAttr K aB "over":=pQ
 have bB:NoAttr K aB "columns":=lF
 have dB:NoAttr K aB "rows":=pO
 have mk_Tableau:Mk K aB mf0:=⟨Cj,Xv.1,Xv.2.1,Ci⟩
 refine⟨W.fnOf "law" "law" (defArgs mO) (defBody mO) (defScope mO) .none XH YJ Xh YW Uu YK,fun s v=> .of_eq rfl,fun base _ _ LB=> ?_⟩
 have jW:=JH (P:=l.prog) (w:=w) (base:=base) F0 bx JW JX
 have Pk:=JN (P:=l.prog) (w:=w) (base:=base) F1 dR jW
 have Kz:=FZ (P:=l.prog) (w:=w) (base:=base) F2 Cz Pk ud
 have rB:=FW (P:=l.prog) (w:=w) (mg:=mg) (base:=base) F3 ud bD iy
 have Yy:=Te (P:=l.prog) (w:=w) (base:=base) F4 wB Kz jL rB bx bZ
 have Uc:=Oa (P:=l.prog) (w:=w) (base:=base) F5 LC Yy jL rB bx bZ ud iy
 have Yo:=SJ (P:=l.prog) (w:=w) (base:=base) F6 dR jW CG Uc bx bZ iy j9
 have dO:=Bg (P:=l.prog) (w:=w) (base:=base) F7 Lz Yo
 have uh:=Bh (P:=l.prog) (w:=w) (base:=base) F9 j9
 have KJ:=Ge (P:=l.prog) (w:=w) (mg:=mg) (base:=base) F8 dR jW
 have KH:=Ti (P:=l.prog) (w:=w) (mg:=mg) (base:=base) F13 yt QX
 have K1:=Oj (P:=l.prog) (w:=w) (base:=base) F10 bD
 have Ph:=JL (P:=l.prog) (w:=w) (base:=base) F23 oZ KH
 have Ku:=FN (P:=l.prog) (w:=w) (base:=base) F24 cU dO rQ uh Em K1 pU Ph bZ
 have Pr:=JT (P:=l.prog) (w:=w) (mg:=mg) (base:=base) F25 oZ KH bD
 have KD:=Gb (P:=l.prog) (w:=w) (mg:=mg) (base:=base) F26
 have Bw:=yh (P:=l.prog) (w:=w) (mg:=mg) (base:=base) F27 G9 KD vH bD iy qW
 have yO:=vC (P:=l.prog) (w:=w) (mg:=mg) (base:=base) F28 cU dO zG Bw pR Pr bD
 have aaw:=Xj (P:=l.prog) (w:=w) (mg:=mg) (base:=base) F14
 have KC:=Tf (P:=l.prog) (w:=w) (base:=base) F15 lK aaw Xq
 have Bx:=Og (P:=l.prog) (w:=w) (base:=base) F36 iy
 have Ud:=Ob (P:=l.prog) (w:=w) (base:=base) F37 jK Bx bD
 have KQ:=Tn (P:=l.prog) (w:=w) (mg:=mg) (base:=base) F38
 have aax:=Xk (P:=l.prog) (w:=w) (base:=base) F39 bx JW JX
 have KY:=Oi (P:=l.prog) (w:=w) (mg:=mg) (base:=base) F40 jc KQ bD bZ
 have KR:=Gg (P:=l.prog) (w:=w) (mg:=mg) (base:=base) F41 jK Bx rT KY jc KQ bD bZ
 have Yx:=Tc (P:=l.prog) (w:=w) (mg:=mg) (base:=base) FM1 bC cD dD bB dB jB yt
 have Yq:=SN (P:=l.prog) (w:=w) (mg:=mg) (base:=base) FM2 bC cD dD bB dB
 have Yw:=S9 (P:=l.prog) (w:=w) (mg:=mg) (base:=base) FM3 bC cD dD bB dB jM Yq bD iy
 have Yr:=SQ (P:=l.prog) (w:=w) (mg:=mg) (base:=base) FM4 bC cD dD bB dB jB
 have Yp:=SM (P:=l.prog) (w:=w) (mg:=mg) (base:=base) FM5 bC cD dD bB dB o9 Yr
 have Yt:=SX (P:=l.prog) (w:=w) (mg:=mg) (base:=base) FM6 bC cD dD bB dB jk Yx rZ Yp lO Yw
 have Kv:=Td (P:=l.prog) (w:=w) (mg:=mg) (base:=base) FM7 bC cD dD bB dB rR KC
 have Yv:=S8 (P:=l.prog) (w:=w) (mg:=mg) (base:=base) FM8 bC cD dD bB dB rR KC bW Kv
 have Yu:=S6 (P:=l.prog) (w:=w) (mg:=mg) (base:=base) FM9 bC cD dD bB dB rR KC bW Kv
 have Ue:=Oc (P:=l.prog) (w:=w) (mg:=mg) (base:=base) FM0 bC cD dD bB dB iy bD vH
 have yN:=vB (P:=l.prog) (w:=w) (mg:=mg) (base:=base) F29 dR jW iy bx bZ ud wZ
 have Kw:=FQ (P:=l.prog) (w:=w) (mg:=mg) (base:=base) F30 bC cD dD bB dB ou cU dO wj yN wA yO lQ mk_Tableau Ue pX Yt lM Yu lN Yv bW Kv jB bD
 have Pg:=JK (P:=l.prog) (w:=w) (mg:=mg) (base:=base) F31 cU dO Ly Kw
 have Gz:=Bk (P:=l.prog) (w:=w) (mg:=mg) (base:=base) F11 bD
 have oG:=Bf (P:=l.prog) (w:=w) (mg:=mg) (base:=base) F12 bZ
 have Pj:=JM (P:=l.prog) (w:=w) (mg:=mg) (base:=base) F16 oZ KH QZ
 have yP:=Gf (P:=l.prog) (w:=w) (mg:=mg) (base:=base) F17 o8 Pj
 have Ug:=Od (P:=l.prog) (w:=w) (mg:=mg) (base:=base) F18 kI yP oV oG yt
 have Pq:=JR (P:=l.prog) (w:=w) (mg:=mg) (base:=base) F19 CK Gz pW Ug
 have Ui:=Oh (P:=l.prog) (w:=w) (mg:=mg) (base:=base) F20 rfl LB kI yP oV oG yt
 have YB:=Tp (P:=l.prog) (w:=w) (mg:=mg) (base:=base) F21 zJ Ui oV oG bZ bD
 have Q8:=Tj (P:=l.prog) (w:=w) (mg:=mg) (base:=base) F22 cU dO oX Pq oW YB bZ bD
 have Uh:=Oe (P:=l.prog) (w:=w) (mg:=mg) (base:=base) F32 cU dO rP KJ rQ uh zH Q8 Lx Ku Em K1 bZ bD qW w5
 have Pn:=JQ (P:=l.prog) (w:=w) (mg:=mg) (base:=base) F33 jL rB dR jW iy bx bZ ud
 have Yz:=Tg (P:=l.prog) (w:=w) (mg:=mg) (base:=base) F34 iy QW
 have Gy:=Bj (P:=l.prog) (w:=w) (mg:=mg) (base:=base) F35 cU dO dR jW LK Pn oY Yz ud iy bx vH QZ
 have Uj:=Ol (P:=l.prog) (w:=w) (mg:=mg) (base:=base) F42 bD bZ
 have KZ:=Gh (P:=l.prog) (w:=w) (mg:=mg) (base:=base) F43 wk aax P0 Pg zH Q8 rW Uj CJ Gy bx vH iy bZ qW QW
 exact ok_law (P:=l.prog) (w:=w) (mg:=mg) (base:=base) F44 zF Ud jc KQ rT KY jK Bx tG KR rY Uh wz KZ bD QX yt iy JW
theorem walk{l:PySem.W.OpenLaw}{q:Program}{loose:List Str}{XP:(Str->Option Value)->Heap->Prop}{YP:World->Heap->Prop}{d:DefRec}{K:Params->PySem.W.Frag}{cL T:Addr}(hn:l.most=some 63)(hdf:d.params.defaults=[])(hY:∀(w:World) (h:Heap),YP w h->(K w.params).In h/\h.get? T=some (PySem.W.tabObj #[]))
  (F:∀(w:World) (mg:Str->Option Value) (fa:Addr) (h:Heap),(K w.params).In h->h.Ns mainGlobals mg->mg d.name=some (.ref fa)->
   ∃fd:FuncData,(∀(s:Shared) (u:Value),BindsTo s fd ⟨[u],[]⟩ [("script",u)])/\∀base:Heap,(K w.params).In base->base.Ns mainGlobals mg->zB base mg cL T->FnOk l.prog w (K w.params) mg base CX0 12 fa fd ["script"] (qH T (K w.params)))(hc:∀w:World,PySem.W.codeHdIn (K w.params) cL T=true)(Yk:∀w:World,(K w.params).lookup T=none):
  PySem.W.WalkO q loose XP YP l.row.toRowW d [] (fun f vs=>PySem.call f vs):=
 L2.HN (n:=63) (k:=12) (x:="script") (CX:=CX0) (sp:=qH) hn (by decide) hdf ⟨rfl,by decide,by decide,rfl⟩ hY hc Yk F (fun _ _ a ns hl hO hS=>Fd hO hS) fun _ _ _ _ z=>z
end Hs
open PySem PySem.W PyProof.Rows
set_option maxRecDepth 100000 in
set_option maxHeartbeats 0 in
theorem PySem.Challenge.cw_hueshare_k28_so_many_hues_each_holds : PySem.Challenge.rw_hueshare_k28_so_many_hues_each.Holds := by
 refine Hd.early.2 ?_
 unfold Hd.early
 dsimp only
 k_fill
 refine' Hs.walk (l:=PySem.Challenge.rw_hueshare_k28_so_many_hues_each) rfl rfl (fun w h Y=>⟨PySem.W.km_in_of Y,PySem.W.km_tabs_of Y _ cV⟩) ?F ?C ?D
 case F=>
  intro w mg fa h KX G hmg
  refine' Hs.all_mk KX G hmg .of .of .of .of .of .of .of .of .of .of .of .of .of .of .of .of .of .of .of .of (by k_is) (by k_is) (by k_is) (by k_is) .of .of .of .of .of .of .of .of .of .of .of .of .of .of .of .of .of .of .of .of .of .of .of (by k_is) (by k_is) (by k_is) (by k_is) (by k_is) (by k_is) (by k_is) (by k_is) (by k_is) (by k_is) (by k_is) (by k_is) (by k_is) (by k_is) (by k_is) (by k_is) (by k_is) (by k_is) (by k_is) (by k_is) (by k_is) (by k_is) (by k_is) .of .of .of .of .of .of .of .of .of .of (by k_is) (by k_is) (by k_is) (by k_is) (by k_is) (by k_is) (by k_is) (by k_is) (by k_is) (by k_is)
 case C=>intro w;kernel_rfl
 case D=>intro w;kernel_rfl
