import PyProof.Rows.All
import Wide.All
import OpenK.AllK
import Wide.FinOn
import Lean
import PyProof.EqAt
import PyProof.EqKinds
import PyProof.TupleCall
import PyProof.ListRange
import PyProof.TupleOfSeq
import PyProof.Draws
import PyProof.EnumMake
import PyProof.TupleIter
import PyProof.Rows.SetFrom
import PyProof.SetRoads
import PyProof.WalksMore
import PyProof.Rows.SortShell
import KE.KMinBuiltin
import PyProof.Rows.CallKwBuiltin
import KE.KRevIter
import PyProof.Rows.Tup
import PyProof.Rows.Range3
import PyProof.DictWalks
import PyProof.DictTruth
import PyProof.TupleKey
import PyProof.Rows.SeqMore2
import PyProof.FString
import PyProof.StrWalks
import PyProof.StrBlockH
import PyProof.StrCalls2
import PyProof.SliceStr2
import KE.KIntText
import PyProof.StrLawsTight
import KE.KDictList
import PyProof.DictRoadsH
import KE.KLam
import KE.KNestM
import PyProof.DictItems
import PyProof.IsiHeapPairs
import KE.KPairComp
import PyProof.MinMaxWalk
import PyProof.MeetsSeq
import PyProof.Rows.ZipGen
import KE.IntBitsLaws
import PyProof.FitsBits
import PyProof.AutoSeq1
import PySem.Challenge.RW_hueshare_k41_whole_greedy_and_the_least
set_option Elab.async false
set_option linter.all false
set_option maxRecDepth 100000

noncomputable section
abbrev aA:=@PySem.wpAny_bind
abbrev ak:=@if_neg
abbrev ao:=@if_pos
abbrev bC:=@PySem.wpAny_pure
abbrev gb:=@decide_eq_true
abbrev iY:=@decide_eq_false
abbrev gB:=@PySem.sizeLine_eq
abbrev qN:=@Bool.false_ne_true
abbrev uH:=@PySem.mem_of_lookup
abbrev oU:=@PySem.boot_len
abbrev rH:=@Option.some.inj
abbrev Jm:=@PyProof.Rows.callWith_type1
abbrev tX:=@PySem.PassesOwn.never
abbrev xT:=@of_decide_eq_true
abbrev vD:=@Bool.and_eq_true
abbrev Al:=@Bool.eq_iff_iff
abbrev jy:=@congrArg
abbrev Jj:=@PySem.Heap.SameBut.update
abbrev was:=@decide_eq_true_eq
abbrev Ak:=@PySem.wpAny_holding
abbrev RD:=@PySem.F.plainAttrs_list
abbrev Ji:=@PySem.wpAny_truthy_bool
abbrev Jh:=@PySem.wpAny_newObj_type
abbrev FW:=@PySem.wpAny_seqItems
abbrev way:=@PySem.Around.under_plainId
abbrev Oq:=@PySem.wpAny_Call_Name_kw
abbrev Av:=@PySem.W.mg_none_of
abbrev T4:=@PySem.F.plain_max_loop
abbrev T3:=@PySem.F.plain_min_loop
abbrev Ik:=@PySem.wpAny_tryCatch
abbrev WD:=@Classical.byContradiction
abbrev lO:=@Ne.symm
abbrev Ar:=@PySem.wpAny_field
abbrev Wz:=@PySem.wpAny_callSpecial?_slot
abbrev N6:=@PySem.codeAny_builtin
abbrev wbj:=@PyProof.Rows.slot_tuple_getitem
abbrev RB:=@Bool.not_eq_true'
abbrev Oo:=@PyProof.Rows.KeyOrd.kle_refl
abbrev Om:=@PyProof.Rows.get?_update_seq
abbrev Aq:=@PySem.wpAny_mono
abbrev TY:=@of_decide_eq_false
abbrev X4:=@List.Pairwise.imp_of_mem
abbrev TX:=@decide_eq_true_iff
abbrev Rz:=@PySem.wpAny_call_entry
abbrev TV:=@PySem.wpAny_pyIter_list
abbrev TQ:=@List.Sublist.refl
abbrev wbu:=@PySem.F.slot_tuple_iterator_next
abbrev Ol:=@PySem.plainId_quiet
abbrev TJ:=@PySem.wpAny_passesOwn
abbrev wbx:=@PySem.F.args_tuple_add_2
abbrev TF:=@PySem.wpAny_updateSeq
abbrev wbz:=@PySem.F.entry_tuple_add
abbrev N5:=@PySem.wpAny_letGo
abbrev wcb:=@PySem.F.slot_tuple_add
abbrev X3:=@PySem.wpAny_pyIter_tuple
abbrev XS:=@PySem.wpAny_setField_rec
abbrev NZ:=@PySem.call_meets
abbrev XR:=@PyProof.Rows.KeyOrd.kle_of_klt
abbrev XQ:=@Bool.eq_false_iff
abbrev wch:=@PySem.wpAny_comprehension_free
abbrev wci:=@PySem.F.slot_list_append
abbrev wcj:=@PySem.F.type_list_append
abbrev wck:=@List.sublist_append_left
abbrev wcl:=@PySem.Calls.spliced_cons
abbrev XM:=@PySem.W.KasT.kasWp_bind
abbrev Wy:=@PySem.wpAny_newList
abbrev wco:=@Bool.false_eq_true
abbrev wcp:=@decide_eq_false_iff_not
abbrev XJ:=@Option.map_some
abbrev wcr:=@List.mem_singleton_self
abbrev wcs:=@PySem.F.slot_list_index
abbrev wct:=@PySem.F.type_list_index
abbrev wcu:=@List.take_succ_eq_append_getElem
abbrev wcv:=@PySem.F.entry_max_loop
abbrev wcw:=@PySem.F.entry_min_loop
abbrev wcx:=@PySem.Calls.spliced_nil
abbrev wcy:=@PySem.Heap.get?_push_ne
abbrev wcz:=@List.ext_getElem?
abbrev wda:=@PySem.wpAny_pyIter_enum
abbrev wdb:=@Int.lt_trichotomy
abbrev wdc:=@List.getElem?_set
abbrev wdd:=@Nat.Coprime.dvd_of_dvd_mul_left
abbrev wde:=@PySem.noFill_tuple_add
abbrev wdf:=@List.length_drop
abbrev wdg:=@PyProof.Rows.KeyOrd.kle_trans
abbrev wdh:=@Nat.dvd_mul_left
abbrev wdi:=@Nat.Coprime.symm
abbrev wdj:=@PySem.F.args_list_append_2
abbrev wdk:=@List.getElem?_append
abbrev wdl:=@List.replicate_succ'
abbrev wdm:=@PySem.F.args_tuple_iterator_next_1
abbrev XH:=@Int.ofNat.inj
abbrev Tz:=@PySem.Walks.list
abbrev Tw:=@PySem.wpAny_rule
abbrev wdq:=@List.filterMap_cons
abbrev wdr:=@PySem.wpAny_execs_nil
abbrev wds:=@PySem.W.plainGet_of
abbrev wdt:=@List.length_set
abbrev wdu:=@PySem.F.entry_list_append
abbrev wdv:=@PySem.F.slot_int_rmul
abbrev wdw:=@PySem.F.entry_tuple_iterator_next
abbrev wdx:=@PySem.pushCells_keeps
abbrev wdy:=@List.flatten_append
abbrev wdz:=@PySem.F.slot_zip_next
abbrev wea:=@Int.mul_lt_mul_of_pos_right
abbrev wec:=@Int.fdiv_eq_ediv_of_nonneg
abbrev wed:=@Int.mul_lt_mul_of_pos_left
abbrev wee:=@Int.lt_of_mul_lt_mul_right
abbrev XD:=@PySem.codeAny_mono
abbrev weg:=@PySem.W.callWith_K
abbrev weh:=@List.zip_cons_cons
abbrev XC:=@PySem.wpAny_typeOf
abbrev wej:=@PySem.F.slot_list_append
abbrev Xz:=@Int.le_of_eq
abbrev Xy:=@List.all_map
abbrev Xx:=@Nat.lt_or_ge
abbrev wen:=@List.lt_irrefl
abbrev weo:=@Int.lt_of_mul_lt_mul_left
abbrev wep:=@List.mem_or_eq_of_mem_set
abbrev weq:=@PySem.list_append
abbrev wer:=@Nat.le_of_succ_le
abbrev wes:=@PyProof.noPylong_of_log2
abbrev wet:=@PyProof.Rows.callWith_kw
abbrev weu:=@Int.mul_ediv_cancel_left
abbrev wev:=@Nat.lt_trichotomy
abbrev wew:=@List.length_erase_of_mem
abbrev wex:=@PySem.F.slot_list_extend
abbrev wey:=@PySem.F.type_list_extend
abbrev wez:=@List.append_cancel_right
abbrev wfa:=@Nat.gcd_pos_of_pos_right
abbrev wfb:=@PySem.Paired.length
abbrev wfc:=@PySem.wpAny_standAt
abbrev wfd:=@PySem.rangeSize_one
abbrev wfe:=@List.getElem?_replicate
abbrev wff:=@PySem.seq_tuple_add
abbrev NT:=@if_true
abbrev wfh:=@PyProof.Rows.listUpdate_at
abbrev wfi:=@Nat.le_of_dvd
abbrev wfj:=@Nat.gcd_pos_of_pos_left
abbrev Xw:=@Nat.mul_pos
abbrev wfl:=@Nat.mul_assoc
abbrev wfm:=@List.sum_cons
abbrev wfn:=@PySem.IsL.update
abbrev wfo:=@List.le_antisymm
abbrev wfp:=@Option.getD_some
abbrev wfq:=@PySem.AutoSeq1.idx_int
abbrev wfr:=@List.nil_sublist
abbrev wfs:=@Int.natCast_ediv
abbrev wft:=@Nat.dvd_antisymm
abbrev wfu:=@List.not_mem_nil
abbrev wfv:=@List.getElem?_set_self
abbrev wfw:=@PySem.W.cellsFrom_some
abbrev wfx:=@Nat.le_mul_of_pos_left
abbrev wfy:=@PySem.W.methodCall_KW
abbrev wfz:=@List.of_mem_zip
abbrev wga:=@PySem.concat_meets
abbrev wgb:=@List.map_nil
abbrev Wx:=@PyProof.Rows.IsTup.new
abbrev wgd:=@Nat.succ_mul
abbrev wge:=@List.forIn_cons
abbrev wgf:=@Int.zero_add
abbrev wgg:=@Nat.pow_succ
abbrev wgh:=@Int.ediv_nonneg
abbrev wgi:=@Bool.or_eq_true
abbrev wgj:=@List.map_set
abbrev wgk:=@Int.natCast_add
abbrev Xv:=@PyProof.Rows.boot_range
abbrev Tt:=@if_false
abbrev Xu:=@PySem.typeIs_int
abbrev wgo:=@Bool.and_false
abbrev wgp:=@List.forIn_nil
abbrev wgq:=@Nat.mul_le_mul
abbrev wgr:=@Int.mul_one
abbrev wgs:=@PySem.IsRange.new
abbrev wgt:=@Bool.false_or
abbrev wgu:=@Int.lt_irrefl
abbrev wgv:=@Bool.true_and
abbrev wgw:=@Nat.sub_le
abbrev wgx:=@Nat.zero_add
abbrev wgy:=@Int.le_trans
abbrev wgz:=@Nat.succ.inj
abbrev Ww:=@PySem.W.mg_of
abbrev aF:=@List.length_map
abbrev cO:=@PySem.Heap.get?_push_of_some
abbrev aJ:=@Nat.le_refl
abbrev cg:=@List.getElem?_map
abbrev cX:=@List.mem_cons_self
abbrev gH:=@List.getElem?_eq_getElem
abbrev bQ:=@List.map_append
abbrev eE:=@List.mem_cons_of_mem
abbrev jC:=@List.getD_eq_getElem?_getD
abbrev fZ:=@List.mem_singleton
abbrev fL:=@List.size_toArray
abbrev lC:=@List.getElem?_eq_some_iff
abbrev jc:=@List.mem_append_right
abbrev cW:=@List.mem_cons
abbrev bZ:=@Nat.le_trans
abbrev iZ:=@List.mem_of_getElem?
abbrev iJ:=@Nat.lt_of_lt_of_le
abbrev jx:=@PySem.Heap.get?_push_size
abbrev fV:=@List.mem_filter
abbrev cZ:=@PySem.Heap.lt_size
abbrev dH:=@Nat.le_of_lt
abbrev dM:=@Nat.ne_of_lt
abbrev iW:=@List.mem_append
abbrev dJ:=@Nat.zero_le
abbrev qC:=@List.length_append
abbrev oM:=@List.all_eq_true
abbrev iV:=@List.mem_map
abbrev oR:=@Nat.lt_succ_self
abbrev qz:=@Nat.lt_succ_of_lt
abbrev qe:=@List.take_length
abbrev xR:=@List.length_filter_le
abbrev rE:=@List.take_add_one
abbrev uG:=@List.getElem_of_mem
abbrev tW:=@List.length_range
abbrev rD:=@List.length_cons
abbrev Jd:=@List.eq_nil_of_length_eq_zero
abbrev oK:=@Nat.lt_irrefl
abbrev xQ:=@Nat.lt_of_le_of_lt
abbrev Ij:=@List.pairwise_iff_getElem
abbrev vA:=@List.length_take
abbrev qM:=@List.map_cons
abbrev uF:=@List.append_nil
abbrev tZ:=@List.mem_range
abbrev vq:=@List.range_succ
abbrev xY:=@Nat.succ_ne_zero
abbrev FQ:=@List.replicate_succ
abbrev rC:=@Nat.succ_pos
abbrev Jc:=@List.mem_append_left
abbrev Tr:=@Int.mul_le_mul_of_nonneg_left
abbrev Oj:=@Nat.mul_div_cancel_left
abbrev Aj:=@PySem.Heap.size_push
abbrev Ai:=@Int.mul_nonneg
abbrev Jb:=@List.filter_sublist
abbrev FN:=@List.lookup_cons
abbrev Dj:=@Nat.min_le_left
abbrev Tq:=@List.getElem?_append_right
abbrev uE:=@Int.le_refl
abbrev Ja:=@List.flatten_cons
abbrev xX:=@Nat.ne_of_gt
abbrev Oi:=@List.pairwise_append
abbrev NQ:=@Nat.lt_of_le_of_ne
abbrev Ah:=@Nat.le_of_eq
abbrev Ag:=@Int.mul_zero
abbrev I9:=@List.getElem_mem
abbrev NP:=@List.any_eq_false
abbrev Tp:=@List.pairwise_singleton
abbrev IW:=@List.nodup_cons
abbrev Rv:=@Array.length_toList
abbrev Af:=@Nat.le_succ
abbrev Ru:=@List.getElem?_range
abbrev Rt:=@List.map_congr_left
abbrev Tn:=@List.length_replicate
abbrev Oh:=@List.pairwise_map
abbrev Og:=@List.filter_cons
abbrev Oe:=@List.sublist_nil
abbrev Xq:=@Int.eq_of_mul_eq_mul_right
abbrev Rr:=@Nat.le_of_lt_succ
abbrev Tj:=@List.mem_map_of_mem
abbrev Xp:=@List.getElem?_append_left
abbrev Ii:=@Int.mul_comm
abbrev Ih:=@Int.le_of_lt
abbrev Wv:=@List.getElem?_eq_none
abbrev Ti:=@List.filter_append
abbrev Tg:=@Int.natCast_nonneg
abbrev FJ:=@Int.mul_pos
abbrev Wu:=@Nat.pow_le_pow_right
abbrev Rq:=@List.length_nil
abbrev Rp:=@Nat.le_antisymm
abbrev Ig:=@Nat.le_zero
abbrev Ro:=@Nat.not_lt_zero
abbrev Ie:=@Int.one_mul
abbrev Wt:=@Nat.eq_zero_or_pos
abbrev ydo:=@Int.eq_of_mul_eq_mul_left
abbrev Xo:=@Nat.sub_one_lt_of_le
abbrev Ws:=@Int.toNat_natCast
abbrev Wr:=@List.append_assoc
abbrev yds:=@Nat.succ_add_eq_add_succ
abbrev Tf:=@Int.natCast_mul
abbrev Od:=@Nat.lt_trans
abbrev ydv:=@Int.mul_le_mul_of_nonneg_right
abbrev Xn:=@Nat.add_le_add_left
abbrev NK:=@List.not_lt
abbrev Rn:=@List.any_cons
abbrev Xm:=@List.length_pos_iff
abbrev yea:=@List.length_eq_zero_iff
abbrev Wq:=@Nat.le_add_right
abbrev Te:=@Int.natAbs_mul
abbrev yed:=@PySem.Heap.get?_update_other
abbrev yee:=@List.length_pos_of_mem
abbrev yef:=@List.pairwise_lt_range
abbrev yeg:=@List.take_of_length_le
abbrev Xl:=@List.pairwise_cons
abbrev Xk:=@Int.natAbs_natCast
abbrev Xj:=@Nat.div_mul_cancel
abbrev yek:=@List.dropLast_concat_getLast
abbrev Wo:=@List.foldl_cons
abbrev Rm:=@Nat.mul_comm
abbrev yen:=@List.cons_lt_cons_iff
abbrev Wn:=@List.find?_cons
abbrev Td:=@Int.mul_assoc
abbrev Xi:=@List.foldl_append
abbrev Xh:=@Nat.gcd_dvd_right
abbrev yes:=@Array.perm_iff_toList_perm
abbrev yet:=@Int.le_of_mul_le_mul_right
abbrev yeu:=@Nat.le_sub_one_of_lt
abbrev yev:=@Nat.add_sub_cancel'
abbrev Tc:=@List.map_map
abbrev yex:=@List.mem_replicate
abbrev Wm:=@Int.zero_mul
namespace Hd
open PySem PySem.W PySem.Calls PyProof.Rows
-- a run of the text's top over the heap as a tree, as one fold
def Um(tb:String->Option Builtin)(p:Program)(w:World)(m:Nat)(ann:Option Value)(n:Nat):SharedT->Thread->Option SharedT:=
 @Nat.rec (fun _=>SharedT->Thread->Option SharedT) (fun _ _=>none)
  (fun _ ih s t=> @Bool.rec (fun _=>Option SharedT)
   (@Bool.rec (fun _=>Option SharedT) none
    (@Option.rec (SharedT×Thread) (fun _=>Option SharedT) none (fun r=>ih r.1 r.2) (stepT (denote tb) p w s t)) (stepOk m ann t))
   (some s) (through t)) n
theorem Pu{tb:String->Option Builtin}{p:Program}{w:World}{m:Nat}{ann:Option Value}:∀(n:Nat) (s s':SharedT) (t:Thread),
  Um tb p w m ann n s t=some s'->topRun tb p w m ann n s.abs t=some s'.abs:=by
 intro n
 induction n with
 |zero=>intro s s' t h;exact absurd h (by intro h;cases h)
 |succ n ih=>
  intro s s' t h
  have h1: @Bool.rec (fun _=>Option SharedT) (@Bool.rec (fun _=>Option SharedT) none
    (@Option.rec (SharedT×Thread) (fun _=>Option SharedT) none (fun r=>Um tb p w m ann n r.1 r.2) (stepT (denote tb) p w s t)) (stepOk m ann t))
    (some s) (through t)=some s':=h
  unfold topRun
  cases e1:through t with
  |true=>rw[e1]at h1;injection h1 with h1;rw[h1]
  |false=>
   rw[e1]at h1
   cases e2:stepOk m ann t with
   |false=>rw[e2]at h1;cases h1
   |true=>
    rw[e2]at h1
    cases e3:stepT (denote tb) p w s t with
    |none=>rw[e3]at h1;cases h1
    |some r=>
     rw[e3]at h1
     have e4:=stepT_spec (s':=r.1) (t':=r.2) e3
     show(match step (denote tb) p w s.abs t with | .go a b=>topRun tb p w m ann n a b| .halt _ _=>none)=_
     rw[e4]
     exact ih _ _ _ h1
def treeOf(l:List Obj):BT:=(l.foldl (fun x o=>(x.1.ins x.2 o,x.2+1)) ((BT.nil,0):BT×Nat)).1
-- the run from the start that the kit has laid
def ran(p:Program)(N:Nat)(w:World)(os:OsState):Option SharedT:=
 Um treeTable p w 11 (some (.ref 6)) N ⟨treeOf (boot_heap w.params).objs.toList,11,{},Array.mk [],boot_drawn,boot_toks,os⟩ (topStub p)
-- what is looked at behind the run
def looked(p q:Program)(loose:List Str)(Xt:Shared->Bool)(g0:Bool)(h:Heap)(s:Shared):=
 ((staticsOk (importedModules p.main.body) h s.heap&&namesBound p s.heap&&gensDone s&&laidKept h s.heap),openSeen q loose (importedModules p.main.body) Xt g0 s)
def vg(p q:Program)(loose:List Str)(Xt:Shared->Bool)(g0:Bool)(N:Nat):Prop:=
 ∀(w:World) (os:OsState),(ran p N w os).map (fun s=>looked p q loose Xt g0 (boot_heap w.params) s.abs)=some (true,openGood q loose)
theorem QC{p q:Program}{loose:List Str}{Xt:Shared->Bool}{α:Type}{Yf:Shared->α}{Ya:World->α}{N:Nat}{g0:Bool}(r:vg p q loose Xt g0 N)(e:opening p=plainProg p.main.scope.names)(hN:Nat.ble 600 N=true)(f:∀s,fenceModules? p s=some s)(y:∀(w:World) (os:OsState),(ran p N w os).map (fun s=>Yf s.abs)=some (Ya w)):
  LeftO p q loose Xt Yf Ya N g0:=fun w=>by
 have b:((boot_heap w.params).isNs mainGlobals&&(Array.mk []:Array GenState).size==0,(boot_heap w.params).objs.size,(boot_heap w.params).nsMap mainGlobals "__annotations__")=(true,11,some (.ref 6)):=by kernel_rfl
 have c:absHeap (treeOf (boot_heap w.params).objs.toList) 11 {}=boot_heap w.params:=by kernel_rfl
 obtain⟨⟨h,gs',d',k',os⟩,e1,e'⟩:=Option.map_eq_some_iff.mp (boot_open e hN f w)
 obtain⟨rfl,rfl,rfl,rfl⟩:h=boot_heap w.params/\gs'=Array.mk []/\d'=boot_drawn/\k'=boot_toks:=by simpa using e'
 obtain⟨b1,b2,b3⟩:_/\_/\_:=by simpa only[Prod.mk.injEq]using b
 obtain⟨s,r1,r2⟩:=Option.map_eq_some_iff.mp (r w os)
 obtain⟨s',y1,y2⟩:=Option.map_eq_some_iff.mp (y w os)
 have es:s'=s:=by rw[r1]at y1;injection y1 with y1;exact y1.symm
 subst es
 obtain⟨l1,l2⟩:_/\_:=by simpa only[looked,Prod.mk.injEq]using r2
 have t1:=Pu N _ _ _ r1
 have ab:SharedT.abs ⟨treeOf (boot_heap w.params).objs.toList,11,{},Array.mk [],boot_drawn,boot_toks,os⟩=⟨boot_heap w.params,Array.mk [],boot_drawn,boot_toks,os⟩:=by unfold SharedT.abs;rw[c]
 rw[ab]at t1
 have t:topFrom treeTable p w N ⟨boot_heap w.params,Array.mk [],boot_drawn,boot_toks,os⟩=some s'.abs:=by
  unfold topFrom
  dsimp only
  rw[b1,b2,b3,t1]
  show(match staticsOk (importedModules p.main.body) (boot_heap w.params) s'.abs.heap&&namesBound p s'.abs.heap&&gensDone s'.abs&&laidKept (boot_heap w.params) s'.abs.heap with |true=>_|false=>_)=_
  rw[l1]
 unfold openEnds
 rw[e1]
 show(topFrom treeTable p w N _).map _=_
 rw[t]
 show some (_,_)=_
 rw[l2,y2]
end Hd
section
open PySem PySem.W PyProof.Rows
namespace Hd
abbrev L:=PySem.Challenge.rw_hueshare_k41_whole_greedy_and_the_least
def Q:Program:=view L.row.toRowW.prog [1,2,3,4,6,7,8,9,10,11,12,13,14,15,16,17,18,19,21,22,23,24,25,26,28,29,30,31,32,33,34,35,37,39,40,41,42,44,45,46,47,48,49,50,51,53,54,55,56,57,58,59,61,62,63,64,65,66,67]
abbrev X:Shared->Bool:=fun s=>xlAt Q [] s&&recOk (RowW.records L.row.toRowW) s
set_option maxRecDepth 100000 in
theorem looks:vg L.row.toRowW.prog Q [] X true 5938:=fun w os=>by kernel_rfl
end Hd
local macro_rules
 |`(tactic|o_head $H)=>`(tactic|
  refine holds_open (q:=Hd.Q) (loose:=[]) (N:=5938) (Xt:=Hd.X) (XP:=XL Hd.Q [])
   (Yf:=Hook.obs $H) (Ya:=Hook.val $H) (YP:=Hook.says $H)
   (Hd.QC Hd.looks (by kernel_rfl) rfl (fun _=>by kernel_rfl) (fun _ _=>by kernel_rfl))
   (Hook.of $H) (Hook.keeps $H) (fun s e=>xl_of s (Bool.and_eq_true_iff.mp e).1) XL.keeps
   (by rfl) (by rfl) (by rfl) (fun s e=>recFacts_of (Bool.and_eq_true_iff.mp e).2) (by rfl)
   (by first |assumption|decide+kernel) (by decide+kernel) ⟨rfl,rfl,rfl,rfl,rfl,by decide+kernel⟩ ?hw ?hc)
set_option maxRecDepth 100000 in
set_option maxHeartbeats 0 in
def Hd.early:PSigma fun P:Prop=>P->PySem.Challenge.rw_hueshare_k41_whole_greedy_and_the_least.Holds:=by
 refine⟨?P,fun W=> ?_⟩
 rotate_left
 w_on;o_law;k_head;(case hw=>w_witness2)
 exact W
end
namespace L2
open PySem PySem.Spec PyProof.Rows
abbrev Key:=Sum Int Str
def keyIs:Key->Value->Bool
 | .inl k,v=>Value.isInt k v
 | .inr x,v=>Value.isStrOf x v
def keyH(w:World):Key->Int
 | .inl k=>hashInt k
 | .inr x=>hashStr w x
theorem Nz:∀{k:Key} {v:Value},keyIs k v=true->(∃i t,k=Sum.inl i/\v=Value.int i t)\/(∃x t,k=Sum.inr x/\v=Value.str x t)
 | .inl i,v,h=>by
  obtain⟨t,e⟩:=Value.isInt_shape (k:=i) (v:=v) h
  exact .inl ⟨i,t,rfl,e⟩
 | .inr x,v,h=>by
  obtain⟨t,e⟩:=Value.isStrOf_shape (x:=x) (v:=v) h
  exact .inr ⟨x,t,rfl,e⟩
theorem keyIs_int(i:Int)(t:Tok):keyIs (.inl i) (.int i t)=true:=by simp[keyIs,Value.isInt]
theorem keyIs_str(x:Str)(t:Tok):keyIs (.inr x) (.str x t)=true:=by simp[keyIs,Value.isStrOf]
theorem key_ll(a b:Int):decide ((Sum.inl a:Key)=Sum.inl b)=(a==b):=by
 by_cases e:a=b
 ·subst e;simp
 ·have h:¬(Sum.inl a:Key)=Sum.inl b:=fun q=>e (Sum.inl.inj q)
  rw[iY h]
  exact(beq_eq_false_iff_ne.mpr e).symm
theorem key_rr(a b:Str):decide ((Sum.inr a:Key)=Sum.inr b)=decide (a=b):=by
 by_cases e:a=b
 ·subst e;simp
 ·have h:¬(Sum.inr a:Key)=Sum.inr b:=fun q=>e (Sum.inr.inj q)
  rw[iY h,iY e]
theorem key_lr(a:Int)(b:Str):decide ((Sum.inl a:Key)=Sum.inr b)=false:=iY (fun q=>nomatch q)
theorem key_rl(a:Str)(b:Int):decide ((Sum.inr a:Key)=Sum.inl b)=false:=iY (fun q=>nomatch q)
def mixKind(prog:Program)(w:World):PySem.KeyKind prog w Key where
 is:=keyIs
 hash:=keyH w
 inj:=fun v a b ha hb=>by
  rcases Nz ha with⟨i,t,rfl,rfl⟩|⟨x,t,rfl,rfl⟩
  ·rcases Nz hb with⟨j,u,rfl,e⟩|⟨y,u,rfl,e⟩
   ·injection e with e1 _;rw[e1]
   ·exact nomatch e
  ·rcases Nz hb with⟨j,u,rfl,e⟩|⟨y,u,rfl,e⟩
   ·exact nomatch e
   ·injection e with e1 _;rw[e1]
 byValue:=fun k v h=>by
  rcases Nz h with⟨i,t,rfl,rfl⟩|⟨x,t,rfl,rfl⟩<;>rfl
 pyHash:=fun hv h=>by
  rcases Nz hv with⟨i,t,rfl,rfl⟩|⟨x,t,rfl,rfl⟩
  ·exact wpAny_pyHash_int h
  ·exact wpAny_pyHash_str h
 eqBool:=fun hu hv h=>by
  rcases Nz hu with⟨i,t,rfl,rfl⟩|⟨x,t,rfl,rfl⟩
  ·rcases Nz hv with⟨j,u,rfl,rfl⟩|⟨y,u,rfl,rfl⟩
   ·rw[key_ll]at h;exact wpAny_eqBool_int h
   ·rw[key_lr]at h;exact SeqAt.EqAt.int_str i t y u _ _ _ _ h
  ·rcases Nz hv with⟨j,u,rfl,rfl⟩|⟨y,u,rfl,rfl⟩
   ·rw[key_rl]at h;exact SeqAt.EqAt.str_int x t j u _ _ _ _ h
   ·rw[key_rr]at h;exact wpAny_eqBool_str h
 «strs»:=fun k x t v h=>by
  rcases Nz h with⟨i,u,rfl,e⟩|⟨y,u,rfl,e⟩
  ·exact nomatch e
  ·injection e with e1 _
   subst e1
   cases v<;>rfl
theorem mixKind_int(prog:Program)(w:World)(i:Int)(t:Tok):(mixKind prog w).is (.inl i) (.int i t)=true:=keyIs_int i t
theorem mixKind_str(prog:Program)(w:World)(x:Str)(t:Tok):(mixKind prog w).is (.inr x) (.str x t)=true:=keyIs_str x t
inductive V where
 |non|bl (b:Bool)|int (i:Int)|str (x:Str)|byt (b:Array UInt8)|flt (b:UInt64)|ref (a:Addr)|ty (n:String)
 deriving DecidableEq
def RelV:V->Value->Prop
 | .non,u=>u=Value.none
 | .bl b,u=>u=Value.bool b
 | .int i,u=>∃t,u=Value.int i t
 | .str x,u=>∃t,u=Value.str x t
 | .byt b,u=>∃t,u=Value.bytes b t
 | .flt b,u=>∃t,u=Value.float b t
 | .ref a,u=>u=Value.ref a
 | .ty n,u=>u=Value.type n
abbrev Vals:List V->List Value->Prop:=Paired RelV
theorem Vals.length{xs:List V}{us:List Value}(r:Vals xs us):xs.length=us.length:=wfb r
theorem Vals.get:∀{xs:List V} {us:List Value} {i:Nat} {x:V},Vals xs us->xs[i]? =some x->∃u,us[i]? =some u/\RelV x u
 |_,_,_,_,.nil,e=>by simp at e
 |_,_,0,_,.cons r _,e=>by simp at e;subst e;exact⟨_,rfl,r⟩
 |_,_,i+1,x,.cons _ t,e=>by
  obtain⟨u,h1,h2⟩:=Vals.get (i:=i) (x:=x) t (by simpa using e)
  exact⟨u,by simpa using h1,h2⟩
theorem Vals.set{x:V}{u:Value}(r:RelV x u):∀{xs:List V} {us:List Value} (i:Nat),Vals xs us->Vals (xs.set i x) (us.set i u)
 |_,_,_,.nil=> .nil
 |_,_,0,.cons _ t=> .cons r t
 |_,_,i+1,.cons q t=> .cons q (Vals.set r i t)
theorem Vals.append:∀{xs ys:List V} {us ws:List Value},Vals xs us->Vals ys ws->Vals (xs++ys) (us++ws)
 |_,_,_,_,.nil,s=>s
 |_,_,_,_,.cons r t,s=> .cons r (Vals.append t s)
theorem Vals.take:∀{xs:List V} {us:List Value} (n:Nat),Vals xs us->Vals (xs.take n) (us.take n)
 |_,_,0,_=> .nil
 |_,_,_+1,.nil=> .nil
 |_,_,n+1,.cons r t=> .cons r (Vals.take n t)
theorem Vals.drop:∀{xs:List V} {us:List Value} (n:Nat),Vals xs us->Vals (xs.drop n) (us.drop n)
 |_,_,0,r=>r
 |_,_,_+1,.nil=> .nil
 |_,_,n+1,.cons _ t=>Vals.drop n t
def RelO:Option V->Option Value->Prop
 |some v,some u=>RelV v u
 |none,none=>True
 |_,_=>False
def KV{κ:Type}:List (κ×V)->List (κ×Value)->Prop:=Paired fun(p:κ×V) (q:κ×Value)=>p.1=q.1/\RelV p.2 q.2
def kV:Key->V
 | .inl i=> .int i
 | .inr x=> .str x
inductive HO where
 /-- a list -/
 |lst (xs:List V)
 /-- a tuple (never changes) -/
 |tup (xs:List V)
 /-- a dict whose keys are ints and texts; one whose keys are tuples of ints and texts (the empty one is both) -/
 |dK (kvs:List (Key×V))|dT (kvs:List (List Key×V))
 /-- a set of ints: its members, its size -/
 |set (S:Int->Bool) (n:Nat)
 /-- an instance of the class at C, its dict at dx, its attributes -/
 |ins (C dx:Addr) (fs:List (Str×V))
 /-- the dict of the instance at x -/
 |own (x:Addr)
 /-- the dict of an exception -/
 |xd (fs:List (Str×V))
 /-- a bound method, f of x -/
 |met (f x:Addr)
 /-- a range object lo, lo + 1, .. below hi -/
 |rng (lo hi:Int)
 /-- a thing that is known to the object (the script; a dict while a loop walks it): read, never written while it is so -/
 |frz (o:Obj) (u:HO)
 /-- a code object's table -/
 |tbl (ps:Array Value)
 /-- any other thing, by what is true of its one object (a def of one's own: SetO a S n := HO.ext fun h => ..) -/
 |ext (φ:Heap->Prop)
abbrev Hp:=Addr->Option HO
def upd(H:Hp)(a:Addr)(o:HO):Hp:=fun b=>if b=a then some o else H b
theorem aH{H:Hp}{a:Addr}{o:HO}:upd H a o a=some o:=by unfold upd;rw[ao rfl]
theorem cG{H:Hp}{a b:Addr}{o:HO}(h:b≠a):upd H a o b=H b:=by unfold upd;rw[ak h]
theorem ne_of{H:Hp}{a b:Addr}{o u:HO}(h:H a=some o)(h':H b=some u)(d:o≠u):a≠b:=by
 intro e;subst e;rw[h]at h';exact d (rH h')
theorem lN{H:Hp}{a b:Addr}{o:HO}(h:H a=some o)(h':H b=none):a≠b:=by
 intro e;subst e;rw[h]at h';cases h'
section
variable(P:Program)(w:World)
def ObjOk(H:Hp)(h:Heap)(a:Addr):HO->Prop
 | .lst xs=>xs.length<=sizeLine/\∃(its:List Value) (n:Nat),Vals xs its/\h.get? a=some {cls:= .type "list",data:= .seq its.toArray n}
 | .tup xs=>xs.length<=sizeLine/\∃its:List Value,Vals xs its/\IsTup h a its.toArray
 | .dK kvs=>kvs.length<=sizeLine/\(a==sysModules)=false/\∃vs,KV kvs vs/\h.DictOf (mixKind P w) a vs
 | .dT kvs=>kvs.length<=sizeLine/\(a==sysModules)=false/\∃xs:List (List Key×Addr×Value),
   Paired (fun(p:List Key×V) (q:List Key×Addr×Value)=>p.1=q.1/\H q.2.1=some (.tup (p.1.map kV))/\RelV p.2 q.2.2) kvs xs/\
   ∃o es ep,h.get? a=some o/\o.ExactDict/\o.data= .dict es ep/\es.toList=xs.map (entryOfKey (tupleKind (mixKind P w)))/\(xs.map (·.1)).Nodup
 | .set S n=>h.SetOf (intKind P w) a S n
 | .ins C dx fs=>H dx=some (.own a)/\fs.length<=1000/\dx≠a/\h.get? a=some (PySem.W.instObj C dx)/\
   ∃mA,h.Ns1 dx mA/\(∀f,RelO (fs.lookup f) (mA f))/\PySem.Within mA (fs.map (·.1))
 | .own _=>∃o,h.get? a=some o
 | .xd fs=>∃mA,h.Ns1 a mA/\∀f,RelO (fs.lookup f) (mA f)
 | .rng lo hi=>∃t u v,h.get? a=some {cls:= .type "range",data:= .fields #[.int lo t,.int hi u,.int 1 v]}
 | .frz o u=>h.get? a=some o/\ObjOk H h a u
 | .tbl ps=>h.get? a=some {cls:= .none,data:= .fields ps}
 | .met f x=>h.get? a=some (PySem.W.methodObj (.ref f) (.ref x))
 | .ext φ=>φ h/\(∃o,h.get? a=some o)/\∀h1 h2:Heap,φ h1->(∀o,h1.get? a=some o->h2.get? a=some o)->φ h2
def HOk(H:Hp)(h:Heap):Prop:=∀a o,H a=some o->ObjOk P w H h a o
end
section
variable{P:Program}{w:World}{H H':Hp}{h h':Heap}{a:Addr}{o:HO}
theorem ObjOk.lt(x:ObjOk P w H h a o):a<h.objs.size:=by
 cases o with
 |lst xs=>obtain⟨_,_,_,_,e⟩:=x;exact cZ e
 |tup xs=>obtain⟨_,_,_,p⟩:=x;exact p.lt
 |dK kvs=>obtain⟨_,_,_,_,o,_,_,e,_⟩:=x;exact cZ e
 |dT kvs=>obtain⟨_,_,_,_,o,_,_,e,_⟩:=x;exact cZ e
 |set S n=>obtain⟨o,_,_,_,e,_⟩:=x;exact cZ e
 |ins C dx fs=>obtain⟨_,_,_,e,_⟩:=x;exact cZ e
 |own y=>obtain⟨_,e⟩:=x;exact cZ e
 |xd fs=>obtain⟨_,⟨_,_,_,e,_⟩,_⟩:=x;exact cZ e
 |rng lo hi=>obtain⟨_,_,_,e⟩:=x;exact cZ e
 |frz ob u=>obtain⟨e,_⟩:=x;exact cZ e
 |tbl ps=>exact cZ (show h.get? a=some _ from x)
 |met f y=>exact cZ (show h.get? a=some _ from x)
 |ext φ=>obtain⟨_,⟨_,e⟩,_⟩:=x;exact cZ e
theorem Paired.mapP{α β:Type}{F G:α->β->Prop}:∀{l₁:List α} {l₂:List β},Paired F l₁ l₂->(∀a b,F a b->G a b)->Paired G l₁ l₂
 |_,_,.nil,_=> .nil
 |_,_,.cons r t,f=> .cons (f _ _ r) (Paired.mapP t f)
theorem ObjOk.stay(x:ObjOk P w H h a o)(k:∀b u,(b=a\/H b=some (.own a))->h.get? b=some u->h'.get? b=some u)(ho:∀b,H b=some (.own a)->H' b=some (.own a))(ht:∀b xs,H b=some (.tup xs)->H' b=some (.tup xs)):ObjOk P w H' h' a o:=by
 induction o with
 |lst xs=>obtain⟨z,its,n,r,e⟩:=x;exact⟨z,its,n,r,k _ _ (.inl rfl) e⟩
 |tup xs=>obtain⟨z,its,r,ob,e,c⟩:=x;exact⟨z,its,r,ob,k _ _ (.inl rfl) e,c⟩
 |dK kvs=>obtain⟨z,y,vs,r,ob,es,ep,e,c⟩:=x;exact⟨z,y,vs,r,ob,es,ep,k _ _ (.inl rfl) e,c⟩
 |dT kvs=>
  obtain⟨z,y,xs,r,ob,es,ep,e,c⟩:=x
  exact⟨z,y,xs,Paired.mapP r fun p q z=>⟨z.1,ht _ _ z.2.1,z.2.2⟩,ob,es,ep,k _ _ (.inl rfl) e,c⟩
 |set S n=>obtain⟨ob,es,ep,t,e,c⟩:=x;exact⟨ob,es,ep,t,k _ _ (.inl rfl) e,c⟩
 |ins C dx fs=>
  obtain⟨d,z,ne,e,mA,⟨od,es,ep,e2,c⟩,r⟩:=x
  exact⟨ho _ d,z,ne,k _ _ (.inl rfl) e,mA,⟨od,es,ep,k _ _ (.inr d) e2,c⟩,r⟩
 |own y=>obtain⟨ob,e⟩:=x;exact⟨ob,k _ _ (.inl rfl) e⟩
 |xd fs=>obtain⟨mA,⟨od,es,ep,e,c⟩,r⟩:=x;exact⟨mA,⟨od,es,ep,k _ _ (.inl rfl) e,c⟩,r⟩
 |rng lo hi=>obtain⟨t,u,v,e⟩:=x;exact⟨t,u,v,k _ _ (.inl rfl) e⟩
 |frz ob u ih=>obtain⟨e,q⟩:=x;exact⟨k _ _ (.inl rfl) e,ih q⟩
 |tbl ps=>
  have e:h.get? a=some {cls:= .none,data:= .fields ps}:=x
  show h'.get? a=some {cls:= .none,data:= .fields ps}
  exact k a _ (.inl rfl) e
 |met f y=>
  have e:h.get? a=some (PySem.W.methodObj (.ref f) (.ref y)):=x
  show h'.get? a=some (PySem.W.methodObj (.ref f) (.ref y))
  exact k a _ (.inl rfl) e
 |ext φ=>obtain⟨p,⟨o,e⟩,st⟩:=x;exact⟨st _ _ p fun o q=>k _ _ (.inl rfl) q,⟨o,k _ _ (.inl rfl) e⟩,st⟩
theorem HOk.lt(x:HOk P w H h)(e:H a=some o):a<h.objs.size:=(x a o e).lt
theorem HOk.fresh(x:HOk P w H h)(e:h.objs.size<=a):H a=none:=by
 cases q:H a with
 |none=>rfl
 |some u=>exact absurd (iJ (x.lt q) e) (oK _)
theorem HOk.kept(x:HOk P w H h)(k:∀b u,h.get? b=some u->h'.get? b=some u):HOk P w H h':=fun a o e=>
 (x a o e).stay (fun b u _ q=>k b u q) (fun _ q=>q) fun _ _ q=>q
theorem HOk.laid(x:HOk P w H h)(k:∀b u,h.get? b=some u->h'.get? b=some u)(hp:h.objs.size<=a)(new:ObjOk P w (upd H a o) h' a o):HOk P w (upd H a o) h':=fun b u e=>by
 have hn:=x.fresh hp
 by_cases hb:b=a
 ·subst hb;rw[aH]at e;cases e;exact new
 ·rw[cG hb]at e
  exact(x b u e).stay (fun c v _ q=>k c v q) (fun c q=>by rw[cG (lN q hn)];exact q) fun c xs q=>by rw[cG (lN q hn)];exact q
end
def Rd(H:Hp)(a:Addr)(u:HO):Prop:=H a=some u\/∃o,H a=some (.frz o u)
theorem Rd.ok{P:Program}{w:World}{H:Hp}{h:Heap}{a:Addr}{u:HO}(r:Rd H a u)(x:HOk P w H h):ObjOk P w H h a u:=by
 rcases r with r|⟨o,r⟩
 ·exact x a u r
 ·obtain⟨_,q⟩:=x a _ r
  exact q
def Mut:Option HO->Prop
 |some (.lst _)=>True
 |some (.dK _)=>True
 |some (.dT _)=>True
 |some (.set _ _)=>True
 |some (.ins _ _ _)=>True
 |some (.ext _)=>True
 |_=>False
section
variable{P:Program}{w:World}{H:Hp}{h h':Heap}{x e:Addr}{o':HO}
theorem HOk.write(ok:HOk P w H h)(mu:Mut (H x))(he:e=x\/H e=some (.own x))(k:∀b u,b≠e->h.get? b=some u->h'.get? b=some u)(heo:∃u,h'.get? e=some u)(new:ObjOk P w (upd H x o') h' x o'):HOk P w (upd H x o') h':=fun b u q=>by
 have nown:∀c y,H c=some (.own y)->c≠x:=fun c y r z=>by subst z;rw[r]at mu;exact mu
 have ntup:∀c xs,H c=some (.tup xs)->c≠x:=fun c xs r z=>by subst z;rw[r]at mu;exact mu
 by_cases hb:b=x
 ·subst hb;rw[aH]at q;cases q;exact new
 ·rw[cG hb]at q
  by_cases hbe:b=e
  ·have q':H b=some (.own x):=by
    rcases he with z|z
    ·exact absurd (hbe.trans z) hb
    ·rw[hbe];exact z
   rw[q]at q';cases q'
   obtain⟨v,hv⟩:=heo
   exact⟨v,by rw[hbe];exact hv⟩
  ·refine(ok b u q).stay (fun c v hc r=>k c v ?_ r) (fun c r=>by rw[cG (nown c b r)];exact r) fun c xs r=>by rw[cG (ntup c xs r)];exact r
   rcases hc with rfl|hc
   ·exact hbe
   ·rintro rfl
    rcases he with z|z
    ·exact nown c b hc z
    ·rw[hc]at z;cases z;exact hb rfl
end
structure Un(fs ex:List Addr)(H H':Hp)(h h':Heap):Prop where
 keep:∀b o,h.get? b=some o->H b=none->b∉fs->b∉ex->h'.get? b=some o
 slot:∀b o,h.get? b=some o->H b=none->b∈fs->b∉ex->∃sl,h'.get? b=some {o with slots:=sl}
 free:∀b o,h.get? b=some o->H b=none->b∉ex->H' b=none
 there:∀b o,h.get? b=some o->b∉ex->∃o',h'.get? b=some o'
 tups:∀b xs,H b=some (.tup xs)->H' b=some (.tup xs)
 frzs:∀b o u,H b=some (.frz o u)->H' b=some (.frz o u)
 tbls:∀b ps,H b=some (.tbl ps)->∃more,H' b=some (.tbl (ps++more))
section
variable{fs fs' ex ex':List Addr}{H H1 H2:Hp}{h h1 h2 h':Heap}{a x e:Addr}{o:HO}
theorem Un.any(u:Un fs ex H H1 h h1){b:Addr}{ob:Obj}(q:h.get? b=some ob)(n:H b=none)(hx:b∉ex):∃sl,h1.get? b=some {ob with slots:=sl}:=by
 by_cases hb:b∈fs
 ·exact u.slot b ob q n hb hx
 ·exact⟨ob.slots,u.keep b ob q n hb hx⟩
theorem Un.kept(k:∀b u,h.get? b=some u->h'.get? b=some u):Un fs ex H H h h':=
 ⟨fun b ob q _ _ _=>k b ob q,fun b ob q _ _ _=>⟨ob.slots,k b ob q⟩,fun _ _ _ n _=>n,fun b ob q _=>⟨ob,k b ob q⟩,fun _ _ q=>q,fun _ _ _ q=>q,fun _ ps q=>⟨#[],by rw[q];simp⟩⟩
theorem Un.refl:Un fs ex H H h h:=Un.kept fun _ _ q=>q
theorem Un.laid(k:∀b u,h.get? b=some u->h'.get? b=some u)(hp:h.objs.size<=a)(hn:H a=none):Un fs ex H (upd H a o) h h' where
 keep:=fun b u q _ _ _=>k b u q
 slot:=fun b u q _ _ _=>⟨u.slots,k b u q⟩
 free:=fun b u q n _=>by rw[cG (dM (iJ (cZ q) hp))];exact n
 there:=fun b u q _=>⟨u,k b u q⟩
 tups:=fun b xs q=>by rw[cG (lN q hn)];exact q
 frzs:=fun b u xs q=>by rw[cG (lN q hn)];exact q
 tbls:=fun b ps q=>⟨#[],by rw[cG (lN q hn),q];simp⟩
theorem Un.write(mu:Mut (H x))(he:e=x\/H e=some (.own x))(k:∀b u,b≠e->h.get? b=some u->h'.get? b=some u)(heo:∃u,h'.get? e=some u):Un fs ex H (upd H x o) h h':=by
 have hx:∀b,H b=none->b≠x:=fun b n z=>by subst z;rw[n]at mu;exact mu
 have hb:∀b,H b=none->b≠e:=fun b n z=>by
  subst z
  rcases he with r|r
  ·exact hx b n r
  ·rw[n]at r;cases r
 have hm:∀b u,H b=some u->¬Mut (some u)->b≠x:=fun b u q nm z=>by subst z;rw[q]at mu;exact nm mu
 refine⟨fun b u q n _ _=>k b u (hb b n) q,fun b u q n _ _=>⟨u.slots,k b u (hb b n) q⟩,fun b u q n _=>by rw[cG (hx b n)];exact n,fun b u q _=> ?_,
  fun b xs q=>by rw[cG (hm b _ q fun z=>z)];exact q,fun b u xs q=>by rw[cG (hm b _ q fun z=>z)];exact q,fun b ps q=>⟨#[],by rw[cG (hm b _ q fun z=>z),q];simp⟩⟩
 by_cases hbe:b=e
 ·subst hbe;exact heo
 ·exact⟨u,k b u hbe q⟩
end
def trk(h:Heap)(H:Hp):List Addr:=(List.range h.objs.size).filter fun a=>(H a).isSome
def hidT(h:Heap)(H:Hp):Heap:=PySem.W.hideAll h (trk h H)
theorem hidT_size(h:Heap)(H:Hp):(hidT h H).objs.size=h.objs.size:=PySem.W.hideAll_size _ _
theorem hidT_get{h:Heap}{H:Hp}{b:Addr}{o:Obj}(e:h.get? b=some o)(n:H b=none):(hidT h H).get? b=some o:=
 PySem.W.hideAll_get _ e fun hm=>by
  have q:(H b).isSome=true:=(fV.mp hm).2
  rw[n]at q;simp at q
theorem of_hidT{h:Heap}{H:Hp}{b:Addr}{o:Obj}(e:(hidT h H).get? b=some o):h.get? b=some o/\H b=none:=by
 have e':h.get? b=some o:=PySem.W.of_hideAll (trk h H) e
 refine⟨e',?_⟩
 cases q:H b with
 |none=>rfl
 |some x=>
  have hm:b∈trk h H:=fV.mpr ⟨tZ.mpr (cZ e'),by simp[q]⟩
  have z:(hidT h H).get? b=none:=PySem.W.hideAll_none (trk h H) hm
  rw[z]at e;cases e
structure Mod(K:W.Frag)(mg:Str->Option Value)(base:Heap):Prop where
 kin:K.In base
 glob:base.Ns mainGlobals mg
 blt:∃mb,base.Ns builtinsNs mb/\∀x:Str,x≠"__name__"->mb x=bootBuiltins x
 nolimit:base.NoLimit
structure Cx where
 prog:Program
 w:World
 K:W.Frag
 mg:Str->Option Value
 base:Heap
 A:Around
 N:List Str
 s₀:Shared
 H₀:Hp
 env:Env
 outer:List Env
 stack:List Env
 ex:List Addr
 fn:Str->Bool
 calm:Bool
 pn:List (Addr×Obj)
 xe:Value->Shared->Prop
def frs(l:List Env):List Addr:=l.filterMap (·.frame)
abbrev Cx.fs(X:Cx):List Addr:=frs X.outer
def Vis(sc:Scope)(x:Str):Prop:=sc.names.lookup x=some .local\/sc.names.lookup x=some .cell\/sc.names.lookup x=some .free
def Loc(sc:Scope)(x:Str):Prop:=sc.names.lookup x=some .local\/sc.names.lookup x=some .cell
def Look(env:Env)(h:Heap)(m:Str->Option Value)(x:Str)(u:Value):Prop:=
 (env.kindOf x=some .local/\m x=some u)\/((env.kindOf x=some .cell\/env.kindOf x=some .free)/\∃c,env.cells.lookup x=some c/\h.IsCell c (some u))
structure Cx.Ok(X:Cx):Prop where
 mod:Mod X.K X.mg X.base
 kind:X.env.scope.kind= .function
 glob:X.env.globals=mainGlobals
 blt:X.env.builtins=builtinsNs
 above:X.s₀.heap.objs.size<=X.env.locals
 inj:∀x y c,X.env.cells.lookup x=some c->X.env.cells.lookup y=some c->x=y
 has:∀x,(X.env.kindOf x=some .cell\/X.env.kindOf x=some .free)->∃c,X.env.cells.lookup x=some c
 cab:∀x c,X.fn x=true->X.env.cells.lookup x=some c->X.s₀.heap.objs.size<=c
 hd:X.calm=true->X.A.handled=none
 frames:X.A.frames=some X.stack
 stk:X.stack=X.outer\/(X.stack=X.env::X.outer/\X.env.frame=some X.env.locals)
 exf:∀b∈X.ex,b≠X.env.locals/\∀x c,X.env.cells.lookup x=some c->c≠b
 bs:∀b o,X.base.get? b=some o->X.s₀.heap.get? b=some o/\X.H₀ b=none
 bsz:X.base.objs.size<=X.s₀.heap.objs.size
 noex:∀b o,X.base.get? b=some o->b∉X.ex
 exfs:∀b∈X.ex,b∉X.fs
 funs:X.s₀.heap.FunFrames X.base X.outer
 frf:∀b∈X.fs,X.H₀ b=none
structure Inv(X:Cx)(pins:List (Addr×Obj))(σ:List (Option V))(H:Hp)(s:Shared):Prop where
 ok:X.Ok
 os:s.os=X.s₀.os
 bare:AllBare s.gens
 base:Un X.fs X.ex X.H₀ H X.s₀.heap s.heap
 loc:∃m,s.heap.Ns X.env.locals m/\∀(i:Nat) (x:Str) (v:V),X.N[i]? =some x->σ[i]? =some (some v)->Vis X.env.scope x->∃u,RelV v u/\Look X.env s.heap m x u
 cell:∀x c,X.env.cells.lookup x=some c->∃v,s.heap.IsCell c v
 free:H X.env.locals=none
 freeC:∀x c,X.env.cells.lookup x=some c->H c=none
 pin:∀p∈X.pn++pins,s.heap.get? p.1=some p.2/\H p.1=none/\p.1≠X.env.locals/\p.1∉X.fs/\∀v,p.2.data≠.cell v
 hok:HOk X.prog X.w H s.heap
 len:σ.length=X.N.length
section
variable{X:Cx}{pins:List (Addr×Obj)}{σ:List (Option V)}{H H':Hp}{s:Shared}{h':Heap}
theorem Cx.Ok.nofr(ok:X.Ok){b:Addr}{o:Obj}(e:X.base.get? b=some o):b∉X.fs:=fun hb=>by
 have:=(ok.funs.mem hb).1
 rw[e]at this;cases this
theorem Inv.bs(I:Inv X pins σ H s):∀b o,X.base.get? b=some o->s.heap.get? b=some o/\H b=none:=fun b o e=>
 ⟨I.base.keep b o (I.ok.bs b o e).1 (I.ok.bs b o e).2 (I.ok.nofr e) (I.ok.noex b o e),I.base.free b o (I.ok.bs b o e).1 (I.ok.bs b o e).2 (I.ok.noex b o e)⟩
theorem Inv.bk(I:Inv X pins σ H s):∀b o,X.base.get? b=some o->s.heap.get? b=some o:=fun b o e=>(I.bs b o e).1
theorem Inv.mod(I:Inv X pins σ H s):Mod X.K X.mg X.base:=I.ok.mod
theorem Inv.kIn(I:Inv X pins σ H s):X.K.In s.heap:=I.ok.mod.kin.keeps I.bk
theorem Inv.nolimit(I:Inv X pins σ H s):s.heap.NoLimit:=I.ok.mod.nolimit.keeps I.bk
theorem Inv.lt(I:Inv X pins σ H s):X.env.locals<s.heap.objs.size:=let⟨_,hn,_⟩:=I.loc;hn.lt
theorem Inv.sz(I:Inv X pins σ H s):X.s₀.heap.objs.size<=s.heap.objs.size:=bZ I.ok.above (dH I.lt)
theorem Inv.nofs(I:Inv X pins σ H s){a:Addr}(h:s.heap.objs.size<=a):a∉X.fs:=fun hb=>by
 obtain⟨_,o,ho,_⟩:=I.ok.funs.mem hb
 exact absurd (iJ (cZ ho) (bZ I.sz h)) (oK _)
theorem Inv.cne(I:Inv X pins σ H s):∀x c,X.env.cells.lookup x=some c->c≠X.env.locals:=fun x c e z=>by
 obtain⟨v,o,ho,hd⟩:=I.cell x c e
 obtain⟨m,⟨o',es,ep,ho',hd',_⟩,_⟩:=I.loc
 rw[z,ho']at ho;cases ho;rw[hd']at hd;cases hd
theorem Inv.funs(I:Inv X pins σ H s):s.heap.FunFrames X.base X.outer:=by
 have all:∀(l:List Env),(∀b∈frs l,b∈X.fs)->X.s₀.heap.FunFrames X.base l->s.heap.FunFrames X.base l:=by
  intro l
  induction l with
  |nil=>intro _ _;trivial
  |cons env r ih=>
   intro hs hl
   obtain⟨hk,⟨L,o,hf,hn,ho,hd⟩,hr⟩:=hl
   have hL:L∈X.fs:=hs L (by unfold frs;rw[wdq,hf];exact cX)
   obtain⟨sl,e⟩:=I.base.slot L o ho (I.ok.frf L hL) hL fun z=>I.ok.exfs L z hL
   exact⟨hk,⟨L,_,hf,hn,e,hd⟩,ih (fun b hb=>hs b (by unfold frs;rw[wdq,hf];exact eE _ hb)) hr⟩
 exact all X.outer (fun _ hb=>hb) I.ok.funs
theorem Inv.stack(I:Inv X pins σ H s):s.heap.FunFrames X.base X.stack:=by
 rcases I.ok.stk with e|⟨e,hf⟩
 ·rw[e];exact I.funs
 ·rw[e]
  obtain⟨m,hn,_⟩:=I.loc
  refine .cons (by rw[I.ok.kind];decide) hf hn ?_ I.funs
  exact Heap.get?_none_of_le (bZ I.ok.bsz I.ok.above)
theorem Inv.stkSub(I:Inv X pins σ H s):∀b∈frs X.stack,b∈X.env.locals::X.fs:=fun b hb=>by
 rcases I.ok.stk with e|⟨e,hf⟩
 ·rw[e]at hb;exact eE _ hb
 ·rw[e]at hb
  unfold frs at hb
  rw[wdq,hf]at hb
  exact hb
theorem Inv.stkFree(I:Inv X pins σ H s):∀b∈frs X.stack,H b=none:=fun b hb=>by
 rcases cW.mp (I.stkSub b hb)with e|hb
 ·rw[e];exact I.free
 ·obtain⟨_,o,ho,_⟩:=I.ok.funs.mem hb
  exact I.base.free b o ho (I.ok.frf b hb) fun z=>I.ok.exfs b z hb
theorem Inv.step{g':Array GenState}{t':Nat}{d':Drawn}{ch:List Addr}(I:Inv X pins σ H s)(hch:∀b∈ch,(b∈X.ex\/X.s₀.heap.objs.size<=b)/\b≠X.env.locals/\(∀x c,X.env.cells.lookup x=some c->c≠b)/\∀p∈X.pn++pins,p.1≠b)(keep:∀b o,b≠X.env.locals->b∉X.fs->b∉ch->s.heap.get? b=some o->H b=none->h'.get? b=some o)(slot:∀b o,b≠X.env.locals->b∈X.fs->b∉ch->s.heap.get? b=some o->H b=none->∃sl,h'.get? b=some {o with slots:=sl})(free:∀b o,b∉ch->s.heap.get? b=some o->H b=none->H' b=none)(there:∀b o,b∉ch->s.heap.get? b=some o->∃o',h'.get? b=some o')(tups:∀b xs,H b=some (.tup xs)->H' b=some (.tup xs))(frzs:∀b o u,H b=some (.frz o u)->H' b=some (.frz o u))(tbls:∀b ps,H b=some (.tbl ps)->∃more,H' b=some (.tbl (ps++more)))(ns:∀m,s.heap.Ns X.env.locals m->h'.Ns X.env.locals m)(hok:HOk X.prog X.w H' h')(hg:AllBare g'):
  Inv X pins σ H' {s with heap:=h',gens:=g',drawn:=d',toks:=t'}:=by
 have neL:∀b o,X.s₀.heap.get? b=some o->b≠X.env.locals:=fun b o e=>dM (iJ (cZ e) I.ok.above)
 have neC:∀b o,X.s₀.heap.get? b=some o->b∉X.ex->b∉ch:=fun b o e hx hb=>by
  rcases(hch b hb).1 with z|z
  ·exact hx z
  ·exact absurd (iJ (cZ e) z) (oK _)
 have cellK:∀x c,X.env.cells.lookup x=some c->∀v,s.heap.IsCell c v->h'.IsCell c v:=fun x c e v ⟨o,ho,hd⟩=>by
  have nch:c∉ch:=fun z=>(hch c z).2.2.1 x c e rfl
  by_cases hc:c∈X.fs
  ·obtain⟨sl,q⟩:=slot c o (I.cne x c e) hc nch ho (I.freeC x c e)
   exact⟨_,q,hd⟩
  ·exact⟨o,keep c o (I.cne x c e) hc nch ho (I.freeC x c e),hd⟩
 refine⟨I.ok,I.os,hg,⟨fun b o e n hb hx=> ?_,fun b o e n hb hx=> ?_,fun b o e n hx=> ?_,fun b o e hx=> ?_,fun b xs e=>tups b xs (I.base.tups b xs e),fun b o xs e=>frzs b o xs (I.base.frzs b o xs e),fun b ps e=> ?_⟩,?_,fun x c e=> ?_,?_,fun x c e=> ?_,fun p hp=> ?_,hok,I.len⟩
 ·exact keep b o (neL b o e) hb (neC b o e hx) (I.base.keep b o e n hb hx) (I.base.free b o e n hx)
 ·obtain⟨sl,e1⟩:=I.base.slot b o e n hb hx
  obtain⟨sl',e2⟩:=slot b _ (neL b o e) hb (neC b o e hx) e1 (I.base.free b o e n hx)
  exact⟨sl',e2⟩
 ·obtain⟨o',e1⟩:=I.base.there b o e hx
  exact free b o' (neC b o e hx) e1 (I.base.free b o e n hx)
 ·obtain⟨o',e1⟩:=I.base.there b o e hx
  exact there b o' (neC b o e hx) e1
 ·obtain⟨m1,e1⟩:=I.base.tbls b ps e
  obtain⟨m2,e2⟩:=tbls b _ e1
  exact⟨m1++m2,by rw[e2,Array.append_assoc]⟩
 ·obtain⟨m,hn,hl⟩:=I.loc
  refine⟨m,ns m hn,fun i x v e1 e2 e3=> ?_⟩
  obtain⟨u,r,l⟩:=hl i x v e1 e2 e3
  refine⟨u,r,?_⟩
  rcases l with l|⟨k,c,e,z⟩
  ·exact .inl l
  ·exact .inr ⟨k,c,e,cellK x c e _ z⟩
 ·obtain⟨v,z⟩:=I.cell x c e
  exact⟨v,cellK x c e v z⟩
 ·obtain⟨m,⟨o,_,_,ho,_⟩,_⟩:=I.loc
  exact free _ o (fun z=>(hch _ z).2.1 rfl) ho I.free
 ·obtain⟨v,o,ho,hd⟩:=I.cell x c e
  exact free c o (fun z=>(hch c z).2.2.1 x c e rfl) ho (I.freeC x c e)
 ·obtain⟨e,n,ne,nf,d⟩:=I.pin p hp
  have nch:p.1∉ch:=fun z=>(hch p.1 z).2.2.2 p hp rfl
  exact⟨keep p.1 p.2 ne nf nch e n,free p.1 p.2 nch e n,ne,nf,d⟩
theorem Inv.un{t':Nat}(I:Inv X pins σ H s)(u:Un X.fs [] H H' s.heap h')(hok:HOk X.prog X.w H' h'):Inv X pins σ H' {s with heap:=h',toks:=t'}:=by
 obtain⟨m,⟨o,es,ep,ho,r⟩,_⟩:=id I.loc
 obtain⟨sl,hL⟩:=u.any ho I.free (by simp)
 exact I.step (g':=s.gens) (d':=s.drawn) (ch:=[]) (fun _ z=>nomatch z) (fun b o _ hb _ e n=>u.keep b o e n hb (by simp)) (fun b o _ hb _ e n=>u.slot b o e n hb (by simp)) (fun b o _ e n=>u.free b o e n (by simp)) (fun b o _ e=>u.there b o e (by simp)) u.tups u.frzs u.tbls (fun m' hm=>by
  obtain⟨o',es',ep',ho',r'⟩:=hm
  rw[ho]at ho';cases ho'
  exact⟨_,es',ep',hL,r'⟩) hok I.bare
theorem Inv.call{g':Array GenState}{t':Nat}{d':Drawn}{ch:List Addr}(I:Inv X pins σ H s)(u:Un (frs X.stack) ch H H' s.heap h')(hok:HOk X.prog X.w H' h')(hg:AllBare g')(hch:∀b∈ch,(b∈X.ex\/X.s₀.heap.objs.size<=b)/\b≠X.env.locals/\(∀x c,X.env.cells.lookup x=some c->c≠b)/\∀p∈X.pn++pins,p.1≠b):
  Inv X pins σ H' {s with heap:=h',gens:=g',drawn:=d',toks:=t'}:=by
 obtain⟨m,⟨o,es,ep,ho,r⟩,_⟩:=id I.loc
 obtain⟨sl,hL⟩:=u.any ho I.free fun z=>(hch _ z).2.1 rfl
 exact I.step (ch:=ch) hch (fun b o hL hb hc e n=>u.keep b o e n (fun z=>(cW.mp (I.stkSub b z)).elim hL hb) hc) (fun b o _ _ hc e n=>u.any e n hc) (fun b o hc e n=>u.free b o e n hc) (fun b o hc e=>u.there b o e hc) u.tups u.frzs u.tbls (fun m' hm=>by
  obtain⟨o',es',ep',ho',r'⟩:=hm
  rw[ho]at ho';cases ho'
  exact⟨_,es',ep',hL,r'⟩) hok hg
theorem Inv.turned{t':Nat}{it:Addr}(I:Inv X pins σ H s)(k:∀b o,b≠it->s.heap.get? b=some o->h'.get? b=some o)(hn:H it=none)(hL:it≠X.env.locals)(h1:it∈X.ex\/X.s₀.heap.objs.size<=it)(h2:∀x c,X.env.cells.lookup x=some c->c≠it)(h3:∀p∈X.pn++pins,p.1≠it):Inv X pins σ H {s with heap:=h',toks:=t'}:=by
 have nit:∀b u,H b=some u->b≠it:=fun b u e z=>by rw[z,hn]at e;cases e
 refine I.step (g':=s.gens) (d':=s.drawn) (ch:=[it]) (fun b hb=> ?_) (fun b o _ _ hc e _=>k b o (fun z=>hc (by simp[z])) e) (fun b o _ _ hc e _=>⟨o.slots,k b o (fun z=>hc (by simp[z])) e⟩) (fun _ _ _ _ n=>n)
  (fun b o hc e=>⟨o,k b o (fun z=>hc (by simp[z])) e⟩) (fun _ _ e=>e) (fun _ _ _ e=>e) (fun b ps e=>⟨#[],by rw[e];simp⟩) (fun m hm=> ?_) (fun b u e=> ?_) I.bare
 ·have e:b=it:=by simpa using hb
  subst e
  exact⟨h1,hL,h2,h3⟩
 ·obtain⟨o,es,ep,ho,r⟩:=hm
  exact⟨o,es,ep,k _ o (lO hL) ho,r⟩
 ·refine(I.hok b u e).stay (fun c v hc q=>k c v ?_ q) (fun _ q=>q) fun _ _ q=>q
  rcases hc with z|z
  ·rw[z];exact nit b u e
  ·exact nit c _ z
theorem Inv.tok(I:Inv X pins σ H s)(t:Nat):Inv X pins σ H {s with toks:=t}:=I.un (h':=s.heap) (t':=t) Un.refl I.hok
theorem Inv.kept{t':Nat}(I:Inv X pins σ H s)(k:∀b u,s.heap.get? b=some u->h'.get? b=some u):Inv X pins σ H {s with heap:=h',toks:=t'}:=I.un (Un.kept k) (I.hok.kept k)
theorem Inv.laid{a:Addr}{o:HO}{t':Nat}(I:Inv X pins σ H s)(k:∀b u,s.heap.get? b=some u->h'.get? b=some u)(hp:s.heap.objs.size<=a)(new:ObjOk X.prog X.w (upd H a o) h' a o):
  Inv X pins σ (upd H a o) {s with heap:=h',toks:=t'}:=I.un (Un.laid k hp (I.hok.fresh hp)) (I.hok.laid k hp new)
theorem Inv.write{x e:Addr}{o:HO}{t':Nat}(I:Inv X pins σ H s)(mu:Mut (H x))(he:e=x\/H e=some (.own x))(k:∀b u,b≠e->s.heap.get? b=some u->h'.get? b=some u)(heo:∃u,h'.get? e=some u)(new:ObjOk X.prog X.w (upd H x o) h' x o):Inv X pins σ (upd H x o) {s with heap:=h',toks:=t'}:=I.un (Un.write mu he k heo) (I.hok.write mu he k heo new)
theorem Inv.pins_of{pins':List (Addr×Obj)}(I:Inv X pins σ H s)(h:∀p∈pins',s.heap.get? p.1=some p.2/\H p.1=none/\p.1≠X.env.locals/\p.1∉X.fs/\∀v,p.2.data≠.cell v):Inv X pins' σ H s:=
 ⟨I.ok,I.os,I.bare,I.base,I.loc,I.cell,I.free,I.freeC,fun p hp=>(iW.mp hp).elim (fun z=>I.pin p (Jc _ z)) (h p),I.hok,I.len⟩
theorem nodup_ix{N:List Str}(hN:N.Nodup){i j:Nat}{x:Str}(a:N[i]? =some x)(b:N[j]? =some x):i=j:=by
 obtain⟨h1,e1⟩:=lC.mp a
 obtain⟨h2,e2⟩:=lC.mp b
 exact(List.getElem_inj hN).mp (e1.trans e2.symm)
theorem store_ok2{M:Model}{A:Around}{E:Value->Shared->Prop}{i:Nat}{x:Str}{v:V}{u:Value}{Q:Unit->Shared->Prop}(I:Inv X pins σ H s)(hN:X.N.Nodup)(hi:X.N[i]? =some x)(hx:Loc X.env.scope x)(r:RelV v u)(h:∀s',Inv X pins (σ.set i (some v)) H s'->(∃a,Heap.SameBut a s.heap s'.heap/\(a=X.env.locals\/X.env.cells.lookup x=some a))->Q () s')(hf:X.fn x=true\/X.env.scope.names.lookup x=some .local:=by first |exact .inl rfl|exact .inr rfl|assumption):wpAny M A (storeName X.env x u) Q E s:=by
 obtain⟨m,hn,hl⟩:=id I.loc
 have hcls:(X.env.scope.kind== .class||(X.env.scope.kind== .module&&X.env.locals !=X.env.globals))=false:=by rw[I.ok.kind];rfl
 have hiσ:i<σ.length:=by rw[I.len];exact(lC.mp hi).1
 have cne:=I.cne
 have tracked:∀{a:Addr} {h':Heap},(∃o,s.heap.get? a=some o/\H a=none)->Heap.SameBut a s.heap h'->HOk X.prog X.w H h':=fun{a h'} ha hs b ob e=>by
  obtain⟨_,_,hfree⟩:=ha
  refine(I.hok b ob e).stay (fun c w' hc q=>(hs.2 c ?_).trans q) (fun _ q=>q) fun _ _ q=>q
  rintro rfl
  rcases hc with rfl|hc
  ·rw[hfree]at e;cases e
  ·rw[hfree]at hc;cases hc
 rcases hx with hk|hk
 ·refine wpAny_storeName_local hk hn (fun h' hn' hs=> ?_) hcls
  obtain⟨oL,_,_,hoL,_⟩:=id hn
  refine h _ ⟨I.ok,I.os,I.bare,⟨fun b o e n hb hx=> ?_,fun b o e n hb hx=> ?_,I.base.free,fun b o e hx=> ?_,I.base.tups,I.base.frzs,I.base.tbls⟩,⟨_,hn',fun j y v' e1 e2 e3=> ?_⟩,fun y c e=> ?_,I.free,I.freeC,fun p hp=> ?_,tracked ⟨oL,hoL,I.free⟩ hs,by simpa using I.len⟩ ⟨_,hs,.inl rfl⟩
  ·exact(hs.2 b (dM (iJ (cZ e) I.ok.above))).trans (I.base.keep b o e n hb hx)
  ·obtain⟨sl,e1⟩:=I.base.slot b o e n hb hx
   exact⟨sl,(hs.2 b (dM (iJ (cZ e) I.ok.above))).trans e1⟩
  ·obtain⟨o',e1⟩:=I.base.there b o e hx
   exact⟨o',(hs.2 b (dM (iJ (cZ e) I.ok.above))).trans e1⟩
  ·by_cases hj:j=i
   ·subst hj
    rw[hi]at e1;cases e1
    rw[wfv hiσ]at e2
    cases e2
    exact⟨u,r,.inl ⟨hk,by simp⟩⟩
   ·rw[List.getElem?_set_ne (lO hj)]at e2
    obtain⟨u',r',q⟩:=hl j y v' e1 e2 e3
    refine⟨u',r',?_⟩
    rcases q with⟨k,e⟩|⟨k,c,e,z⟩
    ·refine .inl ⟨k,?_⟩
     have:y≠x:=fun e=>hj (nodup_ix hN e1 (e▸hi))
     simp[this,e]
    ·exact .inr ⟨k,c,e,z.sameBut hs (cne y c e)⟩
  ·obtain⟨w',z⟩:=I.cell y c e
   exact⟨w',z.sameBut hs (cne y c e)⟩
  ·obtain⟨e,n,ne,nf,d⟩:=I.pin p hp
   exact⟨(hs.2 p.1 ne).trans e,n,ne,nf,d⟩
 ·have hfn:X.fn x=true:=by
   rcases hf with z|z
   ·exact z
   ·rw[z]at hk;cases hk
  obtain⟨c,hc⟩:=I.ok.has x (.inl hk)
  obtain⟨w',z⟩:=I.cell x c hc
  refine wpAny_storeName_cell I.ok.kind hk hc z (fun h' hc' hs=> ?_)
  obtain⟨oc,hoc,hocd⟩:=id z
  refine h {s with heap:=h'} ⟨I.ok,I.os,I.bare,⟨fun b o e n hb hx=> ?_,fun b o e n hb hx=> ?_,I.base.free,fun b o e hx=> ?_,I.base.tups,I.base.frzs,I.base.tbls⟩,⟨m,hn.sameBut hs (lO (cne x c hc)),fun j y v' e1 e2 e3=> ?_⟩,fun y c' e=> ?_,I.free,I.freeC,fun p hp=> ?_,tracked ⟨oc,hoc,I.freeC x c hc⟩ hs,by simpa using I.len⟩ ⟨c,hs,.inr hc⟩
  ·exact(hs.2 b (dM (iJ (cZ e) (I.ok.cab x c hfn hc)))).trans (I.base.keep b o e n hb hx)
  ·obtain⟨sl,e1⟩:=I.base.slot b o e n hb hx
   exact⟨sl,(hs.2 b (dM (iJ (cZ e) (I.ok.cab x c hfn hc)))).trans e1⟩
  ·obtain⟨o',e1⟩:=I.base.there b o e hx
   exact⟨o',(hs.2 b (dM (iJ (cZ e) (I.ok.cab x c hfn hc)))).trans e1⟩
  ·by_cases hj:j=i
   ·subst hj
    rw[hi]at e1;cases e1
    rw[wfv hiσ]at e2
    cases e2
    exact⟨u,r,.inr ⟨.inl hk,c,hc,hc'⟩⟩
   ·rw[List.getElem?_set_ne (lO hj)]at e2
    obtain⟨u',r',q⟩:=hl j y v' e1 e2 e3
    refine⟨u',r',?_⟩
    rcases q with q|⟨k,c',e,z'⟩
    ·exact .inl q
    ·refine .inr ⟨k,c',e,z'.sameBut hs ?_⟩
     rintro rfl
     exact hj (nodup_ix hN e1 (I.ok.inj _ _ _ e hc▸hi))
  ·by_cases hcc:c'=c
   ·subst hcc;exact⟨_,hc'⟩
   ·obtain⟨w2,z2⟩:=I.cell y c' e
    exact⟨w2,z2.sameBut hs hcc⟩
  ·obtain⟨e,n,ne,nf,d⟩:=I.pin p hp
   refine⟨(hs.2 p.1 ?_).trans e,n,ne,nf,d⟩
   intro q
   rw[q,hoc]at e
   have q':oc=p.2:=rH e
   exact d w' (by rw[<-q'];exact hocd)
theorem store_ok{M:Model}{A:Around}{E:Value->Shared->Prop}{i:Nat}{x:Str}{v:V}{u:Value}{Q:Unit->Shared->Prop}(I:Inv X pins σ H s)(hN:X.N.Nodup)(hi:X.N[i]? =some x)(hx:Loc X.env.scope x)(r:RelV v u)(h:∀s',Inv X pins (σ.set i (some v)) H s'->Q () s')(hf:X.fn x=true\/X.env.scope.names.lookup x=some .local:=by first |exact .inl rfl|exact .inr rfl|assumption):wpAny M A (storeName X.env x u) Q E s:=
 store_ok2 I hN hi hx r (fun s' I' _=>h s' I') hf
theorem Inv.call'{s':Shared}{ch:List Addr}(I:Inv X pins σ H s)(ho:s'.os=s.os)(u:Un (frs X.stack) ch H H' s.heap s'.heap)(hok:HOk X.prog X.w H' s'.heap)(hg:AllBare s'.gens)(hch:∀b∈ch,(b∈X.ex\/X.s₀.heap.objs.size<=b)/\b≠X.env.locals/\(∀x c,X.env.cells.lookup x=some c->c≠b)/\∀p∈X.pn++pins,p.1≠b):Inv X pins σ H' s':=by
 obtain⟨h',g',d',t',o'⟩:=s'
 have e:o'=s.os:=ho
 subst e
 exact I.call (g':=g') (t':=t') (d':=d') u hok hg hch
end
abbrev XK:=Value->Option Addr->Hp->Prop
abbrev St:=List (Option V)
abbrev VK:=V->Hp->Prop
abbrev TE:=St->Hp->VK->Prop
abbrev TT:=St->Hp->(Bool->Hp->Prop)->Prop
abbrev TA:=St->Hp->(List V->Hp->Prop)->Prop
structure Ends where
 nx:St->Hp->Prop
 rt:VK
 bk:St->Hp->Prop:=fun _ _=>False
 ct:St->Hp->Prop:=fun _ _=>False
abbrev TS:=Ends->St->Hp->Prop
def EP(X:Cx)(pins:List (Addr×Obj))(σ:St)(Q:VK)(u:Value)(s':Shared):Prop:=∃v H',Inv X pins σ H' s'/\RelV v u/\Q v H'
def TP(X:Cx)(pins:List (Addr×Obj))(σ:St)(Q:Bool->Hp->Prop)(b:Bool)(s':Shared):Prop:=∃H',Inv X pins σ H' s'/\Q b H'
def AP(X:Cx)(pins:List (Addr×Obj))(σ:St)(Q:List V->Hp->Prop)(us:List Value)(s':Shared):Prop:=∃vs H',Inv X pins σ H' s'/\Vals vs us/\Q vs H'
def SP(X:Cx)(pins:List (Addr×Obj))(D:Ends)(f:Flow)(s':Shared):Prop:=
 match f with
 | .next=>∃σ' H',Inv X pins σ' H' s'/\D.nx σ' H'
 | .brk=>∃σ' H',Inv X pins σ' H' s'/\D.bk σ' H'
 | .cont=>∃σ' H',Inv X pins σ' H' s'/\D.ct σ' H'
 | .ret u=>∃v σ' H',Inv X pins σ' H' s'/\RelV v u/\D.rt v H'
def PE(X:Cx)(e:Expr)(t:TE):Prop:=
 ∀(pins:List (Addr×Obj)) (s:Shared) (σ:St) (H:Hp) (Q:VK),Inv X pins σ H s->t σ H Q->wpAny (model X.prog X.w) X.A (eval e X.env) (EP X pins σ Q) X.xe s
def PT(X:Cx)(e:Expr)(t:TT):Prop:=
 ∀(pins:List (Addr×Obj)) (s:Shared) (σ:St) (H:Hp) (Q:Bool->Hp->Prop),Inv X pins σ H s->t σ H Q->wpAny (model X.prog X.w) X.A (isTrue e X.env (eval e X.env)) (TP X pins σ Q) X.xe s
def PW(X:Cx)(e:Expr)(t:TT):Prop:=
 ∀(whole:Sem Value) (pins:List (Addr×Obj)) (s:Shared) (σ:St) (H:Hp) (Q:Bool->Hp->Prop),Inv X pins σ H s->t σ H Q->wpAny (model X.prog X.w) X.A (isTrue e X.env whole) (TP X pins σ Q) X.xe s
theorem PW.pt{X:Cx}{e:Expr}{t:TT}(h:PW X e t):PT X e t:=h _
def PA(X:Cx)(es:List Expr)(t:TA):Prop:=
 ∀(pos:Pos) (pins:List (Addr×Obj)) (s:Shared) (σ:St) (H:Hp) (Q:List V->Hp->Prop),Inv X pins σ H s->t σ H Q->wpAny (model X.prog X.w) X.A (spliced (backTo pos (starEach es X.env))) (AP X pins σ Q) X.xe s
def PS(X:Cx)(st:Stmt)(t:TS):Prop:=
 ∀(pins:List (Addr×Obj)) (s:Shared) (σ:St) (H:Hp) (D:Ends),Inv X pins σ H s->t D σ H->wpAny (model X.prog X.w) X.A (exec st X.env) (SP X pins D) X.xe s
def PSs(X:Cx)(st:List Stmt)(t:TS):Prop:=
 ∀(pins:List (Addr×Obj)) (s:Shared) (σ:St) (H:Hp) (D:Ends),Inv X pins σ H s->t D σ H->wpAny (model X.prog X.w) X.A (execs st X.env) (SP X pins D) X.xe s
theorem thn{α:Type}{t:Sem α}{Q Q':α->Shared->Prop}{M:Model}{A:Around}{E:Value->Shared->Prop}{s:Shared}(h:wpAny M A t Q E s)(hQ:∀a s,Q a s->Q' a s):wpAny M A t Q' E s:=Aq h hQ fun _ _ x=>x
section
variable{X:Cx}
def tVar(i:Nat):TE:=fun σ H Q=>∃v,σ[i]? =some (some v)/\Q v H
def tC(v:V):TE:=fun _ H Q=>Q v H
theorem pe_var{i:Nat}{x:Str}{pos:Pos}(hN:X.N[i]? =some x)(hv:Vis X.env.scope x)(hd:(x==("__debug__":Str))=false:=by decide)(hcd:(x==("__classdict__":Str))=false:=by decide):PE X (.Name x pos) (tVar i):=by
 intro pins s σ H Q I h
 obtain⟨v,e,h⟩:=h
 obtain⟨m,hn,hl⟩:=I.loc
 obtain⟨u,r,l⟩:=hl i x v hN e hv
 have fin:EP X pins σ Q u s:=⟨v,H,I,r,h⟩
 rcases l with⟨hk,hm⟩|⟨hk,c,hc,hcell⟩
 ·exact wpAny_Name (wpAny_loadName_local I.ok.kind hk hn hm fin) hd
 ·rcases hk with hk|hk
  ·exact wpAny_Name (wpAny_loadName_cell I.ok.kind hk hc hcell fin) hd
  ·exact wpAny_Name (wpAny_loadName_free I.ok.kind hk hc hcell fin hcd) hd
theorem aK{i j pos}:PE X (.Constant (.int i) j pos) (tC (.int i)):=fun _ _ _ H _ I h=>wpAny_Constant_int ⟨.int i,H,I.tok _,⟨_,rfl⟩,h⟩
theorem pe_bl{b j pos}:PE X (.Constant (.bool b) j pos) (tC (.bl b)):=fun _ _ _ H _ I h=>Constant_bool ⟨.bl b,H,I,rfl,h⟩
theorem pe_non{j pos}:PE X (.Constant .none j pos) (tC .non):=fun _ _ _ H _ I h=>Constant_none ⟨.non,H,I,rfl,h⟩
def Gl(X:Cx)(x:Str):Prop:=X.env.kindOf x=some .globalImplicit
theorem ld_glob{E:Value->Shared->Prop}{pins:List (Addr×Obj)}{s:Shared}{σ:St}{H:Hp}{x:Str}{u:Value}{pos:Pos}{Q:Value->Shared->Prop}(I:Inv X pins σ H s)(hg:Gl X x)(hm:X.mg x=some u)(h:Q u s)(hd:(x==("__debug__":Str))=false:=by decide):wpAny (model X.prog X.w) X.A (eval (.Name x pos) X.env) Q E s:=
 Calls.Name_function_global I.ok.kind hg (Calls.loadGlobal_global (by rw[I.ok.glob];exact I.mod.glob.keeps I.bk) hm h) hd
theorem ld_blt{E:Value->Shared->Prop}{pins:List (Addr×Obj)}{s:Shared}{σ:St}{H:Hp}{x:Str}{u:Value}{pos:Pos}{Q:Value->Shared->Prop}(I:Inv X pins σ H s)(hg:Gl X x)(hm:X.mg x=none)(hv:bootBuiltins x=some u)(h:Q u s)(hn:x≠"__name__":=by decide)(hd:(x==("__debug__":Str))=false:=by decide):wpAny (model X.prog X.w) X.A (eval (.Name x pos) X.env) Q E s:=by
 obtain⟨mb,h1,h2⟩:=I.mod.blt
 exact Calls.Name_function_global I.ok.kind hg (Calls.loadGlobal_builtin (by rw[I.ok.glob];exact I.mod.glob.keeps I.bk) hm (by rw[I.ok.blt];exact h1.keeps I.bk) ((h2 x hn).trans hv) h) hd
theorem pe_glob{x:Str}{v:V}{u:Value}{pos:Pos}(hg:Gl X x)(hm:X.mg x=some u)(r:RelV v u)(hd:(x==("__debug__":Str))=false:=by decide):PE X (.Name x pos) (tC v):=
 fun _ _ _ H _ I h=>ld_glob I hg hm ⟨v,H,I,r,h⟩ hd
theorem pe_bltn{x:Str}{v:V}{u:Value}{pos:Pos}(hg:Gl X x)(hm:X.mg x=none)(hv:bootBuiltins x=some u)(r:RelV v u)(hn:x≠"__name__":=by decide)(hd:(x==("__debug__":Str))=false:=by decide):PE X (.Name x pos) (tC v):=
 fun _ _ _ H _ I h=>ld_blt I hg hm hv ⟨v,H,I,r,h⟩ hn hd
variable{a b:Expr}{ta tb:TE}{pos:Pos}
def tB(t:TE):TT:=fun σ H Q=>t σ H fun x H1=>∃c,x= .bl c/\Q c H1
theorem uD{e:Expr}{t:TE}(h:PE X e t)(he:∀whole,isTrue e X.env whole=(do let v<-whole;standAt e.pos;holding [v] (truthy v)):=by intro _;rfl):PT X e (tB t):=by
 intro pins s σ H Q I hw
 refine isTrue_plain (thn (h pins s σ H _ I hw) fun v s1 ⟨x,H1,I1,r1,q1⟩=> ?_) (he _)
 obtain⟨d,rfl,q⟩:=q1
 cases r1
 exact Ji ⟨H1,I1,q⟩
variable{tA tB':TT}{rest:List Expr}
def tAnd(t u:TT):TT:=fun σ H Q=>t σ H fun c H1=>if c=true then u σ H1 Q else Q false H1
def tOr(t u:TT):TT:=fun σ H Q=>t σ H fun c H1=>if c=true then Q true H1 else u σ H1 Q
def tNot(t:TT):TT:=fun σ H Q=>t σ H fun c H1=>Q (!c) H1
theorem pw_and1(ha:PT X a tA):PW X (.BoolOp .And [a] pos) tA:=by
 intro wh pins s σ H Q I h
 refine isTrue_and (thn (ha pins s σ H Q I h) fun c s1 e=> ?_)
 cases c with
 |true=>exact isTrue_and_nil e
 |false=>exact e
theorem pw_or1(ha:PT X a tA):PW X (.BoolOp .Or [a] pos) tA:=by
 intro wh pins s σ H Q I h
 refine isTrue_or (thn (ha pins s σ H Q I h) fun c s1 e=> ?_)
 cases c with
 |false=>exact isTrue_or_nil e
 |true=>exact e
theorem pw_and(ha:PT X a tA)(hb:PW X (.BoolOp .And (b::rest) pos) tB'):PW X (.BoolOp .And (a::b::rest) pos) (tAnd tA tB'):=by
 intro wh pins s σ H Q I h
 refine isTrue_and (thn (ha pins s σ H _ I h) fun c s1 ⟨H1,I1,q1⟩=> ?_)
 cases c with
 |true=>exact hb wh pins s1 σ H1 Q I1 q1
 |false=>exact⟨H1,I1,q1⟩
theorem pw_or(ha:PT X a tA)(hb:PW X (.BoolOp .Or (b::rest) pos) tB'):PW X (.BoolOp .Or (a::b::rest) pos) (tOr tA tB'):=by
 intro wh pins s σ H Q I h
 refine isTrue_or (thn (ha pins s σ H _ I h) fun c s1 ⟨H1,I1,q1⟩=> ?_)
 cases c with
 |true=>exact⟨H1,I1,q1⟩
 |false=>exact hb wh pins s1 σ H1 Q I1 q1
theorem pt_not(ha:PT X a tA):PT X (.UnaryOp .Not a pos) (tNot tA):=by
 intro pins s σ H Q I h
 exact isTrue_not (ha pins s σ H (fun c H1=>Q (!c) H1) I h)
def tAndV(ta tb:TE):TE:=fun σ H Q=>ta σ H fun x H1=>∃c,x= .bl c/\if c=true then tb σ H1 Q else Q (.bl false) H1
def tOrV(ta tb:TE):TE:=fun σ H Q=>ta σ H fun x H1=>∃c,x= .bl c/\if c=true then Q (.bl true) H1 else tb σ H1 Q
def tNotV(ta:TE):TE:=fun σ H Q=>ta σ H fun x H1=>∃c,x= .bl c/\Q (.bl (!c)) H1
theorem pe_one{op}{t:TE}(h:PE X a t):PE X (.BoolOp op [a] pos) t:=fun pins s σ H Q I hw=>BoolOp_one (h pins s σ H Q I hw)
theorem pe_and(ha:PE X a ta)(hb:PE X (.BoolOp .And (b::rest) pos) tb):PE X (.BoolOp .And (a::b::rest) pos) (tAndV ta tb):=by
 intro pins s σ H Q I h
 refine BoolOp_and (thn (ha pins s σ H _ I h) fun v s1 ⟨x,H1,I1,r1,q1⟩=> ?_)
 obtain⟨c,rfl,q1⟩:=q1
 cases r1
 refine Ji ?_
 cases c with
 |true=>exact hb pins s1 σ H1 Q I1 q1
 |false=>exact⟨.bl false,H1,I1,rfl,q1⟩
theorem pe_or(ha:PE X a ta)(hb:PE X (.BoolOp .Or (b::rest) pos) tb):PE X (.BoolOp .Or (a::b::rest) pos) (tOrV ta tb):=by
 intro pins s σ H Q I h
 refine BoolOp_or (thn (ha pins s σ H _ I h) fun v s1 ⟨x,H1,I1,r1,q1⟩=> ?_)
 obtain⟨c,rfl,q1⟩:=q1
 cases r1
 refine Ji ?_
 cases c with
 |false=>exact hb pins s1 σ H1 Q I1 q1
 |true=>exact⟨.bl true,H1,I1,rfl,q1⟩
theorem pe_not(ha:PE X a ta):PE X (.UnaryOp .Not a pos) (tNotV ta):=by
 intro pins s σ H Q I h
 refine UnaryOp_ (thn (ha pins s σ H _ I h) fun v s1 ⟨x,H1,I1,r1,q1⟩=> ?_)
 obtain⟨c,rfl,q1⟩:=q1
 cases r1
 exact not_of (Ji ⟨.bl (!c),H1,I1,rfl,q1⟩)
def tIf(t:TT)(ta tb:TE):TE:=fun σ H Q=>t σ H fun c H1=>if c=true then ta σ H1 Q else tb σ H1 Q
theorem pe_ifExp{c:Expr}(hc:PT X c tA)(ha:PE X a ta)(hb:PE X b tb):PE X (.IfExp c a b pos) (tIf tA ta tb):=by
 intro pins s σ H Q I h
 refine wpAny_IfExp (thn (hc pins s σ H _ I h) fun d s1 ⟨H1,I1,q1⟩=> ?_)
 cases d with
 |true=>exact ha pins s1 σ H1 Q I1 q1
 |false=>exact hb pins s1 σ H1 Q I1 q1
end
def SqL(K:W.Frag)(H:Hp)(a:Addr)(xs:List V):Prop:=
 Rd H a (.lst xs)\/
  ∃(o:Obj) (its:Array Value) (n:Nat),K.lookup a=some o/\o.cls= .type "list"/\o.dict=none/\o.data= .seq its n/\its.size<=sizeLine/\Vals xs its.toList
def SqT(K:W.Frag)(H:Hp)(a:Addr)(xs:List V):Prop:=
 Rd H a (.tup xs)\/
  ∃(o:Obj) (its:Array Value) (n:Nat),K.lookup a=some o/\o.cls= .type "tuple"/\o.data= .seq its n/\its.size<=sizeLine/\Vals xs its.toList
def absV:Value->Option V
 | .none=>some .non
 | .bool b=>some (.bl b)
 | .int i _=>some (.int i)
 | .str x _=>some (.str x)
 | .bytes b _=>some (.byt b)
 | .float b _=>some (.flt b)
 | .ref a=>some (.ref a)
 | .type n=>some (.ty n)
 |_=>none
theorem RelV.abs{x:V}{u:Value}(r:RelV x u):absV u=some x:=by
 cases x with
 |non=>cases r;rfl
 |bl _=>cases r;rfl
 |int _=>obtain⟨t,rfl⟩:=r;rfl
 |str _=>obtain⟨t,rfl⟩:=r;rfl
 |byt _=>obtain⟨t,rfl⟩:=r;rfl
 |flt _=>obtain⟨t,rfl⟩:=r;rfl
 |ref _=>cases r;rfl
 |ty _=>cases r;rfl
theorem RelV.inj{x y:V}{u:Value}(r:RelV x u)(q:RelV y u):x=y:=rH (r.abs.symm.trans q.abs)
theorem Vals.inj{xs ys:List V}{us:List Value}(h:Vals xs us)(h':Vals ys us):xs=ys:=by
 induction h generalizing ys with
 |nil=>cases h';rfl
 |cons r _ ih=>cases h' with |cons r' t'=>rw[r.inj r',ih t']
section
variable{X:Cx}{pins:List (Addr×Obj)}{σ:St}{H:Hp}{s:Shared}{a:Addr}{xs ys:List V}
theorem SqL.of{K:W.Frag}(h:H a=some (.lst xs)):SqL K H a xs:= .inl (.inl h)
theorem SqT.of{K:W.Frag}(h:H a=some (.tup xs)):SqT K H a xs:= .inl (.inl h)
theorem Inv.list(I:Inv X pins σ H s)(h:SqL X.K H a xs):∃its:List Value,Vals xs its/\PlainL s.heap a its.toArray/\xs.length<=sizeLine:=by
 rcases h with h|⟨o,its,n,hk,hc,hd,hs,hz,r⟩
 ·obtain⟨z,its,n,r,e⟩:=h.ok I.hok
  exact⟨its,r,⟨_,n,e,rfl,rfl,rfl⟩,z⟩
 ·refine⟨its.toList,r,⟨o,n,I.kIn a o hk,hc,hd,by simpa using hs⟩,?_⟩
  have e:=r.length
  simp only[Rv]at e
  omega
theorem Inv.tuple(I:Inv X pins σ H s)(h:SqT X.K H a xs):∃its:List Value,Vals xs its/\IsTup s.heap a its.toArray/\xs.length<=sizeLine:=by
 rcases h with h|⟨o,its,n,hk,hc,hs,hz,r⟩
 ·obtain⟨z,its,r,p⟩:=h.ok I.hok
  exact⟨its,r,p,z⟩
 ·refine⟨its.toList,r,⟨o,I.kIn a o hk,hc,n,by simpa using hs⟩,?_⟩
  have e:=r.length
  simp only[Rv]at e
  omega
theorem Inv.list_inj(I:Inv X pins σ H s)(h:SqL X.K H a xs)(h':SqL X.K H a ys):xs=ys:=by
 obtain⟨its,r,⟨o,n,e,_,_,d⟩,_⟩:=I.list h
 obtain⟨its',r',⟨o',n',e',_,_,d'⟩,_⟩:=I.list h'
 rw[e]at e';cases e'
 rw[d]at d'
 injection d' with d1 _
 have:its=its':=by simpa using jy Array.toList d1
 subst this
 exact r.inj r'
theorem Inv.tuple_inj(I:Inv X pins σ H s)(h:SqT X.K H a xs)(h':SqT X.K H a ys):xs=ys:=by
 obtain⟨its,r,⟨o,e,_,n,d⟩,_⟩:=I.tuple h
 obtain⟨its',r',⟨o',e',_,n',d'⟩,_⟩:=I.tuple h'
 rw[e]at e';cases e'
 rw[d]at d'
 injection d' with d1 _
 have:its=its':=by simpa using jy Array.toList d1
 subst this
 exact r.inj r'
end
abbrev Cx.wish(X:Cx)(E:Value->Shared->Prop):Cx:={X with xe:=E}
abbrev Cx.nox(X:Cx):Cx:=X.wish fun _ _=>False
theorem Cx.Ok.wish{X:Cx}(ok:X.Ok)(E:Value->Shared->Prop):(X.wish E).Ok:=
 ⟨ok.mod,ok.kind,ok.glob,ok.blt,ok.above,ok.inj,ok.has,ok.cab,ok.hd,ok.frames,ok.stk,ok.exf,ok.bs,ok.bsz,ok.noex,ok.exfs,ok.funs,ok.frf⟩
theorem Cx.Ok.unwish{X:Cx}{E:Value->Shared->Prop}(ok:(X.wish E).Ok):X.Ok:=
 ⟨ok.mod,ok.kind,ok.glob,ok.blt,ok.above,ok.inj,ok.has,ok.cab,ok.hd,ok.frames,ok.stk,ok.exf,ok.bs,ok.bsz,ok.noex,ok.exfs,ok.funs,ok.frf⟩
section
variable{X:Cx}{pins:List (Addr×Obj)}{σ:St}{H:Hp}{s:Shared}{E:Value->Shared->Prop}
theorem Inv.wish(I:Inv X pins σ H s)(E:Value->Shared->Prop):Inv (X.wish E) pins σ H s:=⟨I.ok.wish E,I.os,I.bare,I.base,I.loc,I.cell,I.free,I.freeC,I.pin,I.hok,I.len⟩
theorem Inv.unwish(I:Inv (X.wish E) pins σ H s):Inv X pins σ H s:=⟨I.ok.unwish,I.os,I.bare,I.base,I.loc,I.cell,I.free,I.freeC,I.pin,I.hok,I.len⟩
theorem SP.unwish{D:Ends}{f:Flow}{s':Shared}(h:SP (X.wish E) pins D f s'):SP X pins D f s':=by
 cases f with
 |next=>obtain⟨σ',H',I,q⟩:=h;exact⟨σ',H',I.unwish,q⟩
 |brk=>obtain⟨σ',H',I,q⟩:=h;exact⟨σ',H',I.unwish,q⟩
 |cont=>obtain⟨σ',H',I,q⟩:=h;exact⟨σ',H',I.unwish,q⟩
 |ret u=>obtain⟨v,σ',H',I,r,q⟩:=h;exact⟨v,σ',H',I.unwish,r,q⟩
theorem PSs.nox{st:List Stmt}{t:TS}(h:PSs X.nox st t):PSs X st t:=fun pins s σ H D I hw=>
 Aq (h pins s σ H D (I.wish _) hw) (fun _ _ q=>q.unwish) fun _ _ z=>False.elim z
end
section
variable{X:Cx}{st:Stmt}{rest:List Stmt}{t u:TS}{e:Expr}{te:TE}{pos:Pos}
def tNext:TS:=fun D σ H=>D.nx σ H
def tSeq(t u:TS):TS:=fun D σ H=>t {D with nx:=u D} σ H
theorem oJ:PSs X [] tNext:=fun _ _ σ H _ I h=>wdr ⟨σ,H,I,h⟩
theorem aO(h1:PS X st t)(h2:PSs X rest u):PSs X (st::rest) (tSeq t u):=by
 intro pins s σ H D I h
 refine wpAny_execs_cons (thn (h1 pins s σ H {D with nx:=u D} I h) fun f s1 q=> ?_)
 cases f with
 |next=>
  obtain⟨σ',H',I',q⟩:=q
  exact h2 pins s1 σ' H' D I' q
 |ret v=>exact q
 |brk=>exact q
 |cont=>exact q
theorem aX(h1:PS X st t):PSs X [st] t:=by
 intro pins s σ H D I h
 refine wpAny_execs_cons (thn (h1 pins s σ H D I h) fun f s1 q=> ?_)
 cases f with
 |next=>exact wdr q
 |ret v=>exact q
 |brk=>exact q
 |cont=>exact q
def tBreak:TS:=fun D σ H=>D.bk σ H
theorem ps_break:PS X (.Break pos) tBreak:=fun _ _ σ H _ I h=>wpAny_Break ⟨σ,H,I,h⟩
theorem Inv.quiet{pins:List (Addr×Obj)}{σ:St}{H:Hp}{s:Shared}(I:Inv X pins σ H s):interactive X.env=false:=by simp[interactive,I.ok.kind]
def tDrop(te:TE):TS:=fun D σ H=>te σ H fun _ H1=>D.nx σ H1
theorem xP(he:PE X e te)(hs:swapsWith e none pos.line X.env=pure false:=by rfl):PS X (.Expr e pos) (tDrop te):=by
 intro pins s σ H D I h
 exact wpAny_Expr_any (thn (he pins s σ H _ I h) fun v s1 ⟨x,H1,I1,r1,q1⟩=>⟨σ,H1,I1,q1⟩) I.quiet hs
def tRet(te:TE):TS:=fun D σ H=>te σ H D.rt
theorem cF(he:PE X e te):PS X (.Return (some e) pos) (tRet te):=by
 intro pins s σ H D I h
 exact wpAny_Return_some (thn (he pins s σ H _ I h) fun v s1 ⟨x,H1,I1,r1,q1⟩=>⟨x,σ,H1,I1,r1,q1⟩)
def tIfS(c:TT)(t u:TS):TS:=fun D σ H=>c σ H fun b H1=>if b=true then t D σ H1 else u D σ H1
theorem mY{c:Expr}{a b:List Stmt}{tc:TT}(hc:PT X c tc)(ha:PSs X a t)(hb:PSs X b u):PS X (.If c a b pos) (tIfS tc t u):=by
 intro pins s σ H D I h
 refine wpAny_If (thn (hc pins s σ H _ I h) fun d s1 ⟨H1,I1,q1⟩=> ?_)
 cases d with
 |true=>exact ha pins s1 σ H1 D I1 q1
 |false=>exact hb pins s1 σ H1 D I1 q1
def tNever:TS:=fun _ _ _=>False
theorem pss_never{sts:List Stmt}:PSs X sts tNever:=fun _ _ _ _ _ _ h=>h.elim
end
abbrev TG:=V->St->Hp->(St->Hp->Prop)->Prop
abbrev TGs:=List V->St->Hp->(St->Hp->Prop)->Prop
def PG(X:Cx)(target:Expr)(t:TG):Prop:=
 ∀(pins:List (Addr×Obj)) (s:Shared) (σ:St) (H:Hp) (v:V) (u:Value) (Q:St->Hp->Prop),Inv X pins σ H s->RelV v u->t v σ H Q->
  wpAny (model X.prog X.w) X.A (assign target X.env u) (fun _ s'=>∃σ' H',Inv X pins σ' H' s'/\Q σ' H') X.xe s
def PGs(X:Cx)(ts:List Expr)(t:TGs):Prop:=
 ∀(pins:List (Addr×Obj)) (s:Shared) (σ:St) (H:Hp) (vs:List V) (us:List Value) (Q:St->Hp->Prop),Inv X pins σ H s->Vals vs us->t vs σ H Q->
  wpAny (model X.prog X.w) X.A (assignInOrder ((assignEach ts X.env).map (·.2)) us) (fun _ s'=>∃σ' H',Inv X pins σ' H' s'/\Q σ' H') X.xe s
abbrev TSet:=V->V->V->Hp->(Hp->Prop)->Prop
def PSet(X:Cx)(t:TSet):Prop:=
 ∀(pins:List (Addr×Obj)) (s:Shared) (σ:St) (H:Hp) (o i v:V) (ov iv u:Value) (Q:Hp->Prop),Inv X pins σ H s->RelV o ov->RelV i iv->RelV v u->t o i v H Q->
  wpAny (model X.prog X.w) X.A (setItem ov iv u) (fun _ s'=>∃H',Inv X pins σ H' s'/\Q H') X.xe s
abbrev TIp:=V->V->Hp->VK->Prop
def PIp(X:Cx)(op:Operator)(t:TIp):Prop:=
 ∀(pins:List (Addr×Obj)) (s:Shared) (σ:St) (H:Hp) (x y:V) (v u:Value) (Q:VK),Inv X pins σ H s->RelV x v->RelV y u->t x y H Q->
  wpAny (model X.prog X.w) X.A (inplaceOp op v u) (EP X pins σ Q) X.xe s
section
variable{X:Cx}{pos:Pos}
def gName(i:Nat):TG:=fun v σ H Q=>Q (σ.set i (some v)) H
theorem cY{i:Nat}{x:Str}(hN:X.N.Nodup)(hi:X.N[i]? =some x)(hx:Loc X.env.scope x)(hf:X.fn x=true\/X.env.scope.names.lookup x=some .local:=by first |exact .inl rfl|exact .inr rfl|assumption):PG X (.Name x pos) (gName i):=by
 intro pins s σ H v u Q I r h
 exact wpAny_assign_Name (store_ok I hN hi hx r (fun s' I'=>⟨_,H,I',h⟩) hf)
def gNil:TGs:=fun vs σ H Q=>vs=[]/\Q σ H
def gCons(t:TG)(u:TGs):TGs:=fun vs σ H Q=>∃v r,vs=v::r/\t v σ H fun σ' H'=>u r σ' H' Q
theorem pgs_nil:PGs X [] gNil:=by
 intro pins s σ H vs us Q I r h
 obtain⟨e,h⟩:=h
 subst e
 cases r
 exact assignInOrder_nil ⟨σ,H,I,h⟩
theorem tV{e:Expr}{es:List Expr}{t:TG}{u:TGs}(h1:PG X e t)(h2:PGs X es u)(hs:(assignEach (e::es) X.env).map (·.2)=assign e X.env::(assignEach es X.env).map (·.2):=by rfl):PGs X (e::es) (gCons t u):=by
 intro pins s σ H vs us Q I r h
 obtain⟨v,vr,e1,h⟩:=h
 subst e1
 cases r with
 |cons r rr=>
  rw[hs]
  refine assignInOrder_cons (thn (h1 pins s σ H _ _ _ I r h) fun _ s1 ⟨σ1,H1,I1,q1⟩=> ?_)
  exact h2 pins s1 σ1 H1 _ _ Q I1 rr q1
def gTup(K:W.Frag)(n:Nat)(t:TGs):TG:=fun v σ H Q=>∃a xs,v= .ref a/\SqT K H a xs/\xs.length=n/\t xs σ H Q
theorem pg_tup{es:List Expr}{k:Nat}{t:TGs}{n:Nat}(hc:X.calm=true)(h:PGs X es t)(hn:(assignEach es X.env).length=n:=by rfl)(hst:(assignEach es X.env).findIdx? (·.1)=none:=by rfl):PG X (.Tuple es k pos) (gTup X.K n t):=by
 intro pins s σ H v u Q I r hw
 obtain⟨a,xs,e1,hq,hl,hw⟩:=hw
 subst e1
 cases r
 obtain⟨its,rv,ht,hz⟩:=I.tuple hq
 refine assign_Tuple_tuple (I.ok.hd hc) ht (by simp[hn,<-hl,rv.length]) hst fun h' hx=> ?_
 have I1:Inv X pins σ H {s with heap:=h'}:=I.kept (t':=s.toks) fun b o e=>hx b o (dM (cZ e)) e
 exact h pins _ σ H xs _ Q I1 (by simpa using rv) hw
def gSub(to ti:TE)(t:TSet):TG:=fun v σ H Q=>to σ H fun o H1=>ti σ H1 fun i H2=>t o i v H2 fun H3=>Q σ H3
theorem pg_sub{o i:Expr}{to ti:TE}{t:TSet}(ho:PE X o to)(hi:PE X i ti)(hs:PSet X t)(ha:∀v,assign (.Subscript o i pos) X.env v=(do
   let ov<-holding [v] (eval o X.env)
   let iv<-holding [v,ov] (eval i X.env)
   standAt pos
   holding [v,ov,iv] (setItem ov iv v)
   release [v,ov,iv] []):=by intro _;rfl):PG X (.Subscript o i pos) (gSub to ti t):=by
 intro pins s σ H v u Q I r h
 rw[ha]
 refine aA (Ak (thn (ho pins s σ H _ I h) fun ov s1 ⟨x,H1,I1,r1,q1⟩=> ?_))
 refine aA (Ak (thn (hi pins s1 σ H1 _ I1 q1) fun iv s2 ⟨y,H2,I2,r2,q2⟩=> ?_))
 refine aA (wfc (aA (Ak (thn (hs pins s2 σ H2 x y v ov iv u _ I2 r1 r2 r q2) fun _ s3 ⟨H3,I3,q3⟩=> ?_))))
 exact wpAny_release ⟨σ,H3,I3,q3⟩
def tAsg(te:TE)(g:TG):TS:=fun D σ H=>te σ H fun x H1=>g x σ H1 D.nx
theorem ps_asg{tg e:Expr}{te:TE}{g:TG}(he:PE X e te)(hg:PG X tg g)(hs:swapsWithSole [tg] e pos.line X.env=pure false:=by rfl)(hw:swappedStores [tg] e X.env=pure none:=by rfl)(h1:(assignEach [tg] X.env).map (·.2)=[assign tg X.env]:=by rfl):PS X (.Assign [tg] e pos) (tAsg te g):=by
 intro pins s σ H D I h
 refine wpAny_Assign_stores (thn (he pins s σ H _ I h) fun v s1 ⟨x,H1,I1,r1,q1⟩=> ?_) hs hw
 rw[h1]
 exact thn (hg pins s1 σ H1 x v _ I1 r1 q1) fun _ s2 q=>q
theorem cV{i:Nat}{x:Str}{e:Expr}{te:TE}{pos':Pos}(hN:X.N.Nodup)(hi:X.N[i]? =some x)(hx:Loc X.env.scope x)(he:PE X e te)(hs:swapsWith e (some (.Name x pos')) pos.line X.env=pure false:=by rfl)(hf:X.fn x=true\/X.env.scope.names.lookup x=some .local:=by first |exact .inl rfl|exact .inr rfl|assumption):
  PS X (.Assign [.Name x pos'] e pos) (tAsg te (gName i)):=by
 intro pins s σ H D I h
 refine wpAny_Assign_Name (thn (he pins s σ H _ I h) fun v s1 ⟨y,H1,I1,r1,q1⟩=> ?_) hs
 exact store_ok I1 hN hi hx r1 (fun s2 I2=>⟨_,H1,I2,q1⟩) hf
def tAug(i:Nat)(te:TE)(ti:TIp):TS:=fun D σ H=>∃x,σ[i]? =some (some x)/\te σ H fun y H1=>ti x y H1 fun z H2=>D.nx (σ.set i (some z)) H2
theorem ps_aug{i:Nat}{x:Str}{e:Expr}{te:TE}{op:Operator}{ti:TIp}{pos':Pos}(hN:X.N.Nodup)(hi:X.N[i]? =some x)(hx:Loc X.env.scope x)(he:PE X e te)(ho:PIp X op ti)(hf:X.fn x=true\/X.env.scope.names.lookup x=some .local:=by first |exact .inl rfl|exact .inr rfl|assumption):
  PS X (.AugAssign (.Name x pos') op e pos) (tAug i te ti):=by
 intro pins s σ H D I h
 obtain⟨v,e1,h⟩:=h
 obtain⟨m,hn,hl⟩:=I.loc
 have vis:Vis X.env.scope x:=by rcases hx with k|k;exact .inl k;exact .inr (.inl k)
 obtain⟨u,r,l⟩:=hl i x v hi e1 vis
 refine wpAny_AugAssign_Name ?_
 have go:wpAny (model X.prog X.w) X.A (eval e X.env) (fun w s₂=>wpAny (model X.prog X.w) X.A (inplaceOp op u w) (fun r s₃=>wpAny (model X.prog X.w) X.A (storeName X.env x r) (fun _=>SP X pins D .next) X.xe s₃) X.xe s₂) X.xe s:=by
  refine thn (he pins s σ H _ I h) fun w s1 ⟨y,H1,I1,r1,q1⟩=> ?_
  refine thn (ho pins s1 σ H1 v y u w _ I1 r r1 q1) fun z s2 ⟨zv,H2,I2,r2,q2⟩=> ?_
  exact store_ok I2 hN hi hx r2 (fun s3 I3=>⟨_,H2,I3,q2⟩) hf
 rcases l with⟨hk,hm⟩|⟨hk,c,hc,hcell⟩
 ·exact wpAny_loadName_local I.ok.kind hk hn hm go
 ·rcases hk with hk|hk
  ·exact wpAny_loadName_cell I.ok.kind hk hc hcell go
  ·rcases hx with k|k
   ·have:X.env.scope.names.lookup x=some .free:=hk
    rw[k]at this;cases this
   ·have:X.env.scope.names.lookup x=some .free:=hk
    rw[k]at this;cases this
def ipI(f:Int->Int->Int):TIp:=fun x y H Q=>∃i j,x= .int i/\y= .int j/\Q (.int (f i j)) H
theorem ip_add:PIp X .Add (ipI fun i j=>i+j):=by
 intro pins s σ H x y v u Q I r1 r2 h
 obtain⟨i,j,e1,e2,q⟩:=h
 subst e1;subst e2
 obtain⟨t,rfl⟩:=r1
 obtain⟨t',rfl⟩:=r2
 exact iadd_int ⟨.int _,H,I.tok _,⟨_,rfl⟩,q⟩
end
section
variable{X:Cx}{pos:Pos}
def tWhile(c:TT)(tb:TS):TS:=fun D σ H=>∃W:Nat->St->Hp->Prop,(∃m,W m σ H)/\∀m σ H,W m σ H->
 c σ H fun b H1=>if b=true then∃N:St->Hp->Prop,(∀σ' H',N σ' H'->∃m',m'<m/\W m' σ' H')/\tb {D with nx:=N,ct:=N,bk:=D.nx} σ H1 else D.nx σ H1
theorem ps_while{c:Expr}{body:List Stmt}{tc:TT}{tb:TS}(hp:PassesOwn (model X.prog X.w) X.A X.env X.xe)(hc:PT X c tc)(hb:PSs X body tb):PS X (.While c body [] pos) (tWhile tc tb):=by
 intro pins s σ H D I h
 obtain⟨W,⟨m0,w0⟩,turn⟩:=h
 refine wpAny_While (codeAny_whileLoop (fun n s'=>∃σ' H',Inv X pins σ' H' s'/\W n σ' H') ?_ m0 ⟨σ,H,I,w0⟩)
 rintro n s1 ⟨σ1,H1,I1,w1⟩
 refine TJ hp (thn (hc pins s1 σ1 H1 _ I1 (turn n σ1 H1 w1)) fun b s2 ⟨H2,I2,q2⟩=> ?_)
 cases b with
 |true=>
  obtain⟨N,hN,q2⟩:=q2
  rw[ao rfl]
  refine TJ hp (thn (hb pins s2 σ1 H2 _ I2 q2) fun f s3 q3=> ?_)
  cases f with
  |next=>
   obtain⟨σ3,H3,I3,n3⟩:=q3
   obtain⟨m',hm,w3⟩:=hN σ3 H3 n3
   exact⟨m',hm,σ3,H3,I3,w3⟩
  |cont=>
   obtain⟨σ3,H3,I3,n3⟩:=q3
   obtain⟨m',hm,w3⟩:=hN σ3 H3 n3
   exact⟨m',hm,σ3,H3,I3,w3⟩
  |brk=>exact q3
  |ret v=>exact q3
 |false=>
  rw[ak qN]
  exact wdr ⟨σ1,H2,I2,q2⟩
end
structure It where
 go:Nat->Hp->Prop
 yld:Nat->Hp->V->Hp->Prop
 stop:Nat->Hp->Prop
def FpOk(X:Cx)(pins:List (Addr×Obj))(H:Hp)(b:Addr):Prop:=
 H b=none/\b≠X.env.locals/\b∉X.fs/\(b∈X.ex\/X.s₀.heap.objs.size<=b)/\(∀x c,X.env.cells.lookup x=some c->c≠b)/\∀p∈X.pn++pins,p.1≠b
theorem Inv.fpOk{X:Cx}{pins:List (Addr×Obj)}{σ:St}{H H':Hp}{s:Shared}{b:Addr}(I:Inv X pins σ H s)(hb:s.heap.objs.size<=b)(hn:H' b=none):FpOk X pins H' b:=by
 refine⟨hn,xX (iJ I.lt hb),I.nofs hb,.inr (bZ I.sz hb),fun x c e z=> ?_,fun p hp z=> ?_⟩
 ·obtain⟨v,q⟩:=I.cell x c e
  exact absurd (iJ q.lt (by rw[z];exact hb)) (oK _)
 ·exact absurd (iJ (cZ (I.pin p hp).1) (by rw[z];exact hb)) (oK _)
structure Turn(P:Program)(w:World)(K:W.Frag)(tg:Expr)(J:It)(fp:List Addr)(it:Addr)(tn:Nat->Heap->Prop):Prop where
 mem:it∈fp
 obj:∀i h,tn i h->∀b∈fp,∃o,h.get? b=some o/\∀v,o.data≠.cell v
 keep:∀i h h',tn i h->(∀b∈fp,∀o,h.get? b=some o->h'.get? b=some o)->tn i h'
 item:∀(X:Cx),X.prog=P->X.w=w->X.K=K->X.calm=true->∀(i:Nat) (pins:List (Addr×Obj)) (s:Shared) (σ:St) (H:Hp) (E:Value->Shared->Prop),Inv X pins σ H s->(∀b∈fp,FpOk X pins H b)->tn i s.heap->J.go i H->
  wpAny (model P w) X.A (pyNext (.ref it)) (fun r s1=>∃u,r=some u/\
   wpAny (model P w) X.A (letOwnedTupleGo tg (.ref it) u) (fun _ s2=>∃x H',Inv X pins σ H' s2/\RelV x u/\J.yld i H x H'/\tn (i+1) s2.heap/\∀b∈fp,H' b=none) E s1) E s
 done:∀(X:Cx),X.prog=P->X.w=w->X.K=K->X.calm=true->∀(i:Nat) (pins:List (Addr×Obj)) (s:Shared) (σ:St) (H:Hp) (E:Value->Shared->Prop),Inv X pins σ H s->(∀b∈fp,FpOk X pins H b)->tn i s.heap->J.stop i H->
  wpAny (model P w) X.A (pyNext (.ref it)) (fun r s1=>r=none/\Inv X pins σ H s1) E s
 self:∀(A:Around) (i:Nat) (s:Shared) (Q:Value->Shared->Prop) (E:Value->Shared->Prop),tn i s.heap->Q (.ref it) s->wpAny (model P w) A (pyIter (.ref it)) Q E s
abbrev TI:=St->Hp->(It->Hp->Prop)->Prop
def PIE(X:Cx)(pins:List (Addr×Obj))(σ:St)(tg:Expr)(R:It->Hp->Prop)(itv:Value)(s2:Shared):Prop:=
 ∃(it:Addr) (fp:List Addr) (tn:Nat->Heap->Prop) (J:It) (H':Hp),itv= .ref it/\Inv X pins σ H' s2/\Turn X.prog X.w X.K tg J fp it tn/\tn 0 s2.heap/\(∀b∈fp,FpOk X pins H' b)/\R J H'
def PI(X:Cx)(tg iter:Expr)(wi:TI):Prop:=
 ∀(pins:List (Addr×Obj)) (s:Shared) (σ:St) (H:Hp) (R:It->Hp->Prop),Inv X pins σ H s->wi σ H R->
  wpAny (model X.prog X.w) X.A (eval iter X.env) (fun v s1=>wpAny (model X.prog X.w) X.A (pyIter v) (PIE X pins σ tg R) X.xe s1) X.xe s
theorem go_of{M:Model}{A:Around}{E:Value->Shared->Prop}{s:Shared}{tg:Expr}{it:Addr}{u:Value}{o:Obj}{n:String}{vs:Array Value}{Q:Unit->Shared->Prop}(ho:s.heap.get? it=some o)(hc:o.cls= .type n)(hd:o.data= .fields vs)(hn:["enumerate","zip","dict_itemiterator","dict_reverseitemiterator","odict_iterator","itertools.zip_longest","itertools.pairwise"].contains n=false)(hQ:Q () s):wpAny M A (letOwnedTupleGo tg (.ref it) u) Q E s:=by
 unfold letOwnedTupleGo
 cases tg<;>first
  |exact bC hQ
  |(cases u<;>first
    |exact bC hQ
    |(refine aA (wpAny_load ho ?_)
      rw[hc,hd]
      show wpAny M A (if(["enumerate","zip","dict_itemiterator","dict_reverseitemiterator","odict_iterator","itertools.zip_longest","itertools.pairwise"].contains n&&vs[0]? ==some (rawInt _))=true then _ else _) Q E s
      rw[ak (by intro h;rw[hn,Bool.false_and]at h;cases h)]
      exact bC hQ))
def Itl(K:W.Frag)(a:Addr):It:=
 ⟨fun i H=>∃xs x,SqL K H a xs/\xs[i]? =some x,fun i H x H'=>H'=H/\∀xs,SqL K H a xs->xs[i]? =some x,fun i H=>∃xs,SqL K H a xs/\xs.length<=i⟩
def Itt(K:W.Frag)(a:Addr):It:=
 ⟨fun i H=>∃xs x,SqT K H a xs/\xs[i]? =some x,fun i H x H'=>H'=H/\∀xs,SqT K H a xs->xs[i]? =some x,fun i H=>∃xs,SqT K H a xs/\xs.length<=i⟩
def Itr(lo:Int)(n:Nat):It:=⟨fun i _=>i<n,fun i H x H'=>H'=H/\x= .int (lo+i),fun i _=>n<=i⟩
theorem turn_list{P:Program}{w:World}{K:W.Frag}{tg:Expr}(a it:Addr):Turn P w K tg (Itl K a) [it] it (fun i h=>h.IsListIter it a i) where
 mem:=by simp
 obj:=fun i h st b hb=>by
  have e:b=it:=by simpa using hb
  subst e
  obtain⟨o,e,c,d⟩:=st
  exact⟨o,e,fun v z=>by rw[d]at z;cases z⟩
 keep:=fun i h h' st k=>st.at fun o e=>k it (by simp) o e
 item:=by
  intro X hP hw hK hc i pins s σ H E I hf st hg
  subst hP hw hK
  obtain⟨xs,x,hq,hx⟩:=hg
  obtain⟨its,rv,p,hz⟩:=I.list hq
  obtain⟨u,hu,ru⟩:=rv.get hx
  obtain⟨f0,f1,f2,f3,f4,f5⟩:=hf it (by simp)
  refine wpAny_pyNext_list_item st p.isList (x:=u) (by simpa using hu) fun h' st' sb=> ?_
  have I1:Inv X pins σ H {s with heap:=h'}:=I.turned (t':=s.toks) (fun b o hb e=>(sb.2 b hb).trans e) f0 f1 f3 f4 f5
  obtain⟨o,e,c,d⟩:=id st'
  exact⟨u,rfl,go_of (s:={s with heap:=h'}) e c d (by decide) ⟨x,H,I1,ru,⟨rfl,fun ys hy=>by rw[I.list_inj hy hq];exact hx⟩,st',fun b hb=>(hf b hb).1⟩⟩
 done:=by
  intro X hP hw hK hc i pins s σ H E I hf st hg
  subst hP hw hK
  obtain⟨xs,hq,hx⟩:=hg
  obtain⟨its,rv,p,hz⟩:=I.list hq
  obtain⟨f0,f1,f2,f3,f4,f5⟩:=hf it (by simp)
  have hl:=rv.length
  exact wpAny_pyNext_list_end (I.ok.hd hc) st p.isList (by simp;omega) fun h' eb=>⟨rfl,I.turned (t':=s.toks) (fun b o hb e=>eb b o hb e) f0 f1 f3 f4 f5⟩
 self:=fun _ _ _ _ _ st h=>wpAny_pyIter_listiter st h
theorem turn_tuple{P:Program}{w:World}{K:W.Frag}{tg:Expr}(a it:Addr):Turn P w K tg (Itt K a) [it] it (fun i h=>h.IsTupleIter it a i) where
 mem:=by simp
 obj:=fun i h st b hb=>by
  have e:b=it:=by simpa using hb
  subst e
  obtain⟨o,e,c,d⟩:=st
  exact⟨o,e,fun v z=>by rw[d]at z;cases z⟩
 keep:=fun i h h' st k=>st.at fun o e=>k it (by simp) o e
 item:=by
  intro X hP hw hK hc i pins s σ H E I hf st hg
  subst hP hw hK
  obtain⟨xs,x,hq,hx⟩:=hg
  obtain⟨its,rv,p,hz⟩:=I.tuple hq
  obtain⟨u,hu,ru⟩:=rv.get hx
  obtain⟨f0,f1,f2,f3,f4,f5⟩:=hf it (by simp)
  refine wpAny_pyNext_tuple_item st (show s.heap.IsTuple a its.toArray from p) (x:=u) (by simpa using hu) fun h' st' sb=> ?_
  have I1:Inv X pins σ H {s with heap:=h'}:=I.turned (t':=s.toks) (fun b o hb e=>(sb.2 b hb).trans e) f0 f1 f3 f4 f5
  obtain⟨o,e,c,d⟩:=id st'
  exact⟨u,rfl,go_of (s:={s with heap:=h'}) e c d (by decide) ⟨x,H,I1,ru,⟨rfl,fun ys hy=>by rw[I.tuple_inj hy hq];exact hx⟩,st',fun b hb=>(hf b hb).1⟩⟩
 done:=by
  intro X hP hw hK hc i pins s σ H E I hf st hg
  subst hP hw hK
  obtain⟨xs,hq,hx⟩:=hg
  obtain⟨its,rv,p,hz⟩:=I.tuple hq
  obtain⟨f0,f1,f2,f3,f4,f5⟩:=hf it (by simp)
  have hl:=rv.length
  exact wpAny_pyNext_tuple_end (I.ok.hd hc) st (show s.heap.IsTuple a its.toArray from p) (by simp;omega) fun h' eb=>⟨rfl,I.turned (t':=s.toks) (fun b o hb e=>eb b o hb e) f0 f1 f3 f4 f5⟩
 self:=fun _ _ _ _ _ st h=>wpAny_pyIter_tupleiter st h
theorem turn_range{P:Program}{w:World}{K:W.Frag}{tg:Expr}(it:Addr)(lo:Int)(n:Nat):Turn P w K tg (Itr lo n) [it] it (fun i h=>IsRangeIter h it (lo+(i:Nat)*1) ((n:Int)-(i:Nat)) 1) where
 mem:=by simp
 obj:=fun i h st b hb=>by
  have e:b=it:=by simpa using hb
  subst e
  exact⟨_,st,fun v z=>by
   have z':Data.fields _=Data.cell v:=z
   cases z'⟩
 keep:=fun i h h' st k=>k it (by simp) _ st
 item:=by
  intro X hP hw hK hc i pins s σ H E I hf st hg
  subst hP hw hK
  obtain⟨f0,f1,f2,f3,f4,f5⟩:=hf it (by simp)
  have W:=Walks.range (prog:=X.prog) (w:=X.w) (I.ok.hd hc) it lo 1 n
  refine W.item i s _ _ hg st fun v h' tk hv st' kk=> ?_
  obtain⟨t,rfl⟩:=hv
  have I1:Inv X pins σ H {s with heap:=h',toks:=tk}:=I.turned (fun b o hb e=>kk b o (by simpa using hb) e) f0 f1 f3 f4 f5
  refine⟨_,rfl,go_of (s:={s with heap:=h',toks:=tk}) (n:="range_iterator") st' rfl rfl (by decide) ⟨.int (lo+i),H,I1,⟨t,?_⟩,⟨rfl,rfl⟩,st',fun b hb=>(hf b hb).1⟩⟩
  rw[wgr]
 done:=by
  intro X hP hw hK hc i pins s σ H E I hf st hg
  subst hP hw hK
  obtain⟨f0,f1,f2,f3,f4,f5⟩:=hf it (by simp)
  exact wpAny_pyNext_range_end (I.ok.hd hc) st (by have:n<=i:=hg;omega) fun h' eb=>⟨rfl,I.turned (t':=s.toks) (fun b o hb e=>eb b o hb e) f0 f1 f3 f4 f5⟩
 self:=fun _ _ _ _ _ st h=>wpAny_pyIter_rangeiter st h
section
variable{X:Cx}{tg:Expr}
theorem range_it{pins:List (Addr×Obj)}{σ:St}{H:Hp}{s:Shared}{R:It->Hp->Prop}{E:Value->Shared->Prop}{lo hi:Int}{t u v:Tok}{tk:Nat}(I:Inv X pins σ H s)(h1: -(2^62)<=lo)(h2:lo<2^62)(h3: -(2^62)<=hi)(h4:hi<2^62)(q:R (Itr lo (hi-lo).toNat) H):wpAny (model X.prog X.w) X.A (pyIter (.ref s.heap.objs.size)) (PIE X pins σ tg R) E {s with heap:=s.heap.push {cls:= .type "range",data:= .fields #[.int lo t,.int hi u,.int 1 v]},toks:=tk}:=by
 refine wpAny_pyIter_range (wgs ..) (small_one h1 h2 h3 h4) ?_
 have I1:Inv X pins σ H {s with heap:=s.heap.push {cls:= .type "range",data:= .fields #[.int lo t,.int hi u,.int 1 v]},toks:=tk}:=I.kept fun b o e=>cO _ e
 refine⟨(s.heap.push {cls:= .type "range",data:= .fields #[.int lo t,.int hi u,.int 1 v]}).objs.size,[(s.heap.push {cls:= .type "range",data:= .fields #[.int lo t,.int hi u,.int 1 v]}).objs.size],_,_,H,rfl,
  I1.kept (t':=tk) fun b o e=>cO _ e,turn_range _ lo (hi-lo).toNat,?_,fun b hb=> ?_,q⟩
 ·have e1:lo+((0:Nat):Int)*1=lo:=by simp
  have e2:(((hi-lo).toNat:Nat):Int)-((0:Nat):Int)=Builtin.Range.rangeSize lo hi 1:=by rw[wfd];split<;>omega
  show IsRangeIter _ _ (lo+((0:Nat):Int)*1) ((((hi-lo).toNat:Nat):Int)-((0:Nat):Int)) 1
  rw[e1,e2]
  exact jx _ rfl
 ·have e:b=(s.heap.push {cls:= .type "range",data:= .fields #[.int lo t,.int hi u,.int 1 v]}).objs.size:=by simpa using hb
  subst e
  exact I1.fpOk (aJ _) (I1.hok.fresh (aJ _))
def iRng1(ta:TA):TI:=fun σ H R=>ta σ H fun vs H1=>∃j:Int,vs=[.int j]/\ -(2^62)<=j/\j<2^62/\R (Itr 0 j.toNat) H1
def iRng2(ta:TA):TI:=fun σ H R=>ta σ H fun vs H1=>∃i j:Int,vs=[.int i,.int j]/\(-(2^62)<=i/\i<2^62/\ -(2^62)<=j/\j<2^62)/\R (Itr i (j-i).toNat) H1
theorem Ia{a:Expr}{ta:TA}{p pos:Pos}(hg:Gl X "range")(hm:X.mg "range"=none)(ha:PA X [a] ta)(hs:starEach [a] X.env=[(false,eval a X.env)]:=by rfl):PI X tg (.Call (.Name "range" p) [a] [] pos) (iRng1 ta):=by
 intro pins s σ H R I h
 refine Call_ (ld_blt I hg hm Xv (Jm (thn (ha pos pins s σ H _ I h) fun us s1 ⟨vs,H1,I1,r1,q1⟩=> ?_) hs rfl))
 obtain⟨j,e,q1,q2,q⟩:=q1
 subst e
 cases r1 with
 |cons r rr=>
  cases rr
  obtain⟨t,rfl⟩:=r
  exact call_range_1 (range_it I1 (by omega) (by omega) q1 q2 (by simpa using q))
theorem pi_range2{a b:Expr}{ta:TA}{p pos:Pos}(hg:Gl X "range")(hm:X.mg "range"=none)(ha:PA X [a,b] ta)(hs:starEach [a,b] X.env=[(false,eval a X.env),(false,eval b X.env)]:=by rfl)(hs2:starEach [b] X.env=[(false,eval b X.env)]:=by rfl):
  PI X tg (.Call (.Name "range" p) [a,b] [] pos) (iRng2 ta):=by
 intro pins s σ H R I h
 refine Call_ (ld_blt I hg hm Xv (Jm (thn (ha pos pins s σ H _ I h) fun us s1 ⟨vs,H1,I1,r1,q1⟩=> ?_) (by rw[hs,hs2]) (by rw[hs2];rfl)))
 obtain⟨i,j,e,⟨q1,q2,q3,q4⟩,q⟩:=q1
 subst e
 cases r1 with
 |cons r rr=>
  cases rr with
  |cons r' rr=>
   cases rr
   obtain⟨t,rfl⟩:=r
   obtain⟨t',rfl⟩:=r'
   exact call_range_2 (range_it I1 q1 q2 q3 q4 q)
def tFor(wi:TI)(g:TG)(tb:TS):TS:=fun D σ H=>wi σ H fun J H1=>∃W:Nat->Nat->St->Hp->Prop,(∃m,W 0 m σ H1)/\∀i m σ H,W i m σ H->
 (J.stop i H/\D.nx σ H)\/(J.go i H/\∃N:St->Hp->Prop,(∀σ' H',N σ' H'->∃m',m'<m/\W (i+1) m' σ' H')/\∀x H',J.yld i H x H'->g x σ H' fun σ2 H2=>tb {D with nx:=N,ct:=N,bk:=D.nx} σ2 H2)
def pinsAt(fp:List Addr)(h:Heap):List (Addr×Obj):=fp.filterMap fun b=>(h.get? b).map fun o=>(b,o)
theorem mem_pinsAt{fp:List Addr}{h:Heap}{b:Addr}{o:Obj}(hb:b∈fp)(e:h.get? b=some o):(b,o)∈pinsAt fp h:=List.mem_filterMap.mpr ⟨b,hb,by rw[e];rfl⟩
theorem of_pinsAt{fp:List Addr}{h:Heap}{p:Addr×Obj}(hp:p∈pinsAt fp h):p.1∈fp/\h.get? p.1=some p.2:=by
 obtain⟨b,hb,e⟩:=List.mem_filterMap.mp hp
 cases q:h.get? b with
 |none=>rw[q]at e;cases e
 |some o=>
  rw[q]at e
  have e':(b,o)=p:=rH e
  subst e'
  exact⟨hb,q⟩
theorem Inv.pinned{pins:List (Addr×Obj)}{σ:St}{H:Hp}{s:Shared}{fp:List Addr}(I:Inv X pins σ H s)(hf:∀b∈fp,FpOk X pins H b)(ho:∀b∈fp,∃o,s.heap.get? b=some o/\∀v,o.data≠.cell v):Inv X (pins++pinsAt fp s.heap) σ H s:=
 I.pins_of fun p hp=>(iW.mp hp).elim (fun z=>I.pin p (jc _ z)) fun z=>by
  obtain⟨hb,e⟩:=of_pinsAt z
  obtain⟨f0,f1,f2,_⟩:=hf p.1 hb
  obtain⟨o,e',d⟩:=ho p.1 hb
  rw[e]at e';cases e'
  exact⟨e,f0,f1,f2,d⟩
theorem Inv.unpinned{pins pl:List (Addr×Obj)}{σ:St}{H:Hp}{s:Shared}(I:Inv X (pins++pl) σ H s):Inv X pins σ H s:=I.pins_of fun p hp=>I.pin p (jc _ (Jc _ hp))
theorem xM{iter:Expr}{body:List Stmt}{wi:TI}{g:TG}{tb:TS}{pos:Pos}(hp:PassesOwn (model X.prog X.w) X.A X.env X.xe)(hc:X.calm=true)(hi:PI X tg iter wi)(hg:PG X tg g)(hb:PSs X body tb)(hs:∀x,foldedSetIterable iter X.env x=pure x:=by intro _;rfl):PS X (.For tg iter body [] pos) (tFor wi g tb):=by
 intro pins s σ H D I h
 refine wpAny_For (thn (hi pins s σ H _ I h) fun v s1 h1=>thn h1 fun itv s2 h2=> ?_) hs
 obtain⟨it,fp,tn,J,H2,e,I2,T,st2,f2,W,⟨m0,w0⟩,turn⟩:=h2
 subst e
 -- what stays true of the iterator's objects through the loop
 have stat:∀{H':Hp},(∀b∈fp,H' b=none)->∀b∈fp,FpOk X pins H' b:=fun hn b hb=>⟨hn b hb,(f2 b hb).2⟩
 refine codeAny_forLoop_any (fun n s'=>∃i σ' H',Inv X pins σ' H' s'/\tn i s'.heap/\(∀b∈fp,H' b=none)/\W i n σ' H') ?_ m0 ⟨0,σ,H2,I2,st2,fun b hb=>(f2 b hb).1,w0⟩
 rintro n s3 ⟨i,σ3,H3,I3,st3,fr3,w3⟩
 rcases turn i n σ3 H3 w3 with⟨stop,qn⟩|⟨go,N,hN,step⟩
 ·refine TJ hp (thn (T.done X rfl rfl rfl hc i pins s3 σ3 H3 X.xe I3 (stat fr3) st3 stop) fun r s4 ⟨hr,I4⟩=> ?_)
  subst hr
  exact wdr ⟨σ3,H3,I4,qn⟩
 ·refine TJ hp (thn (T.item X rfl rfl rfl hc i pins s3 σ3 H3 X.xe I3 (stat fr3) st3 go) fun r s4 ⟨u,hr,h4⟩=> ?_)
  subst hr
  refine TJ hp (thn h4 fun _ s5 ⟨x,H5,I5,r5,y5,st5,fr5⟩=> ?_)
  have I5':=I5.pinned (stat fr5) (T.obj _ _ st5)
  refine TJ hp (thn (hg _ s5 σ3 H5 x u _ I5' r5 (step x H5 y5)) fun _ s6 ⟨σ6,H6,I6,q6⟩=> ?_)
  refine TJ hp (thn (hb _ s6 σ6 H6 _ I6 q6) fun f s7 q7=> ?_)
  have again:∀{σ7:St} {H7:Hp},Inv X (pins++pinsAt fp s5.heap) σ7 H7 s7->N σ7 H7->∃m,m<n/\∃i σ' H',Inv X pins σ' H' s7/\tn i s7.heap/\(∀b∈fp,H' b=none)/\W i m σ' H':=fun{σ7 H7} I7 n7=>by
   obtain⟨m',hm,w7⟩:=hN σ7 H7 n7
   refine⟨m',hm,i+1,σ7,H7,I7.unpinned,T.keep _ _ _ st5 fun b hb o e=>(I7.pin (b,o) (jc _ (jc _ (mem_pinsAt hb e)))).1,fun b hb=> ?_,w7⟩
   obtain⟨o,e,d⟩:=T.obj _ _ st5 b hb
   exact(I7.pin (b,o) (jc _ (jc _ (mem_pinsAt hb e)))).2.1
  cases f with
  |next=>obtain⟨σ7,H7,I7,n7⟩:=q7;exact again I7 n7
  |cont=>obtain⟨σ7,H7,I7,n7⟩:=q7;exact again I7 n7
  |brk=>obtain⟨σ7,H7,I7,q7⟩:=q7;exact⟨σ7,H7,I7.unpinned,q7⟩
  |ret v=>obtain⟨x7,σ7,H7,I7,r7,q7⟩:=q7;exact⟨x7,σ7,H7,I7.unpinned,r7,q7⟩
end
theorem for_list{K:W.Frag}{a:Addr}{xs:List V}{g:TG}{tb:TS}{D:Ends}{σ:St}{H:Hp}(Pv:Nat->St->Hp->Prop)(h0:Pv 0 σ H)(hl:∀i σ H,i<=xs.length->Pv i σ H->SqL K H a xs)(hs:∀i x σ H,xs[i]? =some x->Pv i σ H->g x σ H fun σ2 H2=>tb {D with nx:=Pv (i+1),ct:=Pv (i+1),bk:=D.nx} σ2 H2)(hd:∀σ H,Pv xs.length σ H->D.nx σ H):
  ∃W:Nat->Nat->St->Hp->Prop,(∃m,W 0 m σ H)/\∀i m σ H,W i m σ H->
   ((Itl K a).stop i H/\D.nx σ H)\/((Itl K a).go i H/\∃N:St->Hp->Prop,(∀σ' H',N σ' H'->∃m',m'<m/\W (i+1) m' σ' H')/\∀x H',(Itl K a).yld i H x H'->g x σ H' fun σ2 H2=>tb {D with nx:=N,ct:=N,bk:=D.nx} σ2 H2):=by
 refine⟨fun i m σ H=>m=xs.length-i/\i<=xs.length/\Pv i σ H,⟨xs.length,by simp,dJ _,h0⟩,?_⟩
 rintro i m σ H ⟨rfl,hi,p⟩
 have q:=hl i σ H hi p
 by_cases hlt:i<xs.length
 ·refine .inr ⟨⟨xs,xs[i],q,by simp[hlt]⟩,Pv (i+1),fun σ' H' p'=>⟨xs.length-(i+1),by omega,rfl,hlt,p'⟩,fun x H' y=> ?_⟩
  obtain⟨e,y⟩:=y
  subst e
  exact hs i x σ _ (y xs q) p
 ·have e:i=xs.length:=by omega
  subst e
  exact .inl ⟨⟨xs,q,aJ _⟩,hd σ H p⟩
theorem for_tup{K:W.Frag}{a:Addr}{xs:List V}{g:TG}{tb:TS}{D:Ends}{σ:St}{H:Hp}(Pv:Nat->St->Hp->Prop)(h0:Pv 0 σ H)(hl:∀i σ H,i<=xs.length->Pv i σ H->SqT K H a xs)(hs:∀i x σ H,xs[i]? =some x->Pv i σ H->g x σ H fun σ2 H2=>tb {D with nx:=Pv (i+1),ct:=Pv (i+1),bk:=D.nx} σ2 H2)(hd:∀σ H,Pv xs.length σ H->D.nx σ H):
  ∃W:Nat->Nat->St->Hp->Prop,(∃m,W 0 m σ H)/\∀i m σ H,W i m σ H->
   ((Itt K a).stop i H/\D.nx σ H)\/((Itt K a).go i H/\∃N:St->Hp->Prop,(∀σ' H',N σ' H'->∃m',m'<m/\W (i+1) m' σ' H')/\∀x H',(Itt K a).yld i H x H'->g x σ H' fun σ2 H2=>tb {D with nx:=N,ct:=N,bk:=D.nx} σ2 H2):=by
 refine⟨fun i m σ H=>m=xs.length-i/\i<=xs.length/\Pv i σ H,⟨xs.length,by simp,dJ _,h0⟩,?_⟩
 rintro i m σ H ⟨rfl,hi,p⟩
 have q:=hl i σ H hi p
 by_cases hlt:i<xs.length
 ·refine .inr ⟨⟨xs,xs[i],q,by simp[hlt]⟩,Pv (i+1),fun σ' H' p'=>⟨xs.length-(i+1),by omega,rfl,hlt,p'⟩,fun x H' y=> ?_⟩
  obtain⟨e,y⟩:=y
  subst e
  exact hs i x σ _ (y xs q) p
 ·have e:i=xs.length:=by omega
  subst e
  exact .inl ⟨⟨xs,q,aJ _⟩,hd σ H p⟩
theorem for_range{lo:Int}{n:Nat}{g:TG}{tb:TS}{D:Ends}{σ:St}{H:Hp}(Pv:Nat->St->Hp->Prop)(h0:Pv 0 σ H)(hs:∀i σ H,i<n->Pv i σ H->g (.int (lo+i)) σ H fun σ2 H2=>tb {D with nx:=Pv (i+1),ct:=Pv (i+1),bk:=D.nx} σ2 H2)(hd:∀σ H,Pv n σ H->D.nx σ H):
  ∃W:Nat->Nat->St->Hp->Prop,(∃m,W 0 m σ H)/\∀i m σ H,W i m σ H->
   ((Itr lo n).stop i H/\D.nx σ H)\/((Itr lo n).go i H/\∃N:St->Hp->Prop,(∀σ' H',N σ' H'->∃m',m'<m/\W (i+1) m' σ' H')/\∀x H',(Itr lo n).yld i H x H'->g x σ H' fun σ2 H2=>tb {D with nx:=N,ct:=N,bk:=D.nx} σ2 H2):=by
 refine⟨fun i m σ H=>m=n-i/\i<=n/\Pv i σ H,⟨n,by simp,dJ _,h0⟩,?_⟩
 rintro i m σ H ⟨rfl,hi,p⟩
 by_cases hlt:i<n
 ·refine .inr ⟨hlt,Pv (i+1),fun σ' H' p'=>⟨n-(i+1),by omega,rfl,hlt,p'⟩,fun x H' y=> ?_⟩
  obtain⟨e,y⟩:=y
  subst e y
  exact hs i σ _ hlt p
 ·have e:i=n:=by omega
  subst e
  exact .inl ⟨aJ _,hd σ H p⟩
abbrev R2:=V->V->Hp->VK->Prop
def OpR(X:Cx)(f:Value->Value->Sem Value)(r:R2):Prop:=
 ∀(pins:List (Addr×Obj)) (s:Shared) (σ:St) (H:Hp) (x y:V) (v u:Value) (Q:VK),Inv X pins σ H s->RelV x v->RelV y u->r x y H Q->
  wpAny (model X.prog X.w) X.A (f v u) (EP X pins σ Q) X.xe s
def UnR(X:Cx)(f:Value->Sem Value)(r:V->Hp->VK->Prop):Prop:=
 ∀(pins:List (Addr×Obj)) (s:Shared) (σ:St) (H:Hp) (x:V) (v:Value) (Q:VK),Inv X pins σ H s->RelV x v->r x H Q->
  wpAny (model X.prog X.w) X.A (f v) (EP X pins σ Q) X.xe s
def CallR(X:Cx)(f:Value)(r:List V->Hp->VK->Prop):Prop:=
 ∀(pins:List (Addr×Obj)) (s:Shared) (σ:St) (H:Hp) (xs:List V) (us:List Value) (Q:VK),Inv X pins σ H s->Vals xs us->r xs H Q->
  wpAny (model X.prog X.w) X.A (call f us) (EP X pins σ Q) X.xe s
def TruR(X:Cx)(r:V->Hp->(Bool->Hp->Prop)->Prop):Prop:=
 ∀(pins:List (Addr×Obj)) (s:Shared) (σ:St) (H:Hp) (x:V) (v:Value) (Q:Bool->Hp->Prop),Inv X pins σ H s->RelV x v->r x H Q->
  wpAny (model X.prog X.w) X.A (truthy v) (TP X pins σ Q) X.xe s
def tOp(r:R2)(ta tb:TE):TE:=fun σ H Q=>ta σ H fun x H1=>tb σ H1 fun y H2=>r x y H2 Q
def tUn(r:V->Hp->VK->Prop)(ta:TE):TE:=fun σ H Q=>ta σ H fun x H1=>r x H1 Q
def rI(C:Int->Int->Prop)(g:Int->Int->V):R2:=fun x y H Q=>∃i j,x= .int i/\y= .int j/\C i j/\Q (g i j) H
def rI0(g:Int->Int->V):R2:=fun x y H Q=>∃i j,x= .int i/\y= .int j/\Q (g i j) H
def rU(g:Int->V):V->Hp->VK->Prop:=fun x H Q=>∃i,x= .int i/\Q (g i) H
section
variable{X:Cx}{a b c:Expr}{ta tb tc:TE}{pos:Pos}
theorem binT(ha:PE X a ta)(hb:PE X b tb){pins:List (Addr×Obj)}{s:Shared}{σ:St}{H:Hp}{R:V->V->Hp->Prop}(I:Inv X pins σ H s)(h:ta σ H fun x H1=>tb σ H1 fun y H2=>R x y H2){Q:Value->Shared->Prop}{f:Value->Value->Sem Value}(hf:∀v u s2 x y H2,Inv X pins σ H2 s2->RelV x v->RelV y u->R x y H2->wpAny (model X.prog X.w) X.A (f v u) Q X.xe s2):
  wpAny (model X.prog X.w) X.A (eval a X.env) (fun v s₁=>wpAny (model X.prog X.w) X.A (eval b X.env) (fun u s₂=>wpAny (model X.prog X.w) X.A (f v u) Q X.xe s₂) X.xe s₁) X.xe s:=by
 refine thn (ha pins s σ H _ I h) fun v s1 ⟨x,H1,I1,r1,q1⟩=> ?_
 refine thn (hb pins s1 σ H1 _ I1 q1) fun u s2 ⟨y,H2,I2,r2,q2⟩=> ?_
 exact hf v u s2 x y H2 I2 r1 r2 q2
theorem bN{op:Operator}{r:R2}(ho:OpR X (binaryOp op) r)(ha:PE X a ta)(hb:PE X b tb):PE X (.BinOp a op b pos) (tOp r ta tb):=by
 intro pins s σ H Q I h
 exact wpAny_BinOp (binT ha hb I h fun v u s2 x y H2 I2 rx ry q=>ho pins s2 σ H2 x y v u Q I2 rx ry q)
theorem pe_un{op:UnaryOp}{r:V->Hp->VK->Prop}(ho:UnR X (unaryOp op) r)(ha:PE X a ta):PE X (.UnaryOp op a pos) (tUn r ta):=by
 intro pins s σ H Q I h
 exact UnaryOp_ (thn (ha pins s σ H _ I h) fun v s1 ⟨x,H1,I1,r1,q1⟩=>ho pins s1 σ H1 x v Q I1 r1 q1)
theorem opI{f:Value->Value->Sem Value}{C:Int->Int->Prop}{g:Int->Int->Int}(rule:∀(i j:Int) (t u:Tok) (s:Shared) (Q:Value->Shared->Prop) (E:Value->Shared->Prop),C i j->Q (.int (g i j) s.toks) {s with toks:=s.toks+1}->wpAny (model X.prog X.w) X.A (f (.int i t) (.int j u)) Q E s):
  OpR X f (rI C fun i j=> .int (g i j)):=by
 intro pins s σ H x y v u Q I rx ry h
 obtain⟨i,j,rfl,rfl,hc,q⟩:=h
 obtain⟨t,rfl⟩:=rx
 obtain⟨t',rfl⟩:=ry
 exact rule i j t t' s _ _ hc ⟨.int (g i j),H,I.tok _,⟨_,rfl⟩,q⟩
theorem opI0{f:Value->Value->Sem Value}{g:Int->Int->Int}(rule:∀(i j:Int) (t u:Tok) (s:Shared) (Q:Value->Shared->Prop) (E:Value->Shared->Prop),Q (.int (g i j) s.toks) {s with toks:=s.toks+1}->wpAny (model X.prog X.w) X.A (f (.int i t) (.int j u)) Q E s):
  OpR X f (rI0 fun i j=> .int (g i j)):=by
 intro pins s σ H x y v u Q I rx ry h
 obtain⟨i,j,rfl,rfl,q⟩:=h
 obtain⟨t,rfl⟩:=rx
 obtain⟨t',rfl⟩:=ry
 exact rule i j t t' s _ _ ⟨.int (g i j),H,I.tok _,⟨_,rfl⟩,q⟩
theorem opB0{f:Value->Value->Sem Value}{g:Int->Int->Bool}(rule:∀(i j:Int) (t u:Tok) (s:Shared) (Q:Value->Shared->Prop) (E:Value->Shared->Prop),Q (.bool (g i j)) s->wpAny (model X.prog X.w) X.A (f (.int i t) (.int j u)) Q E s):
  OpR X f (rI0 fun i j=> .bl (g i j)):=by
 intro pins s σ H x y v u Q I rx ry h
 obtain⟨i,j,rfl,rfl,q⟩:=h
 obtain⟨t,rfl⟩:=rx
 obtain⟨t',rfl⟩:=ry
 exact rule i j t t' s _ _ ⟨.bl (g i j),H,I,rfl,q⟩
def CPow(i j:Int):Prop:=0<=j/\j<=1000000/\i.natAbs<2^64
def CMul(i j:Int):Prop:=(-(2^64)<i/\i<2^64)\/(-(2^64)<j/\j<2^64)
theorem CMul.ok{i j:Int}(h:CMul i j):IntMulOk i j:=by
 rcases h with⟨h1,h2⟩|⟨h1,h2⟩
 ·exact .of_left (intBits_le_64 h1 h2)
 ·exact .of_right (intBits_le_64 h1 h2)
theorem qy:OpR X (binaryOp .Add) (rI0 fun i j=> .int (i+j)):=opI0 fun _ _ _ _ _ _ _ q=>add_int q
theorem op_sub:OpR X (binaryOp .Sub) (rI0 fun i j=> .int (i-j)):=opI0 fun _ _ _ _ _ _ _ q=>sub_int q
theorem p8:OpR X (binaryOp .Mult) (rI CMul fun i j=> .int (i*j)):=opI fun _ _ _ _ _ _ _ hc q=>mul_int q hc.ok
theorem op_mod:OpR X (binaryOp .Mod) (rI (fun _ j=>0<j) fun i j=> .int (i %j)):=opI fun i j _ _ _ _ _ hc q=>by
 have h1:(0:Int)<j:=hc
 exact mod_int' (by omega) (by rw[Int.fmod_eq_emod_of_nonneg i (by omega)];exact q)
theorem op_pow:OpR X (binaryOp .Pow) (rI CPow fun i j=> .int (i^j.toNat)):=opI fun _ _ _ _ _ _ _ hc q=>pow_int_small hc.1 hc.2.1 hc.2.2 q
theorem unI{f:Value->Sem Value}{g:Int->Int}(rule:∀(i:Int) (t:Tok) (s:Shared) (Q:Value->Shared->Prop) (E:Value->Shared->Prop),Q (.int (g i) s.toks) {s with toks:=s.toks+1}->wpAny (model X.prog X.w) X.A (f (.int i t)) Q E s):
  UnR X f (rU fun i=> .int (g i)):=by
 intro pins s σ H x v Q I rx h
 obtain⟨i,rfl,q⟩:=h
 obtain⟨t,rfl⟩:=rx
 exact rule i t s _ _ ⟨.int (g i),H,I.tok _,⟨_,rfl⟩,q⟩
theorem un_neg:UnR X (unaryOp .USub) (rU fun i=> .int (-i)):=unI fun _ _ _ _ _ q=>neg_int q
end
def scal:V->V->Bool
 | .non,.non=>true| .non,.int _=>true| .int _,.non=>true| .non,.bl _=>true| .bl _,.non=>true| .non,.str _=>true| .str _,.non=>true
 | .int _,.int _=>true| .bl _,.bl _=>true| .str _,.str _=>true| .byt _,.byt _=>true
 | .int _,.str _=>true| .str _,.int _=>true| .bl _,.str _=>true| .str _,.bl _=>true
 |_,_=>false
def rEq:R2:=fun x y H Q=>scal x y=true/\Q (.bl (decide (x=y))) H
def rNe:R2:=fun x y H Q=>scal x y=true/\Q (.bl (!decide (x=y))) H
theorem dec_int{i j:Int}:decide (V.int i=V.int j)=(i==j):=by
 rw[Al]
 simp
theorem dec_bl{i j:Bool}:decide (V.bl i=V.bl j)=(i==j):=by
 rw[Al]
 simp
theorem dec_str{i j:Str}:decide (V.str i=V.str j)=(i==j):=by
 rw[Al]
 simp
theorem dec_byt{i j:Array UInt8}:decide (V.byt i=V.byt j)=(i.toList==j.toList):=by
 rw[Al]
 cases i
 cases j
 simp
section
variable{X:Cx}{a b c:Expr}{ta tb tc:TE}{pos:Pos}
theorem lM{pins:List (Addr×Obj)}{σ:St}{H:Hp}{s:Shared}{Q:VK}{k k':Bool}(I:Inv X pins σ H s)(q:Q (.bl k) H)(e:k=k'):EP X pins σ Q (.bool k') s:=by
 subst e
 exact⟨.bl k,H,I,rfl,q⟩
theorem op_eq:OpR X (compareOp .Eq) rEq:=by
 intro pins s σ H x y v u Q I rx ry h
 obtain⟨hs,q⟩:=h
 cases x with
 |non=>
  cases rx
  cases y with
  |non=>cases ry;exact PySem.EqNone.eq_none_none (lM I q (by simp))
  |bl j=>cases ry;exact PySem.EqNone.eq_none_bool (lM I q (by simp))
  |int j=>obtain⟨t',rfl⟩:=ry;exact PySem.EqNone.eq_none_int (lM I q (by simp))
  |str j=>obtain⟨t',rfl⟩:=ry;exact PySem.EqNone.eq_none_str (lM I q (by simp))
  |_=>exact absurd (show false=true from hs) qN
 |bl i=>
  cases rx
  cases y with
  |non=>cases ry;exact PySem.EqNone.eq_bool_none (lM I q (by simp))
  |bl j=>cases ry;exact eq_bool (lM I q dec_bl)
  |str j=>obtain⟨t',rfl⟩:=ry;exact PySem.EqMixed.eq_bool_str (lM I q (by simp))
  |_=>exact absurd (show false=true from hs) qN
 |int i=>
  obtain⟨t,rfl⟩:=rx
  cases y with
  |non=>cases ry;exact PySem.EqNone.eq_int_none (lM I q (by simp))
  |int j=>obtain⟨t',rfl⟩:=ry;exact eq_int (lM I q dec_int)
  |str j=>obtain⟨t',rfl⟩:=ry;exact PySem.EqMixed.eq_int_str (lM I q (by simp))
  |_=>exact absurd (show false=true from hs) qN
 |str i=>
  obtain⟨t,rfl⟩:=rx
  cases y with
  |non=>cases ry;exact PySem.EqNone.eq_str_none (lM I q (by simp))
  |bl j=>cases ry;exact PySem.EqMixed.eq_str_bool (lM I q (by simp))
  |int j=>obtain⟨t',rfl⟩:=ry;exact PySem.EqMixed.eq_str_int (lM I q (by simp))
  |str j=>obtain⟨t',rfl⟩:=ry;exact eq_str (lM I q dec_str)
  |_=>exact absurd (show false=true from hs) qN
 |byt i=>
  obtain⟨t,rfl⟩:=rx
  cases y with
  |byt j=>obtain⟨t',rfl⟩:=ry;exact PySem.W.eq_bytes (lM I q dec_byt)
  |_=>exact absurd (show false=true from hs) qN
 |_=>cases y<;>exact absurd (show false=true from hs) qN
theorem op_ne:OpR X (compareOp .NotEq) rNe:=by
 intro pins s σ H x y v u Q I rx ry h
 obtain⟨hs,q⟩:=h
 cases x with
 |non=>
  cases rx
  cases y with
  |non=>cases ry;exact PySem.EqNone.ne_none_none (lM I q (by simp))
  |bl j=>cases ry;exact PySem.EqNone.ne_none_bool (lM I q (by simp))
  |int j=>obtain⟨t',rfl⟩:=ry;exact PySem.EqNone.ne_none_int (lM I q (by simp))
  |str j=>obtain⟨t',rfl⟩:=ry;exact PySem.EqNone.ne_none_str (lM I q (by simp))
  |_=>exact absurd (show false=true from hs) qN
 |bl i=>
  cases rx
  cases y with
  |non=>cases ry;exact PySem.EqNone.ne_bool_none (lM I q (by simp))
  |bl j=>cases ry;exact ne_bool (lM I q (jy not dec_bl))
  |str j=>obtain⟨t',rfl⟩:=ry;exact PySem.EqMixed.ne_bool_str (lM I q (by simp))
  |_=>exact absurd (show false=true from hs) qN
 |int i=>
  obtain⟨t,rfl⟩:=rx
  cases y with
  |non=>cases ry;exact PySem.EqNone.ne_int_none (lM I q (by simp))
  |int j=>obtain⟨t',rfl⟩:=ry;exact ne_int (lM I q (jy not dec_int))
  |str j=>obtain⟨t',rfl⟩:=ry;exact PySem.EqMixed.ne_int_str (lM I q (by simp))
  |_=>exact absurd (show false=true from hs) qN
 |str i=>
  obtain⟨t,rfl⟩:=rx
  cases y with
  |non=>cases ry;exact PySem.EqNone.ne_str_none (lM I q (by simp))
  |bl j=>cases ry;exact PySem.EqMixed.ne_str_bool (lM I q (by simp))
  |int j=>obtain⟨t',rfl⟩:=ry;exact PySem.EqMixed.ne_str_int (lM I q (by simp))
  |str j=>obtain⟨t',rfl⟩:=ry;exact ne_str (lM I q (jy not dec_str))
  |_=>exact absurd (show false=true from hs) qN
 |byt i=>
  obtain⟨t,rfl⟩:=rx
  cases y with
  |byt j=>obtain⟨t',rfl⟩:=ry;exact PySem.W.ne_bytes (lM I q (jy not dec_byt))
  |_=>exact absurd (show false=true from hs) qN
 |_=>cases y<;>exact absurd (show false=true from hs) qN
theorem op_lt:OpR X (compareOp .Lt) (rI0 fun i j=> .bl (decide (i<j))):=opB0 fun _ _ _ _ _ _ _ q=>lt_int q
theorem op_le:OpR X (compareOp .LtE) (rI0 fun i j=> .bl (decide (i<=j))):=opB0 fun _ _ _ _ _ _ _ q=>le_int q
theorem op_gt:OpR X (compareOp .Gt) (rI0 fun i j=> .bl (decide (j<i))):=opB0 fun _ _ _ _ _ _ _ q=>gt_int q
theorem op_ge:OpR X (compareOp .GtE) (rI0 fun i j=> .bl (decide (j<=i))):=opB0 fun _ _ _ _ _ _ _ q=>ge_int q
theorem op_isN:OpR X (compareOp .Is) (fun x y H Q=>y= .non/\Q (.bl (decide (x= .non))) H):=by
 intro pins s σ H x y v u Q I rx ry h
 obtain⟨rfl,q⟩:=h
 cases ry
 refine is_none_gen (lM I q ?_)
 cases x<;>first
  |(cases rx;rfl)
  |(obtain⟨t,rfl⟩:=rx;rfl)
theorem op_notN:OpR X (compareOp .IsNot) (fun x y H Q=>y= .non/\Q (.bl (!decide (x= .non))) H):=by
 intro pins s σ H x y v u Q I rx ry h
 obtain⟨rfl,q⟩:=h
 cases ry
 refine isnot_none_gen (lM I q ?_)
 cases x<;>first
  |(cases rx;rfl)
  |(obtain⟨t,rfl⟩:=rx;rfl)
theorem OpR.or{f:Value->Value->Sem Value}{r r':R2}(h:OpR X f r)(h':OpR X f r'):OpR X f (fun x y H Q=>r x y H Q\/r' x y H Q):=by
 intro pins s σ H x y v u Q I rx ry q
 rcases q with q|q
 ·exact h pins s σ H x y v u Q I rx ry q
 ·exact h' pins s σ H x y v u Q I rx ry q
theorem nomark(b:Expr){op:CmpOp}(h:op≠.In:=by decide)(h2:op≠.NotIn:=by decide):behindInMarks op b=false:=by
 have e1:(op==CmpOp.In)=false:=by cases op<;>first |rfl|exact absurd rfl h
 have e2:(op==CmpOp.NotIn)=false:=by cases op<;>first |rfl|exact absurd rfl h2
 cases b<;>simp[behindInMarks,e1,e2]
theorem pe_cmpR{op:CmpOp}{r:R2}(ho:OpR X (compareOp op) r)(ha:PE X a ta)(hb:PE X b tb)(hm:behindInMarks op b=false):PE X (.Compare a [op] [b] pos) (tOp r ta tb):=by
 intro pins s σ H Q I h
 exact wpAny_Compare1 (binT ha hb I h fun v u s2 x y H2 I2 rx ry q=>ho pins s2 σ H2 x y v u Q I2 rx ry q) hm
def tTest(t:TE):TT:=fun σ H Q=>t σ H fun x H'=>∃k,x= .bl k/\Q k H'
theorem kj{op:CmpOp}{r:R2}(ho:OpR X (compareOp op) r)(ha:PE X a ta)(hb:PE X b tb)(hm:behindInMarks op b=false):PT X (.Compare a [op] [b] pos) (tTest (tOp r ta tb)):=by
 intro pins s σ H Q I h
 refine wpAny_isTrue_Compare1 (thn (ha pins s σ H _ I h) fun v s1 ⟨x,H1,I1,r1,q1⟩=>thn (hb pins s1 σ H1 _ I1 q1) fun u s2 ⟨y,H2,I2,r2,q2⟩=>
  thn (ho pins s2 σ H2 x y v u _ I2 r1 r2 q2) fun c s3 ⟨z,H3,I3,r3,k,e,q3⟩=> ?_) hm
 subst e
 cases r3
 exact Ji ⟨H3,I3,q3⟩
def tChain(r r':R2)(ta tb tc:TE):TE:=fun σ H Q=>ta σ H fun x H1=>tb σ H1 fun y H2=>r x y H2 fun z H3=>∃k,z= .bl k/\
 (if k=true then tc σ H3 fun w' H4=>r' y w' H4 Q else Q (.bl false) H3)
theorem pe_chain{op op':CmpOp}{r r':R2}(ho:OpR X (compareOp op) r)(ho':OpR X (compareOp op') r')(ha:PE X a ta)(hb:PE X b tb)(hc:PE X c tc)(hm:lastMarks [op,op'] [b,c]=false:=by with_unfolding_all rfl):PE X (.Compare a [op,op'] [b,c] pos) (tChain r r' ta tb tc):=by
 intro pins s σ H Q I h
 refine Compare_chain (thn (ha pins s σ H _ I h) fun v s1 ⟨x,H1,I1,r1,q1⟩=>chain_link (thn (hb pins s1 σ H1 _ I1 q1) fun u s2 ⟨y,H2,I2,r2,q2⟩=>
  thn (ho pins s2 σ H2 x y v u _ I2 r1 r2 q2) fun d s3 ⟨z,H3,I3,r3,k,e,q3⟩=> ?_)) hm
 subst e
 cases r3
 refine Ji ?_
 cases k with
 |false=>exact ite_ff ⟨.bl false,H3,I3,rfl,q3⟩
 |true=>exact ite_tt (chain_last (thn (hc pins s3 σ H3 _ I3 q3) fun w' s4 ⟨z',H4,I4,r4,q4⟩=>ho' pins s4 σ H4 y z' u w' Q I4 r2 r4 q4))
def TruV(K:W.Frag)(x:V)(H:Hp)(k:Bool):Prop:=
 match x with
 | .non=>k=false
 | .bl b=>k=b
 | .int i=>k=(i !=0)
 | .str y=>y.length<=sizeLine/\k=((y.length:Int) !=0)
 | .byt y=>y.size<=sizeLine/\k=((y.size:Int) !=0)
 | .ref p=>(∃xs,SqL K H p xs/\k= !xs.isEmpty)\/(∃xs,SqT K H p xs/\k= !xs.isEmpty)\/∃kvs,H p=some (.dK kvs)/\k= !kvs.isEmpty
 |_=>False
theorem isEmpty_kv{κ:Type}{kvs:List (κ×V)}{vs:List (κ×Value)}(r:KV kvs vs):(!vs.isEmpty)= !kvs.isEmpty:=by
 cases r<;>rfl
theorem isEmpty_of{xs:List V}{its:List Value}(r:Vals xs its):(!its.toArray.isEmpty)= !xs.isEmpty:=by
 cases r<;>simp
theorem line63:(sizeLine:Nat)<2^63:=by rw[gB];decide
theorem tru_ok:TruR X (fun x H Q=>∃k,TruV X.K x H k/\Q k H):=by
 intro pins s σ H x v Q I rx h
 obtain⟨k,e,q⟩:=h
 have hl:=line63
 have hs:sizeLine=16777216:=gB
 cases x with
 |non=>
  cases rx
  have e':k=false:=e
  subst e'
  exact truthy_none ⟨H,I,q⟩
 |bl b=>
  cases rx
  have e':k=b:=e
  subst e'
  exact Ji ⟨H,I,q⟩
 |int i=>
  obtain⟨t,rfl⟩:=rx
  have e':k=(i !=0):=e
  subst e'
  exact PySem.P.truthy_int ⟨H,I,q⟩
 |str y=>
  obtain⟨t,rfl⟩:=rx
  obtain⟨hy,e'⟩:y.length<=sizeLine/\k=((y.length:Int) !=0):=e
  subst e'
  exact PySem.P.truthy_str (by omega) ⟨H,I.tok _,q⟩
 |byt y=>
  obtain⟨t,rfl⟩:=rx
  obtain⟨hy,e'⟩:y.size<=sizeLine/\k=((y.size:Int) !=0):=e
  subst e'
  exact PySem.W.truthy_bytes (by omega) ⟨H,I.tok _,q⟩
 |ref p=>
  cases rx
  have e':(∃xs,SqL X.K H p xs/\k= !xs.isEmpty)\/(∃xs,SqT X.K H p xs/\k= !xs.isEmpty)\/∃kvs,H p=some (.dK kvs)/\k= !kvs.isEmpty:=e
  rcases e' with⟨xs,hx,e'⟩|⟨xs,hx,e'⟩|⟨kvs,hx,e'⟩
  ·subst e'
   obtain⟨its,r,pl,hz⟩:=I.list hx
   have hlen:=r.length
   exact wpAny_truthy_list pl.isList (by simp only[fL];omega) ⟨H,I.tok _,by rw[isEmpty_of r];exact q⟩
  ·subst e'
   obtain⟨its,r,pl,hz⟩:=I.tuple hx
   have hlen:=r.length
   exact truthy_tuple pl (by simp only[fL];omega) ⟨H,I.tok _,by rw[isEmpty_of r];exact q⟩
  ·subst e'
   obtain⟨hz,hS,vs,r,m⟩:kvs.length<=sizeLine/\(p==sysModules)=false/\∃vs,KV kvs vs/\s.heap.DictOf (mixKind X.prog X.w) p vs:=I.hok p _ hx
   have hlen:kvs.length=vs.length:=wfb r
   exact wpAny_truthy_dict hS m (by omega) ⟨H,I.tok _,by rw[isEmpty_kv r];exact q⟩
 |_=>exact(show False from e).elim
theorem pt_truth(ha:PE X a ta)(he:∀whole,isTrue a X.env whole=(do let v<-whole;standAt a.pos;holding [v] (truthy v))):
  PT X a (fun σ H Q=>ta σ H fun x H'=>∃k,TruV X.K x H' k/\Q k H'):=by
 intro pins s σ H Q I h
 exact isTrue_plain (thn (ha pins s σ H _ I h) fun v s1 ⟨x,H1,I1,r1,q1⟩=>tru_ok pins s1 σ H1 x v Q I1 r1 q1) (he _)
theorem vals1{x:V}{us:List Value}(r:Vals [x] us):∃u,us=[u]/\RelV x u:=by
 cases r with
 |cons r1 r2=>cases r2;exact⟨_,rfl,r1⟩
theorem vals2{x y:V}{us:List Value}(r:Vals [x,y] us):∃u w',us=[u,w']/\RelV x u/\RelV y w':=by
 cases r with
 |cons r1 r2=>
  cases r2 with
  |cons r3 r4=>cases r4;exact⟨_,_,rfl,r1,r3⟩
theorem call_abs:CallR X (.builtin "abs") (fun xs H Q=>∃i,xs=[.int i]/\Q (.int (if i<0 then -i else i)) H):=by
 intro pins s σ H xs us Q I r h
 obtain⟨i,rfl,q⟩:=h
 obtain⟨u,rfl,t,rfl⟩:=vals1 r
 exact call_abs_int fun u tk=>⟨.int (if i<0 then -i else i),H,I.tok _,⟨_,rfl⟩,q⟩
theorem call_max2(hc:X.calm=true):CallR X (.builtin "max") (fun xs H Q=>∃i j,xs=[.int i,.int j]/\Q (.int (if j>i then j else i)) H):=by
 intro pins s σ H xs us Q I r h
 obtain⟨i,j,rfl,q⟩:=h
 obtain⟨u,w',rfl,⟨t,rfl⟩,⟨t',rfl⟩⟩:=vals2 r
 refine max_two_ints (I.ok.hd hc) fun h' tk k=>⟨_,H,I.kept k,?_,q⟩
 by_cases hj:j>i
 ·rw[ao hj,ao hj];exact⟨_,rfl⟩
 ·rw[ak hj,ak hj];exact⟨_,rfl⟩
theorem call_min2(hc:X.calm=true):CallR X (.builtin "min") (fun xs H Q=>∃i j,xs=[.int i,.int j]/\Q (.int (if j<i then j else i)) H):=by
 intro pins s σ H xs us Q I r h
 obtain⟨i,j,rfl,q⟩:=h
 obtain⟨u,w',rfl,⟨t,rfl⟩,⟨t',rfl⟩⟩:=vals2 r
 refine min_two_ints (I.ok.hd hc) fun h' tk k=>⟨_,H,I.kept k,?_,q⟩
 by_cases hj:j<i
 ·rw[ao hj,ao hj];exact⟨_,rfl⟩
 ·rw[ak hj,ak hj];exact⟨_,rfl⟩
end
structure ObjM(h:Heap)(x dx C:Addr)(mA:Str->Option Value):Prop where
 obj:h.get? x=some (PySem.W.instObj C dx)
 ns:h.Ns1 dx mA
 ne:dx≠x
theorem lookIn_ns{h:Heap}{dx:Addr}{mA:Str->Option Value}(n:h.Ns1 dx mA):∃od,h.get? dx=some od/\∀name,PySem.W.lookIn name od=some (mA name):=by
 obtain⟨o,es,ep,ho,hd,hk,_,hm⟩:=n
 refine⟨o,ho,fun name=> ?_⟩
 have e:=hm name
 unfold nsFind findBy at e
 rw[<-Array.find?_toList]at e
 unfold PySem.W.lookIn
 rw[hd]
 dsimp only
 split
 ·rename_i y q
  rw[q]at e
  exact jy some e
 ·rename_i q
  rw[q]at e
  have a:es.toList.any (·.refKey)=false:=by
   rw[NP]
   intro y hy
   obtain⟨z,t,hkey⟩:=hk y (Array.mem_toList_iff.mp hy)
   simp[DictEntry.refKey,hkey]
  have a':¬es.toList.any (·.refKey)=true:=by rw[a];exact qN
  rw[ak a']
  exact jy some e
theorem ObjM.look{h:Heap}{x dx C:Addr}{mA:Str->Option Value}(I:ObjM h x dx C mA):∃od,PySem.W.InstAt h x (PySem.W.instObj C dx) C (some od)/\∀name,PySem.W.lookIn name od=some (mA name):=
 let⟨od,ho,hl⟩:=lookIn_ns I.ns
 ⟨od,⟨I.obj,rfl,rfl,ho⟩,hl⟩
section
variable{prog:Program}{w:World}{A:Around}{E:Value->Shared->Prop}{s:Shared}{K:W.Frag}{x dx C f:Addr}{mA:Str->Option Value}{name:Str}{v:Value}
theorem get_map{expr:Bool}{Q:Value->Shared->Prop}(X:K.In s.heap)(I:ObjM s.heap x dx C mA)(hg:PySem.W.plainGet K C name=true)(hh:PySem.W.hasDictIn K C=true)(ha:PySem.W.findIn K (.ref C) name=some none)(hv:mA name=some v)(hv':PySem.W.handedIn v=true)(h:Q v {s with toks:=s.toks+1}):
  wpAny (model prog w) A (getAttr (.ref x) name expr) Q E s:=by
 obtain⟨od,J,hl⟩:=I.look
 exact PySem.W.get_value X J (wds hg).1 (PySem.W.findObj_own hh ha rfl (by rw[hl,hv])) hv' h
theorem get_meth{pl:Sem Bool}{Q:Value×List Value->Shared->Prop}(X:K.In s.heap)(I:ObjM s.heap x dx C mA)(hg:PySem.W.plainGet K C name=true)(hf:PySem.W.findIn K (.ref C) name=some (some (.ref f)))(ht:PySem.W.isFn K (.ref f)=true)(hv:mA name=none)(h:Q (.ref f,[.ref x]) s):
  wpAny (model prog w) A (getMethod (.ref x) name pl) Q E s:=by
 obtain⟨od,J,hl⟩:=I.look
 exact PySem.W.method_fn X J (wds hg).1 (wds hg).2 hf (beq_iff_eq.mp ht) (by show(PySem.W.lookIn name od).map (·.isSome)=some false;rw[hl,hv];rfl) h
theorem set_map{ns:List Str}{Q:Unit->Shared->Prop}(X:K.In s.heap)(I:ObjM s.heap x dx C mA)(hs:PySem.W.findIn K (.ref C) "__setattr__"=some (some (.builtin "object.__setattr__")))(hp:PySem.W.plainOver K C=true)(ht:PySem.W.takerIn K C name=some none)(hh:PySem.W.hasDictIn K C=true)(hw:PySem.Within mA ns)(hsz:ns.length<=sizeLine)(h:∀h',ObjM h' x dx C (fun y=>if y=name then some v else mA y)->Heap.SameBut dx s.heap h'->Q () {s with heap:=h',toks:=s.toks+2}):
  wpAny (model prog w) A (setAttr (.ref x) name v) Q E s:=by
 obtain⟨od,J,hl⟩:=I.look
 refine PySem.W.set_plain X J hs (PySem.W.osa_open (s:={s with toks:=s.toks+1}) (r:=none) X J hp ht fun b=> ?_)
 obtain⟨cd,hc,hd'⟩:=PySem.W.any_some hh
 have hx:s.heap.get? x=some ⟨.ref C,some dx,.plain,#[]⟩:=I.obj
 refine aA (bC (aA (aA (wpAny_loadPart hx (aA (PySem.W.Looks.here (s:={s with toks:=s.toks+1}) (PySem.W.looks_clsIn X hc) ?_))))))
 rw[hd']
 refine bC (a:=some dx) (aA (bC (aA ?_)))
 refine wpAny_nsSet1 (s:={s with toks:=s.toks+1}) I.ns fun h' hn2 hs2=> ?_
 obtain⟨oD,esD,epD,hoD,hdD,hcD⟩:=hn2.count (PySem.Within.cons name v hw)
 refine aA (wpAny_lookBehind hoD (by rw[hdD];exact pastItsLine_dict (bZ hcD (by rw[rD];omega))) ?_)
 exact bC (h _ ⟨(hs2.2 _ (lO I.ne)).trans I.obj,hn2,I.ne⟩ hs2)
theorem make_map{R:Result->Shared->Prop}{vs:List Value}{kw:List (Str×Value)}(X:K.In s.heap)(hm:PySem.W.makesIn K C=true)(hi:PySem.W.findIn K (.ref C) "__init__"=some (some (.ref f)))(hf:PySem.W.typeIn K (.ref f)=some (.type "function"))(h:codeAny (model prog w) (A.under (.builtin "type.__call__" ⟨.ref C::vs,kw⟩)) (.call (.ref f) ⟨.ref (s.heap.objs.size+1)::vs,kw⟩) (PySem.W.InitBack (s.heap.objs.size+1) R)
   {s with heap:=(s.heap.push PySem.W.emptyDict).push (PySem.W.instObj C s.heap.objs.size)}):
  codeAny (model prog w) A (.call (.ref C) ⟨vs,kw⟩) R s:=by
 obtain⟨hh,g,d,t,os⟩:=s
 exact PySem.W.make_core (PySem.W.makes_of X hm) (PySem.W.looks_findIn X hi) (fun self=>PySem.W.bind_fn X self hf) (.inl rfl) h
end
def putF(f:Str)(v:V):List (Str×V)->List (Str×V)
 |[]=>[(f,v)]
 |(g,x)::r=>if g=f then(g,v)::r else(g,x)::putF f v r
theorem lookup_putF(f g:Str)(v:V):∀fs:List (Str×V),(putF f v fs).lookup g=if g=f then some v else fs.lookup g
 |[]=>by
  show List.lookup g [(f,v)]=_
  by_cases h:g=f
  ·have hb:(g==f)=true:=beq_iff_eq.mpr h
   simp only[List.lookup,hb,ao h]
  ·have hb:(g==f)=false:=beq_eq_false_iff_ne.mpr h
   simp only[List.lookup,hb,ak h]
 |(k,x)::r=>by
  have ih:=lookup_putF f g v r
  rw[show putF f v ((k,x)::r)=(if k=f then(k,v)::r else(k,x)::putF f v r)from rfl]
  by_cases hk:k=f
  ·rw[ao hk]
   by_cases h:g=k
   ·have hb:(g==k)=true:=beq_iff_eq.mpr h
    simp only[List.lookup,hb,ao (h.trans hk)]
   ·have hb:(g==k)=false:=beq_eq_false_iff_ne.mpr h
    simp only[List.lookup,hb,ak (fun e:g=f=>h (e.trans hk.symm))]
  ·rw[ak hk]
   by_cases h:g=k
   ·have hb:(g==k)=true:=beq_iff_eq.mpr h
    simp only[List.lookup,hb,ak (fun e:g=f=>hk (h.symm.trans e))]
   ·have hb:(g==k)=false:=beq_eq_false_iff_ne.mpr h
    simp only[List.lookup,hb]
    exact ih
theorem keys_putF(f:Str)(v:V):∀fs:List (Str×V),f∈(putF f v fs).map (·.1)/\∀g,g∈fs.map (·.1)->g∈(putF f v fs).map (·.1)
 |[]=>⟨by simp[putF],fun g h=>by simp at h⟩
 |(k,x)::r=>by
  obtain⟨i1,i2⟩:=keys_putF f v r
  rw[show putF f v ((k,x)::r)=(if k=f then(k,v)::r else(k,x)::putF f v r)from rfl]
  by_cases hk:k=f
  ·rw[ao hk]
   subst hk
   exact⟨by simp,fun g h=>by simpa using h⟩
  ·rw[ak hk]
   refine⟨?_,fun g h=> ?_⟩
   ·rw[qM]
    exact eE _ i1
   ·rw[qM]at h⊢
    rcases cW.mp h with e|e
    ·exact cW.mpr (.inl e)
    ·exact eE _ (i2 g e)
theorem length_putF(f:Str)(v:V):∀fs:List (Str×V),(putF f v fs).length<=fs.length+1
 |[]=>by simp[putF]
 |(k,x)::r=>by
  have ih:=length_putF f v r
  rw[show putF f v ((k,x)::r)=(if k=f then(k,v)::r else(k,x)::putF f v r)from rfl]
  by_cases hk:k=f
  ·rw[ao hk,rD,rD];omega
  ·rw[ak hk,rD,rD];omega
theorem RelO.some_of{v:V}{o:Option Value}(r:RelO (some v) o):∃u,o=some u/\RelV v u:=by
 cases o with
 |none=>exact(show False from r).elim
 |some u=>exact⟨u,rfl,r⟩
theorem RelO.none_of{o:Option Value}(r:RelO none o):o=none:=by
 cases o with
 |none=>rfl
 |some u=>exact(show False from r).elim
theorem handed_of{v:V}{u:Value}(r:RelV v u):PySem.W.handedIn u=true:=by
 cases v with
 |non=>cases(show u=Value.none from r);rfl
 |bl b=>cases(show u=Value.bool b from r);rfl
 |int i=>obtain⟨t,e⟩:=(show∃t,u=Value.int i t from r);cases e;rfl
 |str x=>obtain⟨t,e⟩:=(show∃t,u=Value.str x t from r);cases e;rfl
 |byt b=>obtain⟨t,e⟩:=(show∃t,u=Value.bytes b t from r);cases e;rfl
 |flt b=>obtain⟨t,e⟩:=(show∃t,u=Value.float b t from r);cases e;rfl
 |ref a=>cases(show u=Value.ref a from r);rfl
 |ty n=>cases(show u=Value.type n from r);rfl
section
variable{P:Program}{w:World}{H H':Hp}{h h':Heap}{a C dx:Addr}{fs fs':List (Str×V)}
theorem ins_get(hok:HOk P w H h)(e:H a=some (.ins C dx fs)):∃mA,ObjM h a dx C mA/\(∀f,RelO (fs.lookup f) (mA f))/\PySem.Within mA (fs.map (·.1))/\fs.length<=1000/\H dx=some (.own a):=by
 obtain⟨d,z,ne,ob,mA,n,r,q⟩:=(show ObjOk P w H h a (.ins C dx fs)from hok a _ e)
 exact⟨mA,⟨ob,n,ne⟩,r,q,z,d⟩
end
structure Cls(K:W.Frag)(C:Addr):Prop where
 pg:PySem.W.plainGet K C Str.empty=true
 hd:PySem.W.hasDictIn K C=true
 po:PySem.W.plainOver K C=true
 sa:PySem.W.findIn K (.ref C) "__setattr__"=some (some (.builtin "object.__setattr__"))
theorem Cls.get{K:W.Frag}{C:Addr}(c:Cls K C)(f:Str):PySem.W.plainGet K C f=true:=c.pg
def NoAttr(K:W.Frag)(C:Addr)(f:Str):Prop:=PySem.W.findIn K (.ref C) f=some none
theorem NoAttr.taker{K:W.Frag}{C:Addr}{f:Str}(n:NoAttr K C f):PySem.W.takerIn K C f=some none:=by
 unfold PySem.W.takerIn
 rw[show PySem.W.findIn K (.ref C) f=some none from n]
 rfl
structure Meth(K:W.Frag)(C:Addr)(m:Str)(f:Addr):Prop where
 at_:PySem.W.findIn K (.ref C) m=some (some (.ref f))
 fn:PySem.W.isFn K (.ref f)=true
 kp:PySem.W.keepIn K (.ref f)=true
section
variable{X:Cx}{pins:List (Addr×Obj)}{σ:St}{H:Hp}{s:Shared}{a C dx:Addr}{fs:List (Str×V)}{f:Str}{v:V}{A:Around}{E:Value->Shared->Prop}
theorem getattr_ok{b:Bool}{Q:Value->Shared->Prop}(I:Inv X pins σ H s)(e:H a=some (.ins C dx fs))(c:Cls X.K C)(n:NoAttr X.K C f)(l:fs.lookup f=some v)(h:∀u s',Inv X pins σ H s'->RelV v u->Q u s'):wpAny (model X.prog X.w) A (getAttr (.ref a) f b) Q E s:=by
 obtain⟨mA,O,r,_,_,_⟩:=ins_get I.hok e
 obtain⟨u,hu,ru⟩:=RelO.some_of (v:=v) (o:=mA f) (by rw[<-l];exact r f)
 exact get_map I.kIn O (c.get f) c.hd n hu (handed_of ru) (h u _ (I.tok _) ru)
theorem getmeth_ok{m:Str}{g:Addr}{pl:Sem Bool}{Q:Value×List Value->Shared->Prop}(I:Inv X pins σ H s)(e:H a=some (.ins C dx fs))(c:Cls X.K C)(k:Meth X.K C m g)(l:fs.lookup m=none)(h:Q (.ref g,[.ref a]) s):wpAny (model X.prog X.w) A (getMethod (.ref a) m pl) Q E s:=by
 obtain⟨mA,O,r,_,_,_⟩:=ins_get I.hok e
 have hn:mA m=none:=RelO.none_of (by rw[<-l];exact r m)
 exact get_meth I.kIn O (c.get m) k.at_ k.fn hn h
theorem setattr_ok{y:V}{u:Value}{Q:Unit->Shared->Prop}(I:Inv X pins σ H s)(e:H a=some (.ins C dx fs))(c:Cls X.K C)(n:NoAttr X.K C f)(hl:fs.length<1000)(ry:RelV y u)(h:∀s',Inv X pins σ (upd H a (.ins C dx (putF f y fs))) s'->Q () s'):wpAny (model X.prog X.w) A (setAttr (.ref a) f u) Q E s:=by
 obtain⟨mA,O,r,wi,_,ho⟩:=ins_get I.hok e
 have hz:(fs.map (·.1)).length<=sizeLine:=by rw[aF,gB];omega
 refine set_map I.kIn O c.sa c.po n.taker c.hd wi hz fun h' O' sb=>h _ ?_
 have hd:∃o,h'.get? dx=some o:=let⟨o,_,_,e',_⟩:=O'.ns;⟨o,e'⟩
 refine I.write (x:=a) (e:=dx) (by rw[e];exact True.intro) (.inr ho) (fun b q hb z=>(sb.2 b hb).trans z) hd ?_
 refine⟨by rw[cG O.ne];exact ho,?_,O.ne,O'.obj,_,O'.ns,fun g=> ?_,fun g hg=> ?_⟩
 ·have:=length_putF f y fs;omega
 ·show RelO ((putF f y fs).lookup g) (if g=f then some u else mA g)
  rw[lookup_putF]
  by_cases q:g=f
  ·rw[ao q,ao q];exact ry
  ·rw[ak q,ak q];exact r g
 ·by_cases q:g=f
  ·rw[q];exact(keys_putF f y fs).1
  ·refine(keys_putF f y fs).2 g (wi g fun z=>hg ?_)
   show(if g=f then some u else mA g)=none
   rw[ak q];exact z
theorem Inv.made(I:Inv X pins σ H s):Inv X pins σ (upd (upd H s.heap.objs.size (.own (s.heap.objs.size+1))) (s.heap.objs.size+1) (.ins C s.heap.objs.size []))
  {s with heap:=(s.heap.push PySem.W.emptyDict).push (PySem.W.instObj C s.heap.objs.size)}:=by
 have e1:(s.heap.push PySem.W.emptyDict).get? s.heap.objs.size=some PySem.W.emptyDict:=jx s.heap rfl
 have e2:((s.heap.push PySem.W.emptyDict).push (PySem.W.instObj C s.heap.objs.size)).get? (s.heap.objs.size+1)=some (PySem.W.instObj C s.heap.objs.size):=by
  have:=jx (s.heap.push PySem.W.emptyDict) (o:=PySem.W.instObj C s.heap.objs.size) rfl
  rwa [Aj]at this
 have e3:(s.heap.push PySem.W.emptyDict).Ns s.heap.objs.size (fun _=>none):=⟨PySem.W.emptyDict,#[],_,e1,rfl,(fun e he=>absurd he (by simp)),fun _=>rfl⟩
 have I1:=I.laid (a:=s.heap.objs.size) (o:= .own (s.heap.objs.size+1)) (h':=s.heap.push PySem.W.emptyDict) (t':=s.toks) (fun b u q=>cO _ q) (aJ _) ⟨_,e1⟩
 refine I1.laid (a:=s.heap.objs.size+1) (o:= .ins C s.heap.objs.size []) (t':=s.toks) (fun b u q=>cO _ q) (Ah (Aj _ _)) ?_
 have ne:s.heap.objs.size≠s.heap.objs.size+1:=dM (oR _)
 refine⟨by rw[cG ne,aH],dJ _,ne,e2,fun _=>none,(Heap.Ns1.of_empty e3).at fun o q=>cO _ q,fun _=>True.intro,fun y hy=>absurd rfl hy⟩
theorem attr_of{prog:Program}{w:World}{env:Env}{e:Expr}{f:Str}{pos:Pos}{s:Shared}{Q:Value->Shared->Prop}(hb:attributeBase e f env (eval e env)=eval e env)(h:wpAny (model prog w) A (eval e env) (fun o s₁=>wpAny (model prog w) A (getAttr o f true) Q E s₁) E s):wpAny (model prog w) A (eval (.Attribute e f pos) env) Q E s:=
 Attribute_any_ h (by rw[arm_eval_Attribute,hb])
end
def tFld(K:W.Frag)(ta:TE)(f:Str):TE:=fun σ H Q=>ta σ H fun x H1=>∃a C dx fs v,x= .ref a/\H1 a=some (.ins C dx fs)/\Cls K C/\NoAttr K C f/\fs.lookup f=some v/\Q v H1
def sFld(K:W.Frag)(ta tv:TE)(f:Str):TS:=fun D σ H=>tv σ H fun y H1=>ta σ H1 fun x H2=>∃a C dx fs,x= .ref a/\H2 a=some (.ins C dx fs)/\Cls K C/\NoAttr K C f/\fs.length<1000/\
 D.nx σ (upd H2 a (.ins C dx (putF f y fs)))
section
variable{X:Cx}{o e value:Expr}{f:Str}{pos pos' tpos:Pos}{ta tv:TE}
theorem oO(he:PE X e ta)(hb:attributeBase e f X.env (eval e X.env)=eval e X.env):PE X (.Attribute e f pos) (tFld X.K ta f):=by
 intro pins s σ H Q I h
 refine attr_of hb (thn (he pins s σ H _ I h) fun u s1 ⟨x,H1,I1,rx,a,C,dx,fs,v,ex,ea,c,n,l,q⟩=> ?_)
 subst ex
 obtain rfl:u=Value.ref a:=rx
 exact getattr_ok I1 ea c n l fun u' s2 I2 ru=>⟨v,H1,I2,ru,q⟩
theorem ps_fld(ha:PE X o ta)(hv:PE X value tv)(hs:swapsWith value (some (.Attribute o f pos')) pos.line X.env=pure false):PS X (.Assign [.Attribute o f pos'] value pos) (sFld X.K ta tv f):=by
 intro pins s σ H D I h
 refine plainObj_wpAny_Assign_Attribute (thn (hv pins s σ H _ I h) fun u s1 ⟨y,H1,I1,ry,q⟩=>thn (ha pins s1 σ H1 _ I1 q) fun ov s2 ⟨x,H2,I2,rx,a,C,dx,fs,ex,ea,c,n,l,q2⟩=> ?_) hs
 subst ex
 obtain rfl:ov=Value.ref a:=rx
 exact setattr_ok I2 ea c n l ry fun s3 I3=>⟨σ,_,I3,q2⟩
end
section
variable{X:Cx}{pins:List (Addr×Obj)}{σ:St}{H:Hp}{s:Shared}{A:Around}{E:Value->Shared->Prop}{Q:Value->Shared->Prop}{c:Value}{b:Bool}
end
structure Room(k:Nat)(A:Around):Prop where
 hd:A.handled=none
 dp:A.depth+3*k+5<recursionLimit
 un:A.units+16*k+200<cLine
 gd:A.guards=some []
theorem Room.mono{j k:Nat}{A:Around}(r:Room k A)(h:j<=k):Room j A:=⟨r.hd,by have:=r.dp;omega,by have:=r.un;omega,r.gd⟩
theorem Room.deeper{k:Nat}{A:Around}(r:Room (k+1) A)(env:Env):Room k (A.deeper env):=
 ⟨r.hd,by have:=r.dp;show A.depth+1+3*k+5<_;omega,by have:=r.un;show A.units+3+16*k+200<_;omega,r.gd⟩
theorem Room.in1{k:Nat}{A:Around}(r:Room (k+1) A):Room k A.in1:=
 ⟨r.hd,by have:=r.dp;show A.depth+3*k+5<_;omega,by have:=r.un;show A.units+1+16*k+200<_;omega,r.gd⟩
theorem make_depth{A:Around}{C:Addr}{us:List Value}{kw:List (Str×Value)}:(A.under (.builtin "type.__call__" ⟨.ref C::us,kw⟩)).depth=A.depth+1:=by
 first |rfl|simp[Around.under,Code.weight,Code.isCreation,Code.isGuard,Code.isCaller,Code.frames,Code.isFrame,guardIds]
theorem make_units{A:Around}{C:Addr}{us:List Value}{kw:List (Str×Value)}:(A.under (.builtin "type.__call__" ⟨.ref C::us,kw⟩)).units=A.units+1:=by
 first |rfl|simp[Around.under,Code.cUnits,Code.frames,Code.isFrame]
theorem Room.make{k:Nat}{A:Around}(r:Room (k+1) A)(C:Addr)(us:List Value)(kw:List (Str×Value)):Room k (A.under (.builtin "type.__call__" ⟨.ref C::us,kw⟩)):=
 ⟨r.hd,by have:=r.dp;rw[make_depth];omega,by have:=r.un;rw[make_units];omega,by
  have q:=r.gd
  first |exact q|(simp[Around.under,Code.isGuard,guardIds];exact q)|(unfold Around.under;simp[Code.isGuard,guardIds,q])⟩
theorem Room.depth{k:Nat}{A:Around}(r:Room k A):A.depth<recursionLimit:=by have:=r.dp;omega
theorem Room.units{k:Nat}{A:Around}(r:Room k A):A.units+64<cLine:=by have:=r.un;omega
theorem Room.units0{k:Nat}{A:Around}(r:Room k A):A.units<cLine:=by have:=r.un;omega
def tNil:TA:=fun _ H Q=>Q [] H
def tCons(ta:TE)(tr:TA):TA:=fun σ H Q=>ta σ H fun x H1=>tr σ H1 fun xs H2=>Q (x::xs) H2
section
variable{X:Cx}{e:Expr}{es:List Expr}{te:TE}{t:TA}{pos:Pos}
theorem au:PA X [] tNil:=fun _ _ _ _ H Q I h=>wcx ⟨[],H,I,.nil,h⟩
theorem aj(ha:PE X e te)(hr:PA X es t)(hs:starEach (e::es) X.env=(false,eval e X.env)::starEach es X.env:=by rfl):PA X (e::es) (tCons te t):=by
 intro pos pins s σ H Q I h
 rw[hs]
 show wpAny _ _ (spliced ((false,eval e X.env)::backTo pos (starEach es X.env))) _ _ s
 refine wcl (thn (ha pins s σ H _ I h) fun u s1 ⟨x,H1,I1,r1,q1⟩=> ?_)
 exact thn (hr pos pins s1 σ H1 _ I1 q1) fun us s2 ⟨xs,H2,I2,r2,q2⟩=>⟨x::xs,H2,I2,.cons r1 r2,q2⟩
def tTup(t:TA):TE:=fun σ H Q=>t σ H fun xs H1=>xs.length<=sizeLine/\∀p,H1 p=none->Q (.ref p) (upd H1 p (.tup xs))
def tLst(t:TA):TE:=fun σ H Q=>t σ H fun xs H1=>xs.length<=sizeLine/\∀p,H1 p=none->Q (.ref p) (upd H1 p (.lst xs))
theorem oG{x1}(h:PA X es t):PE X (.Tuple es x1 pos) (tTup t):=by
 intro pins s σ H Q I hq
 refine wpAny_Tuple_spliced (thn (h pos pins s σ H _ I hq) fun us s1 ⟨xs,H1,I1,r,z,q⟩=>⟨by rw[<-r.length];exact z,?_⟩)
 have hf:H1 s1.heap.objs.size=none:=I1.hok.fresh (aJ _)
 refine⟨.ref s1.heap.objs.size,upd H1 s1.heap.objs.size (.tup xs),I1.laid (t':=s1.toks) (fun b u e=>cO _ e) (aJ _) ?_,rfl,q _ hf⟩
 exact⟨z,us,r,⟨_,jx _ rfl,rfl,_,rfl⟩⟩
theorem pe_lst(h:PA X es t):PE X (.List es pos) (tLst t):=by
 intro pins s σ H Q I hq
 refine wpAny_List_spliced (thn (h pos pins s σ H _ I hq) fun us s1 ⟨xs,H1,I1,r,z,q⟩=>⟨by rw[<-r.length];exact z,?_⟩)
 have hf:H1 s1.heap.objs.size=none:=I1.hok.fresh (aJ _)
 refine⟨.ref s1.heap.objs.size,upd H1 s1.heap.objs.size (.lst xs),I1.laid (t':=s1.toks) (fun b u e=>cO _ e) (aJ _) ?_,rfl,q _ hf⟩
 exact⟨z,us,0,r,jx _ rfl⟩
end
abbrev Sp:=List V->Hp->VK->XK->Prop
abbrev CXT:=List Env->Hp->Shared->XK->Value->Shared->Prop
structure Env0(P:Program)(w:World)(K:W.Frag)(mg:Str->Option Value)(base:Heap)(A:Around)(outer:List Env)(s:Shared)(H:Hp):Prop where
 frames:A.frames=some outer
 mod:Mod K mg base
 bs:∀b o,base.get? b=some o->s.heap.get? b=some o/\H b=none
 bsz:base.objs.size<=s.heap.objs.size
 funs:s.heap.FunFrames base outer
 frf:∀b∈frs outer,H b=none
 hok:HOk P w H s.heap
 bare:AllBare s.gens
def CE(outer:List Env)(P:Program)(w:World)(H:Hp)(s:Shared)(Q:VK)(u:Value)(s':Shared):Prop:=
 ∃v H',s'.os=s.os/\AllBare s'.gens/\Un (frs outer) [] H H' s.heap s'.heap/\HOk P w H' s'.heap/\RelV v u/\Q v H'
def CR(CX:CXT)(outer:List Env)(P:Program)(w:World)(H:Hp)(s:Shared)(Q:VK)(E:XK)(r:Result)(s':Shared):Prop:=
 match r with
 | .ok (.ret u)=>CE outer P w H s Q u s'
 | .ok _=>False
 | .error e=>CX outer H s E e s'
structure FnOk(P:Program)(w:World)(K:W.Frag)(mg:Str->Option Value)(base:Heap)(CX:CXT)(k:Nat)(f:Addr)(fd:FuncData)(ps:List Str)(sp:Sp):Prop where
 len:∀vs H Q E,sp vs H Q E->vs.length=ps.length
 run:∀(A:Around) (outer:List Env) (s:Shared) (H:Hp) (args:Args) (us:List Value) (vs:List V) (Q:VK) (E:XK),Room k A->Env0 P w K mg base A outer s H->BindsTo s fd args (ps.zip us)->Vals vs us->sp vs H Q E->
  codeAny (model P w) A (.call (.ref f) args) (CR CX outer P w H s Q E) s
theorem FnOk.mono{P:Program}{w:World}{K:W.Frag}{mg:Str->Option Value}{base:Heap}{CX:CXT}{j k:Nat}{f:Addr}{fd:FuncData}{ps:List Str}{sp:Sp}(F:FnOk P w K mg base CX j f fd ps sp)(h:j<=k):
  FnOk P w K mg base CX k f fd ps sp:=⟨F.len,fun A outer s H args us vs Q E hr=>F.run A outer s H args us vs Q E (hr.mono h)⟩
theorem Env0.make{P:Program}{w:World}{K:W.Frag}{mg:Str->Option Value}{base:Heap}{A:Around}{outer:List Env}{s:Shared}{H:Hp}(e:Env0 P w K mg base A outer s H)(C:Addr)(us:List Value)(kw:List (Str×Value)):
  Env0 P w K mg base (A.under (.builtin "type.__call__" ⟨.ref C::us,kw⟩)) outer s H:=⟨by first |exact e.frames|(simpa[Around.under,Code.envs,Code.isFrame,pushEnvs]using e.frames),e.mod,e.bs,e.bsz,e.funs,e.frf,e.hok,e.bare⟩
theorem Env0.in1{P:Program}{w:World}{K:W.Frag}{mg:Str->Option Value}{base:Heap}{A:Around}{outer:List Env}{s:Shared}{H:Hp}(e:Env0 P w K mg base A outer s H):
  Env0 P w K mg base A.in1 outer s H:=⟨e.frames,e.mod,e.bs,e.bsz,e.funs,e.frf,e.hok,e.bare⟩
section
variable{X:Cx}{pins:List (Addr×Obj)}{σ:St}{H:Hp}{s s':Shared}
theorem Inv.env0(I:Inv X pins σ H s):Env0 X.prog X.w X.K X.mg X.base X.A X.stack s H:=
 ⟨I.ok.frames,I.ok.mod,I.bs,bZ I.ok.bsz I.sz,I.stack,I.stkFree,I.hok,I.bare⟩
theorem Inv.after{Q:VK}{u:Value}(I:Inv X pins σ H s)(h:CE X.stack X.prog X.w H s Q u s'):EP X pins σ Q u s':=by
 obtain⟨v,H',os,bare,un,hok,r,q⟩:=h
 obtain⟨hh,g,d,t,os'⟩:=s'
 obtain rfl:os'=s.os:=os
 exact⟨v,H',I.call (h':=hh) (g':=g) (d':=d) (t':=t) (ch:=[]) un hok bare (fun b z=>absurd z (by simp)),r,q⟩
end
def tCall(sp:Sp)(dvs:List V)(E:XK)(t:TA):TE:=fun σ H Q=>t σ H fun vs H1=>sp (vs++dvs) H1 Q E
def tMeth(C:Addr)(m:Str)(sp:Sp)(dvs:List V)(E:XK)(ta:TE)(t:TA):TE:=fun σ H Q=>ta σ H fun x H1=>∃a dx fs,x= .ref a/\H1 a=some (.ins C dx fs)/\fs.lookup m=none/\
 t σ H1 fun vs H2=>sp (x::(vs++dvs)) H2 Q E
def tMake(C:Addr)(sp:Sp)(dvs:List V)(E:XK)(t:TA):TE:=fun σ H Q=>t σ H fun vs H1=>∀x dx,H1 x=none->H1 dx=none->dx≠x->
 sp (.ref x::(vs++dvs)) (upd (upd H1 dx (.own x)) x (.ins C dx [])) (fun v H2=>v= .non/\Q (.ref x) H2) E
def Binds(K:W.Frag)(fd:FuncData)(ps:List Str)(ds:List Value):Prop:=
 ∀(s:Shared) (us:List Value),K.In s.heap->(us++ds).length=ps.length->BindsTo s fd ⟨us,[]⟩ (ps.zip (us++ds))
theorem Binds.all{K:W.Frag}{fd:FuncData}{ps:List Str}(h:∀us:List Value,us.length=ps.length->bindArgs fd ⟨us,[]⟩=pure (ps.zip us)):Binds K fd ps []:=fun s us _ hl=>by
 rw[uF]at hl⊢
 exact .of_eq (h us hl)
def Passes(CX:CXT)(X:Cx)(E:XK):Prop:=∀(pins:List (Addr×Obj)) (σ:St) (H:Hp) (s:Shared) (e:Value) (s':Shared),Inv X pins σ H s->CX X.stack H s E e s'->X.xe e s'
section
variable{X:Cx}{CX:CXT}{k:Nat}{f C:Addr}{fd:FuncData}{ps:List Str}{sp:Sp}{dvs:List V}{ds:List Value}{E:XK}{x m:Str}{p pos apos:Pos}{e o:Expr}{es:List Expr}{ta:TE}{t:TA}
theorem run_fn{pins:List (Addr×Obj)}{σ:St}{H:Hp}{s:Shared}{Q:VK}{us:List Value}{vs:List V}(F:FnOk X.prog X.w X.K X.mg X.base CX k f fd ps sp)(hr:Room k X.A)(hb:Binds X.K fd ps ds)(hd:Vals dvs ds)(hx:Passes CX X E)
  (I:Inv X pins σ H s)(r:Vals vs us)(h:sp (vs++dvs) H Q E):wpAny (model X.prog X.w) X.A (call (.ref f) us) (EP X pins σ Q) X.xe s:=by
 have r2:Vals (vs++dvs) (us++ds):=r.append hd
 have hl:(us++ds).length=ps.length:=by rw[<-r2.length];exact F.len _ _ _ _ h
 refine wpAny_call (XD (F.run X.A X.stack s H ⟨us,[]⟩ (us++ds) (vs++dvs) Q E hr I.env0 (hb s us I.kIn hl) r2 h) fun r s' hq=> ?_)
 cases r with
 |error e=>exact hx pins σ H s e s' I hq
 |ok fl=>
  cases fl with
  |ret u=>exact I.after hq
  |next=>exact False.elim hq
  |brk=>exact False.elim hq
  |cont=>exact False.elim hq
theorem pe_call(F:FnOk X.prog X.w X.K X.mg X.base CX k f fd ps sp)(hr:Room k X.A)(hg:Gl X x)(hm:X.mg x=some (.ref f))(hk:PySem.W.keepIn X.K (.ref f)=true)(hb:Binds X.K fd ps ds)(hd:Vals dvs ds)(hx:Passes CX X E)(ha:PA X (e::es) t)(hdb:(x==("__debug__":Str))=false:=by decide)(he:starEach (e::es) X.env=(false,eval e X.env)::starEach es X.env:=by rfl)(hpl:(backTo pos (starEach es X.env)).any (·.1)=false:=by rfl):
  PE X (.Call (.Name x p) (e::es) [] pos) (tCall sp dvs E t):=by
 intro pins s σ H Q I h
 refine Oq (ld_glob I hg hm ?_ hdb)
 refine weg (h₀:=X.base) I.ok.mod.kin hk (thn (ha pos pins s σ H _ I h) fun us s1 ⟨vs,H1,I1,r,q⟩=>⟨I1.kIn,?_⟩) he hpl
 exact run_fn F hr hb hd hx I1 r q
theorem pe_meth{pl:Sem Bool}(he:PE X o ta)(c:Cls X.K C)(hm:Meth X.K C m f)(F:FnOk X.prog X.w X.K X.mg X.base CX k f fd ps sp)(hr:Room k X.A)(hb:Binds X.K fd ps ds)(hd:Vals dvs ds)(hx:Passes CX X E)(ha:PA X (e::es) t)(hst:starEach (e::es) X.env=(false,eval e X.env)::starEach es X.env:=by rfl)(hpl:(backTo pos (starEach es X.env)).any (·.1)=false:=by rfl)(ht:eval (.Call (.Attribute o m apos) (e::es) [] pos) X.env=(do
   let ov<-eval o X.env
   standAt apos.atName
   let(f,first)<-holding [ov] (getMethod ov m pl)
   callWith pos f first (backTo pos (starEach (e::es) X.env)) (backToKw pos (keywordEach [] X.env))):=by rfl):
  PE X (.Call (.Attribute o m apos) (e::es) [] pos) (tMeth C m sp dvs E ta t):=by
 intro pins s σ H Q I h
 refine wfy (pl:=pl) (thn (he pins s σ H _ I h) fun u s1 ⟨x,H1,I1,rx,a,dx,fs,ex,ea,l,q⟩=> ?_) ht
 subst ex
 obtain rfl:u=Value.ref a:=rx
 refine getmeth_ok I1 ea c hm l ?_
 refine weg (first:=[.ref a]) (h₀:=X.base) I.ok.mod.kin hm.kp (thn (ha pos pins s1 σ H1 _ I1 q) fun us s2 ⟨vs,H2,I2,r,q2⟩=>⟨I2.kIn,?_⟩) hst hpl
 exact run_fn (us:= .ref a::us) (vs:= .ref a::vs) F hr hb hd hx I2 (.cons rfl r) q2
theorem pe_meth0{pl:Sem Bool}(he:PE X o ta)(c:Cls X.K C)(hm:Meth X.K C m f)(F:FnOk X.prog X.w X.K X.mg X.base CX k f fd ps sp)(hr:Room k X.A)(hb:Binds X.K fd ps ds)(hd:Vals dvs ds)(hx:Passes CX X E)(ht:eval (.Call (.Attribute o m apos) [] [] pos) X.env=(do
   let ov<-eval o X.env
   standAt apos.atName
   let(f,first)<-holding [ov] (getMethod ov m pl)
   callWith pos f first (backTo pos (starEach [] X.env)) (backToKw pos (keywordEach [] X.env))):=by rfl):
  PE X (.Call (.Attribute o m apos) [] [] pos) (tMeth C m sp dvs E ta tNil):=by
 intro pins s σ H Q I h
 refine wfy (pl:=pl) (thn (he pins s σ H _ I h) fun u s1 ⟨x,H1,I1,rx,a,dx,fs,ex,ea,l,q⟩=> ?_) ht
 subst ex
 obtain rfl:u=Value.ref a:=rx
 refine getmeth_ok I1 ea c hm l ?_
 exact PySem.W.callWith_K0 (first:=[.ref a]) I1.kIn hm.kp (run_fn (us:=[.ref a]) (vs:=[.ref a]) F hr hb hd hx I1 (.cons rfl .nil) q)
structure Mk(K:W.Frag)(C f:Addr):Prop where
 makes:PySem.W.makesIn K C=true
 init:PySem.W.findIn K (.ref C) "__init__"=some (some (.ref f))
 fn:PySem.W.isFn K (.ref f)=true
 kp:PySem.W.keepIn K (.ref C)=true
theorem run_make{pins:List (Addr×Obj)}{σ:St}{H:Hp}{s:Shared}{Q:VK}{us:List Value}{vs:List V}(M:Mk X.K C f)(F:FnOk X.prog X.w X.K X.mg X.base CX k f fd ps sp)(hr:Room (k+1) X.A)(hb:Binds X.K fd ps ds)(hd:Vals dvs ds)(hx:Passes CX X E)(I:Inv X pins σ H s)(r:Vals vs us)(h:∀x dx,H x=none->H dx=none->dx≠x->sp (.ref x::(vs++dvs)) (upd (upd H dx (.own x)) x (.ins C dx [])) (fun v H2=>v= .non/\Q (.ref x) H2) E):
  wpAny (model X.prog X.w) X.A (call (.ref C) us) (EP X pins σ Q) X.xe s:=by
 have hq:=h (s.heap.objs.size+1) s.heap.objs.size (I.hok.fresh (Af _)) (I.hok.fresh (aJ _)) (dM (oR _))
 have I2:=Inv.made (C:=C) I
 have r2:Vals (V.ref (s.heap.objs.size+1)::(vs++dvs)) (Value.ref (s.heap.objs.size+1)::(us++ds)):= .cons rfl (r.append hd)
 have hl:(Value.ref (s.heap.objs.size+1)::us++ds).length=ps.length:=by
  have e:=r2.length
  rw[F.len _ _ _ _ hq]at e
  exact e.symm
 refine wpAny_call (make_map (f:=f) I.kIn M.makes M.init (beq_iff_eq.mp M.fn) (XD (F.run _ X.stack _ _ ⟨Value.ref (s.heap.objs.size+1)::us,[]⟩ (Value.ref (s.heap.objs.size+1)::(us++ds)) _ _ E (hr.make C us [])
  (I2.env0.make C us []) (hb _ (Value.ref (s.heap.objs.size+1)::us) I2.kIn hl) r2 hq) fun r s' hq'=> ?_))
 cases r with
 |error e=>exact hx pins σ _ _ e s' I2 hq'
 |ok fl=>
  cases fl with
  |ret u=>
   obtain⟨v,H',I3,rv,ev,q3⟩:=I2.after hq'
   subst ev
   exact⟨rv,⟨V.ref (s.heap.objs.size+1),H',I3,rfl,q3⟩⟩
  |next=>exact False.elim hq'
  |brk=>exact False.elim hq'
  |cont=>exact False.elim hq'
theorem pe_make(M:Mk X.K C f)(F:FnOk X.prog X.w X.K X.mg X.base CX k f fd ps sp)(hr:Room (k+1) X.A)(hg:Gl X x)(hm:X.mg x=some (.ref C))(hb:Binds X.K fd ps ds)(hd:Vals dvs ds)(hx:Passes CX X E)(ha:PA X (e::es) t)(hdb:(x==("__debug__":Str))=false:=by decide)(he:starEach (e::es) X.env=(false,eval e X.env)::starEach es X.env:=by rfl)(hpl:(backTo pos (starEach es X.env)).any (·.1)=false:=by rfl):
  PE X (.Call (.Name x p) (e::es) [] pos) (tMake C sp dvs E t):=by
 intro pins s σ H Q I h
 refine Oq (ld_glob I hg hm ?_ hdb)
 refine weg (h₀:=X.base) I.ok.mod.kin M.kp (thn (ha pos pins s σ H _ I h) fun us s1 ⟨vs,H1,I1,r,q⟩=>⟨I1.kIn,?_⟩) he hpl
 exact run_make M F hr hb hd hx I1 r q
end
section
variable{X:Cx}{CX:CXT}{k:Nat}{f C:Addr}{fd:FuncData}{ps ks:List Str}{sp:Sp}{E:XK}{x m:Str}{p pos apos kpos:Pos}{e o:Expr}{es:List Expr}{kws:List Keyword}{te ta:TE}{t tk:TA}{nm:Option Str}
variable{g:List Value->List Value->List Value}{gV:List V->List V->List V}
end
structure FnScope(N P:List Str)(sc:Scope):Prop where
 kind:sc.kind= .function
 co:sc.isCoroutine=false
 gen:sc.isGenerator=false
 nd:N.Nodup
 pre:N.take P.length=P
 par:∀x∈P,sc.names.lookup x=some .local\/sc.names.lookup x=some .cell
 nofree:∀y∈sc.names,y.2≠.free
theorem bindL_out{kindOf:Str->Option NameKind}{x:Str}:∀{binds:List (Str×Value)} {m:Str->Option Value},(∀v,(x,v)∉binds)->bindL kindOf binds m x=m x
 |[],_,_=>rfl
 |(n,v)::r,m,h=>by
  unfold bindL
  rw[bindL_out fun w hw=>h w (eE _ hw)]
  split
  ·have:x≠n:=by rintro rfl;exact h v cX
   simp[this]
  ·rfl
theorem bindC_out{kindOf:Str->Option NameKind}{x:Str}:∀{binds:List (Str×Value)} {m:Str->Option Value},(∀v,(x,v)∉binds)->bindC kindOf binds m x=m x
 |[],_,_=>rfl
 |(n,v)::r,m,h=>by
  unfold bindC
  rw[bindC_out fun w hw=>h w (eE _ hw)]
  split
  ·rfl
  ·have:x≠n:=by rintro rfl;exact h v cX
   simp[this]
theorem bindL_get{kindOf:Str->Option NameKind}{x:Str}{v:Value}:∀{P:List Str} {vs:List Value} {i:Nat} {m:Str->Option Value},P.Nodup->P[i]? =some x->vs[i]? =some v->kindOf x=some .local->
  bindL kindOf (P.zip vs) m x=some v
 |[],_,_,_,_,h,_,_=>by simp at h
 |_::_,[],_,_,_,_,h,_=>by simp at h
 |p::P,w::vs,0,m,nd,h1,h2,hk=>by
  simp at h1 h2;subst h1;subst h2
  show bindL kindOf ((p,w)::P.zip vs) m p=_
  unfold bindL
  rw[bindL_out fun v hv=>(IW.mp nd).1 (wfz hv).1,ao hk]
  simp
 |p::P,w::vs,i+1,m,nd,h1,h2,hk=>by
  show bindL kindOf ((p,w)::P.zip vs) m x=_
  unfold bindL
  exact bindL_get (i:=i) (IW.mp nd).2 (by simpa using h1) (by simpa using h2) hk
theorem bindC_get{kindOf:Str->Option NameKind}{x:Str}{v:Value}:∀{P:List Str} {vs:List Value} {i:Nat} {m:Str->Option Value},P.Nodup->P[i]? =some x->vs[i]? =some v->kindOf x≠some .local->
  bindC kindOf (P.zip vs) m x=some v
 |[],_,_,_,_,h,_,_=>by simp at h
 |_::_,[],_,_,_,_,h,_=>by simp at h
 |p::P,w::vs,0,m,nd,h1,h2,hk=>by
  simp at h1 h2;subst h1;subst h2
  show bindC kindOf ((p,w)::P.zip vs) m p=_
  unfold bindC
  rw[bindC_out fun v hv=>(IW.mp nd).1 (wfz hv).1,ak hk]
  simp
 |p::P,w::vs,i+1,m,nd,h1,h2,hk=>by
  show bindC kindOf ((p,w)::P.zip vs) m x=_
  unfold bindC
  exact bindC_get (i:=i) (IW.mp nd).2 (by simpa using h1) (by simpa using h2) hk
def start(N:List Str)(vs:List V):St:=vs.map some++List.replicate (N.length-vs.length) none
def cxOf(CX:CXT)(P:Program)(w:World)(K:W.Frag)(mg:Str->Option Value)(base:Heap)(N:List Str)(qual:Str)(scope:Scope)(f:Addr)(cd:Value)(A:Around)(outer:List Env)(s:Shared)(H:Hp)(E:XK):Cx where
 prog:=P
 w:=w
 K:=K
 mg:=mg
 base:=base
 A:=A.deeper (envOfC qual scope s.heap.objs.size f cd)
 N:=N
 s₀:=s
 H₀:=H
 env:=envOfC qual scope s.heap.objs.size f cd
 outer:=outer
 stack:=envOfC qual scope s.heap.objs.size f cd::outer
 ex:=[]
 calm:=true
 fn:=fun _=>true
 pn:=[]
 xe:=fun e s'=>wpAny (model P w) (A.deeper (envOfC qual scope s.heap.objs.size f cd)) (leaving (envOfC qual scope s.heap.objs.size f cd) e) (fun _ s''=>CX outer H s E e s'') (fun e' s''=>CX outer H s E e' s'') s'
theorem cell_has{sc:Scope}{n:Nat}{x:Str}(h:sc.names.lookup x=some .cell):∃c,(cellsFrom n sc.names []).lookup x=some c:=by
 have q:=wfw sc.names n [] (.inl h)
 exact Option.isSome_iff_exists.mp q
theorem inv_start{CX:CXT}{P:Program}{w:World}{K:W.Frag}{mg:Str->Option Value}{base:Heap}{N ps:List Str}{qual:Str}{scope:Scope}{f:Addr}{cd:Value}{A:Around}{outer:List Env}{s s1:Shared}{H:Hp}{E:XK}{us:List Value}{vs:List V}
  (S:FnScope N ps scope)(hd:A.handled=none)(e0:Env0 P w K mg base A outer s H)(hl:vs.length=ps.length)(r:Vals vs us)(x:InCallC s s.heap.objs.size (bindL (envOfC qual scope s.heap.objs.size f cd).kindOf (ps.zip us) fun _=>none) (cellsFrom (s.heap.objs.size+1) scope.names []) (bindC (envOfC qual scope s.heap.objs.size f cd).kindOf (ps.zip us) fun _=>none) s1):
  Inv (cxOf CX P w K mg base N qual scope f cd A outer s H E) [] (start N vs) H s1:=by
 have hpl:ps.length<=N.length:=by have:=jy List.length S.pre;rw[vA]at this;omega
 obtain⟨h1,tk,rfl,hk⟩:=x.done
 have noA:∀b:Addr,b∉(cxOf CX P w K mg base N qual scope f cd A outer s H E).ex:=fun b z=>absurd (show b∈([]:List Addr)from z) (by simp)
 refine⟨⟨e0.mod,S.kind,rfl,rfl,aJ _,fun y z c h1 h2=> ?_,fun y hy=> ?_,fun y c _ h=> ?_,fun _=>hd,Around.frames_deeper e0.frames,.inr ⟨rfl,rfl⟩,fun b z=>absurd z (noA b),e0.bs,e0.bsz,fun b _ _=>noA b,fun b z=>absurd z (noA b),e0.funs,e0.frf⟩,
  rfl,e0.bare,Un.kept hk,⟨_,x.toInCall.ns,fun i y v h1 h2 h3=> ?_⟩,fun y c h=>⟨_,x.cell y c h⟩,e0.hok.fresh (aJ _),fun y c h=> ?_,fun p hp=>absurd (show p∈([]:List (Addr×Obj))from hp) (by simp),e0.hok.kept hk,?_⟩
 ·exact name_of_addr x.apart (uH h1) (uH h2)
 ·have hy:scope.names.lookup y=some .cell\/scope.names.lookup y=some .free:=hy
  rcases hy with hy|hy
  ·exact cell_has hy
  ·exact absurd rfl (S.nofree _ (uH hy))
 ·exact dH (x.above y c (uH h))
 ·have hi:i<vs.length:=by
   unfold start at h2
   by_cases hi:i<vs.length
   ·exact hi
   ·rw[Tq (by simpa using hi)]at h2
    rw[wfe]at h2
    split at h2<;>cases h2
  have ha:vs[i]? =some v:=by
   unfold start at h2
   rw[Xp (by simpa using hi),cg]at h2
   cases e:vs[i]? with
   |none=>rw[e]at h2;cases h2
   |some a=>rw[e]at h2;cases h2;rfl
  obtain⟨u,hu,rv⟩:=r.get ha
  have hp:ps[i]? =some y:=by
   rw[<-S.pre,List.getElem?_take_of_lt (by omega)];exact h1
  have ndP:ps.Nodup:=by rw[<-S.pre];exact S.nd.sublist (List.take_sublist _ _)
  refine⟨u,rv,?_⟩
  rcases S.par y (iZ hp)with k|k
  ·exact .inl ⟨k,bindL_get ndP hp hu k⟩
  ·obtain⟨c,e⟩:=cell_has (n:=s.heap.objs.size+1) k
   refine .inr ⟨.inl k,c,e,?_⟩
   have q:=x.cell y c e
   rw[bindC_get ndP hp hu (by show scope.names.lookup y≠_;rw[k];decide)]at q
   exact q
 ·exact e0.hok.fresh (dH (x.above y c (uH h)))
 ·unfold start
  show _=N.length
  rw[qC,aF,Tn]
  omega
theorem fn_of{CX:CXT}{P:Program}{w:World}{K:W.Frag}{mg:Str->Option Value}{base:Heap}{k:Nat}{f:Addr}{name qual:Str}{params:Arguments}{body:List Stmt}{scope:Scope}{dV kV doc pm cdv ct oc:Value}{an od:Option Addr}{osl:Array (Option Value)}{N ps:List Str}{sp:Sp}(lk:K.lookup f=some ⟨oc,od,.func (PySem.W.fnOf name qual params body scope dV kV doc pm an cdv ct),osl⟩)(hcd:PySem.W.codeIn K cdv qual=true)(S:FnScope N ps scope)(len:∀vs H Q E,sp vs H Q E->vs.length=ps.length)(hbody:∀(A:Around) (outer:List Env) (s:Shared) (H:Hp) (vs:List V) (Q:VK) (E:XK),Room k (A.deeper (envOfC qual scope s.heap.objs.size f cdv))->sp vs H Q E->
   ∃t,PSs (cxOf CX P w K mg base N qual scope f cdv A outer s H E) body t/\t {nx:=fun _ H'=>Q .non H',rt:=Q} (start N vs) H):
  FnOk P w K mg base CX (k+1) f (PySem.W.fnOf name qual params body scope dV kV doc pm an cdv ct) ps sp:=by
 refine⟨len,fun A outer s H args us vs Q E hr e0 hb r hsp=> ?_⟩
 have hl:=len _ _ _ _ hsp
 have KX:K.In s.heap:=e0.mod.kin.keeps fun b o e=>(e0.bs b o e).1
 have lim:s.heap.NoLimit:=e0.mod.nolimit.keeps fun b o e=>(e0.bs b o e).1
 have hkind:∀y∈ps.zip us,scope.names.lookup y.1=some .local\/(scope.names.lookup y.1=some .cell/\((cellsFrom (s.heap.objs.size+1) scope.names []).lookup y.1).isSome=true):=fun⟨n,v⟩ hy=>by
  rcases S.par n (wfz hy).1 with q|q
  ·exact .inl q
  ·exact .inr ⟨q,wfw _ _ _ (.inl q)⟩
 refine codeAny_call_function hr.depth (KX _ _ lk) rfl S.co S.gen rfl (PySem.W.codeRec_of KX hcd) (hb _ _ _ _ ?_)
 refine wpAny_newFunctionEnv_cells S.kind hkind fun env he s1 x=> ?_
 subst he
 refine⟨lim.keeps x.toInCall.keep,codeAny_func ?_⟩
 obtain⟨t,ht,hq⟩:=hbody A outer s H vs Q E (hr.deeper _) hsp
 have I:Inv (cxOf CX P w K mg base N qual scope f cdv A outer s H E) [] (start N vs) H s1:=inv_start S hr.hd e0 hl r x
 refine Aq (ht [] s1 (start N vs) H _ I hq) (fun fl s' hs=> ?_) fun e s' hs=>hs
 have fin:∀{σ':St} {H':Hp} {v:V} {u:Value},Inv (cxOf CX P w K mg base N qual scope f cdv A outer s H E) [] σ' H' s'->RelV v u->Q v H'->CE outer P w H s Q u s':=
  fun{σ' H' v u} J rv q=>⟨v,H',J.os,J.bare,J.base,J.hok,rv,q⟩
 cases fl with
 |ret u=>
  obtain⟨v,σ',H',J,rv,q⟩:=hs
  exact fin J rv q
 |next=>
  obtain⟨σ',H',J,q⟩:=hs
  exact fin (v:=V.non) (u:=Value.none) J rfl q
 |brk=>
  obtain⟨_,_,_,q⟩:=hs
  exact False.elim q
 |cont=>
  obtain⟨_,_,_,q⟩:=hs
  exact False.elim q
section
variable{X:Cx}{x:Str}{p pos:Pos}{e:Expr}{es:List Expr}{t:TA}{id T:String}{r:List V->Hp->VK->Prop}
def tCB(r:List V->Hp->VK->Prop)(t:TA):TE:=fun σ H Q=>t σ H fun vs H1=>r vs H1 Q
theorem fM(hc:CallR X (.builtin id) r)(hg:Gl X x)(hm:X.mg x=none)(hv:bootBuiltins x=some (.builtin id))(ha:PA X (e::es) t)(hn:x≠"__name__":=by decide)(hdb:(x==("__debug__":Str))=false:=by decide)(he:starEach (e::es) X.env=(false,eval e X.env)::starEach es X.env:=by rfl)(hpl:(backTo pos (starEach es X.env)).any (·.1)=false:=by rfl):PE X (.Call (.Name x p) (e::es) [] pos) (tCB r t):=by
 intro pins s σ H Q I h
 refine Oq (ld_blt I hg hm hv ?_ hn hdb)
 exact PyProof.Rows.callWith_builtin1 (thn (ha pos pins s σ H _ I h) fun us s1 ⟨vs,H1,I1,r1,q1⟩=>hc pins s1 σ H1 vs us Q I1 r1 q1) he hpl
theorem pe_callTy(hc:CallR X (.type T) r)(hg:Gl X x)(hm:X.mg x=none)(hv:bootBuiltins x=some (.type T))(ha:PA X (e::es) t)(hn:x≠"__name__":=by decide)(hdb:(x==("__debug__":Str))=false:=by decide)(he:starEach (e::es) X.env=(false,eval e X.env)::starEach es X.env:=by rfl)(hpl:(backTo pos (starEach es X.env)).any (·.1)=false:=by rfl):PE X (.Call (.Name x p) (e::es) [] pos) (tCB r t):=by
 intro pins s σ H Q I h
 refine Oq (ld_blt I hg hm hv ?_ hn hdb)
 exact Jm (thn (ha pos pins s σ H _ I h) fun us s1 ⟨vs,H1,I1,r1,q1⟩=>hc pins s1 σ H1 vs us Q I1 r1 q1) he hpl
end
end L2
namespace HT
open PySem PyProof.Rows
def lexLt:List Int->List Int->Bool
 |[],[]=>false
 |[],_::_=>true
 |_::_,[]=>false
 |x::xs,y::ys=>if x=y then lexLt xs ys else decide (x<y)
theorem lexLt_cons(x y:Int)(xs ys:List Int):lexLt (x::xs) (y::ys)=if x=y then lexLt xs ys else decide (x<y):=rfl
theorem lexLt_nil_nil:lexLt [] []=false:=rfl
theorem lexLt_nil_cons(y:Int)(ys:List Int):lexLt [] (y::ys)=true:=rfl
theorem lexLt_cons_nil(x:Int)(xs:List Int):lexLt (x::xs) []=false:=rfl
theorem eqAt_int(A:Around)(s:Shared)(a:Int)(t:Tok)(c:Int)(u:Tok):∃e,SeqAt.EqAt A s (.int a t) (.int c u) e/\(e=true↔a=c):=
 ⟨(a==c),SeqAt.EqAt.int_int a t c u,by simp⟩
theorem rcLt_int(A:Around)(s:Shared)(a:Int)(t:Tok)(c:Int)(u:Tok)(prog:Program)(w:World)(E:Value->Shared->Prop)(Q:Value->Shared->Prop)(h:Q (.bool (decide (a<c))) s):
  wpAny (model prog w) A (richCompare .Lt (.int a t) (.int c u)) Q E s:=
 (PyProof.Rows.lt_int h:wpAny (model prog w) A (compareOp .Lt (.int a t) (.int c u)) Q E s)
section
open PySem.SeqAt
open PySem.AutoSeq1 (wpAny_loadPart')
open PySem.MeetsSeq PySem.MeetsSeq2 PySem.MeetsSeq3
theorem tuple_lt_ints(l b:Addr)(items items2:Array Value)(n n2:Nat)(dd dd2:Option Addr)(sl sl2:Array (Option Value))(ns ms:List Int)(hi:IntsAre items.toList ns)(hj:IntsAre items2.toList ms):
  Meets (Builtin.«tuple.__lt__» ⟨[.ref l,.ref b],[]⟩)
   (fun _ R s=>s.heap.get? l=some {cls:= .type "tuple",dict:=dd,data:= .seq items n,slots:=sl}/\s.heap.get? b=some {cls:= .type "tuple",dict:=dd2,data:= .seq items2 n2,slots:=sl2}/\
    R (.ok (.ret (.bool (lexLt ns ms)))) s):=
 .of_wp fun prog w A R s h=>by
  obtain⟨hp,g,d,tk,os⟩:=s;obtain⟨hl,hb,h⟩:=h
  have f2:=AutoSeq1.sub_tuple_tuple
  have z1:items.size=ns.length:=by rw[<-hi.length];simp
  have z2:items2.size=ms.length:=by rw[<-hj.length];simp
  wp_walk using wpAny_loadPart' hl,wpAny_loadPart' hb,wpAny_forIn_list _ (fun rest b s'=>b.1=none/\s'=⟨hp,g,d,tk,os⟩/\∃(vs ws:List Value) (ns' ms':List Int),rest=vs.zip ws/\
   IntsAre vs ns'/\IntsAre ws ms'/\ns'.length+items2.size=ms'.length+items.size/\R (.ok (.ret (.bool (lexLt ns' ms')))) ⟨hp,g,d,tk,os⟩) _
  case turn=>
   rintro⟨y,x⟩ rest b s' ⟨hb',rfl,vs,ws,ns',ms',hz,hvi,hwi,hlen,hR⟩
   cases hvi with
   |nil=>rw[List.zip_nil_left]at hz;cases hz
   |cons a t hvi'=>
    cases hwi with
    |nil=>rw[List.zip_nil_right]at hz;cases hz
    |cons c u hwi'=>
     rw[weh]at hz
     injection hz with hyx hrest
     injection hyx with hy hx
     subst hy hx
     rw[lexLt_cons]at hR
     simp only[rD]at hlen
     obtain⟨e,he,hiff⟩:=eqAt_int A.in1 ⟨hp,g,d,tk,os⟩ a t c u
     refine aA (he prog w _ _ ?_)
     cases e with
     |true=>
      rw[ao (hiff.mp rfl)]at hR
      wp_walk
      exact⟨rfl,rfl,_,_,_,_,hrest,hvi',hwi',by omega,hR⟩
     |false=>
      rw[ak (fun q=>absurd (hiff.mpr q) qN)]at hR
      have hri:=rcLt_int A.in1 ⟨hp,g,d,tk,os⟩ a t c u prog w
      wp_walk using hri
      exact⟨_,rfl,by simpa using hR⟩
  case fin=>
   rintro⟨b1,b2⟩ s' ⟨hb',rfl,vs,ws,ns',ms',hz,hvi,hwi,hlen,hR⟩
   simp only at hb'
   subst hb'
   have hv:lexLt ns' ms'=decide (items.size<items2.size):=by
    cases hvi with
    |nil=>
     cases hwi with
     |nil=>
      simp only[Rq]at hlen
      rw[lexLt_nil_nil]
      exact(iY (by omega)).symm
     |cons c u hw=>
      simp only[Rq,rD]at hlen
      rw[lexLt_nil_cons]
      exact(gb (by omega)).symm
    |cons a t hv=>
     cases hwi with
     |nil=>
      simp only[Rq,rD]at hlen
      rw[lexLt_cons_nil]
      exact(iY (by omega)).symm
     |cons c u hw=>
      rw[weh]at hz
      cases hz
   rw[hv]at hR
   wp_walk
   exact⟨_,rfl,by simpa[Builtin.Tuple.tupleCompareSizes]using hR⟩
  case h=>
   exact⟨rfl,rfl,items.toList,items2.toList,ns,ms,rfl,hi,hj,by omega,h⟩
end
section
variable{prog:Program}{w:World}{A:Around}{E:Value->Shared->Prop}{s:Shared}
theorem lt_tupInts{l b:Addr}{items items2:Array Value}{ns ms:List Int}{Q:Value->Shared->Prop}(hl:IsTup s.heap l items)(hb:IsTup s.heap b items2)(hi:IntsAre items.toList ns)(hj:IntsAre items2.toList ms)(hu:A.units<cLine)(h:Q (.bool (lexLt ns ms)) s):wpAny (model prog w) A (compareOp .Lt (.ref l) (.ref b)) Q E s:=by
 obtain⟨⟨cls,dd,data,sl⟩,ho,hc,n,hd⟩:=id hl
 obtain⟨⟨cls2,dd2,data2,sl2⟩,ho2,hc2,n2,hd2⟩:=id hb
 simp only at hc hd hc2 hd2
 subst hc hd hc2 hd2
 exact richCompare_meets_room (op:= .Lt) ⟨_,ho,rfl⟩ ⟨_,ho2,rfl⟩ PySem.F.slot_tuple_lt PySem.F.entry_tuple_lt (PySem.F.args_tuple_lt_2 _ _) (tuple_lt_ints l b items items2 n n2 dd dd2 sl sl2 ns ms hi hj)
  ⟨ho,ho2,show Value.bool (lexLt ns ms)≠Value.notImplemented/\Q (.bool (lexLt ns ms)) s from⟨(fun x=>nomatch x),h⟩⟩ hu
theorem cat_tup{t b:Addr}{vs ws:List Value}{Q:Value->Shared->Prop}(ht:IsTup s.heap t vs.toArray)(hb:IsTup s.heap b ws.toArray)(hv:vs≠[])(h1:ws=[]->Q (.ref t) s)(h2:ws≠[]->Q (.ref s.heap.objs.size) {s with heap:=s.heap.push {cls:= .type "tuple",data:= .seq (vs++ws).toArray}})(hsz:vs.length+ws.length<=sizeLine):wpAny (model prog w) A (binaryOp .Add (.ref t) (.ref b)) Q E s:=by
 obtain⟨⟨cls,dd,data,sl⟩,ho,hc,n,hd⟩:=id ht
 obtain⟨⟨cls2,dd2,data2,sl2⟩,ho2,hc2,n2,hd2⟩:=id hb
 simp only at hc hd hc2 hd2
 subst hc hd hc2 hd2
 have e:vs.toArray++ws.toArray=(vs++ws).toArray:=by simp
 by_cases hw:ws=[]
 ·exact wga ⟨_,ho,rfl⟩ ⟨_,ho2,rfl⟩ wde wff wcb wbz (wbx _ _)
   (tuple_addW1 t b vs.toArray ws.toArray n n2 dd dd2 sl sl2 (by simpa using hv) (by simp[hw])) ⟨ho,ho2,h1 hw⟩
 ·refine wga ⟨_,ho,rfl⟩ ⟨_,ho2,rfl⟩ wde wff wcb wbz (wbx _ _)
   (tuple_addW2 t b vs.toArray ws.toArray n n2 dd dd2 sl sl2 (by simpa using hv) (by simpa using hw) (by rw[fL,fL];exact hsz)) ⟨ho,ho2,?_⟩
  rw[e]
  exact h2 hw
def sIx(n d:Nat):Option Int->Nat
 |none=>d
 |some v=>if v<0 then(v+(n:Int)).toNat else min v.toNat n
theorem sIx_none(n d:Nat):sIx n d none=d:=rfl
theorem sIx_nat(n d k:Nat):sIx n d (some (k:Int))=min k n:=by
 show(if(k:Int)<0 then((k:Int)+(n:Int)).toNat else min (k:Int).toNat n)=min k n
 rw[ak (by omega),Ws]
theorem sIx_le(n d:Nat)(hd:d<=n)(o:Option Int):sIx n d o<=n:=by
 cases o with
 |none=>exact hd
 |some v=>
  show(if v<0 then(v+(n:Int)).toNat else min v.toNat n)<=n
  by_cases hv:v<0
  ·rw[ao hv];omega
  ·rw[ak hv];exact Nat.min_le_right _ _
theorem clip_eq(v:Int)(n d:Nat):(if v<0 then max (v+(n:Int)) 0 else min v (n:Int))=((sIx n d (some v):Nat):Int):=by
 show(if v<0 then max (v+(n:Int)) 0 else min v (n:Int))=(((if v<0 then(v+(n:Int)).toNat else min v.toNat n):Nat):Int)
 by_cases hv:v<0
 ·simp only[ao hv];omega
 ·simp only[ak hv];omega
theorem adjust_gen(lo hi:Option Int)(n:Nat):Builtin.Slice.sliceAdjust lo hi 1 (n:Int)=(((sIx n 0 lo:Nat):Int),((sIx n n hi:Nat):Int)):=by
 have h1:¬((1:Int)<0):=by omega
 unfold Builtin.Slice.sliceAdjust
 simp only[h1,Tt]
 refine Prod.ext ?_ ?_
 ·cases lo with
  |none=>rfl
  |some v=>exact clip_eq v n 0
 ·cases hi with
  |none=>rfl
  |some v=>exact clip_eq v n n
theorem places_gen(i j:Nat):Builtin.Slice.slicePlaces (i:Int) (j:Int) 1=j-i:=by
 unfold Builtin.Slice.slicePlaces
 have h1:(1:Int)>0:=by omega
 simp only[h1,NT,Int.ediv_one]
 split<;>omega
theorem slicePart_{v:Value}{o:Option Int}{Q:Option Int->Shared->Prop}(p:IsPart v o)(h:Q o s):wpAny (model prog w) A (Builtin.Slice.slicePartIndex v) Q E s:=by
 cases p with
 |none=>exact slicePart_none h
 |int i t=>exact slicePart_int h
theorem sliceApplied_gen{sl:Addr}{vl vu:Value}{lo hi:Option Int}{n:Nat}{Q:Int×Int×Nat->Shared->Prop}(hs:s.heap.IsSliceOf sl vl vu .none)(pl:IsPart vl lo)(pu:IsPart vu hi)(h:Q (((sIx n 0 lo:Nat):Int),1,sIx n n hi-sIx n 0 lo) s):wpAny (model prog w) A (Builtin.Slice.sliceApplied (.ref sl) (pure (n:Int))) Q E s:=by
 obtain⟨os,hos,hcs,hds⟩:=id hs
 unfold Builtin.Slice.sliceApplied Builtin.Slice.sliceFields
 refine aA (aA (Ar hos hds (x:=vl) rfl (aA (Ar hos hds (x:=vu) rfl (aA (Ar hos hds (x:= .none) rfl (bC ?_)))))))
 refine aA (slicePart_none ?_)
 show wpAny _ _ (if((1:Int)==0)=true then _ else _) _ _ s
 rw[ak (by decide)]
 refine aA (slicePart_ pl (aA (slicePart_ pu (aA (bC ?_)))))
 show wpAny _ _ (match Builtin.Slice.sliceAdjust lo hi 1 (n:Int)with |(lo,hi)=>pure (lo,(1:Int),Builtin.Slice.slicePlaces lo hi 1)) _ _ s
 rw[adjust_gen lo hi n]
 show wpAny _ _ (pure (((sIx n 0 lo:Nat):Int),(1:Int),Builtin.Slice.slicePlaces ((sIx n 0 lo:Nat):Int) ((sIx n n hi:Nat):Int) 1)) _ _ s
 rw[places_gen]
 exact bC h
theorem pick_gen(xs:Array Value)(i k:Nat):((List.range k).filterMap fun(m:Nat)=>xs[((i:Int)+(m:Int)*1).toNat]?).toArray=((xs.toList.drop i).take k).toArray:=by
 have e:(fun(m:Nat)=>xs[((i:Int)+(m:Int)*1).toNat]?)=fun m=>xs[i+m]? :=by
  funext m
  have:((i:Int)+(m:Int)*1).toNat=i+m:=by omega
  rw[this]
 rw[e]
 have:=pick_run xs i k
 rw[List.filterMap_map]at this
 have e2:((fun x=>xs[x]?)∘fun x=>i+x)=fun m=>xs[i+m]? :=rfl
 rw[e2]at this
 rw[this]
theorem getItem_tuple_cut{t sl:Addr}{items:Array Value}{vl vu:Value}{lo hi:Option Int}{Q:Value->Shared->Prop}(ht:IsTup s.heap t items)(hs:s.heap.IsSliceOf sl vl vu .none)(pl:IsPart vl lo)(pu:IsPart vu hi)(hw:¬(sIx items.size 0 lo=0/\sIx items.size items.size hi=items.size))(h:Q (.ref s.heap.objs.size) {s with heap:=s.heap.push {cls:= .type "tuple",data:= .seq ((items.toList.drop (sIx items.size 0 lo)).take (sIx items.size items.size hi-sIx items.size 0 lo)).toArray}})(hsz:items.size<=sizeLine):wpAny (model prog w) A (getItem (.ref t) (.ref sl)) Q E s:=by
 have htake:sizeOk (.seq ((items.toList.drop (sIx items.size 0 lo)).take (sIx items.size items.size hi-sIx items.size 0 lo)).toArray):=by
  show((items.toList.drop (sIx items.size 0 lo)).take (sIx items.size items.size hi-sIx items.size 0 lo)).toArray.size<=sizeLine
  rw[fL,vA,wdf,Rv]
  omega
 have hj:sIx items.size items.size hi<=items.size:=sIx_le _ _ (aJ _) hi
 obtain⟨os,hos,hcs,hds⟩:=id hs
 have hTs:s.TypeIs (.ref sl) "slice":=⟨os,hos,hcs⟩
 unfold getItem
 try with_reducible refine Ak ?_
 first |refine aA (bC ?_)|skip
 refine aA (wpAny_sequenceKey ht.typeIs (by decide) ?_)
 refine aA (Wz (name:=Str.ofString "__getitem__") ht.typeIs wbj
  (Rz wbj ht.typeIs entry_tuple_getitem ?_ (args_tuple_getitem _ _)))
 show wpAny _ _ (Builtin.Tuple.tupleItemsOf (.ref t)>>=_) _ _ s
 refine aA (tupleItemsOf_ ht ?_)
 refine aA (XC hTs ?_)
 rw[ao (by decide)]
 refine aA (sliceApplied_gen hs pl pu ?_)
 have hno:¬((((sIx items.size 0 lo:Nat):Int)==0&&(1:Int)==1&&(sIx items.size items.size hi-sIx items.size 0 lo)==items.size)=true):=by
  intro q
  rw[vD,vD]at q
  have q1:((sIx items.size 0 lo:Nat):Int)=0:=eq_of_beq q.1.1
  have q2:sIx items.size items.size hi-sIx items.size 0 lo=items.size:=eq_of_beq q.2
  exact hw ⟨by omega,by omega⟩
 show wpAny _ _ (if(((sIx items.size 0 lo:Nat):Int)==0&&(1:Int)==1&&(sIx items.size items.size hi-sIx items.size 0 lo)==items.size)=true then _ else _) _ _ s
 rw[ak hno,pick_gen]
 first
  |exact aA (m:=Builtin.Tuple.tupleExact _) (Jh (bC ⟨_,rfl,bC h⟩) htake)
  |exact aA (m:=Builtin.Tuple.tupleExact _) (Jh (aA (bC (bC ⟨_,rfl,bC h⟩))) htake)
  |exact aA (aA (m:=Builtin.Tuple.tupleExact _) (Jh (bC (bC ⟨_,rfl,bC h⟩)) htake))
  |exact aA (aA (m:=Builtin.Tuple.tupleExact _) (Jh (bC ⟨_,rfl,bC h⟩) htake))
end
end HT
namespace L2
open PySem PySem.Spec PyProof.Rows
abbrev TO:=St->Hp->(Option Int->Hp->Prop)->Prop
def PO(X:Cx)(e:Option Expr)(t:TO):Prop:=
 ∀(pins:List (Addr×Obj)) (s:Shared) (σ:St) (H:Hp) (Q:Option Int->Hp->Prop),Inv X pins σ H s->t σ H Q->
  wpAny (model X.prog X.w) X.A (evalPart e X.env) (fun u s'=>∃o H',Inv X pins σ H' s'/\IsPart u o/\Q o H') X.xe s
def tNoPart:TO:=fun _ H Q=>Q none H
def tPart(t:TE):TO:=fun σ H Q=>t σ H fun x H1=>∃i,x= .int i/\Q (some i) H1
theorem intsAre_of{ns:List Int}:∀{us:List Value},Vals (ns.map V.int) us->IntsAre us ns:=by
 induction ns with
 |nil=>intro us r;rw[wgb]at r;cases r;exact .nil
 |cons n ns ih=>
  intro us r
  rw[qM]at r
  cases r with
  |cons r1 r2=>
   obtain⟨t,e⟩:=r1
   subst e
   exact .cons n t (ih r2)
section
variable{X:Cx}{e:Expr}{te:TE}{lo hi:Option Expr}{tl th:TO}{pos p2:Pos}
theorem po_none:PO X none tNoPart:=by
 intro pins s σ H Q I h
 rw[evalPart_none]
 exact bC ⟨none,H,I,.none,h⟩
theorem po_some(h:PE X e te):PO X (some e) (tPart te):=by
 intro pins s σ H Q I hw
 rw[evalPart_some]
 refine thn (h pins s σ H _ I hw) fun u s1 ⟨x,H1,I1,r1,q1⟩=> ?_
 obtain⟨i,rfl,q⟩:=q1
 obtain⟨t,rfl⟩:=r1
 exact⟨some i,H1,I1,.int i t,q⟩
def SlR(X:Cx)(r:V->Option Int->Option Int->Hp->VK->Prop):Prop:=
 ∀(pins:List (Addr×Obj)) (s:Shared) (σ:St) (H:Hp) (x:V) (v vl vu:Value) (lo hi:Option Int) (sl:Addr) (Q:VK),Inv X pins σ H s->RelV x v->s.heap.IsSliceOf sl vl vu .none->IsPart vl lo->IsPart vu hi->r x lo hi H Q->
  ∃T id,typeLookup (.type T) "__getitem__"=pure (some (.builtin id))/\s.TypeIs v T/\wpAny (model X.prog X.w) X.A (getItem v (.ref sl)) (EP X pins σ Q) X.xe s
def tSl(r:V->Option Int->Option Int->Hp->VK->Prop)(te:TE)(tl th:TO):TE:=fun σ H Q=>te σ H fun x H1=>tl σ H1 fun l H2=>th σ H2 fun u H3=>r x l u H3 Q
theorem pe_slice{r:V->Option Int->Option Int->Hp->VK->Prop}(hr:SlR X r)(he:PE X e te)(hl:PO X lo tl)(hu:PO X hi th):PE X (.Subscript e (.Slice lo hi none p2) pos) (tSl r te tl th):=by
 intro pins s σ H Q I h
 refine Subscript_ (thn (he pins s σ H _ I h) fun v s1 ⟨x,H1,I1,r1,q1⟩=> ?_)
 refine wpAny_Slice (thn (hl pins s1 σ H1 _ I1 q1) fun vl s2 ⟨l,H2,I2,pl,q2⟩=>thn (hu pins s2 σ H2 _ I2 q2) fun vu s3 ⟨u,H3,I3,pu,q3⟩=> ?_)
 rw[evalPart_none]
 refine bC ?_
 have I4:Inv X pins σ H3 {s3 with heap:=s3.heap.push {cls:= .type "slice",data:= .fields #[vl,vu,.none]}}:=I3.kept (t':=s3.toks) fun b ob q=>cO _ q
 obtain⟨T,id,hT,ht,hg⟩:=hr pins {s3 with heap:=s3.heap.push {cls:= .type "slice",data:= .fields #[vl,vu,.none]}} σ H3 x v vl vu l u s3.heap.objs.size Q I4 r1 (Heap.IsSliceOf.new ..) pl pu q3
 show wpAny (model X.prog X.w) X.A (subscriptTail e (.Slice lo hi none p2) v (.ref s3.heap.objs.size)) (EP X pins σ Q) X.xe {s3 with heap:=s3.heap.push {cls:= .type "slice",data:= .fields #[vl,vu,.none]}}
 exact tail_any (ops:=[.ref s3.heap.objs.size,v]) ht hT hg (by with_unfolding_all rfl)
def cutV(xs:List V)(lo hi:Option Int):List V:=(xs.drop (HT.sIx xs.length 0 lo)).take (HT.sIx xs.length xs.length hi-HT.sIx xs.length 0 lo)
theorem cutV_length(xs:List V)(lo hi:Option Int):(cutV xs lo hi).length<=xs.length:=by
 unfold cutV
 rw[vA,wdf]
 omega
def rSlT(K:W.Frag):V->Option Int->Option Int->Hp->VK->Prop:=fun x lo hi H Q=>∃a xs,x= .ref a/\SqT K H a xs/\
 ¬(HT.sIx xs.length 0 lo=0/\HT.sIx xs.length xs.length hi=xs.length)/\∀p,H p=none->Q (.ref p) (upd H p (.tup (cutV xs lo hi)))
theorem sl_tup:SlR X (rSlT X.K):=by
 intro pins s σ H x v vl vu lo hi sl Q I rx hs pl pu h
 obtain⟨a,xs,rfl,hx,hw,q⟩:=h
 cases rx
 obtain⟨its,r,ht,hz⟩:=I.tuple hx
 have hlen:its.toArray.size=xs.length:=by rw[fL];exact r.length.symm
 refine⟨"tuple",_,PyProof.Rows.slot_tuple_getitem.lookup,ht.typeIs,?_⟩
 refine HT.getItem_tuple_cut ht hs pl pu (by rw[hlen];exact hw) ?_ (by rw[hlen];exact hz)
 rw[hlen]
 refine⟨.ref s.heap.objs.size,_,I.laid (t':=s.toks) (o:= .tup (cutV xs lo hi)) (fun b ob q=>cO _ q) (aJ _) ?_,rfl,q _ (I.hok.fresh (aJ _))⟩
 exact⟨bZ (cutV_length xs lo hi) hz,_,(r.drop (HT.sIx xs.length 0 lo)).take (HT.sIx xs.length xs.length hi-HT.sIx xs.length 0 lo),Wx _ _⟩
def rLtT(K:W.Frag):R2:=fun x y H Q=>∃a b ns ms,x= .ref a/\y= .ref b/\SqT K H a (ns.map V.int)/\SqT K H b (ms.map V.int)/\Q (.bl (HT.lexLt ns ms)) H
theorem op_ltT(hu:X.A.units<cLine):OpR X (compareOp .Lt) (rLtT X.K):=by
 intro pins s σ H x y v u Q I rx ry h
 obtain⟨a,b,ns,ms,rfl,rfl,ha,hb,q⟩:=h
 cases rx
 cases ry
 obtain⟨its,r1,p1,_⟩:=I.tuple ha
 obtain⟨its2,r2,p2,_⟩:=I.tuple hb
 have i1:IntsAre its.toArray.toList ns:=intsAre_of r1
 have i2:IntsAre its2.toArray.toList ms:=intsAre_of r2
 exact HT.lt_tupInts p1 p2 i1 i2 hu ⟨.bl (HT.lexLt ns ms),H,I,rfl,q⟩
def rCatT(K:W.Frag):R2:=fun x y H Q=>∃a b xs ys,x= .ref a/\y= .ref b/\SqT K H a xs/\SqT K H b ys/\xs≠[]/\xs.length+ys.length<=sizeLine/\
 (ys=[]->Q (.ref a) H)/\(ys≠[]->∀p,H p=none->Q (.ref p) (upd H p (.tup (xs++ys))))
theorem Vals.nil_iff{xs:List V}{us:List Value}(r:Vals xs us):us=[]↔xs=[]:=by
 cases r with
 |nil=>simp
 |cons _ _=>simp
theorem op_catT:OpR X (binaryOp .Add) (rCatT X.K):=by
 intro pins s σ H x y v u Q I rx ry h
 obtain⟨a,b,xs,ys,rfl,rfl,ha,hb,hx,hz,q1,q2⟩:=h
 cases rx
 cases ry
 obtain⟨its,r1,p1,_⟩:=I.tuple ha
 obtain⟨its2,r2,p2,_⟩:=I.tuple hb
 refine HT.cat_tup p1 p2 (fun z=>hx (r1.nil_iff.mp z)) (fun z=>⟨.ref a,H,I,rfl,q1 (r2.nil_iff.mp z)⟩) (fun z=> ?_) (by rw[<-r1.length,<-r2.length];exact hz)
 refine⟨.ref s.heap.objs.size,_,I.laid (t':=s.toks) (o:= .tup (xs++ys)) (fun b ob q=>cO _ q) (aJ _) ?_,rfl,q2 (fun w=>z (r2.nil_iff.mpr w)) _ (I.hok.fresh (aJ _))⟩
 exact⟨by rw[qC];exact hz,_,r1.append r2,Wx _ _⟩
end
def ixN(n:Nat)(i:Int):Option Nat:=if 0<=i then(if i<n then some i.toNat else none)else if -(n:Int)<=i then some (i+n).toNat else none
def atI{α:Type}(xs:List α)(i:Int):Option α:=(ixN xs.length i).bind fun j=>xs[j]?
theorem ixN_seq{n:Nat}{i:Int}{j:Nat}(h:ixN n i=some j):seqIndex? i n=some j/\j<n/\ -(n:Int)<=i/\i<n:=by
 unfold ixN at h
 by_cases h0:0<=i
 ·rw[ao h0]at h
  by_cases h1:i<n
  ·rw[ao h1]at h
   have e:i.toNat=j:=rH h
   exact⟨by rw[seqIndex_of h0 h1,e],by omega,by omega,h1⟩
  ·rw[ak h1]at h;cases h
 ·rw[ak h0]at h
  by_cases h1: -(n:Int)<=i
  ·rw[ao h1]at h
   have e:(i+n).toNat=j:=rH h
   exact⟨by rw[seqIndex_neg (by omega) h1,e],by omega,h1,by omega⟩
  ·rw[ak h1]at h;cases h
theorem atI_get{α:Type}{xs:List α}{i:Int}{v:α}(h:atI xs i=some v):∃j,seqIndex? i xs.length=some j/\xs[j]? =some v/\j<xs.length/\ -(xs.length:Int)<=i/\i<xs.length:=by
 unfold atI at h
 cases e:ixN xs.length i with
 |none=>rw[e]at h;cases h
 |some j=>
  rw[e]at h
  obtain⟨h1,h2,h3,h4⟩:=ixN_seq e
  exact⟨j,h1,h,h2,h3,h4⟩
theorem atI_nat{α:Type}{xs:List α}{j:Nat}{v:α}(h:xs[j]? =some v):atI xs (j:Int)=some v:=by
 have hj:j<xs.length:=(lC.mp h).1
 have e:ixN xs.length (j:Int)=some j:=by
  unfold ixN
  rw[ao (by omega),ao (by omega)];simp
 unfold atI;rw[e];exact h
def PlainIx(b:Expr):Prop:=∀o i,subscripted b false o i=operate [o,i] (getItem o i)
def IxR(X:Cx)(r:R2):Prop:=
 ∀(value slice:Expr) (pins:List (Addr×Obj)) (s:Shared) (σ:St) (H:Hp) (x y:V) (v u:Value) (Q:VK),Inv X pins σ H s->RelV x v->RelV y u->r x y H Q->
  subscripted slice false v u=operate [v,u] (getItem v u)->wpAny (model X.prog X.w) X.A (subscriptTail value slice v u) (EP X pins σ Q) X.xe s
def MtR(X:Cx)(id:String)(r:V->List V->Hp->VK->Prop):Prop:=
 ∀(pins:List (Addr×Obj)) (s:Shared) (σ:St) (H:Hp) (x:V) (xs:List V) (v:Value) (us:List Value) (Q:VK),Inv X pins σ H s->RelV x v->Vals xs us->r x xs H Q->
  wpAny (model X.prog X.w) X.A (call (.builtin id) (v::us)) (EP X pins σ Q) X.xe s
section
variable{X:Cx}{a b:Expr}{ta tb:TE}{pos:Pos}
theorem bB{r:R2}(hr:IxR X r)(ha:PE X a ta)(hb:PE X b tb)(hs:PlainIx b):PE X (.Subscript a b pos) (tOp r ta tb):=by
 intro pins s σ H Q I h
 exact Subscript_ (binT ha hb I h fun v u s2 x y H2 I2 rx ry q=>hr a b pins s2 σ H2 x y v u Q I2 rx ry q (hs _ _))
def rIxL(K:W.Frag):R2:=fun x y H Q=>∃p xs i v,x= .ref p/\y= .int i/\SqL K H p xs/\atI xs i=some v/\Q v H
def rIxT(K:W.Frag):R2:=fun x y H Q=>∃p xs i v,x= .ref p/\y= .int i/\SqT K H p xs/\atI xs i=some v/\Q v H
theorem jJ:IxR X (rIxL X.K):=by
 intro value slice pins s σ H x y v u Q I rx ry h hs
 obtain⟨p,xs,i,z,rfl,rfl,hq,he,q⟩:=h
 cases rx
 obtain⟨t,rfl⟩:=ry
 obtain⟨its,r,pl,hz⟩:=I.list hq
 obtain⟨j,h1,h2,h3,h4,h5⟩:=atI_get he
 obtain⟨w,ew,rw'⟩:=r.get h2
 have hl:=r.length
 have hn:=line63
 have fin:EP X pins σ Q w s:=⟨z,H,I,rw',q⟩
 by_cases h0:0<=i
 ·have hj:i.toNat=j:=by
   rw[seqIndex_of h0 h5]at h1
   exact rH h1
  exact item_listR pl.isList h0 (by omega) (by rw[hj];simpa using ew) fin hs
 ·have hj:(i+(its.toArray.size:Int)).toNat=j:=by
   rw[seqIndex_neg (by omega) h4]at h1
   rw[fL,<-hl]
   exact rH h1
  exact subscriptTail_builtinR (x:=w) pl.isList.typeIs slot_list_getitem.lookup
   (wpAny_getItem_list_neg (Q:=fun r s'=>r=w/\EP X pins σ Q r s') pl.isList (by omega) (by rw[fL]<;>omega) (by omega) (by rw[hj];simpa using ew) ⟨rfl,fin⟩) hs
theorem gQ:IxR X (rIxT X.K):=by
 intro value slice pins s σ H x y v u Q I rx ry h hs
 obtain⟨p,xs,i,z,rfl,rfl,hq,he,q⟩:=h
 cases rx
 obtain⟨t,rfl⟩:=ry
 obtain⟨its,r,pl,hz⟩:=I.tuple hq
 obtain⟨j,h1,h2,h3,h4,h5⟩:=atI_get he
 obtain⟨w,ew,rw'⟩:=r.get h2
 have hl:=r.length
 have hn:=line63
 have fin:EP X pins σ Q w s:=⟨z,H,I,rw',q⟩
 exact subscriptTail_builtinR (x:=w) pl.typeIs slot_tuple_getitem.lookup
  (getItem_tuple (j:=j) (Q:=fun r s'=>r=w/\EP X pins σ Q r s') pl (by omega) (by omega) (by rw[fL,<-hl];exact h1) (by simpa using ew) ⟨rfl,fin⟩) hs
theorem mapSeq_set(its:List Value)(n j:Nat)(u:Value):Obj.mapSeq (·.setIfInBounds j u) {cls:= .type "list",data:= .seq its.toArray n}={cls:= .type "list",data:= .seq (its.set j u).toArray n}:=by
 simp[Obj.mapSeq]
theorem Inv.lst{pins:List (Addr×Obj)}{σ:St}{H:Hp}{s:Shared}{p:Addr}{xs:List V}(I:Inv X pins σ H s)(h:H p=some (.lst xs)):
  ∃(its:List Value) (n:Nat),Vals xs its/\s.heap.get? p=some {cls:= .type "list",data:= .seq its.toArray n}/\xs.length<=sizeLine:=by
 obtain⟨z,its,n,r,e⟩:=I.hok p _ h
 exact⟨its,n,r,e,z⟩
theorem Inv.lstUpd{pins:List (Addr×Obj)}{σ:St}{H:Hp}{s:Shared}{p:Addr}{xs ys:List V}{its its':List Value}{n n':Nat}{f:Obj->Obj}(I:Inv X pins σ H s)(h:H p=some (.lst xs))(ho:s.heap.get? p=some {cls:= .type "list",data:= .seq its.toArray n})(hf:f {cls:= .type "list",data:= .seq its.toArray n}={cls:= .type "list",data:= .seq its'.toArray n'})(r:Vals ys its')(hz:ys.length<=sizeLine)(t:Nat):
  Inv X pins σ (upd H p (.lst ys)) {s with heap:=s.heap.update p f,toks:=t}:=by
 have e:(s.heap.update p f).get? p=some {cls:= .type "list",data:= .seq its'.toArray n'}:=by
  rw[Heap.get?_update_self f ho (by rw[hf]<;>rfl),hf]
 refine I.write (x:=p) (e:=p) (by rw[h];trivial) (.inl rfl) (fun b u hb q=>(yed _ _ (lO hb)).trans q) ⟨_,e⟩ ?_
 exact⟨hz,its',n',r,e⟩
def rSetL:V->V->V->Hp->(Hp->Prop)->Prop:=fun o i v H Q=>∃p xs k j,o= .ref p/\i= .int k/\H p=some (.lst xs)/\ixN xs.length k=some j/\Q (upd H p (.lst (xs.set j v)))
theorem set_list:PSet X rSetL:=by
 intro pins s σ H o i v ov iv u Q I ro ri rv h
 obtain⟨p,xs,k,j,rfl,rfl,hp,hj,q⟩:=h
 cases ro
 obtain⟨t,rfl⟩:=ri
 obtain⟨its,n,r,ho,hz⟩:=I.lst hp
 obtain⟨h1,h2,h3,h4⟩:=ixN_seq hj
 have hl:=r.length
 have hn:=line63
 have I':Inv X pins σ (upd H p (.lst (xs.set j v))) {s with heap:=s.heap.update p (Obj.mapSeq (·.setIfInBounds j u))}:=
  I.lstUpd hp ho (mapSeq_set its n j u) (r.set rv j) (by rw[wdt];exact hz) s.toks
 by_cases h0:0<=k
 ·have hk:k.toNat=j:=by
   rw[seqIndex_of h0 h4]at h1
   exact rH h1
  exact PySem.W.ki_setAt ho h0 (by omega) (by rw[fL,<-hl];exact h4) (by rw[hk];exact⟨_,I',q⟩)
 ·have hk:(k+(its.toArray.size:Int)).toNat=j:=by
   rw[seqIndex_neg (by omega) h3]at h1
   rw[fL,<-hl]
   exact rH h1
  exact PySem.W.ki_setBack ho (by omega) (by rw[fL,<-hl];exact h3) (by omega) (by rw[hk];exact⟨_,I',q⟩)
theorem slice_bounds(lo hi:Option Int)(n:Nat):(sliceBounds lo hi none n).1=((HT.sIx n 0 lo:Nat):Int)/\(sliceBounds lo hi none n).2.1=((HT.sIx n n hi:Nat):Int)/\(sliceBounds lo hi none n).2.2=1:=by
 refine⟨?_,?_,rfl⟩
 ·cases lo with
  |none=>simp[sliceBounds,HT.sIx]
  |some i=>
   simp only[sliceBounds,HT.sIx,Option.getD_none,show(1:Int)>0 by decide,NT]
   by_cases h:i<0
   ·simp only[h,NT]<;>omega
   ·simp only[h,Tt]<;>omega
 ·cases hi with
  |none=>simp[sliceBounds,HT.sIx]
  |some i=>
   simp only[sliceBounds,HT.sIx,Option.getD_none,show(1:Int)>0 by decide,NT]
   by_cases h:i<0
   ·simp only[h,NT]<;>omega
   ·simp only[h,Tt]<;>omega
theorem slicePick_cut(its:List Value)(lo hi:Option Int):slicePick its.toArray lo hi none=((its.drop (HT.sIx its.length 0 lo)).take (HT.sIx its.length its.length hi-HT.sIx its.length 0 lo)).toArray:=by
 obtain⟨h1,h2,h3⟩:=slice_bounds lo hi its.toArray.size
 unfold slicePick
 rw[h1,h2,h3]
 simp only[sliceRange_one,pick_run,fL]<;>rfl
def rSlL(K:W.Frag):V->Option Int->Option Int->Hp->VK->Prop:=fun x lo hi H Q=>∃a xs,x= .ref a/\SqL K H a xs/\∀p,H p=none->Q (.ref p) (upd H p (.lst (cutV xs lo hi)))
theorem sl_list:SlR X (rSlL X.K):=by
 intro pins s σ H x v vl vu lo hi sl Q I rx hs pl pu h
 obtain⟨a,xs,rfl,hx,q⟩:=h
 cases rx
 obtain⟨its,r,ht,hz⟩:=I.list hx
 have hlen:=r.length
 refine⟨"list",_,slot_list_getitem.lookup,ht.isList.typeIs,?_⟩
 refine wpAny_getItem_list_slice ht.isList hs pl pu .none (by simp) ?_ (by rw[fL]<;>omega)
 rw[slicePick_cut,<-hlen]
 refine⟨.ref s.heap.objs.size,_,I.laid (t':=s.toks) (o:= .lst (cutV xs lo hi)) (fun b ob q=>cO _ q) (aJ _) ?_,rfl,q _ (I.hok.fresh (aJ _))⟩
 exact⟨bZ (cutV_length xs lo hi) hz,_,0,(r.drop (HT.sIx xs.length 0 lo)).take (HT.sIx xs.length xs.length hi-HT.sIx xs.length 0 lo),jx _ rfl⟩
theorem call_len_seq:CallR X (.builtin "len") (fun xs H Q=>∃p ys,xs=[.ref p]/\(SqL X.K H p ys\/SqT X.K H p ys)/\Q (.int ys.length) H):=by
 intro pins s σ H xs us Q I r h
 obtain⟨p,ys,rfl,hq,q⟩:=h
 obtain⟨u,rfl,rx⟩:=vals1 r
 cases rx
 have hn:=line63
 rcases hq with hq|hq
 ·obtain⟨its,r',pl,hz⟩:=I.list hq
  have hlen:=r'.length
  exact Calls.call_len_list pl.isList (by simp only[fL]<;>omega) ⟨.int ys.length,H,I.tok _,⟨s.toks+1,by rw[fL,hlen]⟩,q⟩
 ·obtain⟨its,r',pl,hz⟩:=I.tuple hq
  have hlen:=r'.length
  exact len_tuple pl (by simp only[fL]<;>omega) ⟨.int ys.length,H,I.tok _,⟨s.toks+1,by rw[fL,hlen]⟩,q⟩
theorem Wi:CallR X (.type "tuple") (fun xs H Q=>∃p ys,xs=[.ref p]/\((SqL X.K H p ys/\∀l,H l=none->Q (.ref l) (upd H l (.tup ys)))\/(SqT X.K H p ys/\Q (.ref p) H))):=by
 intro pins s σ H xs us Q I r h
 obtain⟨p,ys,rfl,h⟩:=h
 obtain⟨u,rfl,rx⟩:=vals1 r
 cases rx
 rcases h with⟨hq,q⟩|⟨hq,q⟩
 ·obtain⟨its,r',pl,hz⟩:=I.list hq
  have hlen:=r'.length
  refine call_tuple_list pl.isList (fun h' kp=> ?_) (by simp only[fL]<;>omega)
  have I1:Inv X pins σ H {s with heap:=h'}:=I.kept (t':=s.toks) kp
  have I2:Inv X pins σ (upd H h'.objs.size (.tup ys)) {s with heap:=h'.push {cls:= .type "tuple",data:= .seq its.toArray}}:=
   I1.laid (t':=s.toks) (fun b o e=>cO _ e) (aJ _) (show ObjOk X.prog X.w _ _ _ (.tup ys)from⟨hz,its,r',Wx _ _⟩)
  exact⟨.ref h'.objs.size,_,I2,rfl,q _ (I1.hok.fresh (aJ _))⟩
 ·obtain⟨its,r',pl,hz⟩:=I.tuple hq
  exact call_tuple_same pl ⟨.ref p,H,I,rfl,q⟩
def tyV(K:W.Frag)(T:String)(x:V)(H:Hp):Prop:=match x with
 | .str _=>T="str"
 | .int _=>T="int"
 | .ref p=>(T="list"/\∃xs,SqL K H p xs)\/(T="tuple"/\∃o,K.lookup p=some o/\o.cls= .type "tuple"/\o.dict=none)\/
   (T="dict"/\((∃kvs,H p=some (.dK kvs))\/∃kvs,H p=some (.dT kvs)))\/(T="set"/\∃S n,H p=some (.set S n))
 |_=>False
theorem tyV_is{pins:List (Addr×Obj)}{σ:St}{H:Hp}{s:Shared}{T:String}{x:V}{v:Value}(I:Inv X pins σ H s)(r:RelV x v)(ty:tyV X.K T x H):
  s.TypeIs v T/\∀a,v= .ref a->∃ob,s.heap.get? a=some ob/\ob.dict=none:=by
 cases x with
 |str z=>
  obtain⟨t,rfl⟩:=r
  cases(show T="str" from ty)
  exact⟨typeIs_str s z t,fun _ e=>nomatch e⟩
 |int i=>
  obtain⟨t,rfl⟩:=r
  cases(show T="int" from ty)
  exact⟨Xu s i t,fun _ e=>nomatch e⟩
 |ref p=>
  cases r
  rcases ty with⟨rfl,xs,hq⟩|⟨rfl,o,hk,hc,hd⟩|⟨rfl,hk⟩|⟨rfl,S,n,hk⟩
  ·obtain⟨its,_,pl,_⟩:=I.list hq
   refine⟨pl.isList.typeIs,fun a e=> ?_⟩
   cases e
   obtain⟨o,n,e,c,hd,_⟩:=pl
   exact⟨o,e,hd⟩
  ·refine⟨⟨o,I.kIn p o hk,hc⟩,fun a e=> ?_⟩
   cases e
   exact⟨o,I.kIn _ o hk,hd⟩
  ·have z:∃o,s.heap.get? p=some o/\o.ExactDict:=by
    rcases hk with⟨kvs,hk⟩|⟨kvs,hk⟩
    ·obtain⟨_,_,_,_,o,_,_,e,ex,_⟩:=I.hok p _ hk
     exact⟨o,e,ex⟩
    ·obtain⟨_,_,_,_,o,_,_,e,ex,_⟩:=I.hok p _ hk
     exact⟨o,e,ex⟩
   obtain⟨o,e,ex⟩:=z
   refine⟨⟨o,e,ex.1⟩,fun a e2=> ?_⟩
   cases e2
   exact⟨o,e,ex.2.1⟩
  ·obtain⟨o,_,_,_,e,ex,_⟩:=I.hok p _ hk
   refine⟨⟨o,e,ex.1⟩,fun a e2=> ?_⟩
   cases e2
   exact⟨o,e,ex.2.1⟩
 |_=>exact False.elim ty
def tBM(K:W.Frag)(T:String)(r:V->List V->Hp->VK->Prop)(to:TE)(t:TA):TE:=fun σ H Q=>to σ H fun x H1=>tyV K T x H1/\t σ H1 fun xs H2=>r x xs H2 Q
variable{o e:Expr}{es:List Expr}{to:TE}{t:TA}{name:Str}{apos cpos:Pos}{T id:String}{r:V->List V->Hp->VK->Prop}
theorem pe_bm(pa:PlainAttrs T)(slot:Slot T name id)(hty:typeOf (.builtin id)=pure (.type "method_descriptor"))(hm:MtR X id r)(ho:PE X o to)(ha:PA X (e::es) t)(hbase:attributeBase o name X.env (eval o X.env)=eval o X.env:=by rfl)(hfew:((backTo cpos (starEach (e::es) X.env)).all (fun x=> !x.1)&&(backToKw cpos (keywordEach [] X.env)).all (fun x=>x.1.isSome)
   &&decide ((e::es).length+([]:List Keyword).length+(if([]:List Keyword).isEmpty then 0 else 1)<30))=true:=by rfl)(hline:(apos.endLine==cpos.line)=true:=by rfl)(hs:starEach (e::es) X.env=(false,eval e X.env)::starEach es X.env:=by rfl)(hplain:(backTo cpos (starEach es X.env)).any (·.1)=false:=by rfl):
  PE X (.Call (.Attribute o name apos) (e::es) [] cpos) (tBM X.K T r to t):=by
 intro pins s σ H Q I h
 refine wpAny_Call_method_late hbase hfew hline rfl (thn (ho pins s σ H _ I h) fun v s1 ⟨x,H1,I1,r1,ty,q1⟩=> ?_)
 obtain⟨h1,h2⟩:=tyV_is I1 r1 ty
 refine⟨T,id,pa,slot,hty,h1,h2,?_⟩
 have hA:=ha cpos pins s1 σ H1 _ I1 q1
 rw[hs]at hA⊢
 refine Calls.callWith_builtin (by show(false||(backTo cpos (starEach es X.env)).any (·.1))=false;rw[hplain]<;>rfl) (Calls.evalArgs_plain ?_)
 exact thn hA fun us s2 ⟨vs,H2,I2,r2,q2⟩=>hm pins s2 σ H2 x vs v us Q I2 r1 r2 q2
end
def MtM(X:Cx)(id:String)(r:V->List V->Hp->VK->Prop):Prop:=
 ∀(pins:List (Addr×Obj)) (s:Shared) (σ:St) (H:Hp) (x:V) (xs:List V) (v:Value) (us:List Value) (Q:VK),Inv X pins σ H s->RelV x v->Vals xs us->r x xs H Q->
  wpAny (model X.prog X.w) X.A (call (.builtin id) (v::us)) (EP X pins σ Q) X.xe s
theorem Vals.one{x:V}{us:List Value}(h:Vals [x] us):∃u,us=[u]/\RelV x u:=by
 cases h with
 |cons r h=>cases h;exact⟨_,rfl,r⟩
theorem Vals.two{x y:V}{us:List Value}(h:Vals [x,y] us):∃u v,us=[u,v]/\RelV x u/\RelV y v:=by
 cases h with
 |cons r h=>obtain⟨v,rfl,q⟩:=Vals.one h;exact⟨_,_,rfl,r,q⟩
theorem Vals.rep{xs:List V}{us:List Value}(h:Vals xs us):∀k:Nat,Vals (List.replicate k xs).flatten (List.replicate k us).flatten
 |0=> .nil
 |k+1=>by
  rw[FQ,FQ,Ja,Ja]
  exact Vals.append h (Vals.rep h k)
theorem foldl_rep(its:List Value):∀(k:Nat) (acc:List Value),
  List.foldl (fun x1 x2=>x1++x2) acc.toArray (List.replicate k its.toArray)=(acc++(List.replicate k its).flatten).toArray
 |0,acc=>by simp
 |k+1,acc=>by
  have e:acc.toArray++its.toArray=(acc++its).toArray:=by simp
  have e2:(acc++its)++(List.replicate k its).flatten=acc++(List.replicate (k+1) its).flatten:=by
   rw[FQ,Ja,Wr]
  rw[<-e2,<-foldl_rep its k (acc++its),<-e,FQ,Wo]
section
variable{X:Cx}{pins:List (Addr×Obj)}{σ:St}{H:Hp}{s:Shared}{l b:Addr}{xs ys zs:List V}
theorem Inv.lset{its its':List Value}{n:Nat}{f:Array Value->Array Value}{t':Nat}(I:Inv X pins σ H s)(hH:H l=some (.lst xs))(e:s.heap.get? l=some {cls:= .type "list",data:= .seq its.toArray n})(hf:f its.toArray=its'.toArray)(hv:Vals ys its')(hz:ys.length<=sizeLine):
  Inv X pins σ (upd H l (.lst ys)) {s with heap:=s.heap.update l (Obj.mapSeq f),toks:=t'}:=by
 have q:=wfn e f
 rw[hf]at q
 refine I.write (x:=l) (e:=l) (by rw[hH];exact trivial) (.inl rfl) (fun b' u hb hu=>(yed s.heap (Obj.mapSeq f) (lO hb)).trans hu) ⟨_,q⟩ ?_
 exact⟨hz,its',_,hv,q⟩
theorem Inv.lnew{its:List Value}{t':Nat}(I:Inv X pins σ H s)(hv:Vals ys its)(hz:ys.length<=sizeLine):
  Inv X pins σ (upd H s.heap.objs.size (.lst ys)) {s with heap:=s.heap.push {cls:= .type "list",data:= .seq its.toArray},toks:=t'}:=
 I.laid (fun _ _ q=>cO _ q) (aJ _) ⟨hz,its,0,hv,jx _ rfl⟩
theorem Inv.fresh(I:Inv X pins σ H s):H s.heap.objs.size=none:=I.hok.fresh (aJ _)
theorem Inv.lstM(I:Inv X pins σ H s)(hH:H l=some (.lst xs)):xs.length<=sizeLine/\∃(its:List Value) (n:Nat),Vals xs its/\xs.length=its.length/\s.heap.get? l=some {cls:= .type "list",data:= .seq its.toArray n}:=by
 obtain⟨z,its,n,r,e⟩:=I.hok l _ hH
 exact⟨z,its,n,r,r.length,e⟩
theorem notLongL{n:Nat}(h:n<=sizeLine):Builtin.List.listTooLong n=false:=by
 unfold Builtin.List.listTooLong
 exact iY (by omega)
end
section
variable{X:Cx}
def rAppend:V->List V->Hp->VK->Prop:=fun x vs H Q=>∃l xs y,x= .ref l/\vs=[y]/\H l=some (.lst xs)/\xs.length<sizeLine/\Q .non (upd H l (.lst (xs++[y])))
theorem mt_append:MtM X "list.append" rAppend:=by
 intro pins s σ H x vs v us Q I rx rv h
 obtain⟨l,xs,y,rfl,rfl,hH,hz,q⟩:=h
 cases rx
 obtain⟨u,rfl,ru⟩:=rv.one
 obtain⟨z,its,n,r,hl,e⟩:=I.lstM hH
 refine NZ wej ⟨_,e,rfl⟩ wdu (wdj _ _) (weq l its.toArray n u (by rw[fL];omega)) ⟨e,?_⟩
 refine⟨.non,_,I.lset (its':=its++[u]) hH e (by simp) (r.append (.cons ru .nil)) ?_,rfl,q⟩
 rw[qC,List.length_singleton]
 omega
def rExtend:V->List V->Hp->VK->Prop:=fun x vs H Q=>∃l b xs zs,x= .ref l/\vs=[.ref b]/\H l=some (.lst xs)/\H b=some (.lst zs)/\xs.length+zs.length<=sizeLine/\Q .non (upd H l (.lst (xs++zs)))
theorem mt_extend:MtM X "list.extend" rExtend:=by
 intro pins s σ H x vs v us Q I rx rv h
 obtain⟨l,b,xs,zs,rfl,rfl,hH,hB,hz,q⟩:=h
 cases rx
 obtain⟨u,rfl,ru⟩:=rv.one
 cases ru
 obtain⟨z,its,n,r,hl,e⟩:=I.lstM hH
 obtain⟨z2,its2,n2,r2,hl2,e2⟩:=I.lstM hB
 have hsz:its.toArray.size+its2.toArray.size<=sizeLine:=by rw[fL,fL];omega
 have hlong:¬(!its.toArray.isEmpty&&Builtin.List.listTooLong (its.toArray.size+its2.toArray.size))=true:=by
  rw[notLongL hsz,wgo]
  exact qN
 refine NZ F.slot_list_extend ⟨_,e,rfl⟩ F.entry_list_extend (F.args_list_extend_2 _ _)
  (AutoSeq1.list_extend_list_list_0 l its.toArray n b its2.toArray n2 hlong (by rw[fL];omega) (by omega)) ⟨e,e2,?_⟩
 refine⟨.non,_,I.lset (its':=its++its2) hH e (by simp) (r.append r2) ?_,rfl,q⟩
 rw[qC]
 omega
def rCat:R2:=fun x y H Q=>∃l b xs zs,x= .ref l/\y= .ref b/\H l=some (.lst xs)/\H b=some (.lst zs)/\xs.length+zs.length<=sizeLine/\∀p,H p=none->Q (.ref p) (upd H p (.lst (xs++zs)))
theorem op_cat:OpR X (binaryOp .Add) rCat:=by
 intro pins s σ H x y v u Q I rx ry h
 obtain⟨l,b,xs,zs,rfl,rfl,hH,hB,hz,q⟩:=h
 cases rx
 cases ry
 obtain⟨z,its,n,r,hl,e⟩:=I.lstM hH
 obtain⟨z2,its2,n2,r2,hl2,e2⟩:=I.lstM hB
 refine PySem.P.add_list e e2 ?_ (by rw[fL,fL];omega)
 have ea:its.toArray++its2.toArray=(its++its2).toArray:=by simp
 rw[ea]
 exact⟨.ref _,_,I.lnew (t':=s.toks) (r.append r2) (by rw[qC];omega),rfl,q _ I.fresh⟩
def rRep:R2:=fun x y H Q=>∃l k xs,x= .ref l/\y= .int k/\H l=some (.lst xs)/\ -(2^63)<=k/\k<2^63/\xs.length*k.toNat<=sizeLine/\
 ∀p,H p=none->Q (.ref p) (upd H p (.lst (List.replicate k.toNat xs).flatten))
theorem len_rep{α:Type}(xs:List α)(k:Nat):(List.replicate k xs).flatten.length=k*xs.length:=by
 induction k with
 |zero=>simp
 |succ k ih=>rw[FQ,Ja,qC,ih,wgd,Nat.add_comm]
theorem op_rep:OpR X (binaryOp .Mult) rRep:=by
 intro pins s σ H x y v u Q I rx ry h
 obtain⟨l,k,xs,rfl,rfl,hH,h1,h2,hz,q⟩:=h
 cases rx
 obtain⟨t,rfl⟩:=ry
 obtain⟨z,its,n,r,hl,e⟩:=I.lstM hH
 have hlen:its.toArray.size*k.toNat<=sizeLine:=by rw[fL,<-hl];exact hz
 have hcap:¬its.toArray.size*k.toNat>(2^63-1)/8:=by
  have:(sizeLine:Nat)<=(2^63-1)/8:=by decide
  omega
 have hfit:¬(!Builtin.List.listFitsIndex k)=true:=by
  rw[fitsIndex_both h1 h2]
  exact qN
 have hlong:¬Builtin.List.listTooLong (its.toArray.size*k.toNat)=true:=by
  rw[notLongL hlen]
  exact qN
 have hnew:List.foldl (fun x1 x2=>x1++x2) #[] (List.replicate (if its.toArray.isEmpty=true then 0 else k.toNat) its.toArray)=(List.replicate k.toNat its).flatten.toArray:=by
  have f0:∀m:Nat,List.foldl (fun x1 x2=>x1++x2) #[] (List.replicate m its.toArray)=(List.replicate m its).flatten.toArray:=fun m=>by
   have:=foldl_rep its m []
   rw[List.nil_append]at this
   exact this
  rw[f0]
  cases its with
  |nil=>simp
  |cons a r'=>rw[ak (by simp)]
 refine wpAny_binaryOp_repeat_ref (T:="list") (U:="int") (by decide) ⟨_,e,rfl⟩ (fun s'=>Xu s' k t) noFill_list_mul F.fills_int_mul wdv repeat_list F.slot_int_index.lookup
  (NZ wdv (Xu s k t) F.entry_int_rmul (F.args_int_rmul_2 _ _) (int___rmul___int_list k t l its.toArray n)
   ⟨e,rfl,⟨_,e,rfl⟩,NZ F.slot_list_mul ⟨_,e,rfl⟩ F.entry_list_mul (F.args_list_mul_2 _ _) (AutoListH.list___mul___list_int_3 l its.toArray n k t hfit hcap hlong) ⟨e,?_⟩⟩)
 rw[hnew]
 exact⟨.ref _,_,I.lnew (t':=s.toks) (r.rep k.toNat) (by rw[len_rep,Rm];exact hz),rfl,q _ I.fresh⟩
end
section
variable{prog:Program}{w:World}{A:Around}{E:Value->Shared->Prop}{s:Shared}
end
section
variable{X:Cx}
end
end L2
namespace Att
open PySem PySem.W PySem.Calls PyProof.Rows
theorem ints_of_wellAll{P:Params}{h:Heap}:∀(ns:List Int) (vs:List Value),WellAll P h vs (ns.map WData.int)->IntsAre vs ns:=by
 intro ns
 induction ns with
 |nil=>
  intro vs w
  rw[wgb]at w
  cases w
  exact .nil
 |cons n ns ih=>
  intro vs w
  rw[qM]at w
  cases w with
  |cons a b=>
   cases a
   exact .cons _ _ (ih _ b)
theorem script_of{l:OpenLaw}{n:Nat}(hn:l.most=some n){P:Params}{h:Heap}{args:List WData}{vals:List Value}(hpre:l.row.toRowW.claim.pre args=true)(hwl:WellAll P h vals args):
  ∃a vs ns,vals=[Value.ref a]/\args=[WData.list (ns.map WData.int)]/\h.get? a=some {cls:= .type "list",data:= .seq vs.toArray}/\IntsAre vs ns/\ns.length<=n:=by
 have hsh:WShape.hasAll [] args [.list .int]=true:=(pre_splitW hpre).1
 have hc:l.pre.holds [] {args:=args}=true:=(pre_splitW hpre).2
 obtain⟨d,r,rfl,h1,h2⟩:=hasAllW_cons hsh
 obtain rfl:=hasAllW_nil h2
 obtain⟨xs,rfl,h3⟩:=hasW_list h1
 obtain⟨ns,rfl⟩:=items_int h3
 have hlen:ns.length<=n:=by
  unfold OpenLaw.pre at hc
  have h4:(WTm.not (.lt (.lit (.int (n:Int))) (.len (.arg 0)))).holds [] {args:=[.list (ns.map .int)]}=true:=by
   have h4:=(holds_andW hc).1
   rw[hn]at h4
   exact h4
  have h5:=condW_of h4 (w_not (w_lt w_lit (w_len_list (w_arg rfl))))
  rw[aF]at h5
  refine Nat.le_of_not_lt fun q=> ?_
  have q':(n:Int)<((ns.length:Nat):Int):=by omega
  first
   |(rw[gb q']at h5;exact absurd h5 (by decide))
   |(simp at h5;omega)
 cases hwl with
 |cons w1 w2=>
  cases w2
  cases w1 with
  |list ho hall=>exact⟨_,_,ns,rfl,rfl,ho,ints_of_wellAll ns _ hall,hlen⟩
theorem post_true(l:OpenLaw)(args:List WData):l.row.toRowW.claim.post args (.bool true) args=true:=
 postW_of (r:=l.row.toRowW) (X:=(true==true))
  (show WShape.has [] (.bool true) .bool=true by first |rfl|decide|simp[WShape.has,WShape.arms,WShape.armsAll])
  (show(WTm.eq .res (.lit (.bool true))).value [] {args:=args,res:=some (.bool true),after:=args}=some (.bool (true==true))from w_eq_bool (w_res rfl) w_lit) rfl
theorem attach_call{l:OpenLaw}{n:Nat}{q:Program}{loose:List Str}{XP:(Str->Option Value)->Heap->Prop}{YP:World->Heap->Prop}{d:DefRec}(hn:l.most=some n)(hdf:d.params.defaults=[])(call:∀(w:World) (s₀ s₁:Shared) (mg mb:Str->Option Value) (fa:Addr) (o:Obj) (pm cd doc:Value) (a:Addr) (vs:List Value) (ns:List Int),
   Ground q loose [] XP w s₀ mg mb s₁.heap->YP w s₁.heap->
   s₁.heap.get? fa=some o->o.data= .func (docDef d.name d.params d.body d.scope pm cd doc)->s₁.heap.CodeRec cd d.name->mg d.name=some (.ref fa)->
   s₁.heap.get? a=some {cls:= .type "list",data:= .seq vs.toArray}->IntsAre vs ns->ns.length<=n->s₁.gens=#[]->
   codeAny (model l.prog w) callerA (.call (.ref fa) ⟨[.ref a],[]⟩) (fun r s'=>r= .ok (.ret (.bool true))/\OldK s₁.heap s'.heap/\s'.os=s₁.os/\AllBare s'.gens) s₁):
  WalkO q loose XP YP l.row.toRowW d [] (fun f vs=>PySem.call f vs):=by
 intro w s₀ s₁ mg mb G Y fa o pm cd doc dV kV ho hd hcd hD hmg hg args vals as hpre hlay hrd hwl hlo
 obtain rfl:dV= .none:=Dflts.none hD hdf
 obtain rfl:kV= .none:=Dflts.noKw hD
 obtain⟨a,vs,ns,rfl,rfl,hobj,hints,hlen⟩:=script_of hn hpre hwl
 refine enter_call (XD (call w s₀ s₁ mg mb fa o pm cd doc a vs ns G Y ho (fd_plain hd) hcd hmg hobj hints hlen hg) fun r s' hq=> ?_)
 obtain⟨rfl,h2,h3,h4⟩:=hq
 exact⟨.inl ⟨.bool true,.bool true,[],rfl,fun _=>rfl,.bool true,post_true l _,fun _=>⟨List.Pairwise.nil,fun _ hm=>(nomatch hm)⟩⟩,h2,h3,h4⟩
section
variable{prog:Program}{w:World}{A:Around}{E:Value->Shared->Prop}{s:Shared}{K:Frag}
end
end Att
namespace L2
open PySem PySem.Spec PyProof.Rows
theorem vals_ints:∀{vs:List Value} {ns:List Int},IntsAre vs ns->Vals (ns.map V.int) vs
 |_,_,.nil=> .nil
 |_,_,.cons n t h=> .cons ⟨t,rfl⟩ (vals_ints h)
def inClass(s:Stmt)(j:Nat):Stmt:=match s with
 | .ClassDef _ _ _ body _ _ _ _ _ _ _=>body.getD j (.Pass ⟨0,0,0,0⟩)
 |_=> .Pass ⟨0,0,0,0⟩
def defArgs(s:Stmt):Arguments:=match s with
 | .FunctionDef _ a _ _ _ _ _ _ _ _=>a
 |_=>{posonlyargs:=[],args:=[],vararg:=none,kwonlyargs:=[],kw_defaults:=[],kwarg:=none,defaults:=[]}
def defBody(s:Stmt):List Stmt:=match s with
 | .FunctionDef _ _ b _ _ _ _ _ _ _=>b
 |_=>[]
def defScope(s:Stmt):Scope:=match s with
 | .FunctionDef _ _ _ _ _ _ sc _ _ _=>sc
 |_=>{kind:= .function,names:=[],isGenerator:=false,isCoroutine:=false}
abbrev CX0:CXT:=fun _ _ _ _ _ _=>False
abbrev E0:XK:=fun _ _ _=>False
theorem pass0{X:Cx}:Passes CX0 X E0:=fun _ _ _ _ _ _ _ h=>h.elim
structure Fun(K:W.Frag)(x qual:Str)(st:Stmt)(f:Addr)(fd:FuncData):Prop where
 ex:∃(oc:Value) (od:Option Addr) (kV doc pm:Value) (an:Option Addr) (cdv ct:Value) (osl:Array (Option Value)),
  fd=PySem.W.fnOf x qual (defArgs st) (defBody st) (defScope st) .none kV doc pm an cdv ct/\K.lookup f=some ⟨oc,od,.func fd,osl⟩/\PySem.W.codeIn K cdv qual=true
 kp:PySem.W.keepIn K (.ref f)=true
section
variable{P:Program}{w:World}{K:W.Frag}{mg:Str->Option Value}{base:Heap}
theorem Fun.ok{x qual:Str}{st:Stmt}{f:Addr}{fd:FuncData}{N ps:List Str}{k:Nat}{sp:Sp}(F:Fun K x qual st f fd)(S:FnScope N ps (defScope st))(len:∀vs H Q E,sp vs H Q E->vs.length=ps.length)(hbody:∀(cdv:Value) (A:Around) (outer:List Env) (s:Shared) (H:Hp) (vs:List V) (Q:VK) (E:XK),Room k (A.deeper (envOfC qual (defScope st) s.heap.objs.size f cdv))->sp vs H Q E->
   ∃t,PSs (cxOf CX0 P w K mg base N qual (defScope st) f cdv A outer s H E).nox (defBody st) t/\t {nx:=fun _ H'=>Q .non H',rt:=Q} (start N vs) H):FnOk P w K mg base CX0 (k+1) f fd ps sp:=by
 obtain⟨oc,od,kV,doc,pm,an,cdv,ct,osl,rfl,lk,hcd⟩:=F.ex
 refine fn_of lk hcd S len fun A outer s H vs Q E hr hsp=> ?_
 obtain⟨t,h,q⟩:=hbody cdv A outer s H vs Q E hr hsp
 exact⟨t,h.nox,q⟩
theorem Fun.binds{x qual:Str}{st:Stmt}{f:Addr}{fd:FuncData}{ps:List Str}(F:Fun K x qual st f fd)(h:∀(kV doc pm:Value) (an:Option Addr) (cdv ct:Value) (us:List Value),us.length=ps.length->bindArgs (PySem.W.fnOf x qual (defArgs st) (defBody st) (defScope st) .none kV doc pm an cdv ct) ⟨us,[]⟩=pure (ps.zip us)):Binds K fd ps []:=by
 obtain⟨oc,od,kV,doc,pm,an,cdv,ct,osl,rfl,lk,hcd⟩:=F.ex
 exact .all (h kV doc pm an cdv ct)
theorem fun_mk{x qual:Str}{st:Stmt}{f:Addr}{oc:Value}{od an:Option Addr}{osl:Array (Option Value)}{kV doc pm cdv ct:Value}(l:K.lookup f=some ⟨oc,od,.func (PySem.W.fnOf x qual (defArgs st) (defBody st) (defScope st) .none kV doc pm an cdv ct),osl⟩)(c:PySem.W.codeIn K cdv qual=true)(k:PySem.W.keepIn K (.ref f)=true):Fun K x qual st f (PySem.W.fnOf x qual (defArgs st) (defBody st) (defScope st) .none kV doc pm an cdv ct):=⟨⟨oc,od,kV,doc,pm,an,cdv,ct,osl,rfl,l,c⟩,k⟩
end
theorem hu_of{A:Around}{k:Nat}(hr:Room k A):A.units+1<cLine:=xQ (Xn (by decide:1<=64) _) hr.units
theorem small1000{n:Nat}(h:n<=1000):n<sizeLine:=xQ h (by decide)
section
variable{X:Cx}
theorem pv(i:Nat){x:Str}{pos:Pos}(hN:X.N[i]? =some x:=by rfl)(hv:Vis X.env.scope x:=by first |exact Or.inl rfl|exact Or.inr (Or.inl rfl)|exact Or.inr (Or.inr rfl))(hd:(x==("__debug__":Str))=false:=by decide)(hcd:(x==("__classdict__":Str))=false:=by decide):PE X (.Name x pos) (tVar i):=pe_var hN hv hd hcd
end
theorem iteF{A B:Prop}(h:B):if false=true then A else B:=by
 rw[ak qN]
 exact h
theorem iteT{A B:Prop}(h:A):if true=true then A else B:=by
 rw[ao rfl]
 exact h
theorem ite2{c A B:Prop} [Decidable c](h1:c->A)(h2:¬c->B):if c then A else B:=by
 by_cases h:c
 ·rw[ao h]
  exact h1 h
 ·rw[ak h]
  exact h2 h
def Same(H H':Hp):Prop:=∀b o,H b=some o->H' b=some o
theorem Same.refl(H:Hp):Same H H:=fun _ _ h=>h
theorem Same.trans{H H1 H2:Hp}(a:Same H H1)(b:Same H1 H2):Same H H2:=fun c o h=>b c o (a c o h)
theorem Same.free{H H':Hp}(e:Same H H'){l:Addr}(h:H' l=Option.none):H l=Option.none:=by
 cases q:H l with
 |none=>rfl
 |some o=>
  rw[e l o q]at h
  cases h
theorem Same.seq{K:W.Frag}{H H':Hp}{a:Addr}{xs:List V}(e:Same H H')(h:SqL K H a xs):SqL K H' a xs:=by
 rcases h with(h|⟨o,h⟩)|h
 ·exact .inl (.inl (e _ _ h))
 ·exact .inl (.inr ⟨o,e _ _ h⟩)
 ·exact .inr h
end L2
set_option maxHeartbeats 4000000
namespace L2
open PySem PySem.Spec PyProof.Rows
def cT(cells:List (Str×Addr)):List (Str×NameKind)->List (Str×Addr)->List (Str×Addr)
 |[],acc=>acc
 |p::r,acc=>cT cells r (if(p.2==NameKind.free)=true then(p.1,(cells.lookup p.1).getD 0)::acc else acc)
theorem fK{cells:List (Str×Addr)}:∀{names:List (Str×NameKind)} {acc:List (Str×Addr)} {x:Str} {c:Addr},(x,c)∈cT cells names acc->(x,c)∈acc\/c=(cells.lookup x).getD 0/\(x,NameKind.free)∈names
 |[],_,_,_,h=> .inl h
 |(n,k)::r,acc,x,c,h=>by
  rcases fK (names:=r) h with q|⟨q,m⟩
  ·dsimp only at q
   split at q
   ·rename_i hk
    rcases cW.mp q with e|e
    ·cases e
     have:k=NameKind.free:=by simpa using hk
     subst this
     exact .inr ⟨rfl,cX⟩
    ·exact .inl e
   ·exact .inl q
  ·exact .inr ⟨q,eE _ m⟩
theorem zR{cells:List (Str×Addr)}:∀{names:List (Str×NameKind)} {acc:List (Str×Addr)} {p:Str×Addr},p∈acc->p∈cT cells names acc
 |[],_,_,h=>h
 |(n,k)::r,acc,p,h=>by
  refine zR (names:=r) ?_
  split
  ·exact eE _ h
  ·exact h
theorem n6{cells:List (Str×Addr)}:∀{names:List (Str×NameKind)} {acc:List (Str×Addr)} {x:Str},(x,NameKind.free)∈names->∃c,(x,c)∈cT cells names acc
 |(n,k)::r,acc,x,h=>by
  rcases cW.mp h with e|e
  ·cases e
   refine⟨(cells.lookup n).getD 0,zR (names:=r) ?_⟩
   rw[ao (show(NameKind.free==NameKind.free)=true from rfl)]
   exact cX
  ·exact n6 (names:=r) e
theorem Wj{β:Type}:∀{l:List (Str×β)} {x:Str} {c:β},(x,c)∈l->∃d,l.lookup x=some d/\(x,d)∈l
 |(n,k)::r,x,c,h=>by
  cases hx:x==n with
  |true=>
   have e:x=n:=by simpa using hx
   subst e
   exact⟨k,by simp[FN],cX⟩
  |false=>
   rcases cW.mp h with e|e
   ·cases e;simp at hx
   ·obtain⟨d,h1,h2⟩:=Wj e
    exact⟨d,by simp only[FN,hx];exact h1,eE _ h2⟩
def aU(sc scope:Scope):Bool:=scope.names.all fun p=>(p.2 !=NameKind.cell)&&(p.2 !=NameKind.local||scope.names.lookup p.1==some NameKind.local)&&
 (p.2 !=NameKind.free||sc.names.lookup p.1==some NameKind.cell||sc.names.lookup p.1==some NameKind.free)
section
variable{sc scope:Scope}
theorem aU.cell(h:aU sc scope=true):∀y∈scope.names,y.2≠.cell:=fun y hy e=>by
 have q:=oM.mp h y hy
 simp[e]at q
theorem aU.names(h:aU sc scope=true):∀y∈scope.names,y.2= .local->scope.names.lookup y.1=some .local:=fun y hy e=>by
 have q:=oM.mp h y hy
 simpa[e]using q
theorem aU.free(h:aU sc scope=true){x:Str}(hy:(x,NameKind.free)∈scope.names):sc.names.lookup x=some .cell\/sc.names.lookup x=some .free:=by
 have q:=oM.mp h _ hy
 simpa using q
end
theorem jt{scope:Scope}{env:Env}(h:∀x,(x,NameKind.free)∈scope.names->∃c,env.cells.lookup x=some c):closureFor scope env=pure (cT env.cells scope.names []):=by
 have key:∀(names:List (Str×NameKind)) (acc:List (Str×Addr)),(∀x,(x,NameKind.free)∈names->∃c,env.cells.lookup x=some c)->
   (forIn names acc fun(x:Str×NameKind) (cs:List (Str×Addr))=>if(x.2==NameKind.free)=true then(do let y<-cellOf env x.1;pure (ForInStep.yield ((x.1,y)::cs)))else pure (ForInStep.yield cs):Sem (List (Str×Addr)))=pure (cT env.cells names acc):=by
  intro names
  induction names with
  |nil=>intro acc _;rfl
  |cons p r ih=>
   intro acc hh
   obtain⟨n,k⟩:=p
   rw[wge]
   dsimp only
   by_cases hk:(k==NameKind.free)=true
   ·have e:k=NameKind.free:=by simpa using hk
    subst e
    obtain⟨c,hc⟩:=hh n cX
    rw[ao hk]
    unfold cellOf
    rw[hc]
    simp only[pure_bind]
    refine Eq.trans (ih _ fun x hx=>hh x (eE _ hx)) ?_
    show _=pure (cT env.cells r (if(NameKind.free==NameKind.free)=true then(n,(env.cells.lookup n).getD 0)::acc else acc))
    rw[ao hk,hc]
    rfl
   ·rw[ak hk]
    simp only[pure_bind]
    refine Eq.trans (ih _ fun x hx=>hh x (eE _ hx)) ?_
    show _=pure (cT env.cells r (if(k==NameKind.free)=true then(n,(env.cells.lookup n).getD 0)::acc else acc))
    rw[ak hk]
 have q:=key scope.names [] h
 unfold closureFor
 simp only[bind_pure]
 exact q
theorem jq{env:Env}:∀{names:List (Str×NameKind)} {x:Str} {k:NameKind},names.lookup x=some k->
  (names.map fun(n,k)=>if(k==NameKind.free&&env.scope.kind== .function&&env.kindOf n==some .cell)then(n,NameKind.cell)else(n,k)).lookup x=some (if(k==NameKind.free&&env.scope.kind== .function&&env.kindOf x==some .cell)=true then .cell else k)
 |[],_,_,h=>by simp at h
 |(n,k)::r,x,k',h=>by
  have ih:= @jq env r x k'
  show List.lookup x ((if(k==NameKind.free&&env.scope.kind== .function&&env.kindOf n==some .cell)=true then(n,NameKind.cell)else(n,k))::_)=_
  cases hx:x==n with
  |true=>
   have e:x=n:=by simpa using hx
   subst e
   simp only[FN,hx]at h
   cases h
   by_cases hc:(k==NameKind.free&&env.scope.kind== .function&&env.kindOf x==some .cell)=true
   ·rw[ao hc,ao hc];simp[FN]
   ·rw[ak hc,ak hc];simp[FN]
  |false=>
   simp only[FN,hx]at h
   by_cases hc:(k==NameKind.free&&env.scope.kind== .function&&env.kindOf n==some .cell)=true
   ·rw[ao hc];simp only[FN,hx];exact ih h
   ·rw[ak hc];simp only[FN,hx];exact ih h
theorem mj{env:Env}:∀{names:List (Str×NameKind)} {x:Str},names.lookup x=none->
  (names.map fun(n,k)=>if(k==NameKind.free&&env.scope.kind== .function&&env.kindOf n==some .cell)then(n,NameKind.cell)else(n,k)).lookup x=none
 |[],_,_=>rfl
 |(n,k)::r,x,h=>by
  have ih:= @mj env r x
  show List.lookup x ((if(k==NameKind.free&&env.scope.kind== .function&&env.kindOf n==some .cell)=true then(n,NameKind.cell)else(n,k))::_)=_
  cases hx:x==n with
  |true=>simp only[FN,hx]at h;cases h
  |false=>
   simp only[FN,hx]at h
   by_cases hc:(k==NameKind.free&&env.scope.kind== .function&&env.kindOf n==some .cell)=true
   ·rw[ao hc];simp only[FN,hx];exact ih h
   ·rw[ak hc];simp only[FN,hx];exact ih h
theorem Bp{scope:Scope}{env:Env}{x:Str}(hc:∀y∈scope.names,y.2≠.cell)(h:(relabel scope env).names.lookup x=some .cell\/(relabel scope env).names.lookup x=some .free):(x,NameKind.free)∈scope.names:=by
 cases e:scope.names.lookup x with
 |none=>
  have q:=mj (env:=env) e
  rcases h with h|h
  ·rw[show(relabel scope env).names.lookup x=none from q]at h;cases h
  ·rw[show(relabel scope env).names.lookup x=none from q]at h;cases h
 |some k=>
  have q:=jq (env:=env) e
  have m:=uH e
  by_cases hk:k= .free
  ·subst hk;exact m
  ·have q':(relabel scope env).names.lookup x=some k:=by
    refine Eq.trans q ?_
    have:(k==NameKind.free)=false:=by simpa using hk
    simp[this]
   rw[q']at h
   rcases h with h|h
   ·cases h;exact absurd rfl (hc _ m)
   ·cases h;exact absurd rfl hk
theorem sG{scope:Scope}{env:Env}{x:Str}(h:scope.names.lookup x=some .free):(relabel scope env).names.lookup x=some .cell\/(relabel scope env).names.lookup x=some .free:=by
 have q:=jq (env:=env) h
 by_cases hc:((NameKind.free==NameKind.free)&&env.scope.kind== .function&&env.kindOf x==some .cell)=true
 ·rw[ao hc]at q;exact .inl q
 ·rw[ak hc]at q;exact .inr q
def fU(X:Cx)(scope:Scope)(N:List Str)(s:Shared)(H:Hp)(cl:List (Str×Addr))(C:Addr)(ex:List Addr):Cx:=
 {X with N:=N,s₀:=s,H₀:=H,env:=compEnvC scope cl C X.env,outer:=X.stack,ex:=ex,fn:=fun _=>false,pn:=[],xe:=fun _ _=>False}
inductive jw(X:Cx)(scope:Scope):List Str->List Nat->Prop
 |nil:jw X scope [] []
 |cons {x:Str} {j:Nat} {xs:List Str} {js:List Nat} (hN:X.N[j]? =some x) (hf:scope.names.lookup x=some .free) (t:jw X scope xs js):jw X scope (x::xs) (j::js)
theorem jw.get{X:Cx}{scope:Scope}:∀{xs:List Str} {js:List Nat} {k:Nat} {x:Str},jw X scope xs js->xs[k]? =some x->∃j,js[k]? =some j/\X.N[j]? =some x/\scope.names.lookup x=some .free
 |_,_,k,x,.nil,h=>by simp at h
 |_,_,0,x,.cons h1 h2 _,h=>by simp at h;subst h;exact⟨_,rfl,h1,h2⟩
 |_,_,k+1,x,.cons _ _ t,h=>by
  obtain⟨j,a,b⟩:=jw.get (k:=k) t (by simpa using h)
  exact⟨j,by simpa using a,b⟩
theorem jw.len{X:Cx}{scope:Scope}:∀{xs:List Str} {js:List Nat},jw X scope xs js->xs.length=js.length
 |_,_,.nil=>rfl
 |_,_,.cons _ _ t=>by simp[jw.len t]
def nR(own:List Str)(ix:List Nat)(σ:St):St:=own.map (fun _=>none)++ix.map fun j=>(σ[j]?).join
def Rf(X:Cx)(ifs:List Expr)(t:TT):Prop:=
 ∀(pins:List (Addr×Obj)) (s:Shared) (σ:St) (H:Hp) (Q:Bool->Hp->Prop),Inv X pins σ H s->t σ H Q->
  wpAny (model X.prog X.w) X.A (forIn ifs true fun c r=>if r=true then do let ok<-isTrue c X.env (eval c X.env);pure (ForInStep.yield ok)else pure (ForInStep.yield r)) (TP X pins σ Q) X.xe s
theorem qb{X:Cx}:Rf X [] (fun _ H Q=>Q true H):=fun _ _ _ H _ I h=>wpAny_tests_nil ⟨H,I,h⟩
theorem fj{X:Cx}{c:Expr}{t:TT}(h:PT X c t):Rf X [c] t:=fun pins s σ H Q I hq=>wpAny_tests_one (h pins s σ H Q I hq)
theorem HOk.add{P:Program}{w:World}{H:Hp}{h:Heap}{a:Addr}{o:HO}(x:HOk P w H h)(hn:H a=none)(new:ObjOk P w (upd H a o) h a o):HOk P w (upd H a o) h:=fun b u e=>by
 by_cases hb:b=a
 ·subst hb;rw[aH]at e;cases e;exact new
 ·rw[cG hb]at e
  exact(x b u e).stay (fun c v _ q=>q) (fun c q=>by rw[cG (lN q hn)];exact q) fun c xs q=>by rw[cG (lN q hn)];exact q
theorem Un.add{fs ex:List Addr}{H H':Hp}{h h':Heap}{a:Addr}{o:HO}(u:Un fs ex H H' h h')(ha:h.objs.size<=a)(hn:H' a=none):Un fs ex H (upd H' a o) h h' where
 keep:=u.keep
 slot:=u.slot
 free:=fun b ob q n hx=>by rw[cG (dM (iJ (cZ q) ha))];exact u.free b ob q n hx
 there:=u.there
 tups:=fun b xs q=>by have:=u.tups b xs q;rw[cG (lN this hn)];exact this
 frzs:=fun b ob xs q=>by have:=u.frzs b ob xs q;rw[cG (lN this hn)];exact this
 tbls:=fun b ps q=>by obtain⟨m,e⟩:=u.tbls b ps q;exact⟨m,by rw[cG (lN e hn)];exact e⟩
section
variable{X:Cx}{tg iter elt:Expr}{ifs:List Expr}{scope:Scope}{pos:Pos}{own caps:List Str}{ix:List Nat}{g:TG}{tc:TT}{te:TE}
theorem Ck{pins:List (Addr×Obj)}{s s':Shared}{σ:St}{H:Hp}{fp:List Addr}{C:Addr}{m:Str->Option Value}(ck:aU X.env.scope scope=true)(hkind:scope.kind= .function)(hcap:jw X scope caps ix)
  (I:Inv X pins σ H s)(f2:∀b∈fp,FpOk X pins H b)(hlt:∀b∈fp,b<s.heap.objs.size)(hC:s.heap.objs.size<=C)(hos:s'.os=s.os)(hg:AllBare s'.gens)(hk:∀b o,s.heap.get? b=some o->s'.heap.get? b=some o)(hn:s'.heap.Ns C m):
  Inv (fU X scope (own++caps) s H (cT X.env.cells scope.names []) C fp) [] (nR own ix σ) H s':=by
 have cl1:∀x c,(cT X.env.cells scope.names []).lookup x=some c->X.env.cells.lookup x=some c:=fun x c e=>by
  rcases fK (uH e)with q|⟨q,mm⟩
  ·cases q
  ·obtain⟨d,hd⟩:=I.ok.has x (aU.free ck mm)
   rw[hd]at q
   rw[hd,q];rfl
 have cl2:∀x,(x,NameKind.free)∈scope.names->∃c,(cT X.env.cells scope.names []).lookup x=some c:=fun x mm=>by
  obtain⟨c,hc⟩:=n6 (cells:=X.env.cells) (acc:=[]) mm
  obtain⟨d,hd,_⟩:=Wj hc
  exact⟨d,hd⟩
 have bsz:X.base.objs.size<=s.heap.objs.size:=bZ I.ok.bsz I.sz
 refine⟨⟨I.ok.mod,hkind,I.ok.glob,I.ok.blt,hC,fun x y c h1 h2=>I.ok.inj x y c (cl1 x c h1) (cl1 y c h2),fun x hx=>cl2 x (Bp (aU.cell ck) hx),fun x c h=>(nomatch h),I.ok.hd,I.ok.frames,.inl rfl,fun b hb=>⟨dM (iJ (hlt b hb) hC),fun x c e=>(f2 b hb).2.2.2.2.1 x c (cl1 x c e)⟩,I.bs,bsz,
  fun b o e hb=> ?_,fun b hb hz=> ?_,I.stack,I.stkFree⟩,?_,hg,Un.kept hk,⟨m,hn,fun i x v h1 h2 h3=> ?_⟩,fun x c e=> ?_,I.hok.fresh hC,fun x c e=>I.freeC x c (cl1 x c e),fun p hp=>absurd (show p∈([]:List (Addr×Obj))from hp) (by simp),I.hok.kept hk,?_⟩
 ·rcases(f2 b hb).2.2.2.1 with z|z
  ·exact I.ok.noex b o e z
  ·exact absurd (iJ (cZ e) (bZ I.ok.bsz z)) (oK _)
 ·rcases cW.mp (I.stkSub b hz)with z|z
  ·exact(f2 b hb).2.1 z
  ·exact(f2 b hb).2.2.1 z
 ·exact hos
 ·have h1:(own++caps)[i]? =some x:=h1
  have h2:(own.map (fun _=>(none:Option V))++ix.map fun j=>(σ[j]?).join)[i]? =some (some v):=h2
  by_cases hi:i<own.length
  ·rw[Xp (by simpa using hi),cg]at h2
   cases e:own[i]? <;>rw[e]at h2<;>simp at h2
  ·rw[Tq (by simpa using hi)]at h2
   rw[Tq (by omega)]at h1
   rw[aF]at h2
   obtain⟨j,e1,e2,e3⟩:=hcap.get h1
   rw[cg,e1]at h2
   have h2':(σ[j]?).join=some v:=by simpa using h2
   have h4:σ[j]? =some (some v):=by
    cases q:σ[j]? with
    |none=>rw[q]at h2';cases h2'
    |some w=>rw[q]at h2';exact jy some h2'
   obtain⟨m0,hn0,hl0⟩:=I.loc
   have mm:=uH e3
   have vis:=aU.free ck mm
   obtain⟨u,r,l⟩:=hl0 j x v e2 h4 (.inr vis)
   refine⟨u,r,.inr ?_⟩
   rcases l with⟨k,_⟩|⟨k,c,e,z⟩
   ·rcases vis with q|q
    ·rw[show X.env.kindOf x=some .cell from q]at k;cases k
    ·rw[show X.env.kindOf x=some .free from q]at k;cases k
   ·obtain⟨d,hd⟩:=cl2 x mm
    have:=cl1 x d hd
    rw[e]at this
    cases this
    exact⟨sG e3,c,hd,z.keeps hk⟩
 ·obtain⟨v,z⟩:=I.cell x c (cl1 x c e)
  exact⟨v,z.keeps hk⟩
 ·show(own.map (fun _=>(none:Option V))++ix.map fun j=>(σ[j]?).join).length=(own++caps).length
  simp[hcap.len]
theorem u6(ck:aU X.env.scope scope=true)(hkind:scope.kind= .function)(hcap:jw X scope caps ix)(hc:X.calm=true)(hg:∀s H cl C ex,PG (fU X scope (own++caps) s H cl C ex) tg g)(ht:∀s H cl C ex,Rf (fU X scope (own++caps) s H cl C ex) ifs tc)(he:∀s H cl C ex,PE (fU X scope (own++caps) s H cl C ex) elt te){pins:List (Addr×Obj)}{s2:Shared}{σ:St}{H2:Hp}{E:Value->Shared->Prop}(I2:Inv X pins σ H2 s2){it:Addr}{fp:List Addr}{tn:Nat->Heap->Prop}{J:It}(T:Turn X.prog X.w X.K tg J fp it tn)(st2:tn 0 s2.heap)(f2:∀b∈fp,FpOk X pins H2 b)
  {W:Nat->Nat->List V->St->Hp->Prop}{m0:Nat}(w0:W 0 m0 [] (nR own ix σ) H2){Fin:List V->Hp->Prop}(turn:∀i m acc σ H,W i m acc σ H->(J.stop i H/\acc.length<=sizeLine/\Fin acc H)\/(J.go i H/\acc.length<sizeLine/\∃N:List V->St->Hp->Prop,(∀acc' σ' H',N acc' σ' H'->∃m',m'<m/\W (i+1) m' acc' σ' H')/\∀x H',J.yld i H x H'->g x σ H' fun σ2 H2=>tc σ2 H2 fun b H3=>
   if b=true then te σ2 H3 fun v H4=>N (acc++[v]) σ2 H4 else N acc σ2 H3))
  {RR:Value->Addr->Result->Shared->Prop}(hRR:∀D C s' acc Hf m,Inv X pins σ (upd Hf D (.lst acc)) s'->Hf D=none->s'.heap.Ns C m->FpOk X pins (upd Hf D (.lst acc)) C->Fin acc Hf->RR (.ref D) C (.ok .next) s'):
  wpAny (model X.prog X.w) X.A (newList []) (fun acc s₃=>wpAny (model X.prog X.w) X.A (newFunctionEnv scope X.env.globals (cT X.env.cells scope.names []) [] X.env.qual none .none (some X.env)) (fun cenv s₄=>
   codeAny (model X.prog X.w) X.A (.compStart (.ListComp elt [⟨tg,iter,ifs,0⟩] scope pos) 0 (.ref it) acc {cenv with scope:=relabel scope X.env}) (RR acc cenv.locals) s₄) E s₃) E s2:=by
 refine Jh (wpAny_newFunctionEnv (aU.cell ck) (by intro y hy;simp at hy) (fun h₁ hns₁ hsb₁=> ?_) hkind)
 dsimp only at hns₁ hsb₁⊢
 generalize hP:s2.heap.push {cls:= .type "list",dict:=none,data:= .seq ([]:List Value).toArray}=P1 at hns₁ hsb₁⊢
 have hC:P1.objs.size=s2.heap.objs.size+1:=by rw[<-hP,Aj]
 have hlt:∀b∈fp,b<s2.heap.objs.size:=fun b hb=>by
  obtain⟨o,e,_⟩:=T.obj _ _ st2 b hb
  exact cZ e
 have old:∀b o,s2.heap.get? b=some o->h₁.get? b=some o:=fun b o e=>
  hsb₁.extBut b o (by rw[hC];exact dM (qz (cZ e))) (cO _ (hP▸cO _ e))
 have hD1:h₁.get? s2.heap.objs.size=some {cls:= .type "list",data:= .seq ([]:List Value).toArray 0}:=
  hsb₁.extBut _ _ (by rw[hC];exact dM (oR _)) (cO _ (hP▸jx _ rfl))
 generalize wI:s2.heap.objs.size=D at *
 rw[hC]at hns₁⊢
 have entry:Inv (fU X scope (own++caps) s2 H2 (cT X.env.cells scope.names []) (D+1) fp) [] (nR own ix σ) H2 {s2 with heap:=h₁,toks:=s2.toks+([]:List (Str×Value)).length}:=
  Ck ck hkind hcap I2 f2 (by rw[wI];exact hlt) (by rw[wI];exact Af _) rfl I2.bare old hns₁
 generalize hX':fU X scope (own++caps) s2 H2 (cT X.env.cells scope.names []) (D+1) fp=X' at entry
 have eP:X'.prog=X.prog:=by rw[<-hX'];rfl
 have ew:X'.w=X.w:=by rw[<-hX'];rfl
 have eK:X'.K=X.K:=by rw[<-hX'];rfl
 have eA:X'.A=X.A:=by rw[<-hX'];rfl
 have zN:X'.calm=true:=by rw[<-hX'];exact hc
 have V6:X'.fs=frs X.stack:=by rw[<-hX'];rfl
 have ZD:X'.ex=fp:=by rw[<-hX'];rfl
 have ZC:X'.pn=[]:=by rw[<-hX'];rfl
 have V5:X'.s₀=s2:=by rw[<-hX'];rfl
 have eH0:X'.H₀=H2:=by rw[<-hX'];rfl
 have exe:X'.xe=fun _ _=>False:=by rw[<-hX'];rfl
 have wR:X'.env=compEnvC scope (cT X.env.cells scope.names []) (D+1) X.env:=by rw[<-hX'];rfl
 have tM:X'.env.locals=D+1:=by rw[wR];rfl
 have hg':PG X' tg g:=by rw[<-hX'];exact hg _ _ _ _ _
 have ht':Rf X' ifs tc:=by rw[<-hX'];exact ht _ _ _ _ _
 have he':PE X' elt te:=by rw[<-hX'];exact he _ _ _ _ _
 have ecl:∀x c,X'.env.cells.lookup x=some c->c<D:=fun x c e=>by
  obtain⟨v,o,ho,_⟩:=entry.cell x c e
  have hcn:=entry.freeC x c e
  -- a cell of the enclosing frame: it lies in aaP heap
  rw[wR]at e
  rcases fK (uH e)with q|⟨q,mm⟩
  ·cases q
  ·obtain⟨d,hd⟩:=I2.ok.has x (aU.free ck mm)
   rw[hd]at q
   have q:c=d:=q
   subst q
   obtain⟨v',o',ho',_⟩:=I2.cell x c hd
   rw[<-wI]
   exact cZ ho'
 have dfs:D∉frs X.stack:=fun hb=>by
  rcases cW.mp (I2.stkSub D hb)with z|z
  ·exact absurd (Nat.lt_of_lt_of_eq I2.lt wI) (by rw[z];exact oK _)
  ·exact I2.nofs (Ah wI) z
 have V3:∀{H':Hp} {o:Obj},(∀b∈fp,H' b=none)->∀b∈fp,FpOk X' [(D,o)] H' b:=fun{H' o} hn b hb=>by
  have WT:=hlt b hb
  refine⟨hn b hb,by rw[tM];exact dM (qz WT),?_,.inl (by rw[ZD];exact hb),fun x c e=> ?_,fun p hp=> ?_⟩
  ·rw[V6]
   intro z
   rcases cW.mp (I2.stkSub b z)with z|z
   ·exact(f2 b hb).2.1 z
   ·exact(f2 b hb).2.2.1 z
  ·rw[wR]at e
   rcases fK (uH e)with q|⟨q,mm⟩
   ·cases q
   ·obtain⟨d,hd⟩:=I2.ok.has x (aU.free ck mm)
    rw[hd]at q
    have q:c=d:=q
    subst q
    exact(f2 b hb).2.2.2.2.1 x c hd
  ·rw[ZC]at hp
   have:p=(D,o):=by simpa using hp
   rw[this]
   exact xX WT
 have Uv:∀{σ':St} {H':Hp} {s':Shared} {o:Obj},Inv X' [] σ' H' s'->s'.heap.get? D=some o->H' D=none->(∀v,o.data≠.cell v)->Inv X' [(D,o)] σ' H' s':=fun{σ' H' s' o} I e n d=>
  I.pins_of fun p hp=>by
   have:p=(D,o):=by simpa using hp
   subst this
   exact⟨e,n,by rw[tM];exact dM (oR D),by rw[V6];exact dfs,d⟩
 have loop:∀s₃:Shared,s₃={s2 with heap:=h₁,toks:=s2.toks+([]:List (Str×Value)).length}->
   codeAny (model X.prog X.w) X.A (.compLoop (.ListComp elt [⟨tg,iter,ifs,0⟩] scope pos) 0 (.ref it) (.ref D) X'.env) (RR (.ref D) (D+1)) s₃:=by
  intro s₃ hs₃
  refine codeAny_loop rfl (fun n s'=>∃i acc its k σ' H',Inv X' [] σ' H' s'/\tn i s'.heap/\(∀b∈fp,H' b=none)/\s'.heap.get? D=some {cls:= .type "list",data:= .seq (List.toArray its) k}/\Vals acc its/\H' D=none/\W i n acc σ' H') ?_ m0
   ⟨0,[],[],0,nR own ix σ,H2,by rw[hs₃];exact entry,by rw[hs₃];exact T.keep _ _ _ st2 fun b _ o e=>old b o e,fun b hb=>(f2 b hb).1,by rw[hs₃];exact hD1,.nil,I2.hok.fresh (Ah wI),w0⟩
  rintro n s3 ⟨i,acc,its,k,σ3,H3,I3,st3,fr3,eD,rv,nD,w3⟩
  show wpAny _ X.A ((compTurn (.ListComp elt [⟨tg,iter,ifs,0⟩] scope pos) 0 (.ref it) (.ref D) X'.env).onRaise (fun x=>do noteFrame x X'.env;theTreesLotGoes x)) _ _ s3
  refine wpAny_noted ?_
  rw[compTurn_list]
  have Vj:∀{α:Type} {t:Sem α} {Q:α->Shared->Prop} {E':Value->Shared->Prop} {s:Shared},wpAny (model X'.prog X'.w) X'.A t Q X'.xe s->wpAny (model X.prog X.w) X.A t Q E' s:=fun{α t Q E' s} h=>by
   rw[eP,ew,eA,exe]at h
   exact Aq h (fun _ _ q=>q) fun _ _ z=>z.elim
  have Z0:=Uv (o:={cls:= .type "list",data:= .seq (List.toArray its) k}) I3 eD nD (fun v z=>by
   have z':Data.seq (List.toArray its) k=Data.cell v:=z
   cases z')
  refine aA (wfc (aA ?_))
  rcases turn i n acc σ3 H3 w3 with⟨stop,hz,fin⟩|⟨go,hz,Nn,hN,step⟩
  ·have q:=T.done X' eP ew eK zN i [(D,_)] s3 σ3 H3 (notedBy (model X.prog X.w) X.A X'.env fun e s'=>RR (.ref D) (D+1) (.error e) s') Z0 (V3 fr3) st3 stop
   rw[eA]at q
   refine thn q fun r s4 ⟨hr,I4⟩=> ?_
   subst hr
   refine bC ?_
   obtain⟨e4,_⟩:=I4.pin (D,_) (jc _ cX)
   obtain⟨mC,hnC,_⟩:=I4.loc
   have u4:=I4.base
   rw[V6,ZD,eH0,V5]at u4
   have Yn:=I4.hok
   rw[eP,ew]at Yn
   have nC:H3 (D+1)=none:=by have:=I4.free;rw[tM]at this;exact this
   have hok:HOk X.prog X.w (upd H3 D (.lst acc)) s4.heap:=Yn.add nD ⟨hz,its,k,rv,e4⟩
   refine hRR D (D+1) s4 acc H3 mC ?_ nD (by rw[tM]at hnC;exact hnC) ?_ fin
   ·refine I2.call' (s':=s4) (ch:=fp) ?_ (u4.add (by rw[wI];exact aJ _) nD) hok I4.bare fun b hb=> ?_
    ·have:=I4.os;rw[V5]at this;exact this
    ·obtain⟨f0,f1,f3,f4,f5,f6⟩:=f2 b hb
     exact⟨f4,f1,f5,f6⟩
   ·refine I2.fpOk (by rw[wI];exact Af _) ?_
    rw[cG (xX (oR D))]
    exact nC
  ·have q:=T.item X' eP ew eK zN i [(D,_)] s3 σ3 H3 (notedBy (model X.prog X.w) X.A X'.env fun e s'=>RR (.ref D) (D+1) (.error e) s') Z0 (V3 fr3) st3 go
   rw[eA]at q
   refine thn q fun r s4 ⟨u,hr,h4⟩=> ?_
   subst hr
   dsimp only
   refine aA (thn h4 fun _ s5 ⟨x,H5,I5,r5,y5,st5,fr5⟩=> ?_)
   have I5':=I5.pinned (V3 fr5) (T.obj _ _ st5)
   have again:∀{σ7:St} {H7:Hp} {s7:Shared},Inv X' ([(D,{cls:= .type "list",data:= .seq (List.toArray its) k})]++pinsAt fp s5.heap) σ7 H7 s7->tn (i+1) s7.heap/\(∀b∈fp,H7 b=none)/\s7.heap.get? D=some {cls:= .type "list",data:= .seq (List.toArray its) k}/\H7 D=none:=fun{σ7 H7 s7} I7=>by
    refine⟨T.keep _ _ _ st5 fun b hb o e=>(I7.pin (b,o) (jc _ (jc _ (mem_pinsAt hb e)))).1,fun b hb=> ?_,?_⟩
    ·obtain⟨o,e,d⟩:=T.obj _ _ st5 b hb
     exact(I7.pin (b,o) (jc _ (jc _ (mem_pinsAt hb e)))).2.1
    ·have:=I7.pin (D,_) (jc _ (Jc _ cX))
     exact⟨this.1,this.2.1⟩
   refine aA (thn (Vj (hg' _ s5 σ3 H5 x u _ I5' r5 (step x H5 y5))) fun _ s6 ⟨σ6,H6,I6,q6⟩=> ?_)
   refine aA (thn (Vj (ht' _ s6 σ6 H6 _ I6 q6)) fun ok s7 ⟨H7,I7,q7⟩=> ?_)
   cases ok with
   |false=>
    rw[ak qN]at q7
    obtain⟨m',hm,w7⟩:=hN _ _ _ q7
    obtain⟨a1,a2,a3,a4⟩:=again I7
    exact bC ⟨rfl,m',hm,i+1,acc,its,k,σ6,H7,I7.pins_of (fun p hp=>nomatch hp),a1,a2,a3,rv,a4,w7⟩
   |true=>
    rw[ao rfl]at q7
    refine aA (aA (thn (Vj (he' _ s7 σ6 H7 _ I7 q7)) fun v s8 ⟨y,H8,I8,r8,q8⟩=> ?_))
    obtain⟨m',hm,w8⟩:=hN _ _ _ q8
    obtain⟨a1,a2,a3,a4⟩:=again I8
    have hl:=rv.length
    refine aA (NZ wej ⟨_,a3,rfl⟩ wdu (wdj _ _) (weq D its.toArray k v (by rw[fL];omega)) ⟨a3,?_⟩)
    refine bC (bC ⟨rfl,m',hm,i+1,acc++[y],its++[v],?_⟩)
    have qD:=wfn a3 (fun a:Array Value=>a.push v)
    rw[List.push_toArray]at qD
    have kp:∀b o,b≠D->s8.heap.get? b=some o->(s8.heap.update D (Obj.mapSeq fun a=>a.push v)).get? b=some o:=fun b o hb e=>(yed s8.heap _ (lO hb)).trans e
    have I8':Inv X' [] σ6 H8 {s8 with heap:=s8.heap.update D (Obj.mapSeq fun a=>a.push v)}:=by
     refine(I8.pins_of (pins':=[]) (fun p hp=>nomatch hp)).turned (t':=s8.toks) (it:=D) kp a4 (by rw[tM];exact dM (oR D)) (.inr (by rw[V5,wI];exact aJ _)) (fun x c e=>dM (ecl x c e)) (fun p hp=> ?_)
     rw[ZC]at hp
     exact nomatch hp
    exact⟨_,σ6,H8,I8',T.keep _ _ _ a1 fun b hb o e=>kp b o (dM (hlt b hb)) e,a2,qD,rv.append (.cons r8 .nil),a4,w8⟩
 have MF:({newEnv scope (D+1) X.env.globals (cT X.env.cells scope.names []) X.env.qual none Value.none (some X.env) 0 with scope:=relabel scope X.env}:Env)=X'.env:=by rw[wR];rfl
 have L:=loop _ rfl
 rw[<-MF]at L
 exact codeAny_compStart_list L (T.self X.A 0 _ _ _ (T.keep _ _ _ st2 fun b _ o e=>old b o e) L)
end
def vo(J:It)(ini:St)(H:Hp)(g:TG)(tc:TT)(te:TE)(Fin:List V->Hp->Prop):Prop:=
 ∃W:Nat->Nat->List V->St->Hp->Prop,(∃m,W 0 m [] ini H)/\∀i m acc σ H,W i m acc σ H->
  (J.stop i H/\acc.length<=sizeLine/\Fin acc H)\/(J.go i H/\acc.length<sizeLine/\∃N:List V->St->Hp->Prop,(∀acc' σ' H',N acc' σ' H'->∃m',m'<m/\W (i+1) m' acc' σ' H')/\∀x H',J.yld i H x H'->g x σ H' fun σ2 H2=>tc σ2 H2 fun b H3=>
   if b=true then te σ2 H3 fun v H4=>N (acc++[v]) σ2 H4 else N acc σ2 H3)
def Jw(wi:TI)(own:List Str)(ix:List Nat)(g:TG)(tc:TT)(te:TE):TE:=fun σ H Q=>wi σ H fun J H1=>
 vo J (nR own ix σ) H1 g tc te fun acc H'=>∀p,H' p=none->Q (.ref p) (upd H' p (.lst acc))
section
variable{X:Cx}{tg iter elt:Expr}{ifs:List Expr}{scope:Scope}{pos:Pos}{own caps:List Str}{ix:List Nat}{wi:TI}{g:TG}{tc:TT}{te:TE}
theorem oH(hc:X.calm=true)(hi:PI X tg iter wi)(ck:aU X.env.scope scope=true)(hkind:scope.kind= .function)(hcap:jw X scope caps ix)(hg:∀s H cl C ex,PG (fU X scope (own++caps) s H cl C ex) tg g)(ht:∀s H cl C ex,Rf (fU X scope (own++caps) s H cl C ex) ifs tc)(he:∀s H cl C ex,PE (fU X scope (own++caps) s H cl C ex) elt te)(hs:∀x,foldedSetIterable iter X.env x=pure x:=by intro _;rfl):PE X (.ListComp elt [⟨tg,iter,ifs,0⟩] scope pos) (Jw wi own ix g tc te):=by
 intro pins s σ H Q I h
 rw[eval_ListComp]
 refine wch (use:=none) rfl hs (jt fun x hx=>I.ok.has x (aU.free ck hx)) hkind (aU.names ck) (thn (hi pins s σ H _ I h) fun xv s1 h1=>thn h1 fun itv s2 h2=> ?_)
 obtain⟨it,fp,tn,J,H2,e,I2,T,st2,f2,W,⟨m0,w0⟩,turn⟩:=h2
 subst e
 refine u6 (RR:=fun acc C=>compPost (model X.prog X.w) X.A X.xe none (EP X pins σ Q) acc C) ck hkind hcap hc hg ht he I2 T st2 f2 w0 turn ?_
 intro D C s' acc Hf m I' nD hn fC fin
 refine⟨m,hn,fun h' sb=> ?_⟩
 obtain⟨f0,f1,f3,f4,f5,f6⟩:=fC
 exact⟨.ref D,_,I'.turned (t':=s'.toks) (it:=C) (fun b o hb e=>(sb.2 b hb).trans e) f0 f1 f4 f5 f6,rfl,fin D nD⟩
theorem SX{i:Nat}{y:Str}{py spos:Pos}(hN:X.N.Nodup)(hiN:X.N[i]? =some y)(hx:Loc X.env.scope y)(hc:X.calm=true)(hi:PI X tg iter wi)(ck:aU X.env.scope scope=true)(hkind:scope.kind= .function)(hcap:jw X scope caps ix)(hg:∀s H cl C ex,PG (fU X scope (own++caps) s H cl C ex) tg g)(ht:∀s H cl C ex,Rf (fU X scope (own++caps) s H cl C ex) ifs tc)(he:∀s H cl C ex,PE (fU X scope (own++caps) s H cl C ex) elt te)(hsw:swapsWith (.ListComp elt [⟨tg,iter,ifs,0⟩] scope pos) (some (.Name y py)) spos.line X.env=pure true:=by rfl)(hf:X.fn y=true\/X.env.scope.names.lookup y=some .local:=by first |exact .inl rfl|exact .inr rfl|assumption)(hs:∀x,foldedSetIterable iter X.env x=pure x:=by intro _;rfl):PS X (.Assign [.Name y py] (.ListComp elt [⟨tg,iter,ifs,0⟩] scope pos) spos) (tAsg (Jw wi own ix g tc te) (gName i)):=by
 intro pins s σ H Dn I h
 rw[exec_Assign_Name_used _ _ _ _ hsw]
 refine aA (wfc (aA ?_))
 show wpAny _ X.A (do let _<-comprehension (.ListComp elt [⟨tg,iter,ifs,0⟩] scope pos) scope X.env _ (newList []) false (eval iter X.env) (some (assign (.Name y py) X.env))) _ _ s
 refine aA (Aq (wch (use:=some (assign (.Name y py) X.env)) (Q:=fun _ s'=>SP X pins Dn .next s') rfl hs (jt fun x hx=>I.ok.has x (aU.free ck hx)) hkind (aU.names ck)
  (thn (hi pins s σ H _ I h) fun xv s1 h1=>thn h1 fun itv s2 h2=> ?_)) (fun _ s' hq=>bC (bC hq)) fun _ _ e=>e)
 obtain⟨it,fp,tn,J,H2,e,I2,T,st2,f2,W,⟨m0,w0⟩,turn⟩:=h2
 subst e
 refine u6 (RR:=fun acc C=>compPost (model X.prog X.w) X.A X.xe (some (assign (.Name y py) X.env)) (fun _ s'=>SP X pins Dn .next s') acc C) ck hkind hcap hc hg ht he I2 T st2 f2 w0 turn ?_
 intro D C s' acc Hf m I' nD hn fC fin
 obtain⟨f0,f1,f3,f4,f5,f6⟩:=fC
 show wpAny _ X.A (assign (.Name y py) X.env (.ref D)) _ _ _
 refine wpAny_assign_Name (store_ok2 I' hN hiN hx (show RelV (.ref D) (.ref D)from rfl) (fun s'' I'' ⟨a,sb,ha⟩=> ?_) hf)
 have hCa:C≠a:=by
  rcases ha with ha|ha
  ·rw[ha];exact f1
  ·exact fun z=>f5 y a ha z.symm
 refine⟨m,hn.sameBut sb hCa,fun h' sb'=> ?_⟩
 exact⟨_,_,I''.turned (t':=s''.toks) (it:=C) (fun b o hb e=>(sb'.2 b hb).trans e) f0 f1 f4 f5 f6,fin D nD⟩
end
section
variable{K:W.Frag}{a:Addr}{xs:List V}{g:TG}{tc:TT}{te:TE}{Fin:List V->Hp->Prop}{ini:St}{H:Hp}
theorem HY(Pv:Nat->List V->St->Hp->Prop)(h0:Pv 0 [] ini H)(hl:∀(i:Nat) acc σ H,i<=xs.length->Pv i acc σ H->SqL K H a xs)(hz:∀(i:Nat) acc σ H,i<=xs.length->Pv i acc σ H->acc.length<=i)(hx:xs.length<=sizeLine)(hs:∀(i:Nat) x acc σ H,xs[i]? =some x->Pv i acc σ H->g x σ H fun σ2 H2=>tc σ2 H2 fun b H3=>if b=true then te σ2 H3 fun v H4=>Pv (i+1) (acc++[v]) σ2 H4 else Pv (i+1) acc σ2 H3)(hd:∀acc σ H,Pv xs.length acc σ H->Fin acc H):vo (Itl K a) ini H g tc te Fin:=by
 refine⟨fun i m acc σ H=>m=xs.length-i/\i<=xs.length/\Pv i acc σ H,⟨xs.length,by simp,dJ _,h0⟩,?_⟩
 rintro i m acc σ H ⟨rfl,hi,p⟩
 have q:=hl i acc σ H hi p
 have z:=hz i acc σ H hi p
 by_cases hlt:i<xs.length
 ·refine .inr ⟨⟨xs,xs[i],q,by simp[hlt]⟩,by omega,fun acc σ H=>Pv (i+1) acc σ H,fun acc' σ' H' r=>⟨_,by omega,rfl,hlt,r⟩,fun x H' y=> ?_⟩
  obtain⟨e,y⟩:=y
  subst e
  exact hs i x acc σ _ (y xs q) p
 ·have e:i=xs.length:=by omega
  subst e
  exact .inl ⟨⟨xs,q,aJ _⟩,by omega,hd acc σ H p⟩
theorem Iz(Pv:Nat->List V->St->Hp->Prop)(h0:Pv 0 [] ini H)(hl:∀(i:Nat) acc σ H,i<=xs.length->Pv i acc σ H->SqT K H a xs)(hz:∀(i:Nat) acc σ H,i<=xs.length->Pv i acc σ H->acc.length<=i)(hx:xs.length<=sizeLine)(hs:∀(i:Nat) x acc σ H,xs[i]? =some x->Pv i acc σ H->g x σ H fun σ2 H2=>tc σ2 H2 fun b H3=>if b=true then te σ2 H3 fun v H4=>Pv (i+1) (acc++[v]) σ2 H4 else Pv (i+1) acc σ2 H3)(hd:∀acc σ H,Pv xs.length acc σ H->Fin acc H):vo (Itt K a) ini H g tc te Fin:=by
 refine⟨fun i m acc σ H=>m=xs.length-i/\i<=xs.length/\Pv i acc σ H,⟨xs.length,by simp,dJ _,h0⟩,?_⟩
 rintro i m acc σ H ⟨rfl,hi,p⟩
 have q:=hl i acc σ H hi p
 have z:=hz i acc σ H hi p
 by_cases hlt:i<xs.length
 ·refine .inr ⟨⟨xs,xs[i],q,by simp[hlt]⟩,by omega,fun acc σ H=>Pv (i+1) acc σ H,fun acc' σ' H' r=>⟨_,by omega,rfl,hlt,r⟩,fun x H' y=> ?_⟩
  obtain⟨e,y⟩:=y
  subst e
  exact hs i x acc σ _ (y xs q) p
 ·have e:i=xs.length:=by omega
  subst e
  exact .inl ⟨⟨xs,q,aJ _⟩,by omega,hd acc σ H p⟩
theorem Ob{lo:Int}{n:Nat}(Pv:Nat->List V->St->Hp->Prop)(h0:Pv 0 [] ini H)(hz:∀(i:Nat) acc σ H,i<=n->Pv i acc σ H->acc.length<=i)(hx:n<=sizeLine)(hs:∀(i:Nat) acc σ H,i<n->Pv i acc σ H->g (.int (lo+i)) σ H fun σ2 H2=>tc σ2 H2 fun b H3=>if b=true then te σ2 H3 fun v H4=>Pv (i+1) (acc++[v]) σ2 H4 else Pv (i+1) acc σ2 H3)(hd:∀acc σ H,Pv n acc σ H->Fin acc H):vo (Itr lo n) ini H g tc te Fin:=by
 refine⟨fun i m acc σ H=>m=n-i/\i<=n/\Pv i acc σ H,⟨n,by simp,dJ _,h0⟩,?_⟩
 rintro i m acc σ H ⟨rfl,hi,p⟩
 have z:=hz i acc σ H hi p
 by_cases hlt:i<n
 ·refine .inr ⟨hlt,by omega,fun acc σ H=>Pv (i+1) acc σ H,fun acc' σ' H' r=>⟨_,by omega,rfl,hlt,r⟩,fun x H' y=> ?_⟩
  obtain⟨e,y⟩:=y
  subst e y
  exact hs i acc σ _ hlt p
 ·have e:i=n:=by omega
  subst e
  exact .inl ⟨aJ _,by omega,hd acc σ H p⟩
end
end L2
namespace rB
open PySem PySem.W PyProof.Rows
section
variable{O:KeyOrd}{key:Nat->O.α}{N:Nat}{cmp:Nat->Nat->(Bool->Shared->Prop)->Shared->Prop}{s:Shared}
def jB(O:KeyOrd)(key:Nat->O.α)(N:Nat)(cmp:Nat->Nat->(Bool->Shared->Prop)->Shared->Prop)(s:Shared):Prop:=
 ∀i j (C:Bool->Shared->Prop),i<N->j<N->C (O.blt (key i) (key j)) s->cmp i j C s
def KN(key:Nat->O.α)(p:Array Nat)(i:Nat):O.α:=key (p.getD i 0)
def So(key:Nat->O.α)(p:Array Nat)(k:Nat):Prop:=∀i j,i<=j->j<k->O.kle (KN key p i) (KN key p j)
def Ni(key:Nat->O.α)(p:Array Nat)(k:Nat):Prop:=∀i j,i<=j->j<k->O.kle (KN key p j) (KN key p i)
structure Ord(N:Nat)(p:Array Nat):Prop where
 perm:p.Perm (List.toArray (List.range N))
theorem Ord.size{p:Array Nat}(h:Ord N p):p.size=N:=by have:=h.perm.size_eq;simpa using this
theorem Ord.lt{p:Array Nat}(h:Ord N p){i:Nat}(hi:i<N):p.getD i 0<N:=by
 have hi':i<p.size:=by rw[h.size];exact hi
 have e:p.getD i 0=p[i]:=by simp[Array.getD,hi']
 rw[e]
 have m:p[i]∈p.toList:=by simp
 have:=(yes.mp h.perm).mem_iff.mp m
 simpa using this
theorem Ord.rev{p:Array Nat}(h:Ord N p)(i j:Nat):Ord N (kas_rev p i j):=⟨(mirror_perm _ _ _ _).trans h.perm⟩
theorem Ord.bub{p:Array Nat}(h:Ord N p)(i j:Nat):Ord N (bubble p i j):=⟨(bubble_perm _ _ _).trans h.perm⟩
theorem tG(p:Array Nat)(i:Nat):p.getD i 0=(p[i]?).getD 0:=by simp
theorem CT{p:Array Nat}{i j:Nat}(hj:j<=p.size)(k:Nat):KN key (kas_rev p i j) k=if i<=k/\k<j then KN key p (i+j-1-k)else KN key p k:=by
 have e:=getElem?_mirror_all (i:=i) hj k
 unfold KN kas_rev
 rw[tG,e]
 split
 ·rw[tG]
 ·rw[tG]
theorem dX{p:Array Nat}{i j:Nat}(hj:j<=p.size)(heq:∀k,i<=k->k<j->KN key p k=KN key p (j-1))(k:Nat):KN key (kas_rev p i j) k=KN key p k:=by
 rw[CT hj]
 split
 ·rename_i h
  rw[heq k h.1 h.2,heq _ (by omega) (by omega)]
 ·rfl
theorem Nk{p:Array Nat}{src d:Nat}(hs:src<p.size)(hd:d<=src)(k:Nat):KN key (bubble p src d) k=if k=src-d then KN key p src else if src-d<k/\k<=src then KN key p (k-1)else KN key p k:=by
 have e:=getElem?_bubble hs d hd k
 have q:KN key (bubble p src d) k=key (((bubble p src d)[k]?).getD 0):=jy key (tG _ _)
 have q2:∀i,KN key p i=key ((p[i]?).getD 0):=fun i=>jy key (tG _ _)
 rw[q,e,q2,q2,q2]
 by_cases h1:k=src-d
 ·rw[ao h1,ao h1]
 ·rw[ak h1,ak h1]
  by_cases h2:src-d<k/\k<=src
  ·rw[ao h2,ao h2]
  ·rw[ak h2,ak h2]
theorem Es{i j:Nat}(h:i<=j)(hn:¬i=j):i<=j-1:=yeu (NQ h hn)
theorem Cj{j n:Nat}(h:j<n+1)(hn:¬j<n):j=n:=Rp (Rr h) (Nat.not_lt.mp hn)
theorem jT{x k:Nat}(h:1<=x)(hk:x<=k):x-1<k:=Xo h hk
theorem BL{x f N:Nat}(h:x+(f+1)<=N):x<N:=iJ (Nat.lt_add_of_pos_right (rC f)) h
theorem vG{x f N:Nat}(h:x+(f+1)<=N):x+1+f<=N:=bZ (Ah (yds x f)) h
theorem RG{x f m:Nat}(h:m<=x+1+f):m<=x+(f+1):=bZ h (Ah (yds x f))
theorem Us{i j n:Nat}(h:i<=j):0+n-1-j<=0+n-1-i:=Nat.sub_le_sub_left h _
theorem Ur{i n:Nat}(h:i<n):0+n-1-i<n:=by
 rw[wgx]
 exact xQ (wgw _ _) (Xo (xQ (dJ _) h) (aJ _))
theorem asc(ok:jB O key N cmp s){p:Array Nat}(hp:Ord N p){Q:Nat->Shared->Prop}:∀(f n:Nat),1<=n->n+f<=N->So key p n->(∀m,n<=m->m<=n+f->So key p m->(m=n+f\/O.klt (KN key p m) (KN key p (m-1)))->Q m s)->(kas_asc p f n).kasWp cmp Q s
 |0,n,_,_,hs,h=>h n (aJ _) (aJ _) hs (.inl rfl)
 |f+1,n,h1,hn,hs,h=>by
  have Vs:n<N:=BL hn
  refine ok _ _ _ (hp.lt Vs) (hp.lt (jT h1 (dH Vs))) ?_
  cases hless:O.blt (key (p.getD n 0)) (key (p.getD (n-1) 0))with
  |true=>
   show Q n s
   exact h n (aJ _) (Wq _ _) hs (.inr hless)
  |false=>
   show(kas_asc p f (n+1)).kasWp cmp Q s
   refine asc ok hp f (n+1) (rC _) (vG hn) (fun i j hij hj=> ?_) fun m a b c d=>h m (wer a) (RG b) c (d.imp (fun z=>z.trans (yds n f)) id)
   by_cases hjn:j<n
   ·exact hs i j hij hjn
   ·have hj':j=n:=Cj hj hjn
    subst hj'
    by_cases hi':i=j
    ·subst hi';exact Oo _
    ·exact wdg (hs i (j-1) (Es hij hi') (jT h1 (aJ _))) hless
theorem tail3(ok:jB O key N cmp s){p:Array Nat}(hp:Ord N p){n:Nat}{Q:Nat×Array Nat->Shared->Prop}(h1:1<=n)(hn:n<=N)(hs:Ni key p n)(h:∀m p',Ord N p'->1<=m->m<=N->So key p' m->Q (m,p') s):(kas_tail3 n N p).kasWp cmp Q s:=by
 unfold kas_tail3
 rw[XM]
 have hsz:n<=p.size:=by rw[hp.size];exact hn
 have hN:n+(N-n)=N:=yev hn
 refine asc ok (hp.rev 0 n) (N-n) n h1 (Ah hN) (fun i j hij hj=> ?_) fun m a b c _=>h m _ (hp.rev 0 n) (bZ h1 a) (bZ b (Ah hN)) c
 rw[CT hsz,CT hsz,ao ⟨dJ _,xQ hij hj⟩,ao ⟨dJ _,hj⟩]
 exact hs _ _ (Us hij) (Ur (xQ hij hj))
theorem M4{p p':Array Nat}{x:Nat}(h1:1<=x)(hs:Ni key p x)(hless:O.kle (KN key p x) (KN key p (x-1)))(hk:∀k,KN key p' k=KN key p k):Ni key p' (x+1):=by
 intro i j hij hj
 rw[hk,hk]
 by_cases hjx:j<x
 ·exact hs i j hij hjx
 ·have hj':j=x:=Cj hj hjx
  subst hj'
  by_cases hi':i=j
  ·subst hi';exact Oo _
  ·exact wdg hless (hs i (j-1) (Es hij hi') (jT h1 (aJ _)))
theorem one_eq{p:Array Nat}{x i:Nat}(h1:x+1-(0+1)<=i)(h2:i<x+1):KN key p i=KN key p (x+1-1):=jy _ (Rp (Rr h2) h1)
theorem desc(ok:jB O key N cmp s){Q:Array Nat×Nat×Nat->Shared->Prop}:∀(f:Nat) (p:Array Nat) (x neq:Nat),Ord N p->1<=x->x+f<=N->Ni key p x->neq+1<=x->(∀i,x-(neq+1)<=i->i<x->KN key p i=KN key p (x-1))->
  (∀p' m q,Ord N p'->x<=m->m<=x+f->Ni key p' m->q+1<=m->(∀i,m-(q+1)<=i->i<m->KN key p' i=KN key p' (m-1))->Q (p',m,q) s)->(kas_desc f p x neq).kasWp cmp Q s
 |0,p,x,neq,hp,_,_,hs,hq,he,h=>h p x neq hp (aJ _) (aJ _) hs hq he
 |f+1,p,x,neq,hp,h1,hn,hs,hq,he,h=>by
  have hxN:x<N:=BL hn
  have hsz:x<=p.size:=by rw[hp.size];exact dH hxN
  have hx1:x-1<N:=jT h1 (dH hxN)
  have hh:∀p' m q,Ord N p'->x+1<=m->m<=x+1+f->Ni key p' m->q+1<=m->(∀i,m-(q+1)<=i->i<m->KN key p' i=KN key p' (m-1))->Q (p',m,q) s:=fun p' m q a b c d e g=>h p' m q a (wer b) (RG c) d e g
  refine ok _ _ _ (hp.lt hxN) (hp.lt hx1) ?_
  cases hless:O.blt (key (p.getD x 0)) (key (p.getD (x-1) 0))with
  |true=>
   show(if neq>0 then kas_desc f (kas_rev p (x-(neq+1)) x) (x+1) 0 else kas_desc f p (x+1) 0).kasWp cmp Q s
   by_cases hneq:neq>0
   ·rw[ao hneq]
    exact desc ok f _ (x+1) 0 (hp.rev _ _) (rC _) (vG hn) (M4 h1 hs (XR hless) (dX hsz he)) (rC _) (fun i h1 h2=>one_eq h1 h2) hh
   ·rw[ak hneq]
    exact desc ok f _ (x+1) 0 hp (rC _) (vG hn) (M4 h1 hs (XR hless) fun _=>rfl) (rC _) (fun i h1 h2=>one_eq h1 h2) hh
  |false=>
   show(KasT.ask (p.getD (x-1) 0) (p.getD x 0) fun d=>if d=true then KasT.ret (p,x,neq)else kas_desc f p (x+1) (neq+1)).kasWp cmp Q s
   refine ok _ _ _ (hp.lt hx1) (hp.lt hxN) ?_
   cases hl:O.blt (key (p.getD (x-1) 0)) (key (p.getD x 0))with
   |true=>exact h p x neq hp (aJ _) (Wq _ _) hs hq he
   |false=>
    show(kas_desc f p (x+1) (neq+1)).kasWp cmp Q s
    have heqx:KN key p x=KN key p (x-1):=KeyOrd.kle_antisymm hl hless
    refine desc ok f _ (x+1) (neq+1) hp (rC _) (vG hn) (M4 h1 hs (by rw[heqx];exact Oo _) fun _=>rfl) (Nat.succ_le_succ hq) (fun i h1 h2=> ?_) hh
    show KN key p i=KN key p x
    by_cases hix:i=x
    ·subst hix;rfl
    ·rw[heqx];exact he i (bZ (Ah (Nat.succ_sub_succ x (neq+1)).symm) h1) (NQ (Rr h2) hix)
theorem descPart(ok:jB O key N cmp s){p:Array Nat}(hp:Ord N p){n:Nat}{Q:Nat×Array Nat->Shared->Prop}(hn:n+1<=N)(hs:Ni key p (n+1))(h:∀m p',Ord N p'->1<=m->m<=N->So key p' m->Q (m,p') s):(kas_descPart n N p).kasWp cmp Q s:=by
 unfold kas_descPart
 rw[XM]
 have hN:n+1+(N-(n+1))<=N:=Ah (yev hn)
 refine desc ok _ _ _ _ hp (rC _) hN hs (rC _) (fun i h1 h2=>one_eq h1 h2) fun p' m q a b c d e g=> ?_
 have hm:m<=N:=bZ c hN
 have hm1:1<=m:=bZ (rC _) b
 have hsz:m<=p'.size:=by rw[a.size];exact hm
 dsimp only
 by_cases hq:q>0
 ·rw[ao hq]
  refine tail3 ok (a.rev _ _) hm1 hm (fun i j hij hj=> ?_) h
  rw[dX hsz g,dX hsz g]
  exact d i j hij hj
 ·rw[ak hq]
  exact tail3 ok a hm1 hm d h
theorem count(ok:jB O key N cmp s){p:Array Nat}(hp:Ord N p){Q:Nat×Array Nat->Shared->Prop}(h1:1<=N)(h:∀m p',Ord N p'->1<=m->m<=N->So key p' m->Q (m,p') s):(kas_count N p).kasWp cmp Q s:=by
 unfold kas_count
 rw[XM]
 have hN:1+(N-1)=N:=yev h1
 refine asc ok hp (N-1) 1 (aJ _) (Ah hN) (fun i j hij hj=>by
  have hj0:j=0:=Nat.lt_one_iff.mp hj
  subst hj0
  have hi0:i=0:=Ig.mp hij
  subst hi0;exact Oo _) fun n a b hsn hor=> ?_
 have Vs:n<=N:=bZ b (Ah hN)
 by_cases hnn:n=N
 ·rw[ao (by simpa using hnn)]
  exact h n p hp a Vs hsn
 ·rw[ak (by simpa using hnn)]
  have hlt:O.klt (KN key p n) (KN key p (n-1)):=hor.resolve_left fun z=>hnn (z.trans hN)
  have Vt:n<N:=NQ Vs hnn
  by_cases hgt:n>1
  ·rw[ao hgt]
   have hn1:n-1<n:=jT a (aJ _)
   refine ok _ _ _ (hp.lt h1) (hp.lt (Od hn1 Vt)) ?_
   cases hrose:O.blt (key (p.getD 0 0)) (key (p.getD (n-1) 0))with
   |true=>exact h n p hp a Vs hsn
   |false=>
    show(kas_descPart n N (kas_rev p 0 n)).kasWp cmp Q s
    have hsz:n<=p.size:=by rw[hp.size];exact Vs
    have hall:∀k,0<=k->k<n->KN key p k=KN key p (n-1):=fun k _ hk=>
     KeyOrd.kle_antisymm (hsn k (n-1) (yeu hk) hn1) (wdg hrose (hsn 0 k (dJ _) hk))
    refine descPart ok (hp.rev 0 n) Vt (fun i j hij hj=> ?_) h
    rw[dX hsz hall,dX hsz hall]
    by_cases hjn:j<n
    ·rw[hall i (dJ _) (xQ hij hjn),hall j (dJ _) hjn];exact Oo _
    ·have hj':j=n:=Cj hj hjn
     subst hj'
     by_cases hi':i=j
     ·subst hi';exact Oo _
     ·rw[hall i (dJ _) (NQ hij hi')];exact XR hlt
  ·rw[ak hgt]
   have hn1':n=1:=Rp (Nat.not_lt.mp hgt) a
   subst hn1'
   refine descPart ok hp Vt (fun i j hij hj=> ?_) h
   by_cases hi':i=j
   ·subst hi';exact Oo _
   ·have hij':i<j:=NQ hij hi'
    have hj1:j=1:=Rp (Rr hj) (xQ (dJ i) hij')
    subst hj1
    have hi0:i=0:=Nat.lt_one_iff.mp hij'
    subst hi0
    exact XR hlt
theorem half_lt{l r:Nat}(h:l<r):(l+r)/2<r:=by omega
theorem QJ{l r:Nat}(h:l<r):l<=(l+r)/2:=by omega
theorem place(ok:jB O key N cmp s){p:Array Nat}(hp:Ord N p){k:Nat}{Q:Nat->Shared->Prop}(hk:k<N)(hs:So key p k):∀(f l r:Nat),l<=r->r<=k->r-l<=f->(∀i,i<l->O.kle (KN key p i) (KN key p k))->(∀i,r<=i->i<k->O.klt (KN key p k) (KN key p i))->
  (∀l,l<=k->(∀i,i<l->O.kle (KN key p i) (KN key p k))->(∀i,l<=i->i<k->O.klt (KN key p k) (KN key p i))->Q l s)->(kas_place p k f l r).kasWp cmp Q s
 |0,l,r,hlr,hrk,hm,hlo,hhi,h=>by
  have e:l=r:=Rp hlr (Nat.sub_eq_zero_iff_le.mp (Ig.mp hm))
  subst e
  exact h l hrk hlo hhi
 |f+1,l,r,hlr,hrk,hm,hlo,hhi,h=>by
  show(if l≥r then KasT.ret l else KasT.ask (p.getD k 0) (p.getD ((l+r)/2) 0) fun c=>if c=true then kas_place p k f l ((l+r)/2)else kas_place p k f ((l+r)/2+1) r).kasWp cmp Q s
  by_cases hge:l≥r
  ·rw[ao hge]
   have e:l=r:=Rp hlr hge
   subst e
   exact h l hrk hlo hhi
  ·rw[ak hge]
   have hc:(l+r)/2<r:=half_lt (Nat.not_le.mp hge)
   have hd:l<=(l+r)/2:=QJ (Nat.not_le.mp hge)
   generalize (l+r)/2=c at hc hd⊢
   refine ok _ _ _ (hp.lt hk) (hp.lt (Od (iJ hc hrk) hk)) ?_
   cases hless:O.blt (key (p.getD k 0)) (key (p.getD c 0))with
   |true=>
    refine place ok hp hk hs f l c hd (dH (iJ hc hrk)) (Rr (iJ (Nat.sub_lt_sub_right hd hc) hm)) hlo (fun i h1 h2=> ?_) h
    by_cases hi:i=c
    ·subst hi;exact hless
    ·exact KeyOrd.klt_of_klt_of_kle hless (hs c i h1 h2)
   |false=>
    refine place ok hp hk hs f (c+1) r hc hrk (Rr (iJ (Nat.sub_lt_sub_left (xQ hd hc) (Nat.lt_succ_of_le hd)) hm)) (fun i h1=> ?_) hhi h
    by_cases hi:i=c
    ·subst hi;exact hless
    ·exact wdg (hs i c (Rr h1) (iJ hc hrk)) hless
theorem ZP{p:Array Nat}{k l:Nat}(hs:So key p k)(hl:l<=k)(hsz:k<p.size)(hlo:∀i,i<l->O.kle (KN key p i) (KN key p k))(hhi:∀i,l<=i->i<k->O.klt (KN key p k) (KN key p i)):So key (bubble p k (k-l)) (k+1):=by
 intro i j hij hj
 have e:k-(k-l)=l:=Nat.sub_sub_self hl
 rw[Nk hsz (wgw _ _),Nk hsz (wgw _ _),e]
 have hjk:j<=k:=Rr hj
 by_cases hi1:i=l
 ·rw[ao hi1]
  by_cases hj1:j=l
  ·rw[ao hj1];exact Oo _
  ·have lj:l<j:=NQ (hi1▸hij) (lO hj1)
   rw[ak hj1,ao ⟨lj,hjk⟩]
   exact XR (hhi (j-1) (yeu lj) (Xo (xQ (dJ _) lj) hjk))
 ·rw[ak hi1]
  by_cases hi2:l<i/\i<=k
  ·have lj:l<j:=iJ hi2.1 hij
   rw[ao hi2,ak (lO (dM lj)),ao ⟨lj,hjk⟩]
   exact hs _ _ (Nat.sub_le_sub_right hij 1) (Xo (xQ (dJ _) lj) hjk)
  ·rw[ak hi2]
   have il:i<l:=NQ (Nat.not_lt.mp fun z=>hi2 ⟨z,bZ hij hjk⟩) hi1
   by_cases hj1:j=l
   ·rw[ao hj1];exact hlo i il
   ·rw[ak hj1]
    by_cases hj2:l<j/\j<=k
    ·rw[ao hj2];exact hs _ _ (yeu (Od il hj2.1)) (Xo (xQ (dJ _) hj2.1) hjk)
    ·rw[ak hj2];exact hs _ _ hij (iJ (NQ (Nat.not_lt.mp fun z=>hj2 ⟨z,hjk⟩) hj1) hl)
theorem bins(ok:jB O key N cmp s){Q:Array Nat->Shared->Prop}:∀(f:Nat) (p:Array Nat) (k:Nat),Ord N p->1<=k->k+f=N->So key p k->(∀p',Ord N p'->So key p' N->Q p' s)->(kas_bin f p k).kasWp cmp Q s
 |0,p,k,hp,_,hf,hs,h=>h p hp ((show k=N from hf)▸hs)
 |f+1,p,k,hp,h1,hf,hs,h=>by
  show((kas_place p k k 0 k).bind fun l=>kas_bin f (bubble p k (k-l)) (k+1)).kasWp cmp Q s
  rw[XM]
  have hk:k<N:=BL (Ah hf)
  have hsz:k<p.size:=by rw[hp.size];exact hk
  refine place ok hp hk hs k 0 k (dJ _) (aJ _) (wgw _ _) (fun i hi=>absurd hi (Ro _)) (fun i h1 h2=>absurd h2 (Nat.not_lt.mpr h1)) fun l hl hlo hhi=> ?_
  exact bins ok f _ (k+1) (hp.bub _ _) (rC _) ((yds k f).trans hf) (ZP hs hl hsz hlo hhi) h
theorem sort(ok:jB O key N cmp s){Q:Array Nat->Shared->Prop}(h1:1<=N)(h:∀p',Ord N p'->So key p' N->Q p' s):(kas_sort N).kasWp cmp Q s:=by
 unfold kas_sort
 rw[XM]
 refine count ok ⟨Array.Perm.refl _⟩ h1 fun m p' hp hm1 hm2 hs=> ?_
 dsimp only
 by_cases hlt:m<N
 ·rw[ao hlt]
  have e:max m 1=m:=by omega
  rw[e]
  exact bins ok _ _ _ hp hm1 (by omega) hs h
 ·rw[ak hlt]
  have e:m=N:=by omega
  subst e
  exact h p' hp hs
end
end rB
namespace rB
open PySem PySem.W PyProof.Rows PySem.Calls
def HF{O:KeyOrd}(key:Nat->O.α)(vs out:List Value):Prop:=∃p:Array Nat,Ord vs.length p/\So key p vs.length/\out=p.toList.map fun i=>vs.getD i Value.none
section
variable{prog:Program}{w:World}{A:Around}{E:Value->Shared->Prop}{s:Shared}{O:KeyOrd}{key:Nat->O.α}{κ:SortKind}{vs:List Value}
theorem Br(h2:vs.length<2):HF key vs vs:=by
 refine⟨List.toArray (List.range vs.length),⟨Array.Perm.refl _⟩,fun i j hij hj=> ?_,?_⟩
 ·have e:i=j:=by omega
  subst e;exact Oo _
 ·match vs,h2 with
  |[],_=>rfl
  |[v],_=>rfl
  |_::_::_,h=>simp at h;omega
theorem lQ{a:Addr}{n:Nat}{P:PySem.Fin->Shared->Prop}(ho:s.heap.get? a=some (seqObj "list" vs.toArray n))(h64:vs.length<64)(hkind:2<=vs.length->∀h',(∀b o,b≠a->s.heap.get? b=some o->h'.get? b=some o)->∀Q:SortKind->Shared->Prop,Q κ {s with heap:=h'}->wpAny (model prog w) A (keyKind' vs.toArray) Q E {s with heap:=h'})(Lz:2<=vs.length->∀h',(∀b o,b≠a->s.heap.get? b=some o->h'.get? b=some o)->jB O key vs.length (kas_ask prog w A κ vs) {s with heap:=h'})(h:∀h' out c,HF key vs out->(∀b o,b≠a->s.heap.get? b=some o->h'.get? b=some o)->h'.get? a=some (seqObj "list" (List.toArray out) c)->P (.done (.ret .none)) {s with heap:=h'}):
  wpAny (model prog w) A (Builtin.«list.sort» ⟨[.ref a],[]⟩) P E s:=by
 have ha:a<s.heap.objs.size:=cZ ho
 have s1:=Jj s.heap a (Obj.mapSeq fun _=>(#[]:Array Value))
 obtain⟨e1,ho1⟩:∃e1,(s.heap.update a (Obj.mapSeq fun _=>(#[]:Array Value))).get? a=some (seqObj "list" #[] e1):=⟨_,Om ho fun _=>#[]⟩
 have keep:∀b o,b≠a->s.heap.get? b=some o->(((s.heap.update a (Obj.mapSeq fun _=>(#[]:Array Value))).push (seqObj "tuple" vs.toArray 0)).push (seqObj "list" #[] 0)).get? b=some o:=fun b o hb e=>
  cO _ (cO _ ((s1.2 b hb).trans e))
 have ho6:(((s.heap.update a (Obj.mapSeq fun _=>(#[]:Array Value))).push (seqObj "tuple" vs.toArray 0)).push (seqObj "list" #[] 0)).get? a=some (seqObj "list" #[] e1):=cO _ (cO _ ho1)
 rw[list_sort_plain]
 refine aA (listItems_at ho rfl ?_)
 refine aA (wfh ho rfl ?_ (by rw[fL,gB];omega) (dJ _))
 refine aA (seqEpoch_at ho1 rfl ?_)
 refine aA (wpAny_newTuple ?_ (by show vs.length<=_;rw[gB];omega))
 refine aA (Wy ?_ (dJ _))
 refine Ak ?_
 show wpAny (model prog w) A _ P E {s with heap:=((s.heap.update a (Obj.mapSeq fun _=>(#[]:Array Value))).push (seqObj "tuple" vs.toArray 0)).push (seqObj "list" #[] 0)}
 dsimp only
 by_cases h2:vs.toArray.size<2
 ·have h2':vs.length<2:=by simpa using h2
  rw[ao h2,ao h2]
  refine aA (bC ?_)
  rw[StateT.run_pure]
  refine aA (bC ?_)
  dsimp only
  refine aA (seqEpoch_at ho6 rfl ?_)
  refine aA (wfh ho6 rfl ?_ (dJ _) (by rw[Array.size_map];show(pairsOf vs).size<=_;rw[pairsOf_size,gB];omega))
  simp only[bne_self_eq_false,wco,Tt]
  refine bC ?_
  have eo:(vs.toArray.zip vs.toArray).map (·.2)=List.toArray vs:=by
   apply Array.toList_inj.mp
   simp[List.map_snd_zip]
  have s2:=Jj (((s.heap.update a (Obj.mapSeq fun _=>(#[]:Array Value))).push (seqObj "tuple" vs.toArray 0)).push (seqObj "list" #[] 0)) a (Obj.mapSeq fun _=>List.toArray vs)
  obtain⟨c2,hc2⟩:∃c2,((((s.heap.update a (Obj.mapSeq fun _=>(#[]:Array Value))).push (seqObj "tuple" vs.toArray 0)).push (seqObj "list" #[] 0)).update a (Obj.mapSeq fun _=>List.toArray vs)).get? a=some (seqObj "list" (List.toArray vs) c2):=⟨_,Om ho6 fun _=>List.toArray vs⟩
  have fin:=h _ vs c2 (Br h2') (fun b o hb e=>(s2.2 b hb).trans (keep b o hb e)) hc2
  first
   |exact fin
   |(rw[<-eo]at fin;exact fin)
   |(show P _ {s with heap:=Heap.update _ a (Obj.mapSeq fun _=>(vs.toArray.zip vs.toArray).map (·.2))};rw[eo];exact fin)
 ·have h2':2<=vs.length:=by rw[fL]at h2;omega
  rw[ak h2,ak h2]
  refine aA (hkind h2' _ keep _ ?_)
  refine aA (Aq (kat_run (Q:=fun st' s'=>s'={s with heap:=((s.heap.update a (Obj.mapSeq fun _=>(#[]:Array Value))).push (seqObj "tuple" vs.toArray 0)).push (seqObj "list" #[] 0)}/\∃p:Array Nat,p.size=vs.length/\arrOf st'=p.map (kas_item (vs.toArray.zip vs.toArray))/\failedOf st'=none/\Ord vs.length p/\So key p vs.length)
   (G:=fun p s'=>s'={s with heap:=((s.heap.update a (Obj.mapSeq fun _=>(#[]:Array Value))).push (seqObj "tuple" vs.toArray 0)).push (seqObj "list" #[] 0)}/\Ord vs.length p/\So key p vs.length)
   rfl h2' h64 (fun p' st' s' a1 a2 a3 a4=>⟨a4.1,p',a1,a2,a3,a4.2.1,a4.2.2⟩) (sort (Lz h2' _ keep) (by omega) fun p' hp hs=>⟨rfl,hp,hs⟩)) ?_ fun _ _ e=>e)
  rintro⟨⟨⟩,st'⟩ s' ⟨rfl,p,hp,har,hf,hor,hso⟩
  dsimp only
  have hout:=kat_snds rfl har
  have hsz:(List.toArray (p.toList.map fun i=>vs.getD i Value.none)).size=vs.length:=by rw[fL,aF,Rv,hp]
  rw[hout]
  refine aA (seqEpoch_at ho6 rfl ?_)
  refine aA (wfh ho6 rfl ?_ (dJ _) (bZ (Ah hsz) (by rw[gB];omega)))
  rw[hf]
  simp only[bne_self_eq_false,wco,Tt]
  have s2:=Jj (((s.heap.update a (Obj.mapSeq fun _=>(#[]:Array Value))).push (seqObj "tuple" vs.toArray 0)).push (seqObj "list" #[] 0)) a (Obj.mapSeq fun _=>List.toArray (p.toList.map fun i=>vs.getD i Value.none))
  obtain⟨c2,hc2⟩:∃c2,((((s.heap.update a (Obj.mapSeq fun _=>(#[]:Array Value))).push (seqObj "tuple" vs.toArray 0)).push (seqObj "list" #[] 0)).update a (Obj.mapSeq fun _=>List.toArray (p.toList.map fun i=>vs.getD i Value.none))).get? a=some (seqObj "list" (List.toArray (p.toList.map fun i=>vs.getD i Value.none)) c2):=⟨_,Om ho6 fun _=>_⟩
  exact bC (h _ _ c2 ⟨p,hor,hso,rfl⟩ (fun b o hb e=>(s2.2 b hb).trans (keep b o hb e)) hc2)
theorem rW{l:Addr}{Q:Value->Shared->Prop}(hl:s.heap.IsList l vs.toArray)(h64:vs.length<64)(hkind:2<=vs.length->∀h',(∀b o,s.heap.get? b=some o->h'.get? b=some o)->∀(E:Value->Shared->Prop) (Q:SortKind->Shared->Prop),Q κ {s with heap:=h'}->wpAny (model prog w) A.in1.in1 (keyKind' vs.toArray) Q E {s with heap:=h'})(Lz:2<=vs.length->∀h',(∀b o,s.heap.get? b=some o->h'.get? b=some o)->jB O key vs.length (kas_ask prog w A.in1.in1 κ vs) {s with heap:=h'})(h:∀D h' out c,HF key vs out->s.heap.objs.size<=D->(∀b o,s.heap.get? b=some o->h'.get? b=some o)->h'.get? D=some (seqObj "list" (List.toArray out) c)->Q (.ref D) {s with heap:=h'}):
  wpAny (model prog w) A (call (.builtin "sorted") [.ref l]) Q E s:=by
 refine Calls.call_function_entry kind_sorted plain_sorted entry_sorted (args_sorted1 _) ?_
 unfold Builtin.«sorted»
 refine aA (m:=checkCount "sorted" 1 1 _) (bC ?_)
 refine aA (collect_list hl ?_ (by rw[gB];omega))
 refine aA (Wy ?_ (by rw[gB];omega))
 have hsz:((s.heap.push (seqObj "list" #[] 0)).update s.heap.objs.size (Obj.mapSeq (· ++vs.toArray))).objs.size=s.heap.objs.size+1:=by
  rw[Heap.size_update,size_push']
 have hoL:(((s.heap.push (seqObj "list" #[] 0)).update s.heap.objs.size (Obj.mapSeq (· ++vs.toArray))).push (seqObj "list" vs.toArray 0)).get? (s.heap.objs.size+1)=some (seqObj "list" vs.toArray 0):=by
  rw[<-hsz];exact jx _ rfl
 have keep:∀b o,s.heap.get? b=some o->(((s.heap.push (seqObj "list" #[] 0)).update s.heap.objs.size (Obj.mapSeq (· ++vs.toArray))).push (seqObj "list" vs.toArray 0)).get? b=some o:=fun b o q=>by
  have hlt:b<s.heap.objs.size:=cZ q
  rw[wcy _ _ _ (by rw[hsz];exact dM (qz hlt)),Heap.get?_update_ne _ _ _ _ (dM hlt),wcy _ _ _ (dM hlt)]
  exact q
 have ne:∀b o,s.heap.get? b=some o->b≠s.heap.objs.size+1:=fun b o q=>dM (qz (cZ q))
 show wpAny _ _ _ _ _ {s with heap:=((s.heap.push (seqObj "list" #[] 0)).update s.heap.objs.size (Obj.mapSeq (· ++vs.toArray))).push (seqObj "list" vs.toArray 0)}
 rw[hsz]
 refine aA (Ak (Rz slot_list_sort ⟨_,hoL,rfl⟩ entry_list_sort ?body (args_list_sort _)))
 case body=>
  refine lQ (key:=key) (κ:=κ) (s:={s with heap:=((s.heap.push (seqObj "list" #[] 0)).update s.heap.objs.size (Obj.mapSeq (· ++vs.toArray))).push (seqObj "list" vs.toArray 0)}) hoL h64
   (fun h2 h' k Q hq=>hkind h2 h' (fun b o q=>k b o (ne b o q) (keep b o q)) _ Q hq) (fun h2 h' k=>Lz h2 h' fun b o q=>k b o (ne b o q) (keep b o q)) fun h' out c ho k hc=> ?_
  exact⟨_,rfl,bC ⟨_,rfl,h _ h' out c ho (Af _) (fun b o q=>k b o (ne b o q) (keep b o q)) hc⟩⟩
end
end rB
namespace HT
open PySem PyProof.Rows
theorem bY:∀(a b:List Int),lexLt a b=decide (a<b)
 |[],[]=>by simp[lexLt]
 |[],_::_=>by simp[lexLt]
 |_::_,[]=>by simp[lexLt]
 |x::xs,y::ys=>by
  rw[lexLt_cons,bY xs ys]
  by_cases e:x=y
  ·subst e;simp
  ·rw[ak e]
   by_cases l:x<y
   ·simp[l,yen]
   ·have:¬(x::xs<y::ys):=by rw[yen];simp[l,e]
    simp[l,this]
end HT
namespace rB
open PySem PySem.W PyProof.Rows PySem.Calls
def lexOrd:KeyOrd where
 α:=List Int
 blt a b:=decide (a<b)
 irrefl a:=by simpa using wen a
 trans a b c h1 h2:=by simp only[was]at *;exact List.lt_trans h1 h2
 negTrans a b c h:=by
  simp only[was]at *
  by_cases hab:a<b
  ·exact .inl hab
  ·exact .inr (List.lt_of_le_of_lt (NK.mp hab) h)
 total a b h1 h2:=by simp only[wcp]at *;exact wfo (NK.mp h2) (NK.mp h1)
def wD:KeyOrd where
 α:=Int
 blt a b:=decide (a<b)
 irrefl a:=by simp
 trans a b c h1 h2:=by simp only[was]at *;omega
 negTrans a b c h:=by simp only[was]at *;omega
 total a b h1 h2:=by simp only[wcp]at *;omega
section
variable{prog:Program}{w:World}{A:Around}{E:Value->Shared->Prop}{s:Shared}{Q:Bool->Shared->Prop}
theorem Lq{na nb:Nat}{xs ys:List Value}{ns ms:List Int}(i:Nat)(hx:IntsAre xs ns)(hy:IntsAre ys ms)(hl:ns.length+nb=ms.length+na)(h:Q (HT.lexLt ns ms) s):KatLex prog w A true (decide (na<nb)) Q (xs.zip ys) i s:=by
 induction hx generalizing ys ms i with
 |nil=>
  rw[List.zip_nil_left]
  refine kat_nil ?_
  cases hy with
  |nil=>
   rw[HT.lexLt_nil_nil]at h
   rw[iY (by simp only[Rq]at hl;omega)];exact h
  |cons c u hw=>
   rw[HT.lexLt_nil_cons]at h
   rw[gb (by simp only[Rq,rD]at hl;omega)];exact h
 |cons a t hv ih=>
  cases hy with
  |nil=>
   rw[List.zip_nil_right]
   refine kat_nil ?_
   rw[HT.lexLt_cons_nil]at h
   rw[iY (by simp only[Rq,rD]at hl;omega)];exact h
  |cons c u hw=>
   rw[weh]
   rw[HT.lexLt_cons]at h
   refine kat_cons (wpAny_eqBool_int ?_)
   refine kat_go (fun e=> ?_) fun e=> ?_
   ·have e':a=c:=by simpa using e
    rw[ao e']at h
    exact kat_yes (ih (i+1) hw (by simp only[rD]at hl;omega) h)
   ·have e':a≠c:=by simpa using e
    rw[ak e']at h
    refine kat_no ?_
    cases i with
    |zero=>exact oneLt_int h
    |succ i=>exact kat_one _ _ (lt_int (show PySem.W.BoolBack Q (.bool (decide (a<c))) s from h))
end
theorem El{O:KeyOrd}{key:Nat->O.α}{α:Type}{vs out:List Value}{its:List α}{d:α}{f:α->O.α}{R:α->Value->Prop}(hR:Paired R its vs)(hk:∀i (hi:i<its.length),key i=f its[i])(h:HF key vs out):
  ∃its':List α,its'.Perm its/\Paired R its' out/\its'.Pairwise fun x y=>O.kle (f x) (f y):=by
 obtain⟨p,hp,hs,rfl⟩:=h
 have hl:=hR.length
 have get:∀{l₁:List α} {l₂:List Value} {i:Nat},Paired R l₁ l₂->(h:i<l₁.length)->∃v,l₂[i]? =some v/\R l₁[i] v:=by
  intro l₁ l₂ i q
  induction q generalizing i with
  |nil=>intro h;simp at h
  |cons r t ih=>
   intro h
   cases i with
   |zero=>exact⟨_,rfl,r⟩
   |succ i=>
    obtain⟨v,e,rv⟩:=ih (i:=i) (by simpa using h)
    exact⟨v,by simpa using e,by simpa using rv⟩
 have hlt:∀i∈p.toList,i<its.length:=fun i hi=>by
  have:=(yes.mp hp.perm).mem_iff.mp hi
  rw[hl];simpa using this
 refine⟨p.toList.map fun i=>its.getD i d,?_,?_,?_⟩
 ·have q:=(yes.mp hp.perm).map (fun i=>its.getD i d)
  refine q.trans ?_
  have e:(List.toArray (List.range vs.length)).toList.map (fun i=>its.getD i d)=its:=by
   rw[<-hl]
   apply wcz
   intro i
   simp only[cg]
   by_cases hi:i<its.length
   ·simp[hi]
   ·simp[hi]
  rw[e]
 ·have mk:∀l:List Nat,(∀i∈l,i<its.length)->Paired R (l.map fun i=>its.getD i d) (l.map fun i=>vs.getD i Value.none):=by
   intro l
   induction l with
   |nil=>intro _;exact .nil
   |cons i l ih=>
    intro hb
    refine .cons ?_ (ih fun j hj=>hb j (eE _ hj))
    have hi:=hb i cX
    obtain⟨v,e,r⟩:=get hR hi
    have e1:its.getD i d=its[i]:=by simp[hi]
    have e2:vs.getD i Value.none=v:=by rw[jC,e];rfl
    show R (its.getD i d) (vs.getD i Value.none)
    rw[e1,e2];exact r
  exact mk _ hlt
 ·rw[Ij]
  intro i j hi hj hij
  simp only[aF,Rv]at hi hj
  simp only[List.getElem_map]
  have hsz:=hp.size
  have q:=hs i j (by omega) (by omega)
  have e:∀k (hk':k<p.size),KN key p k=f (its.getD p.toList[k] d):=fun k hk'=>by
   have e1:p.getD k 0=p.toList[k]:=by simp[Array.getD,hk']
   have hb:=hlt p.toList[k] (I9 _)
   have e2:its.getD p.toList[k] d=its[p.toList[k]]:=by simp only[jC,gH hb,wfp]
   unfold KN
   rw[e1,e2]
   exact hk _ hb
  rw[e i hi,e j hj]at q
  exact q
end rB
namespace L2
open PySem PySem.Spec PyProof.Rows PySem.W
section
variable{X:Cx}
end
end L2
namespace L2
open PySem PySem.Spec PyProof.Rows
section
variable{X:Cx}
theorem tO:∀{bs:List Bool} {us:List Value},Vals (bs.map V.bl) us->us=bs.map Value.bool
 |[],_,h=>by cases h;rfl
 |b::bs,_,h=>by
  cases h with
  |cons r t=>rw[qM,tO t];exact jy (· ::_) r
theorem gK(hc:X.calm=true):CallR X (.builtin "all") (fun xs H Q=>∃(a:Addr) (bs:List Bool),xs=[.ref a]/\SqL X.K H a (bs.map V.bl)/\Q (.bl (bs.all id)) H):=by
 intro pins s σ H xs us Q I r h
 obtain⟨a,bs,rfl,hS,q⟩:=h
 obtain⟨u,rfl,ru⟩:=r.one
 cases ru
 obtain⟨vs,rv,pl,hz⟩:=I.list hS
 have hv:=tO rv
 have hl:=pl.isList
 have hlt:a<s.heap.objs.size:=by obtain⟨_,e,_⟩:=hl;exact cZ e
 refine call_all_walk (TV hl ?_)
 refine⟨s.heap.objs.size,[s.heap.objs.size,a],[s.heap.objs.size],vs.toArray.size,_,_,fun i=>(bs[i]?).getD true,rfl,Tz (A:=X.A.in1) (I.ok.hd hc) _ a (dM hlt) vs.toArray,
  ⟨⟨_,jx _ rfl,rfl,rfl⟩,hl.push _⟩,fun i v s' Q' E' hP hQ=> ?_,fun h' tk hk=> ?_⟩
 ·have hP':vs[i]? =some v:=by simpa using hP
  rw[hv,cg]at hP'
  cases e:bs[i]? with
  |none=>rw[e]at hP';cases hP'
  |some b=>
   rw[e]at hP'
   cases hP'
   simp only[e,wfp]at hQ
   exact Ji hQ
 ·have e:((List.range vs.toArray.size).all fun i=>(bs[i]?).getD true)=bs.all id:=by
   rw[fL,hv,aF];exact LSm.range_all bs
  rw[e]
  exact⟨.bl _,H,I.kept (LSm.kept_iter hk),rfl,q⟩
theorem zT(hc:X.calm=true):CallR X (.builtin "any") (fun xs H Q=>∃(a:Addr) (bs:List Bool),xs=[.ref a]/\SqL X.K H a (bs.map V.bl)/\Q (.bl (bs.any id)) H):=by
 intro pins s σ H xs us Q I r h
 obtain⟨a,bs,rfl,hS,q⟩:=h
 obtain⟨u,rfl,ru⟩:=r.one
 cases ru
 obtain⟨vs,rv,pl,hz⟩:=I.list hS
 have hv:=tO rv
 have hl:=pl.isList
 have hlt:a<s.heap.objs.size:=by obtain⟨_,e,_⟩:=hl;exact cZ e
 refine call_any_walk (TV hl ?_)
 refine⟨s.heap.objs.size,[s.heap.objs.size,a],[s.heap.objs.size],vs.toArray.size,_,_,fun i=>(bs[i]?).getD false,rfl,Tz (A:=X.A.in1) (I.ok.hd hc) _ a (dM hlt) vs.toArray,
  ⟨⟨_,jx _ rfl,rfl,rfl⟩,hl.push _⟩,fun i v s' Q' E' hP hQ=> ?_,fun h' tk hk=> ?_⟩
 ·have hP':vs[i]? =some v:=by simpa using hP
  rw[hv,cg]at hP'
  cases e:bs[i]? with
  |none=>rw[e]at hP';cases hP'
  |some b=>
   rw[e]at hP'
   cases hP'
   simp only[e,wfp]at hQ
   exact Ji hQ
 ·have e:((List.range vs.toArray.size).any fun i=>(bs[i]?).getD false)=bs.any id:=by
   rw[fL,hv,aF];exact LSm.range_any bs
  rw[e]
  exact⟨.bl _,H,I.kept (LSm.kept_iter hk),rfl,q⟩
def SQ(K:W.Frag)(H:Hp):V->String->Prop
 | .non,T=>T="NoneType"
 | .bl _,T=>T="bool"
 | .int _,T=>T="int"
 | .str _,T=>T="str"
 | .ref a,T=>(T="tuple"/\∃xs,SqT K H a xs)\/(T="list"/\∃xs,SqL K H a xs)\/(T="dict"/\∃kvs,H a=some (.dK kvs))
 |_,_=>False
def BW(T C:String):Bool:=T==C||(T=="bool"&&C=="int")
theorem dU:CallR X (.builtin "isinstance") (fun xs H Q=>∃(x:V) (T C:String),xs=[x,.ty C]/\SQ X.K H x T/\(C="int"\/C="bool"\/C="tuple"\/C="list")/\Q (.bl (BW T C)) H):=by
 intro pins s σ H xs us Q I r h
 obtain⟨x,T,C,rfl,hk,hC,q⟩:=h
 obtain⟨u,v,rfl,ru,rv⟩:=r.two
 cases rv
 have Mw:∀b,b=BW T C->EP X pins σ Q (.bool b) s:=fun b e=>⟨.bl b,H,I,rfl,by rw[e];exact q⟩
 have gJ:∀b,b=BW T C->EP X pins σ Q (.bool b) {s with toks:=s.toks+1}:=fun b e=>⟨.bl b,H,I.tok _,rfl,by rw[e];exact q⟩
 cases x with
 |non=>
  cases ru;cases hk
  rcases hC with rfl|rfl|rfl|rfl
  ·exact IsiPair.NoneType_int (gJ _ rfl)
  ·exact IsiPair.NoneType_bool (gJ _ rfl)
  ·exact IsiPair.NoneType_tuple (gJ _ rfl)
  ·exact IsiPair.NoneType_list (gJ _ rfl)
 |bl b=>
  cases ru;cases hk
  rcases hC with rfl|rfl|rfl|rfl
  ·exact IsiPair.bool_int (Mw _ rfl)
  ·exact IsiPair.bool_bool (Mw _ rfl)
  ·exact IsiPair.bool_tuple (gJ _ rfl)
  ·exact IsiPair.bool_list (gJ _ rfl)
 |int i=>
  obtain⟨t,rfl⟩:=ru;cases hk
  rcases hC with rfl|rfl|rfl|rfl
  ·exact IsiPair.int_int (Mw _ rfl)
  ·exact IsiPair.int_bool (gJ _ rfl)
  ·exact IsiPair.int_tuple (gJ _ rfl)
  ·exact IsiPair.int_list (gJ _ rfl)
 |str z=>
  obtain⟨t,rfl⟩:=ru;cases hk
  rcases hC with rfl|rfl|rfl|rfl
  ·exact IsiPair.str_int (gJ _ rfl)
  ·exact IsiPair.str_bool (gJ _ rfl)
  ·exact IsiPair.str_tuple (gJ _ rfl)
  ·exact IsiPair.str_list (gJ _ rfl)
 |ref a=>
  cases ru
  rcases hk with⟨rfl,xs,hS⟩|⟨rfl,xs,hS⟩|⟨rfl,kvs,hS⟩
  ·obtain⟨its,_,⟨o,e,c,n,d⟩,_⟩:=I.tuple hS
   rcases hC with rfl|rfl|rfl|rfl
   ·exact IsiPair.tuple_int e c (gJ _ rfl)
   ·exact IsiPair.tuple_bool e c (gJ _ rfl)
   ·exact IsiPair.tuple_tuple e c (Mw _ rfl)
   ·exact IsiPair.tuple_list e c (gJ _ rfl)
  ·obtain⟨its,_,⟨o,n,e,c,d,_⟩,_⟩:=I.list hS
   rcases hC with rfl|rfl|rfl|rfl
   ·exact IsiPair.list_int e c (gJ _ rfl)
   ·exact IsiPair.list_bool e c (gJ _ rfl)
   ·exact IsiPair.list_tuple e c (gJ _ rfl)
   ·exact IsiPair.list_list e c (Mw _ rfl)
  ·obtain⟨_,_,vs,_,o,es,ep,e,c,_⟩:=I.hok a _ hS
   have c':o.cls= .type "dict":=c.1
   rcases hC with rfl|rfl|rfl|rfl
   ·exact IsiPair.dict_int e c' (gJ _ rfl)
   ·exact IsiPair.dict_bool e c' (gJ _ rfl)
   ·exact IsiPair.dict_tuple e c' (gJ _ rfl)
   ·exact IsiPair.dict_list e c' (gJ _ rfl)
 |_=>exact hk.elim
end
mutual
inductive DV(K:W.Frag)(H:Hp):V->PyData->Prop
 |non:DV K H .non .none
 |bl (b:Bool):DV K H (.bl b) (.bool b)
 |int (i:Int):DV K H (.int i) (.int i)
 |str (x:Str):DV K H (.str x) (.str x)
 |tup {a:Addr} {xs:List V} {ds:List PyData} (h:SqT K H a xs) (t:dI K H xs ds):DV K H (.ref a) (.tuple ds)
 |lst {a:Addr} {xs:List V} {ds:List PyData} (h:SqL K H a xs) (t:dI K H xs ds):DV K H (.ref a) (.list ds)
 |dc0 {a:Addr} (h:H a=some (.dK [])):DV K H (.ref a) (.dict [])
 |dc1 {a b:Addr} {i:Int} (h:H a=some (.dK [(Sum.inl i,.ref b)])) (t:SqT K H b []):DV K H (.ref a) (.dict [(.int i,.tuple [])])
inductive dI(K:W.Frag)(H:Hp):List V->List PyData->Prop
 |nil:dI K H [] []
 |cons {x:V} {d:PyData} {xs:List V} {ds:List PyData} (h:DV K H x d) (t:dI K H xs ds):dI K H (x::xs) (d::ds)
end
theorem Same.tup{K:W.Frag}{H H':Hp}{a:Addr}{xs:List V}(e:Same H H')(h:SqT K H a xs):SqT K H' a xs:=by
 rcases h with(h|⟨o,h⟩)|h
 ·exact .inl (.inl (e _ _ h))
 ·exact .inl (.inr ⟨o,e _ _ h⟩)
 ·exact .inr h
theorem dI.same{K:W.Frag}{H H':Hp}(e:Same H H'){xs:List V}{ds:List PyData}(h:dI K H xs ds):dI K H' xs ds:=
 dI.rec (motive_1:=fun x d _=>DV K H' x d) (motive_2:=fun xs ds _=>dI K H' xs ds) .non (fun b=> .bl b) (fun i=> .int i) (fun x=> .str x) (fun h _ t=> .tup (e.tup h) t) (fun h _ t=> .lst (e.seq h) t) (fun h=> .dc0 (e _ _ h)) (fun h t=> .dc1 (e _ _ h) (e.tup t)) .nil (fun _ _ h t=> .cons h t) h
theorem Gy{P:Program}{w:World}{es:List DictEntry}(h:Pairs (mixKind P w) es []):es=[]:=by
 cases h;rfl
theorem Gx{P:Program}{w:World}{es:List DictEntry}{k:Key}{u:Value}(h:Pairs (mixKind P w) es [(k,u)]):∃e,es=[e]/\keyIs k e.key=true/\e.val=u:=by
 cases h with
 |cons h1 h2 h3=>
  cases h3
  exact⟨_,rfl,h1,h2⟩
section
variable{X:Cx}{pins:List (Addr×Obj)}{σ:St}{H:Hp}{s:Shared}
theorem Hu(I:Inv X pins σ H s){a:Addr}(h:H a=some (.dK [])):Reads s.heap (.ref a) (.dict []) (a::[]++[])/\(a==sysModules)=false:=by
 obtain⟨_,hne,vs,r0,o,es,ep,e,c,d,_,pr,_⟩:=I.hok _ _ h
 cases r0
 have hes:es.toList=[]:=Gy pr
 refine⟨.dict (kvs:=[]) (as:=[]) (bs:=[]) e c.1 d ?_ ?_,hne⟩
 ·rw[hes];exact .nil
 ·rw[hes];exact .nil
theorem Ht(I:Inv X pins σ H s){a b:Addr}{i:Int}(h:H a=some (.dK [(Sum.inl i,.ref b)]))(t:SqT X.K H b []):Reads s.heap (.ref a) (.dict [(.int i,.tuple [])]) (a::([]++[])++([]++[]))/\(a==sysModules)=false:=by
 obtain⟨_,hne,vs,r0,o,es,ep,e,c,d,_,pr,_⟩:=I.hok _ _ h
 obtain⟨its,rv,⟨o2,e2,c2,n2,d2⟩,_⟩:=I.tuple t
 cases rv
 cases r0 with
 | @cons p q ps qs hq tl=>
  cases tl
  obtain⟨en,he,hk,hv⟩:=Gx pr
  obtain⟨k,u⟩:=q
  dsimp only at hq
  obtain⟨hk1,hu1⟩:=hq
  subst hk1
  cases hu1
  obtain⟨tk,ek⟩:∃tk,en.key=Value.int i tk:=by
   rcases Nz hk with⟨i',t',e3,e4⟩|⟨x,t',e3,e4⟩
   ·cases e3;exact⟨t',e4⟩
   ·cases e3
  refine⟨.dict (kvs:=[(.int i,.tuple [])]) (as:=[]++[]) (bs:=[]++[]) e c.1 d ?_ ?_,hne⟩
  ·rw[he]
   show ReadsAll s.heap [en.key] [PyData.int i] _
   rw[ek]
   exact .cons (.int i tk) .nil
  ·rw[he]
   show ReadsAll s.heap [en.val] [PyData.tuple []] _
   rw[hv]
   exact .cons (.tuple e2 c2 d2 .nil) .nil
end
section
variable{X:Cx}{pins:List (Addr×Obj)}{σ:St}{H:Hp}{s:Shared}
theorem Gp(I:Inv X pins σ H s){a:Addr}{xs:List V}{ds:List PyData}(h:SqT X.K H a xs)(t:∀{us:List Value},Vals xs us->∃as,ReadsAll s.heap us ds as){u:Value}(r:RelV (.ref a) u):∃as,Reads s.heap u (.tuple ds) as:=by
 cases r
 obtain⟨its,rv,⟨o,e,c,n,d⟩,_⟩:=I.tuple h
 obtain⟨as,ra⟩:=t rv
 exact⟨_,.tuple e c d (by simpa using ra)⟩
theorem Gq(I:Inv X pins σ H s){a:Addr}{xs:List V}{ds:List PyData}(h:SqL X.K H a xs)(t:∀{us:List Value},Vals xs us->∃as,ReadsAll s.heap us ds as){u:Value}(r:RelV (.ref a) u):∃as,Reads s.heap u (.list ds) as:=by
 cases r
 obtain⟨its,rv,⟨o,n,e,c,_,d⟩,_⟩:=I.list h
 obtain⟨as,ra⟩:=t rv
 exact⟨_,.list e c d (by simpa using ra)⟩
theorem DV.reads(I:Inv X pins σ H s){x:V}{d:PyData}{u:Value}(h:DV X.K H x d)(r:RelV x u):∃as,Reads s.heap u d as:=
 DV.rec (motive_1:=fun x d _=>∀{u:Value},RelV x u->∃as,Reads s.heap u d as) (motive_2:=fun xs ds _=>∀{us:List Value},Vals xs us->∃as,ReadsAll s.heap us ds as)
  (fun r=>by cases r;exact⟨_,.none⟩) (fun b _ r=>by cases r;exact⟨_,.bool b⟩) (fun i _ r=>by obtain⟨t,rfl⟩:=r;exact⟨_,.int i t⟩) (fun x _ r=>by obtain⟨t,rfl⟩:=r;exact⟨_,.str x t⟩)
  (fun h _ t _ r=>Gp I h t r) (fun h _ t _ r=>Gq I h t r) (fun h _ r=>by cases r;exact⟨_,(Hu I h).1⟩) (fun h t _ r=>by cases r;exact⟨_,(Ht I h t).1⟩)
  (fun r=>by cases r;exact⟨_,.nil⟩) (fun _ _ h t _ r=>by
   cases r with
   |cons r rr=>
    obtain⟨as,ra⟩:=h r
    obtain⟨bs,rb⟩:=t rr
    exact⟨_,.cons ra rb⟩) h r
theorem dI.reads(I:Inv X pins σ H s){xs:List V}{ds:List PyData}{us:List Value}(h:dI X.K H xs ds)(r:Vals xs us):∃as,ReadsAll s.heap us ds as:=
 dI.rec (motive_1:=fun _ _ _=>True) (motive_2:=fun xs ds _=>∀{us:List Value},Vals xs us->∃as,ReadsAll s.heap us ds as) trivial (fun _=>trivial) (fun _=>trivial) (fun _=>trivial) (fun _ _ _=>trivial) (fun _ _ _=>trivial) (fun _=>trivial) (fun _ _=>trivial)
  (fun r=>by cases r;exact⟨_,.nil⟩) (fun h _ _ t _ r=>by
   cases r with
   |cons r rr=>
    obtain⟨as,ra⟩:=DV.reads I h r
    obtain⟨bs,rb⟩:=t rr
    exact⟨_,.cons ra rb⟩) h r
end
mutual
def noL:PyData->Bool
 | .list _=>false
 | .tuple ds=>Yo ds
 |_=>true
def Yo:List PyData->Bool
 |[]=>true
 |d::ds=>noL d&&Yo ds
end
section
variable{X:Cx}{pins:List (Addr×Obj)}{σ:St}{H:Hp}{s:Shared}
end
theorem dI.ints{K:W.Frag}{H:Hp}:∀(ns:List Int),dI K H (ns.map V.int) (ns.map PyData.int)
 |[]=> .nil
 |n::ns=> .cons (.int n) (dI.ints ns)
theorem dI.len{K:W.Frag}{H:Hp}{xs:List V}{ds:List PyData}(h:dI K H xs ds):xs.length=ds.length:=
 dI.rec (motive_1:=fun _ _ _=>True) (motive_2:=fun xs ds _=>xs.length=ds.length) trivial (fun _=>trivial) (fun _=>trivial) (fun _=>trivial) (fun _ _ _=>trivial) (fun _ _ _=>trivial) (fun _=>trivial) (fun _ _=>trivial) rfl (fun _ _ _ t=>jy Nat.succ t) h
section
variable{X:Cx}
theorem Uz(hu:X.A.units+64<cLine):OpR X (compareOp .Eq) (fun x y H Q=>∃da db,DV X.K H x da/\DV X.K H y db/\da.canLay0=true/\db.canLay0=true/\min da.depth db.depth<=64/\Q (.bl (PyData.eqv da db)) H):=by
 intro pins s σ H x y v u Q I rx ry h
 obtain⟨da,db,hx,hy,ca,cb,hd,q⟩:=h
 obtain⟨as,ra⟩:=DV.reads I hx rx
 obtain⟨bs,rb⟩:=DV.reads I hy ry
 exact SeqAt.rcAt_reads ra rb ca cb (by omega) _ _ _ _ ⟨.bl _,H,I,rfl,q⟩
theorem Uy(hu:X.A.units+64<cLine):OpR X (compareOp .NotEq) (fun x y H Q=>∃da db,DV X.K H x da/\DV X.K H y db/\da.canLay0=true/\db.canLay0=true/\min da.depth db.depth<=64/\Q (.bl (!PyData.eqv da db)) H):=by
 intro pins s σ H x y v u Q I rx ry h
 obtain⟨da,db,hx,hy,ca,cb,hd,q⟩:=h
 obtain⟨as,ra⟩:=DV.reads I hx rx
 obtain⟨bs,rb⟩:=DV.reads I hy ry
 exact SeqAt.rcNeAt_reads ra rb ca cb (by omega) _ _ _ _ ⟨.bl _,H,I,rfl,q⟩
theorem CN:∀{ds:List PyData},PyData.canLayAll0 ds=true->∀d∈ds,d.canLay0=true
 |[],_,d,h=>nomatch h
 |e::ds,h,d,hd=>by
  have h':(e.canLay0&&PyData.canLayAll0 ds)=true:=h
  rw[vD]at h'
  rcases cW.mp hd with rfl|hd
  ·exact h'.1
  ·exact CN h'.2 d hd
open Classical in
theorem KQ(hu:X.A.units+64<cLine):OpR X (compareOp .In) (fun x y H Q=>∃(p:Addr) (xs:List V) (ds:List PyData) (dx:PyData),y= .ref p/\(SqL X.K H p xs\/SqT X.K H p xs)/\dI X.K H xs ds/\DV X.K H x dx/\PyData.canLayAll0 ds=true/\dx.canLay0=true/\dx.depth<=60/\
  Q (.bl (ds.any fun d=>PyData.eqv d dx)) H):=by
 intro pins s σ H x y v u Q I rx ry h
 obtain⟨p,xs,ds,dx,rfl,hq,hds,hx,ca,cb,hd,q⟩:=h
 cases ry
 obtain⟨bs,rb⟩:=DV.reads I hx rx
 have key:∀{its:List Value},Vals xs its->(∀y∈its,SeqAt.EqAt X.A.in1 s y v (decide (∃d as,Reads s.heap y d as/\d∈ds/\PyData.eqv d dx=true)))/\(its.any fun y=>decide (∃d as,Reads s.heap y d as/\d∈ds/\PyData.eqv d dx=true))=ds.any fun d=>PyData.eqv d dx:=by
  intro its rv
  obtain⟨as,ra⟩:=dI.reads I hds rv
  have each:∀{us:List Value} {es:List PyData} {as:List Addr},ReadsAll s.heap us es as->(∀e∈es,e∈ds)->(∀y∈us,SeqAt.EqAt X.A.in1 s y v (decide (∃d as,Reads s.heap y d as/\d∈ds/\PyData.eqv d dx=true)))/\(us.any fun y=>decide (∃d as,Reads s.heap y d as/\d∈ds/\PyData.eqv d dx=true))=es.any fun d=>PyData.eqv d dx:=by
   intro us
   induction us with
   |nil=>intro es as h _;cases h;exact⟨(fun y hy=>(nomatch hy)),rfl⟩
   |cons y us ih=>
    intro es as h hs
    cases h with
    | @cons _ _ d ds' as' bs' r rr=>
     obtain⟨i1,i2⟩:=ih rr fun e he=>hs e (eE _ he)
     have cl:=CN ca d (hs d cX)
     have e:decide (∃d as,Reads s.heap y d as/\d∈ds/\PyData.eqv d dx=true)=PyData.eqv d dx:=by
      rw[Al,was]
      constructor
      ·rintro⟨d',as'',r',_,q'⟩
       obtain⟨rfl,_⟩:=(PySem.Reads.unique r _ _ r')
       exact q'
      ·intro q'
       exact⟨d,_,r,hs d cX,q'⟩
     refine⟨fun z hz=> ?_,?_⟩
     ·rcases cW.mp hz with rfl|hz
      ·rw[e]
       exact SeqAt.eqAt_reads d dx _ s _ _ _ _ r rb cl cb (by show X.A.units+1+min d.depth dx.depth<cLine;omega)
      ·exact i1 z hz
     ·rw[Rn,Rn,i2,e]
  exact each ra fun e he=>he
 rcases hq with hq|hq
 ·obtain⟨its,r,pl,hz⟩:=I.list hq
  obtain⟨k1,k2⟩:=key r
  refine SeqAt.in_listAt _ pl.isList (fun w hw=>k1 w (by simpa using hw)) ⟨.bl _,H,I,rfl,?_⟩
  rw[show∀f:Value->Bool,its.toArray.any f=its.any f from fun f=>by simp,k2]
  exact q
 ·obtain⟨its,r,pl,hz⟩:=I.tuple hq
  obtain⟨k1,k2⟩:=key r
  refine SeqAt.in_tupleAt _ pl (fun w hw=>k1 w (by simpa using hw)) ⟨.bl _,H,I,rfl,?_⟩
  rw[show∀f:Value->Bool,its.toArray.any f=its.any f from fun f=>by simp,k2]
  exact q
end
end L2
namespace HT
open PySem PyProof.Rows
section
open PySem.SeqAt
open PySem.AutoSeq1 (wpAny_loadPart')
open PySem.MeetsSeq PySem.MeetsSeq2 PySem.MeetsSeq3
end
section
variable{prog:Program}{w:World}{A:Around}{E:Value->Shared->Prop}{s:Shared}
theorem lG{t sl:Addr}{items:Array Value}{vl vu:Value}{lo hi:Option Int}{Q:Value->Shared->Prop}(ht:IsTup s.heap t items)(hs:s.heap.IsSliceOf sl vl vu .none)(pl:IsPart vl lo)(pu:IsPart vu hi)(hw:sIx items.size 0 lo=0/\sIx items.size items.size hi=items.size)(h:Q (.ref t) s):wpAny (model prog w) A (getItem (.ref t) (.ref sl)) Q E s:=by
 obtain⟨os,hos,hcs,hds⟩:=id hs
 have hTs:s.TypeIs (.ref sl) "slice":=⟨os,hos,hcs⟩
 unfold getItem
 try with_reducible refine Ak ?_
 first |refine aA (bC ?_)|skip
 refine aA (wpAny_sequenceKey ht.typeIs (by decide) ?_)
 refine aA (Wz (name:=Str.ofString "__getitem__") ht.typeIs wbj
  (Rz wbj ht.typeIs entry_tuple_getitem ?_ (args_tuple_getitem _ _)))
 show wpAny _ _ (Builtin.Tuple.tupleItemsOf (.ref t)>>=_) _ _ s
 refine aA (tupleItemsOf_ ht ?_)
 refine aA (XC hTs ?_)
 rw[ao (by decide)]
 refine aA (sliceApplied_gen hs pl pu ?_)
 have hyes:((((sIx items.size 0 lo:Nat):Int)==0&&(1:Int)==1&&(sIx items.size items.size hi-sIx items.size 0 lo)==items.size)=true):=by
  rw[hw.1,hw.2];simp
 show wpAny _ _ (if(((sIx items.size 0 lo:Nat):Int)==0&&(1:Int)==1&&(sIx items.size items.size hi-sIx items.size 0 lo)==items.size)=true then _ else _) _ _ s
 rw[ao hyes]
 obtain⟨o,ho,hc,n,hd⟩:=id ht
 refine aA ?_
 show wpAny _ _ (Builtin.Tuple.tupleIsExact (.ref t)) _ _ s
 unfold Builtin.Tuple.tupleIsExact
 refine aA (XC ht.typeIs ?_)
 refine bC ?_
 rw[ao (by decide)]
 first
  |exact aA (Tw (aA (bC ⟨_,rfl,bC h⟩)))
  |exact aA (Tw (bC ⟨_,rfl,bC h⟩))
  |exact aA (Tw (aA (bC (bC ⟨_,rfl,bC h⟩))))
  |(trace_state;exact aA (aA (Tw (bC ⟨_,rfl,bC h⟩))))
end
end HT
namespace L2
open PySem PySem.Spec PyProof.Rows
section
variable{X:Cx}
theorem o8:OpR X (compareOp .IsNot) (fun x y H Q=>∃a b,x= .bl a/\y= .bl b/\Q (.bl (a !=b)) H):=by
 intro pins s σ H x y v u Q I rx ry h
 obtain⟨a,b,rfl,rfl,q⟩:=h
 cases rx;cases ry
 exact isnot_bool ⟨.bl _,H,I,rfl,q⟩
theorem nO:OpR X (binaryOp .FloorDiv) (rI (fun _ j=>0<j/\j<1000000000000000000000000000000) fun i j=> .int (i/j)):=opI fun i j _ _ _ _ _ hc q=>by
 have h1:(0:Int)<j:=hc.1
 have h2:j<1000000000000000000000000000000:=hc.2
 refine floordiv_int (by omega) ?_ (Or.inl (wes ?_))
 ·rw[wec _ (by omega)]
  exact q
 ·have h3:j.natAbs≠0:=by omega
  have h4:j.natAbs<2^100:=by
   have:(2:Nat)^100=1267650600228229401496703205376:=by decide
   omega
  have:=(Nat.log2_lt h3).mpr h4
  omega
def R3(K:W.Frag):R2:=fun x y H Q=>∃a b xs ys,x= .ref a/\y= .ref b/\SqT K H a xs/\SqT K H b ys/\xs.length+ys.length<=sizeLine/\∀r H',Same H H'->SqT K H' r (xs++ys)->Q (.ref r) H'
theorem Qa:OpR X (binaryOp .Add) (R3 X.K):=by
 intro pins s σ H x y v u Q I rx ry h
 obtain⟨a,b,xs,ys,rfl,rfl,ha,hb,hz,q⟩:=h
 by_cases hx:xs=[]
 ·subst hx
  cases rx
  cases ry
  obtain⟨its,r1,p1,_⟩:=I.tuple ha
  obtain⟨its2,r2,p2,_⟩:=I.tuple hb
  cases r1
  obtain⟨⟨cls,dd,data,sl⟩,ho,hc,n,hd⟩:=id p1
  obtain⟨⟨cls2,dd2,data2,sl2⟩,ho2,hc2,n2,hd2⟩:=id p2
  simp only at hc hd hc2 hd2
  subst hc hd hc2 hd2
  exact wga ⟨_,ho,rfl⟩ ⟨_,ho2,rfl⟩ wde wff wcb wbz (wbx _ _)
   (tuple_addW0 a b _ _ n n2 dd dd2 sl sl2 (by simp)) ⟨ho,ho2,⟨.ref b,H,I,rfl,q b H (Same.refl _) hb⟩⟩
 ·refine op_catT pins s σ H _ _ v u Q I rx ry ⟨a,b,xs,ys,rfl,rfl,ha,hb,hx,hz,fun e=> ?_,fun e p hp=> ?_⟩
  ·subst e
   exact q a H (Same.refl _) (by rw[uF];exact ha)
  ·exact q p _ (fun c o e=>by rw[cG (lN e hp)];exact e) (SqT.of aH)
def aaf(K:W.Frag):V->Option Int->Option Int->Hp->VK->Prop:=fun x lo hi H Q=>∃a xs,x= .ref a/\SqT K H a xs/\∀r H',Same H H'->SqT K H' r (cutV xs lo hi)->Q (.ref r) H'
theorem Ea:SlR X (aaf X.K):=by
 intro pins s σ H x v vl vu lo hi sl Q I rx hs pl pu h
 obtain⟨a,xs,rfl,hx,q⟩:=h
 by_cases hw:HT.sIx xs.length 0 lo=0/\HT.sIx xs.length xs.length hi=xs.length
 ·cases rx
  obtain⟨its,r,ht,hz⟩:=I.tuple hx
  have hlen:its.toArray.size=xs.length:=by rw[fL];exact r.length.symm
  refine⟨"tuple",_,PyProof.Rows.slot_tuple_getitem.lookup,ht.typeIs,?_⟩
  refine HT.lG ht hs pl pu (by rw[hlen];exact hw) ⟨.ref a,H,I,rfl,q a H (Same.refl _) ?_⟩
  have e:cutV xs lo hi=xs:=by
   unfold cutV
   rw[hw.1,hw.2]
   simp
  rw[e];exact hx
 ·exact sl_tup pins s σ H _ v vl vu lo hi sl Q I rx hs pl pu ⟨a,xs,rfl,hx,hw,fun p hp=>q p _ (fun c o e=>by rw[cG (lN e hp)];exact e) (SqT.of aH)⟩
end
end L2
namespace HT
open PySem PySem.Calls PySem.Spec PyProof.Rows PySem.W
section
variable{prog:Program}{w:World}{A:Around}{E:Value->Shared->Prop}{s:Shared}
end
end HT
namespace L2
open PySem PySem.Spec PyProof.Rows
section
variable{X:Cx}{e m:Expr}{te:TE}{tm:TO}{pos p2:Pos}
end
section
variable{X:Cx}{tg:Expr}
def Vq(K:W.Frag)(tl:TE):TI:=fun σ H R=>tl σ H fun x H1=>∃a xs,x= .ref a/\SqL K H1 a xs/\(xs.length<=sizeLine->R (Itl K a) H1)
def YJ(K:W.Frag)(tl:TE):TI:=fun σ H R=>tl σ H fun x H1=>∃a xs,x= .ref a/\SqT K H1 a xs/\(xs.length<=sizeLine->R (Itt K a) H1)
theorem xW{l:Expr}{tl:TE}(hl:PE X l tl):PI X tg l (Vq X.K tl):=by
 intro pins s σ H R I h
 refine thn (hl pins s σ H _ I h) fun v s1 ⟨x,H1,I1,r1,q1⟩=> ?_
 obtain⟨a,xs,e,hq,q⟩:=q1
 subst e
 cases r1
 obtain⟨its,rv,p,hz⟩:=I1.list hq
 refine TV p.isList ?_
 refine⟨s1.heap.objs.size,[s1.heap.objs.size],_,_,H1,rfl,I1.kept (t':=s1.toks) fun b o e=>cO _ e,turn_list a _,⟨_,jx _ rfl,rfl,rfl⟩,fun b hb=> ?_,q hz⟩
 have e:b=s1.heap.objs.size:=by simpa using hb
 subst e
 exact I1.fpOk (aJ _) (I1.hok.fresh (aJ _))
theorem Am{l:Expr}{tl:TE}(hl:PE X l tl):PI X tg l (YJ X.K tl):=by
 intro pins s σ H R I h
 refine thn (hl pins s σ H _ I h) fun v s1 ⟨x,H1,I1,r1,q1⟩=> ?_
 obtain⟨a,xs,e,hq,q⟩:=q1
 subst e
 cases r1
 obtain⟨its,rv,p,hz⟩:=I1.tuple hq
 refine X3 (show s1.heap.IsTuple a its.toArray from p) ?_
 refine⟨s1.heap.objs.size,[s1.heap.objs.size],_,_,H1,rfl,I1.kept (t':=s1.toks) fun b o e=>cO _ e,turn_tuple a _,⟨_,jx _ rfl,rfl,rfl⟩,fun b hb=> ?_,q hz⟩
 have e:b=s1.heap.objs.size:=by simpa using hb
 subst e
 exact I1.fpOk (aJ _) (I1.hok.fresh (aJ _))
theorem qd:CallR X (.builtin "len") (fun xs H Q=>∃p ys,xs=[.ref p]/\(SqL X.K H p ys\/SqT X.K H p ys)/\(ys.length<=16777216->Q (.int ys.length) H)):=by
 intro pins s σ H xs us Q I r h
 obtain⟨p,ys,rfl,hq,q⟩:=h
 have hz:ys.length<=16777216:=by
  rw[<-gB]
  rcases hq with hq|hq
  ·exact(I.list hq).choose_spec.2.2
  ·exact(I.tuple hq).choose_spec.2.2
 exact call_len_seq pins s σ H _ us Q I r ⟨p,ys,rfl,hq,q hz⟩
end
mutual
inductive DX(K:W.Frag)(H:Hp):V->PyData->Prop
 |non:DX K H .non .none
 |bl (b:Bool):DX K H (.bl b) (.bool b)
 |int (i:Int):DX K H (.int i) (.int i)
 |str (x:Str):DX K H (.str x) (.str x)
 |tup {a:Addr} {xs:List V} {ds:List PyData} (h:SqT K H a xs) (t:tY K H xs ds):DX K H (.ref a) (.tuple ds)
 |lst {a:Addr} {xs:List V} {ds:List PyData} (h:SqL K H a xs) (t:tY K H xs ds):DX K H (.ref a) (.list ds)
 |dct {a:Addr} {kvs:List (Key×V)} (ds:List (PyData×PyData)) (h:H a=some (.dK kvs)):DX K H (.ref a) (.dict ds)
inductive tY(K:W.Frag)(H:Hp):List V->List PyData->Prop
 |nil:tY K H [] []
 |cons {x:V} {d:PyData} {xs:List V} {ds:List PyData} (h:DX K H x d) (t:tY K H xs ds):tY K H (x::xs) (d::ds)
end
theorem DX.same{K:W.Frag}{H H':Hp}(e:Same H H'){x:V}{d:PyData}(h:DX K H x d):DX K H' x d:=
 DX.rec (motive_1:=fun x d _=>DX K H' x d) (motive_2:=fun xs ds _=>tY K H' xs ds) .non (fun b=> .bl b) (fun i=> .int i) (fun x=> .str x) (fun h _ t=> .tup (e.tup h) t) (fun h _ t=> .lst (e.seq h) t) (fun ds h=> .dct ds (e _ _ h)) .nil (fun _ _ h t=> .cons h t) h
theorem tY.same{K:W.Frag}{H H':Hp}(e:Same H H'){xs:List V}{ds:List PyData}(h:tY K H xs ds):tY K H' xs ds:=
 tY.rec (motive_1:=fun x d _=>DX K H' x d) (motive_2:=fun xs ds _=>tY K H' xs ds) .non (fun b=> .bl b) (fun i=> .int i) (fun x=> .str x) (fun h _ t=> .tup (e.tup h) t) (fun h _ t=> .lst (e.seq h) t) (fun ds h=> .dct ds (e _ _ h)) .nil (fun _ _ h t=> .cons h t) h
theorem DV.dx{K:W.Frag}{H:Hp}{x:V}{d:PyData}(h:DV K H x d):DX K H x d:=
 DV.rec (motive_1:=fun x d _=>DX K H x d) (motive_2:=fun xs ds _=>tY K H xs ds) .non (fun b=> .bl b) (fun i=> .int i) (fun x=> .str x) (fun h _ t=> .tup h t) (fun h _ t=> .lst h t) (fun h=> .dct [] h) (fun h _=> .dct _ h) .nil (fun _ _ h t=> .cons h t) h
def yZ:PyData->String
 | .none=>"NoneType"
 | .bool _=>"bool"
 | .int _=>"int"
 | .str _=>"str"
 | .list _=>"list"
 | .tuple _=>"tuple"
 | .dict _=>"dict"
theorem DX.kind{K:W.Frag}{H:Hp}:∀{x:V} {d:PyData},DX K H x d->SQ K H x (yZ d)
 |_,_,.non=>rfl
 |_,_,.bl _=>rfl
 |_,_,.int _=>rfl
 |_,_,.str _=>rfl
 |_,_,.tup h _=> .inl ⟨rfl,_,h⟩
 |_,_,.lst h _=> .inr (.inl ⟨rfl,_,h⟩)
 |_,_,.dct _ h=> .inr (.inr ⟨rfl,_,h⟩)
theorem tY.len{K:W.Frag}{H:Hp}{xs:List V}{ds:List PyData}(h:tY K H xs ds):xs.length=ds.length:=
 tY.rec (motive_1:=fun _ _ _=>True) (motive_2:=fun xs ds _=>xs.length=ds.length) trivial (fun _=>trivial) (fun _=>trivial) (fun _=>trivial) (fun _ _ _=>trivial) (fun _ _ _=>trivial) (fun _ _=>trivial) rfl (fun _ _ _ t=>jy Nat.succ t) h
theorem tY.get{K:W.Frag}{H:Hp}:∀{xs:List V} {ds:List PyData} {i:Nat} {x:V},tY K H xs ds->xs[i]? =some x->∃d,ds[i]? =some d/\DX K H x d
 |_,_,_,_,.nil,e=>by simp at e
 |_,_,0,_,.cons h _,e=>by simp at e;subst e;exact⟨_,rfl,h⟩
 |_,_,i+1,x,.cons _ t,e=>by
  obtain⟨d,h1,h2⟩:=tY.get (i:=i) t (by simpa using e)
  exact⟨d,by simpa using h1,h2⟩
structure bJ(K:W.Frag)(mg:Str->Option Value)(x:Str)(st:Stmt)(ps:List Str)(f:Addr)(fd:FuncData):Prop where
 F:Fun K x x st f fd
 b:Binds K fd ps []
 m:mg x=some (.ref f)
theorem pc{X:Cx}{x:Str}{st:Stmt}{ps:List Str}{f:Addr}{fd:FuncData}{j k:Nat}{sp:Sp}{E:XK}{e:Expr}{es:List Expr}{t:TA}{p pos:Pos}(F:FnOk X.prog X.w X.K X.mg X.base CX0 j f fd ps sp)(hr:Room k X.A)(D:bJ X.K X.mg x st ps f fd)(ha:PA X (e::es) t)(hj:j<=k:=by decide)(hg:Gl X x:=by rfl)(hx:Passes CX0 X E:=by exact pass0)(hdb:(x==("__debug__":Str))=false:=by decide)(he:starEach (e::es) X.env=(false,eval e X.env)::starEach es X.env:=by rfl)(hpl:(backTo pos (starEach es X.env)).any (·.1)=false:=by rfl):PE X (.Call (.Name x p) (e::es) [] pos) (tCall sp [] E t):=pe_call (F.mono hj) hr hg D.m D.F.kp D.b .nil hx ha hdb he hpl
theorem fsc{N P:List Str}{sc:Scope}(a:sc.kind= .function:=by rfl)(b:sc.isCoroutine=false:=by rfl)(c:sc.isGenerator=false:=by rfl)(d:N.Nodup:=by decide+kernel)(e:N.take P.length=P:=by rfl)(f:∀x∈P,sc.names.lookup x=some .local\/sc.names.lookup x=some .cell:=by decide+kernel)(g:∀y∈sc.names,y.2≠.free:=by decide+kernel):FnScope N P sc:=⟨a,b,c,d,e,f,g⟩
theorem aV{H:Hp}{p:Addr}(h:H p=none)(o:HO):Same H (upd H p o):=fun b u q=>by rw[cG (lN q h)];exact q
end L2
namespace vh
open PySem L2
def rF:PyData->Bool
 | .int _=>true
 |_=>false
def cu(n:Int):PyData->Bool
 | .int i=>decide (0<=i)&&decide (i<n)
 |_=>false
def intD:PyData->Int
 | .int i=>i
 |_=>0
def kids:PyData->List PyData
 | .tuple ds=>ds
 |_=>[]
def jo(ns:List Int):Bool:=(List.range (ns.length-1)).all fun k=>decide (ns.getD k 0<ns.getD (k+1) 0)
def jR(ts:List (List Int)):Bool:=(List.range (ts.length-1)).all fun k=>HT.lexLt (ts.getD k []) (ts.getD (k+1) [])
def m6(n:Int):PyData->Bool
 | .tuple ds=>ds.all (cu n)&&jo (ds.map intD)
 |_=>false
def lW(n:Int)(d:PyData):Bool:=m6 n d&&decide ((kids d).length=2)
def rN(n:Int):PyData->Bool
 | .tuple ds=>ds.all (lW n)&&jR (ds.map fun t=>(kids t).map intD)
 |_=>false
def vC:PyData->Bool
 | .tuple [n,t]=>rF n&&(decide (0<=intD n)&&decide (intD n<=10))&&rN (intD n) t
 |_=>false
theorem Bq{n:Int}:∀{d:PyData},cu n d=true->∃i,d= .int i/\0<=i/\i<n
 | .int i,h=>⟨i,rfl,by simpa[cu]using h⟩
end vh
namespace L2
open PySem PySem.Spec PyProof.Rows
section
variable{X:Cx}
theorem Fx(K:W.Frag)(h:X.K=K:=by rfl):IxR X (rIxT K):=by subst h;exact gQ
theorem jY(K:W.Frag)(h:X.K=K:=by rfl):IxR X (rIxL K):=by subst h;exact jJ
theorem Hw(K:W.Frag)(h:X.K=K:=by rfl):CallR X (.builtin "len") (fun xs H Q=>∃p ys,xs=[.ref p]/\(SqL K H p ys\/SqT K H p ys)/\(ys.length<=16777216->Q (.int ys.length) H)):=by subst h;exact qd
theorem PX(K:W.Frag)(hu:X.A.units<cLine)(h:X.K=K:=by rfl):OpR X (compareOp .Lt) (rLtT K):=by subst h;exact op_ltT hu
theorem vY(K:W.Frag)(hu:X.A.units+64<cLine)(h:X.K=K:=by rfl):OpR X (compareOp .In) (fun x y H Q=>∃(p:Addr) (xs:List V) (ds:List PyData) (dx:PyData),y= .ref p/\(SqL K H p xs\/SqT K H p xs)/\dI K H xs ds/\DV K H x dx/\PyData.canLayAll0 ds=true/\dx.canLay0=true/\dx.depth<=60/\
  Q (.bl (ds.any fun d=>PyData.eqv d dx)) H):=by subst h;exact KQ hu
theorem iu(K:W.Frag){es:List Expr}{k:Nat}{t:TGs}{n:Nat}{pos:Pos}(hc:X.calm=true)(h:PGs X es t)(hn:(assignEach es X.env).length=n:=by rfl)(hst:(assignEach es X.env).findIdx? (·.1)=none:=by rfl)(hK:X.K=K:=by rfl):PG X (.Tuple es k pos) (gTup K n t):=by subst hK;exact pg_tup hc h hn hst
end
end L2
namespace PySem
open Sem (wp)
open AutoSeq1 (wpAny_loadPart')
section
variable{prog:Program}{w:World}{A:Around}{E:Value->Shared->Prop}{s:Shared}
theorem lD{Q:List Value->Shared->Prop}{r:Addr}{a b c:Int}{t u v:Tok}{n:Nat}(hh:A.handled=none)(hr:IsRange s.heap r a b c t u v)(hsmall:Builtin.Range.small a b c=true)(hn:Builtin.Range.rangeSize a b c=n)(hlen:n<=2^24)(hQ:∀h' tk acc,(∀b o',s.heap.get? b=some o'->h'.get? b=some o')->ItemsOf (fun i v=>∃t,v= .int (a+i*c) t) acc n->Q acc.toList {s with heap:=h',toks:=tk}):
  wpAny (model prog w) A (collect (.ref r)) Q E s:=by
 unfold collect
 refine aA (wpAny_runValue (N6 F.entry_proto_collect ?_));rw[way F.plain_proto_collect _];show wpAny _ A.in1 (newList []>>=fun l=>again (.builtin "list.__iadd__" ⟨[l,.ref r],[]⟩)) _ _ s;refine aA (Jh ?_);refine bC ⟨Ol F.plain_list_iadd _,N6 F.entry_list_iadd ?_⟩;rw[way F.plain_list_iadd _]
 show wpAny _ A.in1 (Builtin.List.listExtendWith (.ref s.heap.objs.size) (.ref r) (.ref s.heap.objs.size)) _ _ _;have hS:(s.heap.push {cls:= .type "list",data:= .seq ([]:List Value).toArray}).get? s.heap.objs.size=some {cls:= .type "list",data:= .seq #[] 0}:=jx _ rfl;have fin':∀h' tk acc' c',(∀b o,b≠s.heap.objs.size->(s.heap.push {cls:= .type "list",data:= .seq ([]:List Value).toArray}).get? b=some o->h'.get? b=some o)->
   h'.get? s.heap.objs.size=some {cls:= .type "list",dict:=none,data:= .seq acc' c',slots:=#[]}->ItemsOf (fun i v=>∃t,v= .int (a+i*c) t) acc' n->wpAny (model prog w) A (match Value.ref s.heap.objs.size with
   |Value.ref a=>do
    match(<-load a).data with
     |Data.seq xs _=>pure xs.toList
     |_=>unsupported "internal:collect"
   |_=>unsupported "internal:collect") Q E {s with heap:=h',toks:=tk}:=fun h' tk acc' c' hk hS' hacc=>by
  show wpAny _ A (load s.heap.objs.size>>=_) _ _ _
  refine aA (wpAny_load hS' ?_)
  refine bC ?_
  exact hQ h' tk acc' (fun b o e=>hk b o (dM (cZ e)) (cO _ e)) hacc
 refine Aq (wpAny_extend_range (A:=A) (R:=fun r s'=>r= .ok (.ret (.ref s.heap.objs.size))/\∃h' tk acc' c',s'={s with heap:=h',toks:=tk}/\(∀b o,b≠s.heap.objs.size->(s.heap.push {cls:= .type "list",data:= .seq ([]:List Value).toArray}).get? b=some o->h'.get? b=some o)/\
   h'.get? s.heap.objs.size=some {cls:= .type "list",dict:=none,data:= .seq acc' c',slots:=#[]}/\ItemsOf (fun i v=>∃t,v= .int (a+i*c) t) acc' n) (s:={s with heap:=s.heap.push {cls:= .type "list",data:= .seq ([]:List Value).toArray}}) hh (cO _ hr) hsmall hn hlen s.heap.objs.size (.ref s.heap.objs.size) 0 hS (fun h' tk acc' c' hk hS' hacc=>⟨rfl,h',tk,acc',c',rfl,hk,hS',hacc⟩)) (fun fin s' h=> ?_) (fun e s' h=> ?_)
 ·cases fin with
  |done f=>
   obtain⟨e,h',tk,acc',c',rfl,h1,h2,h3⟩:=h
   cases e
   exact fin' h' tk acc' c' h1 h2 h3
  |again c'=>exact⟨h.1,XD h.2 fun r s'' hr=>by obtain⟨rfl,h',tk,acc',c',rfl,h1,h2,h3⟩:=hr;exact fin' h' tk acc' c' h1 h2 h3⟩
 ·exact absurd h.1 (by simp)
end
theorem jE(r:Addr)(a b c:Int)(t u v:Tok)(n:Nat)(hsmall:Builtin.Range.small a b c=true)(hn:Builtin.Range.rangeSize a b c=n)(hlen:n<=2^24):
  Meets (Builtin.«tuple.__new__» ⟨[.type "tuple",.ref r],[]⟩)
   (fun A R s=>A.handled=none/\IsRange s.heap r a b c t u v/\∀(h':Heap) tk acc,(∀b o',s.heap.get? b=some o'->h'.get? b=some o')->ItemsOf (fun i v=>∃t,v= .int (a+i*c) t) acc n->R (.ok (.ret (.ref h'.objs.size))) {s with heap:=h'.push {cls:= .type "tuple",data:= .seq acc},toks:=tk}):=
 .of_wp fun prog w A R s h=>by
  obtain⟨hp,g,d,tk,os⟩:=s;obtain⟨hh,ht,h⟩:=h
  have hsub:=sub_tuple_self
  have hinit:=init_tuple_lookup
  have hmh:=madeHere_tuple
  have hT:Shared.TypeIs ⟨hp,g,d,tk,os⟩ (.ref r) "range":=⟨_,ht,rfl⟩
  wp_walk using wpAny_loadPart' ht,XC hT,lD (A:=A.in1) hh ht hsmall hn hlen
  intro h' tk' acc hk hacc
  show wpAny _ _ (Builtin.Tuple.tupleExact acc.toList.toArray>>=fun v=>ret v) _ _ _
  unfold Builtin.Tuple.tupleExact
  refine aA (Jh ?_ (by show acc.toList.toArray.size<=sizeLine;rw[gB];simp;rw[hacc.1];omega))
  refine bC ⟨_,rfl,?_⟩
  have e:acc.toList.toArray=acc:=by simp
  rw[e]
  exact h h' tk' acc hk hacc
section
variable{prog:Program}{w:World}{A:Around}{E:Value->Shared->Prop}{s:Shared}
theorem pH{Q:Value->Shared->Prop}{r:Addr}{a b c:Int}{t u v:Tok}{n:Nat}(hh:A.handled=none)(hr:IsRange s.heap r a b c t u v)(hsmall:Builtin.Range.small a b c=true)(hn:Builtin.Range.rangeSize a b c=n)(hlen:n<=2^24)(h:∀(h':Heap) tk acc,(∀b o',s.heap.get? b=some o'->h'.get? b=some o')->ItemsOf (fun i v=>∃t,v= .int (a+i*c) t) acc n->Q (.ref h'.objs.size) {s with heap:=h'.push {cls:= .type "tuple",data:= .seq acc},toks:=tk}):
  wpAny (model prog w) A (call (.type "tuple") [.ref r]) Q E s:=
 callType_new F.called_tuple (by decide) (F.typeCall_tuple_1 _) (F.newCall_tuple_1 _) (fun obj=>F.args_object_init_2 obj _) F.entry_tuple_new
  (jE r a b c t u v n hsmall hn hlen) ⟨hh,hr,fun h' tk acc hk hacc=>⟨⟨_,jx _ rfl,rfl⟩,h h' tk acc hk hacc⟩⟩
end
end PySem
namespace L2
open PySem PySem.Spec PyProof.Rows
section
variable{X:Cx}{p p' pos pos':Pos}{a:Expr}{ta:TA}
def cQ(n:Nat):List V:=(List.range n).map fun(k:Nat)=>V.int (k:Int)
def X6(ta:TA):TE:=fun σ H Q=>ta σ H fun vs H1=>∃j:Int,vs=[.int j]/\0<=j/\j<=16777216/\∀l,H1 l=none->Q (.ref l) (upd H1 l (.tup (cQ j.toNat)))
theorem rK:∀{n:Nat} {us:List Value},us.length=n->(∀(j:Nat) (u:Value),us[j]? =some u->∃t:Tok,u=Value.int (0+((j:Nat):Int)*1) t)->Vals (cQ n) us:=by
 intro n us hl hi
 have go:∀(us:List Value) (k:Nat),(∀(j:Nat) (u:Value),us[j]? =some u->∃t:Tok,u=Value.int (0+((j+k:Nat):Int)*1) t)->Vals ((List.range' k us.length).map fun(k:Nat)=>V.int (k:Int)) us:=by
  intro us
  induction us with
  |nil=>intro k _;exact .nil
  |cons u us ih=>
   intro k h
   obtain⟨t,e⟩:=h 0 u rfl
   refine .cons ⟨t,?_⟩ (ih (k+1) fun j u' hj=> ?_)
   ·rw[e];congr 1;omega
   ·obtain⟨t',e'⟩:=h (j+1) u' (by simpa using hj)
    refine⟨t',?_⟩
    rw[e'];congr 1;omega
 have:=go us 0 (fun j u hj=>by obtain⟨t,e⟩:=hi j u hj;exact⟨t,by rw[e];rfl⟩)
 unfold cQ
 rw[List.range_eq_range',<-hl]
 exact this
theorem jU(hc:X.calm=true)(YZ:Gl X "tuple")(YS:X.mg "tuple"=none)(hg:Gl X "range")(hm:X.mg "range"=none)(ha:PA X [a] ta)(hs:starEach [a] X.env=[(false,eval a X.env)]:=by rfl)(hs2:starEach [Expr.Call (.Name "range" p') [a] [] pos'] X.env=[(false,eval (Expr.Call (.Name "range" p') [a] [] pos') X.env)]:=by rfl):
  PE X (.Call (.Name "tuple" p) [.Call (.Name "range" p') [a] [] pos'] [] pos) (X6 ta):=by
 intro pins s σ H Q I h
 refine Oq (ld_blt I YZ YS (show bootBuiltins "tuple"=some (.type "tuple")from by decide+kernel) ?_ (by decide) (by decide))
 refine Jm ?_ hs2 rfl
 rw[hs2]
 refine wcl ?_
 refine Call_ (ld_blt I hg hm Xv (Jm (thn (ha pos' pins s σ H _ I h) fun us s1 ⟨vs,H1,I1,r1,q1⟩=> ?_) hs rfl))
 obtain⟨j,e,q1,q2,q⟩:=q1
 subst e
 cases r1 with
 |cons r rr=>
  cases rr
  obtain⟨t,rfl⟩:=r
  refine call_range_1 ?_
  refine wcx ?_
  have hn:Builtin.Range.rangeSize 0 j 1=((j.toNat:Nat):Int):=by rw[wfd];split<;>omega
  refine pH (I.ok.hd hc) (wgs ..) (small_one (by decide) (by decide) (by omega) (by omega)) hn (by omega) fun h' tk acc hk hacc=> ?_
  have I2:Inv X pins σ H1 {s1 with heap:=h',toks:=tk}:=I1.kept fun b o e=>hk b o (cO _ e)
  have hv:Vals (cQ j.toNat) acc.toList:=rK (by rw[Rv];exact hacc.1) (fun i u hu=>hacc.2 i u (by simpa using hu))
  have hz:(cQ j.toNat).length<=sizeLine:=by unfold cQ;rw[gB];simp;omega
  have I3:Inv X pins σ (upd H1 h'.objs.size (.tup (cQ j.toNat))) {s1 with heap:=h'.push {cls:= .type "tuple",data:= .seq acc},toks:=tk}:=
   I2.laid (t':=tk) (fun b o e=>cO _ e) (aJ _) (show ObjOk X.prog X.w _ _ _ (.tup (cQ j.toNat))from⟨hz,acc.toList,hv,by rw[show acc=acc.toList.toArray by simp];exact Wx _ _⟩)
  exact⟨.ref h'.objs.size,_,I3,rfl,q _ (I2.hok.fresh (aJ _))⟩
open Classical in
theorem o7(hu:X.A.units+64<cLine):OpR X (compareOp .NotIn) (fun x y H Q=>∃(p:Addr) (xs:List V) (ds:List PyData) (dx:PyData),y= .ref p/\(SqL X.K H p xs\/SqT X.K H p xs)/\dI X.K H xs ds/\DV X.K H x dx/\PyData.canLayAll0 ds=true/\dx.canLay0=true/\dx.depth<=60/\
  Q (.bl (!(ds.any fun d=>PyData.eqv d dx))) H):=by
 intro pins s σ H x y v u Q I rx ry h
 obtain⟨p,xs,ds,dx,rfl,hq,hds,hx,ca,cb,hd,q⟩:=h
 cases ry
 obtain⟨bs,rb⟩:=DV.reads I hx rx
 have key:∀{its:List Value},Vals xs its->(∀y∈its,SeqAt.EqAt X.A.in1 s y v (decide (∃d as,Reads s.heap y d as/\d∈ds/\PyData.eqv d dx=true)))/\(its.any fun y=>decide (∃d as,Reads s.heap y d as/\d∈ds/\PyData.eqv d dx=true))=ds.any fun d=>PyData.eqv d dx:=by
  intro its rv
  obtain⟨as,ra⟩:=dI.reads I hds rv
  have each:∀{us:List Value} {es:List PyData} {as:List Addr},ReadsAll s.heap us es as->(∀e∈es,e∈ds)->(∀y∈us,SeqAt.EqAt X.A.in1 s y v (decide (∃d as,Reads s.heap y d as/\d∈ds/\PyData.eqv d dx=true)))/\(us.any fun y=>decide (∃d as,Reads s.heap y d as/\d∈ds/\PyData.eqv d dx=true))=es.any fun d=>PyData.eqv d dx:=by
   intro us
   induction us with
   |nil=>intro es as h _;cases h;exact⟨(fun y hy=>(nomatch hy)),rfl⟩
   |cons y us ih=>
    intro es as h hs
    cases h with
    | @cons _ _ d ds' as' bs' r rr=>
     obtain⟨i1,i2⟩:=ih rr fun e he=>hs e (eE _ he)
     have cl:=CN ca d (hs d cX)
     have e:decide (∃d as,Reads s.heap y d as/\d∈ds/\PyData.eqv d dx=true)=PyData.eqv d dx:=by
      rw[Al,was]
      constructor
      ·rintro⟨d',as'',r',_,q'⟩
       obtain⟨rfl,_⟩:=(PySem.Reads.unique r _ _ r')
       exact q'
      ·intro q'
       exact⟨d,_,r,hs d cX,q'⟩
     refine⟨fun z hz=> ?_,?_⟩
     ·rcases cW.mp hz with rfl|hz
      ·rw[e]
       exact SeqAt.eqAt_reads d dx _ s _ _ _ _ r rb cl cb (by show X.A.units+1+min d.depth dx.depth<cLine;omega)
      ·exact i1 z hz
     ·rw[Rn,Rn,i2,e]
  exact each ra fun e he=>he
 rcases hq with hq|hq
 ·obtain⟨its,r,pl,hz⟩:=I.list hq
  obtain⟨k1,k2⟩:=key r
  refine SeqAt.notIn_listAt _ pl.isList (fun w hw=>k1 w (by simpa using hw)) ⟨.bl _,H,I,rfl,?_⟩
  rw[show∀f:Value->Bool,its.toArray.any f=its.any f from fun f=>by simp,k2]
  exact q
 ·obtain⟨its,r,pl,hz⟩:=I.tuple hq
  obtain⟨k1,k2⟩:=key r
  refine SeqAt.notIn_tupleAt _ pl (fun w hw=>k1 w (by simpa using hw)) ⟨.bl _,H,I,rfl,?_⟩
  rw[show∀f:Value->Bool,its.toArray.any f=its.any f from fun f=>by simp,k2]
  exact q
theorem sJ(K:W.Frag)(hu:X.A.units+64<cLine)(h:X.K=K:=by rfl):OpR X (compareOp .NotIn) (fun x y H Q=>∃(p:Addr) (xs:List V) (ds:List PyData) (dx:PyData),y= .ref p/\(SqL K H p xs\/SqT K H p xs)/\dI K H xs ds/\DV K H x dx/\PyData.canLayAll0 ds=true/\dx.canLay0=true/\dx.depth<=60/\
  Q (.bl (!(ds.any fun d=>PyData.eqv d dx))) H):=by subst h;exact o7 hu
end
end L2
namespace PySem
open Sem (wp)
open Builtin
open AutoSeq1 (wpAny_loadPart')
theorem o9:fillsNumberSlot (.type "tuple") "mul"=pure false:=
 fillsNumberSlot_seq (id:="tuple.__mul__") (r:=some (.builtin "tuple.__rmul__")) F.slot_tuple_mul.lookup (by decide+kernel) F.slot_tuple_rmul.lookup (by decide+kernel)
theorem vU:seqRepeat? (.type "tuple")=pure (some (.builtin "tuple.__mul__")):=by
 unfold seqRepeat?
 rw[seqSlot_of (T:="tuple") (name:="__mul__") (id:="tuple.__mul__") F.slot_tuple_mul.lookup (by decide+kernel),seqSlot_of (T:="tuple") (name:="__rmul__") (id:="tuple.__rmul__") F.slot_tuple_rmul.lookup (by decide+kernel)]
 rfl
theorem wB(a:Int)(t:Tok)(l:Addr)(items:Array Value)(n:Nat)(d:Option Addr)(sl:Array (Option Value)):
  Meets (Builtin.«int.__rmul__» ⟨[.int a t,.ref l],[]⟩) (fun _ R s=>s.heap.get? l=some {cls:= .type "tuple",dict:=d,data:= .seq items n,slots:=sl}/\R (.ok (.ret Value.notImplemented)) s):=
 .of_wp fun prog w A R s h=>by obtain⟨hp,g,d,tk,os⟩:=s;obtain⟨hl,h⟩:=h;wp_walk;exact⟨_,rfl,h⟩
theorem tup_mul_1(l:Addr)(items:Array Value)(n:Nat)(d:Option Addr)(sl:Array (Option Value))(x:Int)(u:Tok)(hx:x=1):
  Meets (Builtin.«tuple.__mul__» ⟨[.ref l,.int x u],[]⟩) (fun _ R s=>s.heap.get? l=some {cls:= .type "tuple",dict:=d,data:= .seq items n,slots:=sl}/\R (.ok (.ret (Value.ref l))) s):=
 .of_wp fun prog w A R s h=>by
  subst hx
  obtain⟨hp,g,d,tk,os⟩:=s;obtain⟨hl,h⟩:=h;have f1:=wfq
  wp_walk using wpAny_loadPart' hl;exact⟨_,rfl,h⟩
theorem tup_mul_0(l:Addr)(items:Array Value)(n:Nat)(d:Option Addr)(sl:Array (Option Value))(x:Int)(u:Tok)(hx:x<=0)(hlo: -(2^63)<=x)(hne:items.isEmpty=false):
  Meets (Builtin.«tuple.__mul__» ⟨[.ref l,.int x u],[]⟩) (fun _ R s=>s.heap.get? l=some {cls:= .type "tuple",dict:=d,data:= .seq items n,slots:=sl}/\R (.ok (.ret (Value.ref s.heap.objs.size))) {s with heap:=s.heap.push {cls:=Value.type "tuple",data:=Data.seq #[]},toks:=s.toks}):=
 .of_wp fun prog w A R s h=>by
  obtain⟨hp,g,d,tk,os⟩:=s;obtain⟨hl,h⟩:=h;have f1:=wfq
  have c1:¬((decide (x< -(2^63))||decide (x≥2^63))=true):=by simp;omega
  have c2:¬((items.isEmpty||x==1)=true):=by rw[hne];simp;omega
  have c3:(decide (x<=0)||items.isEmpty)=true:=by rw[hne];simp;omega
  wp_walk using wpAny_loadPart' hl;rw[ak c1];wp_walk using wpAny_loadPart' hl;rw[ak c2];wp_walk using wpAny_loadPart' hl;exact⟨_,rfl,h⟩
theorem Ga(l:Addr)(items:Array Value)(n:Nat)(d:Option Addr)(sl:Array (Option Value))(x:Int)(u:Tok)(hx:1<x)(hhi:x<2^63)(hne:items.isEmpty=false)(hsz:items.size*x.toNat<=1000):
  Meets (Builtin.«tuple.__mul__» ⟨[.ref l,.int x u],[]⟩) (fun _ R s=>s.heap.get? l=some {cls:= .type "tuple",dict:=d,data:= .seq items n,slots:=sl}/\R (.ok (.ret (Value.ref s.heap.objs.size))) {s with heap:=s.heap.push {cls:=Value.type "tuple",data:=Data.seq (List.foldl (fun x1 x2=>x1++x2) #[] (List.replicate x.toNat items))},toks:=s.toks}):=
 .of_wp fun prog w A R s h=>by
  obtain⟨hp,g,d,tk,os⟩:=s;obtain⟨hl,h⟩:=h;have f1:=wfq
  have c1:¬((decide (x< -(2^63))||decide (x≥2^63))=true):=by simp;omega
  have c2:¬((items.isEmpty||x==1)=true):=by rw[hne];simp;omega
  have c3:¬((decide (x<=0)||items.isEmpty)=true):=by rw[hne];simp;omega
  have hxs:(items.size:Int)*x=((items.size*x.toNat:Nat):Int):=by rw[Tf,Int.toNat_of_nonneg (by omega)]
  have c4:¬((items.size:Int)*x>(2^63-1)/8):=by rw[hxs];omega
  have c5:¬(Builtin.Tuple.tupleTooMany ((items.size:Int)*x)=true):=by
   rw[hxs]
   intro z
   have z':((items.size*x.toNat:Nat):Int)>(sizeLine:Int):=xT z
   have:=gB
   generalize items.size*x.toNat=m at *
   omega
  have htake:(List.foldl (fun x1 x2=>x1++x2) #[] (List.replicate x.toNat items)).size<=sizeLine:=by
   have e:List.foldl (fun x1 x2=>x1++x2) #[] (List.replicate x.toNat items)=(List.replicate x.toNat items.toList).flatten.toArray:=by
    have:=PyProof.Rows.listMul_foldl_if items x.toNat
    rw[ak (by rw[hne];simp)]at this
    exact this
   rw[e,fL]
   have:(List.replicate x.toNat items.toList).flatten.length=x.toNat*items.size:=by simp
   rw[this,Rm,gB]
   omega
  wp_walk using wpAny_loadPart' hl;rw[ak c1];wp_walk using wpAny_loadPart' hl;rw[ak c2];wp_walk using wpAny_loadPart' hl;rw[ak c3]
  try dsimp only
  rw[ak c4]
  try dsimp only
  rw[ak c5]
  try dsimp only
  unfold Builtin.Tuple.tupleExact
  refine aA (Jh (bC ?_) htake)
  exact⟨_,rfl,h⟩
end PySem
namespace L2
open PySem PySem.Spec PyProof.Rows
section
variable{X:Cx}{p p' pos pos':Pos}{a:Expr}{ta:TA}
theorem Vals.Yh{xs:List V}{us:List Value}(h:Vals xs us):∀k:Nat,Vals (List.replicate k xs).flatten (List.replicate k us).flatten
 |0=> .nil
 |k+1=>by rw[FQ,FQ,Ja,Ja];exact h.append (Vals.Yh h k)
def Yj(K:W.Frag):R2:=fun x y H Q=>∃a k xs,x= .ref a/\y= .int k/\SqT K H a xs/\xs≠[]/\ -(2^63)<=k/\k<2^63/\xs.length*k.toNat<=1000/\∀r H',Same H H'->SqT K H' r (List.replicate k.toNat xs).flatten->Q (.ref r) H'
theorem Em:OpR X (binaryOp .Mult) (Yj X.K):=by
 intro pins s σ H x y v u Q I rx ry h
 obtain⟨a,k,xs,rfl,rfl,ha,hne,h1,h2,hz,q⟩:=h
 cases rx
 obtain⟨t,rfl⟩:=ry
 obtain⟨its,r1,p1,_⟩:=I.tuple ha
 obtain⟨⟨cls,dd,data,sl⟩,ho,hc,n,hd⟩:=id p1
 simp only at hc hd
 subst hc hd
 have hlen:=r1.length
 have hem:its.toArray.isEmpty=false:=by
  cases its with
  |nil=>cases r1;exact absurd rfl hne
  |cons _ _=>rfl
 have road:∀{S:PySem.Spec},Meets (Builtin.«tuple.__mul__» ⟨[.ref a,.int k t],[]⟩) S->S X.A (wants (EP X pins σ Q) X.xe) s->wpAny (model X.prog X.w) X.A (binaryOp .Mult (.ref a) (.int k t)) (EP X pins σ Q) X.xe s:=fun M hS=>
  wpAny_binaryOp_repeat_ref (T:="tuple") (U:="int") (by decide) ⟨_,ho,rfl⟩ (fun s'=>Xu s' k t) o9 F.fills_int_mul wdv vU F.slot_int_index.lookup
   (NZ wdv (Xu s k t) F.entry_int_rmul (F.args_int_rmul_2 _ _) (wB k t a its.toArray n dd sl)
    ⟨ho,rfl,⟨_,ho,rfl⟩,NZ F.slot_tuple_mul ⟨_,ho,rfl⟩ F.entry_tuple_mul (F.args_tuple_mul_2 _ _) M hS⟩)
 by_cases c1:k=1
 ·refine road (tup_mul_1 a its.toArray n dd sl k t c1) ⟨ho,⟨.ref a,H,I,rfl,q a H (Same.refl _) ?_⟩⟩
  subst c1
  have:(List.replicate (1:Int).toNat xs).flatten=xs:=by simp
  rw[this];exact ha
 by_cases c0:k<=0
 ·refine road (tup_mul_0 a its.toArray n dd sl k t c0 h1 hem) ⟨ho,?_⟩
  have e0:k.toNat=0:=by omega
  refine⟨.ref s.heap.objs.size,_,I.laid (t':=s.toks) (o:= .tup []) (fun b ob q=>cO _ q) (aJ _) ⟨dJ _,[],.nil,Wx _ _⟩,rfl,q _ _ (fun c o e=>by rw[cG (lN e (I.hok.fresh (aJ _)))];exact e) ?_⟩
  rw[e0]
  exact SqT.of aH
 ·have hsz:its.toArray.size*k.toNat<=1000:=by rw[fL,<-hlen];exact hz
  refine road (Ga a its.toArray n dd sl k t (by omega) h2 hem hsz) ⟨ho,?_⟩
  have hnew:List.foldl (fun x1 x2=>x1++x2) #[] (List.replicate k.toNat its.toArray)=(List.replicate k.toNat its).flatten.toArray:=by
   have:=foldl_rep its k.toNat []
   rw[List.nil_append]at this
   exact this
  rw[hnew]
  have hz':(List.replicate k.toNat xs).flatten.length<=sizeLine:=by
   rw[len_rep,Rm]
   exact bZ hz (by rw[gB];decide)
  refine⟨.ref s.heap.objs.size,_,I.laid (t':=s.toks) (o:= .tup (List.replicate k.toNat xs).flatten) (fun b ob q=>cO _ q) (aJ _) ⟨hz',_,Vals.Yh r1 k.toNat,Wx _ _⟩,rfl,q _ _ (fun c o e=>by rw[cG (lN e (I.hok.fresh (aJ _)))];exact e) (SqT.of aH)⟩
def X7(ta:TA):TE:=fun σ H Q=>ta σ H fun vs H1=>∃j:Int,vs=[.int j]/\0<=j/\j<=16777216/\∀l,H1 l=none->Q (.ref l) (upd H1 l (.lst (cQ j.toNat)))
theorem jV(hc:X.calm=true)(YZ:Gl X "list")(YS:X.mg "list"=none)(hg:Gl X "range")(hm:X.mg "range"=none)(ha:PA X [a] ta)(hs:starEach [a] X.env=[(false,eval a X.env)]:=by rfl)(hs2:starEach [Expr.Call (.Name "range" p') [a] [] pos'] X.env=[(false,eval (Expr.Call (.Name "range" p') [a] [] pos') X.env)]:=by rfl):
  PE X (.Call (.Name "list" p) [.Call (.Name "range" p') [a] [] pos'] [] pos) (X7 ta):=by
 intro pins s σ H Q I h
 refine Oq (ld_blt I YZ YS (show bootBuiltins "list"=some (.type "list")from by decide+kernel) ?_ (by decide) (by decide))
 refine Jm ?_ hs2 rfl
 rw[hs2]
 refine wcl ?_
 refine Call_ (ld_blt I hg hm Xv (Jm (thn (ha pos' pins s σ H _ I h) fun us s1 ⟨vs,H1,I1,r1,q1⟩=> ?_) hs rfl))
 obtain⟨j,e,q1,q2,q⟩:=q1
 subst e
 cases r1 with
 |cons r rr=>
  cases rr
  obtain⟨t,rfl⟩:=r
  refine call_range_1 ?_
  refine wcx ?_
  have hn:Builtin.Range.rangeSize 0 j 1=((j.toNat:Nat):Int):=by rw[wfd];split<;>omega
  refine call_list_range (I.ok.hd hc) (wgs ..) (small_one (by decide) (by decide) (by omega) (by omega)) hn (by omega) fun h' tk acc c hk hS hacc=> ?_
  have hv:Vals (cQ j.toNat) acc.toList:=rK (by rw[Rv];exact hacc.1) (fun i u hu=>hacc.2 i u (by simpa using hu))
  have hz:(cQ j.toNat).length<=sizeLine:=by unfold cQ;rw[gB];simp;omega
  have I2:Inv X pins σ H1 {s1 with heap:=s1.heap.push {cls:=Value.type "range",data:=Data.fields #[Value.int 0 s1.toks,Value.int j t,Value.int 1 (s1.toks+1)]},toks:=s1.toks+1+1}:=I1.kept fun b o e=>cO _ e
  exact⟨.ref _,_,I2.laid (t':=tk) (o:= .lst (cQ j.toNat)) hk (aJ _) ⟨hz,acc.toList,c,hv,by simpa using hS⟩,rfl,q _ (I2.hok.fresh (aJ _))⟩
end
end L2
namespace PySem
open Sem (wp)
open AutoSeq1 (wpAny_loadPart')
theorem wQ(l:Addr)(items:Array Value)(n:Nat)(dct:Option Addr)(sl:Array (Option Value)):
  Meets (Builtin.«enumerate.__new__» ⟨[.type "enumerate",.ref l],[]⟩) (fun _ R s=>s.heap.get? l=some {cls:= .type "tuple",dict:=dct,data:= .seq items n,slots:=sl}/\
   R (.ok (.ret (.ref (s.heap.push {cls:= .type "tuple_iterator",data:= .fields #[.ref l,.int 0 0]}).objs.size)))
    {s with heap:=(s.heap.push {cls:= .type "tuple_iterator",data:= .fields #[.ref l,.int 0 0]}).push {cls:= .type "enumerate",data:= .fields #[.none,.bool false,.ref s.heap.objs.size,rawInt 0,.none,.none]}}):=
 .of_wp fun prog w A R s h=>by
  obtain⟨hp,g,d,tk,os⟩:=s;obtain⟨hl,h⟩:=h;have hsub:=sub_enumerate
  have hL:Heap.IsTuple (Shared.heap ⟨hp,g,d,tk,os⟩) l items:=⟨_,hl,rfl,n,rfl⟩
  wp_walk using wpAny_loadPart' hl
  refine wpAny_stack_any fun st=>bC ?_;split
  ·rename_i c _ _ _ _ _
   cases(c==Value.type "enumerate")
   ·wp_walk using wpAny_loadPart' hl,X3 hL;exact⟨_,rfl,h⟩
   ·wp_walk using wpAny_loadPart' hl,X3 hL;exact⟨_,rfl,h⟩
  ·wp_walk using wpAny_loadPart' hl,X3 hL;exact⟨_,rfl,h⟩
section
variable{prog:Program}{w:World}{A:Around}{E:Value->Shared->Prop}{s:Shared}
theorem sO{it t:Addr}{i:Nat}{items:Array Value}{x:Value}{Q:Value->Shared->Prop}(hit:s.heap.IsTupleIter it t i)(ht:s.heap.IsTuple t items)(hx:items[i]? =some x)(hQ:∀h',h'.IsTupleIter it t (i+1)->Heap.SameBut it s.heap h'->Q x {s with heap:=h'}):wpAny (model prog w) A (Builtin.SmallTypes.nextOf (.ref it)) Q E s:=by
 obtain⟨o,ho,hc,hd⟩:=id hit;obtain⟨ol,hol,_,nl,hdl⟩:=ht;unfold Builtin.SmallTypes.nextOf
 refine aA (Wz (name:=Str.ofString "__next__") hit.typeIs wbu (Rz wbu hit.typeIs wdw ?_ (wdm _)))
 show wpAny _ _ (field (.ref it) 0>>=_) _ _ s;refine aA (Ar ho hd (x:= .ref t) rfl ?_)
 show wpAny _ _ (if(Value.ref t==Value.none)=true then _ else _) _ _ s;rw[ak (show¬((Value.ref t==Value.none)=true)from qN)]
 show wpAny _ _ (field (.ref it) 1>>=_) _ _ s;refine aA (Ar ho hd (x:= .int i 0) rfl ?_)
 show wpAny _ _ (seqItems? (.ref t)>>=_) _ _ s;refine aA (FW hol hdl ?_)
 simp only[Ws,hx];refine aA (wpAny_setField ho hd (by simp) (bC ⟨x,rfl,bC (hQ _ ?_ (Jj ..))⟩))
 exact⟨_,Heap.get?_update_self _ ho (Obj.isFreed_of_fields (Obj.data_mapFields hd _)),(Obj.cls_mapFields ..).trans hc,by rw[Obj.data_mapFields hd];simp[rawInt]⟩
theorem jW{it t:Addr}{i:Nat}{items:Array Value}{Q:Value->Shared->Prop}(hh:A.handled=none)(hit:s.heap.IsTupleIter it t i)(ht:s.heap.IsTuple t items)(hx:items[i]? =none)(hE:∀h' e,Heap.ExtBut it s.heap h'->(∃o,h'.get? e=some o/\o.cls= .type "StopIteration")->E (.ref e) {s with heap:=h'}):wpAny (model prog w) A (Builtin.SmallTypes.nextOf (.ref it)) Q E s:=by
 obtain⟨o,ho,hc,hd⟩:=id hit;obtain⟨ol,hol,_,nl,hdl⟩:=ht;unfold Builtin.SmallTypes.nextOf
 refine aA (Wz (name:=Str.ofString "__next__") hit.typeIs wbu (Rz wbu hit.typeIs wdw ?_ (wdm _)))
 show wpAny _ _ (field (.ref it) 0>>=_) _ _ s;refine aA (Ar ho hd (x:= .ref t) rfl ?_)
 show wpAny _ _ (if(Value.ref t==Value.none)=true then _ else _) _ _ s;rw[ak (show¬((Value.ref t==Value.none)=true)from qN)]
 show wpAny _ _ (field (.ref it) 1>>=_) _ _ s;refine aA (Ar ho hd (x:= .int i 0) rfl ?_)
 show wpAny _ _ (seqItems? (.ref t)>>=_) _ _ s;refine aA (FW hol hdl ?_)
 simp only[Ws,hx];refine aA (Tw (aA (wpAny_setField ho hd (by simp) ?_)))
 show wpAny _ _ (newExc (.type "StopIteration") []>>=_) _ _ _;refine aA ?_;simp only[newExc,newTuple];refine aA (Jh ?_ (by size_fits))
 refine aA (m:=firstArgMember _ _) (wpAny_of_eq (a:=Value.none) (by first |rfl|(simp only[firstArgMember];rfl)) ?_);refine Jh ?_ (by size_fits)
 simp only[raiseNew];refine aA (wpAny_handled ?_);first |rw[show A.in1.handled=none from hh]|rw[hh]
 refine aA (bC (wpAny_throw ?_));exact hE _ _ (((Jj ..).extBut.push _).push _) ⟨_,jx _ rfl,rfl⟩
end
theorem Draws.tup{prog:Program}{w:World}{A:Around}(hh:A.handled=none)(it l:Addr)(hne:l≠it)(items:Array Value):
  Draws prog w A it [it,l] items.size (fun i v=>items[i]? =some v) (fun i h=>h.IsTupleIter it l i/\h.IsTuple l items) where
 live:=fun i h st=>by obtain⟨⟨o,e,_⟩,_⟩:=st;exact⟨o,e⟩
 frame:=fun i h h' st k=>⟨st.1.at fun o e=>k it (by simp) o e,st.2.at fun o e=>k l (by simp) o e⟩
 item:=fun i s Q E hi st hQ=>by
  have hx:items[i]? =some items[i]:=Array.getElem?_eq_getElem hi
  exact sO st.1 st.2 hx fun h' hit' hs=>hQ _ h' s.toks hx ⟨hit',st.2.at fun o e=>(hs.2 l hne).trans e⟩ hs
 done:=fun s Q E st hE=>jW hh st.1 st.2 (Array.getElem?_eq_none (aJ _)) hE
section
variable{prog:Program}{w:World}{A:Around}{E:Value->Shared->Prop}{s:Shared}
theorem uq{l:Addr}{items:Array Value}{Q:Value->Shared->Prop}(hL:s.heap.IsTuple l items)(h:∀h',IsEnum h' (s.heap.objs.size+1) s.heap.objs.size 0 .none->h'.IsTupleIter s.heap.objs.size l 0->h'.objs.size=s.heap.objs.size+2->(∀b o,s.heap.get? b=some o->h'.get? b=some o)->Q (.ref (s.heap.objs.size+1)) {s with heap:=h'}):
  wpAny (model prog w) A (call (.type "enumerate") [.ref l]) Q E s:=by
 obtain⟨⟨c,dct,dt,sl⟩,hl,hc,n,hd⟩:=hL;replace hc:c= .type "tuple":=hc;replace hd:dt= .seq items n:=hd;subst hc hd
 refine callType_new F.called_enumerate (by decide) (F.typeCall_enumerate_1 _) (F.newCall_enumerate_1 _) (fun obj=>F.args_object_init_2 obj _) F.entry_enumerate_new (wQ l items n dct sl) ⟨hl,?_⟩
 have hz:(s.heap.push {cls:= .type "tuple_iterator",data:= .fields #[.ref l,.int 0 0]}).objs.size=s.heap.objs.size+1:=Aj ..
 show _/\_
 rw[hz]
 have he:IsEnum ((s.heap.push {cls:= .type "tuple_iterator",data:= .fields #[.ref l,.int 0 0]}).push {cls:= .type "enumerate",data:= .fields #[.none,.bool false,.ref s.heap.objs.size,rawInt 0,.none,.none]}) (s.heap.objs.size+1) s.heap.objs.size 0 .none:=by
  have:=jx (s.heap.push {cls:= .type "tuple_iterator",data:= .fields #[.ref l,.int 0 0]}) (o:={cls:= .type "enumerate",data:= .fields #[.none,.bool false,.ref s.heap.objs.size,rawInt 0,.none,.none]}) rfl
  rw[hz]at this;exact this
 exact⟨⟨_,he,rfl⟩,h _ he ⟨_,cO _ (jx _ rfl),rfl,rfl⟩ (by rw[Aj,hz]) fun b o x=>cO _ (cO _ x)⟩
end
end PySem
namespace L2
open PySem PySem.Spec PyProof.Rows
section
variable{X:Cx}{pins:List (Addr×Obj)}{σ:St}{H:Hp}{s:Shared}{h':Heap}
theorem Inv.oV{t':Nat}{fp:List Addr}{T:Addr}{o:HO}(I:Inv X pins σ H s)(k:∀b o,b∉fp->s.heap.get? b=some o->h'.get? b=some o)(hf:∀b∈fp,FpOk X pins H b)(hT:s.heap.objs.size<=T)(new:ObjOk X.prog X.w (upd H T o) h' T o):
  Inv X pins σ (upd H T o) {s with heap:=h',toks:=t'}:=by
 have hTn:H T=none:=I.hok.fresh hT
 have Yp:∀b u,H b=some u->b∉fp:=fun b u e z=>by rw[(hf b z).1]at e;cases e
 have neT:∀b o,s.heap.get? b=some o->b≠T:=fun b o e=>dM (iJ (cZ e) hT)
 have Yq:∀b u,H b=some u->b≠T:=fun b u e z=>by rw[z,hTn]at e;cases e
 refine I.step (g':=s.gens) (d':=s.drawn) (ch:=fp) (fun b hb=> ?_) (fun b o _ _ hc e _=>k b o hc e) (fun b o _ _ hc e _=>⟨o.slots,k b o hc e⟩) (fun b o _ e n=>by rw[cG (neT b o e)];exact n)
  (fun b o hc e=>⟨o,k b o hc e⟩) (fun b xs e=>by rw[cG (Yq b _ e)];exact e) (fun b o u e=>by rw[cG (Yq b _ e)];exact e) (fun b ps e=>⟨#[],by rw[cG (Yq b _ e),e];simp⟩) (fun m hm=> ?_) (fun b u e=> ?_) I.bare
 ·obtain⟨f0,f1,f2,f3,f4,f5⟩:=hf b hb
  exact⟨f3,f1,f4,f5⟩
 ·obtain⟨o,es,ep,ho,r⟩:=hm
  exact⟨o,es,ep,k _ o (fun z=>(hf _ z).2.1 rfl) ho,r⟩
 ·by_cases hb:b=T
  ·subst hb
   rw[aH]at e
   cases e
   exact new
  ·rw[cG hb]at e
   refine(I.hok b u e).stay (fun c v hc q=>k c v ?_ q) (fun c q=>by rw[cG (Yq c _ q)];exact q) fun c xs q=>by rw[cG (Yq c _ q)];exact q
   rcases hc with z|z
   ·rw[z];exact Yp b u e
   ·exact Yp c _ z
theorem Inv.turns{t':Nat}{fp:List Addr}(I:Inv X pins σ H s)(k:∀b o,b∉fp->s.heap.get? b=some o->h'.get? b=some o)(hf:∀b∈fp,FpOk X pins H b):Inv X pins σ H {s with heap:=h',toks:=t'}:=by
 have Yp:∀b u,H b=some u->b∉fp:=fun b u e z=>by rw[(hf b z).1]at e;cases e
 refine I.step (g':=s.gens) (d':=s.drawn) (ch:=fp) (fun b hb=> ?_) (fun b o _ _ hc e _=>k b o hc e) (fun b o _ _ hc e _=>⟨o.slots,k b o hc e⟩) (fun b o _ e n=>n)
  (fun b o hc e=>⟨o,k b o hc e⟩) (fun b xs e=>e) (fun b o u e=>e) (fun b ps e=>⟨#[],by rw[e];simp⟩) (fun m hm=> ?_) (fun b u e=> ?_) I.bare
 ·obtain⟨f0,f1,f2,f3,f4,f5⟩:=hf b hb
  exact⟨f3,f1,f4,f5⟩
 ·obtain⟨o,es,ep,ho,r⟩:=hm
  exact⟨o,es,ep,k _ o (fun z=>(hf _ z).2.1 rfl) ho,r⟩
 ·refine(I.hok b u e).stay (fun c v hc q=>k c v ?_ q) (fun c q=>q) fun c xs q=>q
  rcases hc with z|z
  ·rw[z];exact Yp b u e
  ·exact Yp c _ z
end
def W8(K:W.Frag)(b:Bool)(H:Hp)(a:Addr)(xs:List V):Prop:=match b with
 |false=>SqL K H a xs
 |true=>SqT K H a xs
def Ite(K:W.Frag)(b:Bool)(a:Addr)(xs:List V):It:=
 ⟨fun i H=>W8 K b H a xs/\i<xs.length,fun i H x H'=>∃t v,x= .ref t/\H t=none/\H'=upd H t (.tup [.int (i:Int),v])/\xs[i]? =some v,fun i H=>W8 K b H a xs/\i=xs.length⟩
theorem Ax{P:Program}{w:World}{K:W.Frag}{es:List Expr}{k:Nat}{pos:Pos}(a e it:Addr)(xs:List V)(hne:e≠it):
  Turn P w K (.Tuple es k pos) (Ite K false a xs) [e,it] e (fun i h=>(∃old,IsEnum h e it (i:Int) old)/\h.IsListIter it a i) where
 mem:=by simp
 obj:=fun i h st b hb=>by
  obtain⟨⟨old,he⟩,o,e1,c,d⟩:=st
  rcases cW.mp hb with z|hb
  ·subst z;exact⟨_,he,fun v z=>by cases z⟩
  ·have z:b=it:=by simpa using hb
   subst z
   exact⟨o,e1,fun v z=>by rw[d]at z;cases z⟩
 keep:=fun i h h' st k=>⟨st.1.imp fun old he=>k e (by simp) _ he,st.2.at fun o e=>k it (by simp) o e⟩
 item:=by
  intro X hP hw hK hc i pins s σ H E I hf st hg
  subst hP hw hK
  obtain⟨hq0,hi⟩:=hg
  have hq:SqL X.K H a xs:=hq0
  obtain⟨its,rv,p,hz⟩:=I.list hq
  have hx:xs[i]? =some xs[i]:=gH hi
  obtain⟨u,hu,ru⟩:=rv.get hx
  obtain⟨⟨old,he⟩,hit⟩:=st
  refine wpAny_pyNext_enum_item he hit p.isList (x:=u) (by simpa using hu) hne fun h1 ho hit1 hT hsz hk=>⟨_,rfl,?_⟩
  refine wpAny_letOwnedTupleGo_enum ho fun h2 he2 hs2=> ?_
  have nU:Heap.SameBut e h1 h2:=hs2
  have Yv:s.heap.objs.size≠e:=fun z=>absurd (cZ he) (by rw[<-z];exact oK _)
  have keep:∀b o,b∉[e,it]->s.heap.get? b=some o->h2.get? b=some o:=fun b o hb q=>(nU.2 b fun z=>hb (by simp[z])).trans (hk b o (fun z=>hb (by simp[z])) (fun z=>hb (by simp[z])) q)
  have hT2:h2.get? s.heap.objs.size=some {cls:= .type "tuple",data:= .seq #[.int i s.toks,u]}:=(nU.2 _ Yv).trans hT
  have I2:=I.oV (h':=h2) (t':=s.toks+1) (o:= .tup [.int (i:Int),xs[i]]) keep hf (aJ _) ⟨(by show 2<=sizeLine;decide),[.int i s.toks,u],.cons ⟨_,rfl⟩ (.cons ru .nil),_,hT2,rfl,_,rfl⟩
  exact⟨.ref s.heap.objs.size,_,I2,rfl,⟨_,_,rfl,I.hok.fresh (aJ _),rfl,hx⟩,⟨⟨_,by simpa using he2⟩,hit1.at fun o q=>(nU.2 it hne.symm).trans q⟩,fun b hb=>by
   rw[cG (fun z=> ?_)]
   ·exact(hf b hb).1
   ·obtain⟨_,q1,_⟩:=hit
    rcases cW.mp hb with y|y
    ·exact Yv (z.symm.trans y)
    ·have y:b=it:=by simpa using y
     rw[<-y,z]at q1
     exact absurd (cZ q1) (oK _)⟩
 done:=by
  intro X hP hw hK hc i pins s σ H E I hf st hg
  subst hP hw hK
  obtain⟨hq0,hi⟩:=hg
  have hq:SqL X.K H a xs:=hq0
  obtain⟨its,rv,p,hz⟩:=I.list hq
  have hl:=rv.length
  obtain⟨⟨old,he⟩,hit⟩:=st
  exact wpAny_pyNext_enum_end (I.ok.hd hc) he hit p.isList (by simp;omega) fun h' eb=>⟨rfl,I.turns (t':=s.toks) (fp:=[e,it]) (fun b o hb q=>eb b o (fun z=>hb (by simp[z])) q) hf⟩
 self:=fun _ _ _ _ _ st h=>by
  obtain⟨⟨old,he⟩,_⟩:=st
  exact wda he h
theorem Aw{P:Program}{w:World}{K:W.Frag}{es:List Expr}{k:Nat}{pos:Pos}(a e it:Addr)(xs:List V)(hne:e≠it)(hat:a≠it)(hae:a≠e):
  Turn P w K (.Tuple es k pos) (Ite K true a xs) [e,it] e (fun i h=>(∃old,IsEnum h e it (i:Int) old)/\h.IsTupleIter it a i) where
 mem:=by simp
 obj:=fun i h st b hb=>by
  obtain⟨⟨old,he⟩,o,e1,c,d⟩:=st
  rcases cW.mp hb with z|hb
  ·subst z;exact⟨_,he,fun v z=>by cases z⟩
  ·have z:b=it:=by simpa using hb
   subst z
   exact⟨o,e1,fun v z=>by rw[d]at z;cases z⟩
 keep:=fun i h h' st k=>⟨st.1.imp fun old he=>k e (by simp) _ he,st.2.at fun o e=>k it (by simp) o e⟩
 item:=by
  intro X hP hw hK hc i pins s σ H E I hf st hg
  subst hP hw hK
  obtain⟨hq0,hi⟩:=hg
  have hq:SqT X.K H a xs:=hq0
  obtain⟨its,rv,p,hz⟩:=I.tuple hq
  have hx:xs[i]? =some xs[i]:=gH hi
  obtain⟨u,hu,ru⟩:=rv.get hx
  obtain⟨⟨old,he⟩,hit⟩:=st
  have hl:=rv.length
  have pt:s.heap.IsTuple a its.toArray:=p
  have D:=Draws.tup (prog:=X.prog) (w:=X.w) (A:=X.A.in1) (I.ok.hd hc) it a hat its.toArray
  refine wpAny_pyNext_enum_itemD D he ⟨hit,pt⟩ (by simp;omega) hne (by simp;exact⟨hne,fun z=>hae z.symm⟩) fun y h1 tk hy ho aax hT hsz hk=>⟨_,rfl,?_⟩
  have ey:y=u:=by
   have hu':its.toArray[i]? =some u:=by simpa using hu
   rw[hu']at hy
   exact(rH hy).symm
  subst ey
  refine wpAny_letOwnedTupleGo_enum ho fun h2 he2 hs2=> ?_
  have nU:Heap.SameBut e h1 h2:=hs2
  have Yv:s.heap.objs.size≠e:=fun z=>absurd (cZ he) (by rw[<-z];exact oK _)
  have keep:∀b o,b∉[e,it]->s.heap.get? b=some o->h2.get? b=some o:=fun b o hb q=>(nU.2 b fun z=>hb (by simp[z])).trans (hk b o (fun z=>hb (by simp[z])) (fun z=>hb (by simp[z])) q)
  have hT2:h2.get? s.heap.objs.size=some {cls:= .type "tuple",data:= .seq #[.int i tk,y]}:=(nU.2 _ Yv).trans hT
  have I2:=I.oV (h':=h2) (t':=tk+1) (o:= .tup [.int (i:Int),xs[i]]) keep hf (aJ _) ⟨(by show 2<=sizeLine;decide),[.int i tk,y],.cons ⟨_,rfl⟩ (.cons ru .nil),_,hT2,rfl,_,rfl⟩
  exact⟨.ref s.heap.objs.size,_,I2,rfl,⟨_,_,rfl,I.hok.fresh (aJ _),rfl,hx⟩,⟨⟨_,by simpa using he2⟩,aax.1.at fun o q=>(nU.2 it hne.symm).trans q⟩,fun b hb=>by
   rw[cG (fun z=> ?_)]
   ·exact(hf b hb).1
   ·obtain⟨_,q1,_⟩:=hit
    rcases cW.mp hb with y|y
    ·exact Yv (z.symm.trans y)
    ·have y:b=it:=by simpa using y
     rw[<-y,z]at q1
     exact absurd (cZ q1) (oK _)⟩
 done:=by
  intro X hP hw hK hc i pins s σ H E I hf st hg
  subst hP hw hK
  obtain⟨hq0,hi⟩:=hg
  have hq:SqT X.K H a xs:=hq0
  obtain⟨its,rv,p,hz⟩:=I.tuple hq
  have hl:=rv.length
  obtain⟨⟨old,he⟩,hit⟩:=st
  have pt:s.heap.IsTuple a its.toArray:=p
  have ei:i=its.toArray.size:=by rw[fL];omega
  subst ei
  have D:=Draws.tup (prog:=X.prog) (w:=X.w) (A:=X.A.in1) (I.ok.hd hc) it a hat its.toArray
  exact wpAny_pyNext_enum_endD D he ⟨hit,pt⟩ fun h' eb=>⟨rfl,I.turns (t':=s.toks) (fp:=[e,it]) (fun b o hb q=>eb b o (fun z=>hb (by simp[z])) q) hf⟩
 self:=fun _ _ _ _ _ st h=>by
  obtain⟨⟨old,he⟩,_⟩:=st
  exact wda he h
section
variable{X:Cx}{es:List Expr}{k:Nat}{Gs:Pos}
def YK(K:W.Frag)(ta:TA):TI:=fun σ H R=>ta σ H fun vs H1=>∃(b:Bool) (a:Addr) (xs:List V),vs=[.ref a]/\W8 K b H1 a xs/\(xs.length<=sizeLine->R (Ite K b a xs) H1)
theorem qW{a:Expr}{ta:TA}{p pos:Pos}(hg:Gl X "enumerate")(hm:X.mg "enumerate"=none)(ha:PA X [a] ta)(hs:starEach [a] X.env=[(false,eval a X.env)]:=by rfl):
  PI X (.Tuple es k Gs) (.Call (.Name "enumerate" p) [a] [] pos) (YK X.K ta):=by
 intro pins s σ H R I h
 refine Call_ (ld_blt I hg hm (show bootBuiltins "enumerate"=some (.type "enumerate")from by decide+kernel) (Jm (thn (ha pos pins s σ H _ I h) fun us s1 ⟨vs,H1,I1,r1,q1⟩=> ?_) hs rfl))
 obtain⟨b,l,xs,e,hq,q⟩:=q1
 subst e
 cases r1 with
 |cons r rr=>
  cases rr
  cases r
  cases b with
  |false=>
   obtain⟨its,rv,pl,hz⟩:=I1.list (show SqL X.K H1 l xs from hq)
   refine call_enumerate_list pl.isList fun h' he hit hsz hk=> ?_
   refine wda he ?_
   have I2:Inv X pins σ H1 {s1 with heap:=h'}:=I1.kept (t':=s1.toks) hk
   have hne:s1.heap.objs.size+1≠s1.heap.objs.size:=Nat.succ_ne_self _
   refine⟨s1.heap.objs.size+1,[s1.heap.objs.size+1,s1.heap.objs.size],_,_,H1,rfl,I2,Ax l _ _ xs hne,⟨⟨_,he⟩,hit⟩,fun c hc=> ?_,q hz⟩
   rcases cW.mp hc with z|z
   ·subst z;exact I1.fpOk (Af _) (I1.hok.fresh (Af _))
   ·have z:c=s1.heap.objs.size:=by simpa using z
    subst z;exact I1.fpOk (aJ _) (I1.hok.fresh (aJ _))
  |true=>
   obtain⟨its,rv,pl,hz⟩:=I1.tuple (show SqT X.K H1 l xs from hq)
   have pt:s1.heap.IsTuple l its.toArray:=pl
   have hlt:l<s1.heap.objs.size:=by obtain⟨_,e,_⟩:=id pt;exact cZ e
   refine uq pt fun h' he hit hsz hk=> ?_
   refine wda he ?_
   have I2:Inv X pins σ H1 {s1 with heap:=h'}:=I1.kept (t':=s1.toks) hk
   have hne:s1.heap.objs.size+1≠s1.heap.objs.size:=Nat.succ_ne_self _
   refine⟨s1.heap.objs.size+1,[s1.heap.objs.size+1,s1.heap.objs.size],_,_,H1,rfl,I2,Aw l _ _ xs hne (dM hlt) (dM (qz hlt)),⟨⟨_,he⟩,hit⟩,fun c hc=> ?_,q hz⟩
   rcases cW.mp hc with z|z
   ·subst z;exact I1.fpOk (Af _) (I1.hok.fresh (Af _))
   ·have z:c=s1.heap.objs.size:=by simpa using z
    subst z;exact I1.fpOk (aJ _) (I1.hok.fresh (aJ _))
end
theorem Mu{K:W.Frag}{b:Bool}{a:Addr}{xs:List V}{g:TG}{tb:TS}{D:Ends}{σ:St}{H:Hp}(Pv:Nat->St->Hp->Prop)(h0:Pv 0 σ H)(hl:∀i σ H,i<=xs.length->Pv i σ H->W8 K b H a xs)(hs:∀i v t σ H,xs[i]? =some v->Pv i σ H->H t=none->g (.ref t) σ (upd H t (.tup [.int (i:Int),v])) fun σ2 H2=>tb {D with nx:=Pv (i+1),ct:=Pv (i+1),bk:=D.nx} σ2 H2)(hd:∀σ H,Pv xs.length σ H->D.nx σ H):
  ∃W:Nat->Nat->St->Hp->Prop,(∃m,W 0 m σ H)/\∀i m σ H,W i m σ H->
   ((Ite K b a xs).stop i H/\D.nx σ H)\/((Ite K b a xs).go i H/\∃N:St->Hp->Prop,(∀σ' H',N σ' H'->∃m',m'<m/\W (i+1) m' σ' H')/\∀x H',(Ite K b a xs).yld i H x H'->g x σ H' fun σ2 H2=>tb {D with nx:=N,ct:=N,bk:=D.nx} σ2 H2):=by
 refine⟨fun i m σ H=>m=xs.length-i/\i<=xs.length/\Pv i σ H,⟨xs.length,by simp,dJ _,h0⟩,?_⟩
 rintro i m σ H ⟨rfl,hi,p⟩
 have q:=hl i σ H hi p
 by_cases e:i=xs.length
 ·subst e
  exact .inl ⟨⟨q,rfl⟩,hd σ H p⟩
 ·refine .inr ⟨⟨q,by omega⟩,Pv (i+1),fun σ' H' w=>⟨xs.length-(i+1),by omega,rfl,by omega,w⟩,fun x H' y=> ?_⟩
  obtain⟨t,v,rfl,ht,rfl,hv⟩:=y
  exact hs i v t σ H hv p ht
section
variable{ini:St}{H:Hp}{g:TG}{tc:TT}{te:TE}{Fin:List V->Hp->Prop}{K:W.Frag}{b:Bool}{a:Addr}{xs:List V}
theorem pG(Pv:Nat->List V->St->Hp->Prop)(h0:Pv 0 [] ini H)(hl:∀(i:Nat) acc σ H,i<=xs.length->Pv i acc σ H->W8 K b H a xs)(hz:∀(i:Nat) acc σ H,i<=xs.length->Pv i acc σ H->acc.length<=i)(hx:xs.length<=sizeLine)(hs:∀(i:Nat) v t acc σ H,xs[i]? =some v->Pv i acc σ H->H t=none->g (.ref t) σ (upd H t (.tup [.int (i:Int),v])) fun σ2 H2=>tc σ2 H2 fun b H3=>if b=true then te σ2 H3 fun v H4=>Pv (i+1) (acc++[v]) σ2 H4 else Pv (i+1) acc σ2 H3)(hd:∀acc σ H,Pv xs.length acc σ H->Fin acc H):vo (Ite K b a xs) ini H g tc te Fin:=by
 refine⟨fun i m acc σ H=>m=xs.length-i/\i<=xs.length/\Pv i acc σ H,⟨xs.length,by simp,dJ _,h0⟩,?_⟩
 rintro i m acc σ H ⟨rfl,hi,p⟩
 have q:=hl i acc σ H hi p
 have z:=hz i acc σ H hi p
 by_cases hlt:i<xs.length
 ·refine .inr ⟨⟨q,hlt⟩,by omega,fun acc σ H=>Pv (i+1) acc σ H,fun acc' σ' H' r=>⟨_,by omega,rfl,hlt,r⟩,fun x H' y=> ?_⟩
  obtain⟨t,v,rfl,ht,rfl,hv⟩:=y
  exact hs i v t acc σ H hv p ht
 ·have e:i=xs.length:=by omega
  subst e
  exact .inl ⟨⟨q,rfl⟩,by omega,hd acc σ H p⟩
end
section
variable{X:Cx}{e m a:Expr}{te:TE}{tm:TO}{ta:TA}{p p' pos pos' p2:Pos}
theorem yM(K:W.Frag)(h:X.K=K:=by rfl):OpR X (binaryOp .Add) (R3 K):=by subst h;exact Qa
end
section
variable{ini:St}{H:Hp}{g:TG}{tc:TT}{te:TE}{Fin:List V->Hp->Prop}{K:W.Frag}{b:Bool}{a:Addr}{xs:List V}
end
theorem gR{s u:TS}{D:Ends}{σ:St}{H:Hp}(I:St->Hp->Prop)(h1:∀N:St->Hp->Prop,(∀σ' H',I σ' H'->N σ' H')->s {D with nx:=N} σ H)(h2:∀σ' H',I σ' H'->u D σ' H'):tSeq s u D σ H:=h1 (u D) h2
section
variable{K:W.Frag}{σ:St}{H0:Hp}{tp:Addr}
end
theorem Cq:∀(names:List (Str×NameKind)) (n:Nat) (acc:List (Str×Addr)) {x:Str} {c:Addr},(x,c)∈cellsFrom n names acc->(x,c)∈acc\/((x,NameKind.cell)∈names/\n<=c)
 |[],_,_,_,_,h=> .inl h
 |(nm,k)::r,n,acc,x,c,h=>by
  unfold cellsFrom at h
  split at h
  ·rename_i hk
   have ek:k=NameKind.cell:=by simpa using hk
   rcases Cq r _ _ h with q|⟨q,m⟩
   ·rcases cW.mp q with e|e
    ·cases e
     subst ek
     exact .inr ⟨cX,aJ _⟩
    ·exact .inl e
   ·exact .inr ⟨eE _ q,by omega⟩
  ·rcases Cq r _ _ h with q|⟨q,m⟩
   ·exact .inl q
   ·exact .inr ⟨eE _ q,m⟩
theorem wY:∀(names:List (Str×NameKind)) (n:Nat) (acc:List (Str×Addr)) {p:Str×Addr},p∈acc->p∈cellsFrom n names acc
 |[],_,_,_,h=>h
 |(nm,k)::r,n,acc,p,h=>by
  unfold cellsFrom
  split
  ·exact wY r _ _ (eE _ h)
  ·exact wY r _ _ h
theorem Cu:∀(names:List (Str×NameKind)) (n:Nat) (acc:List (Str×Addr)) {x:Str},(x,NameKind.cell)∈names->∃c,(x,c)∈cellsFrom n names acc
 |(nm,k)::r,n,acc,x,h=>by
  unfold cellsFrom
  rcases cW.mp h with e|e
  ·cases e
   rw[ao (show(NameKind.cell==NameKind.cell)=true from rfl)]
   exact⟨n,wY r _ _ cX⟩
  ·split
   ·exact Cu r _ _ e
   ·exact Cu r _ _ e
theorem Cr{n0:Nat}:∀(names:List (Str×NameKind)) (n:Nat) (acc:List (Str×Addr)),n0<=n->(∀x y c,(x,c)∈acc->(y,c)∈acc->n0<=c->x=y)->(∀x c,(x,c)∈acc->c<n)->∀x y c,(x,c)∈cellsFrom n names acc->(y,c)∈cellsFrom n names acc->n0<=c->x=y
 |[],_,_,_,h,_=>h
 |(nm,k)::r,n,acc,hn,h,hl=>by
  unfold cellsFrom
  split
  ·refine Cr r (n+1) ((nm,n)::acc) (by omega) (fun x y c hx hy hc=> ?_) (fun x c hx=> ?_)
   ·rcases cW.mp hx with e1|e1<;>rcases cW.mp hy with e2|e2
    ·cases e1;cases e2;rfl
    ·cases e1;exact absurd (hl _ _ e2) (oK _)
    ·cases e2;exact absurd (hl _ _ e1) (oK _)
    ·exact h x y c e1 e2 hc
   ·rcases cW.mp hx with e1|e1
    ·cases e1;exact oR _
    ·exact qz (hl _ _ e1)
  ·exact Cr r n acc hn h hl
theorem wX:∀(names:List (Str×NameKind)) (h:Heap) (acc:List (Str×Addr)) {x:Str} {c:Addr},(x,c)∈cellsFrom h.objs.size names acc->(x,c)∈acc\/(pushCells h names).IsCell c none
 |[],_,_,_,_,h=> .inl h
 |(nm,k)::r,h,acc,x,c,hm=>by
  unfold cellsFrom at hm
  unfold pushCells
  split at hm
  ·rename_i hk
   rw[ao hk]
   have hm':(x,c)∈cellsFrom (h.push {cls:= .type "cell",data:= .cell none}).objs.size r ((nm,h.objs.size)::acc):=by rw[Aj];exact hm
   rcases wX r (h.push {cls:= .type "cell",data:= .cell none}) _ hm' with q|q
   ·rcases cW.mp q with e|e
    ·cases e
     exact .inr ⟨_,wdx _ _ _ _ (jx _ rfl),rfl⟩
    ·exact .inl e
   ·exact .inr q
  ·rename_i hk
   rw[ak hk]
   exact wX r h acc hm
theorem Qo{M:Model}{A:Around}{E:Value->Shared->Prop}{s:Shared}{scope:Scope}{globals:Addr}{closure:List (Str×Addr)}{qual:Str}{env:Env}{Q:Env->Shared->Prop}(hQ:Q (newEnv scope s.heap.objs.size globals (cellsFrom (s.heap.objs.size+1) scope.names closure) qual none Value.none (some env) 0) {s with heap:=pushCells (s.heap.push {cls:= .type "dict",data:= .dict #[]}) scope.names}):
  wpAny M A (newFunctionEnv scope globals closure [] qual none .none (some env)) Q E s:=by
 simp only[newFunctionEnv,Option.isSome_some,NT]
 refine aA (wpAny_alloc ?_)
 refine aA (wpAny_layCells _ (fun name kind cells=>by cases hkc:kind==NameKind.cell<;>simp[hkc]) _ _ _ _ ?_)
 rw[wgp]
 refine aA (bC (bC ?_))
 rw[show({s with heap:=s.heap.push {cls:= .type "dict",data:= .dict #[]}}:Shared).heap.objs.size=s.heap.objs.size+1 from Aj ..]
 exact hQ
def bf(sc scope:Scope):Bool:=scope.names.all fun p=>(p.2 !=NameKind.cell||scope.names.lookup p.1==some NameKind.cell)&&(p.2 !=NameKind.local||scope.names.lookup p.1==some NameKind.local)&&
 (p.2 !=NameKind.free||(scope.names.lookup p.1==some NameKind.free&&(sc.names.lookup p.1==some NameKind.cell||sc.names.lookup p.1==some NameKind.free)))
section
variable{sc scope:Scope}
theorem bf.cell(h:bf sc scope=true){x:Str}(hy:(x,NameKind.cell)∈scope.names):scope.names.lookup x=some .cell:=by
 have q:=oM.mp h _ hy
 simpa using q
theorem bf.names(h:bf sc scope=true):∀y∈scope.names,y.2= .local->scope.names.lookup y.1=some .local:=fun y hy e=>by
 have q:=oM.mp h y hy
 simpa[e]using q
theorem bf.free(h:bf sc scope=true){x:Str}(hy:(x,NameKind.free)∈scope.names):scope.names.lookup x=some .free/\(sc.names.lookup x=some .cell\/sc.names.lookup x=some .free):=by
 have q:=oM.mp h _ hy
 simpa using q
end
theorem yI{scope:Scope}{env:Env}{x:Str}(h:(relabel scope env).names.lookup x=some .cell\/(relabel scope env).names.lookup x=some .free):(x,NameKind.free)∈scope.names\/(x,NameKind.cell)∈scope.names:=by
 cases e:scope.names.lookup x with
 |none=>
  have q:=mj (env:=env) e
  rcases h with h|h
  ·rw[show(relabel scope env).names.lookup x=none from q]at h;cases h
  ·rw[show(relabel scope env).names.lookup x=none from q]at h;cases h
 |some k=>
  have q:=jq (env:=env) e
  have m:=uH e
  by_cases hk:k= .free
  ·subst hk;exact .inl m
  ·have q':(relabel scope env).names.lookup x=some k:=by
    refine Eq.trans q ?_
    have:(k==NameKind.free)=false:=by simpa using hk
    simp[this]
   rw[q']at h
   rcases h with h|h
   ·cases h;exact .inr m
   ·cases h;exact absurd rfl hk
def gw(X:Cx)(scope:Scope)(N:List Str)(s:Shared)(H:Hp)(cl:List (Str×Addr))(C:Addr)(ex:List Addr):Cx:=
 {X with N:=N,s₀:=s,H₀:=H,env:=compEnvC scope cl C X.env,outer:=X.stack,ex:=ex,fn:=fun x=>scope.names.lookup x==some NameKind.cell,pn:=[],xe:=fun _ _=>False}
section
variable{X:Cx}{tg iter elt:Expr}{ifs:List Expr}{scope:Scope}{pos:Pos}{own caps:List Str}{ix:List Nat}{g:TG}{tc:TT}{te:TE}
abbrev Io(X:Cx)(scope:Scope)(C:Addr):List (Str×Addr):=cellsFrom (C+1) scope.names (cT X.env.cells scope.names [])
theorem wW{pins:List (Addr×Obj)}{s:Shared}{σ:St}{H:Hp}{C:Addr}(ck:bf X.env.scope scope=true)(I:Inv X pins σ H s){x:Str}{c:Addr}(e:(Io X scope C).lookup x=some c):
  (X.env.cells.lookup x=some c/\(x,NameKind.free)∈scope.names)\/((x,NameKind.cell)∈scope.names/\C<c/\(x,c)∉cT X.env.cells scope.names []):=by
 have old:(x,c)∈cT X.env.cells scope.names []->X.env.cells.lookup x=some c/\(x,NameKind.free)∈scope.names:=fun q=>by
  rcases fK q with q|⟨q,mm⟩
  ·cases q
  ·obtain⟨d,hd⟩:=I.ok.has x (bf.free ck mm).2
   rw[hd]at q
   have q:c=d:=q
   rw[q]
   exact⟨hd,mm⟩
 rcases Cq _ _ _ (uH e)with q|⟨q,m⟩
 ·exact .inl (old q)
 ·refine .inr ⟨q,m,fun z=> ?_⟩
  have h1:=bf.cell ck q
  have h2:=(bf.free ck (old z).2).1
  rw[h1]at h2;cases h2
theorem zP{pins:List (Addr×Obj)}{s s':Shared}{σ:St}{H:Hp}{fp:List Addr}{C:Addr}{m:Str->Option Value}(ck:bf X.env.scope scope=true)(hkind:scope.kind= .function)(hcap:jw X scope caps ix)
  (I:Inv X pins σ H s)(f2:∀b∈fp,FpOk X pins H b)(hlt:∀b∈fp,b<s.heap.objs.size)(hC:s.heap.objs.size<=C)(hos:s'.os=s.os)(hg:AllBare s'.gens)(hk:∀b o,s.heap.get? b=some o->s'.heap.get? b=some o)(hn:s'.heap.Ns C m)(hcl:∀x c,(Io X scope C).lookup x=some c->(x,c)∉cT X.env.cells scope.names []->s'.heap.IsCell c none):
  Inv (gw X scope (own++caps) s H (Io X scope C) C fp) [] (nR own ix σ) H s':=by
 have cl1:=fun x c e=>wW (C:=C) (x:=x) (c:=c) ck I e
 have En:∀x c,X.env.cells.lookup x=some c->c<s.heap.objs.size:=fun x c e=>by
  obtain⟨v,o,ho,_⟩:=I.cell x c e
  exact cZ ho
 have cl2:∀x,(x,NameKind.free)∈scope.names\/(x,NameKind.cell)∈scope.names->∃c,(Io X scope C).lookup x=some c:=fun x mm=>by
  rcases mm with mm|mm
  ·obtain⟨c,hc⟩:=n6 (cells:=X.env.cells) (acc:=[]) mm
   obtain⟨d,hd,_⟩:=Wj (wY scope.names (C+1) _ hc)
   exact⟨d,hd⟩
  ·obtain⟨c,hc⟩:=Cu scope.names (C+1) (cT X.env.cells scope.names []) mm
   obtain⟨d,hd,_⟩:=Wj hc
   exact⟨d,hd⟩
 have inj:∀x y c,(Io X scope C).lookup x=some c->(Io X scope C).lookup y=some c->x=y:=fun x y c h1 h2=>by
  rcases cl1 x c h1 with⟨q1,_⟩|⟨q1,m1,_⟩<;>rcases cl1 y c h2 with⟨q2,_⟩|⟨q2,m2,_⟩
  ·exact I.ok.inj x y c q1 q2
  ·exact absurd (Od (iJ (En x c q1) hC) m2) (oK _)
  ·exact absurd (Od (iJ (En y c q2) hC) m1) (oK _)
  ·refine Cr (n0:=C+1) scope.names (C+1) _ (aJ _) (fun x y c hx hy hc=> ?_) (fun x c hx=> ?_) x y c (uH h1) (uH h2) m1
   ·obtain⟨d,hd,_⟩:=Wj hx
    rcases fK hx with q|⟨q,mm⟩
    ·cases q
    ·obtain⟨d,hd⟩:=I.ok.has x (bf.free ck mm).2
     rw[hd]at q
     have q:c=d:=q
     subst q
     exact absurd (iJ (iJ (En x c hd) hC) (dH hc)) (oK _)
   ·rcases fK hx with q|⟨q,mm⟩
    ·cases q
    ·obtain⟨d,hd⟩:=I.ok.has x (bf.free ck mm).2
     rw[hd]at q
     have q:c=d:=q
     subst q
     exact qz (iJ (En x c hd) hC)
 have bsz:X.base.objs.size<=s.heap.objs.size:=bZ I.ok.bsz I.sz
 refine⟨⟨I.ok.mod,hkind,I.ok.glob,I.ok.blt,hC,inj,fun x hx=>cl2 x (yI hx),fun x c h e=> ?cab,I.ok.hd,I.ok.frames,.inl rfl,fun b hb=>⟨dM (iJ (hlt b hb) hC),fun x c e=> ?exf⟩,I.bs,bsz,
  fun b o e hb=> ?_,fun b hb hz=> ?_,I.stack,I.stkFree⟩,?_,hg,Un.kept hk,⟨m,hn,fun i x v h1 h2 h3=> ?_⟩,fun x c e=> ?_,I.hok.fresh hC,fun x c e=> ?frc,fun p hp=>absurd (show p∈([]:List (Addr×Obj))from hp) (by simp),I.hok.kept hk,?_⟩
 case cab=>
  rcases cl1 x c e with⟨_,q⟩|⟨_,q,_⟩
  ·have y1:=(bf.free ck q).1
   have y2:(scope.names.lookup x==some NameKind.cell)=true:=h
   rw[y1]at y2
   exact absurd y2 (by decide)
  ·exact bZ hC (dH q)
 case exf=>
  rcases cl1 x c e with⟨q,_⟩|⟨_,q,_⟩
  ·exact(f2 b hb).2.2.2.2.1 x c q
  ·exact lO (dM (Od (iJ (hlt b hb) hC) q))
 case frc=>
  rcases cl1 x c e with⟨q,_⟩|⟨_,q,_⟩
  ·exact I.freeC x c q
  ·exact I.hok.fresh (bZ hC (dH q))
 ·rcases(f2 b hb).2.2.2.1 with z|z
  ·exact I.ok.noex b o e z
  ·exact absurd (iJ (cZ e) (bZ I.ok.bsz z)) (oK _)
 ·rcases cW.mp (I.stkSub b hz)with z|z
  ·exact(f2 b hb).2.1 z
  ·exact(f2 b hb).2.2.1 z
 ·exact hos
 ·have h1:(own++caps)[i]? =some x:=h1
  have h2:(own.map (fun _=>(none:Option V))++ix.map fun j=>(σ[j]?).join)[i]? =some (some v):=h2
  by_cases hi:i<own.length
  ·rw[Xp (by simpa using hi),cg]at h2
   cases e:own[i]? <;>rw[e]at h2<;>simp at h2
  ·rw[Tq (by simpa using hi)]at h2
   rw[Tq (by omega)]at h1
   rw[aF]at h2
   obtain⟨j,e1,e2,e3⟩:=hcap.get h1
   rw[cg,e1]at h2
   have h2':(σ[j]?).join=some v:=by simpa using h2
   have h4:σ[j]? =some (some v):=by
    cases q:σ[j]? with
    |none=>rw[q]at h2';cases h2'
    |some w=>rw[q]at h2';exact jy some h2'
   obtain⟨m0,hn0,hl0⟩:=I.loc
   have mm:=uH e3
   have vis:=(bf.free ck mm).2
   obtain⟨u,r,l⟩:=hl0 j x v e2 h4 (.inr vis)
   refine⟨u,r,.inr ?_⟩
   rcases l with⟨k,_⟩|⟨k,c,e,z⟩
   ·rcases vis with q|q
    ·rw[show X.env.kindOf x=some .cell from q]at k;cases k
    ·rw[show X.env.kindOf x=some .free from q]at k;cases k
   ·obtain⟨d,hd⟩:=cl2 x (.inl mm)
    rcases cl1 x d hd with⟨this,_⟩|⟨qc,_⟩
    ·rw[e]at this
     cases this
     exact⟨sG e3,c,hd,z.keeps hk⟩
    ·have y1:=bf.cell ck qc
     rw[e3]at y1;cases y1
 ·rcases cl1 x c e with⟨q,_⟩|⟨_,_,q⟩
  ·obtain⟨v,z⟩:=I.cell x c q
   exact⟨v,z.keeps hk⟩
  ·exact⟨none,hcl x c e q⟩
 ·show(own.map (fun _=>(none:Option V))++ix.map fun j=>(σ[j]?).join).length=(own++caps).length
  simp[hcap.len]
theorem Cm(ck:bf X.env.scope scope=true)(hkind:scope.kind= .function)(hcap:jw X scope caps ix)(hc:X.calm=true)(hg:∀s H cl C ex,PG (gw X scope (own++caps) s H cl C ex) tg g)(ht:∀s H cl C ex,Rf (gw X scope (own++caps) s H cl C ex) ifs tc)(he:∀s H cl C ex,PE (gw X scope (own++caps) s H cl C ex) elt te){pins:List (Addr×Obj)}{s2:Shared}{σ:St}{H2:Hp}{E:Value->Shared->Prop}(I2:Inv X pins σ H2 s2){it:Addr}{fp:List Addr}{tn:Nat->Heap->Prop}{J:It}(T:Turn X.prog X.w X.K tg J fp it tn)(st2:tn 0 s2.heap)(f2:∀b∈fp,FpOk X pins H2 b)
  {W:Nat->Nat->List V->St->Hp->Prop}{m0:Nat}(w0:W 0 m0 [] (nR own ix σ) H2){Fin:List V->Hp->Prop}(turn:∀i m acc σ H,W i m acc σ H->(J.stop i H/\acc.length<=sizeLine/\Fin acc H)\/(J.go i H/\acc.length<sizeLine/\∃N:List V->St->Hp->Prop,(∀acc' σ' H',N acc' σ' H'->∃m',m'<m/\W (i+1) m' acc' σ' H')/\∀x H',J.yld i H x H'->g x σ H' fun σ2 H2=>tc σ2 H2 fun b H3=>
   if b=true then te σ2 H3 fun v H4=>N (acc++[v]) σ2 H4 else N acc σ2 H3))
  {RR:Value->Addr->Result->Shared->Prop}(hRR:∀D C s' acc Hf m,Inv X pins σ (upd Hf D (.lst acc)) s'->Hf D=none->s'.heap.Ns C m->FpOk X pins (upd Hf D (.lst acc)) C->Fin acc Hf->RR (.ref D) C (.ok .next) s'):
  wpAny (model X.prog X.w) X.A (newList []) (fun acc s₃=>wpAny (model X.prog X.w) X.A (newFunctionEnv scope X.env.globals (cT X.env.cells scope.names []) [] X.env.qual none .none (some X.env)) (fun cenv s₄=>
   codeAny (model X.prog X.w) X.A (.compStart (.ListComp elt [⟨tg,iter,ifs,0⟩] scope pos) 0 (.ref it) acc {cenv with scope:=relabel scope X.env}) (RR acc cenv.locals) s₄) E s₃) E s2:=by
 refine Jh (Qo ?_)
 generalize hP:s2.heap.push {cls:= .type "list",dict:=none,data:= .seq ([]:List Value).toArray}=P1
 have hC:P1.objs.size=s2.heap.objs.size+1:=by rw[<-hP,Aj]
 have hlt:∀b∈fp,b<s2.heap.objs.size:=fun b hb=>by
  obtain⟨o,e,_⟩:=T.obj _ _ st2 b hb
  exact cZ e
 generalize hh1:pushCells (P1.push {cls:= .type "dict",data:= .dict #[]}) scope.names=h₁
 have hns₁:h₁.Ns P1.objs.size (fun _=>none):=by rw[<-hh1];exact(Heap.Ns.new P1 (.type "dict")).keeps (wdx _ _)
 have old:∀b o,s2.heap.get? b=some o->h₁.get? b=some o:=fun b o e=>by
  rw[<-hh1];exact wdx _ _ b o (cO _ (hP▸cO _ e))
 have hD1:h₁.get? s2.heap.objs.size=some {cls:= .type "list",data:= .seq ([]:List Value).toArray 0}:=by
  rw[<-hh1];exact wdx _ _ _ _ (cO _ (hP▸jx _ rfl))
 have Y4:∀x c,(Io X scope P1.objs.size).lookup x=some c->(x,c)∉cT X.env.cells scope.names []->h₁.IsCell c none:=fun x c e n=>by
  have e':(x,c)∈cellsFrom (P1.objs.size+1) scope.names (cT X.env.cells scope.names []):=uH e
  rw[show P1.objs.size+1=(P1.push {cls:= .type "dict",data:= .dict #[]}).objs.size from(Aj ..).symm]at e'
  rcases wX _ _ _ e' with q|q
  ·exact absurd q n
  ·rw[<-hh1];exact q
 show codeAny (model X.prog X.w) X.A (.compStart (.ListComp elt [⟨tg,iter,ifs,0⟩] scope pos) 0 (.ref it) (.ref s2.heap.objs.size) {newEnv scope P1.objs.size X.env.globals (Io X scope P1.objs.size) X.env.qual none Value.none (some X.env) 0 with scope:=relabel scope X.env}) (RR (.ref s2.heap.objs.size) P1.objs.size) {s2 with heap:=h₁}
 generalize wI:s2.heap.objs.size=D at *
 rw[hC]at hns₁ Y4⊢
 have entry:Inv (gw X scope (own++caps) s2 H2 (Io X scope (D+1)) (D+1) fp) [] (nR own ix σ) H2 {s2 with heap:=h₁}:=
  zP ck hkind hcap I2 f2 (by rw[wI];exact hlt) (by rw[wI];exact Af _) rfl I2.bare old hns₁ Y4
 generalize hX':gw X scope (own++caps) s2 H2 (Io X scope (D+1)) (D+1) fp=X' at entry
 have eP:X'.prog=X.prog:=by rw[<-hX'];rfl
 have ew:X'.w=X.w:=by rw[<-hX'];rfl
 have eK:X'.K=X.K:=by rw[<-hX'];rfl
 have eA:X'.A=X.A:=by rw[<-hX'];rfl
 have zN:X'.calm=true:=by rw[<-hX'];exact hc
 have V6:X'.fs=frs X.stack:=by rw[<-hX'];rfl
 have ZD:X'.ex=fp:=by rw[<-hX'];rfl
 have ZC:X'.pn=[]:=by rw[<-hX'];rfl
 have V5:X'.s₀=s2:=by rw[<-hX'];rfl
 have eH0:X'.H₀=H2:=by rw[<-hX'];rfl
 have exe:X'.xe=fun _ _=>False:=by rw[<-hX'];rfl
 have wR:X'.env=compEnvC scope (Io X scope (D+1)) (D+1) X.env:=by rw[<-hX'];rfl
 have tM:X'.env.locals=D+1:=by rw[wR];rfl
 have hg':PG X' tg g:=by rw[<-hX'];exact hg _ _ _ _ _
 have ht':Rf X' ifs tc:=by rw[<-hX'];exact ht _ _ _ _ _
 have he':PE X' elt te:=by rw[<-hX'];exact he _ _ _ _ _
 have ecl:∀x c,X'.env.cells.lookup x=some c->c≠D:=fun x c e=>by
  rw[wR]at e
  rcases wW (C:=D+1) ck I2 e with⟨q,_⟩|⟨_,q,_⟩
  ·obtain⟨v',o',ho',_⟩:=I2.cell x c q
   exact dM (by rw[<-wI];exact cZ ho')
  ·exact lO (dM (Od (oR D) q))
 have dfs:D∉frs X.stack:=fun hb=>by
  rcases cW.mp (I2.stkSub D hb)with z|z
  ·exact absurd (Nat.lt_of_lt_of_eq I2.lt wI) (by rw[z];exact oK _)
  ·exact I2.nofs (Ah wI) z
 have V3:∀{H':Hp} {o:Obj},(∀b∈fp,H' b=none)->∀b∈fp,FpOk X' [(D,o)] H' b:=fun{H' o} hn b hb=>by
  have WT:=hlt b hb
  refine⟨hn b hb,by rw[tM];exact dM (qz WT),?_,.inl (by rw[ZD];exact hb),fun x c e=> ?_,fun p hp=> ?_⟩
  ·rw[V6]
   intro z
   rcases cW.mp (I2.stkSub b z)with z|z
   ·exact(f2 b hb).2.1 z
   ·exact(f2 b hb).2.2.1 z
  ·rw[wR]at e
   rcases wW (C:=D+1) ck I2 e with⟨q,_⟩|⟨_,q,_⟩
   ·exact(f2 b hb).2.2.2.2.1 x c q
   ·exact lO (dM (Od (qz WT) q))
  ·rw[ZC]at hp
   have:p=(D,o):=by simpa using hp
   rw[this]
   exact xX WT
 have Uv:∀{σ':St} {H':Hp} {s':Shared} {o:Obj},Inv X' [] σ' H' s'->s'.heap.get? D=some o->H' D=none->(∀v,o.data≠.cell v)->Inv X' [(D,o)] σ' H' s':=fun{σ' H' s' o} I e n d=>
  I.pins_of fun p hp=>by
   have:p=(D,o):=by simpa using hp
   subst this
   exact⟨e,n,by rw[tM];exact dM (oR D),by rw[V6];exact dfs,d⟩
 have loop:∀s₃:Shared,s₃={s2 with heap:=h₁}->
   codeAny (model X.prog X.w) X.A (.compLoop (.ListComp elt [⟨tg,iter,ifs,0⟩] scope pos) 0 (.ref it) (.ref D) X'.env) (RR (.ref D) (D+1)) s₃:=by
  intro s₃ hs₃
  refine codeAny_loop rfl (fun n s'=>∃i acc its k σ' H',Inv X' [] σ' H' s'/\tn i s'.heap/\(∀b∈fp,H' b=none)/\s'.heap.get? D=some {cls:= .type "list",data:= .seq (List.toArray its) k}/\Vals acc its/\H' D=none/\W i n acc σ' H') ?_ m0
   ⟨0,[],[],0,nR own ix σ,H2,by rw[hs₃];exact entry,by rw[hs₃];exact T.keep _ _ _ st2 fun b _ o e=>old b o e,fun b hb=>(f2 b hb).1,by rw[hs₃];exact hD1,.nil,I2.hok.fresh (Ah wI),w0⟩
  rintro n s3 ⟨i,acc,its,k,σ3,H3,I3,st3,fr3,eD,rv,nD,w3⟩
  show wpAny _ X.A ((compTurn (.ListComp elt [⟨tg,iter,ifs,0⟩] scope pos) 0 (.ref it) (.ref D) X'.env).onRaise (fun x=>do noteFrame x X'.env;theTreesLotGoes x)) _ _ s3
  refine wpAny_noted ?_
  rw[compTurn_list]
  have Vj:∀{α:Type} {t:Sem α} {Q:α->Shared->Prop} {E':Value->Shared->Prop} {s:Shared},wpAny (model X'.prog X'.w) X'.A t Q X'.xe s->wpAny (model X.prog X.w) X.A t Q E' s:=fun{α t Q E' s} h=>by
   rw[eP,ew,eA,exe]at h
   exact Aq h (fun _ _ q=>q) fun _ _ z=>z.elim
  have Z0:=Uv (o:={cls:= .type "list",data:= .seq (List.toArray its) k}) I3 eD nD (fun v z=>by
   have z':Data.seq (List.toArray its) k=Data.cell v:=z
   cases z')
  refine aA (wfc (aA ?_))
  rcases turn i n acc σ3 H3 w3 with⟨stop,hz,fin⟩|⟨go,hz,Nn,hN,step⟩
  ·have q:=T.done X' eP ew eK zN i [(D,_)] s3 σ3 H3 (notedBy (model X.prog X.w) X.A X'.env fun e s'=>RR (.ref D) (D+1) (.error e) s') Z0 (V3 fr3) st3 stop
   rw[eA]at q
   refine thn q fun r s4 ⟨hr,I4⟩=> ?_
   subst hr
   refine bC ?_
   obtain⟨e4,_⟩:=I4.pin (D,_) (jc _ cX)
   obtain⟨mC,hnC,_⟩:=I4.loc
   have u4:=I4.base
   rw[V6,ZD,eH0,V5]at u4
   have Yn:=I4.hok
   rw[eP,ew]at Yn
   have nC:H3 (D+1)=none:=by have:=I4.free;rw[tM]at this;exact this
   have hok:HOk X.prog X.w (upd H3 D (.lst acc)) s4.heap:=Yn.add nD ⟨hz,its,k,rv,e4⟩
   refine hRR D (D+1) s4 acc H3 mC ?_ nD (by rw[tM]at hnC;exact hnC) ?_ fin
   ·refine I2.call' (s':=s4) (ch:=fp) ?_ (u4.add (by rw[wI];exact aJ _) nD) hok I4.bare fun b hb=> ?_
    ·have:=I4.os;rw[V5]at this;exact this
    ·obtain⟨f0,f1,f3,f4,f5,f6⟩:=f2 b hb
     exact⟨f4,f1,f5,f6⟩
   ·refine I2.fpOk (by rw[wI];exact Af _) ?_
    rw[cG (xX (oR D))]
    exact nC
  ·have q:=T.item X' eP ew eK zN i [(D,_)] s3 σ3 H3 (notedBy (model X.prog X.w) X.A X'.env fun e s'=>RR (.ref D) (D+1) (.error e) s') Z0 (V3 fr3) st3 go
   rw[eA]at q
   refine thn q fun r s4 ⟨u,hr,h4⟩=> ?_
   subst hr
   dsimp only
   refine aA (thn h4 fun _ s5 ⟨x,H5,I5,r5,y5,st5,fr5⟩=> ?_)
   have I5':=I5.pinned (V3 fr5) (T.obj _ _ st5)
   have again:∀{σ7:St} {H7:Hp} {s7:Shared},Inv X' ([(D,{cls:= .type "list",data:= .seq (List.toArray its) k})]++pinsAt fp s5.heap) σ7 H7 s7->tn (i+1) s7.heap/\(∀b∈fp,H7 b=none)/\s7.heap.get? D=some {cls:= .type "list",data:= .seq (List.toArray its) k}/\H7 D=none:=fun{σ7 H7 s7} I7=>by
    refine⟨T.keep _ _ _ st5 fun b hb o e=>(I7.pin (b,o) (jc _ (jc _ (mem_pinsAt hb e)))).1,fun b hb=> ?_,?_⟩
    ·obtain⟨o,e,d⟩:=T.obj _ _ st5 b hb
     exact(I7.pin (b,o) (jc _ (jc _ (mem_pinsAt hb e)))).2.1
    ·have:=I7.pin (D,_) (jc _ (Jc _ cX))
     exact⟨this.1,this.2.1⟩
   refine aA (thn (Vj (hg' _ s5 σ3 H5 x u _ I5' r5 (step x H5 y5))) fun _ s6 ⟨σ6,H6,I6,q6⟩=> ?_)
   refine aA (thn (Vj (ht' _ s6 σ6 H6 _ I6 q6)) fun ok s7 ⟨H7,I7,q7⟩=> ?_)
   cases ok with
   |false=>
    rw[ak qN]at q7
    obtain⟨m',hm,w7⟩:=hN _ _ _ q7
    obtain⟨a1,a2,a3,a4⟩:=again I7
    exact bC ⟨rfl,m',hm,i+1,acc,its,k,σ6,H7,I7.pins_of (fun p hp=>nomatch hp),a1,a2,a3,rv,a4,w7⟩
   |true=>
    rw[ao rfl]at q7
    refine aA (aA (thn (Vj (he' _ s7 σ6 H7 _ I7 q7)) fun v s8 ⟨y,H8,I8,r8,q8⟩=> ?_))
    obtain⟨m',hm,w8⟩:=hN _ _ _ q8
    obtain⟨a1,a2,a3,a4⟩:=again I8
    have hl:=rv.length
    refine aA (NZ wej ⟨_,a3,rfl⟩ wdu (wdj _ _) (weq D its.toArray k v (by rw[fL];omega)) ⟨a3,?_⟩)
    refine bC (bC ⟨rfl,m',hm,i+1,acc++[y],its++[v],?_⟩)
    have qD:=wfn a3 (fun a:Array Value=>a.push v)
    rw[List.push_toArray]at qD
    have kp:∀b o,b≠D->s8.heap.get? b=some o->(s8.heap.update D (Obj.mapSeq fun a=>a.push v)).get? b=some o:=fun b o hb e=>(yed s8.heap _ (lO hb)).trans e
    have I8':Inv X' [] σ6 H8 {s8 with heap:=s8.heap.update D (Obj.mapSeq fun a=>a.push v)}:=by
     refine(I8.pins_of (pins':=[]) (fun p hp=>nomatch hp)).turned (t':=s8.toks) (it:=D) kp a4 (by rw[tM];exact dM (oR D)) (.inr (by rw[V5,wI];exact aJ _)) (fun x c e=>ecl x c e) (fun p hp=> ?_)
     rw[ZC]at hp
     exact nomatch hp
    exact⟨_,σ6,H8,I8',T.keep _ _ _ a1 fun b hb o e=>kp b o (dM (hlt b hb)) e,a2,qD,rv.append (.cons r8 .nil),a4,w8⟩
 have MF:({newEnv scope (D+1) X.env.globals (Io X scope (D+1)) X.env.qual none Value.none (some X.env) 0 with scope:=relabel scope X.env}:Env)=X'.env:=by rw[wR];rfl
 have L:=loop _ rfl
 rw[<-MF]at L
 exact codeAny_compStart_list L (T.self X.A 0 _ _ _ (T.keep _ _ _ st2 fun b _ o e=>old b o e) L)
end
section
variable{X:Cx}{tg iter elt:Expr}{ifs:List Expr}{scope:Scope}{pos:Pos}{own caps:List Str}{ix:List Nat}{wi:TI}{g:TG}{tc:TT}{te:TE}
theorem KJ(hc:X.calm=true)(hi:PI X tg iter wi)(ck:bf X.env.scope scope=true)(hkind:scope.kind= .function)(hcap:jw X scope caps ix)(hg:∀s H cl C ex,PG (gw X scope (own++caps) s H cl C ex) tg g)(ht:∀s H cl C ex,Rf (gw X scope (own++caps) s H cl C ex) ifs tc)(he:∀s H cl C ex,PE (gw X scope (own++caps) s H cl C ex) elt te)(hs:∀x,foldedSetIterable iter X.env x=pure x:=by intro _;rfl):PE X (.ListComp elt [⟨tg,iter,ifs,0⟩] scope pos) (Jw wi own ix g tc te):=by
 intro pins s σ H Q I h
 rw[eval_ListComp]
 refine wch (use:=none) rfl hs (jt fun x hx=>I.ok.has x ((bf.free ck hx).2)) hkind (bf.names ck) (thn (hi pins s σ H _ I h) fun xv s1 h1=>thn h1 fun itv s2 h2=> ?_)
 obtain⟨it,fp,tn,J,H2,e,I2,T,st2,f2,W,⟨m0,w0⟩,turn⟩:=h2
 subst e
 refine Cm (RR:=fun acc C=>compPost (model X.prog X.w) X.A X.xe none (EP X pins σ Q) acc C) ck hkind hcap hc hg ht he I2 T st2 f2 w0 turn ?_
 intro D C s' acc Hf m I' nD hn fC fin
 refine⟨m,hn,fun h' sb=> ?_⟩
 obtain⟨f0,f1,f3,f4,f5,f6⟩:=fC
 exact⟨.ref D,_,I'.turned (t':=s'.toks) (it:=C) (fun b o hb e=>(sb.2 b hb).trans e) f0 f1 f4 f5 f6,rfl,fin D nD⟩
end
section
variable{prog:Program}{w:World}{A:Around}{E:Value->Shared->Prop}{s:Shared}
end
section
variable{X:Cx}{a:Expr}{ta:TA}{p p' pos pos':Pos}
end
end L2
namespace rB
open PySem PySem.W PyProof.Rows PySem.Calls
section
variable{prog:Program}{w:World}{A:Around}{E:Value->Shared->Prop}{s:Shared}{O:KeyOrd}{key:Nat->O.α}{κ:SortKind}{vs:List Value}
theorem zQ{t:Addr}{Q:List Value->Shared->Prop}(ht:s.heap.IsTuple t vs.toArray)(h:Q vs {s with heap:=(s.heap.push (seqObj "list" #[] 0)).update s.heap.objs.size (Obj.mapSeq (· ++vs.toArray))})(hz:vs.length<=sizeLine):
  wpAny (model prog w) A (collect (.ref t)) Q E s:=by
 obtain⟨o,ho,hc,n,hd⟩:=id ht
 unfold collect
 refine aA (wpAny_runValue (N6 entry_proto_collect' ?_))
 show wpAny _ _ (do again (.builtin "list.__iadd__" ⟨[<-newList [],.ref t],[]⟩)) _ _ s
 refine aA (Wy (bC ⟨Code.quiet_builtin _ (by decide+kernel),N6 entry_list_iadd' ?_⟩))
 show wpAny _ _ (Builtin.List.listExtendWith (.ref s.heap.objs.size) (.ref t) (.ref s.heap.objs.size)) _ _ {s with heap:=s.heap.push (seqObj "list" #[] 0)}
 unfold Builtin.List.listExtendWith
 have h1:(s.heap.push (seqObj "list" #[] 0)).get? t=some o:=cO _ ho
 have h2:(Value.type "tuple"==Value.type "tuple")=true:=by rfl
 refine aA (XC (T:="tuple") ⟨o,h1,hc⟩ ?_)
 rw[ao (by rw[h2];simp)]
 refine aA (listItems_at h1 hd (aA (listItems_at (xs:=#[]) (n:=0) (jx _ rfl) rfl ?_)))
 rw[ak (by simp)]
 refine aA (wfh (xs:=#[]) (n:=0) (jx _ rfl) rfl (bC ?_) (dJ _) (by show(#[]++vs.toArray).size<=sizeLine+1;simp only[Array.size_append,fL,Rq];omega))
 show wpAny (model prog w) A (load s.heap.objs.size>>=_) Q E {s with heap:=(s.heap.push (seqObj "list" #[] 0)).update s.heap.objs.size (Obj.mapSeq (· ++vs.toArray))}
 refine aA (wpAny_load (Om (jx _ rfl) _) ?_)
 show wpAny _ _ (pure ((#[]:Array Value)++vs.toArray).toList) Q E _
 have e:((#[]:Array Value)++vs.toArray).toList=vs:=by simp
 rw[e]
 exact bC h
theorem Ba{l:Addr}{Q:Value->Shared->Prop}(hl:s.heap.IsTuple l vs.toArray)(h64:vs.length<64)(hkind:2<=vs.length->∀h',(∀b o,s.heap.get? b=some o->h'.get? b=some o)->∀(E:Value->Shared->Prop) (Q:SortKind->Shared->Prop),Q κ {s with heap:=h'}->wpAny (model prog w) A.in1.in1 (keyKind' vs.toArray) Q E {s with heap:=h'})(Lz:2<=vs.length->∀h',(∀b o,s.heap.get? b=some o->h'.get? b=some o)->jB O key vs.length (kas_ask prog w A.in1.in1 κ vs) {s with heap:=h'})(h:∀D h' out c,HF key vs out->s.heap.objs.size<=D->(∀b o,s.heap.get? b=some o->h'.get? b=some o)->h'.get? D=some (seqObj "list" (List.toArray out) c)->Q (.ref D) {s with heap:=h'}):
  wpAny (model prog w) A (call (.builtin "sorted") [.ref l]) Q E s:=by
 refine Calls.call_function_entry kind_sorted plain_sorted entry_sorted (args_sorted1 _) ?_
 unfold Builtin.«sorted»
 refine aA (m:=checkCount "sorted" 1 1 _) (bC (aA (zQ hl (aA (Wy ?_ (by rw[gB];omega))) (by rw[gB];omega))))
 have hsz:((s.heap.push (seqObj "list" #[] 0)).update s.heap.objs.size (Obj.mapSeq (· ++vs.toArray))).objs.size=s.heap.objs.size+1:=by
  rw[Heap.size_update,size_push']
 have hoL:(((s.heap.push (seqObj "list" #[] 0)).update s.heap.objs.size (Obj.mapSeq (· ++vs.toArray))).push (seqObj "list" vs.toArray 0)).get? (s.heap.objs.size+1)=some (seqObj "list" vs.toArray 0):=by
  rw[<-hsz];exact jx _ rfl
 have keep:∀b o,s.heap.get? b=some o->(((s.heap.push (seqObj "list" #[] 0)).update s.heap.objs.size (Obj.mapSeq (· ++vs.toArray))).push (seqObj "list" vs.toArray 0)).get? b=some o:=fun b o q=>by
  have hlt:b<s.heap.objs.size:=cZ q
  rw[wcy _ _ _ (by rw[hsz];exact dM (qz hlt)),Heap.get?_update_ne _ _ _ _ (dM hlt),wcy _ _ _ (dM hlt)]
  exact q
 have ne:∀b o,s.heap.get? b=some o->b≠s.heap.objs.size+1:=fun b o q=>dM (qz (cZ q))
 show wpAny _ _ _ _ _ {s with heap:=((s.heap.push (seqObj "list" #[] 0)).update s.heap.objs.size (Obj.mapSeq (· ++vs.toArray))).push (seqObj "list" vs.toArray 0)}
 rw[hsz]
 refine aA (Ak (Rz slot_list_sort ⟨_,hoL,rfl⟩ entry_list_sort ?body (args_list_sort _)))
 case body=>
  refine lQ (key:=key) (κ:=κ) (s:={s with heap:=((s.heap.push (seqObj "list" #[] 0)).update s.heap.objs.size (Obj.mapSeq (· ++vs.toArray))).push (seqObj "list" vs.toArray 0)}) hoL h64
   (fun h2 h' k Q hq=>hkind h2 h' (fun b o q=>k b o (ne b o q) (keep b o q)) _ Q hq) (fun h2 h' k=>Lz h2 h' fun b o q=>k b o (ne b o q) (keep b o q)) fun h' out c ho k hc=> ?_
  exact⟨_,rfl,bC ⟨_,rfl,h _ h' out c ho (Af _) (fun b o q=>k b o (ne b o q) (keep b o q)) hc⟩⟩
end
end rB
namespace L2
open PySem PySem.Spec PyProof.Rows
section
variable{X:Cx}
theorem qg:∀{xs:List Int} {us:List Value},Vals (xs.map V.int) us->Paired (fun(i:Int) (v:Value)=>∃t,v= .int i t) xs us
 |[],_,h=>by cases h;exact .nil
 |_::_,_,h=>by
  cases h with
  |cons r t=>exact .cons r (qg t)
theorem qu:∀{xs:List Int} {us:List Value},Paired (fun(i:Int) (v:Value)=>∃t,v= .int i t) xs us->Vals (xs.map V.int) us
 |_,_,.nil=> .nil
 |_,_,.cons r t=> .cons r (qu t)
theorem Ez{xs:List Int}{us:List Value}(h:Paired (fun(i:Int) (v:Value)=>∃t,v= .int i t) xs us):∀i (hi:i<xs.length),∃t,us.getD i Value.none= .int xs[i] t:=by
 induction h with
 |nil=>intro i hi;simp at hi
 |cons r t ih=>
  intro i hi
  cases i with
  |zero=>exact r
  |succ i=>simpa using ih i (by simpa using hi)
theorem wZ:CallR X (.builtin "sorted") (fun vs H Q=>∃(b:Bool) (a:Addr) (xs:List Int),vs=[.ref a]/\W8 X.K b H a (xs.map V.int)/\xs.length<64/\
  ∀(l:Addr) (ys:List Int),H l=none->ys.Perm xs->ys.Pairwise (· <= ·)->Q (.ref l) (upd H l (.lst (ys.map V.int)))):=by
 intro pins s σ H xs us Q I r h
 obtain⟨b,a,ns,rfl,hS,h64,q⟩:=h
 obtain⟨u,rfl,ru⟩:=r.one
 cases ru
 have main:∀vs:List Value,Vals (ns.map V.int) vs->(b=false/\s.heap.IsList a vs.toArray\/b=true/\s.heap.IsTuple a vs.toArray)->wpAny (model X.prog X.w) X.A (call (.builtin "sorted") [.ref a]) (EP X pins σ Q) X.xe s:=by
  intro vs rv hb
  have hlen:ns.length=vs.length:=by have:=rv.length;simpa using this
  have pr:=qg rv
  have hi:IntsAre vs ns:=intsAre_of rv
  have p1:2<=vs.length->∀h',(∀b o,s.heap.get? b=some o->h'.get? b=some o)->∀(E:Value->Shared->Prop) (Q:SortKind->Shared->Prop),Q oneType' {s with heap:=h'}->wpAny (model X.prog X.w) X.A.in1.in1 (keyKind' vs.toArray) Q E {s with heap:=h'}:=fun h2 h' k E' Q' hq=>by
   rw[ksk_kind (kz:=ns) (by simpa using hi) (by simpa using h2)]
   exact bC hq
  have p2:2<=vs.length->∀h',(∀b o,s.heap.get? b=some o->h'.get? b=some o)->rB.jB rB.wD (fun i=>ns.getD i 0) vs.length (PySem.W.kas_ask X.prog X.w X.A.in1.in1 oneType' vs) {s with heap:=h'}:=fun h2 h' k=>by
   intro i j C hi hj hC
   rw[<-hlen]at hi hj
   unfold PySem.W.kas_ask
   obtain⟨t1,e1⟩:=Ez pr i hi
   obtain⟨t2,e2⟩:=Ez pr j hj
   rw[e1,e2]
   refine PySem.W.kat_lt_int ?_
   have hC':C (decide (ns.getD i 0<ns.getD j 0)) {s with heap:=h'}:=hC
   have e3:ns.getD i 0=ns[i]:=by simp[hi]
   have e4:ns.getD j 0=ns[j]:=by simp[hj]
   rw[e3,e4]at hC'
   exact hC'
  have p3:∀D h' out c,rB.HF (O:=rB.wD) (fun i=>ns.getD i 0) vs out->s.heap.objs.size<=D->(∀b o,s.heap.get? b=some o->h'.get? b=some o)->h'.get? D=some (seqObj "list" (List.toArray out) c)->EP X pins σ Q (.ref D) {s with heap:=h'}:=fun D h' out c ho hD k hc=>by
   obtain⟨ys,hp,hr,hw⟩:=rB.El (d:=(0:Int)) (f:=fun p=>p) pr (fun i hi=>by show ns.getD i 0=_;simp[hi]) ho
   have zl:(ys.map V.int).length<=sizeLine:=by
    have:=hp.length_eq
    rw[aF]
    exact dH (small1000 (by omega))
   have J:Inv X pins σ (upd H D (.lst (ys.map V.int))) {s with heap:=h',toks:=s.toks}:=I.laid k hD ⟨zl,out,c,qu hr,hc⟩
   refine⟨.ref D,_,J,rfl,q D ys (I.hok.fresh hD) hp (hw.imp fun{x y} hxy=> ?_)⟩
   have:decide (y<x)=false:=hxy
   have:=TY this
   omega
  rcases hb with⟨_,hb⟩|⟨_,hb⟩
  ·exact rB.rW (O:=rB.wD) (key:=fun i=>ns.getD i 0) (κ:=oneType') hb (by omega) p1 p2 p3
  ·exact rB.Ba (O:=rB.wD) (key:=fun i=>ns.getD i 0) (κ:=oneType') hb (by omega) p1 p2 p3
 cases b with
 |false=>
  obtain⟨vs,rv,pl,hz⟩:=I.list (show SqL X.K H a (ns.map V.int)from hS)
  exact main vs rv (.inl ⟨rfl,pl.isList⟩)
 |true=>
  obtain⟨vs,rv,pl,hz⟩:=I.tuple (show SqT X.K H a (ns.map V.int)from hS)
  exact main vs rv (.inr ⟨rfl,pl⟩)
end
section
variable{K:W.Frag}{σ:St}{H0:Hp}
end
end L2
namespace L2
open PySem PySem.W PySem.Spec PyProof.Rows
section
variable{X:Cx}
theorem w5:CallR X (.builtin "sorted") (fun xs H Q=>∃(a:Addr) (its:List (Addr×List Int)),xs=[.ref a]/\SqL X.K H a (its.map fun p=>V.ref p.1)/\(∀p∈its,SqT X.K H p.1 (p.2.map V.int)/\(2<=its.length->p.2≠[]))/\its.length<64/\
  ∀(l:Addr) (its':List (Addr×List Int)),H l=none->its'.Perm its->its'.Pairwise (fun p q=>HT.lexLt q.2 p.2=false)->Q (.ref l) (upd H l (.lst (its'.map fun p=>V.ref p.1)))):=by
 intro pins s σ H xs us Q I r h
 obtain⟨a,its,rfl,hS,hT,h64,q⟩:=h
 obtain⟨u,rfl,ru⟩:=r.one
 cases ru
 obtain⟨vs,rv,pl,hz⟩:=I.list hS
 have hlen:its.length=vs.length:=by have:=rv.length;simpa using this
 -- the values beside the tuples
 have pr:Paired (fun(p:Addr×List Int) (v:Value)=>v= .ref p.1) its vs:=by
  have go:∀(l:List (Addr×List Int)) (us:List Value),Vals (l.map fun p=>V.ref p.1) us->Paired (fun(p:Addr×List Int) (v:Value)=>v= .ref p.1) l us:=by
   intro l
   induction l with
   |nil=>intro us h;cases h;exact .nil
   |cons p l ih=>
    intro us h
    cases h with
    |cons r t=>exact .cons r (ih _ t)
  exact go its vs rv
 have tup:∀p∈its,∃(items:List Value),IntsAre items p.2/\IsTup s.heap p.1 items.toArray:=fun p hp=>by
  obtain⟨its',r',t',_⟩:=I.tuple (hT p hp).1
  exact⟨its',intsAre_of r',t'⟩
 refine rB.rW (O:=rB.lexOrd) (key:=fun i=>(its.getD i (0,[])).2) (κ:=tuples' true) (s:=s) pl.isList (by omega) (fun h2 h' k E' Q' hq=> ?_) (fun h2 h' k=> ?_) (fun D h' out c ho hD k hc=> ?_)
 ·have kt:∀(l:List (Addr×List Int)) (us:List Value),Paired (fun(p:Addr×List Int) (v:Value)=>v= .ref p.1) l us->(∀p∈l,p∈its)->∃fs:List Value,KatTups h' us fs/\fs.length=us.length/\∀v∈fs,∃i t,v=Value.int i t:=by
   intro l us h
   induction h with
   |nil=>intro _;exact⟨[],trivial,rfl,fun _ hv=>nomatch hv⟩
   | @cons p v l us r t ih=>
    intro hs
    obtain⟨fs,k1,k2,k3⟩:=ih fun p hp=>hs p (eE _ hp)
    obtain⟨items,hi,o,e,hc,n,hd⟩:=tup p (hs p cX)
    have hne:=(hT p (hs p cX)).2 (by omega)
    obtain⟨pa,pn⟩:=p
    dsimp only at hi hne e r
    cases hi with
    |nil=>exact absurd rfl hne
    |cons i t hi'=>
     rw[r]
     refine⟨Value.int i t::fs,KatTups.cons (k _ _ e) hc hd (by simp) k1,by simp[k2],fun v hv=> ?_⟩
     rcases cW.mp hv with e|e
     ·exact⟨i,t,e⟩
     ·exact k3 v e
  obtain⟨fs,k1,k2,k3⟩:=kt its vs pr fun _ hp=>hp
  refine kat_kind (s:={s with heap:=h'}) (T:= .type "int") k1 (by omega) (fun v hv=> ?_) (by rfl) hq
  obtain⟨i,t,rfl⟩:=k3 v hv
  exact fun A Q E s _ q=>bC q
 ·intro i j C hi hj hC
  rw[<-hlen]at hi hj
  have get:∀i (hi:i<its.length),vs.getD i Value.none= .ref its[i].1:=by
   have go:∀(l:List (Addr×List Int)) (us:List Value),Paired (fun(p:Addr×List Int) (v:Value)=>v= .ref p.1) l us->∀i (hi:i<l.length),us.getD i Value.none= .ref l[i].1:=by
    intro l us h
    induction h with
    |nil=>intro i hi;simp at hi
    |cons r t ih=>
     intro i hi
     cases i with
     |zero=>exact r
     |succ i=>simpa using ih i (by simpa using hi)
   exact go its vs pr
  unfold kas_ask
  rw[get i hi,get j hj]
  obtain⟨xi,hxi,oi,ei,ci,ni,di⟩:=tup its[i] (I9 _)
  obtain⟨xj,hxj,oj,ej,cj,nj,dj⟩:=tup its[j] (I9 _)
  refine kat_lt (s:={s with heap:=h'}) (k _ _ ei) di (k _ _ ej) dj ?_
  refine rB.Lq 0 hxi hxj ?_ ?_
  ·have:=hxi.length;have:=hxj.length
   simp only[fL]
   omega
  ·rw[HT.bY]
   have e1:its.getD i (0,[])=its[i]:=by simp[hi]
   have e2:its.getD j (0,[])=its[j]:=by simp[hj]
   have hC':C (decide ((its.getD i (0,[])).2<(its.getD j (0,[])).2)) {s with heap:=h'}:=hC
   rw[e1,e2]at hC'
   exact hC'
 ·obtain⟨its',hp,hr,hw⟩:=rB.El (d:=((0,[]):Addr×List Int)) (f:=fun p=>p.2) pr (fun i hi=>by show(its.getD i (0,[])).2=_;simp[hi]) ho
  have hn:H D=none:=I.hok.fresh hD
  have rv':Vals (its'.map fun p=>V.ref p.1) out:=by
   have go:∀(l:List (Addr×List Int)) (us:List Value),Paired (fun(p:Addr×List Int) (v:Value)=>v= .ref p.1) l us->Vals (l.map fun p=>V.ref p.1) us:=by
    intro l us h
    induction h with
    |nil=>exact .nil
    |cons r t ih=>exact .cons r ih
   exact go its' out hr
  have zl:(its'.map fun p=>V.ref p.1).length<=sizeLine:=by
   have:=hp.length_eq
   rw[aF]
   exact dH (small1000 (by omega))
  have J:Inv X pins σ (upd H D (.lst (its'.map fun p=>V.ref p.1))) {s with heap:=h',toks:=s.toks}:=I.laid k hD ⟨zl,out,c,rv',hc⟩
  refine⟨.ref D,_,J,rfl,q D its' hn hp (hw.imp fun{x y} hxy=> ?_)⟩
  rw[HT.bY];exact hxy
theorem oZ(K:W.Frag){a:Expr}{ta:TE}(ha:PE X a ta)(he:∀whole,isTrue a X.env whole=(do let v<-whole;standAt a.pos;holding [v] (truthy v)))(h:X.K=K:=by rfl):
  PT X a (fun σ H Q=>ta σ H fun x H'=>∃k,TruV K x H' k/\Q k H'):=by subst h;exact pt_truth ha he
end
end L2
namespace L2
open PySem PySem.Spec PyProof.Rows
section
variable{prog:Program}{w:World}{A:Around}{E:Value->Shared->Prop}{s:Shared}{l:Addr}{kid:String}{vs:List Value}{R:Result->Shared->Prop}{Q:Value->Shared->Prop}
def Kp(s:Shared)(h:Heap):Prop:=∀b o,s.heap.get? b=some o->h.get? b=some o
theorem Vm(kf:Nat->Int)(hA:A.handled=none)(hl:s.heap.IsList l vs.toArray)(turn:∀(i:Nat) (v:Value),vs[i]? =some v->∀(h:Heap) (tk:Nat),Kp s h->∀Q E:Value->Shared->Prop,(∀t tk',Q (.int (kf i) t) {s with heap:=h,toks:=tk'})->wpAny (model prog w) A.in1 (call (.builtin kid) [v]) Q E {s with heap:=h,toks:=tk})(hR:∀i v h' tk',vs[i]? =some v->(∀j,j<vs.length->kf j<=kf i/\(j<i->kf j<kf i))->Kp s h'->R (.ok (.ret v)) {s with heap:=h',toks:=tk'}):
  ∀(r j i:Nat) (h:Heap) (tk:Nat) (vb:Value) (tb:Tok) (c:Nat),vs.length-(j+1)=r->j+1<=vs.length->Kp s h->h.get? (s.heap.objs.size+1)=some (seqObj "list" #[vb,.int (kf i) tb] c)->h.IsListIter s.heap.objs.size l (j+1)->vs[i]? =some vb->i<=j->(∀j',j'<=j->kf j'<=kf i/\(j'<i->kf j'<kf i))->
   codeAny (model prog w) A (.builtin "max.loop" ⟨[.ref s.heap.objs.size,.builtin kid,.ref (s.heap.objs.size+1)],[]⟩) R {s with heap:=h,toks:=tk}:=by
 have nm:(toString "max"++toString ".loop":String)="max.loop":=by decide
 obtain⟨ol,hol,hlc,Vt,hld⟩:=id hl
 have R6:l≠s.heap.objs.size:=dM (cZ hol)
 have W:=Tz (prog:=prog) (w:=w) (A:=A.in1) hA s.heap.objs.size l R6 vs.toArray
 have zs:vs.toArray.size=vs.length:=fL ..
 have Sd:s.heap.objs.size+1≠s.heap.objs.size:=xX (oR _)
 have hlK:∀h,Kp s h->h.IsList l vs.toArray:=fun h k=>⟨ol,k _ _ hol,hlc,Vt,hld⟩
 have kI:∀h h',Kp s h->(∀b o,b∉[s.heap.objs.size]->h.get? b=some o->h'.get? b=some o)->Kp s h':=fun h h' k q b o e=>q b o (fun z=>oK _ ((fZ.mp z)▸cZ e)) (k b o e)
 have kS:∀h h',Kp s h->(∀b,b≠s.heap.objs.size+1->h'.get? b=h.get? b)->Kp s h':=fun h h' k q b o e=>(q b (dM (qz (cZ e)))).trans (k b o e)
 intro r
 induction r with
 |zero=>
  intro j i h tk vb tb c hr hj k hS hit hvb hij hbest
  refine N6 wcv (by
   rw[way T4 _]
   show wpAny _ A.in1 (seqItems? (.ref (s.heap.objs.size+1))>>=_) _ _ _
   refine aA (FW hS rfl (?_))
   show wpAny _ A.in1 (tryCatch (pyNext (.ref s.heap.objs.size)) _>>=_) _ _ _
   refine aA (Ik (W.done _ _ _ ⟨by rw[zs,<-show j+1=vs.length by omega];exact hit,hlK h k⟩ fun h' tk' hk'=> ?_))
   have g:=hk' (s.heap.objs.size+1) _ (by simp) hS
   show wpAny _ A.in1 (updateSeq (s.heap.objs.size+1) (fun _=>#[])>>=_) _ _ _
   refine aA (TF g rfl (aA (N5 (bC ?_))))
   exact hR i vb _ _ hvb (fun j' hj'=>hbest j' (by omega)) (kS _ _ (kI _ _ k hk') (Jj h' (s.heap.objs.size+1) (Obj.mapSeq fun _=>(#[]:Array Value))).2))
 |succ r ih=>
  intro j i h tk vb tb c hr hj k hS hit hvb hij hbest
  have hlt:j+1<vs.length:=by omega
  refine N6 wcv (by
   rw[way T4 _]
   show wpAny _ A.in1 (seqItems? (.ref (s.heap.objs.size+1))>>=_) _ _ _
   refine aA (FW hS rfl (?_))
   show wpAny _ A.in1 (tryCatch (pyNext (.ref s.heap.objs.size)) _>>=_) _ _ _
   refine aA (Ik (W.item (j+1) _ _ _ (by rw[zs];exact hlt) ⟨hit,hlK h k⟩ fun v h' tk' hP hst' hk'=> ?_))
   have hv:vs[j+1]? =some v:=(by simpa using hP)
   have k1:=kI _ _ k hk'
   have g:=hk' (s.heap.objs.size+1) _ (by simp) hS
   show wpAny _ A.in1 (tryCatch (holding [v] (call (.builtin kid) [v])) _>>=_) _ _ _
   refine aA (Ik (Ak (turn (j+1) v hv h' tk' k1 _ _ fun t2 tk2=> ?_)))
   show wpAny _ A.in1 (tryCatch (holding [v,.int (kf (j+1)) t2] (richCompare .Gt (.int (kf (j+1)) t2) (.int (kf i) tb)>>=_)) _>>=_) _ _ _
   refine aA (Ik (Ak (aA (CmpOf.ints_gt (prog:=prog) (w:=w) (A:=A.in1) (P:=fun i v=>∃t,v= .int (kf i) t) kf (fun i v h=>h) (j+1) i _ _ _ _ _ ⟨t2,rfl⟩ ⟨tb,rfl⟩ (aA (Ak (Ji (aA (N5 (bC ?_))))))))))
   by_cases hb:kf (j+1)>kf i
   ·have sb:=Jj h' (s.heap.objs.size+1) (Obj.mapSeq fun _=>#[v,.int (kf (j+1)) t2])
    obtain⟨c2,hc2⟩:∃c2,(h'.update (s.heap.objs.size+1) (Obj.mapSeq fun _=>#[v,.int (kf (j+1)) t2])).get? (s.heap.objs.size+1)=some (seqObj "list" #[v,.int (kf (j+1)) t2] c2):=⟨_,Om g fun _=>#[v,.int (kf (j+1)) t2]⟩
    simp only[hb,decide_true,NT]
    refine aA (TF g rfl (aA (N5 ?_)))
    obtain⟨oI,hoI,hoc,hod⟩:=id hst'.1
    rw[nm]
    refine bC ⟨Ol T4 _,ih (j+1) (j+1) _ _ v t2 c2 (by omega) hlt (kS _ _ k1 sb.2) hc2 ⟨oI,(sb.2 _ Sd.symm).trans hoI,hoc,hod⟩ hv (aJ _) fun j' hj'=> ?_⟩
    by_cases e:j'=j+1
    ·subst e;exact⟨uE _,fun z=>absurd z (oK _)⟩
    ·have q:=(hbest j' (by omega)).1
     exact⟨by omega,fun _=>by omega⟩
   ·simp only[hb,decide_false,wco,Tt]
    refine aA (N5 (?_))
    rw[nm]
    refine bC ⟨Ol T4 _,ih (j+1) i _ _ vb tb c (by omega) hlt k1 g hst'.1 hvb (by omega) fun j' hj'=> ?_⟩
    by_cases e:j'=j+1
    ·subst e;exact⟨by omega,fun z=>by omega⟩
    ·exact hbest j' (by omega))
theorem Qq(kf:Nat->Int)(hA:A.handled=none)(hl:s.heap.IsList l vs.toArray)(hne:0<vs.length)(turn:∀(i:Nat) (v:Value),vs[i]? =some v->∀(h:Heap) (tk:Nat),Kp s h->∀Q E:Value->Shared->Prop,(∀t tk',Q (.int (kf i) t) {s with heap:=h,toks:=tk'})->wpAny (model prog w) A.in1 (call (.builtin kid) [v]) Q E {s with heap:=h,toks:=tk})(hQ:∀i v h' tk',vs[i]? =some v->(∀j,j<vs.length->kf j<=kf i/\(j<i->kf j<kf i))->Kp s h'->Q v {s with heap:=h',toks:=tk'}):
  wpAny (model prog w) A (call (.builtin "max") [.ref l] [(Str.ofString "key",.builtin kid)]) Q E s:=by
 have nm:(toString "max"++toString ".loop":String)="max.loop":=by decide
 obtain⟨ol,hol,hlc,Vt,hld⟩:=id hl
 have R6:l≠s.heap.objs.size:=dM (cZ hol)
 refine kmb_tree PySem.F.kind_max PySem.F.plain_max PySem.F.entry_max (kmb_max_key _ _) (by
  show wpAny _ A.in1 (Builtin.Builtins.bindParams "max" ["key","default"] 0 ⟨[],[(Str.ofString "key",.builtin kid)]⟩>>=_) _ _ s
  refine aA (wpAny_of_eq (show Builtin.Builtins.bindParams "max" ["key","default"] 0 ⟨[],[(Str.ofString "key",.builtin kid)]⟩=pure [some (.builtin kid),none]from rfl) (aA (bC (aA (TV hl (aA (Wy ?_ (dJ _))))))))
  rw[nm]
  have zS:(s.heap.push {cls:= .type "list_iterator",data:= .fields #[.ref l,.int 0 0]}).objs.size=s.heap.objs.size+1:=size_push' ..
  rw[zS]
  have k0:Kp s ((s.heap.push {cls:= .type "list_iterator",data:= .fields #[.ref l,.int 0 0]}).push (seqObj "list" #[] 0)):=fun b o e=>cO _ (cO _ e)
  have gI:((s.heap.push {cls:= .type "list_iterator",data:= .fields #[.ref l,.int 0 0]}).push (seqObj "list" #[] 0)).IsListIter s.heap.objs.size l 0:=⟨_,cO _ (jx _ rfl),rfl,rfl⟩
  have gS:((s.heap.push {cls:= .type "list_iterator",data:= .fields #[.ref l,.int 0 0]}).push (seqObj "list" #[] 0)).get? (s.heap.objs.size+1)=some (seqObj "list" #[] 0):=by rw[<-zS];exact jx _ rfl
  have W:=Tz (prog:=prog) (w:=w) (A:=A.in1) hA s.heap.objs.size l R6 vs.toArray
  refine bC ⟨Ol T4 _,N6 wcv ?_⟩
  rw[way T4 _]
  show wpAny _ A.in1 (seqItems? (.ref (s.heap.objs.size+1))>>=_) _ _ _
  refine aA (FW gS rfl (?_))
  show wpAny _ A.in1 (tryCatch (pyNext (.ref s.heap.objs.size)) _>>=_) _ _ _
  refine aA (Ik (W.item 0 _ _ _ (by rw[fL];exact hne) ⟨gI,⟨ol,k0 _ _ hol,hlc,Vt,hld⟩⟩ fun v h' tk' hP hst' hk'=> ?_))
  have hv:vs[0]? =some v:=(by simpa using hP)
  have k1:Kp s h':=fun b o e=>hk' b o (fun z=>oK _ ((fZ.mp z)▸cZ e)) (k0 b o e)
  have g:=hk' (s.heap.objs.size+1) _ (by simp) gS
  show wpAny _ A.in1 (tryCatch (holding [v] (call (.builtin kid) [v])) _>>=_) _ _ _
  refine aA (Ik (Ak (turn 0 v hv h' tk' k1 _ _ fun t2 tk2=> ?_)))
  have sb:=Jj h' (s.heap.objs.size+1) (Obj.mapSeq fun _=>#[v,.int (kf 0) t2])
  obtain⟨c2,hc2⟩:∃c2,(h'.update (s.heap.objs.size+1) (Obj.mapSeq fun _=>#[v,.int (kf 0) t2])).get? (s.heap.objs.size+1)=some (seqObj "list" #[v,.int (kf 0) t2] c2):=⟨_,Om g fun _=>#[v,.int (kf 0) t2]⟩
  obtain⟨oI,hoI,hoc,hod⟩:=id hst'.1
  show wpAny _ A.in1 (updateSeq (s.heap.objs.size+1) (fun _=>#[v,.int (kf 0) t2])>>=_) _ _ _
  refine aA (TF g rfl ?_)
  rw[nm]
  exact bC ⟨Ol T4 _,Vm kf hA hl turn hQ _ 0 0 _ _ v t2 c2 rfl hne (fun b o e=>(sb.2 b (dM (qz (cZ e)))).trans (k1 b o e)) hc2 ⟨oI,(sb.2 _ (dM (oR _))).trans hoI,hoc,hod⟩ hv (aJ _) fun j' hj'=>by
   have e:j'=0:=by omega
   subst e
   exact⟨uE _,fun z=>absurd z (oK _)⟩⟩)
end
section
variable{X:Cx}{a:Expr}{ta:TA}{p p2 kp pos:Pos}
def Ox(K:W.Frag)(ta:TA):TE:=fun σ H Q=>ta σ H fun vs H1=>∃(l:Addr) (its:List (Addr×List Int)),vs=[.ref l]/\SqL K H1 l (its.map fun p=>V.ref p.1)/\(∀p∈its,SqT K H1 p.1 (p.2.map V.int))/\its≠[]/\
 ∀(i:Nat) (p:Addr×List Int),its[i]? =some p->(∀(j:Nat) r,its[j]? =some r->r.2.length<=p.2.length/\(j<i->r.2.length<p.2.length))->Q (.ref p.1) H1
theorem rJ:∀{its:List (Addr×List Int)} {us:List Value} {i:Nat} {v:Value},Vals (its.map fun p=>V.ref p.1) us->us[i]? =some v->∃p,its[i]? =some p/\v= .ref p.1
 |[],_,i,v,h,e=>by cases h;simp at e
 |p::its,_,0,v,h,e=>by
  cases h with
  |cons r t=>
   cases r
   simp at e
   exact⟨p,rfl,e.symm⟩
 |p::its,_,i+1,v,h,e=>by
  cases h with
  |cons r t=>exact rJ (i:=i) t (by simpa using e)
theorem Gw(hc:X.calm=true)(hg:Gl X "max")(hm:X.mg "max"=none)(Y0:Gl X "len")(hmL:X.mg "len"=none)(ha:PA X [a] ta)(hs:starEach [a] X.env=[(false,eval a X.env)]:=by rfl)(he:backTo pos (starEach [a] X.env)=(false,eval a X.env)::backTo pos (starEach [] X.env):=by rfl)(hp:(backTo pos (starEach [a] X.env)).any (·.1)=false:=by rfl):PE X (.Call (.Name "max" p) [a] [⟨some "key",.Name "len" p2,kp⟩] pos) (Ox X.K ta):=by
 intro pins s σ H Q I h
 refine Oq (ld_blt I hg hm (show bootBuiltins "max"=some (.builtin "max")from by decide+kernel) ?_ (by decide) (by decide))
 refine wet (thn (ha pos pins s σ H _ I h) fun us s1 ⟨vs,H1,I1,r1,q1⟩=>kws_cons (ld_blt I1 Y0 hmL oU (kws_nil ?_) (by decide) (by decide))) he hp
 obtain⟨l,its,e,hq,hT,hne,q⟩:=q1
 subst e
 cases r1 with
 |cons r rr=>
  cases rr
  cases r
  obtain⟨ws,rv,pl,hz⟩:=I1.list hq
  have hlen:its.length=ws.length:=by have:=rv.length;simpa using this
  have hpos:0<ws.length:=by
   rw[<-hlen]
   cases its with
   |nil=>exact absurd rfl hne
   |cons _ _=>simp
  have kf:∀i p,its[i]? =some p->its.getD i (0,[])=p:=fun i p e=>by rw[jC,e];rfl
  show wpAny (model X.prog X.w) X.A (call (.builtin "max") [.ref l] [(Str.ofString "key",.builtin "len")]) (EP X pins σ Q) X.xe s1
  refine Qq (fun i=>((its.getD i (0,[])).2.length:Int)) (I.ok.hd hc) pl.isList hpos (fun i v hv h' tk k Q' E' hq'=> ?_) (fun i v h' tk' hv hb k=> ?_)
  ·obtain⟨p,e1,rfl⟩:=rJ rv hv
   obtain⟨xs,rx,px,hx⟩:=I1.tuple (hT p (iZ e1))
   obtain⟨o,ho,ho2,n,hd⟩:=id px
   have hxl:xs.length=p.2.length:=by have:=rx.length;simpa using this.symm
   have hz2:xs.toArray.size=p.2.length:=by rw[fL];exact hxl
   refine len_tuple (s:={s1 with heap:=h',toks:=tk}) (t:=p.1) (items:=xs.toArray) ⟨o,k _ _ ho,ho2,n,hd⟩ ?_ ?_
   ·rw[fL]
    have:xs.length<=sizeLine:=by rw[hxl];simpa using hx
    rw[gB]at this
    omega
   ·have z:=hq' (tk+1) (tk+1+1)
    rw[kf i p e1]at z
    rw[hz2]
    exact z
  ·obtain⟨p,e1,rfl⟩:=rJ rv hv
   have I2:Inv X pins σ H1 {s1 with heap:=h',toks:=tk'}:=I1.kept k
   refine⟨.ref p.1,H1,I2,rfl,q i p e1 fun j r hr=> ?_⟩
   have hj:j<ws.length:=by rw[<-hlen];exact(lC.mp hr).1
   have z:=hb j hj
   rw[kf i p e1,kf j r hr]at z
   exact⟨by omega,fun hji=>by have:=z.2 hji;omega⟩
end
section
variable{P:Program}{w:World}{K:W.Frag}{mg:Str->Option Value}{base:Heap}{N:List Str}{qual:Str}{scope:Scope}{f:Addr}{cd:Value}{A:Around}{outer:List Env}{s:Shared}{H:Hp}{E:XK}
end
section
variable{P:Program}{w:World}{K:W.Frag}{mg:Str->Option Value}{base:Heap}{N:List Str}{qual:Str}{scope:Scope}{f:Addr}{cd:Value}{A:Around}{outer:List Env}{s:Shared}{H:Hp}{E:XK}
end
end L2
namespace L2
open PySem PySem.Spec PySem.Calls PyProof.Rows PySem.W PySem.Builtin.Getset_descriptor
section
variable{prog:Program}{w:World}{A:Around}{E:Value->Shared->Prop}{s:Shared}{K:Frag}{x D:Addr}
end
end L2
namespace L2
open PySem PySem.Spec PyProof.Rows
section
variable{X:Cx}{pins:List (Addr×Obj)}{σ:St}{H H':Hp}{s s':Shared}{e C:Addr}{B:Heap}
end
section
variable{X:Cx}{k:Nat}{f D:Addr}{fd:FuncData}{ps:List Str}{sp:Sp}{fn x n:Str}{p cpos epos np hpos pos:Pos}{a:Expr}{as:List Expr}{t:TA}{ts:TS}{b₀:Stmt}{suite:List Stmt}{i:Nat}
end
section
variable{X:Cx}
end
mutual
def aaq:Nat->Expr->Option PyData
 |0,_=>none
 |n+1,e=>match e with
  | .Constant (.int i) _ _=>some (.int i)
  | .Constant (.bool b) _ _=>some (.bool b)
  | .Constant .none _ _=>some .none
  | .Constant (.str x) _ _=>some (.str x)
  | .UnaryOp .USub (.Constant (.int i) _ _) _=>some (.int (-i))
  | .Tuple es _ _=>(Lp n es).map .tuple
  | .List es _=>(Lp n es).map .list
  | .Dict [] [] _=>some (.dict [])
  |_=>none
def Lp:Nat->List Expr->Option (List PyData)
 |0,_=>none
 |_+1,[]=>some []
 |n+1,e::es=>match aaq n e,Lp n es with
  |some d,some ds=>some (d::ds)
  |_,_=>none
end
section
variable{X:Cx}
end
end L2
namespace L2
open PySem PySem.Spec PyProof.Rows
section
variable{κ:Type} [DecidableEq κ]
def valV(kvs:List (κ×V))(k:κ):Option V:=(kvs.find? fun kv=>decide (kv.1=k)).map (·.2)
def putK(kvs:List (κ×V))(k:κ)(v:V):List (κ×V):=
 if(kvs.any fun kv=>decide (kv.1=k))=true then kvs.map (fun kv=>if kv.1=k then(kv.1,v)else kv)else kvs++[(k,v)]
theorem HX{p:κ×V}{r:List (κ×V)}{k:κ}(e:p.1=k):valV (p::r) k=some p.2:=by simp[valV,Wn,e]
theorem HW{p:κ×V}{r:List (κ×V)}{k:κ}(e:¬p.1=k):valV (p::r) k=valV r k:=by simp[valV,Wn,e]
theorem valV_any(k:κ):∀kvs:List (κ×V),(kvs.any fun kv=>decide (kv.1=k))=(valV kvs k).isSome
 |[]=>rfl
 |p::r=>by
  rw[Rn]
  by_cases e:p.1=k
  ·simp only[HX e,gb e,Bool.true_or,Option.isSome_some]
  ·rw[HW e,iY e,wgt];exact valV_any k r
theorem valV_map(k j:κ)(y:V):∀kvs:List (κ×V),valV (kvs.map fun kv=>if kv.1=k then(kv.1,y)else kv) j=(valV kvs j).map fun x=>if j=k then y else x
 |[]=>rfl
 |p::r=>by
  have ih:=valV_map k j y r
  rw[qM]
  by_cases h:p.1=k
  ·rw[ao h]
   by_cases e:p.1=j
   ·rw[HX (p:=(p.1,y)) e,HX e,XJ,ao (e.symm.trans h)]
   ·rw[HW (p:=(p.1,y)) e,HW e,ih]
  ·rw[ak h]
   by_cases e:p.1=j
   ·rw[HX (p:=p) e,HX e,XJ,ak (fun z=>h (e.trans z))]
   ·rw[HW (p:=p) e,HW e,ih]
theorem valV_snoc(k j:κ)(y:V):∀kvs:List (κ×V),valV kvs k=none->valV (kvs++[(k,y)]) j=if j=k then some y else valV kvs j
 |[],_=>by
  by_cases e:k=j
  ·rw[ao e.symm];exact HX (p:=(k,y)) e
  ·rw[ak (fun z=>e z.symm)];exact HW (p:=(k,y)) e
 |p::r,hn=>by
  rw[List.cons_append]
  have hk:¬p.1=k:=fun z=>by rw[HX z]at hn;cases hn
  rw[HW hk]at hn
  have ih:=valV_snoc k j y r hn
  by_cases e:p.1=j
  ·rw[HX e,HX e,ak (fun z=>hk (e.trans z))]
  ·rw[HW e,HW e,ih]
theorem valV_put(kvs:List (κ×V))(k j:κ)(y:V):valV (putK kvs k y) j=if j=k then some y else valV kvs j:=by
 unfold putK
 by_cases a:(kvs.any fun kv=>decide (kv.1=k))=true
 ·rw[ao a,valV_map]
  rw[valV_any]at a
  by_cases e:j=k
  ·obtain⟨x,hx⟩:=Option.isSome_iff_exists.mp a
   rw[ao e,e,hx,XJ,ao rfl]
  ·rw[ak e]
   cases valV kvs j with
   |none=>rfl
   |some x=>rw[XJ,ak e]
 ·rw[ak a]
  refine valV_snoc k j y kvs ?_
  rw[valV_any]at a
  cases q:valV kvs k with
  |none=>rfl
  |some x=>rw[q]at a;exact(a rfl).elim
theorem length_putK(kvs:List (κ×V))(k:κ)(v:V):(putK kvs k v).length<=kvs.length+1:=by
 unfold putK
 split
 ·rw[aF];omega
 ·rw[qC,rD,Rq];omega
theorem putK_new{kvs:List (κ×V)}{k:κ}(v:V)(h:valV kvs k=none):putK kvs k v=kvs++[(k,v)]:=by
 unfold putK
 rw[valV_any,h]
 exact ak (by decide)
theorem RelO.isSome_eq{o:Option V}{u:Option Value}(r:RelO o u):o.isSome=u.isSome:=by
 cases o with
 |none=>cases u with
  |none=>rfl
  |some _=>exact(show False from r).elim
 |some _=>cases u with
  |none=>exact(show False from r).elim
  |some _=>rfl
theorem KV.val{kvs:List (κ×V)}{vs:List (κ×Value)}(r:KV kvs vs)(k:κ):RelO (valV kvs k) (valueAt vs k):=by
 unfold KV at r
 induction r with
 |nil=>exact True.intro
 | @cons p q ps qs h t ih=>
  obtain⟨h1,h2⟩:=h
  by_cases e:p.1=k
  ·have e':q.1=k:=h1.symm.trans e
   have b:valueAt (q::qs) k=some q.2:=by simp[valueAt,Wn,e']
   rw[HX e,b];exact h2
  ·have e':¬q.1=k:=fun z=>e (h1.trans z)
   have b:valueAt (q::qs) k=valueAt qs k:=by simp[valueAt,Wn,e']
   rw[HW e,b];exact ih
theorem KV.any{kvs:List (κ×V)}{vs:List (κ×Value)}(r:KV kvs vs)(k:κ):(kvs.any fun kv=>decide (kv.1=k))=vs.any fun kv=>decide (kv.1=k):=by
 unfold KV at r
 induction r with
 |nil=>rfl
 |cons h t ih=>rw[Rn,Rn,ih,h.1]
theorem KV.repl{kvs:List (κ×V)}{vs:List (κ×Value)}(r:KV kvs vs)(k:κ){y:V}{u:Value}(ry:RelV y u):
  KV (kvs.map fun kv=>if kv.1=k then(kv.1,y)else kv) (vs.map fun kv=>if kv.1=k then(kv.1,u)else kv):=by
 unfold KV at r⊢
 induction r with
 |nil=>exact .nil
 | @cons p q ps qs h t ih=>
  rw[qM,qM]
  refine .cons ?_ ih
  obtain⟨h1,h2⟩:=h
  by_cases e:p.1=k
  ·rw[ao e,ao (h1.symm.trans e)];exact⟨h1,ry⟩
  ·rw[ak e,ak (fun z=>e (h1.trans z))];exact⟨h1,h2⟩
theorem KV.put{kvs:List (κ×V)}{vs:List (κ×Value)}(r:KV kvs vs)(k:κ){y:V}{u:Value}(ry:RelV y u):KV (putK kvs k y) (stored vs k u):=by
 unfold putK stored
 rw[r.any k]
 by_cases e:(vs.any fun kv=>decide (kv.1=k))=true
 ·rw[ao e,ao e];exact r.repl k ry
 ·rw[ak e,ak e];exact Paired.snoc r ⟨rfl,ry⟩
theorem KV.length{kvs:List (κ×V)}{vs:List (κ×Value)}(r:KV kvs vs):kvs.length=vs.length:=wfb r
end
theorem kV_is{P:Program}{w:World}{k:Key}{u:Value}(r:RelV (kV k) u):(mixKind P w).is k u=true:=by
 cases k with
 |inl i=>obtain⟨t,e⟩:=(show∃t,u=Value.int i t from r);subst e;exact mixKind_int P w i t
 |inr x=>obtain⟨t,e⟩:=(show∃t,u=Value.str x t from r);subst e;exact mixKind_str P w x t
theorem items_are{P:Program}{w:World}:∀{ks:List Key} {us:List Value},Vals (ks.map kV) us->ItemsAre (mixKind P w) ks us
 |[],_,r=>by rw[wgb]at r;cases r;exact .nil
 |k::ks,_,r=>by
  rw[qM]at r
  cases r with
  |cons h t=>exact .cons (kV_is h) (items_are t)
abbrev KT(H:Hp):List (List Key×V)->List (List Key×Addr×Value)->Prop:=Paired fun p q=>p.1=q.1/\H q.2.1=some (.tup (p.1.map kV))/\RelV p.2 q.2.2
theorem KT.val{H:Hp}{kvs:List (List Key×V)}{xs:List (List Key×Addr×Value)}(r:KT H kvs xs)(k:List Key):RelO (valV kvs k) ((atKey xs k).map (·.2)):=by
 induction r with
 |nil=>exact True.intro
 | @cons p q ps qs h t ih=>
  obtain⟨h1,_,h2⟩:=h
  by_cases e:p.1=k
  ·have e':q.1=k:=h1.symm.trans e
   have b:atKey (q::qs) k=some q.2:=by simp[atKey,Wn,e']
   rw[HX e,b];exact h2
  ·have e':¬q.1=k:=fun z=>e (h1.trans z)
   have b:atKey (q::qs) k=atKey qs k:=by simp[atKey,Wn,e']
   rw[HW e,b];exact ih
theorem KT.repl{H:Hp}{kvs:List (List Key×V)}{xs:List (List Key×Addr×Value)}(r:KT H kvs xs)(k:List Key){y:V}{u:Value}(ry:RelV y u):
  KT H (kvs.map fun kv=>if kv.1=k then(kv.1,y)else kv) (xs.map (putAt k u)):=by
 induction r with
 |nil=>exact .nil
 | @cons p q ps qs h t ih=>
  rw[qM,qM]
  refine .cons ?_ ih
  obtain⟨h1,h2,h3⟩:=h
  unfold putAt
  by_cases e:p.1=k
  ·rw[ao e,ao (h1.symm.trans e)];exact⟨h1,h2,ry⟩
  ·rw[ak e,ak (fun z=>e (h1.trans z))];exact⟨h1,h2,h3⟩
theorem KT.put{H:Hp}{kvs:List (List Key×V)}{xs:List (List Key×Addr×Value)}(r:KT H kvs xs)(k:List Key){b:Addr}{y:V}{u:Value}(hb:H b=some (.tup (k.map kV)))(ry:RelV y u):
  KT H (putK kvs k y) (storedH xs k b u):=by
 have e:(kvs.any fun kv=>decide (kv.1=k))=(atKey xs k).isSome:=by
  rw[valV_any,(r.val k).isSome_eq,Option.isSome_map]
 unfold putK storedH
 rw[e]
 by_cases q:(atKey xs k).isSome=true
 ·rw[ao q,ao q];exact r.repl k ry
 ·rw[ak q,ak q];exact Paired.snoc r ⟨rfl,hb,ry⟩
theorem KT.keeps{H H':Hp}{kvs:List (List Key×V)}{xs:List (List Key×Addr×Value)}(r:KT H kvs xs)(ht:∀b ys,H b=some (.tup ys)->H' b=some (.tup ys)):KT H' kvs xs:=
 Paired.mapP r fun _ _ z=>⟨z.1,ht _ _ z.2.1,z.2.2⟩
section
variable{P:Program}{w:World}{H:Hp}{h:Heap}{a:Addr}
theorem rd_of{u:HO}(ok:HOk P w H h)(e:Rd H a u):ObjOk P w H h a u:=e.ok ok
theorem dk_rd{kvs:List (Key×V)}(ok:HOk P w H h)(e:Rd H a (.dK kvs)):kvs.length<=sizeLine/\(a==sysModules)=false/\∃vs,KV kvs vs/\h.DictOf (mixKind P w) a vs:=
 show ObjOk P w H h a (.dK kvs)from rd_of ok e
theorem dk_of{kvs:List (Key×V)}(ok:HOk P w H h)(e:H a=some (.dK kvs)):kvs.length<=sizeLine/\(a==sysModules)=false/\∃vs,KV kvs vs/\h.DictOf (mixKind P w) a vs:=dk_rd ok (.inl e)
theorem key_of{ks:List Key}(ok:HOk P w H h)(e:H a=some (.tup (ks.map kV))):(tupleKind (mixKind P w)).is h ks a:=by
 obtain⟨_,its,r,o,h1,h2,n,h3⟩:=(show ObjOk P w H h a (.tup (ks.map kV))from ok a _ e)
 exact⟨o,its.toArray,n,h1,h2,h3,by simpa using items_are r⟩
theorem dt_rd{kvs:List (List Key×V)}(ok:HOk P w H h)(e:Rd H a (.dT kvs)):kvs.length<=sizeLine/\(a==sysModules)=false/\
  ∃xs,KT H kvs xs/\h.DictOfH (tupleKind (mixKind P w)) a xs:=by
 obtain⟨z,y,xs,r,o,es,ep,h1,h2,h3,h4,h5⟩:=(show ObjOk P w H h a (.dT kvs)from rd_of ok e)
 refine⟨z,y,xs,r,o,es,ep,h1,h2,h3,h4,fun x hx=> ?_,h5⟩
 have all:∀{l:List (List Key×V)} {m:List (List Key×Addr×Value)},KT H l m->∀x∈m,(tupleKind (mixKind P w)).is h x.1 x.2.1:=by
  intro l m q
  induction q with
  |nil=>intro x hx;exact nomatch hx
  | @cons p q ps qs hq t ih=>
   intro x hx
   rcases cW.mp hx with e|hx
   ·subst e
    exact key_of ok (by rw[<-hq.1];exact hq.2.1)
   ·exact ih x hx
 exact all r x hx
theorem dt_of{kvs:List (List Key×V)}(ok:HOk P w H h)(e:H a=some (.dT kvs)):kvs.length<=sizeLine/\(a==sysModules)=false/\
  ∃xs,KT H kvs xs/\h.DictOfH (tupleKind (mixKind P w)) a xs:=dt_rd ok (.inl e)
end
def DGet(H:Hp)(a:Addr)(y:V)(r:Option V):Prop:=
 (∃kvs k,Rd H a (.dK kvs)/\y=kV k/\r=valV kvs k)\/∃kvs k b,Rd H a (.dT kvs)/\y= .ref b/\H b=some (.tup (k.map kV))/\r=valV kvs k
def DPut(H:Hp)(a:Addr)(y v:V)(H':Hp):Prop:=
 (∃kvs k,H a=some (.dK kvs)/\y=kV k/\kvs.length<sizeLine/\H'=upd H a (.dK (putK kvs k v)))\/
 ∃kvs k b,H a=some (.dT kvs)/\y= .ref b/\H b=some (.tup (k.map kV))/\kvs.length<sizeLine/\H'=upd H a (.dT (putK kvs k v))
theorem DGet.t{H:Hp}{a b:Addr}{kvs:List (List Key×V)}{k:List Key}(e:H a=some (.dT kvs))(eb:H b=some (.tup (k.map kV))):DGet H a (.ref b) (valV kvs k):= .inr ⟨kvs,k,b,.inl e,rfl,eb,rfl⟩
theorem DPut.k{H:Hp}{a:Addr}{kvs:List (Key×V)}{k:Key}{v:V}(e:H a=some (.dK kvs))(hl:kvs.length<sizeLine):DPut H a (kV k) v (upd H a (.dK (putK kvs k v))):= .inl ⟨kvs,k,e,rfl,hl,rfl⟩
theorem DPut.t{H:Hp}{a b:Addr}{kvs:List (List Key×V)}{k:List Key}{v:V}(e:H a=some (.dT kvs))(eb:H b=some (.tup (k.map kV)))(hl:kvs.length<sizeLine):
  DPut H a (.ref b) v (upd H a (.dT (putK kvs k v))):= .inr ⟨kvs,k,b,e,rfl,eb,hl,rfl⟩
section
variable{X:Cx}{pins:List (Addr×Obj)}{σ:St}{H:Hp}{s:Shared}{a:Addr}{y v:V}{u r:Value}{o:Option V}{A:Around}{E:Value->Shared->Prop}
theorem Inv.big(I:Inv X pins σ H s):sysModules<s.heap.objs.size:=by
 have h:mainGlobals<s.heap.objs.size:=(I.mod.glob.keeps I.bk).lt
 exact Od (by decide) h
theorem d_getItem{Q:Value->Shared->Prop}(hu:A.units+1<cLine)(I:Inv X pins σ H s)(g:DGet H a y (some v))(ry:RelV y u)(h:∀w' s',Inv X pins σ H s'->RelV v w'->Q w' s'):
  wpAny (model X.prog X.w) A (getItem (.ref a) u) Q E s:=by
 rcases g with⟨kvs,k,e,ey,l⟩|⟨kvs,k,b,e,ey,eb,l⟩
 ·subst ey
  obtain⟨z,hd,vs,rel,dd⟩:=dk_rd I.hok e
  obtain⟨w',hw,rw'⟩:=RelO.some_of (v:=v) (o:=valueAt vs k) (by rw[l];exact rel.val k)
  exact wpAny_getItem_of (kV_is ry) dd.mapOf hw (h w' _ (I.tok _) rw')
 ·subst ey
  cases(show u=Value.ref b from ry)
  obtain⟨z,hd,xs,rel,dd⟩:=dt_rd I.hok e
  obtain⟨w',hw,rw'⟩:=RelO.some_of (v:=v) (o:=(atKey xs k).map (·.2)) (by rw[l];exact rel.val k)
  obtain⟨p,hp,hp2⟩:=Option.map_eq_some_iff.mp hw
  refine wpAny_getItem_heap (tupleKind_room_in1 hu) (key_of I.hok eb) dd hp ?_
  rw[hp2]
  exact h w' _ (I.tok _) rw'
theorem d_write{h':Heap}{t':Nat}{ob:HO}(I:Inv X pins σ H s)(mu:Mut (H a))(hs:Heap.SameBut a s.heap h')(he:∃q,h'.get? a=some q)(new:ObjOk X.prog X.w (upd H a ob) h' a ob):
  Inv X pins σ (upd H a ob) {s with heap:=h',toks:=t'}:=
 I.write (x:=a) (e:=a) mu (.inl rfl) (fun b q hb z=>(hs.2 b hb).trans z) he new
theorem dk_new{P:Program}{w:World}{H':Hp}{h':Heap}{kvs:List (Key×V)}{vs:List (Key×Value)}(z:kvs.length<=sizeLine)(hd:(a==sysModules)=false)(rel:KV kvs vs)(dd:h'.DictOf (mixKind P w) a vs):
  ObjOk P w H' h' a (.dK kvs):=⟨z,hd,vs,rel,dd⟩
theorem d_setItem{H':Hp}{Q:Unit->Shared->Prop}(hu:A.units+1<cLine)(I:Inv X pins σ H s)(g:DPut H a y v H')(ry:RelV y u)(rv:RelV v r)(h:∀s',Inv X pins σ H' s'->Q () s'):
  wpAny (model X.prog X.w) A (setItem (.ref a) u r) Q E s:=by
 rcases g with⟨kvs,k,e,ey,l,eH⟩|⟨kvs,k,b,e,ey,eb,l,eH⟩
 ·subst ey eH
  obtain⟨z,hd,vs,rel,dd⟩:=dk_of I.hok e
  have hz:vs.length<=sizeLine:=by rw[<-rel.length];exact z
  have hl:(putK kvs k v).length<=sizeLine:=by have:=length_putK kvs k v;omega
  refine wpAny_setItem_pairs (hsz:=hz) (kV_is ry) dd fun h' dd' hs=>h _ ?_
  have he:∃q,h'.get? a=some q:=let⟨q,_,_,hq,_⟩:=dd';⟨q,hq⟩
  exact d_write I (by rw[e];exact True.intro) hs he (dk_new hl hd (rel.put k rv) dd')
 ·subst ey eH
  cases(show u=Value.ref b from ry)
  obtain⟨z,hd,xs,rel,dd⟩:=dt_of I.hok e
  have hz:xs.length<=sizeLine:=by rw[<-wfb rel];exact z
  have hl:(putK kvs k v).length<=sizeLine:=by have:=length_putK kvs k v;omega
  refine wpAny_setItem_heap (hsz:=hz) (tupleKind_room_in1 hu) (key_of I.hok eb) dd fun h' dd' hs=>h _ ?_
  obtain⟨q,es,ep,hq,h2,h3,h4,_,h5⟩:=dd'
  refine d_write I (by rw[e];exact True.intro) hs ⟨q,hq⟩ ⟨hl,hd,_,(rel.put k eb rv).keeps fun c ys ec=> ?_,q,es,ep,hq,h2,h3,h4,h5⟩
  rw[cG (ne_of ec e (fun z=>nomatch z))]
  exact ec
end
section
variable{X:Cx}{pins:List (Addr×Obj)}{σ:St}{H:Hp}{s:Shared}{a:Addr}{kvs:List (Key×V)}{k:Key}{u:Value}{A:Around}{E:Value->Shared->Prop}
end
def NoSl(i:Expr):Prop:=∀ov iv,subscripted i false ov iv=operate [ov,iv] (getItem ov iv)
theorem subD_of{prog:Program}{w:World}{A:Around}{E:Value->Shared->Prop}{s:Shared}{env:Env}{value slice:Expr}{pos:Pos}{T id:String}{Q:Value->Shared->Prop}(hl:typeLookup (.type T) "__getitem__"=pure (some (.builtin id)))(hs:NoSl slice)(h:wpAny (model prog w) A (eval value env) (fun o s₁=>wpAny (model prog w) A (eval slice env) (fun i s₂=>s₂.TypeIs o T/\wpAny (model prog w) A (getItem o i) Q E s₂) E s₁) E s):
  wpAny (model prog w) A (eval (.Subscript value slice pos) env) Q E s:=by
 refine Subscript_ (Aq h (fun o s₁ h₁=>Aq h₁ (fun i s₂ h₂=> ?_) fun _ _ x=>x) fun _ _ x=>x)
 obtain⟨hT,h₂⟩:=h₂
 unfold subscriptTail
 refine aA ?_
 rw[getitemInPython_of_ne hT.not_modules]
 refine aA (wpAny_specialOf hT hl ?_)
 have fin:wpAny (model prog w) A (subscripted slice false o i) (fun r s₃=>wpAny (model prog w) A (letTemporaryGo value o r>>=fun _=>pure r) Q E s₃) E s₂:=by
  rw[hs o i]
  exact wpAny_operating (Aq h₂ (fun r s₃ h₃=>aA (wpAny_letTemporaryGo (bC h₃))) fun _ _ x=>x)
 first
  |exact bC (aA fin)
  |exact aA (bC (aA fin))
  |exact aA fin
theorem dict_typeIs{X:Cx}{pins:List (Addr×Obj)}{σ:St}{H:Hp}{s:Shared}{a:Addr}{y:V}{o:Option V}(I:Inv X pins σ H s)(g:DGet H a y o):s.TypeIs (.ref a) "dict":=by
 rcases g with⟨kvs,k,e,_,_⟩|⟨kvs,k,b,e,_,_,_⟩
 ·obtain⟨_,_,vs,_,dd⟩:=dk_rd I.hok e
  exact dd.typeIs
 ·obtain⟨_,_,xs,_,dd⟩:=dt_rd I.hok e
  exact dd.typeIs
def tDGet(td ty:TE):TE:=fun σ H Q=>td σ H fun x H1=>ty σ H1 fun y H2=>∃a v,x= .ref a/\DGet H2 a y (some v)/\Q v H2
def sDPut(td ty tv:TE):TS:=fun D σ H=>tv σ H fun v H1=>td σ H1 fun x H2=>ty σ H2 fun y H3=>∃a H4,x= .ref a/\DPut H3 a y v H4/\D.nx σ H4
section
variable{X:Cx}{o i e value:Expr}{pos pos' tpos:Pos}{td ty tv:TE}
theorem pe_dget(hu:X.A.units+1<cLine)(ho:PE X o td)(hi:PE X i ty)(hs:NoSl i):PE X (.Subscript o i pos) (tDGet td ty):=by
 intro pins s σ H Q I h
 refine subD_of PySem.F.slot_dict_getitem.lookup hs (thn (ho pins s σ H _ I h) fun u s1 ⟨x,H1,I1,rx,q1⟩=>thn (hi pins s1 σ H1 _ I1 q1) fun iv s2 ⟨y,H2,I2,ry,a,v,ex,g,q2⟩=> ?_)
 subst ex
 obtain rfl:u=Value.ref a:=rx
 exact⟨dict_typeIs I2 g,d_getItem hu I2 g ry fun w' s3 I3 rw'=>⟨v,H2,I3,rw',q2⟩⟩
theorem ps_dput(hu:X.A.units+1<cLine)(ho:PE X o td)(hi:PE X i ty)(hv:PE X value tv)(hs:swapsWith value (some (.Subscript o i pos')) pos.line X.env=pure false):
  PS X (.Assign [.Subscript o i pos'] value pos) (sDPut td ty tv):=by
 intro pins s σ H D I h
 refine wpAny_Assign_Subscript (thn (hv pins s σ H _ I h) fun r s1 ⟨v,H1,I1,rv,q1⟩=>thn (ho pins s1 σ H1 _ I1 q1) fun u s2 ⟨x,H2,I2,rx,q2⟩=>thn (hi pins s2 σ H2 _ I2 q2) fun iv s3 ⟨y,H3,I3,ry,a,H4,ex,g,q3⟩=> ?_) hs
 subst ex
 obtain rfl:u=Value.ref a:=rx
 exact d_setItem hu I3 g ry rv fun s4 I4=>⟨σ,H4,I4,q3⟩
end
theorem dk_empty{P:Program}{w:World}{H:Hp}(h:Heap)(hb:sysModules<h.objs.size):ObjOk P w H (h.push {cls:= .type "dict",data:= .dict #[]}) h.objs.size (.dK []):=
 ⟨dJ _,beq_eq_false_iff_ne.mpr (lO (dM hb)),[],.nil,Heap.DictOf.new h⟩
theorem dt_empty{P:Program}{w:World}{H:Hp}(h:Heap)(hb:sysModules<h.objs.size):ObjOk P w H (h.push {cls:= .type "dict",data:= .dict #[]}) h.objs.size (.dT []):=
 ⟨dJ _,beq_eq_false_iff_ne.mpr (lO (dM hb)),[],.nil,_,#[],0,jx _ rfl,⟨rfl,rfl,rfl⟩,rfl,rfl,List.nodup_nil⟩
def tDNewK:TE:=fun _ H Q=>∀p,H p=none->Q (.ref p) (upd H p (.dK []))
def tDNewT:TE:=fun _ H Q=>∀p,H p=none->Q (.ref p) (upd H p (.dT []))
section
variable{X:Cx}{pos:Pos}
theorem pe_dnewK:PE X (.Dict [] [] pos) tDNewK:=fun pins s σ H Q I h=>
 wpAny_Dict_empty ⟨.ref s.heap.objs.size,_,I.laid (a:=s.heap.objs.size) (o:= .dK []) (t':=s.toks) (fun _ _ q=>cO _ q) (aJ _) (dk_empty s.heap I.big),rfl,h _ (I.hok.fresh (aJ _))⟩
theorem pe_dnewT:PE X (.Dict [] [] pos) tDNewT:=fun pins s σ H Q I h=>
 wpAny_Dict_empty ⟨.ref s.heap.objs.size,_,I.laid (a:=s.heap.objs.size) (o:= .dT []) (t':=s.toks) (fun _ _ q=>cO _ q) (aJ _) (dt_empty s.heap I.big),rfl,h _ (I.hok.fresh (aJ _))⟩
end
end L2
namespace PySem
namespace F
end F
section
variable{prog:Program}{w:World}{A:Around}{E:Value->Shared->Prop}{s:Shared}
end
end PySem
namespace L2
open PySem PySem.Spec PyProof.Rows
section
variable{X:Cx}{tg:Expr}
end
section
variable{X:Cx}
theorem u9(hc:X.calm=true):CallR X (.builtin "min") (fun xs H Q=>∃(a:Addr) (ns:List Int),xs=[.ref a]/\SqL X.K H a (ns.map V.int)/\ns≠[]/\∀m∈ns,(∀n∈ns,m<=n)->Q (.int m) H):=by
 intro pins s σ H xs us Q I r h
 obtain⟨a,ns,rfl,hS,hne,q⟩:=h
 obtain⟨u,rfl,ru⟩:=r.one
 cases ru
 obtain⟨vs,rv,pl,hz⟩:=I.list hS
 have hl:=pl.isList
 have hlt:a<s.heap.objs.size:=by obtain⟨_,e,_⟩:=hl;exact cZ e
 have hlen:=rv.length
 rw[aF]at hlen
 have hI:∀(i:Nat) (v:Value),vs.toArray[i]? =some v->∃t,v= .int (ns.getD i 0) t:=fun i v hv=>by
  have hv':vs[i]? =some v:=by simpa using hv
  have hi:i<ns.length:=by have:=(lC.mp hv').1;omega
  have hn:(ns.map V.int)[i]? =some (.int (ns.getD i 0)):=by rw[cg,gH hi,jC,gH hi];rfl
  obtain⟨u,hu,ru⟩:=rv.get hn
  rw[hv']at hu
  cases hu
  obtain⟨t,rfl⟩:=ru
  exact⟨t,rfl⟩
 refine call_min_walk (TV hl ?_)
 refine⟨s.heap.objs.size,[s.heap.objs.size,a],[s.heap.objs.size],vs.toArray.size,_,_,_,rfl,Tz (A:=X.A.in1) (I.ok.hd hc) _ a (dM hlt) vs.toArray,
  ⟨⟨_,jx _ rfl,rfl,rfl⟩,hl.push _⟩,?_,?_,CmpOf.ints_lt (fun i=>ns.getD i 0) hI,fun v h' tk hP hk=> ?_⟩
 ·intro b hb
  show b<(s.heap.push _).objs.size
  rw[Aj]
  rcases cW.mp hb with rfl|hb
  ·exact oR _
  ·rw[fZ.mp hb];exact qz hlt
 ·rw[fL,<-hlen];exact Xm.mpr hne
 ·obtain⟨t,rfl⟩:=hI _ v hP
  obtain⟨h1,h2⟩:=argBest_lt (fun i=>ns.getD i 0) (vs.toArray.size-1)
  have hn0:0<ns.length:=Xm.mpr hne
  have hb:argBest (fun i j=>decide (ns.getD i 0<ns.getD j 0)) (vs.toArray.size-1)<ns.length:=by
   have:vs.toArray.size=ns.length:=by rw[fL];omega
   omega
  refine⟨.int _,H,I.kept (LSm.kept_iter hk),⟨t,rfl⟩,q _ ?_ fun n hn=> ?_⟩
  ·rw[jC,gH hb];exact I9 hb
  ·obtain⟨j,hj,rfl⟩:=uG hn
   have:=h2 j (by rw[fL];omega)
   rw[jC (i:=j),gH hj]at this
   exact this
end
end L2
namespace PySem
section
variable{prog:Program}{w:World}{Ky:Type} [DecidableEq Ky]{knd:KeyKind prog w Ky}{A:Around}{E:Value->Shared->Prop}{s:Shared}
end
end PySem
namespace L2
open PySem PySem.Spec PyProof.Rows
section
variable{X:Cx}
end
end L2
namespace L2
open PySem
end L2
namespace PySem
namespace F
end F
end PySem
namespace PySem
section
variable{prog:Program}{w:World}{A:Around}{E:Value->Shared->Prop}{s:Shared}
end
end PySem
namespace PySem
section
variable{prog:Program}{w:World}{A:Around}{E:Value->Shared->Prop}{s:Shared}
end
end PySem
namespace PySem
section
variable{prog:Program}{w:World}{A:Around}{E:Value->Shared->Prop}{s:Shared}
end
end PySem
namespace L2
open PySem PySem.Spec PyProof.Rows
section
variable{prog:Program}{w:World}{A:Around}{E:Value->Shared->Prop}{s:Shared}
end
section
variable{prog:Program}{w:World}{A:Around}{R:Result->Shared->Prop}{I:Addr}{fp wr:List Addr}{G:Array GenState->Array GenState->Prop}{n:Nat}{P:Nat->Value->Prop}{St:Nat->Shared->Prop}
end
section
variable{prog:Program}{w:World}{A:Around}{E:Value->Shared->Prop}{s:Shared}
end
end L2
namespace rB
open PySem PySem.W PyProof.Rows PySem.Calls
section
variable{prog:Program}{w:World}{A:Around}{E:Value->Shared->Prop}{s:Shared}
end
end rB
namespace L2
open PySem PySem.Spec PyProof.Rows
section
variable{prog:Program}{w:World}{A:Around}{E:Value->Shared->Prop}{s:Shared}
end
end L2
namespace rB
open PySem PySem.W PyProof.Rows PySem.Calls
section
variable{prog:Program}{w:World}{A:Around}{E:Value->Shared->Prop}{s:Shared}
end
end rB
namespace L2
open PySem PySem.Spec PyProof.Rows
section
variable{X:Cx}{a:Expr}{ta:TA}{p p' pos pos':Pos}
end
section
variable{prog:Program}{w:World}{A:Around}{E:Value->Shared->Prop}{s:Shared}
end
section
variable{X:Cx}{o e:Expr}{to:TE}{t:TA}{apos cpos:Pos}
end
section
variable{X:Cx}{e e1 e2:Expr}{es:List Expr}{te:TE}{pos:Pos}
end
section
variable{X:Cx}{e:Expr}{te:TE}{pos:Pos}
end
section
variable{X:Cx}{tg l:Expr}{tl:TE}
end
section
variable{g:TG}{tc:TT}{te:TE}{Fin:List V->Hp->Prop}{ini:St}{H:Hp}
end
end L2
namespace aaJ
open PySem PySem.StrLaws PySem.Builtin.Str
section
variable{c:Nat}{ys:List Nat}
end
end aaJ
namespace DH
open PySem PySem.W PyProof.Rows PySem.Calls
section
variable{prog:Program}{w:World}{A:Around}{E:Value->Shared->Prop}{s:Shared}{d it:Addr}{es:Array DictEntry}{ep i:Nat}
end
section
variable{M:Model}{A:Around}{E:Value->Shared->Prop}{s:Shared}
end
section
variable{prog:Program}{w:World}{A:Around}{E:Value->Shared->Prop}{s:Shared}
end
section
variable{prog:Program}{w:World}{A:Around}{E:Value->Shared->Prop}{s:Shared}{d:Addr}{es:Array DictEntry}{ep:Nat}
end
end DH
namespace L2
open PySem PySem.Spec PyProof.Rows
section
variable{X:Cx}
end
end L2
namespace DH
open PySem PySem.W PyProof.Rows PySem.Calls
section
variable{prog:Program}{w:World}{K:Type} [DecidableEq K]{knd:HeapKind prog w K}{A:Around}{E:Value->Shared->Prop}{s:Shared}
end
end DH
namespace L2
open PySem PySem.Spec PyProof.Rows
section
variable{X:Cx}
end
section
variable{X:Cx}
def Yk:R2:=fun x y H Q=>∃a b xs ys,x= .ref a/\y= .ref b/\H a=some (.tup xs)/\H b=some (.tup ys)/\xs.length+ys.length<=sizeLine/\∀r H',Same H H'->H' r=some (.tup (xs++ys))->Q (.ref r) H'
theorem P0:OpR X (binaryOp .Add) Yk:=by
 intro pins s σ H x y v u Q I rx ry h
 obtain⟨a,b,xs,ys,rfl,rfl,ha,hb,hz,q⟩:=h
 by_cases hx:xs=[]
 ·subst hx
  cases rx
  cases ry
  obtain⟨its,r1,p1,_⟩:=I.tuple (SqT.of (K:=X.K) ha)
  obtain⟨its2,r2,p2,_⟩:=I.tuple (SqT.of (K:=X.K) hb)
  cases r1
  obtain⟨⟨cls,dd,data,sl⟩,ho,hc,n,hd⟩:=id p1
  obtain⟨⟨cls2,dd2,data2,sl2⟩,ho2,hc2,n2,hd2⟩:=id p2
  simp only at hc hd hc2 hd2
  subst hc hd hc2 hd2
  exact wga ⟨_,ho,rfl⟩ ⟨_,ho2,rfl⟩ wde wff wcb wbz (wbx _ _)
   (tuple_addW0 a b _ _ n n2 dd dd2 sl sl2 (by simp)) ⟨ho,ho2,⟨.ref b,H,I,rfl,q b H (Same.refl _) hb⟩⟩
 ·refine op_catT pins s σ H _ _ v u Q I rx ry ⟨a,b,xs,ys,rfl,rfl,SqT.of ha,SqT.of hb,hx,hz,fun e=> ?_,fun e p hp=> ?_⟩
  ·subst e
   exact q a H (Same.refl _) (by rw[uF];exact ha)
  ·exact q p _ (fun c o e=>by rw[cG (lN e hp)];exact e) aH
end
def sX(X:Cx)(scope:Scope)(s:Shared)(f:Addr)(cdv:Value):Env:=PySem.W.envX (X.env.qual++"<lambda>") scope s.heap.objs.size f cdv (cT X.env.cells scope.names [])
def Ey(X:Cx)(A:Around)(N:List Str)(s:Shared)(H:Hp)(env:Env):Cx:=
 {X with A:=A.deeper env,N:=N,s₀:=s,H₀:=H,env:=env,outer:=X.stack,stack:=env::X.stack,ex:=[],fn:=fun _=>false,calm:=true,pn:=[],xe:=fun _ _=>False}
def BR(ix:List Nat)(σ:St)(v:V):St:=some v::ix.map fun j=>(σ[j]?).join
section
variable{X:Cx}{scope:Scope}{caps:List Str}{ix:List Nat}{y:Str}{A:Around}{pins:List (Addr×Obj)}{σ:St}{H:Hp}{s:Shared}{f:Addr}{cdv:Value}{v:V}{u:Value}
theorem Ho{s':Shared}(ck:aU X.env.scope scope=true)(hkind:scope.kind= .function)(hcap:jw X scope caps ix)(hy:scope.names.lookup y=some .local)(hhd:A.handled=none)(hfr:A.frames=some X.stack)
  (I:Inv X pins σ H s)(rv:RelV v u)(hos:s'.os=s.os)(hg:AllBare s'.gens)(hk:∀b o,s.heap.get? b=some o->s'.heap.get? b=some o)(hn:s'.heap.Ns s.heap.objs.size (fun x=>[(y,u)].reverse.lookup x)):
  Inv (Ey X A (y::caps) s H (sX X scope s f cdv)) [] (BR ix σ v) H s':=by
 have cl1:∀x c,(cT X.env.cells scope.names []).lookup x=some c->X.env.cells.lookup x=some c:=fun x c e=>by
  rcases fK (uH e)with q|⟨q,mm⟩
  ·cases q
  ·obtain⟨d,hd⟩:=I.ok.has x (aU.free ck mm)
   rw[hd]at q
   rw[hd,q];rfl
 have cl2:∀x,(x,NameKind.free)∈scope.names->∃c,(cT X.env.cells scope.names []).lookup x=some c:=fun x mm=>by
  obtain⟨c,hc⟩:=n6 (cells:=X.env.cells) (acc:=[]) mm
  obtain⟨d,hd,_⟩:=Wj hc
  exact⟨d,hd⟩
 have bsz:X.base.objs.size<=s.heap.objs.size:=bZ I.ok.bsz I.sz
 refine⟨⟨I.ok.mod,hkind,rfl,rfl,aJ _,fun x y c h1 h2=>I.ok.inj x y c (cl1 x c h1) (cl1 y c h2),fun x hx=> ?_,fun x c h=>(nomatch h),fun _=>hhd,Around.frames_deeper hfr,.inr ⟨rfl,rfl⟩,fun b hb=>(nomatch hb),I.bs,bsz,
  fun b o e hb=>(nomatch hb),fun b hb=>(nomatch hb),I.stack,I.stkFree⟩,hos,hg,Un.kept hk,⟨_,hn,fun i x w h1 h2 h3=> ?_⟩,fun x c e=> ?_,I.hok.fresh (aJ _),fun x c e=>I.freeC x c (cl1 x c e),fun p hp=>absurd (show p∈([]:List (Addr×Obj))from hp) (by simp),I.hok.kept hk,?_⟩
 ·have hx:scope.names.lookup x=some .cell\/scope.names.lookup x=some .free:=hx
  rcases hx with q|q
  ·exact absurd rfl (aU.cell ck _ (uH q))
  ·exact cl2 x (uH q)
 ·have h1:(y::caps)[i]? =some x:=h1
  have h2:(some v::ix.map fun j=>(σ[j]?).join)[i]? =some (some w):=h2
  cases i with
  |zero=>
   have h1:some y=some x:=h1
   have h2:some (some v)=some (some w):=h2
   cases h1
   cases h2
   exact⟨u,rv,.inl ⟨hy,by simp[FN]⟩⟩
  |succ i=>
   rw[List.getElem?_cons_succ]at h1 h2
   obtain⟨j,e1,e2,e3⟩:=hcap.get h1
   rw[cg,e1]at h2
   have h2':(σ[j]?).join=some w:=by simpa using h2
   have h4:σ[j]? =some (some w):=by
    cases q:σ[j]? with
    |none=>rw[q]at h2';cases h2'
    |some w=>rw[q]at h2';exact jy some h2'
   obtain⟨m0,hn0,hl0⟩:=I.loc
   have mm:=uH e3
   have vis:=aU.free ck mm
   obtain⟨u,r,l⟩:=hl0 j x w e2 h4 (.inr vis)
   refine⟨u,r,.inr ?_⟩
   rcases l with⟨k,_⟩|⟨k,c,e,z⟩
   ·rcases vis with q|q
    ·rw[show X.env.kindOf x=some .cell from q]at k;cases k
    ·rw[show X.env.kindOf x=some .free from q]at k;cases k
   ·obtain⟨d,hd⟩:=cl2 x mm
    have:=cl1 x d hd
    rw[e]at this
    cases this
    exact⟨.inr e3,c,hd,z.keeps hk⟩
 ·obtain⟨v,z⟩:=I.cell x c (cl1 x c e)
  exact⟨v,z.keeps hk⟩
 ·show(some v::ix.map fun j=>(σ[j]?).join).length=(y::caps).length
  simp[hcap.len]
theorem QD{k:Nat}{Q:VK}{te:TE}{params:Arguments}{body:Expr}{pm ctv:Value}{c':Addr}(ck:aU X.env.scope scope=true)(hkind:scope.kind= .function)(hcap:jw X scope caps ix)(hy:scope.names.lookup y=some .local)(hco:scope.isCoroutine=false)(hgen:scope.isGenerator=false)(hr:Room (k+1) A)(hfr:A.frames=some X.stack)(he:PE (Ey X A (y::caps) s H (sX X scope s f (.ref c'))) body te)(I:Inv X pins σ H s)(rv:RelV v u)(ho:s.heap.get? f=some (PySem.W.kla_obj "<lambda>" (X.env.qual++"<lambda>") params body scope (cT X.env.cells scope.names []) pm c' ctv))(hcd:s.heap.CodeRec (.ref c') (X.env.qual++"<lambda>"))(hbind:∀(q:Str) (cl:List (Str×Addr)) (pm cd ct u:Value),bindArgs (PySem.W.kla_fn "<lambda>" q params body scope cl pm cd ct) ⟨[u],[]⟩=pure [(y,u)])(hq:te (BR ix σ v) H Q):
  wpAny (model X.prog X.w) A (call (.ref f) [u]) (EP X pins σ fun v H'=>Q v H'/\∀b o u,H b=some (.frz o u)->H' b=some (.frz o u)) (fun _ _=>False) s:=by
 refine wpAny_call (PySem.W.kla_callFunE hr.depth ho rfl hco hgen rfl hcd ?_)
 rw[hbind]
 refine bC (wpAny_newFunctionEnv (aU.cell ck) (fun z hz=>by rw[fZ.mp hz];exact hy) (fun h₁ hns hsb=>⟨I.nolimit.fresh _ hsb,?_⟩) hkind)
 have hk₁:∀b o,s.heap.get? b=some o->h₁.get? b=some o:=fun b o e=>hsb.extBut b o (dM (cZ e)) (cO _ e)
 show codeAny _ _ (.expr body (sX X scope s f (.ref c'))) _ _
 have I':=Ho (A:=A) (f:=f) (cdv:= .ref c') (s':={s with heap:=h₁,toks:=s.toks+[(y,u)].length}) ck hkind hcap hy hr.hd hfr I rv rfl I.bare hk₁ hns
 refine PySem.W.kla_codeExpr (Aq (he [] _ _ _ _ I' hq) (fun v' s' z=> ?_) fun _ _ z=>z.elim)
 obtain⟨x,H',J,r,q⟩:=z
 exact I.after ⟨x,H',J.os,J.bare,J.base,J.hok,r,q,J.base.frzs⟩
end
def iU(H:Hp)(P:Addr)(pos:Pos)(qual:Str):Prop:=H P=some (.tbl #[])\/∃(c':Addr) (oc:Obj) (vs:Array Value) (tq:Tok),H P=some (.tbl #[rawInt pos.line,rawInt pos.col,.ref c'])/\H c'=some (.frz oc (.own 0))/\oc.data= .fields vs/\vs[1]? =some (.str qual tq)
structure zZ(base:Heap)(mg:Str->Option Value)(c P:Addr):Prop where
 hd:PySem.W.CodeHd base c P
 blt:base.BuiltinsAt mg P
 ne:mainGlobals≠P
theorem BuiltinsAt.keeps{h h':Heap}{mg:Str->Option Value}{P:Addr}(x:h.BuiltinsAt mg P)(k:∀b o,h.get? b=some o->h'.get? b=some o):h'.BuiltinsAt mg P:=
 let⟨bm,o,a,b,c,d,e,r⟩:=x;⟨bm,o,a,b,c,d,k _ _ e,r⟩
section
variable{X:Cx}{scope:Scope}{pins:List (Addr×Obj)}{σ:St}{H:Hp}{s:Shared}{c P:Addr}{pos:Pos}{params:Arguments}{body:Expr}{A:Around}{E:Value->Shared->Prop}{Q:Value->Shared->Prop}
theorem Ls(I:Inv X pins σ H s)(L:zZ X.base X.mg c P)(hcode:X.env.code= .ref c)(hT:iU H P pos (X.env.qual++"<lambda>"))(ck:aU X.env.scope scope=true)(hdef:defaultsOf params X.env=([],[]))(h:∀(f c':Addr) (pm ctv:Value) (H':Hp) (s':Shared),Inv X pins σ H' s'->(∀b o,b≠P->H b=some o->H' b=some o)->iU H' P pos (X.env.qual++"<lambda>")->s'.heap.get? f=some (PySem.W.kla_obj "<lambda>" (X.env.qual++"<lambda>") params body scope (cT X.env.cells scope.names []) pm c' ctv)->
   H' f=none->s.heap.objs.size<=f->(∃(oc:Obj) (vs:Array Value) (tq:Tok),H' c'=some (.frz oc (.own 0))/\oc.data= .fields vs/\vs[1]? =some (.str (X.env.qual++"<lambda>") tq))->Q (.ref f) s'):
  wpAny (model X.prog X.w) A (eval (.Lambda params body scope pos) X.env) Q E s:=by
 refine PySem.W.kla_eval hdef ?_
 have hcl:closureFor scope X.env=pure (cT X.env.cells scope.names []):=jt fun x hx=>I.ok.has x (aU.free ck hx)
 have hg:s.heap.Ns mainGlobals X.mg:=I.mod.glob.keeps I.bk
 have C:=L.hd.keeps I.bk
 have B:=BuiltinsAt.keeps L.blt I.bk
 rcases hT with hT|⟨c',oc,vs,tq,hT,hC,hd,hv⟩
 ·have hP:s.heap.get? P=some (PySem.W.tabObj #[]):=I.hok P _ hT
  refine PySem.W.kla_makeFunction (ps:=#[]) hcl I.ok.glob hg hcode C hP trivial rfl L.ne B fun c' ctv h' tk hx hge hlt hrec htb=> ?_
  obtain⟨c₂,oc,vs,tq,e2,hoc,hd,hv⟩:=id hrec
  cases e2
  have cP:c'≠P:=xX (iJ (cZ hP) hge)
  have old:∀b o,s.heap.get? b=some o->b≠c':=fun b o e=>dM (iJ (cZ e) hge)
  have hc0:H c'=none:=I.hok.fresh hge
  have kp:∀b o,b≠P->s.heap.get? b=some o->(h'.push (PySem.W.kla_obj "<lambda>" (X.env.qual++"<lambda>") params body scope (cT X.env.cells scope.names []) ((X.mg "__name__").getD .none) c' ctv)).get? b=some o:=fun b o hb e=>cO _ (hx b o hb e)
  have nP:∀b o,H b=some o->o≠.tbl #[]->b≠P:=fun b o e n z=>by rw[z,hT]at e;cases e;exact n rfl
  have eH:∀b,b≠P->b≠c'->upd (upd H P (.tbl (#[]++#[rawInt pos.line,rawInt pos.col,.ref c']))) c' (.frz oc (.own 0)) b=H b:=fun b h1 h2=>by rw[cG h2,cG h1]
  have eP:upd (upd H P (.tbl (#[]++#[rawInt pos.line,rawInt pos.col,.ref c']))) c' (.frz oc (.own 0)) P=some (.tbl (#[]++#[rawInt pos.line,rawInt pos.col,.ref c'])):=by rw[cG cP.symm,aH]
  have J:Inv X pins σ (upd (upd H P (.tbl (#[]++#[rawInt pos.line,rawInt pos.col,.ref c']))) c' (.frz oc (.own 0))) {s with heap:=h'.push (PySem.W.kla_obj "<lambda>" (X.env.qual++"<lambda>") params body scope (cT X.env.cells scope.names []) ((X.mg "__name__").getD .none) c' ctv),toks:=tk}:=by
   refine I.un (h':=h'.push _) (t':=tk) ⟨fun b o e n hb he=>kp b o (fun z=>by rw[z,hT]at n;cases n) e,fun b o e n hb he=>⟨o.slots,kp b o (fun z=>by rw[z,hT]at n;cases n) e⟩,fun b o e n he=> ?_,fun b o e he=> ?_,fun b xs e=> ?_,fun b o u e=> ?_,fun b ps e=> ?_⟩ fun b u e=> ?_
   ·rw[eH b (fun z=>by rw[z,hT]at n;cases n) (old b o e)];exact n
   ·by_cases hb:b=P
    ·subst hb;exact⟨_,cO _ htb⟩
    ·exact⟨o,kp b o hb e⟩
   ·rw[eH b (nP b _ e (fun z=>nomatch z)) (lN e hc0)];exact e
   ·rw[eH b (nP b _ e (fun z=>nomatch z)) (lN e hc0)];exact e
   ·by_cases hb:b=P
    ·subst hb;rw[hT]at e;cases e;exact⟨_,eP⟩
    ·exact⟨#[],by rw[eH b hb (lN e hc0),e];simp⟩
   ·by_cases hb:b=P
    ·subst hb
     rw[eP]at e
     cases e
     exact cO _ htb
    ·by_cases hb2:b=c'
     ·subst hb2
      rw[aH]at e
      cases e
      exact⟨cO _ hoc,⟨_,cO _ hoc⟩⟩
     ·rw[eH b hb hb2]at e
      have ow:∀z,H z=some (.own b)->z≠P/\z≠c':=fun z e=>⟨nP z _ e (fun q=>nomatch q),lN e hc0⟩
      refine(I.hok b u e).stay (fun z o hz q=>kp z o ?_ q) (fun z q=>by rw[eH z (ow z q).1 (ow z q).2];exact q) fun z xs q=>by rw[eH z (nP z _ q (fun q=>nomatch q)) (lN q hc0)];exact q
      rcases hz with hz|hz
      ·rw[hz];exact hb
      ·exact(ow z hz).1
  have hsz:s.heap.objs.size<=h'.objs.size:=dH (xQ hge hlt)
  refine h h'.objs.size c' _ ctv _ _ J (fun b o hb e=>by rw[eH b hb (lN e hc0)];exact e) (.inr ⟨c',oc,vs,tq,by rw[eP];simp,aH,hd,hv⟩) (jx _ rfl) ?_ hsz ⟨oc,vs,tq,aH,hd,hv⟩
  rw[eH _ (xX (iJ (cZ hP) hsz)) (xX hlt)]
  exact I.hok.fresh hsz
 ·have hP:s.heap.get? P=some (PySem.W.tabObj #[rawInt pos.line,rawInt pos.col,.ref c']):=I.hok P _ hT
  have hc:s.heap.get? c'=some oc:=(I.hok c' _ hC).1
  refine PySem.W.kla_makeFunctionHit (ps:=#[rawInt pos.line,rawInt pos.col,.ref c']) (cv:= .ref c') hcl I.ok.glob hg hcode C hP trivial (by simp[codeAmong,rawInt]) B fun ctv h' tk hk hsz=> ?_
  have kp:∀b o,s.heap.get? b=some o->(h'.push {cls:= .type "function",data:= .func (PySem.W.kla_fn "<lambda>" (X.env.qual++"<lambda>") params body scope (cT X.env.cells scope.names []) ((X.mg "__name__").getD .none) (.ref c') ctv)}).get? b=some o:=fun b o e=>cO _ (hk b o e)
  exact h h'.objs.size c' _ ctv H _ (I.kept (h':=h'.push _) (t':=tk) kp) (fun b o _ e=>e) (.inr ⟨c',oc,vs,tq,hT,hC,hd,hv⟩) (jx _ rfl) (I.hok.fresh hsz) hsz ⟨oc,vs,tq,hC,hd,hv⟩
end
structure pL(X:Cx)(pins:List (Addr×Obj))(I:Addr):Prop where
 lo:X.s₀.heap.objs.size<=I
 loc:I≠X.env.locals
 fs:I∉X.fs
 cl:∀x c,X.env.cells.lookup x=some c->c≠I
 pn:∀p∈X.pn++pins,p.1≠I
section
variable{X:Cx}{σ:St}{H:Hp}{s:Shared}{pins:List (Addr×Obj)}
theorem pL.new{I:Addr}(J:Inv X pins σ H s)(h:s.heap.objs.size<=I):pL X pins I:=by
 refine⟨bZ J.sz h,xX (iJ J.lt h),J.nofs h,fun x c e=> ?_,fun p hp=>dM (iJ (cZ (J.pin p hp).1) h)⟩
 obtain⟨v,o,ho,_⟩:=J.cell x c e
 exact dM (iJ (cZ ho) h)
theorem Inv.qj{p:Addr×Obj}(J:Inv X (p::pins) σ H s):Inv X pins σ H s:=J.pins_of fun q hq=>J.pin q (jc _ (eE _ hq))
theorem Inv.yH{I:Addr}{o o':Obj}{h':Heap}{tk:Nat}(J:Inv X ((I,o)::pins) σ H s)(m:pL X pins I)(k:∀b x,b≠I->s.heap.get? b=some x->h'.get? b=some x)(e:h'.get? I=some o')(d:∀v,o'.data≠.cell v):
  Inv X ((I,o')::pins) σ H {s with heap:=h',toks:=tk}:=by
 have hI:=J.pin (I,o) (jc _ cX)
 have K:=(J.qj).turned (t':=tk) (it:=I) k hI.2.1 m.loc (.inr m.lo) m.cl m.pn
 refine K.pins_of fun q hq=> ?_
 rcases cW.mp hq with z|z
 ·subst z;exact⟨e,hI.2.1,m.loc,m.fs,d⟩
 ·exact K.pin q (jc _ z)
theorem Inv.swap{p q:Addr×Obj}(J:Inv X (p::q::pins) σ H s):Inv X (q::p::pins) σ H s:=J.pins_of fun r hr=>J.pin r (jc _ (by
 rcases cW.mp hr with z|z
 ·rw[z];exact eE _ cX
 ·rcases cW.mp z with z|z
  ·rw[z];exact cX
  ·exact eE _ (eE _ z)))
theorem pL.under{I:Addr}{p:Addr×Obj}(m:pL X pins I)(n:p.1≠I):pL X (p::pins) I:=⟨m.lo,m.loc,m.fs,m.cl,fun q hq=>by
 rcases iW.mp hq with z|z
 ·exact m.pn q (Jc _ z)
 ·rcases cW.mp z with z|z
  ·rw[z];exact n
  ·exact m.pn q (jc _ z)⟩
theorem wg{a:Array Value}{k:Nat}(T:String):∀v,(seqObj T a k).data≠.cell v:=fun v z=>by
 have z':Data.seq a k=Data.cell v:=z
 cases z'
variable{I S f l:Addr}{fo:Obj}{vs:List Value}{RR:Result->Shared->Prop}
theorem Qp(kf:Nat->Int)(R:Nat->Hp->Prop)(hA:X.A.handled=none)(mI:pL X ((f,fo)::pins) I)(mS:pL X ((f,fo)::pins) S)(Sd:S≠I)(R6:l≠I)(hl:∀j H s,Inv X ((f,fo)::pins) σ H s->R j H->s.heap.IsList l vs.toArray)(turn:∀j v (ps:List (Addr×Obj)) H s,vs[j]? =some v->Inv X ps σ H s->(f,fo)∈ps->R j H->wpAny (model X.prog X.w) X.A.in1 (call (.ref f) [v]) (fun u s'=>∃H' t,u= .int (kf j) t/\Inv X ps σ H' s'/\R (j+1) H') (fun _ _=>False) s)(hR:∀i v H' s',vs[i]? =some v->(∀j,j<vs.length->kf i<=kf j/\(j<i->kf i<kf j))->Inv X pins σ H' s'->R vs.length H'->RR (.ok (.ret v)) s'):
  ∀(r j i:Nat) (H:Hp) (s:Shared) (vb:Value) (tb:Tok) (c:Nat) (oI:Obj),vs.length-(j+1)=r->j+1<=vs.length->Inv X ((I,oI)::(S,seqObj "list" #[vb,.int (kf i) tb] c)::(f,fo)::pins) σ H s->R (j+1) H->s.heap.IsListIter I l (j+1)->vs[i]? =some vb->i<=j->(∀j',j'<=j->kf i<=kf j'/\(j'<i->kf i<kf j'))->
   codeAny (model X.prog X.w) X.A (.builtin "min.loop" ⟨[.ref I,.ref f,.ref S],[]⟩) RR s:=by
 have nm:(toString "min"++toString ".loop":String)="min.loop":=by decide
 have W:=Tz (prog:=X.prog) (w:=X.w) (A:=X.A.in1) hA I l R6 vs.toArray
 have zs:vs.toArray.size=vs.length:=fL ..
 have m2:∀o,pL X ((S,o)::(f,fo)::pins) I:=fun o=>mI.under (p:=(S,o)) Sd
 have m3:∀o,pL X ((I,o)::(f,fo)::pins) S:=fun o=>mS.under (p:=(I,o)) Sd.symm
 intro r
 induction r with
 |zero=>
  intro j i H s vb tb c oI hr hj J Y8 hit hvb hij hbest
  have pS:=(J.pin _ (jc _ (eE _ cX))).1
  refine N6 wcw (by
   rw[way T3 _]
   show wpAny _ X.A.in1 (seqItems? (.ref S)>>=_) _ _ _
   refine aA (FW pS rfl (?_))
   show wpAny _ X.A.in1 (tryCatch (pyNext (.ref I)) _>>=_) _ _ _
   refine aA (Ik (W.done _ _ _ ⟨by rw[zs,<-show j+1=vs.length by omega];exact hit,hl (j+1) H s J.qj.qj Y8⟩ fun h' tk' hk'=> ?_))
   have k1:∀b x,b≠I->s.heap.get? b=some x->h'.get? b=some x:=fun b x hb e=>hk' b x (fun z=>hb (fZ.mp z)) e
   have pI:=J.pin (I,oI) (jc _ cX)
   have J1:Inv X ((S,seqObj "list" #[vb,.int (kf i) tb] c)::(f,fo)::pins) σ H {s with heap:=h',toks:=tk'}:=J.qj.turned (t':=tk') (it:=I) k1 pI.2.1 mI.loc (.inr mI.lo) mI.cl (m2 _).pn
   have g:=(J1.pin _ (jc _ cX)).1
   show wpAny _ X.A.in1 (updateSeq S (fun _=>#[])>>=_) _ _ _
   refine aA (TF g rfl (aA (N5 (bC ?_))))
   have sb:=Jj h' S (Obj.mapSeq fun _=>(#[]:Array Value))
   have J2:=(J1.yH (o':=seqObj "list" #[] _) (tk:=tk') mS (fun b x hb e=>(sb.2 b hb).trans e) (Om g fun _=>#[]) (wg _))
   exact hR i vb H _ hvb (fun j' hj'=>hbest j' (by omega)) J2.qj.qj (by rw[<-show j+1=vs.length by omega];exact Y8))
 |succ r ih=>
  intro j i H s vb tb c oI hr hj J Y8 hit hvb hij hbest
  have hlt:j+1<vs.length:=by omega
  have pS:=(J.pin _ (jc _ (eE _ cX))).1
  refine N6 wcw (by
   rw[way T3 _]
   show wpAny _ X.A.in1 (seqItems? (.ref S)>>=_) _ _ _
   refine aA (FW pS rfl (?_))
   show wpAny _ X.A.in1 (tryCatch (pyNext (.ref I)) _>>=_) _ _ _
   refine aA (Ik (W.item (j+1) _ _ _ (by rw[zs];exact hlt) ⟨hit,hl (j+1) H s J.qj.qj Y8⟩ fun v h' tk' hP hst' hk'=> ?_))
   have hv:vs[j+1]? =some v:=(by simpa using hP)
   have k1:∀b x,b≠I->s.heap.get? b=some x->h'.get? b=some x:=fun b x hb e=>hk' b x (fun z=>hb (fZ.mp z)) e
   obtain⟨oI',hoI,hoc,hod⟩:=id hst'.1
   have J1:=J.yH (o':=oI') (tk:=tk') (m2 _) k1 hoI (fun v z=>by rw[hod]at z;cases z)
   show wpAny _ X.A.in1 (tryCatch (holding [v] (call (.ref f) [v])) _>>=_) _ _ _
   refine aA (Ik (Ak (Aq (turn (j+1) v _ H _ hv J1 (eE _ (eE _ cX)) Y8) (fun u s2 z=> ?_) fun _ _ z=>z.elim)))
   obtain⟨H2,t2,rfl,J2,hR2⟩:=z
   have hit2:s2.heap.IsListIter I l (j+1+1):=⟨oI',(J2.pin _ (jc _ cX)).1,hoc,hod⟩
   have g:=(J2.pin _ (jc _ (eE _ cX))).1
   show wpAny _ X.A.in1 (tryCatch (holding [v,.int (kf (j+1)) t2] (richCompare .Lt (.int (kf (j+1)) t2) (.int (kf i) tb)>>=_)) _>>=_) _ _ _
   refine aA (Ik (Ak (aA (CmpOf.ints_lt (prog:=X.prog) (w:=X.w) (A:=X.A.in1) (P:=fun i v=>∃t,v= .int (kf i) t) kf (fun i v h=>h) (j+1) i _ _ _ _ _ ⟨t2,rfl⟩ ⟨tb,rfl⟩ (aA (Ak (Ji (aA (N5 (bC ?_))))))))))
   by_cases hb:kf (j+1)<kf i
   ·have sb:=Jj s2.heap S (Obj.mapSeq fun _=>#[v,.int (kf (j+1)) t2])
    simp only[hb,decide_true,NT]
    refine aA (TF g rfl (aA (N5 ?_)))
    rw[nm]
    have J3:=(J2.swap.yH (o':=seqObj "list" #[v,.int (kf (j+1)) t2] _) (tk:=s2.toks) (m3 _) (fun b x hb e=>(sb.2 b hb).trans e) (Om g fun _=>#[v,.int (kf (j+1)) t2]) (wg _)).swap
    refine bC ⟨Ol T3 _,ih (j+1) (j+1) H2 _ v t2 _ oI' (by omega) hlt J3 hR2 ⟨oI',(J3.pin _ (jc _ cX)).1,hoc,hod⟩ hv (aJ _) fun j' hj'=> ?_⟩
    by_cases e:j'=j+1
    ·subst e;exact⟨uE _,fun z=>absurd z (oK _)⟩
    ·have q:=(hbest j' (by omega)).1
     exact⟨by omega,fun _=>by omega⟩
   ·simp only[hb,decide_false,wco,Tt]
    refine aA (N5 (?_))
    rw[nm]
    refine bC ⟨Ol T3 _,ih (j+1) i H2 _ vb tb c oI' (by omega) hlt J2 hR2 hit2 hvb (by omega) fun j' hj'=> ?_⟩
    by_cases e:j'=j+1
    ·subst e;exact⟨by omega,fun z=>by omega⟩
    ·exact hbest j' (by omega))
theorem Lg{Q:Value->Shared->Prop}{E:Value->Shared->Prop}(kf:Nat->Int)(R:Nat->Hp->Prop)(hA:X.A.handled=none)(hne:0<vs.length)(J:Inv X ((f,fo)::pins) σ H s)(Y9:R 0 H)(hl:∀j H s,Inv X ((f,fo)::pins) σ H s->R j H->s.heap.IsList l vs.toArray)(turn:∀j v (ps:List (Addr×Obj)) H s,vs[j]? =some v->Inv X ps σ H s->(f,fo)∈ps->R j H->wpAny (model X.prog X.w) X.A.in1 (call (.ref f) [v]) (fun u s'=>∃H' t,u= .int (kf j) t/\Inv X ps σ H' s'/\R (j+1) H') (fun _ _=>False) s)(hQ:∀i v H' s',vs[i]? =some v->(∀j,j<vs.length->kf i<=kf j/\(j<i->kf i<kf j))->Inv X pins σ H' s'->R vs.length H'->Q v s'):
  wpAny (model X.prog X.w) X.A (call (.builtin "min") [.ref l] [(Str.ofString "key",.ref f)]) Q E s:=by
 have nm:(toString "min"++toString ".loop":String)="min.loop":=by decide
 have hls:=hl 0 H s J Y9
 obtain⟨ol,hol,_⟩:=id hls
 have R6:l≠s.heap.objs.size:=dM (cZ hol)
 refine kmb_tree PySem.F.kind_min PySem.F.plain_min PySem.F.entry_min (kmb_min_key _ _) (by
  show wpAny _ X.A.in1 (Builtin.Builtins.bindParams "min" ["key","default"] 0 ⟨[],[(Str.ofString "key",.ref f)]⟩>>=_) _ _ s
  refine aA (wpAny_of_eq (show Builtin.Builtins.bindParams "min" ["key","default"] 0 ⟨[],[(Str.ofString "key",.ref f)]⟩=pure [some (.ref f),none]from rfl) (aA (bC (aA (TV hls (aA (Wy ?_ (dJ _))))))))
  rw[nm]
  have zS:(s.heap.push {cls:= .type "list_iterator",data:= .fields #[.ref l,.int 0 0]}).objs.size=s.heap.objs.size+1:=size_push' ..
  rw[zS]
  have k0:∀b o,s.heap.get? b=some o->((s.heap.push {cls:= .type "list_iterator",data:= .fields #[.ref l,.int 0 0]}).push (seqObj "list" #[] 0)).get? b=some o:=fun b o e=>cO _ (cO _ e)
  have gI0:((s.heap.push {cls:= .type "list_iterator",data:= .fields #[.ref l,.int 0 0]}).push (seqObj "list" #[] 0)).get? s.heap.objs.size=some {cls:= .type "list_iterator",data:= .fields #[.ref l,.int 0 0]}:=cO _ (jx _ rfl)
  have gS:((s.heap.push {cls:= .type "list_iterator",data:= .fields #[.ref l,.int 0 0]}).push (seqObj "list" #[] 0)).get? (s.heap.objs.size+1)=some (seqObj "list" #[] 0):=by rw[<-zS];exact jx _ rfl
  have mI:=pL.new J (aJ _)
  have mS:=pL.new J (Af s.heap.objs.size)
  have Sd:s.heap.objs.size+1≠s.heap.objs.size:=xX (oR _)
  have Jk:Inv X ((f,fo)::pins) σ H {s with heap:=(s.heap.push {cls:= .type "list_iterator",data:= .fields #[.ref l,.int 0 0]}).push (seqObj "list" #[] 0),toks:=s.toks}:=J.kept k0
  have JI:Inv X ((s.heap.objs.size,{cls:= .type "list_iterator",data:= .fields #[.ref l,.int 0 0]})::(s.heap.objs.size+1,seqObj "list" #[] 0)::(f,fo)::pins) σ H {s with heap:=(s.heap.push {cls:= .type "list_iterator",data:= .fields #[.ref l,.int 0 0]}).push (seqObj "list" #[] 0),toks:=s.toks}:=Jk.pins_of fun q hq=>by
   rcases cW.mp hq with z|z
   ·subst z;exact⟨gI0,J.hok.fresh (aJ _),mI.loc,mI.fs,fun v z=>by have z':Data.fields #[Value.ref l,.int 0 0]=Data.cell v:=z;cases z'⟩
   ·rcases cW.mp z with z|z
    ·subst z;exact⟨gS,J.hok.fresh (Af _),mS.loc,mS.fs,wg _⟩
    ·exact Jk.pin q (jc _ z)
  have W:=Tz (prog:=X.prog) (w:=X.w) (A:=X.A.in1) hA s.heap.objs.size l R6 vs.toArray
  refine bC ⟨Ol T3 _,N6 wcw ?_⟩
  rw[way T3 _]
  show wpAny _ X.A.in1 (seqItems? (.ref (s.heap.objs.size+1))>>=_) _ _ _
  refine aA (FW gS rfl (?_))
  show wpAny _ X.A.in1 (tryCatch (pyNext (.ref s.heap.objs.size)) _>>=_) _ _ _
  refine aA (Ik (W.item 0 _ _ _ (by rw[fL];exact hne) ⟨⟨_,gI0,rfl,rfl⟩,hl 0 H _ Jk Y9⟩ fun v h' tk' hP hst' hk'=> ?_))
  have hv:vs[0]? =some v:=(by simpa using hP)
  obtain⟨oI',hoI,hoc,hod⟩:=id hst'.1
  have J1:=JI.yH (o':=oI') (tk:=tk') (mI.under (p:=(s.heap.objs.size+1,seqObj "list" #[] 0)) Sd) (fun b x hb e=>hk' b x (fun z=>hb (fZ.mp z)) e) hoI (fun v z=>by rw[hod]at z;cases z)
  show wpAny _ X.A.in1 (tryCatch (holding [v] (call (.ref f) [v])) _>>=_) _ _ _
  refine aA (Ik (Ak (Aq (turn 0 v _ H _ hv J1 (eE _ (eE _ cX)) Y9) (fun u s2 z=> ?_) fun _ _ z=>z.elim)))
  obtain⟨H2,t2,rfl,J2,hR2⟩:=z
  have g:=(J2.pin _ (jc _ (eE _ cX))).1
  have sb:=Jj s2.heap (s.heap.objs.size+1) (Obj.mapSeq fun _=>#[v,.int (kf 0) t2])
  show wpAny _ X.A.in1 (updateSeq (s.heap.objs.size+1) (fun _=>#[v,.int (kf 0) t2])>>=_) _ _ _
  refine aA (TF g rfl ?_)
  rw[nm]
  have J3:=(J2.swap.yH (o':=seqObj "list" #[v,.int (kf 0) t2] _) (tk:=s2.toks) (mS.under (p:=(s.heap.objs.size,oI')) Sd.symm) (fun b x hb e=>(sb.2 b hb).trans e) (Om g fun _=>#[v,.int (kf 0) t2]) (wg _)).swap
  exact bC ⟨Ol T3 _,Qp kf R hA mI mS Sd R6 hl turn hQ _ 0 0 H2 _ v t2 _ oI' rfl hne J3 hR2 ⟨oI',(J3.pin _ (jc _ cX)).1,hoc,hod⟩ hv (aJ _) fun j' hj'=>by
   have e:j'=0:=by omega
   subst e
   exact⟨uE _,fun z=>absurd z (oK _)⟩⟩)
end
def Ow(K:W.Frag)(P:Addr)(pos:Pos)(qual:Str)(ix:List Nat)(ta:TA)(te:TE):TE:=fun σ H Q=>ta σ H fun vs H1=>∃(l:Addr) (its:List (Addr×List Int)),vs=[.ref l]/\SqL K H1 l (its.map fun p=>V.ref p.1)/\its≠[]/\iU H1 P pos qual/\
 ∃(kf:Nat->Int) (R:Nat->Hp->Prop),(∀H2,(∀b o,b≠P->H1 b=some o->H2 b=some o)->iU H2 P pos qual->R 0 H2)/\(∀j H,R j H->SqL K H l (its.map fun p=>V.ref p.1))/\
  (∀j p H,its[j]? =some p->R j H->te (BR ix σ (.ref p.1)) H fun v H'=>v= .int (kf j)/\R (j+1) H')/\
  ∀i p H,its[i]? =some p->(∀j,j<its.length->kf i<=kf j/\(j<i->kf i<kf j))->R its.length H->Q (.ref p.1) H
theorem uI:∀{its:List (Addr×List Int)} {us:List Value},Vals (its.map fun p=>V.ref p.1) us->us=its.map fun p=>Value.ref p.1
 |[],_,h=>by cases h;rfl
 |p::its,_,h=>by
  cases h with
  |cons r t=>rw[uI t];cases r;rfl
section
variable{X:Cx}{a body:Expr}{ta:TA}{te:TE}{p kp pos YB:Pos}{k:Nat}{scope:Scope}{caps:List Str}{ix:List Nat}{y:Str}{params:Arguments}{c P:Addr}
theorem Gv(L:zZ X.base X.mg c P)(hcode:X.env.code= .ref c)(hc:X.calm=true)(hr:Room (k+2) X.A)(hg:Gl X "min")(hm:X.mg "min"=none)(ha:PA X [a] ta)(hcap:jw X scope caps ix)(he:∀s H f cd,Room k (Ey X X.A.in1 (y::caps) s H (sX X scope s f cd)).A->PE (Ey X X.A.in1 (y::caps) s H (sX X scope s f cd)) body te)(ck:aU X.env.scope scope=true:=by rfl)(hkind:scope.kind= .function:=by rfl)(hy:scope.names.lookup y=some .local:=by rfl)(hco:scope.isCoroutine=false:=by rfl)(hgen:scope.isGenerator=false:=by rfl)(hdef:defaultsOf params X.env=([],[]):=by rfl)(hbind:∀(q:Str) (cl:List (Str×Addr)) (pm cd ct u:Value),bindArgs (PySem.W.kla_fn "<lambda>" q params body scope cl pm cd ct) ⟨[u],[]⟩=pure [(y,u)]:=by intros;rfl)(he1:backTo pos (starEach [a] X.env)=(false,eval a X.env)::backTo pos (starEach [] X.env):=by rfl)(hp:(backTo pos (starEach [a] X.env)).any (·.1)=false:=by rfl):PE X (.Call (.Name "min" p) [a] [⟨some "key",.Lambda params body scope YB,kp⟩] pos) (Ow X.K P YB (X.env.qual++"<lambda>") ix ta te):=by
 intro pins s σ H Q I h
 refine Oq (ld_blt I hg hm (show bootBuiltins "min"=some (.builtin "min")from by decide+kernel) ?_ (by decide) (by decide))
 refine wet (thn (ha pos pins s σ H _ I h) fun us s1 ⟨vs,H1,I1,r1,q1⟩=>kws_cons ?_) he1 hp
 obtain⟨l,its,e,hq,hne,hL,kf,R,Y9,hRl,hturn,q⟩:=q1
 subst e
 cases r1 with
 |cons r rr=>
  cases rr
  cases r
  refine Ls (params:=params) (body:=body) I1 L hcode hL ck hdef fun f c' pm ctv H2 s2 I2 hS hL2 ho hf hge hrec=>kws_nil ?_
  have mF:=pL.new I1 hge
  have J:Inv X ((f,PySem.W.kla_obj "<lambda>" (X.env.qual++"<lambda>") params body scope (cT X.env.cells scope.names []) pm c' ctv)::pins) σ H2 s2:=I2.pins_of fun z hz=>by
   rcases cW.mp hz with z|z
   ·subst z;exact⟨ho,hf,mF.loc,mF.fs,fun v z=>nomatch z⟩
   ·exact I2.pin _ (jc _ z)
  obtain⟨oc,ocv,tq,hC,hd,hv⟩:=hrec
  have YD:(its.map fun p=>Value.ref p.1).length=its.length:=aF _
  show wpAny (model X.prog X.w) X.A (call (.builtin "min") [.ref l] [(Str.ofString "key",.ref f)]) (EP X pins σ Q) X.xe s2
  refine Lg (vs:=its.map fun p=>Value.ref p.1) kf (fun j H=>R j H/\H c'=some (.frz oc (.own 0))) (I.ok.hd hc) (by rw[YD];exact Xm.mpr hne) J ⟨Y9 H2 hS hL2,hC⟩ (fun j H s J hj=> ?_) (fun j v ps H s hv' J hm hj=> ?_) fun i v H' s' hv' hb J hj=> ?_
  ·obtain⟨ws,rv,pl,hz⟩:=J.list (hRl j H hj.1)
   rw[uI rv]at pl
   exact pl.isList
  ·rw[cg]at hv'
   cases ej:its[j]? with
   |none=>rw[ej]at hv';cases hv'
   |some p=>
    rw[ej]at hv'
    cases hv'
    have hf:=(J.pin _ (jc _ hm)).1
    have hcd:s.heap.CodeRec (.ref c') (X.env.qual++"<lambda>"):=⟨c',oc,ocv,tq,rfl,(J.hok c' _ hj.2).1,hd,hv⟩
    refine Aq (QD (A:=X.A.in1) (v:= .ref p.1) ck hkind hcap hy hco hgen hr.in1 J.env0.in1.frames (he _ _ _ _ (hr.in1.deeper _)) J rfl hf hcd hbind (hturn j p H ej hj.1)) (fun u s' z=> ?_) fun _ _ z=>z.elim
    obtain⟨w,H',J',rw',⟨rfl,hR'⟩,hfz⟩:=z
    obtain⟨t,rfl⟩:=rw'
    exact⟨H',t,rfl,J',hR',hfz _ _ _ hj.2⟩
  ·rw[cg]at hv'
   cases ei:its[i]? with
   |none=>rw[ei]at hv';cases hv'
   |some p=>
    rw[ei]at hv'
    cases hv'
    rw[YD]at hb hj
    exact⟨.ref p.1,H',J,rfl,q i p H' ei hb hj.1⟩
end
def Fq(T:Addr)(H:Hp):Prop:=H T=some (.tbl #[])/\∀b,b≠T->H b=none\/∃o xs,H b=some (.frz o (.lst xs))
theorem Hl{P:Program}{w:World}{K:W.Frag}{mg mb:Str->Option Value}{CX:CXT}{k:Nat}{fa a c T:Addr}{fd:FuncData}{x:Str}{sp:Sp}{s₁:Shared}{vs:List Value}{ns:List Int}
  (KX:K.In s₁.heap)(hT:PySem.W.CodeHd s₁.heap c T)(hT0:s₁.heap.get? T=some (PySem.W.tabObj #[]))(Zb:K.lookup T=none)(hbm:∃bm ob,mg "__builtins__"=some (.ref bm)/\bm≠builtinsNs/\s₁.heap.get? bm=some ob/\ob.cls= .type "module"/\ob.dict=some builtinsNs/\ob.data= .plain)(hns:s₁.heap.Ns mainGlobals mg)(hb:s₁.heap.Ns builtinsNs mb)(hbb:∀x:Str,x≠"__name__"->mb x=bootBuiltins x)(hlim:s₁.heap.NoLimit)(hg:s₁.gens=#[])(ha:s₁.heap.get? a=some {cls:= .type "list",data:= .seq vs.toArray})(hi:IntsAre vs ns)(hl:ns.length<=sizeLine)(hr:Room k callerA)
  (F:∀base:Heap,K.In base->base.Ns mainGlobals mg->zZ base mg c T->FnOk P w K mg base CX k fa fd [x] sp)(hbind:∀(s:Shared) (u:Value),BindsTo s fd ⟨[u],[]⟩ [(x,u)])(hsp:∀H:Hp,Fq T H->SqL K H a (ns.map V.int)->sp [.ref a] H (fun v _=>v= .bl true) fun _ _ _=>False)(hCX:∀H e s',CX [] H s₁ (fun _ _ _=>False) e s'->False):
  codeAny (model P w) callerA (.call (.ref fa) ⟨[.ref a],[]⟩) (fun r s'=>r= .ok (.ret (.bool true))/\OldK s₁.heap s'.heap/\s'.os=s₁.os/\AllBare s'.gens) s₁:=by
 have rv:=vals_ints hi
 have lenV:=hi.length
 have aT:a≠T:=fun e=>by rw[e,hT0]at ha;cases ha
 have core:∀H:Hp,Fq T H->SqL K H a (ns.map V.int)->HOk P w H s₁.heap->(∀b,H b≠none->b=a\/b=T)->(H a≠none->K.lookup a=none)->
   codeAny (model P w) callerA (.call (.ref fa) ⟨[.ref a],[]⟩) (fun r s'=>r= .ok (.ret (.bool true))/\OldK s₁.heap s'.heap/\s'.os=s₁.os/\AllBare s'.gens) s₁:=by
  intro H hO hS hok hA hK
  have base_of:∀{b:Addr} {o:Obj},s₁.heap.get? b=some o->H b=none->(hidT s₁.heap H).get? b=some o:=fun e n=>hidT_get e n
  have noA:∀{b:Addr} {o:Obj},s₁.heap.get? b=some o->(∀vs n,o.data≠.seq vs n)->o.cls≠.none->H b=none:=fun{b o} e d d2=>by
   cases q:H b with
   |none=>rfl
   |some u=>
    rcases hA b (by rw[q];simp)with e'|e'
    ·subst e'
     rw[ha]at e;cases e
     exact absurd rfl (d _ _)
    ·subst e'
     rw[hT0]at e;cases e
     exact absurd rfl d2
  have noD:∀{b:Addr} {o:Obj} {es:Array DictEntry} {ep:Nat},s₁.heap.get? b=some o->o.data= .dict es ep->H b=none:=fun{b o es ep} e d=>by
   cases q:H b with
   |none=>rfl
   |some u=>
    rcases hA b (by rw[q];simp)with e'|e'
    ·subst e'
     rw[ha]at e;cases e
     have d':Data.seq vs.toArray _=Data.dict es ep:=d
     cases d'
    ·subst e'
     rw[hT0]at e;cases e
     have d':Data.fields (#[]:Array Value)=Data.dict es ep:=d
     cases d'
  have nsK:∀{b:Addr} {m:Str->Option Value},s₁.heap.Ns b m->(hidT s₁.heap H).Ns b m:=fun{b m} ⟨o,es,ep,e,d,r⟩=>⟨o,es,ep,base_of e (noD e d),d,r⟩
  have hKb:K.In (hidT s₁.heap H):=fun b o e=>base_of (KX b o e) (by
   cases q:H b with
   |none=>rfl
   |some u=>
    rcases hA b (by rw[q];simp)with e'|e'
    ·subst e'
     rw[hK (by rw[q];simp)]at e;cases e
    ·subst e'
     rw[Zb]at e;cases e)
  have gT:mainGlobals≠T:=fun z=>by
   obtain⟨o,es,ep,e,d,_⟩:=hns
   rw[z,hT0]at e
   cases e
   have d':Data.fields (#[]:Array Value)=Data.dict es ep:=d
   cases d'
  have hM:Mod K mg (hidT s₁.heap H):=⟨hKb,nsK hns,⟨mb,nsK hb,hbb⟩,let⟨mc,h1,h2⟩:=hlim;⟨mc,nsK h1,h2⟩⟩
  have hLB:zZ (hidT s₁.heap H) mg c T:=by
   refine⟨?_,?_,gT⟩
   ·obtain⟨o,vs,file,tf,flags,tg,inF,text,tt,e1,r1,r2,r⟩:=hT
    exact⟨o,vs,file,tf,flags,tg,inF,text,tt,base_of e1 (noA e1 (fun vs n z=>by rw[r2]at z;cases z) (by rw[r1];exact fun z=>nomatch z)),r1,r2,r⟩
   ·obtain⟨bm,ob,b1,b2,b3,b4,b5,b6⟩:=hbm
    refine⟨bm,ob,b1,b2,fun z=> ?_,fun z=> ?_,base_of b3 (noA b3 (fun vs n z=>by rw[b6]at z;cases z) (by rw[b4];exact fun z=>nomatch z)),b4,b5,b6⟩
    ·obtain⟨o,es,ep,e,d,_⟩:=hns
     rw[<-z,b3]at e;cases e;rw[b6]at d;cases d
    ·rw[z,hT0]at b3;cases b3;cases b4
  have e0:Env0 P w K mg (hidT s₁.heap H) callerA [] s₁ H:=⟨rfl,hM,fun b o e=>of_hidT e,Ah (hidT_size _ _),trivial,fun b hb=>absurd (show b∈([]:List Addr)from hb) (by simp),hok,.of_eq hg⟩
  refine XD ((F _ hKb (nsK hns) hLB).run callerA [] s₁ H ⟨[.ref a],[]⟩ [.ref a] [.ref a] _ _ hr e0 (hbind s₁ (.ref a)) (.cons rfl .nil) (hsp H hO hS)) fun r s' h=> ?_
  cases r with
  |error e=>exact(hCX H e s' h).elim
  |ok fl=>
   cases fl with
   |next=>exact False.elim h
   |brk=>exact False.elim h
   |cont=>exact False.elim h
   |ret u=>
    obtain⟨v,H',os,bare,un,hok',r',q⟩:=h
    have q':v= .bl true:=q
    subst q'
    obtain rfl:u=Value.bool true:=r'
    refine⟨rfl,⟨fun b o e=> ?_,fun b o e=>un.there b o e (by simp)⟩,os,bare⟩
    by_cases hbT:b=T
    ·subst hbT
     obtain⟨more,z⟩:=un.tbls b _ hO.1
     have z2:s'.heap.get? b=some (PySem.W.tabObj (#[]++more)):=hok' b _ z
     rw[hT0]at e
     cases e
     exact .inr (.inl ⟨(hT.tab hT0).isCodeTable,rfl,#[],more,rfl,z2⟩)
    ·refine .inl ?_
     cases q:H b with
     |none=>exact un.keep b o e q (by intro z;exact absurd (show b∈([]:List Addr)from z) (by simp)) (by simp)
     |some u=>
      rcases hO.2 b hbT with z|⟨ob,xs,z⟩
      ·rw[q]at z;cases z
      ·have z2:=un.frzs b ob _ z
       obtain⟨e1,_⟩:=hok b _ z
       obtain⟨e2,_⟩:=hok' b _ z2
       rw[e]at e1;cases e1
       exact e2
 cases hk:K.lookup a with
 |some o=>
  have e:=KX a o hk
  rw[ha]at e
  cases e
  refine core (fun b=>if b=T then some (.tbl #[])else none) ⟨ao rfl,fun b hb=> .inl (ak hb)⟩ (.inr ⟨_,vs.toArray,_,hk,rfl,rfl,rfl,by rw[fL,lenV];exact hl,by simpa using rv⟩) (fun b u z=> ?_) (fun b z=> ?_) fun z=>absurd (ak aT) z
  ·by_cases hb:b=T
   ·have z':=(ao hb).symm.trans z
    cases z'
    subst hb
    exact hT0
   ·have z':=(ak hb).symm.trans z
    cases z'
  ·by_cases hb:b=T
   ·exact .inr hb
   ·exact absurd (ak hb) z
 |none=>
  refine core (fun b=>if b=T then some (.tbl #[])else if b=a then some (.frz {cls:= .type "list",data:= .seq vs.toArray} (.lst (ns.map V.int)))else none) ⟨ao rfl,fun b hb=> ?_⟩ (.inl (.inr ⟨{cls:= .type "list",data:= .seq vs.toArray},(ak aT).trans (ao rfl)⟩)) (fun b u z=> ?_) (fun b z=> ?_) fun _=>hk
  ·by_cases hba:b=a
   ·exact .inr ⟨_,_,(ak hb).trans (ao hba)⟩
   ·exact .inl ((ak hb).trans (ak hba))
  ·by_cases hb:b=T
   ·have z':=(ao hb).symm.trans z
    cases z'
    subst hb
    exact hT0
   ·by_cases hba:b=a
    ·have z':=((ak hb).trans (ao hba)).symm.trans z
     cases z'
     subst hba
     exact⟨ha,by rw[aF];exact hl,vs,_,rv,ha⟩
    ·have z':=((ak hb).trans (ak hba)).symm.trans z
     cases z'
  ·by_cases hb:b=T
   ·exact .inr hb
   ·by_cases hba:b=a
    ·exact .inl hba
    ·exact absurd ((ak hb).trans (ak hba)) z
theorem Jl{l:PySem.W.OpenLaw}{n k:Nat}{q:Program}{loose:List Str}{XP:(Str->Option Value)->Heap->Prop}{YP:World->Heap->Prop}{d:DefRec}{K:Params->PySem.W.Frag}{CX:CXT}{sp:Addr->PySem.W.Frag->Sp}{x:Str}{c T:Addr}(hn:l.most=some n)(hn2:n<=sizeLine)(hdf:d.params.defaults=[])(hr:Room k callerA)(hY:∀(w:World) (h:Heap),YP w h->(K w.params).In h/\h.get? T=some (PySem.W.tabObj #[]))(hc:∀w:World,PySem.W.codeHdIn (K w.params) c T=true)(Zb:∀w:World,(K w.params).lookup T=none)
  (F:∀(w:World) (mg:Str->Option Value) (fa:Addr) (h:Heap),(K w.params).In h->h.Ns mainGlobals mg->mg d.name=some (.ref fa)->
   ∃fd:FuncData,(∀(s:Shared) (u:Value),BindsTo s fd ⟨[u],[]⟩ [(x,u)])/\
    ∀base:Heap,(K w.params).In base->base.Ns mainGlobals mg->zZ base mg c T->FnOk l.prog w (K w.params) mg base CX k fa fd [x] (sp T (K w.params)))(hsp:∀(K:W.Frag) (H:Hp) (a:Addr) (ns:List Int),ns.length<=n->Fq T H->SqL K H a (ns.map V.int)->sp T K [.ref a] H (fun v _=>v= .bl true) fun _ _ _=>False)(hCX:∀(H:Hp) (s:Shared) (e:Value) (s':Shared),CX [] H s (fun _ _ _=>False) e s'->False):
  PySem.W.WalkO q loose XP YP l.row.toRowW d [] (fun f vs=>PySem.call f vs):=by
 refine Att.attach_call hn hdf fun w s₀ s₁ mg mb fa o pm cd doc a vs ns G Y ho hd hcd hmg hobj hints hlen hg=> ?_
 obtain⟨KX,hT0⟩:=hY w _ Y
 obtain⟨fd,hb,hF⟩:=F w mg fa _ KX G.T.g hmg
 exact Hl KX (PySem.W.codeHd_of_K KX (hc w)) hT0 (Zb w) G.T.bmain G.T.g G.T.b G.T.builtins G.T.nolimit hg hobj hints (bZ hlen hn2) hr hF hb (fun H hO hS=>hsp (K w.params) H a ns hlen hO hS) fun H e s'=>hCX H s₁ e s'
theorem Fun.okC{P:Program}{w:World}{K:W.Frag}{mg:Str->Option Value}{base:Heap}{x qual:Str}{st:Stmt}{f c:Addr}{fd:FuncData}{N ps:List Str}{k:Nat}{sp:Sp}(F:Fun K x qual st f fd)(hcd:fd.code= .ref c)(S:FnScope N ps (defScope st))(len:∀vs H Q E,sp vs H Q E->vs.length=ps.length)(hbody:∀(A:Around) (outer:List Env) (s:Shared) (H:Hp) (vs:List V) (Q:VK) (E:XK),Room k (A.deeper (envOfC qual (defScope st) s.heap.objs.size f (.ref c)))->sp vs H Q E->
   ∃t,PSs (cxOf CX0 P w K mg base N qual (defScope st) f (.ref c) A outer s H E).nox (defBody st) t/\t {nx:=fun _ H'=>Q .non H',rt:=Q} (start N vs) H):FnOk P w K mg base CX0 (k+1) f fd ps sp:=by
 obtain⟨oc,od,kV,doc,pm,an,cdv,ct,osl,rfl,lk,hcd'⟩:=F.ex
 have e:cdv= .ref c:=hcd
 subst e
 refine fn_of lk hcd' S len fun A outer s H vs Q E hr hsp=> ?_
 obtain⟨t,h,q⟩:=hbody A outer s H vs Q E hr hsp
 exact⟨t,h.nox,q⟩
end L2
namespace DH
open PySem PySem.W PyProof.Rows PySem.Calls
section
variable{prog:Program}{w:World}{A:Around}{E:Value->Shared->Prop}{s:Shared}{d it v:Addr}{es:Array DictEntry}{ep i:Nat}
end
end DH
namespace L2
open PySem PySem.Spec PyProof.Rows
section
variable{X:Cx}{pins aaM:List (Addr×Obj)}{σ σ0:St}{H H0:Hp}{s s0:Shared}{d:Addr}{kvs:List (List Key×V)}{o:Obj}
end
section
variable{d:Addr}{o:Obj}{kvs:List (List Key×V)}{g:TG}{tc:TT}{te:TE}{Fin:List V->Hp->Prop}{ini:St}{H:Hp}
end
def isK(k:Int):Value->Bool
 | .int i _=>i==k
 |_=>false
theorem FZ{i:Int}:∀{n:Nat} {us:List Value},us.length=n->(∀(j:Nat) (u:Value),us[j]? =some u->∃t:Tok,u=Value.int (i+((j:Nat):Int)*1) t)->Vals (((List.range n).map fun(k:Nat)=>i+(k:Int)).map V.int) us:=by
 intro n us hl hi
 have go:∀(us:List Value) (k:Nat),(∀(j:Nat) (u:Value),us[j]? =some u->∃t:Tok,u=Value.int (i+((j+k:Nat):Int)*1) t)->Vals (((List.range' k us.length).map fun(k:Nat)=>i+(k:Int)).map V.int) us:=by
  intro us
  induction us with
  |nil=>intro k _;exact .nil
  |cons u us ih=>
   intro k h
   obtain⟨t,e⟩:=h 0 u rfl
   refine .cons ⟨t,?_⟩ ?_
   ·rw[e]
    show Value.int (i+((0+k:Nat):Int)*1) t=Value.int (i+(k:Int)) t
    congr 1;omega
   ·refine ih (k+1) fun j u hu=> ?_
    obtain⟨t,e⟩:=h (j+1) u (by simpa using hu)
    exact⟨t,by rw[e];congr 1;omega⟩
 have:=go us 0 fun j u hu=>hi j u hu
 rw[hl,<-List.range_eq_range']at this
 exact this
section
variable{X:Cx}{e a b:Expr}{ta:TE}{f:Str}{pos p p' pos':Pos}
theorem PL(K:W.Frag)(he:PE X e ta)(hb:attributeBase e f X.env (eval e X.env)=eval e X.env)(h:X.K=K:=by rfl):PE X (.Attribute e f pos) (tFld K ta f):=by subst h;exact oO he hb
theorem pq:MtM X "list.index" (fun x vs H Q=>∃(l:Addr) (ns:List Int) (k:Int) (j:Nat),x= .ref l/\vs=[.int k]/\H l=some (.lst (ns.map V.int))/\ns[j]? =some k/\(∀i,i<j->ns[i]? ≠some k)/\ns.length<=1000/\Q (.int (j:Nat)) H):=by
 intro pins s σ H x vs v us Q I rx rv h
 obtain⟨l,ns,k,j,rfl,rfl,hH,hj,hno,hb,q⟩:=h
 cases rx
 obtain⟨u,rfl,ru⟩:=rv.one
 obtain⟨t,rfl⟩:=ru
 obtain⟨z,its,n,r,hl,e⟩:=I.lstM hH
 rw[aF]at z hl
 have hI:∀(i:Nat) (v:Value),its[i]? =some v->∃t,v= .int (ns.getD i 0) t/\ns[i]? =some (ns.getD i 0):=fun i v hv=>by
  have hi:i<ns.length:=by have:=(lC.mp hv).1;omega
  have e0:ns[i]? =some (ns.getD i 0):=by rw[jC,gH hi];rfl
  obtain⟨u,hu,ru⟩:=r.get (show(ns.map V.int)[i]? =some (.int (ns.getD i 0)) by rw[cg,e0];rfl)
  rw[hv]at hu
  cases hu
  obtain⟨t,rfl⟩:=ru
  exact⟨t,rfl,e0⟩
 have hj':j<its.length:=by have:=(lC.mp hj).1;omega
 refine NZ F.slot_list_index ⟨_,e,rfl⟩ F.entry_list_index (F.args_list_index_2 _ _)
  (MeetsSeq.list_index l its.toArray n (.int k t) (isK k) (fun y hy=> ?_) j (by simpa using hj') (by omega) ?_ (fun i hi hlt=> ?_)) ⟨e,?_⟩
 ·obtain⟨i,hi,rfl⟩:=uG (show y∈its by simpa using hy)
  obtain⟨t',e',_⟩:=hI i its[i] (gH hi)
  rw[e']
  exact MeetsSeq.EqGives.int _ _ _ _
 ·obtain⟨t',e',e0⟩:=hI j its[j] (gH hj')
  show isK k its[j]=true
  rw[e']
  rw[hj]at e0
  have:k=ns.getD j 0:=rH e0
  show(ns.getD j 0==k)=true
  rw[<-this];exact beq_self_eq_true _
 ·have hi':i<its.length:=by simpa using hi
  obtain⟨t',e',e0⟩:=hI i its[i] (gH hi')
  show isK k its[i]=false
  rw[e']
  show(ns.getD i 0==k)=false
  refine beq_eq_false_iff_ne.mpr fun z=>hno i hlt ?_
  rw[e0,z]
 ·exact⟨.int (j:Nat),H,I.tok _,⟨s.toks,rfl⟩,q⟩
end
section
variable{X:Cx}{a b:Expr}{ta:TA}{p pos p' pos':Pos}
def nM(i:Int)(n:Nat):List Int:=(List.range n).map fun(k:Nat)=>i+(k:Int)
def T8(ta:TA):TE:=fun σ H Q=>ta σ H fun vs H1=>∃i j:Int,vs=[.int i,.int j]/\0<=i/\i<=j/\j<=1000000/\∀l,H1 l=none->Q (.ref l) (upd H1 l (.lst ((nM i (j-i).toNat).map V.int)))
theorem vW(hc:X.calm=true)(YZ:Gl X "list")(YS:X.mg "list"=none)(hg:Gl X "range")(hm:X.mg "range"=none)(ha:PA X [a,b] ta)(hs:starEach [a,b] X.env=[(false,eval a X.env),(false,eval b X.env)]:=by rfl)(hs':starEach [b] X.env=[(false,eval b X.env)]:=by rfl)(hs2:starEach [Expr.Call (.Name "range" p') [a,b] [] pos'] X.env=[(false,eval (Expr.Call (.Name "range" p') [a,b] [] pos') X.env)]:=by rfl):
  PE X (.Call (.Name "list" p) [.Call (.Name "range" p') [a,b] [] pos'] [] pos) (T8 ta):=by
 intro pins s σ H Q I h
 refine Oq (ld_blt I YZ YS (show bootBuiltins "list"=some (.type "list")from by decide+kernel) ?_ (by decide) (by decide))
 refine Jm ?_ hs2 rfl
 rw[hs2]
 refine wcl ?_
 refine Call_ (ld_blt I hg hm Xv (Jm (thn (ha pos' pins s σ H _ I h) fun us s1 ⟨vs,H1,I1,r1,q1⟩=> ?_) (by rw[hs,hs']) (by rw[hs'];rfl)))
 obtain⟨i,j,e,q0,q1,q2,q⟩:=q1
 subst e
 cases r1 with
 |cons r rr=>
  cases rr with
  |cons r' rr=>
   cases rr
   obtain⟨t,rfl⟩:=r
   obtain⟨t',rfl⟩:=r'
   refine call_range_2 ?_
   refine wcx ?_
   have hn:Builtin.Range.rangeSize i j 1=(((j-i).toNat:Nat):Int):=by rw[wfd];split<;>omega
   refine call_list_range (I.ok.hd hc) (wgs ..) (small_one (by omega) (by omega) (by omega) (by omega)) hn (by omega) fun h' tk acc c hk hS hacc=> ?_
   have hv:Vals ((nM i (j-i).toNat).map V.int) acc.toList:=FZ (by rw[Rv];exact hacc.1) (fun k u hu=>hacc.2 k u (by simpa using hu))
   have hz:((nM i (j-i).toNat).map V.int).length<=sizeLine:=by unfold nM;rw[gB];simp;omega
   have I2:Inv X pins σ H1 {s1 with heap:=s1.heap.push {cls:=Value.type "range",data:=Data.fields #[Value.int i t,Value.int j t',Value.int 1 s1.toks]},toks:=s1.toks+1}:=I1.kept fun b o e=>cO _ e
   exact⟨.ref _,_,I2.laid (t':=tk) (o:= .lst ((nM i (j-i).toNat).map V.int)) hk (aJ _) ⟨hz,acc.toList,c,hv,by simpa using hS⟩,rfl,q _ (I2.hok.fresh (aJ _))⟩
end
structure HJ(K:W.Frag)(C:Addr)(x qual:Str)(st:Stmt)(ps:List Str)(f:Addr)(fd:FuncData):Prop where
 F:Fun K x qual st f fd
 b:Binds K fd ps []
 m:Meth K C x f
end L2
namespace L2
open PySem PySem.Spec PyProof.Rows PySem.W
section
variable{X:Cx}
end
end L2
namespace PySem
open Sem (wp)
section
variable{prog:Program}{w:World}{A:Around}{E:Value->Shared->Prop}{s:Shared}
end
section
variable{prog:Program}{w:World}{A:Around}{E:Value->Shared->Prop}{s:Shared}
end
end PySem
namespace L2
open PySem PySem.Spec PyProof.Rows
section
variable{X:Cx}{es:List Expr}{k:Nat}{Gs:Pos}
end
section
variable{ini:St}{H:Hp}{g:TG}{tc:TT}{te:TE}{Fin:List V->Hp->Prop}{K:W.Frag}{a b:Addr}{xs ys:List V}
end
end L2
namespace HT
open PySem PyProof.Rows
section
open PySem.SeqAt
open PySem.AutoSeq1 (wpAny_loadPart')
open PySem.MeetsSeq PySem.MeetsSeq2 PySem.MeetsSeq3
end
section
variable{prog:Program}{w:World}{A:Around}{E:Value->Shared->Prop}{s:Shared}
end
end HT
namespace L2
open PySem PySem.Spec PyProof.Rows
section
variable{X:Cx}
end
end L2
namespace Sx
abbrev Vec:=Nat->Int
abbrev uw:=Nat->Vec
def sm:Nat->(Nat->Int)->Int
 |0,_=>0
 |k+1,f=>sm k f+f k
theorem aW{f g:Nat->Int}:∀k,(∀i,i<k->f i=g i)->sm k f=sm k g
 |0,_=>rfl
 |k+1,h=>by
  show sm k f+f k=sm k g+g k
  rw[aW k fun i hi=>h i (qz hi),h k (oR k)]
theorem jM(f g:Nat->Int):∀k,sm k (fun i=>f i+g i)=sm k f+sm k g
 |0=>rfl
 |k+1=>by
  show sm k (fun i=>f i+g i)+(f k+g k)=sm k f+f k+(sm k g+g k)
  rw[jM f g k];omega
theorem dB(a:Int)(f:Nat->Int):∀k,sm k (fun i=>a*f i)=a*sm k f
 |0=>by show(0:Int)=a*0;rw[Ag]
 |k+1=>by
  show sm k (fun i=>a*f i)+a*f k=a*(sm k f+f k)
  rw[dB a f k,Int.mul_add]
theorem dw{f:Nat->Int}:∀k,(∀i,i<k->f i=0)->sm k f=0
 |0,_=>rfl
 |k+1,h=>by
  show sm k f+f k=0
  rw[dw k fun i hi=>h i (qz hi),h k (oR k)];rfl
theorem eG{f:Nat->Int}{j:Nat}:∀k,j<k->(∀i,i<k->i≠j->f i=0)->sm k f=f j
 |k+1,hj,h=>by
  show sm k f+f k=f j
  by_cases e:j=k
  ·subst e
   rw[dw j fun i hi=>h i (qz hi) (dM hi),wgf]
  ·rw[eG k (by omega) fun i hi=>h i (qz hi),h k (oR k) (lO e),Int.add_zero]
theorem JZ{f:Nat->Int}{j:Nat}:∀k,j+1<k->(∀i,i<k->i≠j->i≠j+1->f i=0)->f j+f (j+1)=0->sm k f=0
 |k+1,hj,h,z=>by
  show sm k f+f k=0
  by_cases e:j+1=k
  ·subst e
   rw[eG (j:=j) (j+1) (oR _) fun i hi hn=>h i (qz hi) hn (dM hi)]
   exact z
  ·rw[JZ k (by omega) (fun i hi=>h i (qz hi)) z,h k (oR k) (by omega) (lO e)];rfl
theorem vJ(f:Nat->Nat->Int)(m:Nat):∀k,sm k (fun i=>sm m (fun j=>f i j))=sm m (fun j=>sm k (fun i=>f i j))
 |0=>by show(0:Int)=sm m fun _=>0;rw[dw m fun _ _=>rfl]
 |k+1=>by
  show sm k (fun i=>sm m (fun j=>f i j))+sm m (fun j=>f k j)=sm m (fun j=>sm k (fun i=>f i j)+f k j)
  rw[vJ f m k,jM]
theorem DY{f:Nat->Int}:∀k,(∀i,i<k->0<=f i)->0<=sm k f
 |0,_=>uE _
 |k+1,h=>Int.add_nonneg (DY k fun i hi=>h i (qz hi)) (h k (oR k))
theorem J0{f:Nat->Int}:∀k,sm k f<0->∃i,i<k/\f i<0
 |0,h=>absurd h (wgu 0)
 |k+1,h=>by
  by_cases c:f k<0
  ·exact⟨k,oR k,c⟩
  ·have h':sm k f+f k<0:=h
   obtain⟨i,hi,hf⟩:=J0 k (f:=f) (by omega)
   exact⟨i,qz hi,hf⟩
theorem DW{f:Nat->Int}:∀k,(∀i,i<k->0<=f i)->sm k f<=0->∀i,i<k->f i=0
 |0,_,_,i,hi=>absurd hi (Ro i)
 |k+1,h,z,i,hi=>by
  have h1:=DY k fun i hi=>h i (qz hi)
  have h2:=h k (oR k)
  have z':sm k f+f k<=0:=z
  by_cases e:i=k
  ·subst e;omega
  ·exact DW k (fun i hi=>h i (qz hi)) (by omega) i (by omega)
def sg(i:Nat):Int:=if i %2=0 then 1 else -1
theorem Oz(i:Nat):sg (i+1)= -sg i:=by
 unfold sg
 rcases Nat.mod_two_eq_zero_or_one i with h|h
 ·rw[ao h,ak (by omega)]
 ·rw[ao (by omega),ak (by omega)];rfl
theorem Ua(i:Nat):sg i=1\/sg i= -1:=by unfold sg;split;exact .inl rfl;exact .inr rfl
def Il(i r:Nat):Nat:=if r<i then r else r+1
def N7(i r:Nat):Nat:=if r<i then r else r-1
theorem J6(i r:Nat):Il i r≠i:=by unfold Il;split<;>omega
theorem qP{i r j:Nat}(h:j≠i):Il i r=j↔r=N7 i j:=by unfold Il N7;split<;>split<;>omega
theorem Bc{i r k:Nat}(hi:i<k+1)(hr:r<k):Il i r<k+1:=by unfold Il;split<;>omega
theorem T5{i j k:Nat}(h:j≠i)(hi:i<k+1)(hj:j<k+1):N7 i j<k:=by unfold N7;split<;>omega
def sS(M:uw)(i:Nat):uw:=fun r c=>M (Il i r) (c+1)
def det:Nat->uw->Int
 |0,_=>1
 |k+1,M=>sm (k+1) fun i=>sg i*M i 0*det k (sS M i)
def put(M:uw)(r:Nat)(v:Vec):uw:=fun i=>if i=r then v else M i
theorem put_same(M:uw)(r:Nat)(v:Vec):put M r v r=v:=by unfold put;rw[ao rfl]
theorem iD(M:uw){r i:Nat}(v:Vec)(h:i≠r):put M r v i=M i:=by unfold put;rw[ak h]
theorem sH(M:uw)(r:Nat):put M r (M r)=M:=by funext i;unfold put;split;rename_i h;rw[h];rfl
theorem iM(M:uw){r t:Nat}(u v:Vec)(h:r≠t):put (put M r u) t v=put (put M t v) r u:=by
 funext i;unfold put
 by_cases h1:i=t
 ·by_cases h2:i=r
  ·exact absurd (h2.symm.trans h1) h
  ·rw[ao h1,ak h2,ao h1]
 ·rw[ak h1]
  by_cases h2:i=r
  ·rw[ao h2,ao h2]
  ·rw[ak h2,ak h2,ak h1]
theorem jr(M:uw)(i:Nat)(v:Vec):sS (put M i v) i=sS M i:=by
 funext r c;unfold sS;rw[iD _ _ (J6 i r)]
theorem wk(M:uw){i j:Nat}(v:Vec)(h:j≠i):sS (put M j v) i=put (sS M i) (N7 i j) (fun c=>v (c+1)):=by
 funext r c
 unfold sS put
 by_cases e:r=N7 i j
 ·rw[ao e,ao ((qP h).mpr e)]
 ·rw[ak e,ak fun z=>e ((qP h).mp z)]
theorem uZ:∀k {M N:uw},(∀i,i<k->∀j,j<k->M i j=N i j)->det k M=det k N
 |0,_,_,_=>rfl
 |k+1,M,N,h=>aW (k+1) fun i hi=>by
  rw[h i hi 0 (rC k),uZ k (M:=sS M i) (N:=sS N i) fun r hr c hc=>h _ (Bc hi hr) _ (Nat.succ_lt_succ hc)]
theorem wU:∀k (M:uw) (r:Nat) (a b:Int) (u v:Vec),r<k->det k (put M r fun c=>a*u c+b*v c)=a*det k (put M r u)+b*det k (put M r v)
 |k+1,M,r,a,b,u,v,hr=>by
  unfold det
  rw[<-dB,<-dB,<-jM]
  refine aW (k+1) fun i hi=> ?_
  by_cases e:r=i
  ·subst e
   rw[jr,jr,jr,put_same,put_same,put_same]
   grind
  ·rw[wk _ _ e,wk _ _ e,wk _ _ e,iD _ _ (lO e),iD _ _ (lO e),iD _ _ (lO e),wU k (sS M i) (N7 i r) a b (fun c=>u (c+1)) (fun c=>v (c+1)) (T5 e hi hr)]
   grind
theorem rA:∀k (M:uw) (r:Nat),r+1<k->M r=M (r+1)->det k M=0
 |k+1,M,r,hr,e=>by
  unfold det
  refine JZ (j:=r) (k+1) hr (fun i hi h1 h2=> ?_) ?_
  ·have z:det k (sS M i)=0:=by
    by_cases c:i<r
    ·refine rA k (sS M i) (r-1) (by omega) ?_
     funext x;unfold sS Il
     rw[ak (by omega),ak (by omega),show r-1+1=r by omega,e]
    ·refine rA k (sS M i) r (by omega) ?_
     funext x;unfold sS Il
     rw[ao (by omega),ao (by omega),e]
   rw[z,Ag]
  ·have z:sS M r=sS M (r+1):=by
    funext x c;unfold sS Il
    by_cases h1:x<r
    ·rw[ao h1,ao (by omega)]
    ·rw[ak h1]
     by_cases h2:x=r
     ·subst h2;rw[ao (by omega),e]
     ·rw[ak (by omega)]
   rw[z,e,Oz]
   grind
theorem MP(k:Nat)(M:uw)(t:Nat)(u v:Vec)(h:t+1<k):det k (put (put M t u) (t+1) v)= -det k (put (put M t v) (t+1) u):=by
 have n1:t≠t+1:=by omega
 have z:∀w:Vec,det k (put (put M t w) (t+1) w)=0:=fun w=>rA k _ t h (by rw[iD _ _ n1,put_same,put_same])
 have Vn:∀(N:uw) (r:Nat) (a b:Vec),r<k->det k (put N r fun c=>a c+b c)=det k (put N r a)+det k (put N r b):=fun N r a b hr=>by
  have:=wU k N r 1 1 a b hr
  simp only[Ie]at this
  exact this
 have z1:=z fun c=>u c+v c
 rw[Vn _ (t+1) u v h,iM M _ _ n1,iM M _ _ n1,Vn _ t u v (by omega),Vn _ t u v (by omega),<-iM M _ _ n1,<-iM M _ _ n1,<-iM M _ _ n1,<-iM M _ _ n1,z u,z v]at z1
 omega
theorem pF:∀(d k:Nat) (M:uw) (r:Nat),r+d+1<k->M r=M (r+d+1)->det k M=0
 |0,k,M,r,h,e=>rA k M r h e
 |d+1,k,M,r,h,e=>by
  have f:=MP k M (r+d+1) (M (r+d+1)) (M (r+d+1+1)) h
  rw[sH,sH]at f
  rw[f,pF d k _ r (by omega) (by rw[iD _ _ (by omega),iD _ _ (by omega),iD _ _ (by omega),put_same,e];rfl)]
  rfl
theorem MN{k:Nat}{M:uw}{r t:Nat}(hr:r<k)(ht:t<k)(h:r≠t)(e:M r=M t):det k M=0:=by
 by_cases c:r<t
 ·exact pF (t-r-1) k M r (by omega) (by rw[e];congr 1;omega)
 ·exact pF (r-t-1) k M t (by omega) (by rw[<-e];congr 1;omega)
theorem zO:∀k (M:uw),(∀i,i<k->∀j,j<k->M i j=if i=j then 1 else 0)->det k M=1
 |0,_,_=>rfl
 |k+1,M,h=>by
  unfold det
  rw[eG (j:=0) (k+1) (rC k) fun i hi hn=>by rw[h i hi 0 (rC k),ak hn];grind]
  rw[h 0 (rC k) 0 (rC k),ao rfl,zO k (sS M 0) fun i hi j hj=> ?_]
  ·rfl
  ·unfold sS Il
   rw[ak (by omega),h _ (by omega) _ (by omega)]
   by_cases e:i=j
   ·rw[ao e,ao (by omega)]
   ·rw[ak e,ak (by omega)]
def fct:Nat->Int
 |0=>1
 |k+1=>(k+1:Int)*fct k
theorem J5{f:Nat->Int}{b:Int}:∀k,(∀i,i<k-> -b<=f i/\f i<=b)-> -((k:Int)*b)<=sm k f/\sm k f<=(k:Int)*b
 |0,_=>by
  show -((0:Int)*b)<=0/\(0:Int)<=0*b
  omega
 |k+1,h=>by
  have ih:=J5 k fun i hi=>h i (qz hi)
  have hk:=h k (oR k)
  show -((k+1:Nat)*b)<=sm k f+f k/\sm k f+f k<=(k+1:Nat)*b
  rw[show(((k+1:Nat):Int))*b=(k:Int)*b+b by rw[Int.natCast_succ,Int.add_mul,Ie]]
  omega
theorem Ep{x y a b:Int}(hx: -a<=x/\x<=a)(hy: -b<=y/\y<=b): -(a*b)<=x*y/\x*y<=a*b:=by
 have h1:0<=(a-x)*(b-y):=Ai (by omega) (by omega)
 have h2:0<=(a+x)*(b+y):=Ai (by omega) (by omega)
 have h3:0<=(a-x)*(b+y):=Ai (by omega) (by omega)
 have h4:0<=(a+x)*(b-y):=Ai (by omega) (by omega)
 constructor<;>grind
theorem wV:∀k (M:uw) (c:Nat) (B:Int),1<=B->(∀i,i<k->∀j,j<k->i≠c-> -1<=M i j/\M i j<=1)->(∀j,j<k->c<k-> -B<=M c j/\M c j<=B)-> -(fct k*B)<=det k M/\det k M<=fct k*B
 |0,M,c,B,hB,_,_=>by
  show -(1*B)<=1/\(1:Int)<=1*B
  omega
 |k+1,M,c,B,hB,h1,h2=>by
  unfold det
  have e:fct (k+1)*B=((k+1:Nat):Int)*(fct k*B):=by show((k:Int)+1)*fct k*B=_;rw[Td];rfl
  rw[e]
  refine J5 (k+1) fun i hi=> ?_
  have hs:∀x y:Int, -y<=x/\x<=y-> -y<=sg i*x/\sg i*x<=y:=fun x y h=>by
   rcases Ua i with s|s
   ·rw[s,Ie];exact h
   ·rw[s];omega
  rw[Td]
  refine hs _ _ ?_
  by_cases ci:i=c
  ·subst ci
   have a:=wV k (sS M i) k 1 (by decide) (fun r hr x hx _=>h1 _ (Bc hi hr) _ (by omega) (J6 i r)) (fun x hx hk=>absurd hk (oK k))
   have b:=h2 0 (rC k) hi
   rw[wgr]at a
   have:=Ep b a
   rw[Ii (fct k) B]
   exact this
  ·have a:=wV k (sS M i) (N7 i c) B hB (fun r hr x hx hn=>h1 _ (Bc hi hr) _ (by omega) fun z=>hn ((qP (lO ci)).mp z)) (fun x hx hk=>by
    have hc:Il i (N7 i c)=c:=(qP (lO ci)).mpr rfl
    have hlt:c<k+1:=by unfold N7 at hk;split at hk<;>omega
    have:=h2 (x+1) (by omega) hlt
    unfold sS
    rw[hc];exact this)
   have b:=h1 i hi 0 (rC k) ci
   have:=Ep b a
   rw[Ie]at this
   exact this
end Sx
namespace Sx
structure Tab where
 col:Nat->Nat
 row:Nat->Nat
 cell:Nat->Nat->Int
 over:Int
 s:Int
def one:Vec:=fun j=>if j=0 then 1 else 0
section
variable(n m:Nat)(S:Nat->Nat->Bool)(w:Nat->Int)
def nv(a:Nat):Vec:=fun j=>if a<n then(if j=a+1 then 1 else 0)else(if j=0 then 1 else if S (a-n) (j-1)=true then -1 else 0)
def zv:Vec:=fun j=>if j=0 then 0 else w (j-1)
def rv(T:Tab)(r:Nat):Vec:=if r<m then nv n S (T.row r)else zv w
def ur(T:Tab):uw:=fun i=>if i=0 then one else nv n S (T.col (i-1))
def Fn(T:Tab)(c:Nat)(v:Vec):Int:=T.s*det (n+1) (put (ur n S T) c v)
structure Good(T:Tab):Prop where
 pos:0<T.over
 eq:∀r,r<=m->∀j,j<=n->T.over*rv n m S w T r j=T.cell r n*one j-sm n (fun c=>T.cell r c*nv n S (T.col c) j)
 sg:T.s=1\/T.s= -1
 dt:T.over=T.s*det (n+1) (ur n S T)
 Cp:∀c c',c<n->c'<n->T.col c=T.col c'->c=c'
 KD:∀r r',r<m->r'<m->T.row r=T.row r'->r=r'
 dis:∀c r,c<n->r<m->T.col c≠T.row r
 Ra:∀c,c<n->T.col c<n+m
 rlt:∀r,r<m->T.row r<n+m
 all:∀a,a<n+m->(∃c,c<n/\T.col c=a)\/∃r,r<m/\T.row r=a
 W4:∀r,r<m->0<=T.cell r n
end
section
variable{n m:Nat}{S:Nat->Nat->Bool}{w:Nat->Int}{T:Tab}
theorem fQ{r:Nat}(h:r<m):rv n m S w T r=nv n S (T.row r):=ao h
theorem gZ:rv n m S w T m=zv w:=ak (oK m)
theorem zW:ur n S T 0=one:=rfl
theorem Fl(c:Nat):ur n S T (c+1)=nv n S (T.col c):=by unfold ur;rw[ak (xY c)];rfl
theorem xG{c:Nat}(hc:c<=n)(a b:Int)(u v:Vec):Fn n S T c (fun j=>a*u j+b*v j)=a*Fn n S T c u+b*Fn n S T c v:=by
 unfold Fn;rw[wU (n+1) (ur n S T) c a b u v (by omega)];grind
theorem Iw{c:Nat}{u v:Vec}(h:∀j,j<=n->u j=v j):Fn n S T c u=Fn n S T c v:=by
 unfold Fn
 rw[uZ (n+1) (M:=put (ur n S T) c u) (N:=put (ur n S T) c v) fun i _ j hj=> ?_]
 unfold put
 split
 ·exact h j (by omega)
 ·rfl
theorem ju{c:Nat}(hc:c<=n)(x:Int)(a:Vec)(y:Nat->Int)(W:Nat->Vec):∀k,Fn n S T c (fun j=>x*a j-sm k (fun i=>y i*W i j))=x*Fn n S T c a-sm k (fun i=>y i*Fn n S T c (W i))
 |0=>by
  have h:=xG (T:=T) (S:=S) hc x 0 a a
  rw[Iw (v:=fun j=>x*a j+0*a j) fun j _=>by show x*a j-0=_;omega,h]
  show _=_-0
  omega
 |k+1=>by
  have h:=xG (T:=T) (S:=S) hc 1 (-(y k)) (fun j=>x*a j-sm k (fun i=>y i*W i j)) (W k)
  rw[Iw (v:=fun j=>1*(x*a j-sm k (fun i=>y i*W i j))+ -(y k)*W k j) fun j _=>by show x*a j-(sm k _+y k*W k j)=_;grind,h,ju hc x a y W k]
  show _=x*Fn n S T c a-(sm k _+y k*Fn n S T c (W k))
  grind
theorem oA{c:Nat}(hc:c<=n)(a:Int)(u:Vec):Fn n S T c (fun j=>a*u j)=a*Fn n S T c u:=by
 have h:=xG (T:=T) (S:=S) hc a 0 u u
 rw[Iw (v:=fun j=>a*u j+0*u j) fun j _=>by omega,h];omega
theorem Np(g:T.over=T.s*det (n+1) (ur n S T)){c i:Nat}(hc:c<=n)(hi:i<=n):Fn n S T c (ur n S T i)=if i=c then T.over else 0:=by
 unfold Fn
 by_cases e:i=c
 ·subst e;rw[ao rfl,sH,<-g]
 ·rw[ak e,MN (r:=c) (t:=i) (by omega) (by omega) (lO e) (by rw[put_same,iD _ _ e]),Ag]
theorem j6(g:T.over=T.s*det (n+1) (ur n S T)){c:Nat}(hc:c<=n):Fn n S T c one=if c=0 then T.over else 0:=by
 have:=Np g hc (dJ n)
 rw[zW]at this
 rw[this]
 by_cases e:c=0
 ·rw[ao e,ao e.symm]
 ·rw[ak e,ak (lO e)]
theorem cM(g:T.over=T.s*det (n+1) (ur n S T)){c i:Nat}(hc:c<=n)(hi:i<n):Fn n S T c (nv n S (T.col i))=if i+1=c then T.over else 0:=by
 have:=Np g hc (show i+1<=n by omega)
 rw[Fl]at this
 exact this
theorem Xc{a x y:Int}(h:0<a)(e:a*x=a*y):x=y:=ydo (by omega) e
theorem Good.base(G:Good n m S w T){r:Nat}(hr:r<=m):Fn n S T 0 (rv n m S w T r)=T.cell r n:=by
 have h1:=oA (T:=T) (S:=S) (c:=0) (dJ n) T.over (rv n m S w T r)
 rw[Iw fun j hj=>G.eq r hr j hj,ju (dJ n) _ _ (T.cell r) (fun c=>nv n S (T.col c)),j6 G.dt (dJ n),ao rfl,dw n fun c hc=>by rw[cM G.dt (dJ n) hc,ak (xY c),Ag]]at h1
 refine Xc G.pos ?_
 rw[<-h1,Ii];omega
theorem Good.dir(G:Good n m S w T){r c:Nat}(hr:r<=m)(hc:c<n):Fn n S T (c+1) (rv n m S w T r)= -T.cell r c:=by
 have h1:=oA (T:=T) (S:=S) (c:=c+1) hc T.over (rv n m S w T r)
 rw[Iw fun j hj=>G.eq r hr j hj,ju hc _ _ (T.cell r) (fun c=>nv n S (T.col c)),j6 G.dt hc,ak (xY c),eG (j:=c) n hc fun i hi hn=>by rw[cM G.dt hc hi,ak (by omega),Ag],cM G.dt hc hc,ao rfl]at h1
 refine Xc G.pos ?_
 rw[<-h1];grind
def turn(T:Tab)(p q:Nat):Tab where
 col:=fun c=>if c=q then T.row p else T.col c
 row:=fun r=>if r=p then T.col q else T.row r
 over:=T.cell p q
 s:= -T.s
 cell:=fun r c=>if r=p then(if c=q then T.over else T.cell p c)else if c=q then -T.cell r q else(T.cell r c*T.cell p q-T.cell r q*T.cell p c)/T.over
theorem Jr{p q:Nat}:ur n S (turn T p q)=put (ur n S T) (q+1) (nv n S (T.row p)):=by
 funext i
 unfold ur put turn
 dsimp only
 by_cases h0:i=0
 ·rw[ao h0,ak (by omega),ao h0]
 ·rw[ak h0]
  by_cases h1:i=q+1
  ·rw[ao h1,ao (by omega)]
  ·rw[ak h1,ak (by omega),ak h0]
theorem Ou{p q r:Nat}(h:r≠p):rv n m S w (turn T p q) r=rv n m S w T r:=by
 unfold rv turn
 dsimp only
 rw[ak h]
theorem Good.uJ(G:Good n m S w T){p q:Nat}(hp:p<m)(hq:q<n):(turn T p q).over=(turn T p q).s*det (n+1) (ur n S (turn T p q)):=by
 have h:=G.dir (r:=p) (dH hp) hq
 rw[fQ hp]at h
 unfold Fn at h
 rw[Jr]
 show T.cell p q= -T.s*_
 grind
theorem Good.exact(G:Good n m S w T){p q r c:Nat}(hp:p<m)(hq:q<n)(hb:0<T.cell p q)(hr:r<=m)(hrp:r≠p)(hc:c<=n)(Vu:c≠q):
  T.over*(turn T p q).cell r c=T.cell r c*T.cell p q-T.cell r q*T.cell p c:=by
 have g':=G.uJ hp hq
 have aan:∀j,j<=n->T.cell p q*T.over*rv n m S w T r j=(T.cell r n*T.cell p q-T.cell r q*T.cell p n)*one j-sm n (fun c=>(T.cell r c*T.cell p q-T.cell r q*T.cell p c)*nv n S (T.col c) j)+T.over*T.cell r q*nv n S (T.row p) j:=fun j hj=>by
  have e1:=G.eq r hr j hj
  have e2:=G.eq p (dH hp) j hj
  rw[fQ hp]at e2
  have e3:sm n (fun c=>(T.cell r c*T.cell p q-T.cell r q*T.cell p c)*nv n S (T.col c) j)=T.cell p q*sm n (fun c=>T.cell r c*nv n S (T.col c) j)+ -(T.cell r q)*sm n (fun c=>T.cell p c*nv n S (T.col c) j):=by
   rw[<-dB,<-dB,<-jM]
   exact aW n fun c _=>by grind
  rw[e3]
  generalize sm n (fun c=>T.cell r c*nv n S (T.col c) j)=A at *
  generalize sm n (fun c=>T.cell p c*nv n S (T.col c) j)=B at *
  grind
 have app:∀d,d<=n->T.cell p q*T.over*Fn n S (turn T p q) d (rv n m S w T r)=(T.cell r n*T.cell p q-T.cell r q*T.cell p n)*Fn n S (turn T p q) d one-sm n (fun c=>(T.cell r c*T.cell p q-T.cell r q*T.cell p c)*Fn n S (turn T p q) d (nv n S (T.col c)))+T.over*T.cell r q*Fn n S (turn T p q) d (nv n S (T.row p)):=fun d hd=>by
  rw[<-oA hd,Iw aan,<-ju hd _ _ (fun c=>T.cell r c*T.cell p q-T.cell r q*T.cell p c) (fun c=>nv n S (T.col c))]
  have h:=xG (T:=turn T p q) (S:=S) hd 1 (T.over*T.cell r q) (fun j=>(T.cell r n*T.cell p q-T.cell r q*T.cell p n)*one j-sm n (fun c=>(T.cell r c*T.cell p q-T.cell r q*T.cell p c)*nv n S (T.col c) j)) (nv n S (T.row p))
  simp only[Ie]at h
  exact h
 have ZJ:nv n S ((turn T p q).col q)=nv n S (T.row p):=by unfold turn;dsimp only;rw[ao rfl]
 have V9:∀c,c≠q->nv n S ((turn T p q).col c)=nv n S (T.col c):=fun c h=>by unfold turn;dsimp only;rw[ak h]
 have ov:(turn T p q).over=T.cell p q:=rfl
 have key:∃x,T.cell r c*T.cell p q-T.cell r q*T.cell p c=T.over*x:=by
  by_cases hl:c=n
  ·subst hl
   have h:=app 0 (dJ _)
   have f1:=j6 g' (dJ c)
   have f2:=cM g' (dJ c) hq
   rw[ao rfl,ov]at f1
   rw[ZJ,ak (xY q)]at f2
   rw[f1,f2,dw c fun i hi=> ?_]at h
   ·refine⟨Fn c S (turn T p q) 0 (rv c m S w T r),Xc hb ?_⟩
    grind
   ·by_cases YX:i=q
    ·subst YX;rw[Int.sub_self,Wm]
    ·have f3:=cM g' (dJ c) hi
     rw[V9 i YX,ak (xY i)]at f3
     rw[f3,Ag]
  ·have hc':c<n:=by omega
   have h:=app (c+1) hc'
   have f1:=j6 g' (show c+1<=n from hc')
   have f2:=cM g' (show c+1<=n from hc') hq
   have f3:=cM g' (show c+1<=n from hc') hc'
   rw[ak (xY c)]at f1
   rw[ZJ,ak (by omega)]at f2
   rw[V9 c Vu,ao rfl,ov]at f3
   rw[f1,f2,eG (j:=c) n hc' fun i hi hn=> ?_,f3]at h
   ·refine⟨-Fn n S (turn T p q) (c+1) (rv n m S w T r),Xc hb ?_⟩
    grind
   ·by_cases YX:i=q
    ·subst YX;rw[Int.sub_self,Wm]
    ·have f4:=cM g' (show c+1<=n from hc') hi
     rw[V9 i YX,ak (by omega)]at f4
     rw[f4,Ag]
 obtain⟨x,hx⟩:=key
 show T.over*(if r=p then _ else if c=q then _ else(T.cell r c*T.cell p q-T.cell r q*T.cell p c)/T.over)=_
 rw[ak hrp,ak Vu,hx,weu _ (Int.ne_of_gt G.pos)]
theorem Good.turn(G:Good n m S w T){p q:Nat}(hp:p<m)(hq:q<n)(hb:0<T.cell p q)(ra:∀r,r<m->0<T.cell r q->T.cell p n*T.cell r q<=T.cell r n*T.cell p q):Good n m S w (turn T p q):=by
 have hqn:n≠q:=by omega
 have c1:∀r,r≠p->(Sx.turn T p q).cell r q= -T.cell r q:=fun r h=>by unfold Sx.turn;dsimp only;rw[ak h,ao rfl]
 have c2:(Sx.turn T p q).cell p q=T.over:=by unfold Sx.turn;dsimp only;rw[ao rfl,ao rfl]
 have c3:∀c,c≠q->(Sx.turn T p q).cell p c=T.cell p c:=fun c h=>by unfold Sx.turn;dsimp only;rw[ao rfl,ak h]
 have k1:(Sx.turn T p q).col q=T.row p:=by unfold Sx.turn;dsimp only;rw[ao rfl]
 have k2:∀c,c≠q->(Sx.turn T p q).col c=T.col c:=fun c h=>by unfold Sx.turn;dsimp only;rw[ak h]
 have r1:(Sx.turn T p q).row p=T.col q:=by unfold Sx.turn;dsimp only;rw[ao rfl]
 have r2:∀r,r≠p->(Sx.turn T p q).row r=T.row r:=fun r h=>by unfold Sx.turn;dsimp only;rw[ak h]
 refine⟨hb,fun r hr j hj=> ?_,?_,G.uJ hp hq,fun c c' hc hc' e=> ?_,fun r r' hr hr' e=> ?_,fun c r hc hr e=> ?_,fun c hc=> ?_,fun r hr=> ?_,fun a ha=> ?_,fun r hr=> ?_⟩
 ·have e2:=G.eq p (dH hp) j hj
  rw[fQ hp]at e2
  by_cases h:r=p
  ·subst h
   rw[fQ hp,r1,c3 n hqn]
   have e3:sm n (fun c=>(Sx.turn T r q).cell r c*nv n S ((Sx.turn T r q).col c) j)=sm n (fun c=>T.cell r c*nv n S (T.col c) j)+(T.over*nv n S (T.row r) j-T.cell r q*nv n S (T.col q) j):=by
    have:sm n (fun c=>if c=q then T.over*nv n S (T.row r) j-T.cell r q*nv n S (T.col q) j else 0)=T.over*nv n S (T.row r) j-T.cell r q*nv n S (T.col q) j:=by
     rw[eG (j:=q) n hq fun i _ hn=>ak hn,ao rfl]
    rw[<-this,<-jM]
    refine aW n fun c _=> ?_
    by_cases hc:c=q
    ·subst hc;rw[c2,k1,ao rfl];omega
    ·rw[c3 c hc,k2 c hc,ak hc];omega
   rw[e3]
   show T.cell r q*nv n S (T.col q) j=_
   omega
  ·rw[Ou h]
   have e1:=G.eq r hr j hj
   have e3:T.over*sm n (fun c=>(Sx.turn T p q).cell r c*nv n S ((Sx.turn T p q).col c) j)=T.cell p q*sm n (fun c=>T.cell r c*nv n S (T.col c) j)+ -(T.cell r q)*sm n (fun c=>T.cell p c*nv n S (T.col c) j)+ -(T.over*T.cell r q*nv n S (T.row p) j):=by
    have:sm n (fun c=>if c=q then -(T.over*T.cell r q*nv n S (T.row p) j)else 0)= -(T.over*T.cell r q*nv n S (T.row p) j):=by
     rw[eG (j:=q) n hq fun i _ hn=>ak hn,ao rfl]
    rw[<-this,<-dB,<-dB,<-dB,<-jM,<-jM]
    refine aW n fun c hc=> ?_
    by_cases Vu:c=q
    ·subst Vu;rw[c1 r h,k1,ao rfl];grind
    ·have:=G.exact hp hq hb hr h (dH hc) Vu
     rw[k2 c Vu,ak Vu,<-Td,this];grind
   have e4:=G.exact hp hq hb hr h (aJ n) hqn
   refine Xc G.pos ?_
   show T.over*(T.cell p q*rv n m S w T r j)=_
   rw[Int.mul_sub,e3,<-Td T.over ((Sx.turn T p q).cell r n),e4]
   generalize sm n (fun c=>T.cell r c*nv n S (T.col c) j)=A at *
   generalize sm n (fun c=>T.cell p c*nv n S (T.col c) j)=B at *
   grind
 ·rcases G.sg with e|e
  ·exact .inr (by show -T.s= -1;rw[e])
  ·exact .inl (by show -T.s=1;rw[e];rfl)
 ·by_cases h1:c=q
  ·by_cases h2:c'=q
   ·rw[h1,h2]
   ·rw[h1,k1,k2 c' h2]at e;exact absurd e.symm (G.dis c' p hc' hp)
  ·by_cases h2:c'=q
   ·rw[h2,k1,k2 c h1]at e;exact absurd e (G.dis c p hc hp)
   ·rw[k2 c h1,k2 c' h2]at e;exact G.Cp c c' hc hc' e
 ·by_cases h1:r=p
  ·by_cases h2:r'=p
   ·rw[h1,h2]
   ·rw[h1,r1,r2 r' h2]at e;exact absurd e (G.dis q r' hq hr')
  ·by_cases h2:r'=p
   ·rw[h2,r1,r2 r h1]at e;exact absurd e.symm (G.dis q r hq hr)
   ·rw[r2 r h1,r2 r' h2]at e;exact G.KD r r' hr hr' e
 ·by_cases h1:c=q
  ·by_cases h2:r=p
   ·rw[h1,h2,k1,r1]at e;exact G.dis q p hq hp e.symm
   ·rw[h1,k1,r2 r h2]at e;exact h2 (G.KD p r hp hr e).symm
  ·by_cases h2:r=p
   ·rw[h2,k2 c h1,r1]at e;exact h1 (G.Cp c q hc hq e)
   ·rw[k2 c h1,r2 r h2]at e;exact G.dis c r hc hr e
 ·by_cases h1:c=q
  ·rw[h1,k1];exact G.rlt p hp
  ·rw[k2 c h1];exact G.Ra c hc
 ·by_cases h1:r=p
  ·rw[h1,r1];exact G.Ra q hq
  ·rw[r2 r h1];exact G.rlt r hr
 ·rcases G.all a ha with⟨c,hc,e⟩|⟨r,hr,e⟩
  ·by_cases h1:c=q
   ·exact .inr ⟨p,hp,by rw[r1,<-h1,e]⟩
   ·exact .inl ⟨c,hc,by rw[k2 c h1,e]⟩
  ·by_cases h1:r=p
   ·exact .inl ⟨q,hq,by rw[k1,<-h1,e]⟩
   ·exact .inr ⟨r,hr,by rw[r2 r h1,e]⟩
 ·by_cases h1:r=p
  ·rw[h1,c3 n hqn];exact G.W4 p hp
  ·have e:=G.exact hp hq hb (dH hr) h1 (aJ n) hqn
   have f1:=G.W4 r hr
   have f2:=G.W4 p hp
   have z:0<=T.cell r n*T.cell p q-T.cell r q*T.cell p n:=by
    by_cases hc:0<T.cell r q
    ·have:=ra r hr hc
     rw[Ii (T.cell r q)];omega
    ·have a1:0<=T.cell r n*T.cell p q:=Ai f1 (by omega)
     have a2:0<= -(T.cell r q)*T.cell p n:=Ai (by omega) f2
     grind
   rw[<-e]at z
   have:=G.pos
   refine Int.not_lt.mp fun hn=> ?_
   have:T.over*(Sx.turn T p q).cell r n<0:=Int.mul_neg_of_pos_of_neg G.pos hn
   omega
end
end Sx
namespace Sx
structure Step(n m:Nat)(T:Tab)(p q:Nat):Prop where
 hp:p<m
 hq:q<n
 neg:T.cell m q<0
 ent:∀c,c<n->T.cell m c<0->T.col q<=T.col c
 by_:0<T.cell p q
 lev:∀r,r<m->0<T.cell r q->T.cell p n*T.cell r q<T.cell r n*T.cell p q\/(T.cell p n*T.cell r q=T.cell r n*T.cell p q/\T.row p<=T.row r)
def inC(n:Nat)(T:Tab)(a:Nat):Prop:=∃c,c<n/\T.col c=a
section
variable{n m:Nat}{S:Nat->Nat->Bool}{w:Nat->Int}
theorem Step.good{T:Tab}{p q:Nat}(s:Step n m T p q)(G:Good n m S w T):Good n m S w (turn T p q):=
 G.turn s.hp s.hq s.by_ fun r hr h=>(s.lev r hr h).elim Ih fun e=>Xz e.1
theorem Step.worth{T:Tab}{p q:Nat}(s:Step n m T p q)(G:Good n m S w T):T.over*(turn T p q).cell m n-(turn T p q).over*T.cell m n= -(T.cell m q)*T.cell p n:=by
 have h:=G.exact s.hp s.hq s.by_ (aJ m) (xX s.hp) (aJ n) (xX s.hq)
 rw[h]
 show _-T.cell p q*_=_
 grind
theorem Step.le{T:Tab}{p q:Nat}(s:Step n m T p q)(G:Good n m S w T):(turn T p q).over*T.cell m n<=T.over*(turn T p q).cell m n:=by
 have h:=s.worth G
 have:=Ai (a:= -(T.cell m q)) (b:=T.cell p n) (by have:=s.neg;omega) (G.W4 p s.hp)
 omega
theorem wL{a b c d e f:Int}(hd:0<d)(hb:0<b)(hf:0<f)(h1:d*a<=b*c)(h2:f*c<=d*e):f*a<=b*e:=by
 have x:=Tr h1 (Ih hf)
 have y:=Tr h2 (Ih hb)
 refine Int.le_of_mul_le_mul_left (a:=d) ?_ hd
 grind
theorem wK{a b c d e f:Int}(hd:0<d)(hb:0<b)(hf:0<f)(h1:d*a<=b*c)(h2:f*c<d*e):f*a<b*e:=by
 have x:=Tr h1 (Ih hf)
 have y:=wed h2 hb
 refine weo (a:=d) ?_ (Ih hd)
 grind
theorem zB{a b c d e f:Int}(hd:0<d)(hb:0<b)(hf:0<f)(h1:d*a<b*c)(h2:f*c<=d*e):f*a<b*e:=by
 have x:=wed h1 hf
 have y:=Tr h2 (Ih hb)
 refine weo (a:=d) ?_ (Ih hd)
 grind
theorem goes{P:Nat->Prop}{s:Nat}:∀d,P s->¬P (s+d)->∃t,s<=t/\t<s+d/\P t/\¬P (t+1)
 |0,h,h'=>absurd h h'
 |d+1,h,h'=>by
  by_cases c:P (s+d)
  ·exact⟨s+d,by omega,by omega,c,h'⟩
  ·obtain⟨t,a,b,x⟩:=goes d h c
   exact⟨t,a,by omega,x⟩
theorem zu{P:Nat->Prop}{s e:Nat}(hse:s<=e)(h:P s)(h':¬P e):∃t,s<=t/\t<e/\P t/\¬P (t+1):=by
 obtain⟨t,a,b,x⟩:=goes (s:=s) (e-s) h (by rw[show s+(e-s)=e by omega];exact h')
 exact⟨t,a,by omega,x⟩
theorem most{P:Nat->Prop}:∀N,(∃a,P a)->(∀a,P a->a<N)->∃a,P a/\∀b,P b->b<=a
 |0,⟨a,h⟩,hb=>absurd (hb a h) (Ro a)
 |N+1,h,hb=>by
  by_cases c:P N
  ·exact⟨N,c,fun b hP=>by have:=hb b hP;omega⟩
  ·exact most N h fun a hP=>by
    have:=hb a hP
    have:a≠N:=fun e=>c (e▸hP)
    omega
structure Run(n m:Nat)(S:Nat->Nat->Bool)(w:Nat->Int)(T:Nat->Tab)(p q:Nat->Nat)(L:Nat):Prop where
 first:Good n m S w (T 0)
 step:∀t,t<L->Step n m (T t) (p t) (q t)
 next:∀t,t<L->T (t+1)=turn (T t) (p t) (q t)
variable{T:Nat->Tab}{p q:Nat->Nat}{L:Nat}
theorem Run.good(R:Run n m S w T p q L):∀t,t<=L->Good n m S w (T t)
 |0,_=>R.first
 |t+1,h=>by rw[R.next t h];exact(R.step t h).good (R.good t (wer h))
theorem Run.worth(R:Run n m S w T p q L){i:Nat}:∀d,i+d<=L->(T (i+d)).over*(T i).cell m n<=(T i).over*(T (i+d)).cell m n
 |0,_=>uE _
 |d+1,h=>by
  have ih:=R.worth d (i:=i) (by omega)
  have g1:=R.good (i+d) (by omega)
  have st:=(R.step (i+d) (by omega)).le g1
  rw[<-R.next (i+d) (by omega)]at st
  exact wL g1.pos (R.good i (by omega)).pos (R.good (i+d+1) h).pos ih st
theorem Run.Jf(R:Run n m S w T p q L){i j:Nat}(hij:i<=j)(hj:j<=L):(T j).over*(T i).cell m n<=(T i).over*(T j).cell m n:=by
 have:=R.worth (i:=i) (j-i) (by omega)
 rwa [show i+(j-i)=j by omega]at this
theorem Bm{A B:Tab}(GA:Good n m S w A)(GB:Good n m S w B)(h:∀a,inC n B a->inC n A a):B.over*A.cell m n=A.over*B.cell m n:=by
 have h1:=oA (T:=A) (S:=S) (c:=0) (dJ n) B.over (zv w)
 have e:=GB.eq m (aJ m)
 rw[gZ]at e
 have b:=GA.base (aJ m)
 rw[gZ]at b
 rw[Iw e,ju (dJ n) _ _ (B.cell m) (fun c=>nv n S (B.col c)),j6 GA.dt (dJ n),ao rfl,dw n fun c hc=> ?_,b]at h1
 ·rw[<-h1,Ii];omega
 ·obtain⟨c',hc',e'⟩:=h _ ⟨c,hc,rfl⟩
  rw[<-e',cM GA.dt (dJ n) hc',ak (xY c'),Ag]
theorem Jq{T:Tab}{p q:Nat}(G:Good n m S w T)(hp:p<m)(hq:q<n)(a:Nat):inC n (turn T p q) a↔(inC n T a/\a≠T.col q)\/a=T.row p:=by
 constructor
 ·rintro⟨c,hc,e⟩
  have e':(if c=q then T.row p else T.col c)=a:=e
  by_cases h:c=q
  ·rw[ao h]at e';exact .inr e'.symm
  ·rw[ak h]at e'
   exact .inl ⟨⟨c,hc,e'⟩,fun z=>h (G.Cp c q hc hq (e'.trans z))⟩
 ·rintro(⟨⟨c,hc,e⟩,hn⟩|e)
  ·have h:c≠q:=fun z=>hn (by rw[<-e,z])
   exact⟨c,hc,by show(if c=q then _ else _)=a;rw[ak h];exact e⟩
  ·exact⟨q,hq,by show(if q=q then _ else _)=a;rw[ao rfl];exact e.symm⟩
theorem flat{T:Tab}{p q:Nat}(G:Good n m S w T)(G':Good n m S w (turn T p q))(s:Step n m T p q)(h0:T.cell p n=0){a:Nat}(ha:a<n+m):Fn n S (turn T p q) 0 (nv n S a)=0↔Fn n S T 0 (nv n S a)=0:=by
 have z0:=dJ n
 rcases G'.all a ha with⟨c,hc,e⟩|⟨r,hr,e⟩
 ·have f1:=cM G'.dt z0 hc
  rw[e,ak (xY c)]at f1
  refine⟨fun _=> ?_,fun _=>f1⟩
  have e':(if c=q then T.row p else T.col c)=a:=e
  by_cases h:c=q
  ·rw[ao h]at e'
   have:=G.base (dH s.hp)
   rw[fQ s.hp,e']at this
   rw[this,h0]
  ·rw[ak h]at e'
   have:=cM G.dt z0 hc
   rw[e',ak (xY c)]at this
   exact this
 ·have f1:=G'.base (dH hr)
  rw[fQ hr,e]at f1
  have e':(if r=p then T.col q else T.row r)=a:=e
  rw[f1]
  by_cases h:r=p
  ·rw[ao h]at e'
   have f2:=cM G.dt z0 s.hq
   rw[e',ak (xY q)]at f2
   have f3:(turn T p q).cell r n=T.cell p n:=by
    show(if r=p then(if n=q then _ else _)else _)=_
    rw[ao h,ak (xX s.hq)]
   rw[f3,h0]
   exact⟨fun _=>f2,fun _=>rfl⟩
  ·rw[ak h]at e'
   have f2:=G.base (dH hr)
   rw[fQ hr,e']at f2
   rw[f2]
   have x:=G.exact s.hp s.hq s.by_ (dH hr) h (aJ n) (xX s.hq)
   rw[h0,Ag,Int.sub_zero]at x
   constructor
   ·intro z
    rw[z,Ag]at x
    rcases Int.mul_eq_zero.mp x.symm with y|y
    ·exact y
    ·have:=s.by_;omega
   ·intro z
    rw[z,Wm]at x
    rcases Int.mul_eq_zero.mp x with y|y
    ·have:=G.pos;omega
    ·exact y
theorem Run.GZ(R:Run n m S w T p q L){i j:Nat}(hij:i<j)(hj:j<=L):¬∀a,inC n (T i) a↔inC n (T j) a:=by
 intro same
 have Gt:∀t,i<=t->t<=j->Good n m S w (T t):=fun t _ h=>R.good t (bZ h hj)
 have D:=Bm (Gt i (aJ i) (dH hij)) (Gt j (dH hij) (aJ j)) fun a=>(same a).mpr
 have St:∀t,t<j->Step n m (T t) (p t) (q t):=fun t h=>R.step t (iJ h hj)
 have nx:∀t,t<j->T (t+1)=turn (T t) (p t) (q t):=fun t h=>R.next t (iJ h hj)
 -- every turn of these is flat
 have fl:∀t,i<=t->t<j->(T t).cell (p t) n=0:=fun t hi ht=>by
  have g:=Gt t hi (dH ht)
  have W:=(St t ht).worth g
  have F:=g.W4 (p t) (St t ht).hp
  have N:=(St t ht).neg
  by_cases z:(T t).cell (p t) n=0
  ·exact z
  ·exfalso
   have B:(turn (T t) (p t) (q t)).over*(T t).cell m n<(T t).over*(turn (T t) (p t) (q t)).cell m n:=by
    have:=FJ (a:= -((T t).cell m (q t))) (b:=(T t).cell (p t) n) (by omega) (by omega)
    omega
   rw[<-nx t ht]at B
   have A:=R.Jf (i:=i) (j:=t) hi (by omega)
   have C:=R.Jf (i:=t+1) (j:=j) ht hj
   have o1:=(Gt i (aJ i) (dH hij)).pos
   have o2:=g.pos
   have o3:=(Gt (t+1) (by omega) ht).pos
   have o4:=(Gt j (dH hij) (aJ j)).pos
   have x:=wK o2 o1 o3 A B
   have y:=zB o3 o1 o4 x C
   omega
 have ic:∀t,t<j->i<=t->∀a,inC n (T (t+1)) a↔(inC n (T t) a/\a≠(T t).col (q t))\/a=(T t).row (p t):=fun t ht hi a=>by
  rw[nx t ht];exact Jq (Gt t hi (dH ht)) (St t ht).hp (St t ht).hq a
 have zeros:∀{a:Nat},a<n+m->∀d s,i<=s->s+d<=j->(Fn n S (T (s+d)) 0 (nv n S a)=0↔Fn n S (T s) 0 (nv n S a)=0):=fun{a} ha d=>by
  induction d with
  |zero=>intro s _ _;exact Iff.rfl
  |succ d ih=>
   intro s hs hd
   have f:=flat (Gt (s+d) (by omega) (by omega)) (by rw[<-nx (s+d) (by omega)];exact Gt (s+d+1) (by omega) hd) (St (s+d) (by omega)) (fl (s+d) (by omega) (by omega)) ha
   rw[<-nx (s+d) (by omega)]at f
   exact f.trans (ih s hs (by omega))
 have W9:∀{a s t:Nat},a<n+m->i<=s->s<=j->i<=t->t<=j->Fn n S (T s) 0 (nv n S a)=0->Fn n S (T t) 0 (nv n S a)=0:=fun{a s t} ha h1 h2 h3 h4 z=>by
  by_cases c:s<=t
  ·have:=zeros ha (t-s) s h1 (by omega)
   rw[show s+(t-s)=t by omega]at this
   exact this.mpr z
  ·have:=zeros ha (s-t) t h3 (by omega)
   rw[show t+(s-t)=s by omega]at this
   exact this.mp z
 -- the greatest name that comes and goes
 let Fk:Nat->Prop:=fun a=>∃t,i<=t/\t<j/\((inC n (T t) a/\¬inC n (T (t+1)) a)\/(¬inC n (T t) a/\inC n (T (t+1)) a))
 have fkc:∀t,i<=t->t<j->Fk ((T t).col (q t)):=fun t hi ht=>by
  have g:=Gt t hi (dH ht)
  refine⟨t,hi,ht,.inl ⟨⟨q t,(St t ht).hq,rfl⟩,fun z=> ?_⟩⟩
  rcases(ic t ht hi _).mp z with⟨_,z⟩|z
  ·exact z rfl
  ·exact g.dis (q t) (p t) (St t ht).hq (St t ht).hp z
 have lt:∀a,Fk a->a<n+m:=fun a h=>by
  obtain⟨t,hi,ht,(⟨⟨c,hc,e⟩,_⟩|⟨_,⟨c,hc,e⟩⟩)⟩:=h
  ·rw[<-e];exact(Gt t hi (dH ht)).Ra c hc
  ·rw[<-e];exact(Gt (t+1) (by omega) ht).Ra c hc
 obtain⟨tt,hF,hmax⟩:=most (n+m) ⟨_,fkc i (aJ i) hij⟩ lt
 have diff:∀{a s e:Nat},i<=s->s<=j->i<=e->e<=j->inC n (T s) a->¬inC n (T e) a->Fk a:=fun{a s e} h1 h2 h3 h4 x y=>by
  by_cases c:s<=e
  ·obtain⟨t,a1,a2,a3,a4⟩:=zu (P:=fun t=>inC n (T t) a) c x y
   exact⟨t,by omega,by omega,.inl ⟨a3,a4⟩⟩
  ·obtain⟨t,a1,a2,a3,a4⟩:=zu (P:=fun t=>¬inC n (T t) a) (s:=e) (e:=s) (by omega) y (fun z=>z x)
   exact⟨t,by omega,by omega,.inr ⟨a3,Classical.not_not.mp a4⟩⟩
 obtain⟨t1,Zc,W0,h1a,h1b⟩:∃t,i<=t/\t<j/\inC n (T t) tt/\¬inC n (T (t+1)) tt:=by
  obtain⟨t,hi,ht,(⟨x,y⟩|⟨x,y⟩)⟩:=hF
  ·exact⟨t,hi,ht,x,y⟩
  ·by_cases c:inC n (T j) tt
   ·obtain⟨u,a1,a2,a3,a4⟩:=zu (P:=fun t=>inC n (T t) tt) hi ((same tt).mpr c) x
    exact⟨u,a1,by omega,a3,a4⟩
   ·obtain⟨u,a1,a2,a3,a4⟩:=zu (P:=fun t=>inC n (T t) tt) (s:=t+1) (e:=j) ht y c
    exact⟨u,by omega,a2,a3,a4⟩
 obtain⟨t2,WY,Vy,h2a,h2b⟩:∃t,i<=t/\t<j/\¬inC n (T t) tt/\inC n (T (t+1)) tt:=by
  have up:∀s e,i<=s->s<=e->e<=j->¬inC n (T s) tt->inC n (T e) tt->∃t,i<=t/\t<j/\¬inC n (T t) tt/\inC n (T (t+1)) tt:=fun s e a b c x y=>by
   obtain⟨u,a1,a2,a3,a4⟩:=zu (P:=fun t=>¬inC n (T t) tt) b x (fun z=>z y)
   exact⟨u,by omega,by omega,a3,Classical.not_not.mp a4⟩
  by_cases c:inC n (T j) tt
  ·exact up (t1+1) j (by omega) W0 (aJ j) h1b c
  ·exact up i t1 (aJ i) Zc (by omega) (fun z=>c ((same tt).mp z)) h1a
 have e1:tt=(T t1).col (q t1):=by
  refine WD fun hn=>h1b ((ic t1 W0 Zc tt).mpr (.inl ⟨h1a,hn⟩))
 have e2:tt=(T t2).row (p t2):=by
  rcases(ic t2 Vy WY tt).mp h2b with⟨z,_⟩|z
  ·exact absurd z h2a
  ·exact z
 have G1:=Gt t1 Zc (dH W0)
 have G2:=Gt t2 WY (dH Vy)
 have S1:=St t1 W0
 have S2:=St t2 Vy
 -- along the column that enters at t2
 have hq2:q t2+1<=n:=S2.hq
 have dz:=G2.dir (aJ m) S2.hq
 rw[gZ]at dz
 have sum:=oA (T:=T t2) (S:=S) hq2 (T t1).over (zv w)
 have eq1:=G1.eq m (aJ m)
 rw[gZ]at eq1
 rw[Iw eq1,ju hq2 _ _ ((T t1).cell m) (fun c=>nv n S ((T t1).col c)),j6 G2.dt hq2,ak (xY _),dz]at sum
 have neg:sm n (fun c=>(T t1).cell m c*Fn n S (T t2) (q t2+1) (nv n S ((T t1).col c)))<0:=by
  have:=FJ G1.pos (b:= -((T t2).cell m (q t2))) (by have:=S2.neg;omega)
  omega
 obtain⟨c,hc,hlt⟩:=J0 n neg
 have hnm:=G1.Ra c hc
 rcases G2.all _ hnm with⟨c0,hc0,e0⟩|⟨r0,hr0,e0⟩
 ·have f:=cM G2.dt hq2 hc0
  rw[e0]at f
  by_cases z:c0=q t2
  ·rw[ao (by omega)]at f
   rw[f]at hlt
   have cn:(T t1).cell m c<0:=by
    refine Int.not_le.mp fun h=> ?_
    have:=Ai h (Ih G2.pos)
    omega
   have a:=S1.ent c hc cn
   rw[<-e1,<-e0,z]at a
   have b:=hmax _ (fkc t2 WY Vy)
   have:tt=(T t2).col (q t2):=Rp a b
   exact G2.dis (q t2) (p t2) S2.hq S2.hp (this.symm.trans e2)
  ·rw[ak (by omega)]at f
   rw[f,Ag]at hlt
   exact absurd hlt (wgu 0)
 ·have f:=G2.dir (dH hr0) S2.hq
  rw[fQ hr0,e0]at f
  rw[f]at hlt
  have fk:Fk ((T t1).col c):=diff Zc (dH W0) WY (dH Vy) ⟨c,hc,rfl⟩ (fun⟨c',hc',e'⟩=>G2.dis c' r0 hc' hr0 (e'.trans e0.symm))
  have le:=hmax _ fk
  by_cases z:(T t1).col c=tt
  ·have cq:c=q t1:=G1.Cp c (q t1) hc S1.hq (z.trans e1)
   have rp:r0=p t2:=G2.KD r0 (p t2) hr0 S2.hp (e0.trans (z.trans e2))
   subst cq rp
   have a:=S1.neg
   have b:=S2.by_
   have:=FJ (a:= -((T t1).cell m (q t1))) (b:=(T t2).cell (p t2) (q t2)) (by omega) b
   grind
  ·have cn:¬(T t1).cell m c<0:=fun h=>by
    have:=S1.ent c hc h
    omega
   have Gs:0<(T t2).cell r0 (q t2):=by
    refine Int.not_le.mp fun h=> ?_
    have:=Ai (a:=(T t1).cell m c) (b:= -((T t2).cell r0 (q t2))) (by omega) (by omega)
    omega
   have v1:Fn n S (T t1) 0 (nv n S ((T t1).col c))=0:=by rw[cM G1.dt (dJ n) hc,ak (xY c)]
   have v2:=W9 hnm Zc (dH W0) WY (dH Vy) v1
   have b:=G2.base (dH hr0)
   rw[fQ hr0,e0,v2]at b
   have k:=fl t2 WY Vy
   rcases S2.lev r0 hr0 Gs with h|⟨_,h⟩
   ·rw[k,<-b,Wm,Wm]at h
    exact absurd h (wgu 0)
   ·rw[<-e2,e0]at h
    omega
def enc:List Bool->Nat
 |[]=>0
 |b::l=>(if b=true then 1 else 0)+2*enc l
theorem Mz:∀l:List Bool,enc l<2^l.length
 |[]=>by decide
 |b::l=>by
  have:=Mz l
  show(if b=true then 1 else 0)+2*enc l<2^(l.length+1)
  rw[wgg]
  split<;>omega
theorem Fj:∀{l l':List Bool},l.length=l'.length->enc l=enc l'->l=l'
 |[],[],_,_=>rfl
 |b::l,b'::l',h,e=>by
  have e':(if b=true then 1 else 0)+2*enc l=(if b'=true then 1 else 0)+2*enc l':=e
  have hb:b=b':=by cases b<;>cases b'<;>simp at e'⊢<;>omega
  subst hb
  rw[Fj (l:=l) (l':=l') (by simpa using h) (by omega)]
theorem few:∀(K:Nat) (l:List Nat),l.Nodup->(∀x∈l,x<K)->l.length<=K
 |0,[],_,_=>aJ 0
 |0,x::_,_,h=>absurd (h x cX) (Ro x)
 |K+1,l,nd,h=>by
  have a:=few K (l.filter fun x=>decide (x≠K)) (nd.filter _) fun x hx=>by
   obtain⟨h1,h2⟩:=fV.mp hx
   have:=h x h1
   have:=xT h2
   omega
  have b:l.length<=(l.filter fun x=>decide (x≠K)).length+1:=by
   clear a h
   induction l with
   |nil=>exact dJ _
   |cons y l ih=>
    have nd':=IW.mp nd
    rw[Og]
    by_cases c:y=K
    ·subst c
     rw[ak (by simp)]
     have:l.filter (fun x=>decide (x≠y))=l:=List.filter_eq_self.mpr fun x hx=>gb fun e=>nd'.1 (e▸hx)
     rw[this];exact aJ _
    ·rw[ao (gb c)]
     have:=ih nd'.2
     simp only[rD]
     omega
  omega
open Classical in
def code(n m:Nat)(T:Tab):Nat:=enc ((List.range (n+m)).map fun a=>decide (inC n T a))
theorem Run.short(R:Run n m S w T p q L):L<2^(n+m):=by
 have inj:∀i j,i<=L->j<=L->code n m (T i)=code n m (T j)->i=j:=by
  have one:∀i j,i<j->j<=L->code n m (T i)≠code n m (T j):=fun i j hij hj e=>by
   have l:=Fj (by simp) e
   refine R.GZ hij hj fun a=> ?_
   by_cases ha:a<n+m
   ·have:=jy (fun l:List Bool=>l[a]?) l
    simp only[cg,Ru ha,XJ,Option.some.injEq,decide_eq_decide]at this
    exact this
   ·exact⟨fun⟨c,hc,e⟩=>absurd ((R.good i (by omega)).Ra c hc) (by omega),fun⟨c,hc,e⟩=>absurd ((R.good j hj).Ra c hc) (by omega)⟩
  intro i j hi hj e
  rcases wev i j with h|h|h
  ·exact absurd e (one i j h hj)
  ·exact h
  ·exact absurd e.symm (one j i h hi)
 have nd:((List.range (L+1)).map fun t=>code n m (T t)).Nodup:=by
  refine Oh.mpr (List.nodup_range.imp_of_mem fun{a b} ha hb hab e=>hab (inj a b ?_ ?_ e))
  ·have:=tZ.mp ha;omega
  ·have:=tZ.mp hb;omega
 have:=few (2^(n+m)) _ nd fun x hx=>by
  obtain⟨t,_,rfl⟩:=iV.mp hx
  have:=Mz ((List.range (n+m)).map fun a=> @decide (inC n (T t) a) (Classical.propDecidable _))
  rw[aF,tW]at this
  exact this
 rw[aF,tW]at this
 omega
end
end Sx
namespace Sx
section
variable{n m:Nat}{S:Nat->Nat->Bool}{w:Nat->Int}{T:Tab}
theorem mq{a j:Nat}(h:a<n):nv n S a j=if j=a+1 then 1 else 0:=ao h
theorem v9{k j:Nat}:nv n S (n+k) j=if j=0 then 1 else if S k (j-1)=true then -1 else 0:=by
 unfold nv;rw[ak (by omega),show n+k-n=k by omega]
theorem DR{y:Nat->Int}{j:Nat}(hj:j<=n):sm n (fun c=>y c*nv n S c j)=if j=0 then 0 else y (j-1):=by
 by_cases h:j=0
 ·rw[ao h]
  exact dw n fun c hc=>by rw[mq hc,ak (by omega),Ag]
 ·rw[ak h,eG (j:=j-1) n (by omega) fun c hc hn=>by rw[mq hc,ak (by omega),Ag],mq (by omega),ao (by omega),wgr]
theorem Bw{k j:Nat}(hj:j<=n):nv n S (n+k) j=1*one j-sm n (fun c=>(if S k c=true then 1 else 0)*nv n S c j):=by
 rw[v9,DR hj]
 unfold one
 by_cases h:j=0
 ·rw[ao h,ao h,ao h];rfl
 ·rw[ak h,ak h,ak h]
  split<;>rfl
theorem Ir{j:Nat}(hj:j<=n):zv w j=0*one j-sm n (fun c=> -(w c)*nv n S c j):=by
 rw[DR hj]
 unfold zv
 by_cases h:j=0
 ·rw[ao h,ao h];omega
 ·rw[ak h,ak h];omega
def start(n m:Nat)(S:Nat->Nat->Bool)(w:Nat->Int):Tab where
 col:=fun c=>c
 row:=fun r=>n+r
 cell:=fun r c=>if r=m then(if c=n then 0 else -(w c))else if c=n then 1 else if S r c=true then 1 else 0
 over:=1
 s:=1
theorem Ay:Good n m S w (start n m S w):=by
 refine⟨Int.one_pos,fun r hr j hj=> ?_,.inl rfl,?_,fun c c' _ _ e=>e,fun r r' _ _ e=>by have:n+r=n+r':=e;omega,fun c r hc _ e=>by have:c=n+r:=e;omega,fun c hc=>by show c<n+m;omega,fun r hr=>by show n+r<n+m;omega,fun a ha=> ?_,fun r hr=> ?_⟩
 ·show 1*rv n m S w (start n m S w) r j=(start n m S w).cell r n*one j-sm n (fun c=>(start n m S w).cell r c*nv n S c j)
  by_cases h:r<m
  ·rw[fQ h]
   show 1*nv n S (n+r) j=_
   rw[Ie,Bw hj]
   have e1:(start n m S w).cell r n=1:=by show(if r=m then _ else if n=n then(1:Int)else _)=1;rw[ak (by omega),ao rfl]
   rw[e1,aW n fun c hc=> ?_]
   show _=(if r=m then _ else if c=n then(1:Int)else if S r c=true then 1 else 0)*_
   rw[ak (show¬r=m by omega),ak (show¬c=n by omega)]
  ·have e:r=m:=by omega
   subst e
   rw[gZ,Ie,Ir (n:=n) (S:=S) hj]
   have e1:(start n r S w).cell r n=0:=by show(if r=r then(if n=n then(0:Int)else _)else _)=0;rw[ao rfl,ao rfl]
   rw[e1,aW n fun c hc=> ?_]
   show _=(if r=r then(if c=n then(0:Int)else -(w c))else _)*_
   rw[ao rfl,ak (show¬c=n by omega)]
 ·show(1:Int)=1*det (n+1) _
  rw[zO (n+1) _ fun i hi j hj=> ?_]; · rfl
  by_cases h:i=0
  ·subst h
   rw[zW]
   unfold one
   by_cases e:j=0
   ·rw[ao e,ao e.symm]
   ·rw[ak e,ak (lO e)]
  ·obtain⟨c,rfl⟩:∃c,i=c+1:=⟨i-1,by omega⟩
   rw[Fl]
   show nv n S c j=_
   rw[mq (by omega)]
   by_cases e:j=c+1
   ·rw[ao e,ao e.symm]
   ·rw[ak e,ak (lO e)]
 ·by_cases h:a<n
  ·exact .inl ⟨a,h,rfl⟩
  ·exact .inr ⟨a-n,by omega,by show n+(a-n)=a;omega⟩
 ·show 0<=(if r=m then _ else if n=n then(1:Int)else _)
  rw[ak (by omega),ao rfl];decide
theorem Good.bounded(G:Good n m S w T)(cov:∀p,p<n->∃k,k<m/\S k p=true){q:Nat}(hq:q<n):∃r,r<m/\0<T.cell r q:=by
 refine WD fun no=> ?_
 have no':∀r,r<m->T.cell r q<=0:=fun r hr=>Int.not_lt.mp fun h=>no ⟨r,hr,h⟩
 have hq':q+1<=n:=hq
 have nn:∀a,a<n+m->0<=Fn n S T (q+1) (nv n S a):=fun a ha=>by
  rcases G.all a ha with⟨c,hc,e⟩|⟨r,hr,e⟩
  ·rw[<-e,cM G.dt hq' hc]
   split
   ·exact Ih G.pos
   ·exact uE 0
  ·have:=G.dir (dH hr) hq
   rw[fQ hr,e]at this
   rw[this]
   have:=no' r hr
   omega
 have set:∀k,Fn n S T (q+1) (nv n S (n+k))= -sm n (fun p=>(if S k p=true then 1 else 0)*Fn n S T (q+1) (nv n S p)):=fun k=>by
  rw[Iw fun j hj=>Bw hj,ju hq' _ _ (fun c=>if S k c=true then 1 else 0) (fun c=>nv n S c),j6 G.dt hq',ak (xY q)]
  omega
 have low:∀p,p<n->Fn n S T (q+1) (nv n S p)=0:=fun p hp=>by
  obtain⟨k,hk,hs⟩:=cov p hp
  have a:=nn (n+k) (by omega)
  rw[set k]at a
  have:=DW n (f:=fun p=>(if S k p=true then 1 else 0)*Fn n S T (q+1) (nv n S p)) (fun i hi=> ?_) (by omega) p hp
  ·rw[ao hs,Ie]at this
   exact this
  ·have:=nn i (by omega)
   split<;>omega
 have z:Fn n S T (q+1) (nv n S (T.col q))=0:=by
  have hc:=G.Ra q hq
  by_cases h:T.col q<n
  ·exact low _ h
  ·have e:T.col q=n+(T.col q-n):=by omega
   rw[e,set,dw n fun p hp=>by rw[low p hp,Ag]];rfl
 rw[cM G.dt hq' hq,ao rfl]at z
 have:=G.pos
 omega
theorem La(a j:Nat): -1<=nv n S a j/\nv n S a j<=1:=by
 unfold nv
 split
 ·split<;>decide
 ·split
  ·decide
  ·split<;>decide
theorem Fo(i j:Nat): -1<=ur n S T i j/\ur n S T i j<=1:=by
 unfold ur
 split
 ·unfold one;split<;>decide
 ·exact La _ _
theorem CW(G:Good n m S w T){c:Nat}{v:Vec}{B:Int}(hB:1<=B)(h:∀j,j<=n-> -B<=v j/\v j<=B): -(fct (n+1)*B)<=Fn n S T c v/\Fn n S T c v<=fct (n+1)*B:=by
 have d:=wV (n+1) (put (ur n S T) c v) c B hB (fun i _ j _ hn=>by rw[iD _ _ hn];exact Fo i j) (fun j hj _=>by rw[put_same];exact h j (by omega))
 unfold Fn
 rcases G.sg with s|s
 ·rw[s,Ie];exact d
 ·rw[s];omega
theorem Good.PN(G:Good n m S w T):T.over<=fct (n+1):=by
 have d:=CW G (c:=0) (v:=ur n S T 0) (B:=1) (by decide) fun j _=>Fo 0 j
 rw[Np G.dt (dJ n) (dJ n),ao rfl]at d
 omega
theorem Good.M6(G:Good n m S w T)(hw:∀p,p<n->0<=w p/\w p<=99){r c:Nat}(hr:r<=m)(hc:c<=n): -(fct (n+1)*99)<=T.cell r c/\T.cell r c<=fct (n+1)*99:=by
 have hv:∀j,j<=n-> -99<=rv n m S w T r j/\rv n m S w T r j<=99:=fun j hj=>by
  unfold rv
  split
  ·have:=La (n:=n) (S:=S) (T.row r) j;omega
  ·unfold zv
   split
   ·decide
   ·have:=hw (j-1) (by omega);omega
 by_cases h:c=n
 ·subst h
  have d:=CW G (c:=0) (B:=99) (by decide) hv
  rw[G.base hr]at d
  exact d
 ·have d:=CW G (c:=c+1) (B:=99) (by decide) hv
  rw[G.dir hr (by omega)]at d
  omega
theorem Mx:∀{k:Nat},k<=11->fct k<=39916800
 |0,_|1,_|2,_|3,_|4,_|5,_|6,_|7,_|8,_|9,_|10,_|11,_=>by decide
def Ys(n m:Nat)(T:Tab)(a:Nat):Int:=sm n fun c=>if T.col c=a then T.cell m c else 0
def Xs(n m:Nat)(T:Tab)(a:Nat):Int:=sm m fun r=>if T.row r=a then T.cell r n else 0
theorem Good.Xg(G:Good n m S w T){c:Nat}(hc:c<n):Ys n m T (T.col c)=T.cell m c:=by
 unfold Ys
 rw[eG (j:=c) n hc fun i hi hn=>ak fun e=>hn (G.Cp i c hi hc e),ao rfl]
theorem Xf{a:Nat}(h:∀c,c<n->T.col c≠a):Ys n m T a=0:=dw n fun c hc=>ak (h c hc)
theorem Good.Ry(G:Good n m S w T){r:Nat}(hr:r<m):Xs n m T (T.row r)=T.cell r n:=by
 unfold Xs
 rw[eG (j:=r) m hr fun i hi hn=>ak fun e=>hn (G.KD i r hi hr e),ao rfl]
theorem Rw{a:Nat}(h:∀r,r<m->T.row r≠a):Xs n m T a=0:=dw m fun r hr=>ak (h r hr)
theorem Good.Je(G:Good n m S w T){a:Nat}(ha:a<n+m):Fn n S T 0 (nv n S a)=Xs n m T a:=by
 rcases G.all a ha with⟨c,hc,e⟩|⟨r,hr,e⟩
 ·rw[<-e,cM G.dt (dJ n) hc,ak (xY c),Rw fun r hr z=>G.dis c r hc hr z.symm]
 ·rw[<-e,G.Ry hr]
  have:=G.base (dH hr)
  rw[fQ hr]at this
  exact this
theorem Good.Rx(G:Good n m S w T)(a:Nat):0<=Xs n m T a:=DY m fun r hr=>by
 have:=G.W4 r hr
 split
 ·exact this
 ·exact uE 0
theorem Rk(h:∀c,c<n->0<=T.cell m c)(a:Nat):0<=Ys n m T a:=DY n fun c hc=>by
 have:=h c hc
 split
 ·exact this
 ·exact uE 0
theorem yx(f:Nat->Int)(a:Nat):∀b,sm (a+b) f=sm a f+sm b fun k=>f (a+k)
 |0=>by show sm a f=sm a f+0;omega
 |b+1=>by
  show sm (a+b) f+f (a+b)=_
  rw[yx f a b]
  show _=sm a f+(sm b (fun k=>f (a+k))+f (a+b))
  omega
theorem Good.Yi(G:Good n m S w T)(g:Nat->Int):sm n (fun c=>T.cell m c*g (T.col c))=sm n (fun a=>Ys n m T a*g a)+sm m (fun k=>Ys n m T (n+k)*g (n+k)):=by
 rw[<-yx (fun a=>Ys n m T a*g a)]
 have e:∀a,Ys n m T a*g a=sm n fun c=>(if T.col c=a then T.cell m c else 0)*g a:=fun a=>by
  unfold Ys
  rw[Ii,<-dB]
  exact aW n fun c _=>Ii _ _
 rw[aW (n+m) fun a _=>e a,vJ (fun a c=>(if T.col c=a then T.cell m c else 0)*g a)]
 refine aW n fun c hc=> ?_
 rw[eG (j:=T.col c) (n+m) (G.Ra c hc) fun a _ hn=>by rw[ak (lO hn),Wm],ao rfl]
theorem Good.total(G:Good n m S w T):sm m (fun k=>Ys n m T (n+k))=T.cell m n:=by
 have e:=G.eq m (aJ m) 0 (dJ n)
 rw[gZ,G.Yi (fun a=>nv n S a 0),dw n fun a ha=>by rw[mq ha,ak (by omega),Ag]]at e
 have z:zv w 0=0:=rfl
 have o:one 0=1:=rfl
 rw[z,o,aW m fun k _=>show Ys n m T (n+k)*nv n S (n+k) 0=Ys n m T (n+k) by rw[v9,ao rfl,wgr]]at e
 omega
theorem Good.enough(G:Good n m S w T){p:Nat}(hp:p<n):sm m (fun k=>if S k p=true then Ys n m T (n+k)else 0)=T.over*w p+Ys n m T p:=by
 have e:=G.eq m (aJ m) (p+1) hp
 rw[gZ,G.Yi (fun a=>nv n S a (p+1)),eG (j:=p) n hp fun a ha hn=>by rw[mq ha,ak (by omega),Ag],mq hp,ao rfl]at e
 have z:zv w (p+1)=w p:=by unfold zv;rw[ak (xY p)];rfl
 have o:one (p+1)=0:=ak (xY p)
 rw[z,o,aW m fun k _=>show Ys n m T (n+k)*nv n S (n+k) (p+1)= -1*(if S k p=true then Ys n m T (n+k)else 0) by
  rw[v9,ak (xY p),Nat.add_sub_cancel]
  split<;>omega,dB]at e
 omega
theorem Good.light(G:Good n m S w T){k:Nat}(hk:k<m):sm n (fun p=>if S k p=true then Xs n m T p else 0)<=T.over:=by
 have h:Fn n S T 0 (nv n S (n+k))=1*Fn n S T 0 one-sm n (fun p=>(if S k p=true then 1 else 0)*Fn n S T 0 (nv n S p)):=by
  rw[Iw fun j hj=>Bw hj,ju (dJ n) _ _ (fun c=>if S k c=true then 1 else 0) (fun c=>nv n S c)]
 rw[j6 G.dt (dJ n),ao rfl,G.Je (by omega),aW n fun p hp=>show(if S k p=true then(1:Int)else 0)*Fn n S T 0 (nv n S p)=if S k p=true then Xs n m T p else 0 by
  rw[G.Je (by omega)]
  split<;>omega]at h
 have:=G.Rx (n+k)
 omega
theorem Good.prices(G:Good n m S w T):sm n (fun p=>w p*Xs n m T p)=T.cell m n:=by
 have h:=G.base (aJ m)
 rw[gZ,Iw fun j hj=>Ir (n:=n) (S:=S) hj,ju (dJ n) _ _ (fun c=> -(w c)) (fun c=>nv n S c),aW n fun p hp=>show -(w p)*Fn n S T 0 (nv n S p)= -1*(w p*Xs n m T p) by rw[G.Je (by omega)];grind,dB]at h
 omega
end
end Sx
namespace Hs
open PySem L2 vh
def top(i:Nat):Stmt:=PySem.Challenge.pw_hueshare_k41_whole_greedy_and_the_least.main.body.getD i (.Pass ⟨0,0,0,0⟩)
abbrev Rj:Stmt:=top 7
abbrev jh:Stmt:=top 8
abbrev gn:Stmt:=top 9
abbrev fH:Stmt:=top 10
abbrev jP:Stmt:=top 11
abbrev jj:Stmt:=top 12
abbrev nF:Stmt:=top 13
abbrev IV:Stmt:=top 14
abbrev jg:Stmt:=top 15
abbrev qU:Stmt:=top 16
abbrev jm:Stmt:=top 17
abbrev eO:Stmt:=top 18
abbrev gG:Stmt:=top 19
abbrev zcv:Stmt:=top 21
abbrev kW:Stmt:=top 22
abbrev gY:Stmt:=top 23
abbrev S9:Stmt:=top 24
abbrev zco:Stmt:=top 25
abbrev zcn:Stmt:=top 26
abbrev Xe:Stmt:=top 29
abbrev Nv:Stmt:=top 30
abbrev vR:Stmt:=top 31
abbrev qT:Stmt:=top 32
abbrev gF:Stmt:=top 33
abbrev eV:Stmt:=top 34
abbrev iK:Stmt:=top 35
abbrev ji:Stmt:=top 37
abbrev zbl:Stmt:=top 39
abbrev zcc:Stmt:=top 40
abbrev zck:Stmt:=top 41
abbrev nG:Stmt:=top 42
abbrev zcp:Stmt:=top 44
abbrev Xa:Stmt:=top 45
abbrev zcx:Stmt:=top 46
abbrev zcm:Stmt:=top 47
abbrev Oc:Stmt:=top 48
abbrev zcl:Stmt:=top 49
abbrev nH:Stmt:=top 50
abbrev jk:Stmt:=top 51
abbrev Z6:Stmt:=inClass (top 54) 0
abbrev zbb:Stmt:=inClass (top 54) 1
abbrev zbg:Stmt:=inClass (top 54) 2
abbrev zby:Stmt:=inClass (top 54) 3
abbrev zcq:Stmt:=inClass (top 54) 4
abbrev Z8:Stmt:=inClass (top 54) 5
abbrev Z9:Stmt:=inClass (top 54) 6
abbrev Wk:Stmt:=inClass (top 54) 7
abbrev zbx:Stmt:=inClass (top 54) 8
abbrev zbw:Stmt:=inClass (top 54) 9
abbrev dN:Stmt:=top 55
abbrev nu:Stmt:=top 56
abbrev qR:Stmt:=top 57
abbrev gU:Stmt:=top 58
abbrev gk:Stmt:=top 59
abbrev gj:Stmt:=top 61
abbrev Wh:Stmt:=top 62
abbrev Xb:Stmt:=top 63
abbrev gW:Stmt:=top 64
abbrev zcw:Stmt:=top 65
abbrev zbf:Stmt:=top 66
abbrev nA:Stmt:=top 67
section
variable{P:Program}{w:World}{K:W.Frag}{mg:Str->Option Value}{base:Heap}
def kJ(K:W.Frag):Sp:=fun vs H Q _=>∃x d,vs=[x]/\DX K H x d/\Q (.bl (rF d)) H
theorem Ke:FnScope ["thing"] ["thing"] (defScope Rj):=fsc
theorem KR{f:Addr}{fd:FuncData}(F:Fun K "is_whole" "is_whole" Rj f fd)(mi:mg "isinstance"=none)(mI:mg "int"=none)(mB:mg "bool"=none):FnOk P w K mg base CX0 1 f fd ["thing"] (kJ K):=by
 refine F.ok Ke (fun vs H Q E h=> ?_) (fun cdv A outer s H vs Q E hr h=> ?_)
 ·obtain⟨x,d,rfl,_⟩:=h
  rfl
 obtain⟨x,d,rfl,hx,q⟩:=h
 refine⟨_,aX (cF (pe_and (fM dU rfl mi (by decide+kernel) (aj (pv 0) (aj (pe_bltn rfl mI (v:= .ty "int") (by decide+kernel) rfl) au)))
  (pe_one (pe_not (fM dU rfl mi (by decide+kernel) (aj (pv 0) (aj (pe_bltn rfl mB (v:= .ty "bool") (by decide+kernel) rfl) au))))))),?_⟩
 refine⟨_,rfl,x,_,_,rfl,hx.kind,.inl rfl,_,rfl,?_⟩
 refine ite2 (fun c=> ?_) (fun c=> ?_)
 ·refine⟨_,rfl,x,_,_,rfl,hx.kind,.inr (.inl rfl),_,rfl,?_⟩
  cases d<;>first |exact q|(simp[BW,yZ]at c;done)
 ·cases d<;>first |exact q|(exfalso;exact c rfl)
def Dy(K:W.Frag):Sp:=fun vs H Q _=>∃(n:Int) (x:V) (d:PyData),vs=[.int n,x]/\DX K H x d/\Q (.bl (cu n d)) H
theorem Km:FnScope ["n","thing"] ["n","thing"] (defScope jh):=fsc
theorem K6{f g:Addr}{fd gd:FuncData}(F:Fun K "is_place" "is_place" jh f fd)(D:bJ K mg "is_whole" Rj ["thing"] g gd)(G:FnOk P w K mg base CX0 1 g gd ["thing"] (kJ K)):FnOk P w K mg base CX0 2 f fd ["n","thing"] (Dy K):=by
 refine F.ok Km (fun vs H Q E h=> ?_) (fun cdv A outer s H vs Q E hr h=> ?_)
 ·obtain⟨n,x,d,rfl,_⟩:=h
  rfl
 obtain⟨n,x,d,rfl,hx,q⟩:=h
 refine⟨_,aX (cF (pe_and (pe_call G hr rfl D.m D.F.kp D.b .nil pass0 (aj (pv 1) au)) (pe_one (pe_chain op_le op_lt aK (pv 1) (pv 0))))),?_⟩
 refine⟨_,rfl,x,d,rfl,hx,_,rfl,?_⟩
 refine ite2 (fun c=> ?_) (fun c=> ?_)
 ·cases hx with
  |int i=>
   refine⟨_,rfl,_,_,rfl,rfl,_,rfl,?_⟩
   refine ite2 (fun c2=> ?_) (fun c2=> ?_)
   ·refine⟨_,rfl,_,_,rfl,rfl,?_⟩
    have e:cu n (.int i)=decide (i<n):=by show(decide (0<=i)&&decide (i<n))=_;rw[c2];rfl
    rw[e]at q;exact q
   ·have e:cu n (.int i)=false:=by show(decide (0<=i)&&decide (i<n))=_;rw[Bool.eq_false_iff.mpr c2];rfl
    rw[e]at q;exact q
  |_=>simp[rF]at c
 ·have e:cu n d=false:=by
   cases d<;>first |rfl|(exfalso;exact c rfl)
  rw[e]at q;exact q
def yp(K:W.Frag):Sp:=fun vs H Q _=>∃(n:Int) (a:Addr) (xs:List V) (ds:List PyData),vs=[.int n,.ref a]/\SqT K H a xs/\tY K H xs ds/\∀H',Same H H'->Q (.bl (ds.all (cu n))) H'
theorem Gg:FnScope ["n","things"] ["n","things"] (defScope gn):=fsc
theorem tQ{α:Type}(ds:List α)(p:α->Bool):(ds.map p).all id=ds.all p:=by rw[Xy];rfl
theorem GF{f g:Addr}{fd gd:FuncData}(F:Fun K "are_places" "are_places" gn f fd)(D:bJ K mg "is_place" jh ["n","thing"] g gd)(G:FnOk P w K mg base CX0 2 g gd ["n","thing"] (Dy K))(mA:mg "all"=none):FnOk P w K mg base CX0 3 f fd ["n","things"] (yp K):=by
 refine F.ok Gg (fun vs H Q E h=> ?_) (fun cdv A outer s H vs Q E hr h=> ?_)
 ·obtain⟨n,a,xs,ds,rfl,_⟩:=h
  rfl
 obtain⟨n,a,xs,ds,rfl,hS,hd,q⟩:=h
 refine⟨_,aX (cF (fM (gK rfl) rfl mA (by decide+kernel) (aj (oH (own:=["thing"]) (caps:=["n"]) (ix:=[0]) rfl (Am (pv 1)) rfl rfl (.cons rfl rfl .nil) (fun _ _ _ _ _=>cY (i:=0) (show(["thing","n"]:List Str).Nodup from by decide+kernel) rfl (Or.inl rfl)) (fun _ _ _ _ _=>qb) (fun _ _ _ _ _=>pe_call G hr rfl D.m D.F.kp D.b .nil pass0 (aj (pv 1) (aj (pv 0) au)))) au))),?_⟩
 refine⟨_,rfl,a,xs,rfl,hS,fun hz=> ?_⟩
 have hl:=hd.len
 refine Iz (xs:=xs) (fun i acc σ H'=>acc=((ds.take i).map (cu n)).map V.bl/\Same H H'/\∃o,σ=[o,some (.int n)]) ⟨rfl,Same.refl _,_,rfl⟩ (fun i acc σ H' _ p=>p.2.1.tup hS) (fun i acc σ H' hi p=> ?_) hz (fun i x acc σ H' hx p=> ?_) (fun acc σ H' p=> ?_)
 ·rw[p.1];simp;omega
 ·obtain⟨rfl,sm,o,rfl⟩:=p
  obtain⟨d,e1,e2⟩:=hd.get hx
  refine⟨_,rfl,_,rfl,n,x,d,rfl,DX.same sm e2,?_,sm,_,rfl⟩
  rw[rE,e1]
  simp
 ·intro p1 hp1
  obtain⟨rfl,sm,_⟩:=p
  refine⟨p1,(ds.map (cu n)),rfl,SqL.of (by rw[aH,hl,qe]),?_⟩
  rw[tQ]
  exact q _ (sm.trans (aV hp1 _))
def Wd(K:W.Frag)(H:Hp)(x y:V)(b:Bool):Prop:=(∃i j,x= .int i/\y= .int j/\b=decide (i<j))\/(∃p q ns ms,x= .ref p/\y= .ref q/\SqT K H p (ns.map V.int)/\SqT K H q (ms.map V.int)/\b=HT.lexLt ns ms)
def rP(K:W.Frag):Sp:=fun vs H Q _=>∃(a:Addr) (xs:List V) (bs:Nat->Bool),vs=[.ref a]/\SqT K H a xs/\(∀k,k+1<xs.length->∃x y,xs[k]? =some x/\xs[k+1]? =some y/\Wd K H x y (bs k))/\
 ∀H',Same H H'->Q (.bl ((List.range (xs.length-1)).all bs)) H'
theorem Gf:FnScope ["things"] ["things"] (defScope fH):=fsc
theorem GC{f:Addr}{fd:FuncData}(F:Fun K "is_rising" "is_rising" fH f fd)(mA:mg "all"=none)(mR:mg "range"=none)(mL:mg "len"=none):FnOk P w K mg base CX0 1 f fd ["things"] (rP K):=by
 refine F.ok Gf (fun vs H Q E h=> ?_) (fun cdv A outer s H vs Q E hr h=> ?_)
 ·obtain⟨a,xs,bs,rfl,_⟩:=h
  rfl
 obtain⟨a,xs,bs,rfl,hS,hb,q⟩:=h
 refine⟨_,aX (cF (fM (gK rfl) rfl mA (by decide+kernel) (aj (oH (own:=["k"]) (caps:=["things"]) (ix:=[0]) rfl
  (pi_range2 rfl mR (aj aK (aj (fM qd rfl mL oU (aj (pv 0) au)) au))) rfl rfl (.cons rfl rfl .nil) (fun _ _ _ _ _=>cY (i:=0) (show(["k","things"]:List Str).Nodup from by decide+kernel) rfl (Or.inl rfl)) (fun _ _ _ _ _=>qb) (fun _ _ _ _ _=>pe_cmpR (op_lt.or (PX K hr.units0)) (bB (Fx K) (pv 1) (bN op_sub (pv 0) aK) (fun _ _=>rfl)) (bB (Fx K) (pv 1) (pv 0) (fun _ _=>rfl)) (nomark _))) au))),?_⟩
 refine⟨_,rfl,a,xs,rfl,.inr hS,fun hz=>⟨1,_,rfl,⟨by omega,by omega,by omega,by omega⟩,?_⟩⟩
 have en:((xs.length:Int)-1).toNat=xs.length-1:=by omega
 rw[en]
 refine Ob (fun i acc σ H'=>acc=((List.range i).map bs).map V.bl/\Same H H'/\∃o,σ=[o,some (.ref a)]) ⟨rfl,Same.refl _,_,rfl⟩ (fun i acc σ H' hi p=>by rw[p.1];simp) (by rw[gB];omega) (fun i acc σ H' hi p=> ?_) (fun acc σ H' p=> ?_)
 ·obtain⟨rfl,sm,o,rfl⟩:=p
  obtain⟨x,y,hx,hy,hxy⟩:=hb i (by omega)
  have e1:(1+(i:Int))-1=((i:Nat):Int):=by omega
  have e2:(1+(i:Int))=((i+1:Nat):Int):=by omega
  have a1:atI xs (1+(i:Int)-1)=some x:=by rw[e1];exact atI_nat hx
  have a2:atI xs (1+(i:Int))=some y:=by rw[e2];exact atI_nat hy
  refine⟨_,rfl,_,rfl,_,_,rfl,rfl,a,xs,_,x,rfl,rfl,sm.tup hS,a1,_,rfl,_,rfl,a,xs,_,y,rfl,rfl,sm.tup hS,a2,?_⟩
  have ea:((List.range i).map bs).map V.bl++[V.bl (bs i)]=((List.range (i+1)).map bs).map V.bl:=by rw[vq];simp
  rcases hxy with⟨u,v,rfl,rfl,e⟩|⟨p,p',ns,ms,rfl,rfl,h1,h2,e⟩
  ·refine .inl ⟨u,v,rfl,rfl,?_,sm,_,rfl⟩
   show _++[V.bl (decide (u<v))]=_
   rw[<-e];exact ea
  ·refine .inr ⟨p,p',ns,ms,rfl,rfl,sm.tup h1,sm.tup h2,?_,sm,_,rfl⟩
   show _++[V.bl (HT.lexLt ns ms)]=_
   rw[<-e];exact ea
 ·intro p1 hp1
  obtain⟨rfl,sm,_⟩:=p
  refine⟨p1,(List.range (xs.length-1)).map bs,rfl,SqL.of aH,?_⟩
  rw[tQ]
  exact q _ (sm.trans (aV hp1 _))
theorem ints_of{H:Hp}{n:Int}{xs:List V}{ds:List PyData}(h:tY K H xs ds)(hp:ds.all (cu n)=true):xs=(ds.map intD).map V.int:=by
 induction ds generalizing xs with
 |nil=>cases h;rfl
 |cons d ds ih=>
  rw[List.all_cons,vD]at hp
  cases h with
  |cons h t=>
   obtain⟨i,rfl,_⟩:=Bq hp.1
   cases h
   rw[qM,qM,<-ih t hp.2]
   rfl
theorem Gn{H:Hp}(ns:List Int):∀k,k+1<(ns.map V.int).length->∃x y,(ns.map V.int)[k]? =some x/\(ns.map V.int)[k+1]? =some y/\Wd K H x y (decide (ns.getD k 0<ns.getD (k+1) 0)):=fun k hk=>by
 rw[aF]at hk
 have h1:k<ns.length:=by omega
 refine⟨.int (ns.getD k 0),.int (ns.getD (k+1) 0),by simp[h1],by simp[hk],.inl ⟨_,_,rfl,rfl,rfl⟩⟩
def JK(K:W.Frag):Sp:=fun vs H Q _=>∃(n:Int) (x:V) (d:PyData),vs=[.int n,x]/\DX K H x d/\∀H',Same H H'->Q (.bl (m6 n d)) H'
theorem Ug:FnScope ["n","thing"] ["n","thing"] (defScope jP):=fsc
theorem U8{f f1 f2:Addr}{fd d1 d2:FuncData}(F:Fun K "is_set" "is_set" jP f fd)(D1:bJ K mg "are_places" gn ["n","things"] f1 d1)(G1:FnOk P w K mg base CX0 3 f1 d1 ["n","things"] (yp K))(D2:bJ K mg "is_rising" fH ["things"] f2 d2)(G2:FnOk P w K mg base CX0 1 f2 d2 ["things"] (rP K))(mi:mg "isinstance"=none)(mT:mg "tuple"=none):FnOk P w K mg base CX0 4 f fd ["n","thing"] (JK K):=by
 refine F.ok Ug (fun vs H Q E h=> ?_) (fun cdv A outer s H vs Q E hr h=> ?_)
 ·obtain⟨n,x,d,rfl,_⟩:=h
  rfl
 obtain⟨n,x,d,rfl,hx,q⟩:=h
 refine⟨_,aX (cF (pe_and (fM dU rfl mi (by decide+kernel) (aj (pv 1) (aj (pe_bltn rfl mT (v:= .ty "tuple") (by decide+kernel) rfl) au)))
  (pe_and (pc G1 hr D1 (aj (pv 0) (aj (pv 1) au))) (pe_one (pc G2 hr D2 (aj (pv 1) au)))))),?_⟩
 refine⟨_,rfl,x,_,_,rfl,hx.kind,.inr (.inr (.inl rfl)),_,rfl,?_⟩
 refine ite2 (fun c=> ?_) (fun c=> ?_)
 ·cases hx with
  | @tup a xs ds h t=>
   refine⟨_,rfl,_,rfl,n,a,xs,ds,rfl,h,t,fun H1 sm=>⟨_,rfl,?_⟩⟩
   refine ite2 (fun c2=> ?_) (fun c2=> ?_)
   ·have ex:=ints_of t c2
    refine⟨_,rfl,a,xs,fun k=>decide ((ds.map intD).getD k 0<(ds.map intD).getD (k+1) 0),rfl,sm.tup h,?_,fun H2 sm2=> ?_⟩
    ·rw[ex];exact Gn _
    ·have e:m6 n (.tuple ds)=(List.range (xs.length-1)).all fun k=>decide ((ds.map intD).getD k 0<(ds.map intD).getD (k+1) 0):=by
      show(ds.all (cu n)&&jo (ds.map intD))=_
      rw[c2,t.len]
      show jo (ds.map intD)=_
      unfold jo
      rw[aF]
     have:=q H2 (sm.trans sm2)
     rw[e]at this;exact this
   ·have e:m6 n (.tuple ds)=false:=by
     show(ds.all (cu n)&&jo (ds.map intD))=_
     rw[Bool.eq_false_iff.mpr c2];rfl
    have:=q H1 sm
    rw[e]at this;exact this
  |_=>simp[BW,yZ]at c
 ·have e:m6 n d=false:=by
   cases d<;>first |rfl|(exfalso;exact c rfl)
  have:=q H (Same.refl _)
  rw[e]at this;exact this
def JC(K:W.Frag):Sp:=fun vs H Q _=>∃(n:Int) (x:V) (d:PyData),vs=[.int n,x]/\DX K H x d/\∀H',Same H H'->Q (.bl (rN n d)) H'
theorem O1:FnScope ["n","thing"] ["n","thing"] (defScope jj):=fsc
theorem Dm{H:Hp}{n:Int}{x:V}{d:PyData}(h:DX K H x d)(ht:lW n d=true):∃p,x= .ref p/\SqT K H p (((kids d).map intD).map V.int):=by
 cases h with
 | @tup a xs ds h t=>
  have q:(ds.all (cu n)&&jo (ds.map intD)&&decide (ds.length=2))=true:=ht
  rw[vD,vD]at q
  exact⟨a,rfl,by rw[ints_of t q.1.1]at h;exact h⟩
 |_=>simp[lW,m6]at ht
theorem Gm{H:Hp}{n:Int}{xs:List V}{ds:List PyData}(t:tY K H xs ds)(ha:ds.all (lW n)=true):∀k,k+1<xs.length->∃x y,xs[k]? =some x/\xs[k+1]? =some y/\
  Wd K H x y (HT.lexLt ((ds.map fun t=>(kids t).map intD).getD k []) ((ds.map fun t=>(kids t).map intD).getD (k+1) [])):=fun k hk=>by
 have hl:=t.len
 have h1:k<xs.length:=by omega
 obtain⟨d1,e1,x1⟩:=t.get (i:=k) (x:=xs[k]) (by simp[h1])
 obtain⟨d2,e2,x2⟩:=t.get (i:=k+1) (x:=xs[k+1]) (by simp[hk])
 have m1:=oM.mp ha d1 (iZ e1)
 have m2:=oM.mp ha d2 (iZ e2)
 obtain⟨p1,q1,s1⟩:=Dm x1 m1
 obtain⟨p2,q2,s2⟩:=Dm x2 m2
 refine⟨xs[k],xs[k+1],by simp[h1],by simp[hk],.inr ⟨p1,p2,_,_,q1,q2,s1,s2,?_⟩⟩
 have g1:(ds.map fun t=>(kids t).map intD).getD k []=(kids d1).map intD:=by rw[jC,cg,e1];rfl
 have g2:(ds.map fun t=>(kids t).map intD).getD (k+1) []=(kids d2).map intD:=by rw[jC,cg,e2];rfl
 rw[g1,g2]
theorem Qc{f f1 f2:Addr}{fd d1 d2:FuncData}(F:Fun K "are_ties" "are_ties" jj f fd)(D1:bJ K mg "is_set" jP ["n","thing"] f1 d1)(G1:FnOk P w K mg base CX0 4 f1 d1 ["n","thing"] (JK K))(D2:bJ K mg "is_rising" fH ["things"] f2 d2)(G2:FnOk P w K mg base CX0 1 f2 d2 ["things"] (rP K))(mi:mg "isinstance"=none)(mT:mg "tuple"=none)(mA:mg "all"=none)(mL:mg "len"=none):FnOk P w K mg base CX0 5 f fd ["n","thing"] (JC K):=by
 refine F.ok O1 (fun vs H Q E h=> ?_) (fun cdv A outer s H vs Q E hr h=> ?_)
 ·obtain⟨n,x,d,rfl,_⟩:=h
  rfl
 obtain⟨n,x,d,rfl,hx,q⟩:=h
 refine⟨_,aO (mY (pt_not (uD (fM dU rfl mi (by decide+kernel) (aj (pv 1) (aj (pe_bltn rfl mT (v:= .ty "tuple") (by decide+kernel) rfl) au))))) (aX (cF pe_bl)) oJ) (aX (cF (pe_and (fM (gK rfl) rfl mA (by decide+kernel) (aj (oH (own:=["tie"]) (caps:=["n"]) (ix:=[0]) rfl (Am (pv 1)) rfl rfl (.cons rfl rfl .nil) (fun _ _ _ _ _=>cY (i:=0) (show(["tie","n"]:List Str).Nodup from by decide+kernel) rfl (Or.inl rfl)) (fun _ _ _ _ _=>qb) (fun _ _ _ _ _=>pe_and (pc G1 hr D1 (aj (pv 1) (aj (pv 0) au))) (pe_one (pe_cmpR op_eq (fM (Hw K) rfl mL oU (aj (pv 0) au)) aK (nomark _))))) au))
  (pe_one (pc G2 hr D2 (aj (pv 1) au)))))),?_⟩
 refine⟨_,rfl,x,_,_,rfl,hx.kind,.inr (.inr (.inl rfl)),_,rfl,?_⟩
 refine ite2 (fun c=> ?_) (fun c=> ?_)
 ·have e:rN n d=false:=by
   cases d<;>first |rfl|(exfalso;simp[BW,yZ]at c;done)
  have:=q H (Same.refl _)
  rw[e]at this;exact this
 ·cases hx with
  | @tup a xs ds h t=>
   refine⟨_,rfl,a,xs,rfl,h,fun hz=> ?_⟩
   have hl:=t.len
   refine Iz (xs:=xs) (fun i acc σ H'=>acc=((ds.take i).map (lW n)).map V.bl/\Same H H'/\∃o,σ=[o,some (.int n)]) ⟨rfl,Same.refl _,_,rfl⟩ (fun i acc σ H' _ p=>p.2.1.tup h) (fun i acc σ H' hi p=> ?_) hz (fun i x acc σ H' hx p=> ?_) (fun acc σ H' p=> ?_)
   ·rw[p.1];simp;omega
   ·obtain⟨rfl,sm,o,rfl⟩:=p
    obtain⟨d,e1,e2⟩:=t.get hx
    refine⟨_,rfl,_,rfl,n,x,d,rfl,DX.same sm e2,fun H1 sm1=>⟨_,rfl,?_⟩⟩
    have ea:∀b,b=lW n d->((ds.take i).map (lW n)).map V.bl++[V.bl b]=((ds.take (i+1)).map (lW n)).map V.bl:=fun b hb=>by
     rw[rE,e1,hb];simp
    refine ite2 (fun c2=> ?_) (fun c2=> ?_)
    ·cases e2 with
     | @tup a2 xs2 ds2 h2 t2=>
      refine⟨_,rfl,a2,xs2,rfl,.inr (sm1.tup (sm.tup h2)),fun hz2=>⟨rfl,ea _ ?_,sm.trans sm1,_,rfl⟩⟩
      show decide (V.int (xs2.length:Int)=V.int 2)=(m6 n (.tuple ds2)&&decide (ds2.length=2))
      rw[c2,t2.len]
      by_cases e3:ds2.length=2
      ·rw[e3];rfl
      ·rw[iY e3,iY (by intro z;injection z with z;exact e3 (by omega))];rfl
     |_=>simp[m6]at c2
    ·refine⟨ea _ ?_,sm.trans sm1,_,rfl⟩
     show false=(m6 n d&&decide ((kids d).length=2))
     rw[Bool.eq_false_iff.mpr c2];rfl
   ·intro p1 hp1
    obtain⟨rfl,sm,_⟩:=p
    have sm':Same H (upd H' p1 (.lst (((ds.take xs.length).map (lW n)).map V.bl))):=sm.trans (aV hp1 _)
    refine⟨p1,(ds.map (lW n)),rfl,SqL.of (by rw[aH,hl,qe]),_,rfl,?_⟩
    rw[tQ]
    refine ite2 (fun c2=> ?_) (fun c2=> ?_)
    ·refine⟨_,rfl,a,xs,fun k=>HT.lexLt ((ds.map fun t=>(kids t).map intD).getD k []) ((ds.map fun t=>(kids t).map intD).getD (k+1) []),rfl,sm'.tup h,?_,fun H2 sm2=> ?_⟩
     ·exact Gm (tY.same sm' t) c2
     ·have e:rN n (.tuple ds)=(List.range (xs.length-1)).all fun k=>HT.lexLt ((ds.map fun t=>(kids t).map intD).getD k []) ((ds.map fun t=>(kids t).map intD).getD (k+1) []):=by
       show(ds.all (lW n)&&jR (ds.map fun t=>(kids t).map intD))=_
       rw[c2,hl]
       show jR (ds.map fun t=>(kids t).map intD)=_
       unfold jR
       rw[aF]
      have:=q H2 (sm'.trans sm2)
      rw[e]at this;exact this
    ·have e:rN n (.tuple ds)=false:=by
      show(ds.all (lW n)&&jR (ds.map fun t=>(kids t).map intD))=_
      rw[Bool.eq_false_iff.mpr c2];rfl
     have:=q _ sm'
     rw[e]at this;exact this
  |_=>exfalso;exact c rfl
end
end Hs
namespace vh
open PySem L2
def pairD(p:Int×Int):PyData:= .tuple [.int p.1,.int p.2]
def vB(n:Int)(ts:List (Int×Int)):PyData:= .tuple [.int n,.tuple (ts.map pairD)]
def jG(K:W.Frag)(H:Hp)(a:Addr)(n:Int)(ts:List (Int×Int)):Prop:=∃t rs,SqT K H a [.int n,.ref t]/\SqT K H t rs/\dI K H rs (ts.map pairD)
theorem jG.dv{K:W.Frag}{H:Hp}{a:Addr}{n:Int}{ts:List (Int×Int)}(h:jG K H a n ts):DV K H (.ref a) (vB n ts):=by
 obtain⟨t,rs,h1,h2,h3⟩:=h
 exact .tup h1 (.cons (.int n) (.cons (.tup h2 h3) .nil))
theorem jG.same{K:W.Frag}{H H':Hp}{a:Addr}{n:Int}{ts:List (Int×Int)}(h:jG K H a n ts)(e:Same H H'):jG K H' a n ts:=by
 obtain⟨t,rs,h1,h2,h3⟩:=h
 exact⟨t,rs,e.tup h1,e.tup h2,dI.same e h3⟩
def bh(ts:List (Int×Int))(i j:Int):Bool:=decide ((if j<i then j else i,if j>i then j else i)∈ts)
theorem zL(p q:Int×Int):PyData.eqv (pairD p) (pairD q)=decide (p=q):=by
 obtain⟨a,b⟩:=p
 obtain⟨c,d⟩:=q
 show((a==c)&&((b==d)&&true))=_
 rw[Al]
 simp
theorem uU:∀ts:List (Int×Int),PyData.canLayAll0 (ts.map pairD)=true
 |[]=>rfl
 |p::ts=>by
  show(PyData.canLay0 (pairD p)&&PyData.canLayAll0 (ts.map pairD))=true
  rw[uU ts];rfl
theorem Nf(ts:List (Int×Int))(q:Int×Int):((ts.map pairD).any fun d=>PyData.eqv d (pairD q))=decide (q∈ts):=by
 rw[List.any_map,Al,List.any_eq_true]
 constructor
 ·rintro⟨p,hp,h⟩
  have h':PyData.eqv (pairD p) (pairD q)=true:=h
  rw[zL]at h'
  have e:p=q:=xT h'
  subst e
  exact gb hp
 ·intro h
  refine⟨q,xT h,?_⟩
  show PyData.eqv (pairD q) (pairD q)=true
  rw[zL]
  exact gb rfl
end vh
namespace Hs
open PySem L2 vh
section
variable{P:Program}{w:World}{K:W.Frag}{mg:Str->Option Value}{base:Heap}
def RJ(K:W.Frag):Sp:=fun vs H Q _=>∃(x:V) (d:PyData),vs=[x]/\DX K H x d/\∀H',Same H H'->Q (.bl (vC d)) H'
theorem Kf:FnScope ["thing","n"] ["thing"] (defScope nF):=fsc
theorem UG{f f1 f2:Addr}{fd d1 d2:FuncData}{tk:Tok}(F:Fun K "is_web" "is_web" nF f fd)(D1:bJ K mg "is_whole" Rj ["thing"] f1 d1)(G1:FnOk P w K mg base CX0 1 f1 d1 ["thing"] (kJ K))(D2:bJ K mg "are_ties" jj ["n","thing"] f2 d2)(G2:FnOk P w K mg base CX0 5 f2 d2 ["n","thing"] (JC K))(mi:mg "isinstance"=none)(mT:mg "tuple"=none)(mL:mg "len"=none)(mM:mg "MOST_PLACES"=some (.int 10 tk)):FnOk P w K mg base CX0 6 f fd ["thing"] (RJ K):=by
 refine F.ok Kf (fun vs H Q E h=> ?_) (fun cdv A outer s H vs Q E hr h=> ?_)
 ·obtain⟨x,d,rfl,_⟩:=h
  rfl
 obtain⟨x,d,rfl,hx,q⟩:=h
 refine⟨_,aO (mY (PW.pt (pw_or (pt_not (uD (fM dU rfl mi (by decide+kernel) (aj (pv 0) (aj (pe_bltn rfl mT (v:= .ty "tuple") (by decide+kernel) rfl) au)))))
   (pw_or1 (kj op_ne (fM qd rfl mL oU (aj (pv 0) au)) aK (nomark _))))) (aX (cF pe_bl)) oJ) (aO (cV (i:=1) Kf.nd rfl (Or.inl rfl) (bB gQ (pv 0) aK (fun _ _=>rfl))) (aX (cF (pe_and (pc G1 hr D1 (aj (pv 1) au)) (pe_and (pe_chain op_le op_le aK (pv 1) (pe_glob rfl mM (v:= .int 10) ⟨_,rfl⟩))
   (pe_one (pc G2 hr D2 (aj (pv 1) (aj (bB gQ (pv 0) aK (fun _ _=>rfl)) au))))))))),?_⟩
 refine⟨_,rfl,x,_,_,rfl,hx.kind,.inr (.inr (.inl rfl)),_,rfl,?_⟩
 refine ite2 (fun c=> ?_) (fun c=> ?_)
 ·have e:vC d=false:=by
   cases d<;>first |rfl|(exfalso;simp[BW,yZ]at c;done)
  have:=q H (Same.refl _)
  rw[e]at this;exact this
 ·cases hx with
  | @tup a xs ds h t=>
   have hl:=t.len
   refine⟨_,rfl,a,xs,rfl,.inr h,fun hz=>⟨rfl,_,rfl,?_⟩⟩
   refine ite2 (fun c2=> ?_) (fun c2=> ?_)
   ·have e:vC (.tuple ds)=false:=by
     match ds,hl with
     |[],_=>rfl
     |[_],_=>rfl
     |[_,_],hl=>
      exfalso
      have e2:(!decide (V.int (xs.length:Int)=V.int 2))=true:=c2
      rw[hl]at e2
      simp at e2
     |_::_::_::_,_=>rfl
    have:=q H (Same.refl _)
    rw[e]at this;exact this
   ·have e2:xs.length=2:=by
     have e2:¬(!decide (V.int (xs.length:Int)=V.int 2))=true:=c2
     simp at e2
     omega
    cases t with
    |nil=>simp at e2
    |cons h0 t0=>
     cases t0 with
     |nil=>simp at e2
     | @cons x1 W5 xs1 ds1 h1 t1=>
      cases t1 with
      |cons _ _=>simp at e2
      |nil=>
       rename_i x0 W6
       refine⟨_,rfl,a,_,_,x0,rfl,rfl,h,by rfl,?_⟩
       refine⟨_,rfl,x0,W6,rfl,h0,_,rfl,?_⟩
       refine ite2 (fun c3=> ?_) (fun c3=> ?_)
       ·cases h0 with
        |int n=>
         refine⟨_,rfl,_,_,rfl,rfl,_,rfl,?_⟩
         have fin:∀b,b=vC (.tuple [.int n,W5])->∀H',Same H H'->Q (.bl b) H':=fun b hb H' sm=>by rw[hb];exact q H' sm
         have wd:vC (.tuple [.int n,W5])=((decide (0<=n)&&decide (n<=10))&&rN n W5):=rfl
         refine ite2 (fun c4=> ?_) (fun c4=> ?_)
         ·refine⟨_,_,rfl,rfl,_,rfl,?_⟩
          refine ite2 (fun c5=> ?_) (fun c5=> ?_)
          ·refine⟨_,rfl,_,rfl,a,_,_,x1,rfl,rfl,h,by rfl,n,x1,W5,rfl,h1,fun H' sm=>fin _ ?_ H' sm⟩
           rw[wd,c4,c5];rfl
          ·refine fin _ ?_ H (Same.refl _)
           rw[wd,Bool.eq_false_iff.mpr c5,wgo];rfl
         ·refine⟨_,rfl,?_⟩
          refine iteF (fin _ ?_ H (Same.refl _))
          rw[wd,Bool.eq_false_iff.mpr c4];rfl
        |_=>simp[rF]at c3
       ·have e:vC (.tuple [W6,W5])=false:=by
         show(rF W6&&(decide (0<=intD W6)&&decide (intD W6<=10))&&rN (intD W6) W5)=false
         rw[Bool.eq_false_iff.mpr c3];rfl
        have:=q H (Same.refl _)
        rw[e]at this;exact this
  |_=>exfalso;exact c rfl
def cR(K:W.Frag):Sp:=fun vs H Q _=>∃(x:V) (d:PyData),vs=[x]/\DX K H x d/\vC d=true/\∀H',Same H H'->Q .non H'
theorem Bk:FnScope ["thing"] ["thing"] (defScope IV):=fsc
theorem Bt{f f1:Addr}{fd d1:FuncData}(F:Fun K "need_web" "need_web" IV f fd)(D1:bJ K mg "is_web" nF ["thing"] f1 d1)(G1:FnOk P w K mg base CX0 6 f1 d1 ["thing"] (RJ K)):FnOk P w K mg base CX0 7 f fd ["thing"] (cR K):=by
 refine F.ok Bk (fun vs H Q E h=> ?_) (fun cdv A outer s H vs Q E hr h=> ?_)
 ·obtain⟨x,d,rfl,_⟩:=h
  rfl
 obtain⟨x,d,rfl,hx,hw,q⟩:=h
 refine⟨_,aX (mY (pt_not (uD (pc G1 hr D1 (aj (pv 0) au)))) pss_never oJ),?_⟩
 refine⟨_,rfl,x,d,rfl,hx,fun H' sm=>⟨_,rfl,?_⟩⟩
 rw[hw]
 exact iteF (q H' sm)
def uM(K:W.Frag):Sp:=fun vs H Q _=>∃(a:Addr) (n:Int) (t x:V) (d:PyData),vs=[.ref a,x]/\SqT K H a [.int n,t]/\DX K H x d/\m6 n d=true/\∀H',Same H H'->Q .non H'
theorem Bl:FnScope ["web","thing"] ["web","thing"] (defScope jg):=fsc
theorem Bu{f f1:Addr}{fd d1:FuncData}(F:Fun K "need_set" "need_set" jg f fd)(D1:bJ K mg "is_set" jP ["n","thing"] f1 d1)(G1:FnOk P w K mg base CX0 4 f1 d1 ["n","thing"] (JK K)):FnOk P w K mg base CX0 5 f fd ["web","thing"] (uM K):=by
 refine F.ok Bl (fun vs H Q E h=> ?_) (fun cdv A outer s H vs Q E hr h=> ?_)
 ·obtain⟨a,n,t,x,d,rfl,_⟩:=h
  rfl
 obtain⟨a,n,t,x,d,rfl,ha,hx,hd,q⟩:=h
 refine⟨_,aX (mY (pt_not (uD (pc G1 hr D1 (aj (bB gQ (pv 0) aK (fun _ _=>rfl)) (aj (pv 1) au))))) pss_never oJ),?_⟩
 refine⟨_,rfl,a,_,_,.int n,rfl,rfl,ha,rfl,_,rfl,n,x,d,rfl,hx,fun H' sm=>⟨_,rfl,?_⟩⟩
 rw[hd]
 exact iteF (q H' sm)
def DG(K:W.Frag):Sp:=fun vs H Q _=>∃(a:Addr) (n i j:Int) (ts:List (Int×Int)),vs=[.ref a,.int i,.int j]/\jG K H a n ts/\∀H',Same H H'->Q (.bl (bh ts i j)) H'
theorem Uh:FnScope ["web","one","other"] ["web","one","other"] (defScope gG):=fsc
theorem Vb{f:Addr}{fd:FuncData}(F:Fun K "has_tie" "has_tie" gG f fd)(mi:mg "min"=none)(ma:mg "max"=none):FnOk P w K mg base CX0 1 f fd ["web","one","other"] (DG K):=by
 refine F.ok Uh (fun vs H Q E h=> ?_) (fun cdv A outer s H vs Q E hr h=> ?_)
 ·obtain⟨a,n,i,j,ts,rfl,_⟩:=h
  rfl
 obtain⟨a,n,i,j,ts,rfl,hW,q⟩:=h
 refine⟨_,aX (cF (pe_cmpR (KQ hr.units) (oG (aj (fM (call_min2 rfl) rfl mi (by decide+kernel) (aj (pv 1) (aj (pv 2) au))) (aj (fM (call_max2 rfl) rfl ma (by decide+kernel) (aj (pv 1) (aj (pv 2) au))) au)))
  (bB gQ (pv 0) aK (fun _ _=>rfl)) (by with_unfolding_all rfl))),?_⟩
 refine⟨_,rfl,_,rfl,_,_,rfl,_,rfl,_,rfl,_,_,rfl,(by show 2<=sizeLine;decide),fun p hp=> ?_⟩
 have sm:=aV hp (.tup [.int (if j<i then j else i),.int (if j>i then j else i)])
 obtain⟨t,rs,h1,h2,h3⟩:=hW.same sm
 refine⟨_,rfl,a,_,_,.ref t,rfl,rfl,h1,rfl,t,rs,_,pairD (if j<i then j else i,if j>i then j else i),rfl,.inr h2,h3,.tup (SqT.of aH) (.cons (.int _) (.cons (.int _) .nil)),uU ts,rfl,(by show max 0 (max 0 0)+1<=60;decide),?_⟩
 rw[Nf]
 exact q _ sm
end
def SM(n:Int)(ts:List (Int×Int)):Prop:=vC (vB n ts)=true
end Hs
namespace L2
open PySem
def aB(t:Addr)(H H':Hp):Prop:=∀b o,b≠t->H b=some o->H' b=some o
theorem aB.refl(t:Addr)(H:Hp):aB t H H:=fun _ _ _ h=>h
theorem aB.trans{t:Addr}{H H1 H2:Hp}(a:aB t H H1)(b:aB t H1 H2):aB t H H2:=fun c o n h=>b c o n (a c o n h)
theorem Same.x{H H':Hp}(h:Same H H')(t:Addr):aB t H H':=fun b o _ e=>h b o e
theorem aB.upd{t:Addr}{H H':Hp}{o:HO}(h:aB t H H'):aB t H (upd H' t o):=fun b u n e=>by rw[cG n];exact h b u n e
def lJ(K:W.Frag)(H:Hp)(bM:Addr)(ns:List Int):Prop:=(∃o,H bM=some (.frz o (.lst (ns.map V.int))))\/
 ∃(o:Obj) (its:Array Value) (n:Nat),K.lookup bM=some o/\o.cls= .type "list"/\o.dict=none/\o.data= .seq its n/\its.size<=sizeLine/\Vals (ns.map V.int) its.toList
theorem lJ.sq{K:W.Frag}{H:Hp}{bM:Addr}{ns:List Int}(h:lJ K H bM ns):SqL K H bM (ns.map V.int):=by
 rcases h with⟨o,h⟩|h
 ·exact .inl (.inr ⟨o,h⟩)
 ·exact .inr h
theorem lJ.m9{K:W.Frag}{H H':Hp}{bM t:Addr}{ns:List Int}{zs:List V}(h:lJ K H bM ns)(e:aB t H H')(n:H t=some (.lst zs)):lJ K H' bM ns:=by
 rcases h with⟨o,h⟩|h
 ·exact .inl ⟨o,e _ _ (ne_of h n (by intro z;cases z)) h⟩
 ·exact .inr h
theorem lJ.same{K:W.Frag}{H H':Hp}{bM:Addr}{ns:List Int}(h:lJ K H bM ns)(e:Same H H'):lJ K H' bM ns:=by
 rcases h with⟨o,h⟩|h
 ·exact .inl ⟨o,e _ _ h⟩
 ·exact .inr h
structure ou(K:W.Frag)(H:Hp)(tp bM:Addr)(ns:List Int):Prop where
 at_:∃(i r:Int),H tp=some (.lst [.ref bM,.int i,.int r])/\0<=i/\0<=r
 aaO:lJ K H bM ns
 len:ns.length<=63
theorem ou.same{K:W.Frag}{H H':Hp}{tp bM:Addr}{ns:List Int}(h:ou K H tp bM ns)(e:Same H H'):ou K H' tp bM ns:=by
 obtain⟨⟨i,r,h1,h2,h3⟩,h4,h5⟩:=h
 exact⟨⟨i,r,e _ _ h1,h2,h3⟩,h4.same e,h5⟩
theorem ou.other{K:W.Frag}{H H':Hp}{tp bM c:Addr}{ns:List Int}{zs:List V}(h:ou K H tp bM ns)(e:aB c H H')(hc:H c=some (.lst zs))(n:tp≠c):ou K H' tp bM ns:=by
 obtain⟨⟨i,r,h1,h2,h3⟩,h4,h5⟩:=h
 exact⟨⟨i,r,e _ _ n h1,h2,h3⟩,h4.m9 e hc,h5⟩
theorem IK:∀ns:List Int,PyData.canLayAll0 (ns.map PyData.int)=true
 |[]=>rfl
 |n::ns=>by
  show(true&&PyData.canLayAll0 (ns.map PyData.int))=true
  rw[IK ns];rfl
structure dZ(K:W.Frag)(H:Hp)(tp bM:Addr)(ns:List Int)(b:Int):Prop where
 tv:ou K H tp bM ns
 le:∃(i r:Int),H tp=some (.lst [.ref bM,.int i,.int r])/\i<=b
theorem dZ.same{K:W.Frag}{H H':Hp}{tp bM:Addr}{ns:List Int}{b:Int}(h:dZ K H tp bM ns b)(e:Same H H'):dZ K H' tp bM ns b:=by
 obtain⟨i,r,h1,h2⟩:=h.le
 exact⟨h.tv.same e,i,r,e _ _ h1,h2⟩
theorem dZ.mono{K:W.Frag}{H:Hp}{tp bM:Addr}{ns:List Int}{b c:Int}(h:dZ K H tp bM ns b)(e:b<=c):dZ K H tp bM ns c:=by
 obtain⟨i,r,h1,h2⟩:=h.le
 exact⟨h.tv,i,r,h1,by omega⟩
theorem dZ.other{K:W.Frag}{H H':Hp}{tp bM c:Addr}{ns:List Int}{b:Int}{zs:List V}(h:dZ K H tp bM ns b)(e:aB c H H')(hc:H c=some (.lst zs))(n:tp≠c):dZ K H' tp bM ns b:=by
 obtain⟨i,r,h1,h2⟩:=h.le
 exact⟨h.tv.other e hc n,i,r,e _ _ n h1,h2⟩
theorem dZ.lst{K:W.Frag}{H:Hp}{tp bM:Addr}{ns:List Int}{b:Int}(h:dZ K H tp bM ns b):∃zs,H tp=some (.lst zs):=by
 obtain⟨i,r,h1,_⟩:=h.le
 exact⟨_,h1⟩
theorem Le{H:Hp}{a b:Addr}{o:HO}(h:H a=some o)(n:H b=none):b≠a:=fun e=>by rw[e,h]at n;cases n
theorem aB.free{t:Addr}{H H':Hp}{a:Addr}(e:aB t H H')(n:a≠t)(h:H' a=none):H a=none:=by
 cases q:H a with
 |none=>rfl
 |some o=>rw[e a o n q]at h;cases h
end L2
namespace Hs
open PySem L2 vh
section
variable{P:Program}{w:World}{K:W.Frag}{mg:Str->Option Value}{base:Heap}
theorem pA(a:Int){b:Int}(h:0<b):0<=a %b:=Int.emod_nonneg _ (by omega)
theorem mod_lt(a:Int){b:Int}(h:0<b):a %b<b:=Int.emod_lt_of_pos _ h
theorem Fp{ns:List Int}{k:Int}(h0:0<=k)(h1:k<(ns.length:Int)):∃v:Int,atI (ns.map V.int) k=some (.int v)/\ns[k.toNat]? =some v:=by
 have hk:k.toNat<ns.length:=by omega
 have ek:((k.toNat:Nat):Int)=k:=by omega
 have q:atI (ns.map V.int) ((k.toNat:Nat):Int)=some (.int ns[k.toNat]):=atI_nat (by rw[cg,gH hk];rfl)
 rw[ek]at q
 exact⟨_,q,gH hk⟩
def DK(K:W.Frag):Sp:=fun vs H Q _=>∃(c i:Int),vs=[.int c,.int i]/\0<=i/\i<=1000000000/\∀r,0<=r->Q (.int r) H
theorem m7:FnScope ["cell","at","one","two","three"] ["cell","at"] (defScope gj):=fsc
theorem K8{f:Addr}{fd:FuncData}(F:Fun K "_law_e_stir" "_law_e_stir" gj f fd):
  FnOk P w K mg base CX0 1 f fd ["cell","at"] (DK K):=by
 refine F.ok m7 (fun vs H Q E h=> ?_) (fun cdv A outer s H vs Q E hr h=> ?_)
 ·obtain⟨c,i,rfl,_⟩:=h
  rfl
 obtain⟨c,i,rfl,hi0,hi1,q⟩:=h
 refine⟨_,(aO (mY (kj op_ge (pv 0) (bN op_pow aK aK) (nomark _)) (aX (cF (pv 0))) oJ) (aO (cV (i:=2) m7.nd rfl (Or.inl rfl) (bN op_mod (bN qy (bN qy (bN p8 (bN op_mod (pv 0) aK) aK) (bN p8 (pv 1) aK)) aK) aK)) (aO (cV (i:=3) m7.nd rfl (Or.inl rfl) (bN op_mod (bN qy (bN qy (bN qy (bN p8 (pv 2) (pv 2)) (bN p8 (bN p8 aK (pv 1)) (pv 1))) (bN p8 aK (pv 2))) aK) aK)) (aO (cV (i:=4) m7.nd rfl (Or.inl rfl) (bN op_mod (bN qy (bN qy (bN qy (bN p8 (pv 3) (pv 3)) (bN p8 aK (pv 3))) (pv 2)) (pv 1)) aK)) (aX (cF (bN qy (bN p8 (pv 3) aK) (pv 4)))))))),?_⟩
 refine⟨_,rfl,_,_,rfl,rfl,⟨by decide,by decide,by decide⟩,_,_,rfl,rfl,_,rfl,?_⟩
 refine ite2 (fun c1=> ?_) (fun c1=> ?_)
 ·have c2:(10:Int)^(18:Int).toNat<=c:=xT c1
  have c3:(0:Int)<=10^(18:Int).toNat:=by decide
  exact⟨_,rfl,q c (by omega)⟩
 ·refine⟨_,rfl,_,_,rfl,rfl,(by show(0:Int)<2147483549;decide),_,_,rfl,rfl,.inr ⟨by decide,by decide⟩,_,rfl,_,_,rfl,rfl,.inr ⟨by decide,by decide⟩,_,_,rfl,rfl,_,_,rfl,rfl,_,_,rfl,rfl,(by show(0:Int)<2147483543;decide),?_⟩
  generalize hfirst:((fun i j=>V.int (i %j)) _ _:V)=vf
  obtain⟨a1,e1,a2,a3⟩:∃a:Int,vf= .int a/\0<=a/\a<2147483543:=⟨_,hfirst.symm,pA _ (by decide),mod_lt _ (by decide)⟩
  rw[e1]
  refine⟨_,rfl,_,rfl,_,_,rfl,rfl,.inl ⟨by omega,by omega⟩,_,rfl,_,_,rfl,rfl,.inl ⟨by decide,by decide⟩,_,rfl,_,_,rfl,rfl,.inr ⟨by omega,by omega⟩,_,_,rfl,rfl,_,rfl,_,_,rfl,rfl,.inl ⟨by decide,by decide⟩,_,_,rfl,rfl,_,_,rfl,rfl,_,_,rfl,rfl,(by show(0:Int)<2147483497;decide),?_⟩
  generalize aay:((fun i j=>V.int (i %j)) _ _:V)=vs
  obtain⟨b1,f1,b2,b3⟩:∃a:Int,vs= .int a/\0<=a/\a<2147483497:=⟨_,aay.symm,pA _ (by decide),mod_lt _ (by decide)⟩
  rw[f1]
  refine⟨_,rfl,_,rfl,_,_,rfl,rfl,.inl ⟨by omega,by omega⟩,_,rfl,_,_,rfl,rfl,.inl ⟨by decide,by decide⟩,_,_,rfl,rfl,_,rfl,_,_,rfl,rfl,_,rfl,_,_,rfl,rfl,_,_,rfl,rfl,(by show(0:Int)<2147483489;decide),?_⟩
  generalize aaw:((fun i j=>V.int (i %j)) _ _:V)=vt
  obtain⟨c1',g1,c2,c3⟩:∃a:Int,vt= .int a/\0<=a/\a<2147483489:=⟨_,aaw.symm,pA _ (by decide),mod_lt _ (by decide)⟩
  rw[g1]
  refine⟨_,rfl,_,_,rfl,rfl,.inr ⟨by decide,by decide⟩,_,rfl,_,_,rfl,rfl,q _ ?_⟩
  have:=Ai b2 (show(0:Int)<=2147483489 by decide)
  omega
def DN(K:W.Frag):Sp:=fun vs H Q _=>∃(tp bM:Addr) (ns:List Int) (m b:Int),vs=[.ref tp,.int m]/\dZ K H tp bM ns b/\b<=1000000000/\0<m/\m<1000000000000000000000000000000/\
 ∀r H',0<=r->r<m->aB tp H H'->dZ K H' tp bM ns (b+1)->Q (.int r) H'
theorem oX:FnScope ["cup","many","at","cell","found"] ["cup","many"] (defScope Wh):=fsc
theorem Vf{f f1:Addr}{fd d1:FuncData}(F:Fun K "_law_e_dip" "_law_e_dip" Wh f fd)(D1:bJ K mg "_law_e_stir" gj ["cell","at"] f1 d1)(G1:FnOk P w K mg base CX0 1 f1 d1 ["cell","at"] (DK K))(bw:mg "len"=none):
  FnOk P w K mg base CX0 2 f fd ["cup","many"] (DN K):=by
 refine F.ok oX (fun vs H Q E h=> ?_) (fun cdv A outer s H vs Q E hr h=> ?_)
 ·obtain⟨tp,bM,ns,m,b,rfl,_⟩:=h
  rfl
 obtain⟨tp,bM,ns,m,b,rfl,hC,hb,hm0,hm1,q⟩:=h
 refine⟨_,(aO (mY (kj op_lt (bB jJ (pv 0) aK (fun _ _=>rfl)) (pv 1) (nomark _)) (aO (cV (i:=2) oX.nd rfl (Or.inl rfl) (bB jJ (pv 0) aK (fun _ _=>rfl))) (aO (cV (i:=3) oX.nd rfl (Or.inl rfl) (bN qy (bN p8 aK (pv 2)) aK)) (aO (mY (kj op_lt (pv 2) (fM qd rfl bw oU (aj (bB jJ (pv 0) aK (fun _ _=>rfl)) au)) (nomark _)) (aX (cV (i:=3) oX.nd rfl (Or.inl rfl) (bB jJ (bB jJ (pv 0) aK (fun _ _=>rfl)) (pv 2) (fun _ _=>rfl)))) (aX (mY (kj op_gt (fM qd rfl bw oU (aj (bB jJ (pv 0) aK (fun _ _=>rfl)) au)) aK (nomark _)) (aX (cV (i:=3) oX.nd rfl (Or.inl rfl) (bN qy (bN op_mod (bB jJ (bB jJ (pv 0) aK (fun _ _=>rfl)) (bN op_mod (bN qy (bN p8 aK (pv 2)) aK) (fM qd rfl bw oU (aj (bB jJ (pv 0) aK (fun _ _=>rfl)) au))) (fun _ _=>rfl)) aK) (bN p8 (pv 2) aK)))) oJ))) (aO (ps_asg (bN qy (pv 2) aK) (pg_sub (pv 0) aK set_list)) (aX (ps_asg (pc G1 hr D1 (aj (pv 3) (aj (pv 2) au))) (pg_sub (pv 0) aK set_list))))))) oJ) (aO (cV (i:=4) oX.nd rfl (Or.inl rfl) (bN op_mod (bB jJ (pv 0) aK (fun _ _=>rfl)) (pv 1))) (aO (ps_asg (bN nO (bB jJ (pv 0) aK (fun _ _=>rfl)) (pv 1)) (pg_sub (pv 0) aK set_list)) (aX (cF (pv 4)))))),?_⟩
 obtain⟨⟨⟨i,r,hH,hi,hr0⟩,hS0,h63⟩,i',r',hH',hle⟩:=hC
 have ei:i'=i/\r'=r:=by
  rw[hH]at hH'
  injection hH' with e1
  injection e1 with e2
  injection e2 with _ e3
  injection e3 with e4 e5
  injection e5 with e6 _
  injection e4 with e4
  injection e6 with e6
  exact⟨e4.symm,e6.symm⟩
 obtain⟨rfl,rfl⟩:=ei
 have hS:=hS0.sq
 refine⟨_,rfl,tp,_,_,.int r',rfl,rfl,SqL.of hH,rfl,_,rfl,_,_,rfl,rfl,_,rfl,?_⟩
 refine ite2 (fun c=> ?_) (fun c=> ?_)
 ·refine⟨_,rfl,tp,_,_,.int i',rfl,rfl,SqL.of hH,rfl,?_⟩
  refine⟨_,rfl,_,_,rfl,rfl,.inl ⟨by decide,by decide⟩,_,_,rfl,rfl,?_⟩
  refine⟨_,rfl,_,rfl,tp,_,_,.ref bM,rfl,rfl,SqL.of hH,rfl,bM,_,rfl,.inl hS,fun hz=>⟨_,_,rfl,rfl,_,rfl,?_⟩⟩
  have go:∀r2,0<=r2->∀q',q'=r2/m->
    ((0:Int)<=r2 %m/\r2 %m<m)/\aB tp H (upd (upd (upd H tp (.lst [.ref bM,.int (i'+1),.int r'])) tp (.lst [.ref bM,.int (i'+1),.int r2])) tp (.lst [.ref bM,.int (i'+1),.int q']))/\
    dZ K (upd (upd (upd H tp (.lst [.ref bM,.int (i'+1),.int r'])) tp (.lst [.ref bM,.int (i'+1),.int r2])) tp (.lst [.ref bM,.int (i'+1),.int q'])) tp bM ns (b+1):=fun r2 h0 q' hq=>by
   have sx:aB tp H (upd (upd (upd H tp (.lst [.ref bM,.int (i'+1),.int r'])) tp (.lst [.ref bM,.int (i'+1),.int r2])) tp (.lst [.ref bM,.int (i'+1),.int q'])):=(aB.refl _ _).upd.upd.upd
   have hq0:0<=q':=by rw[hq];exact wgh h0 (by omega)
   exact⟨⟨pA _ hm0,mod_lt _ hm0⟩,sx,⟨⟨i'+1,q',aH,by omega,hq0⟩,hS0.m9 sx hH,h63⟩,i'+1,q',aH,by omega⟩
  refine ite2 (fun c2=> ?_) (fun c2=> ?_)
  ·have c3:i'<((ns.map V.int).length:Int):=xT c2
   rw[aF]at c3
   obtain⟨v,hx,_⟩:=Fp hi c3
   refine⟨_,rfl,tp,_,_,.ref bM,rfl,rfl,SqL.of hH,rfl,_,rfl,bM,_,_,_,rfl,rfl,hS,hx,?_⟩
   refine⟨_,rfl,_,_,rfl,rfl,_,rfl,tp,_,_,1,rfl,rfl,hH,rfl,?_⟩
   refine⟨_,rfl,_,rfl,_,_,rfl,hi,by omega,fun r2 h0=>⟨_,rfl,tp,_,_,2,rfl,rfl,aH,rfl,?_⟩⟩
   obtain⟨⟨g1,g2⟩,g3,g4⟩:=go r2 h0 _ rfl
   refine⟨_,rfl,tp,_,_,.int r2,rfl,rfl,SqL.of aH,rfl,_,rfl,_,_,rfl,rfl,hm0,?_⟩
   refine⟨_,rfl,tp,_,_,.int r2,rfl,rfl,SqL.of aH,rfl,_,rfl,_,_,rfl,rfl,⟨hm0,hm1⟩,_,rfl,tp,_,_,2,rfl,rfl,aH,rfl,?_⟩
   exact⟨_,rfl,q _ _ g1 g2 g3 g4⟩
  ·refine⟨_,rfl,tp,_,_,.ref bM,rfl,rfl,SqL.of hH,rfl,bM,_,rfl,.inl hS,fun hz2=>⟨_,_,rfl,rfl,_,rfl,?_⟩⟩
   refine ite2 (fun c4=> ?_) (fun c4=> ?_)
   ·have e3:(0:Int)<((ns.map V.int).length:Int):=xT c4
    have hk1:=pA (5*i'+2) e3
    have hk2:=mod_lt (5*i'+2) e3
    rw[aF]at hk1 hk2
    obtain⟨v,hx,_⟩:=Fp hk1 hk2
    rw[<-aF (f:=V.int)]at hx
    refine⟨_,rfl,tp,_,_,.ref bM,rfl,rfl,SqL.of hH,rfl,_,rfl,_,_,rfl,rfl,.inl ⟨by decide,by decide⟩,_,_,rfl,rfl,_,rfl,tp,_,_,.ref bM,rfl,rfl,SqL.of hH,rfl,bM,_,rfl,.inl hS,fun hz2=>⟨_,_,rfl,rfl,e3,bM,_,_,_,rfl,rfl,hS,hx,?_⟩⟩
    refine⟨_,_,rfl,rfl,(by show(0:Int)<777777769;decide),_,rfl,_,_,rfl,rfl,.inr ⟨by decide,by decide⟩,_,_,rfl,rfl,?_⟩
    refine⟨_,rfl,_,_,rfl,rfl,_,rfl,tp,_,_,1,rfl,rfl,hH,rfl,?_⟩
    refine⟨_,rfl,_,rfl,_,_,rfl,hi,by omega,fun r2 h0=>⟨_,rfl,tp,_,_,2,rfl,rfl,aH,rfl,?_⟩⟩
    obtain⟨⟨g1,g2⟩,g3,g4⟩:=go r2 h0 _ rfl
    refine⟨_,rfl,tp,_,_,.int r2,rfl,rfl,SqL.of aH,rfl,_,rfl,_,_,rfl,rfl,hm0,?_⟩
    refine⟨_,rfl,tp,_,_,.int r2,rfl,rfl,SqL.of aH,rfl,_,rfl,_,_,rfl,rfl,⟨hm0,hm1⟩,_,rfl,tp,_,_,2,rfl,rfl,aH,rfl,?_⟩
    exact⟨_,rfl,q _ _ g1 g2 g3 g4⟩
   ·refine⟨_,rfl,_,_,rfl,rfl,_,rfl,tp,_,_,1,rfl,rfl,hH,rfl,?_⟩
    refine⟨_,rfl,_,rfl,_,_,rfl,hi,by omega,fun r2 h0=>⟨_,rfl,tp,_,_,2,rfl,rfl,aH,rfl,?_⟩⟩
    obtain⟨⟨g1,g2⟩,g3,g4⟩:=go r2 h0 _ rfl
    refine⟨_,rfl,tp,_,_,.int r2,rfl,rfl,SqL.of aH,rfl,_,rfl,_,_,rfl,rfl,hm0,?_⟩
    refine⟨_,rfl,tp,_,_,.int r2,rfl,rfl,SqL.of aH,rfl,_,rfl,_,_,rfl,rfl,⟨hm0,hm1⟩,_,rfl,tp,_,_,2,rfl,rfl,aH,rfl,?_⟩
    exact⟨_,rfl,q _ _ g1 g2 g3 g4⟩
 ·refine⟨_,rfl,tp,_,_,.int r',rfl,rfl,SqL.of hH,rfl,_,rfl,_,_,rfl,rfl,hm0,?_⟩
  refine⟨_,rfl,tp,_,_,.int r',rfl,rfl,SqL.of hH,rfl,_,rfl,_,_,rfl,rfl,⟨hm0,hm1⟩,_,rfl,tp,_,_,2,rfl,rfl,hH,rfl,?_⟩
  have sx:aB tp H (upd H tp (.lst [.ref bM,.int i',.int (r'/m)])):=(aB.refl _ _).upd
  have hq0:0<=r'/m:=wgh hr0 (by omega)
  exact⟨_,rfl,q _ _ (pA _ hm0) (mod_lt _ hm0) sx ⟨⟨⟨i',r'/m,aH,hi,hq0⟩,hS0.m9 sx hH,h63⟩,i',r'/m,aH,by omega⟩⟩
end
end Hs
namespace L2
open PySem
theorem dI.append{K:W.Frag}{H:Hp}{xs ys:List V}{ds es:List PyData}(h:dI K H xs ds)(h':dI K H ys es):dI K H (xs++ys) (ds++es):=
 dI.rec (motive_1:=fun _ _ _=>True) (motive_2:=fun xs ds _=>dI K H (xs++ys) (ds++es)) trivial (fun _=>trivial) (fun _=>trivial) (fun _=>trivial) (fun _ _ _=>trivial) (fun _ _ _=>trivial) (fun _=>trivial) (fun _ _=>trivial) h' (fun h _ _ t=> .cons h t) h
theorem aB.tup{K:W.Frag}{t:Addr}{H H':Hp}{a:Addr}{xs zs:List V}(e:aB t H H')(n:H t=some (.lst zs))(h:SqT K H a xs):SqT K H' a xs:=by
 rcases h with(h|⟨o,h⟩)|h
 ·exact .inl (.inl (e _ _ (ne_of h n (by intro z;cases z)) h))
 ·exact .inl (.inr ⟨o,e _ _ (ne_of h n (by intro z;cases z)) h⟩)
 ·exact .inr h
end L2
namespace vh
open PySem L2
theorem iw{K:W.Frag}{t:Addr}{H H':Hp}{zs:List V}(e:aB t H H')(n:H t=some (.lst zs)){rs:List V}{ps:List (Int×Int)}(h:dI K H rs (ps.map pairD)):dI K H' rs (ps.map pairD):=by
 induction ps generalizing rs with
 |nil=>cases h;exact .nil
 |cons p ps ih=>
  cases h with
  |cons h tl=>
   refine .cons ?_ (ih tl)
   cases h with
   |tup h hd=>
    cases hd with
    |cons a1 t1=>
     cases a1
     cases t1 with
     |cons a2 t2=>
      cases a2
      cases t2
      exact .tup (e.tup n h) (.cons (.int _) (.cons (.int _) .nil))
theorem jG.m9{K:W.Frag}{t:Addr}{H H':Hp}{zs:List V}{a:Addr}{n:Int}{ts:List (Int×Int)}(h:jG K H a n ts)(e:aB t H H')(hn:H t=some (.lst zs)):jG K H' a n ts:=by
 obtain⟨u,rs,h1,h2,h3⟩:=h
 exact⟨u,rs,e.tup hn h1,e.tup hn h2,iw e hn h3⟩
structure Sub(j:Nat)(l:List Int):Prop where
 nd:l.Nodup
 lt:∀i∈l,0<=i/\i<(j:Int)
theorem iQ{α:Type} [DecidableEq α]:∀{l m:List α},l.Nodup->(∀a∈l,a∈m)->l.length<=m.length
 |[],m,_,_=>dJ _
 |a::l,m,nd,h=>by
  have ha:=h a cX
  have nd':=IW.mp nd
  have q:∀b∈l,b∈m.erase a:=fun b hb=>by
   have hne:b≠a:=fun e=>nd'.1 (e▸hb)
   exact(List.mem_erase_of_ne hne).mpr (h b (eE _ hb))
  have:=iQ nd'.2 q
  have e:=wew ha
  have:0<m.length:=yee ha
  simp only[rD]
  omega
theorem Sub.len{j:Nat}{l:List Int}(h:Sub j l):l.length<=j:=by
 have q:=iQ (m:=(List.range j).map fun(k:Nat)=>(k:Int)) h.nd fun i hi=>by
  have:=h.lt i hi
  exact iV.mpr ⟨i.toNat,tZ.mpr (by omega),by omega⟩
 simpa using q
structure bW(n:Int)(ps:List (Int×Int)):Prop where
 nd:ps.Nodup
 lt:∀p∈ps,0<=p.1/\p.1<p.2/\p.2<n
def ZV(n:Nat):List (Int×Int):=((List.range n).map fun(j:Nat)=>(List.range j).map fun(i:Nat)=>((i:Int),(j:Int))).flatten
theorem pairs_len{n:Int}{ps:List (Int×Int)}(h:bW n ps)(hn:n<=10):ps.length<=45:=by
 have q:=iQ (m:=ZV 10) h.nd fun p hp=>by
  obtain⟨h0,h1,h2⟩:=h.lt p hp
  obtain⟨a,b⟩:=p
  dsimp only at h0 h1 h2
  refine List.mem_flatten.mpr ⟨(List.range b.toNat).map fun(i:Nat)=>((i:Int),((b.toNat:Nat):Int)),iV.mpr ⟨b.toNat,tZ.mpr (by omega),rfl⟩,iV.mpr ⟨a.toNat,tZ.mpr (by omega),?_⟩⟩
  have e1:((a.toNat:Nat):Int)=a:=by omega
  have e2:((b.toNat:Nat):Int)=b:=by omega
  rw[e1,e2]
 have e:(ZV 10).length=45:=by decide
 omega
def pl(p:Int×Int):List Int:=[p.1,p.2]
theorem Uu{p q:Int×Int}(h:pl p=pl q):p=q:=by
 obtain⟨a,b⟩:=p
 obtain⟨c,d⟩:=q
 unfold pl at h
 simp at h
 rw[h.1,h.2]
theorem Vo{a b:List Int}(h:HT.lexLt b a=false)(ne:a≠b):HT.lexLt a b=true:=by
 rw[HT.bY]at h⊢
 have h1:¬b<a:=TY h
 have h2:a<=b:=NK.mp h1
 refine gb ?_
 rcases Classical.em (a<b)with h3|h3
 ·exact h3
 ·exact absurd (wfo h2 (NK.mp h3)) ne
theorem Js{n:Int}{p:Int×Int}(h0:0<=p.1)(h1:p.1<p.2)(h2:p.2<n):lW n (pairD p)=true:=by
 show((cu n (.int p.1)&&(cu n (.int p.2)&&true))&&jo [p.1,p.2]&&decide (([PyData.int p.1,PyData.int p.2]).length=2))=true
 have e1:cu n (.int p.1)=true:=by
  show(decide (0<=p.1)&&decide (p.1<n))=true
  rw[gb h0,gb (by omega)];rfl
 have e2:cu n (.int p.2)=true:=by
  show(decide (0<=p.2)&&decide (p.2<n))=true
  rw[gb (by omega),gb h2];rfl
 have e3:jo [p.1,p.2]=true:=by
  show(decide (p.1<p.2)&&true)=true
  rw[gb h1];rfl
 rw[e1,e2,e3];rfl
theorem Tv{n:Int}{ts:List (Int×Int)}(hn0:0<=n)(hn1:n<=10)(h:bW n ts)(hs:ts.Pairwise fun p q=>HT.lexLt (pl q) (pl p)=false):vC (vB n ts)=true:=by
 show(true&&(decide (0<=n)&&decide (n<=10))&&((ts.map pairD).all (lW n)&&jR ((ts.map pairD).map fun t=>(kids t).map intD)))=true
 have e1:(ts.map pairD).all (lW n)=true:=by
  rw[Xy,oM]
  intro p hp
  obtain⟨h0,h1,h2⟩:=h.lt p hp
  exact Js h0 h1 h2
 have e2:(ts.map pairD).map (fun t=>(kids t).map intD)=ts.map pl:=by rw[Tc];rfl
 have e3:jR (ts.map pl)=true:=by
  unfold jR
  rw[oM]
  intro k hk
  have hk':k<ts.length-1:=by simpa using hk
  have g1:(ts.map pl).getD k []=pl ts[k]:=by rw[jC,cg,gH (by omega)];rfl
  have g2:(ts.map pl).getD (k+1) []=pl ts[k+1]:=by rw[jC,cg,gH (by omega)];rfl
  rw[g1,g2]
  refine Vo (Ij.mp hs k (k+1) (by omega) (by omega) (by omega)) fun e=> ?_
  have:=(List.getElem_inj h.nd).mp (Uu e)
  omega
 rw[gb hn0,gb hn1,e1,e2,e3];rfl
def aY(ts:List (Int×Int))(i j:Int):Bool:=decide ((i,j)∈ts)||decide ((j,i)∈ts)
theorem tied_eq{n:Int}{ts:List (Int×Int)}(h:bW n ts)(i j:Int):bh ts i j=aY ts i j:=by
 unfold bh aY
 have no:∀{a b:Int},b<=a->decide ((a,b)∈ts)=false:=fun{a b} hab=>iY fun hm=>by
  have:=(h.lt _ hm).2.1
  dsimp only at this
  omega
 rcases wdb i j with c|c|c
 ·rw[ak (show¬j<i by omega),ao (show j>i by omega),no (show i<=j by omega),Bool.or_false]
 ·subst c
  rw[ak (show¬i<i by omega),Bool.or_self]
  try rw[ak (show¬i>i by omega)]
 ·rw[ao (show j<i by omega),ak (show¬j>i by omega),no (show j<=i by omega),wgt]
end vh
namespace Hs
open PySem L2 vh
section
variable{P:Program}{w:World}{K:W.Frag}{mg:Str->Option Value}{base:Heap}
def aag(K:W.Frag):List V->Hp->VK->Prop:=fun xs H Q=>∃p ys,xs=[.ref p]/\(SqL K H p ys\/SqT K H p ys)/\(ys.length<=16777216->Q (.int ys.length) H)
theorem Ju{H:Hp}{tp bM:Addr}{ns:List Int}{k:Int}{r:St}{Q:Bool->Hp->Prop}(tv:ou K H tp bM ns)(hQ:∀b,Q b H):
  tAnd (tTest (tOp (rI0 fun i j=> .bl (decide (j<i))) (tVar 2) (tC (.int 1)))) (tTest (tOp (rI0 fun i j=> .bl (decide (j<=i))) (tOp (rIxL K) (tVar 1) (tC (.int 1))) (tCB (aag K) (tCons (tVar 0) tNil)))) (some (.ref bM)::some (.ref tp)::some (.int k)::r) H Q:=by
 obtain⟨⟨i,rr,hH,_,_⟩,hS,_⟩:=tv
 refine⟨_,rfl,_,_,rfl,rfl,_,rfl,?_⟩
 refine ite2 (fun c=> ?_) (fun c=>hQ _)
 exact⟨_,rfl,tp,_,_,.int i,rfl,rfl,SqL.of hH,rfl,_,rfl,bM,_,rfl,.inl hS.sq,fun _=>⟨_,_,rfl,rfl,_,rfl,hQ _⟩⟩
theorem Jv{H:Hp}{a p:Addr}{ns:List Int}(hS:lJ K H a ns)(h63:ns.length<=63)(hp:H p=none):ou K (upd H p (.lst [.ref a,.int 0,.int 0])) p a ns:=
 ⟨⟨0,0,aH,uE _,uE _⟩,hS.same (aV hp _),h63⟩
end
def sW(p q:Int×Int):Prop:=p.1<q.1\/(p.1=q.1/\p.2<q.2)
theorem sW.trans{p q r:Int×Int}(a:sW p q)(b:sW q r):sW p r:=by
 unfold sW at *;omega
theorem sW.WR{p:Int×Int}(a:sW p p):False:=by
 unfold sW at a;omega
theorem eq_of_sorted:∀{l m:List (Int×Int)},l.Pairwise sW->m.Pairwise sW->(∀p,p∈l↔p∈m)->l=m
 |[],[],_,_,_=>rfl
 |[],q::m,_,_,h=>absurd ((h q).mpr (cX ..)) (by simp)
 |p::l,[],_,_,h=>absurd ((h p).mp (cX ..)) (by simp)
 |p::l,q::m,hl,hm,h=>by
  rw[Xl]at hl hm
  have e:p=q:=by
   rcases cW.mp ((h p).mp (cX ..))with e|e
   ·exact e
   rcases cW.mp ((h q).mpr (cX ..))with e'|e'
   ·exact e'.symm
   exact(sW.WR ((hl.1 _ e').trans (hm.1 _ e))).elim
  subst e
  have:l=m:=eq_of_sorted hl.2 hm.2 (fun r=>by
   have hr:=h r
   rw[cW,cW]at hr
   constructor
   ·intro hi
    rcases hr.mp (.inr hi)with e|e
    ·subst e;exact(sW.WR (hl.1 _ hi)).elim
    ·exact e
   ·intro hi
    rcases hr.mpr (.inr hi)with e|e
    ·subst e;exact(sW.WR (hm.1 _ hi)).elim
    ·exact e)
  rw[this]
theorem Qw{p q:Int×Int}(h:HT.lexLt (pl p) (pl q)=true):sW p q:=by
 rw[HT.bY]at h
 have:=xT h
 unfold pl at this
 rw[yen]at this
 rcases this with a|⟨a,b⟩
 ·exact .inl a
 ·rw[yen]at b
  rcases b with b|⟨_,b⟩
  ·exact .inr ⟨a,b⟩
  ·exact absurd b (by simp)
def row(so:Int->Int->Bool)(i:Int)(k:Nat):List (Int×Int):=((List.range k).map fun(t:Nat)=>(i,i+1+(t:Int))).filter fun p=>so p.1 p.2
def rows(so:Int->Int->Bool)(m:Int)(i:Nat):List (Int×Int):=((List.range i).map fun(t:Nat)=>row so (0+(t:Int)) (m-(0+(t:Int)+1)).toNat).flatten
theorem yE(so:Int->Int->Bool)(i:Int)(k:Nat):row so i (k+1)=row so i k++(if so i (i+1+(k:Int))=true then[(i,i+1+(k:Int))]else[]):=by
 unfold row
 rw[vq,bQ,Ti]
 congr 1
 show List.filter _ [(i,i+1+(k:Int))]=_
 rw[Og]
 rfl
theorem kY(so:Int->Int->Bool)(m:Int)(i:Nat):rows so m (i+1)=rows so m i++row so (0+(i:Int)) (m-(0+(i:Int)+1)).toNat:=by
 unfold rows
 rw[vq,bQ,wdy]
 simp
theorem qY{so:Int->Int->Bool}{i:Int}{k:Nat}{p:Int×Int}:p∈row so i k↔p.1=i/\i<p.2/\p.2<i+1+(k:Int)/\so p.1 p.2=true:=by
 unfold row
 rw[fV,iV]
 constructor
 ·rintro⟨⟨t,ht,rfl⟩,h⟩
  rw[tZ]at ht
  exact⟨rfl,by show i<i+1+(t:Int);omega,by show i+1+(t:Int)<_;omega,h⟩
 ·rintro⟨h1,h2,h3,h4⟩
  refine⟨⟨(p.2-i-1).toNat,by rw[tZ];omega,?_⟩,h4⟩
  apply Prod.ext
  ·exact h1.symm
  ·show i+1+(((p.2-i-1).toNat:Nat):Int)=p.2;omega
theorem dg{so:Int->Int->Bool}{m:Int}:∀{i:Nat} {p:Int×Int},p∈rows so m i↔0<=p.1/\p.1<(i:Int)/\p.1<p.2/\p.2<m/\so p.1 p.2=true
 |0,p=>by
  constructor
  ·intro h;simp[rows]at h
  ·intro h;omega
 |i+1,p=>by
  rw[kY,iW,dg (i:=i),qY]
  constructor
  ·rintro(h|h)
   ·exact⟨h.1,by omega,h.2.2⟩
   ·exact⟨by omega,by omega,by omega,by omega,h.2.2.2⟩
  ·rintro⟨h1,h2,h3,h4,h5⟩
   by_cases e:p.1<(i:Int)
   ·exact .inl ⟨h1,e,h3,h4,h5⟩
   ·exact .inr ⟨by omega,by omega,by omega,h5⟩
theorem sE(so:Int->Int->Bool)(i:Int)(k:Nat):(row so i k).Pairwise sW:=by
 unfold row
 refine List.Pairwise.filter _ ?_
 rw[Oh]
 exact yef.imp fun h=> .inr ⟨rfl,by show i+1+_<i+1+_;omega⟩
theorem Wg(so:Int->Int->Bool)(m:Int):∀i:Nat,(rows so m i).Pairwise sW
 |0=>by unfold rows;exact List.Pairwise.nil
 |i+1=>by
  rw[kY,Oi]
  refine⟨Wg so m i,sE so _ _,fun p hp q hq=> ?_⟩
  rw[dg]at hp
  rw[qY]at hq
  exact .inl (by omega)
theorem Ei{so:Int->Int->Bool}{m:Int}{i:Nat}:bW m (rows so m i):=
 ⟨(Wg so m i).imp fun h e=>by subst e;exact sW.WR h,fun p hp=>by rw[dg]at hp;exact⟨hp.1,hp.2.2.1,hp.2.2.2.1⟩⟩
theorem uP{l:List (Int×Int)}(h:l.Pairwise sW):l.Nodup:=h.imp fun h e=>by subst e;exact sW.WR h
end Hs
namespace L2
open PySem
theorem dI.get'{K:W.Frag}{H:Hp}:∀{xs:List V} {ds:List PyData} {i:Nat},dI K H xs ds->i<ds.length->∃x d,xs[i]? =some x/\ds[i]? =some d/\DV K H x d
 |_,_,i,.nil,h=>by simp at h
 |_,_,0,.cons h _,_=>⟨_,_,rfl,rfl,h⟩
 |_,_,i+1,.cons _ t,h=>by
  obtain⟨x,d,h1,h2,h3⟩:=dI.get' (i:=i) t (by simpa using h)
  exact⟨x,d,by simpa using h1,by simpa using h2,h3⟩
end L2
namespace Hs
open PySem L2 vh
theorem uh{α β γ:Type}{f:α->β}{g:β->γ}{l:List α}{i:Nat}(hi:i<l.length):((l.take i).map f).map g++[g (f l[i])]=((l.take (i+1)).map f).map g:=by
 rw[rE,gH hi,bQ,bQ]
 rfl
structure bA(K:W.Frag)(H:Hp)(a:Addr)(n:Int)(ts:List (Int×Int)):Prop where
 web:jG K H a n ts
 h0:0<=n
 h1:n<=10
 pk:bW n ts
 ok:SM n ts
theorem bA.same{K:W.Frag}{H H':Hp}{a:Addr}{n:Int}{ts:List (Int×Int)}(h:bA K H a n ts)(e:Same H H'):bA K H' a n ts:=⟨h.web.same e,h.h0,h.h1,h.pk,h.ok⟩
theorem bA.m9{K:W.Frag}{H H':Hp}{t a:Addr}{zs:List V}{n:Int}{ts:List (Int×Int)}(h:bA K H a n ts)(e:aB t H H')(hn:H t=some (.lst zs)):bA K H' a n ts:=⟨h.web.m9 e hn,h.h0,h.h1,h.pk,h.ok⟩
theorem bA.len{K:W.Frag}{H:Hp}{a:Addr}{n:Int}{ts:List (Int×Int)}(h:bA K H a n ts):ts.length<=45:=pairs_len h.pk h.h1
def tt(_ _:Int):Bool:=true
theorem Qs{p q:Int×Int}(h:sW p q):HT.lexLt (pl q) (pl p)=false:=by
 rw[HT.bY]
 refine iY fun z=> ?_
 have:sW q p:=Qw (by rw[HT.bY];exact gb z)
 exact sW.WR (h.trans this)
theorem rG{n:Int}{ts:List (Int×Int)}{i:Nat}(h0:0<=n)(h1:n<=10)(h:ts.Sublist (rows tt n i)):bW n ts/\SM n ts:=by
 have hs:ts.Pairwise sW:=(Wg tt n i).sublist h
 have ho:bW n ts:=⟨uP hs,fun p hp=>(Ei (so:=tt) (m:=n) (i:=i)).lt p (h.subset hp)⟩
 exact⟨ho,Tv h0 h1 ho (hs.imp Qs)⟩
theorem Ek{K:W.Frag}{H:Hp}{rs:List V}{ps:List (Int×Int)}{i:Nat}{x:V}(h:dI K H rs (ps.map pairD))(hx:rs[i]? =some x):∃(t:Addr) (hi:i<ps.length),x= .ref t/\SqT K H t [.int (ps[i]).1,.int (ps[i]).2]:=by
 have hlen:=h.len
 rw[aF]at hlen
 have hi:i<ps.length:=by rw[<-hlen];exact(lC.mp hx).1
 obtain⟨x',d,e1,e2,e3⟩:=dI.get' (i:=i) h (by rw[aF];exact hi)
 rw[hx]at e1;cases e1
 rw[cg,gH hi]at e2
 cases e2
 cases e3 with
 |tup hp tp=>
  cases tp with
  |cons ta tb=>
   cases tb with
   |cons tc td=>
    cases td
    cases ta
    cases tc
    exact⟨_,hi,rfl,hp⟩
theorem zX{xs:List Int}{i:Int}(h0:0<=i)(h1:i<(xs.length:Int)):atI (xs.map V.int) i=some (.int (xs.getD i.toNat 0)):=by
 have hk:i.toNat<xs.length:=by omega
 have ek:((i.toNat:Nat):Int)=i:=by omega
 have q:atI (xs.map V.int) ((i.toNat:Nat):Int)=some (.int (xs.getD i.toNat 0)):=atI_nat (by rw[cg,gH hk,jC,gH hk];rfl)
 rw[ek]at q
 exact q
def iB(K:W.Frag)(H:Hp)(l:Addr)(R:List (Int×Int))(P:Int×Int->Prop):Prop:=∃(rs:List V) (ts:List (Int×Int)),H l=some (.lst rs)/\dI K H rs (ts.map pairD)/\ts.Sublist R/\∀p∈ts,P p
theorem iB.nil{K:W.Frag}{H:Hp}{l:Addr}{R:List (Int×Int)}{P:Int×Int->Prop}(h:H l=some (.lst [])):iB K H l R P:=⟨[],[],h,.nil,wfr _,fun p hp=>(nomatch hp)⟩
theorem iB.step{K:W.Frag}{H H':Hp}{l c:Addr}{R:List (Int×Int)}{P:Int×Int->Prop}{zs:List V}(h:iB K H l R P)(e:aB c H H')(hc:H c=some (.lst zs))(n:l≠c):iB K H' l R P:=by
 obtain⟨rs,ts,h1,h2,h3⟩:=h
 exact⟨rs,ts,e _ _ n h1,iw e hc h2,h3⟩
theorem iB.mono{K:W.Frag}{H:Hp}{l:Addr}{R R':List (Int×Int)}{P:Int×Int->Prop}(h:iB K H l R P)(e:R.Sublist R'):iB K H l R' P:=by
 obtain⟨rs,ts,h1,h2,h3,h4⟩:=h
 exact⟨rs,ts,h1,h2,h3.trans e,h4⟩
theorem iB.push{K:W.Frag}{H:Hp}{l p:Addr}{R:List (Int×Int)}{P:Int×Int->Prop}{i j:Int}{rs:List V}{ts:List (Int×Int)}(h1:H l=some (.lst rs))(h2:dI K H rs (ts.map pairD))(h3:ts.Sublist R)(h4:∀p∈ts,P p)(hp:SqT K H p [.int i,.int j])(hP:P (i,j)):iB K (upd H l (.lst (rs++[.ref p]))) l (R++[(i,j)]) P:=by
 have x:aB l H (upd H l (.lst (rs++[.ref p]))):=(aB.refl _ _).upd
 refine⟨_,ts++[(i,j)],aH,?_,h3.append (TQ _),fun q hq=> ?_⟩
 ·rw[bQ]
  exact(iw x h1 h2).append (.cons (.tup (x.tup h1 hp) (.cons (.int _) (.cons (.int _) .nil))) .nil)
 ·rcases iW.mp hq with q'|q'
  ·exact h4 q q'
  ·rw[fZ.mp q'];exact hP
theorem sub_len{n:Int}{ts:List (Int×Int)}{i k:Nat}(h1:n<=10)(hk:0+(i:Int)+1+(k:Int)<=n)(h:ts.Sublist (rows tt n i++row tt (0+(i:Int)) k)):ts.length<=45:=by
 refine pairs_len (n:=n) ⟨?_,fun p hp=> ?_⟩ h1
 ·refine uP (List.Pairwise.sublist h ?_)
  rw[Oi]
  refine⟨Wg _ _ _,sE _ _ _,fun p hp q hq=> ?_⟩
  rw[dg]at hp
  rw[qY]at hq
  exact .inl (by omega)
 ·rcases iW.mp (h.subset hp)with q|q
  ·rw[dg]at q;exact⟨q.1,q.2.2.1,q.2.2.2.1⟩
  ·rw[qY]at q;exact⟨by omega,by omega,by omega⟩
section
variable{P:Program}{w:World}{K:W.Frag}{mg:Str->Option Value}{base:Heap}
end
end Hs
namespace L2
open PySem PySem.Spec PyProof.Rows
theorem Kd{s u:TS}{D:Ends}{σ:St}{H:Hp}(I:St->Hp->Prop)(h1:∀N:St->Hp->Prop,(∀σ' H',I σ' H'->N σ' H')->s {D with nx:=N} σ H)(h2:∀σ' H',I σ' H'->u D σ' H'):tSeq s u D σ H:=h1 (u D) h2
section
variable{K:W.Frag}{σ:St}{H0:Hp}
end
end L2
namespace Hs
open PySem L2 vh
section
variable{P:Program}{w:World}{K:W.Frag}{mg:Str->Option Value}{base:Heap}
def vH(K:W.Frag):Sp:=fun vs H Q _=>∃(cp bM:Addr) (ns:List Int) (n b:Int),vs=[.ref cp,.int n]/\dZ K H cp bM ns b/\b<=900000000/\0<=n/\n<=10/\
 ∀r ts H',aB cp H H'->dZ K H' cp bM ns (b+120)->bA K H' r n ts->Q (.ref r) H'
theorem jN:FnScope ["cup","n","often","ties","i","j"] ["cup","n"] (defScope Xb):=fsc
theorem KY{f f1:Addr}{fd d1:FuncData}(F:Fun K "_law_e_web_of" "_law_e_web_of" Xb f fd)(D1:bJ K mg "_law_e_dip" Wh ["cup","many"] f1 d1)(G1:FnOk P w K mg base CX0 2 f1 d1 ["cup","many"] (DN K))(aG:mg "range"=none)(aZ:mg "tuple"=none):
  FnOk P w K mg base CX0 3 f fd ["cup","n"] (vH K):=by
 refine F.ok jN (fun vs H Q E h=> ?_) (fun cdv A outer s H vs Q E hr h=> ?_)
 ·obtain⟨cp,bM,ns,n,b,rfl,_⟩:=h
  rfl
 obtain⟨cp,bM,ns,n,b,rfl,hC,hb,hn0,hn1,q⟩:=h
 refine⟨_,(aO (cV (i:=2) jN.nd rfl (Or.inl rfl) (pc G1 hr D1 (aj (pv 0) (aj aK au)))) (aO (cV (i:=3) jN.nd rfl (Or.inl rfl) (pe_lst au)) (aO (xM tX rfl (Ia rfl aG (aj (pv 1) au)) (cY (i:=4) jN.nd rfl (Or.inl rfl)) (aX (xM tX rfl (pi_range2 rfl aG (aj (bN qy (pv 4) aK) (aj (pv 1) au))) (cY (i:=5) jN.nd rfl (Or.inl rfl)) (aX (mY (kj op_lt (pc G1 hr D1 (aj (pv 0) (aj aK au))) (pv 2) (nomark _)) (aX (xP (pe_bm RD wci wcj mt_append (pv 3) (aj (oG (aj (pv 4) (aj (pv 5) au))) au)))) oJ))))) (aX (cF (oG (aj (pv 1) (aj (pe_callTy Wi rfl aZ (by decide+kernel) (aj (pv 3) au)) au)))))))),?_⟩
 refine⟨_,rfl,cp,bM,ns,7,b,rfl,hC,by omega,by decide,by decide,fun o H1 ho0 ho1 x1 c1=> ?_⟩
 refine⟨(by show 0<=sizeLine;decide),fun tl htl=> ?_⟩
 obtain⟨zs,hz⟩:=c1.lst
 have s2:=aV htl (.lst [])
 have ntc:tl≠cp:=Le hz htl
 have tl0:H tl=none:=x1.free ntc htl
 refine⟨_,rfl,n,rfl,by omega,by omega,?_⟩
 refine for_range (n:=n.toNat) (fun i σ H'=>aB cp H H'/\dZ K H' cp bM ns (b+1+10*(i:Int))/\iB K H' tl (rows tt n i) (fun _=>True)/\∃a4 a5,σ=[some (.ref cp),some (.int n),some (.int o),some (.ref tl),a4,a5])
  ⟨x1.trans (s2.x _),(c1.same s2).mono (by omega),iB.nil aH,_,_,rfl⟩ (fun i σ H' hi p=> ?_) (fun σ H' p=> ?_)
 ·obtain⟨x,c,tl1,a4,a5,rfl⟩:=p
  refine⟨_,rfl,_,_,rfl,rfl,_,rfl,_,_,rfl,⟨by omega,by omega,by omega,by omega⟩,?_⟩
  refine for_range (n:=(n-(0+(i:Int)+1)).toNat) (fun k σ H'=>aB cp H H'/\dZ K H' cp bM ns (b+1+10*(i:Int)+(k:Int))/\iB K H' tl (rows tt n i++row tt (0+(i:Int)) k) (fun _=>True)/\∃a5,σ=[some (.ref cp),some (.int n),some (.int o),some (.ref tl),some (.int (0+(i:Int))),a5])
   ⟨x,c.mono (by omega),by rw[show row tt (0+(i:Int)) 0=[]from rfl,uF];exact tl1,_,rfl⟩ (fun k σ H' hk p=> ?_) (fun σ H' p=> ?_)
  ·obtain⟨x,c,tl1,a5,rfl⟩:=p
   refine⟨_,rfl,cp,bM,ns,6,_,rfl,c,by omega,by decide,by decide,fun d H2 hd0 hd1 x2 c2=>⟨_,rfl,_,_,rfl,rfl,_,rfl,?_⟩⟩
   obtain⟨zs,hz⟩:=c.lst
   have tl2:=tl1.step x2 hz ntc
   have er:rows tt n i++row tt (0+(i:Int)) (k+1)=(rows tt n i++row tt (0+(i:Int)) k)++[(0+(i:Int),0+(i:Int)+1+(k:Int))]:=by rw[yE,ao (show tt _ _=true from rfl),Wr]
   have ec:b+1+10*(i:Int)+((k+1:Nat):Int)=b+1+10*(i:Int)+(k:Int)+1:=by omega
   rw[er,ec]
   refine ite2 (fun cc=> ?_) (fun cc=> ?_)
   ·obtain⟨rs,ts,h1,h2,h3,h4⟩:=tl2
    have hl:=sub_len hn1 (by omega) h3
    have hrl:=h2.len
    rw[aF]at hrl
    refine⟨_,rfl,.inl ⟨rfl,_,SqL.of h1⟩,_,rfl,_,rfl,(by show 2<=sizeLine;decide),fun p hp=> ?_⟩
    have s3:=aV hp (.tup [.int (0+(i:Int)),.int (0+(i:Int)+1+(k:Int))])
    refine⟨tl,rs,_,rfl,rfl,s3 _ _ h1,(by rw[gB];omega),?_⟩
    have xw:aB tl (upd H2 p (.tup [.int (0+(i:Int)),.int (0+(i:Int)+1+(k:Int))])) (upd (upd H2 p (.tup [.int (0+(i:Int)),.int (0+(i:Int)+1+(k:Int))])) tl (.lst (rs++[.ref p]))):=(aB.refl _ _).upd
    refine⟨fun q o hq e=> ?_,(c2.same s3).other xw (s3 _ _ h1) ntc.symm,iB.push (s3 _ _ h1) (h2.same s3) h3 h4 (SqT.of aH) trivial,_,rfl⟩
    have nq:q≠tl:=fun z=>by rw[z,tl0]at e;cases e
    exact xw _ _ nq (s3 _ _ (x2 _ _ hq (x _ _ hq e)))
   ·exact⟨x.trans x2,c2,tl2.mono (wck _ _),_,rfl⟩
  ·obtain⟨x,c,tl1,a5,rfl⟩:=p
   rw[<-kY]at tl1
   exact⟨x,c.mono (by omega),tl1,_,_,rfl⟩
 ·obtain⟨x,c,⟨rs,ts,h1,h2,h3,h4⟩,a4,a5,rfl⟩:=p
  refine⟨_,rfl,_,rfl,tl,rs,rfl,.inl ⟨SqL.of h1,fun t ht=>⟨(by show 2<=sizeLine;decide),fun wb hwb=> ?_⟩⟩⟩
  have s3:=aV ht (.tup rs)
  have s4:=aV hwb (.tup [.int n,.ref t])
  have Eh:=s3.trans s4
  obtain⟨g1,g2⟩:=rG hn0 hn1 h3
  exact q wb ts _ (x.trans (Eh.x _)) ((c.same Eh).mono (by omega)) ⟨⟨t,rs,SqT.of aH,SqT.of (s4 _ _ aH),h2.same Eh⟩,hn0,hn1,g1,g2⟩
def JT(K:W.Frag):Sp:=fun vs H Q _=>∃(cp bM:Addr) (ns:List Int) (m b:Int),vs=[.ref cp,.int m]/\dZ K H cp bM ns b/\b<=800000000/\0<=m/\m<=10/\
 ∀r n ts H',aB cp H H'->dZ K H' cp bM ns (b+121)->bA K H' r n ts->Q (.ref r) H'
theorem Ef:FnScope ["cup","most","n"] ["cup","most"] (defScope gW):=fsc
theorem Qj{f f1 f2:Addr}{fd d1 d2:FuncData}(F:Fun K "_law_e_web" "_law_e_web" gW f fd)(D1:bJ K mg "_law_e_dip" Wh ["cup","many"] f1 d1)(G1:FnOk P w K mg base CX0 2 f1 d1 ["cup","many"] (DN K))(D2:bJ K mg "_law_e_web_of" Xb ["cup","n"] f2 d2)(G2:FnOk P w K mg base CX0 3 f2 d2 ["cup","n"] (vH K)):
  FnOk P w K mg base CX0 4 f fd ["cup","most"] (JT K):=by
 refine F.ok Ef (fun vs H Q E h=> ?_) (fun cdv A outer s H vs Q E hr h=> ?_)
 ·obtain⟨cp,bM,ns,m,b,rfl,_⟩:=h
  rfl
 obtain⟨cp,bM,ns,m,b,rfl,hC,hb,hm0,hm1,q⟩:=h
 refine⟨_,(aO (cV (i:=2) Ef.nd rfl (Or.inl rfl) (pc G1 hr D1 (aj (pv 0) (aj (bN qy (pv 1) aK) au)))) (aX (cF (pc G2 hr D2 (aj (pv 0) (aj (pv 2) au)))))),?_⟩
 refine⟨_,rfl,_,rfl,_,_,rfl,rfl,cp,bM,ns,_,b,rfl,hC,by omega,by omega,by omega,fun o H1 ho0 ho1 x1 c1=> ?_⟩
 refine⟨_,rfl,_,rfl,cp,bM,ns,o,b+1,rfl,c1,by omega,ho0,by omega,fun r ts H2 x2 c2 W=>q r o ts H2 (x1.trans x2) (c2.mono (by omega)) W⟩
end
theorem qt{so:Int->Int->Bool}{m:Int}{i:Nat}:(rows tt m i).filter (fun p=>so p.1 p.2)=rows so m i:=by
 refine eq_of_sorted ((Wg _ _ _).filter _) (Wg _ _ _) fun p=> ?_
 rw[fV,dg,dg]
 constructor
 ·rintro⟨⟨a,b,c,d,_⟩,e⟩;exact⟨a,b,c,d,e⟩
 ·rintro⟨a,b,c,d,e⟩;exact⟨⟨a,b,c,d,rfl⟩,e⟩
section
variable{P:Program}{w:World}{K:W.Frag}{mg:Str->Option Value}{base:Heap}
structure aaK(K:W.Frag)(H:Hp)(l:Addr)(ps:List (Int×Int)):Prop where
 ex:∃rs,H l=some (.lst rs)/\dI K H rs (ps.map pairD)
def JX(K:W.Frag):Sp:=fun vs H Q _=>∃(n:Int),vs=[.int n]/\0<=n/\n<=10/\∀l H',Same H H'->aaK K H' l (rows tt n n.toNat)->Q (.ref l) H'
theorem vQ:FnScope ["n","found","one"] ["n"] (defScope qU):=fsc
theorem Qn{f:Addr}{fd:FuncData}(F:Fun K "pairs" "pairs" qU f fd)(mR:mg "range"=none):FnOk P w K mg base CX0 1 f fd ["n"] (JX K):=by
 refine F.ok vQ (fun vs H Q E h=> ?_) (fun cdv A outer s H vs Q E hr h=> ?_)
 ·obtain⟨n,rfl,_⟩:=h
  rfl
 obtain⟨n,rfl,hn0,hn1,q⟩:=h
 refine⟨_,aO (cV (i:=1) vQ.nd rfl (Or.inl rfl) (pe_lst au)) (aO (xM tX rfl (Ia rfl mR (aj (pv 0) au)) (cY (i:=2) vQ.nd rfl (Or.inr rfl)) (aX (xP (pe_bm RD wex wey mt_extend (pv 1) (aj
    (oH (own:=["other"]) (caps:=["one"]) (ix:=[2]) rfl (pi_range2 rfl mR (aj (bN qy (pv 2) aK) (aj (pv 0) au))) rfl rfl (.cons rfl rfl .nil) (fun _ _ _ _ _=>cY (i:=0) (show(["other","one"]:List Str).Nodup from by decide+kernel) rfl (Or.inl rfl)) (fun _ _ _ _ _=>qb) (fun _ _ _ _ _=>oG (aj (pv 1) (aj (pv 0) au)))) au))))) (aX (cF (pv 1)))),?_⟩
 refine⟨(by show 0<=sizeLine;decide),fun l hl=> ?_⟩
 refine⟨_,rfl,n,rfl,by omega,by omega,?_⟩
 refine for_range (n:=n.toNat) (fun i σ H'=>Same H H'/\(∃rs,H' l=some (.lst rs)/\dI K H' rs ((rows tt n i).map pairD))/\∃o,σ=[some (.int n),some (.ref l),o]) ⟨aV hl _,⟨[],aH,.nil⟩,_,rfl⟩ (fun i σ H' hi p=> ?_) (fun σ H' p=> ?_)
 ·obtain⟨sm,⟨rs,hr1,hr2⟩,o,rfl⟩:=p
  have hlen:=hr2.len
  rw[aF]at hlen
  have h45:=pairs_len (Ei (so:=tt) (m:=n) (i:=i)) hn1
  refine⟨_,rfl,.inl ⟨rfl,_,SqL.of hr1⟩,_,rfl,_,_,rfl,rfl,_,rfl,_,_,rfl,⟨by omega,by omega,by omega,by omega⟩,?_⟩
  refine Ob (n:=(n-(0+(i:Int)+1)).toNat) (fun k acc σ H2=>Same H' H2/\acc.length=k/\dI K H2 acc ((row tt (0+(i:Int)) k).map pairD)/\∃o1,σ=[o1,some (.int (0+(i:Int)))]) ⟨Same.refl _,rfl,.nil,_,rfl⟩ (fun k acc σ H2 hk p=>by rw[p.2.1];exact aJ _) (by rw[gB];omega) (fun k acc σ H2 hk p=> ?_) (fun acc σ H2 p=> ?_)
  ·obtain⟨s2,hl2,hd,o1,rfl⟩:=p
   refine⟨_,rfl,_,rfl,(by show 2<=sizeLine;decide),fun p hp=> ?_⟩
   have s3:=aV hp (.tup [.int (0+(i:Int)),.int (0+(i:Int)+1+(k:Int))])
   refine⟨s2.trans s3,by rw[qC,hl2];rfl,?_,_,rfl⟩
   rw[yE,bQ,ao (show tt (0+(i:Int)) (0+(i:Int)+1+(k:Int))=true from rfl)]
   exact(hd.same s3).append (.cons (.tup (SqT.of aH) (.cons (.int _) (.cons (.int _) .nil))) .nil)
  ·intro p1 hp1
   obtain⟨s2,hl2,hd,_⟩:=p
   have s3:=aV hp1 (.lst acc)
   have hr3:=s3 _ _ (s2 _ _ hr1)
   refine⟨l,p1,rs,acc,rfl,rfl,hr3,aH,?_,?_⟩
   ·rw[gB];omega
   ·have x4:aB l (upd H2 p1 (.lst acc)) (upd (upd H2 p1 (.lst acc)) l (.lst (rs++acc))):=(aB.refl _ _).upd
    refine⟨?_,⟨_,aH,?_⟩,_,rfl⟩
    ·intro b o hb
     have nb:b≠l:=fun e=>by rw[e,hl]at hb;cases hb
     exact x4 _ _ nb (s3 _ _ (s2 _ _ (sm _ _ hb)))
    ·rw[kY]
     exact iw x4 hr3 (by rw[bQ];exact((hr2.same s2).same s3).append (hd.same s3))
 ·obtain⟨sm,⟨rs,hr1,hr2⟩,o,rfl⟩:=p
  exact⟨_,rfl,q l _ sm ⟨rs,hr1,hr2⟩⟩
theorem zH{so:Int×Int->Bool}{ps:List (Int×Int)}{i:Nat}(hi:i<ps.length):(ps.take (i+1)).filter so=(ps.take i).filter so++(if so ps[i]=true then[ps[i]]else[]):=by
 rw[rE,gH hi,Ti]
 congr 1
 show List.filter so [ps[i]]=_
 rw[Og]
 rfl
end
structure eF(n:Int)(xs:List Int):Prop where
 JB:xs.Pairwise (· < ·)
 lt:∀x∈xs,0<=x/\x<n
theorem eF.len{n:Int}{xs:List Int}(h:eF n xs)(hn:n<=10):xs.length<=10:=by
 have h1:Sub n.toNat xs:=⟨h.JB.imp fun h e=>by omega,fun i hi=>by have:=h.lt i hi;omega⟩
 have:=h1.len
 omega
theorem eF.m6{n:Int}{xs:List Int}(h:eF n xs):vh.m6 n (.tuple (xs.map PyData.int))=true:=by
 unfold vh.m6
 rw[vD]
 refine⟨?_,?_⟩
 ·rw[Xy,oM]
  intro x hx
  have:=h.lt x hx
  show(decide (0<=x)&&decide (x<n))=true
  rw[gb this.1,gb this.2];rfl
 ·rw[Tc]
  have e:xs.map (intD∘PyData.int)=xs:=(Rt fun x _=>rfl).trans (List.map_id xs)
  rw[e]
  unfold jo
  rw[oM]
  intro k hk
  rw[tZ]at hk
  have h2:=Ij.mp h.JB k (k+1) (by omega) (by omega) (by omega)
  have g:∀j,(hj:j<xs.length)->xs.getD j 0=xs[j]:=fun j hj=>by rw[jC,gH hj];rfl
  rw[g k (by omega),g (k+1) (by omega)]
  exact gb h2
def DQ(xs:List Int)(ts:List (Int×Int))(i j:Int):Bool:=bh ts (xs.getD i.toNat 0) (xs.getD j.toNat 0)
def upto(n:Nat):List Int:=(List.range n).map fun(k:Nat)=>(k:Int)
theorem Ot(n:Int):eF n (upto n.toNat):=by
 unfold upto
 refine⟨?_,fun x hx=> ?_⟩
 ·rw[Oh]
  exact yef.imp fun h=>by omega
 ·obtain⟨k,hk,rfl⟩:=iV.mp hx
  rw[tZ]at hk
  omega
theorem Jo(n:Nat):(upto n).length=n:=by unfold upto;simp
section
variable{P:Program}{w:World}{K:W.Frag}{mg:Str->Option Value}{base:Heap}
def RW(K:W.Frag):Sp:=fun vs H Q _=>∃(a sm:Addr) (n:Int) (ts:List (Int×Int)) (xs:List Int),vs=[.ref a,.ref sm]/\bA K H a n ts/\SqT K H sm (xs.map V.int)/\eF n xs/\
 ∀r H',Same H H'->jG K H' r (xs.length:Int) (rows (DQ xs ts) (xs.length:Int) (xs.length:Int).toNat)->Q (.ref r) H'
theorem Kr:FnScope ["web","some","kept"] ["web","some"] (defScope ji):=fsc
theorem Vg{f f1 f2 f3 f4:Addr}{fd d1 d2 d3 d4:FuncData}(F:Fun K "cut_down" "cut_down" ji f fd)(D1:bJ K mg "need_web" IV ["thing"] f1 d1)(G1:FnOk P w K mg base CX0 7 f1 d1 ["thing"] (cR K))(D2:bJ K mg "need_set" jg ["web","thing"] f2 d2)(G2:FnOk P w K mg base CX0 5 f2 d2 ["web","thing"] (uM K))(D3:bJ K mg "pairs" qU ["n"] f3 d3)(G3:FnOk P w K mg base CX0 1 f3 d3 ["n"] (JX K))(D4:bJ K mg "has_tie" gG ["web","one","other"] f4 d4)(G4:FnOk P w K mg base CX0 1 f4 d4 ["web","one","other"] (DG K))(mT:mg "tuple"=none)(mL:mg "len"=none):
  FnOk P w K mg base CX0 8 f fd ["web","some"] (RW K):=by
 refine F.ok Kr (fun vs H Q E h=> ?_) (fun cdv A outer s H vs Q E hr h=> ?_)
 ·obtain⟨a,sm,n,ts,xs,rfl,_⟩:=h
  rfl
 obtain⟨a,sm,n,ts,xs,rfl,hA,hX,hok,q⟩:=h
 refine⟨_,aO (xP (pc G1 hr D1 (aj (pv 0) au))) (aO (xP (pc G2 hr D2 (aj (pv 0) (aj (pv 1) au)))) (aO (SX (i:=2) (own:=["i","j"]) (caps:=["web","some"]) (ix:=[0,1]) Kr.nd rfl (Or.inl rfl) rfl (xW (pc G3 hr D3 (aj (fM qd rfl mL oU (aj (pv 1) au)) au))) rfl rfl (.cons rfl rfl (.cons rfl rfl .nil)) (fun _ _ _ _ _=>iu K (n:=2) rfl (tV (cY (i:=0) (show(["i","j","web","some"]:List Str).Nodup from by decide+kernel) rfl (Or.inl rfl)) (tV (cY (i:=1) (show(["i","j","web","some"]:List Str).Nodup from by decide+kernel) rfl (Or.inl rfl)) pgs_nil))) (fun _ _ _ _ _=>fj (uD (pc G4 hr D4 (aj (pv 2) (aj (bB (Fx K) (pv 3) (pv 0) (fun _ _=>rfl)) (aj (bB (Fx K) (pv 3) (pv 1) (fun _ _=>rfl)) au)))))) (fun _ _ _ _ _=>oG (aj (pv 0) (aj (pv 1) au)))) (aX (cF (oG (aj (fM qd rfl mL oU (aj (pv 1) au)) (aj (pe_callTy Wi rfl mT (by decide+kernel) (aj (pv 2) au)) au))))))),?_⟩
 have hA1:=hA.h1
 have h10:=hok.len hA1
 refine⟨_,rfl,_,_,rfl,hA.web.dv.dx,hA.ok,fun H1 s1=> ?_⟩
 obtain⟨ta,ra,a1,a2,a3⟩:=id (hA.same s1).web
 have hDX:DX K H1 (.ref sm) (.tuple (xs.map PyData.int)):=(DV.tup (s1.tup hX) (dI.ints xs)).dx
 refine⟨_,rfl,_,rfl,a,n,_,_,_,rfl,a1,hDX,hok.m6,fun H2 s2=> ?_⟩
 have s12:=s1.trans s2
 refine⟨_,rfl,sm,_,rfl,.inr (s12.tup hX),fun _=>⟨_,rfl,by omega,by rw[aF];omega,fun l H3 s3 p1=> ?_⟩⟩
 rw[aF]at p1
 obtain⟨rs,e1,v1⟩:=p1.ex
 refine⟨l,rs,rfl,SqL.of e1,fun hz=> ?_⟩
 have hlen:=v1.len
 rw[aF]at hlen
 have xU:=s12.trans s3
 generalize hR:rows tt (xs.length:Int) (xs.length:Int).toNat=R at *
 have hR':∀p∈R,0<=p.1/\p.1<p.2/\p.2<(xs.length:Int):=fun p hp=>by rw[<-hR,dg]at hp;exact⟨hp.1,hp.2.2.1,hp.2.2.2.1⟩
 refine HY (xs:=rs) (fun i acc σ H'=>Same H3 H'/\acc.length<=i/\dI K H' acc ((R.take i).filter (fun p=>DQ xs ts p.1 p.2)|>.map pairD)/\∃o1 o2,σ=[o1,o2,some (.ref a),some (.ref sm)]) ⟨Same.refl _,aJ _,.nil,_,_,rfl⟩ (fun i acc σ H' _ p=>p.1.seq (SqL.of e1)) (fun i acc σ H' hi p=>p.2.1) hz (fun i x acc σ H' hx p=> ?_) (fun acc σ H' p=> ?_)
 ·obtain⟨sm',hl,hd,o1,o2,rfl⟩:=p
  obtain⟨t,hi,rfl,ht⟩:=Ek v1 hx
  have sA:=xU.trans sm'
  have hb:=hR' _ (I9 hi)
  refine⟨t,_,rfl,sm'.tup ht,rfl,_,_,rfl,_,_,rfl,rfl,?_⟩
  refine⟨_,rfl,_,rfl,_,rfl,sm,_,_,_,rfl,rfl,sA.tup hX,zX hb.1 (by omega),_,rfl,_,rfl,sm,_,_,_,rfl,rfl,sA.tup hX,zX (by omega) hb.2.2,?_⟩
  refine⟨a,n,_,_,ts,rfl,(hA.same sA).web,fun H5 s5=>⟨_,rfl,?_⟩⟩
  rw[zH hi]
  refine ite2 (fun c=> ?_) (fun c=> ?_)
  ·refine⟨_,rfl,_,rfl,(by show 2<=sizeLine;decide),fun p hp=> ?_⟩
   have s6:=aV hp (.tup [.int (R[i]).1,.int (R[i]).2])
   refine⟨sm'.trans (s5.trans s6),by rw[qC];show acc.length+1<=i+1;omega,?_,_,_,rfl⟩
   rw[ao (show DQ xs ts _ _=true from c),bQ]
   exact(hd.same (s5.trans s6)).append (.cons (.tup (SqT.of aH) (.cons (.int _) (.cons (.int _) .nil))) .nil)
  ·refine⟨sm'.trans s5,by omega,?_,_,_,rfl⟩
   rw[ak (show¬DQ xs ts _ _=true from c),uF]
   exact hd.same s5
 ·intro p1 hp1
  obtain⟨sm',hl,hd,_⟩:=p
  rw[hlen,qe,<-hR,qt]at hd
  have s5:=aV hp1 (.lst acc)
  have sA:=xU.trans (sm'.trans s5)
  refine⟨_,rfl,sm,_,rfl,.inr (sA.tup hX),fun _=>⟨_,rfl,p1,_,rfl,.inl ⟨SqL.of aH,fun t ht=> ?_⟩⟩⟩
  have s6:=aV ht (.tup acc)
  refine⟨(by show 2<=sizeLine;decide),fun r hr'=> ?_⟩
  rw[aF]
  have s7:=aV hr' (.tup [.int (xs.length:Int),.ref t])
  exact q r _ (sA.trans (s6.trans s7)) ⟨t,acc,SqT.of aH,SqT.of (s7 _ _ aH),hd.same (s5.trans (s6.trans s7))⟩
end
end Hs
namespace Hs
open vh
end Hs
namespace Hs
def ff:Nat->Nat
 |0=>1
 |1=>1
 |2=>2
 |3=>3
 |4=>4
 |5=>6
 |6=>9
 |7=>12
 |8=>18
 |9=>27
 |_=>36
theorem wO:∀m n:Nat,m<=n->n<=10->ff m<=ff n:=by
 have h:∀n:Fin 11,∀m:Fin 11,m.val<=n.val->ff m.val<=ff n.val:=by decide
 intro m n hm hn
 exact h ⟨n,by omega⟩ ⟨m,by omega⟩ hm
theorem Q5:∀n d:Nat,0<d->d<=n->n<=10->d*ff (n-d)<=ff n:=by
 have h:∀n:Fin 11,∀d:Fin 11,0<d.val->d.val<=n.val->d.val*ff (n.val-d.val)<=ff n.val:=by decide
 intro n d h0 hd hn
 exact h ⟨n,by omega⟩ ⟨d,by omega⟩ h0 hd
structure Full(r:Int->Int->Bool)(V:List Int)(s:List Int):Prop where
 up:s.Pairwise (· < ·)
 sub:∀x∈s,x∈V
 ind:∀x∈s,∀y∈s,x≠y->r x y=false
 max:∀v∈V,v∉s->∃x∈s,r x v=true
theorem yX(g:Int->Nat):∀V:List Int,V≠[]->∃v∈V,∀u∈V,g v<=g u
 |[],h=>absurd rfl h
 |[x],_=>⟨x,by simp,fun u hu=>by rw[fZ.mp hu];exact aJ _⟩
 |x::y::V,_=>by
  obtain⟨v,hv,hm⟩:=yX g (y::V) (by simp)
  by_cases c:g x<=g v
  ·refine⟨x,by simp,fun u hu=> ?_⟩
   rcases cW.mp hu with e|e
   ·rw[e];exact aJ _
   ·exact bZ c (hm u e)
  ·refine⟨v,eE _ hv,fun u hu=> ?_⟩
   rcases cW.mp hu with e|e
   ·rw[e];omega
   ·exact hm u e
theorem mH{α:Type}(p:α->Bool):∀l:List α,(l.filter p).length+(l.filter fun x=> !p x).length=l.length
 |[]=>rfl
 |x::l=>by
  have ih:=mH p l
  rw[Og,Og]
  cases p x<;>simp <;>omega
theorem u5{α β:Type}(p:β->α->Bool)(m:Nat):∀(us:List β) (fs:List α),(∀s∈fs,∃u∈us,p u s=true)->(∀u∈us,∀gs:List α,gs.Sublist fs->(∀s∈gs,p u s=true)->gs.length<=m)->fs.length<=us.length*m
 |[],fs,h,_=>by
  cases fs with
  |nil=>simp
  |cons s fs=>obtain⟨u,hu,_⟩:=h s (by simp);cases hu
 |u::us,fs,h,hm=>by
  have e:=mH (p u) fs
  have a:=hm u (by simp) (fs.filter (p u)) Jb (fun s hs=>(fV.mp hs).2)
  have b:=u5 p m us (fs.filter fun x=> !p u x) (fun s hs=>by
   obtain⟨h1,h2⟩:=fV.mp hs
   obtain⟨w,hw,hp⟩:=h s h1
   rcases cW.mp hw with z|z
   ·rw[z]at hp;rw[hp]at h2;cases h2
   ·exact⟨w,z,hp⟩) (fun w hw gs hg hp=>hm w (eE _ hw) gs (hg.trans Jb) hp)
  rw[rD,wgd]
  omega
theorem Dl:∀{xs ys:List Int},xs.Pairwise (· < ·)->ys.Pairwise (· < ·)->(∀k,k∈xs↔k∈ys)->xs=ys
 |[],[],_,_,_=>rfl
 |[],y::ys,_,_,h=>by have:=(h y).mpr (by simp);simp at this
 |x::xs,[],_,_,h=>by have:=(h x).mp (by simp);simp at this
 |x::xs,y::ys,hx,hy,h=>by
  rw[Xl]at hx hy
  have e:x=y:=by
   have a:=(h x).mp (by simp)
   have b:=(h y).mpr (by simp)
   rcases cW.mp a with a|a
   ·exact a
   ·rcases cW.mp b with b|b
    ·exact b.symm
    ·have:=hy.1 x a;have:=hx.1 y b;omega
  subst e
  rw[Dl hx.2 hy.2 fun k=> ?_]
  constructor
  ·intro hk
   rcases cW.mp ((h k).mp (eE _ hk))with a|a
   ·have:=hx.1 k hk;omega
   ·exact a
  ·intro hk
   rcases cW.mp ((h k).mpr (eE _ hk))with a|a
   ·have:=hy.1 k hk;omega
   ·exact a
theorem pB{α β:Type}{g:α->β}:∀{l:List α},l.Nodup->(∀a∈l,∀b∈l,g a=g b->a=b)->(l.map g).Nodup
 |[],_,_=>List.nodup_nil
 |a::l,h,hi=>by
  rw[IW]at h
  rw[qM,IW]
  refine⟨fun hm=> ?_,pB h.2 fun x hx y hy=>hi x (eE _ hx) y (eE _ hy)⟩
  obtain⟨b,hb,e⟩:=iV.mp hm
  have:=hi b (eE _ hb) a (by simp) e
  rw[this]at hb
  exact h.1 hb
def bU(r:Int->Int->Bool)(v u:Int):Bool:=decide (u=v)||r u v
theorem Cd{r:Int->Int->Bool}(sym:∀i j,r i j=r j i):∀(n:Nat) (V:List Int),V.length=n->n<=10->∀fs:List (List Int),fs.Nodup->(∀s∈fs,Full r V s)->fs.length<=ff n:=by
 intro n
 induction n using Nat.strongRecOn with
 |ind n ih=>
  intro V hV hn fs nd hf
  by_cases hz:V=[]
  ·have e:∀s∈fs,s=[]:=fun s hs=>by
    cases s with
    |nil=>rfl
    |cons x s=>have:=(hf _ hs).sub x (by simp);rw[hz]at this;cases this
   have l1:fs.length<=1:=by
    match fs,nd,e with
    |[],_,_=>simp
    |[_],_,_=>simp
    |a::b::fs,nd,e=>
     exfalso
     rw[IW]at nd
     apply nd.1
     rw[e a (by simp),e b (by simp)]
     simp
   have:1<=ff n:=by
    have:=wO 0 n (dJ _) hn
    exact this
   omega
  obtain⟨v,hv,hmin⟩:=yX (fun u=>(V.filter (bU r u)).length) V hz
  have key:=u5 (fun(u:Int) (s:List Int)=>decide (u∈s)) (ff (n-(V.filter (bU r v)).length)) (V.filter (bU r v)) fs (fun s hs=> ?_) (fun u hu gs hg hp=> ?_)
  ·have hle:(V.filter (bU r v)).length<=n:=by rw[<-hV];exact xR _ _
   have hpos:0<(V.filter (bU r v)).length:=yee (fV.mpr ⟨hv,by unfold bU;simp⟩)
   exact bZ key (Q5 n _ hpos hle hn)
  ·by_cases c:v∈s
   ·exact⟨v,fV.mpr ⟨hv,by unfold bU;simp⟩,gb c⟩
   ·obtain⟨x,hx,hr⟩:=(hf s hs).max v hv c
    exact⟨x,fV.mpr ⟨(hf s hs).sub x hx,by unfold bU;rw[hr];simp⟩,gb hx⟩
  ·have huV:u∈V:=(fV.mp hu).1
   have fg:∀s∈gs,Full r V s/\u∈s:=fun s hs=>⟨hf s (hg.subset hs),xT (hp s hs)⟩
   have hle:(V.filter (bU r u)).length<=n:=by rw[<-hV];exact xR _ _
   have hge:=hmin u huV
   have hpos:0<(V.filter (bU r u)).length:=yee (fV.mpr ⟨huV,by unfold bU;simp⟩)
   have hV2:(V.filter fun x=> !bU r u x).length=n-(V.filter (bU r u)).length:=by have:=mH (bU r u) V;omega
   have BK:∀(s:List Int) (x:Int),x∈s.filter (fun x=> !decide (x=u))↔x∈s/\x≠u:=fun s x=>by rw[fV];simp
   have h1:=ih (n-(V.filter (bU r u)).length) (by omega) (V.filter fun x=> !bU r u x) hV2 (by omega) (gs.map fun s=>s.filter fun x=> !decide (x=u)) (pB (nd.sublist hg) fun s hs t ht e=> ?_) (fun t ht=> ?_)
   ·rw[aF]at h1
    exact bZ h1 (wO _ _ (by omega) (by omega))
   ·obtain⟨a1,a2⟩:=fg s hs
    obtain⟨b1,b2⟩:=fg t ht
    refine Dl a1.up b1.up fun k=> ?_
    have hk:k∈s.filter (fun x=> !decide (x=u))↔k∈t.filter (fun x=> !decide (x=u)):=by rw[show s.filter (fun x=> !decide (x=u))=t.filter (fun x=> !decide (x=u))from e]
    rw[BK,BK]at hk
    by_cases c:k=u
    ·rw[c];exact⟨fun _=>b2,fun _=>a2⟩
    ·exact⟨fun z=>(hk.mp ⟨z,c⟩).1,fun z=>(hk.mpr ⟨z,c⟩).1⟩
   ·obtain⟨s,hs,rfl⟩:=iV.mp ht
    obtain⟨a1,a2⟩:=fg s hs
    refine⟨a1.up.sublist Jb,fun x hx=> ?_,fun x hx y hy=> ?_,fun w hw hn=> ?_⟩
    ·obtain⟨x1,x2⟩:=(BK s x).mp hx
     refine fV.mpr ⟨a1.sub x x1,?_⟩
     unfold bU
     rw[a1.ind x x1 u a2 x2,iY x2]
     rfl
    ·exact a1.ind x ((BK s x).mp hx).1 y ((BK s y).mp hy).1
    ·obtain⟨w1,w2⟩:=fV.mp hw
     have w3:bU r u w=false:=by simpa using w2
     unfold bU at w3
     rw[Bool.or_eq_false_iff]at w3
     have wu:w≠u:=TY w3.1
     have ws:w∉s:=fun z=>hn ((BK s w).mpr ⟨z,wu⟩)
     obtain⟨x,hx,hr⟩:=a1.max w w1 ws
     have xu:x≠u:=fun z=>by rw[z,sym u w,w3.2]at hr;cases hr
     exact⟨x,(BK s x).mpr ⟨hx,xu⟩,hr⟩
end Hs
namespace Hs
open PySem vh
def rng(n:Nat):List Int:=(List.range n).map fun k=>((k:Nat):Int)
theorem xO{n:Nat}{x:Int}:x∈rng n↔0<=x/\x<(n:Int):=by
 unfold rng
 rw[iV]
 constructor
 ·rintro⟨k,hk,rfl⟩
  have:=tZ.mp hk
  omega
 ·rintro⟨h0,h1⟩
  exact⟨x.toNat,tZ.mpr (by omega),by omega⟩
theorem Ib(ts:List (Int×Int))(i j:Int):aY ts i j=aY ts j i:=by unfold aY;rw[Bool.or_comm]
def goB(ts:List (Int×Int))(w:Bool)(s:List Int)(p:Int):Bool:=s.all fun q=>aY ts p q==w
def bD(ts:List (Int×Int))(w:Bool):Nat->List (List Int)
 |0=>[[]]
 |k+1=>bD ts w k++((bD ts w k).filter fun s=>goB ts w s (k:Int)).map fun s=>s++[(k:Int)]
def lR(ts:List (Int×Int))(w:Bool)(n:Nat)(s:List Int):Bool:= !((rng n).any fun p=> !decide (p∈s)&&goB ts w s p)
def iR(ts:List (Int×Int))(w:Bool)(n:Nat):List (List Int):=(bD ts w n).filter (lR ts w n)
structure iI(ts:List (Int×Int))(w:Bool)(k:Nat)(s:List Int):Prop where
 up:s.Pairwise (· < ·)
 lt:∀x∈s,0<=x/\x<(k:Int)
 all:∀x∈s,∀y∈s,x≠y->(aY ts x y==w)=true
theorem je{ts:List (Int×Int)}{w:Bool}:∀(k:Nat) (s:List Int),s∈bD ts w k->iI ts w k s
 |0,s,h=>by
  rw[fZ.mp (show s∈[[]]from h)]
  exact⟨List.Pairwise.nil,fun x hx=>(nomatch hx),fun x hx=>(nomatch hx)⟩
 |k+1,s,h=>by
  rcases iW.mp (show s∈bD ts w k++((bD ts w k).filter fun s=>goB ts w s (k:Int)).map fun s=>s++[(k:Int)]from h)with q|q
  ·have S:=je k s q
   exact⟨S.up,fun x hx=>by have:=S.lt x hx;omega,S.all⟩
  ·obtain⟨t,ht,rfl⟩:=iV.mp q
   obtain⟨t1,t2⟩:=fV.mp ht
   have S:=je k t t1
   have g:∀y∈t,(aY ts (k:Int) y==w)=true:=fun y hy=>oM.mp t2 y hy
   refine⟨?_,fun x hx=> ?_,fun x hx y hy hne=> ?_⟩
   ·rw[Oi]
    refine⟨S.up,Tp _ _,fun x hx y hy=> ?_⟩
    rw[fZ.mp hy]
    exact(S.lt x hx).2
   ·rcases iW.mp hx with z|z
    ·have:=S.lt x z;omega
    ·rw[fZ.mp z];omega
   ·rcases iW.mp hx with z|z
    ·rcases iW.mp hy with z'|z'
     ·exact S.all x z y z' hne
     ·rw[fZ.mp z',Ib];exact g x z
    ·rw[fZ.mp z]at hne⊢
     rcases iW.mp hy with z'|z'
     ·exact g y z'
     ·exact absurd (fZ.mp z').symm hne
theorem lY{ts:List (Int×Int)}{w:Bool}:∀k:Nat,(bD ts w k).Nodup
 |0=>by show([[]]:List (List Int)).Nodup;simp
 |k+1=>by
  show(bD ts w k++((bD ts w k).filter fun s=>goB ts w s (k:Int)).map fun s=>s++[(k:Int)]).Nodup
  refine List.nodup_append.mpr ⟨lY k,pB ((lY k).filter _) (fun a _ b _ e=>wez e),fun a ha b hb e=> ?_⟩
  obtain⟨t,_,rfl⟩:=iV.mp hb
  have:=(je k a ha).lt (k:Int) (by rw[e];simp)
  omega
theorem yC{ts:List (Int×Int)}{w:Bool}:∀k:Nat,(bD ts w k).length<=2^k
 |0=>aJ _
 |k+1=>by
  show(bD ts w k++((bD ts w k).filter fun s=>goB ts w s (k:Int)).map fun s=>s++[(k:Int)]).length<=2^(k+1)
  rw[qC,aF,wgg]
  have a:=yC (ts:=ts) (w:=w) k
  have b:=xR (fun s=>goB ts w s (k:Int)) (bD ts w k)
  omega
theorem Fe{ts:List (Int×Int)}{w:Bool}{n:Nat}{s:List Int}(h:s∈iR ts w n):Full (fun i j=> !(aY ts i j==w)) (rng n) s:=by
 obtain⟨h1,h2⟩:=fV.mp h
 have S:=je n s h1
 refine⟨S.up,fun x hx=>xO.mpr (S.lt x hx),fun x hx y hy hne=>by rw[S.all x hx y hy hne];rfl,fun v hv hn=> ?_⟩
 unfold lR at h2
 apply WD
 intro hc
 have h3:((rng n).any fun p=> !decide (p∈s)&&goB ts w s p)=false:=by simpa using h2
 rw[NP]at h3
 apply h3 v hv
 rw[iY hn]
 show goB ts w s v=true
 unfold goB
 rw[oM]
 intro q hq
 cases e:(aY ts v q==w)with
 |true=>rfl
 |false=>exact absurd ⟨q,hq,by show(!(aY ts q v==w))=true;rw[Ib,e];rfl⟩ hc
theorem uY{ts:List (Int×Int)}{w:Bool}{n:Nat}(hn:n<=10):(iR ts w n).length<=36:=by
 have h:=Cd (r:=fun i j=> !(aY ts i j==w)) (fun i j=>by rw[Ib]) n (rng n) (by unfold rng;simp) hn (iR ts w n) ((lY n).filter _) (fun s hs=>Fe hs)
 have:=wO n 10 hn (aJ _)
 exact bZ h this
def jz(ts:List (Int×Int))(w:Bool)(n:Nat)(s:List Int):List Int:=(rng n).filter fun p=>s.all fun q=> !decide (p=q)&&(aY ts q p==w)
def nZ(ts:List (Int×Int))(w:Bool)(n:Nat)(q:Int):List Int:=(rng n).filter fun p=> !decide (p=q)&&(aY ts q p==w)
theorem Lr(ts:List (Int×Int))(w:Bool)(n:Nat):jz ts w n []=rng n:=by unfold jz;exact List.filter_eq_self.mpr fun _ _=>rfl
theorem Hi(ts:List (Int×Int))(w:Bool)(n:Nat)(s:List Int)(k:Int):jz ts w n (s++[k])=(jz ts w n s).filter fun p=>decide (p∈nZ ts w n k):=by
 unfold jz
 rw[List.filter_filter]
 refine List.filter_congr fun p hp=> ?_
 rw[List.all_append,Bool.and_comm]
 congr 1
 unfold nZ
 rw[Al,was,fV]
 simp[hp]
theorem QG{ts:List (Int×Int)}{w:Bool}{n k:Nat}{s:List Int}(hs:iI ts w k s)(hk:k<n):decide ((k:Int)∈jz ts w n s)=goB ts w s (k:Int):=by
 unfold jz goB
 rw[Al,was,fV,oM,oM]
 constructor
 ·rintro⟨_,h⟩ q hq
  have:=h q hq
  rw[vD]at this
  rw[Ib];exact this.2
 ·intro h
  refine⟨xO.mpr ⟨by omega,by omega⟩,fun q hq=> ?_⟩
  have:=(hs.lt q hq).2
  rw[vD]
  refine⟨?_,by rw[Ib];exact h q hq⟩
  rw[iY (by omega)];rfl
theorem Hj(ts:List (Int×Int))(w:Bool)(n:Nat)(s:List Int):decide (jz ts w n s=[])=lR ts w n s:=by
 unfold jz lR
 rw[Al,was,List.filter_eq_nil_iff,RB,NP]
 constructor
 ·intro h p hp hc
  rw[vD]at hc
  apply h p hp
  rw[oM]
  intro q hq
  have h1:p∉s:=by simpa using hc.1
  have h2:=oM.mp hc.2 q hq
  rw[vD]
  refine⟨?_,by rw[Ib];exact h2⟩
  have ne:¬p=q:=fun e=>h1 (by rw[e];exact hq)
  rw[iY ne];rfl
 ·intro h p hp hc
  apply h p hp
  rw[oM]at hc
  rw[vD]
  refine⟨?_,?_⟩
  ·have:p∉s:=fun z=>by
    have:=hc p z
    simp at this
   rw[iY this];rfl
  ·unfold goB
   rw[oM]
   intro q hq
   have:=hc q hq
   rw[vD]at this
   rw[Ib];exact this.2
theorem S8:∀{xs ys:List Int},xs.Pairwise (· < ·)->ys.Pairwise (· < ·)->(∀k,k∈xs↔k∈ys)->xs=ys
 |[],[],_,_,_=>rfl
 |[],y::ys,_,_,h=>by have:=(h y).mpr (by simp);simp at this
 |x::xs,[],_,_,h=>by have:=(h x).mp (by simp);simp at this
 |x::xs,y::ys,hx,hy,h=>by
  rw[Xl]at hx hy
  have e:x=y:=by
   have a:=(h x).mp (by simp)
   have b:=(h y).mpr (by simp)
   rcases cW.mp a with a|a
   ·exact a
   ·rcases cW.mp b with b|b
    ·exact b.symm
    ·have:=hy.1 x a;have:=hx.1 y b;omega
  subst e
  rw[S8 hx.2 hy.2 fun k=> ?_]
  constructor
  ·intro hk
   rcases cW.mp ((h k).mp (eE _ hk))with a|a
   ·have:=hx.1 k hk;omega
   ·exact a
  ·intro hk
   rcases cW.mp ((h k).mpr (eE _ hk))with a|a
   ·have:=hy.1 k hk;omega
   ·exact a
theorem m5{ts:List (Int×Int)}{w:Bool}:∀(k:Nat) (s:List Int),iI ts w k s->s∈bD ts w k
 |0,s,h=>by
  cases s with
  |nil=>show([]:List Int)∈[[]];simp
  |cons x s=>have:=h.lt x (by simp);omega
 |k+1,s,h=>by
  show s∈bD ts w k++((bD ts w k).filter fun s=>goB ts w s (k:Int)).map fun s=>s++[(k:Int)]
  by_cases c:(k:Int)∈s
  ·have hm:∀x,x∈s.filter (fun x=> !decide (x=(k:Int)))↔x∈s/\x≠(k:Int):=fun x=>by rw[fV];simp
   refine jc _ (iV.mpr ⟨s.filter (fun x=> !decide (x=(k:Int))),fV.mpr ⟨m5 k _ ⟨h.up.filter _,fun x hx=> ?_,fun x hx y hy hne=> ?_⟩,?_⟩,?_⟩)
   ·have a:=(hm x).mp hx
    have b:=h.lt x a.1
    have:=a.2
    omega
   ·exact h.all x ((hm x).mp hx).1 y ((hm y).mp hy).1 hne
   ·unfold goB
    rw[oM]
    intro q hq
    have a:=(hm q).mp hq
    exact h.all _ c q a.1 (fun e=>a.2 e.symm)
   ·refine S8 ?_ h.up fun x=> ?_
    ·rw[Oi]
     refine⟨h.up.filter _,Tp _ _,fun x hx y hy=> ?_⟩
     rw[fZ.mp hy]
     have a:=(hm x).mp hx
     have b:=h.lt x a.1
     have:=a.2
     omega
    ·rw[iW,hm,fZ]
     constructor
     ·rintro(a|a)
      ·exact a.1
      ·rw[a];exact c
     ·intro a
      by_cases e:x=(k:Int)
      ·exact .inr e
      ·exact .inl ⟨a,e⟩
  ·refine Jc _ (m5 k s ⟨h.up,fun x hx=> ?_,h.all⟩)
   have b:=h.lt x hx
   have:x≠(k:Int):=fun e=>c (by rw[<-e];exact hx)
   omega
theorem iI.of{ts:List (Int×Int)}{w:Bool}{n:Nat}{s:List Int}(F:Full (fun i j=> !(aY ts i j==w)) (rng n) s):iI ts w n s:=
 ⟨F.up,fun x hx=>xO.mp (F.sub x hx),fun x hx y hy hne=>by
  have:=F.ind x hx y hy hne
  try dsimp only at this
  cases e:(aY ts x y==w)with
  |true=>rfl
  |false=>rw[e]at this;cases this⟩
theorem Q0{ts:List (Int×Int)}{w:Bool}{n:Nat}{s:List Int}(F:Full (fun i j=> !(aY ts i j==w)) (rng n) s):s∈iR ts w n:=by
 refine fV.mpr ⟨m5 n s (iI.of F),?_⟩
 unfold lR
 rw[RB,NP]
 intro p hp hc
 rw[vD]at hc
 have hn:p∉s:=by simpa using hc.1
 obtain⟨x,hx,hr⟩:=F.max p hp hn
 have:=oM.mp hc.2 x hx
 try dsimp only at hr this
 rw[Ib,this]at hr
 cases hr
theorem uK{so:Int->Int->Bool}{m:Int}{i j:Int}(h0:0<=i)(h1:i<j)(h2:j<m):aY (rows so m m.toNat) i j=so i j:=by
 unfold aY
 have a:decide ((j,i)∈rows so m m.toNat)=false:=iY fun z=>by
  rw[dg]at z
  have:=z.2.2.1
  try dsimp only at this
  omega
 rw[a,Bool.or_false,Al,was,dg]
 constructor
 ·exact fun z=>z.2.2.2.2
 ·intro z
  exact⟨h0,by show i<_;omega,h1,h2,z⟩
theorem Er{α:Type}(g:α->Nat):∀V:List α,V≠[]->∃v∈V,∀u∈V,g u<=g v
 |[],h=>absurd rfl h
 |[x],_=>⟨x,by simp,fun u hu=>by rw[fZ.mp hu];exact aJ _⟩
 |x::y::V,_=>by
  obtain⟨v,hv,hm⟩:=Er g (y::V) (by simp)
  by_cases c:g v<=g x
  ·refine⟨x,by simp,fun u hu=> ?_⟩
   rcases cW.mp hu with e|e
   ·rw[e];exact aJ _
   ·exact bZ (hm u e) c
  ·refine⟨v,eE _ hv,fun u hu=> ?_⟩
   rcases cW.mp hu with e|e
   ·rw[e];omega
   ·exact hm u e
theorem zK{ts:List (Int×Int)}{w:Bool}{n:Nat}{s:List Int}(hs:iI ts w n s):∃t∈iR ts w n,∀x∈s,x∈t:=by
 let C:=(bD ts w n).filter fun t=>s.all fun x=>decide (x∈t)
 have mC:∀t,t∈C↔t∈bD ts w n/\∀x∈s,x∈t:=fun t=>by
  show t∈(bD ts w n).filter _↔_
  rw[fV,oM]
  simp
 have hne:C≠[]:=fun e=>by
  have:s∈C:=(mC s).mpr ⟨m5 n s hs,fun x hx=>hx⟩
  rw[e]at this;cases this
 obtain⟨t,ht,hm⟩:=Er List.length C hne
 obtain⟨h1,h2⟩:=(mC t).mp ht
 have T:=je n t h1
 refine⟨t,Q0 ⟨T.up,fun x hx=>xO.mpr (T.lt x hx),fun x hx y hy hne=> ?_,fun v hv hn=> ?_⟩,h2⟩
 ·show(!(aY ts x y==w))=false
  rw[T.all x hx y hy hne];rfl
 ·apply WD
  intro hc
  have go:∀x∈t,(aY ts x v==w)=true:=fun x hx=>by
   cases e:(aY ts x v==w)with
   |true=>rfl
   |false=>exact absurd ⟨x,hx,by show(!(aY ts x v==w))=true;rw[e];rfl⟩ hc
  have mU:∀x,x∈(rng n).filter (fun x=>decide (x∈t)||decide (x=v))↔x∈t\/x=v:=fun x=>by
   rw[fV,wgi,was,was]
   constructor
   ·exact fun z=>z.2
   ·rintro(z|z)
    ·exact⟨xO.mpr (T.lt x z),.inl z⟩
    ·exact⟨by rw[z];exact hv,.inr z⟩
  have up:((rng n).filter (fun x=>decide (x∈t)||decide (x=v))).Pairwise (· < ·):=by
   refine List.Pairwise.filter _ ?_
   unfold rng
   rw[Oh]
   exact yef.imp fun{a b} h=>by omega
  have U:iI ts w n ((rng n).filter (fun x=>decide (x∈t)||decide (x=v))):=⟨up,fun x hx=>xO.mp (fV.mp hx).1,fun x hx y hy hne=>by
   rcases(mU x).mp hx with a|a
   ·rcases(mU y).mp hy with b|b
    ·exact T.all x a y b hne
    ·rw[b];exact go x a
   ·rcases(mU y).mp hy with b|b
    ·rw[a,Ib];exact go y b
    ·exact absurd (a.trans b.symm) hne⟩
  have inC:=(mC _).mpr ⟨m5 n _ U,fun x hx=>(mU x).mpr (.inl (h2 x hx))⟩
  have l1:=hm _ inC
  have l2:=iQ (l:=v::t) (m:=(rng n).filter (fun x=>decide (x∈t)||decide (x=v))) (IW.mpr ⟨hn,T.up.imp fun{a b} h=>by omega⟩) (fun x hx=>by
   rcases cW.mp hx with z|z
   ·exact(mU x).mpr (.inr z)
   ·exact(mU x).mpr (.inl z))
  rw[rD]at l2
  omega
theorem getD_at{xs:List Int}{i:Int}(h0:0<=i)(h1:i<(xs.length:Int)):xs.getD i.toNat 0∈xs:=by
 have hk:i.toNat<xs.length:=by omega
 rw[jC,gH hk]
 exact I9 hk
theorem lq{xs:List Int}(hs:xs.Pairwise (· < ·)){i j:Int}(h0:0<=i)(h1:i<j)(h2:j<(xs.length:Int)):xs.getD i.toNat 0<xs.getD j.toNat 0:=by
 have g:∀j,(hj:j<xs.length)->xs.getD j 0=xs[j]:=fun j hj=>by rw[jC,gH hj];rfl
 have hl:=Ij.mp hs i.toNat j.toNat (by omega) (by omega) (by omega)
 rw[<-g i.toNat (by omega),<-g j.toNat (by omega)]at hl
 exact hl
theorem Q7{n:Int}{ts:List (Int×Int)}{w:Bool}{xs s:List Int}(ht:bW n ts)(hok:eF n xs)(h0:0<=n)(h:iI (rows (DQ xs ts) (xs.length:Int) (xs.length:Int).toNat) w xs.length s):iI ts w n.toNat (s.map fun i=>xs.getD i.toNat 0):=by
 have key:∀i j:Int,0<=i->i<j->j<(xs.length:Int)->aY (rows (DQ xs ts) (xs.length:Int) (xs.length:Int).toNat) i j=aY ts (xs.getD i.toNat 0) (xs.getD j.toNat 0):=fun i j a b c=>by
  rw[uK a b c]
  unfold DQ
  rw[tied_eq ht]
 refine⟨?_,fun x hx=> ?_,fun x hx y hy hne=> ?_⟩
 ·rw[Oh]
  refine X4 (fun{a b} ha hb hab=> ?_) h.up
  exact lq hok.JB (h.lt a ha).1 hab (h.lt b hb).2
 ·obtain⟨i,hi,rfl⟩:=iV.mp hx
  have:=hok.lt _ (getD_at (h.lt i hi).1 (h.lt i hi).2)
  omega
 ·obtain⟨i,hi,rfl⟩:=iV.mp hx
  obtain⟨j,hj,rfl⟩:=iV.mp hy
  have ne:i≠j:=fun e=>hne (by rw[e])
  have a:=h.all i hi j hj ne
  rcases Int.lt_or_lt_of_ne ne with c|c
  ·rw[key i j (h.lt i hi).1 c (h.lt j hj).2]at a
   exact a
  ·rw[Ib,key j i (h.lt j hj).1 c (h.lt i hi).2,Ib]at a
   exact a
end Hs
namespace Hs
open PySem L2 vh
section
variable{P:Program}{w:World}{K:W.Frag}{mg:Str->Option Value}{base:Heap}
theorem blV_eq(a b:Bool):decide (V.bl a=V.bl b)=(a==b):=by cases a<;>cases b<;>rfl
theorem intV_eq(a b:Int):decide (V.int a=V.int b)=decide (a=b):=by
 by_cases e:a=b
 ·subst e;simp
 ·rw[iY e,iY (by intro z;injection z with z;exact e z)]
theorem wC{a b:Int}:(!decide (V.int a=V.int b))= !decide (a=b):=by rw[intV_eq]
theorem any_ints(xs:List Int)(k:Int):((xs.map PyData.int).any fun d=>PyData.eqv d (.int k))=decide (k∈xs):=by
 induction xs with
 |nil=>simp
 |cons x xs ih=>
  rw[qM,Rn,ih]
  have e:PyData.eqv (.int x) (.int k)=decide (k=x):=by
   show(x==k)=_
   rw[Al];simp;exact⟨fun h=>h.symm,fun h=>h.symm⟩
  rw[e,Al]
  simp
theorem Xd{α:Type}{p:α->Bool}{l:List α}{i:Nat}(hi:i<l.length):(l.take (i+1)).filter p=(l.take i).filter p++(if p l[i]=true then[l[i]]else[]):=by
 rw[rE,gH hi,Ti]
 congr 1
 show[l[i]].filter p=_
 rw[Og]
 rfl
theorem yG(k:Nat):rng (k+1)=rng k++[(k:Int)]:=by unfold rng;rw[vq,bQ];rfl
theorem rM(n:Nat):cQ n=(rng n).map V.int:=by unfold cQ rng;rw[Tc];rfl
def yq(K:W.Frag):Sp:=fun vs H Q _=>∃(l m:Addr) (xs ys:List Int),vs=[.ref l,.ref m]/\SqL K H l (xs.map V.int)/\SqL K H m (ys.map V.int)/\∀r H',Same H H'->H' r=some (.lst ((xs.filter fun p=>decide (p∈ys)).map V.int))->H r=none->Q (.ref r) H'
theorem Gh:FnScope ["ones","others"] ["ones","others"] (defScope kW):=fsc
theorem GJ{f:Addr}{fd:FuncData}(F:Fun K "in_both" "in_both" kW f fd):
  FnOk P w K mg base CX0 1 f fd ["ones","others"] (yq K):=by
 refine F.ok Gh (fun vs H Q E h=> ?_) (fun cdv A outer s H vs Q E hr h=> ?_)
 ·obtain⟨l,m,xs,ys,rfl,_⟩:=h
  rfl
 obtain⟨l,m,xs,ys,rfl,hL,hM,q⟩:=h
 refine⟨_,(aX (cF (oH (own:=["place"]) (caps:=["others"]) (ix:=[1]) rfl (xW (pv 0)) rfl rfl (.cons rfl rfl .nil) (fun _ _ _ _ _=>(cY (i:=0) (show(["place","others"]:List Str).Nodup from by decide+kernel) rfl (Or.inl rfl))) (fun _ _ _ _ _=>fj (kj (vY K hr.units) (pv 0) (pv 1) (by with_unfolding_all rfl))) (fun _ _ _ _ _=>(pv 0))))),?_⟩
 refine⟨_,rfl,l,_,rfl,hL,fun hz=> ?_⟩
 refine HY (xs:=xs.map V.int) (fun k acc σ H'=>acc=((xs.take k).filter fun p=>decide (p∈ys)).map V.int/\Same H H'/\∃o,σ=[o,some (.ref m)]) ⟨rfl,Same.refl _,_,rfl⟩ (fun k acc σ H' _ p=>p.2.1.seq hL) (fun k acc σ H' hk p=> ?_) hz (fun k x acc σ H' hx p=> ?_) (fun acc σ H' p=> ?_)
 ·rw[p.1,aF]
  exact bZ (xR _ _) (by rw[vA];exact Dj _ _)
 ·obtain⟨rfl,sm,o,rfl⟩:=p
  rw[cg]at hx
  cases ex:xs[k]? with
  |none=>rw[ex]at hx;cases hx
  |some y=>
   rw[ex]at hx
   cases hx
   obtain⟨hk,ey⟩:=lC.mp ex
   have e:=Xd (p:=fun p=>decide (p∈ys)) hk
   rw[ey]at e
   refine⟨_,rfl,_,rfl,m,_,_,.int y,rfl,.inl (sm.seq hM),dI.ints ys,.int _,IK ys,rfl,(by show 0<=60;decide),_,rfl,?_⟩
   rw[any_ints]
   refine ite2 (fun c=> ?_) (fun c=> ?_)
   ·exact⟨_,rfl,by rw[e,ao c,bQ];rfl,sm,_,rfl⟩
   ·exact⟨by rw[e,ak c,uF],sm,_,rfl⟩
 ·intro p1 hp1
  obtain⟨rfl,sm,_⟩:=p
  rw[aF,qe]
  exact q p1 _ (sm.trans (aV hp1 _)) aH (sm.free hp1)
def DP(K:W.Frag):Sp:=fun vs H Q _=>∃(a:Addr) (n i:Int) (ts:List (Int×Int)) (w:Bool),vs=[.ref a,.int i,.bl w]/\bA K H a n ts/\∀r H',Same H H'->H' r=some (.lst ((nZ ts w n.toNat i).map V.int))->H r=none->Q (.ref r) H'
theorem Ks:FnScope ["web","place","tied"] ["web","place","tied"] (defScope zcv):=fsc
theorem K9{f f1:Addr}{fd d1:FuncData}(F:Fun K "places_by_tie" "places_by_tie" zcv f fd)(D1:bJ K mg "has_tie" gG ["web","one","other"] f1 d1)(G1:FnOk P w K mg base CX0 1 f1 d1 ["web","one","other"] (DG K))(aG:mg "range"=none):
  FnOk P w K mg base CX0 2 f fd ["web","place","tied"] (DP K):=by
 refine F.ok Ks (fun vs H Q E h=> ?_) (fun cdv A outer s H vs Q E hr h=> ?_)
 ·obtain⟨a,n,i,ts,w,rfl,_⟩:=h
  rfl
 obtain⟨a,n,i,ts,w,rfl,hA,q⟩:=h
 refine⟨_,(aX (cF (oH (own:=["other"]) (caps:=["place","web","tied"]) (ix:=[1,0,2]) rfl (Ia rfl aG (aj (bB gQ (pv 0) aK (fun _ _=>rfl)) au)) rfl rfl (.cons rfl rfl (.cons rfl rfl (.cons rfl rfl .nil))) (fun _ _ _ _ _=>(cY (i:=0) (show(["other","place","web","tied"]:List Str).Nodup from by decide+kernel) rfl (Or.inl rfl))) (fun _ _ _ _ _=>fj (PW.pt (pw_and (kj op_ne (pv 0) (pv 1) (nomark _)) (pw_and1 (kj op_eq (pc G1 hr D1 (aj (pv 2) (aj (pv 1) (aj (pv 0) au)))) (pv 3) (nomark _)))))) (fun _ _ _ _ _=>(pv 0))))),?_⟩
 have h0:=hA.h0
 have h10:=hA.h1
 obtain⟨ta,ra,a1,a2,a3⟩:=id hA.web
 refine⟨_,rfl,a,_,_,.int n,rfl,rfl,a1,rfl,n,rfl,by omega,by omega,?_⟩
 refine Ob (n:=n.toNat) (fun k acc σ H'=>acc=((rng k).filter fun p=> !decide (p=i)&&(aY ts i p==w)).map V.int/\Same H H'/\∃o,σ=[o,some (.int i),some (.ref a),some (.bl w)]) ⟨rfl,Same.refl _,_,rfl⟩ (fun k acc σ H' hk p=> ?_) (by rw[gB];omega) (fun k acc σ H' hk p=> ?_) (fun acc σ H' p=> ?_)
 ·rw[p.1,aF]
  exact bZ (xR _ _) (by unfold rng;simp)
 ·obtain⟨rfl,sm,o,rfl⟩:=p
  have ek:(0+(k:Int))=(k:Int):=by omega
  rw[ek]
  have e:∀b,b=(!decide ((k:Int)=i)&&(aY ts i (k:Int)==w))->((rng (k+1)).filter fun p=> !decide (p=i)&&(aY ts i p==w))=((rng k).filter fun p=> !decide (p=i)&&(aY ts i p==w))++(if b=true then[(k:Int)]else[]):=fun b hb=>by
   rw[yG,Ti,Og,hb];rfl
  refine⟨_,rfl,_,rfl,rfl,_,rfl,?_⟩
  rw[wC]
  refine ite2 (fun c=> ?_) (fun c=> ?_)
  ·refine⟨_,rfl,_,rfl,_,rfl,a,n,_,_,ts,rfl,(hA.same sm).web,fun H5 s5=>⟨_,rfl,rfl,_,rfl,?_⟩⟩
   rw[blV_eq,tied_eq hA.pk]
   refine ite2 (fun c2=> ?_) (fun c2=> ?_)
   ·exact⟨_,rfl,by rw[e true (by rw[c,c2];rfl),bQ];rfl,sm.trans s5,_,rfl⟩
   ·exact⟨by rw[e false (by rw[c,Bool.eq_false_iff.mpr c2];rfl)];simp,sm.trans s5,_,rfl⟩
  ·exact⟨by rw[e false (by rw[Bool.eq_false_iff.mpr c];rfl)];simp,sm,_,rfl⟩
 ·intro p1 hp1
  obtain⟨rfl,sm,_⟩:=p
  exact q p1 _ (sm.trans (aV hp1 _)) aH (sm.free hp1)
def bO(K:W.Frag)(H:Hp)(r:Addr)(ss:List (List Int)):Prop:=∃its:List (Addr×List Int),H r=some (.lst (its.map fun p=>V.ref p.1))/\(∀p∈its,SqT K H p.1 (p.2.map V.int))/\its.map (fun p=>p.2)=ss
theorem bO.same{H H':Hp}{r:Addr}{ss:List (List Int)}(h:bO K H r ss)(e:Same H H'):bO K H' r ss:=by
 obtain⟨its,h1,h2,h3⟩:=h
 exact⟨its,e _ _ h1,fun p hp=>e.tup (h2 p hp),h3⟩
def fu(ss:List (List Int))(ts:List (Int×Int))(w:Bool)(n:Nat):Prop:=ss.Perm (iR ts w n)/\ss.Pairwise fun a b=>HT.lexLt b a=false
theorem QZ{ts:List (Int×Int)}{w:Bool}{n:Nat}(h2:2<=(iR ts w n).length):∀s∈iR ts w n,s≠[]:=by
 intro s hs e
 subst e
 have F:=Fe hs
 cases n with
 |zero=>
  have:(iR ts w 0).length<=1:=by
   show(([[]]:List (List Int)).filter (lR ts w 0)).length<=1
   exact xR _ _
  omega
 |succ n=>
  obtain⟨x,hx,_⟩:=F.max 0 (xO.mpr ⟨by omega,by omega⟩) (by simp)
  cases hx
structure Z1(K:W.Frag)(H:Hp)(ts:List (Int×Int))(w:Bool)(n:Nat)(q:Addr×Addr×Addr×List Int):Prop where
 pr:SqT K H q.1 [.ref q.2.1,.ref q.2.2.1]
 so:SqT K H q.2.1 (q.2.2.2.map V.int)
 le:H q.2.2.1=some (.lst ((jz ts w n q.2.2.2).map V.int))
theorem Z1.same{H H':Hp}{ts:List (Int×Int)}{w:Bool}{n:Nat}{q:Addr×Addr×Addr×List Int}(h:Z1 K H ts w n q)(e:Same H H'):Z1 K H' ts w n q:=⟨e.tup h.pr,e.tup h.so,e _ _ h.le⟩
def Nm(K:W.Frag)(H:Hp)(fd:Addr)(ts:List (Int×Int))(w:Bool)(n:Nat)(ss:List (List Int)):Prop:=∃its:List (Addr×Addr×Addr×List Int),H fd=some (.lst (its.map fun q=>V.ref q.1))/\(∀q∈its,Z1 K H ts w n q)/\its.map (fun q=>q.2.2.2)=ss
def rR(K:W.Frag):Sp:=fun vs H Q _=>∃(fl:Addr) (fas:List Addr) (ts:List (Int×Int)) (w:Bool) (n:Nat),vs=[.ref fl]/\H fl=some (.lst (fas.map V.ref))/\fas.length=n/\n<=10/\(∀(i:Nat) f,fas[i]? =some f->H f=some (.lst ((nZ ts w n (i:Int)).map V.int)))/\
 ∀r ss H',Same H H'->bO K H' r ss->fu ss ts w n->H r=none->Q (.ref r) H'
theorem fG:FnScope ["friends","found","place","wider"] ["friends"] (defScope gY):=fsc
theorem yN{f f1:Addr}{fd d1:FuncData}(F:Fun K "full_sets" "full_sets" gY f fd)(D1:bJ K mg "in_both" kW ["ones","others"] f1 d1)(G1:FnOk P w K mg base CX0 1 f1 d1 ["ones","others"] (yq K))(jX:mg "list"=none)(aG:mg "range"=none)(bw:mg "len"=none)(sV:mg "sorted"=none):
  FnOk P w K mg base CX0 2 f fd ["friends"] (rR K):=by
 refine F.ok fG (fun vs H Q E h=> ?_) (fun cdv A outer s H vs Q E hr h=> ?_)
 ·obtain⟨fl,fas,ts,w,n,rfl,_⟩:=h
  rfl
 obtain⟨fl,fas,ts,w,n,rfl,hF,hn,h10,hfr,q⟩:=h
 refine⟨_,(aO (cV (i:=1) fG.nd rfl (Or.inl rfl) (pe_lst (aj (oG (aj (oG au) (aj (jV rfl rfl jX rfl aG (aj (fM qd rfl bw oU (aj (pv 0) au)) au)) au))) au))) (aO (xM tX rfl (Ia rfl aG (aj (fM qd rfl bw oU (aj (pv 0) au)) au)) (cY (i:=2) fG.nd rfl (Or.inr rfl)) (aO (SX (i:=3) (own:=["some","left"]) (caps:=["place","friends"]) (ix:=[2,0]) fG.nd rfl (Or.inl rfl) rfl (xW (pv 1)) rfl rfl (.cons rfl rfl (.cons rfl rfl .nil)) (fun _ _ _ _ _=>(iu K (n:=2) rfl (tV (cY (i:=0) (show(["some","left","place","friends"]:List Str).Nodup from by decide+kernel) rfl (Or.inl rfl)) (tV (cY (i:=1) (show(["some","left","place","friends"]:List Str).Nodup from by decide+kernel) rfl (Or.inl rfl)) pgs_nil)))) (fun _ _ _ _ _=>fj (kj (vY K hr.units) (pv 2) (pv 1) (by with_unfolding_all rfl))) (fun _ _ _ _ _=>(oG (aj (bN (yM K) (pv 0) (oG (aj (pv 2) au))) (aj (pc G1 hr D1 (aj (pv 1) (aj (bB (jY K) (pv 3) (pv 2) (fun _ _=>rfl)) au))) au))))) (aX (cV (i:=1) fG.nd rfl (Or.inl rfl) (bN op_cat (pv 1) (pv 3)))))) (aX (cF (fM w5 rfl sV (by decide+kernel) (aj (oH (own:=["some","left"]) (caps:=[]) (ix:=[]) rfl (xW (pv 1)) rfl rfl .nil (fun _ _ _ _ _=>(iu K (n:=2) rfl (tV (cY (i:=0) (show(["some","left"]:List Str).Nodup from by decide+kernel) rfl (Or.inl rfl)) (tV (cY (i:=1) (show(["some","left"]:List Str).Nodup from by decide+kernel) rfl (Or.inl rfl)) pgs_nil)))) (fun _ _ _ _ _=>fj (pt_not (oZ K (pv 1) (fun _=>rfl)))) (fun _ _ _ _ _=>(pv 0))) au)))))),?_⟩
 have el:((fas.map V.ref).length:Int)=(n:Int):=by rw[aF,hn]
 refine⟨(by show 0<=sizeLine;decide),fun e1 he1=> ?_⟩
 have s1:=aV he1 (.tup [])
 have t1:SqT K (upd H e1 (.tup [])) e1 []:=SqT.of aH
 generalize (upd H e1 (.tup []))=H1 at *
 refine⟨_,rfl,fl,_,rfl,.inl (SqL.of (s1 _ _ hF)),fun _=>⟨_,rfl,by omega,by rw[el];omega,fun rl hrl=> ?_⟩⟩
 have er:cQ ((fas.map V.ref).length:Int).toNat=(rng n).map V.int:=by rw[el,Ws,rM]
 rw[er]
 have s2:=aV hrl (.lst ((rng n).map V.int))
 have t2:(upd H1 rl (.lst ((rng n).map V.int))) rl=some (.lst ((rng n).map V.int)):=aH
 generalize (upd H1 rl (.lst ((rng n).map V.int)))=H2 at *
 refine⟨(by show 2<=sizeLine;decide),fun e3 he3=> ?_⟩
 have s3:=aV he3 (.tup [.ref e1,.ref rl])
 have t3:SqT K (upd H2 e3 (.tup [.ref e1,.ref rl])) e3 [.ref e1,.ref rl]:=SqT.of aH
 generalize (upd H2 e3 (.tup [.ref e1,.ref rl]))=H3 at *
 refine⟨(by show 1<=sizeLine;decide),fun fd hfd=> ?_⟩
 have s4:=aV hfd (.lst [.ref e3])
 have F4:Nm K (upd H3 fd (.lst [.ref e3])) fd ts w n (bD ts w 0):=by
  refine⟨[(e3,e1,rl,[])],aH,fun q hq=> ?_,rfl⟩
  rw[fZ.mp hq]
  exact⟨s4.tup t3,s4.tup (s3.tup (s2.tup t1)),by rw[Lr];exact s4 _ _ (s3 _ _ t2)⟩
 have s04:=s1.trans (s2.trans (s3.trans s4))
 generalize (upd H3 fd (.lst [.ref e3]))=H4 at *
 refine⟨_,rfl,fl,_,rfl,.inl (SqL.of (s04 _ _ hF)),fun _=>⟨_,rfl,by omega,by rw[el];omega,?_⟩⟩
 have en:((fas.map V.ref).length:Int).toNat=n:=by rw[el,Ws]
 rw[en]
 refine for_range (n:=n) (fun k σ H'=>Same H H'/\∃fd b2 b3,Nm K H' fd ts w n (bD ts w k)/\σ=[some (.ref fl),some (.ref fd),b2,b3]) ⟨s04,fd,_,_,F4,rfl⟩ (fun k σ H' hk p=> ?_) (fun σ H' p=> ?_)
 ·obtain⟨s5,fd,b2,b3,F5,rfl⟩:=p
  have ek:(0+(k:Int))=(k:Int):=by omega
  rw[ek]
  obtain⟨its,f1,f2,f3⟩:=F5
  have hlen:its.length<=1024:=by
   have a:=yC (ts:=ts) (w:=w) k
   rw[<-f3,aF]at a
   have b:2^k<=2^10:=Wu (by decide) (by omega)
   have c:2^10=1024:=by decide
   omega
  have hkf:k<fas.length:=by omega
  have hfk:(fas.map V.ref)[k]? =some (.ref fas[k]):=by rw[cg,gH hkf];rfl
  have hgk:=hfr k fas[k] (gH hkf)
  refine⟨_,rfl,fd,_,rfl,SqL.of f1,fun hzf=> ?_⟩
  refine HY (xs:=its.map fun q=>V.ref q.1) (fun i acc σ vm=>(∃its2:List (Addr×Addr×Addr×List Int),acc=its2.map (fun q=>V.ref q.1)/\(∀q∈its2,Z1 K vm ts w n q)/\its2.map (fun q=>q.2.2.2)=(((bD ts w k).take i).filter fun s=>goB ts w s (k:Int)).map fun s=>s++[(k:Int)])/\Same H' vm/\∃o1 o2,σ=[o1,o2,some (.int (k:Int)),some (.ref fl)]) ⟨⟨[],rfl,fun q hq=>(nomatch hq),rfl⟩,Same.refl _,_,_,rfl⟩ (fun i acc σ vm _ p=>p.2.1.seq (SqL.of f1)) (fun i acc σ vm hi p=> ?_) hzf (fun i x acc σ vm hx p=> ?_) (fun acc σ vm p=> ?_)
  ·obtain⟨⟨its2,rfl,g2,g3⟩,_⟩:=p
   have a:=jy List.length g3
   rw[aF,aF]at a
   rw[aF,a]
   exact bZ (xR _ _) (by rw[vA];exact Dj _ _)
  ·obtain⟨⟨its2,rfl,g2,g3⟩,sm,o1,o2,rfl⟩:=p
   rw[cg]at hx
   cases ex:its[i]? with
   |none=>rw[ex]at hx;cases hx
   |some v=>
    rw[ex]at hx
    cases hx
    have fv:=(f2 v (iZ ex)).same sm
    have hsv:(bD ts w k)[i]? =some v.2.2.2:=by rw[<-f3,cg,ex];rfl
    obtain⟨hi,esv⟩:=lC.mp hsv
    have Sv:=je k v.2.2.2 (iZ hsv)
    have e:=Xd (p:=fun s=>goB ts w s (k:Int)) hi
    rw[esv]at e
    refine⟨v.1,_,rfl,fv.pr,rfl,_,_,rfl,_,_,rfl,rfl,?_⟩
    refine⟨_,rfl,_,rfl,v.2.2.1,_,_,.int (k:Int),rfl,.inl (SqL.of fv.le),dI.ints _,.int _,IK _,rfl,(by show 0<=60;decide),_,rfl,?_⟩
    rw[any_ints,QG Sv hk]
    refine ite2 (fun c=> ?_) (fun c=> ?_)
    ·refine⟨_,rfl,_,rfl,(by show 1<=sizeLine;decide),fun e5 he5=> ?_⟩
     have s6:=aV he5 (.tup [.int (k:Int)])
     have t6:SqT K (upd vm e5 (.tup [.int (k:Int)])) e5 [.int (k:Int)]:=SqT.of aH
     generalize (upd vm e5 (.tup [.int (k:Int)]))=H6 at *
     have hvl:v.2.2.2.length<=10:=by
      have a:=iQ (l:=v.2.2.2) (m:=rng n) (Sv.up.imp fun{x y} h=>by omega) (fun x hx=>xO.mpr (by have:=Sv.lt x hx;omega))
      have b:(rng n).length=n:=by unfold rng;simp
      omega
     refine⟨v.2.1,e5,_,_,rfl,rfl,s6.tup fv.so,t6,(by rw[aF,gB];show v.2.2.2.length+1<=_;omega),fun r7 H7 s7 h7=> ?_⟩
     have s67:=s6.trans s7
     refine⟨_,rfl,_,rfl,_,rfl,fl,_,_,.ref fas[k],rfl,rfl,SqL.of ((s5.trans (sm.trans s67)) _ _ hF),atI_nat hfk,v.2.2.1,fas[k],_,_,rfl,SqL.of (s67 _ _ fv.le),SqL.of ((s5.trans (sm.trans s67)) _ _ hgk),fun r8 H8 s8 h8 n8=> ?_⟩
     refine⟨(by show 2<=sizeLine;decide),fun e9 he9=> ?_⟩
     have s9:=aV he9 (.tup [.ref r7,.ref r8])
     have s69:=s67.trans (s8.trans s9)
     refine⟨⟨its2++[(e9,r7,r8,v.2.2.2++[(k:Int)])],by rw[bQ];rfl,fun q hq=> ?_,by rw[bQ,g3,e,ao c,bQ];rfl⟩,sm.trans s69,_,_,rfl⟩
     rcases iW.mp hq with z|z
     ·exact(g2 q z).same s69
     ·rw[fZ.mp z]
      refine⟨SqT.of aH,s9.tup (s8.tup ?_),by rw[Hi];exact s9 _ _ h8⟩
      rw[bQ];exact h7
    ·exact⟨⟨its2,rfl,g2,by rw[g3,e,ak c,uF]⟩,sm,_,_,rfl⟩
  ·intro p1 hp1
   obtain⟨⟨its2,rfl,g2,g3⟩,sm,o1,o2,rfl⟩:=p
   have hle:(its.map fun q=>V.ref q.1).length=(bD ts w k).length:=by rw[aF,<-f3,aF]
   rw[hle,qe]at g3
   have s6:=aV hp1 (.lst (its2.map fun q=>V.ref q.1))
   have l2:its2.length<=1024:=by
    have a:=jy List.length g3
    rw[aF,aF]at a
    have b:=xR (fun s=>goB ts w s (k:Int)) (bD ts w k)
    rw[<-f3,aF]at b
    rw[<-f3]at a
    omega
   refine⟨_,rfl,_,rfl,fd,p1,_,_,rfl,rfl,(sm.trans s6) _ _ f1,aH,by rw[aF,aF,gB];omega,fun p2 hp2=> ?_⟩
   have s7:=aV hp2 (.lst ((its.map fun q=>V.ref q.1)++(its2.map fun q=>V.ref q.1)))
   refine⟨s5.trans (sm.trans (s6.trans s7)),p2,_,_,⟨its++its2,by rw[aH,bQ],fun q hq=> ?_,by rw[bQ,f3,g3];rfl⟩,rfl⟩
   rcases iW.mp hq with z|z
   ·exact(f2 q z).same (sm.trans (s6.trans s7))
   ·exact(g2 q z).same (s6.trans s7)
 ·obtain⟨s5,fd,b2,b3,⟨its,f1,f2,f3⟩,rfl⟩:=p
  refine⟨_,rfl,fd,_,rfl,SqL.of f1,fun hzf=> ?_⟩
  refine HY (xs:=its.map fun q=>V.ref q.1) (fun i acc σ vm=>(∃its2:List (Addr×List Int),acc=its2.map (fun q=>V.ref q.1)/\(∀q∈its2,SqT K H' q.1 (q.2.map V.int))/\its2.map (fun q=>q.2)=((bD ts w n).take i).filter (lR ts w n))/\Same H' vm/\∃o1 o2,σ=[o1,o2]) ⟨⟨[],rfl,fun q hq=>(nomatch hq),rfl⟩,Same.refl _,_,_,rfl⟩ (fun i acc σ vm _ p=>p.2.1.seq (SqL.of f1)) (fun i acc σ vm hi p=> ?_) hzf (fun i x acc σ vm hx p=> ?_) (fun acc σ vm p=> ?_)
  ·obtain⟨⟨its2,rfl,g2,g3⟩,_⟩:=p
   have a:=jy List.length g3
   rw[aF]at a
   rw[aF,a]
   exact bZ (xR _ _) (by rw[vA];exact Dj _ _)
  ·obtain⟨⟨its2,rfl,g2,g3⟩,sm,o1,o2,rfl⟩:=p
   rw[cg]at hx
   cases ex:its[i]? with
   |none=>rw[ex]at hx;cases hx
   |some v=>
    rw[ex]at hx
    cases hx
    have fv:=f2 v (iZ ex)
    have hsv:(bD ts w n)[i]? =some v.2.2.2:=by rw[<-f3,cg,ex];rfl
    obtain⟨hi,esv⟩:=lC.mp hsv
    have e:=Xd (p:=lR ts w n) hi
    rw[esv]at e
    refine⟨v.1,_,rfl,sm.tup fv.pr,rfl,_,_,rfl,_,_,rfl,rfl,?_⟩
    refine⟨_,rfl,_,.inl ⟨_,SqL.of (sm _ _ fv.le),rfl⟩,?_⟩
    have eb:(!!((jz ts w n v.2.2.2).map V.int).isEmpty)=lR ts w n v.2.2.2:=by
     rw[Bool.not_not,<-Hj]
     cases jz ts w n v.2.2.2<;>rfl
    dsimp only
    rw[eb]
    refine ite2 (fun c=> ?_) (fun c=> ?_)
    ·refine⟨_,rfl,⟨its2++[(v.2.1,v.2.2.2)],by rw[bQ];rfl,fun q hq=> ?_,by rw[bQ,g3,e,ao c];rfl⟩,sm,_,_,rfl⟩
     rcases iW.mp hq with z|z
     ·exact g2 q z
     ·rw[fZ.mp z];exact fv.so
    ·exact⟨⟨its2,rfl,g2,by rw[g3,e,ak c,uF]⟩,sm,_,_,rfl⟩
  ·intro p1 hp1
   obtain⟨⟨its2,rfl,g2,g3⟩,sm,_⟩:=p
   have hle:(its.map fun q=>V.ref q.1).length=(bD ts w n).length:=by rw[aF,<-f3,aF]
   rw[hle,qe]at g3
   have g4:its2.map (fun q=>q.2)=iR ts w n:=g3
   have hl2:its2.length=(iR ts w n).length:=by rw[<-g4,aF]
   have h36:=uY (ts:=ts) (w:=w) h10
   have s6:=aV hp1 (.lst (its2.map fun q=>V.ref q.1))
   refine⟨p1,its2,rfl,SqL.of aH,fun p hp=>⟨(sm.trans s6).tup (g2 p hp),fun h2=> ?_⟩,by omega,fun l its' hl hpm hpw=> ?_⟩
   ·exact QZ (ts:=ts) (w:=w) (n:=n) (by omega) p.2 (by rw[<-g4];exact iV.mpr ⟨p,hp,rfl⟩)
   ·have s7:=aV hl (.lst (its'.map fun q=>V.ref q.1))
    have Uk:=s5.trans (sm.trans (s6.trans s7))
    refine q l (its'.map fun q=>q.2) _ Uk ⟨its',aH,fun p hp=>(sm.trans (s6.trans s7)).tup (g2 p (hpm.mem_iff.mp hp)),rfl⟩ ⟨?_,?_⟩ ((s5.trans (sm.trans s6)).free hl)
    ·rw[<-g4];exact hpm.map _
    ·rw[Oh];exact hpw
def fB(K:W.Frag):Sp:=fun vs H Q _=>∃(a:Addr) (n:Int) (ts:List (Int×Int)),vs=[.ref a]/\bA K H a n ts/\∀r ss H',Same H H'->bO K H' r ss->fu ss ts false n.toNat->H r=none->Q (.ref r) H'
theorem vP:FnScope ["web"] ["web"] (defScope S9):=fsc
theorem v7{f f1 f2 f3:Addr}{fd d1 d2 d3:FuncData}(F:Fun K "full_apart" "full_apart" S9 f fd)(D1:bJ K mg "need_web" IV ["thing"] f1 d1)(G1:FnOk P w K mg base CX0 7 f1 d1 ["thing"] (cR K))(D2:bJ K mg "full_sets" gY ["friends"] f2 d2)(G2:FnOk P w K mg base CX0 2 f2 d2 ["friends"] (rR K))(D3:bJ K mg "places_by_tie" zcv ["web","place","tied"] f3 d3)(G3:FnOk P w K mg base CX0 2 f3 d3 ["web","place","tied"] (DP K))(aG:mg "range"=none):
  FnOk P w K mg base CX0 8 f fd ["web"] (fB K):=by
 refine F.ok vP (fun vs H Q E h=> ?_) (fun cdv A outer s H vs Q E hr h=> ?_)
 ·obtain⟨a,n,ts,rfl,_⟩:=h
  rfl
 obtain⟨a,n,ts,rfl,hA,q⟩:=h
 refine⟨_,(aO (xP (pc G1 hr D1 (aj (pv 0) au))) (aX (cF (pc G2 hr D2 (aj (oH (own:=["place"]) (caps:=["web"]) (ix:=[0]) rfl (Ia rfl aG (aj (bB gQ (pv 0) aK (fun _ _=>rfl)) au)) rfl rfl (.cons rfl rfl .nil) (fun _ _ _ _ _=>(cY (i:=0) (show(["place","web"]:List Str).Nodup from by decide+kernel) rfl (Or.inl rfl))) (fun _ _ _ _ _=>qb) (fun _ _ _ _ _=>(pc G3 hr D3 (aj (pv 1) (aj (pv 0) (aj pe_bl au)))))) au))))),?_⟩
 have h0:=hA.h0
 have h10:=hA.h1
 refine⟨_,rfl,_,_,rfl,hA.web.dv.dx,hA.ok,fun H1 s1=> ?_⟩
 have hA1:=hA.same s1
 obtain⟨ta,ra,a1,a2,a3⟩:=id hA1.web
 refine⟨_,rfl,a,_,_,.int n,rfl,rfl,a1,rfl,n,rfl,by omega,by omega,?_⟩
 refine Ob (n:=n.toNat) (fun k acc σ H'=>(∃fas:List Addr,acc=fas.map V.ref/\fas.length=k/\∀(i:Nat) f,fas[i]? =some f->H' f=some (.lst ((nZ ts false n.toNat (i:Int)).map V.int)))/\Same H1 H'/\∃o,σ=[o,some (.ref a)]) ⟨⟨[],rfl,rfl,fun i f h=>by simp at h⟩,Same.refl _,_,rfl⟩ (fun k acc σ H' hk p=> ?_) (by rw[gB];omega) (fun k acc σ H' hk p=> ?_) (fun acc σ H' p=> ?_)
 ·obtain⟨⟨fas,rfl,hl,_⟩,_⟩:=p
  rw[aF];omega
 ·obtain⟨⟨fas,rfl,hl,hf⟩,sm,o,rfl⟩:=p
  have ek:(0+(k:Int))=(k:Int):=by omega
  rw[ek]
  refine⟨_,rfl,_,rfl,a,n,_,ts,false,rfl,hA1.same sm,fun r H5 s5 h5 n5=>⟨⟨fas++[r],by rw[bQ];rfl,by rw[qC,hl];rfl,fun i f hi=> ?_⟩,sm.trans s5,_,rfl⟩⟩
  by_cases c:i<fas.length
  ·rw[Xp c]at hi
   exact s5 _ _ (hf i f hi)
  ·have hb:i<(fas++[r]).length:=(lC.mp hi).1
   rw[qC]at hb
   have e:i=fas.length:=by have:[r].length=1:=rfl;omega
   rw[e,Tq (aJ _),Nat.sub_self]at hi
   cases hi
   rw[e,hl];exact h5
 ·intro p1 hp1
  obtain⟨⟨fas,rfl,hl,hf⟩,sm,_⟩:=p
  have s6:=aV hp1 (.lst (fas.map V.ref))
  exact⟨p1,fas,ts,false,n.toNat,rfl,aH,hl,by omega,fun i f hi=>s6 _ _ (hf i f hi),fun r ss H7 s7 h7 h8 n7=>q r ss H7 (s1.trans (sm.trans (s6.trans s7))) h7 h8 ((s1.trans (sm.trans s6)).free n7)⟩
def fY(ts:List (Int×Int))(w:Bool):Nat->List Int
 |0=>[]
 |k+1=>if goB ts w (fY ts w k) (k:Int)=true then fY ts w k++[(k:Int)]else fY ts w k
theorem uW{ts:List (Int×Int)}{w:Bool}:∀k:Nat,fY ts w k∈bD ts w k
 |0=>by show([]:List Int)∈[[]];simp
 |k+1=>by
  have ih:=uW (ts:=ts) (w:=w) k
  show fY ts w (k+1)∈bD ts w k++((bD ts w k).filter fun s=>goB ts w s (k:Int)).map fun s=>s++[(k:Int)]
  unfold fY
  by_cases c:goB ts w (fY ts w k) (k:Int)=true
  ·rw[ao c]
   exact jc _ (iV.mpr ⟨_,fV.mpr ⟨ih,c⟩,rfl⟩)
  ·rw[ak c]
   exact Jc _ ih
theorem mD{ts:List (Int×Int)}{w:Bool}{x:Int}{k:Nat}(h:x∈fY ts w k):∀m:Nat,x∈fY ts w (k+m)
 |0=>h
 |m+1=>by
  have ih:=mD h m
  show x∈fY ts w (k+m+1)
  unfold fY
  split
  ·exact Jc _ ih
  ·exact ih
theorem Mt(ts:List (Int×Int))(w:Bool)(n:Nat):iR ts w n≠[]:=by
 have h:fY ts w n∈iR ts w n:=by
  refine fV.mpr ⟨uW n,?_⟩
  unfold lR
  rw[RB,NP]
  intro p hp hc
  rw[vD]at hc
  have hn:p∉fY ts w n:=by simpa using hc.1
  obtain⟨p0,p1⟩:=xO.mp hp
  have ep:((p.toNat:Nat):Int)=p:=by omega
  have hk:¬goB ts w (fY ts w p.toNat) p=true:=fun c=>by
   apply hn
   have h1:p∈fY ts w (p.toNat+1):=by
    unfold fY
    rw[ep,ao c]
    simp
   have h2:=mD h1 (n-(p.toNat+1))
   rw[show p.toNat+1+(n-(p.toNat+1))=n by omega]at h2
   exact h2
  apply hk
  unfold goB
  rw[oM]
  intro q hq
  have h2:=mD hq (n-p.toNat)
  rw[show p.toNat+(n-p.toNat)=n by omega]at h2
  exact oM.mp hc.2 q h2
 intro e
 rw[e]at h
 cases h
def yw(K:W.Frag):Sp:=fun vs H Q _=>∃(l:Addr) (its:List (Addr×List Int)),vs=[.ref l]/\SqL K H l (its.map fun p=>V.ref p.1)/\(∀p∈its,SqT K H p.1 (p.2.map V.int))/\its≠[]/\
 ∀(i:Nat) (p:Addr×List Int),its[i]? =some p->(∀(j:Nat) r,its[j]? =some r->r.2.length<=p.2.length/\(j<i->r.2.length<p.2.length))->Q (.ref p.1) H
theorem Gj:FnScope ["sets"] ["sets"] (defScope zco):=fsc
theorem GX{f:Addr}{fd:FuncData}(F:Fun K "first_greatest" "first_greatest" zco f fd)(Yy:mg "max"=none)(bw:mg "len"=none):
  FnOk P w K mg base CX0 1 f fd ["sets"] (yw K):=by
 refine F.ok Gj (fun vs H Q E h=> ?_) (fun cdv A outer s H vs Q E hr h=> ?_)
 ·obtain⟨l,its,rfl,_⟩:=h
  rfl
 obtain⟨l,its,rfl,hL,hT,hne,q⟩:=h
 refine⟨_,(aX (cF (Gw rfl rfl Yy rfl bw (aj (pv 0) au)))),?_⟩
 exact⟨_,rfl,l,its,rfl,hL,hT,hne,q⟩
def CP(s:List Int)(ts:List (Int×Int))(w:Bool)(n:Nat):Prop:=∃ss,fu ss ts w n/\∃i:Nat,ss[i]? =some s/\∀(j:Nat) t,ss[j]? =some t->t.length<=s.length/\(j<i->t.length<s.length)
theorem Gd{ss:List (List Int)}{ts:List (Int×Int)}{w:Bool}{n:Nat}(h:fu ss ts w n):ss≠[]:=fun e=>by
 have:=h.1.length_eq
 rw[e]at this
 exact Mt ts w n (yea.mp this.symm)
def yu(K:W.Frag):Sp:=fun vs H Q _=>∃(a:Addr) (n:Int) (ts:List (Int×Int)),vs=[.ref a]/\bA K H a n ts/\∀(r:Addr) (s:List Int) H',Same H H'->SqT K H' r (s.map V.int)->CP s ts false n.toNat->Q (.ref r) H'
theorem Gi:FnScope ["web"] ["web"] (defScope zcn):=fsc
theorem GQ{f f1 f2:Addr}{fd d1 d2:FuncData}(F:Fun K "greatest_apart" "greatest_apart" zcn f fd)(D1:bJ K mg "first_greatest" zco ["sets"] f1 d1)(G1:FnOk P w K mg base CX0 1 f1 d1 ["sets"] (yw K))(D2:bJ K mg "full_apart" S9 ["web"] f2 d2)(G2:FnOk P w K mg base CX0 8 f2 d2 ["web"] (fB K)):
  FnOk P w K mg base CX0 9 f fd ["web"] (yu K):=by
 refine F.ok Gi (fun vs H Q E h=> ?_) (fun cdv A outer s H vs Q E hr h=> ?_)
 ·obtain⟨a,n,ts,rfl,_⟩:=h
  rfl
 obtain⟨a,n,ts,rfl,hA,q⟩:=h
 refine⟨_,(aX (cF (pc G1 hr D1 (aj (pc G2 hr D2 (aj (pv 0) au)) au)))),?_⟩
 refine⟨_,rfl,a,n,ts,rfl,hA,fun r ss H1 s1 h1 h2 n1=> ?_⟩
 obtain⟨its,g1,g2,g3⟩:=h1
 refine⟨r,its,rfl,SqL.of g1,g2,fun e=>Gd h2 (by rw[<-g3,e];rfl),fun i p hi hb=>q p.1 p.2 H1 s1 (g2 p (iZ hi)) ⟨ss,h2,i,by rw[<-g3,cg,hi];rfl,fun j t ht=> ?_⟩⟩
 rw[<-g3,cg]at ht
 cases ej:its[j]? with
 |none=>rw[ej]at ht;cases ht
 |some r'=>
  rw[ej]at ht
  cases ht
  exact hb j r' ej
end
def oN(n:Nat):List Int:=(List.range n).map fun(t:Nat)=>(t:Int)
theorem qZ{n:Nat}{x:Int}:x∈oN n↔0<=x/\x<(n:Int):=by
 unfold oN
 rw[iV]
 constructor
 ·rintro⟨t,ht,rfl⟩
  have:=tZ.mp ht
  omega
 ·intro h
  exact⟨x.toNat,tZ.mpr (by omega),by omega⟩
theorem Py(n:Nat):(oN n).length=n:=by unfold oN;rw[aF,tW]
theorem KH(n:Nat):oN (n+1)=oN n++[(n:Int)]:=by unfold oN;rw[vq,bQ];rfl
def cU:Nat->List (List Int)
 |0=>[[]]
 |k+1=>cU k++(cU k).map fun s=>s++[(k:Int)]
theorem j4:∀k,(cU k).length=2^k
 |0=>rfl
 |k+1=>by
  show(cU k++(cU k).map fun s=>s++[(k:Int)]).length=_
  rw[qC,aF,j4 k,wgg];omega
theorem oh:∀k,∀s∈cU k,s.length<=k
 |0,s,h=>by rw[fZ.mp h];exact aJ _
 |k+1,s,h=>by
  rcases iW.mp h with z|z
  ·exact Nat.le_succ_of_le (oh k s z)
  ·obtain⟨t,ht,rfl⟩:=iV.mp z
   have:=oh k t ht
   rw[qC]
   show t.length+1<=k+1
   omega
theorem yP{a:Int}:∀{l:List Int},l.Sublist [a]->l=[]\/l=[a]
 |[],_=> .inl rfl
 |_::_,h=>by
  cases h with
  |cons _ h=>cases h
  |cons_cons _ h=>cases h;exact .inr rfl
theorem fJ:∀(n:Nat) (ys:List Int),ys∈cU n↔ys.Sublist (oN n)
 |0,ys=>by
  show ys∈[[]]↔ys.Sublist []
  rw[fZ,Oe]
 |n+1,ys=>by
  show ys∈cU n++(cU n).map (fun s=>s++[(n:Int)])↔_
  rw[KH,iW,iV,List.sublist_append_iff,fJ n ys]
  constructor
  ·rintro(h|⟨s,hs,rfl⟩)
   ·exact⟨ys,[],(uF _).symm,h,wfr _⟩
   ·exact⟨s,[(n:Int)],rfl,(fJ n s).mp hs,TQ _⟩
  ·rintro⟨l1,l2,rfl,h1,h2⟩
   rcases yP h2 with rfl|rfl
   ·rw[uF];exact .inl h1
   ·exact .inr ⟨l1,(fJ n l1).mpr h1,rfl⟩
theorem mK:∀n,(cU n).Nodup
 |0=>by show List.Nodup [[]];simp
 |n+1=>by
  show(cU n++(cU n).map (fun s=>s++[(n:Int)])).Nodup
  refine List.nodup_append.mpr ⟨mK n,?_,fun a ha b hb e=> ?_⟩
  ·unfold List.Nodup
   rw[Oh]
   exact(mK n).imp fun{x y} h z=>h (wez z)
  ·subst e
   obtain⟨s,_,rfl⟩:=iV.mp hb
   have:=qZ.mp (((fJ n _).mp ha).subset (jc _ (wcr _)))
   omega
theorem pK:∀(n i:Nat) (xs ys:List Int),(cU n)[i]? =some xs->ys.Sublist xs->ys≠xs->ys∈(cU n).take i
 |0,i,xs,ys,h,hs,hn=>by
  have h':([[]]:List (List Int))[i]? =some xs:=h
  cases i with
  |zero=>
   simp at h'
   subst h'
   exact absurd (Oe.mp hs) hn
  |succ i=>simp at h'
 |n+1,i,xs,ys,h,hs,hn=>by
  show ys∈(cU n++(cU n).map (fun s=>s++[(n:Int)])).take i
  have h':(cU n++(cU n).map (fun s=>s++[(n:Int)]))[i]? =some xs:=h
  by_cases hi:i<(cU n).length
  ·rw[Xp hi]at h'
   rw[List.take_append_of_le_length (dH hi)]
   exact pK n i xs ys h' hs hn
  ·have hi:=Nat.not_lt.mp hi
   rw[Tq hi,cg]at h'
   cases e:(cU n)[i-(cU n).length]? with
   |none=>rw[e]at h';cases h'
   |some zs=>
    rw[e]at h'
    cases h'
    rw[List.take_append,iW,yeg hi]
    obtain⟨l1,l2,rfl,h1,h2⟩:=List.sublist_append_iff.mp hs
    have mz:zs.Sublist (oN n):=(fJ n zs).mp (iZ e)
    rcases yP h2 with rfl|rfl
    ·rw[uF];exact .inl ((fJ n _).mpr (h1.trans mz))
    ·refine .inr ?_
     rw[<-List.map_take]
     exact iV.mpr ⟨l1,pK n _ zs l1 e h1 (fun z=>hn (by rw[z])),rfl⟩
def wo(xs p:List Int):List Int:=xs.filter fun o=> !decide (o∈p)
theorem lV(xs p:List Int):(wo xs p).Sublist xs:=Jb
theorem sU{xs p:List Int}{x:Int}:x∈wo xs p↔x∈xs/\x∉p:=by
 unfold wo
 rw[fV]
 simp
theorem Jg{x:Int}{r p:List Int}(h:x∈p):wo (x::r) p≠x::r:=fun e=>by
 have:x∈wo (x::r) p:=by rw[e];exact cX
 exact(sU.mp this).2 h
theorem Xr{x:Int}{r p:List Int}(h:x∈p):(wo (x::r) p).length<(x::r).length:=
 NQ (lV _ _).length_le fun e=>Jg h ((lV _ _).eq_of_length e)
abbrev Ng:=List Int->Int->Bool
def iH(st:Ng)(found:List (List Int))(x:Int):List (List Int):=found++(found.filter fun p=>st p x).map fun p=>p++[x]
def jF(st:Ng)(xs:List Int)(k:Nat):List (List Int):=((xs.drop 1).take k).foldl (iH st) [xs.take 1]
def W3(st:Ng)(xs:List Int):List (List Int):=(xs.drop 1).foldl (iH st) [xs.take 1]
theorem zG(st:Ng)(xs:List Int):jF st xs (xs.drop 1).length=W3 st xs:=by unfold jF W3;rw[qe]
theorem pD{st:Ng}{xs:List Int}{k:Nat}{y:Int}(h:(xs.drop 1)[k]? =some y):jF st xs (k+1)=iH st (jF st xs k) y:=by
 unfold jF
 rw[rE (l:=xs.drop 1),h,Xi];rfl
theorem zF(st:Ng)(xs:List Int):∀k,(jF st xs k).length<=2^k
 |0=>by show([xs.take 1]:List (List Int)).length<=1;simp
 |k+1=>by
  have ih:=zF st xs k
  cases e:(xs.drop 1)[k]? with
  |none=>
   have:jF st xs (k+1)=jF st xs k:=by unfold jF;rw[rE (l:=xs.drop 1),e];simp
   rw[this]
   exact bZ ih (Wu (by decide) (Af k))
  |some y=>
   rw[pD e]
   unfold iH
   rw[qC,aF]
   have:=xR (fun p=>st p y) (jF st xs k)
   rw[wgg];omega
theorem iT{st:Ng}{x:Int}{r:List Int}:∀(k:Nat),∀p∈jF st (x::r) k,p.Sublist (x::r.take k)/\x∈p
 |0,p,h=>by
  have h':p∈[[x]]:=h
  rw[fZ.mp h']
  exact⟨by simp,wcr _⟩
 |k+1,p,h=>by
  cases e:r[k]? with
  |none=>
   have e1:jF st (x::r) (k+1)=jF st (x::r) k:=by unfold jF;show((r.take (k+1)).foldl _ _)=((r.take k).foldl _ _);rw[rE (l:=r),e];simp
   rw[e1]at h
   obtain⟨h1,h2⟩:=iT k p h
   exact⟨h1.trans (by rw[rE,e];simp),h2⟩
  |some y=>
   rw[pD (xs:=x::r) (show((x::r).drop 1)[k]? =some y from e)]at h
   have et:x::r.take (k+1)=(x::r.take k)++[y]:=by rw[rE,e];rfl
   rw[et]
   rcases iW.mp h with z|z
   ·obtain⟨h1,h2⟩:=iT k p z
    exact⟨h1.trans (wck _ _),h2⟩
   ·obtain⟨q,hq,rfl⟩:=iV.mp z
    obtain⟨h1,h2⟩:=iT k q (fV.mp hq).1
    exact⟨h1.append (TQ _),Jc _ h2⟩
theorem jZ{st:Ng}{x:Int}{r:List Int}{p:List Int}(h:p∈W3 st (x::r)):p.Sublist (x::r)/\x∈p:=by
 rw[<-zG]at h
 have:=iT _ p h
 have e:r.take ((x::r).drop 1).length=r:=qe
 rw[e]at this
 exact this
theorem Cg(st:Ng)(xs:List Int):W3 st xs≠[]:=by
 have key:∀(l:List Int) (f:List (List Int)),f≠[]->l.foldl (iH st) f≠[]:=fun l=>by
  induction l with
  |nil=>intro f h;exact h
  |cons a l ih=>intro f h;exact ih _ (by unfold iH;intro z;exact h (List.append_eq_nil_iff.mp z).1)
 exact key _ _ (by simp)
def cH(ts:List (Int×Int)):Ng:=fun part x=> !(part.any fun o=>bh ts o x)
abbrev fparts(ts:List (Int×Int)):List Int->List (List Int):=W3 (cH ts)
theorem wN{ts:List (Int×Int)}{xs p:List Int}(h:p∈fparts ts xs):p.Pairwise fun a b=>bh ts a b=false:=by
 have key:∀(l:List Int) (f:List (List Int)),(∀p∈f,p.Pairwise fun a b=>bh ts a b=false)->∀p∈l.foldl (iH (cH ts)) f,p.Pairwise fun a b=>bh ts a b=false:=fun l=>by
  induction l with
  |nil=>intro f h;exact h
  |cons a l ih=>
   intro f h
   refine ih _ fun p hp=> ?_
   rcases iW.mp hp with z|z
   ·exact h p z
   ·obtain⟨q,hq,rfl⟩:=iV.mp z
    obtain⟨h1,h2⟩:=fV.mp hq
    rw[Oi]
    refine⟨h q h1,Tp _ _,fun o ho y hy=> ?_⟩
    rw[fZ.mp hy]
    unfold cH at h2
    rw[RB,NP]at h2
    have:=h2 o ho
    simpa using this
 refine key _ _ (fun p hp=> ?_) p h
 rw[fZ.mp hp]
 cases xs with
 |nil=>exact List.Pairwise.nil
 |cons x r=>exact Tp _ _
def Lf:List Int->Int
 |[]=>0
 |[a]=>a
 |a::b::l=>if a<=Lf (b::l)then a else Lf (b::l)
theorem BJ:∀{ns:List Int},ns≠[]->Lf ns∈ns/\∀n∈ns,Lf ns<=n
 |[],h=>absurd rfl h
 |[a],_=>⟨wcr _,fun n hn=>by rw[fZ.mp hn];exact uE _⟩
 |a::b::l,_=>by
  obtain⟨h1,h2⟩:=BJ (ns:=b::l) (by simp)
  show(if a<=Lf (b::l)then a else Lf (b::l))∈_/\∀n∈_,(if a<=Lf (b::l)then a else Lf (b::l))<=n
  by_cases c:a<=Lf (b::l)
  ·rw[ao c]
   refine⟨cX,fun n hn=> ?_⟩
   rcases cW.mp hn with z|z
   ·rw[z];exact uE _
   ·exact wgy c (h2 n z)
  ·rw[ak c]
   refine⟨eE _ h1,fun n hn=> ?_⟩
   rcases cW.mp hn with z|z
   ·rw[z];omega
   ·exact h2 n z
theorem mnL_eq{ns:List Int}{m:Int}(h1:m∈ns)(h2:∀n∈ns,m<=n):m=Lf ns:=by
 have hn:ns≠[]:=fun e=>by rw[e]at h1;cases h1
 obtain⟨a,b⟩:=BJ hn
 exact Int.le_antisymm (h2 _ a) (b _ h1)
def Im(g:List Int->Int)(ts:List (Int×Int))(xs:List Int):Int:=if xs=[]then 0 else 1+Lf ((fparts ts xs).map fun p=>g (wo xs p))
theorem uV{g g':List Int->Int}{ts:List (Int×Int)}{xs:List Int}(h:∀ys:List Int,ys.Sublist xs->ys≠xs->g ys=g' ys):Im g ts xs=Im g' ts xs:=by
 unfold Im
 cases xs with
 |nil=>rfl
 |cons x r=>
  rw[ak (by simp),ak (by simp)]
  congr 2
  exact Rt fun p hp=>h _ (lV _ _) (Jg (jZ hp).2)
def Ci(ts:List (Int×Int)):Nat->List Int->Int
 |0,_=>0
 |k+1,xs=>Im (Ci ts k) ts xs
theorem tK(ts:List (Int×Int)):∀(k j:Nat) (xs:List Int),xs.length<=k->xs.length<=j->Ci ts k xs=Ci ts j xs
 |0,j,xs,h,_=>by
  have e:xs=[]:=yea.mp (Ig.mp h)
  subst e
  cases j with
  |zero=>rfl
  |succ j=>rfl
 |k+1,0,xs,_,h=>by
  have e:xs=[]:=yea.mp (Ig.mp h)
  subst e
  rfl
 |k+1,j+1,xs,h1,h2=>by
  show Im (Ci ts k) ts xs=Im (Ci ts j) ts xs
  refine uV fun ys hs hn=> ?_
  have:ys.length<xs.length:=NQ hs.length_le fun e=>hn (hs.eq_of_length e)
  exact tK ts k j ys (by omega) (by omega)
def lH(ts:List (Int×Int))(xs:List Int):Int:=Ci ts xs.length xs
theorem flo_eq(ts:List (Int×Int))(xs:List Int):lH ts xs=Im (lH ts) ts xs:=by
 unfold lH
 rw[tK ts xs.length (xs.length+1) xs (aJ _) (Af _)]
 refine uV (g:=Ci ts xs.length) fun ys hs hn=> ?_
 exact tK ts _ _ ys hs.length_le (aJ _)
theorem Fg(ts:List (Int×Int)):lH ts []=0:=rfl
theorem V4{ts:List (Int×Int)}{xs p:List Int}(hx:xs≠[])(hp:p∈fparts ts xs):lH ts xs<=1+lH ts (wo xs p):=by
 rw[flo_eq,Im,ak hx]
 have:=(BJ (ns:=(fparts ts xs).map fun p=>lH ts (wo xs p)) (fun z=>Cg _ _ (List.map_eq_nil_iff.mp z))).2 _ (iV.mpr ⟨p,hp,rfl⟩)
 omega
theorem Mv{ts:List (Int×Int)}{xs p:List Int}(hx:xs≠[])(hp:p∈fparts ts xs)(hb:∀q∈fparts ts xs,lH ts (wo xs p)<=lH ts (wo xs q)):lH ts xs=1+lH ts (wo xs p):=by
 rw[flo_eq,Im,ak hx]
 rw[<-mnL_eq (m:=lH ts (wo xs p)) (iV.mpr ⟨p,hp,rfl⟩) fun n hn=> ?_]
 obtain⟨q,hq,rfl⟩:=iV.mp hn
 exact hb q hq
def qF(f:List Int->Int)(l:List (List Int)):List (List Key×V):=l.map fun s=>(s.map Sum.inl,V.int (f s))
theorem zc:∀{a b:List Int},(a.map (Sum.inl (β:=Str))=b.map Sum.inl)->a=b
 |[],[],_=>rfl
 |[],_::_,h=>by cases h
 |_::_,[],h=>by cases h
 |a::l,b::m,h=>by
  rw[qM,qM]at h
  injection h with h1 h2
  injection h1 with h1
  rw[h1,zc h2]
theorem jK(f:List Int->Int)(k:List Int):∀l:List (List Int),valV (qF f l) (k.map Sum.inl)=if k∈l then some (.int (f k))else none
 |[]=>rfl
 |s::l=>by
  show valV ((s.map Sum.inl,V.int (f s))::qF f l) (k.map Sum.inl)=_
  by_cases e:s=k
  ·subst e
   rw[HX rfl,ao cX]
  ·rw[HW (fun z=>e (zc z)),jK f k l]
   by_cases c:k∈l
   ·rw[ao c,ao (eE _ c)]
   ·rw[ak c,ak fun z=>(cW.mp z).elim (fun y=>e y.symm) c]
theorem J9{f:List Int->Int}{l:List (List Int)}{s:List Int}(h:s∉l):putK (qF f l) (s.map Sum.inl) (.int (f s))=qF f (l++[s]):=by
 rw[putK_new _ (by rw[jK,ak h])]
 unfold qF
 rw[bQ];rfl
theorem Ka(f:List Int->Int)(l:List (List Int)):(qF f l).length=l.length:=aF _
def vL(hs:List Int)(p:List Int)(h:Int):List Int:=p.foldl (fun l q=>l.set q.toNat h) hs
theorem rY(h:Int):∀(p hs:List Int),(vL hs p h).length=hs.length
 |[],_=>rfl
 |q::p,hs=>by
  show(vL (hs.set q.toNat h) p h).length=_
  rw[rY h p,wdt]
theorem LR{hs:List Int}{a b:Nat}{h:Int}(hb:b<hs.length):(hs.set a h).getD b 0=if a=b then h else hs.getD b 0:=by
 rw[jC,wdc]
 by_cases e:a=b
 ·subst e
  rw[ao rfl,ao hb,ao rfl];rfl
 ·rw[ak e,ak e,jC]
theorem uX(h:Int){b:Nat}:∀(p hs:List Int),b<hs.length->(∀q∈p,0<=q)->(vL hs p h).getD b 0=if(b:Int)∈p then h else hs.getD b 0
 |[],hs,_,_=>by rw[ak (by simp)];rfl
 |q::p,hs,hb,hp=>by
  show(vL (hs.set q.toNat h) p h).getD b 0=_
  rw[uX h p _ (by rw[wdt];exact hb) fun z hz=>hp z (eE _ hz),LR hb]
  have hq:=hp q cX
  by_cases c:(b:Int)∈p
  ·rw[ao c,ao (eE _ c)]
  ·rw[ak c]
   by_cases e:q.toNat=b
   ·rw[ao e,ao (by rw[show(b:Int)=q by omega];exact cX)]
   ·rw[ak e,ak fun z=>(cW.mp z).elim (fun y=>e (by omega)) c]
structure uy(ts:List (Int×Int))(n:Nat)(k:Int)(xs:List Int)(h:Int)(hs:List Int):Prop where
 len:hs.length=n
 sub:xs.Sublist (oN n)
 h0:0<=h
 sum:h+lH ts xs=k
 out:∀p:Nat,p<n->(p:Int)∉xs->0<=hs.getD p 0/\hs.getD p 0<h
 all:∀c,0<=c->c<h->∃p:Nat,p<n/\(p:Int)∉xs/\hs.getD p 0=c
 ok:∀a b:Nat,a<n->b<n->(a:Int)∉xs->(b:Int)∉xs->bh ts (a:Int) (b:Int)=true->hs.getD a 0≠hs.getD b 0
theorem uy.start(ts:List (Int×Int))(n:Nat):uy ts n (lH ts (oN n)) (oN n) 0 (List.replicate n 0):=by
 have no:∀p:Nat,p<n->(p:Int)∉oN n->False:=fun p hp h=>h (qZ.mpr ⟨by omega,by omega⟩)
 exact⟨Tn,TQ _,uE _,by omega,fun p hp h=>(no p hp h).elim,fun c h1 h2=>by omega,fun a b ha hb h=>(no a ha h).elim⟩
theorem Jt(ts:List (Int×Int))(a b:Int):bh ts a b=bh ts b a:=by
 unfold bh
 rcases wdb a b with c|c|c
 ·rw[ak (show¬b<a by omega),ao (show b>a by omega),ao (show a<b by omega),ak (show¬a>b by omega)]
 ·rw[c]
 ·rw[ao (show b<a by omega),ak (show¬b>a by omega),ak (show¬a<b by omega),ao (show a>b by omega)]
theorem vX{ts:List (Int×Int)}{n:Int}(hp:bW n ts):∀{p:List Int},(p.Pairwise fun a b=>bh ts a b=false)->∀a∈p,∀b∈p,bh ts a b=false
 |_,h,a,ha,b,hb=>by
  by_cases e:a=b
  ·subst e
   rw[tied_eq hp]
   unfold aY
   have:(a,a)∉ts:=fun z=>by have:=(hp.lt _ z).2.1;dsimp only at this;omega
   simp[this]
  ·obtain⟨i,hi,rfl⟩:=uG ha
   obtain⟨j,hj,rfl⟩:=uG hb
   have hij:i≠j:=fun z=>e (by subst z;rfl)
   rcases Nat.lt_or_gt_of_ne hij with c|c
   ·exact Ij.mp h i j hi hj c
   ·rw[Jt];exact Ij.mp h j i hj hi c
theorem uy.step{ts:List (Int×Int)}{n:Nat}{k h:Int}{xs hs p:List Int}(I:uy ts n k xs h hs)(hok:bW (n:Int) ts)(hx:xs≠[])(hp:p∈fparts ts xs)(hb:∀q∈fparts ts xs,lH ts (wo xs p)<=lH ts (wo xs q)):uy ts n k (wo xs p) (h+1) (vL hs p h):=by
 obtain⟨x,r,rfl⟩:∃x r,xs=x::r:=by cases xs with |nil=>exact absurd rfl hx|cons x r=>exact⟨x,r,rfl⟩
 obtain⟨ps,px⟩:=jZ hp
 have pr:∀q∈p,0<=q/\q<(n:Int):=fun q hq=>qZ.mp (I.sub.subset (ps.subset hq))
 have p0:∀q∈p,0<=q:=fun q hq=>(pr q hq).1
 have ap:=vX hok (wN hp)
 have gv:∀b:Nat,b<n->(vL hs p h).getD b 0=if(b:Int)∈p then h else hs.getD b 0:=fun b hb=>uX h p hs (by rw[I.len];exact hb) p0
 have nx:∀b:Nat,(b:Int)∉wo (x::r) p->(b:Int)∉p->(b:Int)∉x::r:=fun b h1 h2 h3=>h1 (sU.mpr ⟨h3,h2⟩)
 refine⟨by rw[rY];exact I.len,(lV _ _).trans I.sub,by have:=I.h0;omega,?_,fun b hb hn=> ?_,fun c h1 h2=> ?_,fun a b ha hb na nb ht=> ?_⟩
 ·have:=Mv hx hp hb
  have:=I.sum
  omega
 ·rw[gv b hb]
  by_cases c:(b:Int)∈p
  ·rw[ao c];have:=I.h0;omega
  ·rw[ak c]
   have:=I.out b hb (nx b hn c)
   omega
 ·by_cases e:c=h
  ·have:=pr x px
   refine⟨x.toNat,by omega,fun z=> ?_,?_⟩
   ·rw[show((x.toNat:Nat):Int)=x by omega]at z
    exact(sU.mp z).2 px
   ·rw[gv _ (by omega),ao (by rw[show((x.toNat:Nat):Int)=x by omega];exact px),e]
  ·obtain⟨b,b1,b2,b3⟩:=I.all c h1 (by omega)
   refine⟨b,b1,fun z=>b2 (sU.mp z).1,?_⟩
   rw[gv b b1,ak fun z=>b2 (ps.subset z)]
   exact b3
 ·rw[gv a ha,gv b hb]
  by_cases ca:(a:Int)∈p
  ·by_cases cb:(b:Int)∈p
   ·rw[ap _ ca _ cb]at ht;cases ht
   ·rw[ao ca,ak cb]
    have:=I.out b hb (nx b nb cb)
    omega
  ·by_cases cb:(b:Int)∈p
   ·rw[ak ca,ao cb]
    have:=I.out a ha (nx a na ca)
    omega
   ·rw[ak ca,ak cb]
    exact I.ok a b ha hb (nx a na ca) (nx b nb cb) ht
structure CV(ts:List (Int×Int))(n:Nat)(k:Int)(hs:List Int):Prop where
 len:hs.length=n
 k0:0<=k
 rg:∀p:Nat,p<n->0<=hs.getD p 0/\hs.getD p 0<k
 all:∀c,0<=c->c<k->∃p:Nat,p<n/\hs.getD p 0=c
 ok:∀a b:Nat,a<n->b<n->bh ts (a:Int) (b:Int)=true->hs.getD a 0≠hs.getD b 0
theorem uy.done{ts:List (Int×Int)}{n:Nat}{k h:Int}{hs:List Int}(I:uy ts n k [] h hs):CV ts n k hs:=by
 have e:h=k:=by have:=I.sum;rw[Fg]at this;omega
 subst e
 exact⟨I.len,I.h0,fun p hp=>I.out p hp (by simp),fun c h1 h2=>by obtain⟨p,h3,_,h4⟩:=I.all c h1 h2;exact⟨p,h3,h4⟩,fun a b ha hb ht=>I.ok a b ha hb (by simp) (by simp) ht⟩
section
variable{P:Program}{w:World}{K:W.Frag}{mg:Str->Option Value}{base:Heap}
theorem Zy{α:Type}(p:α->Bool)(a:α):[a].filter p=if p a=true then[a]else[]:=by
 by_cases c:p a=true
 ·rw[ao c,List.filter_cons_of_pos c];rfl
 ·rw[ak c,List.filter_cons_of_neg c];rfl
theorem yd(n:Nat):cQ n=(oN n).map V.int:=by unfold cQ oN;rw[Tc];rfl
theorem keyV(xs:List Int):(xs.map (Sum.inl (β:=Str))).map kV=xs.map V.int:=by rw[Tc];rfl
abbrev KnS(H:Hp)(its:List (Addr×List Int)):Prop:=∀p∈its,H p.1=some (.tup (p.2.map V.int))
def uN(K:W.Frag):Sp:=fun vs H Q _=>∃n:Int,vs=[.int n]/\0<=n/\n<=10/\∀(r:Addr) (its:List (Addr×List Int)) H',Same H H'->H' r=some (.lst (its.map fun p=>V.ref p.1))->KnS H' its->its.map (·.2)=cU n.toNat->Q (.ref r) H'
theorem jf:FnScope ["n","found","place"] ["n"] (defScope jm):=fsc
theorem Bv{f:Addr}{fd:FuncData}(F:Fun K "all_sets" "all_sets" jm f fd)(aG:mg "range"=none):
  FnOk P w K mg base CX0 1 f fd ["n"] (uN K):=by
 refine F.ok jf (fun vs H Q E h=> ?_) (fun cdv A outer s H vs Q E hr h=> ?_)
 ·obtain⟨n,rfl,_⟩:=h
  rfl
 obtain⟨n,rfl,h0,h1,q⟩:=h
 refine⟨_,(aO (cV (i:=1) jf.nd rfl (Or.inl rfl) (pe_lst (aj (oG au) au))) (aO (xM tX rfl (Ia rfl aG (aj (pv 0) au)) (cY (i:=2) jf.nd rfl (Or.inr rfl)) (aX (cV (i:=1) jf.nd rfl (Or.inl rfl) (bN op_cat (pv 1) (oH (own:=["some"]) (caps:=["place"]) (ix:=[2]) rfl (xW (pv 1)) rfl rfl (.cons rfl rfl .nil) (fun _ _ _ _ _=>(cY (i:=0) (show(["some","place"]:List Str).Nodup from by decide+kernel) rfl (Or.inl rfl))) (fun _ _ _ _ _=>qb) (fun _ _ _ _ _=>(bN P0 (pv 0) (oG (aj (pv 1) au))))))))) (aX (cF (pv 1))))),?_⟩
 refine⟨(by show 0<=sizeLine;decide),fun p0 hp0=> ?_⟩
 have s0:=aV hp0 (.tup [])
 refine⟨(by show 1<=sizeLine;decide),fun l0 hl0=> ?_⟩
 have s1:=aV hl0 (.lst [.ref p0])
 refine⟨_,rfl,n,rfl,by omega,by omega,?_⟩
 refine for_range (n:=n.toNat) (fun k σ H'=>∃(l:Addr) (its:List (Addr×List Int)) (b2:Option V),σ=[some (.int n),some (.ref l),b2]/\Same H H'/\H' l=some (.lst (its.map fun p=>V.ref p.1))/\KnS H' its/\its.map (·.2)=cU k) ⟨l0,[(p0,[])],_,rfl,s0.trans s1,aH,fun p hp=>by rw[fZ.mp hp];exact s1 _ _ aH,rfl⟩ (fun k σ H1 hk p=> ?_) (fun σ H1 p=> ?_)
 ·obtain⟨l,its,b2,rfl,sm,hl,hT,hm⟩:=p
  have hlen:its.length=2^k:=by rw[<-j4 k,<-hm,aF]
  have aaT:2^k<=512:=Wu (n:=2) (by decide) (show k<=9 by omega)
  refine⟨_,rfl,_,rfl,l,_,rfl,SqL.of hl,fun hz=> ?_⟩
  refine HY (xs:=its.map fun p=>V.ref p.1) (fun i acc σ H2=>∃jts:List (Addr×List Int),acc=jts.map (fun p=>V.ref p.1)/\jts.map (·.2)=((its.take i).map (·.2)).map (fun s=>s++[(k:Int)])/\KnS H2 jts/\Same H1 H2/\∃o,σ=[o,some (.int (0+(k:Int)))]) ⟨[],rfl,rfl,fun p hp=>(nomatch hp),Same.refl _,_,rfl⟩ (fun i acc σ H2 _ p=> ?_) (fun i acc σ H2 hi p=> ?_) hz (fun i x acc σ H2 hx p=> ?_) (fun acc σ H2 p=> ?_)
  ·obtain⟨_,_,_,_,s2,_⟩:=p
   exact s2.seq (SqL.of hl)
  ·obtain⟨jts,rfl,hj,_⟩:=p
   have:=jy List.length hj
   simp only[aF,vA]at this
   rw[aF,this];exact Dj _ _
  ·obtain⟨jts,rfl,hj,hJ,s2,o,rfl⟩:=p
   rw[cg]at hx
   cases ex:its[i]? with
   |none=>rw[ex]at hx;cases hx
   |some v=>
    rw[ex]at hx
    cases hx
    have mv:=iZ ex
    have lv:v.2.length<=10:=by
     have:=oh k v.2 (by rw[<-hm];exact Tj mv)
     omega
    refine⟨_,rfl,_,rfl,(by show 1<=sizeLine;decide),fun p1 hp1=> ?_⟩
    have s3:=aV hp1 (.tup [.int (0+(k:Int))])
    refine⟨v.1,p1,_,_,rfl,rfl,(s2.trans s3) _ _ (hT v mv),aH,(by rw[aF,gB];show _+1<=_;omega),fun r H4 s4 h4=> ?_⟩
    have ek:(0+(k:Int))=(k:Int):=by omega
    have Eh:=s3.trans s4
    refine⟨jts++[(r,v.2++[(k:Int)])],by rw[bQ];rfl,?_,fun p hp=> ?_,s2.trans Eh,_,rfl⟩
    ·rw[bQ,hj,rE,ex,bQ,bQ];rfl
    ·rcases iW.mp hp with z|z
     ·exact Eh _ _ (hJ p z)
     ·rw[fZ.mp z]
      show H4 r=some (.tup ((v.2++[(k:Int)]).map V.int))
      rw[bQ,<-ek]
      exact h4
  ·intro p1 hp1
   obtain⟨jts,rfl,hj,hJ,s2,o,rfl⟩:=p
   rw[aF,qe,hm]at hj
   have hjl:jts.length=2^k:=by
    have:=jy List.length hj
    rw[aF,aF,j4]at this
    exact this
   have s3:=aV hp1 (.lst (jts.map fun p=>V.ref p.1))
   refine⟨l,p1,_,_,rfl,rfl,s3 _ _ (s2 _ _ hl),aH,(by rw[aF,aF,hjl,hlen,gB];omega),fun l2 hl2=> ?_⟩
   have s4:=aV hl2 (.lst (its.map (fun p=>V.ref p.1)++jts.map fun p=>V.ref p.1))
   have Eh:=s3.trans s4
   refine⟨l2,its++jts,_,rfl,sm.trans (s2.trans Eh),by rw[aH,bQ],fun p hp=> ?_,?_⟩
   ·rcases iW.mp hp with z|z
    ·exact(s2.trans Eh) _ _ (hT p z)
    ·exact Eh _ _ (hJ p z)
   ·rw[bQ,hm,hj];rfl
 ·obtain⟨l,its,b2,rfl,sm,hl,hT,hm⟩:=p
  exact⟨_,rfl,q l its H1 sm hl hT hm⟩
def gC(K:W.Frag):Sp:=fun vs H Q _=>∃(a b:Addr) (xs ys:List Int),vs=[.ref a,.ref b]/\SqT K H a (xs.map V.int)/\SqT K H b (ys.map V.int)/\∀r H',Same H H'->H' r=some (.tup ((wo xs ys).map V.int))->Q (.ref r) H'
theorem Bd:FnScope ["some","part"] ["some","part"] (defScope eO):=fsc
theorem Bs{f:Addr}{fd:FuncData}(F:Fun K "without" "without" eO f fd)(aZ:mg "tuple"=none):
  FnOk P w K mg base CX0 1 f fd ["some","part"] (gC K):=by
 refine F.ok Bd (fun vs H Q E h=> ?_) (fun cdv A outer s H vs Q E hr h=> ?_)
 ·obtain⟨a,b,xs,ys,rfl,_⟩:=h
  rfl
 obtain⟨a,b,xs,ys,rfl,hA,hB,q⟩:=h
 refine⟨_,(aX (cF (pe_callTy Wi rfl aZ (by decide+kernel) (aj (oH (own:=["place"]) (caps:=["part"]) (ix:=[1]) rfl (Am (pv 0)) rfl rfl (.cons rfl rfl .nil) (fun _ _ _ _ _=>(cY (i:=0) (show(["place","part"]:List Str).Nodup from by decide+kernel) rfl (Or.inl rfl))) (fun _ _ _ _ _=>fj (kj (sJ K hr.units) (pv 0) (pv 1) (by with_unfolding_all rfl))) (fun _ _ _ _ _=>(pv 0))) au)))),?_⟩
 refine⟨_,rfl,a,_,rfl,hA,fun hz=> ?_⟩
 refine Iz (xs:=xs.map V.int) (fun k acc σ H'=>acc=((xs.take k).filter fun o=> !decide (o∈ys)).map V.int/\Same H H'/\∃o,σ=[o,some (.ref b)]) ⟨rfl,Same.refl _,_,rfl⟩ (fun k acc σ H' _ p=>p.2.1.tup hA) (fun k acc σ H' hk p=> ?_) hz (fun k x acc σ H' hx pp=> ?_) (fun acc σ H' p=> ?_)
 ·rw[p.1,aF]
  exact bZ (xR _ _) (by rw[vA];exact Dj _ _)
 ·obtain⟨rfl,sm,o,rfl⟩:=pp
  rw[cg]at hx
  cases ex:xs[k]? with
  |none=>rw[ex]at hx;cases hx
  |some y=>
   rw[ex]at hx
   cases hx
   obtain⟨hk,ey⟩:=lC.mp ex
   have e:=Xd (p:=fun o=> !decide (o∈ys)) hk
   rw[ey]at e
   refine⟨_,rfl,_,rfl,b,_,_,.int y,rfl,.inr (sm.tup hB),dI.ints ys,.int _,IK ys,rfl,(by show 0<=60;decide),_,rfl,?_⟩
   rw[any_ints]
   refine ite2 (fun c=> ?_) (fun c=> ?_)
   ·exact⟨_,rfl,by rw[e,ao c,bQ];rfl,sm,_,rfl⟩
   ·exact⟨by rw[e,ak c,uF],sm,_,rfl⟩
 ·intro p1 hp1
  obtain⟨rfl,sm,_⟩:=p
  refine⟨p1,_,rfl,.inl ⟨SqL.of aH,fun l hl=> ?_⟩⟩
  exact q l _ (sm.trans ((aV hp1 _).trans (aV hl _))) (by rw[aH,aF,qe];rfl)
def Dw(K:W.Frag):Sp:=fun vs H Q _=>∃(a b:Addr) (n x:Int) (ts:List (Int×Int)) (ps:List Int),vs=[.ref a,.ref b,.int x]/\jG K H a n ts/\SqT K H b (ps.map V.int)/\∀H',Same H H'->Q (.bl (cH ts ps x)) H'
theorem Kl:FnScope ["web","part","place"] ["web","part","place"] (defScope zcp):=fsc
theorem K5{f f1:Addr}{fd d1:FuncData}(F:Fun K "can_stand_with" "can_stand_with" zcp f fd)(D1:bJ K mg "has_tie" gG ["web","one","other"] f1 d1)(G1:FnOk P w K mg base CX0 1 f1 d1 ["web","one","other"] (DG K))(Lh:mg "any"=none):
  FnOk P w K mg base CX0 2 f fd ["web","part","place"] (Dw K):=by
 refine F.ok Kl (fun vs H Q E h=> ?_) (fun cdv A outer s H vs Q E hr h=> ?_)
 ·obtain⟨a,b,n,x,ts,ps,rfl,_⟩:=h
  rfl
 obtain⟨a,b,n,x,ts,ps,rfl,hW,hB,q⟩:=h
 refine⟨_,(aX (cF (pe_not (fM (zT rfl) rfl Lh (by decide+kernel) (aj (oH (own:=["other"]) (caps:=["web","place"]) (ix:=[0,2]) rfl (Am (pv 1)) rfl rfl (.cons rfl rfl (.cons rfl rfl .nil)) (fun _ _ _ _ _=>(cY (i:=0) (show(["other","web","place"]:List Str).Nodup from by decide+kernel) rfl (Or.inl rfl))) (fun _ _ _ _ _=>qb) (fun _ _ _ _ _=>(pc G1 hr D1 (aj (pv 1) (aj (pv 0) (aj (pv 2) au)))))) au))))),?_⟩
 refine⟨_,rfl,b,_,rfl,hB,fun hz=> ?_⟩
 refine Iz (xs:=ps.map V.int) (fun k acc σ H'=>acc=(((ps.take k).map fun o=>bh ts o x)).map V.bl/\Same H H'/\∃o,σ=[o,some (.ref a),some (.int x)]) ⟨rfl,Same.refl _,_,rfl⟩ (fun k acc σ H' _ p=>p.2.1.tup hB) (fun k acc σ H' hk p=> ?_) hz (fun k v acc σ H' hx pp=> ?_) (fun acc σ H' p=> ?_)
 ·rw[p.1,aF,aF,vA];exact Dj _ _
 ·obtain⟨rfl,sm,o,rfl⟩:=pp
  rw[cg]at hx
  cases ex:ps[k]? with
  |none=>rw[ex]at hx;cases hx
  |some y=>
   rw[ex]at hx
   cases hx
   refine⟨_,rfl,_,rfl,_,rfl,a,n,y,x,ts,rfl,hW.same sm,fun H2 s2=>⟨?_,sm.trans s2,_,rfl⟩⟩
   rw[rE,ex,bQ,bQ];rfl
 ·intro p1 hp1
  obtain⟨rfl,sm,_⟩:=p
  refine⟨p1,_,rfl,SqL.of aH,_,rfl,?_⟩
  have e:(!(((ps.take (ps.map V.int).length).map fun o=>bh ts o x).any id))=cH ts ps x:=by
   rw[aF,qe,List.any_map];rfl
  rw[e]
  exact q _ (sm.trans (aV hp1 _))
abbrev vd(K:W.Frag)(H:Hp)(its:List (Addr×List Int)):Prop:=∀p∈its,SqT K H p.1 (p.2.map V.int)
theorem vd.same{H H':Hp}{its:List (Addr×List Int)}(h:vd K H its)(e:Same H H'):vd K H' its:=fun p hp=>e.tup (h p hp)
theorem aaG(xs:List Int):cutV (xs.map V.int) none (some 1)=(xs.take 1).map V.int:=by
 cases xs with
 |nil=>rfl
 |cons x r=>
  unfold cutV HT.sIx
  simp
  try omega
theorem aaF(xs:List Int):cutV (xs.map V.int) (some 1) none=(xs.drop 1).map V.int:=by
 cases xs with
 |nil=>rfl
 |cons x r=>
  unfold cutV HT.sIx
  simp
  rw[yeg (by rw[aF];exact aJ _)]
def rT(K:W.Frag):Sp:=fun vs H Q _=>∃(a b:Addr) (n:Int) (ts:List (Int×Int)) (xs:List Int),vs=[.ref a,.ref b]/\jG K H a n ts/\SqT K H b (xs.map V.int)/\xs.length<=10/\
 ∀(r:Addr) (its:List (Addr×List Int)) H',Same H H'->H' r=some (.lst (its.map fun p=>V.ref p.1))->vd K H' its->its.map (·.2)=fparts ts xs->H r=none->Q (.ref r) H'
theorem kO:FnScope ["web","some","found","place"] ["web","some"] (defScope Xa):=fsc
theorem GR{f f1:Addr}{fd d1:FuncData}(F:Fun K "first_parts" "first_parts" Xa f fd)(D1:bJ K mg "can_stand_with" zcp ["web","part","place"] f1 d1)(G1:FnOk P w K mg base CX0 2 f1 d1 ["web","part","place"] (Dw K)):
  FnOk P w K mg base CX0 3 f fd ["web","some"] (rT K):=by
 refine F.ok kO (fun vs H Q E h=> ?_) (fun cdv A outer s H vs Q E hr h=> ?_)
 ·obtain⟨a,b,n,ts,xs,rfl,_⟩:=h
  rfl
 obtain⟨a,b,n,ts,xs,rfl,hW,hB,hlen,q⟩:=h
 refine⟨_,(aO (cV (i:=2) kO.nd rfl (Or.inl rfl) (pe_lst (aj (pe_slice Ea (pv 1) po_none (po_some aK)) au))) (aO (xM tX rfl (Am (pe_slice Ea (pv 1) (po_some aK) po_none)) (cY (i:=3) kO.nd rfl (Or.inr rfl)) (aX (cV (i:=2) kO.nd rfl (Or.inl rfl) (bN op_cat (pv 2) (oH (own:=["part"]) (caps:=["web","place"]) (ix:=[0,3]) rfl (xW (pv 2)) rfl rfl (.cons rfl rfl (.cons rfl rfl .nil)) (fun _ _ _ _ _=>(cY (i:=0) (show(["part","web","place"]:List Str).Nodup from by decide+kernel) rfl (Or.inl rfl))) (fun _ _ _ _ _=>fj (uD (pc G1 hr D1 (aj (pv 1) (aj (pv 0) (aj (pv 2) au)))))) (fun _ _ _ _ _=>(bN (yM K) (pv 0) (oG (aj (pv 2) au))))))))) (aX (cF (pv 2))))),?_⟩
 refine⟨_,rfl,_,rfl,b,_,rfl,hB,fun r0 H0 s0 h0=> ?_⟩
 rw[aaG]at h0
 refine⟨(by show 1<=sizeLine;decide),fun l0 hl0=> ?_⟩
 have s1:=aV hl0 (.lst [.ref r0])
 refine⟨_,rfl,_,rfl,b,_,rfl,(s0.trans s1).tup hB,fun r1 H1 s2 h1=> ?_⟩
 rw[aaF]at h1
 refine⟨r1,_,rfl,h1,fun hz=> ?_⟩
 refine for_tup (K:=K) (a:=r1) (xs:=(xs.drop 1).map V.int) (fun k σ H'=>∃(l:Addr) (its:List (Addr×List Int)) (o3:Option V),σ=[some (.ref a),some (.ref b),some (.ref l),o3]/\Same H H'/\Same H1 H'/\H' l=some (.lst (its.map fun p=>V.ref p.1))/\vd K H' its/\its.map (·.2)=jF (cH ts) xs k/\H l=none)
  ⟨l0,[(r0,xs.take 1)],_,rfl,s0.trans (s1.trans s2),Same.refl _,s2 _ _ aH,fun p hp=>by rw[fZ.mp hp];exact(s1.trans s2).tup h0,rfl,s0.free hl0⟩ (fun k σ H' _ p=> ?_) (fun k x σ H2 hx p=> ?_) (fun σ H2 p=> ?_)
 ·obtain⟨_,_,_,_,_,s3,_⟩:=p
  exact s3.tup h1
 ·obtain⟨l,its,o3,rfl,sm,s3,hl,hT,hm,l00⟩:=p
  rw[cg]at hx
  cases ek:(xs.drop 1)[k]? with
  |none=>rw[ek]at hx;cases hx
  |some y=>
   rw[ek]at hx
   cases hx
   have hk:k<=9:=by
    have:=(lC.mp ek).1
    rw[wdf]at this
    omega
   have hlen2:its.length<=512:=by
    have h1:its.length=(jF (cH ts) xs k).length:=by rw[<-hm,aF]
    rw[h1]
    exact bZ (zF _ _ _) (Wu (n:=2) (by decide) hk)
   have aai:∀p∈its,p.2.length<=10:=fun p hp=>by
    have hm':p.2∈jF (cH ts) xs k:=by rw[<-hm];exact Tj hp
    cases xs with
    |nil=>simp at ek
    |cons x r=>
     have:=(iT k _ hm').1.length_le
     rw[rD,vA]at this
     rw[rD]at hlen
     omega
   refine⟨_,rfl,_,rfl,l,_,rfl,SqL.of hl,fun hz=> ?_⟩
   refine HY (xs:=its.map fun p=>V.ref p.1) (fun i acc σ H'=>∃jts:List (Addr×List Int),acc=jts.map (fun p=>V.ref p.1)/\jts.map (·.2)=(((its.take i).map (·.2)).filter fun p=>cH ts p y).map (fun s=>s++[y])/\vd K H' jts/\Same H2 H'/\∃o,σ=[o,some (.ref a),some (.int y)]) ⟨[],rfl,rfl,fun p hp=>(nomatch hp),Same.refl _,_,rfl⟩ (fun i acc σ H' _ p=> ?_) (fun i acc σ H' hi p=> ?_) hz (fun i x acc σ H4 hx p=> ?_) (fun acc σ H4 p=> ?_)
   ·obtain⟨_,_,_,_,s2,_⟩:=p
    exact s2.seq (SqL.of hl)
   ·obtain⟨jts,rfl,hj,_⟩:=p
    have:=jy List.length hj
    rw[aF,aF]at this
    rw[aF,this]
    refine bZ (xR _ _) ?_
    rw[aF,vA];exact Dj _ _
   ·obtain⟨jts,rfl,hj,hJ,s4,o,rfl⟩:=p
    rw[cg]at hx
    cases ex:its[i]? with
    |none=>rw[ex]at hx;cases hx
    |some v=>
     rw[ex]at hx
     cases hx
     have mv:=iZ ex
     have et:(((its.take (i+1)).map (·.2)).filter fun p=>cH ts p y)=(((its.take i).map (·.2)).filter fun p=>cH ts p y)++(if cH ts v.2 y=true then[v.2]else[]):=by
      rw[rE,ex,bQ,Ti]
      congr 1
      exact Zy _ _
     refine⟨_,rfl,_,rfl,_,rfl,a,v.1,n,y,ts,v.2,rfl,hW.same (sm.trans s4),s4.tup (hT v mv),fun H5 s5=>⟨_,rfl,?_⟩⟩
     refine ite2 (fun c=> ?_) (fun c=> ?_)
     ·refine⟨_,rfl,_,rfl,(by show 1<=sizeLine;decide),fun p1 hp1=> ?_⟩
      have s6:=aV hp1 (.tup [.int y])
      refine⟨v.1,p1,_,_,rfl,rfl,(s4.trans (s5.trans s6)).tup (hT v mv),SqT.of aH,(by have:=aai v mv;rw[aF,gB];show _+1<=_;omega),fun r H7 s7 h7=> ?_⟩
      have Uk:=s5.trans (s6.trans s7)
      refine⟨jts++[(r,v.2++[y])],by rw[bQ];rfl,?_,fun p hp=> ?_,s4.trans Uk,_,rfl⟩
      ·rw[bQ,hj,et,ao c,bQ];rfl
      ·rcases iW.mp hp with z|z
       ·exact Uk.tup (hJ p z)
       ·rw[fZ.mp z]
        show SqT K H7 r ((v.2++[y]).map V.int)
        rw[bQ]
        exact h7
     ·refine⟨jts,rfl,?_,hJ.same s5,s4.trans s5,_,rfl⟩
      rw[hj,et,ak c,uF]
   ·intro p1 hp1
    obtain⟨jts,rfl,hj,hJ,s4,o,rfl⟩:=p
    rw[aF,qe,hm]at hj
    have hjl:jts.length<=its.length:=by
     have:=jy List.length hj
     rw[aF,aF]at this
     have e2:its.length=(jF (cH ts) xs k).length:=by rw[<-hm,aF]
     rw[this,e2]
     exact xR _ _
    have s5:=aV hp1 (.lst (jts.map fun p=>V.ref p.1))
    refine⟨l,p1,_,_,rfl,rfl,s5 _ _ (s4 _ _ hl),aH,(by rw[aF,aF,gB];omega),fun l2 hl2=> ?_⟩
    have s6:=aV hl2 (.lst (its.map (fun p=>V.ref p.1)++jts.map fun p=>V.ref p.1))
    have s56:=s5.trans s6
    refine⟨l2,its++jts,_,rfl,sm.trans (s4.trans s56),s3.trans (s4.trans s56),by rw[aH,bQ],fun p hp=> ?_,?_,(sm.trans (s4.trans s5)).free hl2⟩
    ·rcases iW.mp hp with z|z
     ·exact(s4.trans s56).tup (hT p z)
     ·exact s56.tup (hJ p z)
    ·rw[bQ,hm,hj,pD ek];rfl
 ·obtain⟨l,its,o3,rfl,sm,s3,hl,hT,hm,l00⟩:=p
  rw[aF,zG]at hm
  exact⟨_,rfl,q l its H2 sm hl hT hm l00⟩
theorem Same.over{H0 H H':Hp}{d:Addr}(s:Same H0 H)(n:H0 d=none)(e:aB d H H'):Same H0 H':=fun b u h=>e _ _ (fun z=>by rw[z,n]at h;cases h) (s _ _ h)
theorem jd{T a:Addr}{H:Hp}{ps:Array Value}{o:HO}(h:H T=some (.tbl ps))(e:H a=some o)(n:∀ps,o≠.tbl ps):a≠T:=fun z=>by rw[z,h]at e;cases e;exact n _ rfl
theorem yc{T a:Addr}{H H':Hp}{ps:Array Value}{xs:List V}(e:aB T H H')(h:H T=some (.tbl ps))(hx:SqT K H a xs):SqT K H' a xs:=by
 rcases hx with(q|⟨o,q⟩)|q
 ·exact .inl (.inl (e _ _ (jd h q fun _ z=>nomatch z) q))
 ·exact .inl (.inr ⟨o,e _ _ (jd h q fun _ z=>nomatch z) q⟩)
 ·exact .inr q
theorem aap{T a:Addr}{H H':Hp}{ps:Array Value}{xs:List V}(e:aB T H H')(h:H T=some (.tbl ps))(hx:SqL K H a xs):SqL K H' a xs:=by
 rcases hx with(q|⟨o,q⟩)|q
 ·exact .inl (.inl (e _ _ (jd h q fun _ z=>nomatch z) q))
 ·exact .inl (.inr ⟨o,e _ _ (jd h q fun _ z=>nomatch z) q⟩)
 ·exact .inr q
theorem Ux{T:Addr}{H H':Hp}{tb:Array Value}(e:aB T H H')(n:H T=some (.tbl tb)){rs:List V}{ps:List (Int×Int)}(h:dI K H rs (ps.map pairD)):dI K H' rs (ps.map pairD):=by
 induction ps generalizing rs with
 |nil=>cases h;exact .nil
 |cons p ps ih=>
  cases h with
  |cons h tl=>
   refine .cons ?_ (ih tl)
   cases h with
   |tup h hd=>
    cases hd with
    |cons a1 t1=>
     cases a1
     cases t1 with
     |cons a2 t2=>
      cases a2
      cases t2
      exact .tup (yc e n h) (.cons (.int _) (.cons (.int _) .nil))
theorem XF{T a:Addr}{H H':Hp}{tb:Array Value}{n:Int}{ts:List (Int×Int)}(h:jG K H a n ts)(e:aB T H H')(hn:H T=some (.tbl tb)):jG K H' a n ts:=by
 obtain⟨u,rs,h1,h2,h3⟩:=h
 exact⟨u,rs,yc e hn h1,yc e hn h2,Ux e hn h3⟩
theorem bA.tbl{T a:Addr}{H H':Hp}{tb:Array Value}{n:Int}{ts:List (Int×Int)}(h:bA K H a n ts)(e:aB T H H')(hn:H T=some (.tbl tb)):bA K H' a n ts:=⟨XF h.web e hn,h.h0,h.h1,h.pk,h.ok⟩
theorem _root_.L2.iU.at{H:Hp}{T:Addr}{p:Pos}{q:Str}(h:iU H T p q):∃tb,H T=some (.tbl tb):=by
 rcases h with h|⟨_,_,_,_,h,_⟩
 ·exact⟨_,h⟩
 ·exact⟨_,h⟩
theorem _root_.L2.iU.same{H H':Hp}{T:Addr}{p:Pos}{q:Str}(h:iU H T p q)(e:Same H H'):iU H' T p q:=by
 rcases h with h|⟨c,oc,vs,tq,h,h1,h2⟩
 ·exact .inl (e _ _ h)
 ·exact .inr ⟨c,oc,vs,tq,e _ _ h,e _ _ h1,h2⟩
theorem _root_.L2.iU.m9{H H':Hp}{T l:Addr}{p:Pos}{q:Str}{zs:List V}(h:iU H T p q)(e:aB l H H')(hl:H l=some (.lst zs)):iU H' T p q:=by
 rcases h with h|⟨c,oc,vs,tq,h,h1,h2⟩
 ·exact .inl (e _ _ (ne_of h hl (fun z=>nomatch z)) h)
 ·exact .inr ⟨c,oc,vs,tq,e _ _ (ne_of h hl (fun z=>nomatch z)) h,e _ _ (ne_of h1 hl (fun z=>nomatch z)) h1,h2⟩
def Vp:Pos:=match defBody Oc with
 |[.Return (some (.Call _ _ [⟨_,.Lambda _ _ _ p,_⟩] _)) _]=>p
 |_=>⟨0,0,0,0⟩
def aar:Str:=("best_part":Str)++".<locals>."++"<lambda>"
abbrev CQ(H:Hp)(T:Addr):Prop:=iU H T Vp aar
theorem Vi{xs:List Int}(c:(!(!((xs.map V.int).isEmpty)))=true):xs=[]:=by
 cases xs with
 |nil=>rfl
 |cons x r=>exact absurd c (by show¬(!(!false))=true;decide)
theorem YH{xs:List Int}(c:¬(!(!((xs.map V.int).isEmpty)))=true):xs≠[]:=fun e=>by subst e;exact c rfl
def JQ(K:W.Frag):Sp:=fun vs H Q _=>∃(a d b:Addr) (n:Int) (ts:List (Int×Int)) (xs:List Int) (kvs:List (List Key×V)) (g:List Int->Int),vs=[.ref a,.ref d,.ref b]/\jG K H a n ts/\H d=some (.dT kvs)/\SqT K H b (xs.map V.int)/\xs.length<=10/\
 (xs≠[]->∀p∈fparts ts xs,valV kvs ((wo xs p).map Sum.inl)=some (.int (g (wo xs p))))/\∀H',Same H H'->Q (.int (Im g ts xs)) H'
theorem Ph:FnScope ["web","floors","some"] ["web","floors","some"] (defScope zcx):=fsc
theorem Qi{f f1 f2:Addr}{fd d1 d2:FuncData}(F:Fun K "highest_floor" "highest_floor" zcx f fd)(D1:bJ K mg "first_parts" Xa ["web","some"] f1 d1)(G1:FnOk P w K mg base CX0 3 f1 d1 ["web","some"] (rT K))(D2:bJ K mg "without" eO ["some","part"] f2 d2)(G2:FnOk P w K mg base CX0 1 f2 d2 ["some","part"] (gC K))(yR:mg "min"=none):
  FnOk P w K mg base CX0 4 f fd ["web","floors","some"] (JQ K):=by
 refine F.ok Ph (fun vs H Q E h=> ?_) (fun cdv A outer s H vs Q E hr h=> ?_)
 ·obtain⟨a,d,b,n,ts,xs,kvs,g,rfl,_⟩:=h
  rfl
 obtain⟨a,d,b,n,ts,xs,kvs,g,rfl,hW,hD,hB,hlen,hv,q⟩:=h
 refine⟨_,(aO (mY (pt_not (pt_truth (pv 2) (fun _=>rfl))) (aX (cF aK)) oJ) (aX (cF (bN qy aK (fM (u9 rfl) rfl yR (by decide+kernel) (aj (oH (own:=["part"]) (caps:=["floors","some"]) (ix:=[1,2]) rfl (xW (pc G1 hr D1 (aj (pv 0) (aj (pv 2) au)))) rfl rfl (.cons rfl rfl (.cons rfl rfl .nil)) (fun _ _ _ _ _=>(cY (i:=0) (show(["part","floors","some"]:List Str).Nodup from by decide+kernel) rfl (Or.inl rfl))) (fun _ _ _ _ _=>qb) (fun _ _ _ _ _=>(pe_dget (hu_of hr) (pv 1) (pc G2 hr D2 (aj (pv 2) (aj (pv 0) au))) (fun _ _=>rfl)))) au)))))),?_⟩
 refine⟨_,rfl,!((xs.map V.int).isEmpty),.inr (.inl ⟨_,hB,rfl⟩),?_⟩
 refine ite2 (fun c=> ?_) (fun c=> ?_)
 ·have e:=Vi c
  subst e
  exact q H (Same.refl _)
 ·have hx:=YH c
  have hv:=hv hx
  refine⟨_,rfl,_,rfl,a,b,n,ts,xs,rfl,hW,hB,hlen,fun r its H1 s1 hr1 hT hm hr0=>⟨r,_,rfl,SqL.of hr1,fun hz=> ?_⟩⟩
  refine HY (xs:=its.map fun p=>V.ref p.1) (fun i acc σ H'=>acc=((its.take i).map fun p=>g (wo xs p.2)).map V.int/\Same H1 H'/\∃o,σ=[o,some (.ref d),some (.ref b)]) ⟨rfl,Same.refl _,_,rfl⟩ (fun i acc σ H' _ p=>p.2.1.seq (SqL.of hr1)) (fun i acc σ H' _ p=> ?_) hz (fun i x acc σ H' hx p=> ?_) (fun acc σ H' p=> ?_)
  ·rw[p.1,aF,aF,vA];exact Dj _ _
  ·obtain⟨rfl,sm,o,rfl⟩:=p
   rw[cg]at hx
   cases ex:its[i]? with
   |none=>rw[ex]at hx;cases hx
   |some v=>
    rw[ex]at hx
    cases hx
    have mv:=iZ ex
    have mp:v.2∈fparts ts xs:=by rw[<-hm];exact Tj mv
    refine⟨_,rfl,_,rfl,_,rfl,b,v.1,xs,v.2,rfl,(s1.trans sm).tup hB,sm.tup (hT v mv),fun rr H2 s2 h2=> ?_⟩
    have G:=DGet.t (k:=(wo xs v.2).map Sum.inl) ((s1.trans (sm.trans s2)) _ _ hD) (by rw[keyV];exact h2)
    rw[hv _ mp]at G
    refine⟨d,_,rfl,G,?_,sm.trans s2,_,rfl⟩
    rw[rE,ex,bQ,bQ];rfl
  ·intro p1 hp1
   obtain⟨rfl,sm,_⟩:=p
   have e:(its.take (its.map fun p=>V.ref p.1).length).map (fun p=>g (wo xs p.2))=(fparts ts xs).map fun p=>g (wo xs p):=by
    rw[aF,qe,<-hm,Tc];rfl
   rw[e]
   refine⟨p1,_,rfl,SqL.of aH,fun z=>Cg _ _ (List.map_eq_nil_iff.mp z),fun m h1 h2=>⟨_,_,rfl,rfl,?_⟩⟩
   have e2:Im g ts xs=1+m:=by rw[mnL_eq h1 h2,Im,ak hx]
   show Q (.int (1+m)) _
   rw[<-e2]
   exact q _ (s1.trans (sm.trans (aV hp1 _)))
def Dz(K:W.Frag):Sp:=fun vs H Q _=>∃(a:Addr) (n:Int) (ts:List (Int×Int)),vs=[.ref a]/\bA K H a n ts/\∀d H',Same H H'->H' d=some (.dT (qF (lH ts) (cU n.toNat)))->H d=none->Q (.ref d) H'
theorem su:FnScope ["web","floors","some"] ["web"] (defScope zcm):=fsc
theorem K7{f f1 f2:Addr}{fd d1 d2:FuncData}(F:Fun K "highest_floors" "highest_floors" zcm f fd)(D1:bJ K mg "all_sets" jm ["n"] f1 d1)(G1:FnOk P w K mg base CX0 1 f1 d1 ["n"] (uN K))(D2:bJ K mg "highest_floor" zcx ["web","floors","some"] f2 d2)(G2:FnOk P w K mg base CX0 4 f2 d2 ["web","floors","some"] (JQ K)):
  FnOk P w K mg base CX0 5 f fd ["web"] (Dz K):=by
 refine F.ok su (fun vs H Q E h=> ?_) (fun cdv A outer s H vs Q E hr h=> ?_)
 ·obtain⟨a,n,ts,rfl,_⟩:=h
  rfl
 obtain⟨a,n,ts,rfl,hA,q⟩:=h
 refine⟨_,(aO (cV (i:=1) su.nd rfl (Or.inl rfl) pe_dnewT) (aO (xM tX rfl (xW (pc G1 hr D1 (aj (bB gQ (pv 0) aK (fun _ _=>rfl)) au))) (cY (i:=2) su.nd rfl (Or.inl rfl)) (aX (ps_dput (hu_of hr) (pv 1) (pv 2) (pc G2 hr D2 (aj (pv 0) (aj (pv 1) (aj (pv 2) au)))) rfl))) (aX (cF (pv 1))))),?_⟩
 intro d hd
 have s0:=aV hd (.dT [])
 have h0:(upd H d (.dT [])) d=some (.dT (qF (lH ts) ((cU n.toNat).take 0))):=aH
 generalize upd H d (.dT [])=H0 at *
 obtain⟨t,rs,w1,w2,w3⟩:=id (hA.web.same s0)
 refine⟨_,rfl,a,_,_,.int n,rfl,rfl,w1,rfl,n,rfl,hA.h0,hA.h1,fun r its H1 s1 hr1 hT hm=>⟨r,_,rfl,SqL.of hr1,fun hz=> ?_⟩⟩
 have h1:=s1 _ _ h0
 have nrd:r≠d:=ne_of hr1 h1 (fun z=>nomatch z)
 have hlen:its.length<=1024:=by
  have:its.length=2^n.toNat:=by rw[<-j4,<-hm,aF]
  rw[this]
  exact Wu (n:=2) (by decide) (show n.toNat<=10 by have:=hA.h1;omega)
 refine for_list (K:=K) (a:=r) (xs:=its.map fun p=>V.ref p.1) (fun i σ H'=>Same H H'/\H' r=some (.lst (its.map fun p=>V.ref p.1))/\KnS H' its/\H' d=some (.dT (qF (lH ts) ((cU n.toNat).take i)))/\∃o,σ=[some (.ref a),some (.ref d),o])
  ⟨s0.trans s1,hr1,hT,h1,_,rfl⟩ (fun i σ H' _ p=>SqL.of p.2.1) (fun i x σ H' hx p=> ?_) (fun σ H' p=> ?_)
 ·obtain⟨sm,hr2,hT2,hd2,o,rfl⟩:=p
  rw[cg]at hx
  cases ex:its[i]? with
  |none=>rw[ex]at hx;cases hx
  |some v=>
   rw[ex]at hx
   cases hx
   have mv:=iZ ex
   have es:(cU n.toNat)[i]? =some v.2:=by rw[<-hm,cg,ex];rfl
   have lv:v.2.length<=10:=by
    have:=oh n.toNat v.2 (iZ es)
    have:=hA.h1
    omega
   have nv:v.2∉(cU n.toNat).take i:=fun z=>by
    obtain⟨j,hj,ej⟩:=uG z
    rw[vA]at hj
    rw[List.getElem_take]at ej
    have h2:=lC.mp es
    obtain⟨hi,ei⟩:=h2
    have:=Ij.mp (mK n.toNat) j i (by omega) hi (by omega)
    exact this (ej.trans ei.symm)
   refine⟨_,rfl,_,rfl,_,rfl,a,d,v.1,n,ts,v.2,_,lH ts,rfl,hA.web.same sm,hd2,SqT.of (hT2 v mv),lv,fun hx p hp=> ?_,fun H3 s3=> ?_⟩
   ·rw[jK,ao]
    obtain⟨y,yr,ey⟩:∃y yr,v.2=y::yr:=by
     cases hv:v.2 with
     |nil=>exact absurd hv hx
     |cons y yr=>exact⟨y,yr,rfl⟩
    rw[ey]at hp es⊢
    exact pK n.toNat i _ _ es (lV _ _) (Jg (jZ hp).2)
   ·rw[<-flo_eq]
    refine⟨_,rfl,_,rfl,d,_,rfl,DPut.t (k:=v.2.map Sum.inl) (s3 _ _ hd2) (by rw[keyV];exact s3 _ _ (hT2 v mv)) ?_,?_⟩
    ·rw[Ka,vA,j4,gB]
     have:2^n.toNat<=1024:=Wu (n:=2) (by decide) (show n.toNat<=10 by have:=hA.h1;omega)
     omega
    ·rw[J9 nv]
     have xd:aB d H3 (upd H3 d (.dT (qF (lH ts) ((cU n.toNat).take i++[v.2])))):=(aB.refl _ _).upd
     refine⟨Same.over (sm.trans s3) hd xd,xd _ _ nrd (s3 _ _ hr2),fun p hp=>xd _ _ (ne_of (s3 _ _ (hT2 p hp)) (s3 _ _ hd2) (fun z=>nomatch z)) (s3 _ _ (hT2 p hp)),?_,_,rfl⟩
     rw[aH,rE,es];rfl
 ·obtain⟨sm,hr2,hT2,hd2,o,rfl⟩:=p
  have e:(cU n.toNat).take (its.map fun p=>V.ref p.1).length=cU n.toNat:=by
   rw[aF,show its.length=(cU n.toNat).length by rw[<-hm,aF],qe]
  rw[e]at hd2
  exact⟨_,rfl,q d H' sm hd2 hd⟩
def JV(K:W.Frag)(T:Addr):Sp:=fun vs H Q _=>∃(a d b:Addr) (n:Int) (ts:List (Int×Int)) (xs:List Int) (kvs:List (List Key×V)) (g:List Int->Int),vs=[.ref a,.ref d,.ref b]/\jG K H a n ts/\H d=some (.dT kvs)/\SqT K H b (xs.map V.int)/\xs≠[]/\xs.length<=10/\
 (∀p∈fparts ts xs,valV kvs ((wo xs p).map Sum.inl)=some (.int (g (wo xs p))))/\CQ H T/\∀r p H',aB T H H'->CQ H' T->SqT K H' r (p.map V.int)->p∈fparts ts xs->(∀q∈fparts ts xs,g (wo xs p)<=g (wo xs q))->Q (.ref r) H'
theorem Pj:FnScope ["web","floors","some"] ["web","floors","some"] (defScope Oc):=fsc
theorem Ql{f f1 f2 c T:Addr}{fd d1 d2:FuncData}(F:Fun K "best_part" "best_part" Oc f fd)(hcd:fd.code= .ref c)(LB:zZ base mg c T)(D1:bJ K mg "first_parts" Xa ["web","some"] f1 d1)(G1:FnOk P w K mg base CX0 3 f1 d1 ["web","some"] (rT K))(D2:bJ K mg "without" eO ["some","part"] f2 d2)(G2':FnOk P w K mg base CX0 1 f2 d2 ["some","part"] (gC K))(yR:mg "min"=none):
  FnOk P w K mg base CX0 5 f fd ["web","floors","some"] (JV K T):=by
 have G2:FnOk P w K mg base CX0 2 f2 d2 ["some","part"] (gC K):=G2'.mono (by decide)
 refine F.okC hcd Pj (fun vs H Q E h=> ?_) (fun A outer s H vs Q E hr h=> ?_)
 ·obtain⟨a,d,b,n,ts,xs,kvs,g,rfl,_⟩:=h
  rfl
 obtain⟨a,d,b,n,ts,xs,kvs,g,rfl,hW,hD,hB,hx,hlen,hv,hL,q⟩:=h
 refine⟨_,(aX (cF (Gv (k:=2) (y:="part") (caps:=["floors","some"]) (ix:=[1,2]) LB rfl rfl hr rfl yR (aj (pc G1 hr D1 (aj (pv 0) (aj (pv 2) au))) au)
   (.cons rfl rfl (.cons rfl rfl .nil)) (fun _ _ _ _ hl=>pe_dget (hu_of hl) (pv 1) (pe_call G2 hl rfl D2.m D2.F.kp D2.b .nil pass0 (aj (pv 2) (aj (pv 0) au))) (fun _ _=>rfl))))),?_⟩
 refine⟨_,rfl,_,rfl,a,b,n,ts,xs,rfl,hW,hB,hlen,fun r its H1 s1 hr1 hT hm hr0=> ?_⟩
 have hL1:=hL.same s1
 obtain⟨tb,ht⟩:=hL1.at
 have hne:its≠[]:=fun z=>Cg (cH ts) xs (by rw[<-show its.map (·.2)=W3 (cH ts) xs from hm,z];rfl)
 refine⟨r,its,rfl,SqL.of hr1,hne,hL1,fun j=>g (wo xs (its.getD j (0,[])).2),fun _ H'=>aB T H1 H'/\CQ H' T,fun H2 e l=>⟨e,l⟩,fun j H' e=>aap e.1 ht (SqL.of hr1),fun j p H' hp e=> ?_,fun i p H' hp hb e=> ?_⟩
 ·have mp:=iZ hp
  have mf:p.2∈fparts ts xs:=by rw[<-hm];exact Tj mp
  have ed:its.getD j (0,[])=p:=by rw[jC,hp];rfl
  refine⟨_,rfl,_,rfl,_,rfl,b,p.1,xs,p.2,rfl,yc e.1 ht (s1.tup hB),yc e.1 ht (hT p mp),fun rr H2 s2 h2=> ?_⟩
  have hd2:=e.1 _ _ (jd ht (s1 _ _ hD) fun _ z=>nomatch z) (s1 _ _ hD)
  have G:=DGet.t (k:=(wo xs p.2).map Sum.inl) (s2 _ _ hd2) (by rw[keyV];exact h2)
  rw[hv _ mf]at G
  refine⟨d,_,rfl,G,(by show V.int _=V.int (g (wo xs (its.getD j (0,[])).2));rw[ed]),fun c o n e'=>s2 _ _ (e.1 c o n e'),e.2.same s2⟩
 ·have mp:=iZ hp
  have ed:its.getD i (0,[])=p:=by rw[jC,hp];rfl
  refine q p.1 p.2 H' (fun c o n e'=>e.1 c o n (s1 _ _ e')) e.2 (yc e.1 ht (hT p mp)) (by rw[<-hm];exact Tj mp) fun z hz=> ?_
  rw[<-hm]at hz
  obtain⟨y,hy,rfl⟩:=iV.mp hz
  obtain⟨j,hj,ej⟩:=uG hy
  have:=(hb j hj).1
  have ey:its.getD j (0,[])=y:=by rw[jC,gH hj,ej];rfl
  dsimp only at this
  rw[ed,ey]at this
  exact this
def RX(K:W.Frag)(T:Addr):Sp:=fun vs H Q _=>∃(a d:Addr) (n:Int) (ts:List (Int×Int)),vs=[.ref a,.ref d]/\bA K H a n ts/\H d=some (.dT (qF (lH ts) (cU n.toNat)))/\CQ H T/\
 ∀r hs H',aB T H H'->CQ H' T->H' r=some (.tup (hs.map V.int))->CV ts n.toNat (lH ts (oN n.toNat)) hs->Q (.ref r) H'
theorem J8{hs:List Int}{i:Nat}{x:Int}:(hs.map V.int).set i (.int x)=(hs.set i x).map V.int:=by rw[wgj]
theorem jO:FnScope ["web","floors","hues","left","hue","part","place"] ["web","floors"] (defScope zcl):=fsc
theorem Vh{f f1 f2 T:Addr}{fd d1 d2:FuncData}(F:Fun K "hues_by_floors" "hues_by_floors" zcl f fd)(D1:bJ K mg "best_part" Oc ["web","floors","some"] f1 d1)(G1:FnOk P w K mg base CX0 5 f1 d1 ["web","floors","some"] (JV K T))(D2:bJ K mg "without" eO ["some","part"] f2 d2)(G2:FnOk P w K mg base CX0 1 f2 d2 ["some","part"] (gC K))(aZ:mg "tuple"=none)(aG:mg "range"=none):
  FnOk P w K mg base CX0 6 f fd ["web","floors"] (RX K T):=by
 refine F.ok jO (fun vs H Q E h=> ?_) (fun cdv A outer s H vs Q E hr h=> ?_)
 ·obtain⟨a,d,n,ts,rfl,_⟩:=h
  rfl
 obtain⟨a,d,n,ts,rfl,hA,hD,hL,q⟩:=h
 refine⟨_,(aO (cV (i:=2) jO.nd rfl (Or.inl rfl) (bN op_rep (pe_lst (aj aK au)) (bB gQ (pv 0) aK (fun _ _=>rfl)))) (aO (cV (i:=3) jO.nd rfl (Or.inl rfl) (jU rfl rfl aZ rfl aG (aj (bB gQ (pv 0) aK (fun _ _=>rfl)) au))) (aO (cV (i:=4) jO.nd rfl (Or.inl rfl) aK) (aO (ps_while tX (pt_truth (pv 3) (fun _=>rfl)) (aO (cV (i:=5) jO.nd rfl (Or.inl rfl) (pc G1 hr D1 (aj (pv 0) (aj (pv 1) (aj (pv 3) au))))) (aO (xM tX rfl (Am (pv 5)) (cY (i:=6) jO.nd rfl (Or.inl rfl)) (aX (ps_asg (pv 4) (pg_sub (pv 2) (pv 6) set_list)))) (aO (cV (i:=3) jO.nd rfl (Or.inl rfl) (pc G2 hr D2 (aj (pv 3) (aj (pv 5) au)))) (aX (ps_aug (i:=4) jO.nd rfl (Or.inl rfl) aK ip_add)))))) (aX (cF (pe_callTy Wi rfl aZ (by decide+kernel) (aj (pv 2) au)))))))),?_⟩
 obtain⟨t,rs,w1,w2,w3⟩:=id hA.web
 have hn0:=hA.h0
 have hn1:=hA.h1
 refine⟨(by show 1<=sizeLine;decide),fun l0 hl0=> ?_⟩
 have s0:=aV hl0 (.lst [.int 0])
 refine⟨_,rfl,a,_,_,.int n,rfl,rfl,s0.tup w1,rfl,l0,n,_,rfl,rfl,aH,by omega,by omega,by rw[gB];show 1*n.toNat<=_;omega,fun l hl=> ?_⟩
 have s1:=s0.trans (aV hl (.lst (List.replicate n.toNat [V.int 0]).flatten))
 have e0:(List.replicate n.toNat [V.int 0]).flatten=(List.replicate n.toNat 0).map V.int:=by
  rw[List.map_replicate]
  induction n.toNat with
  |zero=>rfl
  |succ k ih=>rw[FQ,Ja,ih,FQ];rfl
 have hl1:(upd (upd H l0 (.lst [.int 0])) l (.lst (List.replicate n.toNat [V.int 0]).flatten)) l=some (.lst ((List.replicate n.toNat (0:Int)).map V.int)):=by rw[aH,e0]
 have l00:H l=none:=s0.free hl
 dsimp only at s1 hl1⊢
 generalize upd (upd H l0 (.lst [.int 0])) l (.lst (List.replicate n.toNat [V.int 0]).flatten)=H1 at *
 refine⟨_,rfl,a,_,_,.int n,rfl,rfl,s1.tup w1,rfl,n,rfl,hn0,by omega,fun lf hlf=> ?_⟩
 have s2:=aV hlf (.tup (cQ n.toNat))
 have YT:(upd H1 lf (.tup (cQ n.toNat))) lf=some (.tup ((oN n.toNat).map V.int)):=by rw[aH,yd]
 have hl2:=s2 _ _ hl1
 have s12:=s1.trans s2
 dsimp only at s12 YT hl2⊢
 generalize upd H1 lf (.tup (cQ n.toNat))=H2 at *
 refine⟨fun m σ H'=>∃(xs hs:List Int) (h:Int) (b:Addr) (o5 o6:Option V),m=xs.length/\σ=[some (.ref a),some (.ref d),some (.ref l),some (.ref b),some (.int h),o5,o6]/\aB T H H'/\CQ H' T/\H' l=some (.lst (hs.map V.int))/\SqT K H' b (xs.map V.int)/\uy ts n.toNat (lH ts (oN n.toNat)) xs h hs,
  ⟨_,oN n.toNat,_,0,lf,_,_,rfl,rfl,s12.x T,hL.same s12,hl2,SqT.of YT,uy.start ts n.toNat⟩,?_⟩
 rintro m σ H' ⟨xs,hs,h,b,o5,o6,rfl,rfl,sx,hLm,hl3,hB,HI⟩
 refine⟨_,rfl,!((xs.map V.int).isEmpty),.inr (.inl ⟨_,hB,rfl⟩),?_⟩
 obtain⟨tb0,ht0⟩:=hL.at
 obtain⟨tb,ht⟩:=hLm.at
 have nlT:l≠T:=jd ht hl3 fun _ z=>nomatch z
 refine ite2 (fun c=> ?_) (fun c=> ?_)
 ·have hx:xs≠[]:=fun e=>by subst e;exact absurd c (by decide)
  have xl:xs.length<=10:=by
   have:=HI.sub.length_le
   rw[Py]at this
   omega
  have hA':=hA.tbl sx ht0
  have hD':=sx _ _ (jd ht0 hD fun _ z=>nomatch z) hD
  refine⟨fun σ' vm=>∃m',m'<xs.length/\∃(xs hs:List Int) (h:Int) (b:Addr) (o5 o6:Option V),m'=xs.length/\σ'=[some (.ref a),some (.ref d),some (.ref l),some (.ref b),some (.int h),o5,o6]/\aB T H vm/\CQ vm T/\vm l=some (.lst (hs.map V.int))/\SqT K vm b (xs.map V.int)/\uy ts n.toNat (lH ts (oN n.toNat)) xs h hs,fun σ' vm z=>z,?_⟩
  refine⟨_,rfl,_,rfl,_,rfl,a,d,b,n,ts,xs,_,lH ts,rfl,hA'.web,hD',hB,hx,xl,fun p hp=> ?_,hLm,fun r p H3 s3 Sq hr hp hb=> ?_⟩
  ·rw[jK,ao ((fJ _ _).mpr ((lV _ _).trans HI.sub))]
  ·have Ly:=s3 _ _ nlT hl3
   have hB3:=yc s3 ht hB
   have pin:∀z∈p,0<=z/\z<(n.toNat:Int):=fun z hz=>by
    obtain⟨y,yr,rfl⟩:∃y yr,xs=y::yr:=by
     cases xs with
     |nil=>exact absurd rfl hx
     |cons y yr=>exact⟨y,yr,rfl⟩
    exact qZ.mp (HI.sub.subset ((jZ hp).1.subset hz))
   refine⟨_,rfl,r,_,rfl,hr,fun hz=> ?_⟩
   refine for_tup (K:=K) (a:=r) (xs:=p.map V.int) (fun i σ H'=>∃o6,σ=[some (.ref a),some (.ref d),some (.ref l),some (.ref b),some (.int h),some (.ref r),o6]/\aB l H3 H'/\H' l=some (.lst ((vL hs (p.take i) h).map V.int)))
    ⟨_,rfl,aB.refl _ _,Ly⟩ (fun i σ H' _ z=> ?_) (fun i x σ H4 YL z=> ?_) (fun σ H4 z=> ?_)
   ·obtain⟨_,_,z,_⟩:=z
    exact z.tup Ly hr
   ·obtain⟨o6,rfl,x4,h4⟩:=z
    rw[cg]at YL
    cases ex:p[i]? with
    |none=>rw[ex]at YL;cases YL
    |some y=>
     rw[ex]at YL
     cases YL
     have hy:=pin y (iZ ex)
     refine⟨_,rfl,_,rfl,_,rfl,l,_,y,y.toNat,rfl,rfl,h4,?_,_,rfl,x4.upd,?_⟩
     ·unfold ixN
      rw[ao hy.1,ao (by rw[aF,rY,HI.len];omega)]
     ·rw[aH,J8,rE,ex]
      unfold vL
      rw[Xi];rfl
   ·obtain⟨o6,rfl,x4,h4⟩:=z
    rw[aF,qe]at h4
    refine⟨_,rfl,_,rfl,b,r,xs,p,rfl,x4.tup Ly hB3,x4.tup Ly hr,fun b2 H5 s5 h5=> ?_⟩
    refine⟨_,rfl,_,_,rfl,rfl,?_⟩
    have xl2:aB l H3 H5:=x4.trans (s5.x l)
    have hL5:=(Sq.m9 x4 Ly).same s5
    refine⟨_,?_,wo xs p,vL hs p h,h+1,b2,_,_,rfl,rfl,fun c o nc e=> ?_,hL5,s5 _ _ h4,SqT.of h5,HI.step (by rw[show((n.toNat:Nat):Int)=n by omega];exact hA.pk) hx hp hb⟩
    ·obtain⟨y,yr,rfl⟩:∃y yr,xs=y::yr:=by
      cases xs with
      |nil=>exact absurd rfl hx
      |cons y yr=>exact⟨y,yr,rfl⟩
     exact Xr (jZ hp).2
    ·exact xl2 _ _ (fun z=>by rw[z,l00]at e;cases e) (s3 _ _ nc (sx _ _ nc e))
 ·have hx:xs=[]:=by
   cases xs with
   |nil=>rfl
   |cons y yr=>exact absurd rfl c
  subst hx
  refine⟨_,rfl,l,_,rfl,.inl ⟨SqL.of hl3,fun r hr=> ?_⟩⟩
  exact q r hs _ (sx.trans ((aV hr _).x T)) (hLm.same (aV hr _)) aH HI.done
def RT(K:W.Frag)(T:Addr):Sp:=fun vs H Q _=>∃(a:Addr) (n:Int) (ts:List (Int×Int)),vs=[.ref a]/\bA K H a n ts/\CQ H T/\
 ∀r h d hs H',aB T H H'->CQ H' T->H' r=some (.tup [.int (lH ts (oN n.toNat)),.ref h,.ref d])->H' h=some (.tup (hs.map V.int))->CV ts n.toNat (lH ts (oN n.toNat)) hs->H' d=some (.dT (qF (lH ts) (cU n.toNat)))->H d=none->Q (.ref r) H'
theorem Kq:FnScope ["web","floors"] ["web"] (defScope nH):=fsc
theorem Vd{f f1 f2 f3 T:Addr}{fd d1 d2 d3:FuncData}(F:Fun K "fewest" "fewest" nH f fd)(D1:bJ K mg "need_web" IV ["thing"] f1 d1)(G1:FnOk P w K mg base CX0 7 f1 d1 ["thing"] (cR K))(D2:bJ K mg "highest_floors" zcm ["web"] f2 d2)(G2:FnOk P w K mg base CX0 5 f2 d2 ["web"] (Dz K))(D3:bJ K mg "hues_by_floors" zcl ["web","floors"] f3 d3)(G3:FnOk P w K mg base CX0 6 f3 d3 ["web","floors"] (RX K T))(aZ:mg "tuple"=none)(aG:mg "range"=none):
  FnOk P w K mg base CX0 8 f fd ["web"] (RT K T):=by
 refine F.ok Kq (fun vs H Q E h=> ?_) (fun cdv A outer s H vs Q E hr h=> ?_)
 ·obtain⟨a,n,ts,rfl,_⟩:=h
  rfl
 obtain⟨a,n,ts,rfl,hA,hL,q⟩:=h
 refine⟨_,(aO (xP (pc G1 hr D1 (aj (pv 0) au))) (aO (cV (i:=1) Kq.nd rfl (Or.inl rfl) (pc G2 hr D2 (aj (pv 0) au))) (aX (cF (oG (aj (pe_dget (hu_of hr) (pv 1) (jU rfl rfl aZ rfl aG (aj (bB gQ (pv 0) aK (fun _ _=>rfl)) au)) (fun _ _=>rfl)) (aj (pc G3 hr D3 (aj (pv 0) (aj (pv 1) au))) (aj (pv 1) au)))))))),?_⟩
 refine⟨_,rfl,_,vB n ts,rfl,hA.web.dv.dx,hA.ok,fun H0 s0=> ?_⟩
 refine⟨_,rfl,a,n,ts,rfl,hA.same s0,fun d H1 s1 hd1 hd0=> ?_⟩
 have s01:=s0.trans s1
 obtain⟨t,rs,w1,w2,w3⟩:=id (hA.web.same s01)
 have hn0:=hA.h0
 have hn1:=hA.h1
 refine⟨_,rfl,_,rfl,a,_,_,.int n,rfl,rfl,w1,rfl,n,rfl,hn0,by omega,fun l hl=> ?_⟩
 have s2:=aV hl (.tup (cQ n.toNat))
 have hl2:(upd H1 l (.tup (cQ n.toNat))) l=some (.tup ((oN n.toNat).map V.int)):=by rw[aH,yd]
 have Kw:=s01.trans s2
 have hd2:=s2 _ _ hd1
 dsimp only at Kw hl2 hd2⊢
 generalize upd H1 l (.tup (cQ n.toNat))=H2 at *
 have G:=DGet.t (k:=(oN n.toNat).map Sum.inl) hd2 (by rw[keyV];exact hl2)
 rw[jK,ao ((fJ _ _).mpr (TQ _))]at G
 refine⟨d,_,rfl,G,_,rfl,_,rfl,a,d,n,ts,rfl,hA.same Kw,hd2,hL.same Kw,fun h hs H3 s3 Sq hh HO=> ?_⟩
 obtain⟨tb,ht⟩:=(hL.same Kw).at
 have hd3:=s3 _ _ (jd ht hd2 fun _ z=>nomatch z) hd2
 refine⟨_,rfl,(by show 3<=sizeLine;decide),fun r hr=> ?_⟩
 have s4:=aV hr (.tup [.int (lH ts (oN n.toNat)),.ref h,.ref d])
 exact q r h d hs _ (((Kw.x T).trans s3).trans (s4.x T)) (Sq.same s4) aH (s4 _ _ hh) HO (s4 _ _ hd3) (s0.free hd0)
end
end Hs
namespace L2
open PySem PySem.Spec PyProof.Rows
theorem M8{n:Nat}(h:n<=10^200):n<2^700:=xQ h (by decide+kernel)
theorem zU{i:Int}(h:i.natAbs<=10^200):Builtin.Int.intBits i<=2^20:=by
 refine bZ (intBits_le_iff.mpr (M8 h)) (by decide+kernel)
section
variable{X:Cx}
theorem qX:OpR X (binaryOp .Mult) (rI (fun i j=>i.natAbs<=10^200/\j.natAbs<=10^200) fun i j=> .int (i*j)):=
 opI fun i j _ _ _ _ _ hc q=>mul_int q (IntMulOk.of_bits (zU hc.1) (zU hc.2))
theorem yL:OpR X (binaryOp .FloorDiv) (rI (fun _ j=>0<j/\j.natAbs<=10^200) fun i j=> .int (i/j)):=opI fun i j _ _ _ _ _ hc q=>by
 have h1:(0:Int)<j:=hc.1
 refine floordiv_int (by omega) ?_ (Or.inl (wes ?_))
 ·rw[wec _ (by omega)]
  exact q
 ·have h3:j.natAbs≠0:=by omega
  have h4:=(Nat.log2_lt h3).mpr (M8 hc.2)
  omega
end
end L2
namespace Hs
open PySem L2 vh
theorem Ma(m n:Nat):Nat.gcd n (m %n)=Nat.gcd m n:=by
 rw[Nat.gcd_comm m n,Nat.gcd_rec n m,Nat.gcd_comm]
structure Low(a:Int)(b:Nat)(u:Int)(v:Nat):Prop where
 pos:0<v
 cop:Nat.gcd u.natAbs v=1
 eq:u*(b:Int)=a*(v:Int)
 lu:u.natAbs<=a.natAbs
 lv:v<=b
 nn:0<=a->0<=u
theorem Lk(a:Int)(b:Nat)(hb:0<b):Low a b (a/((Nat.gcd a.natAbs b:Nat):Int)) (b/Nat.gcd a.natAbs b):=by
 have hg:0<Nat.gcd a.natAbs b:=wfa _ hb
 obtain⟨x,hx⟩:((Nat.gcd a.natAbs b:Nat):Int)∣a:=Int.natAbs_dvd_natAbs.mp (by rw[Xk];exact Nat.gcd_dvd_left _ _)
 obtain⟨y,hy⟩:=Xh a.natAbs b
 generalize hgg:Nat.gcd a.natAbs b=g at *
 have e1:a/(g:Int)=x:=by rw[hx];exact weu _ (by omega)
 have e2:b/g=y:=by rw[hy];exact Oj _ hg
 rw[e1,e2]
 have hna:a.natAbs=g*x.natAbs:=by rw[hx,Te];rfl
 have hy0:0<y:=by
  rcases Wt y with h|h
  ·subst h;simp at hy;omega
  ·exact h
 refine⟨hy0,?_,?_,?_,?_,fun h=> ?_⟩
 ·have h2:Nat.gcd (g*x.natAbs) (g*y)=g:=by rw[<-hna,<-hy];exact hgg
  rw[Nat.gcd_mul_left]at h2
  have h3:g*Nat.gcd x.natAbs y=g*1:=by omega
  exact Nat.eq_of_mul_eq_mul_left hg h3
 ·rw[hx]
  have:(b:Int)=(g:Int)*(y:Int):=by rw[hy];exact Tf _ _
  rw[this,Ii (g:Int) x,Td]
 ·rw[hna];exact wfx _ hg
 ·rw[hy];exact wfx _ hg
 ·rw[<-e1];exact wgh h (by omega)
theorem abs_eq(i:Int):(if i<0 then -i else i)=((i.natAbs:Nat):Int):=by split<;>omega
theorem VD(a:Int)(b:Nat)(hb:0<b):Nat.gcd a.natAbs b<=b:=wfi hb (Xh _ _)
section
variable{P:Program}{w:World}{K:W.Frag}{mg:Str->Option Value}{base:Heap}
def T9(K:W.Frag):Sp:=fun vs H Q _=>∃(m n:Nat),vs=[.int m,.int n]/\Q (.int ((Nat.gcd m n:Nat):Int)) H
theorem Ed:FnScope ["one","other","rest"] ["one","other"] (defScope Xe):=fsc
theorem Ym{f:Addr}{fd:FuncData}(F:Fun K "greatest_divisor" "greatest_divisor" Xe f fd):FnOk P w K mg base CX0 1 f fd ["one","other"] (T9 K):=by
 refine F.ok Ed (fun vs H Q E h=> ?_) (fun cdv A outer s H vs Q E hr h=> ?_)
 ·obtain⟨m,n,rfl,_⟩:=h
  rfl
 obtain⟨m,n,rfl,q⟩:=h
 refine⟨_,aO (ps_while tX (pt_truth (pv 1) (fun _=>rfl)) (aO (cV (i:=2) Ed.nd rfl (Or.inl rfl) (bN op_mod (pv 0) (pv 1))) (aO (cV (i:=0) Ed.nd rfl (Or.inl rfl) (pv 1)) (aX (cV (i:=1) Ed.nd rfl (Or.inl rfl) (pv 2)))))) (aX (cF (pv 0))),?_⟩
 refine⟨fun k σ H'=>H'=H/\∃(m':Nat) (r:Option V),σ=[some (.int (m':Int)),some (.int (k:Int)),r]/\Nat.gcd m' k=Nat.gcd m n,⟨n,rfl,m,_,rfl,rfl⟩,?_⟩
 rintro k σ H' ⟨rfl,m',r,rfl,hg⟩
 refine⟨_,rfl,_,rfl,?_⟩
 refine ite2 (fun c=> ?_) (fun c=> ?_)
 ·have hk:0<k:=by
   rcases Wt k with h|h
   ·subst h;exact absurd c (by decide)
   ·exact h
  refine⟨fun σ' H2=>H2=H'/\∃r',σ'=[some (.int (k:Int)),some (.int ((m' %k:Nat):Int)),r'],fun σ' H2 ⟨e1,r',e2⟩=>⟨m' %k,Nat.mod_lt _ hk,e1,k,r',e2,?_⟩,?_⟩
  ·rw[Ma];exact hg
  ·exact⟨_,rfl,_,rfl,_,_,rfl,rfl,Int.ofNat_lt.mpr hk,_,rfl,_,rfl,rfl,_,rfl⟩
 ·have hk:k=0:=by
   rcases Wt k with h|h
   ·exact h
   ·exfalso;apply c;show((k:Int) !=0)=true;simp;omega
  subst hk
  rw[Nat.gcd_zero_right]at hg
  refine⟨_,rfl,?_⟩
  rw[hg];exact q
def ql(K:W.Frag):Sp:=fun vs H Q _=>∃(a:Int) (b:Nat),vs=[.int a,.int b]/\0<b/\b<=10^200/\∀p H' u v,Same H H'->H' p=some (.tup [.int u,.int ((v:Nat):Int)])->Low a b u v->Q (.ref p) H'
theorem Ko:FnScope ["a","b","by"] ["a","b"] (defScope Nv):=fsc
theorem Qt{H:Hp}{a:Int}{b:Nat}{p:Addr}(hp:H p=none):(upd H p (.tup [.int (a/((Nat.gcd a.natAbs b:Nat):Int)),.int ((b:Int)/((Nat.gcd a.natAbs b:Nat):Int))])) p=some (.tup [.int (a/((Nat.gcd a.natAbs b:Nat):Int)),.int (((b/Nat.gcd a.natAbs b:Nat)):Int)]):=by
 rw[aH,wfs]
theorem Va{f f1:Addr}{fd d1:FuncData}(F:Fun K "lowest" "lowest" Nv f fd)(D1:bJ K mg "greatest_divisor" Xe ["one","other"] f1 d1)(G1:FnOk P w K mg base CX0 1 f1 d1 ["one","other"] (T9 K))(mA:mg "abs"=none):
  FnOk P w K mg base CX0 2 f fd ["a","b"] (ql K):=by
 refine F.ok Ko (fun vs H Q E h=> ?_) (fun cdv A outer s H vs Q E hr h=> ?_)
 ·obtain⟨m,n,rfl,_⟩:=h
  rfl
 obtain⟨a,b,rfl,hb,hB,q⟩:=h
 refine⟨_,aO (cV (i:=2) Ko.nd rfl (Or.inl rfl) (pc G1 hr D1 (aj (fM call_abs rfl mA (by decide+kernel) (aj (pv 0) au)) (aj (pv 1) au)))) (aX (cF (oG (aj (bN yL (pv 0) (pv 2)) (aj (bN yL (pv 1) (pv 2)) au))))),?_⟩
 refine⟨_,rfl,a,rfl,_,rfl,a.natAbs,b,?_,?_⟩
 ·rw[abs_eq];rfl
 have hg:0<Nat.gcd a.natAbs b:=wfa _ hb
 have hg2:(((Nat.gcd a.natAbs b:Nat):Int)).natAbs<=10^200:=bZ (VD a b hb) hB
 refine⟨_,rfl,_,rfl,_,_,rfl,rfl,⟨Int.ofNat_lt.mpr hg,hg2⟩,_,rfl,_,rfl,_,_,rfl,rfl,⟨Int.ofNat_lt.mpr hg,hg2⟩,(by show 2<=sizeLine;decide),fun p hp=> ?_⟩
 exact q p _ _ _ (aV hp _) (Qt hp) (Lk a b hb)
def aQ(n:Nat)(X:Nat->Int):List V:=((List.range (n+1)).map X).map V.int
def bR(n:Nat)(c:Nat->Nat):List Int:=(List.range n).map fun k=>((c k:Nat):Int)
def flds(cl co ro:Addr)(o:Int):List (Str×V):=[("cells",.ref cl),("over",.int o),("columns",.ref co),("rows",.ref ro)]
structure cB(K:W.Frag)(C:Addr)(H0 H:Hp)(o dx cl co ro:Addr)(rws:List Addr)(n m:Nat)(T:Sx.Tab):Prop where
 same:Same H0 H
 o0:H0 o=none
 Wa:H0 cl=none
 Sy:H0 co=none
 R0:H0 ro=none
 ne:co≠ro
 nc:co∉rws
 nr:ro∉rws
 at_:H o=some (.ins C dx (flds cl co ro T.over))
 cells:H cl=some (.lst (rws.map V.ref))
 len:rws.length=m+1
 row:∀r a,rws[r]? =some a->H a=some (.lst (aQ n (T.cell r)))
 cols:H co=some (.lst ((bR n T.col).map V.int))
 rows:H ro=some (.lst ((bR m T.row).map V.int))
def j5(K:W.Frag)(C:Addr)(H0 H:Hp)(o:Addr)(n m:Nat)(T:Sx.Tab):Prop:=∃dx cl co ro rws,cB K C H0 H o dx cl co ro rws n m T
theorem cB.sm{C:Addr}{H0 H H':Hp}{o dx cl co ro:Addr}{rws:List Addr}{n m:Nat}{T:Sx.Tab}(h:cB K C H0 H o dx cl co ro rws n m T)(s:Same H H'):cB K C H0 H' o dx cl co ro rws n m T:=
 ⟨h.same.trans s,h.o0,h.Wa,h.Sy,h.R0,h.ne,h.nc,h.nr,s _ _ h.at_,s _ _ h.cells,h.len,fun r a e=>s _ _ (h.row r a e),s _ _ h.cols,s _ _ h.rows⟩
theorem j5.sm{C:Addr}{H0 H H':Hp}{o:Addr}{n m:Nat}{T:Sx.Tab}(h:j5 K C H0 H o n m T)(s:Same H H'):j5 K C H0 H' o n m T:=by
 obtain⟨dx,cl,co,ro,rws,h⟩:=h
 exact⟨dx,cl,co,ro,rws,h.sm s⟩
structure TG(n m:Nat)(S:Nat->Nat->Bool)(wt:Nat->Int)(T:Sx.Tab):Prop where
 good:Sx.Good n m S wt T
 n10:n<=10
 Yz:m<=40
 wb:∀p,p<n->0<=wt p/\wt p<=99
 cov:∀p,p<n->∃k,k<m/\S k p=true
theorem TG.cell{n m:Nat}{S:Nat->Nat->Bool}{wt:Nat->Int}{T:Sx.Tab}(h:TG n m S wt T){r c:Nat}(hr:r<=m)(hc:c<=n): -4000000000<=T.cell r c/\T.cell r c<=4000000000:=by
 have a:=h.good.M6 h.wb hr hc
 have b:=Sx.Mx (k:=n+1) (by have:=h.n10;omega)
 omega
theorem TG.over{n m:Nat}{S:Nat->Nat->Bool}{wt:Nat->Int}{T:Sx.Tab}(h:TG n m S wt T):0<T.over/\T.over<=39916800:=by
 have a:=h.good.PN
 have b:=Sx.Mx (k:=n+1) (by have:=h.n10;omega)
 exact⟨h.good.pos,by omega⟩
theorem Fy(n:Nat)(X:Nat->Int):(aQ n X).length=n+1:=by unfold aQ;rw[aF,aF,tW]
theorem nJ{n c:Nat}(X:Nat->Int)(h:c<=n):(aQ n X)[c]? =some (.int (X c)):=by
 unfold aQ;rw[cg,cg,Ru (by omega)];rfl
theorem eY{n c:Nat}(X:Nat->Int)(h:c<=n):atI (aQ n X) (c:Int)=some (.int (X c)):=atI_nat (nJ X h)
theorem atI_last{xs:List V}{v:V}(h:xs[xs.length-1]? =some v)(h0:0<xs.length):atI xs (-1)=some v:=by
 have e:ixN xs.length (-1)=some (xs.length-1):=by
  unfold ixN
  rw[ak (by decide),ao (by omega)]
  congr 1
  omega
 unfold atI
 rw[e]
 exact h
theorem oY(n:Nat)(X:Nat->Int):atI (aQ n X) (-1)=some (.int (X n)):=atI_last (by rw[Fy];exact nJ X (aJ n)) (by rw[Fy];omega)
theorem Fz(n:Nat)(c:Nat->Nat):(bR n c).length=n:=by unfold bR;rw[aF,tW]
theorem Di{n k:Nat}(c:Nat->Nat)(h:k<n):(bR n c)[k]? =some ((c k:Nat):Int):=by
 unfold bR;rw[cg,Ru h];rfl
theorem nQ{n k:Nat}(c:Nat->Nat)(h:k<n):atI ((bR n c).map V.int) (k:Int)=some (.int ((c k:Nat):Int)):=atI_nat (by rw[cg,Di c h];rfl)
theorem uQ{n k:Nat}(c:Nat->Nat)(v:Nat)(h:k<n):(bR n c).set k (v:Int)=bR n (fun i=>if i=k then v else c i):=by
 refine wcz fun i=> ?_
 rw[wdc]
 by_cases hi:i<n
 ·rw[Di _ hi,Di _ hi,Fz]
  by_cases e:k=i
  ·rw[ao e,ao h,ao e.symm]
  ·rw[ak e,ak (lO e)]
 ·rw[Wv (by rw[Fz];omega),Wv (by rw[Fz];omega),ak (by omega)]
theorem cB.Gk{C:Addr}{H0 H:Hp}{o dx cl co ro:Addr}{rws:List Addr}{n m:Nat}{T:Sx.Tab}(h:cB K C H0 H o dx cl co ro rws n m T){r:Nat}(hr:r<=m):∃a,rws[r]? =some a/\atI (rws.map V.ref) (r:Int)=some (.ref a)/\H a=some (.lst (aQ n (T.cell r))):=by
 have hl:=h.len
 have e:rws[r]? =some rws[r]:=gH (by omega)
 exact⟨rws[r],e,atI_nat (by rw[cg,e];rfl),h.row r _ e⟩
theorem cB.Yg{C:Addr}{H0 H:Hp}{o dx cl co ro:Addr}{rws:List Addr}{n m:Nat}{T:Sx.Tab}(h:cB K C H0 H o dx cl co ro rws n m T):∃a,rws[m]? =some a/\atI (rws.map V.ref) (-1)=some (.ref a)/\H a=some (.lst (aQ n (T.cell m))):=by
 obtain⟨a,e,_,f⟩:=h.Gk (aJ m)
 exact⟨a,e,atI_last (by rw[aF,h.len,cg,Nat.add_sub_cancel,e];rfl) (by rw[aF,h.len];omega),f⟩
def JH(K:W.Frag)(C:Addr):Sp:=fun vs H Q _=>∃(o:Addr) (H0:Hp) (n m:Nat) (S:Nat->Nat->Bool) (wt:Nat->Int) (T:Sx.Tab),vs=[.ref o]/\j5 K C H0 H o n m T/\TG n m S wt T/\
 ((∀c,c<n->0<=T.cell m c)->∀H',Same H H'->Q .non H')/\∀(q:Nat) H',q<n->T.cell m q<0->(∀c,c<n->T.cell m c<0->T.col q<=T.col c)->Same H H'->Q (.int (q:Int)) H'
theorem Bj:FnScope ["self","worth","names"] ["self"] (defScope zbb):=fsc
theorem U6{f C:Addr}{fd:FuncData}(F:Fun K "next_column" "Tableau.next_column" zbb f fd)
  (Cc:Cls K C)(aR:NoAttr K C "cells")(dD:NoAttr K C "over")(aP:NoAttr K C "columns")(cA:NoAttr K C "rows")(cJ:mg "enumerate"=none)(yR:mg "min"=none):
  FnOk P w K mg base CX0 1 f fd ["self"] (JH K C):=by
 refine F.ok Bj (fun vs H Q E h=> ?_) (fun cdv A outer s H vs Q E hr h=> ?_)
 ·obtain⟨o,H0,n,m,S,wt,T,rfl,_⟩:=h
  rfl
 obtain⟨o,H0,n,m,S,wt,T,rfl,⟨dx,cl,co,ro,rws,hT⟩,hG,q1,q2⟩:=h
 refine⟨_,(aO (cV (i:=1) Bj.nd rfl (Or.inr rfl) (bB jJ (oO (pv 0) rfl) (pe_un un_neg aK) (fun _ _=>rfl))) (aO (SX (i:=2) (own:=["k","name"]) (caps:=["worth"]) (ix:=[1]) Bj.nd rfl (Or.inl rfl) rfl (qW rfl cJ (aj (oO (pv 0) rfl) au)) rfl rfl (.cons rfl rfl .nil) (fun _ _ _ _ _=>(iu K (n:=2) rfl (tV (cY (i:=0) (show(["k","name","worth"]:List Str).Nodup from by decide+kernel) rfl (Or.inl rfl)) (tV (cY (i:=1) (show(["k","name","worth"]:List Str).Nodup from by decide+kernel) rfl (Or.inl rfl)) pgs_nil)))) (fun _ _ _ _ _=>fj (kj op_lt (bB (jY K) (pv 2) (pv 0) (fun _ _=>rfl)) aK (nomark _))) (fun _ _ _ _ _=>(pv 1))) (aX (cF (pe_ifExp (pt_truth (pv 2) (fun _=>rfl)) (pe_bm RD wcs wct pq (oO (pv 0) rfl) (aj (fM (u9 rfl) rfl yR (by decide+kernel) (aj (pv 2) au)) au)) pe_non))))),?_⟩
 obtain⟨za,ze,zi,zr⟩:=hT.Yg
 refine⟨_,rfl,o,C,dx,_,_,rfl,hT.at_,Cc,aR,rfl,_,rfl,cl,_,_,_,rfl,rfl,SqL.of hT.cells,zi,?_⟩
 refine⟨_,rfl,o,C,dx,_,_,rfl,hT.at_,Cc,aP,rfl,false,co,_,rfl,SqL.of hT.cols,fun hz=> ?_⟩
 refine pG (K:=K) (b:=false) (a:=co) (xs:=(bR n T.col).map V.int) (fun i acc σ H'=>acc=(((List.range i).filter fun c=>decide (T.cell m c<0)).map fun c=>((T.col c:Nat):Int)).map V.int/\Same H H'/\∃o1 o2,σ=[o1,o2,some (.ref za)]) ⟨rfl,Same.refl _,_,_,rfl⟩ (fun i acc σ H' _ p=>p.2.1.seq (SqL.of hT.cols)) (fun i acc σ H' _ p=> ?_) hz (fun i v t acc σ H' hv p ht=> ?_) (fun acc σ H' p=> ?_)
 ·rw[p.1,aF,aF]
  exact bZ (xR _ _) (by rw[tW];exact aJ _)
 ·obtain⟨rfl,sm,o1,o2,rfl⟩:=p
  have hi:i<n:=by
   have:=(lC.mp hv).1
   rw[aF,Fz]at this
   exact this
  rw[cg,Di _ hi]at hv
  cases hv
  have s1:=aV ht (.tup [.int (i:Int),.int ((T.col i:Nat):Int)])
  refine⟨t,_,rfl,SqT.of aH,rfl,_,_,rfl,_,_,rfl,rfl,?_⟩
  refine⟨_,rfl,_,rfl,za,_,_,_,rfl,rfl,SqL.of ((sm.trans s1) _ _ zr),eY _ (dH hi),_,_,rfl,rfl,_,rfl,?_⟩
  have go:((List.range (i+1)).filter fun c=>decide (T.cell m c<0))=((List.range i).filter fun c=>decide (T.cell m c<0))++(if decide (T.cell m i<0)=true then[i]else[]):=by
   rw[vq,Ti]
   congr 1
   rw[Og]
   split<;>rfl
  refine ite2 (fun c=> ?_) (fun c=> ?_)
  ·exact⟨_,rfl,by rw[go,ao c,bQ,bQ];rfl,sm.trans s1,_,_,rfl⟩
  ·exact⟨by rw[go,ak c,uF],sm.trans s1,_,_,rfl⟩
 ·intro p1 hp1
  obtain⟨rfl,sm,_⟩:=p
  rw[aF,Fz]
  have s1:=aV hp1 (.lst ((((List.range n).filter fun c=>decide (T.cell m c<0)).map fun c=>((T.col c:Nat):Int)).map V.int))
  have e1:(upd H' p1 (.lst ((((List.range n).filter fun c=>decide (T.cell m c<0)).map fun c=>((T.col c:Nat):Int)).map V.int))) p1=some (.lst ((((List.range n).filter fun c=>decide (T.cell m c<0)).map fun c=>((T.col c:Nat):Int)).map V.int)):=aH
  have s2:=sm.trans s1
  generalize (upd H' p1 (.lst ((((List.range n).filter fun c=>decide (T.cell m c<0)).map fun c=>((T.col c:Nat):Int)).map V.int)))=H1 at *
  have hT1:=hT.sm s2
  refine⟨_,rfl,_,.inl ⟨_,SqL.of e1,rfl⟩,?_⟩
  cases hl:(List.range n).filter fun c=>decide (T.cell m c<0)with
  |nil=>
   refine iteF ?_
   refine q1 (fun c hc=>Int.not_lt.mp fun hn=> ?_) _ s2
   have:c∈(List.range n).filter fun c=>decide (T.cell m c<0):=fV.mpr ⟨tZ.mpr hc,gb hn⟩
   rw[hl]at this
   cases this
  |cons c0 rest=>
   rw[hl]at e1
   refine iteT ?_
   refine⟨_,rfl,o,C,dx,_,_,rfl,hT1.at_,Cc,aP,rfl,.inl ⟨rfl,_,SqL.of hT1.cols⟩,_,rfl,p1,_,rfl,SqL.of e1,(fun e=>nomatch e),fun mn hmn hle=> ?_⟩
   rw[<-hl]at hmn hle
   obtain⟨c,hc,rfl⟩:=iV.mp hmn
   obtain⟨hc1,hc2⟩:=fV.mp hc
   have hcn:=tZ.mp hc1
   refine⟨co,bR n T.col,_,c,rfl,rfl,hT1.cols,Di _ hcn,fun i hi e=> ?_,by rw[Fz];have:=hG.n10;omega,?_⟩
   ·rw[Di _ (by omega)]at e
    have:T.col i=T.col c:=XH (rH e)
    have:=hG.good.Cp i c (by omega) hcn this
    omega
   ·refine q2 c _ hcn (xT hc2) (fun c' hc' hn=> ?_) s2
    have:=hle _ (iV.mpr ⟨c',fV.mpr ⟨tZ.mpr hc',gb hn⟩,rfl⟩)
    omega
def WK(n q:Nat)(T:Sx.Tab)(r t:Nat):Bool:=decide (T.cell r n*T.cell t q<T.cell t n*T.cell r q)||(decide (T.cell r n*T.cell t q=T.cell t n*T.cell r q)&&decide (T.row r<T.row t))
def RL(K:W.Frag)(C:Addr):Sp:=fun vs H Q _=>∃(o:Addr) (H0:Hp) (n m q r t:Nat) (S:Nat->Nat->Bool) (wt:Nat->Int) (T:Sx.Tab),vs=[.ref o,.int (q:Int),.int (r:Int),.int (t:Int)]/\j5 K C H0 H o n m T/\TG n m S wt T/\q<n/\r<m/\t<m/\Q (.bl (WK n q T r t)) H
theorem Bf:FnScope ["self","column","row","other","one","two"] ["self","column","row","other"] (defScope zbg):=fsc
theorem UL{f C:Addr}{fd:FuncData}(F:Fun K "is_tighter" "Tableau.is_tighter" zbg f fd)
  (Cc:Cls K C)(aR:NoAttr K C "cells")(dD:NoAttr K C "over")(aP:NoAttr K C "columns")(cA:NoAttr K C "rows"):
  FnOk P w K mg base CX0 1 f fd ["self","column","row","other"] (RL K C):=by
 refine F.ok Bf (fun vs H Q E h=> ?_) (fun cdv A outer s H vs Q E hr h=> ?_)
 ·obtain⟨o,H0,n,m,q,r,t,S,wt,T,rfl,_⟩:=h
  rfl
 obtain⟨o,H0,n,m,q,r,t,S,wt,T,rfl,⟨dx,cl,co,ro,rws,hT⟩,hG,hq,hr0,ht,qq⟩:=h
 refine⟨_,(aO (cV (i:=4) Bf.nd rfl (Or.inl rfl) (bN p8 (bB jJ (bB jJ (oO (pv 0) rfl) (pv 2) (fun _ _=>rfl)) (pe_un un_neg aK) (fun _ _=>rfl)) (bB jJ (bB jJ (oO (pv 0) rfl) (pv 3) (fun _ _=>rfl)) (pv 1) (fun _ _=>rfl)))) (aO (cV (i:=5) Bf.nd rfl (Or.inl rfl) (bN p8 (bB jJ (bB jJ (oO (pv 0) rfl) (pv 3) (fun _ _=>rfl)) (pe_un un_neg aK) (fun _ _=>rfl)) (bB jJ (bB jJ (oO (pv 0) rfl) (pv 2) (fun _ _=>rfl)) (pv 1) (fun _ _=>rfl)))) (aX (cF (pe_or (pe_cmpR op_lt (pv 4) (pv 5) (nomark _)) (pe_one (pe_and (pe_cmpR op_eq (pv 4) (pv 5) (nomark _)) (pe_one (pe_cmpR op_lt (bB jJ (oO (pv 0) rfl) (pv 2) (fun _ _=>rfl)) (bB jJ (oO (pv 0) rfl) (pv 3) (fun _ _=>rfl)) (nomark _)))))))))),?_⟩
 obtain⟨ra,re,ri,rr⟩:=hT.Gk (dH hr0)
 obtain⟨ta,te,ti,tr⟩:=hT.Gk (dH ht)
 have b1:=hG.cell (dH hr0) (aJ n)
 have b2:=hG.cell (dH ht) (aJ n)
 refine⟨_,rfl,o,C,dx,_,_,rfl,hT.at_,Cc,aR,rfl,_,rfl,cl,_,_,_,rfl,rfl,SqL.of hT.cells,ri,_,rfl,ra,_,_,_,rfl,rfl,SqL.of rr,oY _ _,?_⟩
 refine⟨_,rfl,o,C,dx,_,_,rfl,hT.at_,Cc,aR,rfl,_,rfl,cl,_,_,_,rfl,rfl,SqL.of hT.cells,ti,_,rfl,ta,_,_,_,rfl,rfl,SqL.of tr,eY _ (dH hq),_,_,rfl,rfl,.inl ⟨by omega,by omega⟩,?_⟩
 refine⟨_,rfl,o,C,dx,_,_,rfl,hT.at_,Cc,aR,rfl,_,rfl,cl,_,_,_,rfl,rfl,SqL.of hT.cells,ti,_,rfl,ta,_,_,_,rfl,rfl,SqL.of tr,oY _ _,?_⟩
 refine⟨_,rfl,o,C,dx,_,_,rfl,hT.at_,Cc,aR,rfl,_,rfl,cl,_,_,_,rfl,rfl,SqL.of hT.cells,ri,_,rfl,ra,_,_,_,rfl,rfl,SqL.of rr,eY _ (dH hq),_,_,rfl,rfl,.inl ⟨by omega,by omega⟩,?_⟩
 refine⟨_,rfl,_,rfl,_,_,rfl,rfl,_,rfl,?_⟩
 unfold WK at qq
 refine ite2 (fun c=> ?_) (fun c=> ?_)
 ·rw[c,Bool.true_or]at qq;exact qq
 ·rw[eq_false_of_ne_true c,wgt]at qq
  refine⟨_,rfl,_,rfl,rfl,_,rfl,?_⟩
  refine ite2 (fun c2=> ?_) (fun c2=> ?_)
  ·have c2':decide (T.cell r n*T.cell t q=T.cell t n*T.cell r q)=true:=gb (V.int.inj (xT c2))
   rw[c2',wgv]at qq
   refine⟨_,rfl,o,C,dx,_,_,rfl,hT.at_,Cc,cA,rfl,_,rfl,ro,_,_,_,rfl,rfl,SqL.of hT.rows,nQ _ hr0,?_⟩
   refine⟨_,rfl,o,C,dx,_,_,rfl,hT.at_,Cc,cA,rfl,_,rfl,ro,_,_,_,rfl,rfl,SqL.of hT.rows,nQ _ ht,_,_,rfl,rfl,?_⟩
   rw[<-show decide (((T.row r:Nat):Int)<((T.row t:Nat):Int))=decide (T.row r<T.row t)from decide_eq_decide.mpr Int.ofNat_lt]at qq
   exact qq
  ·have c2':decide (T.cell r n*T.cell t q=T.cell t n*T.cell r q)=false:=iY fun e=>c2 (gb (jy V.int e))
   rw[c2',Bool.false_and]at qq
   exact qq
def SN(n q:Nat)(T:Sx.Tab)(p r:Nat):Prop:=T.cell p n*T.cell r q<T.cell r n*T.cell p q\/(T.cell p n*T.cell r q=T.cell r n*T.cell p q/\T.row p<=T.row r)
theorem Hh{n q:Nat}{T:Sx.Tab}{a b c:Nat}(ha:0<T.cell a q)(hb:0<T.cell b q)(hc:0<T.cell c q)(h1:SN n q T a b)(h2:SN n q T b c):SN n q T a c:=by
 have cm:∀x y:Nat,T.cell x n*T.cell y q=T.cell y q*T.cell x n:=fun x y=>Ii _ _
 have cn:∀x y:Nat,T.cell y n*T.cell x q=T.cell x q*T.cell y n:=fun x y=>Ii _ _
 unfold SN at *
 rw[cm a b,cn a b]at h1
 rw[cm b c,cn b c]at h2
 rw[cm a c,cn a c]
 rcases h1 with h1|⟨h1,l1⟩
 ·rcases h2 with h2|⟨h2,_⟩
  ·exact .inl (Sx.wK hb ha hc (Ih h1) h2)
  ·exact .inl (Sx.zB hb ha hc h1 (Xz h2))
 ·rcases h2 with h2|⟨h2,l2⟩
  ·exact .inl (Sx.wK hb ha hc (Xz h1) h2)
  ·exact .inr ⟨Int.le_antisymm (Sx.wL hb ha hc (Xz h1) (Xz h2)) (Sx.wL hb hc ha (by rw[<-h2];exact uE _) (by rw[<-h1];exact uE _)),bZ l1 l2⟩
theorem T7{n q:Nat}{T:Sx.Tab}{r t:Nat}(h:WK n q T r t=true):SN n q T r t:=by
 unfold WK at h
 rw[wgi,vD]at h
 rcases h with h|⟨h1,h2⟩
 ·exact .inl (xT h)
 ·exact .inr ⟨xT h1,dH (xT h2)⟩
theorem X5{n q:Nat}{T:Sx.Tab}{r t:Nat}(h:WK n q T r t=false):SN n q T t r:=by
 unfold WK at h
 rw[Bool.or_eq_false_iff,Bool.and_eq_false_iff]at h
 have h1:=TY h.1
 by_cases c:T.cell r n*T.cell t q=T.cell t n*T.cell r q
 ·refine .inr ⟨c.symm,?_⟩
  rcases h.2 with z|z
  ·exact absurd c (TY z)
  ·exact Nat.not_lt.mp (TY z)
 ·exact .inl (by omega)
def RN(K:W.Frag)(C:Addr):Sp:=fun vs H Q _=>∃(o:Addr) (H0:Hp) (n m q:Nat) (S:Nat->Nat->Bool) (wt:Nat->Int) (T:Sx.Tab),vs=[.ref o,.int (q:Int)]/\j5 K C H0 H o n m T/\TG n m S wt T/\q<n/\
 ∀p:Nat,p<m->0<T.cell p q->(∀r,r<m->0<T.cell r q->SN n q T p r)->Q (.int (p:Int)) H
theorem vN:FnScope ["self","column","tightest","row"] ["self","column"] (defScope zby):=fsc
theorem U5{f f1 C:Addr}{fd d1:FuncData}(F:Fun K "next_row" "Tableau.next_row" zby f fd)
  (Cc:Cls K C)(aR:NoAttr K C "cells")(dD:NoAttr K C "over")(aP:NoAttr K C "columns")(cA:NoAttr K C "rows")(D1:HJ K C "is_tighter" "Tableau.is_tighter" zbg ["self","column","row","other"] f1 d1)(G1:FnOk P w K mg base CX0 1 f1 d1 ["self","column","row","other"] (RL K C))(aG:mg "range"=none)(bw:mg "len"=none):
  FnOk P w K mg base CX0 2 f fd ["self","column"] (RN K C):=by
 refine F.ok vN (fun vs H Q E h=> ?_) (fun cdv A outer s H vs Q E hr h=> ?_)
 ·obtain⟨o,H0,n,m,q,S,wt,T,rfl,_⟩:=h
  rfl
 obtain⟨o,H0,n,m,q,S,wt,T,rfl,⟨dx,cl,co,ro,rws,hT⟩,hG,hq,qq⟩:=h
 refine⟨_,(aO (cV (i:=2) vN.nd rfl (Or.inl rfl) pe_non) (aO (xM tX rfl (Ia rfl aG (aj (fM qd rfl bw oU (aj (oO (pv 0) rfl) au)) au)) (cY (i:=3) vN.nd rfl (Or.inl rfl)) (aX (mY (PW.pt (pw_and (kj op_gt (bB jJ (bB jJ (oO (pv 0) rfl) (pv 3) (fun _ _=>rfl)) (pv 1) (fun _ _=>rfl)) aK (nomark _)) (pw_and1 (PW.pt (pw_or (kj op_isN (pv 2) pe_non (nomark _)) (pw_or1 (uD (pe_meth (pv 0) Cc D1.m G1 hr D1.b .nil pass0 (aj (pv 1) (aj (pv 3) (aj (pv 2) au))))))))))) (aX (cV (i:=2) vN.nd rfl (Or.inl rfl) (pv 3))) oJ))) (aX (cF (pv 2))))),?_⟩
 refine⟨_,rfl,o,C,dx,_,_,rfl,hT.at_,Cc,cA,rfl,ro,_,rfl,.inl (SqL.of hT.rows),fun _=> ?_⟩
 rw[aF,Fz]
 refine⟨_,rfl,by have:=hG.Yz;omega,by have:=hG.Yz;omega,?_⟩
 refine for_range (n:=m) (fun i σ H'=>H'=H/\∃(x:V) (o3:Option V),σ=[some (.ref o),some (.int (q:Int)),some x,o3]/\((x= .non/\∀r,r<i->T.cell r q<=0)\/∃p:Nat,p<i/\x= .int (p:Int)/\0<T.cell p q/\∀r,r<i->0<T.cell r q->SN n q T p r)) ⟨rfl,_,_,rfl,.inl ⟨rfl,fun r hr=>absurd hr (Ro r)⟩⟩ (fun i σ H' hi p=> ?_) (fun σ H' p=> ?_)
 ·obtain⟨rfl,x,o3,rfl,hx⟩:=p
  rw[wgf]
  obtain⟨ra,re,ri,rr⟩:=hT.Gk (dH hi)
  refine⟨_,rfl,o,C,dx,_,_,rfl,hT.at_,Cc,aR,rfl,_,rfl,cl,_,_,_,rfl,rfl,SqL.of hT.cells,ri,_,rfl,ra,_,_,_,rfl,rfl,SqL.of rr,eY _ (dH hq),_,_,rfl,rfl,_,rfl,?_⟩
  refine ite2 (fun c=> ?_) (fun c=> ?_)
  ·have c':0<T.cell i q:=xT c
   rcases hx with⟨rfl,hx⟩|⟨p,hp,rfl,hp0,hlev⟩
   ·refine⟨_,rfl,rfl,_,rfl,?_⟩
    refine iteT ?_
    refine iteT ?_
    refine⟨_,rfl,rfl,_,_,rfl,.inr ⟨i,oR i,rfl,c',fun r hr h0=> ?_⟩⟩
    by_cases e:r=i
    ·subst e;exact .inr ⟨rfl,aJ _⟩
    ·have:=hx r (by omega);omega
   ·refine⟨_,rfl,rfl,_,rfl,?_⟩
    refine iteF ?_
    refine⟨_,rfl,o,dx,_,rfl,hT.at_,rfl,_,rfl,_,rfl,_,rfl,o,H0,n,m,q,i,p,S,wt,T,rfl,⟨dx,cl,co,ro,rws,hT⟩,hG,hq,hi,by omega,_,rfl,?_⟩
    refine ite2 (fun z=> ?_) (fun z=> ?_)
    ·refine⟨_,rfl,rfl,_,_,rfl,.inr ⟨i,oR i,rfl,c',fun r hr h0=> ?_⟩⟩
     by_cases e:r=i
     ·subst e;exact .inr ⟨rfl,aJ _⟩
     ·exact Hh c' hp0 h0 (T7 z) (hlev r (by omega) h0)
    ·refine⟨rfl,_,_,rfl,.inr ⟨p,by omega,rfl,hp0,fun r hr h0=> ?_⟩⟩
     by_cases e:r=i
     ·subst e;exact X5 (eq_false_of_ne_true z)
     ·exact hlev r (by omega) h0
  ·refine iteF ?_
   have c':T.cell i q<=0:=Int.not_lt.mp fun h=>c (gb h)
   refine⟨rfl,_,_,rfl,?_⟩
   rcases hx with⟨rfl,hx⟩|⟨p,hp,rfl,hp0,hlev⟩
   ·refine .inl ⟨rfl,fun r hr=> ?_⟩
    by_cases e:r=i
    ·subst e;exact c'
    ·exact hx r (by omega)
   ·refine .inr ⟨p,by omega,rfl,hp0,fun r hr h0=> ?_⟩
    by_cases e:r=i
    ·subst e;omega
    ·exact hlev r (by omega) h0
 ·obtain⟨rfl,x,o3,rfl,hx⟩:=p
  rcases hx with⟨rfl,hx⟩|⟨p,hp,rfl,hp0,hlev⟩
  ·obtain⟨r,hr0,h0⟩:=hG.good.bounded hG.cov hq
   have:=hx r hr0
   omega
  ·exact⟨_,rfl,qq p hp hp0 hlev⟩
def tdF(ov:Int)(X Y:Nat->Int)(q c:Nat):Int:=if c=q then -X q else(X c*Y q-X q*Y c)/ov
theorem yF{n q:Nat}(X:Nat->Int)(v:Int)(h:q<=n):(aQ n X).set q (.int v)=aQ n fun c=>if c=q then v else X c:=by
 refine wcz fun i=> ?_
 rw[wdc]
 by_cases hi:i<=n
 ·rw[nJ _ hi,nJ _ hi,Fy]
  by_cases e:q=i
  ·rw[ao e,ao (by omega),ao e.symm]
  ·rw[ak e,ak (lO e)]
 ·rw[Wv (by rw[Fy];omega),Wv (by rw[Fy];omega),ak (by omega)]
theorem lZ{n:Nat}{X Y:Nat->Int}(h:∀c,c<=n->X c=Y c):aQ n X=aQ n Y:=by
 unfold aQ
 rw[Rt fun c hc=>h c (by have:=tZ.mp hc;omega)]
def RM(K:W.Frag)(C:Addr):Sp:=fun vs H Q _=>∃(o xa ya:Addr) (H0:Hp) (n m q:Nat) (X Y:Nat->Int) (T:Sx.Tab),vs=[.ref o,.ref xa,.ref ya,.int (q:Int)]/\j5 K C H0 H o n m T/\n<=10/\(0<T.over/\T.over<=39916800)/\q<=n/\H xa=some (.lst (aQ n X))/\H ya=some (.lst (aQ n Y))/\
 (∀c,c<=n->(-4000000000<=X c/\X c<=4000000000)/\(-4000000000<=Y c/\Y c<=4000000000))/\∀r H',Same H H'->H r=none->H' r=some (.lst (aQ n (tdF T.over X Y q)))->Q (.ref r) H'
theorem Bg:FnScope ["self","cells","pivots","column","by","fresh"] ["self","cells","pivots","column"] (defScope zcq):=fsc
theorem UW{f C:Addr}{fd:FuncData}(F:Fun K "turned" "Tableau.turned" zcq f fd)
  (Cc:Cls K C)(aR:NoAttr K C "cells")(dD:NoAttr K C "over")(aP:NoAttr K C "columns")(cA:NoAttr K C "rows")(cJ:mg "enumerate"=none):
  FnOk P w K mg base CX0 1 f fd ["self","cells","pivots","column"] (RM K C):=by
 refine F.ok Bg (fun vs H Q E h=> ?_) (fun cdv A outer s H vs Q E hr h=> ?_)
 ·obtain⟨o,xa,ya,H0,n,m,q,X,Y,T,rfl,_⟩:=h
  rfl
 obtain⟨o,xa,ya,H0,n,m,q,X,Y,T,rfl,⟨dx,cl,co,ro,rws,hT⟩,hn,⟨ho0,ho1⟩,hq,hX,hY,hb,qq⟩:=h
 refine⟨_,(aO (cV (i:=4) Bg.nd rfl (Or.inr rfl) (bB jJ (pv 2) (pv 3) (fun _ _=>rfl))) (aO (SX (i:=5) (own:=["k","cell"]) (caps:=["by","cells","column","pivots","self"]) (ix:=[4,1,3,2,0]) Bg.nd rfl (Or.inl rfl) rfl (qW rfl cJ (aj (pv 1) au)) rfl rfl (.cons rfl rfl (.cons rfl rfl (.cons rfl rfl (.cons rfl rfl (.cons rfl rfl .nil))))) (fun _ _ _ _ _=>(iu K (n:=2) rfl (tV (cY (i:=0) (show(["k","cell","by","cells","column","pivots","self"]:List Str).Nodup from by decide+kernel) rfl (Or.inl rfl)) (tV (cY (i:=1) (show(["k","cell","by","cells","column","pivots","self"]:List Str).Nodup from by decide+kernel) rfl (Or.inl rfl)) pgs_nil)))) (fun _ _ _ _ _=>qb) (fun _ _ _ _ _=>(bN nO (bN op_sub (bN p8 (pv 1) (pv 2)) (bN p8 (bB (jY K) (pv 3) (pv 4) (fun _ _=>rfl)) (bB (jY K) (pv 5) (pv 0) (fun _ _=>rfl)))) (PL K (pv 6) rfl)))) (aO (ps_asg (pe_un un_neg (bB jJ (pv 1) (pv 3) (fun _ _=>rfl))) (pg_sub (pv 5) (pv 3) set_list)) (aX (cF (pv 5)))))),?_⟩
 refine⟨_,rfl,_,rfl,ya,_,_,_,rfl,rfl,SqL.of hY,eY _ hq,?_⟩
 refine⟨_,rfl,false,xa,_,rfl,SqL.of hX,fun hz=> ?_⟩
 refine pG (K:=K) (b:=false) (a:=xa) (xs:=aQ n X) (fun i acc σ H'=>acc=((List.range i).map fun c=>(X c*Y q-X q*Y c)/T.over).map V.int/\Same H H'/\∃o1 o2,σ=[o1,o2,some (.int (Y q)),some (.ref xa),some (.int (q:Int)),some (.ref ya),some (.ref o)]) ⟨rfl,Same.refl _,_,_,rfl⟩ (fun i acc σ H' _ p=>p.2.1.seq (SqL.of hX)) (fun i acc σ H' _ p=> ?_) hz (fun i v t acc σ H' hv p ht=> ?_) (fun acc σ H' p=> ?_)
 ·rw[p.1,aF,aF,tW];exact aJ _
 ·obtain⟨rfl,sm,o1,o2,rfl⟩:=p
  have hi:i<=n:=by
   have:=(lC.mp hv).1
   rw[Fy]at this
   omega
  rw[nJ _ hi]at hv
  cases hv
  have s1:=aV ht (.tup [.int (i:Int),.int (X i)])
  have s2:=sm.trans s1
  have bi:=(hb i hi).1
  have bq:=(hb q hq).1
  refine⟨t,_,rfl,SqT.of aH,rfl,_,_,rfl,_,_,rfl,rfl,?_⟩
  refine⟨_,rfl,_,rfl,_,_,rfl,rfl,.inl ⟨by omega,by omega⟩,?_⟩
  refine⟨_,rfl,_,rfl,xa,_,_,_,rfl,rfl,SqL.of (s2 _ _ hX),eY _ hq,_,rfl,_,rfl,ya,_,_,_,rfl,rfl,SqL.of (s2 _ _ hY),eY _ hi,_,_,rfl,rfl,.inl ⟨by omega,by omega⟩,_,_,rfl,rfl,?_⟩
  refine⟨_,rfl,o,C,dx,_,_,rfl,s2 _ _ hT.at_,Cc,dD,rfl,_,_,rfl,rfl,⟨ho0,by omega⟩,?_⟩
  exact⟨by rw[vq,bQ,bQ];rfl,s2,_,_,rfl⟩
 ·intro p1 hp1
  obtain⟨rfl,sm,_⟩:=p
  rw[Fy]
  have s1:=aV hp1 (.lst (aQ n fun c=>(X c*Y q-X q*Y c)/T.over))
  have s2:=sm.trans s1
  have h0:H p1=none:=by
   cases e:H p1 with
   |none=>rfl
   |some u=>rw[sm _ _ e]at hp1;cases hp1
  refine⟨_,rfl,_,rfl,xa,_,_,_,rfl,rfl,SqL.of (s2 _ _ hX),eY _ hq,_,rfl,?_⟩
  refine⟨_,rfl,_,rfl,p1,_,_,q,rfl,rfl,aH,?_,?_⟩
  ·have e:ixN (aQ n fun c=>(X c*Y q-X q*Y c)/T.over).length (q:Int)=some q:=by
    rw[Fy];unfold ixN
    rw[ao (by omega),ao (by omega)];rfl
   exact e
  ·refine⟨_,rfl,qq p1 _ (fun b u hb=> ?_) h0 ?_⟩
   ·have nb:b≠p1:=fun e=>by rw[e,h0]at hb;cases hb
    rw[cG nb]
    exact s2 _ _ hb
   ·rw[aH]
    have e:=yF (fun c=>(X c*Y q-X q*Y c)/T.over) (-X q) hq
    exact jy (fun l=>some (HO.lst l)) e
theorem Q8{xs:List V}{k:Nat}(hk:k<=xs.length):cutV xs none (some (k:Int))=xs.take k:=by
 unfold cutV
 rw[HT.sIx_nat,HT.sIx_none,Nat.min_eq_left hk,List.drop_zero,Nat.sub_zero]
theorem Hv{xs:List V}{k:Nat}(hk:k<=xs.length):cutV xs (some (k:Int)) none=xs.drop k:=by
 unfold cutV
 rw[HT.sIx_nat,HT.sIx_none,Nat.min_eq_left hk,yeg (by rw[wdf];omega)]
theorem _root_.L2.Same.uf{H0 H:Hp}{a:Addr}{u:HO}(s:Same H0 H)(h:H0 a=none):Same H0 (upd H a u):=fun b o hb=>by
 have nb:b≠a:=fun e=>by rw[e,h]at hb;cases hb
 rw[cG nb];exact s _ _ hb
theorem _root_.L2.Same.none{H0 H:Hp}{a:Addr}(s:Same H0 H)(h:H a=none):H0 a=none:=by
 cases e:H0 a with
 |none=>rfl
 |some u=>rw[s _ _ e]at h;cases h
section
variable{C:Addr}{H0 H:Hp}{o dx cl co ro:Addr}{rws:List Addr}{n m:Nat}{T:Sx.Tab}
theorem cB.ocl(h:cB K C H0 H o dx cl co ro rws n m T):o≠cl:=ne_of h.at_ h.cells fun e=>nomatch e
theorem cB.oco(h:cB K C H0 H o dx cl co ro rws n m T):o≠co:=ne_of h.at_ h.cols fun e=>nomatch e
theorem cB.oro(h:cB K C H0 H o dx cl co ro rws n m T):o≠ro:=ne_of h.at_ h.rows fun e=>nomatch e
theorem kZ{rws:List Addr}{xs:List Int}(h:0<rws.length)(e:rws.map V.ref=xs.map V.int):False:=by
 cases rws with
 |nil=>exact absurd h (oK 0)
 |cons a r=>
  cases xs with
  |nil=>cases e
  |cons x xs=>injection e with e1 _;cases e1
theorem cB.ZM(h:cB K C H0 H o dx cl co ro rws n m T):cl≠co:=fun e=>by
 have z:=h.cols
 rw[<-e,h.cells]at z
 exact kZ (by rw[h.len];omega) (HO.lst.inj (rH z))
theorem cB.ZL(h:cB K C H0 H o dx cl co ro rws n m T):cl≠ro:=fun e=>by
 have z:=h.rows
 rw[<-e,h.cells]at z
 exact kZ (by rw[h.len];omega) (HO.lst.inj (rH z))
theorem cB.ZK(h:cB K C H0 H o dx cl co ro rws n m T){r:Nat}{a:Addr}(e:rws[r]? =some a):a≠cl:=fun z=>by
 have y:=h.row r a e
 rw[z,h.cells]at y
 exact kZ (by rw[h.len];omega) (HO.lst.inj (rH y))
theorem cB.orow(h:cB K C H0 H o dx cl co ro rws n m T){r:Nat}{a:Addr}(e:rws[r]? =some a):a≠o:=fun z=>by
 have y:=h.row r a e
 rw[z,h.at_]at y
 cases y
theorem cB.Kc(h:cB K C H0 H o dx cl co ro rws n m T){W7:Addr}{Bo:List Addr}{X:Nat->Nat->Int}(h0:H0 W7=none)(hc:H W7=some (.lst (Bo.map V.ref)))(hl:Bo.length=m+1)(hr:∀r a,Bo[r]? =some a->H a=some (.lst (aQ n (X r))))(n1:co∉Bo)(n2:ro∉Bo):
  cB K C H0 (upd H o (.ins C dx (putF "cells" (.ref W7) (flds cl co ro T.over)))) o dx W7 co ro Bo n m {T with cell:=X}:=by
 have k:∀b,b≠o->∀u,H b=some u->(upd H o (.ins C dx (putF "cells" (.ref W7) (flds cl co ro T.over)))) b=some u:=fun b hb u e=>by rw[cG hb];exact e
 refine⟨h.same.uf h.o0,h.o0,h0,h.Sy,h.R0,h.ne,n1,n2,aH,k _ (fun e=> ?_) _ hc,hl,fun r a e=>k _ (fun z=> ?_) _ (hr r a e),k _ h.oco.symm _ h.cols,k _ h.oro.symm _ h.rows⟩
 ·rw[e,h.at_]at hc;cases hc
 ·have y:=hr r a e
  rw[z,h.at_]at y
  cases y
theorem cB.Ub(h:cB K C H0 H o dx cl co ro rws n m T){p:Nat}{a:Addr}{X:Nat->Int}(hp:p<=m)(ha:H a=some (.lst (aQ n X)))(n1:co≠a)(n2:ro≠a):
  cB K C H0 (upd H cl (.lst ((rws.map V.ref).set p (.ref a)))) o dx cl co ro (rws.set p a) n m {T with cell:=fun r c=>if r=p then X c else T.cell r c}:=by
 have k:∀b,b≠cl->∀u,H b=some u->(upd H cl (.lst ((rws.map V.ref).set p (.ref a)))) b=some u:=fun b hb u e=>by rw[cG hb];exact e
 have hac:a≠cl:=fun z=>by
  rw[z,h.cells]at ha
  exact kZ (by rw[h.len];omega) (HO.lst.inj (rH ha))
 refine⟨h.same.uf h.Wa,h.o0,h.Wa,h.Sy,h.R0,h.ne,fun z=> ?_,fun z=> ?_,k _ h.ocl _ h.at_,by rw[aH,wgj],by rw[wdt];exact h.len,fun r b e=> ?_,k _ h.ZM.symm _ h.cols,k _ h.ZL.symm _ h.rows⟩
 ·rcases wep z with z|z
  ·exact h.nc z
  ·exact n1 z
 ·rcases wep z with z|z
  ·exact h.nr z
  ·exact n2 z
 ·rw[wdc]at e
  by_cases c:p=r
  ·rw[ao c,ao (by rw[h.len];omega)]at e
   cases e
   rw[k _ hac _ ha]
   exact jy (fun l=>some (HO.lst l)) (lZ fun c' _=>by show X c'=if r=p then X c' else T.cell r c';rw[ao c.symm])
  ·rw[ak c]at e
   rw[k _ (h.ZK e) _ (h.row r b e)]
   exact jy (fun l=>some (HO.lst l)) (lZ fun c' _=>by show T.cell r c'=if r=p then X c' else T.cell r c';rw[ak (lO c)])
theorem cB.setOver(h:cB K C H0 H o dx cl co ro rws n m T)(v:Int):cB K C H0 (upd H o (.ins C dx (putF "over" (.int v) (flds cl co ro T.over)))) o dx cl co ro rws n m {T with over:=v}:=by
 have k:∀b,b≠o->∀u,H b=some u->(upd H o (.ins C dx (putF "over" (.int v) (flds cl co ro T.over)))) b=some u:=fun b hb u e=>by rw[cG hb];exact e
 exact⟨h.same.uf h.o0,h.o0,h.Wa,h.Sy,h.R0,h.ne,h.nc,h.nr,aH,k _ h.ocl.symm _ h.cells,h.len,fun r a e=>k _ (h.orow e) _ (h.row r a e),k _ h.oco.symm _ h.cols,k _ h.oro.symm _ h.rows⟩
theorem cB.OD(h:cB K C H0 H o dx cl co ro rws n m T){p:Nat}(v:Nat)(hp:p<m):cB K C H0 (upd H ro (.lst (((bR m T.row).map V.int).set p (.int (v:Int))))) o dx cl co ro rws n m {T with row:=fun r=>if r=p then v else T.row r}:=by
 have k:∀b,b≠ro->∀u,H b=some u->(upd H ro (.lst (((bR m T.row).map V.int).set p (.int (v:Int))))) b=some u:=fun b hb u e=>by rw[cG hb];exact e
 refine⟨h.same.uf h.R0,h.o0,h.Wa,h.Sy,h.R0,h.ne,h.nc,h.nr,k _ h.oro _ h.at_,k _ h.ZL _ h.cells,h.len,fun r a e=>k _ (fun z=>h.nr (z▸iZ e)) _ (h.row r a e),k _ h.ne _ h.cols,?_⟩
 rw[aH,<-wgj,uQ _ _ hp]
theorem cB.OJ(h:cB K C H0 H o dx cl co ro rws n m T){q:Nat}(v:Nat)(hq:q<n):cB K C H0 (upd H co (.lst (((bR n T.col).map V.int).set q (.int (v:Int))))) o dx cl co ro rws n m {T with col:=fun c=>if c=q then v else T.col c}:=by
 have k:∀b,b≠co->∀u,H b=some u->(upd H co (.lst (((bR n T.col).map V.int).set q (.int (v:Int))))) b=some u:=fun b hb u e=>by rw[cG hb];exact e
 refine⟨h.same.uf h.Sy,h.o0,h.Wa,h.Sy,h.R0,h.ne,h.nc,h.nr,k _ h.oco _ h.at_,k _ h.ZM _ h.cells,h.len,fun r a e=>k _ (fun z=>h.nc (z▸iZ e)) _ (h.row r a e),?_,k _ h.ne.symm _ h.rows⟩
 rw[aH,<-wgj,uQ _ _ hq]
end
theorem KC{n q:Nat}(X:Nat->Int)(v:Int)(h:q<=n):((aQ n X).take q++[.int v])++(aQ n X).drop (q+1)=aQ n fun c=>if c=q then v else X c:=by
 rw[<-yF X v h,List.set_eq_take_append_cons_drop,ao (by rw[Fy];omega),Wr]
 rfl
def RK(K:W.Frag)(C:Addr):Sp:=fun vs H Q _=>∃(o:Addr) (H0:Hp) (n m p q:Nat) (S:Nat->Nat->Bool) (wt:Nat->Int) (T:Sx.Tab),vs=[.ref o,.int (p:Int),.int (q:Int)]/\j5 K C H0 H o n m T/\TG n m S wt T/\p<m/\q<n/\∀H',j5 K C H0 H' o n m (Sx.turn T p q)->Q .non H'
theorem vM:FnScope ["self","row","column","pivots","by","name"] ["self","row","column"] (defScope Z8):=fsc
theorem UJ{f f1 C:Addr}{fd d1:FuncData}(F:Fun K "turn" "Tableau.turn" Z8 f fd)
  (Cc:Cls K C)(aR:NoAttr K C "cells")(dD:NoAttr K C "over")(aP:NoAttr K C "columns")(cA:NoAttr K C "rows")(D1:HJ K C "turned" "Tableau.turned" zcq ["self","cells","pivots","column"] f1 d1)(G1:FnOk P w K mg base CX0 1 f1 d1 ["self","cells","pivots","column"] (RM K C)):
  FnOk P w K mg base CX0 2 f fd ["self","row","column"] (RK K C):=by
 refine F.ok vM (fun vs H Q E h=> ?_) (fun cdv A outer s H vs Q E hr h=> ?_)
 ·obtain⟨o,H0,n,m,p,q,S,wt,T,rfl,_⟩:=h
  rfl
 obtain⟨o,H0,n,m,p,q,S,wt,T,rfl,⟨dx,cl,co,ro,rws,hT⟩,hG,hp,hq,qq⟩:=h
 refine⟨_,(aO (cV (i:=3) vM.nd rfl (Or.inr rfl) (bB jJ (oO (pv 0) rfl) (pv 1) (fun _ _=>rfl))) (aO (cV (i:=4) vM.nd rfl (Or.inl rfl) (bB jJ (pv 3) (pv 2) (fun _ _=>rfl))) (aO (ps_fld (pv 0) (oH (own:=["cells"]) (caps:=["self","pivots","column"]) (ix:=[0,3,2]) rfl (xW (oO (pv 0) rfl)) rfl rfl (.cons rfl rfl (.cons rfl rfl (.cons rfl rfl .nil))) (fun _ _ _ _ _=>(cY (i:=0) (show(["cells","self","pivots","column"]:List Str).Nodup from by decide+kernel) rfl (Or.inl rfl))) (fun _ _ _ _ _=>qb) (fun _ _ _ _ _=>(pe_meth (pv 1) Cc D1.m G1 hr D1.b .nil pass0 (aj (pv 0) (aj (pv 2) (aj (pv 3) au)))))) rfl) (aO (ps_asg (bN op_cat (bN op_cat (pe_slice sl_list (pv 3) po_none (po_some (pv 2))) (pe_lst (aj (oO (pv 0) rfl) au))) (pe_slice sl_list (pv 3) (po_some (bN qy (pv 2) aK)) po_none)) (pg_sub (oO (pv 0) rfl) (pv 1) set_list)) (aO (ps_fld (pv 0) (pv 4) rfl) (aO (cV (i:=5) vM.nd rfl (Or.inl rfl) (bB jJ (oO (pv 0) rfl) (pv 1) (fun _ _=>rfl))) (aO (ps_asg (bB jJ (oO (pv 0) rfl) (pv 2) (fun _ _=>rfl)) (pg_sub (oO (pv 0) rfl) (pv 1) set_list)) (aX (ps_asg (pv 5) (pg_sub (oO (pv 0) rfl) (pv 2) set_list)))))))))),?_⟩
 obtain⟨pa,pe,pi,pr⟩:=hT.Gk (dH hp)
 refine⟨_,rfl,o,C,dx,_,_,rfl,hT.at_,Cc,aR,rfl,_,rfl,cl,_,_,_,rfl,rfl,SqL.of hT.cells,pi,?_⟩
 refine⟨_,rfl,_,rfl,pa,_,_,_,rfl,rfl,SqL.of pr,eY _ (dH hq),?_⟩
 refine⟨_,rfl,o,C,dx,_,_,rfl,hT.at_,Cc,aR,rfl,cl,_,rfl,SqL.of hT.cells,fun hz=> ?_⟩
 refine HY (xs:=rws.map V.ref) (fun i acc σ H'=>∃as:List Addr,acc=as.map V.ref/\as.length=i/\Same H H'/\(∀r a,as[r]? =some a->H a=none/\H' a=some (.lst (aQ n (tdF T.over (T.cell r) (T.cell p) q))))/\∃o1,σ=[o1,some (.ref o),some (.ref pa),some (.int (q:Int))]) ⟨[],rfl,rfl,Same.refl _,fun r a e=>(nomatch e),_,rfl⟩ (fun i acc σ H' _ x=> ?_) (fun i acc σ H' _ x=> ?_) hz (fun i v acc σ H' hv x=> ?_) (fun acc σ H' x=> ?_)
 ·obtain⟨_,_,_,sm,_⟩:=x
  exact sm.seq (SqL.of hT.cells)
 ·obtain⟨as,rfl,hl,_⟩:=x
  rw[aF,hl];exact aJ _
 ·obtain⟨as,rfl,hl,sm,has,o1,rfl⟩:=x
  rw[cg]at hv
  cases er:rws[i]? with
  |none=>rw[er]at hv;cases hv
  |some ra=>
   rw[er]at hv
   cases hv
   have him:i<=m:=by have:=(lC.mp er).1;rw[hT.len]at this;omega
   refine⟨_,rfl,o,dx,_,rfl,sm _ _ hT.at_,rfl,_,rfl,_,rfl,_,rfl,o,ra,pa,H0,n,m,q,T.cell i,T.cell p,T,rfl,⟨dx,cl,co,ro,rws,hT.sm sm⟩,hG.n10,hG.over,dH hq,sm _ _ (hT.row i ra er),sm _ _ pr,fun c hc=>⟨hG.cell him hc,hG.cell (dH hp) hc⟩,fun r1 H1 s1 h1 e1=> ?_⟩
   refine⟨as++[r1],by rw[bQ];rfl,by rw[qC,hl];rfl,sm.trans s1,fun r a e=> ?_,_,rfl⟩
   rw[wdk]at e
   by_cases c:r<as.length
   ·rw[ao c]at e
    exact⟨(has r a e).1,s1 _ _ (has r a e).2⟩
   ·rw[ak c]at e
    have Zz:r-as.length=0:=by
     have:=(lC.mp e).1
     have:r-as.length<1:=this
     omega
    rw[Zz]at e
    cases e
    have:r=i:=by omega
    subst this
    exact⟨sm.none h1,e1⟩
 ·intro p1 hp1
  obtain⟨as,rfl,hl,sm,has,_⟩:=x
  rw[aF,hT.len]at hl
  have s1:=aV hp1 (.lst (as.map V.ref))
  have hT1:=hT.sm (sm.trans s1)
  have h10:H0 p1=none:=hT.same.none (sm.none hp1)
  have nas:∀b u,H b=some u->b∉as:=fun b u hb hm=>by
   obtain⟨r,hr1,rfl⟩:=uG hm
   have:=(has r _ (gH hr1)).1
   rw[hb]at this;cases this
  have hT2:=hT1.Kc (W7:=p1) (Bo:=as) (X:=fun r=>tdF T.over (T.cell r) (T.cell p) q) h10 aH hl (fun r a e=>s1 _ _ (has r a e).2) (nas _ _ hT.cols) (nas _ _ hT.rows)
  refine⟨_,rfl,o,C,dx,_,rfl,hT1.at_,Cc,aR,(by show 4<1000;decide),?_⟩
  have npo:pa≠o:=hT.orow pe
  have pr2:=(sm.trans s1) _ _ pr
  have pr3:(upd (upd H' p1 (.lst (as.map V.ref))) o (.ins C dx (putF "cells" (.ref p1) (flds cl co ro T.over)))) pa=some (.lst (aQ n (T.cell p))):=by rw[cG npo];exact pr2
  generalize (upd (upd H' p1 (.lst (as.map V.ref))) o (.ins C dx (putF "cells" (.ref p1) (flds cl co ro T.over))))=H2 at *
  -- the row of the turn
  refine⟨_,rfl,_,rfl,_,rfl,pa,_,rfl,SqL.of pr3,fun l1 hl1=> ?_⟩
  have t1:=aV hl1 (.lst (cutV (aQ n (T.cell p)) none (some (q:Int))))
  have f1:(upd H2 l1 (.lst (cutV (aQ n (T.cell p)) none (some (q:Int))))) l1=some (.lst (cutV (aQ n (T.cell p)) none (some (q:Int)))):=aH
  generalize (upd H2 l1 (.lst (cutV (aQ n (T.cell p)) none (some (q:Int)))))=H3 at *
  refine⟨_,rfl,o,C,dx,_,_,rfl,t1 _ _ hT2.at_,Cc,dD,rfl,(by show 1<=sizeLine;decide),fun l2 hl2=> ?_⟩
  have t2:=aV hl2 (.lst [.int T.over])
  have f2:(upd H3 l2 (.lst [.int T.over])) l2=some (.lst [.int T.over]):=aH
  have f1':=t2 _ _ f1
  refine⟨l1,l2,_,_,rfl,rfl,f1',f2,?_,fun l3 hl3=> ?_⟩
  ·have:=cutV_length (aQ n (T.cell p)) none (some (q:Int))
   rw[Fy]at this
   have:=hG.n10
   rw[gB];show _+1<=_;omega
  have t3:=aV hl3 (.lst (cutV (aQ n (T.cell p)) none (some (q:Int))++[.int T.over]))
  have f3:(upd (upd H3 l2 (.lst [.int T.over])) l3 (.lst (cutV (aQ n (T.cell p)) none (some (q:Int))++[.int T.over]))) l3=some (.lst (cutV (aQ n (T.cell p)) none (some (q:Int))++[.int T.over])):=aH
  have t13:=t1.trans (t2.trans t3)
  generalize (upd (upd H3 l2 (.lst [.int T.over])) l3 (.lst (cutV (aQ n (T.cell p)) none (some (q:Int))++[.int T.over])))=H5 at *
  refine⟨_,rfl,_,rfl,_,_,rfl,rfl,_,rfl,pa,_,rfl,SqL.of (t13 _ _ pr3),fun l4 Ly=> ?_⟩
  have t4:=aV Ly (.lst (cutV (aQ n (T.cell p)) (some ((q:Int)+1)) none))
  refine⟨l3,l4,_,_,rfl,rfl,t4 _ _ f3,aH,?_,fun l5 hl5=> ?_⟩
  ·have a1:=cutV_length (aQ n (T.cell p)) none (some (q:Int))
   have a2:=cutV_length (aQ n (T.cell p)) (some ((q:Int)+1)) none
   rw[Fy]at a1 a2
   have:=hG.n10
   rw[qC,gB];show _+1+_<=_;omega
  have t5:=aV hl5 (.lst ((cutV (aQ n (T.cell p)) none (some (q:Int))++[.int T.over])++cutV (aQ n (T.cell p)) (some ((q:Int)+1)) none))
  have aaD:(cutV (aQ n (T.cell p)) none (some (q:Int))++[.int T.over])++cutV (aQ n (T.cell p)) (some ((q:Int)+1)) none=aQ n fun c=>if c=q then T.over else T.cell p c:=by
   rw[Q8 (by rw[Fy];omega),show(q:Int)+1=((q+1:Nat):Int)from by omega,Hv (by rw[Fy];omega)]
   exact KC _ _ (dH hq)
  rw[aaD]at t5⊢
  have hT3:=hT2.sm (t13.trans (t4.trans t5))
  have f5:(upd (upd H5 l4 (.lst (cutV (aQ n (T.cell p)) (some ((q:Int)+1)) none))) l5 (.lst (aQ n fun c=>if c=q then T.over else T.cell p c))) l5=some (.lst (aQ n fun c=>if c=q then T.over else T.cell p c)):=aH
  have g1:co≠l5:=lN ((t13.trans t4) _ _ hT2.cols) hl5
  have g2:ro≠l5:=lN ((t13.trans t4) _ _ hT2.rows) hl5
  generalize (upd (upd H5 l4 (.lst (cutV (aQ n (T.cell p)) (some ((q:Int)+1)) none))) l5 (.lst (aQ n fun c=>if c=q then T.over else T.cell p c)))=H6 at *
  have WX:=hT3.Ub (p:=p) (dH hp) f5 g1 g2
  refine⟨_,rfl,o,C,dx,_,_,rfl,hT3.at_,Cc,aR,rfl,_,rfl,p1,_,_,p,rfl,rfl,hT3.cells,?_,?_⟩
  ·have e:ixN (as.map V.ref).length (p:Int)=some p:=by
    rw[aF,hl];unfold ixN
    rw[ao (by omega),ao (by omega)];rfl
   exact e
  generalize (upd H6 p1 (.lst ((as.map V.ref).set p (.ref l5))))=H7 at *
  have hT5:=WX.setOver (T.cell p q)
  refine⟨_,rfl,_,rfl,o,C,dx,_,rfl,WX.at_,Cc,dD,(by show 4<1000;decide),?_⟩
  generalize (upd H7 o (.ins C dx (putF "over" (.int (T.cell p q)) (flds p1 co ro T.over))))=H8 at *
  refine⟨_,rfl,o,C,dx,_,_,rfl,hT5.at_,Cc,cA,rfl,_,rfl,ro,_,_,_,rfl,rfl,SqL.of hT5.rows,nQ _ hp,?_⟩
  refine⟨_,rfl,o,C,dx,_,_,rfl,hT5.at_,Cc,aP,rfl,_,rfl,co,_,_,_,rfl,rfl,SqL.of hT5.cols,nQ _ hq,?_⟩
  have WW:=hT5.OD (p:=p) (T.col q) hp
  refine⟨_,rfl,o,C,dx,_,_,rfl,hT5.at_,Cc,cA,rfl,_,rfl,ro,_,_,p,rfl,rfl,hT5.rows,?_,?_⟩
  ·have e:ixN ((bR m T.row).map V.int).length (p:Int)=some p:=by
    rw[aF,Fz];unfold ixN
    rw[ao (by omega),ao (by omega)];rfl
   exact e
  generalize (upd H8 ro (.lst (((bR m T.row).map V.int).set p (.int ((T.col q:Nat):Int)))))=H9 at *
  have zm:=WW.OJ (q:=q) (T.row p) hq
  refine⟨_,rfl,_,rfl,o,C,dx,_,_,rfl,WW.at_,Cc,aP,rfl,_,rfl,co,_,_,q,rfl,rfl,WW.cols,?_,?_⟩
  ·have e:ixN ((bR n T.col).map V.int).length (q:Int)=some q:=by
    rw[aF,Fz];unfold ixN
    rw[ao (by omega),ao (by omega)];rfl
   exact e
  refine qq _ ⟨dx,p1,co,ro,_,zm.same,zm.o0,zm.Wa,zm.Sy,zm.R0,zm.ne,zm.nc,zm.nr,zm.at_,zm.cells,zm.len,fun r a e=> ?_,zm.cols,zm.rows⟩
  rw[zm.row r a e]
  refine jy (fun l=>some (HO.lst l)) (lZ fun c _=> ?_)
  show(if r=p then(if c=q then T.over else T.cell p c)else tdF T.over (T.cell r) (T.cell p) q c)=_
  rfl
end
section
variable{P:Program}{w:World}{K:W.Frag}{mg:Str->Option Value}{base:Heap}
theorem Kz{n m:Nat}{S:Nat->Nat->Bool}{wt:Nat->Int}{Ts:Nat->Sx.Tab}{ps qs:Nat->Nat}{L p q:Nat}(R:Sx.Run n m S wt Ts ps qs L)(s:Sx.Step n m (Ts L) p q):
  Sx.Run n m S wt (fun t=>if t<=L then Ts t else Sx.turn (Ts L) p q) (fun t=>if t<L then ps t else p) (fun t=>if t<L then qs t else q) (L+1):=by
 refine⟨by rw[ao (dJ L)];exact R.first,fun t ht=> ?_,fun t ht=> ?_⟩
 ·by_cases c:t<L
  ·rw[ao (dH c),ao c,ao c];exact R.step t c
  ·have e:t=L:=by omega
   subst e
   rw[ao (aJ t),ak c,ak c];exact s
 ·by_cases c:t<L
  ·rw[ao (show t+1<=L from c),ao (dH c),ao c,ao c];exact R.next t c
  ·have e:t=L:=by omega
   subst e
   rw[ak (by omega),ao (aJ t),ak c,ak c]
structure Sta(n m:Nat)(S:Nat->Nat->Bool)(wt:Nat->Int):Prop where
 n10:n<=10
 Yz:m<=40
 wb:∀p,p<n->0<=wt p/\wt p<=99
 cov:∀p,p<n->∃k,k<m/\S k p=true
theorem Sta.tg{n m:Nat}{S:Nat->Nat->Bool}{wt:Nat->Int}{T:Sx.Tab}(h:Sta n m S wt)(g:Sx.Good n m S wt T):TG n m S wt T:=⟨g,h.n10,h.Yz,h.wb,h.cov⟩
def NcV(n m:Nat)(T:Sx.Tab)(x:V):Prop:=(x= .non/\∀c,c<n->0<=T.cell m c)\/∃q:Nat,x= .int (q:Int)/\q<n/\T.cell m q<0/\∀c,c<n->T.cell m c<0->T.col q<=T.col c
def Nj(K:W.Frag)(C o:Addr)(H0:Hp)(n m:Nat)(S:Nat->Nat->Bool)(wt:Nat->Int)(k:Nat)(σ:St)(H:Hp):Prop:=
 ∃(Ts:Nat->Sx.Tab) (ps qs:Nat->Nat) (L:Nat) (x:V),Sx.Run n m S wt Ts ps qs L/\L+k=2^(n+m)/\j5 K C H0 H o n m (Ts L)/\σ=[some (.ref o),some x]/\NcV n m (Ts L) x
def JD(K:W.Frag)(C:Addr):Sp:=fun vs H Q _=>∃(o:Addr) (H0:Hp) (n m:Nat) (S:Nat->Nat->Bool) (wt:Nat->Int) (T:Sx.Tab),vs=[.ref o]/\j5 K C H0 H o n m T/\Sta n m S wt/\Sx.Good n m S wt T/\
 ∀T' H',j5 K C H0 H' o n m T'->Sx.Good n m S wt T'->(∀c,c<n->0<=T'.cell m c)->Q .non H'
theorem Bh:FnScope ["self","column"] ["self"] (defScope Z9):=fsc
theorem U0{f f1 f2 f3 C:Addr}{fd d1 d2 d3:FuncData}(F:Fun K "solve" "Tableau.solve" Z9 f fd)
  (Cc:Cls K C)(aR:NoAttr K C "cells")(dD:NoAttr K C "over")(aP:NoAttr K C "columns")(cA:NoAttr K C "rows")(D1:HJ K C "next_column" "Tableau.next_column" zbb ["self"] f1 d1)(G1':FnOk P w K mg base CX0 1 f1 d1 ["self"] (JH K C))(D2:HJ K C "turn" "Tableau.turn" Z8 ["self","row","column"] f2 d2)(G2:FnOk P w K mg base CX0 2 f2 d2 ["self","row","column"] (RK K C))(D3:HJ K C "next_row" "Tableau.next_row" zby ["self","column"] f3 d3)(G3:FnOk P w K mg base CX0 2 f3 d3 ["self","column"] (RN K C)):
  FnOk P w K mg base CX0 3 f fd ["self"] (JD K C):=by
 have G1:FnOk P w K mg base CX0 2 f1 d1 ["self"] (JH K C):=G1'.mono (by decide)
 refine F.ok Bh (fun vs H Q E h=> ?_) (fun cdv A outer s H vs Q E hr h=> ?_)
 ·obtain⟨o,H0,n,m,S,wt,T,rfl,_⟩:=h
  rfl
 obtain⟨o,H0,n,m,S,wt,T,rfl,hT,hS,hg,qq⟩:=h
 refine⟨_,(aO (cV (i:=1) Bh.nd rfl (Or.inl rfl) (pe_meth0 (pv 0) Cc D1.m G1 hr D1.b .nil pass0)) (aX (ps_while tX (kj op_notN (pv 1) pe_non (nomark _)) (aO (xP (pe_meth (pv 0) Cc D2.m G2 hr D2.b .nil pass0 (aj (pe_meth (pv 0) Cc D3.m G3 hr D3.b .nil pass0 (aj (pv 1) au)) (aj (pv 1) au)))) (aX (cV (i:=1) Bh.nd rfl (Or.inl rfl) (pe_meth0 (pv 0) Cc D1.m G1 hr D1.b .nil pass0))))))),?_⟩
 have key:∀(x:V) (H1:Hp),j5 K C H0 H1 o n m T->NcV n m T x->∃k,Nj K C o H0 n m S wt k [some (.ref o),some x] H1:=fun x H1 h1 h2=>
  ⟨2^(n+m),fun _=>T,fun _=>0,fun _=>0,0,x,⟨hg,fun t ht=>absurd ht (Ro t),fun t ht=>absurd ht (Ro t)⟩,wgx _,h1,rfl,h2⟩
 obtain⟨dx,cl,co,ro,rws,hA0⟩:=id hT
 refine⟨_,rfl,o,dx,_,rfl,hA0.at_,rfl,o,H0,n,m,S,wt,T,rfl,hT,hS.tg hg,?a,?b⟩
 case' a=>
  intro h H1 s1
  have w0:=key _ _ (hT.sm s1) (.inl ⟨rfl,h⟩)
  refine⟨Nj K C o H0 n m S wt,w0,?_⟩
  clear w0 s1 h
 case' b=>
  intro q H1 hq hn he s1
  have w0:=key _ _ (hT.sm s1) (.inr ⟨q,rfl,hq,hn,he⟩)
  refine⟨Nj K C o H0 n m S wt,w0,?_⟩
  clear w0 s1 he hn hq q
 all_goals
  clear H1
  intro k σ H1 h
  obtain⟨Ts,ps,qs,L,x,R,hk,⟨dx',cl,co,ro,rws,hA⟩,rfl,hx⟩:=h
  have Y0:=R.good L (aJ L)
  have hG:=hS.tg Y0
  have hsh:=R.short
  rcases hx with⟨rfl,hx⟩|⟨q,rfl,hq,hn,he⟩
  ·refine⟨_,rfl,rfl,_,rfl,?_⟩
   refine iteF ?_
   exact qq (Ts L) H1 ⟨dx',cl,co,ro,rws,hA⟩ Y0 hx
  ·refine⟨_,rfl,rfl,_,rfl,?_⟩
   refine iteT ?_
   refine⟨Nj K C o H0 n m S wt (k-1),fun σ' H' z=>⟨k-1,by omega,z⟩,?_⟩
   refine⟨_,rfl,o,dx',_,rfl,hA.at_,rfl,_,rfl,o,dx',_,rfl,hA.at_,rfl,_,rfl,o,H0,n,m,q,S,wt,Ts L,rfl,⟨dx',cl,co,ro,rws,hA⟩,hG,hq,fun p hp h0 hlev=> ?_⟩
   have st:Sx.Step n m (Ts L) p q:=⟨hp,hq,hn,he,h0,hlev⟩
   refine⟨_,rfl,o,H0,n,m,p,q,S,wt,Ts L,rfl,⟨dx',cl,co,ro,rws,hA⟩,hG,hp,hq,fun H2 hT2=> ?_⟩
   have R2:=Kz R st
   have g2:=st.good Y0
   obtain⟨dx2,cl2,co2,ro2,aaQ,hA2⟩:=id hT2
   have fin:∀(x:V) (H3:Hp),Same H2 H3->NcV n m (Sx.turn (Ts L) p q) x->Nj K C o H0 n m S wt (k-1) [some (.ref o),some x] H3:=fun x H3 s3 hx=>by
    refine⟨_,_,_,L+1,x,R2,by omega,?_,rfl,?_⟩
    ·rw[ak (by omega)];exact hT2.sm s3
    ·rw[ak (by omega)];exact hx
   exact⟨_,rfl,o,dx2,_,rfl,hA2.at_,rfl,o,H0,n,m,S,wt,_,rfl,hT2,hS.tg g2,fun h H3 s3=>fin _ H3 s3 (.inl ⟨rfl,h⟩),fun q' H3 hq' hn' he' s3=>fin _ H3 s3 (.inr ⟨q',rfl,hq',hn',he'⟩)⟩
def ZX(k:Nat)(i:Int)(r:Nat):Prop:=(i=(r:Int)/\r<=k)\/(i= -1/\r=k)
def yg(K:W.Frag)(C:Addr):Sp:=fun vs H Q _=>∃(o:Addr) (H0:Hp) (n m r c:Nat) (i j:Int) (S:Nat->Nat->Bool) (wt:Nat->Int) (T:Sx.Tab),vs=[.ref o,.int i,.int j]/\j5 K C H0 H o n m T/\TG n m S wt T/\ZX m i r/\ZX n j c/\
 ∀p H' u v,Same H H'->H' p=some (.tup [.int u,.int ((v:Nat):Int)])->Low (T.cell r c) T.over.toNat u v->Q (.ref p) H'
theorem Ue:FnScope ["self","row","column"] ["self","row","column"] (defScope Wk):=fsc
theorem U7{f f1 C:Addr}{fd d1:FuncData}(F:Fun K "fraction_at" "Tableau.fraction_at" Wk f fd)
  (Cc:Cls K C)(aR:NoAttr K C "cells")(dD:NoAttr K C "over")(aP:NoAttr K C "columns")(cA:NoAttr K C "rows")(D1:bJ K mg "lowest" Nv ["a","b"] f1 d1)(G1:FnOk P w K mg base CX0 2 f1 d1 ["a","b"] (ql K)):
  FnOk P w K mg base CX0 3 f fd ["self","row","column"] (yg K C):=by
 refine F.ok Ue (fun vs H Q E h=> ?_) (fun cdv A outer s H vs Q E hr h=> ?_)
 ·obtain⟨o,H0,n,m,r,c,i,j,S,wt,T,rfl,_⟩:=h
  rfl
 obtain⟨o,H0,n,m,r,c,i,j,S,wt,T,rfl,⟨dx,cl,co,ro,rws,hT⟩,hG,hi,hj,qq⟩:=h
 refine⟨_,(aX (cF (pc G1 hr D1 (aj (bB jJ (bB jJ (oO (pv 0) rfl) (pv 1) (fun _ _=>rfl)) (pv 2) (fun _ _=>rfl)) (aj (oO (pv 0) rfl) au))))),?_⟩
 have hri:∃a,atI (rws.map V.ref) i=some (.ref a)/\H a=some (.lst (aQ n (T.cell r))):=by
  rcases hi with⟨rfl,h⟩|⟨rfl,rfl⟩
  ·obtain⟨a,_,h1,h2⟩:=hT.Gk h
   exact⟨a,h1,h2⟩
  ·obtain⟨a,_,h1,h2⟩:=hT.Yg
   exact⟨a,h1,h2⟩
 have hcj:atI (aQ n (T.cell r)) j=some (.int (T.cell r c)):=by
  rcases hj with⟨rfl,h⟩|⟨rfl,rfl⟩
  ·exact eY _ h
  ·exact oY _ _
 obtain⟨a,h1,h2⟩:=hri
 have ho:=hG.over
 refine⟨_,rfl,o,C,dx,_,_,rfl,hT.at_,Cc,aR,rfl,_,rfl,cl,_,_,_,rfl,rfl,SqL.of hT.cells,h1,_,rfl,a,_,_,_,rfl,rfl,SqL.of h2,hcj,?_⟩
 refine⟨_,rfl,o,C,dx,_,_,rfl,hT.at_,Cc,dD,rfl,T.cell r c,T.over.toNat,?_,by omega,bZ (show T.over.toNat<=39916800 by omega) (by decide),fun p H' u v s e l=>qq p H' u v s e l⟩
 rw[show((T.over.toNat:Nat):Int)=T.over by omega];rfl
theorem yU{u:Int}{v b:Nat}(hb:0<b)(h:Low 0 1 u v):Low 0 b u v:=by
 have e:=h.eq
 have hu:u=0:=by omega
 subst hu
 have c:=h.cop
 rw[show(0:Int).natAbs=0 from rfl,Nat.gcd_zero_left]at c
 subst c
 exact⟨by decide,rfl,by omega,aJ _,hb,fun _=>uE _⟩
def JG(K:W.Frag)(C:Addr):Sp:=fun vs H Q _=>∃(o:Addr) (H0:Hp) (n m a:Nat) (S:Nat->Nat->Bool) (wt:Nat->Int) (T:Sx.Tab),vs=[.ref o,.int (a:Int)]/\j5 K C H0 H o n m T/\TG n m S wt T/\
 ∀p H' u v,Same H H'->H' p=some (.tup [.int u,.int ((v:Nat):Int)])->Low (Sx.Xs n m T a) T.over.toNat u v->Q (.ref p) H'
theorem Ud:FnScope ["self","name"] ["self","name"] (defScope zbx):=fsc
theorem U4{f f1 f2 C:Addr}{fd d1 d2:FuncData}(F:Fun K "price_of" "Tableau.price_of" zbx f fd)
  (Cc:Cls K C)(aR:NoAttr K C "cells")(dD:NoAttr K C "over")(aP:NoAttr K C "columns")(cA:NoAttr K C "rows")(D1:bJ K mg "lowest" Nv ["a","b"] f1 d1)(G1:FnOk P w K mg base CX0 2 f1 d1 ["a","b"] (ql K))(D2:HJ K C "fraction_at" "Tableau.fraction_at" Wk ["self","row","column"] f2 d2)(G2:FnOk P w K mg base CX0 3 f2 d2 ["self","row","column"] (yg K C)):
  FnOk P w K mg base CX0 4 f fd ["self","name"] (JG K C):=by
 refine F.ok Ud (fun vs H Q E h=> ?_) (fun cdv A outer s H vs Q E hr h=> ?_)
 ·obtain⟨o,H0,n,m,a,S,wt,T,rfl,_⟩:=h
  rfl
 obtain⟨o,H0,n,m,a,S,wt,T,rfl,⟨dx,cl,co,ro,rws,hT⟩,hG,qq⟩:=h
 refine⟨_,(aO (mY (kj (o7 hr.units) (pv 1) (oO (pv 0) rfl) (by with_unfolding_all rfl)) (aX (cF (pc G1 hr D1 (aj aK (aj aK au))))) oJ) (aX (cF (pe_meth (pv 0) Cc D2.m G2 hr D2.b .nil pass0 (aj (pe_bm RD wcs wct pq (oO (pv 0) rfl) (aj (pv 1) au)) (aj (pe_un un_neg aK) au)))))),?_⟩
 have ho:=hG.over
 refine⟨_,rfl,_,rfl,o,C,dx,_,_,rfl,hT.at_,Cc,cA,rfl,ro,_,_,.int (a:Int),rfl,.inl (SqL.of hT.rows),dI.ints _,.int _,IK _,rfl,(by show 0<=60;decide),_,rfl,?_⟩
 rw[any_ints]
 refine ite2 (fun c=> ?_) (fun c=> ?_)
 ·have c':((a:Nat):Int)∉bR m T.row:=by
   intro hm
   rw[gb hm]at c
   cases c
  refine⟨0,1,rfl,by decide,by decide,fun p H' u v s e l=>qq p H' u v s e ?_⟩
  rw[Sx.Rw fun r hr z=>c' (by
   have:=Di T.row hr
   rw[z]at this
   exact iZ this)]
  exact yU (by omega) l
 ·have c':((a:Nat):Int)∈bR m T.row:=by
   refine WD fun hm=>c ?_
   rw[iY hm];rfl
  obtain⟨r,hr1,er⟩:=uG c'
  have hr0:r<m:=by rw[Fz]at hr1;exact hr1
  have e0:=gH hr1
  rw[er]at e0
  have ea:T.row r=a:=by
   rw[Di _ hr0]at e0
   exact XH (rH e0)
  subst ea
  refine⟨_,rfl,o,dx,_,rfl,hT.at_,rfl,_,rfl,o,C,dx,_,_,rfl,hT.at_,Cc,cA,rfl,.inl ⟨rfl,_,SqL.of hT.rows⟩,_,rfl,ro,bR m T.row,_,r,rfl,rfl,hT.rows,Di _ hr0,fun i hi e=> ?_,by rw[Fz];have:=hG.Yz;omega,?_⟩
  ·rw[Di _ (by omega)]at e
   have:=hG.good.KD i r (by omega) hr0 (XH (rH e))
   omega
  ·refine⟨_,rfl,o,H0,n,m,r,n,_,_,S,wt,T,rfl,⟨dx,cl,co,ro,rws,hT⟩,hG,.inl ⟨rfl,dH hr0⟩,.inr ⟨rfl,rfl⟩,fun p H' u v s e l=>qq p H' u v s e ?_⟩
   rw[hG.good.Ry hr0]
   exact l
def JF(K:W.Frag)(C:Addr):Sp:=fun vs H Q _=>∃(o:Addr) (H0:Hp) (n m a:Nat) (S:Nat->Nat->Bool) (wt:Nat->Int) (T:Sx.Tab),vs=[.ref o,.int (a:Int)]/\j5 K C H0 H o n m T/\TG n m S wt T/\
 ∀p H' u v,Same H H'->H' p=some (.tup [.int u,.int ((v:Nat):Int)])->Low (Sx.Ys n m T a) T.over.toNat u v->Q (.ref p) H'
theorem Uc:FnScope ["self","name"] ["self","name"] (defScope zbw):=fsc
theorem U3{f f1 f2 C:Addr}{fd d1 d2:FuncData}(F:Fun K "share_of" "Tableau.share_of" zbw f fd)
  (Cc:Cls K C)(aR:NoAttr K C "cells")(dD:NoAttr K C "over")(aP:NoAttr K C "columns")(cA:NoAttr K C "rows")(D1:bJ K mg "lowest" Nv ["a","b"] f1 d1)(G1:FnOk P w K mg base CX0 2 f1 d1 ["a","b"] (ql K))(D2:HJ K C "fraction_at" "Tableau.fraction_at" Wk ["self","row","column"] f2 d2)(G2:FnOk P w K mg base CX0 3 f2 d2 ["self","row","column"] (yg K C)):
  FnOk P w K mg base CX0 4 f fd ["self","name"] (JF K C):=by
 refine F.ok Uc (fun vs H Q E h=> ?_) (fun cdv A outer s H vs Q E hr h=> ?_)
 ·obtain⟨o,H0,n,m,a,S,wt,T,rfl,_⟩:=h
  rfl
 obtain⟨o,H0,n,m,a,S,wt,T,rfl,⟨dx,cl,co,ro,rws,hT⟩,hG,qq⟩:=h
 refine⟨_,(aO (mY (kj (o7 hr.units) (pv 1) (oO (pv 0) rfl) (by with_unfolding_all rfl)) (aX (cF (pc G1 hr D1 (aj aK (aj aK au))))) oJ) (aX (cF (pe_meth (pv 0) Cc D2.m G2 hr D2.b .nil pass0 (aj (pe_un un_neg aK) (aj (pe_bm RD wcs wct pq (oO (pv 0) rfl) (aj (pv 1) au)) au)))))),?_⟩
 have ho:=hG.over
 refine⟨_,rfl,_,rfl,o,C,dx,_,_,rfl,hT.at_,Cc,aP,rfl,co,_,_,.int (a:Int),rfl,.inl (SqL.of hT.cols),dI.ints _,.int _,IK _,rfl,(by show 0<=60;decide),_,rfl,?_⟩
 rw[any_ints]
 refine ite2 (fun c=> ?_) (fun c=> ?_)
 ·have c':((a:Nat):Int)∉bR n T.col:=by
   intro hm
   rw[gb hm]at c
   cases c
  refine⟨0,1,rfl,by decide,by decide,fun p H' u v s e l=>qq p H' u v s e ?_⟩
  rw[Sx.Xf fun r hr z=>c' (by
   have:=Di T.col hr
   rw[z]at this
   exact iZ this)]
  exact yU (by omega) l
 ·have c':((a:Nat):Int)∈bR n T.col:=by
   refine WD fun hm=>c ?_
   rw[iY hm];rfl
  obtain⟨r,hr1,er⟩:=uG c'
  have hr0:r<n:=by rw[Fz]at hr1;exact hr1
  have e0:=gH hr1
  rw[er]at e0
  have ea:T.col r=a:=by
   rw[Di _ hr0]at e0
   exact XH (rH e0)
  subst ea
  refine⟨_,rfl,o,dx,_,rfl,hT.at_,rfl,_,rfl,_,rfl,o,C,dx,_,_,rfl,hT.at_,Cc,aP,rfl,.inl ⟨rfl,_,SqL.of hT.cols⟩,_,rfl,co,bR n T.col,_,r,rfl,rfl,hT.cols,Di _ hr0,fun i hi e=> ?_,by rw[Fz];have:=hG.n10;omega,?_⟩
  ·rw[Di _ (by omega)]at e
   have:=hG.good.Cp i r (by omega) hr0 (XH (rH e))
   omega
  ·refine⟨o,H0,n,m,m,r,_,_,S,wt,T,rfl,⟨dx,cl,co,ro,rws,hT⟩,hG,.inr ⟨rfl,rfl⟩,.inl ⟨rfl,dH hr0⟩,fun p H' u v s e l=>qq p H' u v s e ?_⟩
   rw[hG.good.Xg hr0]
   exact l
def dY(L:List (List Int))(k p:Nat):Bool:=decide (((p:Nat):Int)∈L.getD k [])
def jD(wl:List Int)(p:Nat):Int:=wl.getD p 0
theorem Uo{n m r:Nat}{L:List (List Int)}{wt:Nat->Int}(hr:r<m):((List.range n).map fun(p:Nat)=>if decide (((p:Nat):Int)∈L.getD r [])=true then(1:Int)else 0).map V.int++[.int 1]=aQ n ((Sx.start n m (dY L) wt).cell r):=by
 unfold aQ
 rw[vq,bQ,bQ]
 congr 1
 ·refine jy _ (Rt fun c hc=> ?_)
  have hc':=tZ.mp hc
  show _=if r=m then _ else if c=n then(1:Int)else if dY L r c=true then 1 else 0
  rw[ak (show¬r=m by omega),ak (show¬c=n by omega)]
  rfl
 ·show[V.int 1]=[V.int (if r=m then _ else if n=n then(1:Int)else _)]
  rw[ak (by omega),ao rfl]
theorem Px{m:Nat}{L:List (List Int)}{wl:List Int}:(wl.map fun x=> -x).map V.int++[.int 0]=aQ wl.length ((Sx.start wl.length m (dY L) (jD wl)).cell m):=by
 unfold aQ
 rw[vq,bQ,bQ]
 congr 1
 ·refine jy _ (wcz fun i=> ?_)
  rw[cg,cg]
  by_cases hi:i<wl.length
  ·rw[gH hi,Ru hi]
   show some (-wl[i])=some (if m=m then(if i=wl.length then(0:Int)else -(wl.getD i 0))else _)
   rw[ao rfl,ak (by omega),jC,gH hi]
   rfl
  ·rw[Wv (by omega),Wv (by rw[tW];omega)];rfl
 ·show[V.int 0]=[V.int (if m=m then(if wl.length=wl.length then(0:Int)else _)else _)]
  rw[ao rfl,ao rfl]
theorem _root_.L2.SqT.aac{H:Hp}{a o C dx:Addr}{fs:List (Str×V)}{u:HO}{xs:List V}(hO:H o=some (.ins C dx fs))(h:SqT K H a xs):SqT K (upd H o u) a xs:=by
 rcases h with(h|⟨ob,h⟩)|h
 ·exact .inl (.inl (by rw[cG (ne_of h hO fun e=>nomatch e)];exact h))
 ·exact .inl (.inr ⟨ob,by rw[cG (ne_of h hO fun e=>nomatch e)];exact h⟩)
 ·exact .inr h
def Az(K:W.Frag)(C:Addr):Sp:=fun vs H Q _=>∃(o dx sl wa:Addr) (H0:Hp) (its:List (Addr×List Int)) (wl:List Int),vs=[.ref o,.ref sl,.ref wa]/\H o=some (.ins C dx [])/\Same H0 H/\H0 o=none/\H sl=some (.lst (its.map fun p=>V.ref p.1))/\(∀p∈its,SqT K H p.1 (p.2.map V.int))/\SqT K H wa (wl.map V.int)/\wl.length<=10/\its.length<=40/\
 ∀H',j5 K C H0 H' o wl.length its.length (Sx.start wl.length its.length (dY (its.map (·.2))) (jD wl))->Q .non H'
theorem Ec:FnScope ["self","sets","wants","n"] ["self","sets","wants"] (defScope Z6):=fsc
theorem Qd{f C:Addr}{fd:FuncData}(F:Fun K "__init__" "Tableau.__init__" Z6 f fd)
  (Cc:Cls K C)(aR:NoAttr K C "cells")(dD:NoAttr K C "over")(aP:NoAttr K C "columns")(cA:NoAttr K C "rows")(bw:mg "len"=none)(aG:mg "range"=none)(jX:mg "list"=none):
  FnOk P w K mg base CX0 1 f fd ["self","sets","wants"] (Az K C):=by
 refine F.ok Ec (fun vs H Q E h=> ?_) (fun cdv A outer s H vs Q E hr h=> ?_)
 ·obtain⟨o,dx,sl,wa,H0,its,wl,rfl,_⟩:=h
  rfl
 obtain⟨o,dx,sl,wa,H0,its,wl,rfl,hO,hS0,h0,hS,hP,hW,hn,hm,qq⟩:=h
 refine⟨_,(aO (cV (i:=3) Ec.nd rfl (Or.inr rfl) (fM qd rfl bw oU (aj (pv 2) au))) (aO (ps_fld (pv 0) (KJ (own:=["some"]) (caps:=["n"]) (ix:=[3]) rfl (xW (pv 1)) rfl rfl (.cons rfl rfl .nil) (fun _ _ _ _ _=>(cY (i:=0) (show(["some","n"]:List Str).Nodup from by decide+kernel) rfl (Or.inr rfl))) (fun _ _ _ _ _=>qb) (fun _ _ _ _ _=>(bN op_cat (oH (own:=["place"]) (caps:=["some"]) (ix:=[0]) rfl (Ia rfl aG (aj (pv 1) au)) rfl rfl (.cons rfl rfl .nil) (fun _ _ _ _ _=>(cY (i:=0) (show(["place","some"]:List Str).Nodup from by decide+kernel) rfl (Or.inl rfl))) (fun _ _ _ _ _=>qb) (fun _ _ _ _ _=>(pe_ifExp (kj (vY K hr.units) (pv 0) (pv 1) (by with_unfolding_all rfl)) aK aK))) (pe_lst (aj aK au))))) rfl) (aO (xP (pe_bm RD wci wcj mt_append (oO (pv 0) rfl) (aj (bN op_cat (oH (own:=["want"]) (caps:=[]) (ix:=[]) rfl (Am (pv 2)) rfl rfl .nil (fun _ _ _ _ _=>(cY (i:=0) (show(["want"]:List Str).Nodup from by decide+kernel) rfl (Or.inl rfl))) (fun _ _ _ _ _=>qb) (fun _ _ _ _ _=>(pe_un un_neg (pv 0)))) (pe_lst (aj aK au))) au))) (aO (ps_fld (pv 0) aK rfl) (aO (ps_fld (pv 0) (jV rfl rfl jX rfl aG (aj (pv 3) au)) rfl) (aX (ps_fld (pv 0) (vW rfl rfl jX rfl aG (aj (pv 3) (aj (bN qy (pv 3) (fM qd rfl bw oU (aj (pv 1) au))) au))) rfl))))))),?_⟩
 refine⟨_,rfl,wa,_,rfl,.inr hW,fun _=> ?_⟩
 rw[aF]
 refine⟨_,rfl,sl,_,rfl,SqL.of hS,fun hz=> ?_⟩
 refine HY (xs:=its.map fun p=>V.ref p.1) (fun i acc σ H'=>∃as:List Addr,acc=as.map V.ref/\as.length=i/\Same H H'/\(∀r a,as[r]? =some a->H' a=some (.lst (aQ wl.length ((Sx.start wl.length its.length (dY (its.map (·.2))) (jD wl)).cell r))))/\∃o1,σ=[o1,some (.int (wl.length:Int))]) ⟨[],rfl,rfl,Same.refl _,fun r a e=>(nomatch e),_,rfl⟩ (fun i acc σ H' _ x=> ?_) (fun i acc σ H' _ x=> ?_) hz (fun i v acc σ H1 hv x=> ?_) (fun acc σ H1 x=> ?_)
 ·obtain⟨_,_,_,sm,_⟩:=x
  exact sm.seq (SqL.of hS)
 ·obtain⟨as,rfl,hl,_⟩:=x
  rw[aF,hl];exact aJ _
 ·obtain⟨as,rfl,hl,sm,has,o1,rfl⟩:=x
  rw[cg]at hv
  cases ev:its[i]? with
  |none=>rw[ev]at hv;cases hv
  |some it=>
   rw[ev]at hv
   cases hv
   have him:i<its.length:=(lC.mp ev).1
   have hit:=hP it (iZ ev)
   have eg:(its.map (·.2)).getD i []=it.2:=by rw[jC,cg,ev];rfl
   refine⟨_,rfl,_,rfl,by omega,by omega,?_⟩
   refine Ob (n:=wl.length) (fun c acc σ H'=>acc=((List.range c).map fun(p:Nat)=>if decide (((p:Nat):Int)∈it.2)=true then(1:Int)else 0).map V.int/\H'=H1/\∃o2,σ=[o2,some (.ref it.1)]) ⟨rfl,rfl,_,rfl⟩ (fun c acc σ H' hc y=> ?_) (by rw[gB];omega) (fun c acc σ H' hc y=> ?_) (fun acc σ H' y=> ?_)
   ·rw[y.1,aF,aF,tW];exact aJ _
   ·obtain⟨rfl,rfl,o2,rfl⟩:=y
    refine⟨_,rfl,_,rfl,it.1,_,_,.int (0+(c:Int)),rfl,.inr (sm.tup hit),dI.ints _,.int _,IK _,rfl,(by show 0<=60;decide),_,rfl,?_⟩
    rw[any_ints,wgf]
    refine ite2 (fun z=> ?_) (fun z=> ?_)
    ·exact⟨by rw[vq,bQ,bQ];show _=_++[V.int (if _ then _ else _)];rw[ao z],rfl,_,rfl⟩
    ·exact⟨by rw[vq,bQ,bQ];show _=_++[V.int (if _ then _ else _)];rw[ak z],rfl,_,rfl⟩
   ·intro p1 hp1
    obtain⟨rfl,rfl,_⟩:=y
    have s1:=aV hp1 (.lst (((List.range wl.length).map fun(p:Nat)=>if decide (((p:Nat):Int)∈it.2)=true then(1:Int)else 0).map V.int))
    refine⟨(by show 1<=sizeLine;decide),fun p2 hp2=> ?_⟩
    have s2:=aV hp2 (.lst [.int 1])
    refine⟨p1,p2,_,_,rfl,rfl,s2 _ _ aH,aH,(by rw[aF,aF,tW,gB];show _+1<=_;omega),fun p3 hp3=> ?_⟩
    have s3:=aV hp3 (.lst (((List.range wl.length).map fun(p:Nat)=>if decide (((p:Nat):Int)∈it.2)=true then(1:Int)else 0).map V.int++[.int 1]))
    have xU:=s1.trans (s2.trans s3)
    refine⟨as++[p3],by rw[bQ];rfl,by rw[qC,hl];rfl,sm.trans xU,fun r a e=> ?_,_,rfl⟩
    rw[wdk]at e
    by_cases c:r<as.length
    ·rw[ao c]at e
     exact xU _ _ (has r a e)
    ·rw[ak c]at e
     have Zz:r-as.length=0:=by
      have:=(lC.mp e).1
      have:r-as.length<1:=this
      omega
     rw[Zz]at e
     cases e
     have:r=i:=by omega
     subst this
     rw[aH,<-Uo (wt:=jD wl) him,eg]
 ·intro p1 hp1
  obtain⟨as,rfl,hl,sm,has,_⟩:=x
  rw[aF]at hl
  have s1:=aV hp1 (.lst (as.map V.ref))
  have hO1:=(sm.trans s1) _ _ hO
  refine⟨_,rfl,o,C,dx,_,rfl,hO1,Cc,aR,(by show 0<1000;decide),?_⟩
  -- what lies beside the object
  have np:p1≠o:=(lN (sm _ _ hO) hp1).symm
  have h10:H p1=none:=sm.none hp1
  have Nb:∀r a,as[r]? =some a->a≠o/\a≠p1:=fun r a e=>⟨fun z=>(by have y:=has r a e;rw[z,sm _ _ hO]at y;cases y),fun z=>(by have y:=has r a e;rw[z,hp1]at y;cases y)⟩
  have W2:SqT K (upd (upd H1 p1 (.lst (as.map V.ref))) o (.ins C dx (putF "cells" (.ref p1) []))) wa (wl.map V.int):=((sm.trans s1).tup hW).aac hO1
  have S2:(upd (upd H1 p1 (.lst (as.map V.ref))) o (.ins C dx (putF "cells" (.ref p1) []))) sl=some (.lst (its.map fun p=>V.ref p.1)):=by
   rw[cG (ne_of ((sm.trans s1) _ _ hS) hO1 fun e=>nomatch e)];exact(sm.trans s1) _ _ hS
  have A2:∀r a,as[r]? =some a->(upd (upd H1 p1 (.lst (as.map V.ref))) o (.ins C dx (putF "cells" (.ref p1) []))) a=some (.lst (aQ wl.length ((Sx.start wl.length its.length (dY (its.map (·.2))) (jD wl)).cell r))):=fun r a e=>by
   rw[cG (Nb r a e).1];exact s1 _ _ (has r a e)
  have P2:(upd (upd H1 p1 (.lst (as.map V.ref))) o (.ins C dx (putF "cells" (.ref p1) []))) p1=some (.lst (as.map V.ref)):=by rw[cG np,aH]
  have O2:(upd (upd H1 p1 (.lst (as.map V.ref))) o (.ins C dx (putF "cells" (.ref p1) []))) o=some (.ins C dx [("cells",.ref p1)]):=aH
  have Z2:Same H0 (upd (upd H1 p1 (.lst (as.map V.ref))) o (.ins C dx (putF "cells" (.ref p1) []))):=Same.uf (hS0.trans (sm.trans s1)) h0
  generalize (upd (upd H1 p1 (.lst (as.map V.ref))) o (.ins C dx (putF "cells" (.ref p1) [])))=H2 at *
  refine⟨_,rfl,o,C,dx,_,_,rfl,O2,Cc,aR,rfl,.inl ⟨rfl,_,SqL.of P2⟩,_,rfl,wa,_,rfl,W2,fun hz2=> ?_⟩
  refine Iz (xs:=wl.map V.int) (fun i acc σ H'=>acc=((wl.take i).map fun x=> -x).map V.int/\H'=H2/\∃o2,σ=[o2]) ⟨rfl,rfl,_,rfl⟩ (fun i acc σ H' _ y=>by rw[y.2.1];exact W2) (fun i acc σ H' _ y=> ?_) hz2 (fun i v acc σ H' hv y=> ?_) (fun acc σ H' y=> ?_)
  ·rw[y.1,aF,aF,vA];exact Dj _ _
  ·obtain⟨rfl,rfl,o2,rfl⟩:=y
   rw[cg]at hv
   cases ev:wl[i]? with
   |none=>rw[ev]at hv;cases hv
   |some x=>
    rw[ev]at hv
    cases hv
    exact⟨_,rfl,_,rfl,by rw[rE,ev,bQ,bQ];rfl,rfl,_,rfl⟩
  intro p2 hp2
  obtain⟨rfl,rfl,_⟩:=y
  rw[aF,qe]
  have s2:=aV hp2 (.lst ((wl.map fun x=> -x).map V.int))
  refine⟨(by show 1<=sizeLine;decide),fun p3 hp3=> ?_⟩
  have s3:=aV hp3 (.lst [.int 0])
  refine⟨p2,p3,_,_,rfl,rfl,s3 _ _ aH,aH,(by rw[aF,aF,gB];show _+1<=_;omega),fun p4 hp4=> ?_⟩
  have s4:=aV hp4 (.lst ((wl.map fun x=> -x).map V.int++[.int 0]))
  have WM:=s2.trans (s3.trans s4)
  rw[Px (m:=its.length) (L:=its.map (·.2))]at WM s4⊢
  have e4:(upd (upd (upd H' p2 (.lst ((wl.map fun x=> -x).map V.int))) p3 (.lst [.int 0])) p4 (.lst (aQ wl.length ((Sx.start wl.length its.length (dY (its.map (·.2))) (jD wl)).cell its.length)))) p4=some (.lst (aQ wl.length ((Sx.start wl.length its.length (dY (its.map (·.2))) (jD wl)).cell its.length))):=aH
  have n4:p4≠p1:=(lN (s3 _ _ (s2 _ _ P2)) hp4).symm
  have n4o:p4≠o:=(lN (s3 _ _ (s2 _ _ O2)) hp4).symm
  have P3:=WM _ _ P2
  have O3:=WM _ _ O2
  have S3:=WM _ _ S2
  have Z3:=Z2.trans WM
  have A3:∀r a,as[r]? =some a->_:=fun r a e=>WM _ _ (A2 r a e)
  generalize (upd (upd (upd H' p2 (.lst ((wl.map fun x=> -x).map V.int))) p3 (.lst [.int 0])) p4 (.lst (aQ wl.length ((Sx.start wl.length its.length (dY (its.map (·.2))) (jD wl)).cell its.length))))=H3 at *
  refine⟨p1,_,_,rfl,rfl,P3,(by rw[aF,gB];omega),?_⟩
  -- all rows
  have h1n:H0 p1=none:=hS0.none h10
  have nos:o≠p1:=np.symm
  have nsl:sl≠p1:=(lN hS h10)
  have C4:(upd H3 p1 (.lst (as.map V.ref++[.ref p4]))) p1=some (.lst ((as++[p4]).map V.ref)):=by rw[aH,bQ];rfl
  have O4:(upd H3 p1 (.lst (as.map V.ref++[.ref p4]))) o=some (.ins C dx [("cells",.ref p1)]):=by rw[cG nos];exact O3
  have S4:(upd H3 p1 (.lst (as.map V.ref++[.ref p4]))) sl=some (.lst (its.map fun p=>V.ref p.1)):=by rw[cG nsl];exact S3
  have Z4:Same H0 (upd H3 p1 (.lst (as.map V.ref++[.ref p4]))):=Same.uf Z3 h1n
  have R4:∀r a,(as++[p4])[r]? =some a->(upd H3 p1 (.lst (as.map V.ref++[.ref p4]))) a=some (.lst (aQ wl.length ((Sx.start wl.length its.length (dY (its.map (·.2))) (jD wl)).cell r)))/\a≠o:=fun r a e=>by
   rw[wdk]at e
   by_cases c:r<as.length
   ·rw[ao c]at e
    refine⟨?_,(Nb r a e).1⟩
    rw[cG (Nb r a e).2];exact A3 r a e
   ·rw[ak c]at e
    have Zz:r-as.length=0:=by
     have:=(lC.mp e).1
     have:r-as.length<1:=this
     omega
    rw[Zz]at e
    cases e
    have:r=its.length:=by omega
    subst this
    refine⟨?_,n4o⟩
    rw[cG n4];exact e4
  generalize (upd H3 p1 (.lst (as.map V.ref++[.ref p4])))=H4 at *
  refine⟨_,rfl,o,C,dx,_,rfl,O4,Cc,dD,(by show 1<1000;decide),?_⟩
  have O5:(upd H4 o (.ins C dx (putF "over" (.int 1) [("cells",.ref p1)]))) o=some (.ins C dx [("cells",.ref p1),("over",.int 1)]):=aH
  have k5:∀b u,b≠o->H4 b=some u->(upd H4 o (.ins C dx (putF "over" (.int 1) [("cells",.ref p1)]))) b=some u:=fun b u hb e=>by rw[cG hb];exact e
  have nso:sl≠o:=ne_of S4 O4 fun e=>nomatch e
  have C5:=k5 _ _ np C4
  have S5:=k5 _ _ nso S4
  have Z5:Same H0 (upd H4 o (.ins C dx (putF "over" (.int 1) [("cells",.ref p1)]))):=Same.uf Z4 h0
  have R5:∀r a,(as++[p4])[r]? =some a->_:=fun r a e=>k5 _ _ (R4 r a e).2 (R4 r a e).1
  generalize (upd H4 o (.ins C dx (putF "over" (.int 1) [("cells",.ref p1)])))=H5 at *
  refine⟨_,rfl,(wl.length:Int),rfl,by omega,by omega,fun co hco=> ?_⟩
  have s6:=aV hco (.lst (cQ (wl.length:Int).toNat))
  have O6:=s6 _ _ O5
  refine⟨_,rfl,o,C,dx,_,rfl,O6,Cc,aP,(by show 2<1000;decide),?_⟩
  have nco:co≠o:=(lN O5 hco).symm
  have k7:∀b u,b≠o->(upd H5 co (.lst (cQ (wl.length:Int).toNat))) b=some u->(upd (upd H5 co (.lst (cQ (wl.length:Int).toNat))) o (.ins C dx (putF "columns" (.ref co) [("cells",.ref p1),("over",.int 1)]))) b=some u:=fun b u hb e=>by rw[cG hb];exact e
  have O7:(upd (upd H5 co (.lst (cQ (wl.length:Int).toNat))) o (.ins C dx (putF "columns" (.ref co) [("cells",.ref p1),("over",.int 1)]))) o=some (.ins C dx [("cells",.ref p1),("over",.int 1),("columns",.ref co)]):=aH
  have C7:=k7 _ _ np (s6 _ _ C5)
  have S7:=k7 _ _ nso (s6 _ _ S5)
  have L7:=k7 _ _ nco aH
  have R7:∀r a,(as++[p4])[r]? =some a->_:=fun r a e=>k7 _ _ (R4 r a e).2 (s6 _ _ (R5 r a e))
  have Z7:Same H0 (upd (upd H5 co (.lst (cQ (wl.length:Int).toNat))) o (.ins C dx (putF "columns" (.ref co) [("cells",.ref p1),("over",.int 1)]))):=Same.uf (Z5.trans s6) h0
  have c0:H0 co=none:=Z5.none hco
  have ncr:co∉as++[p4]:=fun hm=>by
   obtain⟨r,hr1,e⟩:=uG hm
   have:=R5 r _ (gH hr1)
   rw[e,hco]at this;cases this
  generalize (upd (upd H5 co (.lst (cQ (wl.length:Int).toNat))) o (.ins C dx (putF "columns" (.ref co) [("cells",.ref p1),("over",.int 1)])))=H7 at *
  refine⟨_,rfl,_,rfl,_,rfl,sl,_,rfl,.inl (SqL.of S7),fun _=>⟨_,_,rfl,rfl,_,_,rfl,by omega,?_,?_,fun ro YQ=> ?_⟩⟩
  ·rw[aF];omega
  ·rw[aF];omega
  rw[aF]
  have s8:=aV YQ (.lst ((nM (wl.length:Int) ((wl.length:Int)+(its.length:Int)-(wl.length:Int)).toNat).map V.int))
  have O8:=s8 _ _ O7
  refine⟨_,rfl,o,C,dx,_,rfl,O8,Cc,cA,(by show 3<1000;decide),?_⟩
  have nro:ro≠o:=(lN O7 YQ).symm
  have k9:∀b u,b≠o->(upd H7 ro (.lst ((nM (wl.length:Int) ((wl.length:Int)+(its.length:Int)-(wl.length:Int)).toNat).map V.int))) b=some u->(upd (upd H7 ro (.lst ((nM (wl.length:Int) ((wl.length:Int)+(its.length:Int)-(wl.length:Int)).toNat).map V.int))) o (.ins C dx (putF "rows" (.ref ro) [("cells",.ref p1),("over",.int 1),("columns",.ref co)]))) b=some u:=fun b u hb e=>by rw[cG hb];exact e
  refine qq _ ⟨dx,p1,co,ro,as++[p4],Same.uf (Z7.trans s8) h0,h0,h1n,c0,Z7.none YQ,lN L7 YQ,ncr,fun hm=> ?_,aH,k9 _ _ np (s8 _ _ C7),by rw[qC,hl];rfl,fun r a e=>k9 _ _ (R4 r a e).2 (s8 _ _ (R7 r a e)),?_,?_⟩
  ·obtain⟨r,hr1,e⟩:=uG hm
   have:=R7 r _ (gH hr1)
   rw[e,YQ]at this;cases this
  ·rw[k9 _ _ nco (s8 _ _ L7)]
   congr 2
   unfold cQ bR
   rw[Tc,show(wl.length:Int).toNat=wl.length by omega]
   rfl
  ·rw[k9 _ _ nro aH]
   congr 2
   unfold nM bR
   rw[show((wl.length:Int)+(its.length:Int)-(wl.length:Int)).toNat=its.length by omega]
   refine jy _ (Rt fun k _=> ?_)
   show(wl.length:Int)+(k:Int)=((wl.length+k:Nat):Int)
   omega
end
def aL(a:Int)(b:Nat):Int×Nat:=(a/((Nat.gcd a.natAbs b:Nat):Int),b/Nat.gcd a.natAbs b)
theorem Ao(a:Int){b:Nat}(hb:0<b):Low a b (aL a b).1 (aL a b).2:=Lk a b hb
theorem Li{a:Int}{b:Nat}{u u':Int}{v v':Nat}(hb:0<b)(h:Low a b u v)(h':Low a b u' v'):u=u'/\v=v':=by
 have e1:=h.eq
 have e2:=h'.eq
 have bi:(0:Int)<(b:Int):=by omega
 have cr:u*(v':Int)=u'*(v:Int):=by
  refine ydo (a:=(b:Int)) (by omega) ?_
  have x:(b:Int)*(u*(v':Int))=u*(b:Int)*(v':Int):=by grind
  have y:(b:Int)*(u'*(v:Int))=u'*(b:Int)*(v:Int):=by grind
  rw[x,y,e1,e2];grind
 have cn:u.natAbs*v'=u'.natAbs*v:=by
  have:=jy Int.natAbs cr
  rwa [Te,Te,Xk,Xk]at this
 have d1:v∣v':=by
  have:v∣u.natAbs*v':=by rw[cn];exact wdh _ _
  exact(wdi h.cop).dvd_of_dvd_mul_left this
 have d2:v'∣v:=by
  have:v'∣u'.natAbs*v:=by rw[<-cn];exact wdh _ _
  exact(wdi h'.cop).dvd_of_dvd_mul_left this
 have ev:=wft d1 d2
 subst ev
 refine⟨?_,rfl⟩
 have hv:=h.pos
 exact Xq (a:=(v:Int)) (by omega) cr
theorem BP{a:Int}{b:Nat}{u:Int}{v:Nat}(hb:0<b)(h:Low a b u v):(u,v)=aL a b:=by
 obtain⟨e1,e2⟩:=Li hb h (Ao a hb)
 rw[e1,e2]
theorem sI{x y:Int}(h:0<x*y)(hy:0<y):0<x:=by
 refine Int.not_le.mp fun hn=> ?_
 have:=Ai (a:= -x) (b:=y) (by omega) (by omega)
 grind
theorem Ln{a:Int}{b:Nat}(hb:0<b):0<(aL a b).1↔0<a:=by
 have l:=Ao a hb
 have e:=l.eq
 have hv:(0:Int)<((aL a b).2:Int):=by have:=l.pos;omega
 have bi:(0:Int)<(b:Int):=by omega
 constructor
 ·intro h
  have:0<(aL a b).1*(b:Int):=FJ h bi
  rw[e]at this
  exact sI this hv
 ·intro h
  have:0<a*((aL a b).2:Int):=FJ h hv
  rw[<-e]at this
  exact sI this bi
structure Sh(n:Nat)(L:List (List Int))(wl:List Int)(ov:Nat)(Z:Int)(Y X:Nat->Int):Prop where
 pos:0<ov
 big:ov<=39916800
 yn:∀k,0<=Y k
 xn:∀p,0<=X p
 tot:Sx.sm L.length Y=Z
 eno:∀p,p<n->(ov:Int)*jD wl p<=Sx.sm L.length fun k=>if dY L k p=true then Y k else 0
 lig:∀k,k<L.length->(Sx.sm n fun p=>if dY L k p=true then X p else 0)<=(ov:Int)
 wor:(Sx.sm n fun p=>jD wl p*X p)=Z
theorem X8{n:Nat}{L:List (List Int)}{wl:List Int}{T:Sx.Tab}(hg:TG n L.length (dY L) (jD wl) T)(hz:∀c,c<n->0<=T.cell L.length c):
  Sh n L wl T.over.toNat (T.cell L.length n) (fun k=>Sx.Ys n L.length T (n+k)) (fun p=>Sx.Xs n L.length T p):=by
 have ho:=hg.over
 have eo:((T.over.toNat:Nat):Int)=T.over:=by omega
 refine⟨by omega,by omega,fun k=>Sx.Rk hz _,fun p=>hg.good.Rx _,hg.good.total,fun p hp=> ?_,fun k hk=> ?_,hg.good.prices⟩
 ·rw[eo,hg.good.enough hp]
  have:=Sx.Rk hz p
  omega
 ·rw[eo];exact hg.good.light hk
theorem V8{ts:List (Int×Int)}{n:Nat}{ss:List (List Int)}(h:fu ss ts false n){p:Nat}(hp:p<n):∃k,k<ss.length/\dY ss k p=true:=by
 have sk:iI ts false n [(p:Int)]:=⟨Tp _ _,fun x hx=>by rw[fZ.mp hx];omega,fun x hx y hy hn=>absurd ((fZ.mp hx).trans (fZ.mp hy).symm) hn⟩
 obtain⟨t,ht,hx⟩:=zK sk
 have ht':=h.1.mem_iff.mpr ht
 obtain⟨k,hk,rfl⟩:=uG ht'
 refine⟨k,hk,?_⟩
 unfold dY
 rw[jC,gH hk]
 exact gb (hx _ cX)
theorem Bb{ts:List (Int×Int)}{n:Nat}{ss:List (List Int)}(h:fu ss ts false n)(hn:n<=10):ss.length<=36:=by rw[h.1.length_eq];exact uY hn
def YF(ss:List (List Int))(ov:Nat)(Y:Nat->Int):List (List Int×(Int×Nat)):=((List.range ss.length).filter fun k=>decide (0<Y k)).map fun k=>(ss.getD k [],aL (Y k) ov)
def fW(n ov:Nat)(X:Nat->Int):List (Int×Nat):=(List.range n).map fun p=>aL (X p) ov
section
variable{K:W.Frag}
def HN(K:W.Frag)(H:Hp)(a:Addr)(f:Int×Nat):Prop:=SqT K H a [.int f.1,.int ((f.2:Nat):Int)]
def Rb(K:W.Frag)(H:Hp)(v:V)(q:List Int×(Int×Nat)):Prop:=∃t sa fa,v= .ref t/\SqT K H t [.ref sa,.ref fa]/\SqT K H sa (q.1.map V.int)/\HN K H fa q.2
def ux(K:W.Frag)(H:Hp):List V->List (List Int×(Int×Nat))->Prop:=Paired (Rb K H)
def dh(K:W.Frag)(H:Hp):List V->List (Int×Nat)->Prop:=Paired fun v f=>∃a,v= .ref a/\HN K H a f
theorem Rb.same{H H':Hp}{v:V}{q:List Int×(Int×Nat)}(h:Rb K H v q)(s:Same H H'):Rb K H' v q:=by
 obtain⟨t,sa,fa,e,h1,h2,h3⟩:=h
 exact⟨t,sa,fa,e,s.tup h1,s.tup h2,s.tup h3⟩
theorem ux.same{H H':Hp}{vs:List V}{l:List (List Int×(Int×Nat))}(h:ux K H vs l)(s:Same H H'):ux K H' vs l:=Paired.mapP h fun _ _ z=>z.same s
theorem dh.same{H H':Hp}{vs:List V}{l:List (Int×Nat)}(h:dh K H vs l)(s:Same H H'):dh K H' vs l:=Paired.mapP h fun _ _ ⟨a,e,z⟩=>⟨a,e,s.tup z⟩
theorem Paired.snoc{α β:Type}{R:α->β->Prop}:∀{l:List α} {m:List β} {a:α} {b:β},Paired R l m->R a b->Paired R (l++[a]) (m++[b])
 |_,_,_,_,.nil,h=> .cons h .nil
 |_,_,_,_,.cons r t,h=> .cons r (Paired.snoc t h)
theorem Paired.at_{α β:Type}{R:α->β->Prop}:∀{l:List α} {m:List β} {i:Nat} {a:α},Paired R l m->l[i]? =some a->∃b,m[i]? =some b/\R a b
 |_,_,_,_,.nil,e=>by simp at e
 |_,_,0,_,.cons r _,e=>by simp at e;subst e;exact⟨_,rfl,r⟩
 |_,_,i+1,a,.cons _ t,e=>by
  obtain⟨b,h1,h2⟩:=Paired.at_ (i:=i) (a:=a) t (by simpa using e)
  exact⟨b,by simpa using h1,h2⟩
theorem Paired.lF{α β:Type}{R:α->β->Prop}:∀{l:List α} {m:List β},Paired R l m->l.length=m.length
 |_,_,.nil=>rfl
 |_,_,.cons _ t=>by simp[Paired.lF t]
end
section
variable{P:Program}{w:World}{K:W.Frag}{mg:Str->Option Value}{base:Heap}
def xr(n:Int)(wl:List Int):Prop:=(wl.length:Int)=n/\∀x∈wl,0<=x/\x<=99
theorem all_true(k:Nat):(List.replicate k true).all id=true:=by
 rw[oM]
 intro b hb
 rw[(yex.mp hb).2];rfl
def jL(K:W.Frag):Sp:=fun vs H Q _=>∃(a wa:Addr) (n:Int) (t:V) (wl:List Int),vs=[.ref a,.ref wa]/\SqT K H a [.int n,t]/\SqT K H wa (wl.map V.int)/\xr n wl/\∀H',Same H H'->Q .non H'
theorem vO:FnScope ["web","thing"] ["web","thing"] (defScope dN):=fsc
theorem vZ{f f1:Addr}{fd d1:FuncData}{tk0:Tok}(F:Fun K "need_wants" "need_wants" dN f fd)(D1:bJ K mg "is_whole" Rj ["thing"] f1 d1)(G1:FnOk P w K mg base CX0 1 f1 d1 ["thing"] (kJ K))(bw:mg "len"=none)(bV:mg "isinstance"=none)(aZ:mg "tuple"=none)(uT:mg "all"=none)(yS:mg "MOST_WANT"=some (.int 99 tk0)):
  FnOk P w K mg base CX0 2 f fd ["web","thing"] (jL K):=by
 refine F.ok vO (fun vs H Q E h=> ?_) (fun cdv A outer s H vs Q E hr h=> ?_)
 ·obtain⟨a,wa,n,t,wl,rfl,_⟩:=h
  rfl
 obtain⟨a,wa,n,t,wl,rfl,hA,hW,⟨hl,hb⟩,qq⟩:=h
 refine⟨_,(aO (mY (PW.pt (pw_or (pt_not (uD (fM dU rfl bV (by decide+kernel) (aj (pv 1) (aj (pe_bltn rfl aZ (v:= .ty "tuple") (by decide+kernel) rfl) au))))) (pw_or1 (kj op_ne (fM qd rfl bw oU (aj (pv 1) au)) (bB gQ (pv 0) aK (fun _ _=>rfl)) (nomark _))))) pss_never oJ) (aX (mY (pt_not (uD (fM (gK rfl) rfl uT (by decide+kernel) (aj (oH (own:=["want"]) (caps:=[]) (ix:=[]) rfl (Am (pv 1)) rfl rfl .nil (fun _ _ _ _ _=>(cY (i:=0) (show(["want"]:List Str).Nodup from by decide+kernel) rfl (Or.inl rfl))) (fun _ _ _ _ _=>qb) (fun _ _ _ _ _=>(pe_and (pc G1 hr D1 (aj (pv 0) au)) (pe_one (pe_chain op_le op_le aK (pv 0) (pe_glob rfl yS (v:= .int 99) ⟨_,rfl⟩)))))) au)))) pss_never oJ))),?_⟩
 refine⟨_,rfl,.ref wa,"tuple",_,rfl,.inl ⟨rfl,_,hW⟩,.inr (.inr (.inl rfl)),_,rfl,?_⟩
 refine iteF ?_
 refine⟨_,rfl,wa,_,rfl,.inr hW,fun hz=>⟨_,rfl,a,_,_,.int n,rfl,rfl,hA,rfl,rfl,_,rfl,?_⟩⟩
 have e1:(!decide (V.int (((wl.map V.int).length:Nat):Int)=V.int n))=false:=by rw[aF,hl];simp
 rw[e1]
 refine iteF ?_
 refine⟨_,rfl,wa,_,rfl,hW,fun hz=> ?_⟩
 refine Iz (xs:=wl.map V.int) (fun i acc σ H'=>acc=(List.replicate i true).map V.bl/\H'=H/\∃o,σ=[o]) ⟨rfl,rfl,_,rfl⟩ (fun i acc σ H' _ p=>by rw[p.2.1];exact hW) (fun i acc σ H' _ p=>by rw[p.1,aF,Tn];exact aJ _) hz (fun i x acc σ H' hx p=> ?_) (fun acc σ H' p=> ?_)
 ·obtain⟨rfl,rfl,o,rfl⟩:=p
  rw[cg]at hx
  cases ex:wl[i]? with
  |none=>rw[ex]at hx;cases hx
  |some y=>
   rw[ex]at hx
   cases hx
   have hy:=hb y (iZ ex)
   refine⟨_,rfl,.int y,.int y,rfl,.int _,_,rfl,iteT ?_⟩
   refine⟨_,rfl,_,_,rfl,rfl,_,rfl,?_⟩
   rw[gb hy.1]
   refine iteT ?_
   refine⟨_,_,rfl,rfl,?_,rfl,_,rfl⟩
   show _++[V.bl (decide (y<=99))]=_
   rw[gb hy.2,wdl,bQ];rfl
 ·intro p1 hp1
  obtain⟨rfl,rfl,_⟩:=p
  refine⟨p1,_,rfl,SqL.of aH,_,rfl,?_⟩
  rw[all_true]
  exact iteF (qq _ (aV hp1 _))
def yh(K:W.Frag):Sp:=fun vs H Q _=>∃(a wa:Addr) (n:Int) (ts:List (Int×Int)) (wl:List Int),vs=[.ref a,.ref wa]/\bA K H a n ts/\SqT K H wa (wl.map V.int)/\xr n wl/\
 ∀(r va la pa:Addr) (lrefs aM:List V) (ss:List (List Int)) (ov:Nat) (Z:Int) (Y X:Nat->Int) H',Same H H'->H' r=some (.tup [.ref va,.ref la,.ref pa])->HN K H' va (aL Z ov)->H' la=some (.lst lrefs)->ux K H' lrefs (YF ss ov Y)->H' pa=some (.lst aM)->dh K H' aM (fW n.toNat ov X)->
  fu ss ts false n.toNat->Sh n.toNat ss wl ov Z Y X->H la=none->H pa=none->la≠pa->Q (.ref r) H'
theorem eN:FnScope ["web","wants","n","sets","tableau","given","laying","prices"] ["web","wants"] (defScope nu):=fsc
theorem Gz{f f1 f2 f3 f4 f5 f6 f7 f8 C:Addr}{fd d1 d2 d3 d4 d5 d6 d7 d8:FuncData}(F:Fun K "shares" "shares" nu f fd)
  (Cc:Cls K C)(aR:NoAttr K C "cells")(dD:NoAttr K C "over")(aP:NoAttr K C "columns")(cA:NoAttr K C "rows")(pC:mg "Tableau"=some (.ref C))(D1:bJ K mg "need_web" IV ["thing"] f1 d1)(G1:FnOk P w K mg base CX0 7 f1 d1 ["thing"] (cR K))(D2:bJ K mg "need_wants" dN ["web","thing"] f2 d2)(G2:FnOk P w K mg base CX0 2 f2 d2 ["web","thing"] (jL K))(D3:bJ K mg "full_apart" S9 ["web"] f3 d3)(G3:FnOk P w K mg base CX0 8 f3 d3 ["web"] (fB K))(D4:HJ K C "__init__" "Tableau.__init__" Z6 ["self","sets","wants"] f4 d4)(Mk4:Mk K C f4)(aaL:FnOk P w K mg base CX0 1 f4 d4 ["self","sets","wants"] (Az K C))(D5:HJ K C "solve" "Tableau.solve" Z9 ["self"] f5 d5)(G5':FnOk P w K mg base CX0 3 f5 d5 ["self"] (JD K C))(D6:HJ K C "share_of" "Tableau.share_of" zbw ["self","name"] f6 d6)(G6':FnOk P w K mg base CX0 4 f6 d6 ["self","name"] (JF K C))(D7:HJ K C "price_of" "Tableau.price_of" zbx ["self","name"] f7 d7)(G7':FnOk P w K mg base CX0 4 f7 d7 ["self","name"] (JG K C))(D8:HJ K C "fraction_at" "Tableau.fraction_at" Wk ["self","row","column"] f8 d8)(G8':FnOk P w K mg base CX0 3 f8 d8 ["self","row","column"] (yg K C))(cJ:mg "enumerate"=none)(aG:mg "range"=none):
  FnOk P w K mg base CX0 9 f fd ["web","wants"] (yh K):=by
 have G4m:FnOk P w K mg base CX0 7 f4 d4 ["self","sets","wants"] (Az K C):=aaL.mono (by decide)
 have G5:FnOk P w K mg base CX0 8 f5 d5 ["self"] (JD K C):=G5'.mono (by decide)
 have G6:FnOk P w K mg base CX0 8 f6 d6 ["self","name"] (JF K C):=G6'.mono (by decide)
 have G7:FnOk P w K mg base CX0 8 f7 d7 ["self","name"] (JG K C):=G7'.mono (by decide)
 have G8:FnOk P w K mg base CX0 8 f8 d8 ["self","row","column"] (yg K C):=G8'.mono (by decide)
 refine F.ok eN (fun vs H Q E h=> ?_) (fun cdv A outer s H vs Q E hr h=> ?_)
 ·obtain⟨a,wa,n,ts,wl,rfl,_⟩:=h
  rfl
 obtain⟨a,wa,n,ts,wl,rfl,hA,hW,hwl,qq⟩:=h
 refine⟨_,(aO (xP (pc G1 hr D1 (aj (pv 0) au))) (aO (xP (pc G2 hr D2 (aj (pv 0) (aj (pv 1) au)))) (aO (cV (i:=2) eN.nd rfl (Or.inr rfl) (bB gQ (pv 0) aK (fun _ _=>rfl))) (aO (cV (i:=3) eN.nd rfl (Or.inl rfl) (pc G3 hr D3 (aj (pv 0) au))) (aO (cV (i:=4) eN.nd rfl (Or.inr rfl) (pe_make Mk4 G4m hr rfl pC D4.b .nil pass0 (aj (pv 3) (aj (pv 1) au)))) (aO (xP (pe_meth0 (pv 4) Cc D5.m G5 hr D5.b .nil pass0)) (aO (SX (i:=5) (own:=["k","some"]) (caps:=["tableau","n"]) (ix:=[4,2]) eN.nd rfl (Or.inl rfl) rfl (qW rfl cJ (aj (pv 3) au)) rfl rfl (.cons rfl rfl (.cons rfl rfl .nil)) (fun _ _ _ _ _=>(iu K (n:=2) rfl (tV (cY (i:=0) (show(["k","some","tableau","n"]:List Str).Nodup from by decide+kernel) rfl (Or.inl rfl)) (tV (cY (i:=1) (show(["k","some","tableau","n"]:List Str).Nodup from by decide+kernel) rfl (Or.inl rfl)) pgs_nil)))) (fun _ _ _ _ _=>qb) (fun _ _ _ _ _=>(oG (aj (pv 1) (aj (pe_meth (pv 2) Cc D6.m G6 hr D6.b .nil pass0 (aj (bN qy (pv 3) (pv 0)) au)) au))))) (aO (SX (i:=6) (own:=["share"]) (caps:=[]) (ix:=[]) eN.nd rfl (Or.inl rfl) rfl (xW (pv 5)) rfl rfl .nil (fun _ _ _ _ _=>(cY (i:=0) (show(["share"]:List Str).Nodup from by decide+kernel) rfl (Or.inl rfl))) (fun _ _ _ _ _=>fj (kj op_gt (bB (Fx K) (bB (Fx K) (pv 0) aK (fun _ _=>rfl)) aK (fun _ _=>rfl)) aK (nomark _))) (fun _ _ _ _ _=>(pv 0))) (aO (SX (i:=7) (own:=["place"]) (caps:=["tableau"]) (ix:=[4]) eN.nd rfl (Or.inl rfl) rfl (Ia rfl aG (aj (pv 2) au)) rfl rfl (.cons rfl rfl .nil) (fun _ _ _ _ _=>(cY (i:=0) (show(["place","tableau"]:List Str).Nodup from by decide+kernel) rfl (Or.inl rfl))) (fun _ _ _ _ _=>qb) (fun _ _ _ _ _=>(pe_meth (pv 1) Cc D7.m G7 hr D7.b .nil pass0 (aj (pv 0) au)))) (aX (cF (oG (aj (pe_meth (pv 4) Cc D8.m G8 hr D8.b .nil pass0 (aj (pe_un un_neg aK) (aj (pe_un un_neg aK) au))) (aj (pv 6) (aj (pv 7) au))))))))))))))),?_⟩
 have h0:=hA.h0
 have h10:=hA.h1
 refine⟨_,rfl,.ref a,_,rfl,hA.web.dv.dx,hA.ok,fun H1 s1=> ?_⟩
 obtain⟨tt1,rr1,w1,w2,w3⟩:=id (hA.same s1).web
 refine⟨_,rfl,_,rfl,a,wa,n,_,wl,rfl,w1,s1.tup hW,hwl,fun H2 s2=> ?_⟩
 have s12:=s1.trans s2
 have hA2:=hA.same s12
 obtain⟨tt2,rr2,x1,x2,x3⟩:=id hA2.web
 refine⟨_,rfl,a,_,_,.int n,rfl,rfl,x1,rfl,?_⟩
 refine⟨_,rfl,a,n,ts,rfl,hA2,fun sl ss H3 s3 LC jA hsl=> ?_⟩
 obtain⟨its,hS,hP,hss⟩:=LC
 have xU:=s12.trans s3
 have hm:its.length=ss.length:=by rw[<-hss,aF]
 have aaS:=Bb jA (by omega)
 have hwn:wl.length=n.toNat:=by have:=hwl.1;omega
 refine⟨_,rfl,_,rfl,fun o dx ho hdx hne=> ?_⟩
 have sM:Same H3 (upd (upd H3 dx (.own o)) o (.ins C dx [])):=(aV hdx _).trans (aV (by rw[cG (lO hne)];exact ho) _)
 refine⟨o,dx,sl,wa,H3,its,wl,rfl,aH,sM,ho,sM _ _ hS,fun p hp=>sM.tup (hP p hp),sM.tup (xU.tup hW),by omega,by omega,fun H4 WX=>⟨rfl,?_⟩⟩
 rw[hss,hm,hwn]at WX
 have Y7:Sta n.toNat ss.length (dY ss) (jD wl):=by
  refine⟨by omega,by omega,fun p hp=> ?_,fun p hp=>V8 jA hp⟩
  unfold jD
  rw[jC,gH (by omega)]
  exact hwl.2 _ (I9 _)
 obtain⟨dx4,cl4,co4,ro4,rw4,hA4⟩:=id WX
 refine⟨_,rfl,o,dx4,_,rfl,hA4.at_,rfl,o,H3,n.toNat,ss.length,dY ss,jD wl,_,rfl,WX,Y7,Sx.Ay,fun T H5 hT5 hg5 hz5=> ?_⟩
 have hG:=Y7.tg hg5
 have hSh:=X8 hG hz5
 obtain⟨dx5,cl5,co5,ro5,rw5,hA5⟩:=id hT5
 have WL:=hA5.same
 have xV:=hSh.pos
 generalize hY:(fun k=>Sx.Ys n.toNat ss.length T (n.toNat+k))=Y at *
 generalize hX:(fun p=>Sx.Xs n.toNat ss.length T p)=X at *
 -- given
 refine⟨_,rfl,false,sl,_,rfl,SqL.of (WL _ _ hS),fun hz=> ?_⟩
 refine pG (K:=K) (b:=false) (a:=sl) (xs:=its.map fun p=>V.ref p.1) (fun i acc σ H'=>ux K H' acc ((List.range i).map fun k=>(ss.getD k [],aL (Y k) T.over.toNat))/\Same H5 H'/\∃o1 o2,σ=[o1,o2,some (.ref o),some (.int n)]) ⟨.nil,Same.refl _,_,_,rfl⟩ (fun i acc σ H' _ p=>p.2.1.seq (SqL.of (WL _ _ hS))) (fun i acc σ H' _ p=> ?_) hz (fun i v t acc σ H' hv p ht=> ?_) (fun acc σ H' p=> ?_)
 ·rw[Paired.lF p.1,aF,tW];exact aJ _
 ·obtain⟨hl,sm,o1,o2,rfl⟩:=p
  rw[cg]at hv
  cases ev:its[i]? with
  |none=>rw[ev]at hv;cases hv
  |some it=>
   rw[ev]at hv
   cases hv
   have eg:ss.getD i []=it.2:=by rw[<-hss,jC,cg,ev];rfl
   have t1:=aV ht (.tup [.int (i:Int),.ref it.1])
   have WW:=hT5.sm (sm.trans t1)
   obtain⟨dx6,cl6,co6,ro6,rw6,hA6⟩:=id WW
   refine⟨t,_,rfl,SqT.of aH,rfl,_,_,rfl,_,_,rfl,rfl,?_⟩
   refine⟨_,rfl,_,rfl,o,dx6,_,rfl,hA6.at_,rfl,_,rfl,_,rfl,_,_,rfl,rfl,o,H3,n.toNat,ss.length,n.toNat+i,dY ss,jD wl,T,?_,WW,hG,fun fa H7 u v' s7 e7 l7=> ?_⟩
   ·rw[show(((n.toNat+i:Nat)):Int)=n+(i:Int) by omega];rfl
   ·refine⟨(by show 2<=sizeLine;decide),fun tp htp=> ?_⟩
    have s8:=aV htp (.tup [.ref it.1,.ref fa])
    have s68:=t1.trans (s7.trans s8)
    have hlow:(u,v')=aL (Y i) T.over.toNat:=by rw[<-hY];exact BP xV l7
    refine⟨?_,sm.trans s68,_,_,rfl⟩
    rw[vq,bQ]
    refine Paired.snoc (ux.same hl s68) ⟨tp,it.1,fa,rfl,SqT.of aH,?_,?_⟩
    ·show SqT K _ it.1 ((ss.getD i []).map V.int)
     rw[eg]
     exact(WL.trans (sm.trans s68)).tup (hP it (iZ ev))
    ·show HN K _ fa (aL (Y i) T.over.toNat)
     rw[<-hlow]
     exact s8.tup (SqT.of e7)
 intro gl hgl
 obtain⟨hl,sm5,_⟩:=p
 rw[aF,hm]at hl
 have g1:=aV hgl (.lst acc)
 have s6:=sm5.trans g1
 have eg1:(upd H' gl (.lst acc)) gl=some (.lst acc):=aH
 have N8:=ux.same hl g1
 generalize (upd H' gl (.lst acc))=H6 at *
 -- laying
 refine⟨_,rfl,gl,_,rfl,SqL.of eg1,fun hz=> ?_⟩
 refine HY (xs:=acc) (fun i acc' σ H'=>H'=H6/\ux K H6 acc' (((List.range i).filter fun k=>decide (0<Y k)).map fun k=>(ss.getD k [],aL (Y k) T.over.toNat))/\∃o1,σ=[o1]) ⟨rfl,.nil,_,rfl⟩ (fun i acc' σ H' _ p=>by rw[p.1];exact SqL.of eg1) (fun i acc' σ H' _ p=> ?_) hz (fun i v acc' σ H' hv p=> ?_) (fun acc' σ H' p=> ?_)
 ·rw[Paired.lF p.2.1,aF]
  exact bZ (xR _ _) (by rw[tW];exact aJ _)
 ·obtain⟨rfl,hl',o1,rfl⟩:=p
  obtain⟨qv,eq1,hv1⟩:=Paired.at_ N8 hv
  have hi:i<ss.length:=by
   have:=(lC.mp hv).1
   rw[Paired.lF N8,aF,tW]at this
   exact this
  rw[cg,Ru hi]at eq1
  have eq2:qv=(ss.getD i [],aL (Y i) T.over.toNat):=(rH eq1).symm
  obtain⟨t,sa,fa,rfl,h1,h2,h3⟩:=id hv1
  have h3':HN K H' fa (aL (Y i) T.over.toNat):=by rw[eq2]at h3;exact h3
  refine⟨_,rfl,t,_,_,.ref fa,rfl,rfl,h1,rfl,fa,_,_,.int (aL (Y i) T.over.toNat).1,rfl,rfl,h3',rfl,_,_,rfl,rfl,_,rfl,?_⟩
  have go:((List.range (i+1)).filter fun k=>decide (0<Y k))=((List.range i).filter fun k=>decide (0<Y k))++(if decide (0<Y i)=true then[i]else[]):=by
   rw[vq,Ti]
   congr 1
   rw[Og]
   split<;>rfl
  have ed:decide (0<(aL (Y i) T.over.toNat).1)=decide (0<Y i):=decide_eq_decide.mpr (Ln xV)
  refine ite2 (fun c=> ?_) (fun c=> ?_)
  ·have c':decide (0<Y i)=true:=by rw[<-ed];exact c
   refine⟨_,rfl,rfl,?_,_,rfl⟩
   rw[go,ao c',bQ]
   refine Paired.snoc hl' ?_
   rw[eq2]at hv1
   exact hv1
  ·have c':¬decide (0<Y i)=true:=by rw[<-ed];exact c
   refine⟨rfl,?_,_,rfl⟩
   rw[go,ak c',uF]
   exact hl'
 intro la hla
 obtain⟨rfl,hlay,_⟩:=p
 rw[Paired.lF N8,aF,tW]at hlay
 have g2:=aV hla (.lst acc')
 have s7:=s6.trans g2
 have ela:(upd H' la (.lst acc')) la=some (.lst acc'):=aH
 have YW:=ux.same hlay g2
 have zm:=hT5.sm s7
 generalize (upd H' la (.lst acc'))=H7 at *
 -- prices
 refine⟨_,rfl,n,rfl,by omega,by omega,?_⟩
 refine Ob (n:=n.toNat) (fun i xq σ H2=>dh K H2 xq ((List.range i).map fun p=>aL (X p) T.over.toNat)/\Same H7 H2/\∃o1,σ=[o1,some (.ref o)]) ⟨.nil,Same.refl _,_,rfl⟩ (fun i xq σ H2 hi p=> ?_) (by rw[gB];omega) (fun i xq σ H2 hi p=> ?_) (fun xq σ H2 p=> ?_)
 ·rw[Paired.lF p.1,aF,tW];exact aJ _
 ·obtain⟨hf,sm,o1,rfl⟩:=p
  have hT8:=zm.sm sm
  obtain⟨dx8,cl8,co8,ro8,rw8,hA8⟩:=id hT8
  refine⟨_,rfl,o,dx8,_,rfl,hA8.at_,rfl,_,rfl,o,H3,n.toNat,ss.length,i,dY ss,jD wl,T,by rw[wgf];rfl,hT8,hG,fun fa H9 u v' s9 e9 l9=> ?_⟩
  have hlow:(u,v')=aL (X i) T.over.toNat:=by rw[<-hX];exact BP xV l9
  refine⟨?_,sm.trans s9,_,rfl⟩
  rw[vq,bQ]
  refine Paired.snoc (dh.same hf s9) ⟨fa,rfl,?_⟩
  show HN K H9 fa (aL (X i) T.over.toNat)
  rw[<-hlow]
  exact SqT.of e9
 intro pa hpa
 obtain⟨hf,sm7,_⟩:=p
 have g3:=aV hpa (.lst xq)
 have s8:=sm7.trans g3
 have epa:(upd H2 pa (.lst xq)) pa=some (.lst xq):=aH
 have hf8:=dh.same hf g3
 have hT8:=zm.sm s8
 have nlp:la≠pa:=lN (sm7 _ _ ela) hpa
 generalize (upd H2 pa (.lst xq))=H8 at *
 obtain⟨dx8,cl8,co8,ro8,rw8,hA8⟩:=id hT8
 refine⟨_,rfl,o,dx8,_,rfl,hA8.at_,rfl,_,rfl,_,rfl,o,H3,n.toNat,ss.length,ss.length,n.toNat,_,_,dY ss,jD wl,T,rfl,hT8,hG,.inr ⟨rfl,rfl⟩,.inr ⟨rfl,rfl⟩,fun va H9 u v' s9 e9 l9=> ?_⟩
 refine⟨_,rfl,_,rfl,(by show 3<=sizeLine;decide),fun r hr'=> ?_⟩
 have s10:=aV hr' (.tup [.ref va,.ref la,.ref pa])
 have Ku:=s9.trans s10
 have hlow:(u,v')=aL (T.cell ss.length n.toNat) T.over.toNat:=BP xV l9
 refine qq r va la pa acc' xq ss T.over.toNat (T.cell ss.length n.toNat) Y X _ (xU.trans (WL.trans (s7.trans (s8.trans Ku)))) aH ?_ ((s8.trans Ku) _ _ ela) (ux.same YW (s8.trans Ku)) (Ku _ _ epa) (dh.same hf8 Ku) jA hSh ?_ ?_ nlp
 ·rw[<-hlow];exact s10.tup (SqT.of e9)
 ·exact(xU.trans (WL.trans s6)).none hla
 ·exact(xU.trans (WL.trans (s7.trans sm7))).none hpa
def lE(n:Nat):List Int:=List.replicate n 1
def Du(K:W.Frag):Sp:=fun vs H Q _=>∃(a:Addr) (n:Int) (ts:List (Int×Int)),vs=[.ref a]/\bA K H a n ts/\
 ∀(va:Addr) (ss:List (List Int)) (ov:Nat) (Z:Int) (Y X:Nat->Int) H',Same H H'->HN K H' va (aL Z ov)->fu ss ts false n.toNat->Sh n.toNat ss (lE n.toNat) ov Z Y X->Q (.ref va) H'
theorem Kg:FnScope ["web"] ["web"] (defScope qR):=fsc
theorem KZ{f f1 f2:Addr}{fd d1 d2:FuncData}(F:Fun K "value" "value" qR f fd)(D1:bJ K mg "need_web" IV ["thing"] f1 d1)(G1:FnOk P w K mg base CX0 7 f1 d1 ["thing"] (cR K))(D2:bJ K mg "shares" nu ["web","wants"] f2 d2)(G2:FnOk P w K mg base CX0 9 f2 d2 ["web","wants"] (yh K)):
  FnOk P w K mg base CX0 10 f fd ["web"] (Du K):=by
 refine F.ok Kg (fun vs H Q E h=> ?_) (fun cdv A outer s H vs Q E hr h=> ?_)
 ·obtain⟨a,n,ts,rfl,_⟩:=h
  rfl
 obtain⟨a,n,ts,rfl,hA,qq⟩:=h
 refine⟨_,(aO (xP (pc G1 hr D1 (aj (pv 0) au))) (aX (cF (bB gQ (pc G2 hr D2 (aj (pv 0) (aj (bN Em (oG (aj aK au)) (bB gQ (pv 0) aK (fun _ _=>rfl))) au))) aK (fun _ _=>rfl))))),?_⟩
 have h0:=hA.h0
 have h10:=hA.h1
 refine⟨_,rfl,.ref a,_,rfl,hA.web.dv.dx,hA.ok,fun H1 s1=> ?_⟩
 obtain⟨tt1,rr1,w1,w2,w3⟩:=id (hA.same s1).web
 refine⟨_,rfl,(by show 1<=sizeLine;decide),fun p1 hp1=> ?_⟩
 have s2:=aV hp1 (.tup [.int 1])
 refine⟨_,rfl,a,_,_,.int n,rfl,rfl,s2.tup w1,rfl,p1,n,_,rfl,rfl,SqT.of aH,(fun e=>nomatch e),by omega,by omega,?_,fun wa H3 s3 h3=> ?_⟩
 ·show 1*n.toNat<=1000
  omega
 have ew:(List.replicate n.toNat [V.int 1]).flatten=(lE n.toNat).map V.int:=by
  unfold lE
  generalize n.toNat=k
  induction k with
  |zero=>rfl
  |succ k ih=>rw[FQ,Ja,ih,FQ];rfl
 rw[ew]at h3
 have xU:=s1.trans (s2.trans s3)
 refine⟨a,wa,n,ts,lE n.toNat,rfl,hA.same xU,h3,⟨by unfold lE;rw[Tn];omega,fun x hx=> ?_⟩,fun r va la pa lrefs aM ss ov Z Y X H4 s4 e1 e2 e3 e4 e5 e6 jA hSh _ _ _=> ?_⟩
 ·rw[(yex.mp hx).2];decide
 exact⟨r,_,_,.ref va,rfl,rfl,SqT.of e1,rfl,qq va ss ov Z Y X H4 (xU.trans s4) e2 jA hSh⟩
end
def zE(D:Nat):List (Int×Nat)->Int
 |[]=>0
 |f::fs=>f.1*((D/f.2:Nat):Int)+zE D fs
theorem rm(D:Nat):∀(l m:List (Int×Nat)),zE D (l++m)=zE D l+zE D m
 |[],m=>by simp[zE]
 |f::l,m=>by simp[zE,rm D l m,Int.add_assoc]
theorem wM(D:Nat)(f:Int×Nat):zE D [f]=f.1*((D/f.2:Nat):Int):=by simp[zE]
structure DOk(D:Nat)(fs:List (Int×Nat)):Prop where
 pos:0<D
 le:D<=39916800
 all:∀f∈fs,0<=f.1/\0<f.2/\f.2∣D
structure iC(D:Nat)(S:Int)(a:Int)(b:Nat):Prop where
 pos:0<b
 dvd:b∣D
 eq:a*((D/b:Nat):Int)=S
theorem iC.le{D b:Nat}{S a:Int}(h:iC D S a b)(hD:0<D):b<=D:=wfi hD h.dvd
theorem Jy{D b v:Nat}{S a u:Int}(hD:0<D)(h:iC D S a b)(hv:0<v)(dv:v∣D):
  iC D (S+u*((D/v:Nat):Int)) (a*((v/Nat.gcd b v:Nat):Int)+u*((b*(v/Nat.gcd b v)/v:Nat):Int)) (b*(v/Nat.gcd b v)):=by
 obtain⟨hb,db,he⟩:=h
 have hg:0<Nat.gcd b v:=wfj _ hb
 obtain⟨b1,eb⟩:=Nat.gcd_dvd_left b v
 obtain⟨v1,ev⟩:=Xh b v
 have dl:Nat.lcm b v∣D:=Nat.lcm_dvd db dv
 have e1:v/Nat.gcd b v=v1:=by
  conv=>lhs;arg 1;rw[ev]
  exact Oj _ hg
 have el:Nat.lcm b v=b*v1:=by
  unfold Nat.lcm
  rw[Nat.mul_div_assoc _ (Xh b v),e1]
 rw[el]at dl
 rw[e1]
 obtain⟨e,eD⟩:=dl
 have hv1:0<v1:=Nat.pos_of_ne_zero fun z=>by rw[z,Nat.mul_zero]at ev;omega
 have hbv:0<b*v1:=Xw hb hv1
 have c1:b*v1=v*b1:=by
  have:b*v1*Nat.gcd b v=v*b1*Nat.gcd b v:=by
   have h1:b*v1*Nat.gcd b v=b*(Nat.gcd b v*v1):=by rw[wfl,Rm v1]
   have h2:v*b1*Nat.gcd b v=v*(Nat.gcd b v*b1):=by rw[wfl,Rm b1]
   rw[h1,h2,<-ev,<-eb,Rm]
  exact Nat.eq_of_mul_eq_mul_right hg this
 have c2:b*v1/v=b1:=by rw[c1];exact Oj _ hv
 have c3:D/(b*v1)=e:=by rw[eD];exact Oj _ hbv
 have c4:D/b=v1*e:=by rw[eD,wfl];exact Oj _ hb
 have c5:D/v=b1*e:=by rw[eD,c1,wfl];exact Oj _ hv
 refine⟨hbv,⟨e,eD⟩,?_⟩
 rw[c2,c3,c5,<-he,c4]
 push_cast
 grind
theorem iC.Ld{D b:Nat}{S a x:Int}(hD:0<D)(h:iC D S a b)(hx:x*(D:Int)<=S):x*(b:Int)<=a:=by
 obtain⟨hb,⟨e,eD⟩,he⟩:=h
 have ee:D/b=e:=by rw[eD];exact Oj _ hb
 have ep:0<e:=Nat.pos_of_ne_zero fun z=>by rw[z,Nat.mul_zero]at eD;omega
 rw[ee]at he
 rw[eD,<-he]at hx
 push_cast at hx
 refine yet (a:=(e:Int)) ?_ (by omega)
 have:x*(b:Int)*(e:Int)=x*((b:Int)*(e:Int)):=by grind
 omega
theorem iC.Lb{D b:Nat}{S a x:Int}(hD:0<D)(h:iC D S a b)(hx:S<=x*(D:Int)):a<=x*(b:Int):=by
 have:=iC.Ld (a:= -a) (S:= -S) (x:= -x) hD ⟨h.pos,h.dvd,by have:=h.eq;grind⟩ (by grind)
 grind
theorem yW{a:Int}{D:Nat}(hD:0<D):(aL a D).2∣D:=⟨Nat.gcd a.natAbs D,(Xj (Xh _ _)).symm⟩
theorem yV{a:Int}{D:Nat}(hD:0<D):(aL a D).1*((D/(aL a D).2:Nat):Int)=a:=by
 have l:=Ao a hD
 have e:=l.eq
 have hv:=l.pos
 obtain⟨c,hc⟩:=yW (a:=a) hD
 generalize (aL a D).1=u at *
 generalize (aL a D).2=v at *
 have:D/v=c:=by rw[hc];exact Oj _ hv
 rw[this]
 rw[hc]at e
 push_cast at e
 refine Xq (a:=(v:Int)) (by omega) ?_
 grind
theorem Qu{a:Int}{D:Nat}(hD:0<D)(ha:0<=a):0<=(aL a D).1:=(Ao a hD).nn ha
theorem wA{a:Int}{D:Nat}(hD:0<D)(ha:0<=a):0<=(aL a D).1/\0<(aL a D).2/\(aL a D).2∣D:=⟨Qu hD ha,(Ao a hD).pos,yW hD⟩
theorem Lj{D v:Nat}{S a t u':Int}{bl v':Nat}(hD:0<D)(h:Low S D t bl)(hv:0<v)(dv:v∣D)(h2:Low (t*(v:Int)+a*(bl:Int)) (bl*v) u' v'):(u',v')=aL (S+a*((D/v:Nat):Int)) D:=by
 have e1:=h.eq
 have e2:=h2.eq
 have hb:=h.pos
 obtain⟨c,hc⟩:=dv
 have ec:D/v=c:=by rw[hc];exact Oj _ hv
 have key:u'*(D:Int)=(S+a*((D/v:Nat):Int))*(v':Int):=by
  rw[ec]
  refine Xq (a:=(bl:Int)*(v:Int)) ?_ ?_
  ·have:=FJ (a:=(bl:Int)) (b:=(v:Int)) (by omega) (by omega)
   omega
  ·have hcI:(D:Int)=(v:Int)*(c:Int):=by rw[hc];push_cast;rfl
   push_cast at e2
   have x1:u'*(D:Int)*((bl:Int)*(v:Int))=(D:Int)*(u'*((bl:Int)*(v:Int))):=by grind
   rw[x1,e2]
   have x2:(D:Int)*((t*(v:Int)+a*(bl:Int))*(v':Int))=((t*(D:Int))*(v:Int)+a*(D:Int)*(bl:Int))*(v':Int):=by grind
   rw[x2,e1]
   grind
 have l:=Ao (S+a*((D/v:Nat):Int)) hD
 generalize (S+a*((D/v:Nat):Int))=W at *
 -- lowest terms are one
 have e3:=l.eq
 have cr:u'*((aL W D).2:Int)=(aL W D).1*(v':Int):=by
  refine ydo (a:=(D:Int)) (by omega) ?_
  have x:(D:Int)*(u'*((aL W D).2:Int))=u'*(D:Int)*((aL W D).2:Int):=by grind
  have y:(D:Int)*((aL W D).1*(v':Int))=(aL W D).1*(D:Int)*(v':Int):=by grind
  rw[x,y,key,e3];grind
 have cn:u'.natAbs*(aL W D).2=(aL W D).1.natAbs*v':=by
  have:=jy Int.natAbs cr
  rwa [Te,Te,Xk,Xk]at this
 have d1:v'∣(aL W D).2:=(wdi h2.cop).dvd_of_dvd_mul_left (by rw[cn];exact wdh _ _)
 have d2:(aL W D).2∣v':=(wdi l.cop).dvd_of_dvd_mul_left (by rw[<-cn];exact wdh _ _)
 have ev:=wft d1 d2
 have hp:=h2.pos
 refine Prod.ext ?_ ev
 rw[<-ev]at cr
 exact Xq (a:=(v':Int)) (by omega) cr
theorem Ej{D:Nat}{X:Nat->Int}(hD:0<D):∀xs:List Int,zE D (xs.map fun x=>aL (X x.toNat) D)=(xs.map fun x=>X x.toNat).sum
 |[]=>rfl
 |x::xs=>by
  show _*_+zE D (xs.map _)=_
  rw[Ej hD xs,yV hD];rfl
theorem wz{n:Nat}{X:Nat->Int}:∀{xs:List Int},xs.Nodup->(∀x∈xs,0<=x/\x<(n:Int))->(xs.map fun x=>X x.toNat).sum=Sx.sm n fun p=>if decide (((p:Nat):Int)∈xs)=true then X p else 0
 |[],_,_=>(Sx.dw n fun i _=>by simp).symm
 |x::xs,nd,hb=>by
  obtain⟨nx,nd'⟩:=IW.mp nd
  have hx:=hb x cX
  have ih:=wz (X:=X) nd' fun y hy=>hb y (eE _ hy)
  show X x.toNat+(xs.map fun x=>X x.toNat).sum=_
  rw[ih]
  have e1:Sx.sm n (fun p=>if p=x.toNat then X p else 0)=X x.toNat:=by
   rw[Sx.eG (j:=x.toNat) n (by omega) fun i _ hi=>ak hi,ao rfl]
  rw[<-e1,<-Sx.jM]
  refine Sx.aW n fun p hp=> ?_
  by_cases h:p=x.toNat
  ·have h1:((p:Nat):Int)=x:=by omega
   rw[ao h,ak (by rw[h1];simpa using nx),ao (by rw[h1];simp)]
   omega
  ·have h1:((p:Nat):Int)≠x:=by omega
   rw[ak h]
   have:decide (((p:Nat):Int)∈x::xs)=decide (((p:Nat):Int)∈xs):=by
    refine decide_eq_decide.mpr ⟨fun z=> ?_,eE _⟩
    rcases cW.mp z with z|z
    ·exact absurd z h1
    ·exact z
   rw[this];omega
theorem J4{f g:Nat->Int}:∀k,(∀i,i<k->f i<=g i)->Sx.sm k f<=Sx.sm k g
 |0,_=>uE _
 |k+1,h=>Int.add_le_add (J4 k fun i hi=>h i (by omega)) (h k (by omega))
theorem Dk{wl:List Int}{D:Nat}{X:Nat->Int}(hD:0<D):∀n,zE D ((List.range n).map fun p=>(jD wl p*(aL (X p) D).1,(aL (X p) D).2))=Sx.sm n fun p=>jD wl p*X p
 |0=>rfl
 |n+1=>by
  rw[vq,bQ,rm,Dk hD n]
  show _=Sx.sm n _+_
  congr 1
  rw[qM,wgb,wM]
  show jD wl n*(aL (X n) D).1*_=_
  rw[Td,yV hD]
theorem vK{n:Nat}{ts:List (Int×Int)}{ss:List (List Int)}(hS:fu ss ts false n){s:List Int}(h:s∈ss):iI ts false n s:=je n s (fV.mp (hS.1.mem_iff.mp h)).1
end Hs
namespace PySem
open Sem (wp)
section
variable{prog:Program}{w:World}{A:Around}{E:Value->Shared->Prop}{s:Shared}
theorem Iu{z TI TO i1 i2 l1 l2:Addr}{k:Nat}{xs ys:Array Value}{x y a b:Value}{Q:Option Value->Shared->Prop}(D:ZipApart z TI TO i1 i2 l1 l2)(hz:IsZip s.heap z TI TO .none)(hTI:IsPair s.heap TI (.ref i1) (.ref i2))(hTO:IsPair s.heap TO a b)(h1:s.heap.IsTupleIter i1 l1 k)(h2:s.heap.IsListIter i2 l2 k)(hl1:s.heap.IsTuple l1 xs)(hl2:s.heap.IsList l2 ys)(hx:xs[k]? =some x)(hy:ys[k]? =some y)(hQ:∀h',IsZip h' z TI TO (rawInt s.heap.objs.size)->IsPair h' TO x y->h'.IsTupleIter i1 l1 (k+1)->h'.IsListIter i2 l2 (k+1)->IsPair h' s.heap.objs.size x y->h'.objs.size=s.heap.objs.size+1->
   (∀c o,c≠z->c≠TO->c≠i1->c≠i2->s.heap.get? c=some o->h'.get? c=some o)->Q (some (.ref s.heap.objs.size)) {s with heap:=h'}):
  wpAny (model prog w) A (pyNext (.ref z)) Q E s:=by
 have hT:s.TypeIs (.ref z) "zip":=⟨_,hz,rfl⟩
 unfold pyNext
 refine aA (wpAny_attempt (Wz (name:=Str.ofString "__next__") hT wdz (Rz wdz hT F.entry_zip_next ?_ (F.args_zip_next_1 _))))
 show wpAny _ _ (field (.ref z) 2>>=_) _ _ _
 refine aA (Ar hz rfl (x:= .bool false) rfl ?_)
 show wpAny _ _ (field (.ref z) 3>>=_) _ _ _
 refine aA (Ar hz rfl (x:= .ref TI) rfl ?_)
 refine aA (FW hTI rfl ?_)
 show wpAny _ _ (Builtin.SmallTypes.ownedTupleIsFree (.ref z)>>=_) _ _ _
 refine aA ?_
 unfold Builtin.SmallTypes.ownedTupleIsFree
 refine aA (Ar hz rfl (x:= .none) rfl (bC ?_))
 simp only[NT]
 refine aA (Tw ?_)
 refine aA (Ar hz rfl (x:= .ref TO) rfl ?_)
 refine aA (XS hz (by simp) fun g1 hz1 r1=> ?_)
 replace hz1:IsZip g1 z TI TO .ellipsis:=hz1
 refine aA ?_
 simp only[List.zipIdx_cons,List.zipIdx_nil,wge,wgp]
 refine aA (aA (wpAny_onRaise ?_))
 show wpAny _ _ (Builtin.SmallTypes.nextOf (.ref i1)>>=_) _ _ _
 refine aA (sO (h1.at fun o e=>r1.extBut _ _ D.i1z e) (hl1.at fun o e=>r1.extBut _ _ D.l1z e) hx fun g2 h12 r2=>bC ?_)
 have o2:IsPair g2 TO a b:=r2.extBut _ _ D.TOi1 (r1.extBut _ _ D.TOz hTO)
 refine aA (FW o2 rfl ?_)
 refine aA (wpAny_updateSeq_pair o2 fun g3 o3 r3=> ?_)
 replace o3:IsPair g3 TO x b:=o3
 refine aA (N5 (bC ?_))
 refine aA (aA (wpAny_onRaise ?_))
 show wpAny _ _ (Builtin.SmallTypes.nextOf (.ref i2)>>=_) _ _ _
 refine aA (wpAny_nextOf_list_item (((h2.extBut r1.extBut D.i2z).extBut r2.extBut D.i12.symm).extBut r3.extBut D.TOi2.symm)
  (((hl2.extBut r1.extBut D.l2z).extBut r2.extBut D.l2i1).extBut r3.extBut D.l2TO) hy fun g4 h24 r4=>bC ?_)
 have o4:IsPair g4 TO x b:=r4.extBut _ _ D.TOi2 o3
 refine aA (FW o4 rfl ?_)
 refine aA (wpAny_updateSeq_pair o4 fun g5 o5 r5=> ?_)
 replace o5:IsPair g5 TO x y:=o5
 refine aA (N5 (bC (bC ?_)))
 refine aA (FW o5 rfl ?_)
 refine aA (wpAny_newTuple ?_)
 have hsz:g5.objs.size=s.heap.objs.size:=by rw[r5.1,r4.1,r3.1,r2.1,r1.1]
 have hz5:IsZip g5 z TI TO .ellipsis:=r5.extBut _ _ D.TOz.symm (r4.extBut _ _ D.i2z.symm (r3.extBut _ _ D.TOz.symm (r2.extBut _ _ D.i1z.symm hz1)))
 have hk5:∀c o,c≠z->c≠TO->c≠i1->c≠i2->s.heap.get? c=some o->g5.get? c=some o:=fun c o c1 c2 c3 c4 e=>
  r5.extBut _ _ c2 (r4.extBut _ _ c4 (r3.extBut _ _ c2 (r2.extBut _ _ c3 (r1.extBut _ _ c1 e))))
 have h15:g5.IsTupleIter i1 l1 (k+1):=h12.at fun o e=>r5.extBut _ _ D.TOi1.symm (r4.extBut _ _ D.i12 (r3.extBut _ _ D.TOi1.symm e))
 have h25:g5.IsListIter i2 l2 (k+1):=h24.extBut r5.extBut D.TOi2.symm
 have hzlt:z<g5.objs.size:=cZ hz5
 show wpAny _ _ (Builtin.SmallTypes.ownedTupleHandOut (.ref z) (.ref g5.objs.size)>>=_) _ _ _
 refine aA ?_
 unfold Builtin.SmallTypes.ownedTupleHandOut
 have hz6:IsZip (g5.push {cls:= .type "tuple",data:= .seq #[x,y]}) z TI TO .ellipsis:=cO _ hz5
 refine aA (XS hz6 (by simp) fun g7 hz7 r7=> ?_)
 replace hz7:IsZip g7 z TI TO (rawInt g5.objs.size):=hz7
 refine XS hz7 (by simp) fun g8 hz8 r8=> ?_
 replace hz8:IsZip g8 z TI TO (rawInt g5.objs.size):=hz8
 have up:∀c o,c≠z->g5.get? c=some o->g8.get? c=some o:=fun c o c1 e=>r8.extBut _ _ c1 (r7.extBut _ _ c1 (cO _ e))
 have hT8:IsPair g8 g5.objs.size x y:=r8.extBut _ _ (xX hzlt) (r7.extBut _ _ (xX hzlt) (jx _ rfl))
 have hs8:g8.objs.size=g5.objs.size+1:=by rw[r8.1,r7.1,Aj]
 rw[hsz]at hz8 hT8 hs8
 refine bC ⟨_,rfl,bC ?_⟩
 show Q (some (.ref g5.objs.size)) _
 rw[hsz]
 exact hQ g8 hz8 (up _ _ D.TOz o5) (h15.at fun o e=>up _ o D.i1z e) (h25.at fun o e=>up _ o D.i2z e) hT8 hs8 fun c o c1 c2 c3 c4 e=>up c o c1 (hk5 c o c1 c2 c3 c4 e)
theorem Oa{z TI TO i1 i2 l1 l2:Addr}{k:Nat}{xs:Array Value}{a b:Value}{Q:Option Value->Shared->Prop}(hh:A.handled=none)(D:ZipApart z TI TO i1 i2 l1 l2)(hz:IsZip s.heap z TI TO .none)(hTI:IsPair s.heap TI (.ref i1) (.ref i2))(hTO:IsPair s.heap TO a b)(h1:s.heap.IsTupleIter i1 l1 k)(hl1:s.heap.IsTuple l1 xs)(hx:xs[k]? =none)(hQ:∀h',(∀c o,c≠z->c≠TO->c≠i1->c≠i2->s.heap.get? c=some o->h'.get? c=some o)->Q none {s with heap:=h'}):wpAny (model prog w) A (pyNext (.ref z)) Q E s:=by
 have hT:s.TypeIs (.ref z) "zip":=⟨_,hz,rfl⟩
 unfold pyNext
 refine aA (wpAny_attempt (Wz (name:=Str.ofString "__next__") hT wdz (Rz wdz hT F.entry_zip_next ?_ (F.args_zip_next_1 _))))
 show wpAny _ _ (field (.ref z) 2>>=_) _ _ _
 refine aA (Ar hz rfl (x:= .bool false) rfl ?_)
 show wpAny _ _ (field (.ref z) 3>>=_) _ _ _
 refine aA (Ar hz rfl (x:= .ref TI) rfl ?_)
 refine aA (FW hTI rfl ?_)
 show wpAny _ _ (Builtin.SmallTypes.ownedTupleIsFree (.ref z)>>=_) _ _ _
 refine aA ?_
 unfold Builtin.SmallTypes.ownedTupleIsFree
 refine aA (Ar hz rfl (x:= .none) rfl (bC ?_))
 simp only[NT]
 refine aA (Tw ?_)
 refine aA (Ar hz rfl (x:= .ref TO) rfl ?_)
 refine aA (XS hz (by simp) fun g1 hz1 r1=> ?_)
 replace hz1:IsZip g1 z TI TO .ellipsis:=hz1
 refine aA ?_
 simp only[List.zipIdx_cons,List.zipIdx_nil,wge,wgp]
 refine aA (aA (wpAny_onRaise ?_))
 show wpAny _ _ (Builtin.SmallTypes.nextOf (.ref i1)>>=_) _ _ _
 refine aA (jW hh (h1.at fun o e=>r1.extBut _ _ D.i1z e) (hl1.at fun o e=>r1.extBut _ _ D.l1z e) hx fun g2 e r2 he=> ?_)
 obtain⟨oe,hoe,hce⟩:=he
 have hz2:IsZip g2 z TI TO .ellipsis:=r2 _ _ D.i1z.symm hz1
 have hez:e≠z:=fun q=>by subst q;rw[hz2]at hoe;cases hoe;simp at hce
 refine XS hz2 (by simp) fun g3 _ r3=> ?_
 refine aA (wpAny_isInstance (T:="StopIteration") (b:=true) ⟨oe,r3.extBut _ _ hez hoe,hce⟩ isSubtype_stop ?_)
 exact bC (hQ _ fun c o c1 _ c3 _ q=>r3.extBut _ _ c1 (r2 _ _ c3 (r1.extBut _ _ c1 q)))
end
def Iv(h:Heap)(l1:Addr):Heap:=h.push {cls:= .type "tuple_iterator",data:= .fields #[.ref l1,.int 0 0]}
def Fw(h:Heap)(l1 l2:Addr):Heap:=(Iv h l1).push {cls:= .type "list_iterator",data:= .fields #[.ref l2,.int 0 0]}
def Fv(h:Heap)(l1 l2:Addr):Heap:=(Fw h l1 l2).push {cls:= .type "tuple",data:= .seq #[.ref h.objs.size,.ref (Iv h l1).objs.size]}
def Ft(h:Heap)(l1 l2:Addr):Heap:=(Fv h l1 l2).push {cls:= .type "tuple",data:= .seq #[.none,.none]}
def vp(h:Heap)(l1 l2:Addr):Heap:=(Ft h l1 l2).push {cls:= .type "zip",data:= .fields #[.none,.bool false,.bool false,.ref (Fw h l1 l2).objs.size,.ref (Fv h l1 l2).objs.size]}
theorem ug(l1 l2:Addr)(xs ys:Array Value):
  Meets (Builtin.«zip.__new__» ⟨[.type "zip",.ref l1,.ref l2],[]⟩) (fun _ R s=>s.heap.IsTuple l1 xs/\s.heap.IsList l2 ys/\
   R (.ok (.ret (.ref (Ft s.heap l1 l2).objs.size))) {s with heap:=vp s.heap l1 l2}):=
 .of_wp fun prog w A R s h=>by
  obtain⟨hp,g,d,tk,os⟩:=s;obtain⟨hl1,hl2,h⟩:=h
  have hsub:=sub_zip
  have hL1:Heap.IsTuple (Shared.heap ⟨hp,g,d,tk,os⟩) l1 xs:=hl1
  have hL2:Heap.IsList (Shared.heap ⟨hp.push {cls:= .type "tuple_iterator",data:= .fields #[.ref l1,.int 0 0]},g,d,tk,os⟩) l2 ys:=Heap.IsList.push hl2 _
  unfold vp Ft Fv Fw Iv at h
  wp_walk using X3 hL1,TV hL2
  exact⟨_,rfl,h⟩
section
variable{prog:Program}{w:World}{A:Around}{E:Value->Shared->Prop}{s:Shared}
theorem M7{l1 l2:Addr}{xs ys:Array Value}{Q:Value->Shared->Prop}(hl1:s.heap.IsTuple l1 xs)(hl2:s.heap.IsList l2 ys)(h:∀h',IsZip h' (s.heap.objs.size+4) (s.heap.objs.size+2) (s.heap.objs.size+3) .none->IsPair h' (s.heap.objs.size+2) (.ref s.heap.objs.size) (.ref (s.heap.objs.size+1))->
   IsPair h' (s.heap.objs.size+3) .none .none->h'.IsTupleIter s.heap.objs.size l1 0->h'.IsListIter (s.heap.objs.size+1) l2 0->h'.objs.size=s.heap.objs.size+5->
   (∀c o,s.heap.get? c=some o->h'.get? c=some o)->Q (.ref (s.heap.objs.size+4)) {s with heap:=h'}):
  wpAny (model prog w) A (call (.type "zip") [.ref l1,.ref l2]) Q E s:=by
 refine callType_new F.called_zip (by decide) (F.typeCall_zip_2 _ _) (F.newCall_zip_2 _ _) (fun obj=>F.args_object_init_3 obj _ _) F.entry_zip_new (ug l1 l2 xs ys) ⟨hl1,hl2,?_⟩
 have z1:(Iv s.heap l1).objs.size=s.heap.objs.size+1:=Aj ..
 have z2:(Fw s.heap l1 l2).objs.size=s.heap.objs.size+2:=by rw[Fw,Aj,z1]
 have z3:(Fv s.heap l1 l2).objs.size=s.heap.objs.size+3:=by rw[Fv,Aj,z2]
 have z4:(Ft s.heap l1 l2).objs.size=s.heap.objs.size+4:=by rw[Ft,Aj,z3]
 have z5:(vp s.heap l1 l2).objs.size=s.heap.objs.size+5:=by rw[vp,Aj,z4]
 have g5:(vp s.heap l1 l2).get? (Ft s.heap l1 l2).objs.size=some _:=jx _ rfl
 have g4:(vp s.heap l1 l2).get? (Fv s.heap l1 l2).objs.size=some _:=cO _ (jx _ rfl)
 have g3:(vp s.heap l1 l2).get? (Fw s.heap l1 l2).objs.size=some _:=cO _ (cO _ (jx _ rfl))
 have g2:(vp s.heap l1 l2).get? (Iv s.heap l1).objs.size=some _:=cO _ (cO _ (cO _ (jx _ rfl)))
 have g1:(vp s.heap l1 l2).get? s.heap.objs.size=some _:=cO _ (cO _ (cO _ (cO _ (jx _ rfl))))
 show _/\_
 rw[z2,z3,z4]at g5
 rw[z1,z2]at g3
 rw[z3]at g4
 rw[z1]at g2
 rw[z4]
 exact⟨⟨_,g5,rfl⟩,h _ g5 g3 g4 ⟨_,g1,rfl,rfl⟩ ⟨_,g2,rfl,rfl⟩ z5 fun c o x=>
  cO _ (cO _ (cO _ (cO _ (cO _ x))))⟩
end
end PySem
namespace L2
open PySem PySem.Spec PyProof.Rows
def Itz(K:W.Frag)(a b:Addr)(xs ys:List V):It:=
 ⟨fun i H=>(SqT K H a xs/\SqL K H b ys)/\i<xs.length,fun i H x H'=>∃t v u,x= .ref t/\H t=none/\H'=upd H t (.tup [v,u])/\xs[i]? =some v/\ys[i]? =some u,fun i H=>(SqT K H a xs/\SqL K H b ys)/\i=xs.length⟩
theorem Jp{P:Program}{w:World}{K:W.Frag}{es:List Expr}{k:Nat}{pos:Pos}(a b z TI TO i1 i2:Addr)(xs ys:List V)(D:ZipApart z TI TO i1 i2 a b)(hlen:xs.length=ys.length):
  Turn P w K (.Tuple es k pos) (Itz K a b xs ys) [z,TI,TO,i1,i2] z (fun i h=>IsZip h z TI TO .none/\IsPair h TI (.ref i1) (.ref i2)/\(∃p q,IsPair h TO p q)/\h.IsTupleIter i1 a i/\h.IsListIter i2 b i) where
 mem:=by simp
 obj:=fun i h st c hc=>by
  obtain⟨s1,s2,⟨p,q,s3⟩,⟨o4,e4,c4,d4⟩,⟨o5,e5,c5,d5⟩⟩:=st
  simp only[cW,wfu,or_false]at hc
  rcases hc with rfl|rfl|rfl|rfl|rfl
  ·exact⟨_,s1,fun v y=>by cases y⟩
  ·exact⟨_,s2,fun v y=>by cases y⟩
  ·exact⟨_,s3,fun v y=>by cases y⟩
  ·exact⟨o4,e4,fun v y=>by rw[d4]at y;cases y⟩
  ·exact⟨o5,e5,fun v y=>by rw[d5]at y;cases y⟩
 keep:=fun i h h' st k=>by
  obtain⟨s1,s2,⟨p,q,s3⟩,s4,s5⟩:=st
  exact⟨k z (by simp) _ s1,k TI (by simp) _ s2,⟨p,q,k TO (by simp) _ s3⟩,s4.at fun o e=>k i1 (by simp) o e,s5.at fun o e=>k i2 (by simp) o e⟩
 item:=by
  intro X hP hw hK hc i pins s σ H E I hf st hg
  subst hP hw hK
  obtain⟨⟨hq1,hq2⟩,hi⟩:=hg
  obtain⟨Lx,rv1,p1,hz1⟩:=I.tuple hq1
  obtain⟨its2,rv2,p2,hz2⟩:=I.list hq2
  have hx:xs[i]? =some xs[i]:=gH hi
  have hi2:i<ys.length:=by omega
  have hy:ys[i]? =some ys[i]:=gH hi2
  obtain⟨u1,hu1,ru1⟩:=rv1.get hx
  obtain⟨u2,hu2,ru2⟩:=rv2.get hy
  obtain⟨s1,s2,⟨p,q,s3⟩,s4,s5⟩:=st
  have pt:s.heap.IsTuple a Lx.toArray:=p1
  refine Iu D s1 s2 s3 s4 s5 pt p2.isList (x:=u1) (y:=u2) (by simpa using hu1) (by simpa using hu2) fun h1 ho hTO hit1 hit2 hT hsz hk=>⟨_,rfl,?_⟩
  refine wpAny_letOwnedTupleGo_zip ho fun h2 aau hs2=> ?_
  have nU:Heap.SameBut z h1 h2:=hs2
  have nT:∀c o,s.heap.get? c=some o->s.heap.objs.size≠c:=fun c o e y=>absurd (cZ e) (by rw[<-y];exact oK _)
  obtain⟨o4,e4,_⟩:=id s4
  obtain⟨o5,e5,_⟩:=id s5
  have keep:∀c o,c∉[z,TI,TO,i1,i2]->s.heap.get? c=some o->h2.get? c=some o:=fun c o hc q=>(nU.2 c fun y=>hc (by simp[y])).trans (hk c o (fun y=>hc (by simp[y])) (fun y=>hc (by simp[y])) (fun y=>hc (by simp[y])) (fun y=>hc (by simp[y])) q)
  have hT2:h2.get? s.heap.objs.size=some {cls:= .type "tuple",data:= .seq #[u1,u2]}:=(nU.2 _ (nT _ _ s1)).trans hT
  have I2:=I.oV (h':=h2) (t':=s.toks) (o:= .tup [xs[i],ys[i]]) keep hf (aJ _) ⟨(by show 2<=sizeLine;decide),[u1,u2],.cons ru1 (.cons ru2 .nil),_,hT2,rfl,_,rfl⟩
  have k2:IsPair h2 TI (.ref i1) (.ref i2):=(nU.2 TI D.TIz).trans (hk TI _ D.TIz D.TITO D.TIi1 D.TIi2 s2)
  refine⟨.ref s.heap.objs.size,_,I2,rfl,⟨_,_,_,rfl,I.hok.fresh (aJ _),rfl,hx,hy⟩,⟨aau,k2,⟨_,_,(nU.2 TO D.TOz).trans hTO⟩,hit1.at fun o q=>(nU.2 i1 D.i1z).trans q,hit2.at fun o q=>(nU.2 i2 D.i2z).trans q⟩,fun c hc=> ?_⟩
  rw[cG (fun y=> ?_)]
  ·exact(hf c hc).1
  ·simp only[cW,wfu,or_false]at hc
   rcases hc with h|h|h|h|h
   ·exact nT _ _ s1 (y.symm.trans h)
   ·exact nT _ _ s2 (y.symm.trans h)
   ·exact nT _ _ s3 (y.symm.trans h)
   ·exact nT _ _ e4 (y.symm.trans h)
   ·exact nT _ _ e5 (y.symm.trans h)
 done:=by
  intro X hP hw hK hc i pins s σ H E I hf st hg
  subst hP hw hK
  obtain⟨⟨hq1,hq2⟩,hi⟩:=hg
  obtain⟨Lx,rv1,p1,hz1⟩:=I.tuple hq1
  have hl:=rv1.length
  obtain⟨s1,s2,⟨p,q,s3⟩,s4,s5⟩:=st
  have pt:s.heap.IsTuple a Lx.toArray:=p1
  exact Oa (I.ok.hd hc) D s1 s2 s3 s4 pt (by simp;omega) fun h' eb=>⟨rfl,I.turns (t':=s.toks) (fp:=[z,TI,TO,i1,i2]) (fun c o hc q=>eb c o (fun y=>hc (by simp[y])) (fun y=>hc (by simp[y])) (fun y=>hc (by simp[y])) (fun y=>hc (by simp[y])) q) hf⟩
 self:=fun _ _ _ _ _ st h=>wpAny_pyIter_zip st.1 h
section
variable{X:Cx}{es:List Expr}{k:Nat}{Gs:Pos}
def aat(K:W.Frag)(ta:TA):TI:=fun σ H R=>ta σ H fun vs H1=>∃(a b:Addr) (xs ys:List V),vs=[.ref a,.ref b]/\SqT K H1 a xs/\SqL K H1 b ys/\xs.length=ys.length/\(xs.length<=sizeLine->R (Itz K a b xs ys) H1)
theorem Uw{a b:Expr}{ta:TA}{p pos:Pos}(hg:Gl X "zip")(hm:X.mg "zip"=none)(ha:PA X [a,b] ta)(hs:starEach [a,b] X.env=[(false,eval a X.env),(false,eval b X.env)]:=by rfl)(hs3:starEach [b] X.env=[(false,eval b X.env)]:=by rfl):
  PI X (.Tuple es k Gs) (.Call (.Name "zip" p) [a,b] [] pos) (aat X.K ta):=by
 intro pins s σ H R I h
 refine Call_ (ld_blt I hg hm (show bootBuiltins "zip"=some (.type "zip")from by decide+kernel) (Jm (thn (ha pos pins s σ H _ I h) fun us s1 ⟨vs,H1,I1,r1,q1⟩=> ?_) (by rw[hs,hs3]) (by rw[hs3];rfl)))
 obtain⟨l1,l2,xs,ys,e,hq1,hq2,hlen,q⟩:=q1
 subst e
 cases r1 with
 |cons r rr=>
  cases rr with
  |cons r' rr'=>
  cases rr'
  cases r
  cases r'
  obtain⟨Lx,rv1,p1,hz1⟩:=I1.tuple hq1
  obtain⟨its2,rv2,p2,hz2⟩:=I1.list hq2
  have pt:s1.heap.IsTuple l1 Lx.toArray:=p1
  have a1:l1<s1.heap.objs.size:=by obtain⟨_,e,_⟩:=id pt;exact cZ e
  have a2:l2<s1.heap.objs.size:=by obtain⟨_,e,_⟩:=id p2.isList;exact cZ e
  refine M7 pt p2.isList fun h' hz hTI hTO hi1 hi2 hsz hk=> ?_
  refine wpAny_pyIter_zip hz ?_
  have I2:Inv X pins σ H1 {s1 with heap:=h'}:=I1.kept (t':=s1.toks) hk
  refine⟨s1.heap.objs.size+4,[s1.heap.objs.size+4,s1.heap.objs.size+2,s1.heap.objs.size+3,s1.heap.objs.size,s1.heap.objs.size+1],_,_,H1,rfl,I2,Jp l1 l2 _ _ _ _ _ xs ys (zipApart_new a1 a2) hlen,⟨hz,hTI,⟨_,_,hTO⟩,hi1,hi2⟩,fun c hc=> ?_,q hz1⟩
  have hle:s1.heap.objs.size<=c:=by
   simp only[cW,wfu,or_false]at hc
   rcases hc with h|h|h|h|h
   ·rw[h];exact Wq _ _
   ·rw[h];exact Wq _ _
   ·rw[h];exact Wq _ _
   ·rw[h];exact aJ _
   ·rw[h];exact Wq _ _
  exact I1.fpOk hle (I1.hok.fresh hle)
end
section
variable{ini:St}{H:Hp}{g:TG}{tc:TT}{te:TE}{Fin:List V->Hp->Prop}{K:W.Frag}{a b:Addr}{xs ys:List V}
theorem M5(Pv:Nat->List V->St->Hp->Prop)(h0:Pv 0 [] ini H)(hl:∀(i:Nat) acc σ H,i<=xs.length->Pv i acc σ H->SqT K H a xs/\SqL K H b ys)(hlen:xs.length=ys.length)(hz:∀(i:Nat) acc σ H,i<=xs.length->Pv i acc σ H->acc.length<=i)(hx:xs.length<=sizeLine)(hs:∀(i:Nat) v u t acc σ H,xs[i]? =some v->ys[i]? =some u->Pv i acc σ H->H t=none->g (.ref t) σ (upd H t (.tup [v,u])) fun σ2 H2=>tc σ2 H2 fun b H3=>if b=true then te σ2 H3 fun v H4=>Pv (i+1) (acc++[v]) σ2 H4 else Pv (i+1) acc σ2 H3)(hd:∀acc σ H,Pv xs.length acc σ H->Fin acc H):vo (Itz K a b xs ys) ini H g tc te Fin:=by
 refine⟨fun i m acc σ H=>m=xs.length-i/\i<=xs.length/\Pv i acc σ H,⟨xs.length,by simp,dJ _,h0⟩,?_⟩
 rintro i m acc σ H ⟨rfl,hi,p⟩
 have q:=hl i acc σ H hi p
 have z:=hz i acc σ H hi p
 by_cases hlt:i<xs.length
 ·refine .inr ⟨⟨q,hlt⟩,by omega,fun acc σ H=>Pv (i+1) acc σ H,fun acc' σ' H' r=>⟨_,by omega,rfl,hlt,r⟩,fun x H' y=> ?_⟩
  obtain⟨t,v,u,rfl,ht,rfl,hv,hu⟩:=y
  exact hs i v u t acc σ H hv hu p ht
 ·have e:i=xs.length:=by omega
  subst e
  exact .inl ⟨⟨q,rfl⟩,by omega,hd acc σ H p⟩
end
end L2
namespace Hs
open PySem L2 vh
section
variable{P:Program}{w:World}{K:W.Frag}{mg:Str->Option Value}{base:Heap}
def vI(K:W.Frag):Sp:=fun vs H Q _=>∃(p p':Addr) (u u':Int) (v v':Nat),vs=[.ref p,.ref p']/\SqT K H p [.int u,.int ((v:Nat):Int)]/\SqT K H p' [.int u',.int ((v':Nat):Int)]/\CMul u ((v':Nat):Int)/\CMul u' ((v:Nat):Int)/\Q (.bl (decide (u*(v':Int)<u'*(v:Int)))) H
theorem Pb:FnScope ["one","other"] ["one","other"] (defScope gF):=fsc
theorem Qg{f:Addr}{fd:FuncData}(F:Fun K "is_less" "is_less" gF f fd):
  FnOk P w K mg base CX0 1 f fd ["one","other"] (vI K):=by
 refine F.ok Pb (fun vs H Q E h=> ?_) (fun cdv A outer s H vs Q E hr h=> ?_)
 ·obtain⟨p,p1,u,u1,v,v1,rfl,_⟩:=h
  rfl
 obtain⟨p,p1,u,u1,v,v1,rfl,h1,h2,b1,b2,q⟩:=h
 refine⟨_,(aX (cF (pe_cmpR op_lt (bN p8 (bB gQ (pv 0) aK (fun _ _=>rfl)) (bB gQ (pv 1) aK (fun _ _=>rfl))) (bN p8 (bB gQ (pv 1) aK (fun _ _=>rfl)) (bB gQ (pv 0) aK (fun _ _=>rfl))) (nomark _)))),?_⟩
 exact⟨_,rfl,p,_,_,.int u,rfl,rfl,h1,rfl,_,rfl,p1,_,_,.int v1,rfl,rfl,h2,rfl,_,_,rfl,rfl,b1,_,rfl,p1,_,_,.int u1,rfl,rfl,h2,rfl,_,rfl,p,_,_,.int v,rfl,rfl,h1,rfl,_,_,rfl,rfl,b2,_,_,rfl,rfl,q⟩
def JN(K:W.Frag):Sp:=fun vs H Q _=>∃(p:Addr) (u:Int) (v:Nat),vs=[.ref p]/\SqT K H p [.int u,.int ((v:Nat):Int)]/\0<=u/\0<v/\v<=39916800/\Q (.bl true) H
theorem Pg:FnScope ["thing"] ["thing"] (defScope eV):=fsc
theorem Qh{f f1:Addr}{fd d1:FuncData}{tk0:Tok}(F:Fun K "is_fraction" "is_fraction" eV f fd)(D1:bJ K mg "is_whole" Rj ["thing"] f1 d1)(G1:FnOk P w K mg base CX0 1 f1 d1 ["thing"] (kJ K))(bw:mg "len"=none)(bV:mg "isinstance"=none)(aZ:mg "tuple"=none)(uo:mg "MOST_BOTTOM"=some (.int 1000000000 tk0)):
  FnOk P w K mg base CX0 2 f fd ["thing"] (JN K):=by
 refine F.ok Pg (fun vs H Q E h=> ?_) (fun cdv A outer s H vs Q E hr h=> ?_)
 ·obtain⟨p,u,v,rfl,_⟩:=h
  rfl
 obtain⟨p,u,v,rfl,hp,h0,hv,hb,q⟩:=h
 refine⟨_,(aO (mY (PW.pt (pw_or (pt_not (uD (fM dU rfl bV (by decide+kernel) (aj (pv 0) (aj (pe_bltn rfl aZ (v:= .ty "tuple") (by decide+kernel) rfl) au))))) (pw_or (kj op_ne (fM qd rfl bw oU (aj (pv 0) au)) aK (nomark _)) (pw_or (pt_not (uD (pc G1 hr D1 (aj (bB gQ (pv 0) aK (fun _ _=>rfl)) au)))) (pw_or1 (pt_not (uD (pc G1 hr D1 (aj (bB gQ (pv 0) aK (fun _ _=>rfl)) au))))))))) (aX (cF pe_bl)) oJ) (aX (cF (pe_and (pe_cmpR op_ge (bB gQ (pv 0) aK (fun _ _=>rfl)) aK (nomark _)) (pe_one (pe_chain op_le op_le aK (bB gQ (pv 0) aK (fun _ _=>rfl)) (pe_glob rfl uo (v:= .int 1000000000) ⟨_,rfl⟩))))))),?_⟩
 refine⟨_,rfl,.ref p,"tuple",_,rfl,.inl ⟨rfl,_,hp⟩,.inr (.inr (.inl rfl)),_,rfl,?_⟩
 refine iteF ?_
 refine⟨_,rfl,p,_,rfl,.inr hp,fun hz=>⟨rfl,_,rfl,?_⟩⟩
 refine iteF ?_
 refine⟨_,rfl,p,_,_,.int u,rfl,rfl,hp,rfl,.int u,.int u,rfl,.int _,_,rfl,?_⟩
 refine iteF ?_
 refine⟨_,rfl,p,_,_,.int v,rfl,rfl,hp,rfl,.int v,.int v,rfl,.int _,_,rfl,?_⟩
 refine iteF ?_
 refine⟨_,rfl,p,_,_,.int u,rfl,rfl,hp,rfl,_,_,rfl,rfl,_,rfl,?_⟩
 rw[gb h0]
 refine iteT ?_
 refine⟨_,rfl,p,_,_,.int v,rfl,rfl,hp,rfl,_,_,rfl,rfl,_,rfl,?_⟩
 rw[gb (show(1:Int)<=(v:Int) by omega)]
 refine iteT ?_
 refine⟨_,_,rfl,rfl,?_⟩
 show Q (.bl (decide ((v:Int)<=1000000000))) H
 rw[gb (show(v:Int)<=1000000000 by omega)]
 exact q
theorem iG{k:Nat}(h:k<=39916800)(x:Int):CMul x ((k:Nat):Int):= .inr ⟨by omega,by omega⟩
def qO(K:W.Frag):Sp:=fun vs H Q _=>∃(la:Addr) (rs:List V) (fs:List (Int×Nat)) (D:Nat),vs=[.ref la]/\SqL K H la rs/\dh K H rs fs/\DOk D fs/\rs.length<=1000/\
 ∀(p:Addr) (a:Int) (b:Nat) H',Same H H'->H' p=some (.tup [.int a,.int ((b:Nat):Int)])->iC D (zE D fs) a b->Q (.ref p) H'
theorem fD:FnScope ["fractions","a","b","top","bottom","by"] ["fractions"] (defScope iK):=fsc
theorem K4{f f1:Addr}{fd d1:FuncData}(F:Fun K "sum_of" "sum_of" iK f fd)(D1:bJ K mg "greatest_divisor" Xe ["one","other"] f1 d1)(G1:FnOk P w K mg base CX0 1 f1 d1 ["one","other"] (T9 K)):
  FnOk P w K mg base CX0 2 f fd ["fractions"] (qO K):=by
 refine F.ok fD (fun vs H Q E h=> ?_) (fun cdv A outer s H vs Q E hr h=> ?_)
 ·obtain⟨la,rs,fs,D,rfl,_⟩:=h
  rfl
 obtain⟨la,rs,fs,D,rfl,hL,hF,hD,hlen,q⟩:=h
 refine⟨_,(aO (cV (i:=1) fD.nd rfl (Or.inl rfl) aK) (aO (cV (i:=2) fD.nd rfl (Or.inl rfl) aK) (aO (xM tX rfl (xW (pv 0)) (pg_tup rfl (tV (cY (i:=3) fD.nd rfl (Or.inl rfl)) (tV (cY (i:=4) fD.nd rfl (Or.inl rfl)) pgs_nil))) (aO (cV (i:=5) fD.nd rfl (Or.inl rfl) (bN nO (pv 4) (pc G1 hr D1 (aj (pv 2) (aj (pv 4) au))))) (aO (cV (i:=1) fD.nd rfl (Or.inl rfl) (bN qy (bN p8 (pv 1) (pv 5)) (bN p8 (pv 3) (bN nO (bN p8 (pv 2) (pv 5)) (pv 4))))) (aX (cV (i:=2) fD.nd rfl (Or.inl rfl) (bN p8 (pv 2) (pv 5))))))) (aX (cF (oG (aj (pv 1) (aj (pv 2) au)))))))),?_⟩
 have hl:=Paired.lF hF
 have hD0:=hD.pos
 have hD1:=hD.le
 refine⟨_,rfl,la,rs,rfl,hL,fun hz=> ?_⟩
 refine for_list (xs:=rs) (fun i σ H'=>H'=H/\∃(a:Int) (b:Nat) (o1 o2 o3:Option V),iC D (zE D (fs.take i)) a b/\σ=[some (.ref la),some (.int a),some (.int ((b:Nat):Int)),o1,o2,o3]) ⟨rfl,0,1,_,_,_,⟨by omega,Nat.one_dvd _,by simp[zE]⟩,rfl⟩ (fun i σ H' _ p=>by rw[p.1];exact hL) (fun i x σ H' hx p=> ?_) (fun σ H' p=> ?_)
 ·obtain⟨rfl,a,b,o1,o2,o3,hs,rfl⟩:=p
  obtain⟨f,hf,t,rfl,ht⟩:=Paired.at_ hF hx
  obtain⟨f0,f1,f2⟩:=hD.all f (iZ hf)
  have hb:=hs.pos
  have hbD:=hs.le hD0
  have hfD:=wfi hD0 f2
  have st:=Jy (u:=f.1) hD0 hs f1 f2
  have hg:0<Nat.gcd b f.2:=wfj _ hb
  have hg2:Nat.gcd b f.2<=b:=Nat.gcd_le_left _ hb
  have hby:f.2/Nat.gcd b f.2<=f.2:=Nat.div_le_self _ _
  have hbb:=st.le hD0
  refine⟨t,_,rfl,ht,rfl,_,_,rfl,_,_,rfl,rfl,?_⟩
  refine⟨_,rfl,_,rfl,_,rfl,b,f.2,rfl,_,_,rfl,rfl,⟨by omega,by omega⟩,?_⟩
  have eby:((f.2:Nat):Int)/((Nat.gcd b f.2:Nat):Int)=((f.2/Nat.gcd b f.2:Nat):Int):=(wfs _ _).symm
  have eb2:((b:Nat):Int)*((f.2/Nat.gcd b f.2:Nat):Int)=((b*(f.2/Nat.gcd b f.2):Nat):Int):=(Tf _ _).symm
  have eb3:((b*(f.2/Nat.gcd b f.2):Nat):Int)/((f.2:Nat):Int)=((b*(f.2/Nat.gcd b f.2)/f.2:Nat):Int):=(wfs _ _).symm
  have hq:b*(f.2/Nat.gcd b f.2)/f.2<=b*(f.2/Nat.gcd b f.2):=Nat.div_le_self _ _
  have c1:∀x:Int,CMul x (((f.2:Nat):Int)/((Nat.gcd b f.2:Nat):Int)):=fun x=>by rw[eby];exact iG (bZ hby (bZ hfD hD1)) x
  have c2:∀x:Int,CMul x (((b:Nat):Int)*(((f.2:Nat):Int)/((Nat.gcd b f.2:Nat):Int))/((f.2:Nat):Int)):=fun x=>by rw[eby,eb2,eb3];exact iG (bZ hq (bZ hbb hD1)) x
  refine⟨_,rfl,_,rfl,_,_,rfl,rfl,c1 _,_,rfl,_,rfl,_,rfl,_,_,rfl,rfl,c1 _,_,rfl,_,_,rfl,rfl,⟨by omega,by omega⟩,_,_,rfl,rfl,c2 _,_,_,rfl,rfl,?_⟩
  refine⟨_,rfl,_,rfl,_,_,rfl,rfl,c1 _,?_⟩
  refine⟨rfl,a*((f.2/Nat.gcd b f.2:Nat):Int)+f.1*((b*(f.2/Nat.gcd b f.2)/f.2:Nat):Int),b*(f.2/Nat.gcd b f.2),some (.int f.1),some (.int ((f.2:Nat):Int)),some (.int ((f.2/Nat.gcd b f.2:Nat):Int)),?_,?_⟩
  rotate_left
  ·show[some (V.ref la),some (.int (a*(((f.2:Nat):Int)/((Nat.gcd b f.2:Nat):Int))+f.1*(((b:Nat):Int)*(((f.2:Nat):Int)/((Nat.gcd b f.2:Nat):Int))/((f.2:Nat):Int)))),some (.int (((b:Nat):Int)*(((f.2:Nat):Int)/((Nat.gcd b f.2:Nat):Int)))),some (.int f.1),some (.int ((f.2:Nat):Int)),some (.int (((f.2:Nat):Int)/((Nat.gcd b f.2:Nat):Int)))]=_
   rw[eby,eb2,eb3]
  obtain⟨hi,rfl⟩:=lC.mp hf
  rw[wcu hi,rm,wM]
  exact st
 ·obtain⟨rfl,a,b,o1,o2,o3,hs,rfl⟩:=p
  refine⟨_,rfl,_,rfl,(by show 2<=sizeLine;decide),fun r hr'=> ?_⟩
  refine q r a b _ (aV hr' _) aH ?_
  rw[yeg (by omega)]at hs
  exact hs
def JM(K:W.Frag):Sp:=fun vs H Q _=>∃(sa pa:Addr) (xs:List Int) (aM:List V) (n:Nat) (fs:List (Int×Nat)) (D:Nat),vs=[.ref sa,.ref pa]/\SqT K H sa (xs.map V.int)/\SqL K H pa aM/\dh K H aM fs/\fs.length=n/\(∀x∈xs,0<=x/\x<(n:Int))/\xs.length<=1000/\DOk D (xs.map fun x=>fs.getD x.toNat (0,1))/\zE D (xs.map fun x=>fs.getD x.toNat (0,1))<=1*(D:Int)/\∀H',Same H H'->Q (.bl false) H'
theorem Pa:FnScope ["some","prices"] ["some","prices"] (defScope gU):=fsc
theorem Qf{f f1 f2:Addr}{fd d1 d2:FuncData}(F:Fun K "outweighs" "outweighs" gU f fd)(D1:bJ K mg "is_less" gF ["one","other"] f1 d1)(G1:FnOk P w K mg base CX0 1 f1 d1 ["one","other"] (vI K))(D2:bJ K mg "sum_of" iK ["fractions"] f2 d2)(G2:FnOk P w K mg base CX0 2 f2 d2 ["fractions"] (qO K)):
  FnOk P w K mg base CX0 3 f fd ["some","prices"] (JM K):=by
 refine F.ok Pa (fun vs H Q E h=> ?_) (fun cdv A outer s H vs Q E hr h=> ?_)
 ·obtain⟨sa,pa,xs,aM,n,fs,D,rfl,_⟩:=h
  rfl
 obtain⟨sa,pa,xs,aM,n,fs,D,rfl,hS,hP,hf,hn,hx,h1k,hD,hw,qq⟩:=h
 refine⟨_,(aX (cF (pc G1 hr D1 (aj (oG (aj aK (aj aK au))) (aj (pc G2 hr D2 (aj (oH (own:=["place"]) (caps:=["prices"]) (ix:=[1]) rfl (Am (pv 0)) rfl rfl (.cons rfl rfl .nil) (fun _ _ _ _ _=>(cY (i:=0) (show(["place","prices"]:List Str).Nodup from by decide+kernel) rfl (Or.inl rfl))) (fun _ _ _ _ _=>qb) (fun _ _ _ _ _=>(bB (jY K) (pv 1) (pv 0) (fun _ _=>rfl)))) au)) au))))),?_⟩
 have hlen:=Paired.lF hf
 refine⟨(by show 2<=sizeLine;decide),fun r1 hr1=> ?_⟩
 have s1:=aV hr1 (.tup [.int 1,.int 1])
 have er:(upd H r1 (.tup [.int 1,.int 1])) r1=some (.tup [.int 1,.int 1]):=aH
 have hf1:=dh.same hf s1
 have hS1:=s1.tup hS
 have hP1:=s1.seq hP
 generalize (upd H r1 (.tup [.int 1,.int 1]))=H1 at *
 refine⟨_,rfl,sa,_,rfl,hS1,fun hz=> ?_⟩
 refine Iz (xs:=xs.map V.int) (fun i acc σ H'=>H'=H1/\dh K H1 acc ((xs.take i).map fun x=>fs.getD x.toNat (0,1))/\∃o,σ=[o,some (.ref pa)]) ⟨rfl,.nil,_,rfl⟩ (fun i acc σ H' _ p=>by rw[p.1];exact hS1) (fun i acc σ H' _ p=> ?_) hz (fun i x acc σ H' hx' p=> ?_) (fun acc σ H' p=> ?_)
 ·rw[Paired.lF p.2.1,aF,vA];exact Dj _ _
 ·obtain⟨rfl,hp,o,rfl⟩:=p
  rw[cg]at hx'
  cases ex:xs[i]? with
  |none=>rw[ex]at hx';cases hx'
  |some y=>
   rw[ex]at hx'
   cases hx'
   have hy:=hx y (iZ ex)
   have hk:y.toNat<aM.length:=by omega
   have hv:aM[y.toNat]? =some aM[y.toNat]:=gH hk
   obtain⟨g,hg,fa,e,h3⟩:=Paired.at_ hf1 hv
   have ha:atI aM y=some (.ref fa):=by
    have:y=((y.toNat:Nat):Int):=by omega
    rw[this,<-e];exact atI_nat hv
   refine⟨_,rfl,_,rfl,pa,aM,_,_,rfl,rfl,hP1,ha,rfl,?_,_,rfl⟩
   obtain⟨hi,rfl⟩:=lC.mp ex
   rw[wcu hi,bQ]
   refine Paired.snoc hp ⟨fa,rfl,?_⟩
   show HN K H' fa (fs.getD xs[i].toNat (0,1))
   rw[jC,hg]
   exact h3
 intro p1 hp1
 obtain⟨rfl,hp,_⟩:=p
 rw[aF,qe]at hp
 have s2:=aV hp1 (.lst acc)
 have hal:acc.length<=1000:=by rw[Paired.lF hp,aF];exact h1k
 refine⟨p1,acc,_,D,rfl,SqL.of aH,dh.same hp s2,hD,hal,fun r a b H2 s3 hr2 hs=> ?_⟩
 have hbD:=hs.le hD.pos
 have hD1:=hD.le
 refine⟨r1,r,1,a,1,b,rfl,(s2.trans s3).tup (SqT.of er),SqT.of hr2,iG (by omega) _,iG (by omega) _,?_⟩
 have:=hs.Lb hD.pos hw
 show Q (.bl (decide (1*((b:Nat):Int)<a*((1:Nat):Int)))) _
 rw[iY (by omega)]
 exact qq _ (s1.trans (s2.trans s3))
theorem zf{n:Int}:∀{xs:List Int} {m:Int},xs.Pairwise (· < ·)->(∀x∈xs,m<=x/\x<n)->m<=n->m+(xs.length:Int)<=n
 |[],m,_,_,h=>by simpa using h
 |x::xs,m,hp,hb,_=>by
  obtain⟨h1,h2⟩:=Xl.mp hp
  have hx:=hb x cX
  have:=zf (m:=m+1) h2 (fun y hy=>⟨by have:=h1 y hy;omega,(hb y (eE _ hy)).2⟩) (by omega)
  rw[rD];omega
theorem QF{n:Nat}{xs:List Int}(h:xs.Pairwise (· < ·))(hb:∀x∈xs,0<=x/\x<(n:Int)):xs.length<=n:=by
 have:=zf (m:=0) h hb (by omega)
 omega
theorem any_false(k:Nat):(List.replicate k false).any id=false:=by
 rw[NP]
 intro b hb
 rw[(yex.mp hb).2];decide
theorem PJ{n ov:Nat}{X:Nat->Int}{xs:List Int}(hx:∀x∈xs,0<=x/\x<(n:Int)):(xs.map fun x=>(fW n ov X).getD x.toNat (0,1))=xs.map fun x=>aL (X x.toNat) ov:=by
 refine Rt fun x h=> ?_
 have:=hx x h
 unfold fW
 rw[jC,cg,Ru (by omega)];rfl
theorem iC.cmp{D b v:Nat}{S a u:Int}(hD:0<D)(h:iC D S a b):(!decide (a*(v:Int)<u*(b:Int)))=decide (u*(D:Int)<=S*(v:Int)):=by
 have hb:(0:Int)<(b:Int):=by have:=h.pos;omega
 have hd:(0:Int)<(D:Int):=by omega
 have e:a*(D:Int)=S*(b:Int):=by
  have e1:((D:Nat):Int)=((D/b:Nat):Int)*(b:Int):=by rw[<-Tf,Xj h.dvd]
  rw[e1,<-h.eq,Td]
 have key:a*(v:Int)<u*(b:Int)↔S*(v:Int)<u*(D:Int):=by
  have x1:(a*(v:Int))*(D:Int)=(S*(v:Int))*(b:Int):=by
   calc (a*(v:Int))*(D:Int)=(a*(D:Int))*(v:Int):=by ac_rfl
    _=(S*(b:Int))*(v:Int):=by rw[e]
    _=(S*(v:Int))*(b:Int):=by ac_rfl
  have x2:(u*(b:Int))*(D:Int)=(u*(D:Int))*(b:Int):=by ac_rfl
  constructor
  ·intro q
   have:=wea q hd
   rw[x1,x2]at this
   exact wee this (by omega)
  ·intro q
   have:=wea q hb
   rw[<-x1,<-x2]at this
   exact wee this (by omega)
 by_cases c:a*(v:Int)<u*(b:Int)
 ·rw[gb c,iY (by have:=key.mp c;omega)];rfl
 ·rw[iY c,gb (by have:=mt key.mpr c;omega)];rfl
def qm(K:W.Frag):Sp:=fun vs H Q _=>∃(a wa pa na:Addr) (n:Int) (ts:List (Int×Int)) (wl:List Int) (aM:List V) (ov:Nat) (X:Nat->Int) (u:Int) (v:Nat),vs=[.ref a,.ref wa,.ref pa,.ref na]/\bA K H a n ts/\SqT K H wa (wl.map V.int)/\xr n wl/\SqL K H pa aM/\dh K H aM (fW n.toNat ov X)/\HN K H na (u,v)/\v<=39916800/\0<ov/\ov<=39916800/\(∀p,0<=X p)/\(∀xs,iI ts false n.toNat xs->(xs.map fun x=>X x.toNat).sum<=(ov:Int))/\∀H',Same H H'->Q (.bl (decide (u*(ov:Int)<=(Sx.sm n.toNat fun p=>jD wl p*X p)*(v:Int)))) H'
theorem m8:FnScope ["web","wants","prices","number","worth"] ["web","wants","prices","number"] (defScope gk):=fsc
theorem v8{f f1 f2 f3 f4 f5 f6 f7:Addr}{fd d1 d2 d3 d4 d5 d6 d7:FuncData}(F:Fun K "are_prices" "are_prices" gk f fd)(D1:bJ K mg "need_web" IV ["thing"] f1 d1)(G1:FnOk P w K mg base CX0 7 f1 d1 ["thing"] (cR K))(D2:bJ K mg "need_wants" dN ["web","thing"] f2 d2)(G2:FnOk P w K mg base CX0 2 f2 d2 ["web","thing"] (jL K))(D3:bJ K mg "is_fraction" eV ["thing"] f3 d3)(G3:FnOk P w K mg base CX0 2 f3 d3 ["thing"] (JN K))(D4:bJ K mg "full_apart" S9 ["web"] f4 d4)(G4:FnOk P w K mg base CX0 8 f4 d4 ["web"] (fB K))(D5:bJ K mg "outweighs" gU ["some","prices"] f5 d5)(G5:FnOk P w K mg base CX0 3 f5 d5 ["some","prices"] (JM K))(D6:bJ K mg "sum_of" iK ["fractions"] f6 d6)(G6:FnOk P w K mg base CX0 2 f6 d6 ["fractions"] (qO K))(D7:bJ K mg "is_less" gF ["one","other"] f7 d7)(G7:FnOk P w K mg base CX0 1 f7 d7 ["one","other"] (vI K))(uT:mg "all"=none)(bw:mg "len"=none)(bV:mg "isinstance"=none)(jX:mg "list"=none)(Lh:mg "any"=none)(Yx:mg "zip"=none):
  FnOk P w K mg base CX0 9 f fd ["web","wants","prices","number"] (qm K):=by
 refine F.ok m8 (fun vs H Q E h=> ?_) (fun cdv A outer s H vs Q E hr h=> ?_)
 ·obtain⟨a,wa,pa,na,n,ts,wl,aM,ov,X,u,v,rfl,_⟩:=h
  rfl
 obtain⟨a,wa,pa,na,n,ts,wl,aM,ov,X,u,v,rfl,hA,hW,hwl,Vx,hf,hN,hv9,xV,WQ,hxn,aaz,qq⟩:=h
 refine⟨_,(aO (xP (pc G1 hr D1 (aj (pv 0) au))) (aO (xP (pc G2 hr D2 (aj (pv 0) (aj (pv 1) au)))) (aO (mY (PW.pt (pw_or (pt_not (uD (fM dU rfl bV (by decide+kernel) (aj (pv 2) (aj (pe_bltn rfl jX (v:= .ty "list") (by decide+kernel) rfl) au))))) (pw_or (kj op_ne (fM qd rfl bw oU (aj (pv 2) au)) (bB gQ (pv 0) aK (fun _ _=>rfl)) (nomark _)) (pw_or1 (pt_not (uD (fM (gK rfl) rfl uT (by decide+kernel) (aj (oH (own:=["price"]) (caps:=[]) (ix:=[]) rfl (xW (pv 2)) rfl rfl .nil (fun _ _ _ _ _=>(cY (i:=0) (show(["price"]:List Str).Nodup from by decide+kernel) rfl (Or.inl rfl))) (fun _ _ _ _ _=>qb) (fun _ _ _ _ _=>(pc G3 hr D3 (aj (pv 0) au)))) au)))))))) (aX (cF pe_bl)) oJ) (aO (mY (uD (fM (zT rfl) rfl Lh (by decide+kernel) (aj (oH (own:=["some"]) (caps:=["prices"]) (ix:=[2]) rfl (xW (pc G4 hr D4 (aj (pv 0) au))) rfl rfl (.cons rfl rfl .nil) (fun _ _ _ _ _=>(cY (i:=0) (show(["some","prices"]:List Str).Nodup from by decide+kernel) rfl (Or.inl rfl))) (fun _ _ _ _ _=>qb) (fun _ _ _ _ _=>(pc G5 hr D5 (aj (pv 0) (aj (pv 1) au))))) au))) (aX (cF pe_bl)) oJ) (aO (cV (i:=4) m8.nd rfl (Or.inl rfl) (pc G6 hr D6 (aj (oH (own:=["want","price"]) (caps:=[]) (ix:=[]) rfl (Uw rfl Yx (aj (pv 1) (aj (pv 2) au))) rfl rfl .nil (fun _ _ _ _ _=>(iu K (n:=2) rfl (tV (cY (i:=0) (show(["want","price"]:List Str).Nodup from by decide+kernel) rfl (Or.inl rfl)) (tV (cY (i:=1) (show(["want","price"]:List Str).Nodup from by decide+kernel) rfl (Or.inl rfl)) pgs_nil)))) (fun _ _ _ _ _=>qb) (fun _ _ _ _ _=>(oG (aj (bN p8 (pv 0) (bB (Fx K) (pv 1) aK (fun _ _=>rfl))) (aj (bB (Fx K) (pv 1) aK (fun _ _=>rfl)) au))))) au))) (aX (cF (pe_not (pc G7 hr D7 (aj (pv 4) (aj (pv 3) au))))))))))),?_⟩
 have h0:=hA.h0
 have h10:=hA.h1
 have en:((n.toNat:Nat):Int)=n:=by omega
 have hwn:wl.length=n.toNat:=by have:=hwl.1;omega
 have hpl:aM.length=n.toNat:=by rw[Paired.lF hf];unfold fW;rw[aF,tW]
 refine⟨_,rfl,.ref a,_,rfl,hA.web.dv.dx,hA.ok,fun H1 s1=> ?_⟩
 obtain⟨tt1,rr1,w1,w2,w3⟩:=id (hA.same s1).web
 refine⟨_,rfl,_,rfl,a,wa,n,_,wl,rfl,w1,s1.tup hW,hwl,fun H2 s2=> ?_⟩
 have s12:=s1.trans s2
 obtain⟨tt2,rr2,x1,x2,x3⟩:=id (hA.same s12).web
 refine⟨_,rfl,.ref pa,"list",_,rfl,.inr (.inl ⟨rfl,_,s12.seq Vx⟩),.inr (.inr (.inr rfl)),_,rfl,?_⟩
 refine iteF ?_
 refine⟨_,rfl,pa,aM,rfl,.inl (s12.seq Vx),fun hz=>⟨_,rfl,a,_,_,.int n,rfl,rfl,x1,rfl,rfl,_,rfl,?_⟩⟩
 have e1:(!decide (V.int ((aM.length:Nat):Int)=V.int n))=false:=by rw[hpl,en];simp
 rw[e1]
 refine iteF ?_
 refine⟨_,rfl,pa,aM,rfl,s12.seq Vx,fun hz=> ?_⟩
 have hf2:=dh.same hf s12
 refine HY (xs:=aM) (fun i acc σ H'=>acc=(List.replicate i true).map V.bl/\H'=H2/\∃o,σ=[o]) ⟨rfl,rfl,_,rfl⟩ (fun i acc σ H' _ p=>by rw[p.2.1];exact s12.seq Vx) (fun i acc σ H' _ p=>by rw[p.1,aF,Tn];exact aJ _) hz (fun i x acc σ H' hx p=> ?_) (fun acc σ H' p=> ?_)
 ·obtain⟨rfl,rfl,o,rfl⟩:=p
  obtain⟨g,hg,fa,rfl,h3⟩:=Paired.at_ hf2 hx
  have hg2:∃p,g=aL (X p) ov:=by
   obtain⟨p,_,e⟩:=iV.mp (iZ hg)
   exact⟨p,e.symm⟩
  obtain⟨p,rfl⟩:=hg2
  obtain⟨g1,g2,g3⟩:=wA xV (hxn p)
  refine⟨_,rfl,fa,_,_,rfl,h3,g1,g2,bZ (wfi xV g3) WQ,?_,rfl,_,rfl⟩
  rw[wdl,bQ];rfl
 intro p1 hp1
 obtain⟨rfl,rfl,_⟩:=p
 have xU:=s12.trans (aV hp1 (.lst ((List.replicate aM.length true).map V.bl)))
 refine⟨p1,_,rfl,SqL.of aH,_,rfl,?_⟩
 rw[all_true]
 refine iteF ?_
 generalize upd H' p1 (.lst ((List.replicate aM.length true).map V.bl))=H3 at *
 -- no set outweighs
 refine⟨_,rfl,a,n,ts,rfl,hA.same xU,fun sl ss' H4 s4 LC jA hsl=> ?_⟩
 obtain⟨its,hS,hP,hss⟩:=LC
 have Pr:=xU.trans s4
 refine⟨sl,_,rfl,SqL.of hS,fun hz=> ?_⟩
 refine HY (xs:=its.map fun p=>V.ref p.1) (fun i acc σ H'=>acc=(List.replicate i false).map V.bl/\Same H4 H'/\∃o,σ=[o,some (.ref pa)]) ⟨rfl,Same.refl _,_,rfl⟩ (fun i acc σ H' _ p=>p.2.1.seq (SqL.of hS)) (fun i acc σ H' _ p=>by rw[p.1,aF,Tn];exact aJ _) hz (fun i x acc σ H' hx p=> ?_) (fun acc σ H' p=> ?_)
 ·obtain⟨rfl,sm,o,rfl⟩:=p
  rw[cg]at hx
  cases ev:its[i]? with
  |none=>rw[ev]at hx;cases hx
  |some it=>
   rw[ev]at hx
   cases hx
   have st:=Pr.trans sm
   have hit:=iZ ev
   have hK:iI ts false n.toNat it.2:=vK jA (by rw[<-hss];exact Tj hit)
   have hg:=PJ (ov:=ov) (X:=X) hK.lt
   have Vz:it.2.length<=1000:=by
    have:=QF hK.up hK.lt
    omega
   refine⟨_,rfl,_,rfl,it.1,pa,it.2,aM,n.toNat,fW n.toNat ov X,ov,rfl,sm.tup (hP it hit),st.seq Vx,dh.same hf st,by unfold fW;rw[aF,tW],hK.lt,Vz,?_,?_,fun H5 s5=>⟨?_,sm.trans s5,_,rfl⟩⟩
   ·rw[hg]
    refine⟨xV,WQ,fun f hf'=> ?_⟩
    obtain⟨y,_,rfl⟩:=iV.mp hf'
    exact wA xV (hxn _)
   ·rw[hg,Ej xV];have:=aaz _ hK;omega
   ·rw[wdl,bQ];rfl
 intro p2 hp2
 obtain⟨rfl,sm,_⟩:=p
 have Pq:=Pr.trans (sm.trans (aV hp2 (.lst ((List.replicate (its.map fun p=>V.ref p.1).length false).map V.bl))))
 refine⟨p2,_,rfl,SqL.of aH,_,rfl,?_⟩
 rw[any_false]
 refine iteF ?_
 generalize upd H' p2 (.lst ((List.replicate (its.map fun p=>V.ref p.1).length false).map V.bl))=H5 at *
 have hf5:=dh.same hf Pq
 -- the worth
 refine⟨_,rfl,_,rfl,wa,pa,wl.map V.int,aM,rfl,Pq.tup hW,Pq.seq Vx,by rw[aF];omega,fun hz=> ?_⟩
 refine M5 (K:=K) (a:=wa) (b:=pa) (xs:=wl.map V.int) (ys:=aM) (fun i acc σ H'=>dh K H' acc ((List.range i).map fun p=>(jD wl p*(aL (X p) ov).1,(aL (X p) ov).2))/\Same H5 H'/\∃o1 o2,σ=[o1,o2]) ⟨.nil,Same.refl _,_,_,rfl⟩ (fun i acc σ H' _ p=>⟨(Pq.trans p.2.1).tup hW,(Pq.trans p.2.1).seq Vx⟩) (by rw[aF];omega) (fun i acc σ H' _ p=>by rw[Paired.lF p.1,aF,tW];exact aJ _) hz (fun i v x t acc σ H' hv hx p ht=> ?_) (fun acc σ H' p=> ?_)
 ·obtain⟨hp,sm,o1,o2,rfl⟩:=p
  rw[cg]at hv
  cases ev:wl[i]? with
  |none=>rw[ev]at hv;cases hv
  |some y=>
   rw[ev]at hv
   cases hv
   have hi:i<n.toNat:=by have:=(lC.mp ev).1;omega
   have hwy:jD wl i=y:=by unfold jD;rw[jC,ev];rfl
   have hy:=hwl.2 y (iZ ev)
   obtain⟨g,hg,fa,rfl,h3⟩:=Paired.at_ hf5 hx
   have hg2:g=aL (X i) ov:=by
    unfold fW at hg
    rw[cg,Ru hi]at hg
    exact(rH hg).symm
   subst hg2
   have t1:=aV ht (.tup [.int y,.ref fa])
   have h3':=(sm.trans t1).tup h3
   refine⟨t,_,rfl,SqT.of aH,rfl,_,_,rfl,_,_,rfl,rfl,?_⟩
   refine⟨_,rfl,_,rfl,fa,_,_,.int (aL (X i) ov).1,rfl,rfl,h3',rfl,_,_,rfl,rfl,.inl ⟨by omega,by omega⟩,_,rfl,fa,_,_,.int (((aL (X i) ov).2:Nat):Int),rfl,rfl,h3',rfl,(by show 2<=sizeLine;decide),fun r hr'=> ?_⟩
   have t2:=aV hr' (.tup [.int (y*(aL (X i) ov).1),.int (((aL (X i) ov).2:Nat):Int)])
   refine⟨?_,sm.trans (t1.trans t2),_,_,rfl⟩
   rw[vq,bQ]
   refine Paired.snoc (dh.same hp (t1.trans t2)) ⟨r,rfl,?_⟩
   show HN K _ r (jD wl i*(aL (X i) ov).1,(aL (X i) ov).2)
   rw[hwy]
   exact SqT.of aH
 intro p3 hp3
 obtain⟨hp,sm',_⟩:=p
 rw[aF,hwn]at hp
 have s6:=aV hp3 (.lst acc)
 have hal:acc.length<=1000:=by rw[Paired.lF hp,aF,tW];omega
 refine⟨p3,acc,_,ov,rfl,SqL.of aH,dh.same hp s6,⟨xV,WQ,fun f hf'=> ?_⟩,hal,fun r a' b' H7 s7 hr7 hs=> ?_⟩
 ·obtain⟨p,hp',rfl⟩:=iV.mp hf'
  obtain⟨g1,g2,g3⟩:=wA xV (hxn p)
  refine⟨Ai ?_ g1,g2,g3⟩
  unfold jD
  rw[jC,gH (by have:=tZ.mp hp';omega)]
  exact(hwl.2 _ (I9 _)).1
 have Uk:=Pq.trans (sm'.trans (s6.trans s7))
 have hbD:=hs.le xV
 refine⟨_,rfl,_,rfl,r,na,a',u,b',v,rfl,SqT.of hr7,Uk.tup hN,iG hv9 _,iG (by omega) _,_,rfl,?_⟩
 show Q (.bl (!decide (a'*((v:Nat):Int)<u*((b':Nat):Int)))) _
 rw[hs.cmp xV,Dk xV n.toNat]
 exact qq _ Uk
end
def beats(t s:List Int):Bool:=decide (s.length<t.length)||(decide (t.length=s.length)&&HT.lexLt t s)
def zY(ts:List (Int×Int))(xs:List Int):List (List Int):=xs.foldl (fun found p=>found++(found.filter fun s=> !s.any fun o=>bh ts o p).map fun s=>s++[p]) [[]]
theorem HB(ts:List (Int×Int))(xs:List Int)(p:Int):zY ts (xs++[p])=zY ts xs++((zY ts xs).filter fun s=> !s.any fun o=>bh ts o p).map fun s=>s++[p]:=by
 unfold zY;rw[Xi];rfl
theorem sub_one{v:List Int}{p:Int}(h:v.Sublist [p]):v=[]\/v=[p]:=by
 cases h with
 |cons _ h=>exact .inl (Oe.mp h)
 |cons_cons _ h=>exact .inr (by rw[Oe.mp h])
structure Ip(ts:List (Int×Int))(xs s:List Int):Prop where
 sub:s.Sublist xs
 ap:s.Pairwise fun a b=>bh ts a b=false
theorem yQ{ts:List (Int×Int)}{s:List Int}:∀{k:Nat} {xs:List Int},xs.length=k->(s∈zY ts xs↔Ip ts xs s):=by
 intro k
 induction k generalizing s with
 |zero=>
  intro xs hl
  have:xs=[]:=Jd hl
  subst this
  constructor
  ·intro h;rw[fZ.mp (show s∈[[]]from h)];exact⟨TQ _,List.Pairwise.nil⟩
  ·intro h;rw[Oe.mp h.sub];exact fZ.mpr rfl
 |succ k ih=>
  intro xs hl
  have hne:xs≠[]:=fun e=>by rw[e]at hl;cases hl
  obtain⟨ys,p,rfl⟩:∃ys p,xs=ys++[p]:=⟨xs.dropLast,xs.getLast hne,(yek hne).symm⟩
  have hk:ys.length=k:=by rw[qC]at hl;exact wgz hl
  rw[HB,iW]
  constructor
  ·rintro(h|h)
   ·have S:=(ih hk).mp h
    exact⟨S.sub.trans (wck _ _),S.ap⟩
   ·obtain⟨u,hu,rfl⟩:=iV.mp h
    obtain⟨u1,u2⟩:=fV.mp hu
    have S:=(ih hk).mp u1
    refine⟨S.sub.append (TQ _),?_⟩
    rw[Oi]
    refine⟨S.ap,Tp _ _,fun a ha b hb=> ?_⟩
    rw[fZ.mp hb]
    rw[RB,NP]at u2
    exact Bool.eq_false_iff.mpr (u2 a ha)
  ·intro S
   obtain⟨u,v,rfl,hu,hv⟩:=List.sublist_append_iff.mp S.sub
   rcases sub_one hv with rfl|rfl
   ·refine .inl ((ih hk).mpr ⟨by rw[uF];exact hu,S.ap⟩)
   ·refine .inr (iV.mpr ⟨u,fV.mpr ⟨(ih hk).mpr ⟨hu,(Oi.mp S.ap).1⟩,?_⟩,rfl⟩)
    rw[RB,NP]
    intro a ha
    rw[(Oi.mp S.ap).2.2 a ha p (fZ.mpr rfl)]
    decide
def pick(l:List (List Int)):List Int:=l.foldl (fun found one=>if beats one found then one else found) []
theorem Gu(l:List (List Int))(s:List Int):pick (l++[s])=if beats s (pick l)then s else pick l:=by unfold pick;rw[Xi];rfl
def best(ts:List (Int×Int))(xs:List Int):List Int:=pick (zY ts xs)
structure Best(ts:List (Int×Int))(xs s:List Int):Prop where
 is:Ip ts xs s
 top:∀t,Ip ts xs t->beats t s=false
theorem Qx(a:List Int):HT.lexLt a a=false:=by rw[HT.bY];exact iY (wen a)
theorem Nx{t s:List Int}:beats t s=true↔s.length<t.length\/(t.length=s.length/\t<s):=by
 unfold beats
 rw[wgi,vD,TX,TX,HT.bY,TX]
theorem Hx{s t:List Int}(h1:beats s t=false)(h2:beats t s=false):s=t:=by
 rw[XQ,Ne,Nx,not_or]at h1 h2
 have hl:s.length=t.length:=by omega
 have a:¬s<t:=fun h=>h1.2 ⟨hl,h⟩
 have b:¬t<s:=fun h=>h2.2 ⟨hl.symm,h⟩
 exact wfo (NK.mp b) (NK.mp a)
theorem zV{a b c:List Int}(h1:beats a b=false)(h2:beats b c=false):beats a c=false:=by
 rw[XQ,Ne,Nx,not_or]at h1 h2⊢
 have hab:a.length<=b.length:=by omega
 have hbc:b.length<=c.length:=by omega
 refine⟨by omega,fun⟨e,l⟩=> ?_⟩
 have n1:¬a<b:=fun h=>h1.2 ⟨by omega,h⟩
 have n2:¬b<c:=fun h=>h2.2 ⟨by omega,h⟩
 exact absurd l (NK.mpr (List.le_trans (NK.mp n2) (NK.mp n1)))
theorem CK{a b:List Int}(h:beats a b=true):beats b a=false:=by
 rw[Nx]at h
 rw[XQ,Ne,Nx,not_or]
 rcases h with h|⟨e,l⟩
 ·exact⟨by omega,fun⟨e,_⟩=>by omega⟩
 ·exact⟨by omega,fun⟨_,l'⟩=>wen _ (List.lt_trans l l')⟩
theorem Hz(a:List Int):beats a a=false:=by
 rw[XQ,Ne,Nx,not_or]
 exact⟨by omega,fun⟨_,l⟩=>wen _ l⟩
theorem Hy(t:List Int)(h:t≠[]):beats t []=true:=by
 rw[Nx];left
 rcases t with _|⟨x,t⟩
 ·exact absurd rfl h
 ·simp
theorem yK:∀(k:Nat) (l:List (List Int)),l.length=k->(pick l=[]\/pick l∈l)/\∀t∈l,beats t (pick l)=false
 |0,l,h=>by rw[Jd h];exact⟨.inl rfl,fun t h=>(nomatch h)⟩
 |k+1,l0,h=>by
  have hne:l0≠[]:=fun e=>by rw[e]at h;cases h
  obtain⟨l,s,rfl⟩:∃ys p,l0=ys++[p]:=⟨l0.dropLast,l0.getLast hne,(yek hne).symm⟩
  have ih:=yK k l (by rw[qC]at h;exact wgz h)
  rw[Gu]
  cases hb:beats s (pick l)with
  |true=>
   rw[ao rfl]
   refine⟨.inr (iW.mpr (.inr (fZ.mpr rfl))),fun t ht=> ?_⟩
   rcases iW.mp ht with h|h
   ·exact zV (ih.2 t h) (CK hb)
   ·rw[fZ.mp h];exact Hz s
  |false=>
   rw[ak (by decide)]
   refine⟨ih.1.imp id fun h=>iW.mpr (.inl h),fun t ht=> ?_⟩
   rcases iW.mp ht with h|h
   ·exact ih.2 t h
   ·rw[fZ.mp h];exact hb
theorem dW(ts:List (Int×Int))(xs:List Int):Best ts xs (best ts xs):=by
 have h:=yK _ (zY ts xs) rfl
 refine⟨?_,fun t ht=>h.2 t ((yQ rfl).mpr ht)⟩
 rcases h.1 with e|e
 ·show Ip ts xs (pick (zY ts xs))
  rw[e];exact⟨wfr _,List.Pairwise.nil⟩
 ·exact(yQ rfl).mp e
theorem M9{ts:List (Int×Int)}{xs s:List Int}(h:Best ts xs s):s=best ts xs:=
 Hx ((dW ts xs).top s h.is) (h.top _ (dW ts xs).is)
theorem xg{ts:List (Int×Int)}{xs:List Int}(h:xs≠[]):best ts xs≠[]:=fun e=>by
 rcases xs with _|⟨x,xs⟩
 ·exact h rfl
 have:=(dW ts (x::xs)).top [x] ⟨List.singleton_sublist.mpr (cX ..),Tp _ _⟩
 rw[e,Hy [x] (by simp)]at this
 cases this
theorem Eu{g:Int->Int}:∀(a b:List Int),(∀x∈a,∀y∈b,(g x=g y↔x=y)/\(g x<g y↔x<y))->HT.lexLt (a.map g) (b.map g)=HT.lexLt a b
 |[],[],_=>rfl
 |[],_::_,_=>rfl
 |_::_,[],_=>rfl
 |x::a,y::b,h=>by
  have h1:=h x (cX ..) y (cX ..)
  have ih:=Eu a b fun u hu v hv=>h u (eE _ hu) v (eE _ hv)
  rw[qM,qM,HT.lexLt_cons,HT.lexLt_cons,ih]
  by_cases e:x=y
  ·rw[ao e,ao (h1.1.mpr e)]
  ·rw[ak e,ak (fun q=>e (h1.1.mp q))]
   by_cases l:x<y
   ·rw[gb l,gb (h1.2.mpr l)]
   ·rw[iY l,iY (fun q=>l (h1.2.mp q))]
theorem lX{xs s:List Int}(hx:xs.Pairwise (· < ·))(hs:s.Pairwise (· < ·))(h:∀k∈s,k∈xs):s.Sublist xs:=by
 have e:s=xs.filter fun k=>decide (k∈s):=S8 hs (hx.filter _) fun k=>by
  rw[fV,TX]
  exact⟨fun q=>⟨h k q,q⟩,fun q=>q.2⟩
 rw[e];exact Jb
theorem jQ(n:Nat):(rng n).Pairwise (· < ·):=by
 unfold rng
 rw[Oh]
 exact yef.imp fun{a b} h=>by omega
theorem Hg{n:Int}{ts:List (Int×Int)}{xs s:List Int}(ht:bW n ts)(hok:eF n xs)(h0:0<=n)(h:CP s (rows (DQ xs ts) (xs.length:Int) (xs.length:Int).toNat) false xs.length):(s.map fun i=>xs.getD i.toNat 0)=best ts xs:=by
 obtain⟨ss,hS,i,hi,hm⟩:=h
 generalize hc:rows (DQ xs ts) (xs.length:Int) (xs.length:Int).toNat=cts at *
 have key:∀i j:Int,0<=i->i<j->j<(xs.length:Int)->aY cts i j=aY ts (xs.getD i.toNat 0) (xs.getD j.toNat 0):=fun i j a b c=>by
  rw[<-hc,uK a b c]
  unfold DQ
  rw[tied_eq ht]
 have inF:∀{t:List Int},t∈ss->iI cts false xs.length t:=fun{t} q=>je _ _ (fV.mp (hS.1.mem_iff.mp q)).1
 have hsm:s∈ss:=iZ hi
 have K1:=inF hsm
 have C1:iI ts false n.toNat (s.map fun i=>xs.getD i.toNat 0):=Q7 ht hok h0 (by rw[hc];exact K1)
 refine M9 ⟨⟨lX hok.JB C1.up fun k hk=> ?_,?_⟩,fun t hT=> ?_⟩
 ·obtain⟨i,hi',rfl⟩:=iV.mp hk
  exact getD_at (K1.lt i hi').1 (K1.lt i hi').2
 ·refine X4 (fun{a b} ha hb hab=> ?_) C1.up
  have:=C1.all a ha b hb (by omega)
  rw[tied_eq ht]
  simpa using this
 ·have tu:t.Pairwise (· < ·):=hok.JB.sublist hT.sub
  have tm:∀k∈t,k∈xs:=fun k hk=>hT.sub.subset hk
  -- the places of t within xs
  have ex:∀k∈t,∃j:Int,0<=j/\j<(xs.length:Int)/\xs.getD j.toNat 0=k:=fun k hk=>by
   obtain⟨j,hj,e⟩:=uG (tm k hk)
   refine⟨(j:Int),by omega,by omega,?_⟩
   rw[Ws,jC,gH hj]
   exact e
  generalize hu:(rng xs.length).filter (fun j=>decide (xs.getD j.toNat 0∈t))=u
  have um:∀j,j∈u↔(0<=j/\j<(xs.length:Int))/\xs.getD j.toNat 0∈t:=fun j=>by rw[<-hu,fV,xO,TX]
  have uu:u.Pairwise (· < ·):=by rw[<-hu];exact(jQ _).filter _
  have mono:∀a∈u,∀b∈u,a<b->xs.getD a.toNat 0<xs.getD b.toNat 0:=fun a ha b hb hab=>lq hok.JB ((um a).mp ha).1.1 hab ((um b).mp hb).1.2
  have ut:(u.map fun j=>xs.getD j.toNat 0)=t:=by
   refine S8 ?_ tu fun k=> ?_
   ·rw[Oh]
    exact X4 (fun{a b} ha hb hab=>mono a ha b hb hab) uu
   ·rw[iV]
    constructor
    ·rintro⟨j,hj,rfl⟩;exact((um j).mp hj).2
    ·intro hk
     obtain⟨j,j0,j1,e⟩:=ex k hk
     exact⟨j,(um j).mpr ⟨⟨j0,j1⟩,by rw[e];exact hk⟩,e⟩
  have tt':∀a∈t,∀b∈t,a<b->bh ts a b=false:=fun a ha b hb hab=>by
   obtain⟨x,hx,ex1⟩:=uG ha
   obtain⟨y,hy,ey1⟩:=uG hb
   have hxy:x<y:=by
    rcases wev x y with q|q|q
    ·exact q
    ·subst q;omega
    ·have:=Ij.mp tu y x hy hx q
     omega
   have:=Ij.mp hT.ap x y hx hy hxy
   rw[ex1,ey1]at this;exact this
  have U:iI cts false xs.length u:=by
   have q:∀a∈u,∀b∈u,a<b->(aY cts a b==false)=true:=fun a ha b hb hab=>by
    rw[key a b ((um a).mp ha).1.1 hab ((um b).mp hb).1.2,<-tied_eq ht,tt' _ ((um a).mp ha).2 _ ((um b).mp hb).2 (mono a ha b hb hab)]
    rfl
   refine⟨uu,fun x hx=>((um x).mp hx).1,fun x hx y hy hne=> ?_⟩
   rcases Int.lt_or_lt_of_ne hne with c|c
   ·exact q x hx y hy c
   ·rw[Ib];exact q y hy x hx c
  obtain⟨v,hv,uv⟩:=zK U
  have hv':v∈ss:=hS.1.mem_iff.mpr hv
  have V:=inF hv'
  have sub:u.Sublist v:=lX V.up uu uv
  obtain⟨j,hj,ej⟩:=uG hv'
  have hj':ss[j]? =some v:=by rw[gH hj,ej]
  obtain⟨m1,m2⟩:=hm j v hj'
  have lu:t.length=u.length:=by rw[<-ut,aF]
  have l1:=sub.length_le
  rw[XQ,Ne,Nx,not_or,aF]
  refine⟨by omega,fun⟨e,l⟩=> ?_⟩
  have euv:u=v:=sub.eq_of_length (by omega)
  have nlt:¬j<i:=fun q=>by have:=m2 q;omega
  rw[<-ut,euv]at l
  have L:HT.lexLt v s=false:=by
   rcases Xx i j with q|q
   ·obtain⟨hi1,ei⟩:=lC.mp hi
    have:=Ij.mp hS.2 i j hi1 hj q
    rw[ei,ej]at this;exact this
   ·have:i=j:=by omega
    subst this
    rw[hj']at hi
    injection hi with hi
    rw[hi];exact Qx s
  have L2':=Eu (g:=fun k=>xs.getD k.toNat 0) v s fun x hx y hy=>by
   have bx:=V.lt x hx
   have by':=K1.lt y hy
   refine⟨⟨fun e=> ?_,fun e=>by rw[e]⟩,⟨fun e=> ?_,fun e=>lq hok.JB bx.1 e by'.2⟩⟩
   ·rcases wdb x y with c|c|c
    ·have:=lq hok.JB bx.1 c by'.2;omega
    ·exact c
    ·have:=lq hok.JB by'.1 c bx.2;omega
   ·rcases wdb x y with c|c|c
    ·exact c
    ·subst c;omega
    ·have:=lq hok.JB by'.1 c bx.2;omega
  rw[HT.bY,L]at L2'
  exact absurd l (TY L2')
def rest(ts:List (Int×Int))(xs:List Int):List Int:=xs.filter fun o=> !decide (o∈best ts xs)
theorem gq{ts:List (Int×Int)}{xs:List Int}(h:xs≠[]):(rest ts xs).length<xs.length:=by
 have hb:=xg (ts:=ts) h
 obtain⟨x,bs,e⟩:=List.exists_cons_of_ne_nil hb
 have hx:x∈xs:=(dW ts xs).is.sub.subset (by rw[e];exact cX ..)
 unfold rest
 rcases Xx (xs.filter fun o=> !decide (o∈best ts xs)).length xs.length with q|q
 ·exact q
 ·have e2:=List.filter_eq_self.mp ((Jb (p:=fun o=> !decide (o∈best ts xs)) (l:=xs)).eq_of_length (Rp (xR _ _) q)) x hx
  rw[e,gb (cX ..)]at e2
  cases e2
def VB(ts:List (Int×Int)):Nat->List Int->List (List Int)
 |0,_=>[]
 |f+1,xs=>if xs=[]then[]else best ts xs::VB ts f (rest ts xs)
def aq(ts:List (Int×Int))(xs:List Int):List (List Int):=VB ts xs.length xs
theorem zq(ts:List (Int×Int)):∀(f g:Nat) (xs:List Int),xs.length<=f->xs.length<=g->VB ts f xs=VB ts g xs
 |0,0,_,_,_=>rfl
 |0,g+1,xs,h,_=>by rw[Jd (Ig.mp h)];exact(ao rfl).symm
 |f+1,0,xs,_,h=>by rw[Jd (Ig.mp h)];exact ao rfl
 |f+1,g+1,xs,hf,hg=>by
  show(if xs=[]then[]else best ts xs::VB ts f (rest ts xs))=if xs=[]then[]else best ts xs::VB ts g (rest ts xs)
  by_cases e:xs=[]
  ·rw[ao e,ao e]
  ·have:=gq (ts:=ts) e
   rw[ak e,ak e,zq ts f g (rest ts xs) (by omega) (by omega)]
theorem dF(ts:List (Int×Int)):aq ts []=[]:=rfl
theorem Ny{ts:List (Int×Int)}{xs:List Int}(h:xs≠[]):aq ts xs=best ts xs::aq ts (rest ts xs):=by
 have hl:=gq (ts:=ts) h
 unfold aq
 obtain⟨k,hk⟩:∃k,xs.length=k+1:=⟨xs.length-1,by omega⟩
 rw[hk]
 show(if xs=[]then[]else best ts xs::VB ts k (rest ts xs))=_
 rw[ak h,zq ts k (rest ts xs).length (rest ts xs) (by omega) (aJ _)]
theorem eF.sub{n:Int}{xs ys:List Int}(h:eF n xs)(s:ys.Sublist xs):eF n ys:=⟨h.JB.sublist s,fun x hx=>h.lt x (s.subset hx)⟩
theorem eF.rest{n:Int}{xs:List Int}(ts:List (Int×Int))(h:eF n xs):eF n (rest ts xs):=h.sub Jb
def mZ(ss:List (List Int))(p:Int):Option Int:=ss.foldl (fun acc s=>if p∈s then some ((s.length:Nat):Int)else acc) none
theorem uL(ss:List (List Int))(s:List Int)(p:Int):mZ (ss++[s]) p=if p∈s then some ((s.length:Nat):Int)else mZ ss p:=by unfold mZ;rw[Xi];rfl
theorem Dt:∀(k:Nat) (ss:List (List Int)) (p:Int),ss.length=k->(∃s∈ss,p∈s)->(∀s∈ss,s.length<=10)->∃m:Nat,mZ ss p=some (m:Int)/\0<m/\m<=10
 |0,ss,p,h,⟨s,hs,_⟩,_=>by rw[Jd h]at hs;cases hs
 |k+1,l0,p,h,⟨s,hs,hp⟩,hb=>by
  have hne:l0≠[]:=fun e=>by rw[e]at h;cases h
  obtain⟨l,z,rfl⟩:∃ys p,l0=ys++[p]:=⟨l0.dropLast,l0.getLast hne,(yek hne).symm⟩
  rw[uL]
  by_cases c:p∈z
  ·rw[ao c]
   exact⟨z.length,rfl,yee c,hb z (iW.mpr (.inr (fZ.mpr rfl)))⟩
  ·rw[ak c]
   refine Dt k l p (by rw[qC]at h;exact wgz h) ?_ fun s hs=>hb s (iW.mpr (.inl hs))
   rcases iW.mp hs with q|q
   ·exact⟨s,q,hp⟩
   ·rw[fZ.mp q]at hp;exact absurd hp c
theorem nW{ts:List (Int×Int)}:∀(k:Nat) (xs:List Int),xs.length<=k->∀p∈xs,∃s∈aq ts xs,p∈s
 |0,xs,h,p,hp=>by rw[Jd (Ig.mp h)]at hp;cases hp
 |k+1,xs,h,p,hp=>by
  have hne:xs≠[]:=fun e=>by rw[e]at hp;cases hp
  rw[Ny hne]
  by_cases c:p∈best ts xs
  ·exact⟨_,cX ..,c⟩
  ·have hl:=gq (ts:=ts) hne
   obtain⟨s,h1,h2⟩:=nW k (rest ts xs) (by omega) p (fV.mpr ⟨hp,by rw[iY c];rfl⟩)
   exact⟨s,eE _ h1,h2⟩
theorem lg{ts:List (Int×Int)}:∀(k:Nat) (xs:List Int),xs.length<=k->(aq ts xs).length<=xs.length/\∀s∈aq ts xs,s.Sublist xs/\s≠[]
 |0,xs,h=>by rw[Jd (Ig.mp h),dF];exact⟨aJ _,fun s hs=>(nomatch hs)⟩
 |k+1,xs,h=>by
  by_cases hne:xs=[]
  ·rw[hne,dF];exact⟨aJ _,fun s hs=>(nomatch hs)⟩
  rw[Ny hne]
  have hl:=gq (ts:=ts) hne
  obtain⟨h1,h2⟩:=lg (ts:=ts) k (rest ts xs) (by omega)
  refine⟨by rw[rD];omega,fun s hs=> ?_⟩
  rcases cW.mp hs with rfl|q
  ·exact⟨(dW ts xs).is.sub,xg hne⟩
  ·exact⟨(h2 s q).1.trans Jb,(h2 s q).2⟩
def hN:Nat->Nat
 |0=>0
 |k+1=>hN k+2520/(k+1)
def pN(gs:List (List Int))(p:Int):Nat:=2520/((mZ gs p).getD 1).toNat
theorem wH:∀(d m:Nat),hN m+d*(2520/(m+d))<=hN (m+d)
 |0,m=>by simp
 |d+1,m=>by
  have ih:=wH d m
  show hN m+(d+1)*(2520/(m+d+1))<=hN (m+d)+2520/(m+d+1)
  have h:2520/(m+d+1)<=2520/(m+d)\/d=0:=by
   rcases Wt (m+d)with e|e
   ·right;omega
   ·left;exact Nat.div_le_div_left (Af _) e
  rcases h with h|h
  ·have:=Nat.mul_le_mul_left d h
   rw[wgd];omega
  ·subst h;simp
theorem q9{a b:Nat}(h:a<=b):hN a<=hN b:=by
 have:=wH (b-a) a
 rw[yev h]at this;omega
theorem Ds{p:Int}:∀(ss:List (List Int)) (acc:Option Int),(∀s∈ss,p∉s)->ss.foldl (fun acc s=>if p∈s then some ((s.length:Nat):Int)else acc) acc=acc
 |[],_,_=>rfl
 |s::ss,acc,h=>by
  rw[Wo,ak (h s cX)]
  exact Ds ss acc fun t ht=>h t (eE _ ht)
theorem Jx{p:Int}:∀(ss:List (List Int)) (a b:Option Int),(∃s∈ss,p∈s)->ss.foldl (fun acc s=>if p∈s then some ((s.length:Nat):Int)else acc) a=ss.foldl (fun acc s=>if p∈s then some ((s.length:Nat):Int)else acc) b
 |[],_,_,⟨_,h,_⟩=>(nomatch h)
 |s::ss,a,b,⟨t,ht,hp⟩=>by
  rw[Wo,Wo]
  by_cases c:p∈s
  ·rw[ao c,ao c]
  ·rw[ak c,ak c]
   refine Jx ss a b ⟨t,?_,hp⟩
   rcases cW.mp ht with rfl|q
   ·exact absurd hp c
   ·exact q
theorem Pz{ts:List (Int×Int)}{xs:List Int}{p:Int}(h:p∈best ts xs):∀s∈aq ts (rest ts xs),p∉s:=fun s hs hp=>by
 have:=((lg (ts:=ts) _ (rest ts xs) (aJ _)).2 s hs).1.subset hp
 have:=(fV.mp this).2
 rw[gb h]at this
 cases this
theorem Dr{ts:List (Int×Int)}{xs:List Int}{p:Int}(hx:xs≠[])(h:p∈best ts xs):mZ (aq ts xs) p=some (((best ts xs).length:Nat):Int):=by
 rw[Ny hx]
 unfold mZ
 rw[Wo,ao h]
 exact Ds _ _ (Pz h)
theorem Dq{ts:List (Int×Int)}{xs:List Int}{p:Int}(hx:xs≠[])(h:p∈rest ts xs):mZ (aq ts xs) p=mZ (aq ts (rest ts xs)) p:=by
 rw[Ny hx]
 unfold mZ
 rw[Wo]
 exact Jx _ _ _ (nW _ _ (aJ _) p h)
theorem tL(g:Int->Bool)(f:Int->Nat):∀xs:List Int,(xs.map f).sum=((xs.filter g).map f).sum+((xs.filter fun x=> !g x).map f).sum
 |[]=>rfl
 |x::xs=>by
  have ih:=tL g f xs
  rw[qM,wfm,ih]
  cases e:g x<;>simp[e]<;>omega
theorem oW{f:Int->Nat}{c:Nat}:∀{xs:List Int},(∀x∈xs,f x=c)->(xs.map f).sum=xs.length*c
 |[],_=>by simp
 |x::xs,h=>by
  rw[qM,wfm,oW fun y hy=>h y (eE _ hy),h x cX,rD,wgd];omega
theorem zJ(g:Int->Bool):∀xs:List Int,xs.length=(xs.filter g).length+(xs.filter fun x=> !g x).length
 |[]=>rfl
 |x::xs=>by
  have ih:=zJ g xs
  rw[rD,ih]
  cases e:g x<;>simp[e]<;>omega
theorem Ss{ts:List (Int×Int)}:∀(k:Nat) (xs s:List Int),xs.length<=k->Ip ts xs s->(s.map (pN (aq ts xs))).sum<=hN s.length
 |0,xs,s,h,hs=>by
  have:xs=[]:=Jd (Ig.mp h)
  subst this
  rw[Oe.mp hs.sub];exact aJ _
 |k+1,xs,s,h,hs=>by
  by_cases hx:xs=[]
  ·subst hx
   rw[Oe.mp hs.sub];exact aJ _
  have hl:=gq (ts:=ts) hx
  have hb:s.length<=(best ts xs).length:=by
   have:=(dW ts xs).top s hs
   rcases Xx (best ts xs).length s.length with q|q
   ·rw[Nx.mpr (.inl q)]at this;cases this
   ·exact q
  have hr:Ip ts (rest ts xs) (s.filter fun o=> !decide (o∈best ts xs)):=⟨hs.sub.filter _,hs.ap.filter _⟩
  have ih:=Ss k (rest ts xs) _ (by omega) hr
  rw[tL (fun o=>decide (o∈best ts xs))]
  have e1:((s.filter fun o=>decide (o∈best ts xs)).map (pN (aq ts xs))).sum=(s.filter fun o=>decide (o∈best ts xs)).length*(2520/(best ts xs).length):=oW fun x hx'=>by
   unfold pN
   rw[Dr hx (xT (fV.mp hx').2)];rfl
  have e2:(s.filter fun o=> !decide (o∈best ts xs)).map (pN (aq ts xs))=(s.filter fun o=> !decide (o∈best ts xs)).map (pN (aq ts (rest ts xs))):=Rt fun x hx'=>by
   unfold pN
   rw[Dq hx (hr.sub.subset hx')]
  rw[e1,e2]
  have el:=zJ (fun o=>decide (o∈best ts xs)) s
  generalize (s.filter fun o=>decide (o∈best ts xs)).length=d at *
  generalize hm:(s.filter fun o=> !decide (o∈best ts xs))=s' at *
  have st:=wH d s'.length
  have:s'.length+d=s.length:=by omega
  rw[this]at st
  rcases Wt s.length with z|z
  ·have:d=0:=by omega
   subst this
   simp only[Nat.zero_mul,wgx]
   exact bZ ih (q9 (by omega))
  ·have q:2520/(best ts xs).length<=2520/s.length:=Nat.div_le_div_left hb z
   have:=Nat.mul_le_mul_left d q
   omega
theorem LQ{ts:List (Int×Int)}:∀(k:Nat) (xs:List Int),xs.length<=k->xs.length<=10->xs.Pairwise (· < ·)->(xs.map (pN (aq ts xs))).sum=2520*(aq ts xs).length
 |0,xs,h,_,_=>by
  have:xs=[]:=Jd (Ig.mp h)
  subst this;rfl
 |k+1,xs,h,h10,hp=>by
  by_cases hx:xs=[]
  ·subst hx;rfl
  have hl:=gq (ts:=ts) hx
  have bs:=(dW ts xs).is.sub
  have ih:=LQ (ts:=ts) k (rest ts xs) (by omega) (by omega) (hp.filter _)
  have eb:(xs.filter fun o=>decide (o∈best ts xs))=best ts xs:=S8 (hp.filter _) (hp.sublist bs) fun k=>by
   rw[fV,TX]
   exact⟨fun q=>q.2,fun q=>⟨bs.subset q,q⟩⟩
  rw[tL (fun o=>decide (o∈best ts xs)),eb]
  have e1:((best ts xs).map (pN (aq ts xs))).sum=(best ts xs).length*(2520/(best ts xs).length):=oW fun x hx'=>by
   unfold pN
   rw[Dr hx hx'];rfl
  have e2:(xs.filter fun o=> !decide (o∈best ts xs)).map (pN (aq ts xs))=(rest ts xs).map (pN (aq ts (rest ts xs))):=Rt fun x hx'=>by
   unfold pN
   rw[Dq hx hx']
  rw[e1,e2,ih,Ny hx,rD]
  have l1:=bs.length_le
  have l0:0<(best ts xs).length:=Xm.mpr (xg hx)
  have:∀m:Nat,0<m->m<=10->m*(2520/m)=2520:=by
   intro m h0 h1
   have:m=1\/m=2\/m=3\/m=4\/m=5\/m=6\/m=7\/m=8\/m=9\/m=10:=by omega
   rcases this with rfl|rfl|rfl|rfl|rfl|rfl|rfl|rfl|rfl|rfl<;>rfl
  rw[this _ l0 (by omega)];omega
section
variable{P:Program}{w:World}{K:W.Frag}{mg:Str->Option Value}{base:Heap}
def RQ(K:W.Frag):Sp:=fun vs H Q _=>∃(a l:Addr) (n:Int) (ts:List (Int×Int)) (xs:List Int),vs=[.ref a,.ref l]/\bA K H a n ts/\SqT K H l (xs.map V.int)/\eF n xs/\∀r H',Same H H'->SqT K H' r ((best ts xs).map V.int)->Q (.ref r) H'
theorem V7{n:Int}{ts:List (Int×Int)}{xs:List Int}{H:Hp}{r:Addr}(hok:eF n xs)(h1:n<=10)(h:jG K H r (xs.length:Int) (rows (DQ xs ts) (xs.length:Int) (xs.length:Int).toNat)):bA K H r (xs.length:Int) (rows (DQ xs ts) (xs.length:Int) (xs.length:Int).toNat):=
 have hl:=hok.len h1
 have hw:=rG (n:=(xs.length:Int)) (i:=(xs.length:Int).toNat) (ts:=rows (DQ xs ts) (xs.length:Int) (xs.length:Int).toNat) (by omega) (by omega) (by rw[<-qt];exact Jb)
 ⟨h,by omega,by omega,hw.1,hw.2⟩
theorem Ui:FnScope ["web","left"] ["web","left"] (defScope zbl):=fsc
theorem Vc{f f1 f2:Addr}{fd d1 d2:FuncData}(F:Fun K "greatest_apart_in" "greatest_apart_in" zbl f fd)(D1:bJ K mg "greatest_apart" zcn ["web"] f1 d1)(G1:FnOk P w K mg base CX0 9 f1 d1 ["web"] (yu K))(D2:bJ K mg "cut_down" ji ["web","some"] f2 d2)(G2:FnOk P w K mg base CX0 8 f2 d2 ["web","some"] (RW K))(aZ:mg "tuple"=none):
  FnOk P w K mg base CX0 10 f fd ["web","left"] (RQ K):=by
 refine F.ok Ui (fun vs H Q E h=> ?_) (fun cdv A outer s H vs Q E hr h=> ?_)
 ·obtain⟨a,l,n,ts,xs,rfl,_⟩:=h
  rfl
 obtain⟨a,l,n,ts,xs,rfl,hA,hL,hok,q⟩:=h
 refine⟨_,(aX (cF (pe_callTy Wi rfl aZ (by decide+kernel) (aj (oH (own:=["k"]) (caps:=["left"]) (ix:=[1]) rfl (Am (pc G1 hr D1 (aj (pc G2 hr D2 (aj (pv 0) (aj (pv 1) au))) au))) rfl rfl (.cons rfl rfl .nil) (fun _ _ _ _ _=>(cY (i:=0) (show(["k","left"]:List Str).Nodup from by decide+kernel) rfl (Or.inl rfl))) (fun _ _ _ _ _=>qb) (fun _ _ _ _ _=>(bB (Fx K) (pv 1) (pv 0) (fun _ _=>rfl)))) au)))),?_⟩
 refine⟨_,rfl,_,rfl,a,l,n,ts,xs,rfl,hA,hL,hok,fun c H1 s1 hc=> ?_⟩
 refine⟨c,_,_,rfl,V7 hok hA.h1 hc,fun g z H2 s2 hg M=> ?_⟩
 have s12:=s1.trans s2
 have M':CP z (rows (DQ xs ts) (xs.length:Int) (xs.length:Int).toNat) false xs.length:=M
 have eb:=Hg hA.pk hok hA.h0 M'
 have zb:∀k∈z,0<=k/\k<(xs.length:Int):=by
  obtain⟨ss,hS,i,hi,_⟩:=M'
  exact(je _ _ (fV.mp (hS.1.mem_iff.mp (iZ hi))).1).lt
 refine⟨g,_,rfl,hg,fun hz=> ?_⟩
 refine Iz (xs:=z.map V.int) (fun k acc σ H'=>acc=((z.take k).map fun i=>xs.getD i.toNat 0).map V.int/\Same H2 H'/\∃o,σ=[o,some (.ref l)]) ⟨rfl,Same.refl _,_,rfl⟩ (fun k acc σ H' _ p=>p.2.1.tup hg) (fun k acc σ H' hk p=> ?_) hz (fun k x acc σ H' hx pp=> ?_) (fun acc σ H' p=> ?_)
 ·rw[p.1,aF,aF,vA];exact Dj _ _
 ·obtain⟨rfl,sm,o,rfl⟩:=pp
  rw[cg]at hx
  cases ex:z[k]? with
  |none=>rw[ex]at hx;cases hx
  |some y=>
   rw[ex]at hx
   cases hx
   have hb:=zb y (iZ ex)
   refine⟨_,rfl,_,rfl,l,_,_,_,rfl,rfl,(s12.trans sm).tup hL,zX hb.1 hb.2,?_,sm,_,rfl⟩
   rw[rE,ex,bQ,bQ];rfl
 ·intro p1 hp1
  obtain⟨rfl,sm,_⟩:=p
  refine⟨p1,_,rfl,.inl ⟨SqL.of aH,fun r hr'=> ?_⟩⟩
  refine q r _ (s12.trans (sm.trans ((aV hp1 _).trans (aV hr' _)))) (SqT.of ?_)
  rw[aH,aF,qe,eb]
def RP(K:W.Frag):Sp:=fun vs H Q _=>∃(a:Addr) (n:Int) (ts:List (Int×Int)),vs=[.ref a]/\bA K H a n ts/\∀r H',Same H H'->bO K H' r (aq ts (rng n.toNat))->H r=none->Q (.ref r) H'
def ZW(K:W.Frag)(a o:Addr)(n:Int)(ts:List (Int×Int))(H0:Hp)(m:Nat)(σ:St)(H:Hp):Prop:=
 ∃(l:Addr) (done:List (List Int)) (xs:List Int) (b3:Option V),σ=[some (.ref a),some (.ref o),some (.ref l),b3]/\Same H0 H/\bO K H o done/\SqT K H l (xs.map V.int)/\eF n xs/\done++aq ts xs=aq ts (rng n.toNat)/\m=xs.length
theorem bO.push{H:Hp}{o r:Addr}{done:List (List Int)}{s:List Int}{its:List (Addr×List Int)}(h2:∀p∈its,SqT K H p.1 (p.2.map V.int))(h1:H o=some (.lst (its.map fun p=>V.ref p.1)))(h3:its.map (fun p=>p.2)=done)(hr:SqT K H r (s.map V.int)):bO K (upd H o (.lst ((its.map fun p=>V.ref p.1)++[.ref r]))) o (done++[s]):=by
 refine⟨its++[(r,s)],by rw[aH,bQ];rfl,fun p hp=> ?_,by rw[bQ,h3];rfl⟩
 rcases iW.mp hp with q|q
 ·exact aB.tup ((aB.refl o H).upd) h1 (h2 p q)
 ·rw[fZ.mp q];exact aB.tup ((aB.refl o H).upd) h1 hr
theorem Uq(n:Int):eF n (rng n.toNat):=Ot n
theorem ig(n:Nat):(rng n).length=n:=Jo n
theorem rZ:FnScope ["web","sets","left","part"] ["web"] (defScope zcc):=fsc
theorem U9{f f1 f2:Addr}{fd d1 d2:FuncData}(F:Fun K "sets_one_by_one" "sets_one_by_one" zcc f fd)(D1:bJ K mg "greatest_apart_in" zbl ["web","left"] f1 d1)(G1:FnOk P w K mg base CX0 10 f1 d1 ["web","left"] (RQ K))(D2:bJ K mg "without" eO ["some","part"] f2 d2)(G2:FnOk P w K mg base CX0 1 f2 d2 ["some","part"] (gC K))(aZ:mg "tuple"=none)(aG:mg "range"=none):
  FnOk P w K mg base CX0 11 f fd ["web"] (RP K):=by
 refine F.ok rZ (fun vs H Q E h=> ?_) (fun cdv A outer s H vs Q E hr h=> ?_)
 ·obtain⟨a,n,ts,rfl,_⟩:=h
  rfl
 obtain⟨a,n,ts,rfl,hA,q⟩:=h
 refine⟨_,(aO (cV (i:=1) rZ.nd rfl (Or.inl rfl) (pe_lst au)) (aO (cV (i:=2) rZ.nd rfl (Or.inl rfl) (jU rfl rfl aZ rfl aG (aj (bB gQ (pv 0) aK (fun _ _=>rfl)) au))) (aO (ps_while tX (oZ K (pv 2) (fun _=>rfl)) (aO (cV (i:=3) rZ.nd rfl (Or.inl rfl) (pc G1 hr D1 (aj (pv 0) (aj (pv 2) au)))) (aO (xP (pe_bm RD wci wcj mt_append (pv 1) (aj (pv 3) au))) (aX (cV (i:=2) rZ.nd rfl (Or.inl rfl) (pc G2 hr D2 (aj (pv 2) (aj (pv 3) au)))))))) (aX (cF (pv 1)))))),?_⟩
 have h0:=hA.h0
 have h10:=hA.h1
 refine⟨(by show 0<=sizeLine;decide),fun o ho=> ?_⟩
 have s2:=aV ho (.lst [])
 have ho2:upd H o (.lst []) o=some (.lst []):=aH
 generalize upd H o (.lst [])=H2 at *
 obtain⟨ta,ra,a1,a2,a3⟩:=id (hA.same s2).web
 refine⟨_,rfl,a,_,_,.int n,rfl,rfl,a1,rfl,n,rfl,h0,by omega,fun l hl=> ?_⟩
 rw[rM]
 have s3:=s2.trans (aV hl (.tup ((rng n.toNat).map V.int)))
 have ho3:=(aV hl (.tup ((rng n.toNat).map V.int))) _ _ ho2
 have hl3:SqT K (upd H2 l (.tup ((rng n.toNat).map V.int))) l ((rng n.toNat).map V.int):=SqT.of aH
 generalize upd H2 l (.tup ((rng n.toNat).map V.int))=H3 at *
 refine⟨ZW K a o n ts H,⟨_,l,[],rng n.toNat,_,rfl,s3,⟨[],ho3,fun p hp=>(nomatch hp),rfl⟩,hl3,Uq n,rfl,rfl⟩,?_⟩
 rintro m σ H4 ⟨l,done,xs,b3,rfl,sm,hS,Ly,hok,hd,rfl⟩
 have hlen:=hok.len h10
 refine⟨_,rfl,_,.inr (.inl ⟨_,Ly,rfl⟩),?_⟩
 refine ite2 (fun c=> ?_) (fun c=> ?_)
 ·have hne:xs≠[]:=fun e=>by
   rw[e]at c
   exact absurd c (by decide)
  refine⟨fun σ' H'=>∃m',m'<xs.length/\ZW K a o n ts H m' σ' H',fun σ' H' h=>h,?_⟩
  refine⟨_,rfl,_,rfl,a,l,n,ts,xs,rfl,hA.same sm,Ly,hok,fun r H5 s5 hr5=> ?_⟩
  obtain⟨its,i1,i2,i3⟩:=hS.same s5
  have il:its.length<=1000:=by
   have e1:its.length=done.length:=by rw[<-i3,aF]
   have e2:done.length<=(aq ts (rng n.toNat)).length:=by rw[<-hd,qC];omega
   have e3:=(lg (ts:=ts) _ (rng n.toNat) (aJ _)).1
   rw[ig]at e3
   omega
  refine⟨_,rfl,.inl ⟨rfl,_,SqL.of i1⟩,_,rfl,o,_,_,rfl,rfl,i1,by rw[aF,gB];omega,?_⟩
  have x6:Same H (upd H5 o (.lst ((its.map fun p=>V.ref p.1)++[.ref r]))):=fun b u e=>by
   have nb:b≠o:=fun z=>by rw[z,ho]at e;cases e
   rw[cG nb];exact(sm.trans s5) _ _ e
  have hS6:=bO.push i2 i1 i3 hr5
  have N8:SqT K (upd H5 o (.lst ((its.map fun p=>V.ref p.1)++[.ref r]))) l (xs.map V.int):=aB.tup ((aB.refl o H5).upd) i1 (s5.tup Ly)
  have hr6:SqT K (upd H5 o (.lst ((its.map fun p=>V.ref p.1)++[.ref r]))) r ((best ts xs).map V.int):=aB.tup ((aB.refl o H5).upd) i1 hr5
  generalize upd H5 o (.lst ((its.map fun p=>V.ref p.1)++[.ref r]))=H6 at *
  refine⟨_,rfl,_,rfl,l,r,xs,best ts xs,rfl,N8,hr6,fun l2 H8 s8 h8=> ?_⟩
  refine⟨(rest ts xs).length,gq hne,l2,done++[best ts xs],rest ts xs,_,rfl,x6.trans s8,hS6.same s8,SqT.of h8,hok.rest ts,?_,rfl⟩
  rw[<-hd,Ny hne,Wr];rfl
 ·have hn:xs=[]:=by
   rcases xs with _|⟨x,xs⟩
   ·rfl
   ·exact absurd rfl c
  subst hn
  rw[dF,uF]at hd
  subst hd
  exact⟨_,rfl,q o H4 sm hS ho⟩
theorem Et{a c:Int}{b d v v':Nat}{u u':Int}(h:Low a b u v)(h':Low c d u' v')(hb:0<b)(hd:0<d)(e:a*(d:Int)=c*(b:Int)):u=u'/\v=v':=by
 have x:u*(v':Int)=u'*(v:Int):=by
  have hbd:((b:Int)*(d:Int))≠0:=by
   have:(0:Int)<(b:Int)*(d:Int):=FJ (by omega) (by omega)
   omega
  refine ydo hbd ?_
  calc ((b:Int)*(d:Int))*(u*(v':Int))=(u*(b:Int))*((d:Int)*(v':Int)):=by ac_rfl
   _=(a*(v:Int))*((d:Int)*(v':Int)):=by rw[h.eq]
   _=(a*(d:Int))*((v:Int)*(v':Int)):=by ac_rfl
   _=(c*(b:Int))*((v:Int)*(v':Int)):=by rw[e]
   _=(c*(v':Int))*((b:Int)*(v:Int)):=by ac_rfl
   _=(u'*(d:Int))*((b:Int)*(v:Int)):=by rw[h'.eq]
   _=((b:Int)*(d:Int))*(u'*(v:Int)):=by ac_rfl
 have y:u.natAbs*v'=u'.natAbs*v:=by
  have:=jy Int.natAbs x
  rw[Te,Te]at this
  exact this
 have d1:v∣v':=wdd (k:=v) (m:=u.natAbs) (by rw[Nat.coprime_comm];exact h.cop) ⟨u'.natAbs,by rw[y,Rm]⟩
 have d2:v'∣v:=wdd (k:=v') (m:=u'.natAbs) (by rw[Nat.coprime_comm];exact h'.cop) ⟨u.natAbs,by rw[<-y,Rm]⟩
 have ev:=wft d1 d2
 refine⟨?_,ev⟩
 rw[ev]at x
 exact Xq (by have:=h'.pos;omega) x
def hl:List (List Int)->Nat
 |[]=>1
 |s::_=>s.length
structure Nh(n:Nat)(ss:List (List Int)):Prop where
 le:ss.length<=10
 each:∀s∈ss,s.length<=10/\s≠[]
 all:∀p:Int,0<=p->p<(n:Int)->∃s∈ss,p∈s
theorem Nh.hl{n:Nat}{ss:List (List Int)}(h:Nh n ss):0<hl ss/\Hs.hl ss<=10:=by
 cases ss with
 |nil=>exact⟨by decide,by decide⟩
 |cons s ss=>
  have:=h.each s (cX ..)
  exact⟨Xm.mpr this.2,this.1⟩
theorem tE{ts:List (Int×Int)}{n:Int}(h1:n<=10):Nh n.toNat (aq ts (rng n.toNat)):=by
 have g:=lg (ts:=ts) _ (rng n.toNat) (aJ _)
 rw[ig]at g
 refine⟨by omega,fun s hs=>⟨?_,(g.2 s hs).2⟩,fun p p0 p1=>nW _ _ (aJ _) p (xO.mpr ⟨p0,p1⟩)⟩
 have:=(g.2 s hs).1.length_le
 rw[ig]at this
 omega
structure HD(H:Hp)(d:Addr)(m:Nat)(g:Int->Option Int):Prop where
 ex:∃kvs,H d=some (.dK kvs)/\kvs.length<=m/\∀p:Int,valV kvs (.inl p)=(g p).map V.int
theorem HD.put{H:Hp}{d:Addr}{m:Nat}{g:Int->Option Int}{kvs:List (Key×V)}(h1:H d=some (.dK kvs))(h2:kvs.length<=m)(h3:∀p:Int,valV kvs (.inl p)=(g p).map V.int)(p k:Int):HD (upd H d (.dK (putK kvs (.inl p) (.int k)))) d (m+1) (fun q=>if q=p then some k else g q):=by
 refine⟨_,aH,bZ (length_putK _ _ _) (by omega),fun q=> ?_⟩
 rw[valV_put]
 by_cases e:q=p
 ·rw[ao (by rw[e]),ao e];rfl
 ·rw[ak (fun z=>e (Sum.inl.inj z)),ak e];exact h3 q
theorem ZQ{a:Nat}(h:a<=10^100):(a:Int).natAbs<=10^200:=bZ (show a<=10^100 from h) (by decide+kernel)
theorem Sg:∀m:Nat,zE 2520 ((List.range m).map fun i=>((1:Int),i+1))=((hN m:Nat):Int)
 |0=>rfl
 |m+1=>by
  rw[vq,bQ,rm,Sg m]
  show _+zE 2520 [((1:Int),m+1)]=((hN m+2520/(m+1):Nat):Int)
  rw[wM,wgk]
  show _+(1:Int)*_=_
  rw[Ie]
theorem MJ{m:Nat}(h0:0<m)(h1:m<=10):m∣2520:=by
 have:m=1\/m=2\/m=3\/m=4\/m=5\/m=6\/m=7\/m=8\/m=9\/m=10:=by omega
 rcases this with rfl|rfl|rfl|rfl|rfl|rfl|rfl|rfl|rfl|rfl<;>decide
theorem sZ{m:Nat}(h:0<m):2520<=hN m:=q9 (a:=1) h
theorem LK{m:Nat}(h:m<=10):hN m<=7381:=q9 h
theorem PB{m sz b aN v:Nat}{u:Int}(hm:0<m)(h0:0<sz)(h1:sz<=10)(S:iC 2520 ((hN m:Nat):Int) (aN:Int) b)(L:Low (b:Int) (aN*sz) u v)(ha:0<aN):(u,v)=aL ((2520/sz:Nat):Int) (hN m):=by
 have hp:0<hN m:=by have:=sZ hm;omega
 obtain⟨e1,e2⟩:=Et L (Ao ((2520/sz:Nat):Int) hp) (Xw ha h0) hp (by
  have e:=S.eq
  have d1:=Xj S.dvd
  have d2:=Xj (MJ h0 h1)
  have e':aN*(2520/b)=hN m:=by exact_mod_cast e
  have:b*hN m=2520/sz*(aN*sz):=by
   rw[<-e']
   calc b*(aN*(2520/b))=aN*(2520/b*b):=by ac_rfl
    _=aN*(2520/sz*sz):=by rw[d1,d2]
    _=2520/sz*(aN*sz):=by ac_rfl
  exact_mod_cast this)
 rw[e1,e2]
def vV(ss:List (List Int))(p:Nat):Int:=((pN ss (p:Int):Nat):Int)
def yj(K:W.Frag):Sp:=fun vs H Q _=>∃(l:Addr) (n:Int) (ss:List (List Int)),vs=[.ref l,.int n]/\bO K H l ss/\0<=n/\n<=10/\Nh n.toNat ss/\∀r aM H',Same H H'->H' r=some (.lst aM)->dh K H' aM (fW n.toNat (hN (hl ss)) (vV ss))->H r=none->Q (.ref r) H'
theorem gD:FnScope ["sets","n","most","h","size_at","part","place"] ["sets","n"] (defScope zck):=fsc
theorem GD{f f1 f2:Addr}{fd d1 d2:FuncData}(F:Fun K "prices_by_sets" "prices_by_sets" zck f fd)(D1:bJ K mg "sum_of" iK ["fractions"] f1 d1)(G1:FnOk P w K mg base CX0 2 f1 d1 ["fractions"] (qO K))(D2:bJ K mg "lowest" Nv ["a","b"] f2 d2)(G2:FnOk P w K mg base CX0 2 f2 d2 ["a","b"] (ql K))(bw:mg "len"=none)(aG:mg "range"=none):
  FnOk P w K mg base CX0 3 f fd ["sets","n"] (yj K):=by
 refine F.ok gD (fun vs H Q E h=> ?_) (fun cdv A outer s H vs Q E hr h=> ?_)
 ·obtain⟨l,n,ss,rfl,_⟩:=h
  rfl
 obtain⟨l,n,ss,rfl,hS,hn0,hn1,hok,q⟩:=h
 refine⟨_,(aO (cV (i:=2) gD.nd rfl (Or.inl rfl) (pe_ifExp (oZ K (pv 0) (fun _=>rfl)) (fM qd rfl bw oU (aj (bB jJ (pv 0) aK (fun _ _=>rfl)) au)) aK)) (aO (cV (i:=3) gD.nd rfl (Or.inr rfl) (pc G1 hr D1 (aj (oH (own:=["k"]) (caps:=[]) (ix:=[]) rfl (pi_range2 rfl aG (aj aK (aj (bN qy (pv 2) aK) au))) rfl rfl .nil (fun _ _ _ _ _=>(cY (i:=0) (show(["k"]:List Str).Nodup from by decide+kernel) rfl (Or.inl rfl))) (fun _ _ _ _ _=>qb) (fun _ _ _ _ _=>(oG (aj aK (aj (pv 0) au))))) au))) (aO (cV (i:=4) gD.nd rfl (Or.inr rfl) pe_dnewK) (aO (xM tX rfl (xW (pv 0)) (cY (i:=5) gD.nd rfl (Or.inl rfl)) (aX (xM tX rfl (Am (pv 5)) (cY (i:=6) gD.nd rfl (Or.inl rfl)) (aX (ps_dput (xQ (Xn (by decide:1<=64) _) hr.units) (pv 4) (pv 6) (fM qd rfl bw oU (aj (pv 5) au)) rfl))))) (aX (cF (oH (own:=["place"]) (caps:=["h","size_at"]) (ix:=[3,4]) rfl (Ia rfl aG (aj (pv 1) au)) rfl rfl (.cons rfl rfl (.cons rfl rfl .nil)) (fun _ _ _ _ _=>(cY (i:=0) (show(["place","h","size_at"]:List Str).Nodup from by decide+kernel) rfl (Or.inl rfl))) (fun _ _ _ _ _=>qb) (fun _ _ _ _ _=>(pc G2 hr D2 (aj (bB (Fx K) (pv 1) aK (fun _ _=>rfl)) (aj (bN qX (bB (Fx K) (pv 1) aK (fun _ _=>rfl)) (pe_dget (xQ (Xn (by decide:1<=64) _) hr.units) (pv 2) (pv 0) (fun _ _=>rfl))) au))))))))))),?_⟩
 obtain⟨its,i1,i2,i3⟩:=hS
 obtain⟨hl0,hl1⟩:=hok.hl
 refine gR (fun σ' H'=>H'=H/\σ'=[some (.ref l),some (.int n),some (.int (hl ss:Int)),none,none,none,none]) (fun N hN=> ?_) ?_
 ·refine⟨_,rfl,_,.inl ⟨_,SqL.of i1,rfl⟩,?_⟩
  cases its with
  |nil=>
   have:ss=[]:=by rw[<-i3];rfl
   subst this
   exact iteF (hN _ _ ⟨rfl,rfl⟩)
  |cons p0 tl=>
   have hs0:hl ss=p0.2.length:=by rw[<-i3];rfl
   refine iteT ?_
   refine⟨_,rfl,l,_,_,.ref p0.1,rfl,rfl,SqL.of i1,atI_nat (j:=0) rfl,p0.1,_,rfl,.inr (i2 p0 (cX ..)),fun _=>hN _ _ ⟨rfl,?_⟩⟩
   rw[hs0,aF];rfl
 rintro σ' H' ⟨rfl,rfl⟩
 generalize hm:hl ss=m at *
 refine⟨_,rfl,_,_,rfl,rfl,_,_,rfl,⟨by omega,by omega,by omega,by omega⟩,?_⟩
 refine Ob (n:=((m:Int)+1-1).toNat) (fun k acc σ H2=>Same H' H2/\dh K H2 acc ((List.range k).map fun i=>((1:Int),i+1))/\∃o,σ=[o]) ⟨Same.refl _,.nil,_,rfl⟩ (fun k acc σ H2 _ p=>by rw[Paired.lF p.2.1,aF,tW];exact aJ _) (by rw[gB];omega) (fun k acc σ H2 hk p=> ?_) (fun acc σ H2 p=> ?_)
 ·obtain⟨s2,hp,o,rfl⟩:=p
  refine⟨_,rfl,(by show 2<=sizeLine;decide),fun t ht=> ?_⟩
  have s3:=aV ht (.tup [.int 1,.int (1+(k:Int))])
  refine⟨s2.trans s3,?_,_,rfl⟩
  rw[vq,bQ]
  refine Paired.snoc (dh.same hp s3) ⟨t,rfl,?_⟩
  show SqT K _ t [.int 1,.int ((k+1:Nat):Int)]
  have e:((k+1:Nat):Int)=1+(k:Int):=by omega
  rw[e];exact SqT.of aH
 intro p1 hp1
 obtain⟨s2,hp,_⟩:=p
 have em:((m:Int)+1-1).toNat=m:=by omega
 rw[em]at hp
 have s3:=aV hp1 (.lst acc)
 have s23:=s2.trans s3
 have hp3:=dh.same hp s3
 have hl3:SqL K (upd H2 p1 (.lst acc)) p1 acc:=SqL.of aH
 generalize upd H2 p1 (.lst acc)=H3 at *
 refine⟨p1,acc,_,2520,rfl,hl3,hp3,⟨by decide,by decide,fun f hf=> ?_⟩,by rw[Paired.lF hp,aF,tW];omega,fun h a b H4 s4 aaA S=> ?_⟩
 ·obtain⟨i,hi,rfl⟩:=iV.mp hf
  have:=tZ.mp hi
  exact⟨(by decide:(0:Int)<=1),rC i,MJ (rC i) (by omega)⟩
 rw[Sg]at S
 have hp0:=sZ hl0
 have hh4:SqT K H4 h [.int a,.int ((b:Nat):Int)]:=SqT.of aaA
 obtain⟨aN,rfl,ha0,ha1⟩:∃aN:Nat,a=(aN:Int)/\0<aN/\aN<=7381:=by
  have e:=S.eq
  have d1:=Xj S.dvd
  have d0:0<2520/b:=by
   rcases Wt (2520/b)with z|z
   ·rw[z]at d1;simp at d1
   ·exact z
  have hle:=LK hl1
  generalize 2520/b=c at *
  have a0:0<a:=by
   rcases Int.lt_or_le 0 a with z|z
   ·exact z
   ·have:=Ai (a:= -a) (b:=(c:Int)) (by omega) (by omega)
    rw[Int.neg_mul]at this
    omega
  refine⟨a.toNat,by omega,by omega,?_⟩
  have:a*1<=a*(c:Int):=Tr (by omega) (by omega)
  omega
 have b1:b<=2520:=S.le (by decide)
 have Pr:=s23.trans s4
 intro d hd
 have s5:=aV hd (.dK [])
 have D0:HD (upd H4 d (.dK [])) d 0 (fun p=>mZ [] p):=⟨[],aH,aJ _,fun p=>rfl⟩
 generalize upd H4 d (.dK [])=H5 at *
 refine⟨_,rfl,l,_,rfl,SqL.of ((Pr.trans s5) _ _ i1),fun _=> ?_⟩
 refine for_list (K:=K) (a:=l) (xs:=its.map fun p=>V.ref p.1) (fun i σ H'=>Same H4 H'/\HD H' d (10*i) (fun p=>mZ (ss.take i) p)/\∃o5 o6,σ=[some (.ref l),some (.int n),some (.int (m:Int)),some (.ref h),some (.ref d),o5,o6]) ⟨s5,D0,_,_,rfl⟩ (fun i σ H' _ p=>SqL.of (p.1 _ _ (Pr _ _ i1))) (fun i x σ H6 hx p=> ?_) (fun σ H6 p=> ?_)
 ·obtain⟨s6,D,o5,o6,rfl⟩:=p
  rw[cg]at hx
  cases ex:its[i]? with
  |none=>rw[ex]at hx;cases hx
  |some v=>
   rw[ex]at hx
   cases hx
   have hv:=Pr.tup (i2 v (iZ ex))
   have es:ss[i]? =some v.2:=by rw[<-i3,cg,ex];rfl
   have vl:=(hok.each v.2 (iZ es)).1
   have hi:i<10:=by have:=(lC.mp es).1;have:=hok.le;omega
   refine⟨_,rfl,v.1,_,rfl,s6.tup hv,fun _=> ?_⟩
   refine for_tup (K:=K) (a:=v.1) (xs:=v.2.map V.int) (fun j σ H'=>Same H4 H'/\HD H' d (10*i+j) (fun p=>if p∈v.2.take j then some ((v.2.length:Nat):Int)else mZ (ss.take i) p)/\∃o6,σ=[some (.ref l),some (.int n),some (.int (m:Int)),some (.ref h),some (.ref d),some (.ref v.1),o6]) ⟨s6,by simpa using D,_,rfl⟩ (fun j σ H' _ p=>p.1.tup hv) (fun j x σ H7 hx p=> ?_) (fun σ H7 p=> ?_)
   ·obtain⟨s7,⟨kvs,k1,k2,k3⟩,o6,rfl⟩:=p
    rw[cg]at hx
    cases ey:v.2[j]? with
    |none=>rw[ey]at hx;cases hx
    |some y=>
     rw[ey]at hx
     cases hx
     have hj:j<10:=by have:=(lC.mp ey).1;omega
     refine⟨_,rfl,v.1,_,rfl,.inr (s7.tup hv),fun _=>⟨_,rfl,_,rfl,d,_,rfl,DPut.k (k:= .inl y) k1 (by rw[gB];omega),?_⟩⟩
     have D2:=HD.put k1 k2 k3 y ((v.2.length:Nat):Int)
     refine⟨fun b u e=>by rw[cG (fun z=>by rw[z,hd]at e;cases e)];exact s7 _ _ e,?_,_,rfl⟩
     rw[aF]
     obtain⟨kv2,c1,c2,c3⟩:=D2.ex
     refine⟨kv2,c1,c2,fun p=> ?_⟩
     have et:v.2.take (j+1)=v.2.take j++[y]:=by rw[rE,ey];rfl
     rw[c3 p,et]
     by_cases e1:p=y
     ·rw[ao e1,ao (iW.mpr (.inr (by rw[e1];exact fZ.mpr rfl)))]
     ·rw[ak e1]
      by_cases e2:p∈v.2.take j
      ·rw[ao e2,ao (iW.mpr (.inl e2))]
      ·rw[ak e2,ak (fun z=>(iW.mp z).elim e2 fun z=>e1 (fZ.mp z))]
   ·obtain⟨s7,D7,o6,rfl⟩:=p
    refine⟨s7,?_,_,_,rfl⟩
    rw[aF,qe]at D7
    obtain⟨kvs,c1,c2,c3⟩:=D7.ex
    refine⟨kvs,c1,by omega,fun p=> ?_⟩
    rw[c3 p,rE,es]
    show _=(mZ (ss.take i++[v.2]) p).map V.int
    rw[uL]
 ·obtain⟨s6,D,o5,o6,rfl⟩:=p
  have el:(its.map fun p=>V.ref p.1).length=ss.length:=by rw[aF,<-i3,aF]
  rw[el,qe]at D
  obtain⟨kvs,k1,k2,k3⟩:=D.ex
  have hh6:=s6.tup hh4
  refine⟨_,rfl,_,rfl,by omega,by omega,?_⟩
  refine Ob (n:=n.toNat) (fun k acc σ H7=>Same H6 H7/\dh K H7 acc (fW k (hN m) (vV ss))/\∃o,σ=[o,some (.ref h),some (.ref d)]) ⟨Same.refl _,.nil,_,rfl⟩ (fun k acc σ H7 _ p=>by rw[Paired.lF p.2.1];unfold fW;rw[aF,tW];exact aJ _) (by rw[gB];omega) (fun k acc σ H7 hk p=> ?_) (fun acc σ H7 p=> ?_)
  ·obtain⟨s7,dv,o,rfl⟩:=p
   obtain⟨sz,z1,z2,z3⟩:=Dt _ ss (k:Int) rfl (hok.all (k:Int) (by omega) (by omega)) (fun s hs=>(hok.each s hs).1)
   have e0:(0:Int)+(k:Int)=(k:Int):=by omega
   have l1:aN*sz<=7381*10:=wgq ha1 z3
   have gd:DGet H7 d (.int (0+(k:Int))) (some (.int (sz:Int))):= .inl ⟨kvs,.inl (0+(k:Int)),.inl (s7 _ _ k1),rfl,by rw[k3,e0,z1];rfl⟩
   refine⟨_,rfl,h,_,_,.int (b:Int),rfl,rfl,s7.tup hh6,rfl,_,rfl,h,_,_,.int (aN:Int),rfl,rfl,s7.tup hh6,rfl,_,rfl,_,rfl,d,_,rfl,gd,_,_,rfl,rfl,⟨ZQ (bZ ha1 (by decide+kernel)),ZQ (bZ z3 (by decide+kernel))⟩,?_⟩
   refine⟨(b:Int),aN*sz,?_,Xw ha0 z2,bZ l1 (by decide+kernel),fun t H8 u v s8 h8 L=> ?_⟩
   ·rw[Tf];rfl
   have P:=PB hl0 z2 z3 S L ha0
   refine⟨s7.trans s8,?_,_,rfl⟩
   have ek:fW (k+1) (hN m) (vV ss)=fW k (hN m) (vV ss)++[(u,v)]:=by
    unfold fW
    rw[vq,bQ,P]
    show _++[aL (vV ss k) (hN m)]=_
    unfold vV pN
    rw[z1];rfl
   rw[ek]
   exact Paired.snoc (dh.same dv s8) ⟨t,rfl,SqT.of h8⟩
  ·intro p2 hp2
   obtain⟨s7,dv,o,rfl⟩:=p
   have s8:=aV hp2 (.lst acc)
   have sA:=Pr.trans (s6.trans s7)
   exact q p2 acc _ (sA.trans s8) aH (dh.same dv s8) (sA.free hp2)
def yt(K:W.Frag):Sp:=fun vs H Q _=>∃(a:Addr) (n:Int) (ts:List (Int×Int)),vs=[.ref a]/\bA K H a n ts/\
 ∀r l1 l2 aM H',Same H H'->SqT K H' r [.ref l1,.ref l2]->bO K H' l1 (aq ts (rng n.toNat))->H' l2=some (.lst aM)->dh K H' aM (fW n.toNat (hN (hl (aq ts (rng n.toNat)))) (vV (aq ts (rng n.toNat))))->H l1=none->H l2=none->l1≠l2->Q (.ref r) H'
theorem uO:FnScope ["web","sets"] ["web"] (defScope nG):=fsc
theorem GK{f f1 f2 f3:Addr}{fd d1 d2 d3:FuncData}(F:Fun K "greedy" "greedy" nG f fd)(D1:bJ K mg "need_web" IV ["thing"] f1 d1)(G1:FnOk P w K mg base CX0 7 f1 d1 ["thing"] (cR K))(D2:bJ K mg "sets_one_by_one" zcc ["web"] f2 d2)(G2:FnOk P w K mg base CX0 11 f2 d2 ["web"] (RP K))(D3:bJ K mg "prices_by_sets" zck ["sets","n"] f3 d3)(G3:FnOk P w K mg base CX0 3 f3 d3 ["sets","n"] (yj K)):
  FnOk P w K mg base CX0 12 f fd ["web"] (yt K):=by
 refine F.ok uO (fun vs H Q E h=> ?_) (fun cdv A outer s H vs Q E hr h=> ?_)
 ·obtain⟨a,n,ts,rfl,_⟩:=h
  rfl
 obtain⟨a,n,ts,rfl,hA,q⟩:=h
 refine⟨_,(aO (xP (pc G1 hr D1 (aj (pv 0) au))) (aO (cV (i:=1) uO.nd rfl (Or.inl rfl) (pc G2 hr D2 (aj (pv 0) au))) (aX (cF (oG (aj (pv 1) (aj (pc G3 hr D3 (aj (pv 1) (aj (bB gQ (pv 0) aK (fun _ _=>rfl)) au))) au))))))),?_⟩
 refine⟨_,rfl,_,_,rfl,hA.web.dv.dx,hA.ok,fun H1 s1=> ?_⟩
 refine⟨_,rfl,a,n,ts,rfl,hA.same s1,fun l1 H2 s2 S2 f1=> ?_⟩
 obtain⟨ta,ra,a1,a2,a3⟩:=id (hA.same (s1.trans s2)).web
 refine⟨_,rfl,_,rfl,_,rfl,a,_,_,.int n,rfl,rfl,a1,rfl,l1,n,_,rfl,S2,hA.h0,hA.h1,tE hA.h1,fun l2 aM H3 s3 L3 P3 f2=> ?_⟩
 refine⟨(by show 2<=sizeLine;decide),fun r hr'=> ?_⟩
 have s4:=aV hr' (.tup [.ref l1,.ref l2])
 obtain⟨its,i1,_,_⟩:=id S2
 exact q r l1 l2 aM _ ((s1.trans s2).trans (s3.trans s4)) (SqT.of aH) (S2.same (s3.trans s4)) (s4 _ _ L3) (dh.same P3 s4) (s1.free f1) ((s1.trans s2).free f2) (fun z=>by rw[<-z,i1]at f2;cases f2)
end
end Hs
namespace L2
open PySem PySem.AutoSeq1
theorem Q6(l:Addr)(items:Array Value)(n:Nat)(b:Addr)(its2:Array Value)(hs0:¬(!items.isEmpty&&Builtin.List.listTooLong (items.size+its2.size))=true)(hs1:items.size<=sizeLine)(hs2:items.size+its2.size<=sizeLine+1):
  Meets (Builtin.«list.extend» ⟨[.ref l,.ref b],[]⟩) (fun _ R s=>s.heap.get? l=some {cls:= .type "list",dict:=none,data:= .seq items n,slots:=#[]}/\s.heap.IsTuple b its2/\R (.ok (.ret Value.none)) {s with heap:=s.heap.update l (Obj.mapSeq fun x=>x++its2),toks:=s.toks}):=
 .of_wp fun prog w A R s h=>by
  obtain⟨hp,g,d,tk,os⟩:=s
  obtain⟨hl,⟨⟨c,dc,dt,sl⟩,hb,hc,n2,hd⟩,h⟩:=h
  cases hc;cases hd
  have f2:=sub_tuple_tuple;have f3:=sub_list_list;have f4:=sub_tuple_list;have f5:=sub_list_tuple
  have hz':(items++its2).size<=sizeLine+1:=by rw[Array.size_append];exact hs2
  wp_walk using(TF hl rfl (hz:=hs1) (_hz':=hz')),wpAny_loadPart' hl,wpAny_loadPart' hb
  exact⟨_,rfl,h⟩
variable{X:Cx}
theorem Bx:MtM X "list.extend" (fun x vs H Q=>∃l b xs zs,x= .ref l/\vs=[.ref b]/\H l=some (.lst xs)/\SqT X.K H b zs/\xs.length+zs.length<=sizeLine/\Q .non (upd H l (.lst (xs++zs)))):=by
 intro pins s σ H x vs v us Q I rx rv h
 obtain⟨l,b,xs,zs,rfl,rfl,hH,hB,hz,q⟩:=h
 cases rx
 obtain⟨u,rfl,ru⟩:=rv.one
 cases ru
 obtain⟨z,its,n,r,hl,e⟩:=I.lstM hH
 obtain⟨its2,r2,e2,z2⟩:=I.tuple hB
 have hl2:=r2.length
 have hsz:its.toArray.size+its2.toArray.size<=sizeLine:=by rw[fL,fL];omega
 have hlong:¬(!its.toArray.isEmpty&&Builtin.List.listTooLong (its.toArray.size+its2.toArray.size))=true:=by
  rw[notLongL hsz,wgo]
  exact qN
 refine NZ F.slot_list_extend ⟨_,e,rfl⟩ F.entry_list_extend (F.args_list_extend_2 _ _)
  (Q6 l its.toArray n b its2.toArray hlong (by rw[fL];omega) (by omega)) ⟨e,e2,?_⟩
 refine⟨.non,_,I.lset (its':=its++its2) hH e (by simp) (r.append r2) ?_,rfl,q⟩
 rw[qC]
 omega
end L2
namespace Hs
open PySem L2 vh
theorem zp{ts:List (Int×Int)}:∀(k:Nat) (xs:List Int),xs.length<=k->∀s∈aq ts xs,Ip ts xs s
 |0,xs,h,s,hs=>by rw[Jd (Ig.mp h),dF]at hs;cases hs
 |k+1,xs,h,s,hs=>by
  by_cases hne:xs=[]
  ·rw[hne,dF]at hs;cases hs
  rw[Ny hne]at hs
  have hl:=gq (ts:=ts) hne
  rcases cW.mp hs with rfl|q
  ·exact(dW ts xs).is
  ·have:=zp k (rest ts xs) (by omega) s q
   exact⟨this.sub.trans Jb,this.ap⟩
theorem tD{ts:List (Int×Int)}:∀(k:Nat) (xs:List Int),xs.length<=k->xs.Pairwise (· < ·)->(aq ts xs).flatten.Perm xs
 |0,xs,h,_=>by rw[Jd (Ig.mp h),dF];exact .nil
 |k+1,xs,h,hp=>by
  by_cases hne:xs=[]
  ·rw[hne,dF];exact .nil
  rw[Ny hne,Ja]
  have hl:=gq (ts:=ts) hne
  have bs:=(dW ts xs).is.sub
  have ih:=tD (ts:=ts) k (rest ts xs) (by omega) (hp.filter _)
  have eb:(xs.filter fun o=>decide (o∈best ts xs))=best ts xs:=S8 (hp.filter _) (hp.sublist bs) fun k=>by
   rw[fV,TX]
   exact⟨fun q=>q.2,fun q=>⟨bs.subset q,q⟩⟩
  have:=List.filter_append_perm (fun o=>decide (o∈best ts xs)) xs
  rw[eb]at this
  exact(List.Perm.append_left _ ih).trans this
theorem Fb{ts:List (Int×Int)}:∀(i:Nat) (xs s t:List Int),Ip ts xs s->(aq ts xs)[i]? =some t->(s.filter fun o=> !decide (o∈((aq ts xs).take i).flatten)).length<=t.length
 |i,xs,s,t,hs,ht=>by
  by_cases hne:xs=[]
  ·rw[hne,dF]at ht;cases ht
  rw[Ny hne]at ht⊢
  cases i with
  |zero=>
   cases ht
   refine bZ (xR _ _) ?_
   have:=(dW ts xs).top s hs
   rcases Xx (best ts xs).length s.length with q|q
   ·rw[Nx.mpr (.inl q)]at this;cases this
   ·exact q
  |succ i=>
   have hr:Ip ts (rest ts xs) (s.filter fun o=> !decide (o∈best ts xs)):=⟨hs.sub.filter _,hs.ap.filter _⟩
   have ih:=Fb i (rest ts xs) _ t hr (by simpa using ht)
   have e:(s.filter fun o=> !decide (o∈((best ts xs::aq ts (rest ts xs)).take (i+1)).flatten))=(s.filter fun o=> !decide (o∈best ts xs)).filter fun o=> !decide (o∈((aq ts (rest ts xs)).take i).flatten):=by
    rw[List.filter_filter]
    refine List.filter_congr fun x _=> ?_
    rw[List.take_succ_cons,Ja]
    by_cases c:x∈best ts xs<;>by_cases c2:x∈((aq ts (rest ts xs)).take i).flatten<;>simp[c,c2]
   rw[e];exact ih
def hu(ss:List (List Int)):Nat->Int->Option Int
 |0,_=>none
 |k+1,p=>if p∈ss.getD k []then some (k:Int)else hu ss k p
theorem wG{ss:List (List Int)}{p:Int}:∀{k:Nat},(∃i,i<k/\p∈ss.getD i [])->∃j:Nat,hu ss k p=some (j:Int)/\j<k/\p∈ss.getD j []
 |0,⟨i,h,_⟩=>absurd h (Ro _)
 |k+1,⟨i,h,hp⟩=>by
  show∃j:Nat,(if p∈ss.getD k []then some (k:Int)else hu ss k p)=some (j:Int)/\j<k+1/\p∈ss.getD j []
  by_cases c:p∈ss.getD k []
  ·rw[ao c];exact⟨k,rfl,oR k,c⟩
  ·rw[ak c]
   have:i≠k:=fun e=>c (e▸hp)
   obtain⟨j,h1,h2,h3⟩:=wG (ss:=ss) (p:=p) (k:=k) ⟨i,by omega,hp⟩
   exact⟨j,h1,by omega,h3⟩
def BX(ss:List (List Int))(n:Nat):List Int:=(rng n).map fun p=>(hu ss ss.length p).getD 0
theorem EY{ts:List (Int×Int)}{n:Nat}{p:Int}(hp:p∈rng n):∃j:Nat,hu (aq ts (rng n)) (aq ts (rng n)).length p=some (j:Int)/\j<(aq ts (rng n)).length/\p∈(aq ts (rng n)).getD j []:=by
 obtain⟨s,hs,hp'⟩:=nW (ts:=ts) _ (rng n) (aJ _) p hp
 obtain⟨i,hi,e⟩:=uG hs
 refine wG ⟨i,hi,?_⟩
 rw[jC,gH hi,e];exact hp'
theorem zj{ts:List (Int×Int)}{n:Nat}{p q:Int}(hpq:p<q)(hp:p∈rng n)(hq:q∈rng n)(ht:bh ts p q=true):(hu (aq ts (rng n)) (aq ts (rng n)).length p).getD 0≠(hu (aq ts (rng n)) (aq ts (rng n)).length q).getD 0:=by
 obtain⟨i,h1,h2,h3⟩:=EY (ts:=ts) hp
 obtain⟨j,k1,k2,k3⟩:=EY (ts:=ts) hq
 rw[h1,k1]
 intro e
 have e':i=j:=by
  have:(i:Int)=(j:Int):=e
  omega
 subst e'
 have m:(aq ts (rng n)).getD i []∈aq ts (rng n):=by
  rw[jC,gH h2];exact I9 h2
 have A:=zp (ts:=ts) _ (rng n) (aJ _) _ m
 have up:((aq ts (rng n)).getD i []).Pairwise (· < ·):=(jQ n).sublist A.sub
 generalize (aq ts (rng n)).getD i []=s at *
 obtain⟨a,ha,ea⟩:=uG h3
 obtain⟨b,hb,eb⟩:=uG k3
 have hab:a<b:=by
  rcases wev a b with c|c|c
  ·exact c
  ·subst c;rw[ea]at eb;omega
  ·have:=Ij.mp up b a hb ha c
   rw[ea,eb]at this;omega
 have:=Ij.mp A.ap a b ha hb hab
 rw[ea,eb,ht]at this
 cases this
section
variable{P:Program}{w:World}{K:W.Frag}{mg:Str->Option Value}{base:Heap}
theorem QB(ys:List Int):(V.int ((ys.map V.int).length:Int))=V.int (ys.length:Int):=by rw[aF]
def wF(n:Int)(ts:List (Int×Int))(hs:List Int):Bool:=decide ((hs.length:Int)=n)&&(hs.all (fun h=>decide (0<=h))&&ts.all fun t=> !decide (hs.getD t.1.toNat 0=hs.getD t.2.toNat 0))
def JW(K:W.Frag):Sp:=fun vs H Q _=>∃(a h:Addr) (n:Int) (ts:List (Int×Int)) (hs:List Int),vs=[.ref a,.ref h]/\bA K H a n ts/\SqT K H h (hs.map V.int)/\∀H',Same H H'->Q (.bl (wF n ts hs)) H'
theorem Pk:FnScope ["web","hues"] ["web","hues"] (defScope jk):=fsc
theorem Qm{f f1 f2:Addr}{fd d1 d2:FuncData}(F:Fun K "are_hues" "are_hues" jk f fd)(D1:bJ K mg "need_web" IV ["thing"] f1 d1)(G1:FnOk P w K mg base CX0 7 f1 d1 ["thing"] (cR K))(D2:bJ K mg "is_whole" Rj ["thing"] f2 d2)(G2:FnOk P w K mg base CX0 1 f2 d2 ["thing"] (kJ K))(bw:mg "len"=none)(bV:mg "isinstance"=none)(aZ:mg "tuple"=none)(uT:mg "all"=none):
  FnOk P w K mg base CX0 8 f fd ["web","hues"] (JW K):=by
 refine F.ok Pk (fun vs H Q E h=> ?_) (fun cdv A outer s H vs Q E hr h=> ?_)
 ·obtain⟨a,h,n,ts,hs,rfl,_⟩:=h
  rfl
 obtain⟨a,h,n,ts,hs,rfl,hA,hH,q⟩:=h
 refine⟨_,(aO (xP (pc G1 hr D1 (aj (pv 0) au))) (aO (mY (PW.pt (pw_or (pt_not (uD (fM dU rfl bV (by decide+kernel) (aj (pv 1) (aj (pe_bltn rfl aZ (v:= .ty "tuple") (by decide+kernel) rfl) au))))) (pw_or1 (kj op_ne (fM qd rfl bw oU (aj (pv 1) au)) (bB gQ (pv 0) aK (fun _ _=>rfl)) (nomark _))))) (aX (cF pe_bl)) oJ) (aO (mY (pt_not (uD (fM (gK rfl) rfl uT (by decide+kernel) (aj (oH (own:=["hue"]) (caps:=[]) (ix:=[]) rfl (Am (pv 1)) rfl rfl .nil (fun _ _ _ _ _=>(cY (i:=0) (show(["hue"]:List Str).Nodup from by decide+kernel) rfl (Or.inl rfl))) (fun _ _ _ _ _=>qb) (fun _ _ _ _ _=>(pe_and (pc G2 hr D2 (aj (pv 0) au)) (pe_one (pe_cmpR op_ge (pv 0) aK (nomark _)))))) au)))) (aX (cF pe_bl)) oJ) (aX (cF (fM (gK rfl) rfl uT (by decide+kernel) (aj (oH (own:=["one","other"]) (caps:=["hues"]) (ix:=[1]) rfl (Am (bB gQ (pv 0) aK (fun _ _=>rfl))) rfl rfl (.cons rfl rfl .nil) (fun _ _ _ _ _=>(iu K (n:=2) rfl (tV (cY (i:=0) (show(["one","other","hues"]:List Str).Nodup from by decide+kernel) rfl (Or.inl rfl)) (tV (cY (i:=1) (show(["one","other","hues"]:List Str).Nodup from by decide+kernel) rfl (Or.inl rfl)) pgs_nil)))) (fun _ _ _ _ _=>qb) (fun _ _ _ _ _=>(pe_cmpR op_ne (bB (Fx K) (pv 2) (pv 0) (fun _ _=>rfl)) (bB (Fx K) (pv 2) (pv 1) (fun _ _=>rfl)) (nomark _)))) au))))))),?_⟩
 refine⟨_,rfl,_,_,rfl,hA.web.dv.dx,hA.ok,fun H1 s1=> ?_⟩
 obtain⟨ta,ra,a1,a2,a3⟩:=id (hA.same s1).web
 have hH1:=s1.tup hH
 refine⟨_,rfl,.ref h,"tuple",_,rfl,.inl ⟨rfl,_,hH1⟩,.inr (.inr (.inl rfl)),_,rfl,?_⟩
 refine iteF ?_
 refine⟨_,rfl,h,_,rfl,.inr hH1,fun hz=>⟨_,rfl,a,_,_,.int n,rfl,rfl,a1,rfl,rfl,_,rfl,?_⟩⟩
 rw[QB,wC]
 refine ite2 (fun c=> ?_) (fun c=> ?_)
 ·have e:wF n ts hs=false:=by unfold wF;rw[iY (by simpa using c)];rfl
  have:=q H1 s1
  rw[e]at this;exact this
 have hlen:(hs.length:Int)=n:=by simpa using c
 refine⟨_,rfl,h,_,rfl,hH1,fun hz1=> ?_⟩
 refine Iz (xs:=hs.map V.int) (fun i acc σ H'=>acc=((hs.take i).map fun x=>decide (0<=x)).map V.bl/\Same H1 H'/\∃o1,σ=[o1]) ⟨rfl,Same.refl _,_,rfl⟩ (fun i acc σ H' _ p=>p.2.1.tup hH1) (fun i acc σ H' hi p=> ?_) hz1 (fun i x acc σ H' hx p=> ?_) (fun acc σ H' p=> ?_)
 ·rw[p.1,aF,aF,vA];exact Dj _ _
 ·obtain⟨rfl,sm,o1,rfl⟩:=p
  rw[cg]at hx
  cases ex:hs[i]? with
  |none=>rw[ex]at hx;cases hx
  |some y=>
   rw[ex]at hx
   cases hx
   refine⟨_,rfl,_,_,rfl,.int y,_,rfl,iteT ?_⟩
   refine⟨_,rfl,_,_,rfl,rfl,?_,sm,_,rfl⟩
   rw[rE,ex,bQ,bQ];rfl
 intro p1 hp1
 obtain⟨rfl,sm,_⟩:=p
 rw[aF,qe]
 have s2:=sm.trans (aV hp1 (.lst ((hs.map fun x=>decide (0<=x)).map V.bl)))
 refine⟨p1,_,rfl,SqL.of aH,_,rfl,?_⟩
 rw[Xy]
 dsimp only at s2⊢
 generalize upd H' p1 (.lst ((hs.map fun x=>decide (0<=x)).map V.bl))=H2 at *
 refine ite2 (fun c2=> ?_) (fun c2=> ?_)
 ·have c3:hs.all (fun h=>decide (0<=h))=false:=by
   cases z:hs.all (fun h=>decide (0<=h))with
   |false=>rfl
   |true=>exact absurd c2 (by show¬(!(hs.all fun h=>decide (0<=h)))=true;rw[z];decide)
  have e:wF n ts hs=false:=by unfold wF;rw[c3];simp
  have:=q H2 (s1.trans s2)
  rw[e]at this;exact this
 have hall:hs.all (fun h=>decide (0<=h))=true:=by
  cases z:hs.all (fun h=>decide (0<=h))with
  |true=>rfl
  |false=>exact absurd (show(!(hs.all fun h=>decide (0<=h)))=true by rw[z];rfl) c2
 refine⟨_,rfl,a,_,_,.ref ta,rfl,rfl,s2.tup a1,rfl,ta,ra,rfl,s2.tup a2,fun hz2=> ?_⟩
 have h45:=hA.len
 have hra:=a3.len
 rw[aF]at hra
 refine Iz (xs:=ra) (fun i acc σ H'=>acc=((ts.take i).map fun p=> !decide (hs.getD p.1.toNat 0=hs.getD p.2.toNat 0)).map V.bl/\Same H2 H'/\∃o1 o2,σ=[o1,o2,some (.ref h)]) ⟨rfl,Same.refl _,_,_,rfl⟩ (fun i acc σ H' _ p=>p.2.1.tup (s2.tup a2)) (fun i acc σ H' hi p=> ?_) hz2 (fun i x acc σ H' hx p=> ?_) (fun acc σ H' p=> ?_)
 ·rw[p.1];simp;omega
 ·obtain⟨rfl,sm',b1,b2,rfl⟩:=p
  obtain⟨t,hi,rfl,ht⟩:=Ek a3 hx
  have Eh:=s2.trans sm'
  have hp:=hA.pk.lt ts[i] (I9 _)
  refine⟨t,_,rfl,Eh.tup ht,rfl,_,_,rfl,_,_,rfl,rfl,?_⟩
  refine⟨_,rfl,_,rfl,h,_,_,_,rfl,rfl,Eh.tup hH1,zX hp.1 (by omega),_,rfl,_,rfl,h,_,_,_,rfl,rfl,Eh.tup hH1,zX (by omega) (by omega),rfl,?_,sm',_,_,rfl⟩
  rw[wC]
  exact uh (f:=fun p=> !decide (hs.getD p.1.toNat 0=hs.getD p.2.toNat 0)) (g:=V.bl) hi
 ·intro p2 hp2
  obtain⟨rfl,sm',_⟩:=p
  refine⟨p2,_,rfl,SqL.of aH,?_⟩
  have e:((ts.take ra.length).map fun p=> !decide (hs.getD p.1.toNat 0=hs.getD p.2.toNat 0)).all id=wF n ts hs:=by
   rw[hra,qe,Xy]
   unfold wF
   rw[gb hlen,hall,wgv,wgv];rfl
  rw[e]
  exact q _ (s1.trans (s2.trans (sm'.trans (aV hp2 _))))
structure Fr(K:W.Frag)(H:Hp)(p:Addr)(u:Int)(v:Nat):Prop where
 at_:SqT K H p [.int u,.int (v:Int)]
 pos:0<v
 lu:u.natAbs<=10^41
 lv:v<=10^41
theorem m41:10^41<=10^200:=by decide+kernel
theorem m82:10^41*10^41<=10^82:=by decide+kernel
theorem aao:10^82<=10^200:=by decide+kernel
theorem Fr.u{H:Hp}{p:Addr}{u:Int}{v:Nat}(h:Fr K H p u v):u.natAbs<=10^200:=bZ h.lu m41
theorem Fr.v{H:Hp}{p:Addr}{u:Int}{v:Nat}(h:Fr K H p u v):((v:Int)).natAbs<=10^200:=bZ h.lv m41
theorem Fr.vv{H H':Hp}{p p':Addr}{u u':Int}{v v':Nat}(h:Fr K H p u v)(h':Fr K H' p' u' v'):v*v'<=10^82:=bZ (wgq h.lv h'.lv) m82
def JL(K:W.Frag):Sp:=fun vs H Q _=>∃(p p':Addr) (u u':Int) (v v':Nat),vs=[.ref p,.ref p']/\Fr K H p u v/\Fr K H p' u' v'/\∀r H' x y,Same H H'->H' r=some (.tup [.int x,.int ((y:Nat):Int)])->Low (u*(v':Int)+u'*(v:Int)) (v*v') x y->Q (.ref r) H'
theorem O9:FnScope ["one","other"] ["one","other"] (defScope vR):=fsc
theorem Qe{f f1:Addr}{fd d1:FuncData}(F:Fun K "plus" "plus" vR f fd)(D1:bJ K mg "lowest" Nv ["a","b"] f1 d1)(G1:FnOk P w K mg base CX0 2 f1 d1 ["a","b"] (ql K)):FnOk P w K mg base CX0 3 f fd ["one","other"] (JL K):=by
 refine F.ok O9 (fun vs H Q E h=> ?_) (fun cdv A outer s H vs Q E hr h=> ?_)
 ·obtain⟨p,p',u,u',v,v',rfl,_⟩:=h
  rfl
 obtain⟨p,p',u,u',v,v',rfl,h1,h2,q⟩:=h
 refine⟨_,aX (cF (pc G1 hr D1 (aj (bN qy (bN qX (bB gQ (pv 0) aK (fun _ _=>rfl)) (bB gQ (pv 1) aK (fun _ _=>rfl))) (bN qX (bB gQ (pv 1) aK (fun _ _=>rfl)) (bB gQ (pv 0) aK (fun _ _=>rfl))))
  (aj (bN qX (bB gQ (pv 0) aK (fun _ _=>rfl)) (bB gQ (pv 1) aK (fun _ _=>rfl))) au)))),?_⟩
 have q1:=h1.at_
 have q2:=h2.at_
 refine⟨_,rfl,p,_,_,.int u,rfl,rfl,q1,rfl,_,rfl,p',_,_,.int v',rfl,rfl,q2,rfl,_,_,rfl,rfl,⟨h1.u,h2.v⟩,_,rfl,p',_,_,.int u',rfl,rfl,q2,rfl,_,rfl,p,_,_,.int v,rfl,rfl,q1,rfl,_,_,rfl,rfl,⟨h2.u,h1.v⟩,_,_,rfl,rfl,?_⟩
 refine⟨_,rfl,p,_,_,.int v,rfl,rfl,q1,rfl,_,rfl,p',_,_,.int v',rfl,rfl,q2,rfl,_,_,rfl,rfl,⟨h1.v,h2.v⟩,?_⟩
 exact⟨_,v*v',rfl,Xw h1.pos h2.pos,bZ (h1.vv h2) aao,q⟩
def Dv(K:W.Frag):Sp:=fun vs H Q _=>∃(p p':Addr) (u u':Int) (v v':Nat),vs=[.ref p,.ref p']/\SqT K H p [.int u,.int ((v:Nat):Int)]/\SqT K H p' [.int u',.int ((v':Nat):Int)]/\CMul u u'/\CMul ((v:Nat):Int) ((v':Nat):Int)/\0<v*v'/\v*v'<=10^200/\∀r H' x y,Same H H'->H' r=some (.tup [.int x,.int ((y:Nat):Int)])->Low (u*u') (v*v') x y->Q (.ref r) H'
theorem Kh:FnScope ["one","other"] ["one","other"] (defScope qT):=fsc
theorem K3{f f1:Addr}{fd d1:FuncData}(F:Fun K "times" "times" qT f fd)(D1:bJ K mg "lowest" Nv ["a","b"] f1 d1)(G1:FnOk P w K mg base CX0 2 f1 d1 ["a","b"] (ql K)):FnOk P w K mg base CX0 3 f fd ["one","other"] (Dv K):=by
 refine F.ok Kh (fun vs H Q E h=> ?_) (fun cdv A outer s H vs Q E hr h=> ?_)
 ·obtain⟨p,p',u,u',v,v',rfl,_⟩:=h
  rfl
 obtain⟨p,p',u,u',v,v',rfl,q1,q2,m1,m2,hp,hb,q⟩:=h
 refine⟨_,aX (cF (pc G1 hr D1 (aj (bN p8 (bB gQ (pv 0) aK (fun _ _=>rfl)) (bB gQ (pv 1) aK (fun _ _=>rfl)))
  (aj (bN p8 (bB gQ (pv 0) aK (fun _ _=>rfl)) (bB gQ (pv 1) aK (fun _ _=>rfl))) au)))),?_⟩
 refine⟨_,rfl,p,_,_,.int u,rfl,rfl,q1,rfl,_,rfl,p',_,_,.int u',rfl,rfl,q2,rfl,_,_,rfl,rfl,m1,?_⟩
 refine⟨_,rfl,p,_,_,.int v,rfl,rfl,q1,rfl,_,rfl,p',_,_,.int v',rfl,rfl,q2,rfl,_,_,rfl,rfl,m2,?_⟩
 exact⟨_,v*v',rfl,hp,hb,q⟩
theorem HD.same{H H':Hp}{d:Addr}{m:Nat}{g:Int->Option Int}(h:HD H d m g)(e:Same H H'):HD H' d m g:=by
 obtain⟨kvs,h1,h2,h3⟩:=h.ex
 exact⟨kvs,e _ _ h1,h2,h3⟩
theorem QH{ss:List (List Int)}{i:Nat}{s:List Int}{p:Int}(h:ss[i]? =some s):hu ss (i+1) p=if p∈s then some (i:Int)else hu ss i p:=by
 show(if p∈ss.getD i []then some (i:Int)else hu ss i p)=_
 rw[jC,h];rfl
def RV(K:W.Frag):Sp:=fun vs H Q _=>∃(a l:Addr) (n:Int) (ts:List (Int×Int)) (ss:List (List Int)),vs=[.ref a,.ref l]/\bA K H a n ts/\bO K H l ss/\Nh n.toNat ss/\∀r H',Same H H'->SqT K H' r ((BX ss n.toNat).map V.int)->Q (.ref r) H'
theorem sy:FnScope ["web","sets","found","hue","some","place"] ["web","sets"] (defScope zcw):=fsc
theorem Ve{f:Addr}{fd:FuncData}(F:Fun K "_law_e_hues_by" "_law_e_hues_by" zcw f fd)(cJ:mg "enumerate"=none)(aZ:mg "tuple"=none)(aG:mg "range"=none):
  FnOk P w K mg base CX0 1 f fd ["web","sets"] (RV K):=by
 refine F.ok sy (fun vs H Q E h=> ?_) (fun cdv A outer s H vs Q E hr h=> ?_)
 ·obtain⟨a,l,n,ts,ss,rfl,_⟩:=h
  rfl
 obtain⟨a,l,n,ts,ss,rfl,hA,hS,hok,q⟩:=h
 refine⟨_,(aO (cV (i:=2) sy.nd rfl (Or.inr rfl) pe_dnewK) (aO (xM tX rfl (qW rfl cJ (aj (pv 1) au)) (pg_tup rfl (tV (cY (i:=3) sy.nd rfl (Or.inl rfl)) (tV (cY (i:=4) sy.nd rfl (Or.inl rfl)) pgs_nil))) (aX (xM tX rfl (Am (pv 4)) (cY (i:=5) sy.nd rfl (Or.inl rfl)) (aX (ps_dput (xQ (Xn (by decide:1<=64) _) hr.units) (pv 2) (pv 5) (pv 3) rfl))))) (aX (cF (pe_callTy Wi rfl aZ (by decide+kernel) (aj (oH (own:=["place"]) (caps:=["found"]) (ix:=[2]) rfl (Ia rfl aG (aj (bB gQ (pv 0) aK (fun _ _=>rfl)) au)) rfl rfl (.cons rfl rfl .nil) (fun _ _ _ _ _=>(cY (i:=0) (show(["place","found"]:List Str).Nodup from by decide+kernel) rfl (Or.inl rfl))) (fun _ _ _ _ _=>qb) (fun _ _ _ _ _=>(pe_dget (xQ (Xn (by decide:1<=64) _) hr.units) (pv 1) (pv 0) (fun _ _=>rfl)))) au)))))),?_⟩
 obtain⟨its,i1,i2,i3⟩:=hS
 have h0:=hA.h0
 have h10:=hA.h1
 intro d hd
 have s5:=aV hd (.dK [])
 have D0:HD (upd H d (.dK [])) d 0 (fun p=>hu ss 0 p):=⟨[],aH,aJ _,fun p=>rfl⟩
 generalize upd H d (.dK [])=H5 at *
 refine⟨_,rfl,false,l,_,rfl,SqL.of (s5 _ _ i1),fun _=> ?_⟩
 refine Mu (K:=K) (b:=false) (a:=l) (xs:=its.map fun p=>V.ref p.1) (fun i σ H'=>Same H H'/\HD H' d (10*i) (fun p=>hu ss i p)/\∃o3 o4 o5,σ=[some (.ref a),some (.ref l),some (.ref d),o3,o4,o5]) ⟨s5,D0,_,_,_,rfl⟩ (fun i σ H' _ p=>SqL.of (p.1 _ _ i1)) (fun i x t σ H6 hx p ht=> ?_) (fun σ H6 p=> ?_)
 ·obtain⟨s6,D,o3,o4,o5,rfl⟩:=p
  rw[cg]at hx
  cases ex:its[i]? with
  |none=>rw[ex]at hx;cases hx
  |some v=>
   rw[ex]at hx
   cases hx
   have hv:=i2 v (iZ ex)
   have es:ss[i]? =some v.2:=by rw[<-i3,cg,ex];rfl
   have vl:=(hok.each v.2 (iZ es)).1
   have hi:i<10:=by have:=(lC.mp es).1;have:=hok.le;omega
   have s3:=aV ht (.tup [.int (i:Int),.ref v.1])
   have s63:=s6.trans s3
   have D3:=D.same s3
   refine⟨t,_,rfl,SqT.of aH,rfl,_,_,rfl,_,_,rfl,rfl,?_⟩
   generalize (upd H6 t (.tup [.int (i:Int),.ref v.1]))=H3 at *
   refine⟨_,rfl,v.1,_,rfl,s63.tup hv,fun _=> ?_⟩
   refine for_tup (K:=K) (a:=v.1) (xs:=v.2.map V.int) (fun j σ H'=>Same H H'/\HD H' d (10*i+j) (fun p=>if p∈v.2.take j then some (i:Int)else hu ss i p)/\∃o5,σ=[some (.ref a),some (.ref l),some (.ref d),some (.int (i:Int)),some (.ref v.1),o5]) ⟨s63,by simpa using D3,_,rfl⟩ (fun j σ H' _ p=>p.1.tup hv) (fun j x σ H7 hx p=> ?_) (fun σ H7 p=> ?_)
   ·obtain⟨s7,⟨kvs,k1,k2,k3⟩,o6,rfl⟩:=p
    rw[cg]at hx
    cases ey:v.2[j]? with
    |none=>rw[ey]at hx;cases hx
    |some y=>
     rw[ey]at hx
     cases hx
     have hj:j<10:=by have:=(lC.mp ey).1;omega
     refine⟨_,rfl,_,rfl,_,rfl,d,_,rfl,DPut.k (k:= .inl y) k1 (by rw[gB];omega),?_⟩
     have D2:=HD.put k1 k2 k3 y (i:Int)
     refine⟨fun b u e=>by rw[cG (fun z=>by rw[z,hd]at e;cases e)];exact s7 _ _ e,?_,_,rfl⟩
     obtain⟨kv2,c1,c2,c3⟩:=D2.ex
     refine⟨kv2,c1,c2,fun p=> ?_⟩
     have et:v.2.take (j+1)=v.2.take j++[y]:=by rw[rE,ey];rfl
     rw[c3 p,et]
     by_cases e1:p=y
     ·rw[ao e1,ao (iW.mpr (.inr (by rw[e1];exact fZ.mpr rfl)))]
     ·rw[ak e1]
      by_cases e2:p∈v.2.take j
      ·rw[ao e2,ao (iW.mpr (.inl e2))]
      ·rw[ak e2,ak (fun z=>(iW.mp z).elim e2 fun z=>e1 (fZ.mp z))]
   ·obtain⟨s7,D7,o6,rfl⟩:=p
    refine⟨s7,?_,_,_,_,rfl⟩
    rw[aF,qe]at D7
    obtain⟨kvs,c1,c2,c3⟩:=D7.ex
    refine⟨kvs,c1,by omega,fun p=> ?_⟩
    rw[c3 p,QH es]
 ·obtain⟨s6,D,o3,o4,o5,rfl⟩:=p
  have el:(its.map fun p=>V.ref p.1).length=ss.length:=by rw[aF,<-i3,aF]
  rw[el]at D
  obtain⟨kvs,k1,k2,k3⟩:=D.ex
  obtain⟨ta,ra,a1,a2,a3⟩:=id (hA.same s6).web
  refine⟨_,rfl,a,_,_,.int n,rfl,rfl,a1,rfl,_,rfl,by omega,by omega,?_⟩
  refine Ob (n:=n.toNat) (fun k acc σ H7=>H7=H6/\acc=((rng k).map fun p=>(hu ss ss.length p).getD 0).map V.int/\∃o,σ=[o,some (.ref d)]) ⟨rfl,rfl,_,rfl⟩ (fun k acc σ H7 _ p=>by rw[p.2.1,aF,aF,ig];exact aJ _) (by rw[gB];omega) (fun k acc σ H7 hk p=> ?_) (fun acc σ H7 p=> ?_)
  ·obtain⟨rfl,rfl,o,rfl⟩:=p
   have e0:(0:Int)+(k:Int)=(k:Int):=by omega
   obtain⟨s,hs,hp⟩:=hok.all (k:Int) (by omega) (by omega)
   obtain⟨i,hi,e⟩:=uG hs
   obtain⟨j,h1,h2,h3⟩:=wG (ss:=ss) (p:=(k:Int)) (k:=ss.length) ⟨i,hi,by rw[jC,gH hi,e];exact hp⟩
   have gd:DGet H7 d (.int (0+(k:Int))) (some (.int (j:Int))):= .inl ⟨kvs,.inl (0+(k:Int)),.inl k1,rfl,by rw[k3,e0,h1];rfl⟩
   refine⟨_,rfl,_,rfl,d,_,rfl,gd,rfl,?_,_,rfl⟩
   rw[yG,bQ,bQ]
   show _=_++[V.int ((hu ss ss.length (k:Int)).getD 0)]
   rw[h1];rfl
  ·intro p1 hp1
   obtain⟨rfl,rfl,_⟩:=p
   refine⟨p1,_,rfl,.inl ⟨SqL.of aH,fun r hr'=> ?_⟩⟩
   exact q r _ (s6.trans ((aV hp1 _).trans (aV hr' _))) (SqT.of aH)
theorem SJ{n:Int}{ts:List (Int×Int)}{s:List Int}(hp:bW n ts)(h:iI ts false n.toNat s):Ip ts (rng n.toNat) s:=by
 refine⟨lX (jQ _) h.up fun k hk=>xO.mpr (h.lt k hk),?_⟩
 refine X4 (fun{a b} ha hb hab=> ?_) h.up
 have:=h.all a ha b hb (by omega)
 rw[tied_eq hp]
 simpa using this
theorem zM:∀(xs ys:List Int),PyData.eqvAll (xs.map PyData.int) (ys.map PyData.int)=decide (xs=ys)
 |[],[]=>by simp[PyData.eqvAll]
 |[],y::ys=>by simp[PyData.eqvAll]
 |x::xs,[]=>by simp[PyData.eqvAll]
 |x::xs,y::ys=>by
  show(PyData.eqv (.int x) (.int y)&&PyData.eqvAll (xs.map PyData.int) (ys.map PyData.int))=_
  rw[zM xs ys]
  have e:PyData.eqv (.int x) (.int y)=decide (x=y):=by
   show(x==y)=_
   rw[Al];simp
  rw[e,Al]
  simp
theorem sY:∀ns:List Int,PyData.depthAll (ns.map PyData.int)=0
 |[]=>rfl
 |x::xs=>by show max 0 (PyData.depthAll (xs.map PyData.int))=0;rw[sY xs];rfl
theorem Jz{ys xs:List Int}(hp:ys.Perm xs)(hs:ys.Pairwise (· <= ·))(hx:xs.Pairwise (· < ·)):ys=xs:=by
 have nd:ys.Nodup:=hp.nodup_iff.mpr (hx.imp fun{a b} h=>by omega)
 have up:ys.Pairwise (· < ·):=(hs.and nd).imp fun{a b} h=>by have:=h.1;have:=h.2;omega
 exact S8 up hx fun k=>hp.mem_iff
def JR(K:W.Frag):Sp:=fun vs H Q _=>∃(a l:Addr) (n:Int) (ts:List (Int×Int)),vs=[.ref a,.ref l]/\bA K H a n ts/\bO K H l (aq ts (rng n.toNat))/\∀H',Same H H'->Q (.bl true) H'
theorem qQ:FnScope ["web","sets","done","some","one"] ["web","sets"] (defScope zbf):=fsc
theorem Qk{f f1:Addr}{fd d1:FuncData}(F:Fun K "_law_e_full_in_turn" "_law_e_full_in_turn" zbf f fd)(D1:bJ K mg "full_apart" S9 ["web"] f1 d1)(G1:FnOk P w K mg base CX0 8 f1 d1 ["web"] (fB K))(bw:mg "len"=none)(sV:mg "sorted"=none)(jX:mg "list"=none)(aG:mg "range"=none):
  FnOk P w K mg base CX0 9 f fd ["web","sets"] (JR K):=by
 refine F.ok qQ (fun vs H Q E h=> ?_) (fun cdv A outer s H vs Q E hr h=> ?_)
 ·obtain⟨a,l,n,ts,rfl,_⟩:=h
  rfl
 obtain⟨a,l,n,ts,rfl,hA,hS,q⟩:=h
 refine⟨_,(aO (cV (i:=2) qQ.nd rfl (Or.inr rfl) (pe_lst au)) (aO (xM tX rfl (xW (pv 1)) (cY (i:=3) qQ.nd rfl (Or.inl rfl)) (aO (xM tX rfl (xW (pc G1 hr D1 (aj (pv 0) au))) (cY (i:=4) qQ.nd rfl (Or.inl rfl)) (aX (mY (kj op_gt (fM qd rfl bw oU (aj (oH (own:=["place"]) (caps:=["done"]) (ix:=[2]) rfl (Am (pv 4)) rfl rfl (.cons rfl rfl .nil) (fun _ _ _ _ _=>(cY (i:=0) (show(["place","done"]:List Str).Nodup from by decide+kernel) rfl (Or.inl rfl))) (fun _ _ _ _ _=>fj (kj (sJ K hr.units) (pv 0) (pv 1) (by with_unfolding_all rfl))) (fun _ _ _ _ _=>(pv 0))) au)) (fM qd rfl bw oU (aj (pv 3) au)) (nomark _)) (aX (cF pe_bl)) oJ))) (aX (xP (pe_bm RD wex wey Bx (pv 2) (aj (pv 3) au)))))) (aX (cF (pe_cmpR (Uz hr.units) (fM wZ rfl sV (by decide+kernel) (aj (pv 2) au)) (jV rfl rfl jX rfl aG (aj (bB gQ (pv 0) aK (fun _ _=>rfl)) au)) (nomark _)))))),?_⟩
 obtain⟨its,i1,i2,i3⟩:=hS
 have h0:=hA.h0
 have h10:=hA.h1
 have hpm:=tD (ts:=ts) _ (rng n.toNat) (aJ _) (jQ _)
 have hlen:(aq ts (rng n.toNat)).flatten.length=n.toNat:=by rw[hpm.length_eq,ig]
 have htk:∀i,(((aq ts (rng n.toNat)).take i).flatten).length<=10:=fun i=>by
  have e:(aq ts (rng n.toNat)).flatten=((aq ts (rng n.toNat)).take i).flatten++((aq ts (rng n.toNat)).drop i).flatten:=by rw[<-wdy,List.take_append_drop]
  have:=jy List.length e
  rw[qC]at this
  omega
 refine⟨(by show 0<=sizeLine;decide),fun dn hdn=> ?_⟩
 have s0:=aV hdn (.lst [])
 have e0:(upd H dn (.lst [])) dn=some (.lst ((((aq ts (rng n.toNat)).take 0).flatten).map V.int)):=aH
 generalize (upd H dn (.lst []))=H0 at *
 refine⟨_,rfl,l,_,rfl,SqL.of (s0 _ _ i1),fun _=> ?_⟩
 refine for_list (K:=K) (a:=l) (xs:=its.map fun p=>V.ref p.1) (fun i σ H'=>Same H H'/\H' dn=some (.lst ((((aq ts (rng n.toNat)).take i).flatten).map V.int))/\∃o3 o4,σ=[some (.ref a),some (.ref l),some (.ref dn),o3,o4]) ⟨s0,e0,_,_,rfl⟩ (fun i σ H' _ p=>SqL.of (p.1 _ _ i1)) (fun i x σ H6 hx p=> ?_) (fun σ H6 p=> ?_)
 ·obtain⟨s6,D,o3,o4,rfl⟩:=p
  rw[cg]at hx
  cases ex:its[i]? with
  |none=>rw[ex]at hx;cases hx
  |some v=>
   rw[ex]at hx
   cases hx
   have hv:=i2 v (iZ ex)
   have es:(aq ts (rng n.toNat))[i]? =some v.2:=by rw[<-i3,cg,ex];rfl
   have hvl:v.2.length<=10:=(tE (ts:=ts) h10).each v.2 (iZ es)|>.1
   have hdl:=htk i
   refine⟨_,rfl,a,n,ts,rfl,hA.same s6,fun sl ss' H4 s4 LC jA hsl=> ?_⟩
   obtain⟨jts,j1,j2,j3⟩:=LC
   have s64:=s6.trans s4
   have D4:=s4 _ _ D
   refine⟨sl,_,rfl,SqL.of j1,fun _=> ?_⟩
   refine for_list (K:=K) (a:=sl) (xs:=jts.map fun p=>V.ref p.1) (fun j σ H'=>Same H4 H'/\∃o4,σ=[some (.ref a),some (.ref l),some (.ref dn),some (.ref v.1),o4]) ⟨Same.refl _,_,rfl⟩ (fun i σ H' _ p=>SqL.of (p.1 _ _ j1)) (fun j x σ H5 hx p=> ?_) (fun σ H5 p=> ?_)
   ·obtain⟨s5,o4,rfl⟩:=p
    rw[cg]at hx
    cases ey:jts[j]? with
    |none=>rw[ey]at hx;cases hx
    |some u=>
     rw[ey]at hx
     cases hx
     have hum:=iZ ey
     have hu:=s5.tup (j2 u hum)
     have D5:=s5 _ _ D4
     have hK:iI ts false n.toNat u.2:=vK jA (by rw[<-j3];exact Tj hum)
     have hAp:Ip ts (rng n.toNat) u.2:=SJ hA.pk hK
     have gt:=Fb i _ _ _ hAp es
     generalize ((aq ts (rng n.toNat)).take i).flatten=dl at *
     refine⟨_,rfl,u.1,_,rfl,hu,fun hz=> ?_⟩
     refine Iz (xs:=u.2.map V.int) (fun k acc σ H'=>acc=((u.2.take k).filter fun o=> !decide (o∈dl)).map V.int/\H'=H5/\∃o,σ=[o,some (.ref dn)]) ⟨rfl,rfl,_,rfl⟩ (fun k acc σ H' _ p=>by rw[p.2.1];exact hu) (fun k acc σ H' hk p=> ?_) hz (fun k x acc σ H' hx pp=> ?_) (fun acc σ H' p=> ?_)
     ·rw[p.1,aF]
      exact bZ (xR _ _) (by rw[vA];exact Dj _ _)
     ·obtain⟨rfl,rfl,o,rfl⟩:=pp
      rw[cg]at hx
      cases ez:u.2[k]? with
      |none=>rw[ez]at hx;cases hx
      |some y=>
       rw[ez]at hx
       cases hx
       obtain⟨hk,ey'⟩:=lC.mp ez
       have e:=Xd (p:=fun o=> !decide (o∈dl)) hk
       rw[ey']at e
       refine⟨_,rfl,_,rfl,dn,_,_,.int y,rfl,.inl (SqL.of D5),dI.ints dl,.int _,IK dl,rfl,(by show 0<=60;decide),_,rfl,?_⟩
       rw[any_ints]
       refine ite2 (fun c=> ?_) (fun c=> ?_)
       ·exact⟨_,rfl,by rw[e,ao c,bQ];rfl,rfl,_,rfl⟩
       ·exact⟨by rw[e,ak c,uF],rfl,_,rfl⟩
     ·intro p1 hp1
      obtain⟨rfl,rfl,_⟩:=p
      have s7:=aV hp1 (.lst (((u.2.take (u.2.map V.int).length).filter fun o=> !decide (o∈dl)).map V.int))
      refine⟨p1,_,rfl,.inl (SqL.of aH),fun _=>⟨_,rfl,v.1,_,rfl,.inr ((s64.trans (s5.trans s7)).tup hv),fun _=>⟨_,_,rfl,rfl,_,rfl,?_⟩⟩⟩
      rw[aF,aF,aF,qe]
      rw[aF,qe]at s7
      rw[iY (by omega)]
      refine iteF ?_
      exact⟨s5.trans s7,_,rfl⟩
   ·obtain⟨s5,o4,rfl⟩:=p
    have D5:=s5 _ _ D4
    refine⟨_,rfl,.inl ⟨rfl,_,SqL.of D5⟩,_,rfl,dn,v.1,_,_,rfl,rfl,D5,(s64.trans s5).tup hv,by rw[aF,aF,gB];omega,?_⟩
    refine⟨fun b u e=>by rw[cG (fun z=>by rw[z,hdn]at e;cases e)];exact(s64.trans s5) _ _ e,?_,_,_,rfl⟩
    rw[aH,rE,es,wdy,bQ]
    simp
 ·obtain⟨s6,D,o3,o4,rfl⟩:=p
  have el:(its.map fun p=>V.ref p.1).length=(aq ts (rng n.toNat)).length:=by rw[aF,<-i3,aF]
  rw[el,qe]at D
  refine⟨_,rfl,false,dn,_,rfl,SqL.of D,by omega,fun sl zs hsl hp hs=> ?_⟩
  have s2:=aV hsl (.lst (zs.map V.int))
  have e2:(upd H6 sl (.lst (zs.map V.int))) sl=some (.lst (zs.map V.int)):=aH
  generalize (upd H6 sl (.lst (zs.map V.int)))=H2 at *
  obtain⟨ta,ra,a1,a2,a3⟩:=id (hA.same (s6.trans s2)).web
  refine⟨_,rfl,a,_,_,.int n,rfl,rfl,a1,rfl,n,rfl,h0,by omega,fun rl hrl=> ?_⟩
  have s3:=aV hrl (.lst (cQ n.toNat))
  have e3:(upd H2 rl (.lst (cQ n.toNat))) rl=some (.lst ((rng n.toNat).map V.int)):=by rw[aH,rM]
  generalize (upd H2 rl (.lst (cQ n.toNat)))=H3 at *
  refine⟨.list (zs.map PyData.int),.list ((rng n.toNat).map PyData.int),.lst (SqL.of (s3 _ _ e2)) (dI.ints _),.lst (SqL.of e3) (dI.ints _),IK _,IK _,?_,?_⟩
  ·refine bZ (Dj _ _) ?_
   show PyData.depthAll (zs.map PyData.int)+1<=64
   have:=sY zs
   omega
  rw[show PyData.eqv (.list (zs.map PyData.int)) (.list ((rng n.toNat).map PyData.int))=decide (zs=rng n.toNat)from zM _ _,gb (Jz (hp.trans hpm) hs (jQ _))]
  exact q _ (s6.trans (s2.trans s3))
theorem Ce{st:Ng}:∀(l:List Int) (f:List (List Int)) (q p:List Int),q∈f->p.Sublist l->(∀(a b:List Int) (x:Int),p=a++x::b->st (q++a) x=true)->q++p∈l.foldl (iH st) f
 |[],f,q,p,hq,hp,_=>by
  have:p=[]:=Oe.mp hp
  subst this
  rw[uF];exact hq
 |y::l,f,q,p,hq,hp,hst=>by
  show q++p∈l.foldl (iH st) (iH st f y)
  cases hp with
  |cons _ h=>exact Ce l _ q p (Jc _ hq) h hst
  |cons_cons _ h=>
   rename_i p'
   have e:q++y::p'=(q++[y])++p':=by rw[Wr];rfl
   rw[e]
   refine Ce l _ (q++[y]) p' (jc _ (iV.mpr ⟨q,fV.mpr ⟨hq,?_⟩,rfl⟩)) h fun a b x eb=> ?_
   ·have:=hst [] p' y rfl
    rwa [uF]at this
   ·have:=hst (y::a) b x (by rw[eb];rfl)
    rw[Wr];exact this
theorem Fi{ts:List (Int×Int)}(col:Int->Int):∀(k:Nat) (xs cs:List Int),cs.length=k->(∀x∈xs,col x∈cs)->xs.Pairwise (fun x y=>bh ts x y=true->col x≠col y)->lH ts xs<=(k:Int)
 |k,[],_,_,_,_=>by rw[Fg];exact Tg k
 |0,x::r,cs,hk,hc,_=>by
  have:cs=[]:=yea.mp hk
  subst this
  exact absurd (hc x cX) (by simp)
 |k+1,x::r,cs,hk,hc,hp=>by
  have hx:=hc x cX
  have hr:=Xl.mp hp
  have mp:x::r.filter (fun y=>decide (col y=col x))∈fparts ts (x::r):=by
   have:=Ce (st:=cH ts) r [[x]] [x] (r.filter fun y=>decide (col y=col x)) cX Jb (fun a b y e=>by
    unfold cH
    rw[RB,NP]
    intro o ho
    have my:y∈r.filter fun y=>decide (col y=col x):=by rw[e];simp
    have cy:=xT (fV.mp my).2
    have ry:=(fV.mp my).1
    intro t
    rcases iW.mp ho with z|z
    ·rw[fZ.mp z]at t
     exact hr.1 y ry t cy.symm
    ·have pf:(r.filter fun y=>decide (col y=col x)).Pairwise (fun x y=>bh ts x y=true->col x≠col y):=hr.2.filter _
     rw[e]at pf
     have:=(Oi.mp pf).2.2 o z y cX t
     have mo:o∈r.filter fun y=>decide (col y=col x):=by rw[e];exact Jc _ z
     exact this ((xT (fV.mp mo).2).trans cy.symm))
   exact this
  have l:=V4 (by simp) mp
  have ih:=Fi (ts:=ts) col k (wo (x::r) (x::r.filter fun y=>decide (col y=col x))) (cs.erase (col x)) (by rw[wew hx];omega) (fun y hy=>by
   obtain⟨m1,m2⟩:=sU.mp hy
   have ny:col y≠col x:=fun z=>m2 (by
    rcases cW.mp m1 with w|w
    ·rw[w];exact cX
    ·exact eE _ (fV.mpr ⟨w,gb z⟩))
   exact(List.mem_erase_of_ne ny).mpr (hc y m1)) (hp.sublist (lV _ _))
  have e:((k+1:Nat):Int)=(k:Int)+1:=by omega
  omega
def qp(s:List Int):PyData:= .tuple (s.map PyData.int)
theorem Ge(s:List Int):(qp s).canLay0=true:=IK s
theorem yD:∀ss:List (List Int),PyData.canLayAll0 (ss.map qp)=true
 |[]=>rfl
 |s::ss=>by
  show(PyData.canLay0 (qp s)&&PyData.canLayAll0 (ss.map qp))=true
  rw[yD ss,Ge];rfl
theorem Eb{H:Hp}:∀{its:List (Addr×List Int)},(∀p∈its,SqT K H p.1 (p.2.map V.int))->dI K H (its.map fun p=>V.ref p.1) ((its.map fun p=>p.2).map qp)
 |[],_=> .nil
 |p::its,h=> .cons (.tup (h p cX) (dI.ints _)) (Eb fun q hq=>h q (eE _ hq))
theorem bO.dv{H:Hp}{r:Addr}{ss:List (List Int)}(h:bO K H r ss):DV K H (.ref r) (.list (ss.map qp)):=by
 obtain⟨its,h1,h2,h3⟩:=h
 rw[<-h3]
 exact .lst (SqL.of h1) (Eb h2)
def rQ(T:Addr)(K:W.Frag):Sp:=fun vs H Q _=>∃(a:Addr) (ns:List Int),vs=[.ref a]/\lJ K H a ns/\ns.length<=63/\CQ H T/\∀H',Q (.bl true) H'
theorem Gb{T:Addr}{H:Hp}{a:Addr}{ns:List Int}(hl:ns.length<=63)(hO:Fq T H)(hS:SqL K H a (ns.map V.int)):rQ T K [.ref a] H (fun v _=>v= .bl true) fun _ _ _=>False:=by
 refine⟨a,ns,rfl,?_,hl,.inl hO.1,fun _=>rfl⟩
 have na:∀xs,H a≠some (.lst xs):=fun xs h=>by
  by_cases e:a=T
  ·rw[e,hO.1]at h;cases h
  ·rcases hO.2 a e with q|⟨o,ys,q⟩
   ·rw[q]at h;cases h
   ·rw[q]at h;cases h
 rcases hS with(h|⟨o,h⟩)|h
 ·exact absurd h (na _)
 ·exact .inl ⟨o,h⟩
 ·exact .inr h
theorem lJ.tbl{T bM:Addr}{H H':Hp}{ns:List Int}{tb:Array Value}(h:lJ K H bM ns)(e:aB T H H')(hn:H T=some (.tbl tb)):lJ K H' bM ns:=by
 rcases h with⟨o,h⟩|h
 ·exact .inl ⟨o,e _ _ (jd hn h fun _ z=>nomatch z) h⟩
 ·exact .inr h
theorem Ew{T tp:Addr}{H H':Hp}{zs:List V}(h:CQ H T)(e:aB tp H H')(ht:H tp=some (.lst zs)):CQ H' T:=by
 rcases h with h|⟨c',oc,vs,tq,h1,h2,h3,h4⟩
 ·exact .inl (e _ _ (fun z=>by rw[z,ht]at h;cases h) h)
 ·exact .inr ⟨c',oc,vs,tq,e _ _ (fun z=>by rw[z,ht]at h1;cases h1) h1,e _ _ (fun z=>by rw[z,ht]at h2;cases h2) h2,h3,h4⟩
theorem Q9{H:Hp}{a p:Addr}{ns:List Int}(hS:lJ K H a ns)(h63:ns.length<=63)(hp:H p=none):dZ K (upd H p (.lst [.ref a,.int 0,.int 0])) p a ns 0:=
 ⟨Jv hS h63 hp,0,0,aH,uE _⟩
theorem dZ.tbl{H H':Hp}{T tp bM:Addr}{ns:List Int}{b:Int}{tb:Array Value}(h:dZ K H tp bM ns b)(e:aB T H H')(hn:H T=some (.tbl tb)):dZ K H' tp bM ns b:=by
 obtain⟨⟨⟨i0,r0,h1,h2,h3⟩,h4,h5⟩,i,r,h6,h7⟩:=h
 have ne:tp≠T:=fun z=>by rw[z,hn]at h1;cases h1
 exact⟨⟨⟨i0,r0,e _ _ ne h1,h2,h3⟩,lJ.tbl h4 e hn,h5⟩,i,r,e _ _ ne h6,h7⟩
theorem bO.tbl{H H':Hp}{T l:Addr}{ss:List (List Int)}{tb:Array Value}(h:bO K H l ss)(e:aB T H H')(hn:H T=some (.tbl tb)):bO K H' l ss:=by
 obtain⟨its,h1,h2,h3⟩:=h
 exact⟨its,e _ _ (fun z=>by rw[z,hn]at h1;cases h1) h1,fun p hp=>yc e hn (h2 p hp),h3⟩
theorem T6{n:Int}{ts:List (Int×Int)}{t:Int×Int}(hp:bW n ts)(h:t∈ts):bh ts t.1 t.2=true:=by
 rw[tied_eq hp]
 unfold aY
 rw[gb h];rfl
theorem J7{ss:List (List Int)}:PyData.eqv (.list (ss.map qp)) (.list [])=decide (ss=[]):=by
 cases ss with
 |nil=>rfl
 |cons s ss=>rfl
end
theorem rO(f:Int->Nat)(g:Int->Int):∀{xs:List Int},(∀x∈xs,g x=((f x:Nat):Int))->(xs.map g).sum=(((xs.map f).sum:Nat):Int)
 |[],_=>rfl
 |x::xs,h=>by
  rw[qM,wfm,qM,wfm,rO f g fun y hy=>h y (eE _ hy),h x cX,wgk]
theorem yJ{ss:List (List Int)}{x:Int}(h:0<=x):vV ss x.toNat=((pN ss x:Nat):Int):=by
 unfold vV
 rw[show((x.toNat:Nat):Int)=x by omega]
theorem ZR{ts:List (Int×Int)}{xs s:List Int}(h:Ip ts xs s):s=[]\/s.length<=hl (aq ts xs):=by
 by_cases hx:xs=[]
 ·subst hx;exact .inl (Oe.mp h.sub)
 right
 rw[Ny hx]
 show s.length<=(best ts xs).length
 have:=(dW ts xs).top s h
 rcases Xx (best ts xs).length s.length with q|q
 ·rw[Nx.mpr (.inl q)]at this;cases this
 ·exact q
theorem Qv{n:Int}{ts:List (Int×Int)}(hp:bW n ts){xs:List Int}(h:iI ts false n.toNat xs):(xs.map fun x=>vV (aq ts (rng n.toNat)) x.toNat).sum<=((hN (hl (aq ts (rng n.toNat))):Nat):Int):=by
 rw[rO (pN (aq ts (rng n.toNat))) _ fun x hx=>yJ (h.lt x hx).1]
 have A:=SJ hp h
 have:=Ss _ (rng n.toNat) xs (aJ _) A
 have:(xs.map (pN (aq ts (rng n.toNat)))).sum<=hN (hl (aq ts (rng n.toNat))):=by
  rcases ZR A with e|e
  ·subst e;exact dJ _
  ·exact bZ this (q9 e)
 omega
theorem Ov{n:Nat}{ts:List (Int×Int)}(h:n<=10):(Sx.sm n fun p=>jD (lE n) p*vV (aq ts (rng n)) p)=2520*(((aq ts (rng n)).length:Nat):Int):=by
 have g:=LQ (ts:=ts) _ (rng n) (aJ _) (by rw[ig];exact h) (jQ n)
 have e1:=wz (n:=n) (X:=vV (aq ts (rng n))) (xs:=rng n) ((jQ n).imp fun{a b} h=>by omega) fun x hx=>xO.mp hx
 have e2:(Sx.sm n fun p=>jD (lE n) p*vV (aq ts (rng n)) p)=Sx.sm n fun p=>if decide (((p:Nat):Int)∈rng n)=true then vV (aq ts (rng n)) p else 0:=Sx.aW n fun p hp=>by
  rw[ao (gb (xO.mpr ⟨by omega,by omega⟩))]
  have:jD (lE n) p=1:=by
   unfold jD lE
   rw[jC,wfe,ao hp];rfl
  rw[this,Ie]
 rw[e2,<-e1,rO (pN (aq ts (rng n))) _ fun x hx=>yJ (xO.mp hx).1,g]
 omega
theorem MK{n:Nat}{ts:List (Int×Int)}{ss':List (List Int)}{wl:List Int}{ov ov':Nat}{Z':Int}{X Y' X':Nat->Int}(hx:∀p,0<=X p)(hl:∀xs,iI ts false n xs->(xs.map fun x=>X x.toNat).sum<=(ov:Int))(hS':fu ss' ts false n)(h':Sh n ss' wl ov' Z' Y' X'):(Sx.sm n fun p=>jD wl p*X p)*(ov':Int)<=Z'*(ov:Int):=by
 have lig:∀k,k<ss'.length->(Sx.sm n fun p=>if dY ss' k p=true then X p else 0)<=(ov:Int):=fun k hk=>by
  have hK:=vK hS' (I9 hk)
  have e:=hl _ hK
  rw[wz (n:=n) (hK.up.imp fun{a b} h=>by omega) hK.lt]at e
  have:∀p,dY ss' k p=decide (((p:Nat):Int)∈ss'[k]):=fun p=>by
   unfold dY
   rw[jC,gH hk];rfl
  simp only[this]
  exact e
 have a1:(Sx.sm n fun p=>jD wl p*X p)*(ov':Int)=Sx.sm n fun p=>(ov':Int)*(jD wl p*X p):=by rw[Sx.dB,Ii]
 have a2:(Sx.sm n fun p=>(ov':Int)*(jD wl p*X p))<=Sx.sm n fun p=>Sx.sm ss'.length fun k=>X p*(if dY ss' k p=true then Y' k else 0):=by
  refine J4 n fun p hp=> ?_
  rw[Sx.dB]
  have:=Tr (h'.eno p hp) (hx p)
  have x:(ov':Int)*(jD wl p*X p)=X p*((ov':Int)*jD wl p):=by grind
  rw[x];exact this
 have a3:=Sx.vJ (fun p k=>X p*(if dY ss' k p=true then Y' k else 0)) ss'.length n
 have a4:(Sx.sm ss'.length fun k=>Sx.sm n fun p=>X p*(if dY ss' k p=true then Y' k else 0))<=Sx.sm ss'.length fun k=>(ov:Int)*Y' k:=by
  refine J4 _ fun k hk=> ?_
  have e:(Sx.sm n fun p=>X p*(if dY ss' k p=true then Y' k else 0))=Sx.sm n fun p=>Y' k*(if dY ss' k p=true then X p else 0):=Sx.aW n fun p _=>by split<;>grind
  rw[e,Sx.dB]
  have:=Tr (lig k hk) (h'.yn k)
  rw[Ii (ov:Int)];exact this
 have a5:(Sx.sm ss'.length fun k=>(ov:Int)*Y' k)=Z'*(ov:Int):=by rw[Sx.dB,h'.tot,Ii]
 rw[a1]
 refine wgy a2 ?_
 rw[a3]
 refine wgy a4 ?_
 rw[a5]
 exact uE _
theorem Zx{n:Nat}{ts:List (Int×Int)}:lH ts (oN n)<=(((aq ts (rng n)).length:Nat):Int):=by
 refine Fi (fun x=>(hu (aq ts (rng n)) (aq ts (rng n)).length x).getD 0) _ (oN n) (rng (aq ts (rng n)).length) (ig _) (fun x hx=> ?_) ?_
 ·obtain⟨j,h1,h2,_⟩:=EY (ts:=ts) (n:=n) (p:=x) hx
  show(hu _ _ x).getD 0∈_
  rw[h1]
  exact xO.mpr ⟨Tg j,by show(j:Int)<_;omega⟩
 ·refine X4 (fun{a b} ha hb hab=> ?_) (jQ n)
  exact fun t=>zj hab ha hb t
theorem YM{n:Int}{ts:List (Int×Int)}(h0:0<=n)(hp:bW n ts):wF n ts (BX (aq ts (rng n.toNat)) n.toNat)=true:=by
 unfold wF
 have hlen:(BX (aq ts (rng n.toNat)) n.toNat).length=n.toNat:=by unfold BX;rw[aF,ig]
 have hget:∀x:Int,0<=x->x<n->(BX (aq ts (rng n.toNat)) n.toNat).getD x.toNat 0=(hu (aq ts (rng n.toNat)) (aq ts (rng n.toNat)).length x).getD 0:=fun x a b=>by
  unfold BX rng
  rw[jC,cg,cg,Ru (by omega)]
  show(hu _ _ ((x.toNat:Nat):Int)).getD 0=_
  rw[show((x.toNat:Nat):Int)=x by omega]
 rw[vD,vD]
 refine⟨gb (by omega),oM.mpr fun h hh=> ?_,oM.mpr fun t ht=> ?_⟩
 ·obtain⟨x,hx,rfl⟩:=iV.mp hh
  obtain⟨j,h1,_,_⟩:=EY (ts:=ts) hx
  rw[h1]
  exact gb (Tg j)
 ·have ht':=hp.lt t ht
  rw[hget _ (by omega) (by omega),hget _ (by omega) (by omega),RB,wcp]
  exact zj (by omega) (xO.mpr ⟨by omega,by omega⟩) (xO.mpr ⟨by omega,by omega⟩) (T6 hp ht)
section
variable{P:Program}{w:World}{K:W.Frag}{mg:Str->Option Value}{base:Heap}
theorem Qz{u h L w z1 ov Z z2:Int}(eU:u*h=2520*L*w)(eZ:z1*ov=Z*z2)(d:2520*L*ov<=Z*h)(hh:0<h)(ho:0<ov)(hw:0<=w)(hz:0<=z2):u*z2<=z1*w:=by
 have hc:0<h*ov:=FJ hh ho
 refine yet (a:=h*ov) ?_ hc
 have d1:=ydv d (Ai hw hz)
 have e1:u*z2*(h*ov)=2520*L*ov*(w*z2):=by
  calc u*z2*(h*ov)=(u*h)*(z2*ov):=by grind
   _=(2520*L*w)*(z2*ov):=by rw[eU]
   _=2520*L*ov*(w*z2):=by grind
 have e2:z1*w*(h*ov)=Z*h*(w*z2):=by
  calc z1*w*(h*ov)=(z1*ov)*(w*h):=by grind
   _=(Z*z2)*(w*h):=by rw[eZ]
   _=Z*h*(w*z2):=by grind
 rw[e1,e2];exact d1
theorem Qy{x h v L z1 ov Z z2 x' y':Int}(eX:x*2520=h*v)(eR:x'*(v*z2)=x*z1*y')(eZ:z1*ov=Z*z2)(d:2520*L*ov<=Z*h)(ho:0<ov)(hv:0<v)(hz:0<z2)(hy:0<=y'):L*y'<=x':=by
 have hc:0<v*z2*(2520*ov):=FJ (FJ hv hz) (by omega)
 refine yet (a:=v*z2*(2520*ov)) ?_ hc
 have d1:=ydv d (Ai hy (Ai (Ih hv) (Ih hz)))
 have e1:L*y'*(v*z2*(2520*ov))=2520*L*ov*(y'*(v*z2)):=by grind
 have e2:x'*(v*z2*(2520*ov))=Z*h*(y'*(v*z2)):=by
  calc x'*(v*z2*(2520*ov))=(x'*(v*z2))*(2520*ov):=by grind
   _=(x*z1*y')*(2520*ov):=by rw[eR]
   _=(x*2520)*(z1*ov)*y':=by grind
   _=(h*v)*(Z*z2)*y':=by rw[eX,eZ]
   _=Z*h*(y'*(v*z2)):=by grind
 rw[e1,e2];exact d1
theorem Vl{u h L w x y:Int}(eU:u*h=2520*L*w)(eP:x*(w*1000)=(u*1000+1*w)*y)(hh:0<h)(hw:0<w)(hy:0<y):¬x*h<=2520*L*y:=fun c=>by
 have d1:=ydv c (show 0<=w*1000 by omega)
 have e1:x*h*(w*1000)=u*h*(y*1000)+w*y*h:=by
  calc x*h*(w*1000)=(x*(w*1000))*h:=by grind
   _=((u*1000+1*w)*y)*h:=by rw[eP]
   _=u*h*(y*1000)+w*y*h:=by grind
 have e2:2520*L*y*(w*1000)=u*h*(y*1000):=by rw[eU];grind
 have:=FJ (FJ hw hy) hh
 omega
theorem YC{m len xN y v:Nat}{u:Int}(hm:0<m)(hx:((xN:Int),y)=aL ((hN m:Nat):Int) 2520)(h0:0<xN)(L:Low (((len:Nat):Int)*((y:Nat):Int)) xN u v):(u,v)=aL (2520*((len:Nat):Int)) (hN m):=by
 have hp:=sZ hm
 have l:=Ao ((hN m:Nat):Int) (show 0<2520 by decide)
 rw[<-hx]at l
 have e:=l.eq
 obtain⟨e1,e2⟩:=Et L (Ao (2520*((len:Nat):Int)) (show 0<hN m by omega)) h0 (by omega) (by
  show((len:Nat):Int)*((y:Nat):Int)*((hN m:Nat):Int)=2520*((len:Nat):Int)*((xN:Nat):Int)
  have e':((xN:Nat):Int)*2520=((hN m:Nat):Int)*((y:Nat):Int):=e
  grind)
 rw[e1,e2]
theorem Ut{j:Nat}{x:Int}{v w:Nat}{u:Int}(hj:j+1<=10)(hx:((x,v):Int×Nat)=aL ((hN j:Nat):Int) 2520)(L:Low (x*(((j+1:Nat):Nat):Int)+1*((v:Nat):Int)) (v*(j+1)) u w):((u,w):Int×Nat)=aL ((hN (j+1):Nat):Int) 2520:=by
 have l:=Ao ((hN j:Nat):Int) (show 0<2520 by decide)
 rw[<-hx]at l
 have:=Lj (D:=2520) (v:=j+1) (by decide) l (rC j) (MJ (rC j) hj) L
 rw[this]
 show aL (_+1*_) 2520=aL ((hN j+2520/(j+1):Nat):Int) 2520
 rw[Ie,wgk]
theorem Zw{m:Nat}{x:Int}{v:Nat}(h0:0<m)(h1:m<=10)(hx:((x,v):Int×Nat)=aL ((hN m:Nat):Int) 2520):0<v/\v<=2520/\0<x/\x<=7381:=by
 have l:=Ao ((hN m:Nat):Int) (show 0<2520 by decide)
 rw[<-hx]at l
 have a1:=l.pos
 have a2:v<=2520:=l.lv
 have a3:x.natAbs<=((hN m:Nat):Int).natAbs:=l.lu
 have a4:0<=x:=l.nn (by omega)
 have a5:=LK h1
 have a6:=sZ h0
 have e:x*2520=((hN m:Nat):Int)*((v:Nat):Int):=l.eq
 have:(0:Int)<((hN m:Nat):Int)*((v:Nat):Int):=FJ (by omega) (by omega)
 refine⟨a1,a2,by omega,by omega⟩
theorem fO:FnScope ["script","cup","k","web","sets","costs","most","part","worth","wants"] ["script"] (defScope nA):=fsc
theorem ok_law{T f f1 f2 f3 f4 f5 f6 f7 f8 f9 f10 f11 f12 f13 f14:Addr}{fd d1 d2 d3 d4 d5 d6 d7 d8 d9 d10 d11 d12 d13 d14:FuncData}(F:Fun K "law" "law" nA f fd)(D1:bJ K mg "_law_e_web" gW ["cup","most"] f1 d1)(G1:FnOk P w K mg base CX0 4 f1 d1 ["cup","most"] (JT K))(D2:bJ K mg "_law_e_dip" Wh ["cup","many"] f2 d2)(G2:FnOk P w K mg base CX0 2 f2 d2 ["cup","many"] (DN K))(D3:bJ K mg "_law_e_web_of" Xb ["cup","n"] f3 d3)(G3:FnOk P w K mg base CX0 3 f3 d3 ["cup","n"] (vH K))(D4:bJ K mg "greedy" nG ["web"] f4 d4)(G4:FnOk P w K mg base CX0 12 f4 d4 ["web"] (yt K))(D5:bJ K mg "plus" vR ["one","other"] f5 d5)(G5:FnOk P w K mg base CX0 3 f5 d5 ["one","other"] (JL K))(D6:bJ K mg "lowest" Nv ["a","b"] f6 d6)(G6:FnOk P w K mg base CX0 2 f6 d6 ["a","b"] (ql K))(D7:bJ K mg "are_prices" gk ["web","wants","prices","number"] f7 d7)(G7:FnOk P w K mg base CX0 9 f7 d7 ["web","wants","prices","number"] (qm K))(D8:bJ K mg "is_less" gF ["one","other"] f8 d8)(G8:FnOk P w K mg base CX0 1 f8 d8 ["one","other"] (vI K))(D9:bJ K mg "times" qT ["one","other"] f9 d9)(G9:FnOk P w K mg base CX0 3 f9 d9 ["one","other"] (Dv K))(D10:bJ K mg "value" qR ["web"] f10 d10)(G10:FnOk P w K mg base CX0 10 f10 d10 ["web"] (Du K))(D11:bJ K mg "are_hues" jk ["web","hues"] f11 d11)(G11:FnOk P w K mg base CX0 8 f11 d11 ["web","hues"] (JW K))(D12:bJ K mg "_law_e_hues_by" zcw ["web","sets"] f12 d12)(G12:FnOk P w K mg base CX0 1 f12 d12 ["web","sets"] (RV K))(D13:bJ K mg "fewest" nH ["web"] f13 d13)(G13:FnOk P w K mg base CX0 8 f13 d13 ["web"] (RT K T))(D14:bJ K mg "_law_e_full_in_turn" zbf ["web","sets"] f14 d14)(G14:FnOk P w K mg base CX0 9 f14 d14 ["web","sets"] (JR K))(aG:mg "range"=none)(bw:mg "len"=none):
  FnOk P w K mg base CX0 13 f fd ["script"] (rQ T K):=by
 refine F.ok fO (fun vs H Q E h=> ?_) (fun cdv A outer s H vs Q E hr h=> ?_)
 ·obtain⟨a,ns,rfl,_⟩:=h
  rfl
 obtain⟨a,ns,rfl,hS,h63,hL,q⟩:=h
 refine⟨_,(aO (cV (i:=1) fO.nd rfl (Or.inl rfl) (pe_lst (aj (pv 0) (aj aK (aj aK au))))) (aO (xM tX rfl (Ia rfl aG (aj aK au)) (cY (i:=2) fO.nd rfl (Or.inl rfl)) (aO (mY (PW.pt (pw_and (kj op_gt (pv 2) aK (nomark _)) (pw_and1 (kj op_ge (bB jJ (pv 1) aK (fun _ _=>rfl)) (fM qd rfl bw oU (aj (pv 0) au)) (nomark _))))) (aX ps_break) oJ) (aO (cV (i:=3) fO.nd rfl (Or.inl rfl) (pc G1 hr D1 (aj (pv 1) (aj aK au)))) (aO (mY (PW.pt (pw_and (kj op_eq (pv 2) aK (nomark _)) (pw_and1 (kj op_eq (pc G2 hr D2 (aj (pv 1) (aj aK au))) aK (nomark _))))) (aX (cV (i:=3) fO.nd rfl (Or.inl rfl) (pc G3 hr D3 (aj (pv 1) (aj (bN qy aK (pc G2 hr D2 (aj (pv 1) (aj aK au)))) au))))) oJ) (aO (ps_asg (pc G4 hr D4 (aj (pv 3) au)) (pg_tup rfl (tV (cY (i:=4) fO.nd rfl (Or.inl rfl)) (tV (cY (i:=5) fO.nd rfl (Or.inl rfl)) pgs_nil)))) (aO (cV (i:=6) fO.nd rfl (Or.inl rfl) (oG (aj aK (aj aK au)))) (aO (mY (kj (Uy hr.units) (pv 4) (pe_lst au) (nomark _)) (aX (xM tX rfl (pi_range2 rfl aG (aj aK (aj (bN qy (fM qd rfl bw oU (aj (bB jJ (pv 4) aK (fun _ _=>rfl)) au)) aK) au))) (cY (i:=7) fO.nd rfl (Or.inl rfl)) (aX (cV (i:=6) fO.nd rfl (Or.inl rfl) (pc G5 hr D5 (aj (pv 6) (aj (oG (aj aK (aj (pv 7) au))) au))))))) oJ) (aO (cV (i:=8) fO.nd rfl (Or.inl rfl) (pc G6 hr D6 (aj (bN p8 (fM qd rfl bw oU (aj (pv 4) au)) (bB gQ (pv 6) aK (fun _ _=>rfl))) (aj (bB gQ (pv 6) aK (fun _ _=>rfl)) au)))) (aO (cV (i:=9) fO.nd rfl (Or.inl rfl) (bN Em (oG (aj aK au)) (bB gQ (pv 3) aK (fun _ _=>rfl)))) (aO (mY (kj o8 (pc G7 hr D7 (aj (pv 3) (aj (pv 9) (aj (pv 5) (aj (pv 8) au))))) pe_bl (nomark _)) (aX (cF pe_bl)) oJ) (aO (mY (kj o8 (pc G7 hr D7 (aj (pv 3) (aj (pv 9) (aj (pv 5) (aj (pc G5 hr D5 (aj (pv 8) (aj (oG (aj aK (aj aK au))) au))) au))))) pe_bl (nomark _)) (aX (cF pe_bl)) oJ) (aO (mY (PW.pt (pw_or (uD (pc G8 hr D8 (aj (pc G10 hr D10 (aj (pv 3) au)) (aj (pv 8) au)))) (pw_or1 (uD (pc G8 hr D8 (aj (pc G9 hr D9 (aj (pv 6) (aj (pc G10 hr D10 (aj (pv 3) au)) au))) (aj (oG (aj (fM qd rfl bw oU (aj (pv 4) au)) (aj aK au))) au))))))) (aX (cF pe_bl)) oJ) (aO (mY (PW.pt (pw_or (kj op_gt (bB gQ (pc G13 hr D13 (aj (pv 3) au)) aK (fun _ _=>rfl)) (fM qd rfl bw oU (aj (pv 4) au)) (nomark _)) (pw_or1 (kj o8 (pc G11 hr D11 (aj (pv 3) (aj (pc G12 hr D12 (aj (pv 3) (aj (pv 4) au))) au))) pe_bl (nomark _))))) (aX (cF pe_bl)) oJ) (aX (mY (pt_not (uD (pc G14 hr D14 (aj (pv 3) (aj (pv 4) au))))) (aX (cF pe_bl)) oJ))))))))))))))) (aX (cF pe_bl)))),?_⟩
 refine⟨_,rfl,(by show 3<=sizeLine;decide),fun cp hcp=> ?_⟩
 have c0:=Q9 hS h63 hcp
 have hL0:=hL.same (aV hcp (.lst [.ref a,.int 0,.int 0]))
 dsimp only
 refine Kd (fun _ _=>True) (fun N hN=> ?_) (fun σ' H' _=>q H')
 refine⟨3,rfl,by decide,by decide,?_⟩
 refine for_range (n:=3) (fun k σ H'=>dZ K H' cp a ns (1000*(k:Int))/\CQ H' T/\∃b2 b3 b4 b5 b6 b7 b8 b9,σ=[some (.ref a),some (.ref cp),b2,b3,b4,b5,b6,b7,b8,b9]) ⟨c0.mono (by omega),hL0,_,_,_,_,_,_,_,_,rfl⟩ (fun k σ H' hk p=> ?_) (fun σ H' p=>hN _ _ trivial)
 obtain⟨c,hL1,b2,b3,b4,b5,b6,b7,b8,b9,rfl⟩:=p
 refine Ju (K:=K) (r:=[b3,b4,b5,b6,b7,b8,b9]) c.tv (fun b=> ?_)
 cases b with
 |true=>exact hN _ _ trivial
 |false=>
  refine iteF ?_
  dsimp only[tNext]
  obtain⟨z1,hz1⟩:=c.lst
  refine gR (fun σ' H'=>∃(wb:Addr) (n:Int) (ts:List (Int×Int)),σ'=[some (.ref a),some (.ref cp),some (.int (0+(k:Int))),some (.ref wb),b4,b5,b6,b7,b8,b9]/\dZ K H' cp a ns (1000*(k:Int)+121)/\CQ H' T/\bA K H' wb n ts) (fun N hN=> ?_) ?_
  ·exact⟨_,rfl,cp,a,ns,6,_,rfl,c,by omega,by decide,by decide,fun wb n ts H2 x2 c2 hW=>hN _ _ ⟨wb,n,ts,rfl,c2,Ew hL1 x2 hz1,hW⟩⟩
  rintro σ' H2 ⟨wb,n,ts,rfl,c2,hL2,hW⟩
  try dsimp only
  refine gR (fun σ' H'=>∃(wb:Addr) (n:Int) (ts:List (Int×Int)),σ'=[some (.ref a),some (.ref cp),some (.int (0+(k:Int))),some (.ref wb),b4,b5,b6,b7,b8,b9]/\dZ K H' cp a ns (1000*(k:Int)+500)/\CQ H' T/\bA K H' wb n ts) (fun N hN=> ?_) ?_
  ·refine⟨_,rfl,rfl,_,rfl,?_⟩
   refine ite2 (fun e=> ?_) (fun e=>hN _ _ ⟨wb,n,ts,rfl,c2.mono (by omega),hL2,hW⟩)
   obtain⟨z2,hz2⟩:=c2.lst
   refine⟨_,rfl,cp,a,ns,6,_,rfl,c2,by omega,by decide,by decide,fun d H3 d0 d1 x3 c3=>⟨rfl,_,rfl,?_⟩⟩
   obtain⟨z3,hz3⟩:=c3.lst
   have Sq:=Ew hL2 x3 hz2
   refine ite2 (fun e2=> ?_) (fun e2=>hN _ _ ⟨wb,n,ts,rfl,c3.mono (by omega),Sq,hW.m9 x3 hz2⟩)
   refine⟨_,rfl,_,rfl,cp,a,ns,2,_,rfl,c3,by omega,by decide,by decide,fun u H4 u0 u1 x4 c4=> ?_⟩
   obtain⟨z4,hz4⟩:=c4.lst
   exact⟨_,_,rfl,rfl,cp,a,ns,7+u,_,rfl,c4,by omega,by omega,by omega,fun wb' ts' H5 x5 c5 hW5=>hN _ _ ⟨wb',_,ts',rfl,c5.mono (by omega),Ew (Ew Sq x4 hz3) x5 hz4,hW5⟩⟩
  clear hW c2 hL2 ts n wb
  rintro σ' H3 ⟨wb,n,ts,rfl,c3,Sq,hW⟩
  try dsimp only
  have h0:=hW.h0
  have h10:=hW.h1
  refine gR (fun σ' H'=>∃(l1 l2:Addr) (aM:List V),σ'=[some (.ref a),some (.ref cp),some (.int (0+(k:Int))),some (.ref wb),some (.ref l1),some (.ref l2),b6,b7,b8,b9]/\Same H3 H'/\bO K H' l1 (aq ts (rng n.toNat))/\H' l2=some (.lst aM)/\dh K H' aM (fW n.toNat (Hs.hN (hl (aq ts (rng n.toNat)))) (vV (aq ts (rng n.toNat))))) (fun N hN=> ?_) ?_
  ·exact⟨_,rfl,wb,n,ts,rfl,hW,fun r l1 l2 aM H4 s4 hr4 S4 L4 P4 _ _ _=>⟨r,_,rfl,hr4,rfl,_,_,rfl,_,_,rfl,rfl,hN _ _ ⟨l1,l2,aM,rfl,s4,S4,L4,P4⟩⟩⟩
  rintro σ' H4 ⟨l1,l2,aM,rfl,s4,S4,L4,P4⟩
  try dsimp only
  have hok:=tE (ts:=ts) h10
  have li:= @Qv n ts hW.pk
  have to:=Ov (ts:=ts) (n:=n.toNat) (by omega)
  have fl:=Zx (ts:=ts) (n:=n.toNat)
  have hu':=YM (ts:=ts) h0 hW.pk
  generalize hss:aq ts (rng n.toNat)=ss at *
  obtain⟨m0,m1⟩:=hok.hl
  have hlen:=hok.le
  have hmp:=sZ m0
  have hml:=LK m1
  refine gR (fun σ' H'=>∃(mo:Addr),σ'=[some (.ref a),some (.ref cp),some (.int (0+(k:Int))),some (.ref wb),some (.ref l1),some (.ref l2),some (.ref mo),b7,b8,b9]/\Same H4 H'/\H' mo=some (.tup [.int 1,.int 1])) (fun N hN=> ?_) ?_
  ·exact⟨(by show 2<=sizeLine;decide),fun mo hmo=>hN _ _ ⟨mo,rfl,aV hmo _,aH⟩⟩
  rintro σ' H5 ⟨mo,rfl,s5,hmo⟩
  try dsimp only
  refine gR (fun σ' H'=>∃(mo:Addr) (x:Int) (v:Nat) (b7:Option V),σ'=[some (.ref a),some (.ref cp),some (.int (0+(k:Int))),some (.ref wb),some (.ref l1),some (.ref l2),some (.ref mo),b7,b8,b9]/\Same H4 H'/\H' mo=some (.tup [.int x,.int ((v:Nat):Int)])/\((x,v):Int×Nat)=aL ((Hs.hN (hl ss):Nat):Int) 2520) (fun N hN=> ?_) ?_
  ·refine⟨_,rfl,(by show 0<=sizeLine;decide),fun e0 he0=> ?_⟩
   have s6:=aV he0 (.lst [])
   have he6:(upd H5 e0 (.lst [])) e0=some (.lst []):=aH
   generalize (upd H5 e0 (.lst []))=H6 at *
   have S6:=S4.same (s5.trans s6)
   refine⟨.list (ss.map qp),.list [],S6.dv,.lst (SqL.of he6) .nil,yD ss,rfl,?_,_,rfl,?_⟩
   ·exact bZ (Nat.min_le_right _ _) (by decide)
   rw[J7]
   obtain⟨its,i1,i2,i3⟩:=id S6
   cases its with
   |nil=>
    have:ss=[]:=by rw[<-i3];rfl
    refine ite2 (fun c=> ?_) (fun c=>hN _ _ ⟨mo,1,1,b7,rfl,s5.trans s6,s6 _ _ hmo,?_⟩)
    ·rw[this]at c;cases c
    ·rw[this];rfl
   |cons p0 tl=>
    have hs0:hl ss=p0.2.length:=by rw[<-i3];rfl
    have hne:decide (ss=[])=false:=iY (by rw[<-i3];exact List.cons_ne_nil _ _)
    rw[hne]
    refine iteT ?_
    refine⟨_,rfl,l1,_,_,.ref p0.1,rfl,rfl,SqL.of i1,atI_nat (j:=0) rfl,p0.1,_,rfl,.inr (i2 p0 (cX ..)),fun _=> ?_⟩
    rw[aF,<-hs0]
    refine⟨_,_,rfl,rfl,_,_,rfl,⟨by omega,by omega,by omega,by omega⟩,?_⟩
    refine for_range (n:=(((hl ss:Nat):Int)+1-2).toNat) (fun i σ H'=>∃(mo:Addr) (x:Int) (v:Nat) (b7:Option V),σ=[some (.ref a),some (.ref cp),some (.int (0+(k:Int))),some (.ref wb),some (.ref l1),some (.ref l2),some (.ref mo),b7,b8,b9]/\Same H4 H'/\H' mo=some (.tup [.int x,.int ((v:Nat):Int)])/\((x,v):Int×Nat)=aL ((Hs.hN (i+1):Nat):Int) 2520) ⟨mo,1,1,b7,rfl,s5.trans s6,s6 _ _ hmo,rfl⟩ (fun i σ H7 hi p=> ?_) (fun σ H7 p=> ?_)
    ·obtain⟨mo,x,v,b7,rfl,s7,hm7,ex⟩:=p
     obtain⟨f1,f2,f3,f4⟩:=Zw (rC i) (by omega) ex
     refine⟨_,rfl,_,rfl,(by show 2<=sizeLine;decide),fun t ht=> ?_⟩
     have s8:=aV ht (.tup [.int 1,.int (2+(i:Int))])
     have e8:(upd H7 t (.tup [.int 1,.int (2+(i:Int))])) t=some (.tup [.int 1,.int ((i+1+1:Nat):Int)]):=by
      rw[aH,show((i+1+1:Nat):Int)=2+(i:Int) by omega]
     generalize (upd H7 t (.tup [.int 1,.int (2+(i:Int))]))=H8 at *
     refine⟨mo,t,x,1,v,i+1+1,rfl,⟨SqT.of (s8 _ _ hm7),f1,bZ (show x.natAbs<=7381 by omega) (by decide+kernel),bZ f2 (by decide+kernel)⟩,⟨SqT.of e8,by omega,by decide+kernel,bZ (show i+1+1<=10 by omega) (by decide+kernel)⟩,fun r H9 x' y' s9 h9 Lw=> ?_⟩
     exact⟨r,x',y',_,rfl,s7.trans (s8.trans s9),h9,Ut (by omega) ex Lw⟩
    ·obtain⟨mo,x,v,b7,rfl,s7,hm7,ex⟩:=p
     refine hN _ _ ⟨mo,x,v,b7,rfl,s7,hm7,?_⟩
     rw[ex,show(((hl ss:Nat):Int)+1-2).toNat+1=hl ss by omega]
  clear hmo s5 H5 mo
  rintro σ' H5 ⟨mo,x,v,b7,rfl,s5,hmo,ex⟩
  try dsimp only
  obtain⟨f1,f2,f3,f4⟩:=Zw m0 m1 ex
  obtain⟨xN,rfl⟩:∃xN:Nat,x=(xN:Int):=⟨x.toNat,by omega⟩
  obtain⟨its,i1,i2,i3⟩:=id S4
  have il:(its.map fun p=>V.ref p.1).length=ss.length:=by rw[aF,<-i3,aF]
  refine gR (fun σ' H'=>∃(wo:Addr),σ'=[some (.ref a),some (.ref cp),some (.int (0+(k:Int))),some (.ref wb),some (.ref l1),some (.ref l2),some (.ref mo),b7,some (.ref wo),b9]/\Same H5 H'/\HN K H' wo (aL (2520*((ss.length:Nat):Int)) (Hs.hN (hl ss)))) (fun N hN=> ?_) ?_
  ·refine⟨_,rfl,l1,_,rfl,.inl (SqL.of (s5 _ _ i1)),fun _=>⟨_,rfl,mo,_,_,.int ((v:Nat):Int),rfl,rfl,SqT.of hmo,rfl,_,_,rfl,rfl,.inr ⟨by omega,by omega⟩,_,rfl,mo,_,_,.int ((xN:Nat):Int),rfl,rfl,SqT.of hmo,rfl,?_⟩⟩
   refine⟨_,xN,rfl,by omega,bZ (show xN<=7381 by omega) (by decide+kernel),fun wo H6 u w s6 h6 L=>hN _ _ ⟨wo,rfl,s6,?_⟩⟩
   rw[il]at L
   rw[<-YC m0 ex (by omega) L]
   exact SqT.of h6
  rintro σ' H6 ⟨wo,rfl,s6,hwo⟩
  try dsimp only
  have e6:(Hs.hN (hl ss))=(Hs.hN (hl ss)):=rfl
  obtain⟨tt6,rr6,w61,w62,w63⟩:=id (hW.same (s4.trans (s5.trans s6))).web
  refine gR (fun σ' H'=>∃(wa:Addr),σ'=[some (.ref a),some (.ref cp),some (.int (0+(k:Int))),some (.ref wb),some (.ref l1),some (.ref l2),some (.ref mo),b7,some (.ref wo),some (.ref wa)]/\Same H6 H'/\SqT K H' wa ((lE n.toNat).map V.int)) (fun N hN=> ?_) ?_
  ·refine⟨(by show 1<=sizeLine;decide),fun p1 hp1=> ?_⟩
   have s2:=aV hp1 (.tup [.int 1])
   refine⟨_,rfl,wb,_,_,.int n,rfl,rfl,s2.tup w61,rfl,p1,n,_,rfl,rfl,SqT.of aH,(fun e=>nomatch e),by omega,by omega,?_,fun wa H7 s7 h7=>hN _ _ ⟨wa,rfl,s2.trans s7,?_⟩⟩
   ·show 1*n.toNat<=1000
    omega
   have ew:(List.replicate n.toNat [V.int 1]).flatten=(lE n.toNat).map V.int:=by
    unfold lE
    generalize n.toNat=k
    induction k with
    |zero=>rfl
    |succ k ih=>rw[FQ,Ja,ih,FQ];rfl
   rw[ew]at h7
   exact h7
  rintro σ' H7 ⟨wa,rfl,s7,hwa⟩
  try dsimp only
  have hwl:xr n (lE n.toNat):=⟨by unfold lE;rw[Tn];omega,fun x hx=>by rw[(yex.mp hx).2];decide⟩
  have N8:=Ao (2520*((ss.length:Nat):Int)) (show 0<Hs.hN (hl ss) by omega)
  generalize aL (2520*((ss.length:Nat):Int)) (Hs.hN (hl ss))=fw at *
  obtain⟨u,w9⟩:=fw
  have eU:u*((Hs.hN (hl ss):Nat):Int)=2520*((ss.length:Nat):Int)*((w9:Nat):Int):=N8.eq
  have w0:0<w9:=N8.pos
  have wl:w9<=Hs.hN (hl ss):=N8.lv
  have ul:u.natAbs<=(2520*((ss.length:Nat):Int)).natAbs:=N8.lu
  have Ul:=s5.trans (s6.trans s7)
  have Y5:=hW.same (s4.trans Ul)
  have S7:=S4.same Ul
  have L7:=Ul _ _ L4
  have P7:=dh.same P4 Ul
  have wo7:HN K H7 wo (u,w9):=s7.tup hwo
  have mo7:=s7 _ _ (s6 _ _ hmo)
  have hL7:=Sq.same (s4.trans Ul)
  have c7:=c3.same (s4.trans Ul)
  refine⟨_,rfl,_,rfl,_,rfl,_,rfl,wb,wa,l2,wo,n,ts,lE n.toNat,aM,Hs.hN (hl ss),vV ss,u,w9,rfl,Y5,hwa,hwl,SqL.of L7,P7,wo7,by omega,by omega,by omega,fun p=>Tg _,@li,fun H8 s8=>⟨_,_,rfl,rfl,_,rfl,?_⟩⟩
  rw[to,gb (by omega)]
  refine iteF ?_
  have wo8:HN K H8 wo (u,w9):=s8.tup wo7
  refine⟨_,rfl,_,rfl,_,rfl,_,rfl,(by show 2<=sizeLine;decide),fun t ht=> ?_⟩
  have s9:=aV ht (.tup [.int 1,.int 1000])
  have e9:(upd H8 t (.tup [.int 1,.int 1000])) t=some (.tup [.int 1,.int ((1000:Nat):Int)]):=aH
  generalize (upd H8 t (.tup [.int 1,.int 1000]))=H9 at *
  refine⟨wo,t,u,1,w9,1000,rfl,⟨s9.tup wo8,w0,bZ (show u.natAbs<=25200 by omega) (by decide+kernel),bZ (show w9<=7381 by omega) (by decide+kernel)⟩,⟨SqT.of e9,by decide,by decide+kernel,by decide+kernel⟩,fun r H10 x' y' s10 Vz Lw=> ?_⟩
  have Yb:=s8.trans (s9.trans s10)
  have yl:y'<=w9*1000:=Lw.lv
  have y0:0<y':=Lw.pos
  have eP:x'*(((w9:Nat):Int)*1000)=(u*1000+1*((w9:Nat):Int))*((y':Nat):Int):=by
   have:=Lw.eq
   rw[Tf]at this
   exact this
  refine⟨wb,wa,l2,r,n,ts,lE n.toNat,aM,Hs.hN (hl ss),vV ss,x',y',rfl,Y5.same Yb,Yb.tup hwa,hwl,SqL.of (Yb _ _ L7),dh.same P7 Yb,SqT.of Vz,by omega,by omega,by omega,fun p=>Tg _,@li,fun H11 s11=>⟨_,_,rfl,rfl,_,rfl,?_⟩⟩
  rw[to,iY (Vl eU eP (by omega) (by omega) (by omega))]
  refine iteF ?_
  have Ye:=Yb.trans s11
  have aaB:=Y5.same Ye
  -- the value is no less
  refine⟨_,rfl,wb,n,ts,rfl,aaB,fun va ss' ov Z Y X H12 s12 hva jA hSh=> ?_⟩
  have Uj:=Ye.trans s12
  have lz:=Ao Z hSh.pos
  have WQ:=hSh.big
  have xV:=hSh.pos
  have dl:2520*((ss.length:Nat):Int)*((ov:Nat):Int)<=Z*((Hs.hN (hl ss):Nat):Int):=by
   have:=MK (X:=vV ss) (ov:=Hs.hN (hl ss)) (fun p=>Tg _) @li jA hSh
   rw[to]at this;exact this
  generalize aL Z ov=fz at *
  obtain⟨z1,z2⟩:=fz
  have eZ:z1*((ov:Nat):Int)=Z*((z2:Nat):Int):=lz.eq
  have z20:0<z2:=lz.pos
  have z2l:z2<=ov:=lz.lv
  refine⟨_,rfl,va,wo,z1,u,z2,w9,rfl,hva,Uj.tup wo7,iG (by omega) _,iG (by omega) _,_,rfl,?_⟩
  rw[iY (by have:=Qz eU eZ dl (by omega) (by omega) (by omega) (by omega);omega)]
  refine iteF ?_
  refine⟨_,rfl,_,rfl,wb,n,ts,rfl,Y5.same Uj,fun va2 ss2 ov2 Z2 Y2 X2 H13 xU aav Vw QK=> ?_⟩
  have Yd:=Uj.trans xU
  clear dl eZ z20 z2l lz hva z1 z2 WQ xV hSh jA
  have lz:=Ao Z2 QK.pos
  have WQ:=QK.big
  have xV:=QK.pos
  have dl:2520*((ss.length:Nat):Int)*((ov2:Nat):Int)<=Z2*((Hs.hN (hl ss):Nat):Int):=by
   have:=MK (X:=vV ss) (ov:=Hs.hN (hl ss)) (fun p=>Tg _) @li Vw QK
   rw[to]at this;exact this
  generalize aL Z2 ov2=fz at *
  obtain⟨z1,z2⟩:=fz
  have eZ:z1*((ov2:Nat):Int)=Z2*((z2:Nat):Int):=lz.eq
  have z20:0<z2:=lz.pos
  have z2l:z2<=ov2:=lz.lv
  have vz:v*z2<=2520*39916800:=wgq f2 (by omega)
  refine⟨mo,va2,((xN:Nat):Int),z1,v,z2,rfl,SqT.of (Yd _ _ mo7),aav,.inl ⟨by omega,by omega⟩,iG (by omega) _,Xw f1 z20,bZ vz (by decide+kernel),fun r H14 x'' y'' Pr h14 Lw2=> ?_⟩
  have Yc:=Yd.trans Pr
  have yl2:y''<=v*z2:=Lw2.lv
  refine⟨_,rfl,l1,_,rfl,.inl (SqL.of ((Ul.trans Yc) _ _ i1)),fun _=>⟨(by show 2<=sizeLine;decide),fun t2 ht2=> ?_⟩⟩
  rw[il]
  have Pq:=aV ht2 (.tup [.int ((ss.length:Nat):Int),.int 1])
  have e15:(upd H14 t2 (.tup [.int ((ss.length:Nat):Int),.int 1])) t2=some (.tup [.int ((ss.length:Nat):Int),.int ((1:Nat):Int)]):=aH
  generalize (upd H14 t2 (.tup [.int ((ss.length:Nat):Int),.int 1]))=H15 at *
  have Pn:=Yc.trans Pq
  have eX:((xN:Nat):Int)*2520=((Hs.hN (hl ss):Nat):Int)*((v:Nat):Int):=by
   have l:=Ao ((Hs.hN (hl ss):Nat):Int) (show 0<2520 by decide)
   rw[<-ex]at l
   exact l.eq
  have eR:x''*(((v:Nat):Int)*((z2:Nat):Int))=((xN:Nat):Int)*z1*((y'':Nat):Int):=by
   have:=Lw2.eq
   rw[Tf]at this
   exact this
  refine⟨r,t2,x'',((ss.length:Nat):Int),y'',1,rfl,SqT.of (Pq _ _ h14),SqT.of e15,iG (by decide) _,.inl ⟨by omega,by omega⟩,_,rfl,?_⟩
  rw[iY (by have:=Qy eX eR eZ dl (by omega) (by omega) (by omega) (by omega);omega)]
  refine iteF ?_
  -- the fewest hues
  have Za:=hL7.same Pn
  obtain⟨aaN,Vr⟩:=Za.at
  have S15:=S7.same Pn
  have Y6:=Y5.same Pn
  refine⟨_,rfl,wb,n,ts,rfl,Y6,Za,fun fr hh d hs H16 x16 aaC er eh aaR ed nd=> ?_⟩
  have Vv:=Y6.tbl x16 Vr
  have S16:=S15.tbl x16 Vr
  obtain⟨jts,j1,j2,j3⟩:=id S16
  have jl:(jts.map fun p=>V.ref p.1).length=ss.length:=by rw[aF,<-j3,aF]
  refine⟨fr,_,_,.int (lH ts (oN n.toNat)),rfl,rfl,SqT.of er,rfl,_,rfl,l1,_,rfl,.inl (SqL.of j1),fun _=>⟨_,_,rfl,rfl,_,rfl,?_⟩⟩
  rw[jl,iY (by omega)]
  refine iteF ?_
  refine⟨_,rfl,_,rfl,_,rfl,wb,l1,n,ts,ss,rfl,Vv,S16,hok,fun hl' H17 s17 hhl=>⟨wb,hl',n,ts,BX ss n.toNat,rfl,Vv.same s17,hhl,fun H18 s18=>⟨_,_,rfl,rfl,_,rfl,?_⟩⟩⟩
  rw[hu']
  refine iteF ?_
  have Kv:=s17.trans s18
  refine⟨_,rfl,_,rfl,wb,l1,n,ts,rfl,Vv.same Kv,by rw[hss];exact S16.same Kv,fun H19 s19=>⟨_,rfl,?_⟩⟩
  refine iteF ?_
  have RZ:=Kv.trans s19
  have c15:=c7.same Pn
  exact⟨((Hs.dZ.tbl c15 x16 Vr).same RZ).mono (by omega),aaC.same RZ,_,_,_,_,_,_,_,_,rfl⟩
end
end Hs
namespace L2
open PySem
section
variable{K:W.Frag}{x y:Str}{st:Stmt}{f C:Addr}{fd:FuncData}{oc:Value}{od an:Option Addr}{osl:Array (Option Value)}{kV doc pm cdv ct:Value}{mg:Str->Option Value}{h:Heap}
def DA(K:W.Frag)(x:Str)(st:Stmt)(f:Addr):Prop:=∃fd,Fun K x x st f fd/\PySem.W.nsIn K mainGlobals x=some (some (.ref f))
theorem DA.of(a:PySem.W.nsIn K mainGlobals x=some (some (.ref f)):=by k_is)(l:K.lookup f=some ⟨oc,od,.func (PySem.W.fnOf x x (defArgs st) (defBody st) (defScope st) .none kV doc pm an cdv ct),osl⟩:=by k_is)(c:PySem.W.codeIn K cdv x=true:=by k_is)(k:PySem.W.keepIn K (.ref f)=true:=by k_is):DA K x st f:=⟨_,fun_mk l c k,a⟩
def MA(K:W.Frag)(C:Addr)(x y:Str)(st:Stmt)(f:Addr):Prop:=∃fd,Fun K x y st f fd/\PySem.W.findIn K (.ref C) x=some (some (.ref f))/\PySem.W.isFn K (.ref f)=true/\PySem.W.keepIn K (.ref f)=true
theorem MA.of(a:PySem.W.findIn K (.ref C) x=some (some (.ref f)):=by k_is)(l:K.lookup f=some ⟨oc,od,.func (PySem.W.fnOf x y (defArgs st) (defBody st) (defScope st) .none kV doc pm an cdv ct),osl⟩:=by k_is)(c:PySem.W.codeIn K cdv y=true:=by k_is)(k:PySem.W.keepIn K (.ref f)=true:=by k_is)(i:PySem.W.isFn K (.ref f)=true:=by k_is):MA K C x y st f:=⟨_,fun_mk l c k,a,i,k⟩
theorem DA.d{ps:List Str}(X:K.In h)(G:h.Ns mainGlobals mg)(F:Fun K x x st f fd)(a:PySem.W.nsIn K mainGlobals x=some (some (.ref f)))(b:∀(kV doc pm:Value) (an:Option Addr) (cdv ct:Value) (us:List Value),us.length=ps.length->bindArgs (PySem.W.fnOf x x (defArgs st) (defBody st) (defScope st) .none kV doc pm an cdv ct) ⟨us,[]⟩=pure (ps.zip us)):bJ K mg x st ps f fd:=⟨F,F.binds b,PySem.W.mg_of X G a⟩
theorem MA.d{ps:List Str}(F:Fun K x y st f fd)(a:PySem.W.findIn K (.ref C) x=some (some (.ref f))/\PySem.W.isFn K (.ref f)=true/\PySem.W.keepIn K (.ref f)=true)(b:∀(kV doc pm:Value) (an:Option Addr) (cdv ct:Value) (us:List Value),us.length=ps.length->bindArgs (PySem.W.fnOf x y (defArgs st) (defBody st) (defScope st) .none kV doc pm an cdv ct) ⟨us,[]⟩=pure (ps.zip us)):HJ K C x y st ps f fd:=⟨F,F.binds b,⟨a.1,a.2.1,a.2.2⟩⟩
theorem w6{p1:Str}{P:List Value->Prop}(h:∀a,P [a])(us:List Value)(hl:us.length=[p1].length):P us:=by
 match us,hl with
 |[a],_=>exact h a
theorem mX{p1 p2:Str}{P:List Value->Prop}(h:∀a b,P [a,b])(us:List Value)(hl:us.length=[p1,p2].length):P us:=by
 match us,hl with
 |[a,b],_=>exact h a b
theorem Wc{p1 p2 p3:Str}{P:List Value->Prop}(h:∀a b c,P [a,b,c])(us:List Value)(hl:us.length=[p1,p2,p3].length):P us:=by
 match us,hl with
 |[a,b,c],_=>exact h a b c
theorem bn4{p1 p2 p3 p4:Str}{P:List Value->Prop}(h:∀a b c d,P [a,b,c,d])(us:List Value)(hl:us.length=[p1,p2,p3,p4].length):P us:=by
 match us,hl with
 |[a,b,c,d],_=>exact h a b c d
end
end L2
namespace Hs
open PySem L2 vh
theorem len_3{α:Type}:∀{us:List α},us.length=3->∃a b c,us=[a,b,c]
 |[a,b,c],_=>⟨a,b,c,rfl⟩
theorem all_mk{l:W.OpenLaw}{w:World}{K:W.Frag}{h:Heap}{mg:Str->Option Value}{fa:Addr}{T:Addr}(X:K.In h)(G:h.Ns mainGlobals mg)(hfa:mg "law"=some (.ref fa))
  {f0 f1 f2 f3 f4 f5 f6 f7 f8 f9 f10 f11 f12 f13 f14 f15 f16 f17 f18 f19 f20 f21 f22 f23 f24 f25 f26 f27 f28 f29 f30 f31 f32 f33 f34 f36 f37 f38 f39 f40 f41 f42 f43 f44 f45 f46 f47 f48 f49 mf0 mf1 mf2 mf3 mf4 mf5 mf6 mf7 mf8 mf9:Addr}{f35 cL:Addr}{aak aaI:Option Addr}{aae:Array (Option Value)}{aam aas aaE aah aaH:Value}{f50:Addr}{aaj ZS:Option Addr}{aad:Array (Option Value)}{aal YG ZF Yl Wb ZG:Value}{tk0:Tok}{tk1:Tok}{tk2:Tok}{aD:Addr}(a0:DA K "is_whole" Rj f0)(a1:DA K "is_place" jh f1)(a2:DA K "are_places" gn f2)(a3:DA K "is_rising" fH f3)(a4:DA K "is_set" jP f4)(a5:DA K "are_ties" jj f5)(a6:DA K "is_web" nF f6)(a7:DA K "need_web" IV f7)(a8:DA K "need_set" jg f8)(a9:DA K "pairs" qU f9)(a10:DA K "all_sets" jm f10)(a11:DA K "without" eO f11)(a12:DA K "has_tie" gG f12)(a13:DA K "places_by_tie" zcv f13)(a14:DA K "in_both" kW f14)(a15:DA K "full_sets" gY f15)(a16:DA K "full_apart" S9 f16)(a17:DA K "first_greatest" zco f17)(a18:DA K "greatest_apart" zcn f18)(a19:DA K "greatest_divisor" Xe f19)(a20:DA K "lowest" Nv f20)(a21:DA K "plus" vR f21)(a22:DA K "times" qT f22)(a23:DA K "is_less" gF f23)(a24:DA K "is_fraction" eV f24)(a25:DA K "sum_of" iK f25)(a26:DA K "cut_down" ji f26)(a27:DA K "greatest_apart_in" zbl f27)(a28:DA K "sets_one_by_one" zcc f28)(a29:DA K "prices_by_sets" zck f29)(a30:DA K "greedy" nG f30)(a31:DA K "can_stand_with" zcp f31)(a32:DA K "first_parts" Xa f32)(a33:DA K "highest_floor" zcx f33)(a34:DA K "highest_floors" zcm f34)(a35:W.nsIn K mainGlobals "best_part"=some (some (.ref f35)))(l35:K.lookup f35=some ⟨aam,aak,.func (W.fnOf "best_part" "best_part" (defArgs Oc) (defBody Oc) (defScope Oc) .none aas aaE aah aaI (.ref cL) aaH),aae⟩)(c35:W.codeIn K (.ref cL) "best_part"=true)(k35:W.keepIn K (.ref f35)=true)(a36:DA K "hues_by_floors" zcl f36)(a37:DA K "fewest" nH f37)(a38:DA K "are_hues" jk f38)(a39:DA K "need_wants" dN f39)(a40:DA K "shares" nu f40)(a41:DA K "value" qR f41)(a42:DA K "outweighs" gU f42)(a43:DA K "are_prices" gk f43)(a44:DA K "_law_e_stir" gj f44)(a45:DA K "_law_e_dip" Wh f45)(a46:DA K "_law_e_web_of" Xb f46)(a47:DA K "_law_e_web" gW f47)(a48:DA K "_law_e_hues_by" zcw f48)(a49:DA K "_law_e_full_in_turn" zbf f49)(a50:W.nsIn K mainGlobals "law"=some (some (.ref f50)))(l50:K.lookup f50=some ⟨aal,aaj,.func (W.fnOf "law" "law" (defArgs nA) (defBody nA) (defScope nA) .none YG ZF Yl ZS Wb ZG),aad⟩)(c50:W.codeIn K Wb "law"=true)(k50:W.keepIn K (.ref f50)=true)(x0:W.nsIn K mainGlobals "MOST_PLACES"=some (some (.int 10 tk0)))(x1:W.nsIn K mainGlobals "MOST_BOTTOM"=some (some (.int 1000000000 tk1)))(x2:W.nsIn K mainGlobals "MOST_WANT"=some (some (.int 99 tk2)))(z0:W.nsIn K mainGlobals "abs"=some none)(z1:W.nsIn K mainGlobals "all"=some none)(z2:W.nsIn K mainGlobals "any"=some none)(z3:W.nsIn K mainGlobals "bool"=some none)(z4:W.nsIn K mainGlobals "enumerate"=some none)(z5:W.nsIn K mainGlobals "int"=some none)(z6:W.nsIn K mainGlobals "isinstance"=some none)(z7:W.nsIn K mainGlobals "len"=some none)(z8:W.nsIn K mainGlobals "list"=some none)(z9:W.nsIn K mainGlobals "max"=some none)(z10:W.nsIn K mainGlobals "min"=some none)(z11:W.nsIn K mainGlobals "range"=some none)(z12:W.nsIn K mainGlobals "sorted"=some none)(z13:W.nsIn K mainGlobals "tuple"=some none)(z14:W.nsIn K mainGlobals "zip"=some none)(y0:W.nsIn K mainGlobals "Tableau"=some (some (.ref aD)))(Yw:MA K aD "__init__" "Tableau.__init__" Z6 mf0)(ma1:MA K aD "next_column" "Tableau.next_column" zbb mf1)(ma2:MA K aD "is_tighter" "Tableau.is_tighter" zbg mf2)(ma3:MA K aD "next_row" "Tableau.next_row" zby mf3)(ma4:MA K aD "turned" "Tableau.turned" zcq mf4)(ma5:MA K aD "turn" "Tableau.turn" Z8 mf5)(ma6:MA K aD "solve" "Tableau.solve" Z9 mf6)(ma7:MA K aD "fraction_at" "Tableau.fraction_at" Wk mf7)(ma8:MA K aD "price_of" "Tableau.price_of" zbx mf8)(ma9:MA K aD "share_of" "Tableau.share_of" zbw mf9)(CJ:W.plainGet K aD Str.empty=true)(CG:W.hasDictIn K aD=true)(Cz:W.plainOver K aD=true)(Cy:W.findIn K (.ref aD) "__setattr__"=some (some (.builtin "object.__setattr__")))(Cw:W.makesIn K aD=true)(Cv:W.keepIn K (.ref aD)=true)(pJ:W.findIn K (.ref aD) "cells"=some none)(qH:W.findIn K (.ref aD) "over"=some none)(mJ:W.findIn K (.ref aD) "columns"=some none)(qG:W.findIn K (.ref aD) "rows"=some none):
  ∃fd:FuncData,(∀(s:Shared) (v:Value),BindsTo s fd ⟨[v],[]⟩ [("script",v)])/\∀base:Heap,K.In base->base.Ns mainGlobals mg->zZ base mg cL T->FnOk l.prog w K mg base CX0 13 fa fd ["script"] (rQ T K):=by
 have e:=hfa.symm.trans (Ww X G a50)
 cases e
 obtain⟨d0,F0,a0⟩:=a0
 have gO:=DA.d (ps:=["thing"]) X G F0 a0 (fun _ _ _ _ _ _=>w6 fun _=>rfl)
 obtain⟨d1,F1,a1⟩:=a1
 have Dc:=DA.d (ps:=["n","thing"]) X G F1 a1 (fun _ _ _ _ _ _=>mX fun _ _=>rfl)
 obtain⟨d2,F2,a2⟩:=a2
 have xK:=DA.d (ps:=["n","things"]) X G F2 a2 (fun _ _ _ _ _ _=>mX fun _ _=>rfl)
 obtain⟨d3,F3,a3⟩:=a3
 have qx:=DA.d (ps:=["things"]) X G F3 a3 (fun _ _ _ _ _ _=>w6 fun _=>rfl)
 obtain⟨d4,F4,a4⟩:=a4
 have Ac:=DA.d (ps:=["n","thing"]) X G F4 a4 (fun _ _ _ _ _ _=>mX fun _ _=>rfl)
 obtain⟨d5,F5,a5⟩:=a5
 have Df:=DA.d (ps:=["n","thing"]) X G F5 a5 (fun _ _ _ _ _ _=>mX fun _ _=>rfl)
 obtain⟨d6,F6,a6⟩:=a6
 have Nr:=DA.d (ps:=["thing"]) X G F6 a6 (fun _ _ _ _ _ _=>w6 fun _=>rfl)
 obtain⟨d7,F7,a7⟩:=a7
 have cN:=DA.d (ps:=["thing"]) X G F7 a7 (fun _ _ _ _ _ _=>w6 fun _=>rfl)
 obtain⟨d8,F8,a8⟩:=a8
 have CZ:=DA.d (ps:=["web","thing"]) X G F8 a8 (fun _ _ _ _ _ _=>mX fun _ _=>rfl)
 obtain⟨d9,F9,a9⟩:=a9
 have Ri:=DA.d (ps:=["n"]) X G F9 a9 (fun _ _ _ _ _ _=>w6 fun _=>rfl)
 obtain⟨d10,F10,a10⟩:=a10
 have Dh:=DA.d (ps:=["n"]) X G F10 a10 (fun _ _ _ _ _ _=>w6 fun _=>rfl)
 obtain⟨d11,F11,a11⟩:=a11
 have lB:=DA.d (ps:=["some","part"]) X G F11 a11 (fun _ _ _ _ _ _=>mX fun _ _=>rfl)
 obtain⟨d12,F12,a12⟩:=a12
 have pW:=DA.d (ps:=["web","one","other"]) X G F12 a12 (fun _ _ _ _ _ _=>Wc fun _ _ _=>rfl)
 obtain⟨d13,F13,a13⟩:=a13
 have qI:=DA.d (ps:=["web","place","tied"]) X G F13 a13 (fun _ _ _ _ _ _=>Wc fun _ _ _=>rfl)
 obtain⟨d14,F14,a14⟩:=a14
 have HS:=DA.d (ps:=["ones","others"]) X G F14 a14 (fun _ _ _ _ _ _=>mX fun _ _=>rfl)
 obtain⟨d15,F15,a15⟩:=a15
 have Ad:=DA.d (ps:=["friends"]) X G F15 a15 (fun _ _ _ _ _ _=>w6 fun _=>rfl)
 obtain⟨d16,F16,a16⟩:=a16
 have gA:=DA.d (ps:=["web"]) X G F16 a16 (fun _ _ _ _ _ _=>w6 fun _=>rfl)
 obtain⟨d17,F17,a17⟩:=a17
 have pY:=DA.d (ps:=["sets"]) X G F17 a17 (fun _ _ _ _ _ _=>w6 fun _=>rfl)
 obtain⟨d18,F18,a18⟩:=a18
 have pX:=DA.d (ps:=["web"]) X G F18 a18 (fun _ _ _ _ _ _=>w6 fun _=>rfl)
 obtain⟨d19,F19,a19⟩:=a19
 have gP:=DA.d (ps:=["one","other"]) X G F19 a19 (fun _ _ _ _ _ _=>mX fun _ _=>rfl)
 obtain⟨d20,F20,a20⟩:=a20
 have gM:=DA.d (ps:=["a","b"]) X G F20 a20 (fun _ _ _ _ _ _=>mX fun _ _=>rfl)
 obtain⟨d21,F21,a21⟩:=a21
 have Wf:=DA.d (ps:=["one","other"]) X G F21 a21 (fun _ _ _ _ _ _=>mX fun _ _=>rfl)
 obtain⟨d22,F22,a22⟩:=a22
 have Rh:=DA.d (ps:=["one","other"]) X G F22 a22 (fun _ _ _ _ _ _=>mX fun _ _=>rfl)
 obtain⟨d23,F23,a23⟩:=a23
 have pQ:=DA.d (ps:=["one","other"]) X G F23 a23 (fun _ _ _ _ _ _=>mX fun _ _=>rfl)
 obtain⟨d24,F24,a24⟩:=a24
 have uz:=DA.d (ps:=["thing"]) X G F24 a24 (fun _ _ _ _ _ _=>w6 fun _=>rfl)
 obtain⟨d25,F25,a25⟩:=a25
 have tR:=DA.d (ps:=["fractions"]) X G F25 a25 (fun _ _ _ _ _ _=>w6 fun _=>rfl)
 obtain⟨d26,F26,a26⟩:=a26
 have Dd:=DA.d (ps:=["web","some"]) X G F26 a26 (fun _ _ _ _ _ _=>mX fun _ _=>rfl)
 obtain⟨d27,F27,a27⟩:=a27
 have lK:=DA.d (ps:=["web","left"]) X G F27 a27 (fun _ _ _ _ _ _=>mX fun _ _=>rfl)
 obtain⟨d28,F28,a28⟩:=a28
 have oE:=DA.d (ps:=["web"]) X G F28 a28 (fun _ _ _ _ _ _=>w6 fun _=>rfl)
 obtain⟨d29,F29,a29⟩:=a29
 have pO:=DA.d (ps:=["sets","n"]) X G F29 a29 (fun _ _ _ _ _ _=>mX fun _ _=>rfl)
 obtain⟨d30,F30,a30⟩:=a30
 have Nt:=DA.d (ps:=["web"]) X G F30 a30 (fun _ _ _ _ _ _=>w6 fun _=>rfl)
 obtain⟨d31,F31,a31⟩:=a31
 have pZ:=DA.d (ps:=["web","part","place"]) X G F31 a31 (fun _ _ _ _ _ _=>Wc fun _ _ _=>rfl)
 obtain⟨d32,F32,a32⟩:=a32
 have lU:=DA.d (ps:=["web","some"]) X G F32 a32 (fun _ _ _ _ _ _=>mX fun _ _=>rfl)
 obtain⟨d33,F33,a33⟩:=a33
 have qK:=DA.d (ps:=["web","floors","some"]) X G F33 a33 (fun _ _ _ _ _ _=>Wc fun _ _ _=>rfl)
 obtain⟨d34,F34,a34⟩:=a34
 have pU:=DA.d (ps:=["web"]) X G F34 a34 (fun _ _ _ _ _ _=>w6 fun _=>rfl)
 have F35:=fun_mk (st:=Oc) l35 c35 k35
 have Ae:bJ K mg "best_part" Oc ["web","floors","some"] f35 _:=⟨F35,F35.binds (ps:=["web","floors","some"]) (fun _ _ _ _ _ _ us hl=>by obtain⟨u0,u1,u2,rfl⟩:=Hs.len_3 hl;rfl),Ww X G a35⟩
 obtain⟨d36,F36,a36⟩:=a36
 have pR:=DA.d (ps:=["web","floors"]) X G F36 a36 (fun _ _ _ _ _ _=>mX fun _ _=>rfl)
 obtain⟨d37,F37,a37⟩:=a37
 have Nu:=DA.d (ps:=["web"]) X G F37 a37 (fun _ _ _ _ _ _=>w6 fun _=>rfl)
 obtain⟨d38,F38,a38⟩:=a38
 have Dg:=DA.d (ps:=["web","hues"]) X G F38 a38 (fun _ _ _ _ _ _=>mX fun _ _=>rfl)
 obtain⟨d39,F39,a39⟩:=a39
 have oF:=DA.d (ps:=["web","thing"]) X G F39 a39 (fun _ _ _ _ _ _=>mX fun _ _=>rfl)
 obtain⟨d40,F40,a40⟩:=a40
 have Nq:=DA.d (ps:=["web","wants"]) X G F40 a40 (fun _ _ _ _ _ _=>mX fun _ _=>rfl)
 obtain⟨d41,F41,a41⟩:=a41
 have Rg:=DA.d (ps:=["web"]) X G F41 a41 (fun _ _ _ _ _ _=>w6 fun _=>rfl)
 obtain⟨d42,F42,a42⟩:=a42
 have Aa:=DA.d (ps:=["some","prices"]) X G F42 a42 (fun _ _ _ _ _ _=>mX fun _ _=>rfl)
 obtain⟨d43,F43,a43⟩:=a43
 have xJ:=DA.d (ps:=["web","wants","prices","number"]) X G F43 a43 (fun _ _ _ _ _ _=>bn4 fun _ _ _ _=>rfl)
 obtain⟨d44,F44,a44⟩:=a44
 have xH:=DA.d (ps:=["cell","at"]) X G F44 a44 (fun _ _ _ _ _ _=>mX fun _ _=>rfl)
 obtain⟨d45,F45,a45⟩:=a45
 have j9:=DA.d (ps:=["cup","many"]) X G F45 a45 (fun _ _ _ _ _ _=>mX fun _ _=>rfl)
 obtain⟨d46,F46,a46⟩:=a46
 have j7:=DA.d (ps:=["cup","n"]) X G F46 a46 (fun _ _ _ _ _ _=>mX fun _ _=>rfl)
 obtain⟨d47,F47,a47⟩:=a47
 have Ab:=DA.d (ps:=["cup","most"]) X G F47 a47 (fun _ _ _ _ _ _=>mX fun _ _=>rfl)
 obtain⟨d48,F48,a48⟩:=a48
 have qJ:=DA.d (ps:=["web","sets"]) X G F48 a48 (fun _ _ _ _ _ _=>mX fun _ _=>rfl)
 obtain⟨d49,F49,a49⟩:=a49
 have j8:=DA.d (ps:=["web","sets"]) X G F49 a49 (fun _ _ _ _ _ _=>mX fun _ _=>rfl)
 have F50:=fun_mk (st:=nA) l50 c50 k50
 have uc:=Ww X G x0
 have ud:=Ww X G x1
 have xZ:=Ww X G x2
 have Yu:=Av X G z0
 have uR:=Av X G z1
 have R9:=Av X G z2
 have Vk:=Av X G z3
 have iy:=Av X G z4
 have Yt:=Av X G z5
 have bL:=Av X G z6
 have fX:=Av X G z7
 have wj:=Av X G z8
 have R8:=Av X G z9
 have Eo:=Av X G z10
 have bK:=Av X G z11
 have yO:=Av X G z12
 have cD:=Av X G z13
 have Yr:=Av X G z14
 have pC:=Ww X G y0
 obtain⟨md0,FM0,Yw⟩:=Yw
 have mW:=MA.d (ps:=["self","sets","wants"]) FM0 Yw (fun _ _ _ _ _ _=>Wc fun _ _ _=>rfl)
 obtain⟨md1,FM1,ma1⟩:=ma1
 have jH:=MA.d (ps:=["self"]) FM1 ma1 (fun _ _ _ _ _ _=>w6 fun _=>rfl)
 obtain⟨md2,FM2,ma2⟩:=ma2
 have kh:=MA.d (ps:=["self","column","row","other"]) FM2 ma2 (fun _ _ _ _ _ _=>bn4 fun _ _ _ _=>rfl)
 obtain⟨md3,FM3,ma3⟩:=ma3
 have mV:=MA.d (ps:=["self","column"]) FM3 ma3 (fun _ _ _ _ _ _=>mX fun _ _=>rfl)
 obtain⟨md4,FM4,ma4⟩:=ma4
 have p7:=MA.d (ps:=["self","cells","pivots","column"]) FM4 ma4 (fun _ _ _ _ _ _=>bn4 fun _ _ _ _=>rfl)
 obtain⟨md5,FM5,ma5⟩:=ma5
 have tU:=MA.d (ps:=["self","row","column"]) FM5 ma5 (fun _ _ _ _ _ _=>Wc fun _ _ _=>rfl)
 obtain⟨md6,FM6,ma6⟩:=ma6
 have qL:=MA.d (ps:=["self"]) FM6 ma6 (fun _ _ _ _ _ _=>w6 fun _=>rfl)
 obtain⟨md7,FM7,ma7⟩:=ma7
 have cC:=MA.d (ps:=["self","row","column"]) FM7 ma7 (fun _ _ _ _ _ _=>Wc fun _ _ _=>rfl)
 obtain⟨md8,FM8,ma8⟩:=ma8
 have mQ:=MA.d (ps:=["self","name"]) FM8 ma8 (fun _ _ _ _ _ _=>mX fun _ _=>rfl)
 obtain⟨md9,FM9,ma9⟩:=ma9
 have mO:=MA.d (ps:=["self","name"]) FM9 ma9 (fun _ _ _ _ _ _=>mX fun _ _=>rfl)
 have bH:Cls K aD:=⟨CJ,CG,Cz,Cy⟩
 have cI:NoAttr K aD "cells":=pJ
 have dR:NoAttr K aD "over":=qH
 have bF:NoAttr K aD "columns":=mJ
 have dO:NoAttr K aD "rows":=qG
 have mk_Tableau:Mk K aD mf0:=⟨Cw,Yw.1,Yw.2.1,Cv⟩
 refine⟨W.fnOf "law" "law" (defArgs nA) (defBody nA) (defScope nA) .none YG ZF Yl ZS Wb ZG,fun s v=> .of_eq rfl,fun base _ _ LB=> ?_⟩
 have nY:=KR (P:=l.prog) (w:=w) (base:=base) F0 bL Yt Vk
 have QT:=K6 (P:=l.prog) (w:=w) (base:=base) F1 gO nY
 have Mi:=GF (P:=l.prog) (w:=w) (base:=base) F2 Dc QT uR
 have zx:=GC (P:=l.prog) (w:=w) (mg:=mg) (base:=base) F3 uR bK fX
 have Sw:=U8 (P:=l.prog) (w:=w) (base:=base) F4 xK Mi qx zx bL cD
 have VF:=Qc (P:=l.prog) (w:=w) (base:=base) F5 Ac Sw qx zx bL cD uR fX
 have Zd:=UG (P:=l.prog) (w:=w) (base:=base) F6 gO nY Df VF bL cD fX uc
 have dG:=Bt (P:=l.prog) (w:=w) (base:=base) F7 Nr Zd
 have Hq:=Bu (P:=l.prog) (w:=w) (base:=base) F8 Ac Sw
 have Ml:=Vb (P:=l.prog) (w:=w) (mg:=mg) (base:=base) F12 Eo R8
 have QW:=K8 (P:=l.prog) (w:=w) (mg:=mg) (base:=base) F44
 have Ms:=Vf (P:=l.prog) (w:=w) (mg:=mg) (base:=base) F45 xH QW fX
 have Fd:=KY (P:=l.prog) (w:=w) (mg:=mg) (base:=base) F46 j9 Ms bK cD
 have VP:=Qj (P:=l.prog) (w:=w) (mg:=mg) (base:=base) F47 j9 Ms j7 Fd
 have V2:=Qn (P:=l.prog) (w:=w) (base:=base) F9 bK
 have QX:=K9 (P:=l.prog) (w:=w) (mg:=mg) (base:=base) F13 pW Ml bK
 have Mj:=GJ (P:=l.prog) (w:=w) (mg:=mg) (base:=base) F14
 have Ca:=yN (P:=l.prog) (w:=w) (mg:=mg) (base:=base) F15 HS Mj wj bK fX yO
 have iz:=v7 (P:=l.prog) (w:=w) (mg:=mg) (base:=base) F16 cN dG Ad Ca qI QX bK
 have Mr:=GX (P:=l.prog) (w:=w) (mg:=mg) (base:=base) F17 R8 fX
 have Mq:=GQ (P:=l.prog) (w:=w) (mg:=mg) (base:=base) F18 pY Mr gA iz
 have Zu:=Vg (P:=l.prog) (w:=w) (base:=base) F26 cN dG CZ Hq Ri V2 pW Ml cD fX
 have Zq:=Ym (P:=l.prog) (w:=w) (mg:=mg) (base:=base) F19
 have tH:=Va (P:=l.prog) (w:=w) (base:=base) F20 gP Zq Yu
 have Zm:=U6 (P:=l.prog) (w:=w) (mg:=mg) (base:=base) FM1 bH cI dR bF dO iy Eo
 have Zf:=UL (P:=l.prog) (w:=w) (mg:=mg) (base:=base) FM2 bH cI dR bF dO
 have Zk:=U5 (P:=l.prog) (w:=w) (mg:=mg) (base:=base) FM3 bH cI dR bF dO kh Zf bK fX
 have Zg:=UW (P:=l.prog) (w:=w) (mg:=mg) (base:=base) FM4 bH cI dR bF dO iy
 have Ze:=UJ (P:=l.prog) (w:=w) (mg:=mg) (base:=base) FM5 bH cI dR bF dO p7 Zg
 have Zh:=U0 (P:=l.prog) (w:=w) (mg:=mg) (base:=base) FM6 bH cI dR bF dO jH Zm tU Ze mV Zk
 have Mf:=U7 (P:=l.prog) (w:=w) (mg:=mg) (base:=base) FM7 bH cI dR bF dO gM tH
 have Zj:=U4 (P:=l.prog) (w:=w) (mg:=mg) (base:=base) FM8 bH cI dR bF dO gM tH cC Mf
 have Zi:=U3 (P:=l.prog) (w:=w) (mg:=mg) (base:=base) FM9 bH cI dR bF dO gM tH cC Mf
 have VG:=Qd (P:=l.prog) (w:=w) (mg:=mg) (base:=base) FM0 bH cI dR bF dO fX bK wj
 have qw:=vZ (P:=l.prog) (w:=w) (mg:=mg) (base:=base) F39 gO nY fX bL cD uR xZ
 have Mg:=Gz (P:=l.prog) (w:=w) (mg:=mg) (base:=base) F40 bH cI dR bF dO pC cN dG oF qw gA iz mW mk_Tableau VG qL Zh mO Zi mQ Zj cC Mf iy bK
 have QL:=KZ (P:=l.prog) (w:=w) (mg:=mg) (base:=base) F41 cN dG Nq Mg
 have Hr:=Bv (P:=l.prog) (w:=w) (mg:=mg) (base:=base) F10 bK
 have lA:=Bs (P:=l.prog) (w:=w) (mg:=mg) (base:=base) F11 cD
 have QS:=K5 (P:=l.prog) (w:=w) (mg:=mg) (base:=base) F31 pW Ml R9
 have zy:=GR (P:=l.prog) (w:=w) (mg:=mg) (base:=base) F32 pZ QS
 have VN:=Qi (P:=l.prog) (w:=w) (mg:=mg) (base:=base) F33 lU zy lB lA Eo
 have QV:=K7 (P:=l.prog) (w:=w) (mg:=mg) (base:=base) F34 Dh Hr qK VN
 have V0:=Ql (P:=l.prog) (w:=w) (mg:=mg) (base:=base) F35 rfl LB lU zy lB lA Eo
 have Zv:=Vh (P:=l.prog) (w:=w) (mg:=mg) (base:=base) F36 Ae V0 lB lA cD bK
 have Zr:=Vd (P:=l.prog) (w:=w) (mg:=mg) (base:=base) F37 cN dG pU QV pR Zv cD bK
 have BZ:=Qg (P:=l.prog) (w:=w) (mg:=mg) (base:=base) F23
 have VL:=Qh (P:=l.prog) (w:=w) (mg:=mg) (base:=base) F24 gO nY fX bL cD ud
 have wJ:=K4 (P:=l.prog) (w:=w) (mg:=mg) (base:=base) F25 gP Zq
 have VJ:=Qf (P:=l.prog) (w:=w) (mg:=mg) (base:=base) F42 pQ BZ tR wJ
 have zA:=v8 (P:=l.prog) (w:=w) (mg:=mg) (base:=base) F43 cN dG oF qw uz VL gA iz Aa VJ tR wJ pQ BZ uR fX bL wj R9 Yr
 have Zo:=Vc (P:=l.prog) (w:=w) (mg:=mg) (base:=base) F27 pX Mq Dd Zu cD
 have Zn:=U9 (P:=l.prog) (w:=w) (mg:=mg) (base:=base) F28 lK Zo lB lA cD bK
 have Mh:=GD (P:=l.prog) (w:=w) (mg:=mg) (base:=base) F29 tR wJ gM tH fX bK
 have Mp:=GK (P:=l.prog) (w:=w) (mg:=mg) (base:=base) F30 cN dG oE Zn pO Mh
 have VH:=Qe (P:=l.prog) (w:=w) (base:=base) F21 gM tH
 have QM:=K3 (P:=l.prog) (w:=w) (base:=base) F22 gM tH
 have V1:=Qm (P:=l.prog) (w:=w) (mg:=mg) (base:=base) F38 cN dG gO nY fX bL cD uR
 have Zt:=Ve (P:=l.prog) (w:=w) (mg:=mg) (base:=base) F48 iy cD bK
 have VR:=Qk (P:=l.prog) (w:=w) (mg:=mg) (base:=base) F49 gA iz fX yO wj bK
 exact ok_law (P:=l.prog) (w:=w) (mg:=mg) (base:=base) F50 Ab VP j9 Ms j7 Fd Nt Mp Wf VH gM tH xJ zA pQ BZ Rh QM Rg QL Dg V1 qJ Zt Nu Zr j8 VR bK fX
theorem walk{l:PySem.W.OpenLaw}{q:Program}{loose:List Str}{XP:(Str->Option Value)->Heap->Prop}{YP:World->Heap->Prop}{d:DefRec}{K:Params->PySem.W.Frag}{cL T:Addr}(hn:l.most=some 63)(hdf:d.params.defaults=[])(hY:∀(w:World) (h:Heap),YP w h->(K w.params).In h/\h.get? T=some (PySem.W.tabObj #[]))
  (F:∀(w:World) (mg:Str->Option Value) (fa:Addr) (h:Heap),(K w.params).In h->h.Ns mainGlobals mg->mg d.name=some (.ref fa)->
   ∃fd:FuncData,(∀(s:Shared) (u:Value),BindsTo s fd ⟨[u],[]⟩ [("script",u)])/\∀base:Heap,(K w.params).In base->base.Ns mainGlobals mg->zZ base mg cL T->FnOk l.prog w (K w.params) mg base CX0 13 fa fd ["script"] (rQ T (K w.params)))(hc:∀w:World,PySem.W.codeHdIn (K w.params) cL T=true)(Zb:∀w:World,(K w.params).lookup T=none):
  PySem.W.WalkO q loose XP YP l.row.toRowW d [] (fun f vs=>PySem.call f vs):=
 L2.Jl (n:=63) (k:=13) (x:="script") (CX:=CX0) (sp:=rQ) hn (by decide) hdf ⟨rfl,by decide,by decide,rfl⟩ hY hc Zb F (fun _ _ a ns hl hO hS=>Gb hl hO hS) fun _ _ _ _ z=>z
end Hs
open PySem PySem.W PyProof.Rows
set_option maxRecDepth 100000 in
set_option maxHeartbeats 0 in
theorem PySem.Challenge.cw_hueshare_k41_whole_greedy_and_the_least_holds : PySem.Challenge.rw_hueshare_k41_whole_greedy_and_the_least.Holds := by
 refine Hd.early.2 ?_
 unfold Hd.early
 dsimp only
 k_fill
 refine' Hs.walk (l:=PySem.Challenge.rw_hueshare_k41_whole_greedy_and_the_least) rfl rfl (fun w h Y=>⟨PySem.W.km_in_of Y,PySem.W.km_tabs_of Y _ cX⟩) ?F ?C ?D
 case F=>
  intro w mg fa h KX G hmg
  refine' Hs.all_mk KX G hmg .of .of .of .of .of .of .of .of .of .of .of .of .of .of .of .of .of .of .of .of .of .of .of .of .of .of .of .of .of .of .of .of .of .of .of (by k_is) (by k_is) (by k_is) (by k_is) .of .of .of .of .of .of .of .of .of .of .of .of .of .of (by k_is) (by k_is) (by k_is) (by k_is) (by k_is) (by k_is) (by k_is) (by k_is) (by k_is) (by k_is) (by k_is) (by k_is) (by k_is) (by k_is) (by k_is) (by k_is) (by k_is) (by k_is) (by k_is) (by k_is) (by k_is) (by k_is) (by k_is) .of .of .of .of .of .of .of .of .of .of (by k_is) (by k_is) (by k_is) (by k_is) (by k_is) (by k_is) (by k_is) (by k_is) (by k_is) (by k_is)
 case C=>intro w;kernel_rfl
 case D=>intro w;kernel_rfl
