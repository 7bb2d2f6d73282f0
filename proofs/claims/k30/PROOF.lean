import PyProof.Rows.All
import Wide.All
import OpenK.AllK
import Wide.FinOn
import Lean
import PyProof.EqAt
import PyProof.EqKinds
import PyProof.TupleCall
import PyProof.ListRange
import PyProof.TupleOfSeq
import PyProof.Draws
import PyProof.EnumMake
import PyProof.TupleIter
import PyProof.Rows.SetFrom
import PyProof.SetRoads
import PyProof.WalksMore
import PyProof.Rows.SortShell
import KE.KMinBuiltin
import PyProof.Rows.CallKwBuiltin
import KE.KRevIter
import PyProof.Rows.Tup
import PyProof.Rows.Range3
import PyProof.DictWalks
import PyProof.DictTruth
import PyProof.TupleKey
import PyProof.Rows.SeqMore2
import PyProof.FString
import PyProof.StrWalks
import PyProof.StrBlockH
import PyProof.StrCalls2
import PyProof.SliceStr2
import KE.KIntText
import PyProof.StrLawsTight
import KE.KDictList
import PyProof.DictRoadsH
import KE.KLam
import KE.KNestM
import PyProof.DictItems
import PyProof.IsiHeapPairs
import KE.KPairComp
import PyProof.MinMaxWalk
import PyProof.MeetsSeq
import PyProof.Rows.ZipGen
import PyProof.Tail
import KE.IntBitsLaws
import PyProof.FitsBits
import PySem.Challenge.RW_hueshare_k30_shares_spread
set_option compiler.extract_closed false
set_option Elab.async false
set_option linter.all false
set_option maxRecDepth 100000

noncomputable abbrev ζ:=PySem.Value
noncomputable abbrev η:=PySem.Shared
noncomputable abbrev θ:=PySem.PyData
noncomputable abbrev ξ:=PySem.SetTable
noncomputable abbrev ρ:=PySem.Program
noncomputable abbrev τ:=PySem.FuncData
noncomputable abbrev υ:=PySem.World
noncomputable abbrev L4:=PySem.Str->Option ζ
noncomputable abbrev L3:=ζ->η->Prop
noncomputable abbrev L1:=List (PySem.Addr×PySem.Obj)
noncomputable abbrev L0:=List (Int×Int)
def aq:=@PySem.wpAny_bind
def aj:=@if_neg
def aO:=@PySem.wpAny_pure
def ak:=@if_pos
def cU:=@decide_eq_true
def aZ:=@PyProof.Rows.wpS_bind
def gB:=@decide_eq_false
def bF:=@PyProof.Rows.wpS_pure
def kJ:=@of_decide_eq_true
def lO:=@PySem.wpAny_ite_split
def qy:=@Bool.false_ne_true
def gA:=@PySem.sizeLine_eq
def pQ:=@Option.some.inj
def Dt:=@PyProof.Rows.callWith_type1
def wJ:=@PySem.Heap.SameBut.update
def Am:=@Bool.false_eq_true
def v9:=@PySem.PassesOwn.never
def gD:=@congrArg
def wI:=@Bool.eq_iff_iff
def Dr:=@PySem.mem_of_lookup
def Mu:=@Classical.byContradiction
def tQ:=@PyProof.Rows.wpS_forRange
def Mt:=@PySem.F.plainAttrs_list
def CG:=@Bool.and_eq_true
def Dq:=@decide_eq_true_eq
def Jb:=@PySem.wpAny_newObj_type
def wH:=@PySem.W.mg_none_of
def Ak:=@PySem.wpAny_holding
def iU:=@Ne.symm
def Jv:=@PySem.wpAny_truthy_bool
def Ms:=@PySem.wpAny_Call_Name_kw
def Mr:=@PySem.Obj.data_mapFields
def Mq:=@of_decide_eq_false
def Ju:=@PySem.wpAny_call_entry
def Jt:=@PyProof.Rows.KeyOrd.kle_refl
def Zm:=@PyProof.Rows.F.plain_set_update_loop
def tO:=@PyProof.Rows.wpS_mono
def Ru:=@PySem.Value.isInt_shape
def Ot:=@PySem.wpAny_passesOwn
def Rt:=@PySem.Heap.SameBut.refl
def Oq:=@PySem.codeAny_builtin
def Zk:=@PyProof.Rows.callWith_builtin1
def Xh:=@PySem.wpAny_callSpecial?_slot
def Rr:=@PySem.wpAny_isInstance
def Dm:=@PySem.wpAny_rule
def TY:=@PySem.Calls.spliced_cons
def Mp:=@PySem.codeAny_mono
def Rq:=@PyProof.Rows.get?_update_seq
def Xg:=@PySem.Obj.isFreed_of_fields
def TX:=@PySem.Calls.spliced_nil
def yX:=@if_false
def TV:=@PyProof.Rows.KeyOrd.kle_of_klt
def TQ:=@bne_self_eq_false
def TJ:=@PySem.wpAny_pyIter_list
def Xf:=@PySem.Around.under_plainId
def Rp:=@PySem.wpAny_setField
def wcg:=@PyProof.Rows.F.entry_set_update_loop
def Zj:=@PySem.F.args_tuple_add_2
def Js:=@PySem.call_meets
def Zi:=@Int.mul_ediv_cancel_left
def Zh:=@Nat.gcd_pos_of_pos_right
def Zg:=@PySem.F.slot_list_append
def Zf:=@PySem.F.type_list_append
def Ze:=@PySem.F.entry_tuple_add
def TF:=@PySem.W.KasT.kasWp_bind
def Ro:=@PyProof.Rows.listUpdate_at
def Zd:=@List.pairwise_singleton
def Zc:=@PySem.F.slot_list_index
def Zb:=@PySem.F.type_list_index
def wct:=@List.take_succ_eq_append_getElem
def Za:=@PySem.F.slot_tuple_add
def Ml:=@PySem.wpAny_mono
def Xe:=@Array.toList_push
def Xd:=@PySem.wpAny_setState_of
def Mj:=@PyProof.Rows.wpS_modify
def Xc:=@Array.append_push
def Xb:=@List.getElem?_set
def Xa:=@Nat.le_of_not_lt
def W9:=@Nat.le_add_right
def W8:=@PyProof.Rows.KeyOrd.kle_trans
def wde:=@List.eq_nil_of_length_eq_zero
def W7:=@PySem.wpAny_askSetting
def W6:=@Nat.dvd_mul_left
def W5:=@Nat.Coprime.symm
def Y9:=@List.length_eraseIdx
def Y8:=@List.getElem?_append
def Y7:=@List.mem_of_mem_take
def Tz:=@PySem.wpAny_newList
def Tw:=@List.any_cons
def Tv:=@PySem.wpAny_attempt
def Tt:=@Int.mul_assoc
def wdp:=@Array.getElem?_setIfInBounds
def Tr:=@Bool.not_true
def Tq:=@Int.ofNat.inj
def Tp:=@Bool.true_and
def Tn:=@Nat.mul_assoc
def W4:=@PySem.wpAny_execs_nil
def Y6:=@PySem.W.plainGet_of
def W3:=@PySem.F.slot_int_rmul
def Y5:=@Nat.add_sub_cancel'
def Rn:=@PyProof.Rows.seqEpoch_at
def W0:=@PySem.pushCells_keeps
def WY:=@Bool.or_eq_true
def Rm:=@Int.mul_pos
def wed:=@List.filter_sublist
def Y4:=@List.map_congr_left
def wef:=@Int.mul_lt_mul_of_pos_left
def weg:=@Int.le_of_mul_le_mul_right
def Y0:=@PyProof.Rows.assignInOrder_cons
def YZ:=@PySem.W.callWith_K
def YX:=@List.zip_cons_cons
def YW:=@Nat.add_sub_cancel
def YT:=@PyProof.Rows.firstMet_length_le
def YS:=@PySem.Code.quiet_builtin
def Tj:=@Int.zero_add
def Ti:=@Int.le_of_eq
def YQ:=@Array.getElem_push
def WX:=@PySem.wpAny_fieldsOf
def wer:=@Int.eq_of_mul_eq_mul_left
def wes:=@Int.lt_of_mul_lt_mul_left
def Dk:=@PyProof.Rows.wpS_get
def WW:=@PyProof.Rows.IntsAre.length
def wev:=@List.mem_or_eq_of_mem_set
def YM:=@List.take_sublist
def YL:=@Nat.le_of_succ_le
def wey:=@PyProof.noPylong_of_log2
def YK:=@PySem.Obj.cls_mapFields
def YJ:=@PySem.wpAny_storeSet_of
def YH:=@PySem.fits_of_scanBound
def wfc:=@Array.size_setIfInBounds
def YG:=@Bool.not_eq_true'
def wfe:=@List.sublist_append_left
def YF:=@Nat.mul_div_assoc
def WT:=@PySem.wpAny_standAt
def Ja:=@if_true
def wfi:=@PyProof.Rows.firstMet_succ
def wfj:=@PySem.F.entry_type_call
def WR:=@Nat.add_assoc
def WQ:=@Nat.le_of_dvd
def wfm:=@Nat.gcd_pos_of_pos_left
def YD:=@PySem.noFill_tuple_add
def YC:=@List.getElem_map
def YB:=@Option.getD_some
def Yz:=@PySem.AutoSeq1.idx_int
def Yy:=@Nat.gcd_dvd_left
def Yx:=@Int.natCast_ediv
def wft:=@List.getElem?_set_self
def wfu:=@PySem.W.cellsFrom_some
def wfv:=@Nat.le_mul_of_pos_left
def wfw:=@PySem.W.methodCall_KW
def Yw:=@List.of_mem_zip
def WM:=@List.map_nil
def Yv:=@List.length_set
def WL:=@Nat.zero_add
def Yu:=@Int.natCast_mul
def Yt:=@PySem.codeAny_of_tree
def wgd:=@PySem.F.plain_set_new
def WK:=@PySem.sub_set_self
def WD:=@Nat.sub_zero
def Wz:=@Nat.sub_self
def Wy:=@List.all_map
def Yr:=@Int.le_antisymm
def Wx:=@Nat.mul_zero
def Yq:=@List.filter_nil
def Tg:=@PySem.typeIs_int
def Om:=@PyProof.Rows.wpS_lift
def Yp:=@Bool.false_and
def Yo:=@Bool.and_false
def Yn:=@List.Perm.refl
def Ww:=@Int.mul_one
def Ym:=@Int.lt_irrefl
def Wv:=@Nat.sub_le
def Wu:=@Nat.mod_lt
def Yl:=@Int.le_trans
def Yk:=@List.map_map
def Yj:=@List.map_set
def Tf:=@or_false
def aH:=@List.length_map
def aB:=@Nat.le_refl
def dJ:=@List.getElem?_eq_getElem
def dH:=@PySem.Heap.get?_push_of_some
def eV:=@List.mem_cons_of_mem
def jF:=@List.getD_eq_getElem?_getD
def dW:=@List.size_toArray
def dX:=@List.getElem?_map
def dB:=@List.map_append
def cD:=@Nat.le_of_lt
def gq:=@Nat.lt_of_lt_of_le
def cg:=@Nat.zero_le
def gG:=@List.mem_cons_self
def cO:=@PySem.Heap.lt_size
def cN:=@Nat.ne_of_lt
def jE:=@PySem.Heap.get?_push_size
def p8:=@List.getElem?_eq_some_iff
def dU:=@List.mem_cons
def dD:=@Nat.le_trans
def kI:=@List.mem_singleton
def mJ:=@Array.length_toList
def iM:=@List.mem_filter
def pO:=@List.mem_of_getElem?
def m6:=@Nat.lt_succ_of_lt
def p7:=@List.length_append
def yW:=@Array.getElem?_eq_getElem
def tZ:=@List.mem_append_right
def nO:=@List.length_cons
def pZ:=@List.length_range
def m5:=@Array.size_push
def pL:=@Nat.lt_succ_self
def pJ:=@List.all_eq_true
def pI:=@List.mem_append
def Aj:=@Nat.mul_div_cancel_left
def nM:=@List.mem_range
def kW:=@List.mem_map
def Ai:=@List.length_filter_le
def yV:=@List.getElem_of_mem
def tY:=@List.getElem_mem
def tX:=@Nat.succ_ne_zero
def tM:=@List.range_succ
def Jq:=@List.pairwise_iff_getElem
def I9:=@List.take_of_length_le
def tL:=@Nat.lt_irrefl
def Cz:=@Nat.lt_of_le_of_lt
def Cy:=@List.filter_append
def Dd:=@List.replicate_succ
def Cw:=@Int.toNat_natCast
def wF:=@PySem.Heap.size_push
def tK:=@Nat.succ_pos
def Jp:=@Array.getElem?_toList
def Jo:=@List.getElem?_eq_none
def Ol:=@Int.eq_of_mul_eq_mul_right
def Cv:=@List.lookup_cons
def Rk:=@Int.mul_le_mul_of_nonneg_left
def yU:=@Int.mul_nonneg
def tW:=@Nat.le_of_eq
def Cu:=@List.append_nil
def Cr:=@List.nodup_cons
def v8:=@Int.mul_zero
def Dc:=@List.length_take
def IW:=@List.take_add_one
def Ma:=@List.mem_append_left
def Jm:=@Nat.lt_of_le_of_ne
def IV:=@List.filter_cons
def IK:=@List.take_length
def Oj:=@List.length_replicate
def Oi:=@PySem.Heap.get?_update_self
def yS:=@Int.mul_comm
def LR:=@Array.size_reverse
def Te:=@Array.perm_iff_toList_perm
def Rj:=@List.length_pos_of_mem
def LQ:=@List.flatten_cons
def LK:=@Nat.le_of_lt_succ
def yR:=@Int.le_refl
def yQ:=@Int.one_mul
def Wt:=@Array.toList_eraseIdxIfInBounds
def CZ:=@List.map_cons
def Cq:=@Int.le_of_lt
def Ri:=@Array.getElem_extract
def LC:=@List.length_nil
def Lz:=@Nat.not_lt_zero
def Rh:=@List.filter_eq_self
def Rg:=@List.getElem?_range
def Ly:=@Nat.min_le_left
def Td:=@PySem.Heap.get?_update_other
def Tc:=@List.pairwise_lt_range
def Ws:=@List.getElem?_append_right
def Wr:=@Array.toList_setIfInBounds
def Iz:=@Nat.ne_of_gt
def Iw:=@Nat.lt_trans
def S9:=@Nat.sub_one_lt_of_le
def S8:=@List.pairwise_append
def S6:=@List.mem_erase_of_ne
def Rf:=@List.any_eq_false
def Rb:=@List.append_assoc
def Oh:=@Nat.le_antisymm
def Wq:=@Nat.succ_add_eq_add_succ
def Wo:=@List.length_erase_of_mem
def Ra:=@Nat.gcd_dvd_right
def Yi:=@Array.eq_empty_of_size_eq_zero
def Jl:=@Int.ofNat_lt
def SX:=@List.filterMap_cons
def SQ:=@Int.toNat_of_nonneg
def Wn:=@List.filter_cons_of_pos
def Wk:=@List.filter_cons_of_neg
def Q9:=@List.any_eq_true
def SN:=@Nat.pos_of_ne_zero
def SM:=@Array.append_empty
def SJ:=@Int.natAbs_natCast
def Jk:=@Nat.le_succ
def Wj:=@List.cons_lt_cons_iff
def Wi:=@Array.getElem_reverse
def Sy:=@List.ext_getElem?
def Ss:=@List.pairwise_map
def Yh:=@Int.fdiv_eq_ediv_of_nonneg
def Wg:=@Nat.le_sub_one_of_lt
def Yg:=@List.getElem?_append_left
def Sq:=@List.not_mem_nil
def Og:=@Nat.mul_comm
def Wf:=@Array.size_extract
def Wd:=@Nat.eq_zero_or_pos
def yet:=@List.mem_replicate
def Sg:=@Int.natAbs_mul
def Q8:=@Int.zero_mul
namespace Hd
open PySem PySem.W PySem.Calls PyProof.Rows
-- a run of the text's top over the heap as a tree, as one fold
noncomputable def Pg(tb:String->Option Builtin)(p:ρ)(w:υ)(m:Nat)(ann:Option ζ)(n:Nat):SharedT->Thread->Option SharedT:=
 @Nat.rec (fun _=>SharedT->Thread->Option SharedT) (fun _ _=>none)
  (fun _ ih s t=> @Bool.rec (fun _=>Option SharedT)
   (@Bool.rec (fun _=>Option SharedT) none
    (@Option.rec (SharedT×Thread) (fun _=>Option SharedT) none (fun r=>ih r.1 r.2) (stepT (denote tb) p w s t)) (stepOk m ann t))
   (some s) (through t)) n
theorem JL{tb:String->Option Builtin}{p:ρ}{w:υ}{m:Nat}{ann:Option ζ}:∀(n:Nat) (s s':SharedT) (t:Thread),
  Pg tb p w m ann n s t=some s'->topRun tb p w m ann n s.abs t=some s'.abs:=by
 intro n
 induction n with
 |zero=>intro s s' t h;exact absurd h (by intro h;cases h)
 |succ n ih=>
  intro s s' t h;have h1: @Bool.rec (fun _=>Option SharedT) (@Bool.rec (fun _=>Option SharedT) none
    (@Option.rec (SharedT×Thread) (fun _=>Option SharedT) none (fun r=>Pg tb p w m ann n r.1 r.2) (stepT (denote tb) p w s t)) (stepOk m ann t))
    (some s) (through t)=some s':=h
  unfold topRun;cases e1:through t with
  |true=>rw[e1]at h1;injection h1 with h1;rw[h1]
  |false=>
   rw[e1]at h1;cases e2:stepOk m ann t with
   |false=>rw[e2]at h1;cases h1
   |true=>
    rw[e2]at h1;cases e3:stepT (denote tb) p w s t with
    |none=>rw[e3]at h1;cases h1
    |some r=>
     rw[e3]at h1;have e4:=stepT_spec (s':=r.1) (t':=r.2) e3;show(match step (denote tb) p w s.abs t with | .go a b=>topRun tb p w m ann n a b| .halt _ _=>none)=_;rw[e4];exact ih _ _ _ h1
noncomputable def treeOf(l:List Obj):BT:=(l.foldl (fun x o=>(x.1.ins x.2 o,x.2+1)) ((BT.nil,0):BT×Nat)).1
-- the run from the start that the kit has laid
noncomputable def ran(p:ρ)(N:Nat)(w:υ)(os:OsState):Option SharedT:=
 Pg treeTable p w 11 (some (.ref 6)) N ⟨treeOf (boot_heap w.params).objs.toList,11,{},Array.mk [],boot_drawn,boot_toks,os⟩ (topStub p)
-- what is looked at behind the run
noncomputable def looked(p q:ρ)(loose:List Str)(Xt:η->Bool)(g0:Bool)(h:Heap)(s:η):=
 ((staticsOk (importedModules p.main.body) h s.heap&&namesBound p s.heap&&gensDone s&&laidKept h s.heap),openSeen q loose (importedModules p.main.body) Xt g0 s)
noncomputable def qW(p q:ρ)(loose:List Str)(Xt:η->Bool)(g0:Bool)(N:Nat):Prop:=
 ∀(w:υ) (os:OsState),(ran p N w os).map (fun s=>looked p q loose Xt g0 (boot_heap w.params) s.abs)=some (true,openGood q loose)
theorem Ko{p q:ρ}{loose:List Str}{Xt:η->Bool}{α:Type}{Yf:η->α}{Ya:υ->α}{N:Nat}{g0:Bool}(r:qW p q loose Xt g0 N)(e:opening p=plainProg p.main.scope.names)(hN:Nat.ble 600 N=true)(f:∀s,fenceModules? p s=some s)(y:∀(w:υ) (os:OsState),(ran p N w os).map (fun s=>Yf s.abs)=some (Ya w)):
  LeftO p q loose Xt Yf Ya N g0:=fun w=>by
 have b:((boot_heap w.params).isNs mainGlobals&&(Array.mk []:Array GenState).size==0,(boot_heap w.params).objs.size,(boot_heap w.params).nsMap mainGlobals "__annotations__")=(true,11,some (.ref 6)):=by kernel_rfl
 have c:absHeap (treeOf (boot_heap w.params).objs.toList) 11 {}=boot_heap w.params:=by kernel_rfl
 obtain⟨⟨h,gs',d',k',os⟩,e1,e'⟩:=Option.map_eq_some_iff.mp (boot_open e hN f w);obtain⟨rfl,rfl,rfl,rfl⟩:h=boot_heap w.params/\gs'=Array.mk []/\d'=boot_drawn/\k'=boot_toks:=by simpa using e'
 obtain⟨b1,b2,b3⟩:_/\_/\_:=by simpa only[Prod.mk.injEq]using b
 obtain⟨s,r1,r2⟩:=Option.map_eq_some_iff.mp (r w os);obtain⟨s',y1,y2⟩:=Option.map_eq_some_iff.mp (y w os);have es:s'=s:=by rw[r1]at y1;injection y1 with y1;exact y1.symm
 subst es;obtain⟨l1,l2⟩:_/\_:=by simpa only[looked,Prod.mk.injEq]using r2
 have t1:=JL N _ _ _ r1;have ab:SharedT.abs ⟨treeOf (boot_heap w.params).objs.toList,11,{},Array.mk [],boot_drawn,boot_toks,os⟩=⟨boot_heap w.params,Array.mk [],boot_drawn,boot_toks,os⟩:=by unfold SharedT.abs;rw[c]
 rw[ab]at t1;have t:topFrom treeTable p w N ⟨boot_heap w.params,Array.mk [],boot_drawn,boot_toks,os⟩=some s'.abs:=by
  unfold topFrom;dsimp only;rw[b1,b2,b3,t1];show(match staticsOk (importedModules p.main.body) (boot_heap w.params) s'.abs.heap&&namesBound p s'.abs.heap&&gensDone s'.abs&&laidKept (boot_heap w.params) s'.abs.heap with |true=>_|false=>_)=_;rw[l1]
 unfold openEnds;rw[e1];show(topFrom treeTable p w N _).map _=_;rw[t];show some (_,_)=_;rw[l2,y2]
end Hd
section
open PySem PySem.W PyProof.Rows
namespace Hd
noncomputable abbrev L:=PySem.Challenge.rw_hueshare_k30_shares_spread
noncomputable def Q:ρ:=view L.row.toRowW.prog [1,2,3,4,6,7,8,9,10,11,12,13,14,15,17,18,19,21,22,23,24,26,27,28,29,30,32,33,34,35,36,37,39,40,41,42,43,44,45,46,47]
noncomputable abbrev X:η->Bool:=fun s=>xlAt Q [] s&&recOk (RowW.records L.row.toRowW) s
set_option maxRecDepth 100000 in
theorem looks:qW L.row.toRowW.prog Q [] X true 4932:=fun w os=>by kernel_rfl
end Hd
local macro_rules
 |`(tactic|o_head $H)=>`(tactic|
  refine holds_open (q:=Hd.Q) (loose:=[]) (N:=4932) (Xt:=Hd.X) (XP:=XL Hd.Q [])
   (Yf:=Hook.obs $H) (Ya:=Hook.val $H) (YP:=Hook.says $H)
   (Hd.Ko Hd.looks (by kernel_rfl) rfl (fun _=>by kernel_rfl) (fun _ _=>by kernel_rfl))
   (Hook.of $H) (Hook.keeps $H) (fun s e=>xl_of s (Bool.and_eq_true_iff.mp e).1) XL.keeps
   (by rfl) (by rfl) (by rfl) (fun s e=>recFacts_of (Bool.and_eq_true_iff.mp e).2) (by rfl)
   (by first |assumption|decide+kernel) (by decide+kernel) ⟨rfl,rfl,rfl,rfl,rfl,by decide+kernel⟩ ?hw ?hc)
set_option maxRecDepth 100000 in
set_option maxHeartbeats 0 in
noncomputable def Hd.early:PSigma fun P:Prop=>P->PySem.Challenge.rw_hueshare_k30_shares_spread.Holds:=by
 refine⟨?P,fun W=> ?_⟩
 rotate_left
 w_on;o_law;k_head;(case hw=>w_witness2)
 exact W
end
namespace L2
open PySem PySem.Spec PyProof.Rows
noncomputable abbrev Key:=Sum Int Str
noncomputable def keyIs:Key->ζ->Bool
 | .inl k,v=>Value.isInt k v
 | .inr x,v=>Value.isStrOf x v
noncomputable def keyH(w:υ):Key->Int
 | .inl k=>hashInt k
 | .inr x=>hashStr w x
theorem Ir:∀{k:Key} {v:ζ},keyIs k v=true->(∃i t,k=Sum.inl i/\v=Value.int i t)\/(∃x t,k=Sum.inr x/\v=Value.str x t)
 | .inl i,v,h=>by
  obtain⟨t,e⟩:=Ru (k:=i) (v:=v) h;exact .inl ⟨i,t,rfl,e⟩
 | .inr x,v,h=>by
  obtain⟨t,e⟩:=Value.isStrOf_shape (x:=x) (v:=v) h;exact .inr ⟨x,t,rfl,e⟩
theorem key_ll(a b:Int):decide ((Sum.inl a:Key)=Sum.inl b)=(a==b):=by
 by_cases e:a=b
 ·subst e;simp
 ·have h:¬(Sum.inl a:Key)=Sum.inl b:=fun q=>e (Sum.inl.inj q);rw[gB h];exact(beq_eq_false_iff_ne.mpr e).symm
theorem key_rr(a b:Str):decide ((Sum.inr a:Key)=Sum.inr b)=decide (a=b):=by
 by_cases e:a=b
 ·subst e;simp
 ·have h:¬(Sum.inr a:Key)=Sum.inr b:=fun q=>e (Sum.inr.inj q);rw[gB h,gB e]
theorem key_lr(a:Int)(b:Str):decide ((Sum.inl a:Key)=Sum.inr b)=false:=gB (fun q=>nomatch q)
theorem key_rl(a:Str)(b:Int):decide ((Sum.inr a:Key)=Sum.inl b)=false:=gB (fun q=>nomatch q)
noncomputable def mixKind(prog:ρ)(w:υ):PySem.KeyKind prog w Key where
 is:=keyIs
 hash:=keyH w
 inj:=fun v a b ha hb=>by
  rcases Ir ha with⟨i,t,rfl,rfl⟩|⟨x,t,rfl,rfl⟩
  ·rcases Ir hb with⟨j,u,rfl,e⟩|⟨y,u,rfl,e⟩
   ·injection e with e1 _;rw[e1]
   ·exact nomatch e
  ·rcases Ir hb with⟨j,u,rfl,e⟩|⟨y,u,rfl,e⟩
   ·exact nomatch e
   ·injection e with e1 _;rw[e1]
 byValue:=fun k v h=>by
  rcases Ir h with⟨i,t,rfl,rfl⟩|⟨x,t,rfl,rfl⟩<;>rfl
 pyHash:=fun hv h=>by
  rcases Ir hv with⟨i,t,rfl,rfl⟩|⟨x,t,rfl,rfl⟩
  ·exact wpAny_pyHash_int h
  ·exact wpAny_pyHash_str h
 eqBool:=fun hu hv h=>by
  rcases Ir hu with⟨i,t,rfl,rfl⟩|⟨x,t,rfl,rfl⟩
  ·rcases Ir hv with⟨j,u,rfl,rfl⟩|⟨y,u,rfl,rfl⟩
   ·rw[key_ll]at h;exact wpAny_eqBool_int h
   ·rw[key_lr]at h;exact SeqAt.EqAt.int_str i t y u _ _ _ _ h
  ·rcases Ir hv with⟨j,u,rfl,rfl⟩|⟨y,u,rfl,rfl⟩
   ·rw[key_rl]at h;exact SeqAt.EqAt.str_int x t j u _ _ _ _ h
   ·rw[key_rr]at h;exact wpAny_eqBool_str h
 «strs»:=fun k x t v h=>by
  rcases Ir h with⟨i,u,rfl,e⟩|⟨y,u,rfl,e⟩
  ·exact nomatch e
  ·injection e with e1 _
   subst e1;cases v<;>rfl
inductive V where
 |non|bl (b:Bool)|int (i:Int)|str (x:Str)|byt (b:Array UInt8)|flt (b:UInt64)|ref (a:Addr)|ty (n:String)
 deriving DecidableEq
noncomputable def RelV:V->ζ->Prop
 | .non,u=>u=Value.none
 | .bl b,u=>u=Value.bool b
 | .int i,u=>∃t,u=Value.int i t
 | .str x,u=>∃t,u=Value.str x t
 | .byt b,u=>∃t,u=Value.bytes b t
 | .flt b,u=>∃t,u=Value.float b t
 | .ref a,u=>u=Value.ref a
 | .ty n,u=>u=Value.type n
noncomputable abbrev Vals:List V->List ζ->Prop:=Paired RelV
theorem Vals.length{xs:List V}{us:List ζ}(r:Vals xs us):xs.length=us.length:=Paired.length r
theorem Vals.get:∀{xs:List V} {us:List ζ} {i:Nat} {x:V},Vals xs us->xs[i]? =some x->∃u,us[i]? =some u/\RelV x u
 |_,_,_,_,.nil,e=>by simp at e
 |_,_,0,_,.cons r _,e=>by simp at e;subst e;exact⟨_,rfl,r⟩
 |_,_,i+1,x,.cons _ t,e=>by
  obtain⟨u,h1,h2⟩:=Vals.get (i:=i) (x:=x) t (by simpa using e);exact⟨u,by simpa using h1,h2⟩
theorem Vals.set{x:V}{u:ζ}(r:RelV x u):∀{xs:List V} {us:List ζ} (i:Nat),Vals xs us->Vals (xs.set i x) (us.set i u)
 |_,_,_,.nil=> .nil
 |_,_,0,.cons _ t=> .cons r t
 |_,_,i+1,.cons q t=> .cons q (Vals.set r i t)
theorem Vals.append:∀{xs ys:List V} {us ws:List ζ},Vals xs us->Vals ys ws->Vals (xs++ys) (us++ws)
 |_,_,_,_,.nil,s=>s
 |_,_,_,_,.cons r t,s=> .cons r (Vals.append t s)
theorem Vals.take:∀{xs:List V} {us:List ζ} (n:Nat),Vals xs us->Vals (xs.take n) (us.take n)
 |_,_,0,_=> .nil
 |_,_,_+1,.nil=> .nil
 |_,_,n+1,.cons r t=> .cons r (Vals.take n t)
theorem Vals.drop:∀{xs:List V} {us:List ζ} (n:Nat),Vals xs us->Vals (xs.drop n) (us.drop n)
 |_,_,0,r=>r
 |_,_,_+1,.nil=> .nil
 |_,_,n+1,.cons _ t=>Vals.drop n t
noncomputable def RelO:Option V->Option ζ->Prop
 |some v,some u=>RelV v u
 |none,none=>True
 |_,_=>False
noncomputable def KV{κ:Type}:List (κ×V)->List (κ×ζ)->Prop:=Paired fun(p:κ×V) (q:κ×ζ)=>p.1=q.1/\RelV p.2 q.2
noncomputable def kV:Key->V
 | .inl i=> .int i
 | .inr x=> .str x
inductive HO where
 /-- a list -/
 |lst (xs:List V)
 /-- a tuple (never changes) -/
 |tup (xs:List V)
 /-- a dict whose keys are ints and texts; one whose keys are tuples of ints and texts (the empty one is both) -/
 |dK (kvs:List (Key×V))|dT (kvs:List (List Key×V))
 /-- a set of ints: its members, its size -/
 |set (S:Int->Bool) (n:Nat)
 /-- an instance of the class at C, its dict at dx, its attributes -/
 |ins (C dx:Addr) (fs:List (Str×V))
 /-- the dict of the instance at x -/
 |own (x:Addr)
 /-- the dict of an exception -/
 |xd (fs:List (Str×V))
 /-- a bound method, f of x -/
 |met (f x:Addr)
 /-- a range object lo, lo + 1, .. below hi -/
 |rng (lo hi:Int)
 /-- a thing that is known to the object (the script; a dict while a loop walks it): read, never written while it is so -/
 |frz (o:Obj) (u:HO)
 /-- a code object's table -/
 |tbl (ps:Array ζ)
 /-- any other thing, by what is true of its one object (a def of one's own: SetO a S n := HO.ext fun h => ..) -/
 |ext (φ:Heap->Prop)
noncomputable abbrev Hp:=Addr->Option HO
noncomputable def upd(H:Hp)(a:Addr)(o:HO):Hp:=fun b=>if b=a then some o else H b
theorem aR{H:Hp}{a:Addr}{o:HO}:upd H a o a=some o:=by unfold upd;rw[ak rfl]
theorem cG{H:Hp}{a b:Addr}{o:HO}(h:b≠a):upd H a o b=H b:=by unfold upd;rw[aj h]
theorem upd_upd{H:Hp}{a:Addr}{o u:HO}:upd (upd H a o) a u=upd H a u:=by
 funext b;unfold upd;split<;>rfl
theorem ne_of{H:Hp}{a b:Addr}{o u:HO}(h:H a=some o)(h':H b=some u)(d:o≠u):a≠b:=by
 intro e;subst e;rw[h]at h';exact d (pQ h')
theorem mZ{H:Hp}{a b:Addr}{o:HO}(h:H a=some o)(h':H b=none):a≠b:=by
 intro e;subst e;rw[h]at h';cases h'
section
variable(P:ρ)(w:υ)
noncomputable def ObjOk(H:Hp)(h:Heap)(a:Addr):HO->Prop
 | .lst xs=>xs.length<=sizeLine/\∃(its:List ζ) (n:Nat),Vals xs its/\h.get? a=some {cls:= .type "list",data:= .seq its.toArray n}
 | .tup xs=>xs.length<=sizeLine/\∃its:List ζ,Vals xs its/\IsTup h a its.toArray
 | .dK kvs=>kvs.length<=sizeLine/\(a==sysModules)=false/\∃vs,KV kvs vs/\h.DictOf (mixKind P w) a vs
 | .dT kvs=>kvs.length<=sizeLine/\(a==sysModules)=false/\∃xs:List (List Key×Addr×ζ),
   Paired (fun(p:List Key×V) (q:List Key×Addr×ζ)=>p.1=q.1/\H q.2.1=some (.tup (p.1.map kV))/\RelV p.2 q.2.2) kvs xs/\
   ∃o es ep,h.get? a=some o/\o.ExactDict/\o.data= .dict es ep/\es.toList=xs.map (entryOfKey (tupleKind (mixKind P w)))/\(xs.map (·.1)).Nodup
 | .set S n=>h.SetOf (intKind P w) a S n
 | .ins C dx fs=>H dx=some (.own a)/\fs.length<=1000/\dx≠a/\h.get? a=some (PySem.W.instObj C dx)/\
   ∃mA,h.Ns1 dx mA/\(∀f,RelO (fs.lookup f) (mA f))/\PySem.Within mA (fs.map (·.1))
 | .own _=>∃o,h.get? a=some o
 | .xd fs=>∃mA,h.Ns1 a mA/\∀f,RelO (fs.lookup f) (mA f)
 | .rng lo hi=>∃t u v,h.get? a=some {cls:= .type "range",data:= .fields #[.int lo t,.int hi u,.int 1 v]}
 | .frz o u=>h.get? a=some o/\ObjOk H h a u
 | .tbl ps=>h.get? a=some {cls:= .none,data:= .fields ps}
 | .met f x=>h.get? a=some (PySem.W.methodObj (.ref f) (.ref x))
 | .ext φ=>φ h/\(∃o,h.get? a=some o)/\∀h1 h2:Heap,φ h1->(∀o,h1.get? a=some o->h2.get? a=some o)->φ h2
noncomputable def HOk(H:Hp)(h:Heap):Prop:=∀a o,H a=some o->ObjOk P w H h a o
end
section
variable{P:ρ}{w:υ}{H H':Hp}{h h':Heap}{a:Addr}{o:HO}
theorem ObjOk.lt(x:ObjOk P w H h a o):a<h.objs.size:=by
 cases o with
 |lst xs=>obtain⟨_,_,_,_,e⟩:=x;exact cO e
 |tup xs=>obtain⟨_,_,_,p⟩:=x;exact p.lt
 |dK kvs=>obtain⟨_,_,_,_,o,_,_,e,_⟩:=x;exact cO e
 |dT kvs=>obtain⟨_,_,_,_,o,_,_,e,_⟩:=x;exact cO e
 |set S n=>obtain⟨o,_,_,_,e,_⟩:=x;exact cO e
 |ins C dx fs=>obtain⟨_,_,_,e,_⟩:=x;exact cO e
 |own y=>obtain⟨_,e⟩:=x;exact cO e
 |xd fs=>obtain⟨_,⟨_,_,_,e,_⟩,_⟩:=x;exact cO e
 |rng lo hi=>obtain⟨_,_,_,e⟩:=x;exact cO e
 |frz ob u=>obtain⟨e,_⟩:=x;exact cO e
 |tbl ps=>exact cO (show h.get? a=some _ from x)
 |met f y=>exact cO (show h.get? a=some _ from x)
 |ext φ=>obtain⟨_,⟨_,e⟩,_⟩:=x;exact cO e
theorem Paired.mapP{α β:Type}{F G:α->β->Prop}:∀{l₁:List α} {l₂:List β},Paired F l₁ l₂->(∀a b,F a b->G a b)->Paired G l₁ l₂
 |_,_,.nil,_=> .nil
 |_,_,.cons r t,f=> .cons (f _ _ r) (Paired.mapP t f)
theorem ObjOk.stay(x:ObjOk P w H h a o)(k:∀b u,(b=a\/H b=some (.own a))->h.get? b=some u->h'.get? b=some u)(ho:∀b,H b=some (.own a)->H' b=some (.own a))(ht:∀b xs,H b=some (.tup xs)->H' b=some (.tup xs)):ObjOk P w H' h' a o:=by
 induction o with
 |lst xs=>obtain⟨z,its,n,r,e⟩:=x;exact⟨z,its,n,r,k _ _ (.inl rfl) e⟩
 |tup xs=>obtain⟨z,its,r,ob,e,c⟩:=x;exact⟨z,its,r,ob,k _ _ (.inl rfl) e,c⟩
 |dK kvs=>obtain⟨z,y,vs,r,ob,es,ep,e,c⟩:=x;exact⟨z,y,vs,r,ob,es,ep,k _ _ (.inl rfl) e,c⟩
 |dT kvs=>
  obtain⟨z,y,xs,r,ob,es,ep,e,c⟩:=x;exact⟨z,y,xs,Paired.mapP r fun p q z=>⟨z.1,ht _ _ z.2.1,z.2.2⟩,ob,es,ep,k _ _ (.inl rfl) e,c⟩
 |set S n=>obtain⟨ob,es,ep,t,e,c⟩:=x;exact⟨ob,es,ep,t,k _ _ (.inl rfl) e,c⟩
 |ins C dx fs=>
  obtain⟨d,z,ne,e,mA,⟨od,es,ep,e2,c⟩,r⟩:=x;exact⟨ho _ d,z,ne,k _ _ (.inl rfl) e,mA,⟨od,es,ep,k _ _ (.inr d) e2,c⟩,r⟩
 |own y=>obtain⟨ob,e⟩:=x;exact⟨ob,k _ _ (.inl rfl) e⟩
 |xd fs=>obtain⟨mA,⟨od,es,ep,e,c⟩,r⟩:=x;exact⟨mA,⟨od,es,ep,k _ _ (.inl rfl) e,c⟩,r⟩
 |rng lo hi=>obtain⟨t,u,v,e⟩:=x;exact⟨t,u,v,k _ _ (.inl rfl) e⟩
 |frz ob u ih=>obtain⟨e,q⟩:=x;exact⟨k _ _ (.inl rfl) e,ih q⟩
 |tbl ps=>
  have e:h.get? a=some {cls:= .none,data:= .fields ps}:=x;show h'.get? a=some {cls:= .none,data:= .fields ps};exact k a _ (.inl rfl) e
 |met f y=>
  have e:h.get? a=some (PySem.W.methodObj (.ref f) (.ref y)):=x;show h'.get? a=some (PySem.W.methodObj (.ref f) (.ref y));exact k a _ (.inl rfl) e
 |ext φ=>obtain⟨p,⟨o,e⟩,st⟩:=x;exact⟨st _ _ p fun o q=>k _ _ (.inl rfl) q,⟨o,k _ _ (.inl rfl) e⟩,st⟩
theorem HOk.lt(x:HOk P w H h)(e:H a=some o):a<h.objs.size:=(x a o e).lt
theorem HOk.fresh(x:HOk P w H h)(e:h.objs.size<=a):H a=none:=by
 cases q:H a with
 |none=>rfl
 |some u=>exact absurd (gq (x.lt q) e) (tL _)
theorem HOk.kept(x:HOk P w H h)(k:∀b u,h.get? b=some u->h'.get? b=some u):HOk P w H h':=fun a o e=>
 (x a o e).stay (fun b u _ q=>k b u q) (fun _ q=>q) fun _ _ q=>q
theorem HOk.laid(x:HOk P w H h)(k:∀b u,h.get? b=some u->h'.get? b=some u)(hp:h.objs.size<=a)(new:ObjOk P w (upd H a o) h' a o):HOk P w (upd H a o) h':=fun b u e=>by
 have hn:=x.fresh hp;by_cases hb:b=a
 ·subst hb;rw[aR]at e;cases e;exact new
 ·rw[cG hb]at e;exact(x b u e).stay (fun c v _ q=>k c v q) (fun c q=>by rw[cG (mZ q hn)];exact q) fun c xs q=>by rw[cG (mZ q hn)];exact q
end
noncomputable def Rd(H:Hp)(a:Addr)(u:HO):Prop:=H a=some u\/∃o,H a=some (.frz o u)
theorem Rd.ok{P:ρ}{w:υ}{H:Hp}{h:Heap}{a:Addr}{u:HO}(r:Rd H a u)(x:HOk P w H h):ObjOk P w H h a u:=by
 rcases r with r|⟨o,r⟩
 ·exact x a u r
 ·obtain⟨_,q⟩:=x a _ r;exact q
noncomputable def Mut:Option HO->Prop
 |some (.lst _)=>True
 |some (.dK _)=>True
 |some (.dT _)=>True
 |some (.set _ _)=>True
 |some (.ins _ _ _)=>True
 |some (.ext _)=>True
 |_=>False
section
variable{P:ρ}{w:υ}{H:Hp}{h h':Heap}{x e:Addr}{o':HO}
theorem HOk.write(ok:HOk P w H h)(mu:Mut (H x))(he:e=x\/H e=some (.own x))(k:∀b u,b≠e->h.get? b=some u->h'.get? b=some u)(heo:∃u,h'.get? e=some u)(new:ObjOk P w (upd H x o') h' x o'):HOk P w (upd H x o') h':=fun b u q=>by
 have nown:∀c y,H c=some (.own y)->c≠x:=fun c y r z=>by subst z;rw[r]at mu;exact mu
 have ntup:∀c xs,H c=some (.tup xs)->c≠x:=fun c xs r z=>by subst z;rw[r]at mu;exact mu
 by_cases hb:b=x
 ·subst hb;rw[aR]at q;cases q;exact new
 ·rw[cG hb]at q;by_cases hbe:b=e
  ·have q':H b=some (.own x):=by
    rcases he with z|z
    ·exact absurd (hbe.trans z) hb
    ·rw[hbe];exact z
   rw[q]at q';cases q';obtain⟨v,hv⟩:=heo;exact⟨v,by rw[hbe];exact hv⟩
  ·refine(ok b u q).stay (fun c v hc r=>k c v ?_ r) (fun c r=>by rw[cG (nown c b r)];exact r) fun c xs r=>by rw[cG (ntup c xs r)];exact r
   rcases hc with rfl|hc
   ·exact hbe
   ·rintro rfl;rcases he with z|z
    ·exact nown c b hc z
    ·rw[hc]at z;cases z;exact hb rfl
end
structure Un(fs ex:List Addr)(H H':Hp)(h h':Heap):Prop where
 keep:∀b o,h.get? b=some o->H b=none->b∉fs->b∉ex->h'.get? b=some o
 slot:∀b o,h.get? b=some o->H b=none->b∈fs->b∉ex->∃sl,h'.get? b=some {o with slots:=sl}
 free:∀b o,h.get? b=some o->H b=none->b∉ex->H' b=none
 there:∀b o,h.get? b=some o->b∉ex->∃o',h'.get? b=some o'
 tups:∀b xs,H b=some (.tup xs)->H' b=some (.tup xs)
 frzs:∀b o u,H b=some (.frz o u)->H' b=some (.frz o u)
 tbls:∀b ps,H b=some (.tbl ps)->∃more,H' b=some (.tbl (ps++more))
section
variable{fs ex:List Addr}{H H1:Hp}{h h1 h':Heap}{a x e:Addr}{o:HO}
theorem Un.any(u:Un fs ex H H1 h h1){b:Addr}{ob:Obj}(q:h.get? b=some ob)(n:H b=none)(hx:b∉ex):∃sl,h1.get? b=some {ob with slots:=sl}:=by
 by_cases hb:b∈fs
 ·exact u.slot b ob q n hb hx
 ·exact⟨ob.slots,u.keep b ob q n hb hx⟩
theorem Un.kept(k:∀b u,h.get? b=some u->h'.get? b=some u):Un fs ex H H h h':=
 ⟨fun b ob q _ _ _=>k b ob q,fun b ob q _ _ _=>⟨ob.slots,k b ob q⟩,fun _ _ _ n _=>n,fun b ob q _=>⟨ob,k b ob q⟩,fun _ _ q=>q,fun _ _ _ q=>q,fun _ ps q=>⟨#[],by rw[q];simp⟩⟩
theorem Un.refl:Un fs ex H H h h:=Un.kept fun _ _ q=>q
theorem Un.laid(k:∀b u,h.get? b=some u->h'.get? b=some u)(hp:h.objs.size<=a)(hn:H a=none):Un fs ex H (upd H a o) h h' where
 keep:=fun b u q _ _ _=>k b u q
 slot:=fun b u q _ _ _=>⟨u.slots,k b u q⟩
 free:=fun b u q n _=>by rw[cG (cN (gq (cO q) hp))];exact n
 there:=fun b u q _=>⟨u,k b u q⟩
 tups:=fun b xs q=>by rw[cG (mZ q hn)];exact q
 frzs:=fun b u xs q=>by rw[cG (mZ q hn)];exact q
 tbls:=fun b ps q=>⟨#[],by rw[cG (mZ q hn),q];simp⟩
theorem Un.write(mu:Mut (H x))(he:e=x\/H e=some (.own x))(k:∀b u,b≠e->h.get? b=some u->h'.get? b=some u)(heo:∃u,h'.get? e=some u):Un fs ex H (upd H x o) h h':=by
 have hx:∀b,H b=none->b≠x:=fun b n z=>by subst z;rw[n]at mu;exact mu
 have hb:∀b,H b=none->b≠e:=fun b n z=>by
  subst z;rcases he with r|r
  ·exact hx b n r
  ·rw[n]at r;cases r
 have hm:∀b u,H b=some u->¬Mut (some u)->b≠x:=fun b u q nm z=>by subst z;rw[q]at mu;exact nm mu
 refine⟨fun b u q n _ _=>k b u (hb b n) q,fun b u q n _ _=>⟨u.slots,k b u (hb b n) q⟩,fun b u q n _=>by rw[cG (hx b n)];exact n,fun b u q _=> ?_,
  fun b xs q=>by rw[cG (hm b _ q fun z=>z)];exact q,fun b u xs q=>by rw[cG (hm b _ q fun z=>z)];exact q,fun b ps q=>⟨#[],by rw[cG (hm b _ q fun z=>z),q];simp⟩⟩
 by_cases hbe:b=e
 ·subst hbe;exact heo
 ·exact⟨u,k b u hbe q⟩
end
noncomputable def trk(h:Heap)(H:Hp):List Addr:=(List.range h.objs.size).filter fun a=>(H a).isSome
noncomputable def hidT(h:Heap)(H:Hp):Heap:=PySem.W.hideAll h (trk h H)
theorem hidT_size(h:Heap)(H:Hp):(hidT h H).objs.size=h.objs.size:=PySem.W.hideAll_size _ _
theorem hidT_get{h:Heap}{H:Hp}{b:Addr}{o:Obj}(e:h.get? b=some o)(n:H b=none):(hidT h H).get? b=some o:=
 PySem.W.hideAll_get _ e fun hm=>by
  have q:(H b).isSome=true:=(iM.mp hm).2;rw[n]at q;simp at q
theorem of_hidT{h:Heap}{H:Hp}{b:Addr}{o:Obj}(e:(hidT h H).get? b=some o):h.get? b=some o/\H b=none:=by
 have e':h.get? b=some o:=PySem.W.of_hideAll (trk h H) e;refine⟨e',?_⟩;cases q:H b with
 |none=>rfl
 |some x=>
  have hm:b∈trk h H:=iM.mpr ⟨nM.mpr (cO e'),by simp[q]⟩;have z:(hidT h H).get? b=none:=PySem.W.hideAll_none (trk h H) hm;rw[z]at e;cases e
structure Mod(K:W.Frag)(mg:L4)(base:Heap):Prop where
 kin:K.In base
 glob:base.Ns mainGlobals mg
 blt:∃mb,base.Ns builtinsNs mb/\∀x:Str,x≠"__name__"->mb x=bootBuiltins x
 nolimit:base.NoLimit
structure Cx where
 prog:ρ
 w:υ
 K:W.Frag
 mg:Str->Option ζ
 base:Heap
 A:Around
 N:List Str
 s₀:η
 H₀:Hp
 env:Env
 outer:List Env
 stack:List Env
 ex:List Addr
 fn:Str->Bool
 calm:Bool
 pn:L1
 xe:ζ->η->Prop
noncomputable def frs(l:List Env):List Addr:=l.filterMap (·.frame)
noncomputable abbrev Cx.fs(X:Cx):List Addr:=frs X.outer
noncomputable def Vis(sc:Scope)(x:Str):Prop:=sc.names.lookup x=some .local\/sc.names.lookup x=some .cell\/sc.names.lookup x=some .free
noncomputable def Loc(sc:Scope)(x:Str):Prop:=sc.names.lookup x=some .local\/sc.names.lookup x=some .cell
noncomputable def Look(env:Env)(h:Heap)(m:L4)(x:Str)(u:ζ):Prop:=
 (env.kindOf x=some .local/\m x=some u)\/((env.kindOf x=some .cell\/env.kindOf x=some .free)/\∃c,env.cells.lookup x=some c/\h.IsCell c (some u))
structure Cx.Ok(X:Cx):Prop where
 mod:Mod X.K X.mg X.base
 kind:X.env.scope.kind= .function
 glob:X.env.globals=mainGlobals
 blt:X.env.builtins=builtinsNs
 above:X.s₀.heap.objs.size<=X.env.locals
 inj:∀x y c,X.env.cells.lookup x=some c->X.env.cells.lookup y=some c->x=y
 has:∀x,(X.env.kindOf x=some .cell\/X.env.kindOf x=some .free)->∃c,X.env.cells.lookup x=some c
 cab:∀x c,X.fn x=true->X.env.cells.lookup x=some c->X.s₀.heap.objs.size<=c
 hd:X.calm=true->X.A.handled=none
 frames:X.A.frames=some X.stack
 stk:X.stack=X.outer\/(X.stack=X.env::X.outer/\X.env.frame=some X.env.locals)
 exf:∀b∈X.ex,b≠X.env.locals/\∀x c,X.env.cells.lookup x=some c->c≠b
 bs:∀b o,X.base.get? b=some o->X.s₀.heap.get? b=some o/\X.H₀ b=none
 bsz:X.base.objs.size<=X.s₀.heap.objs.size
 noex:∀b o,X.base.get? b=some o->b∉X.ex
 exfs:∀b∈X.ex,b∉X.fs
 funs:X.s₀.heap.FunFrames X.base X.outer
 frf:∀b∈X.fs,X.H₀ b=none
structure Inv(X:Cx)(pins:L1)(σ:List (Option V))(H:Hp)(s:η):Prop where
 ok:X.Ok
 os:s.os=X.s₀.os
 bare:AllBare s.gens
 base:Un X.fs X.ex X.H₀ H X.s₀.heap s.heap
 loc:∃m,s.heap.Ns X.env.locals m/\∀(i:Nat) (x:Str) (v:V),X.N[i]? =some x->σ[i]? =some (some v)->Vis X.env.scope x->∃u,RelV v u/\Look X.env s.heap m x u
 cell:∀x c,X.env.cells.lookup x=some c->∃v,s.heap.IsCell c v
 free:H X.env.locals=none
 freeC:∀x c,X.env.cells.lookup x=some c->H c=none
 pin:∀p∈X.pn++pins,s.heap.get? p.1=some p.2/\H p.1=none/\p.1≠X.env.locals/\p.1∉X.fs/\∀v,p.2.data≠.cell v
 hok:HOk X.prog X.w H s.heap
 len:σ.length=X.N.length
section
variable{X:Cx}{pins:L1}{σ:List (Option V)}{H H':Hp}{s:η}{h':Heap}
theorem Cx.Ok.nofr(ok:X.Ok){b:Addr}{o:Obj}(e:X.base.get? b=some o):b∉X.fs:=fun hb=>by
 have:=(ok.funs.mem hb).1;rw[e]at this;cases this
theorem Inv.bs(I:Inv X pins σ H s):∀b o,X.base.get? b=some o->s.heap.get? b=some o/\H b=none:=fun b o e=>
 ⟨I.base.keep b o (I.ok.bs b o e).1 (I.ok.bs b o e).2 (I.ok.nofr e) (I.ok.noex b o e),I.base.free b o (I.ok.bs b o e).1 (I.ok.bs b o e).2 (I.ok.noex b o e)⟩
theorem Inv.bk(I:Inv X pins σ H s):∀b o,X.base.get? b=some o->s.heap.get? b=some o:=fun b o e=>(I.bs b o e).1
theorem Inv.mod(I:Inv X pins σ H s):Mod X.K X.mg X.base:=I.ok.mod
theorem Inv.kIn(I:Inv X pins σ H s):X.K.In s.heap:=I.ok.mod.kin.keeps I.bk
theorem Inv.lt(I:Inv X pins σ H s):X.env.locals<s.heap.objs.size:=let⟨_,hn,_⟩:=I.loc;hn.lt
theorem Inv.sz(I:Inv X pins σ H s):X.s₀.heap.objs.size<=s.heap.objs.size:=dD I.ok.above (cD I.lt)
theorem Inv.nofs(I:Inv X pins σ H s){a:Addr}(h:s.heap.objs.size<=a):a∉X.fs:=fun hb=>by
 obtain⟨_,o,ho,_⟩:=I.ok.funs.mem hb;exact absurd (gq (cO ho) (dD I.sz h)) (tL _)
theorem Inv.cne(I:Inv X pins σ H s):∀x c,X.env.cells.lookup x=some c->c≠X.env.locals:=fun x c e z=>by
 obtain⟨v,o,ho,hd⟩:=I.cell x c e;obtain⟨m,⟨o',es,ep,ho',hd',_⟩,_⟩:=I.loc;rw[z,ho']at ho;cases ho;rw[hd']at hd;cases hd
theorem Inv.funs(I:Inv X pins σ H s):s.heap.FunFrames X.base X.outer:=by
 have all:∀(l:List Env),(∀b∈frs l,b∈X.fs)->X.s₀.heap.FunFrames X.base l->s.heap.FunFrames X.base l:=by
  intro l
  induction l with
  |nil=>intro _ _;trivial
  |cons env r ih=>
   intro hs hl;obtain⟨hk,⟨L,o,hf,hn,ho,hd⟩,hr⟩:=hl;have hL:L∈X.fs:=hs L (by unfold frs;rw[SX,hf];exact gG);obtain⟨sl,e⟩:=I.base.slot L o ho (I.ok.frf L hL) hL fun z=>I.ok.exfs L z hL;exact⟨hk,⟨L,_,hf,hn,e,hd⟩,ih (fun b hb=>hs b (by unfold frs;rw[SX,hf];exact eV _ hb)) hr⟩
 exact all X.outer (fun _ hb=>hb) I.ok.funs
theorem Inv.stack(I:Inv X pins σ H s):s.heap.FunFrames X.base X.stack:=by
 rcases I.ok.stk with e|⟨e,hf⟩
 ·rw[e];exact I.funs
 ·rw[e];obtain⟨m,hn,_⟩:=I.loc;refine .cons (by rw[I.ok.kind];decide) hf hn ?_ I.funs;exact Heap.get?_none_of_le (dD I.ok.bsz I.ok.above)
theorem Inv.stkSub(I:Inv X pins σ H s):∀b∈frs X.stack,b∈X.env.locals::X.fs:=fun b hb=>by
 rcases I.ok.stk with e|⟨e,hf⟩
 ·rw[e]at hb;exact eV _ hb
 ·rw[e]at hb;unfold frs at hb;rw[SX,hf]at hb;exact hb
theorem Inv.stkFree(I:Inv X pins σ H s):∀b∈frs X.stack,H b=none:=fun b hb=>by
 rcases dU.mp (I.stkSub b hb)with e|hb
 ·rw[e];exact I.free
 ·obtain⟨_,o,ho,_⟩:=I.ok.funs.mem hb;exact I.base.free b o ho (I.ok.frf b hb) fun z=>I.ok.exfs b z hb
theorem Inv.step{g':Array GenState}{t':Nat}{d':Drawn}{ch:List Addr}(I:Inv X pins σ H s)(hch:∀b∈ch,(b∈X.ex\/X.s₀.heap.objs.size<=b)/\b≠X.env.locals/\(∀x c,X.env.cells.lookup x=some c->c≠b)/\∀p∈X.pn++pins,p.1≠b)(keep:∀b o,b≠X.env.locals->b∉X.fs->b∉ch->s.heap.get? b=some o->H b=none->h'.get? b=some o)(slot:∀b o,b≠X.env.locals->b∈X.fs->b∉ch->s.heap.get? b=some o->H b=none->∃sl,h'.get? b=some {o with slots:=sl})(free:∀b o,b∉ch->s.heap.get? b=some o->H b=none->H' b=none)(there:∀b o,b∉ch->s.heap.get? b=some o->∃o',h'.get? b=some o')(tups:∀b xs,H b=some (.tup xs)->H' b=some (.tup xs))(frzs:∀b o u,H b=some (.frz o u)->H' b=some (.frz o u))(tbls:∀b ps,H b=some (.tbl ps)->∃more,H' b=some (.tbl (ps++more)))(ns:∀m,s.heap.Ns X.env.locals m->h'.Ns X.env.locals m)(hok:HOk X.prog X.w H' h')(hg:AllBare g'):
  Inv X pins σ H' {s with heap:=h',gens:=g',drawn:=d',toks:=t'}:=by
 have neL:∀b o,X.s₀.heap.get? b=some o->b≠X.env.locals:=fun b o e=>cN (gq (cO e) I.ok.above);have neC:∀b o,X.s₀.heap.get? b=some o->b∉X.ex->b∉ch:=fun b o e hx hb=>by
  rcases(hch b hb).1 with z|z
  ·exact hx z
  ·exact absurd (gq (cO e) z) (tL _)
 have cellK:∀x c,X.env.cells.lookup x=some c->∀v,s.heap.IsCell c v->h'.IsCell c v:=fun x c e v ⟨o,ho,hd⟩=>by
  have nch:c∉ch:=fun z=>(hch c z).2.2.1 x c e rfl;by_cases hc:c∈X.fs
  ·obtain⟨sl,q⟩:=slot c o (I.cne x c e) hc nch ho (I.freeC x c e);exact⟨_,q,hd⟩
  ·exact⟨o,keep c o (I.cne x c e) hc nch ho (I.freeC x c e),hd⟩
 refine⟨I.ok,I.os,hg,⟨fun b o e n hb hx=> ?_,fun b o e n hb hx=> ?_,fun b o e n hx=> ?_,fun b o e hx=> ?_,fun b xs e=>tups b xs (I.base.tups b xs e),fun b o xs e=>frzs b o xs (I.base.frzs b o xs e),fun b ps e=> ?_⟩,?_,fun x c e=> ?_,?_,fun x c e=> ?_,fun p hp=> ?_,hok,I.len⟩
 ·exact keep b o (neL b o e) hb (neC b o e hx) (I.base.keep b o e n hb hx) (I.base.free b o e n hx)
 ·obtain⟨sl,e1⟩:=I.base.slot b o e n hb hx;obtain⟨sl',e2⟩:=slot b _ (neL b o e) hb (neC b o e hx) e1 (I.base.free b o e n hx);exact⟨sl',e2⟩
 ·obtain⟨o',e1⟩:=I.base.there b o e hx;exact free b o' (neC b o e hx) e1 (I.base.free b o e n hx)
 ·obtain⟨o',e1⟩:=I.base.there b o e hx;exact there b o' (neC b o e hx) e1
 ·obtain⟨m1,e1⟩:=I.base.tbls b ps e;obtain⟨m2,e2⟩:=tbls b _ e1;exact⟨m1++m2,by rw[e2,Array.append_assoc]⟩
 ·obtain⟨m,hn,hl⟩:=I.loc;refine⟨m,ns m hn,fun i x v e1 e2 e3=> ?_⟩;obtain⟨u,r,l⟩:=hl i x v e1 e2 e3;refine⟨u,r,?_⟩;rcases l with l|⟨k,c,e,z⟩
  ·exact .inl l
  ·exact .inr ⟨k,c,e,cellK x c e _ z⟩
 ·obtain⟨v,z⟩:=I.cell x c e;exact⟨v,cellK x c e v z⟩
 ·obtain⟨m,⟨o,_,_,ho,_⟩,_⟩:=I.loc;exact free _ o (fun z=>(hch _ z).2.1 rfl) ho I.free
 ·obtain⟨v,o,ho,hd⟩:=I.cell x c e;exact free c o (fun z=>(hch c z).2.2.1 x c e rfl) ho (I.freeC x c e)
 ·obtain⟨e,n,ne,nf,d⟩:=I.pin p hp;have nch:p.1∉ch:=fun z=>(hch p.1 z).2.2.2 p hp rfl;exact⟨keep p.1 p.2 ne nf nch e n,free p.1 p.2 nch e n,ne,nf,d⟩
theorem Inv.un{t':Nat}(I:Inv X pins σ H s)(u:Un X.fs [] H H' s.heap h')(hok:HOk X.prog X.w H' h'):Inv X pins σ H' {s with heap:=h',toks:=t'}:=by
 obtain⟨m,⟨o,es,ep,ho,r⟩,_⟩:=id I.loc;obtain⟨sl,hL⟩:=u.any ho I.free (by simp);exact I.step (g':=s.gens) (d':=s.drawn) (ch:=[]) (fun _ z=>nomatch z) (fun b o _ hb _ e n=>u.keep b o e n hb (by simp)) (fun b o _ hb _ e n=>u.slot b o e n hb (by simp)) (fun b o _ e n=>u.free b o e n (by simp)) (fun b o _ e=>u.there b o e (by simp)) u.tups u.frzs u.tbls (fun m' hm=>by
  obtain⟨o',es',ep',ho',r'⟩:=hm;rw[ho]at ho';cases ho';exact⟨_,es',ep',hL,r'⟩) hok I.bare
theorem Inv.call{g':Array GenState}{t':Nat}{d':Drawn}{ch:List Addr}(I:Inv X pins σ H s)(u:Un (frs X.stack) ch H H' s.heap h')(hok:HOk X.prog X.w H' h')(hg:AllBare g')(hch:∀b∈ch,(b∈X.ex\/X.s₀.heap.objs.size<=b)/\b≠X.env.locals/\(∀x c,X.env.cells.lookup x=some c->c≠b)/\∀p∈X.pn++pins,p.1≠b):
  Inv X pins σ H' {s with heap:=h',gens:=g',drawn:=d',toks:=t'}:=by
 obtain⟨m,⟨o,es,ep,ho,r⟩,_⟩:=id I.loc;obtain⟨sl,hL⟩:=u.any ho I.free fun z=>(hch _ z).2.1 rfl;exact I.step (ch:=ch) hch (fun b o hL hb hc e n=>u.keep b o e n (fun z=>(dU.mp (I.stkSub b z)).elim hL hb) hc) (fun b o _ _ hc e n=>u.any e n hc) (fun b o hc e n=>u.free b o e n hc) (fun b o hc e=>u.there b o e hc) u.tups u.frzs u.tbls (fun m' hm=>by
  obtain⟨o',es',ep',ho',r'⟩:=hm;rw[ho]at ho';cases ho';exact⟨_,es',ep',hL,r'⟩) hok hg
theorem Inv.turned{t':Nat}{it:Addr}(I:Inv X pins σ H s)(k:∀b o,b≠it->s.heap.get? b=some o->h'.get? b=some o)(hn:H it=none)(hL:it≠X.env.locals)(h1:it∈X.ex\/X.s₀.heap.objs.size<=it)(h2:∀x c,X.env.cells.lookup x=some c->c≠it)(h3:∀p∈X.pn++pins,p.1≠it):Inv X pins σ H {s with heap:=h',toks:=t'}:=by
 have nit:∀b u,H b=some u->b≠it:=fun b u e z=>by rw[z,hn]at e;cases e
 refine I.step (g':=s.gens) (d':=s.drawn) (ch:=[it]) (fun b hb=> ?_) (fun b o _ _ hc e _=>k b o (fun z=>hc (by simp[z])) e) (fun b o _ _ hc e _=>⟨o.slots,k b o (fun z=>hc (by simp[z])) e⟩) (fun _ _ _ _ n=>n)
  (fun b o hc e=>⟨o,k b o (fun z=>hc (by simp[z])) e⟩) (fun _ _ e=>e) (fun _ _ _ e=>e) (fun b ps e=>⟨#[],by rw[e];simp⟩) (fun m hm=> ?_) (fun b u e=> ?_) I.bare
 ·have e:b=it:=by simpa using hb
  subst e;exact⟨h1,hL,h2,h3⟩
 ·obtain⟨o,es,ep,ho,r⟩:=hm;exact⟨o,es,ep,k _ o (iU hL) ho,r⟩
 ·refine(I.hok b u e).stay (fun c v hc q=>k c v ?_ q) (fun _ q=>q) fun _ _ q=>q;rcases hc with z|z
  ·rw[z];exact nit b u e
  ·exact nit c _ z
theorem Inv.tok(I:Inv X pins σ H s)(t:Nat):Inv X pins σ H {s with toks:=t}:=I.un (h':=s.heap) (t':=t) Un.refl I.hok
theorem Inv.kept{t':Nat}(I:Inv X pins σ H s)(k:∀b u,s.heap.get? b=some u->h'.get? b=some u):Inv X pins σ H {s with heap:=h',toks:=t'}:=I.un (Un.kept k) (I.hok.kept k)
theorem Inv.laid{a:Addr}{o:HO}{t':Nat}(I:Inv X pins σ H s)(k:∀b u,s.heap.get? b=some u->h'.get? b=some u)(hp:s.heap.objs.size<=a)(new:ObjOk X.prog X.w (upd H a o) h' a o):
  Inv X pins σ (upd H a o) {s with heap:=h',toks:=t'}:=I.un (Un.laid k hp (I.hok.fresh hp)) (I.hok.laid k hp new)
theorem Inv.write{x e:Addr}{o:HO}{t':Nat}(I:Inv X pins σ H s)(mu:Mut (H x))(he:e=x\/H e=some (.own x))(k:∀b u,b≠e->s.heap.get? b=some u->h'.get? b=some u)(heo:∃u,h'.get? e=some u)(new:ObjOk X.prog X.w (upd H x o) h' x o):Inv X pins σ (upd H x o) {s with heap:=h',toks:=t'}:=I.un (Un.write mu he k heo) (I.hok.write mu he k heo new)
theorem Inv.pins_of{pins':L1}(I:Inv X pins σ H s)(h:∀p∈pins',s.heap.get? p.1=some p.2/\H p.1=none/\p.1≠X.env.locals/\p.1∉X.fs/\∀v,p.2.data≠.cell v):Inv X pins' σ H s:=
 ⟨I.ok,I.os,I.bare,I.base,I.loc,I.cell,I.free,I.freeC,fun p hp=>(pI.mp hp).elim (fun z=>I.pin p (Ma _ z)) (h p),I.hok,I.len⟩
theorem nodup_ix{N:List Str}(hN:N.Nodup){i j:Nat}{x:Str}(a:N[i]? =some x)(b:N[j]? =some x):i=j:=by
 obtain⟨h1,e1⟩:=p8.mp a;obtain⟨h2,e2⟩:=p8.mp b;exact(List.getElem_inj hN).mp (e1.trans e2.symm)
theorem store_ok2{M:Model}{A:Around}{E:L3}{i:Nat}{x:Str}{v:V}{u:ζ}{Q:Unit->η->Prop}(I:Inv X pins σ H s)(hN:X.N.Nodup)(hi:X.N[i]? =some x)(hx:Loc X.env.scope x)(r:RelV v u)(h:∀s',Inv X pins (σ.set i (some v)) H s'->(∃a,Heap.SameBut a s.heap s'.heap/\(a=X.env.locals\/X.env.cells.lookup x=some a))->Q () s')(hf:X.fn x=true\/X.env.scope.names.lookup x=some .local:=by first |exact .inl rfl|exact .inr rfl|assumption):wpAny M A (storeName X.env x u) Q E s:=by
 obtain⟨m,hn,hl⟩:=id I.loc;have hcls:(X.env.scope.kind== .class||(X.env.scope.kind== .module&&X.env.locals !=X.env.globals))=false:=by rw[I.ok.kind];rfl
 have hiσ:i<σ.length:=by rw[I.len];exact(p8.mp hi).1
 have cne:=I.cne;have tracked:∀{a:Addr} {h':Heap},(∃o,s.heap.get? a=some o/\H a=none)->Heap.SameBut a s.heap h'->HOk X.prog X.w H h':=fun{a h'} ha hs b ob e=>by
  obtain⟨_,_,hfree⟩:=ha;refine(I.hok b ob e).stay (fun c w' hc q=>(hs.2 c ?_).trans q) (fun _ q=>q) fun _ _ q=>q;rintro rfl;rcases hc with rfl|hc
  ·rw[hfree]at e;cases e
  ·rw[hfree]at hc;cases hc
 rcases hx with hk|hk
 ·refine wpAny_storeName_local hk hn (fun h' hn' hs=> ?_) hcls;obtain⟨oL,_,_,hoL,_⟩:=id hn;refine h _ ⟨I.ok,I.os,I.bare,⟨fun b o e n hb hx=> ?_,fun b o e n hb hx=> ?_,I.base.free,fun b o e hx=> ?_,I.base.tups,I.base.frzs,I.base.tbls⟩,⟨_,hn',fun j y v' e1 e2 e3=> ?_⟩,fun y c e=> ?_,I.free,I.freeC,fun p hp=> ?_,tracked ⟨oL,hoL,I.free⟩ hs,by simpa using I.len⟩ ⟨_,hs,.inl rfl⟩
  ·exact(hs.2 b (cN (gq (cO e) I.ok.above))).trans (I.base.keep b o e n hb hx)
  ·obtain⟨sl,e1⟩:=I.base.slot b o e n hb hx;exact⟨sl,(hs.2 b (cN (gq (cO e) I.ok.above))).trans e1⟩
  ·obtain⟨o',e1⟩:=I.base.there b o e hx;exact⟨o',(hs.2 b (cN (gq (cO e) I.ok.above))).trans e1⟩
  ·by_cases hj:j=i
   ·subst hj;rw[hi]at e1;cases e1;rw[wft hiσ]at e2;cases e2;exact⟨u,r,.inl ⟨hk,by simp⟩⟩
   ·rw[List.getElem?_set_ne (iU hj)]at e2;obtain⟨u',r',q⟩:=hl j y v' e1 e2 e3;refine⟨u',r',?_⟩;rcases q with⟨k,e⟩|⟨k,c,e,z⟩
    ·refine .inl ⟨k,?_⟩;have:y≠x:=fun e=>hj (nodup_ix hN e1 (e▸hi));simp[this,e]
    ·exact .inr ⟨k,c,e,z.sameBut hs (cne y c e)⟩
  ·obtain⟨w',z⟩:=I.cell y c e;exact⟨w',z.sameBut hs (cne y c e)⟩
  ·obtain⟨e,n,ne,nf,d⟩:=I.pin p hp;exact⟨(hs.2 p.1 ne).trans e,n,ne,nf,d⟩
 ·have hfn:X.fn x=true:=by
   rcases hf with z|z
   ·exact z
   ·rw[z]at hk;cases hk
  obtain⟨c,hc⟩:=I.ok.has x (.inl hk);obtain⟨w',z⟩:=I.cell x c hc;refine wpAny_storeName_cell I.ok.kind hk hc z (fun h' hc' hs=> ?_);obtain⟨oc,hoc,hocd⟩:=id z;refine h {s with heap:=h'} ⟨I.ok,I.os,I.bare,⟨fun b o e n hb hx=> ?_,fun b o e n hb hx=> ?_,I.base.free,fun b o e hx=> ?_,I.base.tups,I.base.frzs,I.base.tbls⟩,⟨m,hn.sameBut hs (iU (cne x c hc)),fun j y v' e1 e2 e3=> ?_⟩,fun y c' e=> ?_,I.free,I.freeC,fun p hp=> ?_,tracked ⟨oc,hoc,I.freeC x c hc⟩ hs,by simpa using I.len⟩ ⟨c,hs,.inr hc⟩
  ·exact(hs.2 b (cN (gq (cO e) (I.ok.cab x c hfn hc)))).trans (I.base.keep b o e n hb hx)
  ·obtain⟨sl,e1⟩:=I.base.slot b o e n hb hx;exact⟨sl,(hs.2 b (cN (gq (cO e) (I.ok.cab x c hfn hc)))).trans e1⟩
  ·obtain⟨o',e1⟩:=I.base.there b o e hx;exact⟨o',(hs.2 b (cN (gq (cO e) (I.ok.cab x c hfn hc)))).trans e1⟩
  ·by_cases hj:j=i
   ·subst hj;rw[hi]at e1;cases e1;rw[wft hiσ]at e2;cases e2;exact⟨u,r,.inr ⟨.inl hk,c,hc,hc'⟩⟩
   ·rw[List.getElem?_set_ne (iU hj)]at e2;obtain⟨u',r',q⟩:=hl j y v' e1 e2 e3;refine⟨u',r',?_⟩;rcases q with q|⟨k,c',e,z'⟩
    ·exact .inl q
    ·refine .inr ⟨k,c',e,z'.sameBut hs ?_⟩;rintro rfl;exact hj (nodup_ix hN e1 (I.ok.inj _ _ _ e hc▸hi))
  ·by_cases hcc:c'=c
   ·subst hcc;exact⟨_,hc'⟩
   ·obtain⟨w2,z2⟩:=I.cell y c' e;exact⟨w2,z2.sameBut hs hcc⟩
  ·obtain⟨e,n,ne,nf,d⟩:=I.pin p hp;refine⟨(hs.2 p.1 ?_).trans e,n,ne,nf,d⟩;intro q;rw[q,hoc]at e;have q':oc=p.2:=pQ e;exact d w' (by rw[<-q'];exact hocd)
theorem store_ok{M:Model}{A:Around}{E:L3}{i:Nat}{x:Str}{v:V}{u:ζ}{Q:Unit->η->Prop}(I:Inv X pins σ H s)(hN:X.N.Nodup)(hi:X.N[i]? =some x)(hx:Loc X.env.scope x)(r:RelV v u)(h:∀s',Inv X pins (σ.set i (some v)) H s'->Q () s')(hf:X.fn x=true\/X.env.scope.names.lookup x=some .local:=by first |exact .inl rfl|exact .inr rfl|assumption):wpAny M A (storeName X.env x u) Q E s:=
 store_ok2 I hN hi hx r (fun s' I' _=>h s' I') hf
theorem Inv.call'{s':η}{ch:List Addr}(I:Inv X pins σ H s)(ho:s'.os=s.os)(u:Un (frs X.stack) ch H H' s.heap s'.heap)(hok:HOk X.prog X.w H' s'.heap)(hg:AllBare s'.gens)(hch:∀b∈ch,(b∈X.ex\/X.s₀.heap.objs.size<=b)/\b≠X.env.locals/\(∀x c,X.env.cells.lookup x=some c->c≠b)/\∀p∈X.pn++pins,p.1≠b):Inv X pins σ H' s':=by
 obtain⟨h',g',d',t',o'⟩:=s';have e:o'=s.os:=ho;subst e;exact I.call (g':=g') (t':=t') (d':=d') u hok hg hch
end
noncomputable abbrev XK:=ζ->Option Addr->Hp->Prop
noncomputable abbrev St:=List (Option V)
noncomputable abbrev VK:=V->Hp->Prop
noncomputable abbrev TE:=St->Hp->VK->Prop
noncomputable abbrev TT:=St->Hp->(Bool->Hp->Prop)->Prop
noncomputable abbrev TA:=St->Hp->(List V->Hp->Prop)->Prop
structure Ends where
 nx:St->Hp->Prop
 rt:VK
 bk:St->Hp->Prop:=fun _ _=>False
 ct:St->Hp->Prop:=fun _ _=>False
noncomputable abbrev TS:=Ends->St->Hp->Prop
noncomputable def EP(X:Cx)(pins:L1)(σ:St)(Q:VK)(u:ζ)(s':η):Prop:=∃v H',Inv X pins σ H' s'/\RelV v u/\Q v H'
noncomputable def TP(X:Cx)(pins:L1)(σ:St)(Q:Bool->Hp->Prop)(b:Bool)(s':η):Prop:=∃H',Inv X pins σ H' s'/\Q b H'
noncomputable def AP(X:Cx)(pins:L1)(σ:St)(Q:List V->Hp->Prop)(us:List ζ)(s':η):Prop:=∃vs H',Inv X pins σ H' s'/\Vals vs us/\Q vs H'
noncomputable def SP(X:Cx)(pins:L1)(D:Ends)(f:Flow)(s':η):Prop:=
 match f with
 | .next=>∃σ' H',Inv X pins σ' H' s'/\D.nx σ' H'
 | .brk=>∃σ' H',Inv X pins σ' H' s'/\D.bk σ' H'
 | .cont=>∃σ' H',Inv X pins σ' H' s'/\D.ct σ' H'
 | .ret u=>∃v σ' H',Inv X pins σ' H' s'/\RelV v u/\D.rt v H'
noncomputable def PE(X:Cx)(e:Expr)(t:TE):Prop:=
 ∀(pins:L1) (s:η) (σ:St) (H:Hp) (Q:VK),Inv X pins σ H s->t σ H Q->wpAny (model X.prog X.w) X.A (eval e X.env) (EP X pins σ Q) X.xe s
noncomputable def PT(X:Cx)(e:Expr)(t:TT):Prop:=
 ∀(pins:L1) (s:η) (σ:St) (H:Hp) (Q:Bool->Hp->Prop),Inv X pins σ H s->t σ H Q->wpAny (model X.prog X.w) X.A (isTrue e X.env (eval e X.env)) (TP X pins σ Q) X.xe s
noncomputable def PW(X:Cx)(e:Expr)(t:TT):Prop:=
 ∀(whole:Sem ζ) (pins:L1) (s:η) (σ:St) (H:Hp) (Q:Bool->Hp->Prop),Inv X pins σ H s->t σ H Q->wpAny (model X.prog X.w) X.A (isTrue e X.env whole) (TP X pins σ Q) X.xe s
theorem PW.pt{X:Cx}{e:Expr}{t:TT}(h:PW X e t):PT X e t:=h _
noncomputable def PA(X:Cx)(es:List Expr)(t:TA):Prop:=
 ∀(pos:Pos) (pins:L1) (s:η) (σ:St) (H:Hp) (Q:List V->Hp->Prop),Inv X pins σ H s->t σ H Q->wpAny (model X.prog X.w) X.A (spliced (backTo pos (starEach es X.env))) (AP X pins σ Q) X.xe s
noncomputable def PS(X:Cx)(st:Stmt)(t:TS):Prop:=
 ∀(pins:L1) (s:η) (σ:St) (H:Hp) (D:Ends),Inv X pins σ H s->t D σ H->wpAny (model X.prog X.w) X.A (exec st X.env) (SP X pins D) X.xe s
noncomputable def PSs(X:Cx)(st:List Stmt)(t:TS):Prop:=
 ∀(pins:L1) (s:η) (σ:St) (H:Hp) (D:Ends),Inv X pins σ H s->t D σ H->wpAny (model X.prog X.w) X.A (execs st X.env) (SP X pins D) X.xe s
theorem thn{α:Type}{t:Sem α}{Q Q':α->η->Prop}{M:Model}{A:Around}{E:L3}{s:η}(h:wpAny M A t Q E s)(hQ:∀a s,Q a s->Q' a s):wpAny M A t Q' E s:=Ml h hQ fun _ _ x=>x
section
variable{X:Cx}
noncomputable def tVar(i:Nat):TE:=fun σ H Q=>∃v,σ[i]? =some (some v)/\Q v H
noncomputable def tC(v:V):TE:=fun _ H Q=>Q v H
theorem pe_var{i:Nat}{x:Str}{pos:Pos}(hN:X.N[i]? =some x)(hv:Vis X.env.scope x)(hd:(x==("__debug__":Str))=false:=by decide)(hcd:(x==("__classdict__":Str))=false:=by decide):PE X (.Name x pos) (tVar i):=by
 intro pins s σ H Q I h;obtain⟨v,e,h⟩:=h;obtain⟨m,hn,hl⟩:=I.loc;obtain⟨u,r,l⟩:=hl i x v hN e hv;have fin:EP X pins σ Q u s:=⟨v,H,I,r,h⟩;rcases l with⟨hk,hm⟩|⟨hk,c,hc,hcell⟩
 ·exact wpAny_Name (wpAny_loadName_local I.ok.kind hk hn hm fin) hd
 ·rcases hk with hk|hk
  ·exact wpAny_Name (wpAny_loadName_cell I.ok.kind hk hc hcell fin) hd
  ·exact wpAny_Name (wpAny_loadName_free I.ok.kind hk hc hcell fin hcd) hd
theorem aY{i j pos}:PE X (.Constant (.int i) j pos) (tC (.int i)):=fun _ _ _ H _ I h=>wpAny_Constant_int ⟨.int i,H,I.tok _,⟨_,rfl⟩,h⟩
theorem pe_bl{b j pos}:PE X (.Constant (.bool b) j pos) (tC (.bl b)):=fun _ _ _ H _ I h=>Constant_bool ⟨.bl b,H,I,rfl,h⟩
theorem pe_non{j pos}:PE X (.Constant .none j pos) (tC .non):=fun _ _ _ H _ I h=>Constant_none ⟨.non,H,I,rfl,h⟩
noncomputable def Gl(X:Cx)(x:Str):Prop:=X.env.kindOf x=some .globalImplicit
theorem ld_glob{E:L3}{pins:L1}{s:η}{σ:St}{H:Hp}{x:Str}{u:ζ}{pos:Pos}{Q:L3}(I:Inv X pins σ H s)(hg:Gl X x)(hm:X.mg x=some u)(h:Q u s)(hd:(x==("__debug__":Str))=false:=by decide):wpAny (model X.prog X.w) X.A (eval (.Name x pos) X.env) Q E s:=
 Calls.Name_function_global I.ok.kind hg (Calls.loadGlobal_global (by rw[I.ok.glob];exact I.mod.glob.keeps I.bk) hm h) hd
theorem wz{E:L3}{pins:L1}{s:η}{σ:St}{H:Hp}{x:Str}{u:ζ}{pos:Pos}{Q:L3}(I:Inv X pins σ H s)(hg:Gl X x)(hm:X.mg x=none)(hv:bootBuiltins x=some u)(h:Q u s)(hn:x≠"__name__":=by decide)(hd:(x==("__debug__":Str))=false:=by decide):wpAny (model X.prog X.w) X.A (eval (.Name x pos) X.env) Q E s:=by
 obtain⟨mb,h1,h2⟩:=I.mod.blt;exact Calls.Name_function_global I.ok.kind hg (Calls.loadGlobal_builtin (by rw[I.ok.glob];exact I.mod.glob.keeps I.bk) hm (by rw[I.ok.blt];exact h1.keeps I.bk) ((h2 x hn).trans hv) h) hd
theorem pe_glob{x:Str}{v:V}{u:ζ}{pos:Pos}(hg:Gl X x)(hm:X.mg x=some u)(r:RelV v u)(hd:(x==("__debug__":Str))=false:=by decide):PE X (.Name x pos) (tC v):=
 fun _ _ _ H _ I h=>ld_glob I hg hm ⟨v,H,I,r,h⟩ hd
theorem pe_bltn{x:Str}{v:V}{u:ζ}{pos:Pos}(hg:Gl X x)(hm:X.mg x=none)(hv:bootBuiltins x=some u)(r:RelV v u)(hn:x≠"__name__":=by decide)(hd:(x==("__debug__":Str))=false:=by decide):PE X (.Name x pos) (tC v):=
 fun _ _ _ H _ I h=>wz I hg hm hv ⟨v,H,I,r,h⟩ hn hd
theorem pN{x:Str}{pos:Pos}(T:String)(hm:X.mg x=none)(hv:bootBuiltins x=some (.type T):=by decide+kernel)(hg:Gl X x:=by rfl)(hn:x≠"__name__":=by decide)(hd:(x==("__debug__":Str))=false:=by decide):PE X (.Name x pos) (tC (.ty T)):=pe_bltn hg hm hv rfl hn hd
variable{a b:Expr}{ta tb:TE}{pos:Pos}
noncomputable def tB(t:TE):TT:=fun σ H Q=>t σ H fun x H1=>∃c,x= .bl c/\Q c H1
theorem vY{e:Expr}{t:TE}(h:PE X e t)(he:∀whole,isTrue e X.env whole=(do let v<-whole;standAt e.pos;holding [v] (truthy v)):=by intro _;rfl):PT X e (tB t):=by
 intro pins s σ H Q I hw;refine isTrue_plain (thn (h pins s σ H _ I hw) fun v s1 ⟨x,H1,I1,r1,q1⟩=> ?_) (he _);obtain⟨d,rfl,q⟩:=q1;cases r1;exact Jv ⟨H1,I1,q⟩
variable{tA tB':TT}{rest:List Expr}
noncomputable def tAnd(t u:TT):TT:=fun σ H Q=>t σ H fun c H1=>if c=true then u σ H1 Q else Q false H1
noncomputable def tOr(t u:TT):TT:=fun σ H Q=>t σ H fun c H1=>if c=true then Q true H1 else u σ H1 Q
noncomputable def tNot(t:TT):TT:=fun σ H Q=>t σ H fun c H1=>Q (!c) H1
theorem pw_and1(ha:PT X a tA):PW X (.BoolOp .And [a] pos) tA:=by
 intro wh pins s σ H Q I h;refine isTrue_and (thn (ha pins s σ H Q I h) fun c s1 e=> ?_);cases c with
 |true=>exact isTrue_and_nil e
 |false=>exact e
theorem pw_or1(ha:PT X a tA):PW X (.BoolOp .Or [a] pos) tA:=by
 intro wh pins s σ H Q I h;refine isTrue_or (thn (ha pins s σ H Q I h) fun c s1 e=> ?_);cases c with
 |false=>exact isTrue_or_nil e
 |true=>exact e
theorem pw_and(ha:PT X a tA)(hb:PW X (.BoolOp .And (b::rest) pos) tB'):PW X (.BoolOp .And (a::b::rest) pos) (tAnd tA tB'):=by
 intro wh pins s σ H Q I h;refine isTrue_and (thn (ha pins s σ H _ I h) fun c s1 ⟨H1,I1,q1⟩=> ?_);cases c with
 |true=>exact hb wh pins s1 σ H1 Q I1 q1
 |false=>exact⟨H1,I1,q1⟩
theorem pw_or(ha:PT X a tA)(hb:PW X (.BoolOp .Or (b::rest) pos) tB'):PW X (.BoolOp .Or (a::b::rest) pos) (tOr tA tB'):=by
 intro wh pins s σ H Q I h;refine isTrue_or (thn (ha pins s σ H _ I h) fun c s1 ⟨H1,I1,q1⟩=> ?_);cases c with
 |true=>exact⟨H1,I1,q1⟩
 |false=>exact hb wh pins s1 σ H1 Q I1 q1
theorem vX(ha:PT X a tA):PT X (.UnaryOp .Not a pos) (tNot tA):=by
 intro pins s σ H Q I h;exact isTrue_not (ha pins s σ H (fun c H1=>Q (!c) H1) I h)
noncomputable def tAndV(ta tb:TE):TE:=fun σ H Q=>ta σ H fun x H1=>∃c,x= .bl c/\if c=true then tb σ H1 Q else Q (.bl false) H1
noncomputable def tOrV(ta tb:TE):TE:=fun σ H Q=>ta σ H fun x H1=>∃c,x= .bl c/\if c=true then Q (.bl true) H1 else tb σ H1 Q
noncomputable def tNotV(ta:TE):TE:=fun σ H Q=>ta σ H fun x H1=>∃c,x= .bl c/\Q (.bl (!c)) H1
theorem Ac{op}{t:TE}(h:PE X a t):PE X (.BoolOp op [a] pos) t:=fun pins s σ H Q I hw=>BoolOp_one (h pins s σ H Q I hw)
theorem yO(ha:PE X a ta)(hb:PE X (.BoolOp .And (b::rest) pos) tb):PE X (.BoolOp .And (a::b::rest) pos) (tAndV ta tb):=by
 intro pins s σ H Q I h;refine BoolOp_and (thn (ha pins s σ H _ I h) fun v s1 ⟨x,H1,I1,r1,q1⟩=> ?_);obtain⟨c,rfl,q1⟩:=q1;cases r1;refine Jv ?_;cases c with
 |true=>exact hb pins s1 σ H1 Q I1 q1
 |false=>exact⟨.bl false,H1,I1,rfl,q1⟩
theorem pe_or(ha:PE X a ta)(hb:PE X (.BoolOp .Or (b::rest) pos) tb):PE X (.BoolOp .Or (a::b::rest) pos) (tOrV ta tb):=by
 intro pins s σ H Q I h;refine BoolOp_or (thn (ha pins s σ H _ I h) fun v s1 ⟨x,H1,I1,r1,q1⟩=> ?_);obtain⟨c,rfl,q1⟩:=q1;cases r1;refine Jv ?_;cases c with
 |false=>exact hb pins s1 σ H1 Q I1 q1
 |true=>exact⟨.bl true,H1,I1,rfl,q1⟩
theorem pe_not(ha:PE X a ta):PE X (.UnaryOp .Not a pos) (tNotV ta):=by
 intro pins s σ H Q I h;refine UnaryOp_ (thn (ha pins s σ H _ I h) fun v s1 ⟨x,H1,I1,r1,q1⟩=> ?_);obtain⟨c,rfl,q1⟩:=q1;cases r1;exact not_of (Jv ⟨.bl (!c),H1,I1,rfl,q1⟩)
noncomputable def tIf(t:TT)(ta tb:TE):TE:=fun σ H Q=>t σ H fun c H1=>if c=true then ta σ H1 Q else tb σ H1 Q
theorem pe_ifExp{c:Expr}(hc:PT X c tA)(ha:PE X a ta)(hb:PE X b tb):PE X (.IfExp c a b pos) (tIf tA ta tb):=by
 intro pins s σ H Q I h;refine wpAny_IfExp (thn (hc pins s σ H _ I h) fun d s1 ⟨H1,I1,q1⟩=> ?_);cases d with
 |true=>exact ha pins s1 σ H1 Q I1 q1
 |false=>exact hb pins s1 σ H1 Q I1 q1
end
noncomputable def SqL(K:W.Frag)(H:Hp)(a:Addr)(xs:List V):Prop:=
 Rd H a (.lst xs)\/
  ∃(o:Obj) (its:Array ζ) (n:Nat),K.lookup a=some o/\o.cls= .type "list"/\o.dict=none/\o.data= .seq its n/\its.size<=sizeLine/\Vals xs its.toList
noncomputable def SqT(K:W.Frag)(H:Hp)(a:Addr)(xs:List V):Prop:=
 Rd H a (.tup xs)\/
  ∃(o:Obj) (its:Array ζ) (n:Nat),K.lookup a=some o/\o.cls= .type "tuple"/\o.data= .seq its n/\its.size<=sizeLine/\Vals xs its.toList
noncomputable def absV:ζ->Option V
 | .none=>some .non
 | .bool b=>some (.bl b)
 | .int i _=>some (.int i)
 | .str x _=>some (.str x)
 | .bytes b _=>some (.byt b)
 | .float b _=>some (.flt b)
 | .ref a=>some (.ref a)
 | .type n=>some (.ty n)
 |_=>none
theorem RelV.abs{x:V}{u:ζ}(r:RelV x u):absV u=some x:=by
 cases x with
 |non=>cases r;rfl
 |bl _=>cases r;rfl
 |int _=>obtain⟨t,rfl⟩:=r;rfl
 |str _=>obtain⟨t,rfl⟩:=r;rfl
 |byt _=>obtain⟨t,rfl⟩:=r;rfl
 |flt _=>obtain⟨t,rfl⟩:=r;rfl
 |ref _=>cases r;rfl
 |ty _=>cases r;rfl
theorem RelV.inj{x y:V}{u:ζ}(r:RelV x u)(q:RelV y u):x=y:=pQ (r.abs.symm.trans q.abs)
theorem Vals.inj{xs ys:List V}{us:List ζ}(h:Vals xs us)(h':Vals ys us):xs=ys:=by
 induction h generalizing ys with
 |nil=>cases h';rfl
 |cons r _ ih=>cases h' with |cons r' t'=>rw[r.inj r',ih t']
section
variable{X:Cx}{pins:L1}{σ:St}{H:Hp}{s:η}{a:Addr}{xs ys:List V}
theorem SqL.of{K:W.Frag}(h:H a=some (.lst xs)):SqL K H a xs:= .inl (.inl h)
theorem SqT.of{K:W.Frag}(h:H a=some (.tup xs)):SqT K H a xs:= .inl (.inl h)
theorem Inv.list(I:Inv X pins σ H s)(h:SqL X.K H a xs):∃its:List ζ,Vals xs its/\PlainL s.heap a its.toArray/\xs.length<=sizeLine:=by
 rcases h with h|⟨o,its,n,hk,hc,hd,hs,hz,r⟩
 ·obtain⟨z,its,n,r,e⟩:=h.ok I.hok;exact⟨its,r,⟨_,n,e,rfl,rfl,rfl⟩,z⟩
 ·refine⟨its.toList,r,⟨o,n,I.kIn a o hk,hc,hd,by simpa using hs⟩,?_⟩;have e:=r.length;simp only[mJ]at e;omega
theorem Inv.tuple(I:Inv X pins σ H s)(h:SqT X.K H a xs):∃its:List ζ,Vals xs its/\IsTup s.heap a its.toArray/\xs.length<=sizeLine:=by
 rcases h with h|⟨o,its,n,hk,hc,hs,hz,r⟩
 ·obtain⟨z,its,r,p⟩:=h.ok I.hok;exact⟨its,r,p,z⟩
 ·refine⟨its.toList,r,⟨o,I.kIn a o hk,hc,n,by simpa using hs⟩,?_⟩;have e:=r.length;simp only[mJ]at e;omega
theorem Inv.list_inj(I:Inv X pins σ H s)(h:SqL X.K H a xs)(h':SqL X.K H a ys):xs=ys:=by
 obtain⟨its,r,⟨o,n,e,_,_,d⟩,_⟩:=I.list h;obtain⟨its',r',⟨o',n',e',_,_,d'⟩,_⟩:=I.list h';rw[e]at e';cases e';rw[d]at d';injection d' with d1 _
 have:its=its':=by simpa using gD Array.toList d1
 subst this;exact r.inj r'
theorem Inv.tuple_inj(I:Inv X pins σ H s)(h:SqT X.K H a xs)(h':SqT X.K H a ys):xs=ys:=by
 obtain⟨its,r,⟨o,e,_,n,d⟩,_⟩:=I.tuple h;obtain⟨its',r',⟨o',e',_,n',d'⟩,_⟩:=I.tuple h';rw[e]at e';cases e';rw[d]at d';injection d' with d1 _
 have:its=its':=by simpa using gD Array.toList d1
 subst this;exact r.inj r'
end
noncomputable abbrev Cx.wish(X:Cx)(E:L3):Cx:={X with xe:=E}
noncomputable abbrev Cx.nox(X:Cx):Cx:=X.wish fun _ _=>False
theorem Cx.Ok.wish{X:Cx}(ok:X.Ok)(E:L3):(X.wish E).Ok:=
 ⟨ok.mod,ok.kind,ok.glob,ok.blt,ok.above,ok.inj,ok.has,ok.cab,ok.hd,ok.frames,ok.stk,ok.exf,ok.bs,ok.bsz,ok.noex,ok.exfs,ok.funs,ok.frf⟩
theorem Cx.Ok.unwish{X:Cx}{E:L3}(ok:(X.wish E).Ok):X.Ok:=
 ⟨ok.mod,ok.kind,ok.glob,ok.blt,ok.above,ok.inj,ok.has,ok.cab,ok.hd,ok.frames,ok.stk,ok.exf,ok.bs,ok.bsz,ok.noex,ok.exfs,ok.funs,ok.frf⟩
section
variable{X:Cx}{pins:L1}{σ:St}{H:Hp}{s:η}{E:L3}
theorem Inv.wish(I:Inv X pins σ H s)(E:L3):Inv (X.wish E) pins σ H s:=⟨I.ok.wish E,I.os,I.bare,I.base,I.loc,I.cell,I.free,I.freeC,I.pin,I.hok,I.len⟩
theorem Inv.unwish(I:Inv (X.wish E) pins σ H s):Inv X pins σ H s:=⟨I.ok.unwish,I.os,I.bare,I.base,I.loc,I.cell,I.free,I.freeC,I.pin,I.hok,I.len⟩
theorem SP.unwish{D:Ends}{f:Flow}{s':η}(h:SP (X.wish E) pins D f s'):SP X pins D f s':=by
 cases f with
 |next=>obtain⟨σ',H',I,q⟩:=h;exact⟨σ',H',I.unwish,q⟩
 |brk=>obtain⟨σ',H',I,q⟩:=h;exact⟨σ',H',I.unwish,q⟩
 |cont=>obtain⟨σ',H',I,q⟩:=h;exact⟨σ',H',I.unwish,q⟩
 |ret u=>obtain⟨v,σ',H',I,r,q⟩:=h;exact⟨v,σ',H',I.unwish,r,q⟩
theorem PSs.nox{st:List Stmt}{t:TS}(h:PSs X.nox st t):PSs X st t:=fun pins s σ H D I hw=>
 Ml (h pins s σ H D (I.wish _) hw) (fun _ _ q=>q.unwish) fun _ _ z=>False.elim z
end
section
variable{X:Cx}{st:Stmt}{rest:List Stmt}{t u:TS}{e:Expr}{te:TE}{pos:Pos}
noncomputable def tNext:TS:=fun D σ H=>D.nx σ H
noncomputable def tSeq(t u:TS):TS:=fun D σ H=>t {D with nx:=u D} σ H
theorem pH:PSs X [] tNext:=fun _ _ σ H _ I h=>W4 ⟨σ,H,I,h⟩
theorem bf(h1:PS X st t)(h2:PSs X rest u):PSs X (st::rest) (tSeq t u):=by
 intro pins s σ H D I h;refine wpAny_execs_cons (thn (h1 pins s σ H {D with nx:=u D} I h) fun f s1 q=> ?_);cases f with
 |next=>
  obtain⟨σ',H',I',q⟩:=q;exact h2 pins s1 σ' H' D I' q
 |ret v=>exact q
 |brk=>exact q
 |cont=>exact q
theorem bN(h1:PS X st t):PSs X [st] t:=by
 intro pins s σ H D I h;refine wpAny_execs_cons (thn (h1 pins s σ H D I h) fun f s1 q=> ?_);cases f with
 |next=>exact W4 q
 |ret v=>exact q
 |brk=>exact q
 |cont=>exact q
theorem Inv.quiet{pins:L1}{σ:St}{H:Hp}{s:η}(I:Inv X pins σ H s):interactive X.env=false:=by simp[interactive,I.ok.kind]
noncomputable def tDrop(te:TE):TS:=fun D σ H=>te σ H fun _ H1=>D.nx σ H1
theorem Ae(he:PE X e te)(hs:swapsWith e none pos.line X.env=pure false:=by rfl):PS X (.Expr e pos) (tDrop te):=by
 intro pins s σ H D I h;exact wpAny_Expr_any (thn (he pins s σ H _ I h) fun v s1 ⟨x,H1,I1,r1,q1⟩=>⟨σ,H1,I1,q1⟩) I.quiet hs
noncomputable def tRet(te:TE):TS:=fun D σ H=>te σ H D.rt
theorem cT(he:PE X e te):PS X (.Return (some e) pos) (tRet te):=by
 intro pins s σ H D I h;exact wpAny_Return_some (thn (he pins s σ H _ I h) fun v s1 ⟨x,H1,I1,r1,q1⟩=>⟨x,σ,H1,I1,r1,q1⟩)
noncomputable def tIfS(c:TT)(t u:TS):TS:=fun D σ H=>c σ H fun b H1=>if b=true then t D σ H1 else u D σ H1
theorem pF{c:Expr}{a b:List Stmt}{tc:TT}(hc:PT X c tc)(ha:PSs X a t)(hb:PSs X b u):PS X (.If c a b pos) (tIfS tc t u):=by
 intro pins s σ H D I h;refine wpAny_If (thn (hc pins s σ H _ I h) fun d s1 ⟨H1,I1,q1⟩=> ?_);cases d with
 |true=>exact ha pins s1 σ H1 D I1 q1
 |false=>exact hb pins s1 σ H1 D I1 q1
noncomputable def tNever:TS:=fun _ _ _=>False
theorem pss_never{sts:List Stmt}:PSs X sts tNever:=fun _ _ _ _ _ _ h=>h.elim
end
noncomputable abbrev TG:=V->St->Hp->(St->Hp->Prop)->Prop
noncomputable abbrev TGs:=List V->St->Hp->(St->Hp->Prop)->Prop
noncomputable def PG(X:Cx)(target:Expr)(t:TG):Prop:=
 ∀(pins:L1) (s:η) (σ:St) (H:Hp) (v:V) (u:ζ) (Q:St->Hp->Prop),Inv X pins σ H s->RelV v u->t v σ H Q->
  wpAny (model X.prog X.w) X.A (assign target X.env u) (fun _ s'=>∃σ' H',Inv X pins σ' H' s'/\Q σ' H') X.xe s
noncomputable def PGs(X:Cx)(ts:List Expr)(t:TGs):Prop:=
 ∀(pins:L1) (s:η) (σ:St) (H:Hp) (vs:List V) (us:List ζ) (Q:St->Hp->Prop),Inv X pins σ H s->Vals vs us->t vs σ H Q->
  wpAny (model X.prog X.w) X.A (assignInOrder ((assignEach ts X.env).map (·.2)) us) (fun _ s'=>∃σ' H',Inv X pins σ' H' s'/\Q σ' H') X.xe s
noncomputable abbrev TSet:=V->V->V->Hp->(Hp->Prop)->Prop
noncomputable def PSet(X:Cx)(t:TSet):Prop:=
 ∀(pins:L1) (s:η) (σ:St) (H:Hp) (o i v:V) (ov iv u:ζ) (Q:Hp->Prop),Inv X pins σ H s->RelV o ov->RelV i iv->RelV v u->t o i v H Q->
  wpAny (model X.prog X.w) X.A (setItem ov iv u) (fun _ s'=>∃H',Inv X pins σ H' s'/\Q H') X.xe s
section
variable{X:Cx}{pos:Pos}
noncomputable def gName(i:Nat):TG:=fun v σ H Q=>Q (σ.set i (some v)) H
theorem pg_name{i:Nat}{x:Str}(hN:X.N.Nodup)(hi:X.N[i]? =some x)(hx:Loc X.env.scope x)(hf:X.fn x=true\/X.env.scope.names.lookup x=some .local:=by first |exact .inl rfl|exact .inr rfl|assumption):PG X (.Name x pos) (gName i):=by
 intro pins s σ H v u Q I r h;exact wpAny_assign_Name (store_ok I hN hi hx r (fun s' I'=>⟨_,H,I',h⟩) hf)
theorem pG{X:Cx}{x:Str}{pos:Pos}(i:Nat)(hN:decide X.N.Nodup=true:=by kernel_rfl)(hi:X.N[i]? =some x:=by rfl)(hx:Loc X.env.scope x:=by first |exact Or.inl rfl|exact Or.inr rfl)(hf:X.fn x=true\/X.env.scope.names.lookup x=some .local:=by first |exact .inl rfl|exact .inr rfl|assumption):PG X (.Name x pos) (gName i):=pg_name (kJ hN) hi hx hf
noncomputable def gNil:TGs:=fun vs σ H Q=>vs=[]/\Q σ H
noncomputable def gCons(t:TG)(u:TGs):TGs:=fun vs σ H Q=>∃v r,vs=v::r/\t v σ H fun σ' H'=>u r σ' H' Q
theorem Cp:PGs X [] gNil:=by
 intro pins s σ H vs us Q I r h;obtain⟨e,h⟩:=h;subst e;cases r;exact assignInOrder_nil ⟨σ,H,I,h⟩
theorem mH{e:Expr}{es:List Expr}{t:TG}{u:TGs}(h1:PG X e t)(h2:PGs X es u)(hs:(assignEach (e::es) X.env).map (·.2)=assign e X.env::(assignEach es X.env).map (·.2):=by rfl):PGs X (e::es) (gCons t u):=by
 intro pins s σ H vs us Q I r h;obtain⟨v,vr,e1,h⟩:=h;subst e1;cases r with
 |cons r rr=>
  rw[hs];refine Y0 (thn (h1 pins s σ H _ _ _ I r h) fun _ s1 ⟨σ1,H1,I1,q1⟩=> ?_);exact h2 pins s1 σ1 H1 _ _ Q I1 rr q1
noncomputable def gTup(K:W.Frag)(n:Nat)(t:TGs):TG:=fun v σ H Q=>∃a xs,v= .ref a/\SqT K H a xs/\xs.length=n/\t xs σ H Q
theorem pg_tup{es:List Expr}{k:Nat}{t:TGs}{n:Nat}(hc:X.calm=true)(h:PGs X es t)(hn:(assignEach es X.env).length=n:=by rfl)(hst:(assignEach es X.env).findIdx? (·.1)=none:=by rfl):PG X (.Tuple es k pos) (gTup X.K n t):=by
 intro pins s σ H v u Q I r hw;obtain⟨a,xs,e1,hq,hl,hw⟩:=hw;subst e1;cases r;obtain⟨its,rv,ht,hz⟩:=I.tuple hq;refine assign_Tuple_tuple (I.ok.hd hc) ht (by simp[hn,<-hl,rv.length]) hst fun h' hx=> ?_;have I1:Inv X pins σ H {s with heap:=h'}:=I.kept (t':=s.toks) fun b o e=>hx b o (cN (cO e)) e;exact h pins _ σ H xs _ Q I1 (by simpa using rv) hw
noncomputable def gSub(to ti:TE)(t:TSet):TG:=fun v σ H Q=>to σ H fun o H1=>ti σ H1 fun i H2=>t o i v H2 fun H3=>Q σ H3
theorem pg_sub{o i:Expr}{to ti:TE}{t:TSet}(ho:PE X o to)(hi:PE X i ti)(hs:PSet X t)(ha:∀v,assign (.Subscript o i pos) X.env v=(do
   let ov<-holding [v] (eval o X.env);let iv<-holding [v,ov] (eval i X.env)
   standAt pos
   holding [v,ov,iv] (setItem ov iv v)
   release [v,ov,iv] []):=by intro _;rfl):PG X (.Subscript o i pos) (gSub to ti t):=by
 intro pins s σ H v u Q I r h;rw[ha];refine aq (Ak (thn (ho pins s σ H _ I h) fun ov s1 ⟨x,H1,I1,r1,q1⟩=> ?_));refine aq (Ak (thn (hi pins s1 σ H1 _ I1 q1) fun iv s2 ⟨y,H2,I2,r2,q2⟩=> ?_));refine aq (WT (aq (Ak (thn (hs pins s2 σ H2 x y v ov iv u _ I2 r1 r2 r q2) fun _ s3 ⟨H3,I3,q3⟩=> ?_))));exact wpAny_release ⟨σ,H3,I3,q3⟩
noncomputable def tAsg(te:TE)(g:TG):TS:=fun D σ H=>te σ H fun x H1=>g x σ H1 D.nx
theorem ps_asg{tg e:Expr}{te:TE}{g:TG}(he:PE X e te)(hg:PG X tg g)(hs:swapsWithSole [tg] e pos.line X.env=pure false:=by rfl)(hw:swappedStores [tg] e X.env=pure none:=by rfl)(h1:(assignEach [tg] X.env).map (·.2)=[assign tg X.env]:=by rfl):PS X (.Assign [tg] e pos) (tAsg te g):=by
 intro pins s σ H D I h;refine wpAny_Assign_stores (thn (he pins s σ H _ I h) fun v s1 ⟨x,H1,I1,r1,q1⟩=> ?_) hs hw;rw[h1];exact thn (hg pins s1 σ H1 x v _ I1 r1 q1) fun _ s2 q=>q
theorem ps_set{i:Nat}{x:Str}{e:Expr}{te:TE}{pos':Pos}(hN:X.N.Nodup)(hi:X.N[i]? =some x)(hx:Loc X.env.scope x)(he:PE X e te)(hs:swapsWith e (some (.Name x pos')) pos.line X.env=pure false:=by rfl)(hf:X.fn x=true\/X.env.scope.names.lookup x=some .local:=by first |exact .inl rfl|exact .inr rfl|assumption):
  PS X (.Assign [.Name x pos'] e pos) (tAsg te (gName i)):=by
 intro pins s σ H D I h;refine wpAny_Assign_Name (thn (he pins s σ H _ I h) fun v s1 ⟨y,H1,I1,r1,q1⟩=> ?_) hs;exact store_ok I1 hN hi hx r1 (fun s2 I2=>⟨_,H1,I2,q1⟩) hf
theorem pS{X:Cx}{x:Str}{e:Expr}{te:TE}{pos pos':Pos}(i:Nat)(he:PE X e te)(hN:decide X.N.Nodup=true:=by kernel_rfl)(hi:X.N[i]? =some x:=by rfl)(hx:Loc X.env.scope x:=by first |exact Or.inl rfl|exact Or.inr rfl)(hs:swapsWith e (some (.Name x pos')) pos.line X.env=pure false:=by rfl)(hf:X.fn x=true\/X.env.scope.names.lookup x=some .local:=by first |exact .inl rfl|exact .inr rfl|assumption):PS X (.Assign [.Name x pos'] e pos) (tAsg te (gName i)):=ps_set (kJ hN) hi hx he hs hf
noncomputable def tPar(i j:Nat)(ta:TA):TS:=fun D σ H=>ta σ H fun vs H1=>∃v w,vs=[v,w]/\D.nx ((σ.set i (some v)).set j (some w)) H1
theorem ps_par{i j:Nat}{x y:Str}{a b:Expr}{ta:TA}{px py pt:Pos}{kt k2 pt2}(hc:X.calm=true)(hN:X.N.Nodup)(hi:X.N[i]? =some x)(hj:X.N[j]? =some y)(hij:i≠j)(hx:X.env.scope.names.lookup x=some .local)(hy:X.env.scope.names.lookup y=some .local)(ha:PA X [a,b] ta)(hw:swappedStores [.Tuple [.Name x px,.Name y py] kt pt] (.Tuple [a,b] k2 pt2) X.env=pure (some [x,y]))(hs:swapsWithSole [.Tuple [.Name x px,.Name y py] kt pt] (.Tuple [a,b] k2 pt2) pos.line X.env=pure false:=by rfl):
  PS X (.Assign [.Tuple [.Name x px,.Name y py] kt pt] (.Tuple [a,b] k2 pt2) pos) (tPar i j ta):=by
 intro pins s σ H D I h;rw[exec_Assign_arm];refine aq (WT ?_);rw[hs];refine aq (aO ?_);rw[aj (by decide)];refine aq (Tuple_ (thn (ha _ pins s σ H _ I h) fun us s1 ⟨vs,H1,I1,r1,q1⟩=> ?_));obtain⟨v,w,e1,q1⟩:=q1;subst e1;obtain⟨u1,u2,rfl,rv,rw'⟩:∃u1 u2,us=[u1,u2]/\RelV v u1/\RelV w u2:=by
  cases r1 with
  |cons p q=>
   cases q with
   |cons p' q'=>
    cases q';exact⟨_,_,rfl,p,p'⟩
 refine Jb ?_ (by show 2<=sizeLine;decide);have I2:Inv X pins σ H1 {s1 with heap:=s1.heap.push {cls:= .type "tuple",data:= .seq [u1,u2].toArray}}:=I1.kept (t':=s1.toks) fun b o e=>dH _ e;rw[hw];refine aq (aO ?_);show wpAny (model X.prog X.w) X.A (do rule "assign.swapped-stores";let items<-unpackItems (.ref s1.heap.objs.size) 2 none;assignInOrder [fun v=>bindName X.env y v,fun v=>bindName X.env x v] items.reverse;pure Flow.next) _ _ _;refine aq (Dm (aq (unpackItems_tuple (items:=#[u1,u2]) (I.ok.hd hc) (IsTup.new s1.heap _) fun h' hx'=> ?_)));have I3:=I2.kept (h':=h') (t':=s1.toks) fun b o e=>hx' b o (cN (cO e)) e;show wpAny _ _ (assignInOrder [fun v=>bindName X.env y v,fun v=>bindName X.env x v] [u2,u1]>>=fun _=>pure Flow.next) _ _ _;refine aq (Y0 (wpAny_bindName (store_ok I3 hN hj (.inl hy) rw' (fun s2 I4=> ?_) (.inr hy))));refine Y0 (wpAny_bindName (store_ok I4 hN hi (.inl hx) rv (fun s3 I5=>assignInOrder_nil (aO ?_)) (.inr hx)));rw[List.set_comm _ _ (iU hij)]at I5;exact⟨_,H1,I5,q1⟩
noncomputable def tWhile(c:TT)(tb:TS):TS:=fun D σ H=>∃W:Nat->St->Hp->Prop,(∃m,W m σ H)/\∀m σ H,W m σ H->
 c σ H fun b H1=>if b=true then∃N:St->Hp->Prop,(∀σ' H',N σ' H'->∃m',m'<m/\W m' σ' H')/\tb {D with nx:=N,ct:=N,bk:=D.nx} σ H1 else D.nx σ H1
theorem ps_while{c:Expr}{body:List Stmt}{tc:TT}{tb:TS}(hp:PassesOwn (model X.prog X.w) X.A X.env X.xe)(hc:PT X c tc)(hb:PSs X body tb):PS X (.While c body [] pos) (tWhile tc tb):=by
 intro pins s σ H D I h;obtain⟨W,⟨m0,w0⟩,turn⟩:=h;refine wpAny_While (codeAny_whileLoop (fun n s'=>∃σ' H',Inv X pins σ' H' s'/\W n σ' H') ?_ m0 ⟨σ,H,I,w0⟩);rintro n s1 ⟨σ1,H1,I1,w1⟩;refine Ot hp (thn (hc pins s1 σ1 H1 _ I1 (turn n σ1 H1 w1)) fun b s2 ⟨H2,I2,q2⟩=> ?_);cases b with
 |true=>
  obtain⟨N,hN,q2⟩:=q2;rw[ak rfl];refine Ot hp (thn (hb pins s2 σ1 H2 _ I2 q2) fun f s3 q3=> ?_);cases f with
  |next=>
   obtain⟨σ3,H3,I3,n3⟩:=q3;obtain⟨m',hm,w3⟩:=hN σ3 H3 n3;exact⟨m',hm,σ3,H3,I3,w3⟩
  |cont=>
   obtain⟨σ3,H3,I3,n3⟩:=q3;obtain⟨m',hm,w3⟩:=hN σ3 H3 n3;exact⟨m',hm,σ3,H3,I3,w3⟩
  |brk=>exact q3
  |ret v=>exact q3
 |false=>
  rw[aj qy];exact W4 ⟨σ1,H2,I2,q2⟩
end
structure It where
 go:Nat->Hp->Prop
 yld:Nat->Hp->V->Hp->Prop
 stop:Nat->Hp->Prop
noncomputable def FpOk(X:Cx)(pins:L1)(H:Hp)(b:Addr):Prop:=
 H b=none/\b≠X.env.locals/\b∉X.fs/\(b∈X.ex\/X.s₀.heap.objs.size<=b)/\(∀x c,X.env.cells.lookup x=some c->c≠b)/\∀p∈X.pn++pins,p.1≠b
theorem Inv.fpOk{X:Cx}{pins:L1}{σ:St}{H H':Hp}{s:η}{b:Addr}(I:Inv X pins σ H s)(hb:s.heap.objs.size<=b)(hn:H' b=none):FpOk X pins H' b:=by
 refine⟨hn,Iz (gq I.lt hb),I.nofs hb,.inr (dD I.sz hb),fun x c e z=> ?_,fun p hp z=> ?_⟩
 ·obtain⟨v,q⟩:=I.cell x c e;exact absurd (gq q.lt (by rw[z];exact hb)) (tL _)
 ·exact absurd (gq (cO (I.pin p hp).1) (by rw[z];exact hb)) (tL _)
structure Turn(P:ρ)(w:υ)(K:W.Frag)(tg:Expr)(J:It)(fp:List Addr)(it:Addr)(tn:Nat->Heap->Prop):Prop where
 mem:it∈fp
 obj:∀i h,tn i h->∀b∈fp,∃o,h.get? b=some o/\∀v,o.data≠.cell v
 keep:∀i h h',tn i h->(∀b∈fp,∀o,h.get? b=some o->h'.get? b=some o)->tn i h'
 item:∀(X:Cx),X.prog=P->X.w=w->X.K=K->X.calm=true->∀(i:Nat) (pins:L1) (s:η) (σ:St) (H:Hp) (E:L3),Inv X pins σ H s->(∀b∈fp,FpOk X pins H b)->tn i s.heap->J.go i H->
  wpAny (model P w) X.A (pyNext (.ref it)) (fun r s1=>∃u,r=some u/\
   wpAny (model P w) X.A (letOwnedTupleGo tg (.ref it) u) (fun _ s2=>∃x H',Inv X pins σ H' s2/\RelV x u/\J.yld i H x H'/\tn (i+1) s2.heap/\∀b∈fp,H' b=none) E s1) E s
 done:∀(X:Cx),X.prog=P->X.w=w->X.K=K->X.calm=true->∀(i:Nat) (pins:L1) (s:η) (σ:St) (H:Hp) (E:L3),Inv X pins σ H s->(∀b∈fp,FpOk X pins H b)->tn i s.heap->J.stop i H->
  wpAny (model P w) X.A (pyNext (.ref it)) (fun r s1=>r=none/\Inv X pins σ H s1) E s
 self:∀(A:Around) (i:Nat) (s:η) (Q:L3) (E:L3),tn i s.heap->Q (.ref it) s->wpAny (model P w) A (pyIter (.ref it)) Q E s
noncomputable abbrev TI:=St->Hp->(It->Hp->Prop)->Prop
noncomputable def PIE(X:Cx)(pins:L1)(σ:St)(tg:Expr)(R:It->Hp->Prop)(itv:ζ)(s2:η):Prop:=
 ∃(it:Addr) (fp:List Addr) (tn:Nat->Heap->Prop) (J:It) (H':Hp),itv= .ref it/\Inv X pins σ H' s2/\Turn X.prog X.w X.K tg J fp it tn/\tn 0 s2.heap/\(∀b∈fp,FpOk X pins H' b)/\R J H'
noncomputable def PI(X:Cx)(tg iter:Expr)(wi:TI):Prop:=
 ∀(pins:L1) (s:η) (σ:St) (H:Hp) (R:It->Hp->Prop),Inv X pins σ H s->wi σ H R->
  wpAny (model X.prog X.w) X.A (eval iter X.env) (fun v s1=>wpAny (model X.prog X.w) X.A (pyIter v) (PIE X pins σ tg R) X.xe s1) X.xe s
theorem go_of{M:Model}{A:Around}{E:L3}{s:η}{tg:Expr}{it:Addr}{u:ζ}{o:Obj}{n:String}{vs:Array ζ}{Q:Unit->η->Prop}(ho:s.heap.get? it=some o)(hc:o.cls= .type n)(hd:o.data= .fields vs)(hn:["enumerate","zip","dict_itemiterator","dict_reverseitemiterator","odict_iterator","itertools.zip_longest","itertools.pairwise"].contains n=false)(hQ:Q () s):wpAny M A (letOwnedTupleGo tg (.ref it) u) Q E s:=by
 unfold letOwnedTupleGo;cases tg<;>first
  |exact aO hQ
  |(cases u<;>first
    |exact aO hQ
    |(refine aq (wpAny_load ho ?_)
      rw[hc,hd];show wpAny M A (if(["enumerate","zip","dict_itemiterator","dict_reverseitemiterator","odict_iterator","itertools.zip_longest","itertools.pairwise"].contains n&&vs[0]? ==some (rawInt _))=true then _ else _) Q E s;rw[aj (by intro h;rw[hn,Yp]at h;cases h)];exact aO hQ))
noncomputable def Itl(K:W.Frag)(a:Addr):It:=
 ⟨fun i H=>∃xs x,SqL K H a xs/\xs[i]? =some x,fun i H x H'=>H'=H/\∀xs,SqL K H a xs->xs[i]? =some x,fun i H=>∃xs,SqL K H a xs/\xs.length<=i⟩
noncomputable def Itt(K:W.Frag)(a:Addr):It:=
 ⟨fun i H=>∃xs x,SqT K H a xs/\xs[i]? =some x,fun i H x H'=>H'=H/\∀xs,SqT K H a xs->xs[i]? =some x,fun i H=>∃xs,SqT K H a xs/\xs.length<=i⟩
noncomputable def Itr(lo:Int)(n:Nat):It:=⟨fun i _=>i<n,fun i H x H'=>H'=H/\x= .int (lo+i),fun i _=>n<=i⟩
theorem turn_list{P:ρ}{w:υ}{K:W.Frag}{tg:Expr}(a it:Addr):Turn P w K tg (Itl K a) [it] it (fun i h=>h.IsListIter it a i) where
 mem:=by simp
 obj:=fun i h st b hb=>by
  have e:b=it:=by simpa using hb
  subst e;obtain⟨o,e,c,d⟩:=st;exact⟨o,e,fun v z=>by rw[d]at z;cases z⟩
 keep:=fun i h h' st k=>st.at fun o e=>k it (by simp) o e
 item:=by
  intro X hP hw hK hc i pins s σ H E I hf st hg;subst hP hw hK;obtain⟨xs,x,hq,hx⟩:=hg;obtain⟨its,rv,p,hz⟩:=I.list hq;obtain⟨u,hu,ru⟩:=rv.get hx;obtain⟨f0,f1,f2,f3,f4,f5⟩:=hf it (by simp);refine wpAny_pyNext_list_item st p.isList (x:=u) (by simpa using hu) fun h' st' sb=> ?_;have I1:Inv X pins σ H {s with heap:=h'}:=I.turned (t':=s.toks) (fun b o hb e=>(sb.2 b hb).trans e) f0 f1 f3 f4 f5;obtain⟨o,e,c,d⟩:=id st';exact⟨u,rfl,go_of (s:={s with heap:=h'}) e c d (by decide) ⟨x,H,I1,ru,⟨rfl,fun ys hy=>by rw[I.list_inj hy hq];exact hx⟩,st',fun b hb=>(hf b hb).1⟩⟩
 done:=by
  intro X hP hw hK hc i pins s σ H E I hf st hg;subst hP hw hK;obtain⟨xs,hq,hx⟩:=hg;obtain⟨its,rv,p,hz⟩:=I.list hq;obtain⟨f0,f1,f2,f3,f4,f5⟩:=hf it (by simp);have hl:=rv.length;exact wpAny_pyNext_list_end (I.ok.hd hc) st p.isList (by simp;omega) fun h' eb=>⟨rfl,I.turned (t':=s.toks) (fun b o hb e=>eb b o hb e) f0 f1 f3 f4 f5⟩
 self:=fun _ _ _ _ _ st h=>wpAny_pyIter_listiter st h
theorem turn_tuple{P:ρ}{w:υ}{K:W.Frag}{tg:Expr}(a it:Addr):Turn P w K tg (Itt K a) [it] it (fun i h=>h.IsTupleIter it a i) where
 mem:=by simp
 obj:=fun i h st b hb=>by
  have e:b=it:=by simpa using hb
  subst e;obtain⟨o,e,c,d⟩:=st;exact⟨o,e,fun v z=>by rw[d]at z;cases z⟩
 keep:=fun i h h' st k=>st.at fun o e=>k it (by simp) o e
 item:=by
  intro X hP hw hK hc i pins s σ H E I hf st hg;subst hP hw hK;obtain⟨xs,x,hq,hx⟩:=hg;obtain⟨its,rv,p,hz⟩:=I.tuple hq;obtain⟨u,hu,ru⟩:=rv.get hx;obtain⟨f0,f1,f2,f3,f4,f5⟩:=hf it (by simp);refine wpAny_pyNext_tuple_item st (show s.heap.IsTuple a its.toArray from p) (x:=u) (by simpa using hu) fun h' st' sb=> ?_;have I1:Inv X pins σ H {s with heap:=h'}:=I.turned (t':=s.toks) (fun b o hb e=>(sb.2 b hb).trans e) f0 f1 f3 f4 f5;obtain⟨o,e,c,d⟩:=id st';exact⟨u,rfl,go_of (s:={s with heap:=h'}) e c d (by decide) ⟨x,H,I1,ru,⟨rfl,fun ys hy=>by rw[I.tuple_inj hy hq];exact hx⟩,st',fun b hb=>(hf b hb).1⟩⟩
 done:=by
  intro X hP hw hK hc i pins s σ H E I hf st hg;subst hP hw hK;obtain⟨xs,hq,hx⟩:=hg;obtain⟨its,rv,p,hz⟩:=I.tuple hq;obtain⟨f0,f1,f2,f3,f4,f5⟩:=hf it (by simp);have hl:=rv.length;exact wpAny_pyNext_tuple_end (I.ok.hd hc) st (show s.heap.IsTuple a its.toArray from p) (by simp;omega) fun h' eb=>⟨rfl,I.turned (t':=s.toks) (fun b o hb e=>eb b o hb e) f0 f1 f3 f4 f5⟩
 self:=fun _ _ _ _ _ st h=>wpAny_pyIter_tupleiter st h
theorem turn_range{P:ρ}{w:υ}{K:W.Frag}{tg:Expr}(it:Addr)(lo:Int)(n:Nat):Turn P w K tg (Itr lo n) [it] it (fun i h=>IsRangeIter h it (lo+(i:Nat)*1) ((n:Int)-(i:Nat)) 1) where
 mem:=by simp
 obj:=fun i h st b hb=>by
  have e:b=it:=by simpa using hb
  subst e;exact⟨_,st,fun v z=>by
   have z':Data.fields _=Data.cell v:=z;cases z'⟩
 keep:=fun i h h' st k=>k it (by simp) _ st
 item:=by
  intro X hP hw hK hc i pins s σ H E I hf st hg;subst hP hw hK;obtain⟨f0,f1,f2,f3,f4,f5⟩:=hf it (by simp);have W:=Walks.range (prog:=X.prog) (w:=X.w) (I.ok.hd hc) it lo 1 n;refine W.item i s _ _ hg st fun v h' tk hv st' kk=> ?_;obtain⟨t,rfl⟩:=hv;have I1:Inv X pins σ H {s with heap:=h',toks:=tk}:=I.turned (fun b o hb e=>kk b o (by simpa using hb) e) f0 f1 f3 f4 f5;refine⟨_,rfl,go_of (s:={s with heap:=h',toks:=tk}) (n:="range_iterator") st' rfl rfl (by decide) ⟨.int (lo+i),H,I1,⟨t,?_⟩,⟨rfl,rfl⟩,st',fun b hb=>(hf b hb).1⟩⟩;rw[Ww]
 done:=by
  intro X hP hw hK hc i pins s σ H E I hf st hg;subst hP hw hK;obtain⟨f0,f1,f2,f3,f4,f5⟩:=hf it (by simp);exact wpAny_pyNext_range_end (I.ok.hd hc) st (by have:n<=i:=hg;omega) fun h' eb=>⟨rfl,I.turned (t':=s.toks) (fun b o hb e=>eb b o hb e) f0 f1 f3 f4 f5⟩
 self:=fun _ _ _ _ _ st h=>wpAny_pyIter_rangeiter st h
section
variable{X:Cx}{tg:Expr}
theorem range_it{pins:L1}{σ:St}{H:Hp}{s:η}{R:It->Hp->Prop}{E:L3}{lo hi:Int}{t u v:Tok}{tk:Nat}(I:Inv X pins σ H s)(h1: -(2^62)<=lo)(h2:lo<2^62)(h3: -(2^62)<=hi)(h4:hi<2^62)(q:R (Itr lo (hi-lo).toNat) H):wpAny (model X.prog X.w) X.A (pyIter (.ref s.heap.objs.size)) (PIE X pins σ tg R) E {s with heap:=s.heap.push {cls:= .type "range",data:= .fields #[.int lo t,.int hi u,.int 1 v]},toks:=tk}:=by
 refine wpAny_pyIter_range (IsRange.new ..) (small_one h1 h2 h3 h4) ?_;have I1:Inv X pins σ H {s with heap:=s.heap.push {cls:= .type "range",data:= .fields #[.int lo t,.int hi u,.int 1 v]},toks:=tk}:=I.kept fun b o e=>dH _ e;refine⟨(s.heap.push {cls:= .type "range",data:= .fields #[.int lo t,.int hi u,.int 1 v]}).objs.size,[(s.heap.push {cls:= .type "range",data:= .fields #[.int lo t,.int hi u,.int 1 v]}).objs.size],_,_,H,rfl,
  I1.kept (t':=tk) fun b o e=>dH _ e,turn_range _ lo (hi-lo).toNat,?_,fun b hb=> ?_,q⟩
 ·have e1:lo+((0:Nat):Int)*1=lo:=by simp
  have e2:(((hi-lo).toNat:Nat):Int)-((0:Nat):Int)=Builtin.Range.rangeSize lo hi 1:=by rw[rangeSize_one];split<;>omega
  show IsRangeIter _ _ (lo+((0:Nat):Int)*1) ((((hi-lo).toNat:Nat):Int)-((0:Nat):Int)) 1;rw[e1,e2];exact jE _ rfl
 ·have e:b=(s.heap.push {cls:= .type "range",data:= .fields #[.int lo t,.int hi u,.int 1 v]}).objs.size:=by simpa using hb
  subst e;exact I1.fpOk (aB _) (I1.hok.fresh (aB _))
noncomputable def iRng1(ta:TA):TI:=fun σ H R=>ta σ H fun vs H1=>∃j:Int,vs=[.int j]/\ -(2^62)<=j/\j<2^62/\R (Itr 0 j.toNat) H1
noncomputable def iRng2(ta:TA):TI:=fun σ H R=>ta σ H fun vs H1=>∃i j:Int,vs=[.int i,.int j]/\(-(2^62)<=i/\i<2^62/\ -(2^62)<=j/\j<2^62)/\R (Itr i (j-i).toNat) H1
theorem CW{a:Expr}{ta:TA}{p pos:Pos}(hg:Gl X "range")(hm:X.mg "range"=none)(ha:PA X [a] ta)(hs:starEach [a] X.env=[(false,eval a X.env)]:=by rfl):PI X tg (.Call (.Name "range" p) [a] [] pos) (iRng1 ta):=by
 intro pins s σ H R I h;refine Call_ (wz I hg hm boot_range (Dt (thn (ha pos pins s σ H _ I h) fun us s1 ⟨vs,H1,I1,r1,q1⟩=> ?_) hs rfl));obtain⟨j,e,q1,q2,q⟩:=q1;subst e;cases r1 with
 |cons r rr=>
  cases rr;obtain⟨t,rfl⟩:=r;exact call_range_1 (range_it I1 (by omega) (by omega) q1 q2 (by simpa using q))
theorem pi_range2{a b:Expr}{ta:TA}{p pos:Pos}(hg:Gl X "range")(hm:X.mg "range"=none)(ha:PA X [a,b] ta)(hs:starEach [a,b] X.env=[(false,eval a X.env),(false,eval b X.env)]:=by rfl)(hs2:starEach [b] X.env=[(false,eval b X.env)]:=by rfl):
  PI X tg (.Call (.Name "range" p) [a,b] [] pos) (iRng2 ta):=by
 intro pins s σ H R I h;refine Call_ (wz I hg hm boot_range (Dt (thn (ha pos pins s σ H _ I h) fun us s1 ⟨vs,H1,I1,r1,q1⟩=> ?_) (by rw[hs,hs2]) (by rw[hs2];rfl)));obtain⟨i,j,e,⟨q1,q2,q3,q4⟩,q⟩:=q1;subst e;cases r1 with
 |cons r rr=>
  cases rr with
  |cons r' rr=>
   cases rr;obtain⟨t,rfl⟩:=r;obtain⟨t',rfl⟩:=r';exact call_range_2 (range_it I1 q1 q2 q3 q4 q)
noncomputable def tFor(wi:TI)(g:TG)(tb:TS):TS:=fun D σ H=>wi σ H fun J H1=>∃W:Nat->Nat->St->Hp->Prop,(∃m,W 0 m σ H1)/\∀i m σ H,W i m σ H->
 (J.stop i H/\D.nx σ H)\/(J.go i H/\∃N:St->Hp->Prop,(∀σ' H',N σ' H'->∃m',m'<m/\W (i+1) m' σ' H')/\∀x H',J.yld i H x H'->g x σ H' fun σ2 H2=>tb {D with nx:=N,ct:=N,bk:=D.nx} σ2 H2)
noncomputable def pinsAt(fp:List Addr)(h:Heap):L1:=fp.filterMap fun b=>(h.get? b).map fun o=>(b,o)
theorem mem_pinsAt{fp:List Addr}{h:Heap}{b:Addr}{o:Obj}(hb:b∈fp)(e:h.get? b=some o):(b,o)∈pinsAt fp h:=List.mem_filterMap.mpr ⟨b,hb,by rw[e];rfl⟩
theorem of_pinsAt{fp:List Addr}{h:Heap}{p:Addr×Obj}(hp:p∈pinsAt fp h):p.1∈fp/\h.get? p.1=some p.2:=by
 obtain⟨b,hb,e⟩:=List.mem_filterMap.mp hp;cases q:h.get? b with
 |none=>rw[q]at e;cases e
 |some o=>
  rw[q]at e;have e':(b,o)=p:=pQ e;subst e';exact⟨hb,q⟩
theorem Inv.pinned{pins:L1}{σ:St}{H:Hp}{s:η}{fp:List Addr}(I:Inv X pins σ H s)(hf:∀b∈fp,FpOk X pins H b)(ho:∀b∈fp,∃o,s.heap.get? b=some o/\∀v,o.data≠.cell v):Inv X (pins++pinsAt fp s.heap) σ H s:=
 I.pins_of fun p hp=>(pI.mp hp).elim (fun z=>I.pin p (tZ _ z)) fun z=>by
  obtain⟨hb,e⟩:=of_pinsAt z;obtain⟨f0,f1,f2,_⟩:=hf p.1 hb;obtain⟨o,e',d⟩:=ho p.1 hb;rw[e]at e';cases e';exact⟨e,f0,f1,f2,d⟩
theorem Inv.unpinned{pins pl:L1}{σ:St}{H:Hp}{s:η}(I:Inv X (pins++pl) σ H s):Inv X pins σ H s:=I.pins_of fun p hp=>I.pin p (tZ _ (Ma _ hp))
theorem Ad{iter:Expr}{body:List Stmt}{wi:TI}{g:TG}{tb:TS}{pos:Pos}(hp:PassesOwn (model X.prog X.w) X.A X.env X.xe)(hc:X.calm=true)(hi:PI X tg iter wi)(hg:PG X tg g)(hb:PSs X body tb)(hs:∀x,foldedSetIterable iter X.env x=pure x:=by intro _;rfl):PS X (.For tg iter body [] pos) (tFor wi g tb):=by
 intro pins s σ H D I h;refine wpAny_For (thn (hi pins s σ H _ I h) fun v s1 h1=>thn h1 fun itv s2 h2=> ?_) hs;obtain⟨it,fp,tn,J,H2,e,I2,T,st2,f2,W,⟨m0,w0⟩,turn⟩:=h2;subst e
 -- what stays true of the iterator's objects through the loop
 have stat:∀{H':Hp},(∀b∈fp,H' b=none)->∀b∈fp,FpOk X pins H' b:=fun hn b hb=>⟨hn b hb,(f2 b hb).2⟩;refine codeAny_forLoop_any (fun n s'=>∃i σ' H',Inv X pins σ' H' s'/\tn i s'.heap/\(∀b∈fp,H' b=none)/\W i n σ' H') ?_ m0 ⟨0,σ,H2,I2,st2,fun b hb=>(f2 b hb).1,w0⟩;rintro n s3 ⟨i,σ3,H3,I3,st3,fr3,w3⟩;rcases turn i n σ3 H3 w3 with⟨stop,qn⟩|⟨go,N,hN,step⟩
 ·refine Ot hp (thn (T.done X rfl rfl rfl hc i pins s3 σ3 H3 X.xe I3 (stat fr3) st3 stop) fun r s4 ⟨hr,I4⟩=> ?_);subst hr;exact W4 ⟨σ3,H3,I4,qn⟩
 ·refine Ot hp (thn (T.item X rfl rfl rfl hc i pins s3 σ3 H3 X.xe I3 (stat fr3) st3 go) fun r s4 ⟨u,hr,h4⟩=> ?_);subst hr;refine Ot hp (thn h4 fun _ s5 ⟨x,H5,I5,r5,y5,st5,fr5⟩=> ?_);have I5':=I5.pinned (stat fr5) (T.obj _ _ st5);refine Ot hp (thn (hg _ s5 σ3 H5 x u _ I5' r5 (step x H5 y5)) fun _ s6 ⟨σ6,H6,I6,q6⟩=> ?_);refine Ot hp (thn (hb _ s6 σ6 H6 _ I6 q6) fun f s7 q7=> ?_);have again:∀{σ7:St} {H7:Hp},Inv X (pins++pinsAt fp s5.heap) σ7 H7 s7->N σ7 H7->∃m,m<n/\∃i σ' H',Inv X pins σ' H' s7/\tn i s7.heap/\(∀b∈fp,H' b=none)/\W i m σ' H':=fun{σ7 H7} I7 n7=>by
   obtain⟨m',hm,w7⟩:=hN σ7 H7 n7;refine⟨m',hm,i+1,σ7,H7,I7.unpinned,T.keep _ _ _ st5 fun b hb o e=>(I7.pin (b,o) (tZ _ (tZ _ (mem_pinsAt hb e)))).1,fun b hb=> ?_,w7⟩;obtain⟨o,e,d⟩:=T.obj _ _ st5 b hb;exact(I7.pin (b,o) (tZ _ (tZ _ (mem_pinsAt hb e)))).2.1
  cases f with
  |next=>obtain⟨σ7,H7,I7,n7⟩:=q7;exact again I7 n7
  |cont=>obtain⟨σ7,H7,I7,n7⟩:=q7;exact again I7 n7
  |brk=>obtain⟨σ7,H7,I7,q7⟩:=q7;exact⟨σ7,H7,I7.unpinned,q7⟩
  |ret v=>obtain⟨x7,σ7,H7,I7,r7,q7⟩:=q7;exact⟨x7,σ7,H7,I7.unpinned,r7,q7⟩
end
theorem for_list{K:W.Frag}{a:Addr}{xs:List V}{g:TG}{tb:TS}{D:Ends}{σ:St}{H:Hp}(Pv:Nat->St->Hp->Prop)(h0:Pv 0 σ H)(hl:∀i σ H,i<=xs.length->Pv i σ H->SqL K H a xs)(hs:∀i x σ H,xs[i]? =some x->Pv i σ H->g x σ H fun σ2 H2=>tb {D with nx:=Pv (i+1),ct:=Pv (i+1),bk:=D.nx} σ2 H2)(hd:∀σ H,Pv xs.length σ H->D.nx σ H):
  ∃W:Nat->Nat->St->Hp->Prop,(∃m,W 0 m σ H)/\∀i m σ H,W i m σ H->
   ((Itl K a).stop i H/\D.nx σ H)\/((Itl K a).go i H/\∃N:St->Hp->Prop,(∀σ' H',N σ' H'->∃m',m'<m/\W (i+1) m' σ' H')/\∀x H',(Itl K a).yld i H x H'->g x σ H' fun σ2 H2=>tb {D with nx:=N,ct:=N,bk:=D.nx} σ2 H2):=by
 refine⟨fun i m σ H=>m=xs.length-i/\i<=xs.length/\Pv i σ H,⟨xs.length,by simp,cg _,h0⟩,?_⟩;rintro i m σ H ⟨rfl,hi,p⟩;have q:=hl i σ H hi p;by_cases hlt:i<xs.length
 ·refine .inr ⟨⟨xs,xs[i],q,by simp[hlt]⟩,Pv (i+1),fun σ' H' p'=>⟨xs.length-(i+1),by omega,rfl,hlt,p'⟩,fun x H' y=> ?_⟩;obtain⟨e,y⟩:=y;subst e;exact hs i x σ _ (y xs q) p
 ·have e:i=xs.length:=by omega
  subst e;exact .inl ⟨⟨xs,q,aB _⟩,hd σ H p⟩
theorem for_tup{K:W.Frag}{a:Addr}{xs:List V}{g:TG}{tb:TS}{D:Ends}{σ:St}{H:Hp}(Pv:Nat->St->Hp->Prop)(h0:Pv 0 σ H)(hl:∀i σ H,i<=xs.length->Pv i σ H->SqT K H a xs)(hs:∀i x σ H,xs[i]? =some x->Pv i σ H->g x σ H fun σ2 H2=>tb {D with nx:=Pv (i+1),ct:=Pv (i+1),bk:=D.nx} σ2 H2)(hd:∀σ H,Pv xs.length σ H->D.nx σ H):
  ∃W:Nat->Nat->St->Hp->Prop,(∃m,W 0 m σ H)/\∀i m σ H,W i m σ H->
   ((Itt K a).stop i H/\D.nx σ H)\/((Itt K a).go i H/\∃N:St->Hp->Prop,(∀σ' H',N σ' H'->∃m',m'<m/\W (i+1) m' σ' H')/\∀x H',(Itt K a).yld i H x H'->g x σ H' fun σ2 H2=>tb {D with nx:=N,ct:=N,bk:=D.nx} σ2 H2):=by
 refine⟨fun i m σ H=>m=xs.length-i/\i<=xs.length/\Pv i σ H,⟨xs.length,by simp,cg _,h0⟩,?_⟩;rintro i m σ H ⟨rfl,hi,p⟩;have q:=hl i σ H hi p;by_cases hlt:i<xs.length
 ·refine .inr ⟨⟨xs,xs[i],q,by simp[hlt]⟩,Pv (i+1),fun σ' H' p'=>⟨xs.length-(i+1),by omega,rfl,hlt,p'⟩,fun x H' y=> ?_⟩;obtain⟨e,y⟩:=y;subst e;exact hs i x σ _ (y xs q) p
 ·have e:i=xs.length:=by omega
  subst e;exact .inl ⟨⟨xs,q,aB _⟩,hd σ H p⟩
theorem Ji{lo:Int}{n:Nat}{g:TG}{tb:TS}{D:Ends}{σ:St}{H:Hp}(Pv:Nat->St->Hp->Prop)(h0:Pv 0 σ H)(hs:∀i σ H,i<n->Pv i σ H->g (.int (lo+i)) σ H fun σ2 H2=>tb {D with nx:=Pv (i+1),ct:=Pv (i+1),bk:=D.nx} σ2 H2)(hd:∀σ H,Pv n σ H->D.nx σ H):
  ∃W:Nat->Nat->St->Hp->Prop,(∃m,W 0 m σ H)/\∀i m σ H,W i m σ H->
   ((Itr lo n).stop i H/\D.nx σ H)\/((Itr lo n).go i H/\∃N:St->Hp->Prop,(∀σ' H',N σ' H'->∃m',m'<m/\W (i+1) m' σ' H')/\∀x H',(Itr lo n).yld i H x H'->g x σ H' fun σ2 H2=>tb {D with nx:=N,ct:=N,bk:=D.nx} σ2 H2):=by
 refine⟨fun i m σ H=>m=n-i/\i<=n/\Pv i σ H,⟨n,by simp,cg _,h0⟩,?_⟩;rintro i m σ H ⟨rfl,hi,p⟩;by_cases hlt:i<n
 ·refine .inr ⟨hlt,Pv (i+1),fun σ' H' p'=>⟨n-(i+1),by omega,rfl,hlt,p'⟩,fun x H' y=> ?_⟩;obtain⟨e,y⟩:=y;subst e y;exact hs i σ _ hlt p
 ·have e:i=n:=by omega
  subst e;exact .inl ⟨aB _,hd σ H p⟩
noncomputable abbrev R2:=V->V->Hp->VK->Prop
noncomputable def OpR(X:Cx)(f:ζ->ζ->Sem ζ)(r:R2):Prop:=
 ∀(pins:L1) (s:η) (σ:St) (H:Hp) (x y:V) (v u:ζ) (Q:VK),Inv X pins σ H s->RelV x v->RelV y u->r x y H Q->
  wpAny (model X.prog X.w) X.A (f v u) (EP X pins σ Q) X.xe s
noncomputable def UnR(X:Cx)(f:ζ->Sem ζ)(r:V->Hp->VK->Prop):Prop:=
 ∀(pins:L1) (s:η) (σ:St) (H:Hp) (x:V) (v:ζ) (Q:VK),Inv X pins σ H s->RelV x v->r x H Q->
  wpAny (model X.prog X.w) X.A (f v) (EP X pins σ Q) X.xe s
noncomputable def CallR(X:Cx)(f:ζ)(r:List V->Hp->VK->Prop):Prop:=
 ∀(pins:L1) (s:η) (σ:St) (H:Hp) (xs:List V) (us:List ζ) (Q:VK),Inv X pins σ H s->Vals xs us->r xs H Q->
  wpAny (model X.prog X.w) X.A (call f us) (EP X pins σ Q) X.xe s
noncomputable def TruR(X:Cx)(r:V->Hp->(Bool->Hp->Prop)->Prop):Prop:=
 ∀(pins:L1) (s:η) (σ:St) (H:Hp) (x:V) (v:ζ) (Q:Bool->Hp->Prop),Inv X pins σ H s->RelV x v->r x H Q->
  wpAny (model X.prog X.w) X.A (truthy v) (TP X pins σ Q) X.xe s
noncomputable def tOp(r:R2)(ta tb:TE):TE:=fun σ H Q=>ta σ H fun x H1=>tb σ H1 fun y H2=>r x y H2 Q
noncomputable def tUn(r:V->Hp->VK->Prop)(ta:TE):TE:=fun σ H Q=>ta σ H fun x H1=>r x H1 Q
noncomputable def rI(C:Int->Int->Prop)(g:Int->Int->V):R2:=fun x y H Q=>∃i j,x= .int i/\y= .int j/\C i j/\Q (g i j) H
noncomputable def rI0(g:Int->Int->V):R2:=fun x y H Q=>∃i j,x= .int i/\y= .int j/\Q (g i j) H
noncomputable def rU(g:Int->V):V->Hp->VK->Prop:=fun x H Q=>∃i,x= .int i/\Q (g i) H
section
variable{X:Cx}{a b:Expr}{ta tb:TE}{pos:Pos}
theorem binT(ha:PE X a ta)(hb:PE X b tb){pins:L1}{s:η}{σ:St}{H:Hp}{R:V->V->Hp->Prop}(I:Inv X pins σ H s)(h:ta σ H fun x H1=>tb σ H1 fun y H2=>R x y H2){Q:L3}{f:ζ->ζ->Sem ζ}(hf:∀v u s2 x y H2,Inv X pins σ H2 s2->RelV x v->RelV y u->R x y H2->wpAny (model X.prog X.w) X.A (f v u) Q X.xe s2):
  wpAny (model X.prog X.w) X.A (eval a X.env) (fun v s₁=>wpAny (model X.prog X.w) X.A (eval b X.env) (fun u s₂=>wpAny (model X.prog X.w) X.A (f v u) Q X.xe s₂) X.xe s₁) X.xe s:=by
 refine thn (ha pins s σ H _ I h) fun v s1 ⟨x,H1,I1,r1,q1⟩=> ?_;refine thn (hb pins s1 σ H1 _ I1 q1) fun u s2 ⟨y,H2,I2,r2,q2⟩=> ?_;exact hf v u s2 x y H2 I2 r1 r2 q2
theorem cH{op:Operator}{r:R2}(ho:OpR X (binaryOp op) r)(ha:PE X a ta)(hb:PE X b tb):PE X (.BinOp a op b pos) (tOp r ta tb):=by
 intro pins s σ H Q I h;exact wpAny_BinOp (binT ha hb I h fun v u s2 x y H2 I2 rx ry q=>ho pins s2 σ H2 x y v u Q I2 rx ry q)
theorem pe_un{op:UnaryOp}{r:V->Hp->VK->Prop}(ho:UnR X (unaryOp op) r)(ha:PE X a ta):PE X (.UnaryOp op a pos) (tUn r ta):=by
 intro pins s σ H Q I h;exact UnaryOp_ (thn (ha pins s σ H _ I h) fun v s1 ⟨x,H1,I1,r1,q1⟩=>ho pins s1 σ H1 x v Q I1 r1 q1)
theorem opI{f:ζ->ζ->Sem ζ}{C:Int->Int->Prop}{g:Int->Int->Int}(rule:∀(i j:Int) (t u:Tok) (s:η) (Q:L3) (E:L3),C i j->Q (.int (g i j) s.toks) {s with toks:=s.toks+1}->wpAny (model X.prog X.w) X.A (f (.int i t) (.int j u)) Q E s):
  OpR X f (rI C fun i j=> .int (g i j)):=by
 intro pins s σ H x y v u Q I rx ry h;obtain⟨i,j,rfl,rfl,hc,q⟩:=h;obtain⟨t,rfl⟩:=rx;obtain⟨t',rfl⟩:=ry;exact rule i j t t' s _ _ hc ⟨.int (g i j),H,I.tok _,⟨_,rfl⟩,q⟩
theorem opI0{f:ζ->ζ->Sem ζ}{g:Int->Int->Int}(rule:∀(i j:Int) (t u:Tok) (s:η) (Q:L3) (E:L3),Q (.int (g i j) s.toks) {s with toks:=s.toks+1}->wpAny (model X.prog X.w) X.A (f (.int i t) (.int j u)) Q E s):
  OpR X f (rI0 fun i j=> .int (g i j)):=by
 intro pins s σ H x y v u Q I rx ry h;obtain⟨i,j,rfl,rfl,q⟩:=h;obtain⟨t,rfl⟩:=rx;obtain⟨t',rfl⟩:=ry;exact rule i j t t' s _ _ ⟨.int (g i j),H,I.tok _,⟨_,rfl⟩,q⟩
theorem opB0{f:ζ->ζ->Sem ζ}{g:Int->Int->Bool}(rule:∀(i j:Int) (t u:Tok) (s:η) (Q:L3) (E:L3),Q (.bool (g i j)) s->wpAny (model X.prog X.w) X.A (f (.int i t) (.int j u)) Q E s):
  OpR X f (rI0 fun i j=> .bl (g i j)):=by
 intro pins s σ H x y v u Q I rx ry h;obtain⟨i,j,rfl,rfl,q⟩:=h;obtain⟨t,rfl⟩:=rx;obtain⟨t',rfl⟩:=ry;exact rule i j t t' s _ _ ⟨.bl (g i j),H,I,rfl,q⟩
noncomputable def CDiv(i j:Int):Prop:=0<j/\j<1073741824
noncomputable def CMul(i j:Int):Prop:=(-(2^64)<i/\i<2^64)\/(-(2^64)<j/\j<2^64)
theorem CMul.ok{i j:Int}(h:CMul i j):IntMulOk i j:=by
 rcases h with⟨h1,h2⟩|⟨h1,h2⟩
 ·exact .of_left (intBits_le_64 h1 h2)
 ·exact .of_right (intBits_le_64 h1 h2)
theorem vW:OpR X (binaryOp .Add) (rI0 fun i j=> .int (i+j)):=opI0 fun _ _ _ _ _ _ _ q=>add_int q
theorem op_sub:OpR X (binaryOp .Sub) (rI0 fun i j=> .int (i-j)):=opI0 fun _ _ _ _ _ _ _ q=>sub_int q
theorem yN:OpR X (binaryOp .Mult) (rI CMul fun i j=> .int (i*j)):=opI fun _ _ _ _ _ _ _ hc q=>mul_int q hc.ok
theorem op_fdiv:OpR X (binaryOp .FloorDiv) (rI CDiv fun i j=> .int (i/j)):=opI fun i j _ _ _ _ _ hc q=>by
 have h1:(0:Int)<j:=hc.1;have h2:j<1073741824:=hc.2;exact floordiv_int (by omega) (by rw[Yh i (by omega)];exact q) (.inl (PyProof.noPylong_small (by omega)))
theorem op_mod:OpR X (binaryOp .Mod) (rI (fun _ j=>0<j) fun i j=> .int (i %j)):=opI fun i j _ _ _ _ _ hc q=>by
 have h1:(0:Int)<j:=hc;exact mod_int' (by omega) (by rw[Int.fmod_eq_emod_of_nonneg i (by omega)];exact q)
theorem unI{f:ζ->Sem ζ}{g:Int->Int}(rule:∀(i:Int) (t:Tok) (s:η) (Q:L3) (E:L3),Q (.int (g i) s.toks) {s with toks:=s.toks+1}->wpAny (model X.prog X.w) X.A (f (.int i t)) Q E s):
  UnR X f (rU fun i=> .int (g i)):=by
 intro pins s σ H x v Q I rx h;obtain⟨i,rfl,q⟩:=h;obtain⟨t,rfl⟩:=rx;exact rule i t s _ _ ⟨.int (g i),H,I.tok _,⟨_,rfl⟩,q⟩
theorem un_neg:UnR X (unaryOp .USub) (rU fun i=> .int (-i)):=unI fun _ _ _ _ _ q=>neg_int q
end
noncomputable def scal:V->V->Bool
 | .non,.non=>true| .non,.int _=>true| .int _,.non=>true| .non,.bl _=>true| .bl _,.non=>true| .non,.str _=>true| .str _,.non=>true
 | .int _,.int _=>true| .bl _,.bl _=>true| .str _,.str _=>true| .byt _,.byt _=>true
 | .int _,.str _=>true| .str _,.int _=>true| .bl _,.str _=>true| .str _,.bl _=>true
 |_,_=>false
noncomputable def rEq:R2:=fun x y H Q=>scal x y=true/\Q (.bl (decide (x=y))) H
noncomputable def rNe:R2:=fun x y H Q=>scal x y=true/\Q (.bl (!decide (x=y))) H
theorem dec_int{i j:Int}:decide (V.int i=V.int j)=(i==j):=by
 rw[wI];simp
theorem dec_bl{i j:Bool}:decide (V.bl i=V.bl j)=(i==j):=by
 rw[wI];simp
theorem dec_str{i j:Str}:decide (V.str i=V.str j)=(i==j):=by
 rw[wI];simp
theorem dec_byt{i j:Array UInt8}:decide (V.byt i=V.byt j)=(i.toList==j.toList):=by
 rw[wI];cases i;cases j;simp
section
variable{X:Cx}{a b c:Expr}{ta tb tc:TE}{pos:Pos}
theorem iT{pins:L1}{σ:St}{H:Hp}{s:η}{Q:VK}{k k':Bool}(I:Inv X pins σ H s)(q:Q (.bl k) H)(e:k=k'):EP X pins σ Q (.bool k') s:=by
 subst e;exact⟨.bl k,H,I,rfl,q⟩
theorem op_eq:OpR X (compareOp .Eq) rEq:=by
 intro pins s σ H x y v u Q I rx ry h;obtain⟨hs,q⟩:=h;cases x with
 |non=>
  cases rx;cases y with
  |non=>cases ry;exact PySem.EqNone.eq_none_none (iT I q (by simp))
  |bl j=>cases ry;exact PySem.EqNone.eq_none_bool (iT I q (by simp))
  |int j=>obtain⟨t',rfl⟩:=ry;exact PySem.EqNone.eq_none_int (iT I q (by simp))
  |str j=>obtain⟨t',rfl⟩:=ry;exact PySem.EqNone.eq_none_str (iT I q (by simp))
  |_=>exact absurd (show false=true from hs) qy
 |bl i=>
  cases rx;cases y with
  |non=>cases ry;exact PySem.EqNone.eq_bool_none (iT I q (by simp))
  |bl j=>cases ry;exact eq_bool (iT I q dec_bl)
  |str j=>obtain⟨t',rfl⟩:=ry;exact PySem.EqMixed.eq_bool_str (iT I q (by simp))
  |_=>exact absurd (show false=true from hs) qy
 |int i=>
  obtain⟨t,rfl⟩:=rx;cases y with
  |non=>cases ry;exact PySem.EqNone.eq_int_none (iT I q (by simp))
  |int j=>obtain⟨t',rfl⟩:=ry;exact eq_int (iT I q dec_int)
  |str j=>obtain⟨t',rfl⟩:=ry;exact PySem.EqMixed.eq_int_str (iT I q (by simp))
  |_=>exact absurd (show false=true from hs) qy
 |str i=>
  obtain⟨t,rfl⟩:=rx;cases y with
  |non=>cases ry;exact PySem.EqNone.eq_str_none (iT I q (by simp))
  |bl j=>cases ry;exact PySem.EqMixed.eq_str_bool (iT I q (by simp))
  |int j=>obtain⟨t',rfl⟩:=ry;exact PySem.EqMixed.eq_str_int (iT I q (by simp))
  |str j=>obtain⟨t',rfl⟩:=ry;exact eq_str (iT I q dec_str)
  |_=>exact absurd (show false=true from hs) qy
 |byt i=>
  obtain⟨t,rfl⟩:=rx;cases y with
  |byt j=>obtain⟨t',rfl⟩:=ry;exact PySem.W.eq_bytes (iT I q dec_byt)
  |_=>exact absurd (show false=true from hs) qy
 |_=>cases y<;>exact absurd (show false=true from hs) qy
theorem op_ne:OpR X (compareOp .NotEq) rNe:=by
 intro pins s σ H x y v u Q I rx ry h;obtain⟨hs,q⟩:=h;cases x with
 |non=>
  cases rx;cases y with
  |non=>cases ry;exact PySem.EqNone.ne_none_none (iT I q (by simp))
  |bl j=>cases ry;exact PySem.EqNone.ne_none_bool (iT I q (by simp))
  |int j=>obtain⟨t',rfl⟩:=ry;exact PySem.EqNone.ne_none_int (iT I q (by simp))
  |str j=>obtain⟨t',rfl⟩:=ry;exact PySem.EqNone.ne_none_str (iT I q (by simp))
  |_=>exact absurd (show false=true from hs) qy
 |bl i=>
  cases rx;cases y with
  |non=>cases ry;exact PySem.EqNone.ne_bool_none (iT I q (by simp))
  |bl j=>cases ry;exact ne_bool (iT I q (gD not dec_bl))
  |str j=>obtain⟨t',rfl⟩:=ry;exact PySem.EqMixed.ne_bool_str (iT I q (by simp))
  |_=>exact absurd (show false=true from hs) qy
 |int i=>
  obtain⟨t,rfl⟩:=rx;cases y with
  |non=>cases ry;exact PySem.EqNone.ne_int_none (iT I q (by simp))
  |int j=>obtain⟨t',rfl⟩:=ry;exact ne_int (iT I q (gD not dec_int))
  |str j=>obtain⟨t',rfl⟩:=ry;exact PySem.EqMixed.ne_int_str (iT I q (by simp))
  |_=>exact absurd (show false=true from hs) qy
 |str i=>
  obtain⟨t,rfl⟩:=rx;cases y with
  |non=>cases ry;exact PySem.EqNone.ne_str_none (iT I q (by simp))
  |bl j=>cases ry;exact PySem.EqMixed.ne_str_bool (iT I q (by simp))
  |int j=>obtain⟨t',rfl⟩:=ry;exact PySem.EqMixed.ne_str_int (iT I q (by simp))
  |str j=>obtain⟨t',rfl⟩:=ry;exact ne_str (iT I q (gD not dec_str))
  |_=>exact absurd (show false=true from hs) qy
 |byt i=>
  obtain⟨t,rfl⟩:=rx;cases y with
  |byt j=>obtain⟨t',rfl⟩:=ry;exact PySem.W.ne_bytes (iT I q (gD not dec_byt))
  |_=>exact absurd (show false=true from hs) qy
 |_=>cases y<;>exact absurd (show false=true from hs) qy
theorem op_lt:OpR X (compareOp .Lt) (rI0 fun i j=> .bl (decide (i<j))):=opB0 fun _ _ _ _ _ _ _ q=>lt_int q
theorem op_le:OpR X (compareOp .LtE) (rI0 fun i j=> .bl (decide (i<=j))):=opB0 fun _ _ _ _ _ _ _ q=>le_int q
theorem op_gt:OpR X (compareOp .Gt) (rI0 fun i j=> .bl (decide (j<i))):=opB0 fun _ _ _ _ _ _ _ q=>gt_int q
theorem op_ge:OpR X (compareOp .GtE) (rI0 fun i j=> .bl (decide (j<=i))):=opB0 fun _ _ _ _ _ _ _ q=>ge_int q
theorem op_isN:OpR X (compareOp .Is) (fun x y H Q=>y= .non/\Q (.bl (decide (x= .non))) H):=by
 intro pins s σ H x y v u Q I rx ry h;obtain⟨rfl,q⟩:=h;cases ry;refine is_none_gen (iT I q ?_);cases x<;>first
  |(cases rx;rfl)
  |(obtain⟨t,rfl⟩:=rx;rfl)
theorem op_notN:OpR X (compareOp .IsNot) (fun x y H Q=>y= .non/\Q (.bl (!decide (x= .non))) H):=by
 intro pins s σ H x y v u Q I rx ry h;obtain⟨rfl,q⟩:=h;cases ry;refine isnot_none_gen (iT I q ?_);cases x<;>first
  |(cases rx;rfl)
  |(obtain⟨t,rfl⟩:=rx;rfl)
theorem OpR.or{f:ζ->ζ->Sem ζ}{r r':R2}(h:OpR X f r)(h':OpR X f r'):OpR X f (fun x y H Q=>r x y H Q\/r' x y H Q):=by
 intro pins s σ H x y v u Q I rx ry q;rcases q with q|q
 ·exact h pins s σ H x y v u Q I rx ry q
 ·exact h' pins s σ H x y v u Q I rx ry q
theorem nomark(b:Expr){op:CmpOp}(h:op≠.In:=by decide)(h2:op≠.NotIn:=by decide):behindInMarks op b=false:=by
 have e1:(op==CmpOp.In)=false:=by cases op<;>first |rfl|exact absurd rfl h
 have e2:(op==CmpOp.NotIn)=false:=by cases op<;>first |rfl|exact absurd rfl h2
 cases b<;>simp[behindInMarks,e1,e2]
theorem Je{op:CmpOp}{r:R2}(ho:OpR X (compareOp op) r)(ha:PE X a ta)(hb:PE X b tb)(hm:behindInMarks op b=false:=by exact nomark _):PE X (.Compare a [op] [b] pos) (tOp r ta tb):=by
 intro pins s σ H Q I h;exact wpAny_Compare1 (binT ha hb I h fun v u s2 x y H2 I2 rx ry q=>ho pins s2 σ H2 x y v u Q I2 rx ry q) hm
noncomputable def tTest(t:TE):TT:=fun σ H Q=>t σ H fun x H'=>∃k,x= .bl k/\Q k H'
theorem gF{op:CmpOp}{r:R2}(ho:OpR X (compareOp op) r)(ha:PE X a ta)(hb:PE X b tb)(hm:behindInMarks op b=false:=by exact nomark _):PT X (.Compare a [op] [b] pos) (tTest (tOp r ta tb)):=by
 intro pins s σ H Q I h;refine wpAny_isTrue_Compare1 (thn (ha pins s σ H _ I h) fun v s1 ⟨x,H1,I1,r1,q1⟩=>thn (hb pins s1 σ H1 _ I1 q1) fun u s2 ⟨y,H2,I2,r2,q2⟩=>
  thn (ho pins s2 σ H2 x y v u _ I2 r1 r2 q2) fun c s3 ⟨z,H3,I3,r3,k,e,q3⟩=> ?_) hm
 subst e;cases r3;exact Jv ⟨H3,I3,q3⟩
noncomputable def tChain(r r':R2)(ta tb tc:TE):TE:=fun σ H Q=>ta σ H fun x H1=>tb σ H1 fun y H2=>r x y H2 fun z H3=>∃k,z= .bl k/\
 (if k=true then tc σ H3 fun w' H4=>r' y w' H4 Q else Q (.bl false) H3)
theorem pe_chain{op op':CmpOp}{r r':R2}(ho:OpR X (compareOp op) r)(ho':OpR X (compareOp op') r')(ha:PE X a ta)(hb:PE X b tb)(hc:PE X c tc)(hm:lastMarks [op,op'] [b,c]=false:=by with_unfolding_all rfl):PE X (.Compare a [op,op'] [b,c] pos) (tChain r r' ta tb tc):=by
 intro pins s σ H Q I h;refine Compare_chain (thn (ha pins s σ H _ I h) fun v s1 ⟨x,H1,I1,r1,q1⟩=>chain_link (thn (hb pins s1 σ H1 _ I1 q1) fun u s2 ⟨y,H2,I2,r2,q2⟩=>
  thn (ho pins s2 σ H2 x y v u _ I2 r1 r2 q2) fun d s3 ⟨z,H3,I3,r3,k,e,q3⟩=> ?_)) hm
 subst e;cases r3;refine Jv ?_;cases k with
 |false=>exact ite_ff ⟨.bl false,H3,I3,rfl,q3⟩
 |true=>exact ite_tt (chain_last (thn (hc pins s3 σ H3 _ I3 q3) fun w' s4 ⟨z',H4,I4,r4,q4⟩=>ho' pins s4 σ H4 y z' u w' Q I4 r2 r4 q4))
noncomputable def TruV(K:W.Frag)(x:V)(H:Hp)(k:Bool):Prop:=
 match x with
 | .non=>k=false
 | .bl b=>k=b
 | .int i=>k=(i !=0)
 | .str y=>y.length<=sizeLine/\k=((y.length:Int) !=0)
 | .byt y=>y.size<=sizeLine/\k=((y.size:Int) !=0)
 | .ref p=>(∃xs,SqL K H p xs/\k= !xs.isEmpty)\/(∃xs,SqT K H p xs/\k= !xs.isEmpty)\/∃kvs,H p=some (.dK kvs)/\k= !kvs.isEmpty
 |_=>False
theorem isEmpty_kv{κ:Type}{kvs:List (κ×V)}{vs:List (κ×ζ)}(r:KV kvs vs):(!vs.isEmpty)= !kvs.isEmpty:=by
 cases r<;>rfl
theorem isEmpty_of{xs:List V}{its:List ζ}(r:Vals xs its):(!its.toArray.isEmpty)= !xs.isEmpty:=by
 cases r<;>simp
theorem line63:(sizeLine:Nat)<2^63:=by rw[gA];decide
theorem tru_ok:TruR X (fun x H Q=>∃k,TruV X.K x H k/\Q k H):=by
 intro pins s σ H x v Q I rx h;obtain⟨k,e,q⟩:=h;have hl:=line63;have hs:sizeLine=16777216:=gA;cases x with
 |non=>
  cases rx;have e':k=false:=e;subst e';exact truthy_none ⟨H,I,q⟩
 |bl b=>
  cases rx;have e':k=b:=e;subst e';exact Jv ⟨H,I,q⟩
 |int i=>
  obtain⟨t,rfl⟩:=rx;have e':k=(i !=0):=e;subst e';exact PySem.P.truthy_int ⟨H,I,q⟩
 |str y=>
  obtain⟨t,rfl⟩:=rx;obtain⟨hy,e'⟩:y.length<=sizeLine/\k=((y.length:Int) !=0):=e;subst e';exact PySem.P.truthy_str (by omega) ⟨H,I.tok _,q⟩
 |byt y=>
  obtain⟨t,rfl⟩:=rx;obtain⟨hy,e'⟩:y.size<=sizeLine/\k=((y.size:Int) !=0):=e;subst e';exact PySem.W.truthy_bytes (by omega) ⟨H,I.tok _,q⟩
 |ref p=>
  cases rx;have e':(∃xs,SqL X.K H p xs/\k= !xs.isEmpty)\/(∃xs,SqT X.K H p xs/\k= !xs.isEmpty)\/∃kvs,H p=some (.dK kvs)/\k= !kvs.isEmpty:=e;rcases e' with⟨xs,hx,e'⟩|⟨xs,hx,e'⟩|⟨kvs,hx,e'⟩
  ·subst e';obtain⟨its,r,pl,hz⟩:=I.list hx;have hlen:=r.length;exact wpAny_truthy_list pl.isList (by simp only[dW];omega) ⟨H,I.tok _,by rw[isEmpty_of r];exact q⟩
  ·subst e';obtain⟨its,r,pl,hz⟩:=I.tuple hx;have hlen:=r.length;exact truthy_tuple pl (by simp only[dW];omega) ⟨H,I.tok _,by rw[isEmpty_of r];exact q⟩
  ·subst e';obtain⟨hz,hS,vs,r,m⟩:kvs.length<=sizeLine/\(p==sysModules)=false/\∃vs,KV kvs vs/\s.heap.DictOf (mixKind X.prog X.w) p vs:=I.hok p _ hx;have hlen:kvs.length=vs.length:=Paired.length r;exact wpAny_truthy_dict hS m (by omega) ⟨H,I.tok _,by rw[isEmpty_kv r];exact q⟩
 |_=>exact(show False from e).elim
theorem pt_truth(ha:PE X a ta)(he:∀whole,isTrue a X.env whole=(do let v<-whole;standAt a.pos;holding [v] (truthy v))):
  PT X a (fun σ H Q=>ta σ H fun x H'=>∃k,TruV X.K x H' k/\Q k H'):=by
 intro pins s σ H Q I h;exact isTrue_plain (thn (ha pins s σ H _ I h) fun v s1 ⟨x,H1,I1,r1,q1⟩=>tru_ok pins s1 σ H1 x v Q I1 r1 q1) (he _)
theorem vals1{x:V}{us:List ζ}(r:Vals [x] us):∃u,us=[u]/\RelV x u:=by
 cases r with
 |cons r1 r2=>cases r2;exact⟨_,rfl,r1⟩
theorem vals2{x y:V}{us:List ζ}(r:Vals [x,y] us):∃u w',us=[u,w']/\RelV x u/\RelV y w':=by
 cases r with
 |cons r1 r2=>
  cases r2 with
  |cons r3 r4=>cases r4;exact⟨_,_,rfl,r1,r3⟩
theorem call_abs:CallR X (.builtin "abs") (fun xs H Q=>∃i,xs=[.int i]/\Q (.int (if i<0 then -i else i)) H):=by
 intro pins s σ H xs us Q I r h;obtain⟨i,rfl,q⟩:=h;obtain⟨u,rfl,t,rfl⟩:=vals1 r;exact call_abs_int fun u tk=>⟨.int (if i<0 then -i else i),H,I.tok _,⟨_,rfl⟩,q⟩
theorem call_max2(hc:X.calm=true):CallR X (.builtin "max") (fun xs H Q=>∃i j,xs=[.int i,.int j]/\Q (.int (if j>i then j else i)) H):=by
 intro pins s σ H xs us Q I r h;obtain⟨i,j,rfl,q⟩:=h;obtain⟨u,w',rfl,⟨t,rfl⟩,⟨t',rfl⟩⟩:=vals2 r;refine max_two_ints (I.ok.hd hc) fun h' tk k=>⟨_,H,I.kept k,?_,q⟩;by_cases hj:j>i
 ·rw[ak hj,ak hj];exact⟨_,rfl⟩
 ·rw[aj hj,aj hj];exact⟨_,rfl⟩
theorem call_min2(hc:X.calm=true):CallR X (.builtin "min") (fun xs H Q=>∃i j,xs=[.int i,.int j]/\Q (.int (if j<i then j else i)) H):=by
 intro pins s σ H xs us Q I r h;obtain⟨i,j,rfl,q⟩:=h;obtain⟨u,w',rfl,⟨t,rfl⟩,⟨t',rfl⟩⟩:=vals2 r;refine min_two_ints (I.ok.hd hc) fun h' tk k=>⟨_,H,I.kept k,?_,q⟩;by_cases hj:j<i
 ·rw[ak hj,ak hj];exact⟨_,rfl⟩
 ·rw[aj hj,aj hj];exact⟨_,rfl⟩
end
structure ObjM(h:Heap)(x dx C:Addr)(mA:L4):Prop where
 obj:h.get? x=some (PySem.W.instObj C dx)
 ns:h.Ns1 dx mA
 ne:dx≠x
theorem lookIn_ns{h:Heap}{dx:Addr}{mA:L4}(n:h.Ns1 dx mA):∃od,h.get? dx=some od/\∀name,PySem.W.lookIn name od=some (mA name):=by
 obtain⟨o,es,ep,ho,hd,hk,_,hm⟩:=n;refine⟨o,ho,fun name=> ?_⟩;have e:=hm name;unfold nsFind findBy at e;rw[<-Array.find?_toList]at e;unfold PySem.W.lookIn;rw[hd];dsimp only;split
 ·rename_i y q;rw[q]at e;exact gD some e
 ·rename_i q;rw[q]at e;have a:es.toList.any (·.refKey)=false:=by
   rw[Rf];intro y hy;obtain⟨z,t,hkey⟩:=hk y (Array.mem_toList_iff.mp hy);simp[DictEntry.refKey,hkey]
  have a':¬es.toList.any (·.refKey)=true:=by rw[a];exact qy
  rw[aj a'];exact gD some e
theorem ObjM.look{h:Heap}{x dx C:Addr}{mA:L4}(I:ObjM h x dx C mA):∃od,PySem.W.InstAt h x (PySem.W.instObj C dx) C (some od)/\∀name,PySem.W.lookIn name od=some (mA name):=
 let⟨od,ho,hl⟩:=lookIn_ns I.ns
 ⟨od,⟨I.obj,rfl,rfl,ho⟩,hl⟩
section
variable{prog:ρ}{w:υ}{A:Around}{E:L3}{s:η}{K:W.Frag}{x dx C f:Addr}{mA:L4}{name:Str}{v:ζ}
theorem get_map{expr:Bool}{Q:L3}(X:K.In s.heap)(I:ObjM s.heap x dx C mA)(hg:PySem.W.plainGet K C name=true)(hh:PySem.W.hasDictIn K C=true)(ha:PySem.W.findIn K (.ref C) name=some none)(hv:mA name=some v)(hv':PySem.W.handedIn v=true)(h:Q v {s with toks:=s.toks+1}):
  wpAny (model prog w) A (getAttr (.ref x) name expr) Q E s:=by
 obtain⟨od,J,hl⟩:=I.look;exact PySem.W.get_value X J (Y6 hg).1 (PySem.W.findObj_own hh ha rfl (by rw[hl,hv])) hv' h
theorem get_meth{pl:Sem Bool}{Q:ζ×List ζ->η->Prop}(X:K.In s.heap)(I:ObjM s.heap x dx C mA)(hg:PySem.W.plainGet K C name=true)(hf:PySem.W.findIn K (.ref C) name=some (some (.ref f)))(ht:PySem.W.isFn K (.ref f)=true)(hv:mA name=none)(h:Q (.ref f,[.ref x]) s):
  wpAny (model prog w) A (getMethod (.ref x) name pl) Q E s:=by
 obtain⟨od,J,hl⟩:=I.look;exact PySem.W.method_fn X J (Y6 hg).1 (Y6 hg).2 hf (beq_iff_eq.mp ht) (by show(PySem.W.lookIn name od).map (·.isSome)=some false;rw[hl,hv];rfl) h
theorem set_map{ns:List Str}{Q:Unit->η->Prop}(X:K.In s.heap)(I:ObjM s.heap x dx C mA)(hs:PySem.W.findIn K (.ref C) "__setattr__"=some (some (.builtin "object.__setattr__")))(hp:PySem.W.plainOver K C=true)(ht:PySem.W.takerIn K C name=some none)(hh:PySem.W.hasDictIn K C=true)(hw:PySem.Within mA ns)(hsz:ns.length<=sizeLine)(h:∀h',ObjM h' x dx C (fun y=>if y=name then some v else mA y)->Heap.SameBut dx s.heap h'->Q () {s with heap:=h',toks:=s.toks+2}):
  wpAny (model prog w) A (setAttr (.ref x) name v) Q E s:=by
 obtain⟨od,J,hl⟩:=I.look;refine PySem.W.set_plain X J hs (PySem.W.osa_open (s:={s with toks:=s.toks+1}) (r:=none) X J hp ht fun b=> ?_);obtain⟨cd,hc,hd'⟩:=PySem.W.any_some hh;have hx:s.heap.get? x=some ⟨.ref C,some dx,.plain,#[]⟩:=I.obj;refine aq (aO (aq (aq (wpAny_loadPart hx (aq (PySem.W.Looks.here (s:={s with toks:=s.toks+1}) (PySem.W.looks_clsIn X hc) ?_))))));rw[hd'];refine aO (a:=some dx) (aq (aO (aq ?_)));refine wpAny_nsSet1 (s:={s with toks:=s.toks+1}) I.ns fun h' hn2 hs2=> ?_;obtain⟨oD,esD,epD,hoD,hdD,hcD⟩:=hn2.count (PySem.Within.cons name v hw);refine aq (wpAny_lookBehind hoD (by rw[hdD];exact pastItsLine_dict (dD hcD (by rw[nO];omega))) ?_);exact aO (h _ ⟨(hs2.2 _ (iU I.ne)).trans I.obj,hn2,I.ne⟩ hs2)
theorem make_map{R:Result->η->Prop}{vs:List ζ}{kw:List (Str×ζ)}(X:K.In s.heap)(hm:PySem.W.makesIn K C=true)(hi:PySem.W.findIn K (.ref C) "__init__"=some (some (.ref f)))(hf:PySem.W.typeIn K (.ref f)=some (.type "function"))(h:codeAny (model prog w) (A.under (.builtin "type.__call__" ⟨.ref C::vs,kw⟩)) (.call (.ref f) ⟨.ref (s.heap.objs.size+1)::vs,kw⟩) (PySem.W.InitBack (s.heap.objs.size+1) R)
   {s with heap:=(s.heap.push PySem.W.emptyDict).push (PySem.W.instObj C s.heap.objs.size)}):
  codeAny (model prog w) A (.call (.ref C) ⟨vs,kw⟩) R s:=by
 obtain⟨hh,g,d,t,os⟩:=s;exact PySem.W.make_core (PySem.W.makes_of X hm) (PySem.W.looks_findIn X hi) (fun self=>PySem.W.bind_fn X self hf) (.inl rfl) h
end
noncomputable def putF(f:Str)(v:V):List (Str×V)->List (Str×V)
 |[]=>[(f,v)]
 |(g,x)::r=>if g=f then(g,v)::r else(g,x)::putF f v r
theorem lookup_putF(f g:Str)(v:V):∀fs:List (Str×V),(putF f v fs).lookup g=if g=f then some v else fs.lookup g
 |[]=>by
  show List.lookup g [(f,v)]=_;by_cases h:g=f
  ·have hb:(g==f)=true:=beq_iff_eq.mpr h;simp only[List.lookup,hb,ak h]
  ·have hb:(g==f)=false:=beq_eq_false_iff_ne.mpr h;simp only[List.lookup,hb,aj h]
 |(k,x)::r=>by
  have ih:=lookup_putF f g v r;rw[show putF f v ((k,x)::r)=(if k=f then(k,v)::r else(k,x)::putF f v r)from rfl];by_cases hk:k=f
  ·rw[ak hk];by_cases h:g=k
   ·have hb:(g==k)=true:=beq_iff_eq.mpr h;simp only[List.lookup,hb,ak (h.trans hk)]
   ·have hb:(g==k)=false:=beq_eq_false_iff_ne.mpr h;simp only[List.lookup,hb,aj (fun e:g=f=>h (e.trans hk.symm))]
  ·rw[aj hk];by_cases h:g=k
   ·have hb:(g==k)=true:=beq_iff_eq.mpr h;simp only[List.lookup,hb,aj (fun e:g=f=>hk (h.symm.trans e))]
   ·have hb:(g==k)=false:=beq_eq_false_iff_ne.mpr h;simp only[List.lookup,hb];exact ih
theorem keys_putF(f:Str)(v:V):∀fs:List (Str×V),f∈(putF f v fs).map (·.1)/\∀g,g∈fs.map (·.1)->g∈(putF f v fs).map (·.1)
 |[]=>⟨by simp[putF],fun g h=>by simp at h⟩
 |(k,x)::r=>by
  obtain⟨i1,i2⟩:=keys_putF f v r;rw[show putF f v ((k,x)::r)=(if k=f then(k,v)::r else(k,x)::putF f v r)from rfl];by_cases hk:k=f
  ·rw[ak hk];subst hk;exact⟨by simp,fun g h=>by simpa using h⟩
  ·rw[aj hk];refine⟨?_,fun g h=> ?_⟩
   ·rw[CZ];exact eV _ i1
   ·rw[CZ]at h⊢;rcases dU.mp h with e|e
    ·exact dU.mpr (.inl e)
    ·exact eV _ (i2 g e)
theorem length_putF(f:Str)(v:V):∀fs:List (Str×V),(putF f v fs).length<=fs.length+1
 |[]=>by simp[putF]
 |(k,x)::r=>by
  have ih:=length_putF f v r;rw[show putF f v ((k,x)::r)=(if k=f then(k,v)::r else(k,x)::putF f v r)from rfl];by_cases hk:k=f
  ·rw[ak hk,nO,nO];omega
  ·rw[aj hk,nO,nO];omega
theorem RelO.some_of{v:V}{o:Option ζ}(r:RelO (some v) o):∃u,o=some u/\RelV v u:=by
 cases o with
 |none=>exact(show False from r).elim
 |some u=>exact⟨u,rfl,r⟩
theorem RelO.none_of{o:Option ζ}(r:RelO none o):o=none:=by
 cases o with
 |none=>rfl
 |some u=>exact(show False from r).elim
theorem handed_of{v:V}{u:ζ}(r:RelV v u):PySem.W.handedIn u=true:=by
 cases v with
 |non=>cases(show u=Value.none from r);rfl
 |bl b=>cases(show u=Value.bool b from r);rfl
 |int i=>obtain⟨t,e⟩:=(show∃t,u=Value.int i t from r);cases e;rfl
 |str x=>obtain⟨t,e⟩:=(show∃t,u=Value.str x t from r);cases e;rfl
 |byt b=>obtain⟨t,e⟩:=(show∃t,u=Value.bytes b t from r);cases e;rfl
 |flt b=>obtain⟨t,e⟩:=(show∃t,u=Value.float b t from r);cases e;rfl
 |ref a=>cases(show u=Value.ref a from r);rfl
 |ty n=>cases(show u=Value.type n from r);rfl
section
variable{P:ρ}{w:υ}{H:Hp}{h:Heap}{a C dx:Addr}{fs:List (Str×V)}
theorem ins_get(hok:HOk P w H h)(e:H a=some (.ins C dx fs)):∃mA,ObjM h a dx C mA/\(∀f,RelO (fs.lookup f) (mA f))/\PySem.Within mA (fs.map (·.1))/\fs.length<=1000/\H dx=some (.own a):=by
 obtain⟨d,z,ne,ob,mA,n,r,q⟩:=(show ObjOk P w H h a (.ins C dx fs)from hok a _ e);exact⟨mA,⟨ob,n,ne⟩,r,q,z,d⟩
end
structure Cls(K:W.Frag)(C:Addr):Prop where
 pg:PySem.W.plainGet K C Str.empty=true
 hd:PySem.W.hasDictIn K C=true
 po:PySem.W.plainOver K C=true
 sa:PySem.W.findIn K (.ref C) "__setattr__"=some (some (.builtin "object.__setattr__"))
theorem Cls.get{K:W.Frag}{C:Addr}(c:Cls K C)(f:Str):PySem.W.plainGet K C f=true:=c.pg
noncomputable def NoAttr(K:W.Frag)(C:Addr)(f:Str):Prop:=PySem.W.findIn K (.ref C) f=some none
theorem NoAttr.taker{K:W.Frag}{C:Addr}{f:Str}(n:NoAttr K C f):PySem.W.takerIn K C f=some none:=by
 unfold PySem.W.takerIn;rw[show PySem.W.findIn K (.ref C) f=some none from n];rfl
structure Meth(K:W.Frag)(C:Addr)(m:Str)(f:Addr):Prop where
 at_:PySem.W.findIn K (.ref C) m=some (some (.ref f))
 fn:PySem.W.isFn K (.ref f)=true
 kp:PySem.W.keepIn K (.ref f)=true
section
variable{X:Cx}{pins:L1}{σ:St}{H:Hp}{s:η}{a C dx:Addr}{fs:List (Str×V)}{f:Str}{v:V}{A:Around}{E:L3}
theorem getattr_ok{b:Bool}{Q:L3}(I:Inv X pins σ H s)(e:H a=some (.ins C dx fs))(c:Cls X.K C)(n:NoAttr X.K C f)(l:fs.lookup f=some v)(h:∀u s',Inv X pins σ H s'->RelV v u->Q u s'):wpAny (model X.prog X.w) A (getAttr (.ref a) f b) Q E s:=by
 obtain⟨mA,O,r,_,_,_⟩:=ins_get I.hok e;obtain⟨u,hu,ru⟩:=RelO.some_of (v:=v) (o:=mA f) (by rw[<-l];exact r f);exact get_map I.kIn O (c.get f) c.hd n hu (handed_of ru) (h u _ (I.tok _) ru)
theorem getmeth_ok{m:Str}{g:Addr}{pl:Sem Bool}{Q:ζ×List ζ->η->Prop}(I:Inv X pins σ H s)(e:H a=some (.ins C dx fs))(c:Cls X.K C)(k:Meth X.K C m g)(l:fs.lookup m=none)(h:Q (.ref g,[.ref a]) s):wpAny (model X.prog X.w) A (getMethod (.ref a) m pl) Q E s:=by
 obtain⟨mA,O,r,_,_,_⟩:=ins_get I.hok e;have hn:mA m=none:=RelO.none_of (by rw[<-l];exact r m);exact get_meth I.kIn O (c.get m) k.at_ k.fn hn h
theorem setattr_ok{y:V}{u:ζ}{Q:Unit->η->Prop}(I:Inv X pins σ H s)(e:H a=some (.ins C dx fs))(c:Cls X.K C)(n:NoAttr X.K C f)(hl:fs.length<1000)(ry:RelV y u)(h:∀s',Inv X pins σ (upd H a (.ins C dx (putF f y fs))) s'->Q () s'):wpAny (model X.prog X.w) A (setAttr (.ref a) f u) Q E s:=by
 obtain⟨mA,O,r,wi,_,ho⟩:=ins_get I.hok e;have hz:(fs.map (·.1)).length<=sizeLine:=by rw[aH,gA];omega
 refine set_map I.kIn O c.sa c.po n.taker c.hd wi hz fun h' O' sb=>h _ ?_;have hd:∃o,h'.get? dx=some o:=let⟨o,_,_,e',_⟩:=O'.ns;⟨o,e'⟩;refine I.write (x:=a) (e:=dx) (by rw[e];exact True.intro) (.inr ho) (fun b q hb z=>(sb.2 b hb).trans z) hd ?_;refine⟨by rw[cG O.ne];exact ho,?_,O.ne,O'.obj,_,O'.ns,fun g=> ?_,fun g hg=> ?_⟩
 ·have:=length_putF f y fs;omega
 ·show RelO ((putF f y fs).lookup g) (if g=f then some u else mA g);rw[lookup_putF];by_cases q:g=f
  ·rw[ak q,ak q];exact ry
  ·rw[aj q,aj q];exact r g
 ·by_cases q:g=f
  ·rw[q];exact(keys_putF f y fs).1
  ·refine(keys_putF f y fs).2 g (wi g fun z=>hg ?_);show(if g=f then some u else mA g)=none;rw[aj q];exact z
theorem Inv.made(I:Inv X pins σ H s):Inv X pins σ (upd (upd H s.heap.objs.size (.own (s.heap.objs.size+1))) (s.heap.objs.size+1) (.ins C s.heap.objs.size []))
  {s with heap:=(s.heap.push PySem.W.emptyDict).push (PySem.W.instObj C s.heap.objs.size)}:=by
 have e1:(s.heap.push PySem.W.emptyDict).get? s.heap.objs.size=some PySem.W.emptyDict:=jE s.heap rfl;have e2:((s.heap.push PySem.W.emptyDict).push (PySem.W.instObj C s.heap.objs.size)).get? (s.heap.objs.size+1)=some (PySem.W.instObj C s.heap.objs.size):=by
  have:=jE (s.heap.push PySem.W.emptyDict) (o:=PySem.W.instObj C s.heap.objs.size) rfl
  rwa [wF]at this
 have e3:(s.heap.push PySem.W.emptyDict).Ns s.heap.objs.size (fun _=>none):=⟨PySem.W.emptyDict,#[],_,e1,rfl,(fun e he=>absurd he (by simp)),fun _=>rfl⟩;have I1:=I.laid (a:=s.heap.objs.size) (o:= .own (s.heap.objs.size+1)) (h':=s.heap.push PySem.W.emptyDict) (t':=s.toks) (fun b u q=>dH _ q) (aB _) ⟨_,e1⟩;refine I1.laid (a:=s.heap.objs.size+1) (o:= .ins C s.heap.objs.size []) (t':=s.toks) (fun b u q=>dH _ q) (tW (wF _ _)) ?_;have ne:s.heap.objs.size≠s.heap.objs.size+1:=cN (pL _);refine⟨by rw[cG ne,aR],cg _,ne,e2,fun _=>none,(Heap.Ns1.of_empty e3).at fun o q=>dH _ q,fun _=>True.intro,fun y hy=>absurd rfl hy⟩
theorem attr_of{prog:ρ}{w:υ}{env:Env}{e:Expr}{f:Str}{pos:Pos}{s:η}{Q:L3}(hb:attributeBase e f env (eval e env)=eval e env)(h:wpAny (model prog w) A (eval e env) (fun o s₁=>wpAny (model prog w) A (getAttr o f true) Q E s₁) E s):wpAny (model prog w) A (eval (.Attribute e f pos) env) Q E s:=
 Attribute_any_ h (by rw[arm_eval_Attribute,hb])
end
noncomputable def tFld(K:W.Frag)(ta:TE)(f:Str):TE:=fun σ H Q=>ta σ H fun x H1=>∃a C dx fs v,x= .ref a/\H1 a=some (.ins C dx fs)/\Cls K C/\NoAttr K C f/\fs.lookup f=some v/\Q v H1
noncomputable def sFld(K:W.Frag)(ta tv:TE)(f:Str):TS:=fun D σ H=>tv σ H fun y H1=>ta σ H1 fun x H2=>∃a C dx fs,x= .ref a/\H2 a=some (.ins C dx fs)/\Cls K C/\NoAttr K C f/\fs.length<1000/\
 D.nx σ (upd H2 a (.ins C dx (putF f y fs)))
section
variable{X:Cx}{o e value:Expr}{f:Str}{pos pos':Pos}{ta tv:TE}
theorem kO(he:PE X e ta)(hb:attributeBase e f X.env (eval e X.env)=eval e X.env):PE X (.Attribute e f pos) (tFld X.K ta f):=by
 intro pins s σ H Q I h;refine attr_of hb (thn (he pins s σ H _ I h) fun u s1 ⟨x,H1,I1,rx,a,C,dx,fs,v,ex,ea,c,n,l,q⟩=> ?_);subst ex;obtain rfl:u=Value.ref a:=rx;exact getattr_ok I1 ea c n l fun u' s2 I2 ru=>⟨v,H1,I2,ru,q⟩
theorem ps_fld(ha:PE X o ta)(hv:PE X value tv)(hs:swapsWith value (some (.Attribute o f pos')) pos.line X.env=pure false):PS X (.Assign [.Attribute o f pos'] value pos) (sFld X.K ta tv f):=by
 intro pins s σ H D I h;refine plainObj_wpAny_Assign_Attribute (thn (hv pins s σ H _ I h) fun u s1 ⟨y,H1,I1,ry,q⟩=>thn (ha pins s1 σ H1 _ I1 q) fun ov s2 ⟨x,H2,I2,rx,a,C,dx,fs,ex,ea,c,n,l,q2⟩=> ?_) hs;subst ex;obtain rfl:ov=Value.ref a:=rx;exact setattr_ok I2 ea c n l ry fun s3 I3=>⟨σ,_,I3,q2⟩
end
structure Room(k:Nat)(A:Around):Prop where
 hd:A.handled=none
 dp:A.depth+3*k+5<recursionLimit
 un:A.units+16*k+200<cLine
 gd:A.guards=some []
theorem Room.mono{j k:Nat}{A:Around}(r:Room k A)(h:j<=k):Room j A:=⟨r.hd,by have:=r.dp;omega,by have:=r.un;omega,r.gd⟩
theorem Room.deeper{k:Nat}{A:Around}(r:Room (k+1) A)(env:Env):Room k (A.deeper env):=
 ⟨r.hd,by have:=r.dp;show A.depth+1+3*k+5<_;omega,by have:=r.un;show A.units+3+16*k+200<_;omega,r.gd⟩
theorem make_depth{A:Around}{C:Addr}{us:List ζ}{kw:List (Str×ζ)}:(A.under (.builtin "type.__call__" ⟨.ref C::us,kw⟩)).depth=A.depth+1:=by
 first |rfl|simp[Around.under,Code.weight,Code.isCreation,Code.isGuard,Code.isCaller,Code.frames,Code.isFrame,guardIds]
theorem make_units{A:Around}{C:Addr}{us:List ζ}{kw:List (Str×ζ)}:(A.under (.builtin "type.__call__" ⟨.ref C::us,kw⟩)).units=A.units+1:=by
 first |rfl|simp[Around.under,Code.cUnits,Code.frames,Code.isFrame]
theorem Room.make{k:Nat}{A:Around}(r:Room (k+1) A)(C:Addr)(us:List ζ)(kw:List (Str×ζ)):Room k (A.under (.builtin "type.__call__" ⟨.ref C::us,kw⟩)):=
 ⟨r.hd,by have:=r.dp;rw[make_depth];omega,by have:=r.un;rw[make_units];omega,by
  have q:=r.gd
  first |exact q|(simp[Around.under,Code.isGuard,guardIds];exact q)|(unfold Around.under;simp[Code.isGuard,guardIds,q])⟩
theorem Room.depth{k:Nat}{A:Around}(r:Room k A):A.depth<recursionLimit:=by have:=r.dp;omega
theorem Room.units{k:Nat}{A:Around}(r:Room k A):A.units+64<cLine:=by have:=r.un;omega
theorem Room.units0{k:Nat}{A:Around}(r:Room k A):A.units<cLine:=by have:=r.un;omega
noncomputable def tNil:TA:=fun _ H Q=>Q [] H
noncomputable def tCons(ta:TE)(tr:TA):TA:=fun σ H Q=>ta σ H fun x H1=>tr σ H1 fun xs H2=>Q (x::xs) H2
section
variable{X:Cx}{e:Expr}{es:List Expr}{te:TE}{t:TA}{pos:Pos}
theorem aA:PA X [] tNil:=fun _ _ _ _ H Q I h=>TX ⟨[],H,I,.nil,h⟩
theorem ao(ha:PE X e te)(hr:PA X es t)(hs:starEach (e::es) X.env=(false,eval e X.env)::starEach es X.env:=by rfl):PA X (e::es) (tCons te t):=by
 intro pos pins s σ H Q I h;rw[hs];show wpAny _ _ (spliced ((false,eval e X.env)::backTo pos (starEach es X.env))) _ _ s;refine TY (thn (ha pins s σ H _ I h) fun u s1 ⟨x,H1,I1,r1,q1⟩=> ?_);exact thn (hr pos pins s1 σ H1 _ I1 q1) fun us s2 ⟨xs,H2,I2,r2,q2⟩=>⟨x::xs,H2,I2,.cons r1 r2,q2⟩
noncomputable def tTup(t:TA):TE:=fun σ H Q=>t σ H fun xs H1=>xs.length<=sizeLine/\∀p,H1 p=none->Q (.ref p) (upd H1 p (.tup xs))
noncomputable def tLst(t:TA):TE:=fun σ H Q=>t σ H fun xs H1=>xs.length<=sizeLine/\∀p,H1 p=none->Q (.ref p) (upd H1 p (.lst xs))
theorem tV{x1}(h:PA X es t):PE X (.Tuple es x1 pos) (tTup t):=by
 intro pins s σ H Q I hq;refine wpAny_Tuple_spliced (thn (h pos pins s σ H _ I hq) fun us s1 ⟨xs,H1,I1,r,z,q⟩=>⟨by rw[<-r.length];exact z,?_⟩);have hf:H1 s1.heap.objs.size=none:=I1.hok.fresh (aB _);refine⟨.ref s1.heap.objs.size,upd H1 s1.heap.objs.size (.tup xs),I1.laid (t':=s1.toks) (fun b u e=>dH _ e) (aB _) ?_,rfl,q _ hf⟩;exact⟨z,us,r,⟨_,jE _ rfl,rfl,_,rfl⟩⟩
theorem pe_lst(h:PA X es t):PE X (.List es pos) (tLst t):=by
 intro pins s σ H Q I hq;refine wpAny_List_spliced (thn (h pos pins s σ H _ I hq) fun us s1 ⟨xs,H1,I1,r,z,q⟩=>⟨by rw[<-r.length];exact z,?_⟩);have hf:H1 s1.heap.objs.size=none:=I1.hok.fresh (aB _);refine⟨.ref s1.heap.objs.size,upd H1 s1.heap.objs.size (.lst xs),I1.laid (t':=s1.toks) (fun b u e=>dH _ e) (aB _) ?_,rfl,q _ hf⟩;exact⟨z,us,0,r,jE _ rfl⟩
end
noncomputable abbrev Sp:=List V->Hp->VK->XK->Prop
noncomputable abbrev CXT:=List Env->Hp->η->XK->ζ->η->Prop
structure Env0(P:ρ)(w:υ)(K:W.Frag)(mg:L4)(base:Heap)(A:Around)(outer:List Env)(s:η)(H:Hp):Prop where
 frames:A.frames=some outer
 mod:Mod K mg base
 bs:∀b o,base.get? b=some o->s.heap.get? b=some o/\H b=none
 bsz:base.objs.size<=s.heap.objs.size
 funs:s.heap.FunFrames base outer
 frf:∀b∈frs outer,H b=none
 hok:HOk P w H s.heap
 bare:AllBare s.gens
noncomputable def CE(outer:List Env)(P:ρ)(w:υ)(H:Hp)(s:η)(Q:VK)(u:ζ)(s':η):Prop:=
 ∃v H',s'.os=s.os/\AllBare s'.gens/\Un (frs outer) [] H H' s.heap s'.heap/\HOk P w H' s'.heap/\RelV v u/\Q v H'
noncomputable def CR(CX:CXT)(outer:List Env)(P:ρ)(w:υ)(H:Hp)(s:η)(Q:VK)(E:XK)(r:Result)(s':η):Prop:=
 match r with
 | .ok (.ret u)=>CE outer P w H s Q u s'
 | .ok _=>False
 | .error e=>CX outer H s E e s'
structure FnOk(P:ρ)(w:υ)(K:W.Frag)(mg:L4)(base:Heap)(CX:CXT)(k:Nat)(f:Addr)(fd:τ)(ps:List Str)(sp:Sp):Prop where
 len:∀vs H Q E,sp vs H Q E->vs.length=ps.length
 run:∀(A:Around) (outer:List Env) (s:η) (H:Hp) (args:Args) (us:List ζ) (vs:List V) (Q:VK) (E:XK),Room k A->Env0 P w K mg base A outer s H->BindsTo s fd args (ps.zip us)->Vals vs us->sp vs H Q E->
  codeAny (model P w) A (.call (.ref f) args) (CR CX outer P w H s Q E) s
theorem FnOk.mono{P:ρ}{w:υ}{K:W.Frag}{mg:L4}{base:Heap}{CX:CXT}{j k:Nat}{f:Addr}{fd:τ}{ps:List Str}{sp:Sp}(F:FnOk P w K mg base CX j f fd ps sp)(h:j<=k):
  FnOk P w K mg base CX k f fd ps sp:=⟨F.len,fun A outer s H args us vs Q E hr=>F.run A outer s H args us vs Q E (hr.mono h)⟩
theorem Env0.make{P:ρ}{w:υ}{K:W.Frag}{mg:L4}{base:Heap}{A:Around}{outer:List Env}{s:η}{H:Hp}(e:Env0 P w K mg base A outer s H)(C:Addr)(us:List ζ)(kw:List (Str×ζ)):
  Env0 P w K mg base (A.under (.builtin "type.__call__" ⟨.ref C::us,kw⟩)) outer s H:=⟨by first |exact e.frames|(simpa[Around.under,Code.envs,Code.isFrame,pushEnvs]using e.frames),e.mod,e.bs,e.bsz,e.funs,e.frf,e.hok,e.bare⟩
section
variable{X:Cx}{pins:L1}{σ:St}{H:Hp}{s s':η}
theorem Inv.env0(I:Inv X pins σ H s):Env0 X.prog X.w X.K X.mg X.base X.A X.stack s H:=
 ⟨I.ok.frames,I.ok.mod,I.bs,dD I.ok.bsz I.sz,I.stack,I.stkFree,I.hok,I.bare⟩
theorem Inv.after{Q:VK}{u:ζ}(I:Inv X pins σ H s)(h:CE X.stack X.prog X.w H s Q u s'):EP X pins σ Q u s':=by
 obtain⟨v,H',os,bare,un,hok,r,q⟩:=h;obtain⟨hh,g,d,t,os'⟩:=s';obtain rfl:os'=s.os:=os;exact⟨v,H',I.call (h':=hh) (g':=g) (d':=d) (t':=t) (ch:=[]) un hok bare (fun b z=>absurd z (by simp)),r,q⟩
end
noncomputable def tCall(sp:Sp)(dvs:List V)(E:XK)(t:TA):TE:=fun σ H Q=>t σ H fun vs H1=>sp (vs++dvs) H1 Q E
noncomputable def tMeth(C:Addr)(m:Str)(sp:Sp)(dvs:List V)(E:XK)(ta:TE)(t:TA):TE:=fun σ H Q=>ta σ H fun x H1=>∃a dx fs,x= .ref a/\H1 a=some (.ins C dx fs)/\fs.lookup m=none/\
 t σ H1 fun vs H2=>sp (x::(vs++dvs)) H2 Q E
noncomputable def tMake(C:Addr)(sp:Sp)(dvs:List V)(E:XK)(t:TA):TE:=fun σ H Q=>t σ H fun vs H1=>∀x dx,H1 x=none->H1 dx=none->dx≠x->
 sp (.ref x::(vs++dvs)) (upd (upd H1 dx (.own x)) x (.ins C dx [])) (fun v H2=>v= .non/\Q (.ref x) H2) E
noncomputable def Binds(K:W.Frag)(fd:τ)(ps:List Str)(ds:List ζ):Prop:=
 ∀(s:η) (us:List ζ),K.In s.heap->(us++ds).length=ps.length->BindsTo s fd ⟨us,[]⟩ (ps.zip (us++ds))
theorem Binds.all{K:W.Frag}{fd:τ}{ps:List Str}(h:∀us:List ζ,us.length=ps.length->bindArgs fd ⟨us,[]⟩=pure (ps.zip us)):Binds K fd ps []:=fun s us _ hl=>by
 rw[Cu]at hl⊢;exact .of_eq (h us hl)
noncomputable def Passes(CX:CXT)(X:Cx)(E:XK):Prop:=∀(pins:L1) (σ:St) (H:Hp) (s:η) (e:ζ) (s':η),Inv X pins σ H s->CX X.stack H s E e s'->X.xe e s'
section
variable{X:Cx}{CX:CXT}{k:Nat}{f C:Addr}{fd:τ}{ps:List Str}{sp:Sp}{dvs:List V}{ds:List ζ}{E:XK}{x m:Str}{p pos apos:Pos}{e o:Expr}{es:List Expr}{ta:TE}{t:TA}
theorem run_fn{pins:L1}{σ:St}{H:Hp}{s:η}{Q:VK}{us:List ζ}{vs:List V}(F:FnOk X.prog X.w X.K X.mg X.base CX k f fd ps sp)(hr:Room k X.A)(hb:Binds X.K fd ps ds)(hd:Vals dvs ds)(hx:Passes CX X E)
  (I:Inv X pins σ H s)(r:Vals vs us)(h:sp (vs++dvs) H Q E):wpAny (model X.prog X.w) X.A (call (.ref f) us) (EP X pins σ Q) X.xe s:=by
 have r2:Vals (vs++dvs) (us++ds):=r.append hd;have hl:(us++ds).length=ps.length:=by rw[<-r2.length];exact F.len _ _ _ _ h
 refine wpAny_call (Mp (F.run X.A X.stack s H ⟨us,[]⟩ (us++ds) (vs++dvs) Q E hr I.env0 (hb s us I.kIn hl) r2 h) fun r s' hq=> ?_);cases r with
 |error e=>exact hx pins σ H s e s' I hq
 |ok fl=>
  cases fl with
  |ret u=>exact I.after hq
  |next=>exact False.elim hq
  |brk=>exact False.elim hq
  |cont=>exact False.elim hq
theorem pe_call(F:FnOk X.prog X.w X.K X.mg X.base CX k f fd ps sp)(hr:Room k X.A)(hg:Gl X x)(hm:X.mg x=some (.ref f))(hk:PySem.W.keepIn X.K (.ref f)=true)(hb:Binds X.K fd ps ds)(hd:Vals dvs ds)(hx:Passes CX X E)(ha:PA X (e::es) t)(hdb:(x==("__debug__":Str))=false:=by decide)(he:starEach (e::es) X.env=(false,eval e X.env)::starEach es X.env:=by rfl)(hpl:(backTo pos (starEach es X.env)).any (·.1)=false:=by rfl):
  PE X (.Call (.Name x p) (e::es) [] pos) (tCall sp dvs E t):=by
 intro pins s σ H Q I h;refine Ms (ld_glob I hg hm ?_ hdb);refine YZ (h₀:=X.base) I.ok.mod.kin hk (thn (ha pos pins s σ H _ I h) fun us s1 ⟨vs,H1,I1,r,q⟩=>⟨I1.kIn,?_⟩) he hpl;exact run_fn F hr hb hd hx I1 r q
theorem Jf{pl:Sem Bool}(he:PE X o ta)(c:Cls X.K C)(hm:Meth X.K C m f)(F:FnOk X.prog X.w X.K X.mg X.base CX k f fd ps sp)(hr:Room k X.A)(hb:Binds X.K fd ps ds)(hd:Vals dvs ds)(hx:Passes CX X E)(ha:PA X (e::es) t)(hst:starEach (e::es) X.env=(false,eval e X.env)::starEach es X.env:=by rfl)(hpl:(backTo pos (starEach es X.env)).any (·.1)=false:=by rfl)(ht:eval (.Call (.Attribute o m apos) (e::es) [] pos) X.env=(do
   let ov<-eval o X.env
   standAt apos.atName
   let(f,first)<-holding [ov] (getMethod ov m pl)
   callWith pos f first (backTo pos (starEach (e::es) X.env)) (backToKw pos (keywordEach [] X.env))):=by rfl):
  PE X (.Call (.Attribute o m apos) (e::es) [] pos) (tMeth C m sp dvs E ta t):=by
 intro pins s σ H Q I h;refine wfw (pl:=pl) (thn (he pins s σ H _ I h) fun u s1 ⟨x,H1,I1,rx,a,dx,fs,ex,ea,l,q⟩=> ?_) ht;subst ex;obtain rfl:u=Value.ref a:=rx;refine getmeth_ok I1 ea c hm l ?_;refine YZ (first:=[.ref a]) (h₀:=X.base) I.ok.mod.kin hm.kp (thn (ha pos pins s1 σ H1 _ I1 q) fun us s2 ⟨vs,H2,I2,r,q2⟩=>⟨I2.kIn,?_⟩) hst hpl;exact run_fn (us:= .ref a::us) (vs:= .ref a::vs) F hr hb hd hx I2 (.cons rfl r) q2
theorem pe_meth0{pl:Sem Bool}(he:PE X o ta)(c:Cls X.K C)(hm:Meth X.K C m f)(F:FnOk X.prog X.w X.K X.mg X.base CX k f fd ps sp)(hr:Room k X.A)(hb:Binds X.K fd ps ds)(hd:Vals dvs ds)(hx:Passes CX X E)(ht:eval (.Call (.Attribute o m apos) [] [] pos) X.env=(do
   let ov<-eval o X.env
   standAt apos.atName
   let(f,first)<-holding [ov] (getMethod ov m pl)
   callWith pos f first (backTo pos (starEach [] X.env)) (backToKw pos (keywordEach [] X.env))):=by rfl):
  PE X (.Call (.Attribute o m apos) [] [] pos) (tMeth C m sp dvs E ta tNil):=by
 intro pins s σ H Q I h;refine wfw (pl:=pl) (thn (he pins s σ H _ I h) fun u s1 ⟨x,H1,I1,rx,a,dx,fs,ex,ea,l,q⟩=> ?_) ht;subst ex;obtain rfl:u=Value.ref a:=rx;refine getmeth_ok I1 ea c hm l ?_;exact PySem.W.callWith_K0 (first:=[.ref a]) I1.kIn hm.kp (run_fn (us:=[.ref a]) (vs:=[.ref a]) F hr hb hd hx I1 (.cons rfl .nil) q)
structure Mk(K:W.Frag)(C f:Addr):Prop where
 makes:PySem.W.makesIn K C=true
 init:PySem.W.findIn K (.ref C) "__init__"=some (some (.ref f))
 fn:PySem.W.isFn K (.ref f)=true
 kp:PySem.W.keepIn K (.ref C)=true
theorem run_make{pins:L1}{σ:St}{H:Hp}{s:η}{Q:VK}{us:List ζ}{vs:List V}(M:Mk X.K C f)(F:FnOk X.prog X.w X.K X.mg X.base CX k f fd ps sp)(hr:Room (k+1) X.A)(hb:Binds X.K fd ps ds)(hd:Vals dvs ds)(hx:Passes CX X E)(I:Inv X pins σ H s)(r:Vals vs us)(h:∀x dx,H x=none->H dx=none->dx≠x->sp (.ref x::(vs++dvs)) (upd (upd H dx (.own x)) x (.ins C dx [])) (fun v H2=>v= .non/\Q (.ref x) H2) E):
  wpAny (model X.prog X.w) X.A (call (.ref C) us) (EP X pins σ Q) X.xe s:=by
 have hq:=h (s.heap.objs.size+1) s.heap.objs.size (I.hok.fresh (Jk _)) (I.hok.fresh (aB _)) (cN (pL _));have I2:=Inv.made (C:=C) I;have r2:Vals (V.ref (s.heap.objs.size+1)::(vs++dvs)) (Value.ref (s.heap.objs.size+1)::(us++ds)):= .cons rfl (r.append hd);have hl:(Value.ref (s.heap.objs.size+1)::us++ds).length=ps.length:=by
  have e:=r2.length;rw[F.len _ _ _ _ hq]at e;exact e.symm
 refine wpAny_call (make_map (f:=f) I.kIn M.makes M.init (beq_iff_eq.mp M.fn) (Mp (F.run _ X.stack _ _ ⟨Value.ref (s.heap.objs.size+1)::us,[]⟩ (Value.ref (s.heap.objs.size+1)::(us++ds)) _ _ E (hr.make C us [])
  (I2.env0.make C us []) (hb _ (Value.ref (s.heap.objs.size+1)::us) I2.kIn hl) r2 hq) fun r s' hq'=> ?_))
 cases r with
 |error e=>exact hx pins σ _ _ e s' I2 hq'
 |ok fl=>
  cases fl with
  |ret u=>
   obtain⟨v,H',I3,rv,ev,q3⟩:=I2.after hq';subst ev;exact⟨rv,⟨V.ref (s.heap.objs.size+1),H',I3,rfl,q3⟩⟩
  |next=>exact False.elim hq'
  |brk=>exact False.elim hq'
  |cont=>exact False.elim hq'
theorem pe_make(M:Mk X.K C f)(F:FnOk X.prog X.w X.K X.mg X.base CX k f fd ps sp)(hr:Room (k+1) X.A)(hg:Gl X x)(hm:X.mg x=some (.ref C))(hb:Binds X.K fd ps ds)(hd:Vals dvs ds)(hx:Passes CX X E)(ha:PA X (e::es) t)(hdb:(x==("__debug__":Str))=false:=by decide)(he:starEach (e::es) X.env=(false,eval e X.env)::starEach es X.env:=by rfl)(hpl:(backTo pos (starEach es X.env)).any (·.1)=false:=by rfl):
  PE X (.Call (.Name x p) (e::es) [] pos) (tMake C sp dvs E t):=by
 intro pins s σ H Q I h;refine Ms (ld_glob I hg hm ?_ hdb);refine YZ (h₀:=X.base) I.ok.mod.kin M.kp (thn (ha pos pins s σ H _ I h) fun us s1 ⟨vs,H1,I1,r,q⟩=>⟨I1.kIn,?_⟩) he hpl;exact run_make M F hr hb hd hx I1 r q
end
structure FnScope(N P:List Str)(sc:Scope):Prop where
 kind:sc.kind= .function
 co:sc.isCoroutine=false
 gen:sc.isGenerator=false
 nd:N.Nodup
 pre:N.take P.length=P
 par:∀x∈P,sc.names.lookup x=some .local\/sc.names.lookup x=some .cell
 nofree:∀y∈sc.names,y.2≠.free
theorem bindL_out{kindOf:Str->Option NameKind}{x:Str}:∀{binds:List (Str×ζ)} {m:L4},(∀v,(x,v)∉binds)->bindL kindOf binds m x=m x
 |[],_,_=>rfl
 |(n,v)::r,m,h=>by
  unfold bindL;rw[bindL_out fun w hw=>h w (eV _ hw)];split
  ·have:x≠n:=by rintro rfl;exact h v gG
   simp[this]
  ·rfl
theorem bindC_out{kindOf:Str->Option NameKind}{x:Str}:∀{binds:List (Str×ζ)} {m:L4},(∀v,(x,v)∉binds)->bindC kindOf binds m x=m x
 |[],_,_=>rfl
 |(n,v)::r,m,h=>by
  unfold bindC;rw[bindC_out fun w hw=>h w (eV _ hw)];split
  ·rfl
  ·have:x≠n:=by rintro rfl;exact h v gG
   simp[this]
theorem bindL_get{kindOf:Str->Option NameKind}{x:Str}{v:ζ}:∀{P:List Str} {vs:List ζ} {i:Nat} {m:L4},P.Nodup->P[i]? =some x->vs[i]? =some v->kindOf x=some .local->
  bindL kindOf (P.zip vs) m x=some v
 |[],_,_,_,_,h,_,_=>by simp at h
 |_::_,[],_,_,_,_,h,_=>by simp at h
 |p::P,w::vs,0,m,nd,h1,h2,hk=>by
  simp at h1 h2;subst h1;subst h2;show bindL kindOf ((p,w)::P.zip vs) m p=_;unfold bindL;rw[bindL_out fun v hv=>(Cr.mp nd).1 (Yw hv).1,ak hk];simp
 |p::P,w::vs,i+1,m,nd,h1,h2,hk=>by
  show bindL kindOf ((p,w)::P.zip vs) m x=_;unfold bindL;exact bindL_get (i:=i) (Cr.mp nd).2 (by simpa using h1) (by simpa using h2) hk
theorem bindC_get{kindOf:Str->Option NameKind}{x:Str}{v:ζ}:∀{P:List Str} {vs:List ζ} {i:Nat} {m:L4},P.Nodup->P[i]? =some x->vs[i]? =some v->kindOf x≠some .local->
  bindC kindOf (P.zip vs) m x=some v
 |[],_,_,_,_,h,_,_=>by simp at h
 |_::_,[],_,_,_,_,h,_=>by simp at h
 |p::P,w::vs,0,m,nd,h1,h2,hk=>by
  simp at h1 h2;subst h1;subst h2;show bindC kindOf ((p,w)::P.zip vs) m p=_;unfold bindC;rw[bindC_out fun v hv=>(Cr.mp nd).1 (Yw hv).1,aj hk];simp
 |p::P,w::vs,i+1,m,nd,h1,h2,hk=>by
  show bindC kindOf ((p,w)::P.zip vs) m x=_;unfold bindC;exact bindC_get (i:=i) (Cr.mp nd).2 (by simpa using h1) (by simpa using h2) hk
noncomputable def start(N:List Str)(vs:List V):St:=vs.map some++List.replicate (N.length-vs.length) none
noncomputable def cxOf(CX:CXT)(P:ρ)(w:υ)(K:W.Frag)(mg:L4)(base:Heap)(N:List Str)(qual:Str)(scope:Scope)(f:Addr)(cd:ζ)(A:Around)(outer:List Env)(s:η)(H:Hp)(E:XK):Cx where
 prog:=P
 w:=w
 K:=K
 mg:=mg
 base:=base
 A:=A.deeper (envOfC qual scope s.heap.objs.size f cd)
 N:=N
 s₀:=s
 H₀:=H
 env:=envOfC qual scope s.heap.objs.size f cd
 outer:=outer
 stack:=envOfC qual scope s.heap.objs.size f cd::outer
 ex:=[]
 calm:=true
 fn:=fun _=>true
 pn:=[]
 xe:=fun e s'=>wpAny (model P w) (A.deeper (envOfC qual scope s.heap.objs.size f cd)) (leaving (envOfC qual scope s.heap.objs.size f cd) e) (fun _ s''=>CX outer H s E e s'') (fun e' s''=>CX outer H s E e' s'') s'
theorem cell_has{sc:Scope}{n:Nat}{x:Str}(h:sc.names.lookup x=some .cell):∃c,(cellsFrom n sc.names []).lookup x=some c:=by
 have q:=wfu sc.names n [] (.inl h);exact Option.isSome_iff_exists.mp q
theorem inv_start{CX:CXT}{P:ρ}{w:υ}{K:W.Frag}{mg:L4}{base:Heap}{N ps:List Str}{qual:Str}{scope:Scope}{f:Addr}{cd:ζ}{A:Around}{outer:List Env}{s s1:η}{H:Hp}{E:XK}{us:List ζ}{vs:List V}
  (S:FnScope N ps scope)(hd:A.handled=none)(e0:Env0 P w K mg base A outer s H)(hl:vs.length=ps.length)(r:Vals vs us)(x:InCallC s s.heap.objs.size (bindL (envOfC qual scope s.heap.objs.size f cd).kindOf (ps.zip us) fun _=>none) (cellsFrom (s.heap.objs.size+1) scope.names []) (bindC (envOfC qual scope s.heap.objs.size f cd).kindOf (ps.zip us) fun _=>none) s1):
  Inv (cxOf CX P w K mg base N qual scope f cd A outer s H E) [] (start N vs) H s1:=by
 have hpl:ps.length<=N.length:=by have:=gD List.length S.pre;rw[Dc]at this;omega
 obtain⟨h1,tk,rfl,hk⟩:=x.done;have noA:∀b:Addr,b∉(cxOf CX P w K mg base N qual scope f cd A outer s H E).ex:=fun b z=>absurd (show b∈([]:List Addr)from z) (by simp);refine⟨⟨e0.mod,S.kind,rfl,rfl,aB _,fun y z c h1 h2=> ?_,fun y hy=> ?_,fun y c _ h=> ?_,fun _=>hd,Around.frames_deeper e0.frames,.inr ⟨rfl,rfl⟩,fun b z=>absurd z (noA b),e0.bs,e0.bsz,fun b _ _=>noA b,fun b z=>absurd z (noA b),e0.funs,e0.frf⟩,
  rfl,e0.bare,Un.kept hk,⟨_,x.toInCall.ns,fun i y v h1 h2 h3=> ?_⟩,fun y c h=>⟨_,x.cell y c h⟩,e0.hok.fresh (aB _),fun y c h=> ?_,fun p hp=>absurd (show p∈([]:L1)from hp) (by simp),e0.hok.kept hk,?_⟩
 ·exact name_of_addr x.apart (Dr h1) (Dr h2)
 ·have hy:scope.names.lookup y=some .cell\/scope.names.lookup y=some .free:=hy;rcases hy with hy|hy
  ·exact cell_has hy
  ·exact absurd rfl (S.nofree _ (Dr hy))
 ·exact cD (x.above y c (Dr h))
 ·have hi:i<vs.length:=by
   unfold start at h2;by_cases hi:i<vs.length
   ·exact hi
   ·rw[Ws (by simpa using hi)]at h2;rw[List.getElem?_replicate]at h2;split at h2<;>cases h2
  have ha:vs[i]? =some v:=by
   unfold start at h2;rw[Yg (by simpa using hi),dX]at h2;cases e:vs[i]? with
   |none=>rw[e]at h2;cases h2
   |some a=>rw[e]at h2;cases h2;rfl
  obtain⟨u,hu,rv⟩:=r.get ha;have hp:ps[i]? =some y:=by
   rw[<-S.pre,List.getElem?_take_of_lt (by omega)];exact h1
  have ndP:ps.Nodup:=by rw[<-S.pre];exact S.nd.sublist (YM _ _)
  refine⟨u,rv,?_⟩;rcases S.par y (pO hp)with k|k
  ·exact .inl ⟨k,bindL_get ndP hp hu k⟩
  ·obtain⟨c,e⟩:=cell_has (n:=s.heap.objs.size+1) k;refine .inr ⟨.inl k,c,e,?_⟩;have q:=x.cell y c e;rw[bindC_get ndP hp hu (by show scope.names.lookup y≠_;rw[k];decide)]at q;exact q
 ·exact e0.hok.fresh (cD (x.above y c (Dr h)))
 ·unfold start;show _=N.length;rw[p7,aH,Oj];omega
theorem fn_of{CX:CXT}{P:ρ}{w:υ}{K:W.Frag}{mg:L4}{base:Heap}{k:Nat}{f:Addr}{name qual:Str}{params:Arguments}{body:List Stmt}{scope:Scope}{dV kV doc pm cdv ct oc:ζ}{an od:Option Addr}{osl:Array (Option ζ)}{N ps:List Str}{sp:Sp}(lk:K.lookup f=some ⟨oc,od,.func (PySem.W.fnOf name qual params body scope dV kV doc pm an cdv ct),osl⟩)(hcd:PySem.W.codeIn K cdv qual=true)(S:FnScope N ps scope)(len:∀vs H Q E,sp vs H Q E->vs.length=ps.length)(hbody:∀(A:Around) (outer:List Env) (s:η) (H:Hp) (vs:List V) (Q:VK) (E:XK),Room k (A.deeper (envOfC qual scope s.heap.objs.size f cdv))->sp vs H Q E->
   ∃t,PSs (cxOf CX P w K mg base N qual scope f cdv A outer s H E) body t/\t {nx:=fun _ H'=>Q .non H',rt:=Q} (start N vs) H):
  FnOk P w K mg base CX (k+1) f (PySem.W.fnOf name qual params body scope dV kV doc pm an cdv ct) ps sp:=by
 refine⟨len,fun A outer s H args us vs Q E hr e0 hb r hsp=> ?_⟩;have hl:=len _ _ _ _ hsp;have KX:K.In s.heap:=e0.mod.kin.keeps fun b o e=>(e0.bs b o e).1;have lim:s.heap.NoLimit:=e0.mod.nolimit.keeps fun b o e=>(e0.bs b o e).1;have hkind:∀y∈ps.zip us,scope.names.lookup y.1=some .local\/(scope.names.lookup y.1=some .cell/\((cellsFrom (s.heap.objs.size+1) scope.names []).lookup y.1).isSome=true):=fun⟨n,v⟩ hy=>by
  rcases S.par n (Yw hy).1 with q|q
  ·exact .inl q
  ·exact .inr ⟨q,wfu _ _ _ (.inl q)⟩
 refine codeAny_call_function hr.depth (KX _ _ lk) rfl S.co S.gen rfl (PySem.W.codeRec_of KX hcd) (hb _ _ _ _ ?_);refine wpAny_newFunctionEnv_cells S.kind hkind fun env he s1 x=> ?_;subst he;refine⟨lim.keeps x.toInCall.keep,codeAny_func ?_⟩;obtain⟨t,ht,hq⟩:=hbody A outer s H vs Q E (hr.deeper _) hsp;have I:Inv (cxOf CX P w K mg base N qual scope f cdv A outer s H E) [] (start N vs) H s1:=inv_start S hr.hd e0 hl r x;refine Ml (ht [] s1 (start N vs) H _ I hq) (fun fl s' hs=> ?_) fun e s' hs=>hs;have fin:∀{σ':St} {H':Hp} {v:V} {u:ζ},Inv (cxOf CX P w K mg base N qual scope f cdv A outer s H E) [] σ' H' s'->RelV v u->Q v H'->CE outer P w H s Q u s':=
  fun{σ' H' v u} J rv q=>⟨v,H',J.os,J.bare,J.base,J.hok,rv,q⟩
 cases fl with
 |ret u=>
  obtain⟨v,σ',H',J,rv,q⟩:=hs;exact fin J rv q
 |next=>
  obtain⟨σ',H',J,q⟩:=hs;exact fin (v:=V.non) (u:=Value.none) J rfl q
 |brk=>
  obtain⟨_,_,_,q⟩:=hs;exact False.elim q
 |cont=>
  obtain⟨_,_,_,q⟩:=hs;exact False.elim q
section
variable{X:Cx}{x:Str}{p pos:Pos}{e:Expr}{es:List Expr}{t:TA}{id T:String}{r:List V->Hp->VK->Prop}
noncomputable def tCB(r:List V->Hp->VK->Prop)(t:TA):TE:=fun σ H Q=>t σ H fun vs H1=>r vs H1 Q
theorem pe_callB(hc:CallR X (.builtin id) r)(hg:Gl X x)(hm:X.mg x=none)(hv:bootBuiltins x=some (.builtin id))(ha:PA X (e::es) t)(hn:x≠"__name__":=by decide)(hdb:(x==("__debug__":Str))=false:=by decide)(he:starEach (e::es) X.env=(false,eval e X.env)::starEach es X.env:=by rfl)(hpl:(backTo pos (starEach es X.env)).any (·.1)=false:=by rfl):PE X (.Call (.Name x p) (e::es) [] pos) (tCB r t):=by
 intro pins s σ H Q I h;refine Ms (wz I hg hm hv ?_ hn hdb);exact Zk (thn (ha pos pins s σ H _ I h) fun us s1 ⟨vs,H1,I1,r1,q1⟩=>hc pins s1 σ H1 vs us Q I1 r1 q1) he hpl
theorem pB{X:Cx}{x:Str}{id:String}{r:List V->Hp->VK->Prop}{e:Expr}{es:List Expr}{t:TA}{p pos:Pos}(hc:CallR X (.builtin id) r)(hm:X.mg x=none)(ha:PA X (e::es) t)(hg:Gl X x:=by rfl)(hv:bootBuiltins x=some (.builtin id):=by decide+kernel)(hn:x≠"__name__":=by decide)(hdb:(x==("__debug__":Str))=false:=by decide)(he:starEach (e::es) X.env=(false,eval e X.env)::starEach es X.env:=by rfl)(hpl:(backTo pos (starEach es X.env)).any (·.1)=false:=by rfl):PE X (.Call (.Name x p) (e::es) [] pos) (tCB r t):=pe_callB hc hg hm hv ha hn hdb he hpl
theorem pe_callTy(hc:CallR X (.type T) r)(hg:Gl X x)(hm:X.mg x=none)(hv:bootBuiltins x=some (.type T))(ha:PA X (e::es) t)(hn:x≠"__name__":=by decide)(hdb:(x==("__debug__":Str))=false:=by decide)(he:starEach (e::es) X.env=(false,eval e X.env)::starEach es X.env:=by rfl)(hpl:(backTo pos (starEach es X.env)).any (·.1)=false:=by rfl):PE X (.Call (.Name x p) (e::es) [] pos) (tCB r t):=by
 intro pins s σ H Q I h;refine Ms (wz I hg hm hv ?_ hn hdb);exact Dt (thn (ha pos pins s σ H _ I h) fun us s1 ⟨vs,H1,I1,r1,q1⟩=>hc pins s1 σ H1 vs us Q I1 r1 q1) he hpl
theorem pT{X:Cx}{x:Str}{T:String}{r:List V->Hp->VK->Prop}{e:Expr}{es:List Expr}{t:TA}{p pos:Pos}(hc:CallR X (.type T) r)(hm:X.mg x=none)(ha:PA X (e::es) t)(hg:Gl X x:=by rfl)(hv:bootBuiltins x=some (.type T):=by decide+kernel)(hn:x≠"__name__":=by decide)(hdb:(x==("__debug__":Str))=false:=by decide)(he:starEach (e::es) X.env=(false,eval e X.env)::starEach es X.env:=by rfl)(hpl:(backTo pos (starEach es X.env)).any (·.1)=false:=by rfl):PE X (.Call (.Name x p) (e::es) [] pos) (tCB r t):=pe_callTy hc hg hm hv ha hn hdb he hpl
end
end L2
namespace HT
open PySem PyProof.Rows
noncomputable def lexLt:List Int->List Int->Bool
 |[],[]=>false
 |[],_::_=>true
 |_::_,[]=>false
 |x::xs,y::ys=>if x=y then lexLt xs ys else decide (x<y)
theorem lexLt_cons(x y:Int)(xs ys:List Int):lexLt (x::xs) (y::ys)=if x=y then lexLt xs ys else decide (x<y):=rfl
theorem lexLt_nil_nil:lexLt [] []=false:=rfl
theorem lexLt_nil_cons(y:Int)(ys:List Int):lexLt [] (y::ys)=true:=rfl
theorem lexLt_cons_nil(x:Int)(xs:List Int):lexLt (x::xs) []=false:=rfl
theorem eqAt_int(A:Around)(s:η)(a:Int)(t:Tok)(c:Int)(u:Tok):∃e,SeqAt.EqAt A s (.int a t) (.int c u) e/\(e=true↔a=c):=
 ⟨(a==c),SeqAt.EqAt.int_int a t c u,by simp⟩
theorem rcLt_int(A:Around)(s:η)(a:Int)(t:Tok)(c:Int)(u:Tok)(prog:ρ)(w:υ)(E:L3)(Q:L3)(h:Q (.bool (decide (a<c))) s):
  wpAny (model prog w) A (richCompare .Lt (.int a t) (.int c u)) Q E s:=
 (PyProof.Rows.lt_int h:wpAny (model prog w) A (compareOp .Lt (.int a t) (.int c u)) Q E s)
section
open PySem.SeqAt
open PySem.AutoSeq1 (wpAny_loadPart')
open PySem.MeetsSeq PySem.MeetsSeq2 PySem.MeetsSeq3
theorem tuple_lt_ints(l b:Addr)(items items2:Array ζ)(n n2:Nat)(dd dd2:Option Addr)(sl sl2:Array (Option ζ))(ns ms:List Int)(hi:IntsAre items.toList ns)(hj:IntsAre items2.toList ms):
  Meets (Builtin.«tuple.__lt__» ⟨[.ref l,.ref b],[]⟩)
   (fun _ R s=>s.heap.get? l=some {cls:= .type "tuple",dict:=dd,data:= .seq items n,slots:=sl}/\s.heap.get? b=some {cls:= .type "tuple",dict:=dd2,data:= .seq items2 n2,slots:=sl2}/\
    R (.ok (.ret (.bool (lexLt ns ms)))) s):=
 .of_wp fun prog w A R s h=>by
  obtain⟨hp,g,d,tk,os⟩:=s;obtain⟨hl,hb,h⟩:=h;have f2:=AutoSeq1.sub_tuple_tuple;have z1:items.size=ns.length:=by rw[<-hi.length];simp
  have z2:items2.size=ms.length:=by rw[<-hj.length];simp
  wp_walk using wpAny_loadPart' hl,wpAny_loadPart' hb,wpAny_forIn_list _ (fun rest b s'=>b.1=none/\s'=⟨hp,g,d,tk,os⟩/\∃(vs ws:List ζ) (ns' ms':List Int),rest=vs.zip ws/\
   IntsAre vs ns'/\IntsAre ws ms'/\ns'.length+items2.size=ms'.length+items.size/\R (.ok (.ret (.bool (lexLt ns' ms')))) ⟨hp,g,d,tk,os⟩) _
  case turn=>
   rintro⟨y,x⟩ rest b s' ⟨hb',rfl,vs,ws,ns',ms',hz,hvi,hwi,hlen,hR⟩;cases hvi with
   |nil=>rw[List.zip_nil_left]at hz;cases hz
   |cons a t hvi'=>
    cases hwi with
    |nil=>rw[List.zip_nil_right]at hz;cases hz
    |cons c u hwi'=>
     rw[YX]at hz;injection hz with hyx hrest
     injection hyx with hy hx
     subst hy hx;rw[lexLt_cons]at hR;simp only[nO]at hlen;obtain⟨e,he,hiff⟩:=eqAt_int A.in1 ⟨hp,g,d,tk,os⟩ a t c u;refine aq (he prog w _ _ ?_);cases e with
     |true=>
      rw[ak (hiff.mp rfl)]at hR
      wp_walk
      exact⟨rfl,rfl,_,_,_,_,hrest,hvi',hwi',by omega,hR⟩
     |false=>
      rw[aj (fun q=>absurd (hiff.mpr q) qy)]at hR;have hri:=rcLt_int A.in1 ⟨hp,g,d,tk,os⟩ a t c u prog w
      wp_walk using hri
      exact⟨_,rfl,by simpa using hR⟩
  case fin=>
   rintro⟨b1,b2⟩ s' ⟨hb',rfl,vs,ws,ns',ms',hz,hvi,hwi,hlen,hR⟩;simp only at hb';subst hb';have hv:lexLt ns' ms'=decide (items.size<items2.size):=by
    cases hvi with
    |nil=>
     cases hwi with
     |nil=>
      simp only[LC]at hlen;rw[lexLt_nil_nil];exact(gB (by omega)).symm
     |cons c u hw=>
      simp only[LC,nO]at hlen;rw[lexLt_nil_cons];exact(cU (by omega)).symm
    |cons a t hv=>
     cases hwi with
     |nil=>
      simp only[LC,nO]at hlen;rw[lexLt_cons_nil];exact(gB (by omega)).symm
     |cons c u hw=>
      rw[YX]at hz;cases hz
   rw[hv]at hR
   wp_walk
   exact⟨_,rfl,by simpa[Builtin.Tuple.tupleCompareSizes]using hR⟩
  case h=>
   exact⟨rfl,rfl,items.toList,items2.toList,ns,ms,rfl,hi,hj,by omega,h⟩
end
section
variable{prog:ρ}{w:υ}{A:Around}{E:L3}{s:η}
theorem lt_tupInts{l b:Addr}{items items2:Array ζ}{ns ms:List Int}{Q:L3}(hl:IsTup s.heap l items)(hb:IsTup s.heap b items2)(hi:IntsAre items.toList ns)(hj:IntsAre items2.toList ms)(hu:A.units<cLine)(h:Q (.bool (lexLt ns ms)) s):wpAny (model prog w) A (compareOp .Lt (.ref l) (.ref b)) Q E s:=by
 obtain⟨⟨cls,dd,data,sl⟩,ho,hc,n,hd⟩:=id hl;obtain⟨⟨cls2,dd2,data2,sl2⟩,ho2,hc2,n2,hd2⟩:=id hb;simp only at hc hd hc2 hd2;subst hc hd hc2 hd2;exact richCompare_meets_room (op:= .Lt) ⟨_,ho,rfl⟩ ⟨_,ho2,rfl⟩ PySem.F.slot_tuple_lt PySem.F.entry_tuple_lt (PySem.F.args_tuple_lt_2 _ _) (tuple_lt_ints l b items items2 n n2 dd dd2 sl sl2 ns ms hi hj)
  ⟨ho,ho2,show Value.bool (lexLt ns ms)≠Value.notImplemented/\Q (.bool (lexLt ns ms)) s from⟨(fun x=>nomatch x),h⟩⟩ hu
theorem cat_tup{t b:Addr}{vs ws:List ζ}{Q:L3}(ht:IsTup s.heap t vs.toArray)(hb:IsTup s.heap b ws.toArray)(hv:vs≠[])(h1:ws=[]->Q (.ref t) s)(h2:ws≠[]->Q (.ref s.heap.objs.size) {s with heap:=s.heap.push {cls:= .type "tuple",data:= .seq (vs++ws).toArray}})(hsz:vs.length+ws.length<=sizeLine):wpAny (model prog w) A (binaryOp .Add (.ref t) (.ref b)) Q E s:=by
 obtain⟨⟨cls,dd,data,sl⟩,ho,hc,n,hd⟩:=id ht;obtain⟨⟨cls2,dd2,data2,sl2⟩,ho2,hc2,n2,hd2⟩:=id hb;simp only at hc hd hc2 hd2;subst hc hd hc2 hd2;have e:vs.toArray++ws.toArray=(vs++ws).toArray:=by simp
 by_cases hw:ws=[]
 ·exact concat_meets ⟨_,ho,rfl⟩ ⟨_,ho2,rfl⟩ YD seq_tuple_add Za Ze (Zj _ _)
   (tuple_addW1 t b vs.toArray ws.toArray n n2 dd dd2 sl sl2 (by simpa using hv) (by simp[hw])) ⟨ho,ho2,h1 hw⟩
 ·refine concat_meets ⟨_,ho,rfl⟩ ⟨_,ho2,rfl⟩ YD seq_tuple_add Za Ze (Zj _ _)
   (tuple_addW2 t b vs.toArray ws.toArray n n2 dd dd2 sl sl2 (by simpa using hv) (by simpa using hw) (by rw[dW,dW];exact hsz)) ⟨ho,ho2,?_⟩
  rw[e];exact h2 hw
noncomputable def sIx(n d:Nat):Option Int->Nat
 |none=>d
 |some v=>if v<0 then(v+(n:Int)).toNat else min v.toNat n
theorem sIx_none(n d:Nat):sIx n d none=d:=rfl
theorem sIx_nat(n d k:Nat):sIx n d (some (k:Int))=min k n:=by
 show(if(k:Int)<0 then((k:Int)+(n:Int)).toNat else min (k:Int).toNat n)=min k n;rw[aj (by omega),Cw]
end
end HT
namespace L2
open PySem PySem.Spec PyProof.Rows
noncomputable abbrev TO:=St->Hp->(Option Int->Hp->Prop)->Prop
noncomputable def PO(X:Cx)(e:Option Expr)(t:TO):Prop:=
 ∀(pins:L1) (s:η) (σ:St) (H:Hp) (Q:Option Int->Hp->Prop),Inv X pins σ H s->t σ H Q->
  wpAny (model X.prog X.w) X.A (evalPart e X.env) (fun u s'=>∃o H',Inv X pins σ H' s'/\IsPart u o/\Q o H') X.xe s
noncomputable def tNoPart:TO:=fun _ H Q=>Q none H
noncomputable def tPart(t:TE):TO:=fun σ H Q=>t σ H fun x H1=>∃i,x= .int i/\Q (some i) H1
theorem intsAre_of{ns:List Int}:∀{us:List ζ},Vals (ns.map V.int) us->IntsAre us ns:=by
 induction ns with
 |nil=>intro us r;rw[WM]at r;cases r;exact .nil
 |cons n ns ih=>
  intro us r;rw[CZ]at r;cases r with
  |cons r1 r2=>
   obtain⟨t,e⟩:=r1;subst e;exact .cons n t (ih r2)
section
variable{X:Cx}{e:Expr}{te:TE}{lo hi:Option Expr}{tl th:TO}{pos p2:Pos}
theorem po_none:PO X none tNoPart:=by
 intro pins s σ H Q I h;rw[evalPart_none];exact aO ⟨none,H,I,.none,h⟩
theorem po_some(h:PE X e te):PO X (some e) (tPart te):=by
 intro pins s σ H Q I hw;rw[evalPart_some];refine thn (h pins s σ H _ I hw) fun u s1 ⟨x,H1,I1,r1,q1⟩=> ?_;obtain⟨i,rfl,q⟩:=q1;obtain⟨t,rfl⟩:=r1;exact⟨some i,H1,I1,.int i t,q⟩
noncomputable def SlR(X:Cx)(r:V->Option Int->Option Int->Hp->VK->Prop):Prop:=
 ∀(pins:L1) (s:η) (σ:St) (H:Hp) (x:V) (v vl vu:ζ) (lo hi:Option Int) (sl:Addr) (Q:VK),Inv X pins σ H s->RelV x v->s.heap.IsSliceOf sl vl vu .none->IsPart vl lo->IsPart vu hi->r x lo hi H Q->
  ∃T id,typeLookup (.type T) "__getitem__"=pure (some (.builtin id))/\s.TypeIs v T/\wpAny (model X.prog X.w) X.A (getItem v (.ref sl)) (EP X pins σ Q) X.xe s
noncomputable def tSl(r:V->Option Int->Option Int->Hp->VK->Prop)(te:TE)(tl th:TO):TE:=fun σ H Q=>te σ H fun x H1=>tl σ H1 fun l H2=>th σ H2 fun u H3=>r x l u H3 Q
theorem pe_slice{r:V->Option Int->Option Int->Hp->VK->Prop}(hr:SlR X r)(he:PE X e te)(hl:PO X lo tl)(hu:PO X hi th):PE X (.Subscript e (.Slice lo hi none p2) pos) (tSl r te tl th):=by
 intro pins s σ H Q I h;refine Subscript_ (thn (he pins s σ H _ I h) fun v s1 ⟨x,H1,I1,r1,q1⟩=> ?_);refine wpAny_Slice (thn (hl pins s1 σ H1 _ I1 q1) fun vl s2 ⟨l,H2,I2,pl,q2⟩=>thn (hu pins s2 σ H2 _ I2 q2) fun vu s3 ⟨u,H3,I3,pu,q3⟩=> ?_);rw[evalPart_none];refine aO ?_;have I4:Inv X pins σ H3 {s3 with heap:=s3.heap.push {cls:= .type "slice",data:= .fields #[vl,vu,.none]}}:=I3.kept (t':=s3.toks) fun b ob q=>dH _ q;obtain⟨T,id,hT,ht,hg⟩:=hr pins {s3 with heap:=s3.heap.push {cls:= .type "slice",data:= .fields #[vl,vu,.none]}} σ H3 x v vl vu l u s3.heap.objs.size Q I4 r1 (Heap.IsSliceOf.new ..) pl pu q3;show wpAny (model X.prog X.w) X.A (subscriptTail e (.Slice lo hi none p2) v (.ref s3.heap.objs.size)) (EP X pins σ Q) X.xe {s3 with heap:=s3.heap.push {cls:= .type "slice",data:= .fields #[vl,vu,.none]}};exact tail_any (ops:=[.ref s3.heap.objs.size,v]) ht hT hg (by with_unfolding_all rfl)
noncomputable def cutV(xs:List V)(lo hi:Option Int):List V:=(xs.drop (HT.sIx xs.length 0 lo)).take (HT.sIx xs.length xs.length hi-HT.sIx xs.length 0 lo)
theorem cutV_length(xs:List V)(lo hi:Option Int):(cutV xs lo hi).length<=xs.length:=by
 unfold cutV;rw[Dc,List.length_drop];omega
noncomputable def rLtT(K:W.Frag):R2:=fun x y H Q=>∃a b ns ms,x= .ref a/\y= .ref b/\SqT K H a (ns.map V.int)/\SqT K H b (ms.map V.int)/\Q (.bl (HT.lexLt ns ms)) H
theorem op_ltT(hu:X.A.units<cLine):OpR X (compareOp .Lt) (rLtT X.K):=by
 intro pins s σ H x y v u Q I rx ry h;obtain⟨a,b,ns,ms,rfl,rfl,ha,hb,q⟩:=h;cases rx;cases ry;obtain⟨its,r1,p1,_⟩:=I.tuple ha;obtain⟨its2,r2,p2,_⟩:=I.tuple hb;have i1:IntsAre its.toArray.toList ns:=intsAre_of r1;have i2:IntsAre its2.toArray.toList ms:=intsAre_of r2;exact HT.lt_tupInts p1 p2 i1 i2 hu ⟨.bl (HT.lexLt ns ms),H,I,rfl,q⟩
noncomputable def rCatT(K:W.Frag):R2:=fun x y H Q=>∃a b xs ys,x= .ref a/\y= .ref b/\SqT K H a xs/\SqT K H b ys/\xs≠[]/\xs.length+ys.length<=sizeLine/\
 (ys=[]->Q (.ref a) H)/\(ys≠[]->∀p,H p=none->Q (.ref p) (upd H p (.tup (xs++ys))))
theorem Vals.nil_iff{xs:List V}{us:List ζ}(r:Vals xs us):us=[]↔xs=[]:=by
 cases r with
 |nil=>simp
 |cons _ _=>simp
theorem op_catT:OpR X (binaryOp .Add) (rCatT X.K):=by
 intro pins s σ H x y v u Q I rx ry h;obtain⟨a,b,xs,ys,rfl,rfl,ha,hb,hx,hz,q1,q2⟩:=h;cases rx;cases ry;obtain⟨its,r1,p1,_⟩:=I.tuple ha;obtain⟨its2,r2,p2,_⟩:=I.tuple hb;refine HT.cat_tup p1 p2 (fun z=>hx (r1.nil_iff.mp z)) (fun z=>⟨.ref a,H,I,rfl,q1 (r2.nil_iff.mp z)⟩) (fun z=> ?_) (by rw[<-r1.length,<-r2.length];exact hz);refine⟨.ref s.heap.objs.size,_,I.laid (t':=s.toks) (o:= .tup (xs++ys)) (fun b ob q=>dH _ q) (aB _) ?_,rfl,q2 (fun w=>z (r2.nil_iff.mpr w)) _ (I.hok.fresh (aB _))⟩;exact⟨by rw[p7];exact hz,_,r1.append r2,IsTup.new _ _⟩
end
noncomputable def ixN(n:Nat)(i:Int):Option Nat:=if 0<=i then(if i<n then some i.toNat else none)else if -(n:Int)<=i then some (i+n).toNat else none
noncomputable def atI{α:Type}(xs:List α)(i:Int):Option α:=(ixN xs.length i).bind fun j=>xs[j]?
theorem ixN_seq{n:Nat}{i:Int}{j:Nat}(h:ixN n i=some j):seqIndex? i n=some j/\j<n/\ -(n:Int)<=i/\i<n:=by
 unfold ixN at h;by_cases h0:0<=i
 ·rw[ak h0]at h;by_cases h1:i<n
  ·rw[ak h1]at h;have e:i.toNat=j:=pQ h;exact⟨by rw[seqIndex_of h0 h1,e],by omega,by omega,h1⟩
  ·rw[aj h1]at h;cases h
 ·rw[aj h0]at h;by_cases h1: -(n:Int)<=i
  ·rw[ak h1]at h;have e:(i+n).toNat=j:=pQ h;exact⟨by rw[seqIndex_neg (by omega) h1,e],by omega,h1,by omega⟩
  ·rw[aj h1]at h;cases h
theorem atI_get{α:Type}{xs:List α}{i:Int}{v:α}(h:atI xs i=some v):∃j,seqIndex? i xs.length=some j/\xs[j]? =some v/\j<xs.length/\ -(xs.length:Int)<=i/\i<xs.length:=by
 unfold atI at h;cases e:ixN xs.length i with
 |none=>rw[e]at h;cases h
 |some j=>
  rw[e]at h;obtain⟨h1,h2,h3,h4⟩:=ixN_seq e;exact⟨j,h1,h,h2,h3,h4⟩
theorem atI_nat{α:Type}{xs:List α}{j:Nat}{v:α}(h:xs[j]? =some v):atI xs (j:Int)=some v:=by
 have hj:j<xs.length:=(p8.mp h).1;have e:ixN xs.length (j:Int)=some j:=by
  unfold ixN;rw[ak (by omega),ak (by omega)];simp
 unfold atI;rw[e];exact h
noncomputable def PlainIx(b:Expr):Prop:=∀o i,subscripted b false o i=operate [o,i] (getItem o i)
noncomputable def IxR(X:Cx)(r:R2):Prop:=
 ∀(value slice:Expr) (pins:L1) (s:η) (σ:St) (H:Hp) (x y:V) (v u:ζ) (Q:VK),Inv X pins σ H s->RelV x v->RelV y u->r x y H Q->
  subscripted slice false v u=operate [v,u] (getItem v u)->wpAny (model X.prog X.w) X.A (subscriptTail value slice v u) (EP X pins σ Q) X.xe s
noncomputable def MtR(X:Cx)(id:String)(r:V->List V->Hp->VK->Prop):Prop:=
 ∀(pins:L1) (s:η) (σ:St) (H:Hp) (x:V) (xs:List V) (v:ζ) (us:List ζ) (Q:VK),Inv X pins σ H s->RelV x v->Vals xs us->r x xs H Q->
  wpAny (model X.prog X.w) X.A (call (.builtin id) (v::us)) (EP X pins σ Q) X.xe s
section
variable{X:Cx}{a b:Expr}{ta tb:TE}{pos:Pos}
theorem cM{r:R2}(hr:IxR X r)(ha:PE X a ta)(hb:PE X b tb)(hs:PlainIx b:=by exact fun _ _=>rfl):PE X (.Subscript a b pos) (tOp r ta tb):=by
 intro pins s σ H Q I h;exact Subscript_ (binT ha hb I h fun v u s2 x y H2 I2 rx ry q=>hr a b pins s2 σ H2 x y v u Q I2 rx ry q (hs _ _))
noncomputable def rIxL(K:W.Frag):R2:=fun x y H Q=>∃p xs i v,x= .ref p/\y= .int i/\SqL K H p xs/\atI xs i=some v/\Q v H
noncomputable def rIxT(K:W.Frag):R2:=fun x y H Q=>∃p xs i v,x= .ref p/\y= .int i/\SqT K H p xs/\atI xs i=some v/\Q v H
theorem lN:IxR X (rIxL X.K):=by
 intro value slice pins s σ H x y v u Q I rx ry h hs;obtain⟨p,xs,i,z,rfl,rfl,hq,he,q⟩:=h;cases rx;obtain⟨t,rfl⟩:=ry;obtain⟨its,r,pl,hz⟩:=I.list hq;obtain⟨j,h1,h2,h3,h4,h5⟩:=atI_get he;obtain⟨w,ew,rw'⟩:=r.get h2;have hl:=r.length;have hn:=line63;have fin:EP X pins σ Q w s:=⟨z,H,I,rw',q⟩;by_cases h0:0<=i
 ·have hj:i.toNat=j:=by
   rw[seqIndex_of h0 h5]at h1;exact pQ h1
  exact item_listR pl.isList h0 (by omega) (by rw[hj];simpa using ew) fin hs
 ·have hj:(i+(its.toArray.size:Int)).toNat=j:=by
   rw[seqIndex_neg (by omega) h4]at h1;rw[dW,<-hl];exact pQ h1
  exact subscriptTail_builtinR (x:=w) pl.isList.typeIs slot_list_getitem.lookup
   (wpAny_getItem_list_neg (Q:=fun r s'=>r=w/\EP X pins σ Q r s') pl.isList (by omega) (by rw[dW]<;>omega) (by omega) (by rw[hj];simpa using ew) ⟨rfl,fin⟩) hs
theorem nH:IxR X (rIxT X.K):=by
 intro value slice pins s σ H x y v u Q I rx ry h hs;obtain⟨p,xs,i,z,rfl,rfl,hq,he,q⟩:=h;cases rx;obtain⟨t,rfl⟩:=ry;obtain⟨its,r,pl,hz⟩:=I.tuple hq;obtain⟨j,h1,h2,h3,h4,h5⟩:=atI_get he;obtain⟨w,ew,rw'⟩:=r.get h2;have hl:=r.length;have hn:=line63;have fin:EP X pins σ Q w s:=⟨z,H,I,rw',q⟩;exact subscriptTail_builtinR (x:=w) pl.typeIs slot_tuple_getitem.lookup
  (getItem_tuple (j:=j) (Q:=fun r s'=>r=w/\EP X pins σ Q r s') pl (by omega) (by omega) (by rw[dW,<-hl];exact h1) (by simpa using ew) ⟨rfl,fin⟩) hs
theorem mapSeq_set(its:List ζ)(n j:Nat)(u:ζ):Obj.mapSeq (·.setIfInBounds j u) {cls:= .type "list",data:= .seq its.toArray n}={cls:= .type "list",data:= .seq (its.set j u).toArray n}:=by
 simp[Obj.mapSeq]
theorem Inv.lst{pins:L1}{σ:St}{H:Hp}{s:η}{p:Addr}{xs:List V}(I:Inv X pins σ H s)(h:H p=some (.lst xs)):
  ∃(its:List ζ) (n:Nat),Vals xs its/\s.heap.get? p=some {cls:= .type "list",data:= .seq its.toArray n}/\xs.length<=sizeLine:=by
 obtain⟨z,its,n,r,e⟩:=I.hok p _ h;exact⟨its,n,r,e,z⟩
theorem Inv.lstUpd{pins:L1}{σ:St}{H:Hp}{s:η}{p:Addr}{xs ys:List V}{its its':List ζ}{n n':Nat}{f:Obj->Obj}(I:Inv X pins σ H s)(h:H p=some (.lst xs))(ho:s.heap.get? p=some {cls:= .type "list",data:= .seq its.toArray n})(hf:f {cls:= .type "list",data:= .seq its.toArray n}={cls:= .type "list",data:= .seq its'.toArray n'})(r:Vals ys its')(hz:ys.length<=sizeLine)(t:Nat):
  Inv X pins σ (upd H p (.lst ys)) {s with heap:=s.heap.update p f,toks:=t}:=by
 have e:(s.heap.update p f).get? p=some {cls:= .type "list",data:= .seq its'.toArray n'}:=by
  rw[Oi f ho (by rw[hf]<;>rfl),hf]
 refine I.write (x:=p) (e:=p) (by rw[h];trivial) (.inl rfl) (fun b u hb q=>(Td _ _ (iU hb)).trans q) ⟨_,e⟩ ?_;exact⟨hz,its',n',r,e⟩
noncomputable def rSetL:V->V->V->Hp->(Hp->Prop)->Prop:=fun o i v H Q=>∃p xs k j,o= .ref p/\i= .int k/\H p=some (.lst xs)/\ixN xs.length k=some j/\Q (upd H p (.lst (xs.set j v)))
theorem set_list:PSet X rSetL:=by
 intro pins s σ H o i v ov iv u Q I ro ri rv h;obtain⟨p,xs,k,j,rfl,rfl,hp,hj,q⟩:=h;cases ro;obtain⟨t,rfl⟩:=ri;obtain⟨its,n,r,ho,hz⟩:=I.lst hp;obtain⟨h1,h2,h3,h4⟩:=ixN_seq hj;have hl:=r.length;have hn:=line63;have I':Inv X pins σ (upd H p (.lst (xs.set j v))) {s with heap:=s.heap.update p (Obj.mapSeq (·.setIfInBounds j u))}:=
  I.lstUpd hp ho (mapSeq_set its n j u) (r.set rv j) (by rw[Yv];exact hz) s.toks
 by_cases h0:0<=k
 ·have hk:k.toNat=j:=by
   rw[seqIndex_of h0 h4]at h1;exact pQ h1
  exact PySem.W.ki_setAt ho h0 (by omega) (by rw[dW,<-hl];exact h4) (by rw[hk];exact⟨_,I',q⟩)
 ·have hk:(k+(its.toArray.size:Int)).toNat=j:=by
   rw[seqIndex_neg (by omega) h3]at h1;rw[dW,<-hl];exact pQ h1
  exact PySem.W.ki_setBack ho (by omega) (by rw[dW,<-hl];exact h3) (by omega) (by rw[hk];exact⟨_,I',q⟩)
theorem slice_bounds(lo hi:Option Int)(n:Nat):(sliceBounds lo hi none n).1=((HT.sIx n 0 lo:Nat):Int)/\(sliceBounds lo hi none n).2.1=((HT.sIx n n hi:Nat):Int)/\(sliceBounds lo hi none n).2.2=1:=by
 refine⟨?_,?_,rfl⟩
 ·cases lo with
  |none=>simp[sliceBounds,HT.sIx]
  |some i=>
   simp only[sliceBounds,HT.sIx,Option.getD_none,show(1:Int)>0 by decide,Ja];by_cases h:i<0
   ·simp only[h,Ja]<;>omega
   ·simp only[h,yX]<;>omega
 ·cases hi with
  |none=>simp[sliceBounds,HT.sIx]
  |some i=>
   simp only[sliceBounds,HT.sIx,Option.getD_none,show(1:Int)>0 by decide,Ja];by_cases h:i<0
   ·simp only[h,Ja]<;>omega
   ·simp only[h,yX]<;>omega
theorem slicePick_cut(its:List ζ)(lo hi:Option Int):slicePick its.toArray lo hi none=((its.drop (HT.sIx its.length 0 lo)).take (HT.sIx its.length its.length hi-HT.sIx its.length 0 lo)).toArray:=by
 obtain⟨h1,h2,h3⟩:=slice_bounds lo hi its.toArray.size;unfold slicePick;rw[h1,h2,h3];simp only[sliceRange_one,pick_run,dW]<;>rfl
noncomputable def rSlL(K:W.Frag):V->Option Int->Option Int->Hp->VK->Prop:=fun x lo hi H Q=>∃a xs,x= .ref a/\SqL K H a xs/\∀p,H p=none->Q (.ref p) (upd H p (.lst (cutV xs lo hi)))
theorem sl_list:SlR X (rSlL X.K):=by
 intro pins s σ H x v vl vu lo hi sl Q I rx hs pl pu h;obtain⟨a,xs,rfl,hx,q⟩:=h;cases rx;obtain⟨its,r,ht,hz⟩:=I.list hx;have hlen:=r.length;refine⟨"list",_,slot_list_getitem.lookup,ht.isList.typeIs,?_⟩;refine wpAny_getItem_list_slice ht.isList hs pl pu .none (by simp) ?_ (by rw[dW]<;>omega);rw[slicePick_cut,<-hlen];refine⟨.ref s.heap.objs.size,_,I.laid (t':=s.toks) (o:= .lst (cutV xs lo hi)) (fun b ob q=>dH _ q) (aB _) ?_,rfl,q _ (I.hok.fresh (aB _))⟩;exact⟨dD (cutV_length xs lo hi) hz,_,0,(r.drop (HT.sIx xs.length 0 lo)).take (HT.sIx xs.length xs.length hi-HT.sIx xs.length 0 lo),jE _ rfl⟩
theorem call_len_seq:CallR X (.builtin "len") (fun xs H Q=>∃p ys,xs=[.ref p]/\(SqL X.K H p ys\/SqT X.K H p ys)/\Q (.int ys.length) H):=by
 intro pins s σ H xs us Q I r h;obtain⟨p,ys,rfl,hq,q⟩:=h;obtain⟨u,rfl,rx⟩:=vals1 r;cases rx;have hn:=line63;rcases hq with hq|hq
 ·obtain⟨its,r',pl,hz⟩:=I.list hq;have hlen:=r'.length;exact Calls.call_len_list pl.isList (by simp only[dW]<;>omega) ⟨.int ys.length,H,I.tok _,⟨s.toks+1,by rw[dW,hlen]⟩,q⟩
 ·obtain⟨its,r',pl,hz⟩:=I.tuple hq;have hlen:=r'.length;exact len_tuple pl (by simp only[dW]<;>omega) ⟨.int ys.length,H,I.tok _,⟨s.toks+1,by rw[dW,hlen]⟩,q⟩
theorem call_list_of:CallR X (.type "list") (fun xs H Q=>∃p ys,xs=[.ref p]/\(SqL X.K H p ys\/SqT X.K H p ys)/\∀l,H l=none->Q (.ref l) (upd H l (.lst ys))):=by
 intro pins s σ H xs us Q I r h;obtain⟨p,ys,rfl,hq,q⟩:=h;obtain⟨u,rfl,rx⟩:=vals1 r;cases rx;have fin:∀(its:List ζ),Vals ys its->ys.length<=sizeLine->∀(h':Heap) (c':Nat),(∀b o',s.heap.get? b=some o'->h'.get? b=some o')->
   h'.get? s.heap.objs.size=some {cls:= .type "list",dict:=none,data:= .seq its.toArray c',slots:=#[]}->EP X pins σ Q (.ref s.heap.objs.size) {s with heap:=h'}:=fun its r' hz h' c' kp e=>
  ⟨.ref s.heap.objs.size,_,I.laid (t':=s.toks) kp (aB _) (show ObjOk X.prog X.w _ h' _ (.lst ys)from⟨hz,its,c',r',e⟩),rfl,q _ (I.hok.fresh (aB _))⟩
 rcases hq with hq|hq
 ·obtain⟨its,r',pl,hz⟩:=I.list hq;have hlen:=r'.length;obtain⟨o,ho,hc,n,hd⟩:=pl.isList;exact call_list_seq p (.inl rfl) ho hc hd (fun h' c' kp e=>fin its r' hz h' c' kp e) (by simp only[dW]<;>omega)
 ·obtain⟨its,r',pl,hz⟩:=I.tuple hq;have hlen:=r'.length;obtain⟨o,ho,hc,n,hd⟩:=pl;exact call_list_seq p (.inr rfl) ho hc hd (fun h' c' kp e=>fin its r' hz h' c' kp e) (by simp only[dW]<;>omega)
theorem call_tuple_of:CallR X (.type "tuple") (fun xs H Q=>∃p ys,xs=[.ref p]/\((SqL X.K H p ys/\∀l,H l=none->Q (.ref l) (upd H l (.tup ys)))\/(SqT X.K H p ys/\Q (.ref p) H))):=by
 intro pins s σ H xs us Q I r h;obtain⟨p,ys,rfl,h⟩:=h;obtain⟨u,rfl,rx⟩:=vals1 r;cases rx;rcases h with⟨hq,q⟩|⟨hq,q⟩
 ·obtain⟨its,r',pl,hz⟩:=I.list hq;have hlen:=r'.length;refine call_tuple_list pl.isList (fun h' kp=> ?_) (by simp only[dW]<;>omega);have I1:Inv X pins σ H {s with heap:=h'}:=I.kept (t':=s.toks) kp;have I2:Inv X pins σ (upd H h'.objs.size (.tup ys)) {s with heap:=h'.push {cls:= .type "tuple",data:= .seq its.toArray}}:=
   I1.laid (t':=s.toks) (fun b o e=>dH _ e) (aB _) (show ObjOk X.prog X.w _ _ _ (.tup ys)from⟨hz,its,r',IsTup.new _ _⟩)
  exact⟨.ref h'.objs.size,_,I2,rfl,q _ (I1.hok.fresh (aB _))⟩
 ·obtain⟨its,r',pl,hz⟩:=I.tuple hq;exact call_tuple_same pl ⟨.ref p,H,I,rfl,q⟩
noncomputable def tyV(K:W.Frag)(T:String)(x:V)(H:Hp):Prop:=match x with
 | .str _=>T="str"
 | .int _=>T="int"
 | .ref p=>(T="list"/\∃xs,SqL K H p xs)\/(T="tuple"/\∃o,K.lookup p=some o/\o.cls= .type "tuple"/\o.dict=none)\/
   (T="dict"/\((∃kvs,H p=some (.dK kvs))\/∃kvs,H p=some (.dT kvs)))\/(T="set"/\∃S n,H p=some (.set S n))
 |_=>False
theorem tyV_is{pins:L1}{σ:St}{H:Hp}{s:η}{T:String}{x:V}{v:ζ}(I:Inv X pins σ H s)(r:RelV x v)(ty:tyV X.K T x H):
  s.TypeIs v T/\∀a,v= .ref a->∃ob,s.heap.get? a=some ob/\ob.dict=none:=by
 cases x with
 |str z=>
  obtain⟨t,rfl⟩:=r;cases(show T="str" from ty);exact⟨typeIs_str s z t,fun _ e=>nomatch e⟩
 |int i=>
  obtain⟨t,rfl⟩:=r;cases(show T="int" from ty);exact⟨Tg s i t,fun _ e=>nomatch e⟩
 |ref p=>
  cases r;rcases ty with⟨rfl,xs,hq⟩|⟨rfl,o,hk,hc,hd⟩|⟨rfl,hk⟩|⟨rfl,S,n,hk⟩
  ·obtain⟨its,_,pl,_⟩:=I.list hq;refine⟨pl.isList.typeIs,fun a e=> ?_⟩;cases e;obtain⟨o,n,e,c,hd,_⟩:=pl;exact⟨o,e,hd⟩
  ·refine⟨⟨o,I.kIn p o hk,hc⟩,fun a e=> ?_⟩;cases e;exact⟨o,I.kIn _ o hk,hd⟩
  ·have z:∃o,s.heap.get? p=some o/\o.ExactDict:=by
    rcases hk with⟨kvs,hk⟩|⟨kvs,hk⟩
    ·obtain⟨_,_,_,_,o,_,_,e,ex,_⟩:=I.hok p _ hk;exact⟨o,e,ex⟩
    ·obtain⟨_,_,_,_,o,_,_,e,ex,_⟩:=I.hok p _ hk;exact⟨o,e,ex⟩
   obtain⟨o,e,ex⟩:=z;refine⟨⟨o,e,ex.1⟩,fun a e2=> ?_⟩;cases e2;exact⟨o,e,ex.2.1⟩
  ·obtain⟨o,_,_,_,e,ex,_⟩:=I.hok p _ hk;refine⟨⟨o,e,ex.1⟩,fun a e2=> ?_⟩;cases e2;exact⟨o,e,ex.2.1⟩
 |_=>exact False.elim ty
noncomputable def tBM0(K:W.Frag)(T:String)(r:V->List V->Hp->VK->Prop)(to:TE):TE:=fun σ H Q=>to σ H fun x H1=>tyV K T x H1/\r x [] H1 Q
noncomputable def tBM(K:W.Frag)(T:String)(r:V->List V->Hp->VK->Prop)(to:TE)(t:TA):TE:=fun σ H Q=>to σ H fun x H1=>tyV K T x H1/\t σ H1 fun xs H2=>r x xs H2 Q
variable{o e:Expr}{es:List Expr}{to:TE}{t:TA}{name:Str}{apos cpos:Pos}{T id:String}{r:V->List V->Hp->VK->Prop}
theorem pe_bm0(pa:PlainAttrs T)(slot:Slot T name id)(hty:typeOf (.builtin id)=pure (.type "method_descriptor"))(hm:MtR X id r)(ho:PE X o to)(hbase:attributeBase o name X.env (eval o X.env)=eval o X.env:=by rfl)(hline:(apos.endLine==cpos.line)=true:=by rfl):PE X (.Call (.Attribute o name apos) [] [] cpos) (tBM0 X.K T r to):=by
 intro pins s σ H Q I h;refine wpAny_Call_method0_late hbase hline (thn (ho pins s σ H _ I h) fun v s1 ⟨x,H1,I1,r1,ty,q1⟩=> ?_);obtain⟨h1,h2⟩:=tyV_is I1 r1 ty;exact⟨T,id,pa,slot,hty,h1,h2,Calls.callWith_builtin rfl (PySem.evalArgs_none (hm pins s1 σ H1 x [] v [] Q I1 r1 .nil q1))⟩
theorem pe_bm(pa:PlainAttrs T)(slot:Slot T name id)(hty:typeOf (.builtin id)=pure (.type "method_descriptor"))(hm:MtR X id r)(ho:PE X o to)(ha:PA X (e::es) t)(hbase:attributeBase o name X.env (eval o X.env)=eval o X.env:=by rfl)(hfew:((backTo cpos (starEach (e::es) X.env)).all (fun x=> !x.1)&&(backToKw cpos (keywordEach [] X.env)).all (fun x=>x.1.isSome)
   &&decide ((e::es).length+([]:List Keyword).length+(if([]:List Keyword).isEmpty then 0 else 1)<30))=true:=by rfl)(hline:(apos.endLine==cpos.line)=true:=by rfl)(hs:starEach (e::es) X.env=(false,eval e X.env)::starEach es X.env:=by rfl)(hplain:(backTo cpos (starEach es X.env)).any (·.1)=false:=by rfl):
  PE X (.Call (.Attribute o name apos) (e::es) [] cpos) (tBM X.K T r to t):=by
 intro pins s σ H Q I h;refine wpAny_Call_method_late hbase hfew hline rfl (thn (ho pins s σ H _ I h) fun v s1 ⟨x,H1,I1,r1,ty,q1⟩=> ?_);obtain⟨h1,h2⟩:=tyV_is I1 r1 ty;refine⟨T,id,pa,slot,hty,h1,h2,?_⟩;have hA:=ha cpos pins s1 σ H1 _ I1 q1;rw[hs]at hA⊢;refine Calls.callWith_builtin (by show(false||(backTo cpos (starEach es X.env)).any (·.1))=false;rw[hplain]<;>rfl) (Calls.evalArgs_plain ?_);exact thn hA fun us s2 ⟨vs,H2,I2,r2,q2⟩=>hm pins s2 σ H2 x vs v us Q I2 r1 r2 q2
end
noncomputable def MtM(X:Cx)(id:String)(r:V->List V->Hp->VK->Prop):Prop:=
 ∀(pins:L1) (s:η) (σ:St) (H:Hp) (x:V) (xs:List V) (v:ζ) (us:List ζ) (Q:VK),Inv X pins σ H s->RelV x v->Vals xs us->r x xs H Q->
  wpAny (model X.prog X.w) X.A (call (.builtin id) (v::us)) (EP X pins σ Q) X.xe s
theorem Vals.one{x:V}{us:List ζ}(h:Vals [x] us):∃u,us=[u]/\RelV x u:=by
 cases h with
 |cons r h=>cases h;exact⟨_,rfl,r⟩
theorem Vals.two{x y:V}{us:List ζ}(h:Vals [x,y] us):∃u v,us=[u,v]/\RelV x u/\RelV y v:=by
 cases h with
 |cons r h=>obtain⟨v,rfl,q⟩:=Vals.one h;exact⟨_,_,rfl,r,q⟩
theorem Vals.zero:∀{us:List ζ},Vals [] us->us=[]
 |_,.nil=>rfl
theorem Vals.rep{xs:List V}{us:List ζ}(h:Vals xs us):∀k:Nat,Vals (List.replicate k xs).flatten (List.replicate k us).flatten
 |0=> .nil
 |k+1=>by
  rw[Dd,Dd,LQ,LQ];exact Vals.append h (Vals.rep h k)
theorem foldl_rep(its:List ζ):∀(k:Nat) (acc:List ζ),
  List.foldl (fun x1 x2=>x1++x2) acc.toArray (List.replicate k its.toArray)=(acc++(List.replicate k its).flatten).toArray
 |0,acc=>by simp
 |k+1,acc=>by
  have e:acc.toArray++its.toArray=(acc++its).toArray:=by simp
  have e2:(acc++its)++(List.replicate k its).flatten=acc++(List.replicate (k+1) its).flatten:=by
   rw[Dd,LQ,Rb]
  rw[<-e2,<-foldl_rep its k (acc++its),<-e,Dd,List.foldl_cons]
section
variable{X:Cx}{pins:L1}{σ:St}{H:Hp}{s:η}{l:Addr}{xs ys:List V}
theorem Inv.lset{its its':List ζ}{n:Nat}{f:Array ζ->Array ζ}{t':Nat}(I:Inv X pins σ H s)(hH:H l=some (.lst xs))(e:s.heap.get? l=some {cls:= .type "list",data:= .seq its.toArray n})(hf:f its.toArray=its'.toArray)(hv:Vals ys its')(hz:ys.length<=sizeLine):
  Inv X pins σ (upd H l (.lst ys)) {s with heap:=s.heap.update l (Obj.mapSeq f),toks:=t'}:=by
 have q:=PySem.IsL.update e f;rw[hf]at q;refine I.write (x:=l) (e:=l) (by rw[hH];exact trivial) (.inl rfl) (fun b' u hb hu=>(Td s.heap (Obj.mapSeq f) (iU hb)).trans hu) ⟨_,q⟩ ?_;exact⟨hz,its',_,hv,q⟩
theorem Inv.lnew{its:List ζ}{t':Nat}(I:Inv X pins σ H s)(hv:Vals ys its)(hz:ys.length<=sizeLine):
  Inv X pins σ (upd H s.heap.objs.size (.lst ys)) {s with heap:=s.heap.push {cls:= .type "list",data:= .seq its.toArray},toks:=t'}:=
 I.laid (fun _ _ q=>dH _ q) (aB _) ⟨hz,its,0,hv,jE _ rfl⟩
theorem Inv.fresh(I:Inv X pins σ H s):H s.heap.objs.size=none:=I.hok.fresh (aB _)
theorem Inv.lstM(I:Inv X pins σ H s)(hH:H l=some (.lst xs)):xs.length<=sizeLine/\∃(its:List ζ) (n:Nat),Vals xs its/\xs.length=its.length/\s.heap.get? l=some {cls:= .type "list",data:= .seq its.toArray n}:=by
 obtain⟨z,its,n,r,e⟩:=I.hok l _ hH;exact⟨z,its,n,r,r.length,e⟩
theorem notLongL{n:Nat}(h:n<=sizeLine):Builtin.List.listTooLong n=false:=by
 unfold Builtin.List.listTooLong;exact gB (by omega)
end
section
variable{X:Cx}
noncomputable def rAppend:V->List V->Hp->VK->Prop:=fun x vs H Q=>∃l xs y,x= .ref l/\vs=[y]/\H l=some (.lst xs)/\xs.length<sizeLine/\Q .non (upd H l (.lst (xs++[y])))
theorem mt_append:MtM X "list.append" rAppend:=by
 intro pins s σ H x vs v us Q I rx rv h;obtain⟨l,xs,y,rfl,rfl,hH,hz,q⟩:=h;cases rx;obtain⟨u,rfl,ru⟩:=rv.one;obtain⟨z,its,n,r,hl,e⟩:=I.lstM hH;refine Js F.slot_list_append ⟨_,e,rfl⟩ F.entry_list_append (F.args_list_append_2 _ _) (PySem.list_append l its.toArray n u (by rw[dW];omega)) ⟨e,?_⟩;refine⟨.non,_,I.lset (its':=its++[u]) hH e (by simp) (r.append (.cons ru .nil)) ?_,rfl,q⟩;rw[p7,List.length_singleton];omega
noncomputable def rExtend:V->List V->Hp->VK->Prop:=fun x vs H Q=>∃l b xs zs,x= .ref l/\vs=[.ref b]/\H l=some (.lst xs)/\H b=some (.lst zs)/\xs.length+zs.length<=sizeLine/\Q .non (upd H l (.lst (xs++zs)))
theorem mt_extend:MtM X "list.extend" rExtend:=by
 intro pins s σ H x vs v us Q I rx rv h;obtain⟨l,b,xs,zs,rfl,rfl,hH,hB,hz,q⟩:=h;cases rx;obtain⟨u,rfl,ru⟩:=rv.one;cases ru;obtain⟨z,its,n,r,hl,e⟩:=I.lstM hH;obtain⟨z2,its2,n2,r2,hl2,e2⟩:=I.lstM hB;have hsz:its.toArray.size+its2.toArray.size<=sizeLine:=by rw[dW,dW];omega
 have hlong:¬(!its.toArray.isEmpty&&Builtin.List.listTooLong (its.toArray.size+its2.toArray.size))=true:=by
  rw[notLongL hsz,Yo];exact qy
 refine Js F.slot_list_extend ⟨_,e,rfl⟩ F.entry_list_extend (F.args_list_extend_2 _ _)
  (AutoSeq1.list_extend_list_list_0 l its.toArray n b its2.toArray n2 hlong (by rw[dW];omega) (by omega)) ⟨e,e2,?_⟩
 refine⟨.non,_,I.lset (its':=its++its2) hH e (by simp) (r.append r2) ?_,rfl,q⟩;rw[p7];omega
noncomputable def rClear:V->List V->Hp->VK->Prop:=fun x vs H Q=>∃l xs,x= .ref l/\vs=[]/\H l=some (.lst xs)/\Q .non (upd H l (.lst []))
theorem mt_clear:MtM X "list.clear" rClear:=by
 intro pins s σ H x vs v us Q I rx rv h;obtain⟨l,xs,rfl,rfl,hH,q⟩:=h;cases rx;have hus:=rv.zero;subst hus;obtain⟨z,its,n,r,hl,e⟩:=I.lstM hH;refine Js F.slot_list_clear ⟨_,e,rfl⟩ F.entry_list_clear (F.args_list_clear_1 _) (AutoSeq1.list_clear_list_0 l its.toArray n (by rw[dW];omega)) ⟨e,?_⟩;exact⟨.non,_,I.lset (its':=[]) (ys:=[]) hH e rfl .nil (cg _),rfl,q⟩
noncomputable def rCat:R2:=fun x y H Q=>∃l b xs zs,x= .ref l/\y= .ref b/\H l=some (.lst xs)/\H b=some (.lst zs)/\xs.length+zs.length<=sizeLine/\∀p,H p=none->Q (.ref p) (upd H p (.lst (xs++zs)))
theorem op_cat:OpR X (binaryOp .Add) rCat:=by
 intro pins s σ H x y v u Q I rx ry h;obtain⟨l,b,xs,zs,rfl,rfl,hH,hB,hz,q⟩:=h;cases rx;cases ry;obtain⟨z,its,n,r,hl,e⟩:=I.lstM hH;obtain⟨z2,its2,n2,r2,hl2,e2⟩:=I.lstM hB;refine PySem.P.add_list e e2 ?_ (by rw[dW,dW];omega);have ea:its.toArray++its2.toArray=(its++its2).toArray:=by simp
 rw[ea];exact⟨.ref _,_,I.lnew (t':=s.toks) (r.append r2) (by rw[p7];omega),rfl,q _ I.fresh⟩
noncomputable def rRep:R2:=fun x y H Q=>∃l k xs,x= .ref l/\y= .int k/\H l=some (.lst xs)/\ -(2^63)<=k/\k<2^63/\xs.length*k.toNat<=sizeLine/\
 ∀p,H p=none->Q (.ref p) (upd H p (.lst (List.replicate k.toNat xs).flatten))
theorem len_rep{α:Type}(xs:List α)(k:Nat):(List.replicate k xs).flatten.length=k*xs.length:=by
 induction k with
 |zero=>simp
 |succ k ih=>rw[Dd,LQ,p7,ih,Nat.succ_mul,Nat.add_comm]
theorem op_rep:OpR X (binaryOp .Mult) rRep:=by
 intro pins s σ H x y v u Q I rx ry h;obtain⟨l,k,xs,rfl,rfl,hH,h1,h2,hz,q⟩:=h;cases rx;obtain⟨t,rfl⟩:=ry;obtain⟨z,its,n,r,hl,e⟩:=I.lstM hH;have hlen:its.toArray.size*k.toNat<=sizeLine:=by rw[dW,<-hl];exact hz
 have hcap:¬its.toArray.size*k.toNat>(2^63-1)/8:=by
  have:(sizeLine:Nat)<=(2^63-1)/8:=by decide
  omega
 have hfit:¬(!Builtin.List.listFitsIndex k)=true:=by
  rw[fitsIndex_both h1 h2];exact qy
 have hlong:¬Builtin.List.listTooLong (its.toArray.size*k.toNat)=true:=by
  rw[notLongL hlen];exact qy
 have hnew:List.foldl (fun x1 x2=>x1++x2) #[] (List.replicate (if its.toArray.isEmpty=true then 0 else k.toNat) its.toArray)=(List.replicate k.toNat its).flatten.toArray:=by
  have f0:∀m:Nat,List.foldl (fun x1 x2=>x1++x2) #[] (List.replicate m its.toArray)=(List.replicate m its).flatten.toArray:=fun m=>by
   have:=foldl_rep its m [];rw[List.nil_append]at this;exact this
  rw[f0];cases its with
  |nil=>simp
  |cons a r'=>rw[aj (by simp)]
 refine wpAny_binaryOp_repeat_ref (T:="list") (U:="int") (by decide) ⟨_,e,rfl⟩ (fun s'=>Tg s' k t) noFill_list_mul F.fills_int_mul W3 repeat_list F.slot_int_index.lookup
  (Js W3 (Tg s k t) F.entry_int_rmul (F.args_int_rmul_2 _ _) (int___rmul___int_list k t l its.toArray n)
   ⟨e,rfl,⟨_,e,rfl⟩,Js F.slot_list_mul ⟨_,e,rfl⟩ F.entry_list_mul (F.args_list_mul_2 _ _) (AutoListH.list___mul___list_int_3 l its.toArray n k t hfit hcap hlong) ⟨e,?_⟩⟩)
 rw[hnew];exact⟨.ref _,_,I.lnew (t':=s.toks) (r.rep k.toNat) (by rw[len_rep,Og];exact hz),rfl,q _ I.fresh⟩
end
end L2
namespace Att
open PySem PySem.W PySem.Calls PyProof.Rows
theorem ints_of_wellAll{P:Params}{h:Heap}:∀(ns:List Int) (vs:List ζ),WellAll P h vs (ns.map WData.int)->IntsAre vs ns:=by
 intro ns
 induction ns with
 |nil=>
  intro vs w;rw[WM]at w;cases w;exact .nil
 |cons n ns ih=>
  intro vs w;rw[CZ]at w;cases w with
  |cons a b=>
   cases a;exact .cons _ _ (ih _ b)
theorem script_of{l:OpenLaw}{n:Nat}(hn:l.most=some n){P:Params}{h:Heap}{args:List WData}{vals:List ζ}(hpre:l.row.toRowW.claim.pre args=true)(hwl:WellAll P h vals args):
  ∃a vs ns,vals=[Value.ref a]/\args=[WData.list (ns.map WData.int)]/\h.get? a=some {cls:= .type "list",data:= .seq vs.toArray}/\IntsAre vs ns/\ns.length<=n:=by
 have hsh:WShape.hasAll [] args [.list .int]=true:=(pre_splitW hpre).1;have hc:l.pre.holds [] {args:=args}=true:=(pre_splitW hpre).2;obtain⟨d,r,rfl,h1,h2⟩:=hasAllW_cons hsh;obtain rfl:=hasAllW_nil h2;obtain⟨xs,rfl,h3⟩:=hasW_list h1;obtain⟨ns,rfl⟩:=items_int h3;have hlen:ns.length<=n:=by
  unfold OpenLaw.pre at hc;have h4:(WTm.not (.lt (.lit (.int (n:Int))) (.len (.arg 0)))).holds [] {args:=[.list (ns.map .int)]}=true:=by
   have h4:=(holds_andW hc).1;rw[hn]at h4;exact h4
  have h5:=condW_of h4 (w_not (w_lt w_lit (w_len_list (w_arg rfl))));rw[aH]at h5;refine Xa fun q=> ?_;have q':(n:Int)<((ns.length:Nat):Int):=by omega
  first
   |(rw[cU q']at h5;exact absurd h5 (by decide))
   |(simp at h5;omega)
 cases hwl with
 |cons w1 w2=>
  cases w2;cases w1 with
  |list ho hall=>exact⟨_,_,ns,rfl,rfl,ho,ints_of_wellAll ns _ hall,hlen⟩
theorem post_true(l:OpenLaw)(args:List WData):l.row.toRowW.claim.post args (.bool true) args=true:=
 postW_of (r:=l.row.toRowW) (X:=(true==true))
  (show WShape.has [] (.bool true) .bool=true by first |rfl|decide|simp[WShape.has,WShape.arms,WShape.armsAll])
  (show(WTm.eq .res (.lit (.bool true))).value [] {args:=args,res:=some (.bool true),after:=args}=some (.bool (true==true))from w_eq_bool (w_res rfl) w_lit) rfl
theorem attach_call{l:OpenLaw}{n:Nat}{q:ρ}{loose:List Str}{XP:(L4)->Heap->Prop}{YP:υ->Heap->Prop}{d:DefRec}(hn:l.most=some n)(hdf:d.params.defaults=[])(call:∀(w:υ) (s₀ s₁:η) (mg mb:L4) (fa:Addr) (o:Obj) (pm cd doc:ζ) (a:Addr) (vs:List ζ) (ns:List Int),
   Ground q loose [] XP w s₀ mg mb s₁.heap->YP w s₁.heap->
   s₁.heap.get? fa=some o->o.data= .func (docDef d.name d.params d.body d.scope pm cd doc)->s₁.heap.CodeRec cd d.name->mg d.name=some (.ref fa)->
   s₁.heap.get? a=some {cls:= .type "list",data:= .seq vs.toArray}->IntsAre vs ns->ns.length<=n->s₁.gens=#[]->
   codeAny (model l.prog w) callerA (.call (.ref fa) ⟨[.ref a],[]⟩) (fun r s'=>r= .ok (.ret (.bool true))/\OldK s₁.heap s'.heap/\s'.os=s₁.os/\AllBare s'.gens) s₁):
  WalkO q loose XP YP l.row.toRowW d [] (fun f vs=>PySem.call f vs):=by
 intro w s₀ s₁ mg mb G Y fa o pm cd doc dV kV ho hd hcd hD hmg hg args vals as hpre hlay hrd hwl hlo;obtain rfl:dV= .none:=Dflts.none hD hdf;obtain rfl:kV= .none:=Dflts.noKw hD;obtain⟨a,vs,ns,rfl,rfl,hobj,hints,hlen⟩:=script_of hn hpre hwl;refine enter_call (Mp (call w s₀ s₁ mg mb fa o pm cd doc a vs ns G Y ho (fd_plain hd) hcd hmg hobj hints hlen hg) fun r s' hq=> ?_);obtain⟨rfl,h2,h3,h4⟩:=hq;exact⟨.inl ⟨.bool true,.bool true,[],rfl,fun _=>rfl,.bool true,post_true l _,fun _=>⟨List.Pairwise.nil,fun _ hm=>(nomatch hm)⟩⟩,h2,h3,h4⟩
end Att
namespace L2
open PySem PySem.Spec PyProof.Rows
theorem vals_ints:∀{vs:List ζ} {ns:List Int},IntsAre vs ns->Vals (ns.map V.int) vs
 |_,_,.nil=> .nil
 |_,_,.cons n t h=> .cons ⟨t,rfl⟩ (vals_ints h)
noncomputable def Only(H:Hp):Prop:=∀b,H b=none\/∃o xs,H b=some (.frz o (.lst xs))
theorem law_call{P:ρ}{w:υ}{K:W.Frag}{mg mb:L4}{CX:CXT}{k:Nat}{fa a:Addr}{fd:τ}{x:Str}{sp:Sp}{s₁:η}{vs:List ζ}{ns:List Int}
  (KX:K.In s₁.heap)(hns:s₁.heap.Ns mainGlobals mg)(hb:s₁.heap.Ns builtinsNs mb)(hbb:∀x:Str,x≠"__name__"->mb x=bootBuiltins x)(hlim:s₁.heap.NoLimit)(hg:s₁.gens=#[])(ha:s₁.heap.get? a=some {cls:= .type "list",data:= .seq vs.toArray})(hi:IntsAre vs ns)(hl:ns.length<=sizeLine)(hr:Room k callerA)
  (F:∀base:Heap,K.In base->base.Ns mainGlobals mg->FnOk P w K mg base CX k fa fd [x] sp)(hbind:∀(s:η) (u:ζ),BindsTo s fd ⟨[u],[]⟩ [(x,u)])(hsp:∀H:Hp,Only H->SqL K H a (ns.map V.int)->sp [.ref a] H (fun v _=>v= .bl true) fun _ _ _=>False)(hCX:∀H e s',CX [] H s₁ (fun _ _ _=>False) e s'->False):
  codeAny (model P w) callerA (.call (.ref fa) ⟨[.ref a],[]⟩) (fun r s'=>r= .ok (.ret (.bool true))/\OldK s₁.heap s'.heap/\s'.os=s₁.os/\AllBare s'.gens) s₁:=by
 have rv:=vals_ints hi;have lenV:=hi.length
 -- from an abstract heap in which nothing but the script may be tracked
 have core:∀H:Hp,Only H->SqL K H a (ns.map V.int)->HOk P w H s₁.heap->(∀b,H b≠none->b=a)->(H a≠none->K.lookup a=none)->
   codeAny (model P w) callerA (.call (.ref fa) ⟨[.ref a],[]⟩) (fun r s'=>r= .ok (.ret (.bool true))/\OldK s₁.heap s'.heap/\s'.os=s₁.os/\AllBare s'.gens) s₁:=by
  intro H hO hS hok hA hK;have base_of:∀{b:Addr} {o:Obj},s₁.heap.get? b=some o->H b=none->(hidT s₁.heap H).get? b=some o:=fun e n=>hidT_get e n;have noA:∀{b:Addr} {o:Obj} {es:Array DictEntry} {ep:Nat},s₁.heap.get? b=some o->o.data= .dict es ep->H b=none:=fun{b o es ep} e d=>by
   cases q:H b with
   |none=>rfl
   |some u=>
    have e':b=a:=hA b (by rw[q];simp);subst e';rw[ha]at e;cases e;have d':Data.seq vs.toArray _=Data.dict es ep:=d;cases d'
  have nsK:∀{b:Addr} {m:L4},s₁.heap.Ns b m->(hidT s₁.heap H).Ns b m:=fun{b m} ⟨o,es,ep,e,d,r⟩=>⟨o,es,ep,base_of e (noA e d),d,r⟩;have hKb:K.In (hidT s₁.heap H):=fun b o e=>base_of (KX b o e) (by
   cases q:H b with
   |none=>rfl
   |some u=>
    have e':b=a:=hA b (by rw[q];simp);subst e';rw[hK (by rw[q];simp)]at e;cases e)
  have hM:Mod K mg (hidT s₁.heap H):=⟨hKb,nsK hns,⟨mb,nsK hb,hbb⟩,let⟨mc,h1,h2⟩:=hlim;⟨mc,nsK h1,h2⟩⟩;have e0:Env0 P w K mg (hidT s₁.heap H) callerA [] s₁ H:=⟨rfl,hM,fun b o e=>of_hidT e,tW (hidT_size _ _),trivial,fun b hb=>absurd (show b∈([]:List Addr)from hb) (by simp),hok,.of_eq hg⟩;refine Mp ((F _ hKb (nsK hns)).run callerA [] s₁ H ⟨[.ref a],[]⟩ [.ref a] [.ref a] _ _ hr e0 (hbind s₁ (.ref a)) (.cons rfl .nil) (hsp H hO hS)) fun r s' h=> ?_;cases r with
  |error e=>exact(hCX H e s' h).elim
  |ok fl=>
   cases fl with
   |next=>exact False.elim h
   |brk=>exact False.elim h
   |cont=>exact False.elim h
   |ret u=>
    obtain⟨v,H',os,bare,un,hok',r',q⟩:=h;have q':v= .bl true:=q;subst q';obtain rfl:u=Value.bool true:=r';refine⟨rfl,OldK.of_keep fun b o e=> ?_,os,bare⟩;cases q:H b with
    |none=>exact un.keep b o e q (by intro z;exact absurd (show b∈([]:List Addr)from z) (by simp)) (by simp)
    |some u=>
     rcases hO b with z|⟨ob,xs,z⟩
     ·rw[q]at z;cases z
     ·have z2:=un.frzs b ob _ z;obtain⟨e1,_⟩:=hok b _ z;obtain⟨e2,_⟩:=hok' b _ z2;rw[e]at e1;cases e1;exact e2
 cases hk:K.lookup a with
 |some o=>
  -- the script is one of the module's own objects
  have e:=KX a o hk;rw[ha]at e;cases e;refine core (fun _=>none) (fun _=> .inl rfl) (.inr ⟨_,vs.toArray,_,hk,rfl,rfl,rfl,by rw[dW,lenV];exact hl,by simpa using rv⟩) (fun b u z=>by have z':(none:Option HO)=some u:=z;cases z') (fun b z=>absurd rfl z) fun z=>absurd rfl z
 |none=>
  refine core (fun b=>if b=a then some (.frz {cls:= .type "list",data:= .seq vs.toArray} (.lst (ns.map V.int)))else none) (fun b=> ?_) (.inl (.inr ⟨{cls:= .type "list",data:= .seq vs.toArray},ak rfl⟩)) (fun b u z=> ?_) (fun b z=> ?_) fun _=>hk
  ·by_cases hb:b=a
   ·exact .inr ⟨_,_,ak hb⟩
   ·exact .inl (aj hb)
  ·by_cases hb:b=a
   ·have z':=(ak hb).symm.trans z;cases z';subst hb;exact⟨ha,by rw[aH];exact hl,vs,_,rv,ha⟩
   ·have z':=(aj hb).symm.trans z;cases z'
  ·by_cases hb:b=a
   ·exact hb
   ·exact absurd (aj hb) z
theorem walk_of{l:PySem.W.OpenLaw}{n k:Nat}{q:ρ}{loose:List Str}{XP:(L4)->Heap->Prop}{YP:υ->Heap->Prop}{d:DefRec}{K:Params->PySem.W.Frag}{CX:υ->CXT}{sp:υ->Sp}{x:Str}(hn:l.most=some n)(hn2:n<=sizeLine)(hdf:d.params.defaults=[])(hr:Room k callerA)(hY:∀(w:υ) (h:Heap),YP w h->(K w.params).In h)
  (F:∀(w:υ) (mg:L4) (fa:Addr) (h:Heap),(K w.params).In h->h.Ns mainGlobals mg->mg d.name=some (.ref fa)->
   ∃fd:τ,(∀(s:η) (u:ζ),BindsTo s fd ⟨[u],[]⟩ [(x,u)])/\
    ∀base:Heap,(K w.params).In base->base.Ns mainGlobals mg->FnOk l.prog w (K w.params) mg base (CX w) k fa fd [x] (sp w))(hsp:∀(w:υ) (H:Hp) (a:Addr) (ns:List Int),ns.length<=n->Only H->SqL (K w.params) H a (ns.map V.int)->sp w [.ref a] H (fun v _=>v= .bl true) fun _ _ _=>False)(hCX:∀(w:υ) (H:Hp) (s:η) (e:ζ) (s':η),CX w [] H s (fun _ _ _=>False) e s'->False):
  PySem.W.WalkO q loose XP YP l.row.toRowW d [] (fun f vs=>PySem.call f vs):=by
 refine Att.attach_call hn hdf fun w s₀ s₁ mg mb fa o pm cd doc a vs ns G Y ho hd hcd hmg hobj hints hlen hg=> ?_;have KX:=hY w _ Y;obtain⟨fd,hb,hF⟩:=F w mg fa _ KX G.T.g hmg;exact law_call KX G.T.g G.T.b G.T.builtins G.T.nolimit hg hobj hints (dD hlen hn2) hr hF hb (fun H hO hS=>hsp w H a ns hlen hO hS) fun H e s'=>hCX w H s₁ e s'
noncomputable def inClass(s:Stmt)(j:Nat):Stmt:=match s with
 | .ClassDef _ _ _ body _ _ _ _ _ _ _=>body.getD j (.Pass ⟨0,0,0,0⟩)
 |_=> .Pass ⟨0,0,0,0⟩
noncomputable def defArgs(s:Stmt):Arguments:=match s with
 | .FunctionDef _ a _ _ _ _ _ _ _ _=>a
 |_=>{posonlyargs:=[],args:=[],vararg:=none,kwonlyargs:=[],kw_defaults:=[],kwarg:=none,defaults:=[]}
noncomputable def defBody(s:Stmt):List Stmt:=match s with
 | .FunctionDef _ _ b _ _ _ _ _ _ _=>b
 |_=>[]
noncomputable def defScope(s:Stmt):Scope:=match s with
 | .FunctionDef _ _ _ _ _ _ sc _ _ _=>sc
 |_=>{kind:= .function,names:=[],isGenerator:=false,isCoroutine:=false}
noncomputable abbrev CX0:CXT:=fun _ _ _ _ _ _=>False
noncomputable abbrev E0:XK:=fun _ _ _=>False
theorem pass0{X:Cx}:Passes CX0 X E0:=fun _ _ _ _ _ _ _ h=>h.elim
structure Fun(K:W.Frag)(x qual:Str)(st:Stmt)(f:Addr)(fd:τ):Prop where
 ex:∃(oc:ζ) (od:Option Addr) (kV doc pm:ζ) (an:Option Addr) (cdv ct:ζ) (osl:Array (Option ζ)),
  fd=PySem.W.fnOf x qual (defArgs st) (defBody st) (defScope st) .none kV doc pm an cdv ct/\K.lookup f=some ⟨oc,od,.func fd,osl⟩/\PySem.W.codeIn K cdv qual=true
 kp:PySem.W.keepIn K (.ref f)=true
section
variable{P:ρ}{w:υ}{K:W.Frag}{mg:L4}{base:Heap}
theorem Fun.ok{x qual:Str}{st:Stmt}{f:Addr}{fd:τ}{N ps:List Str}{k:Nat}{sp:Sp}(F:Fun K x qual st f fd)(S:FnScope N ps (defScope st))(len:∀vs H Q E,sp vs H Q E->vs.length=ps.length)(hbody:∀(cdv:ζ) (A:Around) (outer:List Env) (s:η) (H:Hp) (vs:List V) (Q:VK) (E:XK),Room k (A.deeper (envOfC qual (defScope st) s.heap.objs.size f cdv))->sp vs H Q E->
   ∃t,PSs (cxOf CX0 P w K mg base N qual (defScope st) f cdv A outer s H E).nox (defBody st) t/\t {nx:=fun _ H'=>Q .non H',rt:=Q} (start N vs) H):FnOk P w K mg base CX0 (k+1) f fd ps sp:=by
 obtain⟨oc,od,kV,doc,pm,an,cdv,ct,osl,rfl,lk,hcd⟩:=F.ex;refine fn_of lk hcd S len fun A outer s H vs Q E hr hsp=> ?_;obtain⟨t,h,q⟩:=hbody cdv A outer s H vs Q E hr hsp;exact⟨t,h.nox,q⟩
theorem Fun.binds{x qual:Str}{st:Stmt}{f:Addr}{fd:τ}{ps:List Str}(F:Fun K x qual st f fd)(h:∀(kV doc pm:ζ) (an:Option Addr) (cdv ct:ζ) (us:List ζ),us.length=ps.length->bindArgs (PySem.W.fnOf x qual (defArgs st) (defBody st) (defScope st) .none kV doc pm an cdv ct) ⟨us,[]⟩=pure (ps.zip us)):Binds K fd ps []:=by
 obtain⟨oc,od,kV,doc,pm,an,cdv,ct,osl,rfl,lk,hcd⟩:=F.ex;exact .all (h kV doc pm an cdv ct)
theorem fun_mk{x qual:Str}{st:Stmt}{f:Addr}{oc:ζ}{od an:Option Addr}{osl:Array (Option ζ)}{kV doc pm cdv ct:ζ}(l:K.lookup f=some ⟨oc,od,.func (PySem.W.fnOf x qual (defArgs st) (defBody st) (defScope st) .none kV doc pm an cdv ct),osl⟩)(c:PySem.W.codeIn K cdv qual=true)(k:PySem.W.keepIn K (.ref f)=true):Fun K x qual st f (PySem.W.fnOf x qual (defArgs st) (defBody st) (defScope st) .none kV doc pm an cdv ct):=⟨⟨oc,od,kV,doc,pm,an,cdv,ct,osl,rfl,l,c⟩,k⟩
end
theorem small1000{n:Nat}(h:n<=1000):n<sizeLine:=Cz h (by decide)
section
variable{X:Cx}
theorem pv(i:Nat){x:Str}{pos:Pos}(hN:X.N[i]? =some x:=by rfl)(hv:Vis X.env.scope x:=by first |exact Or.inl rfl|exact Or.inr (Or.inl rfl)|exact Or.inr (Or.inr rfl))(hd:(x==("__debug__":Str))=false:=by decide)(hcd:(x==("__classdict__":Str))=false:=by decide):PE X (.Name x pos) (tVar i):=pe_var hN hv hd hcd
end
theorem iteF{A B:Prop}(h:B):if false=true then A else B:=by
 rw[aj qy];exact h
theorem iteT{A B:Prop}(h:A):if true=true then A else B:=by
 rw[ak rfl];exact h
theorem ite2{c A B:Prop} [Decidable c](h1:c->A)(h2:¬c->B):if c then A else B:=by
 by_cases h:c
 ·rw[ak h];exact h1 h
 ·rw[aj h];exact h2 h
noncomputable def Same(H H':Hp):Prop:=∀b o,H b=some o->H' b=some o
theorem Same.refl(H:Hp):Same H H:=fun _ _ h=>h
theorem Same.trans{H H1 H2:Hp}(a:Same H H1)(b:Same H1 H2):Same H H2:=fun c o h=>b c o (a c o h)
theorem Same.free{H H':Hp}(e:Same H H'){l:Addr}(h:H' l=Option.none):H l=Option.none:=by
 cases q:H l with
 |none=>rfl
 |some o=>
  rw[e l o q]at h;cases h
theorem Same.seq{K:W.Frag}{H H':Hp}{a:Addr}{xs:List V}(e:Same H H')(h:SqL K H a xs):SqL K H' a xs:=by
 rcases h with(h|⟨o,h⟩)|h
 ·exact .inl (.inl (e _ _ h))
 ·exact .inl (.inr ⟨o,e _ _ h⟩)
 ·exact .inr h
end L2
set_option maxHeartbeats 4000000
namespace L2
open PySem PySem.Spec PyProof.Rows
noncomputable def iR(cells:List (Str×Addr)):List (Str×NameKind)->List (Str×Addr)->List (Str×Addr)
 |[],acc=>acc
 |p::r,acc=>iR cells r (if(p.2==NameKind.free)=true then(p.1,(cells.lookup p.1).getD 0)::acc else acc)
theorem j7{cells:List (Str×Addr)}:∀{names:List (Str×NameKind)} {acc:List (Str×Addr)} {x:Str} {c:Addr},(x,c)∈iR cells names acc->(x,c)∈acc\/c=(cells.lookup x).getD 0/\(x,NameKind.free)∈names
 |[],_,_,_,h=> .inl h
 |(n,k)::r,acc,x,c,h=>by
  rcases j7 (names:=r) h with q|⟨q,m⟩
  ·dsimp only at q;split at q
   ·rename_i hk;rcases dU.mp q with e|e
    ·cases e;have:k=NameKind.free:=by simpa using hk
     subst this;exact .inr ⟨rfl,gG⟩
    ·exact .inl e
   ·exact .inl q
  ·exact .inr ⟨q,eV _ m⟩
theorem vM{cells:List (Str×Addr)}:∀{names:List (Str×NameKind)} {acc:List (Str×Addr)} {p:Str×Addr},p∈acc->p∈iR cells names acc
 |[],_,_,h=>h
 |(n,k)::r,acc,p,h=>by
  refine vM (names:=r) ?_;split
  ·exact eV _ h
  ·exact h
theorem vL{cells:List (Str×Addr)}:∀{names:List (Str×NameKind)} {acc:List (Str×Addr)} {x:Str},(x,NameKind.free)∈names->∃c,(x,c)∈iR cells names acc
 |(n,k)::r,acc,x,h=>by
  rcases dU.mp h with e|e
  ·cases e;refine⟨(cells.lookup n).getD 0,vM (names:=r) ?_⟩;rw[ak (show(NameKind.free==NameKind.free)=true from rfl)];exact gG
  ·exact vL (names:=r) e
theorem Wa{β:Type}:∀{l:List (Str×β)} {x:Str} {c:β},(x,c)∈l->∃d,l.lookup x=some d/\(x,d)∈l
 |(n,k)::r,x,c,h=>by
  cases hx:x==n with
  |true=>
   have e:x=n:=by simpa using hx
   subst e;exact⟨k,by simp[Cv],gG⟩
  |false=>
   rcases dU.mp h with e|e
   ·cases e;simp at hx
   ·obtain⟨d,h1,h2⟩:=Wa e;exact⟨d,by simp only[Cv,hx];exact h1,eV _ h2⟩
theorem oX{scope:Scope}{env:Env}(h:∀x,(x,NameKind.free)∈scope.names->∃c,env.cells.lookup x=some c):closureFor scope env=pure (iR env.cells scope.names []):=by
 have key:∀(names:List (Str×NameKind)) (acc:List (Str×Addr)),(∀x,(x,NameKind.free)∈names->∃c,env.cells.lookup x=some c)->
   (forIn names acc fun(x:Str×NameKind) (cs:List (Str×Addr))=>if(x.2==NameKind.free)=true then(do let y<-cellOf env x.1;pure (ForInStep.yield ((x.1,y)::cs)))else pure (ForInStep.yield cs):Sem (List (Str×Addr)))=pure (iR env.cells names acc):=by
  intro names
  induction names with
  |nil=>intro acc _;rfl
  |cons p r ih=>
   intro acc hh;obtain⟨n,k⟩:=p;rw[List.forIn_cons];dsimp only;by_cases hk:(k==NameKind.free)=true
   ·have e:k=NameKind.free:=by simpa using hk
    subst e;obtain⟨c,hc⟩:=hh n gG;rw[ak hk];unfold cellOf;rw[hc];simp only[pure_bind];refine Eq.trans (ih _ fun x hx=>hh x (eV _ hx)) ?_;show _=pure (iR env.cells r (if(NameKind.free==NameKind.free)=true then(n,(env.cells.lookup n).getD 0)::acc else acc));rw[ak hk,hc];rfl
   ·rw[aj hk];simp only[pure_bind];refine Eq.trans (ih _ fun x hx=>hh x (eV _ hx)) ?_;show _=pure (iR env.cells r (if(k==NameKind.free)=true then(n,(env.cells.lookup n).getD 0)::acc else acc));rw[aj hk]
 have q:=key scope.names [] h;unfold closureFor;simp only[bind_pure];exact q
theorem jm{env:Env}:∀{names:List (Str×NameKind)} {x:Str} {k:NameKind},names.lookup x=some k->
  (names.map fun(n,k)=>if(k==NameKind.free&&env.scope.kind== .function&&env.kindOf n==some .cell)then(n,NameKind.cell)else(n,k)).lookup x=some (if(k==NameKind.free&&env.scope.kind== .function&&env.kindOf x==some .cell)=true then .cell else k)
 |[],_,_,h=>by simp at h
 |(n,k)::r,x,k',h=>by
  have ih:= @jm env r x k';show List.lookup x ((if(k==NameKind.free&&env.scope.kind== .function&&env.kindOf n==some .cell)=true then(n,NameKind.cell)else(n,k))::_)=_;cases hx:x==n with
  |true=>
   have e:x=n:=by simpa using hx
   subst e;simp only[Cv,hx]at h;cases h;by_cases hc:(k==NameKind.free&&env.scope.kind== .function&&env.kindOf x==some .cell)=true
   ·rw[ak hc,ak hc];simp[Cv]
   ·rw[aj hc,aj hc];simp[Cv]
  |false=>
   simp only[Cv,hx]at h;by_cases hc:(k==NameKind.free&&env.scope.kind== .function&&env.kindOf n==some .cell)=true
   ·rw[ak hc];simp only[Cv,hx];exact ih h
   ·rw[aj hc];simp only[Cv,hx];exact ih h
theorem oH{env:Env}:∀{names:List (Str×NameKind)} {x:Str},names.lookup x=none->
  (names.map fun(n,k)=>if(k==NameKind.free&&env.scope.kind== .function&&env.kindOf n==some .cell)then(n,NameKind.cell)else(n,k)).lookup x=none
 |[],_,_=>rfl
 |(n,k)::r,x,h=>by
  have ih:= @oH env r x;show List.lookup x ((if(k==NameKind.free&&env.scope.kind== .function&&env.kindOf n==some .cell)=true then(n,NameKind.cell)else(n,k))::_)=_;cases hx:x==n with
  |true=>simp only[Cv,hx]at h;cases h
  |false=>
   simp only[Cv,hx]at h;by_cases hc:(k==NameKind.free&&env.scope.kind== .function&&env.kindOf n==some .cell)=true
   ·rw[ak hc];simp only[Cv,hx];exact ih h
   ·rw[aj hc];simp only[Cv,hx];exact ih h
theorem w6{scope:Scope}{env:Env}{x:Str}(h:scope.names.lookup x=some .free):(relabel scope env).names.lookup x=some .cell\/(relabel scope env).names.lookup x=some .free:=by
 have q:=jm (env:=env) h;by_cases hc:((NameKind.free==NameKind.free)&&env.scope.kind== .function&&env.kindOf x==some .cell)=true
 ·rw[ak hc]at q;exact .inl q
 ·rw[aj hc]at q;exact .inr q
inductive fZ(X:Cx)(scope:Scope):List Str->List Nat->Prop
 |nil:fZ X scope [] []
 |cons {x:Str} {j:Nat} {xs:List Str} {js:List Nat} (hN:X.N[j]? =some x) (hf:scope.names.lookup x=some .free) (t:fZ X scope xs js):fZ X scope (x::xs) (j::js)
theorem fZ.get{X:Cx}{scope:Scope}:∀{xs:List Str} {js:List Nat} {k:Nat} {x:Str},fZ X scope xs js->xs[k]? =some x->∃j,js[k]? =some j/\X.N[j]? =some x/\scope.names.lookup x=some .free
 |_,_,k,x,.nil,h=>by simp at h
 |_,_,0,x,.cons h1 h2 _,h=>by simp at h;subst h;exact⟨_,rfl,h1,h2⟩
 |_,_,k+1,x,.cons _ _ t,h=>by
  obtain⟨j,a,b⟩:=fZ.get (k:=k) t (by simpa using h);exact⟨j,by simpa using a,b⟩
theorem fZ.len{X:Cx}{scope:Scope}:∀{xs:List Str} {js:List Nat},fZ X scope xs js->xs.length=js.length
 |_,_,.nil=>rfl
 |_,_,.cons _ _ t=>by simp[fZ.len t]
noncomputable def u5(own:List Str)(ix:List Nat)(σ:St):St:=own.map (fun _=>none)++ix.map fun j=>(σ[j]?).join
noncomputable def N7(X:Cx)(ifs:List Expr)(t:TT):Prop:=
 ∀(pins:L1) (s:η) (σ:St) (H:Hp) (Q:Bool->Hp->Prop),Inv X pins σ H s->t σ H Q->
  wpAny (model X.prog X.w) X.A (forIn ifs true fun c r=>if r=true then do let ok<-isTrue c X.env (eval c X.env);pure (ForInStep.yield ok)else pure (ForInStep.yield r)) (TP X pins σ Q) X.xe s
theorem tH{X:Cx}:N7 X [] (fun _ H Q=>Q true H):=fun _ _ _ H _ I h=>wpAny_tests_nil ⟨H,I,h⟩
theorem dZ{X:Cx}{c:Expr}{t:TT}(h:PT X c t):N7 X [c] t:=fun pins s σ H Q I hq=>wpAny_tests_one (h pins s σ H Q I hq)
theorem HOk.add{P:ρ}{w:υ}{H:Hp}{h:Heap}{a:Addr}{o:HO}(x:HOk P w H h)(hn:H a=none)(new:ObjOk P w (upd H a o) h a o):HOk P w (upd H a o) h:=fun b u e=>by
 by_cases hb:b=a
 ·subst hb;rw[aR]at e;cases e;exact new
 ·rw[cG hb]at e;exact(x b u e).stay (fun c v _ q=>q) (fun c q=>by rw[cG (mZ q hn)];exact q) fun c xs q=>by rw[cG (mZ q hn)];exact q
theorem Un.add{fs ex:List Addr}{H H':Hp}{h h':Heap}{a:Addr}{o:HO}(u:Un fs ex H H' h h')(ha:h.objs.size<=a)(hn:H' a=none):Un fs ex H (upd H' a o) h h' where
 keep:=u.keep
 slot:=u.slot
 free:=fun b ob q n hx=>by rw[cG (cN (gq (cO q) ha))];exact u.free b ob q n hx
 there:=u.there
 tups:=fun b xs q=>by have:=u.tups b xs q;rw[cG (mZ this hn)];exact this
 frzs:=fun b ob xs q=>by have:=u.frzs b ob xs q;rw[cG (mZ this hn)];exact this
 tbls:=fun b ps q=>by obtain⟨m,e⟩:=u.tbls b ps q;exact⟨m,by rw[cG (mZ e hn)];exact e⟩
noncomputable def vV(J:It)(ini:St)(H:Hp)(g:TG)(tc:TT)(te:TE)(Fin:List V->Hp->Prop):Prop:=
 ∃W:Nat->Nat->List V->St->Hp->Prop,(∃m,W 0 m [] ini H)/\∀i m acc σ H,W i m acc σ H->
  (J.stop i H/\acc.length<=sizeLine/\Fin acc H)\/(J.go i H/\acc.length<sizeLine/\∃N:List V->St->Hp->Prop,(∀acc' σ' H',N acc' σ' H'->∃m',m'<m/\W (i+1) m' acc' σ' H')/\∀x H',J.yld i H x H'->g x σ H' fun σ2 H2=>tc σ2 H2 fun b H3=>
   if b=true then te σ2 H3 fun v H4=>N (acc++[v]) σ2 H4 else N acc σ2 H3)
noncomputable def zj(wi:TI)(own:List Str)(ix:List Nat)(g:TG)(tc:TT)(te:TE):TE:=fun σ H Q=>wi σ H fun J H1=>
 vV J (u5 own ix σ) H1 g tc te fun acc H'=>∀p,H' p=none->Q (.ref p) (upd H' p (.lst acc))
section
variable{K:W.Frag}{a:Addr}{xs:List V}{g:TG}{tc:TT}{te:TE}{Fin:List V->Hp->Prop}{ini:St}{H:Hp}
theorem Lw(Pv:Nat->List V->St->Hp->Prop)(h0:Pv 0 [] ini H)(hl:∀(i:Nat) acc σ H,i<=xs.length->Pv i acc σ H->SqL K H a xs)(hz:∀(i:Nat) acc σ H,i<=xs.length->Pv i acc σ H->acc.length<=i)(hx:xs.length<=sizeLine)(hs:∀(i:Nat) x acc σ H,xs[i]? =some x->Pv i acc σ H->g x σ H fun σ2 H2=>tc σ2 H2 fun b H3=>if b=true then te σ2 H3 fun v H4=>Pv (i+1) (acc++[v]) σ2 H4 else Pv (i+1) acc σ2 H3)(hd:∀acc σ H,Pv xs.length acc σ H->Fin acc H):vV (Itl K a) ini H g tc te Fin:=by
 refine⟨fun i m acc σ H=>m=xs.length-i/\i<=xs.length/\Pv i acc σ H,⟨xs.length,by simp,cg _,h0⟩,?_⟩;rintro i m acc σ H ⟨rfl,hi,p⟩;have q:=hl i acc σ H hi p;have z:=hz i acc σ H hi p;by_cases hlt:i<xs.length
 ·refine .inr ⟨⟨xs,xs[i],q,by simp[hlt]⟩,by omega,fun acc σ H=>Pv (i+1) acc σ H,fun acc' σ' H' r=>⟨_,by omega,rfl,hlt,r⟩,fun x H' y=> ?_⟩;obtain⟨e,y⟩:=y;subst e;exact hs i x acc σ _ (y xs q) p
 ·have e:i=xs.length:=by omega
  subst e;exact .inl ⟨⟨xs,q,aB _⟩,by omega,hd acc σ H p⟩
theorem Lr(Pv:Nat->List V->St->Hp->Prop)(h0:Pv 0 [] ini H)(hl:∀(i:Nat) acc σ H,i<=xs.length->Pv i acc σ H->SqT K H a xs)(hz:∀(i:Nat) acc σ H,i<=xs.length->Pv i acc σ H->acc.length<=i)(hx:xs.length<=sizeLine)(hs:∀(i:Nat) x acc σ H,xs[i]? =some x->Pv i acc σ H->g x σ H fun σ2 H2=>tc σ2 H2 fun b H3=>if b=true then te σ2 H3 fun v H4=>Pv (i+1) (acc++[v]) σ2 H4 else Pv (i+1) acc σ2 H3)(hd:∀acc σ H,Pv xs.length acc σ H->Fin acc H):vV (Itt K a) ini H g tc te Fin:=by
 refine⟨fun i m acc σ H=>m=xs.length-i/\i<=xs.length/\Pv i acc σ H,⟨xs.length,by simp,cg _,h0⟩,?_⟩;rintro i m acc σ H ⟨rfl,hi,p⟩;have q:=hl i acc σ H hi p;have z:=hz i acc σ H hi p;by_cases hlt:i<xs.length
 ·refine .inr ⟨⟨xs,xs[i],q,by simp[hlt]⟩,by omega,fun acc σ H=>Pv (i+1) acc σ H,fun acc' σ' H' r=>⟨_,by omega,rfl,hlt,r⟩,fun x H' y=> ?_⟩;obtain⟨e,y⟩:=y;subst e;exact hs i x acc σ _ (y xs q) p
 ·have e:i=xs.length:=by omega
  subst e;exact .inl ⟨⟨xs,q,aB _⟩,by omega,hd acc σ H p⟩
theorem Q7{lo:Int}{n:Nat}(Pv:Nat->List V->St->Hp->Prop)(h0:Pv 0 [] ini H)(hz:∀(i:Nat) acc σ H,i<=n->Pv i acc σ H->acc.length<=i)(hx:n<=sizeLine)(hs:∀(i:Nat) acc σ H,i<n->Pv i acc σ H->g (.int (lo+i)) σ H fun σ2 H2=>tc σ2 H2 fun b H3=>if b=true then te σ2 H3 fun v H4=>Pv (i+1) (acc++[v]) σ2 H4 else Pv (i+1) acc σ2 H3)(hd:∀acc σ H,Pv n acc σ H->Fin acc H):vV (Itr lo n) ini H g tc te Fin:=by
 refine⟨fun i m acc σ H=>m=n-i/\i<=n/\Pv i acc σ H,⟨n,by simp,cg _,h0⟩,?_⟩;rintro i m acc σ H ⟨rfl,hi,p⟩;have z:=hz i acc σ H hi p;by_cases hlt:i<n
 ·refine .inr ⟨hlt,by omega,fun acc σ H=>Pv (i+1) acc σ H,fun acc' σ' H' r=>⟨_,by omega,rfl,hlt,r⟩,fun x H' y=> ?_⟩;obtain⟨e,y⟩:=y;subst e y;exact hs i acc σ _ hlt p
 ·have e:i=n:=by omega
  subst e;exact .inl ⟨aB _,by omega,hd acc σ H p⟩
end
end L2
namespace wj
open PySem PySem.W PyProof.Rows
section
variable{O:KeyOrd}{key:Nat->O.α}{N:Nat}{cmp:Nat->Nat->(Bool->η->Prop)->η->Prop}{s:η}
noncomputable def iY(O:KeyOrd)(key:Nat->O.α)(N:Nat)(cmp:Nat->Nat->(Bool->η->Prop)->η->Prop)(s:η):Prop:=
 ∀i j (C:Bool->η->Prop),i<N->j<N->C (O.blt (key i) (key j)) s->cmp i j C s
noncomputable def KN(key:Nat->O.α)(p:Array Nat)(i:Nat):O.α:=key (p.getD i 0)
noncomputable def So(key:Nat->O.α)(p:Array Nat)(k:Nat):Prop:=∀i j,i<=j->j<k->O.kle (KN key p i) (KN key p j)
noncomputable def Ni(key:Nat->O.α)(p:Array Nat)(k:Nat):Prop:=∀i j,i<=j->j<k->O.kle (KN key p j) (KN key p i)
structure Ord(N:Nat)(p:Array Nat):Prop where
 perm:p.Perm (List.toArray (List.range N))
theorem Ord.size{p:Array Nat}(h:Ord N p):p.size=N:=by have:=h.perm.size_eq;simpa using this
theorem Ord.lt{p:Array Nat}(h:Ord N p){i:Nat}(hi:i<N):p.getD i 0<N:=by
 have hi':i<p.size:=by rw[h.size];exact hi
 have e:p.getD i 0=p[i]:=by simp[Array.getD,hi']
 rw[e];have m:p[i]∈p.toList:=by simp
 have:=(Te.mp h.perm).mem_iff.mp m;simpa using this
theorem Ord.rev{p:Array Nat}(h:Ord N p)(i j:Nat):Ord N (kas_rev p i j):=⟨(mirror_perm _ _ _ _).trans h.perm⟩
theorem Ord.bub{p:Array Nat}(h:Ord N p)(i j:Nat):Ord N (bubble p i j):=⟨(bubble_perm _ _ _).trans h.perm⟩
theorem oO(p:Array Nat)(i:Nat):p.getD i 0=(p[i]?).getD 0:=by simp
theorem yG{p:Array Nat}{i j:Nat}(hj:j<=p.size)(k:Nat):KN key (kas_rev p i j) k=if i<=k/\k<j then KN key p (i+j-1-k)else KN key p k:=by
 have e:=getElem?_mirror_all (i:=i) hj k;unfold KN kas_rev;rw[oO,e];split
 ·rw[oO]
 ·rw[oO]
theorem R3{p:Array Nat}{i j:Nat}(hj:j<=p.size)(heq:∀k,i<=k->k<j->KN key p k=KN key p (j-1))(k:Nat):KN key (kas_rev p i j) k=KN key p k:=by
 rw[yG hj];split
 ·rename_i h;rw[heq k h.1 h.2,heq _ (by omega) (by omega)]
 ·rfl
theorem Ie{p:Array Nat}{src d:Nat}(hs:src<p.size)(hd:d<=src)(k:Nat):KN key (bubble p src d) k=if k=src-d then KN key p src else if src-d<k/\k<=src then KN key p (k-1)else KN key p k:=by
 have e:=getElem?_bubble hs d hd k;have q:KN key (bubble p src d) k=key (((bubble p src d)[k]?).getD 0):=gD key (oO _ _);have q2:∀i,KN key p i=key ((p[i]?).getD 0):=fun i=>gD key (oO _ _);rw[q,e,q2,q2,q2];by_cases h1:k=src-d
 ·rw[ak h1,ak h1]
 ·rw[aj h1,aj h1];by_cases h2:src-d<k/\k<=src
  ·rw[ak h2,ak h2]
  ·rw[aj h2,aj h2]
theorem zO{i j:Nat}(h:i<=j)(hn:¬i=j):i<=j-1:=Wg (Jm h hn)
theorem yd{j n:Nat}(h:j<n+1)(hn:¬j<n):j=n:=Oh (LK h) (Nat.not_lt.mp hn)
theorem gR{x k:Nat}(h:1<=x)(hk:x<=k):x-1<k:=S9 h hk
theorem xT{x f N:Nat}(h:x+(f+1)<=N):x<N:=gq (Nat.lt_add_of_pos_right (tK f)) h
theorem iZ{x f N:Nat}(h:x+(f+1)<=N):x+1+f<=N:=dD (tW (Wq x f)) h
theorem Mv{x f m:Nat}(h:m<=x+1+f):m<=x+(f+1):=dD h (tW (Wq x f))
theorem Pn{i j n:Nat}(h:i<=j):0+n-1-j<=0+n-1-i:=Nat.sub_le_sub_left h _
theorem Pk{i n:Nat}(h:i<n):0+n-1-i<n:=by
 rw[WL];exact Cz (Wv _ _) (S9 (Cz (cg _) h) (aB _))
theorem asc(ok:iY O key N cmp s){p:Array Nat}(hp:Ord N p){Q:Nat->η->Prop}:∀(f n:Nat),1<=n->n+f<=N->So key p n->(∀m,n<=m->m<=n+f->So key p m->(m=n+f\/O.klt (KN key p m) (KN key p (m-1)))->Q m s)->(kas_asc p f n).kasWp cmp Q s
 |0,n,_,_,hs,h=>h n (aB _) (aB _) hs (.inl rfl)
 |f+1,n,h1,hn,hs,h=>by
  have Qw:n<N:=xT hn;refine ok _ _ _ (hp.lt Qw) (hp.lt (gR h1 (cD Qw))) ?_;cases hless:O.blt (key (p.getD n 0)) (key (p.getD (n-1) 0))with
  |true=>
   show Q n s;exact h n (aB _) (W9 _ _) hs (.inr hless)
  |false=>
   show(kas_asc p f (n+1)).kasWp cmp Q s;refine asc ok hp f (n+1) (tK _) (iZ hn) (fun i j hij hj=> ?_) fun m a b c d=>h m (YL a) (Mv b) c (d.imp (fun z=>z.trans (Wq n f)) id);by_cases hjn:j<n
   ·exact hs i j hij hjn
   ·have hj':j=n:=yd hj hjn;subst hj';by_cases hi':i=j
    ·subst hi';exact Jt _
    ·exact W8 (hs i (j-1) (zO hij hi') (gR h1 (aB _))) hless
theorem tail3(ok:iY O key N cmp s){p:Array Nat}(hp:Ord N p){n:Nat}{Q:Nat×Array Nat->η->Prop}(h1:1<=n)(hn:n<=N)(hs:Ni key p n)(h:∀m p',Ord N p'->1<=m->m<=N->So key p' m->Q (m,p') s):(kas_tail3 n N p).kasWp cmp Q s:=by
 unfold kas_tail3;rw[TF];have hsz:n<=p.size:=by rw[hp.size];exact hn
 have hN:n+(N-n)=N:=Y5 hn;refine asc ok (hp.rev 0 n) (N-n) n h1 (tW hN) (fun i j hij hj=> ?_) fun m a b c _=>h m _ (hp.rev 0 n) (dD h1 a) (dD b (tW hN)) c;rw[yG hsz,yG hsz,ak ⟨cg _,Cz hij hj⟩,ak ⟨cg _,hj⟩];exact hs _ _ (Pn hij) (Pk (Cz hij hj))
theorem Hy{p p':Array Nat}{x:Nat}(h1:1<=x)(hs:Ni key p x)(hless:O.kle (KN key p x) (KN key p (x-1)))(hk:∀k,KN key p' k=KN key p k):Ni key p' (x+1):=by
 intro i j hij hj;rw[hk,hk];by_cases hjx:j<x
 ·exact hs i j hij hjx
 ·have hj':j=x:=yd hj hjx;subst hj';by_cases hi':i=j
  ·subst hi';exact Jt _
  ·exact W8 hless (hs i (j-1) (zO hij hi') (gR h1 (aB _)))
theorem one_eq{p:Array Nat}{x i:Nat}(h1:x+1-(0+1)<=i)(h2:i<x+1):KN key p i=KN key p (x+1-1):=gD _ (Oh (LK h2) h1)
theorem desc(ok:iY O key N cmp s){Q:Array Nat×Nat×Nat->η->Prop}:∀(f:Nat) (p:Array Nat) (x neq:Nat),Ord N p->1<=x->x+f<=N->Ni key p x->neq+1<=x->(∀i,x-(neq+1)<=i->i<x->KN key p i=KN key p (x-1))->
  (∀p' m q,Ord N p'->x<=m->m<=x+f->Ni key p' m->q+1<=m->(∀i,m-(q+1)<=i->i<m->KN key p' i=KN key p' (m-1))->Q (p',m,q) s)->(kas_desc f p x neq).kasWp cmp Q s
 |0,p,x,neq,hp,_,_,hs,hq,he,h=>h p x neq hp (aB _) (aB _) hs hq he
 |f+1,p,x,neq,hp,h1,hn,hs,hq,he,h=>by
  have U7:x<N:=xT hn;have hsz:x<=p.size:=by rw[hp.size];exact cD U7
  have hx1:x-1<N:=gR h1 (cD U7);have hh:∀p' m q,Ord N p'->x+1<=m->m<=x+1+f->Ni key p' m->q+1<=m->(∀i,m-(q+1)<=i->i<m->KN key p' i=KN key p' (m-1))->Q (p',m,q) s:=fun p' m q a b c d e g=>h p' m q a (YL b) (Mv c) d e g;refine ok _ _ _ (hp.lt U7) (hp.lt hx1) ?_;cases hless:O.blt (key (p.getD x 0)) (key (p.getD (x-1) 0))with
  |true=>
   show(if neq>0 then kas_desc f (kas_rev p (x-(neq+1)) x) (x+1) 0 else kas_desc f p (x+1) 0).kasWp cmp Q s;by_cases hneq:neq>0
   ·rw[ak hneq];exact desc ok f _ (x+1) 0 (hp.rev _ _) (tK _) (iZ hn) (Hy h1 hs (TV hless) (R3 hsz he)) (tK _) (fun i h1 h2=>one_eq h1 h2) hh
   ·rw[aj hneq];exact desc ok f _ (x+1) 0 hp (tK _) (iZ hn) (Hy h1 hs (TV hless) fun _=>rfl) (tK _) (fun i h1 h2=>one_eq h1 h2) hh
  |false=>
   show(KasT.ask (p.getD (x-1) 0) (p.getD x 0) fun d=>if d=true then KasT.ret (p,x,neq)else kas_desc f p (x+1) (neq+1)).kasWp cmp Q s;refine ok _ _ _ (hp.lt hx1) (hp.lt U7) ?_;cases hl:O.blt (key (p.getD (x-1) 0)) (key (p.getD x 0))with
   |true=>exact h p x neq hp (aB _) (W9 _ _) hs hq he
   |false=>
    show(kas_desc f p (x+1) (neq+1)).kasWp cmp Q s;have heqx:KN key p x=KN key p (x-1):=KeyOrd.kle_antisymm hl hless;refine desc ok f _ (x+1) (neq+1) hp (tK _) (iZ hn) (Hy h1 hs (by rw[heqx];exact Jt _) fun _=>rfl) (Nat.succ_le_succ hq) (fun i h1 h2=> ?_) hh;show KN key p i=KN key p x;by_cases hix:i=x
    ·subst hix;rfl
    ·rw[heqx];exact he i (dD (tW (Nat.succ_sub_succ x (neq+1)).symm) h1) (Jm (LK h2) hix)
theorem descPart(ok:iY O key N cmp s){p:Array Nat}(hp:Ord N p){n:Nat}{Q:Nat×Array Nat->η->Prop}(hn:n+1<=N)(hs:Ni key p (n+1))(h:∀m p',Ord N p'->1<=m->m<=N->So key p' m->Q (m,p') s):(kas_descPart n N p).kasWp cmp Q s:=by
 unfold kas_descPart;rw[TF];have hN:n+1+(N-(n+1))<=N:=tW (Y5 hn);refine desc ok _ _ _ _ hp (tK _) hN hs (tK _) (fun i h1 h2=>one_eq h1 h2) fun p' m q a b c d e g=> ?_;have hm:m<=N:=dD c hN;have hm1:1<=m:=dD (tK _) b;have hsz:m<=p'.size:=by rw[a.size];exact hm
 dsimp only;by_cases hq:q>0
 ·rw[ak hq];refine tail3 ok (a.rev _ _) hm1 hm (fun i j hij hj=> ?_) h;rw[R3 hsz g,R3 hsz g];exact d i j hij hj
 ·rw[aj hq];exact tail3 ok a hm1 hm d h
theorem count(ok:iY O key N cmp s){p:Array Nat}(hp:Ord N p){Q:Nat×Array Nat->η->Prop}(h1:1<=N)(h:∀m p',Ord N p'->1<=m->m<=N->So key p' m->Q (m,p') s):(kas_count N p).kasWp cmp Q s:=by
 unfold kas_count;rw[TF];have hN:1+(N-1)=N:=Y5 h1;refine asc ok hp (N-1) 1 (aB _) (tW hN) (fun i j hij hj=>by
  have hj0:j=0:=Nat.lt_one_iff.mp hj;subst hj0;have hi0:i=0:=Nat.le_zero.mp hij;subst hi0;exact Jt _) fun n a b hsn hor=> ?_
 have Qw:n<=N:=dD b (tW hN);by_cases hnn:n=N
 ·rw[ak (by simpa using hnn)];exact h n p hp a Qw hsn
 ·rw[aj (by simpa using hnn)];have hlt:O.klt (KN key p n) (KN key p (n-1)):=hor.resolve_left fun z=>hnn (z.trans hN);have Jd:n<N:=Jm Qw hnn;by_cases hgt:n>1
  ·rw[ak hgt];have hn1:n-1<n:=gR a (aB _);refine ok _ _ _ (hp.lt h1) (hp.lt (Iw hn1 Jd)) ?_;cases hrose:O.blt (key (p.getD 0 0)) (key (p.getD (n-1) 0))with
   |true=>exact h n p hp a Qw hsn
   |false=>
    show(kas_descPart n N (kas_rev p 0 n)).kasWp cmp Q s;have hsz:n<=p.size:=by rw[hp.size];exact Qw
    have hall:∀k,0<=k->k<n->KN key p k=KN key p (n-1):=fun k _ hk=>
     KeyOrd.kle_antisymm (hsn k (n-1) (Wg hk) hn1) (W8 hrose (hsn 0 k (cg _) hk))
    refine descPart ok (hp.rev 0 n) Jd (fun i j hij hj=> ?_) h;rw[R3 hsz hall,R3 hsz hall];by_cases hjn:j<n
    ·rw[hall i (cg _) (Cz hij hjn),hall j (cg _) hjn];exact Jt _
    ·have hj':j=n:=yd hj hjn;subst hj';by_cases hi':i=j
     ·subst hi';exact Jt _
     ·rw[hall i (cg _) (Jm hij hi')];exact TV hlt
  ·rw[aj hgt];have hn1':n=1:=Oh (Nat.not_lt.mp hgt) a;subst hn1';refine descPart ok hp Jd (fun i j hij hj=> ?_) h;by_cases hi':i=j
   ·subst hi';exact Jt _
   ·have hij':i<j:=Jm hij hi';have hj1:j=1:=Oh (LK hj) (Cz (cg i) hij');subst hj1;have hi0:i=0:=Nat.lt_one_iff.mp hij';subst hi0;exact TV hlt
theorem half_lt{l r:Nat}(h:l<r):(l+r)/2<r:=by omega
theorem KD{l r:Nat}(h:l<r):l<=(l+r)/2:=by omega
theorem place(ok:iY O key N cmp s){p:Array Nat}(hp:Ord N p){k:Nat}{Q:Nat->η->Prop}(hk:k<N)(hs:So key p k):∀(f l r:Nat),l<=r->r<=k->r-l<=f->(∀i,i<l->O.kle (KN key p i) (KN key p k))->(∀i,r<=i->i<k->O.klt (KN key p k) (KN key p i))->
  (∀l,l<=k->(∀i,i<l->O.kle (KN key p i) (KN key p k))->(∀i,l<=i->i<k->O.klt (KN key p k) (KN key p i))->Q l s)->(kas_place p k f l r).kasWp cmp Q s
 |0,l,r,hlr,hrk,hm,hlo,hhi,h=>by
  have e:l=r:=Oh hlr (Nat.sub_eq_zero_iff_le.mp (Nat.le_zero.mp hm));subst e;exact h l hrk hlo hhi
 |f+1,l,r,hlr,hrk,hm,hlo,hhi,h=>by
  show(if l≥r then KasT.ret l else KasT.ask (p.getD k 0) (p.getD ((l+r)/2) 0) fun c=>if c=true then kas_place p k f l ((l+r)/2)else kas_place p k f ((l+r)/2+1) r).kasWp cmp Q s;by_cases hge:l≥r
  ·rw[ak hge];have e:l=r:=Oh hlr hge;subst e;exact h l hrk hlo hhi
  ·rw[aj hge];have hc:(l+r)/2<r:=half_lt (Nat.not_le.mp hge);have hd:l<=(l+r)/2:=KD (Nat.not_le.mp hge);generalize (l+r)/2=c at hc hd⊢;refine ok _ _ _ (hp.lt hk) (hp.lt (Iw (gq hc hrk) hk)) ?_;cases hless:O.blt (key (p.getD k 0)) (key (p.getD c 0))with
   |true=>
    refine place ok hp hk hs f l c hd (cD (gq hc hrk)) (LK (gq (Nat.sub_lt_sub_right hd hc) hm)) hlo (fun i h1 h2=> ?_) h;by_cases hi:i=c
    ·subst hi;exact hless
    ·exact KeyOrd.klt_of_klt_of_kle hless (hs c i h1 h2)
   |false=>
    refine place ok hp hk hs f (c+1) r hc hrk (LK (gq (Nat.sub_lt_sub_left (Cz hd hc) (Nat.lt_succ_of_le hd)) hm)) (fun i h1=> ?_) hhi h;by_cases hi:i=c
    ·subst hi;exact hless
    ·exact W8 (hs i c (LK h1) (gq hc hrk)) hless
theorem VP{p:Array Nat}{k l:Nat}(hs:So key p k)(hl:l<=k)(hsz:k<p.size)(hlo:∀i,i<l->O.kle (KN key p i) (KN key p k))(hhi:∀i,l<=i->i<k->O.klt (KN key p k) (KN key p i)):So key (bubble p k (k-l)) (k+1):=by
 intro i j hij hj;have e:k-(k-l)=l:=Nat.sub_sub_self hl;rw[Ie hsz (Wv _ _),Ie hsz (Wv _ _),e];have hjk:j<=k:=LK hj;by_cases hi1:i=l
 ·rw[ak hi1];by_cases hj1:j=l
  ·rw[ak hj1];exact Jt _
  ·have lj:l<j:=Jm (hi1▸hij) (iU hj1);rw[aj hj1,ak ⟨lj,hjk⟩];exact TV (hhi (j-1) (Wg lj) (S9 (Cz (cg _) lj) hjk))
 ·rw[aj hi1];by_cases hi2:l<i/\i<=k
  ·have lj:l<j:=gq hi2.1 hij;rw[ak hi2,aj (iU (cN lj)),ak ⟨lj,hjk⟩];exact hs _ _ (Nat.sub_le_sub_right hij 1) (S9 (Cz (cg _) lj) hjk)
  ·rw[aj hi2];have il:i<l:=Jm (Nat.not_lt.mp fun z=>hi2 ⟨z,dD hij hjk⟩) hi1;by_cases hj1:j=l
   ·rw[ak hj1];exact hlo i il
   ·rw[aj hj1];by_cases hj2:l<j/\j<=k
    ·rw[ak hj2];exact hs _ _ (Wg (Iw il hj2.1)) (S9 (Cz (cg _) hj2.1) hjk)
    ·rw[aj hj2];exact hs _ _ hij (gq (Jm (Nat.not_lt.mp fun z=>hj2 ⟨z,hjk⟩) hj1) hl)
theorem bins(ok:iY O key N cmp s){Q:Array Nat->η->Prop}:∀(f:Nat) (p:Array Nat) (k:Nat),Ord N p->1<=k->k+f=N->So key p k->(∀p',Ord N p'->So key p' N->Q p' s)->(kas_bin f p k).kasWp cmp Q s
 |0,p,k,hp,_,hf,hs,h=>h p hp ((show k=N from hf)▸hs)
 |f+1,p,k,hp,h1,hf,hs,h=>by
  show((kas_place p k k 0 k).bind fun l=>kas_bin f (bubble p k (k-l)) (k+1)).kasWp cmp Q s;rw[TF];have hk:k<N:=xT (tW hf);have hsz:k<p.size:=by rw[hp.size];exact hk
  refine place ok hp hk hs k 0 k (cg _) (aB _) (Wv _ _) (fun i hi=>absurd hi (Lz _)) (fun i h1 h2=>absurd h2 (Nat.not_lt.mpr h1)) fun l hl hlo hhi=> ?_;exact bins ok f _ (k+1) (hp.bub _ _) (tK _) ((Wq k f).trans hf) (VP hs hl hsz hlo hhi) h
theorem sort(ok:iY O key N cmp s){Q:Array Nat->η->Prop}(h1:1<=N)(h:∀p',Ord N p'->So key p' N->Q p' s):(kas_sort N).kasWp cmp Q s:=by
 unfold kas_sort;rw[TF];refine count ok ⟨Array.Perm.refl _⟩ h1 fun m p' hp hm1 hm2 hs=> ?_;dsimp only;by_cases hlt:m<N
 ·rw[ak hlt];have e:max m 1=m:=by omega
  rw[e];exact bins ok _ _ _ hp hm1 (by omega) hs h
 ·rw[aj hlt];have e:m=N:=by omega
  subst e;exact h p' hp hs
end
end wj
namespace wj
open PySem PySem.W PyProof.Rows PySem.Calls
noncomputable def Lp{O:KeyOrd}(key:Nat->O.α)(vs out:List ζ):Prop:=∃p:Array Nat,Ord vs.length p/\So key p vs.length/\out=p.toList.map fun i=>vs.getD i Value.none
section
variable{prog:ρ}{w:υ}{A:Around}{E:L3}{s:η}{O:KeyOrd}{key:Nat->O.α}{κ:SortKind}{vs:List ζ}
theorem xr(h2:vs.length<2):Lp key vs vs:=by
 refine⟨List.toArray (List.range vs.length),⟨Array.Perm.refl _⟩,fun i j hij hj=> ?_,?_⟩
 ·have e:i=j:=by omega
  subst e;exact Jt _
 ·match vs,h2 with
  |[],_=>rfl
  |[v],_=>rfl
  |_::_::_,h=>simp at h;omega
theorem qj{a:Addr}{n:Nat}{P:PySem.Fin->η->Prop}(ho:s.heap.get? a=some (seqObj "list" vs.toArray n))(h64:vs.length<64)(hkind:2<=vs.length->∀h',(∀b o,b≠a->s.heap.get? b=some o->h'.get? b=some o)->∀Q:SortKind->η->Prop,Q κ {s with heap:=h'}->wpAny (model prog w) A (keyKind' vs.toArray) Q E {s with heap:=h'})(GJ:2<=vs.length->∀h',(∀b o,b≠a->s.heap.get? b=some o->h'.get? b=some o)->iY O key vs.length (kas_ask prog w A κ vs) {s with heap:=h'})(h:∀h' out c,Lp key vs out->(∀b o,b≠a->s.heap.get? b=some o->h'.get? b=some o)->h'.get? a=some (seqObj "list" (List.toArray out) c)->P (.done (.ret .none)) {s with heap:=h'}):
  wpAny (model prog w) A (Builtin.«list.sort» ⟨[.ref a],[]⟩) P E s:=by
 have ha:a<s.heap.objs.size:=cO ho;have s1:=wJ s.heap a (Obj.mapSeq fun _=>(#[]:Array ζ));obtain⟨e1,ho1⟩:∃e1,(s.heap.update a (Obj.mapSeq fun _=>(#[]:Array ζ))).get? a=some (seqObj "list" #[] e1):=⟨_,Rq ho fun _=>#[]⟩;have keep:∀b o,b≠a->s.heap.get? b=some o->(((s.heap.update a (Obj.mapSeq fun _=>(#[]:Array ζ))).push (seqObj "tuple" vs.toArray 0)).push (seqObj "list" #[] 0)).get? b=some o:=fun b o hb e=>
  dH _ (dH _ ((s1.2 b hb).trans e))
 have ho6:(((s.heap.update a (Obj.mapSeq fun _=>(#[]:Array ζ))).push (seqObj "tuple" vs.toArray 0)).push (seqObj "list" #[] 0)).get? a=some (seqObj "list" #[] e1):=dH _ (dH _ ho1);rw[list_sort_plain];refine aq (listItems_at ho rfl ?_);refine aq (Ro ho rfl ?_ (by rw[dW,gA];omega) (cg _));refine aq (Rn ho1 rfl ?_);refine aq (wpAny_newTuple ?_ (by show vs.length<=_;rw[gA];omega));refine aq (Tz ?_ (cg _));refine Ak ?_;show wpAny (model prog w) A _ P E {s with heap:=((s.heap.update a (Obj.mapSeq fun _=>(#[]:Array ζ))).push (seqObj "tuple" vs.toArray 0)).push (seqObj "list" #[] 0)};dsimp only;by_cases h2:vs.toArray.size<2
 ·have h2':vs.length<2:=by simpa using h2
  rw[ak h2,ak h2];refine aq (aO ?_);rw[StateT.run_pure];refine aq (aO ?_);dsimp only;refine aq (Rn ho6 rfl ?_);refine aq (Ro ho6 rfl ?_ (cg _) (by rw[Array.size_map];show(pairsOf vs).size<=_;rw[pairsOf_size,gA];omega));simp only[TQ,Am,yX];refine aO ?_;have eo:(vs.toArray.zip vs.toArray).map (·.2)=List.toArray vs:=by
   apply Array.toList_inj.mp;simp[List.map_snd_zip]
  have s2:=wJ (((s.heap.update a (Obj.mapSeq fun _=>(#[]:Array ζ))).push (seqObj "tuple" vs.toArray 0)).push (seqObj "list" #[] 0)) a (Obj.mapSeq fun _=>List.toArray vs);obtain⟨c2,hc2⟩:∃c2,((((s.heap.update a (Obj.mapSeq fun _=>(#[]:Array ζ))).push (seqObj "tuple" vs.toArray 0)).push (seqObj "list" #[] 0)).update a (Obj.mapSeq fun _=>List.toArray vs)).get? a=some (seqObj "list" (List.toArray vs) c2):=⟨_,Rq ho6 fun _=>List.toArray vs⟩;have fin:=h _ vs c2 (xr h2') (fun b o hb e=>(s2.2 b hb).trans (keep b o hb e)) hc2
  first
   |exact fin
   |(rw[<-eo]at fin;exact fin)
   |(show P _ {s with heap:=Heap.update _ a (Obj.mapSeq fun _=>(vs.toArray.zip vs.toArray).map (·.2))};rw[eo];exact fin)
 ·have h2':2<=vs.length:=by rw[dW]at h2;omega
  rw[aj h2,aj h2];refine aq (hkind h2' _ keep _ ?_);refine aq (Ml (kat_run (Q:=fun st' s'=>s'={s with heap:=((s.heap.update a (Obj.mapSeq fun _=>(#[]:Array ζ))).push (seqObj "tuple" vs.toArray 0)).push (seqObj "list" #[] 0)}/\∃p:Array Nat,p.size=vs.length/\arrOf st'=p.map (kas_item (vs.toArray.zip vs.toArray))/\failedOf st'=none/\Ord vs.length p/\So key p vs.length)
   (G:=fun p s'=>s'={s with heap:=((s.heap.update a (Obj.mapSeq fun _=>(#[]:Array ζ))).push (seqObj "tuple" vs.toArray 0)).push (seqObj "list" #[] 0)}/\Ord vs.length p/\So key p vs.length)
   rfl h2' h64 (fun p' st' s' a1 a2 a3 a4=>⟨a4.1,p',a1,a2,a3,a4.2.1,a4.2.2⟩) (sort (GJ h2' _ keep) (by omega) fun p' hp hs=>⟨rfl,hp,hs⟩)) ?_ fun _ _ e=>e)
  rintro⟨⟨⟩,st'⟩ s' ⟨rfl,p,hp,har,hf,hor,hso⟩;dsimp only;have hout:=kat_snds rfl har;have hsz:(List.toArray (p.toList.map fun i=>vs.getD i Value.none)).size=vs.length:=by rw[dW,aH,mJ,hp]
  rw[hout];refine aq (Rn ho6 rfl ?_);refine aq (Ro ho6 rfl ?_ (cg _) (dD (tW hsz) (by rw[gA];omega)));rw[hf];simp only[TQ,Am,yX];have s2:=wJ (((s.heap.update a (Obj.mapSeq fun _=>(#[]:Array ζ))).push (seqObj "tuple" vs.toArray 0)).push (seqObj "list" #[] 0)) a (Obj.mapSeq fun _=>List.toArray (p.toList.map fun i=>vs.getD i Value.none));obtain⟨c2,hc2⟩:∃c2,((((s.heap.update a (Obj.mapSeq fun _=>(#[]:Array ζ))).push (seqObj "tuple" vs.toArray 0)).push (seqObj "list" #[] 0)).update a (Obj.mapSeq fun _=>List.toArray (p.toList.map fun i=>vs.getD i Value.none))).get? a=some (seqObj "list" (List.toArray (p.toList.map fun i=>vs.getD i Value.none)) c2):=⟨_,Rq ho6 fun _=>_⟩;exact aO (h _ _ c2 ⟨p,hor,hso,rfl⟩ (fun b o hb e=>(s2.2 b hb).trans (keep b o hb e)) hc2)
theorem wU{l:Addr}{Q:L3}(hl:s.heap.IsList l vs.toArray)(h64:vs.length<64)(hkind:2<=vs.length->∀h',(∀b o,s.heap.get? b=some o->h'.get? b=some o)->∀(E:L3) (Q:SortKind->η->Prop),Q κ {s with heap:=h'}->wpAny (model prog w) A.in1.in1 (keyKind' vs.toArray) Q E {s with heap:=h'})(GJ:2<=vs.length->∀h',(∀b o,s.heap.get? b=some o->h'.get? b=some o)->iY O key vs.length (kas_ask prog w A.in1.in1 κ vs) {s with heap:=h'})(h:∀D h' out c,Lp key vs out->s.heap.objs.size<=D->(∀b o,s.heap.get? b=some o->h'.get? b=some o)->h'.get? D=some (seqObj "list" (List.toArray out) c)->Q (.ref D) {s with heap:=h'}):
  wpAny (model prog w) A (call (.builtin "sorted") [.ref l]) Q E s:=by
 refine Calls.call_function_entry kind_sorted plain_sorted entry_sorted (args_sorted1 _) ?_;unfold Builtin.«sorted»;refine aq (m:=checkCount "sorted" 1 1 _) (aO ?_);refine aq (collect_list hl ?_ (by rw[gA];omega));refine aq (Tz ?_ (by rw[gA];omega));have hsz:((s.heap.push (seqObj "list" #[] 0)).update s.heap.objs.size (Obj.mapSeq (· ++vs.toArray))).objs.size=s.heap.objs.size+1:=by
  rw[Heap.size_update,size_push']
 have hoL:(((s.heap.push (seqObj "list" #[] 0)).update s.heap.objs.size (Obj.mapSeq (· ++vs.toArray))).push (seqObj "list" vs.toArray 0)).get? (s.heap.objs.size+1)=some (seqObj "list" vs.toArray 0):=by
  rw[<-hsz];exact jE _ rfl
 have keep:∀b o,s.heap.get? b=some o->(((s.heap.push (seqObj "list" #[] 0)).update s.heap.objs.size (Obj.mapSeq (· ++vs.toArray))).push (seqObj "list" vs.toArray 0)).get? b=some o:=fun b o q=>by
  have hlt:b<s.heap.objs.size:=cO q;rw[Heap.get?_push_ne _ _ _ (by rw[hsz];exact cN (m6 hlt)),Heap.get?_update_ne _ _ _ _ (cN hlt),Heap.get?_push_ne _ _ _ (cN hlt)];exact q
 have ne:∀b o,s.heap.get? b=some o->b≠s.heap.objs.size+1:=fun b o q=>cN (m6 (cO q));show wpAny _ _ _ _ _ {s with heap:=((s.heap.push (seqObj "list" #[] 0)).update s.heap.objs.size (Obj.mapSeq (· ++vs.toArray))).push (seqObj "list" vs.toArray 0)};rw[hsz];refine aq (Ak (Ju slot_list_sort ⟨_,hoL,rfl⟩ entry_list_sort ?body (args_list_sort _)))
 case body=>
  refine qj (key:=key) (κ:=κ) (s:={s with heap:=((s.heap.push (seqObj "list" #[] 0)).update s.heap.objs.size (Obj.mapSeq (· ++vs.toArray))).push (seqObj "list" vs.toArray 0)}) hoL h64
   (fun h2 h' k Q hq=>hkind h2 h' (fun b o q=>k b o (ne b o q) (keep b o q)) _ Q hq) (fun h2 h' k=>GJ h2 h' fun b o q=>k b o (ne b o q) (keep b o q)) fun h' out c ho k hc=> ?_
  exact⟨_,rfl,aO ⟨_,rfl,h _ h' out c ho (Jk _) (fun b o q=>k b o (ne b o q) (keep b o q)) hc⟩⟩
end
end wj
namespace HT
open PySem PyProof.Rows
theorem cQ:∀(a b:List Int),lexLt a b=decide (a<b)
 |[],[]=>by simp[lexLt]
 |[],_::_=>by simp[lexLt]
 |_::_,[]=>by simp[lexLt]
 |x::xs,y::ys=>by
  rw[lexLt_cons,cQ xs ys];by_cases e:x=y
  ·subst e;simp
  ·rw[aj e];by_cases l:x<y
   ·simp[l,Wj]
   ·have:¬(x::xs<y::ys):=by rw[Wj];simp[l,e]
    simp[l,this]
end HT
namespace wj
open PySem PySem.W PyProof.Rows PySem.Calls
noncomputable def lexOrd:KeyOrd where
 α:=List Int
 blt a b:=decide (a<b)
 irrefl a:=by simpa using List.lt_irrefl a
 trans a b c h1 h2:=by simp only[Dq]at *;exact List.lt_trans h1 h2
 negTrans a b c h:=by
  simp only[Dq]at *;by_cases hab:a<b
  ·exact .inl hab
  ·exact .inr (List.lt_of_le_of_lt (List.not_lt.mp hab) h)
 total a b h1 h2:=by simp only[decide_eq_false_iff_not]at *;exact List.le_antisymm (List.not_lt.mp h2) (List.not_lt.mp h1)
section
variable{prog:ρ}{w:υ}{A:Around}{s:η}{Q:Bool->η->Prop}
theorem Gq{na nb:Nat}{xs ys:List ζ}{ns ms:List Int}(i:Nat)(hx:IntsAre xs ns)(hy:IntsAre ys ms)(hl:ns.length+nb=ms.length+na)(h:Q (HT.lexLt ns ms) s):KatLex prog w A true (decide (na<nb)) Q (xs.zip ys) i s:=by
 induction hx generalizing ys ms i with
 |nil=>
  rw[List.zip_nil_left];refine kat_nil ?_;cases hy with
  |nil=>
   rw[HT.lexLt_nil_nil]at h;rw[gB (by simp only[LC]at hl;omega)];exact h
  |cons c u hw=>
   rw[HT.lexLt_nil_cons]at h;rw[cU (by simp only[LC,nO]at hl;omega)];exact h
 |cons a t hv ih=>
  cases hy with
  |nil=>
   rw[List.zip_nil_right];refine kat_nil ?_;rw[HT.lexLt_cons_nil]at h;rw[gB (by simp only[LC,nO]at hl;omega)];exact h
  |cons c u hw=>
   rw[YX];rw[HT.lexLt_cons]at h;refine kat_cons (wpAny_eqBool_int ?_);refine kat_go (fun e=> ?_) fun e=> ?_
   ·have e':a=c:=by simpa using e
    rw[ak e']at h;exact kat_yes (ih (i+1) hw (by simp only[nO]at hl;omega) h)
   ·have e':a≠c:=by simpa using e
    rw[aj e']at h;refine kat_no ?_;cases i with
    |zero=>exact oneLt_int h
    |succ i=>exact kat_one _ _ (lt_int (show PySem.W.BoolBack Q (.bool (decide (a<c))) s from h))
end
theorem JV{O:KeyOrd}{key:Nat->O.α}{α:Type}{vs out:List ζ}{its:List α}{d:α}{f:α->O.α}{R:α->ζ->Prop}(hR:Paired R its vs)(hk:∀i (hi:i<its.length),key i=f its[i])(h:Lp key vs out):
  ∃its':List α,its'.Perm its/\Paired R its' out/\its'.Pairwise fun x y=>O.kle (f x) (f y):=by
 obtain⟨p,hp,hs,rfl⟩:=h;have hl:=hR.length;have get:∀{l₁:List α} {l₂:List ζ} {i:Nat},Paired R l₁ l₂->(h:i<l₁.length)->∃v,l₂[i]? =some v/\R l₁[i] v:=by
  intro l₁ l₂ i q
  induction q generalizing i with
  |nil=>intro h;simp at h
  |cons r t ih=>
   intro h;cases i with
   |zero=>exact⟨_,rfl,r⟩
   |succ i=>
    obtain⟨v,e,rv⟩:=ih (i:=i) (by simpa using h);exact⟨v,by simpa using e,by simpa using rv⟩
 have hlt:∀i∈p.toList,i<its.length:=fun i hi=>by
  have:=(Te.mp hp.perm).mem_iff.mp hi;rw[hl];simpa using this
 refine⟨p.toList.map fun i=>its.getD i d,?_,?_,?_⟩
 ·have q:=(Te.mp hp.perm).map (fun i=>its.getD i d);refine q.trans ?_;have e:(List.toArray (List.range vs.length)).toList.map (fun i=>its.getD i d)=its:=by
   rw[<-hl];apply Sy;intro i;simp only[dX];by_cases hi:i<its.length
   ·simp[hi]
   ·simp[hi]
  rw[e]
 ·have mk:∀l:List Nat,(∀i∈l,i<its.length)->Paired R (l.map fun i=>its.getD i d) (l.map fun i=>vs.getD i Value.none):=by
   intro l
   induction l with
   |nil=>intro _;exact .nil
   |cons i l ih=>
    intro hb;refine .cons ?_ (ih fun j hj=>hb j (eV _ hj));have hi:=hb i gG;obtain⟨v,e,r⟩:=get hR hi;have e1:its.getD i d=its[i]:=by simp[hi]
    have e2:vs.getD i Value.none=v:=by rw[jF,e];rfl
    show R (its.getD i d) (vs.getD i Value.none);rw[e1,e2];exact r
  exact mk _ hlt
 ·rw[Jq];intro i j hi hj hij;simp only[aH,mJ]at hi hj;simp only[YC];have hsz:=hp.size;have q:=hs i j (by omega) (by omega);have e:∀k (hk':k<p.size),KN key p k=f (its.getD p.toList[k] d):=fun k hk'=>by
   have e1:p.getD k 0=p.toList[k]:=by simp[Array.getD,hk']
   have hb:=hlt p.toList[k] (tY _);have e2:its.getD p.toList[k] d=its[p.toList[k]]:=by simp only[jF,dJ hb,YB]
   unfold KN;rw[e1,e2];exact hk _ hb
  rw[e i hi,e j hj]at q;exact q
end wj
namespace L2
open PySem PySem.Spec PyProof.Rows
section
variable{X:Cx}
theorem oZ:∀{bs:List Bool} {us:List ζ},Vals (bs.map V.bl) us->us=bs.map Value.bool
 |[],_,h=>by cases h;rfl
 |b::bs,_,h=>by
  cases h with
  |cons r t=>rw[CZ,oZ t];exact gD (· ::_) r
theorem fj(hc:X.calm=true):CallR X (.builtin "all") (fun xs H Q=>∃(a:Addr) (bs:List Bool),xs=[.ref a]/\SqL X.K H a (bs.map V.bl)/\Q (.bl (bs.all id)) H):=by
 intro pins s σ H xs us Q I r h;obtain⟨a,bs,rfl,hS,q⟩:=h;obtain⟨u,rfl,ru⟩:=r.one;cases ru;obtain⟨vs,rv,pl,hz⟩:=I.list hS;have hv:=oZ rv;have hl:=pl.isList;have hlt:a<s.heap.objs.size:=by obtain⟨_,e,_⟩:=hl;exact cO e
 refine call_all_walk (TJ hl ?_);refine⟨s.heap.objs.size,[s.heap.objs.size,a],[s.heap.objs.size],vs.toArray.size,_,_,fun i=>(bs[i]?).getD true,rfl,Walks.list (A:=X.A.in1) (I.ok.hd hc) _ a (cN hlt) vs.toArray,
  ⟨⟨_,jE _ rfl,rfl,rfl⟩,hl.push _⟩,fun i v s' Q' E' hP hQ=> ?_,fun h' tk hk=> ?_⟩
 ·have hP':vs[i]? =some v:=by simpa using hP
  rw[hv,dX]at hP';cases e:bs[i]? with
  |none=>rw[e]at hP';cases hP'
  |some b=>
   rw[e]at hP';cases hP';simp only[e,YB]at hQ;exact Jv hQ
 ·have e:((List.range vs.toArray.size).all fun i=>(bs[i]?).getD true)=bs.all id:=by
   rw[dW,hv,aH];exact LSm.range_all bs
  rw[e];exact⟨.bl _,H,I.kept (LSm.kept_iter hk),rfl,q⟩
theorem HJ(hc:X.calm=true):CallR X (.builtin "any") (fun xs H Q=>∃(a:Addr) (bs:List Bool),xs=[.ref a]/\SqL X.K H a (bs.map V.bl)/\Q (.bl (bs.any id)) H):=by
 intro pins s σ H xs us Q I r h;obtain⟨a,bs,rfl,hS,q⟩:=h;obtain⟨u,rfl,ru⟩:=r.one;cases ru;obtain⟨vs,rv,pl,hz⟩:=I.list hS;have hv:=oZ rv;have hl:=pl.isList;have hlt:a<s.heap.objs.size:=by obtain⟨_,e,_⟩:=hl;exact cO e
 refine call_any_walk (TJ hl ?_);refine⟨s.heap.objs.size,[s.heap.objs.size,a],[s.heap.objs.size],vs.toArray.size,_,_,fun i=>(bs[i]?).getD false,rfl,Walks.list (A:=X.A.in1) (I.ok.hd hc) _ a (cN hlt) vs.toArray,
  ⟨⟨_,jE _ rfl,rfl,rfl⟩,hl.push _⟩,fun i v s' Q' E' hP hQ=> ?_,fun h' tk hk=> ?_⟩
 ·have hP':vs[i]? =some v:=by simpa using hP
  rw[hv,dX]at hP';cases e:bs[i]? with
  |none=>rw[e]at hP';cases hP'
  |some b=>
   rw[e]at hP';cases hP';simp only[e,YB]at hQ;exact Jv hQ
 ·have e:((List.range vs.toArray.size).any fun i=>(bs[i]?).getD false)=bs.any id:=by
   rw[dW,hv,aH];exact LSm.range_any bs
  rw[e];exact⟨.bl _,H,I.kept (LSm.kept_iter hk),rfl,q⟩
noncomputable def Ob(K:W.Frag)(H:Hp):V->String->Prop
 | .non,T=>T="NoneType"
 | .bl _,T=>T="bool"
 | .int _,T=>T="int"
 | .str _,T=>T="str"
 | .ref a,T=>(T="tuple"/\∃xs,SqT K H a xs)\/(T="list"/\∃xs,SqL K H a xs)\/(T="dict"/\∃kvs,H a=some (.dK kvs))
 |_,_=>False
noncomputable def xV(T C:String):Bool:=T==C||(T=="bool"&&C=="int")
theorem Af:CallR X (.builtin "isinstance") (fun xs H Q=>∃(x:V) (T C:String),xs=[x,.ty C]/\Ob X.K H x T/\(C="int"\/C="bool"\/C="tuple"\/C="list")/\Q (.bl (xV T C)) H):=by
 intro pins s σ H xs us Q I r h;obtain⟨x,T,C,rfl,hk,hC,q⟩:=h;obtain⟨u,v,rfl,ru,rv⟩:=r.two;cases rv;have Hl:∀b,b=xV T C->EP X pins σ Q (.bool b) s:=fun b e=>⟨.bl b,H,I,rfl,by rw[e];exact q⟩;have cR:∀b,b=xV T C->EP X pins σ Q (.bool b) {s with toks:=s.toks+1}:=fun b e=>⟨.bl b,H,I.tok _,rfl,by rw[e];exact q⟩;cases x with
 |non=>
  cases ru;cases hk;rcases hC with rfl|rfl|rfl|rfl
  ·exact IsiPair.NoneType_int (cR _ rfl)
  ·exact IsiPair.NoneType_bool (cR _ rfl)
  ·exact IsiPair.NoneType_tuple (cR _ rfl)
  ·exact IsiPair.NoneType_list (cR _ rfl)
 |bl b=>
  cases ru;cases hk;rcases hC with rfl|rfl|rfl|rfl
  ·exact IsiPair.bool_int (Hl _ rfl)
  ·exact IsiPair.bool_bool (Hl _ rfl)
  ·exact IsiPair.bool_tuple (cR _ rfl)
  ·exact IsiPair.bool_list (cR _ rfl)
 |int i=>
  obtain⟨t,rfl⟩:=ru;cases hk;rcases hC with rfl|rfl|rfl|rfl
  ·exact IsiPair.int_int (Hl _ rfl)
  ·exact IsiPair.int_bool (cR _ rfl)
  ·exact IsiPair.int_tuple (cR _ rfl)
  ·exact IsiPair.int_list (cR _ rfl)
 |str z=>
  obtain⟨t,rfl⟩:=ru;cases hk;rcases hC with rfl|rfl|rfl|rfl
  ·exact IsiPair.str_int (cR _ rfl)
  ·exact IsiPair.str_bool (cR _ rfl)
  ·exact IsiPair.str_tuple (cR _ rfl)
  ·exact IsiPair.str_list (cR _ rfl)
 |ref a=>
  cases ru;rcases hk with⟨rfl,xs,hS⟩|⟨rfl,xs,hS⟩|⟨rfl,kvs,hS⟩
  ·obtain⟨its,_,⟨o,e,c,n,d⟩,_⟩:=I.tuple hS;rcases hC with rfl|rfl|rfl|rfl
   ·exact IsiPair.tuple_int e c (cR _ rfl)
   ·exact IsiPair.tuple_bool e c (cR _ rfl)
   ·exact IsiPair.tuple_tuple e c (Hl _ rfl)
   ·exact IsiPair.tuple_list e c (cR _ rfl)
  ·obtain⟨its,_,⟨o,n,e,c,d,_⟩,_⟩:=I.list hS;rcases hC with rfl|rfl|rfl|rfl
   ·exact IsiPair.list_int e c (cR _ rfl)
   ·exact IsiPair.list_bool e c (cR _ rfl)
   ·exact IsiPair.list_tuple e c (cR _ rfl)
   ·exact IsiPair.list_list e c (Hl _ rfl)
  ·obtain⟨_,_,vs,_,o,es,ep,e,c,_⟩:=I.hok a _ hS;have c':o.cls= .type "dict":=c.1;rcases hC with rfl|rfl|rfl|rfl
   ·exact IsiPair.dict_int e c' (cR _ rfl)
   ·exact IsiPair.dict_bool e c' (cR _ rfl)
   ·exact IsiPair.dict_tuple e c' (cR _ rfl)
   ·exact IsiPair.dict_list e c' (cR _ rfl)
 |_=>exact hk.elim
end
mutual
inductive DV(K:W.Frag)(H:Hp):V->θ->Prop
 |non:DV K H .non .none
 |bl (b:Bool):DV K H (.bl b) (.bool b)
 |int (i:Int):DV K H (.int i) (.int i)
 |str (x:Str):DV K H (.str x) (.str x)
 |tup {a:Addr} {xs:List V} {ds:List θ} (h:SqT K H a xs) (t:dg K H xs ds):DV K H (.ref a) (.tuple ds)
 |lst {a:Addr} {xs:List V} {ds:List θ} (h:SqL K H a xs) (t:dg K H xs ds):DV K H (.ref a) (.list ds)
 |dc0 {a:Addr} (h:H a=some (.dK [])):DV K H (.ref a) (.dict [])
 |dc1 {a b:Addr} {i:Int} (h:H a=some (.dK [(Sum.inl i,.ref b)])) (t:SqT K H b []):DV K H (.ref a) (.dict [(.int i,.tuple [])])
inductive dg(K:W.Frag)(H:Hp):List V->List θ->Prop
 |nil:dg K H [] []
 |cons {x:V} {d:θ} {xs:List V} {ds:List θ} (h:DV K H x d) (t:dg K H xs ds):dg K H (x::xs) (d::ds)
end
theorem Same.tup{K:W.Frag}{H H':Hp}{a:Addr}{xs:List V}(e:Same H H')(h:SqT K H a xs):SqT K H' a xs:=by
 rcases h with(h|⟨o,h⟩)|h
 ·exact .inl (.inl (e _ _ h))
 ·exact .inl (.inr ⟨o,e _ _ h⟩)
 ·exact .inr h
theorem dg.same{K:W.Frag}{H H':Hp}(e:Same H H'){xs:List V}{ds:List θ}(h:dg K H xs ds):dg K H' xs ds:=
 dg.rec (motive_1:=fun x d _=>DV K H' x d) (motive_2:=fun xs ds _=>dg K H' xs ds) .non (fun b=> .bl b) (fun i=> .int i) (fun x=> .str x) (fun h _ t=> .tup (e.tup h) t) (fun h _ t=> .lst (e.seq h) t) (fun h=> .dc0 (e _ _ h)) (fun h t=> .dc1 (e _ _ h) (e.tup t)) .nil (fun _ _ h t=> .cons h t) h
theorem Bj{P:ρ}{w:υ}{es:List DictEntry}(h:Pairs (mixKind P w) es []):es=[]:=by
 cases h;rfl
theorem Bh{P:ρ}{w:υ}{es:List DictEntry}{k:Key}{u:ζ}(h:Pairs (mixKind P w) es [(k,u)]):∃e,es=[e]/\keyIs k e.key=true/\e.val=u:=by
 cases h with
 |cons h1 h2 h3=>
  cases h3;exact⟨_,rfl,h1,h2⟩
section
variable{X:Cx}{pins:L1}{σ:St}{H:Hp}{s:η}
theorem BZ(I:Inv X pins σ H s){a:Addr}(h:H a=some (.dK [])):Reads s.heap (.ref a) (.dict []) (a::[]++[])/\(a==sysModules)=false:=by
 obtain⟨_,hne,vs,r0,o,es,ep,e,c,d,_,pr,_⟩:=I.hok _ _ h;cases r0;have hes:es.toList=[]:=Bj pr;refine⟨.dict (kvs:=[]) (as:=[]) (bs:=[]) e c.1 d ?_ ?_,hne⟩
 ·rw[hes];exact .nil
 ·rw[hes];exact .nil
theorem BX(I:Inv X pins σ H s){a b:Addr}{i:Int}(h:H a=some (.dK [(Sum.inl i,.ref b)]))(t:SqT X.K H b []):Reads s.heap (.ref a) (.dict [(.int i,.tuple [])]) (a::([]++[])++([]++[]))/\(a==sysModules)=false:=by
 obtain⟨_,hne,vs,r0,o,es,ep,e,c,d,_,pr,_⟩:=I.hok _ _ h;obtain⟨its,rv,⟨o2,e2,c2,n2,d2⟩,_⟩:=I.tuple t;cases rv;cases r0 with
 | @cons p q ps qs hq tl=>
  cases tl;obtain⟨en,he,hk,hv⟩:=Bh pr;obtain⟨k,u⟩:=q;dsimp only at hq;obtain⟨hk1,hu1⟩:=hq;subst hk1;cases hu1;obtain⟨tk,ek⟩:∃tk,en.key=Value.int i tk:=by
   rcases Ir hk with⟨i',t',e3,e4⟩|⟨x,t',e3,e4⟩
   ·cases e3;exact⟨t',e4⟩
   ·cases e3
  refine⟨.dict (kvs:=[(.int i,.tuple [])]) (as:=[]++[]) (bs:=[]++[]) e c.1 d ?_ ?_,hne⟩
  ·rw[he];show ReadsAll s.heap [en.key] [PyData.int i] _;rw[ek];exact .cons (.int i tk) .nil
  ·rw[he];show ReadsAll s.heap [en.val] [PyData.tuple []] _;rw[hv];exact .cons (.tuple e2 c2 d2 .nil) .nil
theorem Bc(I:Inv X pins σ H s){a:Addr}{xs:List V}{ds:List θ}(h:SqT X.K H a xs)(t:∀{us:List ζ},Vals xs us->∃as,ReadsAll s.heap us ds as){u:ζ}(r:RelV (.ref a) u):∃as,Reads s.heap u (.tuple ds) as:=by
 cases r;obtain⟨its,rv,⟨o,e,c,n,d⟩,_⟩:=I.tuple h;obtain⟨as,ra⟩:=t rv;exact⟨_,.tuple e c d (by simpa using ra)⟩
theorem Bd(I:Inv X pins σ H s){a:Addr}{xs:List V}{ds:List θ}(h:SqL X.K H a xs)(t:∀{us:List ζ},Vals xs us->∃as,ReadsAll s.heap us ds as){u:ζ}(r:RelV (.ref a) u):∃as,Reads s.heap u (.list ds) as:=by
 cases r;obtain⟨its,rv,⟨o,n,e,c,_,d⟩,_⟩:=I.list h;obtain⟨as,ra⟩:=t rv;exact⟨_,.list e c d (by simpa using ra)⟩
theorem DV.reads(I:Inv X pins σ H s){x:V}{d:θ}{u:ζ}(h:DV X.K H x d)(r:RelV x u):∃as,Reads s.heap u d as:=
 DV.rec (motive_1:=fun x d _=>∀{u:ζ},RelV x u->∃as,Reads s.heap u d as) (motive_2:=fun xs ds _=>∀{us:List ζ},Vals xs us->∃as,ReadsAll s.heap us ds as)
  (fun r=>by cases r;exact⟨_,.none⟩) (fun b _ r=>by cases r;exact⟨_,.bool b⟩) (fun i _ r=>by obtain⟨t,rfl⟩:=r;exact⟨_,.int i t⟩) (fun x _ r=>by obtain⟨t,rfl⟩:=r;exact⟨_,.str x t⟩)
  (fun h _ t _ r=>Bc I h t r) (fun h _ t _ r=>Bd I h t r) (fun h _ r=>by cases r;exact⟨_,(BZ I h).1⟩) (fun h t _ r=>by cases r;exact⟨_,(BX I h t).1⟩)
  (fun r=>by cases r;exact⟨_,.nil⟩) (fun _ _ h t _ r=>by
   cases r with
   |cons r rr=>
    obtain⟨as,ra⟩:=h r;obtain⟨bs,rb⟩:=t rr;exact⟨_,.cons ra rb⟩) h r
theorem dg.reads(I:Inv X pins σ H s){xs:List V}{ds:List θ}{us:List ζ}(h:dg X.K H xs ds)(r:Vals xs us):∃as,ReadsAll s.heap us ds as:=
 dg.rec (motive_1:=fun _ _ _=>True) (motive_2:=fun xs ds _=>∀{us:List ζ},Vals xs us->∃as,ReadsAll s.heap us ds as) trivial (fun _=>trivial) (fun _=>trivial) (fun _=>trivial) (fun _ _ _=>trivial) (fun _ _ _=>trivial) (fun _=>trivial) (fun _ _=>trivial)
  (fun r=>by cases r;exact⟨_,.nil⟩) (fun h _ _ t _ r=>by
   cases r with
   |cons r rr=>
    obtain⟨as,ra⟩:=DV.reads I h r;obtain⟨bs,rb⟩:=t rr;exact⟨_,.cons ra rb⟩) h r
end
mutual
def noL:θ->Bool
 | .list _=>false
 | .tuple ds=>Uw ds
 |_=>true
def Uw:List θ->Bool
 |[]=>true
 |d::ds=>noL d&&Uw ds
end
theorem dg.ints{K:W.Frag}{H:Hp}:∀(ns:List Int),dg K H (ns.map V.int) (ns.map PyData.int)
 |[]=> .nil
 |n::ns=> .cons (.int n) (dg.ints ns)
theorem dg.len{K:W.Frag}{H:Hp}{xs:List V}{ds:List θ}(h:dg K H xs ds):xs.length=ds.length:=
 dg.rec (motive_1:=fun _ _ _=>True) (motive_2:=fun xs ds _=>xs.length=ds.length) trivial (fun _=>trivial) (fun _=>trivial) (fun _=>trivial) (fun _ _ _=>trivial) (fun _ _ _=>trivial) (fun _=>trivial) (fun _ _=>trivial) rfl (fun _ _ _ t=>gD Nat.succ t) h
section
variable{X:Cx}
theorem xG(hu:X.A.units+64<cLine):OpR X (compareOp .NotEq) (fun x y H Q=>∃da db,DV X.K H x da/\DV X.K H y db/\da.canLay0=true/\db.canLay0=true/\min da.depth db.depth<=64/\Q (.bl (!PyData.eqv da db)) H):=by
 intro pins s σ H x y v u Q I rx ry h;obtain⟨da,db,hx,hy,ca,cb,hd,q⟩:=h;obtain⟨as,ra⟩:=DV.reads I hx rx;obtain⟨bs,rb⟩:=DV.reads I hy ry;exact SeqAt.rcNeAt_reads ra rb ca cb (by omega) _ _ _ _ ⟨.bl _,H,I,rfl,q⟩
theorem yE:∀{ds:List θ},PyData.canLayAll0 ds=true->∀d∈ds,d.canLay0=true
 |[],_,d,h=>nomatch h
 |e::ds,h,d,hd=>by
  have h':(e.canLay0&&PyData.canLayAll0 ds)=true:=h;rw[CG]at h';rcases dU.mp hd with rfl|hd
  ·exact h'.1
  ·exact yE h'.2 d hd
open Classical in
theorem xH(hu:X.A.units+64<cLine):OpR X (compareOp .In) (fun x y H Q=>∃(p:Addr) (xs:List V) (ds:List θ) (dx:θ),y= .ref p/\(SqL X.K H p xs\/SqT X.K H p xs)/\dg X.K H xs ds/\DV X.K H x dx/\PyData.canLayAll0 ds=true/\dx.canLay0=true/\dx.depth<=60/\
  Q (.bl (ds.any fun d=>PyData.eqv d dx)) H):=by
 intro pins s σ H x y v u Q I rx ry h;obtain⟨p,xs,ds,dx,rfl,hq,hds,hx,ca,cb,hd,q⟩:=h;cases ry;obtain⟨bs,rb⟩:=DV.reads I hx rx;have key:∀{its:List ζ},Vals xs its->(∀y∈its,SeqAt.EqAt X.A.in1 s y v (decide (∃d as,Reads s.heap y d as/\d∈ds/\PyData.eqv d dx=true)))/\(its.any fun y=>decide (∃d as,Reads s.heap y d as/\d∈ds/\PyData.eqv d dx=true))=ds.any fun d=>PyData.eqv d dx:=by
  intro its rv;obtain⟨as,ra⟩:=dg.reads I hds rv;have each:∀{us:List ζ} {es:List θ} {as:List Addr},ReadsAll s.heap us es as->(∀e∈es,e∈ds)->(∀y∈us,SeqAt.EqAt X.A.in1 s y v (decide (∃d as,Reads s.heap y d as/\d∈ds/\PyData.eqv d dx=true)))/\(us.any fun y=>decide (∃d as,Reads s.heap y d as/\d∈ds/\PyData.eqv d dx=true))=es.any fun d=>PyData.eqv d dx:=by
   intro us
   induction us with
   |nil=>intro es as h _;cases h;exact⟨(fun y hy=>(nomatch hy)),rfl⟩
   |cons y us ih=>
    intro es as h hs;cases h with
    | @cons _ _ d ds' as' bs' r rr=>
     obtain⟨i1,i2⟩:=ih rr fun e he=>hs e (eV _ he);have cl:=yE ca d (hs d gG);have e:decide (∃d as,Reads s.heap y d as/\d∈ds/\PyData.eqv d dx=true)=PyData.eqv d dx:=by
      rw[wI,Dq];constructor
      ·rintro⟨d',as'',r',_,q'⟩;obtain⟨rfl,_⟩:=(PySem.Reads.unique r _ _ r');exact q'
      ·intro q';exact⟨d,_,r,hs d gG,q'⟩
     refine⟨fun z hz=> ?_,?_⟩
     ·rcases dU.mp hz with rfl|hz
      ·rw[e];exact SeqAt.eqAt_reads d dx _ s _ _ _ _ r rb cl cb (by show X.A.units+1+min d.depth dx.depth<cLine;omega)
      ·exact i1 z hz
     ·rw[Tw,Tw,i2,e]
  exact each ra fun e he=>he
 rcases hq with hq|hq
 ·obtain⟨its,r,pl,hz⟩:=I.list hq;obtain⟨k1,k2⟩:=key r;refine SeqAt.in_listAt _ pl.isList (fun w hw=>k1 w (by simpa using hw)) ⟨.bl _,H,I,rfl,?_⟩;rw[show∀f:ζ->Bool,its.toArray.any f=its.any f from fun f=>by simp,k2];exact q
 ·obtain⟨its,r,pl,hz⟩:=I.tuple hq;obtain⟨k1,k2⟩:=key r;refine SeqAt.in_tupleAt _ pl (fun w hw=>k1 w (by simpa using hw)) ⟨.bl _,H,I,rfl,?_⟩;rw[show∀f:ζ->Bool,its.toArray.any f=its.any f from fun f=>by simp,k2];exact q
theorem Px:OpR X (compareOp .Is) (fun x y H Q=>∃a b,x= .bl a/\y= .bl b/\Q (.bl (a==b)) H):=by
 intro pins s σ H x y v u Q I rx ry h;obtain⟨a,b,rfl,rfl,q⟩:=h;cases rx;cases ry;exact is_bool ⟨.bl _,H,I,rfl,q⟩
theorem gW:OpR X (binaryOp .FloorDiv) (rI (fun _ j=>0<j/\j<1000000000000000000000000000000) fun i j=> .int (i/j)):=opI fun i j _ _ _ _ _ hc q=>by
 have h1:(0:Int)<j:=hc.1;have h2:j<1000000000000000000000000000000:=hc.2;refine floordiv_int (by omega) ?_ (Or.inl (wey ?_))
 ·rw[Yh _ (by omega)];exact q
 ·have h3:j.natAbs≠0:=by omega
  have h4:j.natAbs<2^100:=by
   have:(2:Nat)^100=1267650600228229401496703205376:=by decide
   omega
  have:=(Nat.log2_lt h3).mpr h4;omega
noncomputable def Nb(K:W.Frag):R2:=fun x y H Q=>∃a b xs ys,x= .ref a/\y= .ref b/\SqT K H a xs/\SqT K H b ys/\xs.length+ys.length<=sizeLine/\∀r H',Same H H'->SqT K H' r (xs++ys)->Q (.ref r) H'
theorem JX:OpR X (binaryOp .Add) (Nb X.K):=by
 intro pins s σ H x y v u Q I rx ry h;obtain⟨a,b,xs,ys,rfl,rfl,ha,hb,hz,q⟩:=h;by_cases hx:xs=[]
 ·subst hx;cases rx;cases ry;obtain⟨its,r1,p1,_⟩:=I.tuple ha;obtain⟨its2,r2,p2,_⟩:=I.tuple hb;cases r1;obtain⟨⟨cls,dd,data,sl⟩,ho,hc,n,hd⟩:=id p1;obtain⟨⟨cls2,dd2,data2,sl2⟩,ho2,hc2,n2,hd2⟩:=id p2;simp only at hc hd hc2 hd2;subst hc hd hc2 hd2;exact concat_meets ⟨_,ho,rfl⟩ ⟨_,ho2,rfl⟩ YD seq_tuple_add Za Ze (Zj _ _)
   (tuple_addW0 a b _ _ n n2 dd dd2 sl sl2 (by simp)) ⟨ho,ho2,⟨.ref b,H,I,rfl,q b H (Same.refl _) hb⟩⟩
 ·refine op_catT pins s σ H _ _ v u Q I rx ry ⟨a,b,xs,ys,rfl,rfl,ha,hb,hx,hz,fun e=> ?_,fun e p hp=> ?_⟩
  ·subst e;exact q a H (Same.refl _) (by rw[Cu];exact ha)
  ·exact q p _ (fun c o e=>by rw[cG (mZ e hp)];exact e) (SqT.of aR)
end
section
variable{X:Cx}{tg:Expr}
noncomputable def Qq(K:W.Frag)(tl:TE):TI:=fun σ H R=>tl σ H fun x H1=>∃a xs,x= .ref a/\SqL K H1 a xs/\(xs.length<=sizeLine->R (Itl K a) H1)
noncomputable def U6(K:W.Frag)(tl:TE):TI:=fun σ H R=>tl σ H fun x H1=>∃a xs,x= .ref a/\SqT K H1 a xs/\(xs.length<=sizeLine->R (Itt K a) H1)
theorem CV{l:Expr}{tl:TE}(hl:PE X l tl):PI X tg l (Qq X.K tl):=by
 intro pins s σ H R I h;refine thn (hl pins s σ H _ I h) fun v s1 ⟨x,H1,I1,r1,q1⟩=> ?_;obtain⟨a,xs,e,hq,q⟩:=q1;subst e;cases r1;obtain⟨its,rv,p,hz⟩:=I1.list hq;refine TJ p.isList ?_;refine⟨s1.heap.objs.size,[s1.heap.objs.size],_,_,H1,rfl,I1.kept (t':=s1.toks) fun b o e=>dH _ e,turn_list a _,⟨_,jE _ rfl,rfl,rfl⟩,fun b hb=> ?_,q hz⟩;have e:b=s1.heap.objs.size:=by simpa using hb
 subst e;exact I1.fpOk (aB _) (I1.hok.fresh (aB _))
theorem Jg{l:Expr}{tl:TE}(hl:PE X l tl):PI X tg l (U6 X.K tl):=by
 intro pins s σ H R I h;refine thn (hl pins s σ H _ I h) fun v s1 ⟨x,H1,I1,r1,q1⟩=> ?_;obtain⟨a,xs,e,hq,q⟩:=q1;subst e;cases r1;obtain⟨its,rv,p,hz⟩:=I1.tuple hq;refine wpAny_pyIter_tuple (show s1.heap.IsTuple a its.toArray from p) ?_;refine⟨s1.heap.objs.size,[s1.heap.objs.size],_,_,H1,rfl,I1.kept (t':=s1.toks) fun b o e=>dH _ e,turn_tuple a _,⟨_,jE _ rfl,rfl,rfl⟩,fun b hb=> ?_,q hz⟩;have e:b=s1.heap.objs.size:=by simpa using hb
 subst e;exact I1.fpOk (aB _) (I1.hok.fresh (aB _))
theorem v7:CallR X (.builtin "len") (fun xs H Q=>∃p ys,xs=[.ref p]/\(SqL X.K H p ys\/SqT X.K H p ys)/\(ys.length<=16777216->Q (.int ys.length) H)):=by
 intro pins s σ H xs us Q I r h;obtain⟨p,ys,rfl,hq,q⟩:=h;have hz:ys.length<=16777216:=by
  rw[<-gA];rcases hq with hq|hq
  ·exact(I.list hq).choose_spec.2.2
  ·exact(I.tuple hq).choose_spec.2.2
 exact call_len_seq pins s σ H _ us Q I r ⟨p,ys,rfl,hq,q hz⟩
end
mutual
inductive DX(K:W.Frag)(H:Hp):V->θ->Prop
 |non:DX K H .non .none
 |bl (b:Bool):DX K H (.bl b) (.bool b)
 |int (i:Int):DX K H (.int i) (.int i)
 |str (x:Str):DX K H (.str x) (.str x)
 |tup {a:Addr} {xs:List V} {ds:List θ} (h:SqT K H a xs) (t:pW K H xs ds):DX K H (.ref a) (.tuple ds)
 |lst {a:Addr} {xs:List V} {ds:List θ} (h:SqL K H a xs) (t:pW K H xs ds):DX K H (.ref a) (.list ds)
 |dct {a:Addr} {kvs:List (Key×V)} (ds:List (θ×θ)) (h:H a=some (.dK kvs)):DX K H (.ref a) (.dict ds)
inductive pW(K:W.Frag)(H:Hp):List V->List θ->Prop
 |nil:pW K H [] []
 |cons {x:V} {d:θ} {xs:List V} {ds:List θ} (h:DX K H x d) (t:pW K H xs ds):pW K H (x::xs) (d::ds)
end
theorem DX.same{K:W.Frag}{H H':Hp}(e:Same H H'){x:V}{d:θ}(h:DX K H x d):DX K H' x d:=
 DX.rec (motive_1:=fun x d _=>DX K H' x d) (motive_2:=fun xs ds _=>pW K H' xs ds) .non (fun b=> .bl b) (fun i=> .int i) (fun x=> .str x) (fun h _ t=> .tup (e.tup h) t) (fun h _ t=> .lst (e.seq h) t) (fun ds h=> .dct ds (e _ _ h)) .nil (fun _ _ h t=> .cons h t) h
theorem pW.same{K:W.Frag}{H H':Hp}(e:Same H H'){xs:List V}{ds:List θ}(h:pW K H xs ds):pW K H' xs ds:=
 pW.rec (motive_1:=fun x d _=>DX K H' x d) (motive_2:=fun xs ds _=>pW K H' xs ds) .non (fun b=> .bl b) (fun i=> .int i) (fun x=> .str x) (fun h _ t=> .tup (e.tup h) t) (fun h _ t=> .lst (e.seq h) t) (fun ds h=> .dct ds (e _ _ h)) .nil (fun _ _ h t=> .cons h t) h
theorem DV.dx{K:W.Frag}{H:Hp}{x:V}{d:θ}(h:DV K H x d):DX K H x d:=
 DV.rec (motive_1:=fun x d _=>DX K H x d) (motive_2:=fun xs ds _=>pW K H xs ds) .non (fun b=> .bl b) (fun i=> .int i) (fun x=> .str x) (fun h _ t=> .tup h t) (fun h _ t=> .lst h t) (fun h=> .dct [] h) (fun h _=> .dct _ h) .nil (fun _ _ h t=> .cons h t) h
noncomputable def uW:θ->String
 | .none=>"NoneType"
 | .bool _=>"bool"
 | .int _=>"int"
 | .str _=>"str"
 | .list _=>"list"
 | .tuple _=>"tuple"
 | .dict _=>"dict"
theorem DX.kind{K:W.Frag}{H:Hp}:∀{x:V} {d:θ},DX K H x d->Ob K H x (uW d)
 |_,_,.non=>rfl
 |_,_,.bl _=>rfl
 |_,_,.int _=>rfl
 |_,_,.str _=>rfl
 |_,_,.tup h _=> .inl ⟨rfl,_,h⟩
 |_,_,.lst h _=> .inr (.inl ⟨rfl,_,h⟩)
 |_,_,.dct _ h=> .inr (.inr ⟨rfl,_,h⟩)
theorem pW.len{K:W.Frag}{H:Hp}{xs:List V}{ds:List θ}(h:pW K H xs ds):xs.length=ds.length:=
 pW.rec (motive_1:=fun _ _ _=>True) (motive_2:=fun xs ds _=>xs.length=ds.length) trivial (fun _=>trivial) (fun _=>trivial) (fun _=>trivial) (fun _ _ _=>trivial) (fun _ _ _=>trivial) (fun _ _=>trivial) rfl (fun _ _ _ t=>gD Nat.succ t) h
theorem pW.get{K:W.Frag}{H:Hp}:∀{xs:List V} {ds:List θ} {i:Nat} {x:V},pW K H xs ds->xs[i]? =some x->∃d,ds[i]? =some d/\DX K H x d
 |_,_,_,_,.nil,e=>by simp at e
 |_,_,0,_,.cons h _,e=>by simp at e;subst e;exact⟨_,rfl,h⟩
 |_,_,i+1,x,.cons _ t,e=>by
  obtain⟨d,h1,h2⟩:=pW.get (i:=i) t (by simpa using e);exact⟨d,by simpa using h1,h2⟩
structure cZ(K:W.Frag)(mg:L4)(x:Str)(st:Stmt)(ps:List Str)(f:Addr)(fd:τ):Prop where
 F:Fun K x x st f fd
 b:Binds K fd ps []
 m:mg x=some (.ref f)
theorem pc{X:Cx}{x:Str}{st:Stmt}{ps:List Str}{f:Addr}{fd:τ}{j k:Nat}{sp:Sp}{E:XK}{e:Expr}{es:List Expr}{t:TA}{p pos:Pos}(F:FnOk X.prog X.w X.K X.mg X.base CX0 j f fd ps sp)(hr:Room k X.A)(D:cZ X.K X.mg x st ps f fd)(ha:PA X (e::es) t)(hj:j<=k:=by first |decide|omega)(hg:Gl X x:=by rfl)(hx:Passes CX0 X E:=by exact pass0)(hdb:(x==("__debug__":Str))=false:=by decide)(he:starEach (e::es) X.env=(false,eval e X.env)::starEach es X.env:=by rfl)(hpl:(backTo pos (starEach es X.env)).any (·.1)=false:=by rfl):PE X (.Call (.Name x p) (e::es) [] pos) (tCall sp [] E t):=pe_call (F.mono hj) hr hg D.m D.F.kp D.b .nil hx ha hdb he hpl
theorem fsc{N P:List Str}{sc:Scope}(a:sc.kind= .function:=by rfl)(b:sc.isCoroutine=false:=by rfl)(c:sc.isGenerator=false:=by rfl)(d:N.Nodup:=by decide+kernel)(e:N.take P.length=P:=by rfl)(f:∀x∈P,sc.names.lookup x=some .local\/sc.names.lookup x=some .cell:=by decide+kernel)(g:∀y∈sc.names,y.2≠.free:=by decide+kernel):FnScope N P sc:=⟨a,b,c,d,e,f,g⟩
theorem Fun.eF{P:ρ}{w:υ}{K:W.Frag}{mg:L4}{base:Heap}{x qual:Str}{st:Stmt}{f:Addr}{fd:τ}{ps:List Str}{k:Nat}{sp:Sp}(F:Fun K x qual st f fd)(N:List Str)(hb:∀(cdv:ζ) (A:Around) (outer:List Env) (s:η) (H:Hp) (vs:List V) (Q:VK) (E:XK),Room k (A.deeper (PyProof.Rows.envOfC qual (defScope st) s.heap.objs.size f cdv))->sp vs H Q E->
   ∃t,PSs (cxOf CX0 P w K mg base N qual (defScope st) f cdv A outer s H E).nox (defBody st) t/\t {nx:=fun _ H'=>Q .non H',rt:=Q} (start N vs) H)(S:FnScope N ps (defScope st):=by exact fsc)(len:∀vs H Q E,sp vs H Q E->vs.length=ps.length:=by intro _ _ _ _ h;repeat(first |(obtain⟨rfl,_⟩:=h;rfl)|obtain⟨_,h⟩:=h)):FnOk P w K mg base CX0 (k+1) f fd ps sp:=F.ok S len hb
theorem bO{H:Hp}{p:Addr}(h:H p=none)(o:HO):Same H (upd H p o):=fun b u q=>by rw[cG (mZ q h)];exact q
end L2
namespace wk
open PySem L2
noncomputable def nP:θ->Bool
 | .int _=>true
 |_=>false
noncomputable def bR(n:Int):θ->Bool
 | .int i=>decide (0<=i)&&decide (i<n)
 |_=>false
noncomputable def intD:θ->Int
 | .int i=>i
 |_=>0
noncomputable def kids:θ->List θ
 | .tuple ds=>ds
 |_=>[]
noncomputable def gQ(ns:List Int):Bool:=(List.range (ns.length-1)).all fun k=>decide (ns.getD k 0<ns.getD (k+1) 0)
noncomputable def gP(ts:List (List Int)):Bool:=(List.range (ts.length-1)).all fun k=>HT.lexLt (ts.getD k []) (ts.getD (k+1) [])
noncomputable def rD(n:Int):θ->Bool
 | .tuple ds=>ds.all (bR n)&&gQ (ds.map intD)
 |_=>false
noncomputable def jd(n:Int)(d:θ):Bool:=rD n d&&decide ((kids d).length=2)
noncomputable def nR(n:Int):θ->Bool
 | .tuple ds=>ds.all (jd n)&&gP (ds.map fun t=>(kids t).map intD)
 |_=>false
noncomputable def qZ:θ->Bool
 | .tuple [n,t]=>nP n&&(decide (0<=intD n)&&decide (intD n<=10))&&nR (intD n) t
 |_=>false
theorem xq{n:Int}:∀{d:θ},bR n d=true->∃i,d= .int i/\0<=i/\i<n
 | .int i,h=>⟨i,rfl,by simpa[bR]using h⟩
end wk
namespace L2
open PySem PySem.Spec PyProof.Rows
section
variable{X:Cx}
theorem nF(K:W.Frag)(h:X.K=K:=by rfl):IxR X (rIxT K):=by subst h;exact nH
theorem dM(K:W.Frag)(h:X.K=K:=by rfl):IxR X (rIxL K):=by subst h;exact lN
theorem Ce(K:W.Frag)(h:X.K=K:=by rfl):CallR X (.builtin "len") (fun xs H Q=>∃p ys,xs=[.ref p]/\(SqL K H p ys\/SqT K H p ys)/\(ys.length<=16777216->Q (.int ys.length) H)):=by subst h;exact v7
theorem JW(K:W.Frag)(hu:X.A.units<cLine)(h:X.K=K:=by rfl):OpR X (compareOp .Lt) (rLtT K):=by subst h;exact op_ltT hu
theorem jR(K:W.Frag)(hu:X.A.units+64<cLine)(h:X.K=K:=by rfl):OpR X (compareOp .In) (fun x y H Q=>∃(p:Addr) (xs:List V) (ds:List θ) (dx:θ),y= .ref p/\(SqL K H p xs\/SqT K H p xs)/\dg K H xs ds/\DV K H x dx/\PyData.canLayAll0 ds=true/\dx.canLay0=true/\dx.depth<=60/\
  Q (.bl (ds.any fun d=>PyData.eqv d dx)) H):=by subst h;exact xH hu
theorem eE(K:W.Frag){es:List Expr}{k:Nat}{t:TGs}{n:Nat}{pos:Pos}(hc:X.calm=true)(h:PGs X es t)(hn:(assignEach es X.env).length=n:=by rfl)(hst:(assignEach es X.env).findIdx? (·.1)=none:=by rfl)(hK:X.K=K:=by rfl):PG X (.Tuple es k pos) (gTup K n t):=by subst hK;exact pg_tup hc h hn hst
end
section
variable{X:Cx}{p:Pos}
noncomputable def gH(n:Nat):List V:=(List.range n).map fun(k:Nat)=>V.int (k:Int)
theorem wK:∀{n:Nat} {us:List ζ},us.length=n->(∀(j:Nat) (u:ζ),us[j]? =some u->∃t:Tok,u=Value.int (0+((j:Nat):Int)*1) t)->Vals (gH n) us:=by
 intro n us hl hi;have go:∀(us:List ζ) (k:Nat),(∀(j:Nat) (u:ζ),us[j]? =some u->∃t:Tok,u=Value.int (0+((j+k:Nat):Int)*1) t)->Vals ((List.range' k us.length).map fun(k:Nat)=>V.int (k:Int)) us:=by
  intro us
  induction us with
  |nil=>intro k _;exact .nil
  |cons u us ih=>
   intro k h;obtain⟨t,e⟩:=h 0 u rfl;refine .cons ⟨t,?_⟩ (ih (k+1) fun j u' hj=> ?_)
   ·rw[e];congr 1;omega
   ·obtain⟨t',e'⟩:=h (j+1) u' (by simpa using hj);refine⟨t',?_⟩;rw[e'];congr 1;omega
 have:=go us 0 (fun j u hj=>by obtain⟨t,e⟩:=hi j u hj;exact⟨t,by rw[e];rfl⟩);unfold gH;rw[List.range_eq_range',<-hl];exact this
open Classical in
theorem qF(hu:X.A.units+64<cLine):OpR X (compareOp .NotIn) (fun x y H Q=>∃(p:Addr) (xs:List V) (ds:List θ) (dx:θ),y= .ref p/\(SqL X.K H p xs\/SqT X.K H p xs)/\dg X.K H xs ds/\DV X.K H x dx/\PyData.canLayAll0 ds=true/\dx.canLay0=true/\dx.depth<=60/\
  Q (.bl (!(ds.any fun d=>PyData.eqv d dx))) H):=by
 intro pins s σ H x y v u Q I rx ry h;obtain⟨p,xs,ds,dx,rfl,hq,hds,hx,ca,cb,hd,q⟩:=h;cases ry;obtain⟨bs,rb⟩:=DV.reads I hx rx;have key:∀{its:List ζ},Vals xs its->(∀y∈its,SeqAt.EqAt X.A.in1 s y v (decide (∃d as,Reads s.heap y d as/\d∈ds/\PyData.eqv d dx=true)))/\(its.any fun y=>decide (∃d as,Reads s.heap y d as/\d∈ds/\PyData.eqv d dx=true))=ds.any fun d=>PyData.eqv d dx:=by
  intro its rv;obtain⟨as,ra⟩:=dg.reads I hds rv;have each:∀{us:List ζ} {es:List θ} {as:List Addr},ReadsAll s.heap us es as->(∀e∈es,e∈ds)->(∀y∈us,SeqAt.EqAt X.A.in1 s y v (decide (∃d as,Reads s.heap y d as/\d∈ds/\PyData.eqv d dx=true)))/\(us.any fun y=>decide (∃d as,Reads s.heap y d as/\d∈ds/\PyData.eqv d dx=true))=es.any fun d=>PyData.eqv d dx:=by
   intro us
   induction us with
   |nil=>intro es as h _;cases h;exact⟨(fun y hy=>(nomatch hy)),rfl⟩
   |cons y us ih=>
    intro es as h hs;cases h with
    | @cons _ _ d ds' as' bs' r rr=>
     obtain⟨i1,i2⟩:=ih rr fun e he=>hs e (eV _ he);have cl:=yE ca d (hs d gG);have e:decide (∃d as,Reads s.heap y d as/\d∈ds/\PyData.eqv d dx=true)=PyData.eqv d dx:=by
      rw[wI,Dq];constructor
      ·rintro⟨d',as'',r',_,q'⟩;obtain⟨rfl,_⟩:=(PySem.Reads.unique r _ _ r');exact q'
      ·intro q';exact⟨d,_,r,hs d gG,q'⟩
     refine⟨fun z hz=> ?_,?_⟩
     ·rcases dU.mp hz with rfl|hz
      ·rw[e];exact SeqAt.eqAt_reads d dx _ s _ _ _ _ r rb cl cb (by show X.A.units+1+min d.depth dx.depth<cLine;omega)
      ·exact i1 z hz
     ·rw[Tw,Tw,i2,e]
  exact each ra fun e he=>he
 rcases hq with hq|hq
 ·obtain⟨its,r,pl,hz⟩:=I.list hq;obtain⟨k1,k2⟩:=key r;refine SeqAt.notIn_listAt _ pl.isList (fun w hw=>k1 w (by simpa using hw)) ⟨.bl _,H,I,rfl,?_⟩;rw[show∀f:ζ->Bool,its.toArray.any f=its.any f from fun f=>by simp,k2];exact q
 ·obtain⟨its,r,pl,hz⟩:=I.tuple hq;obtain⟨k1,k2⟩:=key r;refine SeqAt.notIn_tupleAt _ pl (fun w hw=>k1 w (by simpa using hw)) ⟨.bl _,H,I,rfl,?_⟩;rw[show∀f:ζ->Bool,its.toArray.any f=its.any f from fun f=>by simp,k2];exact q
end
end L2
namespace PySem
open Sem (wp)
open Builtin
open AutoSeq1 (wpAny_loadPart')
theorem lD:fillsNumberSlot (.type "tuple") "mul"=pure false:=
 fillsNumberSlot_seq (id:="tuple.__mul__") (r:=some (.builtin "tuple.__rmul__")) F.slot_tuple_mul.lookup (by decide+kernel) F.slot_tuple_rmul.lookup (by decide+kernel)
theorem rF:seqRepeat? (.type "tuple")=pure (some (.builtin "tuple.__mul__")):=by
 unfold seqRepeat?;rw[seqSlot_of (T:="tuple") (name:="__mul__") (id:="tuple.__mul__") F.slot_tuple_mul.lookup (by decide+kernel),seqSlot_of (T:="tuple") (name:="__rmul__") (id:="tuple.__rmul__") F.slot_tuple_rmul.lookup (by decide+kernel)];rfl
theorem rT(a:Int)(t:Tok)(l:Addr)(items:Array ζ)(n:Nat)(d:Option Addr)(sl:Array (Option ζ)):
  Meets (Builtin.«int.__rmul__» ⟨[.int a t,.ref l],[]⟩) (fun _ R s=>s.heap.get? l=some {cls:= .type "tuple",dict:=d,data:= .seq items n,slots:=sl}/\R (.ok (.ret Value.notImplemented)) s):=
 .of_wp fun prog w A R s h=>by obtain⟨hp,g,d,tk,os⟩:=s;obtain⟨hl,h⟩:=h;wp_walk;exact⟨_,rfl,h⟩
theorem tup_mul_1(l:Addr)(items:Array ζ)(n:Nat)(d:Option Addr)(sl:Array (Option ζ))(x:Int)(u:Tok)(hx:x=1):
  Meets (Builtin.«tuple.__mul__» ⟨[.ref l,.int x u],[]⟩) (fun _ R s=>s.heap.get? l=some {cls:= .type "tuple",dict:=d,data:= .seq items n,slots:=sl}/\R (.ok (.ret (Value.ref l))) s):=
 .of_wp fun prog w A R s h=>by
  subst hx;obtain⟨hp,g,d,tk,os⟩:=s;obtain⟨hl,h⟩:=h;have f1:=Yz
  wp_walk using wpAny_loadPart' hl;exact⟨_,rfl,h⟩
theorem tup_mul_0(l:Addr)(items:Array ζ)(n:Nat)(d:Option Addr)(sl:Array (Option ζ))(x:Int)(u:Tok)(hx:x<=0)(hlo: -(2^63)<=x)(hne:items.isEmpty=false):
  Meets (Builtin.«tuple.__mul__» ⟨[.ref l,.int x u],[]⟩) (fun _ R s=>s.heap.get? l=some {cls:= .type "tuple",dict:=d,data:= .seq items n,slots:=sl}/\R (.ok (.ret (Value.ref s.heap.objs.size))) {s with heap:=s.heap.push {cls:=Value.type "tuple",data:=Data.seq #[]},toks:=s.toks}):=
 .of_wp fun prog w A R s h=>by
  obtain⟨hp,g,d,tk,os⟩:=s;obtain⟨hl,h⟩:=h;have f1:=Yz;have c1:¬((decide (x< -(2^63))||decide (x≥2^63))=true):=by simp;omega
  have c2:¬((items.isEmpty||x==1)=true):=by rw[hne];simp;omega
  have c3:(decide (x<=0)||items.isEmpty)=true:=by rw[hne];simp;omega
  wp_walk using wpAny_loadPart' hl;rw[aj c1];wp_walk using wpAny_loadPart' hl;rw[aj c2];wp_walk using wpAny_loadPart' hl;exact⟨_,rfl,h⟩
theorem Ar(l:Addr)(items:Array ζ)(n:Nat)(d:Option Addr)(sl:Array (Option ζ))(x:Int)(u:Tok)(hx:1<x)(hhi:x<2^63)(hne:items.isEmpty=false)(hsz:items.size*x.toNat<=1000):
  Meets (Builtin.«tuple.__mul__» ⟨[.ref l,.int x u],[]⟩) (fun _ R s=>s.heap.get? l=some {cls:= .type "tuple",dict:=d,data:= .seq items n,slots:=sl}/\R (.ok (.ret (Value.ref s.heap.objs.size))) {s with heap:=s.heap.push {cls:=Value.type "tuple",data:=Data.seq (List.foldl (fun x1 x2=>x1++x2) #[] (List.replicate x.toNat items))},toks:=s.toks}):=
 .of_wp fun prog w A R s h=>by
  obtain⟨hp,g,d,tk,os⟩:=s;obtain⟨hl,h⟩:=h;have f1:=Yz;have c1:¬((decide (x< -(2^63))||decide (x≥2^63))=true):=by simp;omega
  have c2:¬((items.isEmpty||x==1)=true):=by rw[hne];simp;omega
  have c3:¬((decide (x<=0)||items.isEmpty)=true):=by rw[hne];simp;omega
  have hxs:(items.size:Int)*x=((items.size*x.toNat:Nat):Int):=by rw[Yu,SQ (by omega)]
  have c4:¬((items.size:Int)*x>(2^63-1)/8):=by rw[hxs];omega
  have c5:¬(Builtin.Tuple.tupleTooMany ((items.size:Int)*x)=true):=by
   rw[hxs];intro z;have z':((items.size*x.toNat:Nat):Int)>(sizeLine:Int):=kJ z;have:=gA;generalize items.size*x.toNat=m at *;omega
  have htake:(List.foldl (fun x1 x2=>x1++x2) #[] (List.replicate x.toNat items)).size<=sizeLine:=by
   have e:List.foldl (fun x1 x2=>x1++x2) #[] (List.replicate x.toNat items)=(List.replicate x.toNat items.toList).flatten.toArray:=by
    have:=PyProof.Rows.listMul_foldl_if items x.toNat;rw[aj (by rw[hne];simp)]at this;exact this
   rw[e,dW];have:(List.replicate x.toNat items.toList).flatten.length=x.toNat*items.size:=by simp
   rw[this,Og,gA];omega
  wp_walk using wpAny_loadPart' hl;rw[aj c1];wp_walk using wpAny_loadPart' hl;rw[aj c2];wp_walk using wpAny_loadPart' hl;rw[aj c3]
  try dsimp only
  rw[aj c4]
  try dsimp only
  rw[aj c5]
  try dsimp only
  unfold Builtin.Tuple.tupleExact;refine aq (Jb (aO ?_) htake);exact⟨_,rfl,h⟩
end PySem
namespace L2
open PySem PySem.Spec PyProof.Rows
section
variable{X:Cx}{p p' pos pos':Pos}{a:Expr}{ta:TA}
theorem Vals.Ui{xs:List V}{us:List ζ}(h:Vals xs us):∀k:Nat,Vals (List.replicate k xs).flatten (List.replicate k us).flatten
 |0=> .nil
 |k+1=>by rw[Dd,Dd,LQ,LQ];exact h.append (Vals.Ui h k)
noncomputable def Uk(K:W.Frag):R2:=fun x y H Q=>∃a k xs,x= .ref a/\y= .int k/\SqT K H a xs/\xs≠[]/\ -(2^63)<=k/\k<2^63/\xs.length*k.toNat<=1000/\∀r H',Same H H'->SqT K H' r (List.replicate k.toNat xs).flatten->Q (.ref r) H'
theorem zK:OpR X (binaryOp .Mult) (Uk X.K):=by
 intro pins s σ H x y v u Q I rx ry h;obtain⟨a,k,xs,rfl,rfl,ha,hne,h1,h2,hz,q⟩:=h;cases rx;obtain⟨t,rfl⟩:=ry;obtain⟨its,r1,p1,_⟩:=I.tuple ha;obtain⟨⟨cls,dd,data,sl⟩,ho,hc,n,hd⟩:=id p1;simp only at hc hd;subst hc hd;have hlen:=r1.length;have hem:its.toArray.isEmpty=false:=by
  cases its with
  |nil=>cases r1;exact absurd rfl hne
  |cons _ _=>rfl
 have road:∀{S:PySem.Spec},Meets (Builtin.«tuple.__mul__» ⟨[.ref a,.int k t],[]⟩) S->S X.A (wants (EP X pins σ Q) X.xe) s->wpAny (model X.prog X.w) X.A (binaryOp .Mult (.ref a) (.int k t)) (EP X pins σ Q) X.xe s:=fun M hS=>
  wpAny_binaryOp_repeat_ref (T:="tuple") (U:="int") (by decide) ⟨_,ho,rfl⟩ (fun s'=>Tg s' k t) lD F.fills_int_mul W3 rF F.slot_int_index.lookup
   (Js W3 (Tg s k t) F.entry_int_rmul (F.args_int_rmul_2 _ _) (rT k t a its.toArray n dd sl)
    ⟨ho,rfl,⟨_,ho,rfl⟩,Js F.slot_tuple_mul ⟨_,ho,rfl⟩ F.entry_tuple_mul (F.args_tuple_mul_2 _ _) M hS⟩)
 by_cases c1:k=1
 ·refine road (tup_mul_1 a its.toArray n dd sl k t c1) ⟨ho,⟨.ref a,H,I,rfl,q a H (Same.refl _) ?_⟩⟩;subst c1;have:(List.replicate (1:Int).toNat xs).flatten=xs:=by simp
  rw[this];exact ha
 by_cases c0:k<=0
 ·refine road (tup_mul_0 a its.toArray n dd sl k t c0 h1 hem) ⟨ho,?_⟩;have e0:k.toNat=0:=by omega
  refine⟨.ref s.heap.objs.size,_,I.laid (t':=s.toks) (o:= .tup []) (fun b ob q=>dH _ q) (aB _) ⟨cg _,[],.nil,IsTup.new _ _⟩,rfl,q _ _ (fun c o e=>by rw[cG (mZ e (I.hok.fresh (aB _)))];exact e) ?_⟩;rw[e0];exact SqT.of aR
 ·have hsz:its.toArray.size*k.toNat<=1000:=by rw[dW,<-hlen];exact hz
  refine road (Ar a its.toArray n dd sl k t (by omega) h2 hem hsz) ⟨ho,?_⟩;have hnew:List.foldl (fun x1 x2=>x1++x2) #[] (List.replicate k.toNat its.toArray)=(List.replicate k.toNat its).flatten.toArray:=by
   have:=foldl_rep its k.toNat [];rw[List.nil_append]at this;exact this
  rw[hnew];have hz':(List.replicate k.toNat xs).flatten.length<=sizeLine:=by
   rw[len_rep,Og];exact dD hz (by rw[gA];decide)
  refine⟨.ref s.heap.objs.size,_,I.laid (t':=s.toks) (o:= .tup (List.replicate k.toNat xs).flatten) (fun b ob q=>dH _ q) (aB _) ⟨hz',_,Vals.Ui r1 k.toNat,IsTup.new _ _⟩,rfl,q _ _ (fun c o e=>by rw[cG (mZ e (I.hok.fresh (aB _)))];exact e) (SqT.of aR)⟩
noncomputable def T6(ta:TA):TE:=fun σ H Q=>ta σ H fun vs H1=>∃j:Int,vs=[.int j]/\0<=j/\j<=16777216/\∀l,H1 l=none->Q (.ref l) (upd H1 l (.lst (gH j.toNat)))
theorem lY(hc:X.calm=true)(hgT:Gl X "list")(hmT:X.mg "list"=none)(hg:Gl X "range")(hm:X.mg "range"=none)(ha:PA X [a] ta)(hs:starEach [a] X.env=[(false,eval a X.env)]:=by rfl)(hs2:starEach [Expr.Call (.Name "range" p') [a] [] pos'] X.env=[(false,eval (Expr.Call (.Name "range" p') [a] [] pos') X.env)]:=by rfl):
  PE X (.Call (.Name "list" p) [.Call (.Name "range" p') [a] [] pos'] [] pos) (T6 ta):=by
 intro pins s σ H Q I h;refine Ms (wz I hgT hmT (show bootBuiltins "list"=some (.type "list")from by decide+kernel) ?_ (by decide) (by decide));refine Dt ?_ hs2 rfl;rw[hs2];refine TY ?_;refine Call_ (wz I hg hm boot_range (Dt (thn (ha pos' pins s σ H _ I h) fun us s1 ⟨vs,H1,I1,r1,q1⟩=> ?_) hs rfl));obtain⟨j,e,q1,q2,q⟩:=q1;subst e;cases r1 with
 |cons r rr=>
  cases rr;obtain⟨t,rfl⟩:=r;refine call_range_1 ?_;refine TX ?_;have hn:Builtin.Range.rangeSize 0 j 1=((j.toNat:Nat):Int):=by rw[rangeSize_one];split<;>omega
  refine call_list_range (I.ok.hd hc) (IsRange.new ..) (small_one (by decide) (by decide) (by omega) (by omega)) hn (by omega) fun h' tk acc c hk hS hacc=> ?_;have hv:Vals (gH j.toNat) acc.toList:=wK (by rw[mJ];exact hacc.1) (fun i u hu=>hacc.2 i u (by simpa using hu));have hz:(gH j.toNat).length<=sizeLine:=by unfold gH;rw[gA];simp;omega
  have I2:Inv X pins σ H1 {s1 with heap:=s1.heap.push {cls:=Value.type "range",data:=Data.fields #[Value.int 0 s1.toks,Value.int j t,Value.int 1 (s1.toks+1)]},toks:=s1.toks+1+1}:=I1.kept fun b o e=>dH _ e;exact⟨.ref _,_,I2.laid (t':=tk) (o:= .lst (gH j.toNat)) hk (aB _) ⟨hz,acc.toList,c,hv,by simpa using hS⟩,rfl,q _ (I2.hok.fresh (aB _))⟩
end
section
variable{X:Cx}{pins:L1}{σ:St}{H:Hp}{s:η}{h':Heap}
theorem Inv.Aq{t':Nat}{fp:List Addr}{T:Addr}{o:HO}(I:Inv X pins σ H s)(k:∀b o,b∉fp->s.heap.get? b=some o->h'.get? b=some o)(hf:∀b∈fp,FpOk X pins H b)(hT:s.heap.objs.size<=T)(new:ObjOk X.prog X.w (upd H T o) h' T o):
  Inv X pins σ (upd H T o) {s with heap:=h',toks:=t'}:=by
 have hTn:H T=none:=I.hok.fresh hT;have Ux:∀b u,H b=some u->b∉fp:=fun b u e z=>by rw[(hf b z).1]at e;cases e
 have neT:∀b o,s.heap.get? b=some o->b≠T:=fun b o e=>cN (gq (cO e) hT);have Uy:∀b u,H b=some u->b≠T:=fun b u e z=>by rw[z,hTn]at e;cases e
 refine I.step (g':=s.gens) (d':=s.drawn) (ch:=fp) (fun b hb=> ?_) (fun b o _ _ hc e _=>k b o hc e) (fun b o _ _ hc e _=>⟨o.slots,k b o hc e⟩) (fun b o _ e n=>by rw[cG (neT b o e)];exact n)
  (fun b o hc e=>⟨o,k b o hc e⟩) (fun b xs e=>by rw[cG (Uy b _ e)];exact e) (fun b o u e=>by rw[cG (Uy b _ e)];exact e) (fun b ps e=>⟨#[],by rw[cG (Uy b _ e),e];simp⟩) (fun m hm=> ?_) (fun b u e=> ?_) I.bare
 ·obtain⟨f0,f1,f2,f3,f4,f5⟩:=hf b hb;exact⟨f3,f1,f4,f5⟩
 ·obtain⟨o,es,ep,ho,r⟩:=hm;exact⟨o,es,ep,k _ o (fun z=>(hf _ z).2.1 rfl) ho,r⟩
 ·by_cases hb:b=T
  ·subst hb;rw[aR]at e;cases e;exact new
  ·rw[cG hb]at e;refine(I.hok b u e).stay (fun c v hc q=>k c v ?_ q) (fun c q=>by rw[cG (Uy c _ q)];exact q) fun c xs q=>by rw[cG (Uy c _ q)];exact q
   rcases hc with z|z
   ·rw[z];exact Ux b u e
   ·exact Ux c _ z
theorem Inv.turns{t':Nat}{fp:List Addr}(I:Inv X pins σ H s)(k:∀b o,b∉fp->s.heap.get? b=some o->h'.get? b=some o)(hf:∀b∈fp,FpOk X pins H b):Inv X pins σ H {s with heap:=h',toks:=t'}:=by
 have Ux:∀b u,H b=some u->b∉fp:=fun b u e z=>by rw[(hf b z).1]at e;cases e
 refine I.step (g':=s.gens) (d':=s.drawn) (ch:=fp) (fun b hb=> ?_) (fun b o _ _ hc e _=>k b o hc e) (fun b o _ _ hc e _=>⟨o.slots,k b o hc e⟩) (fun b o _ e n=>n)
  (fun b o hc e=>⟨o,k b o hc e⟩) (fun b xs e=>e) (fun b o u e=>e) (fun b ps e=>⟨#[],by rw[e];simp⟩) (fun m hm=> ?_) (fun b u e=> ?_) I.bare
 ·obtain⟨f0,f1,f2,f3,f4,f5⟩:=hf b hb;exact⟨f3,f1,f4,f5⟩
 ·obtain⟨o,es,ep,ho,r⟩:=hm;exact⟨o,es,ep,k _ o (fun z=>(hf _ z).2.1 rfl) ho,r⟩
 ·refine(I.hok b u e).stay (fun c v hc q=>k c v ?_ q) (fun c q=>q) fun c xs q=>q;rcases hc with z|z
  ·rw[z];exact Ux b u e
  ·exact Ux c _ z
end
noncomputable def RX(K:W.Frag)(b:Bool)(H:Hp)(a:Addr)(xs:List V):Prop:=match b with
 |false=>SqL K H a xs
 |true=>SqT K H a xs
noncomputable def Ite(K:W.Frag)(b:Bool)(a:Addr)(xs:List V):It:=
 ⟨fun i H=>RX K b H a xs/\i<xs.length,fun i H x H'=>∃t v,x= .ref t/\H t=none/\H'=upd H t (.tup [.int (i:Int),v])/\xs[i]? =some v,fun i H=>RX K b H a xs/\i=xs.length⟩
theorem wL{P:ρ}{w:υ}{K:W.Frag}{es:List Expr}{k:Nat}{pos:Pos}(a e it:Addr)(xs:List V)(hne:e≠it):
  Turn P w K (.Tuple es k pos) (Ite K false a xs) [e,it] e (fun i h=>(∃old,IsEnum h e it (i:Int) old)/\h.IsListIter it a i) where
 mem:=by simp
 obj:=fun i h st b hb=>by
  obtain⟨⟨old,he⟩,o,e1,c,d⟩:=st;rcases dU.mp hb with z|hb
  ·subst z;exact⟨_,he,fun v z=>by cases z⟩
  ·have z:b=it:=by simpa using hb
   subst z;exact⟨o,e1,fun v z=>by rw[d]at z;cases z⟩
 keep:=fun i h h' st k=>⟨st.1.imp fun old he=>k e (by simp) _ he,st.2.at fun o e=>k it (by simp) o e⟩
 item:=by
  intro X hP hw hK hc i pins s σ H E I hf st hg;subst hP hw hK;obtain⟨hq0,hi⟩:=hg;have hq:SqL X.K H a xs:=hq0;obtain⟨its,rv,p,hz⟩:=I.list hq;have hx:xs[i]? =some xs[i]:=dJ hi;obtain⟨u,hu,ru⟩:=rv.get hx;obtain⟨⟨old,he⟩,hit⟩:=st;refine wpAny_pyNext_enum_item he hit p.isList (x:=u) (by simpa using hu) hne fun h1 ho hit1 hT hsz hk=>⟨_,rfl,?_⟩;refine wpAny_letOwnedTupleGo_enum ho fun h2 he2 hs2=> ?_;have Qu:Heap.SameBut e h1 h2:=hs2;have nTe:s.heap.objs.size≠e:=fun z=>absurd (cO he) (by rw[<-z];exact tL _);have keep:∀b o,b∉[e,it]->s.heap.get? b=some o->h2.get? b=some o:=fun b o hb q=>(Qu.2 b fun z=>hb (by simp[z])).trans (hk b o (fun z=>hb (by simp[z])) (fun z=>hb (by simp[z])) q);have hT2:h2.get? s.heap.objs.size=some {cls:= .type "tuple",data:= .seq #[.int i s.toks,u]}:=(Qu.2 _ nTe).trans hT;have I2:=I.Aq (h':=h2) (t':=s.toks+1) (o:= .tup [.int (i:Int),xs[i]]) keep hf (aB _) ⟨(by show 2<=sizeLine;decide),[.int i s.toks,u],.cons ⟨_,rfl⟩ (.cons ru .nil),_,hT2,rfl,_,rfl⟩;exact⟨.ref s.heap.objs.size,_,I2,rfl,⟨_,_,rfl,I.hok.fresh (aB _),rfl,hx⟩,⟨⟨_,by simpa using he2⟩,hit1.at fun o q=>(Qu.2 it hne.symm).trans q⟩,fun b hb=>by
   rw[cG (fun z=> ?_)]
   ·exact(hf b hb).1
   ·obtain⟨_,q1,_⟩:=hit;rcases dU.mp hb with y|y
    ·exact nTe (z.symm.trans y)
    ·have y:b=it:=by simpa using y
     rw[<-y,z]at q1;exact absurd (cO q1) (tL _)⟩
 done:=by
  intro X hP hw hK hc i pins s σ H E I hf st hg;subst hP hw hK;obtain⟨hq0,hi⟩:=hg;have hq:SqL X.K H a xs:=hq0;obtain⟨its,rv,p,hz⟩:=I.list hq;have hl:=rv.length;obtain⟨⟨old,he⟩,hit⟩:=st;exact wpAny_pyNext_enum_end (I.ok.hd hc) he hit p.isList (by simp;omega) fun h' eb=>⟨rfl,I.turns (t':=s.toks) (fp:=[e,it]) (fun b o hb q=>eb b o (fun z=>hb (by simp[z])) q) hf⟩
 self:=fun _ _ _ _ _ st h=>by
  obtain⟨⟨old,he⟩,_⟩:=st;exact wpAny_pyIter_enum he h
section
variable{ini:St}{H:Hp}{g:TG}{tc:TT}{te:TE}{Fin:List V->Hp->Prop}{K:W.Frag}{b:Bool}{a:Addr}{xs:List V}
theorem iK(Pv:Nat->List V->St->Hp->Prop)(h0:Pv 0 [] ini H)(hl:∀(i:Nat) acc σ H,i<=xs.length->Pv i acc σ H->RX K b H a xs)(hz:∀(i:Nat) acc σ H,i<=xs.length->Pv i acc σ H->acc.length<=i)(hx:xs.length<=sizeLine)(hs:∀(i:Nat) v t acc σ H,xs[i]? =some v->Pv i acc σ H->H t=none->g (.ref t) σ (upd H t (.tup [.int (i:Int),v])) fun σ2 H2=>tc σ2 H2 fun b H3=>if b=true then te σ2 H3 fun v H4=>Pv (i+1) (acc++[v]) σ2 H4 else Pv (i+1) acc σ2 H3)(hd:∀acc σ H,Pv xs.length acc σ H->Fin acc H):vV (Ite K b a xs) ini H g tc te Fin:=by
 refine⟨fun i m acc σ H=>m=xs.length-i/\i<=xs.length/\Pv i acc σ H,⟨xs.length,by simp,cg _,h0⟩,?_⟩;rintro i m acc σ H ⟨rfl,hi,p⟩;have q:=hl i acc σ H hi p;have z:=hz i acc σ H hi p;by_cases hlt:i<xs.length
 ·refine .inr ⟨⟨q,hlt⟩,by omega,fun acc σ H=>Pv (i+1) acc σ H,fun acc' σ' H' r=>⟨_,by omega,rfl,hlt,r⟩,fun x H' y=> ?_⟩;obtain⟨t,v,rfl,ht,rfl,hv⟩:=y;exact hs i v t acc σ H hv p ht
 ·have e:i=xs.length:=by omega
  subst e;exact .inl ⟨⟨q,rfl⟩,by omega,hd acc σ H p⟩
end
section
variable{X:Cx}
theorem JB{l:List Int}{k:Int}(h:k∈l):step_dedup l k=l:=by unfold step_dedup;simp[h]
theorem DG{l:List Int}{k:Int}(h:¬k∈l):step_dedup l k=l++[k]:=by unfold step_dedup;simp[h]
theorem V8(ns:List Int):∀(i:Nat),i<=ns.length->∀k,k∈firstMet (fun i=>ns.getD i 0) i↔k∈ns.take i
 |0,_,k=>by rw[firstMet_zero,List.take_zero]
 |i+1,h,k=>by
  have ih:=V8 ns i (by omega) k;have e1:ns.getD i 0=ns[i]:=by simp[show i<ns.length by omega]
  rw[wfi,IW,dJ (by omega),pI,<-ih]
  try dsimp only
  rw[e1];by_cases hm:ns[i]∈firstMet (fun i=>ns.getD i 0) i
  ·rw[JB hm];constructor
   ·exact .inl
   ·rintro(z|z)
    ·exact z
    ·have:k=ns[i]:=by simpa using z
     rw[this];exact hm
  ·rw[DG hm,pI];simp
theorem Ek(K:W.Frag)(h:X.K=K:=by rfl):SlR X (rSlL K):=by subst h;exact sl_list
theorem Fl(K:W.Frag)(h:X.K=K:=by rfl):OpR X (binaryOp .Add) (Nb K):=by subst h;exact JX
end
theorem yh:∀(names:List (Str×NameKind)) (n:Nat) (acc:List (Str×Addr)) {x:Str} {c:Addr},(x,c)∈cellsFrom n names acc->(x,c)∈acc\/((x,NameKind.cell)∈names/\n<=c)
 |[],_,_,_,_,h=> .inl h
 |(nm,k)::r,n,acc,x,c,h=>by
  unfold cellsFrom at h;split at h
  ·rename_i hk;have ek:k=NameKind.cell:=by simpa using hk
   rcases yh r _ _ h with q|⟨q,m⟩
   ·rcases dU.mp q with e|e
    ·cases e;subst ek;exact .inr ⟨gG,aB _⟩
    ·exact .inl e
   ·exact .inr ⟨eV _ q,by omega⟩
  ·rcases yh r _ _ h with q|⟨q,m⟩
   ·exact .inl q
   ·exact .inr ⟨eV _ q,m⟩
theorem sS:∀(names:List (Str×NameKind)) (n:Nat) (acc:List (Str×Addr)) {p:Str×Addr},p∈acc->p∈cellsFrom n names acc
 |[],_,_,_,h=>h
 |(nm,k)::r,n,acc,p,h=>by
  unfold cellsFrom;split
  ·exact sS r _ _ (eV _ h)
  ·exact sS r _ _ h
theorem yp:∀(names:List (Str×NameKind)) (n:Nat) (acc:List (Str×Addr)) {x:Str},(x,NameKind.cell)∈names->∃c,(x,c)∈cellsFrom n names acc
 |(nm,k)::r,n,acc,x,h=>by
  unfold cellsFrom;rcases dU.mp h with e|e
  ·cases e;rw[ak (show(NameKind.cell==NameKind.cell)=true from rfl)];exact⟨n,sS r _ _ gG⟩
  ·split
   ·exact yp r _ _ e
   ·exact yp r _ _ e
theorem yj{n0:Nat}:∀(names:List (Str×NameKind)) (n:Nat) (acc:List (Str×Addr)),n0<=n->(∀x y c,(x,c)∈acc->(y,c)∈acc->n0<=c->x=y)->(∀x c,(x,c)∈acc->c<n)->∀x y c,(x,c)∈cellsFrom n names acc->(y,c)∈cellsFrom n names acc->n0<=c->x=y
 |[],_,_,_,h,_=>h
 |(nm,k)::r,n,acc,hn,h,hl=>by
  unfold cellsFrom;split
  ·refine yj r (n+1) ((nm,n)::acc) (by omega) (fun x y c hx hy hc=> ?_) (fun x c hx=> ?_)
   ·rcases dU.mp hx with e1|e1<;>rcases dU.mp hy with e2|e2
    ·cases e1;cases e2;rfl
    ·cases e1;exact absurd (hl _ _ e2) (tL _)
    ·cases e2;exact absurd (hl _ _ e1) (tL _)
    ·exact h x y c e1 e2 hc
   ·rcases dU.mp hx with e1|e1
    ·cases e1;exact pL _
    ·exact m6 (hl _ _ e1)
  ·exact yj r n acc hn h hl
theorem sO:∀(names:List (Str×NameKind)) (h:Heap) (acc:List (Str×Addr)) {x:Str} {c:Addr},(x,c)∈cellsFrom h.objs.size names acc->(x,c)∈acc\/(pushCells h names).IsCell c none
 |[],_,_,_,_,h=> .inl h
 |(nm,k)::r,h,acc,x,c,hm=>by
  unfold cellsFrom at hm;unfold pushCells;split at hm
  ·rename_i hk;rw[ak hk];have hm':(x,c)∈cellsFrom (h.push {cls:= .type "cell",data:= .cell none}).objs.size r ((nm,h.objs.size)::acc):=by rw[wF];exact hm
   rcases sO r (h.push {cls:= .type "cell",data:= .cell none}) _ hm' with q|q
   ·rcases dU.mp q with e|e
    ·cases e;exact .inr ⟨_,W0 _ _ _ _ (jE _ rfl),rfl⟩
    ·exact .inl e
   ·exact .inr q
  ·rename_i hk;rw[aj hk];exact sO r h acc hm
theorem Kc{M:Model}{A:Around}{E:L3}{s:η}{scope:Scope}{globals:Addr}{closure:List (Str×Addr)}{qual:Str}{env:Env}{Q:Env->η->Prop}(hQ:Q (newEnv scope s.heap.objs.size globals (cellsFrom (s.heap.objs.size+1) scope.names closure) qual none Value.none (some env) 0) {s with heap:=pushCells (s.heap.push {cls:= .type "dict",data:= .dict #[]}) scope.names}):
  wpAny M A (newFunctionEnv scope globals closure [] qual none .none (some env)) Q E s:=by
 simp only[newFunctionEnv,Option.isSome_some,Ja];refine aq (wpAny_alloc ?_);refine aq (wpAny_layCells _ (fun name kind cells=>by cases hkc:kind==NameKind.cell<;>simp[hkc]) _ _ _ _ ?_);rw[List.forIn_nil];refine aq (aO (aO ?_));rw[show({s with heap:=s.heap.push {cls:= .type "dict",data:= .dict #[]}}:η).heap.objs.size=s.heap.objs.size+1 from wF ..];exact hQ
noncomputable def aG(sc scope:Scope):Bool:=scope.names.all fun p=>(p.2 !=NameKind.cell||scope.names.lookup p.1==some NameKind.cell)&&(p.2 !=NameKind.local||scope.names.lookup p.1==some NameKind.local)&&
 (p.2 !=NameKind.free||(scope.names.lookup p.1==some NameKind.free&&(sc.names.lookup p.1==some NameKind.cell||sc.names.lookup p.1==some NameKind.free)))
section
variable{sc scope:Scope}
theorem aG.cell(h:aG sc scope=true){x:Str}(hy:(x,NameKind.cell)∈scope.names):scope.names.lookup x=some .cell:=by
 have q:=pJ.mp h _ hy;simpa using q
theorem aG.names(h:aG sc scope=true):∀y∈scope.names,y.2= .local->scope.names.lookup y.1=some .local:=fun y hy e=>by
 have q:=pJ.mp h y hy;simpa[e]using q
theorem aG.free(h:aG sc scope=true){x:Str}(hy:(x,NameKind.free)∈scope.names):scope.names.lookup x=some .free/\(sc.names.lookup x=some .cell\/sc.names.lookup x=some .free):=by
 have q:=pJ.mp h _ hy;simpa using q
end
theorem uI{scope:Scope}{env:Env}{x:Str}(h:(relabel scope env).names.lookup x=some .cell\/(relabel scope env).names.lookup x=some .free):(x,NameKind.free)∈scope.names\/(x,NameKind.cell)∈scope.names:=by
 cases e:scope.names.lookup x with
 |none=>
  have q:=oH (env:=env) e;rcases h with h|h
  ·rw[show(relabel scope env).names.lookup x=none from q]at h;cases h
  ·rw[show(relabel scope env).names.lookup x=none from q]at h;cases h
 |some k=>
  have q:=jm (env:=env) e;have m:=Dr e;by_cases hk:k= .free
  ·subst hk;exact .inl m
  ·have q':(relabel scope env).names.lookup x=some k:=by
    refine Eq.trans q ?_;have:(k==NameKind.free)=false:=by simpa using hk
    simp[this]
   rw[q']at h;rcases h with h|h
   ·cases h;exact .inr m
   ·cases h;exact absurd rfl hk
noncomputable def bA(X:Cx)(scope:Scope)(N:List Str)(s:η)(H:Hp)(cl:List (Str×Addr))(C:Addr)(ex:List Addr):Cx:=
 {X with N:=N,s₀:=s,H₀:=H,env:=compEnvC scope cl C X.env,outer:=X.stack,ex:=ex,fn:=fun x=>scope.names.lookup x==some NameKind.cell,pn:=[],xe:=fun _ _=>False}
section
variable{X:Cx}{tg iter elt:Expr}{ifs:List Expr}{scope:Scope}{pos:Pos}{own caps:List Str}{ix:List Nat}{g:TG}{tc:TT}{te:TE}
noncomputable abbrev CJ(X:Cx)(scope:Scope)(C:Addr):List (Str×Addr):=cellsFrom (C+1) scope.names (iR X.env.cells scope.names [])
theorem sJ{pins:L1}{s:η}{σ:St}{H:Hp}{C:Addr}(ck:aG X.env.scope scope=true)(I:Inv X pins σ H s){x:Str}{c:Addr}(e:(CJ X scope C).lookup x=some c):
  (X.env.cells.lookup x=some c/\(x,NameKind.free)∈scope.names)\/((x,NameKind.cell)∈scope.names/\C<c/\(x,c)∉iR X.env.cells scope.names []):=by
 have old:(x,c)∈iR X.env.cells scope.names []->X.env.cells.lookup x=some c/\(x,NameKind.free)∈scope.names:=fun q=>by
  rcases j7 q with q|⟨q,mm⟩
  ·cases q
  ·obtain⟨d,hd⟩:=I.ok.has x (aG.free ck mm).2;rw[hd]at q;have q:c=d:=q;rw[q];exact⟨hd,mm⟩
 rcases yh _ _ _ (Dr e)with q|⟨q,m⟩
 ·exact .inl (old q)
 ·refine .inr ⟨q,m,fun z=> ?_⟩;have h1:=aG.cell ck q;have h2:=(aG.free ck (old z).2).1;rw[h1]at h2;cases h2
theorem vH{pins:L1}{s s':η}{σ:St}{H:Hp}{fp:List Addr}{C:Addr}{m:L4}(ck:aG X.env.scope scope=true)(hkind:scope.kind= .function)(hcap:fZ X scope caps ix)
  (I:Inv X pins σ H s)(f2:∀b∈fp,FpOk X pins H b)(hlt:∀b∈fp,b<s.heap.objs.size)(hC:s.heap.objs.size<=C)(hos:s'.os=s.os)(hg:AllBare s'.gens)(hk:∀b o,s.heap.get? b=some o->s'.heap.get? b=some o)(hn:s'.heap.Ns C m)(hcl:∀x c,(CJ X scope C).lookup x=some c->(x,c)∉iR X.env.cells scope.names []->s'.heap.IsCell c none):
  Inv (bA X scope (own++caps) s H (CJ X scope C) C fp) [] (u5 own ix σ) H s':=by
 have cl1:=fun x c e=>sJ (C:=C) (x:=x) (c:=c) ck I e;have zL:∀x c,X.env.cells.lookup x=some c->c<s.heap.objs.size:=fun x c e=>by
  obtain⟨v,o,ho,_⟩:=I.cell x c e;exact cO ho
 have cl2:∀x,(x,NameKind.free)∈scope.names\/(x,NameKind.cell)∈scope.names->∃c,(CJ X scope C).lookup x=some c:=fun x mm=>by
  rcases mm with mm|mm
  ·obtain⟨c,hc⟩:=vL (cells:=X.env.cells) (acc:=[]) mm;obtain⟨d,hd,_⟩:=Wa (sS scope.names (C+1) _ hc);exact⟨d,hd⟩
  ·obtain⟨c,hc⟩:=yp scope.names (C+1) (iR X.env.cells scope.names []) mm;obtain⟨d,hd,_⟩:=Wa hc;exact⟨d,hd⟩
 have inj:∀x y c,(CJ X scope C).lookup x=some c->(CJ X scope C).lookup y=some c->x=y:=fun x y c h1 h2=>by
  rcases cl1 x c h1 with⟨q1,_⟩|⟨q1,m1,_⟩<;>rcases cl1 y c h2 with⟨q2,_⟩|⟨q2,m2,_⟩
  ·exact I.ok.inj x y c q1 q2
  ·exact absurd (Iw (gq (zL x c q1) hC) m2) (tL _)
  ·exact absurd (Iw (gq (zL y c q2) hC) m1) (tL _)
  ·refine yj (n0:=C+1) scope.names (C+1) _ (aB _) (fun x y c hx hy hc=> ?_) (fun x c hx=> ?_) x y c (Dr h1) (Dr h2) m1
   ·obtain⟨d,hd,_⟩:=Wa hx;rcases j7 hx with q|⟨q,mm⟩
    ·cases q
    ·obtain⟨d,hd⟩:=I.ok.has x (aG.free ck mm).2;rw[hd]at q;have q:c=d:=q;subst q;exact absurd (gq (gq (zL x c hd) hC) (cD hc)) (tL _)
   ·rcases j7 hx with q|⟨q,mm⟩
    ·cases q
    ·obtain⟨d,hd⟩:=I.ok.has x (aG.free ck mm).2;rw[hd]at q;have q:c=d:=q;subst q;exact m6 (gq (zL x c hd) hC)
 have bsz:X.base.objs.size<=s.heap.objs.size:=dD I.ok.bsz I.sz;refine⟨⟨I.ok.mod,hkind,I.ok.glob,I.ok.blt,hC,inj,fun x hx=>cl2 x (uI hx),fun x c h e=> ?cab,I.ok.hd,I.ok.frames,.inl rfl,fun b hb=>⟨cN (gq (hlt b hb) hC),fun x c e=> ?exf⟩,I.bs,bsz,
  fun b o e hb=> ?_,fun b hb hz=> ?_,I.stack,I.stkFree⟩,?_,hg,Un.kept hk,⟨m,hn,fun i x v h1 h2 h3=> ?_⟩,fun x c e=> ?_,I.hok.fresh hC,fun x c e=> ?frc,fun p hp=>absurd (show p∈([]:L1)from hp) (by simp),I.hok.kept hk,?_⟩
 case cab=>
  rcases cl1 x c e with⟨_,q⟩|⟨_,q,_⟩
  ·have y1:=(aG.free ck q).1;have y2:(scope.names.lookup x==some NameKind.cell)=true:=h;rw[y1]at y2;exact absurd y2 (by decide)
  ·exact dD hC (cD q)
 case exf=>
  rcases cl1 x c e with⟨q,_⟩|⟨_,q,_⟩
  ·exact(f2 b hb).2.2.2.2.1 x c q
  ·exact iU (cN (Iw (gq (hlt b hb) hC) q))
 case frc=>
  rcases cl1 x c e with⟨q,_⟩|⟨_,q,_⟩
  ·exact I.freeC x c q
  ·exact I.hok.fresh (dD hC (cD q))
 ·rcases(f2 b hb).2.2.2.1 with z|z
  ·exact I.ok.noex b o e z
  ·exact absurd (gq (cO e) (dD I.ok.bsz z)) (tL _)
 ·rcases dU.mp (I.stkSub b hz)with z|z
  ·exact(f2 b hb).2.1 z
  ·exact(f2 b hb).2.2.1 z
 ·exact hos
 ·have h1:(own++caps)[i]? =some x:=h1;have h2:(own.map (fun _=>(none:Option V))++ix.map fun j=>(σ[j]?).join)[i]? =some (some v):=h2;by_cases hi:i<own.length
  ·rw[Yg (by simpa using hi),dX]at h2;cases e:own[i]? <;>rw[e]at h2<;>simp at h2
  ·rw[Ws (by simpa using hi)]at h2;rw[Ws (by omega)]at h1;rw[aH]at h2;obtain⟨j,e1,e2,e3⟩:=hcap.get h1;rw[dX,e1]at h2;have h2':(σ[j]?).join=some v:=by simpa using h2
   have h4:σ[j]? =some (some v):=by
    cases q:σ[j]? with
    |none=>rw[q]at h2';cases h2'
    |some w=>rw[q]at h2';exact gD some h2'
   obtain⟨m0,hn0,hl0⟩:=I.loc;have mm:=Dr e3;have vis:=(aG.free ck mm).2;obtain⟨u,r,l⟩:=hl0 j x v e2 h4 (.inr vis);refine⟨u,r,.inr ?_⟩;rcases l with⟨k,_⟩|⟨k,c,e,z⟩
   ·rcases vis with q|q
    ·rw[show X.env.kindOf x=some .cell from q]at k;cases k
    ·rw[show X.env.kindOf x=some .free from q]at k;cases k
   ·obtain⟨d,hd⟩:=cl2 x (.inl mm);rcases cl1 x d hd with⟨this,_⟩|⟨qc,_⟩
    ·rw[e]at this;cases this;exact⟨w6 e3,c,hd,z.keeps hk⟩
    ·have y1:=aG.cell ck qc;rw[e3]at y1;cases y1
 ·rcases cl1 x c e with⟨q,_⟩|⟨_,_,q⟩
  ·obtain⟨v,z⟩:=I.cell x c q;exact⟨v,z.keeps hk⟩
  ·exact⟨none,hcl x c e q⟩
 ·show(own.map (fun _=>(none:Option V))++ix.map fun j=>(σ[j]?).join).length=(own++caps).length;simp[hcap.len]
theorem oW(ck:aG X.env.scope scope=true)(hkind:scope.kind= .function)(hcap:fZ X scope caps ix)(hc:X.calm=true)(hg:∀s H cl C ex,PG (bA X scope (own++caps) s H cl C ex) tg g)(ht:∀s H cl C ex,N7 (bA X scope (own++caps) s H cl C ex) ifs tc)(he:∀s H cl C ex,PE (bA X scope (own++caps) s H cl C ex) elt te){pins:L1}{s2:η}{σ:St}{H2:Hp}{E:L3}(I2:Inv X pins σ H2 s2){it:Addr}{fp:List Addr}{tn:Nat->Heap->Prop}{J:It}(T:Turn X.prog X.w X.K tg J fp it tn)(st2:tn 0 s2.heap)(f2:∀b∈fp,FpOk X pins H2 b)
  {W:Nat->Nat->List V->St->Hp->Prop}{m0:Nat}(w0:W 0 m0 [] (u5 own ix σ) H2){Fin:List V->Hp->Prop}(turn:∀i m acc σ H,W i m acc σ H->(J.stop i H/\acc.length<=sizeLine/\Fin acc H)\/(J.go i H/\acc.length<sizeLine/\∃N:List V->St->Hp->Prop,(∀acc' σ' H',N acc' σ' H'->∃m',m'<m/\W (i+1) m' acc' σ' H')/\∀x H',J.yld i H x H'->g x σ H' fun σ2 H2=>tc σ2 H2 fun b H3=>
   if b=true then te σ2 H3 fun v H4=>N (acc++[v]) σ2 H4 else N acc σ2 H3))
  {RR:ζ->Addr->Result->η->Prop}(hRR:∀D C s' acc Hf m,Inv X pins σ (upd Hf D (.lst acc)) s'->Hf D=none->s'.heap.Ns C m->FpOk X pins (upd Hf D (.lst acc)) C->Fin acc Hf->RR (.ref D) C (.ok .next) s'):
  wpAny (model X.prog X.w) X.A (newList []) (fun acc s₃=>wpAny (model X.prog X.w) X.A (newFunctionEnv scope X.env.globals (iR X.env.cells scope.names []) [] X.env.qual none .none (some X.env)) (fun cenv s₄=>
   codeAny (model X.prog X.w) X.A (.compStart (.ListComp elt [⟨tg,iter,ifs,0⟩] scope pos) 0 (.ref it) acc {cenv with scope:=relabel scope X.env}) (RR acc cenv.locals) s₄) E s₃) E s2:=by
 refine Jb (Kc ?_);generalize hP:s2.heap.push {cls:= .type "list",dict:=none,data:= .seq ([]:List ζ).toArray}=P1;have hC:P1.objs.size=s2.heap.objs.size+1:=by rw[<-hP,wF]
 have hlt:∀b∈fp,b<s2.heap.objs.size:=fun b hb=>by
  obtain⟨o,e,_⟩:=T.obj _ _ st2 b hb;exact cO e
 generalize hh1:pushCells (P1.push {cls:= .type "dict",data:= .dict #[]}) scope.names=h₁;have hns₁:h₁.Ns P1.objs.size (fun _=>none):=by rw[<-hh1];exact(Heap.Ns.new P1 (.type "dict")).keeps (W0 _ _)
 have old:∀b o,s2.heap.get? b=some o->h₁.get? b=some o:=fun b o e=>by
  rw[<-hh1];exact W0 _ _ b o (dH _ (hP▸dH _ e))
 have hD1:h₁.get? s2.heap.objs.size=some {cls:= .type "list",data:= .seq ([]:List ζ).toArray 0}:=by
  rw[<-hh1];exact W0 _ _ _ _ (dH _ (hP▸jE _ rfl))
 have Vf:∀x c,(CJ X scope P1.objs.size).lookup x=some c->(x,c)∉iR X.env.cells scope.names []->h₁.IsCell c none:=fun x c e n=>by
  have e':(x,c)∈cellsFrom (P1.objs.size+1) scope.names (iR X.env.cells scope.names []):=Dr e;rw[show P1.objs.size+1=(P1.push {cls:= .type "dict",data:= .dict #[]}).objs.size from(wF ..).symm]at e';rcases sO _ _ _ e' with q|q
  ·exact absurd q n
  ·rw[<-hh1];exact q
 show codeAny (model X.prog X.w) X.A (.compStart (.ListComp elt [⟨tg,iter,ifs,0⟩] scope pos) 0 (.ref it) (.ref s2.heap.objs.size) {newEnv scope P1.objs.size X.env.globals (CJ X scope P1.objs.size) X.env.qual none Value.none (some X.env) 0 with scope:=relabel scope X.env}) (RR (.ref s2.heap.objs.size) P1.objs.size) {s2 with heap:=h₁};generalize KJ:s2.heap.objs.size=D at *;rw[hC]at hns₁ Vf⊢;have entry:Inv (bA X scope (own++caps) s2 H2 (CJ X scope (D+1)) (D+1) fp) [] (u5 own ix σ) H2 {s2 with heap:=h₁}:=
  vH ck hkind hcap I2 f2 (by rw[KJ];exact hlt) (by rw[KJ];exact Jk _) rfl I2.bare old hns₁ Vf
 generalize hX':bA X scope (own++caps) s2 H2 (CJ X scope (D+1)) (D+1) fp=X' at entry;have eP:X'.prog=X.prog:=by rw[<-hX'];rfl
 have ew:X'.w=X.w:=by rw[<-hX'];rfl
 have eK:X'.K=X.K:=by rw[<-hX'];rfl
 have eA:X'.A=X.A:=by rw[<-hX'];rfl
 have NQ:X'.calm=true:=by rw[<-hX'];exact hc
 have efs:X'.fs=frs X.stack:=by rw[<-hX'];rfl
 have eex:X'.ex=fp:=by rw[<-hX'];rfl
 have epn:X'.pn=[]:=by rw[<-hX'];rfl
 have es0:X'.s₀=s2:=by rw[<-hX'];rfl
 have eH0:X'.H₀=H2:=by rw[<-hX'];rfl
 have exe:X'.xe=fun _ _=>False:=by rw[<-hX'];rfl
 have La:X'.env=compEnvC scope (CJ X scope (D+1)) (D+1) X.env:=by rw[<-hX'];rfl
 have Ht:X'.env.locals=D+1:=by rw[La];rfl
 have hg':PG X' tg g:=by rw[<-hX'];exact hg _ _ _ _ _
 have ht':N7 X' ifs tc:=by rw[<-hX'];exact ht _ _ _ _ _
 have he':PE X' elt te:=by rw[<-hX'];exact he _ _ _ _ _
 have ecl:∀x c,X'.env.cells.lookup x=some c->c≠D:=fun x c e=>by
  rw[La]at e;rcases sJ (C:=D+1) ck I2 e with⟨q,_⟩|⟨_,q,_⟩
  ·obtain⟨v',o',ho',_⟩:=I2.cell x c q;exact cN (by rw[<-KJ];exact cO ho')
  ·exact iU (cN (Iw (pL D) q))
 have dfs:D∉frs X.stack:=fun hb=>by
  rcases dU.mp (I2.stkSub D hb)with z|z
  ·exact absurd (Nat.lt_of_lt_of_eq I2.lt KJ) (by rw[z];exact tL _)
  ·exact I2.nofs (tW KJ) z
 have fpn:∀{H':Hp} {o:Obj},(∀b∈fp,H' b=none)->∀b∈fp,FpOk X' [(D,o)] H' b:=fun{H' o} hn b hb=>by
  have hbl:=hlt b hb;refine⟨hn b hb,by rw[Ht];exact cN (m6 hbl),?_,.inl (by rw[eex];exact hb),fun x c e=> ?_,fun p hp=> ?_⟩
  ·rw[efs];intro z;rcases dU.mp (I2.stkSub b z)with z|z
   ·exact(f2 b hb).2.1 z
   ·exact(f2 b hb).2.2.1 z
  ·rw[La]at e;rcases sJ (C:=D+1) ck I2 e with⟨q,_⟩|⟨_,q,_⟩
   ·exact(f2 b hb).2.2.2.2.1 x c q
   ·exact iU (cN (Iw (m6 hbl) q))
  ·rw[epn]at hp;have:p=(D,o):=by simpa using hp
   rw[this];exact Iz hbl
 have Pu:∀{σ':St} {H':Hp} {s':η} {o:Obj},Inv X' [] σ' H' s'->s'.heap.get? D=some o->H' D=none->(∀v,o.data≠.cell v)->Inv X' [(D,o)] σ' H' s':=fun{σ' H' s' o} I e n d=>
  I.pins_of fun p hp=>by
   have:p=(D,o):=by simpa using hp
   subst this;exact⟨e,n,by rw[Ht];exact cN (pL D),by rw[efs];exact dfs,d⟩
 have loop:∀s₃:η,s₃={s2 with heap:=h₁}->
   codeAny (model X.prog X.w) X.A (.compLoop (.ListComp elt [⟨tg,iter,ifs,0⟩] scope pos) 0 (.ref it) (.ref D) X'.env) (RR (.ref D) (D+1)) s₃:=by
  intro s₃ hs₃;refine codeAny_loop rfl (fun n s'=>∃i acc its k σ' H',Inv X' [] σ' H' s'/\tn i s'.heap/\(∀b∈fp,H' b=none)/\s'.heap.get? D=some {cls:= .type "list",data:= .seq (List.toArray its) k}/\Vals acc its/\H' D=none/\W i n acc σ' H') ?_ m0
   ⟨0,[],[],0,u5 own ix σ,H2,by rw[hs₃];exact entry,by rw[hs₃];exact T.keep _ _ _ st2 fun b _ o e=>old b o e,fun b hb=>(f2 b hb).1,by rw[hs₃];exact hD1,.nil,I2.hok.fresh (tW KJ),w0⟩
  rintro n s3 ⟨i,acc,its,k,σ3,H3,I3,st3,fr3,eD,rv,nD,w3⟩;show wpAny _ X.A ((compTurn (.ListComp elt [⟨tg,iter,ifs,0⟩] scope pos) 0 (.ref it) (.ref D) X'.env).onRaise (fun x=>do noteFrame x X'.env;theTreesLotGoes x)) _ _ s3;refine wpAny_noted ?_;rw[compTurn_list];have ZG:∀{α:Type} {t:Sem α} {Q:α->η->Prop} {E':L3} {s:η},wpAny (model X'.prog X'.w) X'.A t Q X'.xe s->wpAny (model X.prog X.w) X.A t Q E' s:=fun{α t Q E' s} h=>by
   rw[eP,ew,eA,exe]at h;exact Ml h (fun _ _ q=>q) fun _ _ z=>z.elim
  have I3':=Pu (o:={cls:= .type "list",data:= .seq (List.toArray its) k}) I3 eD nD (fun v z=>by
   have z':Data.seq (List.toArray its) k=Data.cell v:=z;cases z')
  refine aq (WT (aq ?_));rcases turn i n acc σ3 H3 w3 with⟨stop,hz,fin⟩|⟨go,hz,Nn,hN,step⟩
  ·have q:=T.done X' eP ew eK NQ i [(D,_)] s3 σ3 H3 (notedBy (model X.prog X.w) X.A X'.env fun e s'=>RR (.ref D) (D+1) (.error e) s') I3' (fpn fr3) st3 stop;rw[eA]at q;refine thn q fun r s4 ⟨hr,I4⟩=> ?_;subst hr;refine aO ?_;obtain⟨e4,_⟩:=I4.pin (D,_) (tZ _ gG);obtain⟨mC,hnC,_⟩:=I4.loc;have u4:=I4.base;rw[efs,eex,eH0,es0]at u4;have ok4:=I4.hok;rw[eP,ew]at ok4;have nC:H3 (D+1)=none:=by have:=I4.free;rw[Ht]at this;exact this
   have hok:HOk X.prog X.w (upd H3 D (.lst acc)) s4.heap:=ok4.add nD ⟨hz,its,k,rv,e4⟩;refine hRR D (D+1) s4 acc H3 mC ?_ nD (by rw[Ht]at hnC;exact hnC) ?_ fin
   ·refine I2.call' (s':=s4) (ch:=fp) ?_ (u4.add (by rw[KJ];exact aB _) nD) hok I4.bare fun b hb=> ?_
    ·have:=I4.os;rw[es0]at this;exact this
    ·obtain⟨f0,f1,f3,f4,f5,f6⟩:=f2 b hb;exact⟨f4,f1,f5,f6⟩
   ·refine I2.fpOk (by rw[KJ];exact Jk _) ?_;rw[cG (Iz (pL D))];exact nC
  ·have q:=T.item X' eP ew eK NQ i [(D,_)] s3 σ3 H3 (notedBy (model X.prog X.w) X.A X'.env fun e s'=>RR (.ref D) (D+1) (.error e) s') I3' (fpn fr3) st3 go;rw[eA]at q;refine thn q fun r s4 ⟨u,hr,h4⟩=> ?_;subst hr;dsimp only;refine aq (thn h4 fun _ s5 ⟨x,H5,I5,r5,y5,st5,fr5⟩=> ?_);have I5':=I5.pinned (fpn fr5) (T.obj _ _ st5);have again:∀{σ7:St} {H7:Hp} {s7:η},Inv X' ([(D,{cls:= .type "list",data:= .seq (List.toArray its) k})]++pinsAt fp s5.heap) σ7 H7 s7->tn (i+1) s7.heap/\(∀b∈fp,H7 b=none)/\s7.heap.get? D=some {cls:= .type "list",data:= .seq (List.toArray its) k}/\H7 D=none:=fun{σ7 H7 s7} I7=>by
    refine⟨T.keep _ _ _ st5 fun b hb o e=>(I7.pin (b,o) (tZ _ (tZ _ (mem_pinsAt hb e)))).1,fun b hb=> ?_,?_⟩
    ·obtain⟨o,e,d⟩:=T.obj _ _ st5 b hb;exact(I7.pin (b,o) (tZ _ (tZ _ (mem_pinsAt hb e)))).2.1
    ·have:=I7.pin (D,_) (tZ _ (Ma _ gG));exact⟨this.1,this.2.1⟩
   refine aq (thn (ZG (hg' _ s5 σ3 H5 x u _ I5' r5 (step x H5 y5))) fun _ s6 ⟨σ6,H6,I6,q6⟩=> ?_);refine aq (thn (ZG (ht' _ s6 σ6 H6 _ I6 q6)) fun ok s7 ⟨H7,I7,q7⟩=> ?_);cases ok with
   |false=>
    rw[aj qy]at q7;obtain⟨m',hm,w7⟩:=hN _ _ _ q7;obtain⟨a1,a2,a3,a4⟩:=again I7;exact aO ⟨rfl,m',hm,i+1,acc,its,k,σ6,H7,I7.pins_of (fun p hp=>nomatch hp),a1,a2,a3,rv,a4,w7⟩
   |true=>
    rw[ak rfl]at q7;refine aq (aq (thn (ZG (he' _ s7 σ6 H7 _ I7 q7)) fun v s8 ⟨y,H8,I8,r8,q8⟩=> ?_));obtain⟨m',hm,w8⟩:=hN _ _ _ q8;obtain⟨a1,a2,a3,a4⟩:=again I8;have hl:=rv.length;refine aq (Js F.slot_list_append ⟨_,a3,rfl⟩ F.entry_list_append (F.args_list_append_2 _ _) (PySem.list_append D its.toArray k v (by rw[dW];omega)) ⟨a3,?_⟩);refine aO (aO ⟨rfl,m',hm,i+1,acc++[y],its++[v],?_⟩);have qD:=PySem.IsL.update a3 (fun a:Array ζ=>a.push v);rw[List.push_toArray]at qD;have kp:∀b o,b≠D->s8.heap.get? b=some o->(s8.heap.update D (Obj.mapSeq fun a=>a.push v)).get? b=some o:=fun b o hb e=>(Td s8.heap _ (iU hb)).trans e;have I8':Inv X' [] σ6 H8 {s8 with heap:=s8.heap.update D (Obj.mapSeq fun a=>a.push v)}:=by
     refine(I8.pins_of (pins':=[]) (fun p hp=>nomatch hp)).turned (t':=s8.toks) (it:=D) kp a4 (by rw[Ht];exact cN (pL D)) (.inr (by rw[es0,KJ];exact aB _)) (fun x c e=>ecl x c e) (fun p hp=> ?_);rw[epn]at hp;exact nomatch hp
    exact⟨_,σ6,H8,I8',T.keep _ _ _ a1 fun b hb o e=>kp b o (cN (hlt b hb)) e,a2,qD,rv.append (.cons r8 .nil),a4,w8⟩
 have VB:({newEnv scope (D+1) X.env.globals (CJ X scope (D+1)) X.env.qual none Value.none (some X.env) 0 with scope:=relabel scope X.env}:Env)=X'.env:=by rw[La];rfl
 have L:=loop _ rfl;rw[<-VB]at L;exact codeAny_compStart_list L (T.self X.A 0 _ _ _ (T.keep _ _ _ st2 fun b _ o e=>old b o e) L)
end
section
variable{X:Cx}{tg iter elt:Expr}{ifs:List Expr}{scope:Scope}{pos:Pos}{own caps:List Str}{ix:List Nat}{wi:TI}{g:TG}{tc:TT}{te:TE}
theorem Fg(hc:X.calm=true)(hi:PI X tg iter wi)(ck:aG X.env.scope scope=true)(hkind:scope.kind= .function)(hcap:fZ X scope caps ix)(hg:∀s H cl C ex,PG (bA X scope (own++caps) s H cl C ex) tg g)(ht:∀s H cl C ex,N7 (bA X scope (own++caps) s H cl C ex) ifs tc)(he:∀s H cl C ex,PE (bA X scope (own++caps) s H cl C ex) elt te)(hs:∀x,foldedSetIterable iter X.env x=pure x:=by intro _;rfl):PE X (.ListComp elt [⟨tg,iter,ifs,0⟩] scope pos) (zj wi own ix g tc te):=by
 intro pins s σ H Q I h;rw[eval_ListComp];refine wpAny_comprehension_free (use:=none) rfl hs (oX fun x hx=>I.ok.has x ((aG.free ck hx).2)) hkind (aG.names ck) (thn (hi pins s σ H _ I h) fun xv s1 h1=>thn h1 fun itv s2 h2=> ?_);obtain⟨it,fp,tn,J,H2,e,I2,T,st2,f2,W,⟨m0,w0⟩,turn⟩:=h2;subst e;refine oW (RR:=fun acc C=>compPost (model X.prog X.w) X.A X.xe none (EP X pins σ Q) acc C) ck hkind hcap hc hg ht he I2 T st2 f2 w0 turn ?_;intro D C s' acc Hf m I' nD hn fC fin;refine⟨m,hn,fun h' sb=> ?_⟩;obtain⟨f0,f1,f3,f4,f5,f6⟩:=fC;exact⟨.ref D,_,I'.turned (t':=s'.toks) (it:=C) (fun b o hb e=>(sb.2 b hb).trans e) f0 f1 f4 f5 f6,rfl,fin D nD⟩
theorem pK{X:Cx}{tg iter elt:Expr}{ifs:List Expr}{scope:Scope}{pos:Pos}{wi:TI}{g:TG}{tc:TT}{te:TE}(own caps:List Str)(ix:List Nat)(hi:PI X tg iter wi)(hg:∀{s H cl C ex},PG (bA X scope (own++caps) s H cl C ex) tg g)(ht:∀{s H cl C ex},N7 (bA X scope (own++caps) s H cl C ex) ifs tc)(he:∀{s H cl C ex},PE (bA X scope (own++caps) s H cl C ex) elt te)(hcap:fZ X scope caps ix:=by repeat(first |exact fZ.nil|refine fZ.cons rfl rfl ?_))(hc:X.calm=true:=by rfl)(ck:aG X.env.scope scope=true:=by rfl)(hkind:scope.kind= .function:=by rfl)(hs:∀x,foldedSetIterable iter X.env x=pure x:=by intro _;rfl):PE X (.ListComp elt [⟨tg,iter,ifs,0⟩] scope pos) (zj wi own ix g tc te):=Fg hc hi ck hkind hcap (fun _ _ _ _ _=>hg) (fun _ _ _ _ _=>ht) (fun _ _ _ _ _=>he) hs
theorem uJ{i:Nat}{y:Str}{py spos:Pos}(hN:X.N.Nodup)(hiN:X.N[i]? =some y)(hx:Loc X.env.scope y)(hc:X.calm=true)(hi:PI X tg iter wi)(ck:aG X.env.scope scope=true)(hkind:scope.kind= .function)(hcap:fZ X scope caps ix)(hg:∀s H cl C ex,PG (bA X scope (own++caps) s H cl C ex) tg g)(ht:∀s H cl C ex,N7 (bA X scope (own++caps) s H cl C ex) ifs tc)(he:∀s H cl C ex,PE (bA X scope (own++caps) s H cl C ex) elt te)(hsw:swapsWith (.ListComp elt [⟨tg,iter,ifs,0⟩] scope pos) (some (.Name y py)) spos.line X.env=pure true:=by rfl)(hf:X.fn y=true\/X.env.scope.names.lookup y=some .local:=by first |exact .inl rfl|exact .inr rfl|assumption)(hs:∀x,foldedSetIterable iter X.env x=pure x:=by intro _;rfl):PS X (.Assign [.Name y py] (.ListComp elt [⟨tg,iter,ifs,0⟩] scope pos) spos) (tAsg (zj wi own ix g tc te) (gName i)):=by
 intro pins s σ H Dn I h;rw[exec_Assign_Name_used _ _ _ _ hsw];refine aq (WT (aq ?_));show wpAny _ X.A (do let _<-comprehension (.ListComp elt [⟨tg,iter,ifs,0⟩] scope pos) scope X.env _ (newList []) false (eval iter X.env) (some (assign (.Name y py) X.env))) _ _ s;refine aq (Ml (wpAny_comprehension_free (use:=some (assign (.Name y py) X.env)) (Q:=fun _ s'=>SP X pins Dn .next s') rfl hs (oX fun x hx=>I.ok.has x ((aG.free ck hx).2)) hkind (aG.names ck)
  (thn (hi pins s σ H _ I h) fun xv s1 h1=>thn h1 fun itv s2 h2=> ?_)) (fun _ s' hq=>aO (aO hq)) fun _ _ e=>e)
 obtain⟨it,fp,tn,J,H2,e,I2,T,st2,f2,W,⟨m0,w0⟩,turn⟩:=h2;subst e;refine oW (RR:=fun acc C=>compPost (model X.prog X.w) X.A X.xe (some (assign (.Name y py) X.env)) (fun _ s'=>SP X pins Dn .next s') acc C) ck hkind hcap hc hg ht he I2 T st2 f2 w0 turn ?_;intro D C s' acc Hf m I' nD hn fC fin;obtain⟨f0,f1,f3,f4,f5,f6⟩:=fC;show wpAny _ X.A (assign (.Name y py) X.env (.ref D)) _ _ _;refine wpAny_assign_Name (store_ok2 I' hN hiN hx (show RelV (.ref D) (.ref D)from rfl) (fun s'' I'' ⟨a,sb,ha⟩=> ?_) hf);have hCa:C≠a:=by
  rcases ha with ha|ha
  ·rw[ha];exact f1
  ·exact fun z=>f5 y a ha z.symm
 refine⟨m,hn.sameBut sb hCa,fun h' sb'=> ?_⟩;exact⟨_,_,I''.turned (t':=s''.toks) (it:=C) (fun b o hb e=>(sb'.2 b hb).trans e) f0 f1 f4 f5 f6,fin D nD⟩
theorem pX{X:Cx}{tg iter elt:Expr}{ifs:List Expr}{scope:Scope}{pos:Pos}{wi:TI}{g:TG}{tc:TT}{te:TE}{y:Str}{py spos:Pos}(i:Nat)(own caps:List Str)(ix:List Nat)(hi:PI X tg iter wi)(hg:∀{s H cl C ex},PG (bA X scope (own++caps) s H cl C ex) tg g)(ht:∀{s H cl C ex},N7 (bA X scope (own++caps) s H cl C ex) ifs tc)(he:∀{s H cl C ex},PE (bA X scope (own++caps) s H cl C ex) elt te)(hcap:fZ X scope caps ix:=by repeat(first |exact fZ.nil|refine fZ.cons rfl rfl ?_))(hc:X.calm=true:=by rfl)(ck:aG X.env.scope scope=true:=by rfl)(hkind:scope.kind= .function:=by rfl)(hN:decide X.N.Nodup=true:=by kernel_rfl)(hi_:X.N[i]? =some y:=by rfl)(hx:Loc X.env.scope y:=by first |exact Or.inl rfl|exact Or.inr rfl)(hsw:swapsWith (.ListComp elt [⟨tg,iter,ifs,0⟩] scope pos) (some (.Name y py)) spos.line X.env=pure true:=by rfl)(hf:X.fn y=true\/X.env.scope.names.lookup y=some .local:=by first |exact .inl rfl|exact .inr rfl|assumption)(hs:∀x,foldedSetIterable iter X.env x=pure x:=by intro _;rfl):PS X (.Assign [.Name y py] (.ListComp elt [⟨tg,iter,ifs,0⟩] scope pos) spos) (tAsg (zj wi own ix g tc te) (gName i)):=uJ (kJ hN) hi_ hx hc hi ck hkind hcap (fun _ _ _ _ _=>hg) (fun _ _ _ _ _=>ht) (fun _ _ _ _ _=>he) hsw hf hs
end
theorem lQ:∀{xs:List Int} {us:List ζ},Vals (xs.map V.int) us->Paired (fun(i:Int) (v:ζ)=>∃t,v= .int i t) xs us
 |[],_,h=>by cases h;exact .nil
 |_::_,_,h=>by
  cases h with
  |cons r t=>exact .cons r (lQ t)
end L2
namespace L2
open PySem PySem.W PySem.Spec PyProof.Rows
section
variable{X:Cx}
theorem sU:CallR X (.builtin "sorted") (fun xs H Q=>∃(a:Addr) (its:List (Addr×List Int)),xs=[.ref a]/\SqL X.K H a (its.map fun p=>V.ref p.1)/\(∀p∈its,SqT X.K H p.1 (p.2.map V.int)/\(2<=its.length->p.2≠[]))/\its.length<64/\
  ∀(l:Addr) (its':List (Addr×List Int)),H l=none->its'.Perm its->its'.Pairwise (fun p q=>HT.lexLt q.2 p.2=false)->Q (.ref l) (upd H l (.lst (its'.map fun p=>V.ref p.1)))):=by
 intro pins s σ H xs us Q I r h;obtain⟨a,its,rfl,hS,hT,h64,q⟩:=h;obtain⟨u,rfl,ru⟩:=r.one;cases ru;obtain⟨vs,rv,pl,hz⟩:=I.list hS;have hlen:its.length=vs.length:=by have:=rv.length;simpa using this
 -- the values beside the tuples
 have pr:Paired (fun(p:Addr×List Int) (v:ζ)=>v= .ref p.1) its vs:=by
  have go:∀(l:List (Addr×List Int)) (us:List ζ),Vals (l.map fun p=>V.ref p.1) us->Paired (fun(p:Addr×List Int) (v:ζ)=>v= .ref p.1) l us:=by
   intro l
   induction l with
   |nil=>intro us h;cases h;exact .nil
   |cons p l ih=>
    intro us h;cases h with
    |cons r t=>exact .cons r (ih _ t)
  exact go its vs rv
 have tup:∀p∈its,∃(items:List ζ),IntsAre items p.2/\IsTup s.heap p.1 items.toArray:=fun p hp=>by
  obtain⟨its',r',t',_⟩:=I.tuple (hT p hp).1;exact⟨its',intsAre_of r',t'⟩
 refine wj.wU (O:=wj.lexOrd) (key:=fun i=>(its.getD i (0,[])).2) (κ:=tuples' true) (s:=s) pl.isList (by omega) (fun h2 h' k E' Q' hq=> ?_) (fun h2 h' k=> ?_) (fun D h' out c ho hD k hc=> ?_)
 ·have kt:∀(l:List (Addr×List Int)) (us:List ζ),Paired (fun(p:Addr×List Int) (v:ζ)=>v= .ref p.1) l us->(∀p∈l,p∈its)->∃fs:List ζ,KatTups h' us fs/\fs.length=us.length/\∀v∈fs,∃i t,v=Value.int i t:=by
   intro l us h
   induction h with
   |nil=>intro _;exact⟨[],trivial,rfl,fun _ hv=>nomatch hv⟩
   | @cons p v l us r t ih=>
    intro hs;obtain⟨fs,k1,k2,k3⟩:=ih fun p hp=>hs p (eV _ hp);obtain⟨items,hi,o,e,hc,n,hd⟩:=tup p (hs p gG);have hne:=(hT p (hs p gG)).2 (by omega);obtain⟨pa,pn⟩:=p;dsimp only at hi hne e r;cases hi with
    |nil=>exact absurd rfl hne
    |cons i t hi'=>
     rw[r];refine⟨Value.int i t::fs,KatTups.cons (k _ _ e) hc hd (by simp) k1,by simp[k2],fun v hv=> ?_⟩;rcases dU.mp hv with e|e
     ·exact⟨i,t,e⟩
     ·exact k3 v e
  obtain⟨fs,k1,k2,k3⟩:=kt its vs pr fun _ hp=>hp;refine kat_kind (s:={s with heap:=h'}) (T:= .type "int") k1 (by omega) (fun v hv=> ?_) (by rfl) hq;obtain⟨i,t,rfl⟩:=k3 v hv;exact fun A Q E s _ q=>aO q
 ·intro i j C hi hj hC;rw[<-hlen]at hi hj;have get:∀i (hi:i<its.length),vs.getD i Value.none= .ref its[i].1:=by
   have go:∀(l:List (Addr×List Int)) (us:List ζ),Paired (fun(p:Addr×List Int) (v:ζ)=>v= .ref p.1) l us->∀i (hi:i<l.length),us.getD i Value.none= .ref l[i].1:=by
    intro l us h
    induction h with
    |nil=>intro i hi;simp at hi
    |cons r t ih=>
     intro i hi;cases i with
     |zero=>exact r
     |succ i=>simpa using ih i (by simpa using hi)
   exact go its vs pr
  unfold kas_ask;rw[get i hi,get j hj];obtain⟨xi,hxi,oi,ei,ci,ni,di⟩:=tup its[i] (tY _);obtain⟨xj,hxj,oj,ej,cj,nj,dj⟩:=tup its[j] (tY _);refine kat_lt (s:={s with heap:=h'}) (k _ _ ei) di (k _ _ ej) dj ?_;refine wj.Gq 0 hxi hxj ?_ ?_
  ·have:=hxi.length;have:=hxj.length;simp only[dW];omega
  ·rw[HT.cQ];have e1:its.getD i (0,[])=its[i]:=by simp[hi]
   have e2:its.getD j (0,[])=its[j]:=by simp[hj]
   have hC':C (decide ((its.getD i (0,[])).2<(its.getD j (0,[])).2)) {s with heap:=h'}:=hC;rw[e1,e2]at hC';exact hC'
 ·obtain⟨its',hp,hr,hw⟩:=wj.JV (d:=((0,[]):Addr×List Int)) (f:=fun p=>p.2) pr (fun i hi=>by show(its.getD i (0,[])).2=_;simp[hi]) ho;have hn:H D=none:=I.hok.fresh hD;have rv':Vals (its'.map fun p=>V.ref p.1) out:=by
   have go:∀(l:List (Addr×List Int)) (us:List ζ),Paired (fun(p:Addr×List Int) (v:ζ)=>v= .ref p.1) l us->Vals (l.map fun p=>V.ref p.1) us:=by
    intro l us h
    induction h with
    |nil=>exact .nil
    |cons r t ih=>exact .cons r ih
   exact go its' out hr
  have zl:(its'.map fun p=>V.ref p.1).length<=sizeLine:=by
   have:=hp.length_eq;rw[aH];exact cD (small1000 (by omega))
  have J:Inv X pins σ (upd H D (.lst (its'.map fun p=>V.ref p.1))) {s with heap:=h',toks:=s.toks}:=I.laid k hD ⟨zl,out,c,rv',hc⟩;refine⟨.ref D,_,J,rfl,q D its' hn hp (hw.imp fun{x y} hxy=> ?_)⟩;rw[HT.cQ];exact hxy
theorem Bf(K:W.Frag){a:Expr}{ta:TE}(ha:PE X a ta)(he:∀whole,isTrue a X.env whole=(do let v<-whole;standAt a.pos;holding [v] (truthy v)))(h:X.K=K:=by rfl):
  PT X a (fun σ H Q=>ta σ H fun x H'=>∃k,TruV K x H' k/\Q k H'):=by subst h;exact pt_truth ha he
end
end L2
namespace L2
open PySem PySem.Spec PyProof.Rows
mutual
def Z0:Nat->Expr->Option θ
 |0,_=>none
 |n+1,e=>match e with
  | .Constant (.int i) _ _=>some (.int i)
  | .Constant (.bool b) _ _=>some (.bool b)
  | .Constant .none _ _=>some .none
  | .Constant (.str x) _ _=>some (.str x)
  | .UnaryOp .USub (.Constant (.int i) _ _) _=>some (.int (-i))
  | .Tuple es _ _=>(Gp n es).map .tuple
  | .List es _=>(Gp n es).map .list
  | .Dict [] [] _=>some (.dict [])
  |_=>none
def Gp:Nat->List Expr->Option (List θ)
 |0,_=>none
 |_+1,[]=>some []
 |n+1,e::es=>match Z0 n e,Gp n es with
  |some d,some ds=>some (d::ds)
  |_,_=>none
end
section
variable{X:Cx}
theorem Cd(hc:X.calm=true):CallR X (.builtin "min") (fun xs H Q=>∃(a:Addr) (ns:List Int),xs=[.ref a]/\SqL X.K H a (ns.map V.int)/\ns≠[]/\∀m∈ns,(∀n∈ns,m<=n)->Q (.int m) H):=by
 intro pins s σ H xs us Q I r h;obtain⟨a,ns,rfl,hS,hne,q⟩:=h;obtain⟨u,rfl,ru⟩:=r.one;cases ru;obtain⟨vs,rv,pl,hz⟩:=I.list hS;have hl:=pl.isList;have hlt:a<s.heap.objs.size:=by obtain⟨_,e,_⟩:=hl;exact cO e
 have hlen:=rv.length;rw[aH]at hlen;have hI:∀(i:Nat) (v:ζ),vs.toArray[i]? =some v->∃t,v= .int (ns.getD i 0) t:=fun i v hv=>by
  have hv':vs[i]? =some v:=by simpa using hv
  have hi:i<ns.length:=by have:=(p8.mp hv').1;omega
  have hn:(ns.map V.int)[i]? =some (.int (ns.getD i 0)):=by rw[dX,dJ hi,jF,dJ hi];rfl
  obtain⟨u,hu,ru⟩:=rv.get hn;rw[hv']at hu;cases hu;obtain⟨t,rfl⟩:=ru;exact⟨t,rfl⟩
 refine call_min_walk (TJ hl ?_);refine⟨s.heap.objs.size,[s.heap.objs.size,a],[s.heap.objs.size],vs.toArray.size,_,_,_,rfl,Walks.list (A:=X.A.in1) (I.ok.hd hc) _ a (cN hlt) vs.toArray,
  ⟨⟨_,jE _ rfl,rfl,rfl⟩,hl.push _⟩,?_,?_,CmpOf.ints_lt (fun i=>ns.getD i 0) hI,fun v h' tk hP hk=> ?_⟩
 ·intro b hb;show b<(s.heap.push _).objs.size;rw[wF];rcases dU.mp hb with rfl|hb
  ·exact pL _
  ·rw[kI.mp hb];exact m6 hlt
 ·rw[dW,<-hlen];exact List.length_pos_iff.mpr hne
 ·obtain⟨t,rfl⟩:=hI _ v hP;obtain⟨h1,h2⟩:=argBest_lt (fun i=>ns.getD i 0) (vs.toArray.size-1);have hn0:0<ns.length:=List.length_pos_iff.mpr hne;have hb:argBest (fun i j=>decide (ns.getD i 0<ns.getD j 0)) (vs.toArray.size-1)<ns.length:=by
   have:vs.toArray.size=ns.length:=by rw[dW];omega
   omega
  refine⟨.int _,H,I.kept (LSm.kept_iter hk),⟨t,rfl⟩,q _ ?_ fun n hn=> ?_⟩
  ·rw[jF,dJ hb];exact tY hb
  ·obtain⟨j,hj,rfl⟩:=yV hn;have:=h2 j (by rw[dW];omega);rw[jF (i:=j),dJ hj]at this;exact this
end
end L2
namespace L2
open PySem
noncomputable def j8(xs:Array Nat):Prop:=xs.toList.Pairwise (· < ·)
theorem j8.at{xs:Array Nat}(h:j8 xs){i k:Nat}(hk:k<xs.size)(hik:i<k):xs.toList[i]'(by simp;omega)<xs.toList[k]'(by simpa using hk):=Jq.mp h i k _ _ hik
theorem getD_at{xs:Array Nat}{i d:Nat}(h:i<xs.size):xs.getD i d=xs.toList[i]'(by simpa using h):=by
 rw[Array.getElem_toList];simp[Array.getD,h]
theorem o8{xs:Array Nat}(hx:j8 xs)(j:Nat):∀(fuel lo hi:Nat),lo<=hi->hi<=xs.size->hi-lo<=fuel->(∀i (h:i<xs.size),i<lo->xs.toList[i]'(by simpa using h)<j)->(∀i (h:i<xs.size),hi<=i->j<=xs.toList[i]'(by simpa using h))->
  SetTable.below.go xs j fuel lo hi<=xs.size/\(∀i (h:i<xs.size),i<SetTable.below.go xs j fuel lo hi->xs.toList[i]'(by simpa using h)<j)/\(∀i (h:i<xs.size),SetTable.below.go xs j fuel lo hi<=i->j<=xs.toList[i]'(by simpa using h))
 |0,lo,hi,h1,h2,h3,a,b=>by
  have e:lo=hi:=by omega
  subst e;unfold SetTable.below.go;exact⟨h2,a,b⟩
 |fuel+1,lo,hi,h1,h2,h3,a,b=>by
  unfold SetTable.below.go;by_cases c:lo<hi
  ·rw[ak c];have hm:(lo+hi)/2<xs.size:=by omega
   dsimp only;rw[getD_at hm];by_cases q:xs.toList[(lo+hi)/2]'(by simpa using hm)<j
   ·rw[ak q];refine o8 hx j fuel _ hi (by omega) h2 (by omega) (fun i hi' hlt=> ?_) b;by_cases e:i=(lo+hi)/2
    ·subst e;exact q
    ·exact Iw (hx.at hm (by omega)) q
   ·rw[aj q];refine o8 hx j fuel lo _ (by omega) (by omega) (by omega) a (fun i hi' hle=> ?_);by_cases e:i=(lo+hi)/2
    ·subst e;omega
    ·have:=hx.at hi' (show(lo+hi)/2<i by omega);omega
  ·rw[aj c];have e:lo=hi:=by omega
   subst e;exact⟨h2,a,b⟩
theorem vN{xs:Array Nat}(hx:j8 xs)(j:Nat):SetTable.below xs j<=xs.size/\(∀i (h:i<xs.size),i<SetTable.below xs j->xs.toList[i]'(by simpa using h)<j)/\(∀i (h:i<xs.size),SetTable.below xs j<=i->j<=xs.toList[i]'(by simpa using h)):=
 o8 hx j xs.size 0 xs.size (cg _) (aB _) (aB _) (fun i _ h=>absurd h (Lz _)) (fun i h h'=>absurd h (Nat.not_lt.mpr h'))
theorem uZ{α:Type}(xs:Array α)(p:Nat)(x:α):(SetTable.insertAt xs p x).toList=xs.toList.take p++x::xs.toList.drop p:=by
 unfold SetTable.insertAt;simp;exact I9 (by simp)
theorem uY{xs:Array Nat}(hx:j8 xs){j:Nat}(hn:xs[SetTable.below xs j]? ≠some j):j8 (SetTable.insertAt xs (SetTable.below xs j) j):=by
 obtain⟨b1,b2,b3⟩:=vN hx j;unfold j8;rw[uZ,S8];have RD:∀a∈xs.toList.take (SetTable.below xs j),a<j:=fun a ha=>by
  obtain⟨i,hi,e⟩:=List.mem_take_iff_getElem.mp ha;rw[<-e];exact b2 i (by simp at hi;omega) (by omega)
 have pR:∀a∈xs.toList.drop (SetTable.below xs j),j<a:=fun a ha=>by
  obtain⟨i,hi,e⟩:=List.mem_drop_iff_getElem.mp ha;have hs0:i+SetTable.below xs j<xs.size:=by simpa using hi
  have hs:SetTable.below xs j+i<xs.size:=by omega
  have z:=b3 (SetTable.below xs j+i) hs (W9 _ _);have e':xs.toList[SetTable.below xs j+i]'(by simpa using hs)=a:=by rw[<-e]
  rw[e']at z;by_cases c:i=0
  ·subst c;refine Jm z fun ej=>hn ?_;rw[<-Jp,dJ (by simpa using hs)];exact gD some (e'.trans ej.symm)
  ·have hs0:SetTable.below xs j<xs.size:=by omega
   have z0:=b3 (SetTable.below xs j) hs0 (aB _);have:=hx.at hs (show SetTable.below xs j<SetTable.below xs j+i by omega);rw[e']at this;omega
 refine⟨hx.sublist (YM _ _),List.pairwise_cons.mpr ⟨pR,hx.sublist (List.drop_sublist _ _)⟩,fun a ha b hb=> ?_⟩;rcases dU.mp hb with e|e
 ·rw[e];exact RD a ha
 ·exact Iw (RD a ha) (pR b e)
structure TabOk(b:Bool)(t:ξ):Prop where
 rise:j8 t.place
 Xp:t.dummies=#[]
 led:t.led=b
theorem has_none(j:Nat):SetTable.has #[] j=false:=by
 unfold SetTable.has;simp
theorem wW{t:ξ}{j:Nat}(h:t.slot j= .empty):t.place[SetTable.below t.place j]? ≠some j:=fun e=>by
 unfold SetTable.slot at h;dsimp only at h;rw[e]at h;simp at h
theorem uK{t:ξ}(ht:t.dummies=#[])(ha:Nat->Int)(h:Int):∀(fuel:Nat) (p:SetTable.Probe) (j:Nat) (d:Option Nat),p.dummy=none->SetTable.probe.go t ha h fuel p=some (.empty j d)->d=none/\t.slot j= .empty
 |0,p,j,d,_,e=>by unfold SetTable.probe.go at e;cases e
 |fuel+1,p,j,d,hp,e=>by
  unfold SetTable.probe.go at e;have adv:(t.advance p).dummy=none:=by
   unfold SetTable.advance;split
   ·exact hp
   ·exact hp
  cases z:t.slot p.j with
  |empty=>
   rw[z]at e;cases e;exact⟨hp,z⟩
  |dummy=>
   exfalso;unfold SetTable.slot at z;dsimp only at z;rw[ht,has_none]at z;split at z
   ·cases z
   ·simp at z
  |live i=>
   rw[z]at e;dsimp only at e;split at e
   ·cases e
   ·exact uK ht ha h fuel _ j d adv e
theorem xg(n:Nat):j8 (Array.range n):=by
 unfold j8;rw[Array.toList_range];exact Tc
theorem fD{b:Bool}{t:ξ}(h:TabOk b t)(n:Nat):TabOk b (t.standIn n):=⟨xg n,rfl,h.led⟩
theorem Gu{b:Bool}{t:ξ}(h:TabOk b t)(es:Array (Int×ζ))(hh:Int)(x:ζ):TabOk b (layNew t es hh x).2.1:=by
 unfold layNew;cases z:t.freeSlot hh with
 |none=>exact fD h _
 |some q=>
  obtain⟨slot,was⟩:=q;have emp:t.slot slot= .empty:=by
   unfold SetTable.freeSlot SetTable.probe at z;cases y:SetTable.probe.go t (fun _=>hh+1) hh (10*SetTable.turns t.mask) (t.probeStart hh)with
   |none=>rw[y]at z;cases z
   |some m=>
    rw[y]at z;cases m with
    |candidate _ _ _=>cases z
    |empty j d=>
     obtain⟨rfl,e⟩:=uK h.Xp _ _ _ _ _ _ rfl y;cases z;exact e
  have Fb:TabOk b (t.put slot).1:=by
   refine⟨uY h.rise (wW emp),?_,h.led⟩;show(if SetTable.has t.dummies slot then _ else t.dummies)=#[];rw[h.Xp,has_none];rfl
  dsimp only;unfold SetTable.orStandIn;split
  ·exact Fb
  ·exact fD Fb _
theorem Ks{mask finger moves:Nat}{b plain:Bool}{hs:Array Int}{t':ξ}{order:Array Nat}(e:SetTable.laid mask finger moves b plain hs=some (t',order)):TabOk b t':=by
 unfold SetTable.laid at e;cases z:SetTable.layClean mask hs with
 |none=>rw[z]at e;cases e
 |some owner=>
  rw[z]at e;cases e;refine⟨?_,rfl,rfl⟩;unfold j8;show(((List.range (mask+1)).filterMap fun j=>(owner.getD j none).map (j, ·)).map (·.1)).Pairwise (· < ·);rw[List.map_filterMap];refine List.Pairwise.filterMap _ (R:=(· < ·)) (fun a a' aaz c hc c' hc'=> ?_) Tc;cases y:owner.getD a none with
  |none=>simp[y]at hc
  |some k=>
   cases y':owner.getD a' none with
   |none=>simp[y']at hc'
   |some k'=>
    simp[y]at hc;simp[y']at hc';omega
theorem uH{b:Bool}{t:ξ}(h:TabOk b t)(es:Array (Int×ζ))(wanted:Nat):TabOk b (relayAll t es wanted).2.1:=by
 unfold relayAll;cases z:t.relaid (es.map (·.1)) wanted with
 |none=>exact fD h _
 |some q=>
  obtain⟨t',order⟩:=q;dsimp only;split
  ·unfold SetTable.relaid at z;have:=Ks z;rw[h.led]at this;exact this
  ·exact fD h _
theorem jZ(b:Bool):TabOk b (.fresh 0 0 b):=⟨.nil,rfl,rfl⟩
theorem jc{b:Bool}{t:ξ}(h:TabOk b t):TabOk b {t with plain:=false}:=⟨h.rise,h.Xp,h.led⟩
end L2
namespace PySem
namespace F
theorem aD:Slot "set_iterator" "__next__" "set_iterator.__next__":=
 .of (owner:="set_iterator") (n:="__next__") (by rw[typeLookup_type,builtinLookup_eq_fast];kernel_rfl) (by decide+kernel) (by decide+kernel) (by decide+kernel)
  (by first |exact .inl (by decide+kernel)|exact .inr (by decide+kernel)) (by rw[isSubtype_type];kernel_rfl)
theorem iV:Slot "set_iterator" "__iter__" "set_iterator.__iter__":=
 .of (owner:="set_iterator") (n:="__iter__") (by rw[typeLookup_type,builtinLookup_eq_fast];kernel_rfl) (by decide+kernel) (by decide+kernel) (by decide+kernel)
  (by first |exact .inl (by decide+kernel)|exact .inr (by decide+kernel)) (by rw[isSubtype_type];kernel_rfl)
theorem cL:entryFor table "set_iterator.__next__"=some Builtin.«set_iterator.__next__»:=entryFor_of_tree (by kernel_rfl)
theorem oU:entryFor table "set_iterator.__iter__"=some Builtin.«dict_keyiterator.__iter__»:=
 entryFor_alias (id':="dict_keyiterator.__iter__") (by kernel_rfl) rfl (by decide+kernel) (by kernel_rfl)
theorem mK:entryFor table "set.__iter__"=some Builtin.«frozenset.__iter__»:=
 entryFor_alias (id':="frozenset.__iter__") (by kernel_rfl) rfl (by decide+kernel) (by kernel_rfl)
theorem cV(a:ζ):argsOk "set_iterator.__next__" ⟨[a],[]⟩:=by
 unfold argsOk;kernel_rfl
theorem ql(a:ζ):argsOk "set_iterator.__iter__" ⟨[a],[]⟩:=by
 unfold argsOk;kernel_rfl
end F
end PySem
namespace PySem
open L2 (TabOk j8)
theorem jx{α:Type}:∀(l:List α) (i:Nat) (x:α),l[i]? =some x->(x::l.eraseIdx i).Perm l
 |[],i,x,h=>by cases i<;>cases h
 |y::l,0,x,h=>by cases h;exact .refl _
 |y::l,i+1,x,h=>(List.Perm.swap y x _).trans ((jx l i x h).cons y)
theorem zG{α:Type}(next:Nat->Nat):∀(fuel k:Nat) (left:List α) (out:Array α),left.length=fuel->(pickOrder.go next fuel k left out).toList.Perm (out.toList++left)
 |0,k,left,out,h=>by
  rw[wde h];unfold pickOrder.go;rw[Cu]
 |fuel+1,k,left,out,h=>by
  unfold pickOrder.go;have lt:next k %left.length<left.length:=Wu _ (by omega)
  rw[dJ lt];dsimp only;refine(zG next fuel (k+1) _ _ (by rw[Y9,ak lt];omega)).trans ?_;rw[Xe,Rb];exact List.Perm.append_left _ (jx left _ _ (dJ lt))
theorem iH{α:Type}(next:Nat->Nat)(xs:Array α):(pickOrder next xs).toList.Perm xs.toList:=by
 unfold pickOrder;have:=zG next xs.size 0 xs.toList #[] (by simp)
 simpa using this
section
variable{prog:ρ}{w:υ}{A:Around}{E:L3}{s:η}
theorem qX{src:Source}{n:Nat}{Q:Nat->η->Prop}(hn:n≠0)(h:∀i d,i<n->Q i {s with drawn:=d}):wpAny (model prog w) A (choose src n) Q E s:=fun Γ p _=>by
 unfold choose;rw[Sem.wp_choose];refine⟨hn,?_⟩;rw[Sem.wp_pure];exact h _ _ (Wu _ (SN hn))
theorem X4{α:Type}:∀(n:Nat) (xs:List α) {s:η} {Q:List α->η->Prop},xs.length=n->(∀ys d,ys.Perm xs->Q ys {s with drawn:=d})->wpAny (model prog w) A (drawOrder n xs) Q E s
 |0,xs,s,Q,h,q=>by
  have:=q [] s.drawn (by rw[wde h]);unfold drawOrder;exact aO this
 |n+1,[],s,Q,h,q=>by cases h
 |n+1,x::xs,s,Q,h,q=>by
  unfold drawOrder;refine aq (qX (by simp) fun i d hi=> ?_);rw[dJ hi];dsimp only;refine aq (X4 n ((x::xs).eraseIdx i) (by rw[Y9,ak hi];omega) fun ys d' hp=>aO ?_);exact q _ d' ((hp.cons _).trans (jx _ i _ (dJ hi)))
structure aP(w:υ)(h:Heap)(d:Addr)(es:Array (Int×ζ))(ep:Nat)(t:ξ):Prop where
 ob:∃o,h.get? d=some o/\o.ExactSet/\o.data= .set es ep t
 fits:t.fits es.size=true
 tab:TabOk (!w.params.followText "set-order") t
theorem aP.at{h h':Heap}{d:Addr}{es:Array (Int×ζ)}{ep:Nat}{t:ξ}(S:aP w h d es ep t)(e:∀o,h.get? d=some o->h'.get? d=some o):aP w h' d es ep t:=
 let⟨o,ho,r⟩:=S.ob;⟨⟨o,e _ ho,r⟩,S.fits,S.tab⟩
theorem aP.typeIs{d:Addr}{es:Array (Int×ζ)}{ep:Nat}{t:ξ}(S:aP w s.heap d es ep t):s.TypeIs (.ref d) "set":=let⟨o,ho,hx,_⟩:=S.ob;⟨o,ho,hx.1⟩
theorem aP.state{d:Addr}{es:Array (Int×ζ)}{ep:Nat}{t:ξ}{Q:(Array (Int×ζ)×Nat×ξ)->η->Prop}(S:aP w s.heap d es ep t)(q:Q (es,ep,t) s):wpAny (model prog w) A (setState d) Q E s:=let⟨o,ho,hx,hd⟩:=S.ob;Xd ho hd S.fits q
theorem Oe{Q:Bool->η->Prop}(q:Q (w.params.followText "set-order") s):wpAny (model prog w) A setsByText Q E s:=by
 unfold setsByText;exact aq (W7 (aO q))
noncomputable def bC(t:ξ)(i:Nat):Nat:=if i=0 then 0 else t.place.getD (i-1) 0+1
theorem o9{b:Bool}{t:ξ}(ht:TabOk b t){i:Nat}(hi:i<=t.place.size):SetTable.below t.place (bC t i)=i:=by
 obtain⟨b1,b2,b3⟩:=L2.vN ht.rise (bC t i);have lo:i<=SetTable.below t.place (bC t i):=by
  refine Xa fun c=> ?_;have hs:i-1<t.place.size:=by omega
  have z:=b3 (i-1) hs (by omega);have e:bC t i=t.place.toList[i-1]'(by simpa using hs)+1:=by
   unfold bC;rw[aj (by omega),L2.getD_at hs]
  omega
 have hi':SetTable.below t.place (bC t i)<=i:=by
  refine Xa fun c=> ?_;have hs:i<t.place.size:=by omega
  have z:=b2 i hs c;by_cases c0:i=0
  ·subst c0;unfold bC at z;rw[ak rfl]at z;omega
  ·have e:bC t i=t.place.toList[i-1]'(by simp;omega)+1:=by
    unfold bC;rw[aj c0,L2.getD_at (by omega)]
   have:=ht.rise.at hs (show i-1<i by omega);omega
 omega
theorem Bv{d:Addr}{es:Array (Int×ζ)}{ep:Nat}{t:ξ}{i:Nat}{Q:Option (ζ×Nat)->η->Prop}(S:aP w s.heap d es ep t)(hb:w.params.followText "set-order"=false)(hd:(!t.plain&&decide (es.size>1))=false)(hi:i<=es.size)(q:Q ((es[i]?).map fun e=>(e.2,bC t (i+1))) s):wpAny (model prog w) A (setNext d (bC t i) i ep) Q E s:=by
 have ps:t.place.size=es.size:=by have:=S.fits;unfold SetTable.fits at this;simp at this;exact this.1
 have led:t.led=true:=by rw[S.tab.led,hb];rfl
 unfold setNext;refine aq (S.state (aq (Oe ?_)));rw[hb];dsimp only;refine lO (fun hab=>absurd hab (by decide)) fun _=> ?_;refine lO (fun hab=> ?_) fun _=> ?_
 ·have hab:(!t.plain&&decide (es.size>1))=true:=hab;rw[hd]at hab;cases hab
 refine aq ?_;show wpAny _ _ (if(!t.led&& !es.isEmpty)=true then _ else _) _ _ _;rw[led];refine lO (fun hab=>absurd hab (by simp)) fun _=> ?_;refine aO ?_;refine aO ?_;rw[o9 S.tab (by omega)];by_cases c:i<es.size
 ·rw[yW c]at q⊢;rw[yW (by omega:i<t.place.size)];have e:bC t (i+1)=t.place[i]+1:=by
   unfold bC;rw[aj (by omega),YW];simp[Array.getD,(by omega:i<t.place.size)]
  rw[e]at q;exact q
 ·rw[Array.getElem?_eq_none (by omega)]at q⊢;exact q
theorem Bu{d:Addr}{es:Array (Int×ζ)}{ep:Nat}{t:ξ}{i slot:Nat}{Q:Option (ζ×Nat)->η->Prop}(S:aP w s.heap d es ep t)(hb:w.params.followText "set-order"=true)(q:Q (((pickOrder (w.params.setOrder d ep) es)[i]?).map fun e=>(e.2,slot)) s):wpAny (model prog w) A (setNext d slot i ep) Q E s:=by
 unfold setNext;refine aq (S.state (aq (Oe ?_)));rw[hb];dsimp only;refine lO (fun _=> ?_) fun hab=>absurd rfl hab;refine lO (fun hab=> ?_) fun _=> ?_
 ·simp at hab
 refine aq ?_;unfold setWalk;refine aq (S.state (aq (Oe ?_)));rw[hb];refine lO (fun _=> ?_) fun hab=>absurd rfl hab;refine aq (W7 ?_);exact aO (aO q)
noncomputable def aU(h:Heap)(I d:Addr)(first:ζ)(i n ep:Nat):Prop:=∃o,h.get? I=some o/\o.cls= .type "set_iterator"/\o.data= .fields #[first,.int i 0,.ref d,.int n 0,.int ep 0]
theorem aU.at{h h':Heap}{I d:Addr}{first:ζ}{i n ep:Nat}(x:aU h I d first i n ep)(e:∀o,h.get? I=some o->h'.get? I=some o):aU h' I d first i n ep:=let⟨o,ho,r⟩:=x;⟨o,e _ ho,r⟩
theorem aU.typeIs{I d:Addr}{first:ζ}{i n ep:Nat}(x:aU s.heap I d first i n ep):s.TypeIs (.ref I) "set_iterator":=let⟨o,ho,hc,_⟩:=x;⟨o,ho,hc⟩
theorem jJ{I d:Addr}{first:ζ}{i n ep:Nat}{Q:L3}(hit:aU s.heap I d first i n ep)(h:Q (.ref I) s):wpAny (model prog w) A (pyIter (.ref I)) Q E s:=by
 refine wpAny_pyIter_slot hit.typeIs F.iV (Ju F.iV hit.typeIs F.oU ?_ (F.ql _));show wpAny _ _ (ret (.ref I)) _ _ s;exact aO ⟨_,rfl,"set_iterator",_,hit.typeIs,F.aD.lookup,h⟩
theorem aP.entries{d:Addr}{es:Array (Int×ζ)}{ep:Nat}{t:ξ}{Q:Array (Int×ζ)->η->Prop}(S:aP w s.heap d es ep t)(q:Q es s):wpAny (model prog w) A (setEntries d) Q E s:=by
 unfold setEntries;exact aq (S.state (aO q))
theorem rB{I d:Addr}{es:Array (Int×ζ)}{ep:Nat}{t:ξ}{i sl sl':Nat}{x:ζ}{Q:Option ζ->η->Prop}(hit:aU s.heap I d (.int sl 0) i es.size ep)(S:aP w s.heap d es ep t)(hne:d≠I)(hnext:∀(Q':Option (ζ×Nat)->η->Prop) (E':L3),Q' (some (x,sl')) s->wpAny (model prog w) A.in1 (setNext d sl i ep) Q' E' s)(hQ:∀h',aU h' I d (.int sl' 0) (i+1) es.size ep->Heap.SameBut I s.heap h'->Q (some x) {s with heap:=h'}):wpAny (model prog w) A (pyNext (.ref I)) Q E s:=by
 obtain⟨o,ho,hc,hd⟩:=id hit;unfold pyNext;refine aq (Tv (Xh (name:=Str.ofString "__next__") hit.typeIs F.aD (Ju F.aD hit.typeIs F.cL ?_ (F.cV _))));unfold Builtin.«set_iterator.__next__»;refine aq (aO ?_);refine aq (WX ho hd ?_);refine aq (S.entries ?_);refine lO (fun hab=>absurd hab (by simp)) fun _=> ?_;refine aq ?_;rw[Cw,Cw,Cw];refine hnext _ _ ?_;refine aq (Rp ho hd (by simp) ?_);have ho1:=Oi (Obj.mapFields (·.setIfInBounds 0 (rawInt (sl':Int)))) ho (Xg (Mr hd _));have hd1:=Mr hd (·.setIfInBounds 0 (rawInt (sl':Int)));refine aq (Rp ho1 hd1 (by simp) ?_);refine aO ⟨_,rfl,aO (hQ _ ⟨_,Oi _ ho1 (Xg (Mr hd1 _)),(YK ..).trans ((YK ..).trans hc),by rw[Mr hd1];simp[rawInt]⟩ ((wJ ..).trans (wJ ..)))⟩
theorem uy{I d:Addr}{es:Array (Int×ζ)}{ep:Nat}{t:ξ}{i sl:Nat}{Q:Option ζ->η->Prop}(hh:A.handled=none)(hit:aU s.heap I d (.int sl 0) i es.size ep)(S:aP w s.heap d es ep t)(hne:d≠I)(hnext:∀(Q':Option (ζ×Nat)->η->Prop) (E':L3),Q' none s->wpAny (model prog w) A.in1 (setNext d sl i ep) Q' E' s)(hQ:∀h',Heap.ExtBut I s.heap h'->Q none {s with heap:=h'}):wpAny (model prog w) A (pyNext (.ref I)) Q E s:=by
 obtain⟨o,ho,hc,hd⟩:=id hit;unfold pyNext;refine aq (Tv (Xh (name:=Str.ofString "__next__") hit.typeIs F.aD (Ju F.aD hit.typeIs F.cL ?_ (F.cV _))));unfold Builtin.«set_iterator.__next__»;refine aq (aO ?_);refine aq (WX ho hd ?_);refine aq (S.entries ?_);refine lO (fun hab=>absurd hab (by simp)) fun _=> ?_;refine aq ?_;rw[Cw,Cw,Cw];refine hnext _ _ ?_;refine aq (Rp ho hd (by simp) ?_);show wpAny _ _ (newExc (.type "StopIteration") []>>=_) _ _ _;refine aq ?_;simp only[newExc,newTuple];refine aq (Jb ?_ (by size_fits));refine aq (m:=firstArgMember _ _) (wpAny_of_eq (a:=Value.none) (by first |rfl|(simp only[firstArgMember];rfl)) ?_);refine Jb ?_ (by size_fits);simp only[raiseNew];refine aq (wpAny_handled ?_);rw[show A.in1.handled=none from hh];refine aq (aO (wpAny_throw ?_));refine aq (Rr (T:="StopIteration") (b:=true) ⟨_,jE _ rfl,rfl⟩ isSubtype_stop ?_);exact aO (hQ _ (((wJ ..).extBut.push _).push _))
theorem Walks.setInt(hh:A.handled=none)(I d:Addr)(hne:d≠I)(es:Array (Int×ζ))(ep:Nat)(t:ξ)(L:List ζ)(hL:L.length=es.size)(slot:Nat->Nat)(hnext:∀(i:Nat) (s:η) (Q':Option (ζ×Nat)->η->Prop) (E':L3),i<=es.size->aP w s.heap d es ep t->Q' ((L[i]?).map fun x=>(x,slot (i+1))) s->wpAny (model prog w) A.in1 (setNext d (slot i) i ep) Q' E' s):
  Walks prog w A I [I,d] [I] es.size (fun i v=>L[i]? =some v) (fun i h=>aU h I d (.int (slot i) 0) i es.size ep/\aP w h d es ep t) where
 sub:=fun b hb=>by simp at hb;simp[hb]
 frame:=fun _ _ _ st hk=>⟨st.1.at fun o e=>hk I (by simp) o e,st.2.at fun o e=>hk d (by simp) o e⟩
 item:=fun i s Q E hi st hQ=>by
  obtain⟨x,hx⟩:∃x,L[i]? =some x:=⟨L[i],by simp[hL,hi]⟩;refine rB (t:=t) (x:=x) (sl':=slot (i+1)) st.1 st.2 hne (fun Q' E' q=>hnext i s Q' E' (by omega) st.2 (by rw[hx];exact q)) fun h' hit' hs'=> ?_;exact hQ x h' s.toks hx ⟨hit',st.2.at fun o e=>hs'.extBut d o hne e⟩ fun b o hb e=>hs'.extBut b o (fun h=>hb (by simp[h])) e
 done:=fun s Q E st hQ=>uy hh st.1 st.2 hne (fun Q' E' q=>hnext _ s Q' E' (aB _) st.2 (by rw[Jo (by omega)];exact q)) fun h' he'=>hQ h' s.toks fun b o hb e=>he' b o (fun h=>hb (by simp[h])) e
 self:=fun _ _ _ _ st hQ=>jJ st.1 hQ
theorem gJ{T:Addr}{its:Array ζ}{Q:Option (Array ζ)->η->Prop}(h:s.heap.IsTuple T its)(q:Q (some its) s):wpAny (model prog w) A (seqItems? (.ref T)) Q E s:=by
 obtain⟨o,ho,hc,n,hd⟩:=h;unfold seqItems?;dsimp only;refine aq (wpAny_load ho ?_);rw[hd];exact aO q
theorem qe{I d T:Addr}{es:Array (Int×ζ)}{ep:Nat}{t:ξ}{i p:Nat}{x:Int×ζ}{its:Array ζ}{Q:Option ζ->η->Prop}(hit:aU s.heap I d (.ref T) i es.size ep)(S:aP w s.heap d es ep t)(hT:s.heap.IsTuple T its)(hp:its[i]? =some (.int p 0))(hx:es[p]? =some x)(hQ:∀h',aU h' I d (.ref T) (i+1) es.size ep->Heap.SameBut I s.heap h'->Q (some x.2) {s with heap:=h'}):wpAny (model prog w) A (pyNext (.ref I)) Q E s:=by
 obtain⟨o,ho,hc,hd⟩:=id hit;unfold pyNext;refine aq (Tv (Xh (name:=Str.ofString "__next__") hit.typeIs F.aD (Ju F.aD hit.typeIs F.cL ?_ (F.cV _))));unfold Builtin.«set_iterator.__next__»;refine aq (aO ?_);refine aq (WX ho hd ?_);refine aq (S.entries ?_);refine lO (fun hab=>absurd hab (by simp)) fun _=> ?_;refine aq (gJ hT ?_);dsimp only;rw[Cw,hp];dsimp only;refine aq ?_;unfold setNextDrawn;refine aq (S.state ?_);refine lO (fun hab=>absurd hab (by simp)) fun _=> ?_;rw[Cw,hx];refine aO ?_;refine aq (Rp ho hd (by simp) ?_);refine aO ⟨_,rfl,aO (hQ _ ⟨_,Oi _ ho (Xg (Mr hd _)),(YK ..).trans hc,by rw[Mr hd];simp[rawInt]⟩ (wJ ..))⟩
theorem rC{I d T:Addr}{es:Array (Int×ζ)}{ep:Nat}{t:ξ}{i:Nat}{its:Array ζ}{Q:Option ζ->η->Prop}(hh:A.handled=none)(hit:aU s.heap I d (.ref T) i es.size ep)(S:aP w s.heap d es ep t)(hT:s.heap.IsTuple T its)(hp:its[i]? =none)(hQ:∀h',Heap.ExtBut I s.heap h'->Q none {s with heap:=h'}):wpAny (model prog w) A (pyNext (.ref I)) Q E s:=by
 obtain⟨o,ho,hc,hd⟩:=id hit;unfold pyNext;refine aq (Tv (Xh (name:=Str.ofString "__next__") hit.typeIs F.aD (Ju F.aD hit.typeIs F.cL ?_ (F.cV _))));unfold Builtin.«set_iterator.__next__»;refine aq (aO ?_);refine aq (WX ho hd ?_);refine aq (S.entries ?_);refine lO (fun hab=>absurd hab (by simp)) fun _=> ?_;refine aq (gJ hT ?_);dsimp only;rw[Cw,hp];dsimp only;refine aq (Rp ho hd (by simp) ?_);have ho1:=Oi (Obj.mapFields (·.setIfInBounds 0 (rawInt 0))) ho (Xg (Mr hd _));have hd1:=Mr hd (·.setIfInBounds 0 (rawInt 0));refine aq (Rp ho1 hd1 (by simp) ?_);show wpAny _ _ (newExc (.type "StopIteration") []>>=_) _ _ _;refine aq ?_;simp only[newExc,newTuple];refine aq (Jb ?_ (by size_fits));refine aq (m:=firstArgMember _ _) (wpAny_of_eq (a:=Value.none) (by first |rfl|(simp only[firstArgMember];rfl)) ?_);refine Jb ?_ (by size_fits);simp only[raiseNew];refine aq (wpAny_handled ?_);rw[show A.in1.handled=none from hh];refine aq (aO (wpAny_throw ?_));refine aq (Rr (T:="StopIteration") (b:=true) ⟨_,jE _ rfl,rfl⟩ isSubtype_stop ?_);exact aO (hQ _ ((((wJ ..).trans (wJ ..)).extBut.push _).push _))
theorem Walks.setRef(hh:A.handled=none)(I d T:Addr)(hne:d≠I)(hTI:T≠I)(es:Array (Int×ζ))(ep:Nat)(t:ξ)(ps:List Nat)(hps:ps.Perm (List.range es.size)):
  Walks prog w A I [I,d,T] [I] es.size (fun i v=>∃p x,ps[i]? =some p/\es[p]? =some x/\v=x.2) (fun i h=>aU h I d (.ref T) i es.size ep/\aP w h d es ep t/\h.IsTuple T (ps.map fun(p:Nat)=>Value.int p 0).toArray) where
 sub:=fun b hb=>by simp at hb;simp[hb]
 frame:=fun _ _ _ st hk=>⟨st.1.at fun o e=>hk I (by simp) o e,st.2.1.at fun o e=>hk d (by simp) o e,let⟨o,ho,r⟩:=st.2.2;⟨o,hk T (by simp) o ho,r⟩⟩
 item:=fun i s Q E hi st hQ=>by
  have hl:ps.length=es.size:=by rw[hps.length_eq,pZ]
  obtain⟨p,hp⟩:∃p,ps[i]? =some p:=⟨ps[i],by simp[hl,hi]⟩;have hlt:p<es.size:=nM.mp (hps.mem_iff.mp (pO hp));refine qe (t:=t) (p:=p) (x:=es[p]) st.1 st.2.1 st.2.2 (by simp[hp]) (yW hlt) fun h' hit' hs'=> ?_;exact hQ _ h' s.toks ⟨p,_,hp,yW hlt,rfl⟩ ⟨hit',st.2.1.at fun o e=>hs'.extBut d o hne e,let⟨o,ho,r⟩:=st.2.2;⟨o,hs'.extBut T o hTI ho,r⟩⟩ fun b o hb e=>hs'.extBut b o (fun h=>hb (by simp[h])) e
 done:=fun s Q E st hQ=>rC hh st.1 st.2.1 st.2.2 (by simp[hps.length_eq]) fun h' he'=>hQ h' s.toks fun b o hb e=>he' b o (fun h=>hb (by simp[h])) e
 self:=fun _ _ _ _ st hQ=>jJ st.1 hQ
noncomputable def Ax(first:ζ)(d:Addr)(n ep:Nat):Obj:={cls:= .type "set_iterator",dict:=none,data:= .fields #[first,.int 0 0,.ref d,.int n 0,.int ep 0]}
noncomputable def jP(ps:List Nat):Obj:={cls:= .type "tuple",dict:=none,data:= .seq (ps.map fun(p:Nat)=>Value.int p 0).toArray}
theorem aP.push{h:Heap}{d:Addr}{es:Array (Int×ζ)}{ep:Nat}{t:ξ}(S:aP w h d es ep t)(o:Obj):aP w (h.push o) d es ep t:=S.at fun _ e=>dH _ e
theorem Gx{d:Addr}{es:Array (Int×ζ)}{ep:Nat}{t:ξ}{Q:L3}(S:aP w s.heap d es ep t)(hz:es.size<=1000)(hA:(w.params.followText "set-order"=true\/(!t.plain&&decide (es.size>1))=false)->Q (.ref s.heap.objs.size) {s with heap:=s.heap.push (Ax (.int 0 0) d es.size ep)})(hB:∀ps dr,ps.Perm (List.range es.size)->Q (.ref (s.heap.objs.size+1)) {s with heap:=(s.heap.push (jP ps)).push (Ax (.ref s.heap.objs.size) d es.size ep),drawn:=dr}):
  wpAny (model prog w) A (pyIter (.ref d)) Q E s:=by
 refine wpAny_pyIter_slot S.typeIs F.slot_set_iter (Ju F.slot_set_iter S.typeIs F.mK ?_ (F.args_set_iter_1 _));unfold Builtin.«frozenset.__iter__»;refine aq (aO ?_);refine aq ?_;unfold Builtin.Frozenset.sizeOf;refine aq (S.entries (aO ?_));refine aq ?_;unfold setDrawn;refine aq (S.state (aq (Oe (aO ?_))));have NP:∀{s':η} {Q':Nat->η->Prop} {E':L3},aP w s'.heap d es ep t->Q' ep s'->wpAny (model prog w) A.in1 (setEpoch d) Q' E' s':=fun S' q=>by
  unfold setEpoch;exact aq (S'.state (aO q))
 refine lO (fun hab=> ?_) fun hab=> ?_
 ·refine aq (X4 _ _ (by simp) fun ps dr hp=> ?_);refine aq ?_;simp only[newTuple];refine Jb ?_ (show(ps.map fun(i:Nat)=>rawInt (i:Int)).toArray.size<=sizeLine from by
   have:=hp.length_eq;rw[pZ]at this;rw[dW,aH,gA];omega)
  refine aq (NP (S.push _) ?_);simp only[newFields];refine aq (Jb ?_ (by size_fits));have q:=hB ps dr hp;refine aO ⟨_,rfl,"set_iterator",_,⟨_,jE _ rfl,rfl⟩,F.aD.lookup,?_⟩;rw[wF];exact q
 ·refine aq (aO ?_);refine aq (NP S ?_);simp only[newFields];refine aq (Jb ?_ (by size_fits));refine aO ⟨_,rfl,"set_iterator",_,⟨_,jE _ rfl,rfl⟩,F.aD.lookup,hA ?_⟩;have hab:¬(!w.params.followText "set-order"&&(!t.plain&&decide (es.size>1)))=true:=hab;cases hb:w.params.followText "set-order" with
  |true=>exact .inl rfl
  |false=>rw[hb]at hab;exact .inr (by simpa using hab)
theorem GD{d:Addr}{es:Array (Int×ζ)}{ep:Nat}{t:ξ}{Q:Bool->η->Prop}(S:aP w s.heap d es ep t)(h:Q false s):wpAny (model prog w) A (Builtin.List.listLengthHint (.ref d)) Q E s:=by
 have hT:s.TypeIs (.ref d) "set":=S.typeIs;unfold Builtin.List.listLengthHint;refine aq (wpAny_specialOf hT F.slot_set_len.lookup ?_);generalize hid:("set.__len__":String)=id0
 wp_delta
 rw[show splitId id0=some ("set","__len__")from by subst hid;decide+kernel];subst hid;refine aq (Rr (T:="set") (b:=true) hT (by rw[isSubtype_type];kernel_rfl) ?_);refine lO (fun hab=>absurd hab (by decide)) (fun _=> ?_);refine lO (fun _=> ?_) (fun hab=>absurd (by decide+kernel) hab);refine aq (wpAny_typeOf hT ?_);exact aO h
theorem jr{L:List ζ}{acc:Array ζ}(h:ItemsOf (fun i v=>L[i]? =some v) acc L.length):acc.toList=L:=by
 refine Sy fun i=> ?_;by_cases c:i<acc.size
 ·have e:acc.toList[i]? =some acc[i]:=by rw[Jp,yW c]
  rw[e];exact(h.2 i _ (by rw[yW c])).symm
 ·have:=h.1;rw[Jo (by simpa using c),Jo (by omega)]
theorem gU{α:Type}(xs:Array α){ps:List Nat}(hp:ps.Perm (List.range xs.size)):(ps.filterMap fun p=>xs[p]?).Perm xs.toList:=by
 refine(hp.filterMap _).trans ?_;have e:(List.range xs.size).filterMap (fun p=>xs[p]?)=xs.toList:=by
  have key:∀(l:List α),(List.range l.length).filterMap (fun p=>l[p]?)=l:=by
   intro l
   induction l with
   |nil=>rfl
   |cons x l ih=>
    rw[nO,List.range_succ_eq_map,SX,List.filterMap_map];show x::(List.range l.length).filterMap (fun p=>l[p]?)=x::l;rw[ih]
  have:=key xs.toList;simpa using this
 rw[e]
theorem Hj{α:Type}(xs:Array α):∀(pl:List Nat),(∀p∈pl,p<xs.size)->∀i:Nat,(pl.filterMap fun p=>xs[p]?)[i]? =(pl[i]?).bind fun p=>xs[p]?
 |[],_,i=>by simp
 |p::pl,h,i=>by
  have hp:=h p gG;rw[SX,yW hp];cases i with
  |zero=>simp[hp]
  |succ i=>simpa using Hj xs pl (fun q hq=>h q (eV _ hq)) i
theorem yc{R:Result->η->Prop}{d:Addr}{es:Array (Int×ζ)}{ep:Nat}{t:ξ}(hh:A.handled=none)(S:aP w s.heap d es ep t)(hz:es.size<=1000)(l:Addr)(res:ζ)(c₀:Nat)(hl:s.heap.get? l=some {cls:= .type "list",data:= .seq #[] c₀})(hR:∀h' tk dr acc' c',(∀b o,b≠l->s.heap.get? b=some o->h'.get? b=some o)->h'.get? l=some {cls:= .type "list",dict:=none,data:= .seq acc' c',slots:=#[]}->
   acc'.toList.Perm (es.toList.map (·.2))->R (.ok (.ret res)) {s with heap:=h',toks:=tk,drawn:=dr}):
  wpAny (model prog w) A.in1 (Builtin.List.listExtendWith (.ref l) (.ref d) res)
   (fun fin s'=>match fin with | .done f=>R (.ok f) s'| .again c'=>c'.quiet=true/\codeAny (model prog w) A c' R s') (fun e s'=>R (.error e) s') s:=by
 obtain⟨od,ho,hx,hdat⟩:=S.ob;have Xv:l≠d:=fun e=>by
  rw[e,ho]at hl;cases hl;cases hdat
 have GC:l<s.heap.objs.size:=cO hl;have QB:d<s.heap.objs.size:=cO ho;have ps:t.place.size=es.size:=by have:=S.fits;unfold SetTable.fits at this;simp at this;exact this.1
 -- from a walk that stands at its start
 have key:∀(h:Heap) (I:Addr) (fp:List Addr) (P:Nat->ζ->Prop) (St:Nat->Heap->Prop) (dr:Drawn) (W:Walks prog w A.in1 I fp [I] es.size P St),l∉fp->s.heap.objs.size<=I->(∀acc,ItemsOf P acc es.size->acc.toList.Perm (es.toList.map (·.2)))->
   aP w h d es ep t->(∀b o,s.heap.get? b=some o->h.get? b=some o)->St 0 h->
   wpAny (model prog w) A.in1 (do
     let room<-holding [Value.ref I] (Builtin.List.listLengthHint (.ref d))
     if(room||true)=true then do rule "list.extend.makes-room";Builtin.List.listTouch (.ref l)
     again (.builtin "list.extend.loop" ⟨[.ref l,.ref I,res],[]⟩))
    (fun fin s'=>match fin with | .done f=>R (.ok f) s'| .again c'=>c'.quiet=true/\codeAny (model prog w) A c' R s') (fun e s'=>R (.error e) s') {s with heap:=h,drawn:=dr}:=by
  intro h I fp P St dr W hlf hI hP hS hk st;have hlI:l≠I:=cN (gq GC hI);refine aq (Ak (GD (s:={s with heap:=h,drawn:=dr}) hS ?_));refine lO (fun _=> ?_) (fun hab=>absurd rfl hab);refine aq (Dm ?_);refine aq ?_;show wpAny _ _ (updateSeq l (·.push .none)>>=fun _=>updateSeq l (·.pop)) _ _ _;have hl1:=hk _ _ hl;refine aq (wpAny_updateSeq hl1 rfl ?_);have hl2:=Oi (Obj.mapSeq (·.push Value.none)) hl1 rfl;refine wpAny_updateSeq (hz:=by seq_fits) hl2 rfl ?_;have hl3:=Oi (Obj.mapSeq (·.pop)) hl2 rfl;have keep:∀b o,b≠l->h.get? b=some o->((h.update l (Obj.mapSeq (·.push Value.none))).update l (Obj.mapSeq (·.pop))).get? b=some o:=fun b o hb e=>(Td _ _ (iU hb)).trans ((Td _ _ (iU hb)).trans e);have st':=W.frame 0 _ _ st fun b hb o e=>keep b o (fun q=>hlf (q▸hb)) e;refine aO ⟨plainId_quiet F.plain_extend_loop _,?_⟩;refine codeAny_extend_loopS W.toS (by rw[gA];omega) l hlf res es.size 0 _ #[] _ rfl (cg _) st' hl3 (ItemsOf.nil _) fun s' acc' c' hmv hS' hacc=> ?_;rw[Moved.eq_with hmv];refine hR s'.heap s'.toks dr acc' c' (fun b o hb e=>hmv.heap b o (fun hmem=> ?_) (keep b o hb (hk b o e))) hS' (hP acc' hacc);rcases dU.mp hmem with e'|hmem
  ·exact hb e'
  ·have:=cO e;rw[kI.mp hmem]at this;exact absurd (gq this hI) (tL _)
 unfold Builtin.List.listExtendWith;refine aq (wpAny_typeOf (T:="set") S.typeIs ?_);have h1:Builtin.List.listSameRef (.ref l) (.ref d)=false:=by simp[Builtin.List.listSameRef,Xv]
 have h2:(Value.type "set"==Value.type "list")=false:=by decide
 have h3:(Value.type "set"==Value.type "tuple")=false:=by decide
 simp only[h1,h2,h3,Bool.or_false,Am,yX];refine aq (Gx S hz (fun hm=> ?_) fun pl dr hp=> ?_)
 ·by_cases hb:w.params.followText "set-order"=true
  ·have W:=Walks.setInt (prog:=prog) (w:=w) (A:=A.in1) hh s.heap.objs.size d (cN QB) es ep t ((pickOrder (w.params.setOrder d ep) es).toList.map (·.2)) (by rw[aH,(iH _ es).length_eq,mJ]) (fun _=>0)
    (fun i s Q' E' _ S' q=>Bu S' hb (by rw[dX,Option.map_map,Jp]at q;exact q))
   have k:=key (s.heap.push (Ax (.int 0 0) d es.size ep)) _ _ _ _ s.drawn W (by simp;exact⟨cN GC,Xv⟩) (aB _) (fun acc ha=>by
     have e:=jr (L:=(pickOrder (w.params.setOrder d ep) es).toList.map (·.2)) (acc:=acc) (by rw[aH,(iH _ es).length_eq,mJ];exact ha);rw[e];exact(iH _ es).map _) (S.push _) (fun b o e=>dH _ e) ⟨⟨_,jE _ rfl,rfl,rfl⟩,S.push _⟩
   exact k
  ·have hb:w.params.followText "set-order"=false:=by simpa using hb
   have hd:(!t.plain&&decide (es.size>1))=false:=hm.resolve_left (by rw[hb];decide);have W:=Walks.setInt (prog:=prog) (w:=w) (A:=A.in1) hh s.heap.objs.size d (cN QB) es ep t (es.toList.map (·.2)) (by simp) (bC t)
    (fun i s Q' E' hi S' q=>Bv S' hb hd hi (by rw[dX,Option.map_map,Jp]at q;exact q))
   have k:=key (s.heap.push (Ax (.int 0 0) d es.size ep)) _ _ _ _ s.drawn W (by simp;exact⟨cN GC,Xv⟩) (aB _) (fun acc ha=>by
     have e:=jr (L:=es.toList.map (·.2)) (acc:=acc) (by rw[aH,mJ];exact ha);rw[e]) (S.push _) (fun b o e=>dH _ e) ⟨⟨_,jE _ rfl,rfl,rfl⟩,S.push _⟩
   exact k
 ·have W:=Walks.setRef (prog:=prog) (w:=w) (A:=A.in1) hh (s.heap.objs.size+1) d s.heap.objs.size (cN (m6 QB)) (cN (pL _)) es ep t pl hp;have g0:(s.heap.push (jP pl)).get? s.heap.objs.size=some (jP pl):=jE _ rfl;have k:=key ((s.heap.push (jP pl)).push (Ax (.ref s.heap.objs.size) d es.size ep)) _ _ _ _ dr W (by simp;exact⟨cN (m6 GC),Xv,cN GC⟩) (Jk _) (fun acc ha=>by
    have hl':pl.length=es.size:=by rw[hp.length_eq,pZ]
    have e:acc.toList=(pl.filterMap fun p=>es[p]?).map (·.2):=by
     have ll:((pl.filterMap fun p=>es[p]?).map (·.2)).length=es.size:=by rw[aH,(gU es hp).length_eq,mJ]
     refine jr (L:=(pl.filterMap fun p=>es[p]?).map (·.2)) ?_;rw[ll];refine⟨ha.1,fun i v hv=> ?_⟩;obtain⟨p,x,q1,q2,rfl⟩:=ha.2 i v hv;rw[dX,Hj es pl (fun p hp'=>nM.mp (hp.mem_iff.mp hp')),q1];show(es[p]?).map _=_;rw[q2];rfl
    rw[e];exact(gU es hp).map _) ((S.push _).push _) (fun b o e=>dH _ (dH _ e))
    ⟨⟨Ax (.ref s.heap.objs.size) d es.size ep,by rw[<-wF s.heap (jP pl)];exact jE _ rfl,rfl,rfl⟩,(S.push _).push _,⟨_,dH _ g0,rfl,_,rfl⟩⟩
  exact k
end
end PySem
namespace PySem
open L2 (TabOk j8 Gu uH jc)
section
variable{prog:ρ}{w:υ}{A:Around}{E:L3}{s:η}
noncomputable def aQ(prog:ρ)(w:υ)(h:Heap)(d:Addr)(S:Int->Bool)(n:Nat):Prop:=
 ∃o es ep t,h.get? d=some o/\o.ExactSet/\o.data= .set es ep t/\ElemsOf (intKind prog w) es.toList/\(∀k,S k=true↔∃e∈es.toList,(intKind prog w).is k e.2=true)/\es.size<scanBound/\t.fits es.size=true/\es.size=n/\TabOk (!w.params.followText "set-order") t
theorem aQ.at{h h':Heap}{d:Addr}{S:Int->Bool}{n:Nat}(g:aQ prog w h d S n)(e:∀o,h.get? d=some o->h'.get? d=some o):aQ prog w h' d S n:=let⟨o,es,ep,t,ho,r⟩:=g;⟨o,es,ep,t,e _ ho,r⟩
theorem aQ.congr{h:Heap}{d:Addr}{S S':Int->Bool}{n n':Nat}(g:aQ prog w h d S n)(e:∀k,S k=S' k)(en:n=n'):aQ prog w h d S' n':=by
 have:S=S':=funext e;subst this;subst en;exact g
theorem aQ.store{h:Heap}{d:Addr}{o:Obj}{es:Array (Int×ζ)}{ep:Nat}{t:ξ}(ho:h.get? d=some o)(hx:o.ExactSet)(hd:o.data= .set es ep t)
  {es':Array (Int×ζ)}{t':ξ}{S:Int->Bool}(el:ElemsOf (intKind prog w) es'.toList)(mem:∀k,S k=true↔∃e∈es'.toList,(intKind prog w).is k e.2=true)(lt:es'.size<scanBound)(ft:t'.fits es'.size=true)(tb:TabOk (!w.params.followText "set-order") t'):
  (h.update d (Obj.putSet es' t')).get? d=some {o with data:= .set es' (ep+1) t'}/\aQ prog w (h.update d (Obj.putSet es' t')) d S es'.size:=by
 obtain⟨g,_⟩:=SetOf_store (knd:=intKind prog w) ho hx hd el mem lt ft;exact⟨g,_,es',ep+1,t',g,hx,rfl,el,mem,lt,ft,rfl,tb⟩
theorem zf{gw:Bool->Sem Unit}(hg:∀(b:Bool) (s₁:η) (Q':Unit->η->Prop),Q' () s₁->wpAny (model prog w) A (gw b) Q' E s₁){d:Addr}{o:Obj}{es:Array (Int×ζ)}{ep:Nat}{t:ξ}(ho:s.heap.get? d=some o)(hx:o.ExactSet)(hd:o.data= .set es ep t){es1:Array (Int×ζ)}{t1:ξ}{S:Int->Bool}(el:ElemsOf (intKind prog w) es1.toList)(mem:∀k,S k=true↔∃e∈es1.toList,(intKind prog w).is k e.2=true)(lt:es1.size<scanBound)(ft:t1.fits es1.size=true)(tb:TabOk (!w.params.followText "set-order") t1){was:Bool}{R:Option Bool->η->Prop}(q:∀h',Heap.SameBut d s.heap h'->aQ prog w h' d S es1.size->R (some true) {s with heap:=h'}):
  wpAny (model prog w) A (do
    storeSet d es1 t1
    if(!was&&t1.tooFull)=true then do
      gw (relayAll t1 es1 (SetTable.grown es1.size)).2.2
      storeSet d (relayAll t1 es1 (SetTable.grown es1.size)).1 (relayAll t1 es1 (SetTable.grown es1.size)).2.1
      pure (some true)
     else pure (some true)) R E s:=by
 refine aq (YJ ho hd ?_ (YH lt));obtain⟨g1,G1⟩:=aQ.store (prog:=prog) (w:=w) ho hx hd el mem lt ft tb;have b1:=wJ s.heap d (Obj.putSet es1 t1);refine lO (fun _=> ?_) fun _=>aO (q _ b1 G1);have pm:=relayAll_perm t1 es1 (SetTable.grown es1.size);have ff:=relayAll_fits t1 es1 (SetTable.grown es1.size);have tt:=uH tb es1 (SetTable.grown es1.size);generalize relayAll t1 es1 (SetTable.grown es1.size)=r at pm ff tt⊢;obtain⟨es2,t2,gv⟩:=r;dsimp only at pm ff tt⊢;have sz:es2.size=es1.size:=by rw[<-mJ,pm.length_eq,mJ]
 refine aq (hg _ _ _ (aq (YJ g1 rfl ?_ (YH (by rw[sz];exact lt)))));obtain⟨_,G2⟩:=aQ.store (prog:=prog) (w:=w) (S:=S) g1 hx rfl (el.perm pm) (fun k=>(mem k).trans ⟨fun⟨e,he,z⟩=>⟨e,pm.mem_iff.mpr he,z⟩,fun⟨e,he,z⟩=>⟨e,pm.mem_iff.mp he,z⟩⟩) (by rw[sz];exact lt) ff tt;rw[sz]at G2;exact aO (q _ (b1.trans (wJ _ d _)) G2)
theorem HX{d:Addr}{S:Int->Bool}{n:Nat}{k:Int}{x:ζ}{Q:Bool->η->Prop}(hk:(intKind prog w).is k x=true)(hs:x.scannable=true)(G:aQ prog w s.heap d S n)(room:n+1<scanBound)(q:∀h' b,Heap.SameBut d s.heap h'->aQ prog w h' d (fun k'=>S k'||decide (k'=k)) (if S k then n else n+1)->Q b {s with heap:=h'}):wpAny (model prog w) A (setAddHashed d x ((intKind prog w).hash k)) Q E s:=by
 obtain⟨o,es,ep,t,ho,hx,hd,el,mem,lt,ft,en,tb⟩:=G;unfold setAddHashed setAddHashedIn;refine Ak (aq (Xd ho hd ft ?_));dsimp only;rw[byScan_of hs lt el];simp only[↓reduceIte];unfold setAddByScan;refine aq (aq (Dm (aq (wpAny_setScan_of hk ho hd ft el ?_))));cases z:List.findIdx? (fun e=>(intKind prog w).is k e.2) es.toList with
 |some j=>
  obtain⟨hj,pj,_⟩:=List.findIdx?_eq_some_iff_getElem.mp z;have yes:S k=true:=(mem k).mpr ⟨es.toList[j],tY hj,pj⟩;refine aO (aO ?_);have r:=q s.heap false (Rt d s.heap) ⟨o,es,ep,t,ho,hx,hd,el,fun k'=>by
   rw[WY,Dq,<-mem k'];exact⟨fun y=>y.elim id fun e=>e▸yes,.inl⟩,lt,ft,by rw[yes];exact en,tb⟩
  exact r
 |none=>
  dsimp only;have no:S k=false:=by
   cases y:S k with
   |false=>rfl
   |true=>
    obtain⟨e,he,p⟩:=(mem k).mp y;have:=List.findIdx?_eq_none_iff.mp z e he;rw[p]at this;cases this
  have gwk:∀(b:Bool) (s₁:η) (Q':Unit->η->Prop),Q' () s₁->wpAny (model prog w) A (match b with |true=>rule "set.scan.the-table-gave-way"|false=>pure ()) Q' E s₁:=fun b s₁ Q' y=>by cases b<;>first |exact aO y|exact Dm y
  have pm:=layNew_perm t es ((intKind prog w).hash k) x;have ff:=layNew_fits t es ((intKind prog w).hash k) x;have tt:=Gu tb es ((intKind prog w).hash k) x;generalize layNew t es ((intKind prog w).hash k) x=r at pm ff tt⊢;obtain⟨es1,t1,was,gv⟩:=r;dsimp only at pm ff tt⊢;rw[Xe]at pm;have el1:ElemsOf (intKind prog w) es1.toList:=(el.push hk hs).perm pm;have Qn:=mem_push_iff (knd:=intKind prog w) hk mem pm;have sz:es1.size=n+1:=by rw[<-mJ,pm.length_eq,p7,mJ,en];rfl
  have RD:es1.size<scanBound:=by rw[sz];exact room
  refine aq (gwk _ _ _ ?_);have fin:∀h',Heap.SameBut d s.heap h'->aQ prog w h' d (fun k'=>S k'||decide (k'=k)) es1.size->wpAny (model prog w) A (match some true with |some added=>pure added|none=>setAddHashedIn d x ((intKind prog w).hash k) 99999) Q E {s with heap:=h'}:=fun h' sb g=>by
   have r:=q h' true sb (by rw[no];rw[sz]at g;exact g);exact aO r
  split
  ·refine aq ?_;rw[hashByValue_scannable 8 hs];refine aO (zf gwk ho hx hd el1 Qn RD ?_ ?_ fin)
   ·split
    ·exact ff
    ·exact SetTable.fits_plain_off ff
   ·split
    ·exact tt
    ·exact jc tt
  ·refine aq (aO ?_);simp only[↓reduceIte];exact zf gwk ho hx hd el1 Qn RD ff tt fin
end
end PySem
namespace L2
open PySem PySem.Spec PyProof.Rows
section
variable{prog:ρ}{w:υ}{A:Around}{E:L3}{s:η}
theorem iW(a:ζ){Q₁:L3}(h:Q₁ (.ref s.heap.objs.size) {s with heap:=s.heap.push {cls:= .type "set",dict:=none,data:= .set #[] 0 (.fresh 0 0 (!w.params.followText "set-order"))}}):
  codeAny (model prog w) A (.call (.builtin "set.__new__") ⟨[.type "set",a],[]⟩) (wants Q₁ E) s:=by
 refine Yt ?_;show wpAny _ A.in1 (do checkBuiltinCall "set.__new__" ⟨[.type "set",a],[]⟩;again (.builtin "set.__new__" ⟨[.type "set",a],[]⟩)) _ _ s;refine aq (wpAny_of_eq (PySem.F.newCall_set_1 a) (aO ⟨plainId_quiet wgd _,Oq PySem.F.entry_set_new ?_⟩));rw[Xf wgd _];unfold Builtin.«set.__new__» Builtin.Frozenset.newClass;have hsub:=WK;obtain⟨hp,g,d,tk,os⟩:=s;dsimp only
 wp_walk
 refine W7 (aO ?_);dsimp only;simp only[newObj];refine aq (wpAny_alloc (aO ?_));exact aO h
end
section
variable{prog:ρ}{w:υ}{A:Around}{R:Result->η->Prop}{I:Addr}{fp wr:List Addr}{G:Array GenState->Array GenState->Prop}{n:Nat}{P:Nat->ζ->Prop}{St:Nat->η->Prop}
theorem Nm(W:WalksS prog w A.in1 I fp wr G n P St)(D:Addr)(hD:D∉fp)(val:Nat->Int)(hv:∀i v,P i v->∃t,v= .int (val i) t)(hb:n+1<scanBound):
  ∀(k i:Nat) (s:η),n-i=k->i<=n->St i s->aQ prog w s.heap D (fun k'=>(firstMet val i).any (· ==k')) (firstMet val i).length->
   (∀s',Moved (D::wr) G s s'->aQ prog w s'.heap D (fun k'=>(firstMet val n).any (· ==k')) (firstMet val n).length->R (.ok (.ret .none)) s')->
   codeAny (model prog w) A (.builtin "set.update.loop" ⟨[.ref D,.ref I],[]⟩) R s:=by
 have hw:D∉wr:=fun h=>hD (W.sub _ h);have sub:∀b∈wr,b∈D::wr:=fun b hb=>eV _ hb;intro k
 induction k with
 |zero=>
  intro i s hk hi st g hR;obtain rfl:i=n:=by omega
  refine Oq wcg ?_;rw[Xf Zm _];show wpAny _ A.in1 (pyNext (.ref I)>>=_) _ _ s;refine aq (W.done s _ _ st fun s' hm=> ?_);show wpAny _ A.in1 (ret Value.none) _ _ s';exact aO (hR s' (hm.mono sub) (g.at fun o e=>hm.heap D _ hw e))
 |succ k ih=>
  intro i s hk hi st g hR;have lt:i<n:=by omega
  refine Oq wcg ?_;rw[Xf Zm _];show wpAny _ A.in1 (pyNext (.ref I)>>=_) _ _ s;refine aq (W.item i s _ _ lt st fun v s' hP st' hm=> ?_);obtain⟨t,rfl⟩:=hv i v hP;have g':=g.at (h':=s'.heap) fun o e=>hm.heap D _ hw e;show wpAny _ A.in1 (holding [Value.int (val i) t] (setAdd D (.int (val i) t))>>=_) _ _ s';refine aq (Ak ?_);unfold setAdd;refine Ak (aq ((intKind prog w).pyHash (k:=val i) (intKind_is _ _ _ _) ?_));refine HX (s:={s' with toks:=s'.toks+1}) (intKind_is _ _ _ _) rfl g' (by have:=YT val i;omega) fun h' _ sb g2=> ?_;refine aO ⟨plainId_quiet Zm _,ih (i+1) _ (by omega) lt (W.frame _ s' _ _ st' (Jk _) fun b hb o e=> ?_) (g2.congr (fun k'=>by rw[wfi,step_any]) (by rw[wfi,step_length])) fun s'' hm'' g3=> ?_⟩
  ·rw[sb.2 b (fun h:b=D=>hD (by rw[<-h];exact hb))];exact e
  ·refine hR s'' (Moved.trans W.gtrans ((hm.mono sub).then_heap (Jk _) fun b o hb e=> ?_) hm'') g3;rw[sb.2 b (fun h:b=D=>hb (by rw[h];exact gG))];exact e
end
section
variable{prog:ρ}{w:υ}{A:Around}{E:L3}{s:η}
theorem n6{t:Addr}{its:Array ζ}{ns:List Int}{Q:L3}(hA:A.handled=none)(ht:s.heap.IsTuple t its)(hI:PyProof.Rows.IntsAre its.toList ns)(hz:its.size+1<scanBound)(fin:∀(g:Heap) (tk:Nat),aQ prog w g s.heap.objs.size (fun k'=>(firstMet (fun i=>ns.getD i 0) its.size).any (· ==k')) (firstMet (fun i=>ns.getD i 0) its.size).length->(∀b o,b<s.heap.objs.size->s.heap.get? b=some o->g.get? b=some o)->Q (.ref s.heap.objs.size) {s with heap:=g,toks:=tk}):
  wpAny (model prog w) A (call (.type "set") [.ref t]) Q E s:=by
 obtain⟨c,tl,q1⟩:=F.called_set.mro;have q2:=F.called_set.made;have q3:=F.called_set.sub;refine wpAny_call (Yt ?_);show wpAny _ _ (callAny (.type "set") _) _ _ _;refine aO ⟨YS _ (by decide+kernel),Oq wfj ?_⟩;rw[Around.under_plain (weight_type_call_type "set" [.ref t] []) rfl];have q4:=F.called_set.notType;have q5:=F.called_set.canCreate;have q6:=F.typeCall_set_1 (.ref t)
 repeat(any_goals(first |assumption|wp_step))
 refine Mp (iW (.ref t) (E:=E) (Q₁:=fun ob u=>ob= .ref s.heap.objs.size/\u={s with heap:=s.heap.push {cls:= .type "set",dict:=none,data:= .set #[] 0 (.fresh 0 0 (!w.params.followText "set-order"))}}) ⟨rfl,rfl⟩) fun r u hr=> ?_;cases r with
 |error e=>exact hr
 |ok fl=>
  cases fl with
  |ret obj=>
   obtain⟨rfl,rfl⟩:=hr;generalize Qx:(!w.params.followText "set-order")=led at *;have g0:(s.heap.push {cls:= .type "set",dict:=none,data:= .set #[] 0 (.fresh 0 0 led)}).get? s.heap.objs.size=some {cls:= .type "set",dict:=none,data:= .set #[] 0 (.fresh 0 0 led)}:=jE _ rfl;have g1:Shared.TypeIs {s with heap:=s.heap.push {cls:= .type "set",dict:=none,data:= .set #[] 0 (.fresh 0 0 led)}} (.ref s.heap.objs.size) "set":=⟨_,g0,rfl⟩;have q7:=F.called_set.init.lookup;have q8:=F.called_set.init.bind (.ref s.heap.objs.size)
   repeat(any_goals(first |assumption|wp_step))
   refine Mp (codeAny_call_builtin (R:=wants (fun r s₂=>r= .none/\∃g tk,s₂={s with heap:=g,toks:=tk}/\aQ prog w g s.heap.objs.size (fun k'=>(firstMet (fun i=>ns.getD i 0) its.size).any (· ==k')) (firstMet (fun i=>ns.getD i 0) its.size).length/\(∀b o,b<s.heap.objs.size->s.heap.get? b=some o->g.get? b=some o)) E) F.called_set.init.plain F.entry_set_init (check_set_init_1 g1 ?_)) fun r₂ s₂ hr₂=> ?_
   ·obtain⟨⟨oc,od,oda,os⟩,ho,hc,nl,hd⟩:=ht;simp only at hc hd;subst hc hd;have ho':(s.heap.push {cls:= .type "set",dict:=none,data:= .set #[] 0 (.fresh 0 0 led)}).get? t=some {cls:= .type "tuple",dict:=od,data:= .seq its nl,slots:=os}:=dH _ ho;have b1:=PySem.F.sub_tuple_set;have b2:=PySem.F.sub_tuple_frozenset;have b3:(Value.type "tuple"==Value.type "dict")=false:=by decide
    have ht1:(s.heap.push {cls:= .type "set",dict:=none,data:= .set #[] 0 (.fresh 0 0 led)}).IsTuple t its:=⟨_,ho',rfl,nl,rfl⟩;unfold Builtin.«set.__init__» noKeywords Builtin.Frozenset.updateFrom;generalize hPI:pyIter=PI
    wp_walk
    subst hPI;refine wpAny_pyIter_tuple ht1 (aq (wpAny_runValue ?_));have lt:t<s.heap.objs.size:=cO ho;have hA3:A.in1.in1.in1.handled=none:=by simp[hA]
    have nI:t≠(s.heap.push {cls:= .type "set",dict:=none,data:= .set #[] 0 (.fresh 0 0 led)}).objs.size:=by rw[wF];exact cN (m6 lt)
    have nf:s.heap.objs.size∉[(s.heap.push {cls:= .type "set",dict:=none,data:= .set #[] 0 (.fresh 0 0 led)}).objs.size,t]:=by
     rw[wF];simp only[dU,kI,Sq,Tf,not_or];exact⟨cN (pL _),Iz lt⟩
    refine Nm ((Walks.tuple hA3 _ t nI its).toS) s.heap.objs.size nf (fun i=>ns.getD i 0) (fun i v hv=>IntsAre.int_at hI i v (by rw[Jp];exact hv)) hz (its.size-0) 0 _ (by omega) (cg _)
     ⟨⟨_,jE _ rfl,rfl,rfl⟩,ht1.at fun o e=>dH _ e⟩ ?hS0 ?hR
    case hS0=>exact⟨_,#[],0,_,dH _ g0,⟨rfl,rfl,rfl⟩,rfl,fun e he=>by simp at he,fun k=>by simp[firstMet],by unfold scanBound;simp,rfl,rfl,by rw[Qx];exact jZ led⟩
    case hR=>
     intro s' hm hS';obtain⟨g,g',d',tk',os'⟩:=s';obtain⟨rfl,rfl,rfl⟩:g'=s.gens/\d'=s.drawn/\os'=s.os:=⟨hm.gens,hm.drawn,hm.os⟩;show wpAny _ _ _ _ _ _;refine aO ?_;show wpAny _ _ (ret Value.none) _ _ _;refine aO ⟨rfl,g,tk',rfl,hS',fun b o hb e=>hm.heap b o ?_ (dH _ (dH _ e))⟩;have n1:b≠s.heap.objs.size:=cN hb;have n2:b≠(s.heap.push {cls:= .type "set",dict:=none,data:= .set #[] 0 (.fresh 0 0 led)}).objs.size:=by rw[wF];exact cN (m6 hb)
     simp only[dU,kI,Sq,Tf,not_or];exact⟨n1,n2⟩
   ·cases r₂ with
    |error e=>exact hr₂
    |ok fl₂=>
     cases fl₂ with
     |ret r=>
      obtain⟨rfl,g,tk,rfl,hS',hk'⟩:=hr₂
      repeat(any_goals(first |assumption|wp_step))
      exact fin _ _ hS' hk'
     |_=>exact hr₂.elim
  |_=>exact hr.elim
theorem Ay{t:Addr}{its:Array ζ}{ns:List Int}{Q:L3}(hA:A.handled=none)(ht:s.heap.IsList t its)(hI:PyProof.Rows.IntsAre its.toList ns)(hz:its.size+1<scanBound)(fin:∀(g:Heap) (tk:Nat),aQ prog w g s.heap.objs.size (fun k'=>(firstMet (fun i=>ns.getD i 0) its.size).any (· ==k')) (firstMet (fun i=>ns.getD i 0) its.size).length->(∀b o,b<s.heap.objs.size->s.heap.get? b=some o->g.get? b=some o)->Q (.ref s.heap.objs.size) {s with heap:=g,toks:=tk}):
  wpAny (model prog w) A (call (.type "set") [.ref t]) Q E s:=by
 obtain⟨c,tl,q1⟩:=F.called_set.mro;have q2:=F.called_set.made;have q3:=F.called_set.sub;refine wpAny_call (Yt ?_);show wpAny _ _ (callAny (.type "set") _) _ _ _;refine aO ⟨YS _ (by decide+kernel),Oq wfj ?_⟩;rw[Around.under_plain (weight_type_call_type "set" [.ref t] []) rfl];have q4:=F.called_set.notType;have q5:=F.called_set.canCreate;have q6:=F.typeCall_set_1 (.ref t)
 repeat(any_goals(first |assumption|wp_step))
 refine Mp (iW (.ref t) (E:=E) (Q₁:=fun ob u=>ob= .ref s.heap.objs.size/\u={s with heap:=s.heap.push {cls:= .type "set",dict:=none,data:= .set #[] 0 (.fresh 0 0 (!w.params.followText "set-order"))}}) ⟨rfl,rfl⟩) fun r u hr=> ?_;cases r with
 |error e=>exact hr
 |ok fl=>
  cases fl with
  |ret obj=>
   obtain⟨rfl,rfl⟩:=hr;generalize Qx:(!w.params.followText "set-order")=led at *;have g0:(s.heap.push {cls:= .type "set",dict:=none,data:= .set #[] 0 (.fresh 0 0 led)}).get? s.heap.objs.size=some {cls:= .type "set",dict:=none,data:= .set #[] 0 (.fresh 0 0 led)}:=jE _ rfl;have g1:Shared.TypeIs {s with heap:=s.heap.push {cls:= .type "set",dict:=none,data:= .set #[] 0 (.fresh 0 0 led)}} (.ref s.heap.objs.size) "set":=⟨_,g0,rfl⟩;have q7:=F.called_set.init.lookup;have q8:=F.called_set.init.bind (.ref s.heap.objs.size)
   repeat(any_goals(first |assumption|wp_step))
   refine Mp (codeAny_call_builtin (R:=wants (fun r s₂=>r= .none/\∃g tk,s₂={s with heap:=g,toks:=tk}/\aQ prog w g s.heap.objs.size (fun k'=>(firstMet (fun i=>ns.getD i 0) its.size).any (· ==k')) (firstMet (fun i=>ns.getD i 0) its.size).length/\(∀b o,b<s.heap.objs.size->s.heap.get? b=some o->g.get? b=some o)) E) F.called_set.init.plain F.entry_set_init (check_set_init_1 g1 ?_)) fun r₂ s₂ hr₂=> ?_
   ·obtain⟨⟨oc,od,oda,os⟩,ho,hc,nl,hd⟩:=ht;simp only at hc hd;subst hc hd;have ho':(s.heap.push {cls:= .type "set",dict:=none,data:= .set #[] 0 (.fresh 0 0 led)}).get? t=some {cls:= .type "list",dict:=od,data:= .seq its nl,slots:=os}:=dH _ ho;have b1:=PySem.F.sub_list_set;have b2:=PySem.F.sub_list_frozenset;have b3:(Value.type "list"==Value.type "dict")=false:=by decide
    have ht1:(s.heap.push {cls:= .type "set",dict:=none,data:= .set #[] 0 (.fresh 0 0 led)}).IsList t its:=⟨_,ho',rfl,nl,rfl⟩;unfold Builtin.«set.__init__» noKeywords Builtin.Frozenset.updateFrom;generalize hPI:pyIter=PI
    wp_walk
    subst hPI;refine TJ ht1 (aq (wpAny_runValue ?_));have lt:t<s.heap.objs.size:=cO ho;have hA3:A.in1.in1.in1.handled=none:=by simp[hA]
    have nI:t≠(s.heap.push {cls:= .type "set",dict:=none,data:= .set #[] 0 (.fresh 0 0 led)}).objs.size:=by rw[wF];exact cN (m6 lt)
    have nf:s.heap.objs.size∉[(s.heap.push {cls:= .type "set",dict:=none,data:= .set #[] 0 (.fresh 0 0 led)}).objs.size,t]:=by
     rw[wF];simp only[dU,kI,Sq,Tf,not_or];exact⟨cN (pL _),Iz lt⟩
    refine Nm ((Walks.list hA3 _ t nI its).toS) s.heap.objs.size nf (fun i=>ns.getD i 0) (fun i v hv=>IntsAre.int_at hI i v (by rw[Jp];exact hv)) hz (its.size-0) 0 _ (by omega) (cg _)
     ⟨⟨_,jE _ rfl,rfl,rfl⟩,ht1.push _⟩ ?hS0 ?hR
    case hS0=>exact⟨_,#[],0,_,dH _ g0,⟨rfl,rfl,rfl⟩,rfl,fun e he=>by simp at he,fun k=>by simp[firstMet],by unfold scanBound;simp,rfl,rfl,by rw[Qx];exact jZ led⟩
    case hR=>
     intro s' hm hS';obtain⟨g,g',d',tk',os'⟩:=s';obtain⟨rfl,rfl,rfl⟩:g'=s.gens/\d'=s.drawn/\os'=s.os:=⟨hm.gens,hm.drawn,hm.os⟩;show wpAny _ _ _ _ _ _;refine aO ?_;show wpAny _ _ (ret Value.none) _ _ _;refine aO ⟨rfl,g,tk',rfl,hS',fun b o hb e=>hm.heap b o ?_ (dH _ (dH _ e))⟩;have n1:b≠s.heap.objs.size:=cN hb;have n2:b≠(s.heap.push {cls:= .type "set",dict:=none,data:= .set #[] 0 (.fresh 0 0 led)}).objs.size:=by rw[wF];exact cN (m6 hb)
     simp only[dU,kI,Sq,Tf,not_or];exact⟨n1,n2⟩
   ·cases r₂ with
    |error e=>exact hr₂
    |ok fl₂=>
     cases fl₂ with
     |ret r=>
      obtain⟨rfl,g,tk,rfl,hS',hk'⟩:=hr₂
      repeat(any_goals(first |assumption|wp_step))
      exact fin _ _ hS' hk'
     |_=>exact hr₂.elim
  |_=>exact hr.elim
end
end L2
namespace wj
open PySem PySem.W PyProof.Rows PySem.Calls
section
variable{prog:ρ}{w:υ}{A:Around}{E:L3}{s:η}
theorem vJ{d:Addr}{es:Array (Int×ζ)}{ep:Nat}{t:ξ}{Q:List ζ->η->Prop}(hA:A.handled=none)(S:aP w s.heap d es ep t)(hz:es.size<=1000)(h:∀h' tk dr items,(∀b o,s.heap.get? b=some o->h'.get? b=some o)->s.heap.objs.size<=h'.objs.size->List.Perm items (es.toList.map (·.2))->Q items {s with heap:=h',toks:=tk,drawn:=dr}):
  wpAny (model prog w) A (collect (.ref d)) Q E s:=by
 unfold collect;refine aq (wpAny_runValue (Oq entry_proto_collect' ?_));show wpAny _ _ (do again (.builtin "list.__iadd__" ⟨[<-newList [],.ref d],[]⟩)) _ _ s;refine aq (Tz (aO ⟨YS _ (by decide+kernel),Oq entry_list_iadd' ?_⟩));rw[Xf PySem.F.plain_list_iadd _];show wpAny _ _ (Builtin.List.listExtendWith (.ref s.heap.objs.size) (.ref d) (.ref s.heap.objs.size)) _ _ {s with heap:=s.heap.push (seqObj "list" #[] 0)};refine yc (R:=fun r s'=>match r with
   | .ok (.ret v)=>wpAny (model prog w) A (match v with
    | .ref a=>do match(<-load a).data with
     | .seq xs _=>pure xs.toList
     |_=>unsupported "internal:collect"
    |_=>unsupported "internal:collect") Q E s'
   | .ok _=>False
   | .error e=>E e s') (s:={s with heap:=s.heap.push (seqObj "list" #[] 0)}) (by simpa using hA) (S.push _) hz s.heap.objs.size _ 0 (jE _ rfl) fun h' tk dr acc c keep hl pm=> ?_
 show wpAny (model prog w) A (load s.heap.objs.size>>=_) Q E _;refine aq (wpAny_load hl ?_);exact aO (h h' tk dr acc.toList (fun b o e=>keep b o (cN (cO e)) (dH _ e)) (cD (cO hl)) pm)
end
end wj
namespace L2
open PySem PySem.Spec PyProof.Rows
noncomputable def iv:ζ->Int
 | .int k _=>k
 |_=>0
theorem q9:∀{us:List ζ},(∀v∈us,∃k t,v= .int k t)->Vals ((us.map iv).map V.int) us
 |[],_=> .nil
 |v::us,h=>by
  obtain⟨k,t,rfl⟩:=h v gG;exact .cons ⟨t,rfl⟩ (q9 fun u hu=>h u (eV _ hu))
theorem Ng:∀{c t:List Int},c.Nodup->(∀x∈c,x∈t)->c.length<=t.length
 |[],_,_,_=>cg _
 |x::c,t,nd,h=>by
  have hx:=h x gG;rw[Cr]at nd;have z:=Ng (c:=c) (t:=t.erase x) nd.2 fun y hy=>(S6 (fun e:y=x=>nd.1 (e▸hy))).mpr (h y (eV _ hy));rw[Wo hx]at z;have p:0<t.length:=Rj hx;rw[nO];omega
theorem Bx:∀{c t:List Int},c.Nodup->(∀x∈c,x∈t)->t.length<=c.length->t.Nodup:=by
 intro c t nd sub len;refine Mu fun no=> ?_;obtain⟨x,hx⟩:∃x,2<=t.count x:=by
  refine Mu fun n2=>no (List.nodup_iff_count.mpr fun a=> ?_);exact Xa fun c2=>n2 ⟨a,c2⟩
 have hm:x∈t:=List.count_pos_iff.mp (by omega);have z:=Ng (c:=c) (t:=t.erase x) nd fun y hy=>by
  by_cases e:y=x
  ·subst e;exact List.count_pos_iff.mp (by rw[List.count_erase_self];omega)
  ·exact(S6 e).mpr (sub y hy)
 rw[Wo hm]at z;have p:0<t.length:=Rj hm;omega
section
variable{prog:ρ}{w:υ}{s:η}
theorem ig(val:Nat->Int):∀n,(firstMet val n).Nodup
 |0=> .nil
 |n+1=>by
  rw[wfi];unfold step_dedup;split
  ·exact ig val n
  ·rename_i h;rw[List.nodup_append];refine⟨ig val n,by simp,fun a ha b hb e=>h ?_⟩;rw[Q9];rw[kI.mp hb]at e;exact⟨a,ha,by simp[e]⟩
theorem Az{d:Addr}{n:Nat}{val:Nat->Int}(G:aQ prog w s.heap d (fun k'=>(firstMet val n).any (· ==k')) (firstMet val n).length):
  ∃es ep t,aP w s.heap d es ep t/\es.size=(firstMet val n).length/\(∀v∈es.toList.map (·.2),∃k t,v= .int k t)/\((es.toList.map (·.2)).map iv).Nodup/\∀k,k∈(es.toList.map (·.2)).map iv↔k∈firstMet val n:=by
 obtain⟨o,es,ep,t,ho,hx,hd,el,mem,lt,ft,en,tb⟩:=G;have KH:∀v∈es.toList.map (·.2),∃k t,v= .int k t:=fun v hv=>by
  obtain⟨e,he,rfl⟩:=kW.mp hv;obtain⟨⟨k,hk,_⟩,_⟩:=el e he;exact⟨k,Ru (k:=k) (v:=e.2) hk⟩
 have mm:∀k,k∈(es.toList.map (·.2)).map iv↔k∈firstMet val n:=fun k=>by
  have m:=mem k;have e1:(firstMet val n).any (· ==k)=true↔k∈firstMet val n:=by
   rw[Q9];exact⟨fun⟨x,hx,e⟩=>by rw[<-beq_iff_eq.mp e];exact hx,fun h=>⟨k,h,by simp⟩⟩
  rw[<-e1,m];constructor
  ·intro h;obtain⟨v,hv,rfl⟩:=kW.mp h;obtain⟨j,tk,rfl⟩:=KH v hv;obtain⟨e,he,e2⟩:=kW.mp hv;exact⟨e,he,by rw[e2];exact intKind_is _ _ _ _⟩
  ·rintro⟨e,he,z⟩;obtain⟨tk,e2⟩:=Ru (k:=k) (v:=e.2) z;exact kW.mpr ⟨e.2,kW.mpr ⟨e,he,rfl⟩,by rw[e2];rfl⟩
 refine⟨es,ep,t,⟨⟨o,ho,hx,hd⟩,ft,tb⟩,en,KH,?_,mm⟩;exact Bx (ig val n) (fun x hx=>(mm x).mpr hx) (by rw[aH,aH,mJ,en];exact aB _)
end
noncomputable def Z1(k:Int):ζ->Bool
 | .int i _=>i==k
 |_=>false
theorem Ao{i:Int}:∀{n:Nat} {us:List ζ},us.length=n->(∀(j:Nat) (u:ζ),us[j]? =some u->∃t:Tok,u=Value.int (i+((j:Nat):Int)*1) t)->Vals (((List.range n).map fun(k:Nat)=>i+(k:Int)).map V.int) us:=by
 intro n us hl hi;have go:∀(us:List ζ) (k:Nat),(∀(j:Nat) (u:ζ),us[j]? =some u->∃t:Tok,u=Value.int (i+((j+k:Nat):Int)*1) t)->Vals (((List.range' k us.length).map fun(k:Nat)=>i+(k:Int)).map V.int) us:=by
  intro us
  induction us with
  |nil=>intro k _;exact .nil
  |cons u us ih=>
   intro k h;obtain⟨t,e⟩:=h 0 u rfl;refine .cons ⟨t,?_⟩ ?_
   ·rw[e];show Value.int (i+((0+k:Nat):Int)*1) t=Value.int (i+(k:Int)) t;congr 1;omega
   ·refine ih (k+1) fun j u hu=> ?_;obtain⟨t,e⟩:=h (j+1) u (by simpa using hu);exact⟨t,by rw[e];congr 1;omega⟩
 have:=go us 0 fun j u hu=>hi j u hu;rw[hl,<-List.range_eq_range']at this;exact this
section
variable{X:Cx}{e:Expr}{ta:TE}{f:Str}{pos:Pos}
theorem JR(K:W.Frag)(he:PE X e ta)(hb:attributeBase e f X.env (eval e X.env)=eval e X.env)(h:X.K=K:=by rfl):PE X (.Attribute e f pos) (tFld K ta f):=by subst h;exact kO he hb
theorem lE:MtM X "list.index" (fun x vs H Q=>∃(l:Addr) (ns:List Int) (k:Int) (j:Nat),x= .ref l/\vs=[.int k]/\H l=some (.lst (ns.map V.int))/\ns[j]? =some k/\(∀i,i<j->ns[i]? ≠some k)/\ns.length<=1000/\Q (.int (j:Nat)) H):=by
 intro pins s σ H x vs v us Q I rx rv h;obtain⟨l,ns,k,j,rfl,rfl,hH,hj,hno,hb,q⟩:=h;cases rx;obtain⟨u,rfl,ru⟩:=rv.one;obtain⟨t,rfl⟩:=ru;obtain⟨z,its,n,r,hl,e⟩:=I.lstM hH;rw[aH]at z hl;have hI:∀(i:Nat) (v:ζ),its[i]? =some v->∃t,v= .int (ns.getD i 0) t/\ns[i]? =some (ns.getD i 0):=fun i v hv=>by
  have hi:i<ns.length:=by have:=(p8.mp hv).1;omega
  have e0:ns[i]? =some (ns.getD i 0):=by rw[jF,dJ hi];rfl
  obtain⟨u,hu,ru⟩:=r.get (show(ns.map V.int)[i]? =some (.int (ns.getD i 0)) by rw[dX,e0];rfl);rw[hv]at hu;cases hu;obtain⟨t,rfl⟩:=ru;exact⟨t,rfl,e0⟩
 have hj':j<its.length:=by have:=(p8.mp hj).1;omega
 refine Js F.slot_list_index ⟨_,e,rfl⟩ F.entry_list_index (F.args_list_index_2 _ _)
  (MeetsSeq.list_index l its.toArray n (.int k t) (Z1 k) (fun y hy=> ?_) j (by simpa using hj') (by omega) ?_ (fun i hi hlt=> ?_)) ⟨e,?_⟩
 ·obtain⟨i,hi,rfl⟩:=yV (show y∈its by simpa using hy);obtain⟨t',e',_⟩:=hI i its[i] (dJ hi);rw[e'];exact MeetsSeq.EqGives.int _ _ _ _
 ·obtain⟨t',e',e0⟩:=hI j its[j] (dJ hj');show Z1 k its[j]=true;rw[e'];rw[hj]at e0;have:k=ns.getD j 0:=pQ e0;show(ns.getD j 0==k)=true;rw[<-this];exact beq_self_eq_true _
 ·have hi':i<its.length:=by simpa using hi
  obtain⟨t',e',e0⟩:=hI i its[i] (dJ hi');show Z1 k its[i]=false;rw[e'];show(ns.getD i 0==k)=false;refine beq_eq_false_iff_ne.mpr fun z=>hno i hlt ?_;rw[e0,z]
 ·exact⟨.int (j:Nat),H,I.tok _,⟨s.toks,rfl⟩,q⟩
end
section
variable{X:Cx}{a b:Expr}{ta:TA}{p pos p' pos':Pos}
noncomputable def jN(i:Int)(n:Nat):List Int:=(List.range n).map fun(k:Nat)=>i+(k:Int)
noncomputable def Ox(ta:TA):TE:=fun σ H Q=>ta σ H fun vs H1=>∃i j:Int,vs=[.int i,.int j]/\0<=i/\i<=j/\j<=1000000/\∀l,H1 l=none->Q (.ref l) (upd H1 l (.lst ((jN i (j-i).toNat).map V.int)))
theorem rG(hc:X.calm=true)(hgT:Gl X "list")(hmT:X.mg "list"=none)(hg:Gl X "range")(hm:X.mg "range"=none)(ha:PA X [a,b] ta)(hs:starEach [a,b] X.env=[(false,eval a X.env),(false,eval b X.env)]:=by rfl)(hs':starEach [b] X.env=[(false,eval b X.env)]:=by rfl)(hs2:starEach [Expr.Call (.Name "range" p') [a,b] [] pos'] X.env=[(false,eval (Expr.Call (.Name "range" p') [a,b] [] pos') X.env)]:=by rfl):
  PE X (.Call (.Name "list" p) [.Call (.Name "range" p') [a,b] [] pos'] [] pos) (Ox ta):=by
 intro pins s σ H Q I h;refine Ms (wz I hgT hmT (show bootBuiltins "list"=some (.type "list")from by decide+kernel) ?_ (by decide) (by decide));refine Dt ?_ hs2 rfl;rw[hs2];refine TY ?_;refine Call_ (wz I hg hm boot_range (Dt (thn (ha pos' pins s σ H _ I h) fun us s1 ⟨vs,H1,I1,r1,q1⟩=> ?_) (by rw[hs,hs']) (by rw[hs'];rfl)));obtain⟨i,j,e,q0,q1,q2,q⟩:=q1;subst e;cases r1 with
 |cons r rr=>
  cases rr with
  |cons r' rr=>
   cases rr;obtain⟨t,rfl⟩:=r;obtain⟨t',rfl⟩:=r';refine call_range_2 ?_;refine TX ?_;have hn:Builtin.Range.rangeSize i j 1=(((j-i).toNat:Nat):Int):=by rw[rangeSize_one];split<;>omega
   refine call_list_range (I.ok.hd hc) (IsRange.new ..) (small_one (by omega) (by omega) (by omega) (by omega)) hn (by omega) fun h' tk acc c hk hS hacc=> ?_;have hv:Vals ((jN i (j-i).toNat).map V.int) acc.toList:=Ao (by rw[mJ];exact hacc.1) (fun k u hu=>hacc.2 k u (by simpa using hu));have hz:((jN i (j-i).toNat).map V.int).length<=sizeLine:=by unfold jN;rw[gA];simp;omega
   have I2:Inv X pins σ H1 {s1 with heap:=s1.heap.push {cls:=Value.type "range",data:=Data.fields #[Value.int i t,Value.int j t',Value.int 1 s1.toks]},toks:=s1.toks+1}:=I1.kept fun b o e=>dH _ e;exact⟨.ref _,_,I2.laid (t':=tk) (o:= .lst ((jN i (j-i).toNat).map V.int)) hk (aB _) ⟨hz,acc.toList,c,hv,by simpa using hS⟩,rfl,q _ (I2.hok.fresh (aB _))⟩
end
structure Cg(K:W.Frag)(C:Addr)(x qual:Str)(st:Stmt)(ps:List Str)(f:Addr)(fd:τ):Prop where
 F:Fun K x qual st f fd
 b:Binds K fd ps []
 m:Meth K C x f
end L2
namespace Sx
noncomputable abbrev Vec:=Nat->Int
noncomputable abbrev fX:=Nat->Vec
noncomputable def sm:Nat->(Nat->Int)->Int
 |0,_=>0
 |k+1,f=>sm k f+f k
theorem aK{f g:Nat->Int}:∀k,(∀i,i<k->f i=g i)->sm k f=sm k g
 |0,_=>rfl
 |k+1,h=>by
  show sm k f+f k=sm k g+g k;rw[aK k fun i hi=>h i (m6 hi),h k (pL k)]
theorem je(f g:Nat->Int):∀k,sm k (fun i=>f i+g i)=sm k f+sm k g
 |0=>rfl
 |k+1=>by
  show sm k (fun i=>f i+g i)+(f k+g k)=sm k f+f k+(sm k g+g k);rw[je f g k];omega
theorem bQ(a:Int)(f:Nat->Int):∀k,sm k (fun i=>a*f i)=a*sm k f
 |0=>by show(0:Int)=a*0;rw[v8]
 |k+1=>by
  show sm k (fun i=>a*f i)+a*f k=a*(sm k f+f k);rw[bQ a f k,Int.mul_add]
theorem CQ{f:Nat->Int}:∀k,(∀i,i<k->f i=0)->sm k f=0
 |0,_=>rfl
 |k+1,h=>by
  show sm k f+f k=0;rw[CQ k fun i hi=>h i (m6 hi),h k (pL k)];rfl
theorem cX{f:Nat->Int}{j:Nat}:∀k,j<k->(∀i,i<k->i≠j->f i=0)->sm k f=f j
 |k+1,hj,h=>by
  show sm k f+f k=f j;by_cases e:j=k
  ·subst e;rw[CQ j fun i hi=>h i (m6 hi) (cN hi),Tj]
  ·rw[cX k (by omega) fun i hi=>h i (m6 hi),h k (pL k) (iU e),Int.add_zero]
theorem Eh{f:Nat->Int}{j:Nat}:∀k,j+1<k->(∀i,i<k->i≠j->i≠j+1->f i=0)->f j+f (j+1)=0->sm k f=0
 |k+1,hj,h,z=>by
  show sm k f+f k=0;by_cases e:j+1=k
  ·subst e;rw[cX (j:=j) (j+1) (pL _) fun i hi hn=>h i (m6 hi) hn (cN hi)];exact z
  ·rw[Eh k (by omega) (fun i hi=>h i (m6 hi)) z,h k (pL k) (by omega) (iU e)];rfl
theorem rm(f:Nat->Nat->Int)(m:Nat):∀k,sm k (fun i=>sm m (fun j=>f i j))=sm m (fun j=>sm k (fun i=>f i j))
 |0=>by show(0:Int)=sm m fun _=>0;rw[CQ m fun _ _=>rfl]
 |k+1=>by
  show sm k (fun i=>sm m (fun j=>f i j))+sm m (fun j=>f k j)=sm m (fun j=>sm k (fun i=>f i j)+f k j);rw[rm f m k,je]
theorem ur{f:Nat->Int}:∀k,(∀i,i<k->0<=f i)->0<=sm k f
 |0,_=>yR _
 |k+1,h=>Int.add_nonneg (ur k fun i hi=>h i (m6 hi)) (h k (pL k))
theorem Ei{f:Nat->Int}:∀k,sm k f<0->∃i,i<k/\f i<0
 |0,h=>absurd h (Ym 0)
 |k+1,h=>by
  by_cases c:f k<0
  ·exact⟨k,pL k,c⟩
  ·have h':sm k f+f k<0:=h;obtain⟨i,hi,hf⟩:=Ei k (f:=f) (by omega);exact⟨i,m6 hi,hf⟩
theorem zB{f:Nat->Int}:∀k,(∀i,i<k->0<=f i)->sm k f<=0->∀i,i<k->f i=0
 |0,_,_,i,hi=>absurd hi (Lz i)
 |k+1,h,z,i,hi=>by
  have h1:=ur k fun i hi=>h i (m6 hi);have h2:=h k (pL k);have z':sm k f+f k<=0:=z;by_cases e:i=k
  ·subst e;omega
  ·exact zB k (fun i hi=>h i (m6 hi)) (by omega) i (by omega)
noncomputable def sg(i:Nat):Int:=if i %2=0 then 1 else -1
theorem zE(i:Nat):sg (i+1)= -sg i:=by
 unfold sg;rcases Nat.mod_two_eq_zero_or_one i with h|h
 ·rw[ak h,aj (by omega)]
 ·rw[ak (by omega),aj (by omega)];rfl
theorem OJ(i:Nat):sg i=1\/sg i= -1:=by unfold sg;split;exact .inl rfl;exact .inr rfl
noncomputable def rA(i r:Nat):Nat:=if r<i then r else r+1
noncomputable def Jc(i r:Nat):Nat:=if r<i then r else r-1
theorem El(i r:Nat):rA i r≠i:=by unfold rA;split<;>omega
theorem m7{i r j:Nat}(h:j≠i):rA i r=j↔r=Jc i j:=by unfold rA Jc;split<;>split<;>omega
theorem wX{i r k:Nat}(hi:i<k+1)(hr:r<k):rA i r<k+1:=by unfold rA;split<;>omega
theorem Ou{i j k:Nat}(h:j≠i)(hi:i<k+1)(hj:j<k+1):Jc i j<k:=by unfold Jc;split<;>omega
noncomputable def fU(M:fX)(i:Nat):fX:=fun r c=>M (rA i r) (c+1)
noncomputable def det:Nat->fX->Int
 |0,_=>1
 |k+1,M=>sm (k+1) fun i=>sg i*M i 0*det k (fU M i)
noncomputable def put(M:fX)(r:Nat)(v:Vec):fX:=fun i=>if i=r then v else M i
theorem Ls(M:fX)(r:Nat)(v:Vec):put M r v r=v:=by unfold put;rw[ak rfl]
theorem eU(M:fX){r i:Nat}(v:Vec)(h:i≠r):put M r v i=M i:=by unfold put;rw[aj h]
theorem oJ(M:fX)(r:Nat):put M r (M r)=M:=by funext i;unfold put;split;rename_i h;rw[h];rfl
theorem eX(M:fX){r t:Nat}(u v:Vec)(h:r≠t):put (put M r u) t v=put (put M t v) r u:=by
 funext i;unfold put;by_cases h1:i=t
 ·by_cases h2:i=r
  ·exact absurd (h2.symm.trans h1) h
  ·rw[ak h1,aj h2,ak h1]
 ·rw[aj h1];by_cases h2:i=r
  ·rw[ak h2,ak h2]
  ·rw[aj h2,aj h2,aj h1]
theorem fQ(M:fX)(i:Nat)(v:Vec):fU (put M i v) i=fU M i:=by
 funext r c;unfold fU;rw[eU _ _ (El i r)]
theorem rN(M:fX){i j:Nat}(v:Vec)(h:j≠i):fU (put M j v) i=put (fU M i) (Jc i j) (fun c=>v (c+1)):=by
 funext r c;unfold fU put;by_cases e:r=Jc i j
 ·rw[ak e,ak ((m7 h).mpr e)]
 ·rw[aj e,aj fun z=>e ((m7 h).mp z)]
theorem qR:∀k {M N:fX},(∀i,i<k->∀j,j<k->M i j=N i j)->det k M=det k N
 |0,_,_,_=>rfl
 |k+1,M,N,h=>aK (k+1) fun i hi=>by
  rw[h i hi 0 (tK k),qR k (M:=fU M i) (N:=fU N i) fun r hr c hc=>h _ (wX hi hr) _ (Nat.succ_lt_succ hc)]
theorem sH:∀k (M:fX) (r:Nat) (a b:Int) (u v:Vec),r<k->det k (put M r fun c=>a*u c+b*v c)=a*det k (put M r u)+b*det k (put M r v)
 |k+1,M,r,a,b,u,v,hr=>by
  unfold det;rw[<-bQ,<-bQ,<-je];refine aK (k+1) fun i hi=> ?_;by_cases e:r=i
  ·subst e;rw[fQ,fQ,fQ,Ls,Ls,Ls]
   grind
  ·rw[rN _ _ e,rN _ _ e,rN _ _ e,eU _ _ (iU e),eU _ _ (iU e),eU _ _ (iU e),sH k (fU M i) (Jc i r) a b (fun c=>u (c+1)) (fun c=>v (c+1)) (Ou e hi hr)]
   grind
theorem nG:∀k (M:fX) (r:Nat),r+1<k->M r=M (r+1)->det k M=0
 |k+1,M,r,hr,e=>by
  unfold det;refine Eh (j:=r) (k+1) hr (fun i hi h1 h2=> ?_) ?_
  ·have z:det k (fU M i)=0:=by
    by_cases c:i<r
    ·refine nG k (fU M i) (r-1) (by omega) ?_;funext x;unfold fU rA;rw[aj (by omega),aj (by omega),show r-1+1=r by omega,e]
    ·refine nG k (fU M i) r (by omega) ?_;funext x;unfold fU rA;rw[ak (by omega),ak (by omega),e]
   rw[z,v8]
  ·have z:fU M r=fU M (r+1):=by
    funext x c;unfold fU rA;by_cases h1:x<r
    ·rw[ak h1,ak (by omega)]
    ·rw[aj h1];by_cases h2:x=r
     ·subst h2;rw[ak (by omega),e]
     ·rw[aj (by omega)]
   rw[z,e,zE]
   grind
theorem Hx(k:Nat)(M:fX)(t:Nat)(u v:Vec)(h:t+1<k):det k (put (put M t u) (t+1) v)= -det k (put (put M t v) (t+1) u):=by
 have n1:t≠t+1:=by omega
 have z:∀w:Vec,det k (put (put M t w) (t+1) w)=0:=fun w=>nG k _ t h (by rw[eU _ _ n1,Ls,Ls]);have Qo:∀(N:fX) (r:Nat) (a b:Vec),r<k->det k (put N r fun c=>a c+b c)=det k (put N r a)+det k (put N r b):=fun N r a b hr=>by
  have:=sH k N r 1 1 a b hr;simp only[yQ]at this;exact this
 have z1:=z fun c=>u c+v c;rw[Qo _ (t+1) u v h,eX M _ _ n1,eX M _ _ n1,Qo _ t u v (by omega),Qo _ t u v (by omega),<-eX M _ _ n1,<-eX M _ _ n1,<-eX M _ _ n1,<-eX M _ _ n1,z u,z v]at z1;omega
theorem lH:∀(d k:Nat) (M:fX) (r:Nat),r+d+1<k->M r=M (r+d+1)->det k M=0
 |0,k,M,r,h,e=>nG k M r h e
 |d+1,k,M,r,h,e=>by
  have f:=Hx k M (r+d+1) (M (r+d+1)) (M (r+d+1+1)) h;rw[oJ,oJ]at f;rw[f,lH d k _ r (by omega) (by rw[eU _ _ (by omega),eU _ _ (by omega),eU _ _ (by omega),Ls,e];rfl)];rfl
theorem Hw{k:Nat}{M:fX}{r t:Nat}(hr:r<k)(ht:t<k)(h:r≠t)(e:M r=M t):det k M=0:=by
 by_cases c:r<t
 ·exact lH (t-r-1) k M r (by omega) (by rw[e];congr 1;omega)
 ·exact lH (r-t-1) k M t (by omega) (by rw[<-e];congr 1;omega)
theorem vG:∀k (M:fX),(∀i,i<k->∀j,j<k->M i j=if i=j then 1 else 0)->det k M=1
 |0,_,_=>rfl
 |k+1,M,h=>by
  unfold det;rw[cX (j:=0) (k+1) (tK k) fun i hi hn=>by rw[h i hi 0 (tK k),aj hn];grind];rw[h 0 (tK k) 0 (tK k),ak rfl,vG k (fU M 0) fun i hi j hj=> ?_]
  ·rfl
  ·unfold fU rA;rw[aj (by omega),h _ (by omega) _ (by omega)];by_cases e:i=j
   ·rw[ak e,ak (by omega)]
   ·rw[aj e,aj (by omega)]
noncomputable def fct:Nat->Int
 |0=>1
 |k+1=>(k+1:Int)*fct k
theorem wV{f:Nat->Int}{b:Int}:∀k,(∀i,i<k-> -b<=f i/\f i<=b)-> -((k:Int)*b)<=sm k f/\sm k f<=(k:Int)*b
 |0,_=>by
  show -((0:Int)*b)<=0/\(0:Int)<=0*b;omega
 |k+1,h=>by
  have ih:=wV k fun i hi=>h i (m6 hi);have hk:=h k (pL k);show -((k+1:Nat)*b)<=sm k f+f k/\sm k f+f k<=(k+1:Nat)*b;rw[show(((k+1:Nat):Int))*b=(k:Int)*b+b by rw[Int.natCast_succ,Int.add_mul,yQ]];omega
theorem zM{x y a b:Int}(hx: -a<=x/\x<=a)(hy: -b<=y/\y<=b): -(a*b)<=x*y/\x*y<=a*b:=by
 have h1:0<=(a-x)*(b-y):=yU (by omega) (by omega);have h2:0<=(a+x)*(b+y):=yU (by omega) (by omega);have h3:0<=(a-x)*(b+y):=yU (by omega) (by omega);have h4:0<=(a+x)*(b-y):=yU (by omega) (by omega);constructor<;>grind
theorem sI:∀k (M:fX) (c:Nat) (B:Int),1<=B->(∀i,i<k->∀j,j<k->i≠c-> -1<=M i j/\M i j<=1)->(∀j,j<k->c<k-> -B<=M c j/\M c j<=B)-> -(fct k*B)<=det k M/\det k M<=fct k*B
 |0,M,c,B,hB,_,_=>by
  show -(1*B)<=1/\(1:Int)<=1*B;omega
 |k+1,M,c,B,hB,h1,h2=>by
  unfold det;have e:fct (k+1)*B=((k+1:Nat):Int)*(fct k*B):=by show((k:Int)+1)*fct k*B=_;rw[Tt];rfl
  rw[e];refine wV (k+1) fun i hi=> ?_;have hs:∀x y:Int, -y<=x/\x<=y-> -y<=sg i*x/\sg i*x<=y:=fun x y h=>by
   rcases OJ i with s|s
   ·rw[s,yQ];exact h
   ·rw[s];omega
  rw[Tt];refine hs _ _ ?_;by_cases ci:i=c
  ·subst ci;have a:=sI k (fU M i) k 1 (by decide) (fun r hr x hx _=>h1 _ (wX hi hr) _ (by omega) (El i r)) (fun x hx hk=>absurd hk (tL k));have b:=h2 0 (tK k) hi;rw[Ww]at a;have:=zM b a;rw[yS (fct k) B];exact this
  ·have a:=sI k (fU M i) (Jc i c) B hB (fun r hr x hx hn=>h1 _ (wX hi hr) _ (by omega) fun z=>hn ((m7 (iU ci)).mp z)) (fun x hx hk=>by
    have hc:rA i (Jc i c)=c:=(m7 (iU ci)).mpr rfl;have hlt:c<k+1:=by unfold Jc at hk;split at hk<;>omega
    have:=h2 (x+1) (by omega) hlt;unfold fU;rw[hc];exact this)
   have b:=h1 i hi 0 (tK k) ci;have:=zM b a;rw[yQ]at this;exact this
structure Tab where
 col:Nat->Nat
 row:Nat->Nat
 cell:Nat->Nat->Int
 over:Int
 s:Int
noncomputable def one:Vec:=fun j=>if j=0 then 1 else 0
section
variable(n m:Nat)(S:Nat->Nat->Bool)(w:Nat->Int)
noncomputable def nv(a:Nat):Vec:=fun j=>if a<n then(if j=a+1 then 1 else 0)else(if j=0 then 1 else if S (a-n) (j-1)=true then -1 else 0)
noncomputable def zv:Vec:=fun j=>if j=0 then 0 else w (j-1)
noncomputable def rv(T:Tab)(r:Nat):Vec:=if r<m then nv n S (T.row r)else zv w
noncomputable def mD(T:Tab):fX:=fun i=>if i=0 then one else nv n S (T.col (i-1))
noncomputable def Fn(T:Tab)(c:Nat)(v:Vec):Int:=T.s*det (n+1) (put (mD n S T) c v)
structure Good(T:Tab):Prop where
 pos:0<T.over
 eq:∀r,r<=m->∀j,j<=n->T.over*rv n m S w T r j=T.cell r n*one j-sm n (fun c=>T.cell r c*nv n S (T.col c) j)
 sg:T.s=1\/T.s= -1
 dt:T.over=T.s*det (n+1) (mD n S T)
 yg:∀c c',c<n->c'<n->T.col c=T.col c'->c=c'
 Ey:∀r r',r<m->r'<m->T.row r=T.row r'->r=r'
 dis:∀c r,c<n->r<m->T.col c≠T.row r
 Lh:∀c,c<n->T.col c<n+m
 rlt:∀r,r<m->T.row r<n+m
 all:∀a,a<n+m->(∃c,c<n/\T.col c=a)\/∃r,r<m/\T.row r=a
 RQ:∀r,r<m->0<=T.cell r n
end
section
variable{n m:Nat}{S:Nat->Nat->Bool}{w:Nat->Int}{T:Tab}
theorem cY{r:Nat}(h:r<m):rv n m S w T r=nv n S (T.row r):=ak h
theorem dY:rv n m S w T m=zv w:=aj (tL m)
theorem vO:mD n S T 0=one:=rfl
theorem sV(c:Nat):mD n S T (c+1)=nv n S (T.col c):=by unfold mD;rw[aj (tX c)];rfl
theorem sY{c:Nat}(hc:c<=n)(a b:Int)(u v:Vec):Fn n S T c (fun j=>a*u j+b*v j)=a*Fn n S T c u+b*Fn n S T c v:=by
 unfold Fn;rw[sH (n+1) (mD n S T) c a b u v (by omega)];grind
theorem CT{c:Nat}{u v:Vec}(h:∀j,j<=n->u j=v j):Fn n S T c u=Fn n S T c v:=by
 unfold Fn;rw[qR (n+1) (M:=put (mD n S T) c u) (N:=put (mD n S T) c v) fun i _ j hj=> ?_];unfold put;split
 ·exact h j (by omega)
 ·rfl
theorem fY{c:Nat}(hc:c<=n)(x:Int)(a:Vec)(y:Nat->Int)(W:Nat->Vec):∀k,Fn n S T c (fun j=>x*a j-sm k (fun i=>y i*W i j))=x*Fn n S T c a-sm k (fun i=>y i*Fn n S T c (W i))
 |0=>by
  have h:=sY (T:=T) (S:=S) hc x 0 a a;rw[CT (v:=fun j=>x*a j+0*a j) fun j _=>by show x*a j-0=_;omega,h];show _=_-0;omega
 |k+1=>by
  have h:=sY (T:=T) (S:=S) hc 1 (-(y k)) (fun j=>x*a j-sm k (fun i=>y i*W i j)) (W k);rw[CT (v:=fun j=>1*(x*a j-sm k (fun i=>y i*W i j))+ -(y k)*W k j) fun j _=>by show x*a j-(sm k _+y k*W k j)=_;grind,h,fY hc x a y W k];show _=x*Fn n S T c a-(sm k _+y k*Fn n S T c (W k))
  grind
theorem j9{c:Nat}(hc:c<=n)(a:Int)(u:Vec):Fn n S T c (fun j=>a*u j)=a*Fn n S T c u:=by
 have h:=sY (T:=T) (S:=S) hc a 0 u u;rw[CT (v:=fun j=>a*u j+0*u j) fun j _=>by omega,h];omega
theorem Ih(g:T.over=T.s*det (n+1) (mD n S T)){c i:Nat}(hc:c<=n)(hi:i<=n):Fn n S T c (mD n S T i)=if i=c then T.over else 0:=by
 unfold Fn;by_cases e:i=c
 ·subst e;rw[ak rfl,oJ,<-g]
 ·rw[aj e,Hw (r:=c) (t:=i) (by omega) (by omega) (iU e) (by rw[Ls,eU _ _ e]),v8]
theorem iw(g:T.over=T.s*det (n+1) (mD n S T)){c:Nat}(hc:c<=n):Fn n S T c one=if c=0 then T.over else 0:=by
 have:=Ih g hc (cg n);rw[vO]at this;rw[this];by_cases e:c=0
 ·rw[ak e,ak e.symm]
 ·rw[aj e,aj (iU e)]
theorem tU(g:T.over=T.s*det (n+1) (mD n S T)){c i:Nat}(hc:c<=n)(hi:i<n):Fn n S T c (nv n S (T.col i))=if i+1=c then T.over else 0:=by
 have:=Ih g hc (show i+1<=n by omega);rw[sV]at this;exact this
theorem R6{a x y:Int}(h:0<a)(e:a*x=a*y):x=y:=wer (by omega) e
theorem Good.base(G:Good n m S w T){r:Nat}(hr:r<=m):Fn n S T 0 (rv n m S w T r)=T.cell r n:=by
 have h1:=j9 (T:=T) (S:=S) (c:=0) (cg n) T.over (rv n m S w T r);rw[CT fun j hj=>G.eq r hr j hj,fY (cg n) _ _ (T.cell r) (fun c=>nv n S (T.col c)),iw G.dt (cg n),ak rfl,CQ n fun c hc=>by rw[tU G.dt (cg n) hc,aj (tX c),v8]]at h1;refine R6 G.pos ?_;rw[<-h1,yS];omega
theorem Good.dir(G:Good n m S w T){r c:Nat}(hr:r<=m)(hc:c<n):Fn n S T (c+1) (rv n m S w T r)= -T.cell r c:=by
 have h1:=j9 (T:=T) (S:=S) (c:=c+1) hc T.over (rv n m S w T r);rw[CT fun j hj=>G.eq r hr j hj,fY hc _ _ (T.cell r) (fun c=>nv n S (T.col c)),iw G.dt hc,aj (tX c),cX (j:=c) n hc fun i hi hn=>by rw[tU G.dt hc hi,aj (by omega),v8],tU G.dt hc hc,ak rfl]at h1;refine R6 G.pos ?_;rw[<-h1];grind
noncomputable def turn(T:Tab)(p q:Nat):Tab where
 col:=fun c=>if c=q then T.row p else T.col c
 row:=fun r=>if r=p then T.col q else T.row r
 over:=T.cell p q
 s:= -T.s
 cell:=fun r c=>if r=p then(if c=q then T.over else T.cell p c)else if c=q then -T.cell r q else(T.cell r c*T.cell p q-T.cell r q*T.cell p c)/T.over
theorem Dv{p q:Nat}:mD n S (turn T p q)=put (mD n S T) (q+1) (nv n S (T.row p)):=by
 funext i;unfold mD put turn;dsimp only;by_cases h0:i=0
 ·rw[ak h0,aj (by omega),ak h0]
 ·rw[aj h0];by_cases h1:i=q+1
  ·rw[ak h1,ak (by omega)]
  ·rw[aj h1,aj (by omega),aj h0]
theorem Jx{p q r:Nat}(h:r≠p):rv n m S w (turn T p q) r=rv n m S w T r:=by
 unfold rv turn;dsimp only;rw[aj h]
theorem Good.qz(G:Good n m S w T){p q:Nat}(hp:p<m)(hq:q<n):(turn T p q).over=(turn T p q).s*det (n+1) (mD n S (turn T p q)):=by
 have h:=G.dir (r:=p) (cD hp) hq;rw[cY hp]at h;unfold Fn at h;rw[Dv];show T.cell p q= -T.s*_
 grind
theorem Good.exact(G:Good n m S w T){p q r c:Nat}(hp:p<m)(hq:q<n)(hb:0<T.cell p q)(hr:r<=m)(hrp:r≠p)(hc:c<=n)(QC:c≠q):
  T.over*(turn T p q).cell r c=T.cell r c*T.cell p q-T.cell r q*T.cell p c:=by
 have g':=G.qz hp hq;have ZF:∀j,j<=n->T.cell p q*T.over*rv n m S w T r j=(T.cell r n*T.cell p q-T.cell r q*T.cell p n)*one j-sm n (fun c=>(T.cell r c*T.cell p q-T.cell r q*T.cell p c)*nv n S (T.col c) j)+T.over*T.cell r q*nv n S (T.row p) j:=fun j hj=>by
  have e1:=G.eq r hr j hj;have e2:=G.eq p (cD hp) j hj;rw[cY hp]at e2;have e3:sm n (fun c=>(T.cell r c*T.cell p q-T.cell r q*T.cell p c)*nv n S (T.col c) j)=T.cell p q*sm n (fun c=>T.cell r c*nv n S (T.col c) j)+ -(T.cell r q)*sm n (fun c=>T.cell p c*nv n S (T.col c) j):=by
   rw[<-bQ,<-bQ,<-je];exact aK n fun c _=>by grind
  rw[e3];generalize sm n (fun c=>T.cell r c*nv n S (T.col c) j)=A at *;generalize sm n (fun c=>T.cell p c*nv n S (T.col c) j)=B at *
  grind
 have app:∀d,d<=n->T.cell p q*T.over*Fn n S (turn T p q) d (rv n m S w T r)=(T.cell r n*T.cell p q-T.cell r q*T.cell p n)*Fn n S (turn T p q) d one-sm n (fun c=>(T.cell r c*T.cell p q-T.cell r q*T.cell p c)*Fn n S (turn T p q) d (nv n S (T.col c)))+T.over*T.cell r q*Fn n S (turn T p q) d (nv n S (T.row p)):=fun d hd=>by
  rw[<-j9 hd,CT ZF,<-fY hd _ _ (fun c=>T.cell r c*T.cell p q-T.cell r q*T.cell p c) (fun c=>nv n S (T.col c))];have h:=sY (T:=turn T p q) (S:=S) hd 1 (T.over*T.cell r q) (fun j=>(T.cell r n*T.cell p q-T.cell r q*T.cell p n)*one j-sm n (fun c=>(T.cell r c*T.cell p q-T.cell r q*T.cell p c)*nv n S (T.col c) j)) (nv n S (T.row p));simp only[yQ]at h;exact h
 have VG:nv n S ((turn T p q).col q)=nv n S (T.row p):=by unfold turn;dsimp only;rw[ak rfl]
 have QS:∀c,c≠q->nv n S ((turn T p q).col c)=nv n S (T.col c):=fun c h=>by unfold turn;dsimp only;rw[aj h]
 have ov:(turn T p q).over=T.cell p q:=rfl;have key:∃x,T.cell r c*T.cell p q-T.cell r q*T.cell p c=T.over*x:=by
  by_cases hl:c=n
  ·subst hl;have h:=app 0 (cg _);have f1:=iw g' (cg c);have f2:=tU g' (cg c) hq;rw[ak rfl,ov]at f1;rw[VG,aj (tX q)]at f2;rw[f1,f2,CQ c fun i hi=> ?_]at h
   ·refine⟨Fn c S (turn T p q) 0 (rv c m S w T r),R6 hb ?_⟩
    grind
   ·by_cases Vd:i=q
    ·subst Vd;rw[Int.sub_self,Q8]
    ·have f3:=tU g' (cg c) hi;rw[QS i Vd,aj (tX i)]at f3;rw[f3,v8]
  ·have hc':c<n:=by omega
   have h:=app (c+1) hc';have f1:=iw g' (show c+1<=n from hc');have f2:=tU g' (show c+1<=n from hc') hq;have f3:=tU g' (show c+1<=n from hc') hc';rw[aj (tX c)]at f1;rw[VG,aj (by omega)]at f2;rw[QS c QC,ak rfl,ov]at f3;rw[f1,f2,cX (j:=c) n hc' fun i hi hn=> ?_,f3]at h
   ·refine⟨-Fn n S (turn T p q) (c+1) (rv n m S w T r),R6 hb ?_⟩
    grind
   ·by_cases Vd:i=q
    ·subst Vd;rw[Int.sub_self,Q8]
    ·have f4:=tU g' (show c+1<=n from hc') hi;rw[QS i Vd,aj (by omega)]at f4;rw[f4,v8]
 obtain⟨x,hx⟩:=key;show T.over*(if r=p then _ else if c=q then _ else(T.cell r c*T.cell p q-T.cell r q*T.cell p c)/T.over)=_;rw[aj hrp,aj QC,hx,Zi _ (Int.ne_of_gt G.pos)]
theorem Good.turn(G:Good n m S w T){p q:Nat}(hp:p<m)(hq:q<n)(hb:0<T.cell p q)(ra:∀r,r<m->0<T.cell r q->T.cell p n*T.cell r q<=T.cell r n*T.cell p q):Good n m S w (turn T p q):=by
 have hqn:n≠q:=by omega
 have c1:∀r,r≠p->(Sx.turn T p q).cell r q= -T.cell r q:=fun r h=>by unfold Sx.turn;dsimp only;rw[aj h,ak rfl]
 have c2:(Sx.turn T p q).cell p q=T.over:=by unfold Sx.turn;dsimp only;rw[ak rfl,ak rfl]
 have c3:∀c,c≠q->(Sx.turn T p q).cell p c=T.cell p c:=fun c h=>by unfold Sx.turn;dsimp only;rw[ak rfl,aj h]
 have k1:(Sx.turn T p q).col q=T.row p:=by unfold Sx.turn;dsimp only;rw[ak rfl]
 have k2:∀c,c≠q->(Sx.turn T p q).col c=T.col c:=fun c h=>by unfold Sx.turn;dsimp only;rw[aj h]
 have r1:(Sx.turn T p q).row p=T.col q:=by unfold Sx.turn;dsimp only;rw[ak rfl]
 have r2:∀r,r≠p->(Sx.turn T p q).row r=T.row r:=fun r h=>by unfold Sx.turn;dsimp only;rw[aj h]
 refine⟨hb,fun r hr j hj=> ?_,?_,G.qz hp hq,fun c c' hc hc' e=> ?_,fun r r' hr hr' e=> ?_,fun c r hc hr e=> ?_,fun c hc=> ?_,fun r hr=> ?_,fun a ha=> ?_,fun r hr=> ?_⟩
 ·have e2:=G.eq p (cD hp) j hj;rw[cY hp]at e2;by_cases h:r=p
  ·subst h;rw[cY hp,r1,c3 n hqn];have e3:sm n (fun c=>(Sx.turn T r q).cell r c*nv n S ((Sx.turn T r q).col c) j)=sm n (fun c=>T.cell r c*nv n S (T.col c) j)+(T.over*nv n S (T.row r) j-T.cell r q*nv n S (T.col q) j):=by
    have:sm n (fun c=>if c=q then T.over*nv n S (T.row r) j-T.cell r q*nv n S (T.col q) j else 0)=T.over*nv n S (T.row r) j-T.cell r q*nv n S (T.col q) j:=by
     rw[cX (j:=q) n hq fun i _ hn=>aj hn,ak rfl]
    rw[<-this,<-je];refine aK n fun c _=> ?_;by_cases hc:c=q
    ·subst hc;rw[c2,k1,ak rfl];omega
    ·rw[c3 c hc,k2 c hc,aj hc];omega
   rw[e3];show T.cell r q*nv n S (T.col q) j=_;omega
  ·rw[Jx h];have e1:=G.eq r hr j hj;have e3:T.over*sm n (fun c=>(Sx.turn T p q).cell r c*nv n S ((Sx.turn T p q).col c) j)=T.cell p q*sm n (fun c=>T.cell r c*nv n S (T.col c) j)+ -(T.cell r q)*sm n (fun c=>T.cell p c*nv n S (T.col c) j)+ -(T.over*T.cell r q*nv n S (T.row p) j):=by
    have:sm n (fun c=>if c=q then -(T.over*T.cell r q*nv n S (T.row p) j)else 0)= -(T.over*T.cell r q*nv n S (T.row p) j):=by
     rw[cX (j:=q) n hq fun i _ hn=>aj hn,ak rfl]
    rw[<-this,<-bQ,<-bQ,<-bQ,<-je,<-je];refine aK n fun c hc=> ?_;by_cases QC:c=q
    ·subst QC;rw[c1 r h,k1,ak rfl];grind
    ·have:=G.exact hp hq hb hr h (cD hc) QC;rw[k2 c QC,aj QC,<-Tt,this];grind
   have e4:=G.exact hp hq hb hr h (aB n) hqn;refine R6 G.pos ?_;show T.over*(T.cell p q*rv n m S w T r j)=_;rw[Int.mul_sub,e3,<-Tt T.over ((Sx.turn T p q).cell r n),e4];generalize sm n (fun c=>T.cell r c*nv n S (T.col c) j)=A at *;generalize sm n (fun c=>T.cell p c*nv n S (T.col c) j)=B at *
   grind
 ·rcases G.sg with e|e
  ·exact .inr (by show -T.s= -1;rw[e])
  ·exact .inl (by show -T.s=1;rw[e];rfl)
 ·by_cases h1:c=q
  ·by_cases h2:c'=q
   ·rw[h1,h2]
   ·rw[h1,k1,k2 c' h2]at e;exact absurd e.symm (G.dis c' p hc' hp)
  ·by_cases h2:c'=q
   ·rw[h2,k1,k2 c h1]at e;exact absurd e (G.dis c p hc hp)
   ·rw[k2 c h1,k2 c' h2]at e;exact G.yg c c' hc hc' e
 ·by_cases h1:r=p
  ·by_cases h2:r'=p
   ·rw[h1,h2]
   ·rw[h1,r1,r2 r' h2]at e;exact absurd e (G.dis q r' hq hr')
  ·by_cases h2:r'=p
   ·rw[h2,r1,r2 r h1]at e;exact absurd e.symm (G.dis q r hq hr)
   ·rw[r2 r h1,r2 r' h2]at e;exact G.Ey r r' hr hr' e
 ·by_cases h1:c=q
  ·by_cases h2:r=p
   ·rw[h1,h2,k1,r1]at e;exact G.dis q p hq hp e.symm
   ·rw[h1,k1,r2 r h2]at e;exact h2 (G.Ey p r hp hr e).symm
  ·by_cases h2:r=p
   ·rw[h2,k2 c h1,r1]at e;exact h1 (G.yg c q hc hq e)
   ·rw[k2 c h1,r2 r h2]at e;exact G.dis c r hc hr e
 ·by_cases h1:c=q
  ·rw[h1,k1];exact G.rlt p hp
  ·rw[k2 c h1];exact G.Lh c hc
 ·by_cases h1:r=p
  ·rw[h1,r1];exact G.Lh q hq
  ·rw[r2 r h1];exact G.rlt r hr
 ·rcases G.all a ha with⟨c,hc,e⟩|⟨r,hr,e⟩
  ·by_cases h1:c=q
   ·exact .inr ⟨p,hp,by rw[r1,<-h1,e]⟩
   ·exact .inl ⟨c,hc,by rw[k2 c h1,e]⟩
  ·by_cases h1:r=p
   ·exact .inl ⟨q,hq,by rw[k1,<-h1,e]⟩
   ·exact .inr ⟨r,hr,by rw[r2 r h1,e]⟩
 ·by_cases h1:r=p
  ·rw[h1,c3 n hqn];exact G.RQ p hp
  ·have e:=G.exact hp hq hb (cD hr) h1 (aB n) hqn;have f1:=G.RQ r hr;have f2:=G.RQ p hp;have z:0<=T.cell r n*T.cell p q-T.cell r q*T.cell p n:=by
    by_cases hc:0<T.cell r q
    ·have:=ra r hr hc;rw[yS (T.cell r q)];omega
    ·have a1:0<=T.cell r n*T.cell p q:=yU f1 (by omega);have a2:0<= -(T.cell r q)*T.cell p n:=yU (by omega) f2
     grind
   rw[<-e]at z;have:=G.pos;refine Int.not_lt.mp fun hn=> ?_;have:T.over*(Sx.turn T p q).cell r n<0:=Int.mul_neg_of_pos_of_neg G.pos hn;omega
end
structure Step(n m:Nat)(T:Tab)(p q:Nat):Prop where
 hp:p<m
 hq:q<n
 neg:T.cell m q<0
 ent:∀c,c<n->T.cell m c<0->T.col q<=T.col c
 by_:0<T.cell p q
 lev:∀r,r<m->0<T.cell r q->T.cell p n*T.cell r q<T.cell r n*T.cell p q\/(T.cell p n*T.cell r q=T.cell r n*T.cell p q/\T.row p<=T.row r)
noncomputable def inC(n:Nat)(T:Tab)(a:Nat):Prop:=∃c,c<n/\T.col c=a
section
variable{n m:Nat}{S:Nat->Nat->Bool}{w:Nat->Int}
theorem Step.good{T:Tab}{p q:Nat}(s:Step n m T p q)(G:Good n m S w T):Good n m S w (turn T p q):=
 G.turn s.hp s.hq s.by_ fun r hr h=>(s.lev r hr h).elim Cq fun e=>Ti e.1
theorem Step.worth{T:Tab}{p q:Nat}(s:Step n m T p q)(G:Good n m S w T):T.over*(turn T p q).cell m n-(turn T p q).over*T.cell m n= -(T.cell m q)*T.cell p n:=by
 have h:=G.exact s.hp s.hq s.by_ (aB m) (Iz s.hp) (aB n) (Iz s.hq);rw[h];show _-T.cell p q*_=_
 grind
theorem Step.le{T:Tab}{p q:Nat}(s:Step n m T p q)(G:Good n m S w T):(turn T p q).over*T.cell m n<=T.over*(turn T p q).cell m n:=by
 have h:=s.worth G;have:=yU (a:= -(T.cell m q)) (b:=T.cell p n) (by have:=s.neg;omega) (G.RQ p s.hp);omega
theorem rZ{a b c d e f:Int}(hd:0<d)(hb:0<b)(hf:0<f)(h1:d*a<=b*c)(h2:f*c<=d*e):f*a<=b*e:=by
 have x:=Rk h1 (Cq hf);have y:=Rk h2 (Cq hb);refine Int.le_of_mul_le_mul_left (a:=d) ?_ hd
 grind
theorem rY{a b c d e f:Int}(hd:0<d)(hb:0<b)(hf:0<f)(h1:d*a<=b*c)(h2:f*c<d*e):f*a<b*e:=by
 have x:=Rk h1 (Cq hf);have y:=wef h2 hb;refine wes (a:=d) ?_ (Cq hd)
 grind
theorem vp{a b c d e f:Int}(hd:0<d)(hb:0<b)(hf:0<f)(h1:d*a<b*c)(h2:f*c<=d*e):f*a<b*e:=by
 have x:=wef h1 hf;have y:=Rk h2 (Cq hb);refine wes (a:=d) ?_ (Cq hd)
 grind
theorem goes{P:Nat->Prop}{s:Nat}:∀d,P s->¬P (s+d)->∃t,s<=t/\t<s+d/\P t/\¬P (t+1)
 |0,h,h'=>absurd h h'
 |d+1,h,h'=>by
  by_cases c:P (s+d)
  ·exact⟨s+d,by omega,by omega,c,h'⟩
  ·obtain⟨t,a,b,x⟩:=goes d h c;exact⟨t,a,by omega,x⟩
theorem u9{P:Nat->Prop}{s e:Nat}(hse:s<=e)(h:P s)(h':¬P e):∃t,s<=t/\t<e/\P t/\¬P (t+1):=by
 obtain⟨t,a,b,x⟩:=goes (s:=s) (e-s) h (by rw[show s+(e-s)=e by omega];exact h');exact⟨t,a,by omega,x⟩
theorem most{P:Nat->Prop}:∀N,(∃a,P a)->(∀a,P a->a<N)->∃a,P a/\∀b,P b->b<=a
 |0,⟨a,h⟩,hb=>absurd (hb a h) (Lz a)
 |N+1,h,hb=>by
  by_cases c:P N
  ·exact⟨N,c,fun b hP=>by have:=hb b hP;omega⟩
  ·exact most N h fun a hP=>by
    have:=hb a hP;have:a≠N:=fun e=>c (e▸hP);omega
structure Run(n m:Nat)(S:Nat->Nat->Bool)(w:Nat->Int)(T:Nat->Tab)(p q:Nat->Nat)(L:Nat):Prop where
 first:Good n m S w (T 0)
 step:∀t,t<L->Step n m (T t) (p t) (q t)
 next:∀t,t<L->T (t+1)=turn (T t) (p t) (q t)
variable{T:Nat->Tab}{p q:Nat->Nat}{L:Nat}
theorem Run.good(R:Run n m S w T p q L):∀t,t<=L->Good n m S w (T t)
 |0,_=>R.first
 |t+1,h=>by rw[R.next t h];exact(R.step t h).good (R.good t (YL h))
theorem Run.worth(R:Run n m S w T p q L){i:Nat}:∀d,i+d<=L->(T (i+d)).over*(T i).cell m n<=(T i).over*(T (i+d)).cell m n
 |0,_=>yR _
 |d+1,h=>by
  have ih:=R.worth d (i:=i) (by omega);have g1:=R.good (i+d) (by omega);have st:=(R.step (i+d) (by omega)).le g1;rw[<-R.next (i+d) (by omega)]at st;exact rZ g1.pos (R.good i (by omega)).pos (R.good (i+d+1) h).pos ih st
theorem Run.Dh(R:Run n m S w T p q L){i j:Nat}(hij:i<=j)(hj:j<=L):(T j).over*(T i).cell m n<=(T i).over*(T j).cell m n:=by
 have:=R.worth (i:=i) (j-i) (by omega)
 rwa [show i+(j-i)=j by omega]at this
theorem wZ{A B:Tab}(GA:Good n m S w A)(GB:Good n m S w B)(h:∀a,inC n B a->inC n A a):B.over*A.cell m n=A.over*B.cell m n:=by
 have h1:=j9 (T:=A) (S:=S) (c:=0) (cg n) B.over (zv w);have e:=GB.eq m (aB m);rw[dY]at e;have b:=GA.base (aB m);rw[dY]at b;rw[CT e,fY (cg n) _ _ (B.cell m) (fun c=>nv n S (B.col c)),iw GA.dt (cg n),ak rfl,CQ n fun c hc=> ?_,b]at h1
 ·rw[<-h1,yS];omega
 ·obtain⟨c',hc',e'⟩:=h _ ⟨c,hc,rfl⟩;rw[<-e',tU GA.dt (cg n) hc',aj (tX c'),v8]
theorem Du{T:Tab}{p q:Nat}(G:Good n m S w T)(hp:p<m)(hq:q<n)(a:Nat):inC n (turn T p q) a↔(inC n T a/\a≠T.col q)\/a=T.row p:=by
 constructor
 ·rintro⟨c,hc,e⟩;have e':(if c=q then T.row p else T.col c)=a:=e;by_cases h:c=q
  ·rw[ak h]at e';exact .inr e'.symm
  ·rw[aj h]at e';exact .inl ⟨⟨c,hc,e'⟩,fun z=>h (G.yg c q hc hq (e'.trans z))⟩
 ·rintro(⟨⟨c,hc,e⟩,hn⟩|e)
  ·have h:c≠q:=fun z=>hn (by rw[<-e,z]);exact⟨c,hc,by show(if c=q then _ else _)=a;rw[aj h];exact e⟩
  ·exact⟨q,hq,by show(if q=q then _ else _)=a;rw[ak rfl];exact e.symm⟩
theorem flat{T:Tab}{p q:Nat}(G:Good n m S w T)(G':Good n m S w (turn T p q))(s:Step n m T p q)(h0:T.cell p n=0){a:Nat}(ha:a<n+m):Fn n S (turn T p q) 0 (nv n S a)=0↔Fn n S T 0 (nv n S a)=0:=by
 have z0:=cg n;rcases G'.all a ha with⟨c,hc,e⟩|⟨r,hr,e⟩
 ·have f1:=tU G'.dt z0 hc;rw[e,aj (tX c)]at f1;refine⟨fun _=> ?_,fun _=>f1⟩;have e':(if c=q then T.row p else T.col c)=a:=e;by_cases h:c=q
  ·rw[ak h]at e';have:=G.base (cD s.hp);rw[cY s.hp,e']at this;rw[this,h0]
  ·rw[aj h]at e';have:=tU G.dt z0 hc;rw[e',aj (tX c)]at this;exact this
 ·have f1:=G'.base (cD hr);rw[cY hr,e]at f1;have e':(if r=p then T.col q else T.row r)=a:=e;rw[f1];by_cases h:r=p
  ·rw[ak h]at e';have f2:=tU G.dt z0 s.hq;rw[e',aj (tX q)]at f2;have f3:(turn T p q).cell r n=T.cell p n:=by
    show(if r=p then(if n=q then _ else _)else _)=_;rw[ak h,aj (Iz s.hq)]
   rw[f3,h0];exact⟨fun _=>f2,fun _=>rfl⟩
  ·rw[aj h]at e';have f2:=G.base (cD hr);rw[cY hr,e']at f2;rw[f2];have x:=G.exact s.hp s.hq s.by_ (cD hr) h (aB n) (Iz s.hq);rw[h0,v8,Int.sub_zero]at x;constructor
   ·intro z;rw[z,v8]at x;rcases Int.mul_eq_zero.mp x.symm with y|y
    ·exact y
    ·have:=s.by_;omega
   ·intro z;rw[z,Q8]at x;rcases Int.mul_eq_zero.mp x with y|y
    ·have:=G.pos;omega
    ·exact y
theorem Run.Bt(R:Run n m S w T p q L){i j:Nat}(hij:i<j)(hj:j<=L):¬∀a,inC n (T i) a↔inC n (T j) a:=by
 intro same;have Gt:∀t,i<=t->t<=j->Good n m S w (T t):=fun t _ h=>R.good t (dD h hj);have D:=wZ (Gt i (aB i) (cD hij)) (Gt j (cD hij) (aB j)) fun a=>(same a).mpr;have St:∀t,t<j->Step n m (T t) (p t) (q t):=fun t h=>R.step t (gq h hj);have nx:∀t,t<j->T (t+1)=turn (T t) (p t) (q t):=fun t h=>R.next t (gq h hj)
 -- every turn of these is flat
 have fl:∀t,i<=t->t<j->(T t).cell (p t) n=0:=fun t hi ht=>by
  have g:=Gt t hi (cD ht);have W:=(St t ht).worth g;have F:=g.RQ (p t) (St t ht).hp;have N:=(St t ht).neg;by_cases z:(T t).cell (p t) n=0
  ·exact z
  ·exfalso;have B:(turn (T t) (p t) (q t)).over*(T t).cell m n<(T t).over*(turn (T t) (p t) (q t)).cell m n:=by
    have:=Rm (a:= -((T t).cell m (q t))) (b:=(T t).cell (p t) n) (by omega) (by omega);omega
   rw[<-nx t ht]at B;have A:=R.Dh (i:=i) (j:=t) hi (by omega);have C:=R.Dh (i:=t+1) (j:=j) ht hj;have o1:=(Gt i (aB i) (cD hij)).pos;have o2:=g.pos;have o3:=(Gt (t+1) (by omega) ht).pos;have o4:=(Gt j (cD hij) (aB j)).pos;have x:=rY o2 o1 o3 A B;have y:=vp o3 o1 o4 x C;omega
 have ic:∀t,t<j->i<=t->∀a,inC n (T (t+1)) a↔(inC n (T t) a/\a≠(T t).col (q t))\/a=(T t).row (p t):=fun t ht hi a=>by
  rw[nx t ht];exact Du (Gt t hi (cD ht)) (St t ht).hp (St t ht).hq a
 have zeros:∀{a:Nat},a<n+m->∀d s,i<=s->s+d<=j->(Fn n S (T (s+d)) 0 (nv n S a)=0↔Fn n S (T s) 0 (nv n S a)=0):=fun{a} ha d=>by
  induction d with
  |zero=>intro s _ _;exact Iff.rfl
  |succ d ih=>
   intro s hs hd;have f:=flat (Gt (s+d) (by omega) (by omega)) (by rw[<-nx (s+d) (by omega)];exact Gt (s+d+1) (by omega) hd) (St (s+d) (by omega)) (fl (s+d) (by omega) (by omega)) ha;rw[<-nx (s+d) (by omega)]at f;exact f.trans (ih s hs (by omega))
 have RZ:∀{a s t:Nat},a<n+m->i<=s->s<=j->i<=t->t<=j->Fn n S (T s) 0 (nv n S a)=0->Fn n S (T t) 0 (nv n S a)=0:=fun{a s t} ha h1 h2 h3 h4 z=>by
  by_cases c:s<=t
  ·have:=zeros ha (t-s) s h1 (by omega);rw[show s+(t-s)=t by omega]at this;exact this.mpr z
  ·have:=zeros ha (s-t) t h3 (by omega);rw[show t+(s-t)=s by omega]at this;exact this.mp z
 -- the greatest name that comes and goes
 let Fk:Nat->Prop:=fun a=>∃t,i<=t/\t<j/\((inC n (T t) a/\¬inC n (T (t+1)) a)\/(¬inC n (T t) a/\inC n (T (t+1)) a));have fkc:∀t,i<=t->t<j->Fk ((T t).col (q t)):=fun t hi ht=>by
  have g:=Gt t hi (cD ht);refine⟨t,hi,ht,.inl ⟨⟨q t,(St t ht).hq,rfl⟩,fun z=> ?_⟩⟩;rcases(ic t ht hi _).mp z with⟨_,z⟩|z
  ·exact z rfl
  ·exact g.dis (q t) (p t) (St t ht).hq (St t ht).hp z
 have lt:∀a,Fk a->a<n+m:=fun a h=>by
  obtain⟨t,hi,ht,(⟨⟨c,hc,e⟩,_⟩|⟨_,⟨c,hc,e⟩⟩)⟩:=h
  ·rw[<-e];exact(Gt t hi (cD ht)).Lh c hc
  ·rw[<-e];exact(Gt (t+1) (by omega) ht).Lh c hc
 obtain⟨tt,hF,hmax⟩:=most (n+m) ⟨_,fkc i (aB i) hij⟩ lt;have diff:∀{a s e:Nat},i<=s->s<=j->i<=e->e<=j->inC n (T s) a->¬inC n (T e) a->Fk a:=fun{a s e} h1 h2 h3 h4 x y=>by
  by_cases c:s<=e
  ·obtain⟨t,a1,a2,a3,a4⟩:=u9 (P:=fun t=>inC n (T t) a) c x y;exact⟨t,by omega,by omega,.inl ⟨a3,a4⟩⟩
  ·obtain⟨t,a1,a2,a3,a4⟩:=u9 (P:=fun t=>¬inC n (T t) a) (s:=e) (e:=s) (by omega) y (fun z=>z x);exact⟨t,by omega,by omega,.inr ⟨a3,Classical.not_not.mp a4⟩⟩
 obtain⟨t1,Vi,RP,h1a,h1b⟩:∃t,i<=t/\t<j/\inC n (T t) tt/\¬inC n (T (t+1)) tt:=by
  obtain⟨t,hi,ht,(⟨x,y⟩|⟨x,y⟩)⟩:=hF
  ·exact⟨t,hi,ht,x,y⟩
  ·by_cases c:inC n (T j) tt
   ·obtain⟨u,a1,a2,a3,a4⟩:=u9 (P:=fun t=>inC n (T t) tt) hi ((same tt).mpr c) x;exact⟨u,a1,by omega,a3,a4⟩
   ·obtain⟨u,a1,a2,a3,a4⟩:=u9 (P:=fun t=>inC n (T t) tt) (s:=t+1) (e:=j) ht y c;exact⟨u,by omega,a2,a3,a4⟩
 obtain⟨t2,RN,QD,h2a,h2b⟩:∃t,i<=t/\t<j/\¬inC n (T t) tt/\inC n (T (t+1)) tt:=by
  have up:∀s e,i<=s->s<=e->e<=j->¬inC n (T s) tt->inC n (T e) tt->∃t,i<=t/\t<j/\¬inC n (T t) tt/\inC n (T (t+1)) tt:=fun s e a b c x y=>by
   obtain⟨u,a1,a2,a3,a4⟩:=u9 (P:=fun t=>¬inC n (T t) tt) b x (fun z=>z y);exact⟨u,by omega,by omega,a3,Classical.not_not.mp a4⟩
  by_cases c:inC n (T j) tt
  ·exact up (t1+1) j (by omega) RP (aB j) h1b c
  ·exact up i t1 (aB i) Vi (by omega) (fun z=>c ((same tt).mp z)) h1a
 have e1:tt=(T t1).col (q t1):=by
  refine Mu fun hn=>h1b ((ic t1 RP Vi tt).mpr (.inl ⟨h1a,hn⟩))
 have e2:tt=(T t2).row (p t2):=by
  rcases(ic t2 QD RN tt).mp h2b with⟨z,_⟩|z
  ·exact absurd z h2a
  ·exact z
 have G1:=Gt t1 Vi (cD RP);have G2:=Gt t2 RN (cD QD);have S1:=St t1 RP;have S2:=St t2 QD
 -- along the column that enters at t2
 have hq2:q t2+1<=n:=S2.hq;have dz:=G2.dir (aB m) S2.hq;rw[dY]at dz;have sum:=j9 (T:=T t2) (S:=S) hq2 (T t1).over (zv w);have eq1:=G1.eq m (aB m);rw[dY]at eq1;rw[CT eq1,fY hq2 _ _ ((T t1).cell m) (fun c=>nv n S ((T t1).col c)),iw G2.dt hq2,aj (tX _),dz]at sum;have neg:sm n (fun c=>(T t1).cell m c*Fn n S (T t2) (q t2+1) (nv n S ((T t1).col c)))<0:=by
  have:=Rm G1.pos (b:= -((T t2).cell m (q t2))) (by have:=S2.neg;omega);omega
 obtain⟨c,hc,hlt⟩:=Ei n neg;have hnm:=G1.Lh c hc;rcases G2.all _ hnm with⟨c0,hc0,e0⟩|⟨r0,hr0,e0⟩
 ·have f:=tU G2.dt hq2 hc0;rw[e0]at f;by_cases z:c0=q t2
  ·rw[ak (by omega)]at f;rw[f]at hlt;have cn:(T t1).cell m c<0:=by
    refine Int.not_le.mp fun h=> ?_;have:=yU h (Cq G2.pos);omega
   have a:=S1.ent c hc cn;rw[<-e1,<-e0,z]at a;have b:=hmax _ (fkc t2 RN QD);have:tt=(T t2).col (q t2):=Oh a b;exact G2.dis (q t2) (p t2) S2.hq S2.hp (this.symm.trans e2)
  ·rw[aj (by omega)]at f;rw[f,v8]at hlt;exact absurd hlt (Ym 0)
 ·have f:=G2.dir (cD hr0) S2.hq;rw[cY hr0,e0]at f;rw[f]at hlt;have fk:Fk ((T t1).col c):=diff Vi (cD RP) RN (cD QD) ⟨c,hc,rfl⟩ (fun⟨c',hc',e'⟩=>G2.dis c' r0 hc' hr0 (e'.trans e0.symm));have le:=hmax _ fk;by_cases z:(T t1).col c=tt
  ·have cq:c=q t1:=G1.yg c (q t1) hc S1.hq (z.trans e1);have rp:r0=p t2:=G2.Ey r0 (p t2) hr0 S2.hp (e0.trans (z.trans e2));subst cq rp;have a:=S1.neg;have b:=S2.by_;have:=Rm (a:= -((T t1).cell m (q t1))) (b:=(T t2).cell (p t2) (q t2)) (by omega) b
   grind
  ·have cn:¬(T t1).cell m c<0:=fun h=>by
    have:=S1.ent c hc h;omega
   have Fe:0<(T t2).cell r0 (q t2):=by
    refine Int.not_le.mp fun h=> ?_;have:=yU (a:=(T t1).cell m c) (b:= -((T t2).cell r0 (q t2))) (by omega) (by omega);omega
   have v1:Fn n S (T t1) 0 (nv n S ((T t1).col c))=0:=by rw[tU G1.dt (cg n) hc,aj (tX c)]
   have v2:=RZ hnm Vi (cD RP) RN (cD QD) v1;have b:=G2.base (cD hr0);rw[cY hr0,e0,v2]at b;have k:=fl t2 RN QD;rcases S2.lev r0 hr0 Fe with h|⟨_,h⟩
   ·rw[k,<-b,Q8,Q8]at h;exact absurd h (Ym 0)
   ·rw[<-e2,e0]at h;omega
noncomputable def enc:List Bool->Nat
 |[]=>0
 |b::l=>(if b=true then 1 else 0)+2*enc l
theorem Hr:∀l:List Bool,enc l<2^l.length
 |[]=>by decide
 |b::l=>by
  have:=Hr l;show(if b=true then 1 else 0)+2*enc l<2^(l.length+1);rw[Nat.pow_succ];split<;>omega
theorem zX:∀{l l':List Bool},l.length=l'.length->enc l=enc l'->l=l'
 |[],[],_,_=>rfl
 |b::l,b'::l',h,e=>by
  have e':(if b=true then 1 else 0)+2*enc l=(if b'=true then 1 else 0)+2*enc l':=e;have hb:b=b':=by cases b<;>cases b'<;>simp at e'⊢<;>omega
  subst hb;rw[zX (l:=l) (l':=l') (by simpa using h) (by omega)]
theorem few:∀(K:Nat) (l:List Nat),l.Nodup->(∀x∈l,x<K)->l.length<=K
 |0,[],_,_=>aB 0
 |0,x::_,_,h=>absurd (h x gG) (Lz x)
 |K+1,l,nd,h=>by
  have a:=few K (l.filter fun x=>decide (x≠K)) (nd.filter _) fun x hx=>by
   obtain⟨h1,h2⟩:=iM.mp hx;have:=h x h1;have:=kJ h2;omega
  have b:l.length<=(l.filter fun x=>decide (x≠K)).length+1:=by
   clear a h
   induction l with
   |nil=>exact cg _
   |cons y l ih=>
    have nd':=Cr.mp nd;rw[IV];by_cases c:y=K
    ·subst c;rw[aj (by simp)];have:l.filter (fun x=>decide (x≠y))=l:=Rh.mpr fun x hx=>cU fun e=>nd'.1 (e▸hx);rw[this];exact aB _
    ·rw[ak (cU c)];have:=ih nd'.2;simp only[nO];omega
  omega
open Classical in
noncomputable def code(n m:Nat)(T:Tab):Nat:=enc ((List.range (n+m)).map fun a=>decide (inC n T a))
theorem Run.short(R:Run n m S w T p q L):L<2^(n+m):=by
 have inj:∀i j,i<=L->j<=L->code n m (T i)=code n m (T j)->i=j:=by
  have one:∀i j,i<j->j<=L->code n m (T i)≠code n m (T j):=fun i j hij hj e=>by
   have l:=zX (by simp) e;refine R.Bt hij hj fun a=> ?_;by_cases ha:a<n+m
   ·have:=gD (fun l:List Bool=>l[a]?) l;simp only[dX,Rg ha,Option.map_some,Option.some.injEq,decide_eq_decide]at this;exact this
   ·exact⟨fun⟨c,hc,e⟩=>absurd ((R.good i (by omega)).Lh c hc) (by omega),fun⟨c,hc,e⟩=>absurd ((R.good j hj).Lh c hc) (by omega)⟩
  intro i j hi hj e;rcases Nat.lt_trichotomy i j with h|h|h
  ·exact absurd e (one i j h hj)
  ·exact h
  ·exact absurd e.symm (one j i h hi)
 have nd:((List.range (L+1)).map fun t=>code n m (T t)).Nodup:=by
  refine Ss.mpr (List.nodup_range.imp_of_mem fun{a b} ha hb hab e=>hab (inj a b ?_ ?_ e))
  ·have:=nM.mp ha;omega
  ·have:=nM.mp hb;omega
 have:=few (2^(n+m)) _ nd fun x hx=>by
  obtain⟨t,_,rfl⟩:=kW.mp hx;have:=Hr ((List.range (n+m)).map fun a=> @decide (inC n (T t) a) (Classical.propDecidable _));rw[aH,pZ]at this;exact this
 rw[aH,pZ]at this;omega
end
section
variable{n m:Nat}{S:Nat->Nat->Bool}{w:Nat->Int}{T:Tab}
theorem jo{a j:Nat}(h:a<n):nv n S a j=if j=a+1 then 1 else 0:=ak h
theorem rK{k j:Nat}:nv n S (n+k) j=if j=0 then 1 else if S k (j-1)=true then -1 else 0:=by
 unfold nv;rw[aj (by omega),show n+k-n=k by omega]
theorem zA{y:Nat->Int}{j:Nat}(hj:j<=n):sm n (fun c=>y c*nv n S c j)=if j=0 then 0 else y (j-1):=by
 by_cases h:j=0
 ·rw[ak h];exact CQ n fun c hc=>by rw[jo hc,aj (by omega),v8]
 ·rw[aj h,cX (j:=j-1) n (by omega) fun c hc hn=>by rw[jo hc,aj (by omega),v8],jo (by omega),ak (by omega),Ww]
theorem xM{k j:Nat}(hj:j<=n):nv n S (n+k) j=1*one j-sm n (fun c=>(if S k c=true then 1 else 0)*nv n S c j):=by
 rw[rK,zA hj];unfold one;by_cases h:j=0
 ·rw[ak h,ak h,ak h];rfl
 ·rw[aj h,aj h,aj h];split<;>rfl
theorem CP{j:Nat}(hj:j<=n):zv w j=0*one j-sm n (fun c=> -(w c)*nv n S c j):=by
 rw[zA hj];unfold zv;by_cases h:j=0
 ·rw[ak h,ak h];omega
 ·rw[aj h,aj h];omega
noncomputable def start(n m:Nat)(S:Nat->Nat->Bool)(w:Nat->Int):Tab where
 col:=fun c=>c
 row:=fun r=>n+r
 cell:=fun r c=>if r=m then(if c=n then 0 else -(w c))else if c=n then 1 else if S r c=true then 1 else 0
 over:=1
 s:=1
theorem wM:Good n m S w (start n m S w):=by
 refine⟨Int.one_pos,fun r hr j hj=> ?_,.inl rfl,?_,fun c c' _ _ e=>e,fun r r' _ _ e=>by have:n+r=n+r':=e;omega,fun c r hc _ e=>by have:c=n+r:=e;omega,fun c hc=>by show c<n+m;omega,fun r hr=>by show n+r<n+m;omega,fun a ha=> ?_,fun r hr=> ?_⟩
 ·show 1*rv n m S w (start n m S w) r j=(start n m S w).cell r n*one j-sm n (fun c=>(start n m S w).cell r c*nv n S c j);by_cases h:r<m
  ·rw[cY h];show 1*nv n S (n+r) j=_;rw[yQ,xM hj];have e1:(start n m S w).cell r n=1:=by show(if r=m then _ else if n=n then(1:Int)else _)=1;rw[aj (by omega),ak rfl]
   rw[e1,aK n fun c hc=> ?_];show _=(if r=m then _ else if c=n then(1:Int)else if S r c=true then 1 else 0)*_;rw[aj (show¬r=m by omega),aj (show¬c=n by omega)]
  ·have e:r=m:=by omega
   subst e;rw[dY,yQ,CP (n:=n) (S:=S) hj];have e1:(start n r S w).cell r n=0:=by show(if r=r then(if n=n then(0:Int)else _)else _)=0;rw[ak rfl,ak rfl]
   rw[e1,aK n fun c hc=> ?_];show _=(if r=r then(if c=n then(0:Int)else -(w c))else _)*_;rw[ak rfl,aj (show¬c=n by omega)]
 ·show(1:Int)=1*det (n+1) _;rw[vG (n+1) _ fun i hi j hj=> ?_]; · rfl
  by_cases h:i=0
  ·subst h;rw[vO];unfold one;by_cases e:j=0
   ·rw[ak e,ak e.symm]
   ·rw[aj e,aj (iU e)]
  ·obtain⟨c,rfl⟩:∃c,i=c+1:=⟨i-1,by omega⟩;rw[sV];show nv n S c j=_;rw[jo (by omega)];by_cases e:j=c+1
   ·rw[ak e,ak e.symm]
   ·rw[aj e,aj (iU e)]
 ·by_cases h:a<n
  ·exact .inl ⟨a,h,rfl⟩
  ·exact .inr ⟨a-n,by omega,by show n+(a-n)=a;omega⟩
 ·show 0<=(if r=m then _ else if n=n then(1:Int)else _);rw[aj (by omega),ak rfl];decide
theorem Good.bounded(G:Good n m S w T)(cov:∀p,p<n->∃k,k<m/\S k p=true){q:Nat}(hq:q<n):∃r,r<m/\0<T.cell r q:=by
 refine Mu fun no=> ?_;have no':∀r,r<m->T.cell r q<=0:=fun r hr=>Int.not_lt.mp fun h=>no ⟨r,hr,h⟩;have hq':q+1<=n:=hq;have nn:∀a,a<n+m->0<=Fn n S T (q+1) (nv n S a):=fun a ha=>by
  rcases G.all a ha with⟨c,hc,e⟩|⟨r,hr,e⟩
  ·rw[<-e,tU G.dt hq' hc];split
   ·exact Cq G.pos
   ·exact yR 0
  ·have:=G.dir (cD hr) hq;rw[cY hr,e]at this;rw[this];have:=no' r hr;omega
 have set:∀k,Fn n S T (q+1) (nv n S (n+k))= -sm n (fun p=>(if S k p=true then 1 else 0)*Fn n S T (q+1) (nv n S p)):=fun k=>by
  rw[CT fun j hj=>xM hj,fY hq' _ _ (fun c=>if S k c=true then 1 else 0) (fun c=>nv n S c),iw G.dt hq',aj (tX q)];omega
 have low:∀p,p<n->Fn n S T (q+1) (nv n S p)=0:=fun p hp=>by
  obtain⟨k,hk,hs⟩:=cov p hp;have a:=nn (n+k) (by omega);rw[set k]at a;have:=zB n (f:=fun p=>(if S k p=true then 1 else 0)*Fn n S T (q+1) (nv n S p)) (fun i hi=> ?_) (by omega) p hp
  ·rw[ak hs,yQ]at this;exact this
  ·have:=nn i (by omega);split<;>omega
 have z:Fn n S T (q+1) (nv n S (T.col q))=0:=by
  have hc:=G.Lh q hq;by_cases h:T.col q<n
  ·exact low _ h
  ·have e:T.col q=n+(T.col q-n):=by omega
   rw[e,set,CQ n fun p hp=>by rw[low p hp,v8]];rfl
 rw[tU G.dt hq' hq,ak rfl]at z;have:=G.pos;omega
theorem Fy(a j:Nat): -1<=nv n S a j/\nv n S a j<=1:=by
 unfold nv;split
 ·split<;>decide
 ·split
  ·decide
  ·split<;>decide
theorem Aa(i j:Nat): -1<=mD n S T i j/\mD n S T i j<=1:=by
 unfold mD;split
 ·unfold one;split<;>decide
 ·exact Fy _ _
theorem yH(G:Good n m S w T){c:Nat}{v:Vec}{B:Int}(hB:1<=B)(h:∀j,j<=n-> -B<=v j/\v j<=B): -(fct (n+1)*B)<=Fn n S T c v/\Fn n S T c v<=fct (n+1)*B:=by
 have d:=sI (n+1) (put (mD n S T) c v) c B hB (fun i _ j _ hn=>by rw[eU _ _ hn];exact Aa i j) (fun j hj _=>by rw[Ls];exact h j (by omega));unfold Fn;rcases G.sg with s|s
 ·rw[s,yQ];exact d
 ·rw[s];omega
theorem Good.zJ(G:Good n m S w T):T.over<=fct (n+1):=by
 have d:=yH G (c:=0) (v:=mD n S T 0) (B:=1) (by decide) fun j _=>Aa 0 j;rw[Ih G.dt (cg n) (cg n),ak rfl]at d;omega
theorem Good.HF(G:Good n m S w T)(hw:∀p,p<n->0<=w p/\w p<=99){r c:Nat}(hr:r<=m)(hc:c<=n): -(fct (n+1)*99)<=T.cell r c/\T.cell r c<=fct (n+1)*99:=by
 have hv:∀j,j<=n-> -99<=rv n m S w T r j/\rv n m S w T r j<=99:=fun j hj=>by
  unfold rv;split
  ·have:=Fy (n:=n) (S:=S) (T.row r) j;omega
  ·unfold zv;split
   ·decide
   ·have:=hw (j-1) (by omega);omega
 by_cases h:c=n
 ·subst h;have d:=yH G (c:=0) (B:=99) (by decide) hv;rw[G.base hr]at d;exact d
 ·have d:=yH G (c:=c+1) (B:=99) (by decide) hv;rw[G.dir hr (by omega)]at d;omega
theorem Ho:∀{k:Nat},k<=11->fct k<=39916800
 |0,_|1,_|2,_|3,_|4,_|5,_|6,_|7,_|8,_|9,_|10,_|11,_=>by decide
noncomputable def Ys(n m:Nat)(T:Tab)(a:Nat):Int:=sm n fun c=>if T.col c=a then T.cell m c else 0
noncomputable def Xs(n m:Nat)(T:Tab)(a:Nat):Int:=sm m fun r=>if T.row r=a then T.cell r n else 0
theorem Good.Sd(G:Good n m S w T){c:Nat}(hc:c<n):Ys n m T (T.col c)=T.cell m c:=by
 unfold Ys;rw[cX (j:=c) n hc fun i hi hn=>aj fun e=>hn (G.yg i c hi hc e),ak rfl]
theorem R9{a:Nat}(h:∀c,c<n->T.col c≠a):Ys n m T a=0:=CQ n fun c hc=>aj (h c hc)
theorem Good.Mh(G:Good n m S w T){r:Nat}(hr:r<m):Xs n m T (T.row r)=T.cell r n:=by
 unfold Xs;rw[cX (j:=r) m hr fun i hi hn=>aj fun e=>hn (G.Ey i r hi hr e),ak rfl]
theorem Mf{a:Nat}(h:∀r,r<m->T.row r≠a):Xs n m T a=0:=CQ m fun r hr=>aj (h r hr)
theorem Good.Df(G:Good n m S w T){a:Nat}(ha:a<n+m):Fn n S T 0 (nv n S a)=Xs n m T a:=by
 rcases G.all a ha with⟨c,hc,e⟩|⟨r,hr,e⟩
 ·rw[<-e,tU G.dt (cg n) hc,aj (tX c),Mf fun r hr z=>G.dis c r hc hr z.symm]
 ·rw[<-e,G.Mh hr];have:=G.base (cD hr);rw[cY hr]at this;exact this
theorem Good.Mg(G:Good n m S w T)(a:Nat):0<=Xs n m T a:=ur m fun r hr=>by
 have:=G.RQ r hr;split
 ·exact this
 ·exact yR 0
theorem Lx(h:∀c,c<n->0<=T.cell m c)(a:Nat):0<=Ys n m T a:=ur n fun c hc=>by
 have:=h c hc;split
 ·exact this
 ·exact yR 0
theorem uq(f:Nat->Int)(a:Nat):∀b,sm (a+b) f=sm a f+sm b fun k=>f (a+k)
 |0=>by show sm a f=sm a f+0;omega
 |b+1=>by
  show sm (a+b) f+f (a+b)=_;rw[uq f a b];show _=sm a f+(sm b (fun k=>f (a+k))+f (a+b));omega
theorem Good.Uj(G:Good n m S w T)(g:Nat->Int):sm n (fun c=>T.cell m c*g (T.col c))=sm n (fun a=>Ys n m T a*g a)+sm m (fun k=>Ys n m T (n+k)*g (n+k)):=by
 rw[<-uq (fun a=>Ys n m T a*g a)];have e:∀a,Ys n m T a*g a=sm n fun c=>(if T.col c=a then T.cell m c else 0)*g a:=fun a=>by
  unfold Ys;rw[yS,<-bQ];exact aK n fun c _=>yS _ _
 rw[aK (n+m) fun a _=>e a,rm (fun a c=>(if T.col c=a then T.cell m c else 0)*g a)];refine aK n fun c hc=> ?_;rw[cX (j:=T.col c) (n+m) (G.Lh c hc) fun a _ hn=>by rw[aj (iU hn),Q8],ak rfl]
theorem Good.total(G:Good n m S w T):sm m (fun k=>Ys n m T (n+k))=T.cell m n:=by
 have e:=G.eq m (aB m) 0 (cg n);rw[dY,G.Uj (fun a=>nv n S a 0),CQ n fun a ha=>by rw[jo ha,aj (by omega),v8]]at e;have z:zv w 0=0:=rfl;have o:one 0=1:=rfl;rw[z,o,aK m fun k _=>show Ys n m T (n+k)*nv n S (n+k) 0=Ys n m T (n+k) by rw[rK,ak rfl,Ww]]at e;omega
theorem Good.enough(G:Good n m S w T){p:Nat}(hp:p<n):sm m (fun k=>if S k p=true then Ys n m T (n+k)else 0)=T.over*w p+Ys n m T p:=by
 have e:=G.eq m (aB m) (p+1) hp;rw[dY,G.Uj (fun a=>nv n S a (p+1)),cX (j:=p) n hp fun a ha hn=>by rw[jo ha,aj (by omega),v8],jo hp,ak rfl]at e;have z:zv w (p+1)=w p:=by unfold zv;rw[aj (tX p)];rfl
 have o:one (p+1)=0:=aj (tX p);rw[z,o,aK m fun k _=>show Ys n m T (n+k)*nv n S (n+k) (p+1)= -1*(if S k p=true then Ys n m T (n+k)else 0) by
  rw[rK,aj (tX p),YW];split<;>omega,bQ]at e
 omega
theorem Good.light(G:Good n m S w T){k:Nat}(hk:k<m):sm n (fun p=>if S k p=true then Xs n m T p else 0)<=T.over:=by
 have h:Fn n S T 0 (nv n S (n+k))=1*Fn n S T 0 one-sm n (fun p=>(if S k p=true then 1 else 0)*Fn n S T 0 (nv n S p)):=by
  rw[CT fun j hj=>xM hj,fY (cg n) _ _ (fun c=>if S k c=true then 1 else 0) (fun c=>nv n S c)]
 rw[iw G.dt (cg n),ak rfl,G.Df (by omega),aK n fun p hp=>show(if S k p=true then(1:Int)else 0)*Fn n S T 0 (nv n S p)=if S k p=true then Xs n m T p else 0 by
  rw[G.Df (by omega)];split<;>omega]at h
 have:=G.Mg (n+k);omega
theorem Good.prices(G:Good n m S w T):sm n (fun p=>w p*Xs n m T p)=T.cell m n:=by
 have h:=G.base (aB m);rw[dY,CT fun j hj=>CP (n:=n) (S:=S) hj,fY (cg n) _ _ (fun c=> -(w c)) (fun c=>nv n S c),aK n fun p hp=>show -(w p)*Fn n S T 0 (nv n S p)= -1*(w p*Xs n m T p) by rw[G.Df (by omega)];grind,bQ]at h;omega
end
end Sx
namespace Bs
open PySem PySem.W PyProof.Rows PySem.Calls
noncomputable def KQ:Bool->Keyed->Array Keyed->Nat->Nat->Nat->StateT SortSt Sem (Option Nat):=sortPriv%PySem.Builtin.gallop
noncomputable def Gg:Array Keyed->Array Keyed->StateT SortSt Sem (Array Keyed):=sortPriv%PySem.Builtin.mergeLo
noncomputable def Gh:Array Keyed->Array Keyed->StateT SortSt Sem (Array Keyed):=sortPriv%PySem.Builtin.mergeHi
noncomputable def setG:Nat->StateT SortSt Sem Unit:=sortPriv%PySem.Builtin.setMinGallop
section
variable{prog:ρ}{w:υ}{A:Around}{E:L3}{s:η}{Gd:Keyed->Prop}
theorem nJ{arr:Array Keyed}{i:Nat}{st:SortSt}{Q:Keyed->SortSt->Prop}(hi:i<arr.size)(h:Q arr[i] st):wpS (model prog w) A E s (elem' arr i) Q st:=by
 rw[elem'_eq,yW hi];exact bF h
noncomputable def Al(Gd:Keyed->Prop)(xs:Array Keyed):Prop:=∀i (h:i<xs.size),Gd xs[i]
theorem Al.push{xs:Array Keyed}{x:Keyed}(h:Al Gd xs)(hx:Gd x):Al Gd (xs.push x):=fun i hi=>by
 rw[YQ];split
 ·exact h _ _
 ·exact hx
theorem Al.ext{xs:Array Keyed}(h:Al Gd xs)(i j:Nat):Al Gd (xs.extract i j):=fun k hk=>by
 rw[Ri];exact h _ _
theorem Al.rev{xs:Array Keyed}(h:Al Gd xs):Al Gd xs.reverse:=fun k hk=>by
 rw[Wi];exact h _ _
theorem vZ(xs:Array Keyed)(i j:Nat)(h:j<=xs.size):(xs.extract i j).size=j-i:=by rw[Wf];omega
structure Sv(st st':SortSt):Prop where
 arr:arrOf st'=arrOf st
 pend:pendingOf st'=pendingOf st
 fail:failedOf st'=failedOf st
 kind:kindOf st'=kindOf st
theorem Sv.refl(st:SortSt):Sv st st:=⟨rfl,rfl,rfl,rfl⟩
theorem m8{g:Nat}{st0 st:SortSt}{Q:Unit->SortSt->Prop}(sv:Sv st0 st)(h:∀st',Sv st0 st'->Q () st'):wpS (model prog w) A E s (setG g) Q st:=
 Mj (h _ ⟨sv.arr,sv.pend,sv.fail,sv.kind⟩)
end
section
variable{κ:SortKind}{Gd:Keyed->Prop}{N:Nat}{pp:Array (Nat×Nat×Nat)}{st:SortSt}
structure Iv(N:Nat)(κ:SortKind)(Gd:Keyed->Prop)(pp:Array (Nat×Nat×Nat))(st:SortSt):Prop where
 size:(arrOf st).size=N
 al:Al Gd (arrOf st)
 fail:failedOf st=none
 kind:kindOf st=κ
 pend:pendingOf st=pp
theorem Al.perm{xs ys:Array Keyed}(h:Al Gd xs)(p:ys.Perm xs):Al Gd ys:=fun i hi=>by
 have m:ys[i]∈ys.toList:=by simp
 have m2:=(Te.mp p).mem_iff.mp m;obtain⟨j,hj,e⟩:=yV m2;rw[<-e];exact h j (by simpa using hj)
end
noncomputable def Cont:Nat->List (Nat×Nat×Nat)->Nat->Prop
 |s,[],e=>s=e
 |s,(a,n,_)::r,e=>a=s/\1<=n/\Cont (s+n) r e
theorem Cont.le:∀{l:List (Nat×Nat×Nat)} {s e:Nat},Cont s l e->s<=e
 |[],_,_,h=>tW h
 |(_,n,_)::r,s,e,h=>dD (W9 s n) (Cont.le (l:=r) h.2.2)
theorem Cont.two:∀{l:List (Nat×Nat×Nat)} {s e i sa na p sb nb q:Nat},Cont s l e->l[i]? =some (sa,na,p)->l[i+1]? =some (sb,nb,q)->sb=sa+na/\1<=na/\1<=nb/\sb+nb<=e/\Cont s ((l.set i (sa,na+nb,p)).eraseIdx (i+1)) e
 |[],_,_,_,_,_,_,_,_,_,_,h1,_=>by simp at h1
 |[_],_,_,0,_,_,_,_,_,_,_,_,h2=>by simp at h2
 |(a,n,x)::(b,m,y)::r,s,e,0,sa,na,p,sb,nb,q,h,h1,h2=>by
  simp at h1 h2;obtain⟨rfl,rfl,rfl⟩:=h1;obtain⟨rfl,rfl,rfl⟩:=h2;obtain⟨rfl,hn,rfl,hm,hr⟩:=h;exact⟨rfl,hn,hm,Cont.le hr,rfl,by omega,by rw[<-WR];exact hr⟩
 |(a,n,x)::r,s,e,i+1,sa,na,p,sb,nb,q,h,h1,h2=>by
  obtain⟨rfl,hn,hr⟩:=h;obtain⟨z1,z2,z3,z4,z5⟩:=Cont.two (l:=r) (i:=i) hr (by simpa using h1) (by simpa using h2);exact⟨z1,z2,z3,z4,rfl,hn,z5⟩
theorem Cont.snoc{x:Nat}:∀{l:List (Nat×Nat×Nat)} {s e n:Nat},Cont s l e->1<=n->Cont s (l++[(e,n,x)]) (e+n)
 |[],_,_,_,h,hn=>⟨h.symm,hn,by rw[show _=_ from h];rfl⟩
 |(_,_,_)::r,_,_,_,h,hn=>⟨h.1,h.2.1,Cont.snoc (l:=r) h.2.2 hn⟩
theorem Cont.pw{f:Nat×Nat×Nat->Nat×Nat×Nat}(hf:∀a n x,∃y,f (a,n,x)=(a,n,y)):∀{l:List (Nat×Nat×Nat)} {s e i:Nat},Cont s l e->Cont s (l.modify i f) e
 |[],_,_,_,h=>by simpa using h
 |(a,n,x)::r,s,e,0,h=>by
  obtain⟨y,hy⟩:=hf a n x;show Cont s (f (a,n,x)::r) e;rw[hy];exact h
 |(a,n,x)::r,s,e,i+1,h=>⟨h.1,h.2.1,Cont.pw hf (l:=r) (i:=i) h.2.2⟩
section
variable{A:Around}{E:L3}{s:η}{Gd:Keyed->Prop}{st:SortSt}
theorem Jr{σ:Type}{M:Model}{x:σ}{Q:PUnit->σ->Prop}{st:σ}(h:Q ⟨⟩ x):wpS M A E s (set x:StateT σ Sem PUnit) Q st:=by
 unfold wpS;rw[StateT.run_set];exact aO ⟨rfl,h⟩
theorem zW(sa:Nat):∀(l:List (Keyed×Nat)) (xs:Array Keyed),Al Gd xs->(∀p∈l,Gd p.1)->Al Gd (l.foldl (fun a x=>a.setIfInBounds (sa+x.2) x.1) xs)/\(l.foldl (fun a x=>a.setIfInBounds (sa+x.2) x.1) xs).size=xs.size
 |[],xs,h,_=>⟨h,rfl⟩
 |(p,j)::l,xs,h,hl=>by
  have z:=zW sa l (xs.setIfInBounds (sa+j) p) (fun i hi=>by
   rw[Array.getElem_setIfInBounds]
   ·split
    ·exact hl _ gG
    ·exact h _ _
   ·simpa using hi) fun q hq=>hl q (eV _ hq)
  exact⟨z.1,z.2.trans (by simp)⟩
end
noncomputable def N8(vs out:List ζ):Prop:=out.length=vs.length/\∀v∈out,v∈vs
theorem uL{vs:List ζ}:N8 vs vs:=⟨rfl,fun _ h=>h⟩
section
variable{prog:ρ}{w:υ}{A:Around}{E:L3}{s:η}{κ:SortKind}{Gd:Keyed->Prop}{ky:Keyed->Int}
noncomputable def mY(prog:ρ)(w:υ)(A:Around)(E:L3)(s:η)(κ:SortKind)(Gd:Keyed->Prop)(ky:Keyed->Int):Prop:=
 ∀x y,Gd x->Gd y->∀(st:SortSt) (Q:Option Bool->SortSt->Prop),kindOf st=κ->Q (some (decide (ky x<ky y))) st->wpS (model prog w) A E s (lt' x y) Q st
noncomputable def bq(ky:Keyed->Int)(left:Bool)(key:Keyed)(arr:Array Keyed)(base i:Nat):Bool:=
 match arr[base+i]? with
 |some x=>if left=true then decide (ky x<ky key)else !decide (ky key<ky x)
 |none=>false
theorem Q6(ans:mY prog w A E s κ Gd ky){left:Bool}{key:Keyed}{arr:Array Keyed}{base n hint:Nat}{st:SortSt}{Q:Option Nat->SortSt->Prop}(hk:kindOf st=κ)(gk:Gd key)(ga:∀i (h:i<arr.size),Gd arr[i])(hb:base+n<=arr.size)(hh:hint<n)(mono:∀i j,i<=j->j<n->bq ky left key arr base j=true->bq ky left key arr base i=true)(h:∀k,k<=n->(∀i,i<k->bq ky left key arr base i=true)->(∀i,k<=i->i<n->bq ky left key arr base i=false)->Q (some k) st):wpS (model prog w) A E s (KQ left key arr base n hint) Q st:=by
 have VR:∀i,i<n->∀Q:Option Bool->SortSt->Prop,Q (some (bq ky left key arr base i)) st->
   wpS (model prog w) A E s (do
    let x<-elem' arr (base+i)
    if left=true then lt' x key else do
     let r<-lt' key x
     pure (Option.map (fun z=> !z) r)) Q st:=fun i hi Q hq=>by
  have hi':base+i<arr.size:=by omega
  unfold bq at hq;rw[yW hi']at hq;refine aZ (nJ hi' ?_);by_cases hl:left=true
  ·rw[ak hl];simp only[ak hl]at hq;exact ans _ _ (ga _ hi') gk st _ hk hq
  ·rw[aj hl];simp only[aj hl]at hq;exact aZ (ans _ _ gk (ga _ hi') st _ hk (bF hq))
 have up:∀j,j<n->bq ky left key arr base j=false->∀i,j<=i->i<n->bq ky left key arr base i=false:=fun j hj e i h1 h2=>by
  cases q:bq ky left key arr base i with
  |false=>rfl
  |true=>rw[mono j i h1 h2 q]at e;cases e
 refine aZ (VR _ hh _ ?_);cases eb:bq ky left key arr base hint with
 |true=>
  refine aZ (tO (tQ (I:=fun x c st'=>st=st'/\∃l r,c=(none,l,r)/\hint+l<n/\bq ky left key arr base (hint+l)=true/\x+1<=r) (Q:=fun c st'=>st=st'/\∃l r,c=(none,l,r)/\hint+l<n/\bq ky left key arr base (hint+l)=true/\(n-hint<=r\/(hint+r<n/\bq ky left key arr base (hint+r)=false))) ?_ ?_ ⟨rfl,0,1,rfl,hh,eb,aB _⟩) ?_)
  ·rintro x c st' hx0 hx1 ⟨rfl,l,r,rfl,hl,el,hx⟩;dsimp only;by_cases hlr:r≥n-hint
   ·rw[ak hlr];exact bF ⟨rfl,l,r,rfl,hl,el,.inl hlr⟩
   ·rw[aj hlr];refine aZ (VR _ (by omega) _ ?_);cases er:bq ky left key arr base (hint+r)with
    |true=>exact bF ⟨rfl,_,_,rfl,by omega,er,by omega⟩
    |false=>exact bF ⟨rfl,_,_,rfl,hl,el,.inr ⟨by omega,er⟩⟩
  ·rintro c st' ⟨rfl,l,r,rfl,hl,el,hx⟩;exact⟨rfl,l,r,rfl,hl,el,.inl (by omega)⟩
  ·rintro c st' ⟨rfl,l,r,rfl,hl,el,hr⟩;dsimp only;refine aZ (tO (tQ (I:=fun x c st'=>st=st'/\∃l r,c=(none,l,r)/\r<=n/\(∀i,i<l->i<n->bq ky left key arr base i=true)/\(∀i,r<=i->i<n->bq ky left key arr base i=false)/\r<=l+(n-x)) (Q:=fun c st'=>st=st'/\∃l r,c=(none,l,r)/\r<=n/\(∀i,i<l->i<n->bq ky left key arr base i=true)/\(∀i,r<=i->i<n->bq ky left key arr base i=false)/\r<=l) ?_ ?_ ⟨rfl,_,_,rfl,?_,?_,?_,?_⟩) ?_)
   ·rintro x c st' hx0 hx1 ⟨rfl,l,r,rfl,hr,h1,h2,hx⟩;dsimp only;by_cases hlr:l≥r
    ·rw[ak hlr];exact bF ⟨rfl,l,r,rfl,hr,h1,h2,hlr⟩
    ·rw[aj hlr];refine aZ (VR _ (by omega) _ ?_);cases er:bq ky left key arr base (l+(r-l)/2)with
     |true=>exact bF ⟨rfl,_,_,rfl,hr,fun i hi hn=>mono i _ (by omega) (by omega) er,h2,by omega⟩
     |false=>exact bF ⟨rfl,_,_,rfl,by omega,h1,up _ (by omega) er,by omega⟩
   ·rintro c st' ⟨rfl,l,r,rfl,hr,h1,h2,hx⟩;exact⟨rfl,l,r,rfl,hr,h1,h2,by omega⟩
   ·omega
   ·exact fun i hi hn=>mono i _ (by omega) hl el
   ·intro i hi hn;rcases hr with hr|⟨hr,er⟩
    ·omega
    ·exact up _ hr er i (by omega) hn
   ·omega
   ·rintro c st' ⟨rfl,l,r,rfl,hr,h1,h2,hx⟩;exact bF (h r hr (fun i hi=>h1 i (by omega) (by omega)) h2)
 |false=>
  refine aZ (tO (tQ (I:=fun x c st'=>st=st'/\∃l r,c=(none,l,r)/\l<=hint/\bq ky left key arr base (hint-l)=false/\x+1<=r) (Q:=fun c st'=>st=st'/\∃l r,c=(none,l,r)/\l<=hint/\bq ky left key arr base (hint-l)=false/\(hint+1<=r\/(r<=hint/\bq ky left key arr base (hint-r)=true))) ?_ ?_ ⟨rfl,0,1,rfl,cg _,eb,aB _⟩) ?_)
  ·rintro x c st' hx0 hx1 ⟨rfl,l,r,rfl,hl,el,hx⟩;dsimp only;by_cases hlr:r≥hint+1
   ·rw[ak hlr];exact bF ⟨rfl,l,r,rfl,hl,el,.inl hlr⟩
   ·rw[aj hlr];refine aZ (VR _ (by omega) _ ?_);cases er:bq ky left key arr base (hint-r)with
    |true=>exact bF ⟨rfl,_,_,rfl,hl,el,.inr ⟨by omega,er⟩⟩
    |false=>exact bF ⟨rfl,_,_,rfl,by omega,er,by omega⟩
  ·rintro c st' ⟨rfl,l,r,rfl,hl,el,hx⟩;exact⟨rfl,l,r,rfl,hl,el,.inl (by omega)⟩
  ·rintro c st' ⟨rfl,l,r,rfl,hl,el,hr⟩;dsimp only;refine aZ (tO (tQ (I:=fun x c st'=>st=st'/\∃l r,c=(none,l,r)/\r<=n/\(∀i,i<l->i<n->bq ky left key arr base i=true)/\(∀i,r<=i->i<n->bq ky left key arr base i=false)/\r<=l+(n-x)) (Q:=fun c st'=>st=st'/\∃l r,c=(none,l,r)/\r<=n/\(∀i,i<l->i<n->bq ky left key arr base i=true)/\(∀i,r<=i->i<n->bq ky left key arr base i=false)/\r<=l) ?_ ?_ ⟨rfl,_,_,rfl,?_,?_,?_,?_⟩) ?_)
   ·rintro x c st' hx0 hx1 ⟨rfl,l,r,rfl,hr,h1,h2,hx⟩;dsimp only;by_cases hlr:l≥r
    ·rw[ak hlr];exact bF ⟨rfl,l,r,rfl,hr,h1,h2,hlr⟩
    ·rw[aj hlr];refine aZ (VR _ (by omega) _ ?_);cases er:bq ky left key arr base (l+(r-l)/2)with
     |true=>exact bF ⟨rfl,_,_,rfl,hr,fun i hi hn=>mono i _ (by omega) (by omega) er,h2,by omega⟩
     |false=>exact bF ⟨rfl,_,_,rfl,by omega,h1,up _ (by omega) er,by omega⟩
   ·rintro c st' ⟨rfl,l,r,rfl,hr,h1,h2,hx⟩;exact⟨rfl,l,r,rfl,hr,h1,h2,by omega⟩
   ·omega
   ·intro i hi hn;rcases hr with hr|⟨hr,er⟩
    ·omega
    ·exact mono i _ (by omega) (by omega) er
   ·exact fun i hi hn=>up _ (by omega) el i (by omega) hn
   ·omega
   ·rintro c st' ⟨rfl,l,r,rfl,hr,h1,h2,hx⟩;exact bF (h r hr (fun i hi=>h1 i (by omega) (by omega)) h2)
end
section
variable{w:υ}{Gd:Keyed->Prop}{ky:Keyed->Int}
noncomputable def kk(ky:Keyed->Int)(a:Array Keyed)(i:Nat):Int:=match a[i]? with |some x=>ky x|none=>0
theorem dh{a:Array Keyed}{i:Nat}(h:i<a.size):kk ky a i=ky a[i]:=by unfold kk;rw[yW h]
noncomputable def SS(ky:Keyed->Int)(a:Array Keyed):Prop:=∀i j,i<j->j<a.size->kk ky a i<kk ky a j
theorem qx{a:Array Keyed}{x:Keyed}{i:Nat}(h:i<a.size):kk ky (a.push x) i=kk ky a i:=by
 rw[dh (by rw[m5];omega),dh h,Array.getElem_push_lt h]
theorem Cm{a:Array Keyed}{x:Keyed}:kk ky (a.push x) a.size=ky x:=by
 rw[dh (by rw[m5];omega),Array.getElem_push_eq]
structure Wm(Gd:Keyed->Prop)(ky:Keyed->Int)(a b out:Array Keyed)(ia ib:Nat):Prop where
 size:out.size=ia+ib
 al:Al Gd out
 ss:SS ky out
 la:∀i,i<out.size->∀j,ia<=j->j<a.size->kk ky out i<kk ky a j
 lb:∀i,i<out.size->∀j,ib<=j->j<b.size->kk ky out i<kk ky b j
theorem Wm.jO{a b out:Array Keyed}{ia ib:Nat}(ga:Al Gd a)(sa:SS ky a)(sb:SS ky b)(h:Wm Gd ky a b out ia ib)(hi:ia<a.size)(hc:ib<b.size->kk ky a ia<kk ky b ib):Wm Gd ky a b (out.push a[ia]) (ia+1) ib:=by
 refine⟨by rw[m5,h.size];omega,h.al.push (ga _ _),fun i j hij hj=> ?_,fun i hi' j h1 h2=> ?_,fun i hi' j h1 h2=> ?_⟩
 ·rw[m5]at hj;by_cases e:j<out.size
  ·rw[qx (by omega),qx e];exact h.ss i j hij e
  ·rw[show j=out.size by omega,Cm,qx (by omega),<-dh (ky:=ky) hi];exact h.la i (by omega) ia (aB _) hi
 ·rw[m5]at hi';by_cases e:i<out.size
  ·rw[qx e];exact h.la i e j (by omega) h2
  ·rw[show i=out.size by omega,Cm,<-dh (ky:=ky) hi];exact sa ia j (by omega) h2
 ·rw[m5]at hi';by_cases e:i<out.size
  ·rw[qx e];exact h.lb i e j h1 h2
  ·rw[show i=out.size by omega,Cm,<-dh (ky:=ky) hi];have h0:=hc (by omega);by_cases e2:j=ib
   ·rw[e2];exact h0
   ·have:=sb ib j (by omega) h2;omega
theorem Wm.lX{a b out:Array Keyed}{ia ib:Nat}(gb:Al Gd b)(sa:SS ky a)(sb:SS ky b)(h:Wm Gd ky a b out ia ib)(hi:ib<b.size)(hc:ia<a.size->kk ky b ib<kk ky a ia):Wm Gd ky a b (out.push b[ib]) ia (ib+1):=by
 refine⟨by rw[m5,h.size];omega,h.al.push (gb _ _),fun i j hij hj=> ?_,fun i hi' j h1 h2=> ?_,fun i hi' j h1 h2=> ?_⟩
 ·rw[m5]at hj;by_cases e:j<out.size
  ·rw[qx (by omega),qx e];exact h.ss i j hij e
  ·rw[show j=out.size by omega,Cm,qx (by omega),<-dh (ky:=ky) hi];exact h.lb i (by omega) ib (aB _) hi
 ·rw[m5]at hi';by_cases e:i<out.size
  ·rw[qx e];exact h.la i e j h1 h2
  ·rw[show i=out.size by omega,Cm,<-dh (ky:=ky) hi];have h0:=hc (by omega);by_cases e2:j=ia
   ·rw[e2];exact h0
   ·have:=sa ia j (by omega) h2;omega
 ·rw[m5]at hi';by_cases e:i<out.size
  ·rw[qx e];exact h.lb i e j (by omega) h2
  ·rw[show i=out.size by omega,Cm,<-dh (ky:=ky) hi];exact sb ib j (by omega) h2
theorem vA{a:Array Keyed}{i k:Nat}(h:i+k<a.size):a.extract i (i+(k+1))=(a.extract i (i+k)).push a[i+k]:=by
 apply Array.ext
 ·rw[m5,vZ _ _ _ (by omega),vZ _ _ _ (by omega)];omega
 ·intro j h1 h2;rw[vZ _ _ _ (by omega)]at h1;rw[Ri,YQ];split
  ·rw[Ri]
  ·next q=>
   rw[vZ _ _ _ (by omega)]at q;congr 1;omega
theorem Wm.qp{a b:Array Keyed}{ib:Nat}(ga:Al Gd a)(sa:SS ky a)(sb:SS ky b){out:Array Keyed}{ia:Nat}(h:Wm Gd ky a b out ia ib):∀k,ia+k<=a.size->(∀i,i<k->ib<b.size->kk ky a (ia+i)<kk ky b ib)->Wm Gd ky a b (out++a.extract ia (ia+k)) (ia+k) ib
 |0,_,_=>by
  rw[show a.extract ia (ia+0)=#[] by apply Yi;rw[Wf];omega,SM];exact h
 |k+1,hk,hc=>by
  have w:=Wm.qp ga sa sb h k (by omega) fun i hi=>hc i (by omega);rw[vA (by omega),Xc];exact w.jO ga sa sb (by omega) (hc k (by omega))
theorem Wm.qm{a b:Array Keyed}{ia:Nat}(gb:Al Gd b)(sa:SS ky a)(sb:SS ky b){out:Array Keyed}{ib:Nat}(h:Wm Gd ky a b out ia ib):∀k,ib+k<=b.size->(∀i,i<k->ia<a.size->kk ky b (ib+i)<kk ky a ia)->Wm Gd ky a b (out++b.extract ib (ib+k)) ia (ib+k)
 |0,_,_=>by
  rw[show b.extract ib (ib+0)=#[] by apply Yi;rw[Wf];omega,SM];exact h
 |k+1,hk,hc=>by
  have w:=Wm.qm gb sa sb h k (by omega) fun i hi=>hc i (by omega);rw[vA (by omega),Xc];exact w.lX gb sa sb (by omega) (hc k (by omega))
noncomputable def Dn(Gd:Keyed->Prop)(ky:Keyed->Int)(a b r:Array Keyed):Prop:=r.size=a.size+b.size/\Al Gd r/\SS ky r
theorem Wm.end_{a b out:Array Keyed}(h:Wm Gd ky a b out a.size b.size):Dn Gd ky a b out:=⟨h.size,h.al,h.ss⟩
theorem Wm.j6{a b out:Array Keyed}{ia:Nat}(ga:Al Gd a)(gb:Al Gd b)(sa:SS ky a)(sb:SS ky b)(h:Wm Gd ky a b out ia b.size)(hi:ia<=a.size):Dn Gd ky a b (out++a.extract ia a.size++b.extract b.size b.size):=by
 have w:=h.qp ga sa sb (a.size-ia) (by omega) fun i _ hb=>absurd hb (by omega);rw[show ia+(a.size-ia)=a.size by omega]at w;have w2:=w.qm gb sa sb 0 (by omega) fun i hi=>absurd hi (by omega);exact w2.end_
theorem Wm.Hv{a b out:Array Keyed}{ib:Nat}(ga:Al Gd a)(gb:Al Gd b)(sa:SS ky a)(sb:SS ky b)(h:Wm Gd ky a b out a.size ib)(hi:ib<=b.size):Dn Gd ky a b (out++a.extract a.size a.size++b.extract ib b.size):=by
 have w:=h.qp ga sa sb 0 (by omega) fun i hi=>absurd hi (by omega);have w2:=w.qm gb sa sb (b.size-ib) (by omega) fun i _ ha=>absurd ha (by omega);rw[show ib+(b.size-ib)=b.size by omega]at w2;exact w2.end_
theorem Wm.last{a b out:Array Keyed}{ia ib:Nat}(ga:Al Gd a)(gb:Al Gd b)(sa:SS ky a)(sb:SS ky b)(h:Wm Gd ky a b out ia ib)(ha:ia+1=a.size)(hb:ib<=b.size)(hl:∀j,j<b.size->kk ky b j<kk ky a (a.size-1)):Dn Gd ky a b (out++b.extract ib b.size++a.extract ia a.size):=by
 have w:=h.qm gb sa sb (b.size-ib) (by omega) fun i hi _=>by rw[show ia=a.size-1 by omega];exact hl _ (by omega)
 rw[show ib+(b.size-ib)=b.size by omega]at w;have w2:=w.qp ga sa sb 1 (by omega) fun i _ hb=>absurd hb (by omega);rw[ha]at w2;exact w2.end_
end
section
variable{prog:ρ}{w:υ}{A:Around}{E:L3}{s:η}{κ:SortKind}{Gd:Keyed->Prop}{ky:Keyed->Int}
theorem yD{key:Keyed}{arr:Array Keyed}{base i:Nat}(h:base+i<arr.size):bq ky false key arr base i= !decide (ky key<kk ky arr (base+i)):=by
 unfold bq;rw[yW h,dh h];rfl
theorem yC{key:Keyed}{arr:Array Keyed}{base i:Nat}(h:base+i<arr.size):bq ky true key arr base i=decide (kk ky arr (base+i)<ky key):=by
 unfold bq;rw[yW h,dh h];rfl
theorem Gf{key:Keyed}{arr:Array Keyed}{base n:Nat}(sa:SS ky arr)(hb:base+n<=arr.size):∀i j,i<=j->j<n->bq ky false key arr base j=true->bq ky false key arr base i=true:=fun i j hij hj h=>by
 rw[yD (by omega)]at h⊢;have h:¬ky key<kk ky arr (base+j):=by simpa using h
 by_cases e:i=j
 ·rw[e];simpa using h
 ·have:=sa (base+i) (base+j) (by omega) (by omega);simp;omega
theorem Ge{key:Keyed}{arr:Array Keyed}{base n:Nat}(sa:SS ky arr)(hb:base+n<=arr.size):∀i j,i<=j->j<n->bq ky true key arr base j=true->bq ky true key arr base i=true:=fun i j hij hj h=>by
 rw[yC (by omega)]at h⊢;have h:=kJ h;by_cases e:i=j
 ·rw[e];exact cU h
 ·have:=sa (base+i) (base+j) (by omega) (by omega);exact cU (by omega)
theorem Uu{a b:Array Keyed}{ia base k:Nat}(dj:∀i j,i<a.size->j<b.size->kk ky a i≠kk ky b j)(hia:ia<a.size)(f2:bq ky true a[ia] b base k=false)(hlt:base+k<b.size):kk ky a ia<kk ky b (base+k):=by
 rw[yC hlt,<-dh (ky:=ky) hia]at f2;have:=Mq f2;have d:=dj ia (base+k) hia hlt;omega
theorem pY{x y:Nat}(h:¬(x==y)=true):x≠y:=fun q=>h (by rw[q];exact beq_self_eq_true _)
theorem xP(ans:mY prog w A E s κ Gd ky){a b:Array Keyed}{st:SortSt}{Q:Array Keyed->SortSt->Prop}(hk:kindOf st=κ)(ga:Al Gd a)(gb:Al Gd b)(sa:SS ky a)(sb:SS ky b)(dj:∀i j,i<a.size->j<b.size->kk ky a i≠kk ky b j)(ha:0<a.size)(hb:0<b.size)(h0:kk ky b 0<kk ky a 0)(hl:∀j,j<b.size->kk ky b j<kk ky a (a.size-1))(h:∀r st',Sv st st'->Dn Gd ky a b r->Q r st'):wpS (model prog w) A E s (Gg a b) Q st:=by
 have Zn:Wm Gd ky a b #[] 0 0:=⟨rfl,fun i hi=>absurd hi (by simp),fun i j _ hj=>absurd hj (by simp),fun i hi=>absurd hi (by simp),fun i hi=>absurd hi (by simp)⟩;have w0:Wm Gd ky a b #[b[0]] 0 1:=Zn.lX gb sa sb hb fun _=>h0;refine aZ (Om (Dm ⟨rfl,?_⟩));dsimp only;refine aZ (nJ hb ?_);by_cases e1:(1==b.size)=true
 ·rw[ak e1];have e1:=eq_of_beq e1;rw[e1]at w0;have z:=w0.j6 ga gb sa sb (by omega);rw[<-e1]at z;exact bF (h _ _ (Sv.refl _) (by simpa[<-e1]using z))
 rw[aj e1];by_cases e2:(0+1==a.size)=true
 ·rw[ak e2];exact bF (h _ _ (Sv.refl _) (w0.last ga gb sa sb (eq_of_beq e2) (by omega) hl))
 rw[aj e2];have e1':1<b.size:=by have:=pY e1;omega
 have e2':1<a.size:=by have:=pY e2;omega
 refine aZ (Dk ?_);refine aZ (tO (tQ (I:=fun i c st'=>Sv st st'/\∃out ia ib mg,c=(none,out,ia,ib,mg)/\ia+1<a.size/\ib<b.size/\Wm Gd ky a b out ia ib/\i<=ia+ib)
  (Q:=fun c st'=>Sv st st'/\∃r rest,c=(some r,rest)/\Dn Gd ky a b r) ?step ?fin ⟨Sv.refl _,_,0,1,_,rfl,e2',e1',w0,by omega⟩) ?post)
 case fin=>
  rintro c st' ⟨_,out,ia,ib,mg,rfl,j1,j2,j3,j5⟩;omega
 case post=>
  rintro c st' ⟨sv,r,rest,rfl,z⟩;exact bF (h _ _ sv z)
 case step=>
  rintro i c st1 _ _ ⟨T7,out,ia,ib,mg,rfl,j1,j2,j3,j5⟩;dsimp only;refine aZ (tO (tQ (I:=fun x c st'=>Sv st st'/\∃out ia ib ac bc,c=(none,out,ia,ib,ac,bc)/\ia+1<a.size/\ib<b.size/\Wm Gd ky a b out ia ib/\i+x<=ia+ib)
   (Q:=fun c st'=>Sv st st'/\((∃r rest,c=(some r,rest)/\Dn Gd ky a b r)\/∃out ia ib ac bc,c=(none,out,ia,ib,ac,bc)/\ia+1<a.size/\ib<b.size/\Wm Gd ky a b out ia ib/\i+1<=ia+ib))
   ?step1 ?cR ⟨T7,out,ia,ib,0,0,rfl,j1,j2,j3,j5⟩) ?Fd)
  case cR=>
   rintro c st' ⟨_,out,ia,ib,ac,bc,rfl,j1,j2,j3,j5⟩;omega
  case step1=>
   rintro x c st2 _ _ ⟨nU,out,ia,ib,ac,bc,rfl,j1,j2,j3,j5⟩;dsimp only;have hia:ia<a.size:=by omega
   refine aZ (nJ j2 (aZ (nJ hia (aZ (ans _ _ (gb _ _) (ga _ _) _ _ (nU.kind.trans hk) ?_)))));rw[<-dh (ky:=ky) j2,<-dh (ky:=ky) hia];by_cases bw:kk ky b ib<kk ky a ia
   ·rw[cU bw];simp only[Ja];refine aZ (nJ j2 ?_);have w1:=j3.lX gb sa sb j2 fun _=>bw;by_cases q1:(ib+1==b.size)=true
    ·rw[ak q1];have q1:=eq_of_beq q1;rw[q1]at w1;rw[q1];exact bF ⟨nU,.inl ⟨_,_,rfl,w1.j6 ga gb sa sb (by omega)⟩⟩
    rw[aj q1];have EY:ib+1<b.size:=by have:=pY q1;omega
    by_cases q2:bc+1≥mg
    ·rw[ak q2];exact bF ⟨nU,.inr ⟨_,_,_,_,_,rfl,j1,EY,w1,by omega⟩⟩
    ·rw[aj q2];exact bF ⟨nU,_,_,_,_,_,rfl,j1,EY,w1,by omega⟩
   ·rw[gB bw];simp only[Am,yX];refine aZ (nJ hia ?_);have w1:=j3.jO ga sa sb hia fun _=>by have:=dj ia ib hia j2;omega
    by_cases q1:(ia+1+1==a.size)=true
    ·rw[ak q1];exact bF ⟨nU,.inl ⟨_,_,rfl,w1.last ga gb sa sb (eq_of_beq q1) (by omega) hl⟩⟩
    rw[aj q1];have EY:ia+1+1<a.size:=by have:=pY q1;omega
    by_cases q2:ac+1≥mg
    ·rw[ak q2];exact bF ⟨nU,.inr ⟨_,_,_,_,_,rfl,EY,j2,w1,by omega⟩⟩
    ·rw[aj q2];exact bF ⟨nU,_,_,_,_,_,rfl,EY,j2,w1,by omega⟩
  case Fd=>
   rintro c st2 ⟨nU,⟨r,rest,rfl,z⟩|⟨out,ia,ib,ac,bc,rfl,j1,j2,j3,j5⟩⟩
   ·exact bF ⟨nU,r,_,rfl,z⟩
   dsimp only;refine aZ (Om (Dm ⟨rfl,?_⟩));refine aZ (tO (tQ (I:=fun x c st'=>Sv st st'/\∃out ia ib mg ac bc,c=(none,out,ia,ib,mg,ac,bc)/\ia+1<a.size/\ib<b.size/\Wm Gd ky a b out ia ib/\i+1<=ia+ib)
    (Q:=fun c st'=>Sv st st'/\((∃r rest,c=(some r,rest)/\Dn Gd ky a b r)\/∃out ia ib mg ac bc,c=(none,out,ia,ib,mg,ac,bc)/\ia+1<a.size/\ib<b.size/\Wm Gd ky a b out ia ib/\i+1<=ia+ib))
    ?DK (fun _ _ q=>⟨q.1,.inr q.2⟩) ⟨nU,out,ia,ib,_,_,_,rfl,j1,j2,j3,j5⟩) ?post2)
   case post2=>
    rintro c st3 ⟨Jz,⟨r,rest,rfl,z⟩|⟨out,ia,ib,mg,ac,bc,rfl,j1,j2,j3,j5⟩⟩
    ·exact bF ⟨Jz,r,_,rfl,z⟩
    ·dsimp only;exact aZ (m8 Jz fun DN nT=>bF ⟨nT,out,ia,ib,_,rfl,j1,j2,j3,j5⟩)
   case DK=>
    clear j1 j2 j3 j5 nU T7;rintro x c st3 _ _ ⟨Jz,out,ia,ib,mg,ac,bc,rfl,j1,j2,j3,j5⟩;dsimp only;by_cases hmg:mg>1
    case' pos=>rw[ak hmg]
    case' neg=>rw[aj hmg]
    all_goals
     refine aZ (m8 Jz fun DN nT=> ?_);refine aZ (nJ j2 ?_);refine aZ (Q6 ans (nT.kind.trans hk) (gb _ _) ga (by omega) (by omega) (Gf sa (by omega)) fun k hkk kt kf=> ?_);dsimp only;have nx:ia+k<a.size->kk ky b ib<kk ky a (ia+k):=fun hlt=>by
      have:=kf k (aB _) (by omega);rw[yD (by omega),<-dh (ky:=ky) j2]at this;simpa using this
     by_cases hk0:k>0
     case' pos=>
      rw[ak hk0];have wA:=j3.qp ga sa sb k (by omega) fun i hi _=>by
       have:=kt i hi;rw[yD (by omega),<-dh (ky:=ky) j2]at this;have d:=dj (ia+i) ib (by omega) j2;have:¬kk ky b ib<kk ky a (ia+i):=by simpa using this
       omega
      by_cases q1:(ia+k+1==a.size)=true
      ·rw[ak q1];exact bF ⟨nT,.inl ⟨_,_,rfl,wA.last ga gb sa sb (eq_of_beq q1) (by omega) hl⟩⟩
      rw[aj q1];by_cases q2:(ia+k==a.size)=true
      ·rw[ak q2];have q2:=eq_of_beq q2;rw[q2]at wA;rw[q2];exact bF ⟨nT,.inl ⟨_,_,rfl,wA.Hv ga gb sa sb (by omega)⟩⟩
      rw[aj q2];have EY:ia+k+1<a.size:=by
       have u1:=pY q1;have u2:=pY q2;omega
      have j5:i+1<=ia+k+ib:=by omega
      generalize out++a.extract ia (ia+k)=aat at *;clear kt kf hkk;generalize ia+k=ia1 at *;clear j1 j3;have j1:=EY;clear EY
     case' neg=>
      rw[aj hk0];have k0:k=0:=by omega
      subst k0;rw[Nat.add_zero]at nx;have wA:=j3
     all_goals
      refine aZ (nJ j2 ?_);have hia:=Nat.lt_of_succ_lt j1;have nx1:=nx hia;have wB:=wA.lX gb sa sb j2 fun _=>nx1;by_cases q3:(ib+1==b.size)=true
      ·rw[ak q3];have q3:=eq_of_beq q3;rw[q3]at wB;rw[q3];exact bF ⟨nT,.inl ⟨_,_,rfl,wB.j6 ga gb sa sb (cD hia)⟩⟩
      rw[aj q3];have Zw:ib+1<b.size:=by have:=pY q3;omega
      refine aZ (nJ hia ?_);refine aZ (Q6 ans (nT.kind.trans hk) (ga _ _) gb (by omega) (by omega) (Ge sb (by omega)) fun k2 hk2 t2 f2=> ?_);dsimp only;have wC:=wB.qm gb sa sb k2 (by omega) fun i hi _=>by
       have:=t2 i hi;rw[yC (by omega),<-dh (ky:=ky) hia]at this;exact kJ this
      have nx2:=fun hlt:ib+1+k2<b.size=>Uu dj hia (f2 k2 (aB _) (by omega)) hlt;by_cases Vc:k2>0
      case' pos=>
       rw[ak Vc];by_cases q4:(ib+1+k2==b.size)=true
       ·rw[ak q4];have q4:=eq_of_beq q4;rw[q4]at wC;rw[q4];exact bF ⟨nT,.inl ⟨_,_,rfl,wC.j6 ga gb sa sb (cD hia)⟩⟩
       rw[aj q4];have RB:ib+1+k2<b.size:=by have:=pY q4;omega
       have wD:=wC.jO ga sa sb hia nx2
      case' neg=>
       rw[aj Vc];have k0:k2=0:=by omega
       subst k0;have RB:ib+1<b.size:=Zw;have wD:=wB.jO ga sa sb hia nx2
      all_goals
       refine aZ (nJ hia ?_);split
       ·next q5=>exact bF ⟨nT,.inl ⟨_,_,rfl,wD.last ga gb sa sb (eq_of_beq q5) (cD RB) hl⟩⟩
       ·next q5=>
        have Xo:=pY q5;split
        ·exact bF ⟨nT,.inr ⟨_,_,_,_,_,_,rfl,by omega,RB,wD,by omega⟩⟩
        ·exact bF ⟨nT,_,_,_,_,_,_,rfl,by omega,RB,wD,by omega⟩
end
section
variable{w:υ}{Gd:Keyed->Prop}{ky:Keyed->Int}
structure Wh(Gd:Keyed->Prop)(ky:Keyed->Int)(a b out:Array Keyed)(na nb:Nat):Prop where
 size:out.size+na+nb=a.size+b.size
 za:na<=a.size
 zb:nb<=b.size
 al:Al Gd out
 sd:∀i j,i<j->j<out.size->kk ky out j<kk ky out i
 la:∀i,i<out.size->∀j,j<na->kk ky a j<kk ky out i
 lb:∀i,i<out.size->∀j,j<nb->kk ky b j<kk ky out i
theorem Wh.jO{a b out:Array Keyed}{na nb:Nat}(ga:Al Gd a)(sa:SS ky a)(sb:SS ky b)(h:Wh Gd ky a b out na nb)(hn:0<na)(hi:na-1<a.size)(hc:0<nb->kk ky b (nb-1)<kk ky a (na-1)):Wh Gd ky a b (out.push a[na-1]) (na-1) nb:=by
 have z:=h.size;have za:=h.za;have zb:=h.zb;refine⟨by rw[m5];omega,by omega,zb,h.al.push (ga _ _),fun i j hij hj=> ?_,fun i hi' j h1=> ?_,fun i hi' j h1=> ?_⟩
 ·rw[m5]at hj;by_cases e:j<out.size
  ·rw[qx (i:=j) e,qx (i:=i) (by omega)];exact h.sd i j hij e
  ·rw[show j=out.size by omega,Cm,qx (by omega),<-dh (ky:=ky) hi];exact h.la i (by omega) _ (by omega)
 ·rw[m5]at hi';by_cases e:i<out.size
  ·rw[qx e];exact h.la i e j (by omega)
  ·rw[show i=out.size by omega,Cm,<-dh (ky:=ky) hi];exact sa j _ (by omega) hi
 ·rw[m5]at hi';by_cases e:i<out.size
  ·rw[qx e];exact h.lb i e j h1
  ·rw[show i=out.size by omega,Cm,<-dh (ky:=ky) hi];have h0:=hc (by omega);by_cases e2:j=nb-1
   ·rw[e2];exact h0
   ·have:=sb j (nb-1) (by omega) (by omega);omega
theorem Wh.lX{a b out:Array Keyed}{na nb:Nat}(gb:Al Gd b)(sa:SS ky a)(sb:SS ky b)(h:Wh Gd ky a b out na nb)(hn:0<nb)(hi:nb-1<b.size)(hc:0<na->kk ky a (na-1)<kk ky b (nb-1)):Wh Gd ky a b (out.push b[nb-1]) na (nb-1):=by
 have z:=h.size;have za:=h.za;have zb:=h.zb;refine⟨by rw[m5];omega,za,by omega,h.al.push (gb _ _),fun i j hij hj=> ?_,fun i hi' j h1=> ?_,fun i hi' j h1=> ?_⟩
 ·rw[m5]at hj;by_cases e:j<out.size
  ·rw[qx (i:=j) e,qx (i:=i) (by omega)];exact h.sd i j hij e
  ·rw[show j=out.size by omega,Cm,qx (by omega),<-dh (ky:=ky) hi];exact h.lb i (by omega) _ (by omega)
 ·rw[m5]at hi';by_cases e:i<out.size
  ·rw[qx e];exact h.la i e j h1
  ·rw[show i=out.size by omega,Cm,<-dh (ky:=ky) hi];have h0:=hc (by omega);by_cases e2:j=na-1
   ·rw[e2];exact h0
   ·have:=sa j (na-1) (by omega) (by omega);omega
 ·rw[m5]at hi';by_cases e:i<out.size
  ·rw[qx e];exact h.lb i e j (by omega)
  ·rw[show i=out.size by omega,Cm,<-dh (ky:=ky) hi];exact sb j _ (by omega) hi
theorem uG{a:Array Keyed}{k n:Nat}(hk:k<n)(hn:n<=a.size):(a.extract k n).reverse=(a.extract (k+1) n).reverse.push (a[k]'(by omega)):=by
 apply Array.ext
 ·rw[m5,LR,LR,vZ _ _ _ hn,vZ _ _ _ hn];omega
 ·intro j h1 h2;rw[LR,vZ _ _ _ hn]at h1;rw[Wi,Ri,YQ];split
  ·next q=>
   rw[LR,vZ _ _ _ hn]at q;rw[Wi,Ri];congr 1;rw[vZ _ _ _ hn,vZ _ _ _ hn];omega
  ·next q=>
   rw[LR,vZ _ _ _ hn]at q;congr 1;rw[vZ _ _ _ hn];omega
theorem j4{a:Array Keyed}{n:Nat}:a.extract n n=#[]:=by apply Yi;rw[Wf];omega
theorem Wh.qp{a b out:Array Keyed}{na nb:Nat}(ga:Al Gd a)(sa:SS ky a)(sb:SS ky b)(h:Wh Gd ky a b out na nb):∀d,d<=na->(∀i,na-d<=i->i<na->0<nb->kk ky b (nb-1)<kk ky a i)->Wh Gd ky a b (out++(a.extract (na-d) na).reverse) (na-d) nb
 |0,_,_=>by rw[WD,j4,Array.reverse_empty,SM];exact h
 |d+1,hd,hc=>by
  have za:=h.za;have w:=Wh.qp ga sa sb h d (by omega) fun i h1=>hc i (by omega);have e:na-d=na-(d+1)+1:=by omega
  rw[uG (by omega) za,Xc,<-e];have w2:=w.jO ga sa sb (by omega) (by omega) fun hb=>hc (na-d-1) (by omega) (by omega) hb;have e2:na-(d+1)=na-d-1:=by omega
  simp only[e2];exact w2
theorem Wh.qm{a b out:Array Keyed}{na nb:Nat}(gb:Al Gd b)(sa:SS ky a)(sb:SS ky b)(h:Wh Gd ky a b out na nb):∀d,d<=nb->(∀i,nb-d<=i->i<nb->0<na->kk ky a (na-1)<kk ky b i)->Wh Gd ky a b (out++(b.extract (nb-d) nb).reverse) na (nb-d)
 |0,_,_=>by rw[WD,j4,Array.reverse_empty,SM];exact h
 |d+1,hd,hc=>by
  have zb:=h.zb;have w:=Wh.qm gb sa sb h d (by omega) fun i h1=>hc i (by omega);have e:nb-d=nb-(d+1)+1:=by omega
  rw[uG (by omega) zb,Xc,<-e];have w2:=w.lX gb sa sb (by omega) (by omega) fun ha=>hc (nb-d-1) (by omega) (by omega) ha;have e2:nb-(d+1)=nb-d-1:=by omega
  simp only[e2];exact w2
theorem Gv{a:Array Keyed}{i:Nat}(h:i<a.size):kk ky a.reverse i=kk ky a (a.size-1-i):=by
 rw[dh (by rw[LR];exact h),dh (by omega),Wi]
theorem Wh.end_{a b out:Array Keyed}(h:Wh Gd ky a b out 0 0):Dn Gd ky a b out.reverse:=by
 have z:=h.size;refine⟨by rw[LR];omega,h.al.rev,fun i j hij hj=> ?_⟩;rw[LR]at hj;rw[Gv (by omega),Gv hj];exact h.sd _ _ (by omega) (by omega)
theorem nu(x y:Array Keyed):(x++y.reverse).reverse=y++x.reverse:=by rw[Array.reverse_append,Array.reverse_reverse]
theorem Wh.j6{a b out:Array Keyed}{nb:Nat}(gb:Al Gd b)(sa:SS ky a)(sb:SS ky b)(h:Wh Gd ky a b out 0 nb):Dn Gd ky a b (a.extract 0 0++b.extract 0 nb++out.reverse):=by
 have w:=h.qm gb sa sb nb (aB _) fun i _ _ ha=>absurd ha (by omega);rw[Wz]at w;have:=w.end_;rw[nu]at this;rw[j4,Array.empty_append];exact this
theorem Wh.Hv{a b out:Array Keyed}{na:Nat}(ga:Al Gd a)(sa:SS ky a)(sb:SS ky b)(h:Wh Gd ky a b out na 0):Dn Gd ky a b (a.extract 0 na++b.extract 0 0++out.reverse):=by
 have w:=h.qp ga sa sb na (aB _) fun i _ _ hb=>absurd hb (by omega);rw[Wz]at w;have:=w.end_;rw[nu]at this;rw[j4,SM];exact this
theorem Wh.first{a b out:Array Keyed}{na:Nat}(ga:Al Gd a)(gb:Al Gd b)(sa:SS ky a)(sb:SS ky b)(h:Wh Gd ky a b out na 1)(h0:∀i,i<a.size->kk ky b 0<kk ky a i):Dn Gd ky a b (b.extract 0 1++a.extract 0 na++out.reverse):=by
 have za:=h.za;have w:=h.qp ga sa sb na (aB _) fun i _ hi _=>h0 i (by omega);rw[Wz]at w;have w2:=w.qm gb sa sb 1 (aB _) fun i _ _ ha=>absurd ha (by omega);have:=w2.end_;rw[nu,nu,<-Array.append_assoc]at this;exact this
end
section
variable{prog:ρ}{w:υ}{A:Around}{E:L3}{s:η}{κ:SortKind}{Gd:Keyed->Prop}{ky:Keyed->Int}
theorem N5{key:Keyed}{arr:Array Keyed}{i:Nat}(h:i<arr.size):bq ky false key arr 0 i= !decide (ky key<kk ky arr i):=by
 have:=yD (ky:=ky) (key:=key) (arr:=arr) (base:=0) (i:=i) (by omega)
 rwa [WL]at this
theorem NZ{key:Keyed}{arr:Array Keyed}{i:Nat}(h:i<arr.size):bq ky true key arr 0 i=decide (kk ky arr i<ky key):=by
 have:=yC (ky:=ky) (key:=key) (arr:=arr) (base:=0) (i:=i) (by omega)
 rwa [WL]at this
theorem aah{a b:Array Keyed}{na nb k:Nat}(hna:na<=a.size)(hnb:nb-1<b.size)(kf:∀i,k<=i->i<na->bq ky false b[nb-1] a 0 i=false):∀i,k<=i->i<na->kk ky b (nb-1)<kk ky a i:=fun i h1 h2=>by
 have:=kf i h1 h2;rw[N5 (by omega),<-dh (ky:=ky) hnb]at this;simpa using this
theorem ZX{a b:Array Keyed}{na nb k:Nat}(dj:∀i j,i<a.size->j<b.size->kk ky a i≠kk ky b j)(hna:na<=a.size)(hkn:k<=na)(hnb:nb-1<b.size)(kt:∀i,i<k->bq ky false b[nb-1] a 0 i=true)(hk:0<k):kk ky a (k-1)<kk ky b (nb-1):=by
 have:=kt (k-1) (by omega);rw[N5 (by omega),<-dh (ky:=ky) hnb]at this;have d:=dj (k-1) (nb-1) (by omega) hnb;have:¬kk ky b (nb-1)<kk ky a (k-1):=by simpa using this
 omega
theorem aag{a b:Array Keyed}{na nb k:Nat}(dj:∀i j,i<a.size->j<b.size->kk ky a i≠kk ky b j)(hnb:nb<=b.size)(hna:na-1<a.size)(kf:∀i,k<=i->i<nb->bq ky true a[na-1] b 0 i=false):∀i,k<=i->i<nb->kk ky a (na-1)<kk ky b i:=fun i h1 h2=>by
 have:=kf i h1 h2;rw[NZ (by omega),<-dh (ky:=ky) hna]at this;have:=Mq this;have d:=dj (na-1) i hna (by omega);omega
theorem ZW{a b:Array Keyed}{na nb k:Nat}(hnb:nb<=b.size)(hkn:k<=nb)(hna:na-1<a.size)(kt:∀i,i<k->bq ky true a[na-1] b 0 i=true)(hk:0<k):kk ky b (k-1)<kk ky a (na-1):=by
 have:=kt (k-1) (by omega);rw[NZ (by omega),<-dh (ky:=ky) hna]at this;exact kJ this
theorem xQ(ans:mY prog w A E s κ Gd ky){a b:Array Keyed}{st:SortSt}{Q:Array Keyed->SortSt->Prop}(hk:kindOf st=κ)(ga:Al Gd a)(gb:Al Gd b)(sa:SS ky a)(sb:SS ky b)(dj:∀i j,i<a.size->j<b.size->kk ky a i≠kk ky b j)(ha:0<a.size)(hb:0<b.size)(h0:∀i,i<a.size->kk ky b 0<kk ky a i)(hl:kk ky b (b.size-1)<kk ky a (a.size-1))(h:∀r st',Sv st st'->Dn Gd ky a b r->Q r st'):wpS (model prog w) A E s (Gh a b) Q st:=by
 have Zn:Wh Gd ky a b #[] a.size b.size:=⟨by simp,aB _,aB _,fun i hi=>absurd hi (by simp),fun i j _ hj=>absurd hj (by simp),fun i hi=>absurd hi (by simp),fun i hi=>absurd hi (by simp)⟩;have hla:a.size-1<a.size:=by omega
 have w0:Wh Gd ky a b #[a[a.size-1]] (a.size-1) b.size:=Zn.jO ga sa sb ha hla fun _=>hl;refine aZ (Om (Dm ⟨rfl,?_⟩));dsimp only;refine aZ (nJ hla ?_);by_cases e1:(a.size-1==0)=true
 ·rw[ak e1];have e1:=eq_of_beq e1;refine bF (h _ _ (Sv.refl _) ?_);have w1:=w0;generalize #[a[a.size-1]]=aau at *;rw[e1]at w1;rw[e1];exact w1.j6 gb sa sb
 rw[aj e1];by_cases e2:(b.size==1)=true
 ·rw[ak e2];have e2:=eq_of_beq e2;refine bF (h _ _ (Sv.refl _) ?_);have w1:=w0;rw[e2]at w1;have z:=w1.first ga gb sa sb h0;rw[e2];exact z
 rw[aj e2];have e1':=pY e1;have e2':=pY e2;refine aZ (Dk ?_);refine aZ (tO (tQ (I:=fun i c st'=>Sv st st'/\∃na nb out mg,c=(none,na,nb,out,mg)/\0<na/\1<nb/\Wh Gd ky a b out na nb/\i<=out.size)
  (Q:=fun c st'=>Sv st st'/\∃r rest,c=(some r,rest)/\Dn Gd ky a b r) ?step ?fin ⟨Sv.refl _,_,_,_,_,rfl,by omega,by omega,w0,cg _⟩) ?post)
 case fin=>
  rintro c st' ⟨_,na,nb,out,mg,rfl,n1,n3,n5,n7⟩;have:=n5.size;omega
 case post=>
  rintro c st' ⟨sv,r,rest,rfl,z⟩;exact bF (h _ _ sv z)
 case step=>
  rintro i c st1 _ _ ⟨T7,na,nb,out,mg,rfl,n1,n3,n5,n7⟩;dsimp only;refine aZ (tO (tQ (I:=fun x c st'=>Sv st st'/\∃na nb out ac bc,c=(none,na,nb,out,ac,bc)/\0<na/\1<nb/\Wh Gd ky a b out na nb/\i+x<=out.size)
   (Q:=fun c st'=>Sv st st'/\((∃r rest,c=(some r,rest)/\Dn Gd ky a b r)\/∃na nb out ac bc,c=(none,na,nb,out,ac,bc)/\0<na/\1<nb/\Wh Gd ky a b out na nb/\i+1<=out.size))
   ?step1 ?cR ⟨T7,na,nb,out,0,0,rfl,n1,n3,n5,n7⟩) ?Fd)
  case cR=>
   rintro c st' ⟨_,na,nb,out,ac,bc,rfl,n1,n3,n5,n7⟩;have:=n5.size;omega
  case step1=>
   rintro x c st2 _ _ ⟨nU,na,nb,out,ac,bc,rfl,n1,n3,n5,n7⟩;dsimp only;have za:=n5.za;have zb:=n5.zb;have hna:na-1<a.size:=by omega
   have hnb:nb-1<b.size:=by omega
   refine aZ (nJ hnb (aZ (nJ hna (aZ (ans _ _ (gb _ _) (ga _ _) _ _ (nU.kind.trans hk) ?_)))));rw[<-dh (ky:=ky) hnb,<-dh (ky:=ky) hna];by_cases bw:kk ky b (nb-1)<kk ky a (na-1)
   ·rw[cU bw];simp only[Ja];refine aZ (nJ hna ?_);have w1:=n5.jO ga sa sb n1 hna fun _=>bw;have s1:(out.push a[na-1]).size=out.size+1:=m5 _;by_cases q1:(na-1==0)=true
    ·rw[ak q1];have q1:=eq_of_beq q1;generalize out.push a[na-1]=O at *;rw[q1]at w1;rw[q1];exact bF ⟨nU,.inl ⟨_,_,rfl,w1.j6 gb sa sb⟩⟩
    rw[aj q1];have EY:=pY q1;by_cases q2:ac+1≥mg
    ·rw[ak q2];exact bF ⟨nU,.inr ⟨_,_,_,_,_,rfl,by omega,n3,w1,by omega⟩⟩
    ·rw[aj q2];exact bF ⟨nU,_,_,_,_,_,rfl,by omega,n3,w1,by omega⟩
   ·rw[gB bw];simp only[Am,yX];refine aZ (nJ hnb ?_);have w1:=n5.lX gb sa sb (by omega) hnb fun _=>by have:=dj (na-1) (nb-1) hna hnb;omega
    have s1:(out.push b[nb-1]).size=out.size+1:=m5 _;by_cases q1:(nb-1==1)=true
    ·rw[ak q1];have q1:=eq_of_beq q1;generalize out.push b[nb-1]=O at *;rw[q1]at w1;rw[q1];exact bF ⟨nU,.inl ⟨_,_,rfl,w1.first ga gb sa sb h0⟩⟩
    rw[aj q1];have EY:=pY q1;by_cases q2:bc+1≥mg
    ·rw[ak q2];exact bF ⟨nU,.inr ⟨_,_,_,_,_,rfl,n1,by omega,w1,by omega⟩⟩
    ·rw[aj q2];exact bF ⟨nU,_,_,_,_,_,rfl,n1,by omega,w1,by omega⟩
  case Fd=>
   rintro c st2 ⟨nU,⟨r,rest,rfl,z⟩|⟨na,nb,out,ac,bc,rfl,n1,n3,n5,n7⟩⟩
   ·exact bF ⟨nU,r,_,rfl,z⟩
   dsimp only;refine aZ (Om (Dm ⟨rfl,?_⟩));refine aZ (tO (tQ (I:=fun x c st'=>Sv st st'/\∃na nb out mg ac bc,c=(none,na,nb,out,mg,ac,bc)/\0<na/\1<nb/\Wh Gd ky a b out na nb/\i+1<=out.size)
    (Q:=fun c st'=>Sv st st'/\((∃r rest,c=(some r,rest)/\Dn Gd ky a b r)\/∃na nb out mg ac bc,c=(none,na,nb,out,mg,ac,bc)/\0<na/\1<nb/\Wh Gd ky a b out na nb/\i+1<=out.size))
    ?DK (fun _ _ q=>⟨q.1,.inr q.2⟩) ⟨nU,na,nb,out,_,_,_,rfl,n1,n3,n5,n7⟩) ?post2)
   case post2=>
    rintro c st3 ⟨Jz,⟨r,rest,rfl,z⟩|⟨na,nb,out,mg,ac,bc,rfl,n1,n3,n5,n7⟩⟩
    ·exact bF ⟨Jz,r,_,rfl,z⟩
    ·dsimp only;exact aZ (m8 Jz fun DN nT=>bF ⟨nT,na,nb,out,_,rfl,n1,n3,n5,n7⟩)
   case DK=>
    clear n1 n3 n5 n7 nU T7;rintro x c st3 _ _ ⟨Jz,na,nb,out,mg,ac,bc,rfl,n1,n3,n5,n7⟩;dsimp only;have za:=n5.za;have zb:=n5.zb;have hna:na-1<a.size:=by omega
    have hnb:nb-1<b.size:=by omega
    by_cases hmg:mg>1
    case' pos=>rw[ak hmg]
    case' neg=>rw[aj hmg]
    all_goals
     refine aZ (m8 Jz fun DN nT=> ?_);refine aZ (nJ hnb ?_);refine aZ (Q6 ans (nT.kind.trans hk) (gb _ _) ga (by omega) (by omega) (Gf sa (by omega)) fun k hkk kt kf=> ?_);dsimp only;have la:=ZX dj za hkk hnb kt;have wA:=n5.qp ga sa sb (na-k) (by omega) fun i h1 h2 _=>aah za hnb kf i (by omega) h2;rw[show na-(na-k)=k by omega]at wA;clear kt kf;by_cases hk0:na-k>0
     case' pos=>
      rw[ak hk0];by_cases q1:(k==0)=true
      ·rw[ak q1];have q1:=eq_of_beq q1;subst q1;exact bF ⟨nT,.inl ⟨_,_,rfl,wA.j6 gb sa sb⟩⟩
      rw[aj q1];have m1:0<k:=by have:=pY q1;omega
      have s1:out.size<=(out++(a.extract k na).reverse).size:=by rw[Array.size_append];omega
      generalize out++(a.extract k na).reverse=O at *
     case' neg=>
      rw[aj hk0];have k0:k=na:=by omega
      subst k0;have m1:0<k:=n1;have s1:out.size<=out.size:=aB _;have wA:=n5
     all_goals
      have lb:=la m1;have zk:=wA.za;refine aZ (nJ hnb ?_);have wB:=wA.lX gb sa sb (by omega) hnb fun _=>lb;generalize hO2:Array.push _ b[nb-1]=O2 at *;have s2:=gD Array.size hO2;rw[m5]at s2;by_cases q2:(nb-1==1)=true
      ·rw[ak q2];have q2:=eq_of_beq q2;rw[q2]at wB;rw[q2];exact bF ⟨nT,.inl ⟨_,_,rfl,wB.first ga gb sa sb h0⟩⟩
      rw[aj q2];have q2':=pY q2;have Gz:k-1<a.size:=by omega
      refine aZ (nJ Gz ?_);refine aZ (Q6 ans (nT.kind.trans hk) (ga _ _) gb (by omega) (by omega) (Ge sb (by omega)) fun k2 aaf kt kf=> ?_);dsimp only;have la2:=ZW (by omega) aaf Gz kt;have wC:=wB.qm gb sa sb (nb-1-k2) (by omega) fun i h1 h2 _=>aag dj (by omega) Gz kf i (by omega) h2;rw[show nb-1-(nb-1-k2)=k2 by omega]at wC;clear kt kf;by_cases hk2:nb-1-k2>0
      case' pos=>
       rw[ak hk2];by_cases q3:(k2==1)=true
       ·rw[ak q3];have q3:=eq_of_beq q3;subst q3;exact bF ⟨nT,.inl ⟨_,_,rfl,wC.first ga gb sa sb h0⟩⟩
       rw[aj q3];by_cases q4:(k2==0)=true
       ·rw[ak q4];have q4:=eq_of_beq q4;subst q4;exact bF ⟨nT,.inl ⟨_,_,rfl,wC.Hv ga sa sb⟩⟩
       rw[aj q4];have Zw:=pY q3;have RB:=pY q4;have s3:O2.size<=(O2++(b.extract k2 (nb-1)).reverse).size:=by rw[Array.size_append];omega
       generalize O2++(b.extract k2 (nb-1)).reverse=O3 at *
      case' neg=>
       rw[aj hk2];have k0:k2=nb-1:=by omega
       subst k0;have Zw:nb-1≠1:=q2';have RB:nb-1≠0:=by omega
       have s3:O2.size<=O2.size:=aB _;have wC:=wB
      all_goals
       refine aZ (nJ Gz ?_);have wD:=wC.jO ga sa sb m1 Gz la2;generalize hO4:Array.push _ a[k-1]=O4 at *;have s4:=gD Array.size hO4;rw[m5]at s4;split
       ·next q5=>
        have Xo:=eq_of_beq q5;rw[Xo]at wD;rw[Xo];exact bF ⟨nT,.inl ⟨_,_,rfl,wD.j6 gb sa sb⟩⟩
       ·next q5=>
        have Xo:=pY q5;split
        ·exact bF ⟨nT,.inr ⟨_,_,_,_,_,_,rfl,by omega,by omega,wD,by omega⟩⟩
        ·exact bF ⟨nT,_,_,_,_,_,_,rfl,by omega,by omega,wD,by omega⟩
end
section
variable{κ:SortKind}{Gd:Keyed->Prop}{ky:Keyed->Int}{N:Nat}{pp:Array (Nat×Nat×Nat)}{st:SortSt}
theorem fold_at(sa:Nat):∀(l:List Keyed) (m:Nat) (xs:Array Keyed),sa+m+l.length<=xs.size->((l.zipIdx m).foldl (fun a x=>a.setIfInBounds (sa+x.2) x.1) xs).size=xs.size/\∀p,((l.zipIdx m).foldl (fun a x=>a.setIfInBounds (sa+x.2) x.1) xs)[p]? =if sa+m<=p/\p<sa+m+l.length then l[p-sa-m]? else xs[p]?
 |[],m,xs,_=>⟨rfl,fun p=>by rw[aj (by rw[LC];omega)];rfl⟩
 |x::l,m,xs,h=>by
  rw[nO]at h;obtain⟨z1,z2⟩:=fold_at sa l (m+1) (xs.setIfInBounds (sa+m) x) (by rw[wfc];omega);rw[wfc]at z1;refine⟨z1,fun p=> ?_⟩;show((l.zipIdx (m+1)).foldl _ (xs.setIfInBounds (sa+m) x))[p]? =_;rw[z2 p,nO];by_cases c:p=sa+m
  ·subst c;rw[aj (by omega),ak (by omega),wdp,ak rfl,ak (by omega)];rw[show sa+m-sa-m=0 by omega];rfl
  ·by_cases d:sa+(m+1)<=p/\p<sa+(m+1)+l.length
   ·rw[ak d,ak (by omega)];obtain⟨q,e⟩:∃q,p-sa-m=q+1:=⟨p-sa-m-1,by omega⟩;rw[e,show p-sa-(m+1)=q by omega];rfl
   ·rw[aj d,aj (by omega),wdp,aj (by omega)]
theorem K7{sa:Nat}{r xs:Array Keyed}(h:sa+r.size<=xs.size):(r.toList.zipIdx.foldl (fun a x=>a.setIfInBounds (sa+x.2) x.1) xs).size=xs.size/\∀p,kk ky (r.toList.zipIdx.foldl (fun a x=>a.setIfInBounds (sa+x.2) x.1) xs) p=if sa<=p/\p<sa+r.size then kk ky r (p-sa)else kk ky xs p:=by
 obtain⟨z1,z2⟩:=fold_at sa r.toList 0 xs (by rw[mJ];omega);refine⟨z1,fun p=> ?_⟩;have:=z2 p;rw[mJ,Nat.add_zero,WD,Jp]at this;by_cases c:sa<=p/\p<sa+r.size
 ·rw[ak c]at this⊢;unfold kk;rw[this]
 ·rw[aj c]at this⊢;unfold kk;rw[this]
theorem rR{a:Array Keyed}{i j p:Nat}(hj:j<=a.size)(hp:i+p<j):kk ky (a.extract i j) p=kk ky a (i+p):=by
 rw[dh (by rw[vZ _ _ _ hj];omega),dh (by omega),Ri]
noncomputable def Ds(ky:Keyed->Int)(a:Array Keyed):Prop:=∀i j,i<j->j<a.size->kk ky a i≠kk ky a j
noncomputable def Up(ky:Keyed->Int)(a:Array Keyed)(lo hi:Nat):Prop:=∀i j,lo<=i->i<j->j<hi->kk ky a i<kk ky a j
theorem Up.ss{a:Array Keyed}{lo hi i j:Nat}(h:Up ky a lo hi)(h1:lo<=i)(h2:j<=hi)(hj:j<=a.size):SS ky (a.extract i j):=fun p q hpq hq=>by
 rw[vZ _ _ _ hj]at hq;rw[rR hj (by omega),rR hj (by omega)];exact h _ _ (by omega) (by omega) (by omega)
noncomputable def Mb(ky:Keyed->Int)(a:Array Keyed)(lo hi:Nat)(x:Keyed):Prop:=∃p,lo<=p/\p<hi/\kk ky a p=ky x
structure Iu(N:Nat)(κ:SortKind)(Gd:Keyed->Prop)(ky:Keyed->Int)(pp:Array (Nat×Nat×Nat))(st:SortSt):Prop where
 iv:Iv N κ Gd pp st
 ds:Ds ky (arrOf st)
 up:∀q∈pp.toList,Up ky (arrOf st) q.1 (q.1+q.2.1)
theorem piece{arr r:Array Keyed}{lo hi:Nat}(hlh:lo<=hi)(hh:hi<=arr.size)(hr:r.size=hi-lo)(ds:Ds ky arr)(sr:SS ky r)(mb:Al (Mb ky arr lo hi) r)(b:Array Keyed)(hb:b.size=arr.size)(hk:∀p,kk ky b p=if lo<=p/\p<lo+r.size then kk ky r (p-lo)else kk ky arr p):
  Ds ky b/\(∀u v,Up ky arr u v->v<=lo\/hi<=u->Up ky b u v)/\(∀p,lo<=p->p<hi->∃q,lo<=q/\q<hi/\kk ky b p=kk ky arr q)/\Up ky b lo hi:=by
 have ins:∀p,lo<=p->p<hi->kk ky b p=kk ky r (p-lo):=fun p h1 h2=>by rw[hk,ak (by omega)]
 have out:∀p,¬(lo<=p/\p<hi)->kk ky b p=kk ky arr p:=fun p h=>by rw[hk,aj (by omega)]
 have mem:∀p,lo<=p->p<hi->∃q,lo<=q/\q<hi/\kk ky b p=kk ky arr q:=fun p h1 h2=>by
  have hp:p-lo<r.size:=by omega
  obtain⟨q,q1,q2,q3⟩:=mb (p-lo) hp;exact⟨q,q1,q2,by rw[ins p h1 h2,dh hp,q3]⟩
 have up:Up ky b lo hi:=fun i j h1 h2 h3=>by
  rw[ins i h1 (by omega),ins j (by omega) h3];exact sr _ _ (by omega) (by omega)
 have ne:∀i j,i≠j->i<arr.size->j<arr.size->kk ky arr i≠kk ky arr j:=fun i j h h1 h2=>by
  rcases Nat.lt_or_gt_of_ne h with z|z
  ·exact ds i j z h2
  ·exact(ds j i z h1).symm
 refine⟨fun i j hij hj=> ?_,fun u v hu huv i j h1 h2 h3=> ?_,mem,up⟩
 ·rw[hb]at hj;by_cases ci:lo<=i/\i<hi
  ·by_cases cj:lo<=j/\j<hi
   ·exact Int.ne_of_lt (up i j ci.1 hij cj.2)
   ·obtain⟨q,q1,q2,q3⟩:=mem i ci.1 ci.2;rw[q3,out j cj];exact ne q j (fun z=>cj (by omega)) (by omega) hj
  ·by_cases cj:lo<=j/\j<hi
   ·obtain⟨q,q1,q2,q3⟩:=mem j cj.1 cj.2;rw[q3,out i ci];exact ne i q (fun z=>ci (by omega)) (by omega) (by omega)
   ·rw[out i ci,out j cj];exact ds i j hij hj
 ·rw[out i (by omega),out j (by omega)];exact hu i j h1 h2 h3
end
section
variable{prog:ρ}{w:υ}{A:Around}{E:L3}{s:η}{κ:SortKind}{Gd:Keyed->Prop}{ky:Keyed->Int}
theorem Kf{key:Keyed}{arr:Array Keyed}{base n:Nat}(sa:Up ky arr base (base+n))(hb:base+n<=arr.size):∀i j,i<=j->j<n->bq ky false key arr base j=true->bq ky false key arr base i=true:=fun i j hij hj h=>by
 rw[yD (by omega)]at h⊢;have h:¬ky key<kk ky arr (base+j):=by simpa using h
 by_cases e:i=j
 ·rw[e];simpa using h
 ·have:=sa (base+i) (base+j) (by omega) (by omega) (by omega);simp;omega
theorem Ke{key:Keyed}{arr:Array Keyed}{base n:Nat}(sa:Up ky arr base (base+n))(hb:base+n<=arr.size):∀i j,i<=j->j<n->bq ky true key arr base j=true->bq ky true key arr base i=true:=fun i j hij hj h=>by
 rw[yC (by omega)]at h⊢;have h:=kJ h;by_cases e:i=j
 ·rw[e];exact cU h
 ·have:=sa (base+i) (base+j) (by omega) (by omega) (by omega);exact cU (by omega)
theorem Ds.ne{arr:Array Keyed}(ds:Ds ky arr){i j:Nat}(h:i≠j)(h1:i<arr.size)(h2:j<arr.size):kk ky arr i≠kk ky arr j:=by
 rcases Nat.lt_or_gt_of_ne h with z|z
 ·exact ds i j z h2
 ·exact(ds j i z h1).symm
theorem Up.two{arr:Array Keyed}{u v t:Nat}(h1:Up ky arr u v)(h2:Up ky arr v t)(h:∀i,u<=i->i<v->v<t->kk ky arr i<kk ky arr v):Up ky arr u t:=fun i j hi hij hj=>by
 by_cases c:j<v
 ·exact h1 i j hi hij c
 ·by_cases d:i<v
  ·have:=h i hi d (by omega);by_cases e:j=v
   ·rw[e];exact this
   ·have:=h2 v j (aB _) (by omega) hj;omega
  ·exact h2 i j (by omega) hij hj
theorem Cont.ge:∀{l:List (Nat×Nat×Nat)} {s e j a n x:Nat},Cont s l e->l[j]? =some (a,n,x)->s<=a/\a+n<=e
 |[],_,_,_,_,_,_,_,h=>by simp at h
 |(b,m,y)::r,s,e,0,a,n,x,h,h1=>by
  simp at h1;obtain⟨rfl,rfl,rfl⟩:=h1;obtain⟨rfl,hn,hr⟩:=h;exact⟨aB _,Cont.le hr⟩
 |(b,m,y)::r,s,e,j+1,a,n,x,h,h1=>by
  obtain⟨rfl,hn,hr⟩:=h;have:=Cont.ge (l:=r) (j:=j) hr (by simpa using h1);exact⟨by omega,this.2⟩
theorem Cont.ord:∀{l:List (Nat×Nat×Nat)} {s e j j' a n x a' n' x':Nat},Cont s l e->l[j]? =some (a,n,x)->l[j']? =some (a',n',x')->j<j'->a+n<=a'
 |[],_,_,_,_,_,_,_,_,_,_,_,h,_,_=>by simp at h
 |(b,m,y)::r,s,e,0,0,_,_,_,_,_,_,_,_,_,hj=>absurd hj (by omega)
 |(b,m,y)::r,s,e,0,j'+1,a,n,x,a',n',x',h,h1,h2,_=>by
  simp at h1;obtain⟨rfl,rfl,rfl⟩:=h1;obtain⟨rfl,hn,hr⟩:=h;exact(Cont.ge hr (by simpa using h2)).1
 |(b,m,y)::r,s,e,j+1,0,_,_,_,_,_,_,_,_,_,hj=>absurd hj (by omega)
 |(b,m,y)::r,s,e,j+1,j'+1,a,n,x,a',n',x',h,h1,h2,hj=>Cont.ord (l:=r) (j:=j) (j':=j') h.2.2 (by simpa using h1) (by simpa using h2) (by omega)
theorem Kg{l:List (Nat×Nat×Nat)}{i:Nat}{v q:Nat×Nat×Nat}(h:q∈(l.set i v).eraseIdx (i+1)):q=v\/∃j,j≠i/\j≠i+1/\l[j]? =some q:=by
 obtain⟨j,hj,e⟩:=List.mem_eraseIdx_iff_getElem?.mp h;rw[Xb]at e;by_cases c:i=j
 ·rw[ak c]at e;split at e
  ·exact .inl (pQ e).symm
  ·cases e
 ·rw[aj c]at e;exact .inr ⟨j,fun z=>c z.symm,hj,e⟩
theorem uz{l:List (Nat×Nat×Nat)}{i sa na pa nb pb e:Nat}{arr b:Array Keyed}(hc:Cont 0 l e)(e1:l[i]? =some (sa,na,pa))(e2:l[i+1]? =some (sa+na,nb,pb))(up:∀q∈l,Up ky arr q.1 (q.1+q.2.1))(hn:Up ky b sa (sa+(na+nb)))(keep:∀u v,Up ky arr u v->v<=sa\/sa+na+nb<=u->Up ky b u v):∀q∈(l.set i (sa,na+nb,pa)).eraseIdx (i+1),Up ky b q.1 (q.1+q.2.1):=fun q hq=>by
 rcases Kg hq with rfl|⟨j,h1,h2,h3⟩
 ·exact hn
 ·obtain⟨a,n,x⟩:=q;refine keep _ _ (up _ (pO h3)) ?_;by_cases c:j<i
  ·exact .inl (hc.ord h3 e1 c)
  ·exact .inr (hc.ord e2 h3 (by omega))
theorem mY.sub{Gd':Keyed->Prop}(h:mY prog w A E s κ Gd ky)(hs:∀x,Gd' x->Gd x):mY prog w A E s κ Gd' ky:=fun x y hx hy=>h x y (hs x hx) (hs y hy)
theorem three{arr b:Array Keyed}{u p m q v:Nat}(h1:Up ky arr u m)(h2:Up ky arr m v)(hp:u<=p)(hpm:p<m)(hmq:m<q)(hq:q<=v)(hv:v<=arr.size)(ka:∀i,u<=i->i<p->kk ky arr i<kk ky arr m)(kb:∀j,q<=j->j<v->kk ky arr (m-1)<kk ky arr j)(keep:∀i,i<p\/q<=i->kk ky b i=kk ky arr i)(mem:∀i,p<=i->i<q->∃t,p<=t/\t<q/\kk ky b i=kk ky arr t)(hm:Up ky b p q):Up ky b u v:=fun i j hi hij hj=>by
 by_cases a1:j<p
 ·rw[keep i (.inl (by omega)),keep j (.inl a1)];exact h1 i j hi hij (by omega)
 ·by_cases a2:j<q
  ·by_cases a3:i<p
   ·obtain⟨t,t1,t2,t3⟩:=mem j (by omega) a2;rw[keep i (.inl a3),t3];by_cases c:t<m
    ·exact h1 i t hi (by omega) c
    ·have:=ka i hi a3;by_cases d:t=m
     ·rw[d];exact this
     ·have:=h2 m t (aB _) (by omega) (by omega);omega
   ·exact hm i j (by omega) hij a2
  ·rw[keep j (.inr (by omega))];by_cases a3:i<p
   ·rw[keep i (.inl a3)];have:=ka i hi a3;by_cases d:j=m
    ·rw[d];exact this
    ·have:=h2 m j (aB _) (by omega) hj;omega
   ·by_cases a4:i<q
    ·obtain⟨t,t1,t2,t3⟩:=mem i (by omega) a4;rw[t3];by_cases c:t<m
     ·have:=kb j (by omega) hj;by_cases d:t=m-1
      ·rw[d];exact this
      ·have:=h1 t (m-1) (by omega) (by omega) (by omega);omega
     ·exact h2 t j (by omega) (by omega) hj
    ·rw[keep i (.inr (by omega))];exact h2 i j (by omega) hij hj
end
section
variable{prog:ρ}{w:υ}{A:Around}{E:L3}{s:η}{κ:SortKind}{Gd:Keyed->Prop}{ky:Keyed->Int}{N:Nat}{pp:Array (Nat×Nat×Nat)}{st:SortSt}
theorem jq(ans:mY prog w A E s κ Gd ky){i lo:Nat}{Q:Bool->SortSt->Prop}(I:Iu N κ Gd ky pp st)(hc:Cont 0 pp.toList lo)(hlo:lo<=N)(hi:i+1<pp.size)(h:∀Zx st',Iu N κ Gd ky Zx st'->Cont 0 Zx.toList lo->Zx.size+1=pp.size->(∀p,lo<=p->kk ky (arrOf st') p=kk ky (arrOf st) p)->Q true st'):wpS (model prog w) A E s (mergeAt' i) Q st:=by
 obtain⟨⟨sa,na,pa⟩,e1⟩:∃x,pp[i]? =some x:=⟨_,yW (by omega)⟩;obtain⟨⟨sb,nb,pb⟩,e2⟩:∃x,pp[i+1]? =some x:=⟨_,yW hi⟩;have l1:pp.toList[i]? =some (sa,na,pa):=by rw[Jp];exact e1
 have l2:pp.toList[i+1]? =some (sb,nb,pb):=by rw[Jp];exact e2
 obtain⟨rfl,z2,z3,z4,z5⟩:=hc.two l1 l2;have Wc:Cont 0 ((pp.setIfInBounds i (sa,na+nb,pa)).eraseIdxIfInBounds (i+1)).toList lo:=by
  rw[Wt,Wr];exact z5
 have zs:((pp.setIfInBounds i (sa,na+nb,pa)).eraseIdxIfInBounds (i+1)).size+1=pp.size:=by
  rw[<-mJ,Wt,Wr,Y9,Yv,mJ,ak hi];omega
 have U1:Up ky (arrOf st) sa (sa+na):=I.up _ (pO l1);have U2:Up ky (arrOf st) (sa+na) (sa+na+nb):=I.up _ (pO l2);have hsz:=I.iv.size;have ds:=I.ds;refine aZ (Dk ?_);have e1':(pendingOf st)[i]? =some (sa,na,pa):=by rw[I.iv.pend];exact e1
 have e2':(pendingOf st)[i+1]? =some (sa+na,nb,pb):=by rw[I.iv.pend];exact e2
 rw[e1',e2'];dsimp only;refine aZ (Jr ?_);have J:Iv N κ Gd ((pp.setIfInBounds i (sa,na+nb,pa)).eraseIdxIfInBounds (i+1)) (setPending st (((pendingOf st).setIfInBounds i (sa,na+nb,pa)).eraseIdxIfInBounds (i+1))):=
  ⟨I.iv.size,I.iv.al,I.iv.fail,I.iv.kind,by rw[<-I.iv.pend]⟩
 -- nothing is to be moved
 have still:Up ky (arrOf st) sa (sa+(na+nb))->Iu N κ Gd ky ((pp.setIfInBounds i (sa,na+nb,pa)).eraseIdxIfInBounds (i+1)) (setPending st (((pendingOf st).setIfInBounds i (sa,na+nb,pa)).eraseIdxIfInBounds (i+1))):=fun hu=>
  ⟨J,ds,by rw[Wt,Wr];exact uz hc l1 l2 I.up hu fun u v hu _=>hu⟩
 have hsb:sa+na<(arrOf st).size:=by omega
 refine aZ (nJ hsb ?_);have hb1:sa+na<=(arrOf st).size:=by omega
 refine aZ (Q6 (arr:=arrOf st) (base:=sa) (n:=na) ans J.kind (I.iv.al _ _) I.iv.al hb1 (by omega) (Kf U1 hb1) fun k hk kt kf=> ?_);dsimp only;have ka:∀j,sa<=j->j<sa+k->kk ky (arrOf st) j<kk ky (arrOf st) (sa+na):=fun j h1 h2=>by
  have:=kt (j-sa) (by omega);rw[yD (by omega),show sa+(j-sa)=j by omega,<-dh (ky:=ky) hsb]at this;have d:=ds.ne (show j≠sa+na by omega) (by omega) hsb;have:¬kk ky (arrOf st) (sa+na)<kk ky (arrOf st) j:=by simpa using this
  omega
 have kc:∀j,sa+k<=j->j<sa+na->kk ky (arrOf st) (sa+na)<kk ky (arrOf st) j:=fun j h1 h2=>by
  have:=kf (j-sa) (by omega) (by omega);rw[yD (by omega),show sa+(j-sa)=j by omega,<-dh (ky:=ky) hsb]at this;simpa using this
 clear kt kf;by_cases q1:(na-k==0)=true
 ·rw[ak q1];have q1:=eq_of_beq q1;refine bF (h _ _ (still ?_) Wc zs fun _ _=>rfl);rw[<-WR];exact U1.two U2 fun j h1 h2 _=>ka j h1 (by omega)
 rw[aj q1];have EY:=pY q1;have hx:sa+k+(na-k)-1<(arrOf st).size:=by omega
 refine aZ (nJ hx ?_);have hb2:sa+na+nb<=(arrOf st).size:=by omega
 refine aZ (Q6 (arr:=arrOf st) (base:=sa+na) (n:=nb) ans J.kind (I.iv.al _ _) I.iv.al hb2 (by omega) (Ke U2 hb2) fun k2 hk2 kt kf=> ?_);dsimp only;have ex:sa+k+(na-k)-1=sa+na-1:=by omega
 have kd:∀j,sa+na<=j->j<sa+na+k2->kk ky (arrOf st) j<kk ky (arrOf st) (sa+na-1):=fun j h1 h2=>by
  have:=kt (j-(sa+na)) (by omega);rw[yC (by omega),show sa+na+(j-(sa+na))=j by omega,<-dh (ky:=ky) hx,ex]at this;exact kJ this
 have kb:∀j,sa+na+k2<=j->j<sa+na+nb->kk ky (arrOf st) (sa+na-1)<kk ky (arrOf st) j:=fun j h1 h2=>by
  have:=kf (j-(sa+na)) (by omega) (by omega);rw[yC (by omega),show sa+na+(j-(sa+na))=j by omega,<-dh (ky:=ky) hx,ex]at this;have:=Mq this;have d:=ds.ne (show sa+na-1≠j by omega) (by omega) (by omega);omega
 clear kt kf;by_cases q2:(k2==0)=true
 ·rw[ak q2];have q2:=eq_of_beq q2;refine bF (h _ _ (still ?_) Wc zs fun _ _=>rfl);rw[<-WR];refine U1.two U2 fun j h1 h2 h3=> ?_;have:=kb (sa+na) (by omega) h3;by_cases c:j=sa+na-1
  ·rw[c];exact this
  ·have:=U1 j (sa+na-1) h1 (by omega) (by omega);omega
 rw[aj q2];have q2':=pY q2;have hz1:sa+na<=(arrOf st).size:=by omega
 have hz2:sa+na+k2<=(arrOf st).size:=by omega
 have sx:((arrOf st).extract (sa+k) (sa+na)).size=na-k:=by rw[vZ _ _ _ hz1];omega
 have sy:((arrOf st).extract (sa+na) (sa+na+k2)).size=k2:=by rw[vZ _ _ _ hz2];omega
 have kx:∀p,p<na-k->kk ky ((arrOf st).extract (sa+k) (sa+na)) p=kk ky (arrOf st) (sa+k+p):=fun p hp=>rR hz1 (by omega);have RG:∀p,p<k2->kk ky ((arrOf st).extract (sa+na) (sa+na+k2)) p=kk ky (arrOf st) (sa+na+p):=fun p hp=>rR hz2 (by omega);have ssx:SS ky ((arrOf st).extract (sa+k) (sa+na)):=U1.ss (by omega) (aB _) hz1;have ssy:SS ky ((arrOf st).extract (sa+na) (sa+na+k2)):=U2.ss (aB _) (by omega) hz2;have V1:=ans.sub (Gd':=fun x=>Gd x/\Mb ky (arrOf st) (sa+k) (sa+na+k2) x) fun x hx=>hx.1;have gx:Al (fun x=>Gd x/\Mb ky (arrOf st) (sa+k) (sa+na+k2) x) ((arrOf st).extract (sa+k) (sa+na)):=fun p hp=>by
  refine⟨I.iv.al.ext _ _ p hp,sa+k+p,by omega,by rw[sx]at hp;omega,?_⟩;rw[<-dh (ky:=ky) hp,kx p (by rw[sx]at hp;exact hp)]
 have gy:Al (fun x=>Gd x/\Mb ky (arrOf st) (sa+k) (sa+na+k2) x) ((arrOf st).extract (sa+na) (sa+na+k2)):=fun p hp=>by
  refine⟨I.iv.al.ext _ _ p hp,sa+na+p,by omega,by rw[sy]at hp;omega,?_⟩;rw[<-dh (ky:=ky) hp,RG p (by rw[sy]at hp;exact hp)]
 have dj:∀u v,u<((arrOf st).extract (sa+k) (sa+na)).size->v<((arrOf st).extract (sa+na) (sa+na+k2)).size->kk ky ((arrOf st).extract (sa+k) (sa+na)) u≠kk ky ((arrOf st).extract (sa+na) (sa+na+k2)) v:=fun u v hu hv=>by
  rw[sx]at hu;rw[sy]at hv;rw[kx u hu,RG v hv];exact ds.ne (by omega) (by omega) (by omega)
 have fin:∀(r:Array Keyed) (st':SortSt),Sv (setPending st (((pendingOf st).setIfInBounds i (sa,na+nb,pa)).eraseIdxIfInBounds (i+1))) st'->Dn (fun x=>Gd x/\Mb ky (arrOf st) (sa+k) (sa+na+k2) x) ky ((arrOf st).extract (sa+k) (sa+na)) ((arrOf st).extract (sa+na) (sa+na+k2)) r->
   Iu N κ Gd ky ((pp.setIfInBounds i (sa,na+nb,pa)).eraseIdxIfInBounds (i+1)) (setArr st' (r.toList.zipIdx.foldl (fun a x=>a.setIfInBounds (sa+k+x.2) x.1) (arrOf st')))/\∀p,lo<=p->kk ky (r.toList.zipIdx.foldl (fun a x=>a.setIfInBounds (sa+k+x.2) x.1) (arrOf st')) p=kk ky (arrOf st) p:=fun r st' sv dn=>by
  obtain⟨d1,d2,d3⟩:=dn;rw[sx,sy]at d1;have z:=zW (Gd:=Gd) (sa+k) r.toList.zipIdx (arrOf st') (by rw[sv.arr];exact I.iv.al) fun p hp=>by
   obtain⟨x,j⟩:=p;have m:=List.fst_mem_of_mem_zipIdx hp;obtain⟨t,ht,e⟩:=yV m;rw[<-e];exact(d2 t (by simpa using ht)).1
  have ea:arrOf st'=arrOf st:=sv.arr;obtain⟨f1,f2⟩:=K7 (ky:=ky) (sa:=sa+k) (r:=r) (xs:=arrOf st') (by rw[ea];omega);have pc:=piece (ky:=ky) (arr:=arrOf st) (r:=r) (lo:=sa+k) (hi:=sa+na+k2) (by omega) hz2 (by omega) ds d3 (fun p hp=>(d2 p hp).2) _ (by rw[f1,ea]) (fun p=>by rw[f2 p,ea]);obtain⟨p1,p2,p3,p4⟩:=pc;refine⟨⟨⟨z.2.trans ((gD Array.size sv.arr).trans J.size),z.1,sv.fail.trans J.fail,sv.kind.trans J.kind,sv.pend.trans J.pend⟩,p1,?_⟩,fun p hp=>by rw[f2 p,aj (by omega),ea]⟩;rw[Wt,Wr];refine uz hc l1 l2 I.up ?_ fun u v hu huv=>p2 u v hu (by omega);rw[<-WR];refine three (p:=sa+k) (m:=sa+na) (q:=sa+na+k2) U1 U2 (by omega) (by omega) (by omega) (by omega) (by omega) ka kb (fun j hj=> ?_) p3 p4;show kk ky (r.toList.zipIdx.foldl (fun a x=>a.setIfInBounds (sa+k+x.2) x.1) (arrOf st')) j=_;rw[f2 j,aj (by omega),ea]
 have Qt:kk ky ((arrOf st).extract (sa+k) (sa+na)) (((arrOf st).extract (sa+k) (sa+na)).size-1)=kk ky (arrOf st) (sa+na-1):=by
  rw[sx,kx _ (by omega)];congr 1;omega
 by_cases q3:na-k<=k2
 ·rw[ak q3];refine aZ (xP V1 J.kind gx gy ssx ssy dj (by rw[sx];omega) (by rw[sy];omega) ?_ (fun j hj=> ?_) fun r st' sv dn=> ?_)
  ·rw[kx 0 (by omega),RG 0 (by omega)];exact kc _ (by omega) (by omega)
  ·rw[sy]at hj;rw[Qt,RG j hj];exact kd _ (by omega) (by omega)
  refine aZ (Mj (aZ (Dk ?_)));obtain⟨F,F2⟩:=fin r st' sv dn;refine bF ?_;have ff:(failedOf (setArr st' (r.toList.zipIdx.foldl (fun a x=>a.setIfInBounds (sa+k+x.2) x.1) (arrOf st')))).isNone=true:=by rw[F.iv.fail];rfl
  have:=h _ _ F Wc zs F2;rw[<-ff]at this;exact this
 ·rw[aj q3];refine aZ (xQ V1 J.kind gx gy ssx ssy dj (by rw[sx];omega) (by rw[sy];omega) (fun j hj=> ?_) ?_ fun r st' sv dn=> ?_)
  ·rw[sx]at hj;rw[kx j hj,RG 0 (by omega)];exact kc _ (by omega) (by omega)
  ·rw[Qt,sy,RG _ (by omega)];exact kd _ (by omega) (by omega)
  refine aZ (Mj (aZ (Dk ?_)));obtain⟨F,F2⟩:=fin r st' sv dn;refine bF ?_;have ff:(failedOf (setArr st' (r.toList.zipIdx.foldl (fun a x=>a.setIfInBounds (sa+k+x.2) x.1) (arrOf st')))).isNone=true:=by rw[F.iv.fail];rfl
  have:=h _ _ F Wc zs F2;rw[<-ff]at this;exact this
theorem Hu{a:Array Keyed}:Ds ky a↔(a.toList.map ky).Nodup:=by
 unfold List.Nodup;rw[Jq];constructor
 ·intro h i j hi hj hij;rw[aH,mJ]at hi hj;have:=h i j hij hj;rw[dh hi,dh hj]at this;simpa using this
 ·intro h i j hij hj;have hi:i<a.size:=by omega
  have:=h i j (by simpa using hi) (by simpa using hj) hij;rw[dh hi,dh hj];simpa using this
theorem Ds.perm{a b:Array Keyed}(h:Ds ky a)(p:b.Perm a):Ds ky b:=
 Hu.mpr (((Te.mp p).map ky).nodup_iff.mpr (Hu.mp h))
theorem uV{a b:Array Keyed}{p q:Nat}(h:b[p]? =a[q]?):kk ky b p=kk ky a q:=by unfold kk;rw[h]
theorem iJ(ans:mY prog w A E s κ Gd ky){i j:Nat}{Q:Option Bool->SortSt->Prop}(I:Iu N κ Gd ky pp st)(hi:i<N)(hj:j<N)(h:Q (some (decide (kk ky (arrOf st) i<kk ky (arrOf st) j))) st):wpS (model prog w) A E s (ltAt' i j) Q st:=by
 rw[ltAt'_eq];refine aZ (Dk ?_);have hi':i<(arrOf st).size:=by rw[I.iv.size];exact hi
 have hj':j<(arrOf st).size:=by rw[I.iv.size];exact hj
 rw[dh hi',dh hj']at h;exact aZ (nJ hi' (aZ (nJ hj' (ans _ _ (I.iv.al _ _) (I.iv.al _ _) _ _ I.iv.kind h))))
theorem zR{a b:Array Keyed}{lo:Nat}{l:List (Nat×Nat×Nat)}(hl:∀q∈l,q.1+q.2.1<=lo)(hk:∀p,p<lo->kk ky b p=kk ky a p)(h:∀q∈l,Up ky a q.1 (q.1+q.2.1)):∀q∈l,Up ky b q.1 (q.1+q.2.1):=fun q hq i j h1 h2 h3=>by
 have:=hl q hq;rw[hk i (by omega),hk j (by omega)];exact h q hq i j h1 h2 h3
theorem Pq{lo n:Nat}{Q:Unit->SortSt->Prop}(I:Iu N κ Gd ky pp st)(hp:∀q∈pp.toList,q.1+q.2.1<=lo)(hn:lo+n<=N)(dn:∀i j,lo<=i->i<j->j<lo+n->kk ky (arrOf st) j<kk ky (arrOf st) i)(h:∀st',Iu N κ Gd ky pp st'->Up ky (arrOf st') lo (lo+n)->Q () st'):wpS (model prog w) A E s (reverseSlice' lo (lo+n)) Q st:=by
 rw[reverseSlice'_eq];have hsz:=I.iv.size;have ke:∀p,kk ky (mirror (arrOf st) lo (lo+n) ((lo+n-lo)/2)) p=if lo<=p/\p<lo+n then kk ky (arrOf st) (lo+(lo+n)-1-p)else kk ky (arrOf st) p:=fun p=>by
  have:=getElem?_mirror_all (xs:=arrOf st) (i:=lo) (j:=lo+n) (by omega) p;by_cases c:lo<=p/\p<lo+n
  ·rw[ak c]at this⊢;exact uV this
  ·rw[aj c]at this⊢;exact uV this
 refine Mj (h _ ⟨⟨(mirror_size _ _ _ _).trans I.iv.size,I.iv.al.perm (mirror_perm _ _ _ _),I.iv.fail,I.iv.kind,I.iv.pend⟩,I.ds.perm (mirror_perm _ _ _ _),?_⟩ ?_)
 ·exact zR hp (fun p hp=>(ke p).trans (aj (by omega))) I.up
 ·intro i j h1 h2 h3;refine(ke i).trans (ak (by omega))▸(ke j).trans (ak (by omega))▸?_;exact dn _ _ (by omega) (by omega) (by omega)
theorem iZ{a:Array Keyed}{lo n:Nat}(h:Up ky a lo (lo+n))(hn:1<=n)(hc:kk ky a (lo+n-1)<kk ky a (lo+n)):Up ky a lo (lo+(n+1)):=fun i j h1 h2 h3=>by
 by_cases c:j<lo+n
 ·exact h i j h1 h2 c
 ·rw[show j=lo+n by omega];by_cases d:i=lo+n-1
  ·rw[d];exact hc
  ·have:=h i (lo+n-1) h1 (by omega) (by omega);omega
theorem HD(ans:mY prog w A E s κ Gd ky){lo nrem:Nat}{Q:Option Nat->SortSt->Prop}(I:Iu N κ Gd ky pp st)(hp:∀q∈pp.toList,q.1+q.2.1<=lo)(h1:1<=nrem)(hn:lo+nrem<=N)(h:∀m st',1<=m->m<=nrem->Iu N κ Gd ky pp st'->Up ky (arrOf st') lo (lo+m)->Q (some m) st'):wpS (model prog w) A E s (countRun' lo nrem) Q st:=by
 have ne:∀{st':SortSt},Iu N κ Gd ky pp st'->∀i j,i≠j->i<N->j<N->kk ky (arrOf st') i≠kk ky (arrOf st') j:=fun I' i j hij hi hj=>I'.ds.ne hij (by rw[I'.iv.size];exact hi) (by rw[I'.iv.size];exact hj);rw[countRun'_eq];refine aZ (tO (tQ (I:=fun x c st'=>st'=st/\c=(none,x)/\Up ky (arrOf st) lo (lo+x)) (Q:=fun c st'=>st'=st/\∃n,c=(none,n)/\1<=n/\n<=nrem/\Up ky (arrOf st) lo (lo+n)/\(n=nrem\/kk ky (arrOf st) (lo+n)<kk ky (arrOf st) (lo+n-1))) ?_ ?_ ⟨rfl,rfl,fun i j a b c=>absurd c (by omega)⟩) ?_)
 ·rintro x c st1 Xz hx ⟨rfl,rfl,hu⟩;dsimp only;refine aZ (iJ ans I (by omega) (by omega) ?_);by_cases c:kk ky (arrOf st1) (lo+x)<kk ky (arrOf st1) (lo+x-1)
  ·rw[cU c];exact bF ⟨rfl,_,rfl,Xz,by omega,hu,.inr c⟩
  ·rw[gB c];have d:=ne I (lo+x) (lo+x-1) (by omega) (by omega) (by omega);exact bF ⟨rfl,rfl,iZ hu Xz (by omega)⟩
 ·rintro c st1 ⟨rfl,rfl,hu⟩;rw[show max 1 nrem=nrem by omega]at hu⊢;exact⟨rfl,_,rfl,by omega,aB _,hu,.inl rfl⟩
 rintro c st1 ⟨rfl,n,rfl,hn1,hn2,hu,hz⟩;dsimp only;by_cases e1:(n==nrem)=true
 ·rw[ak e1];exact bF (h _ _ hn1 hn2 I hu)
 rw[aj e1];have e1':=pY e1;by_cases e2:n>1
 ·rw[ak e2];refine aZ (iJ ans I (by omega) (by omega) ?_);rw[cU (hu lo (lo+n-1) (aB _) (by omega) (by omega))];exact bF (h _ _ hn1 hn2 I hu)
 rw[aj e2];obtain rfl:n=1:=by omega
 have hz:=hz.resolve_left e1';refine aZ (Om (Dm ⟨rfl,?_⟩));refine aZ (tO (tQ (I:=fun x c st'=>st'=st1/\c=(none,x,0)/\∀i j,lo<=i->i<j->j<lo+x->kk ky (arrOf st1) j<kk ky (arrOf st1) i) (Q:=fun c st'=>st'=st1/\∃n,c=(none,n,0)/\1<=n/\n<=nrem/\∀i j,lo<=i->i<j->j<lo+n->kk ky (arrOf st1) j<kk ky (arrOf st1) i) ?_ ?_ ⟨rfl,rfl,fun i j a b c=> ?_⟩) ?_)
 ·rintro x c st2 Xz hx ⟨rfl,rfl,hd⟩;dsimp only;refine aZ (iJ ans I (by omega) (by omega) ?_);by_cases c:kk ky (arrOf st2) (lo+x)<kk ky (arrOf st2) (lo+x-1)
  ·rw[cU c];dsimp only;simp only[Ja];rw[aj (by omega)];refine bF ⟨rfl,rfl,fun i j a1 a2 a3=> ?_⟩;by_cases d:j<lo+x
   ·exact hd i j a1 a2 d
   ·rw[show j=lo+x by omega];by_cases d2:i=lo+x-1
    ·rw[d2];exact c
    ·have:=hd i (lo+x-1) a1 (by omega) (by omega);omega
  ·rw[gB c];dsimp only;simp only[Am,yX];have d:=ne I (lo+x) (lo+x-1) (by omega) (by omega) (by omega);refine aZ (iJ ans I (by omega) (by omega) ?_);rw[cU (show kk ky (arrOf st2) (lo+x-1)<kk ky (arrOf st2) (lo+x) by omega)];exact bF ⟨rfl,_,rfl,by omega,by omega,hd⟩
 ·rintro c st2 ⟨rfl,rfl,hd⟩;rw[show max (1+1) nrem=nrem by omega]at hd⊢;exact⟨rfl,_,rfl,by omega,aB _,hd⟩
 ·obtain⟨rfl,rfl⟩:i=lo/\j=lo+1:=by omega
  exact hz
 rintro c st2 ⟨rfl,n,rfl,hn1',hn2',hd⟩;dsimp only;rw[aj (by omega)];refine aZ (Pq I hp (by omega) hd fun st3 I3 Kz=> ?_);refine aZ (tO (tQ (I:=fun x c st'=>st'=st3/\c=(none,x)/\Up ky (arrOf st3) lo (lo+x)) (Q:=fun c st'=>st'=st3/\∃n,c=(none,n)/\1<=n/\n<=nrem/\Up ky (arrOf st3) lo (lo+n)) ?_ ?_ ⟨rfl,rfl,Kz⟩) ?_)
 ·rintro x c DN Xz hx ⟨rfl,rfl,hu⟩;dsimp only;refine aZ (iJ ans I3 (by omega) (by omega) ?_);by_cases c:kk ky (arrOf DN) (lo+x)<kk ky (arrOf DN) (lo+x-1)
  ·rw[cU c];exact bF ⟨rfl,_,rfl,by omega,by omega,hu⟩
  ·rw[gB c];have d:=ne I3 (lo+x) (lo+x-1) (by omega) (by omega) (by omega);exact bF ⟨rfl,rfl,iZ hu (by omega) (by omega)⟩
 ·rintro c DN ⟨rfl,rfl,hu⟩;rw[show max n nrem=nrem by omega]at hu⊢;exact⟨rfl,_,rfl,by omega,aB _,hu⟩
 rintro c DN ⟨rfl,n,rfl,hn3,hn4,hu⟩;exact bF (h _ _ hn3 hn4 I3 hu)
theorem Kd{lo k l:Nat}{Q:Unit->SortSt->Prop}(I:Iu N κ Gd ky pp st)(hp:∀q∈pp.toList,q.1+q.2.1<=lo)(hk:lo+k<N)(hl:l<=k)(hu:Up ky (arrOf st) lo (lo+k))(b1:∀i,i<l->kk ky (arrOf st) (lo+i)<kk ky (arrOf st) (lo+k))(b2:∀i,l<=i->i<k->kk ky (arrOf st) (lo+k)<kk ky (arrOf st) (lo+i))(h:∀st',Iu N κ Gd ky pp st'->Up ky (arrOf st') lo (lo+(k+1))->Q () st'):wpS (model prog w) A E s (moveDown' (lo+k) (lo+l)) Q st:=by
 rw[moveDown'_eq];have hsz:=I.iv.size;have ke:∀p,kk ky (bubble (arrOf st) (lo+k) (lo+k-(lo+l))) p=if p=lo+l then kk ky (arrOf st) (lo+k)else if lo+l<p/\p<=lo+k then kk ky (arrOf st) (p-1)else kk ky (arrOf st) p:=fun p=>by
  have:=getElem?_bubble (xs:=arrOf st) (src:=lo+k) (by omega) (lo+k-(lo+l)) (by omega) p;rw[show lo+k-(lo+k-(lo+l))=lo+l by omega]at this;by_cases c:p=lo+l
  ·rw[ak c]at this⊢;exact uV this
  ·rw[aj c]at this⊢;by_cases d:lo+l<p/\p<=lo+k
   ·rw[ak d]at this⊢;exact uV this
   ·rw[aj d]at this⊢;exact uV this
 refine Mj (h _ ⟨⟨(bubble_size _ _ _).trans I.iv.size,I.iv.al.perm (bubble_perm _ _ _),I.iv.fail,I.iv.kind,I.iv.pend⟩,I.ds.perm (bubble_perm _ _ _),?_⟩ ?_)
 ·exact zR hp (fun p hp=>(ke p).trans ((aj (by omega)).trans (aj (by omega)))) I.up
 ·intro i j h1 h2 h3;have ki:=ke i;have kj:=ke j;have goal:∀x y:Int,kk ky (bubble (arrOf st) (lo+k) (lo+k-(lo+l))) i=x->kk ky (bubble (arrOf st) (lo+k) (lo+k-(lo+l))) j=y->x<y->kk ky (bubble (arrOf st) (lo+k) (lo+k-(lo+l))) i<kk ky (bubble (arrOf st) (lo+k) (lo+k-(lo+l))) j:=fun x y e1 e2 e3=>by rw[e1,e2];exact e3
  have lo1:∀t,lo<=t->t<lo+l->kk ky (arrOf st) t<kk ky (arrOf st) (lo+k):=fun t a b=>by
   have:=b1 (t-lo) (by omega);rwa [show lo+(t-lo)=t by omega]at this
  have hi1:∀t,lo+l<=t->t<lo+k->kk ky (arrOf st) (lo+k)<kk ky (arrOf st) t:=fun t a b=>by
   have:=b2 (t-lo) (by omega) (by omega);rwa [show lo+(t-lo)=t by omega]at this
  by_cases ci:i=lo+l
  ·rw[ak ci]at ki;rw[aj (by omega),ak (by omega)]at kj;exact goal _ _ ki kj (hi1 _ (by omega) (by omega))
  ·rw[aj ci]at ki;by_cases di:lo+l<i/\i<=lo+k
   ·rw[ak di]at ki;rw[aj (by omega),ak (by omega)]at kj;exact goal _ _ ki kj (hu _ _ (by omega) (by omega) (by omega))
   ·rw[aj di]at ki;by_cases cj:j=lo+l
    ·rw[ak cj]at kj;exact goal _ _ ki kj (lo1 _ h1 (by omega))
    ·rw[aj cj]at kj;by_cases dj:lo+l<j/\j<=lo+k
     ·rw[ak dj]at kj;refine goal _ _ ki kj ?_;exact hu _ _ h1 (by omega) (by omega)
     ·rw[aj dj]at kj;exact goal _ _ ki kj (hu _ _ h1 h2 (by omega))
theorem QX(ans:mY prog w A E s κ Gd ky){lo n ok:Nat}{Q:Bool->SortSt->Prop}(I:Iu N κ Gd ky pp st)(hp:∀q∈pp.toList,q.1+q.2.1<=lo)(hn:lo+n<=N)(h1:1<=ok)(hon:ok<=n)(hu:Up ky (arrOf st) lo (lo+ok))(h:∀st',Iu N κ Gd ky pp st'->Up ky (arrOf st') lo (lo+n)->Q true st'):wpS (model prog w) A E s (binarySort' lo n ok) Q st:=by
 have emx:max ok 1=ok:=by omega
 rw[binarySort'_eq];refine aZ (tO (tQ (I:=fun k c st'=>Iu N κ Gd ky pp st'/\c=(none,())/\Up ky (arrOf st') lo (lo+k)) (Q:=fun c st'=>Iu N κ Gd ky pp st'/\c=(none,())/\Up ky (arrOf st') lo (lo+n)) ?_ ?_ ⟨I,rfl,by rw[emx];exact hu⟩) ?_)
 ·rintro k c st1 hk0 hk ⟨I1,rfl,hu1⟩;dsimp only;refine aZ (tO (tQ (I:=fun x c st'=>st'=st1/\∃l r,c=(none,l,r)/\l<=r/\r<=k/\(∀i,i<l->kk ky (arrOf st1) (lo+i)<kk ky (arrOf st1) (lo+k))/\(∀i,r<=i->i<k->kk ky (arrOf st1) (lo+k)<kk ky (arrOf st1) (lo+i))/\r<=l+(k-x))
   (Q:=fun c st'=>st'=st1/\∃l r,c=(none,l,r)/\l<=k/\(∀i,i<l->kk ky (arrOf st1) (lo+i)<kk ky (arrOf st1) (lo+k))/\(∀i,l<=i->i<k->kk ky (arrOf st1) (lo+k)<kk ky (arrOf st1) (lo+i))) ?_ ?_ ⟨rfl,0,k,rfl,cg _,aB _,fun i hi=>absurd hi (by omega),fun i a b=>absurd b (by omega),by omega⟩) ?_)
  ·rintro x c st2 _ hx ⟨rfl,l,r,rfl,hlr,hr,b1,b2,hf⟩;dsimp only;by_cases hl:l≥r
   ·rw[ak hl];exact bF ⟨rfl,l,r,rfl,by omega,b1,fun i a b=>b2 i (by omega) b⟩
   rw[aj hl];refine aZ (iJ ans I1 (by omega) (by omega) ?_);by_cases c:kk ky (arrOf st2) (lo+k)<kk ky (arrOf st2) (lo+(l+r)/2)
   ·rw[cU c];refine bF ⟨rfl,_,_,rfl,by omega,by omega,b1,fun i a b=> ?_,by omega⟩;by_cases e:i=(l+r)/2
    ·rw[e];exact c
    ·have:=hu1 (lo+(l+r)/2) (lo+i) (by omega) (by omega) (by omega);omega
   ·rw[gB c];have d:=I1.ds.ne (show lo+(l+r)/2≠lo+k by omega) (by rw[I1.iv.size];omega) (by rw[I1.iv.size];omega);refine bF ⟨rfl,_,_,rfl,by omega,hr,fun i a=> ?_,b2,by omega⟩;by_cases e:i=(l+r)/2
    ·rw[e];omega
    ·have:=hu1 (lo+i) (lo+(l+r)/2) (by omega) (by omega) (by omega);omega
  ·rintro c st2 ⟨rfl,l,r,rfl,hlr,hr,b1,b2,hf⟩;refine⟨rfl,l,r,rfl,by omega,b1,fun i a b=>b2 i ?_ b⟩;have:max 0 k=k:=by omega
   omega
  ·rintro c st2 ⟨rfl,l,r,rfl,hr,b1,b2⟩;exact aZ (Kd I1 hp (by omega) hr hu1 b1 b2 fun st3 I3 Kz=>bF ⟨I3,rfl,Kz⟩)
 ·rintro c st1 ⟨I1,rfl,hu1⟩;rw[show max (max ok 1) n=n by omega]at hu1;exact⟨I1,rfl,hu1⟩
 ·rintro c st1 ⟨I1,rfl,hu1⟩;exact bF (h _ I1 hu1)
end
theorem Cont.len:∀{l:List (Nat×Nat×Nat)} {s e:Nat},Cont s l e->s+l.length<=e
 |[],_,_,h=>tW h
 |(_,n,_)::r,s,e,h=>by
  have:=Cont.len (l:=r) h.2.2;have:=h.2.1;rw[nO];omega
theorem Cont.ends{l:List (Nat×Nat×Nat)}{e:Nat}(h:Cont 0 l e):∀q∈l,q.1+q.2.1<=e:=fun q hq=>by
 obtain⟨j,hj,rfl⟩:=yV hq;exact(h.ge (dJ hj)).2
theorem Qm{f:Nat×Nat×Nat->Nat×Nat×Nat}(hf:∀x,(f x).1=x.1/\(f x).2.1=x.2.1){l:List (Nat×Nat×Nat)}{i:Nat}{q:Nat×Nat×Nat}(h:q∈l.modify i f):∃x∈l,q.1=x.1/\q.2.1=x.2.1:=by
 obtain⟨j,hj,rfl⟩:=yV h;rw[List.length_modify]at hj;refine⟨l[j],tY hj,?_⟩;rw[List.getElem_modify];split
 ·exact hf _
 ·exact⟨rfl,rfl⟩
section
variable{prog:ρ}{w:υ}{A:Around}{E:L3}{s:η}{κ:SortKind}{Gd:Keyed->Prop}{ky:Keyed->Int}{N:Nat}{pp:Array (Nat×Nat×Nat)}{st:SortSt}
theorem JK(ans:mY prog w A E s κ Gd ky){Q:Unit->SortSt->Prop}(I:Iu N κ Gd ky #[] st)(h:∀st',(arrOf st').size=N->Al Gd (arrOf st')->failedOf st'=none->SS ky (arrOf st')->Q () st'):wpS (model prog w) A E s sortRuns' Q st:=by
 rw[sortRuns'_eq];refine aZ (Dk ?_);dsimp only;simp only[I.iv.size];generalize minRun' N N 0=mr;have K:∀{pp:Array (Nat×Nat×Nat)} {st':SortSt} {lo n:Nat},Iu N κ Gd ky pp st'->Cont 0 pp.toList lo->1<=n->Up ky (arrOf st') lo (lo+n)->Iu N κ Gd ky (pp.push (lo,n,0)) (setPending st' ((pendingOf st').push (lo,n,0)))/\Cont 0 (pp.push (lo,n,0)).toList (lo+n):=fun{pp st' lo n} I hc hn hu=>
  ⟨⟨⟨I.iv.size,I.iv.al,I.iv.fail,I.iv.kind,by rw[<-I.iv.pend]⟩,I.ds,fun q hq=>by
   rw[Xe]at hq;rcases pI.mp hq with hm|hm
   ·exact I.up q hm
   ·rw[kI.mp hm];exact hu⟩,by rw[Xe];exact hc.snoc hn⟩
 refine aZ (tO (tQ
  (I:=fun x c st'=>∃(lo:Nat) (pp:Array (Nat×Nat×Nat)),c=(none,lo)/\lo<=N/\x<=lo/\Cont 0 pp.toList lo/\Iu N κ Gd ky pp st')
  (Q:=fun c st'=>∃(pp:Array (Nat×Nat×Nat)),c=(none,N)/\Cont 0 pp.toList N/\Iu N κ Gd ky pp st') ?step ?fin ⟨0,#[],rfl,cg _,aB _,(rfl:Cont 0 [] 0),I⟩) ?post)
 case fin=>
  rintro c st1 ⟨lo,pp,rfl,hlo,hx,hc,I1⟩;obtain rfl:lo=N:=by omega
  exact⟨pp,rfl,hc,I1⟩
 case step=>
  rintro x c st1 _ hx ⟨lo,pp,rfl,hlo,Qt,hc,I1⟩;dsimp only;by_cases q0:lo≥N
  ·rw[ak q0];obtain rfl:lo=N:=by omega
   exact bF ⟨pp,rfl,hc,I1⟩
  rw[aj q0];refine aZ (HD ans I1 hc.ends (by omega) (by omega) fun m st2 hm1 hm2 I2 hu2=> ?_);dsimp only;by_cases q1:m<mr
  case' pos=>
   rw[ak q1];refine aZ (Om (Dm ⟨rfl,?_⟩));refine aZ (QX ans I2 hc.ends (by omega) hm1 (by omega) hu2 fun st2 I2 hu2=> ?_);simp only[Tr,Am,yX];have hn:1<=min (N-lo) mr/\lo+min (N-lo) mr<=N:=by omega
   generalize min (N-lo) mr=n at *
  case' neg=>
   rw[aj q1];have hn:1<=m/\lo+m<=N:=by omega
   generalize m=n at *
  all_goals
   refine aZ (Dk ?_);cases hb:(pendingOf st2).back? with
   |none=>
    dsimp only;refine aZ (Mj (bF ?_));have z:=K I2 hc hn.1 hu2;exact⟨_,_,rfl,hn.2,by omega,z.2,z.1⟩
   |some b=>
    obtain⟨s1,n1,p1⟩:=b;dsimp only;generalize power' N _ _ N=pw;refine aZ (tO (tQ
     (I:=fun x c st'=>∃pp,c=(none,())/\Cont 0 pp.toList lo/\Iu N κ Gd ky pp st'/\Up ky (arrOf st') lo (lo+n))
     (Q:=fun c st'=>∃pp,c=(none,())/\Cont 0 pp.toList lo/\Iu N κ Gd ky pp st'/\Up ky (arrOf st') lo (lo+n)) ?_ (fun _ _ q=>q) ⟨pp,rfl,hc,I2,hu2⟩) ?_)
    ·rintro x c st3 _ _ ⟨Nf,rfl,hc3,I3,Kz⟩;refine aZ (Dk ?_);split
     ·next a b old e=>
      split
      ·exact bF ⟨Nf,rfl,hc3,I3,Kz⟩
      ·have hs:1<(pendingOf st3).size:=by
        by_cases q:(pendingOf st3).size>1
        ·exact q
        ·rw[aj q]at e;cases e
       have hs':(pendingOf st3).size-2+1<Nf.size:=by rw[<-I3.iv.pend];omega
       refine aZ (jq ans I3 hc3 hlo hs' fun Um DN I4 hc4 _ hk4=> ?_);simp only[Tr,Am,yX];exact bF ⟨Um,rfl,hc4,I4,fun i j a1 a2 a3=>by rw[hk4 i a1,hk4 j (by omega)];exact Kz i j a1 a2 a3⟩
     ·exact bF ⟨Nf,rfl,hc3,I3,Kz⟩
    ·rintro c st3 ⟨Nf,rfl,hc3,I3,Kz⟩;dsimp only;refine aZ (Mj ?_);refine aZ (Mj (bF ?_));have I4:Iu N κ Gd ky (Nf.modify (Nf.size-1) fun x=>(x.1,x.2.1,pw)) (setPending st3 ((pendingOf st3).modify ((pendingOf st3).size-1) fun x=>(x.1,x.2.1,pw))):=
      ⟨⟨I3.iv.size,I3.iv.al,I3.iv.fail,I3.iv.kind,by rw[<-I3.iv.pend]⟩,I3.ds,fun q hq=>by
       rw[Array.toList_modify]at hq;obtain⟨x,hx,e1,e2⟩:=Qm (f:=fun x=>(x.1,x.2.1,pw)) (fun x=>⟨rfl,rfl⟩) hq;rw[e1,e2];exact I3.up x hx⟩
     have hc4:Cont 0 (Nf.modify (Nf.size-1) fun x=>(x.1,x.2.1,pw)).toList lo:=by
      rw[Array.toList_modify];exact hc3.pw fun a n x=>⟨pw,rfl⟩
     have z:=K I4 hc4 hn.1 Kz;exact⟨_,_,rfl,hn.2,by omega,z.2,z.1⟩
 case post=>
  rintro c st1 ⟨pp,rfl,hc,I1⟩;dsimp only;have hl:=hc.len;rw[mJ]at hl;refine aZ (tO (tQ (I:=fun x c st'=>∃pp,c=(none,())/\Cont 0 pp.toList N/\Iu N κ Gd ky pp st'/\pp.size<=1+(N-x)) (Q:=fun c st'=>∃pp,c=(none,())/\Cont 0 pp.toList N/\Iu N κ Gd ky pp st'/\pp.size<=1) ?_ ?_ ⟨pp,rfl,hc,I1,by omega⟩) ?_)
  ·rintro x c st2 _ U7 ⟨Uo,rfl,hc2,I2,hs2⟩;refine aZ (Dk ?_);have hz:=gD Array.size I2.iv.pend;by_cases q:(pendingOf st2).size<=1
   ·rw[ak q];exact bF ⟨Uo,rfl,hc2,I2,by omega⟩
   rw[aj q];split
   ·refine aZ (jq ans I2 hc2 (aB _) (by rw[<-hz];split<;>omega) fun Um DN I4 hc4 hs4 _=> ?_);simp only[Tr,Am,yX];exact bF ⟨Um,rfl,hc4,I4,by omega⟩
   ·refine aZ (jq ans I2 hc2 (aB _) (by rw[<-hz];split<;>omega) fun Um DN I4 hc4 hs4 _=> ?_);simp only[Tr,Am,yX];exact bF ⟨Um,rfl,hc4,I4,by omega⟩
  ·rintro c st2 ⟨Uo,rfl,hc2,I2,hs2⟩;exact⟨Uo,rfl,hc2,I2,by omega⟩
  ·rintro c st2 ⟨Uo,rfl,hc2,I2,hs2⟩;refine bF (h _ I2.iv.size I2.iv.al I2.iv.fail ?_);intro i j hij hj;rw[I2.iv.size]at hj;have up:=I2.up;rw[<-mJ]at hs2;cases hl2:Uo.toList with
   |nil=>
    rw[hl2]at hc2;have:(0:Nat)=N:=hc2;omega
   |cons q r=>
    obtain⟨a,n,x⟩:=q;rw[hl2]at hc2 up hs2;have hr:r=[]:=by cases r with
     |nil=>rfl
     |cons _ _=>simp at hs2
    subst hr;obtain⟨rfl,_,hn⟩:=hc2;have hn:0+n=N:=hn;have:=up _ gG i j (cg _) hij (by show j<0+n;omega);exact this
end
section
variable{prog:ρ}{w:υ}{A:Around}{E:L3}{s:η}{κ:SortKind}{vs:List ζ}
theorem Ef{kv:ζ->Int}{vs:List ζ}(h:vs.length<2):(vs.map kv).Pairwise (· < ·):=Jq.mpr fun i j hi hj hij=>by rw[aH]at hj;omega
theorem rP{kv:ζ->Int}{a:Addr}{n:Nat}{P:PySem.Fin->η->Prop}(ho:s.heap.get? a=some (seqObj "list" vs.toArray n))(h64:vs.length<=sizeLine)(nd:(vs.map kv).Nodup)(hkind:2<=vs.length->∀h',(∀b o,b≠a->s.heap.get? b=some o->h'.get? b=some o)->∀Q:SortKind->η->Prop,Q κ {s with heap:=h'}->wpAny (model prog w) A (keyKind' vs.toArray) Q E {s with heap:=h'})(GJ:2<=vs.length->∀h',(∀b o,b≠a->s.heap.get? b=some o->h'.get? b=some o)->∀i j (C:Bool->η->Prop),i<vs.length->j<vs.length->C (decide (kv (vs.getD i Value.none)<kv (vs.getD j Value.none))) {s with heap:=h'}->kas_ask prog w A κ vs i j C {s with heap:=h'})(h:∀h' out c,N8 vs out->(out.map kv).Pairwise (· < ·)->(∀b o,b≠a->s.heap.get? b=some o->h'.get? b=some o)->h'.get? a=some (seqObj "list" (List.toArray out) c)->P (.done (.ret .none)) {s with heap:=h'}):
  wpAny (model prog w) A (Builtin.«list.sort» ⟨[.ref a],[]⟩) P E s:=by
 have ha:a<s.heap.objs.size:=cO ho;have s1:=wJ s.heap a (Obj.mapSeq fun _=>(#[]:Array ζ));obtain⟨e1,ho1⟩:∃e1,(s.heap.update a (Obj.mapSeq fun _=>(#[]:Array ζ))).get? a=some (seqObj "list" #[] e1):=⟨_,Rq ho fun _=>#[]⟩;have keep:∀b o,b≠a->s.heap.get? b=some o->(((s.heap.update a (Obj.mapSeq fun _=>(#[]:Array ζ))).push (seqObj "tuple" vs.toArray 0)).push (seqObj "list" #[] 0)).get? b=some o:=fun b o hb e=>
  dH _ (dH _ ((s1.2 b hb).trans e))
 have ho6:(((s.heap.update a (Obj.mapSeq fun _=>(#[]:Array ζ))).push (seqObj "tuple" vs.toArray 0)).push (seqObj "list" #[] 0)).get? a=some (seqObj "list" #[] e1):=dH _ (dH _ ho1);rw[list_sort_plain];refine aq (listItems_at ho rfl ?_);refine aq (Ro ho rfl ?_ (by rw[dW];exact h64) (cg _));refine aq (Rn ho1 rfl ?_);refine aq (wpAny_newTuple ?_ (by show vs.length<=_;exact h64));refine aq (Tz ?_ (cg _));refine Ak ?_;show wpAny (model prog w) A _ P E {s with heap:=((s.heap.update a (Obj.mapSeq fun _=>(#[]:Array ζ))).push (seqObj "tuple" vs.toArray 0)).push (seqObj "list" #[] 0)};dsimp only;by_cases h2:vs.toArray.size<2
 ·have h2':vs.length<2:=by simpa using h2
  rw[ak h2,ak h2];refine aq (aO ?_);rw[StateT.run_pure];refine aq (aO ?_);dsimp only;refine aq (Rn ho6 rfl ?_);refine aq (Ro ho6 rfl ?_ (cg _) (by rw[Array.size_map];show(pairsOf vs).size<=_;rw[pairsOf_size];exact Nat.le_succ_of_le h64));simp only[TQ,Am,yX];refine aO ?_;have eo:(vs.toArray.zip vs.toArray).map (·.2)=List.toArray vs:=by
   apply Array.toList_inj.mp;simp[List.map_snd_zip]
  have s2:=wJ (((s.heap.update a (Obj.mapSeq fun _=>(#[]:Array ζ))).push (seqObj "tuple" vs.toArray 0)).push (seqObj "list" #[] 0)) a (Obj.mapSeq fun _=>List.toArray vs);obtain⟨c2,hc2⟩:∃c2,((((s.heap.update a (Obj.mapSeq fun _=>(#[]:Array ζ))).push (seqObj "tuple" vs.toArray 0)).push (seqObj "list" #[] 0)).update a (Obj.mapSeq fun _=>List.toArray vs)).get? a=some (seqObj "list" (List.toArray vs) c2):=⟨_,Rq ho6 fun _=>List.toArray vs⟩;have fin:=h _ vs c2 (uL) (Ef h2') (fun b o hb e=>(s2.2 b hb).trans (keep b o hb e)) hc2
  first
   |exact fin
   |(rw[<-eo]at fin;exact fin)
   |(show P _ {s with heap:=Heap.update _ a (Obj.mapSeq fun _=>(vs.toArray.zip vs.toArray).map (·.2))};rw[eo];exact fin)
 ·have h2':2<=vs.length:=by rw[dW]at h2;omega
  rw[aj h2,aj h2];refine aq (hkind h2' _ keep _ ?_);have ha:=GJ h2' _ keep;generalize hS:({s with heap:=((s.heap.update a (Obj.mapSeq fun _=>(#[]:Array ζ))).push (seqObj "tuple" vs.toArray 0)).push (seqObj "list" #[] 0)}:η)=S at *;have an:mY prog w A E S κ (fun x=>∃i,i<vs.length/\x=(vs.getD i Value.none,vs.getD i Value.none)) (fun x=>kv x.1):=by
   rintro x y ⟨i,hi,rfl⟩ ⟨j,hj,rfl⟩ st Q hk hq;rw[lt'_eq];refine aZ (Dk ?_);rw[hk];refine aZ (Om (Tv (Ml (ha i j (fun b s'=>s'=S/\b=decide (kv (vs.getD i Value.none)<kv (vs.getD j Value.none))) hi hj ⟨rfl,rfl⟩) (fun b s' e=> ?_) fun _ _ hF=>hF.elim)));refine⟨e.1,bF ?_⟩;rw[e.2];exact hq
  have gd:∀i (hi:i<(vs.toArray.zip vs.toArray).size),(vs.toArray.zip vs.toArray)[i]=(vs.getD i Value.none,vs.getD i Value.none)/\i<vs.length:=fun i hi=>by
   have hi':i<vs.length:=by simpa using hi
   exact⟨by simp[hi'],hi'⟩
  have ds:Ds (fun x=>kv x.1) (vs.toArray.zip vs.toArray):=fun i j hij hj=>by
   have hi:i<(vs.toArray.zip vs.toArray).size:=by omega
   rw[dh hi,dh hj,(gd i hi).1,(gd j hj).1];have:=Jq.mp nd i j (by rw[aH];exact(gd i hi).2) (by rw[aH];exact(gd j hj).2) hij;rw[YC,YC]at this;simpa[(gd i hi).2,(gd j hj).2]using this
  refine aq (Ml (JK (N:=vs.length) (st:=SortSt.mk' κ (vs.toArray.zip vs.toArray) #[] 7 none) (Q:=fun _ st'=>(arrOf st').size=vs.length/\Al (fun x=>∃i,i<vs.length/\x=(vs.getD i Value.none,vs.getD i Value.none)) (arrOf st')/\failedOf st'=none/\SS (fun x=>kv x.1) (arrOf st')) an
   ⟨⟨by simp[arrOf],fun i hi=>⟨i,(gd i hi).2,(gd i hi).1⟩,rfl,rfl,rfl⟩,ds,fun q hq=>(nomatch hq)⟩ fun st' a1 a2 a3 a4=>⟨a1,a2,a3,a4⟩) ?_ fun _ _ e=>e)
  rintro⟨⟨⟩,st'⟩ s' ⟨rfl,z1,z2,hf,zs⟩;dsimp only at z1 z2 hf zs⊢;subst hS;obtain⟨out,hout,hol,hom,hop⟩:∃out:List ζ,(arrOf st').map (·.2)=List.toArray out/\out.length=vs.length/\(∀v∈out,v∈vs)/\(out.map kv).Pairwise (· < ·):=by
   refine⟨((arrOf st').map (·.2)).toList,Array.toArray_toList.symm,by simp[z1],fun v hv=> ?_,Jq.mpr fun i j hi hj hij=> ?_⟩
   ·obtain⟨t,ht,e⟩:=yV hv;have ht':t<(arrOf st').size:=by simpa using ht
    obtain⟨i,hi,hx⟩:=z2 t ht';have e2:v=(arrOf st')[t].2:=by rw[<-e];simp
    rw[e2,hx];show vs.getD i Value.none∈vs;rw[jF,dJ hi];exact tY _
   ·have hi':i<(arrOf st').size:=by simpa using hi
    have hj':j<(arrOf st').size:=by simpa using hj
    have e:=zs i j hij hj';rw[dh hi',dh hj']at e;have two:∀t (ht:t<(arrOf st').size),(arrOf st')[t].2=(arrOf st')[t].1:=fun t ht=>by
     obtain⟨_,_,hx⟩:=z2 t ht;rw[hx]
    simpa[two i hi',two j hj']using e
  have hsz:(List.toArray out).size=vs.length:=by rw[dW,hol]
  rw[hout];refine aq (Rn ho6 rfl ?_);refine aq (Ro ho6 rfl ?_ (cg _) (dD (tW hsz) (Nat.le_succ_of_le h64)));rw[hf];simp only[TQ,Am,yX];have s2:=wJ (((s.heap.update a (Obj.mapSeq fun _=>(#[]:Array ζ))).push (seqObj "tuple" vs.toArray 0)).push (seqObj "list" #[] 0)) a (Obj.mapSeq fun _=>List.toArray out);obtain⟨c2,hc2⟩:∃c2,((((s.heap.update a (Obj.mapSeq fun _=>(#[]:Array ζ))).push (seqObj "tuple" vs.toArray 0)).push (seqObj "list" #[] 0)).update a (Obj.mapSeq fun _=>List.toArray out)).get? a=some (seqObj "list" (List.toArray out) c2):=⟨_,Rq ho6 fun _=>_⟩;exact aO (h _ _ c2 ⟨hol,hom⟩ hop (fun b o hb e=>(s2.2 b hb).trans (keep b o hb e)) hc2)
end
end Bs
namespace PySem
open L2 (TabOk j8 jc jZ)
open PyProof.Rows
section
variable{prog:ρ}{w:υ}{A:Around}{E:L3}{s:η}
theorem aQ.of{h:Heap}{d:Addr}{S:Int->Bool}{n:Nat}(g:aQ prog w h d S n):h.SetOf (intKind prog w) d S n:=let⟨o,es,ep,t,ho,hx,hd,el,mem,lt,ft,en,_⟩:=g;⟨o,es,ep,t,ho,hx,hd,el,mem,lt,ft,en⟩
theorem aQ.typeIs{d:Addr}{S:Int->Bool}{n:Nat}(g:aQ prog w s.heap d S n):s.TypeIs (.ref d) "set":=g.of.typeIs
theorem oV{d:Addr}{o:Obj}{es:Array (Int×ζ)}{ep:Nat}{t:ξ}{Q:Array (Int×ζ)->η->Prop}(ho:s.heap.get? d=some o)(hd:o.data= .set es ep t)(hf:t.fits es.size=true)(q:Q es s):wpAny (model prog w) A (setEntries d) Q E s:=by
 unfold setEntries;exact aq (Xd ho hd hf (aO q))
theorem Ez{Q:Bool->η->Prop}(l:List Addr)(hl:∀a∈l,∃S n,aQ prog w s.heap a S n)(q:Q true s):wpAny (model prog w) A (setsQuiet l) Q E s:=by
 unfold setsQuiet;refine aq (wpAny_forIn_list _ (fun rest r s'=>r.1=none/\s'=s/\∀a∈rest,∃S n,aQ prog w s.heap a S n) _ (fun a rest b s' hI=> ?_) (fun b s' hI=> ?_) _ _ ⟨rfl,rfl,hl⟩)
 ·obtain⟨hb,rfl,hr⟩:=hI;obtain⟨S,n,o,es,ep,t,ho,hx,hd,el,mem,lt,ft,en,tb⟩:=hr a gG;refine aq (oV ho hd ft ?_);refine aq (wpAny_forIn_array' _ (fun rest r s''=>r.1=none/\s''=s'/\∀e∈rest,e∈es.toList) _ (fun e rest' b' s'' hI=> ?_) (fun b' s'' hI=> ?_) _ _ ⟨rfl,rfl,fun e he=>he⟩)
  ·obtain⟨hb',rfl,hr'⟩:=hI;obtain⟨⟨k,hk,_⟩,_⟩:=el e (hr' e gG);obtain⟨tk,ev⟩:=Ru (k:=k) (v:=e.2) hk;obtain⟨e1,e2⟩:=e;dsimp only at ev;subst ev;exact aO ⟨rfl,rfl,fun e he=>hr' e (eV _ he)⟩
  ·obtain⟨hb',rfl,_⟩:=hI;dsimp only;rw[hb'];exact aO ⟨rfl,rfl,fun a ha=>hr a (eV _ ha)⟩
 ·obtain⟨hb,rfl,_⟩:=hI;dsimp only;rw[hb];exact aO q
theorem Jw{d:Addr}{es:Array (Int×ζ)}{ep:Nat}{t:ξ}{Q:Array (Int×ζ)->η->Prop}(S:aP w s.heap d es ep t)(q:∀(es':Array (Int×ζ)) dr,es'.toList.Perm es.toList->Q es' {s with drawn:=dr}):wpAny (model prog w) A (setWalk d) Q E s:=by
 have q0:Q es s:=q es s.drawn (Yn _);unfold setWalk;refine aq (S.state (aq (Oe ?_)));refine lO (fun hb=> ?_) fun hb=> ?_
 ·refine aq (W7 ?_);exact aO (q _ s.drawn (iH _ es))
 ·have led:t.led=true:=by rw[S.tab.led];simpa using hb
  refine lO (fun hd=> ?_) fun hd=> ?_
  ·refine aq (X4 es.size es.toList (by simp) fun ys d' hp=>aO (q _ d' ?_));simpa using hp
  ·refine aq ?_;show wpAny _ _ (if(!t.led&&decide (es.size>1))=true then _ else _) _ _ _;rw[led];refine lO (fun hab=>absurd hab (by simp)) fun _=>aO (aO q0)
theorem En{d:Addr}{o:Obj}{es:Array (Int×ζ)}{ep:Nat}{t:ξ}{h:Heap}(ho:h.get? d=some o)(hx:o.ExactSet)(hd:o.data= .set es ep t)(ft:t.fits es.size=true)(tb:TabOk (!w.params.followText "set-order") t):aP w h d es ep t:=⟨⟨o,ho,hx,hd⟩,ft,tb⟩
theorem T3{d da r:Addr}{es:Array (Int×ζ)}{ep:Nat}{t:ξ}{Q:Array (Int×ζ)->η->Prop}(S:aP w s.heap d es ep t)(Gd:∃S n,aQ prog w s.heap d S n)(Ga:∃S n,aQ prog w s.heap da S n)(Gr:aQ prog w s.heap r (fun _=>false) 0)(q:∀(es':Array (Int×ζ)) dr h',es'.toList.Perm es.toList->Heap.SameBut r s.heap h'->aQ prog w h' r (fun _=>false) 0->Q es' {s with heap:=h',drawn:=dr}):wpAny (model prog w) A (setWalkUnseen d [da,r] (some r)) Q E s:=by
 unfold setWalkUnseen;refine aq (S.state (aq (Oe ?_)));refine lO (fun hb=> ?_) fun hb=> ?_
 ·exact Jw S fun es' dr hp=>q es' dr s.heap hp (Rt _ _) Gr
 ·refine aq (Ez [d,da,r] (fun a ha=> ?_) ?_)
  ·simp only[dU,Sq,Tf]at ha;rcases ha with rfl|rfl|rfl
   ·exact Gd
   ·exact Ga
   ·exact⟨_,_,Gr⟩
  ·refine lO (fun h=>absurd h (by simp)) fun _=> ?_;refine aq (Dm ?_);obtain⟨o,er,epr,tr,ho,hx,hd,el,mem,lt,ft,en,tb⟩:=id Gr;dsimp only;refine aq (Xd ho hd ft ?_);refine lO (fun _=> ?_) fun _=>aO (q es s.drawn s.heap (Yn _) (Rt _ _) Gr);refine aq (YJ ho hd ?_ (YH lt));have tb':TabOk (!w.params.followText "set-order") {tr with led:=tr.led&&t.led,plain:=tr.plain&&t.plain}:=⟨tb.rise,tb.Xp,by show(tr.led&&t.led)=_;rw[tb.led,S.tab.led,Bool.and_self]⟩;obtain⟨_,G'⟩:=aQ.store (prog:=prog) (w:=w) (S:=fun _=>false) ho hx hd el mem lt (t':={tr with led:=tr.led&&t.led,plain:=tr.plain&&t.plain}) ft tb';rw[en]at G';exact aO (q es s.drawn _ (Yn _) (wJ s.heap r _) G')
theorem Bw{Q:L3}(q:Q (.ref s.heap.objs.size) {s with heap:=s.heap.push {cls:= .type "set",dict:=none,data:= .set #[] 0 (.fresh 0 0 (!w.params.followText "set-order"))}}):wpAny (model prog w) A (newSet (.type "set")) Q E s:=by
 unfold newSet;refine aq (Oe ?_);simp only[newObj];exact aq (wpAny_alloc (aO q))
theorem BR(h:Heap):aQ prog w (h.push {cls:= .type "set",dict:=none,data:= .set #[] 0 (.fresh 0 0 (!w.params.followText "set-order"))}) h.objs.size (fun _=>false) 0:=
 ⟨_,#[],0,_,jE _ rfl,⟨rfl,rfl,rfl⟩,rfl,fun e he=>(by simp at he),fun k=>⟨fun z=>(nomatch z),fun⟨e,he,_⟩=>(by simp at he)⟩,by unfold scanBound;simp,rfl,rfl,jZ _⟩
theorem vC{d:Addr}{es:Array (Int×ζ)}{ep:Nat}{t:ξ}{Q:Nat->η->Prop}(S:aP w s.heap d es ep t)(q:Q ep s):wpAny (model prog w) A (setEpoch d) Q E s:=by
 unfold setEpoch;exact aq (S.state (aO q))
theorem xW{nm:String}{dw da r:Addr}{es es':Array (Int×ζ)}{ep:Nat}{t:ξ}{Sa:Int->Bool}{na:Nat}{Q:η->Prop}(S:aP w s.heap dw es ep t)(el:ElemsOf (intKind prog w) es.toList)(Ga:aQ prog w s.heap da Sa na)(Gr:aQ prog w s.heap r (fun _=>false) 0)(nw:dw≠r)(na':da≠r)(hp:es'.toList.Perm es.toList)(hb:es.size+1<scanBound)(q:∀h' Sr m,Heap.SameBut r s.heap h'->aQ prog w h' r Sr m->(∀k,Sr k=true↔(∃e∈es.toList,(intKind prog w).is k e.2=true)/\Sa k=true)->Q {s with heap:=h'}):
  wpAny (model prog w) A (forIn es' PUnit.unit fun(x:Int×ζ) (_:PUnit)=>(do
   holding [x.2] (do
    if(<-setFind da x.2 x.1).isSome then
     let _<-setAddHashed r x.2 x.1)
   Builtin.Frozenset.unchanged nm dw ep
   pure (ForInStep.yield PUnit.unit):Sem (ForInStep PUnit))) (fun _=>Q) E s:=by
 refine wpAny_forIn_array' _ (fun rest _ s'=>∃(h':Heap) (pre:List (Int×ζ)) (Sr:Int->Bool) (m:Nat),s'={s with heap:=h'}/\es'.toList=pre++rest/\Heap.SameBut r s.heap h'/\aQ prog w h' r Sr m/\m<=pre.length/\∀k,Sr k=true↔(∃e∈pre,(intKind prog w).is k e.2=true)/\Sa k=true) _ (fun x rest b s' hI=> ?_) (fun b s' hI=> ?_) _ _ ⟨s.heap,[],fun _=>false,0,rfl,rfl,Rt _ _,Gr,aB _,fun k=>⟨fun z=>(nomatch z),fun⟨⟨e,he,_⟩,_⟩=>(nomatch he)⟩⟩
 ·obtain⟨h',pre,Sr,m,rfl,ep',sb,G,hm,hS⟩:=hI;have mx:x∈es.toList:=hp.mem_iff.mp (by rw[ep'];simp);obtain⟨⟨k,hk,hh⟩,hsc⟩:=el x mx;have len:pre.length+1<=es.size:=by
   have h1:=hp.length_eq;have h2:es.toList.length=es.size:=mJ;rw[ep',p7,nO]at h1;omega
  have Ga':aQ prog w h' da Sa na:=Ga.at fun o e=>(sb.2 da na').trans e;have S':aP w h' dw es ep t:=S.at fun o e=>(sb.2 dw nw).trans e;have step:∀(R:ForInStep PUnit->η->Prop) h2,Heap.SameBut r h' h2->R (.yield PUnit.unit) {s with heap:=h2}->wpAny (model prog w) A (do Builtin.Frozenset.unchanged nm dw ep;pure (ForInStep.yield PUnit.unit)) R E {s with heap:=h2}:=fun R h2 M8 hR=>by
   unfold Builtin.Frozenset.unchanged;have S2:aP w h2 dw es ep t:=S'.at fun o e=>(M8.2 dw nw).trans e;refine aq (aq (vC (s:={s with heap:=h2}) S2 ?_));exact lO (fun z=>absurd z (by simp)) fun _=>aO (aO hR)
  have fin:∀h2 (XF:Int->Bool) m2,Heap.SameBut r h' h2->aQ prog w h2 r XF m2->m2<=pre.length+1->(∀k',XF k'=true↔(∃e∈pre++[x],(intKind prog w).is k' e.2=true)/\Sa k'=true)->
    ∃(h':Heap) (pre:List (Int×ζ)) (Sr:Int->Bool) (m:Nat),({s with heap:=h2}:η)={s with heap:=h'}/\es'.toList=pre++rest/\Heap.SameBut r s.heap h'/\aQ prog w h' r Sr m/\m<=pre.length/\∀k,Sr k=true↔(∃e∈pre,(intKind prog w).is k e.2=true)/\Sa k=true:=fun h2 XF m2 M8 G2 hm2 hS2=>
   ⟨h2,pre++[x],XF,m2,rfl,by rw[ep',Rb];rfl,sb.trans M8,G2,by rw[p7];exact hm2,hS2⟩
  refine aq (Ak ?_);rw[hh];refine aq (wpAny_setFind_of (s:={s with heap:=h'}) hk hsc Ga'.of fun o ho=> ?_);have uniq:∀k',(intKind prog w).is k' x.2=true->k'=k:=fun k' h'=>by
   obtain⟨t1,e1⟩:=Ru (k:=k) (v:=x.2) hk;obtain⟨t2,e2⟩:=Ru (k:=k') (v:=x.2) h';rw[e1]at e2;injection e2 with e3
   exact e3.symm
  refine lO (fun z=> ?_) fun z=> ?_
  ·rw[ho]at z;refine aq (HX (s:={s with heap:=h'}) hk hsc G (by omega) fun h2 b2 M8 G2=>aO ?_);refine step _ h2 M8 (fin h2 _ _ M8 G2 (by split<;>omega) fun k'=> ?_);rw[WY,Dq,hS k'];constructor
   ·rintro(⟨⟨e,he,z1⟩,z2⟩|rfl)
    ·exact⟨⟨e,Ma _ he,z1⟩,z2⟩
    ·exact⟨⟨x,tZ _ gG,hk⟩,z⟩
   ·rintro⟨⟨e,he,z1⟩,z2⟩;rcases pI.mp he with y|y
    ·exact .inl ⟨⟨e,y,z1⟩,z2⟩
    ·rw[kI.mp y]at z1;exact .inr (uniq k' z1)
  ·rw[ho]at z;refine aO ?_;refine step _ h' (Rt _ _) (fin h' Sr m (Rt _ _) G (by omega) fun k'=> ?_);rw[hS k'];constructor
   ·rintro⟨⟨e,he,z1⟩,z2⟩;exact⟨⟨e,Ma _ he,z1⟩,z2⟩
   ·rintro⟨⟨e,he,z1⟩,z2⟩;rcases pI.mp he with y|y
    ·exact⟨⟨e,y,z1⟩,z2⟩
    ·rw[kI.mp y]at z1;rw[uniq k' z1]at z2;exact absurd z2 z
 ·obtain⟨h',pre,Sr,m,rfl,ep',sb,G,hm,hS⟩:=hI;rw[Cu]at ep';refine q h' Sr m sb G fun k=> ?_;rw[hS k,<-ep'];exact⟨fun⟨⟨e,he,z1⟩,z2⟩=>⟨⟨e,hp.mem_iff.mp he,z1⟩,z2⟩,fun⟨⟨e,he,z1⟩,z2⟩=>⟨⟨e,hp.mem_iff.mpr he,z1⟩,z2⟩⟩
theorem Gy{nm:String}{d1 d2:Addr}{S1 S2:Int->Bool}{n1 n2:Nat}{Q:L3}(hne:d1≠d2)(G1:aQ prog w s.heap d1 S1 n1)(G2:aQ prog w s.heap d2 S2 n2)(b1:n1+1<scanBound)(b2:n2+1<scanBound)(q:∀h' dr Sr m,(∀b o,s.heap.get? b=some o->h'.get? b=some o)->aQ prog w h' s.heap.objs.size Sr m->(∀k,Sr k=true↔S1 k=true/\S2 k=true)->Q (.ref s.heap.objs.size) {s with heap:=h',drawn:=dr}):
  wpAny (model prog w) A (Builtin.Frozenset.intersection nm d1 (.ref d2)) Q E s:=by
 have l1:d1<s.heap.objs.size:=by obtain⟨o,es,ep,t,ho,_⟩:=id G1;exact cO ho
 have l2:d2<s.heap.objs.size:=by obtain⟨o,es,ep,t,ho,_⟩:=id G2;exact cO ho
 unfold Builtin.Frozenset.intersection;have hne':(Value.ref d2==Value.ref d1)=false:=by
  rw[beq_eq_false_iff_ne];intro z;injection z with z
  exact hne z.symm
 refine lO (fun z=>absurd z (by rw[hne'];decide)) fun _=> ?_;unfold Builtin.Frozenset.baseOf;refine aq (aq (Rr (T:="set") (b:=true) G1.typeIs WK (aO ?_)));refine aq (Bw ?_);have keep:∀b o,s.heap.get? b=some o->(s.heap.push {cls:= .type "set",dict:=none,data:= .set #[] 0 (.fresh 0 0 (!w.params.followText "set-order"))}).get? b=some o:=fun b o e=>dH _ e;have Gr:=BR (prog:=prog) (w:=w) s.heap;have F1:=G1.at fun o e=>keep d1 o e;have F2:=G2.at fun o e=>keep d2 o e;generalize (s.heap.push {cls:= .type "set",dict:=none,data:= .set #[] 0 (.fresh 0 0 (!w.params.followText "set-order"))})=g at *;have n1r:d1≠s.heap.objs.size:=cN l1;have n2r:d2≠s.heap.objs.size:=cN l2;have T2:({s with heap:=g}:η).TypeIs (.ref d2) "set":=aQ.typeIs (s:={s with heap:=g}) F2;refine aq (aO ?_);refine aq (Ak ?_);unfold Builtin.Frozenset.isAnySet;refine aq ?_;refine aq (Rr (s:={s with heap:=g}) (T:="set") (b:=true) T2 WK ?_);refine aO ?_;dsimp only;rw[ak rfl];refine aq (aO ?_);obtain⟨o1,es1,ep1,t1,ho1,hx1,hd1,el1,Qn,RD,ft1,en1,tb1⟩:=id F1;obtain⟨o2,es2,ep2,t2,ho2,hx2,hd2,el2,aav,pR,ft2,en2,tb2⟩:=id F2;have go:∀(da dw:Addr) (Sa Sw:Int->Bool) (na nw:Nat),aQ prog w g da Sa na->aQ prog w g dw Sw nw->da≠s.heap.objs.size->dw≠s.heap.objs.size->nw+1<scanBound->(∀k,(Sw k=true/\Sa k=true)↔(S1 k=true/\S2 k=true))->
   wpAny (model prog w) A (do
    let was<-setEpoch dw;let es<-setWalkUnseen dw [da,s.heap.objs.size] (some s.heap.objs.size)
    forIn es PUnit.unit fun(x:Int×ζ) (_:PUnit)=>(do
     holding [x.2] (do
      if(<-setFind da x.2 x.1).isSome then
       let _<-setAddHashed s.heap.objs.size x.2 x.1)
     Builtin.Frozenset.unchanged nm dw was
     pure (ForInStep.yield PUnit.unit):Sem (ForInStep PUnit))
    pure ()) (fun _ s'=>wpAny (model prog w) A (pure (Value.ref s.heap.objs.size)) Q E s') E {s with heap:=g}:=fun da dw Sa Sw na nw Ga Gw nar nwr hb hk=>by
  obtain⟨o,es,ep,t,ho,hx,hd,el,mem,lt,ft,en,tb⟩:=id Gw;have S:aP w g dw es ep t:=En ho hx hd ft tb;refine aq (vC (s:={s with heap:=g}) S ?_);refine aq (T3 (s:={s with heap:=g}) S ⟨_,_,Gw⟩ ⟨_,_,Ga⟩ Gr fun es' dr h' hp sb Gr'=> ?_);refine aq (xW (s:={s with heap:=h',drawn:=dr}) (S.at fun o e=>(sb.2 dw nwr).trans e) el (Ga.at fun o e=>(sb.2 da nar).trans e) Gr' nwr nar hp (by omega) fun h2 Sr m M8 G2 hS=> ?_);refine aO (aO ?_);refine q h2 dr Sr m (fun b o e=> ?_) G2 fun k=> ?_
  ·have nb:b≠s.heap.objs.size:=cN (cO e);exact((M8.2 b nb).trans ((sb.2 b nb).trans (keep b o e)))
  ·rw[hS k,<-mem k];exact hk k
 have sz:∀{d:Addr} {o:Obj} {es:Array (Int×ζ)} {ep:Nat} {t:ξ} {R:Nat->η->Prop},g.get? d=some o->o.data= .set es ep t->t.fits es.size=true->R es.size {s with heap:=g}->wpAny (model prog w) A (Builtin.Frozenset.sizeOf d) R E {s with heap:=g}:=fun ho hd hf hR=>by
  unfold Builtin.Frozenset.sizeOf;exact aq (oV (s:={s with heap:=g}) ho hd hf (aO hR))
 refine aq (sz ho2 hd2 ft2 (aq (sz ho1 hd1 ft1 ?_)));by_cases c:es2.size>es1.size
 ·simp only[ak c];exact go d2 d1 S2 S1 n2 n1 F2 F1 n2r n1r b1 fun k=>Iff.rfl
 ·simp only[aj c];exact go d1 d2 S1 S2 n1 n2 F1 F2 n1r n2r b2 fun k=>And.comm
theorem HW{d1 d2:Addr}{S1 S2:Int->Bool}{n1 n2:Nat}{Q:L3}(hne:d1≠d2)(G1:aQ prog w s.heap d1 S1 n1)(G2:aQ prog w s.heap d2 S2 n2)(b1:n1+1<scanBound)(b2:n2+1<scanBound)(q:∀h' dr Sr m,(∀b o,s.heap.get? b=some o->h'.get? b=some o)->aQ prog w h' s.heap.objs.size Sr m->(∀k,Sr k=true↔S1 k=true/\S2 k=true)->Q (.ref s.heap.objs.size) {s with heap:=h',drawn:=dr}):
  wpAny (model prog w) A (binaryOp .BitAnd (.ref d1) (.ref d2)) Q E s:=by
 have entry:entryFor table "set.__and__"=some Builtin.«frozenset.__and__»:=entryFor_alias (id':="frozenset.__and__") (by kernel_rfl) rfl (by decide+kernel) (by kernel_rfl);refine wpAny_binaryOp_same (op:= .BitAnd) (T:="set") G1.typeIs G2.typeIs F.fills_set_and F.slot_set_and (Ju F.slot_set_and G1.typeIs entry ?_ (F.args_set_and_2 _ _));unfold Builtin.«frozenset.__and__»;refine aq (m:=Builtin.Frozenset.slot1 "__and__" ⟨[.ref d1,.ref d2],[]⟩) ?_;unfold Builtin.Frozenset.slot1 slotArgs;simp only[List.isEmpty_nil,Tr,Am,↓reduceIte,bind_assoc,LC,nO,TQ];refine aq (aO (aO ?_));have any:∀{d:Addr} {S:Int->Bool} {n:Nat} {R:Bool->η->Prop},aQ prog w s.heap d S n->R true s->wpAny (model prog w) A.in1 (Builtin.Frozenset.isAnySet (.ref d)) R E s:=fun G h=>by
  unfold Builtin.Frozenset.isAnySet;exact aq (Rr (T:="set") (b:=true) G.typeIs WK (aO h))
 refine aq (aq (any G1 (any G2 ?_)));refine lO (fun z=>absurd z (by simp)) fun _=> ?_;refine aq (aO ?_);refine aq (Gy hne G1 G2 b1 b2 fun h' dr Sr m k G hS=> ?_);exact aO ⟨_,rfl,by simp,q h' dr Sr m k G hS⟩
end
end PySem
namespace L2
open PySem PySem.Spec PyProof.Rows
section
variable{X:Cx}{a b:Expr}{ta tb:TA}{p p' pos pos' q' pos'' posB:Pos}
theorem Inv.Pu{X:Cx}{pins:L1}{σ:St}{H:Hp}{s s1:η}{d:Addr}{o:Obj}(I0:Inv X pins σ H s1)(hd:s1.heap.objs.size<=d)(I:Inv X pins σ H s)(e:s.heap.get? d=some o)(hc:∀v,o.data≠.cell v):Inv X ((d,o)::pins) σ H s:=by
 have hl:d≠X.env.locals:=Iz (gq I0.lt hd);refine⟨I.ok,I.os,I.bare,I.base,I.loc,I.cell,I.free,I.freeC,fun x hx=> ?_,I.hok,I.len⟩;rcases pI.mp hx with z|z
 ·exact I.pin x (Ma _ z)
 ·rcases dU.mp z with z|z
  ·rw[z];exact⟨e,I0.hok.fresh hd,hl,I0.nofs hd,hc⟩
  ·exact I.pin x (tZ _ z)
theorem Inv.Ov{X:Cx}{pins:L1}{σ:St}{H:Hp}{s:η}{x:Addr×Obj}(I:Inv X (x::pins) σ H s):Inv X pins σ H s:=
 ⟨I.ok,I.os,I.bare,I.base,I.loc,I.cell,I.free,I.freeC,fun y hy=>I.pin y (by
  rcases pI.mp hy with z|z
  ·exact Ma _ z
  ·exact tZ _ (eV _ z)),I.hok,I.len⟩
theorem mk_set{pins:L1}{σ:St}{H1:Hp}{s1:η}{bb:Bool}{l:Addr}{ns:List Int}{Q:L3}(hc:X.calm=true)(I1:Inv X pins σ H1 s1)(hq:RX X.K bb H1 l (ns.map V.int))(hz:ns.length<1000)(h:∀(g:Heap) (tk:Nat) (S:Int->Bool) (n:Nat),aQ X.prog X.w g s1.heap.objs.size S n->(∀k,S k=true↔k∈ns)->n<1000->(∀b o,s1.heap.get? b=some o->g.get? b=some o)->Q (.ref s1.heap.objs.size) {s1 with heap:=g,toks:=tk}):
  wpAny (model X.prog X.w) X.A (call (.type "set") [.ref l]) Q X.xe s1:=by
 have main:∀its:List ζ,Vals (ns.map V.int) its->∀(g:Heap) (tk:Nat),aQ X.prog X.w g s1.heap.objs.size (fun k'=>(firstMet (fun i=>ns.getD i 0) its.toArray.size).any (· ==k')) (firstMet (fun i=>ns.getD i 0) its.toArray.size).length->(∀b o,b<s1.heap.objs.size->s1.heap.get? b=some o->g.get? b=some o)->Q (.ref s1.heap.objs.size) {s1 with heap:=g,toks:=tk}:=by
  intro its rv g tk G keep;have Jd:its.toArray.size=ns.length:=by rw[dW];exact WW (intsAre_of rv)
  have hle:=YT (fun i=>ns.getD i 0) its.toArray.size;refine h g tk _ _ G (fun k=> ?_) (by omega) fun b o e=>keep b o (cO e) e;rw[Jd,Q9];constructor
  ·rintro⟨x,hx,e⟩;rw[<-beq_iff_eq.mp e];rw[V8 _ _ (aB _),IK]at hx;exact hx
  ·intro hk;exact⟨k,by rw[V8 _ _ (aB _),IK];exact hk,by simp⟩
 cases bb with
 |true=>
  obtain⟨its,rv,pl,_⟩:=I1.tuple (show SqT X.K H1 l (ns.map V.int)from hq);have hi:IntsAre its ns:=intsAre_of rv;have Jd:its.length=ns.length:=WW hi;exact n6 (ns:=ns) (I1.ok.hd hc) (show s1.heap.IsTuple l its.toArray from pl) (by simpa using hi) (by unfold scanBound;simp;omega) fun g tk G keep=>main its rv g tk G keep
 |false=>
  obtain⟨its,rv,pl,_⟩:=I1.list (show SqL X.K H1 l (ns.map V.int)from hq);have hi:IntsAre its ns:=intsAre_of rv;have Jd:its.length=ns.length:=WW hi;exact Ay (ns:=ns) (I1.ok.hd hc) pl.isList (by simpa using hi) (by unfold scanBound;simp;omega) fun g tk G keep=>main its rv g tk G keep
noncomputable def Jy(K:W.Frag)(ta tb:TA):TE:=fun σ H Q=>ta σ H fun vs H1=>∃(c:Bool) (l:Addr) (ns:List Int),vs=[.ref l]/\RX K c H1 l (ns.map V.int)/\ns.length<1000/\
 tb σ H1 fun us H2=>∃(d:Bool) (k:Addr) (ms:List Int),us=[.ref k]/\RX K d H2 k (ms.map V.int)/\ms.length<1000/\∀m:Nat,(0<m↔∃k,k∈ns/\k∈ms)->Q (.int (m:Int)) H2
theorem Bg(hc:X.calm=true)(Qz:Gl X "len")(hmL:X.mg "len"=none)(hg:Gl X "set")(hm:X.mg "set"=none)(ha:PA X [a] ta)(hb:PA X [b] tb)(hs:starEach [a] X.env=[(false,eval a X.env)]:=by rfl)(hs':starEach [b] X.env=[(false,eval b X.env)]:=by rfl)(hs2:starEach [Expr.BinOp (.Call (.Name "set" p') [a] [] pos') .BitAnd (.Call (.Name "set" q') [b] [] pos'') posB] X.env=[(false,eval (Expr.BinOp (.Call (.Name "set" p') [a] [] pos') .BitAnd (.Call (.Name "set" q') [b] [] pos'') posB) X.env)]:=by rfl):
  PE X (.Call (.Name "len" p) [.BinOp (.Call (.Name "set" p') [a] [] pos') .BitAnd (.Call (.Name "set" q') [b] [] pos'') posB] [] pos) (Jy X.K ta tb):=by
 intro pins s σ H Q I h;refine Ms (wz I Qz hmL PySem.boot_len ?_ (by decide) (by decide));refine Zk ?_ hs2 rfl;rw[hs2];refine TY ?_;refine wpAny_BinOp ?_;refine Call_ (wz I hg hm (show bootBuiltins "set"=some (.type "set")from by decide+kernel) (Dt (thn (ha pos' pins s σ H _ I h) fun us s1 ⟨vs,H1,I1,r1,q1⟩=> ?_) hs rfl));obtain⟨c,l,ns,e,hq,hz,q⟩:=q1;subst e;cases r1 with
 |cons r rr=>
 cases rr;cases r;refine mk_set hc I1 hq hz fun g tk S n G hS hn keep=> ?_;have J1:Inv X pins σ H1 {s1 with heap:=g,toks:=tk}:=I1.kept keep;obtain⟨o,es,ep,t,ho,hx,hd,el,mem,lt,ft,en,tb'⟩:=id G;have J2:=Inv.Pu I1 (aB _) J1 ho (fun v z=>by rw[hd]at z;cases z);refine Call_ (wz J2 hg hm (show bootBuiltins "set"=some (.type "set")from by decide+kernel) (Dt (thn (hb pos'' _ _ σ H1 _ J2 q) fun us2 s2 ⟨vs2,H2,I2,r2,q2⟩=> ?_) hs' rfl));obtain⟨c2,l2,ms,e2,hq2,hz2,qq⟩:=q2;subst e2;cases r2 with
 |cons r rr=>
 cases rr;cases r;have ho2:s2.heap.get? s1.heap.objs.size=some o:=(I2.pin _ (tZ _ gG)).1;have G2:aQ X.prog X.w s2.heap s1.heap.objs.size S n:=⟨o,es,ep,t,ho2,hx,hd,el,mem,lt,ft,en,tb'⟩;refine mk_set hc I2 hq2 hz2 fun g2 tk2 S2 n2 G3 hS2 hn2 Nq=> ?_;have J3:=(I2.kept (t':=tk2) Nq).Ov;have ne:s1.heap.objs.size≠s2.heap.objs.size:=cN (cO ho2);refine HW (s:={s2 with heap:=g2,toks:=tk2}) ne (G2.at fun o e=>Nq _ o e) G3 (by unfold scanBound;omega) (by unfold scanBound;omega) fun g3 dr Sr m U4 G4 hS4=> ?_;refine TX ?_;obtain⟨o4,XC,ep4,t4,ho4,hx4,hd4,el4,UJ,lt4,ft4,en4,tb4⟩:=id G4;refine call_len_set (s:={s2 with heap:=g3,toks:=tk2,drawn:=dr}) ho4 hx4 hd4 ft4 (by unfold scanBound at lt4;omega) ?_;have J4:Inv X pins σ H2 {s2 with heap:=g3,toks:=tk2+1+1}:=J3.kept (t':=tk2+1+1) U4;have J5:Inv X pins σ H2 {s2 with heap:=g3,toks:=tk2+1+1,drawn:=dr}:=⟨J4.ok,J4.os,J4.bare,J4.base,J4.loc,J4.cell,J4.free,J4.freeC,J4.pin,J4.hok,J4.len⟩;refine⟨.int (XC.size:Int),H2,J5,⟨_,rfl⟩,qq XC.size ?_⟩;constructor
 ·intro hp;obtain⟨⟨k,hk,_⟩,_⟩:=el4 XC[0] (by simp);obtain⟨z1,z2⟩:=(hS4 k).mp ((UJ k).mpr ⟨XC[0],by simp,hk⟩);exact⟨k,(hS k).mp z1,(hS2 k).mp z2⟩
 ·rintro⟨k,z1,z2⟩;obtain⟨e,he,_⟩:=(UJ k).mp ((hS4 k).mpr ⟨(hS k).mpr z1,(hS2 k).mpr z2⟩);have:=Rj he
  rwa [mJ]at this
end
end L2
namespace Bs
open PySem PySem.W PyProof.Rows PySem.Calls
section
variable{prog:ρ}{w:υ}{A:Around}{E:L3}{s:η}
theorem oM:∀{a b:List Int},a.Nodup->(∀x∈a,x∈b)->b.length<=a.length->∀x∈b,x∈a
 |[],b,_,_,hl,x,hx=>by cases b with |nil=>exact hx|cons=>simp at hl
 |y::a,b,nd,hs,hl,x,hx=>by
  obtain⟨ny,nd'⟩:=Cr.mp nd;have my:y∈b:=hs y gG;by_cases e:x=y
  ·rw[e];exact gG
  ·refine eV _ (oM (b:=b.erase y) nd' (fun z hz=> ?_) ?_ x ((S6 e).mpr hx))
   ·exact(S6 (fun q=>ny (by rw[<-q];exact hz))).mpr (hs z (eV _ hz))
   ·rw[Wo my];rw[nO]at hl;omega
theorem wR{d:Addr}{es:Array (Int×ζ)}{ep:Nat}{t:ξ}{Q:L3}(hA:A.handled=none)(S:aP w s.heap d es ep t)(h64:es.size<=1000)(hi:∀v∈es.toList.map (·.2),∃k t,v= .int k t)(nd:((es.toList.map (·.2)).map L2.iv).Nodup)(q:∀D h' tk dr out c (ys:List Int),ys.Pairwise (· < ·)->ys.length=es.size->(∀k,k∈ys↔k∈(es.toList.map (·.2)).map L2.iv)->L2.Vals (ys.map L2.V.int) out->s.heap.objs.size<=D->(∀b o,s.heap.get? b=some o->h'.get? b=some o)->h'.get? D=some (seqObj "list" (List.toArray out) c)->Q (.ref D) {s with heap:=h',toks:=tk,drawn:=dr}):
  wpAny (model prog w) A (call (.builtin "sorted") [.ref d]) Q E s:=by
 refine Calls.call_function_entry kind_sorted plain_sorted entry_sorted (args_sorted1 _) ?_;unfold Builtin.«sorted»;refine aq (m:=checkCount "sorted" 1 1 _) (aO (aq (wj.vJ (by simpa using hA) S (by omega) fun h1 tk dr vs Nr le pm=> ?_)));have hi':∀v∈vs,∃k t,v=Value.int k t:=fun v hv=>hi v (pm.mem_iff.mp hv);have rv:=L2.q9 hi';have pm':(vs.map L2.iv).Perm ((es.toList.map (·.2)).map L2.iv):=pm.map _;have nd':(vs.map L2.iv).Nodup:=pm'.nodup_iff.mpr nd;have hl:vs.length=es.size:=by rw[pm.length_eq,aH,mJ]
 have Jd:(vs.map L2.iv).length=vs.length:=aH _;have pr:=L2.lQ rv;have hI:IntsAre vs (vs.map L2.iv):=L2.intsAre_of rv;refine aq (Tz ?_ (by rw[gA];omega));have hoL:(h1.push (seqObj "list" vs.toArray 0)).get? h1.objs.size=some (seqObj "list" vs.toArray 0):=jE _ rfl;have keep:∀b o,s.heap.get? b=some o->(h1.push (seqObj "list" vs.toArray 0)).get? b=some o:=fun b o e=>dH _ (Nr b o e);have ne:∀b o,s.heap.get? b=some o->b≠h1.objs.size:=fun b o e=>cN (cO (Nr b o e));refine aq (Ak (Ju slot_list_sort ⟨_,hoL,rfl⟩ entry_list_sort ?body (args_list_sort _)))
 case body=>
  refine rP (kv:=L2.iv) (κ:=oneType') (s:={s with heap:=h1.push (seqObj "list" vs.toArray 0),toks:=tk,drawn:=dr}) hoL (by rw[gA];omega) nd'
   (fun h2 h' k Q hq=> ?_) (fun h2 h' k=> ?_) fun h' out c ho Xu k hc=> ?_
  ·rw[ksk_kind (kz:=vs.map L2.iv) (by simpa using hI) (by simpa using h2)];exact aO hq
  ·intro i j C hi hj hC;unfold PySem.W.kas_ask;obtain⟨a1,t1,e1⟩:=hi' (vs.getD i Value.none) (by rw[jF,dJ hi];exact tY _);obtain⟨a2,t2,e2⟩:=hi' (vs.getD j Value.none) (by rw[jF,dJ hj];exact tY _);rw[e1,e2]at hC⊢;exact PySem.W.kat_lt_int hC
  ·obtain⟨hol,hom⟩:=ho;have hio:∀v∈out,∃k t,v=Value.int k t:=fun v hv=>hi' v (hom v hv);refine⟨_,rfl,aO ⟨_,rfl,q _ h' tk dr out c (out.map L2.iv) Xu (by rw[aH,hol,hl]) (fun k=> ?_) (L2.q9 hio) le (fun b o e=>k b o (ne b o e) (keep b o e)) hc⟩⟩;rw[<-pm'.mem_iff];have sub:∀x∈out.map L2.iv,x∈vs.map L2.iv:=fun x hx=>by
    obtain⟨v,hv,rfl⟩:=kW.mp hx;exact List.mem_map_of_mem (hom v hv)
   exact⟨sub k,oM (Xu.imp fun h=>Int.ne_of_lt h) sub (by rw[aH,aH,hol];exact aB _) k⟩
end
end Bs
namespace L2
open PySem PySem.Spec PyProof.Rows
section
variable{X:Cx}{a:Expr}{ta:TA}{p p' pos pos':Pos}
noncomputable def Av(K:W.Frag)(ta:TA):TE:=fun σ H Q=>ta σ H fun vs H1=>∃(l:Addr) (ns:List Int),vs=[.ref l]/\SqT K H1 l (ns.map V.int)/\ns.length<1000/\
 ∀(r:Addr) (ys:List Int),H1 r=none->ys.Pairwise (· < ·)->(∀k,k∈ys↔k∈ns)->Q (.ref r) (upd H1 r (.lst (ys.map V.int)))
theorem qg(hc:X.calm=true)(Qz:Gl X "sorted")(hmL:X.mg "sorted"=none)(hg:Gl X "set")(hm:X.mg "set"=none)(ha:PA X [a] ta)(hs:starEach [a] X.env=[(false,eval a X.env)]:=by rfl)(hs2:starEach [Expr.Call (.Name "set" p') [a] [] pos'] X.env=[(false,eval (Expr.Call (.Name "set" p') [a] [] pos') X.env)]:=by rfl):
  PE X (.Call (.Name "sorted" p) [.Call (.Name "set" p') [a] [] pos'] [] pos) (Av X.K ta):=by
 intro pins s σ H Q I h;refine Ms (wz I Qz hmL (show bootBuiltins "sorted"=some (.builtin "sorted")from by decide+kernel) ?_ (by decide) (by decide));refine Zk ?_ hs2 rfl;rw[hs2];refine TY ?_;refine Call_ (wz I hg hm (show bootBuiltins "set"=some (.type "set")from by decide+kernel) (Dt (thn (ha pos' pins s σ H _ I h) fun us s1 ⟨vs,H1,I1,r1,q1⟩=> ?_) hs rfl));obtain⟨l,ns,e,hq,hz,q⟩:=q1;subst e;cases r1 with
 |cons r rr=>
  cases rr;cases r;obtain⟨its,rv,pl,_⟩:=I1.tuple hq;have hi:IntsAre its ns:=intsAre_of rv;have aae:its.length=ns.length:=WW hi;refine n6 (ns:=ns) (I.ok.hd hc) (show s1.heap.IsTuple l its.toArray from pl) (by simpa using hi) (by unfold scanBound;simp;omega) fun g tk G keep=> ?_;refine TX ?_;have Jd:its.toArray.size=ns.length:=by rw[dW];exact aae
  obtain⟨es,ep,t,S,en,KH,nd,mm⟩:=Az (s:={s1 with heap:=g,toks:=tk}) G;have hle:=YT (fun i=>ns.getD i 0) its.toArray.size;have szg:s1.heap.objs.size<=g.objs.size:=by obtain⟨o,ho,_⟩:=S.ob;exact cD (cO ho)
  refine Bs.wR (s:={s1 with heap:=g,toks:=tk}) (I.ok.hd hc) S (by omega) KH nd fun D h' tk' dr out c ys hw hyl hmem rv' hD k hO=> ?_;have zl:(ys.map V.int).length<=sizeLine:=by rw[aH,gA];omega
  have J:Inv X pins σ (upd H1 D (.lst (ys.map V.int))) {s1 with heap:=h',toks:=tk'}:=I1.laid (fun b o e=>k b o (keep b o (cO e) e)) (dD szg hD) ⟨zl,out,c,rv',hO⟩;have J':Inv X pins σ (upd H1 D (.lst (ys.map V.int))) {s1 with heap:=h',toks:=tk',drawn:=dr}:=⟨J.ok,J.os,J.bare,J.base,J.loc,J.cell,J.free,J.freeC,J.pin,J.hok,J.len⟩;refine⟨.ref D,_,J',rfl,q D ys (I1.hok.fresh (dD szg hD)) hw fun k=> ?_⟩;rw[hmem,mm,Jd,V8,IK];exact aB _
end
end L2
namespace Sx
noncomputable abbrev Fo:=List Bool->Int
noncomputable def lo(x:Fo):Fo:=fun l=>x (false::l)
noncomputable def hi(x:Fo):Fo:=fun l=>x (true::l)
noncomputable def tl(r:Vec):Vec:=fun j=>r (j+1)
noncomputable def wg:Nat->Vec->Fo->Fo
 |0,_,_,_=>0
 |_+1,_,_,[]=>0
 |n+1,r,x,false::l=>wg n (tl r) (lo x) l
 |n+1,r,x,true::l=>r 0*lo x l-wg n (tl r) (hi x) l
noncomputable def ct:Nat->Vec->Fo->Fo
 |0,_,_,_=>0
 |_+1,_,_,[]=>0
 |n+1,r,x,false::l=>ct n (tl r) (lo x) l+r 0*hi x l
 |n+1,r,x,true::l=> -ct n (tl r) (hi x) l
noncomputable def ip:Nat->Fo->Fo->Int
 |0,x,y=>x []*y []
 |n+1,x,y=>ip n (lo x) (lo y)+ip n (hi x) (hi y)
noncomputable def nr:Nat->Vec->Int
 |0,_=>0
 |n+1,r=>r 0*r 0+nr n (tl r)
theorem jt(a b:Int):∀n (x y z:Fo),ip n (fun l=>a*x l+b*y l) z=a*ip n x z+b*ip n y z
 |0,x,y,z=>by show(a*x []+b*y [])*z []=a*(x []*z [])+b*(y []*z []);grind
 |n+1,x,y,z=>by
  show ip n (fun l=>a*lo x l+b*lo y l) (lo z)+ip n (fun l=>a*hi x l+b*hi y l) (hi z)=a*(ip n (lo x) (lo z)+ip n (hi x) (hi z))+b*(ip n (lo y) (lo z)+ip n (hi y) (hi z));rw[jt a b n,jt a b n];grind
theorem fW:∀n (x y:Fo),ip n x y=ip n y x
 |0,x,y=>yS _ _
 |n+1,x,y=>by show _+_=_+_;rw[fW n (lo x),fW n (hi x)]
theorem zT(a b:Int)(n:Nat)(x y z:Fo):ip n z (fun l=>a*x l+b*y l)=a*ip n z x+b*ip n z y:=by rw[fW,jt,fW n x,fW n y]
theorem Mx(a:Int):0<=a*a:=by
 rcases Int.le_total 0 a with h|h
 ·exact yU h h
 ·have:=yU (a:= -a) (b:= -a) (by omega) (by omega)
  grind
theorem uX:∀n (x:Fo),0<=ip n x x
 |0,x=>Mx _
 |n+1,x=>by have:=uX n (lo x);have:=uX n (hi x);show 0<=_+_;omega
theorem vq(a:Int)(x y:Fo):(fun l=>a*x l-y l)=fun l=>a*x l+(-1)*y l:=by funext l;omega
theorem NK(a:Int)(x y:Fo):(fun l=>y l+a*x l)=fun l=>1*y l+a*x l:=by funext l;omega
theorem Nz(x:Fo):(fun l=> -x l)=fun l=>(-1)*x l+0*x l:=by funext l;omega
theorem adj:∀n (r:Vec) (x y:Fo),ip n y (wg n r x)=ip n (ct n r y) x
 |0,r,x,y=>by show y []*0=0*x [];simp
 |n+1,r,x,y=>by
  show ip n (lo y) (wg n (tl r) (lo x))+ip n (hi y) (fun l=>r 0*lo x l-wg n (tl r) (hi x) l)=ip n (fun l=>ct n (tl r) (lo y) l+r 0*hi y l) (lo x)+ip n (fun l=> -ct n (tl r) (hi y) l) (hi x);rw[vq (r 0) (lo x),NK (r 0) (hi y),Nz (ct n (tl r) (hi y)),zT,jt,jt,adj n,adj n];omega
theorem key:∀n (r:Vec) (x:Fo),ip n (wg n r x) (wg n r x)+ip n (ct n r x) (ct n r x)=nr n r*ip n x x
 |0,r,x=>by show(0:Int)*0+0*0=0*_;simp
 |n+1,r,x=>by
  show ip n (wg n (tl r) (lo x)) (wg n (tl r) (lo x))+ip n (fun l=>r 0*lo x l-wg n (tl r) (hi x) l) (fun l=>r 0*lo x l-wg n (tl r) (hi x) l)+(ip n (fun l=>ct n (tl r) (lo x) l+r 0*hi x l) (fun l=>ct n (tl r) (lo x) l+r 0*hi x l)+ip n (fun l=> -ct n (tl r) (hi x) l) (fun l=> -ct n (tl r) (hi x) l))=(r 0*r 0+nr n (tl r))*(ip n (lo x) (lo x)+ip n (hi x) (hi x));have a:=key n (tl r) (lo x);have b:=key n (tl r) (hi x);have c:=adj n (tl r) (hi x) (lo x);have d:=fW n (wg n (tl r) (hi x)) (lo x);have e:=fW n (ct n (tl r) (lo x)) (hi x);rw[vq (r 0) (lo x),NK (r 0) (hi x),Nz (ct n (tl r) (hi x))];simp only[jt,zT];generalize ip n (wg n (tl r) (lo x)) (wg n (tl r) (lo x))=A1 at *;generalize ip n (wg n (tl r) (hi x)) (wg n (tl r) (hi x))=A2 at *;generalize ip n (ct n (tl r) (lo x)) (ct n (tl r) (lo x))=A3 at *;generalize ip n (ct n (tl r) (hi x)) (ct n (tl r) (hi x))=A4 at *;generalize ip n (lo x) (wg n (tl r) (hi x))=A5 at *;generalize ip n (wg n (tl r) (hi x)) (lo x)=A6 at *;generalize ip n (ct n (tl r) (lo x)) (hi x)=A7 at *;generalize ip n (hi x) (ct n (tl r) (lo x))=A8 at *;generalize ip n (lo x) (lo x)=A9 at *;generalize ip n (hi x) (hi x)=A0 at *;generalize nr n (tl r)=N at *;generalize r 0=q at *
  grind
theorem fB(a b:Int):∀n (r:Vec) (x y:Fo),wg n r (fun l=>a*x l+b*y l)=fun l=>a*wg n r x l+b*wg n r y l
 |0,r,x,y=>by funext l;show(0:Int)=a*0+b*0;simp
 |n+1,r,x,y=>by
  funext l
  match l with
  |[]=>show(0:Int)=a*0+b*0;simp
  |false::l=>exact congrFun (fB a b n (tl r) (lo x) (lo y)) l
  |true::l=>
   show r 0*(a*lo x l+b*lo y l)-wg n (tl r) (fun l=>a*hi x l+b*hi y l) l=a*(r 0*lo x l-wg n (tl r) (hi x) l)+b*(r 0*lo y l-wg n (tl r) (hi y) l);rw[fB a b n];grind
theorem qY(a b:Int):∀n (r s:Vec) (x:Fo),wg n (fun j=>a*r j+b*s j) x=fun l=>a*wg n r x l+b*wg n s x l
 |0,r,s,x=>by funext l;show(0:Int)=a*0+b*0;simp
 |n+1,r,s,x=>by
  funext l
  match l with
  |[]=>show(0:Int)=a*0+b*0;simp
  |false::l=>exact congrFun (qY a b n (tl r) (tl s) (lo x)) l
  |true::l=>
   show(a*r 0+b*s 0)*lo x l-wg n (fun j=>a*tl r j+b*tl s j) (hi x) l=a*(r 0*lo x l-wg n (tl r) (hi x) l)+b*(s 0*lo x l-wg n (tl s) (hi x) l);rw[qY a b n];grind
theorem anti:∀n (r s:Vec) (x:Fo) (l:List Bool),wg n r (wg n s x) l= -wg n s (wg n r x) l
 |0,r,s,x,l=>rfl
 |n+1,r,s,x,[]=>rfl
 |n+1,r,s,x,false::l=>anti n (tl r) (tl s) (lo x) l
 |n+1,r,s,x,true::l=>by
  show r 0*wg n (tl s) (lo x) l-wg n (tl r) (fun l=>s 0*lo x l-wg n (tl s) (hi x) l) l= -(s 0*wg n (tl r) (lo x) l-wg n (tl s) (fun l=>r 0*lo x l-wg n (tl r) (hi x) l) l);rw[vq (s 0) (lo x),vq (r 0) (lo x),fB,fB];have:=anti n (tl r) (tl s) (hi x) l
  grind
noncomputable def on:Fo:=fun l=>if l.all (!·)=true then 1 else 0
theorem Dj(n:Nat)(r:Vec):wg n r (fun _=>0)=fun _=>0:=by
 have:=fB 0 0 n r (fun _=>0) (fun _=>0);simpa using this
theorem Nt:∀n,ip n on on=1
 |0=>rfl
 |n+1=>by
  show ip n on on+ip n (fun _=>0) (fun _=>0)=1;have:=jt 0 0 n (fun _=>0) (fun _=>0) (fun _=>0);rw[Nt n];simp at this;omega
noncomputable def nx(M:fX):fX:=fun i=>M (i+1)
noncomputable def wd(n:Nat):Nat->fX->Fo
 |0,_=>on
 |k+1,M=>wg n (M 0) (wd n k (nx M))
theorem Mi{n:Nat}{B:Int}(hB:0<=B):∀k (M:fX),(∀i,i<k->nr n (M i)<=B)->ip n (wd n k M) (wd n k M)<=B^k
 |0,M,_=>by rw[Int.pow_zero];show ip n on on<=1;rw[Nt];exact yR 1
 |k+1,M,h=>by
  show ip n (wg n (M 0) (wd n k (nx M))) (wg n (M 0) (wd n k (nx M)))<=_;have a:=key n (M 0) (wd n k (nx M));have b:=uX n (ct n (M 0) (wd n k (nx M)));have c:=Mi hB k (nx M) fun i hi=>h (i+1) (by omega);have d:nr n (M 0)*ip n (wd n k (nx M)) (wd n k (nx M))<=B*B^k:=Int.mul_le_mul (h 0 (by omega)) c (uX _ _) hB;rw[Int.pow_succ,yS];omega
noncomputable def tp(n:Nat)(x:Fo):Int:=x (List.replicate n true)
theorem Mw:∀n (x:Fo),tp n x*tp n x<=ip n x x
 |0,x=>yR _
 |n+1,x=>by
  have a:=Mw n (hi x);have b:=uX n (lo x);show tp n (hi x)*tp n (hi x)<=ip n (lo x) (lo x)+ip n (hi x) (hi x);omega
theorem Np{n:Nat}:∀k (M:fX),lo (wd (n+1) k M)=wd n k fun i=>tl (M i)
 |0,M=>rfl
 |k+1,M=>by
  show wg n (tl (M 0)) (lo (wd (n+1) k (nx M)))=wg n (tl (M 0)) (wd n k fun i=>tl (nx M i));rw[Np k (nx M)]
theorem uw{f:Nat->Int}:∀k,sm (k+1) f=f 0+sm k fun i=>f (i+1)
 |0=>by show 0+f 0=f 0+0;omega
 |k+1=>by
  show sm (k+1) f+f (k+1)=f 0+(sm k (fun i=>f (i+1))+f (k+1));rw[uw k];omega
theorem Di{n:Nat}{r:Vec}{c:Nat->Int}{X:Nat->Fo}:∀k,wg n r (fun l=>sm k fun i=>c i*X i l)=fun l=>sm k fun i=>c i*wg n r (X i) l
 |0=>Dj n r
 |k+1=>by
  have e:(fun l=>sm (k+1) fun i=>c i*X i l)=fun l=>1*(sm k fun i=>c i*X i l)+c k*X k l:=by funext l;rw[yQ];rfl
  rw[e,fB 1 (c k) n r (fun l=>sm k fun i=>c i*X i l) (X k),Di k];funext l;rw[yQ];rfl
theorem Ql(M:fX)(i:Nat):nx (fU M (i+1))=fU (nx M) i:=by
 funext r c;show M (rA (i+1) (r+1)) (c+1)=M (rA i r+1) (c+1);have:rA (i+1) (r+1)=rA i r+1:=by unfold rA;split<;>split<;>omega
 rw[this]
theorem Nx{n:Nat}:∀k (M:fX),hi (wd (n+1) (k+1) M)=fun l=>sm (k+1) fun i=>sg i*M i 0*wd n k (fU M i) l
 |0,M=>by
  show(fun l=>M 0 0*on l-wg n (tl (M 0)) (fun _=>0) l)=_;rw[Dj];funext l;show M 0 0*on l-0=0+sg 0*M 0 0*on l;rw[show sg 0=1 from rfl,yQ];omega
 |k+1,M=>by
  show(fun l=>M 0 0*lo (wd (n+1) (k+1) (nx M)) l-wg n (tl (M 0)) (hi (wd (n+1) (k+1) (nx M))) l)=_;rw[Nx k (nx M),Np,Di (c:=fun i=>sg i*nx M i 0) (X:=fun i=>wd n k (fU (nx M) i))];funext l;rw[uw (k+1)];have e0:fU M 0=fun i=>tl (nx M i):=by funext r c;show M (rA 0 r) (c+1)=M (r+1) (c+1);unfold rA;rw[aj (by omega)]
  have e1:∀i,wd n (k+1) (fU M (i+1))=wg n (tl (M 0)) (wd n k (fU (nx M) i)):=fun i=>by
   show wg n (fU M (i+1) 0) (wd n k (nx (fU M (i+1))))=_;rw[Ql];rfl
  rw[e0,show sg 0=1 from rfl,yQ];show _-_=_+_;have e2:(sm (k+1) fun i=>sg (i+1)*M (i+1) 0*wd n (k+1) (fU M (i+1)) l)=(-1)*sm (k+1) fun i=>sg i*nx M i 0*wg n (tl (M 0)) (wd n k (fU (nx M) i)) l:=by
   rw[<-bQ];refine aK _ fun i hi=> ?_;rw[e1,zE];show -sg i*M (i+1) 0*_= -1*(sg i*M (i+1) 0*_)
   grind
  rw[e2];dsimp only;omega
theorem sG:∀n (M:fX),det n M=tp n (wd n n M)
 |0,M=>rfl
 |n+1,M=>by
  show sm (n+1) (fun i=>sg i*M i 0*det n (fU M i))=hi (wd (n+1) (n+1) M) (List.replicate n true);rw[Nx];exact aK _ fun i hi=>by rw[sG n];rfl
noncomputable def bor(M:fX):fX:=fun i j=>if j=0 then M i 0 else 2*M i j+M i 0
noncomputable def tR(M:fX):fX:=fun i j=>if j=0 then M i 0 else 2*M i j
theorem zZ:∀n (M:fX),det n (fun i j=>2*M i j)=2^n*det n M
 |0,M=>rfl
 |n+1,M=>by
  show sm (n+1) (fun i=>sg i*(2*M i 0)*det n (fun r c=>2*fU M i r c))=2^(n+1)*sm (n+1) (fun i=>sg i*M i 0*det n (fU M i));rw[<-bQ];exact aK _ fun i hi=>by rw[zZ n,Int.pow_succ];grind
theorem Le(n:Nat)(M:fX):det (n+1) (tR M)=2^n*det (n+1) M:=by
 show sm (n+1) (fun i=>sg i*M i 0*det n (fun r c=>2*fU M i r c))=2^n*sm (n+1) (fun i=>sg i*M i 0*det n (fU M i));rw[<-bQ];exact aK _ fun i hi=>by rw[zZ];grind
noncomputable def al:Vec:=fun _=>1
theorem V0(n:Nat)(r:Vec)(x:Fo)(l:List Bool):wg n r (wg n r x) l=0:=by have:=anti n r r x l;omega
theorem Dl(n:Nat):∀k (M:fX),hi (wd (n+1) k (bor M))=hi (wd (n+1) k (tR M))/\lo (wd (n+1) k (bor M))=fun l=>1*lo (wd (n+1) k (tR M)) l+1*wg n al (hi (wd (n+1) k (tR M))) l
 |0,M=>⟨rfl,by show on=fun l=>1*on l+1*wg n al (fun _=>0) l;rw[Dj];funext l;dsimp only;omega⟩
 |k+1,M=>by
  obtain⟨h1,h2⟩:=Dl n k (nx M);have et:tl (bor M 0)=fun j=>1*tl (tR M 0) j+M 0 0*al j:=by
   funext j;show(2*M 0 (j+1)+M 0 0)=1*(2*M 0 (j+1))+M 0 0*1;omega
  have eb:nx (bor M)=bor (nx M):=rfl;have ew:nx (tR M)=tR (nx M):=rfl;constructor
  ·show(fun l=>M 0 0*lo (wd (n+1) k (nx (bor M))) l-wg n (tl (bor M 0)) (hi (wd (n+1) k (nx (bor M)))) l)=fun l=>M 0 0*lo (wd (n+1) k (nx (tR M))) l-wg n (tl (tR M 0)) (hi (wd (n+1) k (nx (tR M)))) l;rw[eb,ew,h1,h2,et,qY];funext l;grind
  ·show wg n (tl (bor M 0)) (lo (wd (n+1) k (nx (bor M))))=fun l=>1*wg n (tl (tR M 0)) (lo (wd (n+1) k (nx (tR M)))) l+1*wg n al (fun l=>M 0 0*lo (wd (n+1) k (nx (tR M))) l-wg n (tl (tR M 0)) (hi (wd (n+1) k (nx (tR M)))) l) l;rw[eb,ew,h2,et,qY,fB,fB,vq (M 0 0),fB];funext l;have a:=anti n (tl (tR M 0)) al (hi (wd (n+1) k (tR (nx M)))) l;have b:=V0 n al (hi (wd (n+1) k (tR (nx M)))) l;dsimp only;rw[a,b];grind
theorem Lf(n:Nat)(M:fX):det (n+1) (bor M)=2^n*det (n+1) M:=by
 rw[<-Le,sG,sG];exact congrFun (Dl n (n+1) M).1 _
theorem QM{n:Nat}{M:fX}{B:Int}(hB:0<=B)(h:∀i,i<n->nr n (M i)<=B):det n M*det n M<=B^n:=by
 rw[sG];exact Yl (Mw _ _) (Mi hB n M h)
theorem Fz{r:Vec}:∀n,(∀j,j<n->r j*r j<=1)->nr n r<=n:=by
 intro n
 induction n generalizing r with
 |zero=>intro _;exact yR 0
 |succ n ih=>
  intro h;have a:=h 0 (by omega);have b:=ih (r:=tl r) fun j hj=>h (j+1) (by omega);show r 0*r 0+nr n (tl r)<=_;omega
theorem Ka{r:Vec}:∀n,(∀j,j<n->r j=0)->nr n r=0:=by
 intro n
 induction n generalizing r with
 |zero=>intro _;rfl
 |succ n ih=>
  intro h;show r 0*r 0+nr n (tl r)=0;rw[h 0 (by omega),ih (r:=tl r) fun j hj=>h (j+1) (by omega)];rfl
theorem Uv{r:Vec}{a:Nat}{x:Int}:∀n,(∀j,j<n->r j=if j=a then x else 0)->nr n r<=x*x:=by
 intro n
 induction n generalizing r a with
 |zero=>intro _;exact Mx x
 |succ n ih=>
  intro h;show r 0*r 0+nr n (tl r)<=x*x;by_cases c:a=0
  ·subst c;rw[h 0 (by omega),ak rfl,Ka n fun j hj=>by show r (j+1)=0;rw[h (j+1) (by omega),aj (by omega)]];omega
  ·rw[h 0 (by omega),aj (by omega)];have:=ih (r:=tl r) (a:=a-1) fun j hj=>by
    show r (j+1)=_;rw[h (j+1) (by omega)];by_cases e:j=a-1
    ·rw[ak e,ak (by omega)]
    ·rw[aj e,aj (by omega)]
   omega
section
variable{n m:Nat}{S:Nat->Nat->Bool}{w:Nat->Int}{T:Tab}
theorem Li{a:Nat}(hn:3<=n){M:fX}{i:Nat}(h:M i=nv n S a):nr (n+1) (bor M i)<=((n+1:Nat):Int):=by
 by_cases c:a<n
 ·have:=Uv (r:=bor M i) (a:=a+1) (x:=2) (n+1) fun j hj=>by
   unfold bor;rw[h];unfold nv;rw[ak c,ak c];by_cases e:j=0
   ·subst e;rw[ak rfl,aj (by omega),aj (by omega)]
   ·rw[aj e];by_cases e2:j=a+1
    ·rw[ak e2,aj (by omega),ak e2];rfl
    ·rw[aj e2,aj (by omega),aj e2];rfl
  omega
 ·refine Fz (n+1) fun j hj=> ?_;unfold bor;rw[h];unfold nv;rw[aj c,aj c];by_cases e:j=0
  ·rw[ak e,ak rfl];decide
  ·rw[aj e,aj e,ak rfl];split<;>decide
theorem Good.JT(G:Good n m S w T)(h:n<=10):T.over<=521:=by
 by_cases hn:3<=n
 ·have d:=QM (n:=n+1) (M:=bor (mD n S T)) (B:=((n+1:Nat):Int)) (by omega) fun i hi=>by
   by_cases c:i=0
   ·subst c;refine Fz (n+1) fun j hj=> ?_;show(if j=0 then one 0 else 2*one j+one 0)*(if j=0 then one 0 else 2*one j+one 0)<=1;by_cases e:j=0
    ·rw[ak e];decide
    ·rw[aj e];have:one j=0:=aj e;rw[this];decide
   ·obtain⟨k,rfl⟩:∃k,i=k+1:=⟨i-1,by omega⟩;exact Li hn (sV k)
  rw[Lf]at d;have e:T.over*T.over=det (n+1) (mD n S T)*det (n+1) (mD n S T):=by
   rw[G.dt];rcases G.sg with s|s<;>rw[s]<;>grind
  refine Int.not_lt.mp fun hx=> ?_;have f:522*522<=T.over*T.over:=Int.mul_le_mul (by omega) (by omega) (by decide) (by omega);have g:2^n*det (n+1) (mD n S T)*(2^n*det (n+1) (mD n S T))=2^n*2^n*(T.over*T.over):=by rw[e];grind
  rw[g]at d;generalize T.over*T.over=q at *;have:n=3\/n=4\/n=5\/n=6\/n=7\/n=8\/n=9\/n=10:=by omega
  rcases this with z|z|z|z|z|z|z|z<;>subst z<;>simp at d<;>omega
 ·have:=G.zJ;have:fct (n+1)<=6:=by
   have:n=0\/n=1\/n=2:=by omega
   rcases this with z|z|z<;>subst z<;>decide
  omega
end
end Sx
namespace Hs
open PySem L2 wk
noncomputable def top(i:Nat):Stmt:=PySem.Challenge.pw_hueshare_k30_shares_spread.main.body.getD i (.Pass ⟨0,0,0,0⟩)
noncomputable abbrev Oc:Stmt:=top 7
noncomputable abbrev ji:Stmt:=top 8
noncomputable abbrev fM:Stmt:=top 9
noncomputable abbrev R0:Stmt:=top 10
noncomputable abbrev oE:Stmt:=top 11
noncomputable abbrev jj:Stmt:=top 12
noncomputable abbrev oA:Stmt:=top 13
noncomputable abbrev Od:Stmt:=top 14
noncomputable abbrev lA:Stmt:=top 15
noncomputable abbrev Wb:Stmt:=top 17
noncomputable abbrev gK:Stmt:=top 18
noncomputable abbrev oh:Stmt:=top 19
noncomputable abbrev X3:Stmt:=top 21
noncomputable abbrev lg:Stmt:=top 22
noncomputable abbrev gO:Stmt:=top 23
noncomputable abbrev fL:Stmt:=top 24
noncomputable abbrev XQ:Stmt:=inClass (top 27) 0
noncomputable abbrev Ye:Stmt:=inClass (top 27) 1
noncomputable abbrev Yd:Stmt:=inClass (top 27) 2
noncomputable abbrev X8:Stmt:=inClass (top 27) 3
noncomputable abbrev X6:Stmt:=inClass (top 27) 4
noncomputable abbrev XR:Stmt:=inClass (top 27) 5
noncomputable abbrev XS:Stmt:=inClass (top 27) 6
noncomputable abbrev R8:Stmt:=inClass (top 27) 7
noncomputable abbrev Yb:Stmt:=inClass (top 27) 8
noncomputable abbrev Yc:Stmt:=inClass (top 27) 9
noncomputable abbrev fG:Stmt:=top 28
noncomputable abbrev jK:Stmt:=top 29
noncomputable abbrev rE:Stmt:=top 30
noncomputable abbrev oF:Stmt:=top 32
noncomputable abbrev X7:Stmt:=top 33
noncomputable abbrev jk:Stmt:=top 34
noncomputable abbrev XM:Stmt:=top 35
noncomputable abbrev lq:Stmt:=top 36
noncomputable abbrev ou:Stmt:=top 37
noncomputable abbrev V7:Stmt:=top 39
noncomputable abbrev gM:Stmt:=top 40
noncomputable abbrev V9:Stmt:=top 41
noncomputable abbrev fH:Stmt:=top 42
noncomputable abbrev jh:Stmt:=top 43
noncomputable abbrev fK:Stmt:=top 44
noncomputable abbrev XJ:Stmt:=top 45
noncomputable abbrev fJ:Stmt:=top 46
noncomputable abbrev lV:Stmt:=top 47
end Hs
namespace Hs
open PySem L2
theorem bH{X:Cx}{b:List Stmt}{R:TS->Prop}(h:let Y:=X;∃t,PSs Y b t/\R t):∃t,PSs X b t/\R t:=h
theorem gn{t1 t2:TS}{D:Ends}{σ:St}{H:Hp}(h:let c2:=t2;tSeq t1 c2 D σ H):(tSeq t1 t2) D σ H:=h
theorem qM{t1 t2 t3:TS}{D:Ends}{σ:St}{H:Hp}(h:let c3:=t3;let c2:=tSeq t2 c3;tSeq t1 c2 D σ H):(tSeq t1 (tSeq t2 t3)) D σ H:=h
theorem GF{t1 t2 t3 t4:TS}{D:Ends}{σ:St}{H:Hp}(h:let c4:=t4;let c3:=tSeq t3 c4;let c2:=tSeq t2 c3;tSeq t1 c2 D σ H):(tSeq t1 (tSeq t2 (tSeq t3 t4))) D σ H:=h
theorem Nv{t1 t2 t3 t4 t5 t6:TS}{D:Ends}{σ:St}{H:Hp}(h:let c6:=t6;let c5:=tSeq t5 c6;let c4:=tSeq t4 c5;let c3:=tSeq t3 c4;let c2:=tSeq t2 c3;tSeq t1 c2 D σ H):(tSeq t1 (tSeq t2 (tSeq t3 (tSeq t4 (tSeq t5 t6))))) D σ H:=h
theorem Nu{t1 t2 t3 t4 t5 t6 t7:TS}{D:Ends}{σ:St}{H:Hp}(h:let c7:=t7;let c6:=tSeq t6 c7;let c5:=tSeq t5 c6;let c4:=tSeq t4 c5;let c3:=tSeq t3 c4;let c2:=tSeq t2 c3;tSeq t1 c2 D σ H):(tSeq t1 (tSeq t2 (tSeq t3 (tSeq t4 (tSeq t5 (tSeq t6 t7)))))) D σ H:=h
theorem Ve{t1 t2 t3 t4 t5 t6 t7 t8:TS}{D:Ends}{σ:St}{H:Hp}(h:let c8:=t8;let c7:=tSeq t7 c8;let c6:=tSeq t6 c7;let c5:=tSeq t5 c6;let c4:=tSeq t4 c5;let c3:=tSeq t3 c4;let c2:=tSeq t2 c3;tSeq t1 c2 D σ H):(tSeq t1 (tSeq t2 (tSeq t3 (tSeq t4 (tSeq t5 (tSeq t6 (tSeq t7 t8))))))) D σ H:=h
theorem Qy{t1 t2 t3 t4 t5 t6 t7 t8 t9 t10:TS}{D:Ends}{σ:St}{H:Hp}(h:let c10:=t10;let c9:=tSeq t9 c10;let c8:=tSeq t8 c9;let c7:=tSeq t7 c8;let c6:=tSeq t6 c7;let c5:=tSeq t5 c6;let c4:=tSeq t4 c5;let c3:=tSeq t3 c4;let c2:=tSeq t2 c3;tSeq t1 c2 D σ H):(tSeq t1 (tSeq t2 (tSeq t3 (tSeq t4 (tSeq t5 (tSeq t6 (tSeq t7 (tSeq t8 (tSeq t9 t10))))))))) D σ H:=h
end Hs
namespace L2
open PySem PySem.Spec PyProof.Rows
section
variable{X:Cx}{es:List Expr}{k:Nat}{Fe:Pos}
noncomputable def aan(K:W.Frag)(b:Bool)(H:Hp)(a:Addr)(xs:List V):Prop:=match b with
 |false=>SqL K H a xs
 |true=>False
noncomputable def Qs(K:W.Frag)(ta:TA):TI:=fun σ H R=>ta σ H fun vs H1=>∃(b:Bool) (a:Addr) (xs:List V),vs=[.ref a]/\aan K b H1 a xs/\(xs.length<=sizeLine->R (Ite K b a xs) H1)
theorem jQ{a:Expr}{ta:TA}{p pos:Pos}(hg:Gl X "enumerate")(hm:X.mg "enumerate"=none)(ha:PA X [a] ta)(hs:starEach [a] X.env=[(false,eval a X.env)]:=by rfl):
  PI X (.Tuple es k Fe) (.Call (.Name "enumerate" p) [a] [] pos) (Qs X.K ta):=by
 intro pins s σ H R I h;refine Call_ (wz I hg hm (show bootBuiltins "enumerate"=some (.type "enumerate")from by decide+kernel) (Dt (thn (ha pos pins s σ H _ I h) fun us s1 ⟨vs,H1,I1,r1,q1⟩=> ?_) hs rfl));obtain⟨b,l,xs,e,hq,q⟩:=q1;subst e;cases r1 with
 |cons r rr=>
  cases rr;cases r;cases b with
  |false=>
   obtain⟨its,rv,pl,hz⟩:=I1.list (show SqL X.K H1 l xs from hq);refine call_enumerate_list pl.isList fun h' he hit hsz hk=> ?_;refine wpAny_pyIter_enum he ?_;have I2:Inv X pins σ H1 {s1 with heap:=h'}:=I1.kept (t':=s1.toks) hk;have hne:s1.heap.objs.size+1≠s1.heap.objs.size:=Nat.succ_ne_self _;refine⟨s1.heap.objs.size+1,[s1.heap.objs.size+1,s1.heap.objs.size],_,_,H1,rfl,I2,wL l _ _ xs hne,⟨⟨_,he⟩,hit⟩,fun c hc=> ?_,q hz⟩;rcases dU.mp hc with z|z
   ·subst z;exact I1.fpOk (Jk _) (I1.hok.fresh (Jk _))
   ·have z:c=s1.heap.objs.size:=by simpa using z
    subst z;exact I1.fpOk (aB _) (I1.hok.fresh (aB _))
  |true=>exact hq.elim
end
end L2
namespace Hs
open PySem L2 wk
section
variable{P:ρ}{w:υ}{K:W.Frag}{mg:L4}{base:Heap}
noncomputable def iB(K:W.Frag):Sp:=fun vs H Q _=>∃x d,vs=[x]/\DX K H x d/\Q (.bl (nP d)) H
theorem Fp{f:Addr}{fd:τ}(F:Fun K "is_whole" "is_whole" Oc f fd)(mi:mg "isinstance"=none)(mI:mg "int"=none)(mB:mg "bool"=none):FnOk P w K mg base CX0 1 f fd ["thing"] (iB K):=by
 refine F.eF ["thing"] fun cdv A outer s H vs Q E hr h=> ?_;obtain⟨x,d,rfl,hx,q⟩:=h;refine⟨_,bN (cT (yO (pB Af mi (ao (pv 0) (ao (pN "int" mI) aA)))
  (Ac (pe_not (pB Af mi (ao (pv 0) (ao (pN "bool" mB) aA))))))),?_⟩
 refine⟨_,rfl,x,_,_,rfl,hx.kind,.inl rfl,_,rfl,?_⟩;refine ite2 (fun c=> ?_) (fun c=> ?_)
 ·refine⟨_,rfl,x,_,_,rfl,hx.kind,.inr (.inl rfl),_,rfl,?_⟩;cases d<;>first |exact q|(simp[xV,uW]at c;done)
 ·cases d<;>first |exact q|(exfalso;exact c rfl)
noncomputable def zq(K:W.Frag):Sp:=fun vs H Q _=>∃(n:Int) (x:V) (d:θ),vs=[.int n,x]/\DX K H x d/\Q (.bl (bR n d)) H
theorem Fv{f g:Addr}{fd gd:τ}(F:Fun K "is_place" "is_place" ji f fd)(D:cZ K mg "is_whole" Oc ["thing"] g gd)(G:FnOk P w K mg base CX0 1 g gd ["thing"] (iB K)):FnOk P w K mg base CX0 2 f fd ["n","thing"] (zq K):=by
 refine F.eF ["n","thing"] fun cdv A outer s H vs Q E hr h=> ?_;obtain⟨n,x,d,rfl,hx,q⟩:=h;refine⟨_,bN (cT (yO (pe_call G hr rfl D.m D.F.kp D.b .nil pass0 (ao (pv 1) aA)) (Ac (pe_chain op_le op_lt aY (pv 1) (pv 0))))),?_⟩;refine⟨_,rfl,x,d,rfl,hx,_,rfl,?_⟩;refine ite2 (fun c=> ?_) (fun c=> ?_)
 ·cases hx with
  |int i=>
   refine⟨_,rfl,_,_,rfl,rfl,_,rfl,?_⟩;refine ite2 (fun c2=> ?_) (fun c2=> ?_)
   ·refine⟨_,rfl,_,_,rfl,rfl,?_⟩;have e:bR n (.int i)=decide (i<n):=by show(decide (0<=i)&&decide (i<n))=_;rw[c2];rfl
    rw[e]at q;exact q
   ·have e:bR n (.int i)=false:=by show(decide (0<=i)&&decide (i<n))=_;rw[Bool.eq_false_iff.mpr c2];rfl
    rw[e]at q;exact q
  |_=>simp[nP]at c
 ·have e:bR n d=false:=by
   cases d<;>first |rfl|(exfalso;exact c rfl)
  rw[e]at q;exact q
noncomputable def ug(K:W.Frag):Sp:=fun vs H Q _=>∃(n:Int) (a:Addr) (xs:List V) (ds:List θ),vs=[.int n,.ref a]/\SqT K H a xs/\pW K H xs ds/\∀H',Same H H'->Q (.bl (ds.all (bR n))) H'
theorem pq{α:Type}(ds:List α)(p:α->Bool):(ds.map p).all id=ds.all p:=by rw[Wy];rfl
theorem Bo{f g:Addr}{fd gd:τ}(F:Fun K "are_places" "are_places" fM f fd)(D:cZ K mg "is_place" ji ["n","thing"] g gd)(G:FnOk P w K mg base CX0 2 g gd ["n","thing"] (zq K))(mA:mg "all"=none):FnOk P w K mg base CX0 3 f fd ["n","things"] (ug K):=by
 refine F.eF ["n","things"] fun cdv A outer s H vs Q E hr h=> ?_;obtain⟨n,a,xs,ds,rfl,hS,hd,q⟩:=h;refine⟨_,bN (cT (pB (fj rfl) mA (ao (pK ["thing"] ["n"] [0] (Jg (pv 1)) (pG 0) tH (pe_call G hr rfl D.m D.F.kp D.b .nil pass0 (ao (pv 1) (ao (pv 0) aA)))) aA))),?_⟩;refine⟨_,rfl,a,xs,rfl,hS,fun hz=> ?_⟩;have hl:=hd.len;let jz:Nat->List V->St->Hp->Prop:=fun i acc σ H'=>acc=((ds.take i).map (bR n)).map V.bl/\Same H H'/\∃o,σ=[o,some (.int n)];refine Lr (xs:=xs) jz ⟨rfl,Same.refl _,_,rfl⟩ (fun i acc σ H' _ p=>p.2.1.tup hS) (fun i acc σ H' hi p=> ?_) hz (fun i x acc σ H' hx p=> ?_) (fun acc σ H' p=> ?_)
 ·rw[p.1];simp;omega
 ·obtain⟨rfl,sm,o,rfl⟩:=p;obtain⟨d,e1,e2⟩:=hd.get hx;refine⟨_,rfl,_,rfl,n,x,d,rfl,DX.same sm e2,?_,sm,_,rfl⟩;rw[IW,e1];simp
 ·intro p1 hp1;obtain⟨rfl,sm,_⟩:=p;refine⟨p1,(ds.map (bR n)),rfl,SqL.of (by rw[aR,hl,IK]),?_⟩;rw[pq];exact q _ (sm.trans (bO hp1 _))
noncomputable def Q0(K:W.Frag)(H:Hp)(x y:V)(b:Bool):Prop:=(∃i j,x= .int i/\y= .int j/\b=decide (i<j))\/(∃p q ns ms,x= .ref p/\y= .ref q/\SqT K H p (ns.map V.int)/\SqT K H q (ms.map V.int)/\b=HT.lexLt ns ms)
noncomputable def jG(K:W.Frag):Sp:=fun vs H Q _=>∃(a:Addr) (xs:List V) (bs:Nat->Bool),vs=[.ref a]/\SqT K H a xs/\(∀k,k+1<xs.length->∃x y,xs[k]? =some x/\xs[k+1]? =some y/\Q0 K H x y (bs k))/\
 ∀H',Same H H'->Q (.bl ((List.range (xs.length-1)).all bs)) H'
theorem Bm{f:Addr}{fd:τ}(F:Fun K "is_rising" "is_rising" R0 f fd)(mA:mg "all"=none)(mR:mg "range"=none)(mL:mg "len"=none):FnOk P w K mg base CX0 1 f fd ["things"] (jG K):=by
 refine F.eF ["things"] fun cdv A outer s H vs Q E hr h=> ?_;obtain⟨a,xs,bs,rfl,hS,hb,q⟩:=h;refine⟨_,bN (cT (pB (fj rfl) mA (ao (pK ["k"] ["things"] [0] (pi_range2 rfl mR (ao aY (ao (pB v7 mL (ao (pv 0) aA)) aA))) (pG 0) tH (Je (op_lt.or (JW K hr.units0)) (cM (nF K) (pv 1) (cH op_sub (pv 0) aY)) (cM (nF K) (pv 1) (pv 0)))) aA))),?_⟩;refine⟨_,rfl,a,xs,rfl,.inr hS,fun hz=>⟨1,_,rfl,⟨by omega,by omega,by omega,by omega⟩,?_⟩⟩;have en:((xs.length:Int)-1).toNat=xs.length-1:=by omega
 rw[en];let jz:Nat->List V->St->Hp->Prop:=fun i acc σ H'=>acc=((List.range i).map bs).map V.bl/\Same H H'/\∃o,σ=[o,some (.ref a)];refine Q7 jz ⟨rfl,Same.refl _,_,rfl⟩ (fun i acc σ H' hi p=>by rw[p.1];simp) (by rw[gA];omega) (fun i acc σ H' hi p=> ?_) (fun acc σ H' p=> ?_)
 ·obtain⟨rfl,sm,o,rfl⟩:=p;obtain⟨x,y,hx,hy,hxy⟩:=hb i (by omega);have e1:(1+(i:Int))-1=((i:Nat):Int):=by omega
  have e2:(1+(i:Int))=((i+1:Nat):Int):=by omega
  have a1:atI xs (1+(i:Int)-1)=some x:=by rw[e1];exact atI_nat hx
  have a2:atI xs (1+(i:Int))=some y:=by rw[e2];exact atI_nat hy
  refine⟨_,rfl,_,rfl,_,_,rfl,rfl,a,xs,_,x,rfl,rfl,sm.tup hS,a1,_,rfl,_,rfl,a,xs,_,y,rfl,rfl,sm.tup hS,a2,?_⟩;have ea:((List.range i).map bs).map V.bl++[V.bl (bs i)]=((List.range (i+1)).map bs).map V.bl:=by rw[tM];simp
  rcases hxy with⟨u,v,rfl,rfl,e⟩|⟨p,p',ns,ms,rfl,rfl,h1,h2,e⟩
  ·refine .inl ⟨u,v,rfl,rfl,?_,sm,_,rfl⟩;show _++[V.bl (decide (u<v))]=_;rw[<-e];exact ea
  ·refine .inr ⟨p,p',ns,ms,rfl,rfl,sm.tup h1,sm.tup h2,?_,sm,_,rfl⟩;show _++[V.bl (HT.lexLt ns ms)]=_;rw[<-e];exact ea
 ·intro p1 hp1;obtain⟨rfl,sm,_⟩:=p;refine⟨p1,(List.range (xs.length-1)).map bs,rfl,SqL.of aR,?_⟩;rw[pq];exact q _ (sm.trans (bO hp1 _))
theorem ints_of{H:Hp}{n:Int}{xs:List V}{ds:List θ}(h:pW K H xs ds)(hp:ds.all (bR n)=true):xs=(ds.map intD).map V.int:=by
 induction ds generalizing xs with
 |nil=>cases h;rfl
 |cons d ds ih=>
  rw[List.all_cons,CG]at hp;cases h with
  |cons h t=>
   obtain⟨i,rfl,_⟩:=xq hp.1;cases h;rw[CZ,CZ,<-ih t hp.2];rfl
theorem qC{H:Hp}(ns:List Int):∀k,k+1<(ns.map V.int).length->∃x y,(ns.map V.int)[k]? =some x/\(ns.map V.int)[k+1]? =some y/\Q0 K H x y (decide (ns.getD k 0<ns.getD (k+1) 0)):=fun k hk=>by
 rw[aH]at hk;have h1:k<ns.length:=by omega
 refine⟨.int (ns.getD k 0),.int (ns.getD (k+1) 0),by simp[h1],by simp[hk],.inl ⟨_,_,rfl,rfl,rfl⟩⟩
noncomputable def MP(K:W.Frag):Sp:=fun vs H Q _=>∃(n:Int) (x:V) (d:θ),vs=[.int n,x]/\DX K H x d/\∀H',Same H H'->Q (.bl (rD n d)) H'
theorem Qd{f f1 f2:Addr}{fd d1 d2:τ}(F:Fun K "is_set" "is_set" oE f fd)(D1:cZ K mg "are_places" fM ["n","things"] f1 d1)(G1:FnOk P w K mg base CX0 3 f1 d1 ["n","things"] (ug K))(D2:cZ K mg "is_rising" R0 ["things"] f2 d2)(G2:FnOk P w K mg base CX0 1 f2 d2 ["things"] (jG K))(mi:mg "isinstance"=none)(mT:mg "tuple"=none):FnOk P w K mg base CX0 4 f fd ["n","thing"] (MP K):=by
 refine F.eF ["n","thing"] fun cdv A outer s H vs Q E hr h=> ?_;obtain⟨n,x,d,rfl,hx,q⟩:=h;refine⟨_,bN (cT (yO (pB Af mi (ao (pv 1) (ao (pN "tuple" mT) aA)))
  (yO (pc G1 hr D1 (ao (pv 0) (ao (pv 1) aA))) (Ac (pc G2 hr D2 (ao (pv 1) aA)))))),?_⟩
 refine⟨_,rfl,x,_,_,rfl,hx.kind,.inr (.inr (.inl rfl)),_,rfl,?_⟩;refine ite2 (fun c=> ?_) (fun c=> ?_)
 ·cases hx with
  | @tup a xs ds h t=>
   refine⟨_,rfl,_,rfl,n,a,xs,ds,rfl,h,t,fun H1 sm=>⟨_,rfl,?_⟩⟩;refine ite2 (fun c2=> ?_) (fun c2=> ?_)
   ·have ex:=ints_of t c2;refine⟨_,rfl,a,xs,fun k=>decide ((ds.map intD).getD k 0<(ds.map intD).getD (k+1) 0),rfl,sm.tup h,?_,fun H2 Ua=> ?_⟩
    ·rw[ex];exact qC _
    ·have e:rD n (.tuple ds)=(List.range (xs.length-1)).all fun k=>decide ((ds.map intD).getD k 0<(ds.map intD).getD (k+1) 0):=by
      show(ds.all (bR n)&&gQ (ds.map intD))=_;rw[c2,t.len];show gQ (ds.map intD)=_;unfold gQ;rw[aH]
     have:=q H2 (sm.trans Ua);rw[e]at this;exact this
   ·have e:rD n (.tuple ds)=false:=by
     show(ds.all (bR n)&&gQ (ds.map intD))=_;rw[Bool.eq_false_iff.mpr c2];rfl
    have:=q H1 sm;rw[e]at this;exact this
  |_=>simp[xV,uW]at c
 ·have e:rD n d=false:=by
   cases d<;>first |rfl|(exfalso;exact c rfl)
  have:=q H (Same.refl _);rw[e]at this;exact this
noncomputable def DP(K:W.Frag):Sp:=fun vs H Q _=>∃(n:Int) (x:V) (d:θ),vs=[.int n,x]/\DX K H x d/\∀H',Same H H'->Q (.bl (nR n d)) H'
theorem zc{H:Hp}{n:Int}{x:V}{d:θ}(h:DX K H x d)(ht:jd n d=true):∃p,x= .ref p/\SqT K H p (((kids d).map intD).map V.int):=by
 cases h with
 | @tup a xs ds h t=>
  have q:(ds.all (bR n)&&gQ (ds.map intD)&&decide (ds.length=2))=true:=ht;rw[CG,CG]at q;exact⟨a,rfl,by rw[ints_of t q.1.1]at h;exact h⟩
 |_=>simp[jd,rD]at ht
theorem Bb{H:Hp}{n:Int}{xs:List V}{ds:List θ}(t:pW K H xs ds)(ha:ds.all (jd n)=true):∀k,k+1<xs.length->∃x y,xs[k]? =some x/\xs[k+1]? =some y/\
  Q0 K H x y (HT.lexLt ((ds.map fun t=>(kids t).map intD).getD k []) ((ds.map fun t=>(kids t).map intD).getD (k+1) [])):=fun k hk=>by
 have hl:=t.len;have h1:k<xs.length:=by omega
 obtain⟨d1,e1,x1⟩:=t.get (i:=k) (x:=xs[k]) (by simp[h1]);obtain⟨d2,e2,x2⟩:=t.get (i:=k+1) (x:=xs[k+1]) (by simp[hk]);have m1:=pJ.mp ha d1 (pO e1);have m2:=pJ.mp ha d2 (pO e2);obtain⟨p1,q1,s1⟩:=zc x1 m1;obtain⟨p2,q2,s2⟩:=zc x2 m2;refine⟨xs[k],xs[k+1],by simp[h1],by simp[hk],.inr ⟨p1,p2,_,_,q1,q2,s1,s2,?_⟩⟩;have g1:(ds.map fun t=>(kids t).map intD).getD k []=(kids d1).map intD:=by rw[jF,dX,e1];rfl
 have g2:(ds.map fun t=>(kids t).map intD).getD (k+1) []=(kids d2).map intD:=by rw[jF,dX,e2];rfl
 rw[g1,g2]
theorem JZ{f f1 f2:Addr}{fd d1 d2:τ}(F:Fun K "are_ties" "are_ties" jj f fd)(D1:cZ K mg "is_set" oE ["n","thing"] f1 d1)(G1:FnOk P w K mg base CX0 4 f1 d1 ["n","thing"] (MP K))(D2:cZ K mg "is_rising" R0 ["things"] f2 d2)(G2:FnOk P w K mg base CX0 1 f2 d2 ["things"] (jG K))(mi:mg "isinstance"=none)(mT:mg "tuple"=none)(mA:mg "all"=none)(mL:mg "len"=none):FnOk P w K mg base CX0 5 f fd ["n","thing"] (DP K):=by
 refine F.eF ["n","thing"] fun cdv A outer s H vs Q E hr h=> ?_;obtain⟨n,x,d,rfl,hx,q⟩:=h;refine bH ?_;intro Y;refine⟨_,bf (pF (vX (vY (pB Af mi (ao (pv 1) (ao (pN "tuple" mT) aA))))) (bN (cT pe_bl)) pH) (bN (cT (yO (pB (fj rfl) mA (ao (pK ["tie"] ["n"] [0] (Jg (pv 1)) (pG 0) tH (yO (pc G1 hr D1 (ao (pv 1) (ao (pv 0) aA))) (Ac (Je op_eq (pB (Ce K) mL (ao (pv 0) aA)) aY)))) aA))
  (Ac (pc G2 hr D2 (ao (pv 1) aA)))))),?_⟩
 refine gn ?_;intro c2;refine⟨_,rfl,x,_,_,rfl,hx.kind,.inr (.inr (.inl rfl)),_,rfl,?_⟩;refine ite2 (fun c=> ?_) (fun c=> ?_)
 ·have e:nR n d=false:=by
   cases d<;>first |rfl|(exfalso;simp[xV,uW]at c;done)
  have:=q H (Same.refl _);rw[e]at this;exact this
 ·cases hx with
  | @tup a xs ds h t=>
   refine⟨_,rfl,a,xs,rfl,h,fun hz=> ?_⟩;have hl:=t.len;let vP:Nat->List V->St->Hp->Prop:=fun i acc σ H'=>acc=((ds.take i).map (jd n)).map V.bl/\Same H H'/\∃o,σ=[o,some (.int n)];refine Lr (xs:=xs) vP ⟨rfl,Same.refl _,_,rfl⟩ (fun i acc σ H' _ p=>p.2.1.tup h) (fun i acc σ H' hi p=> ?_) hz (fun i x acc σ H' hx p=> ?_) (fun acc σ H' p=> ?_)
   ·rw[p.1];simp;omega
   ·obtain⟨rfl,sm,o,rfl⟩:=p;obtain⟨d,e1,e2⟩:=t.get hx;refine⟨_,rfl,_,rfl,n,x,d,rfl,DX.same sm e2,fun H1 Zt=>⟨_,rfl,?_⟩⟩;have ea:∀b,b=jd n d->((ds.take i).map (jd n)).map V.bl++[V.bl b]=((ds.take (i+1)).map (jd n)).map V.bl:=fun b hb=>by
     rw[IW,e1,hb];simp
    refine ite2 (fun c2=> ?_) (fun c2=> ?_)
    ·cases e2 with
     | @tup a2 xs2 ds2 h2 t2=>
      refine⟨_,rfl,a2,xs2,rfl,.inr (Zt.tup (sm.tup h2)),fun hz2=>⟨rfl,ea _ ?_,sm.trans Zt,_,rfl⟩⟩;show decide (V.int (xs2.length:Int)=V.int 2)=(rD n (.tuple ds2)&&decide (ds2.length=2));rw[c2,t2.len];by_cases e3:ds2.length=2
      ·rw[e3];rfl
      ·rw[gB e3,gB (by intro z;injection z with z;exact e3 (by omega))];rfl
     |_=>simp[rD]at c2
    ·refine⟨ea _ ?_,sm.trans Zt,_,rfl⟩;show false=(rD n d&&decide ((kids d).length=2));rw[Bool.eq_false_iff.mpr c2];rfl
   ·intro p1 hp1;obtain⟨rfl,sm,_⟩:=p;have sm':Same H (upd H' p1 (.lst (((ds.take xs.length).map (jd n)).map V.bl))):=sm.trans (bO hp1 _);refine⟨p1,(ds.map (jd n)),rfl,SqL.of (by rw[aR,hl,IK]),_,rfl,?_⟩;rw[pq];refine ite2 (fun c2=> ?_) (fun c2=> ?_)
    ·refine⟨_,rfl,a,xs,fun k=>HT.lexLt ((ds.map fun t=>(kids t).map intD).getD k []) ((ds.map fun t=>(kids t).map intD).getD (k+1) []),rfl,sm'.tup h,?_,fun H2 Ua=> ?_⟩
     ·exact Bb (pW.same sm' t) c2
     ·have e:nR n (.tuple ds)=(List.range (xs.length-1)).all fun k=>HT.lexLt ((ds.map fun t=>(kids t).map intD).getD k []) ((ds.map fun t=>(kids t).map intD).getD (k+1) []):=by
       show(ds.all (jd n)&&gP (ds.map fun t=>(kids t).map intD))=_;rw[c2,hl];show gP (ds.map fun t=>(kids t).map intD)=_;unfold gP;rw[aH]
      have:=q H2 (sm'.trans Ua);rw[e]at this;exact this
    ·have e:nR n (.tuple ds)=false:=by
      show(ds.all (jd n)&&gP (ds.map fun t=>(kids t).map intD))=_;rw[Bool.eq_false_iff.mpr c2];rfl
     have:=q _ sm';rw[e]at this;exact this
  |_=>exfalso;exact c rfl
end
end Hs
namespace wk
open PySem L2
noncomputable def pairD(p:Int×Int):θ:= .tuple [.int p.1,.int p.2]
noncomputable def wG(n:Int)(ts:L0):θ:= .tuple [.int n,.tuple (ts.map pairD)]
noncomputable def yF(K:W.Frag)(H:Hp)(a:Addr)(n:Int)(ts:L0):Prop:=∃t rs,SqT K H a [.int n,.ref t]/\SqT K H t rs/\dg K H rs (ts.map pairD)
theorem yF.dv{K:W.Frag}{H:Hp}{a:Addr}{n:Int}{ts:L0}(h:yF K H a n ts):DV K H (.ref a) (wG n ts):=by
 obtain⟨t,rs,h1,h2,h3⟩:=h;exact .tup h1 (.cons (.int n) (.cons (.tup h2 h3) .nil))
theorem yF.same{K:W.Frag}{H H':Hp}{a:Addr}{n:Int}{ts:L0}(h:yF K H a n ts)(e:Same H H'):yF K H' a n ts:=by
 obtain⟨t,rs,h1,h2,h3⟩:=h;exact⟨t,rs,e.tup h1,e.tup h2,dg.same e h3⟩
noncomputable def xX(ts:L0)(i j:Int):Bool:=decide ((if j<i then j else i,if j>i then j else i)∈ts)
theorem vB(p q:Int×Int):PyData.eqv (pairD p) (pairD q)=decide (p=q):=by
 obtain⟨a,b⟩:=p;obtain⟨c,d⟩:=q;show((a==c)&&((b==d)&&true))=_;rw[wI];simp
theorem qL:∀ts:L0,PyData.canLayAll0 (ts.map pairD)=true
 |[]=>rfl
 |p::ts=>by
  show(PyData.canLay0 (pairD p)&&PyData.canLayAll0 (ts.map pairD))=true;rw[qL ts];rfl
theorem HS(ts:L0)(q:Int×Int):((ts.map pairD).any fun d=>PyData.eqv d (pairD q))=decide (q∈ts):=by
 rw[List.any_map,wI,Q9];constructor
 ·rintro⟨p,hp,h⟩;have h':PyData.eqv (pairD p) (pairD q)=true:=h;rw[vB]at h';have e:p=q:=kJ h';subst e;exact cU hp
 ·intro h;refine⟨q,kJ h,?_⟩;show PyData.eqv (pairD q) (pairD q)=true;rw[vB];exact cU rfl
end wk
namespace Hs
open PySem L2 wk
section
variable{P:ρ}{w:υ}{K:W.Frag}{mg:L4}{base:Heap}
noncomputable def Mz(K:W.Frag):Sp:=fun vs H Q _=>∃(x:V) (d:θ),vs=[x]/\DX K H x d/\∀H',Same H H'->Q (.bl (qZ d)) H'
theorem Py{f f1 f2:Addr}{fd d1 d2:τ}{tk:Tok}(F:Fun K "is_web" "is_web" oA f fd)(D1:cZ K mg "is_whole" Oc ["thing"] f1 d1)(G1:FnOk P w K mg base CX0 1 f1 d1 ["thing"] (iB K))(D2:cZ K mg "are_ties" jj ["n","thing"] f2 d2)(G2:FnOk P w K mg base CX0 5 f2 d2 ["n","thing"] (DP K))(mi:mg "isinstance"=none)(mT:mg "tuple"=none)(mL:mg "len"=none)(mM:mg "MOST_PLACES"=some (.int 10 tk)):FnOk P w K mg base CX0 6 f fd ["thing"] (Mz K):=by
 refine F.eF ["thing","n"] fun cdv A outer s H vs Q E hr h=> ?_;obtain⟨x,d,rfl,hx,q⟩:=h;refine bH ?_;intro Y;refine⟨_,bf (pF (PW.pt (pw_or (vX (vY (pB Af mi (ao (pv 0) (ao (pN "tuple" mT) aA)))))
   (pw_or1 (gF op_ne (pB v7 mL (ao (pv 0) aA)) aY)))) (bN (cT pe_bl)) pH) (bf (pS 1 (cM nH (pv 0) aY)) (bN (cT (yO (pc G1 hr D1 (ao (pv 1) aA)) (yO (pe_chain op_le op_le aY (pv 1) (pe_glob rfl mM (v:= .int 10) ⟨_,rfl⟩))
   (Ac (pc G2 hr D2 (ao (pv 1) (ao (cM nH (pv 0) aY) aA))))))))),?_⟩
 refine qM ?_;intro c3 c2;refine⟨_,rfl,x,_,_,rfl,hx.kind,.inr (.inr (.inl rfl)),_,rfl,?_⟩;refine ite2 (fun c=> ?_) (fun c=> ?_)
 ·have e:qZ d=false:=by
   cases d<;>first |rfl|(exfalso;simp[xV,uW]at c;done)
  have:=q H (Same.refl _);rw[e]at this;exact this
 ·cases hx with
  | @tup a xs ds h t=>
   have hl:=t.len;refine⟨_,rfl,a,xs,rfl,.inr h,fun hz=>⟨rfl,_,rfl,?_⟩⟩;refine ite2 (fun c2=> ?_) (fun c2=> ?_)
   ·have e:qZ (.tuple ds)=false:=by
     match ds,hl with
     |[],_=>rfl
     |[_],_=>rfl
     |[_,_],hl=>
      exfalso;have e2:(!decide (V.int (xs.length:Int)=V.int 2))=true:=c2;rw[hl]at e2;simp at e2
     |_::_::_::_,_=>rfl
    have:=q H (Same.refl _);rw[e]at this;exact this
   ·have e2:xs.length=2:=by
     have e2:¬(!decide (V.int (xs.length:Int)=V.int 2))=true:=c2;simp at e2;omega
    cases t with
    |nil=>simp at e2
    |cons h0 t0=>
     cases t0 with
     |nil=>simp at e2
     | @cons x1 RT xs1 ds1 h1 t1=>
      cases t1 with
      |cons _ _=>simp at e2
      |nil=>
       rename_i x0 RV;refine⟨_,rfl,a,_,_,x0,rfl,rfl,h,by rfl,?_⟩;refine⟨_,rfl,x0,RV,rfl,h0,_,rfl,?_⟩;refine ite2 (fun c3=> ?_) (fun c3=> ?_)
       ·cases h0 with
        |int n=>
         refine⟨_,rfl,_,_,rfl,rfl,_,rfl,?_⟩;have fin:∀b,b=qZ (.tuple [.int n,RT])->∀H',Same H H'->Q (.bl b) H':=fun b hb H' sm=>by rw[hb];exact q H' sm
         have wd:qZ (.tuple [.int n,RT])=((decide (0<=n)&&decide (n<=10))&&nR n RT):=rfl;refine ite2 (fun c4=> ?_) (fun c4=> ?_)
         ·refine⟨_,_,rfl,rfl,_,rfl,?_⟩;refine ite2 (fun c5=> ?_) (fun c5=> ?_)
          ·refine⟨_,rfl,_,rfl,a,_,_,x1,rfl,rfl,h,by rfl,n,x1,RT,rfl,h1,fun H' sm=>fin _ ?_ H' sm⟩;rw[wd,c4,c5];rfl
          ·refine fin _ ?_ H (Same.refl _);rw[wd,Bool.eq_false_iff.mpr c5,Yo];rfl
         ·refine⟨_,rfl,?_⟩;refine iteF (fin _ ?_ H (Same.refl _));rw[wd,Bool.eq_false_iff.mpr c4];rfl
        |_=>simp[nP]at c3
       ·have e:qZ (.tuple [RV,RT])=false:=by
         show(nP RV&&(decide (0<=intD RV)&&decide (intD RV<=10))&&nR (intD RV) RT)=false;rw[Bool.eq_false_iff.mpr c3];rfl
        have:=q H (Same.refl _);rw[e]at this;exact this
  |_=>exfalso;exact c rfl
noncomputable def dI(K:W.Frag):Sp:=fun vs H Q _=>∃(x:V) (d:θ),vs=[x]/\DX K H x d/\qZ d=true/\∀H',Same H H'->Q .non H'
theorem xJ{f f1:Addr}{fd d1:τ}(F:Fun K "need_web" "need_web" Od f fd)(D1:cZ K mg "is_web" oA ["thing"] f1 d1)(G1:FnOk P w K mg base CX0 6 f1 d1 ["thing"] (Mz K)):FnOk P w K mg base CX0 7 f fd ["thing"] (dI K):=by
 refine F.eF ["thing"] fun cdv A outer s H vs Q E hr h=> ?_;obtain⟨x,d,rfl,hx,hw,q⟩:=h;refine⟨_,bN (pF (vX (vY (pc G1 hr D1 (ao (pv 0) aA)))) pss_never pH),?_⟩;refine⟨_,rfl,x,d,rfl,hx,fun H' sm=>⟨_,rfl,?_⟩⟩;rw[hw];exact iteF (q H' sm)
noncomputable def M7(K:W.Frag):Sp:=fun vs H Q _=>∃(a:Addr) (n i j:Int) (ts:L0),vs=[.ref a,.int i,.int j]/\yF K H a n ts/\∀H',Same H H'->Q (.bl (xX ts i j)) H'
theorem Qi{f:Addr}{fd:τ}(F:Fun K "has_tie" "has_tie" lA f fd)(mi:mg "min"=none)(ma:mg "max"=none):FnOk P w K mg base CX0 1 f fd ["web","one","other"] (M7 K):=by
 refine F.eF ["web","one","other"] fun cdv A outer s H vs Q E hr h=> ?_;obtain⟨a,n,i,j,ts,rfl,hW,q⟩:=h;refine⟨_,bN (cT (Je (xH hr.units) (tV (ao (pB (call_min2 rfl) mi (ao (pv 1) (ao (pv 2) aA))) (ao (pB (call_max2 rfl) ma (ao (pv 1) (ao (pv 2) aA))) aA)))
  (cM nH (pv 0) aY) (by with_unfolding_all rfl))),?_⟩
 refine⟨_,rfl,_,rfl,_,_,rfl,_,rfl,_,rfl,_,_,rfl,(by show 2<=sizeLine;decide),fun p hp=> ?_⟩;have sm:=bO hp (.tup [.int (if j<i then j else i),.int (if j>i then j else i)]);obtain⟨t,rs,h1,h2,h3⟩:=hW.same sm;refine⟨_,rfl,a,_,_,.ref t,rfl,rfl,h1,rfl,t,rs,_,pairD (if j<i then j else i,if j>i then j else i),rfl,.inr h2,h3,.tup (SqT.of aR) (.cons (.int _) (.cons (.int _) .nil)),qL ts,rfl,(by show max 0 (max 0 0)+1<=60;decide),?_⟩;rw[HS];exact q _ sm
end
noncomputable def N6(n:Int)(ts:L0):Prop:=qZ (wG n ts)=true
end Hs
namespace L2
open PySem
noncomputable def aV(t:Addr)(H H':Hp):Prop:=∀b o,b≠t->H b=some o->H' b=some o
theorem aV.refl(t:Addr)(H:Hp):aV t H H:=fun _ _ _ h=>h
theorem aV.trans{t:Addr}{H H1 H2:Hp}(a:aV t H H1)(b:aV t H1 H2):aV t H H2:=fun c o n h=>b c o n (a c o n h)
theorem Same.x{H H':Hp}(h:Same H H')(t:Addr):aV t H H':=fun b o _ e=>h b o e
theorem aV.upd{t:Addr}{H H':Hp}{o:HO}(h:aV t H H'):aV t H (upd H' t o):=fun b u n e=>by rw[cG n];exact h b u n e
noncomputable def sX(K:W.Frag)(H:Hp)(iC:Addr)(ns:List Int):Prop:=(∃o,H iC=some (.frz o (.lst (ns.map V.int))))\/
 ∃(o:Obj) (its:Array ζ) (n:Nat),K.lookup iC=some o/\o.cls= .type "list"/\o.dict=none/\o.data= .seq its n/\its.size<=sizeLine/\Vals (ns.map V.int) its.toList
theorem sX.sq{K:W.Frag}{H:Hp}{iC:Addr}{ns:List Int}(h:sX K H iC ns):SqL K H iC (ns.map V.int):=by
 rcases h with⟨o,h⟩|h
 ·exact .inl (.inr ⟨o,h⟩)
 ·exact .inr h
theorem sX.same{K:W.Frag}{H H':Hp}{iC:Addr}{ns:List Int}(h:sX K H iC ns)(e:Same H H'):sX K H' iC ns:=by
 rcases h with⟨o,h⟩|h
 ·exact .inl ⟨o,e _ _ h⟩
 ·exact .inr h
theorem Ip:∀ns:List Int,PyData.canLayAll0 (ns.map PyData.int)=true
 |[]=>rfl
 |n::ns=>by
  show(true&&PyData.canLayAll0 (ns.map PyData.int))=true;rw[Ip ns];rfl
theorem uN{H:Hp}{a b:Addr}{o:HO}(h:H a=some o)(n:H b=none):b≠a:=fun e=>by rw[e,h]at n;cases n
end L2
namespace Hs
open PySem L2 wk
section
variable{P:ρ}{w:υ}{K:W.Frag}{mg:L4}{base:Heap}
theorem xO(a:Int){b:Int}(h:0<b):0<=a %b:=Int.emod_nonneg _ (by omega)
theorem mod_lt(a:Int){b:Int}(h:0<b):a %b<b:=Int.emod_lt_of_pos _ h
theorem Lj{ns:List Int}{k:Int}(h0:0<=k)(h1:k<(ns.length:Int)):∃v:Int,atI (ns.map V.int) k=some (.int v):=by
 have hk:k.toNat<ns.length:=by omega
 have ek:((k.toNat:Nat):Int)=k:=by omega
 have q:atI (ns.map V.int) ((k.toNat:Nat):Int)=some (.int ns[k.toNat]):=atI_nat (by rw[dX,dJ hk];rfl);rw[ek]at q;exact⟨_,q⟩
noncomputable def wO(K:W.Frag):Sp:=fun vs H Q _=>∃(iC:Addr) (ns:List Int) (k:Int),vs=[.ref iC,.int k]/\sX K H iC ns/\0<=k/\∀c:Int,Q (.int c) H
theorem J7{f:Addr}{fd:τ}(F:Fun K "_law_acell" "_law_acell" V7 f fd)(mL:mg "len"=none):FnOk P w K mg base CX0 1 f fd ["script","k"] (wO K):=by
 refine F.eF ["script","k"] fun cdv A outer s H vs Q E hr h=> ?_;obtain⟨iC,ns,k,rfl,hS,hk,q⟩:=h;refine bH ?_;intro Y;refine⟨_,bf (pF (gF op_lt (pv 1) (pB v7 mL (ao (pv 0) aA))) (bN (cT (cM lN (pv 0) (pv 1)))) pH) (bN (cT aY)),?_⟩;refine gn ?_;intro c2;refine⟨_,rfl,_,rfl,iC,_,rfl,.inl hS.sq,fun hz=>⟨_,_,rfl,rfl,_,rfl,?_⟩⟩;refine ite2 (fun c=> ?_) (fun c=> ?_)
 ·have c3:k<((ns.map V.int).length:Int):=kJ c;rw[aH]at c3;obtain⟨v,hx⟩:=Lj hk c3;exact⟨_,rfl,_,rfl,iC,_,_,_,rfl,rfl,hS.sq,hx,q v⟩
 ·exact q 0
noncomputable def DQ(K:W.Frag):Sp:=fun vs H Q _=>∃(iC:Addr) (ns:List Int) (k:Int),vs=[.ref iC,.int k]/\sX K H iC ns/\0<=k/\∀p H' t,Same H H'->H' p=some (.lst [.int t])->H p=none->Q (.ref p) H'
theorem J0{f f1:Addr}{fd d1:τ}(F:Fun K "_law_atape" "_law_atape" gM f fd)(D1:cZ K mg "_law_acell" V7 ["script","k"] f1 d1)(G1:FnOk P w K mg base CX0 1 f1 d1 ["script","k"] (wO K))(mR:mg "range"=none):
  FnOk P w K mg base CX0 2 f fd ["script","k"] (DQ K):=by
 refine F.eF ["script","k","cell","p","number","last","turn"] fun cdv A outer s H vs Q E hr h=> ?_;obtain⟨iC,ns,k,rfl,hS,hk,q⟩:=h;refine bH ?_;intro Y;refine⟨_,bf (pS 2 (pc G1 hr D1 (ao (pv 0) (ao (pv 1) aA)))) (bf (pF (gF op_eq (cH op_mod (pv 2) aY) aY) (bN (cT (pe_lst (ao (cH op_fdiv (pv 2) aY) aA)))) pH) (bf (pS 3 aY) (bf (pS 4 aY) (bf (pS 5 (cH op_mod (cH vW (cH vW (cH yN (cH op_mod (pv 2) (pv 3)) aY) (cH yN aY (pv 1))) aY) (pv 3))) (bf (Ad v9 rfl (CW rfl mR (ao aY aA)) (pG 6) (bf (pS 4 (cH vW (cH yN (pv 4) (pv 3)) (pv 5))) (bN (pS 5 (cH op_mod (cH vW (cH vW (cH yN (pv 5) (pv 5)) (cH yN aY (pv 1))) (pv 6)) (pv 3)))))) (bN (cT (pe_lst (ao (pv 4) aA))))))))),?_⟩;refine Nu ?_;intro c7 c6 c5 c4 c3 c2;refine⟨_,rfl,_,rfl,iC,ns,k,rfl,hS,hk,fun c=> ?_⟩;refine⟨_,rfl,_,_,rfl,rfl,(by show(0:Int)<2;decide),rfl,_,rfl,?_⟩;refine ite2 (fun c1=> ?_) (fun c1=> ?_)
 ·exact⟨_,rfl,_,_,rfl,rfl,⟨by decide,by decide⟩,(by show 1<=sizeLine;decide),fun p hp=>q p _ _ (bO hp _) aR hp⟩
 ·refine⟨_,rfl,_,rfl,_,_,rfl,rfl,(by show(0:Int)<2305843009213693951;decide),_,_,rfl,rfl,.inr ⟨by decide,by decide⟩,_,rfl,_,_,rfl,rfl,.inl ⟨by decide,by decide⟩,_,_,rfl,rfl,_,_,rfl,rfl,_,rfl,_,_,rfl,rfl,(by show(0:Int)<2305843009213693951;decide),?_⟩;generalize hfirst:((fun i j=>V.int (i %j)) _ _:V)=vf;obtain⟨a1,e1,a2,a3⟩:∃a:Int,vf= .int a/\0<=a/\a<2305843009213693951:=⟨_,hfirst.symm,xO _ (by decide),mod_lt _ (by decide)⟩;rw[e1];refine⟨9,rfl,by decide,by decide,?_⟩;let jz:Nat->St->Hp->Prop:=fun i σ H'=>H'=H/\∃(b l:Int) (o:Option V),σ=[some (.ref iC),some (.int k),some (.int c),some (.int 2305843009213693951),some (.int b),some (.int l),o]/\0<=l/\l<2305843009213693951;refine Ji (n:=9) jz ⟨rfl,_,_,_,rfl,a2,a3⟩ (fun i σ H' hi p=> ?_) (fun σ H' p=> ?_)
  ·obtain⟨rfl,b,l,o,rfl,h0,h1⟩:=p;refine⟨_,rfl,_,rfl,_,_,rfl,rfl,.inr ⟨by decide,by decide⟩,_,rfl,_,_,rfl,rfl,?_⟩;refine⟨_,rfl,_,rfl,_,_,rfl,rfl,.inl ⟨by omega,by omega⟩,_,rfl,_,_,rfl,rfl,.inl ⟨by decide,by decide⟩,_,_,rfl,rfl,_,rfl,_,_,rfl,rfl,_,rfl,_,_,rfl,rfl,(by show(0:Int)<2305843009213693951;decide),?_⟩;exact⟨rfl,_,_,_,rfl,xO _ (by decide),mod_lt _ (by decide)⟩
  ·obtain⟨rfl,b,l,o,rfl,h0,h1⟩:=p;exact⟨_,rfl,(by show 1<=sizeLine;decide),fun p hp=>q p _ _ (bO hp _) aR hp⟩
noncomputable def Ec(K:W.Frag):Sp:=fun vs H Q _=>∃(tp:Addr) (t m:Int),vs=[.ref tp,.int m]/\H tp=some (.lst [.int t])/\0<m/\m<1000000000000000000000000000000/\∀r t':Int,0<=r->r<m->Q (.int r) (upd H tp (.lst [.int t']))
theorem Qj{f:Addr}{fd:τ}(F:Fun K "_law_adigit" "_law_adigit" V9 f fd):FnOk P w K mg base CX0 1 f fd ["tape","many"] (Ec K):=by
 refine F.eF ["tape","many","found"] fun cdv A outer s H vs Q E hr h=> ?_;obtain⟨tp,t,m,rfl,hH,hm0,hm1,q⟩:=h;refine bH ?_;intro Y;refine⟨_,bf (pS 2 (cH op_mod (cM lN (pv 0) aY) (pv 1))) (bf (ps_asg (cH gW (cM lN (pv 0) aY) (pv 1)) (pg_sub (pv 0) aY set_list)) (bN (cT (pv 2)))),?_⟩;refine qM ?_;intro c3 c2;refine⟨_,rfl,tp,_,_,.int t,rfl,rfl,SqL.of hH,rfl,_,rfl,_,_,rfl,rfl,hm0,?_⟩;refine⟨_,rfl,tp,_,_,.int t,rfl,rfl,SqL.of hH,rfl,_,rfl,_,_,rfl,rfl,⟨hm0,hm1⟩,_,rfl,tp,_,_,0,rfl,rfl,hH,rfl,?_⟩;exact⟨_,rfl,q _ _ (xO _ hm0) (mod_lt _ hm0)⟩
noncomputable def T8(K:W.Frag):Sp:=fun vs H Q _=>∃(i:Int),vs=[.int i]/\Q (.bl true) H
theorem Ut{f:Addr}{fd:τ}(F:Fun K "_law_awhole" "_law_awhole" fH f fd)(mi:mg "isinstance"=none)(mI:mg "int"=none)(mB:mg "bool"=none):FnOk P w K mg base CX0 1 f fd ["found"] (T8 K):=by
 refine F.eF ["found"] fun cdv A outer s H vs Q E hr h=> ?_;obtain⟨i,rfl,q⟩:=h;refine⟨_,bN (cT (yO (pB Af mi (ao (pv 0) (ao (pN "int" mI) aA)))
  (Ac (pe_not (pB Af mi (ao (pv 0) (ao (pN "bool" mB) aA))))))),?_⟩
 refine⟨_,rfl,.int i,"int",_,rfl,rfl,.inl rfl,_,rfl,?_⟩;refine iteT ?_;exact⟨_,rfl,.int i,"int",_,rfl,rfl,.inr (.inl rfl),_,rfl,q⟩
end
end Hs
namespace L2
open PySem
theorem dg.append{K:W.Frag}{H:Hp}{xs ys:List V}{ds es:List θ}(h:dg K H xs ds)(h':dg K H ys es):dg K H (xs++ys) (ds++es):=
 dg.rec (motive_1:=fun _ _ _=>True) (motive_2:=fun xs ds _=>dg K H (xs++ys) (ds++es)) trivial (fun _=>trivial) (fun _=>trivial) (fun _=>trivial) (fun _ _ _=>trivial) (fun _ _ _=>trivial) (fun _=>trivial) (fun _ _=>trivial) h' (fun h _ _ t=> .cons h t) h
theorem aV.tup{K:W.Frag}{t:Addr}{H H':Hp}{a:Addr}{xs zs:List V}(e:aV t H H')(n:H t=some (.lst zs))(h:SqT K H a xs):SqT K H' a xs:=by
 rcases h with(h|⟨o,h⟩)|h
 ·exact .inl (.inl (e _ _ (ne_of h n (by intro z;cases z)) h))
 ·exact .inl (.inr ⟨o,e _ _ (ne_of h n (by intro z;cases z)) h⟩)
 ·exact .inr h
end L2
namespace wk
open PySem L2
theorem lZ{K:W.Frag}{t:Addr}{H H':Hp}{zs:List V}(e:aV t H H')(n:H t=some (.lst zs)){rs:List V}{ps:L0}(h:dg K H rs (ps.map pairD)):dg K H' rs (ps.map pairD):=by
 induction ps generalizing rs with
 |nil=>cases h;exact .nil
 |cons p ps ih=>
  cases h with
  |cons h tl=>
   refine .cons ?_ (ih tl);cases h with
   |tup h hd=>
    cases hd with
    |cons a1 t1=>
     cases a1;cases t1 with
     |cons a2 t2=>
      cases a2;cases t2;exact .tup (e.tup n h) (.cons (.int _) (.cons (.int _) .nil))
theorem iI{α:Type} [DecidableEq α]:∀{l m:List α},l.Nodup->(∀a∈l,a∈m)->l.length<=m.length
 |[],m,_,_=>cg _
 |a::l,m,nd,h=>by
  have ha:=h a gG;have nd':=Cr.mp nd;have q:∀b∈l,b∈m.erase a:=fun b hb=>by
   have hne:b≠a:=fun e=>nd'.1 (e▸hb);exact(S6 hne).mpr (h b (eV _ hb))
  have:=iI nd'.2 q;have e:=Wo ha;have:0<m.length:=Rj ha;simp only[nO];omega
structure dG(n:Int)(ps:L0):Prop where
 nd:ps.Nodup
 lt:∀p∈ps,0<=p.1/\p.1<p.2/\p.2<n
noncomputable def V3(n:Nat):L0:=((List.range n).map fun(j:Nat)=>(List.range j).map fun(i:Nat)=>((i:Int),(j:Int))).flatten
theorem pairs_len{n:Int}{ps:L0}(h:dG n ps)(hn:n<=10):ps.length<=45:=by
 have q:=iI (m:=V3 10) h.nd fun p hp=>by
  obtain⟨h0,h1,h2⟩:=h.lt p hp;obtain⟨a,b⟩:=p;dsimp only at h0 h1 h2;refine List.mem_flatten.mpr ⟨(List.range b.toNat).map fun(i:Nat)=>((i:Int),((b.toNat:Nat):Int)),kW.mpr ⟨b.toNat,nM.mpr (by omega),rfl⟩,kW.mpr ⟨a.toNat,nM.mpr (by omega),?_⟩⟩;have e1:((a.toNat:Nat):Int)=a:=by omega
  have e2:((b.toNat:Nat):Int)=b:=by omega
  rw[e1,e2]
 have e:(V3 10).length=45:=by decide
 omega
noncomputable def pl(p:Int×Int):List Int:=[p.1,p.2]
theorem Pr{p q:Int×Int}(h:pl p=pl q):p=q:=by
 obtain⟨a,b⟩:=p;obtain⟨c,d⟩:=q;unfold pl at h;simp at h;rw[h.1,h.2]
theorem Qp{a b:List Int}(h:HT.lexLt b a=false)(ne:a≠b):HT.lexLt a b=true:=by
 rw[HT.cQ]at h⊢;have h1:¬b<a:=Mq h;have h2:a<=b:=List.not_lt.mp h1;refine cU ?_;rcases Classical.em (a<b)with h3|h3
 ·exact h3
 ·exact absurd (List.le_antisymm h2 (List.not_lt.mp h3)) ne
theorem Dy{n:Int}{p:Int×Int}(h0:0<=p.1)(h1:p.1<p.2)(h2:p.2<n):jd n (pairD p)=true:=by
 show((bR n (.int p.1)&&(bR n (.int p.2)&&true))&&gQ [p.1,p.2]&&decide (([PyData.int p.1,PyData.int p.2]).length=2))=true;have e1:bR n (.int p.1)=true:=by
  show(decide (0<=p.1)&&decide (p.1<n))=true;rw[cU h0,cU (by omega)];rfl
 have e2:bR n (.int p.2)=true:=by
  show(decide (0<=p.2)&&decide (p.2<n))=true;rw[cU (by omega),cU h2];rfl
 have e3:gQ [p.1,p.2]=true:=by
  show(decide (p.1<p.2)&&true)=true;rw[cU h1];rfl
 rw[e1,e2,e3];rfl
theorem Oo{n:Int}{ts:L0}(hn0:0<=n)(hn1:n<=10)(h:dG n ts)(hs:ts.Pairwise fun p q=>HT.lexLt (pl q) (pl p)=false):qZ (wG n ts)=true:=by
 show(true&&(decide (0<=n)&&decide (n<=10))&&((ts.map pairD).all (jd n)&&gP ((ts.map pairD).map fun t=>(kids t).map intD)))=true;have e1:(ts.map pairD).all (jd n)=true:=by
  rw[Wy,pJ];intro p hp;obtain⟨h0,h1,h2⟩:=h.lt p hp;exact Dy h0 h1 h2
 have e2:(ts.map pairD).map (fun t=>(kids t).map intD)=ts.map pl:=by rw[Yk];rfl
 have e3:gP (ts.map pl)=true:=by
  unfold gP;rw[pJ];intro k hk;have hk':k<ts.length-1:=by simpa using hk
  have g1:(ts.map pl).getD k []=pl ts[k]:=by rw[jF,dX,dJ (by omega)];rfl
  have g2:(ts.map pl).getD (k+1) []=pl ts[k+1]:=by rw[jF,dX,dJ (by omega)];rfl
  rw[g1,g2];refine Qp (Jq.mp hs k (k+1) (by omega) (by omega) (by omega)) fun e=> ?_;have:=(List.getElem_inj h.nd).mp (Pr e);omega
 rw[cU hn0,cU hn1,e1,e2,e3];rfl
noncomputable def bJ(ts:L0)(i j:Int):Bool:=decide ((i,j)∈ts)||decide ((j,i)∈ts)
theorem tied_eq{n:Int}{ts:L0}(h:dG n ts)(i j:Int):xX ts i j=bJ ts i j:=by
 unfold xX bJ;have no:∀{a b:Int},b<=a->decide ((a,b)∈ts)=false:=fun{a b} hab=>gB fun hm=>by
  have:=(h.lt _ hm).2.1;dsimp only at this;omega
 rcases Int.lt_trichotomy i j with c|c|c
 ·rw[aj (show¬j<i by omega),ak (show j>i by omega),no (show i<=j by omega),Bool.or_false]
 ·subst c;rw[aj (show¬i<i by omega),Bool.or_self]
  try rw[aj (show¬i>i by omega)]
 ·rw[ak (show j<i by omega),aj (show¬j>i by omega),no (show j<=i by omega),Bool.false_or]
end wk
namespace Hs
open PySem L2 wk
noncomputable def pR(p q:Int×Int):Prop:=p.1<q.1\/(p.1=q.1/\p.2<q.2)
theorem pR.trans{p q r:Int×Int}(a:pR p q)(b:pR q r):pR p r:=by
 unfold pR at *;omega
theorem pR.Z6{p:Int×Int}(a:pR p p):False:=by
 unfold pR at a;omega
theorem Km{p q:Int×Int}(h:HT.lexLt (pl p) (pl q)=true):pR p q:=by
 rw[HT.cQ]at h;have:=kJ h;unfold pl at this;rw[Wj]at this;rcases this with a|⟨a,b⟩
 ·exact .inl a
 ·rw[Wj]at b;rcases b with b|⟨_,b⟩
  ·exact .inr ⟨a,b⟩
  ·exact absurd b (by simp)
noncomputable def row(so:Int->Int->Bool)(i:Int)(k:Nat):L0:=((List.range k).map fun(t:Nat)=>(i,i+1+(t:Int))).filter fun p=>so p.1 p.2
noncomputable def rows(so:Int->Int->Bool)(m:Int)(i:Nat):L0:=((List.range i).map fun(t:Nat)=>row so (0+(t:Int)) (m-(0+(t:Int)+1)).toNat).flatten
theorem uE(so:Int->Int->Bool)(i:Int)(k:Nat):row so i (k+1)=row so i k++(if so i (i+1+(k:Int))=true then[(i,i+1+(k:Int))]else[]):=by
 unfold row;rw[tM,dB,Cy];congr 1;show List.filter _ [(i,i+1+(k:Int))]=_;rw[IV];rfl
theorem iD(so:Int->Int->Bool)(m:Int)(i:Nat):rows so m (i+1)=rows so m i++row so (0+(i:Int)) (m-(0+(i:Int)+1)).toNat:=by
 unfold rows;rw[tM,dB,List.flatten_append];simp
theorem nA{so:Int->Int->Bool}{i:Int}{k:Nat}{p:Int×Int}:p∈row so i k↔p.1=i/\i<p.2/\p.2<i+1+(k:Int)/\so p.1 p.2=true:=by
 unfold row;rw[iM,kW];constructor
 ·rintro⟨⟨t,ht,rfl⟩,h⟩;rw[nM]at ht;exact⟨rfl,by show i<i+1+(t:Int);omega,by show i+1+(t:Int)<_;omega,h⟩
 ·rintro⟨h1,h2,h3,h4⟩;refine⟨⟨(p.2-i-1).toNat,by rw[nM];omega,?_⟩,h4⟩;apply Prod.ext
  ·exact h1.symm
  ·show i+1+(((p.2-i-1).toNat:Nat):Int)=p.2;omega
theorem gY{so:Int->Int->Bool}{m:Int}:∀{i:Nat} {p:Int×Int},p∈rows so m i↔0<=p.1/\p.1<(i:Int)/\p.1<p.2/\p.2<m/\so p.1 p.2=true
 |0,p=>by
  constructor
  ·intro h;simp[rows]at h
  ·intro h;omega
 |i+1,p=>by
  rw[iD,pI,gY (i:=i),nA];constructor
  ·rintro(h|h)
   ·exact⟨h.1,by omega,h.2.2⟩
   ·exact⟨by omega,by omega,by omega,by omega,h.2.2.2⟩
  ·rintro⟨h1,h2,h3,h4,h5⟩;by_cases e:p.1<(i:Int)
   ·exact .inl ⟨h1,e,h3,h4,h5⟩
   ·exact .inr ⟨by omega,by omega,by omega,h5⟩
theorem oG(so:Int->Int->Bool)(i:Int)(k:Nat):(row so i k).Pairwise pR:=by
 unfold row;refine List.Pairwise.filter _ ?_;rw[Ss];exact Tc.imp fun h=> .inr ⟨rfl,by show i+1+_<i+1+_;omega⟩
theorem V6(so:Int->Int->Bool)(m:Int):∀i:Nat,(rows so m i).Pairwise pR
 |0=>by unfold rows;exact List.Pairwise.nil
 |i+1=>by
  rw[iD,S8];refine⟨V6 so m i,oG so _ _,fun p hp q hq=> ?_⟩;rw[gY]at hp;rw[nA]at hq;exact .inl (by omega)
theorem JM{so:Int->Int->Bool}{m:Int}{i:Nat}:dG m (rows so m i):=
 ⟨(V6 so m i).imp fun h e=>by subst e;exact pR.Z6 h,fun p hp=>by rw[gY]at hp;exact⟨hp.1,hp.2.2.1,hp.2.2.2.1⟩⟩
theorem qG{l:L0}(h:l.Pairwise pR):l.Nodup:=h.imp fun h e=>by subst e;exact pR.Z6 h
end Hs
namespace L2
open PySem
theorem dg.get'{K:W.Frag}{H:Hp}:∀{xs:List V} {ds:List θ} {i:Nat},dg K H xs ds->i<ds.length->∃x d,xs[i]? =some x/\ds[i]? =some d/\DV K H x d
 |_,_,i,.nil,h=>by simp at h
 |_,_,0,.cons h _,_=>⟨_,_,rfl,rfl,h⟩
 |_,_,i+1,.cons _ t,h=>by
  obtain⟨x,d,h1,h2,h3⟩:=dg.get' (i:=i) t (by simpa using h);exact⟨x,d,by simpa using h1,by simpa using h2,h3⟩
end L2
namespace Hs
open PySem L2 wk
structure fu(K:W.Frag)(H:Hp)(a:Addr)(n:Int)(ts:L0):Prop where
 web:yF K H a n ts
 h0:0<=n
 h1:n<=10
 pk:dG n ts
 ok:N6 n ts
theorem fu.same{K:W.Frag}{H H':Hp}{a:Addr}{n:Int}{ts:L0}(h:fu K H a n ts)(e:Same H H'):fu K H' a n ts:=⟨h.web.same e,h.h0,h.h1,h.pk,h.ok⟩
noncomputable def tt(_ _:Int):Bool:=true
theorem Kh{p q:Int×Int}(h:pR p q):HT.lexLt (pl q) (pl p)=false:=by
 rw[HT.cQ];refine gB fun z=> ?_;have:pR q p:=Km (by rw[HT.cQ];exact cU z);exact pR.Z6 (h.trans this)
theorem nQ{n:Int}{ts:L0}{i:Nat}(h0:0<=n)(h1:n<=10)(h:ts.Sublist (rows tt n i)):dG n ts/\N6 n ts:=by
 have hs:ts.Pairwise pR:=(V6 tt n i).sublist h;have ho:dG n ts:=⟨qG hs,fun p hp=>(JM (so:=tt) (m:=n) (i:=i)).lt p (h.subset hp)⟩;exact⟨ho,Oo h0 h1 ho (hs.imp Kh)⟩
theorem zH{K:W.Frag}{H:Hp}{rs:List V}{ps:L0}{i:Nat}{x:V}(h:dg K H rs (ps.map pairD))(hx:rs[i]? =some x):∃(t:Addr) (hi:i<ps.length),x= .ref t/\SqT K H t [.int (ps[i]).1,.int (ps[i]).2]:=by
 have hlen:=h.len;rw[aH]at hlen;have hi:i<ps.length:=by rw[<-hlen];exact(p8.mp hx).1
 obtain⟨x',d,e1,e2,e3⟩:=dg.get' (i:=i) h (by rw[aH];exact hi);rw[hx]at e1;cases e1;rw[dX,dJ hi]at e2;cases e2;cases e3 with
 |tup hp tp=>
  cases tp with
  |cons ta tb=>
   cases tb with
   |cons tc td=>
    cases td;cases ta;cases tc;exact⟨_,hi,rfl,hp⟩
noncomputable def cP(K:W.Frag)(H:Hp)(l:Addr)(R:L0)(P:Int×Int->Prop):Prop:=∃(rs:List V) (ts:L0),H l=some (.lst rs)/\dg K H rs (ts.map pairD)/\ts.Sublist R/\∀p∈ts,P p
theorem cP.nil{K:W.Frag}{H:Hp}{l:Addr}{R:L0}{P:Int×Int->Prop}(h:H l=some (.lst [])):cP K H l R P:=⟨[],[],h,.nil,List.nil_sublist _,fun p hp=>(nomatch hp)⟩
theorem cP.step{K:W.Frag}{H H':Hp}{l c:Addr}{R:L0}{P:Int×Int->Prop}{zs:List V}(h:cP K H l R P)(e:aV c H H')(hc:H c=some (.lst zs))(n:l≠c):cP K H' l R P:=by
 obtain⟨rs,ts,h1,h2,h3⟩:=h;exact⟨rs,ts,e _ _ n h1,lZ e hc h2,h3⟩
theorem cP.mono{K:W.Frag}{H:Hp}{l:Addr}{R R':L0}{P:Int×Int->Prop}(h:cP K H l R P)(e:R.Sublist R'):cP K H l R' P:=by
 obtain⟨rs,ts,h1,h2,h3,h4⟩:=h;exact⟨rs,ts,h1,h2,h3.trans e,h4⟩
theorem cP.push{K:W.Frag}{H:Hp}{l p:Addr}{R:L0}{P:Int×Int->Prop}{i j:Int}{rs:List V}{ts:L0}(h1:H l=some (.lst rs))(h2:dg K H rs (ts.map pairD))(h3:ts.Sublist R)(h4:∀p∈ts,P p)(hp:SqT K H p [.int i,.int j])(hP:P (i,j)):cP K (upd H l (.lst (rs++[.ref p]))) l (R++[(i,j)]) P:=by
 have x:aV l H (upd H l (.lst (rs++[.ref p]))):=(aV.refl _ _).upd;refine⟨_,ts++[(i,j)],aR,?_,h3.append (List.Sublist.refl _),fun q hq=> ?_⟩
 ·rw[dB];exact(lZ x h1 h2).append (.cons (.tup (x.tup h1 hp) (.cons (.int _) (.cons (.int _) .nil))) .nil)
 ·rcases pI.mp hq with q'|q'
  ·exact h4 q q'
  ·rw[kI.mp q'];exact hP
theorem sub_len{n:Int}{ts:L0}{i k:Nat}(h1:n<=10)(hk:0+(i:Int)+1+(k:Int)<=n)(h:ts.Sublist (rows tt n i++row tt (0+(i:Int)) k)):ts.length<=45:=by
 refine pairs_len (n:=n) ⟨?_,fun p hp=> ?_⟩ h1
 ·refine qG (List.Pairwise.sublist h ?_);rw[S8];refine⟨V6 _ _ _,oG _ _ _,fun p hp q hq=> ?_⟩;rw[gY]at hp;rw[nA]at hq;exact .inl (by omega)
 ·rcases pI.mp (h.subset hp)with q|q
  ·rw[gY]at q;exact⟨q.1,q.2.2.1,q.2.2.2.1⟩
  ·rw[nA]at q;exact⟨by omega,by omega,by omega⟩
end Hs
namespace Hs
noncomputable def ff:Nat->Nat
 |0=>1
 |1=>1
 |2=>2
 |3=>3
 |4=>4
 |5=>6
 |6=>9
 |7=>12
 |8=>18
 |9=>27
 |_=>36
theorem sE:∀m n:Nat,m<=n->n<=10->ff m<=ff n:=by
 have h:∀n:Fin 11,∀m:Fin 11,m.val<=n.val->ff m.val<=ff n.val:=by decide
 intro m n hm hn;exact h ⟨n,by omega⟩ ⟨m,by omega⟩ hm
theorem K8:∀n d:Nat,0<d->d<=n->n<=10->d*ff (n-d)<=ff n:=by
 have h:∀n:Fin 11,∀d:Fin 11,0<d.val->d.val<=n.val->d.val*ff (n.val-d.val)<=ff n.val:=by decide
 intro n d h0 hd hn;exact h ⟨n,by omega⟩ ⟨d,by omega⟩ h0 hd
structure Full(r:Int->Int->Bool)(V:List Int)(s:List Int):Prop where
 up:s.Pairwise (· < ·)
 sub:∀x∈s,x∈V
 ind:∀x∈s,∀y∈s,x≠y->r x y=false
 max:∀v∈V,v∉s->∃x∈s,r x v=true
theorem uU(g:Int->Nat):∀V:List Int,V≠[]->∃v∈V,∀u∈V,g v<=g u
 |[],h=>absurd rfl h
 |[x],_=>⟨x,by simp,fun u hu=>by rw[kI.mp hu];exact aB _⟩
 |x::y::V,_=>by
  obtain⟨v,hv,hm⟩:=uU g (y::V) (by simp);by_cases c:g x<=g v
  ·refine⟨x,by simp,fun u hu=> ?_⟩;rcases dU.mp hu with e|e
   ·rw[e];exact aB _
   ·exact dD c (hm u e)
  ·refine⟨v,eV _ hv,fun u hu=> ?_⟩;rcases dU.mp hu with e|e
   ·rw[e];omega
   ·exact hm u e
theorem jw{α:Type}(p:α->Bool):∀l:List α,(l.filter p).length+(l.filter fun x=> !p x).length=l.length
 |[]=>rfl
 |x::l=>by
  have ih:=jw p l;rw[IV,IV];cases p x<;>simp <;>omega
theorem qU{α β:Type}(p:β->α->Bool)(m:Nat):∀(us:List β) (fs:List α),(∀s∈fs,∃u∈us,p u s=true)->(∀u∈us,∀gs:List α,gs.Sublist fs->(∀s∈gs,p u s=true)->gs.length<=m)->fs.length<=us.length*m
 |[],fs,h,_=>by
  cases fs with
  |nil=>simp
  |cons s fs=>obtain⟨u,hu,_⟩:=h s (by simp);cases hu
 |u::us,fs,h,hm=>by
  have e:=jw (p u) fs;have a:=hm u (by simp) (fs.filter (p u)) wed (fun s hs=>(iM.mp hs).2);have b:=qU p m us (fs.filter fun x=> !p u x) (fun s hs=>by
   obtain⟨h1,h2⟩:=iM.mp hs;obtain⟨w,hw,hp⟩:=h s h1;rcases dU.mp hw with z|z
   ·rw[z]at hp;rw[hp]at h2;cases h2
   ·exact⟨w,z,hp⟩) (fun w hw gs hg hp=>hm w (eV _ hw) gs (hg.trans wed) hp)
  rw[nO,Nat.succ_mul];omega
theorem yZ:∀{xs ys:List Int},xs.Pairwise (· < ·)->ys.Pairwise (· < ·)->(∀k,k∈xs↔k∈ys)->xs=ys
 |[],[],_,_,_=>rfl
 |[],y::ys,_,_,h=>by have:=(h y).mpr (by simp);simp at this
 |x::xs,[],_,_,h=>by have:=(h x).mp (by simp);simp at this
 |x::xs,y::ys,hx,hy,h=>by
  rw[List.pairwise_cons]at hx hy;have e:x=y:=by
   have a:=(h x).mp (by simp);have b:=(h y).mpr (by simp);rcases dU.mp a with a|a
   ·exact a
   ·rcases dU.mp b with b|b
    ·exact b.symm
    ·have:=hy.1 x a;have:=hx.1 y b;omega
  subst e;rw[yZ hx.2 hy.2 fun k=> ?_];constructor
  ·intro hk;rcases dU.mp ((h k).mp (eV _ hk))with a|a
   ·have:=hx.1 k hk;omega
   ·exact a
  ·intro hk;rcases dU.mp ((h k).mpr (eV _ hk))with a|a
   ·have:=hy.1 k hk;omega
   ·exact a
theorem lF{α β:Type}{g:α->β}:∀{l:List α},l.Nodup->(∀a∈l,∀b∈l,g a=g b->a=b)->(l.map g).Nodup
 |[],_,_=>List.nodup_nil
 |a::l,h,hi=>by
  rw[Cr]at h;rw[CZ,Cr];refine⟨fun hm=> ?_,lF h.2 fun x hx y hy=>hi x (eV _ hx) y (eV _ hy)⟩;obtain⟨b,hb,e⟩:=kW.mp hm;have:=hi b (eV _ hb) a (by simp) e;rw[this]at hb;exact h.1 hb
noncomputable def bL(r:Int->Int->Bool)(v u:Int):Bool:=decide (u=v)||r u v
theorem xZ{r:Int->Int->Bool}(sym:∀i j,r i j=r j i):∀(n:Nat) (V:List Int),V.length=n->n<=10->∀fs:List (List Int),fs.Nodup->(∀s∈fs,Full r V s)->fs.length<=ff n:=by
 intro n
 induction n using Nat.strongRecOn with
 |ind n ih=>
  intro V hV hn fs nd hf;by_cases hz:V=[]
  ·have e:∀s∈fs,s=[]:=fun s hs=>by
    cases s with
    |nil=>rfl
    |cons x s=>have:=(hf _ hs).sub x (by simp);rw[hz]at this;cases this
   have l1:fs.length<=1:=by
    match fs,nd,e with
    |[],_,_=>simp
    |[_],_,_=>simp
    |a::b::fs,nd,e=>
     exfalso;rw[Cr]at nd;apply nd.1;rw[e a (by simp),e b (by simp)];simp
   have:1<=ff n:=by
    have:=sE 0 n (cg _) hn;exact this
   omega
  obtain⟨v,hv,hmin⟩:=uU (fun u=>(V.filter (bL r u)).length) V hz;have key:=qU (fun(u:Int) (s:List Int)=>decide (u∈s)) (ff (n-(V.filter (bL r v)).length)) (V.filter (bL r v)) fs (fun s hs=> ?_) (fun u hu gs hg hp=> ?_)
  ·have hle:(V.filter (bL r v)).length<=n:=by rw[<-hV];exact Ai _ _
   have hpos:0<(V.filter (bL r v)).length:=Rj (iM.mpr ⟨hv,by unfold bL;simp⟩);exact dD key (K8 n _ hpos hle hn)
  ·by_cases c:v∈s
   ·exact⟨v,iM.mpr ⟨hv,by unfold bL;simp⟩,cU c⟩
   ·obtain⟨x,hx,hr⟩:=(hf s hs).max v hv c;exact⟨x,iM.mpr ⟨(hf s hs).sub x hx,by unfold bL;rw[hr];simp⟩,cU hx⟩
  ·have huV:u∈V:=(iM.mp hu).1;have fg:∀s∈gs,Full r V s/\u∈s:=fun s hs=>⟨hf s (hg.subset hs),kJ (hp s hs)⟩;have hle:(V.filter (bL r u)).length<=n:=by rw[<-hV];exact Ai _ _
   have hge:=hmin u huV;have hpos:0<(V.filter (bL r u)).length:=Rj (iM.mpr ⟨huV,by unfold bL;simp⟩);have hV2:(V.filter fun x=> !bL r u x).length=n-(V.filter (bL r u)).length:=by have:=jw (bL r u) V;omega
   have xR:∀(s:List Int) (x:Int),x∈s.filter (fun x=> !decide (x=u))↔x∈s/\x≠u:=fun s x=>by rw[iM];simp
   have h1:=ih (n-(V.filter (bL r u)).length) (by omega) (V.filter fun x=> !bL r u x) hV2 (by omega) (gs.map fun s=>s.filter fun x=> !decide (x=u)) (lF (nd.sublist hg) fun s hs t ht e=> ?_) (fun t ht=> ?_)
   ·rw[aH]at h1;exact dD h1 (sE _ _ (by omega) (by omega))
   ·obtain⟨a1,a2⟩:=fg s hs;obtain⟨b1,b2⟩:=fg t ht;refine yZ a1.up b1.up fun k=> ?_;have hk:k∈s.filter (fun x=> !decide (x=u))↔k∈t.filter (fun x=> !decide (x=u)):=by rw[show s.filter (fun x=> !decide (x=u))=t.filter (fun x=> !decide (x=u))from e]
    rw[xR,xR]at hk;by_cases c:k=u
    ·rw[c];exact⟨fun _=>b2,fun _=>a2⟩
    ·exact⟨fun z=>(hk.mp ⟨z,c⟩).1,fun z=>(hk.mpr ⟨z,c⟩).1⟩
   ·obtain⟨s,hs,rfl⟩:=kW.mp ht;obtain⟨a1,a2⟩:=fg s hs;refine⟨a1.up.sublist wed,fun x hx=> ?_,fun x hx y hy=> ?_,fun w hw hn=> ?_⟩
    ·obtain⟨x1,x2⟩:=(xR s x).mp hx;refine iM.mpr ⟨a1.sub x x1,?_⟩;unfold bL;rw[a1.ind x x1 u a2 x2,gB x2];rfl
    ·exact a1.ind x ((xR s x).mp hx).1 y ((xR s y).mp hy).1
    ·obtain⟨w1,w2⟩:=iM.mp hw;have w3:bL r u w=false:=by simpa using w2
     unfold bL at w3;rw[Bool.or_eq_false_iff]at w3;have wu:w≠u:=Mq w3.1;have ws:w∉s:=fun z=>hn ((xR s w).mpr ⟨z,wu⟩);obtain⟨x,hx,hr⟩:=a1.max w w1 ws;have xu:x≠u:=fun z=>by rw[z,sym u w,w3.2]at hr;cases hr
     exact⟨x,(xR s x).mpr ⟨hx,xu⟩,hr⟩
end Hs
namespace Hs
open PySem wk
noncomputable def rng(n:Nat):List Int:=(List.range n).map fun k=>((k:Nat):Int)
theorem eN{n:Nat}{x:Int}:x∈rng n↔0<=x/\x<(n:Int):=by
 unfold rng;rw[kW];constructor
 ·rintro⟨k,hk,rfl⟩;have:=nM.mp hk;omega
 ·rintro⟨h0,h1⟩;exact⟨x.toNat,nM.mpr (by omega),by omega⟩
theorem Jj(ts:L0)(i j:Int):bJ ts i j=bJ ts j i:=by unfold bJ;rw[Bool.or_comm]
noncomputable def goB(ts:L0)(w:Bool)(s:List Int)(p:Int):Bool:=s.all fun q=>bJ ts p q==w
noncomputable def bD(ts:L0)(w:Bool):Nat->List (List Int)
 |0=>[[]]
 |k+1=>bD ts w k++((bD ts w k).filter fun s=>goB ts w s (k:Int)).map fun s=>s++[(k:Int)]
noncomputable def jX(ts:L0)(w:Bool)(n:Nat)(s:List Int):Bool:= !((rng n).any fun p=> !decide (p∈s)&&goB ts w s p)
noncomputable def g8(ts:L0)(w:Bool)(n:Nat):List (List Int):=(bD ts w n).filter (jX ts w n)
structure qt(ts:L0)(w:Bool)(k:Nat)(s:List Int):Prop where
 up:s.Pairwise (· < ·)
 lt:∀x∈s,0<=x/\x<(k:Int)
 all:∀x∈s,∀y∈s,x≠y->(bJ ts x y==w)=true
theorem jg{ts:L0}{w:Bool}:∀(k:Nat) (s:List Int),s∈bD ts w k->qt ts w k s
 |0,s,h=>by
  rw[kI.mp (show s∈[[]]from h)];exact⟨List.Pairwise.nil,fun x hx=>(nomatch hx),fun x hx=>(nomatch hx)⟩
 |k+1,s,h=>by
  rcases pI.mp (show s∈bD ts w k++((bD ts w k).filter fun s=>goB ts w s (k:Int)).map fun s=>s++[(k:Int)]from h)with q|q
  ·have S:=jg k s q;exact⟨S.up,fun x hx=>by have:=S.lt x hx;omega,S.all⟩
  ·obtain⟨t,ht,rfl⟩:=kW.mp q;obtain⟨t1,t2⟩:=iM.mp ht;have S:=jg k t t1;have g:∀y∈t,(bJ ts (k:Int) y==w)=true:=fun y hy=>pJ.mp t2 y hy;refine⟨?_,fun x hx=> ?_,fun x hx y hy hne=> ?_⟩
   ·rw[S8];refine⟨S.up,Zd _ _,fun x hx y hy=> ?_⟩;rw[kI.mp hy];exact(S.lt x hx).2
   ·rcases pI.mp hx with z|z
    ·have:=S.lt x z;omega
    ·rw[kI.mp z];omega
   ·rcases pI.mp hx with z|z
    ·rcases pI.mp hy with z'|z'
     ·exact S.all x z y z' hne
     ·rw[kI.mp z',Jj];exact g x z
    ·rw[kI.mp z]at hne⊢;rcases pI.mp hy with z'|z'
     ·exact g y z'
     ·exact absurd (kI.mp z').symm hne
theorem jf{ts:L0}{w:Bool}:∀k:Nat,(bD ts w k).Nodup
 |0=>by show([[]]:List (List Int)).Nodup;simp
 |k+1=>by
  show(bD ts w k++((bD ts w k).filter fun s=>goB ts w s (k:Int)).map fun s=>s++[(k:Int)]).Nodup;refine List.nodup_append.mpr ⟨jf k,lF ((jf k).filter _) (fun a _ b _ e=>List.append_cancel_right e),fun a ha b hb e=> ?_⟩;obtain⟨t,_,rfl⟩:=kW.mp hb;have:=(jg k a ha).lt (k:Int) (by rw[e];simp);omega
theorem ux{ts:L0}{w:Bool}:∀k:Nat,(bD ts w k).length<=2^k
 |0=>aB _
 |k+1=>by
  show(bD ts w k++((bD ts w k).filter fun s=>goB ts w s (k:Int)).map fun s=>s++[(k:Int)]).length<=2^(k+1);rw[p7,aH,Nat.pow_succ];have a:=ux (ts:=ts) (w:=w) k;have b:=Ai (fun s=>goB ts w s (k:Int)) (bD ts w k);omega
theorem zU{ts:L0}{w:Bool}{n:Nat}{s:List Int}(h:s∈g8 ts w n):Full (fun i j=> !(bJ ts i j==w)) (rng n) s:=by
 obtain⟨h1,h2⟩:=iM.mp h;have S:=jg n s h1;refine⟨S.up,fun x hx=>eN.mpr (S.lt x hx),fun x hx y hy hne=>by rw[S.all x hx y hy hne];rfl,fun v hv hn=> ?_⟩;unfold jX at h2;apply Mu;intro hc;have h3:((rng n).any fun p=> !decide (p∈s)&&goB ts w s p)=false:=by simpa using h2
 rw[Rf]at h3;apply h3 v hv;rw[gB hn];show goB ts w s v=true;unfold goB;rw[pJ];intro q hq;cases e:(bJ ts v q==w)with
 |true=>rfl
 |false=>exact absurd ⟨q,hq,by show(!(bJ ts q v==w))=true;rw[Jj,e];rfl⟩ hc
theorem qN{ts:L0}{w:Bool}{n:Nat}(hn:n<=10):(g8 ts w n).length<=36:=by
 have h:=xZ (r:=fun i j=> !(bJ ts i j==w)) (fun i j=>by rw[Jj]) n (rng n) (by unfold rng;simp) hn (g8 ts w n) ((jf n).filter _) (fun s hs=>zU hs);have:=sE n 10 hn (aB _);exact dD h this
noncomputable def gj(ts:L0)(w:Bool)(n:Nat)(s:List Int):List Int:=(rng n).filter fun p=>s.all fun q=> !decide (p=q)&&(bJ ts q p==w)
noncomputable def jY(ts:L0)(w:Bool)(n:Nat)(q:Int):List Int:=(rng n).filter fun p=> !decide (p=q)&&(bJ ts q p==w)
theorem Gs(ts:L0)(w:Bool)(n:Nat):gj ts w n []=rng n:=by unfold gj;exact Rh.mpr fun _ _=>rfl
theorem BK(ts:L0)(w:Bool)(n:Nat)(s:List Int)(k:Int):gj ts w n (s++[k])=(gj ts w n s).filter fun p=>decide (p∈jY ts w n k):=by
 unfold gj;rw[List.filter_filter];refine List.filter_congr fun p hp=> ?_;rw[List.all_append,Bool.and_comm];congr 1;unfold jY;rw[wI,Dq,iM];simp[hp]
theorem Kw{ts:L0}{w:Bool}{n k:Nat}{s:List Int}(hs:qt ts w k s)(hk:k<n):decide ((k:Int)∈gj ts w n s)=goB ts w s (k:Int):=by
 unfold gj goB;rw[wI,Dq,iM,pJ,pJ];constructor
 ·rintro⟨_,h⟩ q hq;have:=h q hq;rw[CG]at this;rw[Jj];exact this.2
 ·intro h;refine⟨eN.mpr ⟨by omega,by omega⟩,fun q hq=> ?_⟩;have:=(hs.lt q hq).2;rw[CG];refine⟨?_,by rw[Jj];exact h q hq⟩;rw[gB (by omega)];rfl
theorem BL(ts:L0)(w:Bool)(n:Nat)(s:List Int):decide (gj ts w n s=[])=jX ts w n s:=by
 unfold gj jX;rw[wI,Dq,List.filter_eq_nil_iff,YG,Rf];constructor
 ·intro h p hp hc;rw[CG]at hc;apply h p hp;rw[pJ];intro q hq;have h1:p∉s:=by simpa using hc.1
  have h2:=pJ.mp hc.2 q hq;rw[CG];refine⟨?_,by rw[Jj];exact h2⟩;have ne:¬p=q:=fun e=>h1 (by rw[e];exact hq);rw[gB ne];rfl
 ·intro h p hp hc;apply h p hp;rw[pJ]at hc;rw[CG];refine⟨?_,?_⟩
  ·have:p∉s:=fun z=>by
    have:=hc p z;simp at this
   rw[gB this];rfl
  ·unfold goB;rw[pJ];intro q hq;have:=hc q hq;rw[CG]at this;rw[Jj];exact this.2
theorem lW:∀{xs ys:List Int},xs.Pairwise (· < ·)->ys.Pairwise (· < ·)->(∀k,k∈xs↔k∈ys)->xs=ys
 |[],[],_,_,_=>rfl
 |[],y::ys,_,_,h=>by have:=(h y).mpr (by simp);simp at this
 |x::xs,[],_,_,h=>by have:=(h x).mp (by simp);simp at this
 |x::xs,y::ys,hx,hy,h=>by
  rw[List.pairwise_cons]at hx hy;have e:x=y:=by
   have a:=(h x).mp (by simp);have b:=(h y).mpr (by simp);rcases dU.mp a with a|a
   ·exact a
   ·rcases dU.mp b with b|b
    ·exact b.symm
    ·have:=hy.1 x a;have:=hx.1 y b;omega
  subst e;rw[lW hx.2 hy.2 fun k=> ?_];constructor
  ·intro hk;rcases dU.mp ((h k).mp (eV _ hk))with a|a
   ·have:=hx.1 k hk;omega
   ·exact a
  ·intro hk;rcases dU.mp ((h k).mpr (eV _ hk))with a|a
   ·have:=hy.1 k hk;omega
   ·exact a
theorem jH{ts:L0}{w:Bool}:∀(k:Nat) (s:List Int),qt ts w k s->s∈bD ts w k
 |0,s,h=>by
  cases s with
  |nil=>show([]:List Int)∈[[]];simp
  |cons x s=>have:=h.lt x (by simp);omega
 |k+1,s,h=>by
  show s∈bD ts w k++((bD ts w k).filter fun s=>goB ts w s (k:Int)).map fun s=>s++[(k:Int)];by_cases c:(k:Int)∈s
  ·have hm:∀x,x∈s.filter (fun x=> !decide (x=(k:Int)))↔x∈s/\x≠(k:Int):=fun x=>by rw[iM];simp
   refine tZ _ (kW.mpr ⟨s.filter (fun x=> !decide (x=(k:Int))),iM.mpr ⟨jH k _ ⟨h.up.filter _,fun x hx=> ?_,fun x hx y hy hne=> ?_⟩,?_⟩,?_⟩)
   ·have a:=(hm x).mp hx;have b:=h.lt x a.1;have:=a.2;omega
   ·exact h.all x ((hm x).mp hx).1 y ((hm y).mp hy).1 hne
   ·unfold goB;rw[pJ];intro q hq;have a:=(hm q).mp hq;exact h.all _ c q a.1 (fun e=>a.2 e.symm)
   ·refine lW ?_ h.up fun x=> ?_
    ·rw[S8];refine⟨h.up.filter _,Zd _ _,fun x hx y hy=> ?_⟩;rw[kI.mp hy];have a:=(hm x).mp hx;have b:=h.lt x a.1;have:=a.2;omega
    ·rw[pI,hm,kI];constructor
     ·rintro(a|a)
      ·exact a.1
      ·rw[a];exact c
     ·intro a;by_cases e:x=(k:Int)
      ·exact .inr e
      ·exact .inl ⟨a,e⟩
  ·refine Ma _ (jH k s ⟨h.up,fun x hx=> ?_,h.all⟩);have b:=h.lt x hx;have:x≠(k:Int):=fun e=>c (by rw[<-e];exact hx);omega
theorem qt.of{ts:L0}{w:Bool}{n:Nat}{s:List Int}(F:Full (fun i j=> !(bJ ts i j==w)) (rng n) s):qt ts w n s:=
 ⟨F.up,fun x hx=>eN.mp (F.sub x hx),fun x hx y hy hne=>by
  have:=F.ind x hx y hy hne
  try dsimp only at this
  cases e:(bJ ts x y==w)with
  |true=>rfl
  |false=>rw[e]at this;cases this⟩
theorem K6{ts:L0}{w:Bool}{n:Nat}{s:List Int}(F:Full (fun i j=> !(bJ ts i j==w)) (rng n) s):s∈g8 ts w n:=by
 refine iM.mpr ⟨jH n s (qt.of F),?_⟩;unfold jX;rw[YG,Rf];intro p hp hc;rw[CG]at hc;have hn:p∉s:=by simpa using hc.1
 obtain⟨x,hx,hr⟩:=F.max p hp hn;have:=pJ.mp hc.2 x hx
 try dsimp only at hr this
 rw[Jj,this]at hr;cases hr
theorem zN{α:Type}(g:α->Nat):∀V:List α,V≠[]->∃v∈V,∀u∈V,g u<=g v
 |[],h=>absurd rfl h
 |[x],_=>⟨x,by simp,fun u hu=>by rw[kI.mp hu];exact aB _⟩
 |x::y::V,_=>by
  obtain⟨v,hv,hm⟩:=zN g (y::V) (by simp);by_cases c:g v<=g x
  ·refine⟨x,by simp,fun u hu=> ?_⟩;rcases dU.mp hu with e|e
   ·rw[e];exact aB _
   ·exact dD (hm u e) c
  ·refine⟨v,eV _ hv,fun u hu=> ?_⟩;rcases dU.mp hu with e|e
   ·rw[e];omega
   ·exact hm u e
theorem Hq{ts:L0}{w:Bool}{n:Nat}{s:List Int}(hs:qt ts w n s):∃t∈g8 ts w n,∀x∈s,x∈t:=by
 let C:=(bD ts w n).filter fun t=>s.all fun x=>decide (x∈t);have mC:∀t,t∈C↔t∈bD ts w n/\∀x∈s,x∈t:=fun t=>by
  show t∈(bD ts w n).filter _↔_;rw[iM,pJ];simp
 have hne:C≠[]:=fun e=>by
  have:s∈C:=(mC s).mpr ⟨jH n s hs,fun x hx=>hx⟩;rw[e]at this;cases this
 obtain⟨t,ht,hm⟩:=zN List.length C hne;obtain⟨h1,h2⟩:=(mC t).mp ht;have T:=jg n t h1;refine⟨t,K6 ⟨T.up,fun x hx=>eN.mpr (T.lt x hx),fun x hx y hy hne=> ?_,fun v hv hn=> ?_⟩,h2⟩
 ·show(!(bJ ts x y==w))=false;rw[T.all x hx y hy hne];rfl
 ·apply Mu;intro hc;have go:∀x∈t,(bJ ts x v==w)=true:=fun x hx=>by
   cases e:(bJ ts x v==w)with
   |true=>rfl
   |false=>exact absurd ⟨x,hx,by show(!(bJ ts x v==w))=true;rw[e];rfl⟩ hc
  have mU:∀x,x∈(rng n).filter (fun x=>decide (x∈t)||decide (x=v))↔x∈t\/x=v:=fun x=>by
   rw[iM,WY,Dq,Dq];constructor
   ·exact fun z=>z.2
   ·rintro(z|z)
    ·exact⟨eN.mpr (T.lt x z),.inl z⟩
    ·exact⟨by rw[z];exact hv,.inr z⟩
  have up:((rng n).filter (fun x=>decide (x∈t)||decide (x=v))).Pairwise (· < ·):=by
   refine List.Pairwise.filter _ ?_;unfold rng;rw[Ss];exact Tc.imp fun{a b} h=>by omega
  have U:qt ts w n ((rng n).filter (fun x=>decide (x∈t)||decide (x=v))):=⟨up,fun x hx=>eN.mp (iM.mp hx).1,fun x hx y hy hne=>by
   rcases(mU x).mp hx with a|a
   ·rcases(mU y).mp hy with b|b
    ·exact T.all x a y b hne
    ·rw[b];exact go x a
   ·rcases(mU y).mp hy with b|b
    ·rw[a,Jj];exact go y b
    ·exact absurd (a.trans b.symm) hne⟩
  have inC:=(mC _).mpr ⟨jH n _ U,fun x hx=>(mU x).mpr (.inl (h2 x hx))⟩;have l1:=hm _ inC;have l2:=iI (l:=v::t) (m:=(rng n).filter (fun x=>decide (x∈t)||decide (x=v))) (Cr.mpr ⟨hn,T.up.imp fun{a b} h=>by omega⟩) (fun x hx=>by
   rcases dU.mp hx with z|z
   ·exact(mU x).mpr (.inr z)
   ·exact(mU x).mpr (.inl z))
  rw[nO]at l2;omega
end Hs
namespace Hs
open PySem L2 wk
section
variable{P:ρ}{w:υ}{K:W.Frag}{mg:L4}{base:Heap}
theorem blV_eq(a b:Bool):decide (V.bl a=V.bl b)=(a==b):=by cases a<;>cases b<;>rfl
theorem intV_eq(a b:Int):decide (V.int a=V.int b)=decide (a=b):=by
 by_cases e:a=b
 ·subst e;simp
 ·rw[gB e,gB (by intro z;injection z with z;exact e z)]
theorem Ku{a b:Int}:(!decide (V.int a=V.int b))= !decide (a=b):=by rw[intV_eq]
theorem any_ints(xs:List Int)(k:Int):((xs.map PyData.int).any fun d=>PyData.eqv d (.int k))=decide (k∈xs):=by
 induction xs with
 |nil=>simp
 |cons x xs ih=>
  rw[CZ,Tw,ih];have e:PyData.eqv (.int x) (.int k)=decide (k=x):=by
   show(x==k)=_;rw[wI];simp;exact⟨fun h=>h.symm,fun h=>h.symm⟩
  rw[e,wI];simp
theorem X5{α:Type}{p:α->Bool}{l:List α}{i:Nat}(hi:i<l.length):(l.take (i+1)).filter p=(l.take i).filter p++(if p l[i]=true then[l[i]]else[]):=by
 rw[IW,dJ hi,Cy];congr 1;show[l[i]].filter p=_;rw[IV];rfl
theorem Et(k:Nat):rng (k+1)=rng k++[(k:Int)]:=by unfold rng;rw[tM,dB];rfl
theorem Dw(n:Nat):gH n=(rng n).map V.int:=by unfold gH rng;rw[Yk];rfl
noncomputable def uh(K:W.Frag):Sp:=fun vs H Q _=>∃(l m:Addr) (xs ys:List Int),vs=[.ref l,.ref m]/\SqL K H l (xs.map V.int)/\SqL K H m (ys.map V.int)/\∀r H',Same H H'->H' r=some (.lst ((xs.filter fun p=>decide (p∈ys)).map V.int))->H r=none->Q (.ref r) H'
theorem Bp{f:Addr}{fd:τ}(F:Fun K "in_both" "in_both" lg f fd):
  FnOk P w K mg base CX0 1 f fd ["ones","others"] (uh K):=by
 refine F.eF ["ones","others"] fun cdv A outer s H vs Q E hr h=> ?_;obtain⟨l,m,xs,ys,rfl,hL,hM,q⟩:=h;refine⟨_,(bN (cT (pK ["place"] ["others"] [1] (CV (pv 0)) (pG 0) (dZ (gF (jR K hr.units) (pv 0) (pv 1) (by with_unfolding_all rfl))) (pv 0)))),?_⟩;refine⟨_,rfl,l,_,rfl,hL,fun hz=> ?_⟩;let jz:Nat->List V->St->Hp->Prop:=fun k acc σ H'=>acc=((xs.take k).filter fun p=>decide (p∈ys)).map V.int/\Same H H'/\∃o,σ=[o,some (.ref m)];refine Lw (xs:=xs.map V.int) jz ⟨rfl,Same.refl _,_,rfl⟩ (fun k acc σ H' _ p=>p.2.1.seq hL) (fun k acc σ H' hk p=> ?_) hz (fun k x acc σ H' hx p=> ?_) (fun acc σ H' p=> ?_)
 ·rw[p.1,aH];exact dD (Ai _ _) (by rw[Dc];exact Ly _ _)
 ·obtain⟨rfl,sm,o,rfl⟩:=p;rw[dX]at hx;cases ex:xs[k]? with
  |none=>rw[ex]at hx;cases hx
  |some y=>
   rw[ex]at hx;cases hx;obtain⟨hk,ey⟩:=p8.mp ex;have e:=X5 (p:=fun p=>decide (p∈ys)) hk;rw[ey]at e;refine⟨_,rfl,_,rfl,m,_,_,.int y,rfl,.inl (sm.seq hM),dg.ints ys,.int _,Ip ys,rfl,(by show 0<=60;decide),_,rfl,?_⟩;rw[any_ints];refine ite2 (fun c=> ?_) (fun c=> ?_)
   ·exact⟨_,rfl,by rw[e,ak c,dB];rfl,sm,_,rfl⟩
   ·exact⟨by rw[e,aj c,Cu],sm,_,rfl⟩
 ·intro p1 hp1;obtain⟨rfl,sm,_⟩:=p;rw[aH,IK];exact q p1 _ (sm.trans (bO hp1 _)) aR (sm.free hp1)
noncomputable def zy(K:W.Frag):Sp:=fun vs H Q _=>∃(a:Addr) (n i:Int) (ts:L0) (w:Bool),vs=[.ref a,.int i,.bl w]/\fu K H a n ts/\∀r H',Same H H'->H' r=some (.lst ((jY ts w n.toNat i).map V.int))->H r=none->Q (.ref r) H'
theorem Fx{f f1:Addr}{fd d1:τ}(F:Fun K "places_by_tie" "places_by_tie" X3 f fd)(D1:cZ K mg "has_tie" lA ["web","one","other"] f1 d1)(G1:FnOk P w K mg base CX0 1 f1 d1 ["web","one","other"] (M7 K))(aF:mg "range"=none):
  FnOk P w K mg base CX0 2 f fd ["web","place","tied"] (zy K):=by
 refine F.eF ["web","place","tied"] fun cdv A outer s H vs Q E hr h=> ?_;obtain⟨a,n,i,ts,w,rfl,hA,q⟩:=h;refine⟨_,(bN (cT (pK ["other"] ["place","web","tied"] [1,0,2] (CW rfl aF (ao (cM nH (pv 0) aY) aA)) (pG 0) (dZ (PW.pt (pw_and (gF op_ne (pv 0) (pv 1)) (pw_and1 (gF op_eq (pc G1 hr D1 (ao (pv 2) (ao (pv 1) (ao (pv 0) aA)))) (pv 3)))))) (pv 0)))),?_⟩;have h0:=hA.h0;have h10:=hA.h1;obtain⟨ta,ra,a1,a2,a3⟩:=id hA.web;refine⟨_,rfl,a,_,_,.int n,rfl,rfl,a1,rfl,n,rfl,by omega,by omega,?_⟩;let vP:Nat->List V->St->Hp->Prop:=fun k acc σ H'=>acc=((rng k).filter fun p=> !decide (p=i)&&(bJ ts i p==w)).map V.int/\Same H H'/\∃o,σ=[o,some (.int i),some (.ref a),some (.bl w)];refine Q7 (n:=n.toNat) vP ⟨rfl,Same.refl _,_,rfl⟩ (fun k acc σ H' hk p=> ?_) (by rw[gA];omega) (fun k acc σ H' hk p=> ?_) (fun acc σ H' p=> ?_)
 ·rw[p.1,aH];exact dD (Ai _ _) (by unfold rng;simp)
 ·obtain⟨rfl,sm,o,rfl⟩:=p;have ek:(0+(k:Int))=(k:Int):=by omega
  rw[ek];have e:∀b,b=(!decide ((k:Int)=i)&&(bJ ts i (k:Int)==w))->((rng (k+1)).filter fun p=> !decide (p=i)&&(bJ ts i p==w))=((rng k).filter fun p=> !decide (p=i)&&(bJ ts i p==w))++(if b=true then[(k:Int)]else[]):=fun b hb=>by
   rw[Et,Cy,IV,hb];rfl
  refine⟨_,rfl,_,rfl,rfl,_,rfl,?_⟩;rw[Ku];refine ite2 (fun c=> ?_) (fun c=> ?_)
  ·refine⟨_,rfl,_,rfl,_,rfl,a,n,_,_,ts,rfl,(hA.same sm).web,fun H5 s5=>⟨_,rfl,rfl,_,rfl,?_⟩⟩;rw[blV_eq,tied_eq hA.pk];refine ite2 (fun c2=> ?_) (fun c2=> ?_)
   ·exact⟨_,rfl,by rw[e true (by rw[c,c2];rfl),dB];rfl,sm.trans s5,_,rfl⟩
   ·exact⟨by rw[e false (by rw[c,Bool.eq_false_iff.mpr c2];rfl)];simp,sm.trans s5,_,rfl⟩
  ·exact⟨by rw[e false (by rw[Bool.eq_false_iff.mpr c];rfl)];simp,sm,_,rfl⟩
 ·intro p1 hp1;obtain⟨rfl,sm,_⟩:=p;exact q p1 _ (sm.trans (bO hp1 _)) aR (sm.free hp1)
noncomputable def Ib(K:W.Frag)(H:Hp)(r:Addr)(ss:List (List Int)):Prop:=∃its:List (Addr×List Int),H r=some (.lst (its.map fun p=>V.ref p.1))/\(∀p∈its,SqT K H p.1 (p.2.map V.int))/\its.map (fun p=>p.2)=ss
noncomputable def bM(ss:List (List Int))(ts:L0)(w:Bool)(n:Nat):Prop:=ss.Perm (g8 ts w n)/\ss.Pairwise fun a b=>HT.lexLt b a=false
theorem K5{ts:L0}{w:Bool}{n:Nat}(h2:2<=(g8 ts w n).length):∀s∈g8 ts w n,s≠[]:=by
 intro s hs e;subst e;have F:=zU hs;cases n with
 |zero=>
  have:(g8 ts w 0).length<=1:=by
   show(([[]]:List (List Int)).filter (jX ts w 0)).length<=1;exact Ai _ _
  omega
 |succ n=>
  obtain⟨x,hx,_⟩:=F.max 0 (eN.mpr ⟨by omega,by omega⟩) (by simp);cases hx
structure V5(K:W.Frag)(H:Hp)(ts:L0)(w:Bool)(n:Nat)(q:Addr×Addr×Addr×List Int):Prop where
 pr:SqT K H q.1 [.ref q.2.1,.ref q.2.2.1]
 so:SqT K H q.2.1 (q.2.2.2.map V.int)
 le:H q.2.2.1=some (.lst ((gj ts w n q.2.2.2).map V.int))
theorem V5.same{H H':Hp}{ts:L0}{w:Bool}{n:Nat}{q:Addr×Addr×Addr×List Int}(h:V5 K H ts w n q)(e:Same H H'):V5 K H' ts w n q:=⟨e.tup h.pr,e.tup h.so,e _ _ h.le⟩
noncomputable def Ig(K:W.Frag)(H:Hp)(fd:Addr)(ts:L0)(w:Bool)(n:Nat)(ss:List (List Int)):Prop:=∃its:List (Addr×Addr×Addr×List Int),H fd=some (.lst (its.map fun q=>V.ref q.1))/\(∀q∈its,V5 K H ts w n q)/\its.map (fun q=>q.2.2.2)=ss
noncomputable def nY(K:W.Frag):Sp:=fun vs H Q _=>∃(fl:Addr) (fas:List Addr) (ts:L0) (w:Bool) (n:Nat),vs=[.ref fl]/\H fl=some (.lst (fas.map V.ref))/\fas.length=n/\n<=10/\(∀(i:Nat) f,fas[i]? =some f->H f=some (.lst ((jY ts w n (i:Int)).map V.int)))/\
 ∀r ss H',Same H H'->Ib K H' r ss->bM ss ts w n->H r=none->Q (.ref r) H'
theorem uM{f f1:Addr}{fd d1:τ}(F:Fun K "full_sets" "full_sets" gO f fd)(D1:cZ K mg "in_both" lg ["ones","others"] f1 d1)(G1:FnOk P w K mg base CX0 1 f1 d1 ["ones","others"] (uh K))(fV:mg "list"=none)(aF:mg "range"=none)(cA:mg "len"=none)(oN:mg "sorted"=none):
  FnOk P w K mg base CX0 2 f fd ["friends"] (nY K):=by
 refine F.eF ["friends","found","place","wider"] fun cdv A outer s H vs Q E hr h=> ?_;obtain⟨fl,fas,ts,w,n,rfl,hF,hn,h10,hfr,q⟩:=h;refine bH ?_;intro Y;refine⟨_,(bf (pS 1 (pe_lst (ao (tV (ao (tV aA) (ao (lY rfl rfl fV rfl aF (ao (pB v7 cA (ao (pv 0) aA)) aA)) aA))) aA))) (bf (Ad v9 rfl (CW rfl aF (ao (pB v7 cA (ao (pv 0) aA)) aA)) (pG 2) (bf (pX 3 ["some","left"] ["place","friends"] [2,0] (CV (pv 1)) (eE K (n:=2) rfl (mH (pG 0) (mH (pG 1) Cp))) (dZ (gF (jR K hr.units) (pv 2) (pv 1) (by with_unfolding_all rfl))) (tV (ao (cH (Fl K) (pv 0) (tV (ao (pv 2) aA))) (ao (pc G1 hr D1 (ao (pv 1) (ao (cM (dM K) (pv 3) (pv 2)) aA))) aA)))) (bN (pS 1 (cH op_cat (pv 1) (pv 3)))))) (bN (cT (pB sU oN (ao (pK ["some","left"] [] [] (CV (pv 1)) (eE K (n:=2) rfl (mH (pG 0) (mH (pG 1) Cp))) (dZ (vX (Bf K (pv 1) (fun _=>rfl)))) (pv 0)) aA)))))),?_⟩;refine qM ?_;intro c3 c2;have el:((fas.map V.ref).length:Int)=(n:Int):=by rw[aH,hn]
 refine⟨(by show 0<=sizeLine;decide),fun e1 he1=> ?_⟩;have s1:=bO he1 (.tup []);have t1:SqT K (upd H e1 (.tup [])) e1 []:=SqT.of aR;generalize (upd H e1 (.tup []))=H1 at *;refine⟨_,rfl,fl,_,rfl,.inl (SqL.of (s1 _ _ hF)),fun _=>⟨_,rfl,by omega,by rw[el];omega,fun rl hrl=> ?_⟩⟩;have er:gH ((fas.map V.ref).length:Int).toNat=(rng n).map V.int:=by rw[el,Cw,Dw]
 rw[er];have s2:=bO hrl (.lst ((rng n).map V.int));have t2:(upd H1 rl (.lst ((rng n).map V.int))) rl=some (.lst ((rng n).map V.int)):=aR;generalize (upd H1 rl (.lst ((rng n).map V.int)))=H2 at *;refine⟨(by show 2<=sizeLine;decide),fun e3 he3=> ?_⟩;have s3:=bO he3 (.tup [.ref e1,.ref rl]);have t3:SqT K (upd H2 e3 (.tup [.ref e1,.ref rl])) e3 [.ref e1,.ref rl]:=SqT.of aR;generalize (upd H2 e3 (.tup [.ref e1,.ref rl]))=H3 at *;refine⟨(by show 1<=sizeLine;decide),fun fd hfd=> ?_⟩;have s4:=bO hfd (.lst [.ref e3]);have F4:Ig K (upd H3 fd (.lst [.ref e3])) fd ts w n (bD ts w 0):=by
  refine⟨[(e3,e1,rl,[])],aR,fun q hq=> ?_,rfl⟩;rw[kI.mp hq];exact⟨s4.tup t3,s4.tup (s3.tup (s2.tup t1)),by rw[Gs];exact s4 _ _ (s3 _ _ t2)⟩
 have s04:=s1.trans (s2.trans (s3.trans s4));generalize (upd H3 fd (.lst [.ref e3]))=H4 at *;refine⟨_,rfl,fl,_,rfl,.inl (SqL.of (s04 _ _ hF)),fun _=>⟨_,rfl,by omega,by rw[el];omega,?_⟩⟩;have en:((fas.map V.ref).length:Int).toNat=n:=by rw[el,Cw]
 rw[en];let jz:Nat->St->Hp->Prop:=fun k σ H'=>Same H H'/\∃fd b2 b3,Ig K H' fd ts w n (bD ts w k)/\σ=[some (.ref fl),some (.ref fd),b2,b3];refine Ji (n:=n) jz ⟨s04,fd,_,_,F4,rfl⟩ (fun k σ H' hk p=> ?_) (fun σ H' p=> ?_)
 ·obtain⟨s5,fd,b2,b3,F5,rfl⟩:=p;have ek:(0+(k:Int))=(k:Int):=by omega
  rw[ek];obtain⟨its,f1,f2,f3⟩:=F5;have hlen:its.length<=1024:=by
   have a:=ux (ts:=ts) (w:=w) k;rw[<-f3,aH]at a;have b:2^k<=2^10:=Nat.pow_le_pow_right (by decide) (by omega);have c:2^10=1024:=by decide
   omega
  have hkf:k<fas.length:=by omega
  have hfk:(fas.map V.ref)[k]? =some (.ref fas[k]):=by rw[dX,dJ hkf];rfl
  have hgk:=hfr k fas[k] (dJ hkf);refine⟨_,rfl,fd,_,rfl,SqL.of f1,fun Z8=> ?_⟩;let vP:Nat->List V->St->Hp->Prop:=fun i acc σ Ab=>(∃its2:List (Addr×Addr×Addr×List Int),acc=its2.map (fun q=>V.ref q.1)/\(∀q∈its2,V5 K Ab ts w n q)/\its2.map (fun q=>q.2.2.2)=(((bD ts w k).take i).filter fun s=>goB ts w s (k:Int)).map fun s=>s++[(k:Int)])/\Same H' Ab/\∃o1 o2,σ=[o1,o2,some (.int (k:Int)),some (.ref fl)];refine Lw (xs:=its.map fun q=>V.ref q.1) vP ⟨⟨[],rfl,fun q hq=>(nomatch hq),rfl⟩,Same.refl _,_,_,rfl⟩ (fun i acc σ Ab _ p=>p.2.1.seq (SqL.of f1)) (fun i acc σ Ab hi p=> ?_) Z8 (fun i x acc σ Ab hx p=> ?_) (fun acc σ Ab p=> ?_)
  ·obtain⟨⟨its2,rfl,g2,g3⟩,_⟩:=p;have a:=gD List.length g3;rw[aH,aH]at a;rw[aH,a];exact dD (Ai _ _) (by rw[Dc];exact Ly _ _)
  ·obtain⟨⟨its2,rfl,g2,g3⟩,sm,o1,o2,rfl⟩:=p;rw[dX]at hx;cases ex:its[i]? with
   |none=>rw[ex]at hx;cases hx
   |some v=>
    rw[ex]at hx;cases hx;have fv:=(f2 v (pO ex)).same sm;have hsv:(bD ts w k)[i]? =some v.2.2.2:=by rw[<-f3,dX,ex];rfl
    obtain⟨hi,esv⟩:=p8.mp hsv;have Sv:=jg k v.2.2.2 (pO hsv);have e:=X5 (p:=fun s=>goB ts w s (k:Int)) hi;rw[esv]at e;refine⟨v.1,_,rfl,fv.pr,rfl,_,_,rfl,_,_,rfl,rfl,?_⟩;refine⟨_,rfl,_,rfl,v.2.2.1,_,_,.int (k:Int),rfl,.inl (SqL.of fv.le),dg.ints _,.int _,Ip _,rfl,(by show 0<=60;decide),_,rfl,?_⟩;rw[any_ints,Kw Sv hk];refine ite2 (fun c=> ?_) (fun c=> ?_)
    ·refine⟨_,rfl,_,rfl,(by show 1<=sizeLine;decide),fun e5 he5=> ?_⟩;have s6:=bO he5 (.tup [.int (k:Int)]);have t6:SqT K (upd Ab e5 (.tup [.int (k:Int)])) e5 [.int (k:Int)]:=SqT.of aR;generalize (upd Ab e5 (.tup [.int (k:Int)]))=H6 at *;have hvl:v.2.2.2.length<=10:=by
      have a:=iI (l:=v.2.2.2) (m:=rng n) (Sv.up.imp fun{x y} h=>by omega) (fun x hx=>eN.mpr (by have:=Sv.lt x hx;omega));have b:(rng n).length=n:=by unfold rng;simp
      omega
     refine⟨v.2.1,e5,_,_,rfl,rfl,s6.tup fv.so,t6,(by rw[aH,gA];show v.2.2.2.length+1<=_;omega),fun r7 H7 s7 h7=> ?_⟩;have Xl:=s6.trans s7;refine⟨_,rfl,_,rfl,_,rfl,fl,_,_,.ref fas[k],rfl,rfl,SqL.of ((s5.trans (sm.trans Xl)) _ _ hF),atI_nat hfk,v.2.2.1,fas[k],_,_,rfl,SqL.of (Xl _ _ fv.le),SqL.of ((s5.trans (sm.trans Xl)) _ _ hgk),fun r8 H8 s8 h8 n8=> ?_⟩;refine⟨(by show 2<=sizeLine;decide),fun e9 he9=> ?_⟩;have s9:=bO he9 (.tup [.ref r7,.ref r8]);have s69:=Xl.trans (s8.trans s9);refine⟨⟨its2++[(e9,r7,r8,v.2.2.2++[(k:Int)])],by rw[dB];rfl,fun q hq=> ?_,by rw[dB,g3,e,ak c,dB];rfl⟩,sm.trans s69,_,_,rfl⟩;rcases pI.mp hq with z|z
     ·exact(g2 q z).same s69
     ·rw[kI.mp z];refine⟨SqT.of aR,s9.tup (s8.tup ?_),by rw[BK];exact s9 _ _ h8⟩;rw[dB];exact h7
    ·exact⟨⟨its2,rfl,g2,by rw[g3,e,aj c,Cu]⟩,sm,_,_,rfl⟩
  ·intro p1 hp1;obtain⟨⟨its2,rfl,g2,g3⟩,sm,o1,o2,rfl⟩:=p;have hle:(its.map fun q=>V.ref q.1).length=(bD ts w k).length:=by rw[aH,<-f3,aH]
   rw[hle,IK]at g3;have s6:=bO hp1 (.lst (its2.map fun q=>V.ref q.1));have l2:its2.length<=1024:=by
    have a:=gD List.length g3;rw[aH,aH]at a;have b:=Ai (fun s=>goB ts w s (k:Int)) (bD ts w k);rw[<-f3,aH]at b;rw[<-f3]at a;omega
   refine⟨_,rfl,_,rfl,fd,p1,_,_,rfl,rfl,(sm.trans s6) _ _ f1,aR,by rw[aH,aH,gA];omega,fun p2 hp2=> ?_⟩;have s7:=bO hp2 (.lst ((its.map fun q=>V.ref q.1)++(its2.map fun q=>V.ref q.1)));refine⟨s5.trans (sm.trans (s6.trans s7)),p2,_,_,⟨its++its2,by rw[aR,dB],fun q hq=> ?_,by rw[dB,f3,g3];rfl⟩,rfl⟩;rcases pI.mp hq with z|z
   ·exact(f2 q z).same (sm.trans (s6.trans s7))
   ·exact(g2 q z).same (s6.trans s7)
 ·obtain⟨s5,fd,b2,b3,⟨its,f1,f2,f3⟩,rfl⟩:=p;refine⟨_,rfl,fd,_,rfl,SqL.of f1,fun Z8=> ?_⟩;let Q5:Nat->List V->St->Hp->Prop:=fun i acc σ Ab=>(∃its2:List (Addr×List Int),acc=its2.map (fun q=>V.ref q.1)/\(∀q∈its2,SqT K H' q.1 (q.2.map V.int))/\its2.map (fun q=>q.2)=((bD ts w n).take i).filter (jX ts w n))/\Same H' Ab/\∃o1 o2,σ=[o1,o2];refine Lw (xs:=its.map fun q=>V.ref q.1) Q5 ⟨⟨[],rfl,fun q hq=>(nomatch hq),rfl⟩,Same.refl _,_,_,rfl⟩ (fun i acc σ Ab _ p=>p.2.1.seq (SqL.of f1)) (fun i acc σ Ab hi p=> ?_) Z8 (fun i x acc σ Ab hx p=> ?_) (fun acc σ Ab p=> ?_)
  ·obtain⟨⟨its2,rfl,g2,g3⟩,_⟩:=p;have a:=gD List.length g3;rw[aH]at a;rw[aH,a];exact dD (Ai _ _) (by rw[Dc];exact Ly _ _)
  ·obtain⟨⟨its2,rfl,g2,g3⟩,sm,o1,o2,rfl⟩:=p;rw[dX]at hx;cases ex:its[i]? with
   |none=>rw[ex]at hx;cases hx
   |some v=>
    rw[ex]at hx;cases hx;have fv:=f2 v (pO ex);have hsv:(bD ts w n)[i]? =some v.2.2.2:=by rw[<-f3,dX,ex];rfl
    obtain⟨hi,esv⟩:=p8.mp hsv;have e:=X5 (p:=jX ts w n) hi;rw[esv]at e;refine⟨v.1,_,rfl,sm.tup fv.pr,rfl,_,_,rfl,_,_,rfl,rfl,?_⟩;refine⟨_,rfl,_,.inl ⟨_,SqL.of (sm _ _ fv.le),rfl⟩,?_⟩;have eb:(!!((gj ts w n v.2.2.2).map V.int).isEmpty)=jX ts w n v.2.2.2:=by
     rw[Bool.not_not,<-BL];cases gj ts w n v.2.2.2<;>rfl
    dsimp only;rw[eb];refine ite2 (fun c=> ?_) (fun c=> ?_)
    ·refine⟨_,rfl,⟨its2++[(v.2.1,v.2.2.2)],by rw[dB];rfl,fun q hq=> ?_,by rw[dB,g3,e,ak c];rfl⟩,sm,_,_,rfl⟩;rcases pI.mp hq with z|z
     ·exact g2 q z
     ·rw[kI.mp z];exact fv.so
    ·exact⟨⟨its2,rfl,g2,by rw[g3,e,aj c,Cu]⟩,sm,_,_,rfl⟩
  ·intro p1 hp1;obtain⟨⟨its2,rfl,g2,g3⟩,sm,_⟩:=p;have hle:(its.map fun q=>V.ref q.1).length=(bD ts w n).length:=by rw[aH,<-f3,aH]
   rw[hle,IK]at g3;have g4:its2.map (fun q=>q.2)=g8 ts w n:=g3;have hl2:its2.length=(g8 ts w n).length:=by rw[<-g4,aH]
   have h36:=qN (ts:=ts) (w:=w) h10;have s6:=bO hp1 (.lst (its2.map fun q=>V.ref q.1));refine⟨p1,its2,rfl,SqL.of aR,fun p hp=>⟨(sm.trans s6).tup (g2 p hp),fun h2=> ?_⟩,by omega,fun l its' hl hpm Xu=> ?_⟩
   ·exact K5 (ts:=ts) (w:=w) (n:=n) (by omega) p.2 (by rw[<-g4];exact kW.mpr ⟨p,hp,rfl⟩)
   ·have s7:=bO hl (.lst (its'.map fun q=>V.ref q.1));have s57:=s5.trans (sm.trans (s6.trans s7));refine q l (its'.map fun q=>q.2) _ s57 ⟨its',aR,fun p hp=>(sm.trans (s6.trans s7)).tup (g2 p (hpm.mem_iff.mp hp)),rfl⟩ ⟨?_,?_⟩ ((s5.trans (sm.trans s6)).free hl)
    ·rw[<-g4];exact hpm.map _
    ·rw[Ss];exact Xu
noncomputable def lU(K:W.Frag):Sp:=fun vs H Q _=>∃(a:Addr) (n:Int) (ts:L0),vs=[.ref a]/\fu K H a n ts/\∀r ss H',Same H H'->Ib K H' r ss->bM ss ts false n.toNat->H r=none->Q (.ref r) H'
theorem rJ{f f1 f2 f3:Addr}{fd d1 d2 d3:τ}(F:Fun K "full_apart" "full_apart" fL f fd)(D1:cZ K mg "need_web" Od ["thing"] f1 d1)(G1:FnOk P w K mg base CX0 7 f1 d1 ["thing"] (dI K))(D2:cZ K mg "full_sets" gO ["friends"] f2 d2)(G2:FnOk P w K mg base CX0 2 f2 d2 ["friends"] (nY K))(D3:cZ K mg "places_by_tie" X3 ["web","place","tied"] f3 d3)(G3:FnOk P w K mg base CX0 2 f3 d3 ["web","place","tied"] (zy K))(aF:mg "range"=none):
  FnOk P w K mg base CX0 8 f fd ["web"] (lU K):=by
 refine F.eF ["web"] fun cdv A outer s H vs Q E hr h=> ?_;obtain⟨a,n,ts,rfl,hA,q⟩:=h;refine bH ?_;intro Y;refine⟨_,(bf (Ae (pc G1 hr D1 (ao (pv 0) aA))) (bN (cT (pc G2 hr D2 (ao (pK ["place"] ["web"] [0] (CW rfl aF (ao (cM nH (pv 0) aY) aA)) (pG 0) tH (pc G3 hr D3 (ao (pv 1) (ao (pv 0) (ao pe_bl aA))))) aA))))),?_⟩;refine gn ?_;intro c2;have h0:=hA.h0;have h10:=hA.h1;refine⟨_,rfl,_,_,rfl,hA.web.dv.dx,hA.ok,fun H1 s1=> ?_⟩;have Xy:=hA.same s1;obtain⟨ta,ra,a1,a2,a3⟩:=id Xy.web;refine⟨_,rfl,a,_,_,.int n,rfl,rfl,a1,rfl,n,rfl,by omega,by omega,?_⟩;let jz:Nat->List V->St->Hp->Prop:=fun k acc σ H'=>(∃fas:List Addr,acc=fas.map V.ref/\fas.length=k/\∀(i:Nat) f,fas[i]? =some f->H' f=some (.lst ((jY ts false n.toNat (i:Int)).map V.int)))/\Same H1 H'/\∃o,σ=[o,some (.ref a)];refine Q7 (n:=n.toNat) jz ⟨⟨[],rfl,rfl,fun i f h=>by simp at h⟩,Same.refl _,_,rfl⟩ (fun k acc σ H' hk p=> ?_) (by rw[gA];omega) (fun k acc σ H' hk p=> ?_) (fun acc σ H' p=> ?_)
 ·obtain⟨⟨fas,rfl,hl,_⟩,_⟩:=p;rw[aH];omega
 ·obtain⟨⟨fas,rfl,hl,hf⟩,sm,o,rfl⟩:=p;have ek:(0+(k:Int))=(k:Int):=by omega
  rw[ek];refine⟨_,rfl,_,rfl,a,n,_,ts,false,rfl,Xy.same sm,fun r H5 s5 h5 n5=>⟨⟨fas++[r],by rw[dB];rfl,by rw[p7,hl];rfl,fun i f hi=> ?_⟩,sm.trans s5,_,rfl⟩⟩;by_cases c:i<fas.length
  ·rw[Yg c]at hi;exact s5 _ _ (hf i f hi)
  ·have hb:i<(fas++[r]).length:=(p8.mp hi).1;rw[p7]at hb;have e:i=fas.length:=by have:[r].length=1:=rfl;omega
   rw[e,Ws (aB _),Wz]at hi;cases hi;rw[e,hl];exact h5
 ·intro p1 hp1;obtain⟨⟨fas,rfl,hl,hf⟩,sm,_⟩:=p;have s6:=bO hp1 (.lst (fas.map V.ref));exact⟨p1,fas,ts,false,n.toNat,rfl,aR,hl,by omega,fun i f hi=>s6 _ _ (hf i f hi),fun r ss H7 s7 h7 h8 n7=>q r ss H7 (s1.trans (sm.trans (s6.trans s7))) h7 h8 ((s1.trans (sm.trans s6)).free n7)⟩
end
end Hs
namespace L2
open PySem PySem.Spec PyProof.Rows
theorem QZ{n:Nat}(h:n<=10^200):n<2^700:=Cz h (by decide+kernel)
section
variable{X:Cx}
theorem jT:OpR X (binaryOp .FloorDiv) (rI (fun _ j=>0<j/\j.natAbs<=10^200) fun i j=> .int (i/j)):=opI fun i j _ _ _ _ _ hc q=>by
 have h1:(0:Int)<j:=hc.1;refine floordiv_int (by omega) ?_ (Or.inl (wey ?_))
 ·rw[Yh _ (by omega)];exact q
 ·have h3:j.natAbs≠0:=by omega
  have h4:=(Nat.log2_lt h3).mpr (QZ hc.2);omega
end
end L2
namespace Hs
open PySem L2 wk
theorem vg(m n:Nat):Nat.gcd n (m %n)=Nat.gcd m n:=by
 rw[Nat.gcd_comm m n,Nat.gcd_rec n m,Nat.gcd_comm]
structure Low(a:Int)(b:Nat)(u:Int)(v:Nat):Prop where
 pos:0<v
 cop:Nat.gcd u.natAbs v=1
 eq:u*(b:Int)=a*(v:Int)
 lu:u.natAbs<=a.natAbs
 lv:v<=b
 nn:0<=a->0<=u
theorem xU(a:Int)(b:Nat)(hb:0<b):Low a b (a/((Nat.gcd a.natAbs b:Nat):Int)) (b/Nat.gcd a.natAbs b):=by
 have hg:0<Nat.gcd a.natAbs b:=Zh _ hb;obtain⟨x,hx⟩:((Nat.gcd a.natAbs b:Nat):Int)∣a:=Int.natAbs_dvd_natAbs.mp (by rw[SJ];exact Yy _ _);obtain⟨y,hy⟩:=Ra a.natAbs b;generalize hgg:Nat.gcd a.natAbs b=g at *;have e1:a/(g:Int)=x:=by rw[hx];exact Zi _ (by omega)
 have e2:b/g=y:=by rw[hy];exact Aj _ hg
 rw[e1,e2];have hna:a.natAbs=g*x.natAbs:=by rw[hx,Sg];rfl
 have hy0:0<y:=by
  rcases Wd y with h|h
  ·subst h;simp at hy;omega
  ·exact h
 refine⟨hy0,?_,?_,?_,?_,fun h=> ?_⟩
 ·have h2:Nat.gcd (g*x.natAbs) (g*y)=g:=by rw[<-hna,<-hy];exact hgg
  rw[Nat.gcd_mul_left]at h2;have h3:g*Nat.gcd x.natAbs y=g*1:=by omega
  exact Nat.eq_of_mul_eq_mul_left hg h3
 ·rw[hx];have:(b:Int)=(g:Int)*(y:Int):=by rw[hy];exact Yu _ _
  rw[this,yS (g:Int) x,Tt]
 ·rw[hna];exact wfv _ hg
 ·rw[hy];exact wfv _ hg
 ·rw[<-e1];exact Int.ediv_nonneg h (by omega)
theorem abs_eq(i:Int):(if i<0 then -i else i)=((i.natAbs:Nat):Int):=by split<;>omega
theorem GK(a:Int)(b:Nat)(hb:0<b):Nat.gcd a.natAbs b<=b:=WQ hb (Ra _ _)
section
variable{P:ρ}{w:υ}{K:W.Frag}{mg:L4}{base:Heap}
noncomputable def Oz(K:W.Frag):Sp:=fun vs H Q _=>∃(m n:Nat),vs=[.int m,.int n]/\Q (.int ((Nat.gcd m n:Nat):Int)) H
theorem Us{f:Addr}{fd:τ}(F:Fun K "greatest_divisor" "greatest_divisor" Wb f fd):FnOk P w K mg base CX0 1 f fd ["one","other"] (Oz K):=by
 refine F.eF ["one","other","rest"] fun cdv A outer s H vs Q E hr h=> ?_;obtain⟨m,n,rfl,q⟩:=h;refine bH ?_;intro Y;refine⟨_,bf (ps_while v9 (pt_truth (pv 1) (fun _=>rfl)) (bf (pS 2 (cH op_mod (pv 0) (pv 1))) (bf (pS 0 (pv 1)) (bN (pS 1 (pv 2)))))) (bN (cT (pv 0))),?_⟩;refine gn ?_;intro c2;refine⟨fun k σ H'=>H'=H/\∃(m':Nat) (r:Option V),σ=[some (.int (m':Int)),some (.int (k:Int)),r]/\Nat.gcd m' k=Nat.gcd m n,⟨n,rfl,m,_,rfl,rfl⟩,?_⟩;rintro k σ H' ⟨rfl,m',r,rfl,hg⟩;refine⟨_,rfl,_,rfl,?_⟩;refine ite2 (fun c=> ?_) (fun c=> ?_)
 ·have hk:0<k:=by
   rcases Wd k with h|h
   ·subst h;exact absurd c (by decide)
   ·exact h
  refine⟨fun σ' H2=>H2=H'/\∃r',σ'=[some (.int (k:Int)),some (.int ((m' %k:Nat):Int)),r'],fun σ' H2 ⟨e1,r',e2⟩=>⟨m' %k,Wu _ hk,e1,k,r',e2,?_⟩,?_⟩
  ·rw[vg];exact hg
  ·exact⟨_,rfl,_,rfl,_,_,rfl,rfl,Jl.mpr hk,_,rfl,_,rfl,rfl,_,rfl⟩
 ·have hk:k=0:=by
   rcases Wd k with h|h
   ·exact h
   ·exfalso;apply c;show((k:Int) !=0)=true;simp;omega
  subst hk;rw[Nat.gcd_zero_right]at hg;refine⟨_,rfl,?_⟩;rw[hg];exact q
noncomputable def zu(K:W.Frag):Sp:=fun vs H Q _=>∃(a:Int) (b:Nat),vs=[.int a,.int b]/\0<b/\b<=10^200/\∀p H' u v,Same H H'->H' p=some (.tup [.int u,.int ((v:Nat):Int)])->Low a b u v->Q (.ref p) H'
theorem zP{H:Hp}{a:Int}{b:Nat}{p:Addr}(hp:H p=none):(upd H p (.tup [.int (a/((Nat.gcd a.natAbs b:Nat):Int)),.int ((b:Int)/((Nat.gcd a.natAbs b:Nat):Int))])) p=some (.tup [.int (a/((Nat.gcd a.natAbs b:Nat):Int)),.int (((b/Nat.gcd a.natAbs b:Nat)):Int)]):=by
 rw[aR,Yx]
theorem Qf{f f1:Addr}{fd d1:τ}(F:Fun K "lowest" "lowest" gK f fd)(D1:cZ K mg "greatest_divisor" Wb ["one","other"] f1 d1)(G1:FnOk P w K mg base CX0 1 f1 d1 ["one","other"] (Oz K))(mA:mg "abs"=none):
  FnOk P w K mg base CX0 2 f fd ["a","b"] (zu K):=by
 refine F.eF ["a","b","by"] fun cdv A outer s H vs Q E hr h=> ?_;obtain⟨a,b,rfl,hb,hB,q⟩:=h;refine bH ?_;intro Y;refine⟨_,bf (pS 2 (pc G1 hr D1 (ao (pB call_abs mA (ao (pv 0) aA)) (ao (pv 1) aA)))) (bN (cT (tV (ao (cH jT (pv 0) (pv 2)) (ao (cH jT (pv 1) (pv 2)) aA))))),?_⟩;refine gn ?_;intro c2;refine⟨_,rfl,a,rfl,_,rfl,a.natAbs,b,?_,?_⟩
 ·rw[abs_eq];rfl
 have hg:0<Nat.gcd a.natAbs b:=Zh _ hb;have hg2:(((Nat.gcd a.natAbs b:Nat):Int)).natAbs<=10^200:=dD (GK a b hb) hB;refine⟨_,rfl,_,rfl,_,_,rfl,rfl,⟨Jl.mpr hg,hg2⟩,_,rfl,_,rfl,_,_,rfl,rfl,⟨Jl.mpr hg,hg2⟩,(by show 2<=sizeLine;decide),fun p hp=> ?_⟩;exact q p _ _ _ (bO hp _) (zP hp) (xU a b hb)
noncomputable def aM(n:Nat)(X:Nat->Int):List V:=((List.range (n+1)).map X).map V.int
noncomputable def bK(n:Nat)(c:Nat->Nat):List Int:=(List.range n).map fun k=>((c k:Nat):Int)
noncomputable def flds(cl co ro:Addr)(o:Int):List (Str×V):=[("cells",.ref cl),("over",.int o),("columns",.ref co),("rows",.ref ro)]
structure bV(K:W.Frag)(C:Addr)(H0 H:Hp)(o dx cl co ro:Addr)(rws:List Addr)(n m:Nat)(T:Sx.Tab):Prop where
 same:Same H0 H
 o0:H0 o=none
 QT:H0 cl=none
 NT:H0 co=none
 M9:H0 ro=none
 ne:co≠ro
 nc:co∉rws
 nr:ro∉rws
 at_:H o=some (.ins C dx (flds cl co ro T.over))
 cells:H cl=some (.lst (rws.map V.ref))
 len:rws.length=m+1
 row:∀r a,rws[r]? =some a->H a=some (.lst (aM n (T.cell r)))
 cols:H co=some (.lst ((bK n T.col).map V.int))
 rows:H ro=some (.lst ((bK m T.row).map V.int))
noncomputable def iu(K:W.Frag)(C:Addr)(H0 H:Hp)(o:Addr)(n m:Nat)(T:Sx.Tab):Prop:=∃dx cl co ro rws,bV K C H0 H o dx cl co ro rws n m T
theorem bV.sm{C:Addr}{H0 H H':Hp}{o dx cl co ro:Addr}{rws:List Addr}{n m:Nat}{T:Sx.Tab}(h:bV K C H0 H o dx cl co ro rws n m T)(s:Same H H'):bV K C H0 H' o dx cl co ro rws n m T:=
 ⟨h.same.trans s,h.o0,h.QT,h.NT,h.M9,h.ne,h.nc,h.nr,s _ _ h.at_,s _ _ h.cells,h.len,fun r a e=>s _ _ (h.row r a e),s _ _ h.cols,s _ _ h.rows⟩
theorem iu.sm{C:Addr}{H0 H H':Hp}{o:Addr}{n m:Nat}{T:Sx.Tab}(h:iu K C H0 H o n m T)(s:Same H H'):iu K C H0 H' o n m T:=by
 obtain⟨dx,cl,co,ro,rws,h⟩:=h;exact⟨dx,cl,co,ro,rws,h.sm s⟩
structure TG(n m:Nat)(S:Nat->Nat->Bool)(wt:Nat->Int)(T:Sx.Tab):Prop where
 good:Sx.Good n m S wt T
 n10:n<=10
 U3:m<=40
 wb:∀p,p<n->0<=wt p/\wt p<=99
 cov:∀p,p<n->∃k,k<m/\S k p=true
theorem TG.cell{n m:Nat}{S:Nat->Nat->Bool}{wt:Nat->Int}{T:Sx.Tab}(h:TG n m S wt T){r c:Nat}(hr:r<=m)(hc:c<=n): -4000000000<=T.cell r c/\T.cell r c<=4000000000:=by
 have a:=h.good.HF h.wb hr hc;have b:=Sx.Ho (k:=n+1) (by have:=h.n10;omega);omega
theorem TG.over{n m:Nat}{S:Nat->Nat->Bool}{wt:Nat->Int}{T:Sx.Tab}(h:TG n m S wt T):0<T.over/\T.over<=39916800:=by
 have a:=h.good.zJ;have b:=Sx.Ho (k:=n+1) (by have:=h.n10;omega);exact⟨h.good.pos,by omega⟩
theorem Ag(n:Nat)(X:Nat->Int):(aM n X).length=n+1:=by unfold aM;rw[aH,aH,pZ]
theorem jM{n c:Nat}(X:Nat->Int)(h:c<=n):(aM n X)[c]? =some (.int (X c)):=by
 unfold aM;rw[dX,dX,Rg (by omega)];rfl
theorem Io{n c:Nat}(X:Nat->Int)(h:c<=n):atI (aM n X) (c:Int)=some (.int (X c)):=atI_nat (jM X h)
theorem atI_last{xs:List V}{v:V}(h:xs[xs.length-1]? =some v)(h0:0<xs.length):atI xs (-1)=some v:=by
 have e:ixN xs.length (-1)=some (xs.length-1):=by
  unfold ixN;rw[aj (by decide),ak (by omega)];congr 1;omega
 unfold atI;rw[e];exact h
theorem lB(n:Nat)(X:Nat->Int):atI (aM n X) (-1)=some (.int (X n)):=atI_last (by rw[Ag];exact jM X (aB n)) (by rw[Ag];omega)
theorem Ah(n:Nat)(c:Nat->Nat):(bK n c).length=n:=by unfold bK;rw[aH,pZ]
theorem yP{n k:Nat}(c:Nat->Nat)(h:k<n):(bK n c)[k]? =some ((c k:Nat):Int):=by
 unfold bK;rw[dX,Rg h];rfl
theorem jU{n k:Nat}(c:Nat->Nat)(h:k<n):atI ((bK n c).map V.int) (k:Int)=some (.int ((c k:Nat):Int)):=atI_nat (by rw[dX,yP c h];rfl)
theorem qH{n k:Nat}(c:Nat->Nat)(v:Nat)(h:k<n):(bK n c).set k (v:Int)=bK n (fun i=>if i=k then v else c i):=by
 refine Sy fun i=> ?_;rw[Xb];by_cases hi:i<n
 ·rw[yP _ hi,yP _ hi,Ah];by_cases e:k=i
  ·rw[ak e,ak h,ak e.symm]
  ·rw[aj e,aj (iU e)]
 ·rw[Jo (by rw[Ah];omega),Jo (by rw[Ah];omega),aj (by omega)]
theorem bV.Ba{C:Addr}{H0 H:Hp}{o dx cl co ro:Addr}{rws:List Addr}{n m:Nat}{T:Sx.Tab}(h:bV K C H0 H o dx cl co ro rws n m T){r:Nat}(hr:r<=m):∃a,rws[r]? =some a/\atI (rws.map V.ref) (r:Int)=some (.ref a)/\H a=some (.lst (aM n (T.cell r))):=by
 have hl:=h.len;have e:rws[r]? =some rws[r]:=dJ (by omega);exact⟨rws[r],e,atI_nat (by rw[dX,e];rfl),h.row r _ e⟩
theorem bV.Ug{C:Addr}{H0 H:Hp}{o dx cl co ro:Addr}{rws:List Addr}{n m:Nat}{T:Sx.Tab}(h:bV K C H0 H o dx cl co ro rws n m T):∃a,rws[m]? =some a/\atI (rws.map V.ref) (-1)=some (.ref a)/\H a=some (.lst (aM n (T.cell m))):=by
 obtain⟨a,e,_,f⟩:=h.Ba (aB m);exact⟨a,e,atI_last (by rw[aH,h.len,dX,YW,e];rfl) (by rw[aH,h.len];omega),f⟩
noncomputable def Ea(K:W.Frag)(C:Addr):Sp:=fun vs H Q _=>∃(o:Addr) (H0:Hp) (n m:Nat) (S:Nat->Nat->Bool) (wt:Nat->Int) (T:Sx.Tab),vs=[.ref o]/\iu K C H0 H o n m T/\TG n m S wt T/\
 ((∀c,c<n->0<=T.cell m c)->∀H',Same H H'->Q .non H')/\∀(q:Nat) H',q<n->T.cell m q<0->(∀c,c<n->T.cell m c<0->T.col q<=T.col c)->Same H H'->Q (.int (q:Int)) H'
theorem Qa{f C:Addr}{fd:τ}(F:Fun K "next_column" "Tableau.next_column" Ye f fd)
  (Cc:Cls K C)(aN:NoAttr K C "cells")(cF:NoAttr K C "over")(aL:NoAttr K C "columns")(bU:NoAttr K C "rows")(bZ:mg "enumerate"=none)(Gj:mg "min"=none):
  FnOk P w K mg base CX0 1 f fd ["self"] (Ea K C):=by
 refine F.eF ["self","worth","names"] fun cdv A outer s H vs Q E hr h=> ?_;obtain⟨o,H0,n,m,S,wt,T,rfl,⟨dx,cl,co,ro,rws,hT⟩,hG,q1,q2⟩:=h;refine bH ?_;intro Y;refine⟨_,(bf (pS 1 (cM lN (kO (pv 0) rfl) (pe_un un_neg aY))) (bf (pX 2 ["k","name"] ["worth"] [1] (jQ rfl bZ (ao (kO (pv 0) rfl) aA)) (eE K (n:=2) rfl (mH (pG 0) (mH (pG 1) Cp))) (dZ (gF op_lt (cM (dM K) (pv 2) (pv 0)) aY)) (pv 1)) (bN (cT (pe_ifExp (pt_truth (pv 2) (fun _=>rfl)) (pe_bm Mt Zc Zb lE (kO (pv 0) rfl) (ao (pB (Cd rfl) Gj (ao (pv 2) aA)) aA)) pe_non))))),?_⟩;refine qM ?_;intro c3 c2;obtain⟨za,ze,zi,zr⟩:=hT.Ug;refine⟨_,rfl,o,C,dx,_,_,rfl,hT.at_,Cc,aN,rfl,_,rfl,cl,_,_,_,rfl,rfl,SqL.of hT.cells,zi,?_⟩;refine⟨_,rfl,o,C,dx,_,_,rfl,hT.at_,Cc,aL,rfl,false,co,_,rfl,SqL.of hT.cols,fun hz=> ?_⟩;let jz:Nat->List V->St->Hp->Prop:=fun i acc σ H'=>acc=(((List.range i).filter fun c=>decide (T.cell m c<0)).map fun c=>((T.col c:Nat):Int)).map V.int/\Same H H'/\∃o1 o2,σ=[o1,o2,some (.ref za)];refine iK (K:=K) (b:=false) (a:=co) (xs:=(bK n T.col).map V.int) jz ⟨rfl,Same.refl _,_,_,rfl⟩ (fun i acc σ H' _ p=>p.2.1.seq (SqL.of hT.cols)) (fun i acc σ H' _ p=> ?_) hz (fun i v t acc σ H' hv p ht=> ?_) (fun acc σ H' p=> ?_)
 ·rw[p.1,aH,aH];exact dD (Ai _ _) (by rw[pZ];exact aB _)
 ·obtain⟨rfl,sm,o1,o2,rfl⟩:=p;have hi:i<n:=by
   have:=(p8.mp hv).1;rw[aH,Ah]at this;exact this
  rw[dX,yP _ hi]at hv;cases hv;have s1:=bO ht (.tup [.int (i:Int),.int ((T.col i:Nat):Int)]);refine⟨t,_,rfl,SqT.of aR,rfl,_,_,rfl,_,_,rfl,rfl,?_⟩;refine⟨_,rfl,_,rfl,za,_,_,_,rfl,rfl,SqL.of ((sm.trans s1) _ _ zr),Io _ (cD hi),_,_,rfl,rfl,_,rfl,?_⟩;have go:((List.range (i+1)).filter fun c=>decide (T.cell m c<0))=((List.range i).filter fun c=>decide (T.cell m c<0))++(if decide (T.cell m i<0)=true then[i]else[]):=by
   rw[tM,Cy];congr 1;rw[IV];split<;>rfl
  refine ite2 (fun c=> ?_) (fun c=> ?_)
  ·exact⟨_,rfl,by rw[go,ak c,dB,dB];rfl,sm.trans s1,_,_,rfl⟩
  ·exact⟨by rw[go,aj c,Cu],sm.trans s1,_,_,rfl⟩
 ·intro p1 hp1;obtain⟨rfl,sm,_⟩:=p;rw[aH,Ah];have s1:=bO hp1 (.lst ((((List.range n).filter fun c=>decide (T.cell m c<0)).map fun c=>((T.col c:Nat):Int)).map V.int));have e1:(upd H' p1 (.lst ((((List.range n).filter fun c=>decide (T.cell m c<0)).map fun c=>((T.col c:Nat):Int)).map V.int))) p1=some (.lst ((((List.range n).filter fun c=>decide (T.cell m c<0)).map fun c=>((T.col c:Nat):Int)).map V.int)):=aR;have s2:=sm.trans s1;generalize (upd H' p1 (.lst ((((List.range n).filter fun c=>decide (T.cell m c<0)).map fun c=>((T.col c:Nat):Int)).map V.int)))=H1 at *;have hT1:=hT.sm s2;refine⟨_,rfl,_,.inl ⟨_,SqL.of e1,rfl⟩,?_⟩;cases hl:(List.range n).filter fun c=>decide (T.cell m c<0)with
  |nil=>
   refine iteF ?_;refine q1 (fun c hc=>Int.not_lt.mp fun hn=> ?_) _ s2;have:c∈(List.range n).filter fun c=>decide (T.cell m c<0):=iM.mpr ⟨nM.mpr hc,cU hn⟩;rw[hl]at this;cases this
  |cons c0 rest=>
   rw[hl]at e1;refine iteT ?_;refine⟨_,rfl,o,C,dx,_,_,rfl,hT1.at_,Cc,aL,rfl,.inl ⟨rfl,_,SqL.of hT1.cols⟩,_,rfl,p1,_,rfl,SqL.of e1,(fun e=>nomatch e),fun mn hmn hle=> ?_⟩;rw[<-hl]at hmn hle;obtain⟨c,hc,rfl⟩:=kW.mp hmn;obtain⟨hc1,hc2⟩:=iM.mp hc;have hcn:=nM.mp hc1;refine⟨co,bK n T.col,_,c,rfl,rfl,hT1.cols,yP _ hcn,fun i hi e=> ?_,by rw[Ah];have:=hG.n10;omega,?_⟩
   ·rw[yP _ (by omega)]at e;have:T.col i=T.col c:=Tq (pQ e);have:=hG.good.yg i c (by omega) hcn this;omega
   ·refine q2 c _ hcn (kJ hc2) (fun c' hc' hn=> ?_) s2;have:=hle _ (kW.mpr ⟨c',iM.mpr ⟨nM.mpr hc',cU hn⟩,rfl⟩);omega
noncomputable def Rw(n q:Nat)(T:Sx.Tab)(r t:Nat):Bool:=decide (T.cell r n*T.cell t q<T.cell t n*T.cell r q)||(decide (T.cell r n*T.cell t q=T.cell t n*T.cell r q)&&decide (T.row r<T.row t))
noncomputable def MJ(K:W.Frag)(C:Addr):Sp:=fun vs H Q _=>∃(o:Addr) (H0:Hp) (n m q r t:Nat) (S:Nat->Nat->Bool) (wt:Nat->Int) (T:Sx.Tab),vs=[.ref o,.int (q:Int),.int (r:Int),.int (t:Int)]/\iu K C H0 H o n m T/\TG n m S wt T/\q<n/\r<m/\t<m/\Q (.bl (Rw n q T r t)) H
theorem PB{f C:Addr}{fd:τ}(F:Fun K "is_tighter" "Tableau.is_tighter" Yd f fd)
  (Cc:Cls K C)(aN:NoAttr K C "cells")(cF:NoAttr K C "over")(aL:NoAttr K C "columns")(bU:NoAttr K C "rows"):
  FnOk P w K mg base CX0 1 f fd ["self","column","row","other"] (MJ K C):=by
 refine F.eF ["self","column","row","other","one","two"] fun cdv A outer s H vs Q E hr h=> ?_;obtain⟨o,H0,n,m,q,r,t,S,wt,T,rfl,⟨dx,cl,co,ro,rws,hT⟩,hG,hq,hr0,ht,qq⟩:=h;refine bH ?_;intro Y;refine⟨_,(bf (pS 4 (cH yN (cM lN (cM lN (kO (pv 0) rfl) (pv 2)) (pe_un un_neg aY)) (cM lN (cM lN (kO (pv 0) rfl) (pv 3)) (pv 1)))) (bf (pS 5 (cH yN (cM lN (cM lN (kO (pv 0) rfl) (pv 3)) (pe_un un_neg aY)) (cM lN (cM lN (kO (pv 0) rfl) (pv 2)) (pv 1)))) (bN (cT (pe_or (Je op_lt (pv 4) (pv 5)) (Ac (yO (Je op_eq (pv 4) (pv 5)) (Ac (Je op_lt (cM lN (kO (pv 0) rfl) (pv 2)) (cM lN (kO (pv 0) rfl) (pv 3))))))))))),?_⟩;refine qM ?_;intro c3 c2;obtain⟨ra,re,ri,rr⟩:=hT.Ba (cD hr0);obtain⟨ta,te,ti,tr⟩:=hT.Ba (cD ht);have b1:=hG.cell (cD hr0) (aB n);have b2:=hG.cell (cD ht) (aB n);refine⟨_,rfl,o,C,dx,_,_,rfl,hT.at_,Cc,aN,rfl,_,rfl,cl,_,_,_,rfl,rfl,SqL.of hT.cells,ri,_,rfl,ra,_,_,_,rfl,rfl,SqL.of rr,lB _ _,?_⟩;refine⟨_,rfl,o,C,dx,_,_,rfl,hT.at_,Cc,aN,rfl,_,rfl,cl,_,_,_,rfl,rfl,SqL.of hT.cells,ti,_,rfl,ta,_,_,_,rfl,rfl,SqL.of tr,Io _ (cD hq),_,_,rfl,rfl,.inl ⟨by omega,by omega⟩,?_⟩;refine⟨_,rfl,o,C,dx,_,_,rfl,hT.at_,Cc,aN,rfl,_,rfl,cl,_,_,_,rfl,rfl,SqL.of hT.cells,ti,_,rfl,ta,_,_,_,rfl,rfl,SqL.of tr,lB _ _,?_⟩;refine⟨_,rfl,o,C,dx,_,_,rfl,hT.at_,Cc,aN,rfl,_,rfl,cl,_,_,_,rfl,rfl,SqL.of hT.cells,ri,_,rfl,ra,_,_,_,rfl,rfl,SqL.of rr,Io _ (cD hq),_,_,rfl,rfl,.inl ⟨by omega,by omega⟩,?_⟩;refine⟨_,rfl,_,rfl,_,_,rfl,rfl,_,rfl,?_⟩;unfold Rw at qq;refine ite2 (fun c=> ?_) (fun c=> ?_)
 ·rw[c,Bool.true_or]at qq;exact qq
 ·rw[eq_false_of_ne_true c,Bool.false_or]at qq;refine⟨_,rfl,_,rfl,rfl,_,rfl,?_⟩;refine ite2 (fun c2=> ?_) (fun c2=> ?_)
  ·have c2':decide (T.cell r n*T.cell t q=T.cell t n*T.cell r q)=true:=cU (V.int.inj (kJ c2));rw[c2',Tp]at qq;refine⟨_,rfl,o,C,dx,_,_,rfl,hT.at_,Cc,bU,rfl,_,rfl,ro,_,_,_,rfl,rfl,SqL.of hT.rows,jU _ hr0,?_⟩;refine⟨_,rfl,o,C,dx,_,_,rfl,hT.at_,Cc,bU,rfl,_,rfl,ro,_,_,_,rfl,rfl,SqL.of hT.rows,jU _ ht,_,_,rfl,rfl,?_⟩;rw[<-show decide (((T.row r:Nat):Int)<((T.row t:Nat):Int))=decide (T.row r<T.row t)from decide_eq_decide.mpr Jl]at qq;exact qq
  ·have c2':decide (T.cell r n*T.cell t q=T.cell t n*T.cell r q)=false:=gB fun e=>c2 (cU (gD V.int e));rw[c2',Yp]at qq;exact qq
noncomputable def Oa(n q:Nat)(T:Sx.Tab)(p r:Nat):Prop:=T.cell p n*T.cell r q<T.cell r n*T.cell p q\/(T.cell p n*T.cell r q=T.cell r n*T.cell p q/\T.row p<=T.row r)
theorem BJ{n q:Nat}{T:Sx.Tab}{a b c:Nat}(ha:0<T.cell a q)(hb:0<T.cell b q)(hc:0<T.cell c q)(h1:Oa n q T a b)(h2:Oa n q T b c):Oa n q T a c:=by
 have cm:∀x y:Nat,T.cell x n*T.cell y q=T.cell y q*T.cell x n:=fun x y=>yS _ _;have cn:∀x y:Nat,T.cell y n*T.cell x q=T.cell x q*T.cell y n:=fun x y=>yS _ _;unfold Oa at *;rw[cm a b,cn a b]at h1;rw[cm b c,cn b c]at h2;rw[cm a c,cn a c];rcases h1 with h1|⟨h1,l1⟩
 ·rcases h2 with h2|⟨h2,_⟩
  ·exact .inl (Sx.rY hb ha hc (Cq h1) h2)
  ·exact .inl (Sx.vp hb ha hc h1 (Ti h2))
 ·rcases h2 with h2|⟨h2,l2⟩
  ·exact .inl (Sx.rY hb ha hc (Ti h1) h2)
  ·exact .inr ⟨Yr (Sx.rZ hb ha hc (Ti h1) (Ti h2)) (Sx.rZ hb hc ha (by rw[<-h2];exact yR _) (by rw[<-h1];exact yR _)),dD l1 l2⟩
theorem Ow{n q:Nat}{T:Sx.Tab}{r t:Nat}(h:Rw n q T r t=true):Oa n q T r t:=by
 unfold Rw at h;rw[WY,CG]at h;rcases h with h|⟨h1,h2⟩
 ·exact .inl (kJ h)
 ·exact .inr ⟨kJ h1,cD (kJ h2)⟩
theorem T5{n q:Nat}{T:Sx.Tab}{r t:Nat}(h:Rw n q T r t=false):Oa n q T t r:=by
 unfold Rw at h;rw[Bool.or_eq_false_iff,Bool.and_eq_false_iff]at h;have h1:=Mq h.1;by_cases c:T.cell r n*T.cell t q=T.cell t n*T.cell r q
 ·refine .inr ⟨c.symm,?_⟩;rcases h.2 with z|z
  ·exact absurd c (Mq z)
  ·exact Nat.not_lt.mp (Mq z)
 ·exact .inl (by omega)
noncomputable def MN(K:W.Frag)(C:Addr):Sp:=fun vs H Q _=>∃(o:Addr) (H0:Hp) (n m q:Nat) (S:Nat->Nat->Bool) (wt:Nat->Int) (T:Sx.Tab),vs=[.ref o,.int (q:Int)]/\iu K C H0 H o n m T/\TG n m S wt T/\q<n/\
 ∀p:Nat,p<m->0<T.cell p q->(∀r,r<m->0<T.cell r q->Oa n q T p r)->Q (.int (p:Int)) H
theorem P0{f f1 C:Addr}{fd d1:τ}(F:Fun K "next_row" "Tableau.next_row" X8 f fd)
  (Cc:Cls K C)(aN:NoAttr K C "cells")(cF:NoAttr K C "over")(aL:NoAttr K C "columns")(bU:NoAttr K C "rows")(D1:Cg K C "is_tighter" "Tableau.is_tighter" Yd ["self","column","row","other"] f1 d1)(G1:FnOk P w K mg base CX0 1 f1 d1 ["self","column","row","other"] (MJ K C))(aF:mg "range"=none)(cA:mg "len"=none):
  FnOk P w K mg base CX0 2 f fd ["self","column"] (MN K C):=by
 refine F.eF ["self","column","tightest","row"] fun cdv A outer s H vs Q E hr h=> ?_;obtain⟨o,H0,n,m,q,S,wt,T,rfl,⟨dx,cl,co,ro,rws,hT⟩,hG,hq,qq⟩:=h;refine⟨_,(bf (pS 2 pe_non) (bf (Ad v9 rfl (CW rfl aF (ao (pB v7 cA (ao (kO (pv 0) rfl) aA)) aA)) (pG 3) (bN (pF (PW.pt (pw_and (gF op_gt (cM lN (cM lN (kO (pv 0) rfl) (pv 3)) (pv 1)) aY) (pw_and1 (PW.pt (pw_or (gF op_isN (pv 2) pe_non) (pw_or1 (vY (Jf (pv 0) Cc D1.m G1 hr D1.b .nil pass0 (ao (pv 1) (ao (pv 3) (ao (pv 2) aA))))))))))) (bN (pS 2 (pv 3))) pH))) (bN (cT (pv 2))))),?_⟩;refine⟨_,rfl,o,C,dx,_,_,rfl,hT.at_,Cc,bU,rfl,ro,_,rfl,.inl (SqL.of hT.rows),fun _=> ?_⟩;rw[aH,Ah];refine⟨_,rfl,by have:=hG.U3;omega,by have:=hG.U3;omega,?_⟩;refine Ji (n:=m) (fun i σ H'=>H'=H/\∃(x:V) (o3:Option V),σ=[some (.ref o),some (.int (q:Int)),some x,o3]/\((x= .non/\∀r,r<i->T.cell r q<=0)\/∃p:Nat,p<i/\x= .int (p:Int)/\0<T.cell p q/\∀r,r<i->0<T.cell r q->Oa n q T p r)) ⟨rfl,_,_,rfl,.inl ⟨rfl,fun r hr=>absurd hr (Lz r)⟩⟩ (fun i σ H' hi p=> ?_) (fun σ H' p=> ?_)
 ·obtain⟨rfl,x,o3,rfl,hx⟩:=p;rw[Tj];obtain⟨ra,re,ri,rr⟩:=hT.Ba (cD hi);refine⟨_,rfl,o,C,dx,_,_,rfl,hT.at_,Cc,aN,rfl,_,rfl,cl,_,_,_,rfl,rfl,SqL.of hT.cells,ri,_,rfl,ra,_,_,_,rfl,rfl,SqL.of rr,Io _ (cD hq),_,_,rfl,rfl,_,rfl,?_⟩;refine ite2 (fun c=> ?_) (fun c=> ?_)
  ·have c':0<T.cell i q:=kJ c;rcases hx with⟨rfl,hx⟩|⟨p,hp,rfl,hp0,hlev⟩
   ·refine⟨_,rfl,rfl,_,rfl,?_⟩;refine iteT ?_;refine iteT ?_;refine⟨_,rfl,rfl,_,_,rfl,.inr ⟨i,pL i,rfl,c',fun r hr h0=> ?_⟩⟩;by_cases e:r=i
    ·subst e;exact .inr ⟨rfl,aB _⟩
    ·have:=hx r (by omega);omega
   ·refine⟨_,rfl,rfl,_,rfl,?_⟩;refine iteF ?_;refine⟨_,rfl,o,dx,_,rfl,hT.at_,rfl,_,rfl,_,rfl,_,rfl,o,H0,n,m,q,i,p,S,wt,T,rfl,⟨dx,cl,co,ro,rws,hT⟩,hG,hq,hi,by omega,_,rfl,?_⟩;refine ite2 (fun z=> ?_) (fun z=> ?_)
    ·refine⟨_,rfl,rfl,_,_,rfl,.inr ⟨i,pL i,rfl,c',fun r hr h0=> ?_⟩⟩;by_cases e:r=i
     ·subst e;exact .inr ⟨rfl,aB _⟩
     ·exact BJ c' hp0 h0 (Ow z) (hlev r (by omega) h0)
    ·refine⟨rfl,_,_,rfl,.inr ⟨p,by omega,rfl,hp0,fun r hr h0=> ?_⟩⟩;by_cases e:r=i
     ·subst e;exact T5 (eq_false_of_ne_true z)
     ·exact hlev r (by omega) h0
  ·refine iteF ?_;have c':T.cell i q<=0:=Int.not_lt.mp fun h=>c (cU h);refine⟨rfl,_,_,rfl,?_⟩;rcases hx with⟨rfl,hx⟩|⟨p,hp,rfl,hp0,hlev⟩
   ·refine .inl ⟨rfl,fun r hr=> ?_⟩;by_cases e:r=i
    ·subst e;exact c'
    ·exact hx r (by omega)
   ·refine .inr ⟨p,by omega,rfl,hp0,fun r hr h0=> ?_⟩;by_cases e:r=i
    ·subst e;omega
    ·exact hlev r (by omega) h0
 ·obtain⟨rfl,x,o3,rfl,hx⟩:=p;rcases hx with⟨rfl,hx⟩|⟨p,hp,rfl,hp0,hlev⟩
  ·obtain⟨r,hr0,h0⟩:=hG.good.bounded hG.cov hq;have:=hx r hr0;omega
  ·exact⟨_,rfl,qq p hp hp0 hlev⟩
noncomputable def Xj(ov:Int)(X Y:Nat->Int)(q c:Nat):Int:=if c=q then -X q else(X c*Y q-X q*Y c)/ov
theorem uF{n q:Nat}(X:Nat->Int)(v:Int)(h:q<=n):(aM n X).set q (.int v)=aM n fun c=>if c=q then v else X c:=by
 refine Sy fun i=> ?_;rw[Xb];by_cases hi:i<=n
 ·rw[jM _ hi,jM _ hi,Ag];by_cases e:q=i
  ·rw[ak e,ak (by omega),ak e.symm]
  ·rw[aj e,aj (iU e)]
 ·rw[Jo (by rw[Ag];omega),Jo (by rw[Ag];omega),aj (by omega)]
theorem jl{n:Nat}{X Y:Nat->Int}(h:∀c,c<=n->X c=Y c):aM n X=aM n Y:=by
 unfold aM;rw[Y4 fun c hc=>h c (by have:=nM.mp hc;omega)]
noncomputable def MK(K:W.Frag)(C:Addr):Sp:=fun vs H Q _=>∃(o xa ya:Addr) (H0:Hp) (n m q:Nat) (X Y:Nat->Int) (T:Sx.Tab),vs=[.ref o,.ref xa,.ref ya,.int (q:Int)]/\iu K C H0 H o n m T/\n<=10/\(0<T.over/\T.over<=39916800)/\q<=n/\H xa=some (.lst (aM n X))/\H ya=some (.lst (aM n Y))/\
 (∀c,c<=n->(-4000000000<=X c/\X c<=4000000000)/\(-4000000000<=Y c/\Y c<=4000000000))/\∀r H',Same H H'->H r=none->H' r=some (.lst (aM n (Xj T.over X Y q)))->Q (.ref r) H'
theorem PJ{f C:Addr}{fd:τ}(F:Fun K "turned" "Tableau.turned" X6 f fd)
  (Cc:Cls K C)(aN:NoAttr K C "cells")(cF:NoAttr K C "over")(aL:NoAttr K C "columns")(bU:NoAttr K C "rows")(bZ:mg "enumerate"=none):
  FnOk P w K mg base CX0 1 f fd ["self","cells","pivots","column"] (MK K C):=by
 refine F.eF ["self","cells","pivots","column","by","fresh"] fun cdv A outer s H vs Q E hr h=> ?_;obtain⟨o,xa,ya,H0,n,m,q,X,Y,T,rfl,⟨dx,cl,co,ro,rws,hT⟩,hn,⟨ho0,ho1⟩,hq,hX,hY,hb,qq⟩:=h;refine⟨_,(bf (pS 4 (cM lN (pv 2) (pv 3))) (bf (pX 5 ["k","cell"] ["by","cells","column","pivots","self"] [4,1,3,2,0] (jQ rfl bZ (ao (pv 1) aA)) (eE K (n:=2) rfl (mH (pG 0) (mH (pG 1) Cp))) tH (cH gW (cH op_sub (cH yN (pv 1) (pv 2)) (cH yN (cM (dM K) (pv 3) (pv 4)) (cM (dM K) (pv 5) (pv 0)))) (JR K (pv 6) rfl))) (bf (ps_asg (pe_un un_neg (cM lN (pv 1) (pv 3))) (pg_sub (pv 5) (pv 3) set_list)) (bN (cT (pv 5)))))),?_⟩;refine⟨_,rfl,_,rfl,ya,_,_,_,rfl,rfl,SqL.of hY,Io _ hq,?_⟩;refine⟨_,rfl,false,xa,_,rfl,SqL.of hX,fun hz=> ?_⟩;refine iK (K:=K) (b:=false) (a:=xa) (xs:=aM n X) (fun i acc σ H'=>acc=((List.range i).map fun c=>(X c*Y q-X q*Y c)/T.over).map V.int/\Same H H'/\∃o1 o2,σ=[o1,o2,some (.int (Y q)),some (.ref xa),some (.int (q:Int)),some (.ref ya),some (.ref o)]) ⟨rfl,Same.refl _,_,_,rfl⟩ (fun i acc σ H' _ p=>p.2.1.seq (SqL.of hX)) (fun i acc σ H' _ p=> ?_) hz (fun i v t acc σ H' hv p ht=> ?_) (fun acc σ H' p=> ?_)
 ·rw[p.1,aH,aH,pZ];exact aB _
 ·obtain⟨rfl,sm,o1,o2,rfl⟩:=p;have hi:i<=n:=by
   have:=(p8.mp hv).1;rw[Ag]at this;omega
  rw[jM _ hi]at hv;cases hv;have s1:=bO ht (.tup [.int (i:Int),.int (X i)]);have s2:=sm.trans s1;have bi:=(hb i hi).1;have bq:=(hb q hq).1;refine⟨t,_,rfl,SqT.of aR,rfl,_,_,rfl,_,_,rfl,rfl,?_⟩;refine⟨_,rfl,_,rfl,_,_,rfl,rfl,.inl ⟨by omega,by omega⟩,?_⟩;refine⟨_,rfl,_,rfl,xa,_,_,_,rfl,rfl,SqL.of (s2 _ _ hX),Io _ hq,_,rfl,_,rfl,ya,_,_,_,rfl,rfl,SqL.of (s2 _ _ hY),Io _ hi,_,_,rfl,rfl,.inl ⟨by omega,by omega⟩,_,_,rfl,rfl,?_⟩;refine⟨_,rfl,o,C,dx,_,_,rfl,s2 _ _ hT.at_,Cc,cF,rfl,_,_,rfl,rfl,⟨ho0,by omega⟩,?_⟩;exact⟨by rw[tM,dB,dB];rfl,s2,_,_,rfl⟩
 ·intro p1 hp1;obtain⟨rfl,sm,_⟩:=p;rw[Ag];have s1:=bO hp1 (.lst (aM n fun c=>(X c*Y q-X q*Y c)/T.over));have s2:=sm.trans s1;have h0:H p1=none:=by
   cases e:H p1 with
   |none=>rfl
   |some u=>rw[sm _ _ e]at hp1;cases hp1
  refine⟨_,rfl,_,rfl,xa,_,_,_,rfl,rfl,SqL.of (s2 _ _ hX),Io _ hq,_,rfl,?_⟩;refine⟨_,rfl,_,rfl,p1,_,_,q,rfl,rfl,aR,?_,?_⟩
  ·have e:ixN (aM n fun c=>(X c*Y q-X q*Y c)/T.over).length (q:Int)=some q:=by
    rw[Ag];unfold ixN;rw[ak (by omega),ak (by omega)];rfl
   exact e
  ·refine⟨_,rfl,qq p1 _ (fun b u hb=> ?_) h0 ?_⟩
   ·have nb:b≠p1:=fun e=>by rw[e,h0]at hb;cases hb
    rw[cG nb];exact s2 _ _ hb
   ·rw[aR];have e:=uF (fun c=>(X c*Y q-X q*Y c)/T.over) (-X q) hq;exact gD (fun l=>some (HO.lst l)) e
theorem Lg{xs:List V}{k:Nat}(hk:k<=xs.length):cutV xs none (some (k:Int))=xs.take k:=by
 unfold cutV;rw[HT.sIx_nat,HT.sIx_none,Nat.min_eq_left hk,List.drop_zero,WD]
theorem Ca{xs:List V}{k:Nat}(hk:k<=xs.length):cutV xs (some (k:Int)) none=xs.drop k:=by
 unfold cutV;rw[HT.sIx_nat,HT.sIx_none,Nat.min_eq_left hk,I9 (by rw[List.length_drop];omega)]
theorem _root_.L2.Same.qd{H0 H:Hp}{a:Addr}{u:HO}(s:Same H0 H)(h:H0 a=none):Same H0 (upd H a u):=fun b o hb=>by
 have nb:b≠a:=fun e=>by rw[e,h]at hb;cases hb
 rw[cG nb];exact s _ _ hb
theorem _root_.L2.Same.none{H0 H:Hp}{a:Addr}(s:Same H0 H)(h:H a=none):H0 a=none:=by
 cases e:H0 a with
 |none=>rfl
 |some u=>rw[s _ _ e]at h;cases h
section
variable{C:Addr}{H0 H:Hp}{o dx cl co ro:Addr}{rws:List Addr}{n m:Nat}{T:Sx.Tab}
theorem bV.ocl(h:bV K C H0 H o dx cl co ro rws n m T):o≠cl:=ne_of h.at_ h.cells fun e=>nomatch e
theorem bV.ZC(h:bV K C H0 H o dx cl co ro rws n m T):o≠co:=ne_of h.at_ h.cols fun e=>nomatch e
theorem bV.Zy(h:bV K C H0 H o dx cl co ro rws n m T):o≠ro:=ne_of h.at_ h.rows fun e=>nomatch e
theorem iG{rws:List Addr}{xs:List Int}(h:0<rws.length)(e:rws.map V.ref=xs.map V.int):False:=by
 cases rws with
 |nil=>exact absurd h (tL 0)
 |cons a r=>
  cases xs with
  |nil=>cases e
  |cons x xs=>injection e with e1 _;cases e1
theorem bV.VL(h:bV K C H0 H o dx cl co ro rws n m T):cl≠co:=fun e=>by
 have z:=h.cols;rw[<-e,h.cells]at z;exact iG (by rw[h.len];omega) (HO.lst.inj (pQ z))
theorem bV.VJ(h:bV K C H0 H o dx cl co ro rws n m T):cl≠ro:=fun e=>by
 have z:=h.rows;rw[<-e,h.cells]at z;exact iG (by rw[h.len];omega) (HO.lst.inj (pQ z))
theorem bV.VH(h:bV K C H0 H o dx cl co ro rws n m T){r:Nat}{a:Addr}(e:rws[r]? =some a):a≠cl:=fun z=>by
 have y:=h.row r a e;rw[z,h.cells]at y;exact iG (by rw[h.len];omega) (HO.lst.inj (pQ y))
theorem bV.orow(h:bV K C H0 H o dx cl co ro rws n m T){r:Nat}{a:Addr}(e:rws[r]? =some a):a≠o:=fun z=>by
 have y:=h.row r a e;rw[z,h.at_]at y;cases y
theorem bV.Em(h:bV K C H0 H o dx cl co ro rws n m T){RW:Addr}{w5:List Addr}{X:Nat->Nat->Int}(h0:H0 RW=none)(hc:H RW=some (.lst (w5.map V.ref)))(hl:w5.length=m+1)(hr:∀r a,w5[r]? =some a->H a=some (.lst (aM n (X r))))(n1:co∉w5)(n2:ro∉w5):
  bV K C H0 (upd H o (.ins C dx (putF "cells" (.ref RW) (flds cl co ro T.over)))) o dx RW co ro w5 n m {T with cell:=X}:=by
 have k:∀b,b≠o->∀u,H b=some u->(upd H o (.ins C dx (putF "cells" (.ref RW) (flds cl co ro T.over)))) b=some u:=fun b hb u e=>by rw[cG hb];exact e
 refine⟨h.same.qd h.o0,h.o0,h0,h.NT,h.M9,h.ne,n1,n2,aR,k _ (fun e=> ?_) _ hc,hl,fun r a e=>k _ (fun z=> ?_) _ (hr r a e),k _ h.ZC.symm _ h.cols,k _ h.Zy.symm _ h.rows⟩
 ·rw[e,h.at_]at hc;cases hc
 ·have y:=hr r a e;rw[z,h.at_]at y;cases y
theorem bV.O1(h:bV K C H0 H o dx cl co ro rws n m T){p:Nat}{a:Addr}{X:Nat->Int}(hp:p<=m)(ha:H a=some (.lst (aM n X)))(n1:co≠a)(n2:ro≠a):
  bV K C H0 (upd H cl (.lst ((rws.map V.ref).set p (.ref a)))) o dx cl co ro (rws.set p a) n m {T with cell:=fun r c=>if r=p then X c else T.cell r c}:=by
 have k:∀b,b≠cl->∀u,H b=some u->(upd H cl (.lst ((rws.map V.ref).set p (.ref a)))) b=some u:=fun b hb u e=>by rw[cG hb];exact e
 have hac:a≠cl:=fun z=>by
  rw[z,h.cells]at ha;exact iG (by rw[h.len];omega) (HO.lst.inj (pQ ha))
 refine⟨h.same.qd h.QT,h.o0,h.QT,h.NT,h.M9,h.ne,fun z=> ?_,fun z=> ?_,k _ h.ocl _ h.at_,by rw[aR,Yj],by rw[Yv];exact h.len,fun r b e=> ?_,k _ h.VL.symm _ h.cols,k _ h.VJ.symm _ h.rows⟩
 ·rcases wev z with z|z
  ·exact h.nc z
  ·exact n1 z
 ·rcases wev z with z|z
  ·exact h.nr z
  ·exact n2 z
 ·rw[Xb]at e;by_cases c:p=r
  ·rw[ak c,ak (by rw[h.len];omega)]at e;cases e;rw[k _ hac _ ha];exact gD (fun l=>some (HO.lst l)) (jl fun c' _=>by show X c'=if r=p then X c' else T.cell r c';rw[ak c.symm])
  ·rw[aj c]at e;rw[k _ (h.VH e) _ (h.row r b e)];exact gD (fun l=>some (HO.lst l)) (jl fun c' _=>by show T.cell r c'=if r=p then X c' else T.cell r c';rw[aj (iU c)])
theorem bV.setOver(h:bV K C H0 H o dx cl co ro rws n m T)(v:Int):bV K C H0 (upd H o (.ins C dx (putF "over" (.int v) (flds cl co ro T.over)))) o dx cl co ro rws n m {T with over:=v}:=by
 have k:∀b,b≠o->∀u,H b=some u->(upd H o (.ins C dx (putF "over" (.int v) (flds cl co ro T.over)))) b=some u:=fun b hb u e=>by rw[cG hb];exact e
 exact⟨h.same.qd h.o0,h.o0,h.QT,h.NT,h.M9,h.ne,h.nc,h.nr,aR,k _ h.ocl.symm _ h.cells,h.len,fun r a e=>k _ (h.orow e) _ (h.row r a e),k _ h.ZC.symm _ h.cols,k _ h.Zy.symm _ h.rows⟩
theorem bV.JD(h:bV K C H0 H o dx cl co ro rws n m T){p:Nat}(v:Nat)(hp:p<m):bV K C H0 (upd H ro (.lst (((bK m T.row).map V.int).set p (.int (v:Int))))) o dx cl co ro rws n m {T with row:=fun r=>if r=p then v else T.row r}:=by
 have k:∀b,b≠ro->∀u,H b=some u->(upd H ro (.lst (((bK m T.row).map V.int).set p (.int (v:Int))))) b=some u:=fun b hb u e=>by rw[cG hb];exact e
 refine⟨h.same.qd h.M9,h.o0,h.QT,h.NT,h.M9,h.ne,h.nc,h.nr,k _ h.Zy _ h.at_,k _ h.VJ _ h.cells,h.len,fun r a e=>k _ (fun z=>h.nr (z▸pO e)) _ (h.row r a e),k _ h.ne _ h.cols,?_⟩;rw[aR,<-Yj,qH _ _ hp]
theorem bV.JF(h:bV K C H0 H o dx cl co ro rws n m T){q:Nat}(v:Nat)(hq:q<n):bV K C H0 (upd H co (.lst (((bK n T.col).map V.int).set q (.int (v:Int))))) o dx cl co ro rws n m {T with col:=fun c=>if c=q then v else T.col c}:=by
 have k:∀b,b≠co->∀u,H b=some u->(upd H co (.lst (((bK n T.col).map V.int).set q (.int (v:Int))))) b=some u:=fun b hb u e=>by rw[cG hb];exact e
 refine⟨h.same.qd h.NT,h.o0,h.QT,h.NT,h.M9,h.ne,h.nc,h.nr,k _ h.ZC _ h.at_,k _ h.VL _ h.cells,h.len,fun r a e=>k _ (fun z=>h.nc (z▸pO e)) _ (h.row r a e),?_,k _ h.ne.symm _ h.rows⟩;rw[aR,<-Yj,qH _ _ hq]
end
theorem Es{n q:Nat}(X:Nat->Int)(v:Int)(h:q<=n):((aM n X).take q++[.int v])++(aM n X).drop (q+1)=aM n fun c=>if c=q then v else X c:=by
 rw[<-uF X v h,List.set_eq_take_append_cons_drop,ak (by rw[Ag];omega),Rb];rfl
noncomputable def MF(K:W.Frag)(C:Addr):Sp:=fun vs H Q _=>∃(o:Addr) (H0:Hp) (n m p q:Nat) (S:Nat->Nat->Bool) (wt:Nat->Int) (T:Sx.Tab),vs=[.ref o,.int (p:Int),.int (q:Int)]/\iu K C H0 H o n m T/\TG n m S wt T/\p<m/\q<n/\∀H',iu K C H0 H' o n m (Sx.turn T p q)->Q .non H'
theorem Pz{f f1 C:Addr}{fd d1:τ}(F:Fun K "turn" "Tableau.turn" XR f fd)
  (Cc:Cls K C)(aN:NoAttr K C "cells")(cF:NoAttr K C "over")(aL:NoAttr K C "columns")(bU:NoAttr K C "rows")(D1:Cg K C "turned" "Tableau.turned" X6 ["self","cells","pivots","column"] f1 d1)(G1:FnOk P w K mg base CX0 1 f1 d1 ["self","cells","pivots","column"] (MK K C)):
  FnOk P w K mg base CX0 2 f fd ["self","row","column"] (MF K C):=by
 refine F.eF ["self","row","column","pivots","by","name"] fun cdv A outer s H vs Q E hr h=> ?_;obtain⟨o,H0,n,m,p,q,S,wt,T,rfl,⟨dx,cl,co,ro,rws,hT⟩,hG,hp,hq,qq⟩:=h;refine bH ?_;intro Y;refine⟨_,(bf (pS 3 (cM lN (kO (pv 0) rfl) (pv 1))) (bf (pS 4 (cM lN (pv 3) (pv 2))) (bf (ps_fld (pv 0) (pK ["cells"] ["self","pivots","column"] [0,3,2] (CV (kO (pv 0) rfl)) (pG 0) tH (Jf (pv 1) Cc D1.m G1 hr D1.b .nil pass0 (ao (pv 0) (ao (pv 2) (ao (pv 3) aA))))) rfl) (bf (ps_asg (cH op_cat (cH op_cat (pe_slice sl_list (pv 3) po_none (po_some (pv 2))) (pe_lst (ao (kO (pv 0) rfl) aA))) (pe_slice sl_list (pv 3) (po_some (cH vW (pv 2) aY)) po_none)) (pg_sub (kO (pv 0) rfl) (pv 1) set_list)) (bf (ps_fld (pv 0) (pv 4) rfl) (bf (pS 5 (cM lN (kO (pv 0) rfl) (pv 1))) (bf (ps_asg (cM lN (kO (pv 0) rfl) (pv 2)) (pg_sub (kO (pv 0) rfl) (pv 1) set_list)) (bN (ps_asg (pv 5) (pg_sub (kO (pv 0) rfl) (pv 2) set_list)))))))))),?_⟩;refine Ve ?_;intro c8 c7 c6 c5 c4 c3 c2;obtain⟨pa,pe,pi,pr⟩:=hT.Ba (cD hp);refine⟨_,rfl,o,C,dx,_,_,rfl,hT.at_,Cc,aN,rfl,_,rfl,cl,_,_,_,rfl,rfl,SqL.of hT.cells,pi,?_⟩;refine⟨_,rfl,_,rfl,pa,_,_,_,rfl,rfl,SqL.of pr,Io _ (cD hq),?_⟩;refine⟨_,rfl,o,C,dx,_,_,rfl,hT.at_,Cc,aN,rfl,cl,_,rfl,SqL.of hT.cells,fun hz=> ?_⟩;let jz:Nat->List V->St->Hp->Prop:=fun i acc σ H'=>∃as:List Addr,acc=as.map V.ref/\as.length=i/\Same H H'/\(∀r a,as[r]? =some a->H a=none/\H' a=some (.lst (aM n (Xj T.over (T.cell r) (T.cell p) q))))/\∃o1,σ=[o1,some (.ref o),some (.ref pa),some (.int (q:Int))];refine Lw (xs:=rws.map V.ref) jz ⟨[],rfl,rfl,Same.refl _,fun r a e=>(nomatch e),_,rfl⟩ (fun i acc σ H' _ x=> ?_) (fun i acc σ H' _ x=> ?_) hz (fun i v acc σ H' hv x=> ?_) (fun acc σ H' x=> ?_)
 ·obtain⟨_,_,_,sm,_⟩:=x;exact sm.seq (SqL.of hT.cells)
 ·obtain⟨as,rfl,hl,_⟩:=x;rw[aH,hl];exact aB _
 ·obtain⟨as,rfl,hl,sm,has,o1,rfl⟩:=x;rw[dX]at hv;cases er:rws[i]? with
  |none=>rw[er]at hv;cases hv
  |some ra=>
   rw[er]at hv;cases hv;have him:i<=m:=by have:=(p8.mp er).1;rw[hT.len]at this;omega
   refine⟨_,rfl,o,dx,_,rfl,sm _ _ hT.at_,rfl,_,rfl,_,rfl,_,rfl,o,ra,pa,H0,n,m,q,T.cell i,T.cell p,T,rfl,⟨dx,cl,co,ro,rws,hT.sm sm⟩,hG.n10,hG.over,cD hq,sm _ _ (hT.row i ra er),sm _ _ pr,fun c hc=>⟨hG.cell him hc,hG.cell (cD hp) hc⟩,fun r1 H1 s1 h1 e1=> ?_⟩;refine⟨as++[r1],by rw[dB];rfl,by rw[p7,hl];rfl,sm.trans s1,fun r a e=> ?_,_,rfl⟩;rw[Y8]at e;by_cases c:r<as.length
   ·rw[ak c]at e;exact⟨(has r a e).1,s1 _ _ (has r a e).2⟩
   ·rw[aj c]at e;have Vz:r-as.length=0:=by
     have:=(p8.mp e).1;have:r-as.length<1:=this;omega
    rw[Vz]at e;cases e;have:r=i:=by omega
    subst this;exact⟨sm.none h1,e1⟩
 ·intro p1 hp1;obtain⟨as,rfl,hl,sm,has,_⟩:=x;rw[aH,hT.len]at hl;have s1:=bO hp1 (.lst (as.map V.ref));have hT1:=hT.sm (sm.trans s1);have h10:H0 p1=none:=hT.same.none (sm.none hp1);have nas:∀b u,H b=some u->b∉as:=fun b u hb hm=>by
   obtain⟨r,hr1,rfl⟩:=yV hm;have:=(has r _ (dJ hr1)).1;rw[hb]at this;cases this
  have hT2:=hT1.Em (RW:=p1) (w5:=as) (X:=fun r=>Xj T.over (T.cell r) (T.cell p) q) h10 aR hl (fun r a e=>s1 _ _ (has r a e).2) (nas _ _ hT.cols) (nas _ _ hT.rows);refine⟨_,rfl,o,C,dx,_,rfl,hT1.at_,Cc,aN,(by show 4<1000;decide),?_⟩;have npo:pa≠o:=hT.orow pe;have pr2:=(sm.trans s1) _ _ pr;have pr3:(upd (upd H' p1 (.lst (as.map V.ref))) o (.ins C dx (putF "cells" (.ref p1) (flds cl co ro T.over)))) pa=some (.lst (aM n (T.cell p))):=by rw[cG npo];exact pr2
  generalize (upd (upd H' p1 (.lst (as.map V.ref))) o (.ins C dx (putF "cells" (.ref p1) (flds cl co ro T.over))))=H2 at *
  -- the row of the turn
  refine⟨_,rfl,_,rfl,_,rfl,pa,_,rfl,SqL.of pr3,fun l1 hl1=> ?_⟩;have t1:=bO hl1 (.lst (cutV (aM n (T.cell p)) none (some (q:Int))));have f1:(upd H2 l1 (.lst (cutV (aM n (T.cell p)) none (some (q:Int))))) l1=some (.lst (cutV (aM n (T.cell p)) none (some (q:Int)))):=aR;generalize (upd H2 l1 (.lst (cutV (aM n (T.cell p)) none (some (q:Int)))))=H3 at *;refine⟨_,rfl,o,C,dx,_,_,rfl,t1 _ _ hT2.at_,Cc,cF,rfl,(by show 1<=sizeLine;decide),fun l2 hl2=> ?_⟩;have t2:=bO hl2 (.lst [.int T.over]);have f2:(upd H3 l2 (.lst [.int T.over])) l2=some (.lst [.int T.over]):=aR;have f1':=t2 _ _ f1;refine⟨l1,l2,_,_,rfl,rfl,f1',f2,?_,fun l3 hl3=> ?_⟩
  ·have:=cutV_length (aM n (T.cell p)) none (some (q:Int));rw[Ag]at this;have:=hG.n10;rw[gA];show _+1<=_;omega
  have t3:=bO hl3 (.lst (cutV (aM n (T.cell p)) none (some (q:Int))++[.int T.over]));have f3:(upd (upd H3 l2 (.lst [.int T.over])) l3 (.lst (cutV (aM n (T.cell p)) none (some (q:Int))++[.int T.over]))) l3=some (.lst (cutV (aM n (T.cell p)) none (some (q:Int))++[.int T.over])):=aR;have Xk:=t1.trans (t2.trans t3);generalize (upd (upd H3 l2 (.lst [.int T.over])) l3 (.lst (cutV (aM n (T.cell p)) none (some (q:Int))++[.int T.over])))=H5 at *;refine⟨_,rfl,_,rfl,_,_,rfl,rfl,_,rfl,pa,_,rfl,SqL.of (Xk _ _ pr3),fun l4 hl4=> ?_⟩;have t4:=bO hl4 (.lst (cutV (aM n (T.cell p)) (some ((q:Int)+1)) none));refine⟨l3,l4,_,_,rfl,rfl,t4 _ _ f3,aR,?_,fun l5 hl5=> ?_⟩
  ·have a1:=cutV_length (aM n (T.cell p)) none (some (q:Int));have a2:=cutV_length (aM n (T.cell p)) (some ((q:Int)+1)) none;rw[Ag]at a1 a2;have:=hG.n10;rw[p7,gA];show _+1+_<=_;omega
  have t5:=bO hl5 (.lst ((cutV (aM n (T.cell p)) none (some (q:Int))++[.int T.over])++cutV (aM n (T.cell p)) (some ((q:Int)+1)) none));have aam:(cutV (aM n (T.cell p)) none (some (q:Int))++[.int T.over])++cutV (aM n (T.cell p)) (some ((q:Int)+1)) none=aM n fun c=>if c=q then T.over else T.cell p c:=by
   rw[Lg (by rw[Ag];omega),show(q:Int)+1=((q+1:Nat):Int)from by omega,Ca (by rw[Ag];omega)];exact Es _ _ (cD hq)
  rw[aam]at t5⊢;have hT3:=hT2.sm (Xk.trans (t4.trans t5));have f5:(upd (upd H5 l4 (.lst (cutV (aM n (T.cell p)) (some ((q:Int)+1)) none))) l5 (.lst (aM n fun c=>if c=q then T.over else T.cell p c))) l5=some (.lst (aM n fun c=>if c=q then T.over else T.cell p c)):=aR;have g1:co≠l5:=mZ ((Xk.trans t4) _ _ hT2.cols) hl5;have g2:ro≠l5:=mZ ((Xk.trans t4) _ _ hT2.rows) hl5;generalize (upd (upd H5 l4 (.lst (cutV (aM n (T.cell p)) (some ((q:Int)+1)) none))) l5 (.lst (aM n fun c=>if c=q then T.over else T.cell p c)))=H6 at *;have RK:=hT3.O1 (p:=p) (cD hp) f5 g1 g2;refine⟨_,rfl,o,C,dx,_,_,rfl,hT3.at_,Cc,aN,rfl,_,rfl,p1,_,_,p,rfl,rfl,hT3.cells,?_,?_⟩
  ·have e:ixN (as.map V.ref).length (p:Int)=some p:=by
    rw[aH,hl];unfold ixN;rw[ak (by omega),ak (by omega)];rfl
   exact e
  generalize (upd H6 p1 (.lst ((as.map V.ref).set p (.ref l5))))=H7 at *;have hT5:=RK.setOver (T.cell p q);refine⟨_,rfl,_,rfl,o,C,dx,_,rfl,RK.at_,Cc,cF,(by show 4<1000;decide),?_⟩;generalize (upd H7 o (.ins C dx (putF "over" (.int (T.cell p q)) (flds p1 co ro T.over))))=H8 at *;refine⟨_,rfl,o,C,dx,_,_,rfl,hT5.at_,Cc,bU,rfl,_,rfl,ro,_,_,_,rfl,rfl,SqL.of hT5.rows,jU _ hp,?_⟩;refine⟨_,rfl,o,C,dx,_,_,rfl,hT5.at_,Cc,aL,rfl,_,rfl,co,_,_,_,rfl,rfl,SqL.of hT5.cols,jU _ hq,?_⟩;have RJ:=hT5.JD (p:=p) (T.col q) hp;refine⟨_,rfl,o,C,dx,_,_,rfl,hT5.at_,Cc,bU,rfl,_,rfl,ro,_,_,p,rfl,rfl,hT5.rows,?_,?_⟩
  ·have e:ixN ((bK m T.row).map V.int).length (p:Int)=some p:=by
    rw[aH,Ah];unfold ixN;rw[ak (by omega),ak (by omega)];rfl
   exact e
  generalize (upd H8 ro (.lst (((bK m T.row).map V.int).set p (.int ((T.col q:Nat):Int)))))=H9 at *;have u6:=RJ.JF (q:=q) (T.row p) hq;refine⟨_,rfl,_,rfl,o,C,dx,_,_,rfl,RJ.at_,Cc,aL,rfl,_,rfl,co,_,_,q,rfl,rfl,RJ.cols,?_,?_⟩
  ·have e:ixN ((bK n T.col).map V.int).length (q:Int)=some q:=by
    rw[aH,Ah];unfold ixN;rw[ak (by omega),ak (by omega)];rfl
   exact e
  refine qq _ ⟨dx,p1,co,ro,_,u6.same,u6.o0,u6.QT,u6.NT,u6.M9,u6.ne,u6.nc,u6.nr,u6.at_,u6.cells,u6.len,fun r a e=> ?_,u6.cols,u6.rows⟩;rw[u6.row r a e];refine gD (fun l=>some (HO.lst l)) (jl fun c _=> ?_);show(if r=p then(if c=q then T.over else T.cell p c)else Xj T.over (T.cell r) (T.cell p) q c)=_;rfl
theorem Er{n m:Nat}{S:Nat->Nat->Bool}{wt:Nat->Int}{Ts:Nat->Sx.Tab}{ps qs:Nat->Nat}{L p q:Nat}(R:Sx.Run n m S wt Ts ps qs L)(s:Sx.Step n m (Ts L) p q):
  Sx.Run n m S wt (fun t=>if t<=L then Ts t else Sx.turn (Ts L) p q) (fun t=>if t<L then ps t else p) (fun t=>if t<L then qs t else q) (L+1):=by
 refine⟨by rw[ak (cg L)];exact R.first,fun t ht=> ?_,fun t ht=> ?_⟩
 ·by_cases c:t<L
  ·rw[ak (cD c),ak c,ak c];exact R.step t c
  ·have e:t=L:=by omega
   subst e;rw[ak (aB t),aj c,aj c];exact s
 ·by_cases c:t<L
  ·rw[ak (show t+1<=L from c),ak (cD c),ak c,ak c];exact R.next t c
  ·have e:t=L:=by omega
   subst e;rw[aj (by omega),ak (aB t),aj c,aj c]
structure XD(n m:Nat)(S:Nat->Nat->Bool)(wt:Nat->Int):Prop where
 n10:n<=10
 U3:m<=40
 wb:∀p,p<n->0<=wt p/\wt p<=99
 cov:∀p,p<n->∃k,k<m/\S k p=true
theorem XD.tg{n m:Nat}{S:Nat->Nat->Bool}{wt:Nat->Int}{T:Sx.Tab}(h:XD n m S wt)(g:Sx.Good n m S wt T):TG n m S wt T:=⟨g,h.n10,h.U3,h.wb,h.cov⟩
noncomputable def NcV(n m:Nat)(T:Sx.Tab)(x:V):Prop:=(x= .non/\∀c,c<n->0<=T.cell m c)\/∃q:Nat,x= .int (q:Int)/\q<n/\T.cell m q<0/\∀c,c<n->T.cell m c<0->T.col q<=T.col c
noncomputable def Ia(K:W.Frag)(C o:Addr)(H0:Hp)(n m:Nat)(S:Nat->Nat->Bool)(wt:Nat->Int)(k:Nat)(σ:St)(H:Hp):Prop:=
 ∃(Ts:Nat->Sx.Tab) (ps qs:Nat->Nat) (L:Nat) (x:V),Sx.Run n m S wt Ts ps qs L/\L+k=2^(n+m)/\iu K C H0 H o n m (Ts L)/\σ=[some (.ref o),some x]/\NcV n m (Ts L) x
noncomputable def DR(K:W.Frag)(C:Addr):Sp:=fun vs H Q _=>∃(o:Addr) (H0:Hp) (n m:Nat) (S:Nat->Nat->Bool) (wt:Nat->Int) (T:Sx.Tab),vs=[.ref o]/\iu K C H0 H o n m T/\XD n m S wt/\Sx.Good n m S wt T/\
 ∀T' H',iu K C H0 H' o n m T'->Sx.Good n m S wt T'->(∀c,c<n->0<=T'.cell m c)->Q .non H'
theorem PL{f f1 f2 f3 C:Addr}{fd d1 d2 d3:τ}(F:Fun K "solve" "Tableau.solve" XS f fd)
  (Cc:Cls K C)(aN:NoAttr K C "cells")(cF:NoAttr K C "over")(aL:NoAttr K C "columns")(bU:NoAttr K C "rows")(D1:Cg K C "next_column" "Tableau.next_column" Ye ["self"] f1 d1)(G1':FnOk P w K mg base CX0 1 f1 d1 ["self"] (Ea K C))(D2:Cg K C "turn" "Tableau.turn" XR ["self","row","column"] f2 d2)(G2:FnOk P w K mg base CX0 2 f2 d2 ["self","row","column"] (MF K C))(D3:Cg K C "next_row" "Tableau.next_row" X8 ["self","column"] f3 d3)(G3:FnOk P w K mg base CX0 2 f3 d3 ["self","column"] (MN K C)):
  FnOk P w K mg base CX0 3 f fd ["self"] (DR K C):=by
 have G1:FnOk P w K mg base CX0 2 f1 d1 ["self"] (Ea K C):=G1'.mono (by decide);refine F.eF ["self","column"] fun cdv A outer s H vs Q E hr h=> ?_;obtain⟨o,H0,n,m,S,wt,T,rfl,hT,hS,hg,qq⟩:=h;refine bH ?_;intro Y;refine⟨_,(bf (pS 1 (pe_meth0 (pv 0) Cc D1.m G1 hr D1.b .nil pass0)) (bN (ps_while v9 (gF op_notN (pv 1) pe_non) (bf (Ae (Jf (pv 0) Cc D2.m G2 hr D2.b .nil pass0 (ao (Jf (pv 0) Cc D3.m G3 hr D3.b .nil pass0 (ao (pv 1) aA)) (ao (pv 1) aA)))) (bN (pS 1 (pe_meth0 (pv 0) Cc D1.m G1 hr D1.b .nil pass0))))))),?_⟩;refine gn ?_;intro c2;have key:∀(x:V) (H1:Hp),iu K C H0 H1 o n m T->NcV n m T x->∃k,Ia K C o H0 n m S wt k [some (.ref o),some x] H1:=fun x H1 h1 h2=>
  ⟨2^(n+m),fun _=>T,fun _=>0,fun _=>0,0,x,⟨hg,fun t ht=>absurd ht (Lz t),fun t ht=>absurd ht (Lz t)⟩,WL _,h1,rfl,h2⟩
 obtain⟨dx,cl,co,ro,rws,hA0⟩:=id hT;refine⟨_,rfl,o,dx,_,rfl,hA0.at_,rfl,o,H0,n,m,S,wt,T,rfl,hT,hS.tg hg,?a,?b⟩
 case' a=>
  intro h H1 s1;have w0:=key _ _ (hT.sm s1) (.inl ⟨rfl,h⟩);refine⟨Ia K C o H0 n m S wt,w0,?_⟩;clear w0 s1 h
 case' b=>
  intro q H1 hq hn he s1;have w0:=key _ _ (hT.sm s1) (.inr ⟨q,rfl,hq,hn,he⟩);refine⟨Ia K C o H0 n m S wt,w0,?_⟩;clear w0 s1 he hn hq q
 all_goals
  clear H1;intro k σ H1 h;obtain⟨Ts,ps,qs,L,x,R,hk,⟨dx',cl,co,ro,rws,hA⟩,rfl,hx⟩:=h;have Qz:=R.good L (aB L);have hG:=hS.tg Qz;have hsh:=R.short;rcases hx with⟨rfl,hx⟩|⟨q,rfl,hq,hn,he⟩
  ·refine⟨_,rfl,rfl,_,rfl,?_⟩;refine iteF ?_;exact qq (Ts L) H1 ⟨dx',cl,co,ro,rws,hA⟩ Qz hx
  ·refine⟨_,rfl,rfl,_,rfl,?_⟩;refine iteT ?_;refine⟨Ia K C o H0 n m S wt (k-1),fun σ' H' z=>⟨k-1,by omega,z⟩,?_⟩;refine⟨_,rfl,o,dx',_,rfl,hA.at_,rfl,_,rfl,o,dx',_,rfl,hA.at_,rfl,_,rfl,o,H0,n,m,q,S,wt,Ts L,rfl,⟨dx',cl,co,ro,rws,hA⟩,hG,hq,fun p hp h0 hlev=> ?_⟩;have st:Sx.Step n m (Ts L) p q:=⟨hp,hq,hn,he,h0,hlev⟩;refine⟨_,rfl,o,H0,n,m,p,q,S,wt,Ts L,rfl,⟨dx',cl,co,ro,rws,hA⟩,hG,hp,hq,fun H2 hT2=> ?_⟩;have R2:=Er R st;have g2:=st.good Qz;obtain⟨dx2,cl2,co2,ro2,aas,RM⟩:=id hT2;have fin:∀(x:V) (H3:Hp),Same H2 H3->NcV n m (Sx.turn (Ts L) p q) x->Ia K C o H0 n m S wt (k-1) [some (.ref o),some x] H3:=fun x H3 s3 hx=>by
    refine⟨_,_,_,L+1,x,R2,by omega,?_,rfl,?_⟩
    ·rw[aj (by omega)];exact hT2.sm s3
    ·rw[aj (by omega)];exact hx
   exact⟨_,rfl,o,dx2,_,rfl,RM.at_,rfl,o,H0,n,m,S,wt,_,rfl,hT2,hS.tg g2,fun h H3 s3=>fin _ H3 s3 (.inl ⟨rfl,h⟩),fun q' H3 hq' hn' he' s3=>fin _ H3 s3 (.inr ⟨q',rfl,hq',hn',he'⟩)⟩
noncomputable def V4(k:Nat)(i:Int)(r:Nat):Prop:=(i=(r:Int)/\r<=k)\/(i= -1/\r=k)
noncomputable def ud(K:W.Frag)(C:Addr):Sp:=fun vs H Q _=>∃(o:Addr) (H0:Hp) (n m r c:Nat) (i j:Int) (S:Nat->Nat->Bool) (wt:Nat->Int) (T:Sx.Tab),vs=[.ref o,.int i,.int j]/\iu K C H0 H o n m T/\TG n m S wt T/\V4 m i r/\V4 n j c/\
 ∀p H' u v,Same H H'->H' p=some (.tup [.int u,.int ((v:Nat):Int)])->Low (T.cell r c) T.over.toNat u v->Q (.ref p) H'
theorem Qc{f f1 C:Addr}{fd d1:τ}(F:Fun K "fraction_at" "Tableau.fraction_at" R8 f fd)
  (Cc:Cls K C)(aN:NoAttr K C "cells")(cF:NoAttr K C "over")(aL:NoAttr K C "columns")(bU:NoAttr K C "rows")(D1:cZ K mg "lowest" gK ["a","b"] f1 d1)(G1:FnOk P w K mg base CX0 2 f1 d1 ["a","b"] (zu K)):
  FnOk P w K mg base CX0 3 f fd ["self","row","column"] (ud K C):=by
 refine F.eF ["self","row","column"] fun cdv A outer s H vs Q E hr h=> ?_;obtain⟨o,H0,n,m,r,c,i,j,S,wt,T,rfl,⟨dx,cl,co,ro,rws,hT⟩,hG,hi,hj,qq⟩:=h;refine⟨_,(bN (cT (pc G1 hr D1 (ao (cM lN (cM lN (kO (pv 0) rfl) (pv 1)) (pv 2)) (ao (kO (pv 0) rfl) aA))))),?_⟩;have hri:∃a,atI (rws.map V.ref) i=some (.ref a)/\H a=some (.lst (aM n (T.cell r))):=by
  rcases hi with⟨rfl,h⟩|⟨rfl,rfl⟩
  ·obtain⟨a,_,h1,h2⟩:=hT.Ba h;exact⟨a,h1,h2⟩
  ·obtain⟨a,_,h1,h2⟩:=hT.Ug;exact⟨a,h1,h2⟩
 have hcj:atI (aM n (T.cell r)) j=some (.int (T.cell r c)):=by
  rcases hj with⟨rfl,h⟩|⟨rfl,rfl⟩
  ·exact Io _ h
  ·exact lB _ _
 obtain⟨a,h1,h2⟩:=hri;have ho:=hG.over;refine⟨_,rfl,o,C,dx,_,_,rfl,hT.at_,Cc,aN,rfl,_,rfl,cl,_,_,_,rfl,rfl,SqL.of hT.cells,h1,_,rfl,a,_,_,_,rfl,rfl,SqL.of h2,hcj,?_⟩;refine⟨_,rfl,o,C,dx,_,_,rfl,hT.at_,Cc,cF,rfl,T.cell r c,T.over.toNat,?_,by omega,dD (show T.over.toNat<=39916800 by omega) (by decide),fun p H' u v s e l=>qq p H' u v s e l⟩;rw[show((T.over.toNat:Nat):Int)=T.over by omega];rfl
theorem uR{u:Int}{v b:Nat}(hb:0<b)(h:Low 0 1 u v):Low 0 b u v:=by
 have e:=h.eq;have hu:u=0:=by omega
 subst hu;have c:=h.cop;rw[show(0:Int).natAbs=0 from rfl,Nat.gcd_zero_left]at c;subst c;exact⟨by decide,rfl,by omega,aB _,hb,fun _=>yR _⟩
noncomputable def DY(K:W.Frag)(C:Addr):Sp:=fun vs H Q _=>∃(o:Addr) (H0:Hp) (n m a:Nat) (S:Nat->Nat->Bool) (wt:Nat->Int) (T:Sx.Tab),vs=[.ref o,.int (a:Int)]/\iu K C H0 H o n m T/\TG n m S wt T/\
 ∀p H' u v,Same H H'->H' p=some (.tup [.int u,.int ((v:Nat):Int)])->Low (Sx.Xs n m T a) T.over.toNat u v->Q (.ref p) H'
theorem PX{f f1 f2 C:Addr}{fd d1 d2:τ}(F:Fun K "price_of" "Tableau.price_of" Yb f fd)
  (Cc:Cls K C)(aN:NoAttr K C "cells")(cF:NoAttr K C "over")(aL:NoAttr K C "columns")(bU:NoAttr K C "rows")(D1:cZ K mg "lowest" gK ["a","b"] f1 d1)(G1:FnOk P w K mg base CX0 2 f1 d1 ["a","b"] (zu K))(D2:Cg K C "fraction_at" "Tableau.fraction_at" R8 ["self","row","column"] f2 d2)(G2:FnOk P w K mg base CX0 3 f2 d2 ["self","row","column"] (ud K C)):
  FnOk P w K mg base CX0 4 f fd ["self","name"] (DY K C):=by
 refine F.eF ["self","name"] fun cdv A outer s H vs Q E hr h=> ?_;obtain⟨o,H0,n,m,a,S,wt,T,rfl,⟨dx,cl,co,ro,rws,hT⟩,hG,qq⟩:=h;refine bH ?_;intro Y;refine⟨_,(bf (pF (gF (qF hr.units) (pv 1) (kO (pv 0) rfl) (by with_unfolding_all rfl)) (bN (cT (pc G1 hr D1 (ao aY (ao aY aA))))) pH) (bN (cT (Jf (pv 0) Cc D2.m G2 hr D2.b .nil pass0 (ao (pe_bm Mt Zc Zb lE (kO (pv 0) rfl) (ao (pv 1) aA)) (ao (pe_un un_neg aY) aA)))))),?_⟩;refine gn ?_;intro c2;have ho:=hG.over;refine⟨_,rfl,_,rfl,o,C,dx,_,_,rfl,hT.at_,Cc,bU,rfl,ro,_,_,.int (a:Int),rfl,.inl (SqL.of hT.rows),dg.ints _,.int _,Ip _,rfl,(by show 0<=60;decide),_,rfl,?_⟩;rw[any_ints];refine ite2 (fun c=> ?_) (fun c=> ?_)
 ·have c':((a:Nat):Int)∉bK m T.row:=by
   intro hm;rw[cU hm]at c;cases c
  refine⟨0,1,rfl,by decide,by decide,fun p H' u v s e l=>qq p H' u v s e ?_⟩;rw[Sx.Mf fun r hr z=>c' (by
   have:=yP T.row hr;rw[z]at this;exact pO this)]
  exact uR (by omega) l
 ·have c':((a:Nat):Int)∈bK m T.row:=by
   refine Mu fun hm=>c ?_;rw[gB hm];rfl
  obtain⟨r,hr1,er⟩:=yV c';have hr0:r<m:=by rw[Ah]at hr1;exact hr1
  have e0:=dJ hr1;rw[er]at e0;have ea:T.row r=a:=by
   rw[yP _ hr0]at e0;exact Tq (pQ e0)
  subst ea;refine⟨_,rfl,o,dx,_,rfl,hT.at_,rfl,_,rfl,o,C,dx,_,_,rfl,hT.at_,Cc,bU,rfl,.inl ⟨rfl,_,SqL.of hT.rows⟩,_,rfl,ro,bK m T.row,_,r,rfl,rfl,hT.rows,yP _ hr0,fun i hi e=> ?_,by rw[Ah];have:=hG.U3;omega,?_⟩
  ·rw[yP _ (by omega)]at e;have:=hG.good.Ey i r (by omega) hr0 (Tq (pQ e));omega
  ·refine⟨_,rfl,o,H0,n,m,r,n,_,_,S,wt,T,rfl,⟨dx,cl,co,ro,rws,hT⟩,hG,.inl ⟨rfl,cD hr0⟩,.inr ⟨rfl,rfl⟩,fun p H' u v s e l=>qq p H' u v s e ?_⟩;rw[hG.good.Mh hr0];exact l
noncomputable def DW(K:W.Frag)(C:Addr):Sp:=fun vs H Q _=>∃(o:Addr) (H0:Hp) (n m a:Nat) (S:Nat->Nat->Bool) (wt:Nat->Int) (T:Sx.Tab),vs=[.ref o,.int (a:Int)]/\iu K C H0 H o n m T/\TG n m S wt T/\
 ∀p H' u v,Same H H'->H' p=some (.tup [.int u,.int ((v:Nat):Int)])->Low (Sx.Ys n m T a) T.over.toNat u v->Q (.ref p) H'
theorem PN{f f1 f2 C:Addr}{fd d1 d2:τ}(F:Fun K "share_of" "Tableau.share_of" Yc f fd)
  (Cc:Cls K C)(aN:NoAttr K C "cells")(cF:NoAttr K C "over")(aL:NoAttr K C "columns")(bU:NoAttr K C "rows")(D1:cZ K mg "lowest" gK ["a","b"] f1 d1)(G1:FnOk P w K mg base CX0 2 f1 d1 ["a","b"] (zu K))(D2:Cg K C "fraction_at" "Tableau.fraction_at" R8 ["self","row","column"] f2 d2)(G2:FnOk P w K mg base CX0 3 f2 d2 ["self","row","column"] (ud K C)):
  FnOk P w K mg base CX0 4 f fd ["self","name"] (DW K C):=by
 refine F.eF ["self","name"] fun cdv A outer s H vs Q E hr h=> ?_;obtain⟨o,H0,n,m,a,S,wt,T,rfl,⟨dx,cl,co,ro,rws,hT⟩,hG,qq⟩:=h;refine bH ?_;intro Y;refine⟨_,(bf (pF (gF (qF hr.units) (pv 1) (kO (pv 0) rfl) (by with_unfolding_all rfl)) (bN (cT (pc G1 hr D1 (ao aY (ao aY aA))))) pH) (bN (cT (Jf (pv 0) Cc D2.m G2 hr D2.b .nil pass0 (ao (pe_un un_neg aY) (ao (pe_bm Mt Zc Zb lE (kO (pv 0) rfl) (ao (pv 1) aA)) aA)))))),?_⟩;refine gn ?_;intro c2;have ho:=hG.over;refine⟨_,rfl,_,rfl,o,C,dx,_,_,rfl,hT.at_,Cc,aL,rfl,co,_,_,.int (a:Int),rfl,.inl (SqL.of hT.cols),dg.ints _,.int _,Ip _,rfl,(by show 0<=60;decide),_,rfl,?_⟩;rw[any_ints];refine ite2 (fun c=> ?_) (fun c=> ?_)
 ·have c':((a:Nat):Int)∉bK n T.col:=by
   intro hm;rw[cU hm]at c;cases c
  refine⟨0,1,rfl,by decide,by decide,fun p H' u v s e l=>qq p H' u v s e ?_⟩;rw[Sx.R9 fun r hr z=>c' (by
   have:=yP T.col hr;rw[z]at this;exact pO this)]
  exact uR (by omega) l
 ·have c':((a:Nat):Int)∈bK n T.col:=by
   refine Mu fun hm=>c ?_;rw[gB hm];rfl
  obtain⟨r,hr1,er⟩:=yV c';have hr0:r<n:=by rw[Ah]at hr1;exact hr1
  have e0:=dJ hr1;rw[er]at e0;have ea:T.col r=a:=by
   rw[yP _ hr0]at e0;exact Tq (pQ e0)
  subst ea;refine⟨_,rfl,o,dx,_,rfl,hT.at_,rfl,_,rfl,_,rfl,o,C,dx,_,_,rfl,hT.at_,Cc,aL,rfl,.inl ⟨rfl,_,SqL.of hT.cols⟩,_,rfl,co,bK n T.col,_,r,rfl,rfl,hT.cols,yP _ hr0,fun i hi e=> ?_,by rw[Ah];have:=hG.n10;omega,?_⟩
  ·rw[yP _ (by omega)]at e;have:=hG.good.yg i r (by omega) hr0 (Tq (pQ e));omega
  ·refine⟨o,H0,n,m,m,r,_,_,S,wt,T,rfl,⟨dx,cl,co,ro,rws,hT⟩,hG,.inr ⟨rfl,rfl⟩,.inl ⟨rfl,cD hr0⟩,fun p H' u v s e l=>qq p H' u v s e ?_⟩;rw[hG.good.Sd hr0];exact l
noncomputable def cu(L:List (List Int))(k p:Nat):Bool:=decide (((p:Nat):Int)∈L.getD k [])
noncomputable def kY(wl:List Int)(p:Nat):Int:=wl.getD p 0
theorem Pj{n m r:Nat}{L:List (List Int)}{wt:Nat->Int}(hr:r<m):((List.range n).map fun(p:Nat)=>if decide (((p:Nat):Int)∈L.getD r [])=true then(1:Int)else 0).map V.int++[.int 1]=aM n ((Sx.start n m (cu L) wt).cell r):=by
 unfold aM;rw[tM,dB,dB];congr 1
 ·refine gD _ (Y4 fun c hc=> ?_);have hc':=nM.mp hc;show _=if r=m then _ else if c=n then(1:Int)else if cu L r c=true then 1 else 0
  rw[aj (show¬r=m by omega),aj (show¬c=n by omega)];rfl
 ·show[V.int 1]=[V.int (if r=m then _ else if n=n then(1:Int)else _)];rw[aj (by omega),ak rfl]
theorem JQ{m:Nat}{L:List (List Int)}{wl:List Int}:(wl.map fun x=> -x).map V.int++[.int 0]=aM wl.length ((Sx.start wl.length m (cu L) (kY wl)).cell m):=by
 unfold aM;rw[tM,dB,dB];congr 1
 ·refine gD _ (Sy fun i=> ?_);rw[dX,dX];by_cases hi:i<wl.length
  ·rw[dJ hi,Rg hi];show some (-wl[i])=some (if m=m then(if i=wl.length then(0:Int)else -(wl.getD i 0))else _);rw[ak rfl,aj (by omega),jF,dJ hi];rfl
  ·rw[Jo (by omega),Jo (by rw[pZ];omega)];rfl
 ·show[V.int 0]=[V.int (if m=m then(if wl.length=wl.length then(0:Int)else _)else _)];rw[ak rfl,ak rfl]
theorem _root_.L2.SqT.Zo{H:Hp}{a o C dx:Addr}{fs:List (Str×V)}{u:HO}{xs:List V}(hO:H o=some (.ins C dx fs))(h:SqT K H a xs):SqT K (upd H o u) a xs:=by
 rcases h with(h|⟨ob,h⟩)|h
 ·exact .inl (.inl (by rw[cG (ne_of h hO fun e=>nomatch e)];exact h))
 ·exact .inl (.inr ⟨ob,by rw[cG (ne_of h hO fun e=>nomatch e)];exact h⟩)
 ·exact .inr h
noncomputable def wN(K:W.Frag)(C:Addr):Sp:=fun vs H Q _=>∃(o dx sl wa:Addr) (H0:Hp) (its:List (Addr×List Int)) (wl:List Int),vs=[.ref o,.ref sl,.ref wa]/\H o=some (.ins C dx [])/\Same H0 H/\H0 o=none/\H sl=some (.lst (its.map fun p=>V.ref p.1))/\(∀p∈its,SqT K H p.1 (p.2.map V.int))/\SqT K H wa (wl.map V.int)/\wl.length<=10/\its.length<=40/\
 ∀H',iu K C H0 H' o wl.length its.length (Sx.start wl.length its.length (cu (its.map (·.2))) (kY wl))->Q .non H'
theorem J6{f C:Addr}{fd:τ}(F:Fun K "__init__" "Tableau.__init__" XQ f fd)
  (Cc:Cls K C)(aN:NoAttr K C "cells")(cF:NoAttr K C "over")(aL:NoAttr K C "columns")(bU:NoAttr K C "rows")(cA:mg "len"=none)(aF:mg "range"=none)(fV:mg "list"=none):
  FnOk P w K mg base CX0 1 f fd ["self","sets","wants"] (wN K C):=by
 refine F.eF ["self","sets","wants","n"] fun cdv A outer s H vs Q E hr h=> ?_;obtain⟨o,dx,sl,wa,H0,its,wl,rfl,hO,hS0,h0,hS,hP,hW,hn,hm,qq⟩:=h;refine bH ?_;intro Y;refine⟨_,(bf (pS 3 (pB v7 cA (ao (pv 2) aA))) (bf (ps_fld (pv 0) (pK ["some"] ["n"] [3] (CV (pv 1)) (pG 0) tH (cH op_cat (pK ["place"] ["some"] [0] (CW rfl aF (ao (pv 1) aA)) (pG 0) tH (pe_ifExp (gF (jR K hr.units) (pv 0) (pv 1) (by with_unfolding_all rfl)) aY aY)) (pe_lst (ao aY aA)))) rfl) (bf (Ae (pe_bm Mt Zg Zf mt_append (kO (pv 0) rfl) (ao (cH op_cat (pK ["want"] [] [] (Jg (pv 2)) (pG 0) tH (pe_un un_neg (pv 0))) (pe_lst (ao aY aA))) aA))) (bf (ps_fld (pv 0) aY rfl) (bf (ps_fld (pv 0) (lY rfl rfl fV rfl aF (ao (pv 3) aA)) rfl) (bN (ps_fld (pv 0) (rG rfl rfl fV rfl aF (ao (pv 3) (ao (cH vW (pv 3) (pB v7 cA (ao (pv 1) aA))) aA))) rfl))))))),?_⟩;refine Nv ?_;intro c6 c5 c4 c3 c2;refine⟨_,rfl,wa,_,rfl,.inr hW,fun _=> ?_⟩;rw[aH];refine⟨_,rfl,sl,_,rfl,SqL.of hS,fun hz=> ?_⟩;let jz:Nat->List V->St->Hp->Prop:=fun i acc σ H'=>∃as:List Addr,acc=as.map V.ref/\as.length=i/\Same H H'/\(∀r a,as[r]? =some a->H' a=some (.lst (aM wl.length ((Sx.start wl.length its.length (cu (its.map (·.2))) (kY wl)).cell r))))/\∃o1,σ=[o1,some (.int (wl.length:Int))];refine Lw (xs:=its.map fun p=>V.ref p.1) jz ⟨[],rfl,rfl,Same.refl _,fun r a e=>(nomatch e),_,rfl⟩ (fun i acc σ H' _ x=> ?_) (fun i acc σ H' _ x=> ?_) hz (fun i v acc σ H1 hv x=> ?_) (fun acc σ H1 x=> ?_)
 ·obtain⟨_,_,_,sm,_⟩:=x;exact sm.seq (SqL.of hS)
 ·obtain⟨as,rfl,hl,_⟩:=x;rw[aH,hl];exact aB _
 ·obtain⟨as,rfl,hl,sm,has,o1,rfl⟩:=x;rw[dX]at hv;cases ev:its[i]? with
  |none=>rw[ev]at hv;cases hv
  |some it=>
   rw[ev]at hv;cases hv;have him:i<its.length:=(p8.mp ev).1;have hit:=hP it (pO ev);have eg:(its.map (·.2)).getD i []=it.2:=by rw[jF,dX,ev];rfl
   refine⟨_,rfl,_,rfl,by omega,by omega,?_⟩;let vP:Nat->List V->St->Hp->Prop:=fun c acc σ H'=>acc=((List.range c).map fun(p:Nat)=>if decide (((p:Nat):Int)∈it.2)=true then(1:Int)else 0).map V.int/\H'=H1/\∃o2,σ=[o2,some (.ref it.1)];refine Q7 (n:=wl.length) vP ⟨rfl,rfl,_,rfl⟩ (fun c acc σ H' hc y=> ?_) (by rw[gA];omega) (fun c acc σ H' hc y=> ?_) (fun acc σ H' y=> ?_)
   ·rw[y.1,aH,aH,pZ];exact aB _
   ·obtain⟨rfl,rfl,o2,rfl⟩:=y;refine⟨_,rfl,_,rfl,it.1,_,_,.int (0+(c:Int)),rfl,.inr (sm.tup hit),dg.ints _,.int _,Ip _,rfl,(by show 0<=60;decide),_,rfl,?_⟩;rw[any_ints,Tj];refine ite2 (fun z=> ?_) (fun z=> ?_)
    ·exact⟨by rw[tM,dB,dB];show _=_++[V.int (if _ then _ else _)];rw[ak z],rfl,_,rfl⟩
    ·exact⟨by rw[tM,dB,dB];show _=_++[V.int (if _ then _ else _)];rw[aj z],rfl,_,rfl⟩
   ·intro p1 hp1;obtain⟨rfl,rfl,_⟩:=y;have s1:=bO hp1 (.lst (((List.range wl.length).map fun(p:Nat)=>if decide (((p:Nat):Int)∈it.2)=true then(1:Int)else 0).map V.int));refine⟨(by show 1<=sizeLine;decide),fun p2 hp2=> ?_⟩;have s2:=bO hp2 (.lst [.int 1]);refine⟨p1,p2,_,_,rfl,rfl,s2 _ _ aR,aR,(by rw[aH,aH,pZ,gA];show _+1<=_;omega),fun p3 hp3=> ?_⟩;have s3:=bO hp3 (.lst (((List.range wl.length).map fun(p:Nat)=>if decide (((p:Nat):Int)∈it.2)=true then(1:Int)else 0).map V.int++[.int 1]));have m9:=s1.trans (s2.trans s3);refine⟨as++[p3],by rw[dB];rfl,by rw[p7,hl];rfl,sm.trans m9,fun r a e=> ?_,_,rfl⟩;rw[Y8]at e;by_cases c:r<as.length
    ·rw[ak c]at e;exact m9 _ _ (has r a e)
    ·rw[aj c]at e;have Vz:r-as.length=0:=by
      have:=(p8.mp e).1;have:r-as.length<1:=this;omega
     rw[Vz]at e;cases e;have:r=i:=by omega
     subst this;rw[aR,<-Pj (wt:=kY wl) him,eg]
 ·intro p1 hp1;obtain⟨as,rfl,hl,sm,has,_⟩:=x;rw[aH]at hl;have s1:=bO hp1 (.lst (as.map V.ref));have hO1:=(sm.trans s1) _ _ hO;refine⟨_,rfl,o,C,dx,_,rfl,hO1,Cc,aN,(by show 0<1000;decide),?_⟩
  -- what lies beside the object
  have np:p1≠o:=(mZ (sm _ _ hO) hp1).symm;have h10:H p1=none:=sm.none hp1;have HN:∀r a,as[r]? =some a->a≠o/\a≠p1:=fun r a e=>⟨fun z=>(by have y:=has r a e;rw[z,sm _ _ hO]at y;cases y),fun z=>(by have y:=has r a e;rw[z,hp1]at y;cases y)⟩;have W2:SqT K (upd (upd H1 p1 (.lst (as.map V.ref))) o (.ins C dx (putF "cells" (.ref p1) []))) wa (wl.map V.int):=((sm.trans s1).tup hW).Zo hO1;have S2:(upd (upd H1 p1 (.lst (as.map V.ref))) o (.ins C dx (putF "cells" (.ref p1) []))) sl=some (.lst (its.map fun p=>V.ref p.1)):=by
   rw[cG (ne_of ((sm.trans s1) _ _ hS) hO1 fun e=>nomatch e)];exact(sm.trans s1) _ _ hS
  have A2:∀r a,as[r]? =some a->(upd (upd H1 p1 (.lst (as.map V.ref))) o (.ins C dx (putF "cells" (.ref p1) []))) a=some (.lst (aM wl.length ((Sx.start wl.length its.length (cu (its.map (·.2))) (kY wl)).cell r))):=fun r a e=>by
   rw[cG (HN r a e).1];exact s1 _ _ (has r a e)
  have P2:(upd (upd H1 p1 (.lst (as.map V.ref))) o (.ins C dx (putF "cells" (.ref p1) []))) p1=some (.lst (as.map V.ref)):=by rw[cG np,aR]
  have O2:(upd (upd H1 p1 (.lst (as.map V.ref))) o (.ins C dx (putF "cells" (.ref p1) []))) o=some (.ins C dx [("cells",.ref p1)]):=aR;have Z2:Same H0 (upd (upd H1 p1 (.lst (as.map V.ref))) o (.ins C dx (putF "cells" (.ref p1) []))):=Same.qd (hS0.trans (sm.trans s1)) h0;generalize (upd (upd H1 p1 (.lst (as.map V.ref))) o (.ins C dx (putF "cells" (.ref p1) [])))=H2 at *;refine⟨_,rfl,o,C,dx,_,_,rfl,O2,Cc,aN,rfl,.inl ⟨rfl,_,SqL.of P2⟩,_,rfl,wa,_,rfl,W2,fun hz2=> ?_⟩;let Q5:Nat->List V->St->Hp->Prop:=fun i acc σ H'=>acc=((wl.take i).map fun x=> -x).map V.int/\H'=H2/\∃o2,σ=[o2];refine Lr (xs:=wl.map V.int) Q5 ⟨rfl,rfl,_,rfl⟩ (fun i acc σ H' _ y=>by rw[y.2.1];exact W2) (fun i acc σ H' _ y=> ?_) hz2 (fun i v acc σ H' hv y=> ?_) (fun acc σ H' y=> ?_)
  ·rw[y.1,aH,aH,Dc];exact Ly _ _
  ·obtain⟨rfl,rfl,o2,rfl⟩:=y;rw[dX]at hv;cases ev:wl[i]? with
   |none=>rw[ev]at hv;cases hv
   |some x=>
    rw[ev]at hv;cases hv;exact⟨_,rfl,_,rfl,by rw[IW,ev,dB,dB];rfl,rfl,_,rfl⟩
  intro p2 hp2;obtain⟨rfl,rfl,_⟩:=y;rw[aH,IK];have s2:=bO hp2 (.lst ((wl.map fun x=> -x).map V.int));refine⟨(by show 1<=sizeLine;decide),fun p3 hp3=> ?_⟩;have s3:=bO hp3 (.lst [.int 0]);refine⟨p2,p3,_,_,rfl,rfl,s3 _ _ aR,aR,(by rw[aH,aH,gA];show _+1<=_;omega),fun p4 Va=> ?_⟩;have s4:=bO Va (.lst ((wl.map fun x=> -x).map V.int++[.int 0]));have Ry:=s2.trans (s3.trans s4);rw[JQ (m:=its.length) (L:=its.map (·.2))]at Ry s4⊢;have e4:(upd (upd (upd H' p2 (.lst ((wl.map fun x=> -x).map V.int))) p3 (.lst [.int 0])) p4 (.lst (aM wl.length ((Sx.start wl.length its.length (cu (its.map (·.2))) (kY wl)).cell its.length)))) p4=some (.lst (aM wl.length ((Sx.start wl.length its.length (cu (its.map (·.2))) (kY wl)).cell its.length))):=aR;have n4:p4≠p1:=(mZ (s3 _ _ (s2 _ _ P2)) Va).symm;have n4o:p4≠o:=(mZ (s3 _ _ (s2 _ _ O2)) Va).symm;have P3:=Ry _ _ P2;have O3:=Ry _ _ O2;have S3:=Ry _ _ S2;have Z3:=Z2.trans Ry;have A3:∀r a,as[r]? =some a->_:=fun r a e=>Ry _ _ (A2 r a e);generalize (upd (upd (upd H' p2 (.lst ((wl.map fun x=> -x).map V.int))) p3 (.lst [.int 0])) p4 (.lst (aM wl.length ((Sx.start wl.length its.length (cu (its.map (·.2))) (kY wl)).cell its.length))))=H3 at *;refine⟨p1,_,_,rfl,rfl,P3,(by rw[aH,gA];omega),?_⟩
  -- all rows
  have h1n:H0 p1=none:=hS0.none h10;have nos:o≠p1:=np.symm;have nsl:sl≠p1:=(mZ hS h10);have C4:(upd H3 p1 (.lst (as.map V.ref++[.ref p4]))) p1=some (.lst ((as++[p4]).map V.ref)):=by rw[aR,dB];rfl
  have O4:(upd H3 p1 (.lst (as.map V.ref++[.ref p4]))) o=some (.ins C dx [("cells",.ref p1)]):=by rw[cG nos];exact O3
  have S4:(upd H3 p1 (.lst (as.map V.ref++[.ref p4]))) sl=some (.lst (its.map fun p=>V.ref p.1)):=by rw[cG nsl];exact S3
  have Z4:Same H0 (upd H3 p1 (.lst (as.map V.ref++[.ref p4]))):=Same.qd Z3 h1n;have R4:∀r a,(as++[p4])[r]? =some a->(upd H3 p1 (.lst (as.map V.ref++[.ref p4]))) a=some (.lst (aM wl.length ((Sx.start wl.length its.length (cu (its.map (·.2))) (kY wl)).cell r)))/\a≠o:=fun r a e=>by
   rw[Y8]at e;by_cases c:r<as.length
   ·rw[ak c]at e;refine⟨?_,(HN r a e).1⟩;rw[cG (HN r a e).2];exact A3 r a e
   ·rw[aj c]at e;have Vz:r-as.length=0:=by
     have:=(p8.mp e).1;have:r-as.length<1:=this;omega
    rw[Vz]at e;cases e;have:r=its.length:=by omega
    subst this;refine⟨?_,n4o⟩;rw[cG n4];exact e4
  generalize (upd H3 p1 (.lst (as.map V.ref++[.ref p4])))=H4 at *;refine⟨_,rfl,o,C,dx,_,rfl,O4,Cc,cF,(by show 1<1000;decide),?_⟩;have O5:(upd H4 o (.ins C dx (putF "over" (.int 1) [("cells",.ref p1)]))) o=some (.ins C dx [("cells",.ref p1),("over",.int 1)]):=aR;have k5:∀b u,b≠o->H4 b=some u->(upd H4 o (.ins C dx (putF "over" (.int 1) [("cells",.ref p1)]))) b=some u:=fun b u hb e=>by rw[cG hb];exact e
  have nso:sl≠o:=ne_of S4 O4 fun e=>nomatch e
  have C5:=k5 _ _ np C4;have S5:=k5 _ _ nso S4;have Z5:Same H0 (upd H4 o (.ins C dx (putF "over" (.int 1) [("cells",.ref p1)]))):=Same.qd Z4 h0;have R5:∀r a,(as++[p4])[r]? =some a->_:=fun r a e=>k5 _ _ (R4 r a e).2 (R4 r a e).1;generalize (upd H4 o (.ins C dx (putF "over" (.int 1) [("cells",.ref p1)])))=H5 at *;refine⟨_,rfl,(wl.length:Int),rfl,by omega,by omega,fun co hco=> ?_⟩;have s6:=bO hco (.lst (gH (wl.length:Int).toNat));have O6:=s6 _ _ O5;refine⟨_,rfl,o,C,dx,_,rfl,O6,Cc,aL,(by show 2<1000;decide),?_⟩;have nco:co≠o:=(mZ O5 hco).symm;have k7:∀b u,b≠o->(upd H5 co (.lst (gH (wl.length:Int).toNat))) b=some u->(upd (upd H5 co (.lst (gH (wl.length:Int).toNat))) o (.ins C dx (putF "columns" (.ref co) [("cells",.ref p1),("over",.int 1)]))) b=some u:=fun b u hb e=>by rw[cG hb];exact e
  have O7:(upd (upd H5 co (.lst (gH (wl.length:Int).toNat))) o (.ins C dx (putF "columns" (.ref co) [("cells",.ref p1),("over",.int 1)]))) o=some (.ins C dx [("cells",.ref p1),("over",.int 1),("columns",.ref co)]):=aR;have C7:=k7 _ _ np (s6 _ _ C5);have S7:=k7 _ _ nso (s6 _ _ S5);have L7:=k7 _ _ nco aR;have R7:∀r a,(as++[p4])[r]? =some a->_:=fun r a e=>k7 _ _ (R4 r a e).2 (s6 _ _ (R5 r a e));have Z7:Same H0 (upd (upd H5 co (.lst (gH (wl.length:Int).toNat))) o (.ins C dx (putF "columns" (.ref co) [("cells",.ref p1),("over",.int 1)]))):=Same.qd (Z5.trans s6) h0;have c0:H0 co=none:=Z5.none hco;have ncr:co∉as++[p4]:=fun hm=>by
   obtain⟨r,hr1,e⟩:=yV hm;have:=R5 r _ (dJ hr1);rw[e,hco]at this;cases this
  generalize (upd (upd H5 co (.lst (gH (wl.length:Int).toNat))) o (.ins C dx (putF "columns" (.ref co) [("cells",.ref p1),("over",.int 1)])))=H7 at *;refine⟨_,rfl,_,rfl,_,rfl,sl,_,rfl,.inl (SqL.of S7),fun _=>⟨_,_,rfl,rfl,_,_,rfl,by omega,?_,?_,fun ro U8=> ?_⟩⟩
  ·rw[aH];omega
  ·rw[aH];omega
  rw[aH];have s8:=bO U8 (.lst ((jN (wl.length:Int) ((wl.length:Int)+(its.length:Int)-(wl.length:Int)).toNat).map V.int));have O8:=s8 _ _ O7;refine⟨_,rfl,o,C,dx,_,rfl,O8,Cc,bU,(by show 3<1000;decide),?_⟩;have nro:ro≠o:=(mZ O7 U8).symm;have k9:∀b u,b≠o->(upd H7 ro (.lst ((jN (wl.length:Int) ((wl.length:Int)+(its.length:Int)-(wl.length:Int)).toNat).map V.int))) b=some u->(upd (upd H7 ro (.lst ((jN (wl.length:Int) ((wl.length:Int)+(its.length:Int)-(wl.length:Int)).toNat).map V.int))) o (.ins C dx (putF "rows" (.ref ro) [("cells",.ref p1),("over",.int 1),("columns",.ref co)]))) b=some u:=fun b u hb e=>by rw[cG hb];exact e
  refine qq _ ⟨dx,p1,co,ro,as++[p4],Same.qd (Z7.trans s8) h0,h0,h1n,c0,Z7.none U8,mZ L7 U8,ncr,fun hm=> ?_,aR,k9 _ _ np (s8 _ _ C7),by rw[p7,hl];rfl,fun r a e=>k9 _ _ (R4 r a e).2 (s8 _ _ (R7 r a e)),?_,?_⟩
  ·obtain⟨r,hr1,e⟩:=yV hm;have:=R7 r _ (dJ hr1);rw[e,U8]at this;cases this
  ·rw[k9 _ _ nco (s8 _ _ L7)];congr 2;unfold gH bK;rw[Yk,show(wl.length:Int).toNat=wl.length by omega];rfl
  ·rw[k9 _ _ nro aR];congr 2;unfold jN bK;rw[show((wl.length:Int)+(its.length:Int)-(wl.length:Int)).toNat=its.length by omega];refine gD _ (Y4 fun k _=> ?_);show(wl.length:Int)+(k:Int)=((wl.length+k:Nat):Int);omega
end
noncomputable def aJ(a:Int)(b:Nat):Int×Nat:=(a/((Nat.gcd a.natAbs b:Nat):Int),b/Nat.gcd a.natAbs b)
theorem Jh(a:Int){b:Nat}(hb:0<b):Low a b (aJ a b).1 (aJ a b).2:=xU a b hb
theorem Gk{a:Int}{b:Nat}{u u':Int}{v v':Nat}(hb:0<b)(h:Low a b u v)(h':Low a b u' v'):u=u'/\v=v':=by
 have e1:=h.eq;have e2:=h'.eq;have bi:(0:Int)<(b:Int):=by omega
 have cr:u*(v':Int)=u'*(v:Int):=by
  refine wer (a:=(b:Int)) (by omega) ?_;have x:(b:Int)*(u*(v':Int))=u*(b:Int)*(v':Int):=by grind
  have y:(b:Int)*(u'*(v:Int))=u'*(b:Int)*(v:Int):=by grind
  rw[x,y,e1,e2];grind
 have cn:u.natAbs*v'=u'.natAbs*v:=by
  have:=gD Int.natAbs cr
  rwa [Sg,Sg,SJ,SJ]at this
 have d1:v∣v':=by
  have:v∣u.natAbs*v':=by rw[cn];exact W6 _ _
  exact(W5 h.cop).dvd_of_dvd_mul_left this
 have d2:v'∣v:=by
  have:v'∣u'.natAbs*v:=by rw[<-cn];exact W6 _ _
  exact(W5 h'.cop).dvd_of_dvd_mul_left this
 have ev:=Nat.dvd_antisymm d1 d2;subst ev;refine⟨?_,rfl⟩;have hv:=h.pos;exact Ol (a:=(v:Int)) (by omega) cr
theorem rO{a:Int}{b:Nat}{u:Int}{v:Nat}(hb:0<b)(h:Low a b u v):(u,v)=aJ a b:=by
 obtain⟨e1,e2⟩:=Gk hb h (Jh a hb);rw[e1,e2]
theorem oK{x y:Int}(h:0<x*y)(hy:0<y):0<x:=by
 refine Int.not_le.mp fun hn=> ?_;have:=yU (a:= -x) (b:=y) (by omega) (by omega)
 grind
theorem Gm{a:Int}{b:Nat}(hb:0<b):0<(aJ a b).1↔0<a:=by
 have l:=Jh a hb;have e:=l.eq;have hv:(0:Int)<((aJ a b).2:Int):=by have:=l.pos;omega
 have bi:(0:Int)<(b:Int):=by omega
 constructor
 ·intro h;have:0<(aJ a b).1*(b:Int):=Rm h bi;rw[e]at this;exact oK this hv
 ·intro h;have:0<a*((aJ a b).2:Int):=Rm h hv;rw[<-e]at this;exact oK this bi
structure Sh(n:Nat)(L:List (List Int))(wl:List Int)(ov:Nat)(Z:Int)(Y X:Nat->Int):Prop where
 pos:0<ov
 big:ov<=39916800
 yn:∀k,0<=Y k
 xn:∀p,0<=X p
 tot:Sx.sm L.length Y=Z
 eno:∀p,p<n->(ov:Int)*kY wl p<=Sx.sm L.length fun k=>if cu L k p=true then Y k else 0
 Xq:∀k,k<L.length->(Sx.sm n fun p=>if cu L k p=true then X p else 0)<=(ov:Int)
 wor:(Sx.sm n fun p=>kY wl p*X p)=Z
 few:n<=10->ov<=521
theorem Ub{n:Nat}{L:List (List Int)}{wl:List Int}{T:Sx.Tab}(hg:TG n L.length (cu L) (kY wl) T)(hz:∀c,c<n->0<=T.cell L.length c):
  Sh n L wl T.over.toNat (T.cell L.length n) (fun k=>Sx.Ys n L.length T (n+k)) (fun p=>Sx.Xs n L.length T p):=by
 have ho:=hg.over;have eo:((T.over.toNat:Nat):Int)=T.over:=by omega
 refine⟨by omega,by omega,fun k=>Sx.Lx hz _,fun p=>hg.good.Mg _,hg.good.total,fun p hp=> ?_,fun k hk=> ?_,hg.good.prices,fun h5=>by have:=hg.good.JT h5;omega⟩
 ·rw[eo,hg.good.enough hp];have:=Sx.Lx hz p;omega
 ·rw[eo];exact hg.good.light hk
theorem HB{ts:L0}{n:Nat}{ss:List (List Int)}(h:bM ss ts false n){p:Nat}(hp:p<n):∃k,k<ss.length/\cu ss k p=true:=by
 have sk:qt ts false n [(p:Int)]:=⟨Zd _ _,fun x hx=>by rw[kI.mp hx];omega,fun x hx y hy hn=>absurd ((kI.mp hx).trans (kI.mp hy).symm) hn⟩;obtain⟨t,ht,hx⟩:=Hq sk;have ht':=h.1.mem_iff.mpr ht;obtain⟨k,hk,rfl⟩:=yV ht';refine⟨k,hk,?_⟩;unfold cu;rw[jF,dJ hk];exact cU (hx _ gG)
theorem nZ{ts:L0}{n:Nat}{ss:List (List Int)}(h:bM ss ts false n)(hn:n<=10):ss.length<=36:=by rw[h.1.length_eq];exact qN hn
noncomputable def bB(ss:List (List Int))(ov:Nat)(Y:Nat->Int):List (List Int×(Int×Nat)):=((List.range ss.length).filter fun k=>decide (0<Y k)).map fun k=>(ss.getD k [],aJ (Y k) ov)
noncomputable def Ul(n ov:Nat)(X:Nat->Int):List (Int×Nat):=(List.range n).map fun p=>aJ (X p) ov
section
variable{K:W.Frag}
noncomputable def CN(K:W.Frag)(H:Hp)(a:Addr)(f:Int×Nat):Prop:=SqT K H a [.int f.1,.int ((f.2:Nat):Int)]
noncomputable def Ln(K:W.Frag)(H:Hp)(v:V)(q:List Int×(Int×Nat)):Prop:=∃t sa fa,v= .ref t/\SqT K H t [.ref sa,.ref fa]/\SqT K H sa (q.1.map V.int)/\CN K H fa q.2
noncomputable def mV(K:W.Frag)(H:Hp):List V->List (List Int×(Int×Nat))->Prop:=Paired (Ln K H)
noncomputable def pA(K:W.Frag)(H:Hp):List V->List (Int×Nat)->Prop:=Paired fun v f=>∃a,v= .ref a/\CN K H a f
theorem Ln.same{H H':Hp}{v:V}{q:List Int×(Int×Nat)}(h:Ln K H v q)(s:Same H H'):Ln K H' v q:=by
 obtain⟨t,sa,fa,e,h1,h2,h3⟩:=h;exact⟨t,sa,fa,e,s.tup h1,s.tup h2,s.tup h3⟩
theorem mV.same{H H':Hp}{vs:List V}{l:List (List Int×(Int×Nat))}(h:mV K H vs l)(s:Same H H'):mV K H' vs l:=Paired.mapP h fun _ _ z=>z.same s
theorem pA.same{H H':Hp}{vs:List V}{l:List (Int×Nat)}(h:pA K H vs l)(s:Same H H'):pA K H' vs l:=Paired.mapP h fun _ _ ⟨a,e,z⟩=>⟨a,e,s.tup z⟩
theorem Paired.snoc{α β:Type}{R:α->β->Prop}:∀{l:List α} {m:List β} {a:α} {b:β},Paired R l m->R a b->Paired R (l++[a]) (m++[b])
 |_,_,_,_,.nil,h=> .cons h .nil
 |_,_,_,_,.cons r t,h=> .cons r (Paired.snoc t h)
theorem Paired.at_{α β:Type}{R:α->β->Prop}:∀{l:List α} {m:List β} {i:Nat} {a:α},Paired R l m->l[i]? =some a->∃b,m[i]? =some b/\R a b
 |_,_,_,_,.nil,e=>by simp at e
 |_,_,0,_,.cons r _,e=>by simp at e;subst e;exact⟨_,rfl,r⟩
 |_,_,i+1,a,.cons _ t,e=>by
  obtain⟨b,h1,h2⟩:=Paired.at_ (i:=i) (a:=a) t (by simpa using e);exact⟨b,by simpa using h1,h2⟩
theorem Paired.gZ{α β:Type}{R:α->β->Prop}:∀{l:List α} {m:List β},Paired R l m->l.length=m.length
 |_,_,.nil=>rfl
 |_,_,.cons _ t=>by simp[Paired.gZ t]
end
section
variable{P:ρ}{w:υ}{K:W.Frag}{mg:L4}{base:Heap}
noncomputable def HY(n:Int)(wl:List Int):Prop:=(wl.length:Int)=n/\∀x∈wl,0<=x/\x<=99
theorem all_true(k:Nat):(List.replicate k true).all id=true:=by
 rw[pJ];intro b hb;rw[(yet.mp hb).2];rfl
noncomputable def lR(K:W.Frag):Sp:=fun vs H Q _=>∃(a wa:Addr) (n:Int) (t:V) (wl:List Int),vs=[.ref a,.ref wa]/\SqT K H a [.int n,t]/\SqT K H wa (wl.map V.int)/\HY n wl/\∀H',Same H H'->Q .non H'
theorem rH{f f1:Addr}{fd d1:τ}{tk0:Tok}(F:Fun K "need_wants" "need_wants" fG f fd)(D1:cZ K mg "is_whole" Oc ["thing"] f1 d1)(G1:FnOk P w K mg base CX0 1 f1 d1 ["thing"] (iB K))(cA:mg "len"=none)(aX:mg "isinstance"=none)(cC:mg "tuple"=none)(uP:mg "all"=none)(uQ:mg "MOST_WANT"=some (.int 99 tk0)):
  FnOk P w K mg base CX0 2 f fd ["web","thing"] (lR K):=by
 refine F.eF ["web","thing"] fun cdv A outer s H vs Q E hr h=> ?_;obtain⟨a,wa,n,t,wl,rfl,hA,hW,⟨hl,hb⟩,qq⟩:=h;refine bH ?_;intro Y;refine⟨_,(bf (pF (PW.pt (pw_or (vX (vY (pB Af aX (ao (pv 1) (ao (pN "tuple" cC) aA))))) (pw_or1 (gF op_ne (pB v7 cA (ao (pv 1) aA)) (cM nH (pv 0) aY))))) pss_never pH) (bN (pF (vX (vY (pB (fj rfl) uP (ao (pK ["want"] [] [] (Jg (pv 1)) (pG 0) tH (yO (pc G1 hr D1 (ao (pv 0) aA)) (Ac (pe_chain op_le op_le aY (pv 0) (pe_glob rfl uQ (v:= .int 99) ⟨_,rfl⟩))))) aA)))) pss_never pH))),?_⟩;refine gn ?_;intro c2;refine⟨_,rfl,.ref wa,"tuple",_,rfl,.inl ⟨rfl,_,hW⟩,.inr (.inr (.inl rfl)),_,rfl,?_⟩;refine iteF ?_;refine⟨_,rfl,wa,_,rfl,.inr hW,fun hz=>⟨_,rfl,a,_,_,.int n,rfl,rfl,hA,rfl,rfl,_,rfl,?_⟩⟩;have e1:(!decide (V.int (((wl.map V.int).length:Nat):Int)=V.int n))=false:=by rw[aH,hl];simp
 rw[e1];refine iteF ?_;refine⟨_,rfl,wa,_,rfl,hW,fun hz=> ?_⟩;let jz:Nat->List V->St->Hp->Prop:=fun i acc σ H'=>acc=(List.replicate i true).map V.bl/\H'=H/\∃o,σ=[o];refine Lr (xs:=wl.map V.int) jz ⟨rfl,rfl,_,rfl⟩ (fun i acc σ H' _ p=>by rw[p.2.1];exact hW) (fun i acc σ H' _ p=>by rw[p.1,aH,Oj];exact aB _) hz (fun i x acc σ H' hx p=> ?_) (fun acc σ H' p=> ?_)
 ·obtain⟨rfl,rfl,o,rfl⟩:=p;rw[dX]at hx;cases ex:wl[i]? with
  |none=>rw[ex]at hx;cases hx
  |some y=>
   rw[ex]at hx;cases hx;have hy:=hb y (pO ex);refine⟨_,rfl,.int y,.int y,rfl,.int _,_,rfl,iteT ?_⟩;refine⟨_,rfl,_,_,rfl,rfl,_,rfl,?_⟩;rw[cU hy.1];refine iteT ?_;refine⟨_,_,rfl,rfl,?_,rfl,_,rfl⟩;show _++[V.bl (decide (y<=99))]=_;rw[cU hy.2,List.replicate_succ',dB];rfl
 ·intro p1 hp1;obtain⟨rfl,rfl,_⟩:=p;refine⟨p1,_,rfl,SqL.of aR,_,rfl,?_⟩;rw[all_true];exact iteF (qq _ (bO hp1 _))
noncomputable def nW(K:W.Frag):Sp:=fun vs H Q _=>∃(a wa:Addr) (n:Int) (ts:L0) (wl:List Int),vs=[.ref a,.ref wa]/\fu K H a n ts/\SqT K H wa (wl.map V.int)/\HY n wl/\
 ∀(r va la pa:Addr) (lrefs zF:List V) (ss:List (List Int)) (ov:Nat) (Z:Int) (Y X:Nat->Int) H',Same H H'->H' r=some (.tup [.ref va,.ref la,.ref pa])->CN K H' va (aJ Z ov)->H' la=some (.lst lrefs)->mV K H' lrefs (bB ss ov Y)->H' pa=some (.lst zF)->pA K H' zF (Ul n.toNat ov X)->
  bM ss ts false n.toNat->Sh n.toNat ss wl ov Z Y X->H la=none->H pa=none->la≠pa->Q (.ref r) H'
theorem Bl{f f1 f2 f3 f4 f5 f6 f7 f8 C:Addr}{fd d1 d2 d3 d4 d5 d6 d7 d8:τ}(F:Fun K "shares" "shares" jK f fd)
  (Cc:Cls K C)(aN:NoAttr K C "cells")(cF:NoAttr K C "over")(aL:NoAttr K C "columns")(bU:NoAttr K C "rows")(lG:mg "Tableau"=some (.ref C))(D1:cZ K mg "need_web" Od ["thing"] f1 d1)(G1:FnOk P w K mg base CX0 7 f1 d1 ["thing"] (dI K))(D2:cZ K mg "need_wants" fG ["web","thing"] f2 d2)(G2:FnOk P w K mg base CX0 2 f2 d2 ["web","thing"] (lR K))(D3:cZ K mg "full_apart" fL ["web"] f3 d3)(G3:FnOk P w K mg base CX0 8 f3 d3 ["web"] (lU K))(D4:Cg K C "__init__" "Tableau.__init__" XQ ["self","sets","wants"] f4 d4)(Mk4:Mk K C f4)(aap:FnOk P w K mg base CX0 1 f4 d4 ["self","sets","wants"] (wN K C))(D5:Cg K C "solve" "Tableau.solve" XS ["self"] f5 d5)(G5':FnOk P w K mg base CX0 3 f5 d5 ["self"] (DR K C))(D6:Cg K C "share_of" "Tableau.share_of" Yc ["self","name"] f6 d6)(G6':FnOk P w K mg base CX0 4 f6 d6 ["self","name"] (DW K C))(D7:Cg K C "price_of" "Tableau.price_of" Yb ["self","name"] f7 d7)(G7':FnOk P w K mg base CX0 4 f7 d7 ["self","name"] (DY K C))(D8:Cg K C "fraction_at" "Tableau.fraction_at" R8 ["self","row","column"] f8 d8)(G8':FnOk P w K mg base CX0 3 f8 d8 ["self","row","column"] (ud K C))(bZ:mg "enumerate"=none)(aF:mg "range"=none):
  FnOk P w K mg base CX0 9 f fd ["web","wants"] (nW K):=by
 have G4m:FnOk P w K mg base CX0 7 f4 d4 ["self","sets","wants"] (wN K C):=aap.mono (by decide);have G5:FnOk P w K mg base CX0 8 f5 d5 ["self"] (DR K C):=G5'.mono (by decide);have G6:FnOk P w K mg base CX0 8 f6 d6 ["self","name"] (DW K C):=G6'.mono (by decide);have G7:FnOk P w K mg base CX0 8 f7 d7 ["self","name"] (DY K C):=G7'.mono (by decide);have G8:FnOk P w K mg base CX0 8 f8 d8 ["self","row","column"] (ud K C):=G8'.mono (by decide);refine F.eF ["web","wants","n","sets","tableau","given","laying","prices"] fun cdv A outer s H vs Q E hr h=> ?_;obtain⟨a,wa,n,ts,wl,rfl,hA,hW,hwl,qq⟩:=h;refine bH ?_;intro Y;refine⟨_,(bf (Ae (pc G1 hr D1 (ao (pv 0) aA))) (bf (Ae (pc G2 hr D2 (ao (pv 0) (ao (pv 1) aA)))) (bf (pS 2 (cM nH (pv 0) aY)) (bf (pS 3 (pc G3 hr D3 (ao (pv 0) aA))) (bf (pS 4 (pe_make Mk4 G4m hr rfl lG D4.b .nil pass0 (ao (pv 3) (ao (pv 1) aA)))) (bf (Ae (pe_meth0 (pv 4) Cc D5.m G5 hr D5.b .nil pass0)) (bf (pX 5 ["k","some"] ["tableau","n"] [4,2] (jQ rfl bZ (ao (pv 3) aA)) (eE K (n:=2) rfl (mH (pG 0) (mH (pG 1) Cp))) tH (tV (ao (pv 1) (ao (Jf (pv 2) Cc D6.m G6 hr D6.b .nil pass0 (ao (cH vW (pv 3) (pv 0)) aA)) aA)))) (bf (pX 6 ["share"] [] [] (CV (pv 5)) (pG 0) (dZ (gF op_gt (cM (nF K) (cM (nF K) (pv 0) aY) aY) aY)) (pv 0)) (bf (pX 7 ["place"] ["tableau"] [4] (CW rfl aF (ao (pv 2) aA)) (pG 0) tH (Jf (pv 1) Cc D7.m G7 hr D7.b .nil pass0 (ao (pv 0) aA))) (bN (cT (tV (ao (Jf (pv 4) Cc D8.m G8 hr D8.b .nil pass0 (ao (pe_un un_neg aY) (ao (pe_un un_neg aY) aA))) (ao (pv 6) (ao (pv 7) aA))))))))))))))),?_⟩;refine Qy ?_;intro c10 c9 c8 c7 c6 c5 c4 c3 c2;have h0:=hA.h0;have h10:=hA.h1;refine⟨_,rfl,.ref a,_,rfl,hA.web.dv.dx,hA.ok,fun H1 s1=> ?_⟩;obtain⟨Rv,Rz,w1,w2,w3⟩:=id (hA.same s1).web;refine⟨_,rfl,_,rfl,a,wa,n,_,wl,rfl,w1,s1.tup hW,hwl,fun H2 s2=> ?_⟩;have s12:=s1.trans s2;have RM:=hA.same s12;obtain⟨Xi,rr2,x1,x2,x3⟩:=id RM.web;refine⟨_,rfl,a,_,_,.int n,rfl,rfl,x1,rfl,?_⟩;refine⟨_,rfl,a,n,ts,rfl,RM,fun sl ss H3 s3 aak jV hsl=> ?_⟩;obtain⟨its,hS,hP,hss⟩:=aak;have m9:=s12.trans s3;have hm:its.length=ss.length:=by rw[<-hss,aH]
 have aay:=nZ jV (by omega);have hwn:wl.length=n.toNat:=by have:=hwl.1;omega
 refine⟨_,rfl,_,rfl,fun o dx ho hdx hne=> ?_⟩;have sM:Same H3 (upd (upd H3 dx (.own o)) o (.ins C dx [])):=(bO hdx _).trans (bO (by rw[cG (iU hne)];exact ho) _);refine⟨o,dx,sl,wa,H3,its,wl,rfl,aR,sM,ho,sM _ _ hS,fun p hp=>sM.tup (hP p hp),sM.tup (m9.tup hW),by omega,by omega,fun H4 RK=>⟨rfl,?_⟩⟩;rw[hss,hm,hwn]at RK;have Vg:XD n.toNat ss.length (cu ss) (kY wl):=by
  refine⟨by omega,by omega,fun p hp=> ?_,fun p hp=>HB jV hp⟩;unfold kY;rw[jF,dJ (by omega)];exact hwl.2 _ (tY _)
 obtain⟨dx4,cl4,co4,ro4,rw4,hA4⟩:=id RK;refine⟨_,rfl,o,dx4,_,rfl,hA4.at_,rfl,o,H3,n.toNat,ss.length,cu ss,kY wl,_,rfl,RK,Vg,Sx.wM,fun T H5 hT5 hg5 hz5=> ?_⟩;have hG:=Vg.tg hg5;have hSh:=Ub hG hz5;obtain⟨dx5,cl5,co5,ro5,rw5,hA5⟩:=id hT5;have Rx:=hA5.same;have Fi:=hSh.pos;generalize hY:(fun k=>Sx.Ys n.toNat ss.length T (n.toNat+k))=Y at *;generalize hX:(fun p=>Sx.Xs n.toNat ss.length T p)=X at *
 -- given
 refine⟨_,rfl,false,sl,_,rfl,SqL.of (Rx _ _ hS),fun hz=> ?_⟩;let vP:Nat->List V->St->Hp->Prop:=fun i acc σ H'=>mV K H' acc ((List.range i).map fun k=>(ss.getD k [],aJ (Y k) T.over.toNat))/\Same H5 H'/\∃o1 o2,σ=[o1,o2,some (.ref o),some (.int n)];refine iK (K:=K) (b:=false) (a:=sl) (xs:=its.map fun p=>V.ref p.1) vP ⟨.nil,Same.refl _,_,_,rfl⟩ (fun i acc σ H' _ p=>p.2.1.seq (SqL.of (Rx _ _ hS))) (fun i acc σ H' _ p=> ?_) hz (fun i v t acc σ H' hv p ht=> ?_) (fun acc σ H' p=> ?_)
 ·rw[Paired.gZ p.1,aH,pZ];exact aB _
 ·obtain⟨hl,sm,o1,o2,rfl⟩:=p;rw[dX]at hv;cases ev:its[i]? with
  |none=>rw[ev]at hv;cases hv
  |some it=>
   rw[ev]at hv;cases hv;have eg:ss.getD i []=it.2:=by rw[<-hss,jF,dX,ev];rfl
   have t1:=bO ht (.tup [.int (i:Int),.ref it.1]);have RJ:=hT5.sm (sm.trans t1);obtain⟨dx6,cl6,co6,ro6,rw6,hA6⟩:=id RJ;refine⟨t,_,rfl,SqT.of aR,rfl,_,_,rfl,_,_,rfl,rfl,?_⟩;refine⟨_,rfl,_,rfl,o,dx6,_,rfl,hA6.at_,rfl,_,rfl,_,rfl,_,_,rfl,rfl,o,H3,n.toNat,ss.length,n.toNat+i,cu ss,kY wl,T,?_,RJ,hG,fun fa H7 u v' s7 e7 l7=> ?_⟩
   ·rw[show(((n.toNat+i:Nat)):Int)=n+(i:Int) by omega];rfl
   ·refine⟨(by show 2<=sizeLine;decide),fun tp htp=> ?_⟩;have s8:=bO htp (.tup [.ref it.1,.ref fa]);have Zv:=t1.trans (s7.trans s8);have hlow:(u,v')=aJ (Y i) T.over.toNat:=by rw[<-hY];exact rO Fi l7
    refine⟨?_,sm.trans Zv,_,_,rfl⟩;rw[tM,dB];refine Paired.snoc (mV.same hl Zv) ⟨tp,it.1,fa,rfl,SqT.of aR,?_,?_⟩
    ·show SqT K _ it.1 ((ss.getD i []).map V.int);rw[eg];exact(Rx.trans (sm.trans Zv)).tup (hP it (pO ev))
    ·show CN K _ fa (aJ (Y i) T.over.toNat);rw[<-hlow];exact s8.tup (SqT.of e7)
 intro gl hgl;obtain⟨hl,sm5,_⟩:=p;rw[aH,hm]at hl;have g1:=bO hgl (.lst acc);have s6:=sm5.trans g1;have eg1:(upd H' gl (.lst acc)) gl=some (.lst acc):=aR;have hl6:=mV.same hl g1;generalize (upd H' gl (.lst acc))=H6 at *
 -- laying
 refine⟨_,rfl,gl,_,rfl,SqL.of eg1,fun hz=> ?_⟩;let Q5:Nat->List V->St->Hp->Prop:=fun i acc' σ H'=>H'=H6/\mV K H6 acc' (((List.range i).filter fun k=>decide (0<Y k)).map fun k=>(ss.getD k [],aJ (Y k) T.over.toNat))/\∃o1,σ=[o1];refine Lw (xs:=acc) Q5 ⟨rfl,.nil,_,rfl⟩ (fun i acc' σ H' _ p=>by rw[p.1];exact SqL.of eg1) (fun i acc' σ H' _ p=> ?_) hz (fun i v acc' σ H' hv p=> ?_) (fun acc' σ H' p=> ?_)
 ·rw[Paired.gZ p.2.1,aH];exact dD (Ai _ _) (by rw[pZ];exact aB _)
 ·obtain⟨rfl,hl',o1,rfl⟩:=p;obtain⟨qv,eq1,hv1⟩:=Paired.at_ hl6 hv;have hi:i<ss.length:=by
   have:=(p8.mp hv).1;rw[Paired.gZ hl6,aH,pZ]at this;exact this
  rw[dX,Rg hi]at eq1;have eq2:qv=(ss.getD i [],aJ (Y i) T.over.toNat):=(pQ eq1).symm;obtain⟨t,sa,fa,rfl,h1,h2,h3⟩:=id hv1;have h3':CN K H' fa (aJ (Y i) T.over.toNat):=by rw[eq2]at h3;exact h3
  refine⟨_,rfl,t,_,_,.ref fa,rfl,rfl,h1,rfl,fa,_,_,.int (aJ (Y i) T.over.toNat).1,rfl,rfl,h3',rfl,_,_,rfl,rfl,_,rfl,?_⟩;have go:((List.range (i+1)).filter fun k=>decide (0<Y k))=((List.range i).filter fun k=>decide (0<Y k))++(if decide (0<Y i)=true then[i]else[]):=by
   rw[tM,Cy];congr 1;rw[IV];split<;>rfl
  have ed:decide (0<(aJ (Y i) T.over.toNat).1)=decide (0<Y i):=decide_eq_decide.mpr (Gm Fi);refine ite2 (fun c=> ?_) (fun c=> ?_)
  ·have c':decide (0<Y i)=true:=by rw[<-ed];exact c
   refine⟨_,rfl,rfl,?_,_,rfl⟩;rw[go,ak c',dB];refine Paired.snoc hl' ?_;rw[eq2]at hv1;exact hv1
  ·have c':¬decide (0<Y i)=true:=by rw[<-ed];exact c
   refine⟨rfl,?_,_,rfl⟩;rw[go,aj c',Cu];exact hl'
 intro la hla;obtain⟨rfl,hlay,_⟩:=p;rw[Paired.gZ hl6,aH,pZ]at hlay;have g2:=bO hla (.lst acc');have s7:=s6.trans g2;have ela:(upd H' la (.lst acc')) la=some (.lst acc'):=aR;have Vb:=mV.same hlay g2;have u6:=hT5.sm s7;generalize (upd H' la (.lst acc'))=H7 at *
 -- prices
 refine⟨_,rfl,n,rfl,by omega,by omega,?_⟩;let Pv4:Nat->List V->St->Hp->Prop:=fun i sW σ H2=>pA K H2 sW ((List.range i).map fun p=>aJ (X p) T.over.toNat)/\Same H7 H2/\∃o1,σ=[o1,some (.ref o)];refine Q7 (n:=n.toNat) Pv4 ⟨.nil,Same.refl _,_,rfl⟩ (fun i sW σ H2 hi p=> ?_) (by rw[gA];omega) (fun i sW σ H2 hi p=> ?_) (fun sW σ H2 p=> ?_)
 ·rw[Paired.gZ p.1,aH,pZ];exact aB _
 ·obtain⟨hf,sm,o1,rfl⟩:=p;have hT8:=u6.sm sm;obtain⟨dx8,cl8,co8,ro8,rw8,hA8⟩:=id hT8;refine⟨_,rfl,o,dx8,_,rfl,hA8.at_,rfl,_,rfl,o,H3,n.toNat,ss.length,i,cu ss,kY wl,T,by rw[Tj];rfl,hT8,hG,fun fa H9 u v' s9 e9 l9=> ?_⟩;have hlow:(u,v')=aJ (X i) T.over.toNat:=by rw[<-hX];exact rO Fi l9
  refine⟨?_,sm.trans s9,_,rfl⟩;rw[tM,dB];refine Paired.snoc (pA.same hf s9) ⟨fa,rfl,?_⟩;show CN K H9 fa (aJ (X i) T.over.toNat);rw[<-hlow];exact SqT.of e9
 intro pa hpa;obtain⟨hf,Zr,_⟩:=p;have g3:=bO hpa (.lst sW);have s8:=Zr.trans g3;have epa:(upd H2 pa (.lst sW)) pa=some (.lst sW):=aR;have hf8:=pA.same hf g3;have hT8:=u6.sm s8;have nlp:la≠pa:=mZ (Zr _ _ ela) hpa;generalize (upd H2 pa (.lst sW))=H8 at *;obtain⟨dx8,cl8,co8,ro8,rw8,hA8⟩:=id hT8;refine⟨_,rfl,o,dx8,_,rfl,hA8.at_,rfl,_,rfl,_,rfl,o,H3,n.toNat,ss.length,ss.length,n.toNat,_,_,cu ss,kY wl,T,rfl,hT8,hG,.inr ⟨rfl,rfl⟩,.inr ⟨rfl,rfl⟩,fun va H9 u v' s9 e9 l9=> ?_⟩;refine⟨_,rfl,_,rfl,(by show 3<=sizeLine;decide),fun r hr'=> ?_⟩;have s10:=bO hr' (.tup [.ref va,.ref la,.ref pa]);have Ep:=s9.trans s10;have hlow:(u,v')=aJ (T.cell ss.length n.toNat) T.over.toNat:=rO Fi l9;refine qq r va la pa acc' sW ss T.over.toNat (T.cell ss.length n.toNat) Y X _ (m9.trans (Rx.trans (s7.trans (s8.trans Ep)))) aR ?_ ((s8.trans Ep) _ _ ela) (mV.same Vb (s8.trans Ep)) (Ep _ _ epa) (pA.same hf8 Ep) jV hSh ?_ ?_ nlp
 ·rw[<-hlow];exact s10.tup (SqT.of e9)
 ·exact(m9.trans (Rx.trans s6)).none hla
 ·exact(m9.trans (Rx.trans (s7.trans Zr))).none hpa
noncomputable def fO(n:Nat):List Int:=List.replicate n 1
noncomputable def zm(K:W.Frag):Sp:=fun vs H Q _=>∃(a:Addr) (n:Int) (ts:L0),vs=[.ref a]/\fu K H a n ts/\
 ∀(va:Addr) (ss:List (List Int)) (ov:Nat) (Z:Int) (Y X:Nat->Int) H',Same H H'->CN K H' va (aJ Z ov)->bM ss ts false n.toNat->Sh n.toNat ss (fO n.toNat) ov Z Y X->Q (.ref va) H'
theorem Fq{f f1 f2:Addr}{fd d1 d2:τ}(F:Fun K "value" "value" rE f fd)(D1:cZ K mg "need_web" Od ["thing"] f1 d1)(G1:FnOk P w K mg base CX0 7 f1 d1 ["thing"] (dI K))(D2:cZ K mg "shares" jK ["web","wants"] f2 d2)(G2:FnOk P w K mg base CX0 9 f2 d2 ["web","wants"] (nW K)):
  FnOk P w K mg base CX0 10 f fd ["web"] (zm K):=by
 refine F.eF ["web"] fun cdv A outer s H vs Q E hr h=> ?_;obtain⟨a,n,ts,rfl,hA,qq⟩:=h;refine bH ?_;intro Y;refine⟨_,(bf (Ae (pc G1 hr D1 (ao (pv 0) aA))) (bN (cT (cM nH (pc G2 hr D2 (ao (pv 0) (ao (cH zK (tV (ao aY aA)) (cM nH (pv 0) aY)) aA))) aY)))),?_⟩;refine gn ?_;intro c2;have h0:=hA.h0;have h10:=hA.h1;refine⟨_,rfl,.ref a,_,rfl,hA.web.dv.dx,hA.ok,fun H1 s1=> ?_⟩;obtain⟨Rv,Rz,w1,w2,w3⟩:=id (hA.same s1).web;refine⟨_,rfl,(by show 1<=sizeLine;decide),fun p1 hp1=> ?_⟩;have s2:=bO hp1 (.tup [.int 1]);refine⟨_,rfl,a,_,_,.int n,rfl,rfl,s2.tup w1,rfl,p1,n,_,rfl,rfl,SqT.of aR,(fun e=>nomatch e),by omega,by omega,?_,fun wa H3 s3 h3=> ?_⟩
 ·show 1*n.toNat<=1000;omega
 have ew:(List.replicate n.toNat [V.int 1]).flatten=(fO n.toNat).map V.int:=by
  unfold fO;generalize n.toNat=k
  induction k with
  |zero=>rfl
  |succ k ih=>rw[Dd,LQ,ih,Dd];rfl
 rw[ew]at h3;have m9:=s1.trans (s2.trans s3);refine⟨a,wa,n,ts,fO n.toNat,rfl,hA.same m9,h3,⟨by unfold fO;rw[Oj];omega,fun x hx=> ?_⟩,fun r va la pa lrefs zF ss ov Z Y X H4 s4 e1 e2 e3 e4 e5 e6 jV hSh _ _ _=> ?_⟩
 ·rw[(yet.mp hx).2];decide
 exact⟨r,_,_,.ref va,rfl,rfl,SqT.of e1,rfl,qq va ss ov Z Y X H4 (m9.trans s4) e2 jV hSh⟩
noncomputable def Ed(K:W.Frag):Sp:=fun vs H Q _=>∃(tp:Addr) (t m:Int),vs=[.ref tp,.int m]/\H tp=some (.lst [.int t])/\0<=m/\m<=10/\
 ∀r n ts H' t',aV tp H H'->H' tp=some (.lst [.int t'])->fu K H' r n ts->n<=m->Q (.ref r) H'
theorem Fj{c:Bool}{u:TT}{σ:St}{H:Hp}{Q:Bool->Hp->Prop}(hQ:∀b,Q b H)(hu:(∀b,Q b H)->u σ H Q):if c=true then Q true H else u σ H Q:=by
 by_cases h:c=true
 ·rw[ak h];exact hQ true
 ·rw[aj h];exact hu hQ
theorem J8{f f1:Addr}{fd d1:τ}(F:Fun K "_law_aweb" "_law_aweb" jh f fd)(D1:cZ K mg "_law_adigit" V9 ["tape","many"] f1 d1)(G1:FnOk P w K mg base CX0 1 f1 d1 ["tape","many"] (Ec K))(aF:mg "range"=none)(cC:mg "tuple"=none):
  FnOk P w K mg base CX0 2 f fd ["tape","most"] (Ed K):=by
 refine F.eF ["tape","most","n","often","ties","i","j"] fun cdv A outer s H vs Q E hr h=> ?_;obtain⟨tp,t,m,rfl,hT,hm0,hm1,q⟩:=h;refine⟨_,(bf (pS 2 (pc G1 hr D1 (ao (pv 0) (ao (cH vW (pv 1) aY) aA)))) (bf (pS 3 (cH vW aY (pc G1 hr D1 (ao (pv 0) (ao aY aA))))) (bf (pS 4 (pe_lst aA)) (bf (Ad v9 rfl (CW rfl aF (ao (pv 2) aA)) (pG 5) (bN (Ad v9 rfl (pi_range2 rfl aF (ao (cH vW (pv 5) aY) (ao (pv 2) aA))) (pG 6) (bN (pF (gF op_lt (pc G1 hr D1 (ao (pv 0) (ao aY aA))) (pv 3)) (bN (Ae (pe_bm Mt Zg Zf mt_append (pv 4) (ao (tV (ao (pv 5) (ao (pv 6) aA))) aA)))) pH))))) (bN (cT (tV (ao (pv 2) (ao (pT call_tuple_of cC (ao (pv 4) aA)) aA))))))))),?_⟩;refine⟨_,rfl,_,rfl,_,_,rfl,rfl,tp,t,m+1,rfl,hT,by omega,by omega,fun n t1 hn0 hn1'=> ?_⟩;have hn1:n<=10:=by omega
 refine⟨_,rfl,tp,t1,5,rfl,aR,by decide,by decide,fun o t2 ho0 ho1=>⟨_,_,rfl,rfl,?_⟩⟩;refine⟨(by show 0<=sizeLine;decide),fun tl htl=> ?_⟩;have Qk:tl≠tp:=uN (aR (H:=upd H tp (.lst [.int t1])) (a:=tp) (o:= .lst [.int t2])) htl;have s2:=bO htl (.lst []);have Zq:H tl=none:=by
  have z:∀t1 t2:Int,upd (upd H tp (.lst [.int t1])) tp (.lst [.int t2])=upd H tp (.lst [.int t2]):=fun _ _=>upd_upd;rw[z,cG Qk]at htl;exact htl
 refine⟨_,rfl,n,rfl,by omega,by omega,?_⟩;refine Ji (n:=n.toNat) (fun i σ H'=>aV tp H H'/\(∃t',H' tp=some (.lst [.int t']))/\cP K H' tl (rows tt n i) (fun _=>True)/\∃a4 a5,σ=[some (.ref tp),some (.int m),some (.int n),some (.int (1+o)),some (.ref tl),a4,a5])
  ⟨((aV.refl tp H).upd.upd).trans (s2.x _),⟨_,s2 _ _ aR⟩,cP.nil aR,_,_,rfl⟩ (fun i σ H' hi p=> ?_) (fun σ H' p=> ?_)
 ·obtain⟨x,⟨t0,c⟩,tl1,a4,a5,rfl⟩:=p;refine⟨_,rfl,_,_,rfl,rfl,_,rfl,_,_,rfl,⟨by omega,by omega,by omega,by omega⟩,?_⟩;refine Ji (n:=(n-(0+(i:Int)+1)).toNat) (fun k σ H'=>aV tp H H'/\(∃t',H' tp=some (.lst [.int t']))/\cP K H' tl (rows tt n i++row tt (0+(i:Int)) k) (fun _=>True)/\∃a5,σ=[some (.ref tp),some (.int m),some (.int n),some (.int (1+o)),some (.ref tl),some (.int (0+(i:Int))),a5])
   ⟨x,⟨_,c⟩,by rw[show row tt (0+(i:Int)) 0=[]from rfl,Cu];exact tl1,_,rfl⟩ (fun k σ H' hk p=> ?_) (fun σ H' p=> ?_)
  ·obtain⟨x,⟨t0,c⟩,tl1,a5,rfl⟩:=p;refine⟨_,rfl,tp,t0,6,rfl,c,by decide,by decide,fun d t2 hd0 hd1=>⟨_,rfl,_,_,rfl,rfl,_,rfl,?_⟩⟩;have x2:aV tp H' (upd H' tp (.lst [.int t2])):=(aV.refl _ _).upd;have c2:(upd H' tp (.lst [.int t2])) tp=some (.lst [.int t2]):=aR;have T4:=tl1.step x2 c Qk;have er:rows tt n i++row tt (0+(i:Int)) (k+1)=(rows tt n i++row tt (0+(i:Int)) k)++[(0+(i:Int),0+(i:Int)+1+(k:Int))]:=by rw[uE,ak (show tt _ _=true from rfl),Rb]
   rw[er];generalize upd H' tp (.lst [.int t2])=H2 at *;refine ite2 (fun cc=> ?_) (fun cc=> ?_)
   ·obtain⟨rs,ts,h1,h2,h3,h4⟩:=T4;have hl:=sub_len hn1 (by omega) h3;have hrl:=h2.len;rw[aH]at hrl;refine⟨_,rfl,.inl ⟨rfl,_,SqL.of h1⟩,_,rfl,_,rfl,(by show 2<=sizeLine;decide),fun p hp=> ?_⟩;have s3:=bO hp (.tup [.int (0+(i:Int)),.int (0+(i:Int)+1+(k:Int))]);refine⟨tl,rs,_,rfl,rfl,s3 _ _ h1,(by rw[gA];omega),?_⟩;have xw:aV tl (upd H2 p (.tup [.int (0+(i:Int)),.int (0+(i:Int)+1+(k:Int))])) (upd (upd H2 p (.tup [.int (0+(i:Int)),.int (0+(i:Int)+1+(k:Int))])) tl (.lst (rs++[.ref p]))):=(aV.refl _ _).upd;refine⟨fun q o hq e=> ?_,⟨t2,xw _ _ Qk.symm (s3 _ _ c2)⟩,cP.push (s3 _ _ h1) (h2.same s3) h3 h4 (SqT.of aR) trivial,_,rfl⟩;have nq:q≠tl:=fun z=>by rw[z,Zq]at e;cases e
    exact xw _ _ nq (s3 _ _ (x2 _ _ hq (x _ _ hq e)))
   ·exact⟨x.trans x2,⟨_,c2⟩,T4.mono (wfe _ _),_,rfl⟩
  ·obtain⟨x,c,tl1,a5,rfl⟩:=p;rw[<-iD]at tl1;exact⟨x,c,tl1,_,_,rfl⟩
 ·obtain⟨x,⟨t0,c⟩,⟨rs,ts,h1,h2,h3,h4⟩,a4,a5,rfl⟩:=p;refine⟨_,rfl,_,rfl,tl,rs,rfl,.inl ⟨SqL.of h1,fun t ht=>⟨(by show 2<=sizeLine;decide),fun wb Z9=> ?_⟩⟩⟩;have s3:=bO ht (.tup rs);have s4:=bO Z9 (.tup [.int n,.ref t]);have Pb:=s3.trans s4;obtain⟨g1,g2⟩:=nQ hn0 hn1 h3;exact q wb n ts _ t0 (x.trans (Pb.x _)) (Pb _ _ c) ⟨⟨t,rs,SqT.of aR,SqT.of (s4 _ _ aR),h2.same Pb⟩,hn0,hn1,g1,g2⟩ (by omega)
noncomputable def um(K:W.Frag):Sp:=fun vs H Q _=>∃(iC tp:Addr) (ns:List Int) (st t:Int),vs=[.ref iC,.int st,.ref tp]/\sX K H iC ns/\H tp=some (.lst [.int t])/\
 ∀r n ts H' t',aV tp H H'->H' tp=some (.lst [.int t'])->fu K H' r n ts->Q (.ref r) H'
theorem Bq{f f1 f2 f3:Addr}{fd d1 d2 d3:τ}(F:Fun K "_law_aweb_of" "_law_aweb_of" XJ f fd)(D1:cZ K mg "_law_acell" V7 ["script","k"] f1 d1)(G1:FnOk P w K mg base CX0 1 f1 d1 ["script","k"] (wO K))(D2:cZ K mg "_law_aweb" jh ["tape","most"] f2 d2)(G2:FnOk P w K mg base CX0 2 f2 d2 ["tape","most"] (Ed K))(D3:cZ K mg "_law_adigit" V9 ["tape","many"] f3 d3)(G3:FnOk P w K mg base CX0 1 f3 d3 ["tape","many"] (Ec K))(aF:mg "range"=none)(cC:mg "tuple"=none):
  FnOk P w K mg base CX0 3 f fd ["script","start","tape"] (um K):=by
 refine F.eF ["script","start","tape","n","often","ties","i","j"] fun cdv A outer s H vs Q E hr h=> ?_;obtain⟨iC,tp,ns,st,t,rfl,hS,hT,q⟩:=h;refine⟨_,(bf (pF (PW.pt (pw_or (gF op_gt (pv 1) aY) (pw_or1 (gF op_ne (cH op_mod (cH op_fdiv (pc G1 hr D1 (ao (pv 0) (ao aY aA))) aY) aY) aY)))) (bN (cT (pc G2 hr D2 (ao (pv 2) (ao aY aA))))) pH) (bf (pS 3 (cH vW aY (pc G3 hr D3 (ao (pv 2) (ao aY aA))))) (bf (pS 4 (cH vW aY (pc G3 hr D3 (ao (pv 2) (ao aY aA))))) (bf (pS 5 (pe_lst aA)) (bf (Ad v9 rfl (CW rfl aF (ao (pv 3) aA)) (pG 6) (bN (Ad v9 rfl (pi_range2 rfl aF (ao (cH vW (pv 6) aY) (ao (pv 3) aA))) (pG 7) (bN (pF (PW.pt (pw_or (gF op_lt (pc G3 hr D3 (ao (pv 2) (ao aY aA))) (pv 4)) (pw_or1 (gF op_eq (pv 7) (cH vW (pv 6) aY))))) (bN (Ae (pe_bm Mt Zg Zf mt_append (pv 5) (ao (tV (ao (pv 6) (ao (pv 7) aA))) aA)))) pH))))) (bN (cT (tV (ao (pv 3) (ao (pT call_tuple_of cC (ao (pv 5) aA)) aA)))))))))),?_⟩;refine⟨_,rfl,_,_,rfl,rfl,_,rfl,?_⟩;refine Fj (fun b=> ?_) (fun hQ=> ?_)
 rotate_left
 ·refine⟨_,rfl,iC,ns,7,rfl,hS,by decide,fun c=> ?_⟩;exact⟨_,_,rfl,rfl,⟨by decide,by decide⟩,_,_,rfl,rfl,(by show(0:Int)<8;decide),rfl,_,rfl,hQ _⟩
 refine ite2 (fun c=> ?_) (fun c=> ?_)
 ·exact⟨_,rfl,tp,t,7,rfl,hT,by decide,by decide,fun r n ts H' t' x h1 h2 _=>q r n ts H' t' x h1 h2⟩
 refine⟨_,rfl,tp,t,3,rfl,hT,by decide,by decide,fun n' t1 hn0' hn1'=>⟨_,_,rfl,rfl,?_⟩⟩;obtain⟨n,en,hn0,hn1⟩:∃n:Int,8+n'=n/\0<=n/\n<=10:=⟨_,rfl,by omega,by omega⟩;refine⟨_,rfl,tp,t1,3,rfl,aR,by decide,by decide,fun o t2 ho0 ho1=>⟨_,_,rfl,rfl,?_⟩⟩;refine⟨(by show 0<=sizeLine;decide),fun tl htl=> ?_⟩;have Qk:tl≠tp:=uN (aR (H:=upd H tp (.lst [.int t1])) (a:=tp) (o:= .lst [.int t2])) htl;show tSeq _ _ _ [some (.ref iC),some (.int st),some (.ref tp),some (.int (8+n')),some (.int (3+o)),some (.ref tl),none,none] _;rw[en];have s2:=bO htl (.lst []);have Zq:H tl=none:=by
  have z:∀t1 t2:Int,upd (upd H tp (.lst [.int t1])) tp (.lst [.int t2])=upd H tp (.lst [.int t2]):=fun _ _=>upd_upd;rw[z,cG Qk]at htl;exact htl
 refine⟨_,rfl,n,rfl,by omega,by omega,?_⟩;refine Ji (n:=n.toNat) (fun i σ H'=>aV tp H H'/\(∃t',H' tp=some (.lst [.int t']))/\cP K H' tl (rows tt n i) (fun _=>True)/\∃a4 a5,σ=[some (.ref iC),some (.int st),some (.ref tp),some (.int n),some (.int (3+o)),some (.ref tl),a4,a5])
  ⟨((aV.refl tp H).upd.upd).trans (s2.x _),⟨_,s2 _ _ aR⟩,cP.nil aR,_,_,rfl⟩ (fun i σ H' hi p=> ?_) (fun σ H' p=> ?_)
 ·obtain⟨x,⟨t0,c⟩,tl1,a4,a5,rfl⟩:=p;refine⟨_,rfl,_,_,rfl,rfl,_,rfl,_,_,rfl,⟨by omega,by omega,by omega,by omega⟩,?_⟩;refine Ji (n:=(n-(0+(i:Int)+1)).toNat) (fun k σ H'=>aV tp H H'/\(∃t',H' tp=some (.lst [.int t']))/\cP K H' tl (rows tt n i++row tt (0+(i:Int)) k) (fun _=>True)/\∃a5,σ=[some (.ref iC),some (.int st),some (.ref tp),some (.int n),some (.int (3+o)),some (.ref tl),some (.int (0+(i:Int))),a5])
   ⟨x,⟨_,c⟩,by rw[show row tt (0+(i:Int)) 0=[]from rfl,Cu];exact tl1,_,rfl⟩ (fun k σ H' hk p=> ?_) (fun σ H' p=> ?_)
  ·obtain⟨x,⟨t0,c⟩,tl1,a5,rfl⟩:=p;refine⟨_,rfl,tp,t0,6,rfl,c,by decide,by decide,fun d t2 hd0 hd1=>⟨_,rfl,_,_,rfl,rfl,_,rfl,?_⟩⟩;have x2:aV tp H' (upd H' tp (.lst [.int t2])):=(aV.refl _ _).upd;have c2:(upd H' tp (.lst [.int t2])) tp=some (.lst [.int t2]):=aR;have T4:=tl1.step x2 c Qk;have er:rows tt n i++row tt (0+(i:Int)) (k+1)=(rows tt n i++row tt (0+(i:Int)) k)++[(0+(i:Int),0+(i:Int)+1+(k:Int))]:=by rw[uE,ak (show tt _ _=true from rfl),Rb]
   rw[er];generalize upd H' tp (.lst [.int t2])=H2 at *;refine Fj (fun b=> ?_) (fun hQ=> ?_)
   rotate_left
   ·exact⟨_,rfl,_,rfl,_,_,rfl,rfl,rfl,_,rfl,hQ _⟩
   refine ite2 (fun cc=> ?_) (fun cc=> ?_)
   ·obtain⟨rs,ts,h1,h2,h3,h4⟩:=T4;have hl:=sub_len hn1 (by omega) h3;have hrl:=h2.len;rw[aH]at hrl;refine⟨_,rfl,.inl ⟨rfl,_,SqL.of h1⟩,_,rfl,_,rfl,(by show 2<=sizeLine;decide),fun p hp=> ?_⟩;have s3:=bO hp (.tup [.int (0+(i:Int)),.int (0+(i:Int)+1+(k:Int))]);refine⟨tl,rs,_,rfl,rfl,s3 _ _ h1,(by rw[gA];omega),?_⟩;have xw:aV tl (upd H2 p (.tup [.int (0+(i:Int)),.int (0+(i:Int)+1+(k:Int))])) (upd (upd H2 p (.tup [.int (0+(i:Int)),.int (0+(i:Int)+1+(k:Int))])) tl (.lst (rs++[.ref p]))):=(aV.refl _ _).upd;refine⟨fun q o hq e=> ?_,⟨t2,xw _ _ Qk.symm (s3 _ _ c2)⟩,cP.push (s3 _ _ h1) (h2.same s3) h3 h4 (SqT.of aR) trivial,_,rfl⟩;have nq:q≠tl:=fun z=>by rw[z,Zq]at e;cases e
    exact xw _ _ nq (s3 _ _ (x2 _ _ hq (x _ _ hq e)))
   ·exact⟨x.trans x2,⟨_,c2⟩,T4.mono (wfe _ _),_,rfl⟩
  ·obtain⟨x,c,tl1,a5,rfl⟩:=p;rw[<-iD]at tl1;exact⟨x,c,tl1,_,_,rfl⟩
 ·obtain⟨x,⟨t0,c⟩,⟨rs,ts,h1,h2,h3,h4⟩,a4,a5,rfl⟩:=p;refine⟨_,rfl,_,rfl,tl,rs,rfl,.inl ⟨SqL.of h1,fun t ht=>⟨(by show 2<=sizeLine;decide),fun wb Z9=> ?_⟩⟩⟩;have s3:=bO ht (.tup rs);have s4:=bO Z9 (.tup [.int n,.ref t]);have Pb:=s3.trans s4;obtain⟨g1,g2⟩:=nQ hn0 hn1 h3;exact q wb n ts _ t0 (x.trans (Pb.x _)) (Pb _ _ c) ⟨⟨t,rs,SqT.of aR,SqT.of (s4 _ _ aR),h2.same Pb⟩,hn0,hn1,g1,g2⟩
noncomputable def mj(D:Nat):List (Int×Nat)->Int
 |[]=>0
 |f::fs=>f.1*((D/f.2:Nat):Int)+mj D fs
theorem su(D:Nat):∀(l m:List (Int×Nat)),mj D (l++m)=mj D l+mj D m
 |[],m=>by simp[mj]
 |f::l,m=>by simp[mj,su D l m,Int.add_assoc]
theorem zV(D:Nat)(f:Int×Nat):mj D [f]=f.1*((D/f.2:Nat):Int):=by simp[mj]
structure eO(D:Nat)(S:Int)(a:Int)(b:Nat):Prop where
 pos:0<b
 dvd:b∣D
 eq:a*((D/b:Nat):Int)=S
theorem eO.le{D b:Nat}{S a:Int}(h:eO D S a b)(hD:0<D):b<=D:=WQ hD h.dvd
theorem Dz{D b v:Nat}{S a u:Int}(hD:0<D)(h:eO D S a b)(hv:0<v)(dv:v∣D):
  eO D (S+u*((D/v:Nat):Int)) (a*((v/Nat.gcd b v:Nat):Int)+u*((b*(v/Nat.gcd b v)/v:Nat):Int)) (b*(v/Nat.gcd b v)):=by
 obtain⟨hb,db,he⟩:=h;have hg:0<Nat.gcd b v:=wfm _ hb;obtain⟨b1,eb⟩:=Yy b v;obtain⟨v1,ev⟩:=Ra b v;have dl:Nat.lcm b v∣D:=Nat.lcm_dvd db dv;have e1:v/Nat.gcd b v=v1:=by
  conv=>lhs;arg 1;rw[ev]
  exact Aj _ hg
 have el:Nat.lcm b v=b*v1:=by
  unfold Nat.lcm;rw[YF _ (Ra b v),e1]
 rw[el]at dl;rw[e1];obtain⟨e,eD⟩:=dl;have hv1:0<v1:=SN fun z=>by rw[z,Wx]at ev;omega
 have hbv:0<b*v1:=Nat.mul_pos hb hv1;have c1:b*v1=v*b1:=by
  have:b*v1*Nat.gcd b v=v*b1*Nat.gcd b v:=by
   have h1:b*v1*Nat.gcd b v=b*(Nat.gcd b v*v1):=by rw[Tn,Og v1]
   have h2:v*b1*Nat.gcd b v=v*(Nat.gcd b v*b1):=by rw[Tn,Og b1]
   rw[h1,h2,<-ev,<-eb,Og]
  exact Nat.eq_of_mul_eq_mul_right hg this
 have c2:b*v1/v=b1:=by rw[c1];exact Aj _ hv
 have c3:D/(b*v1)=e:=by rw[eD];exact Aj _ hbv
 have c4:D/b=v1*e:=by rw[eD,Tn];exact Aj _ hb
 have c5:D/v=b1*e:=by rw[eD,c1,Tn];exact Aj _ hv
 refine⟨hbv,⟨e,eD⟩,?_⟩;rw[c2,c3,c5,<-he,c4]
 push_cast
 grind
theorem eO.FN{D b:Nat}{S a x:Int}(hD:0<D)(h:eO D S a b)(hx:x*(D:Int)<=S):x*(b:Int)<=a:=by
 obtain⟨hb,⟨e,eD⟩,he⟩:=h;have ee:D/b=e:=by rw[eD];exact Aj _ hb
 have ep:0<e:=SN fun z=>by rw[z,Wx]at eD;omega
 rw[ee]at he;rw[eD,<-he]at hx
 push_cast at hx
 refine weg (a:=(e:Int)) ?_ (by omega);have:x*(b:Int)*(e:Int)=x*((b:Int)*(e:Int)):=by grind
 omega
theorem eO.FJ{D b:Nat}{S a x:Int}(hD:0<D)(h:eO D S a b)(hx:S<=x*(D:Int)):a<=x*(b:Int):=by
 have:=eO.FN (a:= -a) (S:= -S) (x:= -x) hD ⟨h.pos,h.dvd,by have:=h.eq;grind⟩ (by grind)
 grind
theorem eO.JH{D b:Nat}{S Z a u:Int}{v:Nat}(hD:0<D)(h:eO D S a b)(l:Low Z D u v)(hz:S=Z):a*(v:Int)=u*(b:Int):=by
 obtain⟨hb,⟨e,eD⟩,he⟩:=h;have ee:D/b=e:=by rw[eD];exact Aj _ hb
 have ep:0<e:=SN fun z=>by rw[z,Wx]at eD;omega
 rw[ee]at he;have e2:=l.eq;rw[<-hz,<-he,eD]at e2
 push_cast at e2
 refine Ol (a:=(e:Int)) (by omega) ?_
 grind
structure DOk(D:Nat)(fs:List (Int×Nat)):Prop where
 pos:0<D
 le:D<=39916800
 all:∀f∈fs,0<=f.1/\0<f.2/\f.2∣D
theorem uT{a:Int}{D:Nat}(hD:0<D):(aJ a D).2∣D:=⟨Nat.gcd a.natAbs D,(Nat.div_mul_cancel (Ra _ _)).symm⟩
theorem Gn{a:Int}{D:Nat}(hD:0<D):(aJ a D).1*((D/(aJ a D).2:Nat):Int)=a:=by
 have l:=Jh a hD;have e:=l.eq;have hv:=l.pos;obtain⟨c,hc⟩:=uT (a:=a) hD;generalize (aJ a D).1=u at *;generalize (aJ a D).2=v at *;have:D/v=c:=by rw[hc];exact Aj _ hv
 rw[this];rw[hc]at e
 push_cast at e
 refine Ol (a:=(v:Int)) (by omega) ?_
 grind
theorem Kl{a:Int}{D:Nat}(hD:0<D)(ha:0<=a):0<=(aJ a D).1:=(Jh a hD).nn ha
theorem zQ{a:Int}{D:Nat}(hD:0<D)(ha:0<=a):0<=(aJ a D).1/\0<(aJ a D).2/\(aJ a D).2∣D:=⟨Kl hD ha,(Jh a hD).pos,uT hD⟩
theorem rQ{ss:List (List Int)}{D:Nat}{Y:Nat->Int}(hD:0<D)(hY:∀k,0<=Y k)(g:List Int->Bool):∀m,mj D (((((List.range m).filter fun k=>decide (0<Y k)).map fun k=>(ss.getD k [],aJ (Y k) D)).filter fun q=>g q.1).map (·.2))=Sx.sm m fun k=>if g (ss.getD k [])=true then Y k else 0
 |0=>rfl
 |m+1=>by
  have ih:=rQ (ss:=ss) hD hY g m;rw[tM,Cy,dB,Cy,dB,su,ih];show _=Sx.sm m _+(if g (ss.getD m [])=true then Y m else 0);congr 1;by_cases hy:0<Y m
  ·rw[Wn (by simpa using hy)];by_cases hg:g (ss.getD m [])=true
   ·rw[Yq,CZ,WM,Wn (by exact hg),ak hg];exact(zV D _).trans (Gn hD)
   ·rw[Yq,CZ,WM,Wk (by exact hg),aj hg];rfl
  ·rw[Wk (by simpa using hy)];have:Y m=0:=by have:=hY m;omega
   rw[this];show(0:Int)=_;split<;>rfl
theorem Ej{f g:Nat->Int}:∀k,(∀i,i<k->f i<=g i)->Sx.sm k f<=Sx.sm k g
 |0,_=>yR _
 |k+1,h=>Int.add_le_add (Ej k fun i hi=>h i (by omega)) (h k (by omega))
theorem Kr{n:Nat}{ss:List (List Int)}{wl:List Int}{ov:Nat}{Z:Int}{Y X:Nat->Int}(h:Sh n ss wl ov Z Y X)(g:List Int->Bool):DOk ov (((bB ss ov Y).filter fun q=>g q.1).map (·.2)):=by
 refine⟨h.pos,h.big,fun f hf=> ?_⟩;obtain⟨q,hq,rfl⟩:=kW.mp hf;obtain⟨k,hk,rfl⟩:=kW.mp (iM.mp hq).1;exact zQ h.pos (h.yn k)
theorem JC{n:Nat}{ts:L0}{ss:List (List Int)}(hS:bM ss ts false n){s:List Int}(h:s∈ss):qt ts false n s:=jg n s (iM.mp (hS.1.mem_iff.mp h)).1
theorem FW{k:Nat}(h:k<=39916800)(x:Int):CMul x ((k:Nat):Int):= .inr ⟨by omega,by omega⟩
noncomputable def zp(K:W.Frag):Sp:=fun vs H Q _=>∃(la:Addr) (rs:List V) (fs:List (Int×Nat)) (D:Nat),vs=[.ref la]/\SqL K H la rs/\pA K H rs fs/\DOk D fs/\rs.length<=1000/\
 ∀(p:Addr) (a:Int) (b:Nat) H',Same H H'->H' p=some (.tup [.int a,.int ((b:Nat):Int)])->eO D (mj D fs) a b->(∀f∈fs,f.2∣b)->Q (.ref p) H'
theorem Ft{f f1:Addr}{fd d1:τ}(F:Fun K "sum_of" "sum_of" oh f fd)(D1:cZ K mg "greatest_divisor" Wb ["one","other"] f1 d1)(G1:FnOk P w K mg base CX0 1 f1 d1 ["one","other"] (Oz K)):
  FnOk P w K mg base CX0 2 f fd ["fractions"] (zp K):=by
 refine F.eF ["fractions","a","b","top","bottom","by"] fun cdv A outer s H vs Q E hr h=> ?_;obtain⟨la,rs,fs,D,rfl,hL,hF,hD,hlen,q⟩:=h;refine bH ?_;intro Y;refine⟨_,(bf (pS 1 aY) (bf (pS 2 aY) (bf (Ad v9 rfl (CV (pv 0)) (pg_tup rfl (mH (pG 3) (mH (pG 4) Cp))) (bf (pS 5 (cH gW (pv 4) (pc G1 hr D1 (ao (pv 2) (ao (pv 4) aA))))) (bf (pS 1 (cH vW (cH yN (pv 1) (pv 5)) (cH yN (pv 3) (cH gW (cH yN (pv 2) (pv 5)) (pv 4))))) (bN (pS 2 (cH yN (pv 2) (pv 5))))))) (bN (cT (tV (ao (pv 1) (ao (pv 2) aA)))))))),?_⟩;refine GF ?_;intro c4 c3 c2;have hl:=Paired.gZ hF;have Xx:=hD.pos;have hD1:=hD.le;refine⟨_,rfl,la,rs,rfl,hL,fun hz=> ?_⟩;let jz:Nat->St->Hp->Prop:=fun i σ H'=>H'=H/\∃(a:Int) (b:Nat) (o1 o2 o3:Option V),(eO D (mj D (fs.take i)) a b/\∀f∈fs.take i,f.2∣b)/\σ=[some (.ref la),some (.int a),some (.int ((b:Nat):Int)),o1,o2,o3];refine for_list (xs:=rs) jz ⟨rfl,0,1,_,_,_,⟨⟨by omega,Nat.one_dvd _,by simp[mj]⟩,fun f hf=>by simp at hf⟩,rfl⟩ (fun i σ H' _ p=>by rw[p.1];exact hL) (fun i x σ H' hx p=> ?_) (fun σ H' p=> ?_)
 ·obtain⟨rfl,a,b,o1,o2,o3,⟨hs,hdv⟩,rfl⟩:=p;obtain⟨f,hf,t,rfl,ht⟩:=Paired.at_ hF hx;obtain⟨f0,f1,f2⟩:=hD.all f (pO hf);have hb:=hs.pos;have hbD:=hs.le Xx;have hfD:=WQ Xx f2;have st:=Dz (u:=f.1) Xx hs f1 f2;have hg:0<Nat.gcd b f.2:=wfm _ hb;have hg2:Nat.gcd b f.2<=b:=Nat.gcd_le_left _ hb;have hby:f.2/Nat.gcd b f.2<=f.2:=Nat.div_le_self _ _;have hbb:=st.le Xx;refine⟨t,_,rfl,ht,rfl,_,_,rfl,_,_,rfl,rfl,?_⟩;refine⟨_,rfl,_,rfl,_,rfl,b,f.2,rfl,_,_,rfl,rfl,⟨by omega,by omega⟩,?_⟩;have eby:((f.2:Nat):Int)/((Nat.gcd b f.2:Nat):Int)=((f.2/Nat.gcd b f.2:Nat):Int):=(Yx _ _).symm;have eb2:((b:Nat):Int)*((f.2/Nat.gcd b f.2:Nat):Int)=((b*(f.2/Nat.gcd b f.2):Nat):Int):=(Yu _ _).symm;have eb3:((b*(f.2/Nat.gcd b f.2):Nat):Int)/((f.2:Nat):Int)=((b*(f.2/Nat.gcd b f.2)/f.2:Nat):Int):=(Yx _ _).symm;have hq:b*(f.2/Nat.gcd b f.2)/f.2<=b*(f.2/Nat.gcd b f.2):=Nat.div_le_self _ _;have c1:∀x:Int,CMul x (((f.2:Nat):Int)/((Nat.gcd b f.2:Nat):Int)):=fun x=>by rw[eby];exact FW (dD hby (dD hfD hD1)) x
  have c2:∀x:Int,CMul x (((b:Nat):Int)*(((f.2:Nat):Int)/((Nat.gcd b f.2:Nat):Int))/((f.2:Nat):Int)):=fun x=>by rw[eby,eb2,eb3];exact FW (dD hq (dD hbb hD1)) x
  refine⟨_,rfl,_,rfl,_,_,rfl,rfl,c1 _,_,rfl,_,rfl,_,rfl,_,_,rfl,rfl,c1 _,_,rfl,_,_,rfl,rfl,⟨by omega,by omega⟩,_,_,rfl,rfl,c2 _,_,_,rfl,rfl,?_⟩;refine⟨_,rfl,_,rfl,_,_,rfl,rfl,c1 _,?_⟩;refine⟨rfl,a*((f.2/Nat.gcd b f.2:Nat):Int)+f.1*((b*(f.2/Nat.gcd b f.2)/f.2:Nat):Int),b*(f.2/Nat.gcd b f.2),some (.int f.1),some (.int ((f.2:Nat):Int)),some (.int ((f.2/Nat.gcd b f.2:Nat):Int)),?_,?_⟩
  rotate_left
  ·show[some (V.ref la),some (.int (a*(((f.2:Nat):Int)/((Nat.gcd b f.2:Nat):Int))+f.1*(((b:Nat):Int)*(((f.2:Nat):Int)/((Nat.gcd b f.2:Nat):Int))/((f.2:Nat):Int)))),some (.int (((b:Nat):Int)*(((f.2:Nat):Int)/((Nat.gcd b f.2:Nat):Int)))),some (.int f.1),some (.int ((f.2:Nat):Int)),some (.int (((f.2:Nat):Int)/((Nat.gcd b f.2:Nat):Int)))]=_;rw[eby,eb2,eb3]
  obtain⟨hi,rfl⟩:=p8.mp hf;rw[wct hi,su,zV];refine⟨st,fun f hf'=> ?_⟩;rcases pI.mp hf' with z|z
  ·exact Nat.dvd_trans (hdv f z) (Nat.dvd_mul_right _ _)
  ·rw[kI.mp z,<-YF _ (Ra _ _),Og,YF _ (Yy _ _)];exact Nat.dvd_mul_right _ _
 ·obtain⟨rfl,a,b,o1,o2,o3,⟨hs,hdv⟩,rfl⟩:=p;refine⟨_,rfl,_,rfl,(by show 2<=sizeLine;decide),fun r hr'=> ?_⟩;rw[I9 (by omega)]at hs hdv;exact q r a b _ (bO hr' _) aR hs hdv
noncomputable def wQ(K:W.Frag):Sp:=fun vs H Q _=>∃(a b:Nat),vs=[.int (a:Int),.int b]/\0<b/\b<=10^200/\∀p H' u v,Same H H'->H' p=some (.tup [.int u,.int ((v:Nat):Int)])->Low (a:Int) b u v->Q (.ref p) H'
theorem JG:FnScope ["a","b","one","other"] ["a","b"] (defScope fK):=fsc
theorem J9{f:Addr}{fd:τ}(F:Fun K "_law_alow" "_law_alow" fK f fd):FnOk P w K mg base CX0 1 f fd ["a","b"] (wQ K):=by
 refine F.eF ["a","b","one","other"] fun cdv A outer s H vs Q E hr h=> ?_;obtain⟨a,b,rfl,hb,hB,q⟩:=h;refine bH ?_;intro Y;refine⟨_,bf (pS 2 (pv 0)) (bf (pS 3 (pv 1)) (bf (ps_while v9 (gF op_gt (pv 3) aY) (bN (ps_par (i:=2) (j:=3) rfl JG.nd rfl rfl (by decide) rfl rfl (ao (pv 3) (ao (cH op_mod (pv 2) (pv 3)) aA)) rfl))) (bN (cT (tV (ao (cH jT (pv 0) (pv 2)) (ao (cH jT (pv 1) (pv 2)) aA))))))),?_⟩;refine GF ?_;intro c4 c3 c2;refine⟨_,rfl,_,rfl,?_⟩;refine⟨fun k σ H'=>H'=H/\∃(m':Nat),σ=[some (.int (a:Int)),some (.int (b:Int)),some (.int (m':Int)),some (.int (k:Int))]/\Nat.gcd m' k=Nat.gcd a b,⟨b,rfl,a,rfl,rfl⟩,?_⟩;rintro k σ H' ⟨rfl,m',rfl,hg⟩;refine⟨_,rfl,_,_,rfl,rfl,_,rfl,?_⟩;refine ite2 (fun c=> ?_) (fun c=> ?_)
 ·have hk:0<k:=Jl.mp (kJ c);refine⟨fun σ' H2=>H2=H'/\σ'=[some (.int (a:Int)),some (.int (b:Int)),some (.int (k:Int)),some (.int ((m' %k:Nat):Int))],fun σ' H2 ⟨e1,e2⟩=>⟨m' %k,Wu _ hk,e1,k,e2,?_⟩,?_⟩
  ·rw[vg];exact hg
  ·exact⟨_,rfl,_,rfl,_,rfl,_,_,rfl,rfl,Jl.mpr hk,_,_,rfl,rfl,rfl⟩
 ·have hk:k=0:=by
   rcases Wd k with h|h
   ·exact h
   ·exfalso;exact c (cU (Jl.mpr h))
  subst hk;rw[Nat.gcd_zero_right]at hg;have hg1:0<Nat.gcd a b:=Zh _ hb;have hg2:(((Nat.gcd a b:Nat):Int)).natAbs<=10^200:=dD (GK (a:Int) b hb) hB;rw[hg];refine⟨_,rfl,_,rfl,_,_,rfl,rfl,⟨Jl.mpr hg1,hg2⟩,_,rfl,_,rfl,_,_,rfl,rfl,⟨Jl.mpr hg1,hg2⟩,(by show 2<=sizeLine;decide),fun p hp=> ?_⟩;exact q p _ _ _ (bO hp _) (zP (a:=(a:Int)) hp) (xU (a:Int) b hb)
theorem qT:∀l:List Int,PyData.depthAll (l.map PyData.int)<=1
 |[]=>by decide
 |x::l=>by
  have:=qT l;show max _ (PyData.depthAll (l.map PyData.int))<=1;exact Nat.max_le.mpr ⟨by show 0<=1;decide,this⟩
theorem Kv{a b:List Int}(ha:a.Pairwise (· < ·))(hb:b.Pairwise (· < ·))(h:∀k,k∈a↔k∈b):a=b:=by
 have na:a.Nodup:=ha.imp fun h e=>by omega
 have nb:b.Nodup:=hb.imp fun h e=>by omega
 have hp:a.Perm b:=(List.perm_ext_iff_of_nodup na nb).mpr h;exact List.Perm.eq_of_pairwise (fun x y _ _ (h1:x<=y) (h2:y<=x)=>Yr h1 h2) (show a.Pairwise (fun x y:Int=>x<=y)from ha.imp fun h=>Cq h) (show b.Pairwise (fun x y:Int=>x<=y)from hb.imp fun h=>Cq h) hp
theorem BW(xs ys:List Int):PyData.eqv (.tuple (xs.map PyData.int)) (.tuple (ys.map PyData.int))=decide (xs=ys):=by
 have:∀(xs ys:List Int),PyData.eqvAll (xs.map PyData.int) (ys.map PyData.int)=decide (xs=ys):=by
  intro xs
  induction xs with
  |nil=>intro ys;cases ys<;>simp[PyData.eqvAll]
  |cons x xs ih=>intro ys;cases ys with
   |nil=>simp[PyData.eqvAll]
   |cons y ys=>
    have e:(x==y)=decide (x=y):=by rw[wI];simp
    simp[PyData.eqvAll,PyData.eqv,ih,e]
 simp[PyData.eqv,this]
theorem qP(xs ys:List Int):PyData.eqv (.list (xs.map PyData.int)) (.list (ys.map PyData.int))=decide (xs=ys):=by
 have h:=BW xs ys;simp only[PyData.eqv]at h⊢;exact h
theorem mq(l m:List Int):min (PyData.list (l.map PyData.int)).depth (PyData.list (m.map PyData.int)).depth<=64:=by
 have:=qT l;have e:(PyData.list (l.map PyData.int)).depth=PyData.depthAll (l.map PyData.int)+1:=rfl;rw[e];omega
theorem qJ{u u':Int}{v v':Nat}(hv:0<v)(c1:Nat.gcd u.natAbs v=1)(c2:Nat.gcd u'.natAbs v'=1)(cr:u*(v':Int)=u'*(v:Int)):u=u'/\v=v':=by
 have cn:u.natAbs*v'=u'.natAbs*v:=by
  have:=gD Int.natAbs cr
  rwa [Sg,Sg,SJ,SJ]at this
 have d1:v∣v':=(W5 c1).dvd_of_dvd_mul_left (by rw[cn];exact W6 _ _);have d2:v'∣v:=(W5 c2).dvd_of_dvd_mul_left (by rw[<-cn];exact W6 _ _);have ev:=Nat.dvd_antisymm d1 d2;subst ev;exact⟨Ol (a:=(v:Int)) (by omega) cr,rfl⟩
theorem weak{n:Nat}{ts:L0}{ss ss':List (List Int)}{wl:List Int}{ov ov':Nat}{Z Z':Int}{Y X Y' X':Nat->Int}(hS:bM ss ts false n)(hS':bM ss' ts false n)(h:Sh n ss wl ov Z Y X)(h':Sh n ss' wl ov' Z' Y' X'):Z*(ov':Int)<=Z'*(ov:Int):=by
 have Xq:∀k,k<ss'.length->(Sx.sm n fun p=>if cu ss' k p=true then X p else 0)<=(ov:Int):=fun k hk=>by
  have m:ss'[k]∈ss:=hS.1.mem_iff.mpr (hS'.1.mem_iff.mp (tY hk));obtain⟨j,hj,ej⟩:=yV m;have e:=h.Xq j hj;have:∀p,cu ss' k p=cu ss j p:=fun p=>by
   unfold cu;rw[jF,jF,dJ hk,dJ hj,ej]
  simp only[this];exact e
 have a1:Z*(ov':Int)=Sx.sm n fun p=>(ov':Int)*(kY wl p*X p):=by rw[Sx.bQ,h.wor,yS]
 have a2:(Sx.sm n fun p=>(ov':Int)*(kY wl p*X p))<=Sx.sm n fun p=>Sx.sm ss'.length fun k=>X p*(if cu ss' k p=true then Y' k else 0):=by
  refine Ej n fun p hp=> ?_;rw[Sx.bQ];have:=Rk (h'.eno p hp) (h.xn p);have x:(ov':Int)*(kY wl p*X p)=X p*((ov':Int)*kY wl p):=by grind
  rw[x];exact this
 have a3:=Sx.rm (fun p k=>X p*(if cu ss' k p=true then Y' k else 0)) ss'.length n;have a4:(Sx.sm ss'.length fun k=>Sx.sm n fun p=>X p*(if cu ss' k p=true then Y' k else 0))<=Sx.sm ss'.length fun k=>(ov:Int)*Y' k:=by
  refine Ej _ fun k hk=> ?_;have e:(Sx.sm n fun p=>X p*(if cu ss' k p=true then Y' k else 0))=Sx.sm n fun p=>Y' k*(if cu ss' k p=true then X p else 0):=Sx.aK n fun p _=>by split<;>grind
  rw[e,Sx.bQ];have:=Rk (Xq k hk) (h'.yn k);rw[yS (ov:Int)];exact this
 have a5:(Sx.sm ss'.length fun k=>(ov:Int)*Y' k)=Z'*(ov:Int):=by rw[Sx.bQ,h'.tot,yS]
 rw[a1];refine Yl a2 ?_;rw[a3];refine Yl a4 ?_;rw[a5];exact yR _
theorem OD{n:Nat}{ts:L0}{ss ss':List (List Int)}{wl:List Int}{ov ov':Nat}{Z Z':Int}{Y X Y' X':Nat->Int}(hS:bM ss ts false n)(hS':bM ss' ts false n)(h:Sh n ss wl ov Z Y X)(h':Sh n ss' wl ov' Z' Y' X'):aJ Z ov=aJ Z' ov':=by
 have e:=Yr (weak hS hS' h h') (weak hS' hS h' h);have l:=Jh Z h.pos;have l':=Jh Z' h'.pos;have p1:=h.pos;have p2:=h'.pos;have e1:=l.eq;have e2:=l'.eq;obtain⟨x,y⟩:=qJ l.pos l.cop l'.cop (by
  refine Ol (a:=(ov:Int)*(ov':Int)) ?_ ?_
  ·have:=Rm (a:=(ov:Int)) (b:=(ov':Int)) (by omega) (by omega);omega
  ·generalize (aJ Z ov).1=u at *;generalize (aJ Z ov).2=v at *;generalize (aJ Z' ov').1=u' at *;generalize (aJ Z' ov').2=v' at *;have x1:u*(v':Int)*((ov:Int)*(ov':Int))=(u*(ov:Int))*((v':Int)*(ov':Int)):=by grind
   have x2:u'*(v:Int)*((ov:Int)*(ov':Int))=(u'*(ov':Int))*((v:Int)*(ov:Int)):=by grind
   rw[x1,x2,e1,e2];have x3:Z*(v:Int)*((v':Int)*(ov':Int))=(Z*(ov':Int))*((v:Int)*(v':Int)):=by grind
   rw[x3,e];grind)
 exact Prod.ext x y
theorem Same.Ur{H0 H H':Hp}{d:Addr}(s:Same H0 H)(n:H0 d=none)(e:aV d H H'):Same H0 H':=fun b u h=>e _ _ (fun z=>by rw[z,n]at h;cases h) (s _ _ h)
noncomputable def spLaw(K:W.Frag):Sp:=fun vs H Q _=>∃(a:Addr) (ns:List Int),vs=[.ref a]/\sX K H a ns/\ns.length<=63/\∀H',Q (.bl true) H'
theorem Eb{H:Hp}{a:Addr}{ns:List Int}(hl:ns.length<=63)(hO:Only H)(hS:SqL K H a (ns.map V.int)):spLaw K [.ref a] H (fun v _=>v= .bl true) fun _ _ _=>False:=by
 refine⟨a,ns,rfl,?_,hl,fun _=>rfl⟩;rcases hS with(h|⟨o,h⟩)|h
 ·rcases hO a with q|⟨o,xs,q⟩
  ·rw[q]at h;cases h
  ·rw[q]at h;cases h
 ·exact .inl ⟨o,h⟩
 ·exact .inr h
theorem K9(u v:Int):PyData.eqv (.tuple [.int u,.int v]) (.tuple [.int u,.int v])=true:=by simp[PyData.eqv,PyData.eqvAll]
noncomputable def Vy(f:Int×Nat):θ:= .tuple [.int f.1,.int ((f.2:Nat):Int)]
theorem CN.dv{H:Hp}{a:Addr}{f:Int×Nat}(h:CN K H a f):DV K H (.ref a) (Vy f):= .tup h (.cons (.int _) (.cons (.int _) .nil))
theorem Dg{n p:Nat}(hp:p<n):kY (fO n) p=1:=by
 unfold kY fO;rw[jF,List.getElem?_replicate_of_lt hp];rfl
theorem oY{X:Cx}(K:W.Frag)(h:X.K=K:=by rfl):CallR X (.type "tuple") (fun xs H Q=>∃p ys,xs=[.ref p]/\((SqL K H p ys/\∀l,H l=none->Q (.ref l) (upd H l (.tup ys)))\/(SqT K H p ys/\Q (.ref p) H))):=by subst h;exact call_tuple_of
noncomputable def cW(K:W.Frag)(H:Hp):List V->List (List Int)->Prop:=Paired fun v r=>∃p,v= .ref p/\SqT K H p (r.map V.int)
theorem cW.same{H H':Hp}{rs:List V}{R:List (List Int)}(h:cW K H rs R)(s:Same H H'):cW K H' rs R:=Paired.mapP h fun _ _ ⟨p,e,z⟩=>⟨p,e,s.tup z⟩
theorem cW.at{H:Hp}{rs:List V}{R:List (List Int)}{i:Int}(h:cW K H rs R)(h0:0<=i)(h1:i.toNat<R.length):∃p,atI rs i=some (.ref p)/\SqT K H p ((R.getD i.toNat []).map V.int):=by
 have hl:=Paired.gZ h;have hi:i.toNat<rs.length:=by omega
 obtain⟨r,hr,p,e,hp⟩:=Paired.at_ h (dJ hi);refine⟨p,?_,?_⟩
 ·have:=atI_nat (xs:=rs) (j:=i.toNat) (v:=V.ref p) (by rw[dJ hi,e])
  rwa [SQ h0]at this
 ·rw[jF,hr];exact hp
theorem T9{f:Nat->Int}{g:Int}{j:Nat}:∀k,j<k->(∀i,i<k->0<=f i)->Sx.sm k f<=g->f j<=g:=fun k hj hn h=>by
 have:f j<=Sx.sm k f:=by
  induction k with
  |zero=>omega
  |succ k ih=>
   show f j<=Sx.sm k f+f k;have hk:=hn k (by omega);have hs:=Sx.ur k fun i hi=>hn i (by omega);by_cases c:j=k
   ·subst c;omega
   ·have:=ih (by omega) (fun i hi=>hn i (by omega)) (by show Sx.sm k f<=g;have:Sx.sm (k+1) f=Sx.sm k f+f k:=rfl;omega);omega
 omega
theorem Kq{ss:List (List Int)}{ov:Nat}{Y:Nat->Int}{q:List Int×(Int×Nat)}(h:q∈bB ss ov Y):∃k,k<ss.length/\0<Y k/\q.2=aJ (Y k) ov:=by
 unfold bB at h;obtain⟨k,hk,rfl⟩:=kW.mp h;rw[iM,nM]at hk;exact⟨k,hk.1,kJ hk.2,rfl⟩
theorem FQ(k:Nat):((List.replicate k (PyData.bool true)).any fun d=>PyData.eqv d (.bool false))=false:=by
 rw[Rf];intro d hd;rw[List.eq_of_mem_replicate hd];simp[PyData.eqv]
theorem qK:∀k:Nat,PyData.canLayAll0 (List.replicate k (PyData.bool true))=true
 |0=>rfl
 |k+1=>by show(true&&PyData.canLayAll0 (List.replicate k (PyData.bool true)))=true;rw[qK k];rfl
theorem qQ{H:Hp}:∀k:Nat,dg K H ((List.replicate k true).map V.bl) (List.replicate k (PyData.bool true))
 |0=> .nil
 |k+1=> .cons (.bl true) (qQ k)
noncomputable def Ew(r:List Int):Bool:=(List.range (r.length-1)).all fun k=>decide (r.getD k 0<r.getD (k+1) 0)
noncomputable def lC(b:Int)(r:List Int):Bool:=decide ((r.length:Int)=b)&&(r.all (fun h=>decide (0<=h))&&Ew r)
noncomputable def vI(x y:List Int):Bool:=x.any fun h=>decide (h∈y)
noncomputable def vD(n:Int)(ts:L0)(b:Int)(R:List (List Int)):Bool:=decide ((R.length:Int)=n)&&(R.all (lC b)&& !(ts.any fun p=>vI (R.getD p.1.toNat []) (R.getD p.2.toNat [])))
theorem Eu(r:List Int):Ew r=true↔r.Pairwise (· < ·):=by
 have gg:∀j,(hj:j<r.length)->r.getD j 0=r[j]:=fun j hj=>by rw[jF,dJ hj];rfl
 unfold Ew;rw[pJ];constructor
 ·intro h;have st:∀d i,(hd:i+d+1<r.length)->r[i]'(by omega)<r[i+d+1]:=by
   intro d
   induction d with
   |zero=>
    intro i hd;have:=kJ (h i (nM.mpr (by omega)))
    rwa [gg i (by omega),gg (i+1) (by omega)]at this
   |succ d ih=>
    intro i hd;have a:=ih i (by omega);have b:=kJ (h (i+d+1) (nM.mpr (by omega)));rw[gg (i+d+1) (by omega),gg (i+d+1+1) (by omega)]at b;exact Int.lt_trans a b
  rw[Jq];intro i j hi hj hij;have:=st (j-i-1) i (by omega);have e:i+(j-i-1)+1=j:=by omega
  simp only[e]at this;exact this
 ·intro h k hk;rw[nM]at hk;rw[gg k (by omega),gg (k+1) (by omega)];exact cU (Jq.mp h k (k+1) (by omega) (by omega) (by omega))
noncomputable def zx(K:W.Frag):Sp:=fun vs H Q _=>∃(p:Addr) (b:Int) (row:List Int),vs=[.int b,.ref p]/\SqT K H p (row.map V.int)/\∀H',Same H H'->Q (.bl (lC b row)) H'
theorem Fw{f f1 f2:Addr}{fd d1 d2:τ}(F:Fun K "is_row" "is_row" oF f fd)(D1:cZ K mg "is_rising" R0 ["things"] f1 d1)(G1:FnOk P w K mg base CX0 1 f1 d1 ["things"] (jG K))(D2:cZ K mg "is_whole" Oc ["thing"] f2 d2)(G2:FnOk P w K mg base CX0 1 f2 d2 ["thing"] (iB K))(cA:mg "len"=none)(aX:mg "isinstance"=none)(cC:mg "tuple"=none)(uP:mg "all"=none):
  FnOk P w K mg base CX0 2 f fd ["b","thing"] (zx K):=by
 refine F.eF ["b","thing"] fun cdv A outer s H vs Q E hr h=> ?_;obtain⟨p,b,row,rfl,hp,qq⟩:=h;refine bH ?_;intro Y;refine⟨_,(bf (pF (PW.pt (pw_or (vX (vY (pB Af aX (ao (pv 1) (ao (pN "tuple" cC) aA))))) (pw_or1 (gF op_ne (pB v7 cA (ao (pv 1) aA)) (pv 0))))) (bN (cT pe_bl)) pH) (bN (cT (yO (pB (fj rfl) uP (ao (pK ["hue"] [] [] (Jg (pv 1)) (pG 0) tH (yO (pc G2 hr D2 (ao (pv 0) aA)) (Ac (Je op_ge (pv 0) aY)))) aA)) (Ac (pc G1 hr D1 (ao (pv 1) aA))))))),?_⟩;refine gn ?_;intro c2;refine⟨_,rfl,.ref p,"tuple",_,rfl,.inl ⟨rfl,_,hp⟩,.inr (.inr (.inl rfl)),_,rfl,?_⟩;refine iteF ?_;refine⟨_,rfl,p,_,rfl,.inr hp,fun hz=>⟨_,rfl,rfl,_,rfl,?_⟩⟩;unfold lC at qq;by_cases hl:(row.length:Int)=b
 ·have e1:(!decide (V.int (((row.map V.int).length:Nat):Int)=V.int b))=false:=by rw[aH,hl];simp
  rw[e1];refine iteF ?_;rw[cU hl,Tp]at qq;refine⟨_,rfl,p,_,rfl,hp,fun hz=> ?_⟩;let jz:Nat->List V->St->Hp->Prop:=fun i acc σ H'=>acc=((row.take i).map fun h=>decide (0<=h)).map V.bl/\H'=H/\∃o,σ=[o];refine Lr (xs:=row.map V.int) jz ⟨rfl,rfl,_,rfl⟩ (fun i acc σ H' _ p=>by rw[p.2.1];exact hp) (fun i acc σ H' _ p=>by rw[p.1,aH,aH,Dc];exact Ly _ _) hz (fun i x acc σ H' hx p=> ?_) (fun acc σ H' p=> ?_)
  ·obtain⟨rfl,rfl,o,rfl⟩:=p;rw[dX]at hx;cases ex:row[i]? with
   |none=>rw[ex]at hx;cases hx
   |some y=>
    rw[ex]at hx;cases hx;refine⟨_,rfl,.int y,.int y,rfl,.int _,_,rfl,iteT ?_⟩;refine⟨_,rfl,_,_,rfl,rfl,?_,rfl,_,rfl⟩;show _++[V.bl (decide (0<=y))]=_;rw[IW,ex,dB,dB];rfl
  intro p1 hp1;obtain⟨rfl,rfl,_⟩:=p;rw[I9 (by rw[aH];exact aB _)];have s1:=bO hp1 (.lst ((row.map fun h=>decide (0<=h)).map V.bl));refine⟨p1,_,rfl,SqL.of aR,_,rfl,?_⟩;have ea:(row.map fun h=>decide (0<=h)).all id=row.all fun h=>decide (0<=h):=by rw[Wy];rfl
  rw[ea];refine ite2 (fun c=> ?_) (fun c=> ?_)
  ·rw[c,Tp]at qq;refine⟨_,rfl,p,_,_,rfl,s1.tup hp,qC row,fun H2 s2=> ?_⟩;rw[aH];exact qq H2 (s1.trans s2)
  ·rw[Bool.eq_false_iff.mpr c]at qq;exact qq _ s1
 ·have e1:(!decide (V.int (((row.map V.int).length:Nat):Int)=V.int b))=true:=by
   rw[aH];rw[gB (fun z=>hl (V.int.inj z))];rfl
  rw[e1];refine iteT ?_;rw[gB hl]at qq;exact qq H (Same.refl _)
noncomputable def M6(K:W.Frag):Sp:=fun vs H Q _=>∃(p q:Addr) (xs ys:List Int),vs=[.ref p,.ref q]/\SqT K H p (xs.map V.int)/\SqT K H q (ys.map V.int)/\xs.length<1000/\ys.length<1000/\Q (.bl (vI xs ys)) H
theorem Qh{f:Addr}{fd:τ}(F:Fun K "have_in_common" "have_in_common" X7 f fd)(cA:mg "len"=none)(Gi:mg "set"=none):
  FnOk P w K mg base CX0 1 f fd ["one","other"] (M6 K):=by
 refine F.eF ["one","other"] fun cdv A outer s H vs Q E hr h=> ?_;obtain⟨p,q,xs,ys,rfl,hp,hq,l1,l2,qq⟩:=h;refine⟨_,(bN (cT (Je op_gt (Bg rfl rfl cA rfl Gi (ao (pv 0) aA) (ao (pv 1) aA)) aY))),?_⟩;refine⟨_,rfl,true,p,xs,rfl,hp,l1,_,rfl,true,q,ys,rfl,hq,l2,fun m hm=>⟨_,_,rfl,rfl,?_⟩⟩;show Q (.bl (decide ((0:Int)<(m:Int)))) H;have e:decide ((0:Int)<(m:Int))=vI xs ys:=by
  unfold vI;rw[wI,decide_eq_true_iff,Q9];constructor
  ·intro z;obtain⟨k,k1,k2⟩:=hm.mp (by omega);exact⟨k,k1,cU k2⟩
  ·rintro⟨k,k1,k2⟩;have:=hm.mpr ⟨k,k1,kJ k2⟩;omega
 rw[e];exact qq
theorem Ld{n b:Int}{ts:L0}{R:List (List Int)}(h:¬(R.length:Int)=n):vD n ts b R=false:=by unfold vD;rw[gB h];rfl
theorem Lb{n b:Int}{ts:L0}{R:List (List Int)}(h:R.all (lC b)=false):vD n ts b R=false:=by unfold vD;rw[h,Yp,Yo]
theorem zY{n b:Int}{ts:L0}{R:List (List Int)}(h:(R.length:Int)=n)(h':R.all (lC b)=true):vD n ts b R= !(ts.any fun p=>vI (R.getD p.1.toNat []) (R.getD p.2.toNat [])):=by unfold vD;rw[cU h,h',Tp,Tp]
theorem Uh{R:List (List Int)}{i:Nat}(hi:i<R.length):R.getD i []∈R:=by
 rw[jF,dJ hi];exact tY hi
noncomputable def kZ(K:W.Frag):Sp:=fun vs H Q _=>∃(a l:Addr) (n b:Int) (ts:L0) (rs:List V) (R:List (List Int)),vs=[.ref a,.int b,.ref l]/\fu K H a n ts/\1<=b/\SqL K H l rs/\cW K H rs R/\(∀r∈R,r.length<=521)/\∀H',Same H H'->Q (.bl (vD n ts b R)) H'
theorem xK{f f1 f2 f3 f4:Addr}{fd d1 d2 d3 d4:τ}(F:Fun K "are_rows" "are_rows" jk f fd)(D1:cZ K mg "need_web" Od ["thing"] f1 d1)(G1:FnOk P w K mg base CX0 7 f1 d1 ["thing"] (dI K))(D2:cZ K mg "is_whole" Oc ["thing"] f2 d2)(G2:FnOk P w K mg base CX0 1 f2 d2 ["thing"] (iB K))(D3:cZ K mg "is_row" oF ["b","thing"] f3 d3)(G3:FnOk P w K mg base CX0 2 f3 d3 ["b","thing"] (zx K))(D4:cZ K mg "have_in_common" X7 ["one","other"] f4 d4)(G4:FnOk P w K mg base CX0 1 f4 d4 ["one","other"] (M6 K))(uP:mg "all"=none)(cA:mg "len"=none)(aX:mg "isinstance"=none)(fV:mg "list"=none)(U0:mg "any"=none):
  FnOk P w K mg base CX0 8 f fd ["web","b","rows"] (kZ K):=by
 refine F.eF ["web","b","rows"] fun cdv A outer s H vs Q E hr h=> ?_;obtain⟨a,l,n,b,ts,rs,R,rfl,hA,b0,hl,hR,h40,qq⟩:=h;refine bH ?_;intro Y;refine⟨_,(bf (Ae (pc G1 hr D1 (ao (pv 0) aA))) (bf (pF (PW.pt (pw_or (vX (vY (pc G2 hr D2 (ao (pv 1) aA)))) (pw_or1 (gF op_lt (pv 1) aY)))) pss_never pH) (bf (pF (PW.pt (pw_or (vX (vY (pB Af aX (ao (pv 2) (ao (pN "list" fV) aA))))) (pw_or (gF op_ne (pB v7 cA (ao (pv 2) aA)) (cM nH (pv 0) aY)) (pw_or1 (vX (vY (pB (fj rfl) uP (ao (pK ["row"] ["b"] [1] (CV (pv 2)) (pG 0) tH (pc G3 hr D3 (ao (pv 1) (ao (pv 0) aA)))) aA)))))))) (bN (cT pe_bl)) pH) (bN (cT (pe_not (pB (HJ rfl) U0 (ao (pK ["one","other"] ["rows"] [2] (Jg (cM nH (pv 0) aY)) (eE K (n:=2) rfl (mH (pG 0) (mH (pG 1) Cp))) tH (pc G4 hr D4 (ao (cM (dM K) (pv 2) (pv 0)) (ao (cM (dM K) (pv 2) (pv 1)) aA)))) aA)))))))),?_⟩;refine GF ?_;intro c4 c3 c2;have h0:=hA.h0;have hRl:=Paired.gZ hR;refine⟨_,rfl,.ref a,_,rfl,hA.web.dv.dx,hA.ok,fun H1 s1=> ?_⟩;have Xy:=hA.same s1;obtain⟨Rv,Rz,w1,w2,w3⟩:=id Xy.web;refine⟨_,rfl,.int b,.int b,rfl,.int b,_,rfl,?_⟩;refine iteF ?_;refine⟨_,rfl,_,_,rfl,rfl,_,rfl,?_⟩;rw[gB (show¬b<1 by omega)];refine iteF ?_;have hl1:=s1.seq hl;have RL:=hR.same s1;refine⟨_,rfl,.ref l,"list",_,rfl,.inr (.inl ⟨rfl,_,hl1⟩),.inr (.inr (.inr rfl)),_,rfl,?_⟩;refine iteF ?_;refine⟨_,rfl,l,_,rfl,.inl hl1,fun hz=>⟨_,rfl,a,_,_,.int n,rfl,rfl,w1,rfl,rfl,_,rfl,?_⟩⟩;by_cases hn:(R.length:Int)=n
 ·have e1:(!decide (V.int ((rs.length:Nat):Int)=V.int n))=false:=by
   have:((rs.length:Nat):Int)=n:=by omega
   rw[this,cU rfl];rfl
  rw[e1];refine iteF ?_;refine⟨_,rfl,l,_,rfl,hl1,fun hz=> ?_⟩;let jz:Nat->List V->St->Hp->Prop:=fun i acc σ H'=>acc=((R.take i).map (lC b)).map V.bl/\Same H1 H'/\∃o,σ=[o,some (.int b)];refine Lw (xs:=rs) jz ⟨rfl,Same.refl _,_,rfl⟩ (fun i acc σ H' _ p=>p.2.1.seq hl1) (fun i acc σ H' _ p=>by rw[p.1,aH,aH,Dc];exact Ly _ _) hz (fun i x acc σ H' hx p=> ?_) (fun acc σ H' p=> ?_)
  ·obtain⟨rfl,sm,o,rfl⟩:=p;obtain⟨row,hrow,pp,rfl,hpp⟩:=Paired.at_ RL hx;refine⟨_,rfl,_,rfl,pp,b,row,rfl,sm.tup hpp,fun H2 s2=>⟨?_,sm.trans s2,_,rfl⟩⟩;rw[IW,hrow,dB,dB];rfl
  intro p1 hp1;obtain⟨rfl,sm,_⟩:=p;rw[I9 (by omega)]at *;have g1:=bO hp1 (.lst ((R.map (lC b)).map V.bl));refine⟨p1,_,rfl,SqL.of aR,_,rfl,?_⟩;have ea:(R.map (lC b)).all id=R.all (lC b):=by rw[Wy];rfl
  rw[ea];have m9:=sm.trans g1;generalize (upd H' p1 (.lst ((R.map (lC b)).map V.bl)))=H3 at *;cases hal:R.all (lC b)with
  |false=>
   refine iteT ?_;have:=qq H3 (s1.trans m9);rw[Lb hal]at this;exact this
  |true=>
   refine iteF ?_;have hl3:=m9.seq hl1;have Vh:=RL.same m9;refine⟨_,rfl,a,_,_,.ref Rv,rfl,rfl,m9.tup w1,rfl,Rv,_,rfl,m9.tup w2,fun hz=> ?_⟩;have w33:=w3.same m9;have lr:Rz.length=ts.length:=by have:=w3.len;rwa [aH]at this
   let vP:Nat->List V->St->Hp->Prop:=fun i acc σ H'=>acc=((ts.take i).map fun p=>vI (R.getD p.1.toNat []) (R.getD p.2.toNat [])).map V.bl/\H'=H3/\∃o1 o2,σ=[o1,o2,some (.ref l)];refine Lr (xs:=Rz) vP ⟨rfl,rfl,_,_,rfl⟩ (fun i acc σ H' _ p=>by rw[p.2.1];exact m9.tup w2) (fun i acc σ H' _ p=>by rw[p.1,aH,aH,Dc];exact Ly _ _) hz (fun i x acc σ H' hx p=> ?_) (fun acc σ H' p=> ?_)
   ·obtain⟨rfl,rfl,o1,o2,rfl⟩:=p;obtain⟨t,hi,rfl,ht⟩:=zH w33 hx;obtain⟨q0,q1,q2⟩:=hA.pk.lt _ (tY hi);have i1:(ts[i]).1.toNat<R.length:=by omega
    have i2:(ts[i]).2.toNat<R.length:=by omega
    obtain⟨p1,a1,v1⟩:=cW.at Vh q0 i1;obtain⟨p2,a2,v2⟩:=cW.at Vh (i:=(ts[i]).2) (by omega) i2;have l1:=h40 _ (Uh i1);have l2:=h40 _ (Uh i2);refine⟨t,_,rfl,ht,rfl,_,_,rfl,_,_,rfl,rfl,?_⟩;refine⟨_,rfl,_,rfl,l,_,_,.ref p1,rfl,rfl,hl3,a1,_,rfl,_,rfl,l,_,_,.ref p2,rfl,rfl,hl3,a2,?_⟩;refine⟨p1,p2,_,_,rfl,v1,v2,by omega,by omega,?_,rfl,_,_,rfl⟩;rw[IW,dJ hi,dB,dB];rfl
   intro p2 hp2;obtain⟨rfl,rfl,_⟩:=p;rw[I9 (by omega)]at *;have g2:=bO hp2 (.lst ((ts.map fun p=>vI (R.getD p.1.toNat []) (R.getD p.2.toNat [])).map V.bl));refine⟨p2,_,rfl,SqL.of aR,_,rfl,?_⟩;have:=qq _ (s1.trans (m9.trans g2));rw[zY hn hal]at this;rw[List.any_map];exact this
 ·have e1:(!decide (V.int ((rs.length:Nat):Int)=V.int n))=true:=by
   rw[gB (fun z=>hn (by have:=V.int.inj z;omega))];rfl
  rw[e1];refine iteT ?_;have:=qq H1 s1;rw[Ld hn]at this;exact this
end
noncomputable def vK(b:Nat)(q:List Int×(Int×Nat)):Nat:=(q.2.1*(b:Int)/(q.2.2:Int)).toNat
noncomputable def iQ(b:Nat)(L:List (List Int×(Int×Nat))):List (List Int):=(L.map fun q=>List.replicate (vK b q) q.1).flatten
noncomputable def ju(S:List (List Int))(p:Int):List Int:=((List.range S.length).filter fun k=>decide (p∈S.getD k [])).map fun k:Nat=>(k:Int)
noncomputable def XH(b:Nat)(L:List (List Int×(Int×Nat))):Prop:=∀q∈L,0<=q.2.1/\0<q.2.2/\q.2.2∣b
theorem cnt_eq{b:Nat}{q:List Int×(Int×Nat)}(h0:0<=q.2.1)(hv:0<q.2.2)(hd:q.2.2∣b):q.2.1*(b:Int)/(q.2.2:Int)=q.2.1*((b/q.2.2:Nat):Int)/\((vK b q:Nat):Int)=q.2.1*((b/q.2.2:Nat):Int):=by
 have e:q.2.1*(b:Int)/(q.2.2:Int)=q.2.1*((b/q.2.2:Nat):Int):=by
  obtain⟨c,rfl⟩:=hd;rw[Aj _ hv]
  push_cast
  rw[show q.2.1*((q.2.2:Int)*(c:Int))=(q.2.2:Int)*(q.2.1*(c:Int)) by grind];exact Zi _ (by omega)
 refine⟨e,?_⟩;unfold vK;rw[e];exact SQ (yU h0 (Int.natCast_nonneg _))
theorem wY{b:Nat}(g:List Int->Bool):∀{L:List (List Int×(Int×Nat))},XH b L->((((iQ b L).filter g).length:Nat):Int)=mj b ((L.filter fun q=>g q.1).map (·.2))
 |[],_=>rfl
 |q::L,h=>by
  have ih:=wY g (L:=L) fun r hr=>h r (eV _ hr);obtain⟨h0,hv,hd⟩:=h q gG;have e:=(cnt_eq h0 hv hd).2;show((((List.replicate (vK b q) q.1++iQ b L).filter g).length:Nat):Int)=_;rw[Cy,p7,List.filter_replicate];by_cases c:g q.1=true
  ·rw[ak c,Oj,Wn (by exact c)];show _=q.2.1*((b/q.2.2:Nat):Int)+mj b _;rw[<-ih,<-e];push_cast;rfl
  ·rw[aj c,Wk (by exact c),<-ih];simp
theorem Pa{b:Nat}{L:List (List Int×(Int×Nat))}{s:List Int}(h:s∈iQ b L):∃q∈L,q.1=s:=by
 obtain⟨l,hl,hs⟩:=List.mem_flatten.mp h;obtain⟨q,hq,rfl⟩:=kW.mp hl;exact⟨q,hq,(yet.mp hs).2.symm⟩
theorem qO{b e:Nat}(hb:0<b):∀{fs:List (Int×Nat)},(∀f∈fs,0<f.2/\f.2∣b)->mj (b*e) fs=mj b fs*(e:Int)
 |[],_=>by simp[mj]
 |f::fs,h=>by
  obtain⟨hv,c,hc⟩:=h f gG;have ih:=qO (e:=e) hb (fs:=fs) fun g hg=>h g (eV _ hg);show f.1*((b*e/f.2:Nat):Int)+mj (b*e) fs=(f.1*((b/f.2:Nat):Int)+mj b fs)*(e:Int);have e1:b/f.2=c:=by rw[hc];exact Aj _ hv
  have e2:b*e/f.2=c*e:=by rw[hc,Tn];exact Aj _ hv
  rw[ih,e1,e2]
  push_cast
  grind
theorem KC(S:List (List Int))(p:Int):(ju S p).length=(S.filter fun s=>decide (p∈s)).length:=by
 have go:∀m,m<=S.length->((List.range m).filter fun k=>decide (p∈S.getD k [])).length=((S.take m).filter fun s=>decide (p∈s)).length:=by
  intro m
  induction m with
  |zero=>intro _;rfl
  |succ m ih=>
   intro hm;have hm':m<S.length:=hm;rw[tM,Cy,p7,ih (by omega),wct hm',Cy,p7];congr 1;rw[IV,IV,jF,dJ hm'];show List.length (if decide (p∈S[m])=true then[m]else[])=List.length (if decide (p∈S[m])=true then[S[m]]else[]);split<;>rfl
 unfold ju;rw[aH,go S.length (aB _),IK]
theorem Qv(S:List (List Int))(p:Int):(ju S p).Pairwise (· < ·):=by
 unfold ju;exact Ss.mpr ((Tc.filter _).imp fun h=>by omega)
theorem rW{S:List (List Int)}{p h:Int}(hm:h∈ju S p):0<=h/\h<(S.length:Int)/\p∈S.getD h.toNat []:=by
 obtain⟨k,hk,rfl⟩:=kW.mp hm;obtain⟨h1,h2⟩:=iM.mp hk;have:=nM.mp h1;exact⟨by omega,by omega,kJ h2⟩
structure Lk(n:Int)(ts:L0)(a:Int)(b:Nat)(R:List (List Int)):Prop where
 len:R.length=n.toNat
 each:∀r∈R,r.length=b/\r.Pairwise (· < ·)/\∀h∈r,0<=h/\h<a
 dis:∀p∈ts,∀h∈R.getD p.1.toNat [],h∉R.getD p.2.toNat []
noncomputable def jL(n b:Nat)(S:List (List Int)):List (List Int):=(List.range n).map fun p:Nat=>(ju S (p:Int)).take b
theorem JN{n b:Nat}{S:List (List Int)}{p:Nat}(h:p<n):(jL n b S).getD p []=(ju S (p:Int)).take b:=by
 unfold jL;rw[jF,dX,Rg h];rfl
theorem Uc{n:Nat}{ts:L0}{ss:List (List Int)}{ov:Nat}{Z:Int}{Y X:Nat->Int}(hS:bM ss ts false n)(h:Sh n ss (fO n) ov Z Y X):Z<=(n:Int)*(ov:Int):=by
 have hx:∀p,p<n->X p<=(ov:Int):=fun p hp=>by
  obtain⟨j,hj,e⟩:=HB hS hp;have:=T9 (f:=fun p=>if cu ss j p=true then X p else 0) (j:=p) n hp (fun i _=>by show 0<=(if cu ss j i=true then X i else 0);split;exact h.xn i;exact yR 0) (h.Xq j hj);simp only[e,Ja]at this;exact this
 rw[<-h.wor];exact(Sx.wV (f:=fun p=>kY (fO n) p*X p) (b:=(ov:Int)) n fun p hp=>by
  show -(ov:Int)<=kY (fO n) p*X p/\kY (fO n) p*X p<=(ov:Int);rw[Dg hp,yQ];have:=h.xn p;have:=hx p hp;omega).2
section
variable{n:Nat}{ts:L0}{ss:List (List Int)}{ov:Nat}{Z:Int}{Y X:Nat->Int}{a:Int}{b:Nat}
theorem Kp(h:Sh n ss (fO n) ov Z Y X):mj ov ((bB ss ov Y).map (·.2))=Z:=by
 have:=rQ (ss:=ss) h.pos h.yn (fun _=>true) ss.length;simp only[Ja]at this;rw[h.tot]at this;rw[show((((List.range ss.length).filter fun k=>decide (0<Y k)).map fun k=>(ss.getD k [],aJ (Y k) ov)).filter fun q=>(fun _=>true) q.1)=bB ss ov Y from Rh.mpr fun _ _=>rfl]at this;exact this
theorem Aw(hp:dG (n:Int) ts)(hS:bM ss ts false n)(h:Sh n ss (fO n) ov Z Y X)(hs:eO ov (mj ov ((bB ss ov Y).map (·.2))) a b)(hd:∀f∈(bB ss ov Y).map (·.2),f.2∣b):
  XH b (bB ss ov Y)/\((iQ b (bB ss ov Y)).length:Int)=a/\a<=(n:Int)*(b:Int)/\aJ a b=aJ Z ov/\Lk (n:Int) ts a b (jL n b (iQ b (bB ss ov Y))):=by
 have Fi:=h.pos;have hb:=hs.pos;have hQ:XH b (bB ss ov Y):=fun q hq=>by
  obtain⟨k,hk,hy,e⟩:=Kq hq;have ok:=zQ (a:=Y k) Fi (h.yn k);rw[<-e]at ok;exact⟨ok.1,ok.2.1,hd _ (List.mem_map_of_mem hq)⟩
 obtain⟨_,⟨e,eD⟩,he⟩:=id hs;have ee:ov/b=e:=by rw[eD];exact Aj _ hb
 have ep:0<e:=SN fun z=>by rw[z,Wx]at eD;omega
 have eI:(ov:Int)=(b:Int)*(e:Int):=by have:=gD (fun z:Nat=>(z:Int)) eD;simpa using this
 have sc0:∀fs:List (Int×Nat),(∀f∈fs,0<f.2/\f.2∣b)->mj ov fs=mj b fs*(e:Int):=fun fs h=>by rw[eD];exact qO hb h
 have sc:∀g:List Int->Bool,mj ov (((bB ss ov Y).filter fun q=>g q.1).map (·.2))=mj b (((bB ss ov Y).filter fun q=>g q.1).map (·.2))*(e:Int):=fun g=>by
  refine sc0 _ fun f hf=> ?_;obtain⟨q,hq,rfl⟩:=kW.mp hf;exact(hQ q (iM.mp hq).1).2
 have all:∀l:List (List Int×(Int×Nat)),(l.filter fun q=>(fun _:List Int=>true) q.1)=l:=fun l=>Rh.mpr fun _ _=>rfl;have hlen:((iQ b (bB ss ov Y)).length:Int)=a:=by
  have c:=wY (fun _=>true) hQ;rw[all,show(iQ b (bB ss ov Y)).filter (fun _=>true)=iQ b (bB ss ov Y)from Rh.mpr fun _ _=>rfl]at c;have d:=sc fun _=>true;rw[all]at d;rw[ee,d]at he;rw[c];exact(Ol (a:=(e:Int)) (by omega) he).symm
 have tot:=Kp h;refine⟨hQ,hlen,hs.FJ Fi (by rw[tot];exact Uc hS h),?_,?_⟩
 ·have l:=Jh Z Fi;have l':=Jh a hb;have cr:=hs.JH Fi l tot;have e1:=l'.eq;obtain⟨x,y⟩:=qJ l'.pos l'.cop l.cop (by
   refine Ol (a:=(b:Int)) (by omega) ?_;have x1:(aJ a b).1*((aJ Z ov).2:Int)*(b:Int)=(aJ a b).1*(b:Int)*((aJ Z ov).2:Int):=by grind
   have x2:(aJ Z ov).1*((aJ a b).2:Int)*(b:Int)=(aJ Z ov).1*(b:Int)*((aJ a b).2:Int):=by grind
   rw[x1,x2,e1,<-cr];grind)
  exact Prod.ext x y
 have eno:∀p,p<n->b<=(ju (iQ b (bB ss ov Y)) (p:Int)).length:=fun p hp'=>by
  rw[KC];have c:=wY (fun s=>decide ((p:Int)∈s)) hQ;have d:=sc fun s=>decide ((p:Int)∈s);have f:=rQ (ss:=ss) Fi h.yn (fun s=>decide ((p:Int)∈s)) ss.length;have g:=h.eno p hp';rw[Dg hp']at g;have k:(Sx.sm ss.length fun k=>if decide ((p:Int)∈ss.getD k [])=true then Y k else 0)=Sx.sm ss.length fun k=>if cu ss k p=true then Y k else 0:=rfl
  have f':mj ov (((bB ss ov Y).filter fun q=>(fun s:List Int=>decide ((p:Int)∈s)) q.1).map (·.2))=Sx.sm ss.length fun k=>if cu ss k p=true then Y k else 0:=f
  rw[d]at f';rw[<-f',<-c,eI]at g;have:(b:Int)*(e:Int)<=(((iQ b (bB ss ov Y)).filter fun s=>decide ((p:Int)∈s)).length:Int)*(e:Int):=by omega
  have:=weg this (by omega);omega
 refine⟨by unfold jL;rw[aH,pZ];omega,fun r hr=> ?_,fun p hp' x hx hx2=> ?_⟩
 ·obtain⟨p,hp',rfl⟩:=kW.mp hr;have hp2:=nM.mp hp';refine⟨by rw[Dc];have:=eno p hp2;omega,(Qv _ _).sublist (YM _ _),fun x hx=> ?_⟩;have m:=rW (Y7 hx);rw[hlen]at m;exact⟨m.1,m.2.1⟩
 ·have hlt:=hp.2 p hp';rw[JN (by omega)]at hx hx2;have m1:=rW (Y7 hx);have m2:=rW (Y7 hx2);rw[show((p.1.toNat:Nat):Int)=p.1 by omega]at m1;rw[show((p.2.toNat:Nat):Int)=p.2 by omega]at m2;have Qt:x.toNat<(iQ b (bB ss ov Y)).length:=by omega
  obtain⟨q,hq,eq⟩:=Pa (b:=b) (L:=bB ss ov Y) (s:=(iQ b (bB ss ov Y)).getD x.toNat []) (by
   rw[jF,dJ Qt];exact tY Qt)
  obtain⟨k,hk,rfl⟩:=kW.mp hq;have hk3:=nM.mp (iM.mp hk).1;have K1:=JC hS (s:=ss.getD k []) (by rw[jF,dJ hk3];exact tY hk3);rw[<-eq]at m1 m2;have hz:=K1.all p.1 m1.2.2 p.2 m2.2.2 (by omega);unfold bJ at hz;rw[cU (show(p.1,p.2)∈ts from hp')]at hz;cases hz
end
section
variable{P:ρ}{w:υ}{K:W.Frag}{mg:L4}{base:Heap}
theorem Paired.app{α β:Type}{R:α->β->Prop}:∀{l l':List α} {m m':List β},Paired R l m->Paired R l' m'->Paired R (l++l') (m++m')
 |[],_,_,_,.nil,h=>h
 |_::_,_,_,_,.cons a t,h=> .cons a (Paired.app t h)
theorem uD{H:Hp}{x:V}{s:List Int}(h:∃p,x= .ref p/\SqT K H p (s.map V.int)):∀k,cW K H (List.replicate k [x]).flatten (List.replicate k s)
 |0=> .nil
 |k+1=> .cons h (uD h k)
theorem Eo(b:Nat)(l m:List (List Int×(Int×Nat))):iQ b (l++m)=iQ b l++iQ b m:=by unfold iQ;rw[dB,List.flatten_append]
theorem O9(b:Nat)(q:List Int×(Int×Nat)):iQ b [q]=List.replicate (vK b q) q.1:=by simp[iQ]
theorem Ud(b:Nat)(L:List (List Int×(Int×Nat)))(i:Nat):(iQ b (L.take i)).length<=(iQ b L).length:=by
 conv=>rhs;rw[<-List.take_append_drop i L,Eo,p7]
 omega
noncomputable def M4(K:W.Frag):Sp:=fun vs H Q _=>∃(la:Addr) (b:Nat) (rs:List V) (L:List (List Int×(Int×Nat))),vs=[.ref la,.int (b:Int)]/\SqL K H la rs/\mV K H rs L/\XH b L/\0<b/\b<=521/\(iQ b L).length<=5210/\
 ∀r xs H',Same H H'->H' r=some (.lst xs)->H r=none->cW K H' xs (iQ b L)->Q (.ref r) H'
theorem Qe{f:Addr}{fd:τ}(F:Fun K "sets_by_hue" "sets_by_hue" XM f fd):
  FnOk P w K mg base CX0 1 f fd ["laying","b"] (M4 K):=by
 refine F.eF ["laying","b","sets","some","share"] fun cdv A outer s H vs Q E hr h=> ?_;obtain⟨la,b,rs,L,rfl,hL,hv,hQ,b0,aaA,hsz,q⟩:=h;refine bH ?_;intro Y;refine⟨_,(bf (pS 2 (pe_lst aA)) (bf (Ad v9 rfl (CV (pv 0)) (pg_tup rfl (mH (pG 3) (mH (pG 4) Cp))) (bN (Ae (pe_bm Mt PySem.F.slot_list_extend PySem.F.type_list_extend mt_extend (pv 2) (ao (cH op_rep (pe_lst (ao (pv 3) aA)) (cH gW (cH yN (cM nH (pv 4) aY) (pv 1)) (cM nH (pv 4) aY))) aA))))) (bN (cT (pv 2))))),?_⟩;refine qM ?_;intro c3 c2;have hlen:=Paired.gZ hv;refine⟨(by show 0<=sizeLine;decide),fun f hf=> ?_⟩;have s0:=bO hf (.lst []);have e0:(upd H f (.lst [])) f=some (.lst []):=aR;generalize (upd H f (.lst []))=H0 at *;dsimp only[gName,List.set];refine⟨_,rfl,la,rs,rfl,s0.seq hL,fun hz=> ?_⟩;let jz:Nat->St->Hp->Prop:=fun i σ H'=>Same H H'/\(∃xs,H' f=some (.lst xs)/\cW K H xs (iQ b (L.take i)))/\∃o3 o4,σ=[some (.ref la),some (.int (b:Int)),some (.ref f),o3,o4];refine for_list (xs:=rs) jz ⟨s0,⟨[],e0,.nil⟩,_,_,rfl⟩ (fun i σ H' _ p=>p.1.seq hL) (fun i x σ H' hx p=> ?_) (fun σ H' p=> ?_)
 ·obtain⟨sm,⟨xs,ex,hxs⟩,o3,o4,rfl⟩:=p;obtain⟨qv,eq1,t,sa,fa,rfl,h1,h2,h3⟩:=Paired.at_ hv hx;obtain⟨u0,v0,vd⟩:=hQ qv (pO eq1);have vb:=WQ b0 vd;have tk:L.take (i+1)=L.take i++[qv]:=by rw[IW,eq1];rfl
  have le1:=Ud b L (i+1);have Qt:=Paired.gZ hxs;have e4:iQ b (L.take (i+1))=iQ b (L.take i)++List.replicate (vK b qv) qv.1:=by rw[tk,Eo,O9]
  rw[e4,p7,Oj]at le1;refine⟨t,_,rfl,sm.tup h1,rfl,_,_,rfl,_,_,rfl,rfl,?_⟩;have c0:0<=qv.2.1*(b:Int)/(qv.2.2:Int):=Int.ediv_nonneg (yU u0 (by omega)) (by omega);have ec:vK b qv=(qv.2.1*(b:Int)/(qv.2.2:Int)).toNat:=rfl;refine⟨_,rfl,.inl ⟨rfl,_,SqL.of ex⟩,_,rfl,(by show 1<=sizeLine;decide),fun p1 hp1=> ?_⟩;have z1:=bO hp1 (.lst [.ref sa]);have h3':=(sm.trans z1).tup h3;refine⟨_,rfl,fa,_,_,.int qv.2.1,rfl,rfl,h3',rfl,_,rfl,_,_,rfl,rfl,.inr ⟨by omega,by omega⟩,_,rfl,fa,_,_,.int (qv.2.2:Int),rfl,rfl,h3',rfl,_,_,rfl,rfl,⟨by omega,by omega⟩,?_⟩;refine⟨p1,_,[.ref sa],rfl,rfl,aR,by omega,by omega,by rw[gA];show 1*_<=_;omega,fun p2 hp2=> ?_⟩;rw[<-ec]at *;generalize vK b qv=k at *;have z2:=bO hp2 (.lst (List.replicate k [V.ref sa]).flatten);have e2:=(z1.trans z2) _ _ ex;have hlr:(List.replicate k [V.ref sa]).flatten.length=k:=by rw[len_rep];show k*1=k;omega
  refine⟨f,p2,xs,_,rfl,rfl,e2,aR,by rw[hlr,gA];omega,?_⟩;refine⟨fun a o ha=> ?_,⟨xs++(List.replicate k [V.ref sa]).flatten,aR,?_⟩,_,_,rfl⟩
  ·have na:a≠f:=fun z=>by rw[z,hf]at ha;cases ha
   rw[cG na];exact(z1.trans z2) _ _ (sm _ _ ha)
  ·rw[e4];exact Paired.app hxs (uD ⟨sa,rfl,h2⟩ k)
 ·obtain⟨sm,⟨xs,ex,hxs⟩,o3,o4,rfl⟩:=p;rw[I9 (by omega)]at hxs;exact⟨_,rfl,q f xs H' sm ex hf (hxs.same sm)⟩
noncomputable def M5(K:W.Frag):Sp:=fun vs H Q _=>∃(f:Addr) (p:Int) (xs:List V) (S:List (List Int)),vs=[.ref f,.int p]/\SqL K H f xs/\cW K H xs S/\
 ∀r H',Same H H'->H' r=some (.lst ((ju S p).map V.int))->H r=none->Q (.ref r) H'
theorem Qg{f:Addr}{fd:τ}(F:Fun K "hues_of" "hues_of" lq f fd)(bZ:mg "enumerate"=none):
  FnOk P w K mg base CX0 1 f fd ["sets","place"] (M5 K):=by
 refine F.eF ["sets","place"] fun cdv A outer s H vs Q E hr h=> ?_;obtain⟨f,p,xs,S,rfl,hf,hR,q⟩:=h;refine⟨_,(bN (cT (pK ["hue","some"] ["place"] [1] (jQ rfl bZ (ao (pv 0) aA)) (eE K (n:=2) rfl (mH (pG 0) (mH (pG 1) Cp))) (dZ (gF (jR K hr.units) (pv 2) (pv 1) (by with_unfolding_all rfl))) (pv 0)))),?_⟩;have hlen:=Paired.gZ hR;refine⟨_,rfl,false,f,xs,rfl,hf,fun hz=> ?_⟩;let vP:Nat->List V->St->Hp->Prop:=fun i acc σ H'=>acc=(((List.range i).filter fun k=>decide (p∈S.getD k [])).map fun k:Nat=>(k:Int)).map V.int/\Same H H'/\∃o1 o2,σ=[o1,o2,some (.int p)];refine iK (K:=K) (b:=false) (a:=f) (xs:=xs) vP ⟨rfl,Same.refl _,_,_,rfl⟩ (fun i acc σ H' _ pp=>pp.2.1.seq hf) (fun i acc σ H' _ pp=> ?_) hz (fun i v t acc σ H' hv pp ht'=> ?_) (fun acc σ H' pp=> ?_)
 ·rw[pp.1,aH,aH];exact dD (Ai _ _) (by rw[pZ];exact aB _)
 ·obtain⟨rfl,sm,o1,o2,rfl⟩:=pp;obtain⟨s,es,pa,rfl,hs⟩:=Paired.at_ hR hv;have z1:=bO ht' (.tup [.int (i:Int),.ref pa]);have eg:S.getD i []=s:=by rw[jF,es];rfl
  refine⟨t,_,rfl,SqT.of aR,rfl,_,_,rfl,_,_,rfl,rfl,?_⟩;refine⟨_,rfl,_,rfl,pa,_,_,.int p,rfl,.inr ((sm.trans z1).tup hs),dg.ints _,.int _,Ip _,rfl,(by show 0<=60;decide),_,rfl,?_⟩;rw[any_ints];refine ite2 (fun c=> ?_) (fun c=> ?_)
  ·refine⟨_,rfl,?_,sm.trans z1,_,_,rfl⟩;rw[tM,Cy,Wn (by rw[eg];exact c),dB,dB];rfl
  ·refine⟨?_,sm.trans z1,_,_,rfl⟩;rw[tM,Cy,Wk (by rw[eg];exact c),Yq,Cu]
 ·intro r hr';obtain⟨rfl,sm,_⟩:=pp;have e:(((List.range xs.length).filter fun k=>decide (p∈S.getD k [])).map fun k:Nat=>(k:Int))=ju S p:=by rw[hlen];rfl
  rw[e];refine q r _ (sm.trans (bO hr' _)) aR ?_;cases e:H r with
  |none=>rfl
  |some o=>rw[sm _ _ e]at hr';cases hr'
theorem Hz(ys:List Int)(b:Nat):cutV (ys.map V.int) none (some (b:Int))=(ys.take b).map V.int:=by
 unfold cutV HT.sIx;simp only;rw[aj (by omega),aH,<-List.map_drop,<-List.map_take];congr 1;show(ys.drop 0).take _=_;rw[List.drop_zero];rcases Nat.le_total b ys.length with h|h
 ·congr 1;omega
 ·rw[I9 (by omega),I9 h]
noncomputable def uf(K:W.Frag):Sp:=fun vs H Q _=>∃(a:Addr) (n:Int) (ts:L0),vs=[.ref a]/\fu K H a n ts/\
 ∀r l (x:Int) (c:Nat) rs R ss ov Z Y X H',Same H H'->H' r=some (.tup [.int x,.int (c:Int),.ref l])->0<c->c<=521->0<=x->H' l=some (.lst rs)->cW K H' rs R->Lk n ts x c R->bM ss ts false n.toNat->Sh n.toNat ss (fO n.toNat) ov Z Y X->aJ x c=aJ Z ov->H l=none->Q (.ref r) H'
theorem Bk{f f1 f2 f3 f4 f5:Addr}{fd d1 d2 d3 d4 d5:τ}(F:Fun K "spread" "spread" ou f fd)(D1:cZ K mg "need_web" Od ["thing"] f1 d1)(G1:FnOk P w K mg base CX0 7 f1 d1 ["thing"] (dI K))(D2:cZ K mg "shares" jK ["web","wants"] f2 d2)(G2:FnOk P w K mg base CX0 9 f2 d2 ["web","wants"] (nW K))(D3:cZ K mg "sum_of" oh ["fractions"] f3 d3)(G3:FnOk P w K mg base CX0 2 f3 d3 ["fractions"] (zp K))(D4:cZ K mg "sets_by_hue" XM ["laying","b"] f4 d4)(G4:FnOk P w K mg base CX0 1 f4 d4 ["laying","b"] (M4 K))(D5:cZ K mg "hues_of" lq ["sets","place"] f5 d5)(G5:FnOk P w K mg base CX0 1 f5 d5 ["sets","place"] (M5 K))(aF:mg "range"=none)(cC:mg "tuple"=none):
  FnOk P w K mg base CX0 10 f fd ["web"] (uf K):=by
 refine F.eF ["web","laying","total","b","sets","rows"] fun cdv A outer s H vs Q E hr h=> ?_;obtain⟨a,n,ts,rfl,hA,q⟩:=h;refine bH ?_;intro Y;refine⟨_,(bf (Ae (pc G1 hr D1 (ao (pv 0) aA))) (bf (pS 1 (cM nH (pc G2 hr D2 (ao (pv 0) (ao (cH zK (tV (ao aY aA)) (cM nH (pv 0) aY)) aA))) aY)) (bf (pS 2 (pc G3 hr D3 (ao (pK ["some","share"] [] [] (CV (pv 1)) (eE K (n:=2) rfl (mH (pG 0) (mH (pG 1) Cp))) tH (pv 1)) aA))) (bf (pS 3 (cM nH (pv 2) aY)) (bf (pS 4 (pc G4 hr D4 (ao (pv 1) (ao (pv 3) aA)))) (bf (pX 5 ["place"] ["sets","b"] [4,3] (CW rfl aF (ao (cM nH (pv 0) aY) aA)) (pG 0) tH (pT (oY K) cC (ao (pe_slice (Ek K) (pc G5 hr D5 (ao (pv 1) (ao (pv 0) aA))) po_none (po_some (pv 2))) aA))) (bN (cT (tV (ao (cM nH (pv 2) aY) (ao (pv 3) (ao (pv 5) aA)))))))))))),?_⟩;refine Nu ?_;intro c7 c6 c5 c4 c3 c2;have h0:=hA.h0;have h10:=hA.h1;refine⟨_,rfl,.ref a,_,rfl,hA.web.dv.dx,hA.ok,fun H1 s1=> ?_⟩;obtain⟨Rv,Rz,w1,_,_⟩:=id (hA.same s1).web;refine⟨_,rfl,(by show 1<=sizeLine;decide),fun p1 hp1=> ?_⟩;have s2:=bO hp1 (.tup [.int 1]);refine⟨_,rfl,a,_,_,.int n,rfl,rfl,s2.tup w1,rfl,p1,n,_,rfl,rfl,SqT.of aR,(fun e=>nomatch e),by omega,by omega,?_,fun wa H3 s3 h3=> ?_⟩
 ·show 1*n.toNat<=1000;omega
 have ew:(List.replicate n.toNat [V.int 1]).flatten=(fO n.toNat).map V.int:=by
  unfold fO;generalize n.toNat=k
  induction k with
  |zero=>rfl
  |succ k ih=>rw[Dd,LQ,ih,Dd];rfl
 rw[ew]at h3;have m9:=s1.trans (s2.trans s3);refine⟨a,wa,n,ts,fO n.toNat,rfl,hA.same m9,h3,⟨by unfold fO;rw[Oj];omega,fun x hx=> ?_⟩,fun r0 va la pa lrefs zF ss ov Z Y X H4 s4 e1 e2 e3 e4 e5 e6 jV hSh _ _ _=>⟨r0,_,_,.ref la,rfl,rfl,SqT.of e1,rfl,?_⟩⟩
 ·rw[(yet.mp hx).2];decide
 have aar:=hSh.few (by omega);have Fi:=hSh.pos;have hlen:=Paired.gZ e4;have l36:(bB ss ov Y).length<=36:=by
  unfold bB;rw[aH];have:=Ai (fun k=>decide (0<Y k)) (List.range ss.length);rw[pZ]at this;have:=nZ jV (by omega);omega
 have hD:DOk ov ((bB ss ov Y).map (·.2)):=by
  have:=Kr hSh (fun _=>true)
  rwa [show((bB ss ov Y).filter fun q=>(fun _=>true) q.1)=bB ss ov Y from Rh.mpr fun _ _=>rfl]at this
 have hpk:dG ((n.toNat:Nat):Int) ts:=by rw[show((n.toNat:Nat):Int)=n by omega];exact hA.pk
 have big:=fun(a:Int) (b:Nat)=>Aw (a:=a) (b:=b) hpk jV hSh;generalize bB ss ov Y=L at *;dsimp only[gName,List.set];refine⟨_,rfl,la,lrefs,rfl,SqL.of e3,fun hz=> ?_⟩;let jz:Nat->List V->St->Hp->Prop:=fun i acc σ H'=>H'=H4/\pA K H4 acc ((L.take i).map (·.2))/\∃o1 o2,σ=[o1,o2];refine Lw (xs:=lrefs) jz ⟨rfl,.nil,_,_,rfl⟩ (fun i acc σ H' _ p=>by rw[p.1];exact SqL.of e3) (fun i acc σ H' _ p=> ?_) hz (fun i x acc σ H' hx p=> ?_) (fun acc σ H' p=> ?_)
 ·rw[Paired.gZ p.2.1,aH,Dc];exact Ly _ _
 ·obtain⟨rfl,hf,o1,o2,rfl⟩:=p;obtain⟨qv,eq1,t,sa,fa,rfl,h1,h2,h3'⟩:=Paired.at_ e4 hx;refine⟨t,_,rfl,h1,rfl,_,_,rfl,_,_,rfl,rfl,?_⟩;refine⟨_,rfl,rfl,?_,_,_,rfl⟩;rw[IW,eq1,dB];exact Paired.snoc hf ⟨fa,rfl,h3'⟩
 intro p5 hp5;obtain⟨rfl,hf,_⟩:=p;rw[I9 (by omega)]at hf;have s5:=bO hp5 (.lst acc);have hal:acc.length<=36:=by rw[Paired.gZ hf,aH];exact l36
 refine⟨p5,acc,_,ov,rfl,SqL.of aR,pA.same hf s5,hD,by omega,fun p6 ta b H6 s6 e7 hs hdv=> ?_⟩;have hb:=hs.le hD.pos;have hb0:0<b:=hs.pos;obtain⟨hQ,htl,hta,hlow,hSp⟩:=big ta b hs hdv;have aax:ta<=5210:=by
  have h1:((n.toNat:Nat):Int)*(b:Int)<=10*(b:Int):=Int.mul_le_mul_of_nonneg_right (by omega) (by omega);omega
 have Ue:=s5.trans s6;have A6:=hA.same (m9.trans (s4.trans Ue));dsimp only[gName,List.set];refine⟨_,rfl,p6,_,_,.int (b:Int),rfl,rfl,SqT.of e7,rfl,?_⟩;refine⟨_,rfl,_,rfl,la,b,lrefs,L,rfl,Ue.seq (SqL.of e3),mV.same e4 Ue,hQ,hb0,by omega,by omega,fun f xs H7 s7 e8 _ hR7=> ?_⟩;have A7:=A6.same s7;obtain⟨tt7,rr7,w7,_,_⟩:=id A7.web;dsimp only[gName,List.set];refine⟨_,rfl,a,_,_,.int n,rfl,rfl,w7,rfl,n,rfl,by omega,by omega,?_⟩;let vP:Nat->List V->St->Hp->Prop:=fun i acc σ H'=>cW K H' acc (jL i b (iQ b L))/\Same H7 H'/\∃o,σ=[o,some (.ref f),some (.int (b:Int))];refine Q7 (n:=n.toNat) vP ⟨.nil,Same.refl _,_,rfl⟩ (fun i acc σ H' hi p=> ?_) (by rw[gA];omega) (fun i acc σ H' hi p=> ?_) (fun acc σ H' p=> ?_)
 ·rw[Paired.gZ p.1];unfold jL;rw[aH,pZ];exact aB _
 ·obtain⟨hR,sm,o,rfl⟩:=p;refine⟨_,rfl,_,rfl,f,_,xs,_,rfl,sm.seq (SqL.of e8),hR7.same sm,fun r1 H8 s8 e9 _=> ?_⟩;refine⟨_,rfl,_,rfl,r1,_,rfl,SqL.of e9,fun p2 hp2=>⟨p2,_,rfl,.inl ⟨SqL.of aR,fun t ht'=> ?_⟩⟩⟩;have z1:=bO hp2 (.lst (cutV ((ju (iQ b L) (0+(i:Int))).map V.int) none (some (b:Int))));have z2:=bO ht' (.tup (cutV ((ju (iQ b L) (0+(i:Int))).map V.int) none (some (b:Int))));have zz:=s8.trans (z1.trans z2);refine⟨?_,sm.trans zz,_,rfl⟩;have er:jL (i+1) b (iQ b L)=jL i b (iQ b L)++[(ju (iQ b L) (i:Int)).take b]:=by unfold jL;rw[tM,dB];rfl
  rw[er];refine Paired.snoc (hR.same zz) ⟨t,rfl,?_⟩;have ht1:=SqT.of (K:=K) (aR (H:=upd H8 p2 (.lst (cutV ((ju (iQ b L) (0+(i:Int))).map V.int) none (some (b:Int))))) (a:=t) (o:= .tup (cutV ((ju (iQ b L) (0+(i:Int))).map V.int) none (some (b:Int)))));rw[<-Hz];simp only[Tj]at ht1⊢;exact ht1
 ·intro l hl';obtain⟨hR,sm,_⟩:=p;have g1:=bO hl' (.lst acc);have gl:(upd H' l (.lst acc)) l=some (.lst acc):=aR;have e71:=(s7.trans (sm.trans g1)) _ _ e7;have RL:=hR.same g1;have sA:=(m9.trans (s4.trans Ue)).trans (s7.trans (sm.trans g1));have nl:H l=none:=by
   cases e:H l with
   |none=>rfl
   |some o=>rw[((m9.trans (s4.trans Ue)).trans (s7.trans sm)) _ _ e]at hl';cases hl'
  generalize (upd H' l (.lst acc))=H9 at *;dsimp only[gName,List.set];refine⟨_,rfl,p6,_,_,.int ta,rfl,rfl,SqT.of e71,rfl,_,rfl,_,rfl,(by show 3<=sizeLine;decide),fun r hr'=> ?_⟩;have g2:=bO hr' (.tup [.int ta,.int (b:Int),.ref l]);rw[show((n.toNat:Nat):Int)=n by omega]at hSp;exact q r l ta b acc _ ss ov Z Y X _ (sA.trans g2) aR hb0 (by omega) (by omega) (g2 _ _ gl) (RL.same g2) hSp jV hSh hlow nl
theorem Ph{b:Nat}{a:Int}{r:List Int}(h:r.length=b/\r.Pairwise (· < ·)/\∀h∈r,0<=h/\h<a):lC (b:Int) r=true:=by
 obtain⟨h1,h2,h3⟩:=h;unfold lC;rw[h1,cU rfl,(Eu r).mpr h2,pJ.mpr fun x hx=>cU (h3 x hx).1];rfl
theorem QL{n a:Int}{ts:L0}{b:Nat}{R:List (List Int)}(h0:0<=n)(h:Lk n ts a b R):vD n ts (b:Int) R=true:=by
 have hl:(R.length:Int)=n:=by rw[h.len];omega
 rw[zY hl (pJ.mpr fun r hr=>Ph (h.each r hr))];rw[YG,Rf];intro p hp hc;unfold vI at hc;obtain⟨x,hx,hx2⟩:=Q9.mp hc;exact h.dis p hp x hx (kJ hx2)
noncomputable def uo(K:W.Frag):Sp:=fun vs H Q _=>∃(a r l:Addr) (n x:Int) (c:Nat) (ts:L0) (rs:List V) (R ss:List (List Int)) (ov:Nat) (Z:Int) (Y X:Nat->Int),vs=[.ref a,.ref r]/\fu K H a n ts/\H r=some (.tup [.int x,.int (c:Int),.ref l])/\0<c/\c<=521/\0<=x/\H l=some (.lst rs)/\cW K H rs R/\Lk n ts x c R/\bM ss ts false n.toNat/\Sh n.toNat ss (fO n.toNat) ov Z Y X/\aJ x c=aJ Z ov/\
 ∀H',Same H H'->Q (.bl true) H'
theorem Br{f f1 f2 f3 f4:Addr}{fd d1 d2 d3 d4:τ}(F:Fun K "_law_aright" "_law_aright" fJ f fd)(D1:cZ K mg "_law_alow" fK ["a","b"] f1 d1)(G1':FnOk P w K mg base CX0 1 f1 d1 ["a","b"] (wQ K))(D2:cZ K mg "value" rE ["web"] f2 d2)(G2:FnOk P w K mg base CX0 10 f2 d2 ["web"] (zm K))(D3:cZ K mg "_law_awhole" fH ["found"] f3 d3)(G3:FnOk P w K mg base CX0 1 f3 d3 ["found"] (T8 K))(D4:cZ K mg "are_rows" jk ["web","b","rows"] f4 d4)(G4':FnOk P w K mg base CX0 8 f4 d4 ["web","b","rows"] (kZ K))(aX:mg "isinstance"=none)(fV:mg "list"=none)(cA:mg "len"=none)(cC:mg "tuple"=none)(oN:mg "sorted"=none)(Gi:mg "set"=none):
  FnOk P w K mg base CX0 11 f fd ["web","found"] (uo K):=by
 have G1:FnOk P w K mg base CX0 10 f1 d1 ["a","b"] (wQ K):=G1'.mono (by decide);have G4:FnOk P w K mg base CX0 10 f4 d4 ["web","b","rows"] (kZ K):=G4'.mono (by decide);refine F.eF ["web","found","a","b","rows","row","i","j"] fun cdv A outer s H vs Q E hr h=> ?_;obtain⟨a,r,l,n,k,c,ts,rs,R,ss,ov,Z,Y,X,rfl,hA,hr0,c0,VN,k0,hl0,hR,hok,hSo,hSh,hlow,qq⟩:=h;refine bH ?_;intro Y;refine⟨_,(bf (pF (PW.pt (pw_or (vX (vY (pB Af aX (ao (pv 1) (ao (pN "tuple" cC) aA))))) (pw_or (gF op_ne (pB v7 cA (ao (pv 1) aA)) aY) (pw_or1 (vX (vY (pB Af aX (ao (cM nH (pv 1) aY) (ao (pN "list" fV) aA))))))))) (bN (cT pe_bl)) pH) (bf (ps_asg (pv 1) (pg_tup rfl (mH (pG 2) (mH (pG 3) (mH (pG 4) Cp))))) (bf (pF (PW.pt (pw_or (vX (vY (pc G3 hr D3 (ao (pv 2) aA)))) (pw_or (vX (vY (pc G3 hr D3 (ao (pv 3) aA)))) (pw_or (gF op_lt (pv 3) aY) (pw_or (gF op_ne (pB v7 cA (ao (pv 4) aA)) (cM nH (pv 0) aY)) (pw_or1 (gF (xG hr.units) (pc G1 hr D1 (ao (pv 2) (ao (pv 3) aA))) (pc G2 hr D2 (ao (pv 0) aA))))))))) (bN (cT pe_bl)) pH) (bf (Ad v9 rfl (CV (pv 4)) (pG 5) (bf (pF (PW.pt (pw_or (vX (vY (pB Af aX (ao (pv 5) (ao (pN "tuple" cC) aA))))) (pw_or (gF op_ne (pB v7 cA (ao (pv 5) aA)) (pv 3)) (pw_or1 (gF (xG hr.units) (pT call_list_of fV (ao (pv 5) aA)) (qg rfl rfl oN rfl Gi (ao (pv 5) aA))))))) (bN (cT pe_bl)) pH) (bN (pF (gF (xH hr.units) pe_bl (pK ["hue"] ["a"] [2] (Jg (pv 5)) (pG 0) tH (yO (pc G3 hr D3 (ao (pv 0) aA)) (Ac (pe_chain op_le op_lt aY (pv 0) (pv 1))))) (by with_unfolding_all rfl)) (bN (cT pe_bl)) pH)))) (bf (Ad v9 rfl (Jg (cM nH (pv 0) aY)) (pg_tup rfl (mH (pG 6) (mH (pG 7) Cp))) (bN (pF (gF (xG hr.units) (pK ["hue"] ["rows","j"] [4,7] (Jg (cM lN (pv 4) (pv 6))) (pG 0) (dZ (gF (jR K hr.units) (pv 0) (cM (dM K) (pv 1) (pv 2)) (by with_unfolding_all rfl))) (pv 0)) (pe_lst aA)) (bN (cT pe_bl)) pH))) (bN (cT (Je Px (pc G4 hr D4 (ao (pv 0) (ao (pv 3) (ao (pv 4) aA)))) pe_bl)))))))),?_⟩;refine Nv ?_;intro c6 c5 c4 c3 c2;have h0:=hA.h0;have h10:=hA.h1;have hRl:=Paired.gZ hR;have hRn:=hok.len;have Xr:SqT K H r [.int k,.int (c:Int),.ref l]:=SqT.of hr0;have hlt:SqL K H l rs:=SqL.of hl0;obtain⟨Rv,Rz,w1,w2,w3⟩:=id hA.web;refine⟨_,rfl,.ref r,"tuple",_,rfl,.inl ⟨rfl,_,Xr⟩,.inr (.inr (.inl rfl)),_,rfl,?_⟩;refine iteF ?_;refine⟨_,rfl,r,_,rfl,.inr Xr,fun hz=>⟨rfl,_,rfl,?_⟩⟩;refine iteF ?_;refine⟨_,rfl,r,_,_,.ref l,rfl,rfl,Xr,rfl,.ref l,"list",_,rfl,.inr (.inl ⟨rfl,_,hlt⟩),.inr (.inr (.inr rfl)),_,rfl,?_⟩;refine iteF ?_;refine⟨_,rfl,r,_,rfl,Xr,rfl,_,_,rfl,_,_,rfl,_,_,rfl,rfl,?_⟩;refine⟨_,rfl,k,rfl,_,rfl,?_⟩;refine iteF ?_;refine⟨_,rfl,(c:Int),rfl,_,rfl,?_⟩;refine iteF ?_;refine⟨_,rfl,_,_,rfl,rfl,_,rfl,?_⟩;rw[gB (show¬(c:Int)<1 by omega)];refine iteF ?_;refine⟨_,rfl,l,_,rfl,.inl hlt,fun hz=>⟨_,rfl,a,_,_,.int n,rfl,rfl,w1,rfl,rfl,_,rfl,?_⟩⟩;have e1:(!decide (V.int ((rs.length:Nat):Int)=V.int n))=false:=by
  have:((rs.length:Nat):Int)=n:=by omega
  rw[this,cU rfl];rfl
 rw[e1];refine iteF ?_;refine⟨_,rfl,_,rfl,k.toNat,c,by rw[SQ k0];rfl,c0,?_,fun p1 H1 u v s1 e1' lw=> ?_⟩
 ·exact dD VN (by decide+kernel)
 rw[SQ k0]at lw;have hu:(u,v)=aJ Z ov:=by rw[rO c0 lw,hlow]
 refine⟨_,rfl,a,n,ts,rfl,hA.same s1,fun va ss2 ov2 Z2 Y2 X2 H1' s1' e2 aai aaj=> ?_⟩;have hl2:aJ Z2 ov2=aJ Z ov:=OD aai hSo aaj hSh;rw[hl2]at e2;have e3:CN K H1' p1 (aJ Z ov):=by rw[<-hu];exact SqT.of (s1' _ _ e1')
 refine⟨Vy (aJ Z ov),Vy (aJ Z ov),CN.dv e3,CN.dv e2,rfl,rfl,(by show min 1 1<=64;decide),_,rfl,?_⟩;have eqN:PyData.eqv (Vy (aJ Z ov)) (Vy (aJ Z ov))=true:=K9 _ _;rw[eqN];refine iteF ?_;have g1:=s1.trans s1';generalize H1'=H2 at *;have RL:=hR.same g1;have hl1:=g1.seq hlt
 -- each row
 refine⟨_,rfl,l,_,rfl,hl1,fun hz=> ?_⟩;let jz:Nat->St->Hp->Prop:=fun i σ H'=>Same H2 H'/\∃o5,σ=[some (.ref a),some (.ref r),some (.int k),some (.int (c:Int)),some (.ref l),o5,none,none];refine for_list (K:=K) (a:=l) (xs:=rs) jz ⟨Same.refl _,_,rfl⟩ (fun i σ H' _ p=>p.1.seq hl1) (fun i x σ H' hx p=> ?_) (fun σ H3 p=> ?_)
 ·obtain⟨sm,o5,rfl⟩:=p;obtain⟨row,hrow,pp,rfl,aad⟩:=Paired.at_ RL hx;obtain⟨u2,u1,u3⟩:=hok.each row (pO hrow);have hpp:=sm.tup aad;refine⟨_,rfl,.ref pp,"tuple",_,rfl,.inl ⟨rfl,_,hpp⟩,.inr (.inr (.inl rfl)),_,rfl,?_⟩;refine iteF ?_;refine⟨_,rfl,pp,_,rfl,.inr hpp,fun hz=>⟨_,rfl,rfl,_,rfl,?_⟩⟩;have ee:(!decide (V.int (((row.map V.int).length:Nat):Int)=V.int (c:Int)))=false:=by rw[aH,u2];simp
  rw[ee];refine iteF ?_;refine⟨_,rfl,pp,_,rfl,.inr hpp,fun l1 hl1'=> ?_⟩;have t1:=bO hl1' (.lst (row.map V.int));have e5:(upd H' l1 (.lst (row.map V.int))) l1=some (.lst (row.map V.int)):=aR;generalize upd H' l1 (.lst (row.map V.int))=G1 at *;refine⟨_,rfl,pp,row,rfl,t1.tup hpp,by omega,fun r3 ys hr3 hys hm=> ?_⟩;have ey:ys=row:=Kv hys u1 hm;subst ey;have t2:=bO hr3 (.lst (ys.map V.int));refine⟨.list (ys.map PyData.int),.list (ys.map PyData.int),.lst (SqL.of (t2 _ _ e5)) (dg.ints _),.lst (SqL.of aR) (dg.ints _),Ip _,Ip _,mq _ _,_,rfl,?_⟩;rw[qP,cU rfl];refine iteF ?_;have t12:=t1.trans t2;generalize upd G1 r3 (.lst (ys.map V.int))=G2 at *;have U9:=t12.tup hpp;refine⟨_,rfl,pp,_,rfl,U9,fun hz=> ?_⟩;let vP:Nat->List V->St->Hp->Prop:=fun k' acc σ H2=>acc=(List.replicate k' true).map V.bl/\H2=G2/\∃o,σ=[o,some (.int k)];refine Lr (xs:=ys.map V.int) vP ⟨rfl,rfl,_,rfl⟩ (fun k' acc σ H2 _ p=>by rw[p.2.1];exact U9) (fun k' acc σ H2 _ p=>by rw[p.1,aH,Oj];exact aB _) hz (fun k' x acc σ H2 hx2 p=> ?_) (fun acc σ H2 p=> ?_)
  ·obtain⟨rfl,rfl,o,rfl⟩:=p;rw[dX]at hx2;cases ex:ys[k']? with
   |none=>rw[ex]at hx2;cases hx2
   |some y=>
    rw[ex]at hx2;cases hx2;have hy:=u3 y (pO ex);refine⟨_,rfl,y,rfl,_,rfl,iteT ?_⟩;refine⟨_,rfl,_,_,rfl,rfl,_,rfl,?_⟩;rw[cU hy.1];refine iteT ?_;refine⟨_,rfl,_,_,rfl,rfl,?_,rfl,_,rfl⟩;show _++[V.bl (decide (y<k))]=_;rw[cU hy.2,List.replicate_succ',dB];rfl
  intro p2 hp2;obtain⟨rfl,rfl,_⟩:=p;have t3:=bO hp2 (.lst ((List.replicate (ys.map V.int).length true).map V.bl));refine⟨p2,_,_,.bool false,rfl,.inl (SqL.of aR),qQ _,.bl false,qK _,rfl,(by decide),_,rfl,?_⟩;rw[FQ];exact iteF ⟨sm.trans (t12.trans t3),_,rfl⟩
 obtain⟨Ua,o5,rfl⟩:=p;have Xn:=g1.trans Ua;have RM:=hA.same Xn;have hl2:=Xn.seq hlt;have hR2:=hR.same Xn;obtain⟨Xi,rr2,y1,y2,y3⟩:=id RM.web
 -- each tie
 refine⟨_,rfl,a,_,_,.ref Xi,rfl,rfl,y1,rfl,Xi,_,rfl,y2,fun hz=> ?_⟩;let Q5:Nat->St->Hp->Prop:=fun i σ H'=>Same H3 H'/\∃o5 o6 o7,σ=[some (.ref a),some (.ref r),some (.int k),some (.int (c:Int)),some (.ref l),o5,o6,o7];refine for_tup (K:=K) (a:=Xi) (xs:=rr2) Q5 ⟨Same.refl _,_,_,_,rfl⟩ (fun i σ H' _ p=>p.1.tup y2) (fun i x σ H' hx p=> ?_) (fun σ H4 p=> ?_)
 ·obtain⟨sm,o5,o6,o7,rfl⟩:=p;obtain⟨t,hi,rfl,ht⟩:=zH (y3.same sm) hx;obtain⟨q0,q1,q2⟩:=hA.pk.lt _ (tY hi);have i1:(ts[i]).1.toNat<R.length:=by omega
  have i2:(ts[i]).2.toNat<R.length:=by omega
  have Vh:=hR2.same sm;have hl3:=sm.seq hl2;obtain⟨p1,a1,v1⟩:=cW.at Vh q0 i1;obtain⟨p2,a2,v2⟩:=cW.at Vh (i:=(ts[i]).2) (by omega) i2;refine⟨t,_,rfl,ht,rfl,_,_,rfl,_,_,rfl,rfl,?_⟩;refine⟨_,rfl,_,rfl,l,_,_,.ref p1,rfl,rfl,hl3,a1,p1,_,rfl,v1,fun hz=> ?_⟩;let Pv4:Nat->List V->St->Hp->Prop:=fun k' acc σ H2=>acc=[]/\H2=H'/\∃o,σ=[o,some (.ref l),some (.int (ts[i]).2)];refine Lr (xs:=(R.getD (ts[i]).1.toNat []).map V.int) Pv4 ⟨rfl,rfl,_,rfl⟩ (fun k' acc σ H2 _ p=>by rw[p.2.1];exact v1) (fun k' acc σ H2 _ p=>by rw[p.1];exact cg _) hz (fun k' x acc σ H2 hx2 p=> ?_) (fun acc σ H2 p=> ?_)
  ·obtain⟨rfl,rfl,o,rfl⟩:=p;rw[dX]at hx2;cases ex:(R.getD (ts[i]).1.toNat [])[k']? with
   |none=>rw[ex]at hx2;cases hx2
   |some y=>
    rw[ex]at hx2;cases hx2;have no:y∉R.getD (ts[i]).2.toNat []:=hok.dis _ (tY hi) y (pO ex);refine⟨_,rfl,_,rfl,_,rfl,l,_,_,.ref p2,rfl,rfl,hl3,a2,p2,_,_,.int y,rfl,.inr v2,dg.ints _,.int _,Ip _,rfl,(by show 0<=60;decide),_,rfl,?_⟩;rw[any_ints,gB no];exact iteF ⟨rfl,rfl,_,rfl⟩
  intro p3 hp3;obtain⟨rfl,rfl,_⟩:=p;have t1:=bO hp3 (.lst []);have e14:(upd H2 p3 (.lst [])) p3=some (.lst []):=aR;generalize (upd H2 p3 (.lst []))=G4 at *;refine⟨(by show 0<=sizeLine;decide),fun p4 Va=> ?_⟩;have t2:=bO Va (.lst []);refine⟨.list (([]:List Int).map PyData.int),.list (([]:List Int).map PyData.int),.lst (SqL.of (t2 _ _ e14)) .nil,.lst (SqL.of aR) .nil,rfl,rfl,mq [] [],_,rfl,?_⟩;rw[qP,cU rfl];exact iteF ⟨sm.trans (t1.trans t2),_,_,_,rfl⟩
 obtain⟨sm3,o5',o6,o7,rfl⟩:=p;have Xm:=Xn.trans sm3;refine⟨_,rfl,_,rfl,_,rfl,a,l,n,(c:Int),ts,rs,R,rfl,hA.same Xm,by omega,Xm.seq hlt,hR.same Xm,fun row hrow=>by rw[(hok.each row hrow).1];exact VN,fun H7 s7=> ?_⟩;rw[QL h0 hok];exact⟨true,true,rfl,rfl,qq H7 (Xm.trans s7)⟩
theorem ok_law{f f1 f2 f3 f4:Addr}{fd d1 d2 d3 d4:τ}(F:Fun K "law" "law" lV f fd)(D1:cZ K mg "_law_atape" gM ["script","k"] f1 d1)(G1:FnOk P w K mg base CX0 2 f1 d1 ["script","k"] (DQ K))(D2:cZ K mg "_law_aweb_of" XJ ["script","start","tape"] f2 d2)(G2:FnOk P w K mg base CX0 3 f2 d2 ["script","start","tape"] (um K))(D3:cZ K mg "spread" ou ["web"] f3 d3)(G3:FnOk P w K mg base CX0 10 f3 d3 ["web"] (uf K))(D4:cZ K mg "_law_aright" fJ ["web","found"] f4 d4)(G4:FnOk P w K mg base CX0 11 f4 d4 ["web","found"] (uo K))(aF:mg "range"=none)(UW:mg "max"=none)(Gj:mg "min"=none)(cA:mg "len"=none):
  FnOk P w K mg base CX0 12 f fd ["script"] (spLaw K):=by
 refine F.eF ["script","start","tape","web","turn","found"] fun cdv A outer s H vs Q E hr h=> ?_;obtain⟨iC,ns,rfl,hS,h63,q⟩:=h;refine bH ?_;intro Y;refine⟨_,(bf (Ad v9 rfl (pi_range2 rfl aF (ao aY (ao (pB (call_max2 rfl) UW (ao aY (ao (pB (call_min2 rfl) Gj (ao aY (ao (pB v7 cA (ao (pv 0) aA)) aA))) aA))) aA))) (pG 1) (bf (pS 2 (pc G1 hr D1 (ao (pv 0) (ao (pv 1) aA)))) (bf (pS 3 (pc G2 hr D2 (ao (pv 0) (ao (pv 1) (ao (pv 2) aA))))) (bN (Ad v9 rfl (CW rfl aF (ao aY aA)) (pG 4) (bf (pS 5 (pc G3 hr D3 (ao (pv 3) aA))) (bf (pF (vX (vY (pc G4 hr D4 (ao (pv 3) (ao (pv 5) aA))))) (bN (cT pe_bl)) pH) (bN (Ae (pe_bm0 Mt PySem.F.slot_list_clear PySem.F.type_list_clear mt_clear (cM nH (pv 5) aY))))))))))) (bN (cT pe_bl))),?_⟩;refine gn ?_;intro c2;refine⟨_,rfl,iC,_,rfl,.inl hS.sq,fun hz=>⟨_,_,rfl,_,_,rfl,_,_,rfl,?_⟩⟩;obtain⟨m,em,hm0,hm1⟩:∃m:Int,(if(if((ns.map V.int).length:Int)<4 then((ns.map V.int).length:Int)else 4)>1 then(if((ns.map V.int).length:Int)<4 then((ns.map V.int).length:Int)else 4)else 1)=m/\0<=m/\m<=4:=by
  refine⟨_,rfl,?_,?_⟩
  ·split
   ·split<;>omega
   ·omega
  ·split
   ·split<;>omega
   ·omega
 rw[em];refine⟨⟨by decide,by decide,by omega,by omega⟩,?_⟩;let Pv5:Nat->St->Hp->Prop:=fun i σ H'=>Same H H'/\∃o1 o2 o3 o4 o5,σ=[some (.ref iC),o1,o2,o3,o4,o5];refine Ji (n:=(m-0).toNat) Pv5 ⟨Same.refl _,_,_,_,_,_,rfl⟩ (fun i σ H1 hi p=> ?_) (fun σ H1 p=> ?_)
 ·obtain⟨s1,o1,o2,o3,o4,o5,rfl⟩:=p;have hS1:=hS.same s1;refine⟨_,rfl,_,rfl,iC,ns,0+(i:Int),rfl,hS1,by omega,fun tp H2 t s2 htp aac=> ?_⟩;refine⟨_,rfl,_,rfl,_,rfl,iC,tp,ns,_,t,rfl,hS1.same s2,htp,fun r n ts H3 t' x3 h3 hW=> ?_⟩;have s14:Same H1 H3:=Same.Ur s2 aac x3;refine⟨_,rfl,by decide,by decide,?_⟩;let Pv6:Nat->St->Hp->Prop:=fun j σ H'=>Same H1 H'/\fu K H' r n ts/\∃o1 o2 o5 o6,σ=[some (.ref iC),o1,o2,some (.ref r),o5,o6];refine Ji (n:=2) Pv6 ⟨s14,hW,_,_,_,_,rfl⟩ (fun j σ H5 hj p=> ?_) (fun σ H5 p=> ?_)
  ·obtain⟨s5,Xw,o1,o2,o5,o6,rfl⟩:=p;refine⟨_,rfl,r,n,ts,rfl,Xw,fun fr l x c rs R ss ov Z Y X H6 s6 e1 c0 c1 x0 e2 hR hok hSo hSh hlow nl=> ?_⟩;refine⟨_,rfl,_,rfl,r,fr,l,n,x,c,ts,rs,R,ss,ov,Z,Y,X,rfl,Xw.same s6,e1,c0,c1,x0,e2,hR,hok,hSo,hSh,hlow,fun H7 s7=>⟨_,rfl,iteF ?_⟩⟩;refine⟨_,rfl,fr,_,_,.ref l,rfl,rfl,SqT.of (s7 _ _ e1),rfl,.inl ⟨rfl,_,SqL.of (s7 _ _ e2)⟩,l,rs,rfl,rfl,s7 _ _ e2,?_⟩;have sF:Same H5 (upd H7 l (.lst [])):=fun b o e=>by
    have n1:b≠l:=fun z=>by rw[z,nl]at e;cases e
    rw[cG n1];exact(s6.trans s7) _ _ e
   exact⟨s5.trans sF,Xw.same sF,_,_,_,_,rfl⟩
  ·obtain⟨s5,Xw,o1,o2,o5,o6,rfl⟩:=p;exact⟨s1.trans s5,_,_,_,_,_,rfl⟩
 ·obtain⟨s1,o1,o2,o3,o4,o5,rfl⟩:=p;exact q H1
end
end Hs
namespace L2
open PySem
section
variable{K:W.Frag}{x y:Str}{st:Stmt}{f C:Addr}{fd:τ}{oc:ζ}{od an:Option Addr}{osl:Array (Option ζ)}{kV doc pm cdv ct:ζ}{mg:L4}{h:Heap}
noncomputable def DA(K:W.Frag)(x:Str)(st:Stmt)(f:Addr):Prop:=∃fd,Fun K x x st f fd/\PySem.W.nsIn K mainGlobals x=some (some (.ref f))
theorem DA.of(a:PySem.W.nsIn K mainGlobals x=some (some (.ref f)):=by k_is)(l:K.lookup f=some ⟨oc,od,.func (PySem.W.fnOf x x (defArgs st) (defBody st) (defScope st) .none kV doc pm an cdv ct),osl⟩:=by k_is)(c:PySem.W.codeIn K cdv x=true:=by k_is)(k:PySem.W.keepIn K (.ref f)=true:=by k_is):DA K x st f:=⟨_,fun_mk l c k,a⟩
noncomputable def MA(K:W.Frag)(C:Addr)(x y:Str)(st:Stmt)(f:Addr):Prop:=∃fd,Fun K x y st f fd/\PySem.W.findIn K (.ref C) x=some (some (.ref f))/\PySem.W.isFn K (.ref f)=true/\PySem.W.keepIn K (.ref f)=true
theorem MA.of(a:PySem.W.findIn K (.ref C) x=some (some (.ref f)):=by k_is)(l:K.lookup f=some ⟨oc,od,.func (PySem.W.fnOf x y (defArgs st) (defBody st) (defScope st) .none kV doc pm an cdv ct),osl⟩:=by k_is)(c:PySem.W.codeIn K cdv y=true:=by k_is)(k:PySem.W.keepIn K (.ref f)=true:=by k_is)(i:PySem.W.isFn K (.ref f)=true:=by k_is):MA K C x y st f:=⟨_,fun_mk l c k,a,i,k⟩
theorem DA.d{ps:List Str}(X:K.In h)(G:h.Ns mainGlobals mg)(F:Fun K x x st f fd)(a:PySem.W.nsIn K mainGlobals x=some (some (.ref f)))(b:∀(kV doc pm:ζ) (an:Option Addr) (cdv ct:ζ) (us:List ζ),us.length=ps.length->bindArgs (PySem.W.fnOf x x (defArgs st) (defBody st) (defScope st) .none kV doc pm an cdv ct) ⟨us,[]⟩=pure (ps.zip us)):cZ K mg x st ps f fd:=⟨F,F.binds b,PySem.W.mg_of X G a⟩
theorem MA.d{ps:List Str}(F:Fun K x y st f fd)(a:PySem.W.findIn K (.ref C) x=some (some (.ref f))/\PySem.W.isFn K (.ref f)=true/\PySem.W.keepIn K (.ref f)=true)(b:∀(kV doc pm:ζ) (an:Option Addr) (cdv ct:ζ) (us:List ζ),us.length=ps.length->bindArgs (PySem.W.fnOf x y (defArgs st) (defBody st) (defScope st) .none kV doc pm an cdv ct) ⟨us,[]⟩=pure (ps.zip us)):Cg K C x y st ps f fd:=⟨F,F.binds b,⟨a.1,a.2.1,a.2.2⟩⟩
theorem CK{p1:Str}{P:List ζ->Prop}(h:∀a,P [a])(us:List ζ)(hl:us.length=[p1].length):P us:=by
 match us,hl with
 |[a],_=>exact h a
theorem pU{p1 p2:Str}{P:List ζ->Prop}(h:∀a b,P [a,b])(us:List ζ)(hl:us.length=[p1,p2].length):P us:=by
 match us,hl with
 |[a,b],_=>exact h a b
theorem QW{p1 p2 p3:Str}{P:List ζ->Prop}(h:∀a b c,P [a,b,c])(us:List ζ)(hl:us.length=[p1,p2,p3].length):P us:=by
 match us,hl with
 |[a,b,c],_=>exact h a b c
theorem bn4{p1 p2 p3 p4:Str}{P:List ζ->Prop}(h:∀a b c d,P [a,b,c,d])(us:List ζ)(hl:us.length=[p1,p2,p3,p4].length):P us:=by
 match us,hl with
 |[a,b,c,d],_=>exact h a b c d
end
end L2
namespace Hs
open PySem L2 wk
theorem all_mk{l:W.OpenLaw}{w:υ}{K:W.Frag}{h:Heap}{mg:L4}{fa:Addr}(X:K.In h)(G:h.Ns mainGlobals mg)(hfa:mg "law"=some (.ref fa))
  {f0 f1 f2 f3 f4 f5 f6 f7 f8 f9 f10 f11 f12 f13 f14 f15 f16 f17 f18 f19 f20 f21 f22 f23 f24 f25 f26 f27 f28 f29 f30 f31 f32 mf0 mf1 mf2 mf3 mf4 mf5 mf6 mf7 mf8 mf9:Addr}{f33:Addr}{Zz V2:Option Addr}{Zu:Array (Option ζ)}{ZD U5 VD Uq QV VF:ζ}{tk0:Tok}{tk1:Tok}{au:Addr}(a0:DA K "is_whole" Oc f0)(a1:DA K "is_place" ji f1)(a2:DA K "are_places" fM f2)(a3:DA K "is_rising" R0 f3)(a4:DA K "is_set" oE f4)(a5:DA K "are_ties" jj f5)(a6:DA K "is_web" oA f6)(a7:DA K "need_web" Od f7)(a8:DA K "has_tie" lA f8)(a9:DA K "greatest_divisor" Wb f9)(a10:DA K "lowest" gK f10)(a11:DA K "sum_of" oh f11)(a12:DA K "places_by_tie" X3 f12)(a13:DA K "in_both" lg f13)(a14:DA K "full_sets" gO f14)(a15:DA K "full_apart" fL f15)(a16:DA K "need_wants" fG f16)(a17:DA K "shares" jK f17)(a18:DA K "value" rE f18)(a19:DA K "is_row" oF f19)(a20:DA K "have_in_common" X7 f20)(a21:DA K "are_rows" jk f21)(a22:DA K "sets_by_hue" XM f22)(a23:DA K "hues_of" lq f23)(a24:DA K "spread" ou f24)(a25:DA K "_law_acell" V7 f25)(a26:DA K "_law_atape" gM f26)(a27:DA K "_law_adigit" V9 f27)(a28:DA K "_law_awhole" fH f28)(a29:DA K "_law_aweb" jh f29)(a30:DA K "_law_alow" fK f30)(a31:DA K "_law_aweb_of" XJ f31)(a32:DA K "_law_aright" fJ f32)(a33:W.nsIn K mainGlobals "law"=some (some (.ref f33)))(l33:K.lookup f33=some ⟨ZD,Zz,.func (W.fnOf "law" "law" (defArgs lV) (defBody lV) (defScope lV) .none U5 VD Uq V2 QV VF),Zu⟩)(c33:W.codeIn K QV "law"=true)(k33:W.keepIn K (.ref f33)=true)(x0:W.nsIn K mainGlobals "MOST_PLACES"=some (some (.int 10 tk0)))(x1:W.nsIn K mainGlobals "MOST_WANT"=some (some (.int 99 tk1)))(z0:W.nsIn K mainGlobals "abs"=some none)(z1:W.nsIn K mainGlobals "all"=some none)(z2:W.nsIn K mainGlobals "any"=some none)(z3:W.nsIn K mainGlobals "bool"=some none)(z4:W.nsIn K mainGlobals "enumerate"=some none)(z5:W.nsIn K mainGlobals "int"=some none)(z6:W.nsIn K mainGlobals "isinstance"=some none)(z7:W.nsIn K mainGlobals "len"=some none)(z8:W.nsIn K mainGlobals "list"=some none)(z9:W.nsIn K mainGlobals "max"=some none)(z10:W.nsIn K mainGlobals "min"=some none)(z11:W.nsIn K mainGlobals "range"=some none)(z12:W.nsIn K mainGlobals "set"=some none)(z13:W.nsIn K mainGlobals "sorted"=some none)(z14:W.nsIn K mainGlobals "tuple"=some none)(y0:W.nsIn K mainGlobals "Tableau"=some (some (.ref au)))(UL:MA K au "__init__" "Tableau.__init__" XQ mf0)(ZV:MA K au "next_column" "Tableau.next_column" Ye mf1)(ZS:MA K au "is_tighter" "Tableau.is_tighter" Yd mf2)(ZR:MA K au "next_row" "Tableau.next_row" X8 mf3)(ZQ:MA K au "turned" "Tableau.turned" X6 mf4)(ZP:MA K au "turn" "Tableau.turn" XR mf5)(ZM:MA K au "solve" "Tableau.solve" XS mf6)(ZL:MA K au "fraction_at" "Tableau.fraction_at" R8 mf7)(ZK:MA K au "price_of" "Tableau.price_of" Yb mf8)(ZJ:MA K au "share_of" "Tableau.share_of" Yc mf9)(yx:W.plainGet K au Str.empty=true)(yw:W.hasDictIn K au=true)(yu:W.plainOver K au=true)(yt:W.findIn K (.ref au) "__setattr__"=some (some (.builtin "object.__setattr__")))(yr:W.makesIn K au=true)(yq:W.keepIn K (.ref au)=true)(lJ:W.findIn K (.ref au) "cells"=some none)(mQ:W.findIn K (.ref au) "over"=some none)(jy:W.findIn K (.ref au) "columns"=some none)(mO:W.findIn K (.ref au) "rows"=some none):
  ∃fd:τ,(∀(s:η) (v:ζ),BindsTo s fd ⟨[v],[]⟩ [("script",v)])/\∀base:Heap,K.In base->base.Ns mainGlobals mg->FnOk l.prog w K mg base CX0 12 fa fd ["script"] (spLaw K):=by
 have e:=hfa.symm.trans (W.mg_of X G a33);cases e;obtain⟨d0,F0,a0⟩:=a0;have dO:=DA.d (ps:=["thing"]) X G F0 a0 (fun _ _ _ _ _ _=>CK fun _=>rfl);obtain⟨d1,F1,a1⟩:=a1;have yK:=DA.d (ps:=["n","thing"]) X G F1 a1 (fun _ _ _ _ _ _=>pU fun _ _=>rfl);obtain⟨d2,F2,a2⟩:=a2;have tG:=DA.d (ps:=["n","things"]) X G F2 a2 (fun _ _ _ _ _ _=>pU fun _ _=>rfl);obtain⟨d3,F3,a3⟩:=a3;have iy:=DA.d (ps:=["things"]) X G F3 a3 (fun _ _ _ _ _ _=>CK fun _=>rfl);obtain⟨d4,F4,a4⟩:=a4;have Il:=DA.d (ps:=["n","thing"]) X G F4 a4 (fun _ _ _ _ _ _=>pU fun _ _=>rfl);obtain⟨d5,F5,a5⟩:=a5;have yL:=DA.d (ps:=["n","thing"]) X G F5 a5 (fun _ _ _ _ _ _=>pU fun _ _=>rfl);obtain⟨d6,F6,a6⟩:=a6;have Ik:=DA.d (ps:=["thing"]) X G F6 a6 (fun _ _ _ _ _ _=>CK fun _=>rfl);obtain⟨d7,F7,a7⟩:=a7;have dN:=DA.d (ps:=["thing"]) X G F7 a7 (fun _ _ _ _ _ _=>CK fun _=>rfl);obtain⟨d8,F8,a8⟩:=a8;have Ck:=DA.d (ps:=["web","one","other"]) X G F8 a8 (fun _ _ _ _ _ _=>QW fun _ _ _=>rfl);obtain⟨d9,F9,a9⟩:=a9;have dR:=DA.d (ps:=["one","other"]) X G F9 a9 (fun _ _ _ _ _ _=>pU fun _ _=>rfl);obtain⟨d10,F10,a10⟩:=a10;have pC:=DA.d (ps:=["a","b"]) X G F10 a10 (fun _ _ _ _ _ _=>pU fun _ _=>rfl);obtain⟨d11,F11,a11⟩:=a11;have Ii:=DA.d (ps:=["fractions"]) X G F11 a11 (fun _ _ _ _ _ _=>CK fun _=>rfl);obtain⟨d12,F12,a12⟩:=a12;have mW:=DA.d (ps:=["web","place","tied"]) X G F12 a12 (fun _ _ _ _ _ _=>QW fun _ _ _=>rfl);obtain⟨d13,F13,a13⟩:=a13;have Ci:=DA.d (ps:=["ones","others"]) X G F13 a13 (fun _ _ _ _ _ _=>pU fun _ _=>rfl);obtain⟨d14,F14,a14⟩:=a14;have vU:=DA.d (ps:=["friends"]) X G F14 a14 (fun _ _ _ _ _ _=>CK fun _=>rfl);obtain⟨d15,F15,a15⟩:=a15;have tE:=DA.d (ps:=["web"]) X G F15 a15 (fun _ _ _ _ _ _=>CK fun _=>rfl);obtain⟨d16,F16,a16⟩:=a16;have sZ:=DA.d (ps:=["web","thing"]) X G F16 a16 (fun _ _ _ _ _ _=>pU fun _ _=>rfl);obtain⟨d17,F17,a17⟩:=a17;have vQ:=DA.d (ps:=["web","wants"]) X G F17 a17 (fun _ _ _ _ _ _=>pU fun _ _=>rfl);obtain⟨d18,F18,a18⟩:=a18;have Lq:=DA.d (ps:=["web"]) X G F18 a18 (fun _ _ _ _ _ _=>CK fun _=>rfl);obtain⟨d19,F19,a19⟩:=a19;have Im:=DA.d (ps:=["b","thing"]) X G F19 a19 (fun _ _ _ _ _ _=>pU fun _ _=>rfl);obtain⟨d20,F20,a20⟩:=a20;have lK:=DA.d (ps:=["one","other"]) X G F20 a20 (fun _ _ _ _ _ _=>pU fun _ _=>rfl);obtain⟨d21,F21,a21⟩:=a21;have yM:=DA.d (ps:=["web","b","rows"]) X G F21 a21 (fun _ _ _ _ _ _=>QW fun _ _ _=>rfl);obtain⟨d22,F22,a22⟩:=a22;have qu:=DA.d (ps:=["laying","b"]) X G F22 a22 (fun _ _ _ _ _ _=>pU fun _ _=>rfl);obtain⟨d23,F23,a23⟩:=a23;have Cj:=DA.d (ps:=["sets","place"]) X G F23 a23 (fun _ _ _ _ _ _=>pU fun _ _=>rfl);obtain⟨d24,F24,a24⟩:=a24;have Ij:=DA.d (ps:=["web"]) X G F24 a24 (fun _ _ _ _ _ _=>CK fun _=>rfl);obtain⟨d25,F25,a25⟩:=a25;have mF:=DA.d (ps:=["script","k"]) X G F25 a25 (fun _ _ _ _ _ _=>pU fun _ _=>rfl);obtain⟨d26,F26,a26⟩:=a26;have vR:=DA.d (ps:=["script","k"]) X G F26 a26 (fun _ _ _ _ _ _=>pU fun _ _=>rfl);obtain⟨d27,F27,a27⟩:=a27;have kh:=DA.d (ps:=["tape","many"]) X G F27 a27 (fun _ _ _ _ _ _=>pU fun _ _=>rfl);obtain⟨d28,F28,a28⟩:=a28;have tu:=DA.d (ps:=["found"]) X G F28 a28 (fun _ _ _ _ _ _=>CK fun _=>rfl);obtain⟨d29,F29,a29⟩:=a29;have yI:=DA.d (ps:=["tape","most"]) X G F29 a29 (fun _ _ _ _ _ _=>pU fun _ _=>rfl);obtain⟨d30,F30,a30⟩:=a30;have yJ:=DA.d (ps:=["a","b"]) X G F30 a30 (fun _ _ _ _ _ _=>pU fun _ _=>rfl);obtain⟨d31,F31,a31⟩:=a31;have qw:=DA.d (ps:=["script","start","tape"]) X G F31 a31 (fun _ _ _ _ _ _=>QW fun _ _ _=>rfl);obtain⟨d32,F32,a32⟩:=a32;have tD:=DA.d (ps:=["web","found"]) X G F32 a32 (fun _ _ _ _ _ _=>pU fun _ _=>rfl);have F33:=fun_mk (st:=lV) l33 c33 k33;have qb:=W.mg_of X G x0;have uc:=W.mg_of X G x1;have UG:=wH X G z0;have qI:=wH X G z1;have Uz:=wH X G z2;have Gb:=wH X G z3;have eG:=wH X G z4;have Nk:=wH X G z5;have aW:=wH X G z6;have eY:=wH X G z7;have rM:=wH X G z8;have Nj:=wH X G z9;have FZ:=wH X G z10;have cB:=wH X G z11;have Nh:=wH X G z12;have uO:=wH X G z13;have dF:=wH X G z14;have lG:=W.mg_of X G y0;obtain⟨md0,FM0,UL⟩:=UL;have jD:=MA.d (ps:=["self","sets","wants"]) FM0 UL (fun _ _ _ _ _ _=>QW fun _ _ _=>rfl);obtain⟨md1,FM1,ZV⟩:=ZV;have gC:=MA.d (ps:=["self"]) FM1 ZV (fun _ _ _ _ _ _=>CK fun _=>rfl);obtain⟨md2,FM2,ZS⟩:=ZS;have iz:=MA.d (ps:=["self","column","row","other"]) FM2 ZS (fun _ _ _ _ _ _=>bn4 fun _ _ _ _=>rfl);obtain⟨md3,FM3,ZR⟩:=ZR;have jC:=MA.d (ps:=["self","column"]) FM3 ZR (fun _ _ _ _ _ _=>pU fun _ _=>rfl);obtain⟨md4,FM4,ZQ⟩:=ZQ;have lM:=MA.d (ps:=["self","cells","pivots","column"]) FM4 ZQ (fun _ _ _ _ _ _=>bn4 fun _ _ _ _=>rfl);obtain⟨md5,FM5,ZP⟩:=ZP;have pD:=MA.d (ps:=["self","row","column"]) FM5 ZP (fun _ _ _ _ _ _=>QW fun _ _ _=>rfl);obtain⟨md6,FM6,ZM⟩:=ZM;have mX:=MA.d (ps:=["self"]) FM6 ZM (fun _ _ _ _ _ _=>CK fun _=>rfl);obtain⟨md7,FM7,ZL⟩:=ZL;have bW:=MA.d (ps:=["self","row","column"]) FM7 ZL (fun _ _ _ _ _ _=>QW fun _ _ _=>rfl);obtain⟨md8,FM8,ZK⟩:=ZK;have jB:=MA.d (ps:=["self","name"]) FM8 ZK (fun _ _ _ _ _ _=>pU fun _ _=>rfl);obtain⟨md9,FM9,ZJ⟩:=ZJ;have jA:=MA.d (ps:=["self","name"]) FM9 ZJ (fun _ _ _ _ _ _=>pU fun _ _=>rfl);have bx:Cls K au:=⟨yx,yw,yu,yt⟩;have bY:NoAttr K au "cells":=lJ;have cJ:NoAttr K au "over":=mQ;have bh:NoAttr K au "columns":=jy;have cI:NoAttr K au "rows":=mO;have mk_Tableau:Mk K au mf0:=⟨yr,UL.1,UL.2.1,yq⟩;refine⟨W.fnOf "law" "law" (defArgs lV) (defBody lV) (defScope lV) .none U5 VD Uq V2 QV VF,fun s v=> .of_eq rfl,fun base _ _=> ?_⟩;have jW:=Fp (P:=l.prog) (w:=w) (base:=base) F0 aW Nk Gb;have KZ:=Fv (P:=l.prog) (w:=w) (base:=base) F1 dO jW;have GX:=Bo (P:=l.prog) (w:=w) (base:=base) F2 yK KZ qI;have oR:=Bm (P:=l.prog) (w:=w) (mg:=mg) (base:=base) F3 qI cB eY;have Vs:=Qd (P:=l.prog) (w:=w) (base:=base) F4 tG GX iy oR aW dF;have QF:=JZ (P:=l.prog) (w:=w) (base:=base) F5 Il Vs iy oR aW dF qI eY;have Vj:=Py (P:=l.prog) (w:=w) (base:=base) F6 dO jW yL QF aW dF eY qb;have eZ:=xJ (P:=l.prog) (w:=w) (base:=base) F7 Ik Vj;have Vw:=Qi (P:=l.prog) (w:=w) (mg:=mg) (base:=base) F8 FZ Nj;have K4:=Fx F12 Ck Vw cB;have G9:=Bp (P:=l.prog) (w:=w) (mg:=mg) (base:=base) F13;have xY:=uM F14 Ci G9 rM cB eY uO;have vo:=rJ F15 dN eZ vU xY mW K4 cB;have Vx:=Us (P:=l.prog) (w:=w) (mg:=mg) (base:=base) F9;have GZ:=Qf (P:=l.prog) (w:=w) (base:=base) F10 dR Vx UG;have Hg:=J7 (P:=l.prog) (w:=w) (base:=base) F25 eY;have QG:=J0 (P:=l.prog) (w:=w) (base:=base) F26 mF Hg cB;have Ny:=Qj (P:=l.prog) (w:=w) (mg:=mg) (base:=base) F27;have aal:=Ut (P:=l.prog) (w:=w) (base:=base) F28 aW Nk Gb;have QJ:=J8 F29 kh Ny cB dF;have Hh:=Bq F31 mF Hg yI QJ kh Ny cB dF;have QK:=J9 (P:=l.prog) (w:=w) (mg:=mg) (base:=base) F30;have Vr:=Qa (P:=l.prog) (w:=w) (mg:=mg) (base:=base) FM1 bx bY cJ bh cI eG FZ;have Vl:=PB (P:=l.prog) (w:=w) (mg:=mg) (base:=base) FM2 bx bY cJ bh cI;have Vq:=P0 FM3 bx bY cJ bh cI iz Vl cB eY;have Vm:=PJ (P:=l.prog) (w:=w) (mg:=mg) (base:=base) FM4 bx bY cJ bh cI eG;have Vk:=Pz FM5 bx bY cJ bh cI lM Vm;have Vn:=PL FM6 bx bY cJ bh cI gC Vr pD Vk jC Vq;have GQ:=Qc FM7 bx bY cJ bh cI pC GZ;have Vp:=PX FM8 bx bY cJ bh cI pC GZ bW GQ;have Vo:=PN FM9 bx bY cJ bh cI pC GZ bW GQ;have QH:=J6 (P:=l.prog) (w:=w) (mg:=mg) (base:=base) FM0 bx bY cJ bh cI eY cB rM;have vm:=rH F16 dO jW eY aW dF qI uc;have vh:=Bl F17 bx bY cJ bh cI lG dN eZ sZ vm tE vo jD mk_Tableau QH mX Vn jA Vo jB Vp bW GQ eG cB;have KR:=Fq F18 dN eZ vQ vh;have K3:=Fw F19 iy oR dO jW eY aW dF qI;have Vv:=Qh (P:=l.prog) (w:=w) (mg:=mg) (base:=base) F20 eY Nh;have BP:=xK F21 dN eZ dO jW Im K3 lK Vv qI eY aW rM Uz;have KY:=Ft F11 dR Vx;have Vt:=Qe (P:=l.prog) (w:=w) (mg:=mg) (base:=base) F22;have Vu:=Qg (P:=l.prog) (w:=w) (mg:=mg) (base:=base) F23 eG;have GR:=Bk F24 dN eZ vQ vh Ii KY qu Vt Cj Vu cB dF;have Hi:=Br F32 yJ QK Lq KR tu aal yM BP aW rM eY dF uO Nh;exact ok_law F33 vR QG qw Hh Ij GR tD Hi cB Nj FZ eY
theorem walk{l:PySem.W.OpenLaw}{q:ρ}{loose:List Str}{XP:(L4)->Heap->Prop}{YP:υ->Heap->Prop}{d:DefRec}{K:Params->PySem.W.Frag}(hn:l.most=some 63)(hdf:d.params.defaults=[])(hY:∀(w:υ) (h:Heap),YP w h->(K w.params).In h)
  (F:∀(w:υ) (mg:L4) (fa:Addr) (h:Heap),(K w.params).In h->h.Ns mainGlobals mg->mg d.name=some (.ref fa)->
   ∃fd:τ,(∀(s:η) (u:ζ),BindsTo s fd ⟨[u],[]⟩ [("script",u)])/\∀base:Heap,(K w.params).In base->base.Ns mainGlobals mg->FnOk l.prog w (K w.params) mg base CX0 12 fa fd ["script"] (spLaw (K w.params))):
  PySem.W.WalkO q loose XP YP l.row.toRowW d [] (fun f vs=>PySem.call f vs):=
 L2.walk_of (n:=63) (k:=12) (x:="script") (CX:=fun _=>CX0) (sp:=fun w=>spLaw (K w.params)) hn (by decide) hdf ⟨rfl,by decide,by decide,rfl⟩ hY F (fun _ _ a ns hl hO hS=>Eb hl hO hS) fun _ _ _ _ _ z=>z
end Hs
open PySem PySem.W PyProof.Rows
set_option maxRecDepth 100000 in
set_option maxHeartbeats 0 in
theorem PySem.Challenge.cw_hueshare_k30_shares_spread_holds : PySem.Challenge.rw_hueshare_k30_shares_spread.Holds := by
 refine Hd.early.2 ?_;unfold Hd.early;dsimp only
 k_fill
 refine Hs.walk (l:=PySem.Challenge.rw_hueshare_k30_shares_spread) rfl rfl (fun w h Y=>PySem.W.kIn_of Y) ?F
 case F=>
  intro w mg fa h KX G hmg
  refine' Hs.all_mk KX G hmg .of .of .of .of .of .of .of .of .of .of .of .of .of .of .of .of .of .of .of .of .of .of .of .of .of .of .of .of .of .of .of .of .of (by k_is) (by k_is) (by k_is) (by k_is) (by k_is) (by k_is) (by k_is) (by k_is) (by k_is) (by k_is) (by k_is) (by k_is) (by k_is) (by k_is) (by k_is) (by k_is) (by k_is) (by k_is) (by k_is) (by k_is) (by k_is) (by k_is) .of .of .of .of .of .of .of .of .of .of (by k_is) (by k_is) (by k_is) (by k_is) (by k_is) (by k_is) (by k_is) (by k_is) (by k_is) (by k_is)
