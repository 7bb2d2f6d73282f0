import PyProof.Rows.All
import Wide.All
import OpenK.AllK
import Wide.FinOn
import Lean
import PyProof.EqAt
import PyProof.EqKinds
import PyProof.TupleCall
import PyProof.ListRange
import PyProof.TupleOfSeq
import PyProof.Draws
import PyProof.EnumMake
import PyProof.TupleIter
import PyProof.Rows.SetFrom
import PyProof.SetRoads
import PyProof.WalksMore
import PyProof.Rows.SortShell
import KE.KMinBuiltin
import PyProof.Rows.CallKwBuiltin
import KE.KRevIter
import PyProof.Rows.Tup
import PyProof.Rows.Range3
import PyProof.DictWalks
import PyProof.DictTruth
import PyProof.TupleKey
import PyProof.Rows.SeqMore2
import PyProof.FString
import PyProof.StrWalks
import PyProof.StrBlockH
import PyProof.StrCalls2
import PyProof.SliceStr2
import KE.KIntText
import PyProof.StrLawsTight
import KE.KDictList
import PyProof.DictRoadsH
import KE.KLam
import KE.KNestM
import PyProof.DictItems
import PyProof.IsiHeapPairs
import KE.KPairComp
import PyProof.MinMaxWalk
import PyProof.MeetsSeq
import PyProof.Rows.ZipGen
import KE.IntBitsLaws
import PyProof.FitsBits
import PyProof.Tail
import PySem.Challenge.RW_hueshare_k29_rows_of_hues_looked_at
set_option compiler.extract_closed false
set_option Elab.async false
set_option linter.all false
set_option maxRecDepth 100000

noncomputable section
abbrev ζ:=PySem.Value
abbrev η:=PySem.Shared
abbrev θ:=PySem.PyData
abbrev ξ:=PySem.SetTable
abbrev ρ:=PySem.Program
abbrev τ:=PySem.FuncData
abbrev υ:=PySem.World
abbrev χ:=PySem.Around
abbrev L4:=PySem.Str->Option ζ
abbrev L3:=ζ->η->Prop
abbrev L1:=List (PySem.Addr×PySem.Obj)
abbrev L0:=List (Int×Int)
def ao:=@PySem.wpAny_bind
def aK:=@PySem.wpAny_pure
def aq:=@if_neg
def aB:=@if_pos
def fD:=@decide_eq_true
def iY:=@decide_eq_false
def eE:=@PySem.sizeLine_eq
def rN:=@Bool.false_ne_true
def sS:=@of_decide_eq_true
def Ia:=@PyProof.Rows.callWith_type1
def qI:=@PySem.wpAny_ite_split
def rM:=@PySem.PassesOwn.never
def wB:=@PySem.wpAny_newObj_type
def uY:=@Option.some.inj
def HY:=@PySem.F.plainAttrs_list
def Cv:=@PySem.mem_of_lookup
def Cu:=@PySem.Heap.SameBut.update
def wA:=@Bool.eq_iff_iff
def yL:=@Bool.and_eq_true
def uX:=@PySem.wpAny_holding
def iD:=@congrArg
def QX:=@Classical.byContradiction
def HX:=@decide_eq_true_eq
def Cr:=@PySem.codeAny_builtin
def HW:=@PySem.wpAny_call_entry
def JZ:=@PySem.wpAny_truthy_bool
def YT:=@PyProof.Rows.slot_tuple_getitem
def Kv:=@PySem.wpAny_Call_Name_kw
def QW:=@PySem.Around.under_plainId
def Cg:=@PySem.W.mg_none_of
def V6:=@PySem.wpAny_callSpecial?_slot
def V5:=@PySem.F.plain_min_loop
def kO:=@Ne.symm
def yC:=@PySem.wpAny_mono
def YS:=@PySem.F.slot_list_append
def YQ:=@PySem.F.type_list_append
def Uq:=@PySem.Obj.data_mapFields
def QV:=@PyProof.Rows.KeyOrd.kle_refl
def V4:=@of_decide_eq_false
def wbp:=@PyProof.Rows.F.plain_set_update_loop
def V3:=@PySem.Calls.spliced_nil
def YM:=@PySem.Calls.spliced_cons
def Qu:=@PySem.codeAny_mono
def YL:=@PySem.Value.isInt_shape
def V2:=@PySem.wpAny_passesOwn
def wbv:=@PySem.F.args_tuple_add_2
def V1:=@PyProof.Rows.get?_update_seq
def YK:=@PySem.wpAny_pyIter_list
def YJ:=@Bool.not_eq_true'
def YH:=@PySem.Heap.SameBut.refl
def YG:=@List.Sublist.refl
def wcb:=@PyProof.Rows.callWith_builtin1
def wcc:=@PySem.F.entry_tuple_add
def Uo:=@PySem.plainId_quiet
def wce:=@PySem.F.slot_list_index
def wcf:=@PySem.F.type_list_index
def YF:=@PySem.wpAny_isInstance
def wch:=@PySem.F.slot_tuple_add
def wci:=@Bool.false_eq_true
def wcj:=@PySem.Code.quiet_builtin
def YD:=@PySem.wpAny_execs_nil
def Um:=@PySem.wpAny_typeOf
def wcm:=@PySem.Obj.isFreed_of_fields
def Qt:=@PySem.call_meets
def wco:=@PyProof.Rows.KeyOrd.kle_of_klt
def V0:=@PySem.wpAny_newList
def VR:=@Bool.true_and
def wcr:=@PySem.codeAny_call_builtin
def wcs:=@PySem.Calls.call_function_entry
def YC:=@PySem.wpAny_setField
def wcu:=@PyProof.Rows.F.entry_set_update_loop
def YB:=@PyProof.Rows.IntsAre.length
def Yz:=@PySem.wpAny_tryCatch
def wcx:=@PySem.W.hideAll_get
def Ce:=@PySem.W.mg_of
def wcz:=@List.length_erase_of_mem
def wda:=@PySem.W.callWith_K
def wdb:=@PySem.W.KasT.kasWp_bind
def wdc:=@decide_eq_false_iff_not
def Yy:=@PySem.wpAny_attempt
def wde:=@PySem.wpAny_updateSeq
def wdf:=@List.mem_singleton_self
def wdg:=@decide_eq_true_iff
def wdh:=@List.getElem?_set_self
def wdi:=@PySem.F.entry_min_loop
def Ul:=@PySem.wpAny_call
def wdk:=@PySem.Heap.get?_push_ne
def Uk:=@PySem.wpAny_rule
def wdm:=@PySem.wpAny_setState_of
def wdn:=@List.getElem?_set
def wdo:=@PySem.wpAny_runValue
def wdp:=@PySem.noFill_tuple_add
def wdq:=@Nat.le_of_not_lt
def wdr:=@PyProof.Rows.KeyOrd.kle_trans
def wds:=@Option.getD_some
def wdt:=@List.eq_nil_of_length_eq_zero
def wdu:=@PySem.wpAny_askSetting
def wdv:=@List.getElem?_set_ne
def wdw:=@List.mem_erase_of_ne
def wdx:=@List.getElem?_append
def wdy:=@Int.ofNat.inj
def wdz:=@PySem.W.plainGet_of
def Yx:=@PySem.wpAny_field
def wec:=@PyProof.Rows.entry_tuple_getitem
def wed:=@List.length_set
def wee:=@PySem.F.slot_int_rmul
def wef:=@Nat.add_sub_cancel'
def weg:=@Int.toNat_of_nonneg
def weh:=@PySem.pushCells_keeps
def wei:=@Bool.or_eq_true
def wej:=@Int.mul_lt_mul_of_pos_left
def wek:=@Int.eq_of_mul_eq_mul_right
def wel:=@PySem.F.excBase_ValueError
def wem:=@List.zip_cons_cons
def wen:=@List.filterMap_map
def weo:=@PyProof.Rows.args_tuple_getitem
def wep:=@PySem.Heap.IsSliceOf.new
def weq:=@Nat.pos_of_ne_zero
def wer:=@Nat.add_sub_cancel
def wes:=@PyProof.Rows.firstMet_length_le
def QT:=@or_false
def weu:=@Int.le_of_eq
def wev:=@Int.natAbs_natCast
def wew:=@Nat.eq_zero_or_pos
def wex:=@PySem.wpAny_fieldsOf
def wey:=@Int.eq_of_mul_eq_mul_left
def wez:=@Int.lt_of_mul_lt_mul_left
def wfa:=@List.mem_or_eq_of_mem_set
def wfb:=@PySem.wpAny_sequenceKey
def VN:=@PyProof.Rows.IsTup.new
def wfd:=@Nat.le_of_succ_le
def wfe:=@bne_self_eq_false
def Yw:=@PySem.Walks.list
def wfg:=@PyProof.noPylong_of_log2
def wfh:=@PySem.Obj.cls_mapFields
def wfi:=@PySem.wpAny_storeSet_of
def wfj:=@PySem.fits_of_scanBound
def wfk:=@Int.mul_ediv_cancel_left
def wfl:=@PySem.F.slot_list_extend
def wfm:=@PySem.F.type_list_extend
def wfn:=@List.append_cancel_right
def wfo:=@List.sublist_append_left
def wfp:=@Nat.gcd_pos_of_pos_right
def wfq:=@PySem.Paired.length
def wfr:=@PySem.rangeSize_one
def wfs:=@PySem.seq_tuple_add
def wft:=@PyProof.Rows.listUpdate_at
def wfu:=@PyProof.Rows.firstMet_succ
def wfv:=@PySem.F.entry_type_call
def Z9:=@Int.mul_pos
def wfx:=@List.map_take
def wfy:=@Nat.le_of_dvd
def wfz:=@Nat.gcd_pos_of_pos_left
def wga:=@Nat.mul_assoc
def wgb:=@PySem.wpAny_execs_cons
def wgc:=@Nat.le_add_right
def wgd:=@PySem.AutoSeq1.idx_int
def wge:=@Int.natCast_ediv
def wgf:=@PySem.W.cellsFrom_some
def wgg:=@List.filterMap_reverse
def wgh:=@Nat.le_mul_of_pos_left
def wgi:=@PySem.W.methodCall_KW
def wgj:=@List.of_mem_zip
def wgk:=@PySem.concat_meets
def wgl:=@Int.natCast_mul
def wgm:=@PySem.codeAny_of_tree
def wgn:=@PySem.F.plain_set_new
def wgo:=@PySem.sub_set_self
def wgp:=@Nat.pow_succ
def wgq:=@List.all_map
def wgr:=@List.map_set
def wgs:=@Int.ediv_nonneg
def Z8:=@PySem.wpAny_load
def Z6:=@PyProof.Rows.boot_range
def VL:=@if_false
def Z1:=@PyProof.Rows.Subscript_
def Z0:=@PySem.typeIs_int
def wgy:=@Bool.false_and
def wgz:=@Bool.and_false
def wha:=@List.drop_zero
def whb:=@Int.natAbs_mul
def whc:=@List.Perm.refl
def whd:=@Int.mul_one
def whe:=@PySem.IsRange.new
def Uj:=@if_true
def whg:=@PySem.wpAny_of_eq
def whh:=@PySem.wpAny_letGo
def whi:=@Bool.false_or
def whj:=@Int.lt_irrefl
def whk:=@List.map_drop
def whl:=@Nat.sub_le
def whm:=@Int.ediv_one
def whn:=@List.map_nil
def who:=@Nat.zero_add
def whp:=@List.any_map
def aJ:=@List.length_map
def cV:=@PySem.Heap.get?_push_of_some
def aN:=@Nat.le_refl
def gj:=@List.getElem?_eq_getElem
def dZ:=@List.mem_cons_of_mem
def bV:=@List.map_append
def dD:=@List.getElem?_map
def dY:=@List.mem_cons_self
def fL:=@List.mem_singleton
def fu:=@List.size_toArray
def cF:=@List.mem_cons
def gZ:=@PySem.Heap.get?_push_size
def gC:=@Nat.lt_of_lt_of_le
def gB:=@List.length_append
def m6:=@List.getElem?_eq_some_iff
def jr:=@List.mem_append_right
def oK:=@List.getD_eq_getElem?_getD
def cR:=@PySem.Heap.lt_size
def cQ:=@Nat.ne_of_lt
def jq:=@List.mem_of_getElem?
def cW:=@Nat.le_of_lt
def dB:=@Nat.zero_le
def dO:=@Nat.le_trans
def g8:=@List.mem_append
def kI:=@List.mem_filter
def m5:=@List.length_take
def sJ:=@Array.length_toList
def qH:=@Nat.lt_succ_of_lt
def wk:=@List.length_filter_le
def rK:=@List.take_add_one
def rJ:=@List.all_eq_true
def Cd:=@List.take_of_length_le
def sI:=@Nat.lt_succ_self
def kj:=@List.mem_map
def uW:=@List.length_cons
def wj:=@List.length_range
def rH:=@List.mem_range
def u9:=@List.append_nil
def wg:=@List.take_length
def Fz:=@List.getElem_of_mem
def yK:=@Nat.succ_ne_zero
def uV:=@Nat.lt_irrefl
def JX:=@List.getElem?_eq_none
def Fy:=@Nat.lt_of_le_of_lt
def yJ:=@Nat.min_le_left
def Fx:=@Int.toNat_natCast
def Kq:=@List.replicate_succ
def Ue:=@List.pairwise_iff_getElem
def Qs:=@List.mem_append_left
def HJ:=@List.lookup_cons
def Fw:=@List.range_succ
def Cq:=@PySem.Heap.size_push
def Kp:=@Nat.lt_of_le_of_ne
def yx:=@Nat.succ_pos
def yw:=@Int.mul_zero
def Ca:=@List.map_cons
def VH:=@Array.getElem?_eq_getElem
def Ko:=@List.getElem_mem
def HF:=@Int.mul_nonneg
def VG:=@Nat.mul_div_cancel_left
def Yv:=@List.getElem?_append_right
def Cp:=@Nat.ne_of_gt
def Km:=@List.nodup_cons
def ZV:=@Int.mul_le_mul_of_nonneg_left
def Qq:=@List.filter_cons
def Ud:=@List.filterMap_cons
def Fv:=@Nat.le_of_eq
def VF:=@PySem.Heap.get?_update_self
def Uc:=@List.filter_append
def QS:=@List.not_mem_nil
def Yu:=@List.length_pos_of_mem
def Ft:=@Nat.le_succ
def Ub:=@List.flatten_cons
def Ua:=@Nat.le_of_lt_succ
def Fq:=@Int.le_refl
def ZS:=@List.getElem?_append_left
def QM:=@List.length_nil
def QL:=@Nat.not_lt_zero
def Yt:=@Array.getElem?_toList
def T9:=@List.length_drop
def Yr:=@List.pairwise_append
def Yq:=@Nat.pow_le_pow_right
def ZR:=@List.pairwise_singleton
def Kl:=@Nat.lt_trans
def JW:=@Int.one_mul
def ZQ:=@PySem.Heap.get?_update_other
def Qp:=@Int.le_of_lt
def ZP:=@Nat.sub_one_lt_of_le
def Yp:=@List.any_eq_false
def VD:=@Nat.le_antisymm
def ydm:=@Nat.succ_add_eq_add_succ
def Yo:=@List.ext_getElem?
def QK:=@Int.mul_comm
def ydp:=@Int.mul_le_mul_of_nonneg_right
def T8:=@List.any_cons
def ZM:=@List.length_reverse
def ZL:=@List.map_congr_left
def ZK:=@List.getElem?_range
def ZJ:=@List.filter_sublist
def ZG:=@List.mem_map_of_mem
def Yn:=@List.any_eq_true
def ydx:=@List.pairwise_lt_range
def ydy:=@List.filter_eq_nil_iff
def ydz:=@List.length_replicate
def yea:=@List.cons_lt_cons_iff
def Ym:=@List.find?_cons
def Yl:=@Nat.min_eq_left
def ZF:=@List.append_assoc
def VB:=@Int.mul_assoc
def ZD:=@List.pairwise_map
def ZC:=@Nat.gcd_dvd_right
def yeh:=@Int.fdiv_eq_ediv_of_nonneg
def yei:=@Array.perm_iff_toList_perm
def yej:=@Nat.le_sub_one_of_lt
def Vz:=@Nat.mul_comm
def yel:=@List.pairwise_cons
def T7:=@Nat.not_lt
def Yk:=@Int.zero_add
def Yj:=@Int.zero_mul
def Yi:=@List.map_map
namespace Hd
open PySem PySem.W PySem.Calls PyProof.Rows
-- a run of the text's top over the heap as a tree, as one fold
def Wj(tb:String->Option Builtin)(p:ρ)(w:υ)(m:Nat)(ann:Option ζ)(n:Nat):SharedT->Thread->Option SharedT:=
 @Nat.rec (fun _=>SharedT->Thread->Option SharedT) (fun _ _=>none)
  (fun _ ih s t=> @Bool.rec (fun _=>Option SharedT)
   (@Bool.rec (fun _=>Option SharedT) none
    (@Option.rec (SharedT×Thread) (fun _=>Option SharedT) none (fun r=>ih r.1 r.2) (stepT (denote tb) p w s t)) (stepOk m ann t))
   (some s) (through t)) n
theorem Rk{tb:String->Option Builtin}{p:ρ}{w:υ}{m:Nat}{ann:Option ζ}:∀(n:Nat) (s s':SharedT) (t:Thread),
  Wj tb p w m ann n s t=some s'->topRun tb p w m ann n s.abs t=some s'.abs:=by
 intro n
 induction n with
 |zero=>intro s s' t h;exact absurd h (by intro h;cases h)
 |succ n ih=>
  intro s s' t h;have h1: @Bool.rec (fun _=>Option SharedT) (@Bool.rec (fun _=>Option SharedT) none
    (@Option.rec (SharedT×Thread) (fun _=>Option SharedT) none (fun r=>Wj tb p w m ann n r.1 r.2) (stepT (denote tb) p w s t)) (stepOk m ann t))
    (some s) (through t)=some s':=h
  unfold topRun;cases e1:through t with
  |true=>rw[e1]at h1;injection h1 with h1;rw[h1]
  |false=>
   rw[e1]at h1;cases e2:stepOk m ann t with
   |false=>rw[e2]at h1;cases h1
   |true=>
    rw[e2]at h1;cases e3:stepT (denote tb) p w s t with
    |none=>rw[e3]at h1;cases h1
    |some r=>
     rw[e3]at h1;have e4:=stepT_spec (s':=r.1) (t':=r.2) e3;show(match step (denote tb) p w s.abs t with | .go a b=>topRun tb p w m ann n a b| .halt _ _=>none)=_;rw[e4];exact ih _ _ _ h1
noncomputable def treeOf(l:List Obj):BT:=(l.foldl (fun x o=>(x.1.ins x.2 o,x.2+1)) ((BT.nil,0):BT×Nat)).1
-- the run from the start that the kit has laid
def ran(p:ρ)(N:Nat)(w:υ)(os:OsState):Option SharedT:=
 Wj treeTable p w 11 (some (.ref 6)) N ⟨treeOf (boot_heap w.params).objs.toList,11,{},Array.mk [],boot_drawn,boot_toks,os⟩ (topStub p)
-- what is looked at behind the run
noncomputable def looked(p q:ρ)(loose:List Str)(Xt:η->Bool)(g0:Bool)(h:Heap)(s:η):=
 ((staticsOk (importedModules p.main.body) h s.heap&&namesBound p s.heap&&gensDone s&&laidKept h s.heap),openSeen q loose (importedModules p.main.body) Xt g0 s)
def qj(p q:ρ)(loose:List Str)(Xt:η->Bool)(g0:Bool)(N:Nat):Prop:=
 ∀(w:υ) (os:OsState),(ran p N w os).map (fun s=>looked p q loose Xt g0 (boot_heap w.params) s.abs)=some (true,openGood q loose)
theorem R8{p q:ρ}{loose:List Str}{Xt:η->Bool}{α:Type}{Yf:η->α}{Ya:υ->α}{N:Nat}{g0:Bool}(r:qj p q loose Xt g0 N)(e:opening p=plainProg p.main.scope.names)(hN:Nat.ble 600 N=true)(f:∀s,fenceModules? p s=some s)(y:∀(w:υ) (os:OsState),(ran p N w os).map (fun s=>Yf s.abs)=some (Ya w)):
  LeftO p q loose Xt Yf Ya N g0:=fun w=>by
 have b:((boot_heap w.params).isNs mainGlobals&&(Array.mk []:Array GenState).size==0,(boot_heap w.params).objs.size,(boot_heap w.params).nsMap mainGlobals "__annotations__")=(true,11,some (.ref 6)):=by kernel_rfl
 have c:absHeap (treeOf (boot_heap w.params).objs.toList) 11 {}=boot_heap w.params:=by kernel_rfl
 obtain⟨⟨h,gs',d',k',os⟩,e1,e'⟩:=Option.map_eq_some_iff.mp (boot_open e hN f w);obtain⟨rfl,rfl,rfl,rfl⟩:h=boot_heap w.params/\gs'=Array.mk []/\d'=boot_drawn/\k'=boot_toks:=by simpa using e'
 obtain⟨b1,b2,b3⟩:_/\_/\_:=by simpa only[Prod.mk.injEq]using b
 obtain⟨s,r1,r2⟩:=Option.map_eq_some_iff.mp (r w os);obtain⟨s',y1,y2⟩:=Option.map_eq_some_iff.mp (y w os);have es:s'=s:=by rw[r1]at y1;injection y1 with y1;exact y1.symm
 subst es;obtain⟨l1,l2⟩:_/\_:=by simpa only[looked,Prod.mk.injEq]using r2
 have t1:=Rk N _ _ _ r1;have ab:SharedT.abs ⟨treeOf (boot_heap w.params).objs.toList,11,{},Array.mk [],boot_drawn,boot_toks,os⟩=⟨boot_heap w.params,Array.mk [],boot_drawn,boot_toks,os⟩:=by unfold SharedT.abs;rw[c]
 rw[ab]at t1;have t:topFrom treeTable p w N ⟨boot_heap w.params,Array.mk [],boot_drawn,boot_toks,os⟩=some s'.abs:=by
  unfold topFrom;dsimp only;rw[b1,b2,b3,t1];show(match staticsOk (importedModules p.main.body) (boot_heap w.params) s'.abs.heap&&namesBound p s'.abs.heap&&gensDone s'.abs&&laidKept (boot_heap w.params) s'.abs.heap with |true=>_|false=>_)=_;rw[l1]
 unfold openEnds;rw[e1];show(topFrom treeTable p w N _).map _=_;rw[t];show some (_,_)=_;rw[l2,y2]
-- what is looked at behind the run, in five groups: a run for each, so that none needs the memory of all
theorem two{α β γ:Type}{o:Option α}{f:α->β}{g:α->γ}{a:β}{b:γ}(h:o.map f=some a)(h':o.map g=some b):o.map (fun s=>(f s,g s))=some (a,b):=by
 cases o with
 |none=>cases h
 |some s=>
  injection h with h
  injection h' with h'
  show some (f s,g s)=_;rw[h,h']
theorem Kz{α β γ:Type}{o:Option α}{f:α->β}{g:α->γ}{a:β}{b:γ}(h:o.map (fun s=>(f s,g s))=some (a,b)):o.map f=some a/\o.map g=some b:=by
 cases o with
 |none=>cases h
 |some s=>
  injection h with h
  injection h with h h'
  exact⟨iD some h,iD some h'⟩
theorem both{α:Type}{o:Option α}{f g:α->Bool}(h:o.map f=some true)(h':o.map g=some true):o.map (fun s=>f s&&g s)=some true:=by
 cases o with
 |none=>cases h
 |some s=>
  injection h with h
  injection h' with h'
  show some (f s&&g s)=_;rw[h,h'];rfl
section
variable(p q:ρ)(Xt:η->Bool)(N:Nat)
abbrev GA:Prop:=∀(w:υ) (os:OsState),(ran p N w os).map (fun s=>(seen ((recsOf q).map (·.name)) (ownsOf q) [] {s.abs with gens:=#[]},s.abs.heap.bltView,s.abs.heap.isNs mainGlobals,s.abs.heap.isNs builtinsNs,tablesOk q s.abs.heap,s.abs.gens.size==0))=some (expectedOf q,bltViewBooted,true,true,true,true)
abbrev GB:Prop:=∀(w:υ) (os:OsState),(ran p N w os).map (fun s=>(s.abs.heap.keysOk (looseW q []) ((recsOf q).map (·.name)) ((litsOf q).map (·.1)) ((clssOf q (looseW q [])).map (·.name)),(staticsOk (importedModules p.main.body) (boot_heap w.params) s.abs.heap&&namesBound p s.abs.heap&&gensDone s.abs&&laidKept (boot_heap w.params) s.abs.heap),s.abs.heap.accountedOkI (importedModules p.main.body),Xt s.abs,plainSeenD q [] s.abs))=some (true,true,true,true,plainGoodD q [])
abbrev GC:Prop:=∀(w:υ) (os:OsState),(ran p N w os).map (fun s=>(tabsOk q s.abs,pinSeenD q (drecsOf q) s.abs))=some (true,pinGoodD (drecsOf q))
abbrev GD:Prop:=∀(w:υ) (os:OsState),(ran p N w os).map (fun s=>plainSeenE q (looseW q []) s.abs)=some (plainGoodE q (looseW q []))
abbrev GE:Prop:=∀(w:υ) (os:OsState),(ran p N w os).map (fun s=>(wideSeen q s.abs,clsSeenW q [] s.abs))=some (wideGood q,clsGoodW q [])
end
theorem Nh{p q:ρ}{Xt:η->Bool}{N:Nat}(ga:GA p q N)(gb:GB p q Xt N)(gc:GC p q N)(gd:GD p q N)(ge:GE p q N):qj p q [] Xt true N:=fun w os=>by
 obtain⟨h1,a2⟩:=Kz (ga w os);obtain⟨h2,a3⟩:=Kz a2;obtain⟨h5,a4⟩:=Kz a3;obtain⟨h6,a5⟩:=Kz a4;obtain⟨h7,h9⟩:=Kz a5;obtain⟨h3,b2⟩:=Kz (gb w os);obtain⟨h0,b3⟩:=Kz b2;obtain⟨h4,b4⟩:=Kz b3;obtain⟨h8,k4⟩:=Kz b4;obtain⟨k1,k2⟩:=Kz (gc w os);obtain⟨k5,k6⟩:=Kz (ge w os);exact two h0 (two h1 (two h2 (two (both (both (both (both (both (both h3 h4) h5) h6) h7) h8) h9) (two k1 (two k2 (two (gd w os) (two k4 (two k5 k6))))))))
end Hd
section
open PySem PySem.W PyProof.Rows
namespace Hd
noncomputable abbrev L:=PySem.Challenge.rw_hueshare_k29_rows_of_hues_looked_at
noncomputable def Q:ρ:=view L.row.toRowW.prog [1,2,3,4,5,6,7,8,9,10,12,13,14,15,16,17,18,19,20,21,22,23,24,25,26,28,29,30,32,33,34,35,36,37,38,40,41,43,44,45,46,48,49,50,51,53,54,55,56,57,58,59,60,62,63,64,65,66,67,68,69]
noncomputable abbrev X:η->Bool:=fun s=>xlAt Q [] s&&recOk (RowW.records L.row.toRowW) s
set_option maxRecDepth 100000 in
theorem g0:GA L.row.toRowW.prog Q 8288:=fun w os=>by kernel_rfl
set_option maxRecDepth 100000 in
theorem g1:GB L.row.toRowW.prog Q X 8288:=fun w os=>by kernel_rfl
set_option maxRecDepth 100000 in
theorem g2:GC L.row.toRowW.prog Q 8288:=fun w os=>by kernel_rfl
set_option maxRecDepth 100000 in
theorem g3:GD L.row.toRowW.prog Q 8288:=fun w os=>by kernel_rfl
set_option maxRecDepth 100000 in
theorem g4:GE L.row.toRowW.prog Q 8288:=fun w os=>by kernel_rfl
theorem looks:qj L.row.toRowW.prog Q [] X true 8288:=Nh g0 g1 g2 g3 g4
end Hd
local macro_rules
 |`(tactic|o_head $H)=>`(tactic|
  refine holds_open (q:=Hd.Q) (loose:=[]) (N:=8288) (Xt:=Hd.X) (XP:=XL Hd.Q [])
   (Yf:=Hook.obs $H) (Ya:=Hook.val $H) (YP:=Hook.says $H)
   (Hd.R8 Hd.looks (by kernel_rfl) rfl (fun _=>by kernel_rfl) (fun _ _=>by kernel_rfl))
   (Hook.of $H) (Hook.keeps $H) (fun s e=>xl_of s (Bool.and_eq_true_iff.mp e).1) XL.keeps
   (by rfl) (by rfl) (by rfl) (fun s e=>recFacts_of (Bool.and_eq_true_iff.mp e).2) (by rfl)
   (by first |assumption|decide+kernel) (by decide+kernel) ⟨rfl,rfl,rfl,rfl,rfl,by decide+kernel⟩ ?hw ?hc)
set_option maxRecDepth 100000 in
set_option maxHeartbeats 0 in
noncomputable def Hd.early:PSigma fun P:Prop=>P->PySem.Challenge.rw_hueshare_k29_rows_of_hues_looked_at.Holds:=by
 refine⟨?P,fun W=> ?_⟩
 rotate_left
 w_on;o_law;k_head;(case hw=>w_witness2)
 exact W
end
namespace L2
open PySem PySem.Spec PyProof.Rows
abbrev Key:=Sum Int Str
def keyIs:Key->ζ->Bool
 | .inl k,v=>Value.isInt k v
 | .inr x,v=>Value.isStrOf x v
def keyH(w:υ):Key->Int
 | .inl k=>hashInt k
 | .inr x=>hashStr w x
theorem Qo:∀{k:Key} {v:ζ},keyIs k v=true->(∃i t,k=Sum.inl i/\v=Value.int i t)\/(∃x t,k=Sum.inr x/\v=Value.str x t)
 | .inl i,v,h=>by
  obtain⟨t,e⟩:=YL (k:=i) (v:=v) h;exact .inl ⟨i,t,rfl,e⟩
 | .inr x,v,h=>by
  obtain⟨t,e⟩:=Value.isStrOf_shape (x:=x) (v:=v) h;exact .inr ⟨x,t,rfl,e⟩
theorem keyIs_int(i:Int)(t:Tok):keyIs (.inl i) (.int i t)=true:=by simp[keyIs,Value.isInt]
theorem keyIs_str(x:Str)(t:Tok):keyIs (.inr x) (.str x t)=true:=by simp[keyIs,Value.isStrOf]
theorem key_ll(a b:Int):decide ((Sum.inl a:Key)=Sum.inl b)=(a==b):=by
 by_cases e:a=b
 ·subst e;simp
 ·have h:¬(Sum.inl a:Key)=Sum.inl b:=fun q=>e (Sum.inl.inj q);rw[iY h];exact(beq_eq_false_iff_ne.mpr e).symm
theorem key_rr(a b:Str):decide ((Sum.inr a:Key)=Sum.inr b)=decide (a=b):=by
 by_cases e:a=b
 ·subst e;simp
 ·have h:¬(Sum.inr a:Key)=Sum.inr b:=fun q=>e (Sum.inr.inj q);rw[iY h,iY e]
theorem key_lr(a:Int)(b:Str):decide ((Sum.inl a:Key)=Sum.inr b)=false:=iY (fun q=>nomatch q)
theorem key_rl(a:Str)(b:Int):decide ((Sum.inr a:Key)=Sum.inl b)=false:=iY (fun q=>nomatch q)
noncomputable def mixKind(prog:ρ)(w:υ):PySem.KeyKind prog w Key where
 is:=keyIs
 hash:=keyH w
 inj:=fun v a b ha hb=>by
  rcases Qo ha with⟨i,t,rfl,rfl⟩|⟨x,t,rfl,rfl⟩
  ·rcases Qo hb with⟨j,u,rfl,e⟩|⟨y,u,rfl,e⟩
   ·injection e with e1 _;rw[e1]
   ·exact nomatch e
  ·rcases Qo hb with⟨j,u,rfl,e⟩|⟨y,u,rfl,e⟩
   ·exact nomatch e
   ·injection e with e1 _;rw[e1]
 byValue:=fun k v h=>by
  rcases Qo h with⟨i,t,rfl,rfl⟩|⟨x,t,rfl,rfl⟩<;>rfl
 pyHash:=fun hv h=>by
  rcases Qo hv with⟨i,t,rfl,rfl⟩|⟨x,t,rfl,rfl⟩
  ·exact wpAny_pyHash_int h
  ·exact wpAny_pyHash_str h
 eqBool:=fun hu hv h=>by
  rcases Qo hu with⟨i,t,rfl,rfl⟩|⟨x,t,rfl,rfl⟩
  ·rcases Qo hv with⟨j,u,rfl,rfl⟩|⟨y,u,rfl,rfl⟩
   ·rw[key_ll]at h;exact wpAny_eqBool_int h
   ·rw[key_lr]at h;exact SeqAt.EqAt.int_str i t y u _ _ _ _ h
  ·rcases Qo hv with⟨j,u,rfl,rfl⟩|⟨y,u,rfl,rfl⟩
   ·rw[key_rl]at h;exact SeqAt.EqAt.str_int x t j u _ _ _ _ h
   ·rw[key_rr]at h;exact wpAny_eqBool_str h
 «strs»:=fun k x t v h=>by
  rcases Qo h with⟨i,u,rfl,e⟩|⟨y,u,rfl,e⟩
  ·exact nomatch e
  ·injection e with e1 _
   subst e1;cases v<;>rfl
theorem mixKind_int(prog:ρ)(w:υ)(i:Int)(t:Tok):(mixKind prog w).is (.inl i) (.int i t)=true:=keyIs_int i t
theorem mixKind_str(prog:ρ)(w:υ)(x:Str)(t:Tok):(mixKind prog w).is (.inr x) (.str x t)=true:=keyIs_str x t
inductive V where
 |non|bl (b:Bool)|int (i:Int)|str (x:Str)|byt (b:Array UInt8)|flt (b:UInt64)|ref (a:Addr)|ty (n:String)
 deriving DecidableEq
def RelV:V->ζ->Prop
 | .non,u=>u=Value.none
 | .bl b,u=>u=Value.bool b
 | .int i,u=>∃t,u=Value.int i t
 | .str x,u=>∃t,u=Value.str x t
 | .byt b,u=>∃t,u=Value.bytes b t
 | .flt b,u=>∃t,u=Value.float b t
 | .ref a,u=>u=Value.ref a
 | .ty n,u=>u=Value.type n
abbrev Vals:List V->List ζ->Prop:=Paired RelV
theorem Vals.length{xs:List V}{us:List ζ}(r:Vals xs us):xs.length=us.length:=wfq r
theorem Vals.get:∀{xs:List V} {us:List ζ} {i:Nat} {x:V},Vals xs us->xs[i]? =some x->∃u,us[i]? =some u/\RelV x u
 |_,_,_,_,.nil,e=>by simp at e
 |_,_,0,_,.cons r _,e=>by simp at e;subst e;exact⟨_,rfl,r⟩
 |_,_,i+1,x,.cons _ t,e=>by
  obtain⟨u,h1,h2⟩:=Vals.get (i:=i) (x:=x) t (by simpa using e);exact⟨u,by simpa using h1,h2⟩
theorem Vals.set{x:V}{u:ζ}(r:RelV x u):∀{xs:List V} {us:List ζ} (i:Nat),Vals xs us->Vals (xs.set i x) (us.set i u)
 |_,_,_,.nil=> .nil
 |_,_,0,.cons _ t=> .cons r t
 |_,_,i+1,.cons q t=> .cons q (Vals.set r i t)
theorem Vals.append:∀{xs ys:List V} {us ws:List ζ},Vals xs us->Vals ys ws->Vals (xs++ys) (us++ws)
 |_,_,_,_,.nil,s=>s
 |_,_,_,_,.cons r t,s=> .cons r (Vals.append t s)
theorem Vals.take:∀{xs:List V} {us:List ζ} (n:Nat),Vals xs us->Vals (xs.take n) (us.take n)
 |_,_,0,_=> .nil
 |_,_,_+1,.nil=> .nil
 |_,_,n+1,.cons r t=> .cons r (Vals.take n t)
theorem Vals.drop:∀{xs:List V} {us:List ζ} (n:Nat),Vals xs us->Vals (xs.drop n) (us.drop n)
 |_,_,0,r=>r
 |_,_,_+1,.nil=> .nil
 |_,_,n+1,.cons _ t=>Vals.drop n t
def RelO:Option V->Option ζ->Prop
 |some v,some u=>RelV v u
 |none,none=>True
 |_,_=>False
def KV{κ:Type}:List (κ×V)->List (κ×ζ)->Prop:=Paired fun(p:κ×V) (q:κ×ζ)=>p.1=q.1/\RelV p.2 q.2
def kV:Key->V
 | .inl i=> .int i
 | .inr x=> .str x
inductive HO where
 /-- a list -/
 |lst (xs:List V)
 /-- a tuple (never changes) -/
 |tup (xs:List V)
 /-- a dict whose keys are ints and texts; one whose keys are tuples of ints and texts (the empty one is both) -/
 |dK (kvs:List (Key×V))|dT (kvs:List (List Key×V))
 /-- a set of ints: its members, its size -/
 |set (S:Int->Bool) (n:Nat)
 /-- an instance of the class at C, its dict at dx, its attributes -/
 |ins (C dx:Addr) (fs:List (Str×V))
 /-- the dict of the instance at x -/
 |own (x:Addr)
 /-- the dict of an exception -/
 |xd (fs:List (Str×V))
 /-- a bound method, f of x -/
 |met (f x:Addr)
 /-- a range object lo, lo + 1, .. below hi -/
 |rng (lo hi:Int)
 /-- a thing that is known to the object (the script; a dict while a loop walks it): read, never written while it is so -/
 |frz (o:Obj) (u:HO)
 /-- a code object's table -/
 |tbl (ps:Array ζ)
 /-- any other thing, by what is true of its one object (a def of one's own: SetO a S n := HO.ext fun h => ..) -/
 |ext (φ:Heap->Prop)
abbrev Hp:=Addr->Option HO
noncomputable def upd(H:Hp)(a:Addr)(o:HO):Hp:=fun b=>if b=a then some o else H b
theorem aH{H:Hp}{a:Addr}{o:HO}:upd H a o a=some o:=by unfold upd;rw[aB rfl]
theorem bU{H:Hp}{a b:Addr}{o:HO}(h:b≠a):upd H a o b=H b:=by unfold upd;rw[aq h]
theorem upd_upd{H:Hp}{a:Addr}{o u:HO}:upd (upd H a o) a u=upd H a u:=by
 funext b;unfold upd;split<;>rfl
theorem ne_of{H:Hp}{a b:Addr}{o u:HO}(h:H a=some o)(h':H b=some u)(d:o≠u):a≠b:=by
 intro e;subst e;rw[h]at h';exact d (uY h')
theorem jh{H:Hp}{a b:Addr}{o:HO}(h:H a=some o)(h':H b=none):a≠b:=by
 intro e;subst e;rw[h]at h';cases h'
section
variable(P:ρ)(w:υ)
def ObjOk(H:Hp)(h:Heap)(a:Addr):HO->Prop
 | .lst xs=>xs.length<=sizeLine/\∃(its:List ζ) (n:Nat),Vals xs its/\h.get? a=some {cls:= .type "list",data:= .seq its.toArray n}
 | .tup xs=>xs.length<=sizeLine/\∃its:List ζ,Vals xs its/\IsTup h a its.toArray
 | .dK kvs=>kvs.length<=sizeLine/\(a==sysModules)=false/\∃vs,KV kvs vs/\h.DictOf (mixKind P w) a vs
 | .dT kvs=>kvs.length<=sizeLine/\(a==sysModules)=false/\∃xs:List (List Key×Addr×ζ),
   Paired (fun(p:List Key×V) (q:List Key×Addr×ζ)=>p.1=q.1/\H q.2.1=some (.tup (p.1.map kV))/\RelV p.2 q.2.2) kvs xs/\
   ∃o es ep,h.get? a=some o/\o.ExactDict/\o.data= .dict es ep/\es.toList=xs.map (entryOfKey (tupleKind (mixKind P w)))/\(xs.map (·.1)).Nodup
 | .set S n=>h.SetOf (intKind P w) a S n
 | .ins C dx fs=>H dx=some (.own a)/\fs.length<=1000/\dx≠a/\h.get? a=some (PySem.W.instObj C dx)/\
   ∃mA,h.Ns1 dx mA/\(∀f,RelO (fs.lookup f) (mA f))/\PySem.Within mA (fs.map (·.1))
 | .own _=>∃o,h.get? a=some o
 | .xd fs=>∃mA,h.Ns1 a mA/\∀f,RelO (fs.lookup f) (mA f)
 | .rng lo hi=>∃t u v,h.get? a=some {cls:= .type "range",data:= .fields #[.int lo t,.int hi u,.int 1 v]}
 | .frz o u=>h.get? a=some o/\ObjOk H h a u
 | .tbl ps=>h.get? a=some {cls:= .none,data:= .fields ps}
 | .met f x=>h.get? a=some (PySem.W.methodObj (.ref f) (.ref x))
 | .ext φ=>φ h/\(∃o,h.get? a=some o)/\∀h1 h2:Heap,φ h1->(∀o,h1.get? a=some o->h2.get? a=some o)->φ h2
def HOk(H:Hp)(h:Heap):Prop:=∀a o,H a=some o->ObjOk P w H h a o
end
section
variable{P:ρ}{w:υ}{H H':Hp}{h h':Heap}{a:Addr}{o:HO}
theorem ObjOk.lt(x:ObjOk P w H h a o):a<h.objs.size:=by
 cases o with
 |lst xs=>obtain⟨_,_,_,_,e⟩:=x;exact cR e
 |tup xs=>obtain⟨_,_,_,p⟩:=x;exact p.lt
 |dK kvs=>obtain⟨_,_,_,_,o,_,_,e,_⟩:=x;exact cR e
 |dT kvs=>obtain⟨_,_,_,_,o,_,_,e,_⟩:=x;exact cR e
 |set S n=>obtain⟨o,_,_,_,e,_⟩:=x;exact cR e
 |ins C dx fs=>obtain⟨_,_,_,e,_⟩:=x;exact cR e
 |own y=>obtain⟨_,e⟩:=x;exact cR e
 |xd fs=>obtain⟨_,⟨_,_,_,e,_⟩,_⟩:=x;exact cR e
 |rng lo hi=>obtain⟨_,_,_,e⟩:=x;exact cR e
 |frz ob u=>obtain⟨e,_⟩:=x;exact cR e
 |tbl ps=>exact cR (show h.get? a=some _ from x)
 |met f y=>exact cR (show h.get? a=some _ from x)
 |ext φ=>obtain⟨_,⟨_,e⟩,_⟩:=x;exact cR e
theorem Paired.mapP{α β:Type}{F G:α->β->Prop}:∀{l₁:List α} {l₂:List β},Paired F l₁ l₂->(∀a b,F a b->G a b)->Paired G l₁ l₂
 |_,_,.nil,_=> .nil
 |_,_,.cons r t,f=> .cons (f _ _ r) (Paired.mapP t f)
theorem ObjOk.stay(x:ObjOk P w H h a o)(k:∀b u,(b=a\/H b=some (.own a))->h.get? b=some u->h'.get? b=some u)(ho:∀b,H b=some (.own a)->H' b=some (.own a))(ht:∀b xs,H b=some (.tup xs)->H' b=some (.tup xs)):ObjOk P w H' h' a o:=by
 induction o with
 |lst xs=>obtain⟨z,its,n,r,e⟩:=x;exact⟨z,its,n,r,k _ _ (.inl rfl) e⟩
 |tup xs=>obtain⟨z,its,r,ob,e,c⟩:=x;exact⟨z,its,r,ob,k _ _ (.inl rfl) e,c⟩
 |dK kvs=>obtain⟨z,y,vs,r,ob,es,ep,e,c⟩:=x;exact⟨z,y,vs,r,ob,es,ep,k _ _ (.inl rfl) e,c⟩
 |dT kvs=>
  obtain⟨z,y,xs,r,ob,es,ep,e,c⟩:=x;exact⟨z,y,xs,Paired.mapP r fun p q z=>⟨z.1,ht _ _ z.2.1,z.2.2⟩,ob,es,ep,k _ _ (.inl rfl) e,c⟩
 |set S n=>obtain⟨ob,es,ep,t,e,c⟩:=x;exact⟨ob,es,ep,t,k _ _ (.inl rfl) e,c⟩
 |ins C dx fs=>
  obtain⟨d,z,ne,e,mA,⟨od,es,ep,e2,c⟩,r⟩:=x;exact⟨ho _ d,z,ne,k _ _ (.inl rfl) e,mA,⟨od,es,ep,k _ _ (.inr d) e2,c⟩,r⟩
 |own y=>obtain⟨ob,e⟩:=x;exact⟨ob,k _ _ (.inl rfl) e⟩
 |xd fs=>obtain⟨mA,⟨od,es,ep,e,c⟩,r⟩:=x;exact⟨mA,⟨od,es,ep,k _ _ (.inl rfl) e,c⟩,r⟩
 |rng lo hi=>obtain⟨t,u,v,e⟩:=x;exact⟨t,u,v,k _ _ (.inl rfl) e⟩
 |frz ob u ih=>obtain⟨e,q⟩:=x;exact⟨k _ _ (.inl rfl) e,ih q⟩
 |tbl ps=>
  have e:h.get? a=some {cls:= .none,data:= .fields ps}:=x;show h'.get? a=some {cls:= .none,data:= .fields ps};exact k a _ (.inl rfl) e
 |met f y=>
  have e:h.get? a=some (PySem.W.methodObj (.ref f) (.ref y)):=x;show h'.get? a=some (PySem.W.methodObj (.ref f) (.ref y));exact k a _ (.inl rfl) e
 |ext φ=>obtain⟨p,⟨o,e⟩,st⟩:=x;exact⟨st _ _ p fun o q=>k _ _ (.inl rfl) q,⟨o,k _ _ (.inl rfl) e⟩,st⟩
theorem HOk.lt(x:HOk P w H h)(e:H a=some o):a<h.objs.size:=(x a o e).lt
theorem HOk.fresh(x:HOk P w H h)(e:h.objs.size<=a):H a=none:=by
 cases q:H a with
 |none=>rfl
 |some u=>exact absurd (gC (x.lt q) e) (uV _)
theorem HOk.kept(x:HOk P w H h)(k:∀b u,h.get? b=some u->h'.get? b=some u):HOk P w H h':=fun a o e=>
 (x a o e).stay (fun b u _ q=>k b u q) (fun _ q=>q) fun _ _ q=>q
theorem HOk.laid(x:HOk P w H h)(k:∀b u,h.get? b=some u->h'.get? b=some u)(hp:h.objs.size<=a)(new:ObjOk P w (upd H a o) h' a o):HOk P w (upd H a o) h':=fun b u e=>by
 have hn:=x.fresh hp;by_cases hb:b=a
 ·subst hb;rw[aH]at e;cases e;exact new
 ·rw[bU hb]at e;exact(x b u e).stay (fun c v _ q=>k c v q) (fun c q=>by rw[bU (jh q hn)];exact q) fun c xs q=>by rw[bU (jh q hn)];exact q
end
def Rd(H:Hp)(a:Addr)(u:HO):Prop:=H a=some u\/∃o,H a=some (.frz o u)
theorem Rd.ok{P:ρ}{w:υ}{H:Hp}{h:Heap}{a:Addr}{u:HO}(r:Rd H a u)(x:HOk P w H h):ObjOk P w H h a u:=by
 rcases r with r|⟨o,r⟩
 ·exact x a u r
 ·obtain⟨_,q⟩:=x a _ r;exact q
def Mut:Option HO->Prop
 |some (.lst _)=>True
 |some (.dK _)=>True
 |some (.dT _)=>True
 |some (.set _ _)=>True
 |some (.ins _ _ _)=>True
 |some (.ext _)=>True
 |_=>False
section
variable{P:ρ}{w:υ}{H:Hp}{h h':Heap}{x e:Addr}{o':HO}
theorem HOk.write(ok:HOk P w H h)(mu:Mut (H x))(he:e=x\/H e=some (.own x))(k:∀b u,b≠e->h.get? b=some u->h'.get? b=some u)(heo:∃u,h'.get? e=some u)(new:ObjOk P w (upd H x o') h' x o'):HOk P w (upd H x o') h':=fun b u q=>by
 have nown:∀c y,H c=some (.own y)->c≠x:=fun c y r z=>by subst z;rw[r]at mu;exact mu
 have ntup:∀c xs,H c=some (.tup xs)->c≠x:=fun c xs r z=>by subst z;rw[r]at mu;exact mu
 by_cases hb:b=x
 ·subst hb;rw[aH]at q;cases q;exact new
 ·rw[bU hb]at q;by_cases hbe:b=e
  ·have q':H b=some (.own x):=by
    rcases he with z|z
    ·exact absurd (hbe.trans z) hb
    ·rw[hbe];exact z
   rw[q]at q';cases q';obtain⟨v,hv⟩:=heo;exact⟨v,by rw[hbe];exact hv⟩
  ·refine(ok b u q).stay (fun c v hc r=>k c v ?_ r) (fun c r=>by rw[bU (nown c b r)];exact r) fun c xs r=>by rw[bU (ntup c xs r)];exact r
   rcases hc with rfl|hc
   ·exact hbe
   ·rintro rfl;rcases he with z|z
    ·exact nown c b hc z
    ·rw[hc]at z;cases z;exact hb rfl
end
structure Un(fs ex:List Addr)(H H':Hp)(h h':Heap):Prop where
 keep:∀b o,h.get? b=some o->H b=none->b∉fs->b∉ex->h'.get? b=some o
 slot:∀b o,h.get? b=some o->H b=none->b∈fs->b∉ex->∃sl,h'.get? b=some {o with slots:=sl}
 free:∀b o,h.get? b=some o->H b=none->b∉ex->H' b=none
 there:∀b o,h.get? b=some o->b∉ex->∃o',h'.get? b=some o'
 tups:∀b xs,H b=some (.tup xs)->H' b=some (.tup xs)
 frzs:∀b o u,H b=some (.frz o u)->H' b=some (.frz o u)
 tbls:∀b ps,H b=some (.tbl ps)->∃more,H' b=some (.tbl (ps++more))
section
variable{fs ex:List Addr}{H H1:Hp}{h h1 h':Heap}{a x e:Addr}{o:HO}
theorem Un.any(u:Un fs ex H H1 h h1){b:Addr}{ob:Obj}(q:h.get? b=some ob)(n:H b=none)(hx:b∉ex):∃sl,h1.get? b=some {ob with slots:=sl}:=by
 by_cases hb:b∈fs
 ·exact u.slot b ob q n hb hx
 ·exact⟨ob.slots,u.keep b ob q n hb hx⟩
theorem Un.kept(k:∀b u,h.get? b=some u->h'.get? b=some u):Un fs ex H H h h':=
 ⟨fun b ob q _ _ _=>k b ob q,fun b ob q _ _ _=>⟨ob.slots,k b ob q⟩,fun _ _ _ n _=>n,fun b ob q _=>⟨ob,k b ob q⟩,fun _ _ q=>q,fun _ _ _ q=>q,fun _ ps q=>⟨#[],by rw[q];simp⟩⟩
theorem Un.refl:Un fs ex H H h h:=Un.kept fun _ _ q=>q
theorem Un.laid(k:∀b u,h.get? b=some u->h'.get? b=some u)(hp:h.objs.size<=a)(hn:H a=none):Un fs ex H (upd H a o) h h' where
 keep:=fun b u q _ _ _=>k b u q
 slot:=fun b u q _ _ _=>⟨u.slots,k b u q⟩
 free:=fun b u q n _=>by rw[bU (cQ (gC (cR q) hp))];exact n
 there:=fun b u q _=>⟨u,k b u q⟩
 tups:=fun b xs q=>by rw[bU (jh q hn)];exact q
 frzs:=fun b u xs q=>by rw[bU (jh q hn)];exact q
 tbls:=fun b ps q=>⟨#[],by rw[bU (jh q hn),q];simp⟩
theorem Un.write(mu:Mut (H x))(he:e=x\/H e=some (.own x))(k:∀b u,b≠e->h.get? b=some u->h'.get? b=some u)(heo:∃u,h'.get? e=some u):Un fs ex H (upd H x o) h h':=by
 have hx:∀b,H b=none->b≠x:=fun b n z=>by subst z;rw[n]at mu;exact mu
 have hb:∀b,H b=none->b≠e:=fun b n z=>by
  subst z;rcases he with r|r
  ·exact hx b n r
  ·rw[n]at r;cases r
 have hm:∀b u,H b=some u->¬Mut (some u)->b≠x:=fun b u q nm z=>by subst z;rw[q]at mu;exact nm mu
 refine⟨fun b u q n _ _=>k b u (hb b n) q,fun b u q n _ _=>⟨u.slots,k b u (hb b n) q⟩,fun b u q n _=>by rw[bU (hx b n)];exact n,fun b u q _=> ?_,
  fun b xs q=>by rw[bU (hm b _ q fun z=>z)];exact q,fun b u xs q=>by rw[bU (hm b _ q fun z=>z)];exact q,fun b ps q=>⟨#[],by rw[bU (hm b _ q fun z=>z),q];simp⟩⟩
 by_cases hbe:b=e
 ·subst hbe;exact heo
 ·exact⟨u,k b u hbe q⟩
end
noncomputable def trk(h:Heap)(H:Hp):List Addr:=(List.range h.objs.size).filter fun a=>(H a).isSome
noncomputable def hidT(h:Heap)(H:Hp):Heap:=PySem.W.hideAll h (trk h H)
theorem hidT_size(h:Heap)(H:Hp):(hidT h H).objs.size=h.objs.size:=PySem.W.hideAll_size _ _
theorem hidT_get{h:Heap}{H:Hp}{b:Addr}{o:Obj}(e:h.get? b=some o)(n:H b=none):(hidT h H).get? b=some o:=
 wcx _ e fun hm=>by
  have q:(H b).isSome=true:=(kI.mp hm).2;rw[n]at q;simp at q
theorem of_hidT{h:Heap}{H:Hp}{b:Addr}{o:Obj}(e:(hidT h H).get? b=some o):h.get? b=some o/\H b=none:=by
 have e':h.get? b=some o:=PySem.W.of_hideAll (trk h H) e;refine⟨e',?_⟩;cases q:H b with
 |none=>rfl
 |some x=>
  have hm:b∈trk h H:=kI.mpr ⟨rH.mpr (cR e'),by simp[q]⟩;have z:(hidT h H).get? b=none:=PySem.W.hideAll_none (trk h H) hm;rw[z]at e;cases e
structure Mod(K:W.Frag)(mg:L4)(base:Heap):Prop where
 kin:K.In base
 glob:base.Ns mainGlobals mg
 blt:∃mb,base.Ns builtinsNs mb/\∀x:Str,x≠"__name__"->mb x=bootBuiltins x
 nolimit:base.NoLimit
structure Cx where
 prog:ρ
 w:υ
 K:W.Frag
 mg:Str->Option ζ
 base:Heap
 A:χ
 N:List Str
 s₀:η
 H₀:Hp
 env:Env
 outer:List Env
 stack:List Env
 ex:List Addr
 fn:Str->Bool
 calm:Bool
 pn:L1
 xe:ζ->η->Prop
noncomputable def frs(l:List Env):List Addr:=l.filterMap (·.frame)
noncomputable abbrev Cx.fs(X:Cx):List Addr:=frs X.outer
def Vis(sc:Scope)(x:Str):Prop:=sc.names.lookup x=some .local\/sc.names.lookup x=some .cell\/sc.names.lookup x=some .free
def Loc(sc:Scope)(x:Str):Prop:=sc.names.lookup x=some .local\/sc.names.lookup x=some .cell
def Look(env:Env)(h:Heap)(m:L4)(x:Str)(u:ζ):Prop:=
 (env.kindOf x=some .local/\m x=some u)\/((env.kindOf x=some .cell\/env.kindOf x=some .free)/\∃c,env.cells.lookup x=some c/\h.IsCell c (some u))
structure Cx.Ok(X:Cx):Prop where
 mod:Mod X.K X.mg X.base
 kind:X.env.scope.kind= .function
 glob:X.env.globals=mainGlobals
 blt:X.env.builtins=builtinsNs
 above:X.s₀.heap.objs.size<=X.env.locals
 inj:∀x y c,X.env.cells.lookup x=some c->X.env.cells.lookup y=some c->x=y
 has:∀x,(X.env.kindOf x=some .cell\/X.env.kindOf x=some .free)->∃c,X.env.cells.lookup x=some c
 cab:∀x c,X.fn x=true->X.env.cells.lookup x=some c->X.s₀.heap.objs.size<=c
 hd:X.calm=true->X.A.handled=none
 frames:X.A.frames=some X.stack
 stk:X.stack=X.outer\/(X.stack=X.env::X.outer/\X.env.frame=some X.env.locals)
 exf:∀b∈X.ex,b≠X.env.locals/\∀x c,X.env.cells.lookup x=some c->c≠b
 bs:∀b o,X.base.get? b=some o->X.s₀.heap.get? b=some o/\X.H₀ b=none
 bsz:X.base.objs.size<=X.s₀.heap.objs.size
 noex:∀b o,X.base.get? b=some o->b∉X.ex
 exfs:∀b∈X.ex,b∉X.fs
 funs:X.s₀.heap.FunFrames X.base X.outer
 frf:∀b∈X.fs,X.H₀ b=none
structure Inv(X:Cx)(pins:L1)(σ:List (Option V))(H:Hp)(s:η):Prop where
 ok:X.Ok
 os:s.os=X.s₀.os
 bare:AllBare s.gens
 base:Un X.fs X.ex X.H₀ H X.s₀.heap s.heap
 loc:∃m,s.heap.Ns X.env.locals m/\∀(i:Nat) (x:Str) (v:V),X.N[i]? =some x->σ[i]? =some (some v)->Vis X.env.scope x->∃u,RelV v u/\Look X.env s.heap m x u
 cell:∀x c,X.env.cells.lookup x=some c->∃v,s.heap.IsCell c v
 free:H X.env.locals=none
 freeC:∀x c,X.env.cells.lookup x=some c->H c=none
 pin:∀p∈X.pn++pins,s.heap.get? p.1=some p.2/\H p.1=none/\p.1≠X.env.locals/\p.1∉X.fs/\∀v,p.2.data≠.cell v
 hok:HOk X.prog X.w H s.heap
 len:σ.length=X.N.length
section
variable{X:Cx}{pins:L1}{σ:List (Option V)}{H H':Hp}{s:η}{h':Heap}
theorem Cx.Ok.nofr(ok:X.Ok){b:Addr}{o:Obj}(e:X.base.get? b=some o):b∉X.fs:=fun hb=>by
 have:=(ok.funs.mem hb).1;rw[e]at this;cases this
theorem Inv.bs(I:Inv X pins σ H s):∀b o,X.base.get? b=some o->s.heap.get? b=some o/\H b=none:=fun b o e=>
 ⟨I.base.keep b o (I.ok.bs b o e).1 (I.ok.bs b o e).2 (I.ok.nofr e) (I.ok.noex b o e),I.base.free b o (I.ok.bs b o e).1 (I.ok.bs b o e).2 (I.ok.noex b o e)⟩
theorem Inv.bk(I:Inv X pins σ H s):∀b o,X.base.get? b=some o->s.heap.get? b=some o:=fun b o e=>(I.bs b o e).1
theorem Inv.mod(I:Inv X pins σ H s):Mod X.K X.mg X.base:=I.ok.mod
theorem Inv.kIn(I:Inv X pins σ H s):X.K.In s.heap:=I.ok.mod.kin.keeps I.bk
theorem Inv.nolimit(I:Inv X pins σ H s):s.heap.NoLimit:=I.ok.mod.nolimit.keeps I.bk
theorem Inv.lt(I:Inv X pins σ H s):X.env.locals<s.heap.objs.size:=let⟨_,hn,_⟩:=I.loc;hn.lt
theorem Inv.sz(I:Inv X pins σ H s):X.s₀.heap.objs.size<=s.heap.objs.size:=dO I.ok.above (cW I.lt)
theorem Inv.nofs(I:Inv X pins σ H s){a:Addr}(h:s.heap.objs.size<=a):a∉X.fs:=fun hb=>by
 obtain⟨_,o,ho,_⟩:=I.ok.funs.mem hb;exact absurd (gC (cR ho) (dO I.sz h)) (uV _)
theorem Inv.cne(I:Inv X pins σ H s):∀x c,X.env.cells.lookup x=some c->c≠X.env.locals:=fun x c e z=>by
 obtain⟨v,o,ho,hd⟩:=I.cell x c e;obtain⟨m,⟨o',es,ep,ho',hd',_⟩,_⟩:=I.loc;rw[z,ho']at ho;cases ho;rw[hd']at hd;cases hd
theorem Inv.funs(I:Inv X pins σ H s):s.heap.FunFrames X.base X.outer:=by
 have all:∀(l:List Env),(∀b∈frs l,b∈X.fs)->X.s₀.heap.FunFrames X.base l->s.heap.FunFrames X.base l:=by
  intro l
  induction l with
  |nil=>intro _ _;trivial
  |cons env r ih=>
   intro hs hl;obtain⟨hk,⟨L,o,hf,hn,ho,hd⟩,hr⟩:=hl;have hL:L∈X.fs:=hs L (by unfold frs;rw[Ud,hf];exact dY);obtain⟨sl,e⟩:=I.base.slot L o ho (I.ok.frf L hL) hL fun z=>I.ok.exfs L z hL;exact⟨hk,⟨L,_,hf,hn,e,hd⟩,ih (fun b hb=>hs b (by unfold frs;rw[Ud,hf];exact dZ _ hb)) hr⟩
 exact all X.outer (fun _ hb=>hb) I.ok.funs
theorem Inv.stack(I:Inv X pins σ H s):s.heap.FunFrames X.base X.stack:=by
 rcases I.ok.stk with e|⟨e,hf⟩
 ·rw[e];exact I.funs
 ·rw[e];obtain⟨m,hn,_⟩:=I.loc;refine .cons (by rw[I.ok.kind];decide) hf hn ?_ I.funs;exact Heap.get?_none_of_le (dO I.ok.bsz I.ok.above)
theorem Inv.stkSub(I:Inv X pins σ H s):∀b∈frs X.stack,b∈X.env.locals::X.fs:=fun b hb=>by
 rcases I.ok.stk with e|⟨e,hf⟩
 ·rw[e]at hb;exact dZ _ hb
 ·rw[e]at hb;unfold frs at hb;rw[Ud,hf]at hb;exact hb
theorem Inv.stkFree(I:Inv X pins σ H s):∀b∈frs X.stack,H b=none:=fun b hb=>by
 rcases cF.mp (I.stkSub b hb)with e|hb
 ·rw[e];exact I.free
 ·obtain⟨_,o,ho,_⟩:=I.ok.funs.mem hb;exact I.base.free b o ho (I.ok.frf b hb) fun z=>I.ok.exfs b z hb
theorem Inv.step{g':Array GenState}{t':Nat}{d':Drawn}{ch:List Addr}(I:Inv X pins σ H s)(hch:∀b∈ch,(b∈X.ex\/X.s₀.heap.objs.size<=b)/\b≠X.env.locals/\(∀x c,X.env.cells.lookup x=some c->c≠b)/\∀p∈X.pn++pins,p.1≠b)(keep:∀b o,b≠X.env.locals->b∉X.fs->b∉ch->s.heap.get? b=some o->H b=none->h'.get? b=some o)(slot:∀b o,b≠X.env.locals->b∈X.fs->b∉ch->s.heap.get? b=some o->H b=none->∃sl,h'.get? b=some {o with slots:=sl})(free:∀b o,b∉ch->s.heap.get? b=some o->H b=none->H' b=none)(there:∀b o,b∉ch->s.heap.get? b=some o->∃o',h'.get? b=some o')(tups:∀b xs,H b=some (.tup xs)->H' b=some (.tup xs))(frzs:∀b o u,H b=some (.frz o u)->H' b=some (.frz o u))(tbls:∀b ps,H b=some (.tbl ps)->∃more,H' b=some (.tbl (ps++more)))(ns:∀m,s.heap.Ns X.env.locals m->h'.Ns X.env.locals m)(hok:HOk X.prog X.w H' h')(hg:AllBare g'):
  Inv X pins σ H' {s with heap:=h',gens:=g',drawn:=d',toks:=t'}:=by
 have neL:∀b o,X.s₀.heap.get? b=some o->b≠X.env.locals:=fun b o e=>cQ (gC (cR e) I.ok.above);have neC:∀b o,X.s₀.heap.get? b=some o->b∉X.ex->b∉ch:=fun b o e hx hb=>by
  rcases(hch b hb).1 with z|z
  ·exact hx z
  ·exact absurd (gC (cR e) z) (uV _)
 have cellK:∀x c,X.env.cells.lookup x=some c->∀v,s.heap.IsCell c v->h'.IsCell c v:=fun x c e v ⟨o,ho,hd⟩=>by
  have nch:c∉ch:=fun z=>(hch c z).2.2.1 x c e rfl;by_cases hc:c∈X.fs
  ·obtain⟨sl,q⟩:=slot c o (I.cne x c e) hc nch ho (I.freeC x c e);exact⟨_,q,hd⟩
  ·exact⟨o,keep c o (I.cne x c e) hc nch ho (I.freeC x c e),hd⟩
 refine⟨I.ok,I.os,hg,⟨fun b o e n hb hx=> ?_,fun b o e n hb hx=> ?_,fun b o e n hx=> ?_,fun b o e hx=> ?_,fun b xs e=>tups b xs (I.base.tups b xs e),fun b o xs e=>frzs b o xs (I.base.frzs b o xs e),fun b ps e=> ?_⟩,?_,fun x c e=> ?_,?_,fun x c e=> ?_,fun p hp=> ?_,hok,I.len⟩
 ·exact keep b o (neL b o e) hb (neC b o e hx) (I.base.keep b o e n hb hx) (I.base.free b o e n hx)
 ·obtain⟨sl,e1⟩:=I.base.slot b o e n hb hx;obtain⟨sl',e2⟩:=slot b _ (neL b o e) hb (neC b o e hx) e1 (I.base.free b o e n hx);exact⟨sl',e2⟩
 ·obtain⟨o',e1⟩:=I.base.there b o e hx;exact free b o' (neC b o e hx) e1 (I.base.free b o e n hx)
 ·obtain⟨o',e1⟩:=I.base.there b o e hx;exact there b o' (neC b o e hx) e1
 ·obtain⟨m1,e1⟩:=I.base.tbls b ps e;obtain⟨m2,e2⟩:=tbls b _ e1;exact⟨m1++m2,by rw[e2,Array.append_assoc]⟩
 ·obtain⟨m,hn,hl⟩:=I.loc;refine⟨m,ns m hn,fun i x v e1 e2 e3=> ?_⟩;obtain⟨u,r,l⟩:=hl i x v e1 e2 e3;refine⟨u,r,?_⟩;rcases l with l|⟨k,c,e,z⟩
  ·exact .inl l
  ·exact .inr ⟨k,c,e,cellK x c e _ z⟩
 ·obtain⟨v,z⟩:=I.cell x c e;exact⟨v,cellK x c e v z⟩
 ·obtain⟨m,⟨o,_,_,ho,_⟩,_⟩:=I.loc;exact free _ o (fun z=>(hch _ z).2.1 rfl) ho I.free
 ·obtain⟨v,o,ho,hd⟩:=I.cell x c e;exact free c o (fun z=>(hch c z).2.2.1 x c e rfl) ho (I.freeC x c e)
 ·obtain⟨e,n,ne,nf,d⟩:=I.pin p hp;have nch:p.1∉ch:=fun z=>(hch p.1 z).2.2.2 p hp rfl;exact⟨keep p.1 p.2 ne nf nch e n,free p.1 p.2 nch e n,ne,nf,d⟩
theorem Inv.un{t':Nat}(I:Inv X pins σ H s)(u:Un X.fs [] H H' s.heap h')(hok:HOk X.prog X.w H' h'):Inv X pins σ H' {s with heap:=h',toks:=t'}:=by
 obtain⟨m,⟨o,es,ep,ho,r⟩,_⟩:=id I.loc;obtain⟨sl,hL⟩:=u.any ho I.free (by simp);exact I.step (g':=s.gens) (d':=s.drawn) (ch:=[]) (fun _ z=>nomatch z) (fun b o _ hb _ e n=>u.keep b o e n hb (by simp)) (fun b o _ hb _ e n=>u.slot b o e n hb (by simp)) (fun b o _ e n=>u.free b o e n (by simp)) (fun b o _ e=>u.there b o e (by simp)) u.tups u.frzs u.tbls (fun m' hm=>by
  obtain⟨o',es',ep',ho',r'⟩:=hm;rw[ho]at ho';cases ho';exact⟨_,es',ep',hL,r'⟩) hok I.bare
theorem Inv.call{g':Array GenState}{t':Nat}{d':Drawn}{ch:List Addr}(I:Inv X pins σ H s)(u:Un (frs X.stack) ch H H' s.heap h')(hok:HOk X.prog X.w H' h')(hg:AllBare g')(hch:∀b∈ch,(b∈X.ex\/X.s₀.heap.objs.size<=b)/\b≠X.env.locals/\(∀x c,X.env.cells.lookup x=some c->c≠b)/\∀p∈X.pn++pins,p.1≠b):
  Inv X pins σ H' {s with heap:=h',gens:=g',drawn:=d',toks:=t'}:=by
 obtain⟨m,⟨o,es,ep,ho,r⟩,_⟩:=id I.loc;obtain⟨sl,hL⟩:=u.any ho I.free fun z=>(hch _ z).2.1 rfl;exact I.step (ch:=ch) hch (fun b o hL hb hc e n=>u.keep b o e n (fun z=>(cF.mp (I.stkSub b z)).elim hL hb) hc) (fun b o _ _ hc e n=>u.any e n hc) (fun b o hc e n=>u.free b o e n hc) (fun b o hc e=>u.there b o e hc) u.tups u.frzs u.tbls (fun m' hm=>by
  obtain⟨o',es',ep',ho',r'⟩:=hm;rw[ho]at ho';cases ho';exact⟨_,es',ep',hL,r'⟩) hok hg
theorem Inv.turned{t':Nat}{it:Addr}(I:Inv X pins σ H s)(k:∀b o,b≠it->s.heap.get? b=some o->h'.get? b=some o)(hn:H it=none)(hL:it≠X.env.locals)(h1:it∈X.ex\/X.s₀.heap.objs.size<=it)(h2:∀x c,X.env.cells.lookup x=some c->c≠it)(h3:∀p∈X.pn++pins,p.1≠it):Inv X pins σ H {s with heap:=h',toks:=t'}:=by
 have nit:∀b u,H b=some u->b≠it:=fun b u e z=>by rw[z,hn]at e;cases e
 refine I.step (g':=s.gens) (d':=s.drawn) (ch:=[it]) (fun b hb=> ?_) (fun b o _ _ hc e _=>k b o (fun z=>hc (by simp[z])) e) (fun b o _ _ hc e _=>⟨o.slots,k b o (fun z=>hc (by simp[z])) e⟩) (fun _ _ _ _ n=>n)
  (fun b o hc e=>⟨o,k b o (fun z=>hc (by simp[z])) e⟩) (fun _ _ e=>e) (fun _ _ _ e=>e) (fun b ps e=>⟨#[],by rw[e];simp⟩) (fun m hm=> ?_) (fun b u e=> ?_) I.bare
 ·have e:b=it:=by simpa using hb
  subst e;exact⟨h1,hL,h2,h3⟩
 ·obtain⟨o,es,ep,ho,r⟩:=hm;exact⟨o,es,ep,k _ o (kO hL) ho,r⟩
 ·refine(I.hok b u e).stay (fun c v hc q=>k c v ?_ q) (fun _ q=>q) fun _ _ q=>q;rcases hc with z|z
  ·rw[z];exact nit b u e
  ·exact nit c _ z
theorem Inv.tok(I:Inv X pins σ H s)(t:Nat):Inv X pins σ H {s with toks:=t}:=I.un (h':=s.heap) (t':=t) Un.refl I.hok
theorem Inv.kept{t':Nat}(I:Inv X pins σ H s)(k:∀b u,s.heap.get? b=some u->h'.get? b=some u):Inv X pins σ H {s with heap:=h',toks:=t'}:=I.un (Un.kept k) (I.hok.kept k)
theorem Inv.laid{a:Addr}{o:HO}{t':Nat}(I:Inv X pins σ H s)(k:∀b u,s.heap.get? b=some u->h'.get? b=some u)(hp:s.heap.objs.size<=a)(new:ObjOk X.prog X.w (upd H a o) h' a o):
  Inv X pins σ (upd H a o) {s with heap:=h',toks:=t'}:=I.un (Un.laid k hp (I.hok.fresh hp)) (I.hok.laid k hp new)
theorem Inv.write{x e:Addr}{o:HO}{t':Nat}(I:Inv X pins σ H s)(mu:Mut (H x))(he:e=x\/H e=some (.own x))(k:∀b u,b≠e->s.heap.get? b=some u->h'.get? b=some u)(heo:∃u,h'.get? e=some u)(new:ObjOk X.prog X.w (upd H x o) h' x o):Inv X pins σ (upd H x o) {s with heap:=h',toks:=t'}:=I.un (Un.write mu he k heo) (I.hok.write mu he k heo new)
theorem Inv.pins_of{pins':L1}(I:Inv X pins σ H s)(h:∀p∈pins',s.heap.get? p.1=some p.2/\H p.1=none/\p.1≠X.env.locals/\p.1∉X.fs/\∀v,p.2.data≠.cell v):Inv X pins' σ H s:=
 ⟨I.ok,I.os,I.bare,I.base,I.loc,I.cell,I.free,I.freeC,fun p hp=>(g8.mp hp).elim (fun z=>I.pin p (Qs _ z)) (h p),I.hok,I.len⟩
theorem nodup_ix{N:List Str}(hN:N.Nodup){i j:Nat}{x:Str}(a:N[i]? =some x)(b:N[j]? =some x):i=j:=by
 obtain⟨h1,e1⟩:=m6.mp a;obtain⟨h2,e2⟩:=m6.mp b;exact(List.getElem_inj hN).mp (e1.trans e2.symm)
theorem store_ok2{M:Model}{A:χ}{E:L3}{i:Nat}{x:Str}{v:V}{u:ζ}{Q:Unit->η->Prop}(I:Inv X pins σ H s)(hN:X.N.Nodup)(hi:X.N[i]? =some x)(hx:Loc X.env.scope x)(r:RelV v u)(h:∀s',Inv X pins (σ.set i (some v)) H s'->(∃a,Heap.SameBut a s.heap s'.heap/\(a=X.env.locals\/X.env.cells.lookup x=some a))->Q () s')(hf:X.fn x=true\/X.env.scope.names.lookup x=some .local:=by first |exact .inl rfl|exact .inr rfl|assumption):wpAny M A (storeName X.env x u) Q E s:=by
 obtain⟨m,hn,hl⟩:=id I.loc;have hcls:(X.env.scope.kind== .class||(X.env.scope.kind== .module&&X.env.locals !=X.env.globals))=false:=by rw[I.ok.kind];rfl
 have hiσ:i<σ.length:=by rw[I.len];exact(m6.mp hi).1
 have cne:=I.cne;have tracked:∀{a:Addr} {h':Heap},(∃o,s.heap.get? a=some o/\H a=none)->Heap.SameBut a s.heap h'->HOk X.prog X.w H h':=fun{a h'} ha hs b ob e=>by
  obtain⟨_,_,hfree⟩:=ha;refine(I.hok b ob e).stay (fun c w' hc q=>(hs.2 c ?_).trans q) (fun _ q=>q) fun _ _ q=>q;rintro rfl;rcases hc with rfl|hc
  ·rw[hfree]at e;cases e
  ·rw[hfree]at hc;cases hc
 rcases hx with hk|hk
 ·refine wpAny_storeName_local hk hn (fun h' hn' hs=> ?_) hcls;obtain⟨oL,_,_,hoL,_⟩:=id hn;refine h _ ⟨I.ok,I.os,I.bare,⟨fun b o e n hb hx=> ?_,fun b o e n hb hx=> ?_,I.base.free,fun b o e hx=> ?_,I.base.tups,I.base.frzs,I.base.tbls⟩,⟨_,hn',fun j y v' e1 e2 e3=> ?_⟩,fun y c e=> ?_,I.free,I.freeC,fun p hp=> ?_,tracked ⟨oL,hoL,I.free⟩ hs,by simpa using I.len⟩ ⟨_,hs,.inl rfl⟩
  ·exact(hs.2 b (cQ (gC (cR e) I.ok.above))).trans (I.base.keep b o e n hb hx)
  ·obtain⟨sl,e1⟩:=I.base.slot b o e n hb hx;exact⟨sl,(hs.2 b (cQ (gC (cR e) I.ok.above))).trans e1⟩
  ·obtain⟨o',e1⟩:=I.base.there b o e hx;exact⟨o',(hs.2 b (cQ (gC (cR e) I.ok.above))).trans e1⟩
  ·by_cases hj:j=i
   ·subst hj;rw[hi]at e1;cases e1;rw[wdh hiσ]at e2;cases e2;exact⟨u,r,.inl ⟨hk,by simp⟩⟩
   ·rw[wdv (kO hj)]at e2;obtain⟨u',r',q⟩:=hl j y v' e1 e2 e3;refine⟨u',r',?_⟩;rcases q with⟨k,e⟩|⟨k,c,e,z⟩
    ·refine .inl ⟨k,?_⟩;have:y≠x:=fun e=>hj (nodup_ix hN e1 (e▸hi));simp[this,e]
    ·exact .inr ⟨k,c,e,z.sameBut hs (cne y c e)⟩
  ·obtain⟨w',z⟩:=I.cell y c e;exact⟨w',z.sameBut hs (cne y c e)⟩
  ·obtain⟨e,n,ne,nf,d⟩:=I.pin p hp;exact⟨(hs.2 p.1 ne).trans e,n,ne,nf,d⟩
 ·have hfn:X.fn x=true:=by
   rcases hf with z|z
   ·exact z
   ·rw[z]at hk;cases hk
  obtain⟨c,hc⟩:=I.ok.has x (.inl hk);obtain⟨w',z⟩:=I.cell x c hc;refine wpAny_storeName_cell I.ok.kind hk hc z (fun h' hc' hs=> ?_);obtain⟨oc,hoc,hocd⟩:=id z;refine h {s with heap:=h'} ⟨I.ok,I.os,I.bare,⟨fun b o e n hb hx=> ?_,fun b o e n hb hx=> ?_,I.base.free,fun b o e hx=> ?_,I.base.tups,I.base.frzs,I.base.tbls⟩,⟨m,hn.sameBut hs (kO (cne x c hc)),fun j y v' e1 e2 e3=> ?_⟩,fun y c' e=> ?_,I.free,I.freeC,fun p hp=> ?_,tracked ⟨oc,hoc,I.freeC x c hc⟩ hs,by simpa using I.len⟩ ⟨c,hs,.inr hc⟩
  ·exact(hs.2 b (cQ (gC (cR e) (I.ok.cab x c hfn hc)))).trans (I.base.keep b o e n hb hx)
  ·obtain⟨sl,e1⟩:=I.base.slot b o e n hb hx;exact⟨sl,(hs.2 b (cQ (gC (cR e) (I.ok.cab x c hfn hc)))).trans e1⟩
  ·obtain⟨o',e1⟩:=I.base.there b o e hx;exact⟨o',(hs.2 b (cQ (gC (cR e) (I.ok.cab x c hfn hc)))).trans e1⟩
  ·by_cases hj:j=i
   ·subst hj;rw[hi]at e1;cases e1;rw[wdh hiσ]at e2;cases e2;exact⟨u,r,.inr ⟨.inl hk,c,hc,hc'⟩⟩
   ·rw[wdv (kO hj)]at e2;obtain⟨u',r',q⟩:=hl j y v' e1 e2 e3;refine⟨u',r',?_⟩;rcases q with q|⟨k,c',e,z'⟩
    ·exact .inl q
    ·refine .inr ⟨k,c',e,z'.sameBut hs ?_⟩;rintro rfl;exact hj (nodup_ix hN e1 (I.ok.inj _ _ _ e hc▸hi))
  ·by_cases hcc:c'=c
   ·subst hcc;exact⟨_,hc'⟩
   ·obtain⟨w2,z2⟩:=I.cell y c' e;exact⟨w2,z2.sameBut hs hcc⟩
  ·obtain⟨e,n,ne,nf,d⟩:=I.pin p hp;refine⟨(hs.2 p.1 ?_).trans e,n,ne,nf,d⟩;intro q;rw[q,hoc]at e;have q':oc=p.2:=uY e;exact d w' (by rw[<-q'];exact hocd)
theorem store_ok{M:Model}{A:χ}{E:L3}{i:Nat}{x:Str}{v:V}{u:ζ}{Q:Unit->η->Prop}(I:Inv X pins σ H s)(hN:X.N.Nodup)(hi:X.N[i]? =some x)(hx:Loc X.env.scope x)(r:RelV v u)(h:∀s',Inv X pins (σ.set i (some v)) H s'->Q () s')(hf:X.fn x=true\/X.env.scope.names.lookup x=some .local:=by first |exact .inl rfl|exact .inr rfl|assumption):wpAny M A (storeName X.env x u) Q E s:=
 store_ok2 I hN hi hx r (fun s' I' _=>h s' I') hf
theorem Inv.call'{s':η}{ch:List Addr}(I:Inv X pins σ H s)(ho:s'.os=s.os)(u:Un (frs X.stack) ch H H' s.heap s'.heap)(hok:HOk X.prog X.w H' s'.heap)(hg:AllBare s'.gens)(hch:∀b∈ch,(b∈X.ex\/X.s₀.heap.objs.size<=b)/\b≠X.env.locals/\(∀x c,X.env.cells.lookup x=some c->c≠b)/\∀p∈X.pn++pins,p.1≠b):Inv X pins σ H' s':=by
 obtain⟨h',g',d',t',o'⟩:=s';have e:o'=s.os:=ho;subst e;exact I.call (g':=g') (t':=t') (d':=d') u hok hg hch
end
abbrev XK:=ζ->Option Addr->Hp->Prop
abbrev St:=List (Option V)
abbrev VK:=V->Hp->Prop
abbrev TE:=St->Hp->VK->Prop
abbrev TT:=St->Hp->(Bool->Hp->Prop)->Prop
abbrev TA:=St->Hp->(List V->Hp->Prop)->Prop
structure Ends where
 nx:St->Hp->Prop
 rt:VK
 bk:St->Hp->Prop:=fun _ _=>False
 ct:St->Hp->Prop:=fun _ _=>False
abbrev TS:=Ends->St->Hp->Prop
def EP(X:Cx)(pins:L1)(σ:St)(Q:VK)(u:ζ)(s':η):Prop:=∃v H',Inv X pins σ H' s'/\RelV v u/\Q v H'
def TP(X:Cx)(pins:L1)(σ:St)(Q:Bool->Hp->Prop)(b:Bool)(s':η):Prop:=∃H',Inv X pins σ H' s'/\Q b H'
def AP(X:Cx)(pins:L1)(σ:St)(Q:List V->Hp->Prop)(us:List ζ)(s':η):Prop:=∃vs H',Inv X pins σ H' s'/\Vals vs us/\Q vs H'
def SP(X:Cx)(pins:L1)(D:Ends)(f:Flow)(s':η):Prop:=
 match f with
 | .next=>∃σ' H',Inv X pins σ' H' s'/\D.nx σ' H'
 | .brk=>∃σ' H',Inv X pins σ' H' s'/\D.bk σ' H'
 | .cont=>∃σ' H',Inv X pins σ' H' s'/\D.ct σ' H'
 | .ret u=>∃v σ' H',Inv X pins σ' H' s'/\RelV v u/\D.rt v H'
def PE(X:Cx)(e:Expr)(t:TE):Prop:=
 ∀(pins:L1) (s:η) (σ:St) (H:Hp) (Q:VK),Inv X pins σ H s->t σ H Q->wpAny (model X.prog X.w) X.A (eval e X.env) (EP X pins σ Q) X.xe s
def PT(X:Cx)(e:Expr)(t:TT):Prop:=
 ∀(pins:L1) (s:η) (σ:St) (H:Hp) (Q:Bool->Hp->Prop),Inv X pins σ H s->t σ H Q->wpAny (model X.prog X.w) X.A (isTrue e X.env (eval e X.env)) (TP X pins σ Q) X.xe s
def PW(X:Cx)(e:Expr)(t:TT):Prop:=
 ∀(whole:Sem ζ) (pins:L1) (s:η) (σ:St) (H:Hp) (Q:Bool->Hp->Prop),Inv X pins σ H s->t σ H Q->wpAny (model X.prog X.w) X.A (isTrue e X.env whole) (TP X pins σ Q) X.xe s
theorem PW.pt{X:Cx}{e:Expr}{t:TT}(h:PW X e t):PT X e t:=h _
def PA(X:Cx)(es:List Expr)(t:TA):Prop:=
 ∀(pos:Pos) (pins:L1) (s:η) (σ:St) (H:Hp) (Q:List V->Hp->Prop),Inv X pins σ H s->t σ H Q->wpAny (model X.prog X.w) X.A (spliced (backTo pos (starEach es X.env))) (AP X pins σ Q) X.xe s
def PS(X:Cx)(st:Stmt)(t:TS):Prop:=
 ∀(pins:L1) (s:η) (σ:St) (H:Hp) (D:Ends),Inv X pins σ H s->t D σ H->wpAny (model X.prog X.w) X.A (exec st X.env) (SP X pins D) X.xe s
def PSs(X:Cx)(st:List Stmt)(t:TS):Prop:=
 ∀(pins:L1) (s:η) (σ:St) (H:Hp) (D:Ends),Inv X pins σ H s->t D σ H->wpAny (model X.prog X.w) X.A (execs st X.env) (SP X pins D) X.xe s
theorem thn{α:Type}{t:Sem α}{Q Q':α->η->Prop}{M:Model}{A:χ}{E:L3}{s:η}(h:wpAny M A t Q E s)(hQ:∀a s,Q a s->Q' a s):wpAny M A t Q' E s:=yC h hQ fun _ _ x=>x
section
variable{X:Cx}
def tVar(i:Nat):TE:=fun σ H Q=>∃v,σ[i]? =some (some v)/\Q v H
def tC(v:V):TE:=fun _ H Q=>Q v H
theorem pe_var{i:Nat}{x:Str}{pos:Pos}(hN:X.N[i]? =some x)(hv:Vis X.env.scope x)(hd:(x==("__debug__":Str))=false:=by decide)(hcd:(x==("__classdict__":Str))=false:=by decide):PE X (.Name x pos) (tVar i):=by
 intro pins s σ H Q I h;obtain⟨v,e,h⟩:=h;obtain⟨m,hn,hl⟩:=I.loc;obtain⟨u,r,l⟩:=hl i x v hN e hv;have fin:EP X pins σ Q u s:=⟨v,H,I,r,h⟩;rcases l with⟨hk,hm⟩|⟨hk,c,hc,hcell⟩
 ·exact wpAny_Name (wpAny_loadName_local I.ok.kind hk hn hm fin) hd
 ·rcases hk with hk|hk
  ·exact wpAny_Name (wpAny_loadName_cell I.ok.kind hk hc hcell fin) hd
  ·exact wpAny_Name (wpAny_loadName_free I.ok.kind hk hc hcell fin hcd) hd
theorem aQ{i j pos}:PE X (.Constant (.int i) j pos) (tC (.int i)):=fun _ _ _ H _ I h=>wpAny_Constant_int ⟨.int i,H,I.tok _,⟨_,rfl⟩,h⟩
theorem pe_bl{b j pos}:PE X (.Constant (.bool b) j pos) (tC (.bl b)):=fun _ _ _ H _ I h=>Constant_bool ⟨.bl b,H,I,rfl,h⟩
theorem pe_non{j pos}:PE X (.Constant .none j pos) (tC .non):=fun _ _ _ H _ I h=>Constant_none ⟨.non,H,I,rfl,h⟩
theorem pe_str{x j pos}:PE X (.Constant (.str x) j pos) (tC (.str x)):=fun _ _ _ H _ I h=>Calls.Constant_str ⟨.str x,H,I.tok _,⟨_,rfl⟩,h⟩
def Gl(X:Cx)(x:Str):Prop:=X.env.kindOf x=some .globalImplicit
theorem ld_glob{E:L3}{pins:L1}{s:η}{σ:St}{H:Hp}{x:Str}{u:ζ}{pos:Pos}{Q:L3}(I:Inv X pins σ H s)(hg:Gl X x)(hm:X.mg x=some u)(h:Q u s)(hd:(x==("__debug__":Str))=false:=by decide):wpAny (model X.prog X.w) X.A (eval (.Name x pos) X.env) Q E s:=
 Calls.Name_function_global I.ok.kind hg (Calls.loadGlobal_global (by rw[I.ok.glob];exact I.mod.glob.keeps I.bk) hm h) hd
theorem yt{E:L3}{pins:L1}{s:η}{σ:St}{H:Hp}{x:Str}{u:ζ}{pos:Pos}{Q:L3}(I:Inv X pins σ H s)(hg:Gl X x)(hm:X.mg x=none)(hv:bootBuiltins x=some u)(h:Q u s)(hn:x≠"__name__":=by decide)(hd:(x==("__debug__":Str))=false:=by decide):wpAny (model X.prog X.w) X.A (eval (.Name x pos) X.env) Q E s:=by
 obtain⟨mb,h1,h2⟩:=I.mod.blt;exact Calls.Name_function_global I.ok.kind hg (Calls.loadGlobal_builtin (by rw[I.ok.glob];exact I.mod.glob.keeps I.bk) hm (by rw[I.ok.blt];exact h1.keeps I.bk) ((h2 x hn).trans hv) h) hd
theorem Hw{x:Str}{v:V}{u:ζ}{pos:Pos}(hg:Gl X x)(hm:X.mg x=some u)(r:RelV v u)(hd:(x==("__debug__":Str))=false:=by decide):PE X (.Name x pos) (tC v):=
 fun _ _ _ H _ I h=>ld_glob I hg hm ⟨v,H,I,r,h⟩ hd
theorem pe_bltn{x:Str}{v:V}{u:ζ}{pos:Pos}(hg:Gl X x)(hm:X.mg x=none)(hv:bootBuiltins x=some u)(r:RelV v u)(hn:x≠"__name__":=by decide)(hd:(x==("__debug__":Str))=false:=by decide):PE X (.Name x pos) (tC v):=
 fun _ _ _ H _ I h=>yt I hg hm hv ⟨v,H,I,r,h⟩ hn hd
theorem pN{x:Str}{pos:Pos}(T:String)(hm:X.mg x=none)(hv:bootBuiltins x=some (.type T):=by decide+kernel)(hg:Gl X x:=by rfl)(hn:x≠"__name__":=by decide)(hd:(x==("__debug__":Str))=false:=by decide):PE X (.Name x pos) (tC (.ty T)):=pe_bltn hg hm hv rfl hn hd
variable{a b:Expr}{ta tb:TE}{pos:Pos}
def tB(t:TE):TT:=fun σ H Q=>t σ H fun x H1=>∃c,x= .bl c/\Q c H1
theorem yG{e:Expr}{t:TE}(h:PE X e t)(he:∀whole,isTrue e X.env whole=(do let v<-whole;standAt e.pos;holding [v] (truthy v)):=by intro _;rfl):PT X e (tB t):=by
 intro pins s σ H Q I hw;refine isTrue_plain (thn (h pins s σ H _ I hw) fun v s1 ⟨x,H1,I1,r1,q1⟩=> ?_) (he _);obtain⟨d,rfl,q⟩:=q1;cases r1;exact JZ ⟨H1,I1,q⟩
variable{tA tB':TT}{rest:List Expr}
def tAnd(t u:TT):TT:=fun σ H Q=>t σ H fun c H1=>if c=true then u σ H1 Q else Q false H1
def tOr(t u:TT):TT:=fun σ H Q=>t σ H fun c H1=>if c=true then Q true H1 else u σ H1 Q
def tNot(t:TT):TT:=fun σ H Q=>t σ H fun c H1=>Q (!c) H1
theorem pw_and1(ha:PT X a tA):PW X (.BoolOp .And [a] pos) tA:=by
 intro wh pins s σ H Q I h;refine isTrue_and (thn (ha pins s σ H Q I h) fun c s1 e=> ?_);cases c with
 |true=>exact isTrue_and_nil e
 |false=>exact e
theorem pw_or1(ha:PT X a tA):PW X (.BoolOp .Or [a] pos) tA:=by
 intro wh pins s σ H Q I h;refine isTrue_or (thn (ha pins s σ H Q I h) fun c s1 e=> ?_);cases c with
 |false=>exact isTrue_or_nil e
 |true=>exact e
theorem pw_and(ha:PT X a tA)(hb:PW X (.BoolOp .And (b::rest) pos) tB'):PW X (.BoolOp .And (a::b::rest) pos) (tAnd tA tB'):=by
 intro wh pins s σ H Q I h;refine isTrue_and (thn (ha pins s σ H _ I h) fun c s1 ⟨H1,I1,q1⟩=> ?_);cases c with
 |true=>exact hb wh pins s1 σ H1 Q I1 q1
 |false=>exact⟨H1,I1,q1⟩
theorem pw_or(ha:PT X a tA)(hb:PW X (.BoolOp .Or (b::rest) pos) tB'):PW X (.BoolOp .Or (a::b::rest) pos) (tOr tA tB'):=by
 intro wh pins s σ H Q I h;refine isTrue_or (thn (ha pins s σ H _ I h) fun c s1 ⟨H1,I1,q1⟩=> ?_);cases c with
 |true=>exact⟨H1,I1,q1⟩
 |false=>exact hb wh pins s1 σ H1 Q I1 q1
theorem yF(ha:PT X a tA):PT X (.UnaryOp .Not a pos) (tNot tA):=by
 intro pins s σ H Q I h;exact isTrue_not (ha pins s σ H (fun c H1=>Q (!c) H1) I h)
def tAndV(ta tb:TE):TE:=fun σ H Q=>ta σ H fun x H1=>∃c,x= .bl c/\if c=true then tb σ H1 Q else Q (.bl false) H1
def tOrV(ta tb:TE):TE:=fun σ H Q=>ta σ H fun x H1=>∃c,x= .bl c/\if c=true then Q (.bl true) H1 else tb σ H1 Q
def tNotV(ta:TE):TE:=fun σ H Q=>ta σ H fun x H1=>∃c,x= .bl c/\Q (.bl (!c)) H1
theorem pe_one{op}{t:TE}(h:PE X a t):PE X (.BoolOp op [a] pos) t:=fun pins s σ H Q I hw=>BoolOp_one (h pins s σ H Q I hw)
theorem pe_and(ha:PE X a ta)(hb:PE X (.BoolOp .And (b::rest) pos) tb):PE X (.BoolOp .And (a::b::rest) pos) (tAndV ta tb):=by
 intro pins s σ H Q I h;refine BoolOp_and (thn (ha pins s σ H _ I h) fun v s1 ⟨x,H1,I1,r1,q1⟩=> ?_);obtain⟨c,rfl,q1⟩:=q1;cases r1;refine JZ ?_;cases c with
 |true=>exact hb pins s1 σ H1 Q I1 q1
 |false=>exact⟨.bl false,H1,I1,rfl,q1⟩
theorem pe_or(ha:PE X a ta)(hb:PE X (.BoolOp .Or (b::rest) pos) tb):PE X (.BoolOp .Or (a::b::rest) pos) (tOrV ta tb):=by
 intro pins s σ H Q I h;refine BoolOp_or (thn (ha pins s σ H _ I h) fun v s1 ⟨x,H1,I1,r1,q1⟩=> ?_);obtain⟨c,rfl,q1⟩:=q1;cases r1;refine JZ ?_;cases c with
 |false=>exact hb pins s1 σ H1 Q I1 q1
 |true=>exact⟨.bl true,H1,I1,rfl,q1⟩
theorem pe_not(ha:PE X a ta):PE X (.UnaryOp .Not a pos) (tNotV ta):=by
 intro pins s σ H Q I h;refine UnaryOp_ (thn (ha pins s σ H _ I h) fun v s1 ⟨x,H1,I1,r1,q1⟩=> ?_);obtain⟨c,rfl,q1⟩:=q1;cases r1;exact not_of (JZ ⟨.bl (!c),H1,I1,rfl,q1⟩)
def tIf(t:TT)(ta tb:TE):TE:=fun σ H Q=>t σ H fun c H1=>if c=true then ta σ H1 Q else tb σ H1 Q
theorem pe_ifExp{c:Expr}(hc:PT X c tA)(ha:PE X a ta)(hb:PE X b tb):PE X (.IfExp c a b pos) (tIf tA ta tb):=by
 intro pins s σ H Q I h;refine wpAny_IfExp (thn (hc pins s σ H _ I h) fun d s1 ⟨H1,I1,q1⟩=> ?_);cases d with
 |true=>exact ha pins s1 σ H1 Q I1 q1
 |false=>exact hb pins s1 σ H1 Q I1 q1
end
def SqL(K:W.Frag)(H:Hp)(a:Addr)(xs:List V):Prop:=
 Rd H a (.lst xs)\/
  ∃(o:Obj) (its:Array ζ) (n:Nat),K.lookup a=some o/\o.cls= .type "list"/\o.dict=none/\o.data= .seq its n/\its.size<=sizeLine/\Vals xs its.toList
def SqT(K:W.Frag)(H:Hp)(a:Addr)(xs:List V):Prop:=
 Rd H a (.tup xs)\/
  ∃(o:Obj) (its:Array ζ) (n:Nat),K.lookup a=some o/\o.cls= .type "tuple"/\o.data= .seq its n/\its.size<=sizeLine/\Vals xs its.toList
def absV:ζ->Option V
 | .none=>some .non
 | .bool b=>some (.bl b)
 | .int i _=>some (.int i)
 | .str x _=>some (.str x)
 | .bytes b _=>some (.byt b)
 | .float b _=>some (.flt b)
 | .ref a=>some (.ref a)
 | .type n=>some (.ty n)
 |_=>none
theorem RelV.abs{x:V}{u:ζ}(r:RelV x u):absV u=some x:=by
 cases x with
 |non=>cases r;rfl
 |bl _=>cases r;rfl
 |int _=>obtain⟨t,rfl⟩:=r;rfl
 |str _=>obtain⟨t,rfl⟩:=r;rfl
 |byt _=>obtain⟨t,rfl⟩:=r;rfl
 |flt _=>obtain⟨t,rfl⟩:=r;rfl
 |ref _=>cases r;rfl
 |ty _=>cases r;rfl
theorem RelV.inj{x y:V}{u:ζ}(r:RelV x u)(q:RelV y u):x=y:=uY (r.abs.symm.trans q.abs)
theorem Vals.inj{xs ys:List V}{us:List ζ}(h:Vals xs us)(h':Vals ys us):xs=ys:=by
 induction h generalizing ys with
 |nil=>cases h';rfl
 |cons r _ ih=>cases h' with |cons r' t'=>rw[r.inj r',ih t']
section
variable{X:Cx}{pins:L1}{σ:St}{H:Hp}{s:η}{a:Addr}{xs ys:List V}
theorem SqL.of{K:W.Frag}(h:H a=some (.lst xs)):SqL K H a xs:= .inl (.inl h)
theorem SqT.of{K:W.Frag}(h:H a=some (.tup xs)):SqT K H a xs:= .inl (.inl h)
theorem Inv.list(I:Inv X pins σ H s)(h:SqL X.K H a xs):∃its:List ζ,Vals xs its/\PlainL s.heap a its.toArray/\xs.length<=sizeLine:=by
 rcases h with h|⟨o,its,n,hk,hc,hd,hs,hz,r⟩
 ·obtain⟨z,its,n,r,e⟩:=h.ok I.hok;exact⟨its,r,⟨_,n,e,rfl,rfl,rfl⟩,z⟩
 ·refine⟨its.toList,r,⟨o,n,I.kIn a o hk,hc,hd,by simpa using hs⟩,?_⟩;have e:=r.length;simp only[sJ]at e;omega
theorem Inv.tuple(I:Inv X pins σ H s)(h:SqT X.K H a xs):∃its:List ζ,Vals xs its/\IsTup s.heap a its.toArray/\xs.length<=sizeLine:=by
 rcases h with h|⟨o,its,n,hk,hc,hs,hz,r⟩
 ·obtain⟨z,its,r,p⟩:=h.ok I.hok;exact⟨its,r,p,z⟩
 ·refine⟨its.toList,r,⟨o,I.kIn a o hk,hc,n,by simpa using hs⟩,?_⟩;have e:=r.length;simp only[sJ]at e;omega
theorem Inv.list_inj(I:Inv X pins σ H s)(h:SqL X.K H a xs)(h':SqL X.K H a ys):xs=ys:=by
 obtain⟨its,r,⟨o,n,e,_,_,d⟩,_⟩:=I.list h;obtain⟨its',r',⟨o',n',e',_,_,d'⟩,_⟩:=I.list h';rw[e]at e';cases e';rw[d]at d';injection d' with d1 _
 have:its=its':=by simpa using iD Array.toList d1
 subst this;exact r.inj r'
theorem Inv.tuple_inj(I:Inv X pins σ H s)(h:SqT X.K H a xs)(h':SqT X.K H a ys):xs=ys:=by
 obtain⟨its,r,⟨o,e,_,n,d⟩,_⟩:=I.tuple h;obtain⟨its',r',⟨o',e',_,n',d'⟩,_⟩:=I.tuple h';rw[e]at e';cases e';rw[d]at d';injection d' with d1 _
 have:its=its':=by simpa using iD Array.toList d1
 subst this;exact r.inj r'
end
noncomputable abbrev Cx.wish(X:Cx)(E:L3):Cx:={X with xe:=E}
noncomputable abbrev Cx.nox(X:Cx):Cx:=X.wish fun _ _=>False
theorem Cx.Ok.wish{X:Cx}(ok:X.Ok)(E:L3):(X.wish E).Ok:=
 ⟨ok.mod,ok.kind,ok.glob,ok.blt,ok.above,ok.inj,ok.has,ok.cab,ok.hd,ok.frames,ok.stk,ok.exf,ok.bs,ok.bsz,ok.noex,ok.exfs,ok.funs,ok.frf⟩
theorem Cx.Ok.unwish{X:Cx}{E:L3}(ok:(X.wish E).Ok):X.Ok:=
 ⟨ok.mod,ok.kind,ok.glob,ok.blt,ok.above,ok.inj,ok.has,ok.cab,ok.hd,ok.frames,ok.stk,ok.exf,ok.bs,ok.bsz,ok.noex,ok.exfs,ok.funs,ok.frf⟩
section
variable{X:Cx}{pins:L1}{σ:St}{H:Hp}{s:η}{E:L3}
theorem Inv.wish(I:Inv X pins σ H s)(E:L3):Inv (X.wish E) pins σ H s:=⟨I.ok.wish E,I.os,I.bare,I.base,I.loc,I.cell,I.free,I.freeC,I.pin,I.hok,I.len⟩
theorem Inv.unwish(I:Inv (X.wish E) pins σ H s):Inv X pins σ H s:=⟨I.ok.unwish,I.os,I.bare,I.base,I.loc,I.cell,I.free,I.freeC,I.pin,I.hok,I.len⟩
theorem SP.unwish{D:Ends}{f:Flow}{s':η}(h:SP (X.wish E) pins D f s'):SP X pins D f s':=by
 cases f with
 |next=>obtain⟨σ',H',I,q⟩:=h;exact⟨σ',H',I.unwish,q⟩
 |brk=>obtain⟨σ',H',I,q⟩:=h;exact⟨σ',H',I.unwish,q⟩
 |cont=>obtain⟨σ',H',I,q⟩:=h;exact⟨σ',H',I.unwish,q⟩
 |ret u=>obtain⟨v,σ',H',I,r,q⟩:=h;exact⟨v,σ',H',I.unwish,r,q⟩
theorem PSs.nox{st:List Stmt}{t:TS}(h:PSs X.nox st t):PSs X st t:=fun pins s σ H D I hw=>
 yC (h pins s σ H D (I.wish _) hw) (fun _ _ q=>q.unwish) fun _ _ z=>False.elim z
end
section
variable{X:Cx}{st:Stmt}{rest:List Stmt}{t u:TS}{e:Expr}{te:TE}{pos:Pos}
def tNext:TS:=fun D σ H=>D.nx σ H
def tSeq(t u:TS):TS:=fun D σ H=>t {D with nx:=u D} σ H
theorem qX:PSs X [] tNext:=fun _ _ σ H _ I h=>YD ⟨σ,H,I,h⟩
theorem aP(h1:PS X st t)(h2:PSs X rest u):PSs X (st::rest) (tSeq t u):=by
 intro pins s σ H D I h;refine wgb (thn (h1 pins s σ H {D with nx:=u D} I h) fun f s1 q=> ?_);cases f with
 |next=>
  obtain⟨σ',H',I',q⟩:=q;exact h2 pins s1 σ' H' D I' q
 |ret v=>exact q
 |brk=>exact q
 |cont=>exact q
theorem bw(h1:PS X st t):PSs X [st] t:=by
 intro pins s σ H D I h;refine wgb (thn (h1 pins s σ H D I h) fun f s1 q=> ?_);cases f with
 |next=>exact YD q
 |ret v=>exact q
 |brk=>exact q
 |cont=>exact q
theorem Inv.quiet{pins:L1}{σ:St}{H:Hp}{s:η}(I:Inv X pins σ H s):interactive X.env=false:=by simp[interactive,I.ok.kind]
def tDrop(te:TE):TS:=fun D σ H=>te σ H fun _ H1=>D.nx σ H1
theorem sH(he:PE X e te)(hs:swapsWith e none pos.line X.env=pure false:=by rfl):PS X (.Expr e pos) (tDrop te):=by
 intro pins s σ H D I h;exact wpAny_Expr_any (thn (he pins s σ H _ I h) fun v s1 ⟨x,H1,I1,r1,q1⟩=>⟨σ,H1,I1,q1⟩) I.quiet hs
def tRet(te:TE):TS:=fun D σ H=>te σ H D.rt
theorem cT(he:PE X e te):PS X (.Return (some e) pos) (tRet te):=by
 intro pins s σ H D I h;exact wpAny_Return_some (thn (he pins s σ H _ I h) fun v s1 ⟨x,H1,I1,r1,q1⟩=>⟨x,σ,H1,I1,r1,q1⟩)
def tIfS(c:TT)(t u:TS):TS:=fun D σ H=>c σ H fun b H1=>if b=true then t D σ H1 else u D σ H1
theorem qW{c:Expr}{a b:List Stmt}{tc:TT}(hc:PT X c tc)(ha:PSs X a t)(hb:PSs X b u):PS X (.If c a b pos) (tIfS tc t u):=by
 intro pins s σ H D I h;refine wpAny_If (thn (hc pins s σ H _ I h) fun d s1 ⟨H1,I1,q1⟩=> ?_);cases d with
 |true=>exact ha pins s1 σ H1 D I1 q1
 |false=>exact hb pins s1 σ H1 D I1 q1
def tNever:TS:=fun _ _ _=>False
theorem Vv{sts:List Stmt}:PSs X sts tNever:=fun _ _ _ _ _ _ h=>h.elim
end
abbrev TG:=V->St->Hp->(St->Hp->Prop)->Prop
abbrev TGs:=List V->St->Hp->(St->Hp->Prop)->Prop
def PG(X:Cx)(target:Expr)(t:TG):Prop:=
 ∀(pins:L1) (s:η) (σ:St) (H:Hp) (v:V) (u:ζ) (Q:St->Hp->Prop),Inv X pins σ H s->RelV v u->t v σ H Q->
  wpAny (model X.prog X.w) X.A (assign target X.env u) (fun _ s'=>∃σ' H',Inv X pins σ' H' s'/\Q σ' H') X.xe s
def PGs(X:Cx)(ts:List Expr)(t:TGs):Prop:=
 ∀(pins:L1) (s:η) (σ:St) (H:Hp) (vs:List V) (us:List ζ) (Q:St->Hp->Prop),Inv X pins σ H s->Vals vs us->t vs σ H Q->
  wpAny (model X.prog X.w) X.A (assignInOrder ((assignEach ts X.env).map (·.2)) us) (fun _ s'=>∃σ' H',Inv X pins σ' H' s'/\Q σ' H') X.xe s
abbrev TSet:=V->V->V->Hp->(Hp->Prop)->Prop
def PSet(X:Cx)(t:TSet):Prop:=
 ∀(pins:L1) (s:η) (σ:St) (H:Hp) (o i v:V) (ov iv u:ζ) (Q:Hp->Prop),Inv X pins σ H s->RelV o ov->RelV i iv->RelV v u->t o i v H Q->
  wpAny (model X.prog X.w) X.A (setItem ov iv u) (fun _ s'=>∃H',Inv X pins σ H' s'/\Q H') X.xe s
abbrev TIp:=V->V->Hp->VK->Prop
def PIp(X:Cx)(op:Operator)(t:TIp):Prop:=
 ∀(pins:L1) (s:η) (σ:St) (H:Hp) (x y:V) (v u:ζ) (Q:VK),Inv X pins σ H s->RelV x v->RelV y u->t x y H Q->
  wpAny (model X.prog X.w) X.A (inplaceOp op v u) (EP X pins σ Q) X.xe s
section
variable{X:Cx}{pos:Pos}
def gName(i:Nat):TG:=fun v σ H Q=>Q (σ.set i (some v)) H
theorem pg_name{i:Nat}{x:Str}(hN:X.N.Nodup)(hi:X.N[i]? =some x)(hx:Loc X.env.scope x)(hf:X.fn x=true\/X.env.scope.names.lookup x=some .local:=by first |exact .inl rfl|exact .inr rfl|assumption):PG X (.Name x pos) (gName i):=by
 intro pins s σ H v u Q I r h;exact wpAny_assign_Name (store_ok I hN hi hx r (fun s' I'=>⟨_,H,I',h⟩) hf)
theorem pG{X:Cx}{x:Str}{pos:Pos}(i:Nat)(hN:decide X.N.Nodup=true:=by kernel_rfl)(hi:X.N[i]? =some x:=by rfl)(hx:Loc X.env.scope x:=by first |exact Or.inl rfl|exact Or.inr rfl)(hf:X.fn x=true\/X.env.scope.names.lookup x=some .local:=by first |exact .inl rfl|exact .inr rfl|assumption):PG X (.Name x pos) (gName i):=pg_name (sS hN) hi hx hf
def gNil:TGs:=fun vs σ H Q=>vs=[]/\Q σ H
def gCons(t:TG)(u:TGs):TGs:=fun vs σ H Q=>∃v r,vs=v::r/\t v σ H fun σ' H'=>u r σ' H' Q
theorem JT:PGs X [] gNil:=by
 intro pins s σ H vs us Q I r h;obtain⟨e,h⟩:=h;subst e;cases r;exact assignInOrder_nil ⟨σ,H,I,h⟩
theorem qY{e:Expr}{es:List Expr}{t:TG}{u:TGs}(h1:PG X e t)(h2:PGs X es u)(hs:(assignEach (e::es) X.env).map (·.2)=assign e X.env::(assignEach es X.env).map (·.2):=by rfl):PGs X (e::es) (gCons t u):=by
 intro pins s σ H vs us Q I r h;obtain⟨v,vr,e1,h⟩:=h;subst e1;cases r with
 |cons r rr=>
  rw[hs];refine assignInOrder_cons (thn (h1 pins s σ H _ _ _ I r h) fun _ s1 ⟨σ1,H1,I1,q1⟩=> ?_);exact h2 pins s1 σ1 H1 _ _ Q I1 rr q1
def gTup(K:W.Frag)(n:Nat)(t:TGs):TG:=fun v σ H Q=>∃a xs,v= .ref a/\SqT K H a xs/\xs.length=n/\t xs σ H Q
theorem pg_tup{es:List Expr}{k:Nat}{t:TGs}{n:Nat}(hc:X.calm=true)(h:PGs X es t)(hn:(assignEach es X.env).length=n:=by rfl)(hst:(assignEach es X.env).findIdx? (·.1)=none:=by rfl):PG X (.Tuple es k pos) (gTup X.K n t):=by
 intro pins s σ H v u Q I r hw;obtain⟨a,xs,e1,hq,hl,hw⟩:=hw;subst e1;cases r;obtain⟨its,rv,ht,hz⟩:=I.tuple hq;refine assign_Tuple_tuple (I.ok.hd hc) ht (by simp[hn,<-hl,rv.length]) hst fun h' hx=> ?_;have I1:Inv X pins σ H {s with heap:=h'}:=I.kept (t':=s.toks) fun b o e=>hx b o (cQ (cR e)) e;exact h pins _ σ H xs _ Q I1 (by simpa using rv) hw
def gSub(to ti:TE)(t:TSet):TG:=fun v σ H Q=>to σ H fun o H1=>ti σ H1 fun i H2=>t o i v H2 fun H3=>Q σ H3
theorem pg_sub{o i:Expr}{to ti:TE}{t:TSet}(ho:PE X o to)(hi:PE X i ti)(hs:PSet X t)(ha:∀v,assign (.Subscript o i pos) X.env v=(do
   let ov<-holding [v] (eval o X.env);let iv<-holding [v,ov] (eval i X.env)
   standAt pos
   holding [v,ov,iv] (setItem ov iv v)
   release [v,ov,iv] []):=by intro _;rfl):PG X (.Subscript o i pos) (gSub to ti t):=by
 intro pins s σ H v u Q I r h;rw[ha];refine ao (uX (thn (ho pins s σ H _ I h) fun ov s1 ⟨x,H1,I1,r1,q1⟩=> ?_));refine ao (uX (thn (hi pins s1 σ H1 _ I1 q1) fun iv s2 ⟨y,H2,I2,r2,q2⟩=> ?_));refine ao (wpAny_standAt (ao (uX (thn (hs pins s2 σ H2 x y v ov iv u _ I2 r1 r2 r q2) fun _ s3 ⟨H3,I3,q3⟩=> ?_))));exact wpAny_release ⟨σ,H3,I3,q3⟩
def tAsg(te:TE)(g:TG):TS:=fun D σ H=>te σ H fun x H1=>g x σ H1 D.nx
theorem ps_asg{tg e:Expr}{te:TE}{g:TG}(he:PE X e te)(hg:PG X tg g)(hs:swapsWithSole [tg] e pos.line X.env=pure false:=by rfl)(hw:swappedStores [tg] e X.env=pure none:=by rfl)(h1:(assignEach [tg] X.env).map (·.2)=[assign tg X.env]:=by rfl):PS X (.Assign [tg] e pos) (tAsg te g):=by
 intro pins s σ H D I h;refine wpAny_Assign_stores (thn (he pins s σ H _ I h) fun v s1 ⟨x,H1,I1,r1,q1⟩=> ?_) hs hw;rw[h1];exact thn (hg pins s1 σ H1 x v _ I1 r1 q1) fun _ s2 q=>q
theorem ps_set{i:Nat}{x:Str}{e:Expr}{te:TE}{pos':Pos}(hN:X.N.Nodup)(hi:X.N[i]? =some x)(hx:Loc X.env.scope x)(he:PE X e te)(hs:swapsWith e (some (.Name x pos')) pos.line X.env=pure false:=by rfl)(hf:X.fn x=true\/X.env.scope.names.lookup x=some .local:=by first |exact .inl rfl|exact .inr rfl|assumption):
  PS X (.Assign [.Name x pos'] e pos) (tAsg te (gName i)):=by
 intro pins s σ H D I h;refine wpAny_Assign_Name (thn (he pins s σ H _ I h) fun v s1 ⟨y,H1,I1,r1,q1⟩=> ?_) hs;exact store_ok I1 hN hi hx r1 (fun s2 I2=>⟨_,H1,I2,q1⟩) hf
theorem pS{X:Cx}{x:Str}{e:Expr}{te:TE}{pos pos':Pos}(i:Nat)(he:PE X e te)(hN:decide X.N.Nodup=true:=by kernel_rfl)(hi:X.N[i]? =some x:=by rfl)(hx:Loc X.env.scope x:=by first |exact Or.inl rfl|exact Or.inr rfl)(hs:swapsWith e (some (.Name x pos')) pos.line X.env=pure false:=by rfl)(hf:X.fn x=true\/X.env.scope.names.lookup x=some .local:=by first |exact .inl rfl|exact .inr rfl|assumption):PS X (.Assign [.Name x pos'] e pos) (tAsg te (gName i)):=ps_set (sS hN) hi hx he hs hf
def tAug(i:Nat)(te:TE)(ti:TIp):TS:=fun D σ H=>∃x,σ[i]? =some (some x)/\te σ H fun y H1=>ti x y H1 fun z H2=>D.nx (σ.set i (some z)) H2
theorem ps_aug{i:Nat}{x:Str}{e:Expr}{te:TE}{op:Operator}{ti:TIp}{pos':Pos}(hN:X.N.Nodup)(hi:X.N[i]? =some x)(hx:Loc X.env.scope x)(he:PE X e te)(ho:PIp X op ti)(hf:X.fn x=true\/X.env.scope.names.lookup x=some .local:=by first |exact .inl rfl|exact .inr rfl|assumption):
  PS X (.AugAssign (.Name x pos') op e pos) (tAug i te ti):=by
 intro pins s σ H D I h;obtain⟨v,e1,h⟩:=h;obtain⟨m,hn,hl⟩:=I.loc;have vis:Vis X.env.scope x:=by rcases hx with k|k;exact .inl k;exact .inr (.inl k)
 obtain⟨u,r,l⟩:=hl i x v hi e1 vis;refine wpAny_AugAssign_Name ?_;have go:wpAny (model X.prog X.w) X.A (eval e X.env) (fun w s₂=>wpAny (model X.prog X.w) X.A (inplaceOp op u w) (fun r s₃=>wpAny (model X.prog X.w) X.A (storeName X.env x r) (fun _=>SP X pins D .next) X.xe s₃) X.xe s₂) X.xe s:=by
  refine thn (he pins s σ H _ I h) fun w s1 ⟨y,H1,I1,r1,q1⟩=> ?_;refine thn (ho pins s1 σ H1 v y u w _ I1 r r1 q1) fun z s2 ⟨zv,H2,I2,r2,q2⟩=> ?_;exact store_ok I2 hN hi hx r2 (fun s3 I3=>⟨_,H2,I3,q2⟩) hf
 rcases l with⟨hk,hm⟩|⟨hk,c,hc,hcell⟩
 ·exact wpAny_loadName_local I.ok.kind hk hn hm go
 ·rcases hk with hk|hk
  ·exact wpAny_loadName_cell I.ok.kind hk hc hcell go
  ·rcases hx with k|k
   ·have:X.env.scope.names.lookup x=some .free:=hk;rw[k]at this;cases this
   ·have:X.env.scope.names.lookup x=some .free:=hk;rw[k]at this;cases this
def ipI(f:Int->Int->Int):TIp:=fun x y H Q=>∃i j,x= .int i/\y= .int j/\Q (.int (f i j)) H
theorem ip_add:PIp X .Add (ipI fun i j=>i+j):=by
 intro pins s σ H x y v u Q I r1 r2 h;obtain⟨i,j,e1,e2,q⟩:=h;subst e1;subst e2;obtain⟨t,rfl⟩:=r1;obtain⟨t',rfl⟩:=r2;exact iadd_int ⟨.int _,H,I.tok _,⟨_,rfl⟩,q⟩
def tWhile(c:TT)(tb:TS):TS:=fun D σ H=>∃W:Nat->St->Hp->Prop,(∃m,W m σ H)/\∀m σ H,W m σ H->
 c σ H fun b H1=>if b=true then∃N:St->Hp->Prop,(∀σ' H',N σ' H'->∃m',m'<m/\W m' σ' H')/\tb {D with nx:=N,ct:=N,bk:=D.nx} σ H1 else D.nx σ H1
theorem ps_while{c:Expr}{body:List Stmt}{tc:TT}{tb:TS}(hp:PassesOwn (model X.prog X.w) X.A X.env X.xe)(hc:PT X c tc)(hb:PSs X body tb):PS X (.While c body [] pos) (tWhile tc tb):=by
 intro pins s σ H D I h;obtain⟨W,⟨m0,w0⟩,turn⟩:=h;refine wpAny_While (codeAny_whileLoop (fun n s'=>∃σ' H',Inv X pins σ' H' s'/\W n σ' H') ?_ m0 ⟨σ,H,I,w0⟩);rintro n s1 ⟨σ1,H1,I1,w1⟩;refine V2 hp (thn (hc pins s1 σ1 H1 _ I1 (turn n σ1 H1 w1)) fun b s2 ⟨H2,I2,q2⟩=> ?_);cases b with
 |true=>
  obtain⟨N,hN,q2⟩:=q2;rw[aB rfl];refine V2 hp (thn (hb pins s2 σ1 H2 _ I2 q2) fun f s3 q3=> ?_);cases f with
  |next=>
   obtain⟨σ3,H3,I3,n3⟩:=q3;obtain⟨m',hm,w3⟩:=hN σ3 H3 n3;exact⟨m',hm,σ3,H3,I3,w3⟩
  |cont=>
   obtain⟨σ3,H3,I3,n3⟩:=q3;obtain⟨m',hm,w3⟩:=hN σ3 H3 n3;exact⟨m',hm,σ3,H3,I3,w3⟩
  |brk=>exact q3
  |ret v=>exact q3
 |false=>
  rw[aq rN];exact YD ⟨σ1,H2,I2,q2⟩
end
structure It where
 go:Nat->Hp->Prop
 yld:Nat->Hp->V->Hp->Prop
 stop:Nat->Hp->Prop
def FpOk(X:Cx)(pins:L1)(H:Hp)(b:Addr):Prop:=
 H b=none/\b≠X.env.locals/\b∉X.fs/\(b∈X.ex\/X.s₀.heap.objs.size<=b)/\(∀x c,X.env.cells.lookup x=some c->c≠b)/\∀p∈X.pn++pins,p.1≠b
theorem Inv.fpOk{X:Cx}{pins:L1}{σ:St}{H H':Hp}{s:η}{b:Addr}(I:Inv X pins σ H s)(hb:s.heap.objs.size<=b)(hn:H' b=none):FpOk X pins H' b:=by
 refine⟨hn,Cp (gC I.lt hb),I.nofs hb,.inr (dO I.sz hb),fun x c e z=> ?_,fun p hp z=> ?_⟩
 ·obtain⟨v,q⟩:=I.cell x c e;exact absurd (gC q.lt (by rw[z];exact hb)) (uV _)
 ·exact absurd (gC (cR (I.pin p hp).1) (by rw[z];exact hb)) (uV _)
structure Turn(P:ρ)(w:υ)(K:W.Frag)(tg:Expr)(J:It)(fp:List Addr)(it:Addr)(tn:Nat->Heap->Prop):Prop where
 mem:it∈fp
 obj:∀i h,tn i h->∀b∈fp,∃o,h.get? b=some o/\∀v,o.data≠.cell v
 keep:∀i h h',tn i h->(∀b∈fp,∀o,h.get? b=some o->h'.get? b=some o)->tn i h'
 item:∀(X:Cx),X.prog=P->X.w=w->X.K=K->X.calm=true->∀(i:Nat) (pins:L1) (s:η) (σ:St) (H:Hp) (E:L3),Inv X pins σ H s->(∀b∈fp,FpOk X pins H b)->tn i s.heap->J.go i H->
  wpAny (model P w) X.A (pyNext (.ref it)) (fun r s1=>∃u,r=some u/\
   wpAny (model P w) X.A (letOwnedTupleGo tg (.ref it) u) (fun _ s2=>∃x H',Inv X pins σ H' s2/\RelV x u/\J.yld i H x H'/\tn (i+1) s2.heap/\∀b∈fp,H' b=none) E s1) E s
 done:∀(X:Cx),X.prog=P->X.w=w->X.K=K->X.calm=true->∀(i:Nat) (pins:L1) (s:η) (σ:St) (H:Hp) (E:L3),Inv X pins σ H s->(∀b∈fp,FpOk X pins H b)->tn i s.heap->J.stop i H->
  wpAny (model P w) X.A (pyNext (.ref it)) (fun r s1=>r=none/\Inv X pins σ H s1) E s
 self:∀(A:χ) (i:Nat) (s:η) (Q:L3) (E:L3),tn i s.heap->Q (.ref it) s->wpAny (model P w) A (pyIter (.ref it)) Q E s
abbrev TI:=St->Hp->(It->Hp->Prop)->Prop
def PIE(X:Cx)(pins:L1)(σ:St)(tg:Expr)(R:It->Hp->Prop)(itv:ζ)(s2:η):Prop:=
 ∃(it:Addr) (fp:List Addr) (tn:Nat->Heap->Prop) (J:It) (H':Hp),itv= .ref it/\Inv X pins σ H' s2/\Turn X.prog X.w X.K tg J fp it tn/\tn 0 s2.heap/\(∀b∈fp,FpOk X pins H' b)/\R J H'
def PI(X:Cx)(tg iter:Expr)(wi:TI):Prop:=
 ∀(pins:L1) (s:η) (σ:St) (H:Hp) (R:It->Hp->Prop),Inv X pins σ H s->wi σ H R->
  wpAny (model X.prog X.w) X.A (eval iter X.env) (fun v s1=>wpAny (model X.prog X.w) X.A (pyIter v) (PIE X pins σ tg R) X.xe s1) X.xe s
theorem go_of{M:Model}{A:χ}{E:L3}{s:η}{tg:Expr}{it:Addr}{u:ζ}{o:Obj}{n:String}{vs:Array ζ}{Q:Unit->η->Prop}(ho:s.heap.get? it=some o)(hc:o.cls= .type n)(hd:o.data= .fields vs)(hn:["enumerate","zip","dict_itemiterator","dict_reverseitemiterator","odict_iterator","itertools.zip_longest","itertools.pairwise"].contains n=false)(hQ:Q () s):wpAny M A (letOwnedTupleGo tg (.ref it) u) Q E s:=by
 unfold letOwnedTupleGo;cases tg<;>first
  |exact aK hQ
  |(cases u<;>first
    |exact aK hQ
    |(refine ao (Z8 ho ?_)
      rw[hc,hd];show wpAny M A (if(["enumerate","zip","dict_itemiterator","dict_reverseitemiterator","odict_iterator","itertools.zip_longest","itertools.pairwise"].contains n&&vs[0]? ==some (rawInt _))=true then _ else _) Q E s;rw[aq (by intro h;rw[hn,wgy]at h;cases h)];exact aK hQ))
noncomputable def Itl(K:W.Frag)(a:Addr):It:=
 ⟨fun i H=>∃xs x,SqL K H a xs/\xs[i]? =some x,fun i H x H'=>H'=H/\∀xs,SqL K H a xs->xs[i]? =some x,fun i H=>∃xs,SqL K H a xs/\xs.length<=i⟩
noncomputable def Itt(K:W.Frag)(a:Addr):It:=
 ⟨fun i H=>∃xs x,SqT K H a xs/\xs[i]? =some x,fun i H x H'=>H'=H/\∀xs,SqT K H a xs->xs[i]? =some x,fun i H=>∃xs,SqT K H a xs/\xs.length<=i⟩
noncomputable def Itr(lo:Int)(n:Nat):It:=⟨fun i _=>i<n,fun i H x H'=>H'=H/\x= .int (lo+i),fun i _=>n<=i⟩
theorem turn_list{P:ρ}{w:υ}{K:W.Frag}{tg:Expr}(a it:Addr):Turn P w K tg (Itl K a) [it] it (fun i h=>h.IsListIter it a i) where
 mem:=by simp
 obj:=fun i h st b hb=>by
  have e:b=it:=by simpa using hb
  subst e;obtain⟨o,e,c,d⟩:=st;exact⟨o,e,fun v z=>by rw[d]at z;cases z⟩
 keep:=fun i h h' st k=>st.at fun o e=>k it (by simp) o e
 item:=by
  intro X hP hw hK hc i pins s σ H E I hf st hg;subst hP hw hK;obtain⟨xs,x,hq,hx⟩:=hg;obtain⟨its,rv,p,hz⟩:=I.list hq;obtain⟨u,hu,ru⟩:=rv.get hx;obtain⟨f0,f1,f2,f3,f4,f5⟩:=hf it (by simp);refine wpAny_pyNext_list_item st p.isList (x:=u) (by simpa using hu) fun h' st' sb=> ?_;have I1:Inv X pins σ H {s with heap:=h'}:=I.turned (t':=s.toks) (fun b o hb e=>(sb.2 b hb).trans e) f0 f1 f3 f4 f5;obtain⟨o,e,c,d⟩:=id st';exact⟨u,rfl,go_of (s:={s with heap:=h'}) e c d (by decide) ⟨x,H,I1,ru,⟨rfl,fun ys hy=>by rw[I.list_inj hy hq];exact hx⟩,st',fun b hb=>(hf b hb).1⟩⟩
 done:=by
  intro X hP hw hK hc i pins s σ H E I hf st hg;subst hP hw hK;obtain⟨xs,hq,hx⟩:=hg;obtain⟨its,rv,p,hz⟩:=I.list hq;obtain⟨f0,f1,f2,f3,f4,f5⟩:=hf it (by simp);have hl:=rv.length;exact wpAny_pyNext_list_end (I.ok.hd hc) st p.isList (by simp;omega) fun h' eb=>⟨rfl,I.turned (t':=s.toks) (fun b o hb e=>eb b o hb e) f0 f1 f3 f4 f5⟩
 self:=fun _ _ _ _ _ st h=>wpAny_pyIter_listiter st h
theorem turn_tuple{P:ρ}{w:υ}{K:W.Frag}{tg:Expr}(a it:Addr):Turn P w K tg (Itt K a) [it] it (fun i h=>h.IsTupleIter it a i) where
 mem:=by simp
 obj:=fun i h st b hb=>by
  have e:b=it:=by simpa using hb
  subst e;obtain⟨o,e,c,d⟩:=st;exact⟨o,e,fun v z=>by rw[d]at z;cases z⟩
 keep:=fun i h h' st k=>st.at fun o e=>k it (by simp) o e
 item:=by
  intro X hP hw hK hc i pins s σ H E I hf st hg;subst hP hw hK;obtain⟨xs,x,hq,hx⟩:=hg;obtain⟨its,rv,p,hz⟩:=I.tuple hq;obtain⟨u,hu,ru⟩:=rv.get hx;obtain⟨f0,f1,f2,f3,f4,f5⟩:=hf it (by simp);refine wpAny_pyNext_tuple_item st (show s.heap.IsTuple a its.toArray from p) (x:=u) (by simpa using hu) fun h' st' sb=> ?_;have I1:Inv X pins σ H {s with heap:=h'}:=I.turned (t':=s.toks) (fun b o hb e=>(sb.2 b hb).trans e) f0 f1 f3 f4 f5;obtain⟨o,e,c,d⟩:=id st';exact⟨u,rfl,go_of (s:={s with heap:=h'}) e c d (by decide) ⟨x,H,I1,ru,⟨rfl,fun ys hy=>by rw[I.tuple_inj hy hq];exact hx⟩,st',fun b hb=>(hf b hb).1⟩⟩
 done:=by
  intro X hP hw hK hc i pins s σ H E I hf st hg;subst hP hw hK;obtain⟨xs,hq,hx⟩:=hg;obtain⟨its,rv,p,hz⟩:=I.tuple hq;obtain⟨f0,f1,f2,f3,f4,f5⟩:=hf it (by simp);have hl:=rv.length;exact wpAny_pyNext_tuple_end (I.ok.hd hc) st (show s.heap.IsTuple a its.toArray from p) (by simp;omega) fun h' eb=>⟨rfl,I.turned (t':=s.toks) (fun b o hb e=>eb b o hb e) f0 f1 f3 f4 f5⟩
 self:=fun _ _ _ _ _ st h=>wpAny_pyIter_tupleiter st h
theorem turn_range{P:ρ}{w:υ}{K:W.Frag}{tg:Expr}(it:Addr)(lo:Int)(n:Nat):Turn P w K tg (Itr lo n) [it] it (fun i h=>IsRangeIter h it (lo+(i:Nat)*1) ((n:Int)-(i:Nat)) 1) where
 mem:=by simp
 obj:=fun i h st b hb=>by
  have e:b=it:=by simpa using hb
  subst e;exact⟨_,st,fun v z=>by
   have z':Data.fields _=Data.cell v:=z;cases z'⟩
 keep:=fun i h h' st k=>k it (by simp) _ st
 item:=by
  intro X hP hw hK hc i pins s σ H E I hf st hg;subst hP hw hK;obtain⟨f0,f1,f2,f3,f4,f5⟩:=hf it (by simp);have W:=Walks.range (prog:=X.prog) (w:=X.w) (I.ok.hd hc) it lo 1 n;refine W.item i s _ _ hg st fun v h' tk hv st' kk=> ?_;obtain⟨t,rfl⟩:=hv;have I1:Inv X pins σ H {s with heap:=h',toks:=tk}:=I.turned (fun b o hb e=>kk b o (by simpa using hb) e) f0 f1 f3 f4 f5;refine⟨_,rfl,go_of (s:={s with heap:=h',toks:=tk}) (n:="range_iterator") st' rfl rfl (by decide) ⟨.int (lo+i),H,I1,⟨t,?_⟩,⟨rfl,rfl⟩,st',fun b hb=>(hf b hb).1⟩⟩;rw[whd]
 done:=by
  intro X hP hw hK hc i pins s σ H E I hf st hg;subst hP hw hK;obtain⟨f0,f1,f2,f3,f4,f5⟩:=hf it (by simp);exact wpAny_pyNext_range_end (I.ok.hd hc) st (by have:n<=i:=hg;omega) fun h' eb=>⟨rfl,I.turned (t':=s.toks) (fun b o hb e=>eb b o hb e) f0 f1 f3 f4 f5⟩
 self:=fun _ _ _ _ _ st h=>wpAny_pyIter_rangeiter st h
section
variable{X:Cx}{tg:Expr}
theorem range_it{pins:L1}{σ:St}{H:Hp}{s:η}{R:It->Hp->Prop}{E:L3}{lo hi:Int}{t u v:Tok}{tk:Nat}(I:Inv X pins σ H s)(h1: -(2^62)<=lo)(h2:lo<2^62)(h3: -(2^62)<=hi)(h4:hi<2^62)(q:R (Itr lo (hi-lo).toNat) H):wpAny (model X.prog X.w) X.A (pyIter (.ref s.heap.objs.size)) (PIE X pins σ tg R) E {s with heap:=s.heap.push {cls:= .type "range",data:= .fields #[.int lo t,.int hi u,.int 1 v]},toks:=tk}:=by
 refine wpAny_pyIter_range (whe ..) (small_one h1 h2 h3 h4) ?_;have I1:Inv X pins σ H {s with heap:=s.heap.push {cls:= .type "range",data:= .fields #[.int lo t,.int hi u,.int 1 v]},toks:=tk}:=I.kept fun b o e=>cV _ e;refine⟨(s.heap.push {cls:= .type "range",data:= .fields #[.int lo t,.int hi u,.int 1 v]}).objs.size,[(s.heap.push {cls:= .type "range",data:= .fields #[.int lo t,.int hi u,.int 1 v]}).objs.size],_,_,H,rfl,
  I1.kept (t':=tk) fun b o e=>cV _ e,turn_range _ lo (hi-lo).toNat,?_,fun b hb=> ?_,q⟩
 ·have e1:lo+((0:Nat):Int)*1=lo:=by simp
  have e2:(((hi-lo).toNat:Nat):Int)-((0:Nat):Int)=Builtin.Range.rangeSize lo hi 1:=by rw[wfr];split<;>omega
  show IsRangeIter _ _ (lo+((0:Nat):Int)*1) ((((hi-lo).toNat:Nat):Int)-((0:Nat):Int)) 1;rw[e1,e2];exact gZ _ rfl
 ·have e:b=(s.heap.push {cls:= .type "range",data:= .fields #[.int lo t,.int hi u,.int 1 v]}).objs.size:=by simpa using hb
  subst e;exact I1.fpOk (aN _) (I1.hok.fresh (aN _))
def iRng1(ta:TA):TI:=fun σ H R=>ta σ H fun vs H1=>∃j:Int,vs=[.int j]/\ -(2^62)<=j/\j<2^62/\R (Itr 0 j.toNat) H1
def iRng2(ta:TA):TI:=fun σ H R=>ta σ H fun vs H1=>∃i j:Int,vs=[.int i,.int j]/\(-(2^62)<=i/\i<2^62/\ -(2^62)<=j/\j<2^62)/\R (Itr i (j-i).toNat) H1
theorem Fp{a:Expr}{ta:TA}{p pos:Pos}(hg:Gl X "range")(hm:X.mg "range"=none)(ha:PA X [a] ta)(hs:starEach [a] X.env=[(false,eval a X.env)]:=by rfl):PI X tg (.Call (.Name "range" p) [a] [] pos) (iRng1 ta):=by
 intro pins s σ H R I h;refine Call_ (yt I hg hm Z6 (Ia (thn (ha pos pins s σ H _ I h) fun us s1 ⟨vs,H1,I1,r1,q1⟩=> ?_) hs rfl));obtain⟨j,e,q1,q2,q⟩:=q1;subst e;cases r1 with
 |cons r rr=>
  cases rr;obtain⟨t,rfl⟩:=r;exact call_range_1 (range_it I1 (by omega) (by omega) q1 q2 (by simpa using q))
theorem pi_range2{a b:Expr}{ta:TA}{p pos:Pos}(hg:Gl X "range")(hm:X.mg "range"=none)(ha:PA X [a,b] ta)(hs:starEach [a,b] X.env=[(false,eval a X.env),(false,eval b X.env)]:=by rfl)(hs2:starEach [b] X.env=[(false,eval b X.env)]:=by rfl):
  PI X tg (.Call (.Name "range" p) [a,b] [] pos) (iRng2 ta):=by
 intro pins s σ H R I h;refine Call_ (yt I hg hm Z6 (Ia (thn (ha pos pins s σ H _ I h) fun us s1 ⟨vs,H1,I1,r1,q1⟩=> ?_) (by rw[hs,hs2]) (by rw[hs2];rfl)));obtain⟨i,j,e,⟨q1,q2,q3,q4⟩,q⟩:=q1;subst e;cases r1 with
 |cons r rr=>
  cases rr with
  |cons r' rr=>
   cases rr;obtain⟨t,rfl⟩:=r;obtain⟨t',rfl⟩:=r';exact call_range_2 (range_it I1 q1 q2 q3 q4 q)
def tFor(wi:TI)(g:TG)(tb:TS):TS:=fun D σ H=>wi σ H fun J H1=>∃W:Nat->Nat->St->Hp->Prop,(∃m,W 0 m σ H1)/\∀i m σ H,W i m σ H->
 (J.stop i H/\D.nx σ H)\/(J.go i H/\∃N:St->Hp->Prop,(∀σ' H',N σ' H'->∃m',m'<m/\W (i+1) m' σ' H')/\∀x H',J.yld i H x H'->g x σ H' fun σ2 H2=>tb {D with nx:=N,ct:=N,bk:=D.nx} σ2 H2)
noncomputable def pinsAt(fp:List Addr)(h:Heap):L1:=fp.filterMap fun b=>(h.get? b).map fun o=>(b,o)
theorem mem_pinsAt{fp:List Addr}{h:Heap}{b:Addr}{o:Obj}(hb:b∈fp)(e:h.get? b=some o):(b,o)∈pinsAt fp h:=List.mem_filterMap.mpr ⟨b,hb,by rw[e];rfl⟩
theorem of_pinsAt{fp:List Addr}{h:Heap}{p:Addr×Obj}(hp:p∈pinsAt fp h):p.1∈fp/\h.get? p.1=some p.2:=by
 obtain⟨b,hb,e⟩:=List.mem_filterMap.mp hp;cases q:h.get? b with
 |none=>rw[q]at e;cases e
 |some o=>
  rw[q]at e;have e':(b,o)=p:=uY e;subst e';exact⟨hb,q⟩
theorem Inv.pinned{pins:L1}{σ:St}{H:Hp}{s:η}{fp:List Addr}(I:Inv X pins σ H s)(hf:∀b∈fp,FpOk X pins H b)(ho:∀b∈fp,∃o,s.heap.get? b=some o/\∀v,o.data≠.cell v):Inv X (pins++pinsAt fp s.heap) σ H s:=
 I.pins_of fun p hp=>(g8.mp hp).elim (fun z=>I.pin p (jr _ z)) fun z=>by
  obtain⟨hb,e⟩:=of_pinsAt z;obtain⟨f0,f1,f2,_⟩:=hf p.1 hb;obtain⟨o,e',d⟩:=ho p.1 hb;rw[e]at e';cases e';exact⟨e,f0,f1,f2,d⟩
theorem Inv.unpinned{pins pl:L1}{σ:St}{H:Hp}{s:η}(I:Inv X (pins++pl) σ H s):Inv X pins σ H s:=I.pins_of fun p hp=>I.pin p (jr _ (Qs _ hp))
theorem u6{iter:Expr}{body:List Stmt}{wi:TI}{g:TG}{tb:TS}{pos:Pos}(hp:PassesOwn (model X.prog X.w) X.A X.env X.xe)(hc:X.calm=true)(hi:PI X tg iter wi)(hg:PG X tg g)(hb:PSs X body tb)(hs:∀x,foldedSetIterable iter X.env x=pure x:=by intro _;rfl):PS X (.For tg iter body [] pos) (tFor wi g tb):=by
 intro pins s σ H D I h;refine wpAny_For (thn (hi pins s σ H _ I h) fun v s1 h1=>thn h1 fun itv s2 h2=> ?_) hs;obtain⟨it,fp,tn,J,H2,e,I2,T,st2,f2,W,⟨m0,w0⟩,turn⟩:=h2;subst e
 -- what stays true of the iterator's objects through the loop
 have stat:∀{H':Hp},(∀b∈fp,H' b=none)->∀b∈fp,FpOk X pins H' b:=fun hn b hb=>⟨hn b hb,(f2 b hb).2⟩;refine codeAny_forLoop_any (fun n s'=>∃i σ' H',Inv X pins σ' H' s'/\tn i s'.heap/\(∀b∈fp,H' b=none)/\W i n σ' H') ?_ m0 ⟨0,σ,H2,I2,st2,fun b hb=>(f2 b hb).1,w0⟩;rintro n s3 ⟨i,σ3,H3,I3,st3,fr3,w3⟩;rcases turn i n σ3 H3 w3 with⟨stop,qn⟩|⟨go,N,hN,step⟩
 ·refine V2 hp (thn (T.done X rfl rfl rfl hc i pins s3 σ3 H3 X.xe I3 (stat fr3) st3 stop) fun r s4 ⟨hr,I4⟩=> ?_);subst hr;exact YD ⟨σ3,H3,I4,qn⟩
 ·refine V2 hp (thn (T.item X rfl rfl rfl hc i pins s3 σ3 H3 X.xe I3 (stat fr3) st3 go) fun r s4 ⟨u,hr,h4⟩=> ?_);subst hr;refine V2 hp (thn h4 fun _ s5 ⟨x,H5,I5,r5,y5,st5,fr5⟩=> ?_);have I5':=I5.pinned (stat fr5) (T.obj _ _ st5);refine V2 hp (thn (hg _ s5 σ3 H5 x u _ I5' r5 (step x H5 y5)) fun _ s6 ⟨σ6,H6,I6,q6⟩=> ?_);refine V2 hp (thn (hb _ s6 σ6 H6 _ I6 q6) fun f s7 q7=> ?_);have again:∀{σ7:St} {H7:Hp},Inv X (pins++pinsAt fp s5.heap) σ7 H7 s7->N σ7 H7->∃m,m<n/\∃i σ' H',Inv X pins σ' H' s7/\tn i s7.heap/\(∀b∈fp,H' b=none)/\W i m σ' H':=fun{σ7 H7} I7 n7=>by
   obtain⟨m',hm,w7⟩:=hN σ7 H7 n7;refine⟨m',hm,i+1,σ7,H7,I7.unpinned,T.keep _ _ _ st5 fun b hb o e=>(I7.pin (b,o) (jr _ (jr _ (mem_pinsAt hb e)))).1,fun b hb=> ?_,w7⟩;obtain⟨o,e,d⟩:=T.obj _ _ st5 b hb;exact(I7.pin (b,o) (jr _ (jr _ (mem_pinsAt hb e)))).2.1
  cases f with
  |next=>obtain⟨σ7,H7,I7,n7⟩:=q7;exact again I7 n7
  |cont=>obtain⟨σ7,H7,I7,n7⟩:=q7;exact again I7 n7
  |brk=>obtain⟨σ7,H7,I7,q7⟩:=q7;exact⟨σ7,H7,I7.unpinned,q7⟩
  |ret v=>obtain⟨x7,σ7,H7,I7,r7,q7⟩:=q7;exact⟨x7,σ7,H7,I7.unpinned,r7,q7⟩
end
theorem QD{K:W.Frag}{a:Addr}{xs:List V}{g:TG}{tb:TS}{D:Ends}{σ:St}{H:Hp}(Pv:Nat->St->Hp->Prop)(h0:Pv 0 σ H)(hl:∀i σ H,i<=xs.length->Pv i σ H->SqL K H a xs)(hs:∀i x σ H,xs[i]? =some x->Pv i σ H->g x σ H fun σ2 H2=>tb {D with nx:=Pv (i+1),ct:=Pv (i+1),bk:=D.nx} σ2 H2)(hd:∀σ H,Pv xs.length σ H->D.nx σ H):
  ∃W:Nat->Nat->St->Hp->Prop,(∃m,W 0 m σ H)/\∀i m σ H,W i m σ H->
   ((Itl K a).stop i H/\D.nx σ H)\/((Itl K a).go i H/\∃N:St->Hp->Prop,(∀σ' H',N σ' H'->∃m',m'<m/\W (i+1) m' σ' H')/\∀x H',(Itl K a).yld i H x H'->g x σ H' fun σ2 H2=>tb {D with nx:=N,ct:=N,bk:=D.nx} σ2 H2):=by
 refine⟨fun i m σ H=>m=xs.length-i/\i<=xs.length/\Pv i σ H,⟨xs.length,by simp,dB _,h0⟩,?_⟩;rintro i m σ H ⟨rfl,hi,p⟩;have q:=hl i σ H hi p;by_cases hlt:i<xs.length
 ·refine .inr ⟨⟨xs,xs[i],q,by simp[hlt]⟩,Pv (i+1),fun σ' H' p'=>⟨xs.length-(i+1),by omega,rfl,hlt,p'⟩,fun x H' y=> ?_⟩;obtain⟨e,y⟩:=y;subst e;exact hs i x σ _ (y xs q) p
 ·have e:i=xs.length:=by omega
  subst e;exact .inl ⟨⟨xs,q,aN _⟩,hd σ H p⟩
theorem for_tup{K:W.Frag}{a:Addr}{xs:List V}{g:TG}{tb:TS}{D:Ends}{σ:St}{H:Hp}(Pv:Nat->St->Hp->Prop)(h0:Pv 0 σ H)(hl:∀i σ H,i<=xs.length->Pv i σ H->SqT K H a xs)(hs:∀i x σ H,xs[i]? =some x->Pv i σ H->g x σ H fun σ2 H2=>tb {D with nx:=Pv (i+1),ct:=Pv (i+1),bk:=D.nx} σ2 H2)(hd:∀σ H,Pv xs.length σ H->D.nx σ H):
  ∃W:Nat->Nat->St->Hp->Prop,(∃m,W 0 m σ H)/\∀i m σ H,W i m σ H->
   ((Itt K a).stop i H/\D.nx σ H)\/((Itt K a).go i H/\∃N:St->Hp->Prop,(∀σ' H',N σ' H'->∃m',m'<m/\W (i+1) m' σ' H')/\∀x H',(Itt K a).yld i H x H'->g x σ H' fun σ2 H2=>tb {D with nx:=N,ct:=N,bk:=D.nx} σ2 H2):=by
 refine⟨fun i m σ H=>m=xs.length-i/\i<=xs.length/\Pv i σ H,⟨xs.length,by simp,dB _,h0⟩,?_⟩;rintro i m σ H ⟨rfl,hi,p⟩;have q:=hl i σ H hi p;by_cases hlt:i<xs.length
 ·refine .inr ⟨⟨xs,xs[i],q,by simp[hlt]⟩,Pv (i+1),fun σ' H' p'=>⟨xs.length-(i+1),by omega,rfl,hlt,p'⟩,fun x H' y=> ?_⟩;obtain⟨e,y⟩:=y;subst e;exact hs i x σ _ (y xs q) p
 ·have e:i=xs.length:=by omega
  subst e;exact .inl ⟨⟨xs,q,aN _⟩,hd σ H p⟩
theorem Qn{lo:Int}{n:Nat}{g:TG}{tb:TS}{D:Ends}{σ:St}{H:Hp}(Pv:Nat->St->Hp->Prop)(h0:Pv 0 σ H)(hs:∀i σ H,i<n->Pv i σ H->g (.int (lo+i)) σ H fun σ2 H2=>tb {D with nx:=Pv (i+1),ct:=Pv (i+1),bk:=D.nx} σ2 H2)(hd:∀σ H,Pv n σ H->D.nx σ H):
  ∃W:Nat->Nat->St->Hp->Prop,(∃m,W 0 m σ H)/\∀i m σ H,W i m σ H->
   ((Itr lo n).stop i H/\D.nx σ H)\/((Itr lo n).go i H/\∃N:St->Hp->Prop,(∀σ' H',N σ' H'->∃m',m'<m/\W (i+1) m' σ' H')/\∀x H',(Itr lo n).yld i H x H'->g x σ H' fun σ2 H2=>tb {D with nx:=N,ct:=N,bk:=D.nx} σ2 H2):=by
 refine⟨fun i m σ H=>m=n-i/\i<=n/\Pv i σ H,⟨n,by simp,dB _,h0⟩,?_⟩;rintro i m σ H ⟨rfl,hi,p⟩;by_cases hlt:i<n
 ·refine .inr ⟨hlt,Pv (i+1),fun σ' H' p'=>⟨n-(i+1),by omega,rfl,hlt,p'⟩,fun x H' y=> ?_⟩;obtain⟨e,y⟩:=y;subst e y;exact hs i σ _ hlt p
 ·have e:i=n:=by omega
  subst e;exact .inl ⟨aN _,hd σ H p⟩
abbrev R2:=V->V->Hp->VK->Prop
def OpR(X:Cx)(f:ζ->ζ->Sem ζ)(r:R2):Prop:=
 ∀(pins:L1) (s:η) (σ:St) (H:Hp) (x y:V) (v u:ζ) (Q:VK),Inv X pins σ H s->RelV x v->RelV y u->r x y H Q->
  wpAny (model X.prog X.w) X.A (f v u) (EP X pins σ Q) X.xe s
def UnR(X:Cx)(f:ζ->Sem ζ)(r:V->Hp->VK->Prop):Prop:=
 ∀(pins:L1) (s:η) (σ:St) (H:Hp) (x:V) (v:ζ) (Q:VK),Inv X pins σ H s->RelV x v->r x H Q->
  wpAny (model X.prog X.w) X.A (f v) (EP X pins σ Q) X.xe s
def CallR(X:Cx)(f:ζ)(r:List V->Hp->VK->Prop):Prop:=
 ∀(pins:L1) (s:η) (σ:St) (H:Hp) (xs:List V) (us:List ζ) (Q:VK),Inv X pins σ H s->Vals xs us->r xs H Q->
  wpAny (model X.prog X.w) X.A (call f us) (EP X pins σ Q) X.xe s
def TruR(X:Cx)(r:V->Hp->(Bool->Hp->Prop)->Prop):Prop:=
 ∀(pins:L1) (s:η) (σ:St) (H:Hp) (x:V) (v:ζ) (Q:Bool->Hp->Prop),Inv X pins σ H s->RelV x v->r x H Q->
  wpAny (model X.prog X.w) X.A (truthy v) (TP X pins σ Q) X.xe s
def tOp(r:R2)(ta tb:TE):TE:=fun σ H Q=>ta σ H fun x H1=>tb σ H1 fun y H2=>r x y H2 Q
def tUn(r:V->Hp->VK->Prop)(ta:TE):TE:=fun σ H Q=>ta σ H fun x H1=>r x H1 Q
def rI(C:Int->Int->Prop)(g:Int->Int->V):R2:=fun x y H Q=>∃i j,x= .int i/\y= .int j/\C i j/\Q (g i j) H
def rI0(g:Int->Int->V):R2:=fun x y H Q=>∃i j,x= .int i/\y= .int j/\Q (g i j) H
def rU(g:Int->V):V->Hp->VK->Prop:=fun x H Q=>∃i,x= .int i/\Q (g i) H
section
variable{X:Cx}{a b:Expr}{ta tb:TE}{pos:Pos}
theorem binT(ha:PE X a ta)(hb:PE X b tb){pins:L1}{s:η}{σ:St}{H:Hp}{R:V->V->Hp->Prop}(I:Inv X pins σ H s)(h:ta σ H fun x H1=>tb σ H1 fun y H2=>R x y H2){Q:L3}{f:ζ->ζ->Sem ζ}(hf:∀v u s2 x y H2,Inv X pins σ H2 s2->RelV x v->RelV y u->R x y H2->wpAny (model X.prog X.w) X.A (f v u) Q X.xe s2):
  wpAny (model X.prog X.w) X.A (eval a X.env) (fun v s₁=>wpAny (model X.prog X.w) X.A (eval b X.env) (fun u s₂=>wpAny (model X.prog X.w) X.A (f v u) Q X.xe s₂) X.xe s₁) X.xe s:=by
 refine thn (ha pins s σ H _ I h) fun v s1 ⟨x,H1,I1,r1,q1⟩=> ?_;refine thn (hb pins s1 σ H1 _ I1 q1) fun u s2 ⟨y,H2,I2,r2,q2⟩=> ?_;exact hf v u s2 x y H2 I2 r1 r2 q2
theorem bJ{op:Operator}{r:R2}(ho:OpR X (binaryOp op) r)(ha:PE X a ta)(hb:PE X b tb):PE X (.BinOp a op b pos) (tOp r ta tb):=by
 intro pins s σ H Q I h;exact wpAny_BinOp (binT ha hb I h fun v u s2 x y H2 I2 rx ry q=>ho pins s2 σ H2 x y v u Q I2 rx ry q)
theorem pe_un{op:UnaryOp}{r:V->Hp->VK->Prop}(ho:UnR X (unaryOp op) r)(ha:PE X a ta):PE X (.UnaryOp op a pos) (tUn r ta):=by
 intro pins s σ H Q I h;exact UnaryOp_ (thn (ha pins s σ H _ I h) fun v s1 ⟨x,H1,I1,r1,q1⟩=>ho pins s1 σ H1 x v Q I1 r1 q1)
theorem opI{f:ζ->ζ->Sem ζ}{C:Int->Int->Prop}{g:Int->Int->Int}(rule:∀(i j:Int) (t u:Tok) (s:η) (Q:L3) (E:L3),C i j->Q (.int (g i j) s.toks) {s with toks:=s.toks+1}->wpAny (model X.prog X.w) X.A (f (.int i t) (.int j u)) Q E s):
  OpR X f (rI C fun i j=> .int (g i j)):=by
 intro pins s σ H x y v u Q I rx ry h;obtain⟨i,j,rfl,rfl,hc,q⟩:=h;obtain⟨t,rfl⟩:=rx;obtain⟨t',rfl⟩:=ry;exact rule i j t t' s _ _ hc ⟨.int (g i j),H,I.tok _,⟨_,rfl⟩,q⟩
theorem opI0{f:ζ->ζ->Sem ζ}{g:Int->Int->Int}(rule:∀(i j:Int) (t u:Tok) (s:η) (Q:L3) (E:L3),Q (.int (g i j) s.toks) {s with toks:=s.toks+1}->wpAny (model X.prog X.w) X.A (f (.int i t) (.int j u)) Q E s):
  OpR X f (rI0 fun i j=> .int (g i j)):=by
 intro pins s σ H x y v u Q I rx ry h;obtain⟨i,j,rfl,rfl,q⟩:=h;obtain⟨t,rfl⟩:=rx;obtain⟨t',rfl⟩:=ry;exact rule i j t t' s _ _ ⟨.int (g i j),H,I.tok _,⟨_,rfl⟩,q⟩
theorem opB0{f:ζ->ζ->Sem ζ}{g:Int->Int->Bool}(rule:∀(i j:Int) (t u:Tok) (s:η) (Q:L3) (E:L3),Q (.bool (g i j)) s->wpAny (model X.prog X.w) X.A (f (.int i t) (.int j u)) Q E s):
  OpR X f (rI0 fun i j=> .bl (g i j)):=by
 intro pins s σ H x y v u Q I rx ry h;obtain⟨i,j,rfl,rfl,q⟩:=h;obtain⟨t,rfl⟩:=rx;obtain⟨t',rfl⟩:=ry;exact rule i j t t' s _ _ ⟨.bl (g i j),H,I,rfl,q⟩
def CDiv(i j:Int):Prop:=0<j/\j<1073741824
def CPow(i j:Int):Prop:=0<=j/\j<=1000000/\i.natAbs<2^64
def CMul(i j:Int):Prop:=(-(2^64)<i/\i<2^64)\/(-(2^64)<j/\j<2^64)
theorem CMul.ok{i j:Int}(h:CMul i j):IntMulOk i j:=by
 rcases h with⟨h1,h2⟩|⟨h1,h2⟩
 ·exact .of_left (intBits_le_64 h1 h2)
 ·exact .of_right (intBits_le_64 h1 h2)
theorem uU:OpR X (binaryOp .Add) (rI0 fun i j=> .int (i+j)):=opI0 fun _ _ _ _ _ _ _ q=>add_int q
theorem op_sub:OpR X (binaryOp .Sub) (rI0 fun i j=> .int (i-j)):=opI0 fun _ _ _ _ _ _ _ q=>sub_int q
theorem yu:OpR X (binaryOp .Mult) (rI CMul fun i j=> .int (i*j)):=opI fun _ _ _ _ _ _ _ hc q=>mul_int q hc.ok
theorem op_fdiv:OpR X (binaryOp .FloorDiv) (rI CDiv fun i j=> .int (i/j)):=opI fun i j _ _ _ _ _ hc q=>by
 have h1:(0:Int)<j:=hc.1;have h2:j<1073741824:=hc.2;exact floordiv_int (by omega) (by rw[yeh i (by omega)];exact q) (.inl (PyProof.noPylong_small (by omega)))
theorem op_mod:OpR X (binaryOp .Mod) (rI (fun _ j=>0<j) fun i j=> .int (i %j)):=opI fun i j _ _ _ _ _ hc q=>by
 have h1:(0:Int)<j:=hc;exact mod_int' (by omega) (by rw[Int.fmod_eq_emod_of_nonneg i (by omega)];exact q)
theorem op_pow:OpR X (binaryOp .Pow) (rI CPow fun i j=> .int (i^j.toNat)):=opI fun _ _ _ _ _ _ _ hc q=>pow_int_small hc.1 hc.2.1 hc.2.2 q
theorem unI{f:ζ->Sem ζ}{g:Int->Int}(rule:∀(i:Int) (t:Tok) (s:η) (Q:L3) (E:L3),Q (.int (g i) s.toks) {s with toks:=s.toks+1}->wpAny (model X.prog X.w) X.A (f (.int i t)) Q E s):
  UnR X f (rU fun i=> .int (g i)):=by
 intro pins s σ H x v Q I rx h;obtain⟨i,rfl,q⟩:=h;obtain⟨t,rfl⟩:=rx;exact rule i t s _ _ ⟨.int (g i),H,I.tok _,⟨_,rfl⟩,q⟩
theorem un_neg:UnR X (unaryOp .USub) (rU fun i=> .int (-i)):=unI fun _ _ _ _ _ q=>neg_int q
end
def scal:V->V->Bool
 | .non,.non=>true| .non,.int _=>true| .int _,.non=>true| .non,.bl _=>true| .bl _,.non=>true| .non,.str _=>true| .str _,.non=>true
 | .int _,.int _=>true| .bl _,.bl _=>true| .str _,.str _=>true| .byt _,.byt _=>true
 | .int _,.str _=>true| .str _,.int _=>true| .bl _,.str _=>true| .str _,.bl _=>true
 |_,_=>false
def rEq:R2:=fun x y H Q=>scal x y=true/\Q (.bl (decide (x=y))) H
def rNe:R2:=fun x y H Q=>scal x y=true/\Q (.bl (!decide (x=y))) H
theorem dec_int{i j:Int}:decide (V.int i=V.int j)=(i==j):=by
 rw[wA];simp
theorem dec_bl{i j:Bool}:decide (V.bl i=V.bl j)=(i==j):=by
 rw[wA];simp
theorem dec_str{i j:Str}:decide (V.str i=V.str j)=(i==j):=by
 rw[wA];simp
theorem dec_byt{i j:Array UInt8}:decide (V.byt i=V.byt j)=(i.toList==j.toList):=by
 rw[wA];cases i;cases j;simp
section
variable{X:Cx}{a b c:Expr}{ta tb tc:TE}{pos:Pos}
theorem kZ{pins:L1}{σ:St}{H:Hp}{s:η}{Q:VK}{k k':Bool}(I:Inv X pins σ H s)(q:Q (.bl k) H)(e:k=k'):EP X pins σ Q (.bool k') s:=by
 subst e;exact⟨.bl k,H,I,rfl,q⟩
theorem op_eq:OpR X (compareOp .Eq) rEq:=by
 intro pins s σ H x y v u Q I rx ry h;obtain⟨hs,q⟩:=h;cases x with
 |non=>
  cases rx;cases y with
  |non=>cases ry;exact PySem.EqNone.eq_none_none (kZ I q (by simp))
  |bl j=>cases ry;exact PySem.EqNone.eq_none_bool (kZ I q (by simp))
  |int j=>obtain⟨t',rfl⟩:=ry;exact PySem.EqNone.eq_none_int (kZ I q (by simp))
  |str j=>obtain⟨t',rfl⟩:=ry;exact PySem.EqNone.eq_none_str (kZ I q (by simp))
  |_=>exact absurd (show false=true from hs) rN
 |bl i=>
  cases rx;cases y with
  |non=>cases ry;exact PySem.EqNone.eq_bool_none (kZ I q (by simp))
  |bl j=>cases ry;exact eq_bool (kZ I q dec_bl)
  |str j=>obtain⟨t',rfl⟩:=ry;exact PySem.EqMixed.eq_bool_str (kZ I q (by simp))
  |_=>exact absurd (show false=true from hs) rN
 |int i=>
  obtain⟨t,rfl⟩:=rx;cases y with
  |non=>cases ry;exact PySem.EqNone.eq_int_none (kZ I q (by simp))
  |int j=>obtain⟨t',rfl⟩:=ry;exact eq_int (kZ I q dec_int)
  |str j=>obtain⟨t',rfl⟩:=ry;exact PySem.EqMixed.eq_int_str (kZ I q (by simp))
  |_=>exact absurd (show false=true from hs) rN
 |str i=>
  obtain⟨t,rfl⟩:=rx;cases y with
  |non=>cases ry;exact PySem.EqNone.eq_str_none (kZ I q (by simp))
  |bl j=>cases ry;exact PySem.EqMixed.eq_str_bool (kZ I q (by simp))
  |int j=>obtain⟨t',rfl⟩:=ry;exact PySem.EqMixed.eq_str_int (kZ I q (by simp))
  |str j=>obtain⟨t',rfl⟩:=ry;exact eq_str (kZ I q dec_str)
  |_=>exact absurd (show false=true from hs) rN
 |byt i=>
  obtain⟨t,rfl⟩:=rx;cases y with
  |byt j=>obtain⟨t',rfl⟩:=ry;exact PySem.W.eq_bytes (kZ I q dec_byt)
  |_=>exact absurd (show false=true from hs) rN
 |_=>cases y<;>exact absurd (show false=true from hs) rN
theorem op_ne:OpR X (compareOp .NotEq) rNe:=by
 intro pins s σ H x y v u Q I rx ry h;obtain⟨hs,q⟩:=h;cases x with
 |non=>
  cases rx;cases y with
  |non=>cases ry;exact PySem.EqNone.ne_none_none (kZ I q (by simp))
  |bl j=>cases ry;exact PySem.EqNone.ne_none_bool (kZ I q (by simp))
  |int j=>obtain⟨t',rfl⟩:=ry;exact PySem.EqNone.ne_none_int (kZ I q (by simp))
  |str j=>obtain⟨t',rfl⟩:=ry;exact PySem.EqNone.ne_none_str (kZ I q (by simp))
  |_=>exact absurd (show false=true from hs) rN
 |bl i=>
  cases rx;cases y with
  |non=>cases ry;exact PySem.EqNone.ne_bool_none (kZ I q (by simp))
  |bl j=>cases ry;exact ne_bool (kZ I q (iD not dec_bl))
  |str j=>obtain⟨t',rfl⟩:=ry;exact PySem.EqMixed.ne_bool_str (kZ I q (by simp))
  |_=>exact absurd (show false=true from hs) rN
 |int i=>
  obtain⟨t,rfl⟩:=rx;cases y with
  |non=>cases ry;exact PySem.EqNone.ne_int_none (kZ I q (by simp))
  |int j=>obtain⟨t',rfl⟩:=ry;exact ne_int (kZ I q (iD not dec_int))
  |str j=>obtain⟨t',rfl⟩:=ry;exact PySem.EqMixed.ne_int_str (kZ I q (by simp))
  |_=>exact absurd (show false=true from hs) rN
 |str i=>
  obtain⟨t,rfl⟩:=rx;cases y with
  |non=>cases ry;exact PySem.EqNone.ne_str_none (kZ I q (by simp))
  |bl j=>cases ry;exact PySem.EqMixed.ne_str_bool (kZ I q (by simp))
  |int j=>obtain⟨t',rfl⟩:=ry;exact PySem.EqMixed.ne_str_int (kZ I q (by simp))
  |str j=>obtain⟨t',rfl⟩:=ry;exact ne_str (kZ I q (iD not dec_str))
  |_=>exact absurd (show false=true from hs) rN
 |byt i=>
  obtain⟨t,rfl⟩:=rx;cases y with
  |byt j=>obtain⟨t',rfl⟩:=ry;exact PySem.W.ne_bytes (kZ I q (iD not dec_byt))
  |_=>exact absurd (show false=true from hs) rN
 |_=>cases y<;>exact absurd (show false=true from hs) rN
theorem op_lt:OpR X (compareOp .Lt) (rI0 fun i j=> .bl (decide (i<j))):=opB0 fun _ _ _ _ _ _ _ q=>lt_int q
theorem op_le:OpR X (compareOp .LtE) (rI0 fun i j=> .bl (decide (i<=j))):=opB0 fun _ _ _ _ _ _ _ q=>le_int q
theorem op_gt:OpR X (compareOp .Gt) (rI0 fun i j=> .bl (decide (j<i))):=opB0 fun _ _ _ _ _ _ _ q=>gt_int q
theorem op_ge:OpR X (compareOp .GtE) (rI0 fun i j=> .bl (decide (j<=i))):=opB0 fun _ _ _ _ _ _ _ q=>ge_int q
theorem op_isN:OpR X (compareOp .Is) (fun x y H Q=>y= .non/\Q (.bl (decide (x= .non))) H):=by
 intro pins s σ H x y v u Q I rx ry h;obtain⟨rfl,q⟩:=h;cases ry;refine is_none_gen (kZ I q ?_);cases x<;>first
  |(cases rx;rfl)
  |(obtain⟨t,rfl⟩:=rx;rfl)
theorem op_notN:OpR X (compareOp .IsNot) (fun x y H Q=>y= .non/\Q (.bl (!decide (x= .non))) H):=by
 intro pins s σ H x y v u Q I rx ry h;obtain⟨rfl,q⟩:=h;cases ry;refine isnot_none_gen (kZ I q ?_);cases x<;>first
  |(cases rx;rfl)
  |(obtain⟨t,rfl⟩:=rx;rfl)
theorem OpR.or{f:ζ->ζ->Sem ζ}{r r':R2}(h:OpR X f r)(h':OpR X f r'):OpR X f (fun x y H Q=>r x y H Q\/r' x y H Q):=by
 intro pins s σ H x y v u Q I rx ry q;rcases q with q|q
 ·exact h pins s σ H x y v u Q I rx ry q
 ·exact h' pins s σ H x y v u Q I rx ry q
theorem nomark(b:Expr){op:CmpOp}(h:op≠.In:=by decide)(h2:op≠.NotIn:=by decide):behindInMarks op b=false:=by
 have e1:(op==CmpOp.In)=false:=by cases op<;>first |rfl|exact absurd rfl h
 have e2:(op==CmpOp.NotIn)=false:=by cases op<;>first |rfl|exact absurd rfl h2
 cases b<;>simp[behindInMarks,e1,e2]
theorem pe_cmpR{op:CmpOp}{r:R2}(ho:OpR X (compareOp op) r)(ha:PE X a ta)(hb:PE X b tb)(hm:behindInMarks op b=false:=by exact nomark _):PE X (.Compare a [op] [b] pos) (tOp r ta tb):=by
 intro pins s σ H Q I h;exact wpAny_Compare1 (binT ha hb I h fun v u s2 x y H2 I2 rx ry q=>ho pins s2 σ H2 x y v u Q I2 rx ry q) hm
def tTest(t:TE):TT:=fun σ H Q=>t σ H fun x H'=>∃k,x= .bl k/\Q k H'
theorem jg{op:CmpOp}{r:R2}(ho:OpR X (compareOp op) r)(ha:PE X a ta)(hb:PE X b tb)(hm:behindInMarks op b=false:=by exact nomark _):PT X (.Compare a [op] [b] pos) (tTest (tOp r ta tb)):=by
 intro pins s σ H Q I h;refine wpAny_isTrue_Compare1 (thn (ha pins s σ H _ I h) fun v s1 ⟨x,H1,I1,r1,q1⟩=>thn (hb pins s1 σ H1 _ I1 q1) fun u s2 ⟨y,H2,I2,r2,q2⟩=>
  thn (ho pins s2 σ H2 x y v u _ I2 r1 r2 q2) fun c s3 ⟨z,H3,I3,r3,k,e,q3⟩=> ?_) hm
 subst e;cases r3;exact JZ ⟨H3,I3,q3⟩
def tChain(r r':R2)(ta tb tc:TE):TE:=fun σ H Q=>ta σ H fun x H1=>tb σ H1 fun y H2=>r x y H2 fun z H3=>∃k,z= .bl k/\
 (if k=true then tc σ H3 fun w' H4=>r' y w' H4 Q else Q (.bl false) H3)
theorem pe_chain{op op':CmpOp}{r r':R2}(ho:OpR X (compareOp op) r)(ho':OpR X (compareOp op') r')(ha:PE X a ta)(hb:PE X b tb)(hc:PE X c tc)(hm:lastMarks [op,op'] [b,c]=false:=by with_unfolding_all rfl):PE X (.Compare a [op,op'] [b,c] pos) (tChain r r' ta tb tc):=by
 intro pins s σ H Q I h;refine Compare_chain (thn (ha pins s σ H _ I h) fun v s1 ⟨x,H1,I1,r1,q1⟩=>chain_link (thn (hb pins s1 σ H1 _ I1 q1) fun u s2 ⟨y,H2,I2,r2,q2⟩=>
  thn (ho pins s2 σ H2 x y v u _ I2 r1 r2 q2) fun d s3 ⟨z,H3,I3,r3,k,e,q3⟩=> ?_)) hm
 subst e;cases r3;refine JZ ?_;cases k with
 |false=>exact ite_ff ⟨.bl false,H3,I3,rfl,q3⟩
 |true=>exact ite_tt (chain_last (thn (hc pins s3 σ H3 _ I3 q3) fun w' s4 ⟨z',H4,I4,r4,q4⟩=>ho' pins s4 σ H4 y z' u w' Q I4 r2 r4 q4))
theorem pt_chain{op op':CmpOp}{r r':R2}(ho:OpR X (compareOp op) r)(ho':OpR X (compareOp op') r')(ha:PE X a ta)(hb:PE X b tb)(hc:PE X c tc)(hm:lastMarks [op,op'] [b,c]=false:=by with_unfolding_all rfl):PT X (.Compare a [op,op'] [b,c] pos) (tTest (tChain r r' ta tb tc)):=by
 intro pins s σ H Q I h;refine isTrue_chain (thn (ha pins s σ H _ I h) fun v s1 ⟨x,H1,I1,r1,q1⟩=>test_link (thn (hb pins s1 σ H1 _ I1 q1) fun u s2 ⟨y,H2,I2,r2,q2⟩=>
  thn (ho pins s2 σ H2 x y v u _ I2 r1 r2 q2) fun d s3 ⟨z,H3,I3,r3,k,e,q3⟩=> ?_)) hm
 subst e;cases r3;refine JZ ?_;cases k with
 |false=>
  obtain⟨k',e',q'⟩:=q3;cases e';exact ite_ff ⟨H3,I3,q'⟩
 |true=>
  refine ite_tt (test_last (thn (hc pins s3 σ H3 _ I3 q3) fun w' s4 ⟨z',H4,I4,r4,q4⟩=>thn (ho' pins s4 σ H4 y z' u w' _ I4 r2 r4 q4) fun d' s5 ⟨z2,H5,I5,r5,k2,e2,q5⟩=> ?_));subst e2;cases r5;exact JZ ⟨H5,I5,q5⟩
def TruV(K:W.Frag)(x:V)(H:Hp)(k:Bool):Prop:=
 match x with
 | .non=>k=false
 | .bl b=>k=b
 | .int i=>k=(i !=0)
 | .str y=>y.length<=sizeLine/\k=((y.length:Int) !=0)
 | .byt y=>y.size<=sizeLine/\k=((y.size:Int) !=0)
 | .ref p=>(∃xs,SqL K H p xs/\k= !xs.isEmpty)\/(∃xs,SqT K H p xs/\k= !xs.isEmpty)\/∃kvs,H p=some (.dK kvs)/\k= !kvs.isEmpty
 |_=>False
theorem isEmpty_kv{κ:Type}{kvs:List (κ×V)}{vs:List (κ×ζ)}(r:KV kvs vs):(!vs.isEmpty)= !kvs.isEmpty:=by
 cases r<;>rfl
theorem isEmpty_of{xs:List V}{its:List ζ}(r:Vals xs its):(!its.toArray.isEmpty)= !xs.isEmpty:=by
 cases r<;>simp
theorem line63:(sizeLine:Nat)<2^63:=by rw[eE];decide
theorem tru_ok:TruR X (fun x H Q=>∃k,TruV X.K x H k/\Q k H):=by
 intro pins s σ H x v Q I rx h;obtain⟨k,e,q⟩:=h;have hl:=line63;have hs:sizeLine=16777216:=eE;cases x with
 |non=>
  cases rx;have e':k=false:=e;subst e';exact truthy_none ⟨H,I,q⟩
 |bl b=>
  cases rx;have e':k=b:=e;subst e';exact JZ ⟨H,I,q⟩
 |int i=>
  obtain⟨t,rfl⟩:=rx;have e':k=(i !=0):=e;subst e';exact PySem.P.truthy_int ⟨H,I,q⟩
 |str y=>
  obtain⟨t,rfl⟩:=rx;obtain⟨hy,e'⟩:y.length<=sizeLine/\k=((y.length:Int) !=0):=e;subst e';exact PySem.P.truthy_str (by omega) ⟨H,I.tok _,q⟩
 |byt y=>
  obtain⟨t,rfl⟩:=rx;obtain⟨hy,e'⟩:y.size<=sizeLine/\k=((y.size:Int) !=0):=e;subst e';exact PySem.W.truthy_bytes (by omega) ⟨H,I.tok _,q⟩
 |ref p=>
  cases rx;have e':(∃xs,SqL X.K H p xs/\k= !xs.isEmpty)\/(∃xs,SqT X.K H p xs/\k= !xs.isEmpty)\/∃kvs,H p=some (.dK kvs)/\k= !kvs.isEmpty:=e;rcases e' with⟨xs,hx,e'⟩|⟨xs,hx,e'⟩|⟨kvs,hx,e'⟩
  ·subst e';obtain⟨its,r,pl,hz⟩:=I.list hx;have hlen:=r.length;exact wpAny_truthy_list pl.isList (by simp only[fu];omega) ⟨H,I.tok _,by rw[isEmpty_of r];exact q⟩
  ·subst e';obtain⟨its,r,pl,hz⟩:=I.tuple hx;have hlen:=r.length;exact truthy_tuple pl (by simp only[fu];omega) ⟨H,I.tok _,by rw[isEmpty_of r];exact q⟩
  ·subst e';obtain⟨hz,hS,vs,r,m⟩:kvs.length<=sizeLine/\(p==sysModules)=false/\∃vs,KV kvs vs/\s.heap.DictOf (mixKind X.prog X.w) p vs:=I.hok p _ hx;have hlen:kvs.length=vs.length:=wfq r;exact wpAny_truthy_dict hS m (by omega) ⟨H,I.tok _,by rw[isEmpty_kv r];exact q⟩
 |_=>exact(show False from e).elim
theorem pt_truth(ha:PE X a ta)(he:∀whole,isTrue a X.env whole=(do let v<-whole;standAt a.pos;holding [v] (truthy v))):
  PT X a (fun σ H Q=>ta σ H fun x H'=>∃k,TruV X.K x H' k/\Q k H'):=by
 intro pins s σ H Q I h;exact isTrue_plain (thn (ha pins s σ H _ I h) fun v s1 ⟨x,H1,I1,r1,q1⟩=>tru_ok pins s1 σ H1 x v Q I1 r1 q1) (he _)
theorem vals1{x:V}{us:List ζ}(r:Vals [x] us):∃u,us=[u]/\RelV x u:=by
 cases r with
 |cons r1 r2=>cases r2;exact⟨_,rfl,r1⟩
theorem vals2{x y:V}{us:List ζ}(r:Vals [x,y] us):∃u w',us=[u,w']/\RelV x u/\RelV y w':=by
 cases r with
 |cons r1 r2=>
  cases r2 with
  |cons r3 r4=>cases r4;exact⟨_,_,rfl,r1,r3⟩
theorem call_abs:CallR X (.builtin "abs") (fun xs H Q=>∃i,xs=[.int i]/\Q (.int (if i<0 then -i else i)) H):=by
 intro pins s σ H xs us Q I r h;obtain⟨i,rfl,q⟩:=h;obtain⟨u,rfl,t,rfl⟩:=vals1 r;exact call_abs_int fun u tk=>⟨.int (if i<0 then -i else i),H,I.tok _,⟨_,rfl⟩,q⟩
theorem call_max2(hc:X.calm=true):CallR X (.builtin "max") (fun xs H Q=>∃i j,xs=[.int i,.int j]/\Q (.int (if j>i then j else i)) H):=by
 intro pins s σ H xs us Q I r h;obtain⟨i,j,rfl,q⟩:=h;obtain⟨u,w',rfl,⟨t,rfl⟩,⟨t',rfl⟩⟩:=vals2 r;refine max_two_ints (I.ok.hd hc) fun h' tk k=>⟨_,H,I.kept k,?_,q⟩;by_cases hj:j>i
 ·rw[aB hj,aB hj];exact⟨_,rfl⟩
 ·rw[aq hj,aq hj];exact⟨_,rfl⟩
theorem call_min2(hc:X.calm=true):CallR X (.builtin "min") (fun xs H Q=>∃i j,xs=[.int i,.int j]/\Q (.int (if j<i then j else i)) H):=by
 intro pins s σ H xs us Q I r h;obtain⟨i,j,rfl,q⟩:=h;obtain⟨u,w',rfl,⟨t,rfl⟩,⟨t',rfl⟩⟩:=vals2 r;refine min_two_ints (I.ok.hd hc) fun h' tk k=>⟨_,H,I.kept k,?_,q⟩;by_cases hj:j<i
 ·rw[aB hj,aB hj];exact⟨_,rfl⟩
 ·rw[aq hj,aq hj];exact⟨_,rfl⟩
end
structure ObjM(h:Heap)(x dx C:Addr)(mA:L4):Prop where
 obj:h.get? x=some (PySem.W.instObj C dx)
 ns:h.Ns1 dx mA
 ne:dx≠x
theorem lookIn_ns{h:Heap}{dx:Addr}{mA:L4}(n:h.Ns1 dx mA):∃od,h.get? dx=some od/\∀name,PySem.W.lookIn name od=some (mA name):=by
 obtain⟨o,es,ep,ho,hd,hk,_,hm⟩:=n;refine⟨o,ho,fun name=> ?_⟩;have e:=hm name;unfold nsFind findBy at e;rw[<-Array.find?_toList]at e;unfold PySem.W.lookIn;rw[hd];dsimp only;split
 ·rename_i y q;rw[q]at e;exact iD some e
 ·rename_i q;rw[q]at e;have a:es.toList.any (·.refKey)=false:=by
   rw[Yp];intro y hy;obtain⟨z,t,hkey⟩:=hk y (Array.mem_toList_iff.mp hy);simp[DictEntry.refKey,hkey]
  have a':¬es.toList.any (·.refKey)=true:=by rw[a];exact rN
  rw[aq a'];exact iD some e
theorem ObjM.look{h:Heap}{x dx C:Addr}{mA:L4}(I:ObjM h x dx C mA):∃od,PySem.W.InstAt h x (PySem.W.instObj C dx) C (some od)/\∀name,PySem.W.lookIn name od=some (mA name):=
 let⟨od,ho,hl⟩:=lookIn_ns I.ns
 ⟨od,⟨I.obj,rfl,rfl,ho⟩,hl⟩
section
variable{prog:ρ}{w:υ}{A:χ}{E:L3}{s:η}{K:W.Frag}{x dx C f:Addr}{mA:L4}{name:Str}{v:ζ}
theorem get_map{expr:Bool}{Q:L3}(X:K.In s.heap)(I:ObjM s.heap x dx C mA)(hg:PySem.W.plainGet K C name=true)(hh:PySem.W.hasDictIn K C=true)(ha:PySem.W.findIn K (.ref C) name=some none)(hv:mA name=some v)(hv':PySem.W.handedIn v=true)(h:Q v {s with toks:=s.toks+1}):
  wpAny (model prog w) A (getAttr (.ref x) name expr) Q E s:=by
 obtain⟨od,J,hl⟩:=I.look;exact PySem.W.get_value X J (wdz hg).1 (PySem.W.findObj_own hh ha rfl (by rw[hl,hv])) hv' h
theorem get_meth{pl:Sem Bool}{Q:ζ×List ζ->η->Prop}(X:K.In s.heap)(I:ObjM s.heap x dx C mA)(hg:PySem.W.plainGet K C name=true)(hf:PySem.W.findIn K (.ref C) name=some (some (.ref f)))(ht:PySem.W.isFn K (.ref f)=true)(hv:mA name=none)(h:Q (.ref f,[.ref x]) s):
  wpAny (model prog w) A (getMethod (.ref x) name pl) Q E s:=by
 obtain⟨od,J,hl⟩:=I.look;exact PySem.W.method_fn X J (wdz hg).1 (wdz hg).2 hf (beq_iff_eq.mp ht) (by show(PySem.W.lookIn name od).map (·.isSome)=some false;rw[hl,hv];rfl) h
theorem set_map{ns:List Str}{Q:Unit->η->Prop}(X:K.In s.heap)(I:ObjM s.heap x dx C mA)(hs:PySem.W.findIn K (.ref C) "__setattr__"=some (some (.builtin "object.__setattr__")))(hp:PySem.W.plainOver K C=true)(ht:PySem.W.takerIn K C name=some none)(hh:PySem.W.hasDictIn K C=true)(hw:PySem.Within mA ns)(hsz:ns.length<=sizeLine)(h:∀h',ObjM h' x dx C (fun y=>if y=name then some v else mA y)->Heap.SameBut dx s.heap h'->Q () {s with heap:=h',toks:=s.toks+2}):
  wpAny (model prog w) A (setAttr (.ref x) name v) Q E s:=by
 obtain⟨od,J,hl⟩:=I.look;refine PySem.W.set_plain X J hs (PySem.W.osa_open (s:={s with toks:=s.toks+1}) (r:=none) X J hp ht fun b=> ?_);obtain⟨cd,hc,hd'⟩:=PySem.W.any_some hh;have hx:s.heap.get? x=some ⟨.ref C,some dx,.plain,#[]⟩:=I.obj;refine ao (aK (ao (ao (wpAny_loadPart hx (ao (PySem.W.Looks.here (s:={s with toks:=s.toks+1}) (PySem.W.looks_clsIn X hc) ?_))))));rw[hd'];refine aK (a:=some dx) (ao (aK (ao ?_)));refine wpAny_nsSet1 (s:={s with toks:=s.toks+1}) I.ns fun h' hn2 hs2=> ?_;obtain⟨oD,esD,epD,hoD,hdD,hcD⟩:=hn2.count (PySem.Within.cons name v hw);refine ao (wpAny_lookBehind hoD (by rw[hdD];exact pastItsLine_dict (dO hcD (by rw[uW];omega))) ?_);exact aK (h _ ⟨(hs2.2 _ (kO I.ne)).trans I.obj,hn2,I.ne⟩ hs2)
theorem make_map{R:Result->η->Prop}{vs:List ζ}{kw:List (Str×ζ)}(X:K.In s.heap)(hm:PySem.W.makesIn K C=true)(hi:PySem.W.findIn K (.ref C) "__init__"=some (some (.ref f)))(hf:PySem.W.typeIn K (.ref f)=some (.type "function"))(h:codeAny (model prog w) (A.under (.builtin "type.__call__" ⟨.ref C::vs,kw⟩)) (.call (.ref f) ⟨.ref (s.heap.objs.size+1)::vs,kw⟩) (PySem.W.InitBack (s.heap.objs.size+1) R)
   {s with heap:=(s.heap.push PySem.W.emptyDict).push (PySem.W.instObj C s.heap.objs.size)}):
  codeAny (model prog w) A (.call (.ref C) ⟨vs,kw⟩) R s:=by
 obtain⟨hh,g,d,t,os⟩:=s;exact PySem.W.make_core (PySem.W.makes_of X hm) (PySem.W.looks_findIn X hi) (fun self=>PySem.W.bind_fn X self hf) (.inl rfl) h
end
noncomputable def putF(f:Str)(v:V):List (Str×V)->List (Str×V)
 |[]=>[(f,v)]
 |(g,x)::r=>if g=f then(g,v)::r else(g,x)::putF f v r
theorem lookup_putF(f g:Str)(v:V):∀fs:List (Str×V),(putF f v fs).lookup g=if g=f then some v else fs.lookup g
 |[]=>by
  show List.lookup g [(f,v)]=_;by_cases h:g=f
  ·have hb:(g==f)=true:=beq_iff_eq.mpr h;simp only[List.lookup,hb,aB h]
  ·have hb:(g==f)=false:=beq_eq_false_iff_ne.mpr h;simp only[List.lookup,hb,aq h]
 |(k,x)::r=>by
  have ih:=lookup_putF f g v r;rw[show putF f v ((k,x)::r)=(if k=f then(k,v)::r else(k,x)::putF f v r)from rfl];by_cases hk:k=f
  ·rw[aB hk];by_cases h:g=k
   ·have hb:(g==k)=true:=beq_iff_eq.mpr h;simp only[List.lookup,hb,aB (h.trans hk)]
   ·have hb:(g==k)=false:=beq_eq_false_iff_ne.mpr h;simp only[List.lookup,hb,aq (fun e:g=f=>h (e.trans hk.symm))]
  ·rw[aq hk];by_cases h:g=k
   ·have hb:(g==k)=true:=beq_iff_eq.mpr h;simp only[List.lookup,hb,aq (fun e:g=f=>hk (h.symm.trans e))]
   ·have hb:(g==k)=false:=beq_eq_false_iff_ne.mpr h;simp only[List.lookup,hb];exact ih
theorem keys_putF(f:Str)(v:V):∀fs:List (Str×V),f∈(putF f v fs).map (·.1)/\∀g,g∈fs.map (·.1)->g∈(putF f v fs).map (·.1)
 |[]=>⟨by simp[putF],fun g h=>by simp at h⟩
 |(k,x)::r=>by
  obtain⟨i1,i2⟩:=keys_putF f v r;rw[show putF f v ((k,x)::r)=(if k=f then(k,v)::r else(k,x)::putF f v r)from rfl];by_cases hk:k=f
  ·rw[aB hk];subst hk;exact⟨by simp,fun g h=>by simpa using h⟩
  ·rw[aq hk];refine⟨?_,fun g h=> ?_⟩
   ·rw[Ca];exact dZ _ i1
   ·rw[Ca]at h⊢;rcases cF.mp h with e|e
    ·exact cF.mpr (.inl e)
    ·exact dZ _ (i2 g e)
theorem length_putF(f:Str)(v:V):∀fs:List (Str×V),(putF f v fs).length<=fs.length+1
 |[]=>by simp[putF]
 |(k,x)::r=>by
  have ih:=length_putF f v r;rw[show putF f v ((k,x)::r)=(if k=f then(k,v)::r else(k,x)::putF f v r)from rfl];by_cases hk:k=f
  ·rw[aB hk,uW,uW];omega
  ·rw[aq hk,uW,uW];omega
theorem RelO.some_of{v:V}{o:Option ζ}(r:RelO (some v) o):∃u,o=some u/\RelV v u:=by
 cases o with
 |none=>exact(show False from r).elim
 |some u=>exact⟨u,rfl,r⟩
theorem RelO.none_of{o:Option ζ}(r:RelO none o):o=none:=by
 cases o with
 |none=>rfl
 |some u=>exact(show False from r).elim
theorem handed_of{v:V}{u:ζ}(r:RelV v u):PySem.W.handedIn u=true:=by
 cases v with
 |non=>cases(show u=Value.none from r);rfl
 |bl b=>cases(show u=Value.bool b from r);rfl
 |int i=>obtain⟨t,e⟩:=(show∃t,u=Value.int i t from r);cases e;rfl
 |str x=>obtain⟨t,e⟩:=(show∃t,u=Value.str x t from r);cases e;rfl
 |byt b=>obtain⟨t,e⟩:=(show∃t,u=Value.bytes b t from r);cases e;rfl
 |flt b=>obtain⟨t,e⟩:=(show∃t,u=Value.float b t from r);cases e;rfl
 |ref a=>cases(show u=Value.ref a from r);rfl
 |ty n=>cases(show u=Value.type n from r);rfl
section
variable{P:ρ}{w:υ}{H:Hp}{h:Heap}{a C dx:Addr}{fs:List (Str×V)}
theorem ins_get(hok:HOk P w H h)(e:H a=some (.ins C dx fs)):∃mA,ObjM h a dx C mA/\(∀f,RelO (fs.lookup f) (mA f))/\PySem.Within mA (fs.map (·.1))/\fs.length<=1000/\H dx=some (.own a):=by
 obtain⟨d,z,ne,ob,mA,n,r,q⟩:=(show ObjOk P w H h a (.ins C dx fs)from hok a _ e);exact⟨mA,⟨ob,n,ne⟩,r,q,z,d⟩
end
structure Cls(K:W.Frag)(C:Addr):Prop where
 pg:PySem.W.plainGet K C Str.empty=true
 hd:PySem.W.hasDictIn K C=true
 po:PySem.W.plainOver K C=true
 sa:PySem.W.findIn K (.ref C) "__setattr__"=some (some (.builtin "object.__setattr__"))
theorem Cls.get{K:W.Frag}{C:Addr}(c:Cls K C)(f:Str):PySem.W.plainGet K C f=true:=c.pg
def NoAttr(K:W.Frag)(C:Addr)(f:Str):Prop:=PySem.W.findIn K (.ref C) f=some none
theorem NoAttr.taker{K:W.Frag}{C:Addr}{f:Str}(n:NoAttr K C f):PySem.W.takerIn K C f=some none:=by
 unfold PySem.W.takerIn;rw[show PySem.W.findIn K (.ref C) f=some none from n];rfl
structure Meth(K:W.Frag)(C:Addr)(m:Str)(f:Addr):Prop where
 at_:PySem.W.findIn K (.ref C) m=some (some (.ref f))
 fn:PySem.W.isFn K (.ref f)=true
 kp:PySem.W.keepIn K (.ref f)=true
section
variable{X:Cx}{pins:L1}{σ:St}{H:Hp}{s:η}{a C dx:Addr}{fs:List (Str×V)}{f:Str}{v:V}{A:χ}{E:L3}
theorem getattr_ok{b:Bool}{Q:L3}(I:Inv X pins σ H s)(e:H a=some (.ins C dx fs))(c:Cls X.K C)(n:NoAttr X.K C f)(l:fs.lookup f=some v)(h:∀u s',Inv X pins σ H s'->RelV v u->Q u s'):wpAny (model X.prog X.w) A (getAttr (.ref a) f b) Q E s:=by
 obtain⟨mA,O,r,_,_,_⟩:=ins_get I.hok e;obtain⟨u,hu,ru⟩:=RelO.some_of (v:=v) (o:=mA f) (by rw[<-l];exact r f);exact get_map I.kIn O (c.get f) c.hd n hu (handed_of ru) (h u _ (I.tok _) ru)
theorem getmeth_ok{m:Str}{g:Addr}{pl:Sem Bool}{Q:ζ×List ζ->η->Prop}(I:Inv X pins σ H s)(e:H a=some (.ins C dx fs))(c:Cls X.K C)(k:Meth X.K C m g)(l:fs.lookup m=none)(h:Q (.ref g,[.ref a]) s):wpAny (model X.prog X.w) A (getMethod (.ref a) m pl) Q E s:=by
 obtain⟨mA,O,r,_,_,_⟩:=ins_get I.hok e;have hn:mA m=none:=RelO.none_of (by rw[<-l];exact r m);exact get_meth I.kIn O (c.get m) k.at_ k.fn hn h
theorem setattr_ok{y:V}{u:ζ}{Q:Unit->η->Prop}(I:Inv X pins σ H s)(e:H a=some (.ins C dx fs))(c:Cls X.K C)(n:NoAttr X.K C f)(hl:fs.length<1000)(ry:RelV y u)(h:∀s',Inv X pins σ (upd H a (.ins C dx (putF f y fs))) s'->Q () s'):wpAny (model X.prog X.w) A (setAttr (.ref a) f u) Q E s:=by
 obtain⟨mA,O,r,wi,_,ho⟩:=ins_get I.hok e;have hz:(fs.map (·.1)).length<=sizeLine:=by rw[aJ,eE];omega
 refine set_map I.kIn O c.sa c.po n.taker c.hd wi hz fun h' O' sb=>h _ ?_;have hd:∃o,h'.get? dx=some o:=let⟨o,_,_,e',_⟩:=O'.ns;⟨o,e'⟩;refine I.write (x:=a) (e:=dx) (by rw[e];exact True.intro) (.inr ho) (fun b q hb z=>(sb.2 b hb).trans z) hd ?_;refine⟨by rw[bU O.ne];exact ho,?_,O.ne,O'.obj,_,O'.ns,fun g=> ?_,fun g hg=> ?_⟩
 ·have:=length_putF f y fs;omega
 ·show RelO ((putF f y fs).lookup g) (if g=f then some u else mA g);rw[lookup_putF];by_cases q:g=f
  ·rw[aB q,aB q];exact ry
  ·rw[aq q,aq q];exact r g
 ·by_cases q:g=f
  ·rw[q];exact(keys_putF f y fs).1
  ·refine(keys_putF f y fs).2 g (wi g fun z=>hg ?_);show(if g=f then some u else mA g)=none;rw[aq q];exact z
theorem Inv.made(I:Inv X pins σ H s):Inv X pins σ (upd (upd H s.heap.objs.size (.own (s.heap.objs.size+1))) (s.heap.objs.size+1) (.ins C s.heap.objs.size []))
  {s with heap:=(s.heap.push PySem.W.emptyDict).push (PySem.W.instObj C s.heap.objs.size)}:=by
 have e1:(s.heap.push PySem.W.emptyDict).get? s.heap.objs.size=some PySem.W.emptyDict:=gZ s.heap rfl;have e2:((s.heap.push PySem.W.emptyDict).push (PySem.W.instObj C s.heap.objs.size)).get? (s.heap.objs.size+1)=some (PySem.W.instObj C s.heap.objs.size):=by
  have:=gZ (s.heap.push PySem.W.emptyDict) (o:=PySem.W.instObj C s.heap.objs.size) rfl
  rwa [Cq]at this
 have e3:(s.heap.push PySem.W.emptyDict).Ns s.heap.objs.size (fun _=>none):=⟨PySem.W.emptyDict,#[],_,e1,rfl,(fun e he=>absurd he (by simp)),fun _=>rfl⟩;have I1:=I.laid (a:=s.heap.objs.size) (o:= .own (s.heap.objs.size+1)) (h':=s.heap.push PySem.W.emptyDict) (t':=s.toks) (fun b u q=>cV _ q) (aN _) ⟨_,e1⟩;refine I1.laid (a:=s.heap.objs.size+1) (o:= .ins C s.heap.objs.size []) (t':=s.toks) (fun b u q=>cV _ q) (Fv (Cq _ _)) ?_;have ne:s.heap.objs.size≠s.heap.objs.size+1:=cQ (sI _);refine⟨by rw[bU ne,aH],dB _,ne,e2,fun _=>none,(Heap.Ns1.of_empty e3).at fun o q=>cV _ q,fun _=>True.intro,fun y hy=>absurd rfl hy⟩
theorem attr_of{prog:ρ}{w:υ}{env:Env}{e:Expr}{f:Str}{pos:Pos}{s:η}{Q:L3}(hb:attributeBase e f env (eval e env)=eval e env)(h:wpAny (model prog w) A (eval e env) (fun o s₁=>wpAny (model prog w) A (getAttr o f true) Q E s₁) E s):wpAny (model prog w) A (eval (.Attribute e f pos) env) Q E s:=
 Attribute_any_ h (by rw[arm_eval_Attribute,hb])
end
def tFld(K:W.Frag)(ta:TE)(f:Str):TE:=fun σ H Q=>ta σ H fun x H1=>∃a C dx fs v,x= .ref a/\H1 a=some (.ins C dx fs)/\Cls K C/\NoAttr K C f/\fs.lookup f=some v/\Q v H1
def sFld(K:W.Frag)(ta tv:TE)(f:Str):TS:=fun D σ H=>tv σ H fun y H1=>ta σ H1 fun x H2=>∃a C dx fs,x= .ref a/\H2 a=some (.ins C dx fs)/\Cls K C/\NoAttr K C f/\fs.length<1000/\
 D.nx σ (upd H2 a (.ins C dx (putF f y fs)))
section
variable{X:Cx}{o e value:Expr}{f:Str}{pos pos':Pos}{ta tv:TE}
theorem oJ(he:PE X e ta)(hb:attributeBase e f X.env (eval e X.env)=eval e X.env):PE X (.Attribute e f pos) (tFld X.K ta f):=by
 intro pins s σ H Q I h;refine attr_of hb (thn (he pins s σ H _ I h) fun u s1 ⟨x,H1,I1,rx,a,C,dx,fs,v,ex,ea,c,n,l,q⟩=> ?_);subst ex;obtain rfl:u=Value.ref a:=rx;exact getattr_ok I1 ea c n l fun u' s2 I2 ru=>⟨v,H1,I2,ru,q⟩
theorem ps_fld(ha:PE X o ta)(hv:PE X value tv)(hs:swapsWith value (some (.Attribute o f pos')) pos.line X.env=pure false):PS X (.Assign [.Attribute o f pos'] value pos) (sFld X.K ta tv f):=by
 intro pins s σ H D I h;refine plainObj_wpAny_Assign_Attribute (thn (hv pins s σ H _ I h) fun u s1 ⟨y,H1,I1,ry,q⟩=>thn (ha pins s1 σ H1 _ I1 q) fun ov s2 ⟨x,H2,I2,rx,a,C,dx,fs,ex,ea,c,n,l,q2⟩=> ?_) hs;subst ex;obtain rfl:ov=Value.ref a:=rx;exact setattr_ok I2 ea c n l ry fun s3 I3=>⟨σ,_,I3,q2⟩
end
structure Room(k:Nat)(A:χ):Prop where
 hd:A.handled=none
 dp:A.depth+3*k+5<recursionLimit
 un:A.units+16*k+200<cLine
 gd:A.guards=some []
theorem Room.mono{j k:Nat}{A:χ}(r:Room k A)(h:j<=k):Room j A:=⟨r.hd,by have:=r.dp;omega,by have:=r.un;omega,r.gd⟩
theorem Room.deeper{k:Nat}{A:χ}(r:Room (k+1) A)(env:Env):Room k (A.deeper env):=
 ⟨r.hd,by have:=r.dp;show A.depth+1+3*k+5<_;omega,by have:=r.un;show A.units+3+16*k+200<_;omega,r.gd⟩
theorem Room.in1{k:Nat}{A:χ}(r:Room (k+1) A):Room k A.in1:=
 ⟨r.hd,by have:=r.dp;show A.depth+3*k+5<_;omega,by have:=r.un;show A.units+1+16*k+200<_;omega,r.gd⟩
theorem make_depth{A:χ}{C:Addr}{us:List ζ}{kw:List (Str×ζ)}:(A.under (.builtin "type.__call__" ⟨.ref C::us,kw⟩)).depth=A.depth+1:=by
 first |rfl|simp[Around.under,Code.weight,Code.isCreation,Code.isGuard,Code.isCaller,Code.frames,Code.isFrame,guardIds]
theorem make_units{A:χ}{C:Addr}{us:List ζ}{kw:List (Str×ζ)}:(A.under (.builtin "type.__call__" ⟨.ref C::us,kw⟩)).units=A.units+1:=by
 first |rfl|simp[Around.under,Code.cUnits,Code.frames,Code.isFrame]
theorem Room.make{k:Nat}{A:χ}(r:Room (k+1) A)(C:Addr)(us:List ζ)(kw:List (Str×ζ)):Room k (A.under (.builtin "type.__call__" ⟨.ref C::us,kw⟩)):=
 ⟨r.hd,by have:=r.dp;rw[make_depth];omega,by have:=r.un;rw[make_units];omega,by
  have q:=r.gd
  first |exact q|(simp[Around.under,Code.isGuard,guardIds];exact q)|(unfold Around.under;simp[Code.isGuard,guardIds,q])⟩
theorem Room.depth{k:Nat}{A:χ}(r:Room k A):A.depth<recursionLimit:=by have:=r.dp;omega
theorem Room.units{k:Nat}{A:χ}(r:Room k A):A.units+64<cLine:=by have:=r.un;omega
theorem Room.units0{k:Nat}{A:χ}(r:Room k A):A.units<cLine:=by have:=r.un;omega
def tNil:TA:=fun _ H Q=>Q [] H
def tCons(ta:TE)(tr:TA):TA:=fun σ H Q=>ta σ H fun x H1=>tr σ H1 fun xs H2=>Q (x::xs) H2
section
variable{X:Cx}{e:Expr}{es:List Expr}{te:TE}{t:TA}{pos:Pos}
theorem aA:PA X [] tNil:=fun _ _ _ _ H Q I h=>V3 ⟨[],H,I,.nil,h⟩
theorem aj(ha:PE X e te)(hr:PA X es t)(hs:starEach (e::es) X.env=(false,eval e X.env)::starEach es X.env:=by rfl):PA X (e::es) (tCons te t):=by
 intro pos pins s σ H Q I h;rw[hs];show wpAny _ _ (spliced ((false,eval e X.env)::backTo pos (starEach es X.env))) _ _ s;refine YM (thn (ha pins s σ H _ I h) fun u s1 ⟨x,H1,I1,r1,q1⟩=> ?_);exact thn (hr pos pins s1 σ H1 _ I1 q1) fun us s2 ⟨xs,H2,I2,r2,q2⟩=>⟨x::xs,H2,I2,.cons r1 r2,q2⟩
def tTup(t:TA):TE:=fun σ H Q=>t σ H fun xs H1=>xs.length<=sizeLine/\∀p,H1 p=none->Q (.ref p) (upd H1 p (.tup xs))
def tLst(t:TA):TE:=fun σ H Q=>t σ H fun xs H1=>xs.length<=sizeLine/\∀p,H1 p=none->Q (.ref p) (upd H1 p (.lst xs))
theorem oF{x1}(h:PA X es t):PE X (.Tuple es x1 pos) (tTup t):=by
 intro pins s σ H Q I hq;refine wpAny_Tuple_spliced (thn (h pos pins s σ H _ I hq) fun us s1 ⟨xs,H1,I1,r,z,q⟩=>⟨by rw[<-r.length];exact z,?_⟩);have hf:H1 s1.heap.objs.size=none:=I1.hok.fresh (aN _);refine⟨.ref s1.heap.objs.size,upd H1 s1.heap.objs.size (.tup xs),I1.laid (t':=s1.toks) (fun b u e=>cV _ e) (aN _) ?_,rfl,q _ hf⟩;exact⟨z,us,r,⟨_,gZ _ rfl,rfl,_,rfl⟩⟩
theorem lE(h:PA X es t):PE X (.List es pos) (tLst t):=by
 intro pins s σ H Q I hq;refine wpAny_List_spliced (thn (h pos pins s σ H _ I hq) fun us s1 ⟨xs,H1,I1,r,z,q⟩=>⟨by rw[<-r.length];exact z,?_⟩);have hf:H1 s1.heap.objs.size=none:=I1.hok.fresh (aN _);refine⟨.ref s1.heap.objs.size,upd H1 s1.heap.objs.size (.lst xs),I1.laid (t':=s1.toks) (fun b u e=>cV _ e) (aN _) ?_,rfl,q _ hf⟩;exact⟨z,us,0,r,gZ _ rfl⟩
end
abbrev Sp:=List V->Hp->VK->XK->Prop
abbrev CXT:=List Env->Hp->η->XK->ζ->η->Prop
structure Env0(P:ρ)(w:υ)(K:W.Frag)(mg:L4)(base:Heap)(A:χ)(outer:List Env)(s:η)(H:Hp):Prop where
 frames:A.frames=some outer
 mod:Mod K mg base
 bs:∀b o,base.get? b=some o->s.heap.get? b=some o/\H b=none
 bsz:base.objs.size<=s.heap.objs.size
 funs:s.heap.FunFrames base outer
 frf:∀b∈frs outer,H b=none
 hok:HOk P w H s.heap
 bare:AllBare s.gens
def CE(outer:List Env)(P:ρ)(w:υ)(H:Hp)(s:η)(Q:VK)(u:ζ)(s':η):Prop:=
 ∃v H',s'.os=s.os/\AllBare s'.gens/\Un (frs outer) [] H H' s.heap s'.heap/\HOk P w H' s'.heap/\RelV v u/\Q v H'
def CR(CX:CXT)(outer:List Env)(P:ρ)(w:υ)(H:Hp)(s:η)(Q:VK)(E:XK)(r:Result)(s':η):Prop:=
 match r with
 | .ok (.ret u)=>CE outer P w H s Q u s'
 | .ok _=>False
 | .error e=>CX outer H s E e s'
structure FnOk(P:ρ)(w:υ)(K:W.Frag)(mg:L4)(base:Heap)(CX:CXT)(k:Nat)(f:Addr)(fd:τ)(ps:List Str)(sp:Sp):Prop where
 len:∀vs H Q E,sp vs H Q E->vs.length=ps.length
 run:∀(A:χ) (outer:List Env) (s:η) (H:Hp) (args:Args) (us:List ζ) (vs:List V) (Q:VK) (E:XK),Room k A->Env0 P w K mg base A outer s H->BindsTo s fd args (ps.zip us)->Vals vs us->sp vs H Q E->
  codeAny (model P w) A (.call (.ref f) args) (CR CX outer P w H s Q E) s
theorem FnOk.mono{P:ρ}{w:υ}{K:W.Frag}{mg:L4}{base:Heap}{CX:CXT}{j k:Nat}{f:Addr}{fd:τ}{ps:List Str}{sp:Sp}(F:FnOk P w K mg base CX j f fd ps sp)(h:j<=k):
  FnOk P w K mg base CX k f fd ps sp:=⟨F.len,fun A outer s H args us vs Q E hr=>F.run A outer s H args us vs Q E (hr.mono h)⟩
theorem Env0.make{P:ρ}{w:υ}{K:W.Frag}{mg:L4}{base:Heap}{A:χ}{outer:List Env}{s:η}{H:Hp}(e:Env0 P w K mg base A outer s H)(C:Addr)(us:List ζ)(kw:List (Str×ζ)):
  Env0 P w K mg base (A.under (.builtin "type.__call__" ⟨.ref C::us,kw⟩)) outer s H:=⟨by first |exact e.frames|(simpa[Around.under,Code.envs,Code.isFrame,pushEnvs]using e.frames),e.mod,e.bs,e.bsz,e.funs,e.frf,e.hok,e.bare⟩
theorem Env0.in1{P:ρ}{w:υ}{K:W.Frag}{mg:L4}{base:Heap}{A:χ}{outer:List Env}{s:η}{H:Hp}(e:Env0 P w K mg base A outer s H):
  Env0 P w K mg base A.in1 outer s H:=⟨e.frames,e.mod,e.bs,e.bsz,e.funs,e.frf,e.hok,e.bare⟩
section
variable{X:Cx}{pins:L1}{σ:St}{H:Hp}{s s':η}
theorem Inv.env0(I:Inv X pins σ H s):Env0 X.prog X.w X.K X.mg X.base X.A X.stack s H:=
 ⟨I.ok.frames,I.ok.mod,I.bs,dO I.ok.bsz I.sz,I.stack,I.stkFree,I.hok,I.bare⟩
theorem Inv.after{Q:VK}{u:ζ}(I:Inv X pins σ H s)(h:CE X.stack X.prog X.w H s Q u s'):EP X pins σ Q u s':=by
 obtain⟨v,H',os,bare,un,hok,r,q⟩:=h;obtain⟨hh,g,d,t,os'⟩:=s';obtain rfl:os'=s.os:=os;exact⟨v,H',I.call (h':=hh) (g':=g) (d':=d) (t':=t) (ch:=[]) un hok bare (fun b z=>absurd z (by simp)),r,q⟩
end
def tCall(sp:Sp)(dvs:List V)(E:XK)(t:TA):TE:=fun σ H Q=>t σ H fun vs H1=>sp (vs++dvs) H1 Q E
def tMeth(C:Addr)(m:Str)(sp:Sp)(dvs:List V)(E:XK)(ta:TE)(t:TA):TE:=fun σ H Q=>ta σ H fun x H1=>∃a dx fs,x= .ref a/\H1 a=some (.ins C dx fs)/\fs.lookup m=none/\
 t σ H1 fun vs H2=>sp (x::(vs++dvs)) H2 Q E
def tMake(C:Addr)(sp:Sp)(dvs:List V)(E:XK)(t:TA):TE:=fun σ H Q=>t σ H fun vs H1=>∀x dx,H1 x=none->H1 dx=none->dx≠x->
 sp (.ref x::(vs++dvs)) (upd (upd H1 dx (.own x)) x (.ins C dx [])) (fun v H2=>v= .non/\Q (.ref x) H2) E
def Binds(K:W.Frag)(fd:τ)(ps:List Str)(ds:List ζ):Prop:=
 ∀(s:η) (us:List ζ),K.In s.heap->(us++ds).length=ps.length->BindsTo s fd ⟨us,[]⟩ (ps.zip (us++ds))
theorem Binds.all{K:W.Frag}{fd:τ}{ps:List Str}(h:∀us:List ζ,us.length=ps.length->bindArgs fd ⟨us,[]⟩=pure (ps.zip us)):Binds K fd ps []:=fun s us _ hl=>by
 rw[u9]at hl⊢;exact .of_eq (h us hl)
def Passes(CX:CXT)(X:Cx)(E:XK):Prop:=∀(pins:L1) (σ:St) (H:Hp) (s:η) (e:ζ) (s':η),Inv X pins σ H s->CX X.stack H s E e s'->X.xe e s'
section
variable{X:Cx}{CX:CXT}{k:Nat}{f C:Addr}{fd:τ}{ps:List Str}{sp:Sp}{dvs:List V}{ds:List ζ}{E:XK}{x m:Str}{p pos apos:Pos}{e o:Expr}{es:List Expr}{ta:TE}{t:TA}
theorem run_fn{pins:L1}{σ:St}{H:Hp}{s:η}{Q:VK}{us:List ζ}{vs:List V}(F:FnOk X.prog X.w X.K X.mg X.base CX k f fd ps sp)(hr:Room k X.A)(hb:Binds X.K fd ps ds)(hd:Vals dvs ds)(hx:Passes CX X E)
  (I:Inv X pins σ H s)(r:Vals vs us)(h:sp (vs++dvs) H Q E):wpAny (model X.prog X.w) X.A (call (.ref f) us) (EP X pins σ Q) X.xe s:=by
 have r2:Vals (vs++dvs) (us++ds):=r.append hd;have hl:(us++ds).length=ps.length:=by rw[<-r2.length];exact F.len _ _ _ _ h
 refine Ul (Qu (F.run X.A X.stack s H ⟨us,[]⟩ (us++ds) (vs++dvs) Q E hr I.env0 (hb s us I.kIn hl) r2 h) fun r s' hq=> ?_);cases r with
 |error e=>exact hx pins σ H s e s' I hq
 |ok fl=>
  cases fl with
  |ret u=>exact I.after hq
  |next=>exact False.elim hq
  |brk=>exact False.elim hq
  |cont=>exact False.elim hq
theorem pe_call(F:FnOk X.prog X.w X.K X.mg X.base CX k f fd ps sp)(hr:Room k X.A)(hg:Gl X x)(hm:X.mg x=some (.ref f))(hk:PySem.W.keepIn X.K (.ref f)=true)(hb:Binds X.K fd ps ds)(hd:Vals dvs ds)(hx:Passes CX X E)(ha:PA X (e::es) t)(hdb:(x==("__debug__":Str))=false:=by decide)(he:starEach (e::es) X.env=(false,eval e X.env)::starEach es X.env:=by rfl)(hpl:(backTo pos (starEach es X.env)).any (·.1)=false:=by rfl):
  PE X (.Call (.Name x p) (e::es) [] pos) (tCall sp dvs E t):=by
 intro pins s σ H Q I h;refine Kv (ld_glob I hg hm ?_ hdb);refine wda (h₀:=X.base) I.ok.mod.kin hk (thn (ha pos pins s σ H _ I h) fun us s1 ⟨vs,H1,I1,r,q⟩=>⟨I1.kIn,?_⟩) he hpl;exact run_fn F hr hb hd hx I1 r q
theorem pe_meth{pl:Sem Bool}(he:PE X o ta)(c:Cls X.K C)(hm:Meth X.K C m f)(F:FnOk X.prog X.w X.K X.mg X.base CX k f fd ps sp)(hr:Room k X.A)(hb:Binds X.K fd ps ds)(hd:Vals dvs ds)(hx:Passes CX X E)(ha:PA X (e::es) t)(hst:starEach (e::es) X.env=(false,eval e X.env)::starEach es X.env:=by rfl)(hpl:(backTo pos (starEach es X.env)).any (·.1)=false:=by rfl)(ht:eval (.Call (.Attribute o m apos) (e::es) [] pos) X.env=(do
   let ov<-eval o X.env
   standAt apos.atName
   let(f,first)<-holding [ov] (getMethod ov m pl)
   callWith pos f first (backTo pos (starEach (e::es) X.env)) (backToKw pos (keywordEach [] X.env))):=by rfl):
  PE X (.Call (.Attribute o m apos) (e::es) [] pos) (tMeth C m sp dvs E ta t):=by
 intro pins s σ H Q I h;refine wgi (pl:=pl) (thn (he pins s σ H _ I h) fun u s1 ⟨x,H1,I1,rx,a,dx,fs,ex,ea,l,q⟩=> ?_) ht;subst ex;obtain rfl:u=Value.ref a:=rx;refine getmeth_ok I1 ea c hm l ?_;refine wda (first:=[.ref a]) (h₀:=X.base) I.ok.mod.kin hm.kp (thn (ha pos pins s1 σ H1 _ I1 q) fun us s2 ⟨vs,H2,I2,r,q2⟩=>⟨I2.kIn,?_⟩) hst hpl;exact run_fn (us:= .ref a::us) (vs:= .ref a::vs) F hr hb hd hx I2 (.cons rfl r) q2
theorem pe_meth0{pl:Sem Bool}(he:PE X o ta)(c:Cls X.K C)(hm:Meth X.K C m f)(F:FnOk X.prog X.w X.K X.mg X.base CX k f fd ps sp)(hr:Room k X.A)(hb:Binds X.K fd ps ds)(hd:Vals dvs ds)(hx:Passes CX X E)(ht:eval (.Call (.Attribute o m apos) [] [] pos) X.env=(do
   let ov<-eval o X.env
   standAt apos.atName
   let(f,first)<-holding [ov] (getMethod ov m pl)
   callWith pos f first (backTo pos (starEach [] X.env)) (backToKw pos (keywordEach [] X.env))):=by rfl):
  PE X (.Call (.Attribute o m apos) [] [] pos) (tMeth C m sp dvs E ta tNil):=by
 intro pins s σ H Q I h;refine wgi (pl:=pl) (thn (he pins s σ H _ I h) fun u s1 ⟨x,H1,I1,rx,a,dx,fs,ex,ea,l,q⟩=> ?_) ht;subst ex;obtain rfl:u=Value.ref a:=rx;refine getmeth_ok I1 ea c hm l ?_;exact PySem.W.callWith_K0 (first:=[.ref a]) I1.kIn hm.kp (run_fn (us:=[.ref a]) (vs:=[.ref a]) F hr hb hd hx I1 (.cons rfl .nil) q)
structure Mk(K:W.Frag)(C f:Addr):Prop where
 makes:PySem.W.makesIn K C=true
 init:PySem.W.findIn K (.ref C) "__init__"=some (some (.ref f))
 fn:PySem.W.isFn K (.ref f)=true
 kp:PySem.W.keepIn K (.ref C)=true
theorem run_make{pins:L1}{σ:St}{H:Hp}{s:η}{Q:VK}{us:List ζ}{vs:List V}(M:Mk X.K C f)(F:FnOk X.prog X.w X.K X.mg X.base CX k f fd ps sp)(hr:Room (k+1) X.A)(hb:Binds X.K fd ps ds)(hd:Vals dvs ds)(hx:Passes CX X E)(I:Inv X pins σ H s)(r:Vals vs us)(h:∀x dx,H x=none->H dx=none->dx≠x->sp (.ref x::(vs++dvs)) (upd (upd H dx (.own x)) x (.ins C dx [])) (fun v H2=>v= .non/\Q (.ref x) H2) E):
  wpAny (model X.prog X.w) X.A (call (.ref C) us) (EP X pins σ Q) X.xe s:=by
 have hq:=h (s.heap.objs.size+1) s.heap.objs.size (I.hok.fresh (Ft _)) (I.hok.fresh (aN _)) (cQ (sI _));have I2:=Inv.made (C:=C) I;have r2:Vals (V.ref (s.heap.objs.size+1)::(vs++dvs)) (Value.ref (s.heap.objs.size+1)::(us++ds)):= .cons rfl (r.append hd);have hl:(Value.ref (s.heap.objs.size+1)::us++ds).length=ps.length:=by
  have e:=r2.length;rw[F.len _ _ _ _ hq]at e;exact e.symm
 refine Ul (make_map (f:=f) I.kIn M.makes M.init (beq_iff_eq.mp M.fn) (Qu (F.run _ X.stack _ _ ⟨Value.ref (s.heap.objs.size+1)::us,[]⟩ (Value.ref (s.heap.objs.size+1)::(us++ds)) _ _ E (hr.make C us [])
  (I2.env0.make C us []) (hb _ (Value.ref (s.heap.objs.size+1)::us) I2.kIn hl) r2 hq) fun r s' hq'=> ?_))
 cases r with
 |error e=>exact hx pins σ _ _ e s' I2 hq'
 |ok fl=>
  cases fl with
  |ret u=>
   obtain⟨v,H',I3,rv,ev,q3⟩:=I2.after hq';subst ev;exact⟨rv,⟨V.ref (s.heap.objs.size+1),H',I3,rfl,q3⟩⟩
  |next=>exact False.elim hq'
  |brk=>exact False.elim hq'
  |cont=>exact False.elim hq'
theorem pe_make(M:Mk X.K C f)(F:FnOk X.prog X.w X.K X.mg X.base CX k f fd ps sp)(hr:Room (k+1) X.A)(hg:Gl X x)(hm:X.mg x=some (.ref C))(hb:Binds X.K fd ps ds)(hd:Vals dvs ds)(hx:Passes CX X E)(ha:PA X (e::es) t)(hdb:(x==("__debug__":Str))=false:=by decide)(he:starEach (e::es) X.env=(false,eval e X.env)::starEach es X.env:=by rfl)(hpl:(backTo pos (starEach es X.env)).any (·.1)=false:=by rfl):
  PE X (.Call (.Name x p) (e::es) [] pos) (tMake C sp dvs E t):=by
 intro pins s σ H Q I h;refine Kv (ld_glob I hg hm ?_ hdb);refine wda (h₀:=X.base) I.ok.mod.kin M.kp (thn (ha pos pins s σ H _ I h) fun us s1 ⟨vs,H1,I1,r,q⟩=>⟨I1.kIn,?_⟩) he hpl;exact run_make M F hr hb hd hx I1 r q
end
structure FnScope(N P:List Str)(sc:Scope):Prop where
 kind:sc.kind= .function
 co:sc.isCoroutine=false
 gen:sc.isGenerator=false
 nd:N.Nodup
 pre:N.take P.length=P
 par:∀x∈P,sc.names.lookup x=some .local\/sc.names.lookup x=some .cell
 nofree:∀y∈sc.names,y.2≠.free
theorem bindL_out{kindOf:Str->Option NameKind}{x:Str}:∀{binds:List (Str×ζ)} {m:L4},(∀v,(x,v)∉binds)->bindL kindOf binds m x=m x
 |[],_,_=>rfl
 |(n,v)::r,m,h=>by
  unfold bindL;rw[bindL_out fun w hw=>h w (dZ _ hw)];split
  ·have:x≠n:=by rintro rfl;exact h v dY
   simp[this]
  ·rfl
theorem bindC_out{kindOf:Str->Option NameKind}{x:Str}:∀{binds:List (Str×ζ)} {m:L4},(∀v,(x,v)∉binds)->bindC kindOf binds m x=m x
 |[],_,_=>rfl
 |(n,v)::r,m,h=>by
  unfold bindC;rw[bindC_out fun w hw=>h w (dZ _ hw)];split
  ·rfl
  ·have:x≠n:=by rintro rfl;exact h v dY
   simp[this]
theorem bindL_get{kindOf:Str->Option NameKind}{x:Str}{v:ζ}:∀{P:List Str} {vs:List ζ} {i:Nat} {m:L4},P.Nodup->P[i]? =some x->vs[i]? =some v->kindOf x=some .local->
  bindL kindOf (P.zip vs) m x=some v
 |[],_,_,_,_,h,_,_=>by simp at h
 |_::_,[],_,_,_,_,h,_=>by simp at h
 |p::P,w::vs,0,m,nd,h1,h2,hk=>by
  simp at h1 h2;subst h1;subst h2;show bindL kindOf ((p,w)::P.zip vs) m p=_;unfold bindL;rw[bindL_out fun v hv=>(Km.mp nd).1 (wgj hv).1,aB hk];simp
 |p::P,w::vs,i+1,m,nd,h1,h2,hk=>by
  show bindL kindOf ((p,w)::P.zip vs) m x=_;unfold bindL;exact bindL_get (i:=i) (Km.mp nd).2 (by simpa using h1) (by simpa using h2) hk
theorem bindC_get{kindOf:Str->Option NameKind}{x:Str}{v:ζ}:∀{P:List Str} {vs:List ζ} {i:Nat} {m:L4},P.Nodup->P[i]? =some x->vs[i]? =some v->kindOf x≠some .local->
  bindC kindOf (P.zip vs) m x=some v
 |[],_,_,_,_,h,_,_=>by simp at h
 |_::_,[],_,_,_,_,h,_=>by simp at h
 |p::P,w::vs,0,m,nd,h1,h2,hk=>by
  simp at h1 h2;subst h1;subst h2;show bindC kindOf ((p,w)::P.zip vs) m p=_;unfold bindC;rw[bindC_out fun v hv=>(Km.mp nd).1 (wgj hv).1,aq hk];simp
 |p::P,w::vs,i+1,m,nd,h1,h2,hk=>by
  show bindC kindOf ((p,w)::P.zip vs) m x=_;unfold bindC;exact bindC_get (i:=i) (Km.mp nd).2 (by simpa using h1) (by simpa using h2) hk
noncomputable def start(N:List Str)(vs:List V):St:=vs.map some++List.replicate (N.length-vs.length) none
noncomputable def cxOf(CX:CXT)(P:ρ)(w:υ)(K:W.Frag)(mg:L4)(base:Heap)(N:List Str)(qual:Str)(scope:Scope)(f:Addr)(cd:ζ)(A:χ)(outer:List Env)(s:η)(H:Hp)(E:XK):Cx where
 prog:=P
 w:=w
 K:=K
 mg:=mg
 base:=base
 A:=A.deeper (envOfC qual scope s.heap.objs.size f cd)
 N:=N
 s₀:=s
 H₀:=H
 env:=envOfC qual scope s.heap.objs.size f cd
 outer:=outer
 stack:=envOfC qual scope s.heap.objs.size f cd::outer
 ex:=[]
 calm:=true
 fn:=fun _=>true
 pn:=[]
 xe:=fun e s'=>wpAny (model P w) (A.deeper (envOfC qual scope s.heap.objs.size f cd)) (leaving (envOfC qual scope s.heap.objs.size f cd) e) (fun _ s''=>CX outer H s E e s'') (fun e' s''=>CX outer H s E e' s'') s'
theorem cell_has{sc:Scope}{n:Nat}{x:Str}(h:sc.names.lookup x=some .cell):∃c,(cellsFrom n sc.names []).lookup x=some c:=by
 have q:=wgf sc.names n [] (.inl h);exact Option.isSome_iff_exists.mp q
theorem inv_start{CX:CXT}{P:ρ}{w:υ}{K:W.Frag}{mg:L4}{base:Heap}{N ps:List Str}{qual:Str}{scope:Scope}{f:Addr}{cd:ζ}{A:χ}{outer:List Env}{s s1:η}{H:Hp}{E:XK}{us:List ζ}{vs:List V}
  (S:FnScope N ps scope)(hd:A.handled=none)(e0:Env0 P w K mg base A outer s H)(hl:vs.length=ps.length)(r:Vals vs us)(x:InCallC s s.heap.objs.size (bindL (envOfC qual scope s.heap.objs.size f cd).kindOf (ps.zip us) fun _=>none) (cellsFrom (s.heap.objs.size+1) scope.names []) (bindC (envOfC qual scope s.heap.objs.size f cd).kindOf (ps.zip us) fun _=>none) s1):
  Inv (cxOf CX P w K mg base N qual scope f cd A outer s H E) [] (start N vs) H s1:=by
 have hpl:ps.length<=N.length:=by have:=iD List.length S.pre;rw[m5]at this;omega
 obtain⟨h1,tk,rfl,hk⟩:=x.done;have noA:∀b:Addr,b∉(cxOf CX P w K mg base N qual scope f cd A outer s H E).ex:=fun b z=>absurd (show b∈([]:List Addr)from z) (by simp);refine⟨⟨e0.mod,S.kind,rfl,rfl,aN _,fun y z c h1 h2=> ?_,fun y hy=> ?_,fun y c _ h=> ?_,fun _=>hd,Around.frames_deeper e0.frames,.inr ⟨rfl,rfl⟩,fun b z=>absurd z (noA b),e0.bs,e0.bsz,fun b _ _=>noA b,fun b z=>absurd z (noA b),e0.funs,e0.frf⟩,
  rfl,e0.bare,Un.kept hk,⟨_,x.toInCall.ns,fun i y v h1 h2 h3=> ?_⟩,fun y c h=>⟨_,x.cell y c h⟩,e0.hok.fresh (aN _),fun y c h=> ?_,fun p hp=>absurd (show p∈([]:L1)from hp) (by simp),e0.hok.kept hk,?_⟩
 ·exact name_of_addr x.apart (Cv h1) (Cv h2)
 ·have hy:scope.names.lookup y=some .cell\/scope.names.lookup y=some .free:=hy;rcases hy with hy|hy
  ·exact cell_has hy
  ·exact absurd rfl (S.nofree _ (Cv hy))
 ·exact cW (x.above y c (Cv h))
 ·have hi:i<vs.length:=by
   unfold start at h2;by_cases hi:i<vs.length
   ·exact hi
   ·rw[Yv (by simpa using hi)]at h2;rw[List.getElem?_replicate]at h2;split at h2<;>cases h2
  have ha:vs[i]? =some v:=by
   unfold start at h2;rw[ZS (by simpa using hi),dD]at h2;cases e:vs[i]? with
   |none=>rw[e]at h2;cases h2
   |some a=>rw[e]at h2;cases h2;rfl
  obtain⟨u,hu,rv⟩:=r.get ha;have hp:ps[i]? =some y:=by
   rw[<-S.pre,List.getElem?_take_of_lt (by omega)];exact h1
  have ndP:ps.Nodup:=by rw[<-S.pre];exact S.nd.sublist (List.take_sublist _ _)
  refine⟨u,rv,?_⟩;rcases S.par y (jq hp)with k|k
  ·exact .inl ⟨k,bindL_get ndP hp hu k⟩
  ·obtain⟨c,e⟩:=cell_has (n:=s.heap.objs.size+1) k;refine .inr ⟨.inl k,c,e,?_⟩;have q:=x.cell y c e;rw[bindC_get ndP hp hu (by show scope.names.lookup y≠_;rw[k];decide)]at q;exact q
 ·exact e0.hok.fresh (cW (x.above y c (Cv h)))
 ·unfold start;show _=N.length;rw[gB,aJ,ydz];omega
theorem fn_of{CX:CXT}{P:ρ}{w:υ}{K:W.Frag}{mg:L4}{base:Heap}{k:Nat}{f:Addr}{name qual:Str}{params:Arguments}{body:List Stmt}{scope:Scope}{dV kV doc pm cdv ct oc:ζ}{an od:Option Addr}{osl:Array (Option ζ)}{N ps:List Str}{sp:Sp}(lk:K.lookup f=some ⟨oc,od,.func (PySem.W.fnOf name qual params body scope dV kV doc pm an cdv ct),osl⟩)(hcd:PySem.W.codeIn K cdv qual=true)(S:FnScope N ps scope)(len:∀vs H Q E,sp vs H Q E->vs.length=ps.length)(hbody:∀(A:χ) (outer:List Env) (s:η) (H:Hp) (vs:List V) (Q:VK) (E:XK),Room k (A.deeper (envOfC qual scope s.heap.objs.size f cdv))->sp vs H Q E->
   ∃t,PSs (cxOf CX P w K mg base N qual scope f cdv A outer s H E) body t/\t {nx:=fun _ H'=>Q .non H',rt:=Q} (start N vs) H):
  FnOk P w K mg base CX (k+1) f (PySem.W.fnOf name qual params body scope dV kV doc pm an cdv ct) ps sp:=by
 refine⟨len,fun A outer s H args us vs Q E hr e0 hb r hsp=> ?_⟩;have hl:=len _ _ _ _ hsp;have KX:K.In s.heap:=e0.mod.kin.keeps fun b o e=>(e0.bs b o e).1;have lim:s.heap.NoLimit:=e0.mod.nolimit.keeps fun b o e=>(e0.bs b o e).1;have hkind:∀y∈ps.zip us,scope.names.lookup y.1=some .local\/(scope.names.lookup y.1=some .cell/\((cellsFrom (s.heap.objs.size+1) scope.names []).lookup y.1).isSome=true):=fun⟨n,v⟩ hy=>by
  rcases S.par n (wgj hy).1 with q|q
  ·exact .inl q
  ·exact .inr ⟨q,wgf _ _ _ (.inl q)⟩
 refine codeAny_call_function hr.depth (KX _ _ lk) rfl S.co S.gen rfl (PySem.W.codeRec_of KX hcd) (hb _ _ _ _ ?_);refine wpAny_newFunctionEnv_cells S.kind hkind fun env he s1 x=> ?_;subst he;refine⟨lim.keeps x.toInCall.keep,codeAny_func ?_⟩;obtain⟨t,ht,hq⟩:=hbody A outer s H vs Q E (hr.deeper _) hsp;have I:Inv (cxOf CX P w K mg base N qual scope f cdv A outer s H E) [] (start N vs) H s1:=inv_start S hr.hd e0 hl r x;refine yC (ht [] s1 (start N vs) H _ I hq) (fun fl s' hs=> ?_) fun e s' hs=>hs;have fin:∀{σ':St} {H':Hp} {v:V} {u:ζ},Inv (cxOf CX P w K mg base N qual scope f cdv A outer s H E) [] σ' H' s'->RelV v u->Q v H'->CE outer P w H s Q u s':=
  fun{σ' H' v u} J rv q=>⟨v,H',J.os,J.bare,J.base,J.hok,rv,q⟩
 cases fl with
 |ret u=>
  obtain⟨v,σ',H',J,rv,q⟩:=hs;exact fin J rv q
 |next=>
  obtain⟨σ',H',J,q⟩:=hs;exact fin (v:=V.non) (u:=Value.none) J rfl q
 |brk=>
  obtain⟨_,_,_,q⟩:=hs;exact False.elim q
 |cont=>
  obtain⟨_,_,_,q⟩:=hs;exact False.elim q
section
variable{X:Cx}{x:Str}{p pos:Pos}{e:Expr}{es:List Expr}{t:TA}{id T:String}{r:List V->Hp->VK->Prop}
def tCB(r:List V->Hp->VK->Prop)(t:TA):TE:=fun σ H Q=>t σ H fun vs H1=>r vs H1 Q
theorem pe_callB(hc:CallR X (.builtin id) r)(hg:Gl X x)(hm:X.mg x=none)(hv:bootBuiltins x=some (.builtin id))(ha:PA X (e::es) t)(hn:x≠"__name__":=by decide)(hdb:(x==("__debug__":Str))=false:=by decide)(he:starEach (e::es) X.env=(false,eval e X.env)::starEach es X.env:=by rfl)(hpl:(backTo pos (starEach es X.env)).any (·.1)=false:=by rfl):PE X (.Call (.Name x p) (e::es) [] pos) (tCB r t):=by
 intro pins s σ H Q I h;refine Kv (yt I hg hm hv ?_ hn hdb);exact wcb (thn (ha pos pins s σ H _ I h) fun us s1 ⟨vs,H1,I1,r1,q1⟩=>hc pins s1 σ H1 vs us Q I1 r1 q1) he hpl
theorem pB{X:Cx}{x:Str}{id:String}{r:List V->Hp->VK->Prop}{e:Expr}{es:List Expr}{t:TA}{p pos:Pos}(hc:CallR X (.builtin id) r)(hm:X.mg x=none)(ha:PA X (e::es) t)(hg:Gl X x:=by rfl)(hv:bootBuiltins x=some (.builtin id):=by decide+kernel)(hn:x≠"__name__":=by decide)(hdb:(x==("__debug__":Str))=false:=by decide)(he:starEach (e::es) X.env=(false,eval e X.env)::starEach es X.env:=by rfl)(hpl:(backTo pos (starEach es X.env)).any (·.1)=false:=by rfl):PE X (.Call (.Name x p) (e::es) [] pos) (tCB r t):=pe_callB hc hg hm hv ha hn hdb he hpl
theorem pe_callTy(hc:CallR X (.type T) r)(hg:Gl X x)(hm:X.mg x=none)(hv:bootBuiltins x=some (.type T))(ha:PA X (e::es) t)(hn:x≠"__name__":=by decide)(hdb:(x==("__debug__":Str))=false:=by decide)(he:starEach (e::es) X.env=(false,eval e X.env)::starEach es X.env:=by rfl)(hpl:(backTo pos (starEach es X.env)).any (·.1)=false:=by rfl):PE X (.Call (.Name x p) (e::es) [] pos) (tCB r t):=by
 intro pins s σ H Q I h;refine Kv (yt I hg hm hv ?_ hn hdb);exact Ia (thn (ha pos pins s σ H _ I h) fun us s1 ⟨vs,H1,I1,r1,q1⟩=>hc pins s1 σ H1 vs us Q I1 r1 q1) he hpl
theorem pT{X:Cx}{x:Str}{T:String}{r:List V->Hp->VK->Prop}{e:Expr}{es:List Expr}{t:TA}{p pos:Pos}(hc:CallR X (.type T) r)(hm:X.mg x=none)(ha:PA X (e::es) t)(hg:Gl X x:=by rfl)(hv:bootBuiltins x=some (.type T):=by decide+kernel)(hn:x≠"__name__":=by decide)(hdb:(x==("__debug__":Str))=false:=by decide)(he:starEach (e::es) X.env=(false,eval e X.env)::starEach es X.env:=by rfl)(hpl:(backTo pos (starEach es X.env)).any (·.1)=false:=by rfl):PE X (.Call (.Name x p) (e::es) [] pos) (tCB r t):=pe_callTy hc hg hm hv ha hn hdb he hpl
end
end L2
namespace HT
open PySem PyProof.Rows
noncomputable def lexLt:List Int->List Int->Bool
 |[],[]=>false
 |[],_::_=>true
 |_::_,[]=>false
 |x::xs,y::ys=>if x=y then lexLt xs ys else decide (x<y)
theorem lexLt_cons(x y:Int)(xs ys:List Int):lexLt (x::xs) (y::ys)=if x=y then lexLt xs ys else decide (x<y):=rfl
theorem lexLt_nil_nil:lexLt [] []=false:=rfl
theorem lexLt_nil_cons(y:Int)(ys:List Int):lexLt [] (y::ys)=true:=rfl
theorem lexLt_cons_nil(x:Int)(xs:List Int):lexLt (x::xs) []=false:=rfl
theorem eqAt_int(A:χ)(s:η)(a:Int)(t:Tok)(c:Int)(u:Tok):∃e,SeqAt.EqAt A s (.int a t) (.int c u) e/\(e=true↔a=c):=
 ⟨(a==c),SeqAt.EqAt.int_int a t c u,by simp⟩
theorem rcLt_int(A:χ)(s:η)(a:Int)(t:Tok)(c:Int)(u:Tok)(prog:ρ)(w:υ)(E:L3)(Q:L3)(h:Q (.bool (decide (a<c))) s):
  wpAny (model prog w) A (richCompare .Lt (.int a t) (.int c u)) Q E s:=
 (PyProof.Rows.lt_int h:wpAny (model prog w) A (compareOp .Lt (.int a t) (.int c u)) Q E s)
section
open PySem.SeqAt
open PySem.AutoSeq1 (wpAny_loadPart')
open PySem.MeetsSeq PySem.MeetsSeq2 PySem.MeetsSeq3
theorem tuple_lt_ints(l b:Addr)(items items2:Array ζ)(n n2:Nat)(dd dd2:Option Addr)(sl sl2:Array (Option ζ))(ns ms:List Int)(hi:IntsAre items.toList ns)(hj:IntsAre items2.toList ms):
  Meets (Builtin.«tuple.__lt__» ⟨[.ref l,.ref b],[]⟩)
   (fun _ R s=>s.heap.get? l=some {cls:= .type "tuple",dict:=dd,data:= .seq items n,slots:=sl}/\s.heap.get? b=some {cls:= .type "tuple",dict:=dd2,data:= .seq items2 n2,slots:=sl2}/\
    R (.ok (.ret (.bool (lexLt ns ms)))) s):=
 .of_wp fun prog w A R s h=>by
  obtain⟨hp,g,d,tk,os⟩:=s;obtain⟨hl,hb,h⟩:=h;have f2:=AutoSeq1.sub_tuple_tuple;have z1:items.size=ns.length:=by rw[<-hi.length];simp
  have z2:items2.size=ms.length:=by rw[<-hj.length];simp
  wp_walk using wpAny_loadPart' hl,wpAny_loadPart' hb,wpAny_forIn_list _ (fun rest b s'=>b.1=none/\s'=⟨hp,g,d,tk,os⟩/\∃(vs ws:List ζ) (ns' ms':List Int),rest=vs.zip ws/\
   IntsAre vs ns'/\IntsAre ws ms'/\ns'.length+items2.size=ms'.length+items.size/\R (.ok (.ret (.bool (lexLt ns' ms')))) ⟨hp,g,d,tk,os⟩) _
  case turn=>
   rintro⟨y,x⟩ rest b s' ⟨hb',rfl,vs,ws,ns',ms',hz,hvi,hwi,hlen,hR⟩;cases hvi with
   |nil=>rw[List.zip_nil_left]at hz;cases hz
   |cons a t hvi'=>
    cases hwi with
    |nil=>rw[List.zip_nil_right]at hz;cases hz
    |cons c u hwi'=>
     rw[wem]at hz;injection hz with hyx hrest
     injection hyx with hy hx
     subst hy hx;rw[lexLt_cons]at hR;simp only[uW]at hlen;obtain⟨e,he,hiff⟩:=eqAt_int A.in1 ⟨hp,g,d,tk,os⟩ a t c u;refine ao (he prog w _ _ ?_);cases e with
     |true=>
      rw[aB (hiff.mp rfl)]at hR
      wp_walk
      exact⟨rfl,rfl,_,_,_,_,hrest,hvi',hwi',by omega,hR⟩
     |false=>
      rw[aq (fun q=>absurd (hiff.mpr q) rN)]at hR;have hri:=rcLt_int A.in1 ⟨hp,g,d,tk,os⟩ a t c u prog w
      wp_walk using hri
      exact⟨_,rfl,by simpa using hR⟩
  case fin=>
   rintro⟨b1,b2⟩ s' ⟨hb',rfl,vs,ws,ns',ms',hz,hvi,hwi,hlen,hR⟩;simp only at hb';subst hb';have hv:lexLt ns' ms'=decide (items.size<items2.size):=by
    cases hvi with
    |nil=>
     cases hwi with
     |nil=>
      simp only[QM]at hlen;rw[lexLt_nil_nil];exact(iY (by omega)).symm
     |cons c u hw=>
      simp only[QM,uW]at hlen;rw[lexLt_nil_cons];exact(fD (by omega)).symm
    |cons a t hv=>
     cases hwi with
     |nil=>
      simp only[QM,uW]at hlen;rw[lexLt_cons_nil];exact(iY (by omega)).symm
     |cons c u hw=>
      rw[wem]at hz;cases hz
   rw[hv]at hR
   wp_walk
   exact⟨_,rfl,by simpa[Builtin.Tuple.tupleCompareSizes]using hR⟩
  case h=>
   exact⟨rfl,rfl,items.toList,items2.toList,ns,ms,rfl,hi,hj,by omega,h⟩
end
section
variable{prog:ρ}{w:υ}{A:χ}{E:L3}{s:η}
theorem lt_tupInts{l b:Addr}{items items2:Array ζ}{ns ms:List Int}{Q:L3}(hl:IsTup s.heap l items)(hb:IsTup s.heap b items2)(hi:IntsAre items.toList ns)(hj:IntsAre items2.toList ms)(hu:A.units<cLine)(h:Q (.bool (lexLt ns ms)) s):wpAny (model prog w) A (compareOp .Lt (.ref l) (.ref b)) Q E s:=by
 obtain⟨⟨cls,dd,data,sl⟩,ho,hc,n,hd⟩:=id hl;obtain⟨⟨cls2,dd2,data2,sl2⟩,ho2,hc2,n2,hd2⟩:=id hb;simp only at hc hd hc2 hd2;subst hc hd hc2 hd2;exact richCompare_meets_room (op:= .Lt) ⟨_,ho,rfl⟩ ⟨_,ho2,rfl⟩ PySem.F.slot_tuple_lt PySem.F.entry_tuple_lt (PySem.F.args_tuple_lt_2 _ _) (tuple_lt_ints l b items items2 n n2 dd dd2 sl sl2 ns ms hi hj)
  ⟨ho,ho2,show Value.bool (lexLt ns ms)≠Value.notImplemented/\Q (.bool (lexLt ns ms)) s from⟨(fun x=>nomatch x),h⟩⟩ hu
theorem cat_tup{t b:Addr}{vs ws:List ζ}{Q:L3}(ht:IsTup s.heap t vs.toArray)(hb:IsTup s.heap b ws.toArray)(hv:vs≠[])(h1:ws=[]->Q (.ref t) s)(h2:ws≠[]->Q (.ref s.heap.objs.size) {s with heap:=s.heap.push {cls:= .type "tuple",data:= .seq (vs++ws).toArray}})(hsz:vs.length+ws.length<=sizeLine):wpAny (model prog w) A (binaryOp .Add (.ref t) (.ref b)) Q E s:=by
 obtain⟨⟨cls,dd,data,sl⟩,ho,hc,n,hd⟩:=id ht;obtain⟨⟨cls2,dd2,data2,sl2⟩,ho2,hc2,n2,hd2⟩:=id hb;simp only at hc hd hc2 hd2;subst hc hd hc2 hd2;have e:vs.toArray++ws.toArray=(vs++ws).toArray:=by simp
 by_cases hw:ws=[]
 ·exact wgk ⟨_,ho,rfl⟩ ⟨_,ho2,rfl⟩ wdp wfs wch wcc (wbv _ _)
   (tuple_addW1 t b vs.toArray ws.toArray n n2 dd dd2 sl sl2 (by simpa using hv) (by simp[hw])) ⟨ho,ho2,h1 hw⟩
 ·refine wgk ⟨_,ho,rfl⟩ ⟨_,ho2,rfl⟩ wdp wfs wch wcc (wbv _ _)
   (tuple_addW2 t b vs.toArray ws.toArray n n2 dd dd2 sl sl2 (by simpa using hv) (by simpa using hw) (by rw[fu,fu];exact hsz)) ⟨ho,ho2,?_⟩
  rw[e];exact h2 hw
noncomputable def sIx(n d:Nat):Option Int->Nat
 |none=>d
 |some v=>if v<0 then(v+(n:Int)).toNat else min v.toNat n
theorem sIx_none(n d:Nat):sIx n d none=d:=rfl
theorem sIx_nat(n d k:Nat):sIx n d (some (k:Int))=min k n:=by
 show(if(k:Int)<0 then((k:Int)+(n:Int)).toNat else min (k:Int).toNat n)=min k n;rw[aq (by omega),Fx]
theorem sIx_le(n d:Nat)(hd:d<=n)(o:Option Int):sIx n d o<=n:=by
 cases o with
 |none=>exact hd
 |some v=>
  show(if v<0 then(v+(n:Int)).toNat else min v.toNat n)<=n;by_cases hv:v<0
  ·rw[aB hv];omega
  ·rw[aq hv];exact Nat.min_le_right _ _
theorem clip_eq(v:Int)(n d:Nat):(if v<0 then max (v+(n:Int)) 0 else min v (n:Int))=((sIx n d (some v):Nat):Int):=by
 show(if v<0 then max (v+(n:Int)) 0 else min v (n:Int))=(((if v<0 then(v+(n:Int)).toNat else min v.toNat n):Nat):Int);by_cases hv:v<0
 ·simp only[aB hv];omega
 ·simp only[aq hv];omega
theorem adjust_gen(lo hi:Option Int)(n:Nat):Builtin.Slice.sliceAdjust lo hi 1 (n:Int)=(((sIx n 0 lo:Nat):Int),((sIx n n hi:Nat):Int)):=by
 have h1:¬((1:Int)<0):=by omega
 unfold Builtin.Slice.sliceAdjust;simp only[h1,VL];refine Prod.ext ?_ ?_
 ·cases lo with
  |none=>rfl
  |some v=>exact clip_eq v n 0
 ·cases hi with
  |none=>rfl
  |some v=>exact clip_eq v n n
theorem places_gen(i j:Nat):Builtin.Slice.slicePlaces (i:Int) (j:Int) 1=j-i:=by
 unfold Builtin.Slice.slicePlaces;have h1:(1:Int)>0:=by omega
 simp only[h1,Uj,whm];split<;>omega
theorem slicePart_{v:ζ}{o:Option Int}{Q:Option Int->η->Prop}(p:IsPart v o)(h:Q o s):wpAny (model prog w) A (Builtin.Slice.slicePartIndex v) Q E s:=by
 cases p with
 |none=>exact slicePart_none h
 |int i t=>exact slicePart_int h
theorem sliceApplied_gen{sl:Addr}{vl vu:ζ}{lo hi:Option Int}{n:Nat}{Q:Int×Int×Nat->η->Prop}(hs:s.heap.IsSliceOf sl vl vu .none)(pl:IsPart vl lo)(pu:IsPart vu hi)(h:Q (((sIx n 0 lo:Nat):Int),1,sIx n n hi-sIx n 0 lo) s):wpAny (model prog w) A (Builtin.Slice.sliceApplied (.ref sl) (pure (n:Int))) Q E s:=by
 obtain⟨os,hos,hcs,hds⟩:=id hs;unfold Builtin.Slice.sliceApplied Builtin.Slice.sliceFields;refine ao (ao (Yx hos hds (x:=vl) rfl (ao (Yx hos hds (x:=vu) rfl (ao (Yx hos hds (x:= .none) rfl (aK ?_)))))));refine ao (slicePart_none ?_);show wpAny _ _ (if((1:Int)==0)=true then _ else _) _ _ s;rw[aq (by decide)];refine ao (slicePart_ pl (ao (slicePart_ pu (ao (aK ?_)))));show wpAny _ _ (match Builtin.Slice.sliceAdjust lo hi 1 (n:Int)with |(lo,hi)=>pure (lo,(1:Int),Builtin.Slice.slicePlaces lo hi 1)) _ _ s;rw[adjust_gen lo hi n];show wpAny _ _ (pure (((sIx n 0 lo:Nat):Int),(1:Int),Builtin.Slice.slicePlaces ((sIx n 0 lo:Nat):Int) ((sIx n n hi:Nat):Int) 1)) _ _ s;rw[places_gen];exact aK h
theorem pick_gen(xs:Array ζ)(i k:Nat):((List.range k).filterMap fun(m:Nat)=>xs[((i:Int)+(m:Int)*1).toNat]?).toArray=((xs.toList.drop i).take k).toArray:=by
 have e:(fun(m:Nat)=>xs[((i:Int)+(m:Int)*1).toNat]?)=fun m=>xs[i+m]? :=by
  funext m;have:((i:Int)+(m:Int)*1).toNat=i+m:=by omega
  rw[this]
 rw[e];have:=pick_run xs i k;rw[wen]at this;have e2:((fun x=>xs[x]?)∘fun x=>i+x)=fun m=>xs[i+m]? :=rfl;rw[e2]at this;rw[this]
theorem getItem_tuple_cut{t sl:Addr}{items:Array ζ}{vl vu:ζ}{lo hi:Option Int}{Q:L3}(ht:IsTup s.heap t items)(hs:s.heap.IsSliceOf sl vl vu .none)(pl:IsPart vl lo)(pu:IsPart vu hi)(hw:¬(sIx items.size 0 lo=0/\sIx items.size items.size hi=items.size))(h:Q (.ref s.heap.objs.size) {s with heap:=s.heap.push {cls:= .type "tuple",data:= .seq ((items.toList.drop (sIx items.size 0 lo)).take (sIx items.size items.size hi-sIx items.size 0 lo)).toArray}})(hsz:items.size<=sizeLine):wpAny (model prog w) A (getItem (.ref t) (.ref sl)) Q E s:=by
 have htake:sizeOk (.seq ((items.toList.drop (sIx items.size 0 lo)).take (sIx items.size items.size hi-sIx items.size 0 lo)).toArray):=by
  show((items.toList.drop (sIx items.size 0 lo)).take (sIx items.size items.size hi-sIx items.size 0 lo)).toArray.size<=sizeLine;rw[fu,m5,T9,sJ];omega
 have hj:sIx items.size items.size hi<=items.size:=sIx_le _ _ (aN _) hi;obtain⟨os,hos,hcs,hds⟩:=id hs;have hTs:s.TypeIs (.ref sl) "slice":=⟨os,hos,hcs⟩;unfold getItem
 try with_reducible refine uX ?_
 first |refine ao (aK ?_)|skip
 refine ao (wfb ht.typeIs (by decide) ?_);refine ao (V6 (name:=Str.ofString "__getitem__") ht.typeIs YT
  (HW YT ht.typeIs wec ?_ (weo _ _)))
 show wpAny _ _ (Builtin.Tuple.tupleItemsOf (.ref t)>>=_) _ _ s;refine ao (tupleItemsOf_ ht ?_);refine ao (Um hTs ?_);rw[aB (by decide)];refine ao (sliceApplied_gen hs pl pu ?_);have hno:¬((((sIx items.size 0 lo:Nat):Int)==0&&(1:Int)==1&&(sIx items.size items.size hi-sIx items.size 0 lo)==items.size)=true):=by
  intro q;rw[yL,yL]at q;have q1:((sIx items.size 0 lo:Nat):Int)=0:=eq_of_beq q.1.1;have q2:sIx items.size items.size hi-sIx items.size 0 lo=items.size:=eq_of_beq q.2;exact hw ⟨by omega,by omega⟩
 show wpAny _ _ (if(((sIx items.size 0 lo:Nat):Int)==0&&(1:Int)==1&&(sIx items.size items.size hi-sIx items.size 0 lo)==items.size)=true then _ else _) _ _ s;rw[aq hno,pick_gen]
 first
  |exact ao (m:=Builtin.Tuple.tupleExact _) (wB (aK ⟨_,rfl,aK h⟩) htake)
  |exact ao (m:=Builtin.Tuple.tupleExact _) (wB (ao (aK (aK ⟨_,rfl,aK h⟩))) htake)
  |exact ao (ao (m:=Builtin.Tuple.tupleExact _) (wB (aK (aK ⟨_,rfl,aK h⟩)) htake))
  |exact ao (ao (m:=Builtin.Tuple.tupleExact _) (wB (aK ⟨_,rfl,aK h⟩) htake))
end
end HT
namespace L2
open PySem PySem.Spec PyProof.Rows
abbrev TO:=St->Hp->(Option Int->Hp->Prop)->Prop
def PO(X:Cx)(e:Option Expr)(t:TO):Prop:=
 ∀(pins:L1) (s:η) (σ:St) (H:Hp) (Q:Option Int->Hp->Prop),Inv X pins σ H s->t σ H Q->
  wpAny (model X.prog X.w) X.A (evalPart e X.env) (fun u s'=>∃o H',Inv X pins σ H' s'/\IsPart u o/\Q o H') X.xe s
def tNoPart:TO:=fun _ H Q=>Q none H
def tPart(t:TE):TO:=fun σ H Q=>t σ H fun x H1=>∃i,x= .int i/\Q (some i) H1
theorem intsAre_of{ns:List Int}:∀{us:List ζ},Vals (ns.map V.int) us->IntsAre us ns:=by
 induction ns with
 |nil=>intro us r;rw[whn]at r;cases r;exact .nil
 |cons n ns ih=>
  intro us r;rw[Ca]at r;cases r with
  |cons r1 r2=>
   obtain⟨t,e⟩:=r1;subst e;exact .cons n t (ih r2)
section
variable{X:Cx}{e:Expr}{te:TE}{lo hi:Option Expr}{tl th:TO}{pos p2:Pos}
theorem vC:PO X none tNoPart:=by
 intro pins s σ H Q I h;rw[evalPart_none];exact aK ⟨none,H,I,.none,h⟩
theorem vD(h:PE X e te):PO X (some e) (tPart te):=by
 intro pins s σ H Q I hw;rw[evalPart_some];refine thn (h pins s σ H _ I hw) fun u s1 ⟨x,H1,I1,r1,q1⟩=> ?_;obtain⟨i,rfl,q⟩:=q1;obtain⟨t,rfl⟩:=r1;exact⟨some i,H1,I1,.int i t,q⟩
def SlR(X:Cx)(r:V->Option Int->Option Int->Hp->VK->Prop):Prop:=
 ∀(pins:L1) (s:η) (σ:St) (H:Hp) (x:V) (v vl vu:ζ) (lo hi:Option Int) (sl:Addr) (Q:VK),Inv X pins σ H s->RelV x v->s.heap.IsSliceOf sl vl vu .none->IsPart vl lo->IsPart vu hi->r x lo hi H Q->
  ∃T id,typeLookup (.type T) "__getitem__"=pure (some (.builtin id))/\s.TypeIs v T/\wpAny (model X.prog X.w) X.A (getItem v (.ref sl)) (EP X pins σ Q) X.xe s
def tSl(r:V->Option Int->Option Int->Hp->VK->Prop)(te:TE)(tl th:TO):TE:=fun σ H Q=>te σ H fun x H1=>tl σ H1 fun l H2=>th σ H2 fun u H3=>r x l u H3 Q
theorem yH{r:V->Option Int->Option Int->Hp->VK->Prop}(hr:SlR X r)(he:PE X e te)(hl:PO X lo tl)(hu:PO X hi th):PE X (.Subscript e (.Slice lo hi none p2) pos) (tSl r te tl th):=by
 intro pins s σ H Q I h;refine Z1 (thn (he pins s σ H _ I h) fun v s1 ⟨x,H1,I1,r1,q1⟩=> ?_);refine wpAny_Slice (thn (hl pins s1 σ H1 _ I1 q1) fun vl s2 ⟨l,H2,I2,pl,q2⟩=>thn (hu pins s2 σ H2 _ I2 q2) fun vu s3 ⟨u,H3,I3,pu,q3⟩=> ?_);rw[evalPart_none];refine aK ?_;have I4:Inv X pins σ H3 {s3 with heap:=s3.heap.push {cls:= .type "slice",data:= .fields #[vl,vu,.none]}}:=I3.kept (t':=s3.toks) fun b ob q=>cV _ q;obtain⟨T,id,hT,ht,hg⟩:=hr pins {s3 with heap:=s3.heap.push {cls:= .type "slice",data:= .fields #[vl,vu,.none]}} σ H3 x v vl vu l u s3.heap.objs.size Q I4 r1 (wep ..) pl pu q3;show wpAny (model X.prog X.w) X.A (subscriptTail e (.Slice lo hi none p2) v (.ref s3.heap.objs.size)) (EP X pins σ Q) X.xe {s3 with heap:=s3.heap.push {cls:= .type "slice",data:= .fields #[vl,vu,.none]}};exact tail_any (ops:=[.ref s3.heap.objs.size,v]) ht hT hg (by with_unfolding_all rfl)
noncomputable def cutV(xs:List V)(lo hi:Option Int):List V:=(xs.drop (HT.sIx xs.length 0 lo)).take (HT.sIx xs.length xs.length hi-HT.sIx xs.length 0 lo)
theorem Vw(xs:List V)(lo hi:Option Int):(cutV xs lo hi).length<=xs.length:=by
 unfold cutV;rw[m5,T9];omega
def rSlT(K:W.Frag):V->Option Int->Option Int->Hp->VK->Prop:=fun x lo hi H Q=>∃a xs,x= .ref a/\SqT K H a xs/\
 ¬(HT.sIx xs.length 0 lo=0/\HT.sIx xs.length xs.length hi=xs.length)/\∀p,H p=none->Q (.ref p) (upd H p (.tup (cutV xs lo hi)))
theorem sl_tup:SlR X (rSlT X.K):=by
 intro pins s σ H x v vl vu lo hi sl Q I rx hs pl pu h;obtain⟨a,xs,rfl,hx,hw,q⟩:=h;cases rx;obtain⟨its,r,ht,hz⟩:=I.tuple hx;have hlen:its.toArray.size=xs.length:=by rw[fu];exact r.length.symm
 refine⟨"tuple",_,PyProof.Rows.slot_tuple_getitem.lookup,ht.typeIs,?_⟩;refine HT.getItem_tuple_cut ht hs pl pu (by rw[hlen];exact hw) ?_ (by rw[hlen];exact hz);rw[hlen];refine⟨.ref s.heap.objs.size,_,I.laid (t':=s.toks) (o:= .tup (cutV xs lo hi)) (fun b ob q=>cV _ q) (aN _) ?_,rfl,q _ (I.hok.fresh (aN _))⟩;exact⟨dO (Vw xs lo hi) hz,_,(r.drop (HT.sIx xs.length 0 lo)).take (HT.sIx xs.length xs.length hi-HT.sIx xs.length 0 lo),VN _ _⟩
def rLtT(K:W.Frag):R2:=fun x y H Q=>∃a b ns ms,x= .ref a/\y= .ref b/\SqT K H a (ns.map V.int)/\SqT K H b (ms.map V.int)/\Q (.bl (HT.lexLt ns ms)) H
theorem op_ltT(hu:X.A.units<cLine):OpR X (compareOp .Lt) (rLtT X.K):=by
 intro pins s σ H x y v u Q I rx ry h;obtain⟨a,b,ns,ms,rfl,rfl,ha,hb,q⟩:=h;cases rx;cases ry;obtain⟨its,r1,p1,_⟩:=I.tuple ha;obtain⟨its2,r2,p2,_⟩:=I.tuple hb;have i1:IntsAre its.toArray.toList ns:=intsAre_of r1;have i2:IntsAre its2.toArray.toList ms:=intsAre_of r2;exact HT.lt_tupInts p1 p2 i1 i2 hu ⟨.bl (HT.lexLt ns ms),H,I,rfl,q⟩
def rCatT(K:W.Frag):R2:=fun x y H Q=>∃a b xs ys,x= .ref a/\y= .ref b/\SqT K H a xs/\SqT K H b ys/\xs≠[]/\xs.length+ys.length<=sizeLine/\
 (ys=[]->Q (.ref a) H)/\(ys≠[]->∀p,H p=none->Q (.ref p) (upd H p (.tup (xs++ys))))
theorem Vals.nil_iff{xs:List V}{us:List ζ}(r:Vals xs us):us=[]↔xs=[]:=by
 cases r with
 |nil=>simp
 |cons _ _=>simp
theorem op_catT:OpR X (binaryOp .Add) (rCatT X.K):=by
 intro pins s σ H x y v u Q I rx ry h;obtain⟨a,b,xs,ys,rfl,rfl,ha,hb,hx,hz,q1,q2⟩:=h;cases rx;cases ry;obtain⟨its,r1,p1,_⟩:=I.tuple ha;obtain⟨its2,r2,p2,_⟩:=I.tuple hb;refine HT.cat_tup p1 p2 (fun z=>hx (r1.nil_iff.mp z)) (fun z=>⟨.ref a,H,I,rfl,q1 (r2.nil_iff.mp z)⟩) (fun z=> ?_) (by rw[<-r1.length,<-r2.length];exact hz);refine⟨.ref s.heap.objs.size,_,I.laid (t':=s.toks) (o:= .tup (xs++ys)) (fun b ob q=>cV _ q) (aN _) ?_,rfl,q2 (fun w=>z (r2.nil_iff.mpr w)) _ (I.hok.fresh (aN _))⟩;exact⟨by rw[gB];exact hz,_,r1.append r2,VN _ _⟩
end
noncomputable def ixN(n:Nat)(i:Int):Option Nat:=if 0<=i then(if i<n then some i.toNat else none)else if -(n:Int)<=i then some (i+n).toNat else none
noncomputable def atI{α:Type}(xs:List α)(i:Int):Option α:=(ixN xs.length i).bind fun j=>xs[j]?
theorem ixN_seq{n:Nat}{i:Int}{j:Nat}(h:ixN n i=some j):seqIndex? i n=some j/\j<n/\ -(n:Int)<=i/\i<n:=by
 unfold ixN at h;by_cases h0:0<=i
 ·rw[aB h0]at h;by_cases h1:i<n
  ·rw[aB h1]at h;have e:i.toNat=j:=uY h;exact⟨by rw[seqIndex_of h0 h1,e],by omega,by omega,h1⟩
  ·rw[aq h1]at h;cases h
 ·rw[aq h0]at h;by_cases h1: -(n:Int)<=i
  ·rw[aB h1]at h;have e:(i+n).toNat=j:=uY h;exact⟨by rw[seqIndex_neg (by omega) h1,e],by omega,h1,by omega⟩
  ·rw[aq h1]at h;cases h
theorem atI_get{α:Type}{xs:List α}{i:Int}{v:α}(h:atI xs i=some v):∃j,seqIndex? i xs.length=some j/\xs[j]? =some v/\j<xs.length/\ -(xs.length:Int)<=i/\i<xs.length:=by
 unfold atI at h;cases e:ixN xs.length i with
 |none=>rw[e]at h;cases h
 |some j=>
  rw[e]at h;obtain⟨h1,h2,h3,h4⟩:=ixN_seq e;exact⟨j,h1,h,h2,h3,h4⟩
theorem atI_nat{α:Type}{xs:List α}{j:Nat}{v:α}(h:xs[j]? =some v):atI xs (j:Int)=some v:=by
 have hj:j<xs.length:=(m6.mp h).1;have e:ixN xs.length (j:Int)=some j:=by
  unfold ixN;rw[aB (by omega),aB (by omega)];simp
 unfold atI;rw[e];exact h
def PlainIx(b:Expr):Prop:=∀o i,subscripted b false o i=operate [o,i] (getItem o i)
def IxR(X:Cx)(r:R2):Prop:=
 ∀(value slice:Expr) (pins:L1) (s:η) (σ:St) (H:Hp) (x y:V) (v u:ζ) (Q:VK),Inv X pins σ H s->RelV x v->RelV y u->r x y H Q->
  subscripted slice false v u=operate [v,u] (getItem v u)->wpAny (model X.prog X.w) X.A (subscriptTail value slice v u) (EP X pins σ Q) X.xe s
def MtR(X:Cx)(id:String)(r:V->List V->Hp->VK->Prop):Prop:=
 ∀(pins:L1) (s:η) (σ:St) (H:Hp) (x:V) (xs:List V) (v:ζ) (us:List ζ) (Q:VK),Inv X pins σ H s->RelV x v->Vals xs us->r x xs H Q->
  wpAny (model X.prog X.w) X.A (call (.builtin id) (v::us)) (EP X pins σ Q) X.xe s
section
variable{X:Cx}{a b:Expr}{ta tb:TE}{pos:Pos}
theorem bR{r:R2}(hr:IxR X r)(ha:PE X a ta)(hb:PE X b tb)(hs:PlainIx b:=by exact fun _ _=>rfl):PE X (.Subscript a b pos) (tOp r ta tb):=by
 intro pins s σ H Q I h;exact Z1 (binT ha hb I h fun v u s2 x y H2 I2 rx ry q=>hr a b pins s2 σ H2 x y v u Q I2 rx ry q (hs _ _))
def rIxL(K:W.Frag):R2:=fun x y H Q=>∃p xs i v,x= .ref p/\y= .int i/\SqL K H p xs/\atI xs i=some v/\Q v H
def rIxT(K:W.Frag):R2:=fun x y H Q=>∃p xs i v,x= .ref p/\y= .int i/\SqT K H p xs/\atI xs i=some v/\Q v H
theorem mZ:IxR X (rIxL X.K):=by
 intro value slice pins s σ H x y v u Q I rx ry h hs;obtain⟨p,xs,i,z,rfl,rfl,hq,he,q⟩:=h;cases rx;obtain⟨t,rfl⟩:=ry;obtain⟨its,r,pl,hz⟩:=I.list hq;obtain⟨j,h1,h2,h3,h4,h5⟩:=atI_get he;obtain⟨w,ew,rw'⟩:=r.get h2;have hl:=r.length;have hn:=line63;have fin:EP X pins σ Q w s:=⟨z,H,I,rw',q⟩;by_cases h0:0<=i
 ·have hj:i.toNat=j:=by
   rw[seqIndex_of h0 h5]at h1;exact uY h1
  exact item_listR pl.isList h0 (by omega) (by rw[hj];simpa using ew) fin hs
 ·have hj:(i+(its.toArray.size:Int)).toNat=j:=by
   rw[seqIndex_neg (by omega) h4]at h1;rw[fu,<-hl];exact uY h1
  exact subscriptTail_builtinR (x:=w) pl.isList.typeIs slot_list_getitem.lookup
   (wpAny_getItem_list_neg (Q:=fun r s'=>r=w/\EP X pins σ Q r s') pl.isList (by omega) (by rw[fu]<;>omega) (by omega) (by rw[hj];simpa using ew) ⟨rfl,fin⟩) hs
theorem jo:IxR X (rIxT X.K):=by
 intro value slice pins s σ H x y v u Q I rx ry h hs;obtain⟨p,xs,i,z,rfl,rfl,hq,he,q⟩:=h;cases rx;obtain⟨t,rfl⟩:=ry;obtain⟨its,r,pl,hz⟩:=I.tuple hq;obtain⟨j,h1,h2,h3,h4,h5⟩:=atI_get he;obtain⟨w,ew,rw'⟩:=r.get h2;have hl:=r.length;have hn:=line63;have fin:EP X pins σ Q w s:=⟨z,H,I,rw',q⟩;exact subscriptTail_builtinR (x:=w) pl.typeIs slot_tuple_getitem.lookup
  (getItem_tuple (j:=j) (Q:=fun r s'=>r=w/\EP X pins σ Q r s') pl (by omega) (by omega) (by rw[fu,<-hl];exact h1) (by simpa using ew) ⟨rfl,fin⟩) hs
theorem mapSeq_set(its:List ζ)(n j:Nat)(u:ζ):Obj.mapSeq (·.setIfInBounds j u) {cls:= .type "list",data:= .seq its.toArray n}={cls:= .type "list",data:= .seq (its.set j u).toArray n}:=by
 simp[Obj.mapSeq]
theorem Inv.lst{pins:L1}{σ:St}{H:Hp}{s:η}{p:Addr}{xs:List V}(I:Inv X pins σ H s)(h:H p=some (.lst xs)):
  ∃(its:List ζ) (n:Nat),Vals xs its/\s.heap.get? p=some {cls:= .type "list",data:= .seq its.toArray n}/\xs.length<=sizeLine:=by
 obtain⟨z,its,n,r,e⟩:=I.hok p _ h;exact⟨its,n,r,e,z⟩
theorem Inv.lstUpd{pins:L1}{σ:St}{H:Hp}{s:η}{p:Addr}{xs ys:List V}{its its':List ζ}{n n':Nat}{f:Obj->Obj}(I:Inv X pins σ H s)(h:H p=some (.lst xs))(ho:s.heap.get? p=some {cls:= .type "list",data:= .seq its.toArray n})(hf:f {cls:= .type "list",data:= .seq its.toArray n}={cls:= .type "list",data:= .seq its'.toArray n'})(r:Vals ys its')(hz:ys.length<=sizeLine)(t:Nat):
  Inv X pins σ (upd H p (.lst ys)) {s with heap:=s.heap.update p f,toks:=t}:=by
 have e:(s.heap.update p f).get? p=some {cls:= .type "list",data:= .seq its'.toArray n'}:=by
  rw[VF f ho (by rw[hf]<;>rfl),hf]
 refine I.write (x:=p) (e:=p) (by rw[h];trivial) (.inl rfl) (fun b u hb q=>(ZQ _ _ (kO hb)).trans q) ⟨_,e⟩ ?_;exact⟨hz,its',n',r,e⟩
def rSetL:V->V->V->Hp->(Hp->Prop)->Prop:=fun o i v H Q=>∃p xs k j,o= .ref p/\i= .int k/\H p=some (.lst xs)/\ixN xs.length k=some j/\Q (upd H p (.lst (xs.set j v)))
theorem set_list:PSet X rSetL:=by
 intro pins s σ H o i v ov iv u Q I ro ri rv h;obtain⟨p,xs,k,j,rfl,rfl,hp,hj,q⟩:=h;cases ro;obtain⟨t,rfl⟩:=ri;obtain⟨its,n,r,ho,hz⟩:=I.lst hp;obtain⟨h1,h2,h3,h4⟩:=ixN_seq hj;have hl:=r.length;have hn:=line63;have I':Inv X pins σ (upd H p (.lst (xs.set j v))) {s with heap:=s.heap.update p (Obj.mapSeq (·.setIfInBounds j u))}:=
  I.lstUpd hp ho (mapSeq_set its n j u) (r.set rv j) (by rw[wed];exact hz) s.toks
 by_cases h0:0<=k
 ·have hk:k.toNat=j:=by
   rw[seqIndex_of h0 h4]at h1;exact uY h1
  exact PySem.W.ki_setAt ho h0 (by omega) (by rw[fu,<-hl];exact h4) (by rw[hk];exact⟨_,I',q⟩)
 ·have hk:(k+(its.toArray.size:Int)).toNat=j:=by
   rw[seqIndex_neg (by omega) h3]at h1;rw[fu,<-hl];exact uY h1
  exact PySem.W.ki_setBack ho (by omega) (by rw[fu,<-hl];exact h3) (by omega) (by rw[hk];exact⟨_,I',q⟩)
theorem slice_bounds(lo hi:Option Int)(n:Nat):(sliceBounds lo hi none n).1=((HT.sIx n 0 lo:Nat):Int)/\(sliceBounds lo hi none n).2.1=((HT.sIx n n hi:Nat):Int)/\(sliceBounds lo hi none n).2.2=1:=by
 refine⟨?_,?_,rfl⟩
 ·cases lo with
  |none=>simp[sliceBounds,HT.sIx]
  |some i=>
   simp only[sliceBounds,HT.sIx,Option.getD_none,show(1:Int)>0 by decide,Uj];by_cases h:i<0
   ·simp only[h,Uj]<;>omega
   ·simp only[h,VL]<;>omega
 ·cases hi with
  |none=>simp[sliceBounds,HT.sIx]
  |some i=>
   simp only[sliceBounds,HT.sIx,Option.getD_none,show(1:Int)>0 by decide,Uj];by_cases h:i<0
   ·simp only[h,Uj]<;>omega
   ·simp only[h,VL]<;>omega
theorem slicePick_cut(its:List ζ)(lo hi:Option Int):slicePick its.toArray lo hi none=((its.drop (HT.sIx its.length 0 lo)).take (HT.sIx its.length its.length hi-HT.sIx its.length 0 lo)).toArray:=by
 obtain⟨h1,h2,h3⟩:=slice_bounds lo hi its.toArray.size;unfold slicePick;rw[h1,h2,h3];simp only[sliceRange_one,pick_run,fu]<;>rfl
def rSlL(K:W.Frag):V->Option Int->Option Int->Hp->VK->Prop:=fun x lo hi H Q=>∃a xs,x= .ref a/\SqL K H a xs/\∀p,H p=none->Q (.ref p) (upd H p (.lst (cutV xs lo hi)))
theorem Kc:SlR X (rSlL X.K):=by
 intro pins s σ H x v vl vu lo hi sl Q I rx hs pl pu h;obtain⟨a,xs,rfl,hx,q⟩:=h;cases rx;obtain⟨its,r,ht,hz⟩:=I.list hx;have hlen:=r.length;refine⟨"list",_,slot_list_getitem.lookup,ht.isList.typeIs,?_⟩;refine wpAny_getItem_list_slice ht.isList hs pl pu .none (by simp) ?_ (by rw[fu]<;>omega);rw[slicePick_cut,<-hlen];refine⟨.ref s.heap.objs.size,_,I.laid (t':=s.toks) (o:= .lst (cutV xs lo hi)) (fun b ob q=>cV _ q) (aN _) ?_,rfl,q _ (I.hok.fresh (aN _))⟩;exact⟨dO (Vw xs lo hi) hz,_,0,(r.drop (HT.sIx xs.length 0 lo)).take (HT.sIx xs.length xs.length hi-HT.sIx xs.length 0 lo),gZ _ rfl⟩
theorem call_len_seq:CallR X (.builtin "len") (fun xs H Q=>∃p ys,xs=[.ref p]/\(SqL X.K H p ys\/SqT X.K H p ys)/\Q (.int ys.length) H):=by
 intro pins s σ H xs us Q I r h;obtain⟨p,ys,rfl,hq,q⟩:=h;obtain⟨u,rfl,rx⟩:=vals1 r;cases rx;have hn:=line63;rcases hq with hq|hq
 ·obtain⟨its,r',pl,hz⟩:=I.list hq;have hlen:=r'.length;exact Calls.call_len_list pl.isList (by simp only[fu]<;>omega) ⟨.int ys.length,H,I.tok _,⟨s.toks+1,by rw[fu,hlen]⟩,q⟩
 ·obtain⟨its,r',pl,hz⟩:=I.tuple hq;have hlen:=r'.length;exact len_tuple pl (by simp only[fu]<;>omega) ⟨.int ys.length,H,I.tok _,⟨s.toks+1,by rw[fu,hlen]⟩,q⟩
theorem call_list_of:CallR X (.type "list") (fun xs H Q=>∃p ys,xs=[.ref p]/\(SqL X.K H p ys\/SqT X.K H p ys)/\∀l,H l=none->Q (.ref l) (upd H l (.lst ys))):=by
 intro pins s σ H xs us Q I r h;obtain⟨p,ys,rfl,hq,q⟩:=h;obtain⟨u,rfl,rx⟩:=vals1 r;cases rx;have fin:∀(its:List ζ),Vals ys its->ys.length<=sizeLine->∀(h':Heap) (c':Nat),(∀b o',s.heap.get? b=some o'->h'.get? b=some o')->
   h'.get? s.heap.objs.size=some {cls:= .type "list",dict:=none,data:= .seq its.toArray c',slots:=#[]}->EP X pins σ Q (.ref s.heap.objs.size) {s with heap:=h'}:=fun its r' hz h' c' kp e=>
  ⟨.ref s.heap.objs.size,_,I.laid (t':=s.toks) kp (aN _) (show ObjOk X.prog X.w _ h' _ (.lst ys)from⟨hz,its,c',r',e⟩),rfl,q _ (I.hok.fresh (aN _))⟩
 rcases hq with hq|hq
 ·obtain⟨its,r',pl,hz⟩:=I.list hq;have hlen:=r'.length;obtain⟨o,ho,hc,n,hd⟩:=pl.isList;exact call_list_seq p (.inl rfl) ho hc hd (fun h' c' kp e=>fin its r' hz h' c' kp e) (by simp only[fu]<;>omega)
 ·obtain⟨its,r',pl,hz⟩:=I.tuple hq;have hlen:=r'.length;obtain⟨o,ho,hc,n,hd⟩:=pl;exact call_list_seq p (.inr rfl) ho hc hd (fun h' c' kp e=>fin its r' hz h' c' kp e) (by simp only[fu]<;>omega)
theorem Yg:CallR X (.type "tuple") (fun xs H Q=>∃p ys,xs=[.ref p]/\((SqL X.K H p ys/\∀l,H l=none->Q (.ref l) (upd H l (.tup ys)))\/(SqT X.K H p ys/\Q (.ref p) H))):=by
 intro pins s σ H xs us Q I r h;obtain⟨p,ys,rfl,h⟩:=h;obtain⟨u,rfl,rx⟩:=vals1 r;cases rx;rcases h with⟨hq,q⟩|⟨hq,q⟩
 ·obtain⟨its,r',pl,hz⟩:=I.list hq;have hlen:=r'.length;refine call_tuple_list pl.isList (fun h' kp=> ?_) (by simp only[fu]<;>omega);have I1:Inv X pins σ H {s with heap:=h'}:=I.kept (t':=s.toks) kp;have I2:Inv X pins σ (upd H h'.objs.size (.tup ys)) {s with heap:=h'.push {cls:= .type "tuple",data:= .seq its.toArray}}:=
   I1.laid (t':=s.toks) (fun b o e=>cV _ e) (aN _) (show ObjOk X.prog X.w _ _ _ (.tup ys)from⟨hz,its,r',VN _ _⟩)
  exact⟨.ref h'.objs.size,_,I2,rfl,q _ (I1.hok.fresh (aN _))⟩
 ·obtain⟨its,r',pl,hz⟩:=I.tuple hq;exact call_tuple_same pl ⟨.ref p,H,I,rfl,q⟩
def tyV(K:W.Frag)(T:String)(x:V)(H:Hp):Prop:=match x with
 | .str _=>T="str"
 | .int _=>T="int"
 | .ref p=>(T="list"/\∃xs,SqL K H p xs)\/(T="tuple"/\∃o,K.lookup p=some o/\o.cls= .type "tuple"/\o.dict=none)\/
   (T="dict"/\((∃kvs,H p=some (.dK kvs))\/∃kvs,H p=some (.dT kvs)))\/(T="set"/\∃S n,H p=some (.set S n))
 |_=>False
theorem tyV_is{pins:L1}{σ:St}{H:Hp}{s:η}{T:String}{x:V}{v:ζ}(I:Inv X pins σ H s)(r:RelV x v)(ty:tyV X.K T x H):
  s.TypeIs v T/\∀a,v= .ref a->∃ob,s.heap.get? a=some ob/\ob.dict=none:=by
 cases x with
 |str z=>
  obtain⟨t,rfl⟩:=r;cases(show T="str" from ty);exact⟨typeIs_str s z t,fun _ e=>nomatch e⟩
 |int i=>
  obtain⟨t,rfl⟩:=r;cases(show T="int" from ty);exact⟨Z0 s i t,fun _ e=>nomatch e⟩
 |ref p=>
  cases r;rcases ty with⟨rfl,xs,hq⟩|⟨rfl,o,hk,hc,hd⟩|⟨rfl,hk⟩|⟨rfl,S,n,hk⟩
  ·obtain⟨its,_,pl,_⟩:=I.list hq;refine⟨pl.isList.typeIs,fun a e=> ?_⟩;cases e;obtain⟨o,n,e,c,hd,_⟩:=pl;exact⟨o,e,hd⟩
  ·refine⟨⟨o,I.kIn p o hk,hc⟩,fun a e=> ?_⟩;cases e;exact⟨o,I.kIn _ o hk,hd⟩
  ·have z:∃o,s.heap.get? p=some o/\o.ExactDict:=by
    rcases hk with⟨kvs,hk⟩|⟨kvs,hk⟩
    ·obtain⟨_,_,_,_,o,_,_,e,ex,_⟩:=I.hok p _ hk;exact⟨o,e,ex⟩
    ·obtain⟨_,_,_,_,o,_,_,e,ex,_⟩:=I.hok p _ hk;exact⟨o,e,ex⟩
   obtain⟨o,e,ex⟩:=z;refine⟨⟨o,e,ex.1⟩,fun a e2=> ?_⟩;cases e2;exact⟨o,e,ex.2.1⟩
  ·obtain⟨o,_,_,_,e,ex,_⟩:=I.hok p _ hk;refine⟨⟨o,e,ex.1⟩,fun a e2=> ?_⟩;cases e2;exact⟨o,e,ex.2.1⟩
 |_=>exact False.elim ty
def tBM(K:W.Frag)(T:String)(r:V->List V->Hp->VK->Prop)(to:TE)(t:TA):TE:=fun σ H Q=>to σ H fun x H1=>tyV K T x H1/\t σ H1 fun xs H2=>r x xs H2 Q
variable{o e:Expr}{es:List Expr}{to:TE}{t:TA}{name:Str}{apos cpos:Pos}{T id:String}{r:V->List V->Hp->VK->Prop}
theorem pe_bm(pa:PlainAttrs T)(slot:Slot T name id)(hty:typeOf (.builtin id)=pure (.type "method_descriptor"))(hm:MtR X id r)(ho:PE X o to)(ha:PA X (e::es) t)(hbase:attributeBase o name X.env (eval o X.env)=eval o X.env:=by rfl)(hfew:((backTo cpos (starEach (e::es) X.env)).all (fun x=> !x.1)&&(backToKw cpos (keywordEach [] X.env)).all (fun x=>x.1.isSome)
   &&decide ((e::es).length+([]:List Keyword).length+(if([]:List Keyword).isEmpty then 0 else 1)<30))=true:=by rfl)(hline:(apos.endLine==cpos.line)=true:=by rfl)(hs:starEach (e::es) X.env=(false,eval e X.env)::starEach es X.env:=by rfl)(hplain:(backTo cpos (starEach es X.env)).any (·.1)=false:=by rfl):
  PE X (.Call (.Attribute o name apos) (e::es) [] cpos) (tBM X.K T r to t):=by
 intro pins s σ H Q I h;refine wpAny_Call_method_late hbase hfew hline rfl (thn (ho pins s σ H _ I h) fun v s1 ⟨x,H1,I1,r1,ty,q1⟩=> ?_);obtain⟨h1,h2⟩:=tyV_is I1 r1 ty;refine⟨T,id,pa,slot,hty,h1,h2,?_⟩;have hA:=ha cpos pins s1 σ H1 _ I1 q1;rw[hs]at hA⊢;refine Calls.callWith_builtin (by show(false||(backTo cpos (starEach es X.env)).any (·.1))=false;rw[hplain]<;>rfl) (Calls.evalArgs_plain ?_);exact thn hA fun us s2 ⟨vs,H2,I2,r2,q2⟩=>hm pins s2 σ H2 x vs v us Q I2 r1 r2 q2
end
def MtM(X:Cx)(id:String)(r:V->List V->Hp->VK->Prop):Prop:=
 ∀(pins:L1) (s:η) (σ:St) (H:Hp) (x:V) (xs:List V) (v:ζ) (us:List ζ) (Q:VK),Inv X pins σ H s->RelV x v->Vals xs us->r x xs H Q->
  wpAny (model X.prog X.w) X.A (call (.builtin id) (v::us)) (EP X pins σ Q) X.xe s
theorem Vals.one{x:V}{us:List ζ}(h:Vals [x] us):∃u,us=[u]/\RelV x u:=by
 cases h with
 |cons r h=>cases h;exact⟨_,rfl,r⟩
theorem Vals.two{x y:V}{us:List ζ}(h:Vals [x,y] us):∃u v,us=[u,v]/\RelV x u/\RelV y v:=by
 cases h with
 |cons r h=>obtain⟨v,rfl,q⟩:=Vals.one h;exact⟨_,_,rfl,r,q⟩
theorem Vals.rep{xs:List V}{us:List ζ}(h:Vals xs us):∀k:Nat,Vals (List.replicate k xs).flatten (List.replicate k us).flatten
 |0=> .nil
 |k+1=>by
  rw[Kq,Kq,Ub,Ub];exact Vals.append h (Vals.rep h k)
theorem foldl_rep(its:List ζ):∀(k:Nat) (acc:List ζ),
  List.foldl (fun x1 x2=>x1++x2) acc.toArray (List.replicate k its.toArray)=(acc++(List.replicate k its).flatten).toArray
 |0,acc=>by simp
 |k+1,acc=>by
  have e:acc.toArray++its.toArray=(acc++its).toArray:=by simp
  have e2:(acc++its)++(List.replicate k its).flatten=acc++(List.replicate (k+1) its).flatten:=by
   rw[Kq,Ub,ZF]
  rw[<-e2,<-foldl_rep its k (acc++its),<-e,Kq,List.foldl_cons]
section
variable{X:Cx}{pins:L1}{σ:St}{H:Hp}{s:η}{l:Addr}{xs ys:List V}
theorem Inv.lset{its its':List ζ}{n:Nat}{f:Array ζ->Array ζ}{t':Nat}(I:Inv X pins σ H s)(hH:H l=some (.lst xs))(e:s.heap.get? l=some {cls:= .type "list",data:= .seq its.toArray n})(hf:f its.toArray=its'.toArray)(hv:Vals ys its')(hz:ys.length<=sizeLine):
  Inv X pins σ (upd H l (.lst ys)) {s with heap:=s.heap.update l (Obj.mapSeq f),toks:=t'}:=by
 have q:=PySem.IsL.update e f;rw[hf]at q;refine I.write (x:=l) (e:=l) (by rw[hH];exact trivial) (.inl rfl) (fun b' u hb hu=>(ZQ s.heap (Obj.mapSeq f) (kO hb)).trans hu) ⟨_,q⟩ ?_;exact⟨hz,its',_,hv,q⟩
theorem Inv.lnew{its:List ζ}{t':Nat}(I:Inv X pins σ H s)(hv:Vals ys its)(hz:ys.length<=sizeLine):
  Inv X pins σ (upd H s.heap.objs.size (.lst ys)) {s with heap:=s.heap.push {cls:= .type "list",data:= .seq its.toArray},toks:=t'}:=
 I.laid (fun _ _ q=>cV _ q) (aN _) ⟨hz,its,0,hv,gZ _ rfl⟩
theorem Inv.fresh(I:Inv X pins σ H s):H s.heap.objs.size=none:=I.hok.fresh (aN _)
theorem Inv.lstM(I:Inv X pins σ H s)(hH:H l=some (.lst xs)):xs.length<=sizeLine/\∃(its:List ζ) (n:Nat),Vals xs its/\xs.length=its.length/\s.heap.get? l=some {cls:= .type "list",data:= .seq its.toArray n}:=by
 obtain⟨z,its,n,r,e⟩:=I.hok l _ hH;exact⟨z,its,n,r,r.length,e⟩
theorem notLongL{n:Nat}(h:n<=sizeLine):Builtin.List.listTooLong n=false:=by
 unfold Builtin.List.listTooLong;exact iY (by omega)
end
section
variable{X:Cx}
def rAppend:V->List V->Hp->VK->Prop:=fun x vs H Q=>∃l xs y,x= .ref l/\vs=[y]/\H l=some (.lst xs)/\xs.length<sizeLine/\Q .non (upd H l (.lst (xs++[y])))
theorem mt_append:MtM X "list.append" rAppend:=by
 intro pins s σ H x vs v us Q I rx rv h;obtain⟨l,xs,y,rfl,rfl,hH,hz,q⟩:=h;cases rx;obtain⟨u,rfl,ru⟩:=rv.one;obtain⟨z,its,n,r,hl,e⟩:=I.lstM hH;refine Qt F.slot_list_append ⟨_,e,rfl⟩ F.entry_list_append (F.args_list_append_2 _ _) (PySem.list_append l its.toArray n u (by rw[fu];omega)) ⟨e,?_⟩;refine⟨.non,_,I.lset (its':=its++[u]) hH e (by simp) (r.append (.cons ru .nil)) ?_,rfl,q⟩;rw[gB,List.length_singleton];omega
def rExtend:V->List V->Hp->VK->Prop:=fun x vs H Q=>∃l b xs zs,x= .ref l/\vs=[.ref b]/\H l=some (.lst xs)/\H b=some (.lst zs)/\xs.length+zs.length<=sizeLine/\Q .non (upd H l (.lst (xs++zs)))
theorem mt_extend:MtM X "list.extend" rExtend:=by
 intro pins s σ H x vs v us Q I rx rv h;obtain⟨l,b,xs,zs,rfl,rfl,hH,hB,hz,q⟩:=h;cases rx;obtain⟨u,rfl,ru⟩:=rv.one;cases ru;obtain⟨z,its,n,r,hl,e⟩:=I.lstM hH;obtain⟨z2,its2,n2,r2,hl2,e2⟩:=I.lstM hB;have hsz:its.toArray.size+its2.toArray.size<=sizeLine:=by rw[fu,fu];omega
 have hlong:¬(!its.toArray.isEmpty&&Builtin.List.listTooLong (its.toArray.size+its2.toArray.size))=true:=by
  rw[notLongL hsz,wgz];exact rN
 refine Qt F.slot_list_extend ⟨_,e,rfl⟩ F.entry_list_extend (F.args_list_extend_2 _ _)
  (AutoSeq1.list_extend_list_list_0 l its.toArray n b its2.toArray n2 hlong (by rw[fu];omega) (by omega)) ⟨e,e2,?_⟩
 refine⟨.non,_,I.lset (its':=its++its2) hH e (by simp) (r.append r2) ?_,rfl,q⟩;rw[gB];omega
def rCat:R2:=fun x y H Q=>∃l b xs zs,x= .ref l/\y= .ref b/\H l=some (.lst xs)/\H b=some (.lst zs)/\xs.length+zs.length<=sizeLine/\∀p,H p=none->Q (.ref p) (upd H p (.lst (xs++zs)))
theorem yE:OpR X (binaryOp .Add) rCat:=by
 intro pins s σ H x y v u Q I rx ry h;obtain⟨l,b,xs,zs,rfl,rfl,hH,hB,hz,q⟩:=h;cases rx;cases ry;obtain⟨z,its,n,r,hl,e⟩:=I.lstM hH;obtain⟨z2,its2,n2,r2,hl2,e2⟩:=I.lstM hB;refine PySem.P.add_list e e2 ?_ (by rw[fu,fu];omega);have ea:its.toArray++its2.toArray=(its++its2).toArray:=by simp
 rw[ea];exact⟨.ref _,_,I.lnew (t':=s.toks) (r.append r2) (by rw[gB];omega),rfl,q _ I.fresh⟩
def rRep:R2:=fun x y H Q=>∃l k xs,x= .ref l/\y= .int k/\H l=some (.lst xs)/\ -(2^63)<=k/\k<2^63/\xs.length*k.toNat<=sizeLine/\
 ∀p,H p=none->Q (.ref p) (upd H p (.lst (List.replicate k.toNat xs).flatten))
theorem len_rep{α:Type}(xs:List α)(k:Nat):(List.replicate k xs).flatten.length=k*xs.length:=by
 induction k with
 |zero=>simp
 |succ k ih=>rw[Kq,Ub,gB,ih,Nat.succ_mul,Nat.add_comm]
theorem op_rep:OpR X (binaryOp .Mult) rRep:=by
 intro pins s σ H x y v u Q I rx ry h;obtain⟨l,k,xs,rfl,rfl,hH,h1,h2,hz,q⟩:=h;cases rx;obtain⟨t,rfl⟩:=ry;obtain⟨z,its,n,r,hl,e⟩:=I.lstM hH;have hlen:its.toArray.size*k.toNat<=sizeLine:=by rw[fu,<-hl];exact hz
 have hcap:¬its.toArray.size*k.toNat>(2^63-1)/8:=by
  have:(sizeLine:Nat)<=(2^63-1)/8:=by decide
  omega
 have hfit:¬(!Builtin.List.listFitsIndex k)=true:=by
  rw[fitsIndex_both h1 h2];exact rN
 have hlong:¬Builtin.List.listTooLong (its.toArray.size*k.toNat)=true:=by
  rw[notLongL hlen];exact rN
 have hnew:List.foldl (fun x1 x2=>x1++x2) #[] (List.replicate (if its.toArray.isEmpty=true then 0 else k.toNat) its.toArray)=(List.replicate k.toNat its).flatten.toArray:=by
  have f0:∀m:Nat,List.foldl (fun x1 x2=>x1++x2) #[] (List.replicate m its.toArray)=(List.replicate m its).flatten.toArray:=fun m=>by
   have:=foldl_rep its m [];rw[List.nil_append]at this;exact this
  rw[f0];cases its with
  |nil=>simp
  |cons a r'=>rw[aq (by simp)]
 refine wpAny_binaryOp_repeat_ref (T:="list") (U:="int") (by decide) ⟨_,e,rfl⟩ (fun s'=>Z0 s' k t) noFill_list_mul F.fills_int_mul wee repeat_list F.slot_int_index.lookup
  (Qt wee (Z0 s k t) F.entry_int_rmul (F.args_int_rmul_2 _ _) (int___rmul___int_list k t l its.toArray n)
   ⟨e,rfl,⟨_,e,rfl⟩,Qt F.slot_list_mul ⟨_,e,rfl⟩ F.entry_list_mul (F.args_list_mul_2 _ _) (AutoListH.list___mul___list_int_3 l its.toArray n k t hfit hcap hlong) ⟨e,?_⟩⟩)
 rw[hnew];exact⟨.ref _,_,I.lnew (t':=s.toks) (r.rep k.toNat) (by rw[len_rep,Vz];exact hz),rfl,q _ I.fresh⟩
end
end L2
namespace Att
open PySem PySem.W PySem.Calls PyProof.Rows
theorem ints_of_wellAll{P:Params}{h:Heap}:∀(ns:List Int) (vs:List ζ),WellAll P h vs (ns.map WData.int)->IntsAre vs ns:=by
 intro ns
 induction ns with
 |nil=>
  intro vs w;rw[whn]at w;cases w;exact .nil
 |cons n ns ih=>
  intro vs w;rw[Ca]at w;cases w with
  |cons a b=>
   cases a;exact .cons _ _ (ih _ b)
theorem script_of{l:OpenLaw}{n:Nat}(hn:l.most=some n){P:Params}{h:Heap}{args:List WData}{vals:List ζ}(hpre:l.row.toRowW.claim.pre args=true)(hwl:WellAll P h vals args):
  ∃a vs ns,vals=[Value.ref a]/\args=[WData.list (ns.map WData.int)]/\h.get? a=some {cls:= .type "list",data:= .seq vs.toArray}/\IntsAre vs ns/\ns.length<=n:=by
 have hsh:WShape.hasAll [] args [.list .int]=true:=(pre_splitW hpre).1;have hc:l.pre.holds [] {args:=args}=true:=(pre_splitW hpre).2;obtain⟨d,r,rfl,h1,h2⟩:=hasAllW_cons hsh;obtain rfl:=hasAllW_nil h2;obtain⟨xs,rfl,h3⟩:=hasW_list h1;obtain⟨ns,rfl⟩:=items_int h3;have hlen:ns.length<=n:=by
  unfold OpenLaw.pre at hc;have h4:(WTm.not (.lt (.lit (.int (n:Int))) (.len (.arg 0)))).holds [] {args:=[.list (ns.map .int)]}=true:=by
   have h4:=(holds_andW hc).1;rw[hn]at h4;exact h4
  have h5:=condW_of h4 (w_not (w_lt w_lit (w_len_list (w_arg rfl))));rw[aJ]at h5;refine wdq fun q=> ?_;have q':(n:Int)<((ns.length:Nat):Int):=by omega
  first
   |(rw[fD q']at h5;exact absurd h5 (by decide))
   |(simp at h5;omega)
 cases hwl with
 |cons w1 w2=>
  cases w2;cases w1 with
  |list ho hall=>exact⟨_,_,ns,rfl,rfl,ho,ints_of_wellAll ns _ hall,hlen⟩
theorem post_true(l:OpenLaw)(args:List WData):l.row.toRowW.claim.post args (.bool true) args=true:=
 postW_of (r:=l.row.toRowW) (X:=(true==true))
  (show WShape.has [] (.bool true) .bool=true by first |rfl|decide|simp[WShape.has,WShape.arms,WShape.armsAll])
  (show(WTm.eq .res (.lit (.bool true))).value [] {args:=args,res:=some (.bool true),after:=args}=some (.bool (true==true))from w_eq_bool (w_res rfl) w_lit) rfl
theorem attach_call{l:OpenLaw}{n:Nat}{q:ρ}{loose:List Str}{XP:(L4)->Heap->Prop}{YP:υ->Heap->Prop}{d:DefRec}(hn:l.most=some n)(hdf:d.params.defaults=[])(call:∀(w:υ) (s₀ s₁:η) (mg mb:L4) (fa:Addr) (o:Obj) (pm cd doc:ζ) (a:Addr) (vs:List ζ) (ns:List Int),
   Ground q loose [] XP w s₀ mg mb s₁.heap->YP w s₁.heap->
   s₁.heap.get? fa=some o->o.data= .func (docDef d.name d.params d.body d.scope pm cd doc)->s₁.heap.CodeRec cd d.name->mg d.name=some (.ref fa)->
   s₁.heap.get? a=some {cls:= .type "list",data:= .seq vs.toArray}->IntsAre vs ns->ns.length<=n->s₁.gens=#[]->
   codeAny (model l.prog w) callerA (.call (.ref fa) ⟨[.ref a],[]⟩) (fun r s'=>r= .ok (.ret (.bool true))/\OldK s₁.heap s'.heap/\s'.os=s₁.os/\AllBare s'.gens) s₁):
  WalkO q loose XP YP l.row.toRowW d [] (fun f vs=>PySem.call f vs):=by
 intro w s₀ s₁ mg mb G Y fa o pm cd doc dV kV ho hd hcd hD hmg hg args vals as hpre hlay hrd hwl hlo;obtain rfl:dV= .none:=Dflts.none hD hdf;obtain rfl:kV= .none:=Dflts.noKw hD;obtain⟨a,vs,ns,rfl,rfl,hobj,hints,hlen⟩:=script_of hn hpre hwl;refine enter_call (Qu (call w s₀ s₁ mg mb fa o pm cd doc a vs ns G Y ho (fd_plain hd) hcd hmg hobj hints hlen hg) fun r s' hq=> ?_);obtain⟨rfl,h2,h3,h4⟩:=hq;exact⟨.inl ⟨.bool true,.bool true,[],rfl,fun _=>rfl,.bool true,post_true l _,fun _=>⟨List.Pairwise.nil,fun _ hm=>(nomatch hm)⟩⟩,h2,h3,h4⟩
end Att
namespace L2
open PySem PySem.Spec PyProof.Rows
theorem vals_ints:∀{vs:List ζ} {ns:List Int},IntsAre vs ns->Vals (ns.map V.int) vs
 |_,_,.nil=> .nil
 |_,_,.cons n t h=> .cons ⟨t,rfl⟩ (vals_ints h)
noncomputable def inClass(s:Stmt)(j:Nat):Stmt:=match s with
 | .ClassDef _ _ _ body _ _ _ _ _ _ _=>body.getD j (.Pass ⟨0,0,0,0⟩)
 |_=> .Pass ⟨0,0,0,0⟩
noncomputable def defArgs(s:Stmt):Arguments:=match s with
 | .FunctionDef _ a _ _ _ _ _ _ _ _=>a
 |_=>{posonlyargs:=[],args:=[],vararg:=none,kwonlyargs:=[],kw_defaults:=[],kwarg:=none,defaults:=[]}
noncomputable def defBody(s:Stmt):List Stmt:=match s with
 | .FunctionDef _ _ b _ _ _ _ _ _ _=>b
 |_=>[]
noncomputable def defScope(s:Stmt):Scope:=match s with
 | .FunctionDef _ _ _ _ _ _ sc _ _ _=>sc
 |_=>{kind:= .function,names:=[],isGenerator:=false,isCoroutine:=false}
abbrev CX0:CXT:=fun _ _ _ _ _ _=>False
abbrev E0:XK:=fun _ _ _=>False
theorem pass0{X:Cx}:Passes CX0 X E0:=fun _ _ _ _ _ _ _ h=>h.elim
structure Fun(K:W.Frag)(x qual:Str)(st:Stmt)(f:Addr)(fd:τ):Prop where
 ex:∃(oc:ζ) (od:Option Addr) (kV doc pm:ζ) (an:Option Addr) (cdv ct:ζ) (osl:Array (Option ζ)),
  fd=PySem.W.fnOf x qual (defArgs st) (defBody st) (defScope st) .none kV doc pm an cdv ct/\K.lookup f=some ⟨oc,od,.func fd,osl⟩/\PySem.W.codeIn K cdv qual=true
 kp:PySem.W.keepIn K (.ref f)=true
section
variable{P:ρ}{w:υ}{K:W.Frag}{mg:L4}{base:Heap}
theorem Fun.ok{x qual:Str}{st:Stmt}{f:Addr}{fd:τ}{N ps:List Str}{k:Nat}{sp:Sp}(F:Fun K x qual st f fd)(S:FnScope N ps (defScope st))(len:∀vs H Q E,sp vs H Q E->vs.length=ps.length)(hbody:∀(cdv:ζ) (A:χ) (outer:List Env) (s:η) (H:Hp) (vs:List V) (Q:VK) (E:XK),Room k (A.deeper (envOfC qual (defScope st) s.heap.objs.size f cdv))->sp vs H Q E->
   ∃t,PSs (cxOf CX0 P w K mg base N qual (defScope st) f cdv A outer s H E).nox (defBody st) t/\t {nx:=fun _ H'=>Q .non H',rt:=Q} (start N vs) H):FnOk P w K mg base CX0 (k+1) f fd ps sp:=by
 obtain⟨oc,od,kV,doc,pm,an,cdv,ct,osl,rfl,lk,hcd⟩:=F.ex;refine fn_of lk hcd S len fun A outer s H vs Q E hr hsp=> ?_;obtain⟨t,h,q⟩:=hbody cdv A outer s H vs Q E hr hsp;exact⟨t,h.nox,q⟩
theorem Fun.binds{x qual:Str}{st:Stmt}{f:Addr}{fd:τ}{ps:List Str}(F:Fun K x qual st f fd)(h:∀(kV doc pm:ζ) (an:Option Addr) (cdv ct:ζ) (us:List ζ),us.length=ps.length->bindArgs (PySem.W.fnOf x qual (defArgs st) (defBody st) (defScope st) .none kV doc pm an cdv ct) ⟨us,[]⟩=pure (ps.zip us)):Binds K fd ps []:=by
 obtain⟨oc,od,kV,doc,pm,an,cdv,ct,osl,rfl,lk,hcd⟩:=F.ex;exact .all (h kV doc pm an cdv ct)
theorem fun_mk{x qual:Str}{st:Stmt}{f:Addr}{oc:ζ}{od an:Option Addr}{osl:Array (Option ζ)}{kV doc pm cdv ct:ζ}(l:K.lookup f=some ⟨oc,od,.func (PySem.W.fnOf x qual (defArgs st) (defBody st) (defScope st) .none kV doc pm an cdv ct),osl⟩)(c:PySem.W.codeIn K cdv qual=true)(k:PySem.W.keepIn K (.ref f)=true):Fun K x qual st f (PySem.W.fnOf x qual (defArgs st) (defBody st) (defScope st) .none kV doc pm an cdv ct):=⟨⟨oc,od,kV,doc,pm,an,cdv,ct,osl,rfl,l,c⟩,k⟩
end
theorem hu_of{A:χ}{k:Nat}(hr:Room k A):A.units+1<cLine:=Fy (Nat.add_le_add_left (by decide:1<=64) _) hr.units
theorem small1000{n:Nat}(h:n<=1000):n<sizeLine:=Fy h (by decide)
section
variable{X:Cx}
theorem pv(i:Nat){x:Str}{pos:Pos}(hN:X.N[i]? =some x:=by rfl)(hv:Vis X.env.scope x:=by first |exact Or.inl rfl|exact Or.inr (Or.inl rfl)|exact Or.inr (Or.inr rfl))(hd:(x==("__debug__":Str))=false:=by decide)(hcd:(x==("__classdict__":Str))=false:=by decide):PE X (.Name x pos) (tVar i):=pe_var hN hv hd hcd
end
theorem iteF{A B:Prop}(h:B):if false=true then A else B:=by
 rw[aq rN];exact h
theorem iteT{A B:Prop}(h:A):if true=true then A else B:=by
 rw[aB rfl];exact h
theorem ite2{c A B:Prop} [Decidable c](h1:c->A)(h2:¬c->B):if c then A else B:=by
 by_cases h:c
 ·rw[aB h];exact h1 h
 ·rw[aq h];exact h2 h
def Same(H H':Hp):Prop:=∀b o,H b=some o->H' b=some o
theorem Same.refl(H:Hp):Same H H:=fun _ _ h=>h
theorem Same.trans{H H1 H2:Hp}(a:Same H H1)(b:Same H1 H2):Same H H2:=fun c o h=>b c o (a c o h)
theorem Same.free{H H':Hp}(e:Same H H'){l:Addr}(h:H' l=Option.none):H l=Option.none:=by
 cases q:H l with
 |none=>rfl
 |some o=>
  rw[e l o q]at h;cases h
theorem Same.seq{K:W.Frag}{H H':Hp}{a:Addr}{xs:List V}(e:Same H H')(h:SqL K H a xs):SqL K H' a xs:=by
 rcases h with(h|⟨o,h⟩)|h
 ·exact .inl (.inl (e _ _ h))
 ·exact .inl (.inr ⟨o,e _ _ h⟩)
 ·exact .inr h
end L2
set_option maxHeartbeats 4000000
namespace L2
open PySem PySem.Spec PyProof.Rows
def eZ(cells:List (Str×Addr)):List (Str×NameKind)->List (Str×Addr)->List (Str×Addr)
 |[],acc=>acc
 |p::r,acc=>eZ cells r (if(p.2==NameKind.free)=true then(p.1,(cells.lookup p.1).getD 0)::acc else acc)
theorem jQ{cells:List (Str×Addr)}:∀{names:List (Str×NameKind)} {acc:List (Str×Addr)} {x:Str} {c:Addr},(x,c)∈eZ cells names acc->(x,c)∈acc\/c=(cells.lookup x).getD 0/\(x,NameKind.free)∈names
 |[],_,_,_,h=> .inl h
 |(n,k)::r,acc,x,c,h=>by
  rcases jQ (names:=r) h with q|⟨q,m⟩
  ·dsimp only at q;split at q
   ·rename_i hk;rcases cF.mp q with e|e
    ·cases e;have:k=NameKind.free:=by simpa using hk
     subst this;exact .inr ⟨rfl,dY⟩
    ·exact .inl e
   ·exact .inl q
  ·exact .inr ⟨q,dZ _ m⟩
theorem Bs{cells:List (Str×Addr)}:∀{names:List (Str×NameKind)} {acc:List (Str×Addr)} {p:Str×Addr},p∈acc->p∈eZ cells names acc
 |[],_,_,h=>h
 |(n,k)::r,acc,p,h=>by
  refine Bs (names:=r) ?_;split
  ·exact dZ _ h
  ·exact h
theorem uH{cells:List (Str×Addr)}:∀{names:List (Str×NameKind)} {acc:List (Str×Addr)} {x:Str},(x,NameKind.free)∈names->∃c,(x,c)∈eZ cells names acc
 |(n,k)::r,acc,x,h=>by
  rcases cF.mp h with e|e
  ·cases e;refine⟨(cells.lookup n).getD 0,Bs (names:=r) ?_⟩;rw[aB (show(NameKind.free==NameKind.free)=true from rfl)];exact dY
  ·exact uH (names:=r) e
theorem Zu{β:Type}:∀{l:List (Str×β)} {x:Str} {c:β},(x,c)∈l->∃d,l.lookup x=some d/\(x,d)∈l
 |(n,k)::r,x,c,h=>by
  cases hx:x==n with
  |true=>
   have e:x=n:=by simpa using hx
   subst e;exact⟨k,by simp[HJ],dY⟩
  |false=>
   rcases cF.mp h with e|e
   ·cases e;simp at hx
   ·obtain⟨d,h1,h2⟩:=Zu e;exact⟨d,by simp only[HJ,hx];exact h1,dZ _ h2⟩
def dX(sc scope:Scope):Bool:=scope.names.all fun p=>(p.2 !=NameKind.cell)&&(p.2 !=NameKind.local||scope.names.lookup p.1==some NameKind.local)&&
 (p.2 !=NameKind.free||sc.names.lookup p.1==some NameKind.cell||sc.names.lookup p.1==some NameKind.free)
section
variable{sc scope:Scope}
theorem dX.cell(h:dX sc scope=true):∀y∈scope.names,y.2≠.cell:=fun y hy e=>by
 have q:=rJ.mp h y hy;simp[e]at q
theorem dX.free(h:dX sc scope=true){x:Str}(hy:(x,NameKind.free)∈scope.names):sc.names.lookup x=some .cell\/sc.names.lookup x=some .free:=by
 have q:=rJ.mp h _ hy;simpa using q
end
theorem mJ{scope:Scope}{env:Env}(h:∀x,(x,NameKind.free)∈scope.names->∃c,env.cells.lookup x=some c):closureFor scope env=pure (eZ env.cells scope.names []):=by
 have key:∀(names:List (Str×NameKind)) (acc:List (Str×Addr)),(∀x,(x,NameKind.free)∈names->∃c,env.cells.lookup x=some c)->
   (forIn names acc fun(x:Str×NameKind) (cs:List (Str×Addr))=>if(x.2==NameKind.free)=true then(do let y<-cellOf env x.1;pure (ForInStep.yield ((x.1,y)::cs)))else pure (ForInStep.yield cs):Sem (List (Str×Addr)))=pure (eZ env.cells names acc):=by
  intro names
  induction names with
  |nil=>intro acc _;rfl
  |cons p r ih=>
   intro acc hh;obtain⟨n,k⟩:=p;rw[List.forIn_cons];dsimp only;by_cases hk:(k==NameKind.free)=true
   ·have e:k=NameKind.free:=by simpa using hk
    subst e;obtain⟨c,hc⟩:=hh n dY;rw[aB hk];unfold cellOf;rw[hc];simp only[pure_bind];refine Eq.trans (ih _ fun x hx=>hh x (dZ _ hx)) ?_;show _=pure (eZ env.cells r (if(NameKind.free==NameKind.free)=true then(n,(env.cells.lookup n).getD 0)::acc else acc));rw[aB hk,hc];rfl
   ·rw[aq hk];simp only[pure_bind];refine Eq.trans (ih _ fun x hx=>hh x (dZ _ hx)) ?_;show _=pure (eZ env.cells r (if(k==NameKind.free)=true then(n,(env.cells.lookup n).getD 0)::acc else acc));rw[aq hk]
 have q:=key scope.names [] h;unfold closureFor;simp only[bind_pure];exact q
theorem lW{env:Env}:∀{names:List (Str×NameKind)} {x:Str} {k:NameKind},names.lookup x=some k->
  (names.map fun(n,k)=>if(k==NameKind.free&&env.scope.kind== .function&&env.kindOf n==some .cell)then(n,NameKind.cell)else(n,k)).lookup x=some (if(k==NameKind.free&&env.scope.kind== .function&&env.kindOf x==some .cell)=true then .cell else k)
 |[],_,_,h=>by simp at h
 |(n,k)::r,x,k',h=>by
  have ih:= @lW env r x k';show List.lookup x ((if(k==NameKind.free&&env.scope.kind== .function&&env.kindOf n==some .cell)=true then(n,NameKind.cell)else(n,k))::_)=_;cases hx:x==n with
  |true=>
   have e:x=n:=by simpa using hx
   subst e;simp only[HJ,hx]at h;cases h;by_cases hc:(k==NameKind.free&&env.scope.kind== .function&&env.kindOf x==some .cell)=true
   ·rw[aB hc,aB hc];simp[HJ]
   ·rw[aq hc,aq hc];simp[HJ]
  |false=>
   simp only[HJ,hx]at h;by_cases hc:(k==NameKind.free&&env.scope.kind== .function&&env.kindOf n==some .cell)=true
   ·rw[aB hc];simp only[HJ,hx];exact ih h
   ·rw[aq hc];simp only[HJ,hx];exact ih h
theorem uc{env:Env}:∀{names:List (Str×NameKind)} {x:Str},names.lookup x=none->
  (names.map fun(n,k)=>if(k==NameKind.free&&env.scope.kind== .function&&env.kindOf n==some .cell)then(n,NameKind.cell)else(n,k)).lookup x=none
 |[],_,_=>rfl
 |(n,k)::r,x,h=>by
  have ih:= @uc env r x;show List.lookup x ((if(k==NameKind.free&&env.scope.kind== .function&&env.kindOf n==some .cell)=true then(n,NameKind.cell)else(n,k))::_)=_;cases hx:x==n with
  |true=>simp only[HJ,hx]at h;cases h
  |false=>
   simp only[HJ,hx]at h;by_cases hc:(k==NameKind.free&&env.scope.kind== .function&&env.kindOf n==some .cell)=true
   ·rw[aB hc];simp only[HJ,hx];exact ih h
   ·rw[aq hc];simp only[HJ,hx];exact ih h
theorem Di{scope:Scope}{env:Env}{x:Str}(h:scope.names.lookup x=some .free):(relabel scope env).names.lookup x=some .cell\/(relabel scope env).names.lookup x=some .free:=by
 have q:=lW (env:=env) h;by_cases hc:((NameKind.free==NameKind.free)&&env.scope.kind== .function&&env.kindOf x==some .cell)=true
 ·rw[aB hc]at q;exact .inl q
 ·rw[aq hc]at q;exact .inr q
inductive gA(X:Cx)(scope:Scope):List Str->List Nat->Prop
 |nil:gA X scope [] []
 |cons {x:Str} {j:Nat} {xs:List Str} {js:List Nat} (hN:X.N[j]? =some x) (hf:scope.names.lookup x=some .free) (t:gA X scope xs js):gA X scope (x::xs) (j::js)
theorem gA.get{X:Cx}{scope:Scope}:∀{xs:List Str} {js:List Nat} {k:Nat} {x:Str},gA X scope xs js->xs[k]? =some x->∃j,js[k]? =some j/\X.N[j]? =some x/\scope.names.lookup x=some .free
 |_,_,k,x,.nil,h=>by simp at h
 |_,_,0,x,.cons h1 h2 _,h=>by simp at h;subst h;exact⟨_,rfl,h1,h2⟩
 |_,_,k+1,x,.cons _ _ t,h=>by
  obtain⟨j,a,b⟩:=gA.get (k:=k) t (by simpa using h);exact⟨j,by simpa using a,b⟩
theorem gA.len{X:Cx}{scope:Scope}:∀{xs:List Str} {js:List Nat},gA X scope xs js->xs.length=js.length
 |_,_,.nil=>rfl
 |_,_,.cons _ _ t=>by simp[gA.len t]
def Aq(own:List Str)(ix:List Nat)(σ:St):St:=own.map (fun _=>none)++ix.map fun j=>(σ[j]?).join
def Vs(X:Cx)(ifs:List Expr)(t:TT):Prop:=
 ∀(pins:L1) (s:η) (σ:St) (H:Hp) (Q:Bool->Hp->Prop),Inv X pins σ H s->t σ H Q->
  wpAny (model X.prog X.w) X.A (forIn ifs true fun c r=>if r=true then do let ok<-isTrue c X.env (eval c X.env);pure (ForInStep.yield ok)else pure (ForInStep.yield r)) (TP X pins σ Q) X.xe s
theorem qG{X:Cx}:Vs X [] (fun _ H Q=>Q true H):=fun _ _ _ H _ I h=>wpAny_tests_nil ⟨H,I,h⟩
theorem Hy{X:Cx}{c:Expr}{t:TT}(h:PT X c t):Vs X [c] t:=fun pins s σ H Q I hq=>wpAny_tests_one (h pins s σ H Q I hq)
theorem HOk.add{P:ρ}{w:υ}{H:Hp}{h:Heap}{a:Addr}{o:HO}(x:HOk P w H h)(hn:H a=none)(new:ObjOk P w (upd H a o) h a o):HOk P w (upd H a o) h:=fun b u e=>by
 by_cases hb:b=a
 ·subst hb;rw[aH]at e;cases e;exact new
 ·rw[bU hb]at e;exact(x b u e).stay (fun c v _ q=>q) (fun c q=>by rw[bU (jh q hn)];exact q) fun c xs q=>by rw[bU (jh q hn)];exact q
theorem Un.add{fs ex:List Addr}{H H':Hp}{h h':Heap}{a:Addr}{o:HO}(u:Un fs ex H H' h h')(ha:h.objs.size<=a)(hn:H' a=none):Un fs ex H (upd H' a o) h h' where
 keep:=u.keep
 slot:=u.slot
 free:=fun b ob q n hx=>by rw[bU (cQ (gC (cR q) ha))];exact u.free b ob q n hx
 there:=u.there
 tups:=fun b xs q=>by have:=u.tups b xs q;rw[bU (jh this hn)];exact this
 frzs:=fun b ob xs q=>by have:=u.frzs b ob xs q;rw[bU (jh this hn)];exact this
 tbls:=fun b ps q=>by obtain⟨m,e⟩:=u.tbls b ps q;exact⟨m,by rw[bU (jh e hn)];exact e⟩
def BZ(J:It)(ini:St)(H:Hp)(g:TG)(tc:TT)(te:TE)(Fin:List V->Hp->Prop):Prop:=
 ∃W:Nat->Nat->List V->St->Hp->Prop,(∃m,W 0 m [] ini H)/\∀i m acc σ H,W i m acc σ H->
  (J.stop i H/\acc.length<=sizeLine/\Fin acc H)\/(J.go i H/\acc.length<sizeLine/\∃N:List V->St->Hp->Prop,(∀acc' σ' H',N acc' σ' H'->∃m',m'<m/\W (i+1) m' acc' σ' H')/\∀x H',J.yld i H x H'->g x σ H' fun σ2 H2=>tc σ2 H2 fun b H3=>
   if b=true then te σ2 H3 fun v H4=>N (acc++[v]) σ2 H4 else N acc σ2 H3)
def Gb(wi:TI)(own:List Str)(ix:List Nat)(g:TG)(tc:TT)(te:TE):TE:=fun σ H Q=>wi σ H fun J H1=>
 BZ J (Aq own ix σ) H1 g tc te fun acc H'=>∀p,H' p=none->Q (.ref p) (upd H' p (.lst acc))
section
variable{K:W.Frag}{a:Addr}{xs:List V}{g:TG}{tc:TT}{te:TE}{Fin:List V->Hp->Prop}{ini:St}{H:Hp}
theorem Cm(Pv:Nat->List V->St->Hp->Prop)(h0:Pv 0 [] ini H)(hl:∀(i:Nat) acc σ H,i<=xs.length->Pv i acc σ H->SqL K H a xs)(hz:∀(i:Nat) acc σ H,i<=xs.length->Pv i acc σ H->acc.length<=i)(hx:xs.length<=sizeLine)(hs:∀(i:Nat) x acc σ H,xs[i]? =some x->Pv i acc σ H->g x σ H fun σ2 H2=>tc σ2 H2 fun b H3=>if b=true then te σ2 H3 fun v H4=>Pv (i+1) (acc++[v]) σ2 H4 else Pv (i+1) acc σ2 H3)(hd:∀acc σ H,Pv xs.length acc σ H->Fin acc H):BZ (Itl K a) ini H g tc te Fin:=by
 refine⟨fun i m acc σ H=>m=xs.length-i/\i<=xs.length/\Pv i acc σ H,⟨xs.length,by simp,dB _,h0⟩,?_⟩;rintro i m acc σ H ⟨rfl,hi,p⟩;have q:=hl i acc σ H hi p;have z:=hz i acc σ H hi p;by_cases hlt:i<xs.length
 ·refine .inr ⟨⟨xs,xs[i],q,by simp[hlt]⟩,by omega,fun acc σ H=>Pv (i+1) acc σ H,fun acc' σ' H' r=>⟨_,by omega,rfl,hlt,r⟩,fun x H' y=> ?_⟩;obtain⟨e,y⟩:=y;subst e;exact hs i x acc σ _ (y xs q) p
 ·have e:i=xs.length:=by omega
  subst e;exact .inl ⟨⟨xs,q,aN _⟩,by omega,hd acc σ H p⟩
theorem JV(Pv:Nat->List V->St->Hp->Prop)(h0:Pv 0 [] ini H)(hl:∀(i:Nat) acc σ H,i<=xs.length->Pv i acc σ H->SqT K H a xs)(hz:∀(i:Nat) acc σ H,i<=xs.length->Pv i acc σ H->acc.length<=i)(hx:xs.length<=sizeLine)(hs:∀(i:Nat) x acc σ H,xs[i]? =some x->Pv i acc σ H->g x σ H fun σ2 H2=>tc σ2 H2 fun b H3=>if b=true then te σ2 H3 fun v H4=>Pv (i+1) (acc++[v]) σ2 H4 else Pv (i+1) acc σ2 H3)(hd:∀acc σ H,Pv xs.length acc σ H->Fin acc H):BZ (Itt K a) ini H g tc te Fin:=by
 refine⟨fun i m acc σ H=>m=xs.length-i/\i<=xs.length/\Pv i acc σ H,⟨xs.length,by simp,dB _,h0⟩,?_⟩;rintro i m acc σ H ⟨rfl,hi,p⟩;have q:=hl i acc σ H hi p;have z:=hz i acc σ H hi p;by_cases hlt:i<xs.length
 ·refine .inr ⟨⟨xs,xs[i],q,by simp[hlt]⟩,by omega,fun acc σ H=>Pv (i+1) acc σ H,fun acc' σ' H' r=>⟨_,by omega,rfl,hlt,r⟩,fun x H' y=> ?_⟩;obtain⟨e,y⟩:=y;subst e;exact hs i x acc σ _ (y xs q) p
 ·have e:i=xs.length:=by omega
  subst e;exact .inl ⟨⟨xs,q,aN _⟩,by omega,hd acc σ H p⟩
theorem T5{lo:Int}{n:Nat}(Pv:Nat->List V->St->Hp->Prop)(h0:Pv 0 [] ini H)(hz:∀(i:Nat) acc σ H,i<=n->Pv i acc σ H->acc.length<=i)(hx:n<=sizeLine)(hs:∀(i:Nat) acc σ H,i<n->Pv i acc σ H->g (.int (lo+i)) σ H fun σ2 H2=>tc σ2 H2 fun b H3=>if b=true then te σ2 H3 fun v H4=>Pv (i+1) (acc++[v]) σ2 H4 else Pv (i+1) acc σ2 H3)(hd:∀acc σ H,Pv n acc σ H->Fin acc H):BZ (Itr lo n) ini H g tc te Fin:=by
 refine⟨fun i m acc σ H=>m=n-i/\i<=n/\Pv i acc σ H,⟨n,by simp,dB _,h0⟩,?_⟩;rintro i m acc σ H ⟨rfl,hi,p⟩;have z:=hz i acc σ H hi p;by_cases hlt:i<n
 ·refine .inr ⟨hlt,by omega,fun acc σ H=>Pv (i+1) acc σ H,fun acc' σ' H' r=>⟨_,by omega,rfl,hlt,r⟩,fun x H' y=> ?_⟩;obtain⟨e,y⟩:=y;subst e y;exact hs i acc σ _ hlt p
 ·have e:i=n:=by omega
  subst e;exact .inl ⟨aN _,by omega,hd acc σ H p⟩
end
end L2
namespace qR
open PySem PySem.W PyProof.Rows
section
variable{O:KeyOrd}{key:Nat->O.α}{N:Nat}{cmp:Nat->Nat->(Bool->η->Prop)->η->Prop}{s:η}
def jf(O:KeyOrd)(key:Nat->O.α)(N:Nat)(cmp:Nat->Nat->(Bool->η->Prop)->η->Prop)(s:η):Prop:=
 ∀i j (C:Bool->η->Prop),i<N->j<N->C (O.blt (key i) (key j)) s->cmp i j C s
noncomputable def KN(key:Nat->O.α)(p:Array Nat)(i:Nat):O.α:=key (p.getD i 0)
def So(key:Nat->O.α)(p:Array Nat)(k:Nat):Prop:=∀i j,i<=j->j<k->O.kle (KN key p i) (KN key p j)
def Ni(key:Nat->O.α)(p:Array Nat)(k:Nat):Prop:=∀i j,i<=j->j<k->O.kle (KN key p j) (KN key p i)
structure Ord(N:Nat)(p:Array Nat):Prop where
 perm:p.Perm (List.toArray (List.range N))
theorem Ord.size{p:Array Nat}(h:Ord N p):p.size=N:=by have:=h.perm.size_eq;simpa using this
theorem Ord.lt{p:Array Nat}(h:Ord N p){i:Nat}(hi:i<N):p.getD i 0<N:=by
 have hi':i<p.size:=by rw[h.size];exact hi
 have e:p.getD i 0=p[i]:=by simp[Array.getD,hi']
 rw[e];have m:p[i]∈p.toList:=by simp
 have:=(yei.mp h.perm).mem_iff.mp m;simpa using this
theorem Ord.rev{p:Array Nat}(h:Ord N p)(i j:Nat):Ord N (kas_rev p i j):=⟨(mirror_perm _ _ _ _).trans h.perm⟩
theorem Ord.bub{p:Array Nat}(h:Ord N p)(i j:Nat):Ord N (bubble p i j):=⟨(bubble_perm _ _ _).trans h.perm⟩
theorem uy(p:Array Nat)(i:Nat):p.getD i 0=(p[i]?).getD 0:=by simp
theorem Ey{p:Array Nat}{i j:Nat}(hj:j<=p.size)(k:Nat):KN key (kas_rev p i j) k=if i<=k/\k<j then KN key p (i+j-1-k)else KN key p k:=by
 have e:=getElem?_mirror_all (i:=i) hj k;unfold KN kas_rev;rw[uy,e];split
 ·rw[uy]
 ·rw[uy]
theorem Zr{p:Array Nat}{i j:Nat}(hj:j<=p.size)(heq:∀k,i<=k->k<j->KN key p k=KN key p (j-1))(k:Nat):KN key (kas_rev p i j) k=KN key p k:=by
 rw[Ey hj];split
 ·rename_i h;rw[heq k h.1 h.2,heq _ (by omega) (by omega)]
 ·rfl
theorem Qd{p:Array Nat}{src d:Nat}(hs:src<p.size)(hd:d<=src)(k:Nat):KN key (bubble p src d) k=if k=src-d then KN key p src else if src-d<k/\k<=src then KN key p (k-1)else KN key p k:=by
 have e:=getElem?_bubble hs d hd k;have q:KN key (bubble p src d) k=key (((bubble p src d)[k]?).getD 0):=iD key (uy _ _);have q2:∀i,KN key p i=key ((p[i]?).getD 0):=fun i=>iD key (uy _ _);rw[q,e,q2,q2,q2];by_cases h1:k=src-d
 ·rw[aB h1,aB h1]
 ·rw[aq h1,aq h1];by_cases h2:src-d<k/\k<=src
  ·rw[aB h2,aB h2]
  ·rw[aq h2,aq h2]
theorem GX{i j:Nat}(h:i<=j)(hn:¬i=j):i<=j-1:=yej (Kp h hn)
theorem Eh{j n:Nat}(h:j<n+1)(hn:¬j<n):j=n:=VD (Ua h) (T7.mp hn)
theorem jG{x k:Nat}(h:1<=x)(hk:x<=k):x-1<k:=ZP h hk
theorem DG{x f N:Nat}(h:x+(f+1)<=N):x<N:=gC (Nat.lt_add_of_pos_right (yx f)) h
theorem wC{x f N:Nat}(h:x+(f+1)<=N):x+1+f<=N:=dO (Fv (ydm x f)) h
theorem Ur{x f m:Nat}(h:m<=x+1+f):m<=x+(f+1):=dO h (Fv (ydm x f))
theorem Wo{i j n:Nat}(h:i<=j):0+n-1-j<=0+n-1-i:=Nat.sub_le_sub_left h _
theorem Wn{i n:Nat}(h:i<n):0+n-1-i<n:=by
 rw[who];exact Fy (whl _ _) (ZP (Fy (dB _) h) (aN _))
theorem asc(ok:jf O key N cmp s){p:Array Nat}(hp:Ord N p){Q:Nat->η->Prop}:∀(f n:Nat),1<=n->n+f<=N->So key p n->(∀m,n<=m->m<=n+f->So key p m->(m=n+f\/O.klt (KN key p m) (KN key p (m-1)))->Q m s)->(kas_asc p f n).kasWp cmp Q s
 |0,n,_,_,hs,h=>h n (aN _) (aN _) hs (.inl rfl)
 |f+1,n,h1,hn,hs,h=>by
  have Xk:n<N:=DG hn;refine ok _ _ _ (hp.lt Xk) (hp.lt (jG h1 (cW Xk))) ?_;cases hless:O.blt (key (p.getD n 0)) (key (p.getD (n-1) 0))with
  |true=>
   show Q n s;exact h n (aN _) (wgc _ _) hs (.inr hless)
  |false=>
   show(kas_asc p f (n+1)).kasWp cmp Q s;refine asc ok hp f (n+1) (yx _) (wC hn) (fun i j hij hj=> ?_) fun m a b c d=>h m (wfd a) (Ur b) c (d.imp (fun z=>z.trans (ydm n f)) id);by_cases hjn:j<n
   ·exact hs i j hij hjn
   ·have hj':j=n:=Eh hj hjn;subst hj';by_cases hi':i=j
    ·subst hi';exact QV _
    ·exact wdr (hs i (j-1) (GX hij hi') (jG h1 (aN _))) hless
theorem tail3(ok:jf O key N cmp s){p:Array Nat}(hp:Ord N p){n:Nat}{Q:Nat×Array Nat->η->Prop}(h1:1<=n)(hn:n<=N)(hs:Ni key p n)(h:∀m p',Ord N p'->1<=m->m<=N->So key p' m->Q (m,p') s):(kas_tail3 n N p).kasWp cmp Q s:=by
 unfold kas_tail3;rw[wdb];have hsz:n<=p.size:=by rw[hp.size];exact hn
 have hN:n+(N-n)=N:=wef hn;refine asc ok (hp.rev 0 n) (N-n) n h1 (Fv hN) (fun i j hij hj=> ?_) fun m a b c _=>h m _ (hp.rev 0 n) (dO h1 a) (dO b (Fv hN)) c;rw[Ey hsz,Ey hsz,aB ⟨dB _,Fy hij hj⟩,aB ⟨dB _,hj⟩];exact hs _ _ (Wo hij) (Wn (Fy hij hj))
theorem Pq{p p':Array Nat}{x:Nat}(h1:1<=x)(hs:Ni key p x)(hless:O.kle (KN key p x) (KN key p (x-1)))(hk:∀k,KN key p' k=KN key p k):Ni key p' (x+1):=by
 intro i j hij hj;rw[hk,hk];by_cases hjx:j<x
 ·exact hs i j hij hjx
 ·have hj':j=x:=Eh hj hjx;subst hj';by_cases hi':i=j
  ·subst hi';exact QV _
  ·exact wdr hless (hs i (j-1) (GX hij hi') (jG h1 (aN _)))
theorem one_eq{p:Array Nat}{x i:Nat}(h1:x+1-(0+1)<=i)(h2:i<x+1):KN key p i=KN key p (x+1-1):=iD _ (VD (Ua h2) h1)
theorem desc(ok:jf O key N cmp s){Q:Array Nat×Nat×Nat->η->Prop}:∀(f:Nat) (p:Array Nat) (x neq:Nat),Ord N p->1<=x->x+f<=N->Ni key p x->neq+1<=x->(∀i,x-(neq+1)<=i->i<x->KN key p i=KN key p (x-1))->
  (∀p' m q,Ord N p'->x<=m->m<=x+f->Ni key p' m->q+1<=m->(∀i,m-(q+1)<=i->i<m->KN key p' i=KN key p' (m-1))->Q (p',m,q) s)->(kas_desc f p x neq).kasWp cmp Q s
 |0,p,x,neq,hp,_,_,hs,hq,he,h=>h p x neq hp (aN _) (aN _) hs hq he
 |f+1,p,x,neq,hp,h1,hn,hs,hq,he,h=>by
  have hxN:x<N:=DG hn;have hsz:x<=p.size:=by rw[hp.size];exact cW hxN
  have hx1:x-1<N:=jG h1 (cW hxN);have hh:∀p' m q,Ord N p'->x+1<=m->m<=x+1+f->Ni key p' m->q+1<=m->(∀i,m-(q+1)<=i->i<m->KN key p' i=KN key p' (m-1))->Q (p',m,q) s:=fun p' m q a b c d e g=>h p' m q a (wfd b) (Ur c) d e g;refine ok _ _ _ (hp.lt hxN) (hp.lt hx1) ?_;cases hless:O.blt (key (p.getD x 0)) (key (p.getD (x-1) 0))with
  |true=>
   show(if neq>0 then kas_desc f (kas_rev p (x-(neq+1)) x) (x+1) 0 else kas_desc f p (x+1) 0).kasWp cmp Q s;by_cases hneq:neq>0
   ·rw[aB hneq];exact desc ok f _ (x+1) 0 (hp.rev _ _) (yx _) (wC hn) (Pq h1 hs (wco hless) (Zr hsz he)) (yx _) (fun i h1 h2=>one_eq h1 h2) hh
   ·rw[aq hneq];exact desc ok f _ (x+1) 0 hp (yx _) (wC hn) (Pq h1 hs (wco hless) fun _=>rfl) (yx _) (fun i h1 h2=>one_eq h1 h2) hh
  |false=>
   show(KasT.ask (p.getD (x-1) 0) (p.getD x 0) fun d=>if d=true then KasT.ret (p,x,neq)else kas_desc f p (x+1) (neq+1)).kasWp cmp Q s;refine ok _ _ _ (hp.lt hx1) (hp.lt hxN) ?_;cases hl:O.blt (key (p.getD (x-1) 0)) (key (p.getD x 0))with
   |true=>exact h p x neq hp (aN _) (wgc _ _) hs hq he
   |false=>
    show(kas_desc f p (x+1) (neq+1)).kasWp cmp Q s;have heqx:KN key p x=KN key p (x-1):=KeyOrd.kle_antisymm hl hless;refine desc ok f _ (x+1) (neq+1) hp (yx _) (wC hn) (Pq h1 hs (by rw[heqx];exact QV _) fun _=>rfl) (Nat.succ_le_succ hq) (fun i h1 h2=> ?_) hh;show KN key p i=KN key p x;by_cases hix:i=x
    ·subst hix;rfl
    ·rw[heqx];exact he i (dO (Fv (Nat.succ_sub_succ x (neq+1)).symm) h1) (Kp (Ua h2) hix)
theorem descPart(ok:jf O key N cmp s){p:Array Nat}(hp:Ord N p){n:Nat}{Q:Nat×Array Nat->η->Prop}(hn:n+1<=N)(hs:Ni key p (n+1))(h:∀m p',Ord N p'->1<=m->m<=N->So key p' m->Q (m,p') s):(kas_descPart n N p).kasWp cmp Q s:=by
 unfold kas_descPart;rw[wdb];have hN:n+1+(N-(n+1))<=N:=Fv (wef hn);refine desc ok _ _ _ _ hp (yx _) hN hs (yx _) (fun i h1 h2=>one_eq h1 h2) fun p' m q a b c d e g=> ?_;have hm:m<=N:=dO c hN;have hm1:1<=m:=dO (yx _) b;have hsz:m<=p'.size:=by rw[a.size];exact hm
 dsimp only;by_cases hq:q>0
 ·rw[aB hq];refine tail3 ok (a.rev _ _) hm1 hm (fun i j hij hj=> ?_) h;rw[Zr hsz g,Zr hsz g];exact d i j hij hj
 ·rw[aq hq];exact tail3 ok a hm1 hm d h
theorem count(ok:jf O key N cmp s){p:Array Nat}(hp:Ord N p){Q:Nat×Array Nat->η->Prop}(h1:1<=N)(h:∀m p',Ord N p'->1<=m->m<=N->So key p' m->Q (m,p') s):(kas_count N p).kasWp cmp Q s:=by
 unfold kas_count;rw[wdb];have hN:1+(N-1)=N:=wef h1;refine asc ok hp (N-1) 1 (aN _) (Fv hN) (fun i j hij hj=>by
  have hj0:j=0:=Nat.lt_one_iff.mp hj;subst hj0;have hi0:i=0:=Nat.le_zero.mp hij;subst hi0;exact QV _) fun n a b hsn hor=> ?_
 have Xk:n<=N:=dO b (Fv hN);by_cases hnn:n=N
 ·rw[aB (by simpa using hnn)];exact h n p hp a Xk hsn
 ·rw[aq (by simpa using hnn)];have hlt:O.klt (KN key p n) (KN key p (n-1)):=hor.resolve_left fun z=>hnn (z.trans hN);have xM:n<N:=Kp Xk hnn;by_cases hgt:n>1
  ·rw[aB hgt];have hn1:n-1<n:=jG a (aN _);refine ok _ _ _ (hp.lt h1) (hp.lt (Kl hn1 xM)) ?_;cases hrose:O.blt (key (p.getD 0 0)) (key (p.getD (n-1) 0))with
   |true=>exact h n p hp a Xk hsn
   |false=>
    show(kas_descPart n N (kas_rev p 0 n)).kasWp cmp Q s;have hsz:n<=p.size:=by rw[hp.size];exact Xk
    have hall:∀k,0<=k->k<n->KN key p k=KN key p (n-1):=fun k _ hk=>
     KeyOrd.kle_antisymm (hsn k (n-1) (yej hk) hn1) (wdr hrose (hsn 0 k (dB _) hk))
    refine descPart ok (hp.rev 0 n) xM (fun i j hij hj=> ?_) h;rw[Zr hsz hall,Zr hsz hall];by_cases hjn:j<n
    ·rw[hall i (dB _) (Fy hij hjn),hall j (dB _) hjn];exact QV _
    ·have hj':j=n:=Eh hj hjn;subst hj';by_cases hi':i=j
     ·subst hi';exact QV _
     ·rw[hall i (dB _) (Kp hij hi')];exact wco hlt
  ·rw[aq hgt];have hn1':n=1:=VD (T7.mp hgt) a;subst hn1';refine descPart ok hp xM (fun i j hij hj=> ?_) h;by_cases hi':i=j
   ·subst hi';exact QV _
   ·have hij':i<j:=Kp hij hi';have hj1:j=1:=VD (Ua hj) (Fy (dB i) hij');subst hj1;have hi0:i=0:=Nat.lt_one_iff.mp hij';subst hi0;exact wco hlt
theorem half_lt{l r:Nat}(h:l<r):(l+r)/2<r:=by omega
theorem SM{l r:Nat}(h:l<r):l<=(l+r)/2:=by omega
theorem place(ok:jf O key N cmp s){p:Array Nat}(hp:Ord N p){k:Nat}{Q:Nat->η->Prop}(hk:k<N)(hs:So key p k):∀(f l r:Nat),l<=r->r<=k->r-l<=f->(∀i,i<l->O.kle (KN key p i) (KN key p k))->(∀i,r<=i->i<k->O.klt (KN key p k) (KN key p i))->
  (∀l,l<=k->(∀i,i<l->O.kle (KN key p i) (KN key p k))->(∀i,l<=i->i<k->O.klt (KN key p k) (KN key p i))->Q l s)->(kas_place p k f l r).kasWp cmp Q s
 |0,l,r,hlr,hrk,hm,hlo,hhi,h=>by
  have e:l=r:=VD hlr (Nat.sub_eq_zero_iff_le.mp (Nat.le_zero.mp hm));subst e;exact h l hrk hlo hhi
 |f+1,l,r,hlr,hrk,hm,hlo,hhi,h=>by
  show(if l≥r then KasT.ret l else KasT.ask (p.getD k 0) (p.getD ((l+r)/2) 0) fun c=>if c=true then kas_place p k f l ((l+r)/2)else kas_place p k f ((l+r)/2+1) r).kasWp cmp Q s;by_cases hge:l≥r
  ·rw[aB hge];have e:l=r:=VD hlr hge;subst e;exact h l hrk hlo hhi
  ·rw[aq hge];have hc:(l+r)/2<r:=half_lt (Nat.not_le.mp hge);have hd:l<=(l+r)/2:=SM (Nat.not_le.mp hge);generalize (l+r)/2=c at hc hd⊢;refine ok _ _ _ (hp.lt hk) (hp.lt (Kl (gC hc hrk) hk)) ?_;cases hless:O.blt (key (p.getD k 0)) (key (p.getD c 0))with
   |true=>
    refine place ok hp hk hs f l c hd (cW (gC hc hrk)) (Ua (gC (Nat.sub_lt_sub_right hd hc) hm)) hlo (fun i h1 h2=> ?_) h;by_cases hi:i=c
    ·subst hi;exact hless
    ·exact KeyOrd.klt_of_klt_of_kle hless (hs c i h1 h2)
   |false=>
    refine place ok hp hk hs f (c+1) r hc hrk (Ua (gC (Nat.sub_lt_sub_left (Fy hd hc) (Nat.lt_succ_of_le hd)) hm)) (fun i h1=> ?_) hhi h;by_cases hi:i=c
    ·subst hi;exact hless
    ·exact wdr (hs i c (Ua h1) (gC hc hrk)) hless
theorem abp{p:Array Nat}{k l:Nat}(hs:So key p k)(hl:l<=k)(hsz:k<p.size)(hlo:∀i,i<l->O.kle (KN key p i) (KN key p k))(hhi:∀i,l<=i->i<k->O.klt (KN key p k) (KN key p i)):So key (bubble p k (k-l)) (k+1):=by
 intro i j hij hj;have e:k-(k-l)=l:=Nat.sub_sub_self hl;rw[Qd hsz (whl _ _),Qd hsz (whl _ _),e];have hjk:j<=k:=Ua hj;by_cases hi1:i=l
 ·rw[aB hi1];by_cases hj1:j=l
  ·rw[aB hj1];exact QV _
  ·have lj:l<j:=Kp (hi1▸hij) (kO hj1);rw[aq hj1,aB ⟨lj,hjk⟩];exact wco (hhi (j-1) (yej lj) (ZP (Fy (dB _) lj) hjk))
 ·rw[aq hi1];by_cases hi2:l<i/\i<=k
  ·have lj:l<j:=gC hi2.1 hij;rw[aB hi2,aq (kO (cQ lj)),aB ⟨lj,hjk⟩];exact hs _ _ (Nat.sub_le_sub_right hij 1) (ZP (Fy (dB _) lj) hjk)
  ·rw[aq hi2];have il:i<l:=Kp (T7.mp fun z=>hi2 ⟨z,dO hij hjk⟩) hi1;by_cases hj1:j=l
   ·rw[aB hj1];exact hlo i il
   ·rw[aq hj1];by_cases hj2:l<j/\j<=k
    ·rw[aB hj2];exact hs _ _ (yej (Kl il hj2.1)) (ZP (Fy (dB _) hj2.1) hjk)
    ·rw[aq hj2];exact hs _ _ hij (gC (Kp (T7.mp fun z=>hj2 ⟨z,hjk⟩) hj1) hl)
theorem bins(ok:jf O key N cmp s){Q:Array Nat->η->Prop}:∀(f:Nat) (p:Array Nat) (k:Nat),Ord N p->1<=k->k+f=N->So key p k->(∀p',Ord N p'->So key p' N->Q p' s)->(kas_bin f p k).kasWp cmp Q s
 |0,p,k,hp,_,hf,hs,h=>h p hp ((show k=N from hf)▸hs)
 |f+1,p,k,hp,h1,hf,hs,h=>by
  show((kas_place p k k 0 k).bind fun l=>kas_bin f (bubble p k (k-l)) (k+1)).kasWp cmp Q s;rw[wdb];have hk:k<N:=DG (Fv hf);have hsz:k<p.size:=by rw[hp.size];exact hk
  refine place ok hp hk hs k 0 k (dB _) (aN _) (whl _ _) (fun i hi=>absurd hi (QL _)) (fun i h1 h2=>absurd h2 (T7.mpr h1)) fun l hl hlo hhi=> ?_;exact bins ok f _ (k+1) (hp.bub _ _) (yx _) ((ydm k f).trans hf) (abp hs hl hsz hlo hhi) h
theorem sort(ok:jf O key N cmp s){Q:Array Nat->η->Prop}(h1:1<=N)(h:∀p',Ord N p'->So key p' N->Q p' s):(kas_sort N).kasWp cmp Q s:=by
 unfold kas_sort;rw[wdb];refine count ok ⟨Array.Perm.refl _⟩ h1 fun m p' hp hm1 hm2 hs=> ?_;dsimp only;by_cases hlt:m<N
 ·rw[aB hlt];have e:max m 1=m:=by omega
  rw[e];exact bins ok _ _ _ hp hm1 (by omega) hs h
 ·rw[aq hlt];have e:m=N:=by omega
  subst e;exact h p' hp hs
end
end qR
namespace qR
open PySem PySem.W PyProof.Rows PySem.Calls
def JM{O:KeyOrd}(key:Nat->O.α)(vs out:List ζ):Prop:=∃p:Array Nat,Ord vs.length p/\So key p vs.length/\out=p.toList.map fun i=>vs.getD i Value.none
section
variable{prog:ρ}{w:υ}{A:χ}{E:L3}{s:η}{O:KeyOrd}{key:Nat->O.α}{κ:SortKind}{vs:List ζ}
theorem Dm(h2:vs.length<2):JM key vs vs:=by
 refine⟨List.toArray (List.range vs.length),⟨Array.Perm.refl _⟩,fun i j hij hj=> ?_,?_⟩
 ·have e:i=j:=by omega
  subst e;exact QV _
 ·match vs,h2 with
  |[],_=>rfl
  |[v],_=>rfl
  |_::_::_,h=>simp at h;omega
theorem gY{a:Addr}{n:Nat}{P:PySem.Fin->η->Prop}(ho:s.heap.get? a=some (seqObj "list" vs.toArray n))(h64:vs.length<64)(hkind:2<=vs.length->∀h',(∀b o,b≠a->s.heap.get? b=some o->h'.get? b=some o)->∀Q:SortKind->η->Prop,Q κ {s with heap:=h'}->wpAny (model prog w) A (keyKind' vs.toArray) Q E {s with heap:=h'})(Oa:2<=vs.length->∀h',(∀b o,b≠a->s.heap.get? b=some o->h'.get? b=some o)->jf O key vs.length (kas_ask prog w A κ vs) {s with heap:=h'})(h:∀h' out c,JM key vs out->(∀b o,b≠a->s.heap.get? b=some o->h'.get? b=some o)->h'.get? a=some (seqObj "list" (List.toArray out) c)->P (.done (.ret .none)) {s with heap:=h'}):
  wpAny (model prog w) A (Builtin.«list.sort» ⟨[.ref a],[]⟩) P E s:=by
 have ha:a<s.heap.objs.size:=cR ho;have s1:=Cu s.heap a (Obj.mapSeq fun _=>(#[]:Array ζ));obtain⟨e1,ho1⟩:∃e1,(s.heap.update a (Obj.mapSeq fun _=>(#[]:Array ζ))).get? a=some (seqObj "list" #[] e1):=⟨_,V1 ho fun _=>#[]⟩;have keep:∀b o,b≠a->s.heap.get? b=some o->(((s.heap.update a (Obj.mapSeq fun _=>(#[]:Array ζ))).push (seqObj "tuple" vs.toArray 0)).push (seqObj "list" #[] 0)).get? b=some o:=fun b o hb e=>
  cV _ (cV _ ((s1.2 b hb).trans e))
 have ho6:(((s.heap.update a (Obj.mapSeq fun _=>(#[]:Array ζ))).push (seqObj "tuple" vs.toArray 0)).push (seqObj "list" #[] 0)).get? a=some (seqObj "list" #[] e1):=cV _ (cV _ ho1);rw[list_sort_plain];refine ao (listItems_at ho rfl ?_);refine ao (wft ho rfl ?_ (by rw[fu,eE];omega) (dB _));refine ao (seqEpoch_at ho1 rfl ?_);refine ao (wpAny_newTuple ?_ (by show vs.length<=_;rw[eE];omega));refine ao (V0 ?_ (dB _));refine uX ?_;show wpAny (model prog w) A _ P E {s with heap:=((s.heap.update a (Obj.mapSeq fun _=>(#[]:Array ζ))).push (seqObj "tuple" vs.toArray 0)).push (seqObj "list" #[] 0)};dsimp only;by_cases h2:vs.toArray.size<2
 ·have h2':vs.length<2:=by simpa using h2
  rw[aB h2,aB h2];refine ao (aK ?_);rw[StateT.run_pure];refine ao (aK ?_);dsimp only;refine ao (seqEpoch_at ho6 rfl ?_);refine ao (wft ho6 rfl ?_ (dB _) (by rw[Array.size_map];show(pairsOf vs).size<=_;rw[pairsOf_size,eE];omega));simp only[wfe,wci,VL];refine aK ?_;have eo:(vs.toArray.zip vs.toArray).map (·.2)=List.toArray vs:=by
   apply Array.toList_inj.mp;simp[List.map_snd_zip]
  have s2:=Cu (((s.heap.update a (Obj.mapSeq fun _=>(#[]:Array ζ))).push (seqObj "tuple" vs.toArray 0)).push (seqObj "list" #[] 0)) a (Obj.mapSeq fun _=>List.toArray vs);obtain⟨c2,hc2⟩:∃c2,((((s.heap.update a (Obj.mapSeq fun _=>(#[]:Array ζ))).push (seqObj "tuple" vs.toArray 0)).push (seqObj "list" #[] 0)).update a (Obj.mapSeq fun _=>List.toArray vs)).get? a=some (seqObj "list" (List.toArray vs) c2):=⟨_,V1 ho6 fun _=>List.toArray vs⟩;have fin:=h _ vs c2 (Dm h2') (fun b o hb e=>(s2.2 b hb).trans (keep b o hb e)) hc2
  first
   |exact fin
   |(rw[<-eo]at fin;exact fin)
   |(show P _ {s with heap:=Heap.update _ a (Obj.mapSeq fun _=>(vs.toArray.zip vs.toArray).map (·.2))};rw[eo];exact fin)
 ·have h2':2<=vs.length:=by rw[fu]at h2;omega
  rw[aq h2,aq h2];refine ao (hkind h2' _ keep _ ?_);refine ao (yC (kat_run (Q:=fun st' s'=>s'={s with heap:=((s.heap.update a (Obj.mapSeq fun _=>(#[]:Array ζ))).push (seqObj "tuple" vs.toArray 0)).push (seqObj "list" #[] 0)}/\∃p:Array Nat,p.size=vs.length/\arrOf st'=p.map (kas_item (vs.toArray.zip vs.toArray))/\failedOf st'=none/\Ord vs.length p/\So key p vs.length)
   (G:=fun p s'=>s'={s with heap:=((s.heap.update a (Obj.mapSeq fun _=>(#[]:Array ζ))).push (seqObj "tuple" vs.toArray 0)).push (seqObj "list" #[] 0)}/\Ord vs.length p/\So key p vs.length)
   rfl h2' h64 (fun p' st' s' a1 a2 a3 a4=>⟨a4.1,p',a1,a2,a3,a4.2.1,a4.2.2⟩) (sort (Oa h2' _ keep) (by omega) fun p' hp hs=>⟨rfl,hp,hs⟩)) ?_ fun _ _ e=>e)
  rintro⟨⟨⟩,st'⟩ s' ⟨rfl,p,hp,har,hf,hor,hso⟩;dsimp only;have hout:=kat_snds rfl har;have hsz:(List.toArray (p.toList.map fun i=>vs.getD i Value.none)).size=vs.length:=by rw[fu,aJ,sJ,hp]
  rw[hout];refine ao (seqEpoch_at ho6 rfl ?_);refine ao (wft ho6 rfl ?_ (dB _) (dO (Fv hsz) (by rw[eE];omega)));rw[hf];simp only[wfe,wci,VL];have s2:=Cu (((s.heap.update a (Obj.mapSeq fun _=>(#[]:Array ζ))).push (seqObj "tuple" vs.toArray 0)).push (seqObj "list" #[] 0)) a (Obj.mapSeq fun _=>List.toArray (p.toList.map fun i=>vs.getD i Value.none));obtain⟨c2,hc2⟩:∃c2,((((s.heap.update a (Obj.mapSeq fun _=>(#[]:Array ζ))).push (seqObj "tuple" vs.toArray 0)).push (seqObj "list" #[] 0)).update a (Obj.mapSeq fun _=>List.toArray (p.toList.map fun i=>vs.getD i Value.none))).get? a=some (seqObj "list" (List.toArray (p.toList.map fun i=>vs.getD i Value.none)) c2):=⟨_,V1 ho6 fun _=>_⟩;exact aK (h _ _ c2 ⟨p,hor,hso,rfl⟩ (fun b o hb e=>(s2.2 b hb).trans (keep b o hb e)) hc2)
theorem tE{l:Addr}{Q:L3}(hl:s.heap.IsList l vs.toArray)(h64:vs.length<64)(hkind:2<=vs.length->∀h',(∀b o,s.heap.get? b=some o->h'.get? b=some o)->∀(E:L3) (Q:SortKind->η->Prop),Q κ {s with heap:=h'}->wpAny (model prog w) A.in1.in1 (keyKind' vs.toArray) Q E {s with heap:=h'})(Oa:2<=vs.length->∀h',(∀b o,s.heap.get? b=some o->h'.get? b=some o)->jf O key vs.length (kas_ask prog w A.in1.in1 κ vs) {s with heap:=h'})(h:∀D h' out c,JM key vs out->s.heap.objs.size<=D->(∀b o,s.heap.get? b=some o->h'.get? b=some o)->h'.get? D=some (seqObj "list" (List.toArray out) c)->Q (.ref D) {s with heap:=h'}):
  wpAny (model prog w) A (call (.builtin "sorted") [.ref l]) Q E s:=by
 refine wcs kind_sorted plain_sorted entry_sorted (args_sorted1 _) ?_;unfold Builtin.«sorted»;refine ao (m:=checkCount "sorted" 1 1 _) (aK ?_);refine ao (collect_list hl ?_ (by rw[eE];omega));refine ao (V0 ?_ (by rw[eE];omega));have hsz:((s.heap.push (seqObj "list" #[] 0)).update s.heap.objs.size (Obj.mapSeq (· ++vs.toArray))).objs.size=s.heap.objs.size+1:=by
  rw[Heap.size_update,size_push']
 have hoL:(((s.heap.push (seqObj "list" #[] 0)).update s.heap.objs.size (Obj.mapSeq (· ++vs.toArray))).push (seqObj "list" vs.toArray 0)).get? (s.heap.objs.size+1)=some (seqObj "list" vs.toArray 0):=by
  rw[<-hsz];exact gZ _ rfl
 have keep:∀b o,s.heap.get? b=some o->(((s.heap.push (seqObj "list" #[] 0)).update s.heap.objs.size (Obj.mapSeq (· ++vs.toArray))).push (seqObj "list" vs.toArray 0)).get? b=some o:=fun b o q=>by
  have hlt:b<s.heap.objs.size:=cR q;rw[wdk _ _ _ (by rw[hsz];exact cQ (qH hlt)),Heap.get?_update_ne _ _ _ _ (cQ hlt),wdk _ _ _ (cQ hlt)];exact q
 have ne:∀b o,s.heap.get? b=some o->b≠s.heap.objs.size+1:=fun b o q=>cQ (qH (cR q));show wpAny _ _ _ _ _ {s with heap:=((s.heap.push (seqObj "list" #[] 0)).update s.heap.objs.size (Obj.mapSeq (· ++vs.toArray))).push (seqObj "list" vs.toArray 0)};rw[hsz];refine ao (uX (HW slot_list_sort ⟨_,hoL,rfl⟩ entry_list_sort ?body (args_list_sort _)))
 case body=>
  refine gY (key:=key) (κ:=κ) (s:={s with heap:=((s.heap.push (seqObj "list" #[] 0)).update s.heap.objs.size (Obj.mapSeq (· ++vs.toArray))).push (seqObj "list" vs.toArray 0)}) hoL h64
   (fun h2 h' k Q hq=>hkind h2 h' (fun b o q=>k b o (ne b o q) (keep b o q)) _ Q hq) (fun h2 h' k=>Oa h2 h' fun b o q=>k b o (ne b o q) (keep b o q)) fun h' out c ho k hc=> ?_
  exact⟨_,rfl,aK ⟨_,rfl,h _ h' out c ho (Ft _) (fun b o q=>k b o (ne b o q) (keep b o q)) hc⟩⟩
end
end qR
namespace HT
open PySem PyProof.Rows
theorem dU:∀(a b:List Int),lexLt a b=decide (a<b)
 |[],[]=>by simp[lexLt]
 |[],_::_=>by simp[lexLt]
 |_::_,[]=>by simp[lexLt]
 |x::xs,y::ys=>by
  rw[lexLt_cons,dU xs ys];by_cases e:x=y
  ·subst e;simp
  ·rw[aq e];by_cases l:x<y
   ·simp[l,yea]
   ·have:¬(x::xs<y::ys):=by rw[yea];simp[l,e]
    simp[l,this]
end HT
namespace qR
open PySem PySem.W PyProof.Rows PySem.Calls
noncomputable def lexOrd:KeyOrd where
 α:=List Int
 blt a b:=decide (a<b)
 irrefl a:=by simpa using List.lt_irrefl a
 trans a b c h1 h2:=by simp only[HX]at *;exact List.lt_trans h1 h2
 negTrans a b c h:=by
  simp only[HX]at *;by_cases hab:a<b
  ·exact .inl hab
  ·exact .inr (List.lt_of_le_of_lt (List.not_lt.mp hab) h)
 total a b h1 h2:=by simp only[wdc]at *;exact List.le_antisymm (List.not_lt.mp h2) (List.not_lt.mp h1)
def ux:KeyOrd where
 α:=Int
 blt a b:=decide (a<b)
 irrefl a:=by simp
 trans a b c h1 h2:=by simp only[HX]at *;omega
 negTrans a b c h:=by simp only[HX]at *;omega
 total a b h1 h2:=by simp only[wdc]at *;omega
section
variable{prog:ρ}{w:υ}{A:χ}{s:η}{Q:Bool->η->Prop}
theorem Nk{na nb:Nat}{xs ys:List ζ}{ns ms:List Int}(i:Nat)(hx:IntsAre xs ns)(hy:IntsAre ys ms)(hl:ns.length+nb=ms.length+na)(h:Q (HT.lexLt ns ms) s):KatLex prog w A true (decide (na<nb)) Q (xs.zip ys) i s:=by
 induction hx generalizing ys ms i with
 |nil=>
  rw[List.zip_nil_left];refine kat_nil ?_;cases hy with
  |nil=>
   rw[HT.lexLt_nil_nil]at h;rw[iY (by simp only[QM]at hl;omega)];exact h
  |cons c u hw=>
   rw[HT.lexLt_nil_cons]at h;rw[fD (by simp only[QM,uW]at hl;omega)];exact h
 |cons a t hv ih=>
  cases hy with
  |nil=>
   rw[List.zip_nil_right];refine kat_nil ?_;rw[HT.lexLt_cons_nil]at h;rw[iY (by simp only[QM,uW]at hl;omega)];exact h
  |cons c u hw=>
   rw[wem];rw[HT.lexLt_cons]at h;refine kat_cons (wpAny_eqBool_int ?_);refine kat_go (fun e=> ?_) fun e=> ?_
   ·have e':a=c:=by simpa using e
    rw[aB e']at h;exact kat_yes (ih (i+1) hw (by simp only[uW]at hl;omega) h)
   ·have e':a≠c:=by simpa using e
    rw[aq e']at h;refine kat_no ?_;cases i with
    |zero=>exact oneLt_int h
    |succ i=>exact kat_one _ _ (lt_int (show PySem.W.BoolBack Q (.bool (decide (a<c))) s from h))
end
theorem wQ{O:KeyOrd}{key:Nat->O.α}{α:Type}{vs out:List ζ}{its:List α}{d:α}{f:α->O.α}{R:α->ζ->Prop}(hR:Paired R its vs)(hk:∀i (hi:i<its.length),key i=f its[i])(h:JM key vs out):
  ∃its':List α,its'.Perm its/\Paired R its' out/\its'.Pairwise fun x y=>O.kle (f x) (f y):=by
 obtain⟨p,hp,hs,rfl⟩:=h;have hl:=hR.length;have get:∀{l₁:List α} {l₂:List ζ} {i:Nat},Paired R l₁ l₂->(h:i<l₁.length)->∃v,l₂[i]? =some v/\R l₁[i] v:=by
  intro l₁ l₂ i q
  induction q generalizing i with
  |nil=>intro h;simp at h
  |cons r t ih=>
   intro h;cases i with
   |zero=>exact⟨_,rfl,r⟩
   |succ i=>
    obtain⟨v,e,rv⟩:=ih (i:=i) (by simpa using h);exact⟨v,by simpa using e,by simpa using rv⟩
 have hlt:∀i∈p.toList,i<its.length:=fun i hi=>by
  have:=(yei.mp hp.perm).mem_iff.mp hi;rw[hl];simpa using this
 refine⟨p.toList.map fun i=>its.getD i d,?_,?_,?_⟩
 ·have q:=(yei.mp hp.perm).map (fun i=>its.getD i d);refine q.trans ?_;have e:(List.toArray (List.range vs.length)).toList.map (fun i=>its.getD i d)=its:=by
   rw[<-hl];apply Yo;intro i;simp only[dD];by_cases hi:i<its.length
   ·simp[hi]
   ·simp[hi]
  rw[e]
 ·have mk:∀l:List Nat,(∀i∈l,i<its.length)->Paired R (l.map fun i=>its.getD i d) (l.map fun i=>vs.getD i Value.none):=by
   intro l
   induction l with
   |nil=>intro _;exact .nil
   |cons i l ih=>
    intro hb;refine .cons ?_ (ih fun j hj=>hb j (dZ _ hj));have hi:=hb i dY;obtain⟨v,e,r⟩:=get hR hi;have e1:its.getD i d=its[i]:=by simp[hi]
    have e2:vs.getD i Value.none=v:=by rw[oK,e];rfl
    show R (its.getD i d) (vs.getD i Value.none);rw[e1,e2];exact r
  exact mk _ hlt
 ·rw[Ue];intro i j hi hj hij;simp only[aJ,sJ]at hi hj;simp only[List.getElem_map];have hsz:=hp.size;have q:=hs i j (by omega) (by omega);have e:∀k (hk':k<p.size),KN key p k=f (its.getD p.toList[k] d):=fun k hk'=>by
   have e1:p.getD k 0=p.toList[k]:=by simp[Array.getD,hk']
   have hb:=hlt p.toList[k] (Ko _);have e2:its.getD p.toList[k] d=its[p.toList[k]]:=by simp only[oK,gj hb,wds]
   unfold KN;rw[e1,e2];exact hk _ hb
  rw[e i hi,e j hj]at q;exact q
end qR
namespace L2
open PySem PySem.Spec PyProof.Rows
section
variable{X:Cx}
theorem uI:∀{bs:List Bool} {us:List ζ},Vals (bs.map V.bl) us->us=bs.map Value.bool
 |[],_,h=>by cases h;rfl
 |b::bs,_,h=>by
  cases h with
  |cons r t=>rw[Ca,uI t];exact iD (· ::_) r
theorem iB(hc:X.calm=true):CallR X (.builtin "all") (fun xs H Q=>∃(a:Addr) (bs:List Bool),xs=[.ref a]/\SqL X.K H a (bs.map V.bl)/\Q (.bl (bs.all id)) H):=by
 intro pins s σ H xs us Q I r h;obtain⟨a,bs,rfl,hS,q⟩:=h;obtain⟨u,rfl,ru⟩:=r.one;cases ru;obtain⟨vs,rv,pl,hz⟩:=I.list hS;have hv:=uI rv;have hl:=pl.isList;have hlt:a<s.heap.objs.size:=by obtain⟨_,e,_⟩:=hl;exact cR e
 refine call_all_walk (YK hl ?_);refine⟨s.heap.objs.size,[s.heap.objs.size,a],[s.heap.objs.size],vs.toArray.size,_,_,fun i=>(bs[i]?).getD true,rfl,Yw (A:=X.A.in1) (I.ok.hd hc) _ a (cQ hlt) vs.toArray,
  ⟨⟨_,gZ _ rfl,rfl,rfl⟩,hl.push _⟩,fun i v s' Q' E' hP hQ=> ?_,fun h' tk hk=> ?_⟩
 ·have hP':vs[i]? =some v:=by simpa using hP
  rw[hv,dD]at hP';cases e:bs[i]? with
  |none=>rw[e]at hP';cases hP'
  |some b=>
   rw[e]at hP';cases hP';simp only[e,wds]at hQ;exact JZ hQ
 ·have e:((List.range vs.toArray.size).all fun i=>(bs[i]?).getD true)=bs.all id:=by
   rw[fu,hv,aJ];exact LSm.range_all bs
  rw[e];exact⟨.bl _,H,I.kept (LSm.kept_iter hk),rfl,q⟩
theorem Bu(hc:X.calm=true):CallR X (.builtin "any") (fun xs H Q=>∃(a:Addr) (bs:List Bool),xs=[.ref a]/\SqL X.K H a (bs.map V.bl)/\Q (.bl (bs.any id)) H):=by
 intro pins s σ H xs us Q I r h;obtain⟨a,bs,rfl,hS,q⟩:=h;obtain⟨u,rfl,ru⟩:=r.one;cases ru;obtain⟨vs,rv,pl,hz⟩:=I.list hS;have hv:=uI rv;have hl:=pl.isList;have hlt:a<s.heap.objs.size:=by obtain⟨_,e,_⟩:=hl;exact cR e
 refine call_any_walk (YK hl ?_);refine⟨s.heap.objs.size,[s.heap.objs.size,a],[s.heap.objs.size],vs.toArray.size,_,_,fun i=>(bs[i]?).getD false,rfl,Yw (A:=X.A.in1) (I.ok.hd hc) _ a (cQ hlt) vs.toArray,
  ⟨⟨_,gZ _ rfl,rfl,rfl⟩,hl.push _⟩,fun i v s' Q' E' hP hQ=> ?_,fun h' tk hk=> ?_⟩
 ·have hP':vs[i]? =some v:=by simpa using hP
  rw[hv,dD]at hP';cases e:bs[i]? with
  |none=>rw[e]at hP';cases hP'
  |some b=>
   rw[e]at hP';cases hP';simp only[e,wds]at hQ;exact JZ hQ
 ·have e:((List.range vs.toArray.size).any fun i=>(bs[i]?).getD false)=bs.any id:=by
   rw[fu,hv,aJ];exact LSm.range_any bs
  rw[e];exact⟨.bl _,H,I.kept (LSm.kept_iter hk),rfl,q⟩
def Vu(K:W.Frag)(H:Hp):V->String->Prop
 | .non,T=>T="NoneType"
 | .bl _,T=>T="bool"
 | .int _,T=>T="int"
 | .str _,T=>T="str"
 | .ref a,T=>(T="tuple"/\∃xs,SqT K H a xs)\/(T="list"/\∃xs,SqL K H a xs)\/(T="dict"/\∃kvs,H a=some (.dK kvs))
 |_,_=>False
def DP(T C:String):Bool:=T==C||(T=="bool"&&C=="int")
theorem QC:CallR X (.builtin "isinstance") (fun xs H Q=>∃(x:V) (T C:String),xs=[x,.ty C]/\Vu X.K H x T/\(C="int"\/C="bool"\/C="tuple"\/C="list")/\Q (.bl (DP T C)) H):=by
 intro pins s σ H xs us Q I r h;obtain⟨x,T,C,rfl,hk,hC,q⟩:=h;obtain⟨u,v,rfl,ru,rv⟩:=r.two;cases rv;have OJ:∀b,b=DP T C->EP X pins σ Q (.bool b) s:=fun b e=>⟨.bl b,H,I,rfl,by rw[e];exact q⟩;have fX:∀b,b=DP T C->EP X pins σ Q (.bool b) {s with toks:=s.toks+1}:=fun b e=>⟨.bl b,H,I.tok _,rfl,by rw[e];exact q⟩;cases x with
 |non=>
  cases ru;cases hk;rcases hC with rfl|rfl|rfl|rfl
  ·exact IsiPair.NoneType_int (fX _ rfl)
  ·exact IsiPair.NoneType_bool (fX _ rfl)
  ·exact IsiPair.NoneType_tuple (fX _ rfl)
  ·exact IsiPair.NoneType_list (fX _ rfl)
 |bl b=>
  cases ru;cases hk;rcases hC with rfl|rfl|rfl|rfl
  ·exact IsiPair.bool_int (OJ _ rfl)
  ·exact IsiPair.bool_bool (OJ _ rfl)
  ·exact IsiPair.bool_tuple (fX _ rfl)
  ·exact IsiPair.bool_list (fX _ rfl)
 |int i=>
  obtain⟨t,rfl⟩:=ru;cases hk;rcases hC with rfl|rfl|rfl|rfl
  ·exact IsiPair.int_int (OJ _ rfl)
  ·exact IsiPair.int_bool (fX _ rfl)
  ·exact IsiPair.int_tuple (fX _ rfl)
  ·exact IsiPair.int_list (fX _ rfl)
 |str z=>
  obtain⟨t,rfl⟩:=ru;cases hk;rcases hC with rfl|rfl|rfl|rfl
  ·exact IsiPair.str_int (fX _ rfl)
  ·exact IsiPair.str_bool (fX _ rfl)
  ·exact IsiPair.str_tuple (fX _ rfl)
  ·exact IsiPair.str_list (fX _ rfl)
 |ref a=>
  cases ru;rcases hk with⟨rfl,xs,hS⟩|⟨rfl,xs,hS⟩|⟨rfl,kvs,hS⟩
  ·obtain⟨its,_,⟨o,e,c,n,d⟩,_⟩:=I.tuple hS;rcases hC with rfl|rfl|rfl|rfl
   ·exact IsiPair.tuple_int e c (fX _ rfl)
   ·exact IsiPair.tuple_bool e c (fX _ rfl)
   ·exact IsiPair.tuple_tuple e c (OJ _ rfl)
   ·exact IsiPair.tuple_list e c (fX _ rfl)
  ·obtain⟨its,_,⟨o,n,e,c,d,_⟩,_⟩:=I.list hS;rcases hC with rfl|rfl|rfl|rfl
   ·exact IsiPair.list_int e c (fX _ rfl)
   ·exact IsiPair.list_bool e c (fX _ rfl)
   ·exact IsiPair.list_tuple e c (fX _ rfl)
   ·exact IsiPair.list_list e c (OJ _ rfl)
  ·obtain⟨_,_,vs,_,o,es,ep,e,c,_⟩:=I.hok a _ hS;have c':o.cls= .type "dict":=c.1;rcases hC with rfl|rfl|rfl|rfl
   ·exact IsiPair.dict_int e c' (fX _ rfl)
   ·exact IsiPair.dict_bool e c' (fX _ rfl)
   ·exact IsiPair.dict_tuple e c' (fX _ rfl)
   ·exact IsiPair.dict_list e c' (fX _ rfl)
 |_=>exact hk.elim
end
mutual
inductive DV(K:W.Frag)(H:Hp):V->θ->Prop
 |non:DV K H .non .none
 |bl (b:Bool):DV K H (.bl b) (.bool b)
 |int (i:Int):DV K H (.int i) (.int i)
 |str (x:Str):DV K H (.str x) (.str x)
 |tup {a:Addr} {xs:List V} {ds:List θ} (h:SqT K H a xs) (t:cU K H xs ds):DV K H (.ref a) (.tuple ds)
 |lst {a:Addr} {xs:List V} {ds:List θ} (h:SqL K H a xs) (t:cU K H xs ds):DV K H (.ref a) (.list ds)
 |dc0 {a:Addr} (h:H a=some (.dK [])):DV K H (.ref a) (.dict [])
 |dc1 {a b:Addr} {i:Int} (h:H a=some (.dK [(Sum.inl i,.ref b)])) (t:SqT K H b []):DV K H (.ref a) (.dict [(.int i,.tuple [])])
inductive cU(K:W.Frag)(H:Hp):List V->List θ->Prop
 |nil:cU K H [] []
 |cons {x:V} {d:θ} {xs:List V} {ds:List θ} (h:DV K H x d) (t:cU K H xs ds):cU K H (x::xs) (d::ds)
end
theorem Same.tup{K:W.Frag}{H H':Hp}{a:Addr}{xs:List V}(e:Same H H')(h:SqT K H a xs):SqT K H' a xs:=by
 rcases h with(h|⟨o,h⟩)|h
 ·exact .inl (.inl (e _ _ h))
 ·exact .inl (.inr ⟨o,e _ _ h⟩)
 ·exact .inr h
theorem cU.same{K:W.Frag}{H H':Hp}(e:Same H H'){xs:List V}{ds:List θ}(h:cU K H xs ds):cU K H' xs ds:=
 cU.rec (motive_1:=fun x d _=>DV K H' x d) (motive_2:=fun xs ds _=>cU K H' xs ds) .non (fun b=> .bl b) (fun i=> .int i) (fun x=> .str x) (fun h _ t=> .tup (e.tup h) t) (fun h _ t=> .lst (e.seq h) t) (fun h=> .dc0 (e _ _ h)) (fun h t=> .dc1 (e _ _ h) (e.tup t)) .nil (fun _ _ h t=> .cons h t) h
theorem IK{P:ρ}{w:υ}{es:List DictEntry}(h:Pairs (mixKind P w) es []):es=[]:=by
 cases h;rfl
theorem Iz{P:ρ}{w:υ}{es:List DictEntry}{k:Key}{u:ζ}(h:Pairs (mixKind P w) es [(k,u)]):∃e,es=[e]/\keyIs k e.key=true/\e.val=u:=by
 cases h with
 |cons h1 h2 h3=>
  cases h3;exact⟨_,rfl,h1,h2⟩
section
variable{X:Cx}{pins:L1}{σ:St}{H:Hp}{s:η}
theorem JD(I:Inv X pins σ H s){a:Addr}(h:H a=some (.dK [])):Reads s.heap (.ref a) (.dict []) (a::[]++[])/\(a==sysModules)=false:=by
 obtain⟨_,hne,vs,r0,o,es,ep,e,c,d,_,pr,_⟩:=I.hok _ _ h;cases r0;have hes:es.toList=[]:=IK pr;refine⟨.dict (kvs:=[]) (as:=[]) (bs:=[]) e c.1 d ?_ ?_,hne⟩
 ·rw[hes];exact .nil
 ·rw[hes];exact .nil
theorem JC(I:Inv X pins σ H s){a b:Addr}{i:Int}(h:H a=some (.dK [(Sum.inl i,.ref b)]))(t:SqT X.K H b []):Reads s.heap (.ref a) (.dict [(.int i,.tuple [])]) (a::([]++[])++([]++[]))/\(a==sysModules)=false:=by
 obtain⟨_,hne,vs,r0,o,es,ep,e,c,d,_,pr,_⟩:=I.hok _ _ h;obtain⟨its,rv,⟨o2,e2,c2,n2,d2⟩,_⟩:=I.tuple t;cases rv;cases r0 with
 | @cons p q ps qs hq tl=>
  cases tl;obtain⟨en,he,hk,hv⟩:=Iz pr;obtain⟨k,u⟩:=q;dsimp only at hq;obtain⟨hk1,hu1⟩:=hq;subst hk1;cases hu1;obtain⟨tk,ek⟩:∃tk,en.key=Value.int i tk:=by
   rcases Qo hk with⟨i',t',e3,e4⟩|⟨x,t',e3,e4⟩
   ·cases e3;exact⟨t',e4⟩
   ·cases e3
  refine⟨.dict (kvs:=[(.int i,.tuple [])]) (as:=[]++[]) (bs:=[]++[]) e c.1 d ?_ ?_,hne⟩
  ·rw[he];show ReadsAll s.heap [en.key] [PyData.int i] _;rw[ek];exact .cons (.int i tk) .nil
  ·rw[he];show ReadsAll s.heap [en.val] [PyData.tuple []] _;rw[hv];exact .cons (.tuple e2 c2 d2 .nil) .nil
theorem Io(I:Inv X pins σ H s){a:Addr}{xs:List V}{ds:List θ}(h:SqT X.K H a xs)(t:∀{us:List ζ},Vals xs us->∃as,ReadsAll s.heap us ds as){u:ζ}(r:RelV (.ref a) u):∃as,Reads s.heap u (.tuple ds) as:=by
 cases r;obtain⟨its,rv,⟨o,e,c,n,d⟩,_⟩:=I.tuple h;obtain⟨as,ra⟩:=t rv;exact⟨_,.tuple e c d (by simpa using ra)⟩
theorem Ip(I:Inv X pins σ H s){a:Addr}{xs:List V}{ds:List θ}(h:SqL X.K H a xs)(t:∀{us:List ζ},Vals xs us->∃as,ReadsAll s.heap us ds as){u:ζ}(r:RelV (.ref a) u):∃as,Reads s.heap u (.list ds) as:=by
 cases r;obtain⟨its,rv,⟨o,n,e,c,_,d⟩,_⟩:=I.list h;obtain⟨as,ra⟩:=t rv;exact⟨_,.list e c d (by simpa using ra)⟩
theorem DV.reads(I:Inv X pins σ H s){x:V}{d:θ}{u:ζ}(h:DV X.K H x d)(r:RelV x u):∃as,Reads s.heap u d as:=
 DV.rec (motive_1:=fun x d _=>∀{u:ζ},RelV x u->∃as,Reads s.heap u d as) (motive_2:=fun xs ds _=>∀{us:List ζ},Vals xs us->∃as,ReadsAll s.heap us ds as)
  (fun r=>by cases r;exact⟨_,.none⟩) (fun b _ r=>by cases r;exact⟨_,.bool b⟩) (fun i _ r=>by obtain⟨t,rfl⟩:=r;exact⟨_,.int i t⟩) (fun x _ r=>by obtain⟨t,rfl⟩:=r;exact⟨_,.str x t⟩)
  (fun h _ t _ r=>Io I h t r) (fun h _ t _ r=>Ip I h t r) (fun h _ r=>by cases r;exact⟨_,(JD I h).1⟩) (fun h t _ r=>by cases r;exact⟨_,(JC I h t).1⟩)
  (fun r=>by cases r;exact⟨_,.nil⟩) (fun _ _ h t _ r=>by
   cases r with
   |cons r rr=>
    obtain⟨as,ra⟩:=h r;obtain⟨bs,rb⟩:=t rr;exact⟨_,.cons ra rb⟩) h r
theorem cU.reads(I:Inv X pins σ H s){xs:List V}{ds:List θ}{us:List ζ}(h:cU X.K H xs ds)(r:Vals xs us):∃as,ReadsAll s.heap us ds as:=
 cU.rec (motive_1:=fun _ _ _=>True) (motive_2:=fun xs ds _=>∀{us:List ζ},Vals xs us->∃as,ReadsAll s.heap us ds as) trivial (fun _=>trivial) (fun _=>trivial) (fun _=>trivial) (fun _ _ _=>trivial) (fun _ _ _=>trivial) (fun _=>trivial) (fun _ _=>trivial)
  (fun r=>by cases r;exact⟨_,.nil⟩) (fun h _ _ t _ r=>by
   cases r with
   |cons r rr=>
    obtain⟨as,ra⟩:=DV.reads I h r;obtain⟨bs,rb⟩:=t rr;exact⟨_,.cons ra rb⟩) h r
end
mutual
def noL:θ->Bool
 | .list _=>false
 | .tuple ds=>aaC ds
 |_=>true
def aaC:List θ->Bool
 |[]=>true
 |d::ds=>noL d&&aaC ds
end
theorem cU.ints{K:W.Frag}{H:Hp}:∀(ns:List Int),cU K H (ns.map V.int) (ns.map PyData.int)
 |[]=> .nil
 |n::ns=> .cons (.int n) (cU.ints ns)
theorem cU.len{K:W.Frag}{H:Hp}{xs:List V}{ds:List θ}(h:cU K H xs ds):xs.length=ds.length:=
 cU.rec (motive_1:=fun _ _ _=>True) (motive_2:=fun xs ds _=>xs.length=ds.length) trivial (fun _=>trivial) (fun _=>trivial) (fun _=>trivial) (fun _ _ _=>trivial) (fun _ _ _=>trivial) (fun _=>trivial) (fun _ _=>trivial) rfl (fun _ _ _ t=>iD Nat.succ t) h
section
variable{X:Cx}
theorem Wx(hu:X.A.units+64<cLine):OpR X (compareOp .Eq) (fun x y H Q=>∃da db,DV X.K H x da/\DV X.K H y db/\da.canLay0=true/\db.canLay0=true/\min da.depth db.depth<=64/\Q (.bl (PyData.eqv da db)) H):=by
 intro pins s σ H x y v u Q I rx ry h;obtain⟨da,db,hx,hy,ca,cb,hd,q⟩:=h;obtain⟨as,ra⟩:=DV.reads I hx rx;obtain⟨bs,rb⟩:=DV.reads I hy ry;exact SeqAt.rcAt_reads ra rb ca cb (by omega) _ _ _ _ ⟨.bl _,H,I,rfl,q⟩
theorem wR(hu:X.A.units+64<cLine):OpR X (compareOp .NotEq) (fun x y H Q=>∃da db,DV X.K H x da/\DV X.K H y db/\da.canLay0=true/\db.canLay0=true/\min da.depth db.depth<=64/\Q (.bl (!PyData.eqv da db)) H):=by
 intro pins s σ H x y v u Q I rx ry h;obtain⟨da,db,hx,hy,ca,cb,hd,q⟩:=h;obtain⟨as,ra⟩:=DV.reads I hx rx;obtain⟨bs,rb⟩:=DV.reads I hy ry;exact SeqAt.rcNeAt_reads ra rb ca cb (by omega) _ _ _ _ ⟨.bl _,H,I,rfl,q⟩
theorem Eu:∀{ds:List θ},PyData.canLayAll0 ds=true->∀d∈ds,d.canLay0=true
 |[],_,d,h=>nomatch h
 |e::ds,h,d,hd=>by
  have h':(e.canLay0&&PyData.canLayAll0 ds)=true:=h;rw[yL]at h';rcases cF.mp hd with rfl|hd
  ·exact h'.1
  ·exact Eu h'.2 d hd
open Classical in
theorem Mj(hu:X.A.units+64<cLine):OpR X (compareOp .In) (fun x y H Q=>∃(p:Addr) (xs:List V) (ds:List θ) (dx:θ),y= .ref p/\(SqL X.K H p xs\/SqT X.K H p xs)/\cU X.K H xs ds/\DV X.K H x dx/\PyData.canLayAll0 ds=true/\dx.canLay0=true/\dx.depth<=60/\
  Q (.bl (ds.any fun d=>PyData.eqv d dx)) H):=by
 intro pins s σ H x y v u Q I rx ry h;obtain⟨p,xs,ds,dx,rfl,hq,hds,hx,ca,cb,hd,q⟩:=h;cases ry;obtain⟨bs,rb⟩:=DV.reads I hx rx;have key:∀{its:List ζ},Vals xs its->(∀y∈its,SeqAt.EqAt X.A.in1 s y v (decide (∃d as,Reads s.heap y d as/\d∈ds/\PyData.eqv d dx=true)))/\(its.any fun y=>decide (∃d as,Reads s.heap y d as/\d∈ds/\PyData.eqv d dx=true))=ds.any fun d=>PyData.eqv d dx:=by
  intro its rv;obtain⟨as,ra⟩:=cU.reads I hds rv;have each:∀{us:List ζ} {es:List θ} {as:List Addr},ReadsAll s.heap us es as->(∀e∈es,e∈ds)->(∀y∈us,SeqAt.EqAt X.A.in1 s y v (decide (∃d as,Reads s.heap y d as/\d∈ds/\PyData.eqv d dx=true)))/\(us.any fun y=>decide (∃d as,Reads s.heap y d as/\d∈ds/\PyData.eqv d dx=true))=es.any fun d=>PyData.eqv d dx:=by
   intro us
   induction us with
   |nil=>intro es as h _;cases h;exact⟨(fun y hy=>(nomatch hy)),rfl⟩
   |cons y us ih=>
    intro es as h hs;cases h with
    | @cons _ _ d ds' as' bs' r rr=>
     obtain⟨i1,i2⟩:=ih rr fun e he=>hs e (dZ _ he);have cl:=Eu ca d (hs d dY);have e:decide (∃d as,Reads s.heap y d as/\d∈ds/\PyData.eqv d dx=true)=PyData.eqv d dx:=by
      rw[wA,HX];constructor
      ·rintro⟨d',as'',r',_,q'⟩;obtain⟨rfl,_⟩:=(PySem.Reads.unique r _ _ r');exact q'
      ·intro q';exact⟨d,_,r,hs d dY,q'⟩
     refine⟨fun z hz=> ?_,?_⟩
     ·rcases cF.mp hz with rfl|hz
      ·rw[e];exact SeqAt.eqAt_reads d dx _ s _ _ _ _ r rb cl cb (by show X.A.units+1+min d.depth dx.depth<cLine;omega)
      ·exact i1 z hz
     ·rw[T8,T8,i2,e]
  exact each ra fun e he=>he
 rcases hq with hq|hq
 ·obtain⟨its,r,pl,hz⟩:=I.list hq;obtain⟨k1,k2⟩:=key r;refine SeqAt.in_listAt _ pl.isList (fun w hw=>k1 w (by simpa using hw)) ⟨.bl _,H,I,rfl,?_⟩;rw[show∀f:ζ->Bool,its.toArray.any f=its.any f from fun f=>by simp,k2];exact q
 ·obtain⟨its,r,pl,hz⟩:=I.tuple hq;obtain⟨k1,k2⟩:=key r;refine SeqAt.in_tupleAt _ pl (fun w hw=>k1 w (by simpa using hw)) ⟨.bl _,H,I,rfl,?_⟩;rw[show∀f:ζ->Bool,its.toArray.any f=its.any f from fun f=>by simp,k2];exact q
end
end L2
namespace HT
open PySem PyProof.Rows
section
variable{prog:ρ}{w:υ}{A:χ}{E:L3}{s:η}
theorem kW{t sl:Addr}{items:Array ζ}{vl vu:ζ}{lo hi:Option Int}{Q:L3}(ht:IsTup s.heap t items)(hs:s.heap.IsSliceOf sl vl vu .none)(pl:IsPart vl lo)(pu:IsPart vu hi)(hw:sIx items.size 0 lo=0/\sIx items.size items.size hi=items.size)(h:Q (.ref t) s):wpAny (model prog w) A (getItem (.ref t) (.ref sl)) Q E s:=by
 obtain⟨os,hos,hcs,hds⟩:=id hs;have hTs:s.TypeIs (.ref sl) "slice":=⟨os,hos,hcs⟩;unfold getItem
 try with_reducible refine uX ?_
 first |refine ao (aK ?_)|skip
 refine ao (wfb ht.typeIs (by decide) ?_);refine ao (V6 (name:=Str.ofString "__getitem__") ht.typeIs YT
  (HW YT ht.typeIs wec ?_ (weo _ _)))
 show wpAny _ _ (Builtin.Tuple.tupleItemsOf (.ref t)>>=_) _ _ s;refine ao (tupleItemsOf_ ht ?_);refine ao (Um hTs ?_);rw[aB (by decide)];refine ao (sliceApplied_gen hs pl pu ?_);have hyes:((((sIx items.size 0 lo:Nat):Int)==0&&(1:Int)==1&&(sIx items.size items.size hi-sIx items.size 0 lo)==items.size)=true):=by
  rw[hw.1,hw.2];simp
 show wpAny _ _ (if(((sIx items.size 0 lo:Nat):Int)==0&&(1:Int)==1&&(sIx items.size items.size hi-sIx items.size 0 lo)==items.size)=true then _ else _) _ _ s;rw[aB hyes];obtain⟨o,ho,hc,n,hd⟩:=id ht;refine ao ?_;show wpAny _ _ (Builtin.Tuple.tupleIsExact (.ref t)) _ _ s;unfold Builtin.Tuple.tupleIsExact;refine ao (Um ht.typeIs ?_);refine aK ?_;rw[aB (by decide)]
 first
  |exact ao (Uk (ao (aK ⟨_,rfl,aK h⟩)))
  |exact ao (Uk (aK ⟨_,rfl,aK h⟩))
  |exact ao (Uk (ao (aK (aK ⟨_,rfl,aK h⟩))))
  |(trace_state;exact ao (ao (Uk (aK ⟨_,rfl,aK h⟩))))
end
end HT
namespace L2
open PySem PySem.Spec PyProof.Rows
section
variable{X:Cx}
theorem eU:OpR X (binaryOp .FloorDiv) (rI (fun _ j=>0<j/\j<1000000000000000000000000000000) fun i j=> .int (i/j)):=opI fun i j _ _ _ _ _ hc q=>by
 have h1:(0:Int)<j:=hc.1;have h2:j<1000000000000000000000000000000:=hc.2;refine floordiv_int (by omega) ?_ (Or.inl (wfg ?_))
 ·rw[yeh _ (by omega)];exact q
 ·have h3:j.natAbs≠0:=by omega
  have h4:j.natAbs<2^100:=by
   have:(2:Nat)^100=1267650600228229401496703205376:=by decide
   omega
  have:=(Nat.log2_lt h3).mpr h4;omega
def Va(K:W.Frag):R2:=fun x y H Q=>∃a b xs ys,x= .ref a/\y= .ref b/\SqT K H a xs/\SqT K H b ys/\xs.length+ys.length<=sizeLine/\∀r H',Same H H'->SqT K H' r (xs++ys)->Q (.ref r) H'
theorem wU:OpR X (binaryOp .Add) (Va X.K):=by
 intro pins s σ H x y v u Q I rx ry h;obtain⟨a,b,xs,ys,rfl,rfl,ha,hb,hz,q⟩:=h;by_cases hx:xs=[]
 ·subst hx;cases rx;cases ry;obtain⟨its,r1,p1,_⟩:=I.tuple ha;obtain⟨its2,r2,p2,_⟩:=I.tuple hb;cases r1;obtain⟨⟨cls,dd,data,sl⟩,ho,hc,n,hd⟩:=id p1;obtain⟨⟨cls2,dd2,data2,sl2⟩,ho2,hc2,n2,hd2⟩:=id p2;simp only at hc hd hc2 hd2;subst hc hd hc2 hd2;exact wgk ⟨_,ho,rfl⟩ ⟨_,ho2,rfl⟩ wdp wfs wch wcc (wbv _ _)
   (tuple_addW0 a b _ _ n n2 dd dd2 sl sl2 (by simp)) ⟨ho,ho2,⟨.ref b,H,I,rfl,q b H (Same.refl _) hb⟩⟩
 ·refine op_catT pins s σ H _ _ v u Q I rx ry ⟨a,b,xs,ys,rfl,rfl,ha,hb,hx,hz,fun e=> ?_,fun e p hp=> ?_⟩
  ·subst e;exact q a H (Same.refl _) (by rw[u9];exact ha)
  ·exact q p _ (fun c o e=>by rw[bU (jh e hp)];exact e) (SqT.of aH)
noncomputable def aar(K:W.Frag):V->Option Int->Option Int->Hp->VK->Prop:=fun x lo hi H Q=>∃a xs,x= .ref a/\SqT K H a xs/\∀r H',Same H H'->SqT K H' r (cutV xs lo hi)->Q (.ref r) H'
theorem m8:SlR X (aar X.K):=by
 intro pins s σ H x v vl vu lo hi sl Q I rx hs pl pu h;obtain⟨a,xs,rfl,hx,q⟩:=h;by_cases hw:HT.sIx xs.length 0 lo=0/\HT.sIx xs.length xs.length hi=xs.length
 ·cases rx;obtain⟨its,r,ht,hz⟩:=I.tuple hx;have hlen:its.toArray.size=xs.length:=by rw[fu];exact r.length.symm
  refine⟨"tuple",_,PyProof.Rows.slot_tuple_getitem.lookup,ht.typeIs,?_⟩;refine HT.kW ht hs pl pu (by rw[hlen];exact hw) ⟨.ref a,H,I,rfl,q a H (Same.refl _) ?_⟩;have e:cutV xs lo hi=xs:=by
   unfold cutV;rw[hw.1,hw.2];simp
  rw[e];exact hx
 ·exact sl_tup pins s σ H _ v vl vu lo hi sl Q I rx hs pl pu ⟨a,xs,rfl,hx,hw,fun p hp=>q p _ (fun c o e=>by rw[bU (jh e hp)];exact e) (SqT.of aH)⟩
end
end L2
namespace HT
open PySem PySem.Calls PySem.Spec PyProof.Rows PySem.W
section
variable{prog:ρ}{w:υ}{A:χ}{E:L3}{s:η}
theorem Dk(n:Nat):Builtin.Slice.slicePlaces ((n:Int)-1) (-1) (-1)=n:=by
 unfold Builtin.Slice.slicePlaces;rw[aq (by decide)];by_cases h:(n:Int)-1> -1
 ·rw[aB h];have e:((n:Int)-1- -1-1)/(- -1)+1=(n:Int):=by
   rw[show(- -1:Int)=1 by decide,whm];omega
  first |(rw[e];rfl)|(rw[e,Fx])|omega
 ·rw[aq h];have:n=0:=by omega
  subst this;rfl
theorem oU{sl:Addr}{vl vu vk:ζ}{n:Nat}{Q:Int×Int×Nat->η->Prop}(hs:s.heap.IsSliceOf sl vl vu vk)(pl:IsPart vl none)(pu:IsPart vu none)(pk:IsPart vk (some (-1)))(h:Q ((n:Int)-1, -1,n) s):wpAny (model prog w) A (Builtin.Slice.sliceApplied (.ref sl) (pure (n:Int))) Q E s:=by
 obtain⟨os,hos,hcs,hds⟩:=id hs;unfold Builtin.Slice.sliceApplied Builtin.Slice.sliceFields;refine ao (ao (Yx hos hds (x:=vl) rfl (ao (Yx hos hds (x:=vu) rfl (ao (Yx hos hds (x:=vk) rfl (aK ?_)))))));refine ao (slicePart_ pk ?_);show wpAny _ _ (if((-1:Int)==0)=true then _ else _) _ _ s;rw[aq (by decide)];refine ao (slicePart_ pl (ao (slicePart_ pu (ao (aK ?_)))));show wpAny _ _ (pure ((n:Int)-1,(-1:Int),Builtin.Slice.slicePlaces ((n:Int)-1) (-1) (-1))) _ _ s;rw[Dk];exact aK h
theorem vN(n:Nat):(List.range n).map (fun k=>n-1-k)=(List.range n).reverse:=by
 apply List.ext_getElem
 ·simp
 ·intro i h1 h2;rw[List.getElem_map,List.getElem_reverse];simp
theorem all_range{α:Type}(xs:Array α):(List.range xs.size).filterMap (fun k=>xs[k]?)=xs.toList:=by
 have h:=pick_run xs 0 xs.size;have e:(List.range xs.size).map (0+ ·)=List.range xs.size:=by
  rw[show((0+ ·):Nat->Nat)=id from funext fun k=>who k,List.map_id]
 rw[e,wha,Cd (by rw[sJ];exact aN _)]at h;exact h
theorem Bh{α β:Type}{f g:α->Option β}:∀{l:List α},(∀x∈l,f x=g x)->l.filterMap f=l.filterMap g
 |[],_=>rfl
 |x::l,h=>by
  rw[Ud,Ud,h x (.head _),Bh fun y hy=>h y (.tail _ hy)]
theorem Mh(xs:Array ζ):((List.range xs.size).filterMap fun(k:Nat)=>xs[(((xs.size:Int)-1)+(k:Int)*(-1)).toNat]?).toArray=xs.toList.reverse.toArray:=by
 have e:(List.range xs.size).filterMap (fun(k:Nat)=>xs[(((xs.size:Int)-1)+(k:Int)*(-1)).toNat]?)=((List.range xs.size).map fun k=>xs.size-1-k).filterMap (fun k=>xs[k]?):=by
  rw[wen];apply Bh;intro k hk;have:=rH.mp hk;have e:(((xs.size:Int)-1)+(k:Int)*(-1)).toNat=xs.size-1-k:=by omega
  show xs[(((xs.size:Int)-1)+(k:Int)*(-1)).toNat]? =xs[xs.size-1-k]?;rw[e]
 rw[e,vN,wgg,all_range]
theorem nQ{t sl:Addr}{items:Array ζ}{vl vu vk:ζ}{Q:L3}(ht:IsTup s.heap t items)(hs:s.heap.IsSliceOf sl vl vu vk)(pl:IsPart vl none)(pu:IsPart vu none)(pk:IsPart vk (some (-1)))(h:Q (.ref s.heap.objs.size) {s with heap:=s.heap.push {cls:= .type "tuple",data:= .seq items.toList.reverse.toArray}})(hsz:items.size<=sizeLine):wpAny (model prog w) A (getItem (.ref t) (.ref sl)) Q E s:=by
 have htake:sizeOk (.seq items.toList.reverse.toArray):=by
  show items.toList.reverse.toArray.size<=sizeLine;rw[fu,ZM,sJ];exact hsz
 obtain⟨os,hos,hcs,hds⟩:=id hs;have hTs:s.TypeIs (.ref sl) "slice":=⟨os,hos,hcs⟩;unfold getItem
 try with_reducible refine uX ?_
 first |refine ao (aK ?_)|skip
 refine ao (wfb ht.typeIs (by decide) ?_);refine ao (V6 (name:=Str.ofString "__getitem__") ht.typeIs YT
  (HW YT ht.typeIs wec ?_ (weo _ _)))
 show wpAny _ _ (Builtin.Tuple.tupleItemsOf (.ref t)>>=_) _ _ s;refine ao (tupleItemsOf_ ht ?_);refine ao (Um hTs ?_);rw[aB (by decide)];refine ao (oU hs pl pu pk ?_);have hno:¬((((items.size:Int)-1)==0&&(-1:Int)==1&&items.size==items.size)=true):=by
  intro q;rw[yL,yL]at q;exact absurd q.1.2 (by decide)
 show wpAny _ _ (if(((items.size:Int)-1)==0&&(-1:Int)==1&&items.size==items.size)=true then _ else _) _ _ s;rw[aq hno,Mh]
 first
  |exact ao (m:=Builtin.Tuple.tupleExact _) (wB (aK ⟨_,rfl,aK h⟩) htake)
  |exact ao (m:=Builtin.Tuple.tupleExact _) (wB (ao (aK (aK ⟨_,rfl,aK h⟩))) htake)
  |exact ao (ao (m:=Builtin.Tuple.tupleExact _) (wB (aK (aK ⟨_,rfl,aK h⟩)) htake))
  |exact ao (ao (m:=Builtin.Tuple.tupleExact _) (wB (aK ⟨_,rfl,aK h⟩) htake))
end
end HT
namespace L2
open PySem PySem.Spec PyProof.Rows
section
variable{X:Cx}{e m:Expr}{te:TE}{tm:TO}{pos p2:Pos}
theorem vG:∀{xs:List V} {us:List ζ} {x:V} {u:ζ},Vals xs us->RelV x u->Vals (xs++[x]) (us++[u])
 |_,_,_,_,.nil,h=> .cons h .nil
 |_,_,_,_,.cons a b,h=> .cons a (vG b h)
theorem sU:∀{xs:List V} {us:List ζ},Vals xs us->Vals xs.reverse us.reverse
 |_,_,.nil=> .nil
 |_,_,.cons a b=>by rw[List.reverse_cons,List.reverse_cons];exact vG (sU b) a
def Ut(K:W.Frag)(te:TE)(tm:TO):TE:=fun σ H Q=>te σ H fun x H1=>tm σ H1 fun o H2=>o=some (-1)/\∃a xs,x= .ref a/\SqT K H2 a xs/\∀p,H2 p=none->Q (.ref p) (upd H2 p (.tup xs.reverse))
theorem Wu(he:PE X e te)(hm:PO X (some m) tm):PE X (.Subscript e (.Slice none none (some m) p2) pos) (Ut X.K te tm):=by
 intro pins s σ H Q I h;refine Z1 (thn (he pins s σ H _ I h) fun v s1 ⟨x,H1,I1,r1,q1⟩=> ?_);refine wpAny_Slice (thn (vC pins s1 σ H1 (fun o H=>o=none/\H=H1) I1 ⟨rfl,rfl⟩) fun vl s2 ⟨l,H2,I2,pl,⟨el,eh⟩⟩=>thn (vC pins s2 σ H2 (fun o H=>o=none/\H=H2) I2 ⟨rfl,rfl⟩) fun vu s3 ⟨u,H3,I3,pu,⟨eu,eh2⟩⟩=> ?_);subst el eh eu eh2;refine thn (hm pins s3 σ _ _ I3 q1) fun vk s4 ⟨k,H4,I4,pk,ek,a,xs,ex,hx,q⟩=> ?_;subst ek ex;cases r1;have I5:Inv X pins σ H4 {s4 with heap:=s4.heap.push {cls:= .type "slice",data:= .fields #[vl,vu,vk]}}:=I4.kept (t':=s4.toks) fun b ob q=>cV _ q;obtain⟨its,r,ht,hz⟩:=I5.tuple hx;have hlen:its.toArray.size=xs.length:=by rw[fu];exact r.length.symm
 show wpAny (model X.prog X.w) X.A (subscriptTail e (.Slice none none (some m) p2) (.ref a) (.ref s4.heap.objs.size)) (EP X pins σ Q) X.xe {s4 with heap:=s4.heap.push {cls:= .type "slice",data:= .fields #[vl,vu,vk]}};refine tail_any (ops:=[.ref a,.ref s4.heap.objs.size]) ht.typeIs PyProof.Rows.slot_tuple_getitem.lookup (HT.nQ ht (wep ..) pl pu pk ?_ (by rw[hlen];exact hz)) (by with_unfolding_all rfl);refine⟨.ref _,_,I5.laid (t':=s4.toks) (o:= .tup xs.reverse) (fun b ob q=>cV _ q) (aN _) ?_,rfl,q _ (I5.hok.fresh (aN _))⟩;refine⟨by rw[ZM];exact hz,_,?_,VN _ _⟩;simpa using sU r
end
section
variable{X:Cx}{tg:Expr}
def Xg(K:W.Frag)(tl:TE):TI:=fun σ H R=>tl σ H fun x H1=>∃a xs,x= .ref a/\SqL K H1 a xs/\(xs.length<=sizeLine->R (Itl K a) H1)
def Vj(K:W.Frag)(tl:TE):TI:=fun σ H R=>tl σ H fun x H1=>∃a xs,x= .ref a/\SqT K H1 a xs/\(xs.length<=sizeLine->R (Itt K a) H1)
theorem rG{l:Expr}{tl:TE}(hl:PE X l tl):PI X tg l (Xg X.K tl):=by
 intro pins s σ H R I h;refine thn (hl pins s σ H _ I h) fun v s1 ⟨x,H1,I1,r1,q1⟩=> ?_;obtain⟨a,xs,e,hq,q⟩:=q1;subst e;cases r1;obtain⟨its,rv,p,hz⟩:=I1.list hq;refine YK p.isList ?_;refine⟨s1.heap.objs.size,[s1.heap.objs.size],_,_,H1,rfl,I1.kept (t':=s1.toks) fun b o e=>cV _ e,turn_list a _,⟨_,gZ _ rfl,rfl,rfl⟩,fun b hb=> ?_,q hz⟩;have e:b=s1.heap.objs.size:=by simpa using hb
 subst e;exact I1.fpOk (aN _) (I1.hok.fresh (aN _))
theorem Hx{l:Expr}{tl:TE}(hl:PE X l tl):PI X tg l (Vj X.K tl):=by
 intro pins s σ H R I h;refine thn (hl pins s σ H _ I h) fun v s1 ⟨x,H1,I1,r1,q1⟩=> ?_;obtain⟨a,xs,e,hq,q⟩:=q1;subst e;cases r1;obtain⟨its,rv,p,hz⟩:=I1.tuple hq;refine wpAny_pyIter_tuple (show s1.heap.IsTuple a its.toArray from p) ?_;refine⟨s1.heap.objs.size,[s1.heap.objs.size],_,_,H1,rfl,I1.kept (t':=s1.toks) fun b o e=>cV _ e,turn_tuple a _,⟨_,gZ _ rfl,rfl,rfl⟩,fun b hb=> ?_,q hz⟩;have e:b=s1.heap.objs.size:=by simpa using hb
 subst e;exact I1.fpOk (aN _) (I1.hok.fresh (aN _))
theorem yI:CallR X (.builtin "len") (fun xs H Q=>∃p ys,xs=[.ref p]/\(SqL X.K H p ys\/SqT X.K H p ys)/\(ys.length<=16777216->Q (.int ys.length) H)):=by
 intro pins s σ H xs us Q I r h;obtain⟨p,ys,rfl,hq,q⟩:=h;have hz:ys.length<=16777216:=by
  rw[<-eE];rcases hq with hq|hq
  ·exact(I.list hq).choose_spec.2.2
  ·exact(I.tuple hq).choose_spec.2.2
 exact call_len_seq pins s σ H _ us Q I r ⟨p,ys,rfl,hq,q hz⟩
end
mutual
inductive DX(K:W.Frag)(H:Hp):V->θ->Prop
 |non:DX K H .non .none
 |bl (b:Bool):DX K H (.bl b) (.bool b)
 |int (i:Int):DX K H (.int i) (.int i)
 |str (x:Str):DX K H (.str x) (.str x)
 |tup {a:Addr} {xs:List V} {ds:List θ} (h:SqT K H a xs) (t:uZ K H xs ds):DX K H (.ref a) (.tuple ds)
 |lst {a:Addr} {xs:List V} {ds:List θ} (h:SqL K H a xs) (t:uZ K H xs ds):DX K H (.ref a) (.list ds)
 |dct {a:Addr} {kvs:List (Key×V)} (ds:List (θ×θ)) (h:H a=some (.dK kvs)):DX K H (.ref a) (.dict ds)
inductive uZ(K:W.Frag)(H:Hp):List V->List θ->Prop
 |nil:uZ K H [] []
 |cons {x:V} {d:θ} {xs:List V} {ds:List θ} (h:DX K H x d) (t:uZ K H xs ds):uZ K H (x::xs) (d::ds)
end
theorem DX.same{K:W.Frag}{H H':Hp}(e:Same H H'){x:V}{d:θ}(h:DX K H x d):DX K H' x d:=
 DX.rec (motive_1:=fun x d _=>DX K H' x d) (motive_2:=fun xs ds _=>uZ K H' xs ds) .non (fun b=> .bl b) (fun i=> .int i) (fun x=> .str x) (fun h _ t=> .tup (e.tup h) t) (fun h _ t=> .lst (e.seq h) t) (fun ds h=> .dct ds (e _ _ h)) .nil (fun _ _ h t=> .cons h t) h
theorem uZ.same{K:W.Frag}{H H':Hp}(e:Same H H'){xs:List V}{ds:List θ}(h:uZ K H xs ds):uZ K H' xs ds:=
 uZ.rec (motive_1:=fun x d _=>DX K H' x d) (motive_2:=fun xs ds _=>uZ K H' xs ds) .non (fun b=> .bl b) (fun i=> .int i) (fun x=> .str x) (fun h _ t=> .tup (e.tup h) t) (fun h _ t=> .lst (e.seq h) t) (fun ds h=> .dct ds (e _ _ h)) .nil (fun _ _ h t=> .cons h t) h
theorem DV.dx{K:W.Frag}{H:Hp}{x:V}{d:θ}(h:DV K H x d):DX K H x d:=
 DV.rec (motive_1:=fun x d _=>DX K H x d) (motive_2:=fun xs ds _=>uZ K H xs ds) .non (fun b=> .bl b) (fun i=> .int i) (fun x=> .str x) (fun h _ t=> .tup h t) (fun h _ t=> .lst h t) (fun h=> .dct [] h) (fun h _=> .dct _ h) .nil (fun _ _ h t=> .cons h t) h
def Ab:θ->String
 | .none=>"NoneType"
 | .bool _=>"bool"
 | .int _=>"int"
 | .str _=>"str"
 | .list _=>"list"
 | .tuple _=>"tuple"
 | .dict _=>"dict"
theorem DX.kind{K:W.Frag}{H:Hp}:∀{x:V} {d:θ},DX K H x d->Vu K H x (Ab d)
 |_,_,.non=>rfl
 |_,_,.bl _=>rfl
 |_,_,.int _=>rfl
 |_,_,.str _=>rfl
 |_,_,.tup h _=> .inl ⟨rfl,_,h⟩
 |_,_,.lst h _=> .inr (.inl ⟨rfl,_,h⟩)
 |_,_,.dct _ h=> .inr (.inr ⟨rfl,_,h⟩)
theorem uZ.len{K:W.Frag}{H:Hp}{xs:List V}{ds:List θ}(h:uZ K H xs ds):xs.length=ds.length:=
 uZ.rec (motive_1:=fun _ _ _=>True) (motive_2:=fun xs ds _=>xs.length=ds.length) trivial (fun _=>trivial) (fun _=>trivial) (fun _=>trivial) (fun _ _ _=>trivial) (fun _ _ _=>trivial) (fun _ _=>trivial) rfl (fun _ _ _ t=>iD Nat.succ t) h
theorem uZ.get{K:W.Frag}{H:Hp}:∀{xs:List V} {ds:List θ} {i:Nat} {x:V},uZ K H xs ds->xs[i]? =some x->∃d,ds[i]? =some d/\DX K H x d
 |_,_,_,_,.nil,e=>by simp at e
 |_,_,0,_,.cons h _,e=>by simp at e;subst e;exact⟨_,rfl,h⟩
 |_,_,i+1,x,.cons _ t,e=>by
  obtain⟨d,h1,h2⟩:=uZ.get (i:=i) t (by simpa using e);exact⟨d,by simpa using h1,h2⟩
structure bQ(K:W.Frag)(mg:L4)(x:Str)(st:Stmt)(ps:List Str)(f:Addr)(fd:τ):Prop where
 F:Fun K x x st f fd
 b:Binds K fd ps []
 m:mg x=some (.ref f)
theorem pc{X:Cx}{x:Str}{st:Stmt}{ps:List Str}{f:Addr}{fd:τ}{j k:Nat}{sp:Sp}{E:XK}{e:Expr}{es:List Expr}{t:TA}{p pos:Pos}(F:FnOk X.prog X.w X.K X.mg X.base CX0 j f fd ps sp)(hr:Room k X.A)(D:bQ X.K X.mg x st ps f fd)(ha:PA X (e::es) t)(hj:j<=k:=by first |decide|omega)(hg:Gl X x:=by rfl)(hx:Passes CX0 X E:=by exact pass0)(hdb:(x==("__debug__":Str))=false:=by decide)(he:starEach (e::es) X.env=(false,eval e X.env)::starEach es X.env:=by rfl)(hpl:(backTo pos (starEach es X.env)).any (·.1)=false:=by rfl):PE X (.Call (.Name x p) (e::es) [] pos) (tCall sp [] E t):=pe_call (F.mono hj) hr hg D.m D.F.kp D.b .nil hx ha hdb he hpl
theorem fsc{N P:List Str}{sc:Scope}(a:sc.kind= .function:=by rfl)(b:sc.isCoroutine=false:=by rfl)(c:sc.isGenerator=false:=by rfl)(d:N.Nodup:=by decide+kernel)(e:N.take P.length=P:=by rfl)(f:∀x∈P,sc.names.lookup x=some .local\/sc.names.lookup x=some .cell:=by decide+kernel)(g:∀y∈sc.names,y.2≠.free:=by decide+kernel):FnScope N P sc:=⟨a,b,c,d,e,f,g⟩
theorem Fun.dM{P:ρ}{w:υ}{K:W.Frag}{mg:L4}{base:Heap}{x qual:Str}{st:Stmt}{f:Addr}{fd:τ}{ps:List Str}{k:Nat}{sp:Sp}(F:Fun K x qual st f fd)(N:List Str)(hb:∀(cdv:ζ) (A:χ) (outer:List Env) (s:η) (H:Hp) (vs:List V) (Q:VK) (E:XK),Room k (A.deeper (PyProof.Rows.envOfC qual (defScope st) s.heap.objs.size f cdv))->sp vs H Q E->
   ∃t,PSs (cxOf CX0 P w K mg base N qual (defScope st) f cdv A outer s H E).nox (defBody st) t/\t {nx:=fun _ H'=>Q .non H',rt:=Q} (start N vs) H)(S:FnScope N ps (defScope st):=by exact fsc)(len:∀vs H Q E,sp vs H Q E->vs.length=ps.length:=by intro _ _ _ _ h;repeat(first |(obtain⟨rfl,_⟩:=h;rfl)|obtain⟨_,h⟩:=h)):FnOk P w K mg base CX0 (k+1) f fd ps sp:=F.ok S len hb
theorem aO{H:Hp}{p:Addr}(h:H p=none)(o:HO):Same H (upd H p o):=fun b u q=>by rw[bU (jh q h)];exact q
end L2
namespace BJ
open PySem L2
def oN:θ->Bool
 | .int _=>true
 |_=>false
def bW(n:Int):θ->Bool
 | .int i=>decide (0<=i)&&decide (i<n)
 |_=>false
def intD:θ->Int
 | .int i=>i
 |_=>0
def kids:θ->List θ
 | .tuple ds=>ds
 |_=>[]
def jF(ns:List Int):Bool:=(List.range (ns.length-1)).all fun k=>decide (ns.getD k 0<ns.getD (k+1) 0)
def jE(ts:List (List Int)):Bool:=(List.range (ts.length-1)).all fun k=>HT.lexLt (ts.getD k []) (ts.getD (k+1) [])
def wI(n:Int):θ->Bool
 | .tuple ds=>ds.all (bW n)&&jF (ds.map intD)
 |_=>false
noncomputable def lH(n:Int)(d:θ):Bool:=wI n d&&decide ((kids d).length=2)
def sW(n:Int):θ->Bool
 | .tuple ds=>ds.all (lH n)&&jE (ds.map fun t=>(kids t).map intD)
 |_=>false
def iG:θ->Bool
 | .tuple [n,t]=>oN n&&(decide (0<=intD n)&&decide (intD n<=10))&&sW (intD n) t
 |_=>false
theorem Dl{n:Int}:∀{d:θ},bW n d=true->∃i,d= .int i/\0<=i/\i<n
 | .int i,h=>⟨i,rfl,by simpa[bW]using h⟩
end BJ
namespace L2
open PySem PySem.Spec PyProof.Rows
section
variable{X:Cx}
theorem j7(K:W.Frag)(h:X.K=K:=by rfl):IxR X (rIxT K):=by subst h;exact jo
theorem eY(K:W.Frag)(h:X.K=K:=by rfl):IxR X (rIxL K):=by subst h;exact mZ
theorem JG(K:W.Frag)(h:X.K=K:=by rfl):CallR X (.builtin "len") (fun xs H Q=>∃p ys,xs=[.ref p]/\(SqL K H p ys\/SqT K H p ys)/\(ys.length<=16777216->Q (.int ys.length) H)):=by subst h;exact yI
theorem Ry(K:W.Frag)(hu:X.A.units<cLine)(h:X.K=K:=by rfl):OpR X (compareOp .Lt) (rLtT K):=by subst h;exact op_ltT hu
theorem nM(K:W.Frag)(hu:X.A.units+64<cLine)(h:X.K=K:=by rfl):OpR X (compareOp .In) (fun x y H Q=>∃(p:Addr) (xs:List V) (ds:List θ) (dx:θ),y= .ref p/\(SqL K H p xs\/SqT K H p xs)/\cU K H xs ds/\DV K H x dx/\PyData.canLayAll0 ds=true/\dx.canLay0=true/\dx.depth<=60/\
  Q (.bl (ds.any fun d=>PyData.eqv d dx)) H):=by subst h;exact Mj hu
theorem gH(K:W.Frag){es:List Expr}{k:Nat}{t:TGs}{n:Nat}{pos:Pos}(hc:X.calm=true)(h:PGs X es t)(hn:(assignEach es X.env).length=n:=by rfl)(hst:(assignEach es X.env).findIdx? (·.1)=none:=by rfl)(hK:X.K=K:=by rfl):PG X (.Tuple es k pos) (gTup K n t):=by subst hK;exact pg_tup hc h hn hst
end
end L2
namespace PySem
open Sem (wp)
open AutoSeq1 (wpAny_loadPart')
section
variable{prog:ρ}{w:υ}{A:χ}{E:L3}{s:η}
theorem kJ{Q:List ζ->η->Prop}{r:Addr}{a b c:Int}{t u v:Tok}{n:Nat}(hh:A.handled=none)(hr:IsRange s.heap r a b c t u v)(hsmall:Builtin.Range.small a b c=true)(hn:Builtin.Range.rangeSize a b c=n)(hlen:n<=2^24)(hQ:∀h' tk acc,(∀b o',s.heap.get? b=some o'->h'.get? b=some o')->ItemsOf (fun i v=>∃t,v= .int (a+i*c) t) acc n->Q acc.toList {s with heap:=h',toks:=tk}):
  wpAny (model prog w) A (collect (.ref r)) Q E s:=by
 unfold collect;refine ao (wdo (Cr F.entry_proto_collect ?_));rw[QW F.plain_proto_collect _];show wpAny _ A.in1 (newList []>>=fun l=>again (.builtin "list.__iadd__" ⟨[l,.ref r],[]⟩)) _ _ s;refine ao (wB ?_);refine aK ⟨Uo F.plain_list_iadd _,Cr F.entry_list_iadd ?_⟩;rw[QW F.plain_list_iadd _];show wpAny _ A.in1 (Builtin.List.listExtendWith (.ref s.heap.objs.size) (.ref r) (.ref s.heap.objs.size)) _ _ _;have hS:(s.heap.push {cls:= .type "list",data:= .seq ([]:List ζ).toArray}).get? s.heap.objs.size=some {cls:= .type "list",data:= .seq #[] 0}:=gZ _ rfl;have fin':∀h' tk acc' c',(∀b o,b≠s.heap.objs.size->(s.heap.push {cls:= .type "list",data:= .seq ([]:List ζ).toArray}).get? b=some o->h'.get? b=some o)->
   h'.get? s.heap.objs.size=some {cls:= .type "list",dict:=none,data:= .seq acc' c',slots:=#[]}->ItemsOf (fun i v=>∃t,v= .int (a+i*c) t) acc' n->wpAny (model prog w) A (match Value.ref s.heap.objs.size with
   |Value.ref a=>do
    match(<-load a).data with
     |Data.seq xs _=>pure xs.toList
     |_=>unsupported "internal:collect"
   |_=>unsupported "internal:collect") Q E {s with heap:=h',toks:=tk}:=fun h' tk acc' c' hk hS' hacc=>by
  show wpAny _ A (load s.heap.objs.size>>=_) _ _ _;refine ao (Z8 hS' ?_);refine aK ?_;exact hQ h' tk acc' (fun b o e=>hk b o (cQ (cR e)) (cV _ e)) hacc
 refine yC (wpAny_extend_range (A:=A) (R:=fun r s'=>r= .ok (.ret (.ref s.heap.objs.size))/\∃h' tk acc' c',s'={s with heap:=h',toks:=tk}/\(∀b o,b≠s.heap.objs.size->(s.heap.push {cls:= .type "list",data:= .seq ([]:List ζ).toArray}).get? b=some o->h'.get? b=some o)/\
   h'.get? s.heap.objs.size=some {cls:= .type "list",dict:=none,data:= .seq acc' c',slots:=#[]}/\ItemsOf (fun i v=>∃t,v= .int (a+i*c) t) acc' n) (s:={s with heap:=s.heap.push {cls:= .type "list",data:= .seq ([]:List ζ).toArray}}) hh (cV _ hr) hsmall hn hlen s.heap.objs.size (.ref s.heap.objs.size) 0 hS (fun h' tk acc' c' hk hS' hacc=>⟨rfl,h',tk,acc',c',rfl,hk,hS',hacc⟩)) (fun fin s' h=> ?_) (fun e s' h=> ?_)
 ·cases fin with
  |done f=>
   obtain⟨e,h',tk,acc',c',rfl,h1,h2,h3⟩:=h;cases e;exact fin' h' tk acc' c' h1 h2 h3
  |again c'=>exact⟨h.1,Qu h.2 fun r s'' hr=>by obtain⟨rfl,h',tk,acc',c',rfl,h1,h2,h3⟩:=hr;exact fin' h' tk acc' c' h1 h2 h3⟩
 ·exact absurd h.1 (by simp)
end
theorem ji(r:Addr)(a b c:Int)(t u v:Tok)(n:Nat)(hsmall:Builtin.Range.small a b c=true)(hn:Builtin.Range.rangeSize a b c=n)(hlen:n<=2^24):
  Meets (Builtin.«tuple.__new__» ⟨[.type "tuple",.ref r],[]⟩)
   (fun A R s=>A.handled=none/\IsRange s.heap r a b c t u v/\∀(h':Heap) tk acc,(∀b o',s.heap.get? b=some o'->h'.get? b=some o')->ItemsOf (fun i v=>∃t,v= .int (a+i*c) t) acc n->R (.ok (.ret (.ref h'.objs.size))) {s with heap:=h'.push {cls:= .type "tuple",data:= .seq acc},toks:=tk}):=
 .of_wp fun prog w A R s h=>by
  obtain⟨hp,g,d,tk,os⟩:=s;obtain⟨hh,ht,h⟩:=h;have hsub:=sub_tuple_self;have hinit:=init_tuple_lookup;have hmh:=madeHere_tuple;have hT:Shared.TypeIs ⟨hp,g,d,tk,os⟩ (.ref r) "range":=⟨_,ht,rfl⟩
  wp_walk using wpAny_loadPart' ht,Um hT,kJ (A:=A.in1) hh ht hsmall hn hlen
  intro h' tk' acc hk hacc;show wpAny _ _ (Builtin.Tuple.tupleExact acc.toList.toArray>>=fun v=>ret v) _ _ _;unfold Builtin.Tuple.tupleExact;refine ao (wB ?_ (by show acc.toList.toArray.size<=sizeLine;rw[eE];simp;rw[hacc.1];omega));refine aK ⟨_,rfl,?_⟩;have e:acc.toList.toArray=acc:=by simp
  rw[e];exact h h' tk' acc hk hacc
section
variable{prog:ρ}{w:υ}{A:χ}{E:L3}{s:η}
theorem p7{Q:L3}{r:Addr}{a b c:Int}{t u v:Tok}{n:Nat}(hh:A.handled=none)(hr:IsRange s.heap r a b c t u v)(hsmall:Builtin.Range.small a b c=true)(hn:Builtin.Range.rangeSize a b c=n)(hlen:n<=2^24)(h:∀(h':Heap) tk acc,(∀b o',s.heap.get? b=some o'->h'.get? b=some o')->ItemsOf (fun i v=>∃t,v= .int (a+i*c) t) acc n->Q (.ref h'.objs.size) {s with heap:=h'.push {cls:= .type "tuple",data:= .seq acc},toks:=tk}):
  wpAny (model prog w) A (call (.type "tuple") [.ref r]) Q E s:=
 callType_new F.called_tuple (by decide) (F.typeCall_tuple_1 _) (F.newCall_tuple_1 _) (fun obj=>F.args_object_init_2 obj _) F.entry_tuple_new
  (ji r a b c t u v n hsmall hn hlen) ⟨hh,hr,fun h' tk acc hk hacc=>⟨⟨_,gZ _ rfl,rfl⟩,h h' tk acc hk hacc⟩⟩
end
end PySem
namespace L2
open PySem PySem.Spec PyProof.Rows
section
variable{X:Cx}{p p' pos pos':Pos}{a:Expr}{ta:TA}
noncomputable def cX(n:Nat):List V:=(List.range n).map fun(k:Nat)=>V.int (k:Int)
def aag(ta:TA):TE:=fun σ H Q=>ta σ H fun vs H1=>∃j:Int,vs=[.int j]/\0<=j/\j<=16777216/\∀l,H1 l=none->Q (.ref l) (upd H1 l (.tup (cX j.toNat)))
theorem sV:∀{n:Nat} {us:List ζ},us.length=n->(∀(j:Nat) (u:ζ),us[j]? =some u->∃t:Tok,u=Value.int (0+((j:Nat):Int)*1) t)->Vals (cX n) us:=by
 intro n us hl hi;have go:∀(us:List ζ) (k:Nat),(∀(j:Nat) (u:ζ),us[j]? =some u->∃t:Tok,u=Value.int (0+((j+k:Nat):Int)*1) t)->Vals ((List.range' k us.length).map fun(k:Nat)=>V.int (k:Int)) us:=by
  intro us
  induction us with
  |nil=>intro k _;exact .nil
  |cons u us ih=>
   intro k h;obtain⟨t,e⟩:=h 0 u rfl;refine .cons ⟨t,?_⟩ (ih (k+1) fun j u' hj=> ?_)
   ·rw[e];congr 1;omega
   ·obtain⟨t',e'⟩:=h (j+1) u' (by simpa using hj);refine⟨t',?_⟩;rw[e'];congr 1;omega
 have:=go us 0 (fun j u hj=>by obtain⟨t,e⟩:=hi j u hj;exact⟨t,by rw[e];rfl⟩);unfold cX;rw[List.range_eq_range',<-hl];exact this
theorem qO(hc:X.calm=true)(hgT:Gl X "tuple")(hmT:X.mg "tuple"=none)(hg:Gl X "range")(hm:X.mg "range"=none)(ha:PA X [a] ta)(hs:starEach [a] X.env=[(false,eval a X.env)]:=by rfl)(hs2:starEach [Expr.Call (.Name "range" p') [a] [] pos'] X.env=[(false,eval (Expr.Call (.Name "range" p') [a] [] pos') X.env)]:=by rfl):
  PE X (.Call (.Name "tuple" p) [.Call (.Name "range" p') [a] [] pos'] [] pos) (aag ta):=by
 intro pins s σ H Q I h;refine Kv (yt I hgT hmT (show bootBuiltins "tuple"=some (.type "tuple")from by decide+kernel) ?_ (by decide) (by decide));refine Ia ?_ hs2 rfl;rw[hs2];refine YM ?_;refine Call_ (yt I hg hm Z6 (Ia (thn (ha pos' pins s σ H _ I h) fun us s1 ⟨vs,H1,I1,r1,q1⟩=> ?_) hs rfl));obtain⟨j,e,q1,q2,q⟩:=q1;subst e;cases r1 with
 |cons r rr=>
  cases rr;obtain⟨t,rfl⟩:=r;refine call_range_1 ?_;refine V3 ?_;have hn:Builtin.Range.rangeSize 0 j 1=((j.toNat:Nat):Int):=by rw[wfr];split<;>omega
  refine p7 (I.ok.hd hc) (whe ..) (small_one (by decide) (by decide) (by omega) (by omega)) hn (by omega) fun h' tk acc hk hacc=> ?_;have I2:Inv X pins σ H1 {s1 with heap:=h',toks:=tk}:=I1.kept fun b o e=>hk b o (cV _ e);have hv:Vals (cX j.toNat) acc.toList:=sV (by rw[sJ];exact hacc.1) (fun i u hu=>hacc.2 i u (by simpa using hu));have hz:(cX j.toNat).length<=sizeLine:=by unfold cX;rw[eE];simp;omega
  have I3:Inv X pins σ (upd H1 h'.objs.size (.tup (cX j.toNat))) {s1 with heap:=h'.push {cls:= .type "tuple",data:= .seq acc},toks:=tk}:=
   I2.laid (t':=tk) (fun b o e=>cV _ e) (aN _) (show ObjOk X.prog X.w _ _ _ (.tup (cX j.toNat))from⟨hz,acc.toList,hv,by rw[show acc=acc.toList.toArray by simp];exact VN _ _⟩)
  exact⟨.ref h'.objs.size,_,I3,rfl,q _ (I2.hok.fresh (aN _))⟩
open Classical in
theorem pA(hu:X.A.units+64<cLine):OpR X (compareOp .NotIn) (fun x y H Q=>∃(p:Addr) (xs:List V) (ds:List θ) (dx:θ),y= .ref p/\(SqL X.K H p xs\/SqT X.K H p xs)/\cU X.K H xs ds/\DV X.K H x dx/\PyData.canLayAll0 ds=true/\dx.canLay0=true/\dx.depth<=60/\
  Q (.bl (!(ds.any fun d=>PyData.eqv d dx))) H):=by
 intro pins s σ H x y v u Q I rx ry h;obtain⟨p,xs,ds,dx,rfl,hq,hds,hx,ca,cb,hd,q⟩:=h;cases ry;obtain⟨bs,rb⟩:=DV.reads I hx rx;have key:∀{its:List ζ},Vals xs its->(∀y∈its,SeqAt.EqAt X.A.in1 s y v (decide (∃d as,Reads s.heap y d as/\d∈ds/\PyData.eqv d dx=true)))/\(its.any fun y=>decide (∃d as,Reads s.heap y d as/\d∈ds/\PyData.eqv d dx=true))=ds.any fun d=>PyData.eqv d dx:=by
  intro its rv;obtain⟨as,ra⟩:=cU.reads I hds rv;have each:∀{us:List ζ} {es:List θ} {as:List Addr},ReadsAll s.heap us es as->(∀e∈es,e∈ds)->(∀y∈us,SeqAt.EqAt X.A.in1 s y v (decide (∃d as,Reads s.heap y d as/\d∈ds/\PyData.eqv d dx=true)))/\(us.any fun y=>decide (∃d as,Reads s.heap y d as/\d∈ds/\PyData.eqv d dx=true))=es.any fun d=>PyData.eqv d dx:=by
   intro us
   induction us with
   |nil=>intro es as h _;cases h;exact⟨(fun y hy=>(nomatch hy)),rfl⟩
   |cons y us ih=>
    intro es as h hs;cases h with
    | @cons _ _ d ds' as' bs' r rr=>
     obtain⟨i1,i2⟩:=ih rr fun e he=>hs e (dZ _ he);have cl:=Eu ca d (hs d dY);have e:decide (∃d as,Reads s.heap y d as/\d∈ds/\PyData.eqv d dx=true)=PyData.eqv d dx:=by
      rw[wA,HX];constructor
      ·rintro⟨d',as'',r',_,q'⟩;obtain⟨rfl,_⟩:=(PySem.Reads.unique r _ _ r');exact q'
      ·intro q';exact⟨d,_,r,hs d dY,q'⟩
     refine⟨fun z hz=> ?_,?_⟩
     ·rcases cF.mp hz with rfl|hz
      ·rw[e];exact SeqAt.eqAt_reads d dx _ s _ _ _ _ r rb cl cb (by show X.A.units+1+min d.depth dx.depth<cLine;omega)
      ·exact i1 z hz
     ·rw[T8,T8,i2,e]
  exact each ra fun e he=>he
 rcases hq with hq|hq
 ·obtain⟨its,r,pl,hz⟩:=I.list hq;obtain⟨k1,k2⟩:=key r;refine SeqAt.notIn_listAt _ pl.isList (fun w hw=>k1 w (by simpa using hw)) ⟨.bl _,H,I,rfl,?_⟩;rw[show∀f:ζ->Bool,its.toArray.any f=its.any f from fun f=>by simp,k2];exact q
 ·obtain⟨its,r,pl,hz⟩:=I.tuple hq;obtain⟨k1,k2⟩:=key r;refine SeqAt.notIn_tupleAt _ pl (fun w hw=>k1 w (by simpa using hw)) ⟨.bl _,H,I,rfl,?_⟩;rw[show∀f:ζ->Bool,its.toArray.any f=its.any f from fun f=>by simp,k2];exact q
theorem Dq(K:W.Frag)(hu:X.A.units+64<cLine)(h:X.K=K:=by rfl):OpR X (compareOp .NotIn) (fun x y H Q=>∃(p:Addr) (xs:List V) (ds:List θ) (dx:θ),y= .ref p/\(SqL K H p xs\/SqT K H p xs)/\cU K H xs ds/\DV K H x dx/\PyData.canLayAll0 ds=true/\dx.canLay0=true/\dx.depth<=60/\
  Q (.bl (!(ds.any fun d=>PyData.eqv d dx))) H):=by subst h;exact pA hu
end
end L2
namespace PySem
open Sem (wp)
open Builtin
open AutoSeq1 (wpAny_loadPart')
theorem pC:fillsNumberSlot (.type "tuple") "mul"=pure false:=
 fillsNumberSlot_seq (id:="tuple.__mul__") (r:=some (.builtin "tuple.__rmul__")) F.slot_tuple_mul.lookup (by decide+kernel) F.slot_tuple_rmul.lookup (by decide+kernel)
theorem wK:seqRepeat? (.type "tuple")=pure (some (.builtin "tuple.__mul__")):=by
 unfold seqRepeat?;rw[seqSlot_of (T:="tuple") (name:="__mul__") (id:="tuple.__mul__") F.slot_tuple_mul.lookup (by decide+kernel),seqSlot_of (T:="tuple") (name:="__rmul__") (id:="tuple.__rmul__") F.slot_tuple_rmul.lookup (by decide+kernel)];rfl
theorem xJ(a:Int)(t:Tok)(l:Addr)(items:Array ζ)(n:Nat)(d:Option Addr)(sl:Array (Option ζ)):
  Meets (Builtin.«int.__rmul__» ⟨[.int a t,.ref l],[]⟩) (fun _ R s=>s.heap.get? l=some {cls:= .type "tuple",dict:=d,data:= .seq items n,slots:=sl}/\R (.ok (.ret Value.notImplemented)) s):=
 .of_wp fun prog w A R s h=>by obtain⟨hp,g,d,tk,os⟩:=s;obtain⟨hl,h⟩:=h;wp_walk;exact⟨_,rfl,h⟩
theorem tup_mul_1(l:Addr)(items:Array ζ)(n:Nat)(d:Option Addr)(sl:Array (Option ζ))(x:Int)(u:Tok)(hx:x=1):
  Meets (Builtin.«tuple.__mul__» ⟨[.ref l,.int x u],[]⟩) (fun _ R s=>s.heap.get? l=some {cls:= .type "tuple",dict:=d,data:= .seq items n,slots:=sl}/\R (.ok (.ret (Value.ref l))) s):=
 .of_wp fun prog w A R s h=>by
  subst hx;obtain⟨hp,g,d,tk,os⟩:=s;obtain⟨hl,h⟩:=h;have f1:=wgd
  wp_walk using wpAny_loadPart' hl;exact⟨_,rfl,h⟩
theorem tup_mul_0(l:Addr)(items:Array ζ)(n:Nat)(d:Option Addr)(sl:Array (Option ζ))(x:Int)(u:Tok)(hx:x<=0)(hlo: -(2^63)<=x)(hne:items.isEmpty=false):
  Meets (Builtin.«tuple.__mul__» ⟨[.ref l,.int x u],[]⟩) (fun _ R s=>s.heap.get? l=some {cls:= .type "tuple",dict:=d,data:= .seq items n,slots:=sl}/\R (.ok (.ret (Value.ref s.heap.objs.size))) {s with heap:=s.heap.push {cls:=Value.type "tuple",data:=Data.seq #[]},toks:=s.toks}):=
 .of_wp fun prog w A R s h=>by
  obtain⟨hp,g,d,tk,os⟩:=s;obtain⟨hl,h⟩:=h;have f1:=wgd;have c1:¬((decide (x< -(2^63))||decide (x≥2^63))=true):=by simp;omega
  have c2:¬((items.isEmpty||x==1)=true):=by rw[hne];simp;omega
  have c3:(decide (x<=0)||items.isEmpty)=true:=by rw[hne];simp;omega
  wp_walk using wpAny_loadPart' hl;rw[aq c1];wp_walk using wpAny_loadPart' hl;rw[aq c2];wp_walk using wpAny_loadPart' hl;exact⟨_,rfl,h⟩
theorem Ig(l:Addr)(items:Array ζ)(n:Nat)(d:Option Addr)(sl:Array (Option ζ))(x:Int)(u:Tok)(hx:1<x)(hhi:x<2^63)(hne:items.isEmpty=false)(hsz:items.size*x.toNat<=1000):
  Meets (Builtin.«tuple.__mul__» ⟨[.ref l,.int x u],[]⟩) (fun _ R s=>s.heap.get? l=some {cls:= .type "tuple",dict:=d,data:= .seq items n,slots:=sl}/\R (.ok (.ret (Value.ref s.heap.objs.size))) {s with heap:=s.heap.push {cls:=Value.type "tuple",data:=Data.seq (List.foldl (fun x1 x2=>x1++x2) #[] (List.replicate x.toNat items))},toks:=s.toks}):=
 .of_wp fun prog w A R s h=>by
  obtain⟨hp,g,d,tk,os⟩:=s;obtain⟨hl,h⟩:=h;have f1:=wgd;have c1:¬((decide (x< -(2^63))||decide (x≥2^63))=true):=by simp;omega
  have c2:¬((items.isEmpty||x==1)=true):=by rw[hne];simp;omega
  have c3:¬((decide (x<=0)||items.isEmpty)=true):=by rw[hne];simp;omega
  have hxs:(items.size:Int)*x=((items.size*x.toNat:Nat):Int):=by rw[wgl,weg (by omega)]
  have c4:¬((items.size:Int)*x>(2^63-1)/8):=by rw[hxs];omega
  have c5:¬(Builtin.Tuple.tupleTooMany ((items.size:Int)*x)=true):=by
   rw[hxs];intro z;have z':((items.size*x.toNat:Nat):Int)>(sizeLine:Int):=sS z;have:=eE;generalize items.size*x.toNat=m at *;omega
  have htake:(List.foldl (fun x1 x2=>x1++x2) #[] (List.replicate x.toNat items)).size<=sizeLine:=by
   have e:List.foldl (fun x1 x2=>x1++x2) #[] (List.replicate x.toNat items)=(List.replicate x.toNat items.toList).flatten.toArray:=by
    have:=PyProof.Rows.listMul_foldl_if items x.toNat;rw[aq (by rw[hne];simp)]at this;exact this
   rw[e,fu];have:(List.replicate x.toNat items.toList).flatten.length=x.toNat*items.size:=by simp
   rw[this,Vz,eE];omega
  wp_walk using wpAny_loadPart' hl;rw[aq c1];wp_walk using wpAny_loadPart' hl;rw[aq c2];wp_walk using wpAny_loadPart' hl;rw[aq c3]
  try dsimp only
  rw[aq c4]
  try dsimp only
  rw[aq c5]
  try dsimp only
  unfold Builtin.Tuple.tupleExact;refine ao (wB (aK ?_) htake);exact⟨_,rfl,h⟩
end PySem
namespace L2
open PySem PySem.Spec PyProof.Rows
section
variable{X:Cx}{p p' pos pos':Pos}{a:Expr}{ta:TA}
theorem Vals.aao{xs:List V}{us:List ζ}(h:Vals xs us):∀k:Nat,Vals (List.replicate k xs).flatten (List.replicate k us).flatten
 |0=> .nil
 |k+1=>by rw[Kq,Kq,Ub,Ub];exact h.append (Vals.aao h k)
def aas(K:W.Frag):R2:=fun x y H Q=>∃a k xs,x= .ref a/\y= .int k/\SqT K H a xs/\xs≠[]/\ -(2^63)<=k/\k<2^63/\xs.length*k.toNat<=1000/\∀r H',Same H H'->SqT K H' r (List.replicate k.toNat xs).flatten->Q (.ref r) H'
theorem Rw:OpR X (binaryOp .Mult) (aas X.K):=by
 intro pins s σ H x y v u Q I rx ry h;obtain⟨a,k,xs,rfl,rfl,ha,hne,h1,h2,hz,q⟩:=h;cases rx;obtain⟨t,rfl⟩:=ry;obtain⟨its,r1,p1,_⟩:=I.tuple ha;obtain⟨⟨cls,dd,data,sl⟩,ho,hc,n,hd⟩:=id p1;simp only at hc hd;subst hc hd;have hlen:=r1.length;have hem:its.toArray.isEmpty=false:=by
  cases its with
  |nil=>cases r1;exact absurd rfl hne
  |cons _ _=>rfl
 have road:∀{S:PySem.Spec},Meets (Builtin.«tuple.__mul__» ⟨[.ref a,.int k t],[]⟩) S->S X.A (wants (EP X pins σ Q) X.xe) s->wpAny (model X.prog X.w) X.A (binaryOp .Mult (.ref a) (.int k t)) (EP X pins σ Q) X.xe s:=fun M hS=>
  wpAny_binaryOp_repeat_ref (T:="tuple") (U:="int") (by decide) ⟨_,ho,rfl⟩ (fun s'=>Z0 s' k t) pC F.fills_int_mul wee wK F.slot_int_index.lookup
   (Qt wee (Z0 s k t) F.entry_int_rmul (F.args_int_rmul_2 _ _) (xJ k t a its.toArray n dd sl)
    ⟨ho,rfl,⟨_,ho,rfl⟩,Qt F.slot_tuple_mul ⟨_,ho,rfl⟩ F.entry_tuple_mul (F.args_tuple_mul_2 _ _) M hS⟩)
 by_cases c1:k=1
 ·refine road (tup_mul_1 a its.toArray n dd sl k t c1) ⟨ho,⟨.ref a,H,I,rfl,q a H (Same.refl _) ?_⟩⟩;subst c1;have:(List.replicate (1:Int).toNat xs).flatten=xs:=by simp
  rw[this];exact ha
 by_cases c0:k<=0
 ·refine road (tup_mul_0 a its.toArray n dd sl k t c0 h1 hem) ⟨ho,?_⟩;have e0:k.toNat=0:=by omega
  refine⟨.ref s.heap.objs.size,_,I.laid (t':=s.toks) (o:= .tup []) (fun b ob q=>cV _ q) (aN _) ⟨dB _,[],.nil,VN _ _⟩,rfl,q _ _ (fun c o e=>by rw[bU (jh e (I.hok.fresh (aN _)))];exact e) ?_⟩;rw[e0];exact SqT.of aH
 ·have hsz:its.toArray.size*k.toNat<=1000:=by rw[fu,<-hlen];exact hz
  refine road (Ig a its.toArray n dd sl k t (by omega) h2 hem hsz) ⟨ho,?_⟩;have hnew:List.foldl (fun x1 x2=>x1++x2) #[] (List.replicate k.toNat its.toArray)=(List.replicate k.toNat its).flatten.toArray:=by
   have:=foldl_rep its k.toNat [];rw[List.nil_append]at this;exact this
  rw[hnew];have hz':(List.replicate k.toNat xs).flatten.length<=sizeLine:=by
   rw[len_rep,Vz];exact dO hz (by rw[eE];decide)
  refine⟨.ref s.heap.objs.size,_,I.laid (t':=s.toks) (o:= .tup (List.replicate k.toNat xs).flatten) (fun b ob q=>cV _ q) (aN _) ⟨hz',_,Vals.aao r1 k.toNat,VN _ _⟩,rfl,q _ _ (fun c o e=>by rw[bU (jh e (I.hok.fresh (aN _)))];exact e) (SqT.of aH)⟩
def aai(ta:TA):TE:=fun σ H Q=>ta σ H fun vs H1=>∃j:Int,vs=[.int j]/\0<=j/\j<=16777216/\∀l,H1 l=none->Q (.ref l) (upd H1 l (.lst (cX j.toNat)))
theorem qP(hc:X.calm=true)(hgT:Gl X "list")(hmT:X.mg "list"=none)(hg:Gl X "range")(hm:X.mg "range"=none)(ha:PA X [a] ta)(hs:starEach [a] X.env=[(false,eval a X.env)]:=by rfl)(hs2:starEach [Expr.Call (.Name "range" p') [a] [] pos'] X.env=[(false,eval (Expr.Call (.Name "range" p') [a] [] pos') X.env)]:=by rfl):
  PE X (.Call (.Name "list" p) [.Call (.Name "range" p') [a] [] pos'] [] pos) (aai ta):=by
 intro pins s σ H Q I h;refine Kv (yt I hgT hmT (show bootBuiltins "list"=some (.type "list")from by decide+kernel) ?_ (by decide) (by decide));refine Ia ?_ hs2 rfl;rw[hs2];refine YM ?_;refine Call_ (yt I hg hm Z6 (Ia (thn (ha pos' pins s σ H _ I h) fun us s1 ⟨vs,H1,I1,r1,q1⟩=> ?_) hs rfl));obtain⟨j,e,q1,q2,q⟩:=q1;subst e;cases r1 with
 |cons r rr=>
  cases rr;obtain⟨t,rfl⟩:=r;refine call_range_1 ?_;refine V3 ?_;have hn:Builtin.Range.rangeSize 0 j 1=((j.toNat:Nat):Int):=by rw[wfr];split<;>omega
  refine call_list_range (I.ok.hd hc) (whe ..) (small_one (by decide) (by decide) (by omega) (by omega)) hn (by omega) fun h' tk acc c hk hS hacc=> ?_;have hv:Vals (cX j.toNat) acc.toList:=sV (by rw[sJ];exact hacc.1) (fun i u hu=>hacc.2 i u (by simpa using hu));have hz:(cX j.toNat).length<=sizeLine:=by unfold cX;rw[eE];simp;omega
  have I2:Inv X pins σ H1 {s1 with heap:=s1.heap.push {cls:=Value.type "range",data:=Data.fields #[Value.int 0 s1.toks,Value.int j t,Value.int 1 (s1.toks+1)]},toks:=s1.toks+1+1}:=I1.kept fun b o e=>cV _ e;exact⟨.ref _,_,I2.laid (t':=tk) (o:= .lst (cX j.toNat)) hk (aN _) ⟨hz,acc.toList,c,hv,by simpa using hS⟩,rfl,q _ (I2.hok.fresh (aN _))⟩
end
section
variable{X:Cx}{pins:L1}{σ:St}{H:Hp}{s:η}{h':Heap}
theorem Inv.Ie{t':Nat}{fp:List Addr}{T:Addr}{o:HO}(I:Inv X pins σ H s)(k:∀b o,b∉fp->s.heap.get? b=some o->h'.get? b=some o)(hf:∀b∈fp,FpOk X pins H b)(hT:s.heap.objs.size<=T)(new:ObjOk X.prog X.w (upd H T o) h' T o):
  Inv X pins σ (upd H T o) {s with heap:=h',toks:=t'}:=by
 have hTn:H T=none:=I.hok.fresh hT;have nfp:∀b u,H b=some u->b∉fp:=fun b u e z=>by rw[(hf b z).1]at e;cases e
 have neT:∀b o,s.heap.get? b=some o->b≠T:=fun b o e=>cQ (gC (cR e) hT);have neU:∀b u,H b=some u->b≠T:=fun b u e z=>by rw[z,hTn]at e;cases e
 refine I.step (g':=s.gens) (d':=s.drawn) (ch:=fp) (fun b hb=> ?_) (fun b o _ _ hc e _=>k b o hc e) (fun b o _ _ hc e _=>⟨o.slots,k b o hc e⟩) (fun b o _ e n=>by rw[bU (neT b o e)];exact n)
  (fun b o hc e=>⟨o,k b o hc e⟩) (fun b xs e=>by rw[bU (neU b _ e)];exact e) (fun b o u e=>by rw[bU (neU b _ e)];exact e) (fun b ps e=>⟨#[],by rw[bU (neU b _ e),e];simp⟩) (fun m hm=> ?_) (fun b u e=> ?_) I.bare
 ·obtain⟨f0,f1,f2,f3,f4,f5⟩:=hf b hb;exact⟨f3,f1,f4,f5⟩
 ·obtain⟨o,es,ep,ho,r⟩:=hm;exact⟨o,es,ep,k _ o (fun z=>(hf _ z).2.1 rfl) ho,r⟩
 ·by_cases hb:b=T
  ·subst hb;rw[aH]at e;cases e;exact new
  ·rw[bU hb]at e;refine(I.hok b u e).stay (fun c v hc q=>k c v ?_ q) (fun c q=>by rw[bU (neU c _ q)];exact q) fun c xs q=>by rw[bU (neU c _ q)];exact q
   rcases hc with z|z
   ·rw[z];exact nfp b u e
   ·exact nfp c _ z
theorem Inv.turns{t':Nat}{fp:List Addr}(I:Inv X pins σ H s)(k:∀b o,b∉fp->s.heap.get? b=some o->h'.get? b=some o)(hf:∀b∈fp,FpOk X pins H b):Inv X pins σ H {s with heap:=h',toks:=t'}:=by
 have nfp:∀b u,H b=some u->b∉fp:=fun b u e z=>by rw[(hf b z).1]at e;cases e
 refine I.step (g':=s.gens) (d':=s.drawn) (ch:=fp) (fun b hb=> ?_) (fun b o _ _ hc e _=>k b o hc e) (fun b o _ _ hc e _=>⟨o.slots,k b o hc e⟩) (fun b o _ e n=>n)
  (fun b o hc e=>⟨o,k b o hc e⟩) (fun b xs e=>e) (fun b o u e=>e) (fun b ps e=>⟨#[],by rw[e];simp⟩) (fun m hm=> ?_) (fun b u e=> ?_) I.bare
 ·obtain⟨f0,f1,f2,f3,f4,f5⟩:=hf b hb;exact⟨f3,f1,f4,f5⟩
 ·obtain⟨o,es,ep,ho,r⟩:=hm;exact⟨o,es,ep,k _ o (fun z=>(hf _ z).2.1 rfl) ho,r⟩
 ·refine(I.hok b u e).stay (fun c v hc q=>k c v ?_ q) (fun c q=>q) fun c xs q=>q;rcases hc with z|z
  ·rw[z];exact nfp b u e
  ·exact nfp c _ z
end
def TY(K:W.Frag)(b:Bool)(H:Hp)(a:Addr)(xs:List V):Prop:=match b with
 |false=>SqL K H a xs
 |true=>SqT K H a xs
noncomputable def Ite(K:W.Frag)(b:Bool)(a:Addr)(xs:List V):It:=
 ⟨fun i H=>TY K b H a xs/\i<xs.length,fun i H x H'=>∃t v,x= .ref t/\H t=none/\H'=upd H t (.tup [.int (i:Int),v])/\xs[i]? =some v,fun i H=>TY K b H a xs/\i=xs.length⟩
theorem Cy{P:ρ}{w:υ}{K:W.Frag}{es:List Expr}{k:Nat}{pos:Pos}(a e it:Addr)(xs:List V)(hne:e≠it):
  Turn P w K (.Tuple es k pos) (Ite K false a xs) [e,it] e (fun i h=>(∃old,IsEnum h e it (i:Int) old)/\h.IsListIter it a i) where
 mem:=by simp
 obj:=fun i h st b hb=>by
  obtain⟨⟨old,he⟩,o,e1,c,d⟩:=st;rcases cF.mp hb with z|hb
  ·subst z;exact⟨_,he,fun v z=>by cases z⟩
  ·have z:b=it:=by simpa using hb
   subst z;exact⟨o,e1,fun v z=>by rw[d]at z;cases z⟩
 keep:=fun i h h' st k=>⟨st.1.imp fun old he=>k e (by simp) _ he,st.2.at fun o e=>k it (by simp) o e⟩
 item:=by
  intro X hP hw hK hc i pins s σ H E I hf st hg;subst hP hw hK;obtain⟨hq0,hi⟩:=hg;have hq:SqL X.K H a xs:=hq0;obtain⟨its,rv,p,hz⟩:=I.list hq;have hx:xs[i]? =some xs[i]:=gj hi;obtain⟨u,hu,ru⟩:=rv.get hx;obtain⟨⟨old,he⟩,hit⟩:=st;refine wpAny_pyNext_enum_item he hit p.isList (x:=u) (by simpa using hu) hne fun h1 ho hit1 hT hsz hk=>⟨_,rfl,?_⟩;refine wpAny_letOwnedTupleGo_enum ho fun h2 he2 hs2=> ?_;have Xj:Heap.SameBut e h1 h2:=hs2;have nTe:s.heap.objs.size≠e:=fun z=>absurd (cR he) (by rw[<-z];exact uV _);have keep:∀b o,b∉[e,it]->s.heap.get? b=some o->h2.get? b=some o:=fun b o hb q=>(Xj.2 b fun z=>hb (by simp[z])).trans (hk b o (fun z=>hb (by simp[z])) (fun z=>hb (by simp[z])) q);have hT2:h2.get? s.heap.objs.size=some {cls:= .type "tuple",data:= .seq #[.int i s.toks,u]}:=(Xj.2 _ nTe).trans hT;have I2:=I.Ie (h':=h2) (t':=s.toks+1) (o:= .tup [.int (i:Int),xs[i]]) keep hf (aN _) ⟨(by show 2<=sizeLine;decide),[.int i s.toks,u],.cons ⟨_,rfl⟩ (.cons ru .nil),_,hT2,rfl,_,rfl⟩;exact⟨.ref s.heap.objs.size,_,I2,rfl,⟨_,_,rfl,I.hok.fresh (aN _),rfl,hx⟩,⟨⟨_,by simpa using he2⟩,hit1.at fun o q=>(Xj.2 it hne.symm).trans q⟩,fun b hb=>by
   rw[bU (fun z=> ?_)]
   ·exact(hf b hb).1
   ·obtain⟨_,q1,_⟩:=hit;rcases cF.mp hb with y|y
    ·exact nTe (z.symm.trans y)
    ·have y:b=it:=by simpa using y
     rw[<-y,z]at q1;exact absurd (cR q1) (uV _)⟩
 done:=by
  intro X hP hw hK hc i pins s σ H E I hf st hg;subst hP hw hK;obtain⟨hq0,hi⟩:=hg;have hq:SqL X.K H a xs:=hq0;obtain⟨its,rv,p,hz⟩:=I.list hq;have hl:=rv.length;obtain⟨⟨old,he⟩,hit⟩:=st;exact wpAny_pyNext_enum_end (I.ok.hd hc) he hit p.isList (by simp;omega) fun h' eb=>⟨rfl,I.turns (t':=s.toks) (fp:=[e,it]) (fun b o hb q=>eb b o (fun z=>hb (by simp[z])) q) hf⟩
 self:=fun _ _ _ _ _ st h=>by
  obtain⟨⟨old,he⟩,_⟩:=st;exact wpAny_pyIter_enum he h
section
variable{ini:St}{H:Hp}{g:TG}{tc:TT}{te:TE}{Fin:List V->Hp->Prop}{K:W.Frag}{b:Bool}{a:Addr}{xs:List V}
theorem j9(Pv:Nat->List V->St->Hp->Prop)(h0:Pv 0 [] ini H)(hl:∀(i:Nat) acc σ H,i<=xs.length->Pv i acc σ H->TY K b H a xs)(hz:∀(i:Nat) acc σ H,i<=xs.length->Pv i acc σ H->acc.length<=i)(hx:xs.length<=sizeLine)(hs:∀(i:Nat) v t acc σ H,xs[i]? =some v->Pv i acc σ H->H t=none->g (.ref t) σ (upd H t (.tup [.int (i:Int),v])) fun σ2 H2=>tc σ2 H2 fun b H3=>if b=true then te σ2 H3 fun v H4=>Pv (i+1) (acc++[v]) σ2 H4 else Pv (i+1) acc σ2 H3)(hd:∀acc σ H,Pv xs.length acc σ H->Fin acc H):BZ (Ite K b a xs) ini H g tc te Fin:=by
 refine⟨fun i m acc σ H=>m=xs.length-i/\i<=xs.length/\Pv i acc σ H,⟨xs.length,by simp,dB _,h0⟩,?_⟩;rintro i m acc σ H ⟨rfl,hi,p⟩;have q:=hl i acc σ H hi p;have z:=hz i acc σ H hi p;by_cases hlt:i<xs.length
 ·refine .inr ⟨⟨q,hlt⟩,by omega,fun acc σ H=>Pv (i+1) acc σ H,fun acc' σ' H' r=>⟨_,by omega,rfl,hlt,r⟩,fun x H' y=> ?_⟩;obtain⟨t,v,rfl,ht,rfl,hv⟩:=y;exact hs i v t acc σ H hv p ht
 ·have e:i=xs.length:=by omega
  subst e;exact .inl ⟨⟨q,rfl⟩,by omega,hd acc σ H p⟩
end
section
variable{X:Cx}{e m a:Expr}{te:TE}{tm:TO}{p pos p2:Pos}
theorem Iu(its:List ζ):slicePick its.toArray none none (some (-1))=its.reverse.toArray:=by
 have hb:sliceBounds none none (some (-1)) its.toArray.size=((its.toArray.size:Int)-1, -1, -1):=by
  unfold sliceBounds;simp
 unfold slicePick;rw[hb];have hr:sliceRange ((its.toArray.size:Int)-1) (-1) (-1)=(List.range its.toArray.size).map fun k=>its.toArray.size-1-k:=by
  generalize its.toArray.size=n;unfold sliceRange;have hn:(if(-1:Int)>0 then(if(n:Int)-1< -1 then(-1-((n:Int)-1)+ -1-1)/ -1 else 0)else(if(n:Int)-1> -1 then((n:Int)-1- -1- -1-1)/(- -1)else 0))=(n:Int):=by
   rw[aq (by decide),show(- -1:Int)=1 by decide,whm];split<;>omega
  show(List.range (if(-1:Int)>0 then(if(n:Int)-1< -1 then(-1-((n:Int)-1)+ -1-1)/ -1 else 0)else(if(n:Int)-1> -1 then((n:Int)-1- -1- -1-1)/(- -1)else 0)).toNat).map _=_;rw[hn,Fx];refine ZL fun k hk=> ?_;have:=rH.mp hk;omega
 dsimp only;rw[hr,HT.vN,wgg,HT.all_range]
def aah(K:W.Frag)(te:TE)(tm:TO):TE:=fun σ H Q=>te σ H fun x H1=>tm σ H1 fun o H2=>o=some (-1)/\∃a xs,x= .ref a/\SqL K H2 a xs/\∀p,H2 p=none->Q (.ref p) (upd H2 p (.lst xs.reverse))
theorem Rr(he:PE X e te)(hm:PO X (some m) tm):PE X (.Subscript e (.Slice none none (some m) p2) pos) (aah X.K te tm):=by
 intro pins s σ H Q I h;refine Z1 (thn (he pins s σ H _ I h) fun v s1 ⟨x,H1,I1,r1,q1⟩=> ?_);refine wpAny_Slice (thn (vC pins s1 σ H1 (fun o H=>o=none/\H=H1) I1 ⟨rfl,rfl⟩) fun vl s2 ⟨l,H2,I2,pl,⟨el,eh⟩⟩=>thn (vC pins s2 σ H2 (fun o H=>o=none/\H=H2) I2 ⟨rfl,rfl⟩) fun vu s3 ⟨u,H3,I3,pu,⟨eu,eh2⟩⟩=> ?_);subst el eh eu eh2;refine thn (hm pins s3 σ _ _ I3 q1) fun vk s4 ⟨k,H4,I4,pk,ek,a,xs,ex,hx,q⟩=> ?_;subst ek ex;cases r1;have I5:Inv X pins σ H4 {s4 with heap:=s4.heap.push {cls:= .type "slice",data:= .fields #[vl,vu,vk]}}:=I4.kept (t':=s4.toks) fun b ob q=>cV _ q;obtain⟨its,r,ht,hz⟩:=I5.list hx;have hlen:=r.length;show wpAny (model X.prog X.w) X.A (subscriptTail e (.Slice none none (some m) p2) (.ref a) (.ref s4.heap.objs.size)) (EP X pins σ Q) X.xe {s4 with heap:=s4.heap.push {cls:= .type "slice",data:= .fields #[vl,vu,vk]}};refine tail_any (ops:=[.ref a,.ref s4.heap.objs.size]) ht.isList.typeIs slot_list_getitem.lookup (wpAny_getItem_list_slice ht.isList (wep ..) pl pu pk (by simp) ?_ (by rw[fu];omega)) (by with_unfolding_all rfl);rw[Iu];refine⟨.ref _,_,I5.laid (t':=s4.toks) (o:= .lst xs.reverse) (fun b ob q=>cV _ q) (aN _) ?_,rfl,q _ (I5.hok.fresh (aN _))⟩;exact⟨by rw[ZM];exact hz,_,0,sU r,gZ _ rfl⟩
theorem Q8{l:List Int}{k:Int}(h:k∈l):step_dedup l k=l:=by unfold step_dedup;simp[h]
theorem KZ{l:List Int}{k:Int}(h:¬k∈l):step_dedup l k=l++[k]:=by unfold step_dedup;simp[h]
theorem fH(ns:List Int):∀(i:Nat),i<=ns.length->∀k,k∈firstMet (fun i=>ns.getD i 0) i↔k∈ns.take i
 |0,_,k=>by rw[firstMet_zero,List.take_zero]
 |i+1,h,k=>by
  have ih:=fH ns i (by omega) k;have e1:ns.getD i 0=ns[i]:=by simp[show i<ns.length by omega]
  rw[wfu,rK,gj (by omega),g8,<-ih]
  try dsimp only
  rw[e1];by_cases hm:ns[i]∈firstMet (fun i=>ns.getD i 0) i
  ·rw[Q8 hm];constructor
   ·exact .inl
   ·rintro(z|z)
    ·exact z
    ·have:k=ns[i]:=by simpa using z
     rw[this];exact hm
  ·rw[KZ hm,g8];simp
theorem zJ(K:W.Frag){tg l:Expr}{tl:TE}(hl:PE X l tl)(h:X.K=K:=by rfl):PI X tg l (Vj K tl):=by subst h;exact Hx hl
theorem Le(K:W.Frag)(h:X.K=K:=by rfl):SlR X (rSlL K):=by subst h;exact Kc
theorem zj(K:W.Frag)(h:X.K=K:=by rfl):SlR X (aar K):=by subst h;exact m8
theorem zL(K:W.Frag)(h:X.K=K:=by rfl):OpR X (binaryOp .Add) (Va K):=by subst h;exact wU
theorem Rx(K:W.Frag)(hu:X.A.units+64<cLine)(h:X.K=K:=by rfl):OpR X (compareOp .NotEq) (fun x y H Q=>∃da db,DV K H x da/\DV K H y db/\da.canLay0=true/\db.canLay0=true/\min da.depth db.depth<=64/\Q (.bl (!PyData.eqv da db)) H):=by subst h;exact wR hu
end
theorem rP{s u:TS}{D:Ends}{σ:St}{H:Hp}(I:St->Hp->Prop)(h1:∀N:St->Hp->Prop,(∀σ' H',I σ' H'->N σ' H')->s {D with nx:=N} σ H)(h2:∀σ' H',I σ' H'->u D σ' H'):tSeq s u D σ H:=h1 (u D) h2
theorem Ej:∀(names:List (Str×NameKind)) (n:Nat) (acc:List (Str×Addr)) {x:Str} {c:Addr},(x,c)∈cellsFrom n names acc->(x,c)∈acc\/((x,NameKind.cell)∈names/\n<=c)
 |[],_,_,_,_,h=> .inl h
 |(nm,k)::r,n,acc,x,c,h=>by
  unfold cellsFrom at h;split at h
  ·rename_i hk;have ek:k=NameKind.cell:=by simpa using hk
   rcases Ej r _ _ h with q|⟨q,m⟩
   ·rcases cF.mp q with e|e
    ·cases e;subst ek;exact .inr ⟨dY,aN _⟩
    ·exact .inl e
   ·exact .inr ⟨dZ _ q,by omega⟩
  ·rcases Ej r _ _ h with q|⟨q,m⟩
   ·exact .inl q
   ·exact .inr ⟨dZ _ q,m⟩
theorem xW:∀(names:List (Str×NameKind)) (n:Nat) (acc:List (Str×Addr)) {p:Str×Addr},p∈acc->p∈cellsFrom n names acc
 |[],_,_,_,h=>h
 |(nm,k)::r,n,acc,p,h=>by
  unfold cellsFrom;split
  ·exact xW r _ _ (dZ _ h)
  ·exact xW r _ _ h
theorem El:∀(names:List (Str×NameKind)) (n:Nat) (acc:List (Str×Addr)) {x:Str},(x,NameKind.cell)∈names->∃c,(x,c)∈cellsFrom n names acc
 |(nm,k)::r,n,acc,x,h=>by
  unfold cellsFrom;rcases cF.mp h with e|e
  ·cases e;rw[aB (show(NameKind.cell==NameKind.cell)=true from rfl)];exact⟨n,xW r _ _ dY⟩
  ·split
   ·exact El r _ _ e
   ·exact El r _ _ e
theorem Ek{n0:Nat}:∀(names:List (Str×NameKind)) (n:Nat) (acc:List (Str×Addr)),n0<=n->(∀x y c,(x,c)∈acc->(y,c)∈acc->n0<=c->x=y)->(∀x c,(x,c)∈acc->c<n)->∀x y c,(x,c)∈cellsFrom n names acc->(y,c)∈cellsFrom n names acc->n0<=c->x=y
 |[],_,_,_,h,_=>h
 |(nm,k)::r,n,acc,hn,h,hl=>by
  unfold cellsFrom;split
  ·refine Ek r (n+1) ((nm,n)::acc) (by omega) (fun x y c hx hy hc=> ?_) (fun x c hx=> ?_)
   ·rcases cF.mp hx with e1|e1<;>rcases cF.mp hy with e2|e2
    ·cases e1;cases e2;rfl
    ·cases e1;exact absurd (hl _ _ e2) (uV _)
    ·cases e2;exact absurd (hl _ _ e1) (uV _)
    ·exact h x y c e1 e2 hc
   ·rcases cF.mp hx with e1|e1
    ·cases e1;exact sI _
    ·exact qH (hl _ _ e1)
  ·exact Ek r n acc hn h hl
theorem xV:∀(names:List (Str×NameKind)) (h:Heap) (acc:List (Str×Addr)) {x:Str} {c:Addr},(x,c)∈cellsFrom h.objs.size names acc->(x,c)∈acc\/(pushCells h names).IsCell c none
 |[],_,_,_,_,h=> .inl h
 |(nm,k)::r,h,acc,x,c,hm=>by
  unfold cellsFrom at hm;unfold pushCells;split at hm
  ·rename_i hk;rw[aB hk];have hm':(x,c)∈cellsFrom (h.push {cls:= .type "cell",data:= .cell none}).objs.size r ((nm,h.objs.size)::acc):=by rw[Cq];exact hm
   rcases xV r (h.push {cls:= .type "cell",data:= .cell none}) _ hm' with q|q
   ·rcases cF.mp q with e|e
    ·cases e;exact .inr ⟨_,weh _ _ _ _ (gZ _ rfl),rfl⟩
    ·exact .inl e
   ·exact .inr q
  ·rename_i hk;rw[aq hk];exact xV r h acc hm
theorem RV{M:Model}{A:χ}{E:L3}{s:η}{scope:Scope}{globals:Addr}{closure:List (Str×Addr)}{qual:Str}{env:Env}{Q:Env->η->Prop}(hQ:Q (newEnv scope s.heap.objs.size globals (cellsFrom (s.heap.objs.size+1) scope.names closure) qual none Value.none (some env) 0) {s with heap:=pushCells (s.heap.push {cls:= .type "dict",data:= .dict #[]}) scope.names}):
  wpAny M A (newFunctionEnv scope globals closure [] qual none .none (some env)) Q E s:=by
 simp only[newFunctionEnv,Option.isSome_some,Uj];refine ao (wpAny_alloc ?_);refine ao (wpAny_layCells _ (fun name kind cells=>by cases hkc:kind==NameKind.cell<;>simp[hkc]) _ _ _ _ ?_);rw[List.forIn_nil];refine ao (aK (aK ?_));rw[show({s with heap:=s.heap.push {cls:= .type "dict",data:= .dict #[]}}:η).heap.objs.size=s.heap.objs.size+1 from Cq ..];exact hQ
noncomputable def aU(sc scope:Scope):Bool:=scope.names.all fun p=>(p.2 !=NameKind.cell||scope.names.lookup p.1==some NameKind.cell)&&(p.2 !=NameKind.local||scope.names.lookup p.1==some NameKind.local)&&
 (p.2 !=NameKind.free||(scope.names.lookup p.1==some NameKind.free&&(sc.names.lookup p.1==some NameKind.cell||sc.names.lookup p.1==some NameKind.free)))
section
variable{sc scope:Scope}
theorem aU.cell(h:aU sc scope=true){x:Str}(hy:(x,NameKind.cell)∈scope.names):scope.names.lookup x=some .cell:=by
 have q:=rJ.mp h _ hy;simpa using q
theorem aU.names(h:aU sc scope=true):∀y∈scope.names,y.2= .local->scope.names.lookup y.1=some .local:=fun y hy e=>by
 have q:=rJ.mp h y hy;simpa[e]using q
theorem aU.free(h:aU sc scope=true){x:Str}(hy:(x,NameKind.free)∈scope.names):scope.names.lookup x=some .free/\(sc.names.lookup x=some .cell\/sc.names.lookup x=some .free):=by
 have q:=rJ.mp h _ hy;simpa using q
end
theorem zE{scope:Scope}{env:Env}{x:Str}(h:(relabel scope env).names.lookup x=some .cell\/(relabel scope env).names.lookup x=some .free):(x,NameKind.free)∈scope.names\/(x,NameKind.cell)∈scope.names:=by
 cases e:scope.names.lookup x with
 |none=>
  have q:=uc (env:=env) e;rcases h with h|h
  ·rw[show(relabel scope env).names.lookup x=none from q]at h;cases h
  ·rw[show(relabel scope env).names.lookup x=none from q]at h;cases h
 |some k=>
  have q:=lW (env:=env) e;have m:=Cv e;by_cases hk:k= .free
  ·subst hk;exact .inl m
  ·have q':(relabel scope env).names.lookup x=some k:=by
    refine Eq.trans q ?_;have:(k==NameKind.free)=false:=by simpa using hk
    simp[this]
   rw[q']at h;rcases h with h|h
   ·cases h;exact .inr m
   ·cases h;exact absurd rfl hk
def bD(X:Cx)(scope:Scope)(N:List Str)(s:η)(H:Hp)(cl:List (Str×Addr))(C:Addr)(ex:List Addr):Cx:=
 {X with N:=N,s₀:=s,H₀:=H,env:=compEnvC scope cl C X.env,outer:=X.stack,ex:=ex,fn:=fun x=>scope.names.lookup x==some NameKind.cell,pn:=[],xe:=fun _ _=>False}
section
variable{X:Cx}{tg iter elt:Expr}{ifs:List Expr}{scope:Scope}{pos:Pos}{own caps:List Str}{ix:List Nat}{g:TG}{tc:TT}{te:TE}
noncomputable abbrev J0(X:Cx)(scope:Scope)(C:Addr):List (Str×Addr):=cellsFrom (C+1) scope.names (eZ X.env.cells scope.names [])
theorem xU{pins:L1}{s:η}{σ:St}{H:Hp}{C:Addr}(ck:aU X.env.scope scope=true)(I:Inv X pins σ H s){x:Str}{c:Addr}(e:(J0 X scope C).lookup x=some c):
  (X.env.cells.lookup x=some c/\(x,NameKind.free)∈scope.names)\/((x,NameKind.cell)∈scope.names/\C<c/\(x,c)∉eZ X.env.cells scope.names []):=by
 have old:(x,c)∈eZ X.env.cells scope.names []->X.env.cells.lookup x=some c/\(x,NameKind.free)∈scope.names:=fun q=>by
  rcases jQ q with q|⟨q,mm⟩
  ·cases q
  ·obtain⟨d,hd⟩:=I.ok.has x (aU.free ck mm).2;rw[hd]at q;have q:c=d:=q;rw[q];exact⟨hd,mm⟩
 rcases Ej _ _ _ (Cv e)with q|⟨q,m⟩
 ·exact .inl (old q)
 ·refine .inr ⟨q,m,fun z=> ?_⟩;have h1:=aU.cell ck q;have h2:=(aU.free ck (old z).2).1;rw[h1]at h2;cases h2
theorem Bp{pins:L1}{s s':η}{σ:St}{H:Hp}{fp:List Addr}{C:Addr}{m:L4}(ck:aU X.env.scope scope=true)(hkind:scope.kind= .function)(hcap:gA X scope caps ix)
  (I:Inv X pins σ H s)(f2:∀b∈fp,FpOk X pins H b)(hlt:∀b∈fp,b<s.heap.objs.size)(hC:s.heap.objs.size<=C)(hos:s'.os=s.os)(hg:AllBare s'.gens)(hk:∀b o,s.heap.get? b=some o->s'.heap.get? b=some o)(hn:s'.heap.Ns C m)(hcl:∀x c,(J0 X scope C).lookup x=some c->(x,c)∉eZ X.env.cells scope.names []->s'.heap.IsCell c none):
  Inv (bD X scope (own++caps) s H (J0 X scope C) C fp) [] (Aq own ix σ) H s':=by
 have cl1:=fun x c e=>xU (C:=C) (x:=x) (c:=c) ck I e;have GF:∀x c,X.env.cells.lookup x=some c->c<s.heap.objs.size:=fun x c e=>by
  obtain⟨v,o,ho,_⟩:=I.cell x c e;exact cR ho
 have cl2:∀x,(x,NameKind.free)∈scope.names\/(x,NameKind.cell)∈scope.names->∃c,(J0 X scope C).lookup x=some c:=fun x mm=>by
  rcases mm with mm|mm
  ·obtain⟨c,hc⟩:=uH (cells:=X.env.cells) (acc:=[]) mm;obtain⟨d,hd,_⟩:=Zu (xW scope.names (C+1) _ hc);exact⟨d,hd⟩
  ·obtain⟨c,hc⟩:=El scope.names (C+1) (eZ X.env.cells scope.names []) mm;obtain⟨d,hd,_⟩:=Zu hc;exact⟨d,hd⟩
 have inj:∀x y c,(J0 X scope C).lookup x=some c->(J0 X scope C).lookup y=some c->x=y:=fun x y c h1 h2=>by
  rcases cl1 x c h1 with⟨q1,_⟩|⟨q1,m1,_⟩<;>rcases cl1 y c h2 with⟨q2,_⟩|⟨q2,m2,_⟩
  ·exact I.ok.inj x y c q1 q2
  ·exact absurd (Kl (gC (GF x c q1) hC) m2) (uV _)
  ·exact absurd (Kl (gC (GF y c q2) hC) m1) (uV _)
  ·refine Ek (n0:=C+1) scope.names (C+1) _ (aN _) (fun x y c hx hy hc=> ?_) (fun x c hx=> ?_) x y c (Cv h1) (Cv h2) m1
   ·obtain⟨d,hd,_⟩:=Zu hx;rcases jQ hx with q|⟨q,mm⟩
    ·cases q
    ·obtain⟨d,hd⟩:=I.ok.has x (aU.free ck mm).2;rw[hd]at q;have q:c=d:=q;subst q;exact absurd (gC (gC (GF x c hd) hC) (cW hc)) (uV _)
   ·rcases jQ hx with q|⟨q,mm⟩
    ·cases q
    ·obtain⟨d,hd⟩:=I.ok.has x (aU.free ck mm).2;rw[hd]at q;have q:c=d:=q;subst q;exact qH (gC (GF x c hd) hC)
 have bsz:X.base.objs.size<=s.heap.objs.size:=dO I.ok.bsz I.sz;refine⟨⟨I.ok.mod,hkind,I.ok.glob,I.ok.blt,hC,inj,fun x hx=>cl2 x (zE hx),fun x c h e=> ?cab,I.ok.hd,I.ok.frames,.inl rfl,fun b hb=>⟨cQ (gC (hlt b hb) hC),fun x c e=> ?exf⟩,I.bs,bsz,
  fun b o e hb=> ?_,fun b hb hz=> ?_,I.stack,I.stkFree⟩,?_,hg,Un.kept hk,⟨m,hn,fun i x v h1 h2 h3=> ?_⟩,fun x c e=> ?_,I.hok.fresh hC,fun x c e=> ?frc,fun p hp=>absurd (show p∈([]:L1)from hp) (by simp),I.hok.kept hk,?_⟩
 case cab=>
  rcases cl1 x c e with⟨_,q⟩|⟨_,q,_⟩
  ·have y1:=(aU.free ck q).1;have y2:(scope.names.lookup x==some NameKind.cell)=true:=h;rw[y1]at y2;exact absurd y2 (by decide)
  ·exact dO hC (cW q)
 case exf=>
  rcases cl1 x c e with⟨q,_⟩|⟨_,q,_⟩
  ·exact(f2 b hb).2.2.2.2.1 x c q
  ·exact kO (cQ (Kl (gC (hlt b hb) hC) q))
 case frc=>
  rcases cl1 x c e with⟨q,_⟩|⟨_,q,_⟩
  ·exact I.freeC x c q
  ·exact I.hok.fresh (dO hC (cW q))
 ·rcases(f2 b hb).2.2.2.1 with z|z
  ·exact I.ok.noex b o e z
  ·exact absurd (gC (cR e) (dO I.ok.bsz z)) (uV _)
 ·rcases cF.mp (I.stkSub b hz)with z|z
  ·exact(f2 b hb).2.1 z
  ·exact(f2 b hb).2.2.1 z
 ·exact hos
 ·have h1:(own++caps)[i]? =some x:=h1;have h2:(own.map (fun _=>(none:Option V))++ix.map fun j=>(σ[j]?).join)[i]? =some (some v):=h2;by_cases hi:i<own.length
  ·rw[ZS (by simpa using hi),dD]at h2;cases e:own[i]? <;>rw[e]at h2<;>simp at h2
  ·rw[Yv (by simpa using hi)]at h2;rw[Yv (by omega)]at h1;rw[aJ]at h2;obtain⟨j,e1,e2,e3⟩:=hcap.get h1;rw[dD,e1]at h2;have h2':(σ[j]?).join=some v:=by simpa using h2
   have h4:σ[j]? =some (some v):=by
    cases q:σ[j]? with
    |none=>rw[q]at h2';cases h2'
    |some w=>rw[q]at h2';exact iD some h2'
   obtain⟨m0,hn0,hl0⟩:=I.loc;have mm:=Cv e3;have vis:=(aU.free ck mm).2;obtain⟨u,r,l⟩:=hl0 j x v e2 h4 (.inr vis);refine⟨u,r,.inr ?_⟩;rcases l with⟨k,_⟩|⟨k,c,e,z⟩
   ·rcases vis with q|q
    ·rw[show X.env.kindOf x=some .cell from q]at k;cases k
    ·rw[show X.env.kindOf x=some .free from q]at k;cases k
   ·obtain⟨d,hd⟩:=cl2 x (.inl mm);rcases cl1 x d hd with⟨this,_⟩|⟨qc,_⟩
    ·rw[e]at this;cases this;exact⟨Di e3,c,hd,z.keeps hk⟩
    ·have y1:=aU.cell ck qc;rw[e3]at y1;cases y1
 ·rcases cl1 x c e with⟨q,_⟩|⟨_,_,q⟩
  ·obtain⟨v,z⟩:=I.cell x c q;exact⟨v,z.keeps hk⟩
  ·exact⟨none,hcl x c e q⟩
 ·show(own.map (fun _=>(none:Option V))++ix.map fun j=>(σ[j]?).join).length=(own++caps).length;simp[hcap.len]
theorem uG(ck:aU X.env.scope scope=true)(hkind:scope.kind= .function)(hcap:gA X scope caps ix)(hc:X.calm=true)(hg:∀s H cl C ex,PG (bD X scope (own++caps) s H cl C ex) tg g)(ht:∀s H cl C ex,Vs (bD X scope (own++caps) s H cl C ex) ifs tc)(he:∀s H cl C ex,PE (bD X scope (own++caps) s H cl C ex) elt te){pins:L1}{s2:η}{σ:St}{H2:Hp}{E:L3}(I2:Inv X pins σ H2 s2){it:Addr}{fp:List Addr}{tn:Nat->Heap->Prop}{J:It}(T:Turn X.prog X.w X.K tg J fp it tn)(st2:tn 0 s2.heap)(f2:∀b∈fp,FpOk X pins H2 b)
  {W:Nat->Nat->List V->St->Hp->Prop}{m0:Nat}(w0:W 0 m0 [] (Aq own ix σ) H2){Fin:List V->Hp->Prop}(turn:∀i m acc σ H,W i m acc σ H->(J.stop i H/\acc.length<=sizeLine/\Fin acc H)\/(J.go i H/\acc.length<sizeLine/\∃N:List V->St->Hp->Prop,(∀acc' σ' H',N acc' σ' H'->∃m',m'<m/\W (i+1) m' acc' σ' H')/\∀x H',J.yld i H x H'->g x σ H' fun σ2 H2=>tc σ2 H2 fun b H3=>
   if b=true then te σ2 H3 fun v H4=>N (acc++[v]) σ2 H4 else N acc σ2 H3))
  {RR:ζ->Addr->Result->η->Prop}(hRR:∀D C s' acc Hf m,Inv X pins σ (upd Hf D (.lst acc)) s'->Hf D=none->s'.heap.Ns C m->FpOk X pins (upd Hf D (.lst acc)) C->Fin acc Hf->RR (.ref D) C (.ok .next) s'):
  wpAny (model X.prog X.w) X.A (newList []) (fun acc s₃=>wpAny (model X.prog X.w) X.A (newFunctionEnv scope X.env.globals (eZ X.env.cells scope.names []) [] X.env.qual none .none (some X.env)) (fun cenv s₄=>
   codeAny (model X.prog X.w) X.A (.compStart (.ListComp elt [⟨tg,iter,ifs,0⟩] scope pos) 0 (.ref it) acc {cenv with scope:=relabel scope X.env}) (RR acc cenv.locals) s₄) E s₃) E s2:=by
 refine wB (RV ?_);generalize hP:s2.heap.push {cls:= .type "list",dict:=none,data:= .seq ([]:List ζ).toArray}=P1;have hC:P1.objs.size=s2.heap.objs.size+1:=by rw[<-hP,Cq]
 have hlt:∀b∈fp,b<s2.heap.objs.size:=fun b hb=>by
  obtain⟨o,e,_⟩:=T.obj _ _ st2 b hb;exact cR e
 generalize hh1:pushCells (P1.push {cls:= .type "dict",data:= .dict #[]}) scope.names=h₁;have hns₁:h₁.Ns P1.objs.size (fun _=>none):=by rw[<-hh1];exact(Heap.Ns.new P1 (.type "dict")).keeps (weh _ _)
 have old:∀b o,s2.heap.get? b=some o->h₁.get? b=some o:=fun b o e=>by
  rw[<-hh1];exact weh _ _ b o (cV _ (hP▸cV _ e))
 have hD1:h₁.get? s2.heap.objs.size=some {cls:= .type "list",data:= .seq ([]:List ζ).toArray 0}:=by
  rw[<-hh1];exact weh _ _ _ _ (cV _ (hP▸gZ _ rfl))
 have aaW:∀x c,(J0 X scope P1.objs.size).lookup x=some c->(x,c)∉eZ X.env.cells scope.names []->h₁.IsCell c none:=fun x c e n=>by
  have e':(x,c)∈cellsFrom (P1.objs.size+1) scope.names (eZ X.env.cells scope.names []):=Cv e;rw[show P1.objs.size+1=(P1.push {cls:= .type "dict",data:= .dict #[]}).objs.size from(Cq ..).symm]at e';rcases xV _ _ _ e' with q|q
  ·exact absurd q n
  ·rw[<-hh1];exact q
 show codeAny (model X.prog X.w) X.A (.compStart (.ListComp elt [⟨tg,iter,ifs,0⟩] scope pos) 0 (.ref it) (.ref s2.heap.objs.size) {newEnv scope P1.objs.size X.env.globals (J0 X scope P1.objs.size) X.env.qual none Value.none (some X.env) 0 with scope:=relabel scope X.env}) (RR (.ref s2.heap.objs.size) P1.objs.size) {s2 with heap:=h₁};generalize S6:s2.heap.objs.size=D at *;rw[hC]at hns₁ aaW⊢;have entry:Inv (bD X scope (own++caps) s2 H2 (J0 X scope (D+1)) (D+1) fp) [] (Aq own ix σ) H2 {s2 with heap:=h₁}:=
  Bp ck hkind hcap I2 f2 (by rw[S6];exact hlt) (by rw[S6];exact Ft _) rfl I2.bare old hns₁ aaW
 generalize hX':bD X scope (own++caps) s2 H2 (J0 X scope (D+1)) (D+1) fp=X' at entry;have eP:X'.prog=X.prog:=by rw[<-hX'];rfl
 have ew:X'.w=X.w:=by rw[<-hX'];rfl
 have eK:X'.K=X.K:=by rw[<-hX'];rfl
 have eA:X'.A=X.A:=by rw[<-hX'];rfl
 have Vp:X'.calm=true:=by rw[<-hX'];exact hc
 have efs:X'.fs=frs X.stack:=by rw[<-hX'];rfl
 have eex:X'.ex=fp:=by rw[<-hX'];rfl
 have epn:X'.pn=[]:=by rw[<-hX'];rfl
 have es0:X'.s₀=s2:=by rw[<-hX'];rfl
 have eH0:X'.H₀=H2:=by rw[<-hX'];rfl
 have exe:X'.xe=fun _ _=>False:=by rw[<-hX'];rfl
 have Tt:X'.env=compEnvC scope (J0 X scope (D+1)) (D+1) X.env:=by rw[<-hX'];rfl
 have Pg:X'.env.locals=D+1:=by rw[Tt];rfl
 have hg':PG X' tg g:=by rw[<-hX'];exact hg _ _ _ _ _
 have ht':Vs X' ifs tc:=by rw[<-hX'];exact ht _ _ _ _ _
 have he':PE X' elt te:=by rw[<-hX'];exact he _ _ _ _ _
 have ecl:∀x c,X'.env.cells.lookup x=some c->c≠D:=fun x c e=>by
  rw[Tt]at e;rcases xU (C:=D+1) ck I2 e with⟨q,_⟩|⟨_,q,_⟩
  ·obtain⟨v',o',ho',_⟩:=I2.cell x c q;exact cQ (by rw[<-S6];exact cR ho')
  ·exact kO (cQ (Kl (sI D) q))
 have dfs:D∉frs X.stack:=fun hb=>by
  rcases cF.mp (I2.stkSub D hb)with z|z
  ·exact absurd (Nat.lt_of_lt_of_eq I2.lt S6) (by rw[z];exact uV _)
  ·exact I2.nofs (Fv S6) z
 have fpn:∀{H':Hp} {o:Obj},(∀b∈fp,H' b=none)->∀b∈fp,FpOk X' [(D,o)] H' b:=fun{H' o} hn b hb=>by
  have hbl:=hlt b hb;refine⟨hn b hb,by rw[Pg];exact cQ (qH hbl),?_,.inl (by rw[eex];exact hb),fun x c e=> ?_,fun p hp=> ?_⟩
  ·rw[efs];intro z;rcases cF.mp (I2.stkSub b z)with z|z
   ·exact(f2 b hb).2.1 z
   ·exact(f2 b hb).2.2.1 z
  ·rw[Tt]at e;rcases xU (C:=D+1) ck I2 e with⟨q,_⟩|⟨_,q,_⟩
   ·exact(f2 b hb).2.2.2.2.1 x c q
   ·exact kO (cQ (Kl (qH hbl) q))
  ·rw[epn]at hp;have:p=(D,o):=by simpa using hp
   rw[this];exact Cp hbl
 have Wt:∀{σ':St} {H':Hp} {s':η} {o:Obj},Inv X' [] σ' H' s'->s'.heap.get? D=some o->H' D=none->(∀v,o.data≠.cell v)->Inv X' [(D,o)] σ' H' s':=fun{σ' H' s' o} I e n d=>
  I.pins_of fun p hp=>by
   have:p=(D,o):=by simpa using hp
   subst this;exact⟨e,n,by rw[Pg];exact cQ (sI D),by rw[efs];exact dfs,d⟩
 have loop:∀s₃:η,s₃={s2 with heap:=h₁}->
   codeAny (model X.prog X.w) X.A (.compLoop (.ListComp elt [⟨tg,iter,ifs,0⟩] scope pos) 0 (.ref it) (.ref D) X'.env) (RR (.ref D) (D+1)) s₃:=by
  intro s₃ hs₃;refine codeAny_loop rfl (fun n s'=>∃i acc its k σ' H',Inv X' [] σ' H' s'/\tn i s'.heap/\(∀b∈fp,H' b=none)/\s'.heap.get? D=some {cls:= .type "list",data:= .seq (List.toArray its) k}/\Vals acc its/\H' D=none/\W i n acc σ' H') ?_ m0
   ⟨0,[],[],0,Aq own ix σ,H2,by rw[hs₃];exact entry,by rw[hs₃];exact T.keep _ _ _ st2 fun b _ o e=>old b o e,fun b hb=>(f2 b hb).1,by rw[hs₃];exact hD1,.nil,I2.hok.fresh (Fv S6),w0⟩
  rintro n s3 ⟨i,acc,its,k,σ3,H3,I3,st3,fr3,eD,rv,nD,w3⟩;show wpAny _ X.A ((compTurn (.ListComp elt [⟨tg,iter,ifs,0⟩] scope pos) 0 (.ref it) (.ref D) X'.env).onRaise (fun x=>do noteFrame x X'.env;theTreesLotGoes x)) _ _ s3;refine wpAny_noted ?_;rw[compTurn_list];have noE:∀{α:Type} {t:Sem α} {Q:α->η->Prop} {E':L3} {s:η},wpAny (model X'.prog X'.w) X'.A t Q X'.xe s->wpAny (model X.prog X.w) X.A t Q E' s:=fun{α t Q E' s} h=>by
   rw[eP,ew,eA,exe]at h;exact yC h (fun _ _ q=>q) fun _ _ z=>z.elim
  have I3':=Wt (o:={cls:= .type "list",data:= .seq (List.toArray its) k}) I3 eD nD (fun v z=>by
   have z':Data.seq (List.toArray its) k=Data.cell v:=z;cases z')
  refine ao (wpAny_standAt (ao ?_));rcases turn i n acc σ3 H3 w3 with⟨stop,hz,fin⟩|⟨go,hz,Nn,hN,step⟩
  ·have q:=T.done X' eP ew eK Vp i [(D,_)] s3 σ3 H3 (notedBy (model X.prog X.w) X.A X'.env fun e s'=>RR (.ref D) (D+1) (.error e) s') I3' (fpn fr3) st3 stop;rw[eA]at q;refine thn q fun r s4 ⟨hr,I4⟩=> ?_;subst hr;refine aK ?_;obtain⟨e4,_⟩:=I4.pin (D,_) (jr _ dY);obtain⟨mC,hnC,_⟩:=I4.loc;have u4:=I4.base;rw[efs,eex,eH0,es0]at u4;have ok4:=I4.hok;rw[eP,ew]at ok4;have nC:H3 (D+1)=none:=by have:=I4.free;rw[Pg]at this;exact this
   have hok:HOk X.prog X.w (upd H3 D (.lst acc)) s4.heap:=ok4.add nD ⟨hz,its,k,rv,e4⟩;refine hRR D (D+1) s4 acc H3 mC ?_ nD (by rw[Pg]at hnC;exact hnC) ?_ fin
   ·refine I2.call' (s':=s4) (ch:=fp) ?_ (u4.add (by rw[S6];exact aN _) nD) hok I4.bare fun b hb=> ?_
    ·have:=I4.os;rw[es0]at this;exact this
    ·obtain⟨f0,f1,f3,f4,f5,f6⟩:=f2 b hb;exact⟨f4,f1,f5,f6⟩
   ·refine I2.fpOk (by rw[S6];exact Ft _) ?_;rw[bU (Cp (sI D))];exact nC
  ·have q:=T.item X' eP ew eK Vp i [(D,_)] s3 σ3 H3 (notedBy (model X.prog X.w) X.A X'.env fun e s'=>RR (.ref D) (D+1) (.error e) s') I3' (fpn fr3) st3 go;rw[eA]at q;refine thn q fun r s4 ⟨u,hr,h4⟩=> ?_;subst hr;dsimp only;refine ao (thn h4 fun _ s5 ⟨x,H5,I5,r5,y5,st5,fr5⟩=> ?_);have I5':=I5.pinned (fpn fr5) (T.obj _ _ st5);have again:∀{σ7:St} {H7:Hp} {s7:η},Inv X' ([(D,{cls:= .type "list",data:= .seq (List.toArray its) k})]++pinsAt fp s5.heap) σ7 H7 s7->tn (i+1) s7.heap/\(∀b∈fp,H7 b=none)/\s7.heap.get? D=some {cls:= .type "list",data:= .seq (List.toArray its) k}/\H7 D=none:=fun{σ7 H7 s7} I7=>by
    refine⟨T.keep _ _ _ st5 fun b hb o e=>(I7.pin (b,o) (jr _ (jr _ (mem_pinsAt hb e)))).1,fun b hb=> ?_,?_⟩
    ·obtain⟨o,e,d⟩:=T.obj _ _ st5 b hb;exact(I7.pin (b,o) (jr _ (jr _ (mem_pinsAt hb e)))).2.1
    ·have:=I7.pin (D,_) (jr _ (Qs _ dY));exact⟨this.1,this.2.1⟩
   refine ao (thn (noE (hg' _ s5 σ3 H5 x u _ I5' r5 (step x H5 y5))) fun _ s6 ⟨σ6,H6,I6,q6⟩=> ?_);refine ao (thn (noE (ht' _ s6 σ6 H6 _ I6 q6)) fun ok s7 ⟨H7,I7,q7⟩=> ?_);cases ok with
   |false=>
    rw[aq rN]at q7;obtain⟨m',hm,w7⟩:=hN _ _ _ q7;obtain⟨a1,a2,a3,a4⟩:=again I7;exact aK ⟨rfl,m',hm,i+1,acc,its,k,σ6,H7,I7.pins_of (fun p hp=>nomatch hp),a1,a2,a3,rv,a4,w7⟩
   |true=>
    rw[aB rfl]at q7;refine ao (ao (thn (noE (he' _ s7 σ6 H7 _ I7 q7)) fun v s8 ⟨y,H8,I8,r8,q8⟩=> ?_));obtain⟨m',hm,w8⟩:=hN _ _ _ q8;obtain⟨a1,a2,a3,a4⟩:=again I8;have hl:=rv.length;refine ao (Qt F.slot_list_append ⟨_,a3,rfl⟩ F.entry_list_append (F.args_list_append_2 _ _) (PySem.list_append D its.toArray k v (by rw[fu];omega)) ⟨a3,?_⟩);refine aK (aK ⟨rfl,m',hm,i+1,acc++[y],its++[v],?_⟩);have qD:=PySem.IsL.update a3 (fun a:Array ζ=>a.push v);rw[List.push_toArray]at qD;have kp:∀b o,b≠D->s8.heap.get? b=some o->(s8.heap.update D (Obj.mapSeq fun a=>a.push v)).get? b=some o:=fun b o hb e=>(ZQ s8.heap _ (kO hb)).trans e;have I8':Inv X' [] σ6 H8 {s8 with heap:=s8.heap.update D (Obj.mapSeq fun a=>a.push v)}:=by
     refine(I8.pins_of (pins':=[]) (fun p hp=>nomatch hp)).turned (t':=s8.toks) (it:=D) kp a4 (by rw[Pg];exact cQ (sI D)) (.inr (by rw[es0,S6];exact aN _)) (fun x c e=>ecl x c e) (fun p hp=> ?_);rw[epn]at hp;exact nomatch hp
    exact⟨_,σ6,H8,I8',T.keep _ _ _ a1 fun b hb o e=>kp b o (cQ (hlt b hb)) e,a2,qD,rv.append (.cons r8 .nil),a4,w8⟩
 have abg:({newEnv scope (D+1) X.env.globals (J0 X scope (D+1)) X.env.qual none Value.none (some X.env) 0 with scope:=relabel scope X.env}:Env)=X'.env:=by rw[Tt];rfl
 have L:=loop _ rfl;rw[<-abg]at L;exact codeAny_compStart_list L (T.self X.A 0 _ _ _ (T.keep _ _ _ st2 fun b _ o e=>old b o e) L)
end
section
variable{X:Cx}{tg iter elt:Expr}{ifs:List Expr}{scope:Scope}{pos:Pos}{own caps:List Str}{ix:List Nat}{wi:TI}{g:TG}{tc:TT}{te:TE}
theorem Mi(hc:X.calm=true)(hi:PI X tg iter wi)(ck:aU X.env.scope scope=true)(hkind:scope.kind= .function)(hcap:gA X scope caps ix)(hg:∀s H cl C ex,PG (bD X scope (own++caps) s H cl C ex) tg g)(ht:∀s H cl C ex,Vs (bD X scope (own++caps) s H cl C ex) ifs tc)(he:∀s H cl C ex,PE (bD X scope (own++caps) s H cl C ex) elt te)(hs:∀x,foldedSetIterable iter X.env x=pure x:=by intro _;rfl):PE X (.ListComp elt [⟨tg,iter,ifs,0⟩] scope pos) (Gb wi own ix g tc te):=by
 intro pins s σ H Q I h;rw[eval_ListComp];refine wpAny_comprehension_free (use:=none) rfl hs (mJ fun x hx=>I.ok.has x ((aU.free ck hx).2)) hkind (aU.names ck) (thn (hi pins s σ H _ I h) fun xv s1 h1=>thn h1 fun itv s2 h2=> ?_);obtain⟨it,fp,tn,J,H2,e,I2,T,st2,f2,W,⟨m0,w0⟩,turn⟩:=h2;subst e;refine uG (RR:=fun acc C=>compPost (model X.prog X.w) X.A X.xe none (EP X pins σ Q) acc C) ck hkind hcap hc hg ht he I2 T st2 f2 w0 turn ?_;intro D C s' acc Hf m I' nD hn fC fin;refine⟨m,hn,fun h' sb=> ?_⟩;obtain⟨f0,f1,f3,f4,f5,f6⟩:=fC;exact⟨.ref D,_,I'.turned (t':=s'.toks) (it:=C) (fun b o hb e=>(sb.2 b hb).trans e) f0 f1 f4 f5 f6,rfl,fin D nD⟩
theorem pK{X:Cx}{tg iter elt:Expr}{ifs:List Expr}{scope:Scope}{pos:Pos}{wi:TI}{g:TG}{tc:TT}{te:TE}(own caps:List Str)(ix:List Nat)(hi:PI X tg iter wi)(hg:∀{s H cl C ex},PG (bD X scope (own++caps) s H cl C ex) tg g)(ht:∀{s H cl C ex},Vs (bD X scope (own++caps) s H cl C ex) ifs tc)(he:∀{s H cl C ex},PE (bD X scope (own++caps) s H cl C ex) elt te)(hcap:gA X scope caps ix:=by repeat(first |exact gA.nil|refine gA.cons rfl rfl ?_))(hc:X.calm=true:=by rfl)(ck:aU X.env.scope scope=true:=by rfl)(hkind:scope.kind= .function:=by rfl)(hs:∀x,foldedSetIterable iter X.env x=pure x:=by intro _;rfl):PE X (.ListComp elt [⟨tg,iter,ifs,0⟩] scope pos) (Gb wi own ix g tc te):=Mi hc hi ck hkind hcap (fun _ _ _ _ _=>hg) (fun _ _ _ _ _=>ht) (fun _ _ _ _ _=>he) hs
theorem zF{i:Nat}{y:Str}{py spos:Pos}(hN:X.N.Nodup)(hiN:X.N[i]? =some y)(hx:Loc X.env.scope y)(hc:X.calm=true)(hi:PI X tg iter wi)(ck:aU X.env.scope scope=true)(hkind:scope.kind= .function)(hcap:gA X scope caps ix)(hg:∀s H cl C ex,PG (bD X scope (own++caps) s H cl C ex) tg g)(ht:∀s H cl C ex,Vs (bD X scope (own++caps) s H cl C ex) ifs tc)(he:∀s H cl C ex,PE (bD X scope (own++caps) s H cl C ex) elt te)(hsw:swapsWith (.ListComp elt [⟨tg,iter,ifs,0⟩] scope pos) (some (.Name y py)) spos.line X.env=pure true:=by rfl)(hf:X.fn y=true\/X.env.scope.names.lookup y=some .local:=by first |exact .inl rfl|exact .inr rfl|assumption)(hs:∀x,foldedSetIterable iter X.env x=pure x:=by intro _;rfl):PS X (.Assign [.Name y py] (.ListComp elt [⟨tg,iter,ifs,0⟩] scope pos) spos) (tAsg (Gb wi own ix g tc te) (gName i)):=by
 intro pins s σ H Dn I h;rw[exec_Assign_Name_used _ _ _ _ hsw];refine ao (wpAny_standAt (ao ?_));show wpAny _ X.A (do let _<-comprehension (.ListComp elt [⟨tg,iter,ifs,0⟩] scope pos) scope X.env _ (newList []) false (eval iter X.env) (some (assign (.Name y py) X.env))) _ _ s;refine ao (yC (wpAny_comprehension_free (use:=some (assign (.Name y py) X.env)) (Q:=fun _ s'=>SP X pins Dn .next s') rfl hs (mJ fun x hx=>I.ok.has x ((aU.free ck hx).2)) hkind (aU.names ck)
  (thn (hi pins s σ H _ I h) fun xv s1 h1=>thn h1 fun itv s2 h2=> ?_)) (fun _ s' hq=>aK (aK hq)) fun _ _ e=>e)
 obtain⟨it,fp,tn,J,H2,e,I2,T,st2,f2,W,⟨m0,w0⟩,turn⟩:=h2;subst e;refine uG (RR:=fun acc C=>compPost (model X.prog X.w) X.A X.xe (some (assign (.Name y py) X.env)) (fun _ s'=>SP X pins Dn .next s') acc C) ck hkind hcap hc hg ht he I2 T st2 f2 w0 turn ?_;intro D C s' acc Hf m I' nD hn fC fin;obtain⟨f0,f1,f3,f4,f5,f6⟩:=fC;show wpAny _ X.A (assign (.Name y py) X.env (.ref D)) _ _ _;refine wpAny_assign_Name (store_ok2 I' hN hiN hx (show RelV (.ref D) (.ref D)from rfl) (fun s'' I'' ⟨a,sb,ha⟩=> ?_) hf);have hCa:C≠a:=by
  rcases ha with ha|ha
  ·rw[ha];exact f1
  ·exact fun z=>f5 y a ha z.symm
 refine⟨m,hn.sameBut sb hCa,fun h' sb'=> ?_⟩;exact⟨_,_,I''.turned (t':=s''.toks) (it:=C) (fun b o hb e=>(sb'.2 b hb).trans e) f0 f1 f4 f5 f6,fin D nD⟩
theorem pX{X:Cx}{tg iter elt:Expr}{ifs:List Expr}{scope:Scope}{pos:Pos}{wi:TI}{g:TG}{tc:TT}{te:TE}{y:Str}{py spos:Pos}(i:Nat)(own caps:List Str)(ix:List Nat)(hi:PI X tg iter wi)(hg:∀{s H cl C ex},PG (bD X scope (own++caps) s H cl C ex) tg g)(ht:∀{s H cl C ex},Vs (bD X scope (own++caps) s H cl C ex) ifs tc)(he:∀{s H cl C ex},PE (bD X scope (own++caps) s H cl C ex) elt te)(hcap:gA X scope caps ix:=by repeat(first |exact gA.nil|refine gA.cons rfl rfl ?_))(hc:X.calm=true:=by rfl)(ck:aU X.env.scope scope=true:=by rfl)(hkind:scope.kind= .function:=by rfl)(hN:decide X.N.Nodup=true:=by kernel_rfl)(hi_:X.N[i]? =some y:=by rfl)(hx:Loc X.env.scope y:=by first |exact Or.inl rfl|exact Or.inr rfl)(hsw:swapsWith (.ListComp elt [⟨tg,iter,ifs,0⟩] scope pos) (some (.Name y py)) spos.line X.env=pure true:=by rfl)(hf:X.fn y=true\/X.env.scope.names.lookup y=some .local:=by first |exact .inl rfl|exact .inr rfl|assumption)(hs:∀x,foldedSetIterable iter X.env x=pure x:=by intro _;rfl):PS X (.Assign [.Name y py] (.ListComp elt [⟨tg,iter,ifs,0⟩] scope pos) spos) (tAsg (Gb wi own ix g tc te) (gName i)):=zF (sS hN) hi_ hx hc hi ck hkind hcap (fun _ _ _ _ _=>hg) (fun _ _ _ _ _=>ht) (fun _ _ _ _ _=>he) hsw hf hs
end
end L2
namespace qR
open PySem PySem.W PyProof.Rows PySem.Calls
section
variable{prog:ρ}{w:υ}{A:χ}{E:L3}{s:η}{O:KeyOrd}{key:Nat->O.α}{κ:SortKind}{vs:List ζ}
theorem Bq{t:Addr}{Q:List ζ->η->Prop}(ht:s.heap.IsTuple t vs.toArray)(h:Q vs {s with heap:=(s.heap.push (seqObj "list" #[] 0)).update s.heap.objs.size (Obj.mapSeq (· ++vs.toArray))})(hz:vs.length<=sizeLine):
  wpAny (model prog w) A (collect (.ref t)) Q E s:=by
 obtain⟨o,ho,hc,n,hd⟩:=id ht;unfold collect;refine ao (wdo (Cr entry_proto_collect' ?_));show wpAny _ _ (do again (.builtin "list.__iadd__" ⟨[<-newList [],.ref t],[]⟩)) _ _ s;refine ao (V0 (aK ⟨wcj _ (by decide+kernel),Cr entry_list_iadd' ?_⟩));show wpAny _ _ (Builtin.List.listExtendWith (.ref s.heap.objs.size) (.ref t) (.ref s.heap.objs.size)) _ _ {s with heap:=s.heap.push (seqObj "list" #[] 0)};unfold Builtin.List.listExtendWith;have h1:(s.heap.push (seqObj "list" #[] 0)).get? t=some o:=cV _ ho;have h2:(Value.type "tuple"==Value.type "tuple")=true:=by rfl
 refine ao (Um (T:="tuple") ⟨o,h1,hc⟩ ?_);rw[aB (by rw[h2];simp)];refine ao (listItems_at h1 hd (ao (listItems_at (xs:=#[]) (n:=0) (gZ _ rfl) rfl ?_)));rw[aq (by simp)];refine ao (wft (xs:=#[]) (n:=0) (gZ _ rfl) rfl (aK ?_) (dB _) (by show(#[]++vs.toArray).size<=sizeLine+1;simp only[Array.size_append,fu,QM];omega));show wpAny (model prog w) A (load s.heap.objs.size>>=_) Q E {s with heap:=(s.heap.push (seqObj "list" #[] 0)).update s.heap.objs.size (Obj.mapSeq (· ++vs.toArray))};refine ao (Z8 (V1 (gZ _ rfl) _) ?_);show wpAny _ _ (pure ((#[]:Array ζ)++vs.toArray).toList) Q E _;have e:((#[]:Array ζ)++vs.toArray).toList=vs:=by simp
 rw[e];exact aK h
theorem CV{l:Addr}{Q:L3}(hl:s.heap.IsTuple l vs.toArray)(h64:vs.length<64)(hkind:2<=vs.length->∀h',(∀b o,s.heap.get? b=some o->h'.get? b=some o)->∀(E:L3) (Q:SortKind->η->Prop),Q κ {s with heap:=h'}->wpAny (model prog w) A.in1.in1 (keyKind' vs.toArray) Q E {s with heap:=h'})(Oa:2<=vs.length->∀h',(∀b o,s.heap.get? b=some o->h'.get? b=some o)->jf O key vs.length (kas_ask prog w A.in1.in1 κ vs) {s with heap:=h'})(h:∀D h' out c,JM key vs out->s.heap.objs.size<=D->(∀b o,s.heap.get? b=some o->h'.get? b=some o)->h'.get? D=some (seqObj "list" (List.toArray out) c)->Q (.ref D) {s with heap:=h'}):
  wpAny (model prog w) A (call (.builtin "sorted") [.ref l]) Q E s:=by
 refine wcs kind_sorted plain_sorted entry_sorted (args_sorted1 _) ?_;unfold Builtin.«sorted»;refine ao (m:=checkCount "sorted" 1 1 _) (aK (ao (Bq hl (ao (V0 ?_ (by rw[eE];omega))) (by rw[eE];omega))));have hsz:((s.heap.push (seqObj "list" #[] 0)).update s.heap.objs.size (Obj.mapSeq (· ++vs.toArray))).objs.size=s.heap.objs.size+1:=by
  rw[Heap.size_update,size_push']
 have hoL:(((s.heap.push (seqObj "list" #[] 0)).update s.heap.objs.size (Obj.mapSeq (· ++vs.toArray))).push (seqObj "list" vs.toArray 0)).get? (s.heap.objs.size+1)=some (seqObj "list" vs.toArray 0):=by
  rw[<-hsz];exact gZ _ rfl
 have keep:∀b o,s.heap.get? b=some o->(((s.heap.push (seqObj "list" #[] 0)).update s.heap.objs.size (Obj.mapSeq (· ++vs.toArray))).push (seqObj "list" vs.toArray 0)).get? b=some o:=fun b o q=>by
  have hlt:b<s.heap.objs.size:=cR q;rw[wdk _ _ _ (by rw[hsz];exact cQ (qH hlt)),Heap.get?_update_ne _ _ _ _ (cQ hlt),wdk _ _ _ (cQ hlt)];exact q
 have ne:∀b o,s.heap.get? b=some o->b≠s.heap.objs.size+1:=fun b o q=>cQ (qH (cR q));show wpAny _ _ _ _ _ {s with heap:=((s.heap.push (seqObj "list" #[] 0)).update s.heap.objs.size (Obj.mapSeq (· ++vs.toArray))).push (seqObj "list" vs.toArray 0)};rw[hsz];refine ao (uX (HW slot_list_sort ⟨_,hoL,rfl⟩ entry_list_sort ?body (args_list_sort _)))
 case body=>
  refine gY (key:=key) (κ:=κ) (s:={s with heap:=((s.heap.push (seqObj "list" #[] 0)).update s.heap.objs.size (Obj.mapSeq (· ++vs.toArray))).push (seqObj "list" vs.toArray 0)}) hoL h64
   (fun h2 h' k Q hq=>hkind h2 h' (fun b o q=>k b o (ne b o q) (keep b o q)) _ Q hq) (fun h2 h' k=>Oa h2 h' fun b o q=>k b o (ne b o q) (keep b o q)) fun h' out c ho k hc=> ?_
  exact⟨_,rfl,aK ⟨_,rfl,h _ h' out c ho (Ft _) (fun b o q=>k b o (ne b o q) (keep b o q)) hc⟩⟩
end
end qR
namespace L2
open PySem PySem.Spec PyProof.Rows
section
variable{X:Cx}
theorem ju:∀{xs:List Int} {us:List ζ},Vals (xs.map V.int) us->Paired (fun(i:Int) (v:ζ)=>∃t,v= .int i t) xs us
 |[],_,h=>by cases h;exact .nil
 |_::_,_,h=>by
  cases h with
  |cons r t=>exact .cons r (ju t)
theorem jJ:∀{xs:List Int} {us:List ζ},Paired (fun(i:Int) (v:ζ)=>∃t,v= .int i t) xs us->Vals (xs.map V.int) us
 |_,_,.nil=> .nil
 |_,_,.cons r t=> .cons r (jJ t)
theorem rZ{xs:List Int}{us:List ζ}(h:Paired (fun(i:Int) (v:ζ)=>∃t,v= .int i t) xs us):∀i (hi:i<xs.length),∃t,us.getD i Value.none= .int xs[i] t:=by
 induction h with
 |nil=>intro i hi;simp at hi
 |cons r t ih=>
  intro i hi;cases i with
  |zero=>exact r
  |succ i=>simpa using ih i (by simpa using hi)
theorem xX:CallR X (.builtin "sorted") (fun vs H Q=>∃(b:Bool) (a:Addr) (xs:List Int),vs=[.ref a]/\TY X.K b H a (xs.map V.int)/\xs.length<64/\
  ∀(l:Addr) (ys:List Int),H l=none->ys.Perm xs->ys.Pairwise (· <= ·)->Q (.ref l) (upd H l (.lst (ys.map V.int)))):=by
 intro pins s σ H xs us Q I r h;obtain⟨b,a,ns,rfl,hS,h64,q⟩:=h;obtain⟨u,rfl,ru⟩:=r.one;cases ru;have main:∀vs:List ζ,Vals (ns.map V.int) vs->(b=false/\s.heap.IsList a vs.toArray\/b=true/\s.heap.IsTuple a vs.toArray)->wpAny (model X.prog X.w) X.A (call (.builtin "sorted") [.ref a]) (EP X pins σ Q) X.xe s:=by
  intro vs rv hb;have hlen:ns.length=vs.length:=by have:=rv.length;simpa using this
  have pr:=ju rv;have hi:IntsAre vs ns:=intsAre_of rv;have p1:2<=vs.length->∀h',(∀b o,s.heap.get? b=some o->h'.get? b=some o)->∀(E:L3) (Q:SortKind->η->Prop),Q oneType' {s with heap:=h'}->wpAny (model X.prog X.w) X.A.in1.in1 (keyKind' vs.toArray) Q E {s with heap:=h'}:=fun h2 h' k E' Q' hq=>by
   rw[ksk_kind (kz:=ns) (by simpa using hi) (by simpa using h2)];exact aK hq
  have p2:2<=vs.length->∀h',(∀b o,s.heap.get? b=some o->h'.get? b=some o)->qR.jf qR.ux (fun i=>ns.getD i 0) vs.length (PySem.W.kas_ask X.prog X.w X.A.in1.in1 oneType' vs) {s with heap:=h'}:=fun h2 h' k=>by
   intro i j C hi hj hC;rw[<-hlen]at hi hj;unfold PySem.W.kas_ask;obtain⟨t1,e1⟩:=rZ pr i hi;obtain⟨t2,e2⟩:=rZ pr j hj;rw[e1,e2];refine PySem.W.kat_lt_int ?_;have hC':C (decide (ns.getD i 0<ns.getD j 0)) {s with heap:=h'}:=hC;have e3:ns.getD i 0=ns[i]:=by simp[hi]
   have e4:ns.getD j 0=ns[j]:=by simp[hj]
   rw[e3,e4]at hC';exact hC'
  have p3:∀D h' out c,qR.JM (O:=qR.ux) (fun i=>ns.getD i 0) vs out->s.heap.objs.size<=D->(∀b o,s.heap.get? b=some o->h'.get? b=some o)->h'.get? D=some (seqObj "list" (List.toArray out) c)->EP X pins σ Q (.ref D) {s with heap:=h'}:=fun D h' out c ho hD k hc=>by
   obtain⟨ys,hp,hr,hw⟩:=qR.wQ (d:=(0:Int)) (f:=fun p=>p) pr (fun i hi=>by show ns.getD i 0=_;simp[hi]) ho;have zl:(ys.map V.int).length<=sizeLine:=by
    have:=hp.length_eq;rw[aJ];exact cW (small1000 (by omega))
   have J:Inv X pins σ (upd H D (.lst (ys.map V.int))) {s with heap:=h',toks:=s.toks}:=I.laid k hD ⟨zl,out,c,jJ hr,hc⟩;refine⟨.ref D,_,J,rfl,q D ys (I.hok.fresh hD) hp (hw.imp fun{x y} hxy=> ?_)⟩;have:decide (y<x)=false:=hxy;have:=V4 this;omega
  rcases hb with⟨_,hb⟩|⟨_,hb⟩
  ·exact qR.tE (O:=qR.ux) (key:=fun i=>ns.getD i 0) (κ:=oneType') hb (by omega) p1 p2 p3
  ·exact qR.CV (O:=qR.ux) (key:=fun i=>ns.getD i 0) (κ:=oneType') hb (by omega) p1 p2 p3
 cases b with
 |false=>
  obtain⟨vs,rv,pl,hz⟩:=I.list (show SqL X.K H a (ns.map V.int)from hS);exact main vs rv (.inl ⟨rfl,pl.isList⟩)
 |true=>
  obtain⟨vs,rv,pl,hz⟩:=I.tuple (show SqT X.K H a (ns.map V.int)from hS);exact main vs rv (.inr ⟨rfl,pl⟩)
end
end L2
namespace L2
open PySem PySem.W PySem.Spec PyProof.Rows
section
variable{X:Cx}
theorem xY:CallR X (.builtin "sorted") (fun xs H Q=>∃(a:Addr) (its:List (Addr×List Int)),xs=[.ref a]/\SqL X.K H a (its.map fun p=>V.ref p.1)/\(∀p∈its,SqT X.K H p.1 (p.2.map V.int)/\(2<=its.length->p.2≠[]))/\its.length<64/\
  ∀(l:Addr) (its':List (Addr×List Int)),H l=none->its'.Perm its->its'.Pairwise (fun p q=>HT.lexLt q.2 p.2=false)->Q (.ref l) (upd H l (.lst (its'.map fun p=>V.ref p.1)))):=by
 intro pins s σ H xs us Q I r h;obtain⟨a,its,rfl,hS,hT,h64,q⟩:=h;obtain⟨u,rfl,ru⟩:=r.one;cases ru;obtain⟨vs,rv,pl,hz⟩:=I.list hS;have hlen:its.length=vs.length:=by have:=rv.length;simpa using this
 -- the values beside the tuples
 have pr:Paired (fun(p:Addr×List Int) (v:ζ)=>v= .ref p.1) its vs:=by
  have go:∀(l:List (Addr×List Int)) (us:List ζ),Vals (l.map fun p=>V.ref p.1) us->Paired (fun(p:Addr×List Int) (v:ζ)=>v= .ref p.1) l us:=by
   intro l
   induction l with
   |nil=>intro us h;cases h;exact .nil
   |cons p l ih=>
    intro us h;cases h with
    |cons r t=>exact .cons r (ih _ t)
  exact go its vs rv
 have tup:∀p∈its,∃(items:List ζ),IntsAre items p.2/\IsTup s.heap p.1 items.toArray:=fun p hp=>by
  obtain⟨its',r',t',_⟩:=I.tuple (hT p hp).1;exact⟨its',intsAre_of r',t'⟩
 refine qR.tE (O:=qR.lexOrd) (key:=fun i=>(its.getD i (0,[])).2) (κ:=tuples' true) (s:=s) pl.isList (by omega) (fun h2 h' k E' Q' hq=> ?_) (fun h2 h' k=> ?_) (fun D h' out c ho hD k hc=> ?_)
 ·have kt:∀(l:List (Addr×List Int)) (us:List ζ),Paired (fun(p:Addr×List Int) (v:ζ)=>v= .ref p.1) l us->(∀p∈l,p∈its)->∃fs:List ζ,KatTups h' us fs/\fs.length=us.length/\∀v∈fs,∃i t,v=Value.int i t:=by
   intro l us h
   induction h with
   |nil=>intro _;exact⟨[],trivial,rfl,fun _ hv=>nomatch hv⟩
   | @cons p v l us r t ih=>
    intro hs;obtain⟨fs,k1,k2,k3⟩:=ih fun p hp=>hs p (dZ _ hp);obtain⟨items,hi,o,e,hc,n,hd⟩:=tup p (hs p dY);have hne:=(hT p (hs p dY)).2 (by omega);obtain⟨pa,pn⟩:=p;dsimp only at hi hne e r;cases hi with
    |nil=>exact absurd rfl hne
    |cons i t hi'=>
     rw[r];refine⟨Value.int i t::fs,KatTups.cons (k _ _ e) hc hd (by simp) k1,by simp[k2],fun v hv=> ?_⟩;rcases cF.mp hv with e|e
     ·exact⟨i,t,e⟩
     ·exact k3 v e
  obtain⟨fs,k1,k2,k3⟩:=kt its vs pr fun _ hp=>hp;refine kat_kind (s:={s with heap:=h'}) (T:= .type "int") k1 (by omega) (fun v hv=> ?_) (by rfl) hq;obtain⟨i,t,rfl⟩:=k3 v hv;exact fun A Q E s _ q=>aK q
 ·intro i j C hi hj hC;rw[<-hlen]at hi hj;have get:∀i (hi:i<its.length),vs.getD i Value.none= .ref its[i].1:=by
   have go:∀(l:List (Addr×List Int)) (us:List ζ),Paired (fun(p:Addr×List Int) (v:ζ)=>v= .ref p.1) l us->∀i (hi:i<l.length),us.getD i Value.none= .ref l[i].1:=by
    intro l us h
    induction h with
    |nil=>intro i hi;simp at hi
    |cons r t ih=>
     intro i hi;cases i with
     |zero=>exact r
     |succ i=>simpa using ih i (by simpa using hi)
   exact go its vs pr
  unfold kas_ask;rw[get i hi,get j hj];obtain⟨xi,hxi,oi,ei,ci,ni,di⟩:=tup its[i] (Ko _);obtain⟨xj,hxj,oj,ej,cj,nj,dj⟩:=tup its[j] (Ko _);refine kat_lt (s:={s with heap:=h'}) (k _ _ ei) di (k _ _ ej) dj ?_;refine qR.Nk 0 hxi hxj ?_ ?_
  ·have:=hxi.length;have:=hxj.length;simp only[fu];omega
  ·rw[HT.dU];have e1:its.getD i (0,[])=its[i]:=by simp[hi]
   have e2:its.getD j (0,[])=its[j]:=by simp[hj]
   have hC':C (decide ((its.getD i (0,[])).2<(its.getD j (0,[])).2)) {s with heap:=h'}:=hC;rw[e1,e2]at hC';exact hC'
 ·obtain⟨its',hp,hr,hw⟩:=qR.wQ (d:=((0,[]):Addr×List Int)) (f:=fun p=>p.2) pr (fun i hi=>by show(its.getD i (0,[])).2=_;simp[hi]) ho;have hn:H D=none:=I.hok.fresh hD;have rv':Vals (its'.map fun p=>V.ref p.1) out:=by
   have go:∀(l:List (Addr×List Int)) (us:List ζ),Paired (fun(p:Addr×List Int) (v:ζ)=>v= .ref p.1) l us->Vals (l.map fun p=>V.ref p.1) us:=by
    intro l us h
    induction h with
    |nil=>exact .nil
    |cons r t ih=>exact .cons r ih
   exact go its' out hr
  have zl:(its'.map fun p=>V.ref p.1).length<=sizeLine:=by
   have:=hp.length_eq;rw[aJ];exact cW (small1000 (by omega))
  have J:Inv X pins σ (upd H D (.lst (its'.map fun p=>V.ref p.1))) {s with heap:=h',toks:=s.toks}:=I.laid k hD ⟨zl,out,c,rv',hc⟩;refine⟨.ref D,_,J,rfl,q D its' hn hp (hw.imp fun{x y} hxy=> ?_)⟩;rw[HT.dU];exact hxy
theorem Ir(K:W.Frag){a:Expr}{ta:TE}(ha:PE X a ta)(he:∀whole,isTrue a X.env whole=(do let v<-whole;standAt a.pos;holding [v] (truthy v)))(h:X.K=K:=by rfl):
  PT X a (fun σ H Q=>ta σ H fun x H'=>∃k,TruV K x H' k/\Q k H'):=by subst h;exact pt_truth ha he
end
end L2
namespace L2
open PySem PySem.Spec PyProof.Rows
def ql(a C:Addr):HO:= .ext fun h=>∃o vs,h.get? a=some o/\o.cls= .ref C/\o.data= .fields vs
theorem ObjOk.any{P:ρ}{w:υ}{H:Hp}{h:Heap}{a:Addr}{o:HO}(x:ObjOk P w H h a o):∃u,h.get? a=some u:=by
 cases o with
 |lst xs=>obtain⟨_,_,_,_,e⟩:=x;exact⟨_,e⟩
 |tup xs=>obtain⟨_,_,_,ob,e,_⟩:=x;exact⟨_,e⟩
 |dK kvs=>obtain⟨_,_,_,_,o,_,_,e,_⟩:=x;exact⟨_,e⟩
 |dT kvs=>obtain⟨_,_,_,_,o,_,_,e,_⟩:=x;exact⟨_,e⟩
 |set S n=>obtain⟨o,_,_,_,e,_⟩:=x;exact⟨_,e⟩
 |ins C dx fs=>obtain⟨_,_,_,e,_⟩:=x;exact⟨_,e⟩
 |own y=>exact x
 |xd fs=>obtain⟨_,⟨_,_,_,e,_⟩,_⟩:=x;exact⟨_,e⟩
 |rng lo hi=>obtain⟨_,_,_,e⟩:=x;exact⟨_,e⟩
 |frz ob u=>obtain⟨e,_⟩:=x;exact⟨_,e⟩
 |tbl ps=>exact⟨_,x⟩
 |met f y=>exact⟨_,x⟩
 |ext φ=>exact x.2.1
theorem HOk.none{P:ρ}{w:υ}{H:Hp}{h:Heap}{a:Addr}(x:HOk P w H h)(e:h.get? a=none):H a=none:=by
 cases q:H a with
 |none=>rfl
 |some u=>
  obtain⟨o,z⟩:=(x a u q).any;rw[e]at z;cases z
structure UnB(fs:List Addr)(H H':Hp)(h B:Heap):Prop where
 keep:∀b o,h.get? b=some o->H b=none->b∉fs->B.get? b=some o
 free:∀b o,h.get? b=some o->H b=none->H' b=none
 there:∀b o,h.get? b=some o->b∉fs->∃o',B.get? b=some o'
 tups:∀b xs,H b=some (.tup xs)->H' b=some (.tup xs)
 frzs:∀b o u,H b=some (.frz o u)->H' b=some (.frz o u)
 tbls:∀b ps,H b=some (.tbl ps)->∃more,H' b=some (.tbl (ps++more))
structure Flew(P:ρ)(w:υ)(outer:List Env)(H:Hp)(s:η)(e C:Addr)(H':Hp)(B:Heap)(s':η):Prop where
 os:s'.os=s.os
 bare:AllBare s'.gens
 fly:∃a0,Heap.FlyingW B outer e (.ref C) a0 s'.heap
 un:UnB (frs outer) H H' s.heap B
 hok:HOk P w H' B
 sl:∀b∈frs outer,∀o,s.heap.get? b=some o->∃sl,s'.heap.get? b=some {o with slots:=sl}
 new:s.heap.get? e=none
 he:H' e=none
def sG(P:ρ)(w:υ):CXT:=fun outer H s E v s'=>∃e C H' B,v= .ref e/\Flew P w outer H s e C H' B s'/\E v (some C) (upd H' e (ql e C))
theorem Bc{env:Env}{outer:List Env}{L:Addr}(h:env.frame=some L):frs (env::outer)=L::frs outer:=by
 unfold frs;rw[Ud,h]
section
variable{P:ρ}{w:υ}{K:W.Frag}{mg:L4}{base:Heap}{N:List Str}{qual:Str}{scope:Scope}{f:Addr}{cd:ζ}{A:χ}{outer:List Env}{s:η}{H:Hp}{E:XK}
theorem aaw:Passes (sG P w) (cxOf (sG P w) P w K mg base N qual scope f cd A outer s H E) E:=by
 intro pins σ H1 s1 v s' I h;obtain⟨e,C,H',B,rfl,F,hE⟩:=h;obtain⟨a0,fl⟩:=F.fly;have fc:frs ((envOfC qual scope s.heap.objs.size f cd)::outer)=s.heap.objs.size::frs outer:=Bc rfl;have hs:frs (cxOf (sG P w) P w K mg base N qual scope f cd A outer s H E).stack=s.heap.objs.size::frs outer:=fc;have nL:∀b o,s.heap.get? b=some o->b∉frs outer->b∉s.heap.objs.size::frs outer:=fun b o q hb hm=>by
  rcases cF.mp hm with z|z
  ·exact absurd (cR q) (by rw[z];exact uV _)
  ·exact hb z
 have un:=F.un;rw[hs]at un;refine wpAny_leaves_onW (L:=s.heap.objs.size) I.ok.frames rfl fl fun h' fl' up=> ?_;refine⟨e,C,H',B,rfl,⟨F.os.trans I.os,F.bare,⟨a0,fl'⟩,⟨fun b o q n hb=> ?_,fun b o q n=> ?_,fun b o q hb=> ?_,fun b xs q=> ?_,fun b o u q=> ?_,fun b ps q=> ?_⟩,F.hok,fun b hb o q=> ?_,?_,F.he⟩,hE⟩
 ·exact un.keep b o (I.base.keep b o q n hb (by intro z;cases z)) (I.base.free b o q n (by intro z;cases z)) (nL b o q hb)
 ·obtain⟨o',e'⟩:=I.base.there b o q (by intro z;cases z);exact un.free b o' e' (I.base.free b o q n (by intro z;cases z))
 ·obtain⟨o',e'⟩:=I.base.there b o q (by intro z;cases z);exact un.there b o' e' (nL b o q hb)
 ·exact un.tups b xs (I.base.tups b xs q)
 ·exact un.frzs b o u (I.base.frzs b o u q)
 ·obtain⟨m1,e1⟩:=I.base.tbls b ps q;obtain⟨m2,e2⟩:=un.tbls b _ e1;exact⟨m1++m2,by rw[e2,Array.append_assoc]⟩
 ·obtain⟨s1',e1⟩:=I.base.slot b o q (I.ok.frf b hb) hb (by intro z;cases z);obtain⟨s2',e2⟩:=F.sl b (by rw[hs];exact dZ _ hb) _ e1;obtain⟨_,o',ho',hd'⟩:=I.ok.funs.mem hb;have ho'':s.heap.get? b=some o':=ho';rw[q]at ho'';cases ho'';obtain⟨s3',e3⟩:=up b _ e2 hd';exact⟨s3',e3⟩
 ·cases q:s.heap.get? e with
  |none=>rfl
  |some o=>
   obtain⟨o',e'⟩:=I.base.there e o q (by intro z;cases z);rw[F.new]at e';cases e'
theorem aaH{pins:L1}{σ:St}{H1:Hp}{s1:η}{h':Heap}{e C:Addr}{vs:List ζ}
  (I:Inv (cxOf (sG P w) P w K mg base N qual scope f cd A outer s H E) pins σ H1 s1)(hx:Heap.MadeExcOf s1.heap h' e (.ref C) vs)(hE:H1 e=none->E (.ref e) (some C) (upd H1 e (ql e C))):
  (cxOf (sG P w) P w K mg base N qual scope f cd A outer s H E).xe (.ref e) {s1 with heap:=h'}:=by
 have fc:frs ((envOfC qual scope s.heap.objs.size f cd)::outer)=s.heap.objs.size::frs outer:=Bc rfl;have nL:∀b o,s.heap.get? b=some o->b∉frs outer->b∉frs ((envOfC qual scope s.heap.objs.size f cd)::outer):=fun b o q hb hm=>by
  rw[fc]at hm;rcases cF.mp hm with z|z
  ·exact absurd (cR q) (by rw[z];exact uV _)
  ·exact hb z
 have he:H1 e=none:=I.hok.none hx.new;refine wpAny_leaves_madeW (base:=PySem.W.hideAll s1.heap (frs ((envOfC qual scope s.heap.objs.size f cd)::outer))) (L:=s.heap.objs.size) I.ok.frames rfl (fun b o q=>PySem.W.of_hideAll _ q)
  (PySem.W.funFrames_hide I.stack fun env he a ha=>List.mem_filterMap.mpr ⟨env,he,ha⟩) hx fun h'' t fl _ _ up=> ?_
 refine⟨e,C,H1,_,rfl,⟨I.os,I.bare,⟨_,fl⟩,⟨fun b o q n hb=> ?_,fun b o q n=>I.base.free b o q n (by intro z;cases z),fun b o q hb=> ?_,I.base.tups,I.base.frzs,I.base.tbls⟩,fun a o q=> ?_,fun b hb o q=> ?_,?_,he⟩,hE he⟩
 ·exact wcx _ (I.base.keep b o q n hb (by intro z;cases z)) (nL b o q hb)
 ·obtain⟨o',e'⟩:=I.base.there b o q (by intro z;cases z);exact⟨o',wcx _ e' (nL b o q hb)⟩
 ·refine(I.hok a o q).stay (fun b u hb z=>wcx _ z fun hm=> ?_) (fun _ z=>z) fun _ _ z=>z;have n:=I.stkFree b hm;rcases hb with rfl|hb
  ·rw[q]at n;cases n
  ·rw[hb]at n;cases n
 ·obtain⟨s1',e1⟩:=I.base.slot b o q (I.ok.frf b hb) hb (by intro z;cases z);obtain⟨_,o',ho',hd'⟩:=I.ok.funs.mem hb;have ho'':s.heap.get? b=some o':=ho';rw[q]at ho'';cases ho'';obtain⟨s3',e3⟩:=up b _ (hx.keeps b _ e1) hd';exact⟨s3',e3⟩
 ·cases q:s.heap.get? e with
  |none=>rfl
  |some o=>
   obtain⟨o',e'⟩:=I.base.there e o q (by intro z;cases z);rw[hx.new]at e';cases e'
end
theorem XM{K:W.Frag}{h:Heap}{C:Addr}{bmB:List ζ}{newId:String}(X:K.In h)(q:PySem.W.excIn K C bmB newId=true):
  ∃bm N nm qn bs hd sn sub ab col dd k0 k1 k2 k3 k5 mN,h.get? C=some (excClassObj nm qn C N bs bm hd sn sub ab col dd k0 k1 k2 k3 k5 newId)/\h.Ns N mN/\mN "__init__"=none/\OwnTail h bmB bm:=by
 unfold PySem.W.excIn at q;split at q
 ·rename_i dd cd sl ho;split at q
  ·rename_i C' bm k0 k1 k2 k3 n k5 hm hs;simp only[yL,beq_iff_eq,YJ]at q;obtain⟨⟨⟨⟨⟨q1,q2⟩,hdel⟩,ht⟩,hok⟩,hni⟩:=q;cases q1;cases q2;obtain⟨nm,bs,mro,ns,qn,hd,sn,sub,ab,col,del⟩:=cd;obtain⟨l⟩:=sl;dsimp only at hm hdel hok hni hs;subst hm;subst hdel;subst hs;exact⟨bm,ns,nm,qn,bs,hd,sn,sub,ab,col,dd,k0,k1,k2,k3,k5,_,X _ _ ho,.of_isNs (PySem.W.isNs_of_in X hok),PySem.W.nsMap_none_of_in X hok hni,PySem.W.tail_of_in X ht⟩
  ·cases q
 ·cases q
def Wa(C:Addr)(E:XK)(t:TA):TS:=fun _ σ H=>t σ H fun vs H1=>vs.length<=16/\∀e,H1 e=none->E (.ref e) (some C) (upd H1 e (ql e C))
section
variable{P:ρ}{w:υ}{K:W.Frag}{mg:L4}{base:Heap}{N:List Str}{qual:Str}{scope:Scope}{f:Addr}{cd:ζ}{A:χ}{outer:List Env}{s:η}{H:Hp}{E:XK}
theorem zG{x:Str}{C:Addr}{B newId initId:String}{bmB:List ζ}{e:Expr}{es:List Expr}{t:TA}{np cpos pos:Pos}(FB:ExcBaseFacts B newId initId bmB)(hm:mg x=some (.ref C))(q:PySem.W.excIn K C bmB newId=true)(ha:PA (cxOf (sG P w) P w K mg base N qual scope f cd A outer s H E) (e::es) t)(hg:Gl (cxOf (sG P w) P w K mg base N qual scope f cd A outer s H E) x)(hdb:(x==("__debug__":Str))=false:=by decide)(he:starEach (e::es) (cxOf (sG P w) P w K mg base N qual scope f cd A outer s H E).env=(false,eval e (cxOf (sG P w) P w K mg base N qual scope f cd A outer s H E).env)::starEach es (cxOf (sG P w) P w K mg base N qual scope f cd A outer s H E).env:=by rfl)(hpl:(backTo cpos (starEach es (cxOf (sG P w) P w K mg base N qual scope f cd A outer s H E).env)).any (·.1)=false:=by rfl):
  PS (cxOf (sG P w) P w K mg base N qual scope f cd A outer s H E) (.Raise (some (.Call (.Name x np) (e::es) [] cpos)) none pos) (Wa C E t):=by
 intro pins s1 σ H1 D I h;have KX:K.In base:=I.ok.mod.kin;obtain⟨bm,Na,nm,qn,bs,hd,sn,sub,ab,col,dd,k0,k1,k2,k3,k5,mN,hC,hN,hni,T⟩:=XM KX q;refine wpAny_Raise_call_subT (C:=C) (nm:=nm) (q:=qn) (N:=Na) (bs:=bs) (bm:=bm) (hdct:=hd) (sn:=sn) (sub:=sub) (ab:=ab) (col:=col) (dd:=dd) (k0:=k0) (k1:=k1) (k2:=k2) (k3:=k3) (k5:=k5)
  FB (mN:=mN) (T.hasType FB.hasBase) (I.ok.hd rfl) (by rw[he];show(false||(backTo cpos (starEach es (cxOf (sG P w) P w K mg base N qual scope f cd A outer s H E).env)).any (·.1))=false;rw[hpl];rfl) hni (ld_glob I hg hm ⟨rfl,?_⟩ hdb)
 have h1:=ha cpos pins s1 σ H1 _ I h;rw[he]at h1⊢;refine Calls.evalArgs_plain (yC h1 (fun us s2 z=> ?_) fun _ _ y=>y);obtain⟨vs,H2,I2,r,hl,hE⟩:=z;have sz:us.length<=sizeLine:=by rw[<-r.length];exact dO hl (by decide)
 exact⟨rfl,sz,I2.bk _ _ hC,hN.keeps I2.bk,T.keeps I2.bk,fun h' e' hx=>aaH I2 hx (hE e')⟩
theorem Fun.okX{x qual:Str}{st:Stmt}{f:Addr}{fd:τ}{N ps:List Str}{k:Nat}{sp:Sp}(F:Fun K x qual st f fd)(S:FnScope N ps (defScope st))(len:∀vs H Q E,sp vs H Q E->vs.length=ps.length)(hbody:∀(cdv:ζ) (A:χ) (outer:List Env) (s:η) (H:Hp) (vs:List V) (Q:VK) (E:XK),Room k (A.deeper (envOfC qual (defScope st) s.heap.objs.size f cdv))->sp vs H Q E->
   ∃t,PSs (cxOf (sG P w) P w K mg base N qual (defScope st) f cdv A outer s H E) (defBody st) t/\t {nx:=fun _ H'=>Q .non H',rt:=Q} (start N vs) H):FnOk P w K mg base (sG P w) (k+1) f fd ps sp:=by
 obtain⟨oc,od,kV,doc,pm,an,cdv,ct,osl,rfl,lk,hcd⟩:=F.ex;exact fn_of lk hcd S len fun A outer s H vs Q E hr hsp=>hbody cdv A outer s H vs Q E hr hsp
theorem Fun.aaz{P:ρ}{w:υ}{K:W.Frag}{mg:L4}{base:Heap}{x qual:Str}{st:Stmt}{f:Addr}{fd:τ}{ps:List Str}{k:Nat}{sp:Sp}(F:Fun K x qual st f fd)(N:List Str)(hb:∀(cdv:ζ) (A:χ) (outer:List Env) (s:η) (H:Hp) (vs:List V) (Q:VK) (E:XK),Room k (A.deeper (PyProof.Rows.envOfC qual (defScope st) s.heap.objs.size f cdv))->sp vs H Q E->
   ∃t,PSs (cxOf (sG P w) P w K mg base N qual (defScope st) f cdv A outer s H E) (defBody st) t/\t {nx:=fun _ H'=>Q .non H',rt:=Q} (start N vs) H)(S:FnScope N ps (defScope st):=by exact fsc)(len:∀vs H Q E,sp vs H Q E->vs.length=ps.length:=by intro _ _ _ _ h;repeat(first |(obtain⟨rfl,_⟩:=h;rfl)|obtain⟨_,h⟩:=h)):FnOk P w K mg base (sG P w) (k+1) f fd ps sp:=F.okX S len hb
end
end L2
namespace L2
open PySem PySem.Spec PySem.Calls PyProof.Rows PySem.W PySem.Builtin.Getset_descriptor
structure qm(K:Frag)(D:Addr):Prop where
 cls:∃cd,clsIn K D=some cd
 ga:findIn K (.ref D) "__getattribute__"=some (some (.builtin "BaseException.__getattribute__"))
 gn:findIn K (.ref D) "__getattr__"=some none
 at_:findIn K (.ref D) "__class__"=some (some (.builtin "object.__class__"))
 get:specialIn K (.builtin "object.__class__") "__get__"=some (some (.builtin "getset_descriptor.__get__"))
 tk:takesIn K (.builtin "object.__class__")=some true
 obj:mroIn K D (.type "object")=some true
 exc:mroIn K D (.type "BaseException")=some true
section
variable{prog:ρ}{w:υ}{A:χ}{E:L3}{s:η}{K:Frag}{x D:Addr}
noncomputable def qT(x D:Addr)(h:Heap):Prop:=∃o,h.get? x=some o/\o.cls= .ref D
theorem qT.ty{M:Model}{h:Heap}(p:qT x D h):Looks M h (typeOf (.ref x)) (.ref D):=by
 obtain⟨o,e,c⟩:=p;exact c▸(Looks.ld e).andThen .now
theorem Jw{M:Model}{h:Heap}{C:Addr}{name:Str}{a g:ζ}(X:K.In h)(ha:findIn K (.ref C) name=some (some a))(hg:specialIn K a "__get__"=some (some g))(ht:takesIn K a=some true):
  Looks M h (Builtin.ObjectAttr.find (.ref x) (.ref C) name) (.bind g a):=
 (looks_findIn X ha).andThen ((show Looks M h (Builtin.ObjectAttr.getOf (some a)) (some g)from looks_specialIn X hg).andThen
  ((show Looks M h (Builtin.ObjectAttr.dataDescriptor? (some a) (some g)) (some (g,a))from(looks_takesIn X ht).andThen .now).andThen (Looks.tag .now)))
theorem TV{tp:ζ}{R:Result->η->Prop}(X:K.In s.heap)(I:qT x D s.heap)(hm:mroIn K D (.type "object")=some true)(h:R (.ok (.ret (.ref D))) s):
  codeAny (model prog w) A (.call (.builtin "getset_descriptor.__get__") ⟨[.builtin "object.__class__",.ref x,tp],[]⟩) R s:=by
 obtain⟨hh,gg,dr,tt,os⟩:=s;have A0:=I.ty (M:=model prog w);have A1:=looks_mroIn (M:=model prog w) X hm;have A2:=KF.slot_gs.check (model prog w);refine wcr KF.slot_gs.plain KF.entry_gs (A2 _ _ _ _ _ _ _ KF.type_class
  (KF.args_gs _ _ _) ?_)
 unfold Builtin.«getset_descriptor.__get__» descrGet;rw[dga_obj];refine ao (aK ?_);unfold descrGetter descrCheckInstance descrNameAndClass isInstance;simp only[KF.owner_class]
 repeat lk
 refine⟨wcj _ (by decide+kernel),
  Cr KF.entry_class ?_⟩
 unfold Builtin.«object.__class__» shownTypeOf;(repeat lk);exact h
theorem Jy{nameV:ζ}{Q:Unit->η->Prop}(X:K.In s.heap)(I:qT x D s.heap)(hb:mroIn K D (.type "BaseException")=some true)(hq:Q () s):
  wpAny (model prog w) A (checkBuiltinCall "BaseException.__getattribute__" ⟨[.ref x,nameV],[]⟩) Q E s:=by
 obtain⟨hh,gg,dr,tt,os⟩:=s;have kd:builtinKind "BaseException.__getattribute__"=some .slot:=by decide+kernel
 have sp:splitId "BaseException.__getattribute__"=some ("BaseException","__getattribute__"):=by decide+kernel
 have A0:=I.ty (M:=model prog w);have A1:=looks_mroIn (M:=model prog w) X hb;have ar:=F.args_bexc_ga (.ref x) nameV;simp only[checkBuiltinCall,kd,sp];refine ao ?_;unfold isInstance
 repeat(any_goals(first |assumption|lk|wp_step))
theorem Jx{Q:Option ζ->η->Prop}(X:K.In s.heap)(I:qT x D s.heap)(c:qm K D)(h:Q (some (.ref D)) {s with toks:=s.toks+1}):
  wpAny (model prog w) A (getAttr? (.ref x) "__class__") Q E s:=by
 obtain⟨hc,hga,hgn,ha,hn,htk,hm,hb⟩:=c;obtain⟨hh,gg,dr,tt,os⟩:=s;have A0:=I.ty (M:=model prog w);have A1:=looks_findIn (M:=model prog w) X hga;have A2:=looks_findIn (M:=model prog w) X hgn;have A3:=Jw (M:=model prog w) (x:=x) X ha hn htk;have n2:(Value.builtin "BaseException.__getattribute__"==Value.builtin "object.__getattribute__")=false:=by decide+kernel
 have n1:(onTheHeap (Value.ref D)&&Value.builtin "BaseException.__getattribute__"==Value.builtin "object.__getattribute__")=false:=by rw[n2];rfl
 have hbd:=F.attr_ValueError.ga.bind (.ref x);unfold getAttr? getAttrBy? getAttrBy;refine ao (wpAny_mkText (ao (Yy (uX (ao (A0.at (ao (A1.at ?_))))))));dsimp only;rw[aq (by rw[n1];exact rN)];unfold getAttrByItsOwn hookBefore;rw[aB (by rfl)];refine ao (A2.at (ao (Yy (uX ?_))));unfold callGetattribute;rw[aq (by intro z;cases z)];unfold boundAndCalled;rw[hbd];refine ao (aK ?_);refine Ul (wcr F.attr_ValueError.ga.plain F.entry_bexc_ga (Jy X I hb ?_));unfold Builtin.«object.__getattribute__»
 repeat(any_goals(first |assumption|(with_reducible refine Ul (TV X I hm ?_))|lk|wp_step))
theorem zZ(c:qm K D):KitX K (.ref x) (.ref D) (qT x D):=by
 obtain⟨cd,hcD⟩:=c.cls;unfold clsIn at hcD;split at hcD
 ·rename_i d' sl' cd' c'' ho;refine⟨fun _ _ _ p=>p.ty,fun _ _ X _ A' Q' E' s' k q=> ?_,fun h tp dd its n sl X htp=>Bool.eq_false_iff.mpr fun q=> ?_,fun X p k=>Jx X p c k⟩
  ·unfold isType loadHead;exact ao (wpAny_loadPart (k _ _ (X _ _ ho)) (aK q))
  ·obtain rfl:D=tp:=Value.ref.inj (beq_iff_eq.mp q);cases(X _ _ ho).symm.trans htp
 ·cases hcD
end
theorem Ef{X:Cx}{pins:L1}{σ:St}{H:Hp}{s:η}{a C:Addr}(I:Inv X pins σ H s)(h:H a=some (ql a C)):qT a C s.heap:=by
 obtain⟨⟨o,vs,e,c,_⟩,_⟩:=I.hok a _ h;exact⟨o,e,c⟩
theorem QF{X:Cx}:CallR X (.builtin "isinstance") (fun xs H Q=>∃(a C D:Addr) (b:Bool),xs=[.ref a,.ref D]/\H a=some (ql a C)/\qm X.K C/\kitOne X.K (.ref C) (.ref D)=some b/\Q (.bl b) H):=by
 intro pins s σ H xs us Q I r h;obtain⟨a,C,D,b,rfl,he,hc,hk,q⟩:=h;obtain⟨u,v,rfl,ru,rv⟩:=r.two;cases ru;cases rv;exact kia_one (zZ hc) I.kIn (Ef I he) hk (fun z=>nomatch z) fun tk=>⟨.bl b,H,I.tok _,rfl,q⟩
theorem JH{X:Cx}:CallR X (.builtin "isinstance") (fun xs H Q=>∃(a C:Addr) (T:String) (b:Bool),xs=[.ref a,.ty T]/\H a=some (ql a C)/\qm X.K C/\kitOne X.K (.ref C) (.type T)=some b/\Q (.bl b) H):=by
 intro pins s σ H xs us Q I r h;obtain⟨a,C,T,b,rfl,he,hc,hk,q⟩:=h;obtain⟨u,v,rfl,ru,rv⟩:=r.two;cases ru;cases rv;exact kia_one (zZ hc) I.kIn (Ef I he) hk (fun z=>nomatch z) fun tk=>⟨.bl b,H,I.tok _,rfl,q⟩
end L2
namespace L2
open PySem PySem.Spec PyProof.Rows
noncomputable abbrev Cx.mkd(X:Cx)(e:Addr):Cx:={X with A:=X.A.mark (some (.ref e)),calm:=false,xe:=fun _ _=>False}
section
variable{X:Cx}{pins:L1}{σ:St}{H H':Hp}{s s':η}{e C:Addr}{B:Heap}
theorem Cx.Ok.mkd(ok:X.Ok)(e:Addr):(X.mkd e).Ok:=
 ⟨ok.mod,ok.kind,ok.glob,ok.blt,ok.above,ok.inj,ok.has,ok.cab,fun z=>(rN z).elim,ok.frames,ok.stk,ok.exf,ok.bs,ok.bsz,ok.noex,ok.exfs,ok.funs,ok.frf⟩
theorem Inv.mkd(I:Inv X pins σ H s)(e:Addr):Inv (X.mkd e) pins σ H s:=⟨I.ok.mkd e,I.os,I.bare,I.base,I.loc,I.cell,I.free,I.freeC,I.pin,I.hok,I.len⟩
theorem Inv.aae(ok:X.Ok)(I:Inv (X.mkd e) pins σ H s):Inv X pins σ H s:=⟨ok,I.os,I.bare,I.base,I.loc,I.cell,I.free,I.freeC,I.pin,I.hok,I.len⟩
theorem landed{h':Heap}{a0:ζ}(I:Inv X pins σ H s)(F:Flew X.prog X.w X.stack H s e C H' B s')(fl:Heap.FlyingW B X.stack e (.ref C) a0 h')(up:s'.heap.UpToSlots h'):
  Inv X pins σ (upd H' e (ql e C)) {s' with heap:=h'}:=by
 have ne:∀b o,s.heap.get? b=some o->b≠e:=fun b o q z=>by rw[z,F.new]at q;cases q
 have slot:∀b o,s.heap.get? b=some o->b∈frs X.stack->∃sl,h'.get? b=some {o with slots:=sl}:=fun b o q hb=>by
  obtain⟨s1,e1⟩:=F.sl b hb o q;obtain⟨_,o',ho',hd'⟩:=I.stack.mem hb;rw[q]at ho';cases ho';obtain⟨s2,e2⟩:=up b _ e1 hd';exact⟨s2,e2⟩
 refine I.call' (ch:=[]) F.os ⟨fun b o q n hb _=>fl.1 b o (F.un.keep b o q n hb),fun b o q n hb _=>slot b o q hb,fun b o q n _=>by rw[bU (ne b o q)];exact F.un.free b o q n,fun b o q _=> ?_,fun b xs q=> ?_,fun b o u q=> ?_,fun b ps q=> ?_⟩
  (fun b u q=> ?_) F.bare (fun b z=>absurd z (by simp))
 ·by_cases hb:b∈frs X.stack
  ·obtain⟨sl,z⟩:=slot b o q hb;exact⟨_,z⟩
  ·obtain⟨o',z⟩:=F.un.there b o q hb;exact⟨o',fl.1 b o' z⟩
 ·have z:=F.un.tups b xs q;rw[bU (jh z F.he)];exact z
 ·have z:=F.un.frzs b o u q;rw[bU (jh z F.he)];exact z
 ·obtain⟨more,z⟩:=F.un.tbls b ps q;exact⟨more,by rw[bU (jh z F.he)];exact z⟩
 ·by_cases hb:b=e
  ·subst hb;rw[aH]at q;cases q;obtain⟨oe,vs,he,hc,hd,_⟩:=fl.first;refine⟨⟨oe,vs,he,hc,hd⟩,⟨_,he⟩,fun h1 h2 p k=> ?_⟩;obtain⟨o,ws,p1,p2,p3⟩:=p;exact⟨o,ws,k o p1,p2,p3⟩
  ·rw[bU hb]at q;exact(F.hok b u q).stay (fun c v _ z=>fl.1 c v z) (fun c z=>by rw[bU (jh z F.he)];exact z) fun c xs z=>by rw[bU (jh z F.he)];exact z
theorem Inv.forget{M:Model}{A:χ}{E:L3}{i:Nat}{n:Str}{pos:Pos}{Q:Unit->η->Prop}(I:Inv X pins σ H s)(hN:X.N.Nodup)(hi:X.N[i]? =some n)(hk:X.env.scope.names.lookup n=some .local)(h:∀s',Inv X pins (σ.set i none) H s'->Q () s'):wpAny M A (do bindName X.env n .none;unbindBehindTheSuite X.env n pos) Q E s:=by
 obtain⟨m,hn,hl⟩:=id I.loc;have hcls:(X.env.scope.kind== .class||(X.env.scope.kind== .module&&X.env.locals !=X.env.globals))=false:=by rw[I.ok.kind];rfl
 have hiσ:i<σ.length:=by rw[I.len];exact(m6.mp hi).1
 have cne:=I.cne;refine wpAny_nameGoes_keeps (show X.env.kindOf n=some .local from hk) hn hcls fun h' v hn' hs=> ?_;obtain⟨oL,_,_,hoL,_⟩:=id hn;have low:∀b o,X.s₀.heap.get? b=some o->b≠X.env.locals:=fun b o z=>cQ (gC (cR z) I.ok.above);refine h _ ⟨I.ok,I.os,I.bare,⟨fun b o z n hb hx=>(hs.2 b (low b o z)).trans (I.base.keep b o z n hb hx),fun b o z n hb hx=> ?_,I.base.free,fun b o z hx=> ?_,I.base.tups,I.base.frzs,I.base.tbls⟩,⟨_,hn',fun j y v' e1 e2 e3=> ?_⟩,fun y c z=> ?_,I.free,I.freeC,fun p hp=> ?_,fun b ob z=> ?_,by simpa using I.len⟩
 ·obtain⟨sl,q⟩:=I.base.slot b o z n hb hx;exact⟨sl,(hs.2 b (low b o z)).trans q⟩
 ·obtain⟨o',q⟩:=I.base.there b o z hx;exact⟨o',(hs.2 b (low b o z)).trans q⟩
 ·by_cases hj:j=i
  ·subst hj;rw[wdh hiσ]at e2;cases e2
  ·rw[wdv (kO hj)]at e2;obtain⟨u',r',q⟩:=hl j y v' e1 e2 e3;refine⟨u',r',?_⟩;rcases q with⟨k,z⟩|⟨k,c,z,zc⟩
   ·refine .inl ⟨k,?_⟩;have:y≠n:=fun z=>hj (nodup_ix hN e1 (z▸hi));simp[this,z]
   ·exact .inr ⟨k,c,z,zc.sameBut hs (cne y c z)⟩
 ·obtain⟨w',q⟩:=I.cell y c z;exact⟨w',q.sameBut hs (cne y c z)⟩
 ·obtain⟨z,n',ne,nf,d⟩:=I.pin p hp;exact⟨(hs.2 p.1 ne).trans z,n',ne,nf,d⟩
 ·refine(I.hok b ob z).stay (fun c w' hc q=>(hs.2 c ?_).trans q) (fun _ q=>q) fun _ _ q=>q;rintro rfl;rcases hc with rfl|hc
  ·rw[I.free]at z;cases z
  ·rw[I.free]at hc;cases hc
end
def abx(K:W.Frag)(D:Addr)(i:Nat)(sp:Sp)(nx:Ends->St->V->Hp->Prop)(t:TA)(ts:TS):TS:=fun Dn σ H=>t σ H fun vs H1=>sp vs H1 (fun v H2=>nx Dn σ v H2)
 (fun v oc H2=>∃e C,v= .ref e/\oc=some C/\PySem.W.exmOne K (.ref C) (.ref D)=some true/\ts {nx:=fun σ3 H3=>Dn.nx (σ3.set i none) H3,bk:=fun _ _=>False,ct:=fun _ _=>False,rt:=fun _ _=>False} (σ.set i (some (.ref e))) H2)
section
variable{X:Cx}{k:Nat}{f D:Addr}{fd:τ}{ps:List Str}{sp:Sp}{fn x n:Str}{p cpos epos np hpos pos:Pos}{a:Expr}{as:List Expr}{t:TA}{ts:TS}{b₀:Stmt}{suite:List Stmt}{i:Nat}
theorem caught(hst:X.stack=X.env::X.outer)(hfr:X.env.frame=some X.env.locals)(hgx:Gl X x)(hmx:X.mg x=some (.ref D))(hN:X.N.Nodup)(hi:X.N[i]? =some n)(xM:X.env.scope.names.lookup n=some .local)(hs:∀e,PSs (X.mkd e) (b₀::suite) ts){pins:L1}{σ:St}{H:Hp}{s s':η}{e C:Addr}{H':Hp}{B:Heap}{Dn:Ends}(I:Inv X pins σ H s)(F:Flew X.prog X.w X.stack H s e C H' B s')(hx:PySem.W.exmOne X.K (.ref C) (.ref D)=some true)(h:ts {nx:=fun σ3 H3=>Dn.nx (σ3.set i none) H3,bk:=fun _ _=>False,ct:=fun _ _=>False,rt:=fun _ _=>False} (σ.set i (some (.ref e))) (upd H' e (ql e C)))(hdb:(x==("__debug__":Str))=false):
  wpAny (model X.prog X.w) X.A (noteFrame (.ref e) X.env) (fun _ s₂=>wpAny (model X.prog X.w) X.A (setFlight (.ref e) none) (fun _ s₃=>
   wpAny (model X.prog X.w) X.A (handleBy (.ref e) X.env [.ExceptHandler (some (.Name x np)) (some n) (b₀::suite) hpos]) (SP X pins Dn) X.xe s₃) X.xe s₂) X.xe s':=by
 obtain⟨a0,fl⟩:=F.fly;have fl0:=fl;rw[hst]at fl0;refine wpAny_looks_onW (L:=X.env.locals) (I.ok.frames.trans (iD some hst)) hfr fl0 fun h4 aaV up4=> ?_;refine wpAny_landsW aaV fun h5 fl5 up5=> ?_;have g5:=fl5;rw[<-hst]at g5;have J5:=landed I F g5 (up4.trans up5);refine wpAny_handleBy_cons (codeAny_handlers_test (ld_glob (J5.mkd e) hgx hmx ?_ hdb)) (by intro q;cases q);have oc:qT e C ({s' with heap:=h5}:η).heap:=Ef J5 aH;refine PySem.W.exm_one (K:=X.K) J5.kIn oc.ty hx _ _ _ _ (fun _ _ z=>z) ?_;refine codeAny_handlers_suite_as ?_;refine lands_againW fl5 fun h6 fl6 up6=> ?_;have g6:=fl6;rw[<-hst]at g6;have J6:=landed I F g6 ((up4.trans up5).trans up6);refine store_ok (X:=X.mkd e) (J6.mkd e) hN hi (.inl xM) (v:= .ref e) rfl (fun s7 J7=> ?_) (.inr xM);refine yC (hs e pins s7 _ _ _ J7 h) (fun fl8 s8 q8=> ?_) (fun _ _ z=>z.elim);cases fl8 with
 |next=>
  obtain⟨σ3,H3,J8,q⟩:=q8;exact(Inv.aae I.ok J8).forget hN hi xM fun s9 J9=>⟨_,H3,J9,q⟩
 |brk=>obtain⟨_,_,_,q⟩:=q8;exact q.elim
 |cont=>obtain⟨_,_,_,q⟩:=q8;exact q.elim
 |ret u=>obtain⟨_,_,_,_,_,q⟩:=q8;exact q.elim
theorem X6{pins:L1}{σ:St}{H:Hp}{s:η}{Q:VK}{E:XK}{XE:L3}(F:FnOk X.prog X.w X.K X.mg X.base (sG X.prog X.w) k f fd ps sp)(hr:Room k X.A)(hg:Gl X fn)(hm:X.mg fn=some (.ref f))(hk:PySem.W.keepIn X.K (.ref f)=true)(hb:Binds X.K fd ps [])(ha:PA X.nox (a::as) t)(I:Inv X pins σ H s)(h:t σ H fun vs H1=>sp vs H1 Q E)(hx:∀H1 s1 v s',Inv X pins σ H1 s1->sG X.prog X.w X.stack H1 s1 E v s'->XE v s')(hdb:(fn==("__debug__":Str))=false)(he:starEach (a::as) X.env=(false,eval a X.env)::starEach as X.env)(hpl:(backTo cpos (starEach as X.env)).any (·.1)=false):
  wpAny (model X.prog X.w) X.A (eval (.Call (.Name fn p) (a::as) [] cpos) X.env) (EP X pins σ Q) XE s:=by
 refine Kv (ld_glob I hg hm ?_ hdb);refine wda (h₀:=X.base) I.ok.mod.kin hk (yC (ha cpos pins s σ H _ (I.wish _) h) (fun us s1 z=> ?_) fun _ _ z=>z.elim) he hpl;obtain⟨vs,H1,I1,r,q⟩:=z;have J:=I1.unwish;refine⟨J.kIn,?_⟩;have hl:us.length=ps.length:=by rw[<-r.length];exact F.len _ _ _ _ q
 have bd:=hb s1 us J.kIn (by simpa using hl);rw[u9]at bd;refine Ul (Qu (F.run X.A X.stack s1 H1 ⟨us,[]⟩ us vs Q E hr J.env0 bd r q) fun rr s' hq=> ?_);cases rr with
 |error v=>exact hx H1 s1 v s' J hq
 |ok fl=>
  cases fl with
  |ret u=>exact J.after hq
  |next=>exact False.elim hq
  |brk=>exact False.elim hq
  |cont=>exact False.elim hq
theorem Rq(hst:X.stack=X.env::X.outer)(hfr:X.env.frame=some X.env.locals)(F:FnOk X.prog X.w X.K X.mg X.base (sG X.prog X.w) k f fd ps sp)(hr:Room k X.A)(hg:Gl X fn)(hm:X.mg fn=some (.ref f))(hk:PySem.W.keepIn X.K (.ref f)=true)(hb:Binds X.K fd ps [])(ha:PA X.nox (a::as) t)(hgx:Gl X x)(hmx:X.mg x=some (.ref D))(hN:X.N.Nodup)(hi:X.N[i]? =some n)(xM:X.env.scope.names.lookup n=some .local)(hs:∀e,PSs (X.mkd e) (b₀::suite) ts)(hsw:swapsWith (.Call (.Name fn p) (a::as) [] cpos) none epos.line X.env=pure false:=by rfl)(hdb:(fn==("__debug__":Str))=false:=by decide)(hdx:(x==("__debug__":Str))=false:=by decide)(he:starEach (a::as) X.env=(false,eval a X.env)::starEach as X.env:=by rfl)(hpl:(backTo cpos (starEach as X.env)).any (·.1)=false:=by rfl):
  PS X (.Try [.Expr (.Call (.Name fn p) (a::as) [] cpos) epos] [.ExceptHandler (some (.Name x np)) (some n) (b₀::suite) hpos] [] [] pos) (abx X.K D i sp (fun Dn σ _ H2=>Dn.nx σ H2) t ts):=by
 intro pins s σ H Dn I h;refine wpAny_Try_except (wgb (wpAny_Expr_any (yC (X6 F hr hg hm hk hb ha I h (fun H1 s1 v s' J z=> ?_) hdb he hpl) (fun v s1 z=> ?_) fun _ _ z=>z) I.quiet hsw))
 ·obtain⟨e,C,H',B,rfl,Fl,e',C',q1,q2,q3,q4⟩:=z;cases q1;cases q2;exact caught hst hfr hgx hmx hN hi xM hs J Fl q3 q4 hdx
 ·obtain⟨_,H2,I2,_,q⟩:=z;exact YD (YD ⟨σ,H2,I2,q⟩)
end
theorem nZ(a b:Bool):MeetsSeq.EqGives (.bool a) (.bool b) (a==b):=fun prog w A E s Q h=>PySem.SeqAt.EqAt.bool_bool a b prog w E Q h
theorem FN{bs:List Bool}{us:List ζ}(r:Vals (bs.map V.bl) us):us=bs.map Value.bool:=by
 induction bs generalizing us with
 |nil=>cases r;rfl
 |cons b bs ih=>
  cases r with
  |cons h t=>rw[show _=Value.bool b from h,ih t];rfl
section
variable{X:Cx}
def Wr:V->List V->Hp->VK->Prop:=fun x vs H Q=>∃(l:Addr) (bs:List Bool),x= .ref l/\vs=[.bl true]/\H l=some (.lst (bs.map V.bl))/\Q (.int (bs.countP id:Nat)) H
theorem MK:MtM X "list.count" Wr:=by
 intro pins s σ H x vs v us Q I rx rv h;obtain⟨l,bs,rfl,rfl,hH,q⟩:=h;cases rx;obtain⟨u,rfl,ru⟩:=rv.one;cases ru;obtain⟨z,its,n,r,hl,e⟩:=I.lstM hH;have hi:=FN r;subst hi;refine Qt F.slot_list_count ⟨_,e,rfl⟩ F.entry_list_count (F.args_list_count_2 _ _) (MeetsSeq.list_count l _ n (.bool true) (fun y=>y== .bool true) (fun y hy=> ?_)) ⟨e,?_⟩
 ·obtain⟨b,_,rfl⟩:=kj.mp (List.mem_toArray.mp hy);have e1:(Value.bool b==Value.bool true)=(b==true):=by cases b<;>rfl
  rw[e1];exact nZ b true
 ·refine⟨.int (bs.countP id:Nat),H,I.tok _,⟨s.toks,?_⟩,q⟩;rw[List.toList_toArray,List.countP_map];congr 2;refine List.countP_congr fun b _=> ?_;cases b<;>simp
def Wq:V->List V->Hp->VK->Prop:=fun x vs H Q=>∃(l:Addr) (bs:List Bool) (j:Nat),x= .ref l/\vs=[.bl true]/\H l=some (.lst (bs.map V.bl))/\bs[j]? =some true/\(∀m,m<j->bs[m]? =some false)/\bs.length<=1000/\Q (.int (j:Nat)) H
theorem MJ:MtM X "list.index" Wq:=by
 intro pins s σ H x vs v us Q I rx rv h;obtain⟨l,bs,j,rfl,rfl,hH,h1,h2,hb,q⟩:=h;cases rx;obtain⟨u,rfl,ru⟩:=rv.one;cases ru;obtain⟨z,its,n,r,hl,e⟩:=I.lstM hH;have hi:=FN r;subst hi;obtain⟨hj,ej⟩:=m6.mp h1;have hj':j<(bs.map Value.bool).toArray.size:=by simpa using hj
 refine Qt F.slot_list_index ⟨_,e,rfl⟩ F.entry_list_index (F.args_list_index_2 _ _) (MeetsSeq.list_index l _ n (.bool true) (fun y=>y== .bool true) (fun y hy=> ?_) j hj' (by omega) ?_ (fun m hm hmj=> ?_)) ⟨e,?_⟩
 ·obtain⟨b,_,rfl⟩:=kj.mp (List.mem_toArray.mp hy);have e1:(Value.bool b==Value.bool true)=(b==true):=by cases b<;>rfl
  rw[e1];exact nZ b true
 ·simp[ej]
 ·have hm':m<bs.length:=by simpa using hm
  have em:bs[m]=false:=by
   have z:=h2 m hmj;rw[gj hm']at z;exact uY z
  simp[em]
 ·exact⟨.int (j:Nat),H,I.tok _,⟨s.toks,rfl⟩,q⟩
end
mutual
def abL:Nat->Expr->Option θ
 |0,_=>none
 |n+1,e=>match e with
  | .Constant (.int i) _ _=>some (.int i)
  | .Constant (.bool b) _ _=>some (.bool b)
  | .Constant .none _ _=>some .none
  | .Constant (.str x) _ _=>some (.str x)
  | .UnaryOp .USub (.Constant (.int i) _ _) _=>some (.int (-i))
  | .Tuple es _ _=>(Nj n es).map .tuple
  | .List es _=>(Nj n es).map .list
  | .Dict [] [] _=>some (.dict [])
  |_=>none
def Nj:Nat->List Expr->Option (List θ)
 |0,_=>none
 |_+1,[]=>some []
 |n+1,e::es=>match abL n e,Nj n es with
  |some d,some ds=>some (d::ds)
  |_,_=>none
end
section
variable{κ:Type} [DecidableEq κ]
noncomputable def valV(kvs:List (κ×V))(k:κ):Option V:=(kvs.find? fun kv=>decide (kv.1=k)).map (·.2)
noncomputable def putK(kvs:List (κ×V))(k:κ)(v:V):List (κ×V):=
 if(kvs.any fun kv=>decide (kv.1=k))=true then kvs.map (fun kv=>if kv.1=k then(kv.1,v)else kv)else kvs++[(k,v)]
theorem valV_pos{p:κ×V}{r:List (κ×V)}{k:κ}(e:p.1=k):valV (p::r) k=some p.2:=by simp[valV,Ym,e]
theorem valV_neg{p:κ×V}{r:List (κ×V)}{k:κ}(e:¬p.1=k):valV (p::r) k=valV r k:=by simp[valV,Ym,e]
theorem valV_any(k:κ):∀kvs:List (κ×V),(kvs.any fun kv=>decide (kv.1=k))=(valV kvs k).isSome
 |[]=>rfl
 |p::r=>by
  rw[T8];by_cases e:p.1=k
  ·simp only[valV_pos e,fD e,Bool.true_or,Option.isSome_some]
  ·rw[valV_neg e,iY e,whi];exact valV_any k r
theorem length_putK(kvs:List (κ×V))(k:κ)(v:V):(putK kvs k v).length<=kvs.length+1:=by
 unfold putK;split
 ·rw[aJ];omega
 ·rw[gB,uW,QM];omega
theorem putK_new{kvs:List (κ×V)}{k:κ}(v:V)(h:valV kvs k=none):putK kvs k v=kvs++[(k,v)]:=by
 unfold putK;rw[valV_any,h];exact aq (by decide)
theorem RelO.isSome_eq{o:Option V}{u:Option ζ}(r:RelO o u):o.isSome=u.isSome:=by
 cases o with
 |none=>cases u with
  |none=>rfl
  |some _=>exact(show False from r).elim
 |some _=>cases u with
  |none=>exact(show False from r).elim
  |some _=>rfl
theorem KV.val{kvs:List (κ×V)}{vs:List (κ×ζ)}(r:KV kvs vs)(k:κ):RelO (valV kvs k) (valueAt vs k):=by
 unfold KV at r
 induction r with
 |nil=>exact True.intro
 | @cons p q ps qs h t ih=>
  obtain⟨h1,h2⟩:=h;by_cases e:p.1=k
  ·have e':q.1=k:=h1.symm.trans e;have b:valueAt (q::qs) k=some q.2:=by simp[valueAt,Ym,e']
   rw[valV_pos e,b];exact h2
  ·have e':¬q.1=k:=fun z=>e (h1.trans z);have b:valueAt (q::qs) k=valueAt qs k:=by simp[valueAt,Ym,e']
   rw[valV_neg e,b];exact ih
theorem KV.any{kvs:List (κ×V)}{vs:List (κ×ζ)}(r:KV kvs vs)(k:κ):(kvs.any fun kv=>decide (kv.1=k))=vs.any fun kv=>decide (kv.1=k):=by
 unfold KV at r
 induction r with
 |nil=>rfl
 |cons h t ih=>rw[T8,T8,ih,h.1]
theorem KV.repl{kvs:List (κ×V)}{vs:List (κ×ζ)}(r:KV kvs vs)(k:κ){y:V}{u:ζ}(ry:RelV y u):
  KV (kvs.map fun kv=>if kv.1=k then(kv.1,y)else kv) (vs.map fun kv=>if kv.1=k then(kv.1,u)else kv):=by
 unfold KV at r⊢
 induction r with
 |nil=>exact .nil
 | @cons p q ps qs h t ih=>
  rw[Ca,Ca];refine .cons ?_ ih;obtain⟨h1,h2⟩:=h;by_cases e:p.1=k
  ·rw[aB e,aB (h1.symm.trans e)];exact⟨h1,ry⟩
  ·rw[aq e,aq (fun z=>e (h1.trans z))];exact⟨h1,h2⟩
theorem KV.put{kvs:List (κ×V)}{vs:List (κ×ζ)}(r:KV kvs vs)(k:κ){y:V}{u:ζ}(ry:RelV y u):KV (putK kvs k y) (stored vs k u):=by
 unfold putK stored;rw[r.any k];by_cases e:(vs.any fun kv=>decide (kv.1=k))=true
 ·rw[aB e,aB e];exact r.repl k ry
 ·rw[aq e,aq e];exact Paired.snoc r ⟨rfl,ry⟩
theorem KV.length{kvs:List (κ×V)}{vs:List (κ×ζ)}(r:KV kvs vs):kvs.length=vs.length:=wfq r
end
theorem kV_is{P:ρ}{w:υ}{k:Key}{u:ζ}(r:RelV (kV k) u):(mixKind P w).is k u=true:=by
 cases k with
 |inl i=>obtain⟨t,e⟩:=(show∃t,u=Value.int i t from r);subst e;exact mixKind_int P w i t
 |inr x=>obtain⟨t,e⟩:=(show∃t,u=Value.str x t from r);subst e;exact mixKind_str P w x t
theorem items_are{P:ρ}{w:υ}:∀{ks:List Key} {us:List ζ},Vals (ks.map kV) us->ItemsAre (mixKind P w) ks us
 |[],_,r=>by rw[whn]at r;cases r;exact .nil
 |k::ks,_,r=>by
  rw[Ca]at r;cases r with
  |cons h t=>exact .cons (kV_is h) (items_are t)
abbrev KT(H:Hp):List (List Key×V)->List (List Key×Addr×ζ)->Prop:=Paired fun p q=>p.1=q.1/\H q.2.1=some (.tup (p.1.map kV))/\RelV p.2 q.2.2
theorem KT.val{H:Hp}{kvs:List (List Key×V)}{xs:List (List Key×Addr×ζ)}(r:KT H kvs xs)(k:List Key):RelO (valV kvs k) ((atKey xs k).map (·.2)):=by
 induction r with
 |nil=>exact True.intro
 | @cons p q ps qs h t ih=>
  obtain⟨h1,_,h2⟩:=h;by_cases e:p.1=k
  ·have e':q.1=k:=h1.symm.trans e;have b:atKey (q::qs) k=some q.2:=by simp[atKey,Ym,e']
   rw[valV_pos e,b];exact h2
  ·have e':¬q.1=k:=fun z=>e (h1.trans z);have b:atKey (q::qs) k=atKey qs k:=by simp[atKey,Ym,e']
   rw[valV_neg e,b];exact ih
theorem KT.repl{H:Hp}{kvs:List (List Key×V)}{xs:List (List Key×Addr×ζ)}(r:KT H kvs xs)(k:List Key){y:V}{u:ζ}(ry:RelV y u):
  KT H (kvs.map fun kv=>if kv.1=k then(kv.1,y)else kv) (xs.map (putAt k u)):=by
 induction r with
 |nil=>exact .nil
 | @cons p q ps qs h t ih=>
  rw[Ca,Ca];refine .cons ?_ ih;obtain⟨h1,h2,h3⟩:=h;unfold putAt;by_cases e:p.1=k
  ·rw[aB e,aB (h1.symm.trans e)];exact⟨h1,h2,ry⟩
  ·rw[aq e,aq (fun z=>e (h1.trans z))];exact⟨h1,h2,h3⟩
theorem KT.put{H:Hp}{kvs:List (List Key×V)}{xs:List (List Key×Addr×ζ)}(r:KT H kvs xs)(k:List Key){b:Addr}{y:V}{u:ζ}(hb:H b=some (.tup (k.map kV)))(ry:RelV y u):
  KT H (putK kvs k y) (storedH xs k b u):=by
 have e:(kvs.any fun kv=>decide (kv.1=k))=(atKey xs k).isSome:=by
  rw[valV_any,(r.val k).isSome_eq,Option.isSome_map]
 unfold putK storedH;rw[e];by_cases q:(atKey xs k).isSome=true
 ·rw[aB q,aB q];exact r.repl k ry
 ·rw[aq q,aq q];exact Paired.snoc r ⟨rfl,hb,ry⟩
theorem KT.keeps{H H':Hp}{kvs:List (List Key×V)}{xs:List (List Key×Addr×ζ)}(r:KT H kvs xs)(ht:∀b ys,H b=some (.tup ys)->H' b=some (.tup ys)):KT H' kvs xs:=
 Paired.mapP r fun _ _ z=>⟨z.1,ht _ _ z.2.1,z.2.2⟩
section
variable{P:ρ}{w:υ}{H:Hp}{h:Heap}{a:Addr}
theorem rd_of{u:HO}(ok:HOk P w H h)(e:Rd H a u):ObjOk P w H h a u:=e.ok ok
theorem dk_rd{kvs:List (Key×V)}(ok:HOk P w H h)(e:Rd H a (.dK kvs)):kvs.length<=sizeLine/\(a==sysModules)=false/\∃vs,KV kvs vs/\h.DictOf (mixKind P w) a vs:=
 show ObjOk P w H h a (.dK kvs)from rd_of ok e
theorem dk_of{kvs:List (Key×V)}(ok:HOk P w H h)(e:H a=some (.dK kvs)):kvs.length<=sizeLine/\(a==sysModules)=false/\∃vs,KV kvs vs/\h.DictOf (mixKind P w) a vs:=dk_rd ok (.inl e)
theorem key_of{ks:List Key}(ok:HOk P w H h)(e:H a=some (.tup (ks.map kV))):(tupleKind (mixKind P w)).is h ks a:=by
 obtain⟨_,its,r,o,h1,h2,n,h3⟩:=(show ObjOk P w H h a (.tup (ks.map kV))from ok a _ e);exact⟨o,its.toArray,n,h1,h2,h3,by simpa using items_are r⟩
theorem dt_rd{kvs:List (List Key×V)}(ok:HOk P w H h)(e:Rd H a (.dT kvs)):kvs.length<=sizeLine/\(a==sysModules)=false/\
  ∃xs,KT H kvs xs/\h.DictOfH (tupleKind (mixKind P w)) a xs:=by
 obtain⟨z,y,xs,r,o,es,ep,h1,h2,h3,h4,h5⟩:=(show ObjOk P w H h a (.dT kvs)from rd_of ok e);refine⟨z,y,xs,r,o,es,ep,h1,h2,h3,h4,fun x hx=> ?_,h5⟩;have all:∀{l:List (List Key×V)} {m:List (List Key×Addr×ζ)},KT H l m->∀x∈m,(tupleKind (mixKind P w)).is h x.1 x.2.1:=by
  intro l m q
  induction q with
  |nil=>intro x hx;exact nomatch hx
  | @cons p q ps qs hq t ih=>
   intro x hx;rcases cF.mp hx with e|hx
   ·subst e;exact key_of ok (by rw[<-hq.1];exact hq.2.1)
   ·exact ih x hx
 exact all r x hx
theorem dt_of{kvs:List (List Key×V)}(ok:HOk P w H h)(e:H a=some (.dT kvs)):kvs.length<=sizeLine/\(a==sysModules)=false/\
  ∃xs,KT H kvs xs/\h.DictOfH (tupleKind (mixKind P w)) a xs:=dt_rd ok (.inl e)
end
def DGet(H:Hp)(a:Addr)(y:V)(r:Option V):Prop:=
 (∃kvs k,Rd H a (.dK kvs)/\y=kV k/\r=valV kvs k)\/∃kvs k b,Rd H a (.dT kvs)/\y= .ref b/\H b=some (.tup (k.map kV))/\r=valV kvs k
def DPut(H:Hp)(a:Addr)(y v:V)(H':Hp):Prop:=
 (∃kvs k,H a=some (.dK kvs)/\y=kV k/\kvs.length<sizeLine/\H'=upd H a (.dK (putK kvs k v)))\/
 ∃kvs k b,H a=some (.dT kvs)/\y= .ref b/\H b=some (.tup (k.map kV))/\kvs.length<sizeLine/\H'=upd H a (.dT (putK kvs k v))
theorem DGet.t{H:Hp}{a b:Addr}{kvs:List (List Key×V)}{k:List Key}(e:H a=some (.dT kvs))(eb:H b=some (.tup (k.map kV))):DGet H a (.ref b) (valV kvs k):= .inr ⟨kvs,k,b,.inl e,rfl,eb,rfl⟩
theorem DPut.t{H:Hp}{a b:Addr}{kvs:List (List Key×V)}{k:List Key}{v:V}(e:H a=some (.dT kvs))(eb:H b=some (.tup (k.map kV)))(hl:kvs.length<sizeLine):
  DPut H a (.ref b) v (upd H a (.dT (putK kvs k v))):= .inr ⟨kvs,k,b,e,rfl,eb,hl,rfl⟩
section
variable{X:Cx}{pins:L1}{σ:St}{H:Hp}{s:η}{a:Addr}{y v:V}{u r:ζ}{o:Option V}{A:χ}{E:L3}
theorem Inv.big(I:Inv X pins σ H s):sysModules<s.heap.objs.size:=by
 have h:mainGlobals<s.heap.objs.size:=(I.mod.glob.keeps I.bk).lt;exact Kl (by decide) h
theorem d_getItem{Q:L3}(hu:A.units+1<cLine)(I:Inv X pins σ H s)(g:DGet H a y (some v))(ry:RelV y u)(h:∀w' s',Inv X pins σ H s'->RelV v w'->Q w' s'):
  wpAny (model X.prog X.w) A (getItem (.ref a) u) Q E s:=by
 rcases g with⟨kvs,k,e,ey,l⟩|⟨kvs,k,b,e,ey,eb,l⟩
 ·subst ey;obtain⟨z,hd,vs,rel,dd⟩:=dk_rd I.hok e;obtain⟨w',hw,rw'⟩:=RelO.some_of (v:=v) (o:=valueAt vs k) (by rw[l];exact rel.val k);exact wpAny_getItem_of (kV_is ry) dd.mapOf hw (h w' _ (I.tok _) rw')
 ·subst ey;cases(show u=Value.ref b from ry);obtain⟨z,hd,xs,rel,dd⟩:=dt_rd I.hok e;obtain⟨w',hw,rw'⟩:=RelO.some_of (v:=v) (o:=(atKey xs k).map (·.2)) (by rw[l];exact rel.val k);obtain⟨p,hp,hp2⟩:=Option.map_eq_some_iff.mp hw;refine wpAny_getItem_heap (tupleKind_room_in1 hu) (key_of I.hok eb) dd hp ?_;rw[hp2];exact h w' _ (I.tok _) rw'
theorem d_write{h':Heap}{t':Nat}{ob:HO}(I:Inv X pins σ H s)(mu:Mut (H a))(hs:Heap.SameBut a s.heap h')(he:∃q,h'.get? a=some q)(new:ObjOk X.prog X.w (upd H a ob) h' a ob):
  Inv X pins σ (upd H a ob) {s with heap:=h',toks:=t'}:=
 I.write (x:=a) (e:=a) mu (.inl rfl) (fun b q hb z=>(hs.2 b hb).trans z) he new
theorem dk_new{P:ρ}{w:υ}{H':Hp}{h':Heap}{kvs:List (Key×V)}{vs:List (Key×ζ)}(z:kvs.length<=sizeLine)(hd:(a==sysModules)=false)(rel:KV kvs vs)(dd:h'.DictOf (mixKind P w) a vs):
  ObjOk P w H' h' a (.dK kvs):=⟨z,hd,vs,rel,dd⟩
theorem d_setItem{H':Hp}{Q:Unit->η->Prop}(hu:A.units+1<cLine)(I:Inv X pins σ H s)(g:DPut H a y v H')(ry:RelV y u)(rv:RelV v r)(h:∀s',Inv X pins σ H' s'->Q () s'):
  wpAny (model X.prog X.w) A (setItem (.ref a) u r) Q E s:=by
 rcases g with⟨kvs,k,e,ey,l,eH⟩|⟨kvs,k,b,e,ey,eb,l,eH⟩
 ·subst ey eH;obtain⟨z,hd,vs,rel,dd⟩:=dk_of I.hok e;have hz:vs.length<=sizeLine:=by rw[<-rel.length];exact z
  have hl:(putK kvs k v).length<=sizeLine:=by have:=length_putK kvs k v;omega
  refine wpAny_setItem_pairs (hsz:=hz) (kV_is ry) dd fun h' dd' hs=>h _ ?_;have he:∃q,h'.get? a=some q:=let⟨q,_,_,hq,_⟩:=dd';⟨q,hq⟩;exact d_write I (by rw[e];exact True.intro) hs he (dk_new hl hd (rel.put k rv) dd')
 ·subst ey eH;cases(show u=Value.ref b from ry);obtain⟨z,hd,xs,rel,dd⟩:=dt_of I.hok e;have hz:xs.length<=sizeLine:=by rw[<-wfq rel];exact z
  have hl:(putK kvs k v).length<=sizeLine:=by have:=length_putK kvs k v;omega
  refine wpAny_setItem_heap (hsz:=hz) (tupleKind_room_in1 hu) (key_of I.hok eb) dd fun h' dd' hs=>h _ ?_;obtain⟨q,es,ep,hq,h2,h3,h4,_,h5⟩:=dd';refine d_write I (by rw[e];exact True.intro) hs ⟨q,hq⟩ ⟨hl,hd,_,(rel.put k eb rv).keeps fun c ys ec=> ?_,q,es,ep,hq,h2,h3,h4,h5⟩;rw[bU (ne_of ec e (fun z=>nomatch z))];exact ec
end
def NoSl(i:Expr):Prop:=∀ov iv,subscripted i false ov iv=operate [ov,iv] (getItem ov iv)
theorem subD_of{prog:ρ}{w:υ}{A:χ}{E:L3}{s:η}{env:Env}{value slice:Expr}{pos:Pos}{T id:String}{Q:L3}(hl:typeLookup (.type T) "__getitem__"=pure (some (.builtin id)))(hs:NoSl slice)(h:wpAny (model prog w) A (eval value env) (fun o s₁=>wpAny (model prog w) A (eval slice env) (fun i s₂=>s₂.TypeIs o T/\wpAny (model prog w) A (getItem o i) Q E s₂) E s₁) E s):
  wpAny (model prog w) A (eval (.Subscript value slice pos) env) Q E s:=by
 refine Z1 (yC h (fun o s₁ h₁=>yC h₁ (fun i s₂ h₂=> ?_) fun _ _ x=>x) fun _ _ x=>x);obtain⟨hT,h₂⟩:=h₂;unfold subscriptTail;refine ao ?_;rw[getitemInPython_of_ne hT.not_modules];refine ao (wpAny_specialOf hT hl ?_);have fin:wpAny (model prog w) A (subscripted slice false o i) (fun r s₃=>wpAny (model prog w) A (letTemporaryGo value o r>>=fun _=>pure r) Q E s₃) E s₂:=by
  rw[hs o i];exact wpAny_operating (yC h₂ (fun r s₃ h₃=>ao (wpAny_letTemporaryGo (aK h₃))) fun _ _ x=>x)
 first
  |exact aK (ao fin)
  |exact ao (aK (ao fin))
  |exact ao fin
theorem dict_typeIs{X:Cx}{pins:L1}{σ:St}{H:Hp}{s:η}{a:Addr}{y:V}{o:Option V}(I:Inv X pins σ H s)(g:DGet H a y o):s.TypeIs (.ref a) "dict":=by
 rcases g with⟨kvs,k,e,_,_⟩|⟨kvs,k,b,e,_,_,_⟩
 ·obtain⟨_,_,vs,_,dd⟩:=dk_rd I.hok e;exact dd.typeIs
 ·obtain⟨_,_,xs,_,dd⟩:=dt_rd I.hok e;exact dd.typeIs
def tDGet(td ty:TE):TE:=fun σ H Q=>td σ H fun x H1=>ty σ H1 fun y H2=>∃a v,x= .ref a/\DGet H2 a y (some v)/\Q v H2
def sDPut(td ty tv:TE):TS:=fun D σ H=>tv σ H fun v H1=>td σ H1 fun x H2=>ty σ H2 fun y H3=>∃a H4,x= .ref a/\DPut H3 a y v H4/\D.nx σ H4
section
variable{X:Cx}{o i value:Expr}{pos pos':Pos}{td ty tv:TE}
theorem pe_dget(hu:X.A.units+1<cLine)(ho:PE X o td)(hi:PE X i ty)(hs:NoSl i):PE X (.Subscript o i pos) (tDGet td ty):=by
 intro pins s σ H Q I h;refine subD_of PySem.F.slot_dict_getitem.lookup hs (thn (ho pins s σ H _ I h) fun u s1 ⟨x,H1,I1,rx,q1⟩=>thn (hi pins s1 σ H1 _ I1 q1) fun iv s2 ⟨y,H2,I2,ry,a,v,ex,g,q2⟩=> ?_);subst ex;obtain rfl:u=Value.ref a:=rx;exact⟨dict_typeIs I2 g,d_getItem hu I2 g ry fun w' s3 I3 rw'=>⟨v,H2,I3,rw',q2⟩⟩
theorem ps_dput(hu:X.A.units+1<cLine)(ho:PE X o td)(hi:PE X i ty)(hv:PE X value tv)(hs:swapsWith value (some (.Subscript o i pos')) pos.line X.env=pure false):
  PS X (.Assign [.Subscript o i pos'] value pos) (sDPut td ty tv):=by
 intro pins s σ H D I h;refine wpAny_Assign_Subscript (thn (hv pins s σ H _ I h) fun r s1 ⟨v,H1,I1,rv,q1⟩=>thn (ho pins s1 σ H1 _ I1 q1) fun u s2 ⟨x,H2,I2,rx,q2⟩=>thn (hi pins s2 σ H2 _ I2 q2) fun iv s3 ⟨y,H3,I3,ry,a,H4,ex,g,q3⟩=> ?_) hs;subst ex;obtain rfl:u=Value.ref a:=rx;exact d_setItem hu I3 g ry rv fun s4 I4=>⟨σ,H4,I4,q3⟩
end
theorem dt_empty{P:ρ}{w:υ}{H:Hp}(h:Heap)(hb:sysModules<h.objs.size):ObjOk P w H (h.push {cls:= .type "dict",data:= .dict #[]}) h.objs.size (.dT []):=
 ⟨dB _,beq_eq_false_iff_ne.mpr (kO (cQ hb)),[],.nil,_,#[],0,gZ _ rfl,⟨rfl,rfl,rfl⟩,rfl,rfl,List.nodup_nil⟩
def tDNewT:TE:=fun _ H Q=>∀p,H p=none->Q (.ref p) (upd H p (.dT []))
section
variable{X:Cx}{pos:Pos}
theorem pe_dnewT:PE X (.Dict [] [] pos) tDNewT:=fun pins s σ H Q I h=>
 wpAny_Dict_empty ⟨.ref s.heap.objs.size,_,I.laid (a:=s.heap.objs.size) (o:= .dT []) (t':=s.toks) (fun _ _ q=>cV _ q) (aN _) (dt_empty s.heap I.big),rfl,h _ (I.hok.fresh (aN _))⟩
end
section
variable{X:Cx}
theorem v7(hc:X.calm=true):CallR X (.builtin "min") (fun xs H Q=>∃(a:Addr) (ns:List Int),xs=[.ref a]/\SqL X.K H a (ns.map V.int)/\ns≠[]/\∀m∈ns,(∀n∈ns,m<=n)->Q (.int m) H):=by
 intro pins s σ H xs us Q I r h;obtain⟨a,ns,rfl,hS,hne,q⟩:=h;obtain⟨u,rfl,ru⟩:=r.one;cases ru;obtain⟨vs,rv,pl,hz⟩:=I.list hS;have hl:=pl.isList;have hlt:a<s.heap.objs.size:=by obtain⟨_,e,_⟩:=hl;exact cR e
 have hlen:=rv.length;rw[aJ]at hlen;have hI:∀(i:Nat) (v:ζ),vs.toArray[i]? =some v->∃t,v= .int (ns.getD i 0) t:=fun i v hv=>by
  have hv':vs[i]? =some v:=by simpa using hv
  have hi:i<ns.length:=by have:=(m6.mp hv').1;omega
  have hn:(ns.map V.int)[i]? =some (.int (ns.getD i 0)):=by rw[dD,gj hi,oK,gj hi];rfl
  obtain⟨u,hu,ru⟩:=rv.get hn;rw[hv']at hu;cases hu;obtain⟨t,rfl⟩:=ru;exact⟨t,rfl⟩
 refine call_min_walk (YK hl ?_);refine⟨s.heap.objs.size,[s.heap.objs.size,a],[s.heap.objs.size],vs.toArray.size,_,_,_,rfl,Yw (A:=X.A.in1) (I.ok.hd hc) _ a (cQ hlt) vs.toArray,
  ⟨⟨_,gZ _ rfl,rfl,rfl⟩,hl.push _⟩,?_,?_,CmpOf.ints_lt (fun i=>ns.getD i 0) hI,fun v h' tk hP hk=> ?_⟩
 ·intro b hb;show b<(s.heap.push _).objs.size;rw[Cq];rcases cF.mp hb with rfl|hb
  ·exact sI _
  ·rw[fL.mp hb];exact qH hlt
 ·rw[fu,<-hlen];exact List.length_pos_iff.mpr hne
 ·obtain⟨t,rfl⟩:=hI _ v hP;obtain⟨h1,h2⟩:=argBest_lt (fun i=>ns.getD i 0) (vs.toArray.size-1);have hn0:0<ns.length:=List.length_pos_iff.mpr hne;have hb:argBest (fun i j=>decide (ns.getD i 0<ns.getD j 0)) (vs.toArray.size-1)<ns.length:=by
   have:vs.toArray.size=ns.length:=by rw[fu];omega
   omega
  refine⟨.int _,H,I.kept (LSm.kept_iter hk),⟨t,rfl⟩,q _ ?_ fun n hn=> ?_⟩
  ·rw[oK,gj hb];exact Ko hb
  ·obtain⟨j,hj,rfl⟩:=Fz hn;have:=h2 j (by rw[fu];omega);rw[oK (i:=j),gj hj]at this;exact this
end
end L2
namespace L2
open PySem
def ou(xs:Array Nat):Prop:=xs.toList.Pairwise (· < ·)
theorem ou.at{xs:Array Nat}(h:ou xs){i k:Nat}(hk:k<xs.size)(hik:i<k):xs.toList[i]'(by simp;omega)<xs.toList[k]'(by simpa using hk):=Ue.mp h i k _ _ hik
theorem getD_at{xs:Array Nat}{i d:Nat}(h:i<xs.size):xs.getD i d=xs.toList[i]'(by simpa using h):=by
 rw[Array.getElem_toList];simp[Array.getD,h]
theorem uJ{xs:Array Nat}(hx:ou xs)(j:Nat):∀(fuel lo hi:Nat),lo<=hi->hi<=xs.size->hi-lo<=fuel->(∀i (h:i<xs.size),i<lo->xs.toList[i]'(by simpa using h)<j)->(∀i (h:i<xs.size),hi<=i->j<=xs.toList[i]'(by simpa using h))->
  SetTable.below.go xs j fuel lo hi<=xs.size/\(∀i (h:i<xs.size),i<SetTable.below.go xs j fuel lo hi->xs.toList[i]'(by simpa using h)<j)/\(∀i (h:i<xs.size),SetTable.below.go xs j fuel lo hi<=i->j<=xs.toList[i]'(by simpa using h))
 |0,lo,hi,h1,h2,h3,a,b=>by
  have e:lo=hi:=by omega
  subst e;unfold SetTable.below.go;exact⟨h2,a,b⟩
 |fuel+1,lo,hi,h1,h2,h3,a,b=>by
  unfold SetTable.below.go;by_cases c:lo<hi
  ·rw[aB c];have hm:(lo+hi)/2<xs.size:=by omega
   dsimp only;rw[getD_at hm];by_cases q:xs.toList[(lo+hi)/2]'(by simpa using hm)<j
   ·rw[aB q];refine uJ hx j fuel _ hi (by omega) h2 (by omega) (fun i hi' hlt=> ?_) b;by_cases e:i=(lo+hi)/2
    ·subst e;exact q
    ·exact Kl (hx.at hm (by omega)) q
   ·rw[aq q];refine uJ hx j fuel lo _ (by omega) (by omega) (by omega) a (fun i hi' hle=> ?_);by_cases e:i=(lo+hi)/2
    ·subst e;omega
    ·have:=hx.at hi' (show(lo+hi)/2<i by omega);omega
  ·rw[aq c];have e:lo=hi:=by omega
   subst e;exact⟨h2,a,b⟩
theorem Bv{xs:Array Nat}(hx:ou xs)(j:Nat):SetTable.below xs j<=xs.size/\(∀i (h:i<xs.size),i<SetTable.below xs j->xs.toList[i]'(by simpa using h)<j)/\(∀i (h:i<xs.size),SetTable.below xs j<=i->j<=xs.toList[i]'(by simpa using h)):=
 uJ hx j xs.size 0 xs.size (dB _) (aN _) (aN _) (fun i _ h=>absurd h (QL _)) (fun i h h'=>absurd h (T7.mpr h'))
theorem Am{α:Type}(xs:Array α)(p:Nat)(x:α):(SetTable.insertAt xs p x).toList=xs.toList.take p++x::xs.toList.drop p:=by
 unfold SetTable.insertAt;simp;exact Cd (by simp)
theorem Al{xs:Array Nat}(hx:ou xs){j:Nat}(hn:xs[SetTable.below xs j]? ≠some j):ou (SetTable.insertAt xs (SetTable.below xs j) j):=by
 obtain⟨b1,b2,b3⟩:=Bv hx j;unfold ou;rw[Am,Yr];have Y4:∀a∈xs.toList.take (SetTable.below xs j),a<j:=fun a ha=>by
  obtain⟨i,hi,e⟩:=List.mem_take_iff_getElem.mp ha;rw[<-e];exact b2 i (by simp at hi;omega) (by omega)
 have pQ:∀a∈xs.toList.drop (SetTable.below xs j),j<a:=fun a ha=>by
  obtain⟨i,hi,e⟩:=List.mem_drop_iff_getElem.mp ha;have hs0:i+SetTable.below xs j<xs.size:=by simpa using hi
  have hs:SetTable.below xs j+i<xs.size:=by omega
  have z:=b3 (SetTable.below xs j+i) hs (wgc _ _);have e':xs.toList[SetTable.below xs j+i]'(by simpa using hs)=a:=by rw[<-e]
  rw[e']at z;by_cases c:i=0
  ·subst c;refine Kp z fun ej=>hn ?_;rw[<-Yt,gj (by simpa using hs)];exact iD some (e'.trans ej.symm)
  ·have hs0:SetTable.below xs j<xs.size:=by omega
   have z0:=b3 (SetTable.below xs j) hs0 (aN _);have:=hx.at hs (show SetTable.below xs j<SetTable.below xs j+i by omega);rw[e']at this;omega
 refine⟨hx.sublist (List.take_sublist _ _),yel.mpr ⟨pQ,hx.sublist (List.drop_sublist _ _)⟩,fun a ha b hb=> ?_⟩;rcases cF.mp hb with e|e
 ·rw[e];exact Y4 a ha
 ·exact Kl (Y4 a ha) (pQ b e)
structure TabOk(b:Bool)(t:ξ):Prop where
 rise:ou t.place
 nod:t.dummies=#[]
 led:t.led=b
theorem has_none(j:Nat):SetTable.has #[] j=false:=by
 unfold SetTable.has;simp
theorem Dc{t:ξ}{j:Nat}(h:t.slot j= .empty):t.place[SetTable.below t.place j]? ≠some j:=fun e=>by
 unfold SetTable.slot at h;dsimp only at h;rw[e]at h;simp at h
theorem zH{t:ξ}(ht:t.dummies=#[])(ha:Nat->Int)(h:Int):∀(fuel:Nat) (p:SetTable.Probe) (j:Nat) (d:Option Nat),p.dummy=none->SetTable.probe.go t ha h fuel p=some (.empty j d)->d=none/\t.slot j= .empty
 |0,p,j,d,_,e=>by unfold SetTable.probe.go at e;cases e
 |fuel+1,p,j,d,hp,e=>by
  unfold SetTable.probe.go at e;have adv:(t.advance p).dummy=none:=by
   unfold SetTable.advance;split
   ·exact hp
   ·exact hp
  cases z:t.slot p.j with
  |empty=>
   rw[z]at e;cases e;exact⟨hp,z⟩
  |dummy=>
   exfalso;unfold SetTable.slot at z;dsimp only at z;rw[ht,has_none]at z;split at z
   ·cases z
   ·simp at z
  |live i=>
   rw[z]at e;dsimp only at e;split at e
   ·cases e
   ·exact zH ht ha h fuel _ j d adv e
theorem Dj(n:Nat):ou (Array.range n):=by
 unfold ou;rw[Array.toList_range];exact ydx
theorem iI{b:Bool}{t:ξ}(h:TabOk b t)(n:Nat):TabOk b (t.standIn n):=⟨Dj n,rfl,h.led⟩
theorem Np{b:Bool}{t:ξ}(h:TabOk b t)(es:Array (Int×ζ))(hh:Int)(x:ζ):TabOk b (layNew t es hh x).2.1:=by
 unfold layNew;cases z:t.freeSlot hh with
 |none=>exact iI h _
 |some q=>
  obtain⟨slot,was⟩:=q;have emp:t.slot slot= .empty:=by
   unfold SetTable.freeSlot SetTable.probe at z;cases y:SetTable.probe.go t (fun _=>hh+1) hh (10*SetTable.turns t.mask) (t.probeStart hh)with
   |none=>rw[y]at z;cases z
   |some m=>
    rw[y]at z;cases m with
    |candidate _ _ _=>cases z
    |empty j d=>
     obtain⟨rfl,e⟩:=zH h.nod _ _ _ _ _ _ rfl y;cases z;exact e
  have Ma:TabOk b (t.put slot).1:=by
   refine⟨Al h.rise (Dc emp),?_,h.led⟩;show(if SetTable.has t.dummies slot then _ else t.dummies)=#[];rw[h.nod,has_none];rfl
  dsimp only;unfold SetTable.orStandIn;split
  ·exact Ma
  ·exact iI Ma _
theorem Sq{mask finger moves:Nat}{b plain:Bool}{hs:Array Int}{t':ξ}{order:Array Nat}(e:SetTable.laid mask finger moves b plain hs=some (t',order)):TabOk b t':=by
 unfold SetTable.laid at e;cases z:SetTable.layClean mask hs with
 |none=>rw[z]at e;cases e
 |some owner=>
  rw[z]at e;cases e;refine⟨?_,rfl,rfl⟩;unfold ou;show(((List.range (mask+1)).filterMap fun j=>(owner.getD j none).map (j, ·)).map (·.1)).Pairwise (· < ·);rw[List.map_filterMap];refine List.Pairwise.filterMap _ (R:=(· < ·)) (fun a a' ace c hc c' hc'=> ?_) ydx;cases y:owner.getD a none with
  |none=>simp[y]at hc
  |some k=>
   cases y':owner.getD a' none with
   |none=>simp[y']at hc'
   |some k'=>
    simp[y]at hc;simp[y']at hc';omega
theorem zB{b:Bool}{t:ξ}(h:TabOk b t)(es:Array (Int×ζ))(wanted:Nat):TabOk b (relayAll t es wanted).2.1:=by
 unfold relayAll;cases z:t.relaid (es.map (·.1)) wanted with
 |none=>exact iI h _
 |some q=>
  obtain⟨t',order⟩:=q;dsimp only;split
  ·unfold SetTable.relaid at z;have:=Sq z;rw[h.led]at this;exact this
  ·exact iI h _
theorem nU(b:Bool):TabOk b (.fresh 0 0 b):=⟨.nil,rfl,rfl⟩
theorem lG{b:Bool}{t:ξ}(h:TabOk b t):TabOk b {t with plain:=false}:=⟨h.rise,h.nod,h.led⟩
end L2
namespace PySem
namespace F
theorem aR:Slot "set_iterator" "__next__" "set_iterator.__next__":=
 .of (owner:="set_iterator") (n:="__next__") (by rw[typeLookup_type,builtinLookup_eq_fast];kernel_rfl) (by decide+kernel) (by decide+kernel) (by decide+kernel)
  (by first |exact .inl (by decide+kernel)|exact .inr (by decide+kernel)) (by rw[isSubtype_type];kernel_rfl)
theorem lq:Slot "set_iterator" "__iter__" "set_iterator.__iter__":=
 .of (owner:="set_iterator") (n:="__iter__") (by rw[typeLookup_type,builtinLookup_eq_fast];kernel_rfl) (by decide+kernel) (by decide+kernel) (by decide+kernel)
  (by first |exact .inl (by decide+kernel)|exact .inr (by decide+kernel)) (by rw[isSubtype_type];kernel_rfl)
theorem dH:entryFor table "set_iterator.__next__"=some Builtin.«set_iterator.__next__»:=entryFor_of_tree (by kernel_rfl)
theorem uE:entryFor table "set_iterator.__iter__"=some Builtin.«dict_keyiterator.__iter__»:=
 entryFor_alias (id':="dict_keyiterator.__iter__") (by kernel_rfl) rfl (by decide+kernel) (by kernel_rfl)
theorem q9:entryFor table "set.__iter__"=some Builtin.«frozenset.__iter__»:=
 entryFor_alias (id':="frozenset.__iter__") (by kernel_rfl) rfl (by decide+kernel) (by kernel_rfl)
theorem eG(a:ζ):argsOk "set_iterator.__next__" ⟨[a],[]⟩:=by
 unfold argsOk;kernel_rfl
theorem vq(a:ζ):argsOk "set_iterator.__iter__" ⟨[a],[]⟩:=by
 unfold argsOk;kernel_rfl
end F
end PySem
namespace PySem
open L2 (TabOk ou)
theorem mH{α:Type}:∀(l:List α) (i:Nat) (x:α),l[i]? =some x->(x::l.eraseIdx i).Perm l
 |[],i,x,h=>by cases i<;>cases h
 |y::l,0,x,h=>by cases h;exact .refl _
 |y::l,i+1,x,h=>(List.Perm.swap y x _).trans ((mH l i x h).cons y)
theorem Gz{α:Type}(next:Nat->Nat):∀(fuel k:Nat) (left:List α) (out:Array α),left.length=fuel->(pickOrder.go next fuel k left out).toList.Perm (out.toList++left)
 |0,k,left,out,h=>by
  rw[wdt h];unfold pickOrder.go;rw[u9]
 |fuel+1,k,left,out,h=>by
  unfold pickOrder.go;have lt:next k %left.length<left.length:=Nat.mod_lt _ (by omega)
  rw[gj lt];dsimp only;refine(Gz next fuel (k+1) _ _ (by rw[List.length_eraseIdx,aB lt];omega)).trans ?_;rw[Array.toList_push,ZF];exact List.Perm.append_left _ (mH left _ _ (gj lt))
theorem j4{α:Type}(next:Nat->Nat)(xs:Array α):(pickOrder next xs).toList.Perm xs.toList:=by
 unfold pickOrder;have:=Gz next xs.size 0 xs.toList #[] (by simp)
 simpa using this
section
variable{prog:ρ}{w:υ}{A:χ}{E:L3}{s:η}
theorem wz{src:Source}{n:Nat}{Q:Nat->η->Prop}(hn:n≠0)(h:∀i d,i<n->Q i {s with drawn:=d}):wpAny (model prog w) A (choose src n) Q E s:=fun Γ p _=>by
 unfold choose;rw[Sem.wp_choose];refine⟨hn,?_⟩;rw[Sem.wp_pure];exact h _ _ (Nat.mod_lt _ (weq hn))
theorem zdd{α:Type}:∀(n:Nat) (xs:List α) {s:η} {Q:List α->η->Prop},xs.length=n->(∀ys d,ys.Perm xs->Q ys {s with drawn:=d})->wpAny (model prog w) A (drawOrder n xs) Q E s
 |0,xs,s,Q,h,q=>by
  have:=q [] s.drawn (by rw[wdt h]);unfold drawOrder;exact aK this
 |n+1,[],s,Q,h,q=>by cases h
 |n+1,x::xs,s,Q,h,q=>by
  unfold drawOrder;refine ao (wz (by simp) fun i d hi=> ?_);rw[gj hi];dsimp only;refine ao (zdd n ((x::xs).eraseIdx i) (by rw[List.length_eraseIdx,aB hi];omega) fun ys d' hp=>aK ?_);exact q _ d' ((hp.cons _).trans (mH _ i _ (gj hi)))
structure aY(w:υ)(h:Heap)(d:Addr)(es:Array (Int×ζ))(ep:Nat)(t:ξ):Prop where
 ob:∃o,h.get? d=some o/\o.ExactSet/\o.data= .set es ep t
 fits:t.fits es.size=true
 tab:TabOk (!w.params.followText "set-order") t
theorem aY.at{h h':Heap}{d:Addr}{es:Array (Int×ζ)}{ep:Nat}{t:ξ}(S:aY w h d es ep t)(e:∀o,h.get? d=some o->h'.get? d=some o):aY w h' d es ep t:=
 let⟨o,ho,r⟩:=S.ob;⟨⟨o,e _ ho,r⟩,S.fits,S.tab⟩
theorem aY.typeIs{d:Addr}{es:Array (Int×ζ)}{ep:Nat}{t:ξ}(S:aY w s.heap d es ep t):s.TypeIs (.ref d) "set":=let⟨o,ho,hx,_⟩:=S.ob;⟨o,ho,hx.1⟩
theorem aY.state{d:Addr}{es:Array (Int×ζ)}{ep:Nat}{t:ξ}{Q:(Array (Int×ζ)×Nat×ξ)->η->Prop}(S:aY w s.heap d es ep t)(q:Q (es,ep,t) s):wpAny (model prog w) A (setState d) Q E s:=let⟨o,ho,hx,hd⟩:=S.ob;wdm ho hd S.fits q
theorem Vx{Q:Bool->η->Prop}(q:Q (w.params.followText "set-order") s):wpAny (model prog w) A setsByText Q E s:=by
 unfold setsByText;exact ao (wdu (aK q))
def bH(t:ξ)(i:Nat):Nat:=if i=0 then 0 else t.place.getD (i-1) 0+1
theorem uK{b:Bool}{t:ξ}(ht:TabOk b t){i:Nat}(hi:i<=t.place.size):SetTable.below t.place (bH t i)=i:=by
 obtain⟨b1,b2,b3⟩:=L2.Bv ht.rise (bH t i);have lo:i<=SetTable.below t.place (bH t i):=by
  refine wdq fun c=> ?_;have hs:i-1<t.place.size:=by omega
  have z:=b3 (i-1) hs (by omega);have e:bH t i=t.place.toList[i-1]'(by simpa using hs)+1:=by
   unfold bH;rw[aq (by omega),L2.getD_at hs]
  omega
 have hi':SetTable.below t.place (bH t i)<=i:=by
  refine wdq fun c=> ?_;have hs:i<t.place.size:=by omega
  have z:=b2 i hs c;by_cases c0:i=0
  ·subst c0;unfold bH at z;rw[aB rfl]at z;omega
  ·have e:bH t i=t.place.toList[i-1]'(by simp;omega)+1:=by
    unfold bH;rw[aq c0,L2.getD_at (by omega)]
   have:=ht.rise.at hs (show i-1<i by omega);omega
 omega
theorem Ji{d:Addr}{es:Array (Int×ζ)}{ep:Nat}{t:ξ}{i:Nat}{Q:Option (ζ×Nat)->η->Prop}(S:aY w s.heap d es ep t)(hb:w.params.followText "set-order"=false)(hd:(!t.plain&&decide (es.size>1))=false)(hi:i<=es.size)(q:Q ((es[i]?).map fun e=>(e.2,bH t (i+1))) s):wpAny (model prog w) A (setNext d (bH t i) i ep) Q E s:=by
 have ps:t.place.size=es.size:=by have:=S.fits;unfold SetTable.fits at this;simp at this;exact this.1
 have led:t.led=true:=by rw[S.tab.led,hb];rfl
 unfold setNext;refine ao (S.state (ao (Vx ?_)));rw[hb];dsimp only;refine qI (fun hab=>absurd hab (by decide)) fun _=> ?_;refine qI (fun hab=> ?_) fun _=> ?_
 ·have hab:(!t.plain&&decide (es.size>1))=true:=hab;rw[hd]at hab;cases hab
 refine ao ?_;show wpAny _ _ (if(!t.led&& !es.isEmpty)=true then _ else _) _ _ _;rw[led];refine qI (fun hab=>absurd hab (by simp)) fun _=> ?_;refine aK ?_;refine aK ?_;rw[uK S.tab (by omega)];by_cases c:i<es.size
 ·rw[VH c]at q⊢;rw[VH (by omega:i<t.place.size)];have e:bH t (i+1)=t.place[i]+1:=by
   unfold bH;rw[aq (by omega),wer];simp[Array.getD,(by omega:i<t.place.size)]
  rw[e]at q;exact q
 ·rw[Array.getElem?_eq_none (by omega)]at q⊢;exact q
theorem Jh{d:Addr}{es:Array (Int×ζ)}{ep:Nat}{t:ξ}{i slot:Nat}{Q:Option (ζ×Nat)->η->Prop}(S:aY w s.heap d es ep t)(hb:w.params.followText "set-order"=true)(q:Q (((pickOrder (w.params.setOrder d ep) es)[i]?).map fun e=>(e.2,slot)) s):wpAny (model prog w) A (setNext d slot i ep) Q E s:=by
 unfold setNext;refine ao (S.state (ao (Vx ?_)));rw[hb];dsimp only;refine qI (fun _=> ?_) fun hab=>absurd rfl hab;refine qI (fun hab=> ?_) fun _=> ?_
 ·simp at hab
 refine ao ?_;unfold setWalk;refine ao (S.state (ao (Vx ?_)));rw[hb];refine qI (fun _=> ?_) fun hab=>absurd rfl hab;refine ao (wdu ?_);exact aK (aK q)
def bh(h:Heap)(I d:Addr)(first:ζ)(i n ep:Nat):Prop:=∃o,h.get? I=some o/\o.cls= .type "set_iterator"/\o.data= .fields #[first,.int i 0,.ref d,.int n 0,.int ep 0]
theorem bh.at{h h':Heap}{I d:Addr}{first:ζ}{i n ep:Nat}(x:bh h I d first i n ep)(e:∀o,h.get? I=some o->h'.get? I=some o):bh h' I d first i n ep:=let⟨o,ho,r⟩:=x;⟨o,e _ ho,r⟩
theorem bh.typeIs{I d:Addr}{first:ζ}{i n ep:Nat}(x:bh s.heap I d first i n ep):s.TypeIs (.ref I) "set_iterator":=let⟨o,ho,hc,_⟩:=x;⟨o,ho,hc⟩
theorem nu{I d:Addr}{first:ζ}{i n ep:Nat}{Q:L3}(hit:bh s.heap I d first i n ep)(h:Q (.ref I) s):wpAny (model prog w) A (pyIter (.ref I)) Q E s:=by
 refine wpAny_pyIter_slot hit.typeIs F.lq (HW F.lq hit.typeIs F.uE ?_ (F.vq _));show wpAny _ _ (ret (.ref I)) _ _ s;exact aK ⟨_,rfl,"set_iterator",_,hit.typeIs,F.aR.lookup,h⟩
theorem aY.entries{d:Addr}{es:Array (Int×ζ)}{ep:Nat}{t:ξ}{Q:Array (Int×ζ)->η->Prop}(S:aY w s.heap d es ep t)(q:Q es s):wpAny (model prog w) A (setEntries d) Q E s:=by
 unfold setEntries;exact ao (S.state (aK q))
theorem wG{I d:Addr}{es:Array (Int×ζ)}{ep:Nat}{t:ξ}{i sl sl':Nat}{x:ζ}{Q:Option ζ->η->Prop}(hit:bh s.heap I d (.int sl 0) i es.size ep)(S:aY w s.heap d es ep t)(hne:d≠I)(hnext:∀(Q':Option (ζ×Nat)->η->Prop) (E':L3),Q' (some (x,sl')) s->wpAny (model prog w) A.in1 (setNext d sl i ep) Q' E' s)(hQ:∀h',bh h' I d (.int sl' 0) (i+1) es.size ep->Heap.SameBut I s.heap h'->Q (some x) {s with heap:=h'}):wpAny (model prog w) A (pyNext (.ref I)) Q E s:=by
 obtain⟨o,ho,hc,hd⟩:=id hit;unfold pyNext;refine ao (Yy (V6 (name:=Str.ofString "__next__") hit.typeIs F.aR (HW F.aR hit.typeIs F.dH ?_ (F.eG _))));unfold Builtin.«set_iterator.__next__»;refine ao (aK ?_);refine ao (wex ho hd ?_);refine ao (S.entries ?_);refine qI (fun hab=>absurd hab (by simp)) fun _=> ?_;refine ao ?_;rw[Fx,Fx,Fx];refine hnext _ _ ?_;refine ao (YC ho hd (by simp) ?_);have ho1:=VF (Obj.mapFields (·.setIfInBounds 0 (rawInt (sl':Int)))) ho (wcm (Uq hd _));have hd1:=Uq hd (·.setIfInBounds 0 (rawInt (sl':Int)));refine ao (YC ho1 hd1 (by simp) ?_);refine aK ⟨_,rfl,aK (hQ _ ⟨_,VF _ ho1 (wcm (Uq hd1 _)),(wfh ..).trans ((wfh ..).trans hc),by rw[Uq hd1];simp[rawInt]⟩ ((Cu ..).trans (Cu ..)))⟩
theorem zq{I d:Addr}{es:Array (Int×ζ)}{ep:Nat}{t:ξ}{i sl:Nat}{Q:Option ζ->η->Prop}(hh:A.handled=none)(hit:bh s.heap I d (.int sl 0) i es.size ep)(S:aY w s.heap d es ep t)(hne:d≠I)(hnext:∀(Q':Option (ζ×Nat)->η->Prop) (E':L3),Q' none s->wpAny (model prog w) A.in1 (setNext d sl i ep) Q' E' s)(hQ:∀h',Heap.ExtBut I s.heap h'->Q none {s with heap:=h'}):wpAny (model prog w) A (pyNext (.ref I)) Q E s:=by
 obtain⟨o,ho,hc,hd⟩:=id hit;unfold pyNext;refine ao (Yy (V6 (name:=Str.ofString "__next__") hit.typeIs F.aR (HW F.aR hit.typeIs F.dH ?_ (F.eG _))));unfold Builtin.«set_iterator.__next__»;refine ao (aK ?_);refine ao (wex ho hd ?_);refine ao (S.entries ?_);refine qI (fun hab=>absurd hab (by simp)) fun _=> ?_;refine ao ?_;rw[Fx,Fx,Fx];refine hnext _ _ ?_;refine ao (YC ho hd (by simp) ?_);show wpAny _ _ (newExc (.type "StopIteration") []>>=_) _ _ _;refine ao ?_;simp only[newExc,newTuple];refine ao (wB ?_ (by size_fits));refine ao (m:=firstArgMember _ _) (whg (a:=Value.none) (by first |rfl|(simp only[firstArgMember];rfl)) ?_);refine wB ?_ (by size_fits);simp only[raiseNew];refine ao (wpAny_handled ?_);rw[show A.in1.handled=none from hh];refine ao (aK (wpAny_throw ?_));refine ao (YF (T:="StopIteration") (b:=true) ⟨_,gZ _ rfl,rfl⟩ isSubtype_stop ?_);exact aK (hQ _ (((Cu ..).extBut.push _).push _))
theorem Walks.setInt(hh:A.handled=none)(I d:Addr)(hne:d≠I)(es:Array (Int×ζ))(ep:Nat)(t:ξ)(L:List ζ)(hL:L.length=es.size)(slot:Nat->Nat)(hnext:∀(i:Nat) (s:η) (Q':Option (ζ×Nat)->η->Prop) (E':L3),i<=es.size->aY w s.heap d es ep t->Q' ((L[i]?).map fun x=>(x,slot (i+1))) s->wpAny (model prog w) A.in1 (setNext d (slot i) i ep) Q' E' s):
  Walks prog w A I [I,d] [I] es.size (fun i v=>L[i]? =some v) (fun i h=>bh h I d (.int (slot i) 0) i es.size ep/\aY w h d es ep t) where
 sub:=fun b hb=>by simp at hb;simp[hb]
 frame:=fun _ _ _ st hk=>⟨st.1.at fun o e=>hk I (by simp) o e,st.2.at fun o e=>hk d (by simp) o e⟩
 item:=fun i s Q E hi st hQ=>by
  obtain⟨x,hx⟩:∃x,L[i]? =some x:=⟨L[i],by simp[hL,hi]⟩;refine wG (t:=t) (x:=x) (sl':=slot (i+1)) st.1 st.2 hne (fun Q' E' q=>hnext i s Q' E' (by omega) st.2 (by rw[hx];exact q)) fun h' hit' hs'=> ?_;exact hQ x h' s.toks hx ⟨hit',st.2.at fun o e=>hs'.extBut d o hne e⟩ fun b o hb e=>hs'.extBut b o (fun h=>hb (by simp[h])) e
 done:=fun s Q E st hQ=>zq hh st.1 st.2 hne (fun Q' E' q=>hnext _ s Q' E' (aN _) st.2 (by rw[JX (by omega)];exact q)) fun h' he'=>hQ h' s.toks fun b o hb e=>he' b o (fun h=>hb (by simp[h])) e
 self:=fun _ _ _ _ st hQ=>nu st.1 hQ
theorem jx{T:Addr}{its:Array ζ}{Q:Option (Array ζ)->η->Prop}(h:s.heap.IsTuple T its)(q:Q (some its) s):wpAny (model prog w) A (seqItems? (.ref T)) Q E s:=by
 obtain⟨o,ho,hc,n,hd⟩:=h;unfold seqItems?;dsimp only;refine ao (Z8 ho ?_);rw[hd];exact aK q
theorem vg{I d T:Addr}{es:Array (Int×ζ)}{ep:Nat}{t:ξ}{i p:Nat}{x:Int×ζ}{its:Array ζ}{Q:Option ζ->η->Prop}(hit:bh s.heap I d (.ref T) i es.size ep)(S:aY w s.heap d es ep t)(hT:s.heap.IsTuple T its)(hp:its[i]? =some (.int p 0))(hx:es[p]? =some x)(hQ:∀h',bh h' I d (.ref T) (i+1) es.size ep->Heap.SameBut I s.heap h'->Q (some x.2) {s with heap:=h'}):wpAny (model prog w) A (pyNext (.ref I)) Q E s:=by
 obtain⟨o,ho,hc,hd⟩:=id hit;unfold pyNext;refine ao (Yy (V6 (name:=Str.ofString "__next__") hit.typeIs F.aR (HW F.aR hit.typeIs F.dH ?_ (F.eG _))));unfold Builtin.«set_iterator.__next__»;refine ao (aK ?_);refine ao (wex ho hd ?_);refine ao (S.entries ?_);refine qI (fun hab=>absurd hab (by simp)) fun _=> ?_;refine ao (jx hT ?_);dsimp only;rw[Fx,hp];dsimp only;refine ao ?_;unfold setNextDrawn;refine ao (S.state ?_);refine qI (fun hab=>absurd hab (by simp)) fun _=> ?_;rw[Fx,hx];refine aK ?_;refine ao (YC ho hd (by simp) ?_);refine aK ⟨_,rfl,aK (hQ _ ⟨_,VF _ ho (wcm (Uq hd _)),(wfh ..).trans hc,by rw[Uq hd];simp[rawInt]⟩ (Cu ..))⟩
theorem wH{I d T:Addr}{es:Array (Int×ζ)}{ep:Nat}{t:ξ}{i:Nat}{its:Array ζ}{Q:Option ζ->η->Prop}(hh:A.handled=none)(hit:bh s.heap I d (.ref T) i es.size ep)(S:aY w s.heap d es ep t)(hT:s.heap.IsTuple T its)(hp:its[i]? =none)(hQ:∀h',Heap.ExtBut I s.heap h'->Q none {s with heap:=h'}):wpAny (model prog w) A (pyNext (.ref I)) Q E s:=by
 obtain⟨o,ho,hc,hd⟩:=id hit;unfold pyNext;refine ao (Yy (V6 (name:=Str.ofString "__next__") hit.typeIs F.aR (HW F.aR hit.typeIs F.dH ?_ (F.eG _))));unfold Builtin.«set_iterator.__next__»;refine ao (aK ?_);refine ao (wex ho hd ?_);refine ao (S.entries ?_);refine qI (fun hab=>absurd hab (by simp)) fun _=> ?_;refine ao (jx hT ?_);dsimp only;rw[Fx,hp];dsimp only;refine ao (YC ho hd (by simp) ?_);have ho1:=VF (Obj.mapFields (·.setIfInBounds 0 (rawInt 0))) ho (wcm (Uq hd _));have hd1:=Uq hd (·.setIfInBounds 0 (rawInt 0));refine ao (YC ho1 hd1 (by simp) ?_);show wpAny _ _ (newExc (.type "StopIteration") []>>=_) _ _ _;refine ao ?_;simp only[newExc,newTuple];refine ao (wB ?_ (by size_fits));refine ao (m:=firstArgMember _ _) (whg (a:=Value.none) (by first |rfl|(simp only[firstArgMember];rfl)) ?_);refine wB ?_ (by size_fits);simp only[raiseNew];refine ao (wpAny_handled ?_);rw[show A.in1.handled=none from hh];refine ao (aK (wpAny_throw ?_));refine ao (YF (T:="StopIteration") (b:=true) ⟨_,gZ _ rfl,rfl⟩ isSubtype_stop ?_);exact aK (hQ _ ((((Cu ..).trans (Cu ..)).extBut.push _).push _))
theorem Walks.setRef(hh:A.handled=none)(I d T:Addr)(hne:d≠I)(hTI:T≠I)(es:Array (Int×ζ))(ep:Nat)(t:ξ)(ps:List Nat)(hps:ps.Perm (List.range es.size)):
  Walks prog w A I [I,d,T] [I] es.size (fun i v=>∃p x,ps[i]? =some p/\es[p]? =some x/\v=x.2) (fun i h=>bh h I d (.ref T) i es.size ep/\aY w h d es ep t/\h.IsTuple T (ps.map fun(p:Nat)=>Value.int p 0).toArray) where
 sub:=fun b hb=>by simp at hb;simp[hb]
 frame:=fun _ _ _ st hk=>⟨st.1.at fun o e=>hk I (by simp) o e,st.2.1.at fun o e=>hk d (by simp) o e,let⟨o,ho,r⟩:=st.2.2;⟨o,hk T (by simp) o ho,r⟩⟩
 item:=fun i s Q E hi st hQ=>by
  have hl:ps.length=es.size:=by rw[hps.length_eq,wj]
  obtain⟨p,hp⟩:∃p,ps[i]? =some p:=⟨ps[i],by simp[hl,hi]⟩;have hlt:p<es.size:=rH.mp (hps.mem_iff.mp (jq hp));refine vg (t:=t) (p:=p) (x:=es[p]) st.1 st.2.1 st.2.2 (by simp[hp]) (VH hlt) fun h' hit' hs'=> ?_;exact hQ _ h' s.toks ⟨p,_,hp,VH hlt,rfl⟩ ⟨hit',st.2.1.at fun o e=>hs'.extBut d o hne e,let⟨o,ho,r⟩:=st.2.2;⟨o,hs'.extBut T o hTI ho,r⟩⟩ fun b o hb e=>hs'.extBut b o (fun h=>hb (by simp[h])) e
 done:=fun s Q E st hQ=>wH hh st.1 st.2.1 st.2.2 (by simp[hps.length_eq]) fun h' he'=>hQ h' s.toks fun b o hb e=>he' b o (fun h=>hb (by simp[h])) e
 self:=fun _ _ _ _ st hQ=>nu st.1 hQ
def Ii(first:ζ)(d:Addr)(n ep:Nat):Obj:={cls:= .type "set_iterator",dict:=none,data:= .fields #[first,.int 0 0,.ref d,.int n 0,.int ep 0]}
def nH(ps:List Nat):Obj:={cls:= .type "tuple",dict:=none,data:= .seq (ps.map fun(p:Nat)=>Value.int p 0).toArray}
theorem aY.push{h:Heap}{d:Addr}{es:Array (Int×ζ)}{ep:Nat}{t:ξ}(S:aY w h d es ep t)(o:Obj):aY w (h.push o) d es ep t:=S.at fun _ e=>cV _ e
theorem NQ{d:Addr}{es:Array (Int×ζ)}{ep:Nat}{t:ξ}{Q:L3}(S:aY w s.heap d es ep t)(hz:es.size<=1000)(hA:(w.params.followText "set-order"=true\/(!t.plain&&decide (es.size>1))=false)->Q (.ref s.heap.objs.size) {s with heap:=s.heap.push (Ii (.int 0 0) d es.size ep)})(hB:∀ps dr,ps.Perm (List.range es.size)->Q (.ref (s.heap.objs.size+1)) {s with heap:=(s.heap.push (nH ps)).push (Ii (.ref s.heap.objs.size) d es.size ep),drawn:=dr}):
  wpAny (model prog w) A (pyIter (.ref d)) Q E s:=by
 refine wpAny_pyIter_slot S.typeIs F.slot_set_iter (HW F.slot_set_iter S.typeIs F.q9 ?_ (F.args_set_iter_1 _));unfold Builtin.«frozenset.__iter__»;refine ao (aK ?_);refine ao ?_;unfold Builtin.Frozenset.sizeOf;refine ao (S.entries (aK ?_));refine ao ?_;unfold setDrawn;refine ao (S.state (ao (Vx (aK ?_))));have Vo:∀{s':η} {Q':Nat->η->Prop} {E':L3},aY w s'.heap d es ep t->Q' ep s'->wpAny (model prog w) A.in1 (setEpoch d) Q' E' s':=fun S' q=>by
  unfold setEpoch;exact ao (S'.state (aK q))
 refine qI (fun hab=> ?_) fun hab=> ?_
 ·refine ao (zdd _ _ (by simp) fun ps dr hp=> ?_);refine ao ?_;simp only[newTuple];refine wB ?_ (show(ps.map fun(i:Nat)=>rawInt (i:Int)).toArray.size<=sizeLine from by
   have:=hp.length_eq;rw[wj]at this;rw[fu,aJ,eE];omega)
  refine ao (Vo (S.push _) ?_);simp only[newFields];refine ao (wB ?_ (by size_fits));have q:=hB ps dr hp;refine aK ⟨_,rfl,"set_iterator",_,⟨_,gZ _ rfl,rfl⟩,F.aR.lookup,?_⟩;rw[Cq];exact q
 ·refine ao (aK ?_);refine ao (Vo S ?_);simp only[newFields];refine ao (wB ?_ (by size_fits));refine aK ⟨_,rfl,"set_iterator",_,⟨_,gZ _ rfl,rfl⟩,F.aR.lookup,hA ?_⟩;have hab:¬(!w.params.followText "set-order"&&(!t.plain&&decide (es.size>1)))=true:=hab;cases hb:w.params.followText "set-order" with
  |true=>exact .inl rfl
  |false=>rw[hb]at hab;exact .inr (by simpa using hab)
theorem N5{d:Addr}{es:Array (Int×ζ)}{ep:Nat}{t:ξ}{Q:Bool->η->Prop}(S:aY w s.heap d es ep t)(h:Q false s):wpAny (model prog w) A (Builtin.List.listLengthHint (.ref d)) Q E s:=by
 have hT:s.TypeIs (.ref d) "set":=S.typeIs;unfold Builtin.List.listLengthHint;refine ao (wpAny_specialOf hT F.slot_set_len.lookup ?_);generalize hid:("set.__len__":String)=id0
 wp_delta
 rw[show splitId id0=some ("set","__len__")from by subst hid;decide+kernel];subst hid;refine ao (YF (T:="set") (b:=true) hT (by rw[isSubtype_type];kernel_rfl) ?_);refine qI (fun hab=>absurd hab (by decide)) (fun _=> ?_);refine qI (fun _=> ?_) (fun hab=>absurd (by decide+kernel) hab);refine ao (Um hT ?_);exact aK h
theorem lZ{L:List ζ}{acc:Array ζ}(h:ItemsOf (fun i v=>L[i]? =some v) acc L.length):acc.toList=L:=by
 refine Yo fun i=> ?_;by_cases c:i<acc.size
 ·have e:acc.toList[i]? =some acc[i]:=by rw[Yt,VH c]
  rw[e];exact(h.2 i _ (by rw[VH c])).symm
 ·have:=h.1;rw[JX (by simpa using c),JX (by omega)]
theorem jH{α:Type}(xs:Array α){ps:List Nat}(hp:ps.Perm (List.range xs.size)):(ps.filterMap fun p=>xs[p]?).Perm xs.toList:=by
 refine(hp.filterMap _).trans ?_;have e:(List.range xs.size).filterMap (fun p=>xs[p]?)=xs.toList:=by
  have key:∀(l:List α),(List.range l.length).filterMap (fun p=>l[p]?)=l:=by
   intro l
   induction l with
   |nil=>rfl
   |cons x l ih=>
    rw[uW,List.range_succ_eq_map,Ud,wen];show x::(List.range l.length).filterMap (fun p=>l[p]?)=x::l;rw[ih]
  have:=key xs.toList;simpa using this
 rw[e]
theorem Oz{α:Type}(xs:Array α):∀(pl:List Nat),(∀p∈pl,p<xs.size)->∀i:Nat,(pl.filterMap fun p=>xs[p]?)[i]? =(pl[i]?).bind fun p=>xs[p]?
 |[],_,i=>by simp
 |p::pl,h,i=>by
  have hp:=h p dY;rw[Ud,VH hp];cases i with
  |zero=>simp[hp]
  |succ i=>simpa using Oz xs pl (fun q hq=>h q (dZ _ hq)) i
theorem Ed{R:Result->η->Prop}{d:Addr}{es:Array (Int×ζ)}{ep:Nat}{t:ξ}(hh:A.handled=none)(S:aY w s.heap d es ep t)(hz:es.size<=1000)(l:Addr)(res:ζ)(c₀:Nat)(hl:s.heap.get? l=some {cls:= .type "list",data:= .seq #[] c₀})(hR:∀h' tk dr acc' c',(∀b o,b≠l->s.heap.get? b=some o->h'.get? b=some o)->h'.get? l=some {cls:= .type "list",dict:=none,data:= .seq acc' c',slots:=#[]}->
   acc'.toList.Perm (es.toList.map (·.2))->R (.ok (.ret res)) {s with heap:=h',toks:=tk,drawn:=dr}):
  wpAny (model prog w) A.in1 (Builtin.List.listExtendWith (.ref l) (.ref d) res)
   (fun fin s'=>match fin with | .done f=>R (.ok f) s'| .again c'=>c'.quiet=true/\codeAny (model prog w) A c' R s') (fun e s'=>R (.error e) s') s:=by
 obtain⟨od,ho,hx,hdat⟩:=S.ob;have hld:l≠d:=fun e=>by
  rw[e,ho]at hl;cases hl;cases hdat
 have NZ:l<s.heap.objs.size:=cR hl;have Xo:d<s.heap.objs.size:=cR ho;have ps:t.place.size=es.size:=by have:=S.fits;unfold SetTable.fits at this;simp at this;exact this.1
 -- from a walk that stands at its start
 have key:∀(h:Heap) (I:Addr) (fp:List Addr) (P:Nat->ζ->Prop) (St:Nat->Heap->Prop) (dr:Drawn) (W:Walks prog w A.in1 I fp [I] es.size P St),l∉fp->s.heap.objs.size<=I->(∀acc,ItemsOf P acc es.size->acc.toList.Perm (es.toList.map (·.2)))->
   aY w h d es ep t->(∀b o,s.heap.get? b=some o->h.get? b=some o)->St 0 h->
   wpAny (model prog w) A.in1 (do
     let room<-holding [Value.ref I] (Builtin.List.listLengthHint (.ref d))
     if(room||true)=true then do rule "list.extend.makes-room";Builtin.List.listTouch (.ref l)
     again (.builtin "list.extend.loop" ⟨[.ref l,.ref I,res],[]⟩))
    (fun fin s'=>match fin with | .done f=>R (.ok f) s'| .again c'=>c'.quiet=true/\codeAny (model prog w) A c' R s') (fun e s'=>R (.error e) s') {s with heap:=h,drawn:=dr}:=by
  intro h I fp P St dr W hlf hI hP hS hk st;have hlI:l≠I:=cQ (gC NZ hI);refine ao (uX (N5 (s:={s with heap:=h,drawn:=dr}) hS ?_));refine qI (fun _=> ?_) (fun hab=>absurd rfl hab);refine ao (Uk ?_);refine ao ?_;show wpAny _ _ (updateSeq l (·.push .none)>>=fun _=>updateSeq l (·.pop)) _ _ _;have hl1:=hk _ _ hl;refine ao (wde hl1 rfl ?_);have hl2:=VF (Obj.mapSeq (·.push Value.none)) hl1 rfl;refine wde (hz:=by seq_fits) hl2 rfl ?_;have hl3:=VF (Obj.mapSeq (·.pop)) hl2 rfl;have keep:∀b o,b≠l->h.get? b=some o->((h.update l (Obj.mapSeq (·.push Value.none))).update l (Obj.mapSeq (·.pop))).get? b=some o:=fun b o hb e=>(ZQ _ _ (kO hb)).trans ((ZQ _ _ (kO hb)).trans e);have st':=W.frame 0 _ _ st fun b hb o e=>keep b o (fun q=>hlf (q▸hb)) e;refine aK ⟨Uo F.plain_extend_loop _,?_⟩;refine codeAny_extend_loopS W.toS (by rw[eE];omega) l hlf res es.size 0 _ #[] _ rfl (dB _) st' hl3 (ItemsOf.nil _) fun s' acc' c' hmv hS' hacc=> ?_;rw[Moved.eq_with hmv];refine hR s'.heap s'.toks dr acc' c' (fun b o hb e=>hmv.heap b o (fun hmem=> ?_) (keep b o hb (hk b o e))) hS' (hP acc' hacc);rcases cF.mp hmem with e'|hmem
  ·exact hb e'
  ·have:=cR e;rw[fL.mp hmem]at this;exact absurd (gC this hI) (uV _)
 unfold Builtin.List.listExtendWith;refine ao (Um (T:="set") S.typeIs ?_);have h1:Builtin.List.listSameRef (.ref l) (.ref d)=false:=by simp[Builtin.List.listSameRef,hld]
 have h2:(Value.type "set"==Value.type "list")=false:=by decide
 have h3:(Value.type "set"==Value.type "tuple")=false:=by decide
 simp only[h1,h2,h3,Bool.or_false,wci,VL];refine ao (NQ S hz (fun hm=> ?_) fun pl dr hp=> ?_)
 ·by_cases hb:w.params.followText "set-order"=true
  ·have W:=Walks.setInt (prog:=prog) (w:=w) (A:=A.in1) hh s.heap.objs.size d (cQ Xo) es ep t ((pickOrder (w.params.setOrder d ep) es).toList.map (·.2)) (by rw[aJ,(j4 _ es).length_eq,sJ]) (fun _=>0)
    (fun i s Q' E' _ S' q=>Jh S' hb (by rw[dD,Option.map_map,Yt]at q;exact q))
   have k:=key (s.heap.push (Ii (.int 0 0) d es.size ep)) _ _ _ _ s.drawn W (by simp;exact⟨cQ NZ,hld⟩) (aN _) (fun acc ha=>by
     have e:=lZ (L:=(pickOrder (w.params.setOrder d ep) es).toList.map (·.2)) (acc:=acc) (by rw[aJ,(j4 _ es).length_eq,sJ];exact ha);rw[e];exact(j4 _ es).map _) (S.push _) (fun b o e=>cV _ e) ⟨⟨_,gZ _ rfl,rfl,rfl⟩,S.push _⟩
   exact k
  ·have hb:w.params.followText "set-order"=false:=by simpa using hb
   have hd:(!t.plain&&decide (es.size>1))=false:=hm.resolve_left (by rw[hb];decide);have W:=Walks.setInt (prog:=prog) (w:=w) (A:=A.in1) hh s.heap.objs.size d (cQ Xo) es ep t (es.toList.map (·.2)) (by simp) (bH t)
    (fun i s Q' E' hi S' q=>Ji S' hb hd hi (by rw[dD,Option.map_map,Yt]at q;exact q))
   have k:=key (s.heap.push (Ii (.int 0 0) d es.size ep)) _ _ _ _ s.drawn W (by simp;exact⟨cQ NZ,hld⟩) (aN _) (fun acc ha=>by
     have e:=lZ (L:=es.toList.map (·.2)) (acc:=acc) (by rw[aJ,sJ];exact ha);rw[e]) (S.push _) (fun b o e=>cV _ e) ⟨⟨_,gZ _ rfl,rfl,rfl⟩,S.push _⟩
   exact k
 ·have W:=Walks.setRef (prog:=prog) (w:=w) (A:=A.in1) hh (s.heap.objs.size+1) d s.heap.objs.size (cQ (qH Xo)) (cQ (sI _)) es ep t pl hp;have g0:(s.heap.push (nH pl)).get? s.heap.objs.size=some (nH pl):=gZ _ rfl;have k:=key ((s.heap.push (nH pl)).push (Ii (.ref s.heap.objs.size) d es.size ep)) _ _ _ _ dr W (by simp;exact⟨cQ (qH NZ),hld,cQ NZ⟩) (Ft _) (fun acc ha=>by
    have hl':pl.length=es.size:=by rw[hp.length_eq,wj]
    have e:acc.toList=(pl.filterMap fun p=>es[p]?).map (·.2):=by
     have ll:((pl.filterMap fun p=>es[p]?).map (·.2)).length=es.size:=by rw[aJ,(jH es hp).length_eq,sJ]
     refine lZ (L:=(pl.filterMap fun p=>es[p]?).map (·.2)) ?_;rw[ll];refine⟨ha.1,fun i v hv=> ?_⟩;obtain⟨p,x,q1,q2,rfl⟩:=ha.2 i v hv;rw[dD,Oz es pl (fun p hp'=>rH.mp (hp.mem_iff.mp hp')),q1];show(es[p]?).map _=_;rw[q2];rfl
    rw[e];exact(jH es hp).map _) ((S.push _).push _) (fun b o e=>cV _ (cV _ e))
    ⟨⟨Ii (.ref s.heap.objs.size) d es.size ep,by rw[<-Cq s.heap (nH pl)];exact gZ _ rfl,rfl,rfl⟩,(S.push _).push _,⟨_,cV _ g0,rfl,_,rfl⟩⟩
  exact k
end
end PySem
namespace PySem
open L2 (TabOk ou Np zB lG)
section
variable{prog:ρ}{w:υ}{A:χ}{E:L3}{s:η}
def aZ(prog:ρ)(w:υ)(h:Heap)(d:Addr)(S:Int->Bool)(n:Nat):Prop:=
 ∃o es ep t,h.get? d=some o/\o.ExactSet/\o.data= .set es ep t/\ElemsOf (intKind prog w) es.toList/\(∀k,S k=true↔∃e∈es.toList,(intKind prog w).is k e.2=true)/\es.size<scanBound/\t.fits es.size=true/\es.size=n/\TabOk (!w.params.followText "set-order") t
theorem aZ.at{h h':Heap}{d:Addr}{S:Int->Bool}{n:Nat}(g:aZ prog w h d S n)(e:∀o,h.get? d=some o->h'.get? d=some o):aZ prog w h' d S n:=let⟨o,es,ep,t,ho,r⟩:=g;⟨o,es,ep,t,e _ ho,r⟩
theorem aZ.congr{h:Heap}{d:Addr}{S S':Int->Bool}{n n':Nat}(g:aZ prog w h d S n)(e:∀k,S k=S' k)(en:n=n'):aZ prog w h d S' n':=by
 have:S=S':=funext e;subst this;subst en;exact g
theorem aZ.store{h:Heap}{d:Addr}{o:Obj}{es:Array (Int×ζ)}{ep:Nat}{t:ξ}(ho:h.get? d=some o)(hx:o.ExactSet)(hd:o.data= .set es ep t)
  {es':Array (Int×ζ)}{t':ξ}{S:Int->Bool}(el:ElemsOf (intKind prog w) es'.toList)(mem:∀k,S k=true↔∃e∈es'.toList,(intKind prog w).is k e.2=true)(lt:es'.size<scanBound)(ft:t'.fits es'.size=true)(tb:TabOk (!w.params.followText "set-order") t'):
  (h.update d (Obj.putSet es' t')).get? d=some {o with data:= .set es' (ep+1) t'}/\aZ prog w (h.update d (Obj.putSet es' t')) d S es'.size:=by
 obtain⟨g,_⟩:=SetOf_store (knd:=intKind prog w) ho hx hd el mem lt ft;exact⟨g,_,es',ep+1,t',g,hx,rfl,el,mem,lt,ft,rfl,tb⟩
theorem FZ{gw:Bool->Sem Unit}(hg:∀(b:Bool) (s₁:η) (Q':Unit->η->Prop),Q' () s₁->wpAny (model prog w) A (gw b) Q' E s₁){d:Addr}{o:Obj}{es:Array (Int×ζ)}{ep:Nat}{t:ξ}(ho:s.heap.get? d=some o)(hx:o.ExactSet)(hd:o.data= .set es ep t){es1:Array (Int×ζ)}{t1:ξ}{S:Int->Bool}(el:ElemsOf (intKind prog w) es1.toList)(mem:∀k,S k=true↔∃e∈es1.toList,(intKind prog w).is k e.2=true)(lt:es1.size<scanBound)(ft:t1.fits es1.size=true)(tb:TabOk (!w.params.followText "set-order") t1){was:Bool}{R:Option Bool->η->Prop}(q:∀h',Heap.SameBut d s.heap h'->aZ prog w h' d S es1.size->R (some true) {s with heap:=h'}):
  wpAny (model prog w) A (do
    storeSet d es1 t1
    if(!was&&t1.tooFull)=true then do
      gw (relayAll t1 es1 (SetTable.grown es1.size)).2.2
      storeSet d (relayAll t1 es1 (SetTable.grown es1.size)).1 (relayAll t1 es1 (SetTable.grown es1.size)).2.1
      pure (some true)
     else pure (some true)) R E s:=by
 refine ao (wfi ho hd ?_ (wfj lt));obtain⟨g1,G1⟩:=aZ.store (prog:=prog) (w:=w) ho hx hd el mem lt ft tb;have b1:=Cu s.heap d (Obj.putSet es1 t1);refine qI (fun _=> ?_) fun _=>aK (q _ b1 G1);have pm:=relayAll_perm t1 es1 (SetTable.grown es1.size);have ff:=relayAll_fits t1 es1 (SetTable.grown es1.size);have tt:=zB tb es1 (SetTable.grown es1.size);generalize relayAll t1 es1 (SetTable.grown es1.size)=r at pm ff tt⊢;obtain⟨es2,t2,gv⟩:=r;dsimp only at pm ff tt⊢;have sz:es2.size=es1.size:=by rw[<-sJ,pm.length_eq,sJ]
 refine ao (hg _ _ _ (ao (wfi g1 rfl ?_ (wfj (by rw[sz];exact lt)))));obtain⟨_,G2⟩:=aZ.store (prog:=prog) (w:=w) (S:=S) g1 hx rfl (el.perm pm) (fun k=>(mem k).trans ⟨fun⟨e,he,z⟩=>⟨e,pm.mem_iff.mpr he,z⟩,fun⟨e,he,z⟩=>⟨e,pm.mem_iff.mp he,z⟩⟩) (by rw[sz];exact lt) ff tt;rw[sz]at G2;exact aK (q _ (b1.trans (Cu _ d _)) G2)
theorem PN{d:Addr}{S:Int->Bool}{n:Nat}{k:Int}{x:ζ}{Q:Bool->η->Prop}(hk:(intKind prog w).is k x=true)(hs:x.scannable=true)(G:aZ prog w s.heap d S n)(room:n+1<scanBound)(q:∀h' b,Heap.SameBut d s.heap h'->aZ prog w h' d (fun k'=>S k'||decide (k'=k)) (if S k then n else n+1)->Q b {s with heap:=h'}):wpAny (model prog w) A (setAddHashed d x ((intKind prog w).hash k)) Q E s:=by
 obtain⟨o,es,ep,t,ho,hx,hd,el,mem,lt,ft,en,tb⟩:=G;unfold setAddHashed setAddHashedIn;refine uX (ao (wdm ho hd ft ?_));dsimp only;rw[byScan_of hs lt el];simp only[↓reduceIte];unfold setAddByScan;refine ao (ao (Uk (ao (wpAny_setScan_of hk ho hd ft el ?_))));cases z:List.findIdx? (fun e=>(intKind prog w).is k e.2) es.toList with
 |some j=>
  obtain⟨hj,pj,_⟩:=List.findIdx?_eq_some_iff_getElem.mp z;have yes:S k=true:=(mem k).mpr ⟨es.toList[j],Ko hj,pj⟩;refine aK (aK ?_);have r:=q s.heap false (YH d s.heap) ⟨o,es,ep,t,ho,hx,hd,el,fun k'=>by
   rw[wei,HX,<-mem k'];exact⟨fun y=>y.elim id fun e=>e▸yes,.inl⟩,lt,ft,by rw[yes];exact en,tb⟩
  exact r
 |none=>
  dsimp only;have no:S k=false:=by
   cases y:S k with
   |false=>rfl
   |true=>
    obtain⟨e,he,p⟩:=(mem k).mp y;have:=List.findIdx?_eq_none_iff.mp z e he;rw[p]at this;cases this
  have gwk:∀(b:Bool) (s₁:η) (Q':Unit->η->Prop),Q' () s₁->wpAny (model prog w) A (match b with |true=>rule "set.scan.the-table-gave-way"|false=>pure ()) Q' E s₁:=fun b s₁ Q' y=>by cases b<;>first |exact aK y|exact Uk y
  have pm:=layNew_perm t es ((intKind prog w).hash k) x;have ff:=layNew_fits t es ((intKind prog w).hash k) x;have tt:=Np tb es ((intKind prog w).hash k) x;generalize layNew t es ((intKind prog w).hash k) x=r at pm ff tt⊢;obtain⟨es1,t1,was,gv⟩:=r;dsimp only at pm ff tt⊢;rw[Array.toList_push]at pm;have el1:ElemsOf (intKind prog w) es1.toList:=(el.push hk hs).perm pm;have Xb:=mem_push_iff (knd:=intKind prog w) hk mem pm;have sz:es1.size=n+1:=by rw[<-sJ,pm.length_eq,gB,sJ,en];rfl
  have Y4:es1.size<scanBound:=by rw[sz];exact room
  refine ao (gwk _ _ _ ?_);have fin:∀h',Heap.SameBut d s.heap h'->aZ prog w h' d (fun k'=>S k'||decide (k'=k)) es1.size->wpAny (model prog w) A (match some true with |some added=>pure added|none=>setAddHashedIn d x ((intKind prog w).hash k) 99999) Q E {s with heap:=h'}:=fun h' sb g=>by
   have r:=q h' true sb (by rw[no];rw[sz]at g;exact g);exact aK r
  split
  ·refine ao ?_;rw[hashByValue_scannable 8 hs];refine aK (FZ gwk ho hx hd el1 Xb Y4 ?_ ?_ fin)
   ·split
    ·exact ff
    ·exact SetTable.fits_plain_off ff
   ·split
    ·exact tt
    ·exact lG tt
  ·refine ao (aK ?_);simp only[↓reduceIte];exact FZ gwk ho hx hd el1 Xb Y4 ff tt fin
end
end PySem
namespace L2
open PySem PySem.Spec PyProof.Rows
section
variable{prog:ρ}{w:υ}{A:χ}{E:L3}{s:η}
theorem lC(a:ζ){Q₁:L3}(h:Q₁ (.ref s.heap.objs.size) {s with heap:=s.heap.push {cls:= .type "set",dict:=none,data:= .set #[] 0 (.fresh 0 0 (!w.params.followText "set-order"))}}):
  codeAny (model prog w) A (.call (.builtin "set.__new__") ⟨[.type "set",a],[]⟩) (wants Q₁ E) s:=by
 refine wgm ?_;show wpAny _ A.in1 (do checkBuiltinCall "set.__new__" ⟨[.type "set",a],[]⟩;again (.builtin "set.__new__" ⟨[.type "set",a],[]⟩)) _ _ s;refine ao (whg (PySem.F.newCall_set_1 a) (aK ⟨Uo wgn _,Cr PySem.F.entry_set_new ?_⟩));rw[QW wgn _];unfold Builtin.«set.__new__» Builtin.Frozenset.newClass;have hsub:=wgo;obtain⟨hp,g,d,tk,os⟩:=s;dsimp only
 wp_walk
 refine wdu (aK ?_);dsimp only;simp only[newObj];refine ao (wpAny_alloc (aK ?_));exact aK h
end
section
variable{prog:ρ}{w:υ}{A:χ}{R:Result->η->Prop}{I:Addr}{fp wr:List Addr}{G:Array GenState->Array GenState->Prop}{n:Nat}{P:Nat->ζ->Prop}{St:Nat->η->Prop}
theorem Vg(W:WalksS prog w A.in1 I fp wr G n P St)(D:Addr)(hD:D∉fp)(val:Nat->Int)(hv:∀i v,P i v->∃t,v= .int (val i) t)(hb:n+1<scanBound):
  ∀(k i:Nat) (s:η),n-i=k->i<=n->St i s->aZ prog w s.heap D (fun k'=>(firstMet val i).any (· ==k')) (firstMet val i).length->
   (∀s',Moved (D::wr) G s s'->aZ prog w s'.heap D (fun k'=>(firstMet val n).any (· ==k')) (firstMet val n).length->R (.ok (.ret .none)) s')->
   codeAny (model prog w) A (.builtin "set.update.loop" ⟨[.ref D,.ref I],[]⟩) R s:=by
 have hw:D∉wr:=fun h=>hD (W.sub _ h);have sub:∀b∈wr,b∈D::wr:=fun b hb=>dZ _ hb;intro k
 induction k with
 |zero=>
  intro i s hk hi st g hR;obtain rfl:i=n:=by omega
  refine Cr wcu ?_;rw[QW wbp _];show wpAny _ A.in1 (pyNext (.ref I)>>=_) _ _ s;refine ao (W.done s _ _ st fun s' hm=> ?_);show wpAny _ A.in1 (ret Value.none) _ _ s';exact aK (hR s' (hm.mono sub) (g.at fun o e=>hm.heap D _ hw e))
 |succ k ih=>
  intro i s hk hi st g hR;have lt:i<n:=by omega
  refine Cr wcu ?_;rw[QW wbp _];show wpAny _ A.in1 (pyNext (.ref I)>>=_) _ _ s;refine ao (W.item i s _ _ lt st fun v s' hP st' hm=> ?_);obtain⟨t,rfl⟩:=hv i v hP;have g':=g.at (h':=s'.heap) fun o e=>hm.heap D _ hw e;show wpAny _ A.in1 (holding [Value.int (val i) t] (setAdd D (.int (val i) t))>>=_) _ _ s';refine ao (uX ?_);unfold setAdd;refine uX (ao ((intKind prog w).pyHash (k:=val i) (intKind_is _ _ _ _) ?_));refine PN (s:={s' with toks:=s'.toks+1}) (intKind_is _ _ _ _) rfl g' (by have:=wes val i;omega) fun h' _ sb g2=> ?_;refine aK ⟨Uo wbp _,ih (i+1) _ (by omega) lt (W.frame _ s' _ _ st' (Ft _) fun b hb o e=> ?_) (g2.congr (fun k'=>by rw[wfu,step_any]) (by rw[wfu,step_length])) fun s'' hm'' g3=> ?_⟩
  ·rw[sb.2 b (fun h:b=D=>hD (by rw[<-h];exact hb))];exact e
  ·refine hR s'' (Moved.trans W.gtrans ((hm.mono sub).then_heap (Ft _) fun b o hb e=> ?_) hm'') g3;rw[sb.2 b (fun h:b=D=>hb (by rw[h];exact dY))];exact e
end
section
variable{prog:ρ}{w:υ}{A:χ}{E:L3}{s:η}
theorem tL{t:Addr}{its:Array ζ}{ns:List Int}{Q:L3}(hA:A.handled=none)(ht:s.heap.IsTuple t its)(hI:PyProof.Rows.IntsAre its.toList ns)(hz:its.size+1<scanBound)(fin:∀(g:Heap) (tk:Nat),aZ prog w g s.heap.objs.size (fun k'=>(firstMet (fun i=>ns.getD i 0) its.size).any (· ==k')) (firstMet (fun i=>ns.getD i 0) its.size).length->(∀b o,b<s.heap.objs.size->s.heap.get? b=some o->g.get? b=some o)->Q (.ref s.heap.objs.size) {s with heap:=g,toks:=tk}):
  wpAny (model prog w) A (call (.type "set") [.ref t]) Q E s:=by
 obtain⟨c,tl,q1⟩:=F.called_set.mro;have q2:=F.called_set.made;have q3:=F.called_set.sub;refine Ul (wgm ?_);show wpAny _ _ (callAny (.type "set") _) _ _ _;refine aK ⟨wcj _ (by decide+kernel),Cr wfv ?_⟩;rw[Around.under_plain (weight_type_call_type "set" [.ref t] []) rfl];have q4:=F.called_set.notType;have q5:=F.called_set.canCreate;have q6:=F.typeCall_set_1 (.ref t)
 repeat(any_goals(first |assumption|wp_step))
 refine Qu (lC (.ref t) (E:=E) (Q₁:=fun ob u=>ob= .ref s.heap.objs.size/\u={s with heap:=s.heap.push {cls:= .type "set",dict:=none,data:= .set #[] 0 (.fresh 0 0 (!w.params.followText "set-order"))}}) ⟨rfl,rfl⟩) fun r u hr=> ?_;cases r with
 |error e=>exact hr
 |ok fl=>
  cases fl with
  |ret obj=>
   obtain⟨rfl,rfl⟩:=hr;generalize Xl:(!w.params.followText "set-order")=led at *;have g0:(s.heap.push {cls:= .type "set",dict:=none,data:= .set #[] 0 (.fresh 0 0 led)}).get? s.heap.objs.size=some {cls:= .type "set",dict:=none,data:= .set #[] 0 (.fresh 0 0 led)}:=gZ _ rfl;have g1:Shared.TypeIs {s with heap:=s.heap.push {cls:= .type "set",dict:=none,data:= .set #[] 0 (.fresh 0 0 led)}} (.ref s.heap.objs.size) "set":=⟨_,g0,rfl⟩;have q7:=F.called_set.init.lookup;have q8:=F.called_set.init.bind (.ref s.heap.objs.size)
   repeat(any_goals(first |assumption|wp_step))
   refine Qu (wcr (R:=wants (fun r s₂=>r= .none/\∃g tk,s₂={s with heap:=g,toks:=tk}/\aZ prog w g s.heap.objs.size (fun k'=>(firstMet (fun i=>ns.getD i 0) its.size).any (· ==k')) (firstMet (fun i=>ns.getD i 0) its.size).length/\(∀b o,b<s.heap.objs.size->s.heap.get? b=some o->g.get? b=some o)) E) F.called_set.init.plain F.entry_set_init (check_set_init_1 g1 ?_)) fun r₂ s₂ hr₂=> ?_
   ·obtain⟨⟨oc,od,oda,os⟩,ho,hc,nl,hd⟩:=ht;simp only at hc hd;subst hc hd;have ho':(s.heap.push {cls:= .type "set",dict:=none,data:= .set #[] 0 (.fresh 0 0 led)}).get? t=some {cls:= .type "tuple",dict:=od,data:= .seq its nl,slots:=os}:=cV _ ho;have b1:=PySem.F.sub_tuple_set;have b2:=PySem.F.sub_tuple_frozenset;have b3:(Value.type "tuple"==Value.type "dict")=false:=by decide
    have ht1:(s.heap.push {cls:= .type "set",dict:=none,data:= .set #[] 0 (.fresh 0 0 led)}).IsTuple t its:=⟨_,ho',rfl,nl,rfl⟩;unfold Builtin.«set.__init__» noKeywords Builtin.Frozenset.updateFrom;generalize hPI:pyIter=PI
    wp_walk
    subst hPI;refine wpAny_pyIter_tuple ht1 (ao (wdo ?_));have lt:t<s.heap.objs.size:=cR ho;have hA3:A.in1.in1.in1.handled=none:=by simp[hA]
    have nI:t≠(s.heap.push {cls:= .type "set",dict:=none,data:= .set #[] 0 (.fresh 0 0 led)}).objs.size:=by rw[Cq];exact cQ (qH lt)
    have nf:s.heap.objs.size∉[(s.heap.push {cls:= .type "set",dict:=none,data:= .set #[] 0 (.fresh 0 0 led)}).objs.size,t]:=by
     rw[Cq];simp only[cF,fL,QS,QT,not_or];exact⟨cQ (sI _),Cp lt⟩
    refine Vg ((Walks.tuple hA3 _ t nI its).toS) s.heap.objs.size nf (fun i=>ns.getD i 0) (fun i v hv=>IntsAre.int_at hI i v (by rw[Yt];exact hv)) hz (its.size-0) 0 _ (by omega) (dB _)
     ⟨⟨_,gZ _ rfl,rfl,rfl⟩,ht1.at fun o e=>cV _ e⟩ ?hS0 ?hR
    case hS0=>exact⟨_,#[],0,_,cV _ g0,⟨rfl,rfl,rfl⟩,rfl,fun e he=>by simp at he,fun k=>by simp[firstMet],by unfold scanBound;simp,rfl,rfl,by rw[Xl];exact nU led⟩
    case hR=>
     intro s' hm hS';obtain⟨g,g',d',tk',os'⟩:=s';obtain⟨rfl,rfl,rfl⟩:g'=s.gens/\d'=s.drawn/\os'=s.os:=⟨hm.gens,hm.drawn,hm.os⟩;show wpAny _ _ _ _ _ _;refine aK ?_;show wpAny _ _ (ret Value.none) _ _ _;refine aK ⟨rfl,g,tk',rfl,hS',fun b o hb e=>hm.heap b o ?_ (cV _ (cV _ e))⟩;have n1:b≠s.heap.objs.size:=cQ hb;have n2:b≠(s.heap.push {cls:= .type "set",dict:=none,data:= .set #[] 0 (.fresh 0 0 led)}).objs.size:=by rw[Cq];exact cQ (qH hb)
     simp only[cF,fL,QS,QT,not_or];exact⟨n1,n2⟩
   ·cases r₂ with
    |error e=>exact hr₂
    |ok fl₂=>
     cases fl₂ with
     |ret r=>
      obtain⟨rfl,g,tk,rfl,hS',hk'⟩:=hr₂
      repeat(any_goals(first |assumption|wp_step))
      exact fin _ _ hS' hk'
     |_=>exact hr₂.elim
  |_=>exact hr.elim
theorem vL{t:Addr}{its:Array ζ}{ns:List Int}{Q:L3}(hA:A.handled=none)(ht:s.heap.IsList t its)(hI:PyProof.Rows.IntsAre its.toList ns)(hz:its.size+1<scanBound)(fin:∀(g:Heap) (tk:Nat),aZ prog w g s.heap.objs.size (fun k'=>(firstMet (fun i=>ns.getD i 0) its.size).any (· ==k')) (firstMet (fun i=>ns.getD i 0) its.size).length->(∀b o,b<s.heap.objs.size->s.heap.get? b=some o->g.get? b=some o)->Q (.ref s.heap.objs.size) {s with heap:=g,toks:=tk}):
  wpAny (model prog w) A (call (.type "set") [.ref t]) Q E s:=by
 obtain⟨c,tl,q1⟩:=F.called_set.mro;have q2:=F.called_set.made;have q3:=F.called_set.sub;refine Ul (wgm ?_);show wpAny _ _ (callAny (.type "set") _) _ _ _;refine aK ⟨wcj _ (by decide+kernel),Cr wfv ?_⟩;rw[Around.under_plain (weight_type_call_type "set" [.ref t] []) rfl];have q4:=F.called_set.notType;have q5:=F.called_set.canCreate;have q6:=F.typeCall_set_1 (.ref t)
 repeat(any_goals(first |assumption|wp_step))
 refine Qu (lC (.ref t) (E:=E) (Q₁:=fun ob u=>ob= .ref s.heap.objs.size/\u={s with heap:=s.heap.push {cls:= .type "set",dict:=none,data:= .set #[] 0 (.fresh 0 0 (!w.params.followText "set-order"))}}) ⟨rfl,rfl⟩) fun r u hr=> ?_;cases r with
 |error e=>exact hr
 |ok fl=>
  cases fl with
  |ret obj=>
   obtain⟨rfl,rfl⟩:=hr;generalize Xl:(!w.params.followText "set-order")=led at *;have g0:(s.heap.push {cls:= .type "set",dict:=none,data:= .set #[] 0 (.fresh 0 0 led)}).get? s.heap.objs.size=some {cls:= .type "set",dict:=none,data:= .set #[] 0 (.fresh 0 0 led)}:=gZ _ rfl;have g1:Shared.TypeIs {s with heap:=s.heap.push {cls:= .type "set",dict:=none,data:= .set #[] 0 (.fresh 0 0 led)}} (.ref s.heap.objs.size) "set":=⟨_,g0,rfl⟩;have q7:=F.called_set.init.lookup;have q8:=F.called_set.init.bind (.ref s.heap.objs.size)
   repeat(any_goals(first |assumption|wp_step))
   refine Qu (wcr (R:=wants (fun r s₂=>r= .none/\∃g tk,s₂={s with heap:=g,toks:=tk}/\aZ prog w g s.heap.objs.size (fun k'=>(firstMet (fun i=>ns.getD i 0) its.size).any (· ==k')) (firstMet (fun i=>ns.getD i 0) its.size).length/\(∀b o,b<s.heap.objs.size->s.heap.get? b=some o->g.get? b=some o)) E) F.called_set.init.plain F.entry_set_init (check_set_init_1 g1 ?_)) fun r₂ s₂ hr₂=> ?_
   ·obtain⟨⟨oc,od,oda,os⟩,ho,hc,nl,hd⟩:=ht;simp only at hc hd;subst hc hd;have ho':(s.heap.push {cls:= .type "set",dict:=none,data:= .set #[] 0 (.fresh 0 0 led)}).get? t=some {cls:= .type "list",dict:=od,data:= .seq its nl,slots:=os}:=cV _ ho;have b1:=PySem.F.sub_list_set;have b2:=PySem.F.sub_list_frozenset;have b3:(Value.type "list"==Value.type "dict")=false:=by decide
    have ht1:(s.heap.push {cls:= .type "set",dict:=none,data:= .set #[] 0 (.fresh 0 0 led)}).IsList t its:=⟨_,ho',rfl,nl,rfl⟩;unfold Builtin.«set.__init__» noKeywords Builtin.Frozenset.updateFrom;generalize hPI:pyIter=PI
    wp_walk
    subst hPI;refine YK ht1 (ao (wdo ?_));have lt:t<s.heap.objs.size:=cR ho;have hA3:A.in1.in1.in1.handled=none:=by simp[hA]
    have nI:t≠(s.heap.push {cls:= .type "set",dict:=none,data:= .set #[] 0 (.fresh 0 0 led)}).objs.size:=by rw[Cq];exact cQ (qH lt)
    have nf:s.heap.objs.size∉[(s.heap.push {cls:= .type "set",dict:=none,data:= .set #[] 0 (.fresh 0 0 led)}).objs.size,t]:=by
     rw[Cq];simp only[cF,fL,QS,QT,not_or];exact⟨cQ (sI _),Cp lt⟩
    refine Vg ((Yw hA3 _ t nI its).toS) s.heap.objs.size nf (fun i=>ns.getD i 0) (fun i v hv=>IntsAre.int_at hI i v (by rw[Yt];exact hv)) hz (its.size-0) 0 _ (by omega) (dB _)
     ⟨⟨_,gZ _ rfl,rfl,rfl⟩,ht1.push _⟩ ?hS0 ?hR
    case hS0=>exact⟨_,#[],0,_,cV _ g0,⟨rfl,rfl,rfl⟩,rfl,fun e he=>by simp at he,fun k=>by simp[firstMet],by unfold scanBound;simp,rfl,rfl,by rw[Xl];exact nU led⟩
    case hR=>
     intro s' hm hS';obtain⟨g,g',d',tk',os'⟩:=s';obtain⟨rfl,rfl,rfl⟩:g'=s.gens/\d'=s.drawn/\os'=s.os:=⟨hm.gens,hm.drawn,hm.os⟩;show wpAny _ _ _ _ _ _;refine aK ?_;show wpAny _ _ (ret Value.none) _ _ _;refine aK ⟨rfl,g,tk',rfl,hS',fun b o hb e=>hm.heap b o ?_ (cV _ (cV _ e))⟩;have n1:b≠s.heap.objs.size:=cQ hb;have n2:b≠(s.heap.push {cls:= .type "set",dict:=none,data:= .set #[] 0 (.fresh 0 0 led)}).objs.size:=by rw[Cq];exact cQ (qH hb)
     simp only[cF,fL,QS,QT,not_or];exact⟨n1,n2⟩
   ·cases r₂ with
    |error e=>exact hr₂
    |ok fl₂=>
     cases fl₂ with
     |ret r=>
      obtain⟨rfl,g,tk,rfl,hS',hk'⟩:=hr₂
      repeat(any_goals(first |assumption|wp_step))
      exact fin _ _ hS' hk'
     |_=>exact hr₂.elim
  |_=>exact hr.elim
end
end L2
namespace qR
open PySem PySem.W PyProof.Rows PySem.Calls
section
variable{prog:ρ}{w:υ}{A:χ}{E:L3}{s:η}
theorem Br{d:Addr}{es:Array (Int×ζ)}{ep:Nat}{t:ξ}{Q:List ζ->η->Prop}(hA:A.handled=none)(S:aY w s.heap d es ep t)(hz:es.size<=1000)(h:∀h' tk dr items,(∀b o,s.heap.get? b=some o->h'.get? b=some o)->s.heap.objs.size<=h'.objs.size->List.Perm items (es.toList.map (·.2))->Q items {s with heap:=h',toks:=tk,drawn:=dr}):
  wpAny (model prog w) A (collect (.ref d)) Q E s:=by
 unfold collect;refine ao (wdo (Cr entry_proto_collect' ?_));show wpAny _ _ (do again (.builtin "list.__iadd__" ⟨[<-newList [],.ref d],[]⟩)) _ _ s;refine ao (V0 (aK ⟨wcj _ (by decide+kernel),Cr entry_list_iadd' ?_⟩));rw[QW PySem.F.plain_list_iadd _];show wpAny _ _ (Builtin.List.listExtendWith (.ref s.heap.objs.size) (.ref d) (.ref s.heap.objs.size)) _ _ {s with heap:=s.heap.push (seqObj "list" #[] 0)};refine Ed (R:=fun r s'=>match r with
   | .ok (.ret v)=>wpAny (model prog w) A (match v with
    | .ref a=>do match(<-load a).data with
     | .seq xs _=>pure xs.toList
     |_=>unsupported "internal:collect"
    |_=>unsupported "internal:collect") Q E s'
   | .ok _=>False
   | .error e=>E e s') (s:={s with heap:=s.heap.push (seqObj "list" #[] 0)}) (by simpa using hA) (S.push _) hz s.heap.objs.size _ 0 (gZ _ rfl) fun h' tk dr acc c keep hl pm=> ?_
 show wpAny (model prog w) A (load s.heap.objs.size>>=_) Q E _;refine ao (Z8 hl ?_);exact aK (h h' tk dr acc.toList (fun b o e=>keep b o (cQ (cR e)) (cV _ e)) (cW (cR hl)) pm)
end
end qR
namespace L2
open PySem PySem.Spec PyProof.Rows
def iv:ζ->Int
 | .int k _=>k
 |_=>0
theorem FJ:∀{us:List ζ},(∀v∈us,∃k t,v= .int k t)->Vals ((us.map iv).map V.int) us
 |[],_=> .nil
 |v::us,h=>by
  obtain⟨k,t,rfl⟩:=h v dY;exact .cons ⟨t,rfl⟩ (FJ fun u hu=>h u (dZ _ hu))
theorem Vc:∀{c t:List Int},c.Nodup->(∀x∈c,x∈t)->c.length<=t.length
 |[],_,_,_=>dB _
 |x::c,t,nd,h=>by
  have hx:=h x dY;rw[Km]at nd;have z:=Vc (c:=c) (t:=t.erase x) nd.2 fun y hy=>(wdw (fun e:y=x=>nd.1 (e▸hy))).mpr (h y (dZ _ hy));rw[wcz hx]at z;have p:0<t.length:=Yu hx;rw[uW];omega
theorem Jl:∀{c t:List Int},c.Nodup->(∀x∈c,x∈t)->t.length<=c.length->t.Nodup:=by
 intro c t nd sub len;refine QX fun no=> ?_;obtain⟨x,hx⟩:∃x,2<=t.count x:=by
  refine QX fun n2=>no (List.nodup_iff_count.mpr fun a=> ?_);exact wdq fun c2=>n2 ⟨a,c2⟩
 have hm:x∈t:=List.count_pos_iff.mp (by omega);have z:=Vc (c:=c) (t:=t.erase x) nd fun y hy=>by
  by_cases e:y=x
  ·subst e;exact List.count_pos_iff.mp (by rw[List.count_erase_self];omega)
  ·exact(wdw e).mpr (sub y hy)
 rw[wcz hm]at z;have p:0<t.length:=Yu hm;omega
section
variable{prog:ρ}{w:υ}{s:η}
theorem jP(val:Nat->Int):∀n,(firstMet val n).Nodup
 |0=> .nil
 |n+1=>by
  rw[wfu];unfold step_dedup;split
  ·exact jP val n
  ·rename_i h;rw[List.nodup_append];refine⟨jP val n,by simp,fun a ha b hb e=>h ?_⟩;rw[Yn];rw[fL.mp hb]at e;exact⟨a,ha,by simp[e]⟩
theorem Ij{d:Addr}{n:Nat}{val:Nat->Int}(G:aZ prog w s.heap d (fun k'=>(firstMet val n).any (· ==k')) (firstMet val n).length):
  ∃es ep t,aY w s.heap d es ep t/\es.size=(firstMet val n).length/\(∀v∈es.toList.map (·.2),∃k t,v= .int k t)/\((es.toList.map (·.2)).map iv).Nodup/\∀k,k∈(es.toList.map (·.2)).map iv↔k∈firstMet val n:=by
 obtain⟨o,es,ep,t,ho,hx,hd,el,mem,lt,ft,en,tb⟩:=G;have SX:∀v∈es.toList.map (·.2),∃k t,v= .int k t:=fun v hv=>by
  obtain⟨e,he,rfl⟩:=kj.mp hv;obtain⟨⟨k,hk,_⟩,_⟩:=el e he;exact⟨k,YL (k:=k) (v:=e.2) hk⟩
 have mm:∀k,k∈(es.toList.map (·.2)).map iv↔k∈firstMet val n:=fun k=>by
  have m:=mem k;have e1:(firstMet val n).any (· ==k)=true↔k∈firstMet val n:=by
   rw[Yn];exact⟨fun⟨x,hx,e⟩=>by rw[<-beq_iff_eq.mp e];exact hx,fun h=>⟨k,h,by simp⟩⟩
  rw[<-e1,m];constructor
  ·intro h;obtain⟨v,hv,rfl⟩:=kj.mp h;obtain⟨j,tk,rfl⟩:=SX v hv;obtain⟨e,he,e2⟩:=kj.mp hv;exact⟨e,he,by rw[e2];exact intKind_is _ _ _ _⟩
  ·rintro⟨e,he,z⟩;obtain⟨tk,e2⟩:=YL (k:=k) (v:=e.2) z;exact kj.mpr ⟨e.2,kj.mpr ⟨e,he,rfl⟩,by rw[e2];rfl⟩
 refine⟨es,ep,t,⟨⟨o,ho,hx,hd⟩,ft,tb⟩,en,SX,?_,mm⟩;exact Jl (jP val n) (fun x hx=>(mm x).mpr hx) (by rw[aJ,aJ,sJ,en];exact aN _)
end
end L2
namespace qR
open PySem PySem.W PyProof.Rows PySem.Calls
section
variable{prog:ρ}{w:υ}{A:χ}{E:L3}{s:η}
theorem CZ{d:Addr}{es:Array (Int×ζ)}{ep:Nat}{t:ξ}{Q:L3}(hA:A.handled=none)(S:aY w s.heap d es ep t)(h64:es.size<64)(hi:∀v∈es.toList.map (·.2),∃k t,v= .int k t)(q:∀D h' tk dr out c (ys:List Int),ys.Perm ((es.toList.map (·.2)).map L2.iv)->ys.Pairwise (· <= ·)->L2.Vals (ys.map L2.V.int) out->s.heap.objs.size<=D->(∀b o,s.heap.get? b=some o->h'.get? b=some o)->h'.get? D=some (seqObj "list" (List.toArray out) c)->Q (.ref D) {s with heap:=h',toks:=tk,drawn:=dr}):
  wpAny (model prog w) A (call (.builtin "sorted") [.ref d]) Q E s:=by
 refine wcs kind_sorted plain_sorted entry_sorted (args_sorted1 _) ?_;unfold Builtin.«sorted»;refine ao (m:=checkCount "sorted" 1 1 _) (aK (ao (Br (by simpa using hA) S (by omega) fun h1 tk dr vs Vi le pm=> ?_)));have hi':∀v∈vs,∃k t,v=Value.int k t:=fun v hv=>hi v (pm.mem_iff.mp hv);have rv:=L2.FJ hi';have pm':(vs.map L2.iv).Perm ((es.toList.map (·.2)).map L2.iv):=pm.map _;have hl:vs.length=es.size:=by rw[pm.length_eq,aJ,sJ]
 have xM:(vs.map L2.iv).length=vs.length:=aJ _;generalize vs.map L2.iv=ns at *;have pr:=L2.ju rv;have hI:IntsAre vs ns:=L2.intsAre_of rv;refine ao (V0 ?_ (by rw[eE];omega));have hoL:(h1.push (seqObj "list" vs.toArray 0)).get? h1.objs.size=some (seqObj "list" vs.toArray 0):=gZ _ rfl;have keep:∀b o,s.heap.get? b=some o->(h1.push (seqObj "list" vs.toArray 0)).get? b=some o:=fun b o e=>cV _ (Vi b o e);have ne:∀b o,s.heap.get? b=some o->b≠h1.objs.size:=fun b o e=>cQ (cR (Vi b o e));refine ao (uX (HW slot_list_sort ⟨_,hoL,rfl⟩ entry_list_sort ?body (args_list_sort _)))
 case body=>
  refine gY (O:=ux) (key:=fun i=>ns.getD i 0) (κ:=oneType') (s:={s with heap:=h1.push (seqObj "list" vs.toArray 0),toks:=tk,drawn:=dr}) hoL (by omega)
   (fun h2 h' k Q hq=> ?_) (fun h2 h' k=> ?_) fun h' out c ho k hc=> ?_
  ·rw[ksk_kind (kz:=ns) (by simpa using hI) (by simpa using h2)];exact aK hq
  ·intro i j C hi hj hC;rw[<-xM]at hi hj;unfold PySem.W.kas_ask;obtain⟨t1,e1⟩:=L2.rZ pr i hi;obtain⟨t2,e2⟩:=L2.rZ pr j hj;rw[e1,e2];refine PySem.W.kat_lt_int ?_;have hC':C (decide (ns.getD i 0<ns.getD j 0)) _:=hC;have e3:ns.getD i 0=ns[i]:=by simp[hi]
   have e4:ns.getD j 0=ns[j]:=by simp[hj]
   rw[e3,e4]at hC';exact hC'
  ·obtain⟨ys,hp,hr,hw⟩:=qR.wQ (d:=(0:Int)) (f:=fun p=>p) pr (fun i hi=>by show ns.getD i 0=_;simp[hi]) ho;refine⟨_,rfl,aK ⟨_,rfl,q _ h' tk dr out c ys (hp.trans pm') (hw.imp fun{x y} hxy=> ?_) (L2.jJ hr) le (fun b o e=>k b o (ne b o e) (keep b o e)) hc⟩⟩;have:decide (y<x)=false:=hxy;have:=V4 this;omega
end
end qR
namespace L2
open PySem PySem.Spec PyProof.Rows
section
variable{X:Cx}{a:Expr}{ta:TA}{p p' pos pos':Pos}
def KR(K:W.Frag)(ta:TA):TE:=fun σ H Q=>ta σ H fun vs H1=>∃(b:Bool) (l:Addr) (ns:List Int),vs=[.ref l]/\TY K b H1 l (ns.map V.int)/\ns.length<60/\
 ∀(r:Addr) (ys:List Int),H1 r=none->ys.Pairwise (· < ·)->(∀k,k∈ys↔k∈ns)->Q (.ref r) (upd H1 r (.lst (ys.map V.int)))
theorem wL(hc:X.calm=true)(Xn:Gl X "sorted")(hmL:X.mg "sorted"=none)(hg:Gl X "set")(hm:X.mg "set"=none)(ha:PA X [a] ta)(hs:starEach [a] X.env=[(false,eval a X.env)]:=by rfl)(hs2:starEach [Expr.Call (.Name "set" p') [a] [] pos'] X.env=[(false,eval (Expr.Call (.Name "set" p') [a] [] pos') X.env)]:=by rfl):
  PE X (.Call (.Name "sorted" p) [.Call (.Name "set" p') [a] [] pos'] [] pos) (KR X.K ta):=by
 intro pins s σ H Q I h;refine Kv (yt I Xn hmL (show bootBuiltins "sorted"=some (.builtin "sorted")from by decide+kernel) ?_ (by decide) (by decide));refine wcb ?_ hs2 rfl;rw[hs2];refine YM ?_;refine Call_ (yt I hg hm (show bootBuiltins "set"=some (.type "set")from by decide+kernel) (Ia (thn (ha pos' pins s σ H _ I h) fun us s1 ⟨vs,H1,I1,r1,q1⟩=> ?_) hs rfl));obtain⟨b,l,ns,e,hq,hz,q⟩:=q1;subst e;cases r1 with
 |cons r rr=>
  cases rr;cases r;have main:∀its:List ζ,Vals (ns.map V.int) its->∀(g:Heap) (tk:Nat),aZ X.prog X.w g s1.heap.objs.size (fun k'=>(firstMet (fun i=>ns.getD i 0) its.toArray.size).any (· ==k')) (firstMet (fun i=>ns.getD i 0) its.toArray.size).length->(∀b o,b<s1.heap.objs.size->s1.heap.get? b=some o->g.get? b=some o)->
    wpAny (model X.prog X.w) X.A (call (.builtin "sorted") [.ref s1.heap.objs.size]) (EP X pins σ Q) X.xe {s1 with heap:=g,toks:=tk}:=by
   intro its rv g tk G keep;have xM:its.toArray.size=ns.length:=by rw[fu];exact YB (intsAre_of rv)
   obtain⟨es,ep,t,S,en,SX,nd,mm⟩:=Ij (s:={s1 with heap:=g,toks:=tk}) G;have hle:=wes (fun i=>ns.getD i 0) its.toArray.size;have szg:s1.heap.objs.size<=g.objs.size:=by obtain⟨o,ho,_⟩:=S.ob;exact cW (cR ho)
   refine qR.CZ (s:={s1 with heap:=g,toks:=tk}) (I.ok.hd hc) S (by omega) SX fun D h' tk' dr out c ys hp hw rv' hD k hO=> ?_;have zl:(ys.map V.int).length<=sizeLine:=by
    have h1:=hp.length_eq;have h2:es.toList.length=es.size:=sJ;simp only[aJ]at h1;rw[aJ,eE];omega
   have J:Inv X pins σ (upd H1 D (.lst (ys.map V.int))) {s1 with heap:=h',toks:=tk'}:=I1.laid (fun b o e=>k b o (keep b o (cR e) e)) (dO szg hD) ⟨zl,out,c,rv',hO⟩;have J':Inv X pins σ (upd H1 D (.lst (ys.map V.int))) {s1 with heap:=h',toks:=tk',drawn:=dr}:=⟨J.ok,J.os,J.bare,J.base,J.loc,J.cell,J.free,J.freeC,J.pin,J.hok,J.len⟩;refine⟨.ref D,_,J',rfl,q D ys (I1.hok.fresh (dO szg hD)) ?_ fun k=> ?_⟩
   ·have nd':ys.Nodup:=hp.nodup_iff.mpr nd;have both:=hw.and nd';exact both.imp fun{x y} h=>by have:=h.1;have:=h.2;omega
   ·rw[hp.mem_iff,mm,xM,fH,wg];exact aN _
  cases b with
  |true=>
   obtain⟨its,rv,pl,_⟩:=I1.tuple (show SqT X.K H1 l (ns.map V.int)from hq);have hi:IntsAre its ns:=intsAre_of rv;have xM:its.length=ns.length:=YB hi;refine tL (ns:=ns) (I.ok.hd hc) (show s1.heap.IsTuple l its.toArray from pl) (by simpa using hi) (by unfold scanBound;simp;omega) fun g tk G keep=> ?_;exact V3 (main its rv g tk G keep)
  |false=>
   obtain⟨its,rv,pl,_⟩:=I1.list (show SqL X.K H1 l (ns.map V.int)from hq);have hi:IntsAre its ns:=intsAre_of rv;have xM:its.length=ns.length:=YB hi;refine vL (ns:=ns) (I.ok.hd hc) pl.isList (by simpa using hi) (by unfold scanBound;simp;omega) fun g tk G keep=> ?_;exact V3 (main its rv g tk G keep)
end
section
variable{X:Cx}
def aat:R2:=fun x y H Q=>∃a b xs ys,x= .ref a/\y= .ref b/\H a=some (.tup xs)/\H b=some (.tup ys)/\xs.length+ys.length<=sizeLine/\∀r H',Same H H'->H' r=some (.tup (xs++ys))->Q (.ref r) H'
theorem Rz:OpR X (binaryOp .Add) aat:=by
 intro pins s σ H x y v u Q I rx ry h;obtain⟨a,b,xs,ys,rfl,rfl,ha,hb,hz,q⟩:=h;by_cases hx:xs=[]
 ·subst hx;cases rx;cases ry;obtain⟨its,r1,p1,_⟩:=I.tuple (SqT.of (K:=X.K) ha);obtain⟨its2,r2,p2,_⟩:=I.tuple (SqT.of (K:=X.K) hb);cases r1;obtain⟨⟨cls,dd,data,sl⟩,ho,hc,n,hd⟩:=id p1;obtain⟨⟨cls2,dd2,data2,sl2⟩,ho2,hc2,n2,hd2⟩:=id p2;simp only at hc hd hc2 hd2;subst hc hd hc2 hd2;exact wgk ⟨_,ho,rfl⟩ ⟨_,ho2,rfl⟩ wdp wfs wch wcc (wbv _ _)
   (tuple_addW0 a b _ _ n n2 dd dd2 sl sl2 (by simp)) ⟨ho,ho2,⟨.ref b,H,I,rfl,q b H (Same.refl _) hb⟩⟩
 ·refine op_catT pins s σ H _ _ v u Q I rx ry ⟨a,b,xs,ys,rfl,rfl,SqT.of ha,SqT.of hb,hx,hz,fun e=> ?_,fun e p hp=> ?_⟩
  ·subst e;exact q a H (Same.refl _) (by rw[u9];exact ha)
  ·exact q p _ (fun c o e=>by rw[bU (jh e hp)];exact e) aH
end
def ur(X:Cx)(scope:Scope)(s:η)(f:Addr)(cdv:ζ):Env:=PySem.W.envX (X.env.qual++"<lambda>") scope s.heap.objs.size f cdv (eZ X.env.cells scope.names [])
def GZ(X:Cx)(A:χ)(N:List Str)(s:η)(H:Hp)(env:Env):Cx:=
 {X with A:=A.deeper env,N:=N,s₀:=s,H₀:=H,env:=env,outer:=X.stack,stack:=env::X.stack,ex:=[],fn:=fun _=>false,calm:=true,pn:=[],xe:=fun _ _=>False}
def DN(ix:List Nat)(σ:St)(v:V):St:=some v::ix.map fun j=>(σ[j]?).join
section
variable{X:Cx}{scope:Scope}{caps:List Str}{ix:List Nat}{y:Str}{A:χ}{pins:L1}{σ:St}{H:Hp}{s:η}{f:Addr}{cdv:ζ}{v:V}{u:ζ}
theorem Js{s':η}(ck:dX X.env.scope scope=true)(hkind:scope.kind= .function)(hcap:gA X scope caps ix)(hy:scope.names.lookup y=some .local)(hhd:A.handled=none)(hfr:A.frames=some X.stack)
  (I:Inv X pins σ H s)(rv:RelV v u)(hos:s'.os=s.os)(hg:AllBare s'.gens)(hk:∀b o,s.heap.get? b=some o->s'.heap.get? b=some o)(hn:s'.heap.Ns s.heap.objs.size (fun x=>[(y,u)].reverse.lookup x)):
  Inv (GZ X A (y::caps) s H (ur X scope s f cdv)) [] (DN ix σ v) H s':=by
 have cl1:∀x c,(eZ X.env.cells scope.names []).lookup x=some c->X.env.cells.lookup x=some c:=fun x c e=>by
  rcases jQ (Cv e)with q|⟨q,mm⟩
  ·cases q
  ·obtain⟨d,hd⟩:=I.ok.has x (dX.free ck mm);rw[hd]at q;rw[hd,q];rfl
 have cl2:∀x,(x,NameKind.free)∈scope.names->∃c,(eZ X.env.cells scope.names []).lookup x=some c:=fun x mm=>by
  obtain⟨c,hc⟩:=uH (cells:=X.env.cells) (acc:=[]) mm;obtain⟨d,hd,_⟩:=Zu hc;exact⟨d,hd⟩
 have bsz:X.base.objs.size<=s.heap.objs.size:=dO I.ok.bsz I.sz;refine⟨⟨I.ok.mod,hkind,rfl,rfl,aN _,fun x y c h1 h2=>I.ok.inj x y c (cl1 x c h1) (cl1 y c h2),fun x hx=> ?_,fun x c h=>(nomatch h),fun _=>hhd,Around.frames_deeper hfr,.inr ⟨rfl,rfl⟩,fun b hb=>(nomatch hb),I.bs,bsz,
  fun b o e hb=>(nomatch hb),fun b hb=>(nomatch hb),I.stack,I.stkFree⟩,hos,hg,Un.kept hk,⟨_,hn,fun i x w h1 h2 h3=> ?_⟩,fun x c e=> ?_,I.hok.fresh (aN _),fun x c e=>I.freeC x c (cl1 x c e),fun p hp=>absurd (show p∈([]:L1)from hp) (by simp),I.hok.kept hk,?_⟩
 ·have hx:scope.names.lookup x=some .cell\/scope.names.lookup x=some .free:=hx;rcases hx with q|q
  ·exact absurd rfl (dX.cell ck _ (Cv q))
  ·exact cl2 x (Cv q)
 ·have h1:(y::caps)[i]? =some x:=h1;have h2:(some v::ix.map fun j=>(σ[j]?).join)[i]? =some (some w):=h2;cases i with
  |zero=>
   have h1:some y=some x:=h1;have h2:some (some v)=some (some w):=h2;cases h1;cases h2;exact⟨u,rv,.inl ⟨hy,by simp[HJ]⟩⟩
  |succ i=>
   rw[List.getElem?_cons_succ]at h1 h2;obtain⟨j,e1,e2,e3⟩:=hcap.get h1;rw[dD,e1]at h2;have h2':(σ[j]?).join=some w:=by simpa using h2
   have h4:σ[j]? =some (some w):=by
    cases q:σ[j]? with
    |none=>rw[q]at h2';cases h2'
    |some w=>rw[q]at h2';exact iD some h2'
   obtain⟨m0,hn0,hl0⟩:=I.loc;have mm:=Cv e3;have vis:=dX.free ck mm;obtain⟨u,r,l⟩:=hl0 j x w e2 h4 (.inr vis);refine⟨u,r,.inr ?_⟩;rcases l with⟨k,_⟩|⟨k,c,e,z⟩
   ·rcases vis with q|q
    ·rw[show X.env.kindOf x=some .cell from q]at k;cases k
    ·rw[show X.env.kindOf x=some .free from q]at k;cases k
   ·obtain⟨d,hd⟩:=cl2 x mm;have:=cl1 x d hd;rw[e]at this;cases this;exact⟨.inr e3,c,hd,z.keeps hk⟩
 ·obtain⟨v,z⟩:=I.cell x c (cl1 x c e);exact⟨v,z.keeps hk⟩
 ·show(some v::ix.map fun j=>(σ[j]?).join).length=(y::caps).length;simp[hcap.len]
theorem Sg{k:Nat}{Q:VK}{te:TE}{params:Arguments}{body:Expr}{pm ctv:ζ}{c':Addr}(ck:dX X.env.scope scope=true)(hkind:scope.kind= .function)(hcap:gA X scope caps ix)(hy:scope.names.lookup y=some .local)(hco:scope.isCoroutine=false)(hgen:scope.isGenerator=false)(hr:Room (k+1) A)(hfr:A.frames=some X.stack)(he:PE (GZ X A (y::caps) s H (ur X scope s f (.ref c'))) body te)(I:Inv X pins σ H s)(rv:RelV v u)(ho:s.heap.get? f=some (PySem.W.kla_obj "<lambda>" (X.env.qual++"<lambda>") params body scope (eZ X.env.cells scope.names []) pm c' ctv))(hcd:s.heap.CodeRec (.ref c') (X.env.qual++"<lambda>"))(hbind:∀(q:Str) (cl:List (Str×Addr)) (pm cd ct u:ζ),bindArgs (PySem.W.kla_fn "<lambda>" q params body scope cl pm cd ct) ⟨[u],[]⟩=pure [(y,u)])(hq:te (DN ix σ v) H Q):
  wpAny (model X.prog X.w) A (call (.ref f) [u]) (EP X pins σ fun v H'=>Q v H'/\∀b o u,H b=some (.frz o u)->H' b=some (.frz o u)) (fun _ _=>False) s:=by
 refine Ul (PySem.W.kla_callFunE hr.depth ho rfl hco hgen rfl hcd ?_);rw[hbind];refine aK (wpAny_newFunctionEnv (dX.cell ck) (fun z hz=>by rw[fL.mp hz];exact hy) (fun h₁ hns hsb=>⟨I.nolimit.fresh _ hsb,?_⟩) hkind);have hk₁:∀b o,s.heap.get? b=some o->h₁.get? b=some o:=fun b o e=>hsb.extBut b o (cQ (cR e)) (cV _ e);show codeAny _ _ (.expr body (ur X scope s f (.ref c'))) _ _;have I':=Js (A:=A) (f:=f) (cdv:= .ref c') (s':={s with heap:=h₁,toks:=s.toks+[(y,u)].length}) ck hkind hcap hy hr.hd hfr I rv rfl I.bare hk₁ hns;refine PySem.W.kla_codeExpr (yC (he [] _ _ _ _ I' hq) (fun v' s' z=> ?_) fun _ _ z=>z.elim);obtain⟨x,H',J,r,q⟩:=z;exact I.after ⟨x,H',J.os,J.bare,J.base,J.hok,r,q,J.base.frzs⟩
end
noncomputable def iC(H:Hp)(P:Addr)(pos:Pos)(qual:Str):Prop:=H P=some (.tbl #[])\/∃(c':Addr) (oc:Obj) (vs:Array ζ) (tq:Tok),H P=some (.tbl #[rawInt pos.line,rawInt pos.col,.ref c'])/\H c'=some (.frz oc (.own 0))/\oc.data= .fields vs/\vs[1]? =some (.str qual tq)
structure Bx(base:Heap)(mg:L4)(c P:Addr):Prop where
 hd:PySem.W.CodeHd base c P
 blt:base.BuiltinsAt mg P
 ne:mainGlobals≠P
theorem BuiltinsAt.keeps{h h':Heap}{mg:L4}{P:Addr}(x:h.BuiltinsAt mg P)(k:∀b o,h.get? b=some o->h'.get? b=some o):h'.BuiltinsAt mg P:=
 let⟨bm,o,a,b,c,d,e,r⟩:=x;⟨bm,o,a,b,c,d,k _ _ e,r⟩
section
variable{X:Cx}{scope:Scope}{pins:L1}{σ:St}{H:Hp}{s:η}{c P:Addr}{pos:Pos}{params:Arguments}{body:Expr}{A:χ}{E:L3}{Q:L3}
theorem Nq(I:Inv X pins σ H s)(L:Bx X.base X.mg c P)(hcode:X.env.code= .ref c)(hT:iC H P pos (X.env.qual++"<lambda>"))(ck:dX X.env.scope scope=true)(hdef:defaultsOf params X.env=([],[]))(h:∀(f c':Addr) (pm ctv:ζ) (H':Hp) (s':η),Inv X pins σ H' s'->(∀b o,b≠P->H b=some o->H' b=some o)->iC H' P pos (X.env.qual++"<lambda>")->s'.heap.get? f=some (PySem.W.kla_obj "<lambda>" (X.env.qual++"<lambda>") params body scope (eZ X.env.cells scope.names []) pm c' ctv)->
   H' f=none->s.heap.objs.size<=f->(∃(oc:Obj) (vs:Array ζ) (tq:Tok),H' c'=some (.frz oc (.own 0))/\oc.data= .fields vs/\vs[1]? =some (.str (X.env.qual++"<lambda>") tq))->Q (.ref f) s'):
  wpAny (model X.prog X.w) A (eval (.Lambda params body scope pos) X.env) Q E s:=by
 refine PySem.W.kla_eval hdef ?_;have hcl:closureFor scope X.env=pure (eZ X.env.cells scope.names []):=mJ fun x hx=>I.ok.has x (dX.free ck hx);have hg:s.heap.Ns mainGlobals X.mg:=I.mod.glob.keeps I.bk;have C:=L.hd.keeps I.bk;have B:=BuiltinsAt.keeps L.blt I.bk;rcases hT with hT|⟨c',oc,vs,tq,hT,hC,hd,hv⟩
 ·have hP:s.heap.get? P=some (PySem.W.tabObj #[]):=I.hok P _ hT;refine PySem.W.kla_makeFunction (ps:=#[]) hcl I.ok.glob hg hcode C hP trivial rfl L.ne B fun c' ctv h' tk hx hge hlt hrec htb=> ?_;obtain⟨c₂,oc,vs,tq,e2,hoc,hd,hv⟩:=id hrec;cases e2;have cP:c'≠P:=Cp (gC (cR hP) hge);have old:∀b o,s.heap.get? b=some o->b≠c':=fun b o e=>cQ (gC (cR e) hge);have hc0:H c'=none:=I.hok.fresh hge;have kp:∀b o,b≠P->s.heap.get? b=some o->(h'.push (PySem.W.kla_obj "<lambda>" (X.env.qual++"<lambda>") params body scope (eZ X.env.cells scope.names []) ((X.mg "__name__").getD .none) c' ctv)).get? b=some o:=fun b o hb e=>cV _ (hx b o hb e);have nP:∀b o,H b=some o->o≠.tbl #[]->b≠P:=fun b o e n z=>by rw[z,hT]at e;cases e;exact n rfl
  have eH:∀b,b≠P->b≠c'->upd (upd H P (.tbl (#[]++#[rawInt pos.line,rawInt pos.col,.ref c']))) c' (.frz oc (.own 0)) b=H b:=fun b h1 h2=>by rw[bU h2,bU h1]
  have eP:upd (upd H P (.tbl (#[]++#[rawInt pos.line,rawInt pos.col,.ref c']))) c' (.frz oc (.own 0)) P=some (.tbl (#[]++#[rawInt pos.line,rawInt pos.col,.ref c'])):=by rw[bU cP.symm,aH]
  have J:Inv X pins σ (upd (upd H P (.tbl (#[]++#[rawInt pos.line,rawInt pos.col,.ref c']))) c' (.frz oc (.own 0))) {s with heap:=h'.push (PySem.W.kla_obj "<lambda>" (X.env.qual++"<lambda>") params body scope (eZ X.env.cells scope.names []) ((X.mg "__name__").getD .none) c' ctv),toks:=tk}:=by
   refine I.un (h':=h'.push _) (t':=tk) ⟨fun b o e n hb he=>kp b o (fun z=>by rw[z,hT]at n;cases n) e,fun b o e n hb he=>⟨o.slots,kp b o (fun z=>by rw[z,hT]at n;cases n) e⟩,fun b o e n he=> ?_,fun b o e he=> ?_,fun b xs e=> ?_,fun b o u e=> ?_,fun b ps e=> ?_⟩ fun b u e=> ?_
   ·rw[eH b (fun z=>by rw[z,hT]at n;cases n) (old b o e)];exact n
   ·by_cases hb:b=P
    ·subst hb;exact⟨_,cV _ htb⟩
    ·exact⟨o,kp b o hb e⟩
   ·rw[eH b (nP b _ e (fun z=>nomatch z)) (jh e hc0)];exact e
   ·rw[eH b (nP b _ e (fun z=>nomatch z)) (jh e hc0)];exact e
   ·by_cases hb:b=P
    ·subst hb;rw[hT]at e;cases e;exact⟨_,eP⟩
    ·exact⟨#[],by rw[eH b hb (jh e hc0),e];simp⟩
   ·by_cases hb:b=P
    ·subst hb;rw[eP]at e;cases e;exact cV _ htb
    ·by_cases hb2:b=c'
     ·subst hb2;rw[aH]at e;cases e;exact⟨cV _ hoc,⟨_,cV _ hoc⟩⟩
     ·rw[eH b hb hb2]at e;have ow:∀z,H z=some (.own b)->z≠P/\z≠c':=fun z e=>⟨nP z _ e (fun q=>nomatch q),jh e hc0⟩;refine(I.hok b u e).stay (fun z o hz q=>kp z o ?_ q) (fun z q=>by rw[eH z (ow z q).1 (ow z q).2];exact q) fun z xs q=>by rw[eH z (nP z _ q (fun q=>nomatch q)) (jh q hc0)];exact q
      rcases hz with hz|hz
      ·rw[hz];exact hb
      ·exact(ow z hz).1
  have hsz:s.heap.objs.size<=h'.objs.size:=cW (Fy hge hlt);refine h h'.objs.size c' _ ctv _ _ J (fun b o hb e=>by rw[eH b hb (jh e hc0)];exact e) (.inr ⟨c',oc,vs,tq,by rw[eP];simp,aH,hd,hv⟩) (gZ _ rfl) ?_ hsz ⟨oc,vs,tq,aH,hd,hv⟩;rw[eH _ (Cp (gC (cR hP) hsz)) (Cp hlt)];exact I.hok.fresh hsz
 ·have hP:s.heap.get? P=some (PySem.W.tabObj #[rawInt pos.line,rawInt pos.col,.ref c']):=I.hok P _ hT;have hc:s.heap.get? c'=some oc:=(I.hok c' _ hC).1;refine PySem.W.kla_makeFunctionHit (ps:=#[rawInt pos.line,rawInt pos.col,.ref c']) (cv:= .ref c') hcl I.ok.glob hg hcode C hP trivial (by simp[codeAmong,rawInt]) B fun ctv h' tk hk hsz=> ?_;have kp:∀b o,s.heap.get? b=some o->(h'.push {cls:= .type "function",data:= .func (PySem.W.kla_fn "<lambda>" (X.env.qual++"<lambda>") params body scope (eZ X.env.cells scope.names []) ((X.mg "__name__").getD .none) (.ref c') ctv)}).get? b=some o:=fun b o e=>cV _ (hk b o e);exact h h'.objs.size c' _ ctv H _ (I.kept (h':=h'.push _) (t':=tk) kp) (fun b o _ e=>e) (.inr ⟨c',oc,vs,tq,hT,hC,hd,hv⟩) (gZ _ rfl) (I.hok.fresh hsz) hsz ⟨oc,vs,tq,hC,hd,hv⟩
end
structure qg(X:Cx)(pins:L1)(I:Addr):Prop where
 lo:X.s₀.heap.objs.size<=I
 loc:I≠X.env.locals
 fs:I∉X.fs
 cl:∀x c,X.env.cells.lookup x=some c->c≠I
 pn:∀p∈X.pn++pins,p.1≠I
section
variable{X:Cx}{σ:St}{H:Hp}{s:η}{pins:L1}
theorem qg.new{I:Addr}(J:Inv X pins σ H s)(h:s.heap.objs.size<=I):qg X pins I:=by
 refine⟨dO J.sz h,Cp (gC J.lt h),J.nofs h,fun x c e=> ?_,fun p hp=>cQ (gC (cR (J.pin p hp).1) h)⟩;obtain⟨v,o,ho,_⟩:=J.cell x c e;exact cQ (gC (cR ho) h)
theorem Inv.qJ{p:Addr×Obj}(J:Inv X (p::pins) σ H s):Inv X pins σ H s:=J.pins_of fun q hq=>J.pin q (jr _ (dZ _ hq))
theorem Inv.zA{I:Addr}{o o':Obj}{h':Heap}{tk:Nat}(J:Inv X ((I,o)::pins) σ H s)(m:qg X pins I)(k:∀b x,b≠I->s.heap.get? b=some x->h'.get? b=some x)(e:h'.get? I=some o')(d:∀v,o'.data≠.cell v):
  Inv X ((I,o')::pins) σ H {s with heap:=h',toks:=tk}:=by
 have hI:=J.pin (I,o) (jr _ dY);have K:=(J.qJ).turned (t':=tk) (it:=I) k hI.2.1 m.loc (.inr m.lo) m.cl m.pn;refine K.pins_of fun q hq=> ?_;rcases cF.mp hq with z|z
 ·subst z;exact⟨e,hI.2.1,m.loc,m.fs,d⟩
 ·exact K.pin q (jr _ z)
theorem Inv.swap{p q:Addr×Obj}(J:Inv X (p::q::pins) σ H s):Inv X (q::p::pins) σ H s:=J.pins_of fun r hr=>J.pin r (jr _ (by
 rcases cF.mp hr with z|z
 ·rw[z];exact dZ _ dY
 ·rcases cF.mp z with z|z
  ·rw[z];exact dY
  ·exact dZ _ (dZ _ z)))
theorem qg.under{I:Addr}{p:Addr×Obj}(m:qg X pins I)(n:p.1≠I):qg X (p::pins) I:=⟨m.lo,m.loc,m.fs,m.cl,fun q hq=>by
 rcases g8.mp hq with z|z
 ·exact m.pn q (Qs _ z)
 ·rcases cF.mp z with z|z
  ·rw[z];exact n
  ·exact m.pn q (jr _ z)⟩
theorem wY{a:Array ζ}{k:Nat}(T:String):∀v,(seqObj T a k).data≠.cell v:=fun v z=>by
 have z':Data.seq a k=Data.cell v:=z;cases z'
variable{I S f l:Addr}{fo:Obj}{vs:List ζ}{RR:Result->η->Prop}
theorem RW(kf:Nat->Int)(R:Nat->Hp->Prop)(hA:X.A.handled=none)(mI:qg X ((f,fo)::pins) I)(mS:qg X ((f,fo)::pins) S)(Y0:S≠I)(nlI:l≠I)(hl:∀j H s,Inv X ((f,fo)::pins) σ H s->R j H->s.heap.IsList l vs.toArray)(turn:∀j v (ps:L1) H s,vs[j]? =some v->Inv X ps σ H s->(f,fo)∈ps->R j H->wpAny (model X.prog X.w) X.A.in1 (call (.ref f) [v]) (fun u s'=>∃H' t,u= .int (kf j) t/\Inv X ps σ H' s'/\R (j+1) H') (fun _ _=>False) s)(hR:∀i v H' s',vs[i]? =some v->(∀j,j<vs.length->kf i<=kf j/\(j<i->kf i<kf j))->Inv X pins σ H' s'->R vs.length H'->RR (.ok (.ret v)) s'):
  ∀(r j i:Nat) (H:Hp) (s:η) (vb:ζ) (tb:Tok) (c:Nat) (oI:Obj),vs.length-(j+1)=r->j+1<=vs.length->Inv X ((I,oI)::(S,seqObj "list" #[vb,.int (kf i) tb] c)::(f,fo)::pins) σ H s->R (j+1) H->s.heap.IsListIter I l (j+1)->vs[i]? =some vb->i<=j->(∀j',j'<=j->kf i<=kf j'/\(j'<i->kf i<kf j'))->
   codeAny (model X.prog X.w) X.A (.builtin "min.loop" ⟨[.ref I,.ref f,.ref S],[]⟩) RR s:=by
 have nm:(toString "min"++toString ".loop":String)="min.loop":=by decide
 have W:=Yw (prog:=X.prog) (w:=X.w) (A:=X.A.in1) hA I l nlI vs.toArray;have zs:vs.toArray.size=vs.length:=fu ..;have m2:∀o,qg X ((S,o)::(f,fo)::pins) I:=fun o=>mI.under (p:=(S,o)) Y0;have m3:∀o,qg X ((I,o)::(f,fo)::pins) S:=fun o=>mS.under (p:=(I,o)) Y0.symm;intro r
 induction r with
 |zero=>
  intro j i H s vb tb c oI hr hj J hRj hit hvb hij hbest;have pS:=(J.pin _ (jr _ (dZ _ dY))).1;refine Cr wdi (by
   rw[QW V5 _];show wpAny _ X.A.in1 (seqItems? (.ref S)>>=_) _ _ _;refine ao (wpAny_seqItems pS rfl (?_));show wpAny _ X.A.in1 (tryCatch (pyNext (.ref I)) _>>=_) _ _ _;refine ao (Yz (W.done _ _ _ ⟨by rw[zs,<-show j+1=vs.length by omega];exact hit,hl (j+1) H s J.qJ.qJ hRj⟩ fun h' tk' hk'=> ?_));have k1:∀b x,b≠I->s.heap.get? b=some x->h'.get? b=some x:=fun b x hb e=>hk' b x (fun z=>hb (fL.mp z)) e;have pI:=J.pin (I,oI) (jr _ dY);have J1:Inv X ((S,seqObj "list" #[vb,.int (kf i) tb] c)::(f,fo)::pins) σ H {s with heap:=h',toks:=tk'}:=J.qJ.turned (t':=tk') (it:=I) k1 pI.2.1 mI.loc (.inr mI.lo) mI.cl (m2 _).pn;have g:=(J1.pin _ (jr _ dY)).1;show wpAny _ X.A.in1 (updateSeq S (fun _=>#[])>>=_) _ _ _;refine ao (wde g rfl (ao (whh (aK ?_))));have sb:=Cu h' S (Obj.mapSeq fun _=>(#[]:Array ζ));have J2:=(J1.zA (o':=seqObj "list" #[] _) (tk:=tk') mS (fun b x hb e=>(sb.2 b hb).trans e) (V1 g fun _=>#[]) (wY _));exact hR i vb H _ hvb (fun j' hj'=>hbest j' (by omega)) J2.qJ.qJ (by rw[<-show j+1=vs.length by omega];exact hRj))
 |succ r ih=>
  intro j i H s vb tb c oI hr hj J hRj hit hvb hij hbest;have hlt:j+1<vs.length:=by omega
  have pS:=(J.pin _ (jr _ (dZ _ dY))).1;refine Cr wdi (by
   rw[QW V5 _];show wpAny _ X.A.in1 (seqItems? (.ref S)>>=_) _ _ _;refine ao (wpAny_seqItems pS rfl (?_));show wpAny _ X.A.in1 (tryCatch (pyNext (.ref I)) _>>=_) _ _ _;refine ao (Yz (W.item (j+1) _ _ _ (by rw[zs];exact hlt) ⟨hit,hl (j+1) H s J.qJ.qJ hRj⟩ fun v h' tk' hP hst' hk'=> ?_));have hv:vs[j+1]? =some v:=(by simpa using hP);have k1:∀b x,b≠I->s.heap.get? b=some x->h'.get? b=some x:=fun b x hb e=>hk' b x (fun z=>hb (fL.mp z)) e;obtain⟨oI',hoI,hoc,hod⟩:=id hst'.1;have J1:=J.zA (o':=oI') (tk:=tk') (m2 _) k1 hoI (fun v z=>by rw[hod]at z;cases z);show wpAny _ X.A.in1 (tryCatch (holding [v] (call (.ref f) [v])) _>>=_) _ _ _;refine ao (Yz (uX (yC (turn (j+1) v _ H _ hv J1 (dZ _ (dZ _ dY)) hRj) (fun u s2 z=> ?_) fun _ _ z=>z.elim)));obtain⟨H2,t2,rfl,J2,Xq⟩:=z;have hit2:s2.heap.IsListIter I l (j+1+1):=⟨oI',(J2.pin _ (jr _ dY)).1,hoc,hod⟩;have g:=(J2.pin _ (jr _ (dZ _ dY))).1;show wpAny _ X.A.in1 (tryCatch (holding [v,.int (kf (j+1)) t2] (richCompare .Lt (.int (kf (j+1)) t2) (.int (kf i) tb)>>=_)) _>>=_) _ _ _;refine ao (Yz (uX (ao (CmpOf.ints_lt (prog:=X.prog) (w:=X.w) (A:=X.A.in1) (P:=fun i v=>∃t,v= .int (kf i) t) kf (fun i v h=>h) (j+1) i _ _ _ _ _ ⟨t2,rfl⟩ ⟨tb,rfl⟩ (ao (uX (JZ (ao (whh (aK ?_))))))))));by_cases hb:kf (j+1)<kf i
   ·have sb:=Cu s2.heap S (Obj.mapSeq fun _=>#[v,.int (kf (j+1)) t2]);simp only[hb,decide_true,Uj];refine ao (wde g rfl (ao (whh ?_)));rw[nm];have J3:=(J2.swap.zA (o':=seqObj "list" #[v,.int (kf (j+1)) t2] _) (tk:=s2.toks) (m3 _) (fun b x hb e=>(sb.2 b hb).trans e) (V1 g fun _=>#[v,.int (kf (j+1)) t2]) (wY _)).swap;refine aK ⟨Uo V5 _,ih (j+1) (j+1) H2 _ v t2 _ oI' (by omega) hlt J3 Xq ⟨oI',(J3.pin _ (jr _ dY)).1,hoc,hod⟩ hv (aN _) fun j' hj'=> ?_⟩;by_cases e:j'=j+1
    ·subst e;exact⟨Fq _,fun z=>absurd z (uV _)⟩
    ·have q:=(hbest j' (by omega)).1;exact⟨by omega,fun _=>by omega⟩
   ·simp only[hb,decide_false,wci,VL];refine ao (whh (?_));rw[nm];refine aK ⟨Uo V5 _,ih (j+1) i H2 _ vb tb c oI' (by omega) hlt J2 Xq hit2 hvb (by omega) fun j' hj'=> ?_⟩;by_cases e:j'=j+1
    ·subst e;exact⟨by omega,fun z=>by omega⟩
    ·exact hbest j' (by omega))
theorem M5{Q:L3}{E:L3}(kf:Nat->Int)(R:Nat->Hp->Prop)(hA:X.A.handled=none)(hne:0<vs.length)(J:Inv X ((f,fo)::pins) σ H s)(hR0:R 0 H)(hl:∀j H s,Inv X ((f,fo)::pins) σ H s->R j H->s.heap.IsList l vs.toArray)(turn:∀j v (ps:L1) H s,vs[j]? =some v->Inv X ps σ H s->(f,fo)∈ps->R j H->wpAny (model X.prog X.w) X.A.in1 (call (.ref f) [v]) (fun u s'=>∃H' t,u= .int (kf j) t/\Inv X ps σ H' s'/\R (j+1) H') (fun _ _=>False) s)(hQ:∀i v H' s',vs[i]? =some v->(∀j,j<vs.length->kf i<=kf j/\(j<i->kf i<kf j))->Inv X pins σ H' s'->R vs.length H'->Q v s'):
  wpAny (model X.prog X.w) X.A (call (.builtin "min") [.ref l] [(Str.ofString "key",.ref f)]) Q E s:=by
 have nm:(toString "min"++toString ".loop":String)="min.loop":=by decide
 have hls:=hl 0 H s J hR0;obtain⟨ol,hol,_⟩:=id hls;have nlI:l≠s.heap.objs.size:=cQ (cR hol);refine kmb_tree PySem.F.kind_min PySem.F.plain_min PySem.F.entry_min (kmb_min_key _ _) (by
  show wpAny _ X.A.in1 (Builtin.Builtins.bindParams "min" ["key","default"] 0 ⟨[],[(Str.ofString "key",.ref f)]⟩>>=_) _ _ s;refine ao (whg (show Builtin.Builtins.bindParams "min" ["key","default"] 0 ⟨[],[(Str.ofString "key",.ref f)]⟩=pure [some (.ref f),none]from rfl) (ao (aK (ao (YK hls (ao (V0 ?_ (dB _))))))));rw[nm];have zS:(s.heap.push {cls:= .type "list_iterator",data:= .fields #[.ref l,.int 0 0]}).objs.size=s.heap.objs.size+1:=size_push' ..;rw[zS];have k0:∀b o,s.heap.get? b=some o->((s.heap.push {cls:= .type "list_iterator",data:= .fields #[.ref l,.int 0 0]}).push (seqObj "list" #[] 0)).get? b=some o:=fun b o e=>cV _ (cV _ e);have gI0:((s.heap.push {cls:= .type "list_iterator",data:= .fields #[.ref l,.int 0 0]}).push (seqObj "list" #[] 0)).get? s.heap.objs.size=some {cls:= .type "list_iterator",data:= .fields #[.ref l,.int 0 0]}:=cV _ (gZ _ rfl);have gS:((s.heap.push {cls:= .type "list_iterator",data:= .fields #[.ref l,.int 0 0]}).push (seqObj "list" #[] 0)).get? (s.heap.objs.size+1)=some (seqObj "list" #[] 0):=by rw[<-zS];exact gZ _ rfl
  have mI:=qg.new J (aN _);have mS:=qg.new J (Ft s.heap.objs.size);have Y0:s.heap.objs.size+1≠s.heap.objs.size:=Cp (sI _);have Jk:Inv X ((f,fo)::pins) σ H {s with heap:=(s.heap.push {cls:= .type "list_iterator",data:= .fields #[.ref l,.int 0 0]}).push (seqObj "list" #[] 0),toks:=s.toks}:=J.kept k0;have JI:Inv X ((s.heap.objs.size,{cls:= .type "list_iterator",data:= .fields #[.ref l,.int 0 0]})::(s.heap.objs.size+1,seqObj "list" #[] 0)::(f,fo)::pins) σ H {s with heap:=(s.heap.push {cls:= .type "list_iterator",data:= .fields #[.ref l,.int 0 0]}).push (seqObj "list" #[] 0),toks:=s.toks}:=Jk.pins_of fun q hq=>by
   rcases cF.mp hq with z|z
   ·subst z;exact⟨gI0,J.hok.fresh (aN _),mI.loc,mI.fs,fun v z=>by have z':Data.fields #[Value.ref l,.int 0 0]=Data.cell v:=z;cases z'⟩
   ·rcases cF.mp z with z|z
    ·subst z;exact⟨gS,J.hok.fresh (Ft _),mS.loc,mS.fs,wY _⟩
    ·exact Jk.pin q (jr _ z)
  have W:=Yw (prog:=X.prog) (w:=X.w) (A:=X.A.in1) hA s.heap.objs.size l nlI vs.toArray;refine aK ⟨Uo V5 _,Cr wdi ?_⟩;rw[QW V5 _];show wpAny _ X.A.in1 (seqItems? (.ref (s.heap.objs.size+1))>>=_) _ _ _;refine ao (wpAny_seqItems gS rfl (?_));show wpAny _ X.A.in1 (tryCatch (pyNext (.ref s.heap.objs.size)) _>>=_) _ _ _;refine ao (Yz (W.item 0 _ _ _ (by rw[fu];exact hne) ⟨⟨_,gI0,rfl,rfl⟩,hl 0 H _ Jk hR0⟩ fun v h' tk' hP hst' hk'=> ?_));have hv:vs[0]? =some v:=(by simpa using hP);obtain⟨oI',hoI,hoc,hod⟩:=id hst'.1;have J1:=JI.zA (o':=oI') (tk:=tk') (mI.under (p:=(s.heap.objs.size+1,seqObj "list" #[] 0)) Y0) (fun b x hb e=>hk' b x (fun z=>hb (fL.mp z)) e) hoI (fun v z=>by rw[hod]at z;cases z);show wpAny _ X.A.in1 (tryCatch (holding [v] (call (.ref f) [v])) _>>=_) _ _ _;refine ao (Yz (uX (yC (turn 0 v _ H _ hv J1 (dZ _ (dZ _ dY)) hR0) (fun u s2 z=> ?_) fun _ _ z=>z.elim)));obtain⟨H2,t2,rfl,J2,Xq⟩:=z;have g:=(J2.pin _ (jr _ (dZ _ dY))).1;have sb:=Cu s2.heap (s.heap.objs.size+1) (Obj.mapSeq fun _=>#[v,.int (kf 0) t2]);show wpAny _ X.A.in1 (updateSeq (s.heap.objs.size+1) (fun _=>#[v,.int (kf 0) t2])>>=_) _ _ _;refine ao (wde g rfl ?_);rw[nm];have J3:=(J2.swap.zA (o':=seqObj "list" #[v,.int (kf 0) t2] _) (tk:=s2.toks) (mS.under (p:=(s.heap.objs.size,oI')) Y0.symm) (fun b x hb e=>(sb.2 b hb).trans e) (V1 g fun _=>#[v,.int (kf 0) t2]) (wY _)).swap;exact aK ⟨Uo V5 _,RW kf R hA mI mS Y0 nlI hl turn hQ _ 0 0 H2 _ v t2 _ oI' rfl hne J3 Xq ⟨oI',(J3.pin _ (jr _ dY)).1,hoc,hod⟩ hv (aN _) fun j' hj'=>by
   have e:j'=0:=by omega
   subst e;exact⟨Fq _,fun z=>absurd z (uV _)⟩⟩)
end
def Q6(K:W.Frag)(P:Addr)(pos:Pos)(qual:Str)(ix:List Nat)(ta:TA)(te:TE):TE:=fun σ H Q=>ta σ H fun vs H1=>∃(l:Addr) (its:List (Addr×List Int)),vs=[.ref l]/\SqL K H1 l (its.map fun p=>V.ref p.1)/\its≠[]/\iC H1 P pos qual/\
 ∃(kf:Nat->Int) (R:Nat->Hp->Prop),(∀H2,(∀b o,b≠P->H1 b=some o->H2 b=some o)->iC H2 P pos qual->R 0 H2)/\(∀j H,R j H->SqL K H l (its.map fun p=>V.ref p.1))/\
  (∀j p H,its[j]? =some p->R j H->te (DN ix σ (.ref p.1)) H fun v H'=>v= .int (kf j)/\R (j+1) H')/\
  ∀i p H,its[i]? =some p->(∀j,j<its.length->kf i<=kf j/\(j<i->kf i<kf j))->R its.length H->Q (.ref p.1) H
theorem vH:∀{its:List (Addr×List Int)} {us:List ζ},Vals (its.map fun p=>V.ref p.1) us->us=its.map fun p=>Value.ref p.1
 |[],_,h=>by cases h;rfl
 |p::its,_,h=>by
  cases h with
  |cons r t=>rw[vH t];cases r;rfl
section
variable{X:Cx}{a body:Expr}{ta:TA}{te:TE}{p kp pos aaJ:Pos}{k:Nat}{scope:Scope}{caps:List Str}{ix:List Nat}{y:Str}{params:Arguments}{c P:Addr}
theorem Iv(L:Bx X.base X.mg c P)(hcode:X.env.code= .ref c)(hc:X.calm=true)(hr:Room (k+2) X.A)(hg:Gl X "min")(hm:X.mg "min"=none)(ha:PA X [a] ta)(hcap:gA X scope caps ix)(he:∀s H f cd,Room k (GZ X X.A.in1 (y::caps) s H (ur X scope s f cd)).A->PE (GZ X X.A.in1 (y::caps) s H (ur X scope s f cd)) body te)(ck:dX X.env.scope scope=true:=by rfl)(hkind:scope.kind= .function:=by rfl)(hy:scope.names.lookup y=some .local:=by rfl)(hco:scope.isCoroutine=false:=by rfl)(hgen:scope.isGenerator=false:=by rfl)(hdef:defaultsOf params X.env=([],[]):=by rfl)(hbind:∀(q:Str) (cl:List (Str×Addr)) (pm cd ct u:ζ),bindArgs (PySem.W.kla_fn "<lambda>" q params body scope cl pm cd ct) ⟨[u],[]⟩=pure [(y,u)]:=by intros;rfl)(he1:backTo pos (starEach [a] X.env)=(false,eval a X.env)::backTo pos (starEach [] X.env):=by rfl)(hp:(backTo pos (starEach [a] X.env)).any (·.1)=false:=by rfl):PE X (.Call (.Name "min" p) [a] [⟨some "key",.Lambda params body scope aaJ,kp⟩] pos) (Q6 X.K P aaJ (X.env.qual++"<lambda>") ix ta te):=by
 intro pins s σ H Q I h;refine Kv (yt I hg hm (show bootBuiltins "min"=some (.builtin "min")from by decide+kernel) ?_ (by decide) (by decide));refine PyProof.Rows.callWith_kw (thn (ha pos pins s σ H _ I h) fun us s1 ⟨vs,H1,I1,r1,q1⟩=>kws_cons ?_) he1 hp;obtain⟨l,its,e,hq,hne,hL,kf,R,hR0,hRl,hturn,q⟩:=q1;subst e;cases r1 with
 |cons r rr=>
  cases rr;cases r;refine Nq (params:=params) (body:=body) I1 L hcode hL ck hdef fun f c' pm ctv H2 s2 I2 hS hL2 ho hf hge hrec=>kws_nil ?_;have mF:=qg.new I1 hge;have J:Inv X ((f,PySem.W.kla_obj "<lambda>" (X.env.qual++"<lambda>") params body scope (eZ X.env.cells scope.names []) pm c' ctv)::pins) σ H2 s2:=I2.pins_of fun z hz=>by
   rcases cF.mp hz with z|z
   ·subst z;exact⟨ho,hf,mF.loc,mF.fs,fun v z=>nomatch z⟩
   ·exact I2.pin _ (jr _ z)
  obtain⟨oc,ocv,tq,hC,hd,hv⟩:=hrec;have aaK:(its.map fun p=>Value.ref p.1).length=its.length:=aJ _;show wpAny (model X.prog X.w) X.A (call (.builtin "min") [.ref l] [(Str.ofString "key",.ref f)]) (EP X pins σ Q) X.xe s2;refine M5 (vs:=its.map fun p=>Value.ref p.1) kf (fun j H=>R j H/\H c'=some (.frz oc (.own 0))) (I.ok.hd hc) (by rw[aaK];exact List.length_pos_iff.mpr hne) J ⟨hR0 H2 hS hL2,hC⟩ (fun j H s J hj=> ?_) (fun j v ps H s hv' J hm hj=> ?_) fun i v H' s' hv' hb J hj=> ?_
  ·obtain⟨ws,rv,pl,hz⟩:=J.list (hRl j H hj.1);rw[vH rv]at pl;exact pl.isList
  ·rw[dD]at hv';cases ej:its[j]? with
   |none=>rw[ej]at hv';cases hv'
   |some p=>
    rw[ej]at hv';cases hv';have hf:=(J.pin _ (jr _ hm)).1;have hcd:s.heap.CodeRec (.ref c') (X.env.qual++"<lambda>"):=⟨c',oc,ocv,tq,rfl,(J.hok c' _ hj.2).1,hd,hv⟩;refine yC (Sg (A:=X.A.in1) (v:= .ref p.1) ck hkind hcap hy hco hgen hr.in1 J.env0.in1.frames (he _ _ _ _ (hr.in1.deeper _)) J rfl hf hcd hbind (hturn j p H ej hj.1)) (fun u s' z=> ?_) fun _ _ z=>z.elim;obtain⟨w,H',J',rw',⟨rfl,hR'⟩,hfz⟩:=z;obtain⟨t,rfl⟩:=rw';exact⟨H',t,rfl,J',hR',hfz _ _ _ hj.2⟩
  ·rw[dD]at hv';cases ei:its[i]? with
   |none=>rw[ei]at hv';cases hv'
   |some p=>
    rw[ei]at hv';cases hv';rw[aaK]at hb hj;exact⟨.ref p.1,H',J,rfl,q i p H' ei hb hj.1⟩
end
def Hu(T:Addr)(H:Hp):Prop:=H T=some (.tbl #[])/\∀b,b≠T->H b=none\/∃o xs,H b=some (.frz o (.lst xs))
theorem Jr{P:ρ}{w:υ}{K:W.Frag}{mg mb:L4}{CX:CXT}{k:Nat}{fa a c T:Addr}{fd:τ}{x:Str}{sp:Sp}{s₁:η}{vs:List ζ}{ns:List Int}
  (KX:K.In s₁.heap)(hT:PySem.W.CodeHd s₁.heap c T)(hT0:s₁.heap.get? T=some (PySem.W.tabObj #[]))(hKT:K.lookup T=none)(hbm:∃bm ob,mg "__builtins__"=some (.ref bm)/\bm≠builtinsNs/\s₁.heap.get? bm=some ob/\ob.cls= .type "module"/\ob.dict=some builtinsNs/\ob.data= .plain)(hns:s₁.heap.Ns mainGlobals mg)(hb:s₁.heap.Ns builtinsNs mb)(hbb:∀x:Str,x≠"__name__"->mb x=bootBuiltins x)(hlim:s₁.heap.NoLimit)(hg:s₁.gens=#[])(ha:s₁.heap.get? a=some {cls:= .type "list",data:= .seq vs.toArray})(hi:IntsAre vs ns)(hl:ns.length<=sizeLine)(hr:Room k callerA)
  (F:∀base:Heap,K.In base->base.Ns mainGlobals mg->Bx base mg c T->FnOk P w K mg base CX k fa fd [x] sp)(hbind:∀(s:η) (u:ζ),BindsTo s fd ⟨[u],[]⟩ [(x,u)])(hsp:∀H:Hp,Hu T H->SqL K H a (ns.map V.int)->sp [.ref a] H (fun v _=>v= .bl true) fun _ _ _=>False)(hCX:∀H e s',CX [] H s₁ (fun _ _ _=>False) e s'->False):
  codeAny (model P w) callerA (.call (.ref fa) ⟨[.ref a],[]⟩) (fun r s'=>r= .ok (.ret (.bool true))/\OldK s₁.heap s'.heap/\s'.os=s₁.os/\AllBare s'.gens) s₁:=by
 have rv:=vals_ints hi;have lenV:=hi.length;have aT:a≠T:=fun e=>by rw[e,hT0]at ha;cases ha
 have core:∀H:Hp,Hu T H->SqL K H a (ns.map V.int)->HOk P w H s₁.heap->(∀b,H b≠none->b=a\/b=T)->(H a≠none->K.lookup a=none)->
   codeAny (model P w) callerA (.call (.ref fa) ⟨[.ref a],[]⟩) (fun r s'=>r= .ok (.ret (.bool true))/\OldK s₁.heap s'.heap/\s'.os=s₁.os/\AllBare s'.gens) s₁:=by
  intro H hO hS hok hA hK;have base_of:∀{b:Addr} {o:Obj},s₁.heap.get? b=some o->H b=none->(hidT s₁.heap H).get? b=some o:=fun e n=>hidT_get e n;have noA:∀{b:Addr} {o:Obj},s₁.heap.get? b=some o->(∀vs n,o.data≠.seq vs n)->o.cls≠.none->H b=none:=fun{b o} e d d2=>by
   cases q:H b with
   |none=>rfl
   |some u=>
    rcases hA b (by rw[q];simp)with e'|e'
    ·subst e';rw[ha]at e;cases e;exact absurd rfl (d _ _)
    ·subst e';rw[hT0]at e;cases e;exact absurd rfl d2
  have noD:∀{b:Addr} {o:Obj} {es:Array DictEntry} {ep:Nat},s₁.heap.get? b=some o->o.data= .dict es ep->H b=none:=fun{b o es ep} e d=>by
   cases q:H b with
   |none=>rfl
   |some u=>
    rcases hA b (by rw[q];simp)with e'|e'
    ·subst e';rw[ha]at e;cases e;have d':Data.seq vs.toArray _=Data.dict es ep:=d;cases d'
    ·subst e';rw[hT0]at e;cases e;have d':Data.fields (#[]:Array ζ)=Data.dict es ep:=d;cases d'
  have nsK:∀{b:Addr} {m:L4},s₁.heap.Ns b m->(hidT s₁.heap H).Ns b m:=fun{b m} ⟨o,es,ep,e,d,r⟩=>⟨o,es,ep,base_of e (noD e d),d,r⟩;have hKb:K.In (hidT s₁.heap H):=fun b o e=>base_of (KX b o e) (by
   cases q:H b with
   |none=>rfl
   |some u=>
    rcases hA b (by rw[q];simp)with e'|e'
    ·subst e';rw[hK (by rw[q];simp)]at e;cases e
    ·subst e';rw[hKT]at e;cases e)
  have gT:mainGlobals≠T:=fun z=>by
   obtain⟨o,es,ep,e,d,_⟩:=hns;rw[z,hT0]at e;cases e;have d':Data.fields (#[]:Array ζ)=Data.dict es ep:=d;cases d'
  have hM:Mod K mg (hidT s₁.heap H):=⟨hKb,nsK hns,⟨mb,nsK hb,hbb⟩,let⟨mc,h1,h2⟩:=hlim;⟨mc,nsK h1,h2⟩⟩;have hLB:Bx (hidT s₁.heap H) mg c T:=by
   refine⟨?_,?_,gT⟩
   ·obtain⟨o,vs,file,tf,flags,tg,inF,text,tt,e1,r1,r2,r⟩:=hT;exact⟨o,vs,file,tf,flags,tg,inF,text,tt,base_of e1 (noA e1 (fun vs n z=>by rw[r2]at z;cases z) (by rw[r1];exact fun z=>nomatch z)),r1,r2,r⟩
   ·obtain⟨bm,ob,b1,b2,b3,b4,b5,b6⟩:=hbm;refine⟨bm,ob,b1,b2,fun z=> ?_,fun z=> ?_,base_of b3 (noA b3 (fun vs n z=>by rw[b6]at z;cases z) (by rw[b4];exact fun z=>nomatch z)),b4,b5,b6⟩
    ·obtain⟨o,es,ep,e,d,_⟩:=hns;rw[<-z,b3]at e;cases e;rw[b6]at d;cases d
    ·rw[z,hT0]at b3;cases b3;cases b4
  have e0:Env0 P w K mg (hidT s₁.heap H) callerA [] s₁ H:=⟨rfl,hM,fun b o e=>of_hidT e,Fv (hidT_size _ _),trivial,fun b hb=>absurd (show b∈([]:List Addr)from hb) (by simp),hok,.of_eq hg⟩;refine Qu ((F _ hKb (nsK hns) hLB).run callerA [] s₁ H ⟨[.ref a],[]⟩ [.ref a] [.ref a] _ _ hr e0 (hbind s₁ (.ref a)) (.cons rfl .nil) (hsp H hO hS)) fun r s' h=> ?_;cases r with
  |error e=>exact(hCX H e s' h).elim
  |ok fl=>
   cases fl with
   |next=>exact False.elim h
   |brk=>exact False.elim h
   |cont=>exact False.elim h
   |ret u=>
    obtain⟨v,H',os,bare,un,hok',r',q⟩:=h;have q':v= .bl true:=q;subst q';obtain rfl:u=Value.bool true:=r';refine⟨rfl,⟨fun b o e=> ?_,fun b o e=>un.there b o e (by simp)⟩,os,bare⟩;by_cases hbT:b=T
    ·subst hbT;obtain⟨more,z⟩:=un.tbls b _ hO.1;have z2:s'.heap.get? b=some (PySem.W.tabObj (#[]++more)):=hok' b _ z;rw[hT0]at e;cases e;exact .inr (.inl ⟨(hT.tab hT0).isCodeTable,rfl,#[],more,rfl,z2⟩)
    ·refine .inl ?_;cases q:H b with
     |none=>exact un.keep b o e q (by intro z;exact absurd (show b∈([]:List Addr)from z) (by simp)) (by simp)
     |some u=>
      rcases hO.2 b hbT with z|⟨ob,xs,z⟩
      ·rw[q]at z;cases z
      ·have z2:=un.frzs b ob _ z;obtain⟨e1,_⟩:=hok b _ z;obtain⟨e2,_⟩:=hok' b _ z2;rw[e]at e1;cases e1;exact e2
 cases hk:K.lookup a with
 |some o=>
  have e:=KX a o hk;rw[ha]at e;cases e;refine core (fun b=>if b=T then some (.tbl #[])else none) ⟨aB rfl,fun b hb=> .inl (aq hb)⟩ (.inr ⟨_,vs.toArray,_,hk,rfl,rfl,rfl,by rw[fu,lenV];exact hl,by simpa using rv⟩) (fun b u z=> ?_) (fun b z=> ?_) fun z=>absurd (aq aT) z
  ·by_cases hb:b=T
   ·have z':=(aB hb).symm.trans z;cases z';subst hb;exact hT0
   ·have z':=(aq hb).symm.trans z;cases z'
  ·by_cases hb:b=T
   ·exact .inr hb
   ·exact absurd (aq hb) z
 |none=>
  refine core (fun b=>if b=T then some (.tbl #[])else if b=a then some (.frz {cls:= .type "list",data:= .seq vs.toArray} (.lst (ns.map V.int)))else none) ⟨aB rfl,fun b hb=> ?_⟩ (.inl (.inr ⟨{cls:= .type "list",data:= .seq vs.toArray},(aq aT).trans (aB rfl)⟩)) (fun b u z=> ?_) (fun b z=> ?_) fun _=>hk
  ·by_cases hba:b=a
   ·exact .inr ⟨_,_,(aq hb).trans (aB hba)⟩
   ·exact .inl ((aq hb).trans (aq hba))
  ·by_cases hb:b=T
   ·have z':=(aB hb).symm.trans z;cases z';subst hb;exact hT0
   ·by_cases hba:b=a
    ·have z':=((aq hb).trans (aB hba)).symm.trans z;cases z';subst hba;exact⟨ha,by rw[aJ];exact hl,vs,_,rv,ha⟩
    ·have z':=((aq hb).trans (aq hba)).symm.trans z;cases z'
  ·by_cases hb:b=T
   ·exact .inr hb
   ·by_cases hba:b=a
    ·exact .inl hba
    ·exact absurd ((aq hb).trans (aq hba)) z
theorem Kw{l:PySem.W.OpenLaw}{n k:Nat}{q:ρ}{loose:List Str}{XP:(L4)->Heap->Prop}{YP:υ->Heap->Prop}{d:DefRec}{K:Params->PySem.W.Frag}{CX:CXT}{sp:Addr->PySem.W.Frag->Sp}{x:Str}{c T:Addr}(hn:l.most=some n)(hn2:n<=sizeLine)(hdf:d.params.defaults=[])(hr:Room k callerA)(hY:∀(w:υ) (h:Heap),YP w h->(K w.params).In h/\h.get? T=some (PySem.W.tabObj #[]))(hc:∀w:υ,PySem.W.codeHdIn (K w.params) c T=true)(hKT:∀w:υ,(K w.params).lookup T=none)
  (F:∀(w:υ) (mg:L4) (fa:Addr) (h:Heap),(K w.params).In h->h.Ns mainGlobals mg->mg d.name=some (.ref fa)->
   ∃fd:τ,(∀(s:η) (u:ζ),BindsTo s fd ⟨[u],[]⟩ [(x,u)])/\
    ∀base:Heap,(K w.params).In base->base.Ns mainGlobals mg->Bx base mg c T->FnOk l.prog w (K w.params) mg base CX k fa fd [x] (sp T (K w.params)))(hsp:∀(K:W.Frag) (H:Hp) (a:Addr) (ns:List Int),ns.length<=n->Hu T H->SqL K H a (ns.map V.int)->sp T K [.ref a] H (fun v _=>v= .bl true) fun _ _ _=>False)(hCX:∀(H:Hp) (s:η) (e:ζ) (s':η),CX [] H s (fun _ _ _=>False) e s'->False):
  PySem.W.WalkO q loose XP YP l.row.toRowW d [] (fun f vs=>PySem.call f vs):=by
 refine Att.attach_call hn hdf fun w s₀ s₁ mg mb fa o pm cd doc a vs ns G Y ho hd hcd hmg hobj hints hlen hg=> ?_;obtain⟨KX,hT0⟩:=hY w _ Y;obtain⟨fd,hb,hF⟩:=F w mg fa _ KX G.T.g hmg;exact Jr KX (PySem.W.codeHd_of_K KX (hc w)) hT0 (hKT w) G.T.bmain G.T.g G.T.b G.T.builtins G.T.nolimit hg hobj hints (dO hlen hn2) hr hF hb (fun H hO hS=>hsp (K w.params) H a ns hlen hO hS) fun H e s'=>hCX H s₁ e s'
theorem Fun.okC{P:ρ}{w:υ}{K:W.Frag}{mg:L4}{base:Heap}{x qual:Str}{st:Stmt}{f c:Addr}{fd:τ}{N ps:List Str}{k:Nat}{sp:Sp}(F:Fun K x qual st f fd)(hcd:fd.code= .ref c)(S:FnScope N ps (defScope st))(len:∀vs H Q E,sp vs H Q E->vs.length=ps.length)(hbody:∀(A:χ) (outer:List Env) (s:η) (H:Hp) (vs:List V) (Q:VK) (E:XK),Room k (A.deeper (envOfC qual (defScope st) s.heap.objs.size f (.ref c)))->sp vs H Q E->
   ∃t,PSs (cxOf CX0 P w K mg base N qual (defScope st) f (.ref c) A outer s H E).nox (defBody st) t/\t {nx:=fun _ H'=>Q .non H',rt:=Q} (start N vs) H):FnOk P w K mg base CX0 (k+1) f fd ps sp:=by
 obtain⟨oc,od,kV,doc,pm,an,cdv,ct,osl,rfl,lk,hcd'⟩:=F.ex;have e:cdv= .ref c:=hcd;subst e;refine fn_of lk hcd' S len fun A outer s H vs Q E hr hsp=> ?_;obtain⟨t,h,q⟩:=hbody A outer s H vs Q E hr hsp;exact⟨t,h.nox,q⟩
def isK(k:Int):ζ->Bool
 | .int i _=>i==k
 |_=>false
theorem Ib{i:Int}:∀{n:Nat} {us:List ζ},us.length=n->(∀(j:Nat) (u:ζ),us[j]? =some u->∃t:Tok,u=Value.int (i+((j:Nat):Int)*1) t)->Vals (((List.range n).map fun(k:Nat)=>i+(k:Int)).map V.int) us:=by
 intro n us hl hi;have go:∀(us:List ζ) (k:Nat),(∀(j:Nat) (u:ζ),us[j]? =some u->∃t:Tok,u=Value.int (i+((j+k:Nat):Int)*1) t)->Vals (((List.range' k us.length).map fun(k:Nat)=>i+(k:Int)).map V.int) us:=by
  intro us
  induction us with
  |nil=>intro k _;exact .nil
  |cons u us ih=>
   intro k h;obtain⟨t,e⟩:=h 0 u rfl;refine .cons ⟨t,?_⟩ ?_
   ·rw[e];show Value.int (i+((0+k:Nat):Int)*1) t=Value.int (i+(k:Int)) t;congr 1;omega
   ·refine ih (k+1) fun j u hu=> ?_;obtain⟨t,e⟩:=h (j+1) u (by simpa using hu);exact⟨t,by rw[e];congr 1;omega⟩
 have:=go us 0 fun j u hu=>hi j u hu;rw[hl,<-List.range_eq_range']at this;exact this
section
variable{X:Cx}{e:Expr}{ta:TE}{f:Str}{pos:Pos}
theorem Ru(K:W.Frag)(he:PE X e ta)(hb:attributeBase e f X.env (eval e X.env)=eval e X.env)(h:X.K=K:=by rfl):PE X (.Attribute e f pos) (tFld K ta f):=by subst h;exact oJ he hb
theorem pD:MtM X "list.index" (fun x vs H Q=>∃(l:Addr) (ns:List Int) (k:Int) (j:Nat),x= .ref l/\vs=[.int k]/\H l=some (.lst (ns.map V.int))/\ns[j]? =some k/\(∀i,i<j->ns[i]? ≠some k)/\ns.length<=1000/\Q (.int (j:Nat)) H):=by
 intro pins s σ H x vs v us Q I rx rv h;obtain⟨l,ns,k,j,rfl,rfl,hH,hj,hno,hb,q⟩:=h;cases rx;obtain⟨u,rfl,ru⟩:=rv.one;obtain⟨t,rfl⟩:=ru;obtain⟨z,its,n,r,hl,e⟩:=I.lstM hH;rw[aJ]at z hl;have hI:∀(i:Nat) (v:ζ),its[i]? =some v->∃t,v= .int (ns.getD i 0) t/\ns[i]? =some (ns.getD i 0):=fun i v hv=>by
  have hi:i<ns.length:=by have:=(m6.mp hv).1;omega
  have e0:ns[i]? =some (ns.getD i 0):=by rw[oK,gj hi];rfl
  obtain⟨u,hu,ru⟩:=r.get (show(ns.map V.int)[i]? =some (.int (ns.getD i 0)) by rw[dD,e0];rfl);rw[hv]at hu;cases hu;obtain⟨t,rfl⟩:=ru;exact⟨t,rfl,e0⟩
 have hj':j<its.length:=by have:=(m6.mp hj).1;omega
 refine Qt F.slot_list_index ⟨_,e,rfl⟩ F.entry_list_index (F.args_list_index_2 _ _)
  (MeetsSeq.list_index l its.toArray n (.int k t) (isK k) (fun y hy=> ?_) j (by simpa using hj') (by omega) ?_ (fun i hi hlt=> ?_)) ⟨e,?_⟩
 ·obtain⟨i,hi,rfl⟩:=Fz (show y∈its by simpa using hy);obtain⟨t',e',_⟩:=hI i its[i] (gj hi);rw[e'];exact MeetsSeq.EqGives.int _ _ _ _
 ·obtain⟨t',e',e0⟩:=hI j its[j] (gj hj');show isK k its[j]=true;rw[e'];rw[hj]at e0;have:k=ns.getD j 0:=uY e0;show(ns.getD j 0==k)=true;rw[<-this];exact beq_self_eq_true _
 ·have hi':i<its.length:=by simpa using hi
  obtain⟨t',e',e0⟩:=hI i its[i] (gj hi');show isK k its[i]=false;rw[e'];show(ns.getD i 0==k)=false;refine beq_eq_false_iff_ne.mpr fun z=>hno i hlt ?_;rw[e0,z]
 ·exact⟨.int (j:Nat),H,I.tok _,⟨s.toks,rfl⟩,q⟩
end
section
variable{X:Cx}{a b:Expr}{ta:TA}{p pos p' pos':Pos}
def nG(i:Int)(n:Nat):List Int:=(List.range n).map fun(k:Nat)=>i+(k:Int)
def Wb(ta:TA):TE:=fun σ H Q=>ta σ H fun vs H1=>∃i j:Int,vs=[.int i,.int j]/\0<=i/\i<=j/\j<=1000000/\∀l,H1 l=none->Q (.ref l) (upd H1 l (.lst ((nG i (j-i).toNat).map V.int)))
theorem wM(hc:X.calm=true)(hgT:Gl X "list")(hmT:X.mg "list"=none)(hg:Gl X "range")(hm:X.mg "range"=none)(ha:PA X [a,b] ta)(hs:starEach [a,b] X.env=[(false,eval a X.env),(false,eval b X.env)]:=by rfl)(hs':starEach [b] X.env=[(false,eval b X.env)]:=by rfl)(hs2:starEach [Expr.Call (.Name "range" p') [a,b] [] pos'] X.env=[(false,eval (Expr.Call (.Name "range" p') [a,b] [] pos') X.env)]:=by rfl):
  PE X (.Call (.Name "list" p) [.Call (.Name "range" p') [a,b] [] pos'] [] pos) (Wb ta):=by
 intro pins s σ H Q I h;refine Kv (yt I hgT hmT (show bootBuiltins "list"=some (.type "list")from by decide+kernel) ?_ (by decide) (by decide));refine Ia ?_ hs2 rfl;rw[hs2];refine YM ?_;refine Call_ (yt I hg hm Z6 (Ia (thn (ha pos' pins s σ H _ I h) fun us s1 ⟨vs,H1,I1,r1,q1⟩=> ?_) (by rw[hs,hs']) (by rw[hs'];rfl)));obtain⟨i,j,e,q0,q1,q2,q⟩:=q1;subst e;cases r1 with
 |cons r rr=>
  cases rr with
  |cons r' rr=>
   cases rr;obtain⟨t,rfl⟩:=r;obtain⟨t',rfl⟩:=r';refine call_range_2 ?_;refine V3 ?_;have hn:Builtin.Range.rangeSize i j 1=(((j-i).toNat:Nat):Int):=by rw[wfr];split<;>omega
   refine call_list_range (I.ok.hd hc) (whe ..) (small_one (by omega) (by omega) (by omega) (by omega)) hn (by omega) fun h' tk acc c hk hS hacc=> ?_;have hv:Vals ((nG i (j-i).toNat).map V.int) acc.toList:=Ib (by rw[sJ];exact hacc.1) (fun k u hu=>hacc.2 k u (by simpa using hu));have hz:((nG i (j-i).toNat).map V.int).length<=sizeLine:=by unfold nG;rw[eE];simp;omega
   have I2:Inv X pins σ H1 {s1 with heap:=s1.heap.push {cls:=Value.type "range",data:=Data.fields #[Value.int i t,Value.int j t',Value.int 1 s1.toks]},toks:=s1.toks+1}:=I1.kept fun b o e=>cV _ e;exact⟨.ref _,_,I2.laid (t':=tk) (o:= .lst ((nG i (j-i).toNat).map V.int)) hk (aN _) ⟨hz,acc.toList,c,hv,by simpa using hS⟩,rfl,q _ (I2.hok.fresh (aN _))⟩
end
structure JN(K:W.Frag)(C:Addr)(x qual:Str)(st:Stmt)(ps:List Str)(f:Addr)(fd:τ):Prop where
 F:Fun K x qual st f fd
 b:Binds K fd ps []
 m:Meth K C x f
end L2
namespace Sx
abbrev Vec:=Nat->Int
abbrev qU:=Nat->Vec
noncomputable def sm:Nat->(Nat->Int)->Int
 |0,_=>0
 |k+1,f=>sm k f+f k
theorem Ck{f g:Nat->Int}:∀k,(∀i,i<k->f i=g i)->sm k f=sm k g
 |0,_=>rfl
 |k+1,h=>by
  show sm k f+f k=sm k g+g k;rw[Ck k fun i hi=>h i (qH hi),h k (sI k)]
theorem lJ(f g:Nat->Int):∀k,sm k (fun i=>f i+g i)=sm k f+sm k g
 |0=>rfl
 |k+1=>by
  show sm k (fun i=>f i+g i)+(f k+g k)=sm k f+f k+(sm k g+g k);rw[lJ f g k];omega
theorem fM(a:Int)(f:Nat->Int):∀k,sm k (fun i=>a*f i)=a*sm k f
 |0=>by show(0:Int)=a*0;rw[yw]
 |k+1=>by
  show sm k (fun i=>a*f i)+a*f k=a*(sm k f+f k);rw[fM a f k,Int.mul_add]
theorem Kd{f:Nat->Int}:∀k,(∀i,i<k->f i=0)->sm k f=0
 |0,_=>rfl
 |k+1,h=>by
  show sm k f+f k=0;rw[Kd k fun i hi=>h i (qH hi),h k (sI k)];rfl
theorem dR{f:Nat->Int}{j:Nat}:∀k,j<k->(∀i,i<k->i≠j->f i=0)->sm k f=f j
 |k+1,hj,h=>by
  show sm k f+f k=f j;by_cases e:j=k
  ·subst e;rw[Kd j fun i hi=>h i (qH hi) (cQ hi),Yk]
  ·rw[dR k (by omega) fun i hi=>h i (qH hi),h k (sI k) (kO e),Int.add_zero]
theorem Lb{f:Nat->Int}{j:Nat}:∀k,j+1<k->(∀i,i<k->i≠j->i≠j+1->f i=0)->f j+f (j+1)=0->sm k f=0
 |k+1,hj,h,z=>by
  show sm k f+f k=0;by_cases e:j+1=k
  ·subst e;rw[dR (j:=j) (j+1) (sI _) fun i hi hn=>h i (qH hi) hn (cQ hi)];exact z
  ·rw[Lb k (by omega) (fun i hi=>h i (qH hi)) z,h k (sI k) (by omega) (kO e)];rfl
theorem Gu(f:Nat->Nat->Int)(m:Nat):∀k,sm k (fun i=>sm m (fun j=>f i j))=sm m (fun j=>sm k (fun i=>f i j))
 |0=>by show(0:Int)=sm m fun _=>0;rw[Kd m fun _ _=>rfl]
 |k+1=>by
  show sm k (fun i=>sm m (fun j=>f i j))+sm m (fun j=>f k j)=sm m (fun j=>sm k (fun i=>f i j)+f k j);rw[Gu f m k,lJ]
theorem yZ{f:Nat->Int}:∀k,(∀i,i<k->0<=f i)->0<=sm k f
 |0,_=>Fq _
 |k+1,h=>Int.add_nonneg (yZ k fun i hi=>h i (qH hi)) (h k (sI k))
theorem Ld{f:Nat->Int}:∀k,sm k f<0->∃i,i<k/\f i<0
 |0,h=>absurd h (whj 0)
 |k+1,h=>by
  by_cases c:f k<0
  ·exact⟨k,sI k,c⟩
  ·have h':sm k f+f k<0:=h;obtain⟨i,hi,hf⟩:=Ld k (f:=f) (by omega);exact⟨i,qH hi,hf⟩
theorem Gv{f:Nat->Int}:∀k,(∀i,i<k->0<=f i)->sm k f<=0->∀i,i<k->f i=0
 |0,_,_,i,hi=>absurd hi (QL i)
 |k+1,h,z,i,hi=>by
  have h1:=yZ k fun i hi=>h i (qH hi);have h2:=h k (sI k);have z':sm k f+f k<=0:=z;by_cases e:i=k
  ·subst e;omega
  ·exact Gv k (fun i hi=>h i (qH hi)) (by omega) i (by omega)
noncomputable def sg(i:Nat):Int:=if i %2=0 then 1 else -1
theorem Q9(i:Nat):sg (i+1)= -sg i:=by
 unfold sg;rcases Nat.mod_two_eq_zero_or_one i with h|h
 ·rw[aB h,aq (by omega)]
 ·rw[aB (by omega),aq (by omega)];rfl
theorem Lh(i:Nat):sg i=1\/sg i= -1:=by unfold sg;split;exact .inl rfl;exact .inr rfl
def gQ(i r:Nat):Nat:=if r<i then r else r+1
def Qv(i r:Nat):Nat:=if r<i then r else r-1
theorem Lf(i r:Nat):gQ i r≠i:=by unfold gQ;split<;>omega
theorem rO{i r j:Nat}(h:j≠i):gQ i r=j↔r=Qv i j:=by unfold gQ Qv;split<;>split<;>omega
theorem wF{i r k:Nat}(hi:i<k+1)(hr:r<k):gQ i r<k+1:=by unfold gQ;split<;>omega
theorem V7{i j k:Nat}(h:j≠i)(hi:i<k+1)(hj:j<k+1):Qv i j<k:=by unfold Qv;split<;>omega
def lA(M:qU)(i:Nat):qU:=fun r c=>M (gQ i r) (c+1)
def det:Nat->qU->Int
 |0,_=>1
 |k+1,M=>sm (k+1) fun i=>sg i*M i 0*det k (lA M i)
noncomputable def put(M:qU)(r:Nat)(v:Vec):qU:=fun i=>if i=r then v else M i
theorem put_same(M:qU)(r:Nat)(v:Vec):put M r v r=v:=by unfold put;rw[aB rfl]
theorem gU(M:qU){r i:Nat}(v:Vec)(h:i≠r):put M r v i=M i:=by unfold put;rw[aq h]
theorem ud(M:qU)(r:Nat):put M r (M r)=M:=by funext i;unfold put;split;rename_i h;rw[h];rfl
theorem iy(M:qU){r t:Nat}(u v:Vec)(h:r≠t):put (put M r u) t v=put (put M t v) r u:=by
 funext i;unfold put;by_cases h1:i=t
 ·by_cases h2:i=r
  ·exact absurd (h2.symm.trans h1) h
  ·rw[aB h1,aq h2,aB h1]
 ·rw[aq h1];by_cases h2:i=r
  ·rw[aB h2,aB h2]
  ·rw[aq h2,aq h2,aq h1]
theorem iR(M:qU)(i:Nat)(v:Vec):lA (put M i v) i=lA M i:=by
 funext r c;unfold lA;rw[gU _ _ (Lf i r)]
theorem w6(M:qU){i j:Nat}(v:Vec)(h:j≠i):lA (put M j v) i=put (lA M i) (Qv i j) (fun c=>v (c+1)):=by
 funext r c;unfold lA put;by_cases e:r=Qv i j
 ·rw[aB e,aB ((rO h).mpr e)]
 ·rw[aq e,aq fun z=>e ((rO h).mp z)]
theorem pY:∀k {M N:qU},(∀i,i<k->∀j,j<k->M i j=N i j)->det k M=det k N
 |0,_,_,_=>rfl
 |k+1,M,N,h=>Ck (k+1) fun i hi=>by
  rw[h i hi 0 (yx k),pY k (M:=lA M i) (N:=lA N i) fun r hr c hc=>h _ (wF hi hr) _ (Nat.succ_lt_succ hc)]
theorem su:∀k (M:qU) (r:Nat) (a b:Int) (u v:Vec),r<k->det k (put M r fun c=>a*u c+b*v c)=a*det k (put M r u)+b*det k (put M r v)
 |k+1,M,r,a,b,u,v,hr=>by
  unfold det;rw[<-fM,<-fM,<-lJ];refine Ck (k+1) fun i hi=> ?_;by_cases e:r=i
  ·subst e;rw[iR,iR,iR,put_same,put_same,put_same]
   grind
  ·rw[w6 _ _ e,w6 _ _ e,w6 _ _ e,gU _ _ (kO e),gU _ _ (kO e),gU _ _ (kO e),su k (lA M i) (Qv i r) a b (fun c=>u (c+1)) (fun c=>v (c+1)) (V7 e hi hr)]
   grind
theorem sy:∀k (M:qU) (r:Nat),r+1<k->M r=M (r+1)->det k M=0
 |k+1,M,r,hr,e=>by
  unfold det;refine Lb (j:=r) (k+1) hr (fun i hi h1 h2=> ?_) ?_
  ·have z:det k (lA M i)=0:=by
    by_cases c:i<r
    ·refine sy k (lA M i) (r-1) (by omega) ?_;funext x;unfold lA gQ;rw[aq (by omega),aq (by omega),show r-1+1=r by omega,e]
    ·refine sy k (lA M i) r (by omega) ?_;funext x;unfold lA gQ;rw[aB (by omega),aB (by omega),e]
   rw[z,yw]
  ·have z:lA M r=lA M (r+1):=by
    funext x c;unfold lA gQ;by_cases h1:x<r
    ·rw[aB h1,aB (by omega)]
    ·rw[aq h1];by_cases h2:x=r
     ·subst h2;rw[aB (by omega),e]
     ·rw[aq (by omega)]
   rw[z,e,Q9]
   grind
theorem Pn(k:Nat)(M:qU)(t:Nat)(u v:Vec)(h:t+1<k):det k (put (put M t u) (t+1) v)= -det k (put (put M t v) (t+1) u):=by
 have n1:t≠t+1:=by omega
 have z:∀w:Vec,det k (put (put M t w) (t+1) w)=0:=fun w=>sy k _ t h (by rw[gU _ _ n1,put_same,put_same]);have Xd:∀(N:qU) (r:Nat) (a b:Vec),r<k->det k (put N r fun c=>a c+b c)=det k (put N r a)+det k (put N r b):=fun N r a b hr=>by
  have:=su k N r 1 1 a b hr;simp only[JW]at this;exact this
 have z1:=z fun c=>u c+v c;rw[Xd _ (t+1) u v h,iy M _ _ n1,iy M _ _ n1,Xd _ t u v (by omega),Xd _ t u v (by omega),<-iy M _ _ n1,<-iy M _ _ n1,<-iy M _ _ n1,<-iy M _ _ n1,z u,z v]at z1;omega
theorem pZ:∀(d k:Nat) (M:qU) (r:Nat),r+d+1<k->M r=M (r+d+1)->det k M=0
 |0,k,M,r,h,e=>sy k M r h e
 |d+1,k,M,r,h,e=>by
  have f:=Pn k M (r+d+1) (M (r+d+1)) (M (r+d+1+1)) h;rw[ud,ud]at f;rw[f,pZ d k _ r (by omega) (by rw[gU _ _ (by omega),gU _ _ (by omega),gU _ _ (by omega),put_same,e];rfl)];rfl
theorem Pj{k:Nat}{M:qU}{r t:Nat}(hr:r<k)(ht:t<k)(h:r≠t)(e:M r=M t):det k M=0:=by
 by_cases c:r<t
 ·exact pZ (t-r-1) k M r (by omega) (by rw[e];congr 1;omega)
 ·exact pZ (r-t-1) k M t (by omega) (by rw[<-e];congr 1;omega)
theorem Bo:∀k (M:qU),(∀i,i<k->∀j,j<k->M i j=if i=j then 1 else 0)->det k M=1
 |0,_,_=>rfl
 |k+1,M,h=>by
  unfold det;rw[dR (j:=0) (k+1) (yx k) fun i hi hn=>by rw[h i hi 0 (yx k),aq hn];grind];rw[h 0 (yx k) 0 (yx k),aB rfl,Bo k (lA M 0) fun i hi j hj=> ?_]
  ·rfl
  ·unfold lA gQ;rw[aq (by omega),h _ (by omega) _ (by omega)];by_cases e:i=j
   ·rw[aB e,aB (by omega)]
   ·rw[aq e,aq (by omega)]
def fct:Nat->Int
 |0=>1
 |k+1=>(k+1:Int)*fct k
theorem wD{f:Nat->Int}{b:Int}:∀k,(∀i,i<k-> -b<=f i/\f i<=b)-> -((k:Int)*b)<=sm k f/\sm k f<=(k:Int)*b
 |0,_=>by
  show -((0:Int)*b)<=0/\(0:Int)<=0*b;omega
 |k+1,h=>by
  have ih:=wD k fun i hi=>h i (qH hi);have hk:=h k (sI k);show -((k+1:Nat)*b)<=sm k f+f k/\sm k f+f k<=(k+1:Nat)*b;rw[show(((k+1:Nat):Int))*b=(k:Int)*b+b by rw[Int.natCast_succ,Int.add_mul,JW]];omega
theorem w5{x y a b:Int}(hx: -a<=x/\x<=a)(hy: -b<=y/\y<=b): -(a*b)<=x*y/\x*y<=a*b:=by
 have h1:0<=(a-x)*(b-y):=HF (by omega) (by omega);have h2:0<=(a+x)*(b+y):=HF (by omega) (by omega);have h3:0<=(a-x)*(b+y):=HF (by omega) (by omega);have h4:0<=(a+x)*(b-y):=HF (by omega) (by omega);constructor<;>grind
theorem xT:∀k (M:qU) (c:Nat) (B:Int),1<=B->(∀i,i<k->∀j,j<k->i≠c-> -1<=M i j/\M i j<=1)->(∀j,j<k->c<k-> -B<=M c j/\M c j<=B)-> -(fct k*B)<=det k M/\det k M<=fct k*B
 |0,M,c,B,hB,_,_=>by
  show -(1*B)<=1/\(1:Int)<=1*B;omega
 |k+1,M,c,B,hB,h1,h2=>by
  unfold det;have e:fct (k+1)*B=((k+1:Nat):Int)*(fct k*B):=by show((k:Int)+1)*fct k*B=_;rw[VB];rfl
  rw[e];refine wD (k+1) fun i hi=> ?_;have hs:∀x y:Int, -y<=x/\x<=y-> -y<=sg i*x/\sg i*x<=y:=fun x y h=>by
   rcases Lh i with s|s
   ·rw[s,JW];exact h
   ·rw[s];omega
  rw[VB];refine hs _ _ ?_;by_cases ci:i=c
  ·subst ci;have a:=xT k (lA M i) k 1 (by decide) (fun r hr x hx _=>h1 _ (wF hi hr) _ (by omega) (Lf i r)) (fun x hx hk=>absurd hk (uV k));have b:=h2 0 (yx k) hi;rw[whd]at a;have:=w5 b a;rw[QK (fct k) B];exact this
  ·have a:=xT k (lA M i) (Qv i c) B hB (fun r hr x hx hn=>h1 _ (wF hi hr) _ (by omega) fun z=>hn ((rO (kO ci)).mp z)) (fun x hx hk=>by
    have hc:gQ i (Qv i c)=c:=(rO (kO ci)).mpr rfl;have hlt:c<k+1:=by unfold Qv at hk;split at hk<;>omega
    have:=h2 (x+1) (by omega) hlt;unfold lA;rw[hc];exact this)
   have b:=h1 i hi 0 (yx k) ci;have:=w5 b a;rw[JW]at this;exact this
structure Tab where
 col:Nat->Nat
 row:Nat->Nat
 cell:Nat->Nat->Int
 over:Int
 s:Int
noncomputable def one:Vec:=fun j=>if j=0 then 1 else 0
section
variable(n m:Nat)(S:Nat->Nat->Bool)(w:Nat->Int)
noncomputable def nv(a:Nat):Vec:=fun j=>if a<n then(if j=a+1 then 1 else 0)else(if j=0 then 1 else if S (a-n) (j-1)=true then -1 else 0)
noncomputable def zv:Vec:=fun j=>if j=0 then 0 else w (j-1)
noncomputable def rv(T:Tab)(r:Nat):Vec:=if r<m then nv n S (T.row r)else zv w
noncomputable def qb(T:Tab):qU:=fun i=>if i=0 then one else nv n S (T.col (i-1))
noncomputable def Fn(T:Tab)(c:Nat)(v:Vec):Int:=T.s*det (n+1) (put (qb n S T) c v)
structure Good(T:Tab):Prop where
 pos:0<T.over
 eq:∀r,r<=m->∀j,j<=n->T.over*rv n m S w T r j=T.cell r n*one j-sm n (fun c=>T.cell r c*nv n S (T.col c) j)
 sg:T.s=1\/T.s= -1
 dt:T.over=T.s*det (n+1) (qb n S T)
 Ei:∀c c',c<n->c'<n->T.col c=T.col c'->c=c'
 LK:∀r r',r<m->r'<m->T.row r=T.row r'->r=r'
 dis:∀c r,c<n->r<m->T.col c≠T.row r
 TQ:∀c,c<n->T.col c<n+m
 rlt:∀r,r<m->T.row r<n+m
 all:∀a,a<n+m->(∃c,c<n/\T.col c=a)\/∃r,r<m/\T.row r=a
 Zf:∀r,r<m->0<=T.cell r n
end
section
variable{n m:Nat}{S:Nat->Nat->Bool}{w:Nat->Int}{T:Tab}
theorem fB{r:Nat}(h:r<m):rv n m S w T r=nv n S (T.row r):=aB h
theorem gG:rv n m S w T m=zv w:=aq (uV m)
theorem Bw:qb n S T 0=one:=rfl
theorem xZ(c:Nat):qb n S T (c+1)=nv n S (T.col c):=by unfold qb;rw[aq (yK c)];rfl
theorem yh{c:Nat}(hc:c<=n)(a b:Int)(u v:Vec):Fn n S T c (fun j=>a*u j+b*v j)=a*Fn n S T c u+b*Fn n S T c v:=by
 unfold Fn;rw[su (n+1) (qb n S T) c a b u v (by omega)];grind
theorem Ke{c:Nat}{u v:Vec}(h:∀j,j<=n->u j=v j):Fn n S T c u=Fn n S T c v:=by
 unfold Fn;rw[pY (n+1) (M:=put (qb n S T) c u) (N:=put (qb n S T) c v) fun i _ j hj=> ?_];unfold put;split
 ·exact h j (by omega)
 ·rfl
theorem iW{c:Nat}(hc:c<=n)(x:Int)(a:Vec)(y:Nat->Int)(W:Nat->Vec):∀k,Fn n S T c (fun j=>x*a j-sm k (fun i=>y i*W i j))=x*Fn n S T c a-sm k (fun i=>y i*Fn n S T c (W i))
 |0=>by
  have h:=yh (T:=T) (S:=S) hc x 0 a a;rw[Ke (v:=fun j=>x*a j+0*a j) fun j _=>by show x*a j-0=_;omega,h];show _=_-0;omega
 |k+1=>by
  have h:=yh (T:=T) (S:=S) hc 1 (-(y k)) (fun j=>x*a j-sm k (fun i=>y i*W i j)) (W k);rw[Ke (v:=fun j=>1*(x*a j-sm k (fun i=>y i*W i j))+ -(y k)*W k j) fun j _=>by show x*a j-(sm k _+y k*W k j)=_;grind,h,iW hc x a y W k];show _=x*Fn n S T c a-(sm k _+y k*Fn n S T c (W k))
  grind
theorem oA{c:Nat}(hc:c<=n)(a:Int)(u:Vec):Fn n S T c (fun j=>a*u j)=a*Fn n S T c u:=by
 have h:=yh (T:=T) (S:=S) hc a 0 u u;rw[Ke (v:=fun j=>a*u j+0*u j) fun j _=>by omega,h];omega
theorem Qf(g:T.over=T.s*det (n+1) (qb n S T)){c i:Nat}(hc:c<=n)(hi:i<=n):Fn n S T c (qb n S T i)=if i=c then T.over else 0:=by
 unfold Fn;by_cases e:i=c
 ·subst e;rw[aB rfl,ud,<-g]
 ·rw[aq e,Pj (r:=c) (t:=i) (by omega) (by omega) (kO e) (by rw[put_same,gU _ _ e]),yw]
theorem jV(g:T.over=T.s*det (n+1) (qb n S T)){c:Nat}(hc:c<=n):Fn n S T c one=if c=0 then T.over else 0:=by
 have:=Qf g hc (dB n);rw[Bw]at this;rw[this];by_cases e:c=0
 ·rw[aB e,aB e.symm]
 ·rw[aq e,aq (kO e)]
theorem yD(g:T.over=T.s*det (n+1) (qb n S T)){c i:Nat}(hc:c<=n)(hi:i<n):Fn n S T c (nv n S (T.col i))=if i+1=c then T.over else 0:=by
 have:=Qf g hc (show i+1<=n by omega);rw[xZ]at this;exact this
theorem Zt{a x y:Int}(h:0<a)(e:a*x=a*y):x=y:=wey (by omega) e
theorem Good.base(G:Good n m S w T){r:Nat}(hr:r<=m):Fn n S T 0 (rv n m S w T r)=T.cell r n:=by
 have h1:=oA (T:=T) (S:=S) (c:=0) (dB n) T.over (rv n m S w T r);rw[Ke fun j hj=>G.eq r hr j hj,iW (dB n) _ _ (T.cell r) (fun c=>nv n S (T.col c)),jV G.dt (dB n),aB rfl,Kd n fun c hc=>by rw[yD G.dt (dB n) hc,aq (yK c),yw]]at h1;refine Zt G.pos ?_;rw[<-h1,QK];omega
theorem Good.dir(G:Good n m S w T){r c:Nat}(hr:r<=m)(hc:c<n):Fn n S T (c+1) (rv n m S w T r)= -T.cell r c:=by
 have h1:=oA (T:=T) (S:=S) (c:=c+1) hc T.over (rv n m S w T r);rw[Ke fun j hj=>G.eq r hr j hj,iW hc _ _ (T.cell r) (fun c=>nv n S (T.col c)),jV G.dt hc,aq (yK c),dR (j:=c) n hc fun i hi hn=>by rw[yD G.dt hc hi,aq (by omega),yw],yD G.dt hc hc,aB rfl]at h1;refine Zt G.pos ?_;rw[<-h1];grind
noncomputable def turn(T:Tab)(p q:Nat):Tab where
 col:=fun c=>if c=q then T.row p else T.col c
 row:=fun r=>if r=p then T.col q else T.row r
 over:=T.cell p q
 s:= -T.s
 cell:=fun r c=>if r=p then(if c=q then T.over else T.cell p c)else if c=q then -T.cell r q else(T.cell r c*T.cell p q-T.cell r q*T.cell p c)/T.over
theorem KD{p q:Nat}:qb n S (turn T p q)=put (qb n S T) (q+1) (nv n S (T.row p)):=by
 funext i;unfold qb put turn;dsimp only;by_cases h0:i=0
 ·rw[aB h0,aq (by omega),aB h0]
 ·rw[aq h0];by_cases h1:i=q+1
  ·rw[aB h1,aB (by omega)]
  ·rw[aq h1,aq (by omega),aq h0]
theorem Q5{p q r:Nat}(h:r≠p):rv n m S w (turn T p q) r=rv n m S w T r:=by
 unfold rv turn;dsimp only;rw[aq h]
theorem Good.vI(G:Good n m S w T){p q:Nat}(hp:p<m)(hq:q<n):(turn T p q).over=(turn T p q).s*det (n+1) (qb n S (turn T p q)):=by
 have h:=G.dir (r:=p) (cW hp) hq;rw[fB hp]at h;unfold Fn at h;rw[KD];show T.cell p q= -T.s*_
 grind
theorem Good.exact(G:Good n m S w T){p q r c:Nat}(hp:p<m)(hq:q<n)(hb:0<T.cell p q)(hr:r<=m)(hrp:r≠p)(hc:c<=n)(Xp:c≠q):
  T.over*(turn T p q).cell r c=T.cell r c*T.cell p q-T.cell r q*T.cell p c:=by
 have g':=G.vI hp hq;have abH:∀j,j<=n->T.cell p q*T.over*rv n m S w T r j=(T.cell r n*T.cell p q-T.cell r q*T.cell p n)*one j-sm n (fun c=>(T.cell r c*T.cell p q-T.cell r q*T.cell p c)*nv n S (T.col c) j)+T.over*T.cell r q*nv n S (T.row p) j:=fun j hj=>by
  have e1:=G.eq r hr j hj;have e2:=G.eq p (cW hp) j hj;rw[fB hp]at e2;have e3:sm n (fun c=>(T.cell r c*T.cell p q-T.cell r q*T.cell p c)*nv n S (T.col c) j)=T.cell p q*sm n (fun c=>T.cell r c*nv n S (T.col c) j)+ -(T.cell r q)*sm n (fun c=>T.cell p c*nv n S (T.col c) j):=by
   rw[<-fM,<-fM,<-lJ];exact Ck n fun c _=>by grind
  rw[e3];generalize sm n (fun c=>T.cell r c*nv n S (T.col c) j)=A at *;generalize sm n (fun c=>T.cell p c*nv n S (T.col c) j)=B at *
  grind
 have app:∀d,d<=n->T.cell p q*T.over*Fn n S (turn T p q) d (rv n m S w T r)=(T.cell r n*T.cell p q-T.cell r q*T.cell p n)*Fn n S (turn T p q) d one-sm n (fun c=>(T.cell r c*T.cell p q-T.cell r q*T.cell p c)*Fn n S (turn T p q) d (nv n S (T.col c)))+T.over*T.cell r q*Fn n S (turn T p q) d (nv n S (T.row p)):=fun d hd=>by
  rw[<-oA hd,Ke abH,<-iW hd _ _ (fun c=>T.cell r c*T.cell p q-T.cell r q*T.cell p c) (fun c=>nv n S (T.col c))];have h:=yh (T:=turn T p q) (S:=S) hd 1 (T.over*T.cell r q) (fun j=>(T.cell r n*T.cell p q-T.cell r q*T.cell p n)*one j-sm n (fun c=>(T.cell r c*T.cell p q-T.cell r q*T.cell p c)*nv n S (T.col c) j)) (nv n S (T.row p));simp only[JW]at h;exact h
 have abl:nv n S ((turn T p q).col q)=nv n S (T.row p):=by unfold turn;dsimp only;rw[aB rfl]
 have X3:∀c,c≠q->nv n S ((turn T p q).col c)=nv n S (T.col c):=fun c h=>by unfold turn;dsimp only;rw[aq h]
 have ov:(turn T p q).over=T.cell p q:=rfl;have key:∃x,T.cell r c*T.cell p q-T.cell r q*T.cell p c=T.over*x:=by
  by_cases hl:c=n
  ·subst hl;have h:=app 0 (dB _);have f1:=jV g' (dB c);have f2:=yD g' (dB c) hq;rw[aB rfl,ov]at f1;rw[abl,aq (yK q)]at f2;rw[f1,f2,Kd c fun i hi=> ?_]at h
   ·refine⟨Fn c S (turn T p q) 0 (rv c m S w T r),Zt hb ?_⟩
    grind
   ·by_cases hiq:i=q
    ·subst hiq;rw[Int.sub_self,Yj]
    ·have f3:=yD g' (dB c) hi;rw[X3 i hiq,aq (yK i)]at f3;rw[f3,yw]
  ·have hc':c<n:=by omega
   have h:=app (c+1) hc';have f1:=jV g' (show c+1<=n from hc');have f2:=yD g' (show c+1<=n from hc') hq;have f3:=yD g' (show c+1<=n from hc') hc';rw[aq (yK c)]at f1;rw[abl,aq (by omega)]at f2;rw[X3 c Xp,aB rfl,ov]at f3;rw[f1,f2,dR (j:=c) n hc' fun i hi hn=> ?_,f3]at h
   ·refine⟨-Fn n S (turn T p q) (c+1) (rv n m S w T r),Zt hb ?_⟩
    grind
   ·by_cases hiq:i=q
    ·subst hiq;rw[Int.sub_self,Yj]
    ·have f4:=yD g' (show c+1<=n from hc') hi;rw[X3 i hiq,aq (by omega)]at f4;rw[f4,yw]
 obtain⟨x,hx⟩:=key;show T.over*(if r=p then _ else if c=q then _ else(T.cell r c*T.cell p q-T.cell r q*T.cell p c)/T.over)=_;rw[aq hrp,aq Xp,hx,wfk _ (Int.ne_of_gt G.pos)]
theorem Good.turn(G:Good n m S w T){p q:Nat}(hp:p<m)(hq:q<n)(hb:0<T.cell p q)(ra:∀r,r<m->0<T.cell r q->T.cell p n*T.cell r q<=T.cell r n*T.cell p q):Good n m S w (turn T p q):=by
 have hqn:n≠q:=by omega
 have c1:∀r,r≠p->(Sx.turn T p q).cell r q= -T.cell r q:=fun r h=>by unfold Sx.turn;dsimp only;rw[aq h,aB rfl]
 have c2:(Sx.turn T p q).cell p q=T.over:=by unfold Sx.turn;dsimp only;rw[aB rfl,aB rfl]
 have c3:∀c,c≠q->(Sx.turn T p q).cell p c=T.cell p c:=fun c h=>by unfold Sx.turn;dsimp only;rw[aB rfl,aq h]
 have k1:(Sx.turn T p q).col q=T.row p:=by unfold Sx.turn;dsimp only;rw[aB rfl]
 have k2:∀c,c≠q->(Sx.turn T p q).col c=T.col c:=fun c h=>by unfold Sx.turn;dsimp only;rw[aq h]
 have r1:(Sx.turn T p q).row p=T.col q:=by unfold Sx.turn;dsimp only;rw[aB rfl]
 have r2:∀r,r≠p->(Sx.turn T p q).row r=T.row r:=fun r h=>by unfold Sx.turn;dsimp only;rw[aq h]
 refine⟨hb,fun r hr j hj=> ?_,?_,G.vI hp hq,fun c c' hc hc' e=> ?_,fun r r' hr hr' e=> ?_,fun c r hc hr e=> ?_,fun c hc=> ?_,fun r hr=> ?_,fun a ha=> ?_,fun r hr=> ?_⟩
 ·have e2:=G.eq p (cW hp) j hj;rw[fB hp]at e2;by_cases h:r=p
  ·subst h;rw[fB hp,r1,c3 n hqn];have e3:sm n (fun c=>(Sx.turn T r q).cell r c*nv n S ((Sx.turn T r q).col c) j)=sm n (fun c=>T.cell r c*nv n S (T.col c) j)+(T.over*nv n S (T.row r) j-T.cell r q*nv n S (T.col q) j):=by
    have:sm n (fun c=>if c=q then T.over*nv n S (T.row r) j-T.cell r q*nv n S (T.col q) j else 0)=T.over*nv n S (T.row r) j-T.cell r q*nv n S (T.col q) j:=by
     rw[dR (j:=q) n hq fun i _ hn=>aq hn,aB rfl]
    rw[<-this,<-lJ];refine Ck n fun c _=> ?_;by_cases hc:c=q
    ·subst hc;rw[c2,k1,aB rfl];omega
    ·rw[c3 c hc,k2 c hc,aq hc];omega
   rw[e3];show T.cell r q*nv n S (T.col q) j=_;omega
  ·rw[Q5 h];have e1:=G.eq r hr j hj;have e3:T.over*sm n (fun c=>(Sx.turn T p q).cell r c*nv n S ((Sx.turn T p q).col c) j)=T.cell p q*sm n (fun c=>T.cell r c*nv n S (T.col c) j)+ -(T.cell r q)*sm n (fun c=>T.cell p c*nv n S (T.col c) j)+ -(T.over*T.cell r q*nv n S (T.row p) j):=by
    have:sm n (fun c=>if c=q then -(T.over*T.cell r q*nv n S (T.row p) j)else 0)= -(T.over*T.cell r q*nv n S (T.row p) j):=by
     rw[dR (j:=q) n hq fun i _ hn=>aq hn,aB rfl]
    rw[<-this,<-fM,<-fM,<-fM,<-lJ,<-lJ];refine Ck n fun c hc=> ?_;by_cases Xp:c=q
    ·subst Xp;rw[c1 r h,k1,aB rfl];grind
    ·have:=G.exact hp hq hb hr h (cW hc) Xp;rw[k2 c Xp,aq Xp,<-VB,this];grind
   have e4:=G.exact hp hq hb hr h (aN n) hqn;refine Zt G.pos ?_;show T.over*(T.cell p q*rv n m S w T r j)=_;rw[Int.mul_sub,e3,<-VB T.over ((Sx.turn T p q).cell r n),e4];generalize sm n (fun c=>T.cell r c*nv n S (T.col c) j)=A at *;generalize sm n (fun c=>T.cell p c*nv n S (T.col c) j)=B at *
   grind
 ·rcases G.sg with e|e
  ·exact .inr (by show -T.s= -1;rw[e])
  ·exact .inl (by show -T.s=1;rw[e];rfl)
 ·by_cases h1:c=q
  ·by_cases h2:c'=q
   ·rw[h1,h2]
   ·rw[h1,k1,k2 c' h2]at e;exact absurd e.symm (G.dis c' p hc' hp)
  ·by_cases h2:c'=q
   ·rw[h2,k1,k2 c h1]at e;exact absurd e (G.dis c p hc hp)
   ·rw[k2 c h1,k2 c' h2]at e;exact G.Ei c c' hc hc' e
 ·by_cases h1:r=p
  ·by_cases h2:r'=p
   ·rw[h1,h2]
   ·rw[h1,r1,r2 r' h2]at e;exact absurd e (G.dis q r' hq hr')
  ·by_cases h2:r'=p
   ·rw[h2,r1,r2 r h1]at e;exact absurd e.symm (G.dis q r hq hr)
   ·rw[r2 r h1,r2 r' h2]at e;exact G.LK r r' hr hr' e
 ·by_cases h1:c=q
  ·by_cases h2:r=p
   ·rw[h1,h2,k1,r1]at e;exact G.dis q p hq hp e.symm
   ·rw[h1,k1,r2 r h2]at e;exact h2 (G.LK p r hp hr e).symm
  ·by_cases h2:r=p
   ·rw[h2,k2 c h1,r1]at e;exact h1 (G.Ei c q hc hq e)
   ·rw[k2 c h1,r2 r h2]at e;exact G.dis c r hc hr e
 ·by_cases h1:c=q
  ·rw[h1,k1];exact G.rlt p hp
  ·rw[k2 c h1];exact G.TQ c hc
 ·by_cases h1:r=p
  ·rw[h1,r1];exact G.TQ q hq
  ·rw[r2 r h1];exact G.rlt r hr
 ·rcases G.all a ha with⟨c,hc,e⟩|⟨r,hr,e⟩
  ·by_cases h1:c=q
   ·exact .inr ⟨p,hp,by rw[r1,<-h1,e]⟩
   ·exact .inl ⟨c,hc,by rw[k2 c h1,e]⟩
  ·by_cases h1:r=p
   ·exact .inl ⟨q,hq,by rw[k1,<-h1,e]⟩
   ·exact .inr ⟨r,hr,by rw[r2 r h1,e]⟩
 ·by_cases h1:r=p
  ·rw[h1,c3 n hqn];exact G.Zf p hp
  ·have e:=G.exact hp hq hb (cW hr) h1 (aN n) hqn;have f1:=G.Zf r hr;have f2:=G.Zf p hp;have z:0<=T.cell r n*T.cell p q-T.cell r q*T.cell p n:=by
    by_cases hc:0<T.cell r q
    ·have:=ra r hr hc;rw[QK (T.cell r q)];omega
    ·have a1:0<=T.cell r n*T.cell p q:=HF f1 (by omega);have a2:0<= -(T.cell r q)*T.cell p n:=HF (by omega) f2
     grind
   rw[<-e]at z;have:=G.pos;refine Int.not_lt.mp fun hn=> ?_;have:T.over*(Sx.turn T p q).cell r n<0:=Int.mul_neg_of_pos_of_neg G.pos hn;omega
end
structure Step(n m:Nat)(T:Tab)(p q:Nat):Prop where
 hp:p<m
 hq:q<n
 neg:T.cell m q<0
 ent:∀c,c<n->T.cell m c<0->T.col q<=T.col c
 by_:0<T.cell p q
 lev:∀r,r<m->0<T.cell r q->T.cell p n*T.cell r q<T.cell r n*T.cell p q\/(T.cell p n*T.cell r q=T.cell r n*T.cell p q/\T.row p<=T.row r)
def inC(n:Nat)(T:Tab)(a:Nat):Prop:=∃c,c<n/\T.col c=a
section
variable{n m:Nat}{S:Nat->Nat->Bool}{w:Nat->Int}
theorem Step.good{T:Tab}{p q:Nat}(s:Step n m T p q)(G:Good n m S w T):Good n m S w (turn T p q):=
 G.turn s.hp s.hq s.by_ fun r hr h=>(s.lev r hr h).elim Qp fun e=>weu e.1
theorem Step.worth{T:Tab}{p q:Nat}(s:Step n m T p q)(G:Good n m S w T):T.over*(turn T p q).cell m n-(turn T p q).over*T.cell m n= -(T.cell m q)*T.cell p n:=by
 have h:=G.exact s.hp s.hq s.by_ (aN m) (Cp s.hp) (aN n) (Cp s.hq);rw[h];show _-T.cell p q*_=_
 grind
theorem Step.le{T:Tab}{p q:Nat}(s:Step n m T p q)(G:Good n m S w T):(turn T p q).over*T.cell m n<=T.over*(turn T p q).cell m n:=by
 have h:=s.worth G;have:=HF (a:= -(T.cell m q)) (b:=T.cell p n) (by have:=s.neg;omega) (G.Zf p s.hp);omega
theorem xP{a b c d e f:Int}(hd:0<d)(hb:0<b)(hf:0<f)(h1:d*a<=b*c)(h2:f*c<=d*e):f*a<=b*e:=by
 have x:=ZV h1 (Qp hf);have y:=ZV h2 (Qp hb);refine Int.le_of_mul_le_mul_left (a:=d) ?_ hd
 grind
theorem xO{a b c d e f:Int}(hd:0<d)(hb:0<b)(hf:0<f)(h1:d*a<=b*c)(h2:f*c<d*e):f*a<b*e:=by
 have x:=ZV h1 (Qp hf);have y:=wej h2 hb;refine wez (a:=d) ?_ (Qp hd)
 grind
theorem Bd{a b c d e f:Int}(hd:0<d)(hb:0<b)(hf:0<f)(h1:d*a<b*c)(h2:f*c<=d*e):f*a<b*e:=by
 have x:=wej h1 hf;have y:=ZV h2 (Qp hb);refine wez (a:=d) ?_ (Qp hd)
 grind
theorem goes{P:Nat->Prop}{s:Nat}:∀d,P s->¬P (s+d)->∃t,s<=t/\t<s+d/\P t/\¬P (t+1)
 |0,h,h'=>absurd h h'
 |d+1,h,h'=>by
  by_cases c:P (s+d)
  ·exact⟨s+d,by omega,by omega,c,h'⟩
  ·obtain⟨t,a,b,x⟩:=goes d h c;exact⟨t,a,by omega,x⟩
theorem Av{P:Nat->Prop}{s e:Nat}(hse:s<=e)(h:P s)(h':¬P e):∃t,s<=t/\t<e/\P t/\¬P (t+1):=by
 obtain⟨t,a,b,x⟩:=goes (s:=s) (e-s) h (by rw[show s+(e-s)=e by omega];exact h');exact⟨t,a,by omega,x⟩
theorem most{P:Nat->Prop}:∀N,(∃a,P a)->(∀a,P a->a<N)->∃a,P a/\∀b,P b->b<=a
 |0,⟨a,h⟩,hb=>absurd (hb a h) (QL a)
 |N+1,h,hb=>by
  by_cases c:P N
  ·exact⟨N,c,fun b hP=>by have:=hb b hP;omega⟩
  ·exact most N h fun a hP=>by
    have:=hb a hP;have:a≠N:=fun e=>c (e▸hP);omega
structure Run(n m:Nat)(S:Nat->Nat->Bool)(w:Nat->Int)(T:Nat->Tab)(p q:Nat->Nat)(L:Nat):Prop where
 first:Good n m S w (T 0)
 step:∀t,t<L->Step n m (T t) (p t) (q t)
 next:∀t,t<L->T (t+1)=turn (T t) (p t) (q t)
variable{T:Nat->Tab}{p q:Nat->Nat}{L:Nat}
theorem Run.good(R:Run n m S w T p q L):∀t,t<=L->Good n m S w (T t)
 |0,_=>R.first
 |t+1,h=>by rw[R.next t h];exact(R.step t h).good (R.good t (wfd h))
theorem Run.worth(R:Run n m S w T p q L){i:Nat}:∀d,i+d<=L->(T (i+d)).over*(T i).cell m n<=(T i).over*(T (i+d)).cell m n
 |0,_=>Fq _
 |d+1,h=>by
  have ih:=R.worth d (i:=i) (by omega);have g1:=R.good (i+d) (by omega);have st:=(R.step (i+d) (by omega)).le g1;rw[<-R.next (i+d) (by omega)]at st;exact xP g1.pos (R.good i (by omega)).pos (R.good (i+d+1) h).pos ih st
theorem Run.Ks(R:Run n m S w T p q L){i j:Nat}(hij:i<=j)(hj:j<=L):(T j).over*(T i).cell m n<=(T i).over*(T j).cell m n:=by
 have:=R.worth (i:=i) (j-i) (by omega)
 rwa [show i+(j-i)=j by omega]at this
theorem Dd{A B:Tab}(GA:Good n m S w A)(GB:Good n m S w B)(h:∀a,inC n B a->inC n A a):B.over*A.cell m n=A.over*B.cell m n:=by
 have h1:=oA (T:=A) (S:=S) (c:=0) (dB n) B.over (zv w);have e:=GB.eq m (aN m);rw[gG]at e;have b:=GA.base (aN m);rw[gG]at b;rw[Ke e,iW (dB n) _ _ (B.cell m) (fun c=>nv n S (B.col c)),jV GA.dt (dB n),aB rfl,Kd n fun c hc=> ?_,b]at h1
 ·rw[<-h1,QK];omega
 ·obtain⟨c',hc',e'⟩:=h _ ⟨c,hc,rfl⟩;rw[<-e',yD GA.dt (dB n) hc',aq (yK c'),yw]
theorem KC{T:Tab}{p q:Nat}(G:Good n m S w T)(hp:p<m)(hq:q<n)(a:Nat):inC n (turn T p q) a↔(inC n T a/\a≠T.col q)\/a=T.row p:=by
 constructor
 ·rintro⟨c,hc,e⟩;have e':(if c=q then T.row p else T.col c)=a:=e;by_cases h:c=q
  ·rw[aB h]at e';exact .inr e'.symm
  ·rw[aq h]at e';exact .inl ⟨⟨c,hc,e'⟩,fun z=>h (G.Ei c q hc hq (e'.trans z))⟩
 ·rintro(⟨⟨c,hc,e⟩,hn⟩|e)
  ·have h:c≠q:=fun z=>hn (by rw[<-e,z]);exact⟨c,hc,by show(if c=q then _ else _)=a;rw[aq h];exact e⟩
  ·exact⟨q,hq,by show(if q=q then _ else _)=a;rw[aB rfl];exact e.symm⟩
theorem flat{T:Tab}{p q:Nat}(G:Good n m S w T)(G':Good n m S w (turn T p q))(s:Step n m T p q)(h0:T.cell p n=0){a:Nat}(ha:a<n+m):Fn n S (turn T p q) 0 (nv n S a)=0↔Fn n S T 0 (nv n S a)=0:=by
 have z0:=dB n;rcases G'.all a ha with⟨c,hc,e⟩|⟨r,hr,e⟩
 ·have f1:=yD G'.dt z0 hc;rw[e,aq (yK c)]at f1;refine⟨fun _=> ?_,fun _=>f1⟩;have e':(if c=q then T.row p else T.col c)=a:=e;by_cases h:c=q
  ·rw[aB h]at e';have:=G.base (cW s.hp);rw[fB s.hp,e']at this;rw[this,h0]
  ·rw[aq h]at e';have:=yD G.dt z0 hc;rw[e',aq (yK c)]at this;exact this
 ·have f1:=G'.base (cW hr);rw[fB hr,e]at f1;have e':(if r=p then T.col q else T.row r)=a:=e;rw[f1];by_cases h:r=p
  ·rw[aB h]at e';have f2:=yD G.dt z0 s.hq;rw[e',aq (yK q)]at f2;have f3:(turn T p q).cell r n=T.cell p n:=by
    show(if r=p then(if n=q then _ else _)else _)=_;rw[aB h,aq (Cp s.hq)]
   rw[f3,h0];exact⟨fun _=>f2,fun _=>rfl⟩
  ·rw[aq h]at e';have f2:=G.base (cW hr);rw[fB hr,e']at f2;rw[f2];have x:=G.exact s.hp s.hq s.by_ (cW hr) h (aN n) (Cp s.hq);rw[h0,yw,Int.sub_zero]at x;constructor
   ·intro z;rw[z,yw]at x;rcases Int.mul_eq_zero.mp x.symm with y|y
    ·exact y
    ·have:=s.by_;omega
   ·intro z;rw[z,Yj]at x;rcases Int.mul_eq_zero.mp x with y|y
    ·have:=G.pos;omega
    ·exact y
theorem Run.Jg(R:Run n m S w T p q L){i j:Nat}(hij:i<j)(hj:j<=L):¬∀a,inC n (T i) a↔inC n (T j) a:=by
 intro same;have Gt:∀t,i<=t->t<=j->Good n m S w (T t):=fun t _ h=>R.good t (dO h hj);have D:=Dd (Gt i (aN i) (cW hij)) (Gt j (cW hij) (aN j)) fun a=>(same a).mpr;have St:∀t,t<j->Step n m (T t) (p t) (q t):=fun t h=>R.step t (gC h hj);have nx:∀t,t<j->T (t+1)=turn (T t) (p t) (q t):=fun t h=>R.next t (gC h hj)
 -- every turn of these is flat
 have fl:∀t,i<=t->t<j->(T t).cell (p t) n=0:=fun t hi ht=>by
  have g:=Gt t hi (cW ht);have W:=(St t ht).worth g;have F:=g.Zf (p t) (St t ht).hp;have N:=(St t ht).neg;by_cases z:(T t).cell (p t) n=0
  ·exact z
  ·exfalso;have B:(turn (T t) (p t) (q t)).over*(T t).cell m n<(T t).over*(turn (T t) (p t) (q t)).cell m n:=by
    have:=Z9 (a:= -((T t).cell m (q t))) (b:=(T t).cell (p t) n) (by omega) (by omega);omega
   rw[<-nx t ht]at B;have A:=R.Ks (i:=i) (j:=t) hi (by omega);have C:=R.Ks (i:=t+1) (j:=j) ht hj;have o1:=(Gt i (aN i) (cW hij)).pos;have o2:=g.pos;have o3:=(Gt (t+1) (by omega) ht).pos;have o4:=(Gt j (cW hij) (aN j)).pos;have x:=xO o2 o1 o3 A B;have y:=Bd o3 o1 o4 x C;omega
 have ic:∀t,t<j->i<=t->∀a,inC n (T (t+1)) a↔(inC n (T t) a/\a≠(T t).col (q t))\/a=(T t).row (p t):=fun t ht hi a=>by
  rw[nx t ht];exact KC (Gt t hi (cW ht)) (St t ht).hp (St t ht).hq a
 have zeros:∀{a:Nat},a<n+m->∀d s,i<=s->s+d<=j->(Fn n S (T (s+d)) 0 (nv n S a)=0↔Fn n S (T s) 0 (nv n S a)=0):=fun{a} ha d=>by
  induction d with
  |zero=>intro s _ _;exact Iff.rfl
  |succ d ih=>
   intro s hs hd;have f:=flat (Gt (s+d) (by omega) (by omega)) (by rw[<-nx (s+d) (by omega)];exact Gt (s+d+1) (by omega) hd) (St (s+d) (by omega)) (fl (s+d) (by omega) (by omega)) ha;rw[<-nx (s+d) (by omega)]at f;exact f.trans (ih s hs (by omega))
 have Zo:∀{a s t:Nat},a<n+m->i<=s->s<=j->i<=t->t<=j->Fn n S (T s) 0 (nv n S a)=0->Fn n S (T t) 0 (nv n S a)=0:=fun{a s t} ha h1 h2 h3 h4 z=>by
  by_cases c:s<=t
  ·have:=zeros ha (t-s) s h1 (by omega);rw[show s+(t-s)=t by omega]at this;exact this.mpr z
  ·have:=zeros ha (s-t) t h3 (by omega);rw[show t+(s-t)=s by omega]at this;exact this.mp z
 -- the greatest name that comes and goes
 let Fk:Nat->Prop:=fun a=>∃t,i<=t/\t<j/\((inC n (T t) a/\¬inC n (T (t+1)) a)\/(¬inC n (T t) a/\inC n (T (t+1)) a));have fkc:∀t,i<=t->t<j->Fk ((T t).col (q t)):=fun t hi ht=>by
  have g:=Gt t hi (cW ht);refine⟨t,hi,ht,.inl ⟨⟨q t,(St t ht).hq,rfl⟩,fun z=> ?_⟩⟩;rcases(ic t ht hi _).mp z with⟨_,z⟩|z
  ·exact z rfl
  ·exact g.dis (q t) (p t) (St t ht).hq (St t ht).hp z
 have lt:∀a,Fk a->a<n+m:=fun a h=>by
  obtain⟨t,hi,ht,(⟨⟨c,hc,e⟩,_⟩|⟨_,⟨c,hc,e⟩⟩)⟩:=h
  ·rw[<-e];exact(Gt t hi (cW ht)).TQ c hc
  ·rw[<-e];exact(Gt (t+1) (by omega) ht).TQ c hc
 obtain⟨tt,hF,hmax⟩:=most (n+m) ⟨_,fkc i (aN i) hij⟩ lt;have diff:∀{a s e:Nat},i<=s->s<=j->i<=e->e<=j->inC n (T s) a->¬inC n (T e) a->Fk a:=fun{a s e} h1 h2 h3 h4 x y=>by
  by_cases c:s<=e
  ·obtain⟨t,a1,a2,a3,a4⟩:=Av (P:=fun t=>inC n (T t) a) c x y;exact⟨t,by omega,by omega,.inl ⟨a3,a4⟩⟩
  ·obtain⟨t,a1,a2,a3,a4⟩:=Av (P:=fun t=>¬inC n (T t) a) (s:=e) (e:=s) (by omega) y (fun z=>z x);exact⟨t,by omega,by omega,.inr ⟨a3,Classical.not_not.mp a4⟩⟩
 obtain⟨t1,h1i,Zd,h1a,h1b⟩:∃t,i<=t/\t<j/\inC n (T t) tt/\¬inC n (T (t+1)) tt:=by
  obtain⟨t,hi,ht,(⟨x,y⟩|⟨x,y⟩)⟩:=hF
  ·exact⟨t,hi,ht,x,y⟩
  ·by_cases c:inC n (T j) tt
   ·obtain⟨u,a1,a2,a3,a4⟩:=Av (P:=fun t=>inC n (T t) tt) hi ((same tt).mpr c) x;exact⟨u,a1,by omega,a3,a4⟩
   ·obtain⟨u,a1,a2,a3,a4⟩:=Av (P:=fun t=>inC n (T t) tt) (s:=t+1) (e:=j) ht y c;exact⟨u,by omega,a2,a3,a4⟩
 obtain⟨t2,Zc,Xr,h2a,h2b⟩:∃t,i<=t/\t<j/\¬inC n (T t) tt/\inC n (T (t+1)) tt:=by
  have up:∀s e,i<=s->s<=e->e<=j->¬inC n (T s) tt->inC n (T e) tt->∃t,i<=t/\t<j/\¬inC n (T t) tt/\inC n (T (t+1)) tt:=fun s e a b c x y=>by
   obtain⟨u,a1,a2,a3,a4⟩:=Av (P:=fun t=>¬inC n (T t) tt) b x (fun z=>z y);exact⟨u,by omega,by omega,a3,Classical.not_not.mp a4⟩
  by_cases c:inC n (T j) tt
  ·exact up (t1+1) j (by omega) Zd (aN j) h1b c
  ·exact up i t1 (aN i) h1i (by omega) (fun z=>c ((same tt).mp z)) h1a
 have e1:tt=(T t1).col (q t1):=by
  refine QX fun hn=>h1b ((ic t1 Zd h1i tt).mpr (.inl ⟨h1a,hn⟩))
 have e2:tt=(T t2).row (p t2):=by
  rcases(ic t2 Xr Zc tt).mp h2b with⟨z,_⟩|z
  ·exact absurd z h2a
  ·exact z
 have G1:=Gt t1 h1i (cW Zd);have G2:=Gt t2 Zc (cW Xr);have S1:=St t1 Zd;have S2:=St t2 Xr
 -- along the column that enters at t2
 have hq2:q t2+1<=n:=S2.hq;have dz:=G2.dir (aN m) S2.hq;rw[gG]at dz;have sum:=oA (T:=T t2) (S:=S) hq2 (T t1).over (zv w);have eq1:=G1.eq m (aN m);rw[gG]at eq1;rw[Ke eq1,iW hq2 _ _ ((T t1).cell m) (fun c=>nv n S ((T t1).col c)),jV G2.dt hq2,aq (yK _),dz]at sum;have neg:sm n (fun c=>(T t1).cell m c*Fn n S (T t2) (q t2+1) (nv n S ((T t1).col c)))<0:=by
  have:=Z9 G1.pos (b:= -((T t2).cell m (q t2))) (by have:=S2.neg;omega);omega
 obtain⟨c,hc,hlt⟩:=Ld n neg;have hnm:=G1.TQ c hc;rcases G2.all _ hnm with⟨c0,hc0,e0⟩|⟨r0,hr0,e0⟩
 ·have f:=yD G2.dt hq2 hc0;rw[e0]at f;by_cases z:c0=q t2
  ·rw[aB (by omega)]at f;rw[f]at hlt;have cn:(T t1).cell m c<0:=by
    refine Int.not_le.mp fun h=> ?_;have:=HF h (Qp G2.pos);omega
   have a:=S1.ent c hc cn;rw[<-e1,<-e0,z]at a;have b:=hmax _ (fkc t2 Zc Xr);have:tt=(T t2).col (q t2):=VD a b;exact G2.dis (q t2) (p t2) S2.hq S2.hp (this.symm.trans e2)
  ·rw[aq (by omega)]at f;rw[f,yw]at hlt;exact absurd hlt (whj 0)
 ·have f:=G2.dir (cW hr0) S2.hq;rw[fB hr0,e0]at f;rw[f]at hlt;have fk:Fk ((T t1).col c):=diff h1i (cW Zd) Zc (cW Xr) ⟨c,hc,rfl⟩ (fun⟨c',hc',e'⟩=>G2.dis c' r0 hc' hr0 (e'.trans e0.symm));have le:=hmax _ fk;by_cases z:(T t1).col c=tt
  ·have cq:c=q t1:=G1.Ei c (q t1) hc S1.hq (z.trans e1);have rp:r0=p t2:=G2.LK r0 (p t2) hr0 S2.hp (e0.trans (z.trans e2));subst cq rp;have a:=S1.neg;have b:=S2.by_;have:=Z9 (a:= -((T t1).cell m (q t1))) (b:=(T t2).cell (p t2) (q t2)) (by omega) b
   grind
  ·have cn:¬(T t1).cell m c<0:=fun h=>by
    have:=S1.ent c hc h;omega
   have Mg:0<(T t2).cell r0 (q t2):=by
    refine Int.not_le.mp fun h=> ?_;have:=HF (a:=(T t1).cell m c) (b:= -((T t2).cell r0 (q t2))) (by omega) (by omega);omega
   have v1:Fn n S (T t1) 0 (nv n S ((T t1).col c))=0:=by rw[yD G1.dt (dB n) hc,aq (yK c)]
   have v2:=Zo hnm h1i (cW Zd) Zc (cW Xr) v1;have b:=G2.base (cW hr0);rw[fB hr0,e0,v2]at b;have k:=fl t2 Zc Xr;rcases S2.lev r0 hr0 Mg with h|⟨_,h⟩
   ·rw[k,<-b,Yj,Yj]at h;exact absurd h (whj 0)
   ·rw[<-e2,e0]at h;omega
def enc:List Bool->Nat
 |[]=>0
 |b::l=>(if b=true then 1 else 0)+2*enc l
theorem Pb:∀l:List Bool,enc l<2^l.length
 |[]=>by decide
 |b::l=>by
  have:=Pb l;show(if b=true then 1 else 0)+2*enc l<2^(l.length+1);rw[wgp];split<;>omega
theorem Hi:∀{l l':List Bool},l.length=l'.length->enc l=enc l'->l=l'
 |[],[],_,_=>rfl
 |b::l,b'::l',h,e=>by
  have e':(if b=true then 1 else 0)+2*enc l=(if b'=true then 1 else 0)+2*enc l':=e;have hb:b=b':=by cases b<;>cases b'<;>simp at e'⊢<;>omega
  subst hb;rw[Hi (l:=l) (l':=l') (by simpa using h) (by omega)]
theorem few:∀(K:Nat) (l:List Nat),l.Nodup->(∀x∈l,x<K)->l.length<=K
 |0,[],_,_=>aN 0
 |0,x::_,_,h=>absurd (h x dY) (QL x)
 |K+1,l,nd,h=>by
  have a:=few K (l.filter fun x=>decide (x≠K)) (nd.filter _) fun x hx=>by
   obtain⟨h1,h2⟩:=kI.mp hx;have:=h x h1;have:=sS h2;omega
  have b:l.length<=(l.filter fun x=>decide (x≠K)).length+1:=by
   clear a h
   induction l with
   |nil=>exact dB _
   |cons y l ih=>
    have nd':=Km.mp nd;rw[Qq];by_cases c:y=K
    ·subst c;rw[aq (by simp)];have:l.filter (fun x=>decide (x≠y))=l:=List.filter_eq_self.mpr fun x hx=>fD fun e=>nd'.1 (e▸hx);rw[this];exact aN _
    ·rw[aB (fD c)];have:=ih nd'.2;simp only[uW];omega
  omega
open Classical in
def code(n m:Nat)(T:Tab):Nat:=enc ((List.range (n+m)).map fun a=>decide (inC n T a))
theorem Run.short(R:Run n m S w T p q L):L<2^(n+m):=by
 have inj:∀i j,i<=L->j<=L->code n m (T i)=code n m (T j)->i=j:=by
  have one:∀i j,i<j->j<=L->code n m (T i)≠code n m (T j):=fun i j hij hj e=>by
   have l:=Hi (by simp) e;refine R.Jg hij hj fun a=> ?_;by_cases ha:a<n+m
   ·have:=iD (fun l:List Bool=>l[a]?) l;simp only[dD,ZK ha,Option.map_some,Option.some.injEq,decide_eq_decide]at this;exact this
   ·exact⟨fun⟨c,hc,e⟩=>absurd ((R.good i (by omega)).TQ c hc) (by omega),fun⟨c,hc,e⟩=>absurd ((R.good j hj).TQ c hc) (by omega)⟩
  intro i j hi hj e;rcases Nat.lt_trichotomy i j with h|h|h
  ·exact absurd e (one i j h hj)
  ·exact h
  ·exact absurd e.symm (one j i h hi)
 have nd:((List.range (L+1)).map fun t=>code n m (T t)).Nodup:=by
  refine ZD.mpr (List.nodup_range.imp_of_mem fun{a b} ha hb hab e=>hab (inj a b ?_ ?_ e))
  ·have:=rH.mp ha;omega
  ·have:=rH.mp hb;omega
 have:=few (2^(n+m)) _ nd fun x hx=>by
  obtain⟨t,_,rfl⟩:=kj.mp hx;have:=Pb ((List.range (n+m)).map fun a=> @decide (inC n (T t) a) (Classical.propDecidable _));rw[aJ,wj]at this;exact this
 rw[aJ,wj]at this;omega
end
section
variable{n m:Nat}{S:Nat->Nat->Bool}{w:Nat->Int}{T:Tab}
theorem lX{a j:Nat}(h:a<n):nv n S a j=if j=a+1 then 1 else 0:=aB h
theorem wX{k j:Nat}:nv n S (n+k) j=if j=0 then 1 else if S k (j-1)=true then -1 else 0:=by
 unfold nv;rw[aq (by omega),show n+k-n=k by omega]
theorem Gs{y:Nat->Int}{j:Nat}(hj:j<=n):sm n (fun c=>y c*nv n S c j)=if j=0 then 0 else y (j-1):=by
 by_cases h:j=0
 ·rw[aB h];exact Kd n fun c hc=>by rw[lX hc,aq (by omega),yw]
 ·rw[aq h,dR (j:=j-1) n (by omega) fun c hc hn=>by rw[lX hc,aq (by omega),yw],lX (by omega),aB (by omega),whd]
theorem Dw{k j:Nat}(hj:j<=n):nv n S (n+k) j=1*one j-sm n (fun c=>(if S k c=true then 1 else 0)*nv n S c j):=by
 rw[wX,Gs hj];unfold one;by_cases h:j=0
 ·rw[aB h,aB h,aB h];rfl
 ·rw[aq h,aq h,aq h];split<;>rfl
theorem Ka{j:Nat}(hj:j<=n):zv w j=0*one j-sm n (fun c=> -(w c)*nv n S c j):=by
 rw[Gs hj];unfold zv;by_cases h:j=0
 ·rw[aB h,aB h];omega
 ·rw[aq h,aq h];omega
noncomputable def start(n m:Nat)(S:Nat->Nat->Bool)(w:Nat->Int):Tab where
 col:=fun c=>c
 row:=fun r=>n+r
 cell:=fun r c=>if r=m then(if c=n then 0 else -(w c))else if c=n then 1 else if S r c=true then 1 else 0
 over:=1
 s:=1
theorem CG:Good n m S w (start n m S w):=by
 refine⟨Int.one_pos,fun r hr j hj=> ?_,.inl rfl,?_,fun c c' _ _ e=>e,fun r r' _ _ e=>by have:n+r=n+r':=e;omega,fun c r hc _ e=>by have:c=n+r:=e;omega,fun c hc=>by show c<n+m;omega,fun r hr=>by show n+r<n+m;omega,fun a ha=> ?_,fun r hr=> ?_⟩
 ·show 1*rv n m S w (start n m S w) r j=(start n m S w).cell r n*one j-sm n (fun c=>(start n m S w).cell r c*nv n S c j);by_cases h:r<m
  ·rw[fB h];show 1*nv n S (n+r) j=_;rw[JW,Dw hj];have e1:(start n m S w).cell r n=1:=by show(if r=m then _ else if n=n then(1:Int)else _)=1;rw[aq (by omega),aB rfl]
   rw[e1,Ck n fun c hc=> ?_];show _=(if r=m then _ else if c=n then(1:Int)else if S r c=true then 1 else 0)*_;rw[aq (show¬r=m by omega),aq (show¬c=n by omega)]
  ·have e:r=m:=by omega
   subst e;rw[gG,JW,Ka (n:=n) (S:=S) hj];have e1:(start n r S w).cell r n=0:=by show(if r=r then(if n=n then(0:Int)else _)else _)=0;rw[aB rfl,aB rfl]
   rw[e1,Ck n fun c hc=> ?_];show _=(if r=r then(if c=n then(0:Int)else -(w c))else _)*_;rw[aB rfl,aq (show¬c=n by omega)]
 ·show(1:Int)=1*det (n+1) _;rw[Bo (n+1) _ fun i hi j hj=> ?_]; · rfl
  by_cases h:i=0
  ·subst h;rw[Bw];unfold one;by_cases e:j=0
   ·rw[aB e,aB e.symm]
   ·rw[aq e,aq (kO e)]
  ·obtain⟨c,rfl⟩:∃c,i=c+1:=⟨i-1,by omega⟩;rw[xZ];show nv n S c j=_;rw[lX (by omega)];by_cases e:j=c+1
   ·rw[aB e,aB e.symm]
   ·rw[aq e,aq (kO e)]
 ·by_cases h:a<n
  ·exact .inl ⟨a,h,rfl⟩
  ·exact .inr ⟨a-n,by omega,by show n+(a-n)=a;omega⟩
 ·show 0<=(if r=m then _ else if n=n then(1:Int)else _);rw[aq (by omega),aB rfl];decide
theorem Good.bounded(G:Good n m S w T)(cov:∀p,p<n->∃k,k<m/\S k p=true){q:Nat}(hq:q<n):∃r,r<m/\0<T.cell r q:=by
 refine QX fun no=> ?_;have no':∀r,r<m->T.cell r q<=0:=fun r hr=>Int.not_lt.mp fun h=>no ⟨r,hr,h⟩;have hq':q+1<=n:=hq;have nn:∀a,a<n+m->0<=Fn n S T (q+1) (nv n S a):=fun a ha=>by
  rcases G.all a ha with⟨c,hc,e⟩|⟨r,hr,e⟩
  ·rw[<-e,yD G.dt hq' hc];split
   ·exact Qp G.pos
   ·exact Fq 0
  ·have:=G.dir (cW hr) hq;rw[fB hr,e]at this;rw[this];have:=no' r hr;omega
 have set:∀k,Fn n S T (q+1) (nv n S (n+k))= -sm n (fun p=>(if S k p=true then 1 else 0)*Fn n S T (q+1) (nv n S p)):=fun k=>by
  rw[Ke fun j hj=>Dw hj,iW hq' _ _ (fun c=>if S k c=true then 1 else 0) (fun c=>nv n S c),jV G.dt hq',aq (yK q)];omega
 have low:∀p,p<n->Fn n S T (q+1) (nv n S p)=0:=fun p hp=>by
  obtain⟨k,hk,hs⟩:=cov p hp;have a:=nn (n+k) (by omega);rw[set k]at a;have:=Gv n (f:=fun p=>(if S k p=true then 1 else 0)*Fn n S T (q+1) (nv n S p)) (fun i hi=> ?_) (by omega) p hp
  ·rw[aB hs,JW]at this;exact this
  ·have:=nn i (by omega);split<;>omega
 have z:Fn n S T (q+1) (nv n S (T.col q))=0:=by
  have hc:=G.TQ q hq;by_cases h:T.col q<n
  ·exact low _ h
  ·have e:T.col q=n+(T.col q-n):=by omega
   rw[e,set,Kd n fun p hp=>by rw[low p hp,yw]];rfl
 rw[yD G.dt hq' hq,aB rfl]at z;have:=G.pos;omega
theorem Mx(a j:Nat): -1<=nv n S a j/\nv n S a j<=1:=by
 unfold nv;split
 ·split<;>decide
 ·split
  ·decide
  ·split<;>decide
theorem Ht(i j:Nat): -1<=qb n S T i j/\qb n S T i j<=1:=by
 unfold qb;split
 ·unfold one;split<;>decide
 ·exact Mx _ _
theorem EY(G:Good n m S w T){c:Nat}{v:Vec}{B:Int}(hB:1<=B)(h:∀j,j<=n-> -B<=v j/\v j<=B): -(fct (n+1)*B)<=Fn n S T c v/\Fn n S T c v<=fct (n+1)*B:=by
 have d:=xT (n+1) (put (qb n S T) c v) c B hB (fun i _ j _ hn=>by rw[gU _ _ hn];exact Ht i j) (fun j hj _=>by rw[put_same];exact h j (by omega));unfold Fn;rcases G.sg with s|s
 ·rw[s,JW];exact d
 ·rw[s];omega
theorem Good.Rv(G:Good n m S w T):T.over<=fct (n+1):=by
 have d:=EY G (c:=0) (v:=qb n S T 0) (B:=1) (by decide) fun j _=>Ht 0 j;rw[Qf G.dt (dB n) (dB n),aB rfl]at d;omega
theorem Good.Pu(G:Good n m S w T)(hw:∀p,p<n->0<=w p/\w p<=99){r c:Nat}(hr:r<=m)(hc:c<=n): -(fct (n+1)*99)<=T.cell r c/\T.cell r c<=fct (n+1)*99:=by
 have hv:∀j,j<=n-> -99<=rv n m S w T r j/\rv n m S w T r j<=99:=fun j hj=>by
  unfold rv;split
  ·have:=Mx (n:=n) (S:=S) (T.row r) j;omega
  ·unfold zv;split
   ·decide
   ·have:=hw (j-1) (by omega);omega
 by_cases h:c=n
 ·subst h;have d:=EY G (c:=0) (B:=99) (by decide) hv;rw[G.base hr]at d;exact d
 ·have d:=EY G (c:=c+1) (B:=99) (by decide) hv;rw[G.dir hr (by omega)]at d;omega
theorem O9:∀{k:Nat},k<=11->fct k<=39916800
 |0,_|1,_|2,_|3,_|4,_|5,_|6,_|7,_|8,_|9,_|10,_|11,_=>by decide
noncomputable def Ys(n m:Nat)(T:Tab)(a:Nat):Int:=sm n fun c=>if T.col c=a then T.cell m c else 0
noncomputable def Xs(n m:Nat)(T:Tab)(a:Nat):Int:=sm m fun r=>if T.row r=a then T.cell r n else 0
theorem Good.Zz(G:Good n m S w T){c:Nat}(hc:c<n):Ys n m T (T.col c)=T.cell m c:=by
 unfold Ys;rw[dR (j:=c) n hc fun i hi hn=>aq fun e=>hn (G.Ei i c hi hc e),aB rfl]
theorem Zy{a:Nat}(h:∀c,c<n->T.col c≠a):Ys n m T a=0:=Kd n fun c hc=>aq (h c hc)
theorem Good.Ui(G:Good n m S w T){r:Nat}(hr:r<m):Xs n m T (T.row r)=T.cell r n:=by
 unfold Xs;rw[dR (j:=r) m hr fun i hi hn=>aq fun e=>hn (G.LK i r hi hr e),aB rfl]
theorem Ug{a:Nat}(h:∀r,r<m->T.row r≠a):Xs n m T a=0:=Kd m fun r hr=>aq (h r hr)
theorem Good.Kr(G:Good n m S w T){a:Nat}(ha:a<n+m):Fn n S T 0 (nv n S a)=Xs n m T a:=by
 rcases G.all a ha with⟨c,hc,e⟩|⟨r,hr,e⟩
 ·rw[<-e,yD G.dt (dB n) hc,aq (yK c),Ug fun r hr z=>G.dis c r hc hr z.symm]
 ·rw[<-e,G.Ui hr];have:=G.base (cW hr);rw[fB hr]at this;exact this
theorem Good.Uh(G:Good n m S w T)(a:Nat):0<=Xs n m T a:=yZ m fun r hr=>by
 have:=G.Zf r hr;split
 ·exact this
 ·exact Fq 0
theorem T6(h:∀c,c<n->0<=T.cell m c)(a:Nat):0<=Ys n m T a:=yZ n fun c hc=>by
 have:=h c hc;split
 ·exact this
 ·exact Fq 0
theorem yX(f:Nat->Int)(a:Nat):∀b,sm (a+b) f=sm a f+sm b fun k=>f (a+k)
 |0=>by show sm a f=sm a f+0;omega
 |b+1=>by
  show sm (a+b) f+f (a+b)=_;rw[yX f a b];show _=sm a f+(sm b (fun k=>f (a+k))+f (a+b));omega
theorem Good.aap(G:Good n m S w T)(g:Nat->Int):sm n (fun c=>T.cell m c*g (T.col c))=sm n (fun a=>Ys n m T a*g a)+sm m (fun k=>Ys n m T (n+k)*g (n+k)):=by
 rw[<-yX (fun a=>Ys n m T a*g a)];have e:∀a,Ys n m T a*g a=sm n fun c=>(if T.col c=a then T.cell m c else 0)*g a:=fun a=>by
  unfold Ys;rw[QK,<-fM];exact Ck n fun c _=>QK _ _
 rw[Ck (n+m) fun a _=>e a,Gu (fun a c=>(if T.col c=a then T.cell m c else 0)*g a)];refine Ck n fun c hc=> ?_;rw[dR (j:=T.col c) (n+m) (G.TQ c hc) fun a _ hn=>by rw[aq (kO hn),Yj],aB rfl]
theorem Good.total(G:Good n m S w T):sm m (fun k=>Ys n m T (n+k))=T.cell m n:=by
 have e:=G.eq m (aN m) 0 (dB n);rw[gG,G.aap (fun a=>nv n S a 0),Kd n fun a ha=>by rw[lX ha,aq (by omega),yw]]at e;have z:zv w 0=0:=rfl;have o:one 0=1:=rfl;rw[z,o,Ck m fun k _=>show Ys n m T (n+k)*nv n S (n+k) 0=Ys n m T (n+k) by rw[wX,aB rfl,whd]]at e;omega
theorem Good.enough(G:Good n m S w T){p:Nat}(hp:p<n):sm m (fun k=>if S k p=true then Ys n m T (n+k)else 0)=T.over*w p+Ys n m T p:=by
 have e:=G.eq m (aN m) (p+1) hp;rw[gG,G.aap (fun a=>nv n S a (p+1)),dR (j:=p) n hp fun a ha hn=>by rw[lX ha,aq (by omega),yw],lX hp,aB rfl]at e;have z:zv w (p+1)=w p:=by unfold zv;rw[aq (yK p)];rfl
 have o:one (p+1)=0:=aq (yK p);rw[z,o,Ck m fun k _=>show Ys n m T (n+k)*nv n S (n+k) (p+1)= -1*(if S k p=true then Ys n m T (n+k)else 0) by
  rw[wX,aq (yK p),wer];split<;>omega,fM]at e
 omega
theorem Good.light(G:Good n m S w T){k:Nat}(hk:k<m):sm n (fun p=>if S k p=true then Xs n m T p else 0)<=T.over:=by
 have h:Fn n S T 0 (nv n S (n+k))=1*Fn n S T 0 one-sm n (fun p=>(if S k p=true then 1 else 0)*Fn n S T 0 (nv n S p)):=by
  rw[Ke fun j hj=>Dw hj,iW (dB n) _ _ (fun c=>if S k c=true then 1 else 0) (fun c=>nv n S c)]
 rw[jV G.dt (dB n),aB rfl,G.Kr (by omega),Ck n fun p hp=>show(if S k p=true then(1:Int)else 0)*Fn n S T 0 (nv n S p)=if S k p=true then Xs n m T p else 0 by
  rw[G.Kr (by omega)];split<;>omega]at h
 have:=G.Uh (n+k);omega
theorem Good.prices(G:Good n m S w T):sm n (fun p=>w p*Xs n m T p)=T.cell m n:=by
 have h:=G.base (aN m);rw[gG,Ke fun j hj=>Ka (n:=n) (S:=S) hj,iW (dB n) _ _ (fun c=> -(w c)) (fun c=>nv n S c),Ck n fun p hp=>show -(w p)*Fn n S T 0 (nv n S p)= -1*(w p*Xs n m T p) by rw[G.Kr (by omega)];grind,fM]at h;omega
end
def hb:Nat->Int
 |0=>1
 |1=>1
 |2=>1
 |3=>2
 |k+4=>(k+4:Int)*hb (k+3)
noncomputable def bi(b:Bool):Int:=if b=true then 1 else 0
theorem d3:∀a b c d e f g h i:Bool, -2<=bi a*(bi e*bi i-bi h*bi f)-bi d*(bi b*bi i-bi h*bi c)+bi g*(bi b*bi f-bi e*bi c)/\bi a*(bi e*bi i-bi h*bi f)-bi d*(bi b*bi i-bi h*bi c)+bi g*(bi b*bi f-bi e*bi c)<=2:=by decide+kernel
theorem n6{x s:Int}(h:x=0\/x=s):∃b,x=s*bi b:=by
 rcases h with h|h
 ·exact⟨false,by rw[h];show 0=s*0;omega⟩
 ·exact⟨true,by rw[h];show s=s*1;omega⟩
def Ew(k:Nat)(M:qU):Prop:=∀i,i<k->∃s:Int,(s=1\/s= -1)/\∀j,j<k->M i j=0\/M i j=s
theorem Ew.lA{k:Nat}{M:qU}(h:Ew (k+1) M){i:Nat}(hi:i<k+1):Ew k (lA M i):=fun r hr=>by
 obtain⟨s,hs,z⟩:=h (gQ i r) (wF hi hr);exact⟨s,hs,fun j hj=>z (j+1) (by omega)⟩
theorem Ew.one{k:Nat}{M:qU}(h:Ew k M){i j:Nat}(hi:i<k)(hj:j<k): -1<=M i j/\M i j<=1:=by
 obtain⟨s,hs,z⟩:=h i hi;rcases z j hj with e|e<;>rcases hs with d|d<;>omega
theorem Wd(i:Nat){x y:Int}(h: -y<=x/\x<=y): -y<=sg i*x/\sg i*x<=y:=by
 rcases Lh i with s|s
 ·rw[s,JW];exact h
 ·rw[s];omega
theorem Hq:∀k {M:qU},Ew k M-> -hb k<=det k M/\det k M<=hb k
 |0,_,_=>by show -1<=(1:Int)/\(1:Int)<=1;decide
 |1,M,h=>by
  have a:=h.one (i:=0) (j:=0) (by decide) (by decide);have e:det 1 M=M 0 0:=by
   show(0+sg 0*M 0 0*1)=_;rw[show sg 0=1 from rfl];omega
  rw[e];exact a
 |2,M,h=>by
  have e:det 2 M=M 0 0*M 1 1-M 1 0*M 0 1:=by
   show(0+sg 0*M 0 0*(0+sg 0*M (gQ 0 0) 1*1)+sg 1*M 1 0*(0+sg 0*M (gQ 1 0) 1*1))=_;rw[show sg 0=1 from rfl,show sg 1= -1 from rfl,show gQ 0 0=1 from rfl,show gQ 1 0=0 from rfl]
   grind
  rw[e];show -1<=_/\_<=(1:Int);obtain⟨s,hs,z⟩:=h 0 (by decide);obtain⟨t,ht,y⟩:=h 1 (by decide);rcases z 0 (by decide)with a|a<;>rcases z 1 (by decide)with b|b<;>rcases y 0 (by decide)with c|c<;>rcases y 1 (by decide)with d|d<;>rcases hs with e|e<;>rcases ht with f|f<;>rw[a,b,c,d]<;>(try rw[e])<;>(try rw[f])<;>decide
 |3,M,h=>by
  have e:det 3 M=M 0 0*(M 1 1*M 2 2-M 2 1*M 1 2)-M 1 0*(M 0 1*M 2 2-M 2 1*M 0 2)+M 2 0*(M 0 1*M 1 2-M 1 1*M 0 2):=by
   show(0+sg 0*M 0 0*(0+sg 0*M (gQ 0 0) 1*(0+sg 0*M (gQ 0 (gQ 0 0)) 2*1)+sg 1*M (gQ 0 1) 1*(0+sg 0*M (gQ 0 (gQ 1 0)) 2*1))+sg 1*M 1 0*(0+sg 0*M (gQ 1 0) 1*(0+sg 0*M (gQ 1 (gQ 0 0)) 2*1)+sg 1*M (gQ 1 1) 1*(0+sg 0*M (gQ 1 (gQ 1 0)) 2*1))+sg 2*M 2 0*(0+sg 0*M (gQ 2 0) 1*(0+sg 0*M (gQ 2 (gQ 0 0)) 2*1)+sg 1*M (gQ 2 1) 1*(0+sg 0*M (gQ 2 (gQ 1 0)) 2*1)))=_;simp only[show sg 0=1 from rfl,show sg 1= -1 from rfl,show sg 2=1 from rfl,show gQ 0 0=1 from rfl,show gQ 1 0=0 from rfl,show gQ 0 1=2 from rfl,show gQ 1 1=2 from rfl,show gQ 2 0=0 from rfl,show gQ 2 1=1 from rfl]
   grind
  rw[e];show -2<=_/\_<=(2:Int);obtain⟨s,hs,z⟩:=h 0 (by decide);obtain⟨t,ht,y⟩:=h 1 (by decide);obtain⟨u,hu,x⟩:=h 2 (by decide);obtain⟨a,ea⟩:=n6 (z 0 (by decide));obtain⟨b,eb⟩:=n6 (z 1 (by decide));obtain⟨c,ec⟩:=n6 (z 2 (by decide));obtain⟨d,ed⟩:=n6 (y 0 (by decide));obtain⟨e',ee⟩:=n6 (y 1 (by decide));obtain⟨f,ef⟩:=n6 (y 2 (by decide));obtain⟨g,eg⟩:=n6 (x 0 (by decide));obtain⟨h',eh⟩:=n6 (x 1 (by decide));obtain⟨i,ei⟩:=n6 (x 2 (by decide));have k:=d3 a b c d e' f g h' i;rw[ea,eb,ec,ed,ee,ef,eg,eh,ei];generalize bi a=a at *;generalize bi b=b at *;generalize bi c=c at *;generalize bi d=d at *;generalize bi e'=e' at *;generalize bi f=f at *;generalize bi g=g at *;generalize bi h'=h' at *;generalize bi i=i at *;have r:s*a*(t*e'*(u*i)-u*h'*(t*f))-t*d*(s*b*(u*i)-u*h'*(s*c))+u*g*(s*b*(t*f)-t*e'*(s*c))=(s*t*u)*(a*(e'*i-h'*f)-d*(b*i-h'*c)+g*(b*f-e'*c)):=by grind
  rw[r];have q:s*t*u=1\/s*t*u= -1:=by rcases hs with rfl|rfl<;>rcases ht with rfl|rfl<;>rcases hu with rfl|rfl<;>decide
  rcases q with q|q<;>rw[q]<;>omega
 |k+4,M,h=>by
  show -((k+4:Int)*hb (k+3))<=sm (k+4) _/\sm (k+4) _<=(k+4:Int)*hb (k+3);have e:((k+4:Nat):Int)=(k+4:Int):=by omega
  rw[<-e];refine wD (k+4) fun i hi=> ?_;rw[VB];refine Wd i ?_;have a:=Hq (k+3) (h.lA hi);have b:=w5 (h.one hi (show 0<k+4 by omega)) a;rw[JW]at b;exact b
theorem Pk{k:Nat}{M:qU}{r:Nat}(hr:r<k)(h:∀j,j<k->M r j=0):det k M=0:=by
 have e:det k M=det k (put M r fun c=>0*one c+0*one c):=pY k fun i hi j hj=>by
  unfold put;split
  ·rename_i z;rw[z,h j hj];simp
  ·rfl
 rw[e,su k M r 0 0 one one hr];omega
section
variable{n m:Nat}{S:Nat->Nat->Bool}{w:Nat->Int}{T:Tab}
theorem Tw(T:Tab):det (n+1) (qb n S T)=det n (lA (qb n S T) 0):=by
 show sm (n+1) _=_;rw[dR (j:=0) (n+1) (by omega) fun i hi hn=> ?_]
 ·rw[show sg 0=1 from rfl,show qb n S T 0 0=1 from rfl];omega
 ·have z:det n (lA (qb n S T) i)=0:=Pk (r:=0) (by omega) fun j hj=>by
   unfold lA gQ;rw[aB (by omega)];show one (j+1)=0;unfold one;rw[aq (by omega)]
  rw[z,yw]
theorem Pz(T:Tab):Ew n (lA (qb n S T) 0):=fun i hi=>by
 have e:∀j,lA (qb n S T) 0 i j=nv n S (T.col i) (j+1):=fun j=>by
  unfold lA gQ;rw[aq (by omega)];rw[xZ]
 by_cases hc:T.col i<n
 ·refine⟨1,.inl rfl,fun j hj=> ?_⟩;rw[e];unfold nv;rw[aB hc];split
  ·exact .inr rfl
  ·exact .inl rfl
 ·refine⟨-1,.inr rfl,fun j hj=> ?_⟩;rw[e];unfold nv;rw[aq hc,aq (by omega)];split
  ·exact .inr rfl
  ·exact .inl rfl
theorem Good.Ww(G:Good n m S w T)(h:n<=5):T.over<=40:=by
 have d:=Hq n (Pz (S:=S) T);rw[<-Tw]at d;have b:hb n<=40:=by
  have:n=0\/n=1\/n=2\/n=3\/n=4\/n=5:=by omega
  rcases this with z|z|z|z|z|z<;>subst z<;>decide
 rw[G.dt];rcases G.sg with s|s<;>rw[s]<;>omega
end
end Sx
namespace Hs
open PySem L2 BJ
noncomputable def top(i:Nat):Stmt:=PySem.Challenge.pw_hueshare_k29_rows_of_hues_looked_at.main.body.getD i (.Pass ⟨0,0,0,0⟩)
abbrev QH:Stmt:=top 13
abbrev lQ:Stmt:=top 14
abbrev iQ:Stmt:=top 15
abbrev Zq:Stmt:=top 16
abbrev tV:Stmt:=top 17
abbrev lR:Stmt:=top 18
abbrev nA:Stmt:=top 19
abbrev Kg:Stmt:=top 20
abbrev fO:Stmt:=top 21
abbrev iK:Stmt:=top 22
abbrev rQ:Stmt:=top 23
abbrev lU:Stmt:=top 24
abbrev iu:Stmt:=top 25
abbrev iw:Stmt:=top 26
noncomputable abbrev zbl:Stmt:=top 28
abbrev jy:Stmt:=top 29
abbrev tQ:Stmt:=top 30
noncomputable abbrev zcw:Stmt:=top 32
noncomputable abbrev zda:Stmt:=top 33
noncomputable abbrev zdj:Stmt:=top 34
noncomputable abbrev zcu:Stmt:=top 35
abbrev QJ:Stmt:=top 36
noncomputable abbrev zbx:Stmt:=top 37
abbrev tX:Stmt:=top 38
noncomputable abbrev zdh:Stmt:=top 40
abbrev tO:Stmt:=top 41
noncomputable abbrev zdg:Stmt:=top 43
abbrev oX:Stmt:=top 44
abbrev jB:Stmt:=top 45
abbrev iM:Stmt:=top 46
abbrev fW:Stmt:=inClass (top 49) 0
noncomputable abbrev zbo:Stmt:=inClass (top 49) 1
noncomputable abbrev zbu:Stmt:=inClass (top 49) 2
noncomputable abbrev zcf:Stmt:=inClass (top 49) 3
noncomputable abbrev zcx:Stmt:=inClass (top 49) 4
noncomputable abbrev fV:Stmt:=inClass (top 49) 5
noncomputable abbrev zdk:Stmt:=inClass (top 49) 6
abbrev Zv:Stmt:=inClass (top 49) 7
noncomputable abbrev zce:Stmt:=inClass (top 49) 8
noncomputable abbrev zcd:Stmt:=inClass (top 49) 9
noncomputable abbrev iJ:Stmt:=top 50
abbrev tU:Stmt:=top 51
noncomputable abbrev fQ:Stmt:=top 54
abbrev tW:Stmt:=top 55
noncomputable abbrev zcv:Stmt:=top 56
noncomputable abbrev fU:Stmt:=top 57
abbrev gR:Stmt:=top 58
abbrev oY:Stmt:=top 59
abbrev tR:Stmt:=top 60
noncomputable abbrev jA:Stmt:=top 62
abbrev jz:Stmt:=top 63
abbrev fG:Stmt:=top 64
noncomputable abbrev lM:Stmt:=top 65
noncomputable abbrev lN:Stmt:=top 66
abbrev lO:Stmt:=top 67
abbrev gF:Stmt:=top 68
abbrev qM:Stmt:=top 69
end Hs
namespace Hs
open PySem L2
theorem bf{X:Cx}{b:List Stmt}{R:TS->Prop}(h:let Y:=X;∃t,PSs Y b t/\R t):∃t,PSs X b t/\R t:=h
theorem je{t1 t2:TS}{D:Ends}{σ:St}{H:Hp}(h:let c2:=t2;tSeq t1 c2 D σ H):(tSeq t1 t2) D σ H:=h
theorem jd{t1 t2 t3:TS}{D:Ends}{σ:St}{H:Hp}(h:let c3:=t3;let c2:=tSeq t2 c3;tSeq t1 c2 D σ H):(tSeq t1 (tSeq t2 t3)) D σ H:=h
theorem N7{t1 t2 t3 t4:TS}{D:Ends}{σ:St}{H:Hp}(h:let c4:=t4;let c3:=tSeq t3 c4;let c2:=tSeq t2 c3;tSeq t1 c2 D σ H):(tSeq t1 (tSeq t2 (tSeq t3 t4))) D σ H:=h
theorem aaU{t1 t2 t3 t4 t5:TS}{D:Ends}{σ:St}{H:Hp}(h:let c5:=t5;let c4:=tSeq t4 c5;let c3:=tSeq t3 c4;let c2:=tSeq t2 c3;tSeq t1 c2 D σ H):(tSeq t1 (tSeq t2 (tSeq t3 (tSeq t4 t5)))) D σ H:=h
theorem aaT{t1 t2 t3 t4 t5 t6:TS}{D:Ends}{σ:St}{H:Hp}(h:let c6:=t6;let c5:=tSeq t5 c6;let c4:=tSeq t4 c5;let c3:=tSeq t3 c4;let c2:=tSeq t2 c3;tSeq t1 c2 D σ H):(tSeq t1 (tSeq t2 (tSeq t3 (tSeq t4 (tSeq t5 t6))))) D σ H:=h
theorem N6{t1 t2 t3 t4 t5 t6 t7:TS}{D:Ends}{σ:St}{H:Hp}(h:let c7:=t7;let c6:=tSeq t6 c7;let c5:=tSeq t5 c6;let c4:=tSeq t4 c5;let c3:=tSeq t3 c4;let c2:=tSeq t2 c3;tSeq t1 c2 D σ H):(tSeq t1 (tSeq t2 (tSeq t3 (tSeq t4 (tSeq t5 (tSeq t6 t7)))))) D σ H:=h
theorem Vk{t1 t2 t3 t4 t5 t6 t7 t8:TS}{D:Ends}{σ:St}{H:Hp}(h:let c8:=t8;let c7:=tSeq t7 c8;let c6:=tSeq t6 c7;let c5:=tSeq t5 c6;let c4:=tSeq t4 c5;let c3:=tSeq t3 c4;let c2:=tSeq t2 c3;tSeq t1 c2 D σ H):(tSeq t1 (tSeq t2 (tSeq t3 (tSeq t4 (tSeq t5 (tSeq t6 (tSeq t7 t8))))))) D σ H:=h
theorem Xm{t1 t2 t3 t4 t5 t6 t7 t8 t9 t10:TS}{D:Ends}{σ:St}{H:Hp}(h:let c10:=t10;let c9:=tSeq t9 c10;let c8:=tSeq t8 c9;let c7:=tSeq t7 c8;let c6:=tSeq t6 c7;let c5:=tSeq t5 c6;let c4:=tSeq t4 c5;let c3:=tSeq t3 c4;let c2:=tSeq t2 c3;tSeq t1 c2 D σ H):(tSeq t1 (tSeq t2 (tSeq t3 (tSeq t4 (tSeq t5 (tSeq t6 (tSeq t7 (tSeq t8 (tSeq t9 t10))))))))) D σ H:=h
end Hs
namespace L2
open PySem PySem.Spec PyProof.Rows
section
variable{X:Cx}{es:List Expr}{k:Nat}{Mg:Pos}
def ab3(K:W.Frag)(b:Bool)(H:Hp)(a:Addr)(xs:List V):Prop:=match b with
 |false=>SqL K H a xs
 |true=>False
def Xh(K:W.Frag)(ta:TA):TI:=fun σ H R=>ta σ H fun vs H1=>∃(b:Bool) (a:Addr) (xs:List V),vs=[.ref a]/\ab3 K b H1 a xs/\(xs.length<=sizeLine->R (Ite K b a xs) H1)
theorem nJ{a:Expr}{ta:TA}{p pos:Pos}(hg:Gl X "enumerate")(hm:X.mg "enumerate"=none)(ha:PA X [a] ta)(hs:starEach [a] X.env=[(false,eval a X.env)]:=by rfl):
  PI X (.Tuple es k Mg) (.Call (.Name "enumerate" p) [a] [] pos) (Xh X.K ta):=by
 intro pins s σ H R I h;refine Call_ (yt I hg hm (show bootBuiltins "enumerate"=some (.type "enumerate")from by decide+kernel) (Ia (thn (ha pos pins s σ H _ I h) fun us s1 ⟨vs,H1,I1,r1,q1⟩=> ?_) hs rfl));obtain⟨b,l,xs,e,hq,q⟩:=q1;subst e;cases r1 with
 |cons r rr=>
  cases rr;cases r;cases b with
  |false=>
   obtain⟨its,rv,pl,hz⟩:=I1.list (show SqL X.K H1 l xs from hq);refine call_enumerate_list pl.isList fun h' he hit hsz hk=> ?_;refine wpAny_pyIter_enum he ?_;have I2:Inv X pins σ H1 {s1 with heap:=h'}:=I1.kept (t':=s1.toks) hk;have hne:s1.heap.objs.size+1≠s1.heap.objs.size:=Nat.succ_ne_self _;refine⟨s1.heap.objs.size+1,[s1.heap.objs.size+1,s1.heap.objs.size],_,_,H1,rfl,I2,Cy l _ _ xs hne,⟨⟨_,he⟩,hit⟩,fun c hc=> ?_,q hz⟩;rcases cF.mp hc with z|z
   ·subst z;exact I1.fpOk (Ft _) (I1.hok.fresh (Ft _))
   ·have z:c=s1.heap.objs.size:=by simpa using z
    subst z;exact I1.fpOk (aN _) (I1.hok.fresh (aN _))
  |true=>exact hq.elim
end
mutual
def eqD:Nat->θ->θ->Bool
 |0,_,_=>false
 |n+1,a,b=>match a,b with
  | .none,.none=>true
  | .bool x,.bool y=>x==y
  | .int x,.int y=>x==y
  | .str x,.str y=>x==y
  | .list xs,.list ys=>XQ n xs ys
  | .tuple xs,.tuple ys=>XQ n xs ys
  | .dict [],.dict []=>true
  |_,_=>false
def XQ:Nat->List θ->List θ->Bool
 |0,_,_=>false
 |n+1,xs,ys=>match xs,ys with
  |[],[]=>true
  |x::xs,y::ys=>eqD n x y&&XQ n xs ys
  |_,_=>false
end
end L2
namespace Hs
open PySem L2 BJ
section
variable{P:ρ}{w:υ}{K:W.Frag}{mg:L4}{base:Heap}
def gD(K:W.Frag):Sp:=fun vs H Q _=>∃x d,vs=[x]/\DX K H x d/\Q (.bl (oN d)) H
theorem Ml{f:Addr}{fd:τ}(F:Fun K "is_whole" "is_whole" QH f fd)(mi:mg "isinstance"=none)(mI:mg "int"=none)(mB:mg "bool"=none):FnOk P w K mg base CX0 1 f fd ["thing"] (gD K):=by
 refine F.dM ["thing"] fun cdv A outer s H vs Q E hr h=> ?_;obtain⟨x,d,rfl,hx,q⟩:=h;refine⟨_,bw (cT (pe_and (pB QC mi (aj (pv 0) (aj (pN "int" mI) aA)))
  (pe_one (pe_not (pB QC mi (aj (pv 0) (aj (pN "bool" mB) aA))))))),?_⟩
 refine⟨_,rfl,x,_,_,rfl,hx.kind,.inl rfl,_,rfl,?_⟩;refine ite2 (fun c=> ?_) (fun c=> ?_)
 ·refine⟨_,rfl,x,_,_,rfl,hx.kind,.inr (.inl rfl),_,rfl,?_⟩;cases d<;>first |exact q|(simp[DP,Ab]at c;done)
 ·cases d<;>first |exact q|(exfalso;exact c rfl)
def Gh(K:W.Frag):Sp:=fun vs H Q _=>∃(n:Int) (x:V) (d:θ),vs=[.int n,x]/\DX K H x d/\Q (.bl (bW n d)) H
theorem Ms{f g:Addr}{fd gd:τ}(F:Fun K "is_place" "is_place" lQ f fd)(D:bQ K mg "is_whole" QH ["thing"] g gd)(G:FnOk P w K mg base CX0 1 g gd ["thing"] (gD K)):FnOk P w K mg base CX0 2 f fd ["n","thing"] (Gh K):=by
 refine F.dM ["n","thing"] fun cdv A outer s H vs Q E hr h=> ?_;obtain⟨n,x,d,rfl,hx,q⟩:=h;refine⟨_,bw (cT (pe_and (pe_call G hr rfl D.m D.F.kp D.b .nil pass0 (aj (pv 1) aA)) (pe_one (pe_chain op_le op_lt aQ (pv 1) (pv 0))))),?_⟩;refine⟨_,rfl,x,d,rfl,hx,_,rfl,?_⟩;refine ite2 (fun c=> ?_) (fun c=> ?_)
 ·cases hx with
  |int i=>
   refine⟨_,rfl,_,_,rfl,rfl,_,rfl,?_⟩;refine ite2 (fun c2=> ?_) (fun c2=> ?_)
   ·refine⟨_,rfl,_,_,rfl,rfl,?_⟩;have e:bW n (.int i)=decide (i<n):=by show(decide (0<=i)&&decide (i<n))=_;rw[c2];rfl
    rw[e]at q;exact q
   ·have e:bW n (.int i)=false:=by show(decide (0<=i)&&decide (i<n))=_;rw[Bool.eq_false_iff.mpr c2];rfl
    rw[e]at q;exact q
  |_=>simp[oN]at c
 ·have e:bW n d=false:=by
   cases d<;>first |rfl|(exfalso;exact c rfl)
  rw[e]at q;exact q
def yU(K:W.Frag):Sp:=fun vs H Q _=>∃(n:Int) (a:Addr) (xs:List V) (ds:List θ),vs=[.int n,.ref a]/\SqT K H a xs/\uZ K H xs ds/\∀H',Same H H'->Q (.bl (ds.all (bW n))) H'
theorem uL{α:Type}(ds:List α)(p:α->Bool):(ds.map p).all id=ds.all p:=by rw[wgq];rfl
theorem Jb{f g:Addr}{fd gd:τ}(F:Fun K "are_places" "are_places" iQ f fd)(D:bQ K mg "is_place" lQ ["n","thing"] g gd)(G:FnOk P w K mg base CX0 2 g gd ["n","thing"] (Gh K))(mA:mg "all"=none):FnOk P w K mg base CX0 3 f fd ["n","things"] (yU K):=by
 refine F.dM ["n","things"] fun cdv A outer s H vs Q E hr h=> ?_;obtain⟨n,a,xs,ds,rfl,hS,hd,q⟩:=h;refine⟨_,bw (cT (pB (iB rfl) mA (aj (pK ["thing"] ["n"] [0] (Hx (pv 1)) (pG 0) qG (pe_call G hr rfl D.m D.F.kp D.b .nil pass0 (aj (pv 1) (aj (pv 0) aA)))) aA))),?_⟩;refine⟨_,rfl,a,xs,rfl,hS,fun hz=> ?_⟩;have hl:=hd.len;let gq:Nat->List V->St->Hp->Prop:=fun i acc σ H'=>acc=((ds.take i).map (bW n)).map V.bl/\Same H H'/\∃o,σ=[o,some (.int n)];refine JV (xs:=xs) gq ⟨rfl,Same.refl _,_,rfl⟩ (fun i acc σ H' _ p=>p.2.1.tup hS) (fun i acc σ H' hi p=> ?_) hz (fun i x acc σ H' hx p=> ?_) (fun acc σ H' p=> ?_)
 ·rw[p.1];simp;omega
 ·obtain⟨rfl,sm,o,rfl⟩:=p;obtain⟨d,e1,e2⟩:=hd.get hx;refine⟨_,rfl,_,rfl,n,x,d,rfl,DX.same sm e2,?_,sm,_,rfl⟩;rw[rK,e1];simp
 ·intro p1 hp1;obtain⟨rfl,sm,_⟩:=p;refine⟨p1,(ds.map (bW n)),rfl,SqL.of (by rw[aH,hl,wg]),?_⟩;rw[uL];exact q _ (sm.trans (aO hp1 _))
def Yd(K:W.Frag)(H:Hp)(x y:V)(b:Bool):Prop:=(∃i j,x= .int i/\y= .int j/\b=decide (i<j))\/(∃p q ns ms,x= .ref p/\y= .ref q/\SqT K H p (ns.map V.int)/\SqT K H q (ms.map V.int)/\b=HT.lexLt ns ms)
noncomputable def m7(K:W.Frag):Sp:=fun vs H Q _=>∃(a:Addr) (xs:List V) (bs:Nat->Bool),vs=[.ref a]/\SqT K H a xs/\(∀k,k+1<xs.length->∃x y,xs[k]? =some x/\xs[k+1]? =some y/\Yd K H x y (bs k))/\
 ∀H',Same H H'->Q (.bl ((List.range (xs.length-1)).all bs)) H'
theorem Ja{f:Addr}{fd:τ}(F:Fun K "is_rising" "is_rising" Zq f fd)(mA:mg "all"=none)(mR:mg "range"=none)(mL:mg "len"=none):FnOk P w K mg base CX0 1 f fd ["things"] (m7 K):=by
 refine F.dM ["things"] fun cdv A outer s H vs Q E hr h=> ?_;obtain⟨a,xs,bs,rfl,hS,hb,q⟩:=h;refine⟨_,bw (cT (pB (iB rfl) mA (aj (pK ["k"] ["things"] [0] (pi_range2 rfl mR (aj aQ (aj (pB yI mL (aj (pv 0) aA)) aA))) (pG 0) qG (pe_cmpR (op_lt.or (Ry K hr.units0)) (bR (j7 K) (pv 1) (bJ op_sub (pv 0) aQ)) (bR (j7 K) (pv 1) (pv 0)))) aA))),?_⟩;refine⟨_,rfl,a,xs,rfl,.inr hS,fun hz=>⟨1,_,rfl,⟨by omega,by omega,by omega,by omega⟩,?_⟩⟩;have en:((xs.length:Int)-1).toNat=xs.length-1:=by omega
 rw[en];let gq:Nat->List V->St->Hp->Prop:=fun i acc σ H'=>acc=((List.range i).map bs).map V.bl/\Same H H'/\∃o,σ=[o,some (.ref a)];refine T5 gq ⟨rfl,Same.refl _,_,rfl⟩ (fun i acc σ H' hi p=>by rw[p.1];simp) (by rw[eE];omega) (fun i acc σ H' hi p=> ?_) (fun acc σ H' p=> ?_)
 ·obtain⟨rfl,sm,o,rfl⟩:=p;obtain⟨x,y,hx,hy,hxy⟩:=hb i (by omega);have e1:(1+(i:Int))-1=((i:Nat):Int):=by omega
  have e2:(1+(i:Int))=((i+1:Nat):Int):=by omega
  have a1:atI xs (1+(i:Int)-1)=some x:=by rw[e1];exact atI_nat hx
  have a2:atI xs (1+(i:Int))=some y:=by rw[e2];exact atI_nat hy
  refine⟨_,rfl,_,rfl,_,_,rfl,rfl,a,xs,_,x,rfl,rfl,sm.tup hS,a1,_,rfl,_,rfl,a,xs,_,y,rfl,rfl,sm.tup hS,a2,?_⟩;have ea:((List.range i).map bs).map V.bl++[V.bl (bs i)]=((List.range (i+1)).map bs).map V.bl:=by rw[Fw];simp
  rcases hxy with⟨u,v,rfl,rfl,e⟩|⟨p,p',ns,ms,rfl,rfl,h1,h2,e⟩
  ·refine .inl ⟨u,v,rfl,rfl,?_,sm,_,rfl⟩;show _++[V.bl (decide (u<v))]=_;rw[<-e];exact ea
  ·refine .inr ⟨p,p',ns,ms,rfl,rfl,sm.tup h1,sm.tup h2,?_,sm,_,rfl⟩;show _++[V.bl (HT.lexLt ns ms)]=_;rw[<-e];exact ea
 ·intro p1 hp1;obtain⟨rfl,sm,_⟩:=p;refine⟨p1,(List.range (xs.length-1)).map bs,rfl,SqL.of aH,?_⟩;rw[uL];exact q _ (sm.trans (aO hp1 _))
theorem ints_of{H:Hp}{n:Int}{xs:List V}{ds:List θ}(h:uZ K H xs ds)(hp:ds.all (bW n)=true):xs=(ds.map intD).map V.int:=by
 induction ds generalizing xs with
 |nil=>cases h;rfl
 |cons d ds ih=>
  rw[List.all_cons,yL]at hp;cases h with
  |cons h t=>
   obtain⟨i,rfl,_⟩:=Dl hp.1;cases h;rw[Ca,Ca,<-ih t hp.2];rfl
theorem vM{H:Hp}(ns:List Int):∀k,k+1<(ns.map V.int).length->∃x y,(ns.map V.int)[k]? =some x/\(ns.map V.int)[k+1]? =some y/\Yd K H x y (decide (ns.getD k 0<ns.getD (k+1) 0)):=fun k hk=>by
 rw[aJ]at hk;have h1:k<ns.length:=by omega
 refine⟨.int (ns.getD k 0),.int (ns.getD (k+1) 0),by simp[h1],by simp[hk],.inl ⟨_,_,rfl,rfl,rfl⟩⟩
def Uz(K:W.Frag):Sp:=fun vs H Q _=>∃(n:Int) (x:V) (d:θ),vs=[.int n,x]/\DX K H x d/\∀H',Same H H'->Q (.bl (wI n d)) H'
theorem WX{f f1 f2:Addr}{fd d1 d2:τ}(F:Fun K "is_set" "is_set" tV f fd)(D1:bQ K mg "are_places" iQ ["n","things"] f1 d1)(G1:FnOk P w K mg base CX0 3 f1 d1 ["n","things"] (yU K))(D2:bQ K mg "is_rising" Zq ["things"] f2 d2)(G2:FnOk P w K mg base CX0 1 f2 d2 ["things"] (m7 K))(mi:mg "isinstance"=none)(mT:mg "tuple"=none):FnOk P w K mg base CX0 4 f fd ["n","thing"] (Uz K):=by
 refine F.dM ["n","thing"] fun cdv A outer s H vs Q E hr h=> ?_;obtain⟨n,x,d,rfl,hx,q⟩:=h;refine⟨_,bw (cT (pe_and (pB QC mi (aj (pv 1) (aj (pN "tuple" mT) aA)))
  (pe_and (pc G1 hr D1 (aj (pv 0) (aj (pv 1) aA))) (pe_one (pc G2 hr D2 (aj (pv 1) aA)))))),?_⟩
 refine⟨_,rfl,x,_,_,rfl,hx.kind,.inr (.inr (.inl rfl)),_,rfl,?_⟩;refine ite2 (fun c=> ?_) (fun c=> ?_)
 ·cases hx with
  | @tup a xs ds h t=>
   refine⟨_,rfl,_,rfl,n,a,xs,ds,rfl,h,t,fun H1 sm=>⟨_,rfl,?_⟩⟩;refine ite2 (fun c2=> ?_) (fun c2=> ?_)
   ·have ex:=ints_of t c2;refine⟨_,rfl,a,xs,fun k=>decide ((ds.map intD).getD k 0<(ds.map intD).getD (k+1) 0),rfl,sm.tup h,?_,fun H2 tH=> ?_⟩
    ·rw[ex];exact vM _
    ·have e:wI n (.tuple ds)=(List.range (xs.length-1)).all fun k=>decide ((ds.map intD).getD k 0<(ds.map intD).getD (k+1) 0):=by
      show(ds.all (bW n)&&jF (ds.map intD))=_;rw[c2,t.len];show jF (ds.map intD)=_;unfold jF;rw[aJ]
     have:=q H2 (sm.trans tH);rw[e]at this;exact this
   ·have e:wI n (.tuple ds)=false:=by
     show(ds.all (bW n)&&jF (ds.map intD))=_;rw[Bool.eq_false_iff.mpr c2];rfl
    have:=q H1 sm;rw[e]at this;exact this
  |_=>simp[DP,Ab]at c
 ·have e:wI n d=false:=by
   cases d<;>first |rfl|(exfalso;exact c rfl)
  have:=q H (Same.refl _);rw[e]at this;exact this
def K3(K:W.Frag):Sp:=fun vs H Q _=>∃(n:Int) (x:V) (d:θ),vs=[.int n,x]/\DX K H x d/\∀H',Same H H'->Q (.bl (sW n d)) H'
theorem FW{H:Hp}{n:Int}{x:V}{d:θ}(h:DX K H x d)(ht:lH n d=true):∃p,x= .ref p/\SqT K H p (((kids d).map intD).map V.int):=by
 cases h with
 | @tup a xs ds h t=>
  have q:(ds.all (bW n)&&jF (ds.map intD)&&decide (ds.length=2))=true:=ht;rw[yL,yL]at q;exact⟨a,rfl,by rw[ints_of t q.1.1]at h;exact h⟩
 |_=>simp[lH,wI]at ht
theorem Im{H:Hp}{n:Int}{xs:List V}{ds:List θ}(t:uZ K H xs ds)(ha:ds.all (lH n)=true):∀k,k+1<xs.length->∃x y,xs[k]? =some x/\xs[k+1]? =some y/\
  Yd K H x y (HT.lexLt ((ds.map fun t=>(kids t).map intD).getD k []) ((ds.map fun t=>(kids t).map intD).getD (k+1) [])):=fun k hk=>by
 have hl:=t.len;have h1:k<xs.length:=by omega
 obtain⟨d1,e1,x1⟩:=t.get (i:=k) (x:=xs[k]) (by simp[h1]);obtain⟨d2,e2,x2⟩:=t.get (i:=k+1) (x:=xs[k+1]) (by simp[hk]);have m1:=rJ.mp ha d1 (jq e1);have m2:=rJ.mp ha d2 (jq e2);obtain⟨p1,q1,s1⟩:=FW x1 m1;obtain⟨p2,q2,s2⟩:=FW x2 m2;refine⟨xs[k],xs[k+1],by simp[h1],by simp[hk],.inr ⟨p1,p2,_,_,q1,q2,s1,s2,?_⟩⟩;have g1:(ds.map fun t=>(kids t).map intD).getD k []=(kids d1).map intD:=by rw[oK,dD,e1];rfl
 have g2:(ds.map fun t=>(kids t).map intD).getD (k+1) []=(kids d2).map intD:=by rw[oK,dD,e2];rfl
 rw[g1,g2]
theorem RB{f f1 f2:Addr}{fd d1 d2:τ}(F:Fun K "are_ties" "are_ties" lR f fd)(D1:bQ K mg "is_set" tV ["n","thing"] f1 d1)(G1:FnOk P w K mg base CX0 4 f1 d1 ["n","thing"] (Uz K))(D2:bQ K mg "is_rising" Zq ["things"] f2 d2)(G2:FnOk P w K mg base CX0 1 f2 d2 ["things"] (m7 K))(mi:mg "isinstance"=none)(mT:mg "tuple"=none)(mA:mg "all"=none)(mL:mg "len"=none):FnOk P w K mg base CX0 5 f fd ["n","thing"] (K3 K):=by
 refine F.dM ["n","thing"] fun cdv A outer s H vs Q E hr h=> ?_;obtain⟨n,x,d,rfl,hx,q⟩:=h;refine bf ?_;intro Y;refine⟨_,aP (qW (yF (yG (pB QC mi (aj (pv 1) (aj (pN "tuple" mT) aA))))) (bw (cT pe_bl)) qX) (bw (cT (pe_and (pB (iB rfl) mA (aj (pK ["tie"] ["n"] [0] (Hx (pv 1)) (pG 0) qG (pe_and (pc G1 hr D1 (aj (pv 1) (aj (pv 0) aA))) (pe_one (pe_cmpR op_eq (pB (JG K) mL (aj (pv 0) aA)) aQ)))) aA))
  (pe_one (pc G2 hr D2 (aj (pv 1) aA)))))),?_⟩
 refine je ?_;intro c2;refine⟨_,rfl,x,_,_,rfl,hx.kind,.inr (.inr (.inl rfl)),_,rfl,?_⟩;refine ite2 (fun c=> ?_) (fun c=> ?_)
 ·have e:sW n d=false:=by
   cases d<;>first |rfl|(exfalso;simp[DP,Ab]at c;done)
  have:=q H (Same.refl _);rw[e]at this;exact this
 ·cases hx with
  | @tup a xs ds h t=>
   refine⟨_,rfl,a,xs,rfl,h,fun hz=> ?_⟩;have hl:=t.len;let qe:Nat->List V->St->Hp->Prop:=fun i acc σ H'=>acc=((ds.take i).map (lH n)).map V.bl/\Same H H'/\∃o,σ=[o,some (.int n)];refine JV (xs:=xs) qe ⟨rfl,Same.refl _,_,rfl⟩ (fun i acc σ H' _ p=>p.2.1.tup h) (fun i acc σ H' hi p=> ?_) hz (fun i x acc σ H' hx p=> ?_) (fun acc σ H' p=> ?_)
   ·rw[p.1];simp;omega
   ·obtain⟨rfl,sm,o,rfl⟩:=p;obtain⟨d,e1,e2⟩:=t.get hx;refine⟨_,rfl,_,rfl,n,x,d,rfl,DX.same sm e2,fun H1 sm1=>⟨_,rfl,?_⟩⟩;have ea:∀b,b=lH n d->((ds.take i).map (lH n)).map V.bl++[V.bl b]=((ds.take (i+1)).map (lH n)).map V.bl:=fun b hb=>by
     rw[rK,e1,hb];simp
    refine ite2 (fun c2=> ?_) (fun c2=> ?_)
    ·cases e2 with
     | @tup a2 xs2 ds2 h2 t2=>
      refine⟨_,rfl,a2,xs2,rfl,.inr (sm1.tup (sm.tup h2)),fun hz2=>⟨rfl,ea _ ?_,sm.trans sm1,_,rfl⟩⟩;show decide (V.int (xs2.length:Int)=V.int 2)=(wI n (.tuple ds2)&&decide (ds2.length=2));rw[c2,t2.len];by_cases e3:ds2.length=2
      ·rw[e3];rfl
      ·rw[iY e3,iY (by intro z;injection z with z;exact e3 (by omega))];rfl
     |_=>simp[wI]at c2
    ·refine⟨ea _ ?_,sm.trans sm1,_,rfl⟩;show false=(wI n d&&decide ((kids d).length=2));rw[Bool.eq_false_iff.mpr c2];rfl
   ·intro p1 hp1;obtain⟨rfl,sm,_⟩:=p;have sm':Same H (upd H' p1 (.lst (((ds.take xs.length).map (lH n)).map V.bl))):=sm.trans (aO hp1 _);refine⟨p1,(ds.map (lH n)),rfl,SqL.of (by rw[aH,hl,wg]),_,rfl,?_⟩;rw[uL];refine ite2 (fun c2=> ?_) (fun c2=> ?_)
    ·refine⟨_,rfl,a,xs,fun k=>HT.lexLt ((ds.map fun t=>(kids t).map intD).getD k []) ((ds.map fun t=>(kids t).map intD).getD (k+1) []),rfl,sm'.tup h,?_,fun H2 tH=> ?_⟩
     ·exact Im (uZ.same sm' t) c2
     ·have e:sW n (.tuple ds)=(List.range (xs.length-1)).all fun k=>HT.lexLt ((ds.map fun t=>(kids t).map intD).getD k []) ((ds.map fun t=>(kids t).map intD).getD (k+1) []):=by
       show(ds.all (lH n)&&jE (ds.map fun t=>(kids t).map intD))=_;rw[c2,hl];show jE (ds.map fun t=>(kids t).map intD)=_;unfold jE;rw[aJ]
      have:=q H2 (sm'.trans tH);rw[e]at this;exact this
    ·have e:sW n (.tuple ds)=false:=by
      show(ds.all (lH n)&&jE (ds.map fun t=>(kids t).map intD))=_;rw[Bool.eq_false_iff.mpr c2];rfl
     have:=q _ sm';rw[e]at this;exact this
  |_=>exfalso;exact c rfl
end
end Hs
namespace BJ
open PySem L2
noncomputable def pairD(p:Int×Int):θ:= .tuple [.int p.1,.int p.2]
def oO(n:Int)(ts:L0):θ:= .tuple [.int n,.tuple (ts.map pairD)]
def iV(K:W.Frag)(H:Hp)(a:Addr)(n:Int)(ts:L0):Prop:=∃t rs,SqT K H a [.int n,.ref t]/\SqT K H t rs/\cU K H rs (ts.map pairD)
theorem iV.dv{K:W.Frag}{H:Hp}{a:Addr}{n:Int}{ts:L0}(h:iV K H a n ts):DV K H (.ref a) (oO n ts):=by
 obtain⟨t,rs,h1,h2,h3⟩:=h;exact .tup h1 (.cons (.int n) (.cons (.tup h2 h3) .nil))
theorem iV.same{K:W.Frag}{H H':Hp}{a:Addr}{n:Int}{ts:L0}(h:iV K H a n ts)(e:Same H H'):iV K H' a n ts:=by
 obtain⟨t,rs,h1,h2,h3⟩:=h;exact⟨t,rs,e.tup h1,e.tup h2,cU.same e h3⟩
def bZ(ts:L0)(i j:Int):Bool:=decide ((if j<i then j else i,if j>i then j else i)∈ts)
theorem Bk(p q:Int×Int):PyData.eqv (pairD p) (pairD q)=decide (p=q):=by
 obtain⟨a,b⟩:=p;obtain⟨c,d⟩:=q;show((a==c)&&((b==d)&&true))=_;rw[wA];simp
theorem pR:∀ts:L0,PyData.canLayAll0 (ts.map pairD)=true
 |[]=>rfl
 |p::ts=>by
  show(PyData.canLay0 (pairD p)&&PyData.canLayAll0 (ts.map pairD))=true;rw[pR ts];rfl
theorem PJ(ts:L0)(q:Int×Int):((ts.map pairD).any fun d=>PyData.eqv d (pairD q))=decide (q∈ts):=by
 rw[whp,wA,Yn];constructor
 ·rintro⟨p,hp,h⟩;have h':PyData.eqv (pairD p) (pairD q)=true:=h;rw[Bk]at h';have e:p=q:=sS h';subst e;exact fD hp
 ·intro h;refine⟨q,sS h,?_⟩;show PyData.eqv (pairD q) (pairD q)=true;rw[Bk];exact fD rfl
end BJ
namespace Hs
open PySem L2 BJ
section
variable{P:ρ}{w:υ}{K:W.Frag}{mg:L4}{base:Heap}
def K1(K:W.Frag):Sp:=fun vs H Q _=>∃(x:V) (d:θ),vs=[x]/\DX K H x d/\∀H',Same H H'->Q (.bl (iG d)) H'
theorem Wy{f f1 f2:Addr}{fd d1 d2:τ}{tk:Tok}(F:Fun K "is_web" "is_web" nA f fd)(D1:bQ K mg "is_whole" QH ["thing"] f1 d1)(G1:FnOk P w K mg base CX0 1 f1 d1 ["thing"] (gD K))(D2:bQ K mg "are_ties" lR ["n","thing"] f2 d2)(G2:FnOk P w K mg base CX0 5 f2 d2 ["n","thing"] (K3 K))(mi:mg "isinstance"=none)(mT:mg "tuple"=none)(mL:mg "len"=none)(mM:mg "MOST_PLACES"=some (.int 10 tk)):FnOk P w K mg base CX0 6 f fd ["thing"] (K1 K):=by
 refine F.dM ["thing","n"] fun cdv A outer s H vs Q E hr h=> ?_;obtain⟨x,d,rfl,hx,q⟩:=h;refine bf ?_;intro Y;refine⟨_,aP (qW (PW.pt (pw_or (yF (yG (pB QC mi (aj (pv 0) (aj (pN "tuple" mT) aA)))))
   (pw_or1 (jg op_ne (pB yI mL (aj (pv 0) aA)) aQ)))) (bw (cT pe_bl)) qX) (aP (pS 1 (bR jo (pv 0) aQ)) (bw (cT (pe_and (pc G1 hr D1 (aj (pv 1) aA)) (pe_and (pe_chain op_le op_le aQ (pv 1) (Hw rfl mM (v:= .int 10) ⟨_,rfl⟩))
   (pe_one (pc G2 hr D2 (aj (pv 1) (aj (bR jo (pv 0) aQ) aA))))))))),?_⟩
 refine jd ?_;intro c3 c2;refine⟨_,rfl,x,_,_,rfl,hx.kind,.inr (.inr (.inl rfl)),_,rfl,?_⟩;refine ite2 (fun c=> ?_) (fun c=> ?_)
 ·have e:iG d=false:=by
   cases d<;>first |rfl|(exfalso;simp[DP,Ab]at c;done)
  have:=q H (Same.refl _);rw[e]at this;exact this
 ·cases hx with
  | @tup a xs ds h t=>
   have hl:=t.len;refine⟨_,rfl,a,xs,rfl,.inr h,fun hz=>⟨rfl,_,rfl,?_⟩⟩;refine ite2 (fun c2=> ?_) (fun c2=> ?_)
   ·have e:iG (.tuple ds)=false:=by
     match ds,hl with
     |[],_=>rfl
     |[_],_=>rfl
     |[_,_],hl=>
      exfalso;have e2:(!decide (V.int (xs.length:Int)=V.int 2))=true:=c2;rw[hl]at e2;simp at e2
     |_::_::_::_,_=>rfl
    have:=q H (Same.refl _);rw[e]at this;exact this
   ·have e2:xs.length=2:=by
     have e2:¬(!decide (V.int (xs.length:Int)=V.int 2))=true:=c2;simp at e2;omega
    cases t with
    |nil=>simp at e2
    |cons h0 t0=>
     cases t0 with
     |nil=>simp at e2
     | @cons x1 Zh xs1 ds1 h1 t1=>
      cases t1 with
      |cons _ _=>simp at e2
      |nil=>
       rename_i x0 Zi;refine⟨_,rfl,a,_,_,x0,rfl,rfl,h,by rfl,?_⟩;refine⟨_,rfl,x0,Zi,rfl,h0,_,rfl,?_⟩;refine ite2 (fun c3=> ?_) (fun c3=> ?_)
       ·cases h0 with
        |int n=>
         refine⟨_,rfl,_,_,rfl,rfl,_,rfl,?_⟩;have fin:∀b,b=iG (.tuple [.int n,Zh])->∀H',Same H H'->Q (.bl b) H':=fun b hb H' sm=>by rw[hb];exact q H' sm
         have wd:iG (.tuple [.int n,Zh])=((decide (0<=n)&&decide (n<=10))&&sW n Zh):=rfl;refine ite2 (fun c4=> ?_) (fun c4=> ?_)
         ·refine⟨_,_,rfl,rfl,_,rfl,?_⟩;refine ite2 (fun c5=> ?_) (fun c5=> ?_)
          ·refine⟨_,rfl,_,rfl,a,_,_,x1,rfl,rfl,h,by rfl,n,x1,Zh,rfl,h1,fun H' sm=>fin _ ?_ H' sm⟩;rw[wd,c4,c5];rfl
          ·refine fin _ ?_ H (Same.refl _);rw[wd,Bool.eq_false_iff.mpr c5,wgz];rfl
         ·refine⟨_,rfl,?_⟩;refine iteF (fin _ ?_ H (Same.refl _));rw[wd,Bool.eq_false_iff.mpr c4];rfl
        |_=>simp[oN]at c3
       ·have e:iG (.tuple [Zi,Zh])=false:=by
         show(oN Zi&&(decide (0<=intD Zi)&&decide (intD Zi<=10))&&sW (intD Zi) Zh)=false;rw[Bool.eq_false_iff.mpr c3];rfl
        have:=q H (Same.refl _);rw[e]at this;exact this
  |_=>exfalso;exact c rfl
def cG(K:W.Frag):Sp:=fun vs H Q _=>∃(x:V) (d:θ),vs=[x]/\DX K H x d/\iG d=true/\∀H',Same H H'->Q .non H'
theorem Ds{f f1:Addr}{fd d1:τ}(F:Fun K "need_web" "need_web" Kg f fd)(D1:bQ K mg "is_web" nA ["thing"] f1 d1)(G1:FnOk P w K mg base CX0 6 f1 d1 ["thing"] (K1 K)):FnOk P w K mg base CX0 7 f fd ["thing"] (cG K):=by
 refine F.dM ["thing"] fun cdv A outer s H vs Q E hr h=> ?_;obtain⟨x,d,rfl,hx,hw,q⟩:=h;refine⟨_,bw (qW (yF (yG (pc G1 hr D1 (aj (pv 0) aA)))) Vv qX),?_⟩;refine⟨_,rfl,x,d,rfl,hx,fun H' sm=>⟨_,rfl,?_⟩⟩;rw[hw];exact iteF (q H' sm)
def Gm(K:W.Frag):Sp:=fun vs H Q _=>∃(a:Addr) (n i j:Int) (ts:L0),vs=[.ref a,.int i,.int j]/\iV K H a n ts/\∀H',Same H H'->Q (.bl (bZ ts i j)) H'
theorem W6{f:Addr}{fd:τ}(F:Fun K "has_tie" "has_tie" iw f fd)(mi:mg "min"=none)(ma:mg "max"=none):FnOk P w K mg base CX0 1 f fd ["web","one","other"] (Gm K):=by
 refine F.dM ["web","one","other"] fun cdv A outer s H vs Q E hr h=> ?_;obtain⟨a,n,i,j,ts,rfl,hW,q⟩:=h;refine⟨_,bw (cT (pe_cmpR (Mj hr.units) (oF (aj (pB (call_min2 rfl) mi (aj (pv 1) (aj (pv 2) aA))) (aj (pB (call_max2 rfl) ma (aj (pv 1) (aj (pv 2) aA))) aA)))
  (bR jo (pv 0) aQ) (by with_unfolding_all rfl))),?_⟩
 refine⟨_,rfl,_,rfl,_,_,rfl,_,rfl,_,rfl,_,_,rfl,(by show 2<=sizeLine;decide),fun p hp=> ?_⟩;have sm:=aO hp (.tup [.int (if j<i then j else i),.int (if j>i then j else i)]);obtain⟨t,rs,h1,h2,h3⟩:=hW.same sm;refine⟨_,rfl,a,_,_,.ref t,rfl,rfl,h1,rfl,t,rs,_,pairD (if j<i then j else i,if j>i then j else i),rfl,.inr h2,h3,.tup (SqT.of aH) (.cons (.int _) (.cons (.int _) .nil)),pR ts,rfl,(by show max 0 (max 0 0)+1<=60;decide),?_⟩;rw[PJ];exact q _ sm
end
def PX(n:Int)(ts:L0):Prop:=iG (oO n ts)=true
section
variable{P:ρ}{w:υ}{K:W.Frag}{mg:L4}{base:Heap}
noncomputable def oR(K:W.Frag):Sp:=fun vs H Q _=>∃(n:Int),vs=[.int n]/\n<=10/\Q .non H
theorem Dt{f:Addr}{fd:τ}{tk:Tok}(F:Fun K "need_few" "need_few" iK f fd)(mM:mg "MOST_PLACES"=some (.int 10 tk)):FnOk P w K mg base CX0 1 f fd ["n"] (oR K):=by
 refine F.dM ["n"] fun cdv A outer s H vs Q E hr h=> ?_;obtain⟨n,rfl,hn,q⟩:=h;refine⟨_,bw (qW (jg op_gt (pv 0) (Hw rfl mM (v:= .int 10) ⟨_,rfl⟩)) Vv qX),?_⟩;refine⟨_,rfl,_,_,rfl,rfl,_,rfl,?_⟩;rw[iY (show¬(10:Int)<n by omega)];exact iteF q
theorem X8{b:Bool}{A B:Prop}(h:b=true)(hA:A):if b=true then A else B:=by rw[h];exact iteT hA
theorem X7{b:Bool}{A B:Prop}(h:b=false)(hB:B):if b=true then A else B:=by rw[h];exact iteF hB
def yW(K:W.Frag):Sp:=fun vs H Q _=>∃a b i:Int,vs=[.int a,.int b,.int i]/\a<=i/\i<=b/\Q .non H
theorem Jd{f f1:Addr}{fd d1:τ}(F:Fun K "need_from_to" "need_from_to" fO f fd)(D1:bQ K mg "is_whole" QH ["thing"] f1 d1)(G1:FnOk P w K mg base CX0 1 f1 d1 ["thing"] (gD K)):
  FnOk P w K mg base CX0 2 f fd ["least","most","thing"] (yW K):=by
 refine F.dM ["least","most","thing"] fun cdv A outer s H vs Q E hr h=> ?_;obtain⟨a,b,i,rfl,h0,h1,q⟩:=h;refine⟨_,bw (qW (PW.pt (pw_or (yF (yG (pc G1 hr D1 (aj (pv 2) aA)))) (pw_or1 (yF (pt_chain op_le op_le (pv 0) (pv 2) (pv 1)))))) Vv qX),?_⟩;refine⟨_,rfl,.int i,.int i,rfl,.int i,_,rfl,?_⟩;refine iteF ?_;refine⟨_,rfl,_,rfl,_,_,rfl,rfl,_,rfl,?_⟩;refine X8 (fD h0) ?_;refine⟨_,rfl,_,_,rfl,rfl,_,rfl,?_⟩;refine X7 (by rw[fD h1];rfl) q
end
end Hs
namespace L2
open PySem
def aD(t:Addr)(H H':Hp):Prop:=∀b o,b≠t->H b=some o->H' b=some o
theorem aD.refl(t:Addr)(H:Hp):aD t H H:=fun _ _ _ h=>h
theorem aD.trans{t:Addr}{H H1 H2:Hp}(a:aD t H H1)(b:aD t H1 H2):aD t H H2:=fun c o n h=>b c o n (a c o n h)
theorem Same.x{H H':Hp}(h:Same H H')(t:Addr):aD t H H':=fun b o _ e=>h b o e
theorem aD.upd{t:Addr}{H H':Hp}{o:HO}(h:aD t H H'):aD t H (upd H' t o):=fun b u n e=>by rw[bU n];exact h b u n e
def yg(K:W.Frag)(H:Hp)(oG:Addr)(ns:List Int):Prop:=(∃o,H oG=some (.frz o (.lst (ns.map V.int))))\/
 ∃(o:Obj) (its:Array ζ) (n:Nat),K.lookup oG=some o/\o.cls= .type "list"/\o.dict=none/\o.data= .seq its n/\its.size<=sizeLine/\Vals (ns.map V.int) its.toList
theorem yg.sq{K:W.Frag}{H:Hp}{oG:Addr}{ns:List Int}(h:yg K H oG ns):SqL K H oG (ns.map V.int):=by
 rcases h with⟨o,h⟩|h
 ·exact .inl (.inr ⟨o,h⟩)
 ·exact .inr h
theorem Kf:∀ns:List Int,PyData.canLayAll0 (ns.map PyData.int)=true
 |[]=>rfl
 |n::ns=>by
  show(true&&PyData.canLayAll0 (ns.map PyData.int))=true;rw[Kf ns];rfl
theorem ug{H:Hp}{a b:Addr}{o:HO}(h:H a=some o)(n:H b=none):b≠a:=fun e=>by rw[e,h]at n;cases n
theorem aD.free{t:Addr}{H H':Hp}{a:Addr}(e:aD t H H')(n:a≠t)(h:H' a=none):H a=none:=by
 cases q:H a with
 |none=>rfl
 |some o=>rw[e a o n q]at h;cases h
end L2
namespace Hs
open PySem L2 BJ
section
variable{P:ρ}{w:υ}{K:W.Frag}{mg:L4}{base:Heap}
theorem Dy(a:Int){b:Int}(h:0<b):0<=a %b:=Int.emod_nonneg _ (by omega)
theorem mod_lt(a:Int){b:Int}(h:0<b):a %b<b:=Int.emod_lt_of_pos _ h
theorem TX{ns:List Int}{k:Int}(h0:0<=k)(h1:k<(ns.length:Int)):∃v:Int,atI (ns.map V.int) k=some (.int v):=by
 have hk:k.toNat<ns.length:=by omega
 have ek:((k.toNat:Nat):Int)=k:=by omega
 have q:atI (ns.map V.int) ((k.toNat:Nat):Int)=some (.int ns[k.toNat]):=atI_nat (by rw[dD,gj hk];rfl);rw[ek]at q;exact⟨_,q⟩
def K9(K:W.Frag):Sp:=fun vs H Q _=>∃(oG:Addr) (ns:List Int) (k:Int),vs=[.ref oG,.int k]/\yg K H oG ns/\0<=k/\∀c:Int,Q (.int c) H
theorem RL{f:Addr}{fd:τ}(F:Fun K "_law_acell" "_law_acell" jA f fd)(mL:mg "len"=none):FnOk P w K mg base CX0 1 f fd ["script","k"] (K9 K):=by
 refine F.dM ["script","k"] fun cdv A outer s H vs Q E hr h=> ?_;obtain⟨oG,ns,k,rfl,hS,hk,q⟩:=h;refine bf ?_;intro Y;refine⟨_,aP (qW (jg op_lt (pv 1) (pB yI mL (aj (pv 0) aA))) (bw (cT (bR mZ (pv 0) (pv 1)))) qX) (bw (cT aQ)),?_⟩;refine je ?_;intro c2;refine⟨_,rfl,_,rfl,oG,_,rfl,.inl hS.sq,fun hz=>⟨_,_,rfl,rfl,_,rfl,?_⟩⟩;refine ite2 (fun c=> ?_) (fun c=> ?_)
 ·have c3:k<((ns.map V.int).length:Int):=sS c;rw[aJ]at c3;obtain⟨v,hx⟩:=TX hk c3;exact⟨_,rfl,_,rfl,oG,_,_,_,rfl,rfl,hS.sq,hx,q v⟩
 ·exact q 0
def CJ(K:W.Frag):Sp:=fun vs H Q _=>∃(oG:Addr) (ns:List Int) (k:Int),vs=[.ref oG,.int k]/\yg K H oG ns/\0<=k/\∀p H' t,Same H H'->H' p=some (.lst [.int t])->H p=none->Q (.ref p) H'
theorem RD{f f1:Addr}{fd d1:τ}(F:Fun K "_law_atape" "_law_atape" jz f fd)(D1:bQ K mg "_law_acell" jA ["script","k"] f1 d1)(G1:FnOk P w K mg base CX0 1 f1 d1 ["script","k"] (K9 K))(mR:mg "range"=none):
  FnOk P w K mg base CX0 2 f fd ["script","k"] (CJ K):=by
 refine F.dM ["script","k","cell","p","number","last","turn"] fun cdv A outer s H vs Q E hr h=> ?_;obtain⟨oG,ns,k,rfl,hS,hk,q⟩:=h;refine bf ?_;intro Y;refine⟨_,aP (pS 2 (pc G1 hr D1 (aj (pv 0) (aj (pv 1) aA)))) (aP (qW (jg op_eq (bJ op_mod (pv 2) aQ) aQ) (bw (cT (lE (aj (bJ op_fdiv (pv 2) aQ) aA)))) qX) (aP (pS 3 aQ) (aP (pS 4 aQ) (aP (pS 5 (bJ op_mod (bJ uU (bJ uU (bJ yu (bJ op_mod (pv 2) (pv 3)) aQ) (bJ yu aQ (pv 1))) aQ) (pv 3))) (aP (u6 rM rfl (Fp rfl mR (aj aQ aA)) (pG 6) (aP (pS 4 (bJ uU (bJ yu (pv 4) (pv 3)) (pv 5))) (bw (pS 5 (bJ op_mod (bJ uU (bJ uU (bJ yu (pv 5) (pv 5)) (bJ yu aQ (pv 1))) (pv 6)) (pv 3)))))) (bw (cT (lE (aj (pv 4) aA))))))))),?_⟩;refine N6 ?_;intro c7 c6 c5 c4 c3 c2;refine⟨_,rfl,_,rfl,oG,ns,k,rfl,hS,hk,fun c=> ?_⟩;refine⟨_,rfl,_,_,rfl,rfl,(by show(0:Int)<2;decide),rfl,_,rfl,?_⟩;refine ite2 (fun c1=> ?_) (fun c1=> ?_)
 ·exact⟨_,rfl,_,_,rfl,rfl,⟨by decide,by decide⟩,(by show 1<=sizeLine;decide),fun p hp=>q p _ _ (aO hp _) aH hp⟩
 ·refine⟨_,rfl,_,rfl,_,_,rfl,rfl,(by show(0:Int)<2305843009213693951;decide),_,_,rfl,rfl,.inr ⟨by decide,by decide⟩,_,rfl,_,_,rfl,rfl,.inl ⟨by decide,by decide⟩,_,_,rfl,rfl,_,_,rfl,rfl,_,rfl,_,_,rfl,rfl,(by show(0:Int)<2305843009213693951;decide),?_⟩;generalize hfirst:((fun i j=>V.int (i %j)) _ _:V)=vf;obtain⟨a1,e1,a2,a3⟩:∃a:Int,vf= .int a/\0<=a/\a<2305843009213693951:=⟨_,hfirst.symm,Dy _ (by decide),mod_lt _ (by decide)⟩;rw[e1];refine⟨9,rfl,by decide,by decide,?_⟩;let gq:Nat->St->Hp->Prop:=fun i σ H'=>H'=H/\∃(b l:Int) (o:Option V),σ=[some (.ref oG),some (.int k),some (.int c),some (.int 2305843009213693951),some (.int b),some (.int l),o]/\0<=l/\l<2305843009213693951;refine Qn (n:=9) gq ⟨rfl,_,_,_,rfl,a2,a3⟩ (fun i σ H' hi p=> ?_) (fun σ H' p=> ?_)
  ·obtain⟨rfl,b,l,o,rfl,h0,h1⟩:=p;refine⟨_,rfl,_,rfl,_,_,rfl,rfl,.inr ⟨by decide,by decide⟩,_,rfl,_,_,rfl,rfl,?_⟩;refine⟨_,rfl,_,rfl,_,_,rfl,rfl,.inl ⟨by omega,by omega⟩,_,rfl,_,_,rfl,rfl,.inl ⟨by decide,by decide⟩,_,_,rfl,rfl,_,rfl,_,_,rfl,rfl,_,rfl,_,_,rfl,rfl,(by show(0:Int)<2305843009213693951;decide),?_⟩;exact⟨rfl,_,_,_,rfl,Dy _ (by decide),mod_lt _ (by decide)⟩
  ·obtain⟨rfl,b,l,o,rfl,h0,h1⟩:=p;exact⟨_,rfl,(by show 1<=sizeLine;decide),fun p hp=>q p _ _ (aO hp _) aH hp⟩
def Gn(K:W.Frag):Sp:=fun vs H Q _=>∃(tp:Addr) (t m:Int),vs=[.ref tp,.int m]/\H tp=some (.lst [.int t])/\0<m/\m<1000000000000000000000000000000/\∀r t':Int,0<=r->r<m->Q (.int r) (upd H tp (.lst [.int t']))
theorem W8{f:Addr}{fd:τ}(F:Fun K "_law_adigit" "_law_adigit" fG f fd):FnOk P w K mg base CX0 1 f fd ["tape","many"] (Gn K):=by
 refine F.dM ["tape","many","found"] fun cdv A outer s H vs Q E hr h=> ?_;obtain⟨tp,t,m,rfl,hH,hm0,hm1,q⟩:=h;refine bf ?_;intro Y;refine⟨_,aP (pS 2 (bJ op_mod (bR mZ (pv 0) aQ) (pv 1))) (aP (ps_asg (bJ eU (bR mZ (pv 0) aQ) (pv 1)) (pg_sub (pv 0) aQ set_list)) (bw (cT (pv 2)))),?_⟩;refine jd ?_;intro c3 c2;refine⟨_,rfl,tp,_,_,.int t,rfl,rfl,SqL.of hH,rfl,_,rfl,_,_,rfl,rfl,hm0,?_⟩;refine⟨_,rfl,tp,_,_,.int t,rfl,rfl,SqL.of hH,rfl,_,rfl,_,_,rfl,rfl,⟨hm0,hm1⟩,_,rfl,tp,_,_,0,rfl,rfl,hH,rfl,?_⟩;exact⟨_,rfl,q _ _ (Dy _ hm0) (mod_lt _ hm0)⟩
end
end Hs
namespace L2
open PySem
theorem cU.append{K:W.Frag}{H:Hp}{xs ys:List V}{ds es:List θ}(h:cU K H xs ds)(h':cU K H ys es):cU K H (xs++ys) (ds++es):=
 cU.rec (motive_1:=fun _ _ _=>True) (motive_2:=fun xs ds _=>cU K H (xs++ys) (ds++es)) trivial (fun _=>trivial) (fun _=>trivial) (fun _=>trivial) (fun _ _ _=>trivial) (fun _ _ _=>trivial) (fun _=>trivial) (fun _ _=>trivial) h' (fun h _ _ t=> .cons h t) h
theorem aD.tup{K:W.Frag}{t:Addr}{H H':Hp}{a:Addr}{xs zs:List V}(e:aD t H H')(n:H t=some (.lst zs))(h:SqT K H a xs):SqT K H' a xs:=by
 rcases h with(h|⟨o,h⟩)|h
 ·exact .inl (.inl (e _ _ (ne_of h n (by intro z;cases z)) h))
 ·exact .inl (.inr ⟨o,e _ _ (ne_of h n (by intro z;cases z)) h⟩)
 ·exact .inr h
end L2
namespace BJ
open PySem L2
theorem gJ{K:W.Frag}{t:Addr}{H H':Hp}{zs:List V}(e:aD t H H')(n:H t=some (.lst zs)){rs:List V}{ps:L0}(h:cU K H rs (ps.map pairD)):cU K H' rs (ps.map pairD):=by
 induction ps generalizing rs with
 |nil=>cases h;exact .nil
 |cons p ps ih=>
  cases h with
  |cons h tl=>
   refine .cons ?_ (ih tl);cases h with
   |tup h hd=>
    cases hd with
    |cons a1 t1=>
     cases a1;cases t1 with
     |cons a2 t2=>
      cases a2;cases t2;exact .tup (e.tup n h) (.cons (.int _) (.cons (.int _) .nil))
theorem iV.zu{K:W.Frag}{t:Addr}{H H':Hp}{zs:List V}{a:Addr}{n:Int}{ts:L0}(h:iV K H a n ts)(e:aD t H H')(hn:H t=some (.lst zs)):iV K H' a n ts:=by
 obtain⟨u,rs,h1,h2,h3⟩:=h;exact⟨u,rs,e.tup hn h1,e.tup hn h2,gJ e hn h3⟩
theorem j5{α:Type} [DecidableEq α]:∀{l m:List α},l.Nodup->(∀a∈l,a∈m)->l.length<=m.length
 |[],m,_,_=>dB _
 |a::l,m,nd,h=>by
  have ha:=h a dY;have nd':=Km.mp nd;have q:∀b∈l,b∈m.erase a:=fun b hb=>by
   have hne:b≠a:=fun e=>nd'.1 (e▸hb);exact(wdw hne).mpr (h b (dZ _ hb))
  have:=j5 nd'.2 q;have e:=wcz ha;have:0<m.length:=Yu ha;simp only[uW];omega
structure eO(n:Int)(ps:L0):Prop where
 nd:ps.Nodup
 lt:∀p∈ps,0<=p.1/\p.1<p.2/\p.2<n
def abu(n:Nat):L0:=((List.range n).map fun(j:Nat)=>(List.range j).map fun(i:Nat)=>((i:Int),(j:Int))).flatten
theorem pairs_len{n:Int}{ps:L0}(h:eO n ps)(hn:n<=10):ps.length<=45:=by
 have q:=j5 (m:=abu 10) h.nd fun p hp=>by
  obtain⟨h0,h1,h2⟩:=h.lt p hp;obtain⟨a,b⟩:=p;dsimp only at h0 h1 h2;refine List.mem_flatten.mpr ⟨(List.range b.toNat).map fun(i:Nat)=>((i:Int),((b.toNat:Nat):Int)),kj.mpr ⟨b.toNat,rH.mpr (by omega),rfl⟩,kj.mpr ⟨a.toNat,rH.mpr (by omega),?_⟩⟩;have e1:((a.toNat:Nat):Int)=a:=by omega
  have e2:((b.toNat:Nat):Int)=b:=by omega
  rw[e1,e2]
 have e:(abu 10).length=45:=by decide
 omega
noncomputable def pl(p:Int×Int):List Int:=[p.1,p.2]
theorem Ws{p q:Int×Int}(h:pl p=pl q):p=q:=by
 obtain⟨a,b⟩:=p;obtain⟨c,d⟩:=q;unfold pl at h;simp at h;rw[h.1,h.2]
theorem Xe{a b:List Int}(h:HT.lexLt b a=false)(ne:a≠b):HT.lexLt a b=true:=by
 rw[HT.dU]at h⊢;have h1:¬b<a:=V4 h;have h2:a<=b:=List.not_lt.mp h1;refine fD ?_;rcases Classical.em (a<b)with h3|h3
 ·exact h3
 ·exact absurd (List.le_antisymm h2 (List.not_lt.mp h3)) ne
theorem KJ{n:Int}{p:Int×Int}(h0:0<=p.1)(h1:p.1<p.2)(h2:p.2<n):lH n (pairD p)=true:=by
 show((bW n (.int p.1)&&(bW n (.int p.2)&&true))&&jF [p.1,p.2]&&decide (([PyData.int p.1,PyData.int p.2]).length=2))=true;have e1:bW n (.int p.1)=true:=by
  show(decide (0<=p.1)&&decide (p.1<n))=true;rw[fD h0,fD (by omega)];rfl
 have e2:bW n (.int p.2)=true:=by
  show(decide (0<=p.2)&&decide (p.2<n))=true;rw[fD (by omega),fD h2];rfl
 have e3:jF [p.1,p.2]=true:=by
  show(decide (p.1<p.2)&&true)=true;rw[fD h1];rfl
 rw[e1,e2,e3];rfl
theorem VP{n:Int}{ts:L0}(hn0:0<=n)(hn1:n<=10)(h:eO n ts)(hs:ts.Pairwise fun p q=>HT.lexLt (pl q) (pl p)=false):iG (oO n ts)=true:=by
 show(true&&(decide (0<=n)&&decide (n<=10))&&((ts.map pairD).all (lH n)&&jE ((ts.map pairD).map fun t=>(kids t).map intD)))=true;have e1:(ts.map pairD).all (lH n)=true:=by
  rw[wgq,rJ];intro p hp;obtain⟨h0,h1,h2⟩:=h.lt p hp;exact KJ h0 h1 h2
 have e2:(ts.map pairD).map (fun t=>(kids t).map intD)=ts.map pl:=by rw[Yi];rfl
 have e3:jE (ts.map pl)=true:=by
  unfold jE;rw[rJ];intro k hk;have hk':k<ts.length-1:=by simpa using hk
  have g1:(ts.map pl).getD k []=pl ts[k]:=by rw[oK,dD,gj (by omega)];rfl
  have g2:(ts.map pl).getD (k+1) []=pl ts[k+1]:=by rw[oK,dD,gj (by omega)];rfl
  rw[g1,g2];refine Xe (Ue.mp hs k (k+1) (by omega) (by omega) (by omega)) fun e=> ?_;have:=(List.getElem_inj h.nd).mp (Ws e);omega
 rw[fD hn0,fD hn1,e1,e2,e3];rfl
noncomputable def bM(ts:L0)(i j:Int):Bool:=decide ((i,j)∈ts)||decide ((j,i)∈ts)
theorem tied_eq{n:Int}{ts:L0}(h:eO n ts)(i j:Int):bZ ts i j=bM ts i j:=by
 unfold bZ bM;have no:∀{a b:Int},b<=a->decide ((a,b)∈ts)=false:=fun{a b} hab=>iY fun hm=>by
  have:=(h.lt _ hm).2.1;dsimp only at this;omega
 rcases Int.lt_trichotomy i j with c|c|c
 ·rw[aq (show¬j<i by omega),aB (show j>i by omega),no (show i<=j by omega),Bool.or_false]
 ·subst c;rw[aq (show¬i<i by omega),Bool.or_self]
  try rw[aq (show¬i>i by omega)]
 ·rw[aB (show j<i by omega),aq (show¬j>i by omega),no (show j<=i by omega),whi]
end BJ
namespace Hs
open PySem L2 BJ
def pQ(p q:Int×Int):Prop:=p.1<q.1\/(p.1=q.1/\p.2<q.2)
theorem pQ.trans{p q r:Int×Int}(a:pQ p q)(b:pQ q r):pQ p r:=by
 unfold pQ at *;omega
theorem pQ.Y5{p:Int×Int}(a:pQ p p):False:=by
 unfold pQ at a;omega
theorem eq_of_sorted:∀{l m:L0},l.Pairwise pQ->m.Pairwise pQ->(∀p,p∈l↔p∈m)->l=m
 |[],[],_,_,_=>rfl
 |[],q::m,_,_,h=>absurd ((h q).mpr (dY ..)) (by simp)
 |p::l,[],_,_,h=>absurd ((h p).mp (dY ..)) (by simp)
 |p::l,q::m,hl,hm,h=>by
  rw[yel]at hl hm;have e:p=q:=by
   rcases cF.mp ((h p).mp (dY ..))with e|e
   ·exact e
   rcases cF.mp ((h q).mpr (dY ..))with e'|e'
   ·exact e'.symm
   exact(pQ.Y5 ((hl.1 _ e').trans (hm.1 _ e))).elim
  subst e;have:l=m:=eq_of_sorted hl.2 hm.2 (fun r=>by
   have hr:=h r;rw[cF,cF]at hr;constructor
   ·intro hi;rcases hr.mp (.inr hi)with e|e
    ·subst e;exact(pQ.Y5 (hl.1 _ hi)).elim
    ·exact e
   ·intro hi;rcases hr.mpr (.inr hi)with e|e
    ·subst e;exact(pQ.Y5 (hm.1 _ hi)).elim
    ·exact e)
  rw[this]
theorem R6{p q:Int×Int}(h:HT.lexLt (pl p) (pl q)=true):pQ p q:=by
 rw[HT.dU]at h;have:=sS h;unfold pl at this;rw[yea]at this;rcases this with a|⟨a,b⟩
 ·exact .inl a
 ·rw[yea]at b;rcases b with b|⟨_,b⟩
  ·exact .inr ⟨a,b⟩
  ·exact absurd b (by simp)
noncomputable def row(so:Int->Int->Bool)(i:Int)(k:Nat):L0:=((List.range k).map fun(t:Nat)=>(i,i+1+(t:Int))).filter fun p=>so p.1 p.2
noncomputable def rows(so:Int->Int->Bool)(m:Int)(i:Nat):L0:=((List.range i).map fun(t:Nat)=>row so (0+(t:Int)) (m-(0+(t:Int)+1)).toNat).flatten
theorem zx(so:Int->Int->Bool)(i:Int)(k:Nat):row so i (k+1)=row so i k++(if so i (i+1+(k:Int))=true then[(i,i+1+(k:Int))]else[]):=by
 unfold row;rw[Fw,bV,Uc];congr 1;show List.filter _ [(i,i+1+(k:Int))]=_;rw[Qq];rfl
theorem jY(so:Int->Int->Bool)(m:Int)(i:Nat):rows so m (i+1)=rows so m i++row so (0+(i:Int)) (m-(0+(i:Int)+1)).toNat:=by
 unfold rows;rw[Fw,bV,List.flatten_append];simp
theorem rR{so:Int->Int->Bool}{i:Int}{k:Nat}{p:Int×Int}:p∈row so i k↔p.1=i/\i<p.2/\p.2<i+1+(k:Int)/\so p.1 p.2=true:=by
 unfold row;rw[kI,kj];constructor
 ·rintro⟨⟨t,ht,rfl⟩,h⟩;rw[rH]at ht;exact⟨rfl,by show i<i+1+(t:Int);omega,by show i+1+(t:Int)<_;omega,h⟩
 ·rintro⟨h1,h2,h3,h4⟩;refine⟨⟨(p.2-i-1).toNat,by rw[rH];omega,?_⟩,h4⟩;apply Prod.ext
  ·exact h1.symm
  ·show i+1+(((p.2-i-1).toNat:Nat):Int)=p.2;omega
theorem eV{so:Int->Int->Bool}{m:Int}:∀{i:Nat} {p:Int×Int},p∈rows so m i↔0<=p.1/\p.1<(i:Int)/\p.1<p.2/\p.2<m/\so p.1 p.2=true
 |0,p=>by
  constructor
  ·intro h;simp[rows]at h
  ·intro h;omega
 |i+1,p=>by
  rw[jY,g8,eV (i:=i),rR];constructor
  ·rintro(h|h)
   ·exact⟨h.1,by omega,h.2.2⟩
   ·exact⟨by omega,by omega,by omega,by omega,h.2.2.2⟩
  ·rintro⟨h1,h2,h3,h4,h5⟩;by_cases e:p.1<(i:Int)
   ·exact .inl ⟨h1,e,h3,h4,h5⟩
   ·exact .inr ⟨by omega,by omega,by omega,h5⟩
theorem tZ(so:Int->Int->Bool)(i:Int)(k:Nat):(row so i k).Pairwise pQ:=by
 unfold row;refine List.Pairwise.filter _ ?_;rw[ZD];exact ydx.imp fun h=> .inr ⟨rfl,by show i+1+_<i+1+_;omega⟩
theorem Ye(so:Int->Int->Bool)(m:Int):∀i:Nat,(rows so m i).Pairwise pQ
 |0=>by unfold rows;exact List.Pairwise.nil
 |i+1=>by
  rw[jY,Yr];refine⟨Ye so m i,tZ so _ _,fun p hp q hq=> ?_⟩;rw[eV]at hp;rw[rR]at hq;exact .inl (by omega)
theorem Gx{so:Int->Int->Bool}{m:Int}{i:Nat}:eO m (rows so m i):=
 ⟨(Ye so m i).imp fun h e=>by subst e;exact pQ.Y5 h,fun p hp=>by rw[eV]at hp;exact⟨hp.1,hp.2.2.1,hp.2.2.2.1⟩⟩
theorem vO{l:L0}(h:l.Pairwise pQ):l.Nodup:=h.imp fun h e=>by subst e;exact pQ.Y5 h
end Hs
namespace L2
open PySem
theorem cU.get'{K:W.Frag}{H:Hp}:∀{xs:List V} {ds:List θ} {i:Nat},cU K H xs ds->i<ds.length->∃x d,xs[i]? =some x/\ds[i]? =some d/\DV K H x d
 |_,_,i,.nil,h=>by simp at h
 |_,_,0,.cons h _,_=>⟨_,_,rfl,rfl,h⟩
 |_,_,i+1,.cons _ t,h=>by
  obtain⟨x,d,h1,h2,h3⟩:=cU.get' (i:=i) t (by simpa using h);exact⟨x,d,by simpa using h1,by simpa using h2,h3⟩
end L2
namespace Hs
open PySem L2 BJ
structure cO(K:W.Frag)(H:Hp)(a:Addr)(n:Int)(ts:L0):Prop where
 web:iV K H a n ts
 h0:0<=n
 h1:n<=10
 pk:eO n ts
 ok:PX n ts
theorem cO.same{K:W.Frag}{H H':Hp}{a:Addr}{n:Int}{ts:L0}(h:cO K H a n ts)(e:Same H H'):cO K H' a n ts:=⟨h.web.same e,h.h0,h.h1,h.pk,h.ok⟩
theorem cO.zu{K:W.Frag}{H H':Hp}{t a:Addr}{zs:List V}{n:Int}{ts:L0}(h:cO K H a n ts)(e:aD t H H')(hn:H t=some (.lst zs)):cO K H' a n ts:=⟨h.web.zu e hn,h.h0,h.h1,h.pk,h.ok⟩
noncomputable def tt(_ _:Int):Bool:=true
theorem RX{p q:Int×Int}(h:pQ p q):HT.lexLt (pl q) (pl p)=false:=by
 rw[HT.dU];refine iY fun z=> ?_;have:pQ q p:=R6 (by rw[HT.dU];exact fD z);exact pQ.Y5 (h.trans this)
theorem lF{n:Int}{ts:L0}{i:Nat}(h0:0<=n)(h1:n<=10)(h:ts.Sublist (rows tt n i)):eO n ts/\PX n ts:=by
 have hs:ts.Pairwise pQ:=(Ye tt n i).sublist h;have ho:eO n ts:=⟨vO hs,fun p hp=>(Gx (so:=tt) (m:=n) (i:=i)).lt p (h.subset hp)⟩;exact⟨ho,VP h0 h1 ho (hs.imp RX)⟩
theorem wO{K:W.Frag}{H:Hp}{rs:List V}{ps:L0}{i:Nat}{x:V}(h:cU K H rs (ps.map pairD))(hx:rs[i]? =some x):∃(t:Addr) (hi:i<ps.length),x= .ref t/\SqT K H t [.int (ps[i]).1,.int (ps[i]).2]:=by
 have hlen:=h.len;rw[aJ]at hlen;have hi:i<ps.length:=by rw[<-hlen];exact(m6.mp hx).1
 obtain⟨x',d,e1,e2,e3⟩:=cU.get' (i:=i) h (by rw[aJ];exact hi);rw[hx]at e1;cases e1;rw[dD,gj hi]at e2;cases e2;cases e3 with
 |tup hp tp=>
  cases tp with
  |cons ta tb=>
   cases tb with
   |cons tc td=>
    cases td;cases ta;cases tc;exact⟨_,hi,rfl,hp⟩
noncomputable def gP(K:W.Frag)(H:Hp)(l:Addr)(R:L0)(P:Int×Int->Prop):Prop:=∃(rs:List V) (ts:L0),H l=some (.lst rs)/\cU K H rs (ts.map pairD)/\ts.Sublist R/\∀p∈ts,P p
theorem gP.nil{K:W.Frag}{H:Hp}{l:Addr}{R:L0}{P:Int×Int->Prop}(h:H l=some (.lst [])):gP K H l R P:=⟨[],[],h,.nil,List.nil_sublist _,fun p hp=>(nomatch hp)⟩
theorem gP.step{K:W.Frag}{H H':Hp}{l c:Addr}{R:L0}{P:Int×Int->Prop}{zs:List V}(h:gP K H l R P)(e:aD c H H')(hc:H c=some (.lst zs))(n:l≠c):gP K H' l R P:=by
 obtain⟨rs,ts,h1,h2,h3⟩:=h;exact⟨rs,ts,e _ _ n h1,gJ e hc h2,h3⟩
theorem gP.mono{K:W.Frag}{H:Hp}{l:Addr}{R R':L0}{P:Int×Int->Prop}(h:gP K H l R P)(e:R.Sublist R'):gP K H l R' P:=by
 obtain⟨rs,ts,h1,h2,h3,h4⟩:=h;exact⟨rs,ts,h1,h2,h3.trans e,h4⟩
theorem gP.push{K:W.Frag}{H:Hp}{l p:Addr}{R:L0}{P:Int×Int->Prop}{i j:Int}{rs:List V}{ts:L0}(h1:H l=some (.lst rs))(h2:cU K H rs (ts.map pairD))(h3:ts.Sublist R)(h4:∀p∈ts,P p)(hp:SqT K H p [.int i,.int j])(hP:P (i,j)):gP K (upd H l (.lst (rs++[.ref p]))) l (R++[(i,j)]) P:=by
 have x:aD l H (upd H l (.lst (rs++[.ref p]))):=(aD.refl _ _).upd;refine⟨_,ts++[(i,j)],aH,?_,h3.append (YG _),fun q hq=> ?_⟩
 ·rw[bV];exact(gJ x h1 h2).append (.cons (.tup (x.tup h1 hp) (.cons (.int _) (.cons (.int _) .nil))) .nil)
 ·rcases g8.mp hq with q'|q'
  ·exact h4 q q'
  ·rw[fL.mp q'];exact hP
theorem sub_len{n:Int}{ts:L0}{i k:Nat}(h1:n<=10)(hk:0+(i:Int)+1+(k:Int)<=n)(h:ts.Sublist (rows tt n i++row tt (0+(i:Int)) k)):ts.length<=45:=by
 refine pairs_len (n:=n) ⟨?_,fun p hp=> ?_⟩ h1
 ·refine vO (List.Pairwise.sublist h ?_);rw[Yr];refine⟨Ye _ _ _,tZ _ _ _,fun p hp q hq=> ?_⟩;rw[eV]at hp;rw[rR]at hq;exact .inl (by omega)
 ·rcases g8.mp (h.subset hp)with q|q
  ·rw[eV]at q;exact⟨q.1,q.2.2.1,q.2.2.2.1⟩
  ·rw[rR]at q;exact⟨by omega,by omega,by omega⟩
theorem qN{so:Int->Int->Bool}{m:Int}{i:Nat}:(rows tt m i).filter (fun p=>so p.1 p.2)=rows so m i:=by
 refine eq_of_sorted ((Ye _ _ _).filter _) (Ye _ _ _) fun p=> ?_;rw[kI,eV,eV];constructor
 ·rintro⟨⟨a,b,c,d,_⟩,e⟩;exact⟨a,b,c,d,e⟩
 ·rintro⟨a,b,c,d,e⟩;exact⟨⟨a,b,c,d,rfl⟩,e⟩
section
variable{P:ρ}{w:υ}{K:W.Frag}{mg:L4}{base:Heap}
structure ab5(K:W.Frag)(H:Hp)(l:Addr)(ps:L0):Prop where
 ex:∃rs,H l=some (.lst rs)/\cU K H rs (ps.map pairD)
def CQ(K:W.Frag):Sp:=fun vs H Q _=>∃(n:Int),vs=[.int n]/\0<=n/\n<=10/\∀l H',Same H H'->ab5 K H' l (rows tt n n.toNat)->Q (.ref l) H'
theorem RP{f:Addr}{fd:τ}(F:Fun K "pairs" "pairs" rQ f fd)(mR:mg "range"=none):FnOk P w K mg base CX0 1 f fd ["n"] (CQ K):=by
 refine F.dM ["n","found","one"] fun cdv A outer s H vs Q E hr h=> ?_;obtain⟨n,rfl,hn0,hn1,q⟩:=h;refine bf ?_;intro Y;refine⟨_,aP (pS 1 (lE aA)) (aP (u6 rM rfl (Fp rfl mR (aj (pv 0) aA)) (pG 2) (bw (sH (pe_bm HY wfl wfm mt_extend (pv 1) (aj
    (pK ["other"] ["one"] [2] (pi_range2 rfl mR (aj (bJ uU (pv 2) aQ) (aj (pv 0) aA))) (pG 0) qG (oF (aj (pv 1) (aj (pv 0) aA)))) aA))))) (bw (cT (pv 1)))),?_⟩
 refine jd ?_;intro c3 c2;refine⟨(by show 0<=sizeLine;decide),fun l hl=> ?_⟩;refine⟨_,rfl,n,rfl,by omega,by omega,?_⟩;let gq:Nat->St->Hp->Prop:=fun i σ H'=>Same H H'/\(∃rs,H' l=some (.lst rs)/\cU K H' rs ((rows tt n i).map pairD))/\∃o,σ=[some (.int n),some (.ref l),o];refine Qn (n:=n.toNat) gq ⟨aO hl _,⟨[],aH,.nil⟩,_,rfl⟩ (fun i σ H' hi p=> ?_) (fun σ H' p=> ?_)
 ·obtain⟨sm,⟨rs,hr1,hr2⟩,o,rfl⟩:=p;have hlen:=hr2.len;rw[aJ]at hlen;have h45:=pairs_len (Gx (so:=tt) (m:=n) (i:=i)) hn1;refine⟨_,rfl,.inl ⟨rfl,_,SqL.of hr1⟩,_,rfl,_,_,rfl,rfl,_,rfl,_,_,rfl,⟨by omega,by omega,by omega,by omega⟩,?_⟩;let qe:Nat->List V->St->Hp->Prop:=fun k acc σ H2=>Same H' H2/\acc.length=k/\cU K H2 acc ((row tt (0+(i:Int)) k).map pairD)/\∃o1,σ=[o1,some (.int (0+(i:Int)))];refine T5 (n:=(n-(0+(i:Int)+1)).toNat) qe ⟨Same.refl _,rfl,.nil,_,rfl⟩ (fun k acc σ H2 hk p=>by rw[p.2.1];exact aN _) (by rw[eE];omega) (fun k acc σ H2 hk p=> ?_) (fun acc σ H2 p=> ?_)
  ·obtain⟨s2,hl2,hd,o1,rfl⟩:=p;refine⟨_,rfl,_,rfl,(by show 2<=sizeLine;decide),fun p hp=> ?_⟩;have s3:=aO hp (.tup [.int (0+(i:Int)),.int (0+(i:Int)+1+(k:Int))]);refine⟨s2.trans s3,by rw[gB,hl2];rfl,?_,_,rfl⟩;rw[zx,bV,aB (show tt (0+(i:Int)) (0+(i:Int)+1+(k:Int))=true from rfl)];exact(hd.same s3).append (.cons (.tup (SqT.of aH) (.cons (.int _) (.cons (.int _) .nil))) .nil)
  ·intro p1 hp1;obtain⟨s2,hl2,hd,_⟩:=p;have s3:=aO hp1 (.lst acc);have hr3:=s3 _ _ (s2 _ _ hr1);refine⟨l,p1,rs,acc,rfl,rfl,hr3,aH,?_,?_⟩
   ·rw[eE];omega
   ·have x4:aD l (upd H2 p1 (.lst acc)) (upd (upd H2 p1 (.lst acc)) l (.lst (rs++acc))):=(aD.refl _ _).upd;refine⟨?_,⟨_,aH,?_⟩,_,rfl⟩
    ·intro b o hb;have nb:b≠l:=fun e=>by rw[e,hl]at hb;cases hb
     exact x4 _ _ nb (s3 _ _ (s2 _ _ (sm _ _ hb)))
    ·rw[jY];exact gJ x4 hr3 (by rw[bV];exact((hr2.same s2).same s3).append (hd.same s3))
 ·obtain⟨sm,⟨rs,hr1,hr2⟩,o,rfl⟩:=p;exact⟨_,rfl,q l _ sm ⟨rs,hr1,hr2⟩⟩
theorem Bj{so:Int×Int->Bool}{ps:L0}{i:Nat}(hi:i<ps.length):(ps.take (i+1)).filter so=(ps.take i).filter so++(if so ps[i]=true then[ps[i]]else[]):=by
 rw[rK,gj hi,Uc];congr 1;show List.filter so [ps[i]]=_;rw[Qq];rfl
end
end Hs
namespace Hs
def ff:Nat->Nat
 |0=>1
 |1=>1
 |2=>2
 |3=>3
 |4=>4
 |5=>6
 |6=>9
 |7=>12
 |8=>18
 |9=>27
 |_=>36
theorem xR:∀m n:Nat,m<=n->n<=10->ff m<=ff n:=by
 have h:∀n:Fin 11,∀m:Fin 11,m.val<=n.val->ff m.val<=ff n.val:=by decide
 intro m n hm hn;exact h ⟨n,by omega⟩ ⟨m,by omega⟩ hm
theorem Tr:∀n d:Nat,0<d->d<=n->n<=10->d*ff (n-d)<=ff n:=by
 have h:∀n:Fin 11,∀d:Fin 11,0<d.val->d.val<=n.val->d.val*ff (n.val-d.val)<=ff n.val:=by decide
 intro n d h0 hd hn;exact h ⟨n,by omega⟩ ⟨d,by omega⟩ h0 hd
structure Full(r:Int->Int->Bool)(V:List Int)(s:List Int):Prop where
 up:s.Pairwise (· < ·)
 sub:∀x∈s,x∈V
 ind:∀x∈s,∀y∈s,x≠y->r x y=false
 max:∀v∈V,v∉s->∃x∈s,r x v=true
theorem zY(g:Int->Nat):∀V:List Int,V≠[]->∃v∈V,∀u∈V,g v<=g u
 |[],h=>absurd rfl h
 |[x],_=>⟨x,by simp,fun u hu=>by rw[fL.mp hu];exact aN _⟩
 |x::y::V,_=>by
  obtain⟨v,hv,hm⟩:=zY g (y::V) (by simp);by_cases c:g x<=g v
  ·refine⟨x,by simp,fun u hu=> ?_⟩;rcases cF.mp hu with e|e
   ·rw[e];exact aN _
   ·exact dO c (hm u e)
  ·refine⟨v,dZ _ hv,fun u hu=> ?_⟩;rcases cF.mp hu with e|e
   ·rw[e];omega
   ·exact hm u e
theorem mD{α:Type}(p:α->Bool):∀l:List α,(l.filter p).length+(l.filter fun x=> !p x).length=l.length
 |[]=>rfl
 |x::l=>by
  have ih:=mD p l;rw[Qq,Qq];cases p x<;>simp <;>omega
theorem vZ{α β:Type}(p:β->α->Bool)(m:Nat):∀(us:List β) (fs:List α),(∀s∈fs,∃u∈us,p u s=true)->(∀u∈us,∀gs:List α,gs.Sublist fs->(∀s∈gs,p u s=true)->gs.length<=m)->fs.length<=us.length*m
 |[],fs,h,_=>by
  cases fs with
  |nil=>simp
  |cons s fs=>obtain⟨u,hu,_⟩:=h s (by simp);cases hu
 |u::us,fs,h,hm=>by
  have e:=mD (p u) fs;have a:=hm u (by simp) (fs.filter (p u)) ZJ (fun s hs=>(kI.mp hs).2);have b:=vZ p m us (fs.filter fun x=> !p u x) (fun s hs=>by
   obtain⟨h1,h2⟩:=kI.mp hs;obtain⟨w,hw,hp⟩:=h s h1;rcases cF.mp hw with z|z
   ·rw[z]at hp;rw[hp]at h2;cases h2
   ·exact⟨w,z,hp⟩) (fun w hw gs hg hp=>hm w (dZ _ hw) gs (hg.trans ZJ) hp)
  rw[uW,Nat.succ_mul];omega
theorem FQ:∀{xs ys:List Int},xs.Pairwise (· < ·)->ys.Pairwise (· < ·)->(∀k,k∈xs↔k∈ys)->xs=ys
 |[],[],_,_,_=>rfl
 |[],y::ys,_,_,h=>by have:=(h y).mpr (by simp);simp at this
 |x::xs,[],_,_,h=>by have:=(h x).mp (by simp);simp at this
 |x::xs,y::ys,hx,hy,h=>by
  rw[yel]at hx hy;have e:x=y:=by
   have a:=(h x).mp (by simp);have b:=(h y).mpr (by simp);rcases cF.mp a with a|a
   ·exact a
   ·rcases cF.mp b with b|b
    ·exact b.symm
    ·have:=hy.1 x a;have:=hx.1 y b;omega
  subst e;rw[FQ hx.2 hy.2 fun k=> ?_];constructor
  ·intro hk;rcases cF.mp ((h k).mp (dZ _ hk))with a|a
   ·have:=hx.1 k hk;omega
   ·exact a
  ·intro hk;rcases cF.mp ((h k).mpr (dZ _ hk))with a|a
   ·have:=hy.1 k hk;omega
   ·exact a
theorem pF{α β:Type}{g:α->β}:∀{l:List α},l.Nodup->(∀a∈l,∀b∈l,g a=g b->a=b)->(l.map g).Nodup
 |[],_,_=>List.nodup_nil
 |a::l,h,hi=>by
  rw[Km]at h;rw[Ca,Km];refine⟨fun hm=> ?_,pF h.2 fun x hx y hy=>hi x (dZ _ hx) y (dZ _ hy)⟩;obtain⟨b,hb,e⟩:=kj.mp hm;have:=hi b (dZ _ hb) a (by simp) e;rw[this]at hb;exact h.1 hb
def bO(r:Int->Int->Bool)(v u:Int):Bool:=decide (u=v)||r u v
theorem Eb{r:Int->Int->Bool}(sym:∀i j,r i j=r j i):∀(n:Nat) (V:List Int),V.length=n->n<=10->∀fs:List (List Int),fs.Nodup->(∀s∈fs,Full r V s)->fs.length<=ff n:=by
 intro n
 induction n using Nat.strongRecOn with
 |ind n ih=>
  intro V hV hn fs nd hf;by_cases hz:V=[]
  ·have e:∀s∈fs,s=[]:=fun s hs=>by
    cases s with
    |nil=>rfl
    |cons x s=>have:=(hf _ hs).sub x (by simp);rw[hz]at this;cases this
   have l1:fs.length<=1:=by
    match fs,nd,e with
    |[],_,_=>simp
    |[_],_,_=>simp
    |a::b::fs,nd,e=>
     exfalso;rw[Km]at nd;apply nd.1;rw[e a (by simp),e b (by simp)];simp
   have:1<=ff n:=by
    have:=xR 0 n (dB _) hn;exact this
   omega
  obtain⟨v,hv,hmin⟩:=zY (fun u=>(V.filter (bO r u)).length) V hz;have key:=vZ (fun(u:Int) (s:List Int)=>decide (u∈s)) (ff (n-(V.filter (bO r v)).length)) (V.filter (bO r v)) fs (fun s hs=> ?_) (fun u hu gs hg hp=> ?_)
  ·have hle:(V.filter (bO r v)).length<=n:=by rw[<-hV];exact wk _ _
   have hpos:0<(V.filter (bO r v)).length:=Yu (kI.mpr ⟨hv,by unfold bO;simp⟩);exact dO key (Tr n _ hpos hle hn)
  ·by_cases c:v∈s
   ·exact⟨v,kI.mpr ⟨hv,by unfold bO;simp⟩,fD c⟩
   ·obtain⟨x,hx,hr⟩:=(hf s hs).max v hv c;exact⟨x,kI.mpr ⟨(hf s hs).sub x hx,by unfold bO;rw[hr];simp⟩,fD hx⟩
  ·have huV:u∈V:=(kI.mp hu).1;have fg:∀s∈gs,Full r V s/\u∈s:=fun s hs=>⟨hf s (hg.subset hs),sS (hp s hs)⟩;have hle:(V.filter (bO r u)).length<=n:=by rw[<-hV];exact wk _ _
   have hge:=hmin u huV;have hpos:0<(V.filter (bO r u)).length:=Yu (kI.mpr ⟨huV,by unfold bO;simp⟩);have hV2:(V.filter fun x=> !bO r u x).length=n-(V.filter (bO r u)).length:=by have:=mD (bO r u) V;omega
   have Dz:∀(s:List Int) (x:Int),x∈s.filter (fun x=> !decide (x=u))↔x∈s/\x≠u:=fun s x=>by rw[kI];simp
   have h1:=ih (n-(V.filter (bO r u)).length) (by omega) (V.filter fun x=> !bO r u x) hV2 (by omega) (gs.map fun s=>s.filter fun x=> !decide (x=u)) (pF (nd.sublist hg) fun s hs t ht e=> ?_) (fun t ht=> ?_)
   ·rw[aJ]at h1;exact dO h1 (xR _ _ (by omega) (by omega))
   ·obtain⟨a1,a2⟩:=fg s hs;obtain⟨b1,b2⟩:=fg t ht;refine FQ a1.up b1.up fun k=> ?_;have hk:k∈s.filter (fun x=> !decide (x=u))↔k∈t.filter (fun x=> !decide (x=u)):=by rw[show s.filter (fun x=> !decide (x=u))=t.filter (fun x=> !decide (x=u))from e]
    rw[Dz,Dz]at hk;by_cases c:k=u
    ·rw[c];exact⟨fun _=>b2,fun _=>a2⟩
    ·exact⟨fun z=>(hk.mp ⟨z,c⟩).1,fun z=>(hk.mpr ⟨z,c⟩).1⟩
   ·obtain⟨s,hs,rfl⟩:=kj.mp ht;obtain⟨a1,a2⟩:=fg s hs;refine⟨a1.up.sublist ZJ,fun x hx=> ?_,fun x hx y hy=> ?_,fun w hw hn=> ?_⟩
    ·obtain⟨x1,x2⟩:=(Dz s x).mp hx;refine kI.mpr ⟨a1.sub x x1,?_⟩;unfold bO;rw[a1.ind x x1 u a2 x2,iY x2];rfl
    ·exact a1.ind x ((Dz s x).mp hx).1 y ((Dz s y).mp hy).1
    ·obtain⟨w1,w2⟩:=kI.mp hw;have w3:bO r u w=false:=by simpa using w2
     unfold bO at w3;rw[Bool.or_eq_false_iff]at w3;have wu:w≠u:=V4 w3.1;have ws:w∉s:=fun z=>hn ((Dz s w).mpr ⟨z,wu⟩);obtain⟨x,hx,hr⟩:=a1.max w w1 ws;have xu:x≠u:=fun z=>by rw[z,sym u w,w3.2]at hr;cases hr
     exact⟨x,(Dz s x).mpr ⟨hx,xu⟩,hr⟩
end Hs
namespace Hs
open PySem BJ
noncomputable def rng(n:Nat):List Int:=(List.range n).map fun k=>((k:Nat):Int)
theorem gO{n:Nat}{x:Int}:x∈rng n↔0<=x/\x<(n:Int):=by
 unfold rng;rw[kj];constructor
 ·rintro⟨k,hk,rfl⟩;have:=rH.mp hk;omega
 ·rintro⟨h0,h1⟩;exact⟨x.toNat,rH.mpr (by omega),by omega⟩
theorem QG(ts:L0)(i j:Int):bM ts i j=bM ts j i:=by unfold bM;rw[Bool.or_comm]
noncomputable def goB(ts:L0)(w:Bool)(s:List Int)(p:Int):Bool:=s.all fun q=>bM ts p q==w
noncomputable def bK(ts:L0)(w:Bool):Nat->List (List Int)
 |0=>[[]]
 |k+1=>bK ts w k++((bK ts w k).filter fun s=>goB ts w s (k:Int)).map fun s=>s++[(k:Int)]
def nR(ts:L0)(w:Bool)(n:Nat)(s:List Int):Bool:= !((rng n).any fun p=> !decide (p∈s)&&goB ts w s p)
def jN(ts:L0)(w:Bool)(n:Nat):List (List Int):=(bK ts w n).filter (nR ts w n)
structure yd(ts:L0)(w:Bool)(k:Nat)(s:List Int):Prop where
 up:s.Pairwise (· < ·)
 lt:∀x∈s,0<=x/\x<(k:Int)
 all:∀x∈s,∀y∈s,x≠y->(bM ts x y==w)=true
theorem oW{ts:L0}{w:Bool}:∀(k:Nat) (s:List Int),s∈bK ts w k->yd ts w k s
 |0,s,h=>by
  rw[fL.mp (show s∈[[]]from h)];exact⟨List.Pairwise.nil,fun x hx=>(nomatch hx),fun x hx=>(nomatch hx)⟩
 |k+1,s,h=>by
  rcases g8.mp (show s∈bK ts w k++((bK ts w k).filter fun s=>goB ts w s (k:Int)).map fun s=>s++[(k:Int)]from h)with q|q
  ·have S:=oW k s q;exact⟨S.up,fun x hx=>by have:=S.lt x hx;omega,S.all⟩
  ·obtain⟨t,ht,rfl⟩:=kj.mp q;obtain⟨t1,t2⟩:=kI.mp ht;have S:=oW k t t1;have g:∀y∈t,(bM ts (k:Int) y==w)=true:=fun y hy=>rJ.mp t2 y hy;refine⟨?_,fun x hx=> ?_,fun x hx y hy hne=> ?_⟩
   ·rw[Yr];refine⟨S.up,ZR _ _,fun x hx y hy=> ?_⟩;rw[fL.mp hy];exact(S.lt x hx).2
   ·rcases g8.mp hx with z|z
    ·have:=S.lt x z;omega
    ·rw[fL.mp z];omega
   ·rcases g8.mp hx with z|z
    ·rcases g8.mp hy with z'|z'
     ·exact S.all x z y z' hne
     ·rw[fL.mp z',QG];exact g x z
    ·rw[fL.mp z]at hne⊢;rcases g8.mp hy with z'|z'
     ·exact g y z'
     ·exact absurd (fL.mp z').symm hne
theorem lK{ts:L0}{w:Bool}:∀k:Nat,(bK ts w k).Nodup
 |0=>by show([[]]:List (List Int)).Nodup;simp
 |k+1=>by
  show(bK ts w k++((bK ts w k).filter fun s=>goB ts w s (k:Int)).map fun s=>s++[(k:Int)]).Nodup;refine List.nodup_append.mpr ⟨lK k,pF ((lK k).filter _) (fun a _ b _ e=>wfn e),fun a ha b hb e=> ?_⟩;obtain⟨t,_,rfl⟩:=kj.mp hb;have:=(oW k a ha).lt (k:Int) (by rw[e];simp);omega
theorem zm{ts:L0}{w:Bool}:∀k:Nat,(bK ts w k).length<=2^k
 |0=>aN _
 |k+1=>by
  show(bK ts w k++((bK ts w k).filter fun s=>goB ts w s (k:Int)).map fun s=>s++[(k:Int)]).length<=2^(k+1);rw[gB,aJ,wgp];have a:=zm (ts:=ts) (w:=w) k;have b:=wk (fun s=>goB ts w s (k:Int)) (bK ts w k);omega
theorem Hg{ts:L0}{w:Bool}{n:Nat}{s:List Int}(h:s∈jN ts w n):Full (fun i j=> !(bM ts i j==w)) (rng n) s:=by
 obtain⟨h1,h2⟩:=kI.mp h;have S:=oW n s h1;refine⟨S.up,fun x hx=>gO.mpr (S.lt x hx),fun x hx y hy hne=>by rw[S.all x hx y hy hne];rfl,fun v hv hn=> ?_⟩;unfold nR at h2;apply QX;intro hc;have h3:((rng n).any fun p=> !decide (p∈s)&&goB ts w s p)=false:=by simpa using h2
 rw[Yp]at h3;apply h3 v hv;rw[iY hn];show goB ts w s v=true;unfold goB;rw[rJ];intro q hq;cases e:(bM ts v q==w)with
 |true=>rfl
 |false=>exact absurd ⟨q,hq,by show(!(bM ts q v==w))=true;rw[QG,e];rfl⟩ hc
theorem vY{ts:L0}{w:Bool}{n:Nat}(hn:n<=10):(jN ts w n).length<=36:=by
 have h:=Eb (r:=fun i j=> !(bM ts i j==w)) (fun i j=>by rw[QG]) n (rng n) (by unfold rng;simp) hn (jN ts w n) ((lK n).filter _) (fun s hs=>Hg hs);have:=xR n 10 hn (aN _);exact dO h this
def jc(ts:L0)(w:Bool)(n:Nat)(s:List Int):List Int:=(rng n).filter fun p=>s.all fun q=> !decide (p=q)&&(bM ts q p==w)
def nT(ts:L0)(w:Bool)(n:Nat)(q:Int):List Int:=(rng n).filter fun p=> !decide (p=q)&&(bM ts q p==w)
theorem Nm(ts:L0)(w:Bool)(n:Nat):jc ts w n []=rng n:=by unfold jc;exact List.filter_eq_self.mpr fun _ _=>rfl
theorem Jp(ts:L0)(w:Bool)(n:Nat)(s:List Int)(k:Int):jc ts w n (s++[k])=(jc ts w n s).filter fun p=>decide (p∈nT ts w n k):=by
 unfold jc;rw[List.filter_filter];refine List.filter_congr fun p hp=> ?_;rw[List.all_append,Bool.and_comm];congr 1;unfold nT;rw[wA,HX,kI];simp[hp]
theorem Sy{ts:L0}{w:Bool}{n k:Nat}{s:List Int}(hs:yd ts w k s)(hk:k<n):decide ((k:Int)∈jc ts w n s)=goB ts w s (k:Int):=by
 unfold jc goB;rw[wA,HX,kI,rJ,rJ];constructor
 ·rintro⟨_,h⟩ q hq;have:=h q hq;rw[yL]at this;rw[QG];exact this.2
 ·intro h;refine⟨gO.mpr ⟨by omega,by omega⟩,fun q hq=> ?_⟩;have:=(hs.lt q hq).2;rw[yL];refine⟨?_,by rw[QG];exact h q hq⟩;rw[iY (by omega)];rfl
theorem Jq(ts:L0)(w:Bool)(n:Nat)(s:List Int):decide (jc ts w n s=[])=nR ts w n s:=by
 unfold jc nR;rw[wA,HX,ydy,YJ,Yp];constructor
 ·intro h p hp hc;rw[yL]at hc;apply h p hp;rw[rJ];intro q hq;have h1:p∉s:=by simpa using hc.1
  have h2:=rJ.mp hc.2 q hq;rw[yL];refine⟨?_,by rw[QG];exact h2⟩;have ne:¬p=q:=fun e=>h1 (by rw[e];exact hq);rw[iY ne];rfl
 ·intro h p hp hc;apply h p hp;rw[rJ]at hc;rw[yL];refine⟨?_,?_⟩
  ·have:p∉s:=fun z=>by
    have:=hc p z;simp at this
   rw[iY this];rfl
  ·unfold goB;rw[rJ];intro q hq;have:=hc q hq;rw[yL]at this;rw[QG];exact this.2
theorem jD:∀{xs ys:List Int},xs.Pairwise (· < ·)->ys.Pairwise (· < ·)->(∀k,k∈xs↔k∈ys)->xs=ys
 |[],[],_,_,_=>rfl
 |[],y::ys,_,_,h=>by have:=(h y).mpr (by simp);simp at this
 |x::xs,[],_,_,h=>by have:=(h x).mp (by simp);simp at this
 |x::xs,y::ys,hx,hy,h=>by
  rw[yel]at hx hy;have e:x=y:=by
   have a:=(h x).mp (by simp);have b:=(h y).mpr (by simp);rcases cF.mp a with a|a
   ·exact a
   ·rcases cF.mp b with b|b
    ·exact b.symm
    ·have:=hy.1 x a;have:=hx.1 y b;omega
  subst e;rw[jD hx.2 hy.2 fun k=> ?_];constructor
  ·intro hk;rcases cF.mp ((h k).mp (dZ _ hk))with a|a
   ·have:=hx.1 k hk;omega
   ·exact a
  ·intro hk;rcases cF.mp ((h k).mpr (dZ _ hk))with a|a
   ·have:=hy.1 k hk;omega
   ·exact a
theorem m9{ts:L0}{w:Bool}:∀(k:Nat) (s:List Int),yd ts w k s->s∈bK ts w k
 |0,s,h=>by
  cases s with
  |nil=>show([]:List Int)∈[[]];simp
  |cons x s=>have:=h.lt x (by simp);omega
 |k+1,s,h=>by
  show s∈bK ts w k++((bK ts w k).filter fun s=>goB ts w s (k:Int)).map fun s=>s++[(k:Int)];by_cases c:(k:Int)∈s
  ·have hm:∀x,x∈s.filter (fun x=> !decide (x=(k:Int)))↔x∈s/\x≠(k:Int):=fun x=>by rw[kI];simp
   refine jr _ (kj.mpr ⟨s.filter (fun x=> !decide (x=(k:Int))),kI.mpr ⟨m9 k _ ⟨h.up.filter _,fun x hx=> ?_,fun x hx y hy hne=> ?_⟩,?_⟩,?_⟩)
   ·have a:=(hm x).mp hx;have b:=h.lt x a.1;have:=a.2;omega
   ·exact h.all x ((hm x).mp hx).1 y ((hm y).mp hy).1 hne
   ·unfold goB;rw[rJ];intro q hq;have a:=(hm q).mp hq;exact h.all _ c q a.1 (fun e=>a.2 e.symm)
   ·refine jD ?_ h.up fun x=> ?_
    ·rw[Yr];refine⟨h.up.filter _,ZR _ _,fun x hx y hy=> ?_⟩;rw[fL.mp hy];have a:=(hm x).mp hx;have b:=h.lt x a.1;have:=a.2;omega
    ·rw[g8,hm,fL];constructor
     ·rintro(a|a)
      ·exact a.1
      ·rw[a];exact c
     ·intro a;by_cases e:x=(k:Int)
      ·exact .inr e
      ·exact .inl ⟨a,e⟩
  ·refine Qs _ (m9 k s ⟨h.up,fun x hx=> ?_,h.all⟩);have b:=h.lt x hx;have:x≠(k:Int):=fun e=>c (by rw[<-e];exact hx);omega
theorem yd.of{ts:L0}{w:Bool}{n:Nat}{s:List Int}(F:Full (fun i j=> !(bM ts i j==w)) (rng n) s):yd ts w n s:=
 ⟨F.up,fun x hx=>gO.mp (F.sub x hx),fun x hx y hy hne=>by
  have:=F.ind x hx y hy hne
  try dsimp only at this
  cases e:(bM ts x y==w)with
  |true=>rfl
  |false=>rw[e]at this;cases this⟩
theorem Tn{ts:L0}{w:Bool}{n:Nat}{s:List Int}(F:Full (fun i j=> !(bM ts i j==w)) (rng n) s):s∈jN ts w n:=by
 refine kI.mpr ⟨m9 n s (yd.of F),?_⟩;unfold nR;rw[YJ,Yp];intro p hp hc;rw[yL]at hc;have hn:p∉s:=by simpa using hc.1
 obtain⟨x,hx,hr⟩:=F.max p hp hn;have:=rJ.mp hc.2 x hx
 try dsimp only at hr this
 rw[QG,this]at hr;cases hr
theorem GR{α:Type}(g:α->Nat):∀V:List α,V≠[]->∃v∈V,∀u∈V,g u<=g v
 |[],h=>absurd rfl h
 |[x],_=>⟨x,by simp,fun u hu=>by rw[fL.mp hu];exact aN _⟩
 |x::y::V,_=>by
  obtain⟨v,hv,hm⟩:=GR g (y::V) (by simp);by_cases c:g v<=g x
  ·refine⟨x,by simp,fun u hu=> ?_⟩;rcases cF.mp hu with e|e
   ·rw[e];exact aN _
   ·exact dO (hm u e) c
  ·refine⟨v,dZ _ hv,fun u hu=> ?_⟩;rcases cF.mp hu with e|e
   ·rw[e];omega
   ·exact hm u e
theorem Pa{ts:L0}{w:Bool}{n:Nat}{s:List Int}(hs:yd ts w n s):∃t∈jN ts w n,∀x∈s,x∈t:=by
 let C:=(bK ts w n).filter fun t=>s.all fun x=>decide (x∈t);have mC:∀t,t∈C↔t∈bK ts w n/\∀x∈s,x∈t:=fun t=>by
  show t∈(bK ts w n).filter _↔_;rw[kI,rJ];simp
 have hne:C≠[]:=fun e=>by
  have:s∈C:=(mC s).mpr ⟨m9 n s hs,fun x hx=>hx⟩;rw[e]at this;cases this
 obtain⟨t,ht,hm⟩:=GR List.length C hne;obtain⟨h1,h2⟩:=(mC t).mp ht;have T:=oW n t h1;refine⟨t,Tn ⟨T.up,fun x hx=>gO.mpr (T.lt x hx),fun x hx y hy hne=> ?_,fun v hv hn=> ?_⟩,h2⟩
 ·show(!(bM ts x y==w))=false;rw[T.all x hx y hy hne];rfl
 ·apply QX;intro hc;have go:∀x∈t,(bM ts x v==w)=true:=fun x hx=>by
   cases e:(bM ts x v==w)with
   |true=>rfl
   |false=>exact absurd ⟨x,hx,by show(!(bM ts x v==w))=true;rw[e];rfl⟩ hc
  have mU:∀x,x∈(rng n).filter (fun x=>decide (x∈t)||decide (x=v))↔x∈t\/x=v:=fun x=>by
   rw[kI,wei,HX,HX];constructor
   ·exact fun z=>z.2
   ·rintro(z|z)
    ·exact⟨gO.mpr (T.lt x z),.inl z⟩
    ·exact⟨by rw[z];exact hv,.inr z⟩
  have up:((rng n).filter (fun x=>decide (x∈t)||decide (x=v))).Pairwise (· < ·):=by
   refine List.Pairwise.filter _ ?_;unfold rng;rw[ZD];exact ydx.imp fun{a b} h=>by omega
  have U:yd ts w n ((rng n).filter (fun x=>decide (x∈t)||decide (x=v))):=⟨up,fun x hx=>gO.mp (kI.mp hx).1,fun x hx y hy hne=>by
   rcases(mU x).mp hx with a|a
   ·rcases(mU y).mp hy with b|b
    ·exact T.all x a y b hne
    ·rw[b];exact go x a
   ·rcases(mU y).mp hy with b|b
    ·rw[a,QG];exact go y b
    ·exact absurd (a.trans b.symm) hne⟩
  have inC:=(mC _).mpr ⟨m9 n _ U,fun x hx=>(mU x).mpr (.inl (h2 x hx))⟩;have l1:=hm _ inC;have l2:=j5 (l:=v::t) (m:=(rng n).filter (fun x=>decide (x∈t)||decide (x=v))) (Km.mpr ⟨hn,T.up.imp fun{a b} h=>by omega⟩) (fun x hx=>by
   rcases cF.mp hx with z|z
   ·exact(mU x).mpr (.inr z)
   ·exact(mU x).mpr (.inl z))
  rw[uW]at l2;omega
end Hs
namespace Hs
open PySem L2 BJ
section
variable{P:ρ}{w:υ}{K:W.Frag}{mg:L4}{base:Heap}
theorem blV_eq(a b:Bool):decide (V.bl a=V.bl b)=(a==b):=by cases a<;>cases b<;>rfl
theorem intV_eq(a b:Int):decide (V.int a=V.int b)=decide (a=b):=by
 by_cases e:a=b
 ·subst e;simp
 ·rw[iY e,iY (by intro z;injection z with z;exact e z)]
theorem Ss{a b:Int}:(!decide (V.int a=V.int b))= !decide (a=b):=by rw[intV_eq]
theorem any_ints(xs:List Int)(k:Int):((xs.map PyData.int).any fun d=>PyData.eqv d (.int k))=decide (k∈xs):=by
 induction xs with
 |nil=>simp
 |cons x xs ih=>
  rw[Ca,T8,ih];have e:PyData.eqv (.int x) (.int k)=decide (k=x):=by
   show(x==k)=_;rw[wA];simp;exact⟨fun h=>h.symm,fun h=>h.symm⟩
  rw[e,wA];simp
theorem zby{α:Type}{p:α->Bool}{l:List α}{i:Nat}(hi:i<l.length):(l.take (i+1)).filter p=(l.take i).filter p++(if p l[i]=true then[l[i]]else[]):=by
 rw[rK,gj hi,Uc];congr 1;show[l[i]].filter p=_;rw[Qq];rfl
theorem Lz(k:Nat):rng (k+1)=rng k++[(k:Int)]:=by unfold rng;rw[Fw,bV];rfl
theorem KH(n:Nat):cX n=(rng n).map V.int:=by unfold cX rng;rw[Yi];rfl
def yV(K:W.Frag):Sp:=fun vs H Q _=>∃(l m:Addr) (xs ys:List Int),vs=[.ref l,.ref m]/\SqL K H l (xs.map V.int)/\SqL K H m (ys.map V.int)/\∀r H',Same H H'->H' r=some (.lst ((xs.filter fun p=>decide (p∈ys)).map V.int))->H r=none->Q (.ref r) H'
theorem Jc{f:Addr}{fd:τ}(F:Fun K "in_both" "in_both" oX f fd):
  FnOk P w K mg base CX0 1 f fd ["ones","others"] (yV K):=by
 refine F.dM ["ones","others"] fun cdv A outer s H vs Q E hr h=> ?_;obtain⟨l,m,xs,ys,rfl,hL,hM,q⟩:=h;refine⟨_,(bw (cT (pK ["place"] ["others"] [1] (rG (pv 0)) (pG 0) (Hy (jg (nM K hr.units) (pv 0) (pv 1) (by with_unfolding_all rfl))) (pv 0)))),?_⟩;refine⟨_,rfl,l,_,rfl,hL,fun hz=> ?_⟩;let gq:Nat->List V->St->Hp->Prop:=fun k acc σ H'=>acc=((xs.take k).filter fun p=>decide (p∈ys)).map V.int/\Same H H'/\∃o,σ=[o,some (.ref m)];refine Cm (xs:=xs.map V.int) gq ⟨rfl,Same.refl _,_,rfl⟩ (fun k acc σ H' _ p=>p.2.1.seq hL) (fun k acc σ H' hk p=> ?_) hz (fun k x acc σ H' hx p=> ?_) (fun acc σ H' p=> ?_)
 ·rw[p.1,aJ];exact dO (wk _ _) (by rw[m5];exact yJ _ _)
 ·obtain⟨rfl,sm,o,rfl⟩:=p;rw[dD]at hx;cases ex:xs[k]? with
  |none=>rw[ex]at hx;cases hx
  |some y=>
   rw[ex]at hx;cases hx;obtain⟨hk,ey⟩:=m6.mp ex;have e:=zby (p:=fun p=>decide (p∈ys)) hk;rw[ey]at e;refine⟨_,rfl,_,rfl,m,_,_,.int y,rfl,.inl (sm.seq hM),cU.ints ys,.int _,Kf ys,rfl,(by show 0<=60;decide),_,rfl,?_⟩;rw[any_ints];refine ite2 (fun c=> ?_) (fun c=> ?_)
   ·exact⟨_,rfl,by rw[e,aB c,bV];rfl,sm,_,rfl⟩
   ·exact⟨by rw[e,aq c,u9],sm,_,rfl⟩
 ·intro p1 hp1;obtain⟨rfl,sm,_⟩:=p;rw[aJ,wg];exact q p1 _ (sm.trans (aO hp1 _)) aH (sm.free hp1)
def Gp(K:W.Frag):Sp:=fun vs H Q _=>∃(a:Addr) (n i:Int) (ts:L0) (w:Bool),vs=[.ref a,.int i,.bl w]/\cO K H a n ts/\∀r H',Same H H'->H' r=some (.lst ((nT ts w n.toNat i).map V.int))->H r=none->Q (.ref r) H'
theorem Mv{f f1:Addr}{fd d1:τ}(F:Fun K "places_by_tie" "places_by_tie" zdg f fd)(D1:bQ K mg "has_tie" iw ["web","one","other"] f1 d1)(G1:FnOk P w K mg base CX0 1 f1 d1 ["web","one","other"] (Gm K))(aL:mg "range"=none):
  FnOk P w K mg base CX0 2 f fd ["web","place","tied"] (Gp K):=by
 refine F.dM ["web","place","tied"] fun cdv A outer s H vs Q E hr h=> ?_;obtain⟨a,n,i,ts,w,rfl,hA,q⟩:=h;refine⟨_,(bw (cT (pK ["other"] ["place","web","tied"] [1,0,2] (Fp rfl aL (aj (bR jo (pv 0) aQ) aA)) (pG 0) (Hy (PW.pt (pw_and (jg op_ne (pv 0) (pv 1)) (pw_and1 (jg op_eq (pc G1 hr D1 (aj (pv 2) (aj (pv 1) (aj (pv 0) aA)))) (pv 3)))))) (pv 0)))),?_⟩;have h0:=hA.h0;have h10:=hA.h1;obtain⟨ta,ra,a1,a2,a3⟩:=id hA.web;refine⟨_,rfl,a,_,_,.int n,rfl,rfl,a1,rfl,n,rfl,by omega,by omega,?_⟩;let qe:Nat->List V->St->Hp->Prop:=fun k acc σ H'=>acc=((rng k).filter fun p=> !decide (p=i)&&(bM ts i p==w)).map V.int/\Same H H'/\∃o,σ=[o,some (.int i),some (.ref a),some (.bl w)];refine T5 (n:=n.toNat) qe ⟨rfl,Same.refl _,_,rfl⟩ (fun k acc σ H' hk p=> ?_) (by rw[eE];omega) (fun k acc σ H' hk p=> ?_) (fun acc σ H' p=> ?_)
 ·rw[p.1,aJ];exact dO (wk _ _) (by unfold rng;simp)
 ·obtain⟨rfl,sm,o,rfl⟩:=p;have ek:(0+(k:Int))=(k:Int):=by omega
  rw[ek];have e:∀b,b=(!decide ((k:Int)=i)&&(bM ts i (k:Int)==w))->((rng (k+1)).filter fun p=> !decide (p=i)&&(bM ts i p==w))=((rng k).filter fun p=> !decide (p=i)&&(bM ts i p==w))++(if b=true then[(k:Int)]else[]):=fun b hb=>by
   rw[Lz,Uc,Qq,hb];rfl
  refine⟨_,rfl,_,rfl,rfl,_,rfl,?_⟩;rw[Ss];refine ite2 (fun c=> ?_) (fun c=> ?_)
  ·refine⟨_,rfl,_,rfl,_,rfl,a,n,_,_,ts,rfl,(hA.same sm).web,fun H5 s5=>⟨_,rfl,rfl,_,rfl,?_⟩⟩;rw[blV_eq,tied_eq hA.pk];refine ite2 (fun c2=> ?_) (fun c2=> ?_)
   ·exact⟨_,rfl,by rw[e true (by rw[c,c2];rfl),bV];rfl,sm.trans s5,_,rfl⟩
   ·exact⟨by rw[e false (by rw[c,Bool.eq_false_iff.mpr c2];rfl)];simp,sm.trans s5,_,rfl⟩
  ·exact⟨by rw[e false (by rw[Bool.eq_false_iff.mpr c];rfl)];simp,sm,_,rfl⟩
 ·intro p1 hp1;obtain⟨rfl,sm,_⟩:=p;exact q p1 _ (sm.trans (aO hp1 _)) aH (sm.free hp1)
def Qc(K:W.Frag)(H:Hp)(r:Addr)(ss:List (List Int)):Prop:=∃its:List (Addr×List Int),H r=some (.lst (its.map fun p=>V.ref p.1))/\(∀p∈its,SqT K H p.1 (p.2.map V.int))/\its.map (fun p=>p.2)=ss
def kh(ss:List (List Int))(ts:L0)(w:Bool)(n:Nat):Prop:=ss.Perm (jN ts w n)/\ss.Pairwise fun a b=>HT.lexLt b a=false
theorem Tj{ts:L0}{w:Bool}{n:Nat}(h2:2<=(jN ts w n).length):∀s∈jN ts w n,s≠[]:=by
 intro s hs e;subst e;have F:=Hg hs;cases n with
 |zero=>
  have:(jN ts w 0).length<=1:=by
   show(([[]]:List (List Int)).filter (nR ts w 0)).length<=1;exact wk _ _
  omega
 |succ n=>
  obtain⟨x,hx,_⟩:=F.max 0 (gO.mpr ⟨by omega,by omega⟩) (by simp);cases hx
structure Fit(K:W.Frag)(H:Hp)(ts:L0)(w:Bool)(n:Nat)(q:Addr×Addr×Addr×List Int):Prop where
 pr:SqT K H q.1 [.ref q.2.1,.ref q.2.2.1]
 so:SqT K H q.2.1 (q.2.2.2.map V.int)
 le:H q.2.2.1=some (.lst ((jc ts w n q.2.2.2).map V.int))
theorem Fit.same{H H':Hp}{ts:L0}{w:Bool}{n:Nat}{q:Addr×Addr×Addr×List Int}(h:Fit K H ts w n q)(e:Same H H'):Fit K H' ts w n q:=⟨e.tup h.pr,e.tup h.so,e _ _ h.le⟩
def Qe(K:W.Frag)(H:Hp)(fd:Addr)(ts:L0)(w:Bool)(n:Nat)(ss:List (List Int)):Prop:=∃its:List (Addr×Addr×Addr×List Int),H fd=some (.lst (its.map fun q=>V.ref q.1))/\(∀q∈its,Fit K H ts w n q)/\its.map (fun q=>q.2.2.2)=ss
def sZ(K:W.Frag):Sp:=fun vs H Q _=>∃(fl:Addr) (fas:List Addr) (ts:L0) (w:Bool) (n:Nat),vs=[.ref fl]/\H fl=some (.lst (fas.map V.ref))/\fas.length=n/\n<=10/\(∀(i:Nat) f,fas[i]? =some f->H f=some (.lst ((nT ts w n (i:Int)).map V.int)))/\
 ∀r ss H',Same H H'->Qc K H' r ss->kh ss ts w n->H r=none->Q (.ref r) H'
theorem zN{f f1:Addr}{fd d1:τ}(F:Fun K "full_sets" "full_sets" jB f fd)(D1:bQ K mg "in_both" oX ["ones","others"] f1 d1)(G1:FnOk P w K mg base CX0 1 f1 d1 ["ones","others"] (yV K))(gW:mg "list"=none)(aL:mg "range"=none)(cB:mg "len"=none)(jK:mg "sorted"=none):
  FnOk P w K mg base CX0 2 f fd ["friends"] (sZ K):=by
 refine F.dM ["friends","found","place","wider"] fun cdv A outer s H vs Q E hr h=> ?_;obtain⟨fl,fas,ts,w,n,rfl,hF,hn,h10,hfr,q⟩:=h;refine bf ?_;intro Y;refine⟨_,(aP (pS 1 (lE (aj (oF (aj (oF aA) (aj (qP rfl rfl gW rfl aL (aj (pB yI cB (aj (pv 0) aA)) aA)) aA))) aA))) (aP (u6 rM rfl (Fp rfl aL (aj (pB yI cB (aj (pv 0) aA)) aA)) (pG 2) (aP (pX 3 ["some","left"] ["place","friends"] [2,0] (rG (pv 1)) (gH K (n:=2) rfl (qY (pG 0) (qY (pG 1) JT))) (Hy (jg (nM K hr.units) (pv 2) (pv 1) (by with_unfolding_all rfl))) (oF (aj (bJ (zL K) (pv 0) (oF (aj (pv 2) aA))) (aj (pc G1 hr D1 (aj (pv 1) (aj (bR (eY K) (pv 3) (pv 2)) aA))) aA)))) (bw (pS 1 (bJ yE (pv 1) (pv 3)))))) (bw (cT (pB xY jK (aj (pK ["some","left"] [] [] (rG (pv 1)) (gH K (n:=2) rfl (qY (pG 0) (qY (pG 1) JT))) (Hy (yF (Ir K (pv 1) (fun _=>rfl)))) (pv 0)) aA)))))),?_⟩;refine jd ?_;intro c3 c2;have el:((fas.map V.ref).length:Int)=(n:Int):=by rw[aJ,hn]
 refine⟨(by show 0<=sizeLine;decide),fun e1 he1=> ?_⟩;have s1:=aO he1 (.tup []);have t1:SqT K (upd H e1 (.tup [])) e1 []:=SqT.of aH;generalize (upd H e1 (.tup []))=H1 at *;refine⟨_,rfl,fl,_,rfl,.inl (SqL.of (s1 _ _ hF)),fun _=>⟨_,rfl,by omega,by rw[el];omega,fun rl hrl=> ?_⟩⟩;have er:cX ((fas.map V.ref).length:Int).toNat=(rng n).map V.int:=by rw[el,Fx,KH]
 rw[er];have s2:=aO hrl (.lst ((rng n).map V.int));have t2:(upd H1 rl (.lst ((rng n).map V.int))) rl=some (.lst ((rng n).map V.int)):=aH;generalize (upd H1 rl (.lst ((rng n).map V.int)))=H2 at *;refine⟨(by show 2<=sizeLine;decide),fun e3 he3=> ?_⟩;have s3:=aO he3 (.tup [.ref e1,.ref rl]);have t3:SqT K (upd H2 e3 (.tup [.ref e1,.ref rl])) e3 [.ref e1,.ref rl]:=SqT.of aH;generalize (upd H2 e3 (.tup [.ref e1,.ref rl]))=H3 at *;refine⟨(by show 1<=sizeLine;decide),fun fd hfd=> ?_⟩;have s4:=aO hfd (.lst [.ref e3]);have F4:Qe K (upd H3 fd (.lst [.ref e3])) fd ts w n (bK ts w 0):=by
  refine⟨[(e3,e1,rl,[])],aH,fun q hq=> ?_,rfl⟩;rw[fL.mp hq];exact⟨s4.tup t3,s4.tup (s3.tup (s2.tup t1)),by rw[Nm];exact s4 _ _ (s3 _ _ t2)⟩
 have s04:=s1.trans (s2.trans (s3.trans s4));generalize (upd H3 fd (.lst [.ref e3]))=H4 at *;refine⟨_,rfl,fl,_,rfl,.inl (SqL.of (s04 _ _ hF)),fun _=>⟨_,rfl,by omega,by rw[el];omega,?_⟩⟩;have en:((fas.map V.ref).length:Int).toNat=n:=by rw[el,Fx]
 rw[en];let gq:Nat->St->Hp->Prop:=fun k σ H'=>Same H H'/\∃fd b2 b3,Qe K H' fd ts w n (bK ts w k)/\σ=[some (.ref fl),some (.ref fd),b2,b3];refine Qn (n:=n) gq ⟨s04,fd,_,_,F4,rfl⟩ (fun k σ H' hk p=> ?_) (fun σ H' p=> ?_)
 ·obtain⟨s5,fd,b2,b3,F5,rfl⟩:=p;have ek:(0+(k:Int))=(k:Int):=by omega
  rw[ek];obtain⟨its,f1,f2,f3⟩:=F5;have hlen:its.length<=1024:=by
   have a:=zm (ts:=ts) (w:=w) k;rw[<-f3,aJ]at a;have b:2^k<=2^10:=Yq (by decide) (by omega);have c:2^10=1024:=by decide
   omega
  have hkf:k<fas.length:=by omega
  have hfk:(fas.map V.ref)[k]? =some (.ref fas[k]):=by rw[dD,gj hkf];rfl
  have hgk:=hfr k fas[k] (gj hkf);refine⟨_,rfl,fd,_,rfl,SqL.of f1,fun hzf=> ?_⟩;let qe:Nat->List V->St->Hp->Prop:=fun i acc σ jm=>(∃its2:List (Addr×Addr×Addr×List Int),acc=its2.map (fun q=>V.ref q.1)/\(∀q∈its2,Fit K jm ts w n q)/\its2.map (fun q=>q.2.2.2)=(((bK ts w k).take i).filter fun s=>goB ts w s (k:Int)).map fun s=>s++[(k:Int)])/\Same H' jm/\∃o1 o2,σ=[o1,o2,some (.int (k:Int)),some (.ref fl)];refine Cm (xs:=its.map fun q=>V.ref q.1) qe ⟨⟨[],rfl,fun q hq=>(nomatch hq),rfl⟩,Same.refl _,_,_,rfl⟩ (fun i acc σ jm _ p=>p.2.1.seq (SqL.of f1)) (fun i acc σ jm hi p=> ?_) hzf (fun i x acc σ jm hx p=> ?_) (fun acc σ jm p=> ?_)
  ·obtain⟨⟨its2,rfl,g2,g3⟩,_⟩:=p;have a:=iD List.length g3;rw[aJ,aJ]at a;rw[aJ,a];exact dO (wk _ _) (by rw[m5];exact yJ _ _)
  ·obtain⟨⟨its2,rfl,g2,g3⟩,sm,o1,o2,rfl⟩:=p;rw[dD]at hx;cases ex:its[i]? with
   |none=>rw[ex]at hx;cases hx
   |some v=>
    rw[ex]at hx;cases hx;have fv:=(f2 v (jq ex)).same sm;have hsv:(bK ts w k)[i]? =some v.2.2.2:=by rw[<-f3,dD,ex];rfl
    obtain⟨hi,esv⟩:=m6.mp hsv;have Sv:=oW k v.2.2.2 (jq hsv);have e:=zby (p:=fun s=>goB ts w s (k:Int)) hi;rw[esv]at e;refine⟨v.1,_,rfl,fv.pr,rfl,_,_,rfl,_,_,rfl,rfl,?_⟩;refine⟨_,rfl,_,rfl,v.2.2.1,_,_,.int (k:Int),rfl,.inl (SqL.of fv.le),cU.ints _,.int _,Kf _,rfl,(by show 0<=60;decide),_,rfl,?_⟩;rw[any_ints,Sy Sv hk];refine ite2 (fun c=> ?_) (fun c=> ?_)
    ·refine⟨_,rfl,_,rfl,(by show 1<=sizeLine;decide),fun e5 he5=> ?_⟩;have s6:=aO he5 (.tup [.int (k:Int)]);have t6:SqT K (upd jm e5 (.tup [.int (k:Int)])) e5 [.int (k:Int)]:=SqT.of aH;generalize (upd jm e5 (.tup [.int (k:Int)]))=H6 at *;have hvl:v.2.2.2.length<=10:=by
      have a:=j5 (l:=v.2.2.2) (m:=rng n) (Sv.up.imp fun{x y} h=>by omega) (fun x hx=>gO.mpr (by have:=Sv.lt x hx;omega));have b:(rng n).length=n:=by unfold rng;simp
      omega
     refine⟨v.2.1,e5,_,_,rfl,rfl,s6.tup fv.so,t6,(by rw[aJ,eE];show v.2.2.2.length+1<=_;omega),fun r7 H7 s7 h7=> ?_⟩;have s67:=s6.trans s7;refine⟨_,rfl,_,rfl,_,rfl,fl,_,_,.ref fas[k],rfl,rfl,SqL.of ((s5.trans (sm.trans s67)) _ _ hF),atI_nat hfk,v.2.2.1,fas[k],_,_,rfl,SqL.of (s67 _ _ fv.le),SqL.of ((s5.trans (sm.trans s67)) _ _ hgk),fun r8 H8 s8 h8 n8=> ?_⟩;refine⟨(by show 2<=sizeLine;decide),fun e9 he9=> ?_⟩;have s9:=aO he9 (.tup [.ref r7,.ref r8]);have s69:=s67.trans (s8.trans s9);refine⟨⟨its2++[(e9,r7,r8,v.2.2.2++[(k:Int)])],by rw[bV];rfl,fun q hq=> ?_,by rw[bV,g3,e,aB c,bV];rfl⟩,sm.trans s69,_,_,rfl⟩;rcases g8.mp hq with z|z
     ·exact(g2 q z).same s69
     ·rw[fL.mp z];refine⟨SqT.of aH,s9.tup (s8.tup ?_),by rw[Jp];exact s9 _ _ h8⟩;rw[bV];exact h7
    ·exact⟨⟨its2,rfl,g2,by rw[g3,e,aq c,u9]⟩,sm,_,_,rfl⟩
  ·intro p1 hp1;obtain⟨⟨its2,rfl,g2,g3⟩,sm,o1,o2,rfl⟩:=p;have hle:(its.map fun q=>V.ref q.1).length=(bK ts w k).length:=by rw[aJ,<-f3,aJ]
   rw[hle,wg]at g3;have s6:=aO hp1 (.lst (its2.map fun q=>V.ref q.1));have l2:its2.length<=1024:=by
    have a:=iD List.length g3;rw[aJ,aJ]at a;have b:=wk (fun s=>goB ts w s (k:Int)) (bK ts w k);rw[<-f3,aJ]at b;rw[<-f3]at a;omega
   refine⟨_,rfl,_,rfl,fd,p1,_,_,rfl,rfl,(sm.trans s6) _ _ f1,aH,by rw[aJ,aJ,eE];omega,fun p2 hp2=> ?_⟩;have s7:=aO hp2 (.lst ((its.map fun q=>V.ref q.1)++(its2.map fun q=>V.ref q.1)));refine⟨s5.trans (sm.trans (s6.trans s7)),p2,_,_,⟨its++its2,by rw[aH,bV],fun q hq=> ?_,by rw[bV,f3,g3];rfl⟩,rfl⟩;rcases g8.mp hq with z|z
   ·exact(f2 q z).same (sm.trans (s6.trans s7))
   ·exact(g2 q z).same (s6.trans s7)
 ·obtain⟨s5,fd,b2,b3,⟨its,f1,f2,f3⟩,rfl⟩:=p;refine⟨_,rfl,fd,_,rfl,SqL.of f1,fun hzf=> ?_⟩;let JL:Nat->List V->St->Hp->Prop:=fun i acc σ jm=>(∃its2:List (Addr×List Int),acc=its2.map (fun q=>V.ref q.1)/\(∀q∈its2,SqT K H' q.1 (q.2.map V.int))/\its2.map (fun q=>q.2)=((bK ts w n).take i).filter (nR ts w n))/\Same H' jm/\∃o1 o2,σ=[o1,o2];refine Cm (xs:=its.map fun q=>V.ref q.1) JL ⟨⟨[],rfl,fun q hq=>(nomatch hq),rfl⟩,Same.refl _,_,_,rfl⟩ (fun i acc σ jm _ p=>p.2.1.seq (SqL.of f1)) (fun i acc σ jm hi p=> ?_) hzf (fun i x acc σ jm hx p=> ?_) (fun acc σ jm p=> ?_)
  ·obtain⟨⟨its2,rfl,g2,g3⟩,_⟩:=p;have a:=iD List.length g3;rw[aJ]at a;rw[aJ,a];exact dO (wk _ _) (by rw[m5];exact yJ _ _)
  ·obtain⟨⟨its2,rfl,g2,g3⟩,sm,o1,o2,rfl⟩:=p;rw[dD]at hx;cases ex:its[i]? with
   |none=>rw[ex]at hx;cases hx
   |some v=>
    rw[ex]at hx;cases hx;have fv:=f2 v (jq ex);have hsv:(bK ts w n)[i]? =some v.2.2.2:=by rw[<-f3,dD,ex];rfl
    obtain⟨hi,esv⟩:=m6.mp hsv;have e:=zby (p:=nR ts w n) hi;rw[esv]at e;refine⟨v.1,_,rfl,sm.tup fv.pr,rfl,_,_,rfl,_,_,rfl,rfl,?_⟩;refine⟨_,rfl,_,.inl ⟨_,SqL.of (sm _ _ fv.le),rfl⟩,?_⟩;have eb:(!!((jc ts w n v.2.2.2).map V.int).isEmpty)=nR ts w n v.2.2.2:=by
     rw[Bool.not_not,<-Jq];cases jc ts w n v.2.2.2<;>rfl
    dsimp only;rw[eb];refine ite2 (fun c=> ?_) (fun c=> ?_)
    ·refine⟨_,rfl,⟨its2++[(v.2.1,v.2.2.2)],by rw[bV];rfl,fun q hq=> ?_,by rw[bV,g3,e,aB c];rfl⟩,sm,_,_,rfl⟩;rcases g8.mp hq with z|z
     ·exact g2 q z
     ·rw[fL.mp z];exact fv.so
    ·exact⟨⟨its2,rfl,g2,by rw[g3,e,aq c,u9]⟩,sm,_,_,rfl⟩
  ·intro p1 hp1;obtain⟨⟨its2,rfl,g2,g3⟩,sm,_⟩:=p;have hle:(its.map fun q=>V.ref q.1).length=(bK ts w n).length:=by rw[aJ,<-f3,aJ]
   rw[hle,wg]at g3;have g4:its2.map (fun q=>q.2)=jN ts w n:=g3;have hl2:its2.length=(jN ts w n).length:=by rw[<-g4,aJ]
   have h36:=vY (ts:=ts) (w:=w) h10;have s6:=aO hp1 (.lst (its2.map fun q=>V.ref q.1));refine⟨p1,its2,rfl,SqL.of aH,fun p hp=>⟨(sm.trans s6).tup (g2 p hp),fun h2=> ?_⟩,by omega,fun l its' hl hpm hpw=> ?_⟩
   ·exact Tj (ts:=ts) (w:=w) (n:=n) (by omega) p.2 (by rw[<-g4];exact kj.mpr ⟨p,hp,rfl⟩)
   ·have s7:=aO hl (.lst (its'.map fun q=>V.ref q.1));have s57:=s5.trans (sm.trans (s6.trans s7));refine q l (its'.map fun q=>q.2) _ s57 ⟨its',aH,fun p hp=>(sm.trans (s6.trans s7)).tup (g2 p (hpm.mem_iff.mp hp)),rfl⟩ ⟨?_,?_⟩ ((s5.trans (sm.trans s6)).free hl)
    ·rw[<-g4];exact hpm.map _
    ·rw[ZD];exact hpw
def qL(K:W.Frag):Sp:=fun vs H Q _=>∃(a:Addr) (n:Int) (ts:L0),vs=[.ref a]/\cO K H a n ts/\∀r ss H',Same H H'->Qc K H' r ss->kh ss ts false n.toNat->H r=none->Q (.ref r) H'
theorem wW{f f1 f2 f3:Addr}{fd d1 d2 d3:τ}(F:Fun K "full_apart" "full_apart" iM f fd)(D1:bQ K mg "need_web" Kg ["thing"] f1 d1)(G1:FnOk P w K mg base CX0 7 f1 d1 ["thing"] (cG K))(D2:bQ K mg "full_sets" jB ["friends"] f2 d2)(G2:FnOk P w K mg base CX0 2 f2 d2 ["friends"] (sZ K))(D3:bQ K mg "places_by_tie" zdg ["web","place","tied"] f3 d3)(G3:FnOk P w K mg base CX0 2 f3 d3 ["web","place","tied"] (Gp K))(aL:mg "range"=none):
  FnOk P w K mg base CX0 8 f fd ["web"] (qL K):=by
 refine F.dM ["web"] fun cdv A outer s H vs Q E hr h=> ?_;obtain⟨a,n,ts,rfl,hA,q⟩:=h;refine bf ?_;intro Y;refine⟨_,(aP (sH (pc G1 hr D1 (aj (pv 0) aA))) (bw (cT (pc G2 hr D2 (aj (pK ["place"] ["web"] [0] (Fp rfl aL (aj (bR jo (pv 0) aQ) aA)) (pG 0) qG (pc G3 hr D3 (aj (pv 1) (aj (pv 0) (aj pe_bl aA))))) aA))))),?_⟩;refine je ?_;intro c2;have h0:=hA.h0;have h10:=hA.h1;refine⟨_,rfl,_,_,rfl,hA.web.dv.dx,hA.ok,fun H1 s1=> ?_⟩;have hA1:=hA.same s1;obtain⟨ta,ra,a1,a2,a3⟩:=id hA1.web;refine⟨_,rfl,a,_,_,.int n,rfl,rfl,a1,rfl,n,rfl,by omega,by omega,?_⟩;let gq:Nat->List V->St->Hp->Prop:=fun k acc σ H'=>(∃fas:List Addr,acc=fas.map V.ref/\fas.length=k/\∀(i:Nat) f,fas[i]? =some f->H' f=some (.lst ((nT ts false n.toNat (i:Int)).map V.int)))/\Same H1 H'/\∃o,σ=[o,some (.ref a)];refine T5 (n:=n.toNat) gq ⟨⟨[],rfl,rfl,fun i f h=>by simp at h⟩,Same.refl _,_,rfl⟩ (fun k acc σ H' hk p=> ?_) (by rw[eE];omega) (fun k acc σ H' hk p=> ?_) (fun acc σ H' p=> ?_)
 ·obtain⟨⟨fas,rfl,hl,_⟩,_⟩:=p;rw[aJ];omega
 ·obtain⟨⟨fas,rfl,hl,hf⟩,sm,o,rfl⟩:=p;have ek:(0+(k:Int))=(k:Int):=by omega
  rw[ek];refine⟨_,rfl,_,rfl,a,n,_,ts,false,rfl,hA1.same sm,fun r H5 s5 h5 n5=>⟨⟨fas++[r],by rw[bV];rfl,by rw[gB,hl];rfl,fun i f hi=> ?_⟩,sm.trans s5,_,rfl⟩⟩;by_cases c:i<fas.length
  ·rw[ZS c]at hi;exact s5 _ _ (hf i f hi)
  ·have hb:i<(fas++[r]).length:=(m6.mp hi).1;rw[gB]at hb;have e:i=fas.length:=by have:[r].length=1:=rfl;omega
   rw[e,Yv (aN _),Nat.sub_self]at hi;cases hi;rw[e,hl];exact h5
 ·intro p1 hp1;obtain⟨⟨fas,rfl,hl,hf⟩,sm,_⟩:=p;have s6:=aO hp1 (.lst (fas.map V.ref));exact⟨p1,fas,ts,false,n.toNat,rfl,aH,hl,by omega,fun i f hi=>s6 _ _ (hf i f hi),fun r ss H7 s7 h7 h8 n7=>q r ss H7 (s1.trans (sm.trans (s6.trans s7))) h7 h8 ((s1.trans (sm.trans s6)).free n7)⟩
def YX(m:Int)(t1 t2:L0)(i j:Int):Bool:=if i/m=j/m then bZ t2 (i %m) (j %m)else bZ t1 (i/m) (j/m)
def Ge(K:W.Frag):Sp:=fun vs H Q _=>∃(a b t:Addr) (n1 n2 i j:Int) (t1 t2:L0),vs=[.ref a,.ref b,.ref t]/\iV K H a n1 t1/\iV K H b n2 t2/\0<n2/\n2<=10/\SqT K H t [.int i,.int j]/\∀H',Same H H'->Q (.bl (YX n2 t1 t2 i j)) H'
theorem Mp{f f1:Addr}{fd d1:τ}(F:Fun K "is_tie_within" "is_tie_within" zdh f fd)(D1:bQ K mg "has_tie" iw ["web","one","other"] f1 d1)(G1:FnOk P w K mg base CX0 1 f1 d1 ["web","one","other"] (Gm K)):
  FnOk P w K mg base CX0 2 f fd ["one","other","tie"] (Ge K):=by
 refine F.dM ["one","other","tie","m","i","j"] fun cdv A outer s H vs Q E hr h=> ?_;obtain⟨a,b,t,n1,n2,i,j,t1,t2,rfl,hA,hB,hn,hn',ht,q⟩:=h;refine⟨_,aP (pS 3 (bR jo (pv 1) aQ)) (aP (pS 4 (bJ eU (bR jo (pv 2) aQ) (pv 3))) (aP (pS 5 (bJ eU (bR jo (pv 2) aQ) (pv 3))) (aP (qW (jg op_eq (pv 4) (pv 5)) (bw (cT (pc G1 hr D1 (aj (pv 1) (aj (bJ op_mod (bR jo (pv 2) aQ) (pv 3)) (aj (bJ op_mod (bR jo (pv 2) aQ) (pv 3)) aA)))))) qX) (bw (cT (pc G1 hr D1 (aj (pv 0) (aj (pv 4) (aj (pv 5) aA))))))))),?_⟩;obtain⟨tb,rb,b1,b2,b3⟩:=id hB;refine⟨_,rfl,b,_,_,.int n2,rfl,rfl,b1,rfl,?_⟩;refine⟨_,rfl,t,_,_,.int i,rfl,rfl,ht,rfl,_,rfl,_,_,rfl,rfl,⟨hn,by omega⟩,?_⟩;refine⟨_,rfl,t,_,_,.int j,rfl,rfl,ht,rfl,_,rfl,_,_,rfl,rfl,⟨hn,by omega⟩,?_⟩;refine⟨_,rfl,_,rfl,rfl,_,rfl,?_⟩;refine ite2 (fun c=> ?_) (fun c=> ?_)
 ·have e:i/n2=j/n2:=by have:=sS c;injection this
  refine⟨_,rfl,_,rfl,t,_,_,.int i,rfl,rfl,ht,rfl,_,rfl,_,_,rfl,rfl,hn,_,rfl,t,_,_,.int j,rfl,rfl,ht,rfl,_,rfl,_,_,rfl,rfl,hn,?_⟩;refine⟨b,n2,_,_,t2,rfl,hB,fun H' sm=> ?_⟩;have:=q H' sm;unfold YX at this;rw[aB e]at this;exact this
 ·have e:¬(i/n2=j/n2):=fun z=>c (fD (iD V.int z));refine⟨_,rfl,_,rfl,_,rfl,a,n1,_,_,t1,rfl,hA,fun H' sm=> ?_⟩;have:=q H' sm;unfold YX at this;rw[aq e]at this;exact this
def yP(K:W.Frag):Sp:=fun vs H Q _=>∃(a b:Addr) (n1 n2:Int) (t1 t2:L0),vs=[.ref a,.ref b]/\cO K H a n1 t1/\cO K H b n2 t2/\n1*n2<=10/\∀r H',Same H H'->iV K H' r (n1*n2) (rows (YX n2 t1 t2) (n1*n2) (n1*n2).toNat)->Q (.ref r) H'
theorem IV{f f1 f2 f3 f4:Addr}{fd d1 d2 d3 d4:τ}(F:Fun K "within" "within" tO f fd)(D1:bQ K mg "need_web" Kg ["thing"] f1 d1)(G1:FnOk P w K mg base CX0 7 f1 d1 ["thing"] (cG K))(D2:bQ K mg "need_few" iK ["n"] f2 d2)(G2:FnOk P w K mg base CX0 1 f2 d2 ["n"] (oR K))(D3:bQ K mg "pairs" rQ ["n"] f3 d3)(G3:FnOk P w K mg base CX0 1 f3 d3 ["n"] (CQ K))(D4:bQ K mg "is_tie_within" zdh ["one","other","tie"] f4 d4)(G4:FnOk P w K mg base CX0 2 f4 d4 ["one","other","tie"] (Ge K))(mT:mg "tuple"=none):
  FnOk P w K mg base CX0 8 f fd ["one","other"] (yP K):=by
 refine F.dM ["one","other","n"] fun cdv A outer s H vs Q E hr h=> ?_;obtain⟨a,b,n1,n2,t1,t2,rfl,hA,hB,hn,q⟩:=h;refine⟨_,aP (sH (pc G1 hr D1 (aj (pv 0) aA))) (aP (sH (pc G1 hr D1 (aj (pv 1) aA))) (aP (pS 2 (bJ yu (bR jo (pv 0) aQ) (bR jo (pv 1) aQ))) (aP (sH (pc G2 hr D2 (aj (pv 2) aA))) (bw (cT (oF (aj (pv 2) (aj (pT Yg mT (aj
   (pK ["tie"] ["one","other"] [0,1] (rG (pc G3 hr D3 (aj (pv 2) aA))) (pG 0) (Hy (yG (pc G4 hr D4 (aj (pv 1) (aj (pv 2) (aj (pv 0) aA)))))) (pv 0)) aA)) aA)))))))),?_⟩
 refine⟨_,rfl,_,_,rfl,hA.web.dv.dx,hA.ok,fun H1 s1=> ?_⟩;refine⟨_,rfl,_,_,rfl,(hB.same s1).web.dv.dx,hB.ok,fun H2 s2=> ?_⟩;have s12:=s1.trans s2;obtain⟨ta,ra,a1,a2,a3⟩:=id (hA.same s12).web;obtain⟨tb,rb,b1,b2,b3⟩:=id (hB.same s12).web;have hA0:=hA.h0;have hA1:=hA.h1;have hB0:=hB.h0;have hB1:=hB.h1;have hm0:0<=n1*n2:=HF hA0 hB0;refine⟨_,rfl,a,_,_,.int n1,rfl,rfl,a1,rfl,_,rfl,b,_,_,.int n2,rfl,rfl,b1,rfl,_,_,rfl,rfl,.inl ⟨by omega,by omega⟩,?_⟩;generalize hmm:((fun i j=>V.int (i*j)) _ _:V)=vm;obtain⟨m,em,hm⟩:∃m:Int,vm= .int m/\n1*n2=m:=⟨_,hmm.symm,rfl⟩;subst em;simp only[hm]at hn q hm0;refine⟨_,rfl,m,rfl,hn,?_⟩;refine⟨_,rfl,_,rfl,m,rfl,hm0,hn,fun l H3 s3 p1=> ?_⟩;obtain⟨rs,e1,v1⟩:=p1.ex;refine⟨l,rs,rfl,SqL.of e1,fun hz=> ?_⟩;have hlen:=v1.len;rw[aJ]at hlen;have hpos:∀i:Nat,(h:i<(rows tt m m.toNat).length)->0<n2:=fun i h=>by
  have hmem:=Ko h;rw[eV]at hmem;have hmp:0<m:=by omega
  rcases Int.lt_or_le 0 n2 with c|c
  ·exact c
  ·have:n2=0:=by omega
   rw[this,yw]at hm;omega
 have Wh:=s12.trans s3;refine Cm (xs:=rs) (fun i acc σ H'=>Same H3 H'/\acc.length<=i/\cU K H' acc (((rows tt m m.toNat).take i).filter (fun p=>YX n2 t1 t2 p.1 p.2)|>.map pairD)/\∃o,σ=[o,some (.ref a),some (.ref b)]) ⟨Same.refl _,aN _,.nil,_,rfl⟩ (fun i acc σ H' _ p=>p.1.seq (SqL.of e1)) (fun i acc σ H' hi p=>p.2.1) hz (fun i x acc σ H' hx p=> ?_) (fun acc σ H' p=> ?_)
 ·obtain⟨sm,hl,hd,o,rfl⟩:=p;obtain⟨t,hi,rfl,ht⟩:=wO v1 hx;refine⟨_,rfl,_,rfl,_,rfl,a,b,t,n1,n2,_,_,t1,t2,rfl,(hA.same (Wh.trans sm)).web,(hB.same (Wh.trans sm)).web,hpos i hi,hB1,sm.tup ht,fun H5 s5=>⟨_,rfl,?_⟩⟩;rw[Bj hi];refine ite2 (fun c=> ?_) (fun c=> ?_)
  ·refine⟨_,rfl,sm.trans s5,by rw[gB];show acc.length+1<=i+1;omega,?_,_,rfl⟩;rw[aB c,bV];exact(hd.same s5).append (.cons (.tup ((sm.trans s5).tup ht) (.cons (.int _) (.cons (.int _) .nil))) .nil)
  ·refine⟨sm.trans s5,by omega,?_,_,rfl⟩;rw[aq c,u9];exact hd.same s5
 ·intro p1 hp1;obtain⟨sm,hl,hd,_⟩:=p;rw[hlen,wg,qN]at hd;have s5:=aO hp1 (.lst acc);refine⟨p1,_,rfl,.inl ⟨SqL.of aH,fun t ht=> ?_⟩⟩;have s6:=aO ht (.tup acc);refine⟨(by show 2<=sizeLine;decide),fun r hr'=> ?_⟩;have s7:=aO hr' (.tup [.int m,.ref t]);exact q r _ (Wh.trans (sm.trans (s5.trans (s6.trans s7)))) ⟨t,acc,SqT.of aH,SqT.of (s7 _ _ aH),hd.same (s5.trans (s6.trans s7))⟩
end
def pq(n:Nat):List Int:=(List.range n).map fun(t:Nat)=>(t:Int)
theorem rT{n:Nat}{x:Int}:x∈pq n↔0<=x/\x<(n:Int):=by
 unfold pq;rw[kj];constructor
 ·rintro⟨t,ht,rfl⟩;have:=rH.mp ht;omega
 ·intro h;exact⟨x.toNat,rH.mpr (by omega),by omega⟩
theorem Ro(n:Nat):(pq n).length=n:=by unfold pq;rw[aJ,wj]
theorem LQ(n:Nat):pq (n+1)=pq n++[(n:Int)]:=by unfold pq;rw[Fw,bV];rfl
def cN:Nat->List (List Int)
 |0=>[[]]
 |k+1=>cN k++(cN k).map fun s=>s++[(k:Int)]
theorem jR:∀k,(cN k).length=2^k
 |0=>rfl
 |k+1=>by
  show(cN k++(cN k).map fun s=>s++[(k:Int)]).length=_;rw[gB,aJ,jR k,wgp];omega
theorem oh:∀k,∀s∈cN k,s.length<=k
 |0,s,h=>by rw[fL.mp h];exact aN _
 |k+1,s,h=>by
  rcases g8.mp h with z|z
  ·exact Nat.le_succ_of_le (oh k s z)
  ·obtain⟨t,ht,rfl⟩:=kj.mp z;have:=oh k t ht;rw[gB];show t.length+1<=k+1;omega
theorem zQ{a:Int}:∀{l:List Int},l.Sublist [a]->l=[]\/l=[a]
 |[],_=> .inl rfl
 |_::_,h=>by
  cases h with
  |cons _ h=>cases h
  |cons_cons _ h=>cases h;exact .inr rfl
theorem eX:∀(n:Nat) (ys:List Int),ys∈cN n↔ys.Sublist (pq n)
 |0,ys=>by
  show ys∈[[]]↔ys.Sublist [];rw[fL,List.sublist_nil]
 |n+1,ys=>by
  show ys∈cN n++(cN n).map (fun s=>s++[(n:Int)])↔_;rw[LQ,g8,kj,List.sublist_append_iff,eX n ys];constructor
  ·rintro(h|⟨s,hs,rfl⟩)
   ·exact⟨ys,[],(u9 _).symm,h,List.nil_sublist _⟩
   ·exact⟨s,[(n:Int)],rfl,(eX n s).mp hs,YG _⟩
  ·rintro⟨l1,l2,rfl,h1,h2⟩;rcases zQ h2 with rfl|rfl
   ·rw[u9];exact .inl h1
   ·exact .inr ⟨l1,(eX n l1).mpr h1,rfl⟩
theorem mQ:∀n,(cN n).Nodup
 |0=>by show List.Nodup [[]];simp
 |n+1=>by
  show(cN n++(cN n).map (fun s=>s++[(n:Int)])).Nodup;refine List.nodup_append.mpr ⟨mQ n,?_,fun a ha b hb e=> ?_⟩
  ·unfold List.Nodup;rw[ZD];exact(mQ n).imp fun{x y} h z=>h (wfn z)
  ·subst e;obtain⟨s,_,rfl⟩:=kj.mp hb;have:=rT.mp (((eX n _).mp ha).subset (jr _ (wdf _)));omega
theorem qd:∀(n i:Nat) (xs ys:List Int),(cN n)[i]? =some xs->ys.Sublist xs->ys≠xs->ys∈(cN n).take i
 |0,i,xs,ys,h,hs,hn=>by
  have h':([[]]:List (List Int))[i]? =some xs:=h;cases i with
  |zero=>
   simp at h';subst h';exact absurd (List.sublist_nil.mp hs) hn
  |succ i=>simp at h'
 |n+1,i,xs,ys,h,hs,hn=>by
  show ys∈(cN n++(cN n).map (fun s=>s++[(n:Int)])).take i;have h':(cN n++(cN n).map (fun s=>s++[(n:Int)]))[i]? =some xs:=h;by_cases hi:i<(cN n).length
  ·rw[ZS hi]at h';rw[List.take_append_of_le_length (cW hi)];exact qd n i xs ys h' hs hn
  ·have hi:=T7.mp hi;rw[Yv hi,dD]at h';cases e:(cN n)[i-(cN n).length]? with
   |none=>rw[e]at h';cases h'
   |some zs=>
    rw[e]at h';cases h';rw[List.take_append,g8,Cd hi];obtain⟨l1,l2,rfl,h1,h2⟩:=List.sublist_append_iff.mp hs;have mz:zs.Sublist (pq n):=(eX n zs).mp (jq e);rcases zQ h2 with rfl|rfl
    ·rw[u9];exact .inl ((eX n _).mpr (h1.trans mz))
    ·refine .inr ?_;rw[<-wfx];exact kj.mpr ⟨l1,qd n _ zs l1 e h1 (fun z=>hn (by rw[z])),rfl⟩
noncomputable def wo(xs p:List Int):List Int:=xs.filter fun o=> !decide (o∈p)
theorem oM(xs p:List Int):(wo xs p).Sublist xs:=ZJ
theorem xg{xs p:List Int}{x:Int}:x∈wo xs p↔x∈xs/\x∉p:=by
 unfold wo;rw[kI];simp
theorem Ku{x:Int}{r p:List Int}(h:x∈p):wo (x::r) p≠x::r:=fun e=>by
 have:x∈wo (x::r) p:=by rw[e];exact dY
 exact(xg.mp this).2 h
theorem ZX{x:Int}{r p:List Int}(h:x∈p):(wo (x::r) p).length<(x::r).length:=
 Kp (oM _ _).length_le fun e=>Ku h ((oM _ _).eq_of_length e)
abbrev QB:=List Int->Int->Bool
def mq(st:QB)(found:List (List Int))(x:Int):List (List Int):=found++(found.filter fun p=>st p x).map fun p=>p++[x]
def jk(st:QB)(xs:List Int)(k:Nat):List (List Int):=((xs.drop 1).take k).foldl (mq st) [xs.take 1]
def Ze(st:QB)(xs:List Int):List (List Int):=(xs.drop 1).foldl (mq st) [xs.take 1]
theorem Bg(st:QB)(xs:List Int):jk st xs (xs.drop 1).length=Ze st xs:=by unfold jk Ze;rw[wg]
theorem pW{st:QB}{xs:List Int}{k:Nat}{y:Int}(h:(xs.drop 1)[k]? =some y):jk st xs (k+1)=mq st (jk st xs k) y:=by
 unfold jk;rw[rK (l:=xs.drop 1),h,List.foldl_append];rfl
theorem Bf(st:QB)(xs:List Int):∀k,(jk st xs k).length<=2^k
 |0=>by show([xs.take 1]:List (List Int)).length<=1;simp
 |k+1=>by
  have ih:=Bf st xs k;cases e:(xs.drop 1)[k]? with
  |none=>
   have:jk st xs (k+1)=jk st xs k:=by unfold jk;rw[rK (l:=xs.drop 1),e];simp
   rw[this];exact dO ih (Yq (by decide) (Ft k))
  |some y=>
   rw[pW e];unfold mq;rw[gB,aJ];have:=wk (fun p=>st p y) (jk st xs k);rw[wgp];omega
theorem iz{st:QB}{x:Int}{r:List Int}:∀(k:Nat),∀p∈jk st (x::r) k,p.Sublist (x::r.take k)/\x∈p
 |0,p,h=>by
  have h':p∈[[x]]:=h;rw[fL.mp h'];exact⟨by simp,wdf _⟩
 |k+1,p,h=>by
  cases e:r[k]? with
  |none=>
   have e1:jk st (x::r) (k+1)=jk st (x::r) k:=by unfold jk;show((r.take (k+1)).foldl _ _)=((r.take k).foldl _ _);rw[rK (l:=r),e];simp
   rw[e1]at h;obtain⟨h1,h2⟩:=iz k p h;exact⟨h1.trans (by rw[rK,e];simp),h2⟩
  |some y=>
   rw[pW (xs:=x::r) (show((x::r).drop 1)[k]? =some y from e)]at h;have et:x::r.take (k+1)=(x::r.take k)++[y]:=by rw[rK,e];rfl
   rw[et];rcases g8.mp h with z|z
   ·obtain⟨h1,h2⟩:=iz k p z;exact⟨h1.trans (wfo _ _),h2⟩
   ·obtain⟨q,hq,rfl⟩:=kj.mp z;obtain⟨h1,h2⟩:=iz k q (kI.mp hq).1;exact⟨h1.append (YG _),Qs _ h2⟩
theorem jO{st:QB}{x:Int}{r:List Int}{p:List Int}(h:p∈Ze st (x::r)):p.Sublist (x::r)/\x∈p:=by
 rw[<-Bg]at h;have:=iz _ p h;have e:r.take ((x::r).drop 1).length=r:=wg;rw[e]at this;exact this
theorem Ox(st:QB)(xs:List Int):Ze st xs≠[]:=by
 have key:∀(l:List Int) (f:List (List Int)),f≠[]->l.foldl (mq st) f≠[]:=fun l=>by
  induction l with
  |nil=>intro f h;exact h
  |cons a l ih=>intro f h;exact ih _ (by unfold mq;intro z;exact h (List.append_eq_nil_iff.mp z).1)
 exact key _ _ (by simp)
def cY(ts:L0):QB:=fun part x=> !(part.any fun o=>bZ ts o x)
noncomputable abbrev fparts(ts:L0):List Int->List (List Int):=Ze (cY ts)
theorem xQ{ts:L0}{xs p:List Int}(h:p∈fparts ts xs):p.Pairwise fun a b=>bZ ts a b=false:=by
 have key:∀(l:List Int) (f:List (List Int)),(∀p∈f,p.Pairwise fun a b=>bZ ts a b=false)->∀p∈l.foldl (mq (cY ts)) f,p.Pairwise fun a b=>bZ ts a b=false:=fun l=>by
  induction l with
  |nil=>intro f h;exact h
  |cons a l ih=>
   intro f h;refine ih _ fun p hp=> ?_;rcases g8.mp hp with z|z
   ·exact h p z
   ·obtain⟨q,hq,rfl⟩:=kj.mp z;obtain⟨h1,h2⟩:=kI.mp hq;rw[Yr];refine⟨h q h1,ZR _ _,fun o ho y hy=> ?_⟩;rw[fL.mp hy];unfold cY at h2;rw[YJ,Yp]at h2;have:=h2 o ho;simpa using this
 refine key _ _ (fun p hp=> ?_) p h;rw[fL.mp hp];cases xs with
 |nil=>exact List.Pairwise.nil
 |cons x r=>exact ZR _ _
def M4:List Int->Int
 |[]=>0
 |[a]=>a
 |a::b::l=>if a<=M4 (b::l)then a else M4 (b::l)
theorem MP:∀{ns:List Int},ns≠[]->M4 ns∈ns/\∀n∈ns,M4 ns<=n
 |[],h=>absurd rfl h
 |[a],_=>⟨wdf _,fun n hn=>by rw[fL.mp hn];exact Fq _⟩
 |a::b::l,_=>by
  obtain⟨h1,h2⟩:=MP (ns:=b::l) (by simp);show(if a<=M4 (b::l)then a else M4 (b::l))∈_/\∀n∈_,(if a<=M4 (b::l)then a else M4 (b::l))<=n;by_cases c:a<=M4 (b::l)
  ·rw[aB c];refine⟨dY,fun n hn=> ?_⟩;rcases cF.mp hn with z|z
   ·rw[z];exact Fq _
   ·exact Int.le_trans c (h2 n z)
  ·rw[aq c];refine⟨dZ _ h1,fun n hn=> ?_⟩;rcases cF.mp hn with z|z
   ·rw[z];omega
   ·exact h2 n z
theorem mnL_eq{ns:List Int}{m:Int}(h1:m∈ns)(h2:∀n∈ns,m<=n):m=M4 ns:=by
 have hn:ns≠[]:=fun e=>by rw[e]at h1;cases h1
 obtain⟨a,b⟩:=MP hn;exact Int.le_antisymm (h2 _ a) (b _ h1)
def N8(g:List Int->Int)(ts:L0)(xs:List Int):Int:=if xs=[]then 0 else 1+M4 ((fparts ts xs).map fun p=>g (wo xs p))
theorem vU{g g':List Int->Int}{ts:L0}{xs:List Int}(h:∀ys:List Int,ys.Sublist xs->ys≠xs->g ys=g' ys):N8 g ts xs=N8 g' ts xs:=by
 unfold N8;cases xs with
 |nil=>rfl
 |cons x r=>
  rw[aq (by simp),aq (by simp)];congr 2;exact ZL fun p hp=>h _ (oM _ _) (Ku (jO hp).2)
def Ec(ts:L0):Nat->List Int->Int
 |0,_=>0
 |k+1,xs=>N8 (Ec ts k) ts xs
theorem uD(ts:L0):∀(k j:Nat) (xs:List Int),xs.length<=k->xs.length<=j->Ec ts k xs=Ec ts j xs
 |0,j,xs,h,_=>by
  have e:xs=[]:=List.length_eq_zero_iff.mp (Nat.le_zero.mp h);subst e;cases j with
  |zero=>rfl
  |succ j=>rfl
 |k+1,0,xs,_,h=>by
  have e:xs=[]:=List.length_eq_zero_iff.mp (Nat.le_zero.mp h);subst e;rfl
 |k+1,j+1,xs,h1,h2=>by
  show N8 (Ec ts k) ts xs=N8 (Ec ts j) ts xs;refine vU fun ys hs hn=> ?_;have:ys.length<xs.length:=Kp hs.length_le fun e=>hn (hs.eq_of_length e);exact uD ts k j ys (by omega) (by omega)
def nW(ts:L0)(xs:List Int):Int:=Ec ts xs.length xs
theorem flo_eq(ts:L0)(xs:List Int):nW ts xs=N8 (nW ts) ts xs:=by
 unfold nW;rw[uD ts xs.length (xs.length+1) xs (aN _) (Ft _)];refine vU (g:=Ec ts xs.length) fun ys hs hn=> ?_;exact uD ts _ _ ys hs.length_le (aN _)
theorem Tq(ts:L0):nW ts []=0:=rfl
theorem OD{ts:L0}{xs p:List Int}(hx:xs≠[])(hp:p∈fparts ts xs)(hb:∀q∈fparts ts xs,nW ts (wo xs p)<=nW ts (wo xs q)):nW ts xs=1+nW ts (wo xs p):=by
 rw[flo_eq,N8,aq hx];rw[<-mnL_eq (m:=nW ts (wo xs p)) (kj.mpr ⟨p,hp,rfl⟩) fun n hn=> ?_];obtain⟨q,hq,rfl⟩:=kj.mp hn;exact hb q hq
def qZ(f:List Int->Int)(l:List (List Int)):List (List Key×V):=l.map fun s=>(s.map Sum.inl,V.int (f s))
theorem Ao:∀{a b:List Int},(a.map (Sum.inl (β:=Str))=b.map Sum.inl)->a=b
 |[],[],_=>rfl
 |[],_::_,h=>by cases h
 |_::_,[],h=>by cases h
 |a::l,b::m,h=>by
  rw[Ca,Ca]at h;injection h with h1 h2
  injection h1 with h1
  rw[h1,Ao h2]
theorem jw(f:List Int->Int)(k:List Int):∀l:List (List Int),valV (qZ f l) (k.map Sum.inl)=if k∈l then some (.int (f k))else none
 |[]=>rfl
 |s::l=>by
  show valV ((s.map Sum.inl,V.int (f s))::qZ f l) (k.map Sum.inl)=_;by_cases e:s=k
  ·subst e;rw[valV_pos rfl,aB dY]
  ·rw[valV_neg (fun z=>e (Ao z)),jw f k l];by_cases c:k∈l
   ·rw[aB c,aB (dZ _ c)]
   ·rw[aq c,aq fun z=>(cF.mp z).elim (fun y=>e y.symm) c]
theorem Lk{f:List Int->Int}{l:List (List Int)}{s:List Int}(h:s∉l):putK (qZ f l) (s.map Sum.inl) (.int (f s))=qZ f (l++[s]):=by
 rw[putK_new _ (by rw[jw,aq h])];unfold qZ;rw[bV];rfl
theorem Ln(f:List Int->Int)(l:List (List Int)):(qZ f l).length=l.length:=aJ _
def wJ(hs:List Int)(p:List Int)(h:Int):List Int:=p.foldl (fun l q=>l.set q.toNat h) hs
theorem tM(h:Int):∀(p hs:List Int),(wJ hs p h).length=hs.length
 |[],_=>rfl
 |q::p,hs=>by
  show(wJ (hs.set q.toNat h) p h).length=_;rw[tM h p,wed]
theorem Oc{hs:List Int}{a b:Nat}{h:Int}(hb:b<hs.length):(hs.set a h).getD b 0=if a=b then h else hs.getD b 0:=by
 rw[oK,wdn];by_cases e:a=b
 ·subst e;rw[aB rfl,aB hb,aB rfl];rfl
 ·rw[aq e,aq e,oK]
theorem vW(h:Int){b:Nat}:∀(p hs:List Int),b<hs.length->(∀q∈p,0<=q)->(wJ hs p h).getD b 0=if(b:Int)∈p then h else hs.getD b 0
 |[],hs,_,_=>by rw[aq (by simp)];rfl
 |q::p,hs,hb,hp=>by
  show(wJ (hs.set q.toNat h) p h).getD b 0=_;rw[vW h p _ (by rw[wed];exact hb) fun z hz=>hp z (dZ _ hz),Oc hb];have hq:=hp q dY;by_cases c:(b:Int)∈p
  ·rw[aB c,aB (dZ _ c)]
  ·rw[aq c];by_cases e:q.toNat=b
   ·rw[aB e,aB (by rw[show(b:Int)=q by omega];exact dY)]
   ·rw[aq e,aq fun z=>(cF.mp z).elim (fun y=>e (by omega)) c]
structure vA(ts:L0)(n:Nat)(k:Int)(xs:List Int)(h:Int)(hs:List Int):Prop where
 len:hs.length=n
 sub:xs.Sublist (pq n)
 h0:0<=h
 sum:h+nW ts xs=k
 out:∀p:Nat,p<n->(p:Int)∉xs->0<=hs.getD p 0/\hs.getD p 0<h
 all:∀c,0<=c->c<h->∃p:Nat,p<n/\(p:Int)∉xs/\hs.getD p 0=c
 ok:∀a b:Nat,a<n->b<n->(a:Int)∉xs->(b:Int)∉xs->bZ ts (a:Int) (b:Int)=true->hs.getD a 0≠hs.getD b 0
theorem vA.start(ts:L0)(n:Nat):vA ts n (nW ts (pq n)) (pq n) 0 (List.replicate n 0):=by
 have no:∀p:Nat,p<n->(p:Int)∉pq n->False:=fun p hp h=>h (rT.mpr ⟨by omega,by omega⟩);exact⟨ydz,YG _,Fq _,by omega,fun p hp h=>(no p hp h).elim,fun c h1 h2=>by omega,fun a b ha hb h=>(no a ha h).elim⟩
theorem KQ(ts:L0)(a b:Int):bZ ts a b=bZ ts b a:=by
 unfold bZ;rcases Int.lt_trichotomy a b with c|c|c
 ·rw[aq (show¬b<a by omega),aB (show b>a by omega),aB (show a<b by omega),aq (show¬a>b by omega)]
 ·rw[c]
 ·rw[aB (show b<a by omega),aq (show¬b>a by omega),aq (show¬a<b by omega),aB (show a>b by omega)]
theorem wN{ts:L0}{n:Int}(hp:eO n ts):∀{p:List Int},(p.Pairwise fun a b=>bZ ts a b=false)->∀a∈p,∀b∈p,bZ ts a b=false
 |_,h,a,ha,b,hb=>by
  by_cases e:a=b
  ·subst e;rw[tied_eq hp];unfold bM;have:(a,a)∉ts:=fun z=>by have:=(hp.lt _ z).2.1;dsimp only at this;omega
   simp[this]
  ·obtain⟨i,hi,rfl⟩:=Fz ha;obtain⟨j,hj,rfl⟩:=Fz hb;have hij:i≠j:=fun z=>e (by subst z;rfl);rcases Nat.lt_or_gt_of_ne hij with c|c
   ·exact Ue.mp h i j hi hj c
   ·rw[KQ];exact Ue.mp h j i hj hi c
theorem vA.step{ts:L0}{n:Nat}{k h:Int}{xs hs p:List Int}(I:vA ts n k xs h hs)(hok:eO (n:Int) ts)(hx:xs≠[])(hp:p∈fparts ts xs)(hb:∀q∈fparts ts xs,nW ts (wo xs p)<=nW ts (wo xs q)):vA ts n k (wo xs p) (h+1) (wJ hs p h):=by
 obtain⟨x,r,rfl⟩:∃x r,xs=x::r:=by cases xs with |nil=>exact absurd rfl hx|cons x r=>exact⟨x,r,rfl⟩
 obtain⟨ps,px⟩:=jO hp;have pr:∀q∈p,0<=q/\q<(n:Int):=fun q hq=>rT.mp (I.sub.subset (ps.subset hq));have p0:∀q∈p,0<=q:=fun q hq=>(pr q hq).1;have ap:=wN hok (xQ hp);have gv:∀b:Nat,b<n->(wJ hs p h).getD b 0=if(b:Int)∈p then h else hs.getD b 0:=fun b hb=>vW h p hs (by rw[I.len];exact hb) p0
 have nx:∀b:Nat,(b:Int)∉wo (x::r) p->(b:Int)∉p->(b:Int)∉x::r:=fun b h1 h2 h3=>h1 (xg.mpr ⟨h3,h2⟩);refine⟨by rw[tM];exact I.len,(oM _ _).trans I.sub,by have:=I.h0;omega,?_,fun b hb hn=> ?_,fun c h1 h2=> ?_,fun a b ha hb na nb ht=> ?_⟩
 ·have:=OD hx hp hb;have:=I.sum;omega
 ·rw[gv b hb];by_cases c:(b:Int)∈p
  ·rw[aB c];have:=I.h0;omega
  ·rw[aq c];have:=I.out b hb (nx b hn c);omega
 ·by_cases e:c=h
  ·have:=pr x px;refine⟨x.toNat,by omega,fun z=> ?_,?_⟩
   ·rw[show((x.toNat:Nat):Int)=x by omega]at z;exact(xg.mp z).2 px
   ·rw[gv _ (by omega),aB (by rw[show((x.toNat:Nat):Int)=x by omega];exact px),e]
  ·obtain⟨b,b1,b2,b3⟩:=I.all c h1 (by omega);refine⟨b,b1,fun z=>b2 (xg.mp z).1,?_⟩;rw[gv b b1,aq fun z=>b2 (ps.subset z)];exact b3
 ·rw[gv a ha,gv b hb];by_cases ca:(a:Int)∈p
  ·by_cases cb:(b:Int)∈p
   ·rw[ap _ ca _ cb]at ht;cases ht
   ·rw[aB ca,aq cb];have:=I.out b hb (nx b nb cb);omega
  ·by_cases cb:(b:Int)∈p
   ·rw[aq ca,aB cb];have:=I.out a ha (nx a na ca);omega
   ·rw[aq ca,aq cb];exact I.ok a b ha hb (nx a na ca) (nx b nb cb) ht
structure Ez(ts:L0)(n:Nat)(k:Int)(hs:List Int):Prop where
 len:hs.length=n
 k0:0<=k
 rg:∀p:Nat,p<n->0<=hs.getD p 0/\hs.getD p 0<k
 all:∀c,0<=c->c<k->∃p:Nat,p<n/\hs.getD p 0=c
 ok:∀a b:Nat,a<n->b<n->bZ ts (a:Int) (b:Int)=true->hs.getD a 0≠hs.getD b 0
theorem vA.done{ts:L0}{n:Nat}{k h:Int}{hs:List Int}(I:vA ts n k [] h hs):Ez ts n k hs:=by
 have e:h=k:=by have:=I.sum;rw[Tq]at this;omega
 subst e;exact⟨I.len,I.h0,fun p hp=>I.out p hp (by simp),fun c h1 h2=>by obtain⟨p,h3,_,h4⟩:=I.all c h1 h2;exact⟨p,h3,h4⟩,fun a b ha hb ht=>I.ok a b ha hb (by simp) (by simp) ht⟩
section
variable{P:ρ}{w:υ}{K:W.Frag}{mg:L4}{base:Heap}
theorem abf{α:Type}(p:α->Bool)(a:α):[a].filter p=if p a=true then[a]else[]:=by
 by_cases c:p a=true
 ·rw[aB c,List.filter_cons_of_pos c];rfl
 ·rw[aq c,List.filter_cons_of_neg c];rfl
theorem yO(n:Nat):cX n=(pq n).map V.int:=by unfold cX pq;rw[Yi];rfl
theorem keyV(xs:List Int):(xs.map (Sum.inl (β:=Str))).map kV=xs.map V.int:=by rw[Yi];rfl
abbrev KnS(H:Hp)(its:List (Addr×List Int)):Prop:=∀p∈its,H p.1=some (.tup (p.2.map V.int))
def vK(K:W.Frag):Sp:=fun vs H Q _=>∃n:Int,vs=[.int n]/\0<=n/\n<=10/\∀(r:Addr) (its:List (Addr×List Int)) H',Same H H'->H' r=some (.lst (its.map fun p=>V.ref p.1))->KnS H' its->its.map (·.2)=cN n.toNat->Q (.ref r) H'
theorem Dv{f:Addr}{fd:τ}(F:Fun K "all_sets" "all_sets" lU f fd)(aL:mg "range"=none):
  FnOk P w K mg base CX0 1 f fd ["n"] (vK K):=by
 refine F.dM ["n","found","place"] fun cdv A outer s H vs Q E hr h=> ?_;obtain⟨n,rfl,h0,h1,q⟩:=h;refine bf ?_;intro Y;refine⟨_,(aP (pS 1 (lE (aj (oF aA) aA))) (aP (u6 rM rfl (Fp rfl aL (aj (pv 0) aA)) (pG 2) (bw (pS 1 (bJ yE (pv 1) (pK ["some"] ["place"] [2] (rG (pv 1)) (pG 0) qG (bJ Rz (pv 0) (oF (aj (pv 1) aA)))))))) (bw (cT (pv 1))))),?_⟩;refine jd ?_;intro c3 c2;refine⟨(by show 0<=sizeLine;decide),fun p0 hp0=> ?_⟩;have s0:=aO hp0 (.tup []);refine⟨(by show 1<=sizeLine;decide),fun l0 hl0=> ?_⟩;have s1:=aO hl0 (.lst [.ref p0]);refine⟨_,rfl,n,rfl,by omega,by omega,?_⟩;let gq:Nat->St->Hp->Prop:=fun k σ H'=>∃(l:Addr) (its:List (Addr×List Int)) (b2:Option V),σ=[some (.int n),some (.ref l),b2]/\Same H H'/\H' l=some (.lst (its.map fun p=>V.ref p.1))/\KnS H' its/\its.map (·.2)=cN k;refine Qn (n:=n.toNat) gq ⟨l0,[(p0,[])],_,rfl,s0.trans s1,aH,fun p hp=>by rw[fL.mp hp];exact s1 _ _ aH,rfl⟩ (fun k σ H1 hk p=> ?_) (fun σ H1 p=> ?_)
 ·obtain⟨l,its,b2,rfl,sm,hl,hT,hm⟩:=p;have hlen:its.length=2^k:=by rw[<-jR k,<-hm,aJ]
  have acf:2^k<=512:=Yq (n:=2) (by decide) (show k<=9 by omega);refine⟨_,rfl,_,rfl,l,_,rfl,SqL.of hl,fun hz=> ?_⟩;let qe:Nat->List V->St->Hp->Prop:=fun i acc σ H2=>∃jts:List (Addr×List Int),acc=jts.map (fun p=>V.ref p.1)/\jts.map (·.2)=((its.take i).map (·.2)).map (fun s=>s++[(k:Int)])/\KnS H2 jts/\Same H1 H2/\∃o,σ=[o,some (.int (0+(k:Int)))];refine Cm (xs:=its.map fun p=>V.ref p.1) qe ⟨[],rfl,rfl,fun p hp=>(nomatch hp),Same.refl _,_,rfl⟩ (fun i acc σ H2 _ p=> ?_) (fun i acc σ H2 hi p=> ?_) hz (fun i x acc σ H2 hx p=> ?_) (fun acc σ H2 p=> ?_)
  ·obtain⟨_,_,_,_,s2,_⟩:=p;exact s2.seq (SqL.of hl)
  ·obtain⟨jts,rfl,hj,_⟩:=p;have:=iD List.length hj;simp only[aJ,m5]at this;rw[aJ,this];exact yJ _ _
  ·obtain⟨jts,rfl,hj,hJ,s2,o,rfl⟩:=p;rw[dD]at hx;cases ex:its[i]? with
   |none=>rw[ex]at hx;cases hx
   |some v=>
    rw[ex]at hx;cases hx;have mv:=jq ex;have lv:v.2.length<=10:=by
     have:=oh k v.2 (by rw[<-hm];exact ZG mv);omega
    refine⟨_,rfl,_,rfl,(by show 1<=sizeLine;decide),fun p1 hp1=> ?_⟩;have s3:=aO hp1 (.tup [.int (0+(k:Int))]);refine⟨v.1,p1,_,_,rfl,rfl,(s2.trans s3) _ _ (hT v mv),aH,(by rw[aJ,eE];show _+1<=_;omega),fun r H4 s4 h4=> ?_⟩;have ek:(0+(k:Int))=(k:Int):=by omega
    have Qx:=s3.trans s4;refine⟨jts++[(r,v.2++[(k:Int)])],by rw[bV];rfl,?_,fun p hp=> ?_,s2.trans Qx,_,rfl⟩
    ·rw[bV,hj,rK,ex,bV,bV];rfl
    ·rcases g8.mp hp with z|z
     ·exact Qx _ _ (hJ p z)
     ·rw[fL.mp z];show H4 r=some (.tup ((v.2++[(k:Int)]).map V.int));rw[bV,<-ek];exact h4
  ·intro p1 hp1;obtain⟨jts,rfl,hj,hJ,s2,o,rfl⟩:=p;rw[aJ,wg,hm]at hj;have hjl:jts.length=2^k:=by
    have:=iD List.length hj;rw[aJ,aJ,jR]at this;exact this
   have s3:=aO hp1 (.lst (jts.map fun p=>V.ref p.1));refine⟨l,p1,_,_,rfl,rfl,s3 _ _ (s2 _ _ hl),aH,(by rw[aJ,aJ,hjl,hlen,eE];omega),fun l2 hl2=> ?_⟩;have s4:=aO hl2 (.lst (its.map (fun p=>V.ref p.1)++jts.map fun p=>V.ref p.1));have Qx:=s3.trans s4;refine⟨l2,its++jts,_,rfl,sm.trans (s2.trans Qx),by rw[aH,bV],fun p hp=> ?_,?_⟩
   ·rcases g8.mp hp with z|z
    ·exact(s2.trans Qx) _ _ (hT p z)
    ·exact Qx _ _ (hJ p z)
   ·rw[bV,hm,hj];rfl
 ·obtain⟨l,its,b2,rfl,sm,hl,hT,hm⟩:=p;exact⟨_,rfl,q l its H1 sm hl hT hm⟩
noncomputable def ig(K:W.Frag):Sp:=fun vs H Q _=>∃(a b:Addr) (xs ys:List Int),vs=[.ref a,.ref b]/\SqT K H a (xs.map V.int)/\SqT K H b (ys.map V.int)/\∀r H',Same H H'->H' r=some (.tup ((wo xs ys).map V.int))->Q (.ref r) H'
theorem Dr{f:Addr}{fd:τ}(F:Fun K "without" "without" iu f fd)(bA:mg "tuple"=none):
  FnOk P w K mg base CX0 1 f fd ["some","part"] (ig K):=by
 refine F.dM ["some","part"] fun cdv A outer s H vs Q E hr h=> ?_;obtain⟨a,b,xs,ys,rfl,hA,hB,q⟩:=h;refine⟨_,(bw (cT (pT Yg bA (aj (pK ["place"] ["part"] [1] (Hx (pv 0)) (pG 0) (Hy (jg (Dq K hr.units) (pv 0) (pv 1) (by with_unfolding_all rfl))) (pv 0)) aA)))),?_⟩;refine⟨_,rfl,a,_,rfl,hA,fun hz=> ?_⟩;let JL:Nat->List V->St->Hp->Prop:=fun k acc σ H'=>acc=((xs.take k).filter fun o=> !decide (o∈ys)).map V.int/\Same H H'/\∃o,σ=[o,some (.ref b)];refine JV (xs:=xs.map V.int) JL ⟨rfl,Same.refl _,_,rfl⟩ (fun k acc σ H' _ p=>p.2.1.tup hA) (fun k acc σ H' hk p=> ?_) hz (fun k x acc σ H' hx pp=> ?_) (fun acc σ H' p=> ?_)
 ·rw[p.1,aJ];exact dO (wk _ _) (by rw[m5];exact yJ _ _)
 ·obtain⟨rfl,sm,o,rfl⟩:=pp;rw[dD]at hx;cases ex:xs[k]? with
  |none=>rw[ex]at hx;cases hx
  |some y=>
   rw[ex]at hx;cases hx;obtain⟨hk,ey⟩:=m6.mp ex;have e:=zby (p:=fun o=> !decide (o∈ys)) hk;rw[ey]at e;refine⟨_,rfl,_,rfl,b,_,_,.int y,rfl,.inr (sm.tup hB),cU.ints ys,.int _,Kf ys,rfl,(by show 0<=60;decide),_,rfl,?_⟩;rw[any_ints];refine ite2 (fun c=> ?_) (fun c=> ?_)
   ·exact⟨_,rfl,by rw[e,aB c,bV];rfl,sm,_,rfl⟩
   ·exact⟨by rw[e,aq c,u9],sm,_,rfl⟩
 ·intro p1 hp1;obtain⟨rfl,sm,_⟩:=p;refine⟨p1,_,rfl,.inl ⟨SqL.of aH,fun l hl=> ?_⟩⟩;exact q l _ (sm.trans ((aO hp1 _).trans (aO hl _))) (by rw[aH,aJ,wg];rfl)
def Gg(K:W.Frag):Sp:=fun vs H Q _=>∃(a b:Addr) (n x:Int) (ts:L0) (ps:List Int),vs=[.ref a,.ref b,.int x]/\iV K H a n ts/\SqT K H b (ps.map V.int)/\∀H',Same H H'->Q (.bl (cY ts ps x)) H'
theorem Mr{f f1:Addr}{fd d1:τ}(F:Fun K "can_stand_with" "can_stand_with" zcw f fd)(D1:bQ K mg "has_tie" iw ["web","one","other"] f1 d1)(G1:FnOk P w K mg base CX0 1 f1 d1 ["web","one","other"] (Gm K))(M8:mg "any"=none):
  FnOk P w K mg base CX0 2 f fd ["web","part","place"] (Gg K):=by
 refine F.dM ["web","part","place"] fun cdv A outer s H vs Q E hr h=> ?_;obtain⟨a,b,n,x,ts,ps,rfl,hW,hB,q⟩:=h;refine⟨_,(bw (cT (pe_not (pB (Bu rfl) M8 (aj (pK ["other"] ["web","place"] [0,2] (Hx (pv 1)) (pG 0) qG (pc G1 hr D1 (aj (pv 1) (aj (pv 0) (aj (pv 2) aA))))) aA))))),?_⟩;refine⟨_,rfl,b,_,rfl,hB,fun hz=> ?_⟩;let T4:Nat->List V->St->Hp->Prop:=fun k acc σ H'=>acc=(((ps.take k).map fun o=>bZ ts o x)).map V.bl/\Same H H'/\∃o,σ=[o,some (.ref a),some (.int x)];refine JV (xs:=ps.map V.int) T4 ⟨rfl,Same.refl _,_,rfl⟩ (fun k acc σ H' _ p=>p.2.1.tup hB) (fun k acc σ H' hk p=> ?_) hz (fun k v acc σ H' hx pp=> ?_) (fun acc σ H' p=> ?_)
 ·rw[p.1,aJ,aJ,m5];exact yJ _ _
 ·obtain⟨rfl,sm,o,rfl⟩:=pp;rw[dD]at hx;cases ex:ps[k]? with
  |none=>rw[ex]at hx;cases hx
  |some y=>
   rw[ex]at hx;cases hx;refine⟨_,rfl,_,rfl,_,rfl,a,n,y,x,ts,rfl,hW.same sm,fun H2 s2=>⟨?_,sm.trans s2,_,rfl⟩⟩;rw[rK,ex,bV,bV];rfl
 ·intro p1 hp1;obtain⟨rfl,sm,_⟩:=p;refine⟨p1,_,rfl,SqL.of aH,_,rfl,?_⟩;have e:(!(((ps.take (ps.map V.int).length).map fun o=>bZ ts o x).any id))=cY ts ps x:=by
   rw[aJ,wg,whp];rfl
  rw[e];exact q _ (sm.trans (aO hp1 _))
abbrev v9(K:W.Frag)(H:Hp)(its:List (Addr×List Int)):Prop:=∀p∈its,SqT K H p.1 (p.2.map V.int)
theorem v9.same{H H':Hp}{its:List (Addr×List Int)}(h:v9 K H its)(e:Same H H'):v9 K H' its:=fun p hp=>e.tup (h p hp)
theorem abY(xs:List Int):cutV (xs.map V.int) none (some 1)=(xs.take 1).map V.int:=by
 cases xs with
 |nil=>rfl
 |cons x r=>
  unfold cutV HT.sIx;simp
  try omega
theorem abX(xs:List Int):cutV (xs.map V.int) (some 1) none=(xs.drop 1).map V.int:=by
 cases xs with
 |nil=>rfl
 |cons x r=>
  unfold cutV HT.sIx;simp;rw[Cd (by rw[aJ];exact aN _)]
def tu(K:W.Frag):Sp:=fun vs H Q _=>∃(a b:Addr) (n:Int) (ts:L0) (xs:List Int),vs=[.ref a,.ref b]/\iV K H a n ts/\SqT K H b (xs.map V.int)/\xs.length<=10/\
 ∀(r:Addr) (its:List (Addr×List Int)) H',Same H H'->H' r=some (.lst (its.map fun p=>V.ref p.1))->v9 K H' its->its.map (·.2)=fparts ts xs->H r=none->Q (.ref r) H'
theorem Je{f f1:Addr}{fd d1:τ}(F:Fun K "first_parts" "first_parts" zda f fd)(D1:bQ K mg "can_stand_with" zcw ["web","part","place"] f1 d1)(G1:FnOk P w K mg base CX0 2 f1 d1 ["web","part","place"] (Gg K)):
  FnOk P w K mg base CX0 3 f fd ["web","some"] (tu K):=by
 refine F.dM ["web","some","found","place"] fun cdv A outer s H vs Q E hr h=> ?_;obtain⟨a,b,n,ts,xs,rfl,hW,hB,hlen,q⟩:=h;refine bf ?_;intro Y;refine⟨_,(aP (pS 2 (lE (aj (yH m8 (pv 1) vC (vD aQ)) aA))) (aP (u6 rM rfl (Hx (yH m8 (pv 1) (vD aQ) vC)) (pG 3) (bw (pS 2 (bJ yE (pv 2) (pK ["part"] ["web","place"] [0,3] (rG (pv 2)) (pG 0) (Hy (yG (pc G1 hr D1 (aj (pv 1) (aj (pv 0) (aj (pv 2) aA)))))) (bJ (zL K) (pv 0) (oF (aj (pv 2) aA)))))))) (bw (cT (pv 2))))),?_⟩;refine jd ?_;intro c3 c2;refine⟨_,rfl,_,rfl,b,_,rfl,hB,fun r0 H0 s0 h0=> ?_⟩;rw[abY]at h0;refine⟨(by show 1<=sizeLine;decide),fun l0 hl0=> ?_⟩;have s1:=aO hl0 (.lst [.ref r0]);refine⟨_,rfl,_,rfl,b,_,rfl,(s0.trans s1).tup hB,fun r1 H1 s2 h1=> ?_⟩;rw[abX]at h1;refine⟨r1,_,rfl,h1,fun hz=> ?_⟩;let Pv5:Nat->St->Hp->Prop:=fun k σ H'=>∃(l:Addr) (its:List (Addr×List Int)) (o3:Option V),σ=[some (.ref a),some (.ref b),some (.ref l),o3]/\Same H H'/\Same H1 H'/\H' l=some (.lst (its.map fun p=>V.ref p.1))/\v9 K H' its/\its.map (·.2)=jk (cY ts) xs k/\H l=none;refine for_tup (K:=K) (a:=r1) (xs:=(xs.drop 1).map V.int) Pv5
  ⟨l0,[(r0,xs.take 1)],_,rfl,s0.trans (s1.trans s2),Same.refl _,s2 _ _ aH,fun p hp=>by rw[fL.mp hp];exact(s1.trans s2).tup h0,rfl,s0.free hl0⟩ (fun k σ H' _ p=> ?_) (fun k x σ H2 hx p=> ?_) (fun σ H2 p=> ?_)
 ·obtain⟨_,_,_,_,_,s3,_⟩:=p;exact s3.tup h1
 ·obtain⟨l,its,o3,rfl,sm,s3,hl,hT,hm,l00⟩:=p;rw[dD]at hx;cases ek:(xs.drop 1)[k]? with
  |none=>rw[ek]at hx;cases hx
  |some y=>
   rw[ek]at hx;cases hx;have hk:k<=9:=by
    have:=(m6.mp ek).1;rw[T9]at this;omega
   have hlen2:its.length<=512:=by
    have h1:its.length=(jk (cY ts) xs k).length:=by rw[<-hm,aJ]
    rw[h1];exact dO (Bf _ _ _) (Yq (n:=2) (by decide) hk)
   have abC:∀p∈its,p.2.length<=10:=fun p hp=>by
    have hm':p.2∈jk (cY ts) xs k:=by rw[<-hm];exact ZG hp
    cases xs with
    |nil=>simp at ek
    |cons x r=>
     have:=(iz k _ hm').1.length_le;rw[uW,m5]at this;rw[uW]at hlen;omega
   refine⟨_,rfl,_,rfl,l,_,rfl,SqL.of hl,fun hz=> ?_⟩;let Pv6:Nat->List V->St->Hp->Prop:=fun i acc σ H'=>∃jts:List (Addr×List Int),acc=jts.map (fun p=>V.ref p.1)/\jts.map (·.2)=(((its.take i).map (·.2)).filter fun p=>cY ts p y).map (fun s=>s++[y])/\v9 K H' jts/\Same H2 H'/\∃o,σ=[o,some (.ref a),some (.int y)];refine Cm (xs:=its.map fun p=>V.ref p.1) Pv6 ⟨[],rfl,rfl,fun p hp=>(nomatch hp),Same.refl _,_,rfl⟩ (fun i acc σ H' _ p=> ?_) (fun i acc σ H' hi p=> ?_) hz (fun i x acc σ H4 hx p=> ?_) (fun acc σ H4 p=> ?_)
   ·obtain⟨_,_,_,_,s2,_⟩:=p;exact s2.seq (SqL.of hl)
   ·obtain⟨jts,rfl,hj,_⟩:=p;have:=iD List.length hj;rw[aJ,aJ]at this;rw[aJ,this];refine dO (wk _ _) ?_;rw[aJ,m5];exact yJ _ _
   ·obtain⟨jts,rfl,hj,hJ,s4,o,rfl⟩:=p;rw[dD]at hx;cases ex:its[i]? with
    |none=>rw[ex]at hx;cases hx
    |some v=>
     rw[ex]at hx;cases hx;have mv:=jq ex;have et:(((its.take (i+1)).map (·.2)).filter fun p=>cY ts p y)=(((its.take i).map (·.2)).filter fun p=>cY ts p y)++(if cY ts v.2 y=true then[v.2]else[]):=by
      rw[rK,ex,bV,Uc];congr 1;exact abf _ _
     refine⟨_,rfl,_,rfl,_,rfl,a,v.1,n,y,ts,v.2,rfl,hW.same (sm.trans s4),s4.tup (hT v mv),fun H5 s5=>⟨_,rfl,?_⟩⟩;refine ite2 (fun c=> ?_) (fun c=> ?_)
     ·refine⟨_,rfl,_,rfl,(by show 1<=sizeLine;decide),fun p1 hp1=> ?_⟩;have s6:=aO hp1 (.tup [.int y]);refine⟨v.1,p1,_,_,rfl,rfl,(s4.trans (s5.trans s6)).tup (hT v mv),SqT.of aH,(by have:=abC v mv;rw[aJ,eE];show _+1<=_;omega),fun r H7 s7 h7=> ?_⟩;have s57:=s5.trans (s6.trans s7);refine⟨jts++[(r,v.2++[y])],by rw[bV];rfl,?_,fun p hp=> ?_,s4.trans s57,_,rfl⟩
      ·rw[bV,hj,et,aB c,bV];rfl
      ·rcases g8.mp hp with z|z
       ·exact s57.tup (hJ p z)
       ·rw[fL.mp z];show SqT K H7 r ((v.2++[y]).map V.int);rw[bV];exact h7
     ·refine⟨jts,rfl,?_,hJ.same s5,s4.trans s5,_,rfl⟩;rw[hj,et,aq c,u9]
   ·intro p1 hp1;obtain⟨jts,rfl,hj,hJ,s4,o,rfl⟩:=p;rw[aJ,wg,hm]at hj;have hjl:jts.length<=its.length:=by
     have:=iD List.length hj;rw[aJ,aJ]at this;have e2:its.length=(jk (cY ts) xs k).length:=by rw[<-hm,aJ]
     rw[this,e2];exact wk _ _
    have s5:=aO hp1 (.lst (jts.map fun p=>V.ref p.1));refine⟨l,p1,_,_,rfl,rfl,s5 _ _ (s4 _ _ hl),aH,(by rw[aJ,aJ,eE];omega),fun l2 hl2=> ?_⟩;have s6:=aO hl2 (.lst (its.map (fun p=>V.ref p.1)++jts.map fun p=>V.ref p.1));have Qw:=s5.trans s6;refine⟨l2,its++jts,_,rfl,sm.trans (s4.trans Qw),s3.trans (s4.trans Qw),by rw[aH,bV],fun p hp=> ?_,?_,(sm.trans (s4.trans s5)).free hl2⟩
    ·rcases g8.mp hp with z|z
     ·exact(s4.trans Qw).tup (hT p z)
     ·exact Qw.tup (hJ p z)
    ·rw[bV,hm,hj,pW ek];rfl
 ·obtain⟨l,its,o3,rfl,sm,s3,hl,hT,hm,l00⟩:=p;rw[aJ,Bg]at hm;exact⟨_,rfl,q l its H2 sm hl hT hm l00⟩
theorem Same.over{H0 H H':Hp}{d:Addr}(s:Same H0 H)(n:H0 d=none)(e:aD d H H'):Same H0 H':=fun b u h=>e _ _ (fun z=>by rw[z,n]at h;cases h) (s _ _ h)
theorem iH{T a:Addr}{H:Hp}{ps:Array ζ}{o:HO}(h:H T=some (.tbl ps))(e:H a=some o)(n:∀ps,o≠.tbl ps):a≠T:=fun z=>by rw[z,h]at e;cases e;exact n _ rfl
theorem Cz{T a:Addr}{H H':Hp}{ps:Array ζ}{xs:List V}(e:aD T H H')(h:H T=some (.tbl ps))(hx:SqT K H a xs):SqT K H' a xs:=by
 rcases hx with(q|⟨o,q⟩)|q
 ·exact .inl (.inl (e _ _ (iH h q fun _ z=>nomatch z) q))
 ·exact .inl (.inr ⟨o,e _ _ (iH h q fun _ z=>nomatch z) q⟩)
 ·exact .inr q
theorem abK{T a:Addr}{H H':Hp}{ps:Array ζ}{xs:List V}(e:aD T H H')(h:H T=some (.tbl ps))(hx:SqL K H a xs):SqL K H' a xs:=by
 rcases hx with(q|⟨o,q⟩)|q
 ·exact .inl (.inl (e _ _ (iH h q fun _ z=>nomatch z) q))
 ·exact .inl (.inr ⟨o,e _ _ (iH h q fun _ z=>nomatch z) q⟩)
 ·exact .inr q
theorem Wv{T:Addr}{H H':Hp}{tb:Array ζ}(e:aD T H H')(n:H T=some (.tbl tb)){rs:List V}{ps:L0}(h:cU K H rs (ps.map pairD)):cU K H' rs (ps.map pairD):=by
 induction ps generalizing rs with
 |nil=>cases h;exact .nil
 |cons p ps ih=>
  cases h with
  |cons h tl=>
   refine .cons ?_ (ih tl);cases h with
   |tup h hd=>
    cases hd with
    |cons a1 t1=>
     cases a1;cases t1 with
     |cons a2 t2=>
      cases a2;cases t2;exact .tup (Cz e n h) (.cons (.int _) (.cons (.int _) .nil))
theorem aac{T a:Addr}{H H':Hp}{tb:Array ζ}{n:Int}{ts:L0}(h:iV K H a n ts)(e:aD T H H')(hn:H T=some (.tbl tb)):iV K H' a n ts:=by
 obtain⟨u,rs,h1,h2,h3⟩:=h;exact⟨u,rs,Cz e hn h1,Cz e hn h2,Wv e hn h3⟩
theorem cO.tbl{T a:Addr}{H H':Hp}{tb:Array ζ}{n:Int}{ts:L0}(h:cO K H a n ts)(e:aD T H H')(hn:H T=some (.tbl tb)):cO K H' a n ts:=⟨aac h.web e hn,h.h0,h.h1,h.pk,h.ok⟩
theorem _root_.L2.iC.at{H:Hp}{T:Addr}{p:Pos}{q:Str}(h:iC H T p q):∃tb,H T=some (.tbl tb):=by
 rcases h with h|⟨_,_,_,_,h,_⟩
 ·exact⟨_,h⟩
 ·exact⟨_,h⟩
theorem _root_.L2.iC.same{H H':Hp}{T:Addr}{p:Pos}{q:Str}(h:iC H T p q)(e:Same H H'):iC H' T p q:=by
 rcases h with h|⟨c,oc,vs,tq,h,h1,h2⟩
 ·exact .inl (e _ _ h)
 ·exact .inr ⟨c,oc,vs,tq,e _ _ h,e _ _ h1,h2⟩
theorem _root_.L2.iC.zu{H H':Hp}{T l:Addr}{p:Pos}{q:Str}{zs:List V}(h:iC H T p q)(e:aD l H H')(hl:H l=some (.lst zs)):iC H' T p q:=by
 rcases h with h|⟨c,oc,vs,tq,h,h1,h2⟩
 ·exact .inl (e _ _ (ne_of h hl (fun z=>nomatch z)) h)
 ·exact .inr ⟨c,oc,vs,tq,e _ _ (ne_of h hl (fun z=>nomatch z)) h,e _ _ (ne_of h1 hl (fun z=>nomatch z)) h1,h2⟩
def Xf:Pos:=match defBody QJ with
 |[.Return (some (.Call _ _ [⟨_,.Lambda _ _ _ p,_⟩] _)) _]=>p
 |_=>⟨0,0,0,0⟩
def abM:Str:=("best_part":Str)++".<locals>."++"<lambda>"
abbrev Cj(H:Hp)(T:Addr):Prop:=iC H T Xf abM
theorem Xa{xs:List Int}(c:(!(!((xs.map V.int).isEmpty)))=true):xs=[]:=by
 cases xs with
 |nil=>rfl
 |cons x r=>exact absurd c (by show¬(!(!false))=true;decide)
theorem aaP{xs:List Int}(c:¬(!(!((xs.map V.int).isEmpty)))=true):xs≠[]:=fun e=>by subst e;exact c rfl
def K8(K:W.Frag):Sp:=fun vs H Q _=>∃(a d b:Addr) (n:Int) (ts:L0) (xs:List Int) (kvs:List (List Key×V)) (g:List Int->Int),vs=[.ref a,.ref d,.ref b]/\iV K H a n ts/\H d=some (.dT kvs)/\SqT K H b (xs.map V.int)/\xs.length<=10/\
 (xs≠[]->∀p∈fparts ts xs,valV kvs ((wo xs p).map Sum.inl)=some (.int (g (wo xs p))))/\∀H',Same H H'->Q (.int (N8 g ts xs)) H'
theorem RJ{f f1 f2:Addr}{fd d1 d2:τ}(F:Fun K "highest_floor" "highest_floor" zdj f fd)(D1:bQ K mg "first_parts" zda ["web","some"] f1 d1)(G1:FnOk P w K mg base CX0 3 f1 d1 ["web","some"] (tu K))(D2:bQ K mg "without" iu ["some","part"] f2 d2)(G2:FnOk P w K mg base CX0 1 f2 d2 ["some","part"] (ig K))(lB:mg "min"=none):
  FnOk P w K mg base CX0 4 f fd ["web","floors","some"] (K8 K):=by
 refine F.dM ["web","floors","some"] fun cdv A outer s H vs Q E hr h=> ?_;obtain⟨a,d,b,n,ts,xs,kvs,g,rfl,hW,hD,hB,hlen,hv,q⟩:=h;refine bf ?_;intro Y;refine⟨_,(aP (qW (yF (pt_truth (pv 2) (fun _=>rfl))) (bw (cT aQ)) qX) (bw (cT (bJ uU aQ (pB (v7 rfl) lB (aj (pK ["part"] ["floors","some"] [1,2] (rG (pc G1 hr D1 (aj (pv 0) (aj (pv 2) aA)))) (pG 0) qG (pe_dget (hu_of hr) (pv 1) (pc G2 hr D2 (aj (pv 2) (aj (pv 0) aA))) (fun _ _=>rfl))) aA)))))),?_⟩;refine je ?_;intro c2;refine⟨_,rfl,!((xs.map V.int).isEmpty),.inr (.inl ⟨_,hB,rfl⟩),?_⟩;refine ite2 (fun c=> ?_) (fun c=> ?_)
 ·have e:=Xa c;subst e;exact q H (Same.refl _)
 ·have hx:=aaP c;have hv:=hv hx;refine⟨_,rfl,_,rfl,a,b,n,ts,xs,rfl,hW,hB,hlen,fun r its H1 s1 hr1 hT hm hr0=>⟨r,_,rfl,SqL.of hr1,fun hz=> ?_⟩⟩;let gq:Nat->List V->St->Hp->Prop:=fun i acc σ H'=>acc=((its.take i).map fun p=>g (wo xs p.2)).map V.int/\Same H1 H'/\∃o,σ=[o,some (.ref d),some (.ref b)];refine Cm (xs:=its.map fun p=>V.ref p.1) gq ⟨rfl,Same.refl _,_,rfl⟩ (fun i acc σ H' _ p=>p.2.1.seq (SqL.of hr1)) (fun i acc σ H' _ p=> ?_) hz (fun i x acc σ H' hx p=> ?_) (fun acc σ H' p=> ?_)
  ·rw[p.1,aJ,aJ,m5];exact yJ _ _
  ·obtain⟨rfl,sm,o,rfl⟩:=p;rw[dD]at hx;cases ex:its[i]? with
   |none=>rw[ex]at hx;cases hx
   |some v=>
    rw[ex]at hx;cases hx;have mv:=jq ex;have mp:v.2∈fparts ts xs:=by rw[<-hm];exact ZG mv
    refine⟨_,rfl,_,rfl,_,rfl,b,v.1,xs,v.2,rfl,(s1.trans sm).tup hB,sm.tup (hT v mv),fun rr H2 s2 h2=> ?_⟩;have G:=DGet.t (k:=(wo xs v.2).map Sum.inl) ((s1.trans (sm.trans s2)) _ _ hD) (by rw[keyV];exact h2);rw[hv _ mp]at G;refine⟨d,_,rfl,G,?_,sm.trans s2,_,rfl⟩;rw[rK,ex,bV,bV];rfl
  ·intro p1 hp1;obtain⟨rfl,sm,_⟩:=p;have e:(its.take (its.map fun p=>V.ref p.1).length).map (fun p=>g (wo xs p.2))=(fparts ts xs).map fun p=>g (wo xs p):=by
    rw[aJ,wg,<-hm,Yi];rfl
   rw[e];refine⟨p1,_,rfl,SqL.of aH,fun z=>Ox _ _ (List.map_eq_nil_iff.mp z),fun m h1 h2=>⟨_,_,rfl,rfl,?_⟩⟩;have e2:N8 g ts xs=1+m:=by rw[mnL_eq h1 h2,N8,aq hx]
   show Q (.int (1+m)) _;rw[<-e2];exact q _ (s1.trans (sm.trans (aO hp1 _)))
def Gk(K:W.Frag):Sp:=fun vs H Q _=>∃(a:Addr) (n:Int) (ts:L0),vs=[.ref a]/\cO K H a n ts/\∀d H',Same H H'->H' d=some (.dT (qZ (nW ts) (cN n.toNat)))->H d=none->Q (.ref d) H'
theorem Mu{f f1 f2:Addr}{fd d1 d2:τ}(F:Fun K "highest_floors" "highest_floors" zcu f fd)(D1:bQ K mg "all_sets" lU ["n"] f1 d1)(G1:FnOk P w K mg base CX0 1 f1 d1 ["n"] (vK K))(D2:bQ K mg "highest_floor" zdj ["web","floors","some"] f2 d2)(G2:FnOk P w K mg base CX0 4 f2 d2 ["web","floors","some"] (K8 K)):
  FnOk P w K mg base CX0 5 f fd ["web"] (Gk K):=by
 refine F.dM ["web","floors","some"] fun cdv A outer s H vs Q E hr h=> ?_;obtain⟨a,n,ts,rfl,hA,q⟩:=h;refine bf ?_;intro Y;refine⟨_,(aP (pS 1 pe_dnewT) (aP (u6 rM rfl (rG (pc G1 hr D1 (aj (bR jo (pv 0) aQ) aA))) (pG 2) (bw (ps_dput (hu_of hr) (pv 1) (pv 2) (pc G2 hr D2 (aj (pv 0) (aj (pv 1) (aj (pv 2) aA)))) rfl))) (bw (cT (pv 1))))),?_⟩;refine jd ?_;intro c3 c2;intro d hd;have s0:=aO hd (.dT []);have h0:(upd H d (.dT [])) d=some (.dT (qZ (nW ts) ((cN n.toNat).take 0))):=aH;generalize upd H d (.dT [])=H0 at *;obtain⟨t,rs,w1,w2,w3⟩:=id (hA.web.same s0);refine⟨_,rfl,a,_,_,.int n,rfl,rfl,w1,rfl,n,rfl,hA.h0,hA.h1,fun r its H1 s1 hr1 hT hm=>⟨r,_,rfl,SqL.of hr1,fun hz=> ?_⟩⟩;have h1:=s1 _ _ h0;have nrd:r≠d:=ne_of hr1 h1 (fun z=>nomatch z);have hlen:its.length<=1024:=by
  have:its.length=2^n.toNat:=by rw[<-jR,<-hm,aJ]
  rw[this];exact Yq (n:=2) (by decide) (show n.toNat<=10 by have:=hA.h1;omega)
 let qe:Nat->St->Hp->Prop:=fun i σ H'=>Same H H'/\H' r=some (.lst (its.map fun p=>V.ref p.1))/\KnS H' its/\H' d=some (.dT (qZ (nW ts) ((cN n.toNat).take i)))/\∃o,σ=[some (.ref a),some (.ref d),o];refine QD (K:=K) (a:=r) (xs:=its.map fun p=>V.ref p.1) qe
  ⟨s0.trans s1,hr1,hT,h1,_,rfl⟩ (fun i σ H' _ p=>SqL.of p.2.1) (fun i x σ H' hx p=> ?_) (fun σ H' p=> ?_)
 ·obtain⟨sm,hr2,hT2,hd2,o,rfl⟩:=p;rw[dD]at hx;cases ex:its[i]? with
  |none=>rw[ex]at hx;cases hx
  |some v=>
   rw[ex]at hx;cases hx;have mv:=jq ex;have es:(cN n.toNat)[i]? =some v.2:=by rw[<-hm,dD,ex];rfl
   have lv:v.2.length<=10:=by
    have:=oh n.toNat v.2 (jq es);have:=hA.h1;omega
   have nv:v.2∉(cN n.toNat).take i:=fun z=>by
    obtain⟨j,hj,ej⟩:=Fz z;rw[m5]at hj;rw[List.getElem_take]at ej;have h2:=m6.mp es;obtain⟨hi,ei⟩:=h2;have:=Ue.mp (mQ n.toNat) j i (by omega) hi (by omega);exact this (ej.trans ei.symm)
   refine⟨_,rfl,_,rfl,_,rfl,a,d,v.1,n,ts,v.2,_,nW ts,rfl,hA.web.same sm,hd2,SqT.of (hT2 v mv),lv,fun hx p hp=> ?_,fun H3 s3=> ?_⟩
   ·rw[jw,aB];obtain⟨y,yr,ey⟩:∃y yr,v.2=y::yr:=by
     cases hv:v.2 with
     |nil=>exact absurd hv hx
     |cons y yr=>exact⟨y,yr,rfl⟩
    rw[ey]at hp es⊢;exact qd n.toNat i _ _ es (oM _ _) (Ku (jO hp).2)
   ·rw[<-flo_eq];refine⟨_,rfl,_,rfl,d,_,rfl,DPut.t (k:=v.2.map Sum.inl) (s3 _ _ hd2) (by rw[keyV];exact s3 _ _ (hT2 v mv)) ?_,?_⟩
    ·rw[Ln,m5,jR,eE];have:2^n.toNat<=1024:=Yq (n:=2) (by decide) (show n.toNat<=10 by have:=hA.h1;omega);omega
    ·rw[Lk nv];have xd:aD d H3 (upd H3 d (.dT (qZ (nW ts) ((cN n.toNat).take i++[v.2])))):=(aD.refl _ _).upd;refine⟨Same.over (sm.trans s3) hd xd,xd _ _ nrd (s3 _ _ hr2),fun p hp=>xd _ _ (ne_of (s3 _ _ (hT2 p hp)) (s3 _ _ hd2) (fun z=>nomatch z)) (s3 _ _ (hT2 p hp)),?_,_,rfl⟩;rw[aH,rK,es];rfl
 ·obtain⟨sm,hr2,hT2,hd2,o,rfl⟩:=p;have e:(cN n.toNat).take (its.map fun p=>V.ref p.1).length=cN n.toNat:=by
   rw[aJ,show its.length=(cN n.toNat).length by rw[<-hm,aJ],wg]
  rw[e]at hd2;exact⟨_,rfl,q d H' sm hd2 hd⟩
def La(K:W.Frag)(T:Addr):Sp:=fun vs H Q _=>∃(a d b:Addr) (n:Int) (ts:L0) (xs:List Int) (kvs:List (List Key×V)) (g:List Int->Int),vs=[.ref a,.ref d,.ref b]/\iV K H a n ts/\H d=some (.dT kvs)/\SqT K H b (xs.map V.int)/\xs≠[]/\xs.length<=10/\
 (∀p∈fparts ts xs,valV kvs ((wo xs p).map Sum.inl)=some (.int (g (wo xs p))))/\Cj H T/\∀r p H',aD T H H'->Cj H' T->SqT K H' r (p.map V.int)->p∈fparts ts xs->(∀q∈fparts ts xs,g (wo xs p)<=g (wo xs q))->Q (.ref r) H'
theorem Rf:FnScope ["web","floors","some"] ["web","floors","some"] (defScope QJ):=fsc
theorem RM{f f1 f2 c T:Addr}{fd d1 d2:τ}(F:Fun K "best_part" "best_part" QJ f fd)(hcd:fd.code= .ref c)(LB:Bx base mg c T)(D1:bQ K mg "first_parts" zda ["web","some"] f1 d1)(G1:FnOk P w K mg base CX0 3 f1 d1 ["web","some"] (tu K))(D2:bQ K mg "without" iu ["some","part"] f2 d2)(G2':FnOk P w K mg base CX0 1 f2 d2 ["some","part"] (ig K))(lB:mg "min"=none):
  FnOk P w K mg base CX0 5 f fd ["web","floors","some"] (La K T):=by
 have G2:FnOk P w K mg base CX0 2 f2 d2 ["some","part"] (ig K):=G2'.mono (by decide);refine F.okC hcd Rf (fun vs H Q E h=> ?_) (fun A outer s H vs Q E hr h=> ?_)
 ·obtain⟨a,d,b,n,ts,xs,kvs,g,rfl,_⟩:=h;rfl
 obtain⟨a,d,b,n,ts,xs,kvs,g,rfl,hW,hD,hB,hx,hlen,hv,hL,q⟩:=h;refine⟨_,(bw (cT (Iv (k:=2) (y:="part") (caps:=["floors","some"]) (ix:=[1,2]) LB rfl rfl hr rfl lB (aj (pc G1 hr D1 (aj (pv 0) (aj (pv 2) aA))) aA)
   (.cons rfl rfl (.cons rfl rfl .nil)) (fun _ _ _ _ hl=>pe_dget (hu_of hl) (pv 1) (pe_call G2 hl rfl D2.m D2.F.kp D2.b .nil pass0 (aj (pv 2) (aj (pv 0) aA))) (fun _ _=>rfl))))),?_⟩
 refine⟨_,rfl,_,rfl,a,b,n,ts,xs,rfl,hW,hB,hlen,fun r its H1 s1 hr1 hT hm hr0=> ?_⟩;have hL1:=hL.same s1;obtain⟨tb,ht⟩:=hL1.at;have hne:its≠[]:=fun z=>Ox (cY ts) xs (by rw[<-show its.map (·.2)=Ze (cY ts) xs from hm,z];rfl);refine⟨r,its,rfl,SqL.of hr1,hne,hL1,fun j=>g (wo xs (its.getD j (0,[])).2),fun _ H'=>aD T H1 H'/\Cj H' T,fun H2 e l=>⟨e,l⟩,fun j H' e=>abK e.1 ht (SqL.of hr1),fun j p H' hp e=> ?_,fun i p H' hp hb e=> ?_⟩
 ·have mp:=jq hp;have mf:p.2∈fparts ts xs:=by rw[<-hm];exact ZG mp
  have ed:its.getD j (0,[])=p:=by rw[oK,hp];rfl
  refine⟨_,rfl,_,rfl,_,rfl,b,p.1,xs,p.2,rfl,Cz e.1 ht (s1.tup hB),Cz e.1 ht (hT p mp),fun rr H2 s2 h2=> ?_⟩;have hd2:=e.1 _ _ (iH ht (s1 _ _ hD) fun _ z=>nomatch z) (s1 _ _ hD);have G:=DGet.t (k:=(wo xs p.2).map Sum.inl) (s2 _ _ hd2) (by rw[keyV];exact h2);rw[hv _ mf]at G;refine⟨d,_,rfl,G,(by show V.int _=V.int (g (wo xs (its.getD j (0,[])).2));rw[ed]),fun c o n e'=>s2 _ _ (e.1 c o n e'),e.2.same s2⟩
 ·have mp:=jq hp;have ed:its.getD i (0,[])=p:=by rw[oK,hp];rfl
  refine q p.1 p.2 H' (fun c o n e'=>e.1 c o n (s1 _ _ e')) e.2 (Cz e.1 ht (hT p mp)) (by rw[<-hm];exact ZG mp) fun z hz=> ?_;rw[<-hm]at hz;obtain⟨y,hy,rfl⟩:=kj.mp hz;obtain⟨j,hj,ej⟩:=Fz hy;have:=(hb j hj).1;have ey:its.getD j (0,[])=y:=by rw[oK,gj hj,ej];rfl
  dsimp only at this;rw[ed,ey]at this;exact this
def U3(K:W.Frag)(T:Addr):Sp:=fun vs H Q _=>∃(a d:Addr) (n:Int) (ts:L0),vs=[.ref a,.ref d]/\cO K H a n ts/\H d=some (.dT (qZ (nW ts) (cN n.toNat)))/\Cj H T/\
 ∀r hs H',aD T H H'->Cj H' T->H' r=some (.tup (hs.map V.int))->Ez ts n.toNat (nW ts (pq n.toNat)) hs->Q (.ref r) H'
theorem Lj{hs:List Int}{i:Nat}{x:Int}:(hs.map V.int).set i (.int x)=(hs.set i x).map V.int:=by rw[wgr]
theorem Wg:FnScope ["web","floors","hues","left","hue","part","place"] ["web","floors"] (defScope zbx):=fsc
theorem W9{f f1 f2 T:Addr}{fd d1 d2:τ}(F:Fun K "hues_by_floors" "hues_by_floors" zbx f fd)(D1:bQ K mg "best_part" QJ ["web","floors","some"] f1 d1)(G1:FnOk P w K mg base CX0 5 f1 d1 ["web","floors","some"] (La K T))(D2:bQ K mg "without" iu ["some","part"] f2 d2)(G2:FnOk P w K mg base CX0 1 f2 d2 ["some","part"] (ig K))(bA:mg "tuple"=none)(aL:mg "range"=none):
  FnOk P w K mg base CX0 6 f fd ["web","floors"] (U3 K T):=by
 refine F.dM ["web","floors","hues","left","hue","part","place"] fun cdv A outer s H vs Q E hr h=> ?_;obtain⟨a,d,n,ts,rfl,hA,hD,hL,q⟩:=h;refine bf ?_;intro Y;refine⟨_,(aP (pS 2 (bJ op_rep (lE (aj aQ aA)) (bR jo (pv 0) aQ))) (aP (pS 3 (qO rfl rfl bA rfl aL (aj (bR jo (pv 0) aQ) aA))) (aP (pS 4 aQ) (aP (ps_while rM (pt_truth (pv 3) (fun _=>rfl)) (aP (pS 5 (pc G1 hr D1 (aj (pv 0) (aj (pv 1) (aj (pv 3) aA))))) (aP (u6 rM rfl (Hx (pv 5)) (pG 6) (bw (ps_asg (pv 4) (pg_sub (pv 2) (pv 6) set_list)))) (aP (pS 3 (pc G2 hr D2 (aj (pv 3) (aj (pv 5) aA)))) (bw (ps_aug (i:=4) Wg.nd rfl (Or.inl rfl) aQ ip_add)))))) (bw (cT (pT Yg bA (aj (pv 2) aA)))))))),?_⟩;refine aaU ?_;intro c5 c4 c3 c2;obtain⟨t,rs,w1,w2,w3⟩:=id hA.web;have hn0:=hA.h0;have hn1:=hA.h1;refine⟨(by show 1<=sizeLine;decide),fun l0 hl0=> ?_⟩;have s0:=aO hl0 (.lst [.int 0]);refine⟨_,rfl,a,_,_,.int n,rfl,rfl,s0.tup w1,rfl,l0,n,_,rfl,rfl,aH,by omega,by omega,by rw[eE];show 1*n.toNat<=_;omega,fun l hl=> ?_⟩;have s1:=s0.trans (aO hl (.lst (List.replicate n.toNat [V.int 0]).flatten));have e0:(List.replicate n.toNat [V.int 0]).flatten=(List.replicate n.toNat 0).map V.int:=by
  rw[List.map_replicate]
  induction n.toNat with
  |zero=>rfl
  |succ k ih=>rw[Kq,Ub,ih,Kq];rfl
 have hl1:(upd (upd H l0 (.lst [.int 0])) l (.lst (List.replicate n.toNat [V.int 0]).flatten)) l=some (.lst ((List.replicate n.toNat (0:Int)).map V.int)):=by rw[aH,e0]
 have l00:H l=none:=s0.free hl;dsimp only at s1 hl1⊢;generalize upd (upd H l0 (.lst [.int 0])) l (.lst (List.replicate n.toNat [V.int 0]).flatten)=H1 at *;refine⟨_,rfl,a,_,_,.int n,rfl,rfl,s1.tup w1,rfl,n,rfl,hn0,by omega,fun lf hlf=> ?_⟩;have s2:=aO hlf (.tup (cX n.toNat));have aaQ:(upd H1 lf (.tup (cX n.toNat))) lf=some (.tup ((pq n.toNat).map V.int)):=by rw[aH,yO]
 have hl2:=s2 _ _ hl1;have s12:=s1.trans s2;dsimp only at s12 aaQ hl2⊢;generalize upd H1 lf (.tup (cX n.toNat))=H2 at *;refine⟨fun m σ H'=>∃(xs hs:List Int) (h:Int) (b:Addr) (o5 o6:Option V),m=xs.length/\σ=[some (.ref a),some (.ref d),some (.ref l),some (.ref b),some (.int h),o5,o6]/\aD T H H'/\Cj H' T/\H' l=some (.lst (hs.map V.int))/\SqT K H' b (xs.map V.int)/\vA ts n.toNat (nW ts (pq n.toNat)) xs h hs,
  ⟨_,pq n.toNat,_,0,lf,_,_,rfl,rfl,s12.x T,hL.same s12,hl2,SqT.of aaQ,vA.start ts n.toNat⟩,?_⟩
 rintro m σ H' ⟨xs,hs,h,b,o5,o6,rfl,rfl,sx,hLm,hl3,hB,HI⟩;refine⟨_,rfl,!((xs.map V.int).isEmpty),.inr (.inl ⟨_,hB,rfl⟩),?_⟩;obtain⟨tb0,ht0⟩:=hL.at;obtain⟨tb,ht⟩:=hLm.at;have nlT:l≠T:=iH ht hl3 fun _ z=>nomatch z
 refine ite2 (fun c=> ?_) (fun c=> ?_)
 ·have hx:xs≠[]:=fun e=>by subst e;exact absurd c (by decide)
  have xl:xs.length<=10:=by
   have:=HI.sub.length_le;rw[Ro]at this;omega
  have hA':=hA.tbl sx ht0;have hD':=sx _ _ (iH ht0 hD fun _ z=>nomatch z) hD;refine⟨fun σ' jm=>∃m',m'<xs.length/\∃(xs hs:List Int) (h:Int) (b:Addr) (o5 o6:Option V),m'=xs.length/\σ'=[some (.ref a),some (.ref d),some (.ref l),some (.ref b),some (.int h),o5,o6]/\aD T H jm/\Cj jm T/\jm l=some (.lst (hs.map V.int))/\SqT K jm b (xs.map V.int)/\vA ts n.toNat (nW ts (pq n.toNat)) xs h hs,fun σ' jm z=>z,?_⟩;refine⟨_,rfl,_,rfl,_,rfl,a,d,b,n,ts,xs,_,nW ts,rfl,hA'.web,hD',hB,hx,xl,fun p hp=> ?_,hLm,fun r p H3 s3 SQ hr hp hb=> ?_⟩
  ·rw[jw,aB ((eX _ _).mpr ((oM _ _).trans HI.sub))]
  ·have DW:=s3 _ _ nlT hl3;have hB3:=Cz s3 ht hB;have pin:∀z∈p,0<=z/\z<(n.toNat:Int):=fun z hz=>by
    obtain⟨y,yr,rfl⟩:∃y yr,xs=y::yr:=by
     cases xs with
     |nil=>exact absurd rfl hx
     |cons y yr=>exact⟨y,yr,rfl⟩
    exact rT.mp (HI.sub.subset ((jO hp).1.subset hz))
   refine⟨_,rfl,r,_,rfl,hr,fun hz=> ?_⟩;let gq:Nat->St->Hp->Prop:=fun i σ H'=>∃o6,σ=[some (.ref a),some (.ref d),some (.ref l),some (.ref b),some (.int h),some (.ref r),o6]/\aD l H3 H'/\H' l=some (.lst ((wJ hs (p.take i) h).map V.int));refine for_tup (K:=K) (a:=r) (xs:=p.map V.int) gq
    ⟨_,rfl,aD.refl _ _,DW⟩ (fun i σ H' _ z=> ?_) (fun i x σ H4 Xi z=> ?_) (fun σ H4 z=> ?_)
   ·obtain⟨_,_,z,_⟩:=z;exact z.tup DW hr
   ·obtain⟨o6,rfl,x4,h4⟩:=z;rw[dD]at Xi;cases ex:p[i]? with
    |none=>rw[ex]at Xi;cases Xi
    |some y=>
     rw[ex]at Xi;cases Xi;have hy:=pin y (jq ex);refine⟨_,rfl,_,rfl,_,rfl,l,_,y,y.toNat,rfl,rfl,h4,?_,_,rfl,x4.upd,?_⟩
     ·unfold ixN;rw[aB hy.1,aB (by rw[aJ,tM,HI.len];omega)]
     ·rw[aH,Lj,rK,ex];unfold wJ;rw[List.foldl_append];rfl
   ·obtain⟨o6,rfl,x4,h4⟩:=z;rw[aJ,wg]at h4;refine⟨_,rfl,_,rfl,b,r,xs,p,rfl,x4.tup DW hB3,x4.tup DW hr,fun b2 H5 s5 h5=> ?_⟩;refine⟨_,rfl,_,_,rfl,rfl,?_⟩;have xl2:aD l H3 H5:=x4.trans (s5.x l);have hL5:=(SQ.zu x4 DW).same s5;refine⟨_,?_,wo xs p,wJ hs p h,h+1,b2,_,_,rfl,rfl,fun c o nc e=> ?_,hL5,s5 _ _ h4,SqT.of h5,HI.step (by rw[show((n.toNat:Nat):Int)=n by omega];exact hA.pk) hx hp hb⟩
    ·obtain⟨y,yr,rfl⟩:∃y yr,xs=y::yr:=by
      cases xs with
      |nil=>exact absurd rfl hx
      |cons y yr=>exact⟨y,yr,rfl⟩
     exact ZX (jO hp).2
    ·exact xl2 _ _ (fun z=>by rw[z,l00]at e;cases e) (s3 _ _ nc (sx _ _ nc e))
 ·have hx:xs=[]:=by
   cases xs with
   |nil=>rfl
   |cons y yr=>exact absurd rfl c
  subst hx;refine⟨_,rfl,l,_,rfl,.inl ⟨SqL.of hl3,fun r hr=> ?_⟩⟩;exact q r hs _ (sx.trans ((aO hr _).x T)) (hLm.same (aO hr _)) aH HI.done
def UW(K:W.Frag)(T:Addr):Sp:=fun vs H Q _=>∃(a:Addr) (n:Int) (ts:L0),vs=[.ref a]/\cO K H a n ts/\Cj H T/\
 ∀r h d hs H',aD T H H'->Cj H' T->H' r=some (.tup [.int (nW ts (pq n.toNat)),.ref h,.ref d])->H' h=some (.tup (hs.map V.int))->Ez ts n.toNat (nW ts (pq n.toNat)) hs->H' d=some (.dT (qZ (nW ts) (cN n.toNat)))->H d=none->Q (.ref r) H'
theorem W7{f f1 f2 f3 T:Addr}{fd d1 d2 d3:τ}(F:Fun K "fewest" "fewest" tX f fd)(D1:bQ K mg "need_web" Kg ["thing"] f1 d1)(G1:FnOk P w K mg base CX0 7 f1 d1 ["thing"] (cG K))(D2:bQ K mg "highest_floors" zcu ["web"] f2 d2)(G2:FnOk P w K mg base CX0 5 f2 d2 ["web"] (Gk K))(D3:bQ K mg "hues_by_floors" zbx ["web","floors"] f3 d3)(G3:FnOk P w K mg base CX0 6 f3 d3 ["web","floors"] (U3 K T))(bA:mg "tuple"=none)(aL:mg "range"=none):
  FnOk P w K mg base CX0 8 f fd ["web"] (UW K T):=by
 refine F.dM ["web","floors"] fun cdv A outer s H vs Q E hr h=> ?_;obtain⟨a,n,ts,rfl,hA,hL,q⟩:=h;refine bf ?_;intro Y;refine⟨_,(aP (sH (pc G1 hr D1 (aj (pv 0) aA))) (aP (pS 1 (pc G2 hr D2 (aj (pv 0) aA))) (bw (cT (oF (aj (pe_dget (hu_of hr) (pv 1) (qO rfl rfl bA rfl aL (aj (bR jo (pv 0) aQ) aA)) (fun _ _=>rfl)) (aj (pc G3 hr D3 (aj (pv 0) (aj (pv 1) aA))) (aj (pv 1) aA)))))))),?_⟩;refine jd ?_;intro c3 c2;refine⟨_,rfl,_,oO n ts,rfl,hA.web.dv.dx,hA.ok,fun H0 s0=> ?_⟩;refine⟨_,rfl,a,n,ts,rfl,hA.same s0,fun d H1 s1 hd1 hd0=> ?_⟩;have s01:=s0.trans s1;obtain⟨t,rs,w1,w2,w3⟩:=id (hA.web.same s01);have hn0:=hA.h0;have hn1:=hA.h1;refine⟨_,rfl,_,rfl,a,_,_,.int n,rfl,rfl,w1,rfl,n,rfl,hn0,by omega,fun l hl=> ?_⟩;have s2:=aO hl (.tup (cX n.toNat));have hl2:(upd H1 l (.tup (cX n.toNat))) l=some (.tup ((pq n.toNat).map V.int)):=by rw[aH,yO]
 have Dg:=s01.trans s2;have hd2:=s2 _ _ hd1;dsimp only at Dg hl2 hd2⊢;generalize upd H1 l (.tup (cX n.toNat))=H2 at *;have G:=DGet.t (k:=(pq n.toNat).map Sum.inl) hd2 (by rw[keyV];exact hl2);rw[jw,aB ((eX _ _).mpr (YG _))]at G;refine⟨d,_,rfl,G,_,rfl,_,rfl,a,d,n,ts,rfl,hA.same Dg,hd2,hL.same Dg,fun h hs H3 s3 SQ hh HO=> ?_⟩;obtain⟨tb,ht⟩:=(hL.same Dg).at;have hd3:=s3 _ _ (iH ht hd2 fun _ z=>nomatch z) hd2;refine⟨_,rfl,(by show 3<=sizeLine;decide),fun r hr=> ?_⟩;have s4:=aO hr (.tup [.int (nW ts (pq n.toNat)),.ref h,.ref d]);exact q r h d hs _ (((Dg.x T).trans s3).trans (s4.x T)) (SQ.same s4) aH (s4 _ _ hh) HO (s4 _ _ hd3) (s0.free hd0)
def CT(K:W.Frag):Sp:=fun vs H Q _=>∃(tp:Addr) (t m:Int),vs=[.ref tp,.int m]/\H tp=some (.lst [.int t])/\0<=m/\m<=10/\
 ∀r n ts H' t',aD tp H H'->H' tp=some (.lst [.int t'])->cO K H' r n ts->n<=m->Q (.ref r) H'
theorem RN{f f1:Addr}{fd d1:τ}(F:Fun K "_law_aweb" "_law_aweb" lM f fd)(D1:bQ K mg "_law_adigit" fG ["tape","many"] f1 d1)(G1:FnOk P w K mg base CX0 1 f1 d1 ["tape","many"] (Gn K))(aL:mg "range"=none)(bA:mg "tuple"=none):
  FnOk P w K mg base CX0 2 f fd ["tape","most"] (CT K):=by
 refine F.dM ["tape","most","n","often","ties","i","j"] fun cdv A outer s H vs Q E hr h=> ?_;obtain⟨tp,t,m,rfl,hT,hm0,hm1,q⟩:=h;refine⟨_,(aP (pS 2 (pc G1 hr D1 (aj (pv 0) (aj (bJ uU (pv 1) aQ) aA)))) (aP (pS 3 (bJ uU aQ (pc G1 hr D1 (aj (pv 0) (aj aQ aA))))) (aP (pS 4 (lE aA)) (aP (u6 rM rfl (Fp rfl aL (aj (pv 2) aA)) (pG 5) (bw (u6 rM rfl (pi_range2 rfl aL (aj (bJ uU (pv 5) aQ) (aj (pv 2) aA))) (pG 6) (bw (qW (jg op_lt (pc G1 hr D1 (aj (pv 0) (aj aQ aA))) (pv 3)) (bw (sH (pe_bm HY YS YQ mt_append (pv 4) (aj (oF (aj (pv 5) (aj (pv 6) aA))) aA)))) qX))))) (bw (cT (oF (aj (pv 2) (aj (pT Yg bA (aj (pv 4) aA)) aA))))))))),?_⟩;refine⟨_,rfl,_,rfl,_,_,rfl,rfl,tp,t,m+1,rfl,hT,by omega,by omega,fun n t1 hn0 hn1'=> ?_⟩;have hn1:n<=10:=by omega
 refine⟨_,rfl,tp,t1,5,rfl,aH,by decide,by decide,fun o t2 ho0 ho1=>⟨_,_,rfl,rfl,?_⟩⟩;refine⟨(by show 0<=sizeLine;decide),fun tl htl=> ?_⟩;have ntc:tl≠tp:=ug (aH (H:=upd H tp (.lst [.int t1])) (a:=tp) (o:= .lst [.int t2])) htl;have s2:=aO htl (.lst []);have tl0:H tl=none:=by
  have z:∀t1 t2:Int,upd (upd H tp (.lst [.int t1])) tp (.lst [.int t2])=upd H tp (.lst [.int t2]):=fun _ _=>upd_upd;rw[z,bU ntc]at htl;exact htl
 refine⟨_,rfl,n,rfl,by omega,by omega,?_⟩;refine Qn (n:=n.toNat) (fun i σ H'=>aD tp H H'/\(∃t',H' tp=some (.lst [.int t']))/\gP K H' tl (rows tt n i) (fun _=>True)/\∃a4 a5,σ=[some (.ref tp),some (.int m),some (.int n),some (.int (1+o)),some (.ref tl),a4,a5])
  ⟨((aD.refl tp H).upd.upd).trans (s2.x _),⟨_,s2 _ _ aH⟩,gP.nil aH,_,_,rfl⟩ (fun i σ H' hi p=> ?_) (fun σ H' p=> ?_)
 ·obtain⟨x,⟨t0,c⟩,tl1,a4,a5,rfl⟩:=p;refine⟨_,rfl,_,_,rfl,rfl,_,rfl,_,_,rfl,⟨by omega,by omega,by omega,by omega⟩,?_⟩;refine Qn (n:=(n-(0+(i:Int)+1)).toNat) (fun k σ H'=>aD tp H H'/\(∃t',H' tp=some (.lst [.int t']))/\gP K H' tl (rows tt n i++row tt (0+(i:Int)) k) (fun _=>True)/\∃a5,σ=[some (.ref tp),some (.int m),some (.int n),some (.int (1+o)),some (.ref tl),some (.int (0+(i:Int))),a5])
   ⟨x,⟨_,c⟩,by rw[show row tt (0+(i:Int)) 0=[]from rfl,u9];exact tl1,_,rfl⟩ (fun k σ H' hk p=> ?_) (fun σ H' p=> ?_)
  ·obtain⟨x,⟨t0,c⟩,tl1,a5,rfl⟩:=p;refine⟨_,rfl,tp,t0,6,rfl,c,by decide,by decide,fun d t2 hd0 hd1=>⟨_,rfl,_,_,rfl,rfl,_,rfl,?_⟩⟩;have x2:aD tp H' (upd H' tp (.lst [.int t2])):=(aD.refl _ _).upd;have c2:(upd H' tp (.lst [.int t2])) tp=some (.lst [.int t2]):=aH;have tl2:=tl1.step x2 c ntc;have er:rows tt n i++row tt (0+(i:Int)) (k+1)=(rows tt n i++row tt (0+(i:Int)) k)++[(0+(i:Int),0+(i:Int)+1+(k:Int))]:=by rw[zx,aB (show tt _ _=true from rfl),ZF]
   rw[er];generalize upd H' tp (.lst [.int t2])=H2 at *;refine ite2 (fun cc=> ?_) (fun cc=> ?_)
   ·obtain⟨rs,ts,h1,h2,h3,h4⟩:=tl2;have hl:=sub_len hn1 (by omega) h3;have hrl:=h2.len;rw[aJ]at hrl;refine⟨_,rfl,.inl ⟨rfl,_,SqL.of h1⟩,_,rfl,_,rfl,(by show 2<=sizeLine;decide),fun p hp=> ?_⟩;have s3:=aO hp (.tup [.int (0+(i:Int)),.int (0+(i:Int)+1+(k:Int))]);refine⟨tl,rs,_,rfl,rfl,s3 _ _ h1,(by rw[eE];omega),?_⟩;have xw:aD tl (upd H2 p (.tup [.int (0+(i:Int)),.int (0+(i:Int)+1+(k:Int))])) (upd (upd H2 p (.tup [.int (0+(i:Int)),.int (0+(i:Int)+1+(k:Int))])) tl (.lst (rs++[.ref p]))):=(aD.refl _ _).upd;refine⟨fun q o hq e=> ?_,⟨t2,xw _ _ ntc.symm (s3 _ _ c2)⟩,gP.push (s3 _ _ h1) (h2.same s3) h3 h4 (SqT.of aH) trivial,_,rfl⟩;have nq:q≠tl:=fun z=>by rw[z,tl0]at e;cases e
    exact xw _ _ nq (s3 _ _ (x2 _ _ hq (x _ _ hq e)))
   ·exact⟨x.trans x2,⟨_,c2⟩,tl2.mono (wfo _ _),_,rfl⟩
  ·obtain⟨x,c,tl1,a5,rfl⟩:=p;rw[<-jY]at tl1;exact⟨x,c,tl1,_,_,rfl⟩
 ·obtain⟨x,⟨t0,c⟩,⟨rs,ts,h1,h2,h3,h4⟩,a4,a5,rfl⟩:=p;refine⟨_,rfl,_,rfl,tl,rs,rfl,.inl ⟨SqL.of h1,fun t ht=>⟨(by show 2<=sizeLine;decide),fun wb hwb=> ?_⟩⟩⟩;have s3:=aO ht (.tup rs);have s4:=aO hwb (.tup [.int n,.ref t]);have Qx:=s3.trans s4;obtain⟨g1,g2⟩:=lF hn0 hn1 h3;exact q wb n ts _ t0 (x.trans (Qx.x _)) (Qx _ _ c) ⟨⟨t,rs,SqT.of aH,SqT.of (s4 _ _ aH),h2.same Qx⟩,hn0,hn1,g1,g2⟩ (by omega)
end
end Hs
namespace L2
open PySem PySem.Spec PyProof.Rows
theorem Yb{n:Nat}(h:n<=10^200):n<2^700:=Fy h (by decide+kernel)
section
variable{X:Cx}
theorem zK:OpR X (binaryOp .FloorDiv) (rI (fun _ j=>0<j/\j.natAbs<=10^200) fun i j=> .int (i/j)):=opI fun i j _ _ _ _ _ hc q=>by
 have h1:(0:Int)<j:=hc.1;refine floordiv_int (by omega) ?_ (Or.inl (wfg ?_))
 ·rw[yeh _ (by omega)];exact q
 ·have h3:j.natAbs≠0:=by omega
  have h4:=(Nat.log2_lt h3).mpr (Yb hc.2);omega
end
end L2
namespace Hs
open PySem L2 BJ
theorem Od(m n:Nat):Nat.gcd n (m %n)=Nat.gcd m n:=by
 rw[Nat.gcd_comm m n,Nat.gcd_rec n m,Nat.gcd_comm]
structure Low(a:Int)(b:Nat)(u:Int)(v:Nat):Prop where
 pos:0<v
 cop:Nat.gcd u.natAbs v=1
 eq:u*(b:Int)=a*(v:Int)
 lu:u.natAbs<=a.natAbs
 lv:v<=b
 nn:0<=a->0<=u
theorem Nb(a:Int)(b:Nat)(hb:0<b):Low a b (a/((Nat.gcd a.natAbs b:Nat):Int)) (b/Nat.gcd a.natAbs b):=by
 have hg:0<Nat.gcd a.natAbs b:=wfp _ hb;obtain⟨x,hx⟩:((Nat.gcd a.natAbs b:Nat):Int)∣a:=Int.natAbs_dvd_natAbs.mp (by rw[wev];exact Nat.gcd_dvd_left _ _);obtain⟨y,hy⟩:=ZC a.natAbs b;generalize hgg:Nat.gcd a.natAbs b=g at *;have e1:a/(g:Int)=x:=by rw[hx];exact wfk _ (by omega)
 have e2:b/g=y:=by rw[hy];exact VG _ hg
 rw[e1,e2];have hna:a.natAbs=g*x.natAbs:=by rw[hx,whb];rfl
 have hy0:0<y:=by
  rcases wew y with h|h
  ·subst h;simp at hy;omega
  ·exact h
 refine⟨hy0,?_,?_,?_,?_,fun h=> ?_⟩
 ·have h2:Nat.gcd (g*x.natAbs) (g*y)=g:=by rw[<-hna,<-hy];exact hgg
  rw[Nat.gcd_mul_left]at h2;have h3:g*Nat.gcd x.natAbs y=g*1:=by omega
  exact Nat.eq_of_mul_eq_mul_left hg h3
 ·rw[hx];have:(b:Int)=(g:Int)*(y:Int):=by rw[hy];exact wgl _ _
  rw[this,QK (g:Int) x,VB]
 ·rw[hna];exact wgh _ hg
 ·rw[hy];exact wgh _ hg
 ·rw[<-e1];exact wgs h (by omega)
theorem abs_eq(i:Int):(if i<0 then -i else i)=((i.natAbs:Nat):Int):=by split<;>omega
theorem Xu(a:Int)(b:Nat)(hb:0<b):Nat.gcd a.natAbs b<=b:=wfy hb (ZC _ _)
section
variable{P:ρ}{w:υ}{K:W.Frag}{mg:L4}{base:Heap}
def Wc(K:W.Frag):Sp:=fun vs H Q _=>∃(m n:Nat),vs=[.int m,.int n]/\Q (.int ((Nat.gcd m n:Nat):Int)) H
theorem aay{f:Addr}{fd:τ}(F:Fun K "greatest_divisor" "greatest_divisor" zbl f fd):FnOk P w K mg base CX0 1 f fd ["one","other"] (Wc K):=by
 refine F.dM ["one","other","rest"] fun cdv A outer s H vs Q E hr h=> ?_;obtain⟨m,n,rfl,q⟩:=h;refine bf ?_;intro Y;refine⟨_,aP (ps_while rM (pt_truth (pv 1) (fun _=>rfl)) (aP (pS 2 (bJ op_mod (pv 0) (pv 1))) (aP (pS 0 (pv 1)) (bw (pS 1 (pv 2)))))) (bw (cT (pv 0))),?_⟩;refine je ?_;intro c2;refine⟨fun k σ H'=>H'=H/\∃(m':Nat) (r:Option V),σ=[some (.int (m':Int)),some (.int (k:Int)),r]/\Nat.gcd m' k=Nat.gcd m n,⟨n,rfl,m,_,rfl,rfl⟩,?_⟩;rintro k σ H' ⟨rfl,m',r,rfl,hg⟩;refine⟨_,rfl,_,rfl,?_⟩;refine ite2 (fun c=> ?_) (fun c=> ?_)
 ·have hk:0<k:=by
   rcases wew k with h|h
   ·subst h;exact absurd c (by decide)
   ·exact h
  refine⟨fun σ' H2=>H2=H'/\∃r',σ'=[some (.int (k:Int)),some (.int ((m' %k:Nat):Int)),r'],fun σ' H2 ⟨e1,r',e2⟩=>⟨m' %k,Nat.mod_lt _ hk,e1,k,r',e2,?_⟩,?_⟩
  ·rw[Od];exact hg
  ·exact⟨_,rfl,_,rfl,_,_,rfl,rfl,Int.ofNat_lt.mpr hk,_,rfl,_,rfl,rfl,_,rfl⟩
 ·have hk:k=0:=by
   rcases wew k with h|h
   ·exact h
   ·exfalso;apply c;show((k:Int) !=0)=true;simp;omega
  subst hk;rw[Nat.gcd_zero_right]at hg;refine⟨_,rfl,?_⟩;rw[hg];exact q
def Gi(K:W.Frag):Sp:=fun vs H Q _=>∃(a:Int) (b:Nat),vs=[.int a,.int b]/\0<b/\b<=10^200/\∀p H' u v,Same H H'->H' p=some (.tup [.int u,.int ((v:Nat):Int)])->Low a b u v->Q (.ref p) H'
theorem RZ{H:Hp}{a:Int}{b:Nat}{p:Addr}(hp:H p=none):(upd H p (.tup [.int (a/((Nat.gcd a.natAbs b:Nat):Int)),.int ((b:Int)/((Nat.gcd a.natAbs b:Nat):Int))])) p=some (.tup [.int (a/((Nat.gcd a.natAbs b:Nat):Int)),.int (((b/Nat.gcd a.natAbs b:Nat)):Int)]):=by
 rw[aH,wge]
theorem W0{f f1:Addr}{fd d1:τ}(F:Fun K "lowest" "lowest" jy f fd)(D1:bQ K mg "greatest_divisor" zbl ["one","other"] f1 d1)(G1:FnOk P w K mg base CX0 1 f1 d1 ["one","other"] (Wc K))(mA:mg "abs"=none):
  FnOk P w K mg base CX0 2 f fd ["a","b"] (Gi K):=by
 refine F.dM ["a","b","by"] fun cdv A outer s H vs Q E hr h=> ?_;obtain⟨a,b,rfl,hb,hB,q⟩:=h;refine bf ?_;intro Y;refine⟨_,aP (pS 2 (pc G1 hr D1 (aj (pB call_abs mA (aj (pv 0) aA)) (aj (pv 1) aA)))) (bw (cT (oF (aj (bJ zK (pv 0) (pv 2)) (aj (bJ zK (pv 1) (pv 2)) aA))))),?_⟩;refine je ?_;intro c2;refine⟨_,rfl,a,rfl,_,rfl,a.natAbs,b,?_,?_⟩
 ·rw[abs_eq];rfl
 have hg:0<Nat.gcd a.natAbs b:=wfp _ hb;have hg2:(((Nat.gcd a.natAbs b:Nat):Int)).natAbs<=10^200:=dO (Xu a b hb) hB;refine⟨_,rfl,_,rfl,_,_,rfl,rfl,⟨Int.ofNat_lt.mpr hg,hg2⟩,_,rfl,_,rfl,_,_,rfl,rfl,⟨Int.ofNat_lt.mpr hg,hg2⟩,(by show 2<=sizeLine;decide),fun p hp=> ?_⟩;exact q p _ _ _ (aO hp _) (RZ hp) (Nb a b hb)
noncomputable def aW(n:Nat)(X:Nat->Int):List V:=((List.range (n+1)).map X).map V.int
noncomputable def bN(n:Nat)(c:Nat->Nat):List Int:=(List.range n).map fun k=>((c k:Nat):Int)
noncomputable def flds(cl co ro:Addr)(o:Int):List (Str×V):=[("cells",.ref cl),("over",.int o),("columns",.ref co),("rows",.ref ro)]
structure cg(K:W.Frag)(C:Addr)(H0 H:Hp)(o dx cl co ro:Addr)(rws:List Addr)(n m:Nat)(T:Sx.Tab):Prop where
 same:Same H0 H
 o0:H0 o=none
 X4:H0 cl=none
 Vq:H0 co=none
 U8:H0 ro=none
 ne:co≠ro
 nc:co∉rws
 nr:ro∉rws
 at_:H o=some (.ins C dx (flds cl co ro T.over))
 cells:H cl=some (.lst (rws.map V.ref))
 len:rws.length=m+1
 row:∀r a,rws[r]? =some a->H a=some (.lst (aW n (T.cell r)))
 cols:H co=some (.lst ((bN n T.col).map V.int))
 rows:H ro=some (.lst ((bN m T.row).map V.int))
def jT(K:W.Frag)(C:Addr)(H0 H:Hp)(o:Addr)(n m:Nat)(T:Sx.Tab):Prop:=∃dx cl co ro rws,cg K C H0 H o dx cl co ro rws n m T
theorem cg.sm{C:Addr}{H0 H H':Hp}{o dx cl co ro:Addr}{rws:List Addr}{n m:Nat}{T:Sx.Tab}(h:cg K C H0 H o dx cl co ro rws n m T)(s:Same H H'):cg K C H0 H' o dx cl co ro rws n m T:=
 ⟨h.same.trans s,h.o0,h.X4,h.Vq,h.U8,h.ne,h.nc,h.nr,s _ _ h.at_,s _ _ h.cells,h.len,fun r a e=>s _ _ (h.row r a e),s _ _ h.cols,s _ _ h.rows⟩
theorem jT.sm{C:Addr}{H0 H H':Hp}{o:Addr}{n m:Nat}{T:Sx.Tab}(h:jT K C H0 H o n m T)(s:Same H H'):jT K C H0 H' o n m T:=by
 obtain⟨dx,cl,co,ro,rws,h⟩:=h;exact⟨dx,cl,co,ro,rws,h.sm s⟩
structure TG(n m:Nat)(S:Nat->Nat->Bool)(wt:Nat->Int)(T:Sx.Tab):Prop where
 good:Sx.Good n m S wt T
 n10:n<=10
 m40:m<=40
 wb:∀p,p<n->0<=wt p/\wt p<=99
 cov:∀p,p<n->∃k,k<m/\S k p=true
theorem TG.cell{n m:Nat}{S:Nat->Nat->Bool}{wt:Nat->Int}{T:Sx.Tab}(h:TG n m S wt T){r c:Nat}(hr:r<=m)(hc:c<=n): -4000000000<=T.cell r c/\T.cell r c<=4000000000:=by
 have a:=h.good.Pu h.wb hr hc;have b:=Sx.O9 (k:=n+1) (by have:=h.n10;omega);omega
theorem TG.over{n m:Nat}{S:Nat->Nat->Bool}{wt:Nat->Int}{T:Sx.Tab}(h:TG n m S wt T):0<T.over/\T.over<=39916800:=by
 have a:=h.good.Rv;have b:=Sx.O9 (k:=n+1) (by have:=h.n10;omega);exact⟨h.good.pos,by omega⟩
theorem Hz(n:Nat)(X:Nat->Int):(aW n X).length=n+1:=by unfold aW;rw[aJ,aJ,wj]
theorem nF{n c:Nat}(X:Nat->Int)(h:c<=n):(aW n X)[c]? =some (.int (X c)):=by
 unfold aW;rw[dD,dD,ZK (by omega)];rfl
theorem eF{n c:Nat}(X:Nat->Int)(h:c<=n):atI (aW n X) (c:Int)=some (.int (X c)):=atI_nat (nF X h)
theorem atI_last{xs:List V}{v:V}(h:xs[xs.length-1]? =some v)(h0:0<xs.length):atI xs (-1)=some v:=by
 have e:ixN xs.length (-1)=some (xs.length-1):=by
  unfold ixN;rw[aq (by decide),aB (by omega)];congr 1;omega
 unfold atI;rw[e];exact h
theorem oZ(n:Nat)(X:Nat->Int):atI (aW n X) (-1)=some (.int (X n)):=atI_last (by rw[Hz];exact nF X (aN n)) (by rw[Hz];omega)
theorem HB(n:Nat)(c:Nat->Nat):(bN n c).length=n:=by unfold bN;rw[aJ,wj]
theorem Fo{n k:Nat}(c:Nat->Nat)(h:k<n):(bN n c)[k]? =some ((c k:Nat):Int):=by
 unfold bN;rw[dD,ZK h];rfl
theorem nO{n k:Nat}(c:Nat->Nat)(h:k<n):atI ((bN n c).map V.int) (k:Int)=some (.int ((c k:Nat):Int)):=atI_nat (by rw[dD,Fo c h];rfl)
theorem vP{n k:Nat}(c:Nat->Nat)(v:Nat)(h:k<n):(bN n c).set k (v:Int)=bN n (fun i=>if i=k then v else c i):=by
 refine Yo fun i=> ?_;rw[wdn];by_cases hi:i<n
 ·rw[Fo _ hi,Fo _ hi,HB];by_cases e:k=i
  ·rw[aB e,aB h,aB e.symm]
  ·rw[aq e,aq (kO e)]
 ·rw[JX (by rw[HB];omega),JX (by rw[HB];omega),aq (by omega)]
theorem cg.Il{C:Addr}{H0 H:Hp}{o dx cl co ro:Addr}{rws:List Addr}{n m:Nat}{T:Sx.Tab}(h:cg K C H0 H o dx cl co ro rws n m T){r:Nat}(hr:r<=m):∃a,rws[r]? =some a/\atI (rws.map V.ref) (r:Int)=some (.ref a)/\H a=some (.lst (aW n (T.cell r))):=by
 have hl:=h.len;have e:rws[r]? =some rws[r]:=gj (by omega);exact⟨rws[r],e,atI_nat (by rw[dD,e];rfl),h.row r _ e⟩
theorem cg.aam{C:Addr}{H0 H:Hp}{o dx cl co ro:Addr}{rws:List Addr}{n m:Nat}{T:Sx.Tab}(h:cg K C H0 H o dx cl co ro rws n m T):∃a,rws[m]? =some a/\atI (rws.map V.ref) (-1)=some (.ref a)/\H a=some (.lst (aW n (T.cell m))):=by
 obtain⟨a,e,_,f⟩:=h.Il (aN m);exact⟨a,e,atI_last (by rw[aJ,h.len,dD,wer,e];rfl) (by rw[aJ,h.len];omega),f⟩
def K7(K:W.Frag)(C:Addr):Sp:=fun vs H Q _=>∃(o:Addr) (H0:Hp) (n m:Nat) (S:Nat->Nat->Bool) (wt:Nat->Int) (T:Sx.Tab),vs=[.ref o]/\jT K C H0 H o n m T/\TG n m S wt T/\
 ((∀c,c<n->0<=T.cell m c)->∀H',Same H H'->Q .non H')/\∀(q:Nat) H',q<n->T.cell m q<0->(∀c,c<n->T.cell m c<0->T.col q<=T.col c)->Same H H'->Q (.int (q:Int)) H'
theorem WT{f C:Addr}{fd:τ}(F:Fun K "next_column" "Tableau.next_column" zbo f fd)
  (Cc:Cls K C)(aX:NoAttr K C "cells")(cZ:NoAttr K C "over")(aV:NoAttr K C "columns")(bY:NoAttr K C "rows")(cC:mg "enumerate"=none)(lB:mg "min"=none):
  FnOk P w K mg base CX0 1 f fd ["self"] (K7 K C):=by
 refine F.dM ["self","worth","names"] fun cdv A outer s H vs Q E hr h=> ?_;obtain⟨o,H0,n,m,S,wt,T,rfl,⟨dx,cl,co,ro,rws,hT⟩,hG,q1,q2⟩:=h;refine bf ?_;intro Y;refine⟨_,(aP (pS 1 (bR mZ (oJ (pv 0) rfl) (pe_un un_neg aQ))) (aP (pX 2 ["k","name"] ["worth"] [1] (nJ rfl cC (aj (oJ (pv 0) rfl) aA)) (gH K (n:=2) rfl (qY (pG 0) (qY (pG 1) JT))) (Hy (jg op_lt (bR (eY K) (pv 2) (pv 0)) aQ)) (pv 1)) (bw (cT (pe_ifExp (pt_truth (pv 2) (fun _=>rfl)) (pe_bm HY wce wcf pD (oJ (pv 0) rfl) (aj (pB (v7 rfl) lB (aj (pv 2) aA)) aA)) pe_non))))),?_⟩;refine jd ?_;intro c3 c2;obtain⟨za,ze,zi,zr⟩:=hT.aam;refine⟨_,rfl,o,C,dx,_,_,rfl,hT.at_,Cc,aX,rfl,_,rfl,cl,_,_,_,rfl,rfl,SqL.of hT.cells,zi,?_⟩;refine⟨_,rfl,o,C,dx,_,_,rfl,hT.at_,Cc,aV,rfl,false,co,_,rfl,SqL.of hT.cols,fun hz=> ?_⟩;let gq:Nat->List V->St->Hp->Prop:=fun i acc σ H'=>acc=(((List.range i).filter fun c=>decide (T.cell m c<0)).map fun c=>((T.col c:Nat):Int)).map V.int/\Same H H'/\∃o1 o2,σ=[o1,o2,some (.ref za)];refine j9 (K:=K) (b:=false) (a:=co) (xs:=(bN n T.col).map V.int) gq ⟨rfl,Same.refl _,_,_,rfl⟩ (fun i acc σ H' _ p=>p.2.1.seq (SqL.of hT.cols)) (fun i acc σ H' _ p=> ?_) hz (fun i v t acc σ H' hv p ht=> ?_) (fun acc σ H' p=> ?_)
 ·rw[p.1,aJ,aJ];exact dO (wk _ _) (by rw[wj];exact aN _)
 ·obtain⟨rfl,sm,o1,o2,rfl⟩:=p;have hi:i<n:=by
   have:=(m6.mp hv).1;rw[aJ,HB]at this;exact this
  rw[dD,Fo _ hi]at hv;cases hv;have s1:=aO ht (.tup [.int (i:Int),.int ((T.col i:Nat):Int)]);refine⟨t,_,rfl,SqT.of aH,rfl,_,_,rfl,_,_,rfl,rfl,?_⟩;refine⟨_,rfl,_,rfl,za,_,_,_,rfl,rfl,SqL.of ((sm.trans s1) _ _ zr),eF _ (cW hi),_,_,rfl,rfl,_,rfl,?_⟩;have go:((List.range (i+1)).filter fun c=>decide (T.cell m c<0))=((List.range i).filter fun c=>decide (T.cell m c<0))++(if decide (T.cell m i<0)=true then[i]else[]):=by
   rw[Fw,Uc];congr 1;rw[Qq];split<;>rfl
  refine ite2 (fun c=> ?_) (fun c=> ?_)
  ·exact⟨_,rfl,by rw[go,aB c,bV,bV];rfl,sm.trans s1,_,_,rfl⟩
  ·exact⟨by rw[go,aq c,u9],sm.trans s1,_,_,rfl⟩
 ·intro p1 hp1;obtain⟨rfl,sm,_⟩:=p;rw[aJ,HB];have s1:=aO hp1 (.lst ((((List.range n).filter fun c=>decide (T.cell m c<0)).map fun c=>((T.col c:Nat):Int)).map V.int));have e1:(upd H' p1 (.lst ((((List.range n).filter fun c=>decide (T.cell m c<0)).map fun c=>((T.col c:Nat):Int)).map V.int))) p1=some (.lst ((((List.range n).filter fun c=>decide (T.cell m c<0)).map fun c=>((T.col c:Nat):Int)).map V.int)):=aH;have s2:=sm.trans s1;generalize (upd H' p1 (.lst ((((List.range n).filter fun c=>decide (T.cell m c<0)).map fun c=>((T.col c:Nat):Int)).map V.int)))=H1 at *;have hT1:=hT.sm s2;refine⟨_,rfl,_,.inl ⟨_,SqL.of e1,rfl⟩,?_⟩;cases hl:(List.range n).filter fun c=>decide (T.cell m c<0)with
  |nil=>
   refine iteF ?_;refine q1 (fun c hc=>Int.not_lt.mp fun hn=> ?_) _ s2;have:c∈(List.range n).filter fun c=>decide (T.cell m c<0):=kI.mpr ⟨rH.mpr hc,fD hn⟩;rw[hl]at this;cases this
  |cons c0 rest=>
   rw[hl]at e1;refine iteT ?_;refine⟨_,rfl,o,C,dx,_,_,rfl,hT1.at_,Cc,aV,rfl,.inl ⟨rfl,_,SqL.of hT1.cols⟩,_,rfl,p1,_,rfl,SqL.of e1,(fun e=>nomatch e),fun mn hmn hle=> ?_⟩;rw[<-hl]at hmn hle;obtain⟨c,hc,rfl⟩:=kj.mp hmn;obtain⟨hc1,hc2⟩:=kI.mp hc;have hcn:=rH.mp hc1;refine⟨co,bN n T.col,_,c,rfl,rfl,hT1.cols,Fo _ hcn,fun i hi e=> ?_,by rw[HB];have:=hG.n10;omega,?_⟩
   ·rw[Fo _ (by omega)]at e;have:T.col i=T.col c:=wdy (uY e);have:=hG.good.Ei i c (by omega) hcn this;omega
   ·refine q2 c _ hcn (sS hc2) (fun c' hc' hn=> ?_) s2;have:=hle _ (kj.mpr ⟨c',kI.mpr ⟨rH.mpr hc',fD hn⟩,rfl⟩);omega
def YW(n q:Nat)(T:Sx.Tab)(r t:Nat):Bool:=decide (T.cell r n*T.cell t q<T.cell t n*T.cell r q)||(decide (T.cell r n*T.cell t q=T.cell t n*T.cell r q)&&decide (T.row r<T.row t))
def Uw(K:W.Frag)(C:Addr):Sp:=fun vs H Q _=>∃(o:Addr) (H0:Hp) (n m q r t:Nat) (S:Nat->Nat->Bool) (wt:Nat->Int) (T:Sx.Tab),vs=[.ref o,.int (q:Int),.int (r:Int),.int (t:Int)]/\jT K C H0 H o n m T/\TG n m S wt T/\q<n/\r<m/\t<m/\Q (.bl (YW n q T r t)) H
theorem WD{f C:Addr}{fd:τ}(F:Fun K "is_tighter" "Tableau.is_tighter" zbu f fd)
  (Cc:Cls K C)(aX:NoAttr K C "cells")(cZ:NoAttr K C "over")(aV:NoAttr K C "columns")(bY:NoAttr K C "rows"):
  FnOk P w K mg base CX0 1 f fd ["self","column","row","other"] (Uw K C):=by
 refine F.dM ["self","column","row","other","one","two"] fun cdv A outer s H vs Q E hr h=> ?_;obtain⟨o,H0,n,m,q,r,t,S,wt,T,rfl,⟨dx,cl,co,ro,rws,hT⟩,hG,hq,hr0,ht,qq⟩:=h;refine bf ?_;intro Y;refine⟨_,(aP (pS 4 (bJ yu (bR mZ (bR mZ (oJ (pv 0) rfl) (pv 2)) (pe_un un_neg aQ)) (bR mZ (bR mZ (oJ (pv 0) rfl) (pv 3)) (pv 1)))) (aP (pS 5 (bJ yu (bR mZ (bR mZ (oJ (pv 0) rfl) (pv 3)) (pe_un un_neg aQ)) (bR mZ (bR mZ (oJ (pv 0) rfl) (pv 2)) (pv 1)))) (bw (cT (pe_or (pe_cmpR op_lt (pv 4) (pv 5)) (pe_one (pe_and (pe_cmpR op_eq (pv 4) (pv 5)) (pe_one (pe_cmpR op_lt (bR mZ (oJ (pv 0) rfl) (pv 2)) (bR mZ (oJ (pv 0) rfl) (pv 3))))))))))),?_⟩;refine jd ?_;intro c3 c2;obtain⟨ra,re,ri,rr⟩:=hT.Il (cW hr0);obtain⟨ta,te,ti,tr⟩:=hT.Il (cW ht);have b1:=hG.cell (cW hr0) (aN n);have b2:=hG.cell (cW ht) (aN n);refine⟨_,rfl,o,C,dx,_,_,rfl,hT.at_,Cc,aX,rfl,_,rfl,cl,_,_,_,rfl,rfl,SqL.of hT.cells,ri,_,rfl,ra,_,_,_,rfl,rfl,SqL.of rr,oZ _ _,?_⟩;refine⟨_,rfl,o,C,dx,_,_,rfl,hT.at_,Cc,aX,rfl,_,rfl,cl,_,_,_,rfl,rfl,SqL.of hT.cells,ti,_,rfl,ta,_,_,_,rfl,rfl,SqL.of tr,eF _ (cW hq),_,_,rfl,rfl,.inl ⟨by omega,by omega⟩,?_⟩;refine⟨_,rfl,o,C,dx,_,_,rfl,hT.at_,Cc,aX,rfl,_,rfl,cl,_,_,_,rfl,rfl,SqL.of hT.cells,ti,_,rfl,ta,_,_,_,rfl,rfl,SqL.of tr,oZ _ _,?_⟩;refine⟨_,rfl,o,C,dx,_,_,rfl,hT.at_,Cc,aX,rfl,_,rfl,cl,_,_,_,rfl,rfl,SqL.of hT.cells,ri,_,rfl,ra,_,_,_,rfl,rfl,SqL.of rr,eF _ (cW hq),_,_,rfl,rfl,.inl ⟨by omega,by omega⟩,?_⟩;refine⟨_,rfl,_,rfl,_,_,rfl,rfl,_,rfl,?_⟩;unfold YW at qq;refine ite2 (fun c=> ?_) (fun c=> ?_)
 ·rw[c,Bool.true_or]at qq;exact qq
 ·rw[eq_false_of_ne_true c,whi]at qq;refine⟨_,rfl,_,rfl,rfl,_,rfl,?_⟩;refine ite2 (fun c2=> ?_) (fun c2=> ?_)
  ·have c2':decide (T.cell r n*T.cell t q=T.cell t n*T.cell r q)=true:=fD (V.int.inj (sS c2));rw[c2',VR]at qq;refine⟨_,rfl,o,C,dx,_,_,rfl,hT.at_,Cc,bY,rfl,_,rfl,ro,_,_,_,rfl,rfl,SqL.of hT.rows,nO _ hr0,?_⟩;refine⟨_,rfl,o,C,dx,_,_,rfl,hT.at_,Cc,bY,rfl,_,rfl,ro,_,_,_,rfl,rfl,SqL.of hT.rows,nO _ ht,_,_,rfl,rfl,?_⟩;rw[<-show decide (((T.row r:Nat):Int)<((T.row t:Nat):Int))=decide (T.row r<T.row t)from decide_eq_decide.mpr Int.ofNat_lt]at qq;exact qq
  ·have c2':decide (T.cell r n*T.cell t q=T.cell t n*T.cell r q)=false:=iY fun e=>c2 (fD (iD V.int e));rw[c2',wgy]at qq;exact qq
def Vt(n q:Nat)(T:Sx.Tab)(p r:Nat):Prop:=T.cell p n*T.cell r q<T.cell r n*T.cell p q\/(T.cell p n*T.cell r q=T.cell r n*T.cell p q/\T.row p<=T.row r)
theorem Jo{n q:Nat}{T:Sx.Tab}{a b c:Nat}(ha:0<T.cell a q)(hb:0<T.cell b q)(hc:0<T.cell c q)(h1:Vt n q T a b)(h2:Vt n q T b c):Vt n q T a c:=by
 have cm:∀x y:Nat,T.cell x n*T.cell y q=T.cell y q*T.cell x n:=fun x y=>QK _ _;have cn:∀x y:Nat,T.cell y n*T.cell x q=T.cell x q*T.cell y n:=fun x y=>QK _ _;unfold Vt at *;rw[cm a b,cn a b]at h1;rw[cm b c,cn b c]at h2;rw[cm a c,cn a c];rcases h1 with h1|⟨h1,l1⟩
 ·rcases h2 with h2|⟨h2,_⟩
  ·exact .inl (Sx.xO hb ha hc (Qp h1) h2)
  ·exact .inl (Sx.Bd hb ha hc h1 (weu h2))
 ·rcases h2 with h2|⟨h2,l2⟩
  ·exact .inl (Sx.xO hb ha hc (weu h1) h2)
  ·exact .inr ⟨Int.le_antisymm (Sx.xP hb ha hc (weu h1) (weu h2)) (Sx.xP hb hc ha (by rw[<-h2];exact Fq _) (by rw[<-h1];exact Fq _)),dO l1 l2⟩
theorem V9{n q:Nat}{T:Sx.Tab}{r t:Nat}(h:YW n q T r t=true):Vt n q T r t:=by
 unfold YW at h;rw[wei,yL]at h;rcases h with h|⟨h1,h2⟩
 ·exact .inl (sS h)
 ·exact .inr ⟨sS h1,cW (sS h2)⟩
theorem aaf{n q:Nat}{T:Sx.Tab}{r t:Nat}(h:YW n q T r t=false):Vt n q T t r:=by
 unfold YW at h;rw[Bool.or_eq_false_iff,Bool.and_eq_false_iff]at h;have h1:=V4 h.1;by_cases c:T.cell r n*T.cell t q=T.cell t n*T.cell r q
 ·refine .inr ⟨c.symm,?_⟩;rcases h.2 with z|z
  ·exact absurd c (V4 z)
  ·exact T7.mp (V4 z)
 ·exact .inl (by omega)
def Uy(K:W.Frag)(C:Addr):Sp:=fun vs H Q _=>∃(o:Addr) (H0:Hp) (n m q:Nat) (S:Nat->Nat->Bool) (wt:Nat->Int) (T:Sx.Tab),vs=[.ref o,.int (q:Int)]/\jT K C H0 H o n m T/\TG n m S wt T/\q<n/\
 ∀p:Nat,p<m->0<T.cell p q->(∀r,r<m->0<T.cell r q->Vt n q T p r)->Q (.int (p:Int)) H
theorem WR{f f1 C:Addr}{fd d1:τ}(F:Fun K "next_row" "Tableau.next_row" zcf f fd)
  (Cc:Cls K C)(aX:NoAttr K C "cells")(cZ:NoAttr K C "over")(aV:NoAttr K C "columns")(bY:NoAttr K C "rows")(D1:JN K C "is_tighter" "Tableau.is_tighter" zbu ["self","column","row","other"] f1 d1)(G1:FnOk P w K mg base CX0 1 f1 d1 ["self","column","row","other"] (Uw K C))(aL:mg "range"=none)(cB:mg "len"=none):
  FnOk P w K mg base CX0 2 f fd ["self","column"] (Uy K C):=by
 refine F.dM ["self","column","tightest","row"] fun cdv A outer s H vs Q E hr h=> ?_;obtain⟨o,H0,n,m,q,S,wt,T,rfl,⟨dx,cl,co,ro,rws,hT⟩,hG,hq,qq⟩:=h;refine⟨_,(aP (pS 2 pe_non) (aP (u6 rM rfl (Fp rfl aL (aj (pB yI cB (aj (oJ (pv 0) rfl) aA)) aA)) (pG 3) (bw (qW (PW.pt (pw_and (jg op_gt (bR mZ (bR mZ (oJ (pv 0) rfl) (pv 3)) (pv 1)) aQ) (pw_and1 (PW.pt (pw_or (jg op_isN (pv 2) pe_non) (pw_or1 (yG (pe_meth (pv 0) Cc D1.m G1 hr D1.b .nil pass0 (aj (pv 1) (aj (pv 3) (aj (pv 2) aA))))))))))) (bw (pS 2 (pv 3))) qX))) (bw (cT (pv 2))))),?_⟩;refine⟨_,rfl,o,C,dx,_,_,rfl,hT.at_,Cc,bY,rfl,ro,_,rfl,.inl (SqL.of hT.rows),fun _=> ?_⟩;rw[aJ,HB];refine⟨_,rfl,by have:=hG.m40;omega,by have:=hG.m40;omega,?_⟩;refine Qn (n:=m) (fun i σ H'=>H'=H/\∃(x:V) (o3:Option V),σ=[some (.ref o),some (.int (q:Int)),some x,o3]/\((x= .non/\∀r,r<i->T.cell r q<=0)\/∃p:Nat,p<i/\x= .int (p:Int)/\0<T.cell p q/\∀r,r<i->0<T.cell r q->Vt n q T p r)) ⟨rfl,_,_,rfl,.inl ⟨rfl,fun r hr=>absurd hr (QL r)⟩⟩ (fun i σ H' hi p=> ?_) (fun σ H' p=> ?_)
 ·obtain⟨rfl,x,o3,rfl,hx⟩:=p;rw[Yk];obtain⟨ra,re,ri,rr⟩:=hT.Il (cW hi);refine⟨_,rfl,o,C,dx,_,_,rfl,hT.at_,Cc,aX,rfl,_,rfl,cl,_,_,_,rfl,rfl,SqL.of hT.cells,ri,_,rfl,ra,_,_,_,rfl,rfl,SqL.of rr,eF _ (cW hq),_,_,rfl,rfl,_,rfl,?_⟩;refine ite2 (fun c=> ?_) (fun c=> ?_)
  ·have c':0<T.cell i q:=sS c;rcases hx with⟨rfl,hx⟩|⟨p,hp,rfl,hp0,hlev⟩
   ·refine⟨_,rfl,rfl,_,rfl,?_⟩;refine iteT ?_;refine iteT ?_;refine⟨_,rfl,rfl,_,_,rfl,.inr ⟨i,sI i,rfl,c',fun r hr h0=> ?_⟩⟩;by_cases e:r=i
    ·subst e;exact .inr ⟨rfl,aN _⟩
    ·have:=hx r (by omega);omega
   ·refine⟨_,rfl,rfl,_,rfl,?_⟩;refine iteF ?_;refine⟨_,rfl,o,dx,_,rfl,hT.at_,rfl,_,rfl,_,rfl,_,rfl,o,H0,n,m,q,i,p,S,wt,T,rfl,⟨dx,cl,co,ro,rws,hT⟩,hG,hq,hi,by omega,_,rfl,?_⟩;refine ite2 (fun z=> ?_) (fun z=> ?_)
    ·refine⟨_,rfl,rfl,_,_,rfl,.inr ⟨i,sI i,rfl,c',fun r hr h0=> ?_⟩⟩;by_cases e:r=i
     ·subst e;exact .inr ⟨rfl,aN _⟩
     ·exact Jo c' hp0 h0 (V9 z) (hlev r (by omega) h0)
    ·refine⟨rfl,_,_,rfl,.inr ⟨p,by omega,rfl,hp0,fun r hr h0=> ?_⟩⟩;by_cases e:r=i
     ·subst e;exact aaf (eq_false_of_ne_true z)
     ·exact hlev r (by omega) h0
  ·refine iteF ?_;have c':T.cell i q<=0:=Int.not_lt.mp fun h=>c (fD h);refine⟨rfl,_,_,rfl,?_⟩;rcases hx with⟨rfl,hx⟩|⟨p,hp,rfl,hp0,hlev⟩
   ·refine .inl ⟨rfl,fun r hr=> ?_⟩;by_cases e:r=i
    ·subst e;exact c'
    ·exact hx r (by omega)
   ·refine .inr ⟨p,by omega,rfl,hp0,fun r hr h0=> ?_⟩;by_cases e:r=i
    ·subst e;omega
    ·exact hlev r (by omega) h0
 ·obtain⟨rfl,x,o3,rfl,hx⟩:=p;rcases hx with⟨rfl,hx⟩|⟨p,hp,rfl,hp0,hlev⟩
  ·obtain⟨r,hr0,h0⟩:=hG.good.bounded hG.cov hq;have:=hx r hr0;omega
  ·exact⟨_,rfl,qq p hp hp0 hlev⟩
noncomputable def tdF(ov:Int)(X Y:Nat->Int)(q c:Nat):Int:=if c=q then -X q else(X c*Y q-X q*Y c)/ov
theorem zy{n q:Nat}(X:Nat->Int)(v:Int)(h:q<=n):(aW n X).set q (.int v)=aW n fun c=>if c=q then v else X c:=by
 refine Yo fun i=> ?_;rw[wdn];by_cases hi:i<=n
 ·rw[nF _ hi,nF _ hi,Hz];by_cases e:q=i
  ·rw[aB e,aB (by omega),aB e.symm]
  ·rw[aq e,aq (kO e)]
 ·rw[JX (by rw[Hz];omega),JX (by rw[Hz];omega),aq (by omega)]
theorem lV{n:Nat}{X Y:Nat->Int}(h:∀c,c<=n->X c=Y c):aW n X=aW n Y:=by
 unfold aW;rw[ZL fun c hc=>h c (by have:=rH.mp hc;omega)]
def Ux(K:W.Frag)(C:Addr):Sp:=fun vs H Q _=>∃(o xa ya:Addr) (H0:Hp) (n m q:Nat) (X Y:Nat->Int) (T:Sx.Tab),vs=[.ref o,.ref xa,.ref ya,.int (q:Int)]/\jT K C H0 H o n m T/\n<=10/\(0<T.over/\T.over<=39916800)/\q<=n/\H xa=some (.lst (aW n X))/\H ya=some (.lst (aW n Y))/\
 (∀c,c<=n->(-4000000000<=X c/\X c<=4000000000)/\(-4000000000<=Y c/\Y c<=4000000000))/\∀r H',Same H H'->H r=none->H' r=some (.lst (aW n (tdF T.over X Y q)))->Q (.ref r) H'
theorem WK{f C:Addr}{fd:τ}(F:Fun K "turned" "Tableau.turned" zcx f fd)
  (Cc:Cls K C)(aX:NoAttr K C "cells")(cZ:NoAttr K C "over")(aV:NoAttr K C "columns")(bY:NoAttr K C "rows")(cC:mg "enumerate"=none):
  FnOk P w K mg base CX0 1 f fd ["self","cells","pivots","column"] (Ux K C):=by
 refine F.dM ["self","cells","pivots","column","by","fresh"] fun cdv A outer s H vs Q E hr h=> ?_;obtain⟨o,xa,ya,H0,n,m,q,X,Y,T,rfl,⟨dx,cl,co,ro,rws,hT⟩,hn,⟨ho0,ho1⟩,hq,hX,hY,hb,qq⟩:=h;refine⟨_,(aP (pS 4 (bR mZ (pv 2) (pv 3))) (aP (pX 5 ["k","cell"] ["by","cells","column","pivots","self"] [4,1,3,2,0] (nJ rfl cC (aj (pv 1) aA)) (gH K (n:=2) rfl (qY (pG 0) (qY (pG 1) JT))) qG (bJ eU (bJ op_sub (bJ yu (pv 1) (pv 2)) (bJ yu (bR (eY K) (pv 3) (pv 4)) (bR (eY K) (pv 5) (pv 0)))) (Ru K (pv 6) rfl))) (aP (ps_asg (pe_un un_neg (bR mZ (pv 1) (pv 3))) (pg_sub (pv 5) (pv 3) set_list)) (bw (cT (pv 5)))))),?_⟩;refine⟨_,rfl,_,rfl,ya,_,_,_,rfl,rfl,SqL.of hY,eF _ hq,?_⟩;refine⟨_,rfl,false,xa,_,rfl,SqL.of hX,fun hz=> ?_⟩;refine j9 (K:=K) (b:=false) (a:=xa) (xs:=aW n X) (fun i acc σ H'=>acc=((List.range i).map fun c=>(X c*Y q-X q*Y c)/T.over).map V.int/\Same H H'/\∃o1 o2,σ=[o1,o2,some (.int (Y q)),some (.ref xa),some (.int (q:Int)),some (.ref ya),some (.ref o)]) ⟨rfl,Same.refl _,_,_,rfl⟩ (fun i acc σ H' _ p=>p.2.1.seq (SqL.of hX)) (fun i acc σ H' _ p=> ?_) hz (fun i v t acc σ H' hv p ht=> ?_) (fun acc σ H' p=> ?_)
 ·rw[p.1,aJ,aJ,wj];exact aN _
 ·obtain⟨rfl,sm,o1,o2,rfl⟩:=p;have hi:i<=n:=by
   have:=(m6.mp hv).1;rw[Hz]at this;omega
  rw[nF _ hi]at hv;cases hv;have s1:=aO ht (.tup [.int (i:Int),.int (X i)]);have s2:=sm.trans s1;have bi:=(hb i hi).1;have bq:=(hb q hq).1;refine⟨t,_,rfl,SqT.of aH,rfl,_,_,rfl,_,_,rfl,rfl,?_⟩;refine⟨_,rfl,_,rfl,_,_,rfl,rfl,.inl ⟨by omega,by omega⟩,?_⟩;refine⟨_,rfl,_,rfl,xa,_,_,_,rfl,rfl,SqL.of (s2 _ _ hX),eF _ hq,_,rfl,_,rfl,ya,_,_,_,rfl,rfl,SqL.of (s2 _ _ hY),eF _ hi,_,_,rfl,rfl,.inl ⟨by omega,by omega⟩,_,_,rfl,rfl,?_⟩;refine⟨_,rfl,o,C,dx,_,_,rfl,s2 _ _ hT.at_,Cc,cZ,rfl,_,_,rfl,rfl,⟨ho0,by omega⟩,?_⟩;exact⟨by rw[Fw,bV,bV];rfl,s2,_,_,rfl⟩
 ·intro p1 hp1;obtain⟨rfl,sm,_⟩:=p;rw[Hz];have s1:=aO hp1 (.lst (aW n fun c=>(X c*Y q-X q*Y c)/T.over));have s2:=sm.trans s1;have h0:H p1=none:=by
   cases e:H p1 with
   |none=>rfl
   |some u=>rw[sm _ _ e]at hp1;cases hp1
  refine⟨_,rfl,_,rfl,xa,_,_,_,rfl,rfl,SqL.of (s2 _ _ hX),eF _ hq,_,rfl,?_⟩;refine⟨_,rfl,_,rfl,p1,_,_,q,rfl,rfl,aH,?_,?_⟩
  ·have e:ixN (aW n fun c=>(X c*Y q-X q*Y c)/T.over).length (q:Int)=some q:=by
    rw[Hz];unfold ixN;rw[aB (by omega),aB (by omega)];rfl
   exact e
  ·refine⟨_,rfl,qq p1 _ (fun b u hb=> ?_) h0 ?_⟩
   ·have nb:b≠p1:=fun e=>by rw[e,h0]at hb;cases hb
    rw[bU nb];exact s2 _ _ hb
   ·rw[aH];have e:=zy (fun c=>(X c*Y q-X q*Y c)/T.over) (-X q) hq;exact iD (fun l=>some (HO.lst l)) e
theorem TJ{xs:List V}{k:Nat}(hk:k<=xs.length):cutV xs none (some (k:Int))=xs.take k:=by
 unfold cutV;rw[HT.sIx_nat,HT.sIx_none,Yl hk,wha,Nat.sub_zero]
theorem JF{xs:List V}{k:Nat}(hk:k<=xs.length):cutV xs (some (k:Int)) none=xs.drop k:=by
 unfold cutV;rw[HT.sIx_nat,HT.sIx_none,Yl hk,Cd (by rw[T9];omega)]
theorem _root_.L2.Same.vd{H0 H:Hp}{a:Addr}{u:HO}(s:Same H0 H)(h:H0 a=none):Same H0 (upd H a u):=fun b o hb=>by
 have nb:b≠a:=fun e=>by rw[e,h]at hb;cases hb
 rw[bU nb];exact s _ _ hb
theorem _root_.L2.Same.none{H0 H:Hp}{a:Addr}(s:Same H0 H)(h:H a=none):H0 a=none:=by
 cases e:H0 a with
 |none=>rfl
 |some u=>rw[s _ _ e]at h;cases h
section
variable{C:Addr}{H0 H:Hp}{o dx cl co ro:Addr}{rws:List Addr}{n m:Nat}{T:Sx.Tab}
theorem cg.ocl(h:cg K C H0 H o dx cl co ro rws n m T):o≠cl:=ne_of h.at_ h.cells fun e=>nomatch e
theorem cg.oco(h:cg K C H0 H o dx cl co ro rws n m T):o≠co:=ne_of h.at_ h.cols fun e=>nomatch e
theorem cg.oro(h:cg K C H0 H o dx cl co ro rws n m T):o≠ro:=ne_of h.at_ h.rows fun e=>nomatch e
theorem jZ{rws:List Addr}{xs:List Int}(h:0<rws.length)(e:rws.map V.ref=xs.map V.int):False:=by
 cases rws with
 |nil=>exact absurd h (uV 0)
 |cons a r=>
  cases xs with
  |nil=>cases e
  |cons x xs=>injection e with e1 _;cases e1
theorem cg.abo(h:cg K C H0 H o dx cl co ro rws n m T):cl≠co:=fun e=>by
 have z:=h.cols;rw[<-e,h.cells]at z;exact jZ (by rw[h.len];omega) (HO.lst.inj (uY z))
theorem cg.abn(h:cg K C H0 H o dx cl co ro rws n m T):cl≠ro:=fun e=>by
 have z:=h.rows;rw[<-e,h.cells]at z;exact jZ (by rw[h.len];omega) (HO.lst.inj (uY z))
theorem cg.abm(h:cg K C H0 H o dx cl co ro rws n m T){r:Nat}{a:Addr}(e:rws[r]? =some a):a≠cl:=fun z=>by
 have y:=h.row r a e;rw[z,h.cells]at y;exact jZ (by rw[h.len];omega) (HO.lst.inj (uY y))
theorem cg.orow(h:cg K C H0 H o dx cl co ro rws n m T){r:Nat}{a:Addr}(e:rws[r]? =some a):a≠o:=fun z=>by
 have y:=h.row r a e;rw[z,h.at_]at y;cases y
theorem cg.Lp(h:cg K C H0 H o dx cl co ro rws n m T){Zk:Addr}{Dh:List Addr}{X:Nat->Nat->Int}(h0:H0 Zk=none)(hc:H Zk=some (.lst (Dh.map V.ref)))(hl:Dh.length=m+1)(hr:∀r a,Dh[r]? =some a->H a=some (.lst (aW n (X r))))(n1:co∉Dh)(n2:ro∉Dh):
  cg K C H0 (upd H o (.ins C dx (putF "cells" (.ref Zk) (flds cl co ro T.over)))) o dx Zk co ro Dh n m {T with cell:=X}:=by
 have k:∀b,b≠o->∀u,H b=some u->(upd H o (.ins C dx (putF "cells" (.ref Zk) (flds cl co ro T.over)))) b=some u:=fun b hb u e=>by rw[bU hb];exact e
 refine⟨h.same.vd h.o0,h.o0,h0,h.Vq,h.U8,h.ne,n1,n2,aH,k _ (fun e=> ?_) _ hc,hl,fun r a e=>k _ (fun z=> ?_) _ (hr r a e),k _ h.oco.symm _ h.cols,k _ h.oro.symm _ h.rows⟩
 ·rw[e,h.at_]at hc;cases hc
 ·have y:=hr r a e;rw[z,h.at_]at y;cases y
theorem cg.Wf(h:cg K C H0 H o dx cl co ro rws n m T){p:Nat}{a:Addr}{X:Nat->Int}(hp:p<=m)(ha:H a=some (.lst (aW n X)))(n1:co≠a)(n2:ro≠a):
  cg K C H0 (upd H cl (.lst ((rws.map V.ref).set p (.ref a)))) o dx cl co ro (rws.set p a) n m {T with cell:=fun r c=>if r=p then X c else T.cell r c}:=by
 have k:∀b,b≠cl->∀u,H b=some u->(upd H cl (.lst ((rws.map V.ref).set p (.ref a)))) b=some u:=fun b hb u e=>by rw[bU hb];exact e
 have hac:a≠cl:=fun z=>by
  rw[z,h.cells]at ha;exact jZ (by rw[h.len];omega) (HO.lst.inj (uY ha))
 refine⟨h.same.vd h.X4,h.o0,h.X4,h.Vq,h.U8,h.ne,fun z=> ?_,fun z=> ?_,k _ h.ocl _ h.at_,by rw[aH,wgr],by rw[wed];exact h.len,fun r b e=> ?_,k _ h.abo.symm _ h.cols,k _ h.abn.symm _ h.rows⟩
 ·rcases wfa z with z|z
  ·exact h.nc z
  ·exact n1 z
 ·rcases wfa z with z|z
  ·exact h.nr z
  ·exact n2 z
 ·rw[wdn]at e;by_cases c:p=r
  ·rw[aB c,aB (by rw[h.len];omega)]at e;cases e;rw[k _ hac _ ha];exact iD (fun l=>some (HO.lst l)) (lV fun c' _=>by show X c'=if r=p then X c' else T.cell r c';rw[aB c.symm])
  ·rw[aq c]at e;rw[k _ (h.abm e) _ (h.row r b e)];exact iD (fun l=>some (HO.lst l)) (lV fun c' _=>by show T.cell r c'=if r=p then X c' else T.cell r c';rw[aq (kO c)])
theorem cg.setOver(h:cg K C H0 H o dx cl co ro rws n m T)(v:Int):cg K C H0 (upd H o (.ins C dx (putF "over" (.int v) (flds cl co ro T.over)))) o dx cl co ro rws n m {T with over:=v}:=by
 have k:∀b,b≠o->∀u,H b=some u->(upd H o (.ins C dx (putF "over" (.int v) (flds cl co ro T.over)))) b=some u:=fun b hb u e=>by rw[bU hb];exact e
 exact⟨h.same.vd h.o0,h.o0,h.X4,h.Vq,h.U8,h.ne,h.nc,h.nr,aH,k _ h.ocl.symm _ h.cells,h.len,fun r a e=>k _ (h.orow e) _ (h.row r a e),k _ h.oco.symm _ h.cols,k _ h.oro.symm _ h.rows⟩
theorem cg.Ra(h:cg K C H0 H o dx cl co ro rws n m T){p:Nat}(v:Nat)(hp:p<m):cg K C H0 (upd H ro (.lst (((bN m T.row).map V.int).set p (.int (v:Int))))) o dx cl co ro rws n m {T with row:=fun r=>if r=p then v else T.row r}:=by
 have k:∀b,b≠ro->∀u,H b=some u->(upd H ro (.lst (((bN m T.row).map V.int).set p (.int (v:Int))))) b=some u:=fun b hb u e=>by rw[bU hb];exact e
 refine⟨h.same.vd h.U8,h.o0,h.X4,h.Vq,h.U8,h.ne,h.nc,h.nr,k _ h.oro _ h.at_,k _ h.abn _ h.cells,h.len,fun r a e=>k _ (fun z=>h.nr (z▸jq e)) _ (h.row r a e),k _ h.ne _ h.cols,?_⟩;rw[aH,<-wgr,vP _ _ hp]
theorem cg.Rb(h:cg K C H0 H o dx cl co ro rws n m T){q:Nat}(v:Nat)(hq:q<n):cg K C H0 (upd H co (.lst (((bN n T.col).map V.int).set q (.int (v:Int))))) o dx cl co ro rws n m {T with col:=fun c=>if c=q then v else T.col c}:=by
 have k:∀b,b≠co->∀u,H b=some u->(upd H co (.lst (((bN n T.col).map V.int).set q (.int (v:Int))))) b=some u:=fun b hb u e=>by rw[bU hb];exact e
 refine⟨h.same.vd h.Vq,h.o0,h.X4,h.Vq,h.U8,h.ne,h.nc,h.nr,k _ h.oco _ h.at_,k _ h.abo _ h.cells,h.len,fun r a e=>k _ (fun z=>h.nc (z▸jq e)) _ (h.row r a e),?_,k _ h.ne.symm _ h.rows⟩;rw[aH,<-wgr,vP _ _ hq]
end
theorem Ly{n q:Nat}(X:Nat->Int)(v:Int)(h:q<=n):((aW n X).take q++[.int v])++(aW n X).drop (q+1)=aW n fun c=>if c=q then v else X c:=by
 rw[<-zy X v h,List.set_eq_take_append_cons_drop,aB (by rw[Hz];omega),ZF];rfl
def Uv(K:W.Frag)(C:Addr):Sp:=fun vs H Q _=>∃(o:Addr) (H0:Hp) (n m p q:Nat) (S:Nat->Nat->Bool) (wt:Nat->Int) (T:Sx.Tab),vs=[.ref o,.int (p:Int),.int (q:Int)]/\jT K C H0 H o n m T/\TG n m S wt T/\p<m/\q<n/\∀H',jT K C H0 H' o n m (Sx.turn T p q)->Q .non H'
theorem Wz{f f1 C:Addr}{fd d1:τ}(F:Fun K "turn" "Tableau.turn" fV f fd)
  (Cc:Cls K C)(aX:NoAttr K C "cells")(cZ:NoAttr K C "over")(aV:NoAttr K C "columns")(bY:NoAttr K C "rows")(D1:JN K C "turned" "Tableau.turned" zcx ["self","cells","pivots","column"] f1 d1)(G1:FnOk P w K mg base CX0 1 f1 d1 ["self","cells","pivots","column"] (Ux K C)):
  FnOk P w K mg base CX0 2 f fd ["self","row","column"] (Uv K C):=by
 refine F.dM ["self","row","column","pivots","by","name"] fun cdv A outer s H vs Q E hr h=> ?_;obtain⟨o,H0,n,m,p,q,S,wt,T,rfl,⟨dx,cl,co,ro,rws,hT⟩,hG,hp,hq,qq⟩:=h;refine bf ?_;intro Y;refine⟨_,(aP (pS 3 (bR mZ (oJ (pv 0) rfl) (pv 1))) (aP (pS 4 (bR mZ (pv 3) (pv 2))) (aP (ps_fld (pv 0) (pK ["cells"] ["self","pivots","column"] [0,3,2] (rG (oJ (pv 0) rfl)) (pG 0) qG (pe_meth (pv 1) Cc D1.m G1 hr D1.b .nil pass0 (aj (pv 0) (aj (pv 2) (aj (pv 3) aA))))) rfl) (aP (ps_asg (bJ yE (bJ yE (yH Kc (pv 3) vC (vD (pv 2))) (lE (aj (oJ (pv 0) rfl) aA))) (yH Kc (pv 3) (vD (bJ uU (pv 2) aQ)) vC)) (pg_sub (oJ (pv 0) rfl) (pv 1) set_list)) (aP (ps_fld (pv 0) (pv 4) rfl) (aP (pS 5 (bR mZ (oJ (pv 0) rfl) (pv 1))) (aP (ps_asg (bR mZ (oJ (pv 0) rfl) (pv 2)) (pg_sub (oJ (pv 0) rfl) (pv 1) set_list)) (bw (ps_asg (pv 5) (pg_sub (oJ (pv 0) rfl) (pv 2) set_list)))))))))),?_⟩;refine Vk ?_;intro c8 c7 c6 c5 c4 c3 c2;obtain⟨pa,pe,pi,pr⟩:=hT.Il (cW hp);refine⟨_,rfl,o,C,dx,_,_,rfl,hT.at_,Cc,aX,rfl,_,rfl,cl,_,_,_,rfl,rfl,SqL.of hT.cells,pi,?_⟩;refine⟨_,rfl,_,rfl,pa,_,_,_,rfl,rfl,SqL.of pr,eF _ (cW hq),?_⟩;refine⟨_,rfl,o,C,dx,_,_,rfl,hT.at_,Cc,aX,rfl,cl,_,rfl,SqL.of hT.cells,fun hz=> ?_⟩;let gq:Nat->List V->St->Hp->Prop:=fun i acc σ H'=>∃as:List Addr,acc=as.map V.ref/\as.length=i/\Same H H'/\(∀r a,as[r]? =some a->H a=none/\H' a=some (.lst (aW n (tdF T.over (T.cell r) (T.cell p) q))))/\∃o1,σ=[o1,some (.ref o),some (.ref pa),some (.int (q:Int))];refine Cm (xs:=rws.map V.ref) gq ⟨[],rfl,rfl,Same.refl _,fun r a e=>(nomatch e),_,rfl⟩ (fun i acc σ H' _ x=> ?_) (fun i acc σ H' _ x=> ?_) hz (fun i v acc σ H' hv x=> ?_) (fun acc σ H' x=> ?_)
 ·obtain⟨_,_,_,sm,_⟩:=x;exact sm.seq (SqL.of hT.cells)
 ·obtain⟨as,rfl,hl,_⟩:=x;rw[aJ,hl];exact aN _
 ·obtain⟨as,rfl,hl,sm,has,o1,rfl⟩:=x;rw[dD]at hv;cases er:rws[i]? with
  |none=>rw[er]at hv;cases hv
  |some ra=>
   rw[er]at hv;cases hv;have him:i<=m:=by have:=(m6.mp er).1;rw[hT.len]at this;omega
   refine⟨_,rfl,o,dx,_,rfl,sm _ _ hT.at_,rfl,_,rfl,_,rfl,_,rfl,o,ra,pa,H0,n,m,q,T.cell i,T.cell p,T,rfl,⟨dx,cl,co,ro,rws,hT.sm sm⟩,hG.n10,hG.over,cW hq,sm _ _ (hT.row i ra er),sm _ _ pr,fun c hc=>⟨hG.cell him hc,hG.cell (cW hp) hc⟩,fun r1 H1 s1 h1 e1=> ?_⟩;refine⟨as++[r1],by rw[bV];rfl,by rw[gB,hl];rfl,sm.trans s1,fun r a e=> ?_,_,rfl⟩;rw[wdx]at e;by_cases c:r<as.length
   ·rw[aB c]at e;exact⟨(has r a e).1,s1 _ _ (has r a e).2⟩
   ·rw[aq c]at e;have er':r-as.length=0:=by
     have:=(m6.mp e).1;have:r-as.length<1:=this;omega
    rw[er']at e;cases e;have:r=i:=by omega
    subst this;exact⟨sm.none h1,e1⟩
 ·intro p1 hp1;obtain⟨as,rfl,hl,sm,has,_⟩:=x;rw[aJ,hT.len]at hl;have s1:=aO hp1 (.lst (as.map V.ref));have hT1:=hT.sm (sm.trans s1);have h10:H0 p1=none:=hT.same.none (sm.none hp1);have nas:∀b u,H b=some u->b∉as:=fun b u hb hm=>by
   obtain⟨r,hr1,rfl⟩:=Fz hm;have:=(has r _ (gj hr1)).1;rw[hb]at this;cases this
  have hT2:=hT1.Lp (Zk:=p1) (Dh:=as) (X:=fun r=>tdF T.over (T.cell r) (T.cell p) q) h10 aH hl (fun r a e=>s1 _ _ (has r a e).2) (nas _ _ hT.cols) (nas _ _ hT.rows);refine⟨_,rfl,o,C,dx,_,rfl,hT1.at_,Cc,aX,(by show 4<1000;decide),?_⟩;have npo:pa≠o:=hT.orow pe;have pr2:=(sm.trans s1) _ _ pr;have pr3:(upd (upd H' p1 (.lst (as.map V.ref))) o (.ins C dx (putF "cells" (.ref p1) (flds cl co ro T.over)))) pa=some (.lst (aW n (T.cell p))):=by rw[bU npo];exact pr2
  generalize (upd (upd H' p1 (.lst (as.map V.ref))) o (.ins C dx (putF "cells" (.ref p1) (flds cl co ro T.over))))=H2 at *
  -- the row of the turn
  refine⟨_,rfl,_,rfl,_,rfl,pa,_,rfl,SqL.of pr3,fun l1 hl1=> ?_⟩;have t1:=aO hl1 (.lst (cutV (aW n (T.cell p)) none (some (q:Int))));have f1:(upd H2 l1 (.lst (cutV (aW n (T.cell p)) none (some (q:Int))))) l1=some (.lst (cutV (aW n (T.cell p)) none (some (q:Int)))):=aH;generalize (upd H2 l1 (.lst (cutV (aW n (T.cell p)) none (some (q:Int)))))=H3 at *;refine⟨_,rfl,o,C,dx,_,_,rfl,t1 _ _ hT2.at_,Cc,cZ,rfl,(by show 1<=sizeLine;decide),fun l2 hl2=> ?_⟩;have t2:=aO hl2 (.lst [.int T.over]);have f2:(upd H3 l2 (.lst [.int T.over])) l2=some (.lst [.int T.over]):=aH;have f1':=t2 _ _ f1;refine⟨l1,l2,_,_,rfl,rfl,f1',f2,?_,fun l3 hl3=> ?_⟩
  ·have:=Vw (aW n (T.cell p)) none (some (q:Int));rw[Hz]at this;have:=hG.n10;rw[eE];show _+1<=_;omega
  have t3:=aO hl3 (.lst (cutV (aW n (T.cell p)) none (some (q:Int))++[.int T.over]));have f3:(upd (upd H3 l2 (.lst [.int T.over])) l3 (.lst (cutV (aW n (T.cell p)) none (some (q:Int))++[.int T.over]))) l3=some (.lst (cutV (aW n (T.cell p)) none (some (q:Int))++[.int T.over])):=aH;have Uu:=t1.trans (t2.trans t3);generalize (upd (upd H3 l2 (.lst [.int T.over])) l3 (.lst (cutV (aW n (T.cell p)) none (some (q:Int))++[.int T.over])))=H5 at *;refine⟨_,rfl,_,rfl,_,_,rfl,rfl,_,rfl,pa,_,rfl,SqL.of (Uu _ _ pr3),fun l4 DW=> ?_⟩;have t4:=aO DW (.lst (cutV (aW n (T.cell p)) (some ((q:Int)+1)) none));refine⟨l3,l4,_,_,rfl,rfl,t4 _ _ f3,aH,?_,fun l5 Y7=> ?_⟩
  ·have a1:=Vw (aW n (T.cell p)) none (some (q:Int));have a2:=Vw (aW n (T.cell p)) (some ((q:Int)+1)) none;rw[Hz]at a1 a2;have:=hG.n10;rw[gB,eE];show _+1+_<=_;omega
  have t5:=aO Y7 (.lst ((cutV (aW n (T.cell p)) none (some (q:Int))++[.int T.over])++cutV (aW n (T.cell p)) (some ((q:Int)+1)) none));have abV:(cutV (aW n (T.cell p)) none (some (q:Int))++[.int T.over])++cutV (aW n (T.cell p)) (some ((q:Int)+1)) none=aW n fun c=>if c=q then T.over else T.cell p c:=by
   rw[TJ (by rw[Hz];omega),show(q:Int)+1=((q+1:Nat):Int)from by omega,JF (by rw[Hz];omega)];exact Ly _ _ (cW hq)
  rw[abV]at t5⊢;have hT3:=hT2.sm (Uu.trans (t4.trans t5));have f5:(upd (upd H5 l4 (.lst (cutV (aW n (T.cell p)) (some ((q:Int)+1)) none))) l5 (.lst (aW n fun c=>if c=q then T.over else T.cell p c))) l5=some (.lst (aW n fun c=>if c=q then T.over else T.cell p c)):=aH;have g1:co≠l5:=jh ((Uu.trans t4) _ _ hT2.cols) Y7;have g2:ro≠l5:=jh ((Uu.trans t4) _ _ hT2.rows) Y7;generalize (upd (upd H5 l4 (.lst (cutV (aW n (T.cell p)) (some ((q:Int)+1)) none))) l5 (.lst (aW n fun c=>if c=q then T.over else T.cell p c)))=H6 at *;have Y9:=hT3.Wf (p:=p) (cW hp) f5 g1 g2;refine⟨_,rfl,o,C,dx,_,_,rfl,hT3.at_,Cc,aX,rfl,_,rfl,p1,_,_,p,rfl,rfl,hT3.cells,?_,?_⟩
  ·have e:ixN (as.map V.ref).length (p:Int)=some p:=by
    rw[aJ,hl];unfold ixN;rw[aB (by omega),aB (by omega)];rfl
   exact e
  generalize (upd H6 p1 (.lst ((as.map V.ref).set p (.ref l5))))=H7 at *;have hT5:=Y9.setOver (T.cell p q);refine⟨_,rfl,_,rfl,o,C,dx,_,rfl,Y9.at_,Cc,cZ,(by show 4<1000;decide),?_⟩;generalize (upd H7 o (.ins C dx (putF "over" (.int (T.cell p q)) (flds p1 co ro T.over))))=H8 at *;refine⟨_,rfl,o,C,dx,_,_,rfl,hT5.at_,Cc,bY,rfl,_,rfl,ro,_,_,_,rfl,rfl,SqL.of hT5.rows,nO _ hp,?_⟩;refine⟨_,rfl,o,C,dx,_,_,rfl,hT5.at_,Cc,aV,rfl,_,rfl,co,_,_,_,rfl,rfl,SqL.of hT5.cols,nO _ hq,?_⟩;have Y8:=hT5.Ra (p:=p) (T.col q) hp;refine⟨_,rfl,o,C,dx,_,_,rfl,hT5.at_,Cc,bY,rfl,_,rfl,ro,_,_,p,rfl,rfl,hT5.rows,?_,?_⟩
  ·have e:ixN ((bN m T.row).map V.int).length (p:Int)=some p:=by
    rw[aJ,HB];unfold ixN;rw[aB (by omega),aB (by omega)];rfl
   exact e
  generalize (upd H8 ro (.lst (((bN m T.row).map V.int).set p (.int ((T.col q:Nat):Int)))))=H9 at *;have Ar:=Y8.Rb (q:=q) (T.row p) hq;refine⟨_,rfl,_,rfl,o,C,dx,_,_,rfl,Y8.at_,Cc,aV,rfl,_,rfl,co,_,_,q,rfl,rfl,Y8.cols,?_,?_⟩
  ·have e:ixN ((bN n T.col).map V.int).length (q:Int)=some q:=by
    rw[aJ,HB];unfold ixN;rw[aB (by omega),aB (by omega)];rfl
   exact e
  refine qq _ ⟨dx,p1,co,ro,_,Ar.same,Ar.o0,Ar.X4,Ar.Vq,Ar.U8,Ar.ne,Ar.nc,Ar.nr,Ar.at_,Ar.cells,Ar.len,fun r a e=> ?_,Ar.cols,Ar.rows⟩;rw[Ar.row r a e];refine iD (fun l=>some (HO.lst l)) (lV fun c _=> ?_);show(if r=p then(if c=q then T.over else T.cell p c)else tdF T.over (T.cell r) (T.cell p) q c)=_;rfl
theorem Lw{n m:Nat}{S:Nat->Nat->Bool}{wt:Nat->Int}{Ts:Nat->Sx.Tab}{ps qs:Nat->Nat}{L p q:Nat}(R:Sx.Run n m S wt Ts ps qs L)(s:Sx.Step n m (Ts L) p q):
  Sx.Run n m S wt (fun t=>if t<=L then Ts t else Sx.turn (Ts L) p q) (fun t=>if t<L then ps t else p) (fun t=>if t<L then qs t else q) (L+1):=by
 refine⟨by rw[aB (dB L)];exact R.first,fun t ht=> ?_,fun t ht=> ?_⟩
 ·by_cases c:t<L
  ·rw[aB (cW c),aB c,aB c];exact R.step t c
  ·have e:t=L:=by omega
   subst e;rw[aB (aN t),aq c,aq c];exact s
 ·by_cases c:t<L
  ·rw[aB (show t+1<=L from c),aB (cW c),aB c,aB c];exact R.next t c
  ·have e:t=L:=by omega
   subst e;rw[aq (by omega),aB (aN t),aq c,aq c]
structure Sta(n m:Nat)(S:Nat->Nat->Bool)(wt:Nat->Int):Prop where
 n10:n<=10
 m40:m<=40
 wb:∀p,p<n->0<=wt p/\wt p<=99
 cov:∀p,p<n->∃k,k<m/\S k p=true
theorem Sta.tg{n m:Nat}{S:Nat->Nat->Bool}{wt:Nat->Int}{T:Sx.Tab}(h:Sta n m S wt)(g:Sx.Good n m S wt T):TG n m S wt T:=⟨g,h.n10,h.m40,h.wb,h.cov⟩
def NcV(n m:Nat)(T:Sx.Tab)(x:V):Prop:=(x= .non/\∀c,c<n->0<=T.cell m c)\/∃q:Nat,x= .int (q:Int)/\q<n/\T.cell m q<0/\∀c,c<n->T.cell m c<0->T.col q<=T.col c
def Qa(K:W.Frag)(C o:Addr)(H0:Hp)(n m:Nat)(S:Nat->Nat->Bool)(wt:Nat->Int)(k:Nat)(σ:St)(H:Hp):Prop:=
 ∃(Ts:Nat->Sx.Tab) (ps qs:Nat->Nat) (L:Nat) (x:V),Sx.Run n m S wt Ts ps qs L/\L+k=2^(n+m)/\jT K C H0 H o n m (Ts L)/\σ=[some (.ref o),some x]/\NcV n m (Ts L) x
def K4(K:W.Frag)(C:Addr):Sp:=fun vs H Q _=>∃(o:Addr) (H0:Hp) (n m:Nat) (S:Nat->Nat->Bool) (wt:Nat->Int) (T:Sx.Tab),vs=[.ref o]/\jT K C H0 H o n m T/\Sta n m S wt/\Sx.Good n m S wt T/\
 ∀T' H',jT K C H0 H' o n m T'->Sx.Good n m S wt T'->(∀c,c<n->0<=T'.cell m c)->Q .non H'
theorem WL{f f1 f2 f3 C:Addr}{fd d1 d2 d3:τ}(F:Fun K "solve" "Tableau.solve" zdk f fd)
  (Cc:Cls K C)(aX:NoAttr K C "cells")(cZ:NoAttr K C "over")(aV:NoAttr K C "columns")(bY:NoAttr K C "rows")(D1:JN K C "next_column" "Tableau.next_column" zbo ["self"] f1 d1)(G1':FnOk P w K mg base CX0 1 f1 d1 ["self"] (K7 K C))(D2:JN K C "turn" "Tableau.turn" fV ["self","row","column"] f2 d2)(G2:FnOk P w K mg base CX0 2 f2 d2 ["self","row","column"] (Uv K C))(D3:JN K C "next_row" "Tableau.next_row" zcf ["self","column"] f3 d3)(G3:FnOk P w K mg base CX0 2 f3 d3 ["self","column"] (Uy K C)):
  FnOk P w K mg base CX0 3 f fd ["self"] (K4 K C):=by
 have G1:FnOk P w K mg base CX0 2 f1 d1 ["self"] (K7 K C):=G1'.mono (by decide);refine F.dM ["self","column"] fun cdv A outer s H vs Q E hr h=> ?_;obtain⟨o,H0,n,m,S,wt,T,rfl,hT,hS,hg,qq⟩:=h;refine bf ?_;intro Y;refine⟨_,(aP (pS 1 (pe_meth0 (pv 0) Cc D1.m G1 hr D1.b .nil pass0)) (bw (ps_while rM (jg op_notN (pv 1) pe_non) (aP (sH (pe_meth (pv 0) Cc D2.m G2 hr D2.b .nil pass0 (aj (pe_meth (pv 0) Cc D3.m G3 hr D3.b .nil pass0 (aj (pv 1) aA)) (aj (pv 1) aA)))) (bw (pS 1 (pe_meth0 (pv 0) Cc D1.m G1 hr D1.b .nil pass0))))))),?_⟩;refine je ?_;intro c2;have key:∀(x:V) (H1:Hp),jT K C H0 H1 o n m T->NcV n m T x->∃k,Qa K C o H0 n m S wt k [some (.ref o),some x] H1:=fun x H1 h1 h2=>
  ⟨2^(n+m),fun _=>T,fun _=>0,fun _=>0,0,x,⟨hg,fun t ht=>absurd ht (QL t),fun t ht=>absurd ht (QL t)⟩,who _,h1,rfl,h2⟩
 obtain⟨dx,cl,co,ro,rws,hA0⟩:=id hT;refine⟨_,rfl,o,dx,_,rfl,hA0.at_,rfl,o,H0,n,m,S,wt,T,rfl,hT,hS.tg hg,?a,?b⟩
 case' a=>
  intro h H1 s1;have w0:=key _ _ (hT.sm s1) (.inl ⟨rfl,h⟩);refine⟨Qa K C o H0 n m S wt,w0,?_⟩;clear w0 s1 h
 case' b=>
  intro q H1 hq hn he s1;have w0:=key _ _ (hT.sm s1) (.inr ⟨q,rfl,hq,hn,he⟩);refine⟨Qa K C o H0 n m S wt,w0,?_⟩;clear w0 s1 he hn hq q
 all_goals
  clear H1;intro k σ H1 h;obtain⟨Ts,ps,qs,L,x,R,hk,⟨dx',cl,co,ro,rws,hA⟩,rfl,hx⟩:=h;have Xn:=R.good L (aN L);have hG:=hS.tg Xn;have hsh:=R.short;rcases hx with⟨rfl,hx⟩|⟨q,rfl,hq,hn,he⟩
  ·refine⟨_,rfl,rfl,_,rfl,?_⟩;refine iteF ?_;exact qq (Ts L) H1 ⟨dx',cl,co,ro,rws,hA⟩ Xn hx
  ·refine⟨_,rfl,rfl,_,rfl,?_⟩;refine iteT ?_;refine⟨Qa K C o H0 n m S wt (k-1),fun σ' H' z=>⟨k-1,by omega,z⟩,?_⟩;refine⟨_,rfl,o,dx',_,rfl,hA.at_,rfl,_,rfl,o,dx',_,rfl,hA.at_,rfl,_,rfl,o,H0,n,m,q,S,wt,Ts L,rfl,⟨dx',cl,co,ro,rws,hA⟩,hG,hq,fun p hp h0 hlev=> ?_⟩;have st:Sx.Step n m (Ts L) p q:=⟨hp,hq,hn,he,h0,hlev⟩;refine⟨_,rfl,o,H0,n,m,p,q,S,wt,Ts L,rfl,⟨dx',cl,co,ro,rws,hA⟩,hG,hp,hq,fun H2 hT2=> ?_⟩;have R2:=Lw R st;have g2:=st.good Xn;obtain⟨dx2,cl2,co2,ro2,ab8,hA2⟩:=id hT2;have fin:∀(x:V) (H3:Hp),Same H2 H3->NcV n m (Sx.turn (Ts L) p q) x->Qa K C o H0 n m S wt (k-1) [some (.ref o),some x] H3:=fun x H3 s3 hx=>by
    refine⟨_,_,_,L+1,x,R2,by omega,?_,rfl,?_⟩
    ·rw[aq (by omega)];exact hT2.sm s3
    ·rw[aq (by omega)];exact hx
   exact⟨_,rfl,o,dx2,_,rfl,hA2.at_,rfl,o,H0,n,m,S,wt,_,rfl,hT2,hS.tg g2,fun h H3 s3=>fin _ H3 s3 (.inl ⟨rfl,h⟩),fun q' H3 hq' hn' he' s3=>fin _ H3 s3 (.inr ⟨q',rfl,hq',hn',he'⟩)⟩
def abv(k:Nat)(i:Int)(r:Nat):Prop:=(i=(r:Int)/\r<=k)\/(i= -1/\r=k)
def yQ(K:W.Frag)(C:Addr):Sp:=fun vs H Q _=>∃(o:Addr) (H0:Hp) (n m r c:Nat) (i j:Int) (S:Nat->Nat->Bool) (wt:Nat->Int) (T:Sx.Tab),vs=[.ref o,.int i,.int j]/\jT K C H0 H o n m T/\TG n m S wt T/\abv m i r/\abv n j c/\
 ∀p H' u v,Same H H'->H' p=some (.tup [.int u,.int ((v:Nat):Int)])->Low (T.cell r c) T.over.toNat u v->Q (.ref p) H'
theorem WW{f f1 C:Addr}{fd d1:τ}(F:Fun K "fraction_at" "Tableau.fraction_at" Zv f fd)
  (Cc:Cls K C)(aX:NoAttr K C "cells")(cZ:NoAttr K C "over")(aV:NoAttr K C "columns")(bY:NoAttr K C "rows")(D1:bQ K mg "lowest" jy ["a","b"] f1 d1)(G1:FnOk P w K mg base CX0 2 f1 d1 ["a","b"] (Gi K)):
  FnOk P w K mg base CX0 3 f fd ["self","row","column"] (yQ K C):=by
 refine F.dM ["self","row","column"] fun cdv A outer s H vs Q E hr h=> ?_;obtain⟨o,H0,n,m,r,c,i,j,S,wt,T,rfl,⟨dx,cl,co,ro,rws,hT⟩,hG,hi,hj,qq⟩:=h;refine⟨_,(bw (cT (pc G1 hr D1 (aj (bR mZ (bR mZ (oJ (pv 0) rfl) (pv 1)) (pv 2)) (aj (oJ (pv 0) rfl) aA))))),?_⟩;have hri:∃a,atI (rws.map V.ref) i=some (.ref a)/\H a=some (.lst (aW n (T.cell r))):=by
  rcases hi with⟨rfl,h⟩|⟨rfl,rfl⟩
  ·obtain⟨a,_,h1,h2⟩:=hT.Il h;exact⟨a,h1,h2⟩
  ·obtain⟨a,_,h1,h2⟩:=hT.aam;exact⟨a,h1,h2⟩
 have hcj:atI (aW n (T.cell r)) j=some (.int (T.cell r c)):=by
  rcases hj with⟨rfl,h⟩|⟨rfl,rfl⟩
  ·exact eF _ h
  ·exact oZ _ _
 obtain⟨a,h1,h2⟩:=hri;have ho:=hG.over;refine⟨_,rfl,o,C,dx,_,_,rfl,hT.at_,Cc,aX,rfl,_,rfl,cl,_,_,_,rfl,rfl,SqL.of hT.cells,h1,_,rfl,a,_,_,_,rfl,rfl,SqL.of h2,hcj,?_⟩;refine⟨_,rfl,o,C,dx,_,_,rfl,hT.at_,Cc,cZ,rfl,T.cell r c,T.over.toNat,?_,by omega,dO (show T.over.toNat<=39916800 by omega) (by decide),fun p H' u v s e l=>qq p H' u v s e l⟩;rw[show((T.over.toNat:Nat):Int)=T.over by omega];rfl
theorem zW{u:Int}{v b:Nat}(hb:0<b)(h:Low 0 1 u v):Low 0 b u v:=by
 have e:=h.eq;have hu:u=0:=by omega
 subst hu;have c:=h.cop;rw[show(0:Int).natAbs=0 from rfl,Nat.gcd_zero_left]at c;subst c;exact⟨by decide,rfl,by omega,aN _,hb,fun _=>Fq _⟩
def K6(K:W.Frag)(C:Addr):Sp:=fun vs H Q _=>∃(o:Addr) (H0:Hp) (n m a:Nat) (S:Nat->Nat->Bool) (wt:Nat->Int) (T:Sx.Tab),vs=[.ref o,.int (a:Int)]/\jT K C H0 H o n m T/\TG n m S wt T/\
 ∀p H' u v,Same H H'->H' p=some (.tup [.int u,.int ((v:Nat):Int)])->Low (Sx.Xs n m T a) T.over.toNat u v->Q (.ref p) H'
theorem WQ{f f1 f2 C:Addr}{fd d1 d2:τ}(F:Fun K "price_of" "Tableau.price_of" zce f fd)
  (Cc:Cls K C)(aX:NoAttr K C "cells")(cZ:NoAttr K C "over")(aV:NoAttr K C "columns")(bY:NoAttr K C "rows")(D1:bQ K mg "lowest" jy ["a","b"] f1 d1)(G1:FnOk P w K mg base CX0 2 f1 d1 ["a","b"] (Gi K))(D2:JN K C "fraction_at" "Tableau.fraction_at" Zv ["self","row","column"] f2 d2)(G2:FnOk P w K mg base CX0 3 f2 d2 ["self","row","column"] (yQ K C)):
  FnOk P w K mg base CX0 4 f fd ["self","name"] (K6 K C):=by
 refine F.dM ["self","name"] fun cdv A outer s H vs Q E hr h=> ?_;obtain⟨o,H0,n,m,a,S,wt,T,rfl,⟨dx,cl,co,ro,rws,hT⟩,hG,qq⟩:=h;refine bf ?_;intro Y;refine⟨_,(aP (qW (jg (pA hr.units) (pv 1) (oJ (pv 0) rfl) (by with_unfolding_all rfl)) (bw (cT (pc G1 hr D1 (aj aQ (aj aQ aA))))) qX) (bw (cT (pe_meth (pv 0) Cc D2.m G2 hr D2.b .nil pass0 (aj (pe_bm HY wce wcf pD (oJ (pv 0) rfl) (aj (pv 1) aA)) (aj (pe_un un_neg aQ) aA)))))),?_⟩;refine je ?_;intro c2;have ho:=hG.over;refine⟨_,rfl,_,rfl,o,C,dx,_,_,rfl,hT.at_,Cc,bY,rfl,ro,_,_,.int (a:Int),rfl,.inl (SqL.of hT.rows),cU.ints _,.int _,Kf _,rfl,(by show 0<=60;decide),_,rfl,?_⟩;rw[any_ints];refine ite2 (fun c=> ?_) (fun c=> ?_)
 ·have c':((a:Nat):Int)∉bN m T.row:=by
   intro hm;rw[fD hm]at c;cases c
  refine⟨0,1,rfl,by decide,by decide,fun p H' u v s e l=>qq p H' u v s e ?_⟩;rw[Sx.Ug fun r hr z=>c' (by
   have:=Fo T.row hr;rw[z]at this;exact jq this)]
  exact zW (by omega) l
 ·have c':((a:Nat):Int)∈bN m T.row:=by
   refine QX fun hm=>c ?_;rw[iY hm];rfl
  obtain⟨r,hr1,er⟩:=Fz c';have hr0:r<m:=by rw[HB]at hr1;exact hr1
  have e0:=gj hr1;rw[er]at e0;have ea:T.row r=a:=by
   rw[Fo _ hr0]at e0;exact wdy (uY e0)
  subst ea;refine⟨_,rfl,o,dx,_,rfl,hT.at_,rfl,_,rfl,o,C,dx,_,_,rfl,hT.at_,Cc,bY,rfl,.inl ⟨rfl,_,SqL.of hT.rows⟩,_,rfl,ro,bN m T.row,_,r,rfl,rfl,hT.rows,Fo _ hr0,fun i hi e=> ?_,by rw[HB];have:=hG.m40;omega,?_⟩
  ·rw[Fo _ (by omega)]at e;have:=hG.good.LK i r (by omega) hr0 (wdy (uY e));omega
  ·refine⟨_,rfl,o,H0,n,m,r,n,_,_,S,wt,T,rfl,⟨dx,cl,co,ro,rws,hT⟩,hG,.inl ⟨rfl,cW hr0⟩,.inr ⟨rfl,rfl⟩,fun p H' u v s e l=>qq p H' u v s e ?_⟩;rw[hG.good.Ui hr0];exact l
def K5(K:W.Frag)(C:Addr):Sp:=fun vs H Q _=>∃(o:Addr) (H0:Hp) (n m a:Nat) (S:Nat->Nat->Bool) (wt:Nat->Int) (T:Sx.Tab),vs=[.ref o,.int (a:Int)]/\jT K C H0 H o n m T/\TG n m S wt T/\
 ∀p H' u v,Same H H'->H' p=some (.tup [.int u,.int ((v:Nat):Int)])->Low (Sx.Ys n m T a) T.over.toNat u v->Q (.ref p) H'
theorem WM{f f1 f2 C:Addr}{fd d1 d2:τ}(F:Fun K "share_of" "Tableau.share_of" zcd f fd)
  (Cc:Cls K C)(aX:NoAttr K C "cells")(cZ:NoAttr K C "over")(aV:NoAttr K C "columns")(bY:NoAttr K C "rows")(D1:bQ K mg "lowest" jy ["a","b"] f1 d1)(G1:FnOk P w K mg base CX0 2 f1 d1 ["a","b"] (Gi K))(D2:JN K C "fraction_at" "Tableau.fraction_at" Zv ["self","row","column"] f2 d2)(G2:FnOk P w K mg base CX0 3 f2 d2 ["self","row","column"] (yQ K C)):
  FnOk P w K mg base CX0 4 f fd ["self","name"] (K5 K C):=by
 refine F.dM ["self","name"] fun cdv A outer s H vs Q E hr h=> ?_;obtain⟨o,H0,n,m,a,S,wt,T,rfl,⟨dx,cl,co,ro,rws,hT⟩,hG,qq⟩:=h;refine bf ?_;intro Y;refine⟨_,(aP (qW (jg (pA hr.units) (pv 1) (oJ (pv 0) rfl) (by with_unfolding_all rfl)) (bw (cT (pc G1 hr D1 (aj aQ (aj aQ aA))))) qX) (bw (cT (pe_meth (pv 0) Cc D2.m G2 hr D2.b .nil pass0 (aj (pe_un un_neg aQ) (aj (pe_bm HY wce wcf pD (oJ (pv 0) rfl) (aj (pv 1) aA)) aA)))))),?_⟩;refine je ?_;intro c2;have ho:=hG.over;refine⟨_,rfl,_,rfl,o,C,dx,_,_,rfl,hT.at_,Cc,aV,rfl,co,_,_,.int (a:Int),rfl,.inl (SqL.of hT.cols),cU.ints _,.int _,Kf _,rfl,(by show 0<=60;decide),_,rfl,?_⟩;rw[any_ints];refine ite2 (fun c=> ?_) (fun c=> ?_)
 ·have c':((a:Nat):Int)∉bN n T.col:=by
   intro hm;rw[fD hm]at c;cases c
  refine⟨0,1,rfl,by decide,by decide,fun p H' u v s e l=>qq p H' u v s e ?_⟩;rw[Sx.Zy fun r hr z=>c' (by
   have:=Fo T.col hr;rw[z]at this;exact jq this)]
  exact zW (by omega) l
 ·have c':((a:Nat):Int)∈bN n T.col:=by
   refine QX fun hm=>c ?_;rw[iY hm];rfl
  obtain⟨r,hr1,er⟩:=Fz c';have hr0:r<n:=by rw[HB]at hr1;exact hr1
  have e0:=gj hr1;rw[er]at e0;have ea:T.col r=a:=by
   rw[Fo _ hr0]at e0;exact wdy (uY e0)
  subst ea;refine⟨_,rfl,o,dx,_,rfl,hT.at_,rfl,_,rfl,_,rfl,o,C,dx,_,_,rfl,hT.at_,Cc,aV,rfl,.inl ⟨rfl,_,SqL.of hT.cols⟩,_,rfl,co,bN n T.col,_,r,rfl,rfl,hT.cols,Fo _ hr0,fun i hi e=> ?_,by rw[HB];have:=hG.n10;omega,?_⟩
  ·rw[Fo _ (by omega)]at e;have:=hG.good.Ei i r (by omega) hr0 (wdy (uY e));omega
  ·refine⟨o,H0,n,m,m,r,_,_,S,wt,T,rfl,⟨dx,cl,co,ro,rws,hT⟩,hG,.inr ⟨rfl,rfl⟩,.inl ⟨rfl,cW hr0⟩,fun p H' u v s e l=>qq p H' u v s e ?_⟩;rw[hG.good.Zz hr0];exact l
def gk(L:List (List Int))(k p:Nat):Bool:=decide (((p:Nat):Int)∈L.getD k [])
def sO(wl:List Int)(p:Nat):Int:=wl.getD p 0
theorem Wm{n m r:Nat}{L:List (List Int)}{wt:Nat->Int}(hr:r<m):((List.range n).map fun(p:Nat)=>if decide (((p:Nat):Int)∈L.getD r [])=true then(1:Int)else 0).map V.int++[.int 1]=aW n ((Sx.start n m (gk L) wt).cell r):=by
 unfold aW;rw[Fw,bV,bV];congr 1
 ·refine iD _ (ZL fun c hc=> ?_);have hc':=rH.mp hc;show _=if r=m then _ else if c=n then(1:Int)else if gk L r c=true then 1 else 0
  rw[aq (show¬r=m by omega),aq (show¬c=n by omega)];rfl
 ·show[V.int 1]=[V.int (if r=m then _ else if n=n then(1:Int)else _)];rw[aq (by omega),aB rfl]
theorem Rm{m:Nat}{L:List (List Int)}{wl:List Int}:(wl.map fun x=> -x).map V.int++[.int 0]=aW wl.length ((Sx.start wl.length m (gk L) (sO wl)).cell m):=by
 unfold aW;rw[Fw,bV,bV];congr 1
 ·refine iD _ (Yo fun i=> ?_);rw[dD,dD];by_cases hi:i<wl.length
  ·rw[gj hi,ZK hi];show some (-wl[i])=some (if m=m then(if i=wl.length then(0:Int)else -(wl.getD i 0))else _);rw[aB rfl,aq (by omega),oK,gj hi];rfl
  ·rw[JX (by omega),JX (by rw[wj];omega)];rfl
 ·show[V.int 0]=[V.int (if m=m then(if wl.length=wl.length then(0:Int)else _)else _)];rw[aB rfl,aB rfl]
theorem _root_.L2.SqT.abw{H:Hp}{a o C dx:Addr}{fs:List (Str×V)}{u:HO}{xs:List V}(hO:H o=some (.ins C dx fs))(h:SqT K H a xs):SqT K (upd H o u) a xs:=by
 rcases h with(h|⟨ob,h⟩)|h
 ·exact .inl (.inl (by rw[bU (ne_of h hO fun e=>nomatch e)];exact h))
 ·exact .inl (.inr ⟨ob,by rw[bU (ne_of h hO fun e=>nomatch e)];exact h⟩)
 ·exact .inr h
def CK(K:W.Frag)(C:Addr):Sp:=fun vs H Q _=>∃(o dx sl wa:Addr) (H0:Hp) (its:List (Addr×List Int)) (wl:List Int),vs=[.ref o,.ref sl,.ref wa]/\H o=some (.ins C dx [])/\Same H0 H/\H0 o=none/\H sl=some (.lst (its.map fun p=>V.ref p.1))/\(∀p∈its,SqT K H p.1 (p.2.map V.int))/\SqT K H wa (wl.map V.int)/\wl.length<=10/\its.length<=40/\
 ∀H',jT K C H0 H' o wl.length its.length (Sx.start wl.length its.length (gk (its.map (·.2))) (sO wl))->Q .non H'
theorem RG{f C:Addr}{fd:τ}(F:Fun K "__init__" "Tableau.__init__" fW f fd)
  (Cc:Cls K C)(aX:NoAttr K C "cells")(cZ:NoAttr K C "over")(aV:NoAttr K C "columns")(bY:NoAttr K C "rows")(cB:mg "len"=none)(aL:mg "range"=none)(gW:mg "list"=none):
  FnOk P w K mg base CX0 1 f fd ["self","sets","wants"] (CK K C):=by
 refine F.dM ["self","sets","wants","n"] fun cdv A outer s H vs Q E hr h=> ?_;obtain⟨o,dx,sl,wa,H0,its,wl,rfl,hO,hS0,h0,hS,hP,hW,hn,hm,qq⟩:=h;refine bf ?_;intro Y;refine⟨_,(aP (pS 3 (pB yI cB (aj (pv 2) aA))) (aP (ps_fld (pv 0) (pK ["some"] ["n"] [3] (rG (pv 1)) (pG 0) qG (bJ yE (pK ["place"] ["some"] [0] (Fp rfl aL (aj (pv 1) aA)) (pG 0) qG (pe_ifExp (jg (nM K hr.units) (pv 0) (pv 1) (by with_unfolding_all rfl)) aQ aQ)) (lE (aj aQ aA)))) rfl) (aP (sH (pe_bm HY YS YQ mt_append (oJ (pv 0) rfl) (aj (bJ yE (pK ["want"] [] [] (Hx (pv 2)) (pG 0) qG (pe_un un_neg (pv 0))) (lE (aj aQ aA))) aA))) (aP (ps_fld (pv 0) aQ rfl) (aP (ps_fld (pv 0) (qP rfl rfl gW rfl aL (aj (pv 3) aA)) rfl) (bw (ps_fld (pv 0) (wM rfl rfl gW rfl aL (aj (pv 3) (aj (bJ uU (pv 3) (pB yI cB (aj (pv 1) aA))) aA))) rfl))))))),?_⟩;refine aaT ?_;intro c6 c5 c4 c3 c2;refine⟨_,rfl,wa,_,rfl,.inr hW,fun _=> ?_⟩;rw[aJ];refine⟨_,rfl,sl,_,rfl,SqL.of hS,fun hz=> ?_⟩;let gq:Nat->List V->St->Hp->Prop:=fun i acc σ H'=>∃as:List Addr,acc=as.map V.ref/\as.length=i/\Same H H'/\(∀r a,as[r]? =some a->H' a=some (.lst (aW wl.length ((Sx.start wl.length its.length (gk (its.map (·.2))) (sO wl)).cell r))))/\∃o1,σ=[o1,some (.int (wl.length:Int))];refine Cm (xs:=its.map fun p=>V.ref p.1) gq ⟨[],rfl,rfl,Same.refl _,fun r a e=>(nomatch e),_,rfl⟩ (fun i acc σ H' _ x=> ?_) (fun i acc σ H' _ x=> ?_) hz (fun i v acc σ H1 hv x=> ?_) (fun acc σ H1 x=> ?_)
 ·obtain⟨_,_,_,sm,_⟩:=x;exact sm.seq (SqL.of hS)
 ·obtain⟨as,rfl,hl,_⟩:=x;rw[aJ,hl];exact aN _
 ·obtain⟨as,rfl,hl,sm,has,o1,rfl⟩:=x;rw[dD]at hv;cases ev:its[i]? with
  |none=>rw[ev]at hv;cases hv
  |some it=>
   rw[ev]at hv;cases hv;have him:i<its.length:=(m6.mp ev).1;have hit:=hP it (jq ev);have eg:(its.map (·.2)).getD i []=it.2:=by rw[oK,dD,ev];rfl
   refine⟨_,rfl,_,rfl,by omega,by omega,?_⟩;let qe:Nat->List V->St->Hp->Prop:=fun c acc σ H'=>acc=((List.range c).map fun(p:Nat)=>if decide (((p:Nat):Int)∈it.2)=true then(1:Int)else 0).map V.int/\H'=H1/\∃o2,σ=[o2,some (.ref it.1)];refine T5 (n:=wl.length) qe ⟨rfl,rfl,_,rfl⟩ (fun c acc σ H' hc y=> ?_) (by rw[eE];omega) (fun c acc σ H' hc y=> ?_) (fun acc σ H' y=> ?_)
   ·rw[y.1,aJ,aJ,wj];exact aN _
   ·obtain⟨rfl,rfl,o2,rfl⟩:=y;refine⟨_,rfl,_,rfl,it.1,_,_,.int (0+(c:Int)),rfl,.inr (sm.tup hit),cU.ints _,.int _,Kf _,rfl,(by show 0<=60;decide),_,rfl,?_⟩;rw[any_ints,Yk];refine ite2 (fun z=> ?_) (fun z=> ?_)
    ·exact⟨by rw[Fw,bV,bV];show _=_++[V.int (if _ then _ else _)];rw[aB z],rfl,_,rfl⟩
    ·exact⟨by rw[Fw,bV,bV];show _=_++[V.int (if _ then _ else _)];rw[aq z],rfl,_,rfl⟩
   ·intro p1 hp1;obtain⟨rfl,rfl,_⟩:=y;have s1:=aO hp1 (.lst (((List.range wl.length).map fun(p:Nat)=>if decide (((p:Nat):Int)∈it.2)=true then(1:Int)else 0).map V.int));refine⟨(by show 1<=sizeLine;decide),fun p2 hp2=> ?_⟩;have s2:=aO hp2 (.lst [.int 1]);refine⟨p1,p2,_,_,rfl,rfl,s2 _ _ aH,aH,(by rw[aJ,aJ,wj,eE];show _+1<=_;omega),fun p3 hp3=> ?_⟩;have s3:=aO hp3 (.lst (((List.range wl.length).map fun(p:Nat)=>if decide (((p:Nat):Int)∈it.2)=true then(1:Int)else 0).map V.int++[.int 1]));have oH:=s1.trans (s2.trans s3);refine⟨as++[p3],by rw[bV];rfl,by rw[gB,hl];rfl,sm.trans oH,fun r a e=> ?_,_,rfl⟩;rw[wdx]at e;by_cases c:r<as.length
    ·rw[aB c]at e;exact oH _ _ (has r a e)
    ·rw[aq c]at e;have er':r-as.length=0:=by
      have:=(m6.mp e).1;have:r-as.length<1:=this;omega
     rw[er']at e;cases e;have:r=i:=by omega
     subst this;rw[aH,<-Wm (wt:=sO wl) him,eg]
 ·intro p1 hp1;obtain⟨as,rfl,hl,sm,has,_⟩:=x;rw[aJ]at hl;have s1:=aO hp1 (.lst (as.map V.ref));have hO1:=(sm.trans s1) _ _ hO;refine⟨_,rfl,o,C,dx,_,rfl,hO1,Cc,aX,(by show 0<1000;decide),?_⟩
  -- what lies beside the object
  have np:p1≠o:=(jh (sm _ _ hO) hp1).symm;have h10:H p1=none:=sm.none hp1;have PB:∀r a,as[r]? =some a->a≠o/\a≠p1:=fun r a e=>⟨fun z=>(by have y:=has r a e;rw[z,sm _ _ hO]at y;cases y),fun z=>(by have y:=has r a e;rw[z,hp1]at y;cases y)⟩;have W2:SqT K (upd (upd H1 p1 (.lst (as.map V.ref))) o (.ins C dx (putF "cells" (.ref p1) []))) wa (wl.map V.int):=((sm.trans s1).tup hW).abw hO1;have S2:(upd (upd H1 p1 (.lst (as.map V.ref))) o (.ins C dx (putF "cells" (.ref p1) []))) sl=some (.lst (its.map fun p=>V.ref p.1)):=by
   rw[bU (ne_of ((sm.trans s1) _ _ hS) hO1 fun e=>nomatch e)];exact(sm.trans s1) _ _ hS
  have A2:∀r a,as[r]? =some a->(upd (upd H1 p1 (.lst (as.map V.ref))) o (.ins C dx (putF "cells" (.ref p1) []))) a=some (.lst (aW wl.length ((Sx.start wl.length its.length (gk (its.map (·.2))) (sO wl)).cell r))):=fun r a e=>by
   rw[bU (PB r a e).1];exact s1 _ _ (has r a e)
  have P2:(upd (upd H1 p1 (.lst (as.map V.ref))) o (.ins C dx (putF "cells" (.ref p1) []))) p1=some (.lst (as.map V.ref)):=by rw[bU np,aH]
  have O2:(upd (upd H1 p1 (.lst (as.map V.ref))) o (.ins C dx (putF "cells" (.ref p1) []))) o=some (.ins C dx [("cells",.ref p1)]):=aH;have Z2:Same H0 (upd (upd H1 p1 (.lst (as.map V.ref))) o (.ins C dx (putF "cells" (.ref p1) []))):=Same.vd (hS0.trans (sm.trans s1)) h0;generalize (upd (upd H1 p1 (.lst (as.map V.ref))) o (.ins C dx (putF "cells" (.ref p1) [])))=H2 at *;refine⟨_,rfl,o,C,dx,_,_,rfl,O2,Cc,aX,rfl,.inl ⟨rfl,_,SqL.of P2⟩,_,rfl,wa,_,rfl,W2,fun hz2=> ?_⟩;let JL:Nat->List V->St->Hp->Prop:=fun i acc σ H'=>acc=((wl.take i).map fun x=> -x).map V.int/\H'=H2/\∃o2,σ=[o2];refine JV (xs:=wl.map V.int) JL ⟨rfl,rfl,_,rfl⟩ (fun i acc σ H' _ y=>by rw[y.2.1];exact W2) (fun i acc σ H' _ y=> ?_) hz2 (fun i v acc σ H' hv y=> ?_) (fun acc σ H' y=> ?_)
  ·rw[y.1,aJ,aJ,m5];exact yJ _ _
  ·obtain⟨rfl,rfl,o2,rfl⟩:=y;rw[dD]at hv;cases ev:wl[i]? with
   |none=>rw[ev]at hv;cases hv
   |some x=>
    rw[ev]at hv;cases hv;exact⟨_,rfl,_,rfl,by rw[rK,ev,bV,bV];rfl,rfl,_,rfl⟩
  intro p2 hp2;obtain⟨rfl,rfl,_⟩:=y;rw[aJ,wg];have s2:=aO hp2 (.lst ((wl.map fun x=> -x).map V.int));refine⟨(by show 1<=sizeLine;decide),fun p3 hp3=> ?_⟩;have s3:=aO hp3 (.lst [.int 0]);refine⟨p2,p3,_,_,rfl,rfl,s3 _ _ aH,aH,(by rw[aJ,aJ,eE];show _+1<=_;omega),fun p4 Y6=> ?_⟩;have s4:=aO Y6 (.lst ((wl.map fun x=> -x).map V.int++[.int 0]));have Ri:=s2.trans (s3.trans s4);rw[Rm (m:=its.length) (L:=its.map (·.2))]at Ri s4⊢;have e4:(upd (upd (upd H' p2 (.lst ((wl.map fun x=> -x).map V.int))) p3 (.lst [.int 0])) p4 (.lst (aW wl.length ((Sx.start wl.length its.length (gk (its.map (·.2))) (sO wl)).cell its.length)))) p4=some (.lst (aW wl.length ((Sx.start wl.length its.length (gk (its.map (·.2))) (sO wl)).cell its.length))):=aH;have n4:p4≠p1:=(jh (s3 _ _ (s2 _ _ P2)) Y6).symm;have n4o:p4≠o:=(jh (s3 _ _ (s2 _ _ O2)) Y6).symm;have P3:=Ri _ _ P2;have O3:=Ri _ _ O2;have S3:=Ri _ _ S2;have Z3:=Z2.trans Ri;have A3:∀r a,as[r]? =some a->_:=fun r a e=>Ri _ _ (A2 r a e);generalize (upd (upd (upd H' p2 (.lst ((wl.map fun x=> -x).map V.int))) p3 (.lst [.int 0])) p4 (.lst (aW wl.length ((Sx.start wl.length its.length (gk (its.map (·.2))) (sO wl)).cell its.length))))=H3 at *;refine⟨p1,_,_,rfl,rfl,P3,(by rw[aJ,eE];omega),?_⟩
  -- all rows
  have h1n:H0 p1=none:=hS0.none h10;have nos:o≠p1:=np.symm;have nsl:sl≠p1:=(jh hS h10);have C4:(upd H3 p1 (.lst (as.map V.ref++[.ref p4]))) p1=some (.lst ((as++[p4]).map V.ref)):=by rw[aH,bV];rfl
  have O4:(upd H3 p1 (.lst (as.map V.ref++[.ref p4]))) o=some (.ins C dx [("cells",.ref p1)]):=by rw[bU nos];exact O3
  have S4:(upd H3 p1 (.lst (as.map V.ref++[.ref p4]))) sl=some (.lst (its.map fun p=>V.ref p.1)):=by rw[bU nsl];exact S3
  have Z4:Same H0 (upd H3 p1 (.lst (as.map V.ref++[.ref p4]))):=Same.vd Z3 h1n;have R4:∀r a,(as++[p4])[r]? =some a->(upd H3 p1 (.lst (as.map V.ref++[.ref p4]))) a=some (.lst (aW wl.length ((Sx.start wl.length its.length (gk (its.map (·.2))) (sO wl)).cell r)))/\a≠o:=fun r a e=>by
   rw[wdx]at e;by_cases c:r<as.length
   ·rw[aB c]at e;refine⟨?_,(PB r a e).1⟩;rw[bU (PB r a e).2];exact A3 r a e
   ·rw[aq c]at e;have er':r-as.length=0:=by
     have:=(m6.mp e).1;have:r-as.length<1:=this;omega
    rw[er']at e;cases e;have:r=its.length:=by omega
    subst this;refine⟨?_,n4o⟩;rw[bU n4];exact e4
  generalize (upd H3 p1 (.lst (as.map V.ref++[.ref p4])))=H4 at *;refine⟨_,rfl,o,C,dx,_,rfl,O4,Cc,cZ,(by show 1<1000;decide),?_⟩;have O5:(upd H4 o (.ins C dx (putF "over" (.int 1) [("cells",.ref p1)]))) o=some (.ins C dx [("cells",.ref p1),("over",.int 1)]):=aH;have k5:∀b u,b≠o->H4 b=some u->(upd H4 o (.ins C dx (putF "over" (.int 1) [("cells",.ref p1)]))) b=some u:=fun b u hb e=>by rw[bU hb];exact e
  have nso:sl≠o:=ne_of S4 O4 fun e=>nomatch e
  have C5:=k5 _ _ np C4;have S5:=k5 _ _ nso S4;have Z5:Same H0 (upd H4 o (.ins C dx (putF "over" (.int 1) [("cells",.ref p1)]))):=Same.vd Z4 h0;have R5:∀r a,(as++[p4])[r]? =some a->_:=fun r a e=>k5 _ _ (R4 r a e).2 (R4 r a e).1;generalize (upd H4 o (.ins C dx (putF "over" (.int 1) [("cells",.ref p1)])))=H5 at *;refine⟨_,rfl,(wl.length:Int),rfl,by omega,by omega,fun co hco=> ?_⟩;have s6:=aO hco (.lst (cX (wl.length:Int).toNat));have O6:=s6 _ _ O5;refine⟨_,rfl,o,C,dx,_,rfl,O6,Cc,aV,(by show 2<1000;decide),?_⟩;have nco:co≠o:=(jh O5 hco).symm;have k7:∀b u,b≠o->(upd H5 co (.lst (cX (wl.length:Int).toNat))) b=some u->(upd (upd H5 co (.lst (cX (wl.length:Int).toNat))) o (.ins C dx (putF "columns" (.ref co) [("cells",.ref p1),("over",.int 1)]))) b=some u:=fun b u hb e=>by rw[bU hb];exact e
  have O7:(upd (upd H5 co (.lst (cX (wl.length:Int).toNat))) o (.ins C dx (putF "columns" (.ref co) [("cells",.ref p1),("over",.int 1)]))) o=some (.ins C dx [("cells",.ref p1),("over",.int 1),("columns",.ref co)]):=aH;have C7:=k7 _ _ np (s6 _ _ C5);have S7:=k7 _ _ nso (s6 _ _ S5);have L7:=k7 _ _ nco aH;have R7:∀r a,(as++[p4])[r]? =some a->_:=fun r a e=>k7 _ _ (R4 r a e).2 (s6 _ _ (R5 r a e));have Z7:Same H0 (upd (upd H5 co (.lst (cX (wl.length:Int).toNat))) o (.ins C dx (putF "columns" (.ref co) [("cells",.ref p1),("over",.int 1)]))):=Same.vd (Z5.trans s6) h0;have c0:H0 co=none:=Z5.none hco;have ncr:co∉as++[p4]:=fun hm=>by
   obtain⟨r,hr1,e⟩:=Fz hm;have:=R5 r _ (gj hr1);rw[e,hco]at this;cases this
  generalize (upd (upd H5 co (.lst (cX (wl.length:Int).toNat))) o (.ins C dx (putF "columns" (.ref co) [("cells",.ref p1),("over",.int 1)])))=H7 at *;refine⟨_,rfl,_,rfl,_,rfl,sl,_,rfl,.inl (SqL.of S7),fun _=>⟨_,_,rfl,rfl,_,_,rfl,by omega,?_,?_,fun ro hro=> ?_⟩⟩
  ·rw[aJ];omega
  ·rw[aJ];omega
  rw[aJ];have s8:=aO hro (.lst ((nG (wl.length:Int) ((wl.length:Int)+(its.length:Int)-(wl.length:Int)).toNat).map V.int));have O8:=s8 _ _ O7;refine⟨_,rfl,o,C,dx,_,rfl,O8,Cc,bY,(by show 3<1000;decide),?_⟩;have nro:ro≠o:=(jh O7 hro).symm;have k9:∀b u,b≠o->(upd H7 ro (.lst ((nG (wl.length:Int) ((wl.length:Int)+(its.length:Int)-(wl.length:Int)).toNat).map V.int))) b=some u->(upd (upd H7 ro (.lst ((nG (wl.length:Int) ((wl.length:Int)+(its.length:Int)-(wl.length:Int)).toNat).map V.int))) o (.ins C dx (putF "rows" (.ref ro) [("cells",.ref p1),("over",.int 1),("columns",.ref co)]))) b=some u:=fun b u hb e=>by rw[bU hb];exact e
  refine qq _ ⟨dx,p1,co,ro,as++[p4],Same.vd (Z7.trans s8) h0,h0,h1n,c0,Z7.none hro,jh L7 hro,ncr,fun hm=> ?_,aH,k9 _ _ np (s8 _ _ C7),by rw[gB,hl];rfl,fun r a e=>k9 _ _ (R4 r a e).2 (s8 _ _ (R7 r a e)),?_,?_⟩
  ·obtain⟨r,hr1,e⟩:=Fz hm;have:=R7 r _ (gj hr1);rw[e,hro]at this;cases this
  ·rw[k9 _ _ nco (s8 _ _ L7)];congr 2;unfold cX bN;rw[Yi,show(wl.length:Int).toNat=wl.length by omega];rfl
  ·rw[k9 _ _ nro aH];congr 2;unfold nG bN;rw[show((wl.length:Int)+(its.length:Int)-(wl.length:Int)).toNat=its.length by omega];refine iD _ (ZL fun k _=> ?_);show(wl.length:Int)+(k:Int)=((wl.length+k:Nat):Int);omega
end
noncomputable def bL(a:Int)(b:Nat):Int×Nat:=(a/((Nat.gcd a.natAbs b:Nat):Int),b/Nat.gcd a.natAbs b)
theorem jL(a:Int){b:Nat}(hb:0<b):Low a b (bL a b).1 (bL a b).2:=Nb a b hb
theorem M9{a:Int}{b:Nat}{u u':Int}{v v':Nat}(hb:0<b)(h:Low a b u v)(h':Low a b u' v'):u=u'/\v=v':=by
 have e1:=h.eq;have e2:=h'.eq;have bi:(0:Int)<(b:Int):=by omega
 have cr:u*(v':Int)=u'*(v:Int):=by
  refine wey (a:=(b:Int)) (by omega) ?_;have x:(b:Int)*(u*(v':Int))=u*(b:Int)*(v':Int):=by grind
  have y:(b:Int)*(u'*(v:Int))=u'*(b:Int)*(v:Int):=by grind
  rw[x,y,e1,e2];grind
 have cn:u.natAbs*v'=u'.natAbs*v:=by
  have:=iD Int.natAbs cr
  rwa [whb,whb,wev,wev]at this
 have d1:v∣v':=by
  have:v∣u.natAbs*v':=by rw[cn];exact Nat.dvd_mul_left _ _
  exact(Nat.Coprime.symm h.cop).dvd_of_dvd_mul_left this
 have d2:v'∣v:=by
  have:v'∣u'.natAbs*v:=by rw[<-cn];exact Nat.dvd_mul_left _ _
  exact(Nat.Coprime.symm h'.cop).dvd_of_dvd_mul_left this
 have ev:=Nat.dvd_antisymm d1 d2;subst ev;refine⟨?_,rfl⟩;have hv:=h.pos;exact wek (a:=(v:Int)) (by omega) cr
theorem DK{a:Int}{b:Nat}{u:Int}{v:Nat}(hb:0<b)(h:Low a b u v):(u,v)=bL a b:=by
 obtain⟨e1,e2⟩:=M9 hb h (jL a hb);rw[e1,e2]
theorem uf{x y:Int}(h:0<x*y)(hy:0<y):0<x:=by
 refine Int.not_le.mp fun hn=> ?_;have:=HF (a:= -x) (b:=y) (by omega) (by omega)
 grind
theorem Nf{a:Int}{b:Nat}(hb:0<b):0<(bL a b).1↔0<a:=by
 have l:=jL a hb;have e:=l.eq;have hv:(0:Int)<((bL a b).2:Int):=by have:=l.pos;omega
 have bi:(0:Int)<(b:Int):=by omega
 constructor
 ·intro h;have:0<(bL a b).1*(b:Int):=Z9 h bi;rw[e]at this;exact uf this hv
 ·intro h;have:0<a*((bL a b).2:Int):=Z9 h hv;rw[<-e]at this;exact uf this bi
structure Sh(n:Nat)(L:List (List Int))(wl:List Int)(ov:Nat)(Z:Int)(Y X:Nat->Int):Prop where
 pos:0<ov
 big:ov<=39916800
 yn:∀k,0<=Y k
 xn:∀p,0<=X p
 tot:Sx.sm L.length Y=Z
 eno:∀p,p<n->(ov:Int)*sO wl p<=Sx.sm L.length fun k=>if gk L k p=true then Y k else 0
 lig:∀k,k<L.length->(Sx.sm n fun p=>if gk L k p=true then X p else 0)<=(ov:Int)
 wor:(Sx.sm n fun p=>sO wl p*X p)=Z
 few:n<=5->ov<=40
theorem aaj{n:Nat}{L:List (List Int)}{wl:List Int}{T:Sx.Tab}(hg:TG n L.length (gk L) (sO wl) T)(hz:∀c,c<n->0<=T.cell L.length c):
  Sh n L wl T.over.toNat (T.cell L.length n) (fun k=>Sx.Ys n L.length T (n+k)) (fun p=>Sx.Xs n L.length T p):=by
 have ho:=hg.over;have eo:((T.over.toNat:Nat):Int)=T.over:=by omega
 refine⟨by omega,by omega,fun k=>Sx.T6 hz _,fun p=>hg.good.Uh _,hg.good.total,fun p hp=> ?_,fun k hk=> ?_,hg.good.prices,fun h5=>by have:=hg.good.Ww h5;omega⟩
 ·rw[eo,hg.good.enough hp];have:=Sx.T6 hz p;omega
 ·rw[eo];exact hg.good.light hk
theorem Pr{ts:L0}{n:Nat}{ss:List (List Int)}(h:kh ss ts false n){p:Nat}(hp:p<n):∃k,k<ss.length/\gk ss k p=true:=by
 have sk:yd ts false n [(p:Int)]:=⟨ZR _ _,fun x hx=>by rw[fL.mp hx];omega,fun x hx y hy hn=>absurd ((fL.mp hx).trans (fL.mp hy).symm) hn⟩;obtain⟨t,ht,hx⟩:=Pa sk;have ht':=h.1.mem_iff.mpr ht;obtain⟨k,hk,rfl⟩:=Fz ht';refine⟨k,hk,?_⟩;unfold gk;rw[oK,gj hk];exact fD (hx _ dY)
theorem tG{ts:L0}{n:Nat}{ss:List (List Int)}(h:kh ss ts false n)(hn:n<=10):ss.length<=36:=by rw[h.1.length_eq];exact vY hn
def jM(ss:List (List Int))(ov:Nat)(Y:Nat->Int):List (List Int×(Int×Nat)):=((List.range ss.length).filter fun k=>decide (0<Y k)).map fun k=>(ss.getD k [],bL (Y k) ov)
def aau(n ov:Nat)(X:Nat->Int):List (Int×Nat):=(List.range n).map fun p=>bL (X p) ov
section
variable{K:W.Frag}
def Zn(K:W.Frag)(H:Hp)(a:Addr)(f:Int×Nat):Prop:=SqT K H a [.int f.1,.int ((f.2:Nat):Int)]
def T3(K:W.Frag)(H:Hp)(v:V)(q:List Int×(Int×Nat)):Prop:=∃t sa fa,v= .ref t/\SqT K H t [.ref sa,.ref fa]/\SqT K H sa (q.1.map V.int)/\Zn K H fa q.2
def rB(K:W.Frag)(H:Hp):List V->List (List Int×(Int×Nat))->Prop:=Paired (T3 K H)
def uM(K:W.Frag)(H:Hp):List V->List (Int×Nat)->Prop:=Paired fun v f=>∃a,v= .ref a/\Zn K H a f
theorem T3.same{H H':Hp}{v:V}{q:List Int×(Int×Nat)}(h:T3 K H v q)(s:Same H H'):T3 K H' v q:=by
 obtain⟨t,sa,fa,e,h1,h2,h3⟩:=h;exact⟨t,sa,fa,e,s.tup h1,s.tup h2,s.tup h3⟩
theorem rB.same{H H':Hp}{vs:List V}{l:List (List Int×(Int×Nat))}(h:rB K H vs l)(s:Same H H'):rB K H' vs l:=Paired.mapP h fun _ _ z=>z.same s
theorem uM.same{H H':Hp}{vs:List V}{l:List (Int×Nat)}(h:uM K H vs l)(s:Same H H'):uM K H' vs l:=Paired.mapP h fun _ _ ⟨a,e,z⟩=>⟨a,e,s.tup z⟩
theorem Paired.snoc{α β:Type}{R:α->β->Prop}:∀{l:List α} {m:List β} {a:α} {b:β},Paired R l m->R a b->Paired R (l++[a]) (m++[b])
 |_,_,_,_,.nil,h=> .cons h .nil
 |_,_,_,_,.cons r t,h=> .cons r (Paired.snoc t h)
theorem Paired.at_{α β:Type}{R:α->β->Prop}:∀{l:List α} {m:List β} {i:Nat} {a:α},Paired R l m->l[i]? =some a->∃b,m[i]? =some b/\R a b
 |_,_,_,_,.nil,e=>by simp at e
 |_,_,0,_,.cons r _,e=>by simp at e;subst e;exact⟨_,rfl,r⟩
 |_,_,i+1,a,.cons _ t,e=>by
  obtain⟨b,h1,h2⟩:=Paired.at_ (i:=i) (a:=a) t (by simpa using e);exact⟨b,by simpa using h1,h2⟩
theorem Paired.jj{α β:Type}{R:α->β->Prop}:∀{l:List α} {m:List β},Paired R l m->l.length=m.length
 |_,_,.nil=>rfl
 |_,_,.cons _ t=>by simp[Paired.jj t]
end
section
variable{P:ρ}{w:υ}{K:W.Frag}{mg:L4}{base:Heap}
def P0(n:Int)(wl:List Int):Prop:=(wl.length:Int)=n/\∀x∈wl,0<=x/\x<=99
theorem all_true(k:Nat):(List.replicate k true).all id=true:=by
 rw[rJ];intro b hb;rw[(List.mem_replicate.mp hb).2];rfl
def qK(K:W.Frag):Sp:=fun vs H Q _=>∃(a wa:Addr) (n:Int) (t:V) (wl:List Int),vs=[.ref a,.ref wa]/\SqT K H a [.int n,t]/\SqT K H wa (wl.map V.int)/\P0 n wl/\∀H',Same H H'->Q .non H'
theorem wV{f f1:Addr}{fd d1:τ}{tk0:Tok}(F:Fun K "need_wants" "need_wants" iJ f fd)(D1:bQ K mg "is_whole" QH ["thing"] f1 d1)(G1:FnOk P w K mg base CX0 1 f1 d1 ["thing"] (gD K))(cB:mg "len"=none)(aG:mg "isinstance"=none)(bA:mg "tuple"=none)(zT:mg "all"=none)(zU:mg "MOST_WANT"=some (.int 99 tk0)):
  FnOk P w K mg base CX0 2 f fd ["web","thing"] (qK K):=by
 refine F.dM ["web","thing"] fun cdv A outer s H vs Q E hr h=> ?_;obtain⟨a,wa,n,t,wl,rfl,hA,hW,⟨hl,hb⟩,qq⟩:=h;refine bf ?_;intro Y;refine⟨_,(aP (qW (PW.pt (pw_or (yF (yG (pB QC aG (aj (pv 1) (aj (pN "tuple" bA) aA))))) (pw_or1 (jg op_ne (pB yI cB (aj (pv 1) aA)) (bR jo (pv 0) aQ))))) Vv qX) (bw (qW (yF (yG (pB (iB rfl) zT (aj (pK ["want"] [] [] (Hx (pv 1)) (pG 0) qG (pe_and (pc G1 hr D1 (aj (pv 0) aA)) (pe_one (pe_chain op_le op_le aQ (pv 0) (Hw rfl zU (v:= .int 99) ⟨_,rfl⟩))))) aA)))) Vv qX))),?_⟩;refine je ?_;intro c2;refine⟨_,rfl,.ref wa,"tuple",_,rfl,.inl ⟨rfl,_,hW⟩,.inr (.inr (.inl rfl)),_,rfl,?_⟩;refine iteF ?_;refine⟨_,rfl,wa,_,rfl,.inr hW,fun hz=>⟨_,rfl,a,_,_,.int n,rfl,rfl,hA,rfl,rfl,_,rfl,?_⟩⟩;have e1:(!decide (V.int (((wl.map V.int).length:Nat):Int)=V.int n))=false:=by rw[aJ,hl];simp
 rw[e1];refine iteF ?_;refine⟨_,rfl,wa,_,rfl,hW,fun hz=> ?_⟩;let gq:Nat->List V->St->Hp->Prop:=fun i acc σ H'=>acc=(List.replicate i true).map V.bl/\H'=H/\∃o,σ=[o];refine JV (xs:=wl.map V.int) gq ⟨rfl,rfl,_,rfl⟩ (fun i acc σ H' _ p=>by rw[p.2.1];exact hW) (fun i acc σ H' _ p=>by rw[p.1,aJ,ydz];exact aN _) hz (fun i x acc σ H' hx p=> ?_) (fun acc σ H' p=> ?_)
 ·obtain⟨rfl,rfl,o,rfl⟩:=p;rw[dD]at hx;cases ex:wl[i]? with
  |none=>rw[ex]at hx;cases hx
  |some y=>
   rw[ex]at hx;cases hx;have hy:=hb y (jq ex);refine⟨_,rfl,.int y,.int y,rfl,.int _,_,rfl,iteT ?_⟩;refine⟨_,rfl,_,_,rfl,rfl,_,rfl,?_⟩;rw[fD hy.1];refine iteT ?_;refine⟨_,_,rfl,rfl,?_,rfl,_,rfl⟩;show _++[V.bl (decide (y<=99))]=_;rw[fD hy.2,List.replicate_succ',bV];rfl
 ·intro p1 hp1;obtain⟨rfl,rfl,_⟩:=p;refine⟨p1,_,rfl,SqL.of aH,_,rfl,?_⟩;rw[all_true];exact iteF (qq _ (aO hp1 _))
def yS(K:W.Frag):Sp:=fun vs H Q _=>∃(a wa:Addr) (n:Int) (ts:L0) (wl:List Int),vs=[.ref a,.ref wa]/\cO K H a n ts/\SqT K H wa (wl.map V.int)/\P0 n wl/\
 ∀(r va la pa:Addr) (lrefs Mf:List V) (ss:List (List Int)) (ov:Nat) (Z:Int) (Y X:Nat->Int) H',Same H H'->H' r=some (.tup [.ref va,.ref la,.ref pa])->Zn K H' va (bL Z ov)->H' la=some (.lst lrefs)->rB K H' lrefs (jM ss ov Y)->H' pa=some (.lst Mf)->uM K H' Mf (aau n.toNat ov X)->
  kh ss ts false n.toNat->Sh n.toNat ss wl ov Z Y X->H la=none->H pa=none->la≠pa->Q (.ref r) H'
theorem I9{f f1 f2 f3 f4 f5 f6 f7 f8 C:Addr}{fd d1 d2 d3 d4 d5 d6 d7 d8:τ}(F:Fun K "shares" "shares" tU f fd)
  (Cc:Cls K C)(aX:NoAttr K C "cells")(cZ:NoAttr K C "over")(aV:NoAttr K C "columns")(bY:NoAttr K C "rows")(pJ:mg "Tableau"=some (.ref C))(D1:bQ K mg "need_web" Kg ["thing"] f1 d1)(G1:FnOk P w K mg base CX0 7 f1 d1 ["thing"] (cG K))(D2:bQ K mg "need_wants" iJ ["web","thing"] f2 d2)(G2:FnOk P w K mg base CX0 2 f2 d2 ["web","thing"] (qK K))(D3:bQ K mg "full_apart" iM ["web"] f3 d3)(G3:FnOk P w K mg base CX0 8 f3 d3 ["web"] (qL K))(D4:JN K C "__init__" "Tableau.__init__" fW ["self","sets","wants"] f4 d4)(Mk4:Mk K C f4)(ab6:FnOk P w K mg base CX0 1 f4 d4 ["self","sets","wants"] (CK K C))(D5:JN K C "solve" "Tableau.solve" zdk ["self"] f5 d5)(G5':FnOk P w K mg base CX0 3 f5 d5 ["self"] (K4 K C))(D6:JN K C "share_of" "Tableau.share_of" zcd ["self","name"] f6 d6)(G6':FnOk P w K mg base CX0 4 f6 d6 ["self","name"] (K5 K C))(D7:JN K C "price_of" "Tableau.price_of" zce ["self","name"] f7 d7)(G7':FnOk P w K mg base CX0 4 f7 d7 ["self","name"] (K6 K C))(D8:JN K C "fraction_at" "Tableau.fraction_at" Zv ["self","row","column"] f8 d8)(G8':FnOk P w K mg base CX0 3 f8 d8 ["self","row","column"] (yQ K C))(cC:mg "enumerate"=none)(aL:mg "range"=none):
  FnOk P w K mg base CX0 9 f fd ["web","wants"] (yS K):=by
 have G4m:FnOk P w K mg base CX0 7 f4 d4 ["self","sets","wants"] (CK K C):=ab6.mono (by decide);have G5:FnOk P w K mg base CX0 8 f5 d5 ["self"] (K4 K C):=G5'.mono (by decide);have G6:FnOk P w K mg base CX0 8 f6 d6 ["self","name"] (K5 K C):=G6'.mono (by decide);have G7:FnOk P w K mg base CX0 8 f7 d7 ["self","name"] (K6 K C):=G7'.mono (by decide);have G8:FnOk P w K mg base CX0 8 f8 d8 ["self","row","column"] (yQ K C):=G8'.mono (by decide);refine F.dM ["web","wants","n","sets","tableau","given","laying","prices"] fun cdv A outer s H vs Q E hr h=> ?_;obtain⟨a,wa,n,ts,wl,rfl,hA,hW,hwl,qq⟩:=h;refine bf ?_;intro Y;refine⟨_,(aP (sH (pc G1 hr D1 (aj (pv 0) aA))) (aP (sH (pc G2 hr D2 (aj (pv 0) (aj (pv 1) aA)))) (aP (pS 2 (bR jo (pv 0) aQ)) (aP (pS 3 (pc G3 hr D3 (aj (pv 0) aA))) (aP (pS 4 (pe_make Mk4 G4m hr rfl pJ D4.b .nil pass0 (aj (pv 3) (aj (pv 1) aA)))) (aP (sH (pe_meth0 (pv 4) Cc D5.m G5 hr D5.b .nil pass0)) (aP (pX 5 ["k","some"] ["tableau","n"] [4,2] (nJ rfl cC (aj (pv 3) aA)) (gH K (n:=2) rfl (qY (pG 0) (qY (pG 1) JT))) qG (oF (aj (pv 1) (aj (pe_meth (pv 2) Cc D6.m G6 hr D6.b .nil pass0 (aj (bJ uU (pv 3) (pv 0)) aA)) aA)))) (aP (pX 6 ["share"] [] [] (rG (pv 5)) (pG 0) (Hy (jg op_gt (bR (j7 K) (bR (j7 K) (pv 0) aQ) aQ) aQ)) (pv 0)) (aP (pX 7 ["place"] ["tableau"] [4] (Fp rfl aL (aj (pv 2) aA)) (pG 0) qG (pe_meth (pv 1) Cc D7.m G7 hr D7.b .nil pass0 (aj (pv 0) aA))) (bw (cT (oF (aj (pe_meth (pv 4) Cc D8.m G8 hr D8.b .nil pass0 (aj (pe_un un_neg aQ) (aj (pe_un un_neg aQ) aA))) (aj (pv 6) (aj (pv 7) aA))))))))))))))),?_⟩;refine Xm ?_;intro c10 c9 c8 c7 c6 c5 c4 c3 c2;have h0:=hA.h0;have h10:=hA.h1;refine⟨_,rfl,.ref a,_,rfl,hA.web.dv.dx,hA.ok,fun H1 s1=> ?_⟩;obtain⟨Us,U7,w1,w2,w3⟩:=id (hA.same s1).web;refine⟨_,rfl,_,rfl,a,wa,n,_,wl,rfl,w1,s1.tup hW,hwl,fun H2 s2=> ?_⟩;have s12:=s1.trans s2;have hA2:=hA.same s12;obtain⟨tt2,rr2,x1,x2,x3⟩:=id hA2.web;refine⟨_,rfl,a,_,_,.int n,rfl,rfl,x1,rfl,?_⟩;refine⟨_,rfl,a,n,ts,rfl,hA2,fun sl ss H3 s3 abT vV hsl=> ?_⟩;obtain⟨its,hS,hP,hss⟩:=abT;have oH:=s12.trans s3;have hm:its.length=ss.length:=by rw[<-hss,aJ]
 have acd:=tG vV (by omega);have hwn:wl.length=n.toNat:=by have:=hwl.1;omega
 refine⟨_,rfl,_,rfl,fun o dx ho hdx hne=> ?_⟩;have sM:Same H3 (upd (upd H3 dx (.own o)) o (.ins C dx [])):=(aO hdx _).trans (aO (by rw[bU (kO hne)];exact ho) _);refine⟨o,dx,sl,wa,H3,its,wl,rfl,aH,sM,ho,sM _ _ hS,fun p hp=>sM.tup (hP p hp),sM.tup (oH.tup hW),by omega,by omega,fun H4 Y9=>⟨rfl,?_⟩⟩;rw[hss,hm,hwn]at Y9;have aaY:Sta n.toNat ss.length (gk ss) (sO wl):=by
  refine⟨by omega,by omega,fun p hp=> ?_,fun p hp=>Pr vV hp⟩;unfold sO;rw[oK,gj (by omega)];exact hwl.2 _ (Ko _)
 obtain⟨dx4,cl4,co4,ro4,rw4,hA4⟩:=id Y9;refine⟨_,rfl,o,dx4,_,rfl,hA4.at_,rfl,o,H3,n.toNat,ss.length,gk ss,sO wl,_,rfl,Y9,aaY,Sx.CG,fun T H5 hT5 hg5 hz5=> ?_⟩;have hG:=aaY.tg hg5;have hSh:=aaj hG hz5;obtain⟨dx5,cl5,co5,ro5,rw5,hA5⟩:=id hT5;have YZ:=hA5.same;have Vb:=hSh.pos;generalize hY:(fun k=>Sx.Ys n.toNat ss.length T (n.toNat+k))=Y at *;generalize hX:(fun p=>Sx.Xs n.toNat ss.length T p)=X at *
 -- given
 refine⟨_,rfl,false,sl,_,rfl,SqL.of (YZ _ _ hS),fun hz=> ?_⟩;let qe:Nat->List V->St->Hp->Prop:=fun i acc σ H'=>rB K H' acc ((List.range i).map fun k=>(ss.getD k [],bL (Y k) T.over.toNat))/\Same H5 H'/\∃o1 o2,σ=[o1,o2,some (.ref o),some (.int n)];refine j9 (K:=K) (b:=false) (a:=sl) (xs:=its.map fun p=>V.ref p.1) qe ⟨.nil,Same.refl _,_,_,rfl⟩ (fun i acc σ H' _ p=>p.2.1.seq (SqL.of (YZ _ _ hS))) (fun i acc σ H' _ p=> ?_) hz (fun i v t acc σ H' hv p ht=> ?_) (fun acc σ H' p=> ?_)
 ·rw[Paired.jj p.1,aJ,wj];exact aN _
 ·obtain⟨hl,sm,o1,o2,rfl⟩:=p;rw[dD]at hv;cases ev:its[i]? with
  |none=>rw[ev]at hv;cases hv
  |some it=>
   rw[ev]at hv;cases hv;have eg:ss.getD i []=it.2:=by rw[<-hss,oK,dD,ev];rfl
   have t1:=aO ht (.tup [.int (i:Int),.ref it.1]);have Y8:=hT5.sm (sm.trans t1);obtain⟨dx6,cl6,co6,ro6,rw6,hA6⟩:=id Y8;refine⟨t,_,rfl,SqT.of aH,rfl,_,_,rfl,_,_,rfl,rfl,?_⟩;refine⟨_,rfl,_,rfl,o,dx6,_,rfl,hA6.at_,rfl,_,rfl,_,rfl,_,_,rfl,rfl,o,H3,n.toNat,ss.length,n.toNat+i,gk ss,sO wl,T,?_,Y8,hG,fun fa H7 u v' s7 e7 l7=> ?_⟩
   ·rw[show(((n.toNat+i:Nat)):Int)=n+(i:Int) by omega];rfl
   ·refine⟨(by show 2<=sizeLine;decide),fun tp htp=> ?_⟩;have s8:=aO htp (.tup [.ref it.1,.ref fa]);have s68:=t1.trans (s7.trans s8);have hlow:(u,v')=bL (Y i) T.over.toNat:=by rw[<-hY];exact DK Vb l7
    refine⟨?_,sm.trans s68,_,_,rfl⟩;rw[Fw,bV];refine Paired.snoc (rB.same hl s68) ⟨tp,it.1,fa,rfl,SqT.of aH,?_,?_⟩
    ·show SqT K _ it.1 ((ss.getD i []).map V.int);rw[eg];exact(YZ.trans (sm.trans s68)).tup (hP it (jq ev))
    ·show Zn K _ fa (bL (Y i) T.over.toNat);rw[<-hlow];exact s8.tup (SqT.of e7)
 intro gl hgl;obtain⟨hl,sm5,_⟩:=p;rw[aJ,hm]at hl;have g1:=aO hgl (.lst acc);have s6:=sm5.trans g1;have eg1:(upd H' gl (.lst acc)) gl=some (.lst acc):=aH;have hl6:=rB.same hl g1;generalize (upd H' gl (.lst acc))=H6 at *
 -- laying
 refine⟨_,rfl,gl,_,rfl,SqL.of eg1,fun hz=> ?_⟩;let JL:Nat->List V->St->Hp->Prop:=fun i acc' σ H'=>H'=H6/\rB K H6 acc' (((List.range i).filter fun k=>decide (0<Y k)).map fun k=>(ss.getD k [],bL (Y k) T.over.toNat))/\∃o1,σ=[o1];refine Cm (xs:=acc) JL ⟨rfl,.nil,_,rfl⟩ (fun i acc' σ H' _ p=>by rw[p.1];exact SqL.of eg1) (fun i acc' σ H' _ p=> ?_) hz (fun i v acc' σ H' hv p=> ?_) (fun acc' σ H' p=> ?_)
 ·rw[Paired.jj p.2.1,aJ];exact dO (wk _ _) (by rw[wj];exact aN _)
 ·obtain⟨rfl,hl',o1,rfl⟩:=p;obtain⟨qv,eq1,hv1⟩:=Paired.at_ hl6 hv;have hi:i<ss.length:=by
   have:=(m6.mp hv).1;rw[Paired.jj hl6,aJ,wj]at this;exact this
  rw[dD,ZK hi]at eq1;have eq2:qv=(ss.getD i [],bL (Y i) T.over.toNat):=(uY eq1).symm;obtain⟨t,sa,fa,rfl,h1,h2,h3⟩:=id hv1;have h3':Zn K H' fa (bL (Y i) T.over.toNat):=by rw[eq2]at h3;exact h3
  refine⟨_,rfl,t,_,_,.ref fa,rfl,rfl,h1,rfl,fa,_,_,.int (bL (Y i) T.over.toNat).1,rfl,rfl,h3',rfl,_,_,rfl,rfl,_,rfl,?_⟩;have go:((List.range (i+1)).filter fun k=>decide (0<Y k))=((List.range i).filter fun k=>decide (0<Y k))++(if decide (0<Y i)=true then[i]else[]):=by
   rw[Fw,Uc];congr 1;rw[Qq];split<;>rfl
  have ed:decide (0<(bL (Y i) T.over.toNat).1)=decide (0<Y i):=decide_eq_decide.mpr (Nf Vb);refine ite2 (fun c=> ?_) (fun c=> ?_)
  ·have c':decide (0<Y i)=true:=by rw[<-ed];exact c
   refine⟨_,rfl,rfl,?_,_,rfl⟩;rw[go,aB c',bV];refine Paired.snoc hl' ?_;rw[eq2]at hv1;exact hv1
  ·have c':¬decide (0<Y i)=true:=by rw[<-ed];exact c
   refine⟨rfl,?_,_,rfl⟩;rw[go,aq c',u9];exact hl'
 intro la hla;obtain⟨rfl,hlay,_⟩:=p;rw[Paired.jj hl6,aJ,wj]at hlay;have g2:=aO hla (.lst acc');have s7:=s6.trans g2;have ela:(upd H' la (.lst acc')) la=some (.lst acc'):=aH;have aaR:=rB.same hlay g2;have Ar:=hT5.sm s7;generalize (upd H' la (.lst acc'))=H7 at *
 -- prices
 refine⟨_,rfl,n,rfl,by omega,by omega,?_⟩;let T4:Nat->List V->St->Hp->Prop:=fun i yc σ H2=>uM K H2 yc ((List.range i).map fun p=>bL (X p) T.over.toNat)/\Same H7 H2/\∃o1,σ=[o1,some (.ref o)];refine T5 (n:=n.toNat) T4 ⟨.nil,Same.refl _,_,rfl⟩ (fun i yc σ H2 hi p=> ?_) (by rw[eE];omega) (fun i yc σ H2 hi p=> ?_) (fun yc σ H2 p=> ?_)
 ·rw[Paired.jj p.1,aJ,wj];exact aN _
 ·obtain⟨hf,sm,o1,rfl⟩:=p;have hT8:=Ar.sm sm;obtain⟨dx8,cl8,co8,ro8,rw8,hA8⟩:=id hT8;refine⟨_,rfl,o,dx8,_,rfl,hA8.at_,rfl,_,rfl,o,H3,n.toNat,ss.length,i,gk ss,sO wl,T,by rw[Yk];rfl,hT8,hG,fun fa H9 u v' s9 e9 l9=> ?_⟩;have hlow:(u,v')=bL (X i) T.over.toNat:=by rw[<-hX];exact DK Vb l9
  refine⟨?_,sm.trans s9,_,rfl⟩;rw[Fw,bV];refine Paired.snoc (uM.same hf s9) ⟨fa,rfl,?_⟩;show Zn K H9 fa (bL (X i) T.over.toNat);rw[<-hlow];exact SqT.of e9
 intro pa hpa;obtain⟨hf,sm7,_⟩:=p;have g3:=aO hpa (.lst yc);have s8:=sm7.trans g3;have epa:(upd H2 pa (.lst yc)) pa=some (.lst yc):=aH;have hf8:=uM.same hf g3;have hT8:=Ar.sm s8;have nlp:la≠pa:=jh (sm7 _ _ ela) hpa;generalize (upd H2 pa (.lst yc))=H8 at *;obtain⟨dx8,cl8,co8,ro8,rw8,hA8⟩:=id hT8;refine⟨_,rfl,o,dx8,_,rfl,hA8.at_,rfl,_,rfl,_,rfl,o,H3,n.toNat,ss.length,ss.length,n.toNat,_,_,gk ss,sO wl,T,rfl,hT8,hG,.inr ⟨rfl,rfl⟩,.inr ⟨rfl,rfl⟩,fun va H9 u v' s9 e9 l9=> ?_⟩;refine⟨_,rfl,_,rfl,(by show 3<=sizeLine;decide),fun r hr'=> ?_⟩;have Rj:=aO hr' (.tup [.ref va,.ref la,.ref pa]);have Ls:=s9.trans Rj;have hlow:(u,v')=bL (T.cell ss.length n.toNat) T.over.toNat:=DK Vb l9;refine qq r va la pa acc' yc ss T.over.toNat (T.cell ss.length n.toNat) Y X _ (oH.trans (YZ.trans (s7.trans (s8.trans Ls)))) aH ?_ ((s8.trans Ls) _ _ ela) (rB.same aaR (s8.trans Ls)) (Ls _ _ epa) (uM.same hf8 Ls) vV hSh ?_ ?_ nlp
 ·rw[<-hlow];exact Rj.tup (SqT.of e9)
 ·exact(oH.trans (YZ.trans s6)).none hla
 ·exact(oH.trans (YZ.trans (s7.trans sm7))).none hpa
def vh(n:Nat):List Int:=List.replicate n 1
def Ow(D:Nat):List (Int×Nat)->Int
 |[]=>0
 |f::fs=>f.1*((D/f.2:Nat):Int)+Ow D fs
theorem Hh(D:Nat):∀(l m:List (Int×Nat)),Ow D (l++m)=Ow D l+Ow D m
 |[],m=>by simp[Ow]
 |f::l,m=>by simp[Ow,Hh D l m,Int.add_assoc]
theorem Tp(D:Nat)(f:Int×Nat):Ow D [f]=f.1*((D/f.2:Nat):Int):=by simp[Ow]
structure v8(D:Nat)(S:Int)(a:Int)(b:Nat):Prop where
 pos:0<b
 dvd:b∣D
 eq:a*((D/b:Nat):Int)=S
theorem v8.le{D b:Nat}{S a:Int}(h:v8 D S a b)(hD:0<D):b<=D:=wfy hD h.dvd
theorem KY{D b v:Nat}{S a u:Int}(hD:0<D)(h:v8 D S a b)(hv:0<v)(dv:v∣D):
  v8 D (S+u*((D/v:Nat):Int)) (a*((v/Nat.gcd b v:Nat):Int)+u*((b*(v/Nat.gcd b v)/v:Nat):Int)) (b*(v/Nat.gcd b v)):=by
 obtain⟨hb,db,he⟩:=h;have hg:0<Nat.gcd b v:=wfz _ hb;obtain⟨b1,eb⟩:=Nat.gcd_dvd_left b v;obtain⟨v1,ev⟩:=ZC b v;have dl:Nat.lcm b v∣D:=Nat.lcm_dvd db dv;have e1:v/Nat.gcd b v=v1:=by
  conv=>lhs;arg 1;rw[ev]
  exact VG _ hg
 have el:Nat.lcm b v=b*v1:=by
  unfold Nat.lcm;rw[Nat.mul_div_assoc _ (ZC b v),e1]
 rw[el]at dl;rw[e1];obtain⟨e,eD⟩:=dl;have hv1:0<v1:=weq fun z=>by rw[z,Nat.mul_zero]at ev;omega
 have hbv:0<b*v1:=Nat.mul_pos hb hv1;have c1:b*v1=v*b1:=by
  have:b*v1*Nat.gcd b v=v*b1*Nat.gcd b v:=by
   have h1:b*v1*Nat.gcd b v=b*(Nat.gcd b v*v1):=by rw[wga,Vz v1]
   have h2:v*b1*Nat.gcd b v=v*(Nat.gcd b v*b1):=by rw[wga,Vz b1]
   rw[h1,h2,<-ev,<-eb,Vz]
  exact Nat.eq_of_mul_eq_mul_right hg this
 have c2:b*v1/v=b1:=by rw[c1];exact VG _ hv
 have c3:D/(b*v1)=e:=by rw[eD];exact VG _ hbv
 have c4:D/b=v1*e:=by rw[eD,wga];exact VG _ hb
 have c5:D/v=b1*e:=by rw[eD,c1,wga];exact VG _ hv
 refine⟨hbv,⟨e,eD⟩,?_⟩;rw[c2,c3,c5,<-he,c4]
 push_cast
 grind
structure DOk(D:Nat)(fs:List (Int×Nat)):Prop where
 pos:0<D
 le:D<=39916800
 all:∀f∈fs,0<=f.1/\0<f.2/\f.2∣D
theorem zX{a:Int}{D:Nat}(hD:0<D):(bL a D).2∣D:=⟨Nat.gcd a.natAbs D,(Nat.div_mul_cancel (ZC _ _)).symm⟩
theorem Ng{a:Int}{D:Nat}(hD:0<D):(bL a D).1*((D/(bL a D).2:Nat):Int)=a:=by
 have l:=jL a hD;have e:=l.eq;have hv:=l.pos;obtain⟨c,hc⟩:=zX (a:=a) hD;generalize (bL a D).1=u at *;generalize (bL a D).2=v at *;have:D/v=c:=by rw[hc];exact VG _ hv
 rw[this];rw[hc]at e
 push_cast at e
 refine wek (a:=(v:Int)) (by omega) ?_
 grind
theorem R0{a:Int}{D:Nat}(hD:0<D)(ha:0<=a):0<=(bL a D).1:=(jL a hD).nn ha
theorem xH{a:Int}{D:Nat}(hD:0<D)(ha:0<=a):0<=(bL a D).1/\0<(bL a D).2/\(bL a D).2∣D:=⟨R0 hD ha,(jL a hD).pos,zX hD⟩
theorem Sd{n:Nat}{ss:List (List Int)}{wl:List Int}{ov:Nat}{Z:Int}{Y X:Nat->Int}(h:Sh n ss wl ov Z Y X)(g:List Int->Bool):DOk ov (((jM ss ov Y).filter fun q=>g q.1).map (·.2)):=by
 refine⟨h.pos,h.big,fun f hf=> ?_⟩;obtain⟨q,hq,rfl⟩:=kj.mp hf;obtain⟨k,hk,rfl⟩:=kj.mp (kI.mp hq).1;exact xH h.pos (h.yn k)
theorem Mz{k:Nat}(h:k<=39916800)(x:Int):CMul x ((k:Nat):Int):= .inr ⟨by omega,by omega⟩
def Gf(K:W.Frag):Sp:=fun vs H Q _=>∃(la:Addr) (rs:List V) (fs:List (Int×Nat)) (D:Nat),vs=[.ref la]/\SqL K H la rs/\uM K H rs fs/\DOk D fs/\rs.length<=1000/\
 ∀(p:Addr) (a:Int) (b:Nat) H',Same H H'->H' p=some (.tup [.int a,.int ((b:Nat):Int)])->v8 D (Ow D fs) a b->Q (.ref p) H'
theorem Mq{f f1:Addr}{fd d1:τ}(F:Fun K "sum_of" "sum_of" tQ f fd)(D1:bQ K mg "greatest_divisor" zbl ["one","other"] f1 d1)(G1:FnOk P w K mg base CX0 1 f1 d1 ["one","other"] (Wc K)):
  FnOk P w K mg base CX0 2 f fd ["fractions"] (Gf K):=by
 refine F.dM ["fractions","a","b","top","bottom","by"] fun cdv A outer s H vs Q E hr h=> ?_;obtain⟨la,rs,fs,D,rfl,hL,hF,hD,hlen,q⟩:=h;refine bf ?_;intro Y;refine⟨_,(aP (pS 1 aQ) (aP (pS 2 aQ) (aP (u6 rM rfl (rG (pv 0)) (pg_tup rfl (qY (pG 3) (qY (pG 4) JT))) (aP (pS 5 (bJ eU (pv 4) (pc G1 hr D1 (aj (pv 2) (aj (pv 4) aA))))) (aP (pS 1 (bJ uU (bJ yu (pv 1) (pv 5)) (bJ yu (pv 3) (bJ eU (bJ yu (pv 2) (pv 5)) (pv 4))))) (bw (pS 2 (bJ yu (pv 2) (pv 5))))))) (bw (cT (oF (aj (pv 1) (aj (pv 2) aA)))))))),?_⟩;refine N7 ?_;intro c4 c3 c2;have hl:=Paired.jj hF;have hD0:=hD.pos;have hD1:=hD.le;refine⟨_,rfl,la,rs,rfl,hL,fun hz=> ?_⟩;let gq:Nat->St->Hp->Prop:=fun i σ H'=>H'=H/\∃(a:Int) (b:Nat) (o1 o2 o3:Option V),v8 D (Ow D (fs.take i)) a b/\σ=[some (.ref la),some (.int a),some (.int ((b:Nat):Int)),o1,o2,o3];refine QD (xs:=rs) gq ⟨rfl,0,1,_,_,_,⟨by omega,Nat.one_dvd _,by simp[Ow]⟩,rfl⟩ (fun i σ H' _ p=>by rw[p.1];exact hL) (fun i x σ H' hx p=> ?_) (fun σ H' p=> ?_)
 ·obtain⟨rfl,a,b,o1,o2,o3,hs,rfl⟩:=p;obtain⟨f,hf,t,rfl,ht⟩:=Paired.at_ hF hx;obtain⟨f0,f1,f2⟩:=hD.all f (jq hf);have hb:=hs.pos;have hbD:=hs.le hD0;have hfD:=wfy hD0 f2;have st:=KY (u:=f.1) hD0 hs f1 f2;have hg:0<Nat.gcd b f.2:=wfz _ hb;have hg2:Nat.gcd b f.2<=b:=Nat.gcd_le_left _ hb;have hby:f.2/Nat.gcd b f.2<=f.2:=Nat.div_le_self _ _;have hbb:=st.le hD0;refine⟨t,_,rfl,ht,rfl,_,_,rfl,_,_,rfl,rfl,?_⟩;refine⟨_,rfl,_,rfl,_,rfl,b,f.2,rfl,_,_,rfl,rfl,⟨by omega,by omega⟩,?_⟩;have eby:((f.2:Nat):Int)/((Nat.gcd b f.2:Nat):Int)=((f.2/Nat.gcd b f.2:Nat):Int):=(wge _ _).symm;have eb2:((b:Nat):Int)*((f.2/Nat.gcd b f.2:Nat):Int)=((b*(f.2/Nat.gcd b f.2):Nat):Int):=(wgl _ _).symm;have eb3:((b*(f.2/Nat.gcd b f.2):Nat):Int)/((f.2:Nat):Int)=((b*(f.2/Nat.gcd b f.2)/f.2:Nat):Int):=(wge _ _).symm;have hq:b*(f.2/Nat.gcd b f.2)/f.2<=b*(f.2/Nat.gcd b f.2):=Nat.div_le_self _ _;have c1:∀x:Int,CMul x (((f.2:Nat):Int)/((Nat.gcd b f.2:Nat):Int)):=fun x=>by rw[eby];exact Mz (dO hby (dO hfD hD1)) x
  have c2:∀x:Int,CMul x (((b:Nat):Int)*(((f.2:Nat):Int)/((Nat.gcd b f.2:Nat):Int))/((f.2:Nat):Int)):=fun x=>by rw[eby,eb2,eb3];exact Mz (dO hq (dO hbb hD1)) x
  refine⟨_,rfl,_,rfl,_,_,rfl,rfl,c1 _,_,rfl,_,rfl,_,rfl,_,_,rfl,rfl,c1 _,_,rfl,_,_,rfl,rfl,⟨by omega,by omega⟩,_,_,rfl,rfl,c2 _,_,_,rfl,rfl,?_⟩;refine⟨_,rfl,_,rfl,_,_,rfl,rfl,c1 _,?_⟩;refine⟨rfl,a*((f.2/Nat.gcd b f.2:Nat):Int)+f.1*((b*(f.2/Nat.gcd b f.2)/f.2:Nat):Int),b*(f.2/Nat.gcd b f.2),some (.int f.1),some (.int ((f.2:Nat):Int)),some (.int ((f.2/Nat.gcd b f.2:Nat):Int)),?_,?_⟩
  rotate_left
  ·show[some (V.ref la),some (.int (a*(((f.2:Nat):Int)/((Nat.gcd b f.2:Nat):Int))+f.1*(((b:Nat):Int)*(((f.2:Nat):Int)/((Nat.gcd b f.2:Nat):Int))/((f.2:Nat):Int)))),some (.int (((b:Nat):Int)*(((f.2:Nat):Int)/((Nat.gcd b f.2:Nat):Int)))),some (.int f.1),some (.int ((f.2:Nat):Int)),some (.int (((f.2:Nat):Int)/((Nat.gcd b f.2:Nat):Int)))]=_;rw[eby,eb2,eb3]
  obtain⟨hi,rfl⟩:=m6.mp hf;rw[List.take_succ_eq_append_getElem hi,Hh,Tp];exact st
 ·obtain⟨rfl,a,b,o1,o2,o3,hs,rfl⟩:=p;refine⟨_,rfl,_,rfl,(by show 2<=sizeLine;decide),fun r hr'=> ?_⟩;refine q r a b _ (aO hr' _) aH ?_;rw[Cd (by omega)]at hs;exact hs
def Zj(n b:Int)(ts:L0):L0:=rows (YX b ts (rows tt b b.toNat)) (n*b) (n*b).toNat
theorem abk{n b:Int}{ts:L0}(h0:0<=n*b)(h1:n*b<=10):eO (n*b) (Zj n b ts)/\PX (n*b) (Zj n b ts):=by
 refine lF (i:=(n*b).toNat) h0 h1 ?_;unfold Zj;rw[<-qN];exact ZJ
theorem VJ{n p:Nat}(hp:p<n):sO (vh n) p=1:=by
 unfold sO vh;rw[oK,List.getElem?_replicate_of_lt hp];rfl
theorem fY{X:Cx}(K:W.Frag)(h:X.K=K:=by rfl):CallR X (.type "tuple") (fun xs H Q=>∃p ys,xs=[.ref p]/\((SqL K H p ys/\∀l,H l=none->Q (.ref l) (upd H l (.tup ys)))\/(SqT K H p ys/\Q (.ref p) H))):=by subst h;exact Yg
theorem vp{X:Cx}(K:W.Frag)(h:X.K=K:=by rfl):CallR X (.builtin "sorted") (fun vs H Q=>∃(b:Bool) (a:Addr) (xs:List Int),vs=[.ref a]/\TY K b H a (xs.map V.int)/\xs.length<64/\
  ∀(l:Addr) (ys:List Int),H l=none->ys.Perm xs->ys.Pairwise (· <= ·)->Q (.ref l) (upd H l (.lst (ys.map V.int)))):=by subst h;exact xX
theorem Tz{xs:List V}{i c:Nat}(h:i+c<=xs.length):cutV xs (some (i:Int)) (some ((i:Int)+(c:Int)))=(xs.drop i).take c:=by
 unfold cutV HT.sIx;simp only;rw[aq (by omega),aq (by omega),Yl (by omega),Yl (by omega)];congr 1;omega
def dN(K:W.Frag)(H:Hp):List V->List (List Int)->Prop:=Paired fun v r=>∃p,v= .ref p/\SqT K H p (r.map V.int)
theorem dN.same{H H':Hp}{rs:List V}{R:List (List Int)}(h:dN K H rs R)(s:Same H H'):dN K H' rs R:=Paired.mapP h fun _ _ ⟨p,e,z⟩=>⟨p,e,s.tup z⟩
theorem getD_snoc{R:List (List Int)}{r:List Int}{p:Nat}:(R++[r]).getD p []=if p<R.length then R.getD p []else if p=R.length then r else[]:=by
 rw[oK,oK];by_cases c:p<R.length
 ·rw[aB c,ZS c]
 ·rw[aq c];by_cases d:p=R.length
  ·rw[aB d,d,Yv (aN _),Nat.sub_self];rfl
  ·rw[aq d,JX (by rw[gB];show R.length+1<=p;omega)];rfl
def CP(K:W.Frag)(T:Addr):Sp:=fun vs H Q _=>∃(a:Addr) (n b:Int) (ts:L0),vs=[.ref a,.int b]/\cO K H a n ts/\1<=b/\b<=5/\n*b<=10/\Cj H T/\
 ∀r l x rs R H',aD T H H'->Cj H' T->H' r=some (.tup [.int x,.ref l])->H' l=some (.lst rs)->dN K H' rs R->R.length=n.toNat->(∀row∈R,row.length=b.toNat)->H l=none->Q (.ref r) H'
theorem RK{f f1 f2 f3 f4 f5 f6:Addr}{fd d1 d2 d3 d4 d5 d6:τ}{tk0:Tok}(F:Fun K "each_so_many" "each_so_many" fQ f fd)(D1:bQ K mg "need_web" Kg ["thing"] f1 d1)(G1':FnOk P w K mg base CX0 7 f1 d1 ["thing"] (cG K))(D2:bQ K mg "need_from_to" fO ["least","most","thing"] f2 d2)(G2:FnOk P w K mg base CX0 2 f2 d2 ["least","most","thing"] (yW K))(D3:bQ K mg "need_few" iK ["n"] f3 d3)(G3:FnOk P w K mg base CX0 1 f3 d3 ["n"] (oR K))(D4:bQ K mg "fewest" tX ["web"] f4 d4)(G4:FnOk P w K mg base CX0 8 f4 d4 ["web"] (UW K T))(D5:bQ K mg "within" tO ["one","other"] f5 d5)(G5:FnOk P w K mg base CX0 8 f5 d5 ["one","other"] (yP K))(D6:bQ K mg "pairs" rQ ["n"] f6 d6)(G6:FnOk P w K mg base CX0 1 f6 d6 ["n"] (CQ K))(bA:mg "tuple"=none)(aL:mg "range"=none)(jK:mg "sorted"=none)(zV:mg "MOST_EACH"=some (.int 5 tk0)):
  FnOk P w K mg base CX0 9 f fd ["web","b"] (CP K T):=by
 have G1:FnOk P w K mg base CX0 8 f1 d1 ["thing"] (cG K):=G1'.mono (by decide);refine F.dM ["web","b","crowded","hues","rows"] fun cdv A outer s H vs Q E hr h=> ?_;obtain⟨a,n,b,ts,rfl,hA,b0,b1,hnb,hL,qq⟩:=h;refine bf ?_;intro Y;refine⟨_,(aP (sH (pc G1 hr D1 (aj (pv 0) aA))) (aP (sH (pc G2 hr D2 (aj aQ (aj (Hw rfl zV (v:= .int 5) ⟨_,rfl⟩) (aj (pv 1) aA))))) (aP (sH (pc G3 hr D3 (aj (bJ yu (bR jo (pv 0) aQ) (pv 1)) aA))) (aP (pS 2 (pc G4 hr D4 (aj (pc G5 hr D5 (aj (pv 0) (aj (oF (aj (pv 1) (aj (pT Yg bA (aj (pc G6 hr D6 (aj (pv 1) aA)) aA)) aA))) aA))) aA))) (aP (pS 3 (bR jo (pv 2) aQ)) (aP (pX 4 ["place"] ["hues","b"] [3,1] (Fp rfl aL (aj (bR jo (pv 0) aQ) aA)) (pG 0) qG (pT (fY K) bA (aj (pB (vp K) jK (aj (yH (zj K) (pv 1) (vD (bJ yu (pv 0) (pv 2))) (vD (bJ uU (bJ yu (pv 0) (pv 2)) (pv 2)))) aA)) aA))) (bw (cT (oF (aj (bR jo (pv 2) aQ) (aj (pv 4) aA))))))))))),?_⟩;refine N6 ?_;intro c7 c6 c5 c4 c3 c2;have h0:=hA.h0;have h10:=hA.h1;have nb0:0<=n*b:=HF h0 (by omega);refine⟨_,rfl,.ref a,_,rfl,hA.web.dv.dx,hA.ok,fun H1 s1=> ?_⟩;obtain⟨Us,U7,w1,_,_⟩:=id (hA.same s1).web;refine⟨_,rfl,1,5,b,rfl,b0,b1,?_⟩;refine⟨_,rfl,a,_,_,.int n,rfl,rfl,w1,rfl,_,rfl,_,_,rfl,rfl,.inl ⟨by omega,by omega⟩,n*b,rfl,hnb,?_⟩;refine⟨_,rfl,_,rfl,_,rfl,b,rfl,by omega,by omega,fun l2 H2 s2 p2=> ?_⟩;obtain⟨rs2,e2,v2⟩:=p2.ex;refine⟨l2,rs2,rfl,.inl ⟨SqL.of e2,fun t2 ht2=> ?_⟩⟩;have s3:=aO ht2 (.tup rs2);refine⟨(by show 2<=sizeLine;decide),fun wb hwb=> ?_⟩;have s4:=aO hwb (.tup [.int b,.ref t2]);have Ri:=s2.trans (s3.trans s4);have okb:=lF (n:=b) (i:=b.toNat) (ts:=rows tt b b.toNat) (by omega) (by omega) (YG _);refine⟨a,wb,n,b,ts,rows tt b b.toNat,rfl,hA.same (s1.trans Ri),⟨⟨t2,rs2,SqT.of aH,SqT.of (s4 _ _ aH),v2.same (s3.trans s4)⟩,by omega,by omega,okb.1,okb.2⟩,hnb,fun r3 H3 s5 W3=> ?_⟩;have ok3:=abk (n:=n) (b:=b) (ts:=ts) nb0 hnb;have s15:=s1.trans (Ri.trans s5);have SQ:=hL.same s15;obtain⟨tb3,ht3⟩:=SQ.at;refine⟨r3,n*b,Zj n b ts,rfl,⟨W3,nb0,hnb,ok3.1,ok3.2⟩,SQ,fun r4 h4 d4 hs H4 x4 hL4 e4 eh hH _ _=> ?_⟩;refine⟨_,rfl,r4,_,_,.ref h4,rfl,rfl,SqT.of e4,rfl,?_⟩;have hA4:=(hA.same s15).tbl x4 ht3;obtain⟨tt4,rr4,w4,_,_⟩:=id hA4.web;have hlen:=hH.len;have eb:((b.toNat:Nat):Int)=b:=by omega
 have eN:(n*b).toNat=n.toNat*b.toNat:=by
  have:((n.toNat*b.toNat:Nat):Int)=n*b:=by push_cast;rw[eb,weg h0]
  omega
 refine⟨_,rfl,a,_,_,.int n,rfl,rfl,w4,rfl,n,rfl,by omega,by omega,?_⟩;let gq:Nat->List V->St->Hp->Prop:=fun i acc σ H'=>(∃R:List (List Int),dN K H' acc R/\R.length=i/\∀p:Nat,p<i->(R.getD p []).Perm ((hs.drop (p*b.toNat)).take b.toNat)/\(R.getD p []).Pairwise (· <= ·))/\Same H4 H'/\∃o,σ=[o,some (.ref h4),some (.int b)];refine T5 (n:=n.toNat) gq ⟨⟨[],.nil,rfl,fun p hp=>absurd hp (QL p)⟩,Same.refl _,_,rfl⟩ (fun i acc σ H' hi p=> ?_) (by rw[eE];omega) (fun i acc σ H' hi p=> ?_) (fun acc σ H' p=> ?_)
 ·obtain⟨⟨R,hR,hl,_⟩,_⟩:=p;rw[Paired.jj hR];omega
 ·obtain⟨⟨R,hR,hl,hall⟩,sm,o,rfl⟩:=p;have hin:(i+1)*b.toNat<=n.toNat*b.toNat:=Nat.mul_le_mul_right _ hi;have abP:(i+1)*b.toNat=i*b.toNat+b.toNat:=by rw[Nat.add_mul,Nat.one_mul]
  have e0:(0+(i:Int))*b=((i*b.toNat:Nat):Int):=by push_cast;rw[eb,Yk]
  refine⟨_,rfl,_,rfl,_,rfl,_,_,rfl,rfl,.inl ⟨by omega,by omega⟩,_,rfl,_,rfl,_,rfl,_,_,rfl,rfl,.inl ⟨by omega,by omega⟩,_,rfl,_,_,rfl,rfl,_,rfl,h4,_,rfl,sm.tup (SqT.of eh),fun q1 G1 g1 c1=> ?_⟩;have ec:cutV (hs.map V.int) (some ((0+(i:Int))*b)) (some ((0+(i:Int))*b+b))=((hs.drop (i*b.toNat)).take b.toNat).map V.int:=by
   have cm:=Tz (xs:=hs.map V.int) (i:=i*b.toNat) (c:=b.toNat) (by rw[aJ];omega);rw[eb]at cm;rw[e0,cm,wfx,whk]
  rw[ec]at c1;have sl:((hs.drop (i*b.toNat)).take b.toNat).length<=5:=by rw[m5];omega
  refine⟨true,q1,_,rfl,c1,by omega,fun l ys hl' pm le=> ?_⟩;have g2:=aO hl' (.lst (ys.map V.int));refine⟨l,_,rfl,.inl ⟨SqL.of aH,fun t ht=> ?_⟩⟩;have g3:=aO ht (.tup (ys.map V.int));have g13:=g1.trans (g2.trans g3);refine⟨⟨R++[ys],Paired.snoc (hR.same g13) ⟨t,rfl,SqT.of aH⟩,by rw[gB,hl];rfl,fun p hp=> ?_⟩,sm.trans g13,_,rfl⟩;rw[getD_snoc,hl];by_cases c:p<i
  ·rw[aB c];exact hall p c
  ·have:p=i:=by omega
   subst this;rw[aq c,aB rfl];exact⟨pm,le⟩
 ·intro l hl;obtain⟨⟨R,hR,hRl,hall⟩,sm,_⟩:=p;have g1:=aO hl (.lst acc);have gl:(upd H' l (.lst acc)) l=some (.lst acc):=aH;have Zb:=hR.same g1;have e41:=(sm.trans g1) _ _ e4;generalize (upd H' l (.lst acc))=H5 at *;refine⟨_,rfl,r4,_,_,.int (nW (Zj n b ts) (pq (n*b).toNat)),rfl,rfl,SqT.of e41,rfl,_,rfl,(by show 2<=sizeLine;decide),fun r hr'=> ?_⟩;have g2:=aO hr' (.tup [.int (nW (Zj n b ts) (pq (n*b).toNat)),.ref l]);refine qq r l _ acc R _ ((s15.x T).trans (x4.trans ((sm.trans (g1.trans g2)).x T))) (hL4.same (sm.trans (g1.trans g2))) aH (g2 _ _ gl) (Zb.same g2) hRl (fun row hrow=> ?_) ?_
  ·obtain⟨p,hp,rfl⟩:=Fz hrow;have e:=(hall p (by omega)).1.length_eq;rw[oK,gj hp,wds,m5,T9]at e;have hin:(p+1)*b.toNat<=n.toNat*b.toNat:=Nat.mul_le_mul_right _ (by omega);have abP:(p+1)*b.toNat=p*b.toNat+b.toNat:=by rw[Nat.add_mul,Nat.one_mul]
   omega
  have nlT:l≠T:=fun z=>by
   obtain⟨tb4,ht4⟩:=hL4.at;rw[z,sm _ _ ht4]at hl;cases hl
  exact s15.none ((x4.trans (sm.x T)).free nlT hl)
theorem dN.at{H:Hp}{rs:List V}{R:List (List Int)}{i:Int}(h:dN K H rs R)(h0:0<=i)(h1:i.toNat<R.length):∃p,atI rs i=some (.ref p)/\SqT K H p ((R.getD i.toNat []).map V.int):=by
 have hl:=Paired.jj h;have hi:i.toNat<rs.length:=by omega
 obtain⟨r,hr,p,e,hp⟩:=Paired.at_ h (gj hi);refine⟨p,?_,?_⟩
 ·have:=atI_nat (xs:=rs) (j:=i.toNat) (v:=V.ref p) (by rw[gj hi,e])
  rwa [weg h0]at this
 ·rw[oK,hr];exact hp
end
end Hs
namespace PySem
open L2 (TabOk ou lG nU)
open PyProof.Rows
section
variable{prog:ρ}{w:υ}{A:χ}{E:L3}{s:η}
theorem aZ.of{h:Heap}{d:Addr}{S:Int->Bool}{n:Nat}(g:aZ prog w h d S n):h.SetOf (intKind prog w) d S n:=let⟨o,es,ep,t,ho,hx,hd,el,mem,lt,ft,en,_⟩:=g;⟨o,es,ep,t,ho,hx,hd,el,mem,lt,ft,en⟩
theorem aZ.typeIs{d:Addr}{S:Int->Bool}{n:Nat}(g:aZ prog w s.heap d S n):s.TypeIs (.ref d) "set":=g.of.typeIs
theorem uF{d:Addr}{o:Obj}{es:Array (Int×ζ)}{ep:Nat}{t:ξ}{Q:Array (Int×ζ)->η->Prop}(ho:s.heap.get? d=some o)(hd:o.data= .set es ep t)(hf:t.fits es.size=true)(q:Q es s):wpAny (model prog w) A (setEntries d) Q E s:=by
 unfold setEntries;exact ao (wdm ho hd hf (aK q))
theorem LR{Q:Bool->η->Prop}(l:List Addr)(hl:∀a∈l,∃S n,aZ prog w s.heap a S n)(q:Q true s):wpAny (model prog w) A (setsQuiet l) Q E s:=by
 unfold setsQuiet;refine ao (wpAny_forIn_list _ (fun rest r s'=>r.1=none/\s'=s/\∀a∈rest,∃S n,aZ prog w s.heap a S n) _ (fun a rest b s' hI=> ?_) (fun b s' hI=> ?_) _ _ ⟨rfl,rfl,hl⟩)
 ·obtain⟨hb,rfl,hr⟩:=hI;obtain⟨S,n,o,es,ep,t,ho,hx,hd,el,mem,lt,ft,en,tb⟩:=hr a dY;refine ao (uF ho hd ft ?_);refine ao (wpAny_forIn_array' _ (fun rest r s''=>r.1=none/\s''=s'/\∀e∈rest,e∈es.toList) _ (fun e rest' b' s'' hI=> ?_) (fun b' s'' hI=> ?_) _ _ ⟨rfl,rfl,fun e he=>he⟩)
  ·obtain⟨hb',rfl,hr'⟩:=hI;obtain⟨⟨k,hk,_⟩,_⟩:=el e (hr' e dY);obtain⟨tk,ev⟩:=YL (k:=k) (v:=e.2) hk;obtain⟨e1,e2⟩:=e;dsimp only at ev;subst ev;exact aK ⟨rfl,rfl,fun e he=>hr' e (dZ _ he)⟩
  ·obtain⟨hb',rfl,_⟩:=hI;dsimp only;rw[hb'];exact aK ⟨rfl,rfl,fun a ha=>hr a (dZ _ ha)⟩
 ·obtain⟨hb,rfl,_⟩:=hI;dsimp only;rw[hb];exact aK q
theorem QZ{d:Addr}{es:Array (Int×ζ)}{ep:Nat}{t:ξ}{Q:Array (Int×ζ)->η->Prop}(S:aY w s.heap d es ep t)(q:∀(es':Array (Int×ζ)) dr,es'.toList.Perm es.toList->Q es' {s with drawn:=dr}):wpAny (model prog w) A (setWalk d) Q E s:=by
 have q0:Q es s:=q es s.drawn (whc _);unfold setWalk;refine ao (S.state (ao (Vx ?_)));refine qI (fun hb=> ?_) fun hb=> ?_
 ·refine ao (wdu ?_);exact aK (q _ s.drawn (j4 _ es))
 ·have led:t.led=true:=by rw[S.tab.led];simpa using hb
  refine qI (fun hd=> ?_) fun hd=> ?_
  ·refine ao (zdd es.size es.toList (by simp) fun ys d' hp=>aK (q _ d' ?_));simpa using hp
  ·refine ao ?_;show wpAny _ _ (if(!t.led&&decide (es.size>1))=true then _ else _) _ _ _;rw[led];refine qI (fun hab=>absurd hab (by simp)) fun _=>aK (aK q0)
theorem Lq{d:Addr}{o:Obj}{es:Array (Int×ζ)}{ep:Nat}{t:ξ}{h:Heap}(ho:h.get? d=some o)(hx:o.ExactSet)(hd:o.data= .set es ep t)(ft:t.fits es.size=true)(tb:TabOk (!w.params.followText "set-order") t):aY w h d es ep t:=⟨⟨o,ho,hx,hd⟩,ft,tb⟩
theorem aad{d da r:Addr}{es:Array (Int×ζ)}{ep:Nat}{t:ξ}{Q:Array (Int×ζ)->η->Prop}(S:aY w s.heap d es ep t)(Gd:∃S n,aZ prog w s.heap d S n)(Ga:∃S n,aZ prog w s.heap da S n)(Gr:aZ prog w s.heap r (fun _=>false) 0)(q:∀(es':Array (Int×ζ)) dr h',es'.toList.Perm es.toList->Heap.SameBut r s.heap h'->aZ prog w h' r (fun _=>false) 0->Q es' {s with heap:=h',drawn:=dr}):wpAny (model prog w) A (setWalkUnseen d [da,r] (some r)) Q E s:=by
 unfold setWalkUnseen;refine ao (S.state (ao (Vx ?_)));refine qI (fun hb=> ?_) fun hb=> ?_
 ·exact QZ S fun es' dr hp=>q es' dr s.heap hp (YH _ _) Gr
 ·refine ao (LR [d,da,r] (fun a ha=> ?_) ?_)
  ·simp only[cF,QS,QT]at ha;rcases ha with rfl|rfl|rfl
   ·exact Gd
   ·exact Ga
   ·exact⟨_,_,Gr⟩
  ·refine qI (fun h=>absurd h (by simp)) fun _=> ?_;refine ao (Uk ?_);obtain⟨o,er,epr,tr,ho,hx,hd,el,mem,lt,ft,en,tb⟩:=id Gr;dsimp only;refine ao (wdm ho hd ft ?_);refine qI (fun _=> ?_) fun _=>aK (q es s.drawn s.heap (whc _) (YH _ _) Gr);refine ao (wfi ho hd ?_ (wfj lt));have tb':TabOk (!w.params.followText "set-order") {tr with led:=tr.led&&t.led,plain:=tr.plain&&t.plain}:=⟨tb.rise,tb.nod,by show(tr.led&&t.led)=_;rw[tb.led,S.tab.led,Bool.and_self]⟩;obtain⟨_,G'⟩:=aZ.store (prog:=prog) (w:=w) (S:=fun _=>false) ho hx hd el mem lt (t':={tr with led:=tr.led&&t.led,plain:=tr.plain&&t.plain}) ft tb';rw[en]at G';exact aK (q es s.drawn _ (whc _) (Cu s.heap r _) G')
theorem Jj{Q:L3}(q:Q (.ref s.heap.objs.size) {s with heap:=s.heap.push {cls:= .type "set",dict:=none,data:= .set #[] 0 (.fresh 0 0 (!w.params.followText "set-order"))}}):wpAny (model prog w) A (newSet (.type "set")) Q E s:=by
 unfold newSet;refine ao (Vx ?_);simp only[newObj];exact ao (wpAny_alloc (aK q))
theorem Jv(h:Heap):aZ prog w (h.push {cls:= .type "set",dict:=none,data:= .set #[] 0 (.fresh 0 0 (!w.params.followText "set-order"))}) h.objs.size (fun _=>false) 0:=
 ⟨_,#[],0,_,gZ _ rfl,⟨rfl,rfl,rfl⟩,rfl,fun e he=>(by simp at he),fun k=>⟨fun z=>(nomatch z),fun⟨e,he,_⟩=>(by simp at he)⟩,by unfold scanBound;simp,rfl,rfl,nU _⟩
theorem Bl{d:Addr}{es:Array (Int×ζ)}{ep:Nat}{t:ξ}{Q:Nat->η->Prop}(S:aY w s.heap d es ep t)(q:Q ep s):wpAny (model prog w) A (setEpoch d) Q E s:=by
 unfold setEpoch;exact ao (S.state (aK q))
theorem DQ{nm:String}{dw da r:Addr}{es es':Array (Int×ζ)}{ep:Nat}{t:ξ}{Sa:Int->Bool}{na:Nat}{Q:η->Prop}(S:aY w s.heap dw es ep t)(el:ElemsOf (intKind prog w) es.toList)(Ga:aZ prog w s.heap da Sa na)(Gr:aZ prog w s.heap r (fun _=>false) 0)(nw:dw≠r)(na':da≠r)(hp:es'.toList.Perm es.toList)(hb:es.size+1<scanBound)(q:∀h' Sr m,Heap.SameBut r s.heap h'->aZ prog w h' r Sr m->(∀k,Sr k=true↔(∃e∈es.toList,(intKind prog w).is k e.2=true)/\Sa k=true)->Q {s with heap:=h'}):
  wpAny (model prog w) A (forIn es' PUnit.unit fun(x:Int×ζ) (_:PUnit)=>(do
   holding [x.2] (do
    if(<-setFind da x.2 x.1).isSome then
     let _<-setAddHashed r x.2 x.1)
   Builtin.Frozenset.unchanged nm dw ep
   pure (ForInStep.yield PUnit.unit):Sem (ForInStep PUnit))) (fun _=>Q) E s:=by
 refine wpAny_forIn_array' _ (fun rest _ s'=>∃(h':Heap) (pre:List (Int×ζ)) (Sr:Int->Bool) (m:Nat),s'={s with heap:=h'}/\es'.toList=pre++rest/\Heap.SameBut r s.heap h'/\aZ prog w h' r Sr m/\m<=pre.length/\∀k,Sr k=true↔(∃e∈pre,(intKind prog w).is k e.2=true)/\Sa k=true) _ (fun x rest b s' hI=> ?_) (fun b s' hI=> ?_) _ _ ⟨s.heap,[],fun _=>false,0,rfl,rfl,YH _ _,Gr,aN _,fun k=>⟨fun z=>(nomatch z),fun⟨⟨e,he,_⟩,_⟩=>(nomatch he)⟩⟩
 ·obtain⟨h',pre,Sr,m,rfl,ep',sb,G,hm,hS⟩:=hI;have mx:x∈es.toList:=hp.mem_iff.mp (by rw[ep'];simp);obtain⟨⟨k,hk,hh⟩,hsc⟩:=el x mx;have len:pre.length+1<=es.size:=by
   have h1:=hp.length_eq;have h2:es.toList.length=es.size:=sJ;rw[ep',gB,uW]at h1;omega
  have Ga':aZ prog w h' da Sa na:=Ga.at fun o e=>(sb.2 da na').trans e;have S':aY w h' dw es ep t:=S.at fun o e=>(sb.2 dw nw).trans e;have step:∀(R:ForInStep PUnit->η->Prop) h2,Heap.SameBut r h' h2->R (.yield PUnit.unit) {s with heap:=h2}->wpAny (model prog w) A (do Builtin.Frozenset.unchanged nm dw ep;pure (ForInStep.yield PUnit.unit)) R E {s with heap:=h2}:=fun R h2 U6 hR=>by
   unfold Builtin.Frozenset.unchanged;have S2:aY w h2 dw es ep t:=S'.at fun o e=>(U6.2 dw nw).trans e;refine ao (ao (Bl (s:={s with heap:=h2}) S2 ?_));exact qI (fun z=>absurd z (by simp)) fun _=>aK (aK hR)
  have fin:∀h2 (Sr2:Int->Bool) m2,Heap.SameBut r h' h2->aZ prog w h2 r Sr2 m2->m2<=pre.length+1->(∀k',Sr2 k'=true↔(∃e∈pre++[x],(intKind prog w).is k' e.2=true)/\Sa k'=true)->
    ∃(h':Heap) (pre:List (Int×ζ)) (Sr:Int->Bool) (m:Nat),({s with heap:=h2}:η)={s with heap:=h'}/\es'.toList=pre++rest/\Heap.SameBut r s.heap h'/\aZ prog w h' r Sr m/\m<=pre.length/\∀k,Sr k=true↔(∃e∈pre,(intKind prog w).is k e.2=true)/\Sa k=true:=fun h2 Sr2 m2 U6 G2 hm2 hS2=>
   ⟨h2,pre++[x],Sr2,m2,rfl,by rw[ep',ZF];rfl,sb.trans U6,G2,by rw[gB];exact hm2,hS2⟩
  refine ao (uX ?_);rw[hh];refine ao (wpAny_setFind_of (s:={s with heap:=h'}) hk hsc Ga'.of fun o ho=> ?_);have uniq:∀k',(intKind prog w).is k' x.2=true->k'=k:=fun k' h'=>by
   obtain⟨t1,e1⟩:=YL (k:=k) (v:=x.2) hk;obtain⟨t2,e2⟩:=YL (k:=k') (v:=x.2) h';rw[e1]at e2;injection e2 with e3
   exact e3.symm
  refine qI (fun z=> ?_) fun z=> ?_
  ·rw[ho]at z;refine ao (PN (s:={s with heap:=h'}) hk hsc G (by omega) fun h2 b2 U6 G2=>aK ?_);refine step _ h2 U6 (fin h2 _ _ U6 G2 (by split<;>omega) fun k'=> ?_);rw[wei,HX,hS k'];constructor
   ·rintro(⟨⟨e,he,z1⟩,z2⟩|rfl)
    ·exact⟨⟨e,Qs _ he,z1⟩,z2⟩
    ·exact⟨⟨x,jr _ dY,hk⟩,z⟩
   ·rintro⟨⟨e,he,z1⟩,z2⟩;rcases g8.mp he with y|y
    ·exact .inl ⟨⟨e,y,z1⟩,z2⟩
    ·rw[fL.mp y]at z1;exact .inr (uniq k' z1)
  ·rw[ho]at z;refine aK ?_;refine step _ h' (YH _ _) (fin h' Sr m (YH _ _) G (by omega) fun k'=> ?_);rw[hS k'];constructor
   ·rintro⟨⟨e,he,z1⟩,z2⟩;exact⟨⟨e,Qs _ he,z1⟩,z2⟩
   ·rintro⟨⟨e,he,z1⟩,z2⟩;rcases g8.mp he with y|y
    ·exact⟨⟨e,y,z1⟩,z2⟩
    ·rw[fL.mp y]at z1;rw[uniq k' z1]at z2;exact absurd z2 z
 ·obtain⟨h',pre,Sr,m,rfl,ep',sb,G,hm,hS⟩:=hI;rw[u9]at ep';refine q h' Sr m sb G fun k=> ?_;rw[hS k,<-ep'];exact⟨fun⟨⟨e,he,z1⟩,z2⟩=>⟨⟨e,hp.mem_iff.mp he,z1⟩,z2⟩,fun⟨⟨e,he,z1⟩,z2⟩=>⟨⟨e,hp.mem_iff.mpr he,z1⟩,z2⟩⟩
theorem NT{nm:String}{d1 d2:Addr}{S1 S2:Int->Bool}{n1 n2:Nat}{Q:L3}(hne:d1≠d2)(G1:aZ prog w s.heap d1 S1 n1)(G2:aZ prog w s.heap d2 S2 n2)(b1:n1+1<scanBound)(b2:n2+1<scanBound)(q:∀h' dr Sr m,(∀b o,s.heap.get? b=some o->h'.get? b=some o)->aZ prog w h' s.heap.objs.size Sr m->(∀k,Sr k=true↔S1 k=true/\S2 k=true)->Q (.ref s.heap.objs.size) {s with heap:=h',drawn:=dr}):
  wpAny (model prog w) A (Builtin.Frozenset.intersection nm d1 (.ref d2)) Q E s:=by
 have l1:d1<s.heap.objs.size:=by obtain⟨o,es,ep,t,ho,_⟩:=id G1;exact cR ho
 have l2:d2<s.heap.objs.size:=by obtain⟨o,es,ep,t,ho,_⟩:=id G2;exact cR ho
 unfold Builtin.Frozenset.intersection;have hne':(Value.ref d2==Value.ref d1)=false:=by
  rw[beq_eq_false_iff_ne];intro z;injection z with z
  exact hne z.symm
 refine qI (fun z=>absurd z (by rw[hne'];decide)) fun _=> ?_;unfold Builtin.Frozenset.baseOf;refine ao (ao (YF (T:="set") (b:=true) G1.typeIs wgo (aK ?_)));refine ao (Jj ?_);have keep:∀b o,s.heap.get? b=some o->(s.heap.push {cls:= .type "set",dict:=none,data:= .set #[] 0 (.fresh 0 0 (!w.params.followText "set-order"))}).get? b=some o:=fun b o e=>cV _ e;have Gr:=Jv (prog:=prog) (w:=w) s.heap;have F1:=G1.at fun o e=>keep d1 o e;have F2:=G2.at fun o e=>keep d2 o e;generalize (s.heap.push {cls:= .type "set",dict:=none,data:= .set #[] 0 (.fresh 0 0 (!w.params.followText "set-order"))})=g at *;have n1r:d1≠s.heap.objs.size:=cQ l1;have n2r:d2≠s.heap.objs.size:=cQ l2;have T2:({s with heap:=g}:η).TypeIs (.ref d2) "set":=aZ.typeIs (s:={s with heap:=g}) F2;refine ao (aK ?_);refine ao (uX ?_);unfold Builtin.Frozenset.isAnySet;refine ao ?_;refine ao (YF (s:={s with heap:=g}) (T:="set") (b:=true) T2 wgo ?_);refine aK ?_;dsimp only;rw[aB rfl];refine ao (aK ?_);obtain⟨o1,es1,ep1,t1,ho1,hx1,hd1,el1,Xb,Y4,ft1,en1,tb1⟩:=id F1;obtain⟨o2,es2,ep2,t2,ho2,hx2,hd2,el2,ab',pQ,ft2,en2,tb2⟩:=id F2;have go:∀(da dw:Addr) (Sa Sw:Int->Bool) (na nw:Nat),aZ prog w g da Sa na->aZ prog w g dw Sw nw->da≠s.heap.objs.size->dw≠s.heap.objs.size->nw+1<scanBound->(∀k,(Sw k=true/\Sa k=true)↔(S1 k=true/\S2 k=true))->
   wpAny (model prog w) A (do
    let was<-setEpoch dw;let es<-setWalkUnseen dw [da,s.heap.objs.size] (some s.heap.objs.size)
    forIn es PUnit.unit fun(x:Int×ζ) (_:PUnit)=>(do
     holding [x.2] (do
      if(<-setFind da x.2 x.1).isSome then
       let _<-setAddHashed s.heap.objs.size x.2 x.1)
     Builtin.Frozenset.unchanged nm dw was
     pure (ForInStep.yield PUnit.unit):Sem (ForInStep PUnit))
    pure ()) (fun _ s'=>wpAny (model prog w) A (pure (Value.ref s.heap.objs.size)) Q E s') E {s with heap:=g}:=fun da dw Sa Sw na nw Ga Gw nar nwr hb hk=>by
  obtain⟨o,es,ep,t,ho,hx,hd,el,mem,lt,ft,en,tb⟩:=id Gw;have S:aY w g dw es ep t:=Lq ho hx hd ft tb;refine ao (Bl (s:={s with heap:=g}) S ?_);refine ao (aad (s:={s with heap:=g}) S ⟨_,_,Gw⟩ ⟨_,_,Ga⟩ Gr fun es' dr h' hp sb Gr'=> ?_);refine ao (DQ (s:={s with heap:=h',drawn:=dr}) (S.at fun o e=>(sb.2 dw nwr).trans e) el (Ga.at fun o e=>(sb.2 da nar).trans e) Gr' nwr nar hp (by omega) fun h2 Sr m U6 G2 hS=> ?_);refine aK (aK ?_);refine q h2 dr Sr m (fun b o e=> ?_) G2 fun k=> ?_
  ·have nb:b≠s.heap.objs.size:=cQ (cR e);exact((U6.2 b nb).trans ((sb.2 b nb).trans (keep b o e)))
  ·rw[hS k,<-mem k];exact hk k
 have sz:∀{d:Addr} {o:Obj} {es:Array (Int×ζ)} {ep:Nat} {t:ξ} {R:Nat->η->Prop},g.get? d=some o->o.data= .set es ep t->t.fits es.size=true->R es.size {s with heap:=g}->wpAny (model prog w) A (Builtin.Frozenset.sizeOf d) R E {s with heap:=g}:=fun ho hd hf hR=>by
  unfold Builtin.Frozenset.sizeOf;exact ao (uF (s:={s with heap:=g}) ho hd hf (aK hR))
 refine ao (sz ho2 hd2 ft2 (ao (sz ho1 hd1 ft1 ?_)));by_cases c:es2.size>es1.size
 ·simp only[aB c];exact go d2 d1 S2 S1 n2 n1 F2 F1 n2r n1r b1 fun k=>Iff.rfl
 ·simp only[aq c];exact go d1 d2 S1 S2 n1 n2 F1 F2 n1r n2r b2 fun k=>And.comm
theorem PL{d1 d2:Addr}{S1 S2:Int->Bool}{n1 n2:Nat}{Q:L3}(hne:d1≠d2)(G1:aZ prog w s.heap d1 S1 n1)(G2:aZ prog w s.heap d2 S2 n2)(b1:n1+1<scanBound)(b2:n2+1<scanBound)(q:∀h' dr Sr m,(∀b o,s.heap.get? b=some o->h'.get? b=some o)->aZ prog w h' s.heap.objs.size Sr m->(∀k,Sr k=true↔S1 k=true/\S2 k=true)->Q (.ref s.heap.objs.size) {s with heap:=h',drawn:=dr}):
  wpAny (model prog w) A (binaryOp .BitAnd (.ref d1) (.ref d2)) Q E s:=by
 have entry:entryFor table "set.__and__"=some Builtin.«frozenset.__and__»:=entryFor_alias (id':="frozenset.__and__") (by kernel_rfl) rfl (by decide+kernel) (by kernel_rfl);refine wpAny_binaryOp_same (op:= .BitAnd) (T:="set") G1.typeIs G2.typeIs F.fills_set_and F.slot_set_and (HW F.slot_set_and G1.typeIs entry ?_ (F.args_set_and_2 _ _));unfold Builtin.«frozenset.__and__»;refine ao (m:=Builtin.Frozenset.slot1 "__and__" ⟨[.ref d1,.ref d2],[]⟩) ?_;unfold Builtin.Frozenset.slot1 slotArgs;simp only[List.isEmpty_nil,Bool.not_true,wci,↓reduceIte,bind_assoc,QM,uW,wfe];refine ao (aK (aK ?_));have any:∀{d:Addr} {S:Int->Bool} {n:Nat} {R:Bool->η->Prop},aZ prog w s.heap d S n->R true s->wpAny (model prog w) A.in1 (Builtin.Frozenset.isAnySet (.ref d)) R E s:=fun G h=>by
  unfold Builtin.Frozenset.isAnySet;exact ao (YF (T:="set") (b:=true) G.typeIs wgo (aK h))
 refine ao (ao (any G1 (any G2 ?_)));refine qI (fun z=>absurd z (by simp)) fun _=> ?_;refine ao (aK ?_);refine ao (NT hne G1 G2 b1 b2 fun h' dr Sr m k G hS=> ?_);exact aK ⟨_,rfl,by simp,q h' dr Sr m k G hS⟩
end
end PySem
namespace L2
open PySem PySem.Spec PyProof.Rows
section
variable{X:Cx}{a b:Expr}{ta tb:TA}{p p' pos pos' q' pos'' posB:Pos}
theorem Inv.Wt{X:Cx}{pins:L1}{σ:St}{H:Hp}{s s1:η}{d:Addr}{o:Obj}(I0:Inv X pins σ H s1)(hd:s1.heap.objs.size<=d)(I:Inv X pins σ H s)(e:s.heap.get? d=some o)(hc:∀v,o.data≠.cell v):Inv X ((d,o)::pins) σ H s:=by
 have hl:d≠X.env.locals:=Cp (gC I0.lt hd);refine⟨I.ok,I.os,I.bare,I.base,I.loc,I.cell,I.free,I.freeC,fun x hx=> ?_,I.hok,I.len⟩;rcases g8.mp hx with z|z
 ·exact I.pin x (Qs _ z)
 ·rcases cF.mp z with z|z
  ·rw[z];exact⟨e,I0.hok.fresh hd,hl,I0.nofs hd,hc⟩
  ·exact I.pin x (jr _ z)
theorem Inv.V8{X:Cx}{pins:L1}{σ:St}{H:Hp}{s:η}{x:Addr×Obj}(I:Inv X (x::pins) σ H s):Inv X pins σ H s:=
 ⟨I.ok,I.os,I.bare,I.base,I.loc,I.cell,I.free,I.freeC,fun y hy=>I.pin y (by
  rcases g8.mp hy with z|z
  ·exact Qs _ z
  ·exact jr _ (dZ _ z)),I.hok,I.len⟩
theorem mk_set{pins:L1}{σ:St}{H1:Hp}{s1:η}{bb:Bool}{l:Addr}{ns:List Int}{Q:L3}(hc:X.calm=true)(I1:Inv X pins σ H1 s1)(hq:TY X.K bb H1 l (ns.map V.int))(hz:ns.length<60)(h:∀(g:Heap) (tk:Nat) (S:Int->Bool) (n:Nat),aZ X.prog X.w g s1.heap.objs.size S n->(∀k,S k=true↔k∈ns)->n<60->(∀b o,s1.heap.get? b=some o->g.get? b=some o)->Q (.ref s1.heap.objs.size) {s1 with heap:=g,toks:=tk}):
  wpAny (model X.prog X.w) X.A (call (.type "set") [.ref l]) Q X.xe s1:=by
 have main:∀its:List ζ,Vals (ns.map V.int) its->∀(g:Heap) (tk:Nat),aZ X.prog X.w g s1.heap.objs.size (fun k'=>(firstMet (fun i=>ns.getD i 0) its.toArray.size).any (· ==k')) (firstMet (fun i=>ns.getD i 0) its.toArray.size).length->(∀b o,b<s1.heap.objs.size->s1.heap.get? b=some o->g.get? b=some o)->Q (.ref s1.heap.objs.size) {s1 with heap:=g,toks:=tk}:=by
  intro its rv g tk G keep;have xM:its.toArray.size=ns.length:=by rw[fu];exact YB (intsAre_of rv)
  have hle:=wes (fun i=>ns.getD i 0) its.toArray.size;refine h g tk _ _ G (fun k=> ?_) (by omega) fun b o e=>keep b o (cR e) e;rw[xM,Yn];constructor
  ·rintro⟨x,hx,e⟩;rw[<-beq_iff_eq.mp e];rw[fH _ _ (aN _),wg]at hx;exact hx
  ·intro hk;exact⟨k,by rw[fH _ _ (aN _),wg];exact hk,by simp⟩
 cases bb with
 |true=>
  obtain⟨its,rv,pl,_⟩:=I1.tuple (show SqT X.K H1 l (ns.map V.int)from hq);have hi:IntsAre its ns:=intsAre_of rv;have xM:its.length=ns.length:=YB hi;exact tL (ns:=ns) (I1.ok.hd hc) (show s1.heap.IsTuple l its.toArray from pl) (by simpa using hi) (by unfold scanBound;simp;omega) fun g tk G keep=>main its rv g tk G keep
 |false=>
  obtain⟨its,rv,pl,_⟩:=I1.list (show SqL X.K H1 l (ns.map V.int)from hq);have hi:IntsAre its ns:=intsAre_of rv;have xM:its.length=ns.length:=YB hi;exact vL (ns:=ns) (I1.ok.hd hc) pl.isList (by simpa using hi) (by unfold scanBound;simp;omega) fun g tk G keep=>main its rv g tk G keep
def Q7(K:W.Frag)(ta tb:TA):TE:=fun σ H Q=>ta σ H fun vs H1=>∃(c:Bool) (l:Addr) (ns:List Int),vs=[.ref l]/\TY K c H1 l (ns.map V.int)/\ns.length<60/\
 tb σ H1 fun us H2=>∃(d:Bool) (k:Addr) (ms:List Int),us=[.ref k]/\TY K d H2 k (ms.map V.int)/\ms.length<60/\∀m:Nat,(0<m↔∃k,k∈ns/\k∈ms)->Q (.int (m:Int)) H2
theorem Iw(hc:X.calm=true)(Xn:Gl X "len")(hmL:X.mg "len"=none)(hg:Gl X "set")(hm:X.mg "set"=none)(ha:PA X [a] ta)(hb:PA X [b] tb)(hs:starEach [a] X.env=[(false,eval a X.env)]:=by rfl)(hs':starEach [b] X.env=[(false,eval b X.env)]:=by rfl)(hs2:starEach [Expr.BinOp (.Call (.Name "set" p') [a] [] pos') .BitAnd (.Call (.Name "set" q') [b] [] pos'') posB] X.env=[(false,eval (Expr.BinOp (.Call (.Name "set" p') [a] [] pos') .BitAnd (.Call (.Name "set" q') [b] [] pos'') posB) X.env)]:=by rfl):
  PE X (.Call (.Name "len" p) [.BinOp (.Call (.Name "set" p') [a] [] pos') .BitAnd (.Call (.Name "set" q') [b] [] pos'') posB] [] pos) (Q7 X.K ta tb):=by
 intro pins s σ H Q I h;refine Kv (yt I Xn hmL PySem.boot_len ?_ (by decide) (by decide));refine wcb ?_ hs2 rfl;rw[hs2];refine YM ?_;refine wpAny_BinOp ?_;refine Call_ (yt I hg hm (show bootBuiltins "set"=some (.type "set")from by decide+kernel) (Ia (thn (ha pos' pins s σ H _ I h) fun us s1 ⟨vs,H1,I1,r1,q1⟩=> ?_) hs rfl));obtain⟨c,l,ns,e,hq,hz,q⟩:=q1;subst e;cases r1 with
 |cons r rr=>
 cases rr;cases r;refine mk_set hc I1 hq hz fun g tk S n G hS hn keep=> ?_;have J1:Inv X pins σ H1 {s1 with heap:=g,toks:=tk}:=I1.kept keep;obtain⟨o,es,ep,t,ho,hx,hd,el,mem,lt,ft,en,tb'⟩:=id G;have J2:=Inv.Wt I1 (aN _) J1 ho (fun v z=>by rw[hd]at z;cases z);refine Call_ (yt J2 hg hm (show bootBuiltins "set"=some (.type "set")from by decide+kernel) (Ia (thn (hb pos'' _ _ σ H1 _ J2 q) fun us2 s2 ⟨vs2,H2,I2,r2,q2⟩=> ?_) hs' rfl));obtain⟨c2,l2,ms,e2,hq2,hz2,qq⟩:=q2;subst e2;cases r2 with
 |cons r rr=>
 cases rr;cases r;have ho2:s2.heap.get? s1.heap.objs.size=some o:=(I2.pin _ (jr _ dY)).1;have G2:aZ X.prog X.w s2.heap s1.heap.objs.size S n:=⟨o,es,ep,t,ho2,hx,hd,el,mem,lt,ft,en,tb'⟩;refine mk_set hc I2 hq2 hz2 fun g2 tk2 S2 n2 G3 hS2 hn2 Vh=> ?_;have J3:=(I2.kept (t':=tk2) Vh).V8;have ne:s1.heap.objs.size≠s2.heap.objs.size:=cQ (cR ho2);refine PL (s:={s2 with heap:=g2,toks:=tk2}) ne (G2.at fun o e=>Vh _ o e) G3 (by unfold scanBound;omega) (by unfold scanBound;omega) fun g3 dr Sr m aaN G4 hS4=> ?_;refine V3 ?_;obtain⟨o4,es4,ep4,t4,ho4,Xi,hd4,el4,aaF,lt4,ft4,en4,tb4⟩:=id G4;refine call_len_set (s:={s2 with heap:=g3,toks:=tk2,drawn:=dr}) ho4 Xi hd4 ft4 (by unfold scanBound at lt4;omega) ?_;have J4:Inv X pins σ H2 {s2 with heap:=g3,toks:=tk2+1+1}:=J3.kept (t':=tk2+1+1) aaN;have J5:Inv X pins σ H2 {s2 with heap:=g3,toks:=tk2+1+1,drawn:=dr}:=⟨J4.ok,J4.os,J4.bare,J4.base,J4.loc,J4.cell,J4.free,J4.freeC,J4.pin,J4.hok,J4.len⟩;refine⟨.int (es4.size:Int),H2,J5,⟨_,rfl⟩,qq es4.size ?_⟩;constructor
 ·intro hp;obtain⟨⟨k,hk,_⟩,_⟩:=el4 es4[0] (by simp);obtain⟨z1,z2⟩:=(hS4 k).mp ((aaF k).mpr ⟨es4[0],by simp,hk⟩);exact⟨k,(hS k).mp z1,(hS2 k).mp z2⟩
 ·rintro⟨k,z1,z2⟩;obtain⟨e,he,_⟩:=(aaF k).mp ((hS4 k).mpr ⟨(hS k).mpr z1,(hS2 k).mpr z2⟩);have:=Yu he
  rwa [sJ]at this
end
end L2
namespace Hs
open PySem L2 BJ
section
variable{P:ρ}{w:υ}{K:W.Frag}{mg:L4}{base:Heap}
def JK(K:W.Frag)(H:Hp)(x:V):Prop:=∃(p:Addr) (s:List Int),x= .ref p/\SqT K H p (s.map V.int)
theorem JK.same{H H':Hp}{x:V}(h:JK K H x)(s:Same H H'):JK K H' x:=by
 obtain⟨p,l,e,h⟩:=h;exact⟨p,l,e,s.tup h⟩
theorem Rp{x y:V}{k:Nat}(h:y∈(List.replicate k [x]).flatten):y=x:=by
 rw[List.mem_flatten]at h;obtain⟨l,hl,hy⟩:=h;rw[(List.mem_replicate.mp hl).2]at hy;exact fL.mp hy
def UG(K:W.Frag):Sp:=fun vs H Q _=>∃(la:Addr) (b:Nat) (rs:List V) (L:List (List Int×(Int×Nat))),vs=[.ref la,.int (b:Int)]/\SqL K H la rs/\rB K H rs L/\L.length<=36/\b<=40/\(∀q∈L,0<=q.2.1/\0<q.2.2/\q.2.2<=40/\q.2.1<=5*(q.2.2:Int))/\
 ∀r xs H',Same H H'->H' r=some (.lst xs)->H r=none->(∀x∈xs,JK K H' x)->xs.length<=7200->Q (.ref r) H'
theorem Rg{t b v:Int}(h0:0<=t)(b0:0<=b)(b1:b<=40)(v0:0<v)(h:t<=5*v):0<=t*b/v/\t*b/v<=200:=by
 refine⟨wgs (HF h0 b0) (by omega),?_⟩;have:t*b<=200*v:=by
  have h1:t*b<=(5*v)*b:=ydp h b0;have h2:(5*v)*b<=(5*v)*40:=ZV b1 (by omega);omega
 exact Int.ediv_le_of_le_mul v0 this
theorem WY{f:Addr}{fd:τ}(F:Fun K "sets_by_hue" "sets_by_hue" gR f fd):
  FnOk P w K mg base CX0 1 f fd ["laying","b"] (UG K):=by
 refine F.dM ["laying","b","sets","some","share"] fun cdv A outer s H vs Q E hr h=> ?_;obtain⟨la,b,rs,L,rfl,hL,hv,h36,b40,hq,q⟩:=h;refine bf ?_;intro Y;refine⟨_,(aP (pS 2 (lE aA)) (aP (u6 rM rfl (rG (pv 0)) (pg_tup rfl (qY (pG 3) (qY (pG 4) JT))) (bw (sH (pe_bm HY wfl wfm mt_extend (pv 2) (aj (bJ op_rep (lE (aj (pv 3) aA)) (bJ eU (bJ yu (bR jo (pv 4) aQ) (pv 1)) (bR jo (pv 4) aQ))) aA))))) (bw (cT (pv 2))))),?_⟩;refine jd ?_;intro c3 c2;have hlen:=Paired.jj hv;refine⟨(by show 0<=sizeLine;decide),fun f hf=> ?_⟩;have s0:=aO hf (.lst []);have e0:(upd H f (.lst [])) f=some (.lst []):=aH;generalize (upd H f (.lst []))=H0 at *;dsimp only[gName,List.set];have nf:la≠f->True:=fun _=>trivial;refine⟨_,rfl,la,rs,rfl,s0.seq hL,fun hz=> ?_⟩;let gq:Nat->St->Hp->Prop:=fun i σ H'=>Same H H'/\(∃xs,H' f=some (.lst xs)/\(∀x∈xs,JK K H x)/\xs.length<=200*i)/\∃o3 o4,σ=[some (.ref la),some (.int (b:Int)),some (.ref f),o3,o4];refine QD (xs:=rs) gq ⟨s0,⟨[],e0,fun x hx=>(nomatch hx),dB _⟩,_,_,rfl⟩ (fun i σ H' _ p=>p.1.seq hL) (fun i x σ H' hx p=> ?_) (fun σ H' p=> ?_)
 ·obtain⟨sm,⟨xs,ex,hxs,hxl⟩,o3,o4,rfl⟩:=p;obtain⟨qv,eq1,t,sa,fa,rfl,h1,h2,h3⟩:=Paired.at_ hv hx;obtain⟨u0,v0,v40,u5⟩:=hq qv (jq eq1);have hi:i<36:=by have:=(m6.mp hx).1;omega
  refine⟨t,_,rfl,sm.tup h1,rfl,_,_,rfl,_,_,rfl,rfl,?_⟩;obtain⟨c0,c1⟩:=Rg (t:=qv.2.1) (b:=(b:Int)) (v:=(qv.2.2:Int)) u0 (by omega) (by omega) (by omega) u5;refine⟨_,rfl,.inl ⟨rfl,_,SqL.of ex⟩,_,rfl,(by show 1<=sizeLine;decide),fun p1 hp1=> ?_⟩;have z1:=aO hp1 (.lst [.ref sa]);have h3':=(sm.trans z1).tup h3;refine⟨_,rfl,fa,_,_,.int qv.2.1,rfl,rfl,h3',rfl,_,rfl,_,_,rfl,rfl,.inr ⟨by omega,by omega⟩,_,rfl,fa,_,_,.int (qv.2.2:Int),rfl,rfl,h3',rfl,_,_,rfl,rfl,⟨by omega,by omega⟩,?_⟩;refine⟨p1,_,[.ref sa],rfl,rfl,aH,by omega,by omega,by rw[eE];show 1*_<=_;omega,fun p2 hp2=> ?_⟩;generalize hk:(qv.2.1*(b:Int)/(qv.2.2:Int)).toNat=k at *;have hk2:k<=200:=by omega
  have z2:=aO hp2 (.lst (List.replicate k [V.ref sa]).flatten);have e2:=(z1.trans z2) _ _ ex;have hlr:(List.replicate k [V.ref sa]).flatten.length=k:=by rw[len_rep];show k*1=k;omega
  refine⟨f,p2,xs,_,rfl,rfl,e2,aH,by rw[hlr,eE];omega,?_⟩;refine⟨fun a o ha=> ?_,⟨xs++(List.replicate k [V.ref sa]).flatten,aH,fun x hx'=> ?_,by rw[gB,hlr];omega⟩,_,_,rfl⟩
  ·have na:a≠f:=fun z=>by rw[z,hf]at ha;cases ha
   rw[bU na];exact(z1.trans z2) _ _ (sm _ _ ha)
  ·rcases g8.mp hx' with hm|hm
   ·exact hxs x hm
   ·rw[Rp hm];exact⟨sa,_,rfl,h2⟩
 ·obtain⟨sm,⟨xs,ex,hxs,hxl⟩,o3,o4,rfl⟩:=p;exact⟨_,rfl,q f xs H' sm ex hf (fun x hx=>(hxs x hx).same sm) (by omega)⟩
def UJ(K:W.Frag):Sp:=fun vs H Q _=>∃(f:Addr) (p:Int) (xs:List V),vs=[.ref f,.int p]/\SqL K H f xs/\(∀x∈xs,JK K H x)/\
 ∀r (ys:List Int) H',Same H H'->H' r=some (.lst (ys.map V.int))->H r=none->Q (.ref r) H'
theorem W4{f:Addr}{fd:τ}(F:Fun K "hues_of" "hues_of" oY f fd)(cC:mg "enumerate"=none):
  FnOk P w K mg base CX0 1 f fd ["sets","place"] (UJ K):=by
 refine F.dM ["sets","place"] fun cdv A outer s H vs Q E hr h=> ?_;obtain⟨f,p,xs,rfl,hf,ht,q⟩:=h;refine⟨_,(bw (cT (pK ["hue","some"] ["place"] [1] (nJ rfl cC (aj (pv 0) aA)) (gH K (n:=2) rfl (qY (pG 0) (qY (pG 1) JT))) (Hy (jg (nM K hr.units) (pv 2) (pv 1) (by with_unfolding_all rfl))) (pv 0)))),?_⟩;refine⟨_,rfl,false,f,xs,rfl,hf,fun hz=> ?_⟩;let qe:Nat->List V->St->Hp->Prop:=fun i acc σ H'=>(∃ys:List Int,acc=ys.map V.int/\ys.length<=i)/\Same H H'/\∃o1 o2,σ=[o1,o2,some (.int p)];refine j9 (K:=K) (b:=false) (a:=f) (xs:=xs) qe ⟨⟨[],rfl,dB _⟩,Same.refl _,_,_,rfl⟩ (fun i acc σ H' _ pp=>pp.2.1.seq hf) (fun i acc σ H' _ pp=> ?_) hz (fun i v t acc σ H' hv pp ht'=> ?_) (fun acc σ H' pp=> ?_)
 ·obtain⟨⟨ys,rfl,hl⟩,_⟩:=pp;rw[aJ];exact hl
 ·obtain⟨⟨ys,rfl,hl⟩,sm,o1,o2,rfl⟩:=pp;obtain⟨pa,s,rfl,hs⟩:=ht v (jq hv);have z1:=aO ht' (.tup [.int (i:Int),.ref pa]);refine⟨t,_,rfl,SqT.of aH,rfl,_,_,rfl,_,_,rfl,rfl,?_⟩;refine⟨_,rfl,_,rfl,pa,_,_,.int p,rfl,.inr ((sm.trans z1).tup hs),cU.ints _,.int _,Kf _,rfl,(by show 0<=60;decide),_,rfl,?_⟩;refine ite2 (fun c=> ?_) (fun c=> ?_)
  ·refine⟨_,rfl,⟨ys++[(i:Int)],by rw[bV];rfl,by rw[gB];show ys.length+1<=i+1;omega⟩,sm.trans z1,_,_,rfl⟩
  ·exact⟨⟨ys,rfl,by omega⟩,sm.trans z1,_,_,rfl⟩
 ·intro r hr';obtain⟨⟨ys,rfl,hl⟩,sm,_⟩:=pp;refine q r ys _ (sm.trans (aO hr' _)) aH ?_;cases e:H r with
  |none=>rfl
  |some o=>rw[sm _ _ e]at hr';cases hr'
theorem U5{f:Nat->Int}{g:Int}{j:Nat}:∀k,j<k->(∀i,i<k->0<=f i)->Sx.sm k f<=g->f j<=g:=fun k hj hn h=>by
 have:f j<=Sx.sm k f:=by
  induction k with
  |zero=>omega
  |succ k ih=>
   show f j<=Sx.sm k f+f k;have hk:=hn k (by omega);have hs:=Sx.yZ k fun i hi=>hn i (by omega);by_cases c:j=k
   ·subst c;omega
   ·have:=ih (by omega) (fun i hi=>hn i (by omega)) (by show Sx.sm k f<=g;have:Sx.sm (k+1) f=Sx.sm k f+f k:=rfl;omega);omega
 omega
theorem Lg{n:Nat}{ts:L0}{ss:List (List Int)}{ov:Nat}{Z:Int}{Y X:Nat->Int}(hS:kh ss ts false n)(h:Sh n ss (vh n) ov Z Y X){k:Nat}(hk:k<ss.length):Y k<=(n:Int)*(ov:Int):=by
 have hx:∀p,p<n->X p<=(ov:Int):=fun p hp=>by
  obtain⟨j,hj,e⟩:=Pr hS hp;have:=U5 (f:=fun p=>if gk ss j p=true then X p else 0) (j:=p) n hp (fun i _=>by show 0<=(if gk ss j i=true then X i else 0);split;exact h.xn i;exact Fq 0) (h.lig j hj);simp only[e,Uj]at this;exact this
 have hz:Z<=(n:Int)*(ov:Int):=by
  rw[<-h.wor];have a:=(Sx.wD (f:=fun p=>sO (vh n) p*X p) (b:=(ov:Int)) n fun p hp=>by
   show -(ov:Int)<=sO (vh n) p*X p/\sO (vh n) p*X p<=(ov:Int);rw[VJ hp,JW];have:=h.xn p;have:=hx p hp;omega).2
  exact a
 exact U5 (f:=Y) ss.length hk (fun i _=>h.yn i) (by rw[h.tot];exact hz)
theorem R9{ss:List (List Int)}{ov:Nat}{Y:Nat->Int}{q:List Int×(Int×Nat)}(h:q∈jM ss ov Y):∃k,k<ss.length/\0<Y k/\q.2=bL (Y k) ov:=by
 unfold jM at h;obtain⟨k,hk,rfl⟩:=kj.mp h;rw[kI,rH]at hk;exact⟨k,hk.1,sS hk.2,rfl⟩
theorem Jm{a n:Int}{D:Nat}(hD:0<D)(ha:0<=a)(h:a<=n*(D:Int))(hn:0<=n):(bL a D).1<=n*((bL a D).2:Int):=by
 have e:=Ng (a:=a) hD;have ok:=xH (a:=a) hD ha;obtain⟨g,hg⟩:=ok.2.2;have hgp:0<g:=weq fun z=>by rw[z]at hg;omega
 have ed:D/(bL a D).2=g:=by
  have h1:D=g*(bL a D).2:=by rw[Vz];exact hg
  exact Nat.div_eq_of_eq_mul_left ok.2.1 h1
 rw[ed]at e;have hgD:(D:Int)=((bL a D).2:Int)*(g:Int):=(iD (fun z:Nat=>(z:Int)) hg).trans (by push_cast;rfl);rw[<-e]at h;have h':(bL a D).1*(g:Int)<=n*((bL a D).2:Int)*(g:Int):=by rw[VB,<-hgD];rw[e]at h⊢;exact h
 exact Int.le_of_mul_le_mul_right h' (by omega)
theorem TF{xs:List V}{b:Nat}:((cutV xs none (some (b:Int)))).length<=b:=by
 unfold cutV HT.sIx;simp only;rw[aq (by omega)];rw[m5];omega
theorem Hr(ys:List Int)(lo hi:Option Int):∃us:List Int,cutV (ys.map V.int) lo hi=us.map V.int:=by
 unfold cutV;rw[<-whk,<-wfx];exact⟨_,rfl⟩
def yR(K:W.Frag):Sp:=fun vs H Q _=>∃(a:Addr) (n:Int) (ts:L0),vs=[.ref a]/\cO K H a n ts/\n<=5/\
 ∀r l (x c:Int) rs R H',Same H H'->H' r=some (.tup [.int x,.int c,.ref l])->1<=c->c<=40->H' l=some (.lst rs)->dN K H' rs R->R.length<=5->(∀r∈R,r.length<=40)->H l=none->Q (.ref r) H'
theorem IW{f f1 f2 f3 f4 f5:Addr}{fd d1 d2 d3 d4 d5:τ}(F:Fun K "spread" "spread" tR f fd)(D1:bQ K mg "need_web" Kg ["thing"] f1 d1)(G1:FnOk P w K mg base CX0 7 f1 d1 ["thing"] (cG K))(D2:bQ K mg "shares" tU ["web","wants"] f2 d2)(G2:FnOk P w K mg base CX0 9 f2 d2 ["web","wants"] (yS K))(D3:bQ K mg "sum_of" tQ ["fractions"] f3 d3)(G3:FnOk P w K mg base CX0 2 f3 d3 ["fractions"] (Gf K))(D4:bQ K mg "sets_by_hue" gR ["laying","b"] f4 d4)(G4:FnOk P w K mg base CX0 1 f4 d4 ["laying","b"] (UG K))(D5:bQ K mg "hues_of" oY ["sets","place"] f5 d5)(G5:FnOk P w K mg base CX0 1 f5 d5 ["sets","place"] (UJ K))(aL:mg "range"=none)(bA:mg "tuple"=none):
  FnOk P w K mg base CX0 10 f fd ["web"] (yR K):=by
 refine F.dM ["web","laying","total","b","sets","rows"] fun cdv A outer s H vs Q E hr h=> ?_;obtain⟨a,n,ts,rfl,hA,n5,q⟩:=h;refine bf ?_;intro Y;refine⟨_,(aP (sH (pc G1 hr D1 (aj (pv 0) aA))) (aP (pS 1 (bR jo (pc G2 hr D2 (aj (pv 0) (aj (bJ Rw (oF (aj aQ aA)) (bR jo (pv 0) aQ)) aA))) aQ)) (aP (pS 2 (pc G3 hr D3 (aj (pK ["some","share"] [] [] (rG (pv 1)) (gH K (n:=2) rfl (qY (pG 0) (qY (pG 1) JT))) qG (pv 1)) aA))) (aP (pS 3 (bR jo (pv 2) aQ)) (aP (pS 4 (pc G4 hr D4 (aj (pv 1) (aj (pv 3) aA)))) (aP (pX 5 ["place"] ["sets","b"] [4,3] (Fp rfl aL (aj (bR jo (pv 0) aQ) aA)) (pG 0) qG (pT (fY K) bA (aj (yH (Le K) (pc G5 hr D5 (aj (pv 1) (aj (pv 0) aA))) vC (vD (pv 2))) aA))) (bw (cT (oF (aj (bR jo (pv 2) aQ) (aj (pv 3) (aj (pv 5) aA)))))))))))),?_⟩;refine N6 ?_;intro c7 c6 c5 c4 c3 c2;have h0:=hA.h0;refine⟨_,rfl,.ref a,_,rfl,hA.web.dv.dx,hA.ok,fun H1 s1=> ?_⟩;obtain⟨Us,U7,w1,_,_⟩:=id (hA.same s1).web;refine⟨_,rfl,(by show 1<=sizeLine;decide),fun p1 hp1=> ?_⟩;have s2:=aO hp1 (.tup [.int 1]);refine⟨_,rfl,a,_,_,.int n,rfl,rfl,s2.tup w1,rfl,p1,n,_,rfl,rfl,SqT.of aH,(fun e=>nomatch e),by omega,by omega,?_,fun wa H3 s3 h3=> ?_⟩
 ·show 1*n.toNat<=1000;omega
 have ew:(List.replicate n.toNat [V.int 1]).flatten=(vh n.toNat).map V.int:=by
  unfold vh;generalize n.toNat=k
  induction k with
  |zero=>rfl
  |succ k ih=>rw[Kq,Ub,ih,Kq];rfl
 rw[ew]at h3;have oH:=s1.trans (s2.trans s3);refine⟨a,wa,n,ts,vh n.toNat,rfl,hA.same oH,h3,⟨by unfold vh;rw[ydz];omega,fun x hx=> ?_⟩,fun r0 va la pa lrefs Mf ss ov Z Y X H4 s4 e1 e2 e3 e4 e5 e6 vV hSh _ _ _=>⟨r0,_,_,.ref la,rfl,rfl,SqT.of e1,rfl,?_⟩⟩
 ·rw[(List.mem_replicate.mp hx).2];decide
 have ab9:=hSh.few (by omega);have Vb:=hSh.pos;have hlen:=Paired.jj e4;have l36:(jM ss ov Y).length<=36:=by
  unfold jM;rw[aJ];have:=wk (fun k=>decide (0<Y k)) (List.range ss.length);rw[wj]at this;have:=tG vV (by omega);omega
 have hD:DOk ov ((jM ss ov Y).map (·.2)):=by
  have:=Sd hSh (fun _=>true)
  rwa [show((jM ss ov Y).filter fun q=>(fun _=>true) q.1)=jM ss ov Y from List.filter_eq_self.mpr fun _ _=>rfl]at this
 have hq:∀x∈jM ss ov Y,0<=x.2.1/\0<x.2.2/\x.2.2<=40/\x.2.1<=5*(x.2.2:Int):=fun x hx=>by
  obtain⟨k,hk,hy,e⟩:=R9 hx;rw[e];have ok:=xH (a:=Y k) Vb (by omega);have sm:=Lg vV hSh hk;have lo:=Jm (a:=Y k) (n:=(n.toNat:Int)) Vb (by omega) sm (by omega);have le:=wfy Vb ok.2.2;refine⟨ok.1,ok.2.1,by omega,?_⟩;have:(n.toNat:Int)*((bL (Y k) ov).2:Int)<=5*((bL (Y k) ov).2:Int):=ydp (by omega) (by omega);omega
 generalize jM ss ov Y=L at *;dsimp only[gName,List.set];refine⟨_,rfl,la,lrefs,rfl,SqL.of e3,fun hz=> ?_⟩;let gq:Nat->List V->St->Hp->Prop:=fun i acc σ H'=>H'=H4/\uM K H4 acc ((L.take i).map (·.2))/\∃o1 o2,σ=[o1,o2];refine Cm (xs:=lrefs) gq ⟨rfl,.nil,_,_,rfl⟩ (fun i acc σ H' _ p=>by rw[p.1];exact SqL.of e3) (fun i acc σ H' _ p=> ?_) hz (fun i x acc σ H' hx p=> ?_) (fun acc σ H' p=> ?_)
 ·rw[Paired.jj p.2.1,aJ,m5];exact yJ _ _
 ·obtain⟨rfl,hf,o1,o2,rfl⟩:=p;obtain⟨qv,eq1,t,sa,fa,rfl,h1,h2,h3'⟩:=Paired.at_ e4 hx;refine⟨t,_,rfl,h1,rfl,_,_,rfl,_,_,rfl,rfl,?_⟩;refine⟨_,rfl,rfl,?_,_,_,rfl⟩;rw[rK,eq1,bV];exact Paired.snoc hf ⟨fa,rfl,h3'⟩
 intro p5 hp5;obtain⟨rfl,hf,_⟩:=p;rw[Cd (by omega)]at hf;have s5:=aO hp5 (.lst acc);have hal:acc.length<=36:=by rw[Paired.jj hf,aJ];exact l36
 refine⟨p5,acc,_,ov,rfl,SqL.of aH,uM.same hf s5,hD,by omega,fun p6 ta b H6 s6 e7 hs=> ?_⟩;have hb:=hs.le hD.pos;have hb0:0<b:=Nat.pos_of_dvd_of_pos hs.dvd hD.pos;have Qw:=s5.trans s6;have A6:=hA.same (oH.trans (s4.trans Qw));dsimp only[gName,List.set];refine⟨_,rfl,p6,_,_,.int (b:Int),rfl,rfl,SqT.of e7,rfl,?_⟩;refine⟨_,rfl,_,rfl,la,b,lrefs,L,rfl,Qw.seq (SqL.of e3),rB.same e4 Qw,l36,by omega,hq,fun f xs H7 s7 e8 _ ht hl=> ?_⟩;have A7:=A6.same s7;obtain⟨tt7,rr7,w7,_,_⟩:=id A7.web;dsimp only[gName,List.set];refine⟨_,rfl,a,_,_,.int n,rfl,rfl,w7,rfl,n,rfl,by omega,by omega,?_⟩;let qe:Nat->List V->St->Hp->Prop:=fun i acc σ H'=>(∃R,dN K H' acc R/\R.length=i/\∀r∈R,r.length<=40)/\Same H7 H'/\∃o,σ=[o,some (.ref f),some (.int (b:Int))];refine T5 (n:=n.toNat) qe ⟨⟨[],.nil,rfl,fun r hr=>(nomatch hr)⟩,Same.refl _,_,rfl⟩ (fun i acc σ H' hi p=> ?_) (by rw[eE];omega) (fun i acc σ H' hi p=> ?_) (fun acc σ H' p=> ?_)
 ·obtain⟨⟨R,hR,hl',_⟩,_⟩:=p;rw[Paired.jj hR];omega
 ·obtain⟨⟨R,hR,hl',xK⟩,sm,o,rfl⟩:=p;refine⟨_,rfl,_,rfl,f,_,xs,rfl,sm.seq (SqL.of e8),fun x hx=>(ht x hx).same sm,fun r1 ys H8 s8 e9 _=> ?_⟩;refine⟨_,rfl,_,rfl,r1,_,rfl,SqL.of e9,fun p2 hp2=>⟨p2,_,rfl,.inl ⟨SqL.of aH,fun t ht'=> ?_⟩⟩⟩;have z1:=aO hp2 (.lst (cutV (ys.map V.int) none (some (b:Int))));have z2:=aO ht' (.tup (cutV (ys.map V.int) none (some (b:Int))));have zz:=s8.trans (z1.trans z2);obtain⟨us,eu⟩:∃us:List Int,cutV (ys.map V.int) none (some (b:Int))=us.map V.int:=Hr ys _ _;have hu:=TF (xs:=ys.map V.int) (b:=b);rw[eu,aJ]at hu;refine⟨⟨R++[us],Paired.snoc (hR.same zz) ⟨t,rfl,by rw[<-eu];exact SqT.of aH⟩,by rw[gB,hl'];rfl,fun r hr'=> ?_⟩,sm.trans zz,_,rfl⟩;rcases g8.mp hr' with hm|hm
  ·exact xK r hm
  ·rw[fL.mp hm];omega
 ·intro l hl';obtain⟨⟨R,hR,hRl,xK⟩,sm,_⟩:=p;have g1:=aO hl' (.lst acc);have gl:(upd H' l (.lst acc)) l=some (.lst acc):=aH;have e71:=(s7.trans (sm.trans g1)) _ _ e7;have Zb:=hR.same g1;have sA:=(oH.trans (s4.trans Qw)).trans (s7.trans (sm.trans g1));have nl:H l=none:=by
   cases e:H l with
   |none=>rfl
   |some o=>rw[((oH.trans (s4.trans Qw)).trans (s7.trans sm)) _ _ e]at hl';cases hl'
  generalize (upd H' l (.lst acc))=H9 at *;dsimp only[gName,List.set];refine⟨_,rfl,p6,_,_,.int ta,rfl,rfl,SqT.of e71,rfl,_,rfl,_,rfl,(by show 3<=sizeLine;decide),fun r hr'=> ?_⟩;have g2:=aO hr' (.tup [.int ta,.int (b:Int),.ref l]);exact q r l ta b acc R _ (sA.trans g2) aH (by omega) (by omega) (g2 _ _ gl) (Zb.same g2) (by omega) xK nl
def Gy(r:List Int):Bool:=(List.range (r.length-1)).all fun k=>decide (r.getD k 0<r.getD (k+1) 0)
def jC(b:Int)(r:List Int):Bool:=decide ((r.length:Int)=b)&&(r.all (fun h=>decide (0<=h))&&Gy r)
noncomputable def kY(x y:List Int):Bool:=x.any fun h=>decide (h∈y)
def Bm(n:Int)(ts:L0)(b:Int)(R:List (List Int)):Bool:=decide ((R.length:Int)=n)&&(R.all (jC b)&& !(ts.any fun p=>kY (R.getD p.1.toNat []) (R.getD p.2.toNat [])))
theorem LC(r:List Int):Gy r=true↔r.Pairwise (· < ·):=by
 have gg:∀j,(hj:j<r.length)->r.getD j 0=r[j]:=fun j hj=>by rw[oK,gj hj];rfl
 unfold Gy;rw[rJ];constructor
 ·intro h;have st:∀d i,(hd:i+d+1<r.length)->r[i]'(by omega)<r[i+d+1]:=by
   intro d
   induction d with
   |zero=>
    intro i hd;have:=sS (h i (rH.mpr (by omega)))
    rwa [gg i (by omega),gg (i+1) (by omega)]at this
   |succ d ih=>
    intro i hd;have a:=ih i (by omega);have b:=sS (h (i+d+1) (rH.mpr (by omega)));rw[gg (i+d+1) (by omega),gg (i+d+1+1) (by omega)]at b;exact Int.lt_trans a b
  rw[Ue];intro i j hi hj hij;have:=st (j-i-1) i (by omega);have e:i+(j-i-1)+1=j:=by omega
  simp only[e]at this;exact this
 ·intro h k hk;rw[rH]at hk;rw[gg k (by omega),gg (k+1) (by omega)];exact fD (Ue.mp h k (k+1) (by omega) (by omega) (by omega))
def Gj(K:W.Frag):Sp:=fun vs H Q _=>∃(p:Addr) (b:Int) (row:List Int),vs=[.int b,.ref p]/\SqT K H p (row.map V.int)/\∀H',Same H H'->Q (.bl (jC b row)) H'
theorem Mt{f f1 f2:Addr}{fd d1 d2:τ}(F:Fun K "is_row" "is_row" tW f fd)(D1:bQ K mg "is_rising" Zq ["things"] f1 d1)(G1:FnOk P w K mg base CX0 1 f1 d1 ["things"] (m7 K))(D2:bQ K mg "is_whole" QH ["thing"] f2 d2)(G2:FnOk P w K mg base CX0 1 f2 d2 ["thing"] (gD K))(cB:mg "len"=none)(aG:mg "isinstance"=none)(bA:mg "tuple"=none)(zT:mg "all"=none):
  FnOk P w K mg base CX0 2 f fd ["b","thing"] (Gj K):=by
 refine F.dM ["b","thing"] fun cdv A outer s H vs Q E hr h=> ?_;obtain⟨p,b,row,rfl,hp,qq⟩:=h;refine bf ?_;intro Y;refine⟨_,(aP (qW (PW.pt (pw_or (yF (yG (pB QC aG (aj (pv 1) (aj (pN "tuple" bA) aA))))) (pw_or1 (jg op_ne (pB yI cB (aj (pv 1) aA)) (pv 0))))) (bw (cT pe_bl)) qX) (bw (cT (pe_and (pB (iB rfl) zT (aj (pK ["hue"] [] [] (Hx (pv 1)) (pG 0) qG (pe_and (pc G2 hr D2 (aj (pv 0) aA)) (pe_one (pe_cmpR op_ge (pv 0) aQ)))) aA)) (pe_one (pc G1 hr D1 (aj (pv 1) aA))))))),?_⟩;refine je ?_;intro c2;refine⟨_,rfl,.ref p,"tuple",_,rfl,.inl ⟨rfl,_,hp⟩,.inr (.inr (.inl rfl)),_,rfl,?_⟩;refine iteF ?_;refine⟨_,rfl,p,_,rfl,.inr hp,fun hz=>⟨_,rfl,rfl,_,rfl,?_⟩⟩;unfold jC at qq;by_cases hl:(row.length:Int)=b
 ·have e1:(!decide (V.int (((row.map V.int).length:Nat):Int)=V.int b))=false:=by rw[aJ,hl];simp
  rw[e1];refine iteF ?_;rw[fD hl,VR]at qq;refine⟨_,rfl,p,_,rfl,hp,fun hz=> ?_⟩;let gq:Nat->List V->St->Hp->Prop:=fun i acc σ H'=>acc=((row.take i).map fun h=>decide (0<=h)).map V.bl/\H'=H/\∃o,σ=[o];refine JV (xs:=row.map V.int) gq ⟨rfl,rfl,_,rfl⟩ (fun i acc σ H' _ p=>by rw[p.2.1];exact hp) (fun i acc σ H' _ p=>by rw[p.1,aJ,aJ,m5];exact yJ _ _) hz (fun i x acc σ H' hx p=> ?_) (fun acc σ H' p=> ?_)
  ·obtain⟨rfl,rfl,o,rfl⟩:=p;rw[dD]at hx;cases ex:row[i]? with
   |none=>rw[ex]at hx;cases hx
   |some y=>
    rw[ex]at hx;cases hx;refine⟨_,rfl,.int y,.int y,rfl,.int _,_,rfl,iteT ?_⟩;refine⟨_,rfl,_,_,rfl,rfl,?_,rfl,_,rfl⟩;show _++[V.bl (decide (0<=y))]=_;rw[rK,ex,bV,bV];rfl
  intro p1 hp1;obtain⟨rfl,rfl,_⟩:=p;rw[Cd (by rw[aJ];exact aN _)];have s1:=aO hp1 (.lst ((row.map fun h=>decide (0<=h)).map V.bl));refine⟨p1,_,rfl,SqL.of aH,_,rfl,?_⟩;have ea:(row.map fun h=>decide (0<=h)).all id=row.all fun h=>decide (0<=h):=by rw[wgq];rfl
  rw[ea];refine ite2 (fun c=> ?_) (fun c=> ?_)
  ·rw[c,VR]at qq;refine⟨_,rfl,p,_,_,rfl,s1.tup hp,vM row,fun H2 s2=> ?_⟩;rw[aJ];exact qq H2 (s1.trans s2)
  ·rw[Bool.eq_false_iff.mpr c]at qq;exact qq _ s1
 ·have e1:(!decide (V.int (((row.map V.int).length:Nat):Int)=V.int b))=true:=by
   rw[aJ];rw[iY (fun z=>hl (V.int.inj z))];rfl
  rw[e1];refine iteT ?_;rw[iY hl]at qq;exact qq H (Same.refl _)
def UL(K:W.Frag):Sp:=fun vs H Q _=>∃(p q:Addr) (xs ys:List Int),vs=[.ref p,.ref q]/\SqT K H p (xs.map V.int)/\SqT K H q (ys.map V.int)/\xs.length<60/\ys.length<60/\Q (.bl (kY xs ys)) H
theorem W5{f:Addr}{fd:τ}(F:Fun K "have_in_common" "have_in_common" zcv f fd)(cB:mg "len"=none)(M7:mg "set"=none):
  FnOk P w K mg base CX0 1 f fd ["one","other"] (UL K):=by
 refine F.dM ["one","other"] fun cdv A outer s H vs Q E hr h=> ?_;obtain⟨p,q,xs,ys,rfl,hp,hq,l1,l2,qq⟩:=h;refine⟨_,(bw (cT (pe_cmpR op_gt (Iw rfl rfl cB rfl M7 (aj (pv 0) aA) (aj (pv 1) aA)) aQ))),?_⟩;refine⟨_,rfl,true,p,xs,rfl,hp,l1,_,rfl,true,q,ys,rfl,hq,l2,fun m hm=>⟨_,_,rfl,rfl,?_⟩⟩;show Q (.bl (decide ((0:Int)<(m:Int)))) H;have e:decide ((0:Int)<(m:Int))=kY xs ys:=by
  unfold kY;rw[wA,wdg,Yn];constructor
  ·intro z;obtain⟨k,k1,k2⟩:=hm.mp (by omega);exact⟨k,k1,fD k2⟩
  ·rintro⟨k,k1,k2⟩;have:=hm.mpr ⟨k,k1,sS k2⟩;omega
 rw[e];exact qq
theorem Hl{n b:Int}{ts:L0}{R:List (List Int)}(h:¬(R.length:Int)=n):Bm n ts b R=false:=by unfold Bm;rw[iY h];rfl
theorem Hj{n b:Int}{ts:L0}{R:List (List Int)}(h:R.all (jC b)=false):Bm n ts b R=false:=by unfold Bm;rw[h,wgy,wgz]
theorem Ho{n b:Int}{ts:L0}{R:List (List Int)}(h:(R.length:Int)=n)(h':R.all (jC b)=true):Bm n ts b R= !(ts.any fun p=>kY (R.getD p.1.toNat []) (R.getD p.2.toNat [])):=by unfold Bm;rw[fD h,h',VR,VR]
theorem aan{R:List (List Int)}{i:Nat}(hi:i<R.length):R.getD i []∈R:=by
 rw[oK,gj hi];exact Ko hi
def vJ(K:W.Frag):Sp:=fun vs H Q _=>∃(a l:Addr) (n b:Int) (ts:L0) (rs:List V) (R:List (List Int)),vs=[.ref a,.int b,.ref l]/\cO K H a n ts/\1<=b/\SqL K H l rs/\dN K H rs R/\(∀r∈R,r.length<=40)/\∀H',Same H H'->Q (.bl (Bm n ts b R)) H'
theorem Du{f f1 f2 f3 f4:Addr}{fd d1 d2 d3 d4:τ}(F:Fun K "are_rows" "are_rows" fU f fd)(D1:bQ K mg "need_web" Kg ["thing"] f1 d1)(G1:FnOk P w K mg base CX0 7 f1 d1 ["thing"] (cG K))(D2:bQ K mg "is_whole" QH ["thing"] f2 d2)(G2:FnOk P w K mg base CX0 1 f2 d2 ["thing"] (gD K))(D3:bQ K mg "is_row" tW ["b","thing"] f3 d3)(G3:FnOk P w K mg base CX0 2 f3 d3 ["b","thing"] (Gj K))(D4:bQ K mg "have_in_common" zcv ["one","other"] f4 d4)(G4:FnOk P w K mg base CX0 1 f4 d4 ["one","other"] (UL K))(zT:mg "all"=none)(cB:mg "len"=none)(aG:mg "isinstance"=none)(gW:mg "list"=none)(M8:mg "any"=none):
  FnOk P w K mg base CX0 8 f fd ["web","b","rows"] (vJ K):=by
 refine F.dM ["web","b","rows"] fun cdv A outer s H vs Q E hr h=> ?_;obtain⟨a,l,n,b,ts,rs,R,rfl,hA,b0,hl,hR,Vl,qq⟩:=h;refine bf ?_;intro Y;refine⟨_,(aP (sH (pc G1 hr D1 (aj (pv 0) aA))) (aP (qW (PW.pt (pw_or (yF (yG (pc G2 hr D2 (aj (pv 1) aA)))) (pw_or1 (jg op_lt (pv 1) aQ)))) Vv qX) (aP (qW (PW.pt (pw_or (yF (yG (pB QC aG (aj (pv 2) (aj (pN "list" gW) aA))))) (pw_or (jg op_ne (pB yI cB (aj (pv 2) aA)) (bR jo (pv 0) aQ)) (pw_or1 (yF (yG (pB (iB rfl) zT (aj (pK ["row"] ["b"] [1] (rG (pv 2)) (pG 0) qG (pc G3 hr D3 (aj (pv 1) (aj (pv 0) aA)))) aA)))))))) (bw (cT pe_bl)) qX) (bw (cT (pe_not (pB (Bu rfl) M8 (aj (pK ["one","other"] ["rows"] [2] (Hx (bR jo (pv 0) aQ)) (gH K (n:=2) rfl (qY (pG 0) (qY (pG 1) JT))) qG (pc G4 hr D4 (aj (bR (eY K) (pv 2) (pv 0)) (aj (bR (eY K) (pv 2) (pv 1)) aA)))) aA)))))))),?_⟩;refine N7 ?_;intro c4 c3 c2;have h0:=hA.h0;have hRl:=Paired.jj hR;refine⟨_,rfl,.ref a,_,rfl,hA.web.dv.dx,hA.ok,fun H1 s1=> ?_⟩;have hA1:=hA.same s1;obtain⟨Us,U7,w1,w2,w3⟩:=id hA1.web;refine⟨_,rfl,.int b,.int b,rfl,.int b,_,rfl,?_⟩;refine iteF ?_;refine⟨_,rfl,_,_,rfl,rfl,_,rfl,?_⟩;rw[iY (show¬b<1 by omega)];refine iteF ?_;have hl1:=s1.seq hl;have Zb:=hR.same s1;refine⟨_,rfl,.ref l,"list",_,rfl,.inr (.inl ⟨rfl,_,hl1⟩),.inr (.inr (.inr rfl)),_,rfl,?_⟩;refine iteF ?_;refine⟨_,rfl,l,_,rfl,.inl hl1,fun hz=>⟨_,rfl,a,_,_,.int n,rfl,rfl,w1,rfl,rfl,_,rfl,?_⟩⟩;by_cases hn:(R.length:Int)=n
 ·have e1:(!decide (V.int ((rs.length:Nat):Int)=V.int n))=false:=by
   have:((rs.length:Nat):Int)=n:=by omega
   rw[this,fD rfl];rfl
  rw[e1];refine iteF ?_;refine⟨_,rfl,l,_,rfl,hl1,fun hz=> ?_⟩;let gq:Nat->List V->St->Hp->Prop:=fun i acc σ H'=>acc=((R.take i).map (jC b)).map V.bl/\Same H1 H'/\∃o,σ=[o,some (.int b)];refine Cm (xs:=rs) gq ⟨rfl,Same.refl _,_,rfl⟩ (fun i acc σ H' _ p=>p.2.1.seq hl1) (fun i acc σ H' _ p=>by rw[p.1,aJ,aJ,m5];exact yJ _ _) hz (fun i x acc σ H' hx p=> ?_) (fun acc σ H' p=> ?_)
  ·obtain⟨rfl,sm,o,rfl⟩:=p;obtain⟨row,hrow,pp,rfl,hpp⟩:=Paired.at_ Zb hx;refine⟨_,rfl,_,rfl,pp,b,row,rfl,sm.tup hpp,fun H2 s2=>⟨?_,sm.trans s2,_,rfl⟩⟩;rw[rK,hrow,bV,bV];rfl
  intro p1 hp1;obtain⟨rfl,sm,_⟩:=p;rw[Cd (by omega)]at *;have g1:=aO hp1 (.lst ((R.map (jC b)).map V.bl));refine⟨p1,_,rfl,SqL.of aH,_,rfl,?_⟩;have ea:(R.map (jC b)).all id=R.all (jC b):=by rw[wgq];rfl
  rw[ea];have oH:=sm.trans g1;generalize (upd H' p1 (.lst ((R.map (jC b)).map V.bl)))=H3 at *;cases hal:R.all (jC b)with
  |false=>
   refine iteT ?_;have:=qq H3 (s1.trans oH);rw[Hj hal]at this;exact this
  |true=>
   refine iteF ?_;have hl3:=oH.seq hl1;have Za:=Zb.same oH;refine⟨_,rfl,a,_,_,.ref Us,rfl,rfl,oH.tup w1,rfl,Us,_,rfl,oH.tup w2,fun hz=> ?_⟩;have w33:=w3.same oH;have lr:U7.length=ts.length:=by have:=w3.len;rwa [aJ]at this
   let qe:Nat->List V->St->Hp->Prop:=fun i acc σ H'=>acc=((ts.take i).map fun p=>kY (R.getD p.1.toNat []) (R.getD p.2.toNat [])).map V.bl/\H'=H3/\∃o1 o2,σ=[o1,o2,some (.ref l)];refine JV (xs:=U7) qe ⟨rfl,rfl,_,_,rfl⟩ (fun i acc σ H' _ p=>by rw[p.2.1];exact oH.tup w2) (fun i acc σ H' _ p=>by rw[p.1,aJ,aJ,m5];exact yJ _ _) hz (fun i x acc σ H' hx p=> ?_) (fun acc σ H' p=> ?_)
   ·obtain⟨rfl,rfl,o1,o2,rfl⟩:=p;obtain⟨t,hi,rfl,ht⟩:=wO w33 hx;obtain⟨q0,q1,q2⟩:=hA.pk.lt _ (Ko hi);have i1:(ts[i]).1.toNat<R.length:=by omega
    have i2:(ts[i]).2.toNat<R.length:=by omega
    obtain⟨p1,a1,v1⟩:=dN.at Za q0 i1;obtain⟨p2,a2,v2⟩:=dN.at Za (i:=(ts[i]).2) (by omega) i2;have l1:=Vl _ (aan i1);have l2:=Vl _ (aan i2);refine⟨t,_,rfl,ht,rfl,_,_,rfl,_,_,rfl,rfl,?_⟩;refine⟨_,rfl,_,rfl,l,_,_,.ref p1,rfl,rfl,hl3,a1,_,rfl,_,rfl,l,_,_,.ref p2,rfl,rfl,hl3,a2,?_⟩;refine⟨p1,p2,_,_,rfl,v1,v2,by omega,by omega,?_,rfl,_,_,rfl⟩;rw[rK,gj hi,bV,bV];rfl
   intro p2 hp2;obtain⟨rfl,rfl,_⟩:=p;rw[Cd (by omega)]at *;have g2:=aO hp2 (.lst ((ts.map fun p=>kY (R.getD p.1.toNat []) (R.getD p.2.toNat [])).map V.bl));refine⟨p2,_,rfl,SqL.of aH,_,rfl,?_⟩;have:=qq _ (s1.trans (oH.trans g2));rw[Ho hn hal]at this;rw[whp];exact this
 ·have e1:(!decide (V.int ((rs.length:Nat):Int)=V.int n))=true:=by
   rw[iY (fun z=>hn (by have:=V.int.inj z;omega))];rfl
  rw[e1];refine iteT ?_;have:=qq H1 s1;rw[Hl hn]at this;exact this
theorem vo(l:L0):PyData.eqv (.list (l.map pairD)) (.list [])=decide (l=[]):=by
 cases l with
 |nil=>simp[PyData.eqv,PyData.eqvAll]
 |cons p l=>simp[PyData.eqv,PyData.eqvAll]
theorem nY(l:List Int):PyData.eqv (.list (l.map PyData.int)) (.list [])=decide (l=[]):=by
 cases l with
 |nil=>simp[PyData.eqv,PyData.eqvAll]
 |cons p l=>simp[PyData.eqv,PyData.eqvAll]
theorem Jz(xs ys:List Int):PyData.eqv (.tuple (xs.map PyData.int)) (.tuple (ys.map PyData.int))=decide (xs=ys):=by
 have:∀(xs ys:List Int),PyData.eqvAll (xs.map PyData.int) (ys.map PyData.int)=decide (xs=ys):=by
  intro xs
  induction xs with
  |nil=>intro ys;cases ys<;>simp[PyData.eqvAll]
  |cons x xs ih=>intro ys;cases ys with
   |nil=>simp[PyData.eqvAll]
   |cons y ys=>
    have e:(x==y)=decide (x=y):=by rw[wA];simp
    simp[PyData.eqvAll,PyData.eqv,ih,e]
 simp[PyData.eqv,this]
theorem JB(xs ys:List Int):PyData.eqv (.list (xs.map PyData.int)) (.list (ys.map PyData.int))=decide (xs=ys):=by
 have h:=Jz xs ys;simp only[PyData.eqv]at h⊢;exact h
theorem mj:∀ns:List Int,PyData.depthAll (ns.map PyData.int)=0
 |[]=>rfl
 |x::xs=>by show max 0 (PyData.depthAll (xs.map PyData.int))=0;rw[mj xs];rfl
theorem Rn{b:Int}{r ys:List Int}(hs:ys.Pairwise (· < ·))(hm:∀k,k∈ys↔k∈r):jC b r=(decide ((r.length:Int)=b)&&(decide (r=ys)&&decide (r.filter (fun h=>decide (h<0))=[]))):=by
 unfold jC;congr 1;have e1:Gy r=decide (r=ys):=by
  rw[wA,LC,wdg];constructor
  ·intro h;exact jD h hs fun k=>(hm k).symm
  ·intro h;rw[h];exact hs
 have e2:(r.all fun h=>decide (0<=h))=decide (r.filter (fun h=>decide (h<0))=[]):=by
  rw[wA,wdg,rJ,ydy];constructor
  ·intro h x hx z;have:=sS (h x hx);have:=sS z;omega
  ·intro h x hx;refine fD ?_;have:=h x hx;have:¬x<0:=fun z=>this (fD z);omega
 rw[e1,e2,Bool.and_comm]
theorem j8(l:List Int):(PyData.list (l.map PyData.int)).canLay0=true:=Kf l
theorem uw(l m:List Int):min (PyData.list (l.map PyData.int)).depth (PyData.list (m.map PyData.int)).depth<=64:=by
 have:(PyData.list (l.map PyData.int)).depth=PyData.depthAll (l.map PyData.int)+1:=rfl;rw[mj]at this;omega
theorem rY{H:Hp}{a:Addr}{l:List Int}(h:SqL K H a (l.map V.int)):DV K H (.ref a) (.list (l.map PyData.int)):= .lst h (cU.ints _)
def U0(K:W.Frag):Sp:=fun vs H Q _=>∃(a l:Addr) (n b:Int) (ts:L0) (rs:List V) (R:List (List Int)),vs=[.ref a,.int b,.ref l]/\cO K H a n ts/\SqL K H l rs/\dN K H rs R/\(∀r∈R,r.length<=40)/\∀H',Same H H'->Q (.bl (Bm n ts b R)) H'
theorem O1{α:Type}{p:α->Bool}{l:List α}{i:Nat}{x:α}(h:l[i]? =some x):(l.take (i+1)).filter p=(l.take i).filter p++(if p x=true then[x]else[]):=by
 rw[rK,h,Uc];congr 1;show[x].filter p=_;rw[Qq];rfl
theorem Tv{H:Hp}{xs ys:List V}{ds es:List θ}(h:cU K H xs ds)(h':cU K H ys es):cU K H (xs++ys) (ds++es):=
 cU.rec (motive_1:=fun _ _ _=>True) (motive_2:=fun xs ds _=>cU K H (xs++ys) (ds++es)) trivial (fun _=>trivial) (fun _=>trivial) (fun _=>trivial) (fun _ _ _=>trivial) (fun _ _ _=>trivial) (fun _=>trivial) (fun _ _=>trivial) h' (fun h _ _ t=> .cons h t) h
theorem RQ{f:Addr}{fd:τ}(F:Fun K "_law_adue" "_law_adue" lN f fd)(cB:mg "len"=none)(gW:mg "list"=none)(jK:mg "sorted"=none)(M7:mg "set"=none):
  FnOk P w K mg base CX0 1 f fd ["web","b","rows"] (U0 K):=by
 refine F.dM ["web","b","rows","row"] fun cdv A outer s H vs Q E hr h=> ?_;obtain⟨a,l,n,b,ts,rs,R,rfl,hA,hl,hR,Vl,qq⟩:=h;refine bf ?_;intro Y;refine⟨_,(aP (qW (jg op_ne (pB yI cB (aj (pv 2) aA)) (bR jo (pv 0) aQ)) (bw (cT pe_bl)) qX) (aP (u6 rM rfl (rG (pv 2)) (pG 3) (bw (qW (PW.pt (pw_or (jg op_ne (pB yI cB (aj (pv 3) aA)) (pv 1)) (pw_or (jg (wR hr.units) (pT call_list_of gW (aj (pv 3) aA)) (wL rfl rfl jK rfl M7 (aj (pv 3) aA))) (pw_or1 (jg (wR hr.units) (pK ["hue"] [] [] (Hx (pv 3)) (pG 0) (Hy (jg op_lt (pv 0) aQ)) (pv 0)) (lE aA)))))) (bw (cT pe_bl)) qX))) (bw (cT (pe_cmpR (Wx hr.units) (pK ["pair"] ["rows"] [2] (Hx (bR jo (pv 0) aQ)) (pG 0) (Hy (jg (Rx K hr.units) (pK ["hue"] ["rows","pair"] [1,0] (zJ K (bR (eY K) (pv 1) (bR (j7 K) (pv 0) aQ))) (pG 0) (Hy (jg (nM K hr.units) (pv 0) (bR (eY K) (pv 1) (bR (j7 K) (pv 2) aQ)) (by with_unfolding_all rfl))) (pv 0)) (lE aA))) (pv 0)) (lE aA)))))),?_⟩;refine jd ?_;intro c3 c2;have h0:=hA.h0;have hRl:=Paired.jj hR;obtain⟨Us,U7,w1,w2,w3⟩:=id hA.web;refine⟨_,rfl,l,_,rfl,.inl hl,fun hz=>⟨_,rfl,a,_,_,.int n,rfl,rfl,w1,rfl,rfl,_,rfl,?_⟩⟩;by_cases hn:(R.length:Int)=n
 ·have e1:(!decide (V.int ((rs.length:Nat):Int)=V.int n))=false:=by
   have:((rs.length:Nat):Int)=n:=by omega
   rw[this,fD rfl];rfl
  rw[e1];refine iteF ?_;dsimp only[tNext];refine⟨_,rfl,l,rs,rfl,hl,fun hz=> ?_⟩;let gq:Nat->St->Hp->Prop:=fun i σ H'=>Same H H'/\(R.take i).all (jC b)=true/\∃o,σ=[some (.ref a),some (.int b),some (.ref l),o];refine QD (xs:=rs) gq ⟨Same.refl _,rfl,_,rfl⟩ (fun i σ H' _ p=>p.1.seq hl) (fun i x σ H' hx p=> ?_) (fun σ H' p=> ?_)
  ·obtain⟨sm,hal,o,rfl⟩:=p;obtain⟨row,hrow,pp,rfl,hpp⟩:=Paired.at_ hR hx;have hp1:=sm.tup hpp;have l40:=Vl row (jq hrow);have bad:∀jm,Same H jm->jC b row=false->Q (.bl false) jm:=fun jm s'' z=>by
    have:=qq jm s''
    rwa [Hj (Bool.eq_false_iff.mpr fun w=>by
     have:=rJ.mp w row (jq hrow);rw[z]at this;cases this)]at this
   dsimp only[gName,List.set];refine⟨_,rfl,pp,_,rfl,.inr hp1,fun _=>⟨_,rfl,rfl,_,rfl,?_⟩⟩;by_cases c1:(row.length:Int)=b
   ·have e2:(!decide (V.int (((row.map V.int).length:Nat):Int)=V.int b))=false:=by rw[aJ,c1];simp
    rw[e2];refine iteF ?_;refine⟨_,rfl,pp,_,rfl,.inr hp1,fun q1 hq1=> ?_⟩;have z1:=aO hq1 (.lst (row.map V.int));refine⟨_,rfl,true,pp,row,rfl,z1.tup hp1,by omega,fun q2 ys hq2 hys hm=> ?_⟩;have z2:=aO hq2 (.lst (ys.map V.int));have ri:=Rn (b:=b) hys hm;rw[fD c1,VR]at ri;refine⟨_,_,rY (SqL.of (z2 _ _ aH)),rY (SqL.of aH),j8 _,j8 _,uw _ _,_,rfl,?_⟩;rw[JB];have HD:=z1.trans z2;have hp2:=HD.tup hp1;generalize (upd (upd H' q1 (.lst (row.map V.int))) q2 (.lst (ys.map V.int)))=H2 at *;by_cases c2:row=ys
    ·rw[fD c2];refine iteF ?_;rw[fD c2,VR]at ri;refine⟨_,rfl,pp,_,rfl,hp2,fun hz=> ?_⟩;let qe:Nat->List V->St->Hp->Prop:=fun i acc σ H'=>acc=((row.take i).filter (fun h=>decide (h<0))).map V.int/\H'=H2/\∃o,σ=[o];refine JV (xs:=row.map V.int) qe ⟨rfl,rfl,_,rfl⟩ (fun i acc σ H' _ p=>by rw[p.2.1];exact hp2) (fun i acc σ H' _ p=> ?_) hz (fun i x acc σ H' hx p=> ?_) (fun acc σ H' p=> ?_)
     ·rw[p.1,aJ];exact dO (wk _ _) (by rw[m5];exact yJ _ _)
     ·obtain⟨rfl,rfl,o,rfl⟩:=p;rw[dD]at hx;cases ex:row[i]? with
      |none=>rw[ex]at hx;cases hx
      |some y=>
       rw[ex]at hx;cases hx;refine⟨_,rfl,_,_,rfl,rfl,_,rfl,?_⟩;refine ite2 (fun c=> ?_) (fun c=> ?_)
       ·refine⟨_,rfl,?_,rfl,_,rfl⟩;rw[O1 ex,aB c,bV];rfl
       ·refine⟨?_,rfl,_,rfl⟩;rw[O1 ex,aq c,u9]
     intro q3 hq3;obtain⟨rfl,rfl,_⟩:=p;rw[show List.take (row.map V.int).length row=row from Cd (by rw[aJ];exact aN _)];have z3:=aO hq3 (.lst ((row.filter fun h=>decide (h<0)).map V.int));refine⟨(by show 0<=sizeLine;decide),fun q4 hq4=> ?_⟩;have z4:=aO hq4 (.lst []);refine⟨_,_,rY (SqL.of (z4 _ _ aH)),.lst (SqL.of aH) .nil,j8 _,rfl,uw _ [],_,rfl,?_⟩;rw[nY];have sA:=sm.trans (HD.trans (z3.trans z4));by_cases c3:(row.filter fun h=>decide (h<0))=[]
     ·rw[fD c3];refine iteF ?_;rw[fD c3]at ri;refine⟨sA,?_,_,rfl⟩;rw[rK,hrow,List.all_append,hal];show(true&&(jC b row&&true))=true;rw[ri];rfl
     ·rw[iY c3];refine iteT ?_;rw[iY c3]at ri;exact bad _ sA ri
    ·rw[iY c2];refine iteT ?_;rw[iY c2]at ri;exact bad _ (sm.trans HD) ri
   ·have e2:(!decide (V.int (((row.map V.int).length:Nat):Int)=V.int b))=true:=by
     rw[aJ,iY (fun z=>c1 (V.int.inj z))];rfl
    rw[e2];refine iteT ?_;refine bad _ sm ?_;unfold jC;rw[iY c1];rfl
  ·obtain⟨sm,hal,o,rfl⟩:=p;rw[Cd (by omega)]at hal;have hl3:=sm.seq hl;have Za:=hR.same sm;have w33:=w3.same sm;have lr:U7.length=ts.length:=by have:=w3.len;rwa [aJ]at this
   refine⟨_,rfl,a,_,_,.ref Us,rfl,rfl,sm.tup w1,rfl,Us,_,rfl,sm.tup w2,fun hz=> ?_⟩;let JL:Nat->List V->St->Hp->Prop:=fun i acc σ H2=>(∃us:L0,us=(ts.take i).filter (fun p=>kY (R.getD p.1.toNat []) (R.getD p.2.toNat []))/\cU K H2 acc (us.map pairD))/\Same H' H2/\∃o,σ=[o,some (.ref l)];refine JV (xs:=U7) JL ⟨⟨[],rfl,.nil⟩,Same.refl _,_,rfl⟩ (fun i acc σ H2 _ p=>p.2.1.tup (sm.tup w2)) (fun i acc σ H2 _ p=> ?_) hz (fun i x acc σ H2 hx p=> ?_) (fun acc σ H2 p=> ?_)
   ·obtain⟨⟨us,rfl,hv⟩,_⟩:=p;rw[hv.len,aJ];exact dO (wk _ _) (by rw[m5];exact yJ _ _)
   ·obtain⟨⟨us,rfl,hv⟩,tH,o,rfl⟩:=p;obtain⟨t,hi,rfl,ht⟩:=wO w33 hx;obtain⟨q0,q1,q2⟩:=hA.pk.lt _ (Ko hi);have i1:(ts[i]).1.toNat<R.length:=by omega
    have i2:(ts[i]).2.toNat<R.length:=by omega
    have hR4:=Za.same tH;have DW:=tH.seq hl3;have ht4:=tH.tup ht;obtain⟨p1,a1,v1⟩:=dN.at hR4 q0 i1;obtain⟨p2,a2,v2⟩:=dN.at hR4 (i:=(ts[i]).2) (by omega) i2;refine⟨_,rfl,_,rfl,t,_,_,.int (ts[i]).1,rfl,rfl,ht4,rfl,l,_,_,.ref p1,rfl,rfl,DW,a1,p1,_,rfl,v1,fun hz=> ?_⟩;generalize hX:R.getD (ts[i]).1.toNat []=X at *;generalize hY:R.getD (ts[i]).2.toNat []=Y at *;let T4:Nat->List V->St->Hp->Prop:=fun k acc σ H3=>acc=((X.take k).filter (fun h=>decide (h∈Y))).map V.int/\H3=H2/\∃o,σ=[o,some (.ref l),some (.ref t)];refine JV (xs:=X.map V.int) T4 ⟨rfl,rfl,_,rfl⟩ (fun k acc σ H3 _ p=>by rw[p.2.1];exact v1) (fun k acc σ H3 _ p=> ?_) hz (fun k x acc' σ H3 hx p=> ?_) (fun acc' σ H3 p=> ?_)
    ·rw[p.1,aJ];exact dO (wk _ _) (by rw[m5];exact yJ _ _)
    ·obtain⟨rfl,rfl,o',rfl⟩:=p;rw[dD]at hx;cases ex:X[k]? with
     |none=>rw[ex]at hx;cases hx
     |some y=>
      rw[ex]at hx;cases hx;refine⟨_,rfl,_,rfl,_,rfl,t,_,_,.int (ts[i]).2,rfl,rfl,ht4,rfl,l,_,_,.ref p2,rfl,rfl,DW,a2,p2,_,_,.int y,rfl,.inr v2,cU.ints _,.int _,Kf _,rfl,(by show 0<=60;decide),_,rfl,?_⟩;rw[any_ints];refine ite2 (fun c=> ?_) (fun c=> ?_)
      ·refine⟨_,rfl,?_,rfl,_,rfl⟩;rw[O1 ex,aB c,bV];rfl
      ·refine⟨?_,rfl,_,rfl⟩;rw[O1 ex,aq c,u9]
    intro q3 hq3;obtain⟨rfl,rfl,_⟩:=p;rw[show List.take (X.map V.int).length X=X from Cd (by rw[aJ];exact aN _)];have z3:=aO hq3 (.lst ((X.filter fun h=>decide (h∈Y)).map V.int));refine⟨(by show 0<=sizeLine;decide),fun q4 hq4=> ?_⟩;have z4:=aO hq4 (.lst []);refine⟨_,_,rY (SqL.of (z4 _ _ aH)),.lst (SqL.of aH) .nil,j8 _,rfl,uw _ [],_,rfl,?_⟩;rw[nY];have Zw:=z3.trans z4;have ec:kY X Y= !decide ((X.filter fun h=>decide (h∈Y))=[]):=by
     unfold kY;rw[wA,Yn,YJ,wdc,ydy];constructor
     ·rintro⟨x,hx,z⟩ w;exact w x hx z
     ·intro w;exact QX fun z=>w fun x hx y=>z ⟨x,hx,y⟩
    have hg:(ts.take (i+1)).filter (fun p=>kY (R.getD p.1.toNat []) (R.getD p.2.toNat []))=(ts.take i).filter (fun p=>kY (R.getD p.1.toNat []) (R.getD p.2.toNat []))++(if kY X Y=true then[ts[i]]else[]):=by
     rw[O1 (gj hi),hX,hY]
    rw[<-ec];cases hc:kY X Y with
    |true=>
     refine iteT ?_;refine⟨_,rfl,⟨_,rfl,?_⟩,tH.trans Zw,_,rfl⟩;rw[hg,hc,aB rfl,bV];exact Tv (hv.same Zw) (.cons (.tup (Zw.tup ht4) (.cons (.int _) (.cons (.int _) .nil))) .nil)
    |false=>
     refine iteF ?_;refine⟨⟨_,rfl,?_⟩,tH.trans Zw,_,rfl⟩;rw[hg,hc,aq rN,u9];exact hv.same Zw
   intro q5 hq5;obtain⟨⟨us,rfl,hv⟩,tH,_⟩:=p;rw[Cd (by omega)]at hv;have z5:=aO hq5 (.lst acc);refine⟨(by show 0<=sizeLine;decide),fun q6 hq6=> ?_⟩;have z6:=aO hq6 (.lst []);refine⟨_,_,.lst (SqL.of (z6 _ _ aH)) (hv.same (z5.trans z6)),.lst (SqL.of aH) .nil,pR _,rfl,?_,?_⟩
   ·show min (PyData.list _).depth 1<=64;omega
   ·rw[vo];have:=qq _ (sm.trans (tH.trans (z5.trans z6)));rw[Ho hn hal]at this;have ef:decide ((ts.filter fun p=>kY (R.getD p.1.toNat []) (R.getD p.2.toNat []))=[])= !(ts.any fun p=>kY (R.getD p.1.toNat []) (R.getD p.2.toNat [])):=by
     rw[wA,wdg,ydy,YJ,Yp]
    rw[ef];exact this
 ·have e1:(!decide (V.int ((rs.length:Nat):Int)=V.int n))=true:=by
   rw[iY (fun z=>hn (by have:=V.int.inj z;omega))];rfl
  rw[e1];refine iteT ?_;have:=qq H (Same.refl _);rw[Hl hn]at this;exact this
theorem XR{xs:List V}{k:Int}(h0:0<=k)(h1:k<=(xs.length:Int)):cutV xs none (some k)=xs.take k.toNat:=by
 unfold cutV HT.sIx;simp only;rw[aq (by omega),Nat.sub_zero,wha,Yl (by omega)]
theorem XS{xs:List V}{k:Int}(h0:0<=k)(h1:k<=(xs.length:Int)):cutV xs (some k) none=xs.drop k.toNat:=by
 unfold cutV HT.sIx;simp only;rw[aq (by omega),Yl (by omega),Cd (by rw[T9];exact aN _)]
theorem Rt{X:Cx}{e m:Expr}{te:TE}{tm:TO}{p2 pos:Pos}(K:W.Frag)(he:PE X e te)(hm:PO X (some m) tm)(h:X.K=K:=by rfl):PE X (.Subscript e (.Slice none none (some m) p2) pos) (Ut K te tm):=by subst h;exact Wu he hm
def jU(K:W.Frag)(H:Hp)(x:V):Prop:=∃(p:Addr) (r:List Int),x= .ref p/\SqT K H p (r.map V.int)/\r.length<=40
theorem jU.same{H H':Hp}{x:V}(h:jU K H x)(s:Same H H'):jU K H' x:=by
 obtain⟨p,r,e,h,l⟩:=h;exact⟨p,r,e,s.tup h,l⟩
theorem Lx{H:Hp}:∀{rs:List V},(∀x∈rs,jU K H x)->∃R,dN K H rs R/\∀r∈R,r.length<=40
 |[],_=>⟨[],.nil,fun r hr=>(nomatch hr)⟩
 |x::rs,h=>by
  obtain⟨R,h1,h2⟩:=Lx (rs:=rs) fun y hy=>h y (dZ _ hy);obtain⟨p,r,e,hp,hl⟩:=h x dY;refine⟨r::R,.cons ⟨p,e,hp⟩ h1,fun q hq=> ?_⟩;rcases cF.mp hq with rfl|hq
  ·exact hl
  ·exact h2 q hq
theorem Ph{H:Hp}{rs:List V}{R:List (List Int)}(h:dN K H rs R)(Vl:∀r∈R,r.length<=40):∀x∈rs,jU K H x:=fun x hx=>by
 obtain⟨i,hi,rfl⟩:=Fz hx;obtain⟨r,hr,p,e,hp⟩:=Paired.at_ h (gj hi);exact⟨p,r,e,hp,Vl r (jq hr)⟩
def Vr(K:W.Frag)(f:Addr)(H:Hp)(x:V):Prop:=∃(l:Addr) (rs:List V),x= .ref l/\l≠f/\H l=some (.lst rs)/\(∀y∈rs,jU K H y)/\rs.length<=20
theorem Vr.same{f:Addr}{H H':Hp}{x:V}(h:Vr K f H x)(s:Same H H'):Vr K f H' x:=by
 obtain⟨l,rs,e,n,hl,hr,hz⟩:=h;exact⟨l,rs,e,n,s _ _ hl,fun y hy=>(hr y hy).same s,hz⟩
theorem Vr.put{f:Addr}{H:Hp}{x:V}{zs us:List V}(h:Vr K f H x)(e:H f=some (.lst zs)):Vr K f (upd H f (.lst us)) x:=by
 obtain⟨l,rs,e',n,hl,hr,hz⟩:=h;have sx:aD f H (upd H f (.lst us)):=(aD.refl _ _).upd;refine⟨l,rs,e',n,sx _ _ n hl,fun y hy=> ?_,hz⟩;obtain⟨p,r,ey,hp,hl'⟩:=hr y hy;exact⟨p,r,ey,sx.tup e hp,hl'⟩
theorem Vr.to{f f':Addr}{H:Hp}{x:V}(h:Vr K f H x)(n':H f'=none):Vr K f' H x:=by
 obtain⟨l,rs,e,n,hl,hr,hz⟩:=h;exact⟨l,rs,e,(fun z=>by rw[z,n']at hl;cases hl),hl,hr,hz⟩
structure FI(K:W.Frag)(H0 H:Hp)(f:Addr)(xs:List V)(N:Nat):Prop where
 sm:Same H0 H
 nf:H0 f=none
 at_:H f=some (.lst xs)
 all:∀x∈xs,Vr K f H x
 len:xs.length<=N
theorem FI.same{H0 H H':Hp}{f:Addr}{xs:List V}{N:Nat}(h:FI K H0 H f xs N)(s:Same H H'):FI K H0 H' f xs N:=
 ⟨h.sm.trans s,h.nf,s _ _ h.at_,fun x hx=>(h.all x hx).same s,h.len⟩
theorem FI.push{H0 H:Hp}{f:Addr}{xs:List V}{N:Nat}{x:V}(h:FI K H0 H f xs N)(v:Vr K f H x):FI K H0 (upd H f (.lst (xs++[x]))) f (xs++[x]) (N+1):=by
 refine⟨fun b o e=> ?_,h.nf,aH,fun y hy=> ?_,by rw[gB];have:=h.len;show _+1<=_;omega⟩
 ·rw[bU (fun z=>by rw[z,h.nf]at e;cases e)];exact h.sm _ _ e
 ·rcases g8.mp hy with hm|hm
  ·exact(h.all y hm).put h.at_
  ·rw[fL.mp hm];exact v.put h.at_
theorem FI.cat{H0 H:Hp}{f f':Addr}{xs ys:List V}{N:Nat}(h:FI K H0 H f xs N)(n:H f'=none)(v:∀y∈ys,Vr K f' H y):FI K H0 (upd H f' (.lst (xs++ys))) f' (xs++ys) (N+ys.length):=by
 have s:=aO n (.lst (xs++ys));refine⟨h.sm.trans s,?_,aH,fun y hy=> ?_,by rw[gB];have:=h.len;omega⟩
 ·cases e:H0 f' with
  |none=>rfl
  |some o=>rw[h.sm _ _ e]at n;cases n
 ·rcases g8.mp hy with hm|hm
  ·exact((h.all y hm).to n).same s
  ·exact(v y hm).same s
theorem jt{H:Hp}{f l:Addr}{rs:List V}(n:l≠f)(e:H l=some (.lst rs))(h:∀y∈rs,jU K H y)(hz:rs.length<=20):Vr K f H (.ref l):=⟨l,rs,rfl,n,e,h,hz⟩
theorem sE{xs:List V}{lo hi:Option Int}{x:V}(h:x∈cutV xs lo hi):x∈xs:=by
 unfold cutV at h;exact List.mem_of_mem_drop (List.mem_of_mem_take h)
theorem aaG{rs:List V}{a b c d:Option Int}{x y:V}(h:y∈cutV rs a b++[x]++cutV rs c d):y=x\/y∈rs:=by
 rcases g8.mp h with h|h
 ·rcases g8.mp h with h|h
  ·exact .inr (sE h)
  ·exact .inl (fL.mp h)
 ·exact .inr (sE h)
theorem slW{H:Hp}{l:Addr}{rs:List V}{lo hi:Option Int}{Q:VK}(hl:SqL K H l rs)(q:∀p H',Same H H'->H' p=some (.lst (cutV rs lo hi))->Q (.ref p) H'):rSlL K (.ref l) lo hi H Q:=⟨l,rs,rfl,hl,fun p hp=>q p _ (aO hp _) aH⟩
theorem slN{σ:St}{H:Hp}{l:Addr}{rs:List V}{lo:Option Int}{Q:VK}(hl:SqL K H l rs)(q:∀p H',Same H H'->H' p=some (.lst (cutV rs lo none))->Q (.ref p) H'):tNoPart σ H fun u G=>rSlL K (.ref l) lo u G Q:=slW hl q
theorem Em{H:Hp}{l b:Addr}{xs zs:List V}{Q:VK}(h1:H l=some (.lst xs))(h2:H b=some (.lst zs))(hx:xs.length<=100)(hz:zs.length<=100)(q:∀p H',Same H H'->H' p=some (.lst (xs++zs))->H p=none->Q (.ref p) H'):rCat (.ref l) (.ref b) H Q:=
 ⟨l,b,xs,zs,rfl,rfl,h1,h2,by rw[eE];omega,fun p hp=>q p _ (aO hp _) aH hp⟩
def U4(K:W.Frag):Sp:=fun vs H Q _=>∃(l:Addr) (rs:List V),vs=[.ref l]/\H l=some (.lst rs)/\(∀x∈rs,jU K H x)/\rs.length<=5/\
 ∀f xs H',Same H H'->H' f=some (.lst xs)->(∀x∈xs,Vr K f H' x)->xs.length<=2000->Q (.ref f) H'
theorem RT{f:Addr}{fd:τ}(F:Fun K "_law_aall" "_law_aall" lO f fd)(bA:mg "tuple"=none)(aL:mg "range"=none)(cB:mg "len"=none):
  FnOk P w K mg base CX0 1 f fd ["rows"] (U4 K):=by
 refine F.dM ["rows","found","more","at","k","hue","row"] fun cdv A outer s H vs Q E hr h=> ?_;obtain⟨l,rs,rfl,hl,he,h5,q⟩:=h;refine bf ?_;intro Y;refine⟨_,(aP (pS 1 (lE (aj (pv 0) (aj (lE aA) (aj (bJ yE (pv 0) (lE (aj (oF (aj aQ aA)) aA))) (aj (Rr (pv 0) (vD (pe_un un_neg aQ))) (aj (pK ["row"] [] [] (rG (pv 0)) (pG 0) qG (Rt K (pv 0) (vD (pe_un un_neg aQ)))) (aj (pK ["row"] [] [] (rG (pv 0)) (pG 0) qG (yH (zj K) (pv 0) (vD aQ) vC)) aA)))))))) (aP (u6 rM rfl (rG (lE (aj aQ (aj (bJ op_pow aQ aQ) aA)))) (pG 2) (bw (sH (pe_bm HY YS YQ mt_append (pv 1) (aj (pK ["row"] ["more"] [2] (rG (pv 0)) (pG 0) qG (pT (fY K) bA (aj (pK ["hue"] ["more"] [1] (zJ K (pv 0)) (pG 0) qG (bJ uU (pv 0) (pv 1))) aA))) aA))))) (aP (u6 rM rfl (Fp rfl aL (aj (pB yI cB (aj (pv 0) aA)) aA)) (pG 3) (aP (pS 1 (bJ yE (pv 1) (lE (aj (bJ yE (yH Kc (pv 0) vC (vD (pv 3))) (yH Kc (pv 0) (vD (bJ uU (pv 3) aQ)) vC)) (aj (bJ yE (yH Kc (pv 0) vC (vD (bJ uU (pv 3) aQ))) (yH Kc (pv 0) (vD (pv 3)) vC)) (aj (bJ yE (bJ yE (yH Kc (pv 0) vC (vD (pv 3))) (lE (aj (oF aA) aA))) (yH Kc (pv 0) (vD (bJ uU (pv 3) aQ)) vC)) aA)))))) (bw (u6 rM rfl (Fp rfl aL (aj (pB yI cB (aj (bR mZ (pv 0) (pv 3)) aA)) aA)) (pG 4) (bw (u6 rM rfl (rG (lE (aj aQ (aj aQ (aj aQ (aj aQ (aj (pe_un un_neg aQ) (aj aQ aA)))))))) (pG 5) (aP (pS 6 (bJ wU (bJ wU (yH m8 (bR mZ (pv 0) (pv 3)) vC (vD (pv 4))) (oF (aj (pv 5) aA))) (yH m8 (bR mZ (pv 0) (pv 3)) (vD (bJ uU (pv 4) aQ)) vC))) (bw (sH (pe_bm HY YS YQ mt_append (pv 1) (aj (bJ yE (bJ yE (yH Kc (pv 0) vC (vD (pv 3))) (lE (aj (pv 6) aA))) (yH Kc (pv 0) (vD (bJ uU (pv 3) aQ)) vC)) aA))))))))))) (bw (cT (pv 1)))))),?_⟩;refine N7 ?_;intro c4 c3 c2;have sq:∀{H':Hp},Same H H'->SqL K H' l rs:=fun s=>SqL.of (s _ _ hl);refine rP (fun σ' H'=>∃f xs,FI K H H' f xs 6/\σ'=[some (.ref l),some (.ref f),none,none,none,none,none]) (fun N hN=> ?_) ?_
 ·refine⟨_,rfl,(by show 0<=sizeLine;decide),fun e1 h1=> ?_⟩;have z1:=aO h1 (.lst []);refine⟨_,rfl,(by show 1<=sizeLine;decide),fun e2 h2=>⟨(by show 1<=sizeLine;decide),fun e3 h3=> ?_⟩⟩;have z2:=aO h2 (.tup [.int 0]);have z3:=aO h3 (.lst [.ref e2]);have Kh:=z1.trans (z2.trans z3);have f1:=(z2.trans z3) _ _ (aH (H:=H) (a:=e1) (o:= .lst []));have q2:=z3.tup (SqT.of (K:=K) (aH (H:=(upd H e1 (.lst []))) (a:=e2) (o:= .tup [.int 0])));refine Em (Kh _ _ hl) aH (by omega) (by show 1<=100;decide) fun e4 G4 z4 f4 h4=> ?_;have z14:=Kh.trans z4;refine⟨_,rfl,_,rfl,_,rfl,rfl,l,rs,rfl,sq z14,fun e5 h5=> ?_⟩;have z5:=aO h5 (.lst rs.reverse);have Yh:=z14.trans z5;have f1:=(z4.trans z5) _ _ f1;have q2:=(z4.trans z5).tup q2;have f4:=z5 _ _ f4;have f5:(upd G4 e5 (.lst rs.reverse)) e5=some (.lst rs.reverse):=aH;generalize (upd G4 e5 (.lst rs.reverse))=H5 at *;refine⟨_,rfl,l,rs,rfl,sq Yh,fun hz=> ?_⟩;let gq:Nat->List V->St->Hp->Prop:=fun i acc σ H'=>Same H5 H'/\(∀x∈acc,jU K H' x)/\acc.length=i/\∃o,σ=[o];refine Cm (xs:=rs) gq ⟨Same.refl _,fun x hx=>(nomatch hx),rfl,_,rfl⟩ (fun i acc σ H' _ p=>sq (Yh.trans p.1)) (fun i acc σ H' _ p=>by rw[p.2.2.1];exact aN _) hz (fun i x acc σ H' hx p=> ?_) (fun acc σ H' p=> ?_)
  ·obtain⟨sm,ha,hal,o,rfl⟩:=p;obtain⟨pp,r,rfl,hp,xK⟩:=he x (jq hx);refine⟨_,rfl,_,rfl,_,rfl,rfl,pp,_,rfl,(Yh.trans sm).tup hp,fun e6 h6=> ?_⟩;have z6:=aO h6 (.tup (r.map V.int).reverse);refine⟨sm.trans z6,fun y hy=> ?_,by rw[gB,hal];rfl,_,rfl⟩;rcases g8.mp hy with hm|hm
   ·exact(ha y hm).same z6
   ·rw[fL.mp hm];exact⟨e6,r.reverse,rfl,by rw[List.map_reverse];exact SqT.of aH,by rw[ZM];exact xK⟩
  intro e6 h6;obtain⟨sm,ha,hal,_⟩:=p;have z6:=sm.trans (aO h6 (.lst acc));have f6:(upd H' e6 (.lst acc)) e6=some (.lst acc):=aH;have g6:∀x∈acc,jU K (upd H' e6 (.lst acc)) x:=fun x hx=>(ha x hx).same (aO h6 _);generalize (upd H' e6 (.lst acc))=H6 at *;have z16:=Yh.trans z6;refine⟨_,rfl,l,rs,rfl,sq z16,fun hz=> ?_⟩;let qe:Nat->List V->St->Hp->Prop:=fun i acc σ H'=>Same H6 H'/\(∀x∈acc,jU K H' x)/\acc.length=i/\∃o,σ=[o];refine Cm (xs:=rs) qe ⟨Same.refl _,fun x hx=>(nomatch hx),rfl,_,rfl⟩ (fun i acc σ H' _ p=>sq (z16.trans p.1)) (fun i acc σ H' _ p=>by rw[p.2.2.1];exact aN _) hz (fun i x acc' σ H' hx p=> ?_) (fun acc' σ H' p=> ?_)
  ·obtain⟨sm',ha',aaX,o,rfl⟩:=p;obtain⟨pp,r,rfl,hp,xK⟩:=he x (jq hx);refine⟨_,rfl,_,rfl,pp,_,rfl,(z16.trans sm').tup hp,fun e7 G1 g1 c1=> ?_⟩;obtain⟨us,eu⟩:=Hr r (some 1) none;have hu:=Vw (r.map V.int) (some 1) none;rw[eu,aJ,aJ]at hu;rw[eu]at c1;refine⟨sm'.trans g1,fun y hy=> ?_,by rw[gB,aaX];rfl,_,rfl⟩;rcases g8.mp hy with hm|hm
   ·exact(ha' y hm).same g1
   ·rw[fL.mp hm];exact⟨e7,us,rfl,c1,by omega⟩
  intro e7 h7;obtain⟨sm',ha',aaX,_⟩:=p;have z7:=aO h7 (.lst acc');have f7:(upd H' e7 (.lst acc')) e7=some (.lst acc'):=aH;have g7:∀x∈acc',jU K (upd H' e7 (.lst acc')) x:=fun x hx=>(ha' x hx).same z7;have Vy:=sm'.trans z7;generalize (upd H' e7 (.lst acc'))=H7 at *;have Zx:=z16.trans Vy;refine⟨(by show 6<=sizeLine;decide),fun f hf=>hN _ _ ⟨f,_,⟨Zx.trans (aO hf _),?_,aH,?_,(by show 6<=6;decide)⟩,rfl⟩⟩
  ·cases e:H f with
   |none=>rfl
   |some o=>rw[Zx _ _ e]at hf;cases hf
  ·have ne:∀{b:Addr} {o:HO},H7 b=some o->b≠f:=fun{b o} e z=>by rw[z,hf]at e;cases e
   have zf:=aO hf (.lst [.ref l,.ref e1,.ref e4,.ref e5,.ref e6,.ref e7]);have k1:=(z6.trans Vy) _ _ f1;have k4:=(z6.trans Vy) _ _ f4;have k5:=(z6.trans Vy) _ _ f5;have k6:=Vy _ _ f6;have he7:∀x∈rs,jU K H7 x:=fun x hx=>(he x hx).same Zx;intro x hx;refine Vr.same ?_ zf;simp only[cF,QS,QT]at hx;rcases hx with rfl|rfl|rfl|rfl|rfl|rfl
   ·exact jt (ne (Zx _ _ hl)) (Zx _ _ hl) he7 (by omega)
   ·exact jt (ne k1) k1 (fun y hy=>(nomatch hy)) (by decide)
   ·refine jt (ne k4) k4 (fun y hy=> ?_) (by rw[gB];show _+1<=20;omega);rcases g8.mp hy with hm|hm
    ·exact he7 y hm
    ·rw[fL.mp hm];exact⟨e2,[0],rfl,(z6.trans Vy).tup q2,by decide⟩
   ·exact jt (ne k5) k5 (fun y hy=>he7 y (List.mem_reverse.mp hy)) (by rw[ZM];omega)
   ·exact jt (ne k6) k6 (fun y hy=>(g6 y hy).same Vy) (by omega)
   ·exact jt (ne f7) f7 g7 (by omega)
 rintro σ' H1 ⟨f,xs,fi,rfl⟩
 try dsimp only
 refine rP (fun σ' H'=>∃f xs o2,FI K H H' f xs 8/\σ'=[some (.ref l),some (.ref f),o2,none,none,none,none]) (fun N hN=> ?_) ?_
 ·refine⟨_,_,rfl,rfl,⟨by decide,by decide,by decide⟩,(by show 2<=sizeLine;decide),fun e1 h1=> ?_⟩;have z1:=aO h1 (.lst [.int 1,.int (10^(20:Int).toNat)]);have q1:(upd H1 e1 (.lst [.int 1,.int (10^(20:Int).toNat)])) e1=some (.lst ([1,10^(20:Int).toNat].map V.int)):=aH;have fi1:=fi.same z1;have nf1:e1≠f:=ug fi.at_ h1;generalize (upd H1 e1 (.lst [.int 1,.int (10^(20:Int).toNat)]))=H2 at *;refine⟨e1,_,rfl,SqL.of q1,fun hz=> ?_⟩;let JL:Nat->St->Hp->Prop:=fun i σ H'=>H' e1=some (.lst ([1,10^(20:Int).toNat].map V.int))/\∃xs o2,FI K H H' f xs (6+i)/\σ=[some (.ref l),some (.ref f),o2,none,none,none,none];refine QD (xs:=[1,10^(20:Int).toNat].map V.int) JL ⟨q1,xs,_,fi1,rfl⟩ (fun i σ H' _ p=>SqL.of p.1) (fun i x σ H' hx p=> ?_) (fun σ H' p=> ?_)
  ·obtain⟨q2,xs2,o2,fj,rfl⟩:=p;rw[dD]at hx;cases ex:([1,10^(20:Int).toNat]:List Int)[i]? with
   |none=>rw[ex]at hx;cases hx
   |some m=>
    rw[ex]at hx;cases hx;have i2:i<2:=(m6.mp ex).1;dsimp only[gName,List.set];refine⟨_,rfl,.inl ⟨rfl,_,SqL.of fj.at_⟩,_,rfl,l,rs,rfl,sq fj.sm,fun hz=> ?_⟩;let T4:Nat->List V->St->Hp->Prop:=fun i acc σ H3=>Same H' H3/\(∀x∈acc,jU K H3 x)/\acc.length=i/\∃o,σ=[o,some (.int m)];refine Cm (xs:=rs) T4 ⟨Same.refl _,fun x hx=>(nomatch hx),rfl,_,rfl⟩ (fun i acc σ H3 _ p=>sq (fj.sm.trans p.1)) (fun i acc σ H3 _ p=>by rw[p.2.2.1];exact aN _) hz (fun i x acc σ H3 hx p=> ?_) (fun acc σ H3 p=> ?_)
    ·obtain⟨sm,ha,hal,o,rfl⟩:=p;obtain⟨pp,r,rfl,hp,xK⟩:=he x (jq hx);have hp3:=(fj.sm.trans sm).tup hp;refine⟨_,rfl,pp,_,rfl,hp3,fun hz=> ?_⟩;let Pv5:Nat->List V->St->Hp->Prop:=fun k acc σ H4=>acc=((r.take k).map fun h=>h+m).map V.int/\H4=H3/\∃o,σ=[o,some (.int m)];refine JV (xs:=r.map V.int) Pv5 ⟨rfl,rfl,_,rfl⟩ (fun k acc σ H4 _ p=>by rw[p.2.1];exact hp3) (fun k acc σ H4 _ p=>by rw[p.1,aJ,aJ,m5];exact yJ _ _) hz (fun k x acc σ H4 hx p=> ?_) (fun acg σ H4 p=> ?_)
     ·obtain⟨rfl,rfl,o',rfl⟩:=p;rw[dD]at hx;cases ey:r[k]? with
      |none=>rw[ey]at hx;cases hx
      |some y=>
       rw[ey]at hx;cases hx;refine⟨_,rfl,_,rfl,_,_,rfl,rfl,?_,rfl,_,rfl⟩;rw[rK,ey,bV,bV];rfl
     intro e2 h2;obtain⟨rfl,rfl,_⟩:=p;rw[show List.take (r.map V.int).length r=r from Cd (by rw[aJ];exact aN _)];have z2:=aO h2 (.lst ((r.map fun h=>h+m).map V.int));refine⟨e2,_,rfl,.inl ⟨SqL.of aH,fun e3 h3=> ?_⟩⟩;have z3:=aO h3 (.tup ((r.map fun h=>h+m).map V.int));have z23:=z2.trans z3;refine⟨sm.trans z23,fun y hy=> ?_,by rw[gB,hal];rfl,_,rfl⟩;rcases g8.mp hy with hm|hm
     ·exact(ha y hm).same z23
     ·rw[fL.mp hm];exact⟨e3,r.map fun h=>h+m,rfl,SqT.of aH,by rw[aJ];exact xK⟩
    intro e2 h2;obtain⟨sm,ha,hal,_⟩:=p;have z2:=aO h2 (.lst acc);have s2:=sm.trans z2;have f2:(upd H3 e2 (.lst acc)) e2=some (.lst acc):=aH;have g2:∀x∈acc,jU K (upd H3 e2 (.lst acc)) x:=fun x hx=>(ha x hx).same z2;have fk:=fj.same s2;generalize (upd H3 e2 (.lst acc))=H4 at *;have n2:e2≠f:=fun z=>by rw[z]at h2;rw[sm _ _ fj.at_]at h2;cases h2
    refine⟨f,xs2,.ref e2,rfl,rfl,fk.at_,by have:=fk.len;rw[eE];omega,?_⟩;refine⟨?_,_,_,fk.push (jt n2 f2 g2 (by omega)),rfl⟩;rw[bU nf1];exact s2 _ _ q2
  ·obtain⟨q2,xs2,o2,fj,rfl⟩:=p;exact hN _ _ ⟨f,xs2,o2,fj,rfl⟩
 rintro σ' H2 ⟨f,xs,o2,fi,rfl⟩
 try dsimp only
 refine⟨_,rfl,l,_,rfl,.inl (sq fi.sm),fun _=>⟨_,rfl,by omega,by omega,?_⟩⟩;let Pv6:Nat->St->Hp->Prop:=fun i σ H'=>∃f xs a3 a4 a5 a6,FI K H H' f xs (8+243*i)/\σ=[some (.ref l),some (.ref f),o2,a3,a4,a5,a6];refine Qn (n:=rs.length) Pv6 ⟨f,xs,_,_,_,_,fi,rfl⟩ (fun i σ H' hi p=> ?_) (fun σ H' p=> ?_)
 ·obtain⟨f,xs,a3,a4,a5,a6,fi,rfl⟩:=p;dsimp only[gName,List.set];have s0:=fi.sm;have hin:∀{b:Option Int} {c d e:Option Int} {y:V} {jm:Hp},Same H jm->y∈cutV rs b c++cutV rs d e->jU K jm y:=fun{b c d e y jm} s hy=>by
   rcases g8.mp hy with hm|hm
   ·exact(he y (sE hm)).same s
   ·exact(he y (sE hm)).same s
  have cl:∀b c:Option Int,(cutV rs b c).length<=5:=fun b c=>by have:=Vw rs b c;omega
  have ch:∀b c:Option Int,(cutV rs b c).length<=100:=fun b c=>by have:=cl b c;omega
  refine rP (fun σ' H'=>∃f xs,FI K H H' f xs (8+243*i+3)/\σ'=[some (.ref l),some (.ref f),o2,some (.int (0+(i:Int))),a4,a5,a6]) (fun N hN=> ?_) ?_
  ·refine⟨_,rfl,_,rfl,_,rfl,_,rfl,slW (sq s0) fun e1 G1 z1 f1=> ?_⟩;refine⟨_,rfl,_,rfl,_,_,rfl,rfl,_,rfl,slN (sq (s0.trans z1)) fun e2 G2 z2 f2=> ?_⟩;refine Em (z2 _ _ f1) f2 (ch _ _) (ch _ _) fun e3 H3 z3 f3 _=> ?_;have s3:=z1.trans (z2.trans z3);have s03:=s0.trans s3;refine⟨_,rfl,_,rfl,_,_,rfl,rfl,_,rfl,slW (sq s03) fun e4 G4 z4 f4=> ?_⟩;refine⟨_,rfl,_,rfl,_,rfl,slN (sq (s03.trans z4)) fun e5 G5 z5 f5=> ?_⟩;refine Em (z5 _ _ f4) f5 (ch _ _) (ch _ _) fun e6 H6 z6 f6 _=> ?_;have s6:=z4.trans (z5.trans z6);have s06:=s03.trans s6;refine⟨_,rfl,_,rfl,_,rfl,slW (sq s06) fun e7 G7 z7 f7=> ?_⟩;refine⟨(by show 0<=sizeLine;decide),fun e8 h8=>⟨(by show 1<=sizeLine;decide),fun e9 h9=> ?_⟩⟩;have z8:=aO h8 (.tup []);have z9:=aO h9 (.lst [.ref e8]);have q8:=z9.tup (SqT.of (K:=K) (aH (H:=G7) (a:=e8) (o:= .tup [])));refine Em ((z8.trans z9) _ _ f7) aH (ch _ _) (by show 1<=100;decide) fun e10 Zm z10 f10 _=> ?_;have q8:=z10.tup q8;have Rj:=z7.trans (z8.trans (z9.trans z10));have aal:=s06.trans Rj;refine⟨_,rfl,_,rfl,_,_,rfl,rfl,_,rfl,slN (sq aal) fun e11 G11 z11 f11=> ?_⟩;refine Em (z11 _ _ f10) f11 (by have:=cl none (some (0+(i:Int)));rw[gB];show _+1<=100;omega) (ch _ _) fun e12 H12 HD f12 _=> ?_;have s12:=z11.trans HD;have Dg:=aal.trans s12;refine⟨(by show 3<=sizeLine;decide),fun e13 h13=> ?_⟩;have Kh:=aO h13 (.lst [.ref e3,.ref e6,.ref e12]);have abA:=s3.trans (s6.trans (Rj.trans (s12.trans Kh)));have fj:=fi.same abA;refine⟨f,e13,_,_,rfl,rfl,fj.at_,aH,by have:=fj.len;rw[eE];show xs.length+3<=_;omega,fun f' hf'=>hN _ _ ⟨f',xs++[.ref e3,.ref e6,.ref e12],?_,rfl⟩⟩;have ne:∀{b:Addr} {o:HO},(upd H12 e13 (.lst [.ref e3,.ref e6,.ref e12])) b=some o->b≠f':=fun{b o} e z=>by rw[z,hf']at e;cases e
   have k3:=(s6.trans (Rj.trans (s12.trans Kh))) _ _ f3;have k6:=(Rj.trans (s12.trans Kh)) _ _ f6;have k12:=Kh _ _ f12;have Wi:=Dg.trans Kh;refine fj.cat (ys:=[.ref e3,.ref e6,.ref e12]) hf' fun y hy=> ?_;simp only[cF,QS,QT]at hy;rcases hy with rfl|rfl|rfl
   ·exact jt (ne k3) k3 (fun y hy=>hin Wi hy) (by have:=cl none (some (0+(i:Int)));have:=cl (some (0+(i:Int)+1)) none;rw[gB];omega)
   ·exact jt (ne k6) k6 (fun y hy=>hin Wi hy) (by have:=cl none (some (0+(i:Int)+1));have:=cl (some (0+(i:Int))) none;rw[gB];omega)
   ·refine jt (ne k12) k12 (fun y hy=> ?_) (by have:=cl none (some (0+(i:Int)));have:=cl (some (0+(i:Int)+1)) none;rw[gB,gB];show _+1+_<=20;omega);rcases aaG hy with rfl|hm
    ·exact⟨e8,[],rfl,(s12.trans Kh).tup q8,by decide⟩
    ·exact(he y hm).same Wi
  rintro σ' H3 ⟨f,xs,fi,rfl⟩
  try dsimp only
  obtain⟨pp,r,er,hp,xK⟩:=he rs[i] (Ko hi);have eat:atI rs (0+(i:Int))=some (.ref pp):=by
   have:=atI_nat (xs:=rs) (j:=i) (v:= .ref pp) (by rw[gj hi,er])
   rwa [Yk]
  refine⟨_,rfl,_,rfl,l,_,_,.ref pp,rfl,rfl,sq fi.sm,eat,pp,_,rfl,.inr (fi.sm.tup hp),fun _=>⟨_,rfl,by omega,by rw[aJ];omega,?_⟩⟩;rw[aJ];let Pv7:Nat->St->Hp->Prop:=fun k σ H'=>∃f xs a4 a5 a6,FI K H H' f xs (8+243*i+3+6*k)/\σ=[some (.ref l),some (.ref f),o2,some (.int (0+(i:Int))),a4,a5,a6];refine Qn (n:=r.length) Pv7 ⟨f,xs,_,_,_,fi,rfl⟩ (fun k σ H' hk p=> ?_) (fun σ H' p=> ?_)
  ·obtain⟨f,xs,a4,a5,a6,fi,rfl⟩:=p;refine⟨_,rfl,(by show 6<=sizeLine;decide),fun e1 h1=> ?_⟩;have z1:=aO h1 (.lst ([0,1,2,3, -1,50].map V.int));have q1:(upd H' e1 (.lst ([0,1,2,3, -1,50].map V.int))) e1=some (.lst ([0,1,2,3, -1,50].map V.int)):=aH;have nf1:e1≠f:=ug fi.at_ h1;have fi1:=fi.same z1;refine⟨e1,_,rfl,SqL.of q1,fun hz=> ?_⟩;let Pv8:Nat->St->Hp->Prop:=fun j σ H'=>H' e1=some (.lst ([0,1,2,3, -1,50].map V.int))/\∃xs a5 a6,FI K H H' f xs (8+243*i+3+6*k+j)/\σ=[some (.ref l),some (.ref f),o2,some (.int (0+(i:Int))),some (.int (0+(k:Int))),a5,a6];refine QD (xs:=[0,1,2,3, -1,50].map V.int) Pv8 ⟨q1,xs,_,_,fi1,rfl⟩ (fun j σ H' _ p=>SqL.of p.1) (fun j x σ H4 hx p=> ?_) (fun σ H4 p=> ?_)
   ·obtain⟨q2,xs2,a5,a6,fj,rfl⟩:=p;rw[dD]at hx;cases ex:([0,1,2,3, -1,50]:List Int)[j]? with
    |none=>rw[ex]at hx;cases hx
    |some m=>
     rw[ex]at hx;cases hx;have j6:j<6:=(m6.mp ex).1;dsimp only[gName,List.set];have Y6:=fj.sm.tup hp;refine⟨_,rfl,_,rfl,l,_,_,.ref pp,rfl,rfl,sq fj.sm,eat,_,rfl,_,rfl,pp,_,rfl,Y6,fun b1 G1 g1 c1=> ?_⟩;refine⟨_,rfl,(by show 1<=sizeLine;decide),fun b2 hb2=> ?_⟩;have y2:=aO hb2 (.tup [.int m]);have e4:cutV (r.map V.int) none (some (0+(k:Int)))=(r.map V.int).take k:=by
      rw[XR (by omega) (by rw[aJ];omega)];congr 1;omega
     have e5:cutV (r.map V.int) (some (0+(k:Int)+1)) none=(r.map V.int).drop (k+1):=by
      rw[XS (by omega) (by rw[aJ];omega)];congr 1;omega
     rw[e4]at c1;refine⟨b1,b2,_,_,rfl,rfl,y2.tup c1,SqT.of aH,by rw[m5,aJ,eE];show _+1<=_;omega,fun b3 G3 g3 c3=> ?_⟩;have Uu:=g1.trans (y2.trans g3);refine⟨_,rfl,_,rfl,l,_,_,.ref pp,rfl,rfl,sq (fj.sm.trans Uu),eat,_,rfl,_,_,rfl,rfl,_,rfl,pp,_,rfl,Uu.tup Y6,fun b4 G4 g4 c4=> ?_⟩;rw[e5]at c4;refine⟨b3,b4,_,_,rfl,rfl,g4.tup c3,c4,by rw[gB,m5,T9,aJ,eE];show _+1+_<=_;omega,fun b5 G5 g5 c5=> ?_⟩;have t15:=Uu.trans (g4.trans g5);have fk:=fj.same t15;have er5:(r.map V.int).take k++[V.int m]++(r.map V.int).drop (k+1)=(r.take k++[m]++r.drop (k+1)).map V.int:=by
      rw[bV,bV,wfx,whk];rfl
     rw[er5]at c5;have l5:(r.take k++[m]++r.drop (k+1)).length<=40:=by
      rw[gB,gB,m5,T9];show min k r.length+1+_<=40;omega
     dsimp only[gName,List.set];have s5:=fk.sm;refine⟨_,rfl,.inl ⟨rfl,_,SqL.of fk.at_⟩,_,rfl,_,rfl,_,rfl,slW (sq s5) fun d1 D1' y1 f1=> ?_⟩;refine⟨_,rfl,(by show 1<=sizeLine;decide),fun d2 hd2=> ?_⟩;have y2':=aO hd2 (.lst [.ref b5]);refine Em (y2' _ _ f1) aH (ch _ _) (by show 1<=100;decide) fun d3 D3' y3 f3 _=> ?_;have u3:=y1.trans (y2'.trans y3);refine⟨_,rfl,_,rfl,_,_,rfl,rfl,_,rfl,slN (sq (s5.trans u3)) fun d4 D4' y4 f4=> ?_⟩;refine Em (y4 _ _ f3) f4 (by have:=cl none (some (0+(i:Int)));rw[gB];show _+1<=100;omega) (ch _ _) fun d5 D5' y5 f5 hd5=> ?_;have u5:=u3.trans (y4.trans y5);have fm:=fk.same u5;have sm5:=fm.sm;have nd:d5≠f:=fun z=>by rw[z]at hd5;rw[(u3.trans y4) _ _ fk.at_]at hd5;cases hd5
     refine⟨f,xs2,.ref d5,rfl,rfl,fm.at_,by have:=fm.len;rw[eE];omega,?_⟩;refine⟨?_,_,_,_,fm.push (jt nd f5 (fun y hy=> ?_) (by have:=cl none (some (0+(i:Int)));have:=cl (some (0+(i:Int)+1)) none;rw[gB,gB];show _+1+_<=20;omega)),rfl⟩
     ·rw[bU nf1];exact(t15.trans u5) _ _ q2
     ·rcases aaG hy with rfl|hm
      ·exact⟨b5,_,rfl,u5.tup c5,l5⟩
      ·exact(he y hm).same sm5
   ·obtain⟨q2,xs2,a5,a6,fj,rfl⟩:=p;exact⟨f,xs2,_,_,_,fj,rfl⟩
  ·obtain⟨f,xs,a4,a5,a6,fi,rfl⟩:=p;exact⟨f,xs,_,_,_,_,⟨fi.sm,fi.nf,fi.at_,fi.all,by have:=fi.len;omega⟩,rfl⟩
 ·obtain⟨f,xs,a3,a4,a5,a6,fi,rfl⟩:=p;exact⟨_,rfl,q f xs H' fi.sm fi.at_ fi.all (by have:=fi.len;omega)⟩
abbrev ER(C:Addr)(H:Hp)(E:XK):Prop:=∀e H',Same H H'->H' e=none->E (.ref e) (some C) (upd H' e (ql e C))
theorem aaA{b:Bool}(h:(!b)=true):b=false:=by cases b<;>first |rfl|cases h
theorem aaB{b:Bool}(h:¬(!b)=true):b=true:=by cases b<;>first |rfl|exact absurd rfl h
def sX(K:W.Frag)(C:Addr):Sp:=fun vs H Q E=>∃(x:V) (d:θ),vs=[x]/\DX K H x d/\(iG d=true->∀H',Same H H'->Q .non H')/\(iG d=false->ER C H E)
theorem zM{f f1:Addr}{fd d1:τ}{C:Addr}{bmB:List ζ}{B newId initId:String}(F:Fun K "need_web" "need_web" Kg f fd)(D1:bQ K mg "is_web" nA ["thing"] f1 d1)(G1:FnOk P w K mg base CX0 6 f1 d1 ["thing"] (K1 K))
  (FB:ExcBaseFacts B newId initId bmB)(mC:mg "NoWeb"=some (.ref C))(qC:PySem.W.excIn K C bmB newId=true):
  FnOk P w K mg base (sG P w) 7 f fd ["thing"] (sX K C):=by
 refine F.aaz ["thing"] fun cdv A outer s H vs Q E hr h=> ?_;obtain⟨x,d,rfl,hx,q,qx⟩:=h;refine⟨_,(bw (qW (yF (yG (pc G1 hr D1 (aj (pv 0) aA)))) (bw (zG FB mC qC (aj pe_str aA) rfl)) qX)),?_⟩;refine⟨_,rfl,x,d,rfl,hx,fun H' sm=>⟨_,rfl,?_⟩⟩;exact ite2 (fun c=>⟨by decide,fun e he=>qx (aaA c) e H' sm he⟩) (fun c=>q (aaB c) H' sm)
structure Kinds(K:W.Frag)(cs:List Addr)(C:Addr)(bs:List Bool):Prop where
 ok:qm K C
 one:PySem.W.kitOne K (.ref C) (.type "ValueError")=some true
 len:cs.length=9
 get:∀(i:Nat) (c:Addr),cs[i]? =some c->∃b,bs[i]? =some b/\PySem.W.kitOne K (.ref C) (.ref c)=some b
 aaL:bs.length=9
theorem Aa{c0 c1 c2 c3 c4 c5 c6 c7 c8 C:Addr}{b0 b1 b2 b3 b4 b5 b6 b7 b8:Bool}(ok:qm K C)(one:PySem.W.kitOne K (.ref C) (.type "ValueError")=some true)(k0:PySem.W.kitOne K (.ref C) (.ref c0)=some b0)(k1:PySem.W.kitOne K (.ref C) (.ref c1)=some b1)(k2:PySem.W.kitOne K (.ref C) (.ref c2)=some b2)(k3:PySem.W.kitOne K (.ref C) (.ref c3)=some b3)(k4:PySem.W.kitOne K (.ref C) (.ref c4)=some b4)(k5:PySem.W.kitOne K (.ref C) (.ref c5)=some b5)(k6:PySem.W.kitOne K (.ref C) (.ref c6)=some b6)(k7:PySem.W.kitOne K (.ref C) (.ref c7)=some b7)(k8:PySem.W.kitOne K (.ref C) (.ref c8)=some b8):
  Kinds K [c0,c1,c2,c3,c4,c5,c6,c7,c8] C [b0,b1,b2,b3,b4,b5,b6,b7,b8]:=
 ⟨ok,one,rfl,(fun i c e=>by
  match i,e with
  |0,e=>cases e;exact⟨_,rfl,k0⟩
  |1,e=>cases e;exact⟨_,rfl,k1⟩
  |2,e=>cases e;exact⟨_,rfl,k2⟩
  |3,e=>cases e;exact⟨_,rfl,k3⟩
  |4,e=>cases e;exact⟨_,rfl,k4⟩
  |5,e=>cases e;exact⟨_,rfl,k5⟩
  |6,e=>cases e;exact⟨_,rfl,k6⟩
  |7,e=>cases e;exact⟨_,rfl,k7⟩
  |8,e=>cases e;exact⟨_,rfl,k8⟩
  |_+9,e=>cases e),rfl⟩
def Yc(d:θ):Prop:=oN d=false\/∃i:Int,d= .int i/\i<1
def tD(K:W.Frag)(CW CN:Addr):Sp:=fun vs H Q E=>∃(x y z:V) (dx dy:θ),vs=[x,y,z]/\DX K H x dx/\DX K H y dy/\Yc dy/\ER (if iG dx=true then CN else CW) H E
theorem zO{f f1 f2 CW CN:Addr}{fd d1 d2:τ}{bmB:List ζ}{B newId initId:String}(F:Fun K "are_rows" "are_rows" fU f fd)(D1:bQ K mg "need_web" Kg ["thing"] f1 d1)(X1:FnOk P w K mg base (sG P w) 7 f1 d1 ["thing"] (sX K CW))(D2:bQ K mg "is_whole" QH ["thing"] f2 d2)(G2:FnOk P w K mg base CX0 1 f2 d2 ["thing"] (gD K))
  (FB:ExcBaseFacts B newId initId bmB)(mC:mg "NoNumber"=some (.ref CN))(qC:PySem.W.excIn K CN bmB newId=true):
  FnOk P w K mg base (sG P w) 8 f fd ["web","b","rows"] (tD K CW CN):=by
 refine F.aaz ["web","b","rows"] fun cdv A outer s H vs Q E hr h=> ?_;obtain⟨x,y,z,dx,dy,rfl,hx,hy,hb,q⟩:=h;refine⟨_,(aP (sH (pe_call X1 hr rfl D1.m D1.F.kp D1.b .nil aaw (aj (pv 0) aA))) (aP (qW (PW.pt (pw_or (yF (yG (pc G2 hr D2 (aj (pv 1) aA)))) (pw_or1 (jg op_lt (pv 1) aQ)))) (bw (zG FB mC qC (aj pe_str aA) rfl)) qX) Vv)),?_⟩;refine⟨_,rfl,x,dx,rfl,hx,fun ok H1 s1=> ?_,fun no=> ?_⟩
 ·rw[aB ok]at q;refine⟨_,rfl,y,dy,rfl,hy.same s1,_,rfl,?_⟩;rcases hb with hw|⟨i,rfl,hi⟩
  ·rw[hw];exact iteT ⟨(by show 1<=16;decide),fun e he=>q e H1 s1 he⟩
  ·cases hy;refine iteF ?_;refine⟨_,rfl,_,_,rfl,rfl,_,rfl,?_⟩;rw[fD hi];exact iteT ⟨(by show 1<=16;decide),fun e he=>q e H1 s1 he⟩
 ·rw[aq (by rw[no];exact rN)]at q;exact q
noncomputable def oneAt(i:Nat):List Bool:=(List.range 9).map fun k=>decide (i=k)
noncomputable def Gq(K:W.Frag):Sp:=fun vs H Q _=>∃(x y:V) (dx dy:θ),vs=[x,y]/\DX K H x dx/\DX K H y dy/\Yc dy/\∀H',Same H H'->Q (.str (if iG dx=true then"number" else"web")) H'
theorem Lr:FnScope ["web","b","caught","e","some"] ["web","b"] (defScope gF):=fsc
theorem Mw{f f1 D aM au dJ cM fK dI fJ cJ cI:Addr}{fd d1:τ}(F:Fun K "_law_akind" "_law_akind" gF f fd)(D1:bQ K mg "are_rows" fU ["web","b","rows"] f1 d1)(X1:FnOk P w K mg base (sG P w) 8 f1 d1 ["web","b","rows"] (tD K aM au))(lY:mg "HueError"=some (.ref D))(hw:PySem.W.exmOne K (.ref aM) (.ref D)=some true)(hn:PySem.W.exmOne K (.ref au) (.ref D)=some true)(kw:Kinds K [aM,au,dJ,cM,fK,dI,fJ,cJ,cI] aM (oneAt 0))(kn:Kinds K [aM,au,dJ,cM,fK,dI,fJ,cJ,cI] au (oneAt 1))(aG:mg "isinstance"=none)(rW:mg "NoWeb"=some (.ref aM))(iT:mg "NoNumber"=some (.ref au))(uq:mg "NoFold"=some (.ref dJ))(pO:mg "NoPlace"=some (.ref cM))(xG:mg "NoRow"=some (.ref fK))(uo:mg "NoText"=some (.ref dI))(xr:mg "NoTie"=some (.ref fJ))(pL:mg "NoWants"=some (.ref cJ))(pH:mg "TooMany"=some (.ref cI))(xq:mg "ValueError"=none)(lB:mg "min"=none):
  FnOk P w K mg base CX0 9 f fd ["web","b"] (Gq K):=by
 refine F.dM ["web","b","caught","e","some"] fun cdv A outer s H vs Q E hr h=> ?_;obtain⟨x,y,dx,dy,rfl,hx,hy,hb,q⟩:=h;refine bf ?_;intro Y;refine⟨_,(aP (pS 2 pe_non) (aP (Rq (i:=3) rfl rfl X1 hr rfl D1.m D1.F.kp D1.b (aj (pv 0) (aj (pv 1) (aj (lE aA) aA))) rfl lY Lr.nd rfl rfl (fun e=>(bw (pS 2 (pv 3))))) (aP (pS 4 (lE (aj (pB QF aG (aj (pv 2) (aj (Hw rfl rW (v:= .ref aM) rfl) aA))) (aj (pB QF aG (aj (pv 2) (aj (Hw rfl iT (v:= .ref au) rfl) aA))) (aj (pB QF aG (aj (pv 2) (aj (Hw rfl uq (v:= .ref dJ) rfl) aA))) aA))))) (aP (pS 4 (bJ yE (pv 4) (lE (aj (pB QF aG (aj (pv 2) (aj (Hw rfl pO (v:= .ref cM) rfl) aA))) (aj (pB QF aG (aj (pv 2) (aj (Hw rfl xG (v:= .ref fK) rfl) aA))) (aj (pB QF aG (aj (pv 2) (aj (Hw rfl uo (v:= .ref dI) rfl) aA))) aA)))))) (aP (sH (pe_bm HY YS YQ mt_append (pv 4) (aj (pB QF aG (aj (pv 2) (aj (Hw rfl xr (v:= .ref fJ) rfl) aA))) aA))) (aP (pS 4 (bJ yE (pv 4) (lE (aj (pB QF aG (aj (pv 2) (aj (Hw rfl pL (v:= .ref cJ) rfl) aA))) (aj (pB QF aG (aj (pv 2) (aj (Hw rfl pH (v:= .ref cI) rfl) aA))) aA))))) (aP (qW (PW.pt (pw_or (jg op_ne (pe_bm HY PySem.F.slot_list_count PySem.F.type_list_count MK (pv 4) (aj pe_bl aA)) aQ) (pw_or1 (yF (yG (pB JH aG (aj (pv 2) (aj (pN "ValueError" xq) aA)))))))) (bw (cT pe_str)) qX) (bw (cT (bR mZ (lE (aj pe_str (aj pe_str (aj pe_str aA)))) (pB (call_min2 rfl) lB (aj aQ (aj (pe_bm HY wce wcf MJ (pv 4) (aj pe_bl aA)) aA))))))))))))),?_⟩;refine Vk ?_;intro c8 c7 c6 c5 c4 c3 c2;refine⟨_,rfl,_,rfl,(by show 0<=sizeLine;decide),fun e0 h0=> ?_⟩;have z0:=aO h0 (.lst []);refine⟨x,y,.ref e0,dx,dy,rfl,hx.same z0,hy.same z0,hb,?_⟩;obtain⟨C,j,hC,kC,xC,hj⟩:∃C j,C=(if iG dx=true then au else aM)/\Kinds K [aM,au,dJ,cM,fK,dI,fJ,cJ,cI] C (oneAt j)/\PySem.W.exmOne K (.ref C) (.ref D)=some true/\j=(if iG dx=true then 1 else 0):=by
  by_cases c:iG dx=true
  ·exact⟨au,1,by rw[aB c],kn,hn,by rw[aB c]⟩
  ·exact⟨aM,0,by rw[aq c],kw,hw,by rw[aq c]⟩
 rw[<-hC];refine fun e H5 s5 he=>⟨e,C,rfl,rfl,xC,_,rfl,?_⟩;have s6:=aO he (ql e C);have A:(upd H5 e (ql e C)) e=some (ql e C):=aH;have s06:=z0.trans (s5.trans s6);generalize (upd H5 e (ql e C))=H6 at *;have ok:=kC.ok;obtain⟨b0,e0x,k0⟩:=kC.get 0 _ rfl;obtain⟨b1,e1x,k1⟩:=kC.get 1 _ rfl;obtain⟨b2,e2x,k2⟩:=kC.get 2 _ rfl;obtain⟨b3,e3x,k3⟩:=kC.get 3 _ rfl;obtain⟨b4,e4x,k4⟩:=kC.get 4 _ rfl;obtain⟨b5,e5x,k5⟩:=kC.get 5 _ rfl;obtain⟨b6,e6x,k6⟩:=kC.get 6 _ rfl;obtain⟨b7,e7x,k7⟩:=kC.get 7 _ rfl;obtain⟨b8,e8x,k8⟩:=kC.get 8 _ rfl;have hbs:oneAt j=[b0,b1,b2,b3,b4,b5,b6,b7,b8]:=by
  refine Yo fun i=> ?_;by_cases hi:i<9
  ·match i,hi with
   |0,_=>exact e0x
   |1,_=>exact e1x
   |2,_=>exact e2x
   |3,_=>exact e3x
   |4,_=>exact e4x
   |5,_=>exact e5x
   |6,_=>exact e6x
   |7,_=>exact e7x
   |8,_=>exact e8x
  ·rw[JX (by have:=kC.aaL;omega),JX (by show 9<=i;omega)]
 dsimp only[gName,List.set];refine⟨_,rfl,e,C,_,b0,rfl,A,ok,k0,_,rfl,e,C,_,b1,rfl,A,ok,k1,_,rfl,e,C,_,b2,rfl,A,ok,k2,(by show 3<=sizeLine;decide),fun l hl=> ?_⟩;have s7:=aO hl (.lst [.bl b0,.bl b1,.bl b2]);have A:=s7 _ _ A;refine⟨_,rfl,_,rfl,e,C,_,b3,rfl,A,ok,k3,_,rfl,e,C,_,b4,rfl,A,ok,k4,_,rfl,e,C,_,b5,rfl,A,ok,k5,(by show 3<=sizeLine;decide),fun l2 hl2=> ?_⟩;have s8:=aO hl2 (.lst [.bl b3,.bl b4,.bl b5]);refine⟨l,l2,_,_,rfl,rfl,s8 _ _ aH,aH,(by show 6<=sizeLine;decide),fun l3 hl3=> ?_⟩;have s9:=aO hl3 (.lst ([.bl b0,.bl b1,.bl b2]++[.bl b3,.bl b4,.bl b5]));have A:=s9 _ _ (s8 _ _ A);have s69:=s7.trans (s8.trans s9);have f3:(upd (upd (upd H6 l (.lst [.bl b0,.bl b1,.bl b2])) l2 (.lst [.bl b3,.bl b4,.bl b5])) l3 (.lst ([.bl b0,.bl b1,.bl b2]++[.bl b3,.bl b4,.bl b5]))) l3=some (.lst [.bl b0,.bl b1,.bl b2,.bl b3,.bl b4,.bl b5]):=aH;have n3:H6 l3=none:=by
  cases eq:H6 l3 with
  |none=>rfl
  |some o=>rw[(s7.trans s8) _ _ eq]at hl3;cases hl3
 generalize (upd (upd (upd H6 l (.lst [.bl b0,.bl b1,.bl b2])) l2 (.lst [.bl b3,.bl b4,.bl b5])) l3 (.lst ([.bl b0,.bl b1,.bl b2]++[.bl b3,.bl b4,.bl b5])))=H9 at *;dsimp only[gName,List.set];refine⟨_,rfl,.inl ⟨rfl,_,SqL.of f3⟩,_,rfl,e,C,_,b6,rfl,A,ok,k6,l3,_,.bl b6,rfl,rfl,f3,(by show 6<sizeLine;decide),?_⟩;have sx:aD l3 H9 (upd H9 l3 (.lst ([.bl b0,.bl b1,.bl b2,.bl b3,.bl b4,.bl b5]++[.bl b6]))):=(aD.refl _ _).upd;have n3e:e≠l3:=fun z=>by rw[z,f3]at A;cases A
 have A:=sx _ _ n3e A;have f4:(upd H9 l3 (.lst ([.bl b0,.bl b1,.bl b2,.bl b3,.bl b4,.bl b5]++[.bl b6]))) l3=some (.lst [.bl b0,.bl b1,.bl b2,.bl b3,.bl b4,.bl b5,.bl b6]):=aH;have Rj:Same H6 (upd H9 l3 (.lst ([.bl b0,.bl b1,.bl b2,.bl b3,.bl b4,.bl b5]++[.bl b6]))):=fun b o eb=>sx _ _ (fun z=>by rw[z,n3]at eb;cases eb) (s69 _ _ eb);generalize (upd H9 l3 (.lst ([.bl b0,.bl b1,.bl b2,.bl b3,.bl b4,.bl b5]++[.bl b6])))=Zm at *;refine⟨_,rfl,_,rfl,e,C,_,b7,rfl,A,ok,k7,_,rfl,e,C,_,b8,rfl,A,ok,k8,(by show 2<=sizeLine;decide),fun l4 DW=> ?_⟩;have s11:=aO DW (.lst [.bl b7,.bl b8]);refine⟨l3,l4,_,_,rfl,rfl,s11 _ _ f4,aH,(by show 9<=sizeLine;decide),fun l5 Y7=> ?_⟩;have s12:=aO Y7 (.lst ([.bl b0,.bl b1,.bl b2,.bl b3,.bl b4,.bl b5,.bl b6]++[.bl b7,.bl b8]));have A:=s12 _ _ (s11 _ _ A);have f5:(upd (upd Zm l4 (.lst [.bl b7,.bl b8])) l5 (.lst ([.bl b0,.bl b1,.bl b2,.bl b3,.bl b4,.bl b5,.bl b6]++[.bl b7,.bl b8]))) l5=some (.lst ((oneAt j).map V.bl)):=by rw[hbs];exact aH
 have aak:=Rj.trans (s11.trans s12);generalize (upd (upd Zm l4 (.lst [.bl b7,.bl b8])) l5 (.lst ([.bl b0,.bl b1,.bl b2,.bl b3,.bl b4,.bl b5,.bl b6]++[.bl b7,.bl b8])))=H12 at *;dsimp only[gName,List.set];have j1:j=0\/j=1:=by rw[hj];split;exact .inr rfl;exact .inl rfl
 have abQ:(oneAt j).countP id=1:=by rcases j1 with rfl|rfl<;>rfl
 have hat:(oneAt j)[j]? =some true:=by rcases j1 with rfl|rfl<;>rfl
 have abR:∀m,m<j->(oneAt j)[m]? =some false:=fun m hm=>by
  rcases j1 with rfl|rfl
  ·omega
  ·have:m=0:=by omega
   subst this;rfl
 refine⟨_,rfl,.inl ⟨rfl,_,SqL.of f5⟩,l5,oneAt j,rfl,rfl,f5,rfl,_,rfl,?_⟩;rw[abQ];refine iteF ?_;refine⟨_,rfl,e,C,"ValueError",true,rfl,A,ok,kC.one,_,rfl,?_⟩;refine iteF ?_;refine⟨(by show 3<=sizeLine;decide),fun l6 hl6=> ?_⟩;have oH:=aO hl6 (.lst [.str "web",.str "number",.str "other"]);have f6:=oH _ _ f5;refine⟨_,rfl,.inl ⟨rfl,_,SqL.of f6⟩,l5,oneAt j,j,rfl,rfl,f6,hat,abR,by rw[kC.aaL];decide,?_⟩;refine⟨2,(j:Int),rfl,?_⟩;have fin:=q _ (s06.trans (aak.trans oH));refine⟨l6,_,_,.str (if iG dx=true then"number" else"web"),rfl,rfl,SqL.of aH,?_,fin⟩;by_cases c:iG dx=true
 ·rw[aB c]at hj⊢;rw[hj];rfl
 ·rw[aq c]at hj⊢;rw[hj];rfl
def iZ(s:List Int):θ:= .tuple (s.map PyData.int)
theorem Ik(s:List Int):(iZ s).canLay0=true:=Kf s
theorem zp:∀ss:List (List Int),PyData.canLayAll0 (ss.map iZ)=true
 |[]=>rfl
 |s::ss=>by
  show(PyData.canLay0 (iZ s)&&PyData.canLayAll0 (ss.map iZ))=true;rw[zp ss,Ik];rfl
theorem tK:∀ss:List (List Int),PyData.depthAll (ss.map iZ)<=1
 |[]=>dB _
 |s::ss=>by
  show max (PyData.depthAll (s.map PyData.int)+1) (PyData.depthAll (ss.map iZ))<=1;have:=tK ss;rw[mj];omega
theorem Same.aax{H0 H H':Hp}{d:Addr}(s:Same H0 H)(n:H0 d=none)(e:aD d H H'):Same H0 H':=fun b u h=>e _ _ (fun z=>by rw[z,n]at h;cases h) (s _ _ h)
def sY(T:Addr)(K:W.Frag):Sp:=fun vs H Q _=>∃(a:Addr) (ns:List Int),vs=[.ref a]/\yg K H a ns/\Cj H T/\∀H',Q (.bl true) H'
theorem Ih{T:Addr}{H:Hp}{a:Addr}{ns:List Int}(hO:Hu T H)(hS:SqL K H a (ns.map V.int)):sY T K [.ref a] H (fun v _=>v= .bl true) fun _ _ _=>False:=by
 refine⟨a,ns,rfl,?_,.inl hO.1,fun _=>rfl⟩;have na:∀xs,H a≠some (.lst xs):=fun xs h=>by
  by_cases e:a=T
  ·rw[e,hO.1]at h;cases h
  ·rcases hO.2 a e with q|⟨o,ys,q⟩
   ·rw[q]at h;cases h
   ·rw[q]at h;cases h
 rcases hS with(h|⟨o,h⟩)|h
 ·exact absurd h (na _)
 ·exact .inl ⟨o,h⟩
 ·exact .inr h
theorem yg.tbl{T oG:Addr}{H H':Hp}{ns:List Int}{tb:Array ζ}(h:yg K H oG ns)(e:aD T H H')(hn:H T=some (.tbl tb)):yg K H' oG ns:=by
 rcases h with⟨o,h⟩|h
 ·exact .inl ⟨o,e _ _ (iH hn h fun _ z=>nomatch z) h⟩
 ·exact .inr h
theorem nq{d:θ}(h:d.canLay0=true){A B:Prop}(hB:B):if(!PyData.eqv d d)=true then A else B:=by rw[PySem.SeqAt.eqv_refl d h];exact iteF hB
theorem Li(ss:List (List Int)):min (PyData.list (ss.map iZ)).depth (PyData.list (ss.map iZ)).depth<=64:=by
 have:(PyData.list (ss.map iZ)).depth=PyData.depthAll (ss.map iZ)+1:=rfl;have:=tK ss;omega
theorem oV(ss:List (List Int)):(PyData.list (ss.map iZ)).canLay0=true:=zp ss
theorem tY{H:Hp}:∀{rs:List V} {R:List (List Int)},dN K H rs R->cU K H rs (R.map iZ)
 |_,_,.nil=> .nil
 |_,_,.cons ⟨p,e,hp⟩ t=>by
  subst e;exact .cons (.tup hp (cU.ints _)) (tY t)
def Ask(K:W.Frag)(ak:Addr)(H:Hp)(x:V):Prop:=∃(t l:Addr) (m:Int) (rs:List V),x= .ref t/\l≠ak/\SqT K H t [.int m,.ref l]/\H l=some (.lst rs)/\(∀y∈rs,jU K H y)/\rs.length<=5/\1<=m
theorem Ask.same{ak:Addr}{H H':Hp}{x:V}(h:Ask K ak H x)(s:Same H H'):Ask K ak H' x:=by
 obtain⟨t,l,m,rs,e,n,h1,h2,h3,h4,h5⟩:=h;exact⟨t,l,m,rs,e,n,s.tup h1,s _ _ h2,fun y hy=>(h3 y hy).same s,h4,h5⟩
theorem Ask.put{ak:Addr}{H:Hp}{x:V}{zs us:List V}(h:Ask K ak H x)(e:H ak=some (.lst zs)):Ask K ak (upd H ak (.lst us)) x:=by
 obtain⟨t,l,m,rs,e',n,h1,h2,h3,h4,h5⟩:=h;have sx:aD ak H (upd H ak (.lst us)):=(aD.refl _ _).upd;refine⟨t,l,m,rs,e',n,sx.tup e h1,sx _ _ n h2,fun y hy=> ?_,h4,h5⟩;obtain⟨p,r,ey,hp,hl⟩:=h3 y hy;exact⟨p,r,ey,sx.tup e hp,hl⟩
theorem aaM{T tp:Addr}{H H':Hp}{zs:List V}(h:Cj H T)(e:aD tp H H')(ht:H tp=some (.lst zs)):Cj H' T:=by
 rcases h with h|⟨c',oc,vs,tq,h1,h2,h3,h4⟩
 ·exact .inl (e _ _ (fun z=>by rw[z,ht]at h;cases h) h)
 ·exact .inr ⟨c',oc,vs,tq,e _ _ (fun z=>by rw[z,ht]at h1;cases h1) h1,e _ _ (fun z=>by rw[z,ht]at h2;cases h2) h2,h3,h4⟩
noncomputable def nones:List V:=[.int 0,.int (-1),.bl true,.non,.str "1",.int (-(10^(20:Int).toNat))]
theorem Jf:∀x∈nones,∃d,(∀H,DX K H x d)/\Yc d:=fun x hx=>by
 unfold nones at hx;simp only[cF,QS,QT]at hx;rcases hx with rfl|rfl|rfl|rfl|rfl|rfl
 ·exact⟨_,fun H=> .int _,.inr ⟨_,rfl,by decide⟩⟩
 ·exact⟨_,fun H=> .int _,.inr ⟨_,rfl,by decide⟩⟩
 ·exact⟨_,fun H=> .bl _,.inl rfl⟩
 ·exact⟨_,fun H=> .non,.inl rfl⟩
 ·exact⟨_,fun H=> .str _,.inl rfl⟩
 ·exact⟨_,fun H=> .int _,.inr ⟨_,rfl,by decide⟩⟩
theorem ok_law{f f1 f2 f3 f4 f5 f6 f7 f8 f9:Addr}{fd d1 d2 d3 d4 d5 d6 d7 d8 d9:τ}(F:Fun K "law" "law" qM f fd)(D1:bQ K mg "_law_atape" jz ["script","k"] f1 d1)(G1':FnOk P w K mg base CX0 2 f1 d1 ["script","k"] (CJ K))(D2:bQ K mg "_law_adigit" fG ["tape","many"] f2 d2)(G2':FnOk P w K mg base CX0 1 f2 d2 ["tape","many"] (Gn K))(D3:bQ K mg "_law_aweb" lM ["tape","most"] f3 d3)(G3':FnOk P w K mg base CX0 2 f3 d3 ["tape","most"] (CT K))(D4:bQ K mg "each_so_many" fQ ["web","b"] f4 d4)(G4':FnOk P w K mg base CX0 9 f4 d4 ["web","b"] (CP K T))(D5:bQ K mg "spread" tR ["web"] f5 d5)(G5:FnOk P w K mg base CX0 10 f5 d5 ["web"] (yR K))(D6:bQ K mg "_law_aall" lO ["rows"] f6 d6)(G6:FnOk P w K mg base CX0 1 f6 d6 ["rows"] (U4 K))(D7:bQ K mg "are_rows" fU ["web","b","rows"] f7 d7)(G7:FnOk P w K mg base CX0 8 f7 d7 ["web","b","rows"] (vJ K))(D8:bQ K mg "_law_adue" lN ["web","b","rows"] f8 d8)(G8:FnOk P w K mg base CX0 1 f8 d8 ["web","b","rows"] (U0 K))(D9:bQ K mg "_law_akind" gF ["web","b"] f9 d9)(G9:FnOk P w K mg base CX0 9 f9 d9 ["web","b"] (Gq K))(aL:mg "range"=none)(aaI:mg "max"=none)(lB:mg "min"=none)(cB:mg "len"=none)(gW:mg "list"=none)(aG:mg "isinstance"=none)(Xc:mg "bool"=none):
  FnOk P w K mg base CX0 11 f fd ["script"] (sY T K):=by
 have G1:FnOk P w K mg base CX0 10 f1 d1 ["script","k"] (CJ K):=G1'.mono (by decide);have G2:FnOk P w K mg base CX0 10 f2 d2 ["tape","many"] (Gn K):=G2'.mono (by decide);have G3:FnOk P w K mg base CX0 10 f3 d3 ["tape","most"] (CT K):=G3'.mono (by decide);have G4:FnOk P w K mg base CX0 10 f4 d4 ["web","b"] (CP K T):=G4'.mono (by decide);refine F.dM ["script","start","tape","b","web","asks","a","c","rows","many","some","one","handed","found","none"] fun cdv A outer s H vs Q E hr h=> ?_;obtain⟨oG,ns,rfl,hS,hL,q⟩:=h;refine bf ?_;intro Y;refine⟨_,(aP (u6 rM rfl (pi_range2 rfl aL (aj aQ (aj (pB (call_max2 rfl) aaI (aj aQ (aj (pB (call_min2 rfl) lB (aj aQ (aj (pB yI cB (aj (pv 0) aA)) aA))) aA))) aA))) (pG 1) (aP (pS 2 (pc G1 hr D1 (aj (pv 0) (aj (pv 1) aA)))) (aP (pS 3 (bJ uU aQ (pc G2 hr D2 (aj (pv 2) (aj aQ aA))))) (aP (pS 4 (pc G3 hr D3 (aj (pv 2) (aj (pB (call_min2 rfl) lB (aj aQ (aj (bJ eU aQ (pv 3)) aA))) aA)))) (aP (pS 5 (lE (aj (oF (aj (pv 3) (aj (bR jo (pc G4 hr D4 (aj (pv 4) (aj (pv 3) aA))) aQ) aA))) aA))) (aP (ps_asg (pc G5 hr D5 (aj (pv 4) aA)) (pg_tup rfl (qY (pG 6) (qY (pG 7) (qY (pG 8) JT))))) (aP (sH (pe_bm HY YS YQ mt_append (pv 5) (aj (oF (aj (pv 7) (aj (pv 8) aA))) aA))) (aP (u6 rM rfl (rG (pv 5)) (pg_tup rfl (qY (pG 9) (qY (pG 10) JT))) (bw (u6 rM rfl (rG (pc G6 hr D6 (aj (pv 10) aA))) (pG 11) (aP (pS 12 (pT call_list_of gW (aj (pv 11) aA))) (aP (pS 13 (pc G7 hr D7 (aj (pv 4) (aj (pv 9) (aj (pv 12) aA))))) (bw (qW (PW.pt (pw_or (yF (yG (pB QC aG (aj (pv 13) (aj (pN "bool" Xc) aA))))) (pw_or (jg op_ne (pv 13) (pc G8 hr D8 (aj (pv 4) (aj (pv 9) (aj (pv 11) aA))))) (pw_or1 (jg (wR hr.units) (pv 12) (pv 11)))))) (bw (cT pe_bl)) qX))))))) (bw (u6 rM rfl (rG (lE (aj aQ (aj (pe_un un_neg aQ) (aj pe_bl (aj pe_non (aj pe_str (aj (pe_un un_neg (bJ op_pow aQ aQ)) aA)))))))) (pG 14) (bw (qW (PW.pt (pw_or (jg op_ne (pc G9 hr D9 (aj (pv 4) (aj (pv 14) aA))) pe_str) (pw_or1 (jg op_ne (pc G9 hr D9 (aj (oF (aj aQ (aj (oF aA) aA))) (aj (pv 14) aA))) pe_str)))) (bw (cT pe_bl)) qX)))))))))))) (bw (cT pe_bl))),?_⟩;refine je ?_;intro c2;obtain⟨tb,ht0⟩:=hL.at;refine⟨_,rfl,oG,_,rfl,.inl hS.sq,fun hz=>⟨_,_,rfl,_,_,rfl,_,_,rfl,?_⟩⟩;obtain⟨m,em,hm0,hm1⟩:∃m:Int,(if(if((ns.map V.int).length:Int)<3 then((ns.map V.int).length:Int)else 3)>1 then(if((ns.map V.int).length:Int)<3 then((ns.map V.int).length:Int)else 3)else 1)=m/\0<=m/\m<=3:=by
  refine⟨_,rfl,?_,?_⟩
  ·split
   ·split<;>omega
   ·omega
  ·split
   ·split<;>omega
   ·omega
 rw[em];refine⟨⟨by decide,by decide,by omega,by omega⟩,?_⟩;let gq:Nat->St->Hp->Prop:=fun i σ H'=>aD T H H'/\Cj H' T/\∃o1 o2 o3 o4 o5 o6 o7 o8 o9 Qz GQ GK GJ Qy,σ=[some (.ref oG),o1,o2,o3,o4,o5,o6,o7,o8,o9,Qz,GQ,GK,GJ,Qy];refine Qn (n:=(m-0).toNat) gq ⟨aD.refl _ _,hL,_,_,_,_,_,_,_,_,_,_,_,_,_,_,rfl⟩ (fun i σ H1 hi p=> ?_) (fun σ H1 p=> ?_)
 ·obtain⟨s1,hL1,o1,o2,o3,o4,o5,o6,o7,o8,o9,Qz,GQ,GK,GJ,Qy,rfl⟩:=p;have hS1:=yg.tbl hS s1 ht0;refine⟨_,rfl,_,rfl,oG,ns,0+(i:Int),rfl,hS1,by omega,fun tp H2 t s2 htp abO=> ?_⟩;refine⟨_,rfl,tp,t,4,rfl,htp,by decide,by decide,fun dg t2 d0 d1=>⟨_,_,rfl,rfl,?_⟩⟩;have x2:aD tp H2 (upd H2 tp (.lst [.int t2])):=(aD.refl _ _).upd;have ht2:(upd H2 tp (.lst [.int t2])) tp=some (.lst [.int t2]):=aH;generalize (upd H2 tp (.lst [.int t2]))=G2 at *;have fd:0<1+dg/\1+dg<1000000000000000000000000000000:=⟨by omega,by omega⟩;dsimp only[gName,List.set];refine⟨_,rfl,_,rfl,_,_,rfl,rfl,fd,_,_,rfl,?_⟩;have dv0:0<=10/(1+dg):=wgs (by decide) (by omega);have dv1:10/(1+dg)*(1+dg)<=10:=Int.ediv_mul_le _ (by omega);obtain⟨M,eM,hM0,hM1⟩:∃M:Int,(if 10/(1+dg)<5 then 10/(1+dg)else 5)=M/\0<=M/\(M<=5/\M<=10/(1+dg)):=by
   refine⟨_,rfl,?_,?_⟩
   ·split<;>omega
   ·split<;>omega
  rw[eM];refine⟨tp,t2,M,rfl,ht2,hM0,by omega,fun r n ts H3 t3 x3 h3 hW hn0=> ?_⟩;have x13:aD tp H2 H3:=x2.trans x3;have hnb:n*(1+dg)<=10:=by
   have a1:n*(1+dg)<=10/(1+dg)*(1+dg):=ydp (by omega) (by omega);omega
  generalize hb:1+dg=b at *;have b0:1<=b:=by omega
  have b1:b<=4:=by omega
  have oH:Same H1 H3:=Same.aax s2 abO x13;have SQ:=hL1.same oH;obtain⟨tb3,ht3⟩:=SQ.at;dsimp only[gName,List.set];refine⟨_,rfl,_,rfl,_,rfl,r,n,b,ts,rfl,hW,b0,by omega,hnb,SQ,fun fr l _ rs R H6 x6 hL6 e6 el hRv hRn hrl nl=>⟨fr,_,_,.ref l,rfl,rfl,SqT.of e6,rfl,?_⟩⟩;refine⟨(by show 2<=sizeLine;decide),fun q1 g1=>⟨(by show 1<=sizeLine;decide),fun ak hak=> ?_⟩⟩;have z1:=aO g1 (.tup [.int b,.ref l]);have z2:=aO hak (.lst [.ref q1]);have HD:=z1.trans z2;have hW6:=hW.tbl x6 ht3;have Vl:∀r∈R,r.length<=40:=fun row hrow=>by
   have:=hrl row hrow;omega
  have hRl:=Paired.jj hRv;have hWn:=hW.h0;have nla:l≠ak:=fun z=>by rw[z]at el;rw[z1 _ _ el]at hak;cases hak
  have ab1:Ask K ak (upd (upd H6 q1 (.tup [.int b,.ref l])) ak (.lst [.ref q1])) (.ref q1):=⟨q1,l,b,rs,rfl,nla,z2.tup (SqT.of aH),HD _ _ el,fun y hy=>(Ph hRv Vl y hy).same HD,by omega,b0⟩;have hW7:=hW6.same HD;have hL7:=hL6.same HD;have ea:(upd (upd H6 q1 (.tup [.int b,.ref l])) ak (.lst [.ref q1])) ak=some (.lst [.ref q1]):=aH;have xT7:aD T H1 (upd (upd H6 q1 (.tup [.int b,.ref l])) ak (.lst [.ref q1])):=(oH.x T).trans (x6.trans (HD.x T));generalize (upd (upd H6 q1 (.tup [.int b,.ref l])) ak (.lst [.ref q1]))=H7 at *;dsimp only[gName,List.set];refine⟨_,rfl,r,n,ts,rfl,hW7,by omega,fun r2 l2 x c rs2 R2 H8 s8 e8 c1 c40 el2 Xq Y7 abU nl2=>⟨r2,_,rfl,SqT.of e8,rfl,_,_,rfl,_,_,rfl,_,_,rfl,rfl,?_⟩⟩;dsimp only[gName,List.set];refine⟨_,rfl,.inl ⟨rfl,_,SqL.of (s8 _ _ ea)⟩,_,rfl,_,rfl,(by show 2<=sizeLine;decide),fun q2 g2=> ?_⟩;have z3:=aO g2 (.tup [.int c,.ref l2]);have Zg:=(s8.trans z3) _ _ ea;refine⟨ak,_,.ref q2,rfl,rfl,Zg,(by show 1<sizeLine;decide),?_⟩;have s78:=s8.trans z3;have abI:l2≠ak:=fun z=>by rw[z,ea]at nl2;cases nl2
  have ab0:Ask K ak (upd H8 q2 (.tup [.int c,.ref l2])) (.ref q2):=⟨q2,l2,c,rs2,rfl,abI,SqT.of aH,z3 _ _ el2,fun y hy=>(Ph Xq abU y hy).same z3,by have:=Paired.jj Xq;omega,c1⟩;have abr:=(ab1.same s78).put (us:=[.ref q1]++[.ref q2]) Zg;have abq:=ab0.put (us:=[.ref q1]++[.ref q2]) Zg;have sx:aD ak (upd H8 q2 (.tup [.int c,.ref l2])) (upd (upd H8 q2 (.tup [.int c,.ref l2])) ak (.lst ([.ref q1]++[.ref q2]))):=(aD.refl _ _).upd;have hW9:=(hW7.same s78).zu sx Zg;have hL8:=hL7.same s78;have nTa:T≠ak:=fun z=>by obtain⟨tb8,ht8⟩:=hL8.at;rw[z,Zg]at ht8;cases ht8
  have hL9:Cj (upd (upd H8 q2 (.tup [.int c,.ref l2])) ak (.lst ([.ref q1]++[.ref q2]))) T:=aaM hL8 sx Zg;have ea9:(upd (upd H8 q2 (.tup [.int c,.ref l2])) ak (.lst ([.ref q1]++[.ref q2]))) ak=some (.lst [.ref q1,.ref q2]):=aH;have abJ:H1 ak=none:=by
   cases e:H1 ak with
   |none=>rfl
   |some o=>
    exfalso;have k3:=oH _ _ e;have:ak≠T:=fun z=>nTa z.symm;rw[z1 _ _ (x6 _ _ this k3)]at hak;cases hak
  have xT9:aD T H1 (upd (upd H8 q2 (.tup [.int c,.ref l2])) ak (.lst ([.ref q1]++[.ref q2]))):=fun bb o hn e=>sx _ _ (fun z=>by rw[z,abJ]at e;cases e) (s78 _ _ (xT7 _ _ hn e));generalize (upd (upd H8 q2 (.tup [.int c,.ref l2])) ak (.lst ([.ref q1]++[.ref q2])))=H9 at *;dsimp only[gName,List.set];refine rP (fun σ' H'=>Same H9 H'/\∃o9 Qz GQ GK GJ,σ'=[some (.ref oG),some (.int (0+(i:Int))),some (.ref tp),some (.int b),some (.ref r),some (.ref ak),some (.int x),some (.int c),some (.ref l2),o9,Qz,GQ,GK,GJ,Qy]) (fun N hN=> ?_) ?_
  ·refine⟨_,rfl,ak,_,rfl,SqL.of ea9,fun hz=> ?_⟩;let qe:Nat->St->Hp->Prop:=fun k σ H'=>Same H9 H'/\∃o9 Qz GQ GK GJ,σ=[some (.ref oG),some (.int (0+(i:Int))),some (.ref tp),some (.int b),some (.ref r),some (.ref ak),some (.int x),some (.int c),some (.ref l2),o9,Qz,GQ,GK,GJ,Qy];refine QD (xs:=[.ref q1,.ref q2]) qe ⟨Same.refl _,_,_,_,_,_,rfl⟩ (fun k σ H' _ p=>p.1.seq (SqL.of ea9)) (fun k y σ H' hy p=> ?_) (fun σ H' p=>hN _ _ p);obtain⟨sm,o9,Qz,GQ,GK,GJ,rfl⟩:=p;have ay:Ask K ak H' y:=by
    have hm:=jq hy;simp only[cF,QS,QT]at hm;rcases hm with rfl|rfl
    ·exact abr.same sm
    ·exact abq.same sm
   obtain⟨tt,la,ma,ra,rfl,_,k1,k2,k3,k4,k5⟩:=ay;refine⟨tt,_,rfl,k1,rfl,_,_,rfl,_,_,rfl,rfl,?_⟩;dsimp only[gName,List.set];refine⟨_,rfl,la,ra,rfl,k2,k3,k4,fun f xs G1 y1 ef hv hlen=>⟨f,xs,rfl,SqL.of ef,fun hz=> ?_⟩⟩;have hWg:=(hW9.same sm).same y1;let JL:Nat->St->Hp->Prop:=fun j σ jm=>Same G1 jm/\∃GQ GK GJ,σ=[some (.ref oG),some (.int (0+(i:Int))),some (.ref tp),some (.int b),some (.ref r),some (.ref ak),some (.int x),some (.int c),some (.ref l2),some (.int ma),some (.ref la),GQ,GK,GJ,Qy];refine QD (xs:=xs) JL ⟨Same.refl _,_,_,_,rfl⟩ (fun j σ jm _ p=>p.1.seq (SqL.of ef)) (fun j y σ jm hy p=> ?_) (fun σ jm p=> ?_)
   ·obtain⟨tH,GQ,GK,GJ,rfl⟩:=p;obtain⟨l3,Wk,rfl,_,hl3,hr3,hz3⟩:=hv y (jq hy);obtain⟨R3,Za,h43⟩:=Lx hr3;have hWj:=hWg.same tH;have DW:=tH _ _ hl3;have hR4:=Za.same tH;dsimp only[gName,List.set];refine⟨_,rfl,l3,Wk,rfl,.inl (SqL.of DW),fun hd hhd=> ?_⟩;have y2:=aO hhd (.lst Wk);have ehd:(upd jm hd (.lst Wk)) hd=some (.lst Wk):=aH;have hWk:=hWj.same y2;have hR5:=hR4.same y2;have aaS:=y2 _ _ DW;generalize (upd jm hd (.lst Wk))=G2' at *;dsimp only[gName,List.set];refine⟨_,rfl,_,rfl,_,rfl,r,hd,n,ma,ts,Wk,R3,rfl,hWk,k5,SqL.of ehd,hR5,h43,fun G3 y3=> ?_⟩;dsimp only[gName,List.set];refine⟨_,rfl,.bl _,_,_,rfl,(DX.bl _).kind,.inr (.inl rfl),_,rfl,?_⟩;refine iteF ?_;refine⟨_,rfl,_,rfl,_,rfl,_,rfl,r,l3,n,ma,ts,Wk,R3,rfl,hWk.same y3,SqL.of (y3 _ _ aaS),hR5.same y3,h43,fun G4 y4=>⟨rfl,_,rfl,?_⟩⟩;rw[fD rfl];refine iteF ?_;have ZW:=y3.trans y4;refine⟨_,rfl,_,rfl,_,_,.lst (SqL.of (ZW _ _ ehd)) (tY (hR5.same ZW)),.lst (SqL.of (ZW _ _ aaS)) (tY (hR5.same ZW)),oV _,oV _,Li _,_,rfl,nq (oV _) ?_⟩;exact⟨tH.trans (y2.trans ZW),_,_,_,rfl⟩
   ·obtain⟨tH,GQ,GK,GJ,rfl⟩:=p;exact⟨sm.trans (y1.trans tH),_,_,_,_,_,rfl⟩
  rintro σ' Zm ⟨sm,o9,Qz,GQ,GK,GJ,rfl⟩
  try dsimp only
  have abS:=hW9.same sm;refine⟨_,rfl,_,_,rfl,rfl,⟨by decide,by decide,by decide⟩,_,rfl,(by show 6<=sizeLine;decide),fun nn hnn=> ?_⟩;have z4:=aO hnn (.lst nones);have en:(upd Zm nn (.lst nones)) nn=some (.lst nones):=aH;refine⟨nn,_,rfl,SqL.of en,fun hz=> ?_⟩;let T4:Nat->St->Hp->Prop:=fun k σ H'=>Same Zm H'/\H' nn=some (.lst nones)/\∃Qy,σ=[some (.ref oG),some (.int (0+(i:Int))),some (.ref tp),some (.int b),some (.ref r),some (.ref ak),some (.int x),some (.int c),some (.ref l2),o9,Qz,GQ,GK,GJ,Qy];refine QD (xs:=nones) T4 ⟨z4,en,_,rfl⟩ (fun k σ H' _ p=>SqL.of p.2.1) (fun k y σ H' hy p=> ?_) (fun σ H' p=> ?_)
  ·obtain⟨tH,en2,Qy,rfl⟩:=p;obtain⟨d,hd,hbd⟩:=Jf (K:=K) y (jq hy);have hWn:=abS.same tH;dsimp only[gName,List.set];refine⟨_,rfl,_,rfl,.ref r,y,oO n ts,d,rfl,hWn.web.dv.dx,hd _,hbd,fun G1 y1=>⟨rfl,_,rfl,?_⟩⟩;rw[aB (show iG (oO n ts)=true from hWn.ok),fD rfl];refine iteF ?_;refine⟨(by show 0<=sizeLine;decide),fun p1 g1=>⟨(by show 2<=sizeLine;decide),fun p2 g2=> ?_⟩⟩;have y2:=aO g1 (.tup []);have y3:=aO g2 (.tup [.int 11,.ref p1]);refine⟨_,rfl,.ref p2,y,.tuple [.int 11,.tuple []],d,rfl,.tup (SqT.of aH) (.cons (.int _) (.cons (.tup (y3.tup (SqT.of aH)) .nil) .nil)),hd _,hbd,fun G2' y4=>⟨rfl,_,rfl,?_⟩⟩;rw[aq (by decide),fD rfl];refine iteF ?_;have yy:=y1.trans (y2.trans (y3.trans y4));exact⟨tH.trans yy,yy _ _ en2,_,rfl⟩
  ·obtain⟨tH,_,Qy,rfl⟩:=p;have sf:=sm.trans tH;exact⟨s1.trans (xT9.trans (sf.x T)),hL9.same sf,_,_,_,_,_,_,_,_,_,_,_,_,_,_,rfl⟩
 ·obtain⟨_,_,o1,o2,o3,o4,o5,o6,o7,o8,o9,Qz,GQ,GK,GJ,Qy,rfl⟩:=p;exact q H1
end
end Hs
namespace L2
open PySem
section
variable{K:W.Frag}{x y:Str}{st:Stmt}{f C:Addr}{fd:τ}{oc:ζ}{od an:Option Addr}{osl:Array (Option ζ)}{kV doc pm cdv ct:ζ}{mg:L4}{h:Heap}
def DA(K:W.Frag)(x:Str)(st:Stmt)(f:Addr):Prop:=∃fd,Fun K x x st f fd/\PySem.W.nsIn K mainGlobals x=some (some (.ref f))
theorem DA.of(a:PySem.W.nsIn K mainGlobals x=some (some (.ref f)):=by k_is)(l:K.lookup f=some ⟨oc,od,.func (PySem.W.fnOf x x (defArgs st) (defBody st) (defScope st) .none kV doc pm an cdv ct),osl⟩:=by k_is)(c:PySem.W.codeIn K cdv x=true:=by k_is)(k:PySem.W.keepIn K (.ref f)=true:=by k_is):DA K x st f:=⟨_,fun_mk l c k,a⟩
def MA(K:W.Frag)(C:Addr)(x y:Str)(st:Stmt)(f:Addr):Prop:=∃fd,Fun K x y st f fd/\PySem.W.findIn K (.ref C) x=some (some (.ref f))/\PySem.W.isFn K (.ref f)=true/\PySem.W.keepIn K (.ref f)=true
theorem MA.of(a:PySem.W.findIn K (.ref C) x=some (some (.ref f)):=by k_is)(l:K.lookup f=some ⟨oc,od,.func (PySem.W.fnOf x y (defArgs st) (defBody st) (defScope st) .none kV doc pm an cdv ct),osl⟩:=by k_is)(c:PySem.W.codeIn K cdv y=true:=by k_is)(k:PySem.W.keepIn K (.ref f)=true:=by k_is)(i:PySem.W.isFn K (.ref f)=true:=by k_is):MA K C x y st f:=⟨_,fun_mk l c k,a,i,k⟩
theorem DA.d{ps:List Str}(X:K.In h)(G:h.Ns mainGlobals mg)(F:Fun K x x st f fd)(a:PySem.W.nsIn K mainGlobals x=some (some (.ref f)))(b:∀(kV doc pm:ζ) (an:Option Addr) (cdv ct:ζ) (us:List ζ),us.length=ps.length->bindArgs (PySem.W.fnOf x x (defArgs st) (defBody st) (defScope st) .none kV doc pm an cdv ct) ⟨us,[]⟩=pure (ps.zip us)):bQ K mg x st ps f fd:=⟨F,F.binds b,PySem.W.mg_of X G a⟩
theorem MA.d{ps:List Str}(F:Fun K x y st f fd)(a:PySem.W.findIn K (.ref C) x=some (some (.ref f))/\PySem.W.isFn K (.ref f)=true/\PySem.W.keepIn K (.ref f)=true)(b:∀(kV doc pm:ζ) (an:Option Addr) (cdv ct:ζ) (us:List ζ),us.length=ps.length->bindArgs (PySem.W.fnOf x y (defArgs st) (defBody st) (defScope st) .none kV doc pm an cdv ct) ⟨us,[]⟩=pure (ps.zip us)):JN K C x y st ps f fd:=⟨F,F.binds b,⟨a.1,a.2.1,a.2.2⟩⟩
theorem Ci{p1:Str}{P:List ζ->Prop}(h:∀a,P [a])(us:List ζ)(hl:us.length=[p1].length):P us:=by
 match us,hl with
 |[a],_=>exact h a
theorem qQ{p1 p2:Str}{P:List ζ->Prop}(h:∀a b,P [a,b])(us:List ζ)(hl:us.length=[p1,p2].length):P us:=by
 match us,hl with
 |[a,b],_=>exact h a b
theorem Py{p1 p2 p3:Str}{P:List ζ->Prop}(h:∀a b c,P [a,b,c])(us:List ζ)(hl:us.length=[p1,p2,p3].length):P us:=by
 match us,hl with
 |[a,b,c],_=>exact h a b c
theorem bn4{p1 p2 p3 p4:Str}{P:List ζ->Prop}(h:∀a b c d,P [a,b,c,d])(us:List ζ)(hl:us.length=[p1,p2,p3,p4].length):P us:=by
 match us,hl with
 |[a,b,c,d],_=>exact h a b c d
end
end L2
namespace Hs
open PySem L2 BJ
theorem len_3{α:Type}:∀{us:List α},us.length=3->∃a b c,us=[a,b,c]
 |[a,b,c],_=>⟨a,b,c,rfl⟩
theorem all_mk{l:W.OpenLaw}{w:υ}{K:W.Frag}{h:Heap}{mg:L4}{fa:Addr}{T:Addr}(X:K.In h)(G:h.Ns mainGlobals mg)(hfa:mg "law"=some (.ref fa))
  {f0 f1 f2 f3 f4 f5 f6 f7 f8 f9 f10 f11 f12 f13 f14 f15 f16 f17 f18 f19 f20 f22 f23 f24 f25 f26 f27 f28 f29 f30 f31 f32 f33 f34 f35 f36 f37 f38 f39 f40 f41 f42 f43 f44 f45 mf0 mf1 mf2 mf3 mf4 mf5 mf6 mf7 mf8 mf9:Addr}{f21 cL:Addr}{abE ab2:Option Addr}{abz:Array (Option ζ)}{abG abN abW abB abZ:ζ}{f46:Addr}{abD abt:Option Addr}{aby:Array (Option ζ)}{abF aaO abh aav X5 abj:ζ}{tk0:Tok}{tk1:Tok}{tk2:Tok}{aF:Addr}{dJ:Addr}{au:Addr}{cM:Addr}{fK:Addr}{dI:Addr}{fJ:Addr}{cJ:Addr}{aM:Addr}{cI:Addr}{mK:Addr}{Px:ClassData}{Bt:ClassData}(a0:DA K "is_whole" QH f0)(a1:DA K "is_place" lQ f1)(a2:DA K "are_places" iQ f2)(a3:DA K "is_rising" Zq f3)(a4:DA K "is_set" tV f4)(a5:DA K "are_ties" lR f5)(a6:DA K "is_web" nA f6)(a7:DA K "need_web" Kg f7)(a8:DA K "need_from_to" fO f8)(a9:DA K "need_few" iK f9)(a10:DA K "pairs" rQ f10)(a11:DA K "all_sets" lU f11)(a12:DA K "without" iu f12)(a13:DA K "has_tie" iw f13)(a14:DA K "greatest_divisor" zbl f14)(a15:DA K "lowest" jy f15)(a16:DA K "sum_of" tQ f16)(a17:DA K "can_stand_with" zcw f17)(a18:DA K "first_parts" zda f18)(a19:DA K "highest_floor" zdj f19)(a20:DA K "highest_floors" zcu f20)(a21:W.nsIn K mainGlobals "best_part"=some (some (.ref f21)))(l21:K.lookup f21=some ⟨abG,abE,.func (W.fnOf "best_part" "best_part" (defArgs QJ) (defBody QJ) (defScope QJ) .none abN abW abB ab2 (.ref cL) abZ),abz⟩)(c21:W.codeIn K (.ref cL) "best_part"=true)(k21:W.keepIn K (.ref f21)=true)(a22:DA K "hues_by_floors" zbx f22)(a23:DA K "fewest" tX f23)(a24:DA K "is_tie_within" zdh f24)(a25:DA K "within" tO f25)(a26:DA K "places_by_tie" zdg f26)(a27:DA K "in_both" oX f27)(a28:DA K "full_sets" jB f28)(a29:DA K "full_apart" iM f29)(a30:DA K "need_wants" iJ f30)(a31:DA K "shares" tU f31)(a32:DA K "each_so_many" fQ f32)(a33:DA K "is_row" tW f33)(a34:DA K "have_in_common" zcv f34)(a35:DA K "are_rows" fU f35)(a36:DA K "sets_by_hue" gR f36)(a37:DA K "hues_of" oY f37)(a38:DA K "spread" tR f38)(a39:DA K "_law_acell" jA f39)(a40:DA K "_law_atape" jz f40)(a41:DA K "_law_adigit" fG f41)(a42:DA K "_law_aweb" lM f42)(a43:DA K "_law_adue" lN f43)(a44:DA K "_law_aall" lO f44)(a45:DA K "_law_akind" gF f45)(a46:W.nsIn K mainGlobals "law"=some (some (.ref f46)))(l46:K.lookup f46=some ⟨abF,abD,.func (W.fnOf "law" "law" (defArgs qM) (defBody qM) (defScope qM) .none aaO abh aav abt X5 abj),aby⟩)(c46:W.codeIn K X5 "law"=true)(k46:W.keepIn K (.ref f46)=true)(x0:W.nsIn K mainGlobals "MOST_PLACES"=some (some (.int 10 tk0)))(x1:W.nsIn K mainGlobals "MOST_WANT"=some (some (.int 99 tk1)))(x2:W.nsIn K mainGlobals "MOST_EACH"=some (some (.int 5 tk2)))(z0:W.nsIn K mainGlobals "ValueError"=some none)(z1:W.nsIn K mainGlobals "abs"=some none)(z2:W.nsIn K mainGlobals "all"=some none)(z3:W.nsIn K mainGlobals "any"=some none)(z4:W.nsIn K mainGlobals "bool"=some none)(z5:W.nsIn K mainGlobals "enumerate"=some none)(z6:W.nsIn K mainGlobals "int"=some none)(z7:W.nsIn K mainGlobals "isinstance"=some none)(z8:W.nsIn K mainGlobals "len"=some none)(z9:W.nsIn K mainGlobals "list"=some none)(z10:W.nsIn K mainGlobals "max"=some none)(z11:W.nsIn K mainGlobals "min"=some none)(HD:W.nsIn K mainGlobals "range"=some none)(Kh:W.nsIn K mainGlobals "set"=some none)(z14:W.nsIn K mainGlobals "sorted"=some none)(Yh:W.nsIn K mainGlobals "tuple"=some none)(y0:W.nsIn K mainGlobals "Tableau"=some (some (.ref aF)))(y1:W.nsIn K mainGlobals "NoFold"=some (some (.ref dJ)))(y2:W.nsIn K mainGlobals "NoNumber"=some (some (.ref au)))(y3:W.nsIn K mainGlobals "NoPlace"=some (some (.ref cM)))(y4:W.nsIn K mainGlobals "NoRow"=some (some (.ref fK)))(y5:W.nsIn K mainGlobals "NoText"=some (some (.ref dI)))(y6:W.nsIn K mainGlobals "NoTie"=some (some (.ref fJ)))(y7:W.nsIn K mainGlobals "NoWants"=some (some (.ref cJ)))(y8:W.nsIn K mainGlobals "NoWeb"=some (some (.ref aM)))(y9:W.nsIn K mainGlobals "TooMany"=some (some (.ref cI)))(y10:W.nsIn K mainGlobals "HueError"=some (some (.ref mK)))(ma0:MA K aF "__init__" "Tableau.__init__" fW mf0)(ma1:MA K aF "next_column" "Tableau.next_column" zbo mf1)(ma2:MA K aF "is_tighter" "Tableau.is_tighter" zbu mf2)(ma3:MA K aF "next_row" "Tableau.next_row" zcf mf3)(ma4:MA K aF "turned" "Tableau.turned" zcx mf4)(ma5:MA K aF "turn" "Tableau.turn" fV mf5)(ma6:MA K aF "solve" "Tableau.solve" zdk mf6)(ma7:MA K aF "fraction_at" "Tableau.fraction_at" Zv mf7)(ma8:MA K aF "price_of" "Tableau.price_of" zce mf8)(ma9:MA K aF "share_of" "Tableau.share_of" zcd mf9)(Et:W.plainGet K aF Str.empty=true)(Es:W.hasDictIn K aF=true)(Er:W.plainOver K aF=true)(Ep:W.findIn K (.ref aF) "__setattr__"=some (some (.builtin "object.__setattr__")))(Eo:W.makesIn K aF=true)(En:W.keepIn K (.ref aF)=true)(p8:W.findIn K (.ref aF) "cells"=some none)(rA:W.findIn K (.ref aF) "over"=some none)(mO:W.findIn K (.ref aF) "columns"=some none)(rm:W.findIn K (.ref aF) "rows"=some none)(U9:W.specialIn K (.builtin "object.__class__") "__get__"=some (some (.builtin "getset_descriptor.__get__")))(aaq:W.takesIn K (.builtin "object.__class__")=some true)(SJ:W.excIn K aM [.type "ValueError",.type "Exception",.type "BaseException",.type "object"] "ValueError.__new__"=true)(Rh:W.clsIn K aM=some Px)(Og:W.findIn K (.ref aM) "__getattribute__"=some (some (.builtin "BaseException.__getattribute__")))(Ob:W.findIn K (.ref aM) "__getattr__"=some none)(Oe:W.findIn K (.ref aM) "__class__"=some (some (.builtin "object.__class__")))(MN:W.mroIn K aM (.type "object")=some true)(M6:W.mroIn K aM (.type "BaseException")=some true)(Q0:W.kitOne K (.ref aM) (.type "ValueError")=some true)(NP:W.kitOne K (.ref aM) (.ref dJ)=some false)(NK:W.kitOne K (.ref aM) (.ref au)=some false)(Nz:W.kitOne K (.ref aM) (.ref cM)=some false)(Ny:W.kitOne K (.ref aM) (.ref fK)=some false)(Nx:W.kitOne K (.ref aM) (.ref dI)=some false)(Nv:W.kitOne K (.ref aM) (.ref fJ)=some false)(Nu:W.kitOne K (.ref aM) (.ref cJ)=some false)(Nt:W.kitOne K (.ref aM) (.ref aM)=some true)(Nr:W.kitOne K (.ref aM) (.ref cI)=some false)(SN:W.exmOne K (.ref aM) (.ref mK)=some true)(DR:W.excIn K au [.type "ValueError",.type "Exception",.type "BaseException",.type "object"] "ValueError.__new__"=true)(Df:W.clsIn K au=some Bt)(Ay:W.findIn K (.ref au) "__getattribute__"=some (some (.builtin "BaseException.__getattribute__")))(Aw:W.findIn K (.ref au) "__getattr__"=some none)(Ax:W.findIn K (.ref au) "__class__"=some (some (.builtin "object.__class__")))(zP:W.mroIn K au (.type "object")=some true)(zR:W.mroIn K au (.type "BaseException")=some true)(Cw:W.kitOne K (.ref au) (.type "ValueError")=some true)(Ak:W.kitOne K (.ref au) (.ref dJ)=some false)(Aj:W.kitOne K (.ref au) (.ref au)=some true)(Ai:W.kitOne K (.ref au) (.ref cM)=some false)(Ah:W.kitOne K (.ref au) (.ref fK)=some false)(Ag:W.kitOne K (.ref au) (.ref dI)=some false)(Af:W.kitOne K (.ref au) (.ref fJ)=some false)(Ae:W.kitOne K (.ref au) (.ref cJ)=some false)(Ad:W.kitOne K (.ref au) (.ref aM)=some false)(Ac:W.kitOne K (.ref au) (.ref cI)=some false)(DY:W.exmOne K (.ref au) (.ref mK)=some true):
  ∃fd:τ,(∀(s:η) (v:ζ),BindsTo s fd ⟨[v],[]⟩ [("script",v)])/\∀base:Heap,K.In base->base.Ns mainGlobals mg->Bx base mg cL T->FnOk l.prog w K mg base CX0 11 fa fd ["script"] (sY T K):=by
 have e:=hfa.symm.trans (Ce X G a46);cases e;obtain⟨d0,F0,a0⟩:=a0;have dh:=DA.d (ps:=["thing"]) X G F0 a0 (fun _ _ _ _ _ _=>Ci fun _=>rfl);obtain⟨d1,F1,a1⟩:=a1;have Fg:=DA.d (ps:=["n","thing"]) X G F1 a1 (fun _ _ _ _ _ _=>qQ fun _ _=>rfl);obtain⟨d2,F2,a2⟩:=a2;have yq:=DA.d (ps:=["n","things"]) X G F2 a2 (fun _ _ _ _ _ _=>qQ fun _ _=>rfl);obtain⟨d3,F3,a3⟩:=a3;have jW:=DA.d (ps:=["things"]) X G F3 a3 (fun _ _ _ _ _ _=>Ci fun _=>rfl);obtain⟨d4,F4,a4⟩:=a4;have Qk:=DA.d (ps:=["n","thing"]) X G F4 a4 (fun _ _ _ _ _ _=>qQ fun _ _=>rfl);obtain⟨d5,F5,a5⟩:=a5;have Fi:=DA.d (ps:=["n","thing"]) X G F5 a5 (fun _ _ _ _ _ _=>qQ fun _ _=>rfl);obtain⟨d6,F6,a6⟩:=a6;have BR:=DA.d (ps:=["thing"]) X G F6 a6 (fun _ _ _ _ _ _=>Ci fun _=>rfl);obtain⟨d7,F7,a7⟩:=a7;have cD:=DA.d (ps:=["thing"]) X G F7 a7 (fun _ _ _ _ _ _=>Ci fun _=>rfl);obtain⟨d8,F8,a8⟩:=a8;have uN:=DA.d (ps:=["least","most","thing"]) X G F8 a8 (fun _ _ _ _ _ _=>Py fun _ _ _=>rfl);obtain⟨d9,F9,a9⟩:=a9;have uO:=DA.d (ps:=["n"]) X G F9 a9 (fun _ _ _ _ _ _=>Ci fun _=>rfl);obtain⟨d10,F10,a10⟩:=a10;have Hv:=DA.d (ps:=["n"]) X G F10 a10 (fun _ _ _ _ _ _=>Ci fun _=>rfl);obtain⟨d11,F11,a11⟩:=a11;have Fj:=DA.d (ps:=["n"]) X G F11 a11 (fun _ _ _ _ _ _=>Ci fun _=>rfl);obtain⟨d12,F12,a12⟩:=a12;have qp:=DA.d (ps:=["some","part"]) X G F12 a12 (fun _ _ _ _ _ _=>qQ fun _ _=>rfl);obtain⟨d13,F13,a13⟩:=a13;have qy:=DA.d (ps:=["web","one","other"]) X G F13 a13 (fun _ _ _ _ _ _=>Py fun _ _ _=>rfl);obtain⟨d14,F14,a14⟩:=a14;have fZ:=DA.d (ps:=["one","other"]) X G F14 a14 (fun _ _ _ _ _ _=>qQ fun _ _=>rfl);obtain⟨d15,F15,a15⟩:=a15;have uP:=DA.d (ps:=["a","b"]) X G F15 a15 (fun _ _ _ _ _ _=>qQ fun _ _=>rfl);obtain⟨d16,F16,a16⟩:=a16;have Qh:=DA.d (ps:=["fractions"]) X G F16 a16 (fun _ _ _ _ _ _=>Ci fun _=>rfl);obtain⟨d17,F17,a17⟩:=a17;have qz:=DA.d (ps:=["web","part","place"]) X G F17 a17 (fun _ _ _ _ _ _=>Py fun _ _ _=>rfl);obtain⟨d18,F18,a18⟩:=a18;have lD:=DA.d (ps:=["web","some"]) X G F18 a18 (fun _ _ _ _ _ _=>qQ fun _ _=>rfl);obtain⟨d19,F19,a19⟩:=a19;have rE:=DA.d (ps:=["web","floors","some"]) X G F19 a19 (fun _ _ _ _ _ _=>Py fun _ _ _=>rfl);obtain⟨d20,F20,a20⟩:=a20;have qu:=DA.d (ps:=["web"]) X G F20 a20 (fun _ _ _ _ _ _=>Ci fun _=>rfl);have F21:=fun_mk (st:=QJ) l21 c21 k21;have BX:bQ K mg "best_part" QJ ["web","floors","some"] f21 _:=⟨F21,F21.binds (ps:=["web","floors","some"]) (fun _ _ _ _ _ _ us hl=>by obtain⟨u0,u1,u2,rfl⟩:=Hs.len_3 hl;rfl),Ce X G a21⟩;obtain⟨d22,F22,a22⟩:=a22;have qt:=DA.d (ps:=["web","floors"]) X G F22 a22 (fun _ _ _ _ _ _=>qQ fun _ _=>rfl);obtain⟨d23,F23,a23⟩:=a23;have Qm:=DA.d (ps:=["web"]) X G F23 a23 (fun _ _ _ _ _ _=>Ci fun _=>rfl);obtain⟨d24,F24,a24⟩:=a24;have rD:=DA.d (ps:=["one","other","tie"]) X G F24 a24 (fun _ _ _ _ _ _=>Py fun _ _ _=>rfl);obtain⟨d25,F25,a25⟩:=a25;have Qg:=DA.d (ps:=["one","other"]) X G F25 a25 (fun _ _ _ _ _ _=>qQ fun _ _=>rfl);obtain⟨d26,F26,a26⟩:=a26;have rC:=DA.d (ps:=["web","place","tied"]) X G F26 a26 (fun _ _ _ _ _ _=>Py fun _ _ _=>rfl);obtain⟨d27,F27,a27⟩:=a27;have JQ:=DA.d (ps:=["ones","others"]) X G F27 a27 (fun _ _ _ _ _ _=>qQ fun _ _=>rfl);obtain⟨d28,F28,a28⟩:=a28;have BW:=DA.d (ps:=["friends"]) X G F28 a28 (fun _ _ _ _ _ _=>Ci fun _=>rfl);obtain⟨d29,F29,a29⟩:=a29;have yp:=DA.d (ps:=["web"]) X G F29 a29 (fun _ _ _ _ _ _=>Ci fun _=>rfl);obtain⟨d30,F30,a30⟩:=a30;have yj:=DA.d (ps:=["web","thing"]) X G F30 a30 (fun _ _ _ _ _ _=>qQ fun _ _=>rfl);obtain⟨d31,F31,a31⟩:=a31;have Qj:=DA.d (ps:=["web","wants"]) X G F31 a31 (fun _ _ _ _ _ _=>qQ fun _ _=>rfl);obtain⟨d32,F32,a32⟩:=a32;have uQ:=DA.d (ps:=["web","b"]) X G F32 a32 (fun _ _ _ _ _ _=>qQ fun _ _=>rfl);obtain⟨d33,F33,a33⟩:=a33;have Ql:=DA.d (ps:=["b","thing"]) X G F33 a33 (fun _ _ _ _ _ _=>qQ fun _ _=>rfl);obtain⟨d34,F34,a34⟩:=a34;have qw:=DA.d (ps:=["one","other"]) X G F34 a34 (fun _ _ _ _ _ _=>qQ fun _ _=>rfl);obtain⟨d35,F35,a35⟩:=a35;have uR:=DA.d (ps:=["web","b","rows"]) X G F35 a35 (fun _ _ _ _ _ _=>Py fun _ _ _=>rfl);obtain⟨d36,F36,a36⟩:=a36;have vB:=DA.d (ps:=["laying","b"]) X G F36 a36 (fun _ _ _ _ _ _=>qQ fun _ _=>rfl);obtain⟨d37,F37,a37⟩:=a37;have JR:=DA.d (ps:=["sets","place"]) X G F37 a37 (fun _ _ _ _ _ _=>qQ fun _ _=>rfl);obtain⟨d38,F38,a38⟩:=a38;have Qi:=DA.d (ps:=["web"]) X G F38 a38 (fun _ _ _ _ _ _=>Ci fun _=>rfl);obtain⟨d39,F39,a39⟩:=a39;have BP:=DA.d (ps:=["script","k"]) X G F39 a39 (fun _ _ _ _ _ _=>qQ fun _ _=>rfl);obtain⟨d40,F40,a40⟩:=a40;have BK:=DA.d (ps:=["script","k"]) X G F40 a40 (fun _ _ _ _ _ _=>qQ fun _ _=>rfl);obtain⟨d41,F41,a41⟩:=a41;have oE:=DA.d (ps:=["tape","many"]) X G F41 a41 (fun _ _ _ _ _ _=>qQ fun _ _=>rfl);obtain⟨d42,F42,a42⟩:=a42;have Fb:=DA.d (ps:=["tape","most"]) X G F42 a42 (fun _ _ _ _ _ _=>qQ fun _ _=>rfl);obtain⟨d43,F43,a43⟩:=a43;have Fd:=DA.d (ps:=["web","b","rows"]) X G F43 a43 (fun _ _ _ _ _ _=>Py fun _ _ _=>rfl);obtain⟨d44,F44,a44⟩:=a44;have Fe:=DA.d (ps:=["rows"]) X G F44 a44 (fun _ _ _ _ _ _=>Ci fun _=>rfl);obtain⟨d45,F45,a45⟩:=a45;have BL:=DA.d (ps:=["web","b"]) X G F45 a45 (fun _ _ _ _ _ _=>qQ fun _ _=>rfl);have F46:=fun_mk (st:=qM) l46 c46 k46;have lg:=Ce X G x0;have yM:=Ce X G x1;have yN:=Ce X G x2;have wZ:=Cg X G z0;have aaE:=Cg X G z1;have vR:=Cg X G z2;have Vf:=Cg X G z3;have MF:=Cg X G z4;have gM:=Cg X G z5;have aaD:=Cg X G z6;have bx:=Cg X G z7;have gK:=Cg X G z8;have um:=Cg X G z9;have Ve:=Cg X G z10;have vQ:=Cg X G z11;have bF:=Cg X G HD;have Vd:=Cg X G Kh;have uh:=Cg X G z14;have cH:=Cg X G Yh;have pJ:=Ce X G y0;have uq:=Ce X G y1;have iT:=Ce X G y2;have pO:=Ce X G y3;have xG:=Ce X G y4;have uo:=Ce X G y5;have xr:=Ce X G y6;have pL:=Ce X G y7;have rW:=Ce X G y8;have pH:=Ce X G y9;have lY:=Ce X G y10;obtain⟨md0,FM0,ma0⟩:=ma0;have mY:=MA.d (ps:=["self","sets","wants"]) FM0 ma0 (fun _ _ _ _ _ _=>Py fun _ _ _=>rfl);obtain⟨md1,FM1,ma1⟩:=ma1;have jl:=MA.d (ps:=["self"]) FM1 ma1 (fun _ _ _ _ _ _=>Ci fun _=>rfl);obtain⟨md2,FM2,ma2⟩:=ma2;have jX:=MA.d (ps:=["self","column","row","other"]) FM2 ma2 (fun _ _ _ _ _ _=>bn4 fun _ _ _ _=>rfl);obtain⟨md3,FM3,ma3⟩:=ma3;have mX:=MA.d (ps:=["self","column"]) FM3 ma3 (fun _ _ _ _ _ _=>qQ fun _ _=>rfl);obtain⟨md4,FM4,ma4⟩:=ma4;have qF:=MA.d (ps:=["self","cells","pivots","column"]) FM4 ma4 (fun _ _ _ _ _ _=>bn4 fun _ _ _ _=>rfl);obtain⟨md5,FM5,ma5⟩:=ma5;have uT:=MA.d (ps:=["self","row","column"]) FM5 ma5 (fun _ _ _ _ _ _=>Py fun _ _ _=>rfl);obtain⟨md6,FM6,ma6⟩:=ma6;have rF:=MA.d (ps:=["self"]) FM6 ma6 (fun _ _ _ _ _ _=>Ci fun _=>rfl);obtain⟨md7,FM7,ma7⟩:=ma7;have cu:=MA.d (ps:=["self","row","column"]) FM7 ma7 (fun _ _ _ _ _ _=>Py fun _ _ _=>rfl);obtain⟨md8,FM8,ma8⟩:=ma8;have mW:=MA.d (ps:=["self","name"]) FM8 ma8 (fun _ _ _ _ _ _=>qQ fun _ _=>rfl);obtain⟨md9,FM9,ma9⟩:=ma9;have mV:=MA.d (ps:=["self","name"]) FM9 ma9 (fun _ _ _ _ _ _=>qQ fun _ _=>rfl);have bC:Cls K aF:=⟨Et,Es,Er,Ep⟩;have cA:NoAttr K aF "cells":=p8;have dG:NoAttr K aF "over":=rA;have bB:NoAttr K aF "columns":=mO;have dF:NoAttr K aF "rows":=rm;have mk_Tableau:Mk K aF mf0:=⟨Eo,ma0.1,ma0.2.1,En⟩;refine⟨W.fnOf "law" "law" (defArgs qM) (defBody qM) (defScope qM) .none aaO abh aav abt X5 abj,fun s v=> .of_eq rfl,fun base _ _ LB=> ?_⟩;have iU:=Ml (P:=l.prog) (w:=w) (base:=base) F0 bx aaD MF;have Td:=Ms (P:=l.prog) (w:=w) (base:=base) F1 dh iU;have Om:=Jb (P:=l.prog) (w:=w) (base:=base) F2 Fg Td vR;have uz:=Ja (P:=l.prog) (w:=w) (mg:=mg) (base:=base) F3 vR bF gK;have aa7:=WX (P:=l.prog) (w:=w) (base:=base) F4 yq Om jW uz bx cH;have Xv:=RB (P:=l.prog) (w:=w) (base:=base) F5 Qk aa7 jW uz bx cH vR gK;have Vm:=Wy (P:=l.prog) (w:=w) (base:=base) F6 dh iU Fi Xv bx cH gK lg;have dW:=Ds (P:=l.prog) (w:=w) (base:=base) F7 BR Vm;have vX:=Dt (P:=l.prog) (w:=w) (base:=base) F9 lg;have Ou:=Jd F8 dh iU;have Ot:=W6 (P:=l.prog) (w:=w) (mg:=mg) (base:=base) F13 vQ Ve;have Ov:=RP (P:=l.prog) (w:=w) (base:=base) F10 bF;have S8:=Mp (P:=l.prog) (w:=w) (base:=base) F24 qy Ot;have Oh:=IV (P:=l.prog) (w:=w) (base:=base) F25 cD dW uO vX Hv Ov rD S8 cH;have Tg:=Mv F26 qy Ot bF;have Oq:=Jc (P:=l.prog) (w:=w) (mg:=mg) (base:=base) F27;have Ea:=zN F28 JQ Oq um bF gK uh;have Ba:=wW F29 cD dW BW Ea rC Tg bF;have abb:=aay (P:=l.prog) (w:=w) (mg:=mg) (base:=base) F14;have Oo:=W0 (P:=l.prog) (w:=w) (base:=base) F15 fZ abb aaE;have XC:=RL (P:=l.prog) (w:=w) (base:=base) F39 gK;have Xw:=RD (P:=l.prog) (w:=w) (base:=base) F40 BP XC bF;have Vn:=W8 (P:=l.prog) (w:=w) (mg:=mg) (base:=base) F41;have XF:=RN F42 oE Vn bF cH;have aa6:=WT (P:=l.prog) (w:=w) (mg:=mg) (base:=base) FM1 bC cA dG bB dF gM vQ;have aa0:=WD (P:=l.prog) (w:=w) (mg:=mg) (base:=base) FM2 bC cA dG bB dF;have aa5:=WR FM3 bC cA dG bB dF jX aa0 bF gK;have aa1:=WK (P:=l.prog) (w:=w) (mg:=mg) (base:=base) FM4 bC cA dG bB dF gM;have aaZ:=Wz FM5 bC cA dG bB dF qF aa1;have aa2:=WL FM6 bC cA dG bB dF jl aa6 uT aaZ mX aa5;have Oi:=WW FM7 bC cA dG bB dF uP Oo;have aa4:=WQ FM8 bC cA dG bB dF uP Oo cu Oi;have aa3:=WM FM9 bC cA dG bB dF uP Oo cu Oi;have Xx:=RG (P:=l.prog) (w:=w) (mg:=mg) (base:=base) FM0 bC cA dG bB dF gK bF um;have Az:=wV F30 dh iU gK bx cH vR yM;have Ol:=I9 F31 bC cA dG bB dF pJ cD dW yj Az yp Ba mY mk_Tableau Xx rF aa2 mV aa3 mW aa4 cu Oi gM bF;have Ju:=Dv (P:=l.prog) (w:=w) (mg:=mg) (base:=base) F11 bF;have pU:=Dr (P:=l.prog) (w:=w) (mg:=mg) (base:=base) F12 cH;have Tc:=Mr F17 qy Ot Vf;have Bb:=Je F18 qz Tc;have Xy:=RJ F19 lD Bb qp pU vQ;have Tf:=Mu F20 Fj Ju rE Xy;have XD:=RM F21 rfl LB lD Bb qp pU vQ;have abe:=W9 F22 BX XD qp pU cH bF;have abd:=W7 F23 cD dW qu Tf qt abe cH bF;have Xz:=RK F32 cD dW uN Ou uO vX Qm abd Qg Oh Hv Ov cH bF uh yN;have Te:=Mt F33 jW uz dh iU gK bx cH vR;have aa':=W5 (P:=l.prog) (w:=w) (mg:=mg) (base:=base) F34 gK Vd;have Jt:=Du F35 cD dW dh iU Ql Te qw aa' vR gK bx um Vf;have S9:=Mq F16 fZ abb;have aa8:=WY (P:=l.prog) (w:=w) (mg:=mg) (base:=base) F36;have aa9:=W4 (P:=l.prog) (w:=w) (mg:=mg) (base:=base) F37 gM;have Oj:=IW F38 cD dW Qj Ol Qh S9 vB aa8 JR aa9 bF cH;have XH:=RQ (P:=l.prog) (w:=w) (mg:=mg) (base:=base) F43 gK um uh Vd;have XJ:=RT (P:=l.prog) (w:=w) (mg:=mg) (base:=base) F44 cH bF gK;have HN:=zM F7 BR Vm wel rW SJ;have HS:=zO F35 cD HN dh iU wel iT DR;have Ti:=Mw F45 uR HS lY SN DY (Aa ⟨⟨_,Rh⟩,Og,Ob,Oe,U9,aaq,MN,M6⟩ Q0 Nt NK NP Nz Ny Nx Nv Nu Nr) (Aa ⟨⟨_,Df⟩,Ay,Aw,Ax,U9,aaq,zP,zR⟩ Cw Ad Aj Ak Ai Ah Ag Af Ae Ac) bx rW iT uq pO xG uo xr pL pH wZ vQ;exact ok_law F46 BK Xw oE Vn Fb XF uQ Xz Qi Oj Fe XJ uR Jt Fd XH BL Ti bF Ve vQ gK um bx MF
theorem walk{l:PySem.W.OpenLaw}{q:ρ}{loose:List Str}{XP:(L4)->Heap->Prop}{YP:υ->Heap->Prop}{d:DefRec}{K:Params->PySem.W.Frag}{cL T:Addr}(hn:l.most=some 63)(hdf:d.params.defaults=[])(hY:∀(w:υ) (h:Heap),YP w h->(K w.params).In h/\h.get? T=some (PySem.W.tabObj #[]))
  (F:∀(w:υ) (mg:L4) (fa:Addr) (h:Heap),(K w.params).In h->h.Ns mainGlobals mg->mg d.name=some (.ref fa)->
   ∃fd:τ,(∀(s:η) (u:ζ),BindsTo s fd ⟨[u],[]⟩ [("script",u)])/\∀base:Heap,(K w.params).In base->base.Ns mainGlobals mg->Bx base mg cL T->FnOk l.prog w (K w.params) mg base CX0 11 fa fd ["script"] (sY T (K w.params)))(hc:∀w:υ,PySem.W.codeHdIn (K w.params) cL T=true)(hKT:∀w:υ,(K w.params).lookup T=none):
  PySem.W.WalkO q loose XP YP l.row.toRowW d [] (fun f vs=>PySem.call f vs):=
 L2.Kw (n:=63) (k:=11) (x:="script") (CX:=CX0) (sp:=sY) hn (by decide) hdf ⟨rfl,by decide,by decide,rfl⟩ hY hc hKT F (fun _ _ a ns hl hO hS=>Ih hO hS) fun _ _ _ _ z=>z
end Hs
open PySem PySem.W PyProof.Rows
set_option maxRecDepth 100000 in
set_option maxHeartbeats 0 in
theorem PySem.Challenge.cw_hueshare_k29_rows_of_hues_looked_at_holds : PySem.Challenge.rw_hueshare_k29_rows_of_hues_looked_at.Holds := by
 refine Hd.early.2 ?_;unfold Hd.early;dsimp only
 k_fill
 refine' Hs.walk (l:=PySem.Challenge.rw_hueshare_k29_rows_of_hues_looked_at) rfl rfl (fun w h Y=>⟨PySem.W.km_in_of Y,PySem.W.km_tabs_of Y _ dY⟩) ?F ?C ?D
 case F=>
  intro w mg fa h KX G hmg
  refine' Hs.all_mk KX G hmg .of .of .of .of .of .of .of .of .of .of .of .of .of .of .of .of .of .of .of .of .of (by k_is) (by k_is) (by k_is) (by k_is) .of .of .of .of .of .of .of .of .of .of .of .of .of .of .of .of .of .of .of .of .of .of .of .of (by k_is) (by k_is) (by k_is) (by k_is) (by k_is) (by k_is) (by k_is) (by k_is) (by k_is) (by k_is) (by k_is) (by k_is) (by k_is) (by k_is) (by k_is) (by k_is) (by k_is) (by k_is) (by k_is) (by k_is) (by k_is) (by k_is) (by k_is) (by k_is) (by k_is) (by k_is) (by k_is) (by k_is) (by k_is) (by k_is) (by k_is) (by k_is) (by k_is) (by k_is) .of .of .of .of .of .of .of .of .of .of (by k_is) (by k_is) (by k_is) (by k_is) (by k_is) (by k_is) (by k_is) (by k_is) (by k_is) (by k_is) (by k_is) (by k_is) (by k_exc) (by k_is) (by k_is) (by k_is) (by k_is) (by k_is) (by k_is) (by kit_is) (by kit_is) (by kit_is) (by kit_is) (by kit_is) (by kit_is) (by kit_is) (by kit_is) (by kit_is) (by kit_is) (by kts_exm) (by k_exc) (by k_is) (by k_is) (by k_is) (by k_is) (by k_is) (by k_is) (by kit_is) (by kit_is) (by kit_is) (by kit_is) (by kit_is) (by kit_is) (by kit_is) (by kit_is) (by kit_is) (by kit_is) (by kts_exm)
 case C=>intro w;kernel_rfl
 case D=>intro w;kernel_rfl
