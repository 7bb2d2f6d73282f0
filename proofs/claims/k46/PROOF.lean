import PyProof.Rows.All
import Wide.All
import OpenK.AllK
import Wide.FinOn
import Lean
import PyProof.EqAt
import PyProof.EqKinds
import PyProof.TupleCall
import PyProof.ListRange
import PyProof.TupleOfSeq
import PyProof.Draws
import PyProof.EnumMake
import PyProof.TupleIter
import PyProof.Rows.SetFrom
import PyProof.SetRoads
import PyProof.WalksMore
import PyProof.Rows.SortShell
import KE.KMinBuiltin
import PyProof.Rows.CallKwBuiltin
import KE.KRevIter
import PyProof.Rows.Tup
import PyProof.Rows.Range3
import PyProof.DictWalks
import PyProof.DictTruth
import PyProof.TupleKey
import PyProof.Rows.SeqMore2
import PyProof.FString
import PyProof.StrWalks
import PyProof.StrBlockH
import PyProof.StrCalls2
import PyProof.SliceStr2
import KE.KIntText
import PyProof.StrLawsTight
import KE.KDictList
import PyProof.DictRoadsH
import KE.KLam
import KE.KNestM
import PyProof.DictItems
import PyProof.IsiHeapPairs
import KE.KPairComp
import PyProof.MinMaxWalk
import PyProof.MeetsSeq
import PyProof.Rows.ZipGen
import PyProof.Rows.FinIter
import PySem.Challenge.RW_hueshare_k46_whole_shares_go_with_ways
set_option compiler.extract_closed false
set_option Elab.async false
set_option linter.all false
set_option maxRecDepth 100000

open Array renaming mk->g9,forIn_toList->kR
open Bool renaming rec->kg,or_eq_false_iff->kC
open False renaming elim->bX
open ForInStep renaming yield->fh
open List renaming range->ai,replicate->al,toArray->bn,length->cw,lookup->dy,foldl->eS,range'->ko,mem_erase_of_ne->kB,filter->kD,zip_nil_right->lm,Nodup->lI,zip_nil_left->ml,mapM_toArray->n9
open List.Pairwise renaming nil->ez
open Nat renaming gcd->ay,mul_pos->kS,add_sub_cancel->ng
open Option renaming isSome_some->ku,getD_none->lp
open Or renaming inl->gV,inr->ki
open PyProof.Rows renaming seqObj->aI,IntsAre->dc,AllBare->fc,IsTup->gY,envOfC->i3,SortKind->jI,subscriptTail->kK,listUpdate_at->kM,subscriptTail_builtinR->mr,KeyOrd->mw,bubble->mE
open PyProof.Rows.KeyOrd renaming kle_antisymm->jp,kle_refl->lP,kle_of_klt->lS,kle_trans->lT
open PySem renaming Addr->af,wpAny->ah,model->aw,mainGlobals->ax,starEach->az,Str->bg,wpAny_loadPart'->bo,Around->bp,Expr->br,compareOp->bt,Heap->bv,sysModules->bz,Paired->bI,bootBuiltins->bP,cellsFrom->cf,eval->cx,binaryOp->cA,NameKind->cB,rawInt->cK,backTo->dk,cLine->dm,Scope->dC,Reads->dE,ReadsAll->dJ,holding->dL,foldedSetIterable->e8,assignEach->eB,codeAny->eI,sliceBounds->eQ,Pos->eR,importedModules->eT,Stmt->eW,swapsWith->fe,getItem->fq,relabel->fw,atKey->fx,pyNext->fz,builtinsNs->fF,bindArgs->gf,IsPart->gg,firstArgMember->gh,OsState->gi,tupleKind->gm,DictEntry->gr,behindInMarks->gy,attributeBase->gE,callerA->hZ,valueAt->i4,assign->i8,subscripted->ie,unsupported->ii,Within->ij,letOwnedTupleGo->io,standAt->ir,BindsTo->iF,ItemsOf->iO,wpAny_call->iS,wpAny_letOwnedTupleGo_enum->jS,newFunctionEnv->k8,dictSetDefault->kd,wpAny_binaryOp_repeat_ref->kn,Obj->kE,Env->kF,wpAny_standAt->kG,call->kL,wpAny_comprehension_free->kN,small_one->kX,getMethod->l8,bindL->lh,bindC->li,Meets->ll,list_append->lw,pushCells->lz,updateSeq->lL,isTrue->md,call_range_1->me,wpAny_Assign_Subscript->mP
open PySem.Around renaming under->fm,frames_deeper->iL
open PySem.Builtin.Builtins renaming bindParams->cS
open PySem.Builtin.List renaming listTooLong->du,listExtendWith->g7
open PySem.Builtin.Range renaming rangeSize->bS,small->fi
open PySem.Builtin.Slice renaming slicePlaces->dq,sliceAdjust->ee,sliceApplied->fS
open PySem.Builtin.SmallTypes renaming nextOf->df
open PySem.Builtin.Tuple renaming tupleHashOf->bE,tupleExact->bG,tupleItemsOf->dQ,tupleIsExact->fT
open PySem.Calls renaming Name_function_global->hU,call_function_entry->i7
open PySem.Code renaming isGuard->iA,isFrame->iE
open PySem.Data renaming fields->eh,seq->gp,cell->gx
open PySem.Expr renaming Call->fI
open PySem.F renaming slot_list_append->fE,plain_list_iadd->g5,slot_list_extend->jb,slot_list_index->ke,plain_min->kz,entry_min->kA,kind_min->kQ,args_list_append_2->mt,args_object_init_2->mN
open PySem.Heap renaming SameBut->cz
open PySem.NameKind renaming free->av,cell->be
open PySem.Obj renaming mapSeq->ba,isFreed_of_fields->kq,data_mapDictKeys->kP
open PySem.PyData renaming int->am,eqv->ar,canLayAll0->aE,eqvAll->aS,depthAll->bj,canLay0->eJ
open PySem.Str renaming ofString->bT
open PySem.Value renaming ref->aC,none->bd,int->bu,type->cM,bool->dA,str->ib,notImplemented->iX
open PySem.W renaming Frag->ag,findIn->ce,boot_heap->cE,nsIn->de,keepIn->dr,emptyDict->dP,SharedT->eC,fnOf->eM,instObj->fb,plainGet->fA,hasDictIn->fN,codeIn->fP,boot_drawn->gI,tabObj->gN,OpenLaw->gX,kla_obj->i5,plainOver->i6,kas_rev->iN,kas_desc->jn,makesIn->km,isFn->kH,boot_toks->kU,kas_place->ly,methodObj->m4,lookIn->mh,kas_descPart->mG
open Sum renaming inl->bc,inr->gu
open True renaming intro->dS
noncomputable abbrev ρ:=PySem.Value
noncomputable abbrev τ:=PySem.Shared
noncomputable abbrev υ:=PySem.PyData
noncomputable abbrev χ:=PySem.Program
noncomputable abbrev ψ:=PySem.FuncData
noncomputable abbrev ω:=PySem.World
noncomputable abbrev ζ:=List Int
noncomputable abbrev η:=List af
noncomputable abbrev θ:=List υ
noncomputable abbrev ξ:=Array Nat
noncomputable abbrev L5:=bg->Option ρ
noncomputable abbrev L4:=ρ->τ->Prop
noncomputable abbrev L3:=List (af×kE)
noncomputable abbrev L0:=List (Int×Int)
def aD:=@PySem.wpAny_bind
def ao:=@if_neg
def bY:=@decide_eq_true
def au:=@if_pos
def aW:=@PySem.wpAny_pure
def fW:=@of_decide_eq_true
def fH:=@Bool.and_eq_true
def gj:=@decide_eq_false
def nG:=@Bool.false_ne_true
def eZ:=@PySem.sizeLine_eq
def sS:=@Bool.eq_iff_iff
def ux:=@Option.some.inj
def HY:=@PySem.F.plain_min_loop
def Ef:=@PySem.Heap.SameBut.update
def Tf:=@PyProof.Rows.callWith_type1
def En:=@PySem.mem_of_lookup
def wX:=@PySem.PassesOwn.never
def gR:=@congrArg
def was:=@decide_eq_true_eq
def Te:=@PySem.F.plainAttrs_list
def J8:=@PySem.wpAny_newObj_type
def Aq:=@PySem.wpAny_holding
def WD:=@Classical.byContradiction
def Mw:=@PySem.wpAny_truthy_bool
def T6:=@PySem.Around.under_plainId
def T5:=@PySem.wpAny_Call_Name_kw
def Mv:=@PySem.wpAny_tryCatch
def Td:=@PySem.wpAny_call_entry
def mQ:=@Ne.symm
def wbe:=@fE
def wbf:=@PySem.F.type_list_append
def HX:=@PySem.W.mg_none_of
def wbh:=@PySem.wpAny_callSpecial?_slot
def Wz:=@Bool.false_eq_true
def Tc:=@PySem.codeAny_builtin
def Bc:=@PySem.wpAny_mono
def wbl:=@PySem.F.entry_min_loop
def wbm:=@PyProof.Rows.slot_tuple_getitem
def T4:=@lP
def T3:=@PyProof.Rows.get?_update_seq
def wbp:=@PySem.wpAny_typeNameOfWhole_keyiter
def S9:=@PySem.Paired.length
def wbr:=@PySem.F.slot_dict_keyiterator_next
def TY:=@PySem.wpAny_seqItems
def wbt:=@PySem.F.slot_tuple_iterator_next
def TX:=@PySem.plainId_quiet
def wbv:=@of_decide_eq_false
def wbw:=@decide_eq_true_iff
def XR:=@PySem.wpAny_passesOwn
def wby:=@PySem.F.args_tuple_add_2
def wbz:=@PySem.wpAny_typeNameOf_keyiter
def wca:=@Bool.not_eq_true'
def wcb:=@List.Sublist.refl
def wcc:=@PySem.F.entry_tuple_add
def wcd:=@decide_eq_false_iff_not
def wce:=@PySem.F.slot_tuple_add
def wcf:=@PySem.wpAny_pyIter_tuple
def wcg:=@PySem.wpAny_updateSeq
def wch:=@lS
def wci:=@PySem.wpAny_pyIter_list
def J7:=@if_false
def Wx:=@PySem.wpAny_letGo
def TV:=@PySem.call_meets
def wcm:=@PySem.Calls.spliced_cons
def wcn:=@PySem.W.KasT.kasWp_bind
def wco:=@PySem.wpAny_newList
def wcp:=@PySem.Obj.data_mapFields
def wcq:=@Option.map_some
def wcr:=@ke
def wcs:=@PySem.F.type_list_index
def wct:=@List.mem_singleton_self
def wcu:=@List.getElem?_cons_zero
def wcv:=@PySem.Heap.get?_update_other
def wcw:=@List.length_pos_of_mem
def wcx:=@PySem.Calls.spliced_nil
def XQ:=@PySem.wpAny_field
def Ww:=@PySem.wpAny_rule
def wda:=@PySem.wpAny_pyIter_enum
def wdb:=@PySem.wpAny_dictEntries
def wdc:=@PySem.atKey_none_of_get
def wdd:=@Option.some.injEq
def wde:=@List.getElem?_set
def wdf:=@Nat.Coprime.dvd_of_dvd_mul_left
def wdg:=@PySem.codeAny_mono
def wdh:=@PySem.F.slot_tuple_lt
def wdi:=@PySem.F.args_dict_keyiterator_next_1
def wdj:=@PySem.noFill_tuple_add
def wdk:=@List.length_drop
def wdl:=@lT
def wdm:=@PySem.F.entry_dict_keyiterator_next
def wdn:=@PyProof.Rows.FinIter.snoc_ind
def wdo:=@List.range_eq_range'
def wdp:=@List.Pairwise.filter
def wdq:=@Nat.mul_le_mul_right
def wdr:=@PySem.F.args_tuple_iterator_next_1
def wds:=@PySem.F.slot_dict_setdefault
def wdt:=@Int.lt_irrefl
def wdu:=@Int.ofNat.inj
def wdv:=@PySem.wpAny_execs_nil
def wdw:=@Int.mul_one
def wdx:=@PySem.W.plainGet_of
def wdy:=@List.length_set
def wdz:=@PySem.F.slot_int_rmul
def wea:=@Nat.add_sub_cancel'
def wec:=@PySem.F.entry_tuple_iterator_next
def wed:=@PySem.pushCells_keeps
def wee:=@PySem.wpAny_specialOf
def wef:=@and_congr_right
def weg:=@Int.fdiv_eq_ediv_of_nonneg
def weh:=@Int.mul_lt_mul_of_pos_left
def wei:=@PySem.W.callWith_K
def wej:=@List.zip_cons_cons
def wek:=@PySem.Reads.unique
def wel:=@PySem.tupleKind_room_in1
def wem:=@Int.natAbs_natCast
def wen:=@Int.natCast_nonneg
def weo:=@PySem.wpAny_setField
def wep:=@Int.lt_of_mul_lt_mul_left
def weq:=@List.mem_or_eq_of_mem_set
def wer:=@Nat.le_of_succ_le
def wes:=@PyProof.noPylong_of_log2
def wet:=@PyProof.Rows.callWith_kw
def weu:=@Int.mul_ediv_cancel_left
def wev:=@List.length_erase_of_mem
def wew:=@List.append_cancel_right
def wex:=@Nat.gcd_pos_of_pos_right
def wey:=@Nat.le_succ_of_le
def wez:=@List.foldl_append
def wfa:=@Nat.mul_left_comm
def wfb:=@PySem.rangeSize_one
def wfc:=@List.getElem?_replicate
def wfd:=@PySem.F.args_tuple_lt_2
def wfe:=@PySem.seq_tuple_add
def Wv:=@Prod.ext
def S8:=@if_true
def wfh:=@Nat.add_assoc
def wfi:=@PySem.wpAny_forIn_list
def wfj:=@Option.getD_some
def wfk:=@PySem.SeqAt.eqAt_reads
def wfl:=@PySem.AutoSeq1.idx_int
def wfm:=@Nat.gcd_dvd_left
def wfn:=@List.getElem?_set_self
def wfo:=@PySem.W.cellsFrom_some
def wfp:=@PySem.F.entry_tuple_lt
def wfq:=@PySem.W.methodCall_KW
def wfr:=@List.of_mem_zip
def wfs:=@PySem.concat_meets
def wft:=@PySem.wpAny_typeOf
def wfu:=@PyProof.Rows.IsTup.new
def wfv:=@List.length_singleton
def wfw:=@Nat.zero_add
def wfx:=@PySem.wpAny_dictEpoch
def wfy:=@Array.getElem?_toList
def wfz:=@Nat.sub_self
def wga:=@Int.ediv_nonneg
def wgb:=@Int.le_antisymm
def wgc:=@List.map_set
def wgd:=@List.map_id'
def wge:=@PyProof.Rows.boot_range
def wgf:=@PySem.typeIs_int
def wgg:=@PySem.Walks.list
def wgh:=@Bool.false_and
def wgi:=@List.nodup_nil
def wgj:=@PySem.IsRange.new
def wgk:=@PySem.wpAny_of_eq
def wgl:=@PySem.storedH_new
def wgm:=@Int.add_mul
def wgn:=@Nat.add_mul
def wgo:=@Bool.false_or
def wgp:=@List.all_cons
def wgq:=@Bool.true_and
def wgr:=@Nat.sub_le
def XH:=@PySem.W.mg_of
def wgt:=@Nat.succ_mul
def wgu:=@Nat.mul_zero
def wgv:=@Nat.lt_or_ge
def aF:=@List.length_map
def bC:=@List.map_append
def cY:=@List.mem_cons_of_mem
def cC:=@List.mem_cons_self
def eN:=@List.getElem?_eq_getElem
def aQ:=@Nat.le_refl
def gQ:=@List.getD_eq_getElem?_getD
def cV:=@List.getElem?_map
def fG:=@PySem.Heap.get?_push_of_some
def bR:=@Nat.le_trans
def ig:=@List.mem_append_right
def fV:=@List.mem_singleton
def cX:=@List.mem_cons
def oR:=@List.getElem?_eq_some_iff
def gw:=@List.size_toArray
def fD:=@List.mem_filter
def dF:=@List.mem_map
def jo:=@Nat.lt_of_lt_of_le
def dN:=@Nat.le_of_lt
def iW:=@List.all_eq_true
def lZ:=@PySem.Heap.get?_push_size
def nu:=@List.mem_of_getElem?
def eO:=@PySem.Heap.lt_size
def dX:=@Nat.zero_le
def oO:=@List.length_append
def sO:=@List.length_filter_le
def iQ:=@List.map_cons
def gP:=@Nat.ne_of_lt
def lM:=@List.mem_append
def qx:=@List.take_add_one
def qw:=@List.take_length
def rQ:=@List.length_take
def qC:=@List.mem_range
def wC:=@Int.toNat_natCast
def tL:=@List.append_nil
def wA:=@Nat.lt_succ_self
def wW:=@Nat.lt_succ_of_lt
def wB:=@List.length_cons
def oN:=@List.map_map
def yu:=@List.length_range
def Ed:=@List.getElem_of_mem
def Mu:=@Nat.mul_div_cancel_left
def Ao:=@List.filter_cons
def uw:=@Nat.lt_irrefl
def yt:=@List.range_succ
def yq:=@Nat.min_le_left
def Bb:=@List.getElem_mem
def Ba:=@Nat.succ_ne_zero
def HW:=@Nat.lt_of_le_of_lt
def J6:=@List.replicate_succ
def J5:=@List.filter_append
def tK:=@Int.le_refl
def J4:=@List.pairwise_map
def XF:=@Int.mul_le_mul_of_nonneg_left
def Wm:=@List.pairwise_iff_getElem
def S6:=@List.mem_append_left
def J0:=@List.lookup_cons
def Am:=@Nat.succ_pos
def TQ:=@List.getElem?_eq_none
def SX:=@List.map_congr_left
def Wk:=@List.filter_cons_of_pos
def Wj:=@List.filter_cons_of_neg
def JZ:=@List.nodup_cons
def HS:=@Int.mul_nonneg
def Az:=@Int.mul_zero
def SQ:=@Nat.lt_of_le_of_ne
def TJ:=@Array.length_toList
def XD:=@List.getElem?_cons_succ
def Ek:=@Int.le_of_lt
def XC:=@List.take_of_length_le
def Nf:=@Int.natCast_mul
def HN:=@Nat.ne_of_gt
def HJ:=@Nat.le_of_eq
def TF:=@List.flatten_cons
def HF:=@Nat.mul_comm
def ycx:=@List.pairwise_singleton
def Xz:=@Nat.pow_le_pow_right
def ycz:=@List.take_succ_eq_append_getElem
def yda:=@List.getElem?_append_right
def ydb:=@List.filter_eq_nil_iff
def ydc:=@List.pairwise_lt_range
def HD:=@Nat.le_succ
def Wi:=@Nat.le_of_lt_succ
def Xy:=@Int.toNat_of_nonneg
def Nb:=@Nat.mul_assoc
def ydh:=@List.length_replicate
def ydi:=@Int.mul_le_mul_of_nonneg_right
def JX:=@Int.one_mul
def ydk:=@List.pairwise_append
def ydl:=@List.getElem?_append
def Tz:=@PySem.Heap.size_push
def M9:=@Int.mul_comm
def M8:=@Int.zero_mul
def Xx:=@List.append_assoc
def Xw:=@Nat.gcd_dvd_right
def ydr:=@List.getElem?_range
def yds:=@List.filter_sublist
def ydt:=@List.mem_map_of_mem
def SN:=@List.all_map
def ydv:=@Nat.eq_zero_or_pos
def ydw:=@List.getElem?_append_left
def ydx:=@Nat.sub_one_lt_of_le
def ydy:=@List.any_eq_false
def Xv:=@List.length_nil
def Xu:=@Nat.le_antisymm
def yeb:=@Nat.succ_add_eq_add_succ
def Xr:=@Nat.not_lt_zero
def Xq:=@List.find?_cons
def yee:=@List.sublist_append_left
def Tw:=@Nat.lt_trans
def yeg:=@List.filterMap_cons
def Wh:=@List.any_cons
def yei:=@List.filter_eq_self
def Wg:=@Nat.le_of_dvd
def yek:=@Nat.gcd_pos_of_pos_left
def yel:=@Int.eq_ofNat_of_zero_le
def Xp:=@Nat.mul_le_mul
def yen:=@Array.getElem?_eq_none
def yeo:=@Nat.le_mul_of_pos_left
def yep:=@PySem.Heap.get?_update_self
def yeq:=@List.cons_lt_cons_iff
def Wd:=@Int.zero_add
def yet:=@Int.le_trans
def yeu:=@List.ext_getElem?
def Xo:=@Int.mul_assoc
def yew:=@Int.lt_trichotomy
def yex:=@Array.perm_iff_toList_perm
def yey:=@Int.eq_of_mul_eq_mul_right
def yez:=@Int.le_of_mul_le_mul_right
def yfa:=@Nat.le_sub_one_of_lt
def yfb:=@Array.getElem?_eq_getElem
def yfc:=@Int.eq_of_mul_eq_mul_left
def yfd:=@Nat.le_add_right
def yfe:=@Int.natCast_ediv
def yff:=@Nat.add_le_add_left
def yfg:=@List.length_pos_iff
def Wc:=@Int.mul_pos
def Xn:=@Int.le_of_eq
def yfj:=@List.pairwise_cons
def yfk:=@List.map_singleton
def yfl:=@Int.natAbs_mul
def yfm:=@List.map_nil
def yfn:=@Nat.pow_succ
def Z9:=@Int.ofNat_lt
theorem szl{n:Nat}(h:Nat.ble n 99=true:=by rfl):n<=PySem.sizeLine:=bR (Nat.le_of_ble_eq_true h) (by decide)
namespace Hd
open PySem PySem.W PySem.Calls PyProof.Rows
noncomputable def Yh(tb:String->Option Builtin)(p:χ)(w:ω)(m:Nat)(ann:Option ρ)(n:Nat):eC->Thread->Option SharedT:=
 @Nat.rec (λ_=>eC->Thread->Option eC) (λ_ _=>none)
  (λ_ ih s t=> @kg (λ_=>Option eC)
   (@kg (λ_=>Option eC) none
    (@Option.rec (eC×Thread) (λ_=>Option eC) none (λr=>ih r.1 r.2) (stepT (denote tb) p w s t)) (stepOk m ann t))
   (some s) (through t)) n
theorem Ui:∀(n:Nat) (s s':eC) (t:Thread),
  Yh tb p w m ann n s t=some s'->topRun tb p w m ann n s.abs t=some s'.abs:=by
 intro n
 induction n with
 |zero=>intro s s' t h;exact absurd h (by intro h;cases h)
 |succ n ih=>
  intro s s' t h;have h1: @kg (λ_=>Option eC) (@kg (λ_=>Option eC) none
    (@Option.rec (eC×Thread) (λ_=>Option eC) none (λr=>Yh tb p w m ann n r.1 r.2) (stepT (denote tb) p w s t)) (stepOk m ann t))
    (some s) (through t)=some s':=h
  unfold topRun;cases e1:through t with
  |true=>rw[e1]at h1;injection h1 with h1;rw[h1]
  |false=>
   rw[e1]at h1;cases e2:stepOk m ann t with
   |false=>rw[e2]at h1;cases h1
   |true=>
    rw[e2]at h1;cases e3:stepT (denote tb) p w s t with
    |none=>rw[e3]at h1;cases h1
    |some r=>
     rw[e3]at h1;have e4:=stepT_spec (s':=r.1) (t':=r.2) e3;show(match step (denote tb) p w s.abs t with | .go a b=>topRun tb p w m ann n a b| .halt _ _=>none)=_;rw[e4];exact ih _ _ _ h1
noncomputable def treeOf(l:List kE):BT:=(l.foldl (λx o=>(x.1.ins x.2 o,x.2+1)) ((BT.nil,0):BT×Nat)).1
noncomputable def ran(p:χ)(N:Nat)(w:ω)(os:gi):Option SharedT:=
 Yh treeTable p w 11 (some (.ref 6)) N ⟨treeOf (cE w.params).objs.toList,11,{},g9 [],gI,kU,os⟩ (topStub p)
noncomputable def looked(p q:χ)(loose:List bg)(Xt:τ->Bool)(g0:Bool)(h:bv)(s:τ):=
 ((staticsOk (eT p.main.body) h s.heap&&namesBound p s.heap&&gensDone s&&laidKept h s.heap),openSeen q loose (eT p.main.body) Xt g0 s)
noncomputable def rF(p q:χ)(loose:List bg)(Xt:τ->Bool)(g0:Bool)(N:Nat):Prop:=
 ∀(w:ω) (os:gi),(ran p N w os).map (λs=>looked p q loose Xt g0 (cE w.params) s.abs)=some (true,openGood q loose)
theorem Vk{α:Type}{Yf:τ->α}{Ya:ω->α}(r:rF p q loose Xt g0 N)(e:opening p=plainProg p.main.scope.names)(hN:Nat.ble 600 N=true)(f:∀s,fenceModules? p s=some s)(y:∀(w:ω) (os:gi),(ran p N w os).map (λs=>Yf s.abs)=some (Ya w)):
  LeftO p q loose Xt Yf Ya N g0:=λw=>by
 have b:((cE w.params).isNs ax&&(g9 []:Array GenState).size==0,(cE w.params).objs.size,(cE w.params).nsMap ax "__annotations__")=(true,11,some (.ref 6)):=by kernel_rfl
 have c:absHeap (treeOf (cE w.params).objs.toList) 11 {}=cE w.params:=by kernel_rfl
 obtain⟨⟨h,gs',d',k',os⟩,e1,e'⟩:=Option.map_eq_some_iff.mp (boot_open e hN f w);obtain⟨rfl,rfl,rfl,rfl⟩:h=cE w.params/\gs'=g9 []/\d'=gI/\k'=boot_toks:=by simpa using e'
 obtain⟨b1,b2,b3⟩:_/\_/\_:=by simpa only[Prod.mk.injEq]using b
 obtain⟨s,r1,r2⟩:=Option.map_eq_some_iff.mp (r w os);obtain⟨s',y1,y2⟩:=Option.map_eq_some_iff.mp (y w os);have es:s'=s:=by rw[r1]at y1;injection y1 with y1;exact y1.symm
 subst es;obtain⟨l1,l2⟩:_/\_:=by simpa only[looked,Prod.mk.injEq]using r2
 have t1:=Ui N _ _ _ r1;have ab:SharedT.abs ⟨treeOf (cE w.params).objs.toList,11,{},g9 [],gI,kU,os⟩=⟨cE w.params,g9 [],gI,kU,os⟩:=by unfold SharedT.abs;rw[c]
 rw[ab]at t1;have t:topFrom treeTable p w N ⟨cE w.params,g9 [],gI,kU,os⟩=some s'.abs:=by
  unfold topFrom;dsimp only;rw[b1,b2,b3,t1];show(match staticsOk (eT p.main.body) (cE w.params) s'.abs.heap&&namesBound p s'.abs.heap&&gensDone s'.abs&&laidKept (cE w.params) s'.abs.heap with |true=>_|false=>_)=_;rw[l1]
 unfold openEnds;rw[e1];show(topFrom treeTable p w N _).map _=_;rw[t];show some (_,_)=_;rw[l2,y2]
theorem two{α β γ:Type}{o:Option α}{f:α->β}{g:α->γ}{a:β}{b:γ}(h:o.map f=some a)(h':o.map g=some b):o.map (λs=>(f s,g s))=some (a,b):=by
 cases o with
 |none=>cases h
 |some s=>
  injection h with h
  injection h' with h'
  show some (f s,g s)=_;rw[h,h']
theorem Nt{α β γ:Type}{o:Option α}{f:α->β}{g:α->γ}{a:β}{b:γ}(h:o.map (λs=>(f s,g s))=some (a,b)):o.map f=some a/\o.map g=some b:=by
 cases o with
 |none=>cases h
 |some s=>
  injection h with h
  injection h with h h'
  exact⟨gR some h,gR some h'⟩
theorem both{α:Type}{o:Option α}{f g:α->Bool}(h:o.map f=some true)(h':o.map g=some true):o.map (λs=>f s&&g s)=some true:=by
 cases o with
 |none=>cases h
 |some s=>
  injection h with h
  injection h' with h'
  show some (f s&&g s)=_;rw[h,h'];rfl
section
variable(p q:χ)(Xt:τ->Bool)(N:Nat)
noncomputable abbrev GA:Prop:=∀(w:ω) (os:gi),(ran p N w os).map (λs=>(seen ((recsOf q).map (·.name)) (ownsOf q) [] {s.abs with gens:=#[]},s.abs.heap.bltView,s.abs.heap.isNs ax,s.abs.heap.isNs fF,tablesOk q s.abs.heap,s.abs.gens.size==0))=some (expectedOf q,bltViewBooted,true,true,true,true)
noncomputable abbrev GB:Prop:=∀(w:ω) (os:gi),(ran p N w os).map (λs=>(s.abs.heap.keysOk (looseW q []) ((recsOf q).map (·.name)) ((litsOf q).map (·.1)) ((clssOf q (looseW q [])).map (·.name)),(staticsOk (eT p.main.body) (cE w.params) s.abs.heap&&namesBound p s.abs.heap&&gensDone s.abs&&laidKept (cE w.params) s.abs.heap),s.abs.heap.accountedOkI (eT p.main.body),Xt s.abs,plainSeenD q [] s.abs))=some (true,true,true,true,plainGoodD q [])
noncomputable abbrev GC:Prop:=∀(w:ω) (os:gi),(ran p N w os).map (λs=>(tabsOk q s.abs,pinSeenD q (drecsOf q) s.abs))=some (true,pinGoodD (drecsOf q))
noncomputable abbrev GD:Prop:=∀(w:ω) (os:gi),(ran p N w os).map (λs=>plainSeenE q (looseW q []) s.abs)=some (plainGoodE q (looseW q []))
noncomputable abbrev GE:Prop:=∀(w:ω) (os:gi),(ran p N w os).map (λs=>(wideSeen q s.abs,clsSeenW q [] s.abs))=some (wideGood q,clsGoodW q [])
end
theorem QH(ga:GA p q N)(gb:GB p q Xt N)(gc:GC p q N)(gd:GD p q N)(ge:GE p q N):rF p q [] Xt true N:=λw os=>by
 obtain⟨h1,a2⟩:=Nt (ga w os);obtain⟨h2,a3⟩:=Nt a2;obtain⟨h5,a4⟩:=Nt a3;obtain⟨h6,a5⟩:=Nt a4;obtain⟨h7,h9⟩:=Nt a5;obtain⟨h3,b2⟩:=Nt (gb w os);obtain⟨h0,b3⟩:=Nt b2;obtain⟨h4,b4⟩:=Nt b3;obtain⟨h8,k4⟩:=Nt b4;obtain⟨k1,k2⟩:=Nt (gc w os);obtain⟨k5,k6⟩:=Nt (ge w os);exact two h0 (two h1 (two h2 (two (both (both (both (both (both (both h3 h4) h5) h6) h7) h8) h9) (two k1 (two k2 (two (gd w os) (two k4 (two k5 k6))))))))
end Hd
section
open PySem PySem.W PyProof.Rows
namespace Hd
noncomputable abbrev L:=PySem.Challenge.rw_hueshare_k46_whole_shares_go_with_ways
noncomputable def Q:χ:=view L.row.toRowW.prog [1,2,3,4,6,7,8,9,10,11,12,13,14,15,16,17,18,19,21,22,23,24,25,26,28,29,30,31,32,33,35,36,37,38,39,40,41,43,44,45,46,47,49,50,51,52,53,54,55,56,57,59,60,61,62,63,64,65,66]
noncomputable abbrev X:τ->Bool:=λs=>xlAt Q [] s&&recOk (RowW.records L.row.toRowW) s
set_option maxRecDepth 100000 in
theorem g0:GA L.row.toRowW.prog Q 6532:=λw os=>by kernel_rfl
set_option maxRecDepth 100000 in
theorem g1:GB L.row.toRowW.prog Q X 6532:=λw os=>by kernel_rfl
set_option maxRecDepth 100000 in
theorem g2:GC L.row.toRowW.prog Q 6532:=λw os=>by kernel_rfl
set_option maxRecDepth 100000 in
theorem g3:GD L.row.toRowW.prog Q 6532:=λw os=>by kernel_rfl
set_option maxRecDepth 100000 in
theorem g4:GE L.row.toRowW.prog Q 6532:=λw os=>by kernel_rfl
theorem looks:rF L.row.toRowW.prog Q [] X true 6532:=QH g0 g1 g2 g3 g4
end Hd
local macro_rules
 |`(tactic|o_head $H)=>`(tactic|
  refine holds_open (q:=Hd.Q) (loose:=[]) (N:=6532) (Xt:=Hd.X) (XP:=XL Hd.Q [])
   (Yf:=Hook.obs $H) (Ya:=Hook.val $H) (YP:=Hook.says $H)
   (Hd.Vk Hd.looks (by kernel_rfl) rfl (λ_=>by kernel_rfl) (λ_ _=>by kernel_rfl))
   (Hook.of $H) (Hook.keeps $H) (λs e=>xl_of s (Bool.and_eq_true_iff.mp e).1) XL.keeps
   (by rfl) (by rfl) (by rfl) (λs e=>recFacts_of (Bool.and_eq_true_iff.mp e).2) (by rfl)
   (by first |assumption|decide+kernel) (by decide+kernel) ⟨rfl,rfl,rfl,rfl,rfl,by decide+kernel⟩ ?hw ?hc)
set_option maxRecDepth 100000 in
set_option maxHeartbeats 0 in
noncomputable def Hd.early:PSigma λP:Prop=>P->PySem.Challenge.rw_hueshare_k46_whole_shares_go_with_ways.Holds:=by
 refine⟨?P,λW=>?_⟩
 rotate_left
 w_on;o_law;k_head;(case hw=>w_witness2)
 exact W
end
namespace L2
open PySem PySem.Spec PyProof.Rows
noncomputable abbrev Key:=Sum Int bg
noncomputable def keyIs:Key->ρ->Bool
 | .inl k,v=>Value.isInt k v
 | .inr x,v=>Value.isStrOf x v
noncomputable def keyH(w:ω):Key->Int
 | .inl k=>hashInt k
 | .inr x=>hashStr w x
theorem SM:∀{k:Key}{v:ρ},keyIs k v=true->(∃i t,k=bc i/\v=bu i t)\/(∃x t,k=gu x/\v=ib x t)
 | .inl i,v,h=>by
  obtain⟨t,e⟩:=Value.isInt_shape (k:=i) (v:=v) h;exact .inl ⟨i,t,rfl,e⟩
 | .inr x,v,h=>by
  obtain⟨t,e⟩:=Value.isStrOf_shape (x:=x) (v:=v) h;exact .inr ⟨x,t,rfl,e⟩
theorem keyIs_int(i)(t):keyIs (.inl i) (.int i t)=true:=by simp[keyIs,Value.isInt]
theorem keyIs_str(x)(t):keyIs (.inr x) (.str x t)=true:=by simp[keyIs,Value.isStrOf]
theorem key_ll(a b):decide ((bc a:Key)=bc b)=(a==b):=by
 by_cases e:a=b
 ·subst e;simp
 ·have h:¬(bc a:Key)=bc b:=λq=>e (Sum.inl.inj q);rw[gj h];exact(beq_eq_false_iff_ne.mpr e).symm
theorem key_rr(a b):decide ((gu a:Key)=gu b)=decide (a=b):=by
 by_cases e:a=b
 ·subst e;simp
 ·have h:¬(gu a:Key)=gu b:=λq=>e (Sum.inr.inj q);rw[gj h,gj e]
theorem key_lr(a)(b):decide ((bc a:Key)=gu b)=false:=gj (λq=>nomatch q)
theorem key_rl(a)(b):decide ((gu a:Key)=bc b)=false:=gj (λq=>nomatch q)
noncomputable def mixKind(prog:χ)(w:ω):PySem.KeyKind prog w Key where
 is:=keyIs
 hash:=keyH w
 inj:=λv a b ha hb=>by
  rcases SM ha with⟨i,t,rfl,rfl⟩|⟨x,t,rfl,rfl⟩
  ·rcases SM hb with⟨j,u,rfl,e⟩|⟨y,u,rfl,e⟩
   ·injection e with e1 _;rw[e1]
   ·exact nomatch e
  ·rcases SM hb with⟨j,u,rfl,e⟩|⟨y,u,rfl,e⟩
   ·exact nomatch e
   ·injection e with e1 _;rw[e1]
 byValue:=λk v h=>by
  rcases SM h with⟨i,t,rfl,rfl⟩|⟨x,t,rfl,rfl⟩<;>rfl
 pyHash:=λhv h=>by
  rcases SM hv with⟨i,t,rfl,rfl⟩|⟨x,t,rfl,rfl⟩
  ·exact wpAny_pyHash_int h
  ·exact wpAny_pyHash_str h
 eqBool:=λhu hv h=>by
  rcases SM hu with⟨i,t,rfl,rfl⟩|⟨x,t,rfl,rfl⟩
  ·rcases SM hv with⟨j,u,rfl,rfl⟩|⟨y,u,rfl,rfl⟩
   ·rw[key_ll]at h;exact wpAny_eqBool_int h
   ·rw[key_lr]at h;exact SeqAt.EqAt.int_str i t y u _ _ _ _ h
  ·rcases SM hv with⟨j,u,rfl,rfl⟩|⟨y,u,rfl,rfl⟩
   ·rw[key_rl]at h;exact SeqAt.EqAt.str_int x t j u _ _ _ _ h
   ·rw[key_rr]at h;exact wpAny_eqBool_str h
 «strs»:=λk x t v h=>by
  rcases SM h with⟨i,u,rfl,e⟩|⟨y,u,rfl,e⟩
  ·exact nomatch e
  ·injection e with e1 _
   subst e1;cases v<;>rfl
theorem mixKind_int(prog)(w)(i)(t):(mixKind prog w).is (.inl i) (.int i t)=true:=keyIs_int i t
theorem mixKind_str(prog)(w)(x)(t):(mixKind prog w).is (.inr x) (.str x t)=true:=keyIs_str x t
inductive V where
 |non|bl (b:Bool)|int (i:Int)|str (x:bg)|byt (b:Array UInt8)|flt (b:UInt64)|ref (a:af)|ty (n:String)
 deriving DecidableEq
noncomputable def RelV:V->ρ->Prop
 | .non,u=>u=bd
 | .bl b,u=>u=dA b
 | .int i,u=>∃t,u=bu i t
 | .str x,u=>∃t,u=ib x t
 | .byt b,u=>∃t,u=Value.bytes b t
 | .flt b,u=>∃t,u=Value.float b t
 | .ref a,u=>u=aC a
 | .ty n,u=>u=cM n
noncomputable abbrev Vals:List V->List ρ->Prop:=bI RelV
theorem Vals.length(r:Vals xs us):xs.length=us.length:=S9 r
theorem Vals.get:∀{xs:List V}{us:List ρ}{i:Nat}{x:V},Vals xs us->xs[i]? =some x->∃u,us[i]? =some u/\RelV x u
 |_,_,_,_,.nil,e=>by simp at e
 |_,_,0,_,.cons r _,e=>by simp at e;subst e;exact⟨_,rfl,r⟩
 |_,_,i+1,x,.cons _ t,e=>by
  obtain⟨u,h1,h2⟩:=Vals.get (i:=i) (x:=x) t (by simpa using e);exact⟨u,by simpa using h1,h2⟩
theorem Vals.set(r:RelV x u):∀{xs:List V}{us:List ρ} (i:Nat),Vals xs us->Vals (xs.set i x) (us.set i u)
 |_,_,_,.nil=>.nil
 |_,_,0,.cons _ t=>.cons r t
 |_,_,i+1,.cons q t=>.cons q (Vals.set r i t)
theorem Vals.append:∀{xs ys:List V}{us ws:List ρ},Vals xs us->Vals ys ws->Vals (xs++ys) (us++ws)
 |_,_,_,_,.nil,s=>s
 |_,_,_,_,.cons r t,s=>.cons r (Vals.append t s)
theorem Vals.take:∀{xs:List V}{us:List ρ} (n:Nat),Vals xs us->Vals (xs.take n) (us.take n)
 |_,_,0,_=>.nil
 |_,_,_+1,.nil=>.nil
 |_,_,n+1,.cons r t=>.cons r (Vals.take n t)
theorem Vals.drop:∀{xs:List V}{us:List ρ} (n:Nat),Vals xs us->Vals (xs.drop n) (us.drop n)
 |_,_,0,r=>r
 |_,_,_+1,.nil=>.nil
 |_,_,n+1,.cons _ t=>Vals.drop n t
noncomputable def RelO:Option V->Option ρ->Prop
 |some v,some u=>RelV v u
 |none,none=>True
 |_,_=>False
noncomputable def KV{κ:Type}:List (κ×V)->List (κ×ρ)->Prop:=bI λ(p:κ×V) (q:κ×ρ)=>p.1=q.1/\RelV p.2 q.2
noncomputable def kV:Key->V
 | .inl i=>.int i
 | .inr x=>.str x
inductive HO where
 |lst (xs:List V)
 |tup (xs:List V)
 |dK (kvs:List (Key×V))|dT (kvs:List (List Key×V))
 |set (S:Int->Bool) (n:Nat)
 |ins (C dx:af) (fs:List (bg×V))
 |own (x:af)
 |xd (fs:List (bg×V))
 |met (f x:af)
 |rng (lo hi:Int)
 |frz (o:kE) (u:HO)
 |tbl (ps:Array ρ)
 |ext (φ:bv->Prop)
noncomputable abbrev Hp:=af->Option HO
noncomputable def upd(H:Hp)(a:af)(o:HO):Hp:=λb=>if b=a then some o else H b
theorem aH:upd H a o a=some o:=by unfold upd;rw[au rfl]
theorem cW(h:b≠a):upd H a o b=H b:=by unfold upd;rw[ao h]
theorem ne_of{H:Hp}(h:H a=some o)(h':H b=some u)(d:o≠u):a≠b:=by
 intro e;subst e;rw[h]at h';exact d (ux h')
theorem jr{H:Hp}(h:H a=some o)(h':H b=none):a≠b:=by
 intro e;subst e;rw[h]at h';cases h'
section
variable(P:χ)(w:ω)
noncomputable def ObjOk(H:Hp)(h:bv)(a:af):HO->Prop
 | .lst xs=>xs.length<=sizeLine/\∃(its:List ρ) (n:Nat),Vals xs its/\h.get? a=some {cls:=.type "list",data:=.seq its.toArray n}
 | .tup xs=>xs.length<=sizeLine/\∃its:List ρ,Vals xs its/\gY h a its.toArray
 | .dK kvs=>kvs.length<=sizeLine/\(a==bz)=false/\∃vs,KV kvs vs/\h.DictOf (mixKind P w) a vs
 | .dT kvs=>kvs.length<=sizeLine/\(a==bz)=false/\∃xs:List (List Key×af×ρ),
   bI (λ(p:List Key×V) (q:List Key×af×ρ)=>p.1=q.1/\H q.2.1=some (.tup (p.1.map kV))/\RelV p.2 q.2.2) kvs xs/\
   ∃o es ep,h.get? a=some o/\o.ExactDict/\o.data=.dict es ep/\es.toList=xs.map (entryOfKey (gm (mixKind P w)))/\(xs.map (·.1)).Nodup
 | .set S n=>h.SetOf (intKind P w) a S n
 | .ins C dx fs=>H dx=some (.own a)/\fs.length<=1000/\dx≠a/\h.get? a=some (fb C dx)/\
   ∃mA,h.Ns1 dx mA/\(∀f,RelO (fs.lookup f) (mA f))/\ij mA (fs.map (·.1))
 | .own _=>∃o,h.get? a=some o
 | .xd fs=>∃mA,h.Ns1 a mA/\∀f,RelO (fs.lookup f) (mA f)
 | .rng lo hi=>∃t u v,h.get? a=some {cls:=.type "range",data:=.fields #[.int lo t,.int hi u,.int 1 v]}
 | .frz o u=>h.get? a=some o/\ObjOk H h a u
 | .tbl ps=>h.get? a=some {cls:=.none,data:=.fields ps}
 | .met f x=>h.get? a=some (m4 (.ref f) (.ref x))
 | .ext φ=>φ h/\(∃o,h.get? a=some o)/\∀h1 h2:bv,φ h1->(∀o,h1.get? a=some o->h2.get? a=some o)->φ h2
noncomputable def HOk(H:Hp)(h:bv):Prop:=∀a o,H a=some o->ObjOk P w H h a o
end
section
variable{P:χ}{w:ω}{H H':Hp}{h h':bv}{a:af}{o:HO}
theorem ObjOk.lt(x:ObjOk P w H h a o):a<h.objs.size:=by
 cases o with
 |lst xs=>obtain⟨_,_,_,_,e⟩:=x;exact eO e
 |tup xs=>obtain⟨_,_,_,p⟩:=x;exact p.lt
 |dK kvs=>obtain⟨_,_,_,_,o,_,_,e,_⟩:=x;exact eO e
 |dT kvs=>obtain⟨_,_,_,_,o,_,_,e,_⟩:=x;exact eO e
 |set S n=>obtain⟨o,_,_,_,e,_⟩:=x;exact eO e
 |ins C dx fs=>obtain⟨_,_,_,e,_⟩:=x;exact eO e
 |own y=>obtain⟨_,e⟩:=x;exact eO e
 |xd fs=>obtain⟨_,⟨_,_,_,e,_⟩,_⟩:=x;exact eO e
 |rng lo hi=>obtain⟨_,_,_,e⟩:=x;exact eO e
 |frz ob u=>obtain⟨e,_⟩:=x;exact eO e
 |tbl ps=>exact eO (show h.get? a=some _ from x)
 |met f y=>exact eO (show h.get? a=some _ from x)
 |ext φ=>obtain⟨_,⟨_,e⟩,_⟩:=x;exact eO e
theorem Paired.mapP{α β:Type}{F G:α->β->Prop}:∀{l₁:List α}{l₂:List β},bI F l₁ l₂->(∀a b,F a b->G a b)->bI G l₁ l₂
 |_,_,.nil,_=>.nil
 |_,_,.cons r t,f=>.cons (f _ _ r) (Paired.mapP t f)
theorem ObjOk.stay(x:ObjOk P w H h a o)(k:∀b u,(b=a\/H b=some (.own a))->h.get? b=some u->h'.get? b=some u)(ho:∀b,H b=some (.own a)->H' b=some (.own a))(ht:∀b xs,H b=some (.tup xs)->H' b=some (.tup xs)):ObjOk P w H' h' a o:=by
 induction o with
 |lst xs=>obtain⟨z,its,n,r,e⟩:=x;exact⟨z,its,n,r,k _ _ (.inl rfl) e⟩
 |tup xs=>obtain⟨z,its,r,ob,e,c⟩:=x;exact⟨z,its,r,ob,k _ _ (.inl rfl) e,c⟩
 |dK kvs=>obtain⟨z,y,vs,r,ob,es,ep,e,c⟩:=x;exact⟨z,y,vs,r,ob,es,ep,k _ _ (.inl rfl) e,c⟩
 |dT kvs=>
  obtain⟨z,y,xs,r,ob,es,ep,e,c⟩:=x;exact⟨z,y,xs,Paired.mapP r λp q z=>⟨z.1,ht _ _ z.2.1,z.2.2⟩,ob,es,ep,k _ _ (.inl rfl) e,c⟩
 |set S n=>obtain⟨ob,es,ep,t,e,c⟩:=x;exact⟨ob,es,ep,t,k _ _ (.inl rfl) e,c⟩
 |ins C dx fs=>
  obtain⟨d,z,ne,e,mA,⟨od,es,ep,e2,c⟩,r⟩:=x;exact⟨ho _ d,z,ne,k _ _ (.inl rfl) e,mA,⟨od,es,ep,k _ _ (.inr d) e2,c⟩,r⟩
 |own y=>obtain⟨ob,e⟩:=x;exact⟨ob,k _ _ (.inl rfl) e⟩
 |xd fs=>obtain⟨mA,⟨od,es,ep,e,c⟩,r⟩:=x;exact⟨mA,⟨od,es,ep,k _ _ (.inl rfl) e,c⟩,r⟩
 |rng lo hi=>obtain⟨t,u,v,e⟩:=x;exact⟨t,u,v,k _ _ (.inl rfl) e⟩
 |frz ob u ih=>obtain⟨e,q⟩:=x;exact⟨k _ _ (.inl rfl) e,ih q⟩
 |tbl ps=>
  have e:h.get? a=some {cls:=.none,data:=.fields ps}:=x;show h'.get? a=some {cls:=.none,data:=.fields ps};exact k a _ (.inl rfl) e
 |met f y=>
  have e:h.get? a=some (m4 (.ref f) (.ref y)):=x;show h'.get? a=some (m4 (.ref f) (.ref y));exact k a _ (.inl rfl) e
 |ext φ=>obtain⟨p,⟨o,e⟩,st⟩:=x;exact⟨st _ _ p λo q=>k _ _ (.inl rfl) q,⟨o,k _ _ (.inl rfl) e⟩,st⟩
theorem HOk.lt(x:HOk P w H h)(e:H a=some o):a<h.objs.size:=(x a o e).lt
theorem HOk.fresh(x:HOk P w H h)(e:h.objs.size<=a):H a=none:=by
 cases q:H a with
 |none=>rfl
 |some u=>exact absurd (jo (x.lt q) e) (uw _)
theorem HOk.kept(x:HOk P w H h)(k:∀b u,h.get? b=some u->h'.get? b=some u):HOk P w H h':=λa o e=>
 (x a o e).stay (λb u _ q=>k b u q) (λ_ q=>q) λ_ _ q=>q
theorem HOk.laid(x:HOk P w H h)(k:∀b u,h.get? b=some u->h'.get? b=some u)(hp:h.objs.size<=a)(new:ObjOk P w (upd H a o) h' a o):HOk P w (upd H a o) h':=λb u e=>by
 have hn:=x.fresh hp;by_cases hb:b=a
 ·subst hb;rw[aH]at e;cases e;exact new
 ·rw[cW hb]at e;exact(x b u e).stay (λc v _ q=>k c v q) (λc q=>by rw[cW (jr q hn)];exact q) λc xs q=>by rw[cW (jr q hn)];exact q
end
noncomputable def Rd(H:Hp)(a:af)(u:HO):Prop:=H a=some u\/∃o,H a=some (.frz o u)
theorem Rd.ok(r:Rd H a u)(x:HOk P w H h):ObjOk P w H h a u:=by
 rcases r with r|⟨o,r⟩
 ·exact x a u r
 ·obtain⟨_,q⟩:=x a _ r;exact q
noncomputable def Mut:Option HO->Prop
 |some (.lst _)=>True
 |some (.dK _)=>True
 |some (.dT _)=>True
 |some (.set _ _)=>True
 |some (.ins _ _ _)=>True
 |some (.ext _)=>True
 |_=>False
section
variable{P:χ}{w:ω}{H:Hp}{h h':bv}{x e:af}{o':HO}
theorem HOk.write(ok:HOk P w H h)(mu:Mut (H x))(he:e=x\/H e=some (.own x))(k:∀b u,b≠e->h.get? b=some u->h'.get? b=some u)(heo:∃u,h'.get? e=some u)(new:ObjOk P w (upd H x o') h' x o'):HOk P w (upd H x o') h':=λb u q=>by
 have nown:∀c y,H c=some (.own y)->c≠x:=λc y r z=>by subst z;rw[r]at mu;exact mu
 have ntup:∀c xs,H c=some (.tup xs)->c≠x:=λc xs r z=>by subst z;rw[r]at mu;exact mu
 by_cases hb:b=x
 ·subst hb;rw[aH]at q;cases q;exact new
 ·rw[cW hb]at q;by_cases hbe:b=e
  ·have q':H b=some (.own x):=by
    rcases he with z|z
    ·exact absurd (hbe.trans z) hb
    ·rw[hbe];exact z
   rw[q]at q';cases q';obtain⟨v,hv⟩:=heo;exact⟨v,by rw[hbe];exact hv⟩
  ·refine(ok b u q).stay (λc v hc r=>k c v ?_ r) (λc r=>by rw[cW (nown c b r)];exact r) λc xs r=>by rw[cW (ntup c xs r)];exact r
   rcases hc with rfl|hc
   ·exact hbe
   ·rintro rfl;rcases he with z|z
    ·exact nown c b hc z
    ·rw[hc]at z;cases z;exact hb rfl
end
structure Un(fs ex:η)(H H':Hp)(h h':bv):Prop where
 keep:∀b o,h.get? b=some o->H b=none->b∉fs->b∉ex->h'.get? b=some o
 slot:∀b o,h.get? b=some o->H b=none->b∈fs->b∉ex->∃sl,h'.get? b=some {o with slots:=sl}
 free:∀b o,h.get? b=some o->H b=none->b∉ex->H' b=none
 there:∀b o,h.get? b=some o->b∉ex->∃o',h'.get? b=some o'
 tups:∀b xs,H b=some (.tup xs)->H' b=some (.tup xs)
 frzs:∀b o u,H b=some (.frz o u)->H' b=some (.frz o u)
 tbls:∀b ps,H b=some (.tbl ps)->∃more,H' b=some (.tbl (ps++more))
section
variable{fs ex:η}{H H1:Hp}{h h1 h':bv}{a x e:af}{o:HO}
theorem Un.any(u:Un fs ex H H1 h h1)(q:h.get? b=some ob)(n:H b=none)(hx:b∉ex):∃sl,h1.get? b=some {ob with slots:=sl}:=by
 by_cases hb:b∈fs
 ·exact u.slot b ob q n hb hx
 ·exact⟨ob.slots,u.keep b ob q n hb hx⟩
theorem Un.kept(k:∀b u,h.get? b=some u->h'.get? b=some u):Un fs ex H H h h':=
 ⟨λb ob q _ _ _=>k b ob q,λb ob q _ _ _=>⟨ob.slots,k b ob q⟩,λ_ _ _ n _=>n,λb ob q _=>⟨ob,k b ob q⟩,λ_ _ q=>q,λ_ _ _ q=>q,λ_ ps q=>⟨#[],by rw[q];simp⟩⟩
theorem Un.refl:Un fs ex H H h h:=Un.kept λ_ _ q=>q
theorem Un.laid(k:∀b u,h.get? b=some u->h'.get? b=some u)(hp:h.objs.size<=a)(hn:H a=none):Un fs ex H (upd H a o) h h' where
 keep:=λb u q _ _ _=>k b u q
 slot:=λb u q _ _ _=>⟨u.slots,k b u q⟩
 free:=λb u q n _=>by rw[cW (gP (jo (eO q) hp))];exact n
 there:=λb u q _=>⟨u,k b u q⟩
 tups:=λb xs q=>by rw[cW (jr q hn)];exact q
 frzs:=λb u xs q=>by rw[cW (jr q hn)];exact q
 tbls:=λb ps q=>⟨#[],by rw[cW (jr q hn),q];simp⟩
theorem Un.write(mu:Mut (H x))(he:e=x\/H e=some (.own x))(k:∀b u,b≠e->h.get? b=some u->h'.get? b=some u)(heo:∃u,h'.get? e=some u):Un fs ex H (upd H x o) h h':=by
 have hx:∀b,H b=none->b≠x:=λb n z=>by subst z;rw[n]at mu;exact mu
 have hb:∀b,H b=none->b≠e:=λb n z=>by
  subst z;rcases he with r|r
  ·exact hx b n r
  ·rw[n]at r;cases r
 have hm:∀b u,H b=some u->¬Mut (some u)->b≠x:=λb u q nm z=>by subst z;rw[q]at mu;exact nm mu
 refine⟨λb u q n _ _=>k b u (hb b n) q,λb u q n _ _=>⟨u.slots,k b u (hb b n) q⟩,λb u q n _=>by rw[cW (hx b n)];exact n,λb u q _=>?_,
  λb xs q=>by rw[cW (hm b _ q λz=>z)];exact q,λb u xs q=>by rw[cW (hm b _ q λz=>z)];exact q,λb ps q=>⟨#[],by rw[cW (hm b _ q λz=>z),q];simp⟩⟩
 by_cases hbe:b=e
 ·subst hbe;exact heo
 ·exact⟨u,k b u hbe q⟩
end
noncomputable def trk(h:bv)(H:Hp):η:=(ai h.objs.size).filter λa=>(H a).isSome
noncomputable def hidT(h:bv)(H:Hp):Heap:=W.hideAll h (trk h H)
theorem hidT_size(h)(H):(hidT h H).objs.size=h.objs.size:=W.hideAll_size _ _
theorem hidT_get(e:h.get? b=some o)(n:H b=none):(hidT h H).get? b=some o:=
 W.hideAll_get _ e λhm=>by
  have q:(H b).isSome=true:=(fD.mp hm).2;rw[n]at q;simp at q
theorem of_hidT(e:(hidT h H).get? b=some o):h.get? b=some o/\H b=none:=by
 have e':h.get? b=some o:=W.of_hideAll (trk h H) e;refine⟨e',?_⟩;cases q:H b with
 |none=>rfl
 |some x=>
  have hm:b∈trk h H:=fD.mpr ⟨qC.mpr (eO e'),by simp[q]⟩;have z:(hidT h H).get? b=none:=W.hideAll_none (trk h H) hm;rw[z]at e;cases e
structure Mod(K:ag)(mg:L5)(base:bv):Prop where
 kin:K.In base
 glob:base.Ns ax mg
 blt:∃mb,base.Ns fF mb/\∀x:bg,x≠"__name__"->mb x=bP x
 nolimit:base.NoLimit
structure Cx where
 prog:χ
 w:ω
 K:ag
 mg:bg->Option ρ
 base:bv
 A:bp
 N:List bg
 s₀:τ
 H₀:Hp
 env:kF
 outer:List kF
 stack:List kF
 ex:η
 fn:bg->Bool
 calm:Bool
 pn:L3
 xe:ρ->τ->Prop
noncomputable def frs(l:List kF):η:=l.filterMap (·.frame)
noncomputable abbrev Cx.fs(X:Cx):η:=frs X.outer
noncomputable def Vis(sc:dC)(x:bg):Prop:=sc.names.lookup x=some .local\/sc.names.lookup x=some .cell\/sc.names.lookup x=some .free
noncomputable def Loc(sc:dC)(x:bg):Prop:=sc.names.lookup x=some .local\/sc.names.lookup x=some .cell
noncomputable def Look(env:kF)(h:bv)(m:L5)(x:bg)(u:ρ):Prop:=
 (env.kindOf x=some .local/\m x=some u)\/((env.kindOf x=some .cell\/env.kindOf x=some .free)/\∃c,env.cells.lookup x=some c/\h.IsCell c (some u))
structure Cx.Ok(X:Cx):Prop where
 mod:Mod X.K X.mg X.base
 kind:X.env.scope.kind=.function
 glob:X.env.globals=ax
 blt:X.env.builtins=fF
 above:X.s₀.heap.objs.size<=X.env.locals
 inj:∀x y c,X.env.cells.lookup x=some c->X.env.cells.lookup y=some c->x=y
 has:∀x,(X.env.kindOf x=some .cell\/X.env.kindOf x=some .free)->∃c,X.env.cells.lookup x=some c
 cab:∀x c,X.fn x=true->X.env.cells.lookup x=some c->X.s₀.heap.objs.size<=c
 hd:X.calm=true->X.A.handled=none
 frames:X.A.frames=some X.stack
 stk:X.stack=X.outer\/(X.stack=X.env::X.outer/\X.env.frame=some X.env.locals)
 exf:∀b∈X.ex,b≠X.env.locals/\∀x c,X.env.cells.lookup x=some c->c≠b
 bs:∀b o,X.base.get? b=some o->X.s₀.heap.get? b=some o/\X.H₀ b=none
 bsz:X.base.objs.size<=X.s₀.heap.objs.size
 noex:∀b o,X.base.get? b=some o->b∉X.ex
 exfs:∀b∈X.ex,b∉X.fs
 funs:X.s₀.heap.FunFrames X.base X.outer
 frf:∀b∈X.fs,X.H₀ b=none
structure Inv(X:Cx)(aa:L3)(σ:List (Option V))(H:Hp)(s:τ):Prop where
 ok:X.Ok
 os:s.os=X.s₀.os
 bare:fc s.gens
 base:Un X.fs X.ex X.H₀ H X.s₀.heap s.heap
 loc:∃m,s.heap.Ns X.env.locals m/\∀(i:Nat) (x:bg) (v:V),X.N[i]? =some x->σ[i]? =some (some v)->Vis X.env.scope x->∃u,RelV v u/\Look X.env s.heap m x u
 cell:∀x c,X.env.cells.lookup x=some c->∃v,s.heap.IsCell c v
 free:H X.env.locals=none
 freeC:∀x c,X.env.cells.lookup x=some c->H c=none
 pin:∀p∈X.pn++aa,s.heap.get? p.1=some p.2/\H p.1=none/\p.1≠X.env.locals/\p.1∉X.fs/\∀v,p.2.data≠.cell v
 hok:HOk X.prog X.w H s.heap
 len:σ.length=X.N.length
section
variable{X:Cx}{aa:L3}{σ:List (Option V)}{H H':Hp}{s:τ}{h':bv}
theorem Cx.Ok.nofr(ok:X.Ok)(e:X.base.get? b=some o):b∉X.fs:=λhb=>by
 have:=(ok.funs.mem hb).1;rw[e]at this;cases this
theorem Inv.bs(I:Inv X aa σ H s):∀b o,X.base.get? b=some o->s.heap.get? b=some o/\H b=none:=λb o e=>
 ⟨I.base.keep b o (I.ok.bs b o e).1 (I.ok.bs b o e).2 (I.ok.nofr e) (I.ok.noex b o e),I.base.free b o (I.ok.bs b o e).1 (I.ok.bs b o e).2 (I.ok.noex b o e)⟩
theorem Inv.bk(I:Inv X aa σ H s):∀b o,X.base.get? b=some o->s.heap.get? b=some o:=λb o e=>(I.bs b o e).1
theorem Inv.mod(I:Inv X aa σ H s):Mod X.K X.mg X.base:=I.ok.mod
theorem Inv.kIn(I:Inv X aa σ H s):X.K.In s.heap:=I.ok.mod.kin.keeps I.bk
theorem Inv.nolimit(I:Inv X aa σ H s):s.heap.NoLimit:=I.ok.mod.nolimit.keeps I.bk
theorem Inv.lt(I:Inv X aa σ H s):X.env.locals<s.heap.objs.size:=let⟨_,hn,_⟩:=I.loc;hn.lt
theorem Inv.sz(I:Inv X aa σ H s):X.s₀.heap.objs.size<=s.heap.objs.size:=bR I.ok.above (dN I.lt)
theorem Inv.nofs(I:Inv X aa σ H s){a:af}(h:s.heap.objs.size<=a):a∉X.fs:=λhb=>by
 obtain⟨_,o,ho,_⟩:=I.ok.funs.mem hb;exact absurd (jo (eO ho) (bR I.sz h)) (uw _)
theorem Inv.cne(I:Inv X aa σ H s):∀x c,X.env.cells.lookup x=some c->c≠X.env.locals:=λx c e z=>by
 obtain⟨v,o,ho,hd⟩:=I.cell x c e;obtain⟨m,⟨o',es,ep,ho',hd',_⟩,_⟩:=I.loc;rw[z,ho']at ho;cases ho;rw[hd']at hd;cases hd
theorem Inv.funs(I:Inv X aa σ H s):s.heap.FunFrames X.base X.outer:=by
 have all:∀(l:List kF),(∀b∈frs l,b∈X.fs)->X.s₀.heap.FunFrames X.base l->s.heap.FunFrames X.base l:=by
  intro l
  induction l with
  |nil=>intro _ _;trivial
  |cons env r ih=>
   intro hs hl;obtain⟨hk,⟨L,o,hf,hn,ho,hd⟩,hr⟩:=hl;have hL:L∈X.fs:=hs L (by unfold frs;rw[yeg,hf];exact cC);obtain⟨sl,e⟩:=I.base.slot L o ho (I.ok.frf L hL) hL λz=>I.ok.exfs L z hL;exact⟨hk,⟨L,_,hf,hn,e,hd⟩,ih (λb hb=>hs b (by unfold frs;rw[yeg,hf];exact cY _ hb)) hr⟩
 exact all X.outer (λ_ hb=>hb) I.ok.funs
theorem Inv.stack(I:Inv X aa σ H s):s.heap.FunFrames X.base X.stack:=by
 rcases I.ok.stk with e|⟨e,hf⟩
 ·rw[e];exact I.funs
 ·rw[e];obtain⟨m,hn,_⟩:=I.loc;refine .cons (by rw[I.ok.kind];decide) hf hn ?_ I.funs;exact Heap.get?_none_of_le (bR I.ok.bsz I.ok.above)
theorem Inv.stkSub(I:Inv X aa σ H s):∀b∈frs X.stack,b∈X.env.locals::X.fs:=λb hb=>by
 rcases I.ok.stk with e|⟨e,hf⟩
 ·rw[e]at hb;exact cY _ hb
 ·rw[e]at hb;unfold frs at hb;rw[yeg,hf]at hb;exact hb
theorem Inv.stkFree(I:Inv X aa σ H s):∀b∈frs X.stack,H b=none:=λb hb=>by
 rcases cX.mp (I.stkSub b hb)with e|hb
 ·rw[e];exact I.free
 ·obtain⟨_,o,ho,_⟩:=I.ok.funs.mem hb;exact I.base.free b o ho (I.ok.frf b hb) λz=>I.ok.exfs b z hb
theorem Inv.step{ch:η}(I:Inv X aa σ H s)(hch:∀b∈ch,(b∈X.ex\/X.s₀.heap.objs.size<=b)/\b≠X.env.locals/\(∀x c,X.env.cells.lookup x=some c->c≠b)/\∀p∈X.pn++aa,p.1≠b)(keep:∀b o,b≠X.env.locals->b∉X.fs->b∉ch->s.heap.get? b=some o->H b=none->h'.get? b=some o)(slot:∀b o,b≠X.env.locals->b∈X.fs->b∉ch->s.heap.get? b=some o->H b=none->∃sl,h'.get? b=some {o with slots:=sl})(free:∀b o,b∉ch->s.heap.get? b=some o->H b=none->H' b=none)(there:∀b o,b∉ch->s.heap.get? b=some o->∃o',h'.get? b=some o')(tups:∀b xs,H b=some (.tup xs)->H' b=some (.tup xs))(frzs:∀b o u,H b=some (.frz o u)->H' b=some (.frz o u))(tbls:∀b ps,H b=some (.tbl ps)->∃more,H' b=some (.tbl (ps++more)))(ns:∀m,s.heap.Ns X.env.locals m->h'.Ns X.env.locals m)(hok:HOk X.prog X.w H' h')(hg:fc g'):
  Inv X aa σ H' {s with heap:=h',gens:=g',drawn:=d',toks:=t'}:=by
 have neL:∀b o,X.s₀.heap.get? b=some o->b≠X.env.locals:=λb o e=>gP (jo (eO e) I.ok.above);have neC:∀b o,X.s₀.heap.get? b=some o->b∉X.ex->b∉ch:=λb o e hx hb=>by
  rcases(hch b hb).1 with z|z
  ·exact hx z
  ·exact absurd (jo (eO e) z) (uw _)
 have cellK:∀x c,X.env.cells.lookup x=some c->∀v,s.heap.IsCell c v->h'.IsCell c v:=λx c e v ⟨o,ho,hd⟩=>by
  have nch:c∉ch:=λz=>(hch c z).2.2.1 x c e rfl;by_cases hc:c∈X.fs
  ·obtain⟨sl,q⟩:=slot c o (I.cne x c e) hc nch ho (I.freeC x c e);exact⟨_,q,hd⟩
  ·exact⟨o,keep c o (I.cne x c e) hc nch ho (I.freeC x c e),hd⟩
 refine⟨I.ok,I.os,hg,⟨λb o e n hb hx=>?_,λb o e n hb hx=>?_,λb o e n hx=>?_,λb o e hx=>?_,λb xs e=>tups b xs (I.base.tups b xs e),λb o xs e=>frzs b o xs (I.base.frzs b o xs e),λb ps e=>?_⟩,?_,λx c e=>?_,?_,λx c e=>?_,λp hp=>?_,hok,I.len⟩
 ·exact keep b o (neL b o e) hb (neC b o e hx) (I.base.keep b o e n hb hx) (I.base.free b o e n hx)
 ·obtain⟨sl,e1⟩:=I.base.slot b o e n hb hx;obtain⟨sl',e2⟩:=slot b _ (neL b o e) hb (neC b o e hx) e1 (I.base.free b o e n hx);exact⟨sl',e2⟩
 ·obtain⟨o',e1⟩:=I.base.there b o e hx;exact free b o' (neC b o e hx) e1 (I.base.free b o e n hx)
 ·obtain⟨o',e1⟩:=I.base.there b o e hx;exact there b o' (neC b o e hx) e1
 ·obtain⟨m1,e1⟩:=I.base.tbls b ps e;obtain⟨m2,e2⟩:=tbls b _ e1;exact⟨m1++m2,by rw[e2,Array.append_assoc]⟩
 ·obtain⟨m,hn,hl⟩:=I.loc;refine⟨m,ns m hn,λi x v e1 e2 e3=>?_⟩;obtain⟨u,r,l⟩:=hl i x v e1 e2 e3;refine⟨u,r,?_⟩;rcases l with l|⟨k,c,e,z⟩
  ·exact .inl l
  ·exact .inr ⟨k,c,e,cellK x c e _ z⟩
 ·obtain⟨v,z⟩:=I.cell x c e;exact⟨v,cellK x c e v z⟩
 ·obtain⟨m,⟨o,_,_,ho,_⟩,_⟩:=I.loc;exact free _ o (λz=>(hch _ z).2.1 rfl) ho I.free
 ·obtain⟨v,o,ho,hd⟩:=I.cell x c e;exact free c o (λz=>(hch c z).2.2.1 x c e rfl) ho (I.freeC x c e)
 ·obtain⟨e,n,ne,nf,d⟩:=I.pin p hp;have nch:p.1∉ch:=λz=>(hch p.1 z).2.2.2 p hp rfl;exact⟨keep p.1 p.2 ne nf nch e n,free p.1 p.2 nch e n,ne,nf,d⟩
theorem Inv.un(I:Inv X aa σ H s)(u:Un X.fs [] H H' s.heap h')(hok:HOk X.prog X.w H' h'):Inv X aa σ H' {s with heap:=h',toks:=t'}:=by
 obtain⟨m,⟨o,es,ep,ho,r⟩,_⟩:=id I.loc;obtain⟨sl,hL⟩:=u.any ho I.free (by simp);exact I.step (g':=s.gens) (d':=s.drawn) (ch:=[]) (λ_ z=>nomatch z) (λb o _ hb _ e n=>u.keep b o e n hb (by simp)) (λb o _ hb _ e n=>u.slot b o e n hb (by simp)) (λb o _ e n=>u.free b o e n (by simp)) (λb o _ e=>u.there b o e (by simp)) u.tups u.frzs u.tbls (λm' hm=>by
  obtain⟨o',es',ep',ho',r'⟩:=hm;rw[ho]at ho';cases ho';exact⟨_,es',ep',hL,r'⟩) hok I.bare
theorem Inv.call(I:Inv X aa σ H s)(u:Un (frs X.stack) ch H H' s.heap h')(hok:HOk X.prog X.w H' h')(hg:fc g')(hch:∀b∈ch,(b∈X.ex\/X.s₀.heap.objs.size<=b)/\b≠X.env.locals/\(∀x c,X.env.cells.lookup x=some c->c≠b)/\∀p∈X.pn++aa,p.1≠b):
  Inv X aa σ H' {s with heap:=h',gens:=g',drawn:=d',toks:=t'}:=by
 obtain⟨m,⟨o,es,ep,ho,r⟩,_⟩:=id I.loc;obtain⟨sl,hL⟩:=u.any ho I.free λz=>(hch _ z).2.1 rfl;exact I.step (ch:=ch) hch (λb o hL hb hc e n=>u.keep b o e n (λz=>(cX.mp (I.stkSub b z)).elim hL hb) hc) (λb o _ _ hc e n=>u.any e n hc) (λb o hc e n=>u.free b o e n hc) (λb o hc e=>u.there b o e hc) u.tups u.frzs u.tbls (λm' hm=>by
  obtain⟨o',es',ep',ho',r'⟩:=hm;rw[ho]at ho';cases ho';exact⟨_,es',ep',hL,r'⟩) hok hg
theorem Inv.turned(I:Inv X aa σ H s)(k:∀b o,b≠it->s.heap.get? b=some o->h'.get? b=some o)(hn:H it=none)(hL:it≠X.env.locals)(h1:it∈X.ex\/X.s₀.heap.objs.size<=it)(h2:∀x c,X.env.cells.lookup x=some c->c≠it)(h3:∀p∈X.pn++aa,p.1≠it):Inv X aa σ H {s with heap:=h',toks:=t'}:=by
 have nit:∀b u,H b=some u->b≠it:=λb u e z=>by rw[z,hn]at e;cases e
 refine I.step (g':=s.gens) (d':=s.drawn) (ch:=[it]) (λb hb=>?_) (λb o _ _ hc e _=>k b o (λz=>hc (by simp[z])) e) (λb o _ _ hc e _=>⟨o.slots,k b o (λz=>hc (by simp[z])) e⟩) (λ_ _ _ _ n=>n)
  (λb o hc e=>⟨o,k b o (λz=>hc (by simp[z])) e⟩) (λ_ _ e=>e) (λ_ _ _ e=>e) (λb ps e=>⟨#[],by rw[e];simp⟩) (λm hm=>?_) (λb u e=>?_) I.bare
 ·have e:b=it:=by simpa using hb
  subst e;exact⟨h1,hL,h2,h3⟩
 ·obtain⟨o,es,ep,ho,r⟩:=hm;exact⟨o,es,ep,k _ o (mQ hL) ho,r⟩
 ·refine(I.hok b u e).stay (λc v hc q=>k c v ?_ q) (λ_ q=>q) λ_ _ q=>q;rcases hc with z|z
  ·rw[z];exact nit b u e
  ·exact nit c _ z
theorem Inv.tok(I:Inv X aa σ H s)(t):Inv X aa σ H {s with toks:=t}:=I.un (h':=s.heap) (t':=t) Un.refl I.hok
theorem Inv.kept(I:Inv X aa σ H s)(k:∀b u,s.heap.get? b=some u->h'.get? b=some u):Inv X aa σ H {s with heap:=h',toks:=t'}:=I.un (Un.kept k) (I.hok.kept k)
theorem Inv.laid{a:af}(I:Inv X aa σ H s)(k:∀b u,s.heap.get? b=some u->h'.get? b=some u)(hp:s.heap.objs.size<=a)(new:ObjOk X.prog X.w (upd H a o) h' a o):
  Inv X aa σ (upd H a o) {s with heap:=h',toks:=t'}:=I.un (Un.laid k hp (I.hok.fresh hp)) (I.hok.laid k hp new)
theorem Inv.write(I:Inv X aa σ H s)(mu:Mut (H x))(he:e=x\/H e=some (.own x))(k:∀b u,b≠e->s.heap.get? b=some u->h'.get? b=some u)(heo:∃u,h'.get? e=some u)(new:ObjOk X.prog X.w (upd H x o) h' x o):Inv X aa σ (upd H x o) {s with heap:=h',toks:=t'}:=I.un (Un.write mu he k heo) (I.hok.write mu he k heo new)
theorem Inv.pins_of(I:Inv X aa σ H s)(h:∀p∈pins',s.heap.get? p.1=some p.2/\H p.1=none/\p.1≠X.env.locals/\p.1∉X.fs/\∀v,p.2.data≠.cell v):Inv X pins' σ H s:=
 ⟨I.ok,I.os,I.bare,I.base,I.loc,I.cell,I.free,I.freeC,λp hp=>(lM.mp hp).elim (λz=>I.pin p (S6 _ z)) (h p),I.hok,I.len⟩
theorem nodup_ix{N:List bg}(hN:N.Nodup){i j:Nat}(a:N[i]? =some x)(b:N[j]? =some x):i=j:=by
 obtain⟨h1,e1⟩:=oR.mp a;obtain⟨h2,e2⟩:=oR.mp b;exact(List.getElem_inj hN).mp (e1.trans e2.symm)
theorem store_ok2{M:Model}{A:bp}{E:L4}{i:Nat}{x:bg}{v:V}{u:ρ}{Q:Unit->τ->Prop}(I:Inv X aa σ H s)(hN:X.N.Nodup)(hi:X.N[i]? =some x)(hx:Loc X.env.scope x)(r:RelV v u)(h:∀s',Inv X aa (σ.set i (some v)) H s'->(∃a,cz a s.heap s'.heap/\(a=X.env.locals\/X.env.cells.lookup x=some a))->Q () s')(hf:X.fn x=true\/X.env.scope.names.lookup x=some .local:=by first |exact .inl rfl|exact .inr rfl|assumption):ah M A (storeName X.env x u) Q E s:=by
 obtain⟨m,hn,hl⟩:=id I.loc;have hcls:(X.env.scope.kind==.class||(X.env.scope.kind==.module&&X.env.locals !=X.env.globals))=false:=by rw[I.ok.kind];rfl
 have hiσ:i<σ.length:=by rw[I.len];exact(oR.mp hi).1
 have cne:=I.cne;have tracked:∀{a:af}{h':bv},(∃o,s.heap.get? a=some o/\H a=none)->cz a s.heap h'->HOk X.prog X.w H h':=λ{a h'} ha hs b ob e=>by
  obtain⟨_,_,hfree⟩:=ha;refine(I.hok b ob e).stay (λc w' hc q=>(hs.2 c ?_).trans q) (λ_ q=>q) λ_ _ q=>q;rintro rfl;rcases hc with rfl|hc
  ·rw[hfree]at e;cases e
  ·rw[hfree]at hc;cases hc
 rcases hx with hk|hk
 ·refine wpAny_storeName_local hk hn (λh' hn' hs=>?_) hcls;obtain⟨oL,_,_,hoL,_⟩:=id hn;refine h _ ⟨I.ok,I.os,I.bare,⟨λb o e n hb hx=>?_,λb o e n hb hx=>?_,I.base.free,λb o e hx=>?_,I.base.tups,I.base.frzs,I.base.tbls⟩,⟨_,hn',λj y v' e1 e2 e3=>?_⟩,λy c e=>?_,I.free,I.freeC,λp hp=>?_,tracked ⟨oL,hoL,I.free⟩ hs,by simpa using I.len⟩ ⟨_,hs,.inl rfl⟩
  ·exact(hs.2 b (gP (jo (eO e) I.ok.above))).trans (I.base.keep b o e n hb hx)
  ·obtain⟨sl,e1⟩:=I.base.slot b o e n hb hx;exact⟨sl,(hs.2 b (gP (jo (eO e) I.ok.above))).trans e1⟩
  ·obtain⟨o',e1⟩:=I.base.there b o e hx;exact⟨o',(hs.2 b (gP (jo (eO e) I.ok.above))).trans e1⟩
  ·by_cases hj:j=i
   ·subst hj;rw[hi]at e1;cases e1;rw[wfn hiσ]at e2;cases e2;exact⟨u,r,.inl ⟨hk,by simp⟩⟩
   ·rw[List.getElem?_set_ne (mQ hj)]at e2;obtain⟨u',r',q⟩:=hl j y v' e1 e2 e3;refine⟨u',r',?_⟩;rcases q with⟨k,e⟩|⟨k,c,e,z⟩
    ·refine .inl ⟨k,?_⟩;have:y≠x:=λe=>hj (nodup_ix hN e1 (e▸hi));simp[this,e]
    ·exact .inr ⟨k,c,e,z.sameBut hs (cne y c e)⟩
  ·obtain⟨w',z⟩:=I.cell y c e;exact⟨w',z.sameBut hs (cne y c e)⟩
  ·obtain⟨e,n,ne,nf,d⟩:=I.pin p hp;exact⟨(hs.2 p.1 ne).trans e,n,ne,nf,d⟩
 ·have hfn:X.fn x=true:=by
   rcases hf with z|z
   ·exact z
   ·rw[z]at hk;cases hk
  obtain⟨c,hc⟩:=I.ok.has x (.inl hk);obtain⟨w',z⟩:=I.cell x c hc;refine wpAny_storeName_cell I.ok.kind hk hc z (λh' hc' hs=>?_);obtain⟨oc,hoc,hocd⟩:=id z;refine h {s with heap:=h'} ⟨I.ok,I.os,I.bare,⟨λb o e n hb hx=>?_,λb o e n hb hx=>?_,I.base.free,λb o e hx=>?_,I.base.tups,I.base.frzs,I.base.tbls⟩,⟨m,hn.sameBut hs (mQ (cne x c hc)),λj y v' e1 e2 e3=>?_⟩,λy c' e=>?_,I.free,I.freeC,λp hp=>?_,tracked ⟨oc,hoc,I.freeC x c hc⟩ hs,by simpa using I.len⟩ ⟨c,hs,.inr hc⟩
  ·exact(hs.2 b (gP (jo (eO e) (I.ok.cab x c hfn hc)))).trans (I.base.keep b o e n hb hx)
  ·obtain⟨sl,e1⟩:=I.base.slot b o e n hb hx;exact⟨sl,(hs.2 b (gP (jo (eO e) (I.ok.cab x c hfn hc)))).trans e1⟩
  ·obtain⟨o',e1⟩:=I.base.there b o e hx;exact⟨o',(hs.2 b (gP (jo (eO e) (I.ok.cab x c hfn hc)))).trans e1⟩
  ·by_cases hj:j=i
   ·subst hj;rw[hi]at e1;cases e1;rw[wfn hiσ]at e2;cases e2;exact⟨u,r,.inr ⟨.inl hk,c,hc,hc'⟩⟩
   ·rw[List.getElem?_set_ne (mQ hj)]at e2;obtain⟨u',r',q⟩:=hl j y v' e1 e2 e3;refine⟨u',r',?_⟩;rcases q with q|⟨k,c',e,z'⟩
    ·exact .inl q
    ·refine .inr ⟨k,c',e,z'.sameBut hs ?_⟩;rintro rfl;exact hj (nodup_ix hN e1 (I.ok.inj _ _ _ e hc▸hi))
  ·by_cases hcc:c'=c
   ·subst hcc;exact⟨_,hc'⟩
   ·obtain⟨w2,z2⟩:=I.cell y c' e;exact⟨w2,z2.sameBut hs hcc⟩
  ·obtain⟨e,n,ne,nf,d⟩:=I.pin p hp;refine⟨(hs.2 p.1 ?_).trans e,n,ne,nf,d⟩;intro q;rw[q,hoc]at e;have q':oc=p.2:=ux e;exact d w' (by rw[<-q'];exact hocd)
theorem store_ok{M:Model}{A:bp}{E:L4}{i:Nat}{x:bg}{v:V}{u:ρ}{Q:Unit->τ->Prop}(I:Inv X aa σ H s)(hN:X.N.Nodup)(hi:X.N[i]? =some x)(hx:Loc X.env.scope x)(r:RelV v u)(h:∀s',Inv X aa (σ.set i (some v)) H s'->Q () s')(hf:X.fn x=true\/X.env.scope.names.lookup x=some .local:=by first |exact .inl rfl|exact .inr rfl|assumption):ah M A (storeName X.env x u) Q E s:=
 store_ok2 I hN hi hx r (λs' I' _=>h s' I') hf
theorem Inv.call'(I:Inv X aa σ H s)(ho:s'.os=s.os)(u:Un (frs X.stack) ch H H' s.heap s'.heap)(hok:HOk X.prog X.w H' s'.heap)(hg:fc s'.gens)(hch:∀b∈ch,(b∈X.ex\/X.s₀.heap.objs.size<=b)/\b≠X.env.locals/\(∀x c,X.env.cells.lookup x=some c->c≠b)/\∀p∈X.pn++aa,p.1≠b):Inv X aa σ H' s':=by
 obtain⟨h',g',d',t',o'⟩:=s';have e:o'=s.os:=ho;subst e;exact I.call (g':=g') (t':=t') (d':=d') u hok hg hch
end
noncomputable abbrev XK:=ρ->Option af->Hp->Prop
noncomputable abbrev St:=List (Option V)
noncomputable abbrev VK:=V->Hp->Prop
noncomputable abbrev TE:=St->Hp->VK->Prop
noncomputable abbrev TT:=St->Hp->(Bool->Hp->Prop)->Prop
noncomputable abbrev TA:=St->Hp->(List V->Hp->Prop)->Prop
structure Ends where
 nx:St->Hp->Prop
 rt:VK
 bk:St->Hp->Prop:=λ_ _=>False
 ct:St->Hp->Prop:=λ_ _=>False
noncomputable abbrev TS:=Ends->St->Hp->Prop
noncomputable def EP(X:Cx)(aa:L3)(σ:St)(Q:VK)(u:ρ)(s':τ):Prop:=∃v H',Inv X aa σ H' s'/\RelV v u/\Q v H'
noncomputable def TP(X:Cx)(aa:L3)(σ:St)(Q:Bool->Hp->Prop)(b:Bool)(s':τ):Prop:=∃H',Inv X aa σ H' s'/\Q b H'
noncomputable def AP(X:Cx)(aa:L3)(σ:St)(Q:List V->Hp->Prop)(us:List ρ)(s':τ):Prop:=∃vs H',Inv X aa σ H' s'/\Vals vs us/\Q vs H'
noncomputable def SP(X:Cx)(aa:L3)(D:Ends)(f:Flow)(s':τ):Prop:=
 match f with
 | .next=>∃σ' H',Inv X aa σ' H' s'/\D.nx σ' H'
 | .brk=>∃σ' H',Inv X aa σ' H' s'/\D.bk σ' H'
 | .cont=>∃σ' H',Inv X aa σ' H' s'/\D.ct σ' H'
 | .ret u=>∃v σ' H',Inv X aa σ' H' s'/\RelV v u/\D.rt v H'
noncomputable def PE(X:Cx)(e:br)(t:TE):Prop:=
 ∀(aa:L3) (s:τ) (σ:St) (H:Hp) (Q:VK),Inv X aa σ H s->t σ H Q->ah (aw X.prog X.w) X.A (cx e X.env) (EP X aa σ Q) X.xe s
noncomputable def PT(X:Cx)(e:br)(t:TT):Prop:=
 ∀(aa:L3) (s:τ) (σ:St) (H:Hp) (Q:Bool->Hp->Prop),Inv X aa σ H s->t σ H Q->ah (aw X.prog X.w) X.A (md e X.env (cx e X.env)) (TP X aa σ Q) X.xe s
noncomputable def PW(X:Cx)(e:br)(t:TT):Prop:=
 ∀(whole:Sem ρ) (aa:L3) (s:τ) (σ:St) (H:Hp) (Q:Bool->Hp->Prop),Inv X aa σ H s->t σ H Q->ah (aw X.prog X.w) X.A (md e X.env whole) (TP X aa σ Q) X.xe s
theorem PW.pt(h:PW X e t):PT X e t:=h _
noncomputable def PA(X:Cx)(es:List br)(t:TA):Prop:=
 ∀(pos:eR) (aa:L3) (s:τ) (σ:St) (H:Hp) (Q:List V->Hp->Prop),Inv X aa σ H s->t σ H Q->ah (aw X.prog X.w) X.A (spliced (dk pos (az es X.env))) (AP X aa σ Q) X.xe s
noncomputable def PS(X:Cx)(st:eW)(t:TS):Prop:=
 ∀(aa:L3) (s:τ) (σ:St) (H:Hp) (D:Ends),Inv X aa σ H s->t D σ H->ah (aw X.prog X.w) X.A (exec st X.env) (SP X aa D) X.xe s
noncomputable def PSs(X:Cx)(st:List eW)(t:TS):Prop:=
 ∀(aa:L3) (s:τ) (σ:St) (H:Hp) (D:Ends),Inv X aa σ H s->t D σ H->ah (aw X.prog X.w) X.A (execs st X.env) (SP X aa D) X.xe s
theorem thn{α:Type}{t:Sem α}{Q Q':α->τ->Prop}{E:L4}(h:ah M A t Q E s)(hQ:∀a s,Q a s->Q' a s):ah M A t Q' E s:=Bc h hQ λ_ _ x=>x
section
variable{X:Cx}
inductive tVar(i:Nat)(σ:St)(H:Hp)(Q:VK):Prop
 |mk(v)(_:σ[i]? =some (some v))(_:Q v H)
noncomputable def tC(v:V):TE:=λ_ H Q=>Q v H
theorem pe_var{i:Nat}{x:bg}{pos:eR}(hN:X.N[i]? =some x)(hv:Vis X.env.scope x)(hd:(x==("__debug__":bg))=false:=by decide)(hcd:(x==("__classdict__":bg))=false:=by decide):PE X (.Name x pos) (tVar i):=by
 intro aa s σ H Q I h;obtain⟨v,e,h⟩:=h;obtain⟨m,hn,hl⟩:=I.loc;obtain⟨u,r,l⟩:=hl i x v hN e hv;have fin:EP X aa σ Q u s:=⟨v,H,I,r,h⟩;rcases l with⟨hk,hm⟩|⟨hk,c,hc,hcell⟩
 ·exact wpAny_Name (wpAny_loadName_local I.ok.kind hk hn hm fin) hd
 ·rcases hk with hk|hk
  ·exact wpAny_Name (wpAny_loadName_cell I.ok.kind hk hc hcell fin) hd
  ·exact wpAny_Name (wpAny_loadName_free I.ok.kind hk hc hcell fin hcd) hd
theorem aM{i j pos}:PE X (.Constant (.int i) j pos) (tC (.int i)):=λ_ _ _ H _ I h=>wpAny_Constant_int ⟨.int i,H,I.tok _,⟨_,rfl⟩,h⟩
theorem pe_bl{b j pos}:PE X (.Constant (.bool b) j pos) (tC (.bl b)):=λ_ _ _ H _ I h=>Constant_bool ⟨.bl b,H,I,rfl,h⟩
theorem pe_non{j pos}:PE X (.Constant .none j pos) (tC .non):=λ_ _ _ H _ I h=>Constant_none ⟨.non,H,I,rfl,h⟩
noncomputable def Gl(X:Cx)(x:bg):Prop:=X.env.kindOf x=some .globalImplicit
theorem ld_glob{E:L4}{aa:L3}{s:τ}{σ:St}{H:Hp}{x:bg}{u:ρ}{pos:eR}{Q:L4}(I:Inv X aa σ H s)(hg:Gl X x)(hm:X.mg x=some u)(h:Q u s)(hd:(x==("__debug__":bg))=false:=by decide):ah (aw X.prog X.w) X.A (cx (.Name x pos) X.env) Q E s:=
 hU I.ok.kind hg (Calls.loadGlobal_global (by rw[I.ok.glob];exact I.mod.glob.keeps I.bk) hm h) hd
theorem ld_blt{E:L4}{aa:L3}{s:τ}{σ:St}{H:Hp}{x:bg}{u:ρ}{pos:eR}{Q:L4}(I:Inv X aa σ H s)(hg:Gl X x)(hm:X.mg x=none)(hv:bP x=some u)(h:Q u s)(hn:x≠"__name__":=by decide)(hd:(x==("__debug__":bg))=false:=by decide):ah (aw X.prog X.w) X.A (cx (.Name x pos) X.env) Q E s:=by
 obtain⟨mb,h1,h2⟩:=I.mod.blt;exact hU I.ok.kind hg (Calls.loadGlobal_builtin (by rw[I.ok.glob];exact I.mod.glob.keeps I.bk) hm (by rw[I.ok.blt];exact h1.keeps I.bk) ((h2 x hn).trans hv) h) hd
theorem pe_glob{x:bg}{v:V}{u:ρ}{pos:eR}(hg:Gl X x)(hm:X.mg x=some u)(r:RelV v u)(hd:(x==("__debug__":bg))=false:=by decide):PE X (.Name x pos) (tC v):=
 λ_ _ _ H _ I h=>ld_glob I hg hm ⟨v,H,I,r,h⟩ hd
theorem pe_bltn{x:bg}{v:V}{u:ρ}{pos:eR}(hg:Gl X x)(hm:X.mg x=none)(hv:bP x=some u)(r:RelV v u)(hn:x≠"__name__":=by decide)(hd:(x==("__debug__":bg))=false:=by decide):PE X (.Name x pos) (tC v):=
 λ_ _ _ H _ I h=>ld_blt I hg hm hv ⟨v,H,I,r,h⟩ hn hd
theorem pN{x:bg}{pos:eR}(T:String)(hm:X.mg x=none)(hv:bP x=some (.type T):=by decide+kernel)(hg:Gl X x:=by rfl)(hn:x≠"__name__":=by decide)(hd:(x==("__debug__":bg))=false:=by decide):PE X (.Name x pos) (tC (.ty T)):=pe_bltn hg hm hv rfl hn hd
variable{a b:br}{ta tb:TE}{pos:eR}
noncomputable def tB(t:TE):TT:=λσ H Q=>t σ H λx H1=>∃c,x=.bl c/\Q c H1
theorem qz{e:br}{t:TE}(h:PE X e t)(he:∀whole,md e X.env whole=(do let v<-whole;ir e.pos;dL [v] (truthy v)):=by intro _;rfl):PT X e (tB t):=by
 intro aa s σ H Q I hw;refine isTrue_plain (thn (h aa s σ H _ I hw) λv s1 ⟨x,H1,I1,r1,q1⟩=>?_) (he _);obtain⟨d,rfl,q⟩:=q1;cases r1;exact Mw ⟨H1,I1,q⟩
variable{tA tB':TT}{rest:List br}
noncomputable def tAnd(t u:TT):TT:=λσ H Q=>t σ H λc H1=>if c=true then u σ H1 Q else Q false H1
noncomputable def tOr(t u:TT):TT:=λσ H Q=>t σ H λc H1=>if c=true then Q true H1 else u σ H1 Q
noncomputable def tNot(t:TT):TT:=λσ H Q=>t σ H λc H1=>Q (!c) H1
theorem pw_and1(ha:PT X a tA):PW X (.BoolOp .And [a] pos) tA:=by
 intro wh aa s σ H Q I h;refine isTrue_and (thn (ha aa s σ H Q I h) λc s1 e=>?_);cases c with
 |true=>exact isTrue_and_nil e
 |false=>exact e
theorem pw_or1(ha:PT X a tA):PW X (.BoolOp .Or [a] pos) tA:=by
 intro wh aa s σ H Q I h;refine isTrue_or (thn (ha aa s σ H Q I h) λc s1 e=>?_);cases c with
 |false=>exact isTrue_or_nil e
 |true=>exact e
theorem pw_and(ha:PT X a tA)(hb:PW X (.BoolOp .And (b::rest) pos) tB'):PW X (.BoolOp .And (a::b::rest) pos) (tAnd tA tB'):=by
 intro wh aa s σ H Q I h;refine isTrue_and (thn (ha aa s σ H _ I h) λc s1 ⟨H1,I1,q1⟩=>?_);cases c with
 |true=>exact hb wh aa s1 σ H1 Q I1 q1
 |false=>exact⟨H1,I1,q1⟩
theorem pw_or(ha:PT X a tA)(hb:PW X (.BoolOp .Or (b::rest) pos) tB'):PW X (.BoolOp .Or (a::b::rest) pos) (tOr tA tB'):=by
 intro wh aa s σ H Q I h;refine isTrue_or (thn (ha aa s σ H _ I h) λc s1 ⟨H1,I1,q1⟩=>?_);cases c with
 |true=>exact⟨H1,I1,q1⟩
 |false=>exact hb wh aa s1 σ H1 Q I1 q1
theorem sJ(ha:PT X a tA):PT X (.UnaryOp .Not a pos) (tNot tA):=by
 intro aa s σ H Q I h;exact isTrue_not (ha aa s σ H (λc H1=>Q (!c) H1) I h)
noncomputable def tAndV(ta tb:TE):TE:=λσ H Q=>ta σ H λx H1=>∃c,x=.bl c/\if c=true then tb σ H1 Q else Q (.bl false) H1
noncomputable def tOrV(ta tb:TE):TE:=λσ H Q=>ta σ H λx H1=>∃c,x=.bl c/\if c=true then Q (.bl true) H1 else tb σ H1 Q
noncomputable def tNotV(ta:TE):TE:=λσ H Q=>ta σ H λx H1=>∃c,x=.bl c/\Q (.bl (!c)) H1
theorem pe_one{op}(h:PE X a t):PE X (.BoolOp op [a] pos) t:=λaa s σ H Q I hw=>BoolOp_one (h aa s σ H Q I hw)
theorem pe_and(ha:PE X a ta)(hb:PE X (.BoolOp .And (b::rest) pos) tb):PE X (.BoolOp .And (a::b::rest) pos) (tAndV ta tb):=by
 intro aa s σ H Q I h;refine BoolOp_and (thn (ha aa s σ H _ I h) λv s1 ⟨x,H1,I1,r1,q1⟩=>?_);obtain⟨c,rfl,q1⟩:=q1;cases r1;apply Mw;cases c with
 |true=>exact hb aa s1 σ H1 Q I1 q1
 |false=>exact⟨.bl false,H1,I1,rfl,q1⟩
theorem pe_or(ha:PE X a ta)(hb:PE X (.BoolOp .Or (b::rest) pos) tb):PE X (.BoolOp .Or (a::b::rest) pos) (tOrV ta tb):=by
 intro aa s σ H Q I h;refine BoolOp_or (thn (ha aa s σ H _ I h) λv s1 ⟨x,H1,I1,r1,q1⟩=>?_);obtain⟨c,rfl,q1⟩:=q1;cases r1;apply Mw;cases c with
 |false=>exact hb aa s1 σ H1 Q I1 q1
 |true=>exact⟨.bl true,H1,I1,rfl,q1⟩
theorem pe_not(ha:PE X a ta):PE X (.UnaryOp .Not a pos) (tNotV ta):=by
 intro aa s σ H Q I h;refine UnaryOp_ (thn (ha aa s σ H _ I h) λv s1 ⟨x,H1,I1,r1,q1⟩=>?_);obtain⟨c,rfl,q1⟩:=q1;cases r1;exact not_of (Mw ⟨.bl (!c),H1,I1,rfl,q1⟩)
noncomputable def tIf(t:TT)(ta tb:TE):TE:=λσ H Q=>t σ H λc H1=>if c=true then ta σ H1 Q else tb σ H1 Q
theorem pe_ifExp(hc:PT X c tA)(ha:PE X a ta)(hb:PE X b tb):PE X (.IfExp c a b pos) (tIf tA ta tb):=by
 intro aa s σ H Q I h;refine wpAny_IfExp (thn (hc aa s σ H _ I h) λd s1 ⟨H1,I1,q1⟩=>?_);cases d with
 |true=>exact ha aa s1 σ H1 Q I1 q1
 |false=>exact hb aa s1 σ H1 Q I1 q1
end
noncomputable def SqL(K:ag)(H:Hp)(a:af)(xs:List V):Prop:=
 Rd H a (.lst xs)\/
  ∃(o:kE) (its:Array ρ) (n:Nat),K.lookup a=some o/\o.cls=.type "list"/\o.dict=none/\o.data=.seq its n/\its.size<=sizeLine/\Vals xs its.toList
noncomputable def SqT(K:ag)(H:Hp)(a:af)(xs:List V):Prop:=
 Rd H a (.tup xs)\/
  ∃(o:kE) (its:Array ρ) (n:Nat),K.lookup a=some o/\o.cls=.type "tuple"/\o.data=.seq its n/\its.size<=sizeLine/\Vals xs its.toList
noncomputable def absV:ρ->Option V
 | .none=>some .non
 | .bool b=>some (.bl b)
 | .int i _=>some (.int i)
 | .str x _=>some (.str x)
 | .bytes b _=>some (.byt b)
 | .float b _=>some (.flt b)
 | .ref a=>some (.ref a)
 | .type n=>some (.ty n)
 |_=>none
theorem RelV.abs(r:RelV x u):absV u=some x:=by
 cases x with
 |non=>cases r;rfl
 |bl _=>cases r;rfl
 |int _=>obtain⟨t,rfl⟩:=r;rfl
 |str _=>obtain⟨t,rfl⟩:=r;rfl
 |byt _=>obtain⟨t,rfl⟩:=r;rfl
 |flt _=>obtain⟨t,rfl⟩:=r;rfl
 |ref _=>cases r;rfl
 |ty _=>cases r;rfl
theorem RelV.inj(r:RelV x u)(q:RelV y u):x=y:=ux (r.abs.symm.trans q.abs)
theorem Vals.inj(h:Vals xs us)(h':Vals ys us):xs=ys:=by
 induction h generalizing ys with
 |nil=>cases h';rfl
 |cons r _ ih=>cases h' with |cons r' t'=>rw[r.inj r',ih t']
section
variable{X:Cx}{aa:L3}{σ:St}{H:Hp}{s:τ}{a:af}{xs ys:List V}
theorem SqL.of{K:ag}(h:H a=some (.lst xs)):SqL K H a xs:=.inl (.inl h)
theorem SqT.of{K:ag}(h:H a=some (.tup xs)):SqT K H a xs:=.inl (.inl h)
theorem Inv.list(I:Inv X aa σ H s)(h:SqL X.K H a xs):∃its:List ρ,Vals xs its/\PlainL s.heap a its.toArray/\xs.length<=sizeLine:=by
 rcases h with h|⟨o,its,n,hk,hc,hd,hs,hz,r⟩
 ·obtain⟨z,its,n,r,e⟩:=h.ok I.hok;exact⟨its,r,⟨_,n,e,rfl,rfl,rfl⟩,z⟩
 ·refine⟨its.toList,r,⟨o,n,I.kIn a o hk,hc,hd,by simpa using hs⟩,?_⟩;have e:=r.length;simp only[TJ]at e;omega
theorem Inv.tuple(I:Inv X aa σ H s)(h:SqT X.K H a xs):∃its:List ρ,Vals xs its/\gY s.heap a its.toArray/\xs.length<=sizeLine:=by
 rcases h with h|⟨o,its,n,hk,hc,hs,hz,r⟩
 ·obtain⟨z,its,r,p⟩:=h.ok I.hok;exact⟨its,r,p,z⟩
 ·refine⟨its.toList,r,⟨o,I.kIn a o hk,hc,n,by simpa using hs⟩,?_⟩;have e:=r.length;simp only[TJ]at e;omega
theorem Inv.list_inj(I:Inv X aa σ H s)(h:SqL X.K H a xs)(h':SqL X.K H a ys):xs=ys:=by
 obtain⟨its,r,⟨o,n,e,_,_,d⟩,_⟩:=I.list h;obtain⟨its',r',⟨o',n',e',_,_,d'⟩,_⟩:=I.list h';rw[e]at e';cases e';rw[d]at d';injection d' with d1 _
 have:its=its':=by simpa using gR Array.toList d1
 subst this;exact r.inj r'
theorem Inv.tuple_inj(I:Inv X aa σ H s)(h:SqT X.K H a xs)(h':SqT X.K H a ys):xs=ys:=by
 obtain⟨its,r,⟨o,e,_,n,d⟩,_⟩:=I.tuple h;obtain⟨its',r',⟨o',e',_,n',d'⟩,_⟩:=I.tuple h';rw[e]at e';cases e';rw[d]at d';injection d' with d1 _
 have:its=its':=by simpa using gR Array.toList d1
 subst this;exact r.inj r'
end
noncomputable abbrev Cx.wish(X:Cx)(E:L4):Cx:={X with xe:=E}
noncomputable abbrev Cx.nox(X:Cx):Cx:=X.wish λ_ _=>False
theorem Cx.Ok.wish{X:Cx}(ok:X.Ok)(E:L4):(X.wish E).Ok:=
 ⟨ok.mod,ok.kind,ok.glob,ok.blt,ok.above,ok.inj,ok.has,ok.cab,ok.hd,ok.frames,ok.stk,ok.exf,ok.bs,ok.bsz,ok.noex,ok.exfs,ok.funs,ok.frf⟩
theorem Cx.Ok.unwish{X:Cx}{E:L4}(ok:(X.wish E).Ok):X.Ok:=
 ⟨ok.mod,ok.kind,ok.glob,ok.blt,ok.above,ok.inj,ok.has,ok.cab,ok.hd,ok.frames,ok.stk,ok.exf,ok.bs,ok.bsz,ok.noex,ok.exfs,ok.funs,ok.frf⟩
section
variable{X:Cx}{aa:L3}{σ:St}{H:Hp}{s:τ}{E:L4}
theorem Inv.wish(I:Inv X aa σ H s)(E:L4):Inv (X.wish E) aa σ H s:=⟨I.ok.wish E,I.os,I.bare,I.base,I.loc,I.cell,I.free,I.freeC,I.pin,I.hok,I.len⟩
theorem Inv.unwish(I:Inv (X.wish E) aa σ H s):Inv X aa σ H s:=⟨I.ok.unwish,I.os,I.bare,I.base,I.loc,I.cell,I.free,I.freeC,I.pin,I.hok,I.len⟩
theorem SP.unwish(h:SP (X.wish E) aa D f s'):SP X aa D f s':=by
 cases f with
 |next=>obtain⟨σ',H',I,q⟩:=h;exact⟨σ',H',I.unwish,q⟩
 |brk=>obtain⟨σ',H',I,q⟩:=h;exact⟨σ',H',I.unwish,q⟩
 |cont=>obtain⟨σ',H',I,q⟩:=h;exact⟨σ',H',I.unwish,q⟩
 |ret u=>obtain⟨v,σ',H',I,r,q⟩:=h;exact⟨v,σ',H',I.unwish,r,q⟩
theorem PSs.nox{st:List eW}(h:PSs X.nox st t):PSs X st t:=λaa s σ H D I hw=>
 Bc (h aa s σ H D (I.wish _) hw) (λ_ _ q=>q.unwish) λ_ _ z=>bX z
end
section
variable{X:Cx}{st:eW}{rest:List eW}{t u:TS}{e:br}{te:TE}{pos:eR}
noncomputable def tNext:TS:=λD σ H=>D.nx σ H
noncomputable def tSeq(t u:TS):TS:=λD σ H=>t {D with nx:=u D} σ H
theorem jN:PSs X [] tNext:=λ_ _ σ H _ I h=>wdv ⟨σ,H,I,h⟩
theorem aO(h1:PS X st t)(h2:PSs X rest u):PSs X (st::rest) (tSeq t u):=by
 intro aa s σ H D I h;refine wpAny_execs_cons (thn (h1 aa s σ H {D with nx:=u D} I h) λf s1 q=>?_);cases f with
 |next=>
  obtain⟨σ',H',I',q⟩:=q;exact h2 aa s1 σ' H' D I' q
 |ret v=>exact q
 |brk=>exact q
 |cont=>exact q
theorem aZ(h1:PS X st t):PSs X [st] t:=by
 intro aa s σ H D I h;refine wpAny_execs_cons (thn (h1 aa s σ H D I h) λf s1 q=>?_);cases f with
 |next=>exact wdv q
 |ret v=>exact q
 |brk=>exact q
 |cont=>exact q
noncomputable def tBreak:TS:=λD σ H=>D.bk σ H
theorem ps_break:PS X (.Break pos) tBreak:=λ_ _ σ H _ I h=>wpAny_Break ⟨σ,H,I,h⟩
theorem Inv.quiet{σ:St}(I:Inv X aa σ H s):interactive X.env=false:=by simp[interactive,I.ok.kind]
noncomputable def tDrop(te:TE):TS:=λD σ H=>te σ H λ_ H1=>D.nx σ H1
theorem wz(he:PE X e te)(hs:fe e none pos.line X.env=pure false:=by rfl):PS X (.Expr e pos) (tDrop te):=by
 intro aa s σ H D I h;exact wpAny_Expr_any (thn (he aa s σ H _ I h) λv s1 ⟨x,H1,I1,r1,q1⟩=>⟨σ,H1,I1,q1⟩) I.quiet hs
noncomputable def tRet(te:TE):TS:=λD σ H=>te σ H D.rt
theorem cu(he:PE X e te):PS X (.Return (some e) pos) (tRet te):=by
 intro aa s σ H D I h;exact wpAny_Return_some (thn (he aa s σ H _ I h) λv s1 ⟨x,H1,I1,r1,q1⟩=>⟨x,σ,H1,I1,r1,q1⟩)
noncomputable def tIfS(c:TT)(t u:TS):TS:=λD σ H=>c σ H λb H1=>if b=true then t D σ H1 else u D σ H1
theorem jq(hc:PT X c tc)(ha:PSs X a t)(hb:PSs X b u):PS X (.If c a b pos) (tIfS tc t u):=by
 intro aa s σ H D I h;refine wpAny_If (thn (hc aa s σ H _ I h) λd s1 ⟨H1,I1,q1⟩=>?_);cases d with
 |true=>exact ha aa s1 σ H1 D I1 q1
 |false=>exact hb aa s1 σ H1 D I1 q1
noncomputable def tNever:TS:=λ_ _ _=>False
theorem pss_never:PSs X sts tNever:=λ_ _ _ _ _ _ h=>h.elim
end
noncomputable abbrev TG:=V->St->Hp->(St->Hp->Prop)->Prop
noncomputable abbrev TGs:=List V->St->Hp->(St->Hp->Prop)->Prop
noncomputable def PG(X:Cx)(target:br)(t:TG):Prop:=
 ∀(aa:L3) (s:τ) (σ:St) (H:Hp) (v:V) (u:ρ) (Q:St->Hp->Prop),Inv X aa σ H s->RelV v u->t v σ H Q->
  ah (aw X.prog X.w) X.A (i8 target X.env u) (λ_ s'=>∃σ' H',Inv X aa σ' H' s'/\Q σ' H') X.xe s
noncomputable def PGs(X:Cx)(ts:List br)(t:TGs):Prop:=
 ∀(aa:L3) (s:τ) (σ:St) (H:Hp) (vs:List V) (us:List ρ) (Q:St->Hp->Prop),Inv X aa σ H s->Vals vs us->t vs σ H Q->
  ah (aw X.prog X.w) X.A (assignInOrder ((eB ts X.env).map (·.2)) us) (λ_ s'=>∃σ' H',Inv X aa σ' H' s'/\Q σ' H') X.xe s
noncomputable abbrev TSet:=V->V->V->Hp->(Hp->Prop)->Prop
noncomputable def PSet(X:Cx)(t:TSet):Prop:=
 ∀(aa:L3) (s:τ) (σ:St) (H:Hp) (o i v:V) (ov iv u:ρ) (Q:Hp->Prop),Inv X aa σ H s->RelV o ov->RelV i iv->RelV v u->t o i v H Q->
  ah (aw X.prog X.w) X.A (setItem ov iv u) (λ_ s'=>∃H',Inv X aa σ H' s'/\Q H') X.xe s
noncomputable abbrev TIp:=V->V->Hp->VK->Prop
noncomputable def PIp(X:Cx)(op:Operator)(t:TIp):Prop:=
 ∀(aa:L3) (s:τ) (σ:St) (H:Hp) (x y:V) (v u:ρ) (Q:VK),Inv X aa σ H s->RelV x v->RelV y u->t x y H Q->
  ah (aw X.prog X.w) X.A (inplaceOp op v u) (EP X aa σ Q) X.xe s
section
variable{X:Cx}{pos:eR}
noncomputable def gName(i:Nat):TG:=λv σ H Q=>Q (σ.set i (some v)) H
theorem pg_name{i:Nat}{x:bg}(hN:X.N.Nodup)(hi:X.N[i]? =some x)(hx:Loc X.env.scope x)(hf:X.fn x=true\/X.env.scope.names.lookup x=some .local:=by first |exact .inl rfl|exact .inr rfl|assumption):PG X (.Name x pos) (gName i):=by
 intro aa s σ H v u Q I r h;exact wpAny_assign_Name (store_ok I hN hi hx r (λs' I'=>⟨_,H,I',h⟩) hf)
theorem pG{X:Cx}{x:bg}{pos:eR}(i:Nat)(hN:decide X.N.Nodup=true:=by kernel_rfl)(hi:X.N[i]? =some x:=by rfl)(hx:Loc X.env.scope x:=by first |exact gV rfl|exact ki rfl)(hf:X.fn x=true\/X.env.scope.names.lookup x=some .local:=by first |exact .inl rfl|exact .inr rfl|assumption):PG X (.Name x pos) (gName i):=pg_name (fW hN) hi hx hf
noncomputable def gNil:TGs:=λvs σ H Q=>vs=[]/\Q σ H
noncomputable def gCons(t:TG)(u:TGs):TGs:=λvs σ H Q=>∃v r,vs=v::r/\t v σ H λσ' H'=>u r σ' H' Q
theorem Al:PGs X [] gNil:=by
 intro aa s σ H vs us Q I r h;obtain⟨e,h⟩:=h;subst e;cases r;exact assignInOrder_nil ⟨σ,H,I,h⟩
theorem jO{e:br}{es:List br}{t:TG}{u:TGs}(h1:PG X e t)(h2:PGs X es u)(hs:(eB (e::es) X.env).map (·.2)=i8 e X.env::(eB es X.env).map (·.2):=by rfl):PGs X (e::es) (gCons t u):=by
 intro aa s σ H vs us Q I r h;obtain⟨v,vr,e1,h⟩:=h;subst e1;cases r with
 |cons r rr=>
  rw[hs];refine assignInOrder_cons (thn (h1 aa s σ H _ _ _ I r h) λ_ s1 ⟨σ1,H1,I1,q1⟩=>?_);exact h2 aa s1 σ1 H1 _ _ Q I1 rr q1
inductive gTup(K:ag)(n:Nat)(t:TGs)(v:V)(σ:St)(H:Hp)(Q:St->Hp->Prop):Prop
 |mk(a xs)(_:v=.ref a)(_:SqT K H a xs)(_:xs.length=n)(_:t xs σ H Q)
theorem pg_tup{es:List br}{k:Nat}{t:TGs}{n:Nat}(hc:X.calm=true)(h:PGs X es t)(hn:(eB es X.env).length=n:=by rfl)(hst:(eB es X.env).findIdx? (·.1)=none:=by rfl):PG X (.Tuple es k pos) (gTup X.K n t):=by
 intro aa s σ H v u Q I r hw;obtain⟨a,xs,e1,hq,hl,hw⟩:=hw;subst e1;cases r;obtain⟨its,rv,ht,hz⟩:=I.tuple hq;refine assign_Tuple_tuple (I.ok.hd hc) ht (by simp[hn,<-hl,rv.length]) hst λh' hx=>?_;have I1:Inv X aa σ H {s with heap:=h'}:=I.kept (t':=s.toks) λb o e=>hx b o (gP (eO e)) e;exact h aa _ σ H xs _ Q I1 (by simpa using rv) hw
noncomputable def gSub(to ti:TE)(t:TSet):TG:=λv σ H Q=>to σ H λo H1=>ti σ H1 λi H2=>t o i v H2 λH3=>Q σ H3
theorem pg_sub{o i:br}{to ti:TE}{t:TSet}(ho:PE X o to)(hi:PE X i ti)(hs:PSet X t)(ha:∀v,i8 (.Subscript o i pos) X.env v=(do
   let ov<-dL [v] (cx o X.env);let iv<-dL [v,ov] (cx i X.env)
   ir pos
   dL [v,ov,iv] (setItem ov iv v)
   release [v,ov,iv] []):=by intro _;rfl):PG X (.Subscript o i pos) (gSub to ti t):=by
 intro aa s σ H v u Q I r h;rw[ha];refine aD (Aq (thn (ho aa s σ H _ I h) λov s1 ⟨x,H1,I1,r1,q1⟩=>?_));refine aD (Aq (thn (hi aa s1 σ H1 _ I1 q1) λiv s2 ⟨y,H2,I2,r2,q2⟩=>?_));refine aD (kG (aD (Aq (thn (hs aa s2 σ H2 x y v ov iv u _ I2 r1 r2 r q2) λ_ s3 ⟨H3,I3,q3⟩=>?_))));exact wpAny_release ⟨σ,H3,I3,q3⟩
noncomputable def tAsg(te:TE)(g:TG):TS:=λD σ H=>te σ H λx H1=>g x σ H1 D.nx
theorem ps_asg{tg e:br}{te:TE}{g:TG}(he:PE X e te)(hg:PG X tg g)(hs:swapsWithSole [tg] e pos.line X.env=pure false:=by rfl)(hw:swappedStores [tg] e X.env=pure none:=by rfl)(h1:(eB [tg] X.env).map (·.2)=[i8 tg X.env]:=by rfl):PS X (.Assign [tg] e pos) (tAsg te g):=by
 intro aa s σ H D I h;refine wpAny_Assign_stores (thn (he aa s σ H _ I h) λv s1 ⟨x,H1,I1,r1,q1⟩=>?_) hs hw;rw[h1];exact thn (hg aa s1 σ H1 x v _ I1 r1 q1) λ_ s2 q=>q
theorem ps_set{i:Nat}{x:bg}{e:br}{te:TE}{pos':eR}(hN:X.N.Nodup)(hi:X.N[i]? =some x)(hx:Loc X.env.scope x)(he:PE X e te)(hs:fe e (some (.Name x pos')) pos.line X.env=pure false:=by rfl)(hf:X.fn x=true\/X.env.scope.names.lookup x=some .local:=by first |exact .inl rfl|exact .inr rfl|assumption):
  PS X (.Assign [.Name x pos'] e pos) (tAsg te (gName i)):=by
 intro aa s σ H D I h;refine wpAny_Assign_Name (thn (he aa s σ H _ I h) λv s1 ⟨y,H1,I1,r1,q1⟩=>?_) hs;exact store_ok I1 hN hi hx r1 (λs2 I2=>⟨_,H1,I2,q1⟩) hf
theorem pS{X:Cx}{x:bg}{e:br}{te:TE}{pos pos':eR}(i:Nat)(he:PE X e te)(hN:decide X.N.Nodup=true:=by kernel_rfl)(hi:X.N[i]? =some x:=by rfl)(hx:Loc X.env.scope x:=by first |exact gV rfl|exact ki rfl)(hs:fe e (some (.Name x pos')) pos.line X.env=pure false:=by rfl)(hf:X.fn x=true\/X.env.scope.names.lookup x=some .local:=by first |exact .inl rfl|exact .inr rfl|assumption):PS X (.Assign [.Name x pos'] e pos) (tAsg te (gName i)):=ps_set (fW hN) hi hx he hs hf
noncomputable def tAug(i:Nat)(te:TE)(ti:TIp):TS:=λD σ H=>∃x,σ[i]? =some (some x)/\te σ H λy H1=>ti x y H1 λz H2=>D.nx (σ.set i (some z)) H2
theorem ps_aug{i:Nat}{x:bg}{e:br}{te:TE}{op:Operator}{ti:TIp}{pos':eR}(hN:X.N.Nodup)(hi:X.N[i]? =some x)(hx:Loc X.env.scope x)(he:PE X e te)(ho:PIp X op ti)(hf:X.fn x=true\/X.env.scope.names.lookup x=some .local:=by first |exact .inl rfl|exact .inr rfl|assumption):
  PS X (.AugAssign (.Name x pos') op e pos) (tAug i te ti):=by
 intro aa s σ H D I h;obtain⟨v,e1,h⟩:=h;obtain⟨m,hn,hl⟩:=I.loc;have vis:Vis X.env.scope x:=by rcases hx with k|k;exact .inl k;exact .inr (.inl k)
 obtain⟨u,r,l⟩:=hl i x v hi e1 vis;apply wpAny_AugAssign_Name;have go:ah (aw X.prog X.w) X.A (cx e X.env) (λw s₂=>ah (aw X.prog X.w) X.A (inplaceOp op u w) (λr s₃=>ah (aw X.prog X.w) X.A (storeName X.env x r) (λ_=>SP X aa D .next) X.xe s₃) X.xe s₂) X.xe s:=by
  refine thn (he aa s σ H _ I h) λw s1 ⟨y,H1,I1,r1,q1⟩=>?_;refine thn (ho aa s1 σ H1 v y u w _ I1 r r1 q1) λz s2 ⟨zv,H2,I2,r2,q2⟩=>?_;exact store_ok I2 hN hi hx r2 (λs3 I3=>⟨_,H2,I3,q2⟩) hf
 rcases l with⟨hk,hm⟩|⟨hk,c,hc,hcell⟩
 ·exact wpAny_loadName_local I.ok.kind hk hn hm go
 ·rcases hk with hk|hk
  ·exact wpAny_loadName_cell I.ok.kind hk hc hcell go
  ·rcases hx with k|k
   ·have:X.env.scope.names.lookup x=some .free:=hk;rw[k]at this;cases this
   ·have:X.env.scope.names.lookup x=some .free:=hk;rw[k]at this;cases this
noncomputable def ipI(f:Int->Int->Int):TIp:=λx y H Q=>∃i j,x=.int i/\y=.int j/\Q (.int (f i j)) H
theorem ip_add:PIp X .Add (ipI λi j=>i+j):=by
 intro aa s σ H x y v u Q I r1 r2 h;obtain⟨i,j,e1,e2,q⟩:=h;subst e1;subst e2;obtain⟨t,rfl⟩:=r1;obtain⟨t',rfl⟩:=r2;exact iadd_int ⟨.int _,H,I.tok _,⟨_,rfl⟩,q⟩
noncomputable def tWhile(c:TT)(tb:TS):TS:=λD σ H=>∃W:Nat->St->Hp->Prop,(∃m,W m σ H)/\∀m σ H,W m σ H->
 c σ H λb H1=>if b=true then∃N:St->Hp->Prop,(∀σ' H',N σ' H'->∃m',m'<m/\W m' σ' H')/\tb {D with nx:=N,ct:=N,bk:=D.nx} σ H1 else D.nx σ H1
theorem ps_while(hp:PassesOwn (aw X.prog X.w) X.A X.env X.xe)(hc:PT X c tc)(hb:PSs X body tb):PS X (.While c body [] pos) (tWhile tc tb):=by
 intro aa s σ H D I h;obtain⟨W,⟨m0,w0⟩,turn⟩:=h;refine wpAny_While (codeAny_whileLoop (λn s'=>∃σ' H',Inv X aa σ' H' s'/\W n σ' H') ?_ m0 ⟨σ,H,I,w0⟩);rintro n s1 ⟨σ1,H1,I1,w1⟩;refine XR hp (thn (hc aa s1 σ1 H1 _ I1 (turn n σ1 H1 w1)) λb s2 ⟨H2,I2,q2⟩=>?_);cases b with
 |true=>
  obtain⟨N,hN,q2⟩:=q2;rw[au rfl];refine XR hp (thn (hb aa s2 σ1 H2 _ I2 q2) λf s3 q3=>?_);cases f with
  |next=>
   obtain⟨σ3,H3,I3,n3⟩:=q3;obtain⟨m',hm,w3⟩:=hN σ3 H3 n3;exact⟨m',hm,σ3,H3,I3,w3⟩
  |cont=>
   obtain⟨σ3,H3,I3,n3⟩:=q3;obtain⟨m',hm,w3⟩:=hN σ3 H3 n3;exact⟨m',hm,σ3,H3,I3,w3⟩
  |brk=>exact q3
  |ret v=>exact q3
 |false=>
  rw[ao nG];exact wdv ⟨σ1,H2,I2,q2⟩
end
structure It where
 go:Nat->Hp->Prop
 yld:Nat->Hp->V->Hp->Prop
 stop:Nat->Hp->Prop
noncomputable def FpOk(X:Cx)(aa:L3)(H:Hp)(b:af):Prop:=
 H b=none/\b≠X.env.locals/\b∉X.fs/\(b∈X.ex\/X.s₀.heap.objs.size<=b)/\(∀x c,X.env.cells.lookup x=some c->c≠b)/\∀p∈X.pn++aa,p.1≠b
theorem Inv.fpOk{σ:St}{b:af}(I:Inv X aa σ H s)(hb:s.heap.objs.size<=b)(hn:H' b=none):FpOk X aa H' b:=by
 refine⟨hn,HN (jo I.lt hb),I.nofs hb,.inr (bR I.sz hb),λx c e z=>?_,λp hp z=>?_⟩
 ·obtain⟨v,q⟩:=I.cell x c e;exact absurd (jo q.lt (by rw[z];exact hb)) (uw _)
 ·exact absurd (jo (eO (I.pin p hp).1) (by rw[z];exact hb)) (uw _)
structure Turn(P:χ)(w:ω)(K:ag)(tg:br)(J:It)(fp:η)(it:af)(tn:Nat->bv->Prop):Prop where
 mem:it∈fp
 obj:∀i h,tn i h->∀b∈fp,∃o,h.get? b=some o/\∀v,o.data≠.cell v
 keep:∀i h h',tn i h->(∀b∈fp,∀o,h.get? b=some o->h'.get? b=some o)->tn i h'
 item:∀(X:Cx),X.prog=P->X.w=w->X.K=K->X.calm=true->∀(i:Nat) (aa:L3) (s:τ) (σ:St) (H:Hp) (E:L4),Inv X aa σ H s->(∀b∈fp,FpOk X aa H b)->tn i s.heap->J.go i H->
  ah (aw P w) X.A (fz (.ref it)) (λr s1=>∃u,r=some u/\
   ah (aw P w) X.A (io tg (.ref it) u) (λ_ s2=>∃x H',Inv X aa σ H' s2/\RelV x u/\J.yld i H x H'/\tn (i+1) s2.heap/\∀b∈fp,H' b=none) E s1) E s
 done:∀(X:Cx),X.prog=P->X.w=w->X.K=K->X.calm=true->∀(i:Nat) (aa:L3) (s:τ) (σ:St) (H:Hp) (E:L4),Inv X aa σ H s->(∀b∈fp,FpOk X aa H b)->tn i s.heap->J.stop i H->
  ah (aw P w) X.A (fz (.ref it)) (λr s1=>r=none/\Inv X aa σ H s1) E s
 self:∀(A:bp) (i:Nat) (s:τ) (Q:L4) (E:L4),tn i s.heap->Q (.ref it) s->ah (aw P w) A (pyIter (.ref it)) Q E s
noncomputable abbrev TI:=St->Hp->(It->Hp->Prop)->Prop
noncomputable def PIE(X:Cx)(aa:L3)(σ:St)(tg:br)(R:It->Hp->Prop)(itv:ρ)(s2:τ):Prop:=
 ∃(it:af) (fp:η) (tn:Nat->bv->Prop) (J:It) (H':Hp),itv=.ref it/\Inv X aa σ H' s2/\Turn X.prog X.w X.K tg J fp it tn/\tn 0 s2.heap/\(∀b∈fp,FpOk X aa H' b)/\R J H'
noncomputable def PI(X:Cx)(tg iter:br)(wi:TI):Prop:=
 ∀(aa:L3) (s:τ) (σ:St) (H:Hp) (R:It->Hp->Prop),Inv X aa σ H s->wi σ H R->
  ah (aw X.prog X.w) X.A (cx iter X.env) (λv s1=>ah (aw X.prog X.w) X.A (pyIter v) (PIE X aa σ tg R) X.xe s1) X.xe s
theorem go_of{E:L4}{Q:Unit->τ->Prop}(ho:s.heap.get? it=some o)(hc:o.cls=.type n)(hd:o.data=.fields vs)(hn:["enumerate","zip","dict_itemiterator","dict_reverseitemiterator","odict_iterator","itertools.zip_longest","itertools.pairwise"].contains n=false)(hQ:Q () s):ah M A (io tg (.ref it) u) Q E s:=by
 unfold io;cases tg<;>first
  |exact aW hQ
  |(cases u<;>first
    |exact aW hQ
    |(refine aD (wpAny_load ho ?_)
      rw[hc,hd];show ah M A (if(["enumerate","zip","dict_itemiterator","dict_reverseitemiterator","odict_iterator","itertools.zip_longest","itertools.pairwise"].contains n&&vs[0]? ==some (cK _))=true then _ else _) Q E s;rw[ao (by intro h;rw[hn,wgh]at h;cases h)];exact aW hQ))
noncomputable def Itl(K:ag)(a:af):It:=
 ⟨λi H=>∃xs x,SqL K H a xs/\xs[i]? =some x,λi H x H'=>H'=H/\∀xs,SqL K H a xs->xs[i]? =some x,λi H=>∃xs,SqL K H a xs/\xs.length<=i⟩
noncomputable def Itt(K:ag)(a:af):It:=
 ⟨λi H=>∃xs x,SqT K H a xs/\xs[i]? =some x,λi H x H'=>H'=H/\∀xs,SqT K H a xs->xs[i]? =some x,λi H=>∃xs,SqT K H a xs/\xs.length<=i⟩
noncomputable def Itr(lo:Int)(n:Nat):It:=⟨λi _=>i<n,λi H x H'=>H'=H/\x=.int (lo+i),λi _=>n<=i⟩
theorem turn_list{P:χ}{w:ω}{K:ag}{tg:br}(a it:af):Turn P w K tg (Itl K a) [it] it (λi h=>h.IsListIter it a i) where
 mem:=by simp
 obj:=λi h st b hb=>by
  have e:b=it:=by simpa using hb
  subst e;obtain⟨o,e,c,d⟩:=st;exact⟨o,e,λv z=>by rw[d]at z;cases z⟩
 keep:=λi h h' st k=>st.at λo e=>k it (by simp) o e
 item:=by
  intro X hP hw hK hc i aa s σ H E I hf st hg;subst hP hw hK;obtain⟨xs,x,hq,hx⟩:=hg;obtain⟨its,rv,p,hz⟩:=I.list hq;obtain⟨u,hu,ru⟩:=rv.get hx;obtain⟨f0,f1,f2,f3,f4,f5⟩:=hf it (by simp);refine wpAny_pyNext_list_item st p.isList (x:=u) (by simpa using hu) λh' st' sb=>?_;have I1:Inv X aa σ H {s with heap:=h'}:=I.turned (t':=s.toks) (λb o hb e=>(sb.2 b hb).trans e) f0 f1 f3 f4 f5;obtain⟨o,e,c,d⟩:=id st';exact⟨u,rfl,go_of (s:={s with heap:=h'}) e c d (by decide) ⟨x,H,I1,ru,⟨rfl,λys hy=>by rw[I.list_inj hy hq];exact hx⟩,st',λb hb=>(hf b hb).1⟩⟩
 done:=by
  intro X hP hw hK hc i aa s σ H E I hf st hg;subst hP hw hK;obtain⟨xs,hq,hx⟩:=hg;obtain⟨its,rv,p,hz⟩:=I.list hq;obtain⟨f0,f1,f2,f3,f4,f5⟩:=hf it (by simp);have hl:=rv.length;exact wpAny_pyNext_list_end (I.ok.hd hc) st p.isList (by simp;omega) λh' eb=>⟨rfl,I.turned (t':=s.toks) (λb o hb e=>eb b o hb e) f0 f1 f3 f4 f5⟩
 self:=λ_ _ _ _ _ st h=>wpAny_pyIter_listiter st h
theorem turn_tuple{P:χ}{w:ω}{K:ag}{tg:br}(a it:af):Turn P w K tg (Itt K a) [it] it (λi h=>h.IsTupleIter it a i) where
 mem:=by simp
 obj:=λi h st b hb=>by
  have e:b=it:=by simpa using hb
  subst e;obtain⟨o,e,c,d⟩:=st;exact⟨o,e,λv z=>by rw[d]at z;cases z⟩
 keep:=λi h h' st k=>st.at λo e=>k it (by simp) o e
 item:=by
  intro X hP hw hK hc i aa s σ H E I hf st hg;subst hP hw hK;obtain⟨xs,x,hq,hx⟩:=hg;obtain⟨its,rv,p,hz⟩:=I.tuple hq;obtain⟨u,hu,ru⟩:=rv.get hx;obtain⟨f0,f1,f2,f3,f4,f5⟩:=hf it (by simp);refine wpAny_pyNext_tuple_item st (show s.heap.IsTuple a its.toArray from p) (x:=u) (by simpa using hu) λh' st' sb=>?_;have I1:Inv X aa σ H {s with heap:=h'}:=I.turned (t':=s.toks) (λb o hb e=>(sb.2 b hb).trans e) f0 f1 f3 f4 f5;obtain⟨o,e,c,d⟩:=id st';exact⟨u,rfl,go_of (s:={s with heap:=h'}) e c d (by decide) ⟨x,H,I1,ru,⟨rfl,λys hy=>by rw[I.tuple_inj hy hq];exact hx⟩,st',λb hb=>(hf b hb).1⟩⟩
 done:=by
  intro X hP hw hK hc i aa s σ H E I hf st hg;subst hP hw hK;obtain⟨xs,hq,hx⟩:=hg;obtain⟨its,rv,p,hz⟩:=I.tuple hq;obtain⟨f0,f1,f2,f3,f4,f5⟩:=hf it (by simp);have hl:=rv.length;exact wpAny_pyNext_tuple_end (I.ok.hd hc) st (show s.heap.IsTuple a its.toArray from p) (by simp;omega) λh' eb=>⟨rfl,I.turned (t':=s.toks) (λb o hb e=>eb b o hb e) f0 f1 f3 f4 f5⟩
 self:=λ_ _ _ _ _ st h=>wpAny_pyIter_tupleiter st h
theorem turn_range{P:χ}{w:ω}{K:ag}{tg:br}(it:af)(lo:Int)(n:Nat):Turn P w K tg (Itr lo n) [it] it (λi h=>IsRangeIter h it (lo+(i:Nat)*1) ((n:Int)-(i:Nat)) 1) where
 mem:=by simp
 obj:=λi h st b hb=>by
  have e:b=it:=by simpa using hb
  subst e;exact⟨_,st,λv z=>by
   have z':eh _=gx v:=z;cases z'⟩
 keep:=λi h h' st k=>k it (by simp) _ st
 item:=by
  intro X hP hw hK hc i aa s σ H E I hf st hg;subst hP hw hK;obtain⟨f0,f1,f2,f3,f4,f5⟩:=hf it (by simp);have W:=Walks.range (prog:=X.prog) (w:=X.w) (I.ok.hd hc) it lo 1 n;refine W.item i s _ _ hg st λv h' tk hv st' kk=>?_;obtain⟨t,rfl⟩:=hv;have I1:Inv X aa σ H {s with heap:=h',toks:=tk}:=I.turned (λb o hb e=>kk b o (by simpa using hb) e) f0 f1 f3 f4 f5;refine⟨_,rfl,go_of (s:={s with heap:=h',toks:=tk}) (n:="range_iterator") st' rfl rfl (by decide) ⟨.int (lo+i),H,I1,⟨t,?_⟩,⟨rfl,rfl⟩,st',λb hb=>(hf b hb).1⟩⟩;rw[wdw]
 done:=by
  intro X hP hw hK hc i aa s σ H E I hf st hg;subst hP hw hK;obtain⟨f0,f1,f2,f3,f4,f5⟩:=hf it (by simp);exact wpAny_pyNext_range_end (I.ok.hd hc) st (by have:n<=i:=hg;omega) λh' eb=>⟨rfl,I.turned (t':=s.toks) (λb o hb e=>eb b o hb e) f0 f1 f3 f4 f5⟩
 self:=λ_ _ _ _ _ st h=>wpAny_pyIter_rangeiter st h
section
variable{X:Cx}{tg:br}
theorem range_it{σ:St}{R:It->Hp->Prop}{E:L4}{lo hi:Int}(I:Inv X aa σ H s)(h1: -(2^62)<=lo)(h2:lo<2^62)(h3: -(2^62)<=hi)(h4:hi<2^62)(q:R (Itr lo (hi-lo).toNat) H):ah (aw X.prog X.w) X.A (pyIter (.ref s.heap.objs.size)) (PIE X aa σ tg R) E {s with heap:=s.heap.push {cls:=.type "range",data:=.fields #[.int lo t,.int hi u,.int 1 v]},toks:=tk}:=by
 refine wpAny_pyIter_range (wgj ..) (kX h1 h2 h3 h4) ?_;have I1:Inv X aa σ H {s with heap:=s.heap.push {cls:=.type "range",data:=.fields #[.int lo t,.int hi u,.int 1 v]},toks:=tk}:=I.kept λb o e=>fG _ e;refine⟨(s.heap.push {cls:=.type "range",data:=.fields #[.int lo t,.int hi u,.int 1 v]}).objs.size,[(s.heap.push {cls:=.type "range",data:=.fields #[.int lo t,.int hi u,.int 1 v]}).objs.size],_,_,H,rfl,
  I1.kept (t':=tk) λb o e=>fG _ e,turn_range _ lo (hi-lo).toNat,?_,λb hb=>?_,q⟩
 ·have e1:lo+((0:Nat):Int)*1=lo:=by simp
  have e2:(((hi-lo).toNat:Nat):Int)-((0:Nat):Int)=bS lo hi 1:=by rw[wfb];split<;>omega
  show IsRangeIter _ _ (lo+((0:Nat):Int)*1) ((((hi-lo).toNat:Nat):Int)-((0:Nat):Int)) 1;rw[e1,e2];exact lZ _ rfl
 ·have e:b=(s.heap.push {cls:=.type "range",data:=.fields #[.int lo t,.int hi u,.int 1 v]}).objs.size:=by simpa using hb
  subst e;exact I1.fpOk (aQ _) (I1.hok.fresh (aQ _))
noncomputable def iRng1(ta:TA):TI:=λσ H R=>ta σ H λvs H1=>∃j:Int,vs=[.int j]/\ -(2^62)<=j/\j<2^62/\R (Itr 0 j.toNat) H1
noncomputable def iRng2(ta:TA):TI:=λσ H R=>ta σ H λvs H1=>∃i j:Int,vs=[.int i,.int j]/\(-(2^62)<=i/\i<2^62/\ -(2^62)<=j/\j<2^62)/\R (Itr i (j-i).toNat) H1
theorem Ec{a:br}{ta:TA}{p pos:eR}(hg:Gl X "range")(hm:X.mg "range"=none)(ha:PA X [a] ta)(hs:az [a] X.env=[(false,cx a X.env)]:=by rfl):PI X tg (.Call (.Name "range" p) [a] [] pos) (iRng1 ta):=by
 intro aa s σ H R I h;refine Call_ (ld_blt I hg hm wge (Tf (thn (ha pos aa s σ H _ I h) λus s1 ⟨vs,H1,I1,r1,q1⟩=>?_) hs rfl));obtain⟨j,e,q1,q2,q⟩:=q1;subst e;cases r1 with
 |cons r rr=>
  cases rr;obtain⟨t,rfl⟩:=r;exact me (range_it I1 (by omega) (by omega) q1 q2 (by simpa using q))
theorem pi_range2{a b:br}{ta:TA}{p pos:eR}(hg:Gl X "range")(hm:X.mg "range"=none)(ha:PA X [a,b] ta)(hs:az [a,b] X.env=[(false,cx a X.env),(false,cx b X.env)]:=by rfl)(hs2:az [b] X.env=[(false,cx b X.env)]:=by rfl):
  PI X tg (.Call (.Name "range" p) [a,b] [] pos) (iRng2 ta):=by
 intro aa s σ H R I h;refine Call_ (ld_blt I hg hm wge (Tf (thn (ha pos aa s σ H _ I h) λus s1 ⟨vs,H1,I1,r1,q1⟩=>?_) (by rw[hs,hs2]) (by rw[hs2];rfl)));obtain⟨i,j,e,⟨q1,q2,q3,q4⟩,q⟩:=q1;subst e;cases r1 with
 |cons r rr=>
  cases rr with
  |cons r' rr=>
   cases rr;obtain⟨t,rfl⟩:=r;obtain⟨t',rfl⟩:=r';exact call_range_2 (range_it I1 q1 q2 q3 q4 q)
noncomputable def tFor(wi:TI)(g:TG)(tb:TS):TS:=λD σ H=>wi σ H λJ H1=>∃W:Nat->Nat->St->Hp->Prop,(∃m,W 0 m σ H1)/\∀i m σ H,W i m σ H->
 (J.stop i H/\D.nx σ H)\/(J.go i H/\∃N:St->Hp->Prop,(∀σ' H',N σ' H'->∃m',m'<m/\W (i+1) m' σ' H')/\∀x H',J.yld i H x H'->g x σ H' λσ2 H2=>tb {D with nx:=N,ct:=N,bk:=D.nx} σ2 H2)
noncomputable def pinsAt(fp:η)(h:bv):L3:=fp.filterMap λb=>(h.get? b).map λo=>(b,o)
theorem mem_pinsAt(hb:b∈fp)(e:h.get? b=some o):(b,o)∈pinsAt fp h:=List.mem_filterMap.mpr ⟨b,hb,by rw[e];rfl⟩
theorem of_pinsAt(hp:p∈pinsAt fp h):p.1∈fp/\h.get? p.1=some p.2:=by
 obtain⟨b,hb,e⟩:=List.mem_filterMap.mp hp;cases q:h.get? b with
 |none=>rw[q]at e;cases e
 |some o=>
  rw[q]at e;have e':(b,o)=p:=ux e;subst e';exact⟨hb,q⟩
theorem Inv.pinned{σ:St}(I:Inv X aa σ H s)(hf:∀b∈fp,FpOk X aa H b)(ho:∀b∈fp,∃o,s.heap.get? b=some o/\∀v,o.data≠.cell v):Inv X (aa++pinsAt fp s.heap) σ H s:=
 I.pins_of λp hp=>(lM.mp hp).elim (λz=>I.pin p (ig _ z)) λz=>by
  obtain⟨hb,e⟩:=of_pinsAt z;obtain⟨f0,f1,f2,_⟩:=hf p.1 hb;obtain⟨o,e',d⟩:=ho p.1 hb;rw[e]at e';cases e';exact⟨e,f0,f1,f2,d⟩
theorem Inv.unpinned{σ:St}(I:Inv X (aa++pl) σ H s):Inv X aa σ H s:=I.pins_of λp hp=>I.pin p (ig _ (S6 _ hp))
theorem Ay{iter:br}{body:List eW}{wi:TI}{g:TG}{tb:TS}{pos:eR}(hp:PassesOwn (aw X.prog X.w) X.A X.env X.xe)(hc:X.calm=true)(hi:PI X tg iter wi)(hg:PG X tg g)(hb:PSs X body tb)(hs:∀x,e8 iter X.env x=pure x:=by intro _;rfl):PS X (.For tg iter body [] pos) (tFor wi g tb):=by
 intro aa s σ H D I h;refine wpAny_For (thn (hi aa s σ H _ I h) λv s1 h1=>thn h1 λitv s2 h2=>?_) hs;obtain⟨it,fp,tn,J,H2,e,I2,T,st2,f2,W,⟨m0,w0⟩,turn⟩:=h2;subst e
 have stat:∀{H':Hp},(∀b∈fp,H' b=none)->∀b∈fp,FpOk X aa H' b:=λhn b hb=>⟨hn b hb,(f2 b hb).2⟩;refine codeAny_forLoop_any (λn s'=>∃i σ' H',Inv X aa σ' H' s'/\tn i s'.heap/\(∀b∈fp,H' b=none)/\W i n σ' H') ?_ m0 ⟨0,σ,H2,I2,st2,λb hb=>(f2 b hb).1,w0⟩;rintro n s3 ⟨i,σ3,H3,I3,st3,fr3,w3⟩;rcases turn i n σ3 H3 w3 with⟨stop,qn⟩|⟨go,N,hN,step⟩
 ·refine XR hp (thn (T.done X rfl rfl rfl hc i aa s3 σ3 H3 X.xe I3 (stat fr3) st3 stop) λr s4 ⟨hr,I4⟩=>?_);subst hr;exact wdv ⟨σ3,H3,I4,qn⟩
 ·refine XR hp (thn (T.item X rfl rfl rfl hc i aa s3 σ3 H3 X.xe I3 (stat fr3) st3 go) λr s4 ⟨u,hr,h4⟩=>?_);subst hr;refine XR hp (thn h4 λ_ s5 ⟨x,H5,I5,r5,y5,st5,fr5⟩=>?_);have I5':=I5.pinned (stat fr5) (T.obj _ _ st5);refine XR hp (thn (hg _ s5 σ3 H5 x u _ I5' r5 (step x H5 y5)) λ_ s6 ⟨σ6,H6,I6,q6⟩=>?_);refine XR hp (thn (hb _ s6 σ6 H6 _ I6 q6) λf s7 q7=>?_);have again:∀{σ7:St}{H7:Hp},Inv X (aa++pinsAt fp s5.heap) σ7 H7 s7->N σ7 H7->∃m,m<n/\∃i σ' H',Inv X aa σ' H' s7/\tn i s7.heap/\(∀b∈fp,H' b=none)/\W i m σ' H':=λ{σ7 H7} I7 n7=>by
   obtain⟨m',hm,w7⟩:=hN σ7 H7 n7;refine⟨m',hm,i+1,σ7,H7,I7.unpinned,T.keep _ _ _ st5 λb hb o e=>(I7.pin (b,o) (ig _ (ig _ (mem_pinsAt hb e)))).1,λb hb=>?_,w7⟩;obtain⟨o,e,d⟩:=T.obj _ _ st5 b hb;exact(I7.pin (b,o) (ig _ (ig _ (mem_pinsAt hb e)))).2.1
  cases f with
  |next=>obtain⟨σ7,H7,I7,n7⟩:=q7;exact again I7 n7
  |cont=>obtain⟨σ7,H7,I7,n7⟩:=q7;exact again I7 n7
  |brk=>obtain⟨σ7,H7,I7,q7⟩:=q7;exact⟨σ7,H7,I7.unpinned,q7⟩
  |ret v=>obtain⟨x7,σ7,H7,I7,r7,q7⟩:=q7;exact⟨x7,σ7,H7,I7.unpinned,r7,q7⟩
end
theorem for_list{K:ag}{g:TG}{tb:TS}{D:Ends}(Pv:Nat->St->Hp->Prop)(h0:Pv 0 σ H)(hl:∀i σ H,i<=xs.length->Pv i σ H->SqL K H a xs)(hs:∀i x σ H,xs[i]? =some x->Pv i σ H->g x σ H λσ2 H2=>tb {D with nx:=Pv (i+1),ct:=Pv (i+1),bk:=D.nx} σ2 H2)(hd:∀σ H,Pv xs.length σ H->D.nx σ H):
  ∃W:Nat->Nat->St->Hp->Prop,(∃m,W 0 m σ H)/\∀i m σ H,W i m σ H->
   ((Itl K a).stop i H/\D.nx σ H)\/((Itl K a).go i H/\∃N:St->Hp->Prop,(∀σ' H',N σ' H'->∃m',m'<m/\W (i+1) m' σ' H')/\∀x H',(Itl K a).yld i H x H'->g x σ H' λσ2 H2=>tb {D with nx:=N,ct:=N,bk:=D.nx} σ2 H2):=by
 refine⟨λi m σ H=>m=xs.length-i/\i<=xs.length/\Pv i σ H,⟨xs.length,by simp,dX _,h0⟩,?_⟩;rintro i m σ H ⟨rfl,hi,p⟩;have q:=hl i σ H hi p;by_cases hlt:i<xs.length
 ·refine .inr ⟨⟨xs,xs[i],q,by simp[hlt]⟩,Pv (i+1),λσ' H' p'=>⟨xs.length-(i+1),by omega,rfl,hlt,p'⟩,λx H' y=>?_⟩;obtain⟨e,y⟩:=y;subst e;exact hs i x σ _ (y xs q) p
 ·have e:i=xs.length:=by omega
  subst e;exact .inl ⟨⟨xs,q,aQ _⟩,hd σ H p⟩
theorem for_tup{K:ag}{g:TG}{tb:TS}{D:Ends}(Pv:Nat->St->Hp->Prop)(h0:Pv 0 σ H)(hl:∀i σ H,i<=xs.length->Pv i σ H->SqT K H a xs)(hs:∀i x σ H,xs[i]? =some x->Pv i σ H->g x σ H λσ2 H2=>tb {D with nx:=Pv (i+1),ct:=Pv (i+1),bk:=D.nx} σ2 H2)(hd:∀σ H,Pv xs.length σ H->D.nx σ H):
  ∃W:Nat->Nat->St->Hp->Prop,(∃m,W 0 m σ H)/\∀i m σ H,W i m σ H->
   ((Itt K a).stop i H/\D.nx σ H)\/((Itt K a).go i H/\∃N:St->Hp->Prop,(∀σ' H',N σ' H'->∃m',m'<m/\W (i+1) m' σ' H')/\∀x H',(Itt K a).yld i H x H'->g x σ H' λσ2 H2=>tb {D with nx:=N,ct:=N,bk:=D.nx} σ2 H2):=by
 refine⟨λi m σ H=>m=xs.length-i/\i<=xs.length/\Pv i σ H,⟨xs.length,by simp,dX _,h0⟩,?_⟩;rintro i m σ H ⟨rfl,hi,p⟩;have q:=hl i σ H hi p;by_cases hlt:i<xs.length
 ·refine .inr ⟨⟨xs,xs[i],q,by simp[hlt]⟩,Pv (i+1),λσ' H' p'=>⟨xs.length-(i+1),by omega,rfl,hlt,p'⟩,λx H' y=>?_⟩;obtain⟨e,y⟩:=y;subst e;exact hs i x σ _ (y xs q) p
 ·have e:i=xs.length:=by omega
  subst e;exact .inl ⟨⟨xs,q,aQ _⟩,hd σ H p⟩
theorem Tt{lo:Int}{g:TG}{tb:TS}{D:Ends}(Pv:Nat->St->Hp->Prop)(h0:Pv 0 σ H)(hs:∀i σ H,i<n->Pv i σ H->g (.int (lo+i)) σ H λσ2 H2=>tb {D with nx:=Pv (i+1),ct:=Pv (i+1),bk:=D.nx} σ2 H2)(hd:∀σ H,Pv n σ H->D.nx σ H):
  ∃W:Nat->Nat->St->Hp->Prop,(∃m,W 0 m σ H)/\∀i m σ H,W i m σ H->
   ((Itr lo n).stop i H/\D.nx σ H)\/((Itr lo n).go i H/\∃N:St->Hp->Prop,(∀σ' H',N σ' H'->∃m',m'<m/\W (i+1) m' σ' H')/\∀x H',(Itr lo n).yld i H x H'->g x σ H' λσ2 H2=>tb {D with nx:=N,ct:=N,bk:=D.nx} σ2 H2):=by
 refine⟨λi m σ H=>m=n-i/\i<=n/\Pv i σ H,⟨n,by simp,dX _,h0⟩,?_⟩;rintro i m σ H ⟨rfl,hi,p⟩;by_cases hlt:i<n
 ·refine .inr ⟨hlt,Pv (i+1),λσ' H' p'=>⟨n-(i+1),by omega,rfl,hlt,p'⟩,λx H' y=>?_⟩;obtain⟨e,y⟩:=y;subst e y;exact hs i σ _ hlt p
 ·have e:i=n:=by omega
  subst e;exact .inl ⟨aQ _,hd σ H p⟩
noncomputable abbrev R2:=V->V->Hp->VK->Prop
noncomputable def OpR(X:Cx)(f:ρ->ρ->Sem ρ)(r:R2):Prop:=
 ∀(aa:L3) (s:τ) (σ:St) (H:Hp) (x y:V) (v u:ρ) (Q:VK),Inv X aa σ H s->RelV x v->RelV y u->r x y H Q->
  ah (aw X.prog X.w) X.A (f v u) (EP X aa σ Q) X.xe s
noncomputable def UnR(X:Cx)(f:ρ->Sem ρ)(r:V->Hp->VK->Prop):Prop:=
 ∀(aa:L3) (s:τ) (σ:St) (H:Hp) (x:V) (v:ρ) (Q:VK),Inv X aa σ H s->RelV x v->r x H Q->
  ah (aw X.prog X.w) X.A (f v) (EP X aa σ Q) X.xe s
noncomputable def CallR(X:Cx)(f:ρ)(r:List V->Hp->VK->Prop):Prop:=
 ∀(aa:L3) (s:τ) (σ:St) (H:Hp) (xs:List V) (us:List ρ) (Q:VK),Inv X aa σ H s->Vals xs us->r xs H Q->
  ah (aw X.prog X.w) X.A (call f us) (EP X aa σ Q) X.xe s
noncomputable def TruR(X:Cx)(r:V->Hp->(Bool->Hp->Prop)->Prop):Prop:=
 ∀(aa:L3) (s:τ) (σ:St) (H:Hp) (x:V) (v:ρ) (Q:Bool->Hp->Prop),Inv X aa σ H s->RelV x v->r x H Q->
  ah (aw X.prog X.w) X.A (truthy v) (TP X aa σ Q) X.xe s
noncomputable def tOp(r:R2)(ta tb:TE):TE:=λσ H Q=>ta σ H λx H1=>tb σ H1 λy H2=>r x y H2 Q
noncomputable def tUn(r:V->Hp->VK->Prop)(ta:TE):TE:=λσ H Q=>ta σ H λx H1=>r x H1 Q
inductive rI(C:Int->Int->Prop)(g:Int->Int->V)(x:V)(y:V)(H:Hp)(Q:VK):Prop
 |mk(i j)(_:x=.int i)(_:y=.int j)(_:C i j)(_:Q (g i j) H)
inductive rI0(g:Int->Int->V)(x:V)(y:V)(H:Hp)(Q:VK):Prop
 |mk(i j)(_:x=.int i)(_:y=.int j)(_:Q (g i j) H)
inductive rU(g:Int->V)(x:V)(H:Hp)(Q:VK):Prop
 |mk(i)(_:x=.int i)(_:Q (g i) H)
section
variable{X:Cx}{a b:br}{ta tb:TE}{pos:eR}
theorem binT(ha:PE X a ta)(hb:PE X b tb){σ:St}{R:V->V->Hp->Prop}(I:Inv X aa σ H s)(h:ta σ H λx H1=>tb σ H1 λy H2=>R x y H2){Q:L4}{f:ρ->ρ->Sem ρ}(hf:∀v u s2 x y H2,Inv X aa σ H2 s2->RelV x v->RelV y u->R x y H2->ah (aw X.prog X.w) X.A (f v u) Q X.xe s2):
  ah (aw X.prog X.w) X.A (cx a X.env) (λv s₁=>ah (aw X.prog X.w) X.A (cx b X.env) (λu s₂=>ah (aw X.prog X.w) X.A (f v u) Q X.xe s₂) X.xe s₁) X.xe s:=by
 refine thn (ha aa s σ H _ I h) λv s1 ⟨x,H1,I1,r1,q1⟩=>?_;refine thn (hb aa s1 σ H1 _ I1 q1) λu s2 ⟨y,H2,I2,r2,q2⟩=>?_;exact hf v u s2 x y H2 I2 r1 r2 q2
theorem bW(ho:OpR X (cA op) r)(ha:PE X a ta)(hb:PE X b tb):PE X (.BinOp a op b pos) (tOp r ta tb):=by
 intro aa s σ H Q I h;exact wpAny_BinOp (binT ha hb I h λv u s2 x y H2 I2 rx ry q=>ho aa s2 σ H2 x y v u Q I2 rx ry q)
theorem pe_un{r:V->Hp->VK->Prop}(ho:UnR X (unaryOp op) r)(ha:PE X a ta):PE X (.UnaryOp op a pos) (tUn r ta):=by
 intro aa s σ H Q I h;exact UnaryOp_ (thn (ha aa s σ H _ I h) λv s1 ⟨x,H1,I1,r1,q1⟩=>ho aa s1 σ H1 x v Q I1 r1 q1)
theorem opI{C:Int->Int->Prop}{g:Int->Int->Int}(rule:∀(i j:Int) (t u:Tok) (s:τ) (Q:L4) (E:L4),C i j->Q (.int (g i j) s.toks) {s with toks:=s.toks+1}->ah (aw X.prog X.w) X.A (f (.int i t) (.int j u)) Q E s):
  OpR X f (rI C λi j=>.int (g i j)):=by
 intro aa s σ H x y v u Q I rx ry h;obtain⟨i,j,rfl,rfl,hc,q⟩:=h;obtain⟨t,rfl⟩:=rx;obtain⟨t',rfl⟩:=ry;exact rule i j t t' s _ _ hc ⟨.int (g i j),H,I.tok _,⟨_,rfl⟩,q⟩
theorem opI0{g:Int->Int->Int}(rule:∀(i j:Int) (t u:Tok) (s:τ) (Q:L4) (E:L4),Q (.int (g i j) s.toks) {s with toks:=s.toks+1}->ah (aw X.prog X.w) X.A (f (.int i t) (.int j u)) Q E s):
  OpR X f (rI0 λi j=>.int (g i j)):=by
 intro aa s σ H x y v u Q I rx ry h;obtain⟨i,j,rfl,rfl,q⟩:=h;obtain⟨t,rfl⟩:=rx;obtain⟨t',rfl⟩:=ry;exact rule i j t t' s _ _ ⟨.int (g i j),H,I.tok _,⟨_,rfl⟩,q⟩
theorem opB0{g:Int->Int->Bool}(rule:∀(i j:Int) (t u:Tok) (s:τ) (Q:L4) (E:L4),Q (.bool (g i j)) s->ah (aw X.prog X.w) X.A (f (.int i t) (.int j u)) Q E s):
  OpR X f (rI0 λi j=>.bl (g i j)):=by
 intro aa s σ H x y v u Q I rx ry h;obtain⟨i,j,rfl,rfl,q⟩:=h;obtain⟨t,rfl⟩:=rx;obtain⟨t',rfl⟩:=ry;exact rule i j t t' s _ _ ⟨.bl (g i j),H,I,rfl,q⟩
noncomputable def CPow(i j:Int):Prop:=0<=j/\j<=1000000/\i.natAbs<2^64
noncomputable def CMul(i j:Int):Prop:=(-(2^64)<i/\i<2^64)\/(-(2^64)<j/\j<2^64)
theorem CMul.ok(h:CMul i j):IntMulOk i j:=by
 rcases h with⟨h1,h2⟩|⟨h1,h2⟩
 ·exact .of_left (intBits_le_64 h1 h2)
 ·exact .of_right (intBits_le_64 h1 h2)
theorem sI:OpR X (cA .Add) (rI0 λi j=>.int (i+j)):=opI0 λ_ _ _ _ _ _ _ q=>add_int q
theorem op_sub:OpR X (cA .Sub) (rI0 λi j=>.int (i-j)):=opI0 λ_ _ _ _ _ _ _ q=>sub_int q
theorem wk:OpR X (cA .Mult) (rI CMul λi j=>.int (i*j)):=opI λ_ _ _ _ _ _ _ hc q=>mul_int q hc.ok
theorem op_mod:OpR X (cA .Mod) (rI (λ_ j=>0<j) λi j=>.int (i %j)):=opI λi j _ _ _ _ _ hc q=>by
 have h1:(0:Int)<j:=hc;exact mod_int' (by omega) (by rw[Int.fmod_eq_emod_of_nonneg i (by omega)];exact q)
theorem op_pow:OpR X (cA .Pow) (rI CPow λi j=>.int (i^j.toNat)):=opI λ_ _ _ _ _ _ _ hc q=>pow_int_small hc.1 hc.2.1 hc.2.2 q
theorem unI{g:Int->Int}(rule:∀(i:Int) (t:Tok) (s:τ) (Q:L4) (E:L4),Q (.int (g i) s.toks) {s with toks:=s.toks+1}->ah (aw X.prog X.w) X.A (f (.int i t)) Q E s):
  UnR X f (rU λi=>.int (g i)):=by
 intro aa s σ H x v Q I rx h;obtain⟨i,rfl,q⟩:=h;obtain⟨t,rfl⟩:=rx;exact rule i t s _ _ ⟨.int (g i),H,I.tok _,⟨_,rfl⟩,q⟩
theorem un_neg:UnR X (unaryOp .USub) (rU λi=>.int (-i)):=unI λ_ _ _ _ _ q=>neg_int q
end
noncomputable def scal:V->V->Bool
 | .non,.non=>true| .non,.int _=>true| .int _,.non=>true| .non,.bl _=>true| .bl _,.non=>true| .non,.str _=>true| .str _,.non=>true
 | .int _,.int _=>true| .bl _,.bl _=>true| .str _,.str _=>true| .byt _,.byt _=>true
 | .int _,.str _=>true| .str _,.int _=>true| .bl _,.str _=>true| .str _,.bl _=>true
 |_,_=>false
noncomputable def rEq:R2:=λx y H Q=>scal x y=true/\Q (.bl (decide (x=y))) H
noncomputable def rNe:R2:=λx y H Q=>scal x y=true/\Q (.bl (!decide (x=y))) H
theorem dec_int:decide (V.int i=V.int j)=(i==j):=by
 rw[sS];simp
theorem dec_bl:decide (V.bl i=V.bl j)=(i==j):=by
 rw[sS];simp
theorem dec_str:decide (V.str i=V.str j)=(i==j):=by
 rw[sS];simp
theorem dec_byt:decide (V.byt i=V.byt j)=(i.toList==j.toList):=by
 rw[sS];cases i;cases j;simp
section
variable{X:Cx}{a b c:br}{ta tb tc:TE}{pos:eR}
theorem mO{σ:St}(I:Inv X aa σ H s)(q:Q (.bl k) H)(e:k=k'):EP X aa σ Q (.bool k') s:=by
 subst e;exact⟨.bl k,H,I,rfl,q⟩
theorem op_eq:OpR X (bt .Eq) rEq:=by
 intro aa s σ H x y v u Q I rx ry h;obtain⟨hs,q⟩:=h;cases x with
 |non=>
  cases rx;cases y with
  |non=>cases ry;exact PySem.EqNone.eq_none_none (mO I q (by simp))
  |bl j=>cases ry;exact PySem.EqNone.eq_none_bool (mO I q (by simp))
  |int j=>obtain⟨t',rfl⟩:=ry;exact PySem.EqNone.eq_none_int (mO I q (by simp))
  |str j=>obtain⟨t',rfl⟩:=ry;exact PySem.EqNone.eq_none_str (mO I q (by simp))
  |_=>exact absurd (show false=true from hs) nG
 |bl i=>
  cases rx;cases y with
  |non=>cases ry;exact PySem.EqNone.eq_bool_none (mO I q (by simp))
  |bl j=>cases ry;exact eq_bool (mO I q dec_bl)
  |str j=>obtain⟨t',rfl⟩:=ry;exact PySem.EqMixed.eq_bool_str (mO I q (by simp))
  |_=>exact absurd (show false=true from hs) nG
 |int i=>
  obtain⟨t,rfl⟩:=rx;cases y with
  |non=>cases ry;exact PySem.EqNone.eq_int_none (mO I q (by simp))
  |int j=>obtain⟨t',rfl⟩:=ry;exact eq_int (mO I q dec_int)
  |str j=>obtain⟨t',rfl⟩:=ry;exact PySem.EqMixed.eq_int_str (mO I q (by simp))
  |_=>exact absurd (show false=true from hs) nG
 |str i=>
  obtain⟨t,rfl⟩:=rx;cases y with
  |non=>cases ry;exact PySem.EqNone.eq_str_none (mO I q (by simp))
  |bl j=>cases ry;exact PySem.EqMixed.eq_str_bool (mO I q (by simp))
  |int j=>obtain⟨t',rfl⟩:=ry;exact PySem.EqMixed.eq_str_int (mO I q (by simp))
  |str j=>obtain⟨t',rfl⟩:=ry;exact eq_str (mO I q dec_str)
  |_=>exact absurd (show false=true from hs) nG
 |byt i=>
  obtain⟨t,rfl⟩:=rx;cases y with
  |byt j=>obtain⟨t',rfl⟩:=ry;exact W.eq_bytes (mO I q dec_byt)
  |_=>exact absurd (show false=true from hs) nG
 |_=>cases y<;>exact absurd (show false=true from hs) nG
theorem op_ne:OpR X (bt .NotEq) rNe:=by
 intro aa s σ H x y v u Q I rx ry h;obtain⟨hs,q⟩:=h;cases x with
 |non=>
  cases rx;cases y with
  |non=>cases ry;exact PySem.EqNone.ne_none_none (mO I q (by simp))
  |bl j=>cases ry;exact PySem.EqNone.ne_none_bool (mO I q (by simp))
  |int j=>obtain⟨t',rfl⟩:=ry;exact PySem.EqNone.ne_none_int (mO I q (by simp))
  |str j=>obtain⟨t',rfl⟩:=ry;exact PySem.EqNone.ne_none_str (mO I q (by simp))
  |_=>exact absurd (show false=true from hs) nG
 |bl i=>
  cases rx;cases y with
  |non=>cases ry;exact PySem.EqNone.ne_bool_none (mO I q (by simp))
  |bl j=>cases ry;exact ne_bool (mO I q (gR not dec_bl))
  |str j=>obtain⟨t',rfl⟩:=ry;exact PySem.EqMixed.ne_bool_str (mO I q (by simp))
  |_=>exact absurd (show false=true from hs) nG
 |int i=>
  obtain⟨t,rfl⟩:=rx;cases y with
  |non=>cases ry;exact PySem.EqNone.ne_int_none (mO I q (by simp))
  |int j=>obtain⟨t',rfl⟩:=ry;exact ne_int (mO I q (gR not dec_int))
  |str j=>obtain⟨t',rfl⟩:=ry;exact PySem.EqMixed.ne_int_str (mO I q (by simp))
  |_=>exact absurd (show false=true from hs) nG
 |str i=>
  obtain⟨t,rfl⟩:=rx;cases y with
  |non=>cases ry;exact PySem.EqNone.ne_str_none (mO I q (by simp))
  |bl j=>cases ry;exact PySem.EqMixed.ne_str_bool (mO I q (by simp))
  |int j=>obtain⟨t',rfl⟩:=ry;exact PySem.EqMixed.ne_str_int (mO I q (by simp))
  |str j=>obtain⟨t',rfl⟩:=ry;exact ne_str (mO I q (gR not dec_str))
  |_=>exact absurd (show false=true from hs) nG
 |byt i=>
  obtain⟨t,rfl⟩:=rx;cases y with
  |byt j=>obtain⟨t',rfl⟩:=ry;exact W.ne_bytes (mO I q (gR not dec_byt))
  |_=>exact absurd (show false=true from hs) nG
 |_=>cases y<;>exact absurd (show false=true from hs) nG
theorem op_lt:OpR X (bt .Lt) (rI0 λi j=>.bl (decide (i<j))):=opB0 λ_ _ _ _ _ _ _ q=>lt_int q
theorem op_le:OpR X (bt .LtE) (rI0 λi j=>.bl (decide (i<=j))):=opB0 λ_ _ _ _ _ _ _ q=>le_int q
theorem op_gt:OpR X (bt .Gt) (rI0 λi j=>.bl (decide (j<i))):=opB0 λ_ _ _ _ _ _ _ q=>gt_int q
theorem op_ge:OpR X (bt .GtE) (rI0 λi j=>.bl (decide (j<=i))):=opB0 λ_ _ _ _ _ _ _ q=>ge_int q
theorem op_isN:OpR X (bt .Is) (λx y H Q=>y=.non/\Q (.bl (decide (x=.non))) H):=by
 intro aa s σ H x y v u Q I rx ry h;obtain⟨rfl,q⟩:=h;cases ry;refine is_none_gen (mO I q ?_);cases x<;>first
  |(cases rx;rfl)
  |(obtain⟨t,rfl⟩:=rx;rfl)
theorem op_notN:OpR X (bt .IsNot) (λx y H Q=>y=.non/\Q (.bl (!decide (x=.non))) H):=by
 intro aa s σ H x y v u Q I rx ry h;obtain⟨rfl,q⟩:=h;cases ry;refine isnot_none_gen (mO I q ?_);cases x<;>first
  |(cases rx;rfl)
  |(obtain⟨t,rfl⟩:=rx;rfl)
theorem OpR.or(h:OpR X f r)(h':OpR X f r'):OpR X f (λx y H Q=>r x y H Q\/r' x y H Q):=by
 intro aa s σ H x y v u Q I rx ry q;rcases q with q|q
 ·exact h aa s σ H x y v u Q I rx ry q
 ·exact h' aa s σ H x y v u Q I rx ry q
theorem nomark(b:br){op:CmpOp}(h:op≠.In:=by decide)(h2:op≠.NotIn:=by decide):gy op b=false:=by
 have e1:(op==CmpOp.In)=false:=by cases op<;>first |rfl|exact absurd rfl h
 have e2:(op==CmpOp.NotIn)=false:=by cases op<;>first |rfl|exact absurd rfl h2
 cases b<;>simp[gy,e1,e2]
theorem Hx{op:CmpOp}{r:R2}(ho:OpR X (bt op) r)(ha:PE X a ta)(hb:PE X b tb)(hm:gy op b=false:=by exact nomark _):PE X (.Compare a [op] [b] pos) (tOp r ta tb):=by
 intro aa s σ H Q I h;exact wpAny_Compare1 (binT ha hb I h λv u s2 x y H2 I2 rx ry q=>ho aa s2 σ H2 x y v u Q I2 rx ry q) hm
noncomputable def tTest(t:TE):TT:=λσ H Q=>t σ H λx H'=>∃k,x=.bl k/\Q k H'
theorem iM{op:CmpOp}{r:R2}(ho:OpR X (bt op) r)(ha:PE X a ta)(hb:PE X b tb)(hm:gy op b=false:=by exact nomark _):PT X (.Compare a [op] [b] pos) (tTest (tOp r ta tb)):=by
 intro aa s σ H Q I h;refine wpAny_isTrue_Compare1 (thn (ha aa s σ H _ I h) λv s1 ⟨x,H1,I1,r1,q1⟩=>thn (hb aa s1 σ H1 _ I1 q1) λu s2 ⟨y,H2,I2,r2,q2⟩=>
  thn (ho aa s2 σ H2 x y v u _ I2 r1 r2 q2) λc s3 ⟨z,H3,I3,r3,k,e,q3⟩=>?_) hm
 subst e;cases r3;exact Mw ⟨H3,I3,q3⟩
noncomputable def tChain(r r':R2)(ta tb tc:TE):TE:=λσ H Q=>ta σ H λx H1=>tb σ H1 λy H2=>r x y H2 λz H3=>∃k,z=.bl k/\
 (if k=true then tc σ H3 λw' H4=>r' y w' H4 Q else Q (.bl false) H3)
theorem pe_chain{op op':CmpOp}{r r':R2}(ho:OpR X (bt op) r)(ho':OpR X (bt op') r')(ha:PE X a ta)(hb:PE X b tb)(hc:PE X c tc)(hm:lastMarks [op,op'] [b,c]=false:=by with_unfolding_all rfl):PE X (.Compare a [op,op'] [b,c] pos) (tChain r r' ta tb tc):=by
 intro aa s σ H Q I h;refine Compare_chain (thn (ha aa s σ H _ I h) λv s1 ⟨x,H1,I1,r1,q1⟩=>chain_link (thn (hb aa s1 σ H1 _ I1 q1) λu s2 ⟨y,H2,I2,r2,q2⟩=>
  thn (ho aa s2 σ H2 x y v u _ I2 r1 r2 q2) λd s3 ⟨z,H3,I3,r3,k,e,q3⟩=>?_)) hm
 subst e;cases r3;apply Mw;cases k with
 |false=>exact ite_ff ⟨.bl false,H3,I3,rfl,q3⟩
 |true=>exact ite_tt (chain_last (thn (hc aa s3 σ H3 _ I3 q3) λw' s4 ⟨z',H4,I4,r4,q4⟩=>ho' aa s4 σ H4 y z' u w' Q I4 r2 r4 q4))
noncomputable def TruV(K:ag)(x:V)(H:Hp)(k:Bool):Prop:=
 match x with
 | .non=>k=false
 | .bl b=>k=b
 | .int i=>k=(i !=0)
 | .str y=>y.length<=sizeLine/\k=((y.length:Int) !=0)
 | .byt y=>y.size<=sizeLine/\k=((y.size:Int) !=0)
 | .ref p=>(∃xs,SqL K H p xs/\k= !xs.isEmpty)\/(∃xs,SqT K H p xs/\k= !xs.isEmpty)\/∃kvs,H p=some (.dK kvs)/\k= !kvs.isEmpty
 |_=>False
theorem isEmpty_kv{κ:Type}{kvs:List (κ×V)}{vs:List (κ×ρ)}(r:KV kvs vs):(!vs.isEmpty)= !kvs.isEmpty:=by
 cases r<;>rfl
theorem isEmpty_of(r:Vals xs its):(!its.toArray.isEmpty)= !xs.isEmpty:=by
 cases r<;>simp
theorem line63:(sizeLine:Nat)<2^63:=by rw[eZ];decide
theorem tru_ok:TruR X (λx H Q=>∃k,TruV X.K x H k/\Q k H):=by
 intro aa s σ H x v Q I rx h;obtain⟨k,e,q⟩:=h;have hl:=line63;have hs:sizeLine=16777216:=eZ;cases x with
 |non=>
  cases rx;have e':k=false:=e;subst e';exact truthy_none ⟨H,I,q⟩
 |bl b=>
  cases rx;have e':k=b:=e;subst e';exact Mw ⟨H,I,q⟩
 |int i=>
  obtain⟨t,rfl⟩:=rx;have e':k=(i !=0):=e;subst e';exact PySem.P.truthy_int ⟨H,I,q⟩
 |str y=>
  obtain⟨t,rfl⟩:=rx;obtain⟨hy,e'⟩:y.length<=sizeLine/\k=((y.length:Int) !=0):=e;subst e';exact PySem.P.truthy_str (by omega) ⟨H,I.tok _,q⟩
 |byt y=>
  obtain⟨t,rfl⟩:=rx;obtain⟨hy,e'⟩:y.size<=sizeLine/\k=((y.size:Int) !=0):=e;subst e';exact W.truthy_bytes (by omega) ⟨H,I.tok _,q⟩
 |ref p=>
  cases rx;have e':(∃xs,SqL X.K H p xs/\k= !xs.isEmpty)\/(∃xs,SqT X.K H p xs/\k= !xs.isEmpty)\/∃kvs,H p=some (.dK kvs)/\k= !kvs.isEmpty:=e;rcases e' with⟨xs,hx,e'⟩|⟨xs,hx,e'⟩|⟨kvs,hx,e'⟩
  ·subst e';obtain⟨its,r,pl,hz⟩:=I.list hx;have ad:=r.length;exact wpAny_truthy_list pl.isList (by simp only[gw];omega) ⟨H,I.tok _,by rw[isEmpty_of r];exact q⟩
  ·subst e';obtain⟨its,r,pl,hz⟩:=I.tuple hx;have ad:=r.length;exact truthy_tuple pl (by simp only[gw];omega) ⟨H,I.tok _,by rw[isEmpty_of r];exact q⟩
  ·subst e';obtain⟨hz,hS,vs,r,m⟩:kvs.length<=sizeLine/\(p==bz)=false/\∃vs,KV kvs vs/\s.heap.DictOf (mixKind X.prog X.w) p vs:=I.hok p _ hx;have ad:kvs.length=vs.length:=S9 r;exact wpAny_truthy_dict hS m (by omega) ⟨H,I.tok _,by rw[isEmpty_kv r];exact q⟩
 |_=>exact(show False from e).elim
theorem pt_truth(ha:PE X a ta)(he:∀whole,md a X.env whole=(do let v<-whole;ir a.pos;dL [v] (truthy v))):
  PT X a (λσ H Q=>ta σ H λx H'=>∃k,TruV X.K x H' k/\Q k H'):=by
 intro aa s σ H Q I h;exact isTrue_plain (thn (ha aa s σ H _ I h) λv s1 ⟨x,H1,I1,r1,q1⟩=>tru_ok aa s1 σ H1 x v Q I1 r1 q1) (he _)
theorem vals1(r:Vals [x] us):∃u,us=[u]/\RelV x u:=by
 cases r with
 |cons r1 r2=>cases r2;exact⟨_,rfl,r1⟩
theorem vals2(r:Vals [x,y] us):∃u w',us=[u,w']/\RelV x u/\RelV y w':=by
 cases r with
 |cons r1 r2=>
  cases r2 with
  |cons r3 r4=>cases r4;exact⟨_,_,rfl,r1,r3⟩
theorem call_abs:CallR X (.builtin "abs") (λxs H Q=>∃i,xs=[.int i]/\Q (.int (if i<0 then -i else i)) H):=by
 intro aa s σ H xs us Q I r h;obtain⟨i,rfl,q⟩:=h;obtain⟨u,rfl,t,rfl⟩:=vals1 r;exact call_abs_int λu tk=>⟨.int (if i<0 then -i else i),H,I.tok _,⟨_,rfl⟩,q⟩
theorem call_max2(hc:X.calm=true):CallR X (.builtin "max") (λxs H Q=>∃i j,xs=[.int i,.int j]/\Q (.int (if j>i then j else i)) H):=by
 intro aa s σ H xs us Q I r h;obtain⟨i,j,rfl,q⟩:=h;obtain⟨u,w',rfl,⟨t,rfl⟩,⟨t',rfl⟩⟩:=vals2 r;refine max_two_ints (I.ok.hd hc) λh' tk k=>⟨_,H,I.kept k,?_,q⟩;by_cases hj:j>i
 ·rw[au hj,au hj];exact⟨_,rfl⟩
 ·rw[ao hj,ao hj];exact⟨_,rfl⟩
theorem call_min2(hc:X.calm=true):CallR X (.builtin "min") (λxs H Q=>∃i j,xs=[.int i,.int j]/\Q (.int (if j<i then j else i)) H):=by
 intro aa s σ H xs us Q I r h;obtain⟨i,j,rfl,q⟩:=h;obtain⟨u,w',rfl,⟨t,rfl⟩,⟨t',rfl⟩⟩:=vals2 r;refine min_two_ints (I.ok.hd hc) λh' tk k=>⟨_,H,I.kept k,?_,q⟩;by_cases hj:j<i
 ·rw[au hj,au hj];exact⟨_,rfl⟩
 ·rw[ao hj,ao hj];exact⟨_,rfl⟩
end
structure ObjM(h:bv)(x dx C:af)(mA:L5):Prop where
 obj:h.get? x=some (fb C dx)
 ns:h.Ns1 dx mA
 ne:dx≠x
theorem lookIn_ns{h:bv}(n:h.Ns1 dx mA):∃od,h.get? dx=some od/\∀name,mh name od=some (mA name):=by
 obtain⟨o,es,ep,ho,hd,hk,_,hm⟩:=n;refine⟨o,ho,λname=>?_⟩;have e:=hm name;unfold nsFind findBy at e;rw[<-Array.find?_toList]at e;unfold mh;rw[hd];dsimp only;split
 ·rename_i y q;rw[q]at e;exact gR some e
 ·rename_i q;rw[q]at e;have a:es.toList.any (·.refKey)=false:=by
   rw[ydy];intro y hy;obtain⟨z,t,hkey⟩:=hk y (Array.mem_toList_iff.mp hy);simp[DictEntry.refKey,hkey]
  have a':¬es.toList.any (·.refKey)=true:=by rw[a];exact nG
  rw[ao a'];exact gR some e
theorem ObjM.look(I:ObjM h x dx C mA):∃od,W.InstAt h x (fb C dx) C (some od)/\∀name,mh name od=some (mA name):=
 let⟨od,ho,hl⟩:=lookIn_ns I.ns
 ⟨od,⟨I.obj,rfl,rfl,ho⟩,hl⟩
section
variable{prog:χ}{w:ω}{A:bp}{E:L4}{s:τ}{K:ag}{x dx C f:af}{mA:L5}{name:bg}{v:ρ}
theorem get_map{Q:L4}(X:K.In s.heap)(I:ObjM s.heap x dx C mA)(hg:fA K C name=true)(hh:fN K C=true)(ha:ce K (.ref C) name=some none)(hv:mA name=some v)(hv':W.handedIn v=true)(h:Q v {s with toks:=s.toks+1}):
  ah (aw prog w) A (getAttr (.ref x) name expr) Q E s:=by
 obtain⟨od,J,hl⟩:=I.look;exact W.get_value X J (wdx hg).1 (W.findObj_own hh ha rfl (by rw[hl,hv])) hv' h
theorem get_meth{Q:ρ×List ρ->τ->Prop}(X:K.In s.heap)(I:ObjM s.heap x dx C mA)(hg:fA K C name=true)(hf:ce K (.ref C) name=some (some (.ref f)))(ht:kH K (.ref f)=true)(hv:mA name=none)(h:Q (.ref f,[.ref x]) s):
  ah (aw prog w) A (l8 (.ref x) name pl) Q E s:=by
 obtain⟨od,J,hl⟩:=I.look;exact W.method_fn X J (wdx hg).1 (wdx hg).2 hf (beq_iff_eq.mp ht) (by show(mh name od).map (·.isSome)=some false;rw[hl,hv];rfl) h
theorem set_map{Q:Unit->τ->Prop}(X:K.In s.heap)(I:ObjM s.heap x dx C mA)(hs:ce K (.ref C) "__setattr__"=some (some (.builtin "object.__setattr__")))(hp:i6 K C=true)(ht:W.takerIn K C name=some none)(hh:fN K C=true)(hw:ij mA ns)(hsz:ns.length<=sizeLine)(h:∀h',ObjM h' x dx C (λy=>if y=name then some v else mA y)->cz dx s.heap h'->Q () {s with heap:=h',toks:=s.toks+2}):
  ah (aw prog w) A (setAttr (.ref x) name v) Q E s:=by
 obtain⟨od,J,hl⟩:=I.look;refine W.set_plain X J hs (W.osa_open (s:={s with toks:=s.toks+1}) (r:=none) X J hp ht λb=>?_);obtain⟨cd,hc,hd'⟩:=W.any_some hh;have hx:s.heap.get? x=some ⟨.ref C,some dx,.plain,#[]⟩:=I.obj;refine aD (aW (aD (aD (wpAny_loadPart hx (aD (W.Looks.here (s:={s with toks:=s.toks+1}) (W.looks_clsIn X hc) ?_))))));rw[hd'];refine aW (a:=some dx) (aD (aW (aD ?_)));refine wpAny_nsSet1 (s:={s with toks:=s.toks+1}) I.ns λh' hn2 hs2=>?_;obtain⟨oD,esD,epD,hoD,hdD,hcD⟩:=hn2.count (PySem.Within.cons name v hw);refine aD (wpAny_lookBehind hoD (by rw[hdD];exact pastItsLine_dict (bR hcD (by rw[wB];omega))) ?_);exact aW (h _ ⟨(hs2.2 _ (mQ I.ne)).trans I.obj,hn2,I.ne⟩ hs2)
theorem make_map{R:Result->τ->Prop}{vs:List ρ}{kw:List (bg×ρ)}(X:K.In s.heap)(hm:km K C=true)(hi:ce K (.ref C) "__init__"=some (some (.ref f)))(hf:W.typeIn K (.ref f)=some (.type "function"))(h:eI (aw prog w) (A.under (.builtin "type.__call__" ⟨.ref C::vs,kw⟩)) (.call (.ref f) ⟨.ref (s.heap.objs.size+1)::vs,kw⟩) (W.InitBack (s.heap.objs.size+1) R)
   {s with heap:=(s.heap.push dP).push (fb C s.heap.objs.size)}):
  eI (aw prog w) A (.call (.ref C) ⟨vs,kw⟩) R s:=by
 obtain⟨hh,g,d,t,os⟩:=s;exact W.make_core (W.makes_of X hm) (W.looks_findIn X hi) (λself=>W.bind_fn X self hf) (.inl rfl) h
end
noncomputable def putF(f:bg)(v:V):List (bg×V)->List (bg×V)
 |[]=>[(f,v)]
 |(g,x)::r=>if g=f then(g,v)::r else(g,x)::putF f v r
theorem lookup_putF(f g)(v):∀fs:List (bg×V),(putF f v fs).lookup g=if g=f then some v else fs.lookup g
 |[]=>by
  show dy g [(f,v)]=_;by_cases h:g=f
  ·have hb:(g==f)=true:=beq_iff_eq.mpr h;simp only[dy,hb,au h]
  ·have hb:(g==f)=false:=beq_eq_false_iff_ne.mpr h;simp only[dy,hb,ao h]
 |(k,x)::r=>by
  have ih:=lookup_putF f g v r;rw[show putF f v ((k,x)::r)=(if k=f then(k,v)::r else(k,x)::putF f v r)from rfl];by_cases hk:k=f
  ·rw[au hk];by_cases h:g=k
   ·have hb:(g==k)=true:=beq_iff_eq.mpr h;simp only[dy,hb,au (h.trans hk)]
   ·have hb:(g==k)=false:=beq_eq_false_iff_ne.mpr h;simp only[dy,hb,ao (λe:g=f=>h (e.trans hk.symm))]
  ·rw[ao hk];by_cases h:g=k
   ·have hb:(g==k)=true:=beq_iff_eq.mpr h;simp only[dy,hb,ao (λe:g=f=>hk (h.symm.trans e))]
   ·have hb:(g==k)=false:=beq_eq_false_iff_ne.mpr h;simp only[dy,hb];exact ih
theorem keys_putF(f)(v):∀fs:List (bg×V),f∈(putF f v fs).map (·.1)/\∀g,g∈fs.map (·.1)->g∈(putF f v fs).map (·.1)
 |[]=>⟨by simp[putF],λg h=>by simp at h⟩
 |(k,x)::r=>by
  obtain⟨i1,i2⟩:=keys_putF f v r;rw[show putF f v ((k,x)::r)=(if k=f then(k,v)::r else(k,x)::putF f v r)from rfl];by_cases hk:k=f
  ·rw[au hk];subst hk;exact⟨by simp,λg h=>by simpa using h⟩
  ·rw[ao hk];refine⟨?_,λg h=>?_⟩
   ·rw[iQ];exact cY _ i1
   ·rw[iQ]at h⊢;rcases cX.mp h with e|e
    ·exact cX.mpr (.inl e)
    ·exact cY _ (i2 g e)
theorem length_putF(f)(v):∀fs:List (bg×V),(putF f v fs).length<=fs.length+1
 |[]=>by simp[putF]
 |(k,x)::r=>by
  have ih:=length_putF f v r;rw[show putF f v ((k,x)::r)=(if k=f then(k,v)::r else(k,x)::putF f v r)from rfl];by_cases hk:k=f
  ·rw[au hk,wB,wB];omega
  ·rw[ao hk,wB,wB];omega
theorem RelO.some_of(r:RelO (some v) o):∃u,o=some u/\RelV v u:=by
 cases o with
 |none=>exact(show False from r).elim
 |some u=>exact⟨u,rfl,r⟩
theorem RelO.none_of(r:RelO none o):o=none:=by
 cases o with
 |none=>rfl
 |some u=>exact(show False from r).elim
theorem handed_of(r:RelV v u):W.handedIn u=true:=by
 cases v with
 |non=>cases(show u=bd from r);rfl
 |bl b=>cases(show u=dA b from r);rfl
 |int i=>obtain⟨t,e⟩:=(show∃t,u=bu i t from r);cases e;rfl
 |str x=>obtain⟨t,e⟩:=(show∃t,u=ib x t from r);cases e;rfl
 |byt b=>obtain⟨t,e⟩:=(show∃t,u=Value.bytes b t from r);cases e;rfl
 |flt b=>obtain⟨t,e⟩:=(show∃t,u=Value.float b t from r);cases e;rfl
 |ref a=>cases(show u=aC a from r);rfl
 |ty n=>cases(show u=cM n from r);rfl
section
variable{P:χ}{w:ω}{H:Hp}{h:bv}{a C dx:af}{fs:List (bg×V)}
theorem ins_get(hok:HOk P w H h)(e:H a=some (.ins C dx fs)):∃mA,ObjM h a dx C mA/\(∀f,RelO (fs.lookup f) (mA f))/\ij mA (fs.map (·.1))/\fs.length<=1000/\H dx=some (.own a):=by
 obtain⟨d,z,ne,ob,mA,n,r,q⟩:=(show ObjOk P w H h a (.ins C dx fs)from hok a _ e);exact⟨mA,⟨ob,n,ne⟩,r,q,z,d⟩
end
structure Cls(K:ag)(C:af):Prop where
 pg:fA K C Str.empty=true
 hd:fN K C=true
 po:i6 K C=true
 sa:ce K (.ref C) "__setattr__"=some (some (.builtin "object.__setattr__"))
theorem Cls.get{K:ag}(c:Cls K C)(f):fA K C f=true:=c.pg
noncomputable def NoAttr(K:ag)(C:af)(f:bg):Prop:=ce K (.ref C) f=some none
theorem NoAttr.taker{K:ag}(n:NoAttr K C f):W.takerIn K C f=some none:=by
 unfold W.takerIn;rw[show ce K (.ref C) f=some none from n];rfl
structure Meth(K:ag)(C:af)(m:bg)(f:af):Prop where
 at_:ce K (.ref C) m=some (some (.ref f))
 fn:kH K (.ref f)=true
 kp:dr K (.ref f)=true
section
variable{X:Cx}{aa:L3}{σ:St}{H:Hp}{s:τ}{a C dx:af}{fs:List (bg×V)}{f:bg}{v:V}{A:bp}{E:L4}
theorem getattr_ok{Q:L4}(I:Inv X aa σ H s)(e:H a=some (.ins C dx fs))(c:Cls X.K C)(n:NoAttr X.K C f)(l:fs.lookup f=some v)(h:∀u s',Inv X aa σ H s'->RelV v u->Q u s'):ah (aw X.prog X.w) A (getAttr (.ref a) f b) Q E s:=by
 obtain⟨mA,O,r,_,_,_⟩:=ins_get I.hok e;obtain⟨u,hu,ru⟩:=RelO.some_of (v:=v) (o:=mA f) (by rw[<-l];exact r f);exact get_map I.kIn O (c.get f) c.hd n hu (handed_of ru) (h u _ (I.tok _) ru)
theorem getmeth_ok{Q:ρ×List ρ->τ->Prop}(I:Inv X aa σ H s)(e:H a=some (.ins C dx fs))(c:Cls X.K C)(k:Meth X.K C m g)(l:fs.lookup m=none)(h:Q (.ref g,[.ref a]) s):ah (aw X.prog X.w) A (l8 (.ref a) m pl) Q E s:=by
 obtain⟨mA,O,r,_,_,_⟩:=ins_get I.hok e;have hn:mA m=none:=RelO.none_of (by rw[<-l];exact r m);exact get_meth I.kIn O (c.get m) k.at_ k.fn hn h
theorem setattr_ok{Q:Unit->τ->Prop}(I:Inv X aa σ H s)(e:H a=some (.ins C dx fs))(c:Cls X.K C)(n:NoAttr X.K C f)(hl:fs.length<1000)(ry:RelV y u)(h:∀s',Inv X aa σ (upd H a (.ins C dx (putF f y fs))) s'->Q () s'):ah (aw X.prog X.w) A (setAttr (.ref a) f u) Q E s:=by
 obtain⟨mA,O,r,wi,_,ho⟩:=ins_get I.hok e;have hz:(fs.map (·.1)).length<=sizeLine:=by rw[aF,eZ];omega
 refine set_map I.kIn O c.sa c.po n.taker c.hd wi hz λh' O' sb=>h _ ?_;have hd:∃o,h'.get? dx=some o:=let⟨o,_,_,e',_⟩:=O'.ns;⟨o,e'⟩;refine I.write (x:=a) (e:=dx) (by rw[e];exact dS) (.inr ho) (λb q hb z=>(sb.2 b hb).trans z) hd ?_;refine⟨by rw[cW O.ne];exact ho,?_,O.ne,O'.obj,_,O'.ns,λg=>?_,λg hg=>?_⟩
 ·have:=length_putF f y fs;omega
 ·show RelO ((putF f y fs).lookup g) (if g=f then some u else mA g);rw[lookup_putF];by_cases q:g=f
  ·rw[au q,au q];exact ry
  ·rw[ao q,ao q];exact r g
 ·by_cases q:g=f
  ·rw[q];exact(keys_putF f y fs).1
  ·refine(keys_putF f y fs).2 g (wi g λz=>hg ?_);show(if g=f then some u else mA g)=none;rw[ao q];exact z
theorem Inv.made(I:Inv X aa σ H s):Inv X aa σ (upd (upd H s.heap.objs.size (.own (s.heap.objs.size+1))) (s.heap.objs.size+1) (.ins C s.heap.objs.size []))
  {s with heap:=(s.heap.push dP).push (fb C s.heap.objs.size)}:=by
 have e1:(s.heap.push dP).get? s.heap.objs.size=some W.emptyDict:=lZ s.heap rfl;have e2:((s.heap.push dP).push (fb C s.heap.objs.size)).get? (s.heap.objs.size+1)=some (fb C s.heap.objs.size):=by
  have:=lZ (s.heap.push dP) (o:=fb C s.heap.objs.size) rfl
  rwa [Tz]at this
 have e3:(s.heap.push dP).Ns s.heap.objs.size (λ_=>none):=⟨dP,#[],_,e1,rfl,(λe he=>absurd he (by simp)),λ_=>rfl⟩;have I1:=I.laid (a:=s.heap.objs.size) (o:=.own (s.heap.objs.size+1)) (h':=s.heap.push dP) (t':=s.toks) (λb u q=>fG _ q) (aQ _) ⟨_,e1⟩;refine I1.laid (a:=s.heap.objs.size+1) (o:=.ins C s.heap.objs.size []) (t':=s.toks) (λb u q=>fG _ q) (HJ (Tz _ _)) ?_;have ne:s.heap.objs.size≠s.heap.objs.size+1:=gP (wA _);refine⟨by rw[cW ne,aH],dX _,ne,e2,λ_=>none,(Heap.Ns1.of_empty e3).at λo q=>fG _ q,λ_=>dS,λy hy=>absurd rfl hy⟩
theorem attr_of{Q:L4}(hb:gE e f env (cx e env)=cx e env)(h:ah (aw prog w) A (cx e env) (λo s₁=>ah (aw prog w) A (getAttr o f true) Q E s₁) E s):ah (aw prog w) A (cx (.Attribute e f pos) env) Q E s:=
 Attribute_any_ h (by rw[arm_eval_Attribute,hb])
end
noncomputable def tFld(K:ag)(ta:TE)(f:bg):TE:=λσ H Q=>ta σ H λx H1=>∃a C dx fs v,x=.ref a/\H1 a=some (.ins C dx fs)/\Cls K C/\NoAttr K C f/\fs.lookup f=some v/\Q v H1
noncomputable def sFld(K:ag)(ta tv:TE)(f:bg):TS:=λD σ H=>tv σ H λy H1=>ta σ H1 λx H2=>∃a C dx fs,x=.ref a/\H2 a=some (.ins C dx fs)/\Cls K C/\NoAttr K C f/\fs.length<1000/\
 D.nx σ (upd H2 a (.ins C dx (putF f y fs)))
section
variable{X:Cx}{o e value:br}{f:bg}{pos pos':eR}{ta tv:TE}
theorem oM(he:PE X e ta)(hb:gE e f X.env (cx e X.env)=cx e X.env):PE X (.Attribute e f pos) (tFld X.K ta f):=by
 intro aa s σ H Q I h;refine attr_of hb (thn (he aa s σ H _ I h) λu s1 ⟨x,H1,I1,rx,a,C,dx,fs,v,ex,ea,c,n,l,q⟩=>?_);subst ex;obtain rfl:u=aC a:=rx;exact getattr_ok I1 ea c n l λu' s2 I2 ru=>⟨v,H1,I2,ru,q⟩
theorem ps_fld(ha:PE X o ta)(hv:PE X value tv)(hs:fe value (some (.Attribute o f pos')) pos.line X.env=pure false):PS X (.Assign [.Attribute o f pos'] value pos) (sFld X.K ta tv f):=by
 intro aa s σ H D I h;refine plainObj_wpAny_Assign_Attribute (thn (hv aa s σ H _ I h) λu s1 ⟨y,H1,I1,ry,q⟩=>thn (ha aa s1 σ H1 _ I1 q) λov s2 ⟨x,H2,I2,rx,a,C,dx,fs,ex,ea,c,n,l,q2⟩=>?_) hs;subst ex;obtain rfl:ov=aC a:=rx;exact setattr_ok I2 ea c n l ry λs3 I3=>⟨σ,_,I3,q2⟩
end
structure Room(k:Nat)(A:bp):Prop where
 hd:A.handled=none
 dp:A.depth+3*k+5<recursionLimit
 un:A.units+16*k+200<dm
 gd:A.guards=some []
theorem Room.mono(r:Room k A)(h:j<=k):Room j A:=⟨r.hd,by have:=r.dp;omega,by have:=r.un;omega,r.gd⟩
theorem Room.deeper(r:Room (k+1) A)(env):Room k (A.deeper env):=
 ⟨r.hd,by have:=r.dp;show A.depth+1+3*k+5<_;omega,by have:=r.un;show A.units+3+16*k+200<_;omega,r.gd⟩
theorem Room.in1(r:Room (k+1) A):Room k A.in1:=
 ⟨r.hd,by have:=r.dp;show A.depth+3*k+5<_;omega,by have:=r.un;show A.units+1+16*k+200<_;omega,r.gd⟩
theorem make_depth{A:bp}:(A.under (.builtin "type.__call__" ⟨.ref C::us,kw⟩)).depth=A.depth+1:=by
 first |rfl|simp[fm,Code.weight,Code.isCreation,iA,Code.isCaller,Code.frames,iE,guardIds]
theorem make_units{A:bp}:(A.under (.builtin "type.__call__" ⟨.ref C::us,kw⟩)).units=A.units+1:=by
 first |rfl|simp[fm,Code.cUnits,Code.frames,iE]
theorem Room.make(r:Room (k+1) A)(C)(us)(kw):Room k (A.under (.builtin "type.__call__" ⟨.ref C::us,kw⟩)):=
 ⟨r.hd,by have:=r.dp;rw[make_depth];omega,by have:=r.un;rw[make_units];omega,by
  have q:=r.gd
  first |exact q|(simp[fm,iA,guardIds];exact q)|(unfold fm;simp[iA,guardIds,q])⟩
theorem Room.depth(r:Room k A):A.depth<recursionLimit:=by have:=r.dp;omega
theorem Room.units(r:Room k A):A.units+64<cLine:=by have:=r.un;omega
theorem Room.units0(r:Room k A):A.units<cLine:=by have:=r.un;omega
noncomputable def tNil:TA:=λ_ H Q=>Q [] H
noncomputable def tCons(ta:TE)(tr:TA):TA:=λσ H Q=>ta σ H λx H1=>tr σ H1 λxs H2=>Q (x::xs) H2
section
variable{X:Cx}{e:br}{es:List br}{te:TE}{t:TA}{pos:eR}
theorem aA:PA X [] tNil:=λ_ _ _ _ H Q I h=>wcx ⟨[],H,I,.nil,h⟩
theorem aj(ha:PE X e te)(hr:PA X es t)(hs:az (e::es) X.env=(false,cx e X.env)::az es X.env:=by rfl):PA X (e::es) (tCons te t):=by
 intro pos aa s σ H Q I h;rw[hs];show ah _ _ (spliced ((false,cx e X.env)::dk pos (az es X.env))) _ _ s;refine wcm (thn (ha aa s σ H _ I h) λu s1 ⟨x,H1,I1,r1,q1⟩=>?_);exact thn (hr pos aa s1 σ H1 _ I1 q1) λus s2 ⟨xs,H2,I2,r2,q2⟩=>⟨x::xs,H2,I2,.cons r1 r2,q2⟩
noncomputable def tTup(t:TA):TE:=λσ H Q=>t σ H λxs H1=>xs.length<=sizeLine/\∀p,H1 p=none->Q (.ref p) (upd H1 p (.tup xs))
noncomputable def tLst(t:TA):TE:=λσ H Q=>t σ H λxs H1=>xs.length<=sizeLine/\∀p,H1 p=none->Q (.ref p) (upd H1 p (.lst xs))
theorem lY{x1}(h:PA X es t):PE X (.Tuple es x1 pos) (tTup t):=by
 intro aa s σ H Q I hq;refine wpAny_Tuple_spliced (thn (h pos aa s σ H _ I hq) λus s1 ⟨xs,H1,I1,r,z,q⟩=>⟨by rw[<-r.length];exact z,?_⟩);have hf:H1 s1.heap.objs.size=none:=I1.hok.fresh (aQ _);refine⟨.ref s1.heap.objs.size,upd H1 s1.heap.objs.size (.tup xs),I1.laid (t':=s1.toks) (λb u e=>fG _ e) (aQ _) ?_,rfl,q _ hf⟩;exact⟨z,us,r,⟨_,lZ _ rfl,rfl,_,rfl⟩⟩
theorem pe_lst(h:PA X es t):PE X (.List es pos) (tLst t):=by
 intro aa s σ H Q I hq;refine wpAny_List_spliced (thn (h pos aa s σ H _ I hq) λus s1 ⟨xs,H1,I1,r,z,q⟩=>⟨by rw[<-r.length];exact z,?_⟩);have hf:H1 s1.heap.objs.size=none:=I1.hok.fresh (aQ _);refine⟨.ref s1.heap.objs.size,upd H1 s1.heap.objs.size (.lst xs),I1.laid (t':=s1.toks) (λb u e=>fG _ e) (aQ _) ?_,rfl,q _ hf⟩;exact⟨z,us,0,r,lZ _ rfl⟩
end
noncomputable abbrev Sp:=List V->Hp->VK->XK->Prop
noncomputable abbrev CXT:=List kF->Hp->τ->XK->ρ->τ->Prop
structure Env0(P:χ)(w:ω)(K:ag)(mg:L5)(base:bv)(A:bp)(outer:List kF)(s:τ)(H:Hp):Prop where
 frames:A.frames=some outer
 mod:Mod K mg base
 bs:∀b o,base.get? b=some o->s.heap.get? b=some o/\H b=none
 bsz:base.objs.size<=s.heap.objs.size
 funs:s.heap.FunFrames base outer
 frf:∀b∈frs outer,H b=none
 hok:HOk P w H s.heap
 bare:fc s.gens
noncomputable def CE(outer:List kF)(P:χ)(w:ω)(H:Hp)(s:τ)(Q:VK)(u:ρ)(s':τ):Prop:=
 ∃v H',s'.os=s.os/\fc s'.gens/\Un (frs outer) [] H H' s.heap s'.heap/\HOk P w H' s'.heap/\RelV v u/\Q v H'
noncomputable def CR(CX:CXT)(outer:List kF)(P:χ)(w:ω)(H:Hp)(s:τ)(Q:VK)(E:XK)(r:Result)(s':τ):Prop:=
 match r with
 | .ok (.ret u)=>CE outer P w H s Q u s'
 | .ok _=>False
 | .error e=>CX outer H s E e s'
structure FnOk(P:χ)(w:ω)(K:ag)(mg:L5)(base:bv)(CX:CXT)(k:Nat)(f:af)(fd:ψ)(ps:List bg)(sp:Sp):Prop where
 len:∀vs H Q E,sp vs H Q E->vs.length=ps.length
 run:∀(A:bp) (outer:List kF) (s:τ) (H:Hp) (args:Args) (us:List ρ) (vs:List V) (Q:VK) (E:XK),Room k A->Env0 P w K mg base A outer s H->iF s fd args (ps.zip us)->Vals vs us->sp vs H Q E->
  eI (aw P w) A (.call (.ref f) args) (CR CX outer P w H s Q E) s
theorem FnOk.mono{K:ag}(F:FnOk P w K mg base CX j f fd ps sp)(h:j<=k):
  FnOk P w K mg base CX k f fd ps sp:=⟨F.len,λA outer s H args us vs Q E hr=>F.run A outer s H args us vs Q E (hr.mono h)⟩
theorem Env0.make{K:ag}(e:Env0 P w K mg base A outer s H)(C)(us)(kw):
  Env0 P w K mg base (A.under (.builtin "type.__call__" ⟨.ref C::us,kw⟩)) outer s H:=⟨by first |exact e.frames|(simpa[fm,Code.envs,iE,pushEnvs]using e.frames),e.mod,e.bs,e.bsz,e.funs,e.frf,e.hok,e.bare⟩
theorem Env0.in1{K:ag}(e:Env0 P w K mg base A outer s H):
  Env0 P w K mg base A.in1 outer s H:=⟨e.frames,e.mod,e.bs,e.bsz,e.funs,e.frf,e.hok,e.bare⟩
section
variable{X:Cx}{aa:L3}{σ:St}{H:Hp}{s s':τ}
theorem Inv.env0(I:Inv X aa σ H s):Env0 X.prog X.w X.K X.mg X.base X.A X.stack s H:=
 ⟨I.ok.frames,I.ok.mod,I.bs,bR I.ok.bsz I.sz,I.stack,I.stkFree,I.hok,I.bare⟩
theorem Inv.after(I:Inv X aa σ H s)(h:CE X.stack X.prog X.w H s Q u s'):EP X aa σ Q u s':=by
 obtain⟨v,H',os,bare,un,hok,r,q⟩:=h;obtain⟨hh,g,d,t,os'⟩:=s';obtain rfl:os'=s.os:=os;exact⟨v,H',I.call (h':=hh) (g':=g) (d':=d) (t':=t) (ch:=[]) un hok bare (λb z=>absurd z (by simp)),r,q⟩
end
noncomputable def tCall(sp:Sp)(dvs:List V)(E:XK)(t:TA):TE:=λσ H Q=>t σ H λvs H1=>sp (vs++dvs) H1 Q E
noncomputable def tMeth(C:af)(m:bg)(sp:Sp)(dvs:List V)(E:XK)(ta:TE)(t:TA):TE:=λσ H Q=>ta σ H λx H1=>∃a dx fs,x=.ref a/\H1 a=some (.ins C dx fs)/\fs.lookup m=none/\
 t σ H1 λvs H2=>sp (x::(vs++dvs)) H2 Q E
noncomputable def tMake(C:af)(sp:Sp)(dvs:List V)(E:XK)(t:TA):TE:=λσ H Q=>t σ H λvs H1=>∀x dx,H1 x=none->H1 dx=none->dx≠x->
 sp (.ref x::(vs++dvs)) (upd (upd H1 dx (.own x)) x (.ins C dx [])) (λv H2=>v=.non/\Q (.ref x) H2) E
noncomputable def Binds(K:ag)(fd:ψ)(ps:List bg)(ds:List ρ):Prop:=
 ∀(s:τ) (us:List ρ),K.In s.heap->(us++ds).length=ps.length->iF s fd ⟨us,[]⟩ (ps.zip (us++ds))
theorem Binds.all{K:ag}(h:∀us:List ρ,us.length=ps.length->gf fd ⟨us,[]⟩=pure (ps.zip us)):Binds K fd ps []:=λs us _ hl=>by
 rw[tL]at hl⊢;exact .of_eq (h us hl)
noncomputable def Passes(CX:CXT)(X:Cx)(E:XK):Prop:=∀(aa:L3) (σ:St) (H:Hp) (s:τ) (e:ρ) (s':τ),Inv X aa σ H s->CX X.stack H s E e s'->X.xe e s'
section
variable{X:Cx}{CX:CXT}{k:Nat}{f C:af}{fd:ψ}{ps:List bg}{sp:Sp}{dvs:List V}{ds:List ρ}{E:XK}{x m:bg}{p pos apos:eR}{e o:br}{es:List br}{ta:TE}{t:TA}
theorem run_fn{aa:L3}{σ:St}{H:Hp}{s:τ}{Q:VK}{us:List ρ}{vs:List V}(F:FnOk X.prog X.w X.K X.mg X.base CX k f fd ps sp)(hr:Room k X.A)(hb:Binds X.K fd ps ds)(hd:Vals dvs ds)(hx:Passes CX X E)
  (I:Inv X aa σ H s)(r:Vals vs us)(h:sp (vs++dvs) H Q E):ah (aw X.prog X.w) X.A (call (.ref f) us) (EP X aa σ Q) X.xe s:=by
 have r2:Vals (vs++dvs) (us++ds):=r.append hd;have hl:(us++ds).length=ps.length:=by rw[<-r2.length];exact F.len _ _ _ _ h
 refine iS (wdg (F.run X.A X.stack s H ⟨us,[]⟩ (us++ds) (vs++dvs) Q E hr I.env0 (hb s us I.kIn hl) r2 h) λr s' hq=>?_);cases r with
 |error e=>exact hx aa σ H s e s' I hq
 |ok fl=>
  cases fl with
  |ret u=>exact I.after hq
  |next=>exact bX hq
  |brk=>exact bX hq
  |cont=>exact bX hq
theorem pe_call(F:FnOk X.prog X.w X.K X.mg X.base CX k f fd ps sp)(hr:Room k X.A)(hg:Gl X x)(hm:X.mg x=some (.ref f))(hk:dr X.K (.ref f)=true)(hb:Binds X.K fd ps ds)(hd:Vals dvs ds)(hx:Passes CX X E)(ha:PA X (e::es) t)(hdb:(x==("__debug__":bg))=false:=by decide)(he:az (e::es) X.env=(false,cx e X.env)::az es X.env:=by rfl)(hpl:(dk pos (az es X.env)).any (·.1)=false:=by rfl):
  PE X (.Call (.Name x p) (e::es) [] pos) (tCall sp dvs E t):=by
 intro aa s σ H Q I h;refine T5 (ld_glob I hg hm ?_ hdb);refine wei (h₀:=X.base) I.ok.mod.kin hk (thn (ha pos aa s σ H _ I h) λus s1 ⟨vs,H1,I1,r,q⟩=>⟨I1.kIn,?_⟩) he hpl;exact run_fn F hr hb hd hx I1 r q
theorem Hy{pl:Sem Bool}(he:PE X o ta)(c:Cls X.K C)(hm:Meth X.K C m f)(F:FnOk X.prog X.w X.K X.mg X.base CX k f fd ps sp)(hr:Room k X.A)(hb:Binds X.K fd ps ds)(hd:Vals dvs ds)(hx:Passes CX X E)(ha:PA X (e::es) t)(hst:az (e::es) X.env=(false,cx e X.env)::az es X.env:=by rfl)(hpl:(dk pos (az es X.env)).any (·.1)=false:=by rfl)(ht:cx (.Call (.Attribute o m apos) (e::es) [] pos) X.env=(do
   let ov<-cx o X.env
   ir apos.atName
   let(f,first)<-dL [ov] (l8 ov m pl)
   callWith pos f first (dk pos (az (e::es) X.env)) (backToKw pos (keywordEach [] X.env))):=by rfl):
  PE X (.Call (.Attribute o m apos) (e::es) [] pos) (tMeth C m sp dvs E ta t):=by
 intro aa s σ H Q I h;refine wfq (pl:=pl) (thn (he aa s σ H _ I h) λu s1 ⟨x,H1,I1,rx,a,dx,fs,ex,ea,l,q⟩=>?_) ht;subst ex;obtain rfl:u=aC a:=rx;refine getmeth_ok I1 ea c hm l ?_;refine wei (first:=[.ref a]) (h₀:=X.base) I.ok.mod.kin hm.kp (thn (ha pos aa s1 σ H1 _ I1 q) λus s2 ⟨vs,H2,I2,r,q2⟩=>⟨I2.kIn,?_⟩) hst hpl;exact run_fn (us:=.ref a::us) (vs:=.ref a::vs) F hr hb hd hx I2 (.cons rfl r) q2
theorem pe_meth0{pl:Sem Bool}(he:PE X o ta)(c:Cls X.K C)(hm:Meth X.K C m f)(F:FnOk X.prog X.w X.K X.mg X.base CX k f fd ps sp)(hr:Room k X.A)(hb:Binds X.K fd ps ds)(hd:Vals dvs ds)(hx:Passes CX X E)(ht:cx (.Call (.Attribute o m apos) [] [] pos) X.env=(do
   let ov<-cx o X.env
   ir apos.atName
   let(f,first)<-dL [ov] (l8 ov m pl)
   callWith pos f first (dk pos (az [] X.env)) (backToKw pos (keywordEach [] X.env))):=by rfl):
  PE X (.Call (.Attribute o m apos) [] [] pos) (tMeth C m sp dvs E ta tNil):=by
 intro aa s σ H Q I h;refine wfq (pl:=pl) (thn (he aa s σ H _ I h) λu s1 ⟨x,H1,I1,rx,a,dx,fs,ex,ea,l,q⟩=>?_) ht;subst ex;obtain rfl:u=aC a:=rx;refine getmeth_ok I1 ea c hm l ?_;exact W.callWith_K0 (first:=[.ref a]) I1.kIn hm.kp (run_fn (us:=[.ref a]) (vs:=[.ref a]) F hr hb hd hx I1 (.cons rfl .nil) q)
structure Mk(K:ag)(C f:af):Prop where
 makes:km K C=true
 init:ce K (.ref C) "__init__"=some (some (.ref f))
 fn:kH K (.ref f)=true
 kp:dr K (.ref C)=true
theorem run_make{σ:St}(M:Mk X.K C f)(F:FnOk X.prog X.w X.K X.mg X.base CX k f fd ps sp)(hr:Room (k+1) X.A)(hb:Binds X.K fd ps ds)(hd:Vals dvs ds)(hx:Passes CX X E)(I:Inv X aa σ H s)(r:Vals vs us)(h:∀x dx,H x=none->H dx=none->dx≠x->sp (.ref x::(vs++dvs)) (upd (upd H dx (.own x)) x (.ins C dx [])) (λv H2=>v=.non/\Q (.ref x) H2) E):
  ah (aw X.prog X.w) X.A (call (.ref C) us) (EP X aa σ Q) X.xe s:=by
 have hq:=h (s.heap.objs.size+1) s.heap.objs.size (I.hok.fresh (HD _)) (I.hok.fresh (aQ _)) (gP (wA _));have I2:=Inv.made (C:=C) I;have r2:Vals (V.ref (s.heap.objs.size+1)::(vs++dvs)) (aC (s.heap.objs.size+1)::(us++ds)):=.cons rfl (r.append hd);have hl:(aC (s.heap.objs.size+1)::us++ds).length=ps.length:=by
  have e:=r2.length;rw[F.len _ _ _ _ hq]at e;exact e.symm
 refine iS (make_map (f:=f) I.kIn M.makes M.init (beq_iff_eq.mp M.fn) (wdg (F.run _ X.stack _ _ ⟨aC (s.heap.objs.size+1)::us,[]⟩ (aC (s.heap.objs.size+1)::(us++ds)) _ _ E (hr.make C us [])
  (I2.env0.make C us []) (hb _ (aC (s.heap.objs.size+1)::us) I2.kIn hl) r2 hq) λr s' hq'=>?_))
 cases r with
 |error e=>exact hx aa σ _ _ e s' I2 hq'
 |ok fl=>
  cases fl with
  |ret u=>
   obtain⟨v,H',I3,rv,ev,q3⟩:=I2.after hq';subst ev;exact⟨rv,⟨V.ref (s.heap.objs.size+1),H',I3,rfl,q3⟩⟩
  |next=>exact bX hq'
  |brk=>exact bX hq'
  |cont=>exact bX hq'
theorem pe_make(M:Mk X.K C f)(F:FnOk X.prog X.w X.K X.mg X.base CX k f fd ps sp)(hr:Room (k+1) X.A)(hg:Gl X x)(hm:X.mg x=some (.ref C))(hb:Binds X.K fd ps ds)(hd:Vals dvs ds)(hx:Passes CX X E)(ha:PA X (e::es) t)(hdb:(x==("__debug__":bg))=false:=by decide)(he:az (e::es) X.env=(false,cx e X.env)::az es X.env:=by rfl)(hpl:(dk pos (az es X.env)).any (·.1)=false:=by rfl):
  PE X (.Call (.Name x p) (e::es) [] pos) (tMake C sp dvs E t):=by
 intro aa s σ H Q I h;refine T5 (ld_glob I hg hm ?_ hdb);refine wei (h₀:=X.base) I.ok.mod.kin M.kp (thn (ha pos aa s σ H _ I h) λus s1 ⟨vs,H1,I1,r,q⟩=>⟨I1.kIn,?_⟩) he hpl;exact run_make M F hr hb hd hx I1 r q
end
structure FnScope(N P:List bg)(sc:dC):Prop where
 kind:sc.kind=.function
 co:sc.isCoroutine=false
 gen:sc.isGenerator=false
 nd:N.Nodup
 pre:N.take P.length=P
 par:∀x∈P,sc.names.lookup x=some .local\/sc.names.lookup x=some .cell
 nofree:∀y∈sc.names,y.2≠.free
theorem bindL_out{kindOf:bg->Option cB}:∀{binds:List (bg×ρ)}{m:L5},(∀v,(x,v)∉binds)->lh kindOf binds m x=m x
 |[],_,_=>rfl
 |(n,v)::r,m,h=>by
  unfold lh;rw[bindL_out λw hw=>h w (cY _ hw)];split
  ·have:x≠n:=by rintro rfl;exact h v cC
   simp[this]
  ·rfl
theorem bindC_out{kindOf:bg->Option cB}:∀{binds:List (bg×ρ)}{m:L5},(∀v,(x,v)∉binds)->li kindOf binds m x=m x
 |[],_,_=>rfl
 |(n,v)::r,m,h=>by
  unfold li;rw[bindC_out λw hw=>h w (cY _ hw)];split
  ·rfl
  ·have:x≠n:=by rintro rfl;exact h v cC
   simp[this]
theorem bindL_get{kindOf:bg->Option cB}:∀{P:List bg}{vs:List ρ}{i:Nat}{m:L5},P.Nodup->P[i]? =some x->vs[i]? =some v->kindOf x=some .local->
  lh kindOf (P.zip vs) m x=some v
 |[],_,_,_,_,h,_,_=>by simp at h
 |_::_,[],_,_,_,_,h,_=>by simp at h
 |p::P,w::vs,0,m,nd,h1,h2,hk=>by
  simp at h1 h2;subst h1;subst h2;show lh kindOf ((p,w)::P.zip vs) m p=_;unfold lh;rw[bindL_out λv hv=>(JZ.mp nd).1 (wfr hv).1,au hk];simp
 |p::P,w::vs,i+1,m,nd,h1,h2,hk=>by
  show lh kindOf ((p,w)::P.zip vs) m x=_;unfold lh;exact bindL_get (i:=i) (JZ.mp nd).2 (by simpa using h1) (by simpa using h2) hk
theorem bindC_get{kindOf:bg->Option cB}:∀{P:List bg}{vs:List ρ}{i:Nat}{m:L5},P.Nodup->P[i]? =some x->vs[i]? =some v->kindOf x≠some .local->
  li kindOf (P.zip vs) m x=some v
 |[],_,_,_,_,h,_,_=>by simp at h
 |_::_,[],_,_,_,_,h,_=>by simp at h
 |p::P,w::vs,0,m,nd,h1,h2,hk=>by
  simp at h1 h2;subst h1;subst h2;show li kindOf ((p,w)::P.zip vs) m p=_;unfold li;rw[bindC_out λv hv=>(JZ.mp nd).1 (wfr hv).1,ao hk];simp
 |p::P,w::vs,i+1,m,nd,h1,h2,hk=>by
  show li kindOf ((p,w)::P.zip vs) m x=_;unfold li;exact bindC_get (i:=i) (JZ.mp nd).2 (by simpa using h1) (by simpa using h2) hk
noncomputable def start(N:List bg)(vs:List V):St:=vs.map some++al (N.length-vs.length) none
noncomputable def cxOf(CX:CXT)(P:χ)(w:ω)(K:ag)(mg:L5)(base:bv)(N:List bg)(qual:bg)(scope:dC)(f:af)(cd:ρ)(A:bp)(outer:List kF)(s:τ)(H:Hp)(E:XK):Cx where
 prog:=P
 w:=w
 K:=K
 mg:=mg
 base:=base
 A:=A.deeper (envOfC qual scope s.heap.objs.size f cd)
 N:=N
 s₀:=s
 H₀:=H
 env:=envOfC qual scope s.heap.objs.size f cd
 outer:=outer
 stack:=envOfC qual scope s.heap.objs.size f cd::outer
 ex:=[]
 calm:=true
 fn:=λ_=>true
 pn:=[]
 xe:=λe s'=>ah (aw P w) (A.deeper (envOfC qual scope s.heap.objs.size f cd)) (leaving (envOfC qual scope s.heap.objs.size f cd) e) (λ_ s''=>CX outer H s E e s'') (λe' s''=>CX outer H s E e' s'') s'
theorem cell_has{sc:dC}(h:sc.names.lookup x=some .cell):∃c,(cf n sc.names []).lookup x=some c:=by
 have q:=wfo sc.names n [] (.inl h);exact Option.isSome_iff_exists.mp q
theorem inv_start{CX:CXT}{P:χ}{w:ω}{K:ag}{mg:L5}{base:bv}{N ps:List bg}{qual:bg}{scope:dC}{f:af}{cd:ρ}{A:bp}{outer:List kF}{s s1:τ}{H:Hp}{E:XK}{us:List ρ}{vs:List V}
  (S:FnScope N ps scope)(hd:A.handled=none)(e0:Env0 P w K mg base A outer s H)(hl:vs.length=ps.length)(r:Vals vs us)(x:InCallC s s.heap.objs.size (lh (envOfC qual scope s.heap.objs.size f cd).kindOf (ps.zip us) λ_=>none) (cf (s.heap.objs.size+1) scope.names []) (li (envOfC qual scope s.heap.objs.size f cd).kindOf (ps.zip us) λ_=>none) s1):
  Inv (cxOf CX P w K mg base N qual scope f cd A outer s H E) [] (start N vs) H s1:=by
 have hpl:ps.length<=N.length:=by have:=gR cw S.pre;rw[rQ]at this;omega
 obtain⟨h1,tk,rfl,hk⟩:=x.done;have noA:∀b:af,b∉(cxOf CX P w K mg base N qual scope f cd A outer s H E).ex:=λb z=>absurd (show b∈([]:η)from z) (by simp);refine⟨⟨e0.mod,S.kind,rfl,rfl,aQ _,λy z c h1 h2=>?_,λy hy=>?_,λy c _ h=>?_,λ_=>hd,iL e0.frames,.inr ⟨rfl,rfl⟩,λb z=>absurd z (noA b),e0.bs,e0.bsz,λb _ _=>noA b,λb z=>absurd z (noA b),e0.funs,e0.frf⟩,
  rfl,e0.bare,Un.kept hk,⟨_,x.toInCall.ns,λi y v h1 h2 h3=>?_⟩,λy c h=>⟨_,x.cell y c h⟩,e0.hok.fresh (aQ _),λy c h=>?_,λp hp=>absurd (show p∈([]:L3)from hp) (by simp),e0.hok.kept hk,?_⟩
 ·exact name_of_addr x.apart (En h1) (En h2)
 ·have hy:scope.names.lookup y=some .cell\/scope.names.lookup y=some .free:=hy;rcases hy with hy|hy
  ·exact cell_has hy
  ·exact absurd rfl (S.nofree _ (En hy))
 ·exact dN (x.above y c (En h))
 ·have hi:i<vs.length:=by
   unfold start at h2;by_cases hi:i<vs.length
   ·exact hi
   ·rw[yda (by simpa using hi)]at h2;rw[wfc]at h2;split at h2<;>cases h2
  have ha:vs[i]? =some v:=by
   unfold start at h2;rw[ydw (by simpa using hi),cV]at h2;cases e:vs[i]? with
   |none=>rw[e]at h2;cases h2
   |some a=>rw[e]at h2;cases h2;rfl
  obtain⟨u,hu,rv⟩:=r.get ha;have hp:ps[i]? =some y:=by
   rw[<-S.pre,List.getElem?_take_of_lt (by omega)];exact h1
  have ndP:ps.Nodup:=by rw[<-S.pre];exact S.nd.sublist (List.take_sublist _ _)
  refine⟨u,rv,?_⟩;rcases S.par y (nu hp)with k|k
  ·exact .inl ⟨k,bindL_get ndP hp hu k⟩
  ·obtain⟨c,e⟩:=cell_has (n:=s.heap.objs.size+1) k;refine .inr ⟨.inl k,c,e,?_⟩;have q:=x.cell y c e;rw[bindC_get ndP hp hu (by show scope.names.lookup y≠_;rw[k];decide)]at q;exact q
 ·exact e0.hok.fresh (dN (x.above y c (En h)))
 ·unfold start;show _=N.length;rw[oO,aF,ydh];omega
theorem fn_of{CX:CXT}{P:χ}{w:ω}{K:ag}{mg:L5}{base:bv}{k:Nat}{f:af}{name qual:bg}{params:Arguments}{body:List eW}{scope:dC}{dV kV doc pm cdv ct oc:ρ}{an od:Option af}{osl:Array (Option ρ)}{N ps:List bg}{sp:Sp}(lk:K.lookup f=some ⟨oc,od,.func (eM name qual params body scope dV kV doc pm an cdv ct),osl⟩)(hcd:fP K cdv qual=true)(S:FnScope N ps scope)(len:∀vs H Q E,sp vs H Q E->vs.length=ps.length)(hbody:∀(A:bp) (outer:List kF) (s:τ) (H:Hp) (vs:List V) (Q:VK) (E:XK),Room k (A.deeper (envOfC qual scope s.heap.objs.size f cdv))->sp vs H Q E->
   ∃t,PSs (cxOf CX P w K mg base N qual scope f cdv A outer s H E) body t/\t {nx:=λ_ H'=>Q .non H',rt:=Q} (start N vs) H):
  FnOk P w K mg base CX (k+1) f (eM name qual params body scope dV kV doc pm an cdv ct) ps sp:=by
 refine⟨len,λA outer s H args us vs Q E hr e0 hb r hsp=>?_⟩;have hl:=len _ _ _ _ hsp;have KX:K.In s.heap:=e0.mod.kin.keeps λb o e=>(e0.bs b o e).1;have lim:s.heap.NoLimit:=e0.mod.nolimit.keeps λb o e=>(e0.bs b o e).1;have hkind:∀y∈ps.zip us,scope.names.lookup y.1=some .local\/(scope.names.lookup y.1=some .cell/\((cf (s.heap.objs.size+1) scope.names []).lookup y.1).isSome=true):=λ⟨n,v⟩ hy=>by
  rcases S.par n (wfr hy).1 with q|q
  ·exact .inl q
  ·exact .inr ⟨q,wfo _ _ _ (.inl q)⟩
 refine codeAny_call_function hr.depth (KX _ _ lk) rfl S.co S.gen rfl (W.codeRec_of KX hcd) (hb _ _ _ _ ?_);refine wpAny_newFunctionEnv_cells S.kind hkind λenv he s1 x=>?_;subst he;refine⟨lim.keeps x.toInCall.keep,codeAny_func ?_⟩;obtain⟨t,ht,hq⟩:=hbody A outer s H vs Q E (hr.deeper _) hsp;have I:Inv (cxOf CX P w K mg base N qual scope f cdv A outer s H E) [] (start N vs) H s1:=inv_start S hr.hd e0 hl r x;refine Bc (ht [] s1 (start N vs) H _ I hq) (λfl s' hs=>?_) λe s' hs=>hs;have fin:∀{σ':St}{H':Hp}{v:V}{u:ρ},Inv (cxOf CX P w K mg base N qual scope f cdv A outer s H E) [] σ' H' s'->RelV v u->Q v H'->CE outer P w H s Q u s':=
  λ{σ' H' v u} J rv q=>⟨v,H',J.os,J.bare,J.base,J.hok,rv,q⟩
 cases fl with
 |ret u=>
  obtain⟨v,σ',H',J,rv,q⟩:=hs;exact fin J rv q
 |next=>
  obtain⟨σ',H',J,q⟩:=hs;exact fin (v:=V.non) (u:=bd) J rfl q
 |brk=>
  obtain⟨_,_,_,q⟩:=hs;exact bX q
 |cont=>
  obtain⟨_,_,_,q⟩:=hs;exact bX q
section
variable{X:Cx}{x:bg}{p pos:eR}{e:br}{es:List br}{t:TA}{id T:String}{r:List V->Hp->VK->Prop}
noncomputable def tCB(r:List V->Hp->VK->Prop)(t:TA):TE:=λσ H Q=>t σ H λvs H1=>r vs H1 Q
theorem pe_callB(hc:CallR X (.builtin id) r)(hg:Gl X x)(hm:X.mg x=none)(hv:bP x=some (.builtin id))(ha:PA X (e::es) t)(hn:x≠"__name__":=by decide)(hdb:(x==("__debug__":bg))=false:=by decide)(he:az (e::es) X.env=(false,cx e X.env)::az es X.env:=by rfl)(hpl:(dk pos (az es X.env)).any (·.1)=false:=by rfl):PE X (.Call (.Name x p) (e::es) [] pos) (tCB r t):=by
 intro aa s σ H Q I h;refine T5 (ld_blt I hg hm hv ?_ hn hdb);exact PyProof.Rows.callWith_builtin1 (thn (ha pos aa s σ H _ I h) λus s1 ⟨vs,H1,I1,r1,q1⟩=>hc aa s1 σ H1 vs us Q I1 r1 q1) he hpl
theorem pB{X:Cx}{x:bg}{id:String}{r:List V->Hp->VK->Prop}{e:br}{es:List br}{t:TA}{p pos:eR}(hc:CallR X (.builtin id) r)(hm:X.mg x=none)(ha:PA X (e::es) t)(hg:Gl X x:=by rfl)(hv:bP x=some (.builtin id):=by decide+kernel)(hn:x≠"__name__":=by decide)(hdb:(x==("__debug__":bg))=false:=by decide)(he:az (e::es) X.env=(false,cx e X.env)::az es X.env:=by rfl)(hpl:(dk pos (az es X.env)).any (·.1)=false:=by rfl):PE X (.Call (.Name x p) (e::es) [] pos) (tCB r t):=pe_callB hc hg hm hv ha hn hdb he hpl
theorem pe_callTy(hc:CallR X (.type T) r)(hg:Gl X x)(hm:X.mg x=none)(hv:bP x=some (.type T))(ha:PA X (e::es) t)(hn:x≠"__name__":=by decide)(hdb:(x==("__debug__":bg))=false:=by decide)(he:az (e::es) X.env=(false,cx e X.env)::az es X.env:=by rfl)(hpl:(dk pos (az es X.env)).any (·.1)=false:=by rfl):PE X (.Call (.Name x p) (e::es) [] pos) (tCB r t):=by
 intro aa s σ H Q I h;refine T5 (ld_blt I hg hm hv ?_ hn hdb);exact Tf (thn (ha pos aa s σ H _ I h) λus s1 ⟨vs,H1,I1,r1,q1⟩=>hc aa s1 σ H1 vs us Q I1 r1 q1) he hpl
theorem pT{X:Cx}{x:bg}{T:String}{r:List V->Hp->VK->Prop}{e:br}{es:List br}{t:TA}{p pos:eR}(hc:CallR X (.type T) r)(hm:X.mg x=none)(ha:PA X (e::es) t)(hg:Gl X x:=by rfl)(hv:bP x=some (.type T):=by decide+kernel)(hn:x≠"__name__":=by decide)(hdb:(x==("__debug__":bg))=false:=by decide)(he:az (e::es) X.env=(false,cx e X.env)::az es X.env:=by rfl)(hpl:(dk pos (az es X.env)).any (·.1)=false:=by rfl):PE X (.Call (.Name x p) (e::es) [] pos) (tCB r t):=pe_callTy hc hg hm hv ha hn hdb he hpl
end
end L2
namespace HT
open PySem PyProof.Rows
noncomputable def lexLt:ζ->ζ->Bool
 |[],[]=>false
 |[],_::_=>true
 |_::_,[]=>false
 |x::xs,y::ys=>if x=y then lexLt xs ys else decide (x<y)
theorem lexLt_cons(x y)(xs ys):lexLt (x::xs) (y::ys)=if x=y then lexLt xs ys else decide (x<y):=rfl
theorem lexLt_nil_nil:lexLt [] []=false:=rfl
theorem lexLt_nil_cons(y)(ys):lexLt [] (y::ys)=true:=rfl
theorem lexLt_cons_nil(x)(xs):lexLt (x::xs) []=false:=rfl
theorem eqAt_int(A)(s)(a)(t)(c)(u):∃e,SeqAt.EqAt A s (.int a t) (.int c u) e/\(e=true↔a=c):=
 ⟨(a==c),SeqAt.EqAt.int_int a t c u,by simp⟩
theorem rcLt_int(A)(s)(a)(t)(c)(u)(prog)(w)(E:L4)(Q:L4)(h:Q (.bool (decide (a<c))) s):
  ah (aw prog w) A (richCompare .Lt (.int a t) (.int c u)) Q E s:=
 (PyProof.Rows.lt_int h:ah (aw prog w) A (bt .Lt (.int a t) (.int c u)) Q E s)
section
open PySem.SeqAt
open PySem.AutoSeq1 (wpAny_loadPart')
open PySem.MeetsSeq PySem.MeetsSeq2 PySem.MeetsSeq3
theorem tuple_lt_ints(l b)(ae items2)(n n2)(dd dd2)(sl sl2)(ns ms)(hi:dc ae.toList ns)(hj:dc items2.toList ms):
  ll (Builtin.«tuple.__lt__» ⟨[.ref l,.ref b],[]⟩)
   (λ_ R s=>s.heap.get? l=some {cls:=.type "tuple",dict:=dd,data:=.seq ae n,slots:=sl}/\s.heap.get? b=some {cls:=.type "tuple",dict:=dd2,data:=.seq items2 n2,slots:=sl2}/\
    R (.ok (.ret (.bool (lexLt ns ms)))) s):=
 .of_wp λprog w A R s h=>by
  obtain⟨hp,g,d,tk,os⟩:=s;obtain⟨hl,hb,h⟩:=h;have f2:=AutoSeq1.sub_tuple_tuple;have z1:ae.size=ns.length:=by rw[<-hi.length];simp
  have z2:items2.size=ms.length:=by rw[<-hj.length];simp
  wp_walk using bo hl,bo hb,wfi _ (λrest b s'=>b.1=none/\s'=⟨hp,g,d,tk,os⟩/\∃(vs ws:List ρ) (ns' ms':ζ),rest=vs.zip ws/\
   dc vs ns'/\dc ws ms'/\ns'.length+items2.size=ms'.length+ae.size/\R (.ok (.ret (.bool (lexLt ns' ms')))) ⟨hp,g,d,tk,os⟩) _
  case turn=>
   rintro⟨y,x⟩ rest b s' ⟨hb',rfl,vs,ws,ns',ms',hz,hvi,hwi,ad,hR⟩;cases hvi with
   |nil=>rw[ml]at hz;cases hz
   |cons a t hvi'=>
    cases hwi with
    |nil=>rw[lm]at hz;cases hz
    |cons c u hwi'=>
     rw[wej]at hz;injection hz with hyx hrest
     injection hyx with hy hx
     subst hy hx;rw[lexLt_cons]at hR;simp only[wB]at ad;obtain⟨e,he,hiff⟩:=eqAt_int A.in1 ⟨hp,g,d,tk,os⟩ a t c u;refine aD (he prog w _ _ ?_);cases e with
     |true=>
      rw[au (hiff.mp rfl)]at hR
      wp_walk
      exact⟨rfl,rfl,_,_,_,_,hrest,hvi',hwi',by omega,hR⟩
     |false=>
      rw[ao (λq=>absurd (hiff.mpr q) nG)]at hR;have hri:=rcLt_int A.in1 ⟨hp,g,d,tk,os⟩ a t c u prog w
      wp_walk using hri
      exact⟨_,rfl,by simpa using hR⟩
  case fin=>
   rintro⟨b1,b2⟩ s' ⟨hb',rfl,vs,ws,ns',ms',hz,hvi,hwi,ad,hR⟩;simp only at hb';subst hb';have hv:lexLt ns' ms'=decide (ae.size<items2.size):=by
    cases hvi with
    |nil=>
     cases hwi with
     |nil=>
      simp only[Xv]at ad;rw[lexLt_nil_nil];exact(gj (by omega)).symm
     |cons c u hw=>
      simp only[Xv,wB]at ad;rw[lexLt_nil_cons];exact(bY (by omega)).symm
    |cons a t hv=>
     cases hwi with
     |nil=>
      simp only[Xv,wB]at ad;rw[lexLt_cons_nil];exact(gj (by omega)).symm
     |cons c u hw=>
      rw[wej]at hz;cases hz
   rw[hv]at hR
   wp_walk
   exact⟨_,rfl,by simpa[Builtin.Tuple.tupleCompareSizes]using hR⟩
  case h=>
   exact⟨rfl,rfl,ae.toList,items2.toList,ns,ms,rfl,hi,hj,by omega,h⟩
end
section
variable{prog:χ}{w:ω}{A:bp}{E:L4}{s:τ}
theorem lt_tupInts{Q:L4}(hl:gY s.heap l ae)(hb:gY s.heap b items2)(hi:dc ae.toList ns)(hj:dc items2.toList ms)(hu:A.units<dm)(h:Q (.bool (lexLt ns ms)) s):ah (aw prog w) A (bt .Lt (.ref l) (.ref b)) Q E s:=by
 obtain⟨⟨cls,dd,data,sl⟩,ho,hc,n,hd⟩:=id hl;obtain⟨⟨cls2,dd2,data2,sl2⟩,ho2,hc2,n2,hd2⟩:=id hb;simp only at hc hd hc2 hd2;subst hc hd hc2 hd2;exact richCompare_meets_room (op:=.Lt) ⟨_,ho,rfl⟩ ⟨_,ho2,rfl⟩ wdh wfp (wfd _ _) (tuple_lt_ints l b ae items2 n n2 dd dd2 sl sl2 ns ms hi hj)
  ⟨ho,ho2,show dA (lexLt ns ms)≠iX/\Q (.bool (lexLt ns ms)) s from⟨(λx=>nomatch x),h⟩⟩ hu
theorem cat_tup{Q:L4}(ht:gY s.heap t vs.toArray)(hb:gY s.heap b ws.toArray)(hv:vs≠[])(h1:ws=[]->Q (.ref t) s)(h2:ws≠[]->Q (.ref s.heap.objs.size) {s with heap:=s.heap.push {cls:=.type "tuple",data:=.seq (vs++ws).toArray}})(hsz:vs.length+ws.length<=sizeLine):ah (aw prog w) A (cA .Add (.ref t) (.ref b)) Q E s:=by
 obtain⟨⟨cls,dd,data,sl⟩,ho,hc,n,hd⟩:=id ht;obtain⟨⟨cls2,dd2,data2,sl2⟩,ho2,hc2,n2,hd2⟩:=id hb;simp only at hc hd hc2 hd2;subst hc hd hc2 hd2;have e:vs.toArray++ws.toArray=(vs++ws).toArray:=by simp
 by_cases hw:ws=[]
 ·exact wfs ⟨_,ho,rfl⟩ ⟨_,ho2,rfl⟩ wdj wfe wce wcc (wby _ _)
   (tuple_addW1 t b vs.toArray ws.toArray n n2 dd dd2 sl sl2 (by simpa using hv) (by simp[hw])) ⟨ho,ho2,h1 hw⟩
 ·refine wfs ⟨_,ho,rfl⟩ ⟨_,ho2,rfl⟩ wdj wfe wce wcc (wby _ _)
   (tuple_addW2 t b vs.toArray ws.toArray n n2 dd dd2 sl sl2 (by simpa using hv) (by simpa using hw) (by rw[gw,gw];exact hsz)) ⟨ho,ho2,?_⟩
  rw[e];exact h2 hw
noncomputable def sIx(n d:Nat):Option Int->Nat
 |none=>d
 |some v=>if v<0 then(v+(n:Int)).toNat else min v.toNat n
theorem sIx_none(n d):sIx n d none=d:=rfl
theorem sIx_nat(n d k:Nat):sIx n d (some (k:Int))=min k n:=by
 show(if(k:Int)<0 then((k:Int)+(n:Int)).toNat else min (k:Int).toNat n)=min k n;rw[ao (by omega),wC]
theorem sIx_le(n d)(hd:d<=n)(o):sIx n d o<=n:=by
 cases o with
 |none=>exact hd
 |some v=>
  show(if v<0 then(v+(n:Int)).toNat else min v.toNat n)<=n;by_cases hv:v<0
  ·rw[au hv];omega
  ·rw[ao hv];exact Nat.min_le_right _ _
theorem clip_eq(v)(n d:Nat):(if v<0 then max (v+(n:Int)) 0 else min v (n:Int))=((sIx n d (some v):Nat):Int):=by
 show(if v<0 then max (v+(n:Int)) 0 else min v (n:Int))=(((if v<0 then(v+(n:Int)).toNat else min v.toNat n):Nat):Int);by_cases hv:v<0
 ·simp only[au hv];omega
 ·simp only[ao hv];omega
theorem adjust_gen(lo hi)(n:Nat):ee lo hi 1 (n:Int)=(((sIx n 0 lo:Nat):Int),((sIx n n hi:Nat):Int)):=by
 have h1:¬((1:Int)<0):=by omega
 unfold ee;simp only[h1,J7];refine Wv ?_ ?_
 ·cases lo with
  |none=>rfl
  |some v=>exact clip_eq v n 0
 ·cases hi with
  |none=>rfl
  |some v=>exact clip_eq v n n
theorem places_gen(i j:Nat):dq (i:Int) (j:Int) 1=j-i:=by
 unfold dq;have h1:(1:Int)>0:=by omega
 simp only[h1,S8,Int.ediv_one];split<;>omega
theorem slicePart_{Q:Option Int->τ->Prop}(p:gg v o)(h:Q o s):ah (aw prog w) A (Builtin.Slice.slicePartIndex v) Q E s:=by
 cases p with
 |none=>exact slicePart_none h
 |int i t=>exact slicePart_int h
theorem sliceApplied_gen{lo hi:Option Int}{Q:Int×Int×Nat->τ->Prop}(hs:s.heap.IsSliceOf sl vl vu .none)(pl:gg vl lo)(pu:gg vu hi)(h:Q (((sIx n 0 lo:Nat):Int),1,sIx n n hi-sIx n 0 lo) s):ah (aw prog w) A (fS (.ref sl) (pure (n:Int))) Q E s:=by
 obtain⟨os,hos,hcs,hds⟩:=id hs;unfold fS Builtin.Slice.sliceFields;refine aD (aD (XQ hos hds (x:=vl) rfl (aD (XQ hos hds (x:=vu) rfl (aD (XQ hos hds (x:=.none) rfl (aW ?_)))))));refine aD (slicePart_none ?_);show ah _ _ (if((1:Int)==0)=true then _ else _) _ _ s;rw[ao (by decide)];refine aD (slicePart_ pl (aD (slicePart_ pu (aD (aW ?_)))));show ah _ _ (match ee lo hi 1 (n:Int)with |(lo,hi)=>pure (lo,(1:Int),dq lo hi 1)) _ _ s;rw[adjust_gen lo hi n];show ah _ _ (pure (((sIx n 0 lo:Nat):Int),(1:Int),dq ((sIx n 0 lo:Nat):Int) ((sIx n n hi:Nat):Int) 1)) _ _ s;rw[places_gen];exact aW h
theorem pick_gen(xs:Array ρ)(i k:Nat):((ai k).filterMap λ(m:Nat)=>xs[((i:Int)+(m:Int)*1).toNat]?).toArray=((xs.toList.drop i).take k).toArray:=by
 have e:(λ(m:Nat)=>xs[((i:Int)+(m:Int)*1).toNat]?)=λm=>xs[i+m]? :=by
  funext m;have:((i:Int)+(m:Int)*1).toNat=i+m:=by omega
  rw[this]
 rw[e];have:=pick_run xs i k;rw[List.filterMap_map]at this;have e2:((λx=>xs[x]?)∘λx=>i+x)=λm=>xs[i+m]? :=rfl;rw[e2]at this;rw[this]
theorem getItem_tuple_cut{lo hi:Option Int}{Q:L4}(ht:gY s.heap t ae)(hs:s.heap.IsSliceOf sl vl vu .none)(pl:gg vl lo)(pu:gg vu hi)(hw:¬(sIx ae.size 0 lo=0/\sIx ae.size ae.size hi=ae.size))(h:Q (.ref s.heap.objs.size) {s with heap:=s.heap.push {cls:=.type "tuple",data:=.seq ((ae.toList.drop (sIx ae.size 0 lo)).take (sIx ae.size ae.size hi-sIx ae.size 0 lo)).toArray}})(hsz:ae.size<=sizeLine):ah (aw prog w) A (fq (.ref t) (.ref sl)) Q E s:=by
 have htake:sizeOk (.seq ((ae.toList.drop (sIx ae.size 0 lo)).take (sIx ae.size ae.size hi-sIx ae.size 0 lo)).toArray):=by
  show((ae.toList.drop (sIx ae.size 0 lo)).take (sIx ae.size ae.size hi-sIx ae.size 0 lo)).toArray.size<=sizeLine;rw[gw,rQ,wdk,TJ];omega
 have hj:sIx ae.size ae.size hi<=ae.size:=sIx_le _ _ (aQ _) hi;obtain⟨os,hos,hcs,hds⟩:=id hs;have hTs:s.TypeIs (.ref sl) "slice":=⟨os,hos,hcs⟩;unfold fq
 try with_reducible apply Aq
 first |refine aD (aW ?_)|skip
 refine aD (wpAny_sequenceKey ht.typeIs (by decide) ?_);refine aD (wbh (name:=bT "__getitem__") ht.typeIs wbm
  (Td wbm ht.typeIs entry_tuple_getitem ?_ (args_tuple_getitem _ _)))
 show ah _ _ (dQ (.ref t)>>=_) _ _ s;refine aD (tupleItemsOf_ ht ?_);refine aD (wft hTs ?_);rw[au (by decide)];refine aD (sliceApplied_gen hs pl pu ?_);have hno:¬((((sIx ae.size 0 lo:Nat):Int)==0&&(1:Int)==1&&(sIx ae.size ae.size hi-sIx ae.size 0 lo)==ae.size)=true):=by
  intro q;rw[fH,fH]at q;have q1:((sIx ae.size 0 lo:Nat):Int)=0:=eq_of_beq q.1.1;have q2:sIx ae.size ae.size hi-sIx ae.size 0 lo=ae.size:=eq_of_beq q.2;exact hw ⟨by omega,by omega⟩
 show ah _ _ (if(((sIx ae.size 0 lo:Nat):Int)==0&&(1:Int)==1&&(sIx ae.size ae.size hi-sIx ae.size 0 lo)==ae.size)=true then _ else _) _ _ s;rw[ao hno,pick_gen]
 first
  |exact aD (m:=bG _) (J8 (aW ⟨_,rfl,aW h⟩) htake)
  |exact aD (m:=bG _) (J8 (aD (aW (aW ⟨_,rfl,aW h⟩))) htake)
  |exact aD (aD (m:=bG _) (J8 (aW (aW ⟨_,rfl,aW h⟩)) htake))
  |exact aD (aD (m:=bG _) (J8 (aW ⟨_,rfl,aW h⟩) htake))
end
end HT
namespace L2
open PySem PySem.Spec PyProof.Rows
noncomputable abbrev TO:=St->Hp->(Option Int->Hp->Prop)->Prop
noncomputable def PO(X:Cx)(e:Option br)(t:TO):Prop:=
 ∀(aa:L3) (s:τ) (σ:St) (H:Hp) (Q:Option Int->Hp->Prop),Inv X aa σ H s->t σ H Q->
  ah (aw X.prog X.w) X.A (evalPart e X.env) (λu s'=>∃o H',Inv X aa σ H' s'/\gg u o/\Q o H') X.xe s
noncomputable def tNoPart:TO:=λ_ H Q=>Q none H
noncomputable def tPart(t:TE):TO:=λσ H Q=>t σ H λx H1=>∃i,x=.int i/\Q (some i) H1
theorem intsAre_of:∀{us:List ρ},Vals (ns.map V.int) us->dc us ns:=by
 induction ns with
 |nil=>intro us r;rw[yfm]at r;cases r;exact .nil
 |cons n ns ih=>
  intro us r;rw[iQ]at r;cases r with
  |cons r1 r2=>
   obtain⟨t,e⟩:=r1;subst e;exact .cons n t (ih r2)
section
variable{X:Cx}{e:br}{te:TE}{lo hi:Option br}{tl th:TO}{pos p2:eR}
theorem po_none:PO X none tNoPart:=by
 intro aa s σ H Q I h;rw[evalPart_none];exact aW ⟨none,H,I,.none,h⟩
theorem po_some(h:PE X e te):PO X (some e) (tPart te):=by
 intro aa s σ H Q I hw;rw[evalPart_some];refine thn (h aa s σ H _ I hw) λu s1 ⟨x,H1,I1,r1,q1⟩=>?_;obtain⟨i,rfl,q⟩:=q1;obtain⟨t,rfl⟩:=r1;exact⟨some i,H1,I1,.int i t,q⟩
noncomputable def SlR(X:Cx)(r:V->Option Int->Option Int->Hp->VK->Prop):Prop:=
 ∀(aa:L3) (s:τ) (σ:St) (H:Hp) (x:V) (v vl vu:ρ) (lo hi:Option Int) (sl:af) (Q:VK),Inv X aa σ H s->RelV x v->s.heap.IsSliceOf sl vl vu .none->gg vl lo->gg vu hi->r x lo hi H Q->
  ∃T id,typeLookup (.type T) "__getitem__"=pure (some (.builtin id))/\s.TypeIs v T/\ah (aw X.prog X.w) X.A (fq v (.ref sl)) (EP X aa σ Q) X.xe s
noncomputable def tSl(r:V->Option Int->Option Int->Hp->VK->Prop)(te:TE)(tl th:TO):TE:=λσ H Q=>te σ H λx H1=>tl σ H1 λl H2=>th σ H2 λu H3=>r x l u H3 Q
theorem pe_slice{r:V->Option Int->Option Int->Hp->VK->Prop}(hr:SlR X r)(he:PE X e te)(hl:PO X lo tl)(hu:PO X hi th):PE X (.Subscript e (.Slice lo hi none p2) pos) (tSl r te tl th):=by
 intro aa s σ H Q I h;refine Subscript_ (thn (he aa s σ H _ I h) λv s1 ⟨x,H1,I1,r1,q1⟩=>?_);refine wpAny_Slice (thn (hl aa s1 σ H1 _ I1 q1) λvl s2 ⟨l,H2,I2,pl,q2⟩=>thn (hu aa s2 σ H2 _ I2 q2) λvu s3 ⟨u,H3,I3,pu,q3⟩=>?_);rw[evalPart_none];apply aW;have I4:Inv X aa σ H3 {s3 with heap:=s3.heap.push {cls:=.type "slice",data:=.fields #[vl,vu,.none]}}:=I3.kept (t':=s3.toks) λb ob q=>fG _ q;obtain⟨T,id,hT,ht,hg⟩:=hr aa {s3 with heap:=s3.heap.push {cls:=.type "slice",data:=.fields #[vl,vu,.none]}} σ H3 x v vl vu l u s3.heap.objs.size Q I4 r1 (Heap.IsSliceOf.new ..) pl pu q3;show ah (aw X.prog X.w) X.A (kK e (.Slice lo hi none p2) v (.ref s3.heap.objs.size)) (EP X aa σ Q) X.xe {s3 with heap:=s3.heap.push {cls:=.type "slice",data:=.fields #[vl,vu,.none]}};exact tail_any (ops:=[.ref s3.heap.objs.size,v]) ht hT hg (by with_unfolding_all rfl)
noncomputable def cutV(xs:List V)(lo hi:Option Int):List V:=(xs.drop (HT.sIx xs.length 0 lo)).take (HT.sIx xs.length xs.length hi-HT.sIx xs.length 0 lo)
theorem cutV_length(xs)(lo hi):(cutV xs lo hi).length<=xs.length:=by
 unfold cutV;rw[rQ,wdk];omega
noncomputable def rSlT(K:ag):V->Option Int->Option Int->Hp->VK->Prop:=λx lo hi H Q=>∃a xs,x=.ref a/\SqT K H a xs/\
 ¬(HT.sIx xs.length 0 lo=0/\HT.sIx xs.length xs.length hi=xs.length)/\∀p,H p=none->Q (.ref p) (upd H p (.tup (cutV xs lo hi)))
theorem sl_tup:SlR X (rSlT X.K):=by
 intro aa s σ H x v vl vu lo hi sl Q I rx hs pl pu h;obtain⟨a,xs,rfl,hx,hw,q⟩:=h;cases rx;obtain⟨its,r,ht,hz⟩:=I.tuple hx;have ad:its.toArray.size=xs.length:=by rw[gw];exact r.length.symm
 refine⟨"tuple",_,PyProof.Rows.slot_tuple_getitem.lookup,ht.typeIs,?_⟩;refine HT.getItem_tuple_cut ht hs pl pu (by rw[ad];exact hw) ?_ (by rw[ad];exact hz);rw[ad];refine⟨.ref s.heap.objs.size,_,I.laid (t':=s.toks) (o:=.tup (cutV xs lo hi)) (λb ob q=>fG _ q) (aQ _) ?_,rfl,q _ (I.hok.fresh (aQ _))⟩;exact⟨bR (cutV_length xs lo hi) hz,_,(r.drop (HT.sIx xs.length 0 lo)).take (HT.sIx xs.length xs.length hi-HT.sIx xs.length 0 lo),wfu _ _⟩
inductive rLtT(K:ag)(x:V)(y:V)(H:Hp)(Q:VK):Prop
 |mk(a b ns ms)(_:x=.ref a)(_:y=.ref b)(_:SqT K H a (ns.map V.int))(_:SqT K H b (ms.map V.int))(_:Q (.bl (HT.lexLt ns ms)) H)
theorem op_ltT(hu:X.A.units<dm):OpR X (bt .Lt) (rLtT X.K):=by
 intro aa s σ H x y v u Q I rx ry h;obtain⟨a,b,ns,ms,rfl,rfl,ha,hb,q⟩:=h;cases rx;cases ry;obtain⟨its,r1,p1,_⟩:=I.tuple ha;obtain⟨its2,r2,p2,_⟩:=I.tuple hb;have i1:dc its.toArray.toList ns:=intsAre_of r1;have i2:dc its2.toArray.toList ms:=intsAre_of r2;exact HT.lt_tupInts p1 p2 i1 i2 hu ⟨.bl (HT.lexLt ns ms),H,I,rfl,q⟩
inductive rCatT(K:ag)(x:V)(y:V)(H:Hp)(Q:VK):Prop
 |mk(a b xs ys)(_:x=.ref a)(_:y=.ref b)(_:SqT K H a xs)(_:SqT K H b ys)(_:xs≠[])(_:xs.length+ys.length<=sizeLine)(_:ys=[]->Q (.ref a) H)(_:ys≠[]->∀p,H p=none->Q (.ref p) (upd H p (.tup (xs++ys))))
theorem Vals.nil_iff(r:Vals xs us):us=[]↔xs=[]:=by
 cases r with
 |nil=>simp
 |cons _ _=>simp
theorem op_catT:OpR X (cA .Add) (rCatT X.K):=by
 intro aa s σ H x y v u Q I rx ry h;obtain⟨a,b,xs,ys,rfl,rfl,ha,hb,hx,hz,q1,q2⟩:=h;cases rx;cases ry;obtain⟨its,r1,p1,_⟩:=I.tuple ha;obtain⟨its2,r2,p2,_⟩:=I.tuple hb;refine HT.cat_tup p1 p2 (λz=>hx (r1.nil_iff.mp z)) (λz=>⟨.ref a,H,I,rfl,q1 (r2.nil_iff.mp z)⟩) (λz=>?_) (by rw[<-r1.length,<-r2.length];exact hz);refine⟨.ref s.heap.objs.size,_,I.laid (t':=s.toks) (o:=.tup (xs++ys)) (λb ob q=>fG _ q) (aQ _) ?_,rfl,q2 (λw=>z (r2.nil_iff.mpr w)) _ (I.hok.fresh (aQ _))⟩;exact⟨by rw[oO];exact hz,_,r1.append r2,wfu _ _⟩
end
noncomputable def ixN(n:Nat)(i:Int):Option Nat:=if 0<=i then(if i<n then some i.toNat else none)else if -(n:Int)<=i then some (i+n).toNat else none
noncomputable def atI{α:Type}(xs:List α)(i:Int):Option α:=(ixN xs.length i).bind λj=>xs[j]?
theorem ixN_seq(h:ixN n i=some j):seqIndex? i n=some j/\j<n/\ -(n:Int)<=i/\i<n:=by
 unfold ixN at h;by_cases h0:0<=i
 ·rw[au h0]at h;by_cases h1:i<n
  ·rw[au h1]at h;have e:i.toNat=j:=ux h;exact⟨by rw[seqIndex_of h0 h1,e],by omega,by omega,h1⟩
  ·rw[ao h1]at h;cases h
 ·rw[ao h0]at h;by_cases h1: -(n:Int)<=i
  ·rw[au h1]at h;have e:(i+n).toNat=j:=ux h;exact⟨by rw[seqIndex_neg (by omega) h1,e],by omega,h1,by omega⟩
  ·rw[ao h1]at h;cases h
theorem atI_get{α:Type}{xs:List α}{v:α}(h:atI xs i=some v):∃j,seqIndex? i xs.length=some j/\xs[j]? =some v/\j<xs.length/\ -(xs.length:Int)<=i/\i<xs.length:=by
 unfold atI at h;cases e:ixN xs.length i with
 |none=>rw[e]at h;cases h
 |some j=>
  rw[e]at h;obtain⟨h1,h2,h3,h4⟩:=ixN_seq e;exact⟨j,h1,h,h2,h3,h4⟩
theorem atI_nat{α:Type}{xs:List α}{j:Nat}{v:α}(h:xs[j]? =some v):atI xs (j:Int)=some v:=by
 have hj:j<xs.length:=(oR.mp h).1;have e:ixN xs.length (j:Int)=some j:=by
  unfold ixN;rw[au (by omega),au (by omega)];simp
 unfold atI;rw[e];exact h
noncomputable def PlainIx(b:br):Prop:=∀o i,ie b false o i=operate [o,i] (fq o i)
noncomputable def IxR(X:Cx)(r:R2):Prop:=
 ∀(value slice:br) (aa:L3) (s:τ) (σ:St) (H:Hp) (x y:V) (v u:ρ) (Q:VK),Inv X aa σ H s->RelV x v->RelV y u->r x y H Q->
  ie slice false v u=operate [v,u] (fq v u)->ah (aw X.prog X.w) X.A (kK value slice v u) (EP X aa σ Q) X.xe s
noncomputable def MtR(X:Cx)(id:String)(r:V->List V->Hp->VK->Prop):Prop:=
 ∀(aa:L3) (s:τ) (σ:St) (H:Hp) (x:V) (xs:List V) (v:ρ) (us:List ρ) (Q:VK),Inv X aa σ H s->RelV x v->Vals xs us->r x xs H Q->
  ah (aw X.prog X.w) X.A (call (.builtin id) (v::us)) (EP X aa σ Q) X.xe s
section
variable{X:Cx}{a b:br}{ta tb:TE}{pos:eR}
theorem bB{r:R2}(hr:IxR X r)(ha:PE X a ta)(hb:PE X b tb)(hs:PlainIx b:=by exactλ_ _=>rfl):PE X (.Subscript a b pos) (tOp r ta tb):=by
 intro aa s σ H Q I h;exact Subscript_ (binT ha hb I h λv u s2 x y H2 I2 rx ry q=>hr a b aa s2 σ H2 x y v u Q I2 rx ry q (hs _ _))
inductive rIxL(K:ag)(x:V)(y:V)(H:Hp)(Q:VK):Prop
 |mk(p xs i v)(_:x=.ref p)(_:y=.int i)(_:SqL K H p xs)(_:atI xs i=some v)(_:Q v H)
inductive rIxT(K:ag)(x:V)(y:V)(H:Hp)(Q:VK):Prop
 |mk(p xs i v)(_:x=.ref p)(_:y=.int i)(_:SqT K H p xs)(_:atI xs i=some v)(_:Q v H)
theorem jV:IxR X (rIxL X.K):=by
 intro value slice aa s σ H x y v u Q I rx ry h hs;obtain⟨p,xs,i,z,rfl,rfl,hq,he,q⟩:=h;cases rx;obtain⟨t,rfl⟩:=ry;obtain⟨its,r,pl,hz⟩:=I.list hq;obtain⟨j,h1,h2,h3,h4,h5⟩:=atI_get he;obtain⟨w,ew,rw'⟩:=r.get h2;have hl:=r.length;have hn:=line63;have fin:EP X aa σ Q w s:=⟨z,H,I,rw',q⟩;by_cases h0:0<=i
 ·have hj:i.toNat=j:=by
   rw[seqIndex_of h0 h5]at h1;exact ux h1
  exact item_listR pl.isList h0 (by omega) (by rw[hj];simpa using ew) fin hs
 ·have hj:(i+(its.toArray.size:Int)).toNat=j:=by
   rw[seqIndex_neg (by omega) h4]at h1;rw[gw,<-hl];exact ux h1
  exact mr (x:=w) pl.isList.typeIs slot_list_getitem.lookup
   (wpAny_getItem_list_neg (Q:=λr s'=>r=w/\EP X aa σ Q r s') pl.isList (by omega) (by rw[gw]<;>omega) (by omega) (by rw[hj];simpa using ew) ⟨rfl,fin⟩) hs
theorem fU:IxR X (rIxT X.K):=by
 intro value slice aa s σ H x y v u Q I rx ry h hs;obtain⟨p,xs,i,z,rfl,rfl,hq,he,q⟩:=h;cases rx;obtain⟨t,rfl⟩:=ry;obtain⟨its,r,pl,hz⟩:=I.tuple hq;obtain⟨j,h1,h2,h3,h4,h5⟩:=atI_get he;obtain⟨w,ew,rw'⟩:=r.get h2;have hl:=r.length;have hn:=line63;have fin:EP X aa σ Q w s:=⟨z,H,I,rw',q⟩;exact mr (x:=w) pl.typeIs slot_tuple_getitem.lookup
  (getItem_tuple (j:=j) (Q:=λr s'=>r=w/\EP X aa σ Q r s') pl (by omega) (by omega) (by rw[gw,<-hl];exact h1) (by simpa using ew) ⟨rfl,fin⟩) hs
theorem mapSeq_set(its:List ρ)(n j)(u):ba (·.setIfInBounds j u) {cls:=.type "list",data:=.seq its.toArray n}={cls:=.type "list",data:=.seq (its.set j u).toArray n}:=by
 simp[ba]
theorem Inv.lst{σ:St}(I:Inv X aa σ H s)(h:H p=some (.lst xs)):
  ∃(its:List ρ) (n:Nat),Vals xs its/\s.heap.get? p=some {cls:=.type "list",data:=.seq its.toArray n}/\xs.length<=sizeLine:=by
 obtain⟨z,its,n,r,e⟩:=I.hok p _ h;exact⟨its,n,r,e,z⟩
theorem Inv.lstUpd{σ:St}{its its':List ρ}(I:Inv X aa σ H s)(h:H p=some (.lst xs))(ho:s.heap.get? p=some {cls:=.type "list",data:=.seq its.toArray n})(hf:f {cls:=.type "list",data:=.seq its.toArray n}={cls:=.type "list",data:=.seq its'.toArray n'})(r:Vals ys its')(hz:ys.length<=sizeLine)(t):
  Inv X aa σ (upd H p (.lst ys)) {s with heap:=s.heap.update p f,toks:=t}:=by
 have e:(s.heap.update p f).get? p=some {cls:=.type "list",data:=.seq its'.toArray n'}:=by
  rw[yep f ho (by rw[hf]<;>rfl),hf]
 refine I.write (x:=p) (e:=p) (by rw[h];trivial) (.inl rfl) (λb u hb q=>(wcv _ _ (mQ hb)).trans q) ⟨_,e⟩ ?_;exact⟨hz,its',n',r,e⟩
noncomputable def rSetL:V->V->V->Hp->(Hp->Prop)->Prop:=λo i v H Q=>∃p xs k j,o=.ref p/\i=.int k/\H p=some (.lst xs)/\ixN xs.length k=some j/\Q (upd H p (.lst (xs.set j v)))
theorem set_list:PSet X rSetL:=by
 intro aa s σ H o i v ov iv u Q I ro ri rv h;obtain⟨p,xs,k,j,rfl,rfl,hp,hj,q⟩:=h;cases ro;obtain⟨t,rfl⟩:=ri;obtain⟨its,n,r,ho,hz⟩:=I.lst hp;obtain⟨h1,h2,h3,h4⟩:=ixN_seq hj;have hl:=r.length;have hn:=line63;have I':Inv X aa σ (upd H p (.lst (xs.set j v))) {s with heap:=s.heap.update p (ba (·.setIfInBounds j u))}:=
  I.lstUpd hp ho (mapSeq_set its n j u) (r.set rv j) (by rw[wdy];exact hz) s.toks
 by_cases h0:0<=k
 ·have hk:k.toNat=j:=by
   rw[seqIndex_of h0 h4]at h1;exact ux h1
  exact W.ki_setAt ho h0 (by omega) (by rw[gw,<-hl];exact h4) (by rw[hk];exact⟨_,I',q⟩)
 ·have hk:(k+(its.toArray.size:Int)).toNat=j:=by
   rw[seqIndex_neg (by omega) h3]at h1;rw[gw,<-hl];exact ux h1
  exact W.ki_setBack ho (by omega) (by rw[gw,<-hl];exact h3) (by omega) (by rw[hk];exact⟨_,I',q⟩)
theorem slice_bounds(lo hi)(n):(eQ lo hi none n).1=((HT.sIx n 0 lo:Nat):Int)/\(eQ lo hi none n).2.1=((HT.sIx n n hi:Nat):Int)/\(eQ lo hi none n).2.2=1:=by
 refine⟨?_,?_,rfl⟩
 ·cases lo with
  |none=>simp[eQ,HT.sIx]
  |some i=>
   simp only[eQ,HT.sIx,lp,show(1:Int)>0 by decide,S8];by_cases h:i<0
   ·simp only[h,S8]<;>omega
   ·simp only[h,J7]<;>omega
 ·cases hi with
  |none=>simp[eQ,HT.sIx]
  |some i=>
   simp only[eQ,HT.sIx,lp,show(1:Int)>0 by decide,S8];by_cases h:i<0
   ·simp only[h,S8]<;>omega
   ·simp only[h,J7]<;>omega
theorem slicePick_cut(its:List ρ)(lo hi):slicePick its.toArray lo hi none=((its.drop (HT.sIx its.length 0 lo)).take (HT.sIx its.length its.length hi-HT.sIx its.length 0 lo)).toArray:=by
 obtain⟨h1,h2,h3⟩:=slice_bounds lo hi its.toArray.size;unfold slicePick;rw[h1,h2,h3];simp only[sliceRange_one,pick_run,gw]<;>rfl
noncomputable def rSlL(K:ag):V->Option Int->Option Int->Hp->VK->Prop:=λx lo hi H Q=>∃a xs,x=.ref a/\SqL K H a xs/\∀p,H p=none->Q (.ref p) (upd H p (.lst (cutV xs lo hi)))
theorem sl_list:SlR X (rSlL X.K):=by
 intro aa s σ H x v vl vu lo hi sl Q I rx hs pl pu h;obtain⟨a,xs,rfl,hx,q⟩:=h;cases rx;obtain⟨its,r,ht,hz⟩:=I.list hx;have ad:=r.length;refine⟨"list",_,slot_list_getitem.lookup,ht.isList.typeIs,?_⟩;refine wpAny_getItem_list_slice ht.isList hs pl pu .none (by simp) ?_ (by rw[gw]<;>omega);rw[slicePick_cut,<-ad];refine⟨.ref s.heap.objs.size,_,I.laid (t':=s.toks) (o:=.lst (cutV xs lo hi)) (λb ob q=>fG _ q) (aQ _) ?_,rfl,q _ (I.hok.fresh (aQ _))⟩;exact⟨bR (cutV_length xs lo hi) hz,_,0,(r.drop (HT.sIx xs.length 0 lo)).take (HT.sIx xs.length xs.length hi-HT.sIx xs.length 0 lo),lZ _ rfl⟩
theorem call_len_seq:CallR X (.builtin "len") (λxs H Q=>∃p ys,xs=[.ref p]/\(SqL X.K H p ys\/SqT X.K H p ys)/\Q (.int ys.length) H):=by
 intro aa s σ H xs us Q I r h;obtain⟨p,ys,rfl,hq,q⟩:=h;obtain⟨u,rfl,rx⟩:=vals1 r;cases rx;have hn:=line63;rcases hq with hq|hq
 ·obtain⟨its,r',pl,hz⟩:=I.list hq;have ad:=r'.length;exact Calls.call_len_list pl.isList (by simp only[gw]<;>omega) ⟨.int ys.length,H,I.tok _,⟨s.toks+1,by rw[gw,ad]⟩,q⟩
 ·obtain⟨its,r',pl,hz⟩:=I.tuple hq;have ad:=r'.length;exact len_tuple pl (by simp only[gw]<;>omega) ⟨.int ys.length,H,I.tok _,⟨s.toks+1,by rw[gw,ad]⟩,q⟩
theorem JW:CallR X (.type "tuple") (λxs H Q=>∃p ys,xs=[.ref p]/\((SqL X.K H p ys/\∀l,H l=none->Q (.ref l) (upd H l (.tup ys)))\/(SqT X.K H p ys/\Q (.ref p) H))):=by
 intro aa s σ H xs us Q I r h;obtain⟨p,ys,rfl,h⟩:=h;obtain⟨u,rfl,rx⟩:=vals1 r;cases rx;rcases h with⟨hq,q⟩|⟨hq,q⟩
 ·obtain⟨its,r',pl,hz⟩:=I.list hq;have ad:=r'.length;refine call_tuple_list pl.isList (λh' kp=>?_) (by simp only[gw]<;>omega);have I1:Inv X aa σ H {s with heap:=h'}:=I.kept (t':=s.toks) kp;have I2:Inv X aa σ (upd H h'.objs.size (.tup ys)) {s with heap:=h'.push {cls:=.type "tuple",data:=.seq its.toArray}}:=
   I1.laid (t':=s.toks) (λb o e=>fG _ e) (aQ _) (show ObjOk X.prog X.w _ _ _ (.tup ys)from⟨hz,its,r',wfu _ _⟩)
  exact⟨.ref h'.objs.size,_,I2,rfl,q _ (I1.hok.fresh (aQ _))⟩
 ·obtain⟨its,r',pl,hz⟩:=I.tuple hq;exact call_tuple_same pl ⟨.ref p,H,I,rfl,q⟩
noncomputable def tyV(K:ag)(T:String)(x:V)(H:Hp):Prop:=match x with
 | .str _=>T="str"
 | .int _=>T="int"
 | .ref p=>(T="list"/\∃xs,SqL K H p xs)\/(T="tuple"/\∃o,K.lookup p=some o/\o.cls=.type "tuple"/\o.dict=none)\/
   (T="dict"/\((∃kvs,H p=some (.dK kvs))\/∃kvs,H p=some (.dT kvs)))\/(T="set"/\∃S n,H p=some (.set S n))
 |_=>False
theorem tyV_is{σ:St}(I:Inv X aa σ H s)(r:RelV x v)(ty:tyV X.K T x H):
  s.TypeIs v T/\∀a,v=.ref a->∃ob,s.heap.get? a=some ob/\ob.dict=none:=by
 cases x with
 |str z=>
  obtain⟨t,rfl⟩:=r;cases(show T="str" from ty);exact⟨typeIs_str s z t,λ_ e=>nomatch e⟩
 |int i=>
  obtain⟨t,rfl⟩:=r;cases(show T="int" from ty);exact⟨wgf s i t,λ_ e=>nomatch e⟩
 |ref p=>
  cases r;rcases ty with⟨rfl,xs,hq⟩|⟨rfl,o,hk,hc,hd⟩|⟨rfl,hk⟩|⟨rfl,S,n,hk⟩
  ·obtain⟨its,_,pl,_⟩:=I.list hq;refine⟨pl.isList.typeIs,λa e=>?_⟩;cases e;obtain⟨o,n,e,c,hd,_⟩:=pl;exact⟨o,e,hd⟩
  ·refine⟨⟨o,I.kIn p o hk,hc⟩,λa e=>?_⟩;cases e;exact⟨o,I.kIn _ o hk,hd⟩
  ·have z:∃o,s.heap.get? p=some o/\o.ExactDict:=by
    rcases hk with⟨kvs,hk⟩|⟨kvs,hk⟩
    ·obtain⟨_,_,_,_,o,_,_,e,ex,_⟩:=I.hok p _ hk;exact⟨o,e,ex⟩
    ·obtain⟨_,_,_,_,o,_,_,e,ex,_⟩:=I.hok p _ hk;exact⟨o,e,ex⟩
   obtain⟨o,e,ex⟩:=z;refine⟨⟨o,e,ex.1⟩,λa e2=>?_⟩;cases e2;exact⟨o,e,ex.2.1⟩
  ·obtain⟨o,_,_,_,e,ex,_⟩:=I.hok p _ hk;refine⟨⟨o,e,ex.1⟩,λa e2=>?_⟩;cases e2;exact⟨o,e,ex.2.1⟩
 |_=>exact bX ty
noncomputable def tBM(K:ag)(T:String)(r:V->List V->Hp->VK->Prop)(to:TE)(t:TA):TE:=λσ H Q=>to σ H λx H1=>tyV K T x H1/\t σ H1 λxs H2=>r x xs H2 Q
variable{o e:br}{es:List br}{to:TE}{t:TA}{name:bg}{apos cpos:eR}{T id:String}{r:V->List V->Hp->VK->Prop}
theorem pe_bm(pa:PlainAttrs T)(slot:Slot T name id)(hty:typeOf (.builtin id)=pure (.type "method_descriptor"))(hm:MtR X id r)(ho:PE X o to)(ha:PA X (e::es) t)(hbase:gE o name X.env (cx o X.env)=cx o X.env:=by rfl)(hfew:((dk cpos (az (e::es) X.env)).all (λx=> !x.1)&&(backToKw cpos (keywordEach [] X.env)).all (λx=>x.1.isSome)
   &&decide ((e::es).length+([]:List Keyword).length+(if([]:List Keyword).isEmpty then 0 else 1)<30))=true:=by rfl)(hline:(apos.endLine==cpos.line)=true:=by rfl)(hs:az (e::es) X.env=(false,cx e X.env)::az es X.env:=by rfl)(hplain:(dk cpos (az es X.env)).any (·.1)=false:=by rfl):
  PE X (.Call (.Attribute o name apos) (e::es) [] cpos) (tBM X.K T r to t):=by
 intro aa s σ H Q I h;refine wpAny_Call_method_late hbase hfew hline rfl (thn (ho aa s σ H _ I h) λv s1 ⟨x,H1,I1,r1,ty,q1⟩=>?_);obtain⟨h1,h2⟩:=tyV_is I1 r1 ty;refine⟨T,id,pa,slot,hty,h1,h2,?_⟩;have hA:=ha cpos aa s1 σ H1 _ I1 q1;rw[hs]at hA⊢;refine Calls.callWith_builtin (by show(false||(dk cpos (az es X.env)).any (·.1))=false;rw[hplain]<;>rfl) (Calls.evalArgs_plain ?_);exact thn hA λus s2 ⟨vs,H2,I2,r2,q2⟩=>hm aa s2 σ H2 x vs v us Q I2 r1 r2 q2
end
noncomputable def MtM(X:Cx)(id:String)(r:V->List V->Hp->VK->Prop):Prop:=
 ∀(aa:L3) (s:τ) (σ:St) (H:Hp) (x:V) (xs:List V) (v:ρ) (us:List ρ) (Q:VK),Inv X aa σ H s->RelV x v->Vals xs us->r x xs H Q->
  ah (aw X.prog X.w) X.A (call (.builtin id) (v::us)) (EP X aa σ Q) X.xe s
theorem Vals.one(h:Vals [x] us):∃u,us=[u]/\RelV x u:=by
 cases h with
 |cons r h=>cases h;exact⟨_,rfl,r⟩
theorem Vals.two(h:Vals [x,y] us):∃u v,us=[u,v]/\RelV x u/\RelV y v:=by
 cases h with
 |cons r h=>obtain⟨v,rfl,q⟩:=Vals.one h;exact⟨_,_,rfl,r,q⟩
theorem Vals.rep(h:Vals xs us):∀k:Nat,Vals (al k xs).flatten (al k us).flatten
 |0=>.nil
 |k+1=>by
  rw[J6,J6,TF,TF];exact Vals.append h (Vals.rep h k)
theorem foldl_rep(its):∀(k:Nat) (acc:List ρ),
  eS (λx1 x2=>x1++x2) acc.toArray (al k its.toArray)=(acc++(al k its).flatten).toArray
 |0,acc=>by simp
 |k+1,acc=>by
  have e:acc.toArray++its.toArray=(acc++its).toArray:=by simp
  have e2:(acc++its)++(al k its).flatten=acc++(al (k+1) its).flatten:=by
   rw[J6,TF,Xx]
  rw[<-e2,<-foldl_rep its k (acc++its),<-e,J6,List.foldl_cons]
section
variable{X:Cx}{aa:L3}{σ:St}{H:Hp}{s:τ}{l:af}{xs ys:List V}
theorem Inv.lset{its its':List ρ}(I:Inv X aa σ H s)(hH:H l=some (.lst xs))(e:s.heap.get? l=some {cls:=.type "list",data:=.seq its.toArray n})(hf:f its.toArray=its'.toArray)(hv:Vals ys its')(hz:ys.length<=sizeLine):
  Inv X aa σ (upd H l (.lst ys)) {s with heap:=s.heap.update l (ba f),toks:=t'}:=by
 have q:=PySem.IsL.update e f;rw[hf]at q;refine I.write (x:=l) (e:=l) (by rw[hH];exact trivial) (.inl rfl) (λb' u hb hu=>(wcv s.heap (ba f) (mQ hb)).trans hu) ⟨_,q⟩ ?_;exact⟨hz,its',_,hv,q⟩
theorem Inv.lnew(I:Inv X aa σ H s)(hv:Vals ys its)(hz:ys.length<=sizeLine):
  Inv X aa σ (upd H s.heap.objs.size (.lst ys)) {s with heap:=s.heap.push {cls:=.type "list",data:=.seq its.toArray},toks:=t'}:=
 I.laid (λ_ _ q=>fG _ q) (aQ _) ⟨hz,its,0,hv,lZ _ rfl⟩
theorem Inv.fresh(I:Inv X aa σ H s):H s.heap.objs.size=none:=I.hok.fresh (aQ _)
theorem Inv.lstM(I:Inv X aa σ H s)(hH:H l=some (.lst xs)):xs.length<=sizeLine/\∃(its:List ρ) (n:Nat),Vals xs its/\xs.length=its.length/\s.heap.get? l=some {cls:=.type "list",data:=.seq its.toArray n}:=by
 obtain⟨z,its,n,r,e⟩:=I.hok l _ hH;exact⟨z,its,n,r,r.length,e⟩
theorem notLongL(h:n<=sizeLine):du n=false:=by
 unfold du;exact gj (by omega)
end
section
variable{X:Cx}
inductive rAppend(x:V)(vs:List V)(H:Hp)(Q:VK):Prop
 |mk(l xs y)(_:x=.ref l)(_:vs=[y])(_:H l=some (.lst xs))(_:xs.length<sizeLine)(_:Q .non (upd H l (.lst (xs++[y]))))
theorem mt_append:MtM X "list.append" rAppend:=by
 intro aa s σ H x vs v us Q I rx rv h;obtain⟨l,xs,y,rfl,rfl,hH,hz,q⟩:=h;cases rx;obtain⟨u,rfl,ru⟩:=rv.one;obtain⟨z,its,n,r,hl,e⟩:=I.lstM hH;refine TV fE ⟨_,e,rfl⟩ F.entry_list_append (mt _ _) (lw l its.toArray n u (by rw[gw];omega)) ⟨e,?_⟩;refine⟨.non,_,I.lset (its':=its++[u]) hH e (by simp) (r.append (.cons ru .nil)) ?_,rfl,q⟩;rw[oO,wfv];omega
inductive rExtend(x:V)(vs:List V)(H:Hp)(Q:VK):Prop
 |mk(l b xs zs)(_:x=.ref l)(_:vs=[.ref b])(_:H l=some (.lst xs))(_:H b=some (.lst zs))(_:xs.length+zs.length<=sizeLine)(_:Q .non (upd H l (.lst (xs++zs))))
theorem mt_extend:MtM X "list.extend" rExtend:=by
 intro aa s σ H x vs v us Q I rx rv h;obtain⟨l,b,xs,zs,rfl,rfl,hH,hB,hz,q⟩:=h;cases rx;obtain⟨u,rfl,ru⟩:=rv.one;cases ru;obtain⟨z,its,n,r,hl,e⟩:=I.lstM hH;obtain⟨z2,its2,n2,r2,hl2,e2⟩:=I.lstM hB;have hsz:its.toArray.size+its2.toArray.size<=sizeLine:=by rw[gw,gw];omega
 have hlong:¬(!its.toArray.isEmpty&&du (its.toArray.size+its2.toArray.size))=true:=by
  rw[notLongL hsz,Bool.and_false];exact nG
 refine TV jb ⟨_,e,rfl⟩ F.entry_list_extend (F.args_list_extend_2 _ _)
  (AutoSeq1.list_extend_list_list_0 l its.toArray n b its2.toArray n2 hlong (by rw[gw];omega) (by omega)) ⟨e,e2,?_⟩
 refine⟨.non,_,I.lset (its':=its++its2) hH e (by simp) (r.append r2) ?_,rfl,q⟩;rw[oO];omega
inductive rCat(x:V)(y:V)(H:Hp)(Q:VK):Prop
 |mk(l b xs zs)(_:x=.ref l)(_:y=.ref b)(_:H l=some (.lst xs))(_:H b=some (.lst zs))(_:xs.length+zs.length<=sizeLine)(_:∀p,H p=none->Q (.ref p) (upd H p (.lst (xs++zs))))
theorem op_cat:OpR X (cA .Add) rCat:=by
 intro aa s σ H x y v u Q I rx ry h;obtain⟨l,b,xs,zs,rfl,rfl,hH,hB,hz,q⟩:=h;cases rx;cases ry;obtain⟨z,its,n,r,hl,e⟩:=I.lstM hH;obtain⟨z2,its2,n2,r2,hl2,e2⟩:=I.lstM hB;refine PySem.P.add_list e e2 ?_ (by rw[gw,gw];omega);have ea:its.toArray++its2.toArray=(its++its2).toArray:=by simp
 rw[ea];exact⟨.ref _,_,I.lnew (t':=s.toks) (r.append r2) (by rw[oO];omega),rfl,q _ I.fresh⟩
inductive rRep(x:V)(y:V)(H:Hp)(Q:VK):Prop
 |mk(l k xs)(_:x=.ref l)(_:y=.int k)(_:H l=some (.lst xs))(_:-(2^63)<=k)(_:k<2^63)(_:xs.length*k.toNat<=sizeLine)(_:∀p,H p=none->Q (.ref p) (upd H p (.lst (al k.toNat xs).flatten)))
theorem len_rep{α:Type}(xs:List α)(k):(al k xs).flatten.length=k*xs.length:=by
 induction k with
 |zero=>simp
 |succ k ih=>rw[J6,TF,oO,ih,wgt,Nat.add_comm]
theorem op_rep:OpR X (cA .Mult) rRep:=by
 intro aa s σ H x y v u Q I rx ry h;obtain⟨l,k,xs,rfl,rfl,hH,h1,h2,hz,q⟩:=h;cases rx;obtain⟨t,rfl⟩:=ry;obtain⟨z,its,n,r,hl,e⟩:=I.lstM hH;have ad:its.toArray.size*k.toNat<=sizeLine:=by rw[gw,<-hl];exact hz
 have hcap:¬its.toArray.size*k.toNat>(2^63-1)/8:=by
  have:(sizeLine:Nat)<=(2^63-1)/8:=by decide
  omega
 have hfit:¬(!Builtin.List.listFitsIndex k)=true:=by
  rw[fitsIndex_both h1 h2];exact nG
 have hlong:¬du (its.toArray.size*k.toNat)=true:=by
  rw[notLongL ad];exact nG
 have hnew:eS (λx1 x2=>x1++x2) #[] (al (if its.toArray.isEmpty=true then 0 else k.toNat) its.toArray)=(al k.toNat its).flatten.toArray:=by
  have f0:∀m:Nat,eS (λx1 x2=>x1++x2) #[] (al m its.toArray)=(al m its).flatten.toArray:=λm=>by
   have:=foldl_rep its m [];rw[List.nil_append]at this;exact this
  rw[f0];cases its with
  |nil=>simp
  |cons a r'=>rw[ao (by simp)]
 refine kn (T:="list") (U:="int") (by decide) ⟨_,e,rfl⟩ (λs'=>wgf s' k t) noFill_list_mul F.fills_int_mul wdz repeat_list F.slot_int_index.lookup
  (TV wdz (wgf s k t) F.entry_int_rmul (F.args_int_rmul_2 _ _) (int___rmul___int_list k t l its.toArray n)
   ⟨e,rfl,⟨_,e,rfl⟩,TV F.slot_list_mul ⟨_,e,rfl⟩ F.entry_list_mul (F.args_list_mul_2 _ _) (AutoListH.list___mul___list_int_3 l its.toArray n k t hfit hcap hlong) ⟨e,?_⟩⟩)
 rw[hnew];exact⟨.ref _,_,I.lnew (t':=s.toks) (r.rep k.toNat) (by rw[len_rep,HF];exact hz),rfl,q _ I.fresh⟩
end
end L2
namespace Att
open PySem PySem.W PySem.Calls PyProof.Rows
theorem ints_of_wellAll:∀(ns:ζ) (vs:List ρ),WellAll P h vs (ns.map WData.int)->dc vs ns:=by
 intro ns
 induction ns with
 |nil=>
  intro vs w;rw[yfm]at w;cases w;exact .nil
 |cons n ns ih=>
  intro vs w;rw[iQ]at w;cases w with
  |cons a b=>
   cases a;exact .cons _ _ (ih _ b)
theorem script_of{l:gX}(hn:l.most=some n)(hpre:l.row.toRowW.claim.pre args=true)(hwl:WellAll P h vals args):
  ∃a vs ns,vals=[aC a]/\args=[WData.list (ns.map WData.int)]/\h.get? a=some {cls:=.type "list",data:=.seq vs.toArray}/\dc vs ns/\ns.length<=n:=by
 have hsh:WShape.hasAll [] args [.list .int]=true:=(pre_splitW hpre).1;have hc:l.pre.holds [] {args:=args}=true:=(pre_splitW hpre).2;obtain⟨d,r,rfl,h1,h2⟩:=hasAllW_cons hsh;obtain rfl:=hasAllW_nil h2;obtain⟨xs,rfl,h3⟩:=hasW_list h1;obtain⟨ns,rfl⟩:=items_int h3;have ad:ns.length<=n:=by
  unfold OpenLaw.pre at hc;have h4:(WTm.not (.lt (.lit (.int (n:Int))) (.len (.arg 0)))).holds [] {args:=[.list (ns.map .int)]}=true:=by
   have h4:=(holds_andW hc).1;rw[hn]at h4;exact h4
  have h5:=condW_of h4 (w_not (w_lt w_lit (w_len_list (w_arg rfl))));rw[aF]at h5;refine Nat.le_of_not_lt λq=>?_;have q':(n:Int)<((ns.length:Nat):Int):=by omega
  first
   |(rw[bY q']at h5;exact absurd h5 (by decide))
   |(simp at h5;omega)
 cases hwl with
 |cons w1 w2=>
  cases w2;cases w1 with
  |list ho hall=>exact⟨_,_,ns,rfl,rfl,ho,ints_of_wellAll ns _ hall,ad⟩
theorem post_true(l:gX)(args):l.row.toRowW.claim.post args (.bool true) args=true:=
 postW_of (r:=l.row.toRowW) (X:=(true==true))
  (show WShape.has [] (.bool true) .bool=true by first |rfl|decide|simp[WShape.has,WShape.arms,WShape.armsAll])
  (show(WTm.eq .res (.lit (.bool true))).value [] {args:=args,res:=some (.bool true),after:=args}=some (.bool (true==true))from w_eq_bool (w_res rfl) w_lit) rfl
theorem attach_call{l:gX}{n:Nat}{q:χ}{loose:List bg}{XP:(L5)->bv->Prop}{YP:ω->bv->Prop}{d:DefRec}(hn:l.most=some n)(hdf:d.params.defaults=[])(call:∀(w:ω) (s₀ s₁:τ) (mg mb:L5) (fa:af) (o:kE) (pm cd doc:ρ) (a:af) (vs:List ρ) (ns:ζ),
   Ground q loose [] XP w s₀ mg mb s₁.heap->YP w s₁.heap->
   s₁.heap.get? fa=some o->o.data=.func (docDef d.name d.params d.body d.scope pm cd doc)->s₁.heap.CodeRec cd d.name->mg d.name=some (.ref fa)->
   s₁.heap.get? a=some {cls:=.type "list",data:=.seq vs.toArray}->dc vs ns->ns.length<=n->s₁.gens=#[]->
   eI (aw l.prog w) hZ (.call (.ref fa) ⟨[.ref a],[]⟩) (λr s'=>r=.ok (.ret (.bool true))/\OldK s₁.heap s'.heap/\s'.os=s₁.os/\fc s'.gens) s₁):
  WalkO q loose XP YP l.row.toRowW d [] (λf vs=>kL f vs):=by
 intro w s₀ s₁ mg mb G Y fa o pm cd doc dV kV ho hd hcd hD hmg hg args vals as hpre hlay hrd hwl hlo;obtain rfl:dV=.none:=Dflts.none hD hdf;obtain rfl:kV=.none:=Dflts.noKw hD;obtain⟨a,vs,ns,rfl,rfl,hobj,hints,ad⟩:=script_of hn hpre hwl;refine enter_call (wdg (call w s₀ s₁ mg mb fa o pm cd doc a vs ns G Y ho (fd_plain hd) hcd hmg hobj hints ad hg) λr s' hq=>?_);obtain⟨rfl,h2,h3,h4⟩:=hq;exact⟨.inl ⟨.bool true,.bool true,[],rfl,λ_=>rfl,.bool true,post_true l _,λ_=>⟨ez,λ_ hm=>(nomatch hm)⟩⟩,h2,h3,h4⟩
end Att
namespace L2
open PySem PySem.Spec PyProof.Rows
theorem vals_ints:∀{vs:List ρ}{ns:ζ},dc vs ns->Vals (ns.map V.int) vs
 |_,_,.nil=>.nil
 |_,_,.cons n t h=>.cons ⟨t,rfl⟩ (vals_ints h)
noncomputable def inClass(s:eW)(j:Nat):Stmt:=match s with
 | .ClassDef _ _ _ body _ _ _ _ _ _ _=>body.getD j (.Pass ⟨0,0,0,0⟩)
 |_=>.Pass ⟨0,0,0,0⟩
noncomputable def defArgs(s:eW):Arguments:=match s with
 | .FunctionDef _ a _ _ _ _ _ _ _ _=>a
 |_=>{posonlyargs:=[],args:=[],vararg:=none,kwonlyargs:=[],kw_defaults:=[],kwarg:=none,defaults:=[]}
noncomputable def defBody(s:eW):List Stmt:=match s with
 | .FunctionDef _ _ b _ _ _ _ _ _ _=>b
 |_=>[]
noncomputable def defScope(s:eW):Scope:=match s with
 | .FunctionDef _ _ _ _ _ _ sc _ _ _=>sc
 |_=>{kind:=.function,names:=[],isGenerator:=false,isCoroutine:=false}
noncomputable abbrev CX0:CXT:=λ_ _ _ _ _ _=>False
noncomputable abbrev E0:XK:=λ_ _ _=>False
theorem pass0:Passes CX0 X E0:=λ_ _ _ _ _ _ _ h=>h.elim
structure Fun(K:ag)(x qual:bg)(st:eW)(f:af)(fd:ψ):Prop where
 ex:∃(oc:ρ) (od:Option af) (kV doc pm:ρ) (an:Option af) (cdv ct:ρ) (osl:Array (Option ρ)),
  fd=eM x qual (defArgs st) (defBody st) (defScope st) .none kV doc pm an cdv ct/\K.lookup f=some ⟨oc,od,.func fd,osl⟩/\fP K cdv qual=true
 kp:dr K (.ref f)=true
section
variable{P:χ}{w:ω}{K:ag}{mg:L5}{base:bv}
theorem Fun.ok{x qual:bg}{st:eW}{f:af}{fd:ψ}{N ps:List bg}{k:Nat}{sp:Sp}(F:Fun K x qual st f fd)(S:FnScope N ps (defScope st))(len:∀vs H Q E,sp vs H Q E->vs.length=ps.length)(hbody:∀(cdv:ρ) (A:bp) (outer:List kF) (s:τ) (H:Hp) (vs:List V) (Q:VK) (E:XK),Room k (A.deeper (envOfC qual (defScope st) s.heap.objs.size f cdv))->sp vs H Q E->
   ∃t,PSs (cxOf CX0 P w K mg base N qual (defScope st) f cdv A outer s H E).nox (defBody st) t/\t {nx:=λ_ H'=>Q .non H',rt:=Q} (start N vs) H):FnOk P w K mg base CX0 (k+1) f fd ps sp:=by
 obtain⟨oc,od,kV,doc,pm,an,cdv,ct,osl,rfl,lk,hcd⟩:=F.ex;refine fn_of lk hcd S len λA outer s H vs Q E hr hsp=>?_;obtain⟨t,h,q⟩:=hbody cdv A outer s H vs Q E hr hsp;exact⟨t,h.nox,q⟩
theorem Fun.binds{st:eW}(F:Fun K x qual st f fd)(h:∀(kV doc pm:ρ) (an:Option af) (cdv ct:ρ) (us:List ρ),us.length=ps.length->gf (eM x qual (defArgs st) (defBody st) (defScope st) .none kV doc pm an cdv ct) ⟨us,[]⟩=pure (ps.zip us)):Binds K fd ps []:=by
 obtain⟨oc,od,kV,doc,pm,an,cdv,ct,osl,rfl,lk,hcd⟩:=F.ex;exact .all (h kV doc pm an cdv ct)
theorem fun_mk{st:eW}{kV doc pm cdv ct:ρ}(l:K.lookup f=some ⟨oc,od,.func (eM x qual (defArgs st) (defBody st) (defScope st) .none kV doc pm an cdv ct),osl⟩)(c:fP K cdv qual=true)(k:dr K (.ref f)=true):Fun K x qual st f (eM x qual (defArgs st) (defBody st) (defScope st) .none kV doc pm an cdv ct):=⟨⟨oc,od,kV,doc,pm,an,cdv,ct,osl,rfl,l,c⟩,k⟩
end
theorem hu_of(hr:Room k A):A.units+1<cLine:=HW (yff (by decide:1<=64) _) hr.units
theorem small1000(h:n<=1000):n<sizeLine:=HW h (by decide)
section
variable{X:Cx}
theorem pv(i:Nat){x:bg}{pos:eR}(hN:X.N[i]? =some x:=by rfl)(hv:Vis X.env.scope x:=by first |exact gV rfl|exact ki (gV rfl)|exact ki (ki rfl))(hd:(x==("__debug__":bg))=false:=by decide)(hcd:(x==("__classdict__":bg))=false:=by decide):PE X (.Name x pos) (tVar i):=pe_var hN hv hd hcd
end
theorem iteF{A B:Prop}(h:B):if false=true then A else B:=by
 rw[ao nG];exact h
theorem iteT{A B:Prop}(h:A):if true=true then A else B:=by
 rw[au rfl];exact h
theorem ite2{c A B:Prop} [Decidable c](h1:c->A)(h2:¬c->B):if c then A else B:=by
 by_cases h:c
 ·rw[au h];exact h1 h
 ·rw[ao h];exact h2 h
noncomputable def Same(H H':Hp):Prop:=∀b o,H b=some o->H' b=some o
theorem Same.refl(H):Same H H:=λ_ _ h=>h
theorem Same.trans(a:Same H H1)(b:Same H1 H2):Same H H2:=λc o h=>b c o (a c o h)
theorem Same.free(e:Same H H')(h:H' l=Option.none):H l=Option.none:=by
 cases q:H l with
 |none=>rfl
 |some o=>
  rw[e l o q]at h;cases h
theorem Same.seq{K:ag}(e:Same H H')(h:SqL K H a xs):SqL K H' a xs:=by
 rcases h with(h|⟨o,h⟩)|h
 ·exact .inl (.inl (e _ _ h))
 ·exact .inl (.inr ⟨o,e _ _ h⟩)
 ·exact .inr h
end L2
set_option maxHeartbeats 4000000
namespace L2
open PySem PySem.Spec PyProof.Rows
noncomputable def fB(cells:List (bg×af)):List (bg×cB)->List (bg×af)->List (bg×af)
 |[],acc=>acc
 |p::r,acc=>fB cells r (if(p.2==av)=true then(p.1,(cells.lookup p.1).getD 0)::acc else acc)
theorem lA:∀{names:List (bg×cB)}{acc:List (bg×af)}{x:bg}{c:af},(x,c)∈fB cells names acc->(x,c)∈acc\/c=(cells.lookup x).getD 0/\(x,av)∈names
 |[],_,_,_,h=>.inl h
 |(n,k)::r,acc,x,c,h=>by
  rcases lA (names:=r) h with q|⟨q,m⟩
  ·dsimp only at q;split at q
   ·rename_i hk;rcases cX.mp q with e|e
    ·cases e;have:k=NameKind.free:=by simpa using hk
     subst this;exact .inr ⟨rfl,cC⟩
    ·exact .inl e
   ·exact .inl q
  ·exact .inr ⟨q,cY _ m⟩
theorem Dm:∀{names:List (bg×cB)}{acc:List (bg×af)}{p:bg×af},p∈acc->p∈fB cells names acc
 |[],_,_,h=>h
 |(n,k)::r,acc,p,h=>by
  refine Dm (names:=r) ?_;split
  ·exact cY _ h
  ·exact h
theorem vR:∀{names:List (bg×cB)}{acc:List (bg×af)}{x:bg},(x,av)∈names->∃c,(x,c)∈fB cells names acc
 |(n,k)::r,acc,x,h=>by
  rcases cX.mp h with e|e
  ·cases e;refine⟨(cells.lookup n).getD 0,Dm (names:=r) ?_⟩;rw[au (show(av==av)=true from rfl)];exact cC
  ·exact vR (names:=r) e
theorem zbh{β:Type}:∀{l:List (bg×β)}{x:bg}{c:β},(x,c)∈l->∃d,l.lookup x=some d/\(x,d)∈l
 |(n,k)::r,x,c,h=>by
  cases hx:x==n with
  |true=>
   have e:x=n:=by simpa using hx
   subst e;exact⟨k,by simp[J0],cC⟩
  |false=>
   rcases cX.mp h with e|e
   ·cases e;simp at hx
   ·obtain⟨d,h1,h2⟩:=zbh e;exact⟨d,by simp only[J0,hx];exact h1,cY _ h2⟩
noncomputable def eX(sc scope:dC):Bool:=scope.names.all λp=>(p.2 !=be)&&(p.2 !=NameKind.local||scope.names.lookup p.1==some NameKind.local)&&
 (p.2 !=av||sc.names.lookup p.1==some be||sc.names.lookup p.1==some av)
section
variable{sc scope:dC}
theorem eX.cell(h:eX sc scope=true):∀y∈scope.names,y.2≠.cell:=λy hy e=>by
 have q:=iW.mp h y hy;simp[e]at q
theorem eX.free(h:eX sc scope=true)(hy:(x,av)∈scope.names):sc.names.lookup x=some .cell\/sc.names.lookup x=some .free:=by
 have q:=iW.mp h _ hy;simpa using q
end
theorem oh(h:∀x,(x,av)∈scope.names->∃c,env.cells.lookup x=some c):closureFor scope env=pure (fB env.cells scope.names []):=by
 have key:∀(names:List (bg×cB)) (acc:List (bg×af)),(∀x,(x,av)∈names->∃c,env.cells.lookup x=some c)->
   (forIn names acc λ(x:bg×cB) (cs:List (bg×af))=>if(x.2==av)=true then(do let y<-cellOf env x.1;pure (fh ((x.1,y)::cs)))else pure (fh cs):Sem (List (bg×af)))=pure (fB env.cells names acc):=by
  intro names
  induction names with
  |nil=>intro acc _;rfl
  |cons p r ih=>
   intro acc hh;obtain⟨n,k⟩:=p;rw[List.forIn_cons];dsimp only;by_cases hk:(k==av)=true
   ·have e:k=NameKind.free:=by simpa using hk
    subst e;obtain⟨c,hc⟩:=hh n cC;rw[au hk];unfold cellOf;rw[hc];simp only[pure_bind];refine Eq.trans (ih _ λx hx=>hh x (cY _ hx)) ?_;show _=pure (fB env.cells r (if(av==av)=true then(n,(env.cells.lookup n).getD 0)::acc else acc));rw[au hk,hc];rfl
   ·rw[ao hk];simp only[pure_bind];refine Eq.trans (ih _ λx hx=>hh x (cY _ hx)) ?_;show _=pure (fB env.cells r (if(k==av)=true then(n,(env.cells.lookup n).getD 0)::acc else acc));rw[ao hk]
 have q:=key scope.names [] h;unfold closureFor;simp only[bind_pure];exact q
theorem nW{env:kF}:∀{names:List (bg×cB)}{x:bg}{k:cB},names.lookup x=some k->
  (names.map λ(n,k)=>if(k==av&&env.scope.kind==.function&&env.kindOf n==some .cell)then(n,be)else(n,k)).lookup x=some (if(k==av&&env.scope.kind==.function&&env.kindOf x==some .cell)=true then .cell else k)
 |[],_,_,h=>by simp at h
 |(n,k)::r,x,k',h=>by
  have ih:= @nW env r x k';show dy x ((if(k==av&&env.scope.kind==.function&&env.kindOf n==some .cell)=true then(n,be)else(n,k))::_)=_;cases hx:x==n with
  |true=>
   have e:x=n:=by simpa using hx
   subst e;simp only[J0,hx]at h;cases h;by_cases hc:(k==av&&env.scope.kind==.function&&env.kindOf x==some .cell)=true
   ·rw[au hc,au hc];simp[J0]
   ·rw[ao hc,ao hc];simp[J0]
  |false=>
   simp only[J0,hx]at h;by_cases hc:(k==av&&env.scope.kind==.function&&env.kindOf n==some .cell)=true
   ·rw[au hc];simp only[J0,hx];exact ih h
   ·rw[ao hc];simp only[J0,hx];exact ih h
theorem uT{env:kF}:∀{names:List (bg×cB)}{x:bg},names.lookup x=none->
  (names.map λ(n,k)=>if(k==av&&env.scope.kind==.function&&env.kindOf n==some .cell)then(n,be)else(n,k)).lookup x=none
 |[],_,_=>rfl
 |(n,k)::r,x,h=>by
  have ih:= @uT env r x;show dy x ((if(k==av&&env.scope.kind==.function&&env.kindOf n==some .cell)=true then(n,be)else(n,k))::_)=_;cases hx:x==n with
  |true=>simp only[J0,hx]at h;cases h
  |false=>
   simp only[J0,hx]at h;by_cases hc:(k==av&&env.scope.kind==.function&&env.kindOf n==some .cell)=true
   ·rw[au hc];simp only[J0,hx];exact ih h
   ·rw[ao hc];simp only[J0,hx];exact ih h
theorem Fp(h:scope.names.lookup x=some .free):(fw scope env).names.lookup x=some .cell\/(fw scope env).names.lookup x=some .free:=by
 have q:=nW (env:=env) h;by_cases hc:((av==av)&&env.scope.kind==.function&&env.kindOf x==some .cell)=true
 ·rw[au hc]at q;exact .inl q
 ·rw[ao hc]at q;exact .inr q
inductive g8(X:Cx)(scope:dC):List bg->List Nat->Prop
 |nil:g8 X scope [] []
 |cons {x:bg}{j:Nat}{xs:List bg}{js:List Nat} (hN:X.N[j]? =some x) (hf:scope.names.lookup x=some .free) (t:g8 X scope xs js):g8 X scope (x::xs) (j::js)
theorem g8.get:∀{xs:List bg}{js:List Nat}{k:Nat}{x:bg},g8 X scope xs js->xs[k]? =some x->∃j,js[k]? =some j/\X.N[j]? =some x/\scope.names.lookup x=some .free
 |_,_,k,x,.nil,h=>by simp at h
 |_,_,0,x,.cons h1 h2 _,h=>by simp at h;subst h;exact⟨_,rfl,h1,h2⟩
 |_,_,k+1,x,.cons _ _ t,h=>by
  obtain⟨j,a,b⟩:=g8.get (k:=k) t (by simpa using h);exact⟨j,by simpa using a,b⟩
theorem g8.len:∀{xs:List bg}{js:List Nat},g8 X scope xs js->xs.length=js.length
 |_,_,.nil=>rfl
 |_,_,.cons _ _ t=>by simp[g8.len t]
noncomputable def Cw(own:List bg)(ix:List Nat)(σ:St):St:=own.map (λ_=>none)++ix.map λj=>(σ[j]?).join
noncomputable def Xi(X:Cx)(ifs:List br)(t:TT):Prop:=
 ∀(aa:L3) (s:τ) (σ:St) (H:Hp) (Q:Bool->Hp->Prop),Inv X aa σ H s->t σ H Q->
  ah (aw X.prog X.w) X.A (forIn ifs true λc r=>if r=true then do let ok<-md c X.env (cx c X.env);pure (fh ok)else pure (fh r)) (TP X aa σ Q) X.xe s
theorem m9:Xi X [] (λ_ H Q=>Q true H):=λ_ _ _ H _ I h=>wpAny_tests_nil ⟨H,I,h⟩
theorem JR(h:PT X c t):Xi X [c] t:=λaa s σ H Q I hq=>wpAny_tests_one (h aa s σ H Q I hq)
theorem HOk.add(x:HOk P w H h)(hn:H a=none)(new:ObjOk P w (upd H a o) h a o):HOk P w (upd H a o) h:=λb u e=>by
 by_cases hb:b=a
 ·subst hb;rw[aH]at e;cases e;exact new
 ·rw[cW hb]at e;exact(x b u e).stay (λc v _ q=>q) (λc q=>by rw[cW (jr q hn)];exact q) λc xs q=>by rw[cW (jr q hn)];exact q
theorem Un.add{fs ex:η}{H H':Hp}{h h':bv}{a:af}{o:HO}(u:Un fs ex H H' h h')(ha:h.objs.size<=a)(hn:H' a=none):Un fs ex H (upd H' a o) h h' where
 keep:=u.keep
 slot:=u.slot
 free:=λb ob q n hx=>by rw[cW (gP (jo (eO q) ha))];exact u.free b ob q n hx
 there:=u.there
 tups:=λb xs q=>by have:=u.tups b xs q;rw[cW (jr this hn)];exact this
 frzs:=λb ob xs q=>by have:=u.frzs b ob xs q;rw[cW (jr this hn)];exact this
 tbls:=λb ps q=>by obtain⟨m,e⟩:=u.tbls b ps q;exact⟨m,by rw[cW (jr e hn)];exact e⟩
noncomputable def DY(J:It)(ini:St)(H:Hp)(g:TG)(tc:TT)(te:TE)(Fin:List V->Hp->Prop):Prop:=
 ∃W:Nat->Nat->List V->St->Hp->Prop,(∃m,W 0 m [] ini H)/\∀i m acc σ H,W i m acc σ H->
  (J.stop i H/\acc.length<=sizeLine/\Fin acc H)\/(J.go i H/\acc.length<sizeLine/\∃N:List V->St->Hp->Prop,(∀acc' σ' H',N acc' σ' H'->∃m',m'<m/\W (i+1) m' acc' σ' H')/\∀x H',J.yld i H x H'->g x σ H' λσ2 H2=>tc σ2 H2 λb H3=>
   if b=true then te σ2 H3 λv H4=>N (acc++[v]) σ2 H4 else N acc σ2 H3)
noncomputable def Ie(wi:TI)(own:List bg)(ix:List Nat)(g:TG)(tc:TT)(te:TE):TE:=λσ H Q=>wi σ H λJ H1=>
 DY J (Cw own ix σ) H1 g tc te λacc H'=>∀p,H' p=none->Q (.ref p) (upd H' p (.lst acc))
section
variable{K:ag}{a:af}{xs:List V}{g:TG}{tc:TT}{te:TE}{Fin:List V->Hp->Prop}{ini:St}{H:Hp}
theorem Eb(Pv:Nat->List V->St->Hp->Prop)(h0:Pv 0 [] ini H)(hl:∀(i:Nat) acc σ H,i<=xs.length->Pv i acc σ H->SqL K H a xs)(hz:∀(i:Nat) acc σ H,i<=xs.length->Pv i acc σ H->acc.length<=i)(hx:xs.length<=sizeLine)(hs:∀(i:Nat) x acc σ H,xs[i]? =some x->Pv i acc σ H->g x σ H λσ2 H2=>tc σ2 H2 λb H3=>if b=true then te σ2 H3 λv H4=>Pv (i+1) (acc++[v]) σ2 H4 else Pv (i+1) acc σ2 H3)(hd:∀acc σ H,Pv xs.length acc σ H->Fin acc H):DY (Itl K a) ini H g tc te Fin:=by
 refine⟨λi m acc σ H=>m=xs.length-i/\i<=xs.length/\Pv i acc σ H,⟨xs.length,by simp,dX _,h0⟩,?_⟩;rintro i m acc σ H ⟨rfl,hi,p⟩;have q:=hl i acc σ H hi p;have z:=hz i acc σ H hi p;by_cases hlt:i<xs.length
 ·refine .inr ⟨⟨xs,xs[i],q,by simp[hlt]⟩,by omega,λacc σ H=>Pv (i+1) acc σ H,λacc' σ' H' r=>⟨_,by omega,rfl,hlt,r⟩,λx H' y=>?_⟩;obtain⟨e,y⟩:=y;subst e;exact hs i x acc σ _ (y xs q) p
 ·have e:i=xs.length:=by omega
  subst e;exact .inl ⟨⟨xs,q,aQ _⟩,by omega,hd acc σ H p⟩
theorem M7(Pv:Nat->List V->St->Hp->Prop)(h0:Pv 0 [] ini H)(hl:∀(i:Nat) acc σ H,i<=xs.length->Pv i acc σ H->SqT K H a xs)(hz:∀(i:Nat) acc σ H,i<=xs.length->Pv i acc σ H->acc.length<=i)(hx:xs.length<=sizeLine)(hs:∀(i:Nat) x acc σ H,xs[i]? =some x->Pv i acc σ H->g x σ H λσ2 H2=>tc σ2 H2 λb H3=>if b=true then te σ2 H3 λv H4=>Pv (i+1) (acc++[v]) σ2 H4 else Pv (i+1) acc σ2 H3)(hd:∀acc σ H,Pv xs.length acc σ H->Fin acc H):DY (Itt K a) ini H g tc te Fin:=by
 refine⟨λi m acc σ H=>m=xs.length-i/\i<=xs.length/\Pv i acc σ H,⟨xs.length,by simp,dX _,h0⟩,?_⟩;rintro i m acc σ H ⟨rfl,hi,p⟩;have q:=hl i acc σ H hi p;have z:=hz i acc σ H hi p;by_cases hlt:i<xs.length
 ·refine .inr ⟨⟨xs,xs[i],q,by simp[hlt]⟩,by omega,λacc σ H=>Pv (i+1) acc σ H,λacc' σ' H' r=>⟨_,by omega,rfl,hlt,r⟩,λx H' y=>?_⟩;obtain⟨e,y⟩:=y;subst e;exact hs i x acc σ _ (y xs q) p
 ·have e:i=xs.length:=by omega
  subst e;exact .inl ⟨⟨xs,q,aQ _⟩,by omega,hd acc σ H p⟩
theorem Mt{lo:Int}(Pv:Nat->List V->St->Hp->Prop)(h0:Pv 0 [] ini H)(hz:∀(i:Nat) acc σ H,i<=n->Pv i acc σ H->acc.length<=i)(hx:n<=sizeLine)(hs:∀(i:Nat) acc σ H,i<n->Pv i acc σ H->g (.int (lo+i)) σ H λσ2 H2=>tc σ2 H2 λb H3=>if b=true then te σ2 H3 λv H4=>Pv (i+1) (acc++[v]) σ2 H4 else Pv (i+1) acc σ2 H3)(hd:∀acc σ H,Pv n acc σ H->Fin acc H):DY (Itr lo n) ini H g tc te Fin:=by
 refine⟨λi m acc σ H=>m=n-i/\i<=n/\Pv i acc σ H,⟨n,by simp,dX _,h0⟩,?_⟩;rintro i m acc σ H ⟨rfl,hi,p⟩;have z:=hz i acc σ H hi p;by_cases hlt:i<n
 ·refine .inr ⟨hlt,by omega,λacc σ H=>Pv (i+1) acc σ H,λacc' σ' H' r=>⟨_,by omega,rfl,hlt,r⟩,λx H' y=>?_⟩;obtain⟨e,y⟩:=y;subst e y;exact hs i acc σ _ hlt p
 ·have e:i=n:=by omega
  subst e;exact .inl ⟨aQ _,by omega,hd acc σ H p⟩
end
end L2
namespace vW
open PySem PySem.W PyProof.Rows
section
variable{O:mw}{key:Nat->O.α}{N:Nat}{cmp:Nat->Nat->(Bool->τ->Prop)->τ->Prop}{s:τ}
noncomputable def m8(O:mw)(key:Nat->O.α)(N:Nat)(cmp:Nat->Nat->(Bool->τ->Prop)->τ->Prop)(s:τ):Prop:=
 ∀i j (C:Bool->τ->Prop),i<N->j<N->C (O.blt (key i) (key j)) s->cmp i j C s
noncomputable def KN(key:Nat->O.α)(p:ξ)(i:Nat):O.α:=key (p.getD i 0)
noncomputable def So(key:Nat->O.α)(p:ξ)(k:Nat):Prop:=∀i j,i<=j->j<k->O.kle (KN key p i) (KN key p j)
noncomputable def Ni(key:Nat->O.α)(p:ξ)(k:Nat):Prop:=∀i j,i<=j->j<k->O.kle (KN key p j) (KN key p i)
structure Ord(N:Nat)(p:ξ):Prop where
 perm:p.Perm (bn (ai N))
theorem Ord.size(h:Ord N p):p.size=N:=by have:=h.perm.size_eq;simpa using this
theorem Ord.lt(h:Ord N p)(hi:i<N):p.getD i 0<N:=by
 have hi':i<p.size:=by rw[h.size];exact hi
 have e:p.getD i 0=p[i]:=by simp[Array.getD,hi']
 rw[e];have m:p[i]∈p.toList:=by simp
 have:=(yex.mp h.perm).mem_iff.mp m;simpa using this
theorem Ord.rev(h:Ord N p)(i j):Ord N (iN p i j):=⟨(mirror_perm _ _ _ _).trans h.perm⟩
theorem Ord.bub(h:Ord N p)(i j):Ord N (mE p i j):=⟨(bubble_perm _ _ _).trans h.perm⟩
theorem vM(p:ξ)(i):p.getD i 0=(p[i]?).getD 0:=by simp
theorem Ho(hj:j<=p.size)(k):KN key (iN p i j) k=if i<=k/\k<j then KN key p (i+j-1-k)else KN key p k:=by
 have e:=getElem?_mirror_all (i:=i) hj k;unfold KN iN;rw[vM,e];split
 ·rw[vM]
 ·rw[vM]
theorem zcz(hj:j<=p.size)(heq:∀k,i<=k->k<j->KN key p k=KN key p (j-1))(k):KN key (iN p i j) k=KN key p k:=by
 rw[Ho hj];split
 ·rename_i h;rw[heq k h.1 h.2,heq _ (by omega) (by omega)]
 ·rfl
theorem R6(hs:src<p.size)(hd:d<=src)(k):KN key (mE p src d) k=if k=src-d then KN key p src else if src-d<k/\k<=src then KN key p (k-1)else KN key p k:=by
 have e:=getElem?_bubble hs d hd k;have q:KN key (mE p src d) k=key (((mE p src d)[k]?).getD 0):=gR key (vM _ _);have q2:∀i,KN key p i=key ((p[i]?).getD 0):=λi=>gR key (vM _ _);rw[q,e,q2,q2,q2];by_cases h1:k=src-d
 ·rw[au h1,au h1]
 ·rw[ao h1,ao h1];by_cases h2:src-d<k/\k<=src
  ·rw[au h2,au h2]
  ·rw[ao h2,ao h2]
theorem Jj(h:i<=j)(hn:¬i=j):i<=j-1:=yfa (SQ h hn)
theorem Gy(h:j<n+1)(hn:¬j<n):j=n:=Xu (Wi h) (Nat.not_lt.mp hn)
theorem kj(h:1<=x)(hk:x<=k):x-1<k:=ydx h hk
theorem Gg(h:x+(f+1)<=N):x<N:=jo (Nat.lt_add_of_pos_right (Am f)) h
theorem qG(h:x+(f+1)<=N):x+1+f<=N:=bR (HJ (yeb x f)) h
theorem WK(h:m<=x+1+f):m<=x+(f+1):=bR h (HJ (yeb x f))
theorem Yk(h:i<=j):0+n-1-j<=0+n-1-i:=Nat.sub_le_sub_left h _
theorem Yj(h:i<n):0+n-1-i<n:=by
 rw[wfw];exact HW (wgr _ _) (ydx (HW (dX _) h) (aQ _))
theorem asc(ok:m8 O key N cmp s)(hp:Ord N p){Q:Nat->τ->Prop}:∀(f n:Nat),1<=n->n+f<=N->So key p n->(∀m,n<=m->m<=n+f->So key p m->(m=n+f\/O.klt (KN key p m) (KN key p (m-1)))->Q m s)->(kas_asc p f n).kasWp cmp Q s
 |0,n,_,_,hs,h=>h n (aQ _) (aQ _) hs (.inl rfl)
 |f+1,n,h1,hn,hs,h=>by
  have Zb:n<N:=Gg hn;refine ok _ _ _ (hp.lt Zb) (hp.lt (kj h1 (dN Zb))) ?_;cases hless:O.blt (key (p.getD n 0)) (key (p.getD (n-1) 0))with
  |true=>
   show Q n s;exact h n (aQ _) (yfd _ _) hs (.inr hless)
  |false=>
   show(kas_asc p f (n+1)).kasWp cmp Q s;refine asc ok hp f (n+1) (Am _) (qG hn) (λi j hij hj=>?_) λm a b c d=>h m (wer a) (WK b) c (d.imp (λz=>z.trans (yeb n f)) id);by_cases hjn:j<n
   ·exact hs i j hij hjn
   ·have hj':j=n:=Gy hj hjn;subst hj';by_cases hi':i=j
    ·subst hi';exact T4 _
    ·exact wdl (hs i (j-1) (Jj hij hi') (kj h1 (aQ _))) hless
theorem tail3(ok:m8 O key N cmp s)(hp:Ord N p){Q:Nat×ξ->τ->Prop}(h1:1<=n)(hn:n<=N)(hs:Ni key p n)(h:∀m p',Ord N p'->1<=m->m<=N->So key p' m->Q (m,p') s):(kas_tail3 n N p).kasWp cmp Q s:=by
 unfold kas_tail3;rw[wcn];have hsz:n<=p.size:=by rw[hp.size];exact hn
 have hN:n+(N-n)=N:=wea hn;refine asc ok (hp.rev 0 n) (N-n) n h1 (HJ hN) (λi j hij hj=>?_) λm a b c _=>h m _ (hp.rev 0 n) (bR h1 a) (bR b (HJ hN)) c;rw[Ho hsz,Ho hsz,au ⟨dX _,HW hij hj⟩,au ⟨dX _,hj⟩];exact hs _ _ (Yk hij) (Yj (HW hij hj))
theorem RD(h1:1<=x)(hs:Ni key p x)(hless:O.kle (KN key p x) (KN key p (x-1)))(hk:∀k,KN key p' k=KN key p k):Ni key p' (x+1):=by
 intro i j hij hj;rw[hk,hk];by_cases hjx:j<x
 ·exact hs i j hij hjx
 ·have hj':j=x:=Gy hj hjx;subst hj';by_cases hi':i=j
  ·subst hi';exact T4 _
  ·exact wdl hless (hs i (j-1) (Jj hij hi') (kj h1 (aQ _)))
theorem one_eq(h1:x+1-(0+1)<=i)(h2:i<x+1):KN key p i=KN key p (x+1-1):=gR _ (Xu (Wi h2) h1)
theorem desc(ok:m8 O key N cmp s){Q:ξ×Nat×Nat->τ->Prop}:∀(f:Nat) (p:ξ) (x neq:Nat),Ord N p->1<=x->x+f<=N->Ni key p x->neq+1<=x->(∀i,x-(neq+1)<=i->i<x->KN key p i=KN key p (x-1))->
  (∀p' m q,Ord N p'->x<=m->m<=x+f->Ni key p' m->q+1<=m->(∀i,m-(q+1)<=i->i<m->KN key p' i=KN key p' (m-1))->Q (p',m,q) s)->(jn f p x neq).kasWp cmp Q s
 |0,p,x,neq,hp,_,_,hs,hq,he,h=>h p x neq hp (aQ _) (aQ _) hs hq he
 |f+1,p,x,neq,hp,h1,hn,hs,hq,he,h=>by
  have hxN:x<N:=Gg hn;have hsz:x<=p.size:=by rw[hp.size];exact dN hxN
  have hx1:x-1<N:=kj h1 (dN hxN);have hh:∀p' m q,Ord N p'->x+1<=m->m<=x+1+f->Ni key p' m->q+1<=m->(∀i,m-(q+1)<=i->i<m->KN key p' i=KN key p' (m-1))->Q (p',m,q) s:=λp' m q a b c d e g=>h p' m q a (wer b) (WK c) d e g;refine ok _ _ _ (hp.lt hxN) (hp.lt hx1) ?_;cases hless:O.blt (key (p.getD x 0)) (key (p.getD (x-1) 0))with
  |true=>
   show(if neq>0 then jn f (iN p (x-(neq+1)) x) (x+1) 0 else jn f p (x+1) 0).kasWp cmp Q s;by_cases hneq:neq>0
   ·rw[au hneq];exact desc ok f _ (x+1) 0 (hp.rev _ _) (Am _) (qG hn) (RD h1 hs (wch hless) (zcz hsz he)) (Am _) (λi h1 h2=>one_eq h1 h2) hh
   ·rw[ao hneq];exact desc ok f _ (x+1) 0 hp (Am _) (qG hn) (RD h1 hs (wch hless) λ_=>rfl) (Am _) (λi h1 h2=>one_eq h1 h2) hh
  |false=>
   show(KasT.ask (p.getD (x-1) 0) (p.getD x 0) λd=>if d=true then KasT.ret (p,x,neq)else jn f p (x+1) (neq+1)).kasWp cmp Q s;refine ok _ _ _ (hp.lt hx1) (hp.lt hxN) ?_;cases hl:O.blt (key (p.getD (x-1) 0)) (key (p.getD x 0))with
   |true=>exact h p x neq hp (aQ _) (yfd _ _) hs hq he
   |false=>
    show(jn f p (x+1) (neq+1)).kasWp cmp Q s;have heqx:KN key p x=KN key p (x-1):=jp hl hless;refine desc ok f _ (x+1) (neq+1) hp (Am _) (qG hn) (RD h1 hs (by rw[heqx];exact T4 _) λ_=>rfl) (Nat.succ_le_succ hq) (λi h1 h2=>?_) hh;show KN key p i=KN key p x;by_cases hix:i=x
    ·subst hix;rfl
    ·rw[heqx];exact he i (bR (HJ (Nat.succ_sub_succ x (neq+1)).symm) h1) (SQ (Wi h2) hix)
theorem descPart(ok:m8 O key N cmp s)(hp:Ord N p){Q:Nat×ξ->τ->Prop}(hn:n+1<=N)(hs:Ni key p (n+1))(h:∀m p',Ord N p'->1<=m->m<=N->So key p' m->Q (m,p') s):(mG n N p).kasWp cmp Q s:=by
 unfold mG;rw[wcn];have hN:n+1+(N-(n+1))<=N:=HJ (wea hn);refine desc ok _ _ _ _ hp (Am _) hN hs (Am _) (λi h1 h2=>one_eq h1 h2) λp' m q a b c d e g=>?_;have hm:m<=N:=bR c hN;have hm1:1<=m:=bR (Am _) b;have hsz:m<=p'.size:=by rw[a.size];exact hm
 dsimp only;by_cases hq:q>0
 ·rw[au hq];refine tail3 ok (a.rev _ _) hm1 hm (λi j hij hj=>?_) h;rw[zcz hsz g,zcz hsz g];exact d i j hij hj
 ·rw[ao hq];exact tail3 ok a hm1 hm d h
theorem count(ok:m8 O key N cmp s)(hp:Ord N p){Q:Nat×ξ->τ->Prop}(h1:1<=N)(h:∀m p',Ord N p'->1<=m->m<=N->So key p' m->Q (m,p') s):(kas_count N p).kasWp cmp Q s:=by
 unfold kas_count;rw[wcn];have hN:1+(N-1)=N:=wea h1;refine asc ok hp (N-1) 1 (aQ _) (HJ hN) (λi j hij hj=>by
  have hj0:j=0:=Nat.lt_one_iff.mp hj;subst hj0;have hi0:i=0:=Nat.le_zero.mp hij;subst hi0;exact T4 _) λn a b hsn hor=>?_
 have Zb:n<=N:=bR b (HJ hN);by_cases hnn:n=N
 ·rw[au (by simpa using hnn)];exact h n p hp a Zb hsn
 ·rw[ao (by simpa using hnn)];have hlt:O.klt (KN key p n) (KN key p (n-1)):=hor.resolve_left λz=>hnn (z.trans hN);have hln:n<N:=SQ Zb hnn;by_cases hgt:n>1
  ·rw[au hgt];have hn1:n-1<n:=kj a (aQ _);refine ok _ _ _ (hp.lt h1) (hp.lt (Tw hn1 hln)) ?_;cases hrose:O.blt (key (p.getD 0 0)) (key (p.getD (n-1) 0))with
   |true=>exact h n p hp a Zb hsn
   |false=>
    show(mG n N (iN p 0 n)).kasWp cmp Q s;have hsz:n<=p.size:=by rw[hp.size];exact Zb
    have hall:∀k,0<=k->k<n->KN key p k=KN key p (n-1):=λk _ hk=>
     jp (hsn k (n-1) (yfa hk) hn1) (wdl hrose (hsn 0 k (dX _) hk))
    refine descPart ok (hp.rev 0 n) hln (λi j hij hj=>?_) h;rw[zcz hsz hall,zcz hsz hall];by_cases hjn:j<n
    ·rw[hall i (dX _) (HW hij hjn),hall j (dX _) hjn];exact T4 _
    ·have hj':j=n:=Gy hj hjn;subst hj';by_cases hi':i=j
     ·subst hi';exact T4 _
     ·rw[hall i (dX _) (SQ hij hi')];exact wch hlt
  ·rw[ao hgt];have hn1':n=1:=Xu (Nat.not_lt.mp hgt) a;subst hn1';refine descPart ok hp hln (λi j hij hj=>?_) h;by_cases hi':i=j
   ·subst hi';exact T4 _
   ·have hij':i<j:=SQ hij hi';have hj1:j=1:=Xu (Wi hj) (HW (dX i) hij');subst hj1;have hi0:i=0:=Nat.lt_one_iff.mp hij';subst hi0;exact wch hlt
theorem half_lt(h:l<r):(l+r)/2<r:=by omega
theorem Vr(h:l<r):l<=(l+r)/2:=by omega
theorem place(ok:m8 O key N cmp s)(hp:Ord N p){Q:Nat->τ->Prop}(hk:k<N)(hs:So key p k):∀(f l r:Nat),l<=r->r<=k->r-l<=f->(∀i,i<l->O.kle (KN key p i) (KN key p k))->(∀i,r<=i->i<k->O.klt (KN key p k) (KN key p i))->
  (∀l,l<=k->(∀i,i<l->O.kle (KN key p i) (KN key p k))->(∀i,l<=i->i<k->O.klt (KN key p k) (KN key p i))->Q l s)->(ly p k f l r).kasWp cmp Q s
 |0,l,r,hlr,hrk,hm,hlo,hhi,h=>by
  have e:l=r:=Xu hlr (Nat.sub_eq_zero_iff_le.mp (Nat.le_zero.mp hm));subst e;exact h l hrk hlo hhi
 |f+1,l,r,hlr,hrk,hm,hlo,hhi,h=>by
  show(if l≥r then KasT.ret l else KasT.ask (p.getD k 0) (p.getD ((l+r)/2) 0) λc=>if c=true then ly p k f l ((l+r)/2)else ly p k f ((l+r)/2+1) r).kasWp cmp Q s;by_cases hge:l≥r
  ·rw[au hge];have e:l=r:=Xu hlr hge;subst e;exact h l hrk hlo hhi
  ·rw[ao hge];have hc:(l+r)/2<r:=half_lt (Nat.not_le.mp hge);have hd:l<=(l+r)/2:=Vr (Nat.not_le.mp hge);generalize (l+r)/2=c at hc hd⊢;refine ok _ _ _ (hp.lt hk) (hp.lt (Tw (jo hc hrk) hk)) ?_;cases hless:O.blt (key (p.getD k 0)) (key (p.getD c 0))with
   |true=>
    refine place ok hp hk hs f l c hd (dN (jo hc hrk)) (Wi (jo (Nat.sub_lt_sub_right hd hc) hm)) hlo (λi h1 h2=>?_) h;by_cases hi:i=c
    ·subst hi;exact hless
    ·exact KeyOrd.klt_of_klt_of_kle hless (hs c i h1 h2)
   |false=>
    refine place ok hp hk hs f (c+1) r hc hrk (Wi (jo (Nat.sub_lt_sub_left (HW hd hc) (Nat.lt_succ_of_le hd)) hm)) (λi h1=>?_) hhi h;by_cases hi:i=c
    ·subst hi;exact hless
    ·exact wdl (hs i c (Wi h1) (jo hc hrk)) hless
theorem aa5(hs:So key p k)(hl:l<=k)(hsz:k<p.size)(hlo:∀i,i<l->O.kle (KN key p i) (KN key p k))(hhi:∀i,l<=i->i<k->O.klt (KN key p k) (KN key p i)):So key (mE p k (k-l)) (k+1):=by
 intro i j hij hj;have e:k-(k-l)=l:=Nat.sub_sub_self hl;rw[R6 hsz (wgr _ _),R6 hsz (wgr _ _),e];have hjk:j<=k:=Wi hj;by_cases hi1:i=l
 ·rw[au hi1];by_cases hj1:j=l
  ·rw[au hj1];exact T4 _
  ·have lj:l<j:=SQ (hi1▸hij) (mQ hj1);rw[ao hj1,au ⟨lj,hjk⟩];exact wch (hhi (j-1) (yfa lj) (ydx (HW (dX _) lj) hjk))
 ·rw[ao hi1];by_cases hi2:l<i/\i<=k
  ·have lj:l<j:=jo hi2.1 hij;rw[au hi2,ao (mQ (gP lj)),au ⟨lj,hjk⟩];exact hs _ _ (Nat.sub_le_sub_right hij 1) (ydx (HW (dX _) lj) hjk)
  ·rw[ao hi2];have il:i<l:=SQ (Nat.not_lt.mp λz=>hi2 ⟨z,bR hij hjk⟩) hi1;by_cases hj1:j=l
   ·rw[au hj1];exact hlo i il
   ·rw[ao hj1];by_cases hj2:l<j/\j<=k
    ·rw[au hj2];exact hs _ _ (yfa (Tw il hj2.1)) (ydx (HW (dX _) hj2.1) hjk)
    ·rw[ao hj2];exact hs _ _ hij (jo (SQ (Nat.not_lt.mp λz=>hj2 ⟨z,hjk⟩) hj1) hl)
theorem bins(ok:m8 O key N cmp s){Q:ξ->τ->Prop}:∀(f:Nat) (p:ξ) (k:Nat),Ord N p->1<=k->k+f=N->So key p k->(∀p',Ord N p'->So key p' N->Q p' s)->(kas_bin f p k).kasWp cmp Q s
 |0,p,k,hp,_,hf,hs,h=>h p hp ((show k=N from hf)▸hs)
 |f+1,p,k,hp,h1,hf,hs,h=>by
  show((ly p k k 0 k).bind λl=>kas_bin f (mE p k (k-l)) (k+1)).kasWp cmp Q s;rw[wcn];have hk:k<N:=Gg (HJ hf);have hsz:k<p.size:=by rw[hp.size];exact hk
  refine place ok hp hk hs k 0 k (dX _) (aQ _) (wgr _ _) (λi hi=>absurd hi (Xr _)) (λi h1 h2=>absurd h2 (Nat.not_lt.mpr h1)) λl hl hlo hhi=>?_;exact bins ok f _ (k+1) (hp.bub _ _) (Am _) ((yeb k f).trans hf) (aa5 hs hl hsz hlo hhi) h
theorem sort(ok:m8 O key N cmp s){Q:ξ->τ->Prop}(h1:1<=N)(h:∀p',Ord N p'->So key p' N->Q p' s):(kas_sort N).kasWp cmp Q s:=by
 unfold kas_sort;rw[wcn];refine count ok ⟨Array.Perm.refl _⟩ h1 λm p' hp hm1 hm2 hs=>?_;dsimp only;by_cases hlt:m<N
 ·rw[au hlt];have e:max m 1=m:=by omega
  rw[e];exact bins ok _ _ _ hp hm1 (by omega) hs h
 ·rw[ao hlt];have e:m=N:=by omega
  subst e;exact h p' hp hs
end
end vW
namespace vW
open PySem PySem.W PyProof.Rows PySem.Calls
noncomputable def V8{O:mw}(key:Nat->O.α)(vs out:List ρ):Prop:=∃p:ξ,Ord vs.length p/\So key p vs.length/\out=p.toList.map λi=>vs.getD i bd
section
variable{prog:χ}{w:ω}{A:bp}{E:L4}{s:τ}{O:mw}{key:Nat->O.α}{κ:jI}{vs:List ρ}
theorem Ft(h2:vs.length<2):V8 key vs vs:=by
 refine⟨bn (ai vs.length),⟨Array.Perm.refl _⟩,λi j hij hj=>?_,?_⟩
 ·have e:i=j:=by omega
  subst e;exact T4 _
 ·match vs,h2 with
  |[],_=>rfl
  |[v],_=>rfl
  |_::_::_,h=>simp at h;omega
theorem mX{P:PySem.Fin->τ->Prop}(ho:s.heap.get? a=some (aI "list" vs.toArray n))(h64:vs.length<64)(hkind:2<=vs.length->∀h',(∀b o,b≠a->s.heap.get? b=some o->h'.get? b=some o)->∀Q:jI->τ->Prop,Q κ {s with heap:=h'}->ah (aw prog w) A (keyKind' vs.toArray) Q E {s with heap:=h'})(Zg:2<=vs.length->∀h',(∀b o,b≠a->s.heap.get? b=some o->h'.get? b=some o)->m8 O key vs.length (kas_ask prog w A κ vs) {s with heap:=h'})(h:∀h' out c,V8 key vs out->(∀b o,b≠a->s.heap.get? b=some o->h'.get? b=some o)->h'.get? a=some (aI "list" (bn out) c)->P (.done (.ret .none)) {s with heap:=h'}):
  ah (aw prog w) A (Builtin.«list.sort» ⟨[.ref a],[]⟩) P E s:=by
 have ha:a<s.heap.objs.size:=eO ho;have s1:=Ef s.heap a (ba λ_=>(#[]:Array ρ));obtain⟨e1,ho1⟩:∃e1,(s.heap.update a (ba λ_=>(#[]:Array ρ))).get? a=some (aI "list" #[] e1):=⟨_,T3 ho λ_=>#[]⟩;have keep:∀b o,b≠a->s.heap.get? b=some o->(((s.heap.update a (ba λ_=>(#[]:Array ρ))).push (aI "tuple" vs.toArray 0)).push (aI "list" #[] 0)).get? b=some o:=λb o hb e=>
  fG _ (fG _ ((s1.2 b hb).trans e))
 have ho6:(((s.heap.update a (ba λ_=>(#[]:Array ρ))).push (aI "tuple" vs.toArray 0)).push (aI "list" #[] 0)).get? a=some (aI "list" #[] e1):=fG _ (fG _ ho1);rw[list_sort_plain];refine aD (listItems_at ho rfl ?_);refine aD (kM ho rfl ?_ (by rw[gw,eZ];omega) (dX _));refine aD (seqEpoch_at ho1 rfl ?_);refine aD (wpAny_newTuple ?_ (by show vs.length<=_;rw[eZ];omega));refine aD (wco ?_ (dX _));apply Aq;show ah (aw prog w) A _ P E {s with heap:=((s.heap.update a (ba λ_=>(#[]:Array ρ))).push (aI "tuple" vs.toArray 0)).push (aI "list" #[] 0)};dsimp only;by_cases h2:vs.toArray.size<2
 ·have h2':vs.length<2:=by simpa using h2
  rw[au h2,au h2];refine aD (aW ?_);rw[StateT.run_pure];refine aD (aW ?_);dsimp only;refine aD (seqEpoch_at ho6 rfl ?_);refine aD (kM ho6 rfl ?_ (dX _) (by rw[Array.size_map];show(pairsOf vs).size<=_;rw[pairsOf_size,eZ];omega));simp only[bne_self_eq_false,Wz,J7];apply aW;have eo:(vs.toArray.zip vs.toArray).map (·.2)=bn vs:=by
   apply Array.toList_inj.mp;simp[List.map_snd_zip]
  have s2:=Ef (((s.heap.update a (ba λ_=>(#[]:Array ρ))).push (aI "tuple" vs.toArray 0)).push (aI "list" #[] 0)) a (ba λ_=>bn vs);obtain⟨c2,hc2⟩:∃c2,((((s.heap.update a (ba λ_=>(#[]:Array ρ))).push (aI "tuple" vs.toArray 0)).push (aI "list" #[] 0)).update a (ba λ_=>bn vs)).get? a=some (aI "list" (bn vs) c2):=⟨_,T3 ho6 λ_=>bn vs⟩;have fin:=h _ vs c2 (Ft h2') (λb o hb e=>(s2.2 b hb).trans (keep b o hb e)) hc2
  first
   |exact fin
   |(rw[<-eo]at fin;exact fin)
   |(show P _ {s with heap:=Heap.update _ a (ba λ_=>(vs.toArray.zip vs.toArray).map (·.2))};rw[eo];exact fin)
 ·have h2':2<=vs.length:=by rw[gw]at h2;omega
  rw[ao h2,ao h2];refine aD (hkind h2' _ keep _ ?_);refine aD (Bc (kat_run (Q:=λst' s'=>s'={s with heap:=((s.heap.update a (ba λ_=>(#[]:Array ρ))).push (aI "tuple" vs.toArray 0)).push (aI "list" #[] 0)}/\∃p:ξ,p.size=vs.length/\arrOf st'=p.map (kas_item (vs.toArray.zip vs.toArray))/\failedOf st'=none/\Ord vs.length p/\So key p vs.length)
   (G:=λp s'=>s'={s with heap:=((s.heap.update a (ba λ_=>(#[]:Array ρ))).push (aI "tuple" vs.toArray 0)).push (aI "list" #[] 0)}/\Ord vs.length p/\So key p vs.length)
   rfl h2' h64 (λp' st' s' a1 a2 a3 a4=>⟨a4.1,p',a1,a2,a3,a4.2.1,a4.2.2⟩) (sort (Zg h2' _ keep) (by omega) λp' hp hs=>⟨rfl,hp,hs⟩)) ?_ λ_ _ e=>e)
  rintro⟨⟨⟩,st'⟩ s' ⟨rfl,p,hp,har,hf,hor,hso⟩;dsimp only;have hout:=kat_snds rfl har;have hsz:(bn (p.toList.map λi=>vs.getD i bd)).size=vs.length:=by rw[gw,aF,TJ,hp]
  rw[hout];refine aD (seqEpoch_at ho6 rfl ?_);refine aD (kM ho6 rfl ?_ (dX _) (bR (HJ hsz) (by rw[eZ];omega)));rw[hf];simp only[bne_self_eq_false,Wz,J7];have s2:=Ef (((s.heap.update a (ba λ_=>(#[]:Array ρ))).push (aI "tuple" vs.toArray 0)).push (aI "list" #[] 0)) a (ba λ_=>bn (p.toList.map λi=>vs.getD i bd));obtain⟨c2,hc2⟩:∃c2,((((s.heap.update a (ba λ_=>(#[]:Array ρ))).push (aI "tuple" vs.toArray 0)).push (aI "list" #[] 0)).update a (ba λ_=>bn (p.toList.map λi=>vs.getD i bd))).get? a=some (aI "list" (bn (p.toList.map λi=>vs.getD i bd)) c2):=⟨_,T3 ho6 λ_=>_⟩;exact aW (h _ _ c2 ⟨p,hor,hso,rfl⟩ (λb o hb e=>(s2.2 b hb).trans (keep b o hb e)) hc2)
theorem uI{Q:L4}(hl:s.heap.IsList l vs.toArray)(h64:vs.length<64)(hkind:2<=vs.length->∀h',(∀b o,s.heap.get? b=some o->h'.get? b=some o)->∀(E:L4) (Q:jI->τ->Prop),Q κ {s with heap:=h'}->ah (aw prog w) A.in1.in1 (keyKind' vs.toArray) Q E {s with heap:=h'})(Zg:2<=vs.length->∀h',(∀b o,s.heap.get? b=some o->h'.get? b=some o)->m8 O key vs.length (kas_ask prog w A.in1.in1 κ vs) {s with heap:=h'})(h:∀D h' out c,V8 key vs out->s.heap.objs.size<=D->(∀b o,s.heap.get? b=some o->h'.get? b=some o)->h'.get? D=some (aI "list" (bn out) c)->Q (.ref D) {s with heap:=h'}):
  ah (aw prog w) A (call (.builtin "sorted") [.ref l]) Q E s:=by
 refine i7 kind_sorted plain_sorted entry_sorted (args_sorted1 _) ?_;unfold Builtin.«sorted»;refine aD (m:=checkCount "sorted" 1 1 _) (aW ?_);refine aD (collect_list hl ?_ (by rw[eZ];omega));refine aD (wco ?_ (by rw[eZ];omega));have hsz:((s.heap.push (aI "list" #[] 0)).update s.heap.objs.size (ba (· ++vs.toArray))).objs.size=s.heap.objs.size+1:=by
  rw[Heap.size_update,size_push']
 have hoL:(((s.heap.push (aI "list" #[] 0)).update s.heap.objs.size (ba (· ++vs.toArray))).push (aI "list" vs.toArray 0)).get? (s.heap.objs.size+1)=some (aI "list" vs.toArray 0):=by
  rw[<-hsz];exact lZ _ rfl
 have keep:∀b o,s.heap.get? b=some o->(((s.heap.push (aI "list" #[] 0)).update s.heap.objs.size (ba (· ++vs.toArray))).push (aI "list" vs.toArray 0)).get? b=some o:=λb o q=>by
  have hlt:b<s.heap.objs.size:=eO q;rw[Heap.get?_push_ne _ _ _ (by rw[hsz];exact gP (wW hlt)),Heap.get?_update_ne _ _ _ _ (gP hlt),Heap.get?_push_ne _ _ _ (gP hlt)];exact q
 have ne:∀b o,s.heap.get? b=some o->b≠s.heap.objs.size+1:=λb o q=>gP (wW (eO q));show ah _ _ _ _ _ {s with heap:=((s.heap.push (aI "list" #[] 0)).update s.heap.objs.size (ba (· ++vs.toArray))).push (aI "list" vs.toArray 0)};rw[hsz];refine aD (Aq (Td slot_list_sort ⟨_,hoL,rfl⟩ entry_list_sort ?body (args_list_sort _)))
 case body=>
  refine mX (key:=key) (κ:=κ) (s:={s with heap:=((s.heap.push (aI "list" #[] 0)).update s.heap.objs.size (ba (· ++vs.toArray))).push (aI "list" vs.toArray 0)}) hoL h64
   (λh2 h' k Q hq=>hkind h2 h' (λb o q=>k b o (ne b o q) (keep b o q)) _ Q hq) (λh2 h' k=>Zg h2 h' λb o q=>k b o (ne b o q) (keep b o q)) λh' out c ho k hc=>?_
  exact⟨_,rfl,aW ⟨_,rfl,h _ h' out c ho (HD _) (λb o q=>k b o (ne b o q) (keep b o q)) hc⟩⟩
end
end vW
namespace HT
open PySem PyProof.Rows
theorem bQ:∀(a b:ζ),lexLt a b=decide (a<b)
 |[],[]=>by simp[lexLt]
 |[],_::_=>by simp[lexLt]
 |_::_,[]=>by simp[lexLt]
 |x::xs,y::ys=>by
  rw[lexLt_cons,bQ xs ys];by_cases e:x=y
  ·subst e;simp
  ·rw[ao e];by_cases l:x<y
   ·simp[l,yeq]
   ·have:¬(x::xs<y::ys):=by rw[yeq];simp[l,e]
    simp[l,this]
end HT
namespace vW
open PySem PySem.W PyProof.Rows PySem.Calls
noncomputable def lexOrd:mw where
 α:=ζ
 blt a b:=decide (a<b)
 irrefl a:=by simpa using List.lt_irrefl a
 trans a b c h1 h2:=by simp only[was]at *;exact List.lt_trans h1 h2
 negTrans a b c h:=by
  simp only[was]at *;by_cases hab:a<b
  ·exact .inl hab
  ·exact .inr (List.lt_of_le_of_lt (List.not_lt.mp hab) h)
 total a b h1 h2:=by simp only[wcd]at *;exact List.le_antisymm (List.not_lt.mp h2) (List.not_lt.mp h1)
section
variable{prog:χ}{w:ω}{A:bp}{s:τ}{Q:Bool->τ->Prop}
theorem vD(i)(hx:dc xs ns)(hy:dc ys ms)(hl:ns.length+nb=ms.length+na)(h:Q (HT.lexLt ns ms) s):KatLex prog w A true (decide (na<nb)) Q (xs.zip ys) i s:=by
 induction hx generalizing ys ms i with
 |nil=>
  rw[ml];apply kat_nil;cases hy with
  |nil=>
   rw[HT.lexLt_nil_nil]at h;rw[gj (by simp only[Xv]at hl;omega)];exact h
  |cons c u hw=>
   rw[HT.lexLt_nil_cons]at h;rw[bY (by simp only[Xv,wB]at hl;omega)];exact h
 |cons a t hv ih=>
  cases hy with
  |nil=>
   rw[lm];apply kat_nil;rw[HT.lexLt_cons_nil]at h;rw[gj (by simp only[Xv,wB]at hl;omega)];exact h
  |cons c u hw=>
   rw[wej];rw[HT.lexLt_cons]at h;refine kat_cons (wpAny_eqBool_int ?_);refine kat_go (λe=>?_) λe=>?_
   ·have e':a=c:=by simpa using e
    rw[au e']at h;exact kat_yes (ih (i+1) hw (by simp only[wB]at hl;omega) h)
   ·have e':a≠c:=by simpa using e
    rw[ao e']at h;apply kat_no;cases i with
    |zero=>exact oneLt_int h
    |succ i=>exact kat_one _ _ (lt_int (show W.BoolBack Q (.bool (decide (a<c))) s from h))
end
theorem yS{O:mw}{key:Nat->O.α}{α:Type}{its:List α}{d:α}{f:α->O.α}{R:α->ρ->Prop}(hR:bI R its vs)(hk:∀i (hi:i<its.length),key i=f its[i])(h:V8 key vs out):
  ∃its':List α,its'.Perm its/\bI R its' out/\its'.Pairwise λx y=>O.kle (f x) (f y):=by
 obtain⟨p,hp,hs,rfl⟩:=h;have hl:=hR.length;have get:∀{l₁:List α}{l₂:List ρ}{i:Nat},bI R l₁ l₂->(h:i<l₁.length)->∃v,l₂[i]? =some v/\R l₁[i] v:=by
  intro l₁ l₂ i q
  induction q generalizing i with
  |nil=>intro h;simp at h
  |cons r t ih=>
   intro h;cases i with
   |zero=>exact⟨_,rfl,r⟩
   |succ i=>
    obtain⟨v,e,rv⟩:=ih (i:=i) (by simpa using h);exact⟨v,by simpa using e,by simpa using rv⟩
 have hlt:∀i∈p.toList,i<its.length:=λi hi=>by
  have:=(yex.mp hp.perm).mem_iff.mp hi;rw[hl];simpa using this
 refine⟨p.toList.map λi=>its.getD i d,?_,?_,?_⟩
 ·have q:=(yex.mp hp.perm).map (λi=>its.getD i d);apply q.trans;have e:(bn (ai vs.length)).toList.map (λi=>its.getD i d)=its:=by
   rw[<-hl];apply yeu;intro i;simp only[cV];by_cases hi:i<its.length
   ·simp[hi]
   ·simp[hi]
  rw[e]
 ·have mk:∀l:List Nat,(∀i∈l,i<its.length)->bI R (l.map λi=>its.getD i d) (l.map λi=>vs.getD i bd):=by
   intro l
   induction l with
   |nil=>intro _;exact .nil
   |cons i l ih=>
    intro hb;refine .cons ?_ (ih λj hj=>hb j (cY _ hj));have hi:=hb i cC;obtain⟨v,e,r⟩:=get hR hi;have e1:its.getD i d=its[i]:=by simp[hi]
    have e2:vs.getD i bd=v:=by rw[gQ,e];rfl
    show R (its.getD i d) (vs.getD i bd);rw[e1,e2];exact r
  exact mk _ hlt
 ·rw[Wm];intro i j hi hj hij;simp only[aF,TJ]at hi hj;simp only[List.getElem_map];have hsz:=hp.size;have q:=hs i j (by omega) (by omega);have e:∀k (hk':k<p.size),KN key p k=f (its.getD p.toList[k] d):=λk hk'=>by
   have e1:p.getD k 0=p.toList[k]:=by simp[Array.getD,hk']
   have hb:=hlt p.toList[k] (Bb _);have e2:its.getD p.toList[k] d=its[p.toList[k]]:=by simp only[gQ,eN hb,wfj]
   unfold KN;rw[e1,e2];exact hk _ hb
  rw[e i hi,e j hj]at q;exact q
end vW
namespace L2
open PySem PySem.Spec PyProof.Rows PySem.W
section
variable{X:Cx}
theorem zW:CallR X (.builtin "sorted") (λxs H Q=>∃(a:af) (its:List (af×ζ)),xs=[.ref a]/\SqL X.K H a (its.map λp=>V.ref p.1)/\(∀p∈its,SqT X.K H p.1 (p.2.map V.int)/\p.2≠[])/\its.length<64/\
  ∀(l:af) (its':List (af×ζ)),H l=none->its'.Perm its->its'.Pairwise (λp q=>HT.lexLt q.2 p.2=false)->Q (.ref l) (upd H l (.lst (its'.map λp=>V.ref p.1)))):=by
 intro aa s σ H xs us Q I r h;obtain⟨a,its,rfl,hS,hT,h64,q⟩:=h;obtain⟨u,rfl,ru⟩:=r.one;cases ru;obtain⟨vs,rv,pl,hz⟩:=I.list hS;have ad:its.length=vs.length:=by have:=rv.length;simpa using this
 have pr:bI (λ(p:af×ζ) (v:ρ)=>v=.ref p.1) its vs:=by
  have go:∀(l:List (af×ζ)) (us:List ρ),Vals (l.map λp=>V.ref p.1) us->bI (λ(p:af×ζ) (v:ρ)=>v=.ref p.1) l us:=by
   intro l
   induction l with
   |nil=>intro us h;cases h;exact .nil
   |cons p l ih=>
    intro us h;cases h with
    |cons r t=>exact .cons r (ih _ t)
  exact go its vs rv
 have tup:∀p∈its,∃(ae:List ρ),dc ae p.2/\gY s.heap p.1 ae.toArray:=λp hp=>by
  obtain⟨its',r',t',_⟩:=I.tuple (hT p hp).1;exact⟨its',intsAre_of r',t'⟩
 refine vW.uI (O:=vW.lexOrd) (key:=λi=>(its.getD i (0,[])).2) (κ:=tuples' true) (s:=s) pl.isList (by omega) (λh2 h' k E' Q' hq=>?_) (λh2 h' k=>?_) (λD h' out c ho hD k hc=>?_)
 ·have kt:∀(l:List (af×ζ)) (us:List ρ),bI (λ(p:af×ζ) (v:ρ)=>v=.ref p.1) l us->(∀p∈l,p∈its)->∃fs:List ρ,KatTups h' us fs/\fs.length=us.length/\∀v∈fs,∃i t,v=bu i t:=by
   intro l us h
   induction h with
   |nil=>intro _;exact⟨[],trivial,rfl,λ_ hv=>nomatch hv⟩
   | @cons p v l us r t ih=>
    intro hs;obtain⟨fs,k1,k2,k3⟩:=ih λp hp=>hs p (cY _ hp);obtain⟨ae,hi,o,e,hc,n,hd⟩:=tup p (hs p cC);have hne:=(hT p (hs p cC)).2;obtain⟨pa,pn⟩:=p;dsimp only at hi hne e r;cases hi with
    |nil=>exact absurd rfl hne
    |cons i t hi'=>
     rw[r];refine⟨bu i t::fs,KatTups.cons (k _ _ e) hc hd (by simp) k1,by simp[k2],λv hv=>?_⟩;rcases cX.mp hv with e|e
     ·exact⟨i,t,e⟩
     ·exact k3 v e
  obtain⟨fs,k1,k2,k3⟩:=kt its vs pr λ_ hp=>hp;refine kat_kind (s:={s with heap:=h'}) (T:=.type "int") k1 (by omega) (λv hv=>?_) (by rfl) hq;obtain⟨i,t,rfl⟩:=k3 v hv;exactλA Q E s _ q=>aW q
 ·intro i j C hi hj hC;rw[<-ad]at hi hj;have get:∀i (hi:i<its.length),vs.getD i bd=.ref its[i].1:=by
   have go:∀(l:List (af×ζ)) (us:List ρ),bI (λ(p:af×ζ) (v:ρ)=>v=.ref p.1) l us->∀i (hi:i<l.length),us.getD i bd=.ref l[i].1:=by
    intro l us h
    induction h with
    |nil=>intro i hi;simp at hi
    |cons r t ih=>
     intro i hi;cases i with
     |zero=>exact r
     |succ i=>simpa using ih i (by simpa using hi)
   exact go its vs pr
  unfold kas_ask;rw[get i hi,get j hj];obtain⟨xi,hxi,oi,ei,ci,ni,di⟩:=tup its[i] (Bb _);obtain⟨xj,Tj,oj,ej,cj,nj,dj⟩:=tup its[j] (Bb _);refine kat_lt (s:={s with heap:=h'}) (k _ _ ei) di (k _ _ ej) dj ?_;refine vW.vD 0 hxi Tj ?_ ?_
  ·have:=hxi.length;have:=Tj.length;simp only[gw];omega
  ·rw[HT.bQ];have e1:its.getD i (0,[])=its[i]:=by simp[hi]
   have e2:its.getD j (0,[])=its[j]:=by simp[hj]
   have hC':C (decide ((its.getD i (0,[])).2<(its.getD j (0,[])).2)) {s with heap:=h'}:=hC;rw[e1,e2]at hC';exact hC'
 ·obtain⟨its',hp,hr,hw⟩:=vW.yS (d:=((0,[]):af×ζ)) (f:=λp=>p.2) pr (λi hi=>by show(its.getD i (0,[])).2=_;simp[hi]) ho;have hn:H D=none:=I.hok.fresh hD;have rv':Vals (its'.map λp=>V.ref p.1) out:=by
   have go:∀(l:List (af×ζ)) (us:List ρ),bI (λ(p:af×ζ) (v:ρ)=>v=.ref p.1) l us->Vals (l.map λp=>V.ref p.1) us:=by
    intro l us h
    induction h with
    |nil=>exact .nil
    |cons r t ih=>exact .cons r ih
   exact go its' out hr
  have zl:(its'.map λp=>V.ref p.1).length<=sizeLine:=by
   have:=hp.length_eq;rw[aF];exact dN (small1000 (by omega))
  have J:Inv X aa σ (upd H D (.lst (its'.map λp=>V.ref p.1))) {s with heap:=h',toks:=s.toks}:=I.laid k hD ⟨zl,out,c,rv',hc⟩;refine⟨.ref D,_,J,rfl,q D its' hn hp (hw.imp λ{x y} hxy=>?_)⟩;rw[HT.bQ];exact hxy
end
end L2
namespace L2
open PySem PySem.Spec PyProof.Rows
section
variable{X:Cx}
theorem vV:∀{bs:List Bool}{us:List ρ},Vals (bs.map V.bl) us->us=bs.map dA
 |[],_,h=>by cases h;rfl
 |b::bs,_,h=>by
  cases h with
  |cons r t=>rw[iQ,vV t];exact gR (· ::_) r
theorem Tr(hc:X.calm=true):CallR X (.builtin "all") (λxs H Q=>∃(a:af) (bs:List Bool),xs=[.ref a]/\SqL X.K H a (bs.map V.bl)/\Q (.bl (bs.all id)) H):=by
 intro aa s σ H xs us Q I r h;obtain⟨a,bs,rfl,hS,q⟩:=h;obtain⟨u,rfl,ru⟩:=r.one;cases ru;obtain⟨vs,rv,pl,hz⟩:=I.list hS;have hv:=vV rv;have hl:=pl.isList;have hlt:a<s.heap.objs.size:=by obtain⟨_,e,_⟩:=hl;exact eO e
 refine call_all_walk (wci hl ?_);refine⟨s.heap.objs.size,[s.heap.objs.size,a],[s.heap.objs.size],vs.toArray.size,_,_,λi=>(bs[i]?).getD true,rfl,wgg (A:=X.A.in1) (I.ok.hd hc) _ a (gP hlt) vs.toArray,
  ⟨⟨_,lZ _ rfl,rfl,rfl⟩,hl.push _⟩,λi v s' Q' E' hP hQ=>?_,λh' tk hk=>?_⟩
 ·have hP':vs[i]? =some v:=by simpa using hP
  rw[hv,cV]at hP';cases e:bs[i]? with
  |none=>rw[e]at hP';cases hP'
  |some b=>
   rw[e]at hP';cases hP';simp only[e,wfj]at hQ;exact Mw hQ
 ·have e:((ai vs.toArray.size).all λi=>(bs[i]?).getD true)=bs.all id:=by
   rw[gw,hv,aF];exact LSm.range_all bs
  rw[e];exact⟨.bl _,H,I.kept (LSm.kept_iter hk),rfl,q⟩
theorem RJ(hc:X.calm=true):CallR X (.builtin "any") (λxs H Q=>∃(a:af) (bs:List Bool),xs=[.ref a]/\SqL X.K H a (bs.map V.bl)/\Q (.bl (bs.any id)) H):=by
 intro aa s σ H xs us Q I r h;obtain⟨a,bs,rfl,hS,q⟩:=h;obtain⟨u,rfl,ru⟩:=r.one;cases ru;obtain⟨vs,rv,pl,hz⟩:=I.list hS;have hv:=vV rv;have hl:=pl.isList;have hlt:a<s.heap.objs.size:=by obtain⟨_,e,_⟩:=hl;exact eO e
 refine call_any_walk (wci hl ?_);refine⟨s.heap.objs.size,[s.heap.objs.size,a],[s.heap.objs.size],vs.toArray.size,_,_,λi=>(bs[i]?).getD false,rfl,wgg (A:=X.A.in1) (I.ok.hd hc) _ a (gP hlt) vs.toArray,
  ⟨⟨_,lZ _ rfl,rfl,rfl⟩,hl.push _⟩,λi v s' Q' E' hP hQ=>?_,λh' tk hk=>?_⟩
 ·have hP':vs[i]? =some v:=by simpa using hP
  rw[hv,cV]at hP';cases e:bs[i]? with
  |none=>rw[e]at hP';cases hP'
  |some b=>
   rw[e]at hP';cases hP';simp only[e,wfj]at hQ;exact Mw hQ
 ·have e:((ai vs.toArray.size).any λi=>(bs[i]?).getD false)=bs.any id:=by
   rw[gw,hv,aF];exact LSm.range_any bs
  rw[e];exact⟨.bl _,H,I.kept (LSm.kept_iter hk),rfl,q⟩
noncomputable def Xk(K:ag)(H:Hp):V->String->Prop
 | .non,T=>T="NoneType"
 | .bl _,T=>T="bool"
 | .int _,T=>T="int"
 | .str _,T=>T="str"
 | .ref a,T=>(T="tuple"/\∃xs,SqT K H a xs)\/(T="list"/\∃xs,SqL K H a xs)\/(T="dict"/\∃kvs,H a=some (.dK kvs))
 |_,_=>False
noncomputable def zB(T C:String):Bool:=T==C||(T=="bool"&&C=="int")
theorem Ss:CallR X (.builtin "isinstance") (λxs H Q=>∃(x:V) (T C:String),xs=[x,.ty C]/\Xk X.K H x T/\(C="int"\/C="bool"\/C="tuple"\/C="list")/\Q (.bl (zB T C)) H):=by
 intro aa s σ H xs us Q I r h;obtain⟨x,T,C,rfl,hk,hC,q⟩:=h;obtain⟨u,v,rfl,ru,rv⟩:=r.two;cases rv;have Rq:∀b,b=zB T C->EP X aa σ Q (.bool b) s:=λb e=>⟨.bl b,H,I,rfl,by rw[e];exact q⟩;have gM:∀b,b=zB T C->EP X aa σ Q (.bool b) {s with toks:=s.toks+1}:=λb e=>⟨.bl b,H,I.tok _,rfl,by rw[e];exact q⟩;cases x with
 |non=>
  cases ru;cases hk;rcases hC with rfl|rfl|rfl|rfl
  ·exact IsiPair.NoneType_int (gM _ rfl)
  ·exact IsiPair.NoneType_bool (gM _ rfl)
  ·exact IsiPair.NoneType_tuple (gM _ rfl)
  ·exact IsiPair.NoneType_list (gM _ rfl)
 |bl b=>
  cases ru;cases hk;rcases hC with rfl|rfl|rfl|rfl
  ·exact IsiPair.bool_int (Rq _ rfl)
  ·exact IsiPair.bool_bool (Rq _ rfl)
  ·exact IsiPair.bool_tuple (gM _ rfl)
  ·exact IsiPair.bool_list (gM _ rfl)
 |int i=>
  obtain⟨t,rfl⟩:=ru;cases hk;rcases hC with rfl|rfl|rfl|rfl
  ·exact IsiPair.int_int (Rq _ rfl)
  ·exact IsiPair.int_bool (gM _ rfl)
  ·exact IsiPair.int_tuple (gM _ rfl)
  ·exact IsiPair.int_list (gM _ rfl)
 |str z=>
  obtain⟨t,rfl⟩:=ru;cases hk;rcases hC with rfl|rfl|rfl|rfl
  ·exact IsiPair.str_int (gM _ rfl)
  ·exact IsiPair.str_bool (gM _ rfl)
  ·exact IsiPair.str_tuple (gM _ rfl)
  ·exact IsiPair.str_list (gM _ rfl)
 |ref a=>
  cases ru;rcases hk with⟨rfl,xs,hS⟩|⟨rfl,xs,hS⟩|⟨rfl,kvs,hS⟩
  ·obtain⟨its,_,⟨o,e,c,n,d⟩,_⟩:=I.tuple hS;rcases hC with rfl|rfl|rfl|rfl
   ·exact IsiPair.tuple_int e c (gM _ rfl)
   ·exact IsiPair.tuple_bool e c (gM _ rfl)
   ·exact IsiPair.tuple_tuple e c (Rq _ rfl)
   ·exact IsiPair.tuple_list e c (gM _ rfl)
  ·obtain⟨its,_,⟨o,n,e,c,d,_⟩,_⟩:=I.list hS;rcases hC with rfl|rfl|rfl|rfl
   ·exact IsiPair.list_int e c (gM _ rfl)
   ·exact IsiPair.list_bool e c (gM _ rfl)
   ·exact IsiPair.list_tuple e c (gM _ rfl)
   ·exact IsiPair.list_list e c (Rq _ rfl)
  ·obtain⟨_,_,vs,_,o,es,ep,e,c,_⟩:=I.hok a _ hS;have c':o.cls=.type "dict":=c.1;rcases hC with rfl|rfl|rfl|rfl
   ·exact IsiPair.dict_int e c' (gM _ rfl)
   ·exact IsiPair.dict_bool e c' (gM _ rfl)
   ·exact IsiPair.dict_tuple e c' (gM _ rfl)
   ·exact IsiPair.dict_list e c' (gM _ rfl)
 |_=>exact hk.elim
end
mutual
inductive DV(K:ag)(H:Hp):V->υ->Prop
 |non:DV K H .non .none
 |bl (b:Bool):DV K H (.bl b) (.bool b)
 |int (i:Int):DV K H (.int i) (.int i)
 |str (x:bg):DV K H (.str x) (.str x)
 |tup {a:af}{xs:List V}{ds:θ} (h:SqT K H a xs) (t:cF K H xs ds):DV K H (.ref a) (.tuple ds)
 |lst {a:af}{xs:List V}{ds:θ} (h:SqL K H a xs) (t:cF K H xs ds):DV K H (.ref a) (.list ds)
 |dc0 {a:af} (h:H a=some (.dK [])):DV K H (.ref a) (.dict [])
 |dc1 {a b:af}{i:Int} (h:H a=some (.dK [(bc i,.ref b)])) (t:SqT K H b []):DV K H (.ref a) (.dict [(.int i,.tuple [])])
inductive cF(K:ag)(H:Hp):List V->θ->Prop
 |nil:cF K H [] []
 |cons {x:V}{d:υ}{xs:List V}{ds:θ} (h:DV K H x d) (t:cF K H xs ds):cF K H (x::xs) (d::ds)
end
theorem Same.tup{K:ag}{H H':Hp}{a:af}{xs:List V}(e:Same H H')(h:SqT K H a xs):SqT K H' a xs:=by
 rcases h with(h|⟨o,h⟩)|h
 ·exact .inl (.inl (e _ _ h))
 ·exact .inl (.inr ⟨o,e _ _ h⟩)
 ·exact .inr h
theorem DV.same{K:ag}(e:Same H H')(h:DV K H x d):DV K H' x d:=
 DV.rec (motive_1:=λx d _=>DV K H' x d) (motive_2:=λxs ds _=>cF K H' xs ds) .non (λb=>.bl b) (λi=>.int i) (λx=>.str x) (λh _ t=>.tup (e.tup h) t) (λh _ t=>.lst (e.seq h) t) (λh=>.dc0 (e _ _ h)) (λh t=>.dc1 (e _ _ h) (e.tup t)) .nil (λ_ _ h t=>.cons h t) h
theorem cF.same{K:ag}(e:Same H H')(h:cF K H xs ds):cF K H' xs ds:=
 cF.rec (motive_1:=λx d _=>DV K H' x d) (motive_2:=λxs ds _=>cF K H' xs ds) .non (λb=>.bl b) (λi=>.int i) (λx=>.str x) (λh _ t=>.tup (e.tup h) t) (λh _ t=>.lst (e.seq h) t) (λh=>.dc0 (e _ _ h)) (λh t=>.dc1 (e _ _ h) (e.tup t)) .nil (λ_ _ h t=>.cons h t) h
theorem Kv(h:Pairs (mixKind P w) es []):es=[]:=by
 cases h;rfl
theorem Ku(h:Pairs (mixKind P w) es [(k,u)]):∃e,es=[e]/\keyIs k e.key=true/\e.val=u:=by
 cases h with
 |cons h1 h2 h3=>
  cases h3;exact⟨_,rfl,h1,h2⟩
section
variable{X:Cx}{aa:L3}{σ:St}{H:Hp}{s:τ}
theorem Lz(I:Inv X aa σ H s)(h:H a=some (.dK [])):dE s.heap (.ref a) (.dict []) (a::[]++[])/\(a==bz)=false:=by
 obtain⟨_,hne,vs,r0,o,es,ep,e,c,d,_,pr,_⟩:=I.hok _ _ h;cases r0;have hes:es.toList=[]:=Kv pr;refine⟨.dict (kvs:=[]) (as:=[]) (bs:=[]) e c.1 d ?_ ?_,hne⟩
 ·rw[hes];exact .nil
 ·rw[hes];exact .nil
theorem Lx(I:Inv X aa σ H s)(h:H a=some (.dK [(bc i,.ref b)]))(t:SqT X.K H b []):dE s.heap (.ref a) (.dict [(.int i,.tuple [])]) (a::([]++[])++([]++[]))/\(a==bz)=false:=by
 obtain⟨_,hne,vs,r0,o,es,ep,e,c,d,_,pr,_⟩:=I.hok _ _ h;obtain⟨its,rv,⟨o2,e2,c2,n2,d2⟩,_⟩:=I.tuple t;cases rv;cases r0 with
 | @cons p q ps qs hq tl=>
  cases tl;obtain⟨en,he,hk,hv⟩:=Ku pr;obtain⟨k,u⟩:=q;dsimp only at hq;obtain⟨hk1,hu1⟩:=hq;subst hk1;cases hu1;obtain⟨tk,ek⟩:∃tk,en.key=bu i tk:=by
   rcases SM hk with⟨i',t',e3,e4⟩|⟨x,t',e3,e4⟩
   ·cases e3;exact⟨t',e4⟩
   ·cases e3
  refine⟨.dict (kvs:=[(.int i,.tuple [])]) (as:=[]++[]) (bs:=[]++[]) e c.1 d ?_ ?_,hne⟩
  ·rw[he];show dJ s.heap [en.key] [am i] _;rw[ek];exact .cons (.int i tk) .nil
  ·rw[he];show dJ s.heap [en.val] [PyData.tuple []] _;rw[hv];exact .cons (.tuple e2 c2 d2 .nil) .nil
theorem Ko(I:Inv X aa σ H s)(h:SqT X.K H a xs)(t:∀{us:List ρ},Vals xs us->∃as,dJ s.heap us ds as)(r:RelV (.ref a) u):∃as,dE s.heap u (.tuple ds) as:=by
 cases r;obtain⟨its,rv,⟨o,e,c,n,d⟩,_⟩:=I.tuple h;obtain⟨as,ra⟩:=t rv;exact⟨_,.tuple e c d (by simpa using ra)⟩
theorem Kp(I:Inv X aa σ H s)(h:SqL X.K H a xs)(t:∀{us:List ρ},Vals xs us->∃as,dJ s.heap us ds as)(r:RelV (.ref a) u):∃as,dE s.heap u (.list ds) as:=by
 cases r;obtain⟨its,rv,⟨o,n,e,c,_,d⟩,_⟩:=I.list h;obtain⟨as,ra⟩:=t rv;exact⟨_,.list e c d (by simpa using ra)⟩
theorem DV.reads(I:Inv X aa σ H s)(h:DV X.K H x d)(r:RelV x u):∃as,dE s.heap u d as:=
 DV.rec (motive_1:=λx d _=>∀{u:ρ},RelV x u->∃as,dE s.heap u d as) (motive_2:=λxs ds _=>∀{us:List ρ},Vals xs us->∃as,dJ s.heap us ds as)
  (λr=>by cases r;exact⟨_,.none⟩) (λb _ r=>by cases r;exact⟨_,.bool b⟩) (λi _ r=>by obtain⟨t,rfl⟩:=r;exact⟨_,.int i t⟩) (λx _ r=>by obtain⟨t,rfl⟩:=r;exact⟨_,.str x t⟩)
  (λh _ t _ r=>Ko I h t r) (λh _ t _ r=>Kp I h t r) (λh _ r=>by cases r;exact⟨_,(Lz I h).1⟩) (λh t _ r=>by cases r;exact⟨_,(Lx I h t).1⟩)
  (λr=>by cases r;exact⟨_,.nil⟩) (λ_ _ h t _ r=>by
   cases r with
   |cons r rr=>
    obtain⟨as,ra⟩:=h r;obtain⟨bs,rb⟩:=t rr;exact⟨_,.cons ra rb⟩) h r
theorem cF.reads(I:Inv X aa σ H s)(h:cF X.K H xs ds)(r:Vals xs us):∃as,dJ s.heap us ds as:=
 cF.rec (motive_1:=λ_ _ _=>True) (motive_2:=λxs ds _=>∀{us:List ρ},Vals xs us->∃as,dJ s.heap us ds as) trivial (λ_=>trivial) (λ_=>trivial) (λ_=>trivial) (λ_ _ _=>trivial) (λ_ _ _=>trivial) (λ_=>trivial) (λ_ _=>trivial)
  (λr=>by cases r;exact⟨_,.nil⟩) (λh _ _ t _ r=>by
   cases r with
   |cons r rr=>
    obtain⟨as,ra⟩:=DV.reads I h r;obtain⟨bs,rb⟩:=t rr;exact⟨_,.cons ra rb⟩) h r
end
mutual
def noL:υ->Bool
 | .list _=>false
 | .tuple ds=>aat ds
 |_=>true
def aat:θ->Bool
 |[]=>true
 |d::ds=>noL d&&aat ds
end
theorem cF.ints{K:ag}:∀(ns:ζ),cF K H (ns.map V.int) (ns.map am)
 |[]=>.nil
 |n::ns=>.cons (.int n) (cF.ints ns)
theorem cF.len{K:ag}(h:cF K H xs ds):xs.length=ds.length:=
 cF.rec (motive_1:=λ_ _ _=>True) (motive_2:=λxs ds _=>xs.length=ds.length) trivial (λ_=>trivial) (λ_=>trivial) (λ_=>trivial) (λ_ _ _=>trivial) (λ_ _ _=>trivial) (λ_=>trivial) (λ_ _=>trivial) rfl (λ_ _ _ t=>gR Nat.succ t) h
section
variable{X:Cx}
theorem P0(hu:X.A.units+64<dm):OpR X (bt .NotEq) (λx y H Q=>∃da db,DV X.K H x da/\DV X.K H y db/\da.canLay0=true/\db.canLay0=true/\min da.depth db.depth<=64/\Q (.bl (!ar da db)) H):=by
 intro aa s σ H x y v u Q I rx ry h;obtain⟨da,db,hx,hy,ca,cb,hd,q⟩:=h;obtain⟨as,ra⟩:=DV.reads I hx rx;obtain⟨bs,rb⟩:=DV.reads I hy ry;exact SeqAt.rcNeAt_reads ra rb ca cb (by omega) _ _ _ _ ⟨.bl _,H,I,rfl,q⟩
theorem Hl:∀{ds:θ},aE ds=true->∀d∈ds,d.canLay0=true
 |[],_,d,h=>nomatch h
 |e::ds,h,d,hd=>by
  have h':(e.canLay0&&aE ds)=true:=h;rw[fH]at h';rcases cX.mp hd with rfl|hd
  ·exact h'.1
  ·exact Hl h'.2 d hd
open Classical in
theorem yU(hu:X.A.units+64<dm):OpR X (bt .In) (λx y H Q=>∃(p:af) (xs:List V) (ds:θ) (dx:υ),y=.ref p/\(SqL X.K H p xs\/SqT X.K H p xs)/\cF X.K H xs ds/\DV X.K H x dx/\aE ds=true/\dx.canLay0=true/\dx.depth<=60/\
  Q (.bl (ds.any λd=>ar d dx)) H):=by
 intro aa s σ H x y v u Q I rx ry h;obtain⟨p,xs,ds,dx,rfl,hq,hds,hx,ca,cb,hd,q⟩:=h;cases ry;obtain⟨bs,rb⟩:=DV.reads I hx rx;have key:∀{its:List ρ},Vals xs its->(∀y∈its,SeqAt.EqAt X.A.in1 s y v (decide (∃d as,dE s.heap y d as/\d∈ds/\ar d dx=true)))/\(its.any λy=>decide (∃d as,dE s.heap y d as/\d∈ds/\ar d dx=true))=ds.any λd=>ar d dx:=by
  intro its rv;obtain⟨as,ra⟩:=cF.reads I hds rv;have each:∀{us:List ρ}{es:θ}{as:η},dJ s.heap us es as->(∀e∈es,e∈ds)->(∀y∈us,SeqAt.EqAt X.A.in1 s y v (decide (∃d as,dE s.heap y d as/\d∈ds/\ar d dx=true)))/\(us.any λy=>decide (∃d as,dE s.heap y d as/\d∈ds/\ar d dx=true))=es.any λd=>ar d dx:=by
   intro us
   induction us with
   |nil=>intro es as h _;cases h;exact⟨(λy hy=>(nomatch hy)),rfl⟩
   |cons y us ih=>
    intro es as h hs;cases h with
    | @cons _ _ d ds' as' bs' r rr=>
     obtain⟨i1,i2⟩:=ih rr λe he=>hs e (cY _ he);have cl:=Hl ca d (hs d cC);have e:decide (∃d as,dE s.heap y d as/\d∈ds/\ar d dx=true)=ar d dx:=by
      rw[sS,was];constructor
      ·rintro⟨d',as'',r',_,q'⟩;obtain⟨rfl,_⟩:=(wek r _ _ r');exact q'
      ·intro q';exact⟨d,_,r,hs d cC,q'⟩
     refine⟨λz hz=>?_,?_⟩
     ·rcases cX.mp hz with rfl|hz
      ·rw[e];exact wfk d dx _ s _ _ _ _ r rb cl cb (by show X.A.units+1+min d.depth dx.depth<dm;omega)
      ·exact i1 z hz
     ·rw[Wh,Wh,i2,e]
  exact each ra λe he=>he
 rcases hq with hq|hq
 ·obtain⟨its,r,pl,hz⟩:=I.list hq;obtain⟨k1,k2⟩:=key r;refine SeqAt.in_listAt _ pl.isList (λw hw=>k1 w (by simpa using hw)) ⟨.bl _,H,I,rfl,?_⟩;rw[show∀f:ρ->Bool,its.toArray.any f=its.any f fromλf=>by simp,k2];exact q
 ·obtain⟨its,r,pl,hz⟩:=I.tuple hq;obtain⟨k1,k2⟩:=key r;refine SeqAt.in_tupleAt _ pl (λw hw=>k1 w (by simpa using hw)) ⟨.bl _,H,I,rfl,?_⟩;rw[show∀f:ρ->Bool,its.toArray.any f=its.any f fromλf=>by simp,k2];exact q
end
end L2
namespace HT
open PySem PyProof.Rows
section
variable{prog:χ}{w:ω}{A:bp}{E:L4}{s:τ}
theorem mq{lo hi:Option Int}{Q:L4}(ht:gY s.heap t ae)(hs:s.heap.IsSliceOf sl vl vu .none)(pl:gg vl lo)(pu:gg vu hi)(hw:sIx ae.size 0 lo=0/\sIx ae.size ae.size hi=ae.size)(h:Q (.ref t) s):ah (aw prog w) A (fq (.ref t) (.ref sl)) Q E s:=by
 obtain⟨os,hos,hcs,hds⟩:=id hs;have hTs:s.TypeIs (.ref sl) "slice":=⟨os,hos,hcs⟩;unfold fq
 try with_reducible apply Aq
 first |refine aD (aW ?_)|skip
 refine aD (wpAny_sequenceKey ht.typeIs (by decide) ?_);refine aD (wbh (name:=bT "__getitem__") ht.typeIs wbm
  (Td wbm ht.typeIs entry_tuple_getitem ?_ (args_tuple_getitem _ _)))
 show ah _ _ (dQ (.ref t)>>=_) _ _ s;refine aD (tupleItemsOf_ ht ?_);refine aD (wft hTs ?_);rw[au (by decide)];refine aD (sliceApplied_gen hs pl pu ?_);have hyes:((((sIx ae.size 0 lo:Nat):Int)==0&&(1:Int)==1&&(sIx ae.size ae.size hi-sIx ae.size 0 lo)==ae.size)=true):=by
  rw[hw.1,hw.2];simp
 show ah _ _ (if(((sIx ae.size 0 lo:Nat):Int)==0&&(1:Int)==1&&(sIx ae.size ae.size hi-sIx ae.size 0 lo)==ae.size)=true then _ else _) _ _ s;rw[au hyes];obtain⟨o,ho,hc,n,hd⟩:=id ht;apply aD;show ah _ _ (fT (.ref t)) _ _ s;unfold fT;refine aD (wft ht.typeIs ?_);apply aW;rw[au (by decide)]
 first
  |exact aD (Ww (aD (aW ⟨_,rfl,aW h⟩)))
  |exact aD (Ww (aW ⟨_,rfl,aW h⟩))
  |exact aD (Ww (aD (aW (aW ⟨_,rfl,aW h⟩))))
  |(trace_state;exact aD (aD (Ww (aW ⟨_,rfl,aW h⟩))))
end
end HT
namespace L2
open PySem PySem.Spec PyProof.Rows
section
variable{X:Cx}
theorem Yo:OpR X (bt .Is) (λx y H Q=>∃a b,x=.bl a/\y=.bl b/\Q (.bl (a==b)) H):=by
 intro aa s σ H x y v u Q I rx ry h;obtain⟨a,b,rfl,rfl,q⟩:=h;cases rx;cases ry;exact is_bool ⟨.bl _,H,I,rfl,q⟩
theorem Kw:OpR X (bt .IsNot) (λx y H Q=>∃a b,x=.bl a/\y=.bl b/\Q (.bl (a !=b)) H):=by
 intro aa s σ H x y v u Q I rx ry h;obtain⟨a,b,rfl,rfl,q⟩:=h;cases rx;cases ry;exact isnot_bool ⟨.bl _,H,I,rfl,q⟩
theorem pL:OpR X (cA .FloorDiv) (rI (λ_ j=>0<j/\j<1000000000000000000000000000000) λi j=>.int (i/j)):=opI λi j _ _ _ _ _ hc q=>by
 have h1:(0:Int)<j:=hc.1;have h2:j<1000000000000000000000000000000:=hc.2;refine floordiv_int (by omega) ?_ (gV (wes ?_))
 ·rw[weg _ (by omega)];exact q
 ·have h3:j.natAbs≠0:=by omega
  have h4:j.natAbs<2^100:=by
   have:(2:Nat)^100=1267650600228229401496703205376:=by decide
   omega
  have:=(Nat.log2_lt h3).mpr h4;omega
inductive Pz(K:ag)(x:V)(y:V)(H:Hp)(Q:VK):Prop
 |mk(a b xs ys)(_:x=.ref a)(_:y=.ref b)(_:SqT K H a xs)(_:SqT K H b ys)(_:xs.length+ys.length<=sizeLine)(_:∀r H',Same H H'->SqT K H' r (xs++ys)->Q (.ref r) H')
theorem Ut:OpR X (cA .Add) (Pz X.K):=by
 intro aa s σ H x y v u Q I rx ry h;obtain⟨a,b,xs,ys,rfl,rfl,ha,hb,hz,q⟩:=h;by_cases hx:xs=[]
 ·subst hx;cases rx;cases ry;obtain⟨its,r1,p1,_⟩:=I.tuple ha;obtain⟨its2,r2,p2,_⟩:=I.tuple hb;cases r1;obtain⟨⟨cls,dd,data,sl⟩,ho,hc,n,hd⟩:=id p1;obtain⟨⟨cls2,dd2,data2,sl2⟩,ho2,hc2,n2,hd2⟩:=id p2;simp only at hc hd hc2 hd2;subst hc hd hc2 hd2;exact wfs ⟨_,ho,rfl⟩ ⟨_,ho2,rfl⟩ wdj wfe wce wcc (wby _ _)
   (tuple_addW0 a b _ _ n n2 dd dd2 sl sl2 (by simp)) ⟨ho,ho2,⟨.ref b,H,I,rfl,q b H (Same.refl _) hb⟩⟩
 ·refine op_catT aa s σ H _ _ v u Q I rx ry ⟨a,b,xs,ys,rfl,rfl,ha,hb,hx,hz,λe=>?_,λe p hp=>?_⟩
  ·subst e;exact q a H (Same.refl _) (by rw[tL];exact ha)
  ·exact q p _ (λc o e=>by rw[cW (jr e hp)];exact e) (SqT.of aH)
noncomputable def abd(K:ag):V->Option Int->Option Int->Hp->VK->Prop:=λx lo hi H Q=>∃a xs,x=.ref a/\SqT K H a xs/\∀r H',Same H H'->SqT K H' r (cutV xs lo hi)->Q (.ref r) H'
theorem Iz:SlR X (abd X.K):=by
 intro aa s σ H x v vl vu lo hi sl Q I rx hs pl pu h;obtain⟨a,xs,rfl,hx,q⟩:=h;by_cases hw:HT.sIx xs.length 0 lo=0/\HT.sIx xs.length xs.length hi=xs.length
 ·cases rx;obtain⟨its,r,ht,hz⟩:=I.tuple hx;have ad:its.toArray.size=xs.length:=by rw[gw];exact r.length.symm
  refine⟨"tuple",_,PyProof.Rows.slot_tuple_getitem.lookup,ht.typeIs,?_⟩;refine HT.mq ht hs pl pu (by rw[ad];exact hw) ⟨.ref a,H,I,rfl,q a H (Same.refl _) ?_⟩;have e:cutV xs lo hi=xs:=by
   unfold cutV;rw[hw.1,hw.2];simp
  rw[e];exact hx
 ·exact sl_tup aa s σ H _ v vl vu lo hi sl Q I rx hs pl pu ⟨a,xs,rfl,hx,hw,λp hp=>q p _ (λc o e=>by rw[cW (jr e hp)];exact e) (SqT.of aH)⟩
end
section
variable{X:Cx}{tg:br}
noncomputable def Za(K:ag)(tl:TE):TI:=λσ H R=>tl σ H λx H1=>∃a xs,x=.ref a/\SqL K H1 a xs/\(xs.length<=sizeLine->R (Itl K a) H1)
noncomputable def aaC(K:ag)(tl:TE):TI:=λσ H R=>tl σ H λx H1=>∃a xs,x=.ref a/\SqT K H1 a xs/\(xs.length<=sizeLine->R (Itt K a) H1)
theorem wV(hl:PE X l tl):PI X tg l (Za X.K tl):=by
 intro aa s σ H R I h;refine thn (hl aa s σ H _ I h) λv s1 ⟨x,H1,I1,r1,q1⟩=>?_;obtain⟨a,xs,e,hq,q⟩:=q1;subst e;cases r1;obtain⟨its,rv,p,hz⟩:=I1.list hq;refine wci p.isList ?_;refine⟨s1.heap.objs.size,[s1.heap.objs.size],_,_,H1,rfl,I1.kept (t':=s1.toks) λb o e=>fG _ e,turn_list a _,⟨_,lZ _ rfl,rfl,rfl⟩,λb hb=>?_,q hz⟩;have e:b=s1.heap.objs.size:=by simpa using hb
 subst e;exact I1.fpOk (aQ _) (I1.hok.fresh (aQ _))
theorem Ei(hl:PE X l tl):PI X tg l (aaC X.K tl):=by
 intro aa s σ H R I h;refine thn (hl aa s σ H _ I h) λv s1 ⟨x,H1,I1,r1,q1⟩=>?_;obtain⟨a,xs,e,hq,q⟩:=q1;subst e;cases r1;obtain⟨its,rv,p,hz⟩:=I1.tuple hq;refine wcf (show s1.heap.IsTuple a its.toArray from p) ?_;refine⟨s1.heap.objs.size,[s1.heap.objs.size],_,_,H1,rfl,I1.kept (t':=s1.toks) λb o e=>fG _ e,turn_tuple a _,⟨_,lZ _ rfl,rfl,rfl⟩,λb hb=>?_,q hz⟩;have e:b=s1.heap.objs.size:=by simpa using hb
 subst e;exact I1.fpOk (aQ _) (I1.hok.fresh (aQ _))
theorem yp:CallR X (.builtin "len") (λxs H Q=>∃p ys,xs=[.ref p]/\(SqL X.K H p ys\/SqT X.K H p ys)/\(ys.length<=16777216->Q (.int ys.length) H)):=by
 intro aa s σ H xs us Q I r h;obtain⟨p,ys,rfl,hq,q⟩:=h;have hz:ys.length<=16777216:=by
  rw[<-eZ];rcases hq with hq|hq
  ·exact(I.list hq).choose_spec.2.2
  ·exact(I.tuple hq).choose_spec.2.2
 exact call_len_seq aa s σ H _ us Q I r ⟨p,ys,rfl,hq,q hz⟩
end
mutual
inductive DX(K:ag)(H:Hp):V->υ->Prop
 |non:DX K H .non .none
 |bl (b:Bool):DX K H (.bl b) (.bool b)
 |int (i:Int):DX K H (.int i) (.int i)
 |str (x:bg):DX K H (.str x) (.str x)
 |tup {a:af}{xs:List V}{ds:θ} (h:SqT K H a xs) (t:qu K H xs ds):DX K H (.ref a) (.tuple ds)
 |lst {a:af}{xs:List V}{ds:θ} (h:SqL K H a xs) (t:qu K H xs ds):DX K H (.ref a) (.list ds)
 |dct {a:af}{kvs:List (Key×V)} (ds:List (υ×υ)) (h:H a=some (.dK kvs)):DX K H (.ref a) (.dict ds)
inductive qu(K:ag)(H:Hp):List V->θ->Prop
 |nil:qu K H [] []
 |cons {x:V}{d:υ}{xs:List V}{ds:θ} (h:DX K H x d) (t:qu K H xs ds):qu K H (x::xs) (d::ds)
end
theorem DX.same{K:ag}(e:Same H H')(h:DX K H x d):DX K H' x d:=
 DX.rec (motive_1:=λx d _=>DX K H' x d) (motive_2:=λxs ds _=>qu K H' xs ds) .non (λb=>.bl b) (λi=>.int i) (λx=>.str x) (λh _ t=>.tup (e.tup h) t) (λh _ t=>.lst (e.seq h) t) (λds h=>.dct ds (e _ _ h)) .nil (λ_ _ h t=>.cons h t) h
theorem qu.same{K:ag}(e:Same H H')(h:qu K H xs ds):qu K H' xs ds:=
 qu.rec (motive_1:=λx d _=>DX K H' x d) (motive_2:=λxs ds _=>qu K H' xs ds) .non (λb=>.bl b) (λi=>.int i) (λx=>.str x) (λh _ t=>.tup (e.tup h) t) (λh _ t=>.lst (e.seq h) t) (λds h=>.dct ds (e _ _ h)) .nil (λ_ _ h t=>.cons h t) h
theorem DV.dx{K:ag}(h:DV K H x d):DX K H x d:=
 DV.rec (motive_1:=λx d _=>DX K H x d) (motive_2:=λxs ds _=>qu K H xs ds) .non (λb=>.bl b) (λi=>.int i) (λx=>.str x) (λh _ t=>.tup h t) (λh _ t=>.lst h t) (λh=>.dct [] h) (λh _=>.dct _ h) .nil (λ_ _ h t=>.cons h t) h
theorem cF.dx{K:ag}(h:cF K H xs ds):qu K H xs ds:=
 cF.rec (motive_1:=λ_ _ _=>True) (motive_2:=λxs ds _=>qu K H xs ds) trivial (λ_=>trivial) (λ_=>trivial) (λ_=>trivial) (λ_ _ _=>trivial) (λ_ _ _=>trivial) (λ_=>trivial) (λ_ _=>trivial) .nil (λh _ _ t=>.cons h.dx t) h
noncomputable def kZ:υ->String
 | .none=>"NoneType"
 | .bool _=>"bool"
 | .int _=>"int"
 | .str _=>"str"
 | .list _=>"list"
 | .tuple _=>"tuple"
 | .dict _=>"dict"
theorem DX.kind{K:ag}:∀{x:V}{d:υ},DX K H x d->Xk K H x (kZ d)
 |_,_,.non=>rfl
 |_,_,.bl _=>rfl
 |_,_,.int _=>rfl
 |_,_,.str _=>rfl
 |_,_,.tup h _=>.inl ⟨rfl,_,h⟩
 |_,_,.lst h _=>.inr (.inl ⟨rfl,_,h⟩)
 |_,_,.dct _ h=>.inr (.inr ⟨rfl,_,h⟩)
theorem qu.len{K:ag}(h:qu K H xs ds):xs.length=ds.length:=
 qu.rec (motive_1:=λ_ _ _=>True) (motive_2:=λxs ds _=>xs.length=ds.length) trivial (λ_=>trivial) (λ_=>trivial) (λ_=>trivial) (λ_ _ _=>trivial) (λ_ _ _=>trivial) (λ_ _=>trivial) rfl (λ_ _ _ t=>gR Nat.succ t) h
theorem qu.get{K:ag}:∀{xs:List V}{ds:θ}{i:Nat}{x:V},qu K H xs ds->xs[i]? =some x->∃d,ds[i]? =some d/\DX K H x d
 |_,_,_,_,.nil,e=>by simp at e
 |_,_,0,_,.cons h _,e=>by simp at e;subst e;exact⟨_,rfl,h⟩
 |_,_,i+1,x,.cons _ t,e=>by
  obtain⟨d,h1,h2⟩:=qu.get (i:=i) t (by simpa using e);exact⟨d,by simpa using h1,h2⟩
structure Eh(K:ag)(mg:L5)(x:bg)(st:eW)(ps:List bg)(f:af)(fd:ψ):Prop where
 F:Fun K x x st f fd
 b:Binds K fd ps []
 m:mg x=some (.ref f)
theorem pc{X:Cx}{x:bg}{st:eW}{ps:List bg}{f:af}{fd:ψ}{j k:Nat}{sp:Sp}{E:XK}{e:br}{es:List br}{t:TA}{p pos:eR}(F:FnOk X.prog X.w X.K X.mg X.base CX0 j f fd ps sp)(hr:Room k X.A)(D:Eh X.K X.mg x st ps f fd)(ha:PA X (e::es) t)(hj:j<=k:=by first |decide|omega)(hg:Gl X x:=by rfl)(hx:Passes CX0 X E:=by exact pass0)(hdb:(x==("__debug__":bg))=false:=by decide)(he:az (e::es) X.env=(false,cx e X.env)::az es X.env:=by rfl)(hpl:(dk pos (az es X.env)).any (·.1)=false:=by rfl):PE X (.Call (.Name x p) (e::es) [] pos) (tCall sp [] E t):=pe_call (F.mono hj) hr hg D.m D.F.kp D.b .nil hx ha hdb he hpl
inductive Dp(P:χ)(w:ω)(K:ag)(mg:L5)(base:bv)(j:Nat)(x:bg)(st:eW)(ps:List bg)(sp:Sp):Prop
 |mk {f fd} (D:Eh K mg x st ps f fd) (G:FnOk P w K mg base CX0 j f fd ps sp)
theorem pd{X:Cx}{x:bg}{st:eW}{ps:List bg}{j k:Nat}{sp:Sp}{E:XK}{e:br}{es:List br}{t:TA}{p pos:eR}(D:Dp X.prog X.w X.K X.mg X.base j x st ps sp)(hr:Room k X.A)(ha:PA X (e::es) t)(hj:j<=k:=by first |decide|omega)(hg:Gl X x:=by rfl)(hx:Passes CX0 X E:=by exact pass0)(hdb:(x==("__debug__":bg))=false:=by decide)(he:az (e::es) X.env=(false,cx e X.env)::az es X.env:=by rfl)(hpl:(dk pos (az es X.env)).any (·.1)=false:=by rfl):PE X (.Call (.Name x p) (e::es) [] pos) (tCall sp [] E t):=by
 obtain⟨D,G⟩:=D;exact pc G hr D ha hj hg hx hdb he hpl
theorem fsc{N P:List bg}{sc:dC}(a:sc.kind=.function:=by rfl)(b:sc.isCoroutine=false:=by rfl)(c:sc.isGenerator=false:=by rfl)(d:N.Nodup:=by decide+kernel)(e:N.take P.length=P:=by rfl)(f:∀x∈P,sc.names.lookup x=some .local\/sc.names.lookup x=some .cell:=by decide+kernel)(g:∀y∈sc.names,y.2≠.free:=by decide+kernel):FnScope N P sc:=⟨a,b,c,d,e,f,g⟩
theorem Fun.U4{P:χ}{w:ω}{K:ag}{mg:L5}{base:bv}{x qual:bg}{st:eW}{f:af}{fd:ψ}{ps:List bg}{k:Nat}{sp:Sp}(F:Fun K x qual st f fd)(N:List bg)(hb:∀(cdv:ρ) (A:bp) (outer:List kF) (s:τ) (H:Hp) (vs:List V) (Q:VK) (E:XK),Room k (A.deeper (i3 qual (defScope st) s.heap.objs.size f cdv))->sp vs H Q E->
   ∃t,PSs (cxOf CX0 P w K mg base N qual (defScope st) f cdv A outer s H E).nox (defBody st) t/\t {nx:=λ_ H'=>Q .non H',rt:=Q} (start N vs) H)(S:FnScope N ps (defScope st):=by exact fsc)(len:∀vs H Q E,sp vs H Q E->vs.length=ps.length:=by intro _ _ _ _ h;first |(cases h;subst_vars;rfl)|repeat(first |(obtain⟨rfl,_⟩:=h;rfl)|obtain⟨_,h⟩:=h)):FnOk P w K mg base CX0 (k+1) f fd ps sp:=F.ok S len hb
theorem Fun.eG{P:χ}{w:ω}{K:ag}{mg:L5}{base:bv}{x qual:bg}{st:eW}{f:af}{fd:ψ}{ps:List bg}{k:Nat}{sp:Sp}(F:Fun K x qual st f fd)(N:List bg)(hb:∀{cdv:ρ}{A:bp}{outer:List kF}{s:τ}{vs:List V}{E:XK} (H:Hp) (Q:VK),Room k (A.deeper (i3 qual (defScope st) s.heap.objs.size f cdv))->sp vs H Q E->
   ∃t,PSs (cxOf CX0 P w K mg base N qual (defScope st) f cdv A outer s H E).nox (defBody st) t/\t {nx:=λ_ H'=>Q .non H',rt:=Q} (start N vs) H)(S:FnScope N ps (defScope st):=by exact fsc)(len:∀vs H Q E,sp vs H Q E->vs.length=ps.length:=by intro _ _ _ _ h;first |(cases h;subst_vars;rfl)|repeat(first |(obtain⟨rfl,_⟩:=h;rfl)|obtain⟨_,h⟩:=h)):FnOk P w K mg base CX0 (k+1) f fd ps sp:=F.ok S len λ_ _ _ _ H _ Q _=>hb H Q
theorem aP(h:H p=none)(o):Same H (upd H p o):=λb u q=>by rw[cW (jr q h)];exact q
end L2
namespace oF
open PySem L2
noncomputable def gA:υ->Bool
 | .int _=>true
 |_=>false
noncomputable def bO(n:Int):υ->Bool
 | .int i=>decide (0<=i)&&decide (i<n)
 |_=>false
noncomputable def intD:υ->Int
 | .int i=>i
 |_=>0
noncomputable def kids:υ->θ
 | .tuple ds=>ds
 |_=>[]
noncomputable def fO(ns:ζ):Bool:=(ai (ns.length-1)).all λk=>decide (ns.getD k 0<ns.getD (k+1) 0)
noncomputable def gG(ts:List ζ):Bool:=(ai (ts.length-1)).all λk=>HT.lexLt (ts.getD k []) (ts.getD (k+1) [])
noncomputable def ju(n:Int):υ->Bool
 | .tuple ds=>ds.all (bO n)&&fO (ds.map intD)
 |_=>false
noncomputable def nH(n:Int)(d:υ):Bool:=ju n d&&decide ((kids d).length=2)
noncomputable def uD(n:Int):υ->Bool
 | .tuple ds=>ds.all (nH n)&&gG (ds.map λt=>(kids t).map intD)
 |_=>false
noncomputable def yx:υ->Bool
 | .tuple [n,t]=>gA n&&(decide (0<=intD n)&&decide (intD n<=10))&&uD (intD n) t
 |_=>false
theorem uX:∀{d:υ},bO n d=true->∃i,d=.int i/\0<=i/\i<n
 | .int i,h=>⟨i,rfl,by simpa[bO]using h⟩
end oF
namespace L2
open PySem PySem.Spec PyProof.Rows
section
variable{X:Cx}
theorem Ea(K:ag)(h:X.K=K:=by rfl):IxR X (rIxT K):=by subst h;exact fU
theorem gK(K:ag)(h:X.K=K:=by rfl):IxR X (rIxL K):=by subst h;exact jV
theorem yd(K:ag)(h:X.K=K:=by rfl):CallR X (.builtin "len") (λxs H Q=>∃p ys,xs=[.ref p]/\(SqL K H p ys\/SqT K H p ys)/\(ys.length<=16777216->Q (.int ys.length) H)):=by subst h;exact yp
theorem Je(K:ag)(hu:X.A.units<dm)(h:X.K=K:=by rfl):OpR X (bt .Lt) (rLtT K):=by subst h;exact op_ltT hu
theorem iD(K:ag)(hu:X.A.units+64<dm)(h:X.K=K:=by rfl):OpR X (bt .In) (λx y H Q=>∃(p:af) (xs:List V) (ds:θ) (dx:υ),y=.ref p/\(SqL K H p xs\/SqT K H p xs)/\cF K H xs ds/\DV K H x dx/\aE ds=true/\dx.canLay0=true/\dx.depth<=60/\
  Q (.bl (ds.any λd=>ar d dx)) H):=by subst h;exact yU hu
theorem dY(K:ag){es:List br}{k:Nat}{t:TGs}{n:Nat}{pos:eR}(hc:X.calm=true)(h:PGs X es t)(hn:(eB es X.env).length=n:=by rfl)(hst:(eB es X.env).findIdx? (·.1)=none:=by rfl)(hK:X.K=K:=by rfl):PG X (.Tuple es k pos) (gTup K n t):=by subst hK;exact pg_tup hc h hn hst
end
end L2
namespace PySem
open Sem (wp)
open AutoSeq1 (wpAny_loadPart')
section
variable{prog:χ}{w:ω}{A:bp}{E:L4}{s:τ}
theorem mj{Q:List ρ->τ->Prop}{n:Nat}(hh:A.handled=none)(hr:IsRange s.heap r a b c t u v)(hsmall:fi a b c=true)(hn:bS a b c=n)(ad:n<=2^24)(hQ:∀h' tk acc,(∀b o',s.heap.get? b=some o'->h'.get? b=some o')->iO (λi v=>∃t,v=.int (a+i*c) t) acc n->Q acc.toList {s with heap:=h',toks:=tk}):
  ah (aw prog w) A (collect (.ref r)) Q E s:=by
 unfold collect;refine aD (wpAny_runValue (Tc F.entry_proto_collect ?_));rw[T6 F.plain_proto_collect _];show ah _ A.in1 (newList []>>=λl=>again (.builtin "list.__iadd__" ⟨[l,.ref r],[]⟩)) _ _ s;refine aD (J8 ?_);refine aW ⟨TX g5 _,Tc F.entry_list_iadd ?_⟩;rw[T6 g5 _];show ah _ A.in1 (g7 (.ref s.heap.objs.size) (.ref r) (.ref s.heap.objs.size)) _ _ _;have hS:(s.heap.push {cls:=.type "list",data:=.seq ([]:List ρ).toArray}).get? s.heap.objs.size=some {cls:=.type "list",data:=.seq #[] 0}:=lZ _ rfl;have fin':∀h' tk acc' c',(∀b o,b≠s.heap.objs.size->(s.heap.push {cls:=.type "list",data:=.seq ([]:List ρ).toArray}).get? b=some o->h'.get? b=some o)->
   h'.get? s.heap.objs.size=some {cls:=.type "list",dict:=none,data:=.seq acc' c',slots:=#[]}->iO (λi v=>∃t,v=.int (a+i*c) t) acc' n->ah (aw prog w) A (match aC s.heap.objs.size with
   |aC a=>do
    match(<-load a).data with
     |gp xs _=>pure xs.toList
     |_=>ii "internal:collect"
   |_=>ii "internal:collect") Q E {s with heap:=h',toks:=tk}:=λh' tk acc' c' hk hS' hacc=>by
  show ah _ A (load s.heap.objs.size>>=_) _ _ _;refine aD (wpAny_load hS' ?_);apply aW;exact hQ h' tk acc' (λb o e=>hk b o (gP (eO e)) (fG _ e)) hacc
 refine Bc (wpAny_extend_range (A:=A) (R:=λr s'=>r=.ok (.ret (.ref s.heap.objs.size))/\∃h' tk acc' c',s'={s with heap:=h',toks:=tk}/\(∀b o,b≠s.heap.objs.size->(s.heap.push {cls:=.type "list",data:=.seq ([]:List ρ).toArray}).get? b=some o->h'.get? b=some o)/\
   h'.get? s.heap.objs.size=some {cls:=.type "list",dict:=none,data:=.seq acc' c',slots:=#[]}/\iO (λi v=>∃t,v=.int (a+i*c) t) acc' n) (s:={s with heap:=s.heap.push {cls:=.type "list",data:=.seq ([]:List ρ).toArray}}) hh (fG _ hr) hsmall hn ad s.heap.objs.size (.ref s.heap.objs.size) 0 hS (λh' tk acc' c' hk hS' hacc=>⟨rfl,h',tk,acc',c',rfl,hk,hS',hacc⟩)) (λfin s' h=>?_) (λe s' h=>?_)
 ·cases fin with
  |done f=>
   obtain⟨e,h',tk,acc',c',rfl,h1,h2,h3⟩:=h;cases e;exact fin' h' tk acc' c' h1 h2 h3
  |again c'=>exact⟨h.1,wdg h.2 λr s'' hr=>by obtain⟨rfl,h',tk,acc',c',rfl,h1,h2,h3⟩:=hr;exact fin' h' tk acc' c' h1 h2 h3⟩
 ·exact absurd h.1 (by simp)
end
theorem jP(r)(a b c)(t u v)(n:Nat)(hsmall:fi a b c=true)(hn:bS a b c=n)(ad:n<=2^24):
  ll (Builtin.«tuple.__new__» ⟨[.type "tuple",.ref r],[]⟩)
   (λA R s=>A.handled=none/\IsRange s.heap r a b c t u v/\∀(h':bv) tk acc,(∀b o',s.heap.get? b=some o'->h'.get? b=some o')->iO (λi v=>∃t,v=.int (a+i*c) t) acc n->R (.ok (.ret (.ref h'.objs.size))) {s with heap:=h'.push {cls:=.type "tuple",data:=.seq acc},toks:=tk}):=
 .of_wp λprog w A R s h=>by
  obtain⟨hp,g,d,tk,os⟩:=s;obtain⟨hh,ht,h⟩:=h;have hsub:=sub_tuple_self;have hinit:=init_tuple_lookup;have hmh:=madeHere_tuple;have hT:Shared.TypeIs ⟨hp,g,d,tk,os⟩ (.ref r) "range":=⟨_,ht,rfl⟩
  wp_walk using bo ht,wft hT,mj (A:=A.in1) hh ht hsmall hn ad
  intro h' tk' acc hk hacc;show ah _ _ (bG acc.toList.toArray>>=λv=>ret v) _ _ _;unfold bG;refine aD (J8 ?_ (by show acc.toList.toArray.size<=sizeLine;rw[eZ];simp;rw[hacc.1];omega));refine aW ⟨_,rfl,?_⟩;have e:acc.toList.toArray=acc:=by simp
  rw[e];exact h h' tk' acc hk hacc
section
variable{prog:χ}{w:ω}{A:bp}{E:L4}{s:τ}
theorem rC{Q:L4}{n:Nat}(hh:A.handled=none)(hr:IsRange s.heap r a b c t u v)(hsmall:fi a b c=true)(hn:bS a b c=n)(ad:n<=2^24)(h:∀(h':bv) tk acc,(∀b o',s.heap.get? b=some o'->h'.get? b=some o')->iO (λi v=>∃t,v=.int (a+i*c) t) acc n->Q (.ref h'.objs.size) {s with heap:=h'.push {cls:=.type "tuple",data:=.seq acc},toks:=tk}):
  ah (aw prog w) A (call (.type "tuple") [.ref r]) Q E s:=
 callType_new F.called_tuple (by decide) (F.typeCall_tuple_1 _) (F.newCall_tuple_1 _) (λobj=>mN obj _) F.entry_tuple_new
  (jP r a b c t u v n hsmall hn ad) ⟨hh,hr,λh' tk acc hk hacc=>⟨⟨_,lZ _ rfl,rfl⟩,h h' tk acc hk hacc⟩⟩
end
end PySem
namespace L2
open PySem PySem.Spec PyProof.Rows
section
variable{X:Cx}{p p' pos pos':eR}{a:br}{ta:TA}
noncomputable def dG(n:Nat):List V:=(ai n).map λ(k:Nat)=>V.int (k:Int)
noncomputable def aai(ta:TA):TE:=λσ H Q=>ta σ H λvs H1=>∃j:Int,vs=[.int j]/\0<=j/\j<=16777216/\∀l,H1 l=none->Q (.ref l) (upd H1 l (.tup (dG j.toNat)))
theorem uz:∀{n:Nat}{us:List ρ},us.length=n->(∀(j:Nat) (u:ρ),us[j]? =some u->∃t:Tok,u=bu (0+((j:Nat):Int)*1) t)->Vals (dG n) us:=by
 intro n us hl hi;have go:∀(us:List ρ) (k:Nat),(∀(j:Nat) (u:ρ),us[j]? =some u->∃t:Tok,u=bu (0+((j+k:Nat):Int)*1) t)->Vals ((ko k us.length).map λ(k:Nat)=>V.int (k:Int)) us:=by
  intro us
  induction us with
  |nil=>intro k _;exact .nil
  |cons u us ih=>
   intro k h;obtain⟨t,e⟩:=h 0 u rfl;refine .cons ⟨t,?_⟩ (ih (k+1) λj u' hj=>?_)
   ·rw[e];congr 1;omega
   ·obtain⟨t',e'⟩:=h (j+1) u' (by simpa using hj);refine⟨t',?_⟩;rw[e'];congr 1;omega
 have:=go us 0 (λj u hj=>by obtain⟨t,e⟩:=hi j u hj;exact⟨t,by rw[e];rfl⟩);unfold dG;rw[wdo,<-hl];exact this
theorem kI(hc:X.calm=true)(hgT:Gl X "tuple")(hmT:X.mg "tuple"=none)(hg:Gl X "range")(hm:X.mg "range"=none)(ha:PA X [a] ta)(hs:az [a] X.env=[(false,cx a X.env)]:=by rfl)(hs2:az [fI (.Name "range" p') [a] [] pos'] X.env=[(false,cx (fI (.Name "range" p') [a] [] pos') X.env)]:=by rfl):
  PE X (.Call (.Name "tuple" p) [.Call (.Name "range" p') [a] [] pos'] [] pos) (aai ta):=by
 intro aa s σ H Q I h;refine T5 (ld_blt I hgT hmT (show bP "tuple"=some (.type "tuple")from by decide+kernel) ?_ (by decide) (by decide));refine Tf ?_ hs2 rfl;rw[hs2];apply wcm;refine Call_ (ld_blt I hg hm wge (Tf (thn (ha pos' aa s σ H _ I h) λus s1 ⟨vs,H1,I1,r1,q1⟩=>?_) hs rfl));obtain⟨j,e,q1,q2,q⟩:=q1;subst e;cases r1 with
 |cons r rr=>
  cases rr;obtain⟨t,rfl⟩:=r;apply me;apply wcx;have hn:bS 0 j 1=((j.toNat:Nat):Int):=by rw[wfb];split<;>omega
  refine rC (I.ok.hd hc) (wgj ..) (kX (by decide) (by decide) (by omega) (by omega)) hn (by omega) λh' tk acc hk hacc=>?_;have I2:Inv X aa σ H1 {s1 with heap:=h',toks:=tk}:=I1.kept λb o e=>hk b o (fG _ e);have hv:Vals (dG j.toNat) acc.toList:=uz (by rw[TJ];exact hacc.1) (λi u hu=>hacc.2 i u (by simpa using hu));have hz:(dG j.toNat).length<=sizeLine:=by unfold dG;rw[eZ];simp;omega
  have I3:Inv X aa σ (upd H1 h'.objs.size (.tup (dG j.toNat))) {s1 with heap:=h'.push {cls:=.type "tuple",data:=.seq acc},toks:=tk}:=
   I2.laid (t':=tk) (λb o e=>fG _ e) (aQ _) (show ObjOk X.prog X.w _ _ _ (.tup (dG j.toNat))from⟨hz,acc.toList,hv,by rw[show acc=acc.toList.toArray by simp];exact wfu _ _⟩)
  exact⟨.ref h'.objs.size,_,I3,rfl,q _ (I2.hok.fresh (aQ _))⟩
open Classical in
theorem qO(hu:X.A.units+64<dm):OpR X (bt .NotIn) (λx y H Q=>∃(p:af) (xs:List V) (ds:θ) (dx:υ),y=.ref p/\(SqL X.K H p xs\/SqT X.K H p xs)/\cF X.K H xs ds/\DV X.K H x dx/\aE ds=true/\dx.canLay0=true/\dx.depth<=60/\
  Q (.bl (!(ds.any λd=>ar d dx))) H):=by
 intro aa s σ H x y v u Q I rx ry h;obtain⟨p,xs,ds,dx,rfl,hq,hds,hx,ca,cb,hd,q⟩:=h;cases ry;obtain⟨bs,rb⟩:=DV.reads I hx rx;have key:∀{its:List ρ},Vals xs its->(∀y∈its,SeqAt.EqAt X.A.in1 s y v (decide (∃d as,dE s.heap y d as/\d∈ds/\ar d dx=true)))/\(its.any λy=>decide (∃d as,dE s.heap y d as/\d∈ds/\ar d dx=true))=ds.any λd=>ar d dx:=by
  intro its rv;obtain⟨as,ra⟩:=cF.reads I hds rv;have each:∀{us:List ρ}{es:θ}{as:η},dJ s.heap us es as->(∀e∈es,e∈ds)->(∀y∈us,SeqAt.EqAt X.A.in1 s y v (decide (∃d as,dE s.heap y d as/\d∈ds/\ar d dx=true)))/\(us.any λy=>decide (∃d as,dE s.heap y d as/\d∈ds/\ar d dx=true))=es.any λd=>ar d dx:=by
   intro us
   induction us with
   |nil=>intro es as h _;cases h;exact⟨(λy hy=>(nomatch hy)),rfl⟩
   |cons y us ih=>
    intro es as h hs;cases h with
    | @cons _ _ d ds' as' bs' r rr=>
     obtain⟨i1,i2⟩:=ih rr λe he=>hs e (cY _ he);have cl:=Hl ca d (hs d cC);have e:decide (∃d as,dE s.heap y d as/\d∈ds/\ar d dx=true)=ar d dx:=by
      rw[sS,was];constructor
      ·rintro⟨d',as'',r',_,q'⟩;obtain⟨rfl,_⟩:=(wek r _ _ r');exact q'
      ·intro q';exact⟨d,_,r,hs d cC,q'⟩
     refine⟨λz hz=>?_,?_⟩
     ·rcases cX.mp hz with rfl|hz
      ·rw[e];exact wfk d dx _ s _ _ _ _ r rb cl cb (by show X.A.units+1+min d.depth dx.depth<dm;omega)
      ·exact i1 z hz
     ·rw[Wh,Wh,i2,e]
  exact each ra λe he=>he
 rcases hq with hq|hq
 ·obtain⟨its,r,pl,hz⟩:=I.list hq;obtain⟨k1,k2⟩:=key r;refine SeqAt.notIn_listAt _ pl.isList (λw hw=>k1 w (by simpa using hw)) ⟨.bl _,H,I,rfl,?_⟩;rw[show∀f:ρ->Bool,its.toArray.any f=its.any f fromλf=>by simp,k2];exact q
 ·obtain⟨its,r,pl,hz⟩:=I.tuple hq;obtain⟨k1,k2⟩:=key r;refine SeqAt.notIn_tupleAt _ pl (λw hw=>k1 w (by simpa using hw)) ⟨.bl _,H,I,rfl,?_⟩;rw[show∀f:ρ->Bool,its.toArray.any f=its.any f fromλf=>by simp,k2];exact q
theorem Fv(K:ag)(hu:X.A.units+64<dm)(h:X.K=K:=by rfl):OpR X (bt .NotIn) (λx y H Q=>∃(p:af) (xs:List V) (ds:θ) (dx:υ),y=.ref p/\(SqL K H p xs\/SqT K H p xs)/\cF K H xs ds/\DV K H x dx/\aE ds=true/\dx.canLay0=true/\dx.depth<=60/\
  Q (.bl (!(ds.any λd=>ar d dx))) H):=by subst h;exact qO hu
end
end L2
namespace PySem
open Sem (wp)
open Builtin
open AutoSeq1 (wpAny_loadPart')
theorem qQ:fillsNumberSlot (.type "tuple") "mul"=pure false:=
 fillsNumberSlot_seq (id:="tuple.__mul__") (r:=some (.builtin "tuple.__rmul__")) F.slot_tuple_mul.lookup (by decide+kernel) F.slot_tuple_rmul.lookup (by decide+kernel)
theorem yP:seqRepeat? (.type "tuple")=pure (some (.builtin "tuple.__mul__")):=by
 unfold seqRepeat?;rw[seqSlot_of (T:="tuple") (name:="__mul__") (id:="tuple.__mul__") F.slot_tuple_mul.lookup (by decide+kernel),seqSlot_of (T:="tuple") (name:="__rmul__") (id:="tuple.__rmul__") F.slot_tuple_rmul.lookup (by decide+kernel)];rfl
theorem zE(a)(t)(l)(ae)(n)(d)(sl):
  ll (Builtin.«int.__rmul__» ⟨[.int a t,.ref l],[]⟩) (λ_ R s=>s.heap.get? l=some {cls:=.type "tuple",dict:=d,data:=.seq ae n,slots:=sl}/\R (.ok (.ret iX)) s):=
 .of_wp λprog w A R s h=>by obtain⟨hp,g,d,tk,os⟩:=s;obtain⟨hl,h⟩:=h;wp_walk;exact⟨_,rfl,h⟩
theorem tup_mul_1(l)(ae)(n)(d)(sl)(x)(u)(hx:x=1):
  ll (Builtin.«tuple.__mul__» ⟨[.ref l,.int x u],[]⟩) (λ_ R s=>s.heap.get? l=some {cls:=.type "tuple",dict:=d,data:=.seq ae n,slots:=sl}/\R (.ok (.ret (aC l))) s):=
 .of_wp λprog w A R s h=>by
  subst hx;obtain⟨hp,g,d,tk,os⟩:=s;obtain⟨hl,h⟩:=h;have f1:=wfl
  wp_walk using bo hl;exact⟨_,rfl,h⟩
theorem tup_mul_0(l)(ae)(n)(d)(sl)(x)(u)(hx:x<=0)(hlo: -(2^63)<=x)(hne:ae.isEmpty=false):
  ll (Builtin.«tuple.__mul__» ⟨[.ref l,.int x u],[]⟩) (λ_ R s=>s.heap.get? l=some {cls:=.type "tuple",dict:=d,data:=.seq ae n,slots:=sl}/\R (.ok (.ret (aC s.heap.objs.size))) {s with heap:=s.heap.push {cls:=cM "tuple",data:=gp #[]},toks:=s.toks}):=
 .of_wp λprog w A R s h=>by
  obtain⟨hp,g,d,tk,os⟩:=s;obtain⟨hl,h⟩:=h;have f1:=wfl;have c1:¬((decide (x< -(2^63))||decide (x≥2^63))=true):=by simp;omega
  have c2:¬((ae.isEmpty||x==1)=true):=by rw[hne];simp;omega
  have c3:(decide (x<=0)||ae.isEmpty)=true:=by rw[hne];simp;omega
  wp_walk using bo hl;rw[ao c1];wp_walk using bo hl;rw[ao c2];wp_walk using bo hl;exact⟨_,rfl,h⟩
theorem Kc(l)(ae)(n)(d)(sl)(x)(u)(hx:1<x)(hhi:x<2^63)(hne:ae.isEmpty=false)(hsz:ae.size*x.toNat<=1000):
  ll (Builtin.«tuple.__mul__» ⟨[.ref l,.int x u],[]⟩) (λ_ R s=>s.heap.get? l=some {cls:=.type "tuple",dict:=d,data:=.seq ae n,slots:=sl}/\R (.ok (.ret (aC s.heap.objs.size))) {s with heap:=s.heap.push {cls:=cM "tuple",data:=gp (eS (λx1 x2=>x1++x2) #[] (al x.toNat ae))},toks:=s.toks}):=
 .of_wp λprog w A R s h=>by
  obtain⟨hp,g,d,tk,os⟩:=s;obtain⟨hl,h⟩:=h;have f1:=wfl;have c1:¬((decide (x< -(2^63))||decide (x≥2^63))=true):=by simp;omega
  have c2:¬((ae.isEmpty||x==1)=true):=by rw[hne];simp;omega
  have c3:¬((decide (x<=0)||ae.isEmpty)=true):=by rw[hne];simp;omega
  have hxs:(ae.size:Int)*x=((ae.size*x.toNat:Nat):Int):=by rw[Nf,Xy (by omega)]
  have c4:¬((ae.size:Int)*x>(2^63-1)/8):=by rw[hxs];omega
  have c5:¬(Builtin.Tuple.tupleTooMany ((ae.size:Int)*x)=true):=by
   rw[hxs];intro z;have z':((ae.size*x.toNat:Nat):Int)>(sizeLine:Int):=fW z;have:=eZ;generalize ae.size*x.toNat=m at *;omega
  have htake:(eS (λx1 x2=>x1++x2) #[] (al x.toNat ae)).size<=sizeLine:=by
   have e:eS (λx1 x2=>x1++x2) #[] (al x.toNat ae)=(al x.toNat ae.toList).flatten.toArray:=by
    have:=PyProof.Rows.listMul_foldl_if ae x.toNat;rw[ao (by rw[hne];simp)]at this;exact this
   rw[e,gw];have:(al x.toNat ae.toList).flatten.length=x.toNat*ae.size:=by simp
   rw[this,HF,eZ];omega
  wp_walk using bo hl;rw[ao c1];wp_walk using bo hl;rw[ao c2];wp_walk using bo hl;rw[ao c3]
  try dsimp only
  rw[ao c4]
  try dsimp only
  rw[ao c5]
  try dsimp only
  unfold bG;refine aD (J8 (aW ?_) htake);exact⟨_,rfl,h⟩
end PySem
namespace L2
open PySem PySem.Spec PyProof.Rows
section
variable{X:Cx}{p p' pos pos':eR}{a:br}{ta:TA}
theorem Vals.aao(h:Vals xs us):∀k:Nat,Vals (al k xs).flatten (al k us).flatten
 |0=>.nil
 |k+1=>by rw[J6,J6,TF,TF];exact h.append (Vals.aao h k)
inductive WY(K:ag)(x:V)(y:V)(H:Hp)(Q:VK):Prop
 |mk(a k xs)(_:x=.ref a)(_:y=.int k)(_:SqT K H a xs)(_:xs≠[])(_:-(2^63)<=k)(_:k<2^63)(_:xs.length*k.toNat<=1000)(_:∀r H',Same H H'->SqT K H' r (al k.toNat xs).flatten->Q (.ref r) H')
theorem tZ:OpR X (cA .Mult) (WY X.K):=by
 intro aa s σ H x y v u Q I rx ry h;obtain⟨a,k,xs,rfl,rfl,ha,hne,h1,h2,hz,q⟩:=h;cases rx;obtain⟨t,rfl⟩:=ry;obtain⟨its,r1,p1,_⟩:=I.tuple ha;obtain⟨⟨cls,dd,data,sl⟩,ho,hc,n,hd⟩:=id p1;simp only at hc hd;subst hc hd;have ad:=r1.length;have hem:its.toArray.isEmpty=false:=by
  cases its with
  |nil=>cases r1;exact absurd rfl hne
  |cons _ _=>rfl
 have road:∀{S:PySem.Spec},ll (Builtin.«tuple.__mul__» ⟨[.ref a,.int k t],[]⟩) S->S X.A (wants (EP X aa σ Q) X.xe) s->ah (aw X.prog X.w) X.A (cA .Mult (.ref a) (.int k t)) (EP X aa σ Q) X.xe s:=λM hS=>
  kn (T:="tuple") (U:="int") (by decide) ⟨_,ho,rfl⟩ (λs'=>wgf s' k t) qQ F.fills_int_mul wdz yP F.slot_int_index.lookup
   (TV wdz (wgf s k t) F.entry_int_rmul (F.args_int_rmul_2 _ _) (zE k t a its.toArray n dd sl)
    ⟨ho,rfl,⟨_,ho,rfl⟩,TV F.slot_tuple_mul ⟨_,ho,rfl⟩ F.entry_tuple_mul (F.args_tuple_mul_2 _ _) M hS⟩)
 by_cases c1:k=1
 ·refine road (tup_mul_1 a its.toArray n dd sl k t c1) ⟨ho,⟨.ref a,H,I,rfl,q a H (Same.refl _) ?_⟩⟩;subst c1;have:(al (1:Int).toNat xs).flatten=xs:=by simp
  rw[this];exact ha
 by_cases c0:k<=0
 ·refine road (tup_mul_0 a its.toArray n dd sl k t c0 h1 hem) ⟨ho,?_⟩;have e0:k.toNat=0:=by omega
  refine⟨.ref s.heap.objs.size,_,I.laid (t':=s.toks) (o:=.tup []) (λb ob q=>fG _ q) (aQ _) ⟨dX _,[],.nil,wfu _ _⟩,rfl,q _ _ (λc o e=>by rw[cW (jr e (I.hok.fresh (aQ _)))];exact e) ?_⟩;rw[e0];exact SqT.of aH
 ·have hsz:its.toArray.size*k.toNat<=1000:=by rw[gw,<-ad];exact hz
  refine road (Kc a its.toArray n dd sl k t (by omega) h2 hem hsz) ⟨ho,?_⟩;have hnew:eS (λx1 x2=>x1++x2) #[] (al k.toNat its.toArray)=(al k.toNat its).flatten.toArray:=by
   have:=foldl_rep its k.toNat [];rw[List.nil_append]at this;exact this
  rw[hnew];have hz':(al k.toNat xs).flatten.length<=sizeLine:=by
   rw[len_rep,HF];exact bR hz (by rw[eZ];decide)
  refine⟨.ref s.heap.objs.size,_,I.laid (t':=s.toks) (o:=.tup (al k.toNat xs).flatten) (λb ob q=>fG _ q) (aQ _) ⟨hz',_,Vals.aao r1 k.toNat,wfu _ _⟩,rfl,q _ _ (λc o e=>by rw[cW (jr e (I.hok.fresh (aQ _)))];exact e) (SqT.of aH)⟩
noncomputable def aak(ta:TA):TE:=λσ H Q=>ta σ H λvs H1=>∃j:Int,vs=[.int j]/\0<=j/\j<=16777216/\∀l,H1 l=none->Q (.ref l) (upd H1 l (.lst (dG j.toNat)))
theorem su(hc:X.calm=true)(hgT:Gl X "list")(hmT:X.mg "list"=none)(hg:Gl X "range")(hm:X.mg "range"=none)(ha:PA X [a] ta)(hs:az [a] X.env=[(false,cx a X.env)]:=by rfl)(hs2:az [fI (.Name "range" p') [a] [] pos'] X.env=[(false,cx (fI (.Name "range" p') [a] [] pos') X.env)]:=by rfl):
  PE X (.Call (.Name "list" p) [.Call (.Name "range" p') [a] [] pos'] [] pos) (aak ta):=by
 intro aa s σ H Q I h;refine T5 (ld_blt I hgT hmT (show bP "list"=some (.type "list")from by decide+kernel) ?_ (by decide) (by decide));refine Tf ?_ hs2 rfl;rw[hs2];apply wcm;refine Call_ (ld_blt I hg hm wge (Tf (thn (ha pos' aa s σ H _ I h) λus s1 ⟨vs,H1,I1,r1,q1⟩=>?_) hs rfl));obtain⟨j,e,q1,q2,q⟩:=q1;subst e;cases r1 with
 |cons r rr=>
  cases rr;obtain⟨t,rfl⟩:=r;apply me;apply wcx;have hn:bS 0 j 1=((j.toNat:Nat):Int):=by rw[wfb];split<;>omega
  refine call_list_range (I.ok.hd hc) (wgj ..) (kX (by decide) (by decide) (by omega) (by omega)) hn (by omega) λh' tk acc c hk hS hacc=>?_;have hv:Vals (dG j.toNat) acc.toList:=uz (by rw[TJ];exact hacc.1) (λi u hu=>hacc.2 i u (by simpa using hu));have hz:(dG j.toNat).length<=sizeLine:=by unfold dG;rw[eZ];simp;omega
  have I2:Inv X aa σ H1 {s1 with heap:=s1.heap.push {cls:=cM "range",data:=eh #[bu 0 s1.toks,bu j t,bu 1 (s1.toks+1)]},toks:=s1.toks+1+1}:=I1.kept λb o e=>fG _ e;exact⟨.ref _,_,I2.laid (t':=tk) (o:=.lst (dG j.toNat)) hk (aQ _) ⟨hz,acc.toList,c,hv,by simpa using hS⟩,rfl,q _ (I2.hok.fresh (aQ _))⟩
end
end L2
namespace PySem
open Sem (wp)
open AutoSeq1 (wpAny_loadPart')
theorem zN(l)(ae)(n)(dct)(sl):
  ll (Builtin.«enumerate.__new__» ⟨[.type "enumerate",.ref l],[]⟩) (λ_ R s=>s.heap.get? l=some {cls:=.type "tuple",dict:=dct,data:=.seq ae n,slots:=sl}/\
   R (.ok (.ret (.ref (s.heap.push {cls:=.type "tuple_iterator",data:=.fields #[.ref l,.int 0 0]}).objs.size)))
    {s with heap:=(s.heap.push {cls:=.type "tuple_iterator",data:=.fields #[.ref l,.int 0 0]}).push {cls:=.type "enumerate",data:=.fields #[.none,.bool false,.ref s.heap.objs.size,cK 0,.none,.none]}}):=
 .of_wp λprog w A R s h=>by
  obtain⟨hp,g,d,tk,os⟩:=s;obtain⟨hl,h⟩:=h;have hsub:=sub_enumerate;have hL:Heap.IsTuple (Shared.heap ⟨hp,g,d,tk,os⟩) l ae:=⟨_,hl,rfl,n,rfl⟩
  wp_walk using bo hl
  refine wpAny_stack_any λst=>aW ?_;split
  ·rename_i c _ _ _ _ _;cases(c==cM "enumerate")
   ·wp_walk using bo hl,wcf hL;exact⟨_,rfl,h⟩
   ·wp_walk using bo hl,wcf hL;exact⟨_,rfl,h⟩
  ·wp_walk using bo hl,wcf hL;exact⟨_,rfl,h⟩
section
variable{prog:χ}{w:ω}{A:bp}{E:L4}{s:τ}
theorem FZ{Q:L4}(hit:s.heap.IsTupleIter it t i)(ht:s.heap.IsTuple t ae)(hx:ae[i]? =some x)(hQ:∀h',h'.IsTupleIter it t (i+1)->cz it s.heap h'->Q x {s with heap:=h'}):ah (aw prog w) A (df (.ref it)) Q E s:=by
 obtain⟨o,ho,hc,hd⟩:=id hit;obtain⟨ol,hol,_,nl,hdl⟩:=ht;unfold df;refine aD (wbh (name:=bT "__next__") hit.typeIs wbt (Td wbt hit.typeIs wec ?_ (wdr _)));show ah _ _ (field (.ref it) 0>>=_) _ _ s;refine aD (XQ ho hd (x:=.ref t) rfl ?_);show ah _ _ (if(aC t==bd)=true then _ else _) _ _ s;rw[ao (show¬((aC t==bd)=true)from nG)];show ah _ _ (field (.ref it) 1>>=_) _ _ s;refine aD (XQ ho hd (x:=.int i 0) rfl ?_);show ah _ _ (seqItems? (.ref t)>>=_) _ _ s;refine aD (TY hol hdl ?_);simp only[wC,hx];refine aD (weo ho hd (by simp) (aW ⟨x,rfl,aW (hQ _ ?_ (Ef ..))⟩));exact⟨_,yep _ ho (kq (wcp hd _)),(Obj.cls_mapFields ..).trans hc,by rw[wcp hd];simp[cK]⟩
theorem u9{Q:L4}(hh:A.handled=none)(hit:s.heap.IsTupleIter it t i)(ht:s.heap.IsTuple t ae)(hx:ae[i]? =none)(hE:∀h' e,Heap.ExtBut it s.heap h'->(∃o,h'.get? e=some o/\o.cls=.type "StopIteration")->E (.ref e) {s with heap:=h'}):ah (aw prog w) A (df (.ref it)) Q E s:=by
 obtain⟨o,ho,hc,hd⟩:=id hit;obtain⟨ol,hol,_,nl,hdl⟩:=ht;unfold df;refine aD (wbh (name:=bT "__next__") hit.typeIs wbt (Td wbt hit.typeIs wec ?_ (wdr _)));show ah _ _ (field (.ref it) 0>>=_) _ _ s;refine aD (XQ ho hd (x:=.ref t) rfl ?_);show ah _ _ (if(aC t==bd)=true then _ else _) _ _ s;rw[ao (show¬((aC t==bd)=true)from nG)];show ah _ _ (field (.ref it) 1>>=_) _ _ s;refine aD (XQ ho hd (x:=.int i 0) rfl ?_);show ah _ _ (seqItems? (.ref t)>>=_) _ _ s;refine aD (TY hol hdl ?_);simp only[wC,hx];refine aD (Ww (aD (weo ho hd (by simp) ?_)));show ah _ _ (newExc (.type "StopIteration") []>>=_) _ _ _;apply aD;simp only[newExc,newTuple];refine aD (J8 ?_ (by size_fits));refine aD (m:=gh _ _) (wgk (a:=bd) (by first |rfl|(simp only[gh];rfl)) ?_);refine J8 ?_ (by size_fits);simp only[raiseNew];refine aD (wpAny_handled ?_);first |rw[show A.in1.handled=none from hh]|rw[hh]
 refine aD (aW (wpAny_throw ?_));exact hE _ _ (((Ef ..).extBut.push _).push _) ⟨_,lZ _ rfl,rfl⟩
end
theorem Draws.tup{prog:χ}{w:ω}{A:bp}(hh:A.handled=none)(it l:af)(hne:l≠it)(ae:Array ρ):
  Draws prog w A it [it,l] ae.size (λi v=>ae[i]? =some v) (λi h=>h.IsTupleIter it l i/\h.IsTuple l ae) where
 live:=λi h st=>by obtain⟨⟨o,e,_⟩,_⟩:=st;exact⟨o,e⟩
 frame:=λi h h' st k=>⟨st.1.at λo e=>k it (by simp) o e,st.2.at λo e=>k l (by simp) o e⟩
 item:=λi s Q E hi st hQ=>by
  have hx:ae[i]? =some ae[i]:=yfb hi;exact FZ st.1 st.2 hx λh' hit' hs=>hQ _ h' s.toks hx ⟨hit',st.2.at λo e=>(hs.2 l hne).trans e⟩ hs
 done:=λs Q E st hE=>u9 hh st.1 st.2 (yen (aQ _)) hE
section
variable{prog:χ}{w:ω}{A:bp}{E:L4}{s:τ}
theorem wN{Q:L4}(hL:s.heap.IsTuple l ae)(h:∀h',IsEnum h' (s.heap.objs.size+1) s.heap.objs.size 0 .none->h'.IsTupleIter s.heap.objs.size l 0->h'.objs.size=s.heap.objs.size+2->(∀b o,s.heap.get? b=some o->h'.get? b=some o)->Q (.ref (s.heap.objs.size+1)) {s with heap:=h'}):
  ah (aw prog w) A (call (.type "enumerate") [.ref l]) Q E s:=by
 obtain⟨⟨c,dct,dt,sl⟩,hl,hc,n,hd⟩:=hL;replace hc:c=.type "tuple":=hc;replace hd:dt=.seq ae n:=hd;subst hc hd;refine callType_new F.called_enumerate (by decide) (F.typeCall_enumerate_1 _) (F.newCall_enumerate_1 _) (λobj=>mN obj _) F.entry_enumerate_new (zN l ae n dct sl) ⟨hl,?_⟩;have hz:(s.heap.push {cls:=.type "tuple_iterator",data:=.fields #[.ref l,.int 0 0]}).objs.size=s.heap.objs.size+1:=Tz ..;show _/\_;rw[hz];have he:IsEnum ((s.heap.push {cls:=.type "tuple_iterator",data:=.fields #[.ref l,.int 0 0]}).push {cls:=.type "enumerate",data:=.fields #[.none,.bool false,.ref s.heap.objs.size,cK 0,.none,.none]}) (s.heap.objs.size+1) s.heap.objs.size 0 .none:=by
  have:=lZ (s.heap.push {cls:=.type "tuple_iterator",data:=.fields #[.ref l,.int 0 0]}) (o:={cls:=.type "enumerate",data:=.fields #[.none,.bool false,.ref s.heap.objs.size,cK 0,.none,.none]}) rfl;rw[hz]at this;exact this
 exact⟨⟨_,he,rfl⟩,h _ he ⟨_,fG _ (lZ _ rfl),rfl,rfl⟩ (by rw[Tz,hz]) λb o x=>fG _ (fG _ x)⟩
end
end PySem
namespace L2
open PySem PySem.Spec PyProof.Rows
section
variable{X:Cx}{aa:L3}{σ:St}{H:Hp}{s:τ}{h':bv}
theorem Inv.wZ{fp:η}{T:af}(I:Inv X aa σ H s)(k:∀b o,b∉fp->s.heap.get? b=some o->h'.get? b=some o)(hf:∀b∈fp,FpOk X aa H b)(hT:s.heap.objs.size<=T)(new:ObjOk X.prog X.w (upd H T o) h' T o):
  Inv X aa σ (upd H T o) {s with heap:=h',toks:=t'}:=by
 have hTn:H T=none:=I.hok.fresh hT;have nfp:∀b u,H b=some u->b∉fp:=λb u e z=>by rw[(hf b z).1]at e;cases e
 have neT:∀b o,s.heap.get? b=some o->b≠T:=λb o e=>gP (jo (eO e) hT);have neU:∀b u,H b=some u->b≠T:=λb u e z=>by rw[z,hTn]at e;cases e
 refine I.step (g':=s.gens) (d':=s.drawn) (ch:=fp) (λb hb=>?_) (λb o _ _ hc e _=>k b o hc e) (λb o _ _ hc e _=>⟨o.slots,k b o hc e⟩) (λb o _ e n=>by rw[cW (neT b o e)];exact n)
  (λb o hc e=>⟨o,k b o hc e⟩) (λb xs e=>by rw[cW (neU b _ e)];exact e) (λb o u e=>by rw[cW (neU b _ e)];exact e) (λb ps e=>⟨#[],by rw[cW (neU b _ e),e];simp⟩) (λm hm=>?_) (λb u e=>?_) I.bare
 ·obtain⟨f0,f1,f2,f3,f4,f5⟩:=hf b hb;exact⟨f3,f1,f4,f5⟩
 ·obtain⟨o,es,ep,ho,r⟩:=hm;exact⟨o,es,ep,k _ o (λz=>(hf _ z).2.1 rfl) ho,r⟩
 ·by_cases hb:b=T
  ·subst hb;rw[aH]at e;cases e;exact new
  ·rw[cW hb]at e;refine(I.hok b u e).stay (λc v hc q=>k c v ?_ q) (λc q=>by rw[cW (neU c _ q)];exact q) λc xs q=>by rw[cW (neU c _ q)];exact q
   rcases hc with z|z
   ·rw[z];exact nfp b u e
   ·exact nfp c _ z
theorem Inv.turns{fp:η}(I:Inv X aa σ H s)(k:∀b o,b∉fp->s.heap.get? b=some o->h'.get? b=some o)(hf:∀b∈fp,FpOk X aa H b):Inv X aa σ H {s with heap:=h',toks:=t'}:=by
 have nfp:∀b u,H b=some u->b∉fp:=λb u e z=>by rw[(hf b z).1]at e;cases e
 refine I.step (g':=s.gens) (d':=s.drawn) (ch:=fp) (λb hb=>?_) (λb o _ _ hc e _=>k b o hc e) (λb o _ _ hc e _=>⟨o.slots,k b o hc e⟩) (λb o _ e n=>n)
  (λb o hc e=>⟨o,k b o hc e⟩) (λb xs e=>e) (λb o u e=>e) (λb ps e=>⟨#[],by rw[e];simp⟩) (λm hm=>?_) (λb u e=>?_) I.bare
 ·obtain⟨f0,f1,f2,f3,f4,f5⟩:=hf b hb;exact⟨f3,f1,f4,f5⟩
 ·obtain⟨o,es,ep,ho,r⟩:=hm;exact⟨o,es,ep,k _ o (λz=>(hf _ z).2.1 rfl) ho,r⟩
 ·refine(I.hok b u e).stay (λc v hc q=>k c v ?_ q) (λc q=>q) λc xs q=>q;rcases hc with z|z
  ·rw[z];exact nfp b u e
  ·exact nfp c _ z
end
noncomputable def V6(K:ag)(b:Bool)(H:Hp)(a:af)(xs:List V):Prop:=match b with
 |false=>SqL K H a xs
 |true=>SqT K H a xs
noncomputable def Ite(K:ag)(b:Bool)(a:af)(xs:List V):It:=
 ⟨λi H=>V6 K b H a xs/\i<xs.length,λi H x H'=>∃t v,x=.ref t/\H t=none/\H'=upd H t (.tup [.int (i:Int),v])/\xs[i]? =some v,λi H=>V6 K b H a xs/\i=xs.length⟩
theorem Ep{P:χ}{w:ω}{K:ag}{es:List br}{k:Nat}{pos:eR}(a e it:af)(xs:List V)(hne:e≠it):
  Turn P w K (.Tuple es k pos) (Ite K false a xs) [e,it] e (λi h=>(∃old,IsEnum h e it (i:Int) old)/\h.IsListIter it a i) where
 mem:=by simp
 obj:=λi h st b hb=>by
  obtain⟨⟨old,he⟩,o,e1,c,d⟩:=st;rcases cX.mp hb with z|hb
  ·subst z;exact⟨_,he,λv z=>by cases z⟩
  ·have z:b=it:=by simpa using hb
   subst z;exact⟨o,e1,λv z=>by rw[d]at z;cases z⟩
 keep:=λi h h' st k=>⟨st.1.imp λold he=>k e (by simp) _ he,st.2.at λo e=>k it (by simp) o e⟩
 item:=by
  intro X hP hw hK hc i aa s σ H E I hf st hg;subst hP hw hK;obtain⟨hq0,hi⟩:=hg;have hq:SqL X.K H a xs:=hq0;obtain⟨its,rv,p,hz⟩:=I.list hq;have hx:xs[i]? =some xs[i]:=eN hi;obtain⟨u,hu,ru⟩:=rv.get hx;obtain⟨⟨old,he⟩,hit⟩:=st;refine wpAny_pyNext_enum_item he hit p.isList (x:=u) (by simpa using hu) hne λh1 ho hit1 hT hsz hk=>⟨_,rfl,?_⟩;refine jS ho λh2 he2 hs2=>?_;have Gm:cz e h1 h2:=hs2;have nTe:s.heap.objs.size≠e:=λz=>absurd (eO he) (by rw[<-z];exact uw _);have keep:∀b o,b∉[e,it]->s.heap.get? b=some o->h2.get? b=some o:=λb o hb q=>(Gm.2 b λz=>hb (by simp[z])).trans (hk b o (λz=>hb (by simp[z])) (λz=>hb (by simp[z])) q);have hT2:h2.get? s.heap.objs.size=some {cls:=.type "tuple",data:=.seq #[.int i s.toks,u]}:=(Gm.2 _ nTe).trans hT;have I2:=I.wZ (h':=h2) (t':=s.toks+1) (o:=.tup [.int (i:Int),xs[i]]) keep hf (aQ _) ⟨szl,[.int i s.toks,u],.cons ⟨_,rfl⟩ (.cons ru .nil),_,hT2,rfl,_,rfl⟩;exact⟨.ref s.heap.objs.size,_,I2,rfl,⟨_,_,rfl,I.hok.fresh (aQ _),rfl,hx⟩,⟨⟨_,by simpa using he2⟩,hit1.at λo q=>(Gm.2 it hne.symm).trans q⟩,λb hb=>by
   rw[cW (λz=>?_)]
   ·exact(hf b hb).1
   ·obtain⟨_,q1,_⟩:=hit;rcases cX.mp hb with y|y
    ·exact nTe (z.symm.trans y)
    ·have y:b=it:=by simpa using y
     rw[<-y,z]at q1;exact absurd (eO q1) (uw _)⟩
 done:=by
  intro X hP hw hK hc i aa s σ H E I hf st hg;subst hP hw hK;obtain⟨hq0,hi⟩:=hg;have hq:SqL X.K H a xs:=hq0;obtain⟨its,rv,p,hz⟩:=I.list hq;have hl:=rv.length;obtain⟨⟨old,he⟩,hit⟩:=st;exact wpAny_pyNext_enum_end (I.ok.hd hc) he hit p.isList (by simp;omega) λh' eb=>⟨rfl,I.turns (t':=s.toks) (fp:=[e,it]) (λb o hb q=>eb b o (λz=>hb (by simp[z])) q) hf⟩
 self:=λ_ _ _ _ _ st h=>by
  obtain⟨⟨old,he⟩,_⟩:=st;exact wda he h
theorem Eo{P:χ}{w:ω}{K:ag}{es:List br}{k:Nat}{pos:eR}(a e it:af)(xs:List V)(hne:e≠it)(hat:a≠it)(hae:a≠e):
  Turn P w K (.Tuple es k pos) (Ite K true a xs) [e,it] e (λi h=>(∃old,IsEnum h e it (i:Int) old)/\h.IsTupleIter it a i) where
 mem:=by simp
 obj:=λi h st b hb=>by
  obtain⟨⟨old,he⟩,o,e1,c,d⟩:=st;rcases cX.mp hb with z|hb
  ·subst z;exact⟨_,he,λv z=>by cases z⟩
  ·have z:b=it:=by simpa using hb
   subst z;exact⟨o,e1,λv z=>by rw[d]at z;cases z⟩
 keep:=λi h h' st k=>⟨st.1.imp λold he=>k e (by simp) _ he,st.2.at λo e=>k it (by simp) o e⟩
 item:=by
  intro X hP hw hK hc i aa s σ H E I hf st hg;subst hP hw hK;obtain⟨hq0,hi⟩:=hg;have hq:SqT X.K H a xs:=hq0;obtain⟨its,rv,p,hz⟩:=I.tuple hq;have hx:xs[i]? =some xs[i]:=eN hi;obtain⟨u,hu,ru⟩:=rv.get hx;obtain⟨⟨old,he⟩,hit⟩:=st;have hl:=rv.length;have pt:s.heap.IsTuple a its.toArray:=p;have D:=Draws.tup (prog:=X.prog) (w:=X.w) (A:=X.A.in1) (I.ok.hd hc) it a hat its.toArray;refine wpAny_pyNext_enum_itemD D he ⟨hit,pt⟩ (by simp;omega) hne (by simp;exact⟨hne,λz=>hae z.symm⟩) λy h1 tk hy ho aby hT hsz hk=>⟨_,rfl,?_⟩;have ey:y=u:=by
   have hu':its.toArray[i]? =some u:=by simpa using hu
   rw[hu']at hy;exact(ux hy).symm
  subst ey;refine jS ho λh2 he2 hs2=>?_;have Gm:cz e h1 h2:=hs2;have nTe:s.heap.objs.size≠e:=λz=>absurd (eO he) (by rw[<-z];exact uw _);have keep:∀b o,b∉[e,it]->s.heap.get? b=some o->h2.get? b=some o:=λb o hb q=>(Gm.2 b λz=>hb (by simp[z])).trans (hk b o (λz=>hb (by simp[z])) (λz=>hb (by simp[z])) q);have hT2:h2.get? s.heap.objs.size=some {cls:=.type "tuple",data:=.seq #[.int i tk,y]}:=(Gm.2 _ nTe).trans hT;have I2:=I.wZ (h':=h2) (t':=tk+1) (o:=.tup [.int (i:Int),xs[i]]) keep hf (aQ _) ⟨szl,[.int i tk,y],.cons ⟨_,rfl⟩ (.cons ru .nil),_,hT2,rfl,_,rfl⟩;exact⟨.ref s.heap.objs.size,_,I2,rfl,⟨_,_,rfl,I.hok.fresh (aQ _),rfl,hx⟩,⟨⟨_,by simpa using he2⟩,aby.1.at λo q=>(Gm.2 it hne.symm).trans q⟩,λb hb=>by
   rw[cW (λz=>?_)]
   ·exact(hf b hb).1
   ·obtain⟨_,q1,_⟩:=hit;rcases cX.mp hb with y|y
    ·exact nTe (z.symm.trans y)
    ·have y:b=it:=by simpa using y
     rw[<-y,z]at q1;exact absurd (eO q1) (uw _)⟩
 done:=by
  intro X hP hw hK hc i aa s σ H E I hf st hg;subst hP hw hK;obtain⟨hq0,hi⟩:=hg;have hq:SqT X.K H a xs:=hq0;obtain⟨its,rv,p,hz⟩:=I.tuple hq;have hl:=rv.length;obtain⟨⟨old,he⟩,hit⟩:=st;have pt:s.heap.IsTuple a its.toArray:=p;have ei:i=its.toArray.size:=by rw[gw];omega
  subst ei;have D:=Draws.tup (prog:=X.prog) (w:=X.w) (A:=X.A.in1) (I.ok.hd hc) it a hat its.toArray;exact wpAny_pyNext_enum_endD D he ⟨hit,pt⟩ λh' eb=>⟨rfl,I.turns (t':=s.toks) (fp:=[e,it]) (λb o hb q=>eb b o (λz=>hb (by simp[z])) q) hf⟩
 self:=λ_ _ _ _ _ st h=>by
  obtain⟨⟨old,he⟩,_⟩:=st;exact wda he h
section
variable{X:Cx}{es:List br}{k:Nat}{Uo:eR}
noncomputable def aaD(K:ag)(ta:TA):TI:=λσ H R=>ta σ H λvs H1=>∃(b:Bool) (a:af) (xs:List V),vs=[.ref a]/\V6 K b H1 a xs/\(xs.length<=sizeLine->R (Ite K b a xs) H1)
theorem pH{a:br}{ta:TA}{p pos:eR}(hg:Gl X "enumerate")(hm:X.mg "enumerate"=none)(ha:PA X [a] ta)(hs:az [a] X.env=[(false,cx a X.env)]:=by rfl):
  PI X (.Tuple es k Uo) (.Call (.Name "enumerate" p) [a] [] pos) (aaD X.K ta):=by
 intro aa s σ H R I h;refine Call_ (ld_blt I hg hm (show bP "enumerate"=some (.type "enumerate")from by decide+kernel) (Tf (thn (ha pos aa s σ H _ I h) λus s1 ⟨vs,H1,I1,r1,q1⟩=>?_) hs rfl));obtain⟨b,l,xs,e,hq,q⟩:=q1;subst e;cases r1 with
 |cons r rr=>
  cases rr;cases r;cases b with
  |false=>
   obtain⟨its,rv,pl,hz⟩:=I1.list (show SqL X.K H1 l xs from hq);refine call_enumerate_list pl.isList λh' he hit hsz hk=>?_;refine wda he ?_;have I2:Inv X aa σ H1 {s1 with heap:=h'}:=I1.kept (t':=s1.toks) hk;have hne:s1.heap.objs.size+1≠s1.heap.objs.size:=Nat.succ_ne_self _;refine⟨s1.heap.objs.size+1,[s1.heap.objs.size+1,s1.heap.objs.size],_,_,H1,rfl,I2,Ep l _ _ xs hne,⟨⟨_,he⟩,hit⟩,λc hc=>?_,q hz⟩;rcases cX.mp hc with z|z
   ·subst z;exact I1.fpOk (HD _) (I1.hok.fresh (HD _))
   ·have z:c=s1.heap.objs.size:=by simpa using z
    subst z;exact I1.fpOk (aQ _) (I1.hok.fresh (aQ _))
  |true=>
   obtain⟨its,rv,pl,hz⟩:=I1.tuple (show SqT X.K H1 l xs from hq);have pt:s1.heap.IsTuple l its.toArray:=pl;have hlt:l<s1.heap.objs.size:=by obtain⟨_,e,_⟩:=id pt;exact eO e
   refine wN pt λh' he hit hsz hk=>?_;refine wda he ?_;have I2:Inv X aa σ H1 {s1 with heap:=h'}:=I1.kept (t':=s1.toks) hk;have hne:s1.heap.objs.size+1≠s1.heap.objs.size:=Nat.succ_ne_self _;refine⟨s1.heap.objs.size+1,[s1.heap.objs.size+1,s1.heap.objs.size],_,_,H1,rfl,I2,Eo l _ _ xs hne (gP hlt) (gP (wW hlt)),⟨⟨_,he⟩,hit⟩,λc hc=>?_,q hz⟩;rcases cX.mp hc with z|z
   ·subst z;exact I1.fpOk (HD _) (I1.hok.fresh (HD _))
   ·have z:c=s1.heap.objs.size:=by simpa using z
    subst z;exact I1.fpOk (aQ _) (I1.hok.fresh (aQ _))
end
section
variable{ini:St}{H:Hp}{g:TG}{tc:TT}{te:TE}{Fin:List V->Hp->Prop}{K:ag}{b:Bool}{a:af}{xs:List V}
theorem jj(Pv:Nat->List V->St->Hp->Prop)(h0:Pv 0 [] ini H)(hl:∀(i:Nat) acc σ H,i<=xs.length->Pv i acc σ H->V6 K b H a xs)(hz:∀(i:Nat) acc σ H,i<=xs.length->Pv i acc σ H->acc.length<=i)(hx:xs.length<=sizeLine)(hs:∀(i:Nat) v t acc σ H,xs[i]? =some v->Pv i acc σ H->H t=none->g (.ref t) σ (upd H t (.tup [.int (i:Int),v])) λσ2 H2=>tc σ2 H2 λb H3=>if b=true then te σ2 H3 λv H4=>Pv (i+1) (acc++[v]) σ2 H4 else Pv (i+1) acc σ2 H3)(hd:∀acc σ H,Pv xs.length acc σ H->Fin acc H):DY (Ite K b a xs) ini H g tc te Fin:=by
 refine⟨λi m acc σ H=>m=xs.length-i/\i<=xs.length/\Pv i acc σ H,⟨xs.length,by simp,dX _,h0⟩,?_⟩;rintro i m acc σ H ⟨rfl,hi,p⟩;have q:=hl i acc σ H hi p;have z:=hz i acc σ H hi p;by_cases hlt:i<xs.length
 ·refine .inr ⟨⟨q,hlt⟩,by omega,λacc σ H=>Pv (i+1) acc σ H,λacc' σ' H' r=>⟨_,by omega,rfl,hlt,r⟩,λx H' y=>?_⟩;obtain⟨t,v,rfl,ht,rfl,hv⟩:=y;exact hs i v t acc σ H hv p ht
 ·have e:i=xs.length:=by omega
  subst e;exact .inl ⟨⟨q,rfl⟩,by omega,hd acc σ H p⟩
end
section
variable{X:Cx}
theorem Bx(K:ag)(h:X.K=K:=by rfl):OpR X (cA .Add) (Pz K):=by subst h;exact Ut
end
theorem V6.same{K:ag}(h:V6 K b H a xs)(e:Same H H'):V6 K b H' a xs:=by
 cases b with
 |false=>exact e.seq (show SqL K H a xs from h)
 |true=>exact e.tup (show SqT K H a xs from h)
theorem M5(I:St->Hp->Prop)(h1:∀N:St->Hp->Prop,(∀σ' H',I σ' H'->N σ' H')->s {D with nx:=N} σ H)(h2:∀σ' H',I σ' H'->u D σ' H'):tSeq s u D σ H:=h1 (u D) h2
theorem GK:∀(names:List (bg×cB)) (n:Nat) (acc:List (bg×af)) {x:bg}{c:af},(x,c)∈cf n names acc->(x,c)∈acc\/((x,be)∈names/\n<=c)
 |[],_,_,_,_,h=>.inl h
 |(nm,k)::r,n,acc,x,c,h=>by
  unfold cf at h;split at h
  ·rename_i hk;have ek:k=NameKind.cell:=by simpa using hk
   rcases GK r _ _ h with q|⟨q,m⟩
   ·rcases cX.mp q with e|e
    ·cases e;subst ek;exact .inr ⟨cC,aQ _⟩
    ·exact .inl e
   ·exact .inr ⟨cY _ q,by omega⟩
  ·rcases GK r _ _ h with q|⟨q,m⟩
   ·exact .inl q
   ·exact .inr ⟨cY _ q,m⟩
theorem zV:∀(names:List (bg×cB)) (n:Nat) (acc:List (bg×af)) {p:bg×af},p∈acc->p∈cf n names acc
 |[],_,_,_,h=>h
 |(nm,k)::r,n,acc,p,h=>by
  unfold cf;split
  ·exact zV r _ _ (cY _ h)
  ·exact zV r _ _ h
theorem GR:∀(names:List (bg×cB)) (n:Nat) (acc:List (bg×af)) {x:bg},(x,be)∈names->∃c,(x,c)∈cf n names acc
 |(nm,k)::r,n,acc,x,h=>by
  unfold cf;rcases cX.mp h with e|e
  ·cases e;rw[au (show(be==be)=true from rfl)];exact⟨n,zV r _ _ cC⟩
  ·split
   ·exact GR r _ _ e
   ·exact GR r _ _ e
theorem GQ:∀(names:List (bg×cB)) (n:Nat) (acc:List (bg×af)),n0<=n->(∀x y c,(x,c)∈acc->(y,c)∈acc->n0<=c->x=y)->(∀x c,(x,c)∈acc->c<n)->∀x y c,(x,c)∈cf n names acc->(y,c)∈cf n names acc->n0<=c->x=y
 |[],_,_,_,h,_=>h
 |(nm,k)::r,n,acc,hn,h,hl=>by
  unfold cf;split
  ·refine GQ r (n+1) ((nm,n)::acc) (by omega) (λx y c hx hy hc=>?_) (λx c hx=>?_)
   ·rcases cX.mp hx with e1|e1<;>rcases cX.mp hy with e2|e2
    ·cases e1;cases e2;rfl
    ·cases e1;exact absurd (hl _ _ e2) (uw _)
    ·cases e2;exact absurd (hl _ _ e1) (uw _)
    ·exact h x y c e1 e2 hc
   ·rcases cX.mp hx with e1|e1
    ·cases e1;exact wA _
    ·exact wW (hl _ _ e1)
  ·exact GQ r n acc hn h hl
theorem zU:∀(names:List (bg×cB)) (h:bv) (acc:List (bg×af)) {x:bg}{c:af},(x,c)∈cf h.objs.size names acc->(x,c)∈acc\/(lz h names).IsCell c none
 |[],_,_,_,_,h=>.inl h
 |(nm,k)::r,h,acc,x,c,hm=>by
  unfold cf at hm;unfold lz;split at hm
  ·rename_i hk;rw[au hk];have hm':(x,c)∈cf (h.push {cls:=.type "cell",data:=.cell none}).objs.size r ((nm,h.objs.size)::acc):=by rw[Tz];exact hm
   rcases zU r (h.push {cls:=.type "cell",data:=.cell none}) _ hm' with q|q
   ·rcases cX.mp q with e|e
    ·cases e;exact .inr ⟨_,wed _ _ _ _ (lZ _ rfl),rfl⟩
    ·exact .inl e
   ·exact .inr q
  ·rename_i hk;rw[ao hk];exact zU r h acc hm
theorem U8{E:L4}{Q:kF->τ->Prop}(hQ:Q (newEnv scope s.heap.objs.size globals (cf (s.heap.objs.size+1) scope.names closure) qual none bd (some env) 0) {s with heap:=lz (s.heap.push {cls:=.type "dict",data:=.dict #[]}) scope.names}):
  ah M A (k8 scope globals closure [] qual none .none (some env)) Q E s:=by
 simp only[k8,ku,S8];refine aD (wpAny_alloc ?_);refine aD (wpAny_layCells _ (λname kind cells=>by cases hkc:kind==be<;>simp[hkc]) _ _ _ _ ?_);rw[List.forIn_nil];refine aD (aW (aW ?_));rw[show({s with heap:=s.heap.push {cls:=.type "dict",data:=.dict #[]}}:τ).heap.objs.size=s.heap.objs.size+1 from Tz ..];exact hQ
noncomputable def aV(sc scope:dC):Bool:=scope.names.all λp=>(p.2 !=be||scope.names.lookup p.1==some be)&&(p.2 !=NameKind.local||scope.names.lookup p.1==some NameKind.local)&&
 (p.2 !=av||(scope.names.lookup p.1==some av&&(sc.names.lookup p.1==some be||sc.names.lookup p.1==some av)))
section
variable{sc scope:dC}
theorem aV.cell(h:aV sc scope=true)(hy:(x,be)∈scope.names):scope.names.lookup x=some .cell:=by
 have q:=iW.mp h _ hy;simpa using q
theorem aV.names(h:aV sc scope=true):∀y∈scope.names,y.2=.local->scope.names.lookup y.1=some .local:=λy hy e=>by
 have q:=iW.mp h y hy;simpa[e]using q
theorem aV.free(h:aV sc scope=true)(hy:(x,av)∈scope.names):scope.names.lookup x=some .free/\(sc.names.lookup x=some .cell\/sc.names.lookup x=some .free):=by
 have q:=iW.mp h _ hy;simpa using q
end
theorem Bt(h:(fw scope env).names.lookup x=some .cell\/(fw scope env).names.lookup x=some .free):(x,av)∈scope.names\/(x,be)∈scope.names:=by
 cases e:scope.names.lookup x with
 |none=>
  have q:=uT (env:=env) e;rcases h with h|h
  ·rw[show(fw scope env).names.lookup x=none from q]at h;cases h
  ·rw[show(fw scope env).names.lookup x=none from q]at h;cases h
 |some k=>
  have q:=nW (env:=env) e;have m:=En e;by_cases hk:k=.free
  ·subst hk;exact .inl m
  ·have q':(fw scope env).names.lookup x=some k:=by
    refine Eq.trans q ?_;have:(k==av)=false:=by simpa using hk
    simp[this]
   rw[q']at h;rcases h with h|h
   ·cases h;exact .inr m
   ·cases h;exact absurd rfl hk
noncomputable def bM(X:Cx)(scope:dC)(N:List bg)(s:τ)(H:Hp)(cl:List (bg×af))(C:af)(ex:η):Cx:=
 {X with N:=N,s₀:=s,H₀:=H,env:=compEnvC scope cl C X.env,outer:=X.stack,ex:=ex,fn:=λx=>scope.names.lookup x==some be,pn:=[],xe:=λ_ _=>False}
section
variable{X:Cx}{tg iter elt:br}{ifs:List br}{scope:dC}{pos:eR}{own caps:List bg}{ix:List Nat}{g:TG}{tc:TT}{te:TE}
noncomputable abbrev MK(X:Cx)(scope:dC)(C:af):List (bg×af):=cf (C+1) scope.names (fB X.env.cells scope.names [])
theorem zT{σ:St}(ck:aV X.env.scope scope=true)(I:Inv X aa σ H s)(e:(MK X scope C).lookup x=some c):
  (X.env.cells.lookup x=some c/\(x,av)∈scope.names)\/((x,be)∈scope.names/\C<c/\(x,c)∉fB X.env.cells scope.names []):=by
 have old:(x,c)∈fB X.env.cells scope.names []->X.env.cells.lookup x=some c/\(x,av)∈scope.names:=λq=>by
  rcases lA q with q|⟨q,mm⟩
  ·cases q
  ·obtain⟨d,hd⟩:=I.ok.has x (aV.free ck mm).2;rw[hd]at q;have q:c=d:=q;rw[q];exact⟨hd,mm⟩
 rcases GK _ _ _ (En e)with q|⟨q,m⟩
 ·exact .inl (old q)
 ·refine .inr ⟨q,m,λz=>?_⟩;have h1:=aV.cell ck q;have h2:=(aV.free ck (old z).2).1;rw[h1]at h2;cases h2
theorem Dl{aa:L3}{s s':τ}{σ:St}{H:Hp}{fp:η}{C:af}{m:L5}(ck:aV X.env.scope scope=true)(hkind:scope.kind=.function)(hcap:g8 X scope caps ix)
  (I:Inv X aa σ H s)(f2:∀b∈fp,FpOk X aa H b)(hlt:∀b∈fp,b<s.heap.objs.size)(hC:s.heap.objs.size<=C)(hos:s'.os=s.os)(hg:fc s'.gens)(hk:∀b o,s.heap.get? b=some o->s'.heap.get? b=some o)(hn:s'.heap.Ns C m)(hcl:∀x c,(MK X scope C).lookup x=some c->(x,c)∉fB X.env.cells scope.names []->s'.heap.IsCell c none):
  Inv (bM X scope (own++caps) s H (MK X scope C) C fp) [] (Cw own ix σ) H s':=by
 have cl1:=λx c e=>zT (C:=C) (x:=x) (c:=c) ck I e;have Jf:∀x c,X.env.cells.lookup x=some c->c<s.heap.objs.size:=λx c e=>by
  obtain⟨v,o,ho,_⟩:=I.cell x c e;exact eO ho
 have cl2:∀x,(x,av)∈scope.names\/(x,be)∈scope.names->∃c,(MK X scope C).lookup x=some c:=λx mm=>by
  rcases mm with mm|mm
  ·obtain⟨c,hc⟩:=vR (cells:=X.env.cells) (acc:=[]) mm;obtain⟨d,hd,_⟩:=zbh (zV scope.names (C+1) _ hc);exact⟨d,hd⟩
  ·obtain⟨c,hc⟩:=GR scope.names (C+1) (fB X.env.cells scope.names []) mm;obtain⟨d,hd,_⟩:=zbh hc;exact⟨d,hd⟩
 have inj:∀x y c,(MK X scope C).lookup x=some c->(MK X scope C).lookup y=some c->x=y:=λx y c h1 h2=>by
  rcases cl1 x c h1 with⟨q1,_⟩|⟨q1,m1,_⟩<;>rcases cl1 y c h2 with⟨q2,_⟩|⟨q2,m2,_⟩
  ·exact I.ok.inj x y c q1 q2
  ·exact absurd (Tw (jo (Jf x c q1) hC) m2) (uw _)
  ·exact absurd (Tw (jo (Jf y c q2) hC) m1) (uw _)
  ·refine GQ (n0:=C+1) scope.names (C+1) _ (aQ _) (λx y c hx hy hc=>?_) (λx c hx=>?_) x y c (En h1) (En h2) m1
   ·obtain⟨d,hd,_⟩:=zbh hx;rcases lA hx with q|⟨q,mm⟩
    ·cases q
    ·obtain⟨d,hd⟩:=I.ok.has x (aV.free ck mm).2;rw[hd]at q;have q:c=d:=q;subst q;exact absurd (jo (jo (Jf x c hd) hC) (dN hc)) (uw _)
   ·rcases lA hx with q|⟨q,mm⟩
    ·cases q
    ·obtain⟨d,hd⟩:=I.ok.has x (aV.free ck mm).2;rw[hd]at q;have q:c=d:=q;subst q;exact wW (jo (Jf x c hd) hC)
 have bsz:X.base.objs.size<=s.heap.objs.size:=bR I.ok.bsz I.sz;refine⟨⟨I.ok.mod,hkind,I.ok.glob,I.ok.blt,hC,inj,λx hx=>cl2 x (Bt hx),λx c h e=>?cab,I.ok.hd,I.ok.frames,.inl rfl,λb hb=>⟨gP (jo (hlt b hb) hC),λx c e=>?exf⟩,I.bs,bsz,
  λb o e hb=>?_,λb hb hz=>?_,I.stack,I.stkFree⟩,?_,hg,Un.kept hk,⟨m,hn,λi x v h1 h2 h3=>?_⟩,λx c e=>?_,I.hok.fresh hC,λx c e=>?frc,λp hp=>absurd (show p∈([]:L3)from hp) (by simp),I.hok.kept hk,?_⟩
 case cab=>
  rcases cl1 x c e with⟨_,q⟩|⟨_,q,_⟩
  ·have y1:=(aV.free ck q).1;have y2:(scope.names.lookup x==some be)=true:=h;rw[y1]at y2;exact absurd y2 (by decide)
  ·exact bR hC (dN q)
 case exf=>
  rcases cl1 x c e with⟨q,_⟩|⟨_,q,_⟩
  ·exact(f2 b hb).2.2.2.2.1 x c q
  ·exact mQ (gP (Tw (jo (hlt b hb) hC) q))
 case frc=>
  rcases cl1 x c e with⟨q,_⟩|⟨_,q,_⟩
  ·exact I.freeC x c q
  ·exact I.hok.fresh (bR hC (dN q))
 ·rcases(f2 b hb).2.2.2.1 with z|z
  ·exact I.ok.noex b o e z
  ·exact absurd (jo (eO e) (bR I.ok.bsz z)) (uw _)
 ·rcases cX.mp (I.stkSub b hz)with z|z
  ·exact(f2 b hb).2.1 z
  ·exact(f2 b hb).2.2.1 z
 ·exact hos
 ·have h1:(own++caps)[i]? =some x:=h1;have h2:(own.map (λ_=>(none:Option V))++ix.map λj=>(σ[j]?).join)[i]? =some (some v):=h2;by_cases hi:i<own.length
  ·rw[ydw (by simpa using hi),cV]at h2;cases e:own[i]? <;>rw[e]at h2<;>simp at h2
  ·rw[yda (by simpa using hi)]at h2;rw[yda (by omega)]at h1;rw[aF]at h2;obtain⟨j,e1,e2,e3⟩:=hcap.get h1;rw[cV,e1]at h2;have h2':(σ[j]?).join=some v:=by simpa using h2
   have h4:σ[j]? =some (some v):=by
    cases q:σ[j]? with
    |none=>rw[q]at h2';cases h2'
    |some w=>rw[q]at h2';exact gR some h2'
   obtain⟨m0,hn0,hl0⟩:=I.loc;have mm:=En e3;have vis:=(aV.free ck mm).2;obtain⟨u,r,l⟩:=hl0 j x v e2 h4 (.inr vis);refine⟨u,r,.inr ?_⟩;rcases l with⟨k,_⟩|⟨k,c,e,z⟩
   ·rcases vis with q|q
    ·rw[show X.env.kindOf x=some .cell from q]at k;cases k
    ·rw[show X.env.kindOf x=some .free from q]at k;cases k
   ·obtain⟨d,hd⟩:=cl2 x (.inl mm);rcases cl1 x d hd with⟨this,_⟩|⟨qc,_⟩
    ·rw[e]at this;cases this;exact⟨Fp e3,c,hd,z.keeps hk⟩
    ·have y1:=aV.cell ck qc;rw[e3]at y1;cases y1
 ·rcases cl1 x c e with⟨q,_⟩|⟨_,_,q⟩
  ·obtain⟨v,z⟩:=I.cell x c q;exact⟨v,z.keeps hk⟩
  ·exact⟨none,hcl x c e q⟩
 ·show(own.map (λ_=>(none:Option V))++ix.map λj=>(σ[j]?).join).length=(own++caps).length;simp[hcap.len]
theorem vQ(ck:aV X.env.scope scope=true)(hkind:scope.kind=.function)(hcap:g8 X scope caps ix)(hc:X.calm=true)(hg:∀s H cl C ex,PG (bM X scope (own++caps) s H cl C ex) tg g)(ht:∀s H cl C ex,Xi (bM X scope (own++caps) s H cl C ex) ifs tc)(he:∀s H cl C ex,PE (bM X scope (own++caps) s H cl C ex) elt te){aa:L3}{s2:τ}{σ:St}{H2:Hp}{E:L4}(I2:Inv X aa σ H2 s2){it:af}{fp:η}{tn:Nat->bv->Prop}{J:It}(T:Turn X.prog X.w X.K tg J fp it tn)(st2:tn 0 s2.heap)(f2:∀b∈fp,FpOk X aa H2 b)
  {W:Nat->Nat->List V->St->Hp->Prop}{m0:Nat}(w0:W 0 m0 [] (Cw own ix σ) H2){Fin:List V->Hp->Prop}(turn:∀i m acc σ H,W i m acc σ H->(J.stop i H/\acc.length<=sizeLine/\Fin acc H)\/(J.go i H/\acc.length<sizeLine/\∃N:List V->St->Hp->Prop,(∀acc' σ' H',N acc' σ' H'->∃m',m'<m/\W (i+1) m' acc' σ' H')/\∀x H',J.yld i H x H'->g x σ H' λσ2 H2=>tc σ2 H2 λb H3=>
   if b=true then te σ2 H3 λv H4=>N (acc++[v]) σ2 H4 else N acc σ2 H3))
  {RR:ρ->af->Result->τ->Prop}(hRR:∀D C s' acc Hf m,Inv X aa σ (upd Hf D (.lst acc)) s'->Hf D=none->s'.heap.Ns C m->FpOk X aa (upd Hf D (.lst acc)) C->Fin acc Hf->RR (.ref D) C (.ok .next) s'):
  ah (aw X.prog X.w) X.A (newList []) (λacc s₃=>ah (aw X.prog X.w) X.A (k8 scope X.env.globals (fB X.env.cells scope.names []) [] X.env.qual none .none (some X.env)) (λcenv s₄=>
   eI (aw X.prog X.w) X.A (.compStart (.ListComp elt [⟨tg,iter,ifs,0⟩] scope pos) 0 (.ref it) acc {cenv with scope:=fw scope X.env}) (RR acc cenv.locals) s₄) E s₃) E s2:=by
 refine J8 (U8 ?_);generalize hP:s2.heap.push {cls:=.type "list",dict:=none,data:=.seq ([]:List ρ).toArray}=P1;have hC:P1.objs.size=s2.heap.objs.size+1:=by rw[<-hP,Tz]
 have hlt:∀b∈fp,b<s2.heap.objs.size:=λb hb=>by
  obtain⟨o,e,_⟩:=T.obj _ _ st2 b hb;exact eO e
 generalize hh1:lz (P1.push {cls:=.type "dict",data:=.dict #[]}) scope.names=h₁;have hns₁:h₁.Ns P1.objs.size (λ_=>none):=by rw[<-hh1];exact(Heap.Ns.new P1 (.type "dict")).keeps (wed _ _)
 have old:∀b o,s2.heap.get? b=some o->h₁.get? b=some o:=λb o e=>by
  rw[<-hh1];exact wed _ _ b o (fG _ (hP▸fG _ e))
 have hD1:h₁.get? s2.heap.objs.size=some {cls:=.type "list",data:=.seq ([]:List ρ).toArray 0}:=by
  rw[<-hh1];exact wed _ _ _ _ (fG _ (hP▸lZ _ rfl))
 have aaH:∀x c,(MK X scope P1.objs.size).lookup x=some c->(x,c)∉fB X.env.cells scope.names []->h₁.IsCell c none:=λx c e n=>by
  have e':(x,c)∈cf (P1.objs.size+1) scope.names (fB X.env.cells scope.names []):=En e;rw[show P1.objs.size+1=(P1.push {cls:=.type "dict",data:=.dict #[]}).objs.size from(Tz ..).symm]at e';rcases zU _ _ _ e' with q|q
  ·exact absurd q n
  ·rw[<-hh1];exact q
 show eI (aw X.prog X.w) X.A (.compStart (.ListComp elt [⟨tg,iter,ifs,0⟩] scope pos) 0 (.ref it) (.ref s2.heap.objs.size) {newEnv scope P1.objs.size X.env.globals (MK X scope P1.objs.size) X.env.qual none bd (some X.env) 0 with scope:=fw scope X.env}) (RR (.ref s2.heap.objs.size) P1.objs.size) {s2 with heap:=h₁};generalize Vw:s2.heap.objs.size=D at *;rw[hC]at hns₁ aaH⊢;have entry:Inv (bM X scope (own++caps) s2 H2 (MK X scope (D+1)) (D+1) fp) [] (Cw own ix σ) H2 {s2 with heap:=h₁}:=
  Dl ck hkind hcap I2 f2 (by rw[Vw];exact hlt) (by rw[Vw];exact HD _) rfl I2.bare old hns₁ aaH
 generalize hX':bM X scope (own++caps) s2 H2 (MK X scope (D+1)) (D+1) fp=X' at entry;have eP:X'.prog=X.prog:=by rw[<-hX'];rfl
 have ew:X'.w=X.w:=by rw[<-hX'];rfl
 have eK:X'.K=X.K:=by rw[<-hX'];rfl
 have eA:X'.A=X.A:=by rw[<-hX'];rfl
 have Xe:X'.calm=true:=by rw[<-hX'];exact hc
 have efs:X'.fs=frs X.stack:=by rw[<-hX'];rfl
 have eex:X'.ex=fp:=by rw[<-hX'];rfl
 have epn:X'.pn=[]:=by rw[<-hX'];rfl
 have es0:X'.s₀=s2:=by rw[<-hX'];rfl
 have eH0:X'.H₀=H2:=by rw[<-hX'];rfl
 have exe:X'.xe=λ_ _=>False:=by rw[<-hX'];rfl
 have V1:X'.env=compEnvC scope (MK X scope (D+1)) (D+1) X.env:=by rw[<-hX'];rfl
 have Rv:X'.env.locals=D+1:=by rw[V1];rfl
 have hg':PG X' tg g:=by rw[<-hX'];exact hg _ _ _ _ _
 have ht':Xi X' ifs tc:=by rw[<-hX'];exact ht _ _ _ _ _
 have he':PE X' elt te:=by rw[<-hX'];exact he _ _ _ _ _
 have ecl:∀x c,X'.env.cells.lookup x=some c->c≠D:=λx c e=>by
  rw[V1]at e;rcases zT (C:=D+1) ck I2 e with⟨q,_⟩|⟨_,q,_⟩
  ·obtain⟨v',o',ho',_⟩:=I2.cell x c q;exact gP (by rw[<-Vw];exact eO ho')
  ·exact mQ (gP (Tw (wA D) q))
 have dfs:D∉frs X.stack:=λhb=>by
  rcases cX.mp (I2.stkSub D hb)with z|z
  ·exact absurd (Nat.lt_of_lt_of_eq I2.lt Vw) (by rw[z];exact uw _)
  ·exact I2.nofs (HJ Vw) z
 have fpn:∀{H':Hp}{o:kE},(∀b∈fp,H' b=none)->∀b∈fp,FpOk X' [(D,o)] H' b:=λ{H' o} hn b hb=>by
  have hbl:=hlt b hb;refine⟨hn b hb,by rw[Rv];exact gP (wW hbl),?_,.inl (by rw[eex];exact hb),λx c e=>?_,λp hp=>?_⟩
  ·rw[efs];intro z;rcases cX.mp (I2.stkSub b z)with z|z
   ·exact(f2 b hb).2.1 z
   ·exact(f2 b hb).2.2.1 z
  ·rw[V1]at e;rcases zT (C:=D+1) ck I2 e with⟨q,_⟩|⟨_,q,_⟩
   ·exact(f2 b hb).2.2.2.2.1 x c q
   ·exact mQ (gP (Tw (wW hbl) q))
  ·rw[epn]at hp;have:p=(D,o):=by simpa using hp
   rw[this];exact HN hbl
 have abj:∀{σ':St}{H':Hp}{s':τ}{o:kE},Inv X' [] σ' H' s'->s'.heap.get? D=some o->H' D=none->(∀v,o.data≠.cell v)->Inv X' [(D,o)] σ' H' s':=λ{σ' H' s' o} I e n d=>
  I.pins_of λp hp=>by
   have:p=(D,o):=by simpa using hp
   subst this;exact⟨e,n,by rw[Rv];exact gP (wA D),by rw[efs];exact dfs,d⟩
 have loop:∀s₃:τ,s₃={s2 with heap:=h₁}->
   eI (aw X.prog X.w) X.A (.compLoop (.ListComp elt [⟨tg,iter,ifs,0⟩] scope pos) 0 (.ref it) (.ref D) X'.env) (RR (.ref D) (D+1)) s₃:=by
  intro s₃ hs₃;refine codeAny_loop rfl (λn s'=>∃i acc its k σ' H',Inv X' [] σ' H' s'/\tn i s'.heap/\(∀b∈fp,H' b=none)/\s'.heap.get? D=some {cls:=.type "list",data:=.seq (bn its) k}/\Vals acc its/\H' D=none/\W i n acc σ' H') ?_ m0
   ⟨0,[],[],0,Cw own ix σ,H2,by rw[hs₃];exact entry,by rw[hs₃];exact T.keep _ _ _ st2 λb _ o e=>old b o e,λb hb=>(f2 b hb).1,by rw[hs₃];exact hD1,.nil,I2.hok.fresh (HJ Vw),w0⟩
  rintro n s3 ⟨i,acc,its,k,σ3,H3,I3,st3,fr3,eD,rv,nD,w3⟩;show ah _ X.A ((compTurn (.ListComp elt [⟨tg,iter,ifs,0⟩] scope pos) 0 (.ref it) (.ref D) X'.env).onRaise (λx=>do noteFrame x X'.env;theTreesLotGoes x)) _ _ s3;apply wpAny_noted;rw[compTurn_list];have noE:∀{α:Type}{t:Sem α}{Q:α->τ->Prop}{E':L4}{s:τ},ah (aw X'.prog X'.w) X'.A t Q X'.xe s->ah (aw X.prog X.w) X.A t Q E' s:=λ{α t Q E' s} h=>by
   rw[eP,ew,eA,exe]at h;exact Bc h (λ_ _ q=>q) λ_ _ z=>z.elim
  have I3':=abj (o:={cls:=.type "list",data:=.seq (bn its) k}) I3 eD nD (λv z=>by
   have z':gp (bn its) k=gx v:=z;cases z')
  refine aD (kG (aD ?_));rcases turn i n acc σ3 H3 w3 with⟨stop,hz,fin⟩|⟨go,hz,Nn,hN,step⟩
  ·have q:=T.done X' eP ew eK Xe i [(D,_)] s3 σ3 H3 (notedBy (aw X.prog X.w) X.A X'.env λe s'=>RR (.ref D) (D+1) (.error e) s') I3' (fpn fr3) st3 stop;rw[eA]at q;refine thn q λr s4 ⟨hr,I4⟩=>?_;subst hr;apply aW;obtain⟨e4,_⟩:=I4.pin (D,_) (ig _ cC);obtain⟨mC,hnC,_⟩:=I4.loc;have u4:=I4.base;rw[efs,eex,eH0,es0]at u4;have ok4:=I4.hok;rw[eP,ew]at ok4;have nC:H3 (D+1)=none:=by have:=I4.free;rw[Rv]at this;exact this
   have hok:HOk X.prog X.w (upd H3 D (.lst acc)) s4.heap:=ok4.add nD ⟨hz,its,k,rv,e4⟩;refine hRR D (D+1) s4 acc H3 mC ?_ nD (by rw[Rv]at hnC;exact hnC) ?_ fin
   ·refine I2.call' (s':=s4) (ch:=fp) ?_ (u4.add (by rw[Vw];exact aQ _) nD) hok I4.bare λb hb=>?_
    ·have:=I4.os;rw[es0]at this;exact this
    ·obtain⟨f0,f1,f3,f4,f5,f6⟩:=f2 b hb;exact⟨f4,f1,f5,f6⟩
   ·refine I2.fpOk (by rw[Vw];exact HD _) ?_;rw[cW (HN (wA D))];exact nC
  ·have q:=T.item X' eP ew eK Xe i [(D,_)] s3 σ3 H3 (notedBy (aw X.prog X.w) X.A X'.env λe s'=>RR (.ref D) (D+1) (.error e) s') I3' (fpn fr3) st3 go;rw[eA]at q;refine thn q λr s4 ⟨u,hr,h4⟩=>?_;subst hr;dsimp only;refine aD (thn h4 λ_ s5 ⟨x,H5,I5,r5,y5,st5,fr5⟩=>?_);have I5':=I5.pinned (fpn fr5) (T.obj _ _ st5);have again:∀{σ7:St}{H7:Hp}{s7:τ},Inv X' ([(D,{cls:=.type "list",data:=.seq (bn its) k})]++pinsAt fp s5.heap) σ7 H7 s7->tn (i+1) s7.heap/\(∀b∈fp,H7 b=none)/\s7.heap.get? D=some {cls:=.type "list",data:=.seq (bn its) k}/\H7 D=none:=λ{σ7 H7 s7} I7=>by
    refine⟨T.keep _ _ _ st5 λb hb o e=>(I7.pin (b,o) (ig _ (ig _ (mem_pinsAt hb e)))).1,λb hb=>?_,?_⟩
    ·obtain⟨o,e,d⟩:=T.obj _ _ st5 b hb;exact(I7.pin (b,o) (ig _ (ig _ (mem_pinsAt hb e)))).2.1
    ·have:=I7.pin (D,_) (ig _ (S6 _ cC));exact⟨this.1,this.2.1⟩
   refine aD (thn (noE (hg' _ s5 σ3 H5 x u _ I5' r5 (step x H5 y5))) λ_ s6 ⟨σ6,H6,I6,q6⟩=>?_);refine aD (thn (noE (ht' _ s6 σ6 H6 _ I6 q6)) λok s7 ⟨H7,I7,q7⟩=>?_);cases ok with
   |false=>
    rw[ao nG]at q7;obtain⟨m',hm,w7⟩:=hN _ _ _ q7;obtain⟨a1,a2,a3,a4⟩:=again I7;exact aW ⟨rfl,m',hm,i+1,acc,its,k,σ6,H7,I7.pins_of (λp hp=>nomatch hp),a1,a2,a3,rv,a4,w7⟩
   |true=>
    rw[au rfl]at q7;refine aD (aD (thn (noE (he' _ s7 σ6 H7 _ I7 q7)) λv s8 ⟨y,H8,I8,r8,q8⟩=>?_));obtain⟨m',hm,w8⟩:=hN _ _ _ q8;obtain⟨a1,a2,a3,a4⟩:=again I8;have hl:=rv.length;refine aD (TV fE ⟨_,a3,rfl⟩ F.entry_list_append (mt _ _) (lw D its.toArray k v (by rw[gw];omega)) ⟨a3,?_⟩);refine aW (aW ⟨rfl,m',hm,i+1,acc++[y],its++[v],?_⟩);have qD:=PySem.IsL.update a3 (λa:Array ρ=>a.push v);rw[List.push_toArray]at qD;have kp:∀b o,b≠D->s8.heap.get? b=some o->(s8.heap.update D (ba λa=>a.push v)).get? b=some o:=λb o hb e=>(wcv s8.heap _ (mQ hb)).trans e;have I8':Inv X' [] σ6 H8 {s8 with heap:=s8.heap.update D (ba λa=>a.push v)}:=by
     refine(I8.pins_of (pins':=[]) (λp hp=>nomatch hp)).turned (t':=s8.toks) (it:=D) kp a4 (by rw[Rv];exact gP (wA D)) (.inr (by rw[es0,Vw];exact aQ _)) (λx c e=>ecl x c e) (λp hp=>?_);rw[epn]at hp;exact nomatch hp
    exact⟨_,σ6,H8,I8',T.keep _ _ _ a1 λb hb o e=>kp b o (gP (hlt b hb)) e,a2,qD,rv.append (.cons r8 .nil),a4,w8⟩
 have aaZ:({newEnv scope (D+1) X.env.globals (MK X scope (D+1)) X.env.qual none bd (some X.env) 0 with scope:=fw scope X.env}:kF)=X'.env:=by rw[V1];rfl
 have L:=loop _ rfl;rw[<-aaZ]at L;exact codeAny_compStart_list L (T.self X.A 0 _ _ _ (T.keep _ _ _ st2 λb _ o e=>old b o e) L)
end
section
variable{X:Cx}{tg iter elt:br}{ifs:List br}{scope:dC}{pos:eR}{own caps:List bg}{ix:List Nat}{wi:TI}{g:TG}{tc:TT}{te:TE}
theorem PX(hc:X.calm=true)(hi:PI X tg iter wi)(ck:aV X.env.scope scope=true)(hkind:scope.kind=.function)(hcap:g8 X scope caps ix)(hg:∀s H cl C ex,PG (bM X scope (own++caps) s H cl C ex) tg g)(ht:∀s H cl C ex,Xi (bM X scope (own++caps) s H cl C ex) ifs tc)(he:∀s H cl C ex,PE (bM X scope (own++caps) s H cl C ex) elt te)(hs:∀x,e8 iter X.env x=pure x:=by intro _;rfl):PE X (.ListComp elt [⟨tg,iter,ifs,0⟩] scope pos) (Ie wi own ix g tc te):=by
 intro aa s σ H Q I h;rw[eval_ListComp];refine kN (use:=none) rfl hs (oh λx hx=>I.ok.has x ((aV.free ck hx).2)) hkind (aV.names ck) (thn (hi aa s σ H _ I h) λxv s1 h1=>thn h1 λitv s2 h2=>?_);obtain⟨it,fp,tn,J,H2,e,I2,T,st2,f2,W,⟨m0,w0⟩,turn⟩:=h2;subst e;refine vQ (RR:=λacc C=>compPost (aw X.prog X.w) X.A X.xe none (EP X aa σ Q) acc C) ck hkind hcap hc hg ht he I2 T st2 f2 w0 turn ?_;intro D C s' acc Hf m I' nD hn fC fin;refine⟨m,hn,λh' sb=>?_⟩;obtain⟨f0,f1,f3,f4,f5,f6⟩:=fC;exact⟨.ref D,_,I'.turned (t':=s'.toks) (it:=C) (λb o hb e=>(sb.2 b hb).trans e) f0 f1 f4 f5 f6,rfl,fin D nD⟩
theorem pK{X:Cx}{tg iter elt:br}{ifs:List br}{scope:dC}{pos:eR}{wi:TI}{g:TG}{tc:TT}{te:TE}(own caps:List bg)(ix:List Nat)(hi:PI X tg iter wi)(hg:∀{s H cl C ex},PG (bM X scope (own++caps) s H cl C ex) tg g)(ht:∀{s H cl C ex},Xi (bM X scope (own++caps) s H cl C ex) ifs tc)(he:∀{s H cl C ex},PE (bM X scope (own++caps) s H cl C ex) elt te)(hcap:g8 X scope caps ix:=by repeat(first |exact g8.nil|refine g8.cons rfl rfl ?_))(hc:X.calm=true:=by rfl)(ck:aV X.env.scope scope=true:=by rfl)(hkind:scope.kind=.function:=by rfl)(hs:∀x,e8 iter X.env x=pure x:=by intro _;rfl):PE X (.ListComp elt [⟨tg,iter,ifs,0⟩] scope pos) (Ie wi own ix g tc te):=PX hc hi ck hkind hcap (λ_ _ _ _ _=>hg) (λ_ _ _ _ _=>ht) (λ_ _ _ _ _=>he) hs
theorem Bv{i:Nat}{y:bg}{py spos:eR}(hN:X.N.Nodup)(hiN:X.N[i]? =some y)(hx:Loc X.env.scope y)(hc:X.calm=true)(hi:PI X tg iter wi)(ck:aV X.env.scope scope=true)(hkind:scope.kind=.function)(hcap:g8 X scope caps ix)(hg:∀s H cl C ex,PG (bM X scope (own++caps) s H cl C ex) tg g)(ht:∀s H cl C ex,Xi (bM X scope (own++caps) s H cl C ex) ifs tc)(he:∀s H cl C ex,PE (bM X scope (own++caps) s H cl C ex) elt te)(hsw:fe (.ListComp elt [⟨tg,iter,ifs,0⟩] scope pos) (some (.Name y py)) spos.line X.env=pure true:=by rfl)(hf:X.fn y=true\/X.env.scope.names.lookup y=some .local:=by first |exact .inl rfl|exact .inr rfl|assumption)(hs:∀x,e8 iter X.env x=pure x:=by intro _;rfl):PS X (.Assign [.Name y py] (.ListComp elt [⟨tg,iter,ifs,0⟩] scope pos) spos) (tAsg (Ie wi own ix g tc te) (gName i)):=by
 intro aa s σ H Dn I h;rw[exec_Assign_Name_used _ _ _ _ hsw];refine aD (kG (aD ?_));show ah _ X.A (do let _<-comprehension (.ListComp elt [⟨tg,iter,ifs,0⟩] scope pos) scope X.env _ (newList []) false (cx iter X.env) (some (i8 (.Name y py) X.env))) _ _ s;refine aD (Bc (kN (use:=some (i8 (.Name y py) X.env)) (Q:=λ_ s'=>SP X aa Dn .next s') rfl hs (oh λx hx=>I.ok.has x ((aV.free ck hx).2)) hkind (aV.names ck)
  (thn (hi aa s σ H _ I h) λxv s1 h1=>thn h1 λitv s2 h2=>?_)) (λ_ s' hq=>aW (aW hq)) λ_ _ e=>e)
 obtain⟨it,fp,tn,J,H2,e,I2,T,st2,f2,W,⟨m0,w0⟩,turn⟩:=h2;subst e;refine vQ (RR:=λacc C=>compPost (aw X.prog X.w) X.A X.xe (some (i8 (.Name y py) X.env)) (λ_ s'=>SP X aa Dn .next s') acc C) ck hkind hcap hc hg ht he I2 T st2 f2 w0 turn ?_;intro D C s' acc Hf m I' nD hn fC fin;obtain⟨f0,f1,f3,f4,f5,f6⟩:=fC;show ah _ X.A (i8 (.Name y py) X.env (.ref D)) _ _ _;refine wpAny_assign_Name (store_ok2 I' hN hiN hx (show RelV (.ref D) (.ref D)from rfl) (λs'' I'' ⟨a,sb,ha⟩=>?_) hf);have hCa:C≠a:=by
  rcases ha with ha|ha
  ·rw[ha];exact f1
  ·exactλz=>f5 y a ha z.symm
 refine⟨m,hn.sameBut sb hCa,λh' sb'=>?_⟩;exact⟨_,_,I''.turned (t':=s''.toks) (it:=C) (λb o hb e=>(sb'.2 b hb).trans e) f0 f1 f4 f5 f6,fin D nD⟩
theorem pX{X:Cx}{tg iter elt:br}{ifs:List br}{scope:dC}{pos:eR}{wi:TI}{g:TG}{tc:TT}{te:TE}{y:bg}{py spos:eR}(i:Nat)(own caps:List bg)(ix:List Nat)(hi:PI X tg iter wi)(hg:∀{s H cl C ex},PG (bM X scope (own++caps) s H cl C ex) tg g)(ht:∀{s H cl C ex},Xi (bM X scope (own++caps) s H cl C ex) ifs tc)(he:∀{s H cl C ex},PE (bM X scope (own++caps) s H cl C ex) elt te)(hcap:g8 X scope caps ix:=by repeat(first |exact g8.nil|refine g8.cons rfl rfl ?_))(hc:X.calm=true:=by rfl)(ck:aV X.env.scope scope=true:=by rfl)(hkind:scope.kind=.function:=by rfl)(hN:decide X.N.Nodup=true:=by kernel_rfl)(hi_:X.N[i]? =some y:=by rfl)(hx:Loc X.env.scope y:=by first |exact gV rfl|exact ki rfl)(hsw:fe (.ListComp elt [⟨tg,iter,ifs,0⟩] scope pos) (some (.Name y py)) spos.line X.env=pure true:=by rfl)(hf:X.fn y=true\/X.env.scope.names.lookup y=some .local:=by first |exact .inl rfl|exact .inr rfl|assumption)(hs:∀x,e8 iter X.env x=pure x:=by intro _;rfl):PS X (.Assign [.Name y py] (.ListComp elt [⟨tg,iter,ifs,0⟩] scope pos) spos) (tAsg (Ie wi own ix g tc te) (gName i)):=Bv (fW hN) hi_ hx hc hi ck hkind hcap (λ_ _ _ _ _=>hg) (λ_ _ _ _ _=>ht) (λ_ _ _ _ _=>he) hsw hf hs
end
end L2
namespace L2
open PySem PySem.W PySem.Spec PyProof.Rows
section
variable{X:Cx}
theorem zX:CallR X (.builtin "sorted") (λxs H Q=>∃(a:af) (its:List (af×ζ)),xs=[.ref a]/\SqL X.K H a (its.map λp=>V.ref p.1)/\(∀p∈its,SqT X.K H p.1 (p.2.map V.int)/\(2<=its.length->p.2≠[]))/\its.length<64/\
  ∀(l:af) (its':List (af×ζ)),H l=none->its'.Perm its->its'.Pairwise (λp q=>HT.lexLt q.2 p.2=false)->Q (.ref l) (upd H l (.lst (its'.map λp=>V.ref p.1)))):=by
 intro aa s σ H xs us Q I r h;obtain⟨a,its,rfl,hS,hT,h64,q⟩:=h;obtain⟨u,rfl,ru⟩:=r.one;cases ru;obtain⟨vs,rv,pl,hz⟩:=I.list hS;have ad:its.length=vs.length:=by have:=rv.length;simpa using this
 have pr:bI (λ(p:af×ζ) (v:ρ)=>v=.ref p.1) its vs:=by
  have go:∀(l:List (af×ζ)) (us:List ρ),Vals (l.map λp=>V.ref p.1) us->bI (λ(p:af×ζ) (v:ρ)=>v=.ref p.1) l us:=by
   intro l
   induction l with
   |nil=>intro us h;cases h;exact .nil
   |cons p l ih=>
    intro us h;cases h with
    |cons r t=>exact .cons r (ih _ t)
  exact go its vs rv
 have tup:∀p∈its,∃(ae:List ρ),dc ae p.2/\gY s.heap p.1 ae.toArray:=λp hp=>by
  obtain⟨its',r',t',_⟩:=I.tuple (hT p hp).1;exact⟨its',intsAre_of r',t'⟩
 refine vW.uI (O:=vW.lexOrd) (key:=λi=>(its.getD i (0,[])).2) (κ:=tuples' true) (s:=s) pl.isList (by omega) (λh2 h' k E' Q' hq=>?_) (λh2 h' k=>?_) (λD h' out c ho hD k hc=>?_)
 ·have kt:∀(l:List (af×ζ)) (us:List ρ),bI (λ(p:af×ζ) (v:ρ)=>v=.ref p.1) l us->(∀p∈l,p∈its)->∃fs:List ρ,KatTups h' us fs/\fs.length=us.length/\∀v∈fs,∃i t,v=bu i t:=by
   intro l us h
   induction h with
   |nil=>intro _;exact⟨[],trivial,rfl,λ_ hv=>nomatch hv⟩
   | @cons p v l us r t ih=>
    intro hs;obtain⟨fs,k1,k2,k3⟩:=ih λp hp=>hs p (cY _ hp);obtain⟨ae,hi,o,e,hc,n,hd⟩:=tup p (hs p cC);have hne:=(hT p (hs p cC)).2 (by omega);obtain⟨pa,pn⟩:=p;dsimp only at hi hne e r;cases hi with
    |nil=>exact absurd rfl hne
    |cons i t hi'=>
     rw[r];refine⟨bu i t::fs,KatTups.cons (k _ _ e) hc hd (by simp) k1,by simp[k2],λv hv=>?_⟩;rcases cX.mp hv with e|e
     ·exact⟨i,t,e⟩
     ·exact k3 v e
  obtain⟨fs,k1,k2,k3⟩:=kt its vs pr λ_ hp=>hp;refine kat_kind (s:={s with heap:=h'}) (T:=.type "int") k1 (by omega) (λv hv=>?_) (by rfl) hq;obtain⟨i,t,rfl⟩:=k3 v hv;exactλA Q E s _ q=>aW q
 ·intro i j C hi hj hC;rw[<-ad]at hi hj;have get:∀i (hi:i<its.length),vs.getD i bd=.ref its[i].1:=by
   have go:∀(l:List (af×ζ)) (us:List ρ),bI (λ(p:af×ζ) (v:ρ)=>v=.ref p.1) l us->∀i (hi:i<l.length),us.getD i bd=.ref l[i].1:=by
    intro l us h
    induction h with
    |nil=>intro i hi;simp at hi
    |cons r t ih=>
     intro i hi;cases i with
     |zero=>exact r
     |succ i=>simpa using ih i (by simpa using hi)
   exact go its vs pr
  unfold kas_ask;rw[get i hi,get j hj];obtain⟨xi,hxi,oi,ei,ci,ni,di⟩:=tup its[i] (Bb _);obtain⟨xj,Tj,oj,ej,cj,nj,dj⟩:=tup its[j] (Bb _);refine kat_lt (s:={s with heap:=h'}) (k _ _ ei) di (k _ _ ej) dj ?_;refine vW.vD 0 hxi Tj ?_ ?_
  ·have:=hxi.length;have:=Tj.length;simp only[gw];omega
  ·rw[HT.bQ];have e1:its.getD i (0,[])=its[i]:=by simp[hi]
   have e2:its.getD j (0,[])=its[j]:=by simp[hj]
   have hC':C (decide ((its.getD i (0,[])).2<(its.getD j (0,[])).2)) {s with heap:=h'}:=hC;rw[e1,e2]at hC';exact hC'
 ·obtain⟨its',hp,hr,hw⟩:=vW.yS (d:=((0,[]):af×ζ)) (f:=λp=>p.2) pr (λi hi=>by show(its.getD i (0,[])).2=_;simp[hi]) ho;have hn:H D=none:=I.hok.fresh hD;have rv':Vals (its'.map λp=>V.ref p.1) out:=by
   have go:∀(l:List (af×ζ)) (us:List ρ),bI (λ(p:af×ζ) (v:ρ)=>v=.ref p.1) l us->Vals (l.map λp=>V.ref p.1) us:=by
    intro l us h
    induction h with
    |nil=>exact .nil
    |cons r t ih=>exact .cons r ih
   exact go its' out hr
  have zl:(its'.map λp=>V.ref p.1).length<=sizeLine:=by
   have:=hp.length_eq;rw[aF];exact dN (small1000 (by omega))
  have J:Inv X aa σ (upd H D (.lst (its'.map λp=>V.ref p.1))) {s with heap:=h',toks:=s.toks}:=I.laid k hD ⟨zl,out,c,rv',hc⟩;refine⟨.ref D,_,J,rfl,q D its' hn hp (hw.imp λ{x y} hxy=>?_)⟩;rw[HT.bQ];exact hxy
theorem Kr(K:ag){a:br}{ta:TE}(ha:PE X a ta)(he:∀whole,md a X.env whole=(do let v<-whole;ir a.pos;dL [v] (truthy v)))(h:X.K=K:=by rfl):
  PT X a (λσ H Q=>ta σ H λx H'=>∃k,TruV K x H' k/\Q k H'):=by subst h;exact pt_truth ha he
end
end L2
namespace L2
open PySem PySem.Spec PyProof.Rows
mutual
def abr:Nat->br->Option υ
 |0,_=>none
 |n+1,e=>match e with
  | .Constant (.int i) _ _=>some (.int i)
  | .Constant (.bool b) _ _=>some (.bool b)
  | .Constant .none _ _=>some .none
  | .Constant (.str x) _ _=>some (.str x)
  | .UnaryOp .USub (.Constant (.int i) _ _) _=>some (.int (-i))
  | .Tuple es _ _=>(QJ n es).map .tuple
  | .List es _=>(QJ n es).map .list
  | .Dict [] [] _=>some (.dict [])
  |_=>none
def QJ:Nat->List br->Option θ
 |0,_=>none
 |_+1,[]=>some []
 |n+1,e::es=>match abr n e,QJ n es with
  |some d,some ds=>some (d::ds)
  |_,_=>none
end
section
variable{κ:Type} [DecidableEq κ]
noncomputable def valV(kvs:List (κ×V))(k:κ):Option V:=(kvs.find? λkv=>decide (kv.1=k)).map (·.2)
noncomputable def putK(kvs:List (κ×V))(k:κ)(v:V):List (κ×V):=
 if(kvs.any λkv=>decide (kv.1=k))=true then kvs.map (λkv=>if kv.1=k then(kv.1,v)else kv)else kvs++[(k,v)]
theorem Mr{k:κ}(e:p.1=k):valV (p::r) k=some p.2:=by simp[valV,Xq,e]
theorem Mq{k:κ}(e:¬p.1=k):valV (p::r) k=valV r k:=by simp[valV,Xq,e]
theorem valV_any(k):∀kvs:List (κ×V),(kvs.any λkv=>decide (kv.1=k))=(valV kvs k).isSome
 |[]=>rfl
 |p::r=>by
  rw[Wh];by_cases e:p.1=k
  ·simp only[Mr e,bY e,Bool.true_or,ku]
  ·rw[Mq e,gj e,wgo];exact valV_any k r
theorem valV_map(k j)(y):∀kvs:List (κ×V),valV (kvs.map λkv=>if kv.1=k then(kv.1,y)else kv) j=(valV kvs j).map λx=>if j=k then y else x
 |[]=>rfl
 |p::r=>by
  have ih:=valV_map k j y r;rw[iQ];by_cases h:p.1=k
  ·rw[au h];by_cases e:p.1=j
   ·rw[Mr (p:=(p.1,y)) e,Mr e,wcq,au (e.symm.trans h)]
   ·rw[Mq (p:=(p.1,y)) e,Mq e,ih]
  ·rw[ao h];by_cases e:p.1=j
   ·rw[Mr (p:=p) e,Mr e,wcq,ao (λz=>h (e.trans z))]
   ·rw[Mq (p:=p) e,Mq e,ih]
theorem valV_snoc(k j)(y):∀kvs:List (κ×V),valV kvs k=none->valV (kvs++[(k,y)]) j=if j=k then some y else valV kvs j
 |[],_=>by
  by_cases e:k=j
  ·rw[au e.symm];exact Mr (p:=(k,y)) e
  ·rw[ao (λz=>e z.symm)];exact Mq (p:=(k,y)) e
 |p::r,hn=>by
  rw[List.cons_append];have hk:¬p.1=k:=λz=>by rw[Mr z]at hn;cases hn
  rw[Mq hk]at hn;have ih:=valV_snoc k j y r hn;by_cases e:p.1=j
  ·rw[Mr e,Mr e,ao (λz=>hk (e.trans z))]
  ·rw[Mq e,Mq e,ih]
theorem valV_put(kvs)(k j:κ)(y):valV (putK kvs k y) j=if j=k then some y else valV kvs j:=by
 unfold putK;by_cases a:(kvs.any λkv=>decide (kv.1=k))=true
 ·rw[au a,valV_map];rw[valV_any]at a;by_cases e:j=k
  ·obtain⟨x,hx⟩:=Option.isSome_iff_exists.mp a;rw[au e,e,hx,wcq,au rfl]
  ·rw[ao e];cases valV kvs j with
   |none=>rfl
   |some x=>rw[wcq,ao e]
 ·rw[ao a];refine valV_snoc k j y kvs ?_;rw[valV_any]at a;cases q:valV kvs k with
  |none=>rfl
  |some x=>rw[q]at a;exact(a rfl).elim
theorem length_putK(kvs)(k:κ)(v):(putK kvs k v).length<=kvs.length+1:=by
 unfold putK;split
 ·rw[aF];omega
 ·rw[oO,wB,Xv];omega
theorem putK_new{k:κ}(v)(h:valV kvs k=none):putK kvs k v=kvs++[(k,v)]:=by
 unfold putK;rw[valV_any,h];exact ao (by decide)
theorem RelO.isSome_eq(r:RelO o u):o.isSome=u.isSome:=by
 cases o with
 |none=>cases u with
  |none=>rfl
  |some _=>exact(show False from r).elim
 |some _=>cases u with
  |none=>exact(show False from r).elim
  |some _=>rfl
theorem KV.val(r:KV kvs vs)(k:κ):RelO (valV kvs k) (i4 vs k):=by
 unfold KV at r
 induction r with
 |nil=>exact dS
 | @cons p q ps qs h t ih=>
  obtain⟨h1,h2⟩:=h;by_cases e:p.1=k
  ·have e':q.1=k:=h1.symm.trans e;have b:i4 (q::qs) k=some q.2:=by simp[i4,Xq,e']
   rw[Mr e,b];exact h2
  ·have e':¬q.1=k:=λz=>e (h1.trans z);have b:i4 (q::qs) k=i4 qs k:=by simp[i4,Xq,e']
   rw[Mq e,b];exact ih
theorem KV.any(r:KV kvs vs)(k:κ):(kvs.any λkv=>decide (kv.1=k))=vs.any λkv=>decide (kv.1=k):=by
 unfold KV at r
 induction r with
 |nil=>rfl
 |cons h t ih=>rw[Wh,Wh,ih,h.1]
theorem KV.repl(r:KV kvs vs)(k:κ)(ry:RelV y u):
  KV (kvs.map λkv=>if kv.1=k then(kv.1,y)else kv) (vs.map λkv=>if kv.1=k then(kv.1,u)else kv):=by
 unfold KV at r⊢
 induction r with
 |nil=>exact .nil
 | @cons p q ps qs h t ih=>
  rw[iQ,iQ];refine .cons ?_ ih;obtain⟨h1,h2⟩:=h;by_cases e:p.1=k
  ·rw[au e,au (h1.symm.trans e)];exact⟨h1,ry⟩
  ·rw[ao e,ao (λz=>e (h1.trans z))];exact⟨h1,h2⟩
theorem KV.put(r:KV kvs vs)(k:κ)(ry:RelV y u):KV (putK kvs k y) (stored vs k u):=by
 unfold putK stored;rw[r.any k];by_cases e:(vs.any λkv=>decide (kv.1=k))=true
 ·rw[au e,au e];exact r.repl k ry
 ·rw[ao e,ao e];exact Paired.snoc r ⟨rfl,ry⟩
theorem KV.length{kvs:List (κ×V)}(r:KV kvs vs):kvs.length=vs.length:=S9 r
end
theorem kV_is(r:RelV (kV k) u):(mixKind P w).is k u=true:=by
 cases k with
 |inl i=>obtain⟨t,e⟩:=(show∃t,u=bu i t from r);subst e;exact mixKind_int P w i t
 |inr x=>obtain⟨t,e⟩:=(show∃t,u=ib x t from r);subst e;exact mixKind_str P w x t
theorem items_are:∀{ks:List Key}{us:List ρ},Vals (ks.map kV) us->ItemsAre (mixKind P w) ks us
 |[],_,r=>by rw[yfm]at r;cases r;exact .nil
 |k::ks,_,r=>by
  rw[iQ]at r;cases r with
  |cons h t=>exact .cons (kV_is h) (items_are t)
noncomputable abbrev KT(H:Hp):List (List Key×V)->List (List Key×af×ρ)->Prop:=bI λp q=>p.1=q.1/\H q.2.1=some (.tup (p.1.map kV))/\RelV p.2 q.2.2
theorem KT.val(r:KT H kvs xs)(k):RelO (valV kvs k) ((fx xs k).map (·.2)):=by
 induction r with
 |nil=>exact dS
 | @cons p q ps qs h t ih=>
  obtain⟨h1,_,h2⟩:=h;by_cases e:p.1=k
  ·have e':q.1=k:=h1.symm.trans e;have b:fx (q::qs) k=some q.2:=by simp[fx,Xq,e']
   rw[Mr e,b];exact h2
  ·have e':¬q.1=k:=λz=>e (h1.trans z);have b:fx (q::qs) k=fx qs k:=by simp[fx,Xq,e']
   rw[Mq e,b];exact ih
theorem KT.repl(r:KT H kvs xs)(k)(ry:RelV y u):
  KT H (kvs.map λkv=>if kv.1=k then(kv.1,y)else kv) (xs.map (putAt k u)):=by
 induction r with
 |nil=>exact .nil
 | @cons p q ps qs h t ih=>
  rw[iQ,iQ];refine .cons ?_ ih;obtain⟨h1,h2,h3⟩:=h;unfold putAt;by_cases e:p.1=k
  ·rw[au e,au (h1.symm.trans e)];exact⟨h1,h2,ry⟩
  ·rw[ao e,ao (λz=>e (h1.trans z))];exact⟨h1,h2,h3⟩
theorem KT.put(r:KT H kvs xs)(k)(hb:H b=some (.tup (k.map kV)))(ry:RelV y u):
  KT H (putK kvs k y) (storedH xs k b u):=by
 have e:(kvs.any λkv=>decide (kv.1=k))=(fx xs k).isSome:=by
  rw[valV_any,(r.val k).isSome_eq,Option.isSome_map]
 unfold putK storedH;rw[e];by_cases q:(fx xs k).isSome=true
 ·rw[au q,au q];exact r.repl k ry
 ·rw[ao q,ao q];exact Paired.snoc r ⟨rfl,hb,ry⟩
theorem KT.keeps(r:KT H kvs xs)(ht:∀b ys,H b=some (.tup ys)->H' b=some (.tup ys)):KT H' kvs xs:=
 Paired.mapP r λ_ _ z=>⟨z.1,ht _ _ z.2.1,z.2.2⟩
section
variable{P:χ}{w:ω}{H:Hp}{h:bv}{a:af}
theorem rd_of(ok:HOk P w H h)(e:Rd H a u):ObjOk P w H h a u:=e.ok ok
theorem dk_rd(ok:HOk P w H h)(e:Rd H a (.dK kvs)):kvs.length<=sizeLine/\(a==bz)=false/\∃vs,KV kvs vs/\h.DictOf (mixKind P w) a vs:=
 show ObjOk P w H h a (.dK kvs)from rd_of ok e
theorem dk_of(ok:HOk P w H h)(e:H a=some (.dK kvs)):kvs.length<=sizeLine/\(a==bz)=false/\∃vs,KV kvs vs/\h.DictOf (mixKind P w) a vs:=dk_rd ok (.inl e)
theorem key_of(ok:HOk P w H h)(e:H a=some (.tup (ks.map kV))):(gm (mixKind P w)).is h ks a:=by
 obtain⟨_,its,r,o,h1,h2,n,h3⟩:=(show ObjOk P w H h a (.tup (ks.map kV))from ok a _ e);exact⟨o,its.toArray,n,h1,h2,h3,by simpa using items_are r⟩
theorem dt_rd(ok:HOk P w H h)(e:Rd H a (.dT kvs)):kvs.length<=sizeLine/\(a==bz)=false/\
  ∃xs,KT H kvs xs/\h.DictOfH (gm (mixKind P w)) a xs:=by
 obtain⟨z,y,xs,r,o,es,ep,h1,h2,h3,h4,h5⟩:=(show ObjOk P w H h a (.dT kvs)from rd_of ok e);refine⟨z,y,xs,r,o,es,ep,h1,h2,h3,h4,λx hx=>?_,h5⟩;have all:∀{l:List (List Key×V)}{m:List (List Key×af×ρ)},KT H l m->∀x∈m,(gm (mixKind P w)).is h x.1 x.2.1:=by
  intro l m q
  induction q with
  |nil=>intro x hx;exact nomatch hx
  | @cons p q ps qs hq t ih=>
   intro x hx;rcases cX.mp hx with e|hx
   ·subst e;exact key_of ok (by rw[<-hq.1];exact hq.2.1)
   ·exact ih x hx
 exact all r x hx
theorem dt_of(ok:HOk P w H h)(e:H a=some (.dT kvs)):kvs.length<=sizeLine/\(a==bz)=false/\
  ∃xs,KT H kvs xs/\h.DictOfH (gm (mixKind P w)) a xs:=dt_rd ok (.inl e)
end
noncomputable def DGet(H:Hp)(a:af)(y:V)(r:Option V):Prop:=
 (∃kvs k,Rd H a (.dK kvs)/\y=kV k/\r=valV kvs k)\/∃kvs k b,Rd H a (.dT kvs)/\y=.ref b/\H b=some (.tup (k.map kV))/\r=valV kvs k
noncomputable def DPut(H:Hp)(a:af)(y v:V)(H':Hp):Prop:=
 (∃kvs k,H a=some (.dK kvs)/\y=kV k/\kvs.length<sizeLine/\H'=upd H a (.dK (putK kvs k v)))\/
 ∃kvs k b,H a=some (.dT kvs)/\y=.ref b/\H b=some (.tup (k.map kV))/\kvs.length<sizeLine/\H'=upd H a (.dT (putK kvs k v))
theorem DGet.t{k:List Key}(e:H a=some (.dT kvs))(eb:H b=some (.tup (k.map kV))):DGet H a (.ref b) (valV kvs k):=.inr ⟨kvs,k,b,.inl e,rfl,eb,rfl⟩
theorem DPut.t{k:List Key}(e:H a=some (.dT kvs))(eb:H b=some (.tup (k.map kV)))(hl:kvs.length<sizeLine):
  DPut H a (.ref b) v (upd H a (.dT (putK kvs k v))):=.inr ⟨kvs,k,b,e,rfl,eb,hl,rfl⟩
section
variable{X:Cx}{aa:L3}{σ:St}{H:Hp}{s:τ}{a:af}{y v:V}{u r:ρ}{o:Option V}{A:bp}{E:L4}
theorem Inv.big(I:Inv X aa σ H s):bz<s.heap.objs.size:=by
 have h:ax<s.heap.objs.size:=(I.mod.glob.keeps I.bk).lt;exact Tw (by decide) h
theorem d_getItem{Q:L4}(hu:A.units+1<dm)(I:Inv X aa σ H s)(g:DGet H a y (some v))(ry:RelV y u)(h:∀w' s',Inv X aa σ H s'->RelV v w'->Q w' s'):
  ah (aw X.prog X.w) A (fq (.ref a) u) Q E s:=by
 rcases g with⟨kvs,k,e,ey,l⟩|⟨kvs,k,b,e,ey,eb,l⟩
 ·subst ey;obtain⟨z,hd,vs,rel,dd⟩:=dk_rd I.hok e;obtain⟨w',hw,rw'⟩:=RelO.some_of (v:=v) (o:=i4 vs k) (by rw[l];exact rel.val k);exact wpAny_getItem_of (kV_is ry) dd.mapOf hw (h w' _ (I.tok _) rw')
 ·subst ey;cases(show u=aC b from ry);obtain⟨z,hd,xs,rel,dd⟩:=dt_rd I.hok e;obtain⟨w',hw,rw'⟩:=RelO.some_of (v:=v) (o:=(fx xs k).map (·.2)) (by rw[l];exact rel.val k);obtain⟨p,hp,hp2⟩:=Option.map_eq_some_iff.mp hw;refine wpAny_getItem_heap (wel hu) (key_of I.hok eb) dd hp ?_;rw[hp2];exact h w' _ (I.tok _) rw'
theorem d_write(I:Inv X aa σ H s)(mu:Mut (H a))(hs:cz a s.heap h')(he:∃q,h'.get? a=some q)(new:ObjOk X.prog X.w (upd H a ob) h' a ob):
  Inv X aa σ (upd H a ob) {s with heap:=h',toks:=t'}:=
 I.write (x:=a) (e:=a) mu (.inl rfl) (λb q hb z=>(hs.2 b hb).trans z) he new
theorem dk_new(z:kvs.length<=sizeLine)(hd:(a==bz)=false)(rel:KV kvs vs)(dd:h'.DictOf (mixKind P w) a vs):
  ObjOk P w H' h' a (.dK kvs):=⟨z,hd,vs,rel,dd⟩
theorem d_setItem{Q:Unit->τ->Prop}(hu:A.units+1<dm)(I:Inv X aa σ H s)(g:DPut H a y v H')(ry:RelV y u)(rv:RelV v r)(h:∀s',Inv X aa σ H' s'->Q () s'):
  ah (aw X.prog X.w) A (setItem (.ref a) u r) Q E s:=by
 rcases g with⟨kvs,k,e,ey,l,eH⟩|⟨kvs,k,b,e,ey,eb,l,eH⟩
 ·subst ey eH;obtain⟨z,hd,vs,rel,dd⟩:=dk_of I.hok e;have hz:vs.length<=sizeLine:=by rw[<-rel.length];exact z
  have hl:(putK kvs k v).length<=sizeLine:=by have:=length_putK kvs k v;omega
  refine wpAny_setItem_pairs (hsz:=hz) (kV_is ry) dd λh' dd' hs=>h _ ?_;have he:∃q,h'.get? a=some q:=let⟨q,_,_,hq,_⟩:=dd';⟨q,hq⟩;exact d_write I (by rw[e];exact dS) hs he (dk_new hl hd (rel.put k rv) dd')
 ·subst ey eH;cases(show u=aC b from ry);obtain⟨z,hd,xs,rel,dd⟩:=dt_of I.hok e;have hz:xs.length<=sizeLine:=by rw[<-S9 rel];exact z
  have hl:(putK kvs k v).length<=sizeLine:=by have:=length_putK kvs k v;omega
  refine wpAny_setItem_heap (hsz:=hz) (wel hu) (key_of I.hok eb) dd λh' dd' hs=>h _ ?_;obtain⟨q,es,ep,hq,h2,h3,h4,_,h5⟩:=dd';refine d_write I (by rw[e];exact dS) hs ⟨q,hq⟩ ⟨hl,hd,_,(rel.put k eb rv).keeps λc ys ec=>?_,q,es,ep,hq,h2,h3,h4,h5⟩;rw[cW (ne_of ec e (λz=>nomatch z))];exact ec
end
noncomputable def NoSl(i:br):Prop:=∀ov iv,ie i false ov iv=operate [ov,iv] (fq ov iv)
theorem subD_of{E:L4}{T id:String}{Q:L4}(hl:typeLookup (.type T) "__getitem__"=pure (some (.builtin id)))(hs:NoSl slice)(h:ah (aw prog w) A (cx value env) (λo s₁=>ah (aw prog w) A (cx slice env) (λi s₂=>s₂.TypeIs o T/\ah (aw prog w) A (fq o i) Q E s₂) E s₁) E s):
  ah (aw prog w) A (cx (.Subscript value slice pos) env) Q E s:=by
 refine Subscript_ (Bc h (λo s₁ h₁=>Bc h₁ (λi s₂ h₂=>?_) λ_ _ x=>x) λ_ _ x=>x);obtain⟨hT,h₂⟩:=h₂;unfold kK;apply aD;rw[getitemInPython_of_ne hT.not_modules];refine aD (wee hT hl ?_);have fin:ah (aw prog w) A (ie slice false o i) (λr s₃=>ah (aw prog w) A (letTemporaryGo value o r>>=λ_=>pure r) Q E s₃) E s₂:=by
  rw[hs o i];exact wpAny_operating (Bc h₂ (λr s₃ h₃=>aD (wpAny_letTemporaryGo (aW h₃))) λ_ _ x=>x)
 first
  |exact aW (aD fin)
  |exact aD (aW (aD fin))
  |exact aD fin
theorem dict_typeIs{σ:St}(I:Inv X aa σ H s)(g:DGet H a y o):s.TypeIs (.ref a) "dict":=by
 rcases g with⟨kvs,k,e,_,_⟩|⟨kvs,k,b,e,_,_,_⟩
 ·obtain⟨_,_,vs,_,dd⟩:=dk_rd I.hok e;exact dd.typeIs
 ·obtain⟨_,_,xs,_,dd⟩:=dt_rd I.hok e;exact dd.typeIs
noncomputable def tDGet(td ty:TE):TE:=λσ H Q=>td σ H λx H1=>ty σ H1 λy H2=>∃a v,x=.ref a/\DGet H2 a y (some v)/\Q v H2
noncomputable def sDPut(td ty tv:TE):TS:=λD σ H=>tv σ H λv H1=>td σ H1 λx H2=>ty σ H2 λy H3=>∃a H4,x=.ref a/\DPut H3 a y v H4/\D.nx σ H4
section
variable{X:Cx}{o i value:br}{pos pos':eR}{td ty tv:TE}
theorem pe_dget(hu:X.A.units+1<dm)(ho:PE X o td)(hi:PE X i ty)(hs:NoSl i):PE X (.Subscript o i pos) (tDGet td ty):=by
 intro aa s σ H Q I h;refine subD_of PySem.F.slot_dict_getitem.lookup hs (thn (ho aa s σ H _ I h) λu s1 ⟨x,H1,I1,rx,q1⟩=>thn (hi aa s1 σ H1 _ I1 q1) λiv s2 ⟨y,H2,I2,ry,a,v,ex,g,q2⟩=>?_);subst ex;obtain rfl:u=aC a:=rx;exact⟨dict_typeIs I2 g,d_getItem hu I2 g ry λw' s3 I3 rw'=>⟨v,H2,I3,rw',q2⟩⟩
theorem ps_dput(hu:X.A.units+1<dm)(ho:PE X o td)(hi:PE X i ty)(hv:PE X value tv)(hs:fe value (some (.Subscript o i pos')) pos.line X.env=pure false):
  PS X (.Assign [.Subscript o i pos'] value pos) (sDPut td ty tv):=by
 intro aa s σ H D I h;refine mP (thn (hv aa s σ H _ I h) λr s1 ⟨v,H1,I1,rv,q1⟩=>thn (ho aa s1 σ H1 _ I1 q1) λu s2 ⟨x,H2,I2,rx,q2⟩=>thn (hi aa s2 σ H2 _ I2 q2) λiv s3 ⟨y,H3,I3,ry,a,H4,ex,g,q3⟩=>?_) hs;subst ex;obtain rfl:u=aC a:=rx;exact d_setItem hu I3 g ry rv λs4 I4=>⟨σ,H4,I4,q3⟩
end
theorem dt_empty(h:bv)(hb:bz<h.objs.size):ObjOk P w H (h.push {cls:=.type "dict",data:=.dict #[]}) h.objs.size (.dT []):=
 ⟨dX _,beq_eq_false_iff_ne.mpr (mQ (gP hb)),[],.nil,_,#[],0,lZ _ rfl,⟨rfl,rfl,rfl⟩,rfl,rfl,wgi⟩
noncomputable def tDNewT:TE:=λ_ H Q=>∀p,H p=none->Q (.ref p) (upd H p (.dT []))
section
variable{X:Cx}{pos:eR}
theorem pe_dnewT:PE X (.Dict [] [] pos) tDNewT:=λaa s σ H Q I h=>
 wpAny_Dict_empty ⟨.ref s.heap.objs.size,_,I.laid (a:=s.heap.objs.size) (o:=.dT []) (t':=s.toks) (λ_ _ q=>fG _ q) (aQ _) (dt_empty s.heap I.big),rfl,h _ (I.hok.fresh (aQ _))⟩
end
section
variable{X:Cx}
theorem yc(hc:X.calm=true):CallR X (.builtin "min") (λxs H Q=>∃(a:af) (ns:ζ),xs=[.ref a]/\SqL X.K H a (ns.map V.int)/\ns≠[]/\∀m∈ns,(∀n∈ns,m<=n)->Q (.int m) H):=by
 intro aa s σ H xs us Q I r h;obtain⟨a,ns,rfl,hS,hne,q⟩:=h;obtain⟨u,rfl,ru⟩:=r.one;cases ru;obtain⟨vs,rv,pl,hz⟩:=I.list hS;have hl:=pl.isList;have hlt:a<s.heap.objs.size:=by obtain⟨_,e,_⟩:=hl;exact eO e
 have ad:=rv.length;rw[aF]at ad;have hI:∀(i:Nat) (v:ρ),vs.toArray[i]? =some v->∃t,v=.int (ns.getD i 0) t:=λi v hv=>by
  have hv':vs[i]? =some v:=by simpa using hv
  have hi:i<ns.length:=by have:=(oR.mp hv').1;omega
  have hn:(ns.map V.int)[i]? =some (.int (ns.getD i 0)):=by rw[cV,eN hi,gQ,eN hi];rfl
  obtain⟨u,hu,ru⟩:=rv.get hn;rw[hv']at hu;cases hu;obtain⟨t,rfl⟩:=ru;exact⟨t,rfl⟩
 refine call_min_walk (wci hl ?_);refine⟨s.heap.objs.size,[s.heap.objs.size,a],[s.heap.objs.size],vs.toArray.size,_,_,_,rfl,wgg (A:=X.A.in1) (I.ok.hd hc) _ a (gP hlt) vs.toArray,
  ⟨⟨_,lZ _ rfl,rfl,rfl⟩,hl.push _⟩,?_,?_,CmpOf.ints_lt (λi=>ns.getD i 0) hI,λv h' tk hP hk=>?_⟩
 ·intro b hb;show b<(s.heap.push _).objs.size;rw[Tz];rcases cX.mp hb with rfl|hb
  ·exact wA _
  ·rw[fV.mp hb];exact wW hlt
 ·rw[gw,<-ad];exact yfg.mpr hne
 ·obtain⟨t,rfl⟩:=hI _ v hP;obtain⟨h1,h2⟩:=argBest_lt (λi=>ns.getD i 0) (vs.toArray.size-1);have hn0:0<ns.length:=yfg.mpr hne;have hb:argBest (λi j=>decide (ns.getD i 0<ns.getD j 0)) (vs.toArray.size-1)<ns.length:=by
   have:vs.toArray.size=ns.length:=by rw[gw];omega
   omega
  refine⟨.int _,H,I.kept (LSm.kept_iter hk),⟨t,rfl⟩,q _ ?_ λn hn=>?_⟩
  ·rw[gQ,eN hb];exact Bb hb
  ·obtain⟨j,hj,rfl⟩:=Ed hn;have:=h2 j (by rw[gw];omega);rw[gQ (i:=j),eN hj]at this;exact this
end
end L2
namespace DH
open PySem PySem.W PyProof.Rows PySem.Calls
noncomputable def qg(h:bv)(d:af)(es:Array gr)(ep:Nat):Prop:=∃o,h.get? d=some o/\o.ExactDict/\o.data=.dict es ep
section
variable{prog:χ}{w:ω}{A:bp}{E:L4}{s:τ}{d it:af}{es:Array gr}{ep i:Nat}
theorem qg.typeIs(h:qg s.heap d es ep):s.TypeIs (.ref d) "dict":=let⟨o,ho,hc,_⟩:=h;⟨o,ho,hc.1⟩
theorem qg.lt(x:qg h d es ep):d<h.objs.size:=let⟨_,ho,_⟩:=x;eO ho
theorem qg.at'(x:qg h d es ep)(k:∀o,h.get? d=some o->h'.get? d=some o):qg h' d es ep:=let⟨o,ho,r⟩:=x;⟨o,k o ho,r⟩
theorem Vn{Q:L4}(hd:(d==bz)=false)(hm:qg s.heap d es ep)(hQ:Q (.ref s.heap.objs.size) {s with heap:=s.heap.push {cls:=.type "dict_keyiterator",data:=.fields #[.ref d,.int 0 0,.int es.size 0,.int ep 0]}}):
  ah (aw prog w) A (pyIter (.ref d)) Q E s:=by
 obtain⟨o,ho,hc,hdat⟩:=id hm;have hT:=hm.typeIs;refine wpAny_pyIter_slot hT F.slot_dict_iter (Td F.slot_dict_iter hT F.entry_dict_iter ?_ (F.args_dict_iter_1 _));unfold Builtin.«dict.__iter__»;apply aD;unfold Builtin.Dict.dictSlotNone;refine aD (wpAny_notOrdered_dict hT ?_);show ah _ _ (pure (aC d)) _ _ s;apply aW;show ah _ _ (Builtin.Dict.showsAll d>>=_) _ _ s;unfold Builtin.Dict.showsAll;rw[ao (by rw[hd];exact nG)];refine aD (aW ?_);refine aD (wdb ho hdat ?_);refine aD (wfx ho hdat ?_);refine aD (J8 (aW ⟨_,rfl,"dict_keyiterator",_,⟨_,lZ _ rfl,rfl⟩,F.slot_dict_keyiterator_next.lookup,?_⟩));simpa[cK]using hQ
theorem U7{Q:Option ρ->τ->Prop}(hit:s.heap.IsKeyIter it d i es.size ep)(hm:qg s.heap d es ep)(hx:es[i]? =some e)(hQ:∀h',h'.IsKeyIter it d (i+1) es.size ep->cz it s.heap h'->Q (some e.key) {s with heap:=h'}):ah (aw prog w) A (fz (.ref it)) Q E s:=by
 obtain⟨o,ho,hc,hd⟩:=id hit;obtain⟨od,hod,hcd,hdd⟩:=id hm;unfold fz;refine aD (wpAny_attempt (wbh (name:=bT "__next__") hit.typeIs wbr
  (Td wbr hit.typeIs wdm ?_ (wdi _))))
 refine aD (aW ?_);apply aD;apply aD
 first |refine aD (wbp hit.typeIs (aW ?_))|refine aD (wbz hit.typeIs (aW ?_))
 refine aD (wpAny_fieldsOf ho hd ?_);have hown:Builtin.Dict_items.ownsTuple "dict_keyiterator"=false:=by decide
 simp only[hown,Wz,J7];show ah _ _ (if(aC d==bd)=true then _ else _) _ _ s;rw[ao (show¬((aC d==bd)=true)from nG)];refine aD (aW ?_);refine aD (wdb hod hdd ?_);rw[ao (by simp)];refine aD (aW ?_);refine aD (wfx hod hdd ?_);rw[ao (by simp)];apply aW;obtain⟨hlt',hei⟩:=Array.getElem?_eq_some_iff.mp hx;simp only[show¬((i:Int)<0)from by omega,J7,wC,yfb hlt'];apply aD
 first |refine aD (wbp hit.typeIs (aW ?_))|refine aD (wbz hit.typeIs (aW ?_))
 refine aD (wpAny_isOneOf_keyiter hit.typeIs ?_);show ah _ _ (setField (.ref it) 1 (cK ((i:Int)+1))>>=_) _ _ s;refine aD (weo ho hd (by simp) ?_);have hit':(s.heap.update it (Obj.mapFields (·.setIfInBounds 1 (cK ((i:Int)+1))))).IsKeyIter it d (i+1) es.size ep:=
  ⟨_,yep _ ho (kq (wcp hd _)),(Obj.cls_mapFields ..).trans hc,by rw[wcp hd];simp[cK]⟩
 refine aD (Aq ?_);refine aD (wpAny_isOneOf_keyiter (s:={s with heap:=s.heap.update it (Obj.mapFields (·.setIfInBounds 1 (cK ((i:Int)+1))))}) hit'.typeIs ?_);show ah _ _ (pure es[i].key) _ _ _;rw[hei];exact aW (aW ⟨_,rfl,aW (hQ _ hit' (Ef ..))⟩)
theorem ZF{Q:Option ρ->τ->Prop}(hh:A.handled=none)(hit:s.heap.IsKeyIter it d i es.size ep)(hm:qg s.heap d es ep)(hge:es.size<=i)(hQ:∀h',Heap.ExtBut it s.heap h'->Q none {s with heap:=h'}):ah (aw prog w) A (fz (.ref it)) Q E s:=by
 obtain⟨o,ho,hc,hd⟩:=id hit;obtain⟨od,hod,hcd,hdd⟩:=id hm;unfold fz;refine aD (wpAny_attempt (wbh (name:=bT "__next__") hit.typeIs wbr
  (Td wbr hit.typeIs wdm ?_ (wdi _))))
 refine aD (aW ?_);apply aD;apply aD
 first |refine aD (wbp hit.typeIs (aW ?_))|refine aD (wbz hit.typeIs (aW ?_))
 refine aD (wpAny_fieldsOf ho hd ?_);have hown:Builtin.Dict_items.ownsTuple "dict_keyiterator"=false:=by decide
 simp only[hown,Wz,J7];show ah _ _ (if(aC d==bd)=true then _ else _) _ _ s;rw[ao (show¬((aC d==bd)=true)from nG)];refine aD (aW ?_);refine aD (wdb hod hdd ?_);rw[ao (by simp)];refine aD (aW ?_);refine aD (wfx hod hdd ?_);rw[ao (by simp)];apply aW;simp only[show¬((i:Int)<0)from by omega,J7,wC,yen hge];apply aD
 first |refine aD (wbp hit.typeIs (aW ?_))|refine aD (wbz hit.typeIs (aW ?_))
 show ah _ _ (setField (.ref it) 0 .none>>=_) _ _ s;refine aD (weo ho hd (by simp) ?_);show ah _ _ (newExc (.type "StopIteration") []>>=_) _ _ _;apply aD;simp only[newExc,newTuple];refine aD (J8 ?_ (by size_fits));refine aD (m:=gh _ _) (wgk (a:=bd) (by first |rfl|(simp only[gh];rfl)) ?_);refine J8 ?_ (by size_fits);simp only[raiseNew];refine aD (wpAny_handled ?_);rw[show A.in1.handled=none from hh];refine aD (aW (wpAny_throw ?_));refine aD (wpAny_isInstance (T:="StopIteration") (b:=true) ⟨_,lZ _ rfl,rfl⟩ isSubtype_stop ?_);exact aW (hQ _ (((Ef ..).extBut.push _).push _))
theorem Nm(hh:A.handled=none)(I d:af)(hne:d≠I)(es:Array gr)(ep:Nat):
  Walks prog w A I [I,d] [I] es.size (λi v=>∃e,es[i]? =some e/\v=e.key) (λi h=>h.IsKeyIter I d i es.size ep/\qg h d es ep) where
 sub:=λb hb=>by simp at hb;simp[hb]
 frame:=λ_ _ _ st hk=>⟨st.1.at λo e=>hk I (by simp) o e,st.2.at' λo e=>hk d (by simp) o e⟩
 item:=λi s Q E hi st hQ=>by
  refine U7 (e:=es[i]) st.1 st.2 (by simp[hi]) λh' hit' hs'=>?_;exact hQ _ h' s.toks ⟨_,by simp[hi],rfl⟩ ⟨hit',st.2.at' λo e=>hs'.extBut d o hne e⟩ λb o hb e=>hs'.extBut b o (λh=>hb (by simp[h])) e
 done:=λs Q E st hQ=>ZF hh st.1 st.2 (aQ _) λh' he'=>hQ h' s.toks λb o hb e=>he' b o (λh=>hb (by simp[h])) e
 self:=λ_ _ _ _ st hQ=>wpAny_pyIter_keyiter st.1 hQ
theorem Y8(lo:(d==bz)=false):KdlSrc prog w "dict" d d es.size (λi v=>∃e,es[i]? =some e/\v=e.key) (λh=>qg h d es ep) where
 type:=λ_ hm=>hm.typeIs
 there:=λ_ hm=>⟨hm.lt,hm.lt⟩
 keep:=λ_ _ hm hk=>hm.at' λo e=>hk d (.inl rfl) o e
 notList:=by decide
 notTuple:=by decide
 hint:=λ_ _ _ _ hm hq=>kdl_hint_dict hm.typeIs hq
 iter:=λ_ _ hh hm=>⟨_,_,(λ_ _ hq=>Vn lo hm hq),Nm hh _ d (gP hm.lt) es ep,⟨⟨_,lZ _ rfl,rfl,rfl⟩,hm.at' λo e=>fG _ e⟩⟩
theorem QW(h:iO (λi v=>∃e,es[i]? =some e/\v=e.key) acc es.size):acc.toList=es.toList.map (·.key):=by
 refine yeu λi=>?_;rw[cV,wfy,wfy];by_cases hi:i<es.size
 ·have hi2:i<acc.size:=by rw[h.1];exact hi
  obtain⟨e,h1,h2⟩:=h.2 i acc[i] (by simp[hi2]);rw[yfb hi2,h2,h1];rfl
 ·rw[yen (by rw[h.1];omega),yen (by omega)];rfl
theorem GF{Q:List ρ->τ->Prop}(hA:A.handled=none)(lo:(d==bz)=false)(S:qg s.heap d es ep)(hz:es.size<=1000000)(h:∀h' tk,(∀b o,s.heap.get? b=some o->h'.get? b=some o)->s.heap.objs.size<=h'.objs.size->Q (es.toList.map (·.key)) {s with heap:=h',toks:=tk}):
  ah (aw prog w) A (collect (.ref d)) Q E s:=by
 unfold collect;refine aD (wpAny_runValue (Tc entry_proto_collect' ?_));show ah _ _ (do again (.builtin "list.__iadd__" ⟨[<-newList [],.ref d],[]⟩)) _ _ s;refine aD (wco (aW ⟨Code.quiet_builtin _ (by decide+kernel),Tc entry_list_iadd' ?_⟩));rw[T6 g5 _];show ah _ _ (g7 (.ref s.heap.objs.size) (.ref d) (.ref s.heap.objs.size)) _ _ {s with heap:=s.heap.push (aI "list" #[] 0)};have hne:s.heap.objs.size≠d:=HN S.lt;refine kdl_extend (R:=λr s'=>match r with
   | .ok (.ret v)=>ah (aw prog w) A (match v with
    | .ref a=>do match(<-load a).data with
     | .seq xs _=>pure xs.toList
     |_=>ii "internal:collect"
    |_=>ii "internal:collect") Q E s'
   | .ok _=>False
   | .error e=>E e s') (s:={s with heap:=s.heap.push (aI "list" #[] 0)}) (Y8 (es:=es) (ep:=ep) lo) (by simpa using hA) (S.at' λo e=>fG _ e) s.heap.objs.size hne hne _ 0 (lZ _ rfl) (λh' tk acc c keep hl pm=>?_) (by rw[eZ];omega)
 show ah (aw prog w) A (load s.heap.objs.size>>=_) Q E _;refine aD (wpAny_load hl ?_);apply aW;rw[QW pm];exact h h' tk (λb o e=>keep b o (gP (eO e)) (fG _ e)) (dN (eO hl))
end
noncomputable def jF(h:bv)(its:List (af×ζ)):Prop:=∀p∈its,∃ae:List ρ,dc ae p.2/\gY h p.1 ae.toArray
noncomputable def cT(its:List (af×ζ)):List ρ:=its.map λp=>.ref p.1
noncomputable def vI(its:List (af×ζ)):SortKind:=if its.all (λp=> !p.2.isEmpty)=true then tuples' true else match its with
 |p::_=>if p.2.isEmpty=true then oneType' else general'
 |[]=>general'
noncomputable def FsT(h:bv):List ρ->List (Option ρ)->Prop
 |[],[]=>True
 |v::vs,f::fs=>(∃a o xs n,v=.ref a/\h.get? a=some o/\o.cls=.type "tuple"/\o.data=.seq xs n/\xs[0]? =f)/\FsT h vs fs
 |_,_=>False
section
variable{M:Model}{A:bp}{E:L4}{s:τ}
theorem Jz:∀(vs:List ρ) (fs:List (Option ρ)) {Q:List (Option ρ)->τ->Prop},FsT s.heap vs fs->Q fs s->ah M A (vs.mapM firstOfTuple') Q E s
 |[],[],_,_,h=>by rw[List.mapM_nil];exact aW h
 |[],_::_,_,t,_=>t.elim
 |_::_,[],_,t,_=>t.elim
 |v::vs,f::fs,Q,t,h=>by
  obtain⟨⟨a,o,xs,n,rfl,ho,hc,hd,hf⟩,t⟩:=t;rw[List.mapM_cons];apply aD;rw[kas_first_eq];refine aD (Looks.here (show Looks M s.heap (typeOf (.ref a)) o.cls from(Looks.ld ho).andThen .now) ?_);rw[hc,ao (by first |decide|simp)];refine aD (listItems_at ho hd (aW ?_));rw[hf];exact aD (Jz vs fs (Q:=λbs s'=>ah M A (pure (f::bs)) Q E s') t (aW h))
theorem Ri:∀(its:List (af×ζ)),jF h its->∃fs,FsT h (cT its) fs/\fs.map (·.isSome)=its.map (λp=> !p.2.isEmpty)
 |[],_=>⟨[],trivial,rfl⟩
 |p::its,hT=>by
  obtain⟨fs,h1,h2⟩:=Ri its λq hq=>hT q (cY _ hq);obtain⟨ae,hi,o,e,hc,n,hd⟩:=hT p cC;refine⟨ae.toArray[0]? ::fs,⟨⟨p.1,o,_,n,rfl,e,hc,hd,rfl⟩,h1⟩,?_⟩;rw[iQ,iQ,h2];congr 1;obtain⟨pa,pn⟩:=p;dsimp only at hi;cases hi with
  |nil=>rfl
  |cons i t _=>simp
theorem Gk{Q:jI->τ->Prop}(hT:jF s.heap its)(h2:2<=its.length)(hn:¬its.all (λp=> !p.2.isEmpty)=true)(h:Q (vI its) s):ah M A (keyKind' (cT its).toArray) Q E s:=by
 obtain⟨fs,f1,f2⟩:=Ri its hT;unfold vI at h;rw[ao hn]at h;have hall:¬(fs.toArray.all λx=>x.isSome)=true:=λz=>hn (by
  have e:its.all (λp=> !p.2.isEmpty)=(its.map (λp=> !p.2.isEmpty)).all id:=by rw[SN];rfl
  rw[e,<-f2,SN];simpa using z)
 rw[kat_kind_eq,n9,map_eq_pure_bind];refine aD (aD (Jz _ fs f1 (aW ?_)));rw[ao hall]
 match its,fs,f2,h2,h,hT with
 |p::its,f::fs,f2,h2,h,hT=>
  have ef:f.isSome= !p.2.isEmpty:=by
   rw[iQ,iQ]at f2;exact(List.cons.inj f2).1
  have e0:((f::fs).toArray[0]?.bind id).isSome= !p.2.isEmpty:=by simpa using ef
  dsimp only at h;cases hp:p.2.isEmpty with
  |false=>
   rw[au (by rw[e0,hp];rfl)];rw[hp,ao nG]at h;exact aW h
  |true=>
   rw[ao (by rw[e0,hp];exact nG)];rw[hp,au rfl]at h;rw[oneTypeOnly'_eq,n9,map_eq_pure_bind];refine aD (aD (aD (kas_mapM (r:=cM "tuple") _ (λv hv Q' hq=>?_) (aW ?_))))
   ·obtain⟨q,hq',rfl⟩:=dF.mp hv;obtain⟨ae,hi,o,e,hc,n,hd⟩:=hT q hq';refine Looks.here (show Looks M s.heap (typeOf (.ref q.1)) o.cls from(Looks.ld e).andThen .now) ?_;rw[hc];exact hq
   ·have hall2:((List.map (λ_=>cM "tuple") (cT (p::its))).toArray.all λx=>x==cM "tuple")=true:=by
     simp only[List.all_toArray,SN,iW];intro _ _;rfl
    have h0:(List.map (λ_=>cM "tuple") (cT (p::its))).toArray[0]? =some (cM "tuple"):=by unfold cT;simp
    rw[h0];simp only[hall2,S8];exact aW (aW h)
end
section
variable{prog:χ}{w:ω}{A:bp}{E:L4}{s:τ}
theorem Lg{Q:jI->τ->Prop}(hT:jF s.heap its)(h2:2<=its.length)(h:Q (vI its) s):ah (aw prog w) A (keyKind' (cT its).toArray) Q E s:=by
 by_cases hn:its.all (λp=> !p.2.isEmpty)=true
 ·unfold vI at h;rw[au hn]at h;have kt:∀(l:List (af×ζ)),(∀p∈l,p∈its)->∃fs:List ρ,KatTups s.heap (cT l) fs/\fs.length=l.length/\∀v∈fs,∃i t,v=bu i t:=by
   intro l
   induction l with
   |nil=>intro _;exact⟨[],trivial,rfl,λ_ hv=>nomatch hv⟩
   |cons p l ih=>
    intro hs;obtain⟨fs,k1,k2,k3⟩:=ih λp hp=>hs p (cY _ hp);obtain⟨ae,hi,o,e,hc,n,hd⟩:=hT p (hs p cC);have hne:(!p.2.isEmpty)=true:=iW.mp hn p (hs p cC);obtain⟨pa,pn⟩:=p;dsimp only at hi hne e;cases hi with
    |nil=>exact absurd hne (by decide)
    |cons i t hi'=>
     refine⟨bu i t::fs,KatTups.cons e hc hd (by simp) k1,by simp[k2],λv hv=>?_⟩;rcases cX.mp hv with e|e
     ·exact⟨i,t,e⟩
     ·exact k3 v e
  obtain⟨fs,k1,k2,k3⟩:=kt its λ_ hp=>hp;refine kat_kind (T:=.type "int") k1 (by omega) (λv hv=>?_) (by rfl) h;obtain⟨i,t,rfl⟩:=k3 v hv;exactλA Q E s _ q=>aW q
 ·exact Gk hT h2 hn h
theorem Vb{Q:Bool->τ->Prop}(hp:p∈its)(hq:q∈its)(hT:jF s.heap its)(hu:A.units<dm)(h:Q (HT.lexLt p.2 q.2) s):ah (aw prog w) A (keyLt' (vI its) (.ref p.1) (.ref q.1)) Q E s:=by
 obtain⟨xi,hxi,ti⟩:=hT p hp;obtain⟨xj,Tj,tj⟩:=hT q hq;have gen:ah (aw prog w) A (keyLt' general' (.ref p.1) (.ref q.1)) Q E s:=kat_one _ _ (HT.lt_tupInts ti tj (by simpa using hxi) (by simpa using Tj) hu h);unfold vI;split
 ·obtain⟨oi,ei,ci,ni,di⟩:=id ti;obtain⟨oj,ej,cj,nj,dj⟩:=id tj;refine kat_lt ei di ej dj ?_;refine vW.vD 0 hxi Tj ?_ h;have:=hxi.length;have:=Tj.length;simp only[gw];omega
 ·split
  ·split
   ·rw[keyLt'_oneType,oneLt'_eq];simp only[S8];refine aD (wpAny_cRoomFor hu ?_);obtain⟨⟨cls,dd,data,sl⟩,ho,hc,n,hd⟩:=id ti;obtain⟨⟨cls2,dd2,data2,sl2⟩,ho2,hc2,n2,hd2⟩:=id tj;simp only at hc hd hc2 hd2;subst hc hd hc2 hd2;refine aD (wpAny_callSpecialIfBound?_slot (T:="tuple") ⟨_,ho,rfl⟩ wdh (TV wdh ⟨_,ho,rfl⟩ wfp (wfd _ _) (HT.tuple_lt_ints p.1 q.1 _ _ n n2 dd dd2 sl sl2 p.2 q.2 (by simpa using hxi) (by simpa using Tj)) ⟨ho,ho2,?_⟩));exact Mw h
   ·exact gen
  ·exact gen
end
section
variable{prog:χ}{w:ω}{A:bp}{E:L4}{s:τ}{d:af}{es:Array gr}{ep:Nat}
theorem rY:∀its:List (af×ζ),bI (λ(p:af×ζ) (v:ρ)=>v=.ref p.1) its (cT its)
 |[]=>.nil
 |p::its=>.cons rfl (rY its)
theorem Ja(hi:i<its.length):(cT its).getD i bd=.ref its[i].1:=by
 unfold cT;rw[gQ,cV,eN hi];rfl
theorem jF.keep(x:jF h its)(k:∀b o,h.get? b=some o->h'.get? b=some o):jF h' its:=λp hp=>by
 obtain⟨ae,hi,o,e,r⟩:=x p hp;exact⟨ae,hi,o,k _ _ e,r⟩
theorem Ke{Q:L4}(hA:A.handled=none)(lo:(d==bz)=false)(S:qg s.heap d es ep)(hv:es.toList.map (·.key)=cT its)(hT:jF s.heap its)(h64:its.length<64)(hu:A.in1.in1.units<dm)(q:∀D h' tk out c (its':List (af×ζ)),its'.Perm its->its'.Pairwise (λp q=>HT.lexLt q.2 p.2=false)->bI (λ(p:af×ζ) (v:ρ)=>v=.ref p.1) its' out->s.heap.objs.size<=D->(∀b o,s.heap.get? b=some o->h'.get? b=some o)->h'.get? D=some (aI "list" (bn out) c)->Q (.ref D) {s with heap:=h',toks:=tk}):
  ah (aw prog w) A (call (.builtin "sorted") [.ref d]) Q E s:=by
 have ad:(cT its).length=its.length:=aF _;have hes:es.size=its.length:=by rw[<-ad,<-hv,aF,TJ]
 refine i7 kind_sorted plain_sorted entry_sorted (args_sorted1 _) ?_;unfold Builtin.«sorted»;refine aD (m:=checkCount "sorted" 1 1 _) (aW (aD (GF (by simpa using hA) lo S (by omega) λh1 tk W7 le=>?_)));rw[hv];refine aD (wco ?_ (by rw[eZ];omega));have hoL:(h1.push (aI "list" (cT its).toArray 0)).get? h1.objs.size=some (aI "list" (cT its).toArray 0):=lZ _ rfl;have keep:∀b o,s.heap.get? b=some o->(h1.push (aI "list" (cT its).toArray 0)).get? b=some o:=λb o e=>fG _ (W7 b o e);have ne:∀b o,s.heap.get? b=some o->b≠h1.objs.size:=λb o e=>gP (eO (W7 b o e));refine aD (Aq (Td slot_list_sort ⟨_,hoL,rfl⟩ entry_list_sort ?body (args_list_sort _)))
 case body=>
  refine vW.mX (O:=vW.lexOrd) (key:=λi=>(its.getD i (0,[])).2) (κ:=vI its) (vs:=cT its) (s:={s with heap:=h1.push (aI "list" (cT its).toArray 0),toks:=tk}) hoL (by omega)
   (λh2 h' k Q hq=>?_) (λh2 h' k=>?_) λh' out c ho k hc=>?_
  ·exact Lg (s:={s with heap:=h',toks:=tk}) (hT.keep λb o e=>k b o (ne b o e) (keep b o e)) (by omega) hq
  ·intro i j C hi hj hC;rw[ad]at hi hj;unfold W.kas_ask;rw[Ja hi,Ja hj];refine Vb (s:={s with heap:=h',toks:=tk}) (Bb hi) (Bb hj) (hT.keep λb o e=>k b o (ne b o e) (keep b o e)) hu ?_;rw[HT.bQ];have e1:its.getD i (0,[])=its[i]:=by simp[hi]
   have e2:its.getD j (0,[])=its[j]:=by simp[hj]
   have hC':C (decide ((its.getD i (0,[])).2<(its.getD j (0,[])).2)) _:=hC;rw[e1,e2]at hC';exact hC'
  ·obtain⟨its',hp,hr,hw⟩:=vW.yS (d:=((0,[]):af×ζ)) (f:=λp=>p.2) (rY its) (λi hi=>by show(its.getD i (0,[])).2=_;simp[hi]) ho;refine⟨_,rfl,aW ⟨_,rfl,q _ h' tk out c its' hp (hw.imp λ{x y} hxy=>?_) hr le (λb o e=>k b o (ne b o e) (keep b o e)) hc⟩⟩;rw[HT.bQ];exact hxy
end
end DH
namespace L2
open PySem PySem.Spec PyProof.Rows
noncomputable def MF(k:List Key):ζ:=k.map λ
 | .inl i=>i
 | .inr _=>0
noncomputable def Ae(k:List Key):Prop:=k=(MF k).map bc
theorem pU(ns):MF (ns.map bc)=ns:=by
 unfold MF;rw[oN]
 induction ns with
 |nil=>rfl
 |cons n ns ih=>rw[iQ,ih];rfl
theorem Ae.of(ns:ζ):Ae (ns.map bc):=by unfold Ae;rw[pU]
theorem Ae.vals(h:Ae k):k.map kV=(MF k).map V.int:=by
 rw[h,oN,pU];rfl
section
variable{X:Cx}
theorem wM(hc:X.calm=true)(hu:X.A.units+64<dm):CallR X (.builtin "sorted") (λxs H Q=>∃(a:af) (kvs:List (List Key×V)),xs=[.ref a]/\H a=some (.dT kvs)/\kvs.length<64/\(∀kv∈kvs,Ae kv.1)/\
  ∀(l:af) (its:List (af×ζ)),H l=none->(∀p∈its,H p.1=some (.tup (p.2.map V.int)))->(its.map (·.2)).Perm (kvs.map λkv=>MF kv.1)->(kvs.map (·.1)).Nodup->its.Pairwise (λp q=>HT.lexLt q.2 p.2=false)->Q (.ref l) (upd H l (.lst (its.map λp=>V.ref p.1)))):=by
 intro aa s σ H xs us Q I r h;obtain⟨a,kvs,rfl,hD,h64,hK,q⟩:=h;obtain⟨u,rfl,ru⟩:=r.one;cases ru;obtain⟨z,hd,ys,rel,dd⟩:=dt_of I.hok hD;obtain⟨o,es,ep,ho,hx,hdat,he,his,hn⟩:=id dd;have hl:ys.length=kvs.length:=(S9 rel).symm;have main:∃its:List (af×ζ),es.toList.map (·.key)=DH.cT its/\(∀p∈its,H p.1=some (.tup (p.2.map V.int)))/\its.map (·.2)=kvs.map λkv=>MF kv.1:=by
  rw[he];clear his hn he hdat hx ho dd hl h64 z q hD
  induction rel with
  |nil=>exact⟨[],rfl,λ_ hp=>(nomatch hp),rfl⟩
  | @cons p y kvs ys r t ih=>
   obtain⟨its,h1,h2,h3⟩:=ih λkv hkv=>hK kv (cY _ hkv);refine⟨(y.2.1,MF p.1)::its,?_,λq hq=>?_,?_⟩
   ·rw[iQ,iQ,h1];rfl
   ·rcases cX.mp hq with e|e
    ·rw[e];show H y.2.1=some (.tup ((MF p.1).map V.int));rw[<-(hK p cC).vals];exact r.2.1
    ·exact h2 q e
   ·rw[iQ,iQ,h3]
 obtain⟨its,m1,m2,m3⟩:=main;have hln:its.length=kvs.length:=by have:=gR cw m3;simpa using this
 have hT:DH.jF s.heap its:=λp hp=>by
  obtain⟨its',r',t',_⟩:=I.tuple (SqT.of (K:=X.K) (m2 p hp));exact⟨its',intsAre_of r',t'⟩
 refine DH.Ke (I.ok.hd hc) hd ⟨o,ho,hx,hdat⟩ m1 hT (by omega) (show X.A.units+1+1<dm by omega) λD h' tk out c its' hp hw hr hDs k hO=>?_;have rv':Vals (its'.map λp=>V.ref p.1) out:=by
  have go:∀(l:List (af×ζ)) (us:List ρ),bI (λ(p:af×ζ) (v:ρ)=>v=.ref p.1) l us->Vals (l.map λp=>V.ref p.1) us:=by
   intro l us h
   induction h with
   |nil=>exact .nil
   |cons r t ih=>exact .cons r ih
  exact go its' out hr
 have zl:(its'.map λp=>V.ref p.1).length<=sizeLine:=by
  have:=hp.length_eq;rw[aF,eZ];omega
 have J:Inv X aa σ (upd H D (.lst (its'.map λp=>V.ref p.1))) {s with heap:=h',toks:=tk}:=I.laid k hDs ⟨zl,out,c,rv',hO⟩;have ek:kvs.map (·.1)=ys.map (·.1):=by
  clear hK m3 hln hT rv' zl J hl hn his he dd m1 hD h64 z q
  induction rel with
  |nil=>rfl
  |cons r t ih=>rw[iQ,iQ,ih,r.1]
 refine⟨.ref D,_,J,rfl,q D its' (I.hok.fresh hDs) (λp hp'=>m2 p (hp.mem_iff.mp hp')) ?_ (by rw[ek];exact hn) hw⟩;rw[<-m3];exact hp.map _
theorem vG:∀a b:ζ,HT.lexLt a b=true->HT.lexLt b a=false
 |[],[],h=>by cases h
 |[],_::_,_=>rfl
 |_::_,[],h=>by cases h
 |x::xs,y::ys,h=>by
  rw[HT.lexLt_cons]at h⊢;by_cases e:x=y
  ·rw[au e]at h;rw[au e.symm];exact vG xs ys h
  ·rw[ao e]at h;rw[ao λz=>e z.symm];have:=fW h;exact gj (by omega)
theorem Jl:∀a b:ζ,HT.lexLt b a=false->a≠b->HT.lexLt a b=true
 |[],[],_,n=>absurd rfl n
 |[],_::_,_,_=>rfl
 |_::_,[],h,_=>by cases h
 |x::xs,y::ys,h,n=>by
  rw[HT.lexLt_cons]at h⊢;by_cases e:x=y
  ·rw[au e.symm]at h;rw[au e];exact Jl xs ys h (λz=>n (by rw[e,z]))
  ·rw[ao λz=>e z.symm]at h;rw[ao e];have:=wbv h;exact bY (by omega)
theorem Nq{k:List Key}:(valV kvs k).isSome=true↔k∈kvs.map (·.1):=by
 rw[<-valV_any,List.any_eq_true];constructor
 ·rintro⟨kv,h1,h2⟩;exact dF.mpr ⟨kv,h1,fW h2⟩
 ·intro h;obtain⟨kv,h1,h2⟩:=dF.mp h;exact⟨kv,h1,bY h2⟩
theorem zY(hc:X.calm=true)(hu:X.A.units+64<dm):CallR X (.builtin "sorted") (λxs H Q=>∃(a:af) (kvs:List (List Key×V)),xs=[.ref a]/\H a=some (.dT kvs)/\kvs.length<64/\(∀kv∈kvs,Ae kv.1)/\
  ∀(l:af) (its:List (af×ζ)),H l=none->(∀p∈its,H p.1=some (.tup (p.2.map V.int)))->its.length=kvs.length->(∀k:ζ,k∈its.map (·.2)↔(valV kvs (k.map bc)).isSome=true)->(its.map (·.2)).Pairwise (λp q=>HT.lexLt p q=true)->Q (.ref l) (upd H l (.lst (its.map λp=>V.ref p.1)))):=by
 intro aa s σ H xs us Q I r h;obtain⟨a,kvs,e,hD,h64,hK,q⟩:=h;refine wM hc hu aa s σ H xs us Q I r ⟨a,kvs,e,hD,h64,hK,λl its hl h1 hp nd hs=>?_⟩;have nd2:(kvs.map λkv=>MF kv.1).Nodup:=by
  have e:(kvs.map λkv=>MF kv.1)=(kvs.map (·.1)).map MF:=by rw[oN];rfl
  rw[e];unfold lI;rw[J4];refine nd.imp_of_mem λ{x y} hx hy ne z=>ne ?_;obtain⟨kx,mx,rfl⟩:=dF.mp hx;obtain⟨ky,my,rfl⟩:=dF.mp hy;rw[hK kx mx,hK ky my,z]
 have nd3:(its.map (·.2)).Nodup:=hp.nodup_iff.mpr nd2;refine q l its hl h1 (by have:=hp.length_eq;simpa using this) (λk=>?_) ?_
 ·rw[hp.mem_iff,Nq];constructor
  ·intro h;obtain⟨kv,m1,rfl⟩:=dF.mp h;rw[<-hK kv m1];exact dF.mpr ⟨kv,m1,rfl⟩
  ·intro h;obtain⟨kv,m1,e⟩:=dF.mp h;exact dF.mpr ⟨kv,m1,by rw[e,pU]⟩
 ·have hs2:(its.map (·.2)).Pairwise (λp q=>HT.lexLt q p=false):=by rw[J4];exact hs
  exact(hs2.and nd3).imp λ{x y} h=>Jl x y h.1 h.2
end
end L2
namespace DH
open PySem PySem.W PyProof.Rows PySem.Calls
section
variable{prog:χ}{w:ω}{K:Type} [DecidableEq K]{knd:HeapKind prog w K}{A:bp}{E:L4}{s:τ}
theorem Bq{d a:af}{xs:List (K×af×ρ)}{k:K}{v:ρ}{Q:L4}(hu:knd.room A)(hkey:knd.is s.heap k a)(hm:s.heap.DictOfH knd d xs)(h1:∀p,fx xs k=some p->Q p.2 {s with toks:=s.toks+knd.draws k})(h2:fx xs k=none->∀h',h'.DictOfH knd d (storedH xs k a v)->cz d s.heap h'->Q v {s with heap:=h',toks:=s.toks+knd.draws k})(hsz:xs.length<=sizeLine):ah (aw prog w) A (kd d (.ref a) v) Q E s:=by
 obtain⟨o,es,ep,ho,hc,hd,he,his,hn⟩:=hm;unfold kd;apply Aq;refine aD (knd.pyHash hu hkey (aD (wpAny_dictFind_heap (s:={s with toks:=s.toks+knd.draws k}) hu hkey ho hd he his hn ?_ ?_)))
 ·intro hno;have hnot:k∉xs.map (·.1):=not_mem_keys_of_get hno;refine aD (Ww (aD (wpAny_updateDictKeys (hz:=by have e:=size_of_entries he;omega) (s:={s with toks:=s.toks+knd.draws k}) ho hd (aW (h2 (wdc hno) _ ⟨_,_,ep+1,yep _ ho (Obj.isFreed_of_dict (kP hd _)),
   hc.mapDictKeys _,kP hd _,?_,?_,?_⟩ (Ef ..))))))
  ·rw[wgl (wdc hno)];simp[he,entryOfKey]
  ·rw[wgl (wdc hno)];intro x hx;rcases lM.mp hx with hx|hx
   ·exact knd.keeps (his x hx) ho hd (Ef ..)
   ·simp only[fV]at hx;subst hx;exact knd.keeps hkey ho hd (Ef ..)
  ·rw[wgl (wdc hno)];rw[bC,List.nodup_append];refine⟨hn,by simp,?_⟩;intro x hx y hy;simp only[iQ,yfm,fV]at hy;subst hy;exactλe=>hnot (e▸hx)
 ·intro j p hj;refine aD (wdb (s:={s with toks:=s.toks+knd.draws k}) ho hd ?_);rw[entry_at he j,hj];exact aD (Ww (aW (h1 p (atKey_of_get hn hj))))
theorem zp(d a:af)(hd:(d==bz)=false)(v:ρ):
  MeetsIn prog w (Builtin.«dict.setdefault» ⟨[.ref d,.ref a,v],[]⟩) (λA R s=>knd.room A.in1/\∃k xs,knd.is s.heap k a/\s.heap.DictOfH knd d xs/\xs.length<=sizeLine/\
   (∀p,fx xs k=some p->R (.ok (.ret p.2)) {s with toks:=s.toks+knd.draws k})/\
   (fx xs k=none->∀h',h'.DictOfH knd d (storedH xs k a v)->cz d s.heap h'->R (.ok (.ret v)) {s with heap:=h',toks:=s.toks+knd.draws k})):=
 .of_wp λA R s ⟨hu,k,xs,hkey,hm,hz,h1,h2⟩=>by
  unfold Builtin.«dict.setdefault»;apply aD;unfold Builtin.Dict.keyAndDefault;refine aD (wpAny_notOrdered_dict hm.typeIs ?_);show ah _ _ (pure (d,aC a,some v)) _ _ s;apply aW;show ah _ _ (if(d==bz)=true then _ else(kd d (.ref a) v>>=_)) _ _ s;rw[ao (by rw[hd];exact nG)];exact aD (Bq hu hkey hm (λp hp=>aW ⟨p.2,rfl,h1 p hp⟩) (λhn h' hm' hs'=>aW ⟨v,rfl,h2 hn h' hm' hs'⟩) hz)
end
end DH
namespace L2
open PySem PySem.Spec PyProof.Rows
section
variable{X:Cx}
theorem Gd(hu:X.A.units+64<dm):MtR X "dict.setdefault" (λx vs H Q=>∃(a b:af) (kvs:List (List Key×V)) (k:List Key) (y:V),x=.ref a/\vs=[.ref b,y]/\H a=some (.dT kvs)/\H b=some (.tup (k.map kV))/\kvs.length<sizeLine/\
  (∀v,valV kvs k=some v->Q v H)/\(valV kvs k=none->Q y (upd H a (.dT (putK kvs k y))))):=by
 intro aa s σ H x vs v us Q I rx rv h;obtain⟨a,b,kvs,k,y,rfl,rfl,e,eb,l,q1,q2⟩:=h;cases rx;obtain⟨u,r,rfl,ru,rr⟩:=rv.two;cases ru;obtain⟨z,hd,xs,rel,dd⟩:=dt_of I.hok e;have hz:xs.length<=sizeLine:=by rw[<-S9 rel];exact z
 have hl:(putK kvs k y).length<=sizeLine:=by have:=length_putK kvs k y;omega
 have Bu:=rel.val k;refine call_meetsIn wds dd.typeIs PySem.F.entry_dict_setdefault (PySem.F.args_dict_setdefault_3 _ _ _) (DH.zp (knd:=gm (mixKind X.prog X.w)) a b hd r) ⟨wel (by omega),k,xs,key_of I.hok eb,dd,hz,λp hp=>?_,λhp h' dd' hs=>?_⟩
 ·rw[hp]at Bu;cases hv:valV kvs k with
  |none=>rw[hv]at Bu;exact Bu.elim
  |some v=>rw[hv]at Bu;exact⟨v,H,I.tok _,Bu,q1 v hv⟩
 ·rw[hp]at Bu;cases hv:valV kvs k with
  |some v=>rw[hv]at Bu;exact Bu.elim
  |none=>
   obtain⟨q,es,ep,hq,h2,h3,h4,_,h5⟩:=dd';refine⟨y,_,d_write (ob:=.dT (putK kvs k y)) I (by rw[e];exact dS) hs ⟨q,hq⟩ ⟨hl,hd,_,(rel.put k eb rr).keeps λc ys ec=>?_,q,es,ep,hq,h2,h3,h4,h5⟩,rr,q2 hv⟩;rw[cW (ne_of ec e (λz=>nomatch z))];exact ec
inductive W0(x:V)(y:V)(H:Hp)(Q:VK):Prop
 |mk(a b xs ys)(_:x=.ref a)(_:y=.ref b)(_:H a=some (.tup xs))(_:H b=some (.tup ys))(_:xs.length+ys.length<=sizeLine)(_:∀r H',Same H H'->H' r=some (.tup (xs++ys))->Q (.ref r) H')
theorem Us:OpR X (cA .Add) W0:=by
 intro aa s σ H x y v u Q I rx ry h;obtain⟨a,b,xs,ys,rfl,rfl,ha,hb,hz,q⟩:=h;by_cases hx:xs=[]
 ·subst hx;cases rx;cases ry;obtain⟨its,r1,p1,_⟩:=I.tuple (SqT.of (K:=X.K) ha);obtain⟨its2,r2,p2,_⟩:=I.tuple (SqT.of (K:=X.K) hb);cases r1;obtain⟨⟨cls,dd,data,sl⟩,ho,hc,n,hd⟩:=id p1;obtain⟨⟨cls2,dd2,data2,sl2⟩,ho2,hc2,n2,hd2⟩:=id p2;simp only at hc hd hc2 hd2;subst hc hd hc2 hd2;exact wfs ⟨_,ho,rfl⟩ ⟨_,ho2,rfl⟩ wdj wfe wce wcc (wby _ _)
   (tuple_addW0 a b _ _ n n2 dd dd2 sl sl2 (by simp)) ⟨ho,ho2,⟨.ref b,H,I,rfl,q b H (Same.refl _) hb⟩⟩
 ·refine op_catT aa s σ H _ _ v u Q I rx ry ⟨a,b,xs,ys,rfl,rfl,SqT.of ha,SqT.of hb,hx,hz,λe=>?_,λe p hp=>?_⟩
  ·subst e;exact q a H (Same.refl _) (by rw[tL];exact ha)
  ·exact q p _ (λc o e=>by rw[cW (jr e hp)];exact e) aH
end
noncomputable def vH(X:Cx)(scope:dC)(s:τ)(f:af)(cdv:ρ):Env:=W.envX (X.env.qual++"<lambda>") scope s.heap.objs.size f cdv (fB X.env.cells scope.names [])
noncomputable def Jp(X:Cx)(A:bp)(N:List bg)(s:τ)(H:Hp)(env:kF):Cx:=
 {X with A:=A.deeper env,N:=N,s₀:=s,H₀:=H,env:=env,outer:=X.stack,stack:=env::X.stack,ex:=[],fn:=λ_=>false,calm:=true,pn:=[],xe:=λ_ _=>False}
noncomputable def Gj(ix:List Nat)(σ:St)(v:V):St:=some v::ix.map λj=>(σ[j]?).join
section
variable{X:Cx}{scope:dC}{caps:List bg}{ix:List Nat}{y:bg}{A:bp}{aa:L3}{σ:St}{H:Hp}{s:τ}{f:af}{cdv:ρ}{v:V}{u:ρ}
theorem Lf{s':τ}(ck:eX X.env.scope scope=true)(hkind:scope.kind=.function)(hcap:g8 X scope caps ix)(hy:scope.names.lookup y=some .local)(hhd:A.handled=none)(hfr:A.frames=some X.stack)
  (I:Inv X aa σ H s)(rv:RelV v u)(hos:s'.os=s.os)(hg:fc s'.gens)(hk:∀b o,s.heap.get? b=some o->s'.heap.get? b=some o)(hn:s'.heap.Ns s.heap.objs.size (λx=>[(y,u)].reverse.lookup x)):
  Inv (Jp X A (y::caps) s H (vH X scope s f cdv)) [] (Gj ix σ v) H s':=by
 have cl1:∀x c,(fB X.env.cells scope.names []).lookup x=some c->X.env.cells.lookup x=some c:=λx c e=>by
  rcases lA (En e)with q|⟨q,mm⟩
  ·cases q
  ·obtain⟨d,hd⟩:=I.ok.has x (eX.free ck mm);rw[hd]at q;rw[hd,q];rfl
 have cl2:∀x,(x,av)∈scope.names->∃c,(fB X.env.cells scope.names []).lookup x=some c:=λx mm=>by
  obtain⟨c,hc⟩:=vR (cells:=X.env.cells) (acc:=[]) mm;obtain⟨d,hd,_⟩:=zbh hc;exact⟨d,hd⟩
 have bsz:X.base.objs.size<=s.heap.objs.size:=bR I.ok.bsz I.sz;refine⟨⟨I.ok.mod,hkind,rfl,rfl,aQ _,λx y c h1 h2=>I.ok.inj x y c (cl1 x c h1) (cl1 y c h2),λx hx=>?_,λx c h=>(nomatch h),λ_=>hhd,iL hfr,.inr ⟨rfl,rfl⟩,λb hb=>(nomatch hb),I.bs,bsz,
  λb o e hb=>(nomatch hb),λb hb=>(nomatch hb),I.stack,I.stkFree⟩,hos,hg,Un.kept hk,⟨_,hn,λi x w h1 h2 h3=>?_⟩,λx c e=>?_,I.hok.fresh (aQ _),λx c e=>I.freeC x c (cl1 x c e),λp hp=>absurd (show p∈([]:L3)from hp) (by simp),I.hok.kept hk,?_⟩
 ·have hx:scope.names.lookup x=some .cell\/scope.names.lookup x=some .free:=hx;rcases hx with q|q
  ·exact absurd rfl (eX.cell ck _ (En q))
  ·exact cl2 x (En q)
 ·have h1:(y::caps)[i]? =some x:=h1;have h2:(some v::ix.map λj=>(σ[j]?).join)[i]? =some (some w):=h2;cases i with
  |zero=>
   have h1:some y=some x:=h1;have h2:some (some v)=some (some w):=h2;cases h1;cases h2;exact⟨u,rv,.inl ⟨hy,by simp[J0]⟩⟩
  |succ i=>
   rw[XD]at h1 h2;obtain⟨j,e1,e2,e3⟩:=hcap.get h1;rw[cV,e1]at h2;have h2':(σ[j]?).join=some w:=by simpa using h2
   have h4:σ[j]? =some (some w):=by
    cases q:σ[j]? with
    |none=>rw[q]at h2';cases h2'
    |some w=>rw[q]at h2';exact gR some h2'
   obtain⟨m0,hn0,hl0⟩:=I.loc;have mm:=En e3;have vis:=eX.free ck mm;obtain⟨u,r,l⟩:=hl0 j x w e2 h4 (.inr vis);refine⟨u,r,.inr ?_⟩;rcases l with⟨k,_⟩|⟨k,c,e,z⟩
   ·rcases vis with q|q
    ·rw[show X.env.kindOf x=some .cell from q]at k;cases k
    ·rw[show X.env.kindOf x=some .free from q]at k;cases k
   ·obtain⟨d,hd⟩:=cl2 x mm;have:=cl1 x d hd;rw[e]at this;cases this;exact⟨.inr e3,c,hd,z.keeps hk⟩
 ·obtain⟨v,z⟩:=I.cell x c (cl1 x c e);exact⟨v,z.keeps hk⟩
 ·show(some v::ix.map λj=>(σ[j]?).join).length=(y::caps).length;simp[hcap.len]
theorem Vm(ck:eX X.env.scope scope=true)(hkind:scope.kind=.function)(hcap:g8 X scope caps ix)(hy:scope.names.lookup y=some .local)(hco:scope.isCoroutine=false)(hgen:scope.isGenerator=false)(hr:Room (k+1) A)(hfr:A.frames=some X.stack)(he:PE (Jp X A (y::caps) s H (vH X scope s f (.ref c'))) body te)(I:Inv X aa σ H s)(rv:RelV v u)(ho:s.heap.get? f=some (i5 "<lambda>" (X.env.qual++"<lambda>") params body scope (fB X.env.cells scope.names []) pm c' ctv))(hcd:s.heap.CodeRec (.ref c') (X.env.qual++"<lambda>"))(hbind:∀(q:bg) (cl:List (bg×af)) (pm cd ct u:ρ),gf (W.kla_fn "<lambda>" q params body scope cl pm cd ct) ⟨[u],[]⟩=pure [(y,u)])(hq:te (Gj ix σ v) H Q):
  ah (aw X.prog X.w) A (call (.ref f) [u]) (EP X aa σ λv H'=>Q v H'/\∀b o u,H b=some (.frz o u)->H' b=some (.frz o u)) (λ_ _=>False) s:=by
 refine iS (W.kla_callFunE hr.depth ho rfl hco hgen rfl hcd ?_);rw[hbind];refine aW (wpAny_newFunctionEnv (eX.cell ck) (λz hz=>by rw[fV.mp hz];exact hy) (λh₁ hns hsb=>⟨I.nolimit.fresh _ hsb,?_⟩) hkind);have hk₁:∀b o,s.heap.get? b=some o->h₁.get? b=some o:=λb o e=>hsb.extBut b o (gP (eO e)) (fG _ e);show eI _ _ (.expr body (vH X scope s f (.ref c'))) _ _;have I':=Lf (A:=A) (f:=f) (cdv:=.ref c') (s':={s with heap:=h₁,toks:=s.toks+[(y,u)].length}) ck hkind hcap hy hr.hd hfr I rv rfl I.bare hk₁ hns;refine W.kla_codeExpr (Bc (he [] _ _ _ _ I' hq) (λv' s' z=>?_) λ_ _ z=>z.elim);obtain⟨x,H',J,r,q⟩:=z;exact I.after ⟨x,H',J.os,J.bare,J.base,J.hok,r,q,J.base.frzs⟩
end
noncomputable def jm(H:Hp)(P:af)(pos:eR)(qual:bg):Prop:=H P=some (.tbl #[])\/∃(c':af) (oc:kE) (vs:Array ρ) (tq:Tok),H P=some (.tbl #[cK pos.line,cK pos.col,.ref c'])/\H c'=some (.frz oc (.own 0))/\oc.data=.fields vs/\vs[1]? =some (.str qual tq)
structure Dv(base:bv)(mg:L5)(c P:af):Prop where
 hd:W.CodeHd base c P
 blt:base.BuiltinsAt mg P
 ne:ax≠P
theorem BuiltinsAt.keeps{h h':bv}(x:h.BuiltinsAt mg P)(k:∀b o,h.get? b=some o->h'.get? b=some o):h'.BuiltinsAt mg P:=
 let⟨bm,o,a,b,c,d,e,r⟩:=x;⟨bm,o,a,b,c,d,k _ _ e,r⟩
section
variable{X:Cx}{scope:dC}{aa:L3}{σ:St}{H:Hp}{s:τ}{c P:af}{pos:eR}{params:Arguments}{body:br}{A:bp}{E:L4}{Q:L4}
theorem QT(I:Inv X aa σ H s)(L:Dv X.base X.mg c P)(hcode:X.env.code=.ref c)(hT:jm H P pos (X.env.qual++"<lambda>"))(ck:eX X.env.scope scope=true)(hdef:defaultsOf params X.env=([],[]))(h:∀(f c':af) (pm ctv:ρ) (H':Hp) (s':τ),Inv X aa σ H' s'->(∀b o,b≠P->H b=some o->H' b=some o)->jm H' P pos (X.env.qual++"<lambda>")->s'.heap.get? f=some (i5 "<lambda>" (X.env.qual++"<lambda>") params body scope (fB X.env.cells scope.names []) pm c' ctv)->
   H' f=none->s.heap.objs.size<=f->(∃(oc:kE) (vs:Array ρ) (tq:Tok),H' c'=some (.frz oc (.own 0))/\oc.data=.fields vs/\vs[1]? =some (.str (X.env.qual++"<lambda>") tq))->Q (.ref f) s'):
  ah (aw X.prog X.w) A (cx (.Lambda params body scope pos) X.env) Q E s:=by
 refine W.kla_eval hdef ?_;have hcl:closureFor scope X.env=pure (fB X.env.cells scope.names []):=oh λx hx=>I.ok.has x (eX.free ck hx);have hg:s.heap.Ns ax X.mg:=I.mod.glob.keeps I.bk;have C:=L.hd.keeps I.bk;have B:=BuiltinsAt.keeps L.blt I.bk;rcases hT with hT|⟨c',oc,vs,tq,hT,hC,hd,hv⟩
 ·have hP:s.heap.get? P=some (gN #[]):=I.hok P _ hT;refine W.kla_makeFunction (ps:=#[]) hcl I.ok.glob hg hcode C hP trivial rfl L.ne B λc' ctv h' tk hx hge hlt hrec htb=>?_;obtain⟨c₂,oc,vs,tq,e2,hoc,hd,hv⟩:=id hrec;cases e2;have cP:c'≠P:=HN (jo (eO hP) hge);have old:∀b o,s.heap.get? b=some o->b≠c':=λb o e=>gP (jo (eO e) hge);have hc0:H c'=none:=I.hok.fresh hge;have kp:∀b o,b≠P->s.heap.get? b=some o->(h'.push (i5 "<lambda>" (X.env.qual++"<lambda>") params body scope (fB X.env.cells scope.names []) ((X.mg "__name__").getD .none) c' ctv)).get? b=some o:=λb o hb e=>fG _ (hx b o hb e);have nP:∀b o,H b=some o->o≠.tbl #[]->b≠P:=λb o e n z=>by rw[z,hT]at e;cases e;exact n rfl
  have eH:∀b,b≠P->b≠c'->upd (upd H P (.tbl (#[]++#[cK pos.line,cK pos.col,.ref c']))) c' (.frz oc (.own 0)) b=H b:=λb h1 h2=>by rw[cW h2,cW h1]
  have eP:upd (upd H P (.tbl (#[]++#[cK pos.line,cK pos.col,.ref c']))) c' (.frz oc (.own 0)) P=some (.tbl (#[]++#[cK pos.line,cK pos.col,.ref c'])):=by rw[cW cP.symm,aH]
  have J:Inv X aa σ (upd (upd H P (.tbl (#[]++#[cK pos.line,cK pos.col,.ref c']))) c' (.frz oc (.own 0))) {s with heap:=h'.push (i5 "<lambda>" (X.env.qual++"<lambda>") params body scope (fB X.env.cells scope.names []) ((X.mg "__name__").getD .none) c' ctv),toks:=tk}:=by
   refine I.un (h':=h'.push _) (t':=tk) ⟨λb o e n hb he=>kp b o (λz=>by rw[z,hT]at n;cases n) e,λb o e n hb he=>⟨o.slots,kp b o (λz=>by rw[z,hT]at n;cases n) e⟩,λb o e n he=>?_,λb o e he=>?_,λb xs e=>?_,λb o u e=>?_,λb ps e=>?_⟩ λb u e=>?_
   ·rw[eH b (λz=>by rw[z,hT]at n;cases n) (old b o e)];exact n
   ·by_cases hb:b=P
    ·subst hb;exact⟨_,fG _ htb⟩
    ·exact⟨o,kp b o hb e⟩
   ·rw[eH b (nP b _ e (λz=>nomatch z)) (jr e hc0)];exact e
   ·rw[eH b (nP b _ e (λz=>nomatch z)) (jr e hc0)];exact e
   ·by_cases hb:b=P
    ·subst hb;rw[hT]at e;cases e;exact⟨_,eP⟩
    ·exact⟨#[],by rw[eH b hb (jr e hc0),e];simp⟩
   ·by_cases hb:b=P
    ·subst hb;rw[eP]at e;cases e;exact fG _ htb
    ·by_cases hb2:b=c'
     ·subst hb2;rw[aH]at e;cases e;exact⟨fG _ hoc,⟨_,fG _ hoc⟩⟩
     ·rw[eH b hb hb2]at e;have ow:∀z,H z=some (.own b)->z≠P/\z≠c':=λz e=>⟨nP z _ e (λq=>nomatch q),jr e hc0⟩;refine(I.hok b u e).stay (λz o hz q=>kp z o ?_ q) (λz q=>by rw[eH z (ow z q).1 (ow z q).2];exact q) λz xs q=>by rw[eH z (nP z _ q (λq=>nomatch q)) (jr q hc0)];exact q
      rcases hz with hz|hz
      ·rw[hz];exact hb
      ·exact(ow z hz).1
  have hsz:s.heap.objs.size<=h'.objs.size:=dN (HW hge hlt);refine h h'.objs.size c' _ ctv _ _ J (λb o hb e=>by rw[eH b hb (jr e hc0)];exact e) (.inr ⟨c',oc,vs,tq,by rw[eP];simp,aH,hd,hv⟩) (lZ _ rfl) ?_ hsz ⟨oc,vs,tq,aH,hd,hv⟩;rw[eH _ (HN (jo (eO hP) hsz)) (HN hlt)];exact I.hok.fresh hsz
 ·have hP:s.heap.get? P=some (gN #[cK pos.line,cK pos.col,.ref c']):=I.hok P _ hT;have hc:s.heap.get? c'=some oc:=(I.hok c' _ hC).1;refine W.kla_makeFunctionHit (ps:=#[cK pos.line,cK pos.col,.ref c']) (cv:=.ref c') hcl I.ok.glob hg hcode C hP trivial (by simp[codeAmong,cK]) B λctv h' tk hk hsz=>?_;have kp:∀b o,s.heap.get? b=some o->(h'.push {cls:=.type "function",data:=.func (W.kla_fn "<lambda>" (X.env.qual++"<lambda>") params body scope (fB X.env.cells scope.names []) ((X.mg "__name__").getD .none) (.ref c') ctv)}).get? b=some o:=λb o e=>fG _ (hk b o e);exact h h'.objs.size c' _ ctv H _ (I.kept (h':=h'.push _) (t':=tk) kp) (λb o _ e=>e) (.inr ⟨c',oc,vs,tq,hT,hC,hd,hv⟩) (lZ _ rfl) (I.hok.fresh hsz) hsz ⟨oc,vs,tq,hC,hd,hv⟩
end
structure jG(X:Cx)(aa:L3)(I:af):Prop where
 lo:X.s₀.heap.objs.size<=I
 loc:I≠X.env.locals
 fs:I∉X.fs
 cl:∀x c,X.env.cells.lookup x=some c->c≠I
 pn:∀p∈X.pn++aa,p.1≠I
section
variable{X:Cx}{σ:St}{H:Hp}{s:τ}{aa:L3}
theorem jG.new{I:af}(J:Inv X aa σ H s)(h:s.heap.objs.size<=I):jG X aa I:=by
 refine⟨bR J.sz h,HN (jo J.lt h),J.nofs h,λx c e=>?_,λp hp=>gP (jo (eO (J.pin p hp).1) h)⟩;obtain⟨v,o,ho,_⟩:=J.cell x c e;exact gP (jo (eO ho) h)
theorem Inv.iu(J:Inv X (p::aa) σ H s):Inv X aa σ H s:=J.pins_of λq hq=>J.pin q (ig _ (cY _ hq))
theorem Inv.mW(J:Inv X ((I,o)::aa) σ H s)(m:jG X aa I)(k:∀b x,b≠I->s.heap.get? b=some x->h'.get? b=some x)(e:h'.get? I=some o')(d:∀v,o'.data≠.cell v):
  Inv X ((I,o')::aa) σ H {s with heap:=h',toks:=tk}:=by
 have hI:=J.pin (I,o) (ig _ cC);have K:=(J.iu).turned (t':=tk) (it:=I) k hI.2.1 m.loc (.inr m.lo) m.cl m.pn;refine K.pins_of λq hq=>?_;rcases cX.mp hq with z|z
 ·subst z;exact⟨e,hI.2.1,m.loc,m.fs,d⟩
 ·exact K.pin q (ig _ z)
theorem Inv.swap(J:Inv X (p::q::aa) σ H s):Inv X (q::p::aa) σ H s:=J.pins_of λr hr=>J.pin r (ig _ (by
 rcases cX.mp hr with z|z
 ·rw[z];exact cY _ cC
 ·rcases cX.mp z with z|z
  ·rw[z];exact cC
  ·exact cY _ (cY _ z)))
theorem jG.under(m:jG X aa I)(n:p.1≠I):jG X (p::aa) I:=⟨m.lo,m.loc,m.fs,m.cl,λq hq=>by
 rcases lM.mp hq with z|z
 ·exact m.pn q (S6 _ z)
 ·rcases cX.mp z with z|z
  ·rw[z];exact n
  ·exact m.pn q (ig _ z)⟩
theorem kJ(T):∀v,(aI T a k).data≠.cell v:=λv z=>by
 have z':gp a k=gx v:=z;cases z'
variable{I S f l:af}{fo:kE}{vs:List ρ}{RR:Result->τ->Prop}
theorem Va(kf:Nat->Int)(R:Nat->Hp->Prop)(hA:X.A.handled=none)(mI:jG X ((f,fo)::aa) I)(mS:jG X ((f,fo)::aa) S)(K5:S≠I)(U6:l≠I)(hl:∀j H s,Inv X ((f,fo)::aa) σ H s->R j H->s.heap.IsList l vs.toArray)(turn:∀j v (ps:L3) H s,vs[j]? =some v->Inv X ps σ H s->(f,fo)∈ps->R j H->ah (aw X.prog X.w) X.A.in1 (call (.ref f) [v]) (λu s'=>∃H' t,u=.int (kf j) t/\Inv X ps σ H' s'/\R (j+1) H') (λ_ _=>False) s)(hR:∀i v H' s',vs[i]? =some v->(∀j,j<vs.length->kf i<=kf j/\(j<i->kf i<kf j))->Inv X aa σ H' s'->R vs.length H'->RR (.ok (.ret v)) s'):
  ∀(r j i:Nat) (H:Hp) (s:τ) (vb:ρ) (tb:Tok) (c:Nat) (oI:kE),vs.length-(j+1)=r->j+1<=vs.length->Inv X ((I,oI)::(S,aI "list" #[vb,.int (kf i) tb] c)::(f,fo)::aa) σ H s->R (j+1) H->s.heap.IsListIter I l (j+1)->vs[i]? =some vb->i<=j->(∀j',j'<=j->kf i<=kf j'/\(j'<i->kf i<kf j'))->
   eI (aw X.prog X.w) X.A (.builtin "min.loop" ⟨[.ref I,.ref f,.ref S],[]⟩) RR s:=by
 have nm:(toString "min"++toString ".loop":String)="min.loop":=by decide
 have W:=wgg (prog:=X.prog) (w:=X.w) (A:=X.A.in1) hA I l U6 vs.toArray;have zs:vs.toArray.size=vs.length:=gw ..;have m2:∀o,jG X ((S,o)::(f,fo)::aa) I:=λo=>mI.under (p:=(S,o)) K5;have m3:∀o,jG X ((I,o)::(f,fo)::aa) S:=λo=>mS.under (p:=(I,o)) K5.symm;intro r
 induction r with
 |zero=>
  intro j i H s vb tb c oI hr hj J Q6 hit hvb hij hbest;have pS:=(J.pin _ (ig _ (cY _ cC))).1;refine Tc wbl (by
   rw[T6 HY _];show ah _ X.A.in1 (seqItems? (.ref S)>>=_) _ _ _;refine aD (TY pS rfl (?_));show ah _ X.A.in1 (tryCatch (fz (.ref I)) _>>=_) _ _ _;refine aD (Mv (W.done _ _ _ ⟨by rw[zs,<-show j+1=vs.length by omega];exact hit,hl (j+1) H s J.iu.iu Q6⟩ λh' tk' hk'=>?_));have k1:∀b x,b≠I->s.heap.get? b=some x->h'.get? b=some x:=λb x hb e=>hk' b x (λz=>hb (fV.mp z)) e;have pI:=J.pin (I,oI) (ig _ cC);have J1:Inv X ((S,aI "list" #[vb,.int (kf i) tb] c)::(f,fo)::aa) σ H {s with heap:=h',toks:=tk'}:=J.iu.turned (t':=tk') (it:=I) k1 pI.2.1 mI.loc (.inr mI.lo) mI.cl (m2 _).pn;have g:=(J1.pin _ (ig _ cC)).1;show ah _ X.A.in1 (lL S (λ_=>#[])>>=_) _ _ _;refine aD (wcg g rfl (aD (Wx (aW ?_))));have sb:=Ef h' S (ba λ_=>(#[]:Array ρ));have J2:=(J1.mW (o':=aI "list" #[] _) (tk:=tk') mS (λb x hb e=>(sb.2 b hb).trans e) (T3 g λ_=>#[]) (kJ _));exact hR i vb H _ hvb (λj' hj'=>hbest j' (by omega)) J2.iu.iu (by rw[<-show j+1=vs.length by omega];exact Q6))
 |succ r ih=>
  intro j i H s vb tb c oI hr hj J Q6 hit hvb hij hbest;have hlt:j+1<vs.length:=by omega
  have pS:=(J.pin _ (ig _ (cY _ cC))).1;refine Tc wbl (by
   rw[T6 HY _];show ah _ X.A.in1 (seqItems? (.ref S)>>=_) _ _ _;refine aD (TY pS rfl (?_));show ah _ X.A.in1 (tryCatch (fz (.ref I)) _>>=_) _ _ _;refine aD (Mv (W.item (j+1) _ _ _ (by rw[zs];exact hlt) ⟨hit,hl (j+1) H s J.iu.iu Q6⟩ λv h' tk' hP hst' hk'=>?_));have hv:vs[j+1]? =some v:=(by simpa using hP);have k1:∀b x,b≠I->s.heap.get? b=some x->h'.get? b=some x:=λb x hb e=>hk' b x (λz=>hb (fV.mp z)) e;obtain⟨oI',hoI,hoc,hod⟩:=id hst'.1;have J1:=J.mW (o':=oI') (tk:=tk') (m2 _) k1 hoI (λv z=>by rw[hod]at z;cases z);show ah _ X.A.in1 (tryCatch (dL [v] (call (.ref f) [v])) _>>=_) _ _ _;refine aD (Mv (Aq (Bc (turn (j+1) v _ H _ hv J1 (cY _ (cY _ cC)) Q6) (λu s2 z=>?_) λ_ _ z=>z.elim)));obtain⟨H2,t2,rfl,J2,Vu⟩:=z;have hit2:s2.heap.IsListIter I l (j+1+1):=⟨oI',(J2.pin _ (ig _ cC)).1,hoc,hod⟩;have g:=(J2.pin _ (ig _ (cY _ cC))).1;show ah _ X.A.in1 (tryCatch (dL [v,.int (kf (j+1)) t2] (richCompare .Lt (.int (kf (j+1)) t2) (.int (kf i) tb)>>=_)) _>>=_) _ _ _;refine aD (Mv (Aq (aD (CmpOf.ints_lt (prog:=X.prog) (w:=X.w) (A:=X.A.in1) (P:=λi v=>∃t,v=.int (kf i) t) kf (λi v h=>h) (j+1) i _ _ _ _ _ ⟨t2,rfl⟩ ⟨tb,rfl⟩ (aD (Aq (Mw (aD (Wx (aW ?_))))))))));by_cases hb:kf (j+1)<kf i
   ·have sb:=Ef s2.heap S (ba λ_=>#[v,.int (kf (j+1)) t2]);simp only[hb,decide_true,S8];refine aD (wcg g rfl (aD (Wx ?_)));rw[nm];have J3:=(J2.swap.mW (o':=aI "list" #[v,.int (kf (j+1)) t2] _) (tk:=s2.toks) (m3 _) (λb x hb e=>(sb.2 b hb).trans e) (T3 g λ_=>#[v,.int (kf (j+1)) t2]) (kJ _)).swap;refine aW ⟨TX HY _,ih (j+1) (j+1) H2 _ v t2 _ oI' (by omega) hlt J3 Vu ⟨oI',(J3.pin _ (ig _ cC)).1,hoc,hod⟩ hv (aQ _) λj' hj'=>?_⟩;by_cases e:j'=j+1
    ·subst e;exact⟨tK _,λz=>absurd z (uw _)⟩
    ·have q:=(hbest j' (by omega)).1;exact⟨by omega,λ_=>by omega⟩
   ·simp only[hb,decide_false,Wz,J7];refine aD (Wx (?_));rw[nm];refine aW ⟨TX HY _,ih (j+1) i H2 _ vb tb c oI' (by omega) hlt J2 Vu hit2 hvb (by omega) λj' hj'=>?_⟩;by_cases e:j'=j+1
    ·subst e;exact⟨by omega,λz=>by omega⟩
    ·exact hbest j' (by omega))
theorem QB{Q:L4}{E:L4}(kf:Nat->Int)(R:Nat->Hp->Prop)(hA:X.A.handled=none)(hne:0<vs.length)(J:Inv X ((f,fo)::aa) σ H s)(Vv:R 0 H)(hl:∀j H s,Inv X ((f,fo)::aa) σ H s->R j H->s.heap.IsList l vs.toArray)(turn:∀j v (ps:L3) H s,vs[j]? =some v->Inv X ps σ H s->(f,fo)∈ps->R j H->ah (aw X.prog X.w) X.A.in1 (call (.ref f) [v]) (λu s'=>∃H' t,u=.int (kf j) t/\Inv X ps σ H' s'/\R (j+1) H') (λ_ _=>False) s)(hQ:∀i v H' s',vs[i]? =some v->(∀j,j<vs.length->kf i<=kf j/\(j<i->kf i<kf j))->Inv X aa σ H' s'->R vs.length H'->Q v s'):
  ah (aw X.prog X.w) X.A (call (.builtin "min") [.ref l] [(bT "key",.ref f)]) Q E s:=by
 have nm:(toString "min"++toString ".loop":String)="min.loop":=by decide
 have hls:=hl 0 H s J Vv;obtain⟨ol,hol,_⟩:=id hls;have U6:l≠s.heap.objs.size:=gP (eO hol);refine kmb_tree kQ kz kA (kmb_min_key _ _) (by
  show ah _ X.A.in1 (cS "min" ["key","default"] 0 ⟨[],[(bT "key",.ref f)]⟩>>=_) _ _ s;refine aD (wgk (show cS "min" ["key","default"] 0 ⟨[],[(bT "key",.ref f)]⟩=pure [some (.ref f),none]from rfl) (aD (aW (aD (wci hls (aD (wco ?_ (dX _))))))));rw[nm];have zS:(s.heap.push {cls:=.type "list_iterator",data:=.fields #[.ref l,.int 0 0]}).objs.size=s.heap.objs.size+1:=size_push' ..;rw[zS];have k0:∀b o,s.heap.get? b=some o->((s.heap.push {cls:=.type "list_iterator",data:=.fields #[.ref l,.int 0 0]}).push (aI "list" #[] 0)).get? b=some o:=λb o e=>fG _ (fG _ e);have gI0:((s.heap.push {cls:=.type "list_iterator",data:=.fields #[.ref l,.int 0 0]}).push (aI "list" #[] 0)).get? s.heap.objs.size=some {cls:=.type "list_iterator",data:=.fields #[.ref l,.int 0 0]}:=fG _ (lZ _ rfl);have gS:((s.heap.push {cls:=.type "list_iterator",data:=.fields #[.ref l,.int 0 0]}).push (aI "list" #[] 0)).get? (s.heap.objs.size+1)=some (aI "list" #[] 0):=by rw[<-zS];exact lZ _ rfl
  have mI:=jG.new J (aQ _);have mS:=jG.new J (HD s.heap.objs.size);have K5:s.heap.objs.size+1≠s.heap.objs.size:=HN (wA _);have Jk:Inv X ((f,fo)::aa) σ H {s with heap:=(s.heap.push {cls:=.type "list_iterator",data:=.fields #[.ref l,.int 0 0]}).push (aI "list" #[] 0),toks:=s.toks}:=J.kept k0;have JI:Inv X ((s.heap.objs.size,{cls:=.type "list_iterator",data:=.fields #[.ref l,.int 0 0]})::(s.heap.objs.size+1,aI "list" #[] 0)::(f,fo)::aa) σ H {s with heap:=(s.heap.push {cls:=.type "list_iterator",data:=.fields #[.ref l,.int 0 0]}).push (aI "list" #[] 0),toks:=s.toks}:=Jk.pins_of λq hq=>by
   rcases cX.mp hq with z|z
   ·subst z;exact⟨gI0,J.hok.fresh (aQ _),mI.loc,mI.fs,λv z=>by have z':eh #[aC l,.int 0 0]=gx v:=z;cases z'⟩
   ·rcases cX.mp z with z|z
    ·subst z;exact⟨gS,J.hok.fresh (HD _),mS.loc,mS.fs,kJ _⟩
    ·exact Jk.pin q (ig _ z)
  have W:=wgg (prog:=X.prog) (w:=X.w) (A:=X.A.in1) hA s.heap.objs.size l U6 vs.toArray;refine aW ⟨TX HY _,Tc wbl ?_⟩;rw[T6 HY _];show ah _ X.A.in1 (seqItems? (.ref (s.heap.objs.size+1))>>=_) _ _ _;refine aD (TY gS rfl (?_));show ah _ X.A.in1 (tryCatch (fz (.ref s.heap.objs.size)) _>>=_) _ _ _;refine aD (Mv (W.item 0 _ _ _ (by rw[gw];exact hne) ⟨⟨_,gI0,rfl,rfl⟩,hl 0 H _ Jk Vv⟩ λv h' tk' hP hst' hk'=>?_));have hv:vs[0]? =some v:=(by simpa using hP);obtain⟨oI',hoI,hoc,hod⟩:=id hst'.1;have J1:=JI.mW (o':=oI') (tk:=tk') (mI.under (p:=(s.heap.objs.size+1,aI "list" #[] 0)) K5) (λb x hb e=>hk' b x (λz=>hb (fV.mp z)) e) hoI (λv z=>by rw[hod]at z;cases z);show ah _ X.A.in1 (tryCatch (dL [v] (call (.ref f) [v])) _>>=_) _ _ _;refine aD (Mv (Aq (Bc (turn 0 v _ H _ hv J1 (cY _ (cY _ cC)) Vv) (λu s2 z=>?_) λ_ _ z=>z.elim)));obtain⟨H2,t2,rfl,J2,Vu⟩:=z;have g:=(J2.pin _ (ig _ (cY _ cC))).1;have sb:=Ef s2.heap (s.heap.objs.size+1) (ba λ_=>#[v,.int (kf 0) t2]);show ah _ X.A.in1 (lL (s.heap.objs.size+1) (λ_=>#[v,.int (kf 0) t2])>>=_) _ _ _;refine aD (wcg g rfl ?_);rw[nm];have J3:=(J2.swap.mW (o':=aI "list" #[v,.int (kf 0) t2] _) (tk:=s2.toks) (mS.under (p:=(s.heap.objs.size,oI')) K5.symm) (λb x hb e=>(sb.2 b hb).trans e) (T3 g λ_=>#[v,.int (kf 0) t2]) (kJ _)).swap;exact aW ⟨TX HY _,Va kf R hA mI mS K5 U6 hl turn hQ _ 0 0 H2 _ v t2 _ oI' rfl hne J3 Vu ⟨oI',(J3.pin _ (ig _ cC)).1,hoc,hod⟩ hv (aQ _) λj' hj'=>by
   have e:j'=0:=by omega
   subst e;exact⟨tK _,λz=>absurd z (uw _)⟩⟩)
end
noncomputable def T9(K:ag)(P:af)(pos:eR)(qual:bg)(ix:List Nat)(ta:TA)(te:TE):TE:=λσ H Q=>ta σ H λvs H1=>∃(l:af) (its:List (af×ζ)),vs=[.ref l]/\SqL K H1 l (its.map λp=>V.ref p.1)/\its≠[]/\jm H1 P pos qual/\
 ∃(kf:Nat->Int) (R:Nat->Hp->Prop),(∀H2,(∀b o,b≠P->H1 b=some o->H2 b=some o)->jm H2 P pos qual->R 0 H2)/\(∀j H,R j H->SqL K H l (its.map λp=>V.ref p.1))/\
  (∀j p H,its[j]? =some p->R j H->te (Gj ix σ (.ref p.1)) H λv H'=>v=.int (kf j)/\R (j+1) H')/\
  ∀i p H,its[i]? =some p->(∀j,j<its.length->kf i<=kf j/\(j<i->kf i<kf j))->R its.length H->Q (.ref p.1) H
theorem wY:∀{its:List (af×ζ)}{us:List ρ},Vals (its.map λp=>V.ref p.1) us->us=its.map λp=>aC p.1
 |[],_,h=>by cases h;rfl
 |p::its,_,h=>by
  cases h with
  |cons r t=>rw[wY t];cases r;rfl
section
variable{X:Cx}{a body:br}{ta:TA}{te:TE}{p kp pos aaz:eR}{k:Nat}{scope:dC}{caps:List bg}{ix:List Nat}{y:bg}{params:Arguments}{c P:af}
theorem Ks(L:Dv X.base X.mg c P)(hcode:X.env.code=.ref c)(hc:X.calm=true)(hr:Room (k+2) X.A)(hg:Gl X "min")(hm:X.mg "min"=none)(ha:PA X [a] ta)(hcap:g8 X scope caps ix)(he:∀s H f cd,Room k (Jp X X.A.in1 (y::caps) s H (vH X scope s f cd)).A->PE (Jp X X.A.in1 (y::caps) s H (vH X scope s f cd)) body te)(ck:eX X.env.scope scope=true:=by rfl)(hkind:scope.kind=.function:=by rfl)(hy:scope.names.lookup y=some .local:=by rfl)(hco:scope.isCoroutine=false:=by rfl)(hgen:scope.isGenerator=false:=by rfl)(hdef:defaultsOf params X.env=([],[]):=by rfl)(hbind:∀(q:bg) (cl:List (bg×af)) (pm cd ct u:ρ),gf (W.kla_fn "<lambda>" q params body scope cl pm cd ct) ⟨[u],[]⟩=pure [(y,u)]:=by intros;rfl)(Ze:dk pos (az [a] X.env)=(false,cx a X.env)::dk pos (az [] X.env):=by rfl)(hp:(dk pos (az [a] X.env)).any (·.1)=false:=by rfl):PE X (.Call (.Name "min" p) [a] [⟨some "key",.Lambda params body scope aaz,kp⟩] pos) (T9 X.K P aaz (X.env.qual++"<lambda>") ix ta te):=by
 intro aa s σ H Q I h;refine T5 (ld_blt I hg hm (show bP "min"=some (.builtin "min")from by decide+kernel) ?_ (by decide) (by decide));refine wet (thn (ha pos aa s σ H _ I h) λus s1 ⟨vs,H1,I1,r1,q1⟩=>kws_cons ?_) Ze hp;obtain⟨l,its,e,hq,hne,hL,kf,R,Vv,hRl,hturn,q⟩:=q1;subst e;cases r1 with
 |cons r rr=>
  cases rr;cases r;refine QT (params:=params) (body:=body) I1 L hcode hL ck hdef λf c' pm ctv H2 s2 I2 hS hL2 ho hf hge hrec=>kws_nil ?_;have mF:=jG.new I1 hge;have J:Inv X ((f,i5 "<lambda>" (X.env.qual++"<lambda>") params body scope (fB X.env.cells scope.names []) pm c' ctv)::aa) σ H2 s2:=I2.pins_of λz hz=>by
   rcases cX.mp hz with z|z
   ·subst z;exact⟨ho,hf,mF.loc,mF.fs,λv z=>nomatch z⟩
   ·exact I2.pin _ (ig _ z)
  obtain⟨oc,ocv,tq,hC,hd,hv⟩:=hrec;have QL:(its.map λp=>aC p.1).length=its.length:=aF _;show ah (aw X.prog X.w) X.A (call (.builtin "min") [.ref l] [(bT "key",.ref f)]) (EP X aa σ Q) X.xe s2;refine QB (vs:=its.map λp=>aC p.1) kf (λj H=>R j H/\H c'=some (.frz oc (.own 0))) (I.ok.hd hc) (by rw[QL];exact yfg.mpr hne) J ⟨Vv H2 hS hL2,hC⟩ (λj H s J hj=>?_) (λj v ps H s hv' J hm hj=>?_) λi v H' s' hv' hb J hj=>?_
  ·obtain⟨ws,rv,pl,hz⟩:=J.list (hRl j H hj.1);rw[wY rv]at pl;exact pl.isList
  ·rw[cV]at hv';cases ej:its[j]? with
   |none=>rw[ej]at hv';cases hv'
   |some p=>
    rw[ej]at hv';cases hv';have hf:=(J.pin _ (ig _ hm)).1;have hcd:s.heap.CodeRec (.ref c') (X.env.qual++"<lambda>"):=⟨c',oc,ocv,tq,rfl,(J.hok c' _ hj.2).1,hd,hv⟩;refine Bc (Vm (A:=X.A.in1) (v:=.ref p.1) ck hkind hcap hy hco hgen hr.in1 J.env0.in1.frames (he _ _ _ _ (hr.in1.deeper _)) J rfl hf hcd hbind (hturn j p H ej hj.1)) (λu s' z=>?_) λ_ _ z=>z.elim;obtain⟨w,H',J',rw',⟨rfl,hR'⟩,hfz⟩:=z;obtain⟨t,rfl⟩:=rw';exact⟨H',t,rfl,J',hR',hfz _ _ _ hj.2⟩
  ·rw[cV]at hv';cases ei:its[i]? with
   |none=>rw[ei]at hv';cases hv'
   |some p=>
    rw[ei]at hv';cases hv';rw[QL]at hb hj;exact⟨.ref p.1,H',J,rfl,q i p H' ei hb hj.1⟩
end
noncomputable def JM(T:af)(H:Hp):Prop:=H T=some (.tbl #[])/\∀b,b≠T->H b=none\/∃o xs,H b=some (.frz o (.lst xs))
theorem Le{P:χ}{w:ω}{K:ag}{mg mb:L5}{CX:CXT}{k:Nat}{fa a c T:af}{fd:ψ}{x:bg}{sp:Sp}{s₁:τ}{vs:List ρ}{ns:ζ}
  (KX:K.In s₁.heap)(hT:W.CodeHd s₁.heap c T)(hT0:s₁.heap.get? T=some (gN #[]))(hKT:K.lookup T=none)(hbm:∃bm ob,mg "__builtins__"=some (.ref bm)/\bm≠fF/\s₁.heap.get? bm=some ob/\ob.cls=.type "module"/\ob.dict=some fF/\ob.data=.plain)(hns:s₁.heap.Ns ax mg)(hb:s₁.heap.Ns fF mb)(hbb:∀x:bg,x≠"__name__"->mb x=bP x)(hlim:s₁.heap.NoLimit)(hg:s₁.gens=#[])(ha:s₁.heap.get? a=some {cls:=.type "list",data:=.seq vs.toArray})(hi:dc vs ns)(hl:ns.length<=sizeLine)(hr:Room k hZ)
  (F:∀base:bv,K.In base->base.Ns ax mg->Dv base mg c T->FnOk P w K mg base CX k fa fd [x] sp)(hbind:∀(s:τ) (u:ρ),iF s fd ⟨[u],[]⟩ [(x,u)])(hsp:∀H:Hp,JM T H->SqL K H a (ns.map V.int)->sp [.ref a] H (λv _=>v=.bl true) λ_ _ _=>False)(hCX:∀H e s',CX [] H s₁ (λ_ _ _=>False) e s'->False):
  eI (aw P w) hZ (.call (.ref fa) ⟨[.ref a],[]⟩) (λr s'=>r=.ok (.ret (.bool true))/\OldK s₁.heap s'.heap/\s'.os=s₁.os/\fc s'.gens) s₁:=by
 have rv:=vals_ints hi;have lenV:=hi.length;have aT:a≠T:=λe=>by rw[e,hT0]at ha;cases ha
 have core:∀H:Hp,JM T H->SqL K H a (ns.map V.int)->HOk P w H s₁.heap->(∀b,H b≠none->b=a\/b=T)->(H a≠none->K.lookup a=none)->
   eI (aw P w) hZ (.call (.ref fa) ⟨[.ref a],[]⟩) (λr s'=>r=.ok (.ret (.bool true))/\OldK s₁.heap s'.heap/\s'.os=s₁.os/\fc s'.gens) s₁:=by
  intro H hO hS hok hA hK;have base_of:∀{b:af}{o:kE},s₁.heap.get? b=some o->H b=none->(hidT s₁.heap H).get? b=some o:=λe n=>hidT_get e n;have noA:∀{b:af}{o:kE},s₁.heap.get? b=some o->(∀vs n,o.data≠.seq vs n)->o.cls≠.none->H b=none:=λ{b o} e d d2=>by
   cases q:H b with
   |none=>rfl
   |some u=>
    rcases hA b (by rw[q];simp)with e'|e'
    ·subst e';rw[ha]at e;cases e;exact absurd rfl (d _ _)
    ·subst e';rw[hT0]at e;cases e;exact absurd rfl d2
  have noD:∀{b:af}{o:kE}{es:Array gr}{ep:Nat},s₁.heap.get? b=some o->o.data=.dict es ep->H b=none:=λ{b o es ep} e d=>by
   cases q:H b with
   |none=>rfl
   |some u=>
    rcases hA b (by rw[q];simp)with e'|e'
    ·subst e';rw[ha]at e;cases e;have d':gp vs.toArray _=Data.dict es ep:=d;cases d'
    ·subst e';rw[hT0]at e;cases e;have d':eh (#[]:Array ρ)=Data.dict es ep:=d;cases d'
  have nsK:∀{b:af}{m:L5},s₁.heap.Ns b m->(hidT s₁.heap H).Ns b m:=λ{b m} ⟨o,es,ep,e,d,r⟩=>⟨o,es,ep,base_of e (noD e d),d,r⟩;have hKb:K.In (hidT s₁.heap H):=λb o e=>base_of (KX b o e) (by
   cases q:H b with
   |none=>rfl
   |some u=>
    rcases hA b (by rw[q];simp)with e'|e'
    ·subst e';rw[hK (by rw[q];simp)]at e;cases e
    ·subst e';rw[hKT]at e;cases e)
  have gT:ax≠T:=λz=>by
   obtain⟨o,es,ep,e,d,_⟩:=hns;rw[z,hT0]at e;cases e;have d':eh (#[]:Array ρ)=Data.dict es ep:=d;cases d'
  have hM:Mod K mg (hidT s₁.heap H):=⟨hKb,nsK hns,⟨mb,nsK hb,hbb⟩,let⟨mc,h1,h2⟩:=hlim;⟨mc,nsK h1,h2⟩⟩;have hLB:Dv (hidT s₁.heap H) mg c T:=by
   refine⟨?_,?_,gT⟩
   ·obtain⟨o,vs,file,tf,flags,tg,inF,text,tt,e1,r1,r2,r⟩:=hT;exact⟨o,vs,file,tf,flags,tg,inF,text,tt,base_of e1 (noA e1 (λvs n z=>by rw[r2]at z;cases z) (by rw[r1];exactλz=>nomatch z)),r1,r2,r⟩
   ·obtain⟨bm,ob,b1,b2,b3,b4,b5,b6⟩:=hbm;refine⟨bm,ob,b1,b2,λz=>?_,λz=>?_,base_of b3 (noA b3 (λvs n z=>by rw[b6]at z;cases z) (by rw[b4];exactλz=>nomatch z)),b4,b5,b6⟩
    ·obtain⟨o,es,ep,e,d,_⟩:=hns;rw[<-z,b3]at e;cases e;rw[b6]at d;cases d
    ·rw[z,hT0]at b3;cases b3;cases b4
  have e0:Env0 P w K mg (hidT s₁.heap H) hZ [] s₁ H:=⟨rfl,hM,λb o e=>of_hidT e,HJ (hidT_size _ _),trivial,λb hb=>absurd (show b∈([]:η)from hb) (by simp),hok,.of_eq hg⟩;refine wdg ((F _ hKb (nsK hns) hLB).run hZ [] s₁ H ⟨[.ref a],[]⟩ [.ref a] [.ref a] _ _ hr e0 (hbind s₁ (.ref a)) (.cons rfl .nil) (hsp H hO hS)) λr s' h=>?_;cases r with
  |error e=>exact(hCX H e s' h).elim
  |ok fl=>
   cases fl with
   |next=>exact bX h
   |brk=>exact bX h
   |cont=>exact bX h
   |ret u=>
    obtain⟨v,H',os,bare,un,hok',r',q⟩:=h;have q':v=.bl true:=q;subst q';obtain rfl:u=dA true:=r';refine⟨rfl,⟨λb o e=>?_,λb o e=>un.there b o e (by simp)⟩,os,bare⟩;by_cases hbT:b=T
    ·subst hbT;obtain⟨more,z⟩:=un.tbls b _ hO.1;have z2:s'.heap.get? b=some (gN (#[]++more)):=hok' b _ z;rw[hT0]at e;cases e;exact .inr (.inl ⟨(hT.tab hT0).isCodeTable,rfl,#[],more,rfl,z2⟩)
    ·refine .inl ?_;cases q:H b with
     |none=>exact un.keep b o e q (by intro z;exact absurd (show b∈([]:η)from z) (by simp)) (by simp)
     |some u=>
      rcases hO.2 b hbT with z|⟨ob,xs,z⟩
      ·rw[q]at z;cases z
      ·have z2:=un.frzs b ob _ z;obtain⟨e1,_⟩:=hok b _ z;obtain⟨e2,_⟩:=hok' b _ z2;rw[e]at e1;cases e1;exact e2
 cases hk:K.lookup a with
 |some o=>
  have e:=KX a o hk;rw[ha]at e;cases e;refine core (λb=>if b=T then some (.tbl #[])else none) ⟨au rfl,λb hb=>.inl (ao hb)⟩ (.inr ⟨_,vs.toArray,_,hk,rfl,rfl,rfl,by rw[gw,lenV];exact hl,by simpa using rv⟩) (λb u z=>?_) (λb z=>?_) λz=>absurd (ao aT) z
  ·by_cases hb:b=T
   ·have z':=(au hb).symm.trans z;cases z';subst hb;exact hT0
   ·have z':=(ao hb).symm.trans z;cases z'
  ·by_cases hb:b=T
   ·exact .inr hb
   ·exact absurd (ao hb) z
 |none=>
  refine core (λb=>if b=T then some (.tbl #[])else if b=a then some (.frz {cls:=.type "list",data:=.seq vs.toArray} (.lst (ns.map V.int)))else none) ⟨au rfl,λb hb=>?_⟩ (.inl (.inr ⟨{cls:=.type "list",data:=.seq vs.toArray},(ao aT).trans (au rfl)⟩)) (λb u z=>?_) (λb z=>?_) λ_=>hk
  ·by_cases hba:b=a
   ·exact .inr ⟨_,_,(ao hb).trans (au hba)⟩
   ·exact .inl ((ao hb).trans (ao hba))
  ·by_cases hb:b=T
   ·have z':=(au hb).symm.trans z;cases z';subst hb;exact hT0
   ·by_cases hba:b=a
    ·have z':=((ao hb).trans (au hba)).symm.trans z;cases z';subst hba;exact⟨ha,by rw[aF];exact hl,vs,_,rv,ha⟩
    ·have z':=((ao hb).trans (ao hba)).symm.trans z;cases z'
  ·by_cases hb:b=T
   ·exact .inr hb
   ·by_cases hba:b=a
    ·exact .inl hba
    ·exact absurd ((ao hb).trans (ao hba)) z
theorem Np{l:gX}{n k:Nat}{q:χ}{loose:List bg}{XP:(L5)->bv->Prop}{YP:ω->bv->Prop}{d:DefRec}{K:Params->ag}{CX:CXT}{sp:af->ag->Sp}{x:bg}{c T:af}(hn:l.most=some n)(hn2:n<=sizeLine)(hdf:d.params.defaults=[])(hr:Room k hZ)(hY:∀(w:ω) (h:bv),YP w h->(K w.params).In h/\h.get? T=some (gN #[]))(hc:∀w:ω,W.codeHdIn (K w.params) c T=true)(hKT:∀w:ω,(K w.params).lookup T=none)
  (F:∀(w:ω) (mg:L5) (fa:af) (h:bv),(K w.params).In h->h.Ns ax mg->mg d.name=some (.ref fa)->
   ∃fd:ψ,(∀(s:τ) (u:ρ),iF s fd ⟨[u],[]⟩ [(x,u)])/\
    ∀base:bv,(K w.params).In base->base.Ns ax mg->Dv base mg c T->FnOk l.prog w (K w.params) mg base CX k fa fd [x] (sp T (K w.params)))(hsp:∀(K:ag) (H:Hp) (a:af) (ns:ζ),ns.length<=n->JM T H->SqL K H a (ns.map V.int)->sp T K [.ref a] H (λv _=>v=.bl true) λ_ _ _=>False)(hCX:∀(H:Hp) (s:τ) (e:ρ) (s':τ),CX [] H s (λ_ _ _=>False) e s'->False):
  W.WalkO q loose XP YP l.row.toRowW d [] (λf vs=>kL f vs):=by
 refine Att.attach_call hn hdf λw s₀ s₁ mg mb fa o pm cd doc a vs ns G Y ho hd hcd hmg hobj hints ad hg=>?_;obtain⟨KX,hT0⟩:=hY w _ Y;obtain⟨fd,hb,hF⟩:=F w mg fa _ KX G.T.g hmg;exact Le KX (W.codeHd_of_K KX (hc w)) hT0 (hKT w) G.T.bmain G.T.g G.T.b G.T.builtins G.T.nolimit hg hobj hints (bR ad hn2) hr hF hb (λH hO hS=>hsp (K w.params) H a ns ad hO hS) λH e s'=>hCX H s₁ e s'
theorem Fun.okC{P:χ}{w:ω}{K:ag}{mg:L5}{base:bv}{x qual:bg}{st:eW}{f c:af}{fd:ψ}{N ps:List bg}{k:Nat}{sp:Sp}(F:Fun K x qual st f fd)(hcd:fd.code=.ref c)(S:FnScope N ps (defScope st))(len:∀vs H Q E,sp vs H Q E->vs.length=ps.length)(hbody:∀(A:bp) (outer:List kF) (s:τ) (H:Hp) (vs:List V) (Q:VK) (E:XK),Room k (A.deeper (envOfC qual (defScope st) s.heap.objs.size f (.ref c)))->sp vs H Q E->
   ∃t,PSs (cxOf CX0 P w K mg base N qual (defScope st) f (.ref c) A outer s H E).nox (defBody st) t/\t {nx:=λ_ H'=>Q .non H',rt:=Q} (start N vs) H):FnOk P w K mg base CX0 (k+1) f fd ps sp:=by
 obtain⟨oc,od,kV,doc,pm,an,cdv,ct,osl,rfl,lk,hcd'⟩:=F.ex;have e:cdv=.ref c:=hcd;subst e;refine fn_of lk hcd' S len λA outer s H vs Q E hr hsp=>?_;obtain⟨t,h,q⟩:=hbody A outer s H vs Q E hr hsp;exact⟨t,h.nox,q⟩
noncomputable def isK(k:Int):ρ->Bool
 | .int i _=>i==k
 |_=>false
theorem J9:∀{n:Nat}{us:List ρ},us.length=n->(∀(j:Nat) (u:ρ),us[j]? =some u->∃t:Tok,u=bu (i+((j:Nat):Int)*1) t)->Vals (((ai n).map λ(k:Nat)=>i+(k:Int)).map V.int) us:=by
 intro n us hl hi;have go:∀(us:List ρ) (k:Nat),(∀(j:Nat) (u:ρ),us[j]? =some u->∃t:Tok,u=bu (i+((j+k:Nat):Int)*1) t)->Vals (((ko k us.length).map λ(k:Nat)=>i+(k:Int)).map V.int) us:=by
  intro us
  induction us with
  |nil=>intro k _;exact .nil
  |cons u us ih=>
   intro k h;obtain⟨t,e⟩:=h 0 u rfl;refine .cons ⟨t,?_⟩ ?_
   ·rw[e];show bu (i+((0+k:Nat):Int)*1) t=bu (i+(k:Int)) t;congr 1;omega
   ·refine ih (k+1) λj u hu=>?_;obtain⟨t,e⟩:=h (j+1) u (by simpa using hu);exact⟨t,by rw[e];congr 1;omega⟩
 have:=go us 0 λj u hu=>hi j u hu;rw[hl,<-wdo]at this;exact this
section
variable{X:Cx}{e:br}{ta:TE}{f:bg}{pos:eR}
theorem Jc(K:ag)(he:PE X e ta)(hb:gE e f X.env (cx e X.env)=cx e X.env)(h:X.K=K:=by rfl):PE X (.Attribute e f pos) (tFld K ta f):=by subst h;exact oM he hb
theorem qR:MtM X "list.index" (λx vs H Q=>∃(l:af) (ns:ζ) (k:Int) (j:Nat),x=.ref l/\vs=[.int k]/\H l=some (.lst (ns.map V.int))/\ns[j]? =some k/\(∀i,i<j->ns[i]? ≠some k)/\ns.length<=1000/\Q (.int (j:Nat)) H):=by
 intro aa s σ H x vs v us Q I rx rv h;obtain⟨l,ns,k,j,rfl,rfl,hH,hj,hno,hb,q⟩:=h;cases rx;obtain⟨u,rfl,ru⟩:=rv.one;obtain⟨t,rfl⟩:=ru;obtain⟨z,its,n,r,hl,e⟩:=I.lstM hH;rw[aF]at z hl;have hI:∀(i:Nat) (v:ρ),its[i]? =some v->∃t,v=.int (ns.getD i 0) t/\ns[i]? =some (ns.getD i 0):=λi v hv=>by
  have hi:i<ns.length:=by have:=(oR.mp hv).1;omega
  have e0:ns[i]? =some (ns.getD i 0):=by rw[gQ,eN hi];rfl
  obtain⟨u,hu,ru⟩:=r.get (show(ns.map V.int)[i]? =some (.int (ns.getD i 0)) by rw[cV,e0];rfl);rw[hv]at hu;cases hu;obtain⟨t,rfl⟩:=ru;exact⟨t,rfl,e0⟩
 have hj':j<its.length:=by have:=(oR.mp hj).1;omega
 refine TV ke ⟨_,e,rfl⟩ F.entry_list_index (F.args_list_index_2 _ _)
  (MeetsSeq.list_index l its.toArray n (.int k t) (isK k) (λy hy=>?_) j (by simpa using hj') (by omega) ?_ (λi hi hlt=>?_)) ⟨e,?_⟩
 ·obtain⟨i,hi,rfl⟩:=Ed (show y∈its by simpa using hy);obtain⟨t',e',_⟩:=hI i its[i] (eN hi);rw[e'];exact MeetsSeq.EqGives.int _ _ _ _
 ·obtain⟨t',e',e0⟩:=hI j its[j] (eN hj');show isK k its[j]=true;rw[e'];rw[hj]at e0;have:k=ns.getD j 0:=ux e0;show(ns.getD j 0==k)=true;rw[<-this];exact beq_self_eq_true _
 ·have hi':i<its.length:=by simpa using hi
  obtain⟨t',e',e0⟩:=hI i its[i] (eN hi');show isK k its[i]=false;rw[e'];show(ns.getD i 0==k)=false;refine beq_eq_false_iff_ne.mpr λz=>hno i hlt ?_;rw[e0,z]
 ·exact⟨.int (j:Nat),H,I.tok _,⟨s.toks,rfl⟩,q⟩
end
section
variable{X:Cx}{a b:br}{ta:TA}{p pos p' pos':eR}
noncomputable def pF(i:Int)(n:Nat):ζ:=(ai n).map λ(k:Nat)=>i+(k:Int)
noncomputable def X4(ta:TA):TE:=λσ H Q=>ta σ H λvs H1=>∃i j:Int,vs=[.int i,.int j]/\0<=i/\i<=j/\j<=1000000/\∀l,H1 l=none->Q (.ref l) (upd H1 l (.lst ((pF i (j-i).toNat).map V.int)))
theorem yQ(hc:X.calm=true)(hgT:Gl X "list")(hmT:X.mg "list"=none)(hg:Gl X "range")(hm:X.mg "range"=none)(ha:PA X [a,b] ta)(hs:az [a,b] X.env=[(false,cx a X.env),(false,cx b X.env)]:=by rfl)(hs':az [b] X.env=[(false,cx b X.env)]:=by rfl)(hs2:az [fI (.Name "range" p') [a,b] [] pos'] X.env=[(false,cx (fI (.Name "range" p') [a,b] [] pos') X.env)]:=by rfl):
  PE X (.Call (.Name "list" p) [.Call (.Name "range" p') [a,b] [] pos'] [] pos) (X4 ta):=by
 intro aa s σ H Q I h;refine T5 (ld_blt I hgT hmT (show bP "list"=some (.type "list")from by decide+kernel) ?_ (by decide) (by decide));refine Tf ?_ hs2 rfl;rw[hs2];apply wcm;refine Call_ (ld_blt I hg hm wge (Tf (thn (ha pos' aa s σ H _ I h) λus s1 ⟨vs,H1,I1,r1,q1⟩=>?_) (by rw[hs,hs']) (by rw[hs'];rfl)));obtain⟨i,j,e,q0,q1,q2,q⟩:=q1;subst e;cases r1 with
 |cons r rr=>
  cases rr with
  |cons r' rr=>
   cases rr;obtain⟨t,rfl⟩:=r;obtain⟨t',rfl⟩:=r';apply call_range_2;apply wcx;have hn:bS i j 1=(((j-i).toNat:Nat):Int):=by rw[wfb];split<;>omega
   refine call_list_range (I.ok.hd hc) (wgj ..) (kX (by omega) (by omega) (by omega) (by omega)) hn (by omega) λh' tk acc c hk hS hacc=>?_;have hv:Vals ((pF i (j-i).toNat).map V.int) acc.toList:=J9 (by rw[TJ];exact hacc.1) (λk u hu=>hacc.2 k u (by simpa using hu));have hz:((pF i (j-i).toNat).map V.int).length<=sizeLine:=by unfold pF;rw[eZ];simp;omega
   have I2:Inv X aa σ H1 {s1 with heap:=s1.heap.push {cls:=cM "range",data:=eh #[bu i t,bu j t',bu 1 s1.toks]},toks:=s1.toks+1}:=I1.kept λb o e=>fG _ e;exact⟨.ref _,_,I2.laid (t':=tk) (o:=.lst ((pF i (j-i).toNat).map V.int)) hk (aQ _) ⟨hz,acc.toList,c,hv,by simpa using hS⟩,rfl,q _ (I2.hok.fresh (aQ _))⟩
end
structure sH(K:ag)(C:af)(x qual:bg)(st:eW)(ps:List bg)(f:af)(fd:ψ):Prop where
 F:Fun K x qual st f fd
 b:Binds K fd ps []
 m:Meth K C x f
end L2
namespace Sx
noncomputable abbrev Vec:=Nat->Int
noncomputable abbrev Mi:=Nat->Vec
noncomputable def sm:Nat->(Nat->Int)->Int
 |0,_=>0
 |k+1,f=>sm k f+f k
theorem bA:∀k,(∀i,i<k->f i=g i)->sm k f=sm k g
 |0,_=>rfl
 |k+1,h=>by
  show sm k f+f k=sm k g+g k;rw[bA k λi hi=>h i (wW hi),h k (wA k)]
theorem j5(f g:Nat->Int):∀k,sm k (λi=>f i+g i)=sm k f+sm k g
 |0=>rfl
 |k+1=>by
  show sm k (λi=>f i+g i)+(f k+g k)=sm k f+f k+(sm k g+g k);rw[j5 f g k];omega
theorem eV(a)(f:Nat->Int):∀k,sm k (λi=>a*f i)=a*sm k f
 |0=>by show(0:Int)=a*0;rw[Az]
 |k+1=>by
  show sm k (λi=>a*f i)+a*f k=a*(sm k f+f k);rw[eV a f k,Int.mul_add]
theorem dO:∀k,(∀i,i<k->f i=0)->sm k f=0
 |0,_=>rfl
 |k+1,h=>by
  show sm k f+f k=0;rw[dO k λi hi=>h i (wW hi),h k (wA k)];rfl
theorem eU:∀k,j<k->(∀i,i<k->i≠j->f i=0)->sm k f=f j
 |k+1,hj,h=>by
  show sm k f+f k=f j;by_cases e:j=k
  ·subst e;rw[dO j λi hi=>h i (wW hi) (gP hi),Wd]
  ·rw[eU k (by omega) λi hi=>h i (wW hi),h k (wA k) (mQ e),Int.add_zero]
theorem Om:∀k,j+1<k->(∀i,i<k->i≠j->i≠j+1->f i=0)->f j+f (j+1)=0->sm k f=0
 |k+1,hj,h,z=>by
  show sm k f+f k=0;by_cases e:j+1=k
  ·subst e;rw[eU (j:=j) (j+1) (wA _) λi hi hn=>h i (wW hi) hn (gP hi)];exact z
  ·rw[Om k (by omega) (λi hi=>h i (wW hi)) z,h k (wA k) (by omega) (mQ e)];rfl
theorem Iu(f:Nat->Nat->Int)(m):∀k,sm k (λi=>sm m (λj=>f i j))=sm m (λj=>sm k (λi=>f i j))
 |0=>by show(0:Int)=sm m λ_=>0;rw[dO m λ_ _=>rfl]
 |k+1=>by
  show sm k (λi=>sm m (λj=>f i j))+sm m (λj=>f k j)=sm m (λj=>sm k (λi=>f i j)+f k j);rw[Iu f m k,j5]
theorem Iw:∀k,(∀i,i<k->0<=f i)->0<=sm k f
 |0,_=>tK _
 |k+1,h=>Int.add_nonneg (Iw k λi hi=>h i (wW hi)) (h k (wA k))
theorem Oo:∀k,sm k f<0->∃i,i<k/\f i<0
 |0,h=>absurd h (wdt 0)
 |k+1,h=>by
  by_cases c:f k<0
  ·exact⟨k,wA k,c⟩
  ·have h':sm k f+f k<0:=h;obtain⟨i,hi,hf⟩:=Oo k (f:=f) (by omega);exact⟨i,wW hi,hf⟩
theorem Iv:∀k,(∀i,i<k->0<=f i)->sm k f<=0->∀i,i<k->f i=0
 |0,_,_,i,hi=>absurd hi (Xr i)
 |k+1,h,z,i,hi=>by
  have h1:=Iw k λi hi=>h i (wW hi);have h2:=h k (wA k);have z':sm k f+f k<=0:=z;by_cases e:i=k
  ·subst e;omega
  ·exact Iv k (λi hi=>h i (wW hi)) (by omega) i (by omega)
noncomputable def sg(i:Nat):Int:=if i %2=0 then 1 else -1
theorem Ub(i):sg (i+1)= -sg i:=by
 unfold sg;rcases Nat.mod_two_eq_zero_or_one i with h|h
 ·rw[au h,ao (by omega)]
 ·rw[au (by omega),ao (by omega)];rfl
theorem Yb(i):sg i=1\/sg i=-1:=by unfold sg;split;exact .inl rfl;exact .inr rfl
noncomputable def Mx(i r:Nat):Nat:=if r<i then r else r+1
noncomputable def Tg(i r:Nat):Nat:=if r<i then r else r-1
theorem Ou(i r):Mx i r≠i:=by unfold Mx;split<;>omega
theorem tU(h:j≠i):Mx i r=j↔r=Tg i j:=by unfold Mx Tg;split<;>split<;>omega
theorem Fi(hi:i<k+1)(hr:r<k):Mx i r<k+1:=by unfold Mx;split<;>omega
theorem XS(h:j≠i)(hi:i<k+1)(hj:j<k+1):Tg i j<k:=by unfold Tg;split<;>omega
noncomputable def vm(M:Mi)(i:Nat):Mi:=λr c=>M (Mx i r) (c+1)
noncomputable def det:Nat->Mi->Int
 |0,_=>1
 |k+1,M=>sm (k+1) λi=>sg i*M i 0*det k (vm M i)
noncomputable def put(M:Mi)(r:Nat)(v:Vec):Mi:=λi=>if i=r then v else M i
theorem put_same(M)(r)(v):put M r v r=v:=by unfold put;rw[au rfl]
theorem iU(M)(v)(h:i≠r):put M r v i=M i:=by unfold put;rw[ao h]
theorem uU(M)(r):put M r (M r)=M:=by funext i;unfold put;split;rename_i h;rw[h];rfl
theorem jg(M)(u v)(h:r≠t):put (put M r u) t v=put (put M t v) r u:=by
 funext i;unfold put;by_cases h1:i=t
 ·by_cases h2:i=r
  ·exact absurd (h2.symm.trans h1) h
  ·rw[au h1,ao h2,au h1]
 ·rw[ao h1];by_cases h2:i=r
  ·rw[au h2,au h2]
  ·rw[ao h2,ao h2,ao h1]
theorem jC(M)(i)(v):vm (put M i v) i=vm M i:=by
 funext r c;unfold vm;rw[iU _ _ (Ou i r)]
theorem zj(M)(v)(h:j≠i):vm (put M j v) i=put (vm M i) (Tg i j) (λc=>v (c+1)):=by
 funext r c;unfold vm put;by_cases e:r=Tg i j
 ·rw[au e,au ((tU h).mpr e)]
 ·rw[ao e,ao λz=>e ((tU h).mp z)]
theorem xY:∀k {M N:Mi},(∀i,i<k->∀j,j<k->M i j=N i j)->det k M=det k N
 |0,_,_,_=>rfl
 |k+1,M,N,h=>bA (k+1) λi hi=>by
  rw[h i hi 0 (Am k),xY k (M:=vm M i) (N:=vm N i) λr hr c hc=>h _ (Fi hi hr) _ (Nat.succ_lt_succ hc)]
theorem zQ:∀k (M:Mi) (r:Nat) (a b:Int) (u v:Vec),r<k->det k (put M r λc=>a*u c+b*v c)=a*det k (put M r u)+b*det k (put M r v)
 |k+1,M,r,a,b,u,v,hr=>by
  unfold det;rw[<-eV,<-eV,<-j5];refine bA (k+1) λi hi=>?_;by_cases e:r=i
  ·subst e;rw[jC,jC,jC,put_same,put_same,put_same]
   grind
  ·rw[zj _ _ e,zj _ _ e,zj _ _ e,iU _ _ (mQ e),iU _ _ (mQ e),iU _ _ (mQ e),zQ k (vm M i) (Tg i r) a b (λc=>u (c+1)) (λc=>v (c+1)) (XS e hi hr)]
   grind
theorem uq:∀k (M:Mi) (r:Nat),r+1<k->M r=M (r+1)->det k M=0
 |k+1,M,r,hr,e=>by
  unfold det;refine Om (j:=r) (k+1) hr (λi hi h1 h2=>?_) ?_
  ·have z:det k (vm M i)=0:=by
    by_cases c:i<r
    ·refine uq k (vm M i) (r-1) (by omega) ?_;funext x;unfold vm Mx;rw[ao (by omega),ao (by omega),show r-1+1=r by omega,e]
    ·refine uq k (vm M i) r (by omega) ?_;funext x;unfold vm Mx;rw[au (by omega),au (by omega),e]
   rw[z,Az]
  ·have z:vm M r=vm M (r+1):=by
    funext x c;unfold vm Mx;by_cases h1:x<r
    ·rw[au h1,au (by omega)]
    ·rw[ao h1];by_cases h2:x=r
     ·subst h2;rw[au (by omega),e]
     ·rw[ao (by omega)]
   rw[z,e,Ub]
   grind
theorem RB(k)(M)(t)(u v)(h:t+1<k):det k (put (put M t u) (t+1) v)= -det k (put (put M t v) (t+1) u):=by
 have n1:t≠t+1:=by omega
 have z:∀w:Vec,det k (put (put M t w) (t+1) w)=0:=λw=>uq k _ t h (by rw[iU _ _ n1,put_same,put_same]);have YZ:∀(N:Mi) (r:Nat) (a b:Vec),r<k->det k (put N r λc=>a c+b c)=det k (put N r a)+det k (put N r b):=λN r a b hr=>by
  have:=zQ k N r 1 1 a b hr;simp only[JX]at this;exact this
 have z1:=z λc=>u c+v c;rw[YZ _ (t+1) u v h,jg M _ _ n1,jg M _ _ n1,YZ _ t u v (by omega),YZ _ t u v (by omega),<-jg M _ _ n1,<-jg M _ _ n1,<-jg M _ _ n1,<-jg M _ _ n1,z u,z v]at z1;omega
theorem rA:∀(d k:Nat) (M:Mi) (r:Nat),r+d+1<k->M r=M (r+d+1)->det k M=0
 |0,k,M,r,h,e=>uq k M r h e
 |d+1,k,M,r,h,e=>by
  have f:=RB k M (r+d+1) (M (r+d+1)) (M (r+d+1+1)) h;rw[uU,uU]at f;rw[f,rA d k _ r (by omega) (by rw[iU _ _ (by omega),iU _ _ (by omega),iU _ _ (by omega),put_same,e];rfl)];rfl
theorem Rz(hr:r<k)(ht:t<k)(h:r≠t)(e:M r=M t):det k M=0:=by
 by_cases c:r<t
 ·exact rA (t-r-1) k M r (by omega) (by rw[e];congr 1;omega)
 ·exact rA (r-t-1) k M t (by omega) (by rw[<-e];congr 1;omega)
theorem Dk:∀k (M:Mi),(∀i,i<k->∀j,j<k->M i j=if i=j then 1 else 0)->det k M=1
 |0,_,_=>rfl
 |k+1,M,h=>by
  unfold det;rw[eU (j:=0) (k+1) (Am k) λi hi hn=>by rw[h i hi 0 (Am k),ao hn];grind];rw[h 0 (Am k) 0 (Am k),au rfl,Dk k (vm M 0) λi hi j hj=>?_]
  ·rfl
  ·unfold vm Mx;rw[ao (by omega),h _ (by omega) _ (by omega)];by_cases e:i=j
   ·rw[au e,au (by omega)]
   ·rw[ao e,ao (by omega)]
noncomputable def fct:Nat->Int
 |0=>1
 |k+1=>(k+1:Int)*fct k
theorem Ot{f:Nat->Int}:∀k,(∀i,i<k-> -b<=f i/\f i<=b)-> -((k:Int)*b)<=sm k f/\sm k f<=(k:Int)*b
 |0,_=>by
  show -((0:Int)*b)<=0/\(0:Int)<=0*b;omega
 |k+1,h=>by
  have ih:=Ot k λi hi=>h i (wW hi);have hk:=h k (wA k);show -((k+1:Nat)*b)<=sm k f+f k/\sm k f+f k<=(k+1:Nat)*b;rw[show(((k+1:Nat):Int))*b=(k:Int)*b+b by rw[Int.natCast_succ,wgm,JX]];omega
theorem Jg(hx: -a<=x/\x<=a)(hy: -b<=y/\y<=b): -(a*b)<=x*y/\x*y<=a*b:=by
 have h1:0<=(a-x)*(b-y):=HS (by omega) (by omega);have h2:0<=(a+x)*(b+y):=HS (by omega) (by omega);have h3:0<=(a-x)*(b+y):=HS (by omega) (by omega);have h4:0<=(a+x)*(b-y):=HS (by omega) (by omega);constructor<;>grind
theorem zR:∀k (M:Mi) (c:Nat) (B:Int),1<=B->(∀i,i<k->∀j,j<k->i≠c-> -1<=M i j/\M i j<=1)->(∀j,j<k->c<k-> -B<=M c j/\M c j<=B)-> -(fct k*B)<=det k M/\det k M<=fct k*B
 |0,M,c,B,hB,_,_=>by
  show -(1*B)<=1/\(1:Int)<=1*B;omega
 |k+1,M,c,B,hB,h1,h2=>by
  unfold det;have e:fct (k+1)*B=((k+1:Nat):Int)*(fct k*B):=by show((k:Int)+1)*fct k*B=_;rw[Xo];rfl
  rw[e];refine Ot (k+1) λi hi=>?_;have hs:∀x y:Int, -y<=x/\x<=y-> -y<=sg i*x/\sg i*x<=y:=λx y h=>by
   rcases Yb i with s|s
   ·rw[s,JX];exact h
   ·rw[s];omega
  rw[Xo];refine hs _ _ ?_;by_cases ci:i=c
  ·subst ci;have a:=zR k (vm M i) k 1 (by decide) (λr hr x hx _=>h1 _ (Fi hi hr) _ (by omega) (Ou i r)) (λx hx hk=>absurd hk (uw k));have b:=h2 0 (Am k) hi;rw[wdw]at a;have:=Jg b a;rw[M9 (fct k) B];exact this
  ·have a:=zR k (vm M i) (Tg i c) B hB (λr hr x hx hn=>h1 _ (Fi hi hr) _ (by omega) λz=>hn ((tU (mQ ci)).mp z)) (λx hx hk=>by
    have hc:Mx i (Tg i c)=c:=(tU (mQ ci)).mpr rfl;have hlt:c<k+1:=by unfold Tg at hk;split at hk<;>omega
    have:=h2 (x+1) (by omega) hlt;unfold vm;rw[hc];exact this)
   have b:=h1 i hi 0 (Am k) ci;have:=Jg b a;rw[JX]at this;exact this
structure Tab where
 col:Nat->Nat
 row:Nat->Nat
 cell:Nat->Nat->Int
 over:Int
 s:Int
noncomputable def one:Vec:=λj=>if j=0 then 1 else 0
section
variable(n m:Nat)(S:Nat->Nat->Bool)(w:Nat->Int)
noncomputable def nv(a:Nat):Vec:=λj=>if a<n then(if j=a+1 then 1 else 0)else(if j=0 then 1 else if S (a-n) (j-1)=true then -1 else 0)
noncomputable def zv:Vec:=λj=>if j=0 then 0 else w (j-1)
noncomputable def rv(T:Tab)(r:Nat):Vec:=if r<m then nv n S (T.row r)else zv w
noncomputable def wQ(T:Tab):Mi:=λi=>if i=0 then one else nv n S (T.col (i-1))
noncomputable def Fn(T:Tab)(c:Nat)(v:Vec):Int:=T.s*det (n+1) (put (wQ n S T) c v)
structure Good(T:Tab):Prop where
 pos:0<T.over
 eq:∀r,r<=m->∀j,j<=n->T.over*rv n m S w T r j=T.cell r n*one j-sm n (λc=>T.cell r c*nv n S (T.col c) j)
 sg:T.s=1\/T.s=-1
 dt:T.over=T.s*det (n+1) (wQ n S T)
 GJ:∀c c',c<n->c'<n->T.col c=T.col c'->c=c'
 Pr:∀r r',r<m->r'<m->T.row r=T.row r'->r=r'
 dis:∀c r,c<n->r<m->T.col c≠T.row r
 V4:∀c,c<n->T.col c<n+m
 rlt:∀r,r<m->T.row r<n+m
 all:∀a,a<n+m->(∃c,c<n/\T.col c=a)\/∃r,r<m/\T.row r=a
 fea:∀r,r<m->0<=T.cell r n
end
section
variable{n m:Nat}{S:Nat->Nat->Bool}{w:Nat->Int}{T:Tab}
theorem fM(h:r<m):rv n m S w T r=nv n S (T.row r):=au h
theorem iy:rv n m S w T m=zv w:=ao (uw m)
theorem Ds:wQ n S T 0=one:=rfl
theorem JH(c):wQ n S T (c+1)=nv n S (T.col c):=by unfold wQ;rw[ao (Ba c)];rfl
theorem Af(hc:c<=n)(a b)(u v):Fn n S T c (λj=>a*u j+b*v j)=a*Fn n S T c u+b*Fn n S T c v:=by
 unfold Fn;rw[zQ (n+1) (wQ n S T) c a b u v (by omega)];grind
theorem M6(h:∀j,j<=n->u j=v j):Fn n S T c u=Fn n S T c v:=by
 unfold Fn;rw[xY (n+1) (M:=put (wQ n S T) c u) (N:=put (wQ n S T) c v) λi _ j hj=>?_];unfold put;split
 ·exact h j (by omega)
 ·rfl
theorem jH(hc:c<=n)(x)(a)(y:Nat->Int)(W:Nat->Vec):∀k,Fn n S T c (λj=>x*a j-sm k (λi=>y i*W i j))=x*Fn n S T c a-sm k (λi=>y i*Fn n S T c (W i))
 |0=>by
  have h:=Af (T:=T) (S:=S) hc x 0 a a;rw[M6 (v:=λj=>x*a j+0*a j) λj _=>by show x*a j-0=_;omega,h];show _=_-0;omega
 |k+1=>by
  have h:=Af (T:=T) (S:=S) hc 1 (-(y k)) (λj=>x*a j-sm k (λi=>y i*W i j)) (W k);rw[M6 (v:=λj=>1*(x*a j-sm k (λi=>y i*W i j))+ -(y k)*W k j) λj _=>by show x*a j-(sm k _+y k*W k j)=_;grind,h,jH hc x a y W k];show _=x*Fn n S T c a-(sm k _+y k*Fn n S T c (W k))
  grind
theorem qe(hc:c<=n)(a)(u):Fn n S T c (λj=>a*u j)=a*Fn n S T c u:=by
 have h:=Af (T:=T) (S:=S) hc a 0 u u;rw[M6 (v:=λj=>a*u j+0*u j) λj _=>by omega,h];omega
theorem R9(g:T.over=T.s*det (n+1) (wQ n S T))(hc:c<=n)(hi:i<=n):Fn n S T c (wQ n S T i)=if i=c then T.over else 0:=by
 unfold Fn;by_cases e:i=c
 ·subst e;rw[au rfl,uU,<-g]
 ·rw[ao e,Rz (r:=c) (t:=i) (by omega) (by omega) (mQ e) (by rw[put_same,iU _ _ e]),Az]
theorem lE(g:T.over=T.s*det (n+1) (wQ n S T))(hc:c<=n):Fn n S T c one=if c=0 then T.over else 0:=by
 have:=R9 g hc (dX n);rw[Ds]at this;rw[this];by_cases e:c=0
 ·rw[au e,au e.symm]
 ·rw[ao e,ao (mQ e)]
theorem Ax(g:T.over=T.s*det (n+1) (wQ n S T))(hc:c<=n)(hi:i<n):Fn n S T c (nv n S (T.col i))=if i+1=c then T.over else 0:=by
 have:=R9 g hc (show i+1<=n by omega);rw[JH]at this;exact this
theorem zby{a x y:Int}(h:0<a)(e:a*x=a*y):x=y:=yfc (by omega) e
theorem Good.base(G:Good n m S w T)(hr:r<=m):Fn n S T 0 (rv n m S w T r)=T.cell r n:=by
 have h1:=qe (T:=T) (S:=S) (c:=0) (dX n) T.over (rv n m S w T r);rw[M6 λj hj=>G.eq r hr j hj,jH (dX n) _ _ (T.cell r) (λc=>nv n S (T.col c)),lE G.dt (dX n),au rfl,dO n λc hc=>by rw[Ax G.dt (dX n) hc,ao (Ba c),Az]]at h1;refine zby G.pos ?_;rw[<-h1,M9];omega
theorem Good.dir(G:Good n m S w T)(hr:r<=m)(hc:c<n):Fn n S T (c+1) (rv n m S w T r)= -T.cell r c:=by
 have h1:=qe (T:=T) (S:=S) (c:=c+1) hc T.over (rv n m S w T r);rw[M6 λj hj=>G.eq r hr j hj,jH hc _ _ (T.cell r) (λc=>nv n S (T.col c)),lE G.dt hc,ao (Ba c),eU (j:=c) n hc λi hi hn=>by rw[Ax G.dt hc hi,ao (by omega),Az],Ax G.dt hc hc,au rfl]at h1;refine zby G.pos ?_;rw[<-h1];grind
noncomputable def turn(T:Tab)(p q:Nat):Tab where
 col:=λc=>if c=q then T.row p else T.col c
 row:=λr=>if r=p then T.col q else T.row r
 over:=T.cell p q
 s:= -T.s
 cell:=λr c=>if r=p then(if c=q then T.over else T.cell p c)else if c=q then -T.cell r q else(T.cell r c*T.cell p q-T.cell r q*T.cell p c)/T.over
theorem Nx:wQ n S (turn T p q)=put (wQ n S T) (q+1) (nv n S (T.row p)):=by
 funext i;unfold wQ put turn;dsimp only;by_cases h0:i=0
 ·rw[au h0,ao (by omega),au h0]
 ·rw[ao h0];by_cases h1:i=q+1
  ·rw[au h1,au (by omega)]
  ·rw[ao h1,ao (by omega),ao h0]
theorem T7(h:r≠p):rv n m S w (turn T p q) r=rv n m S w T r:=by
 unfold rv turn;dsimp only;rw[ao h]
theorem Good.w6(G:Good n m S w T)(hp:p<m)(hq:q<n):(turn T p q).over=(turn T p q).s*det (n+1) (wQ n S (turn T p q)):=by
 have h:=G.dir (r:=p) (dN hp) hq;rw[fM hp]at h;unfold Fn at h;rw[Nx];show T.cell p q= -T.s*_
 grind
theorem Good.exact(G:Good n m S w T)(hp:p<m)(hq:q<n)(hb:0<T.cell p q)(hr:r<=m)(hrp:r≠p)(hc:c<=n)(Zf:c≠q):
  T.over*(turn T p q).cell r c=T.cell r c*T.cell p q-T.cell r q*T.cell p c:=by
 have g':=G.w6 hp hq;have abk:∀j,j<=n->T.cell p q*T.over*rv n m S w T r j=(T.cell r n*T.cell p q-T.cell r q*T.cell p n)*one j-sm n (λc=>(T.cell r c*T.cell p q-T.cell r q*T.cell p c)*nv n S (T.col c) j)+T.over*T.cell r q*nv n S (T.row p) j:=λj hj=>by
  have e1:=G.eq r hr j hj;have e2:=G.eq p (dN hp) j hj;rw[fM hp]at e2;have e3:sm n (λc=>(T.cell r c*T.cell p q-T.cell r q*T.cell p c)*nv n S (T.col c) j)=T.cell p q*sm n (λc=>T.cell r c*nv n S (T.col c) j)+ -(T.cell r q)*sm n (λc=>T.cell p c*nv n S (T.col c) j):=by
   rw[<-eV,<-eV,<-j5];exact bA n λc _=>by grind
  rw[e3];generalize sm n (λc=>T.cell r c*nv n S (T.col c) j)=A at *;generalize sm n (λc=>T.cell p c*nv n S (T.col c) j)=B at *
  grind
 have app:∀d,d<=n->T.cell p q*T.over*Fn n S (turn T p q) d (rv n m S w T r)=(T.cell r n*T.cell p q-T.cell r q*T.cell p n)*Fn n S (turn T p q) d one-sm n (λc=>(T.cell r c*T.cell p q-T.cell r q*T.cell p c)*Fn n S (turn T p q) d (nv n S (T.col c)))+T.over*T.cell r q*Fn n S (turn T p q) d (nv n S (T.row p)):=λd hd=>by
  rw[<-qe hd,M6 abk,<-jH hd _ _ (λc=>T.cell r c*T.cell p q-T.cell r q*T.cell p c) (λc=>nv n S (T.col c))];have h:=Af (T:=turn T p q) (S:=S) hd 1 (T.over*T.cell r q) (λj=>(T.cell r n*T.cell p q-T.cell r q*T.cell p n)*one j-sm n (λc=>(T.cell r c*T.cell p q-T.cell r q*T.cell p c)*nv n S (T.col c) j)) (nv n S (T.row p));simp only[JX]at h;exact h
 have aa0:nv n S ((turn T p q).col q)=nv n S (T.row p):=by unfold turn;dsimp only;rw[au rfl]
 have ZL:∀c,c≠q->nv n S ((turn T p q).col c)=nv n S (T.col c):=λc h=>by unfold turn;dsimp only;rw[ao h]
 have ov:(turn T p q).over=T.cell p q:=rfl;have key:∃x,T.cell r c*T.cell p q-T.cell r q*T.cell p c=T.over*x:=by
  by_cases hl:c=n
  ·subst hl;have h:=app 0 (dX _);have f1:=lE g' (dX c);have f2:=Ax g' (dX c) hq;rw[au rfl,ov]at f1;rw[aa0,ao (Ba q)]at f2;rw[f1,f2,dO c λi hi=>?_]at h
   ·refine⟨Fn c S (turn T p q) 0 (rv c m S w T r),zby hb ?_⟩
    grind
   ·by_cases hiq:i=q
    ·subst hiq;rw[Int.sub_self,M8]
    ·have f3:=Ax g' (dX c) hi;rw[ZL i hiq,ao (Ba i)]at f3;rw[f3,Az]
  ·have hc':c<n:=by omega
   have h:=app (c+1) hc';have f1:=lE g' (show c+1<=n from hc');have f2:=Ax g' (show c+1<=n from hc') hq;have f3:=Ax g' (show c+1<=n from hc') hc';rw[ao (Ba c)]at f1;rw[aa0,ao (by omega)]at f2;rw[ZL c Zf,au rfl,ov]at f3;rw[f1,f2,eU (j:=c) n hc' λi hi hn=>?_,f3]at h
   ·refine⟨-Fn n S (turn T p q) (c+1) (rv n m S w T r),zby hb ?_⟩
    grind
   ·by_cases hiq:i=q
    ·subst hiq;rw[Int.sub_self,M8]
    ·have f4:=Ax g' (show c+1<=n from hc') hi;rw[ZL i hiq,ao (by omega)]at f4;rw[f4,Az]
 obtain⟨x,hx⟩:=key;show T.over*(if r=p then _ else if c=q then _ else(T.cell r c*T.cell p q-T.cell r q*T.cell p c)/T.over)=_;rw[ao hrp,ao Zf,hx,weu _ (Int.ne_of_gt G.pos)]
theorem Good.turn(G:Good n m S w T){p q:Nat}(hp:p<m)(hq:q<n)(hb:0<T.cell p q)(ra:∀r,r<m->0<T.cell r q->T.cell p n*T.cell r q<=T.cell r n*T.cell p q):Good n m S w (turn T p q):=by
 have hqn:n≠q:=by omega
 have c1:∀r,r≠p->(Sx.turn T p q).cell r q= -T.cell r q:=λr h=>by unfold Sx.turn;dsimp only;rw[ao h,au rfl]
 have c2:(Sx.turn T p q).cell p q=T.over:=by unfold Sx.turn;dsimp only;rw[au rfl,au rfl]
 have c3:∀c,c≠q->(Sx.turn T p q).cell p c=T.cell p c:=λc h=>by unfold Sx.turn;dsimp only;rw[au rfl,ao h]
 have k1:(Sx.turn T p q).col q=T.row p:=by unfold Sx.turn;dsimp only;rw[au rfl]
 have k2:∀c,c≠q->(Sx.turn T p q).col c=T.col c:=λc h=>by unfold Sx.turn;dsimp only;rw[ao h]
 have r1:(Sx.turn T p q).row p=T.col q:=by unfold Sx.turn;dsimp only;rw[au rfl]
 have r2:∀r,r≠p->(Sx.turn T p q).row r=T.row r:=λr h=>by unfold Sx.turn;dsimp only;rw[ao h]
 refine⟨hb,λr hr j hj=>?_,?_,G.w6 hp hq,λc c' hc hc' e=>?_,λr r' hr hr' e=>?_,λc r hc hr e=>?_,λc hc=>?_,λr hr=>?_,λa ha=>?_,λr hr=>?_⟩
 ·have e2:=G.eq p (dN hp) j hj;rw[fM hp]at e2;by_cases h:r=p
  ·subst h;rw[fM hp,r1,c3 n hqn];have e3:sm n (λc=>(Sx.turn T r q).cell r c*nv n S ((Sx.turn T r q).col c) j)=sm n (λc=>T.cell r c*nv n S (T.col c) j)+(T.over*nv n S (T.row r) j-T.cell r q*nv n S (T.col q) j):=by
    have:sm n (λc=>if c=q then T.over*nv n S (T.row r) j-T.cell r q*nv n S (T.col q) j else 0)=T.over*nv n S (T.row r) j-T.cell r q*nv n S (T.col q) j:=by
     rw[eU (j:=q) n hq λi _ hn=>ao hn,au rfl]
    rw[<-this,<-j5];refine bA n λc _=>?_;by_cases hc:c=q
    ·subst hc;rw[c2,k1,au rfl];omega
    ·rw[c3 c hc,k2 c hc,ao hc];omega
   rw[e3];show T.cell r q*nv n S (T.col q) j=_;omega
  ·rw[T7 h];have e1:=G.eq r hr j hj;have e3:T.over*sm n (λc=>(Sx.turn T p q).cell r c*nv n S ((Sx.turn T p q).col c) j)=T.cell p q*sm n (λc=>T.cell r c*nv n S (T.col c) j)+ -(T.cell r q)*sm n (λc=>T.cell p c*nv n S (T.col c) j)+ -(T.over*T.cell r q*nv n S (T.row p) j):=by
    have:sm n (λc=>if c=q then -(T.over*T.cell r q*nv n S (T.row p) j)else 0)=-(T.over*T.cell r q*nv n S (T.row p) j):=by
     rw[eU (j:=q) n hq λi _ hn=>ao hn,au rfl]
    rw[<-this,<-eV,<-eV,<-eV,<-j5,<-j5];refine bA n λc hc=>?_;by_cases Zf:c=q
    ·subst Zf;rw[c1 r h,k1,au rfl];grind
    ·have:=G.exact hp hq hb hr h (dN hc) Zf;rw[k2 c Zf,ao Zf,<-Xo,this];grind
   have e4:=G.exact hp hq hb hr h (aQ n) hqn;refine zby G.pos ?_;show T.over*(T.cell p q*rv n m S w T r j)=_;rw[Int.mul_sub,e3,<-Xo T.over ((Sx.turn T p q).cell r n),e4];generalize sm n (λc=>T.cell r c*nv n S (T.col c) j)=A at *;generalize sm n (λc=>T.cell p c*nv n S (T.col c) j)=B at *
   grind
 ·rcases G.sg with e|e
  ·exact .inr (by show -T.s=-1;rw[e])
  ·exact .inl (by show -T.s=1;rw[e];rfl)
 ·by_cases h1:c=q
  ·by_cases h2:c'=q
   ·rw[h1,h2]
   ·rw[h1,k1,k2 c' h2]at e;exact absurd e.symm (G.dis c' p hc' hp)
  ·by_cases h2:c'=q
   ·rw[h2,k1,k2 c h1]at e;exact absurd e (G.dis c p hc hp)
   ·rw[k2 c h1,k2 c' h2]at e;exact G.GJ c c' hc hc' e
 ·by_cases h1:r=p
  ·by_cases h2:r'=p
   ·rw[h1,h2]
   ·rw[h1,r1,r2 r' h2]at e;exact absurd e (G.dis q r' hq hr')
  ·by_cases h2:r'=p
   ·rw[h2,r1,r2 r h1]at e;exact absurd e.symm (G.dis q r hq hr)
   ·rw[r2 r h1,r2 r' h2]at e;exact G.Pr r r' hr hr' e
 ·by_cases h1:c=q
  ·by_cases h2:r=p
   ·rw[h1,h2,k1,r1]at e;exact G.dis q p hq hp e.symm
   ·rw[h1,k1,r2 r h2]at e;exact h2 (G.Pr p r hp hr e).symm
  ·by_cases h2:r=p
   ·rw[h2,k2 c h1,r1]at e;exact h1 (G.GJ c q hc hq e)
   ·rw[k2 c h1,r2 r h2]at e;exact G.dis c r hc hr e
 ·by_cases h1:c=q
  ·rw[h1,k1];exact G.rlt p hp
  ·rw[k2 c h1];exact G.V4 c hc
 ·by_cases h1:r=p
  ·rw[h1,r1];exact G.V4 q hq
  ·rw[r2 r h1];exact G.rlt r hr
 ·rcases G.all a ha with⟨c,hc,e⟩|⟨r,hr,e⟩
  ·by_cases h1:c=q
   ·exact .inr ⟨p,hp,by rw[r1,<-h1,e]⟩
   ·exact .inl ⟨c,hc,by rw[k2 c h1,e]⟩
  ·by_cases h1:r=p
   ·exact .inl ⟨q,hq,by rw[k1,<-h1,e]⟩
   ·exact .inr ⟨r,hr,by rw[r2 r h1,e]⟩
 ·by_cases h1:r=p
  ·rw[h1,c3 n hqn];exact G.fea p hp
  ·have e:=G.exact hp hq hb (dN hr) h1 (aQ n) hqn;have f1:=G.fea r hr;have f2:=G.fea p hp;have z:0<=T.cell r n*T.cell p q-T.cell r q*T.cell p n:=by
    by_cases hc:0<T.cell r q
    ·have:=ra r hr hc;rw[M9 (T.cell r q)];omega
    ·have a1:0<=T.cell r n*T.cell p q:=HS f1 (by omega);have a2:0<=-(T.cell r q)*T.cell p n:=HS (by omega) f2
     grind
   rw[<-e]at z;have:=G.pos;refine Int.not_lt.mp λhn=>?_;have:T.over*(Sx.turn T p q).cell r n<0:=Int.mul_neg_of_pos_of_neg G.pos hn;omega
end
structure Step(n m:Nat)(T:Tab)(p q:Nat):Prop where
 hp:p<m
 hq:q<n
 neg:T.cell m q<0
 ent:∀c,c<n->T.cell m c<0->T.col q<=T.col c
 by_:0<T.cell p q
 lev:∀r,r<m->0<T.cell r q->T.cell p n*T.cell r q<T.cell r n*T.cell p q\/(T.cell p n*T.cell r q=T.cell r n*T.cell p q/\T.row p<=T.row r)
noncomputable def inC(n:Nat)(T:Tab)(a:Nat):Prop:=∃c,c<n/\T.col c=a
section
variable{n m:Nat}{S:Nat->Nat->Bool}{w:Nat->Int}
theorem Step.good(s:Step n m T p q)(G:Good n m S w T):Good n m S w (turn T p q):=
 G.turn s.hp s.hq s.by_ λr hr h=>(s.lev r hr h).elim Ek λe=>Xn e.1
theorem Step.worth(s:Step n m T p q)(G:Good n m S w T):T.over*(turn T p q).cell m n-(turn T p q).over*T.cell m n=-(T.cell m q)*T.cell p n:=by
 have h:=G.exact s.hp s.hq s.by_ (aQ m) (HN s.hp) (aQ n) (HN s.hq);rw[h];show _-T.cell p q*_=_
 grind
theorem Step.le(s:Step n m T p q)(G:Good n m S w T):(turn T p q).over*T.cell m n<=T.over*(turn T p q).cell m n:=by
 have h:=s.worth G;have:=HS (a:=-(T.cell m q)) (b:=T.cell p n) (by have:=s.neg;omega) (G.fea p s.hp);omega
theorem zJ{a b c d e f:Int}(hd:0<d)(hb:0<b)(hf:0<f)(h1:d*a<=b*c)(h2:f*c<=d*e):f*a<=b*e:=by
 have x:=XF h1 (Ek hf);have y:=XF h2 (Ek hb);refine Int.le_of_mul_le_mul_left (a:=d) ?_ hd
 grind
theorem zH{a b c d e f:Int}(hd:0<d)(hb:0<b)(hf:0<f)(h1:d*a<=b*c)(h2:f*c<d*e):f*a<b*e:=by
 have x:=XF h1 (Ek hf);have y:=weh h2 hb;refine wep (a:=d) ?_ (Ek hd)
 grind
theorem Dc{a b c d e f:Int}(hd:0<d)(hb:0<b)(hf:0<f)(h1:d*a<b*c)(h2:f*c<=d*e):f*a<b*e:=by
 have x:=weh h1 hf;have y:=XF h2 (Ek hb);refine wep (a:=d) ?_ (Ek hd)
 grind
theorem goes{P:Nat->Prop}:∀d,P s->¬P (s+d)->∃t,s<=t/\t<s+d/\P t/\¬P (t+1)
 |0,h,h'=>absurd h h'
 |d+1,h,h'=>by
  by_cases c:P (s+d)
  ·exact⟨s+d,by omega,by omega,c,h'⟩
  ·obtain⟨t,a,b,x⟩:=goes d h c;exact⟨t,a,by omega,x⟩
theorem CN{P:Nat->Prop}(hse:s<=e)(h:P s)(h':¬P e):∃t,s<=t/\t<e/\P t/\¬P (t+1):=by
 obtain⟨t,a,b,x⟩:=goes (s:=s) (e-s) h (by rw[show s+(e-s)=e by omega];exact h');exact⟨t,a,by omega,x⟩
theorem most{P:Nat->Prop}:∀N,(∃a,P a)->(∀a,P a->a<N)->∃a,P a/\∀b,P b->b<=a
 |0,⟨a,h⟩,hb=>absurd (hb a h) (Xr a)
 |N+1,h,hb=>by
  by_cases c:P N
  ·exact⟨N,c,λb hP=>by have:=hb b hP;omega⟩
  ·exact most N h λa hP=>by
    have:=hb a hP;have:a≠N:=λe=>c (e▸hP);omega
structure Run(n m:Nat)(S:Nat->Nat->Bool)(w:Nat->Int)(T:Nat->Tab)(p q:Nat->Nat)(L:Nat):Prop where
 first:Good n m S w (T 0)
 step:∀t,t<L->Step n m (T t) (p t) (q t)
 next:∀t,t<L->T (t+1)=turn (T t) (p t) (q t)
variable{T:Nat->Tab}{p q:Nat->Nat}{L:Nat}
theorem Run.good(R:Run n m S w T p q L):∀t,t<=L->Good n m S w (T t)
 |0,_=>R.first
 |t+1,h=>by rw[R.next t h];exact(R.step t h).good (R.good t (wer h))
theorem Run.worth(R:Run n m S w T p q L):∀d,i+d<=L->(T (i+d)).over*(T i).cell m n<=(T i).over*(T (i+d)).cell m n
 |0,_=>tK _
 |d+1,h=>by
  have ih:=R.worth d (i:=i) (by omega);have g1:=R.good (i+d) (by omega);have st:=(R.step (i+d) (by omega)).le g1;rw[<-R.next (i+d) (by omega)]at st;exact zJ g1.pos (R.good i (by omega)).pos (R.good (i+d+1) h).pos ih st
theorem Run.Nh(R:Run n m S w T p q L)(hij:i<=j)(hj:j<=L):(T j).over*(T i).cell m n<=(T i).over*(T j).cell m n:=by
 have:=R.worth (i:=i) (j-i) (by omega)
 rwa [show i+(j-i)=j by omega]at this
theorem Fl(GA:Good n m S w A)(GB:Good n m S w B)(h:∀a,inC n B a->inC n A a):B.over*A.cell m n=A.over*B.cell m n:=by
 have h1:=qe (T:=A) (S:=S) (c:=0) (dX n) B.over (zv w);have e:=GB.eq m (aQ m);rw[iy]at e;have b:=GA.base (aQ m);rw[iy]at b;rw[M6 e,jH (dX n) _ _ (B.cell m) (λc=>nv n S (B.col c)),lE GA.dt (dX n),au rfl,dO n λc hc=>?_,b]at h1
 ·rw[<-h1,M9];omega
 ·obtain⟨c',hc',e'⟩:=h _ ⟨c,hc,rfl⟩;rw[<-e',Ax GA.dt (dX n) hc',ao (Ba c'),Az]
theorem Nv{T:Tab}{p q:Nat}(G:Good n m S w T)(hp:p<m)(hq:q<n)(a):inC n (turn T p q) a↔(inC n T a/\a≠T.col q)\/a=T.row p:=by
 constructor
 ·rintro⟨c,hc,e⟩;have e':(if c=q then T.row p else T.col c)=a:=e;by_cases h:c=q
  ·rw[au h]at e';exact .inr e'.symm
  ·rw[ao h]at e';exact .inl ⟨⟨c,hc,e'⟩,λz=>h (G.GJ c q hc hq (e'.trans z))⟩
 ·rintro(⟨⟨c,hc,e⟩,hn⟩|e)
  ·have h:c≠q:=λz=>hn (by rw[<-e,z]);exact⟨c,hc,by show(if c=q then _ else _)=a;rw[ao h];exact e⟩
  ·exact⟨q,hq,by show(if q=q then _ else _)=a;rw[au rfl];exact e.symm⟩
theorem flat{T:Tab}{p q:Nat}(G:Good n m S w T)(G':Good n m S w (turn T p q))(s:Step n m T p q)(h0:T.cell p n=0)(ha:a<n+m):Fn n S (turn T p q) 0 (nv n S a)=0↔Fn n S T 0 (nv n S a)=0:=by
 have z0:=dX n;rcases G'.all a ha with⟨c,hc,e⟩|⟨r,hr,e⟩
 ·have f1:=Ax G'.dt z0 hc;rw[e,ao (Ba c)]at f1;refine⟨λ_=>?_,λ_=>f1⟩;have e':(if c=q then T.row p else T.col c)=a:=e;by_cases h:c=q
  ·rw[au h]at e';have:=G.base (dN s.hp);rw[fM s.hp,e']at this;rw[this,h0]
  ·rw[ao h]at e';have:=Ax G.dt z0 hc;rw[e',ao (Ba c)]at this;exact this
 ·have f1:=G'.base (dN hr);rw[fM hr,e]at f1;have e':(if r=p then T.col q else T.row r)=a:=e;rw[f1];by_cases h:r=p
  ·rw[au h]at e';have f2:=Ax G.dt z0 s.hq;rw[e',ao (Ba q)]at f2;have f3:(turn T p q).cell r n=T.cell p n:=by
    show(if r=p then(if n=q then _ else _)else _)=_;rw[au h,ao (HN s.hq)]
   rw[f3,h0];exact⟨λ_=>f2,λ_=>rfl⟩
  ·rw[ao h]at e';have f2:=G.base (dN hr);rw[fM hr,e']at f2;rw[f2];have x:=G.exact s.hp s.hq s.by_ (dN hr) h (aQ n) (HN s.hq);rw[h0,Az,Int.sub_zero]at x;constructor
   ·intro z;rw[z,Az]at x;rcases Int.mul_eq_zero.mp x.symm with y|y
    ·exact y
    ·have:=s.by_;omega
   ·intro z;rw[z,M8]at x;rcases Int.mul_eq_zero.mp x with y|y
    ·have:=G.pos;omega
    ·exact y
theorem Run.KZ(R:Run n m S w T p q L)(hij:i<j)(hj:j<=L):¬∀a,inC n (T i) a↔inC n (T j) a:=by
 intro same;have Gt:∀t,i<=t->t<=j->Good n m S w (T t):=λt _ h=>R.good t (bR h hj);have D:=Fl (Gt i (aQ i) (dN hij)) (Gt j (dN hij) (aQ j)) λa=>(same a).mpr;have St:∀t,t<j->Step n m (T t) (p t) (q t):=λt h=>R.step t (jo h hj);have nx:∀t,t<j->T (t+1)=turn (T t) (p t) (q t):=λt h=>R.next t (jo h hj)
 have fl:∀t,i<=t->t<j->(T t).cell (p t) n=0:=λt hi ht=>by
  have g:=Gt t hi (dN ht);have W:=(St t ht).worth g;have F:=g.fea (p t) (St t ht).hp;have N:=(St t ht).neg;by_cases z:(T t).cell (p t) n=0
  ·exact z
  ·exfalso;have B:(turn (T t) (p t) (q t)).over*(T t).cell m n<(T t).over*(turn (T t) (p t) (q t)).cell m n:=by
    have:=Wc (a:=-((T t).cell m (q t))) (b:=(T t).cell (p t) n) (by omega) (by omega);omega
   rw[<-nx t ht]at B;have A:=R.Nh (i:=i) (j:=t) hi (by omega);have C:=R.Nh (i:=t+1) (j:=j) ht hj;have o1:=(Gt i (aQ i) (dN hij)).pos;have o2:=g.pos;have o3:=(Gt (t+1) (by omega) ht).pos;have o4:=(Gt j (dN hij) (aQ j)).pos;have x:=zH o2 o1 o3 A B;have y:=Dc o3 o1 o4 x C;omega
 have ic:∀t,t<j->i<=t->∀a,inC n (T (t+1)) a↔(inC n (T t) a/\a≠(T t).col (q t))\/a=(T t).row (p t):=λt ht hi a=>by
  rw[nx t ht];exact Nv (Gt t hi (dN ht)) (St t ht).hp (St t ht).hq a
 have zeros:∀{a:Nat},a<n+m->∀d s,i<=s->s+d<=j->(Fn n S (T (s+d)) 0 (nv n S a)=0↔Fn n S (T s) 0 (nv n S a)=0):=λ{a} ha d=>by
  induction d with
  |zero=>intro s _ _;exact Iff.rfl
  |succ d ih=>
   intro s hs hd;have f:=flat (Gt (s+d) (by omega) (by omega)) (by rw[<-nx (s+d) (by omega)];exact Gt (s+d+1) (by omega) hd) (St (s+d) (by omega)) (fl (s+d) (by omega) (by omega)) ha;rw[<-nx (s+d) (by omega)]at f;exact f.trans (ih s hs (by omega))
 have aac:∀{a s t:Nat},a<n+m->i<=s->s<=j->i<=t->t<=j->Fn n S (T s) 0 (nv n S a)=0->Fn n S (T t) 0 (nv n S a)=0:=λ{a s t} ha h1 h2 h3 h4 z=>by
  by_cases c:s<=t
  ·have:=zeros ha (t-s) s h1 (by omega);rw[show s+(t-s)=t by omega]at this;exact this.mpr z
  ·have:=zeros ha (s-t) t h3 (by omega);rw[show t+(s-t)=s by omega]at this;exact this.mp z
 let Fk:Nat->Prop:=λa=>∃t,i<=t/\t<j/\((inC n (T t) a/\¬inC n (T (t+1)) a)\/(¬inC n (T t) a/\inC n (T (t+1)) a));have fkc:∀t,i<=t->t<j->Fk ((T t).col (q t)):=λt hi ht=>by
  have g:=Gt t hi (dN ht);refine⟨t,hi,ht,.inl ⟨⟨q t,(St t ht).hq,rfl⟩,λz=>?_⟩⟩;rcases(ic t ht hi _).mp z with⟨_,z⟩|z
  ·exact z rfl
  ·exact g.dis (q t) (p t) (St t ht).hq (St t ht).hp z
 have lt:∀a,Fk a->a<n+m:=λa h=>by
  obtain⟨t,hi,ht,(⟨⟨c,hc,e⟩,_⟩|⟨_,⟨c,hc,e⟩⟩)⟩:=h
  ·rw[<-e];exact(Gt t hi (dN ht)).V4 c hc
  ·rw[<-e];exact(Gt (t+1) (by omega) ht).V4 c hc
 obtain⟨tt,hF,hmax⟩:=most (n+m) ⟨_,fkc i (aQ i) hij⟩ lt;have diff:∀{a s e:Nat},i<=s->s<=j->i<=e->e<=j->inC n (T s) a->¬inC n (T e) a->Fk a:=λ{a s e} h1 h2 h3 h4 x y=>by
  by_cases c:s<=e
  ·obtain⟨t,a1,a2,a3,a4⟩:=CN (P:=λt=>inC n (T t) a) c x y;exact⟨t,by omega,by omega,.inl ⟨a3,a4⟩⟩
  ·obtain⟨t,a1,a2,a3,a4⟩:=CN (P:=λt=>¬inC n (T t) a) (s:=e) (e:=s) (by omega) y (λz=>z x);exact⟨t,by omega,by omega,.inr ⟨a3,Classical.not_not.mp a4⟩⟩
 obtain⟨t1,h1i,h1j,h1a,h1b⟩:∃t,i<=t/\t<j/\inC n (T t) tt/\¬inC n (T (t+1)) tt:=by
  obtain⟨t,hi,ht,(⟨x,y⟩|⟨x,y⟩)⟩:=hF
  ·exact⟨t,hi,ht,x,y⟩
  ·by_cases c:inC n (T j) tt
   ·obtain⟨u,a1,a2,a3,a4⟩:=CN (P:=λt=>inC n (T t) tt) hi ((same tt).mpr c) x;exact⟨u,a1,by omega,a3,a4⟩
   ·obtain⟨u,a1,a2,a3,a4⟩:=CN (P:=λt=>inC n (T t) tt) (s:=t+1) (e:=j) ht y c;exact⟨u,by omega,a2,a3,a4⟩
 obtain⟨t2,h2i,Zi,h2a,h2b⟩:∃t,i<=t/\t<j/\¬inC n (T t) tt/\inC n (T (t+1)) tt:=by
  have up:∀s e,i<=s->s<=e->e<=j->¬inC n (T s) tt->inC n (T e) tt->∃t,i<=t/\t<j/\¬inC n (T t) tt/\inC n (T (t+1)) tt:=λs e a b c x y=>by
   obtain⟨u,a1,a2,a3,a4⟩:=CN (P:=λt=>¬inC n (T t) tt) b x (λz=>z y);exact⟨u,by omega,by omega,a3,Classical.not_not.mp a4⟩
  by_cases c:inC n (T j) tt
  ·exact up (t1+1) j (by omega) h1j (aQ j) h1b c
  ·exact up i t1 (aQ i) h1i (by omega) (λz=>c ((same tt).mp z)) h1a
 have e1:tt=(T t1).col (q t1):=by
  refine WD λhn=>h1b ((ic t1 h1j h1i tt).mpr (.inl ⟨h1a,hn⟩))
 have e2:tt=(T t2).row (p t2):=by
  rcases(ic t2 Zi h2i tt).mp h2b with⟨z,_⟩|z
  ·exact absurd z h2a
  ·exact z
 have G1:=Gt t1 h1i (dN h1j);have G2:=Gt t2 h2i (dN Zi);have S1:=St t1 h1j;have S2:=St t2 Zi
 have hq2:q t2+1<=n:=S2.hq;have dz:=G2.dir (aQ m) S2.hq;rw[iy]at dz;have sum:=qe (T:=T t2) (S:=S) hq2 (T t1).over (zv w);have eq1:=G1.eq m (aQ m);rw[iy]at eq1;rw[M6 eq1,jH hq2 _ _ ((T t1).cell m) (λc=>nv n S ((T t1).col c)),lE G2.dt hq2,ao (Ba _),dz]at sum;have neg:sm n (λc=>(T t1).cell m c*Fn n S (T t2) (q t2+1) (nv n S ((T t1).col c)))<0:=by
  have:=Wc G1.pos (b:=-((T t2).cell m (q t2))) (by have:=S2.neg;omega);omega
 obtain⟨c,hc,hlt⟩:=Oo n neg;have hnm:=G1.V4 c hc;rcases G2.all _ hnm with⟨c0,hc0,e0⟩|⟨r0,hr0,e0⟩
 ·have f:=Ax G2.dt hq2 hc0;rw[e0]at f;by_cases z:c0=q t2
  ·rw[au (by omega)]at f;rw[f]at hlt;have cn:(T t1).cell m c<0:=by
    refine Int.not_le.mp λh=>?_;have:=HS h (Ek G2.pos);omega
   have a:=S1.ent c hc cn;rw[<-e1,<-e0,z]at a;have b:=hmax _ (fkc t2 h2i Zi);have:tt=(T t2).col (q t2):=Xu a b;exact G2.dis (q t2) (p t2) S2.hq S2.hp (this.symm.trans e2)
  ·rw[ao (by omega)]at f;rw[f,Az]at hlt;exact absurd hlt (wdt 0)
 ·have f:=G2.dir (dN hr0) S2.hq;rw[fM hr0,e0]at f;rw[f]at hlt;have fk:Fk ((T t1).col c):=diff h1i (dN h1j) h2i (dN Zi) ⟨c,hc,rfl⟩ (λ⟨c',hc',e'⟩=>G2.dis c' r0 hc' hr0 (e'.trans e0.symm));have le:=hmax _ fk;by_cases z:(T t1).col c=tt
  ·have cq:c=q t1:=G1.GJ c (q t1) hc S1.hq (z.trans e1);have rp:r0=p t2:=G2.Pr r0 (p t2) hr0 S2.hp (e0.trans (z.trans e2));subst cq rp;have a:=S1.neg;have b:=S2.by_;have:=Wc (a:=-((T t1).cell m (q t1))) (b:=(T t2).cell (p t2) (q t2)) (by omega) b
   grind
  ·have cn:¬(T t1).cell m c<0:=λh=>by
    have:=S1.ent c hc h;omega
   have Uo:0<(T t2).cell r0 (q t2):=by
    refine Int.not_le.mp λh=>?_;have:=HS (a:=(T t1).cell m c) (b:=-((T t2).cell r0 (q t2))) (by omega) (by omega);omega
   have v1:Fn n S (T t1) 0 (nv n S ((T t1).col c))=0:=by rw[Ax G1.dt (dX n) hc,ao (Ba c)]
   have v2:=aac hnm h1i (dN h1j) h2i (dN Zi) v1;have b:=G2.base (dN hr0);rw[fM hr0,e0,v2]at b;have k:=fl t2 h2i Zi;rcases S2.lev r0 hr0 Uo with h|⟨_,h⟩
   ·rw[k,<-b,M8,M8]at h;exact absurd h (wdt 0)
   ·rw[<-e2,e0]at h;omega
noncomputable def enc:List Bool->Nat
 |[]=>0
 |b::l=>(if b=true then 1 else 0)+2*enc l
theorem Ru:∀l:List Bool,enc l<2^l.length
 |[]=>by decide
 |b::l=>by
  have:=Ru l;show(if b=true then 1 else 0)+2*enc l<2^(l.length+1);rw[yfn];split<;>omega
theorem JF:∀{l l':List Bool},l.length=l'.length->enc l=enc l'->l=l'
 |[],[],_,_=>rfl
 |b::l,b'::l',h,e=>by
  have e':(if b=true then 1 else 0)+2*enc l=(if b'=true then 1 else 0)+2*enc l':=e;have hb:b=b':=by cases b<;>cases b'<;>simp at e'⊢<;>omega
  subst hb;rw[JF (l:=l) (l':=l') (by simpa using h) (by omega)]
theorem few:∀(K:Nat) (l:List Nat),l.Nodup->(∀x∈l,x<K)->l.length<=K
 |0,[],_,_=>aQ 0
 |0,x::_,_,h=>absurd (h x cC) (Xr x)
 |K+1,l,nd,h=>by
  have a:=few K (l.filter λx=>decide (x≠K)) (nd.filter _) λx hx=>by
   obtain⟨h1,h2⟩:=fD.mp hx;have:=h x h1;have:=fW h2;omega
  have b:l.length<=(l.filter λx=>decide (x≠K)).length+1:=by
   clear a h
   induction l with
   |nil=>exact dX _
   |cons y l ih=>
    have nd':=JZ.mp nd;rw[Ao];by_cases c:y=K
    ·subst c;rw[ao (by simp)];have:l.filter (λx=>decide (x≠y))=l:=yei.mpr λx hx=>bY λe=>nd'.1 (e▸hx);rw[this];exact aQ _
    ·rw[au (bY c)];have:=ih nd'.2;simp only[wB];omega
  omega
open Classical in
noncomputable def code(n m:Nat)(T:Tab):Nat:=enc ((ai (n+m)).map λa=>decide (inC n T a))
theorem Run.short(R:Run n m S w T p q L):L<2^(n+m):=by
 have inj:∀i j,i<=L->j<=L->code n m (T i)=code n m (T j)->i=j:=by
  have one:∀i j,i<j->j<=L->code n m (T i)≠code n m (T j):=λi j hij hj e=>by
   have l:=JF (by simp) e;refine R.KZ hij hj λa=>?_;by_cases ha:a<n+m
   ·have:=gR (λl:List Bool=>l[a]?) l;simp only[cV,ydr ha,wcq,wdd,decide_eq_decide]at this;exact this
   ·exact⟨λ⟨c,hc,e⟩=>absurd ((R.good i (by omega)).V4 c hc) (by omega),λ⟨c,hc,e⟩=>absurd ((R.good j hj).V4 c hc) (by omega)⟩
  intro i j hi hj e;rcases Nat.lt_trichotomy i j with h|h|h
  ·exact absurd e (one i j h hj)
  ·exact h
  ·exact absurd e.symm (one j i h hi)
 have nd:((ai (L+1)).map λt=>code n m (T t)).Nodup:=by
  refine J4.mpr (List.nodup_range.imp_of_mem λ{a b} ha hb hab e=>hab (inj a b ?_ ?_ e))
  ·have:=qC.mp ha;omega
  ·have:=qC.mp hb;omega
 have:=few (2^(n+m)) _ nd λx hx=>by
  obtain⟨t,_,rfl⟩:=dF.mp hx;have:=Ru ((ai (n+m)).map λa=> @decide (inC n (T t) a) (Classical.propDecidable _));rw[aF,yu]at this;exact this
 rw[aF,yu]at this;omega
end
section
variable{n m:Nat}{S:Nat->Nat->Bool}{w:Nat->Int}{T:Tab}
theorem nY(h:a<n):nv n S a j=if j=a+1 then 1 else 0:=au h
theorem yZ:nv n S (n+k) j=if j=0 then 1 else if S k (j-1)=true then -1 else 0:=by
 unfold nv;rw[ao (by omega),show n+k-n=k by omega]
theorem Ir{y:Nat->Int}(hj:j<=n):sm n (λc=>y c*nv n S c j)=if j=0 then 0 else y (j-1):=by
 by_cases h:j=0
 ·rw[au h];exact dO n λc hc=>by rw[nY hc,ao (by omega),Az]
 ·rw[ao h,eU (j:=j-1) n (by omega) λc hc hn=>by rw[nY hc,ao (by omega),Az],nY (by omega),au (by omega),wdw]
theorem FW(hj:j<=n):nv n S (n+k) j=1*one j-sm n (λc=>(if S k c=true then 1 else 0)*nv n S c j):=by
 rw[yZ,Ir hj];unfold one;by_cases h:j=0
 ·rw[au h,au h,au h];rfl
 ·rw[ao h,ao h,ao h];split<;>rfl
theorem M4(hj:j<=n):zv w j=0*one j-sm n (λc=> -(w c)*nv n S c j):=by
 rw[Ir hj];unfold zv;by_cases h:j=0
 ·rw[au h,au h];omega
 ·rw[ao h,ao h];omega
noncomputable def start(n m:Nat)(S:Nat->Nat->Bool)(w:Nat->Int):Tab where
 col:=λc=>c
 row:=λr=>n+r
 cell:=λr c=>if r=m then(if c=n then 0 else -(w c))else if c=n then 1 else if S r c=true then 1 else 0
 over:=1
 s:=1
theorem Er:Good n m S w (start n m S w):=by
 refine⟨Int.one_pos,λr hr j hj=>?_,.inl rfl,?_,λc c' _ _ e=>e,λr r' _ _ e=>by have:n+r=n+r':=e;omega,λc r hc _ e=>by have:c=n+r:=e;omega,λc hc=>by show c<n+m;omega,λr hr=>by show n+r<n+m;omega,λa ha=>?_,λr hr=>?_⟩
 ·show 1*rv n m S w (start n m S w) r j=(start n m S w).cell r n*one j-sm n (λc=>(start n m S w).cell r c*nv n S c j);by_cases h:r<m
  ·rw[fM h];show 1*nv n S (n+r) j=_;rw[JX,FW hj];have e1:(start n m S w).cell r n=1:=by show(if r=m then _ else if n=n then(1:Int)else _)=1;rw[ao (by omega),au rfl]
   rw[e1,bA n λc hc=>?_];show _=(if r=m then _ else if c=n then(1:Int)else if S r c=true then 1 else 0)*_;rw[ao (show¬r=m by omega),ao (show¬c=n by omega)]
  ·have e:r=m:=by omega
   subst e;rw[iy,JX,M4 (n:=n) (S:=S) hj];have e1:(start n r S w).cell r n=0:=by show(if r=r then(if n=n then(0:Int)else _)else _)=0;rw[au rfl,au rfl]
   rw[e1,bA n λc hc=>?_];show _=(if r=r then(if c=n then(0:Int)else -(w c))else _)*_;rw[au rfl,ao (show¬c=n by omega)]
 ·show(1:Int)=1*det (n+1) _;rw[Dk (n+1) _ λi hi j hj=>?_]; · rfl
  by_cases h:i=0
  ·subst h;rw[Ds];unfold one;by_cases e:j=0
   ·rw[au e,au e.symm]
   ·rw[ao e,ao (mQ e)]
  ·obtain⟨c,rfl⟩:∃c,i=c+1:=⟨i-1,by omega⟩;rw[JH];show nv n S c j=_;rw[nY (by omega)];by_cases e:j=c+1
   ·rw[au e,au e.symm]
   ·rw[ao e,ao (mQ e)]
 ·by_cases h:a<n
  ·exact .inl ⟨a,h,rfl⟩
  ·exact .inr ⟨a-n,by omega,by show n+(a-n)=a;omega⟩
 ·show 0<=(if r=m then _ else if n=n then(1:Int)else _);rw[ao (by omega),au rfl];decide
theorem Good.bounded(G:Good n m S w T)(cov:∀p,p<n->∃k,k<m/\S k p=true)(hq:q<n):∃r,r<m/\0<T.cell r q:=by
 refine WD λno=>?_;have no':∀r,r<m->T.cell r q<=0:=λr hr=>Int.not_lt.mp λh=>no ⟨r,hr,h⟩;have hq':q+1<=n:=hq;have nn:∀a,a<n+m->0<=Fn n S T (q+1) (nv n S a):=λa ha=>by
  rcases G.all a ha with⟨c,hc,e⟩|⟨r,hr,e⟩
  ·rw[<-e,Ax G.dt hq' hc];split
   ·exact Ek G.pos
   ·exact tK 0
  ·have:=G.dir (dN hr) hq;rw[fM hr,e]at this;rw[this];have:=no' r hr;omega
 have set:∀k,Fn n S T (q+1) (nv n S (n+k))= -sm n (λp=>(if S k p=true then 1 else 0)*Fn n S T (q+1) (nv n S p)):=λk=>by
  rw[M6 λj hj=>FW hj,jH hq' _ _ (λc=>if S k c=true then 1 else 0) (λc=>nv n S c),lE G.dt hq',ao (Ba q)];omega
 have low:∀p,p<n->Fn n S T (q+1) (nv n S p)=0:=λp hp=>by
  obtain⟨k,hk,hs⟩:=cov p hp;have a:=nn (n+k) (by omega);rw[set k]at a;have:=Iv n (f:=λp=>(if S k p=true then 1 else 0)*Fn n S T (q+1) (nv n S p)) (λi hi=>?_) (by omega) p hp
  ·rw[au hs,JX]at this;exact this
  ·have:=nn i (by omega);split<;>omega
 have z:Fn n S T (q+1) (nv n S (T.col q))=0:=by
  have hc:=G.V4 q hq;by_cases h:T.col q<n
  ·exact low _ h
  ·have e:T.col q=n+(T.col q-n):=by omega
   rw[e,set,dO n λp hp=>by rw[low p hp,Az]];rfl
 rw[Ax G.dt hq' hq,au rfl]at z;have:=G.pos;omega
theorem Qo(a j): -1<=nv n S a j/\nv n S a j<=1:=by
 unfold nv;split
 ·split<;>decide
 ·split
  ·decide
  ·split<;>decide
theorem JK(i j): -1<=wQ n S T i j/\wQ n S T i j<=1:=by
 unfold wQ;split
 ·unfold one;split<;>decide
 ·exact Qo _ _
theorem Hr(G:Good n m S w T)(hB:1<=B)(h:∀j,j<=n-> -B<=v j/\v j<=B): -(fct (n+1)*B)<=Fn n S T c v/\Fn n S T c v<=fct (n+1)*B:=by
 have d:=zR (n+1) (put (wQ n S T) c v) c B hB (λi _ j _ hn=>by rw[iU _ _ hn];exact JK i j) (λj hj _=>by rw[put_same];exact h j (by omega));unfold Fn;rcases G.sg with s|s
 ·rw[s,JX];exact d
 ·rw[s];omega
theorem Good.Ur(G:Good n m S w T):T.over<=fct (n+1):=by
 have d:=Hr G (c:=0) (v:=wQ n S T 0) (B:=1) (by decide) λj _=>JK 0 j;rw[R9 G.dt (dX n) (dX n),au rfl]at d;omega
theorem Good.RG(G:Good n m S w T)(hw:∀p,p<n->0<=w p/\w p<=99)(hr:r<=m)(hc:c<=n): -(fct (n+1)*99)<=T.cell r c/\T.cell r c<=fct (n+1)*99:=by
 have hv:∀j,j<=n-> -99<=rv n m S w T r j/\rv n m S w T r j<=99:=λj hj=>by
  unfold rv;split
  ·have:=Qo (n:=n) (S:=S) (T.row r) j;omega
  ·unfold zv;split
   ·decide
   ·have:=hw (j-1) (by omega);omega
 by_cases h:c=n
 ·subst h;have d:=Hr G (c:=0) (B:=99) (by decide) hv;rw[G.base hr]at d;exact d
 ·have d:=Hr G (c:=c+1) (B:=99) (by decide) hv;rw[G.dir hr (by omega)]at d;omega
theorem Rr:∀{k:Nat},k<=11->fct k<=39916800
 |0,_|1,_|2,_|3,_|4,_|5,_|6,_|7,_|8,_|9,_|10,_|11,_=>by decide
noncomputable def Ys(n m:Nat)(T:Tab)(a:Nat):Int:=sm n λc=>if T.col c=a then T.cell m c else 0
noncomputable def Xs(n m:Nat)(T:Tab)(a:Nat):Int:=sm m λr=>if T.row r=a then T.cell r n else 0
theorem Good.aae(G:Good n m S w T)(hc:c<n):Ys n m T (T.col c)=T.cell m c:=by
 unfold Ys;rw[eU (j:=c) n hc λi hi hn=>ao λe=>hn (G.GJ i c hi hc e),au rfl]
theorem aad(h:∀c,c<n->T.col c≠a):Ys n m T a=0:=dO n λc hc=>ao (h c hc)
theorem Good.Ws(G:Good n m S w T)(hr:r<m):Xs n m T (T.row r)=T.cell r n:=by
 unfold Xs;rw[eU (j:=r) m hr λi hi hn=>ao λe=>hn (G.Pr i r hi hr e),au rfl]
theorem Wn(h:∀r,r<m->T.row r≠a):Xs n m T a=0:=dO m λr hr=>ao (h r hr)
theorem Good.Ng(G:Good n m S w T)(ha:a<n+m):Fn n S T 0 (nv n S a)=Xs n m T a:=by
 rcases G.all a ha with⟨c,hc,e⟩|⟨r,hr,e⟩
 ·rw[<-e,Ax G.dt (dX n) hc,ao (Ba c),Wn λr hr z=>G.dis c r hc hr z.symm]
 ·rw[<-e,G.Ws hr];have:=G.base (dN hr);rw[fM hr]at this;exact this
theorem Good.Wq(G:Good n m S w T)(a):0<=Xs n m T a:=Iw m λr hr=>by
 have:=G.fea r hr;split
 ·exact this
 ·exact tK 0
theorem Wb(h:∀c,c<n->0<=T.cell m c)(a):0<=Ys n m T a:=Iw n λc hc=>by
 have:=h c hc;split
 ·exact this
 ·exact tK 0
theorem Bk(f:Nat->Int)(a):∀b,sm (a+b) f=sm a f+sm b λk=>f (a+k)
 |0=>by show sm a f=sm a f+0;omega
 |b+1=>by
  show sm (a+b) f+f (a+b)=_;rw[Bk f a b];show _=sm a f+(sm b (λk=>f (a+k))+f (a+b));omega
theorem Good.aap(G:Good n m S w T)(g:Nat->Int):sm n (λc=>T.cell m c*g (T.col c))=sm n (λa=>Ys n m T a*g a)+sm m (λk=>Ys n m T (n+k)*g (n+k)):=by
 rw[<-Bk (λa=>Ys n m T a*g a)];have e:∀a,Ys n m T a*g a=sm n λc=>(if T.col c=a then T.cell m c else 0)*g a:=λa=>by
  unfold Ys;rw[M9,<-eV];exact bA n λc _=>M9 _ _
 rw[bA (n+m) λa _=>e a,Iu (λa c=>(if T.col c=a then T.cell m c else 0)*g a)];refine bA n λc hc=>?_;rw[eU (j:=T.col c) (n+m) (G.V4 c hc) λa _ hn=>by rw[ao (mQ hn),M8],au rfl]
theorem Good.total(G:Good n m S w T):sm m (λk=>Ys n m T (n+k))=T.cell m n:=by
 have e:=G.eq m (aQ m) 0 (dX n);rw[iy,G.aap (λa=>nv n S a 0),dO n λa ha=>by rw[nY ha,ao (by omega),Az]]at e;have z:zv w 0=0:=rfl;have o:one 0=1:=rfl;rw[z,o,bA m λk _=>show Ys n m T (n+k)*nv n S (n+k) 0=Ys n m T (n+k) by rw[yZ,au rfl,wdw]]at e;omega
theorem Good.enough(G:Good n m S w T)(hp:p<n):sm m (λk=>if S k p=true then Ys n m T (n+k)else 0)=T.over*w p+Ys n m T p:=by
 have e:=G.eq m (aQ m) (p+1) hp;rw[iy,G.aap (λa=>nv n S a (p+1)),eU (j:=p) n hp λa ha hn=>by rw[nY ha,ao (by omega),Az],nY hp,au rfl]at e;have z:zv w (p+1)=w p:=by unfold zv;rw[ao (Ba p)];rfl
 have o:one (p+1)=0:=ao (Ba p);rw[z,o,bA m λk _=>show Ys n m T (n+k)*nv n S (n+k) (p+1)=-1*(if S k p=true then Ys n m T (n+k)else 0) by
  rw[yZ,ao (Ba p),ng];split<;>omega,eV]at e
 omega
theorem Good.light(G:Good n m S w T)(hk:k<m):sm n (λp=>if S k p=true then Xs n m T p else 0)<=T.over:=by
 have h:Fn n S T 0 (nv n S (n+k))=1*Fn n S T 0 one-sm n (λp=>(if S k p=true then 1 else 0)*Fn n S T 0 (nv n S p)):=by
  rw[M6 λj hj=>FW hj,jH (dX n) _ _ (λc=>if S k c=true then 1 else 0) (λc=>nv n S c)]
 rw[lE G.dt (dX n),au rfl,G.Ng (by omega),bA n λp hp=>show(if S k p=true then(1:Int)else 0)*Fn n S T 0 (nv n S p)=if S k p=true then Xs n m T p else 0 by
  rw[G.Ng (by omega)];split<;>omega]at h
 have:=G.Wq (n+k);omega
theorem Good.prices(G:Good n m S w T):sm n (λp=>w p*Xs n m T p)=T.cell m n:=by
 have h:=G.base (aQ m);rw[iy,M6 λj hj=>M4 (n:=n) (S:=S) hj,jH (dX n) _ _ (λc=> -(w c)) (λc=>nv n S c),bA n λp hp=>show -(w p)*Fn n S T 0 (nv n S p)=-1*(w p*Xs n m T p) by rw[G.Ng (by omega)];grind,eV]at h;omega
end
end Sx
namespace Hs
open PySem L2 oF
noncomputable def top(i:Nat):Stmt:=PySem.Challenge.pw_hueshare_k46_whole_shares_go_with_ways.main.body.getD i (.Pass ⟨0,0,0,0⟩)
noncomputable abbrev ZX:Stmt:=top 7
noncomputable abbrev jA:Stmt:=top 8
noncomputable abbrev fZ:Stmt:=top 9
noncomputable abbrev Z0:Stmt:=top 10
noncomputable abbrev pC:Stmt:=top 11
noncomputable abbrev nR:Stmt:=top 12
noncomputable abbrev uM:Stmt:=top 13
noncomputable abbrev SJ:Stmt:=top 14
noncomputable abbrev jx:Stmt:=top 15
noncomputable abbrev nT:Stmt:=top 16
noncomputable abbrev iZ:Stmt:=top 17
noncomputable abbrev gq:Stmt:=top 18
noncomputable abbrev jw:Stmt:=top 19
noncomputable abbrev zbf:Stmt:=top 22
noncomputable abbrev jd:Stmt:=top 23
noncomputable abbrev je:Stmt:=top 24
noncomputable abbrev iR:Stmt:=top 25
noncomputable abbrev jc:Stmt:=top 26
noncomputable abbrev zbw:Stmt:=top 28
noncomputable abbrev zcg:Stmt:=top 29
noncomputable abbrev iT:Stmt:=inClass (top 30) 0
noncomputable abbrev zcd:Stmt:=inClass (top 30) 1
noncomputable abbrev zaw:Stmt:=inClass (top 30) 2
noncomputable abbrev Xm:Stmt:=inClass (top 30) 3
noncomputable abbrev Wa:Stmt:=inClass (top 30) 4
noncomputable abbrev nO:Stmt:=top 31
noncomputable abbrev pA:Stmt:=top 32
noncomputable abbrev pq:Stmt:=top 33
noncomputable abbrev zdd:Stmt:=top 35
noncomputable abbrev zdf:Stmt:=top 36
noncomputable abbrev fJ:Stmt:=top 37
noncomputable abbrev zdc:Stmt:=top 38
noncomputable abbrev Tv:Stmt:=top 39
noncomputable abbrev zcj:Stmt:=top 40
noncomputable abbrev uN:Stmt:=top 41
noncomputable abbrev fK:Stmt:=top 43
noncomputable abbrev zdj:Stmt:=top 44
noncomputable abbrev qM:Stmt:=top 45
noncomputable abbrev j9:Stmt:=top 46
noncomputable abbrev jB:Stmt:=top 47
noncomputable abbrev gF:Stmt:=inClass (top 50) 0
noncomputable abbrev zbx:Stmt:=inClass (top 50) 1
noncomputable abbrev zcc:Stmt:=inClass (top 50) 2
noncomputable abbrev zcp:Stmt:=inClass (top 50) 3
noncomputable abbrev zde:Stmt:=inClass (top 50) 4
noncomputable abbrev gD:Stmt:=inClass (top 50) 5
noncomputable abbrev fL:Stmt:=inClass (top 50) 6
noncomputable abbrev zav:Stmt:=inClass (top 50) 7
noncomputable abbrev zco:Stmt:=inClass (top 50) 8
noncomputable abbrev zcn:Stmt:=inClass (top 50) 9
noncomputable abbrev fY:Stmt:=top 51
noncomputable abbrev j6:Stmt:=top 52
noncomputable abbrev tV:Stmt:=top 53
noncomputable abbrev nQ:Stmt:=top 54
noncomputable abbrev j7:Stmt:=top 55
noncomputable abbrev Fo:Stmt:=top 56
noncomputable abbrev j8:Stmt:=top 57
noncomputable abbrev jz:Stmt:=top 59
noncomputable abbrev zdl:Stmt:=top 60
noncomputable abbrev gC:Stmt:=top 61
noncomputable abbrev jy:Stmt:=top 62
noncomputable abbrev zdk:Stmt:=top 63
noncomputable abbrev zdb:Stmt:=top 64
noncomputable abbrev zcb:Stmt:=top 65
noncomputable abbrev rT:Stmt:=top 66
end Hs
namespace NK
open PySem PySem.W
mutual
def hsh:υ->Int
 | .int i=>hashInt i
 | .tuple xs=>reduceHash (bE (sV xs))
 |_=>0
def sV:θ->ζ
 |[]=>[]
 |d::ds=>hsh d::sV ds
end
mutual
def ZJ:υ->Nat
 | .int _=>1
 | .tuple xs=>zP xs+1
 |_=>0
def zP:θ->Nat
 |[]=>0
 |d::ds=>ZJ d+zP ds
end
mutual
def BP:υ->Bool
 | .int _=>true
 | .tuple xs=>gW xs
 |_=>false
def gW:θ->Bool
 |[]=>true
 |d::ds=>BP d&&gW ds
end
noncomputable def Hq(A:bp)(s:τ)(v:ρ)(d:υ):Prop:=∀(prog:χ) (w:ω) (E:L4) (t:Nat) (Q:Int->τ->Prop),
 Q (hsh d) {s with toks:=t+ZJ d}->ah (aw prog w) A (pyHash v) Q E {s with toks:=t}
inductive lW(A:bp)(s:τ):List ρ->θ->Prop
 |nil:lW A s [] []
 |cons {v vs d ds} (h:Hq A s v d) (t:lW A s vs ds):lW A s (v::vs) (d::ds)
theorem Q0(ho:s.heap.get? a=some o)(hc:o.cls=.type "tuple")(hd:o.data=.seq vs n)(hu:A.units<dm)(hi:lW A.in1 s vs.toList xs):Hq A s (.ref a) (.tuple xs):=by
 intro prog w E t Q h;have hT:({s with toks:=t}:τ).TypeIs (.ref a) "tuple":=⟨o,ho,hc⟩;unfold pyHash
 first |unfold pyHashByItsType|skip
 first |refine aD (wpAny_cRoomFor_or (.inr hu) ?_)|skip
 refine aD (wee hT F.slot_tuple_hash.lookup ?_);show ah _ _ (if(some (Value.builtin "tuple.__hash__")==some bd)=true then _ else _) Q E _;rw[ao (by rw[beq_builtin_none];exact nG)];refine aD (wee hT F.slot_tuple_hash.lookup ?_);show ah _ _ (callSpecialIfBoundUnlessNone? (.ref a) "__hash__" _>>=_) Q E _;refine aD (wpAny_callSpecialIfBoundUnlessNone?_slot hT F.slot_tuple_hash (Td F.slot_tuple_hash hT F.entry_tuple_hash ?_ (F.args_tuple_hash_1 _)));show ah _ _ (dQ (.ref a)>>=_) _ _ _;refine aD (wpAny_tupleItemsOf ho hd (aD ?_));rw[<-kR];refine wfi _ (λrest (b:Array Int) s'=>∃left k,lW A.in1 s rest left/\b.toList++sV left=sV xs/\k+zP left=zP xs/\s'={s with toks:=t+k}) _ ?_ ?_ _ _ ⟨xs,0,hi,rfl,wfw _,rfl⟩
 ·rintro x rest b s' ⟨left,k,hl,hb,hk,rfl⟩;cases hl with
  | @cons _ _ d ds h1 hl'=>
   refine aD (h1 prog w E (t+k) _ ?_);have e1:(b.push (hsh d)).toList++sV ds=sV xs:=by rw[<-hb,Array.toList_push,Xx];rfl
   have e2:k+ZJ d+zP ds=zP xs:=by rw[<-hk];show _=k+(ZJ d+zP ds);omega
   first
    |exact aW ⟨ds,k+ZJ d,hl',e1,e2,by rw[wfh]⟩
    |exact aD (aW (aW ⟨ds,k+ZJ d,hl',e1,e2,by rw[wfh]⟩))
 ·rintro b s' ⟨left,k,hl,hb,hk,rfl⟩;cases hl;have e1:b.toList=sV xs:=by rw[<-hb];exact(tL _).symm
  have e2:k=zP xs:=by rw[<-hk];rfl
  subst e2;show ah _ _ (retInt (bE b.toList)) _ _ _;rw[e1];apply wpAny_ret_mkInt;show ah _ _ (if(decide (-(2:Int)^63<=bE (sV xs))&&decide (bE (sV xs)<2^63))=true then _ else _) Q E _;have h':Q (reduceHash (bE (sV xs))) {s with toks:=t+(zP xs+1)}:=h;unfold reduceHash at h';by_cases c:(decide (-(2:Int)^63<=bE (sV xs))&&decide (bE (sV xs)<2^63))=true
  ·rw[au c];rw[au c]at h';exact aW (by simpa[wfh]using h')
  ·rw[ao c];rw[ao c]at h';exact aD (Ww (aW (by simpa[wfh]using h')))
mutual
theorem vK:∀(d:υ) (A:bp) (s:τ) (v:ρ) (as:η),dE s.heap v d as->BP d=true->A.units+d.depth<dm->Hq A s v d
 | .int i,A,s,_,_,r,_,hu=>by
  cases r;intro prog w E t Q h;exact wpAny_pyHash_int h
 | .tuple xs,A,s,_,_,r,hn,hu=>by
  have hu':A.units+(bj xs+1)<cLine:=hu;cases r with
  |tuple h1 h2 h3 h4=>exact Q0 h1 h2 h3 (by omega) (mY xs A.in1 s _ _ h4 hn (by show A.units+1+_<_;omega))
 | .none,_,_,_,_,_,hn,_=>by cases hn
 | .bool _,_,_,_,_,_,hn,_=>by cases hn
 | .str _,_,_,_,_,_,hn,_=>by cases hn
 | .list _,_,_,_,_,_,hn,_=>by cases hn
 | .dict _,_,_,_,_,_,hn,_=>by cases hn
theorem mY:∀(ds:θ) (A:bp) (s:τ) (vs:List ρ) (as:η),dJ s.heap vs ds as->gW ds=true->A.units+bj ds<dm->lW A s vs ds
 |[],_,_,_,_,r,_,_=>by cases r;exact .nil
 |d::ds,A,s,_,_,r,hn,hu=>by
  have hu':A.units+max d.depth (bj ds)<cLine:=hu;have hn':(BP d&&gW ds)=true:=hn;rw[fH]at hn';cases r with
  |cons h1 h2=>exact .cons (vK d A s _ _ h1 hn'.1 (by omega)) (mY ds A s _ _ h2 hn'.2 (by omega))
end
noncomputable def qd(A:bp)(s:τ)(m:Nat)(v:ρ):Prop:=∀(prog:χ) (w:ω) (E:L4) (Q:Bool->τ->Prop),Q true s->ah (aw prog w) A (eqIsQuiet m v) Q E s
theorem Kq(ho:s.heap.get? a=some o)(hc:o.cls=.type "tuple")(hd:o.data=.seq vs n)(hi:∀v∈vs.toList,qd A s m v):qd A s (m+1) (.ref a):=by
 intro prog w E Q h;have hT:s.TypeIs (.ref a) "tuple":=⟨o,ho,hc⟩;unfold eqIsQuiet;refine aD (wee hT F.slot_tuple_eq.lookup ?_);show ah _ _ (isInstance (.ref a) (.type "tuple")>>=_) _ _ s;refine aD (wpAny_isInstance hT isSubtype_tuple_tuple ?_);simp only[Bool.not_true,Wz,J7];refine aD (TY ho hd (aD ?_));show ah _ _ (forIn vs _ _) _ _ s;rw[<-kR];refine wfi _ (λrest r s'=>r.1=none/\s'=s/\∀v∈rest,qd A s m v) _ ?_ ?_ _ _ ⟨rfl,rfl,hi⟩
 ·rintro v rest r s' ⟨hr,rfl,hall⟩;refine aD (hall v cC prog w E _ ?_);simp only[Bool.not_true,Wz,J7];exact aW ⟨rfl,rfl,λu hu'=>hall u (cY _ hu')⟩
 ·rintro⟨r1,r2⟩ s' ⟨hr,rfl,_⟩;simp only at hr;subst hr;exact aW h
mutual
theorem rZ:∀(d:υ) (A:bp) (s:τ) (v:ρ) (as:η) (m:Nat),dE s.heap v d as->BP d=true->d.depth<=m->qd A s m v
 | .int i,A,s,_,_,m,r,_,_=>by
  cases r;intro prog w E Q h;rw[eqIsQuiet_byValue m (v:=.int i _) rfl];exact aW h
 | .tuple xs,A,s,_,_,m,r,hn,hm=>by
  have hm':bj xs+1<=m:=hm;obtain⟨k,rfl⟩:∃k,m=k+1:=⟨m-1,by omega⟩;cases r with
  |tuple h1 h2 h3 h4=>exact Kq h1 h2 h3 (kh xs A s _ _ k h4 hn (by omega))
 | .none,_,_,_,_,_,_,hn,_=>by cases hn
 | .bool _,_,_,_,_,_,_,hn,_=>by cases hn
 | .str _,_,_,_,_,_,_,hn,_=>by cases hn
 | .list _,_,_,_,_,_,_,hn,_=>by cases hn
 | .dict _,_,_,_,_,_,_,hn,_=>by cases hn
theorem kh:∀(ds:θ) (A:bp) (s:τ) (vs:List ρ) (as:η) (m:Nat),dJ s.heap vs ds as->gW ds=true->bj ds<=m->∀v∈vs,qd A s m v
 |[],_,_,_,_,_,r,_,_=>by cases r;exactλv hv=>(nomatch hv)
 |d::ds,A,s,_,_,m,r,hn,hm=>by
  have hm':max d.depth (bj ds)<=m:=hm;have hn':(BP d&&gW ds)=true:=hn;rw[fH]at hn';cases r with
  |cons h1 h2=>
   intro v hv;rcases cX.mp hv with rfl|hv
   ·exact rZ d A s _ _ m h1 hn'.1 (by omega)
   ·exact kh ds A s _ _ m h2 hn'.2 (by omega) v hv
end
noncomputable abbrev SK:=List (Int×ζ)
noncomputable def xJ(p:Int×ζ):υ:=.tuple [.int p.1,.tuple (p.2.map am)]
noncomputable def toD(k:SK):υ:=.tuple (k.map xJ)
theorem Cp:∀l:ζ,gW (l.map am)=true
 |[]=>rfl
 |x::l=>by show(true&&gW (l.map am))=true;rw[Cp l];rfl
theorem Cu:∀l:ζ,bj (l.map am)=0
 |[]=>rfl
 |x::l=>by show max 0 (bj (l.map am))=0;rw[Cu l];rfl
theorem Cq:∀l:ζ,aE (l.map am)=true
 |[]=>rfl
 |x::l=>by show(eJ (.int x)&&aE (l.map am))=true;rw[Cq l];rfl
theorem Cr:∀l m:ζ,aS (l.map am) (m.map am)=decide (l=m)
 |[],[]=>by simp[aS]
 |[],y::m=>by simp[aS]
 |x::l,[]=>by simp[aS]
 |x::l,y::m=>by
  show(ar (.int x) (.int y)&&aS (l.map am) (m.map am))=_;rw[Cr l m];have e:ar (.int x) (.int y)=decide (x=y):=by
   show(x==y)=_;rw[sS];simp
  rw[e,sS];simp
theorem Yl(p q):ar (xJ p) (xJ q)=decide (p=q):=by
 show(ar (.int p.1) (.int q.1)&&(aS (p.2.map am) (q.2.map am)&&aS [] []))=_;rw[Cr];have e:ar (.int p.1) (.int q.1)=decide (p.1=q.1):=by
  show(p.1==q.1)=_;rw[sS];simp
 have e2:aS [] []=true:=by simp[aS]
 rw[e,e2,Bool.and_true,sS,fH,was,was,was];exact⟨λh=>Wv h.1 h.2,λh=>by rw[h];exact⟨rfl,rfl⟩⟩
theorem tX:∀k:SK,gW (k.map xJ)=true/\bj (k.map xJ)<=2/\aE (k.map xJ)=true
 |[]=>⟨rfl,dX _,rfl⟩
 |p::k=>by
  obtain⟨a,b,c⟩:=tX k;refine⟨?_,?_,?_⟩
  ·show((true&&(gW (p.2.map am)&&true))&&gW (k.map xJ))=true;rw[Cp,a];rfl
  ·show max (max 0 (max (bj (p.2.map am)+1) 0)+1) (bj (k.map xJ))<=2;rw[Cu];omega
  ·show(eJ (xJ p)&&aE (k.map xJ))=true;have:eJ (xJ p)=true:=by
    show(eJ (.int p.1)&&(aE (p.2.map am)&&aE []))=true;rw[Cq];rfl
   rw[this,c];rfl
theorem Jb:∀j k:SK,aS (j.map xJ) (k.map xJ)=decide (j=k)
 |[],[]=>by simp[aS]
 |[],y::m=>by simp[aS]
 |x::l,[]=>by simp[aS]
 |x::l,y::m=>by
  show(ar (xJ x) (xJ y)&&aS (l.map xJ) (m.map xJ))=_;rw[Jb l m,Yl,sS];simp
theorem toD_nst(k):BP (toD k)=true:=(tX k).1
theorem toD_dep(k):(toD k).depth<=3:=by
 show bj (k.map xJ)+1<=3;have:=(tX k).2.1;omega
theorem toD_lay(k):(toD k).canLay0=true:=(tX k).2.2
theorem toD_eqv(j k):ar (toD j) (toD k)=decide (j=k):=Jb j k
theorem toD_inj(h:toD j=toD k):j=k:=by
 have e:=toD_eqv j k;have e2:=toD_eqv j j;rw[bY rfl]at e2;rw[<-h,e2]at e;exact fW e.symm
theorem xH(r:dE h v d as)(hn:BP d=true):as=[]:=
 Reads.rec (motive_1:=λ_ d as _=>BP d=true->as=[]) (motive_2:=λ_ ds as _=>gW ds=true->as=[])
  (λ_=>rfl) (λ_ _=>rfl) (λ_ _ _=>rfl) (λ_ _ _=>rfl) (λ_ _ _ _ _ hn=>by cases hn) (λ_ _ _ _ ih hn=>ih hn) (λ_ _ _ _ _ _ _ hn=>by cases hn) (λ_=>rfl)
  (λ_ _ i1 i2 hn=>by
   have hn':(BP _&&gW _)=true:=hn;rw[fH]at hn';rw[i1 hn'.1,i2 hn'.2];rfl) r hn
theorem Fq(ho:h.get? dd=some o)(hd:o.data=.dict es ep)(hs:cz dd h h')(r:dE h v d as)(hn:BP d=true):dE h' v d as:=
 Reads.rec (motive_1:=λv d as _=>BP d=true->dE h' v d as) (motive_2:=λvs ds as _=>gW ds=true->dJ h' vs ds as)
  (λ_=>.none) (λb _=>.bool b) (λi t _=>.int i t) (λx t _=>.str x t) (λ_ _ _ _ _ hn=>by cases hn)
  (λ{a o' vs n xs as} h1 h2 h3 _ ih hn=>by
   have ne:a≠dd:=λz=>by
    rw[z]at h1;have e:=ux (h1.symm.trans ho);rw[e,hd]at h3;cases h3
   exact .tuple ((hs.2 a ne).trans h1) h2 h3 (ih hn)) (λ_ _ _ _ _ _ _ hn=>by cases hn) (λ_=>.nil)
  (λ_ _ i1 i2 hn=>by
   have hn':(BP _&&gW _)=true:=hn;rw[fH]at hn';exact .cons (i1 hn'.1) (i2 hn'.2)) r hn
noncomputable def yD(prog:χ)(w:ω):HeapKind prog w SK where
 is:=λh k a=>dE h (.ref a) (toD k) []
 hash:=λk=>hsh (toD k)
 draws:=λk=>ZJ (toD k)
 room:=λA=>A.units+3<dm
 inj:=λhx hy=>toD_inj (wek hx _ _ hy).1
 keeps:=λ{h h' k a d o es ep} x ho hd hs=>Fq ho hd hs x (toD_nst k)
 pyHash:=λ{A E s k a Q} hu hk h=>vK (toD k) A s (.ref a) [] hk (toD_nst k) (by have:=toD_dep k;omega) prog w E s.toks Q h
 eqBool:=λ{A E s x y a b Q} hu hx hy h=>by
  have e:=toD_eqv x y;have:=toD_dep x;exact wfk (toD x) (toD y) A s (.ref a) (.ref b) [] [] hx hy (toD_lay x) (toD_lay y) (by omega) prog w E Q (by rw[e];exact h)
 quiet:=λ{A E s k a Q} hk h=>rZ (toD k) A s (.ref a) [] 8 hk (toD_nst k) (by have:=toD_dep k;omega) prog w E Q h
end NK
namespace L2
open PySem PySem.Spec PyProof.Rows
noncomputable def DNp(a:af)(xs:List (NK.SK×af))(h:bv):Prop:=(a==bz)=false/\xs.length<=sizeLine/\
 ∃o es ep,h.get? a=some o/\o.ExactDict/\o.data=.dict es ep/\es.toList=xs.map (λx=>(⟨NK.hsh (NK.toD x.1),.ref x.2,.bool true⟩:gr))/\(xs.map (·.1)).Nodup
noncomputable def ZW(a:af)(xs:List (NK.SK×af)):HO:=.ext (DNp a xs)
noncomputable def DN(K:ag)(H:Hp)(a:af)(ks:List NK.SK):Prop:=∃xs,H a=some (ZW a xs)/\xs.map (·.1)=ks/\∀x∈xs,DV K H (.ref x.2) (NK.toD x.1)
theorem Rw:∀h1 h2:bv,DNp a xs h1->(∀o,h1.get? a=some o->h2.get? a=some o)->DNp a xs h2:=λh1 h2 ⟨x,y,o,es,ep,ho,r⟩ k=>⟨x,y,o,es,ep,k o ho,r⟩
theorem Xf(p:DNp a xs h):ObjOk P w H h a (ZW a xs):=by
 refine⟨p,?_,Rw⟩;obtain⟨_,_,o,_,_,ho,_⟩:=p;exact⟨o,ho⟩
theorem lO{K:ag}{φ:bv->Prop}(ha:H a=some (.ext φ))(e:∀c o,c≠a->H c=some o->H' c=some o)(h:SqT K H b xs):SqT K H' b xs:=by
 rcases h with(q|⟨o,q⟩)|q
 ·exact .inl (.inl (e _ _ (λz=>by rw[z,ha]at q;cases q) q))
 ·exact .inl (.inr ⟨o,e _ _ (λz=>by rw[z,ha]at q;cases q) q⟩)
 ·exact .inr q
theorem zO{K:ag}{φ:bv->Prop}(ha:H a=some (.ext φ))(e:∀c o,c≠a->H c=some o->H' c=some o)(h:DV K H x d)(hn:NK.BP d=true):DV K H' x d:=
 DV.rec (motive_1:=λx d _=>NK.BP d=true->DV K H' x d) (motive_2:=λxs ds _=>NK.gW ds=true->cF K H' xs ds)
  (λ_=>.non) (λb _=>.bl b) (λi _=>.int i) (λx _=>.str x) (λh _ t hn=>.tup (lO ha e h) (t hn)) (λ_ _ _ hn=>by cases hn) (λ_ hn=>by cases hn) (λ_ _ hn=>by cases hn) (λ_=>.nil)
  (λ_ _ i1 i2 hn=>by
   have hn':(NK.BP _&&NK.gW _)=true:=hn;rw[fH]at hn';exact .cons (i1 hn'.1) (i2 hn'.2)) h hn
theorem DN.same{K:ag}(h:DN K H a ks)(e:Same H H'):DN K H' a ks:=by
 obtain⟨xs,h1,h2,h3⟩:=h;exact⟨xs,e _ _ h1,h2,λx hx=>(h3 x hx).same e⟩
section
variable{X:Cx}{aa:L3}{σ:St}{H:Hp}{s:τ}
theorem Xg(I:Inv X aa σ H s)(h:H a=some (ZW a xs))(hk:∀x∈xs,DV X.K H (.ref x.2) (NK.toD x.1)):
  (a==bz)=false/\xs.length<=sizeLine/\s.heap.DictOfH (NK.yD X.prog X.w) a (xs.map λx=>(x.1,x.2,dA true)):=by
 obtain⟨⟨hd,hz,o,es,ep,ho,hx,hda,he,nd⟩,_⟩:=(show ObjOk X.prog X.w H s.heap a (ZW a xs)from I.hok a _ h);refine⟨hd,hz,o,es,ep,ho,hx,hda,?_,λy hy=>?_,?_⟩
 ·rw[he,oN];rfl
 ·obtain⟨x,hx',rfl⟩:=dF.mp hy;obtain⟨as,r⟩:=DV.reads I (hk x hx') (u:=.ref x.2) rfl;have:=NK.xH r (NK.toD_nst x.1);subst this;exact r
 ·rw[oN];exact nd
theorem Rx(I:Inv X aa σ H s)(h:DV X.K H (.ref b) (NK.toD k)):(NK.yD X.prog X.w).is s.heap k b:=by
 obtain⟨as,r⟩:=DV.reads I h (u:=.ref b) rfl;have:=NK.xH r (NK.toD_nst k);subst this;exact r
theorem Ry(k):∀xs:List (NK.SK×af),(fx (xs.map λx=>(x.1,x.2,dA true)) k).isSome=decide (k∈xs.map (·.1))
 |[]=>rfl
 |x::xs=>by
  have ih:=Ry k xs;unfold fx at ih⊢;rw[iQ,Xq];by_cases c:x.1=k
  ·subst c;simp
  ·have e1:decide (x.1=k)=false:=gj c;show(Option.map _ (match decide (x.1=k)with |true=>_|false=>_)).isSome=_;rw[e1];show(Option.map _ (List.find? _ _)).isSome=_;rw[ih];refine decide_eq_decide.mpr ⟨λh=>cY _ h,λh=>?_⟩;rcases cX.mp h with z|z
   ·exact absurd z.symm c
   ·exact z
end
section
variable{X:Cx}{o i value:br}{pos pos':eR}{td ty tv:TE}
theorem Yp(hu:X.A.units+64<dm):OpR X (bt .In) (λx y H Q=>∃(a b:af) (ks:List NK.SK) (k:NK.SK),y=.ref a/\x=.ref b/\DN X.K H a ks/\DV X.K H (.ref b) (NK.toD k)/\Q (.bl (decide (k∈ks))) H):=by
 intro aa s σ H x y v u Q I rx ry h;obtain⟨a,b,ks,k,rfl,rfl,⟨xs,h1,h2,h3⟩,hk,q⟩:=h;cases ry;cases(show v=aC b from rx);obtain⟨hd,hz,dd⟩:=Xg I h1 h3;refine wpAny_in_heap (knd:=NK.yD X.prog X.w) (show X.A.units+1+3<dm by omega) (Rx I hk) hd dd ?_;rw[Ry,h2];exact⟨.bl _,H,I.tok _,rfl,q⟩
noncomputable def Yg(K:ag)(td ty tv:TE):TS:=λD σ H=>tv σ H λv H1=>td σ H1 λx H2=>ty σ H2 λy H3=>∃(a b:af) (ks:List NK.SK) (k:NK.SK),x=.ref a/\y=.ref b/\v=.bl true/\DN K H3 a ks/\DV K H3 (.ref b) (NK.toD k)/\k∉ks/\ks.length<sizeLine/\
 ∀H4,(∀c o,c≠a->H3 c=some o->H4 c=some o)->DN K H4 a (ks++[k])->D.nx σ H4
theorem PL(hu:X.A.units+64<dm)(ho:PE X o td)(hi:PE X i ty)(hv:PE X value tv)(hs:fe value (some (.Subscript o i pos')) pos.line X.env=pure false:=by rfl):
  PS X (.Assign [.Subscript o i pos'] value pos) (Yg X.K td ty tv):=by
 intro aa s σ H D I h;refine mP (thn (hv aa s σ H _ I h) λr s1 ⟨v,H1,I1,rv,q1⟩=>thn (ho aa s1 σ H1 _ I1 q1) λu s2 ⟨x,H2,I2,rx,q2⟩=>thn (hi aa s2 σ H2 _ I2 q2) λiv s3 ⟨y,H3,I3,ry,a,b,ks,k,ex,ey,ev,⟨xs,h1,h2,h3⟩,hk,nk,lk,q3⟩=>?_) hs;subst ex ey ev;obtain rfl:u=aC a:=rx;obtain rfl:iv=aC b:=ry;obtain rfl:r=dA true:=rv;obtain⟨hd,hz,dd⟩:=Xg I3 h1 h3;have none:fx (xs.map λx=>(x.1,x.2,dA true)) k=none:=by
  have:=Ry k xs;rw[h2,gj nk]at this;exact Option.not_isSome_iff_eq_none.mp (by rw[this];decide)
 have kk:=Rx I3 hk;refine wpAny_setItem_heap (knd:=NK.yD X.prog X.w) (hsz:=by rw[aF];exact hz) (show X.A.units+1+3<dm by omega) kk dd λh' dd' hb=>?_;rw[wgl none]at dd';obtain⟨o',es,ep,e1,e2,e3,e4,_,e5⟩:=dd';have hl:xs.length<sizeLine:=by rw[<-h2,aF]at lk;exact lk
 have p:DNp a (xs++[(k,b)]) h':=by
  refine⟨hd,by rw[oO];show xs.length+1<=_;omega,o',es,ep,e1,e2,e3,?_,?_⟩
  ·rw[e4,bC,bC,oN];rfl
  ·rw[bC,oN]at e5;rw[bC];exact e5
 have keep:∀c o,c≠a->H3 c=some o->(upd H3 a (ZW a (xs++[(k,b)]))) c=some o:=λc o n z=>by rw[cW n];exact z
 refine⟨σ,upd H3 a (ZW a (xs++[(k,b)])),d_write I3 (by rw[h1];exact dS) hb ⟨o',e1⟩ (Xf p),q3 _ keep ⟨xs++[(k,b)],aH,by rw[bC,h2];rfl,λx hx=>?_⟩⟩;rcases lM.mp hx with z|z
 ·exact zO h1 keep (h3 x z) (NK.toD_nst _)
 ·rw[fV.mp z];exact zO h1 keep hk (NK.toD_nst _)
theorem PN:PE X (.Dict [] [] pos) (λ_ H Q=>∀p H',Same H H'->H p=none->DN X.K H' p []->Q (.ref p) H'):=λaa s σ H Q I h=>by
 have hn:H s.heap.objs.size=none:=I.hok.fresh (aQ _);have p:DNp s.heap.objs.size [] (s.heap.push {cls:=.type "dict",data:=.dict #[]}):=
  ⟨beq_eq_false_iff_ne.mpr (mQ (gP I.big)),dX _,_,#[],0,lZ _ rfl,⟨rfl,rfl,rfl⟩,rfl,rfl,wgi⟩
 exact wpAny_Dict_empty ⟨.ref s.heap.objs.size,_,I.laid (a:=s.heap.objs.size) (o:=ZW s.heap.objs.size []) (t':=s.toks) (λ_ _ q=>fG _ q) (aQ _) (Xf p),rfl,
  h _ _ (λc o z=>by rw[cW (jr z hn)];exact z) hn ⟨[],aH,rfl,λx hx=>(nomatch hx)⟩⟩
end
section
variable{X:Cx}{σ:St}{H:Hp}{s:τ}{aa:L3}
variable{I S f l:af}{vs:List ρ}{RR:Result->τ->Prop}
theorem U9(kf:Nat->Int)(R:Nat->Hp->Prop)(hA:X.A.handled=none)(mI:jG X aa I)(mS:jG X aa S)(K5:S≠I)(U6:l≠I)(hl:∀j H s,Inv X aa σ H s->R j H->s.heap.IsTuple l vs.toArray)(turn:∀j v (ps:L3) H s,vs[j]? =some v->Inv X ps σ H s->R j H->ah (aw X.prog X.w) X.A.in1 (call (.ref f) [v]) (λu s'=>∃H' t,u=.int (kf j) t/\Inv X ps σ H' s'/\R (j+1) H') (λ_ _=>False) s)(hR:∀i v H' s',vs[i]? =some v->(∀j,j<vs.length->kf i<=kf j/\(j<i->kf i<kf j))->Inv X aa σ H' s'->R vs.length H'->RR (.ok (.ret v)) s'):
  ∀(r j i:Nat) (H:Hp) (s:τ) (vb:ρ) (tb:Tok) (c:Nat) (oI:kE),vs.length-(j+1)=r->j+1<=vs.length->Inv X ((I,oI)::(S,aI "list" #[vb,.int (kf i) tb] c)::aa) σ H s->R (j+1) H->s.heap.IsTupleIter I l (j+1)->vs[i]? =some vb->i<=j->(∀j',j'<=j->kf i<=kf j'/\(j'<i->kf i<kf j'))->
   eI (aw X.prog X.w) X.A (.builtin "min.loop" ⟨[.ref I,.ref f,.ref S],[]⟩) RR s:=by
 have nm:(toString "min"++toString ".loop":String)="min.loop":=by decide
 have W:=Walks.tuple (prog:=X.prog) (w:=X.w) (A:=X.A.in1) hA I l U6 vs.toArray;have zs:vs.toArray.size=vs.length:=gw ..;have m2:∀o,jG X ((S,o)::aa) I:=λo=>mI.under (p:=(S,o)) K5;have m3:∀o,jG X ((I,o)::aa) S:=λo=>mS.under (p:=(I,o)) K5.symm;intro r
 induction r with
 |zero=>
  intro j i H s vb tb c oI hr hj J Q6 hit hvb hij hbest;have pS:=(J.pin _ (ig _ (cY _ cC))).1;refine Tc wbl (by
   rw[T6 HY _];show ah _ X.A.in1 (seqItems? (.ref S)>>=_) _ _ _;refine aD (TY pS rfl (?_));show ah _ X.A.in1 (tryCatch (fz (.ref I)) _>>=_) _ _ _;refine aD (Mv (W.done _ _ _ ⟨by rw[zs,<-show j+1=vs.length by omega];exact hit,hl (j+1) H s J.iu.iu Q6⟩ λh' tk' hk'=>?_));have k1:∀b x,b≠I->s.heap.get? b=some x->h'.get? b=some x:=λb x hb e=>hk' b x (λz=>hb (fV.mp z)) e;have pI:=J.pin (I,oI) (ig _ cC);have J1:Inv X ((S,aI "list" #[vb,.int (kf i) tb] c)::aa) σ H {s with heap:=h',toks:=tk'}:=J.iu.turned (t':=tk') (it:=I) k1 pI.2.1 mI.loc (.inr mI.lo) mI.cl (m2 _).pn;have g:=(J1.pin _ (ig _ cC)).1;show ah _ X.A.in1 (lL S (λ_=>#[])>>=_) _ _ _;refine aD (wcg g rfl (aD (Wx (aW ?_))));have sb:=Ef h' S (ba λ_=>(#[]:Array ρ));have J2:=(J1.mW (o':=aI "list" #[] _) (tk:=tk') mS (λb x hb e=>(sb.2 b hb).trans e) (T3 g λ_=>#[]) (kJ _));exact hR i vb H _ hvb (λj' hj'=>hbest j' (by omega)) J2.iu (by rw[<-show j+1=vs.length by omega];exact Q6))
 |succ r ih=>
  intro j i H s vb tb c oI hr hj J Q6 hit hvb hij hbest;have hlt:j+1<vs.length:=by omega
  have pS:=(J.pin _ (ig _ (cY _ cC))).1;refine Tc wbl (by
   rw[T6 HY _];show ah _ X.A.in1 (seqItems? (.ref S)>>=_) _ _ _;refine aD (TY pS rfl (?_));show ah _ X.A.in1 (tryCatch (fz (.ref I)) _>>=_) _ _ _;refine aD (Mv (W.item (j+1) _ _ _ (by rw[zs];exact hlt) ⟨hit,hl (j+1) H s J.iu.iu Q6⟩ λv h' tk' hP hst' hk'=>?_));have hv:vs[j+1]? =some v:=(by simpa using hP);have k1:∀b x,b≠I->s.heap.get? b=some x->h'.get? b=some x:=λb x hb e=>hk' b x (λz=>hb (fV.mp z)) e;obtain⟨oI',hoI,hoc,hod⟩:=id hst'.1;have J1:=J.mW (o':=oI') (tk:=tk') (m2 _) k1 hoI (λv z=>by rw[hod]at z;cases z);show ah _ X.A.in1 (tryCatch (dL [v] (call (.ref f) [v])) _>>=_) _ _ _;refine aD (Mv (Aq (Bc (turn (j+1) v _ H _ hv J1 Q6) (λu s2 z=>?_) λ_ _ z=>z.elim)));obtain⟨H2,t2,rfl,J2,Vu⟩:=z;have hit2:s2.heap.IsTupleIter I l (j+1+1):=⟨oI',(J2.pin _ (ig _ cC)).1,hoc,hod⟩;have g:=(J2.pin _ (ig _ (cY _ cC))).1;show ah _ X.A.in1 (tryCatch (dL [v,.int (kf (j+1)) t2] (richCompare .Lt (.int (kf (j+1)) t2) (.int (kf i) tb)>>=_)) _>>=_) _ _ _;refine aD (Mv (Aq (aD (CmpOf.ints_lt (prog:=X.prog) (w:=X.w) (A:=X.A.in1) (P:=λi v=>∃t,v=.int (kf i) t) kf (λi v h=>h) (j+1) i _ _ _ _ _ ⟨t2,rfl⟩ ⟨tb,rfl⟩ (aD (Aq (Mw (aD (Wx (aW ?_))))))))));by_cases hb:kf (j+1)<kf i
   ·have sb:=Ef s2.heap S (ba λ_=>#[v,.int (kf (j+1)) t2]);simp only[hb,decide_true,S8];refine aD (wcg g rfl (aD (Wx ?_)));rw[nm];have J3:=(J2.swap.mW (o':=aI "list" #[v,.int (kf (j+1)) t2] _) (tk:=s2.toks) (m3 _) (λb x hb e=>(sb.2 b hb).trans e) (T3 g λ_=>#[v,.int (kf (j+1)) t2]) (kJ _)).swap;refine aW ⟨TX HY _,ih (j+1) (j+1) H2 _ v t2 _ oI' (by omega) hlt J3 Vu ⟨oI',(J3.pin _ (ig _ cC)).1,hoc,hod⟩ hv (aQ _) λj' hj'=>?_⟩;by_cases e:j'=j+1
    ·subst e;exact⟨tK _,λz=>absurd z (uw _)⟩
    ·have q:=(hbest j' (by omega)).1;exact⟨by omega,λ_=>by omega⟩
   ·simp only[hb,decide_false,Wz,J7];refine aD (Wx (?_));rw[nm];refine aW ⟨TX HY _,ih (j+1) i H2 _ vb tb c oI' (by omega) hlt J2 Vu hit2 hvb (by omega) λj' hj'=>?_⟩;by_cases e:j'=j+1
    ·subst e;exact⟨by omega,λz=>by omega⟩
    ·exact hbest j' (by omega))
theorem Qz{Q:L4}{E:L4}(kf:Nat->Int)(R:Nat->Hp->Prop)(hA:X.A.handled=none)(hne:0<vs.length)(J:Inv X aa σ H s)(Vv:R 0 H)(hl:∀j H s,Inv X aa σ H s->R j H->s.heap.IsTuple l vs.toArray)(turn:∀j v (ps:L3) H s,vs[j]? =some v->Inv X ps σ H s->R j H->ah (aw X.prog X.w) X.A.in1 (call (.ref f) [v]) (λu s'=>∃H' t,u=.int (kf j) t/\Inv X ps σ H' s'/\R (j+1) H') (λ_ _=>False) s)(hQ:∀i v H' s',vs[i]? =some v->(∀j,j<vs.length->kf i<=kf j/\(j<i->kf i<kf j))->Inv X aa σ H' s'->R vs.length H'->Q v s'):
  ah (aw X.prog X.w) X.A (call (.builtin "min") [.ref l] [(bT "key",.ref f)]) Q E s:=by
 have nm:(toString "min"++toString ".loop":String)="min.loop":=by decide
 have hls:=hl 0 H s J Vv;obtain⟨ol,hol,_⟩:=id hls;have U6:l≠s.heap.objs.size:=gP (eO hol);refine kmb_tree kQ kz kA (kmb_min_key _ _) (by
  show ah _ X.A.in1 (cS "min" ["key","default"] 0 ⟨[],[(bT "key",.ref f)]⟩>>=_) _ _ s;refine aD (wgk (show cS "min" ["key","default"] 0 ⟨[],[(bT "key",.ref f)]⟩=pure [some (.ref f),none]from rfl) (aD (aW (aD (wcf hls (aD (wco ?_ (dX _))))))));rw[nm];have zS:(s.heap.push {cls:=.type "tuple_iterator",data:=.fields #[.ref l,.int 0 0]}).objs.size=s.heap.objs.size+1:=size_push' ..;rw[zS];have k0:∀b o,s.heap.get? b=some o->((s.heap.push {cls:=.type "tuple_iterator",data:=.fields #[.ref l,.int 0 0]}).push (aI "list" #[] 0)).get? b=some o:=λb o e=>fG _ (fG _ e);have gI0:((s.heap.push {cls:=.type "tuple_iterator",data:=.fields #[.ref l,.int 0 0]}).push (aI "list" #[] 0)).get? s.heap.objs.size=some {cls:=.type "tuple_iterator",data:=.fields #[.ref l,.int 0 0]}:=fG _ (lZ _ rfl);have gS:((s.heap.push {cls:=.type "tuple_iterator",data:=.fields #[.ref l,.int 0 0]}).push (aI "list" #[] 0)).get? (s.heap.objs.size+1)=some (aI "list" #[] 0):=by rw[<-zS];exact lZ _ rfl
  have mI:=jG.new J (aQ _);have mS:=jG.new J (HD s.heap.objs.size);have K5:s.heap.objs.size+1≠s.heap.objs.size:=HN (wA _);have Jk:Inv X aa σ H {s with heap:=(s.heap.push {cls:=.type "tuple_iterator",data:=.fields #[.ref l,.int 0 0]}).push (aI "list" #[] 0),toks:=s.toks}:=J.kept k0;have JI:Inv X ((s.heap.objs.size,{cls:=.type "tuple_iterator",data:=.fields #[.ref l,.int 0 0]})::(s.heap.objs.size+1,aI "list" #[] 0)::aa) σ H {s with heap:=(s.heap.push {cls:=.type "tuple_iterator",data:=.fields #[.ref l,.int 0 0]}).push (aI "list" #[] 0),toks:=s.toks}:=Jk.pins_of λq hq=>by
   rcases cX.mp hq with z|z
   ·subst z;exact⟨gI0,J.hok.fresh (aQ _),mI.loc,mI.fs,λv z=>by have z':eh #[aC l,.int 0 0]=gx v:=z;cases z'⟩
   ·rcases cX.mp z with z|z
    ·subst z;exact⟨gS,J.hok.fresh (HD _),mS.loc,mS.fs,kJ _⟩
    ·exact Jk.pin q (ig _ z)
  have W:=Walks.tuple (prog:=X.prog) (w:=X.w) (A:=X.A.in1) hA s.heap.objs.size l U6 vs.toArray;refine aW ⟨TX HY _,Tc wbl ?_⟩;rw[T6 HY _];show ah _ X.A.in1 (seqItems? (.ref (s.heap.objs.size+1))>>=_) _ _ _;refine aD (TY gS rfl (?_));show ah _ X.A.in1 (tryCatch (fz (.ref s.heap.objs.size)) _>>=_) _ _ _;refine aD (Mv (W.item 0 _ _ _ (by rw[gw];exact hne) ⟨⟨_,gI0,rfl,rfl⟩,hl 0 H _ Jk Vv⟩ λv h' tk' hP hst' hk'=>?_));have hv:vs[0]? =some v:=(by simpa using hP);obtain⟨oI',hoI,hoc,hod⟩:=id hst'.1;have J1:=JI.mW (o':=oI') (tk:=tk') (mI.under (p:=(s.heap.objs.size+1,aI "list" #[] 0)) K5) (λb x hb e=>hk' b x (λz=>hb (fV.mp z)) e) hoI (λv z=>by rw[hod]at z;cases z);show ah _ X.A.in1 (tryCatch (dL [v] (call (.ref f) [v])) _>>=_) _ _ _;refine aD (Mv (Aq (Bc (turn 0 v _ H _ hv J1 Vv) (λu s2 z=>?_) λ_ _ z=>z.elim)));obtain⟨H2,t2,rfl,J2,Vu⟩:=z;have g:=(J2.pin _ (ig _ (cY _ cC))).1;have sb:=Ef s2.heap (s.heap.objs.size+1) (ba λ_=>#[v,.int (kf 0) t2]);show ah _ X.A.in1 (lL (s.heap.objs.size+1) (λ_=>#[v,.int (kf 0) t2])>>=_) _ _ _;refine aD (wcg g rfl ?_);rw[nm];have J3:=(J2.swap.mW (o':=aI "list" #[v,.int (kf 0) t2] _) (tk:=s2.toks) (mS.under (p:=(s.heap.objs.size,oI')) K5.symm) (λb x hb e=>(sb.2 b hb).trans e) (T3 g λ_=>#[v,.int (kf 0) t2]) (kJ _)).swap;exact aW ⟨TX HY _,U9 kf R hA mI mS K5 U6 hl turn hQ _ 0 0 H2 _ v t2 _ oI' rfl hne J3 Vu ⟨oI',(J3.pin _ (ig _ cC)).1,hoc,hod⟩ hv (aQ _) λj' hj'=>by
   have e:j'=0:=by omega
   subst e;exact⟨tK _,λz=>absurd z (uw _)⟩⟩)
theorem Uh(F:FnOk X.prog X.w X.K X.mg X.base CX0 k f fd ps sp)(hr:Room k X.A.in1)(hb:Binds X.K fd ps [])(I:Inv X aa σ H s)(r:Vals zs us)(h:sp zs H Q E0):
  ah (aw X.prog X.w) X.A.in1 (call (.ref f) us) (EP X aa σ Q) (λ_ _=>False) s:=by
 have hl:us.length=ps.length:=by rw[<-r.length];exact F.len _ _ _ _ h
 have bb:=hb s us I.kIn (by rw[tL];exact hl);rw[tL]at bb;refine iS (wdg (F.run X.A.in1 X.stack s H ⟨us,[]⟩ us zs Q E0 hr I.env0.in1 bb r h) λr s' hq=>?_);cases r with
 |error e=>exact hq
 |ok fl=>
  cases fl with
  |ret u=>exact I.after hq
  |next=>exact bX hq
  |brk=>exact bX hq
  |cont=>exact bX hq
end
noncomputable def aaj(K:ag)(sp:Sp)(ta:TA):TE:=λσ H Q=>ta σ H λvs H1=>∃(l:af) (its:η) (kf:Nat->Int),vs=[.ref l]/\SqT K H1 l (its.map V.ref)/\its≠[]/\
 (∀j p,its[j]? =some p->sp [.ref p] H1 (λv H'=>v=.int (kf j)/\H'=H1) E0)/\
 ∀i p,its[i]? =some p->(∀j,j<its.length->kf i<=kf j/\(j<i->kf i<kf j))->Q (.ref p) H1
theorem uy:∀{its:η}{us:List ρ},Vals (its.map V.ref) us->us=its.map aC
 |[],_,h=>by cases h;rfl
 |p::its,_,h=>by
  cases h with
  |cons r t=>rw[uy t];cases r;rfl
section
variable{X:Cx}{a:br}{ta:TA}{p kp p2 pos:eR}{k:Nat}{f:af}{fd:ψ}{q x:bg}{sp:Sp}
theorem Uq(F:FnOk X.prog X.w X.K X.mg X.base CX0 k f fd [q] sp)(hc:X.calm=true)(hr:Room (k+1) X.A)(hg:Gl X "min")(hm:X.mg "min"=none)(hgx:Gl X x)(hmx:X.mg x=some (.ref f))(hk:dr X.K (.ref f)=true)(hb:Binds X.K fd [q] [])(ha:PA X [a] ta)(hdb:(x==("__debug__":bg))=false:=by decide)(Ze:dk pos (az [a] X.env)=(false,cx a X.env)::dk pos (az [] X.env):=by rfl)(hp:(dk pos (az [a] X.env)).any (·.1)=false:=by rfl):PE X (.Call (.Name "min" p) [a] [⟨some "key",.Name x p2,kp⟩] pos) (aaj X.K sp ta):=by
 intro aa s σ H Q I h;refine T5 (ld_blt I hg hm (show bP "min"=some (.builtin "min")from by decide+kernel) ?_ (by decide) (by decide));refine wet (thn (ha pos aa s σ H _ I h) λus s1 ⟨vs,H1,I1,r1,q1⟩=>kws_cons ?_) Ze hp;obtain⟨l,its,kf,e,hq,hne,ht,q⟩:=q1;subst e;cases r1 with
 |cons r rr=>
  cases rr;cases r;refine ld_glob I1 hgx hmx (kws_nil ?_) hdb;have QL:(its.map aC).length=its.length:=aF _;show ah (aw X.prog X.w) X.A (call (.builtin "min") [.ref l] [(bT "key",.ref f)]) (EP X aa σ Q) X.xe s1;refine Qz (vs:=its.map aC) kf (λj H=>H=H1) (I.ok.hd hc) (by rw[QL];exact yfg.mpr hne) I1 rfl (λj H s J hj=>?_) (λj v ps H s hv' J hj=>?_) λi v H' s' hv' hb' J hj=>?_
  ·subst hj;obtain⟨ws,rv,pl,hz⟩:=J.tuple hq;rw[uy rv]at pl;exact pl
  ·subst hj;rw[cV]at hv';cases ej:its[j]? with
   |none=>rw[ej]at hv';cases hv'
   |some p=>
    rw[ej]at hv';cases hv';refine Bc (Uh F (hr.in1) hb J (zs:=[.ref p]) (.cons rfl .nil) (ht j p ej)) (λu s' z=>?_) λ_ _ z=>z.elim;obtain⟨w,H',J',rw',rfl,rfl⟩:=z;obtain⟨t,rfl⟩:=rw';exact⟨H',t,rfl,J',rfl⟩
  ·subst hj;rw[cV]at hv';cases ei:its[i]? with
   |none=>rw[ei]at hv';cases hv'
   |some p=>
    rw[ei]at hv';cases hv';rw[QL]at hb';exact⟨.ref p,H',J,rfl,q i p ei hb'⟩
end
end L2
namespace Sw
noncomputable abbrev SK:=List (Int×ζ)
section
variable(T U:Int->Int->Bool)
noncomputable def sG(k:SK)(l img:Int):SK:=k.filterMap λp=>if T l p.1=true then some (p.1,p.2.filter λy=>U img y)else if p.1=l then none else some p
structure MN(k:SK)(g:Int->Int):Prop where
 im:∀p∈k,g p.1∈p.2
 ti:∀p∈k,∀q∈k,T p.1 q.1=true->U (g p.1) (g q.1)=true
structure Ok:Prop where
 Y9:∀x,T x x=false
 sym:∀x y,T x y=T y x
 usy:∀x y,U x y=U y x
noncomputable def Nd(k:SK):Prop:=(k.map (·.1)).Nodup
end
section
variable{T U:Int->Int->Bool}
theorem iI:p∈sG T U k l img↔∃q∈k,q.1=p.1/\((T l q.1=true/\p.2=q.2.filter λy=>U img y)\/(T l q.1=false/\q.1≠l/\p.2=q.2)):=by
 unfold sG;rw[List.mem_filterMap];refine⟨λ⟨q,hq,e⟩=>⟨q,hq,?_⟩,λ⟨q,hq,e,h⟩=>⟨q,hq,?_⟩⟩
 ·by_cases c:T l q.1=true
  ·rw[au c]at e;cases e;exact⟨rfl,.inl ⟨c,rfl⟩⟩
  ·rw[ao c]at e;by_cases c2:q.1=l
   ·rw[au c2]at e;cases e
   ·rw[ao c2]at e;cases e;exact⟨rfl,.inr ⟨Bool.eq_false_iff.mpr c,c2,rfl⟩⟩
 ·rcases h with⟨a,b⟩|⟨a,b,c⟩
  ·rw[au a];exact gR some (Wv e b.symm)
  ·rw[ao (by rw[a];decide),ao b];exact gR some (Wv e c.symm)
theorem nd_eq(h:Nd k)(hp:p∈k)(hq:q∈k)(e:p.1=q.1):p=q:=by
 obtain⟨i,hi,rfl⟩:=Ed hp;obtain⟨j,hj,rfl⟩:=Ed hq;have h':(k.map λp:Int×ζ=>p.1).Nodup:=h;have:=(List.getElem?_inj (i:=i) (j:=j) (by rw[aF];exact hi) h').mp (by rw[cV,cV,eN hi,eN hj];exact gR some e);subst this;rfl
theorem Ol(o:Ok T U)(hl:(l,is)∈k)(h:MN T U k g):MN T U (sG T U k l (g l)) g:=by
 refine⟨λp hp=>?_,λp hp q hq t=>?_⟩
 ·obtain⟨r,hr,e,c⟩:=iI.mp hp;rw[<-e];rcases c with⟨a,b⟩|⟨a,b,c⟩
  ·rw[b];exact fD.mpr ⟨h.im r hr,h.ti _ hl r hr a⟩
  ·rw[c];exact h.im r hr
 ·obtain⟨r,hr,e,_⟩:=iI.mp hp;obtain⟨r',hr',e',_⟩:=iI.mp hq;rw[<-e,<-e']at t⊢;exact h.ti r hr r' hr' t
noncomputable def pt(g:Int->Int)(l img:Int):Int->Int:=λx=>if x=l then img else g x
theorem Oi(o:Ok T U)(nd:Nd k)(hl:(l,is)∈k)(hi:img∈is)(h:MN T U (sG T U k l img) g):MN T U k (pt g l img):=by
 have rest:∀p∈k,p.1≠l->g p.1∈p.2/\(T l p.1=true->U img (g p.1)=true)/\∃p'∈sG T U k l img,p'.1=p.1:=λp hp ne=>by
  by_cases c:T l p.1=true
  ·have m:(p.1,p.2.filter λy=>U img y)∈sG T U k l img:=iI.mpr ⟨p,hp,rfl,.inl ⟨c,rfl⟩⟩;have:=fD.mp (h.im _ m);exact⟨this.1,λ_=>this.2,_,m,rfl⟩
  ·have m:p∈sG T U k l img:=iI.mpr ⟨p,hp,rfl,.inr ⟨Bool.eq_false_iff.mpr c,ne,rfl⟩⟩;exact⟨h.im _ m,λz=>absurd z c,_,m,rfl⟩
 refine⟨λp hp=>?_,λp hp q hq t=>?_⟩
 ·unfold pt;by_cases c:p.1=l
  ·rw[au c];have:=nd_eq nd hp hl c;rw[this];exact hi
  ·rw[ao c];exact(rest p hp c).1
 ·unfold pt;by_cases c:p.1=l
  ·by_cases d:q.1=l
   ·rw[c,d,o.Y9]at t;cases t
   ·rw[au c,ao d];rw[c]at t;exact(rest q hq d).2.1 t
  ·by_cases d:q.1=l
   ·rw[ao c,au d];rw[d,o.sym]at t;rw[o.usy];exact(rest p hp c).2.1 t
   ·rw[ao c,ao d];obtain⟨p',hp',e⟩:=(rest p hp c).2.2;obtain⟨q',hq',e'⟩:=(rest q hq d).2.2;have:=h.ti p' hp' q' hq' (by rw[e,e'];exact t);rw[e,e']at this;exact this
theorem p7(o:Ok T U)(l img):∀k:SK,(sG T U k l img).map (·.1)=(k.map (·.1)).filter λx=>decide (x≠l)
 |[]=>rfl
 |p::k=>by
  have ih:=p7 o l img k;unfold sG at ih⊢;rw[yeg,iQ,Ao];by_cases c:T l p.1=true
  ·have ne:p.1≠l:=λz=>by rw[z,o.Y9]at c;cases c
   rw[au c,au (by simpa using ne)];show p.1::_=_;rw[ih]
  ·rw[ao c];by_cases d:p.1=l
   ·rw[au d,ao (by simpa using d)];exact ih
   ·rw[ao d,au (by simpa using d)];show p.1::_=_;rw[ih]
theorem Hi(o:Ok T U)(h:Nd k):Nd (sG T U k l img):=by
 unfold Nd;rw[p7 o];exact wdp _ h
theorem uY:∀{xs:ζ},xs.Nodup->l∈xs->(xs.filter (λx=>decide (x≠l))++[l]).Perm xs
 |[],_,h=>nomatch h
 |x::xs,nd,h=>by
  obtain⟨nx,nd'⟩:=JZ.mp nd;rw[Ao];by_cases c:x=l
  ·subst c;rw[ao (by simp)];have e:xs.filter (λy=>decide (y≠x))=xs:=yei.mpr λy hy=>bY λz=>nx (by rw[<-z];exact hy);rw[e];exact List.perm_append_comm
  ·rw[au (by simpa using c)];have:l∈xs:=(cX.mp h).elim (λz=>absurd z.symm c) id;exact(uY nd' this).cons x
theorem Aa(o:Ok T U)(h:Nd k)(hl:(l,is)∈k):(sG T U k l img).length+1=k.length:=by
 have p:=(uY h (dF.mpr ⟨_,hl,rfl⟩)).length_eq;rw[<-p7 o l img,oO,aF,aF]at p;exact p
noncomputable def Res(T U:Int->Int->Bool)(k:SK)(r:L0):Prop:=(r.map (·.1)).Perm (k.map (·.1))/\∃g,MN T U k g/\∀e∈r,g e.1=e.2
theorem Px(o:Ok T U)(nd:Nd k)(hl:(l,is)∈k)(hi:img∈is)(h:Res T U (sG T U k l img) r):Res T U k (r++[(l,img)]):=by
 obtain⟨hp,g,hg,he⟩:=h;refine⟨?_,pt g l img,Oi o nd hl hi hg,λe m=>?_⟩
 ·rw[bC];refine(hp.append_right _).trans ?_;rw[p7 o];exact uY nd (dF.mpr ⟨_,hl,rfl⟩)
 ·unfold pt;rcases lM.mp m with z|z
  ·have:e.1∈(sG T U k l img).map (·.1):=hp.mem_iff.mp (dF.mpr ⟨e,z,rfl⟩);rw[p7 o,fD]at this;rw[ao (fW this.2)];exact he e z
  ·rw[fV.mp z,au rfl]
theorem Ul:Res T U [] []:=⟨List.Perm.refl _,λ_=>0,⟨λp hp=>(nomatch hp),λp hp=>(nomatch hp)⟩,λe he=>(nomatch he)⟩
theorem X7(o:Ok T U)(hl:(l,is)∈k)(h:∀y∈is,¬∃g,MN T U (sG T U k l y) g):¬∃g,MN T U k g:=λ⟨g,hg⟩=>h (g l) (hg.im _ hl) ⟨g,Ol o hl hg⟩
theorem Oj(hp:p∈k)(h:p.2=[]):¬∃g,MN T U k g:=λ⟨g,hg⟩=>by
 have:=hg.im p hp;rw[h]at this;cases this
noncomputable def cst(m:Nat):Nat->Nat
 |0=>0
 |l+1=>1+m*cst m l
structure V7(U:Int->Int->Bool)(no:Int)(k:SK):Prop where
 all:∀x y,0<=x->x<no->0<=y->y<no->x≠y->U x y=true
 big:∀p∈k,p.2.Nodup/\(∀y∈p.2,0<=y/\y<no)/\k.length<=p.2.length
theorem Cg:∀{ys:ζ},ys.Nodup->(∀y∈ys,y≠img->U img y=true)->ys.length<=(ys.filter λy=>U img y).length+1
 |[],_,_=>dX _
 |y::ys,nd,h=>by
  obtain⟨ny,nd'⟩:=JZ.mp nd;rw[Ao];by_cases c:y=img
  ·subst c;have e:ys.filter (λz=>U y z)=ys:=yei.mpr λz hz=>h z (cY _ hz) λq=>ny (by rw[<-q];exact hz);split<;>simp only[wB,e]<;>omega
  ·rw[au (h y cC c)];have:=Cg nd' λz hz=>h z (cY _ hz);simp only[wB];omega
theorem Bs(o:Ok T U)(nd:Nd k)(hl:(l,is)∈k)(hi:img∈is)(h:V7 U no k):V7 U no (sG T U k l img):=by
 have hb:=(h.big _ hl).2.1 img hi;have len:=Aa (img:=img) o nd hl;refine⟨h.all,λp hp=>?_⟩;obtain⟨q,hq,e,c⟩:=iI.mp hp;obtain⟨b1,b2,b3⟩:=h.big q hq;rcases c with⟨a,b⟩|⟨a,b,c⟩
 ·rw[b];refine⟨b1.filter _,λy hy=>b2 y (fD.mp hy).1,?_⟩;have:=Cg (U:=U) (img:=img) b1 λy hy ne=>h.all img y hb.1 hb.2 (b2 y hy).1 (b2 y hy).2 (mQ ne);omega
 ·rw[c];exact⟨b1,b2,by omega⟩
theorem uR(o:Ok T U):∀(m:Nat) {k:SK},k.length=m->Nd k->V7 U no k->∃g,MN T U k g
 |0,k,e,_,_=>by
  cases k with
  |nil=>exact⟨λ_=>0,λp hp=>(nomatch hp),λp hp=>(nomatch hp)⟩
  |cons p k=>cases e
 |m+1,k,e,nd,h=>by
  cases k with
  |nil=>cases e
  |cons p k=>
   have hp:(p.1,p.2)∈p::k:=cC;have b:=(h.big p cC).2.2;cases ep:p.2 with
   |nil=>rw[ep]at b;simp at b
   |cons y ys=>
    have hy:y∈p.2:=by rw[ep];exact cC
    have len:=Aa (img:=y) o nd hp;obtain⟨g,hg⟩:=uR o m (k:=sG T U (p::k) p.1 y) (by omega) (Hi o nd) (Bs o nd hp hy h);exact⟨_,Oi o nd hp hy hg⟩
structure SOk(n no:Int)(k:SK):Prop where
 nd:Nd k
 pl:∀p∈k,0<=p.1/\p.1<n
 im:∀p∈k,(∀y∈p.2,0<=y/\y<no)/\(p.2.length:Int)<=no
theorem SOk.sG(o:Ok T U){n no:Int}{k:SK}{l img:Int}(h:SOk n no k):SOk n no (sG T U k l img):=by
 refine⟨Hi o h.nd,λp hp=>?_,λp hp=>?_⟩
 ·obtain⟨q,hq,e,_⟩:=iI.mp hp;rw[<-e];exact h.pl q hq
 ·obtain⟨q,hq,e,c⟩:=iI.mp hp;obtain⟨i1,i2⟩:=h.im q hq;rcases c with⟨_,b⟩|⟨_,_,b⟩
  ·rw[b];have:=sO (λy=>U img y) q.2;exact⟨λy hy=>i1 y (fD.mp hy).1,by omega⟩
  ·rw[b];exact⟨i1,i2⟩
theorem qG{xs ys:ζ}(h:xs.Perm ys)(hx:xs.Pairwise (· < ·))(hy:ys.Pairwise (· < ·)):xs=ys:=
 List.Perm.eq_of_pairwise (le:=λa b=>a<b) (λa b _ _ h1 h2=>absurd h1 (by omega)) hx hy h
end
end Sw
namespace Hs
open PySem L2 oF
section
variable{P:χ}{w:ω}{K:ag}{mg:L5}{base:bv}
inductive lQ(K:ag)(vs:List V)(H:Hp)(Q:VK)(E_:XK):Prop
 |mk(x d)(_:vs=[x])(_:DX K H x d)(_:Q (.bl (gA d)) H)
theorem Qa{f:af}{fd:ψ}
  (F:Fun K "is_whole" "is_whole" ZX f fd)(mi:mg "isinstance"=none)(mI:mg "int"=none)(mB:mg "bool"=none):FnOk P w K mg base CX0 1 f fd ["thing"] (lQ K):=by
 refine F.eG ["thing"] λH Q hr h=>?_;obtain⟨x,d,rfl,hx,q⟩:=h;refine⟨_,aZ (cu (pe_and (pB Ss mi (aj (pv 0) (aj (pN "int" mI) aA)))
  (pe_one (pe_not (pB Ss mi (aj (pv 0) (aj (pN "bool" mB) aA))))))),?_⟩
 refine⟨_,rfl,x,_,_,rfl,hx.kind,.inl rfl,_,rfl,?_⟩;refine ite2 (λc=>?_) (λc=>?_)
 ·refine⟨_,rfl,x,_,_,rfl,hx.kind,.inr (.inl rfl),_,rfl,?_⟩;cases d<;>first |exact q|(simp[zB,kZ]at c;done)
 ·cases d<;>first |exact q|(exfalso;exact c rfl)
inductive tR(K:ag)(vs:List V)(H:Hp)(Q:VK)(E_:XK):Prop
 |mk(n:Int)(x:V)(d:υ)(_:vs=[.int n,x])(_:DX K H x d)(_:Q (.bl (bO n d)) H)
theorem Qh{f g:af}
  {fd gd:ψ}
  (F:Fun K "is_place" "is_place" jA f fd)
  (D:Eh K mg "is_whole" ZX ["thing"] g gd)
  (G:FnOk P w K mg base CX0 1 g gd ["thing"] (lQ K)):FnOk P w K mg base CX0 2 f fd ["n","thing"] (tR K):=by
 refine F.eG ["n","thing"] λH Q hr h=>?_;obtain⟨n,x,d,rfl,hx,q⟩:=h;refine⟨_,aZ (cu (pe_and (pe_call G hr rfl D.m D.F.kp D.b .nil pass0 (aj (pv 1) aA)) (pe_one (pe_chain op_le op_lt aM (pv 1) (pv 0))))),?_⟩;refine⟨_,rfl,x,d,rfl,hx,_,rfl,?_⟩;refine ite2 (λc=>?_) (λc=>?_)
 ·cases hx with
  |int i=>
   refine⟨_,rfl,_,_,rfl,rfl,_,rfl,?_⟩;refine ite2 (λc2=>?_) (λc2=>?_)
   ·refine⟨_,rfl,_,_,rfl,rfl,?_⟩;have e:bO n (.int i)=decide (i<n):=by show(decide (0<=i)&&decide (i<n))=_;rw[c2];rfl
    rw[e]at q;exact q
   ·have e:bO n (.int i)=false:=by show(decide (0<=i)&&decide (i<n))=_;rw[Bool.eq_false_iff.mpr c2];rfl
    rw[e]at q;exact q
  |_=>simp[gA]at c
 ·have e:bO n d=false:=by
   cases d<;>first |rfl|(exfalso;exact c rfl)
  rw[e]at q;exact q
inductive oX(K:ag)(vs:List V)(H:Hp)(Q:VK)(E_:XK):Prop
 |mk(n:Int)(a:af)(xs:List V)(ds:θ)(_:vs=[.int n,.ref a])(_:SqT K H a xs)(_:qu K H xs ds)(_:∀H',Same H H'->Q (.bl (ds.all (bO n))) H')
theorem gO{α:Type}(ds:List α)(p:α->Bool):(ds.map p).all id=ds.all p:=by rw[SN];rfl
theorem KQ{f g:af}
  {fd gd:ψ}
  (F:Fun K "are_places" "are_places" fZ f fd)
  (D:Eh K mg "is_place" jA ["n","thing"] g gd)
  (G:FnOk P w K mg base CX0 2 g gd ["n","thing"] (tR K))(mA:mg "all"=none):FnOk P w K mg base CX0 3 f fd ["n","things"] (oX K):=by
 refine F.eG ["n","things"] λH Q hr h=>?_;obtain⟨n,a,xs,ds,rfl,hS,hd,q⟩:=h;refine⟨_,aZ (cu (pB (Tr rfl) mA (aj (pK ["thing"] ["n"] [0] (Ei (pv 1)) (pG 0) m9 (pe_call G hr rfl D.m D.F.kp D.b .nil pass0 (aj (pv 1) (aj (pv 0) aA)))) aA))),?_⟩;refine⟨_,rfl,a,xs,rfl,hS,λhz=>?_⟩;have hl:=hd.len;refine M7 (xs:=xs) (λi acc σ H'=>acc=((ds.take i).map (bO n)).map V.bl/\Same H H'/\∃o,σ=[o,some (.int n)]) ⟨rfl,Same.refl _,_,rfl⟩ (λi acc σ H' _ p=>p.2.1.tup hS) (λi acc σ H' hi p=>?_) hz (λi x acc σ H' hx p=>?_) (λacc σ H' p=>?_)
 ·rw[p.1];simp;omega
 ·obtain⟨rfl,sm,o,rfl⟩:=p;obtain⟨d,e1,e2⟩:=hd.get hx;refine⟨_,rfl,_,rfl,n,x,d,rfl,DX.same sm e2,?_,sm,_,rfl⟩;rw[qx,e1];simp
 ·intro p1 hp1;obtain⟨rfl,sm,_⟩:=p;refine⟨p1,(ds.map (bO n)),rfl,SqL.of (by rw[aH,hl,qw]),?_⟩;rw[gO];exact q _ (sm.trans (aP hp1 _))
noncomputable def ZR(K:ag)(H:Hp)(x y:V)(b:Bool):Prop:=(∃i j,x=.int i/\y=.int j/\b=decide (i<j))\/(∃p q ns ms,x=.ref p/\y=.ref q/\SqT K H p (ns.map V.int)/\SqT K H q (ms.map V.int)/\b=HT.lexLt ns ms)
inductive oV(K:ag)(vs:List V)(H:Hp)(Q:VK)(E_:XK):Prop
 |mk(a:af)(xs:List V)(bs:Nat->Bool)(_:vs=[.ref a])(_:SqT K H a xs)(_:∀k,k+1<xs.length->∃x y,xs[k]? =some x/\xs[k+1]? =some y/\ZR K H x y (bs k))(_:∀H',Same H H'->Q (.bl ((ai (xs.length-1)).all bs)) H')
theorem KD{f:af}{fd:ψ}
  (F:Fun K "is_rising" "is_rising" Z0 f fd)(mA:mg "all"=none)(mR:mg "range"=none)(mL:mg "len"=none):FnOk P w K mg base CX0 1 f fd ["things"] (oV K):=by
 refine F.eG ["things"] λH Q hr h=>?_;obtain⟨a,xs,bs,rfl,hS,hb,q⟩:=h;refine⟨_,aZ (cu (pB (Tr rfl) mA (aj (pK ["k"] ["things"] [0] (pi_range2 rfl mR (aj aM (aj (pB yp mL (aj (pv 0) aA)) aA))) (pG 0) m9 (Hx (op_lt.or (Je K hr.units0)) (bB (Ea K) (pv 1) (bW op_sub (pv 0) aM)) (bB (Ea K) (pv 1) (pv 0)))) aA))),?_⟩;refine⟨_,rfl,a,xs,rfl,.inr hS,λhz=>⟨1,_,rfl,⟨by omega,by omega,by omega,by omega⟩,?_⟩⟩;have en:((xs.length:Int)-1).toNat=xs.length-1:=by omega
 rw[en];refine Mt (λi acc σ H'=>acc=((ai i).map bs).map V.bl/\Same H H'/\∃o,σ=[o,some (.ref a)]) ⟨rfl,Same.refl _,_,rfl⟩ (λi acc σ H' hi p=>by rw[p.1];simp) (by rw[eZ];omega) (λi acc σ H' hi p=>?_) (λacc σ H' p=>?_)
 ·obtain⟨rfl,sm,o,rfl⟩:=p;obtain⟨x,y,hx,hy,hxy⟩:=hb i (by omega);have e1:(1+(i:Int))-1=((i:Nat):Int):=by omega
  have e2:(1+(i:Int))=((i+1:Nat):Int):=by omega
  have a1:atI xs (1+(i:Int)-1)=some x:=by rw[e1];exact atI_nat hx
  have a2:atI xs (1+(i:Int))=some y:=by rw[e2];exact atI_nat hy
  refine⟨_,rfl,_,rfl,_,_,rfl,rfl,a,xs,_,x,rfl,rfl,sm.tup hS,a1,_,rfl,_,rfl,a,xs,_,y,rfl,rfl,sm.tup hS,a2,?_⟩;have ea:((ai i).map bs).map V.bl++[V.bl (bs i)]=((ai (i+1)).map bs).map V.bl:=by rw[yt];simp
  rcases hxy with⟨u,v,rfl,rfl,e⟩|⟨p,p',ns,ms,rfl,rfl,h1,h2,e⟩
  ·refine .inl ⟨u,v,rfl,rfl,?_,sm,_,rfl⟩;show _++[V.bl (decide (u<v))]=_;rw[<-e];exact ea
  ·refine .inr ⟨p,p',ns,ms,rfl,rfl,sm.tup h1,sm.tup h2,?_,sm,_,rfl⟩;show _++[V.bl (HT.lexLt ns ms)]=_;rw[<-e];exact ea
 ·intro p1 hp1;obtain⟨rfl,sm,_⟩:=p;refine⟨p1,(ai (xs.length-1)).map bs,rfl,SqL.of aH,?_⟩;rw[gO];exact q _ (sm.trans (aP hp1 _))
theorem ints_of(h:qu K H xs ds)(hp:ds.all (bO n)=true):xs=(ds.map intD).map V.int:=by
 induction ds generalizing xs with
 |nil=>cases h;rfl
 |cons d ds ih=>
  rw[wgp,fH]at hp;cases h with
  |cons h t=>
   obtain⟨i,rfl,_⟩:=uX hp.1;cases h;rw[iQ,iQ,<-ih t hp.2];rfl
theorem Km(ns:ζ):∀k,k+1<(ns.map V.int).length->∃x y,(ns.map V.int)[k]? =some x/\(ns.map V.int)[k+1]? =some y/\ZR K H x y (decide (ns.getD k 0<ns.getD (k+1) 0)):=λk hk=>by
 rw[aF]at hk;have h1:k<ns.length:=by omega
 refine⟨.int (ns.getD k 0),.int (ns.getD (k+1) 0),by simp[h1],by simp[hk],.inl ⟨_,_,rfl,rfl,rfl⟩⟩
inductive Ip(K:ag)(vs:List V)(H:Hp)(Q:VK)(E_:XK):Prop
 |mk(n:Int)(x:V)(d:υ)(_:vs=[.int n,x])(_:DX K H x d)(_:∀H',Same H H'->Q (.bl (ju n d)) H')
theorem YD{f:af}{fd:ψ}
  (F:Fun K "is_set" "is_set" pC f fd)(D1:Dp P w K mg base 3 "are_places" fZ ["n","things"] (oX K))(D2:Dp P w K mg base 1 "is_rising" Z0 ["things"] (oV K))(mi:mg "isinstance"=none)(mT:mg "tuple"=none):FnOk P w K mg base CX0 4 f fd ["n","thing"] (Ip K):=by
 refine F.eG ["n","thing"] λH Q hr h=>?_;obtain⟨n,x,d,rfl,hx,q⟩:=h;refine⟨_,aZ (cu (pe_and (pB Ss mi (aj (pv 1) (aj (pN "tuple" mT) aA)))
  (pe_and (pd D1 hr (aj (pv 0) (aj (pv 1) aA))) (pe_one (pd D2 hr (aj (pv 1) aA)))))),?_⟩
 refine⟨_,rfl,x,_,_,rfl,hx.kind,.inr (.inr (.inl rfl)),_,rfl,?_⟩;refine ite2 (λc=>?_) (λc=>?_)
 ·cases hx with
  | @tup a xs ds h t=>
   refine⟨_,rfl,_,rfl,n,a,xs,ds,rfl,h,t,λH1 sm=>⟨_,rfl,?_⟩⟩;refine ite2 (λc2=>?_) (λc2=>?_)
   ·have ex:=ints_of t c2;refine⟨_,rfl,a,xs,λk=>decide ((ds.map intD).getD k 0<(ds.map intD).getD (k+1) 0),rfl,sm.tup h,?_,λH2 sm2=>?_⟩
    ·rw[ex];exact Km _
    ·have e:ju n (.tuple ds)=(ai (xs.length-1)).all λk=>decide ((ds.map intD).getD k 0<(ds.map intD).getD (k+1) 0):=by
      show(ds.all (bO n)&&fO (ds.map intD))=_;rw[c2,t.len];show fO (ds.map intD)=_;unfold fO;rw[aF]
     have:=q H2 (sm.trans sm2);rw[e]at this;exact this
   ·have e:ju n (.tuple ds)=false:=by
     show(ds.all (bO n)&&fO (ds.map intD))=_;rw[Bool.eq_false_iff.mpr c2];rfl
    have:=q H1 sm;rw[e]at this;exact this
  |_=>simp[zB,kZ]at c
 ·have e:ju n d=false:=by
   cases d<;>first |rfl|(exfalso;exact c rfl)
  have:=q H (Same.refl _);rw[e]at this;exact this
inductive Et(K:ag)(vs:List V)(H:Hp)(Q:VK)(E_:XK):Prop
 |mk(n:Int)(x:V)(d:υ)(_:vs=[.int n,x])(_:DX K H x d)(_:∀H',Same H H'->Q (.bl (uD n d)) H')
theorem Ib(h:DX K H x d)(ht:nH n d=true):∃p,x=.ref p/\SqT K H p (((kids d).map intD).map V.int):=by
 cases h with
 | @tup a xs ds h t=>
  have q:(ds.all (bO n)&&fO (ds.map intD)&&decide (ds.length=2))=true:=ht;rw[fH,fH]at q;exact⟨a,rfl,by rw[ints_of t q.1.1]at h;exact h⟩
 |_=>simp[nH,ju]at ht
theorem Kl(t:qu K H xs ds)(ha:ds.all (nH n)=true):∀k,k+1<xs.length->∃x y,xs[k]? =some x/\xs[k+1]? =some y/\
  ZR K H x y (HT.lexLt ((ds.map λt=>(kids t).map intD).getD k []) ((ds.map λt=>(kids t).map intD).getD (k+1) [])):=λk hk=>by
 have hl:=t.len;have h1:k<xs.length:=by omega
 obtain⟨d1,e1,x1⟩:=t.get (i:=k) (x:=xs[k]) (by simp[h1]);obtain⟨d2,e2,x2⟩:=t.get (i:=k+1) (x:=xs[k+1]) (by simp[hk]);have m1:=iW.mp ha d1 (nu e1);have m2:=iW.mp ha d2 (nu e2);obtain⟨p1,q1,s1⟩:=Ib x1 m1;obtain⟨p2,q2,s2⟩:=Ib x2 m2;refine⟨xs[k],xs[k+1],by simp[h1],by simp[hk],.inr ⟨p1,p2,_,_,q1,q2,s1,s2,?_⟩⟩;have g1:(ds.map λt=>(kids t).map intD).getD k []=(kids d1).map intD:=by rw[gQ,cV,e1];rfl
 have g2:(ds.map λt=>(kids t).map intD).getD (k+1) []=(kids d2).map intD:=by rw[gQ,cV,e2];rfl
 rw[g1,g2]
theorem Uv{f:af}{fd:ψ}
  (F:Fun K "are_ties" "are_ties" nR f fd)(D1:Dp P w K mg base 4 "is_set" pC ["n","thing"] (Ip K))(D2:Dp P w K mg base 1 "is_rising" Z0 ["things"] (oV K))(mi:mg "isinstance"=none)(mT:mg "tuple"=none)(mA:mg "all"=none)(mL:mg "len"=none):FnOk P w K mg base CX0 5 f fd ["n","thing"] (Et K):=by
 refine F.eG ["n","thing"] λH Q hr h=>?_;obtain⟨n,x,d,rfl,hx,q⟩:=h;refine⟨_,aO (jq (sJ (qz (pB Ss mi (aj (pv 1) (aj (pN "tuple" mT) aA))))) (aZ (cu pe_bl)) jN) (aZ (cu (pe_and (pB (Tr rfl) mA (aj (pK ["tie"] ["n"] [0] (Ei (pv 1)) (pG 0) m9 (pe_and (pd D1 hr (aj (pv 1) (aj (pv 0) aA))) (pe_one (Hx op_eq (pB (yd K) mL (aj (pv 0) aA)) aM)))) aA))
  (pe_one (pd D2 hr (aj (pv 1) aA)))))),?_⟩
 refine⟨_,rfl,x,_,_,rfl,hx.kind,.inr (.inr (.inl rfl)),_,rfl,?_⟩;refine ite2 (λc=>?_) (λc=>?_)
 ·have e:uD n d=false:=by
   cases d<;>first |rfl|(exfalso;simp[zB,kZ]at c;done)
  have:=q H (Same.refl _);rw[e]at this;exact this
 ·cases hx with
  | @tup a xs ds h t=>
   refine⟨_,rfl,a,xs,rfl,h,λhz=>?_⟩;have hl:=t.len;refine M7 (xs:=xs) (λi acc σ H'=>acc=((ds.take i).map (nH n)).map V.bl/\Same H H'/\∃o,σ=[o,some (.int n)]) ⟨rfl,Same.refl _,_,rfl⟩ (λi acc σ H' _ p=>p.2.1.tup h) (λi acc σ H' hi p=>?_) hz (λi x acc σ H' hx p=>?_) (λacc σ H' p=>?_)
   ·rw[p.1];simp;omega
   ·obtain⟨rfl,sm,o,rfl⟩:=p;obtain⟨d,e1,e2⟩:=t.get hx;refine⟨_,rfl,_,rfl,n,x,d,rfl,DX.same sm e2,λH1 sm1=>⟨_,rfl,?_⟩⟩;have ea:∀b,b=nH n d->((ds.take i).map (nH n)).map V.bl++[V.bl b]=((ds.take (i+1)).map (nH n)).map V.bl:=λb hb=>by
     rw[qx,e1,hb];simp
    refine ite2 (λc2=>?_) (λc2=>?_)
    ·cases e2 with
     | @tup a2 xs2 ds2 h2 t2=>
      refine⟨_,rfl,a2,xs2,rfl,.inr (sm1.tup (sm.tup h2)),λhz2=>⟨rfl,ea _ ?_,sm.trans sm1,_,rfl⟩⟩;show decide (V.int (xs2.length:Int)=V.int 2)=(ju n (.tuple ds2)&&decide (ds2.length=2));rw[c2,t2.len];by_cases e3:ds2.length=2
      ·rw[e3];rfl
      ·rw[gj e3,gj (by intro z;injection z with z;exact e3 (by omega))];rfl
     |_=>simp[ju]at c2
    ·refine⟨ea _ ?_,sm.trans sm1,_,rfl⟩;show false=(ju n d&&decide ((kids d).length=2));rw[Bool.eq_false_iff.mpr c2];rfl
   ·intro p1 hp1;obtain⟨rfl,sm,_⟩:=p;have sm':Same H (upd H' p1 (.lst (((ds.take xs.length).map (nH n)).map V.bl))):=sm.trans (aP hp1 _);refine⟨p1,(ds.map (nH n)),rfl,SqL.of (by rw[aH,hl,qw]),_,rfl,?_⟩;rw[gO];refine ite2 (λc2=>?_) (λc2=>?_)
    ·refine⟨_,rfl,a,xs,λk=>HT.lexLt ((ds.map λt=>(kids t).map intD).getD k []) ((ds.map λt=>(kids t).map intD).getD (k+1) []),rfl,sm'.tup h,?_,λH2 sm2=>?_⟩
     ·exact Kl (qu.same sm' t) c2
     ·have e:uD n (.tuple ds)=(ai (xs.length-1)).all λk=>HT.lexLt ((ds.map λt=>(kids t).map intD).getD k []) ((ds.map λt=>(kids t).map intD).getD (k+1) []):=by
       show(ds.all (nH n)&&gG (ds.map λt=>(kids t).map intD))=_;rw[c2,hl];show gG (ds.map λt=>(kids t).map intD)=_;unfold gG;rw[aF]
      have:=q H2 (sm'.trans sm2);rw[e]at this;exact this
    ·have e:uD n (.tuple ds)=false:=by
      show(ds.all (nH n)&&gG (ds.map λt=>(kids t).map intD))=_;rw[Bool.eq_false_iff.mpr c2];rfl
     have:=q _ sm';rw[e]at this;exact this
  |_=>exfalso;exact c rfl
end
end Hs
namespace oF
open PySem L2
noncomputable def pairD(p:Int×Int):υ:=.tuple [.int p.1,.int p.2]
noncomputable def yw(n:Int)(ts:L0):υ:=.tuple [.int n,.tuple (ts.map pairD)]
noncomputable def lC(K:ag)(H:Hp)(a:af)(n:Int)(ts:L0):Prop:=∃t rs,SqT K H a [.int n,.ref t]/\SqT K H t rs/\cF K H rs (ts.map pairD)
theorem lC.dv(h:lC K H a n ts):DV K H (.ref a) (yw n ts):=by
 obtain⟨t,rs,h1,h2,h3⟩:=h;exact .tup h1 (.cons (.int n) (.cons (.tup h2 h3) .nil))
theorem lC.same(h:lC K H a n ts)(e:Same H H'):lC K H' a n ts:=by
 obtain⟨t,rs,h1,h2,h3⟩:=h;exact⟨t,rs,e.tup h1,e.tup h2,cF.same e h3⟩
noncomputable def aq(ts:L0)(i j:Int):Bool:=decide ((if j<i then j else i,if j>i then j else i)∈ts)
theorem Dh(p q):ar (pairD p) (pairD q)=decide (p=q):=by
 obtain⟨a,b⟩:=p;obtain⟨c,d⟩:=q;show((a==c)&&((b==d)&&true))=_;rw[sS];simp
theorem qY:∀ts:L0,aE (ts.map pairD)=true
 |[]=>rfl
 |p::ts=>by
  show(eJ (pairD p)&&aE (ts.map pairD))=true;rw[qY ts];rfl
theorem Du(ts:L0)(q):((ts.map pairD).any λd=>ar d (pairD q))=decide (q∈ts):=by
 rw[List.any_map,sS,List.any_eq_true];constructor
 ·rintro⟨p,hp,h⟩;have h':ar (pairD p) (pairD q)=true:=h;rw[Dh]at h';have e:p=q:=fW h';subst e;exact bY hp
 ·intro h;refine⟨q,fW h,?_⟩;show ar (pairD q) (pairD q)=true;rw[Dh];exact bY rfl
end oF
namespace Hs
open PySem L2 oF
theorem cg{X:Cx}{b:List eW}{R:TS->Prop}(h:let Y:=X;∃t,PSs Y b t/\R t):∃t,PSs X b t/\R t:=h
section
variable{D:Ends}{σ:St}{H:Hp}{a b c d e f g h i j:TS}
theorem lg(hh:let c3:=c;let c2:=tSeq b c3;tSeq a c2 D σ H):(tSeq a (tSeq b c)) D σ H:=hh
theorem abW(hh:let c8:=h;let c7:=tSeq g c8;let c6:=tSeq f c7;let c5:=tSeq e c6;let c4:=tSeq d c5;let c3:=tSeq c c4;let c2:=tSeq b c3;tSeq a c2 D σ H):(tSeq a (tSeq b (tSeq c (tSeq d (tSeq e (tSeq f (tSeq g h))))))) D σ H:=hh
theorem Cz(hh:let c2:=b;tSeq a c2 D σ H):(tSeq a b) D σ H:=hh
theorem abX(hh:let c6:=f;let c5:=tSeq e c6;let c4:=tSeq d c5;let c3:=tSeq c c4;let c2:=tSeq b c3;tSeq a c2 D σ H):(tSeq a (tSeq b (tSeq c (tSeq d (tSeq e f))))) D σ H:=hh
theorem abB(hh:let c10:=j;let c9:=tSeq i c10;let c8:=tSeq h c9;let c7:=tSeq g c8;let c6:=tSeq f c7;let c5:=tSeq e c6;let c4:=tSeq d c5;let c3:=tSeq c c4;let c2:=tSeq b c3;tSeq a c2 D σ H):(tSeq a (tSeq b (tSeq c (tSeq d (tSeq e (tSeq f (tSeq g (tSeq h (tSeq i j))))))))) D σ H:=hh
theorem W8(hh:let c4:=d;let c3:=tSeq c c4;let c2:=tSeq b c3;tSeq a c2 D σ H):(tSeq a (tSeq b (tSeq c d))) D σ H:=hh
theorem Jr(hh:let c5:=e;let c4:=tSeq d c5;let c3:=tSeq c c4;let c2:=tSeq b c3;tSeq a c2 D σ H):(tSeq a (tSeq b (tSeq c (tSeq d e)))) D σ H:=hh
end
section
variable{P:χ}{w:ω}{K:ag}{mg:L5}{base:bv}
inductive N6(K:ag)(vs:List V)(H:Hp)(Q:VK)(E_:XK):Prop
 |mk(x:V)(d:υ)(_:vs=[x])(_:DX K H x d)(_:∀H',Same H H'->Q (.bl (yx d)) H')
theorem Yq{f:af}{fd:ψ}{tk:Tok}
  (F:Fun K "is_web" "is_web" uM f fd)(D1:Dp P w K mg base 1 "is_whole" ZX ["thing"] (lQ K))(D2:Dp P w K mg base 5 "are_ties" nR ["n","thing"] (Et K))(mi:mg "isinstance"=none)(mT:mg "tuple"=none)(mL:mg "len"=none)(mM:mg "MOST_PLACES"=some (.int 10 tk)):FnOk P w K mg base CX0 6 f fd ["thing"] (N6 K):=by
 refine F.eG ["thing","n"] λH Q hr h=>?_;obtain⟨x,d,rfl,hx,q⟩:=h;refine cg ?_;intro Y;refine⟨_,aO (jq (PW.pt (pw_or (sJ (qz (pB Ss mi (aj (pv 0) (aj (pN "tuple" mT) aA)))))
   (pw_or1 (iM op_ne (pB yp mL (aj (pv 0) aA)) aM)))) (aZ (cu pe_bl)) jN) (aO (pS 1 (bB fU (pv 0) aM)) (aZ (cu (pe_and (pd D1 hr (aj (pv 1) aA)) (pe_and (pe_chain op_le op_le aM (pv 1) (pe_glob rfl mM (v:=.int 10) ⟨_,rfl⟩))
   (pe_one (pd D2 hr (aj (pv 1) (aj (bB fU (pv 0) aM) aA))))))))),?_⟩
 refine lg ?_;intro c3 c2;refine⟨_,rfl,x,_,_,rfl,hx.kind,.inr (.inr (.inl rfl)),_,rfl,?_⟩;refine ite2 (λc=>?_) (λc=>?_)
 ·have e:yx d=false:=by
   cases d<;>first |rfl|(exfalso;simp[zB,kZ]at c;done)
  have:=q H (Same.refl _);rw[e]at this;exact this
 ·cases hx with
  | @tup a xs ds h t=>
   have hl:=t.len;refine⟨_,rfl,a,xs,rfl,.inr h,λhz=>⟨rfl,_,rfl,?_⟩⟩;refine ite2 (λc2=>?_) (λc2=>?_)
   ·have e:yx (.tuple ds)=false:=by
     match ds,hl with
     |[],_=>rfl
     |[_],_=>rfl
     |[_,_],hl=>
      exfalso;have e2:(!decide (V.int (xs.length:Int)=V.int 2))=true:=c2;rw[hl]at e2;simp at e2
     |_::_::_::_,_=>rfl
    have:=q H (Same.refl _);rw[e]at this;exact this
   ·have e2:xs.length=2:=by
     have e2:¬(!decide (V.int (xs.length:Int)=V.int 2))=true:=c2;simp at e2;omega
    cases t with
    |nil=>simp at e2
    |cons h0 t0=>
     cases t0 with
     |nil=>simp at e2
     | @cons x1 dd1 xs1 ds1 h1 t1=>
      cases t1 with
      |cons _ _=>simp at e2
      |nil=>
       rename_i x0 dd0;refine⟨_,rfl,a,_,_,x0,rfl,rfl,h,by rfl,?_⟩;refine⟨_,rfl,x0,dd0,rfl,h0,_,rfl,?_⟩;refine ite2 (λc3=>?_) (λc3=>?_)
       ·cases h0 with
        |int n=>
         refine⟨_,rfl,_,_,rfl,rfl,_,rfl,?_⟩;have fin:∀b,b=yx (.tuple [.int n,dd1])->∀H',Same H H'->Q (.bl b) H':=λb hb H' sm=>by rw[hb];exact q H' sm
         have wd:yx (.tuple [.int n,dd1])=((decide (0<=n)&&decide (n<=10))&&uD n dd1):=rfl;refine ite2 (λc4=>?_) (λc4=>?_)
         ·refine⟨_,_,rfl,rfl,_,rfl,?_⟩;refine ite2 (λc5=>?_) (λc5=>?_)
          ·refine⟨_,rfl,_,rfl,a,_,_,x1,rfl,rfl,h,by rfl,n,x1,dd1,rfl,h1,λH' sm=>fin _ ?_ H' sm⟩;rw[wd,c4,c5];rfl
          ·refine fin _ ?_ H (Same.refl _);rw[wd,Bool.eq_false_iff.mpr c5,Bool.and_false];rfl
         ·refine⟨_,rfl,?_⟩;refine iteF (fin _ ?_ H (Same.refl _));rw[wd,Bool.eq_false_iff.mpr c4];rfl
        |_=>simp[gA]at c3
       ·have e:yx (.tuple [dd0,dd1])=false:=by
         show(gA dd0&&(decide (0<=intD dd0)&&decide (intD dd0<=10))&&uD (intD dd0) dd1)=false;rw[Bool.eq_false_iff.mpr c3];rfl
        have:=q H (Same.refl _);rw[e]at this;exact this
  |_=>exfalso;exact c rfl
inductive cN(K:ag)(vs:List V)(H:Hp)(Q:VK)(E_:XK):Prop
 |mk(x:V)(d:υ)(_:vs=[x])(_:DX K H x d)(_:yx d=true)(_:∀H',Same H H'->Q .non H')
theorem FJ{f:af}{fd:ψ}
  (F:Fun K "need_web" "need_web" SJ f fd)(D1:Dp P w K mg base 6 "is_web" uM ["thing"] (N6 K)):FnOk P w K mg base CX0 7 f fd ["thing"] (cN K):=by
 refine F.eG ["thing"] λH Q hr h=>?_;obtain⟨x,d,rfl,hx,hw,q⟩:=h;refine⟨_,aZ (jq (sJ (qz (pd D1 hr (aj (pv 0) aA)))) pss_never jN),?_⟩;refine⟨_,rfl,x,d,rfl,hx,λH' sm=>⟨_,rfl,?_⟩⟩;rw[hw];exact iteF (q H' sm)
inductive rR(K:ag)(vs:List V)(H:Hp)(Q:VK)(E_:XK):Prop
 |mk(a:af)(n i j:Int)(ts:L0)(_:vs=[.ref a,.int i,.int j])(_:lC K H a n ts)(_:∀H',Same H H'->Q (.bl (aq ts i j)) H')
theorem YJ{f:af}{fd:ψ}
  (F:Fun K "has_tie" "has_tie" gq f fd)(mi:mg "min"=none)(ma:mg "max"=none):FnOk P w K mg base CX0 1 f fd ["web","one","other"] (rR K):=by
 refine F.eG ["web","one","other"] λH Q hr h=>?_;obtain⟨a,n,i,j,ts,rfl,hW,q⟩:=h;refine⟨_,aZ (cu (Hx (yU hr.units) (lY (aj (pB (call_min2 rfl) mi (aj (pv 1) (aj (pv 2) aA))) (aj (pB (call_max2 rfl) ma (aj (pv 1) (aj (pv 2) aA))) aA)))
  (bB fU (pv 0) aM) (by with_unfolding_all rfl))),?_⟩
 refine⟨_,rfl,_,rfl,_,_,rfl,_,rfl,_,rfl,_,_,rfl,szl,λp hp=>?_⟩;have sm:=aP hp (.tup [.int (if j<i then j else i),.int (if j>i then j else i)]);obtain⟨t,rs,h1,h2,h3⟩:=hW.same sm;refine⟨_,rfl,a,_,_,.ref t,rfl,rfl,h1,rfl,t,rs,_,pairD (if j<i then j else i,if j>i then j else i),rfl,.inr h2,h3,.tup (SqT.of aH) (.cons (.int _) (.cons (.int _) .nil)),qY ts,rfl,(by show max 0 (max 0 0)+1<=60;decide),?_⟩;rw[Du];exact q _ sm
end
noncomputable def RP(n:Int)(ts:L0):Prop:=yx (yw n ts)=true
end Hs
namespace L2
open PySem
noncomputable def aB(t:af)(H H':Hp):Prop:=∀b o,b≠t->H b=some o->H' b=some o
theorem aB.refl(t)(H):aB t H H:=λ_ _ _ h=>h
theorem aB.trans(a:aB t H H1)(b:aB t H1 H2):aB t H H2:=λc o n h=>b c o n (a c o n h)
noncomputable def mD(K:ag)(H:Hp)(cO:af)(ns:ζ):Prop:=(∃o,H cO=some (.frz o (.lst (ns.map V.int))))\/
 ∃(o:kE) (its:Array ρ) (n:Nat),K.lookup cO=some o/\o.cls=.type "list"/\o.dict=none/\o.data=.seq its n/\its.size<=sizeLine/\Vals (ns.map V.int) its.toList
theorem mD.same(h:mD K H cO ns)(e:Same H H'):mD K H' cO ns:=by
 rcases h with⟨o,h⟩|h
 ·exact .inl ⟨o,e _ _ h⟩
 ·exact .inr h
theorem Hz:∀ns:ζ,aE (ns.map am)=true
 |[]=>rfl
 |n::ns=>by
  show(true&&aE (ns.map am))=true;rw[Hz ns];rfl
theorem aB.free(e:aB t H H')(n:a≠t)(h:H' a=none):H a=none:=by
 cases q:H a with
 |none=>rfl
 |some o=>rw[e a o n q]at h;cases h
theorem cF.append(h:cF K H xs ds)(h':cF K H ys es):cF K H (xs++ys) (ds++es):=
 cF.rec (motive_1:=λ_ _ _=>True) (motive_2:=λxs ds _=>cF K H (xs++ys) (ds++es)) trivial (λ_=>trivial) (λ_=>trivial) (λ_=>trivial) (λ_ _ _=>trivial) (λ_ _ _=>trivial) (λ_=>trivial) (λ_ _=>trivial) h' (λh _ _ t=>.cons h t) h
theorem aB.tup{K:ag}{t:af}{H H':Hp}{a:af}{xs zs:List V}(e:aB t H H')(n:H t=some (.lst zs))(h:SqT K H a xs):SqT K H' a xs:=by
 rcases h with(h|⟨o,h⟩)|h
 ·exact .inl (.inl (e _ _ (ne_of h n (by intro z;cases z)) h))
 ·exact .inl (.inr ⟨o,e _ _ (ne_of h n (by intro z;cases z)) h⟩)
 ·exact .inr h
end L2
namespace oF
open PySem L2
theorem iC(e:aB t H H')(n:H t=some (.lst zs)){ps:L0}(h:cF K H rs (ps.map pairD)):cF K H' rs (ps.map pairD):=by
 induction ps generalizing rs with
 |nil=>cases h;exact .nil
 |cons p ps ih=>
  cases h with
  |cons h tl=>
   refine .cons ?_ (ih tl);cases h with
   |tup h hd=>
    cases hd with
    |cons a1 t1=>
     cases a1;cases t1 with
     |cons a2 t2=>
      cases a2;cases t2;exact .tup (e.tup n h) (.cons (.int _) (.cons (.int _) .nil))
theorem lU{α:Type} [DecidableEq α]:∀{l m:List α},l.Nodup->(∀a∈l,a∈m)->l.length<=m.length
 |[],m,_,_=>dX _
 |a::l,m,nd,h=>by
  have ha:=h a cC;have nd':=JZ.mp nd;have q:∀b∈l,b∈m.erase a:=λb hb=>by
   have hne:b≠a:=λe=>nd'.1 (e▸hb);exact(kB hne).mpr (h b (cY _ hb))
  have:=lU nd'.2 q;have e:=wev ha;have:0<m.length:=wcw ha;simp only[wB];omega
structure aY(n:Int)(ps:L0):Prop where
 nd:ps.Nodup
 lt:∀p∈ps,0<=p.1/\p.1<p.2/\p.2<n
noncomputable def aa6(n:Nat):L0:=((ai n).map λ(j:Nat)=>(ai j).map λ(i:Nat)=>((i:Int),(j:Int))).flatten
theorem pairs_len(h:aY n ps)(hn:n<=10):ps.length<=45:=by
 have q:=lU (m:=aa6 10) h.nd λp hp=>by
  obtain⟨h0,h1,h2⟩:=h.lt p hp;obtain⟨a,b⟩:=p;dsimp only at h0 h1 h2;refine List.mem_flatten.mpr ⟨(ai b.toNat).map λ(i:Nat)=>((i:Int),((b.toNat:Nat):Int)),dF.mpr ⟨b.toNat,qC.mpr (by omega),rfl⟩,dF.mpr ⟨a.toNat,qC.mpr (by omega),?_⟩⟩;have e1:((a.toNat:Nat):Int)=a:=by omega
  have e2:((b.toNat:Nat):Int)=b:=by omega
  rw[e1,e2]
 have e:(aa6 10).length=45:=by decide
 omega
noncomputable def pl(p:Int×Int):ζ:=[p.1,p.2]
noncomputable def bN(ts:L0)(i j:Int):Bool:=decide ((i,j)∈ts)||decide ((j,i)∈ts)
theorem tied_eq(h:aY n ts)(i j):aq ts i j=bN ts i j:=by
 unfold aq bN;have no:∀{a b:Int},b<=a->decide ((a,b)∈ts)=false:=λ{a b} hab=>gj λhm=>by
  have:=(h.lt _ hm).2.1;dsimp only at this;omega
 rcases yew i j with c|c|c
 ·rw[ao (show¬j<i by omega),au (show j>i by omega),no (show i<=j by omega),Bool.or_false]
 ·subst c;rw[ao (show¬i<i by omega),Bool.or_self]
  try rw[ao (show¬i>i by omega)]
 ·rw[au (show j<i by omega),ao (show¬j>i by omega),no (show j<=i by omega),wgo]
end oF
namespace Hs
open PySem L2 oF
noncomputable def Av(p q:Int×Int):Prop:=p.1<q.1\/(p.1=q.1/\p.2<q.2)
theorem Av.trans(a:Av p q)(b:Av q r):Av p r:=by
 unfold Av at *;omega
theorem Vi(h:HT.lexLt (pl p) (pl q)=true):Av p q:=by
 rw[HT.bQ]at h;have:=fW h;unfold pl at this;rw[yeq]at this;rcases this with a|⟨a,b⟩
 ·exact .inl a
 ·rw[yeq]at b;rcases b with b|⟨_,b⟩
  ·exact .inr ⟨a,b⟩
  ·exact absurd b (by simp)
noncomputable def row(so:Int->Int->Bool)(i:Int)(k:Nat):L0:=((ai k).map λ(t:Nat)=>(i,i+1+(t:Int))).filter λp=>so p.1 p.2
noncomputable def rows(so:Int->Int->Bool)(m:Int)(i:Nat):L0:=((ai i).map λ(t:Nat)=>row so (0+(t:Int)) (m-(0+(t:Int)+1)).toNat).flatten
end Hs
namespace L2
open PySem
theorem cF.get':∀{xs:List V}{ds:θ}{i:Nat},cF K H xs ds->i<ds.length->∃x d,xs[i]? =some x/\ds[i]? =some d/\DV K H x d
 |_,_,i,.nil,h=>by simp at h
 |_,_,0,.cons h _,_=>⟨_,_,rfl,rfl,h⟩
 |_,_,i+1,.cons _ t,h=>by
  obtain⟨x,d,h1,h2,h3⟩:=cF.get' (i:=i) t (by simpa using h);exact⟨x,d,by simpa using h1,by simpa using h2,h3⟩
end L2
namespace Hs
open PySem L2 oF
structure aR(K:ag)(H:Hp)(a:af)(n:Int)(ts:L0):Prop where
 web:lC K H a n ts
 h0:0<=n
 h1:n<=10
 pk:aY n ts
 ok:RP n ts
theorem aR.same(h:aR K H a n ts)(e:Same H H'):aR K H' a n ts:=⟨h.web.same e,h.h0,h.h1,h.pk,h.ok⟩
theorem aR.len(h:aR K H a n ts):ts.length<=45:=pairs_len h.pk h.h1
theorem Jd{ps:L0}(h:cF K H rs (ps.map pairD))(hx:rs[i]? =some x):∃(t:af) (hi:i<ps.length),x=.ref t/\SqT K H t [.int (ps[i]).1,.int (ps[i]).2]:=by
 have ad:=h.len;rw[aF]at ad;have hi:i<ps.length:=by rw[<-ad];exact(oR.mp hx).1
 obtain⟨x',d,e1,e2,e3⟩:=cF.get' (i:=i) h (by rw[aF];exact hi);rw[hx]at e1;cases e1;rw[cV,eN hi]at e2;cases e2;cases e3 with
 |tup hp tp=>
  cases tp with
  |cons ta tb=>
   cases tb with
   |cons tc td=>
    cases td;cases ta;cases tc;exact⟨_,hi,rfl,hp⟩
noncomputable def dM(K:ag)(H:Hp)(l:af)(R:L0)(P:Int×Int->Prop):Prop:=∃(rs:List V) (ts:L0),H l=some (.lst rs)/\cF K H rs (ts.map pairD)/\ts.Sublist R/\∀p∈ts,P p
theorem dM.nil{P:Int×Int->Prop}(h:H l=some (.lst [])):dM K H l R P:=⟨[],[],h,.nil,List.nil_sublist _,λp hp=>(nomatch hp)⟩
theorem dM.same{P:Int×Int->Prop}(h:dM K H l R P)(e:Same H H'):dM K H' l R P:=by
 obtain⟨rs,ts,h1,h2,h3⟩:=h;exact⟨rs,ts,e _ _ h1,h2.same e,h3⟩
theorem dM.step{P:Int×Int->Prop}(h:dM K H l R P)(e:aB c H H')(hc:H c=some (.lst zs))(n:l≠c):dM K H' l R P:=by
 obtain⟨rs,ts,h1,h2,h3⟩:=h;exact⟨rs,ts,e _ _ n h1,iC e hc h2,h3⟩
theorem dM.mono{P:Int×Int->Prop}(h:dM K H l R P)(e:R.Sublist R'):dM K H l R' P:=by
 obtain⟨rs,ts,h1,h2,h3,h4⟩:=h;exact⟨rs,ts,h1,h2,h3.trans e,h4⟩
structure RZ(n:Int)(xs:ζ):Prop where
 WM:xs.Pairwise (· < ·)
 lt:∀x∈xs,0<=x/\x<n
end Hs
namespace Hs
open oF
noncomputable def inB(xs:ζ)(p:Int×Int):Bool:=decide (p.1∈xs)&&decide (p.2∈xs)
end Hs
namespace Hs
noncomputable def ff:Nat->Nat
 |0=>1
 |1=>1
 |2=>2
 |3=>3
 |4=>4
 |5=>6
 |6=>9
 |7=>12
 |8=>18
 |9=>27
 |_=>36
theorem uo:∀m n:Nat,m<=n->n<=10->ff m<=ff n:=by
 have h:∀n:Fin 11,∀m:Fin 11,m.val<=n.val->ff m.val<=ff n.val:=by decide
 intro m n hm hn;exact h ⟨n,by omega⟩ ⟨m,by omega⟩ hm
theorem VR:∀n d:Nat,0<d->d<=n->n<=10->d*ff (n-d)<=ff n:=by
 have h:∀n:Fin 11,∀d:Fin 11,0<d.val->d.val<=n.val->d.val*ff (n.val-d.val)<=ff n.val:=by decide
 intro n d h0 hd hn;exact h ⟨n,by omega⟩ ⟨d,by omega⟩ h0 hd
structure Full(r:Int->Int->Bool)(V:ζ)(s:ζ):Prop where
 up:s.Pairwise (· < ·)
 sub:∀x∈s,x∈V
 ind:∀x∈s,∀y∈s,x≠y->r x y=false
 max:∀v∈V,v∉s->∃x∈s,r x v=true
theorem Ci(g:Int->Nat):∀V:ζ,V≠[]->∃v∈V,∀u∈V,g v<=g u
 |[],h=>absurd rfl h
 |[x],_=>⟨x,by simp,λu hu=>by rw[fV.mp hu];exact aQ _⟩
 |x::y::V,_=>by
  obtain⟨v,hv,hm⟩:=Ci g (y::V) (by simp);by_cases c:g x<=g v
  ·refine⟨x,by simp,λu hu=>?_⟩;rcases cX.mp hu with e|e
   ·rw[e];exact aQ _
   ·exact bR c (hm u e)
  ·refine⟨v,cY _ hv,λu hu=>?_⟩;rcases cX.mp hu with e|e
   ·rw[e];omega
   ·exact hm u e
theorem n6{α:Type}(p:α->Bool):∀l:List α,(l.filter p).length+(l.filter λx=> !p x).length=l.length
 |[]=>rfl
 |x::l=>by
  have ih:=n6 p l;rw[Ao,Ao];cases p x<;>simp <;>omega
theorem xZ{α β:Type}(p:β->α->Bool)(m):∀(us:List β) (fs:List α),(∀s∈fs,∃u∈us,p u s=true)->(∀u∈us,∀gs:List α,gs.Sublist fs->(∀s∈gs,p u s=true)->gs.length<=m)->fs.length<=us.length*m
 |[],fs,h,_=>by
  cases fs with
  |nil=>simp
  |cons s fs=>obtain⟨u,hu,_⟩:=h s (by simp);cases hu
 |u::us,fs,h,hm=>by
  have e:=n6 (p u) fs;have a:=hm u (by simp) (fs.filter (p u)) yds (λs hs=>(fD.mp hs).2);have b:=xZ p m us (fs.filter λx=> !p u x) (λs hs=>by
   obtain⟨h1,h2⟩:=fD.mp hs;obtain⟨w,hw,hp⟩:=h s h1;rcases cX.mp hw with z|z
   ·rw[z]at hp;rw[hp]at h2;cases h2
   ·exact⟨w,z,hp⟩) (λw hw gs hg hp=>hm w (cY _ hw) gs (hg.trans yds) hp)
  rw[wB,wgt];omega
theorem yC:∀{xs ys:ζ},xs.Pairwise (· < ·)->ys.Pairwise (· < ·)->(∀k,k∈xs↔k∈ys)->xs=ys
 |[],[],_,_,_=>rfl
 |[],y::ys,_,_,h=>by have:=(h y).mpr (by simp);simp at this
 |x::xs,[],_,_,h=>by have:=(h x).mp (by simp);simp at this
 |x::xs,y::ys,hx,hy,h=>by
  rw[yfj]at hx hy;have e:x=y:=by
   have a:=(h x).mp (by simp);have b:=(h y).mpr (by simp);rcases cX.mp a with a|a
   ·exact a
   ·rcases cX.mp b with b|b
    ·exact b.symm
    ·have:=hy.1 x a;have:=hx.1 y b;omega
  subst e;rw[yC hx.2 hy.2 λk=>?_];constructor
  ·intro hk;rcases cX.mp ((h k).mp (cY _ hk))with a|a
   ·have:=hx.1 k hk;omega
   ·exact a
  ·intro hk;rcases cX.mp ((h k).mpr (cY _ hk))with a|a
   ·have:=hy.1 k hk;omega
   ·exact a
theorem qU{α β:Type}{g:α->β}:∀{l:List α},l.Nodup->(∀a∈l,∀b∈l,g a=g b->a=b)->(l.map g).Nodup
 |[],_,_=>wgi
 |a::l,h,hi=>by
  rw[JZ]at h;rw[iQ,JZ];refine⟨λhm=>?_,qU h.2 λx hx y hy=>hi x (cY _ hx) y (cY _ hy)⟩;obtain⟨b,hb,e⟩:=dF.mp hm;have:=hi b (cY _ hb) a (by simp) e;rw[this]at hb;exact h.1 hb
noncomputable def cG(r:Int->Int->Bool)(v u:Int):Bool:=decide (u=v)||r u v
theorem vO(sym:∀i j,r i j=r j i):∀(n:Nat) (V:ζ),V.length=n->n<=10->∀fs:List ζ,fs.Nodup->(∀s∈fs,Full r V s)->fs.length<=ff n:=by
 intro n
 induction n using Nat.strongRecOn with
 |ind n ih=>
  intro V hV hn fs nd hf;by_cases hz:V=[]
  ·have e:∀s∈fs,s=[]:=λs hs=>by
    cases s with
    |nil=>rfl
    |cons x s=>have:=(hf _ hs).sub x (by simp);rw[hz]at this;cases this
   have l1:fs.length<=1:=by
    match fs,nd,e with
    |[],_,_=>simp
    |[_],_,_=>simp
    |a::b::fs,nd,e=>
     exfalso;rw[JZ]at nd;apply nd.1;rw[e a (by simp),e b (by simp)];simp
   have:1<=ff n:=by
    have:=uo 0 n (dX _) hn;exact this
   omega
  obtain⟨v,hv,hmin⟩:=Ci (λu=>(V.filter (cG r u)).length) V hz;have key:=xZ (λ(u:Int) (s:ζ)=>decide (u∈s)) (ff (n-(V.filter (cG r v)).length)) (V.filter (cG r v)) fs (λs hs=>?_) (λu hu gs hg hp=>?_)
  ·have hle:(V.filter (cG r v)).length<=n:=by rw[<-hV];exact sO _ _
   have hpos:0<(V.filter (cG r v)).length:=wcw (fD.mpr ⟨hv,by unfold cG;simp⟩);exact bR key (VR n _ hpos hle hn)
  ·by_cases c:v∈s
   ·exact⟨v,fD.mpr ⟨hv,by unfold cG;simp⟩,bY c⟩
   ·obtain⟨x,hx,hr⟩:=(hf s hs).max v hv c;exact⟨x,fD.mpr ⟨(hf s hs).sub x hx,by unfold cG;rw[hr];simp⟩,bY hx⟩
  ·have huV:u∈V:=(fD.mp hu).1;have fg:∀s∈gs,Full r V s/\u∈s:=λs hs=>⟨hf s (hg.subset hs),fW (hp s hs)⟩;have hle:(V.filter (cG r u)).length<=n:=by rw[<-hV];exact sO _ _
   have hge:=hmin u huV;have hpos:0<(V.filter (cG r u)).length:=wcw (fD.mpr ⟨huV,by unfold cG;simp⟩);have hV2:(V.filter λx=> !cG r u x).length=n-(V.filter (cG r u)).length:=by have:=n6 (cG r u) V;omega
   have Gf:∀(s:ζ) (x:Int),x∈s.filter (λx=> !decide (x=u))↔x∈s/\x≠u:=λs x=>by rw[fD];simp
   have h1:=ih (n-(V.filter (cG r u)).length) (by omega) (V.filter λx=> !cG r u x) hV2 (by omega) (gs.map λs=>s.filter λx=> !decide (x=u)) (qU (nd.sublist hg) λs hs t ht e=>?_) (λt ht=>?_)
   ·rw[aF]at h1;exact bR h1 (uo _ _ (by omega) (by omega))
   ·obtain⟨a1,a2⟩:=fg s hs;obtain⟨b1,b2⟩:=fg t ht;refine yC a1.up b1.up λk=>?_;have hk:k∈s.filter (λx=> !decide (x=u))↔k∈t.filter (λx=> !decide (x=u)):=by rw[show s.filter (λx=> !decide (x=u))=t.filter (λx=> !decide (x=u))from e]
    rw[Gf,Gf]at hk;by_cases c:k=u
    ·rw[c];exact⟨λ_=>b2,λ_=>a2⟩
    ·exact⟨λz=>(hk.mp ⟨z,c⟩).1,λz=>(hk.mpr ⟨z,c⟩).1⟩
   ·obtain⟨s,hs,rfl⟩:=dF.mp ht;obtain⟨a1,a2⟩:=fg s hs;refine⟨a1.up.sublist yds,λx hx=>?_,λx hx y hy=>?_,λw hw hn=>?_⟩
    ·obtain⟨x1,x2⟩:=(Gf s x).mp hx;refine fD.mpr ⟨a1.sub x x1,?_⟩;unfold cG;rw[a1.ind x x1 u a2 x2,gj x2];rfl
    ·exact a1.ind x ((Gf s x).mp hx).1 y ((Gf s y).mp hy).1
    ·obtain⟨w1,w2⟩:=fD.mp hw;have w3:cG r u w=false:=by simpa using w2
     unfold cG at w3;rw[kC]at w3;have wu:w≠u:=wbv w3.1;have ws:w∉s:=λz=>hn ((Gf s w).mpr ⟨z,wu⟩);obtain⟨x,hx,hr⟩:=a1.max w w1 ws;have xu:x≠u:=λz=>by rw[z,sym u w,w3.2]at hr;cases hr
     exact⟨x,(Gf s x).mpr ⟨hx,xu⟩,hr⟩
end Hs
namespace Hs
open PySem oF
noncomputable def rng(n:Nat):ζ:=(ai n).map λk=>((k:Nat):Int)
theorem iH:x∈rng n↔0<=x/\x<(n:Int):=by
 unfold rng;rw[dF];constructor
 ·rintro⟨k,hk,rfl⟩;have:=qC.mp hk;omega
 ·rintro⟨h0,h1⟩;exact⟨x.toNat,qC.mpr (by omega),by omega⟩
theorem Sy(ts)(i j):bN ts i j=bN ts j i:=by unfold bN;rw[Bool.or_comm]
noncomputable def goB(ts:L0)(w:Bool)(s:ζ)(p:Int):Bool:=s.all λq=>bN ts p q==w
noncomputable def bZ(ts:L0)(w:Bool):Nat->List ζ
 |0=>[[]]
 |k+1=>bZ ts w k++((bZ ts w k).filter λs=>goB ts w s (k:Int)).map λs=>s++[(k:Int)]
noncomputable def pY(ts:L0)(w:Bool)(n:Nat)(s:ζ):Bool:= !((rng n).any λp=> !decide (p∈s)&&goB ts w s p)
noncomputable def jM(ts:L0)(w:Bool)(n:Nat):List ζ:=(bZ ts w n).filter (pY ts w n)
structure oE(ts:L0)(w:Bool)(k:Nat)(s:ζ):Prop where
 up:s.Pairwise (· < ·)
 lt:∀x∈s,0<=x/\x<(k:Int)
 all:∀x∈s,∀y∈s,x≠y->(bN ts x y==w)=true
theorem nM:∀(k:Nat) (s:ζ),s∈bZ ts w k->oE ts w k s
 |0,s,h=>by
  rw[fV.mp (show s∈[[]]from h)];exact⟨ez,λx hx=>(nomatch hx),λx hx=>(nomatch hx)⟩
 |k+1,s,h=>by
  rcases lM.mp (show s∈bZ ts w k++((bZ ts w k).filter λs=>goB ts w s (k:Int)).map λs=>s++[(k:Int)]from h)with q|q
  ·have S:=nM k s q;exact⟨S.up,λx hx=>by have:=S.lt x hx;omega,S.all⟩
  ·obtain⟨t,ht,rfl⟩:=dF.mp q;obtain⟨t1,t2⟩:=fD.mp ht;have S:=nM k t t1;have g:∀y∈t,(bN ts (k:Int) y==w)=true:=λy hy=>iW.mp t2 y hy;refine⟨?_,λx hx=>?_,λx hx y hy hne=>?_⟩
   ·rw[ydk];refine⟨S.up,ycx _ _,λx hx y hy=>?_⟩;rw[fV.mp hy];exact(S.lt x hx).2
   ·rcases lM.mp hx with z|z
    ·have:=S.lt x z;omega
    ·rw[fV.mp z];omega
   ·rcases lM.mp hx with z|z
    ·rcases lM.mp hy with z'|z'
     ·exact S.all x z y z' hne
     ·rw[fV.mp z',Sy];exact g x z
    ·rw[fV.mp z]at hne⊢;rcases lM.mp hy with z'|z'
     ·exact g y z'
     ·exact absurd (fV.mp z').symm hne
theorem gB:∀k:Nat,(bZ ts w k).Nodup
 |0=>by show([[]]:List ζ).Nodup;simp
 |k+1=>by
  show(bZ ts w k++((bZ ts w k).filter λs=>goB ts w s (k:Int)).map λs=>s++[(k:Int)]).Nodup;refine List.nodup_append.mpr ⟨gB k,qU ((gB k).filter _) (λa _ b _ e=>wew e),λa ha b hb e=>?_⟩;obtain⟨t,_,rfl⟩:=dF.mp hb;have:=(nM k a ha).lt (k:Int) (by rw[e];simp);omega
theorem Bp:∀k:Nat,(bZ ts w k).length<=2^k
 |0=>aQ _
 |k+1=>by
  show(bZ ts w k++((bZ ts w k).filter λs=>goB ts w s (k:Int)).map λs=>s++[(k:Int)]).length<=2^(k+1);rw[oO,aF,yfn];have a:=Bp (ts:=ts) (w:=w) k;have b:=sO (λs=>goB ts w s (k:Int)) (bZ ts w k);omega
theorem zF(h:s∈jM ts w n):Full (λi j=> !(bN ts i j==w)) (rng n) s:=by
 obtain⟨h1,h2⟩:=fD.mp h;have S:=nM n s h1;refine⟨S.up,λx hx=>iH.mpr (S.lt x hx),λx hx y hy hne=>by rw[S.all x hx y hy hne];rfl,λv hv hn=>?_⟩;unfold pY at h2;apply WD;intro hc;have h3:((rng n).any λp=> !decide (p∈s)&&goB ts w s p)=false:=by simpa using h2
 rw[ydy]at h3;apply h3 v hv;rw[gj hn];show goB ts w s v=true;unfold goB;rw[iW];intro q hq;cases e:(bN ts v q==w)with
 |true=>rfl
 |false=>exact absurd ⟨q,hq,by show(!(bN ts q v==w))=true;rw[Sy,e];rfl⟩ hc
theorem xW(hn:n<=10):(jM ts w n).length<=36:=by
 have h:=vO (r:=λi j=> !(bN ts i j==w)) (λi j=>by rw[Sy]) n (rng n) (by unfold rng;simp) hn (jM ts w n) ((gB n).filter _) (λs hs=>zF hs);have:=uo n 10 hn (aQ _);exact bR h this
noncomputable def jL(ts:L0)(w:Bool)(n:Nat)(s:ζ):ζ:=(rng n).filter λp=>s.all λq=> !decide (p=q)&&(bN ts q p==w)
noncomputable def pZ(ts:L0)(w:Bool)(n:Nat)(q:Int):ζ:=(rng n).filter λp=> !decide (p=q)&&(bN ts q p==w)
theorem QM(ts)(w)(n):jL ts w n []=rng n:=by unfold jL;exact yei.mpr λ_ _=>rfl
theorem K8(ts)(w)(n)(s)(k):jL ts w n (s++[k])=(jL ts w n s).filter λp=>decide (p∈pZ ts w n k):=by
 unfold jL;rw[List.filter_filter];refine List.filter_congr λp hp=>?_;rw[List.all_append,Bool.and_comm];congr 1;unfold pZ;rw[sS,was,fD];simp[hp]
theorem Vp(hs:oE ts w k s)(hk:k<n):decide ((k:Int)∈jL ts w n s)=goB ts w s (k:Int):=by
 unfold jL goB;rw[sS,was,fD,iW,iW];constructor
 ·rintro⟨_,h⟩ q hq;have:=h q hq;rw[fH]at this;rw[Sy];exact this.2
 ·intro h;refine⟨iH.mpr ⟨by omega,by omega⟩,λq hq=>?_⟩;have:=(hs.lt q hq).2;rw[fH];refine⟨?_,by rw[Sy];exact h q hq⟩;rw[gj (by omega)];rfl
theorem K9(ts)(w)(n)(s):decide (jL ts w n s=[])=pY ts w n s:=by
 unfold jL pY;rw[sS,was,ydb,wca,ydy];constructor
 ·intro h p hp hc;rw[fH]at hc;apply h p hp;rw[iW];intro q hq;have h1:p∉s:=by simpa using hc.1
  have h2:=iW.mp hc.2 q hq;rw[fH];refine⟨?_,by rw[Sy];exact h2⟩;have ne:¬p=q:=λe=>h1 (by rw[e];exact hq);rw[gj ne];rfl
 ·intro h p hp hc;apply h p hp;rw[iW]at hc;rw[fH];refine⟨?_,?_⟩
  ·have:p∉s:=λz=>by
    have:=hc p z;simp at this
   rw[gj this];rfl
  ·unfold goB;rw[iW];intro q hq;have:=hc q hq;rw[fH]at this;rw[Sy];exact this.2
theorem rW:∀{xs ys:ζ},xs.Pairwise (· < ·)->ys.Pairwise (· < ·)->(∀k,k∈xs↔k∈ys)->xs=ys
 |[],[],_,_,_=>rfl
 |[],y::ys,_,_,h=>by have:=(h y).mpr (by simp);simp at this
 |x::xs,[],_,_,h=>by have:=(h x).mp (by simp);simp at this
 |x::xs,y::ys,hx,hy,h=>by
  rw[yfj]at hx hy;have e:x=y:=by
   have a:=(h x).mp (by simp);have b:=(h y).mpr (by simp);rcases cX.mp a with a|a
   ·exact a
   ·rcases cX.mp b with b|b
    ·exact b.symm
    ·have:=hy.1 x a;have:=hx.1 y b;omega
  subst e;rw[rW hx.2 hy.2 λk=>?_];constructor
  ·intro hk;rcases cX.mp ((h k).mp (cY _ hk))with a|a
   ·have:=hx.1 k hk;omega
   ·exact a
  ·intro hk;rcases cX.mp ((h k).mpr (cY _ hk))with a|a
   ·have:=hy.1 k hk;omega
   ·exact a
theorem o9:∀(k:Nat) (s:ζ),oE ts w k s->s∈bZ ts w k
 |0,s,h=>by
  cases s with
  |nil=>show([]:ζ)∈[[]];simp
  |cons x s=>have:=h.lt x (by simp);omega
 |k+1,s,h=>by
  show s∈bZ ts w k++((bZ ts w k).filter λs=>goB ts w s (k:Int)).map λs=>s++[(k:Int)];by_cases c:(k:Int)∈s
  ·have hm:∀x,x∈s.filter (λx=> !decide (x=(k:Int)))↔x∈s/\x≠(k:Int):=λx=>by rw[fD];simp
   refine ig _ (dF.mpr ⟨s.filter (λx=> !decide (x=(k:Int))),fD.mpr ⟨o9 k _ ⟨h.up.filter _,λx hx=>?_,λx hx y hy hne=>?_⟩,?_⟩,?_⟩)
   ·have a:=(hm x).mp hx;have b:=h.lt x a.1;have:=a.2;omega
   ·exact h.all x ((hm x).mp hx).1 y ((hm y).mp hy).1 hne
   ·unfold goB;rw[iW];intro q hq;have a:=(hm q).mp hq;exact h.all _ c q a.1 (λe=>a.2 e.symm)
   ·refine rW ?_ h.up λx=>?_
    ·rw[ydk];refine⟨h.up.filter _,ycx _ _,λx hx y hy=>?_⟩;rw[fV.mp hy];have a:=(hm x).mp hx;have b:=h.lt x a.1;have:=a.2;omega
    ·rw[lM,hm,fV];constructor
     ·rintro(a|a)
      ·exact a.1
      ·rw[a];exact c
     ·intro a;by_cases e:x=(k:Int)
      ·exact .inr e
      ·exact .inl ⟨a,e⟩
  ·refine S6 _ (o9 k s ⟨h.up,λx hx=>?_,h.all⟩);have b:=h.lt x hx;have:x≠(k:Int):=λe=>c (by rw[<-e];exact hx);omega
theorem oE.of(F:Full (λi j=> !(bN ts i j==w)) (rng n) s):oE ts w n s:=
 ⟨F.up,λx hx=>iH.mp (F.sub x hx),λx hx y hy hne=>by
  have:=F.ind x hx y hy hne
  try dsimp only at this
  cases e:(bN ts x y==w)with
  |true=>rfl
  |false=>rw[e]at this;cases this⟩
theorem VL(F:Full (λi j=> !(bN ts i j==w)) (rng n) s):s∈jM ts w n:=by
 refine fD.mpr ⟨o9 n s (oE.of F),?_⟩;unfold pY;rw[wca,ydy];intro p hp hc;rw[fH]at hc;have hn:p∉s:=by simpa using hc.1
 obtain⟨x,hx,hr⟩:=F.max p hp hn;have:=iW.mp hc.2 x hx
 try dsimp only at hr this
 rw[Sy,this]at hr;cases hr
theorem Ji{α:Type}(g:α->Nat):∀V:List α,V≠[]->∃v∈V,∀u∈V,g u<=g v
 |[],h=>absurd rfl h
 |[x],_=>⟨x,by simp,λu hu=>by rw[fV.mp hu];exact aQ _⟩
 |x::y::V,_=>by
  obtain⟨v,hv,hm⟩:=Ji g (y::V) (by simp);by_cases c:g v<=g x
  ·refine⟨x,by simp,λu hu=>?_⟩;rcases cX.mp hu with e|e
   ·rw[e];exact aQ _
   ·exact bR (hm u e) c
  ·refine⟨v,cY _ hv,λu hu=>?_⟩;rcases cX.mp hu with e|e
   ·rw[e];omega
   ·exact hm u e
theorem Dg(hs:oE ts w n s):∃t∈jM ts w n,∀x∈s,x∈t:=by
 let C:=(bZ ts w n).filter λt=>s.all λx=>decide (x∈t);have mC:∀t,t∈C↔t∈bZ ts w n/\∀x∈s,x∈t:=λt=>by
  show t∈(bZ ts w n).filter _↔_;rw[fD,iW];simp
 have hne:C≠[]:=λe=>by
  have:s∈C:=(mC s).mpr ⟨o9 n s hs,λx hx=>hx⟩;rw[e]at this;cases this
 obtain⟨t,ht,hm⟩:=Ji cw C hne;obtain⟨h1,h2⟩:=(mC t).mp ht;have T:=nM n t h1;refine⟨t,VL ⟨T.up,λx hx=>iH.mpr (T.lt x hx),λx hx y hy hne=>?_,λv hv hn=>?_⟩,h2⟩
 ·show(!(bN ts x y==w))=false;rw[T.all x hx y hy hne];rfl
 ·apply WD;intro hc;have go:∀x∈t,(bN ts x v==w)=true:=λx hx=>by
   cases e:(bN ts x v==w)with
   |true=>rfl
   |false=>exact absurd ⟨x,hx,by show(!(bN ts x v==w))=true;rw[e];rfl⟩ hc
  have mU:∀x,x∈(rng n).filter (λx=>decide (x∈t)||decide (x=v))↔x∈t\/x=v:=λx=>by
   rw[fD,Bool.or_eq_true,was,was];constructor
   ·exactλz=>z.2
   ·rintro(z|z)
    ·exact⟨iH.mpr (T.lt x z),.inl z⟩
    ·exact⟨by rw[z];exact hv,.inr z⟩
  have up:((rng n).filter (λx=>decide (x∈t)||decide (x=v))).Pairwise (· < ·):=by
   refine wdp _ ?_;unfold rng;rw[J4];exact ydc.imp λ{a b} h=>by omega
  have U:oE ts w n ((rng n).filter (λx=>decide (x∈t)||decide (x=v))):=⟨up,λx hx=>iH.mp (fD.mp hx).1,λx hx y hy hne=>by
   rcases(mU x).mp hx with a|a
   ·rcases(mU y).mp hy with b|b
    ·exact T.all x a y b hne
    ·rw[b];exact go x a
   ·rcases(mU y).mp hy with b|b
    ·rw[a,Sy];exact go y b
    ·exact absurd (a.trans b.symm) hne⟩
  have inC:=(mC _).mpr ⟨o9 n _ U,λx hx=>(mU x).mpr (.inl (h2 x hx))⟩;have l1:=hm _ inC;have l2:=lU (l:=v::t) (m:=(rng n).filter (λx=>decide (x∈t)||decide (x=v))) (JZ.mpr ⟨hn,T.up.imp λ{a b} h=>by omega⟩) (λx hx=>by
   rcases cX.mp hx with z|z
   ·exact(mU x).mpr (.inr z)
   ·exact(mU x).mpr (.inl z))
  rw[wB]at l2;omega
end Hs
namespace Hs
open PySem L2 oF
section
variable{P:χ}{w:ω}{K:ag}{mg:L5}{base:bv}
theorem blV_eq(a b):decide (V.bl a=V.bl b)=(a==b):=by cases a<;>cases b<;>rfl
theorem intV_eq(a b):decide (V.int a=V.int b)=decide (a=b):=by
 by_cases e:a=b
 ·subst e;simp
 ·rw[gj e,gj (by intro z;injection z with z;exact e z)]
theorem Vo:(!decide (V.int a=V.int b))= !decide (a=b):=by rw[intV_eq]
theorem Ml(xs:ζ)(k):((xs.map am).any λd=>ar d (.int k))=decide (k∈xs):=by
 induction xs with
 |nil=>simp
 |cons x xs ih=>
  rw[iQ,Wh,ih];have e:ar (.int x) (.int k)=decide (k=x):=by
   show(x==k)=_;rw[sS];simp;exact⟨λh=>h.symm,λh=>h.symm⟩
  rw[e,sS];simp
theorem zbr{α:Type}{p:α->Bool}{l:List α}(hi:i<l.length):(l.take (i+1)).filter p=(l.take i).filter p++(if p l[i]=true then[l[i]]else[]):=by
 rw[qx,eN hi,J5];congr 1;show[l[i]].filter p=_;rw[Ao];rfl
theorem Pq(k):rng (k+1)=rng k++[(k:Int)]:=by unfold rng;rw[yt,bC];rfl
theorem Ny(n):dG n=(rng n).map V.int:=by unfold dG rng;rw[oN];rfl
inductive uH(K:ag)(vs:List V)(H:Hp)(Q:VK)(E_:XK):Prop
 |mk(l m:af)(xs ys:ζ)(_:vs=[.ref l,.ref m])(_:SqL K H l (xs.map V.int))(_:SqL K H m (ys.map V.int))(_:∀r H',Same H H'->H' r=some (.lst ((xs.filter λp=>decide (p∈ys)).map V.int))->H r=none->Q (.ref r) H')
theorem KR{f:af}{fd:ψ}
  (F:Fun K "in_both" "in_both" qM f fd):
  FnOk P w K mg base CX0 1 f fd ["ones","others"] (uH K):=by
 refine F.eG ["ones","others"] λH Q hr h=>?_;obtain⟨l,m,xs,ys,rfl,hL,hM,q⟩:=h;refine⟨_,(aZ (cu (pK ["place"] ["others"] [1] (wV (pv 0)) (pG 0) (JR (iM (iD K hr.units) (pv 0) (pv 1) (by with_unfolding_all rfl))) (pv 0)))),?_⟩;refine⟨_,rfl,l,_,rfl,hL,λhz=>?_⟩;refine Eb (xs:=xs.map V.int) (λk acc σ H'=>acc=((xs.take k).filter λp=>decide (p∈ys)).map V.int/\Same H H'/\∃o,σ=[o,some (.ref m)]) ⟨rfl,Same.refl _,_,rfl⟩ (λk acc σ H' _ p=>p.2.1.seq hL) (λk acc σ H' hk p=>?_) hz (λk x acc σ H' hx p=>?_) (λacc σ H' p=>?_)
 ·rw[p.1,aF];exact bR (sO _ _) (by rw[rQ];exact yq _ _)
 ·obtain⟨rfl,sm,o,rfl⟩:=p;rw[cV]at hx;cases ex:xs[k]? with
  |none=>rw[ex]at hx;cases hx
  |some y=>
   rw[ex]at hx;cases hx;obtain⟨hk,ey⟩:=oR.mp ex;have e:=zbr (p:=λp=>decide (p∈ys)) hk;rw[ey]at e;refine⟨_,rfl,_,rfl,m,_,_,.int y,rfl,.inl (sm.seq hM),cF.ints ys,.int _,Hz ys,rfl,(by show 0<=60;decide),_,rfl,?_⟩;rw[Ml];refine ite2 (λc=>?_) (λc=>?_)
   ·exact⟨_,rfl,by rw[e,au c,bC];rfl,sm,_,rfl⟩
   ·exact⟨by rw[e,ao c,tL],sm,_,rfl⟩
 ·intro p1 hp1;obtain⟨rfl,sm,_⟩:=p;rw[aF,qw];exact q p1 _ (sm.trans (aP hp1 _)) aH (sm.free hp1)
inductive yN(K:ag)(vs:List V)(H:Hp)(Q:VK)(E_:XK):Prop
 |mk(a:af)(n i:Int)(ts:L0)(w:Bool)(_:vs=[.ref a,.int i,.bl w])(_:aR K H a n ts)(_:∀r H',Same H H'->H' r=some (.lst ((pZ ts w n.toNat i).map V.int))->H r=none->Q (.ref r) H')
theorem Qn{f:af}{fd:ψ}
  (F:Fun K "places_by_tie" "places_by_tie" zdj f fd)(D1:Dp P w K mg base 1 "has_tie" gq ["web","one","other"] (rR K))(aG:mg "range"=none):
  FnOk P w K mg base CX0 2 f fd ["web","place","tied"] (yN K):=by
 refine F.eG ["web","place","tied"] λH Q hr h=>?_;obtain⟨a,n,i,ts,w,rfl,hA,q⟩:=h;refine⟨_,(aZ (cu (pK ["other"] ["place","web","tied"] [1,0,2] (Ec rfl aG (aj (bB fU (pv 0) aM) aA)) (pG 0) (JR (PW.pt (pw_and (iM op_ne (pv 0) (pv 1)) (pw_and1 (iM op_eq (pd D1 hr (aj (pv 2) (aj (pv 1) (aj (pv 0) aA)))) (pv 3)))))) (pv 0)))),?_⟩;have h0:=hA.h0;have h10:=hA.h1;obtain⟨ta,ra,a1,a2,a3⟩:=id hA.web;refine⟨_,rfl,a,_,_,.int n,rfl,rfl,a1,rfl,n,rfl,by omega,by omega,?_⟩;refine Mt (n:=n.toNat) (λk acc σ H'=>acc=((rng k).filter λp=> !decide (p=i)&&(bN ts i p==w)).map V.int/\Same H H'/\∃o,σ=[o,some (.int i),some (.ref a),some (.bl w)]) ⟨rfl,Same.refl _,_,rfl⟩ (λk acc σ H' hk p=>?_) (by rw[eZ];omega) (λk acc σ H' hk p=>?_) (λacc σ H' p=>?_)
 ·rw[p.1,aF];exact bR (sO _ _) (by unfold rng;simp)
 ·obtain⟨rfl,sm,o,rfl⟩:=p;have ek:(0+(k:Int))=(k:Int):=by omega
  rw[ek];have e:∀b,b=(!decide ((k:Int)=i)&&(bN ts i (k:Int)==w))->((rng (k+1)).filter λp=> !decide (p=i)&&(bN ts i p==w))=((rng k).filter λp=> !decide (p=i)&&(bN ts i p==w))++(if b=true then[(k:Int)]else[]):=λb hb=>by
   rw[Pq,J5,Ao,hb];rfl
  refine⟨_,rfl,_,rfl,rfl,_,rfl,?_⟩;rw[Vo];refine ite2 (λc=>?_) (λc=>?_)
  ·refine⟨_,rfl,_,rfl,_,rfl,a,n,_,_,ts,rfl,(hA.same sm).web,λH5 s5=>⟨_,rfl,rfl,_,rfl,?_⟩⟩;rw[blV_eq,tied_eq hA.pk];refine ite2 (λc2=>?_) (λc2=>?_)
   ·exact⟨_,rfl,by rw[e true (by rw[c,c2];rfl),bC];rfl,sm.trans s5,_,rfl⟩
   ·exact⟨by rw[e false (by rw[c,Bool.eq_false_iff.mpr c2];rfl)];simp,sm.trans s5,_,rfl⟩
  ·exact⟨by rw[e false (by rw[Bool.eq_false_iff.mpr c];rfl)];simp,sm,_,rfl⟩
 ·intro p1 hp1;obtain⟨rfl,sm,_⟩:=p;exact q p1 _ (sm.trans (aP hp1 _)) aH (sm.free hp1)
noncomputable def RX(K:ag)(H:Hp)(r:af)(ss:List ζ):Prop:=∃its:List (af×ζ),H r=some (.lst (its.map λp=>V.ref p.1))/\(∀p∈its,SqT K H p.1 (p.2.map V.int))/\its.map (λp=>p.2)=ss
noncomputable def cH(ss:List ζ)(ts:L0)(w:Bool)(n:Nat):Prop:=ss.Perm (jM ts w n)/\ss.Pairwise λa b=>HT.lexLt b a=false
theorem VJ{w:Bool}(h2:2<=(jM ts w n).length):∀s∈jM ts w n,s≠[]:=by
 intro s hs e;subst e;have F:=zF hs;cases n with
 |zero=>
  have:(jM ts w 0).length<=1:=by
   show(([[]]:List ζ).filter (pY ts w 0)).length<=1;exact sO _ _
  omega
 |succ n=>
  obtain⟨x,hx,_⟩:=F.max 0 (iH.mpr ⟨by omega,by omega⟩) (by simp);cases hx
structure Fit(K:ag)(H:Hp)(ts:L0)(w:Bool)(n:Nat)(q:af×af×af×ζ):Prop where
 pr:SqT K H q.1 [.ref q.2.1,.ref q.2.2.1]
 so:SqT K H q.2.1 (q.2.2.2.map V.int)
 le:H q.2.2.1=some (.lst ((jL ts w n q.2.2.2).map V.int))
theorem Fit.same{w:Bool}(h:Fit K H ts w n q)(e:Same H H'):Fit K H' ts w n q:=⟨e.tup h.pr,e.tup h.so,e _ _ h.le⟩
noncomputable def R8(K:ag)(H:Hp)(fd:af)(ts:L0)(w:Bool)(n:Nat)(ss:List ζ):Prop:=∃its:List (af×af×af×ζ),H fd=some (.lst (its.map λq=>V.ref q.1))/\(∀q∈its,Fit K H ts w n q)/\its.map (λq=>q.2.2.2)=ss
inductive nJ(K:ag)(vs:List V)(H:Hp)(Q:VK)(E_:XK):Prop
 |mk(fl:af)(fas:η)(ts:L0)(w:Bool)(n:Nat)(_:vs=[.ref fl])(_:H fl=some (.lst (fas.map V.ref)))(_:fas.length=n)(_:n<=10)(_:∀(i:Nat) f,fas[i]? =some f->H f=some (.lst ((pZ ts w n (i:Int)).map V.int)))(_:∀r ss H',Same H H'->RX K H' r ss->cH ss ts w n->H r=none->Q (.ref r) H')
theorem BL{f:af}{fd:ψ}
  (F:Fun K "full_sets" "full_sets" j9 f fd)(D1:Dp P w K mg base 1 "in_both" qM ["ones","others"] (uH K))(qW:mg "list"=none)(aG:mg "range"=none)(bU:mg "len"=none)(kO:mg "sorted"=none):
  FnOk P w K mg base CX0 2 f fd ["friends"] (nJ K):=by
 refine F.U4 ["friends","found","place","wider"] λcdv A outer s H vs Q E hr h=>?_;obtain⟨fl,fas,ts,w,n,rfl,hF,hn,h10,hfr,q⟩:=h;refine cg ?_;intro Y;refine⟨_,(aO (pS 1 (pe_lst (aj (lY (aj (lY aA) (aj (su rfl rfl qW rfl aG (aj (pB yp bU (aj (pv 0) aA)) aA)) aA))) aA))) (aO (Ay wX rfl (Ec rfl aG (aj (pB yp bU (aj (pv 0) aA)) aA)) (pG 2) (aO (pX 3 ["some","left"] ["place","friends"] [2,0] (wV (pv 1)) (dY K (n:=2) rfl (jO (pG 0) (jO (pG 1) Al))) (JR (iM (iD K hr.units) (pv 2) (pv 1) (by with_unfolding_all rfl))) (lY (aj (bW (Bx K) (pv 0) (lY (aj (pv 2) aA))) (aj (pd D1 hr (aj (pv 1) (aj (bB (gK K) (pv 3) (pv 2)) aA))) aA)))) (aZ (pS 1 (bW op_cat (pv 1) (pv 3)))))) (aZ (cu (pB zX kO (aj (pK ["some","left"] [] [] (wV (pv 1)) (dY K (n:=2) rfl (jO (pG 0) (jO (pG 1) Al))) (JR (sJ (Kr K (pv 1) (λ_=>rfl)))) (pv 0)) aA)))))),?_⟩;refine lg ?_;intro c3 c2;have el:((fas.map V.ref).length:Int)=(n:Int):=by rw[aF,hn]
 refine⟨szl,λe1 Ze=>?_⟩;have s1:=aP Ze (.tup []);have t1:SqT K (upd H e1 (.tup [])) e1 []:=SqT.of aH;generalize (upd H e1 (.tup []))=H1 at *;refine⟨_,rfl,fl,_,rfl,.inl (SqL.of (s1 _ _ hF)),λ_=>⟨_,rfl,by omega,by rw[el];omega,λrl hrl=>?_⟩⟩;have er:dG ((fas.map V.ref).length:Int).toNat=(rng n).map V.int:=by rw[el,wC,Ny]
 rw[er];have s2:=aP hrl (.lst ((rng n).map V.int));have t2:(upd H1 rl (.lst ((rng n).map V.int))) rl=some (.lst ((rng n).map V.int)):=aH;generalize (upd H1 rl (.lst ((rng n).map V.int)))=H2 at *;refine⟨szl,λe3 he3=>?_⟩;have s3:=aP he3 (.tup [.ref e1,.ref rl]);have t3:SqT K (upd H2 e3 (.tup [.ref e1,.ref rl])) e3 [.ref e1,.ref rl]:=SqT.of aH;generalize (upd H2 e3 (.tup [.ref e1,.ref rl]))=H3 at *;refine⟨szl,λfd hfd=>?_⟩;have s4:=aP hfd (.lst [.ref e3]);have F4:R8 K (upd H3 fd (.lst [.ref e3])) fd ts w n (bZ ts w 0):=by
  refine⟨[(e3,e1,rl,[])],aH,λq hq=>?_,rfl⟩;rw[fV.mp hq];exact⟨s4.tup t3,s4.tup (s3.tup (s2.tup t1)),by rw[QM];exact s4 _ _ (s3 _ _ t2)⟩
 have s04:=s1.trans (s2.trans (s3.trans s4));generalize (upd H3 fd (.lst [.ref e3]))=H4 at *;refine⟨_,rfl,fl,_,rfl,.inl (SqL.of (s04 _ _ hF)),λ_=>⟨_,rfl,by omega,by rw[el];omega,?_⟩⟩;have en:((fas.map V.ref).length:Int).toNat=n:=by rw[el,wC]
 rw[en];let mH:Nat->St->Hp->Prop:=λk σ H'=>Same H H'/\∃fd b2 b3,R8 K H' fd ts w n (bZ ts w k)/\σ=[some (.ref fl),some (.ref fd),b2,b3];refine Tt (n:=n) mH ⟨s04,fd,_,_,F4,rfl⟩ (λk σ H' hk p=>?_) (λσ H' p=>?_)
 ·obtain⟨s5,fd,b2,b3,F5,rfl⟩:=p;have ek:(0+(k:Int))=(k:Int):=by omega
  rw[ek];obtain⟨its,f1,f2,f3⟩:=F5;have ad:its.length<=1024:=by
   have a:=Bp (ts:=ts) (w:=w) k;rw[<-f3,aF]at a;have b:2^k<=2^10:=Xz (by decide) (by omega);have c:2^10=1024:=by decide
   omega
  have hkf:k<fas.length:=by omega
  have hfk:(fas.map V.ref)[k]? =some (.ref fas[k]):=by rw[cV,eN hkf];rfl
  have hgk:=hfr k fas[k] (eN hkf);refine⟨_,rfl,fd,_,rfl,SqL.of f1,λhzf=>?_⟩;let Ad:Nat->List V->St->Hp->Prop:=λi acc σ yj=>(∃its2:List (af×af×af×ζ),acc=its2.map (λq=>V.ref q.1)/\(∀q∈its2,Fit K yj ts w n q)/\its2.map (λq=>q.2.2.2)=(((bZ ts w k).take i).filter λs=>goB ts w s (k:Int)).map λs=>s++[(k:Int)])/\Same H' yj/\∃o1 o2,σ=[o1,o2,some (.int (k:Int)),some (.ref fl)];refine Eb (xs:=its.map λq=>V.ref q.1) Ad ⟨⟨[],rfl,λq hq=>(nomatch hq),rfl⟩,Same.refl _,_,_,rfl⟩ (λi acc σ yj _ p=>p.2.1.seq (SqL.of f1)) (λi acc σ yj hi p=>?_) hzf (λi x acc σ yj hx p=>?_) (λacc σ yj p=>?_)
  ·obtain⟨⟨its2,rfl,g2,g3⟩,_⟩:=p;have a:=gR cw g3;rw[aF,aF]at a;rw[aF,a];exact bR (sO _ _) (by rw[rQ];exact yq _ _)
  ·obtain⟨⟨its2,rfl,g2,g3⟩,sm,o1,o2,rfl⟩:=p;rw[cV]at hx;cases ex:its[i]? with
   |none=>rw[ex]at hx;cases hx
   |some v=>
    rw[ex]at hx;cases hx;have fv:=(f2 v (nu ex)).same sm;have hsv:(bZ ts w k)[i]? =some v.2.2.2:=by rw[<-f3,cV,ex];rfl
    obtain⟨hi,esv⟩:=oR.mp hsv;have Sv:=nM k v.2.2.2 (nu hsv);have e:=zbr (p:=λs=>goB ts w s (k:Int)) hi;rw[esv]at e;refine⟨v.1,_,rfl,fv.pr,rfl,_,_,rfl,_,_,rfl,rfl,?_⟩;refine⟨_,rfl,_,rfl,v.2.2.1,_,_,.int (k:Int),rfl,.inl (SqL.of fv.le),cF.ints _,.int _,Hz _,rfl,(by show 0<=60;decide),_,rfl,?_⟩;rw[Ml,Vp Sv hk];refine ite2 (λc=>?_) (λc=>?_)
    ·refine⟨_,rfl,_,rfl,szl,λe5 he5=>?_⟩;have s6:=aP he5 (.tup [.int (k:Int)]);have t6:SqT K (upd yj e5 (.tup [.int (k:Int)])) e5 [.int (k:Int)]:=SqT.of aH;generalize (upd yj e5 (.tup [.int (k:Int)]))=H6 at *;have hvl:v.2.2.2.length<=10:=by
      have a:=lU (l:=v.2.2.2) (m:=rng n) (Sv.up.imp λ{x y} h=>by omega) (λx hx=>iH.mpr (by have:=Sv.lt x hx;omega));have b:(rng n).length=n:=by unfold rng;simp
      omega
     refine⟨v.2.1,e5,_,_,rfl,rfl,s6.tup fv.so,t6,(by rw[aF,eZ];show v.2.2.2.length+1<=_;omega),λr7 H7 s7 h7=>?_⟩;have s67:=s6.trans s7;refine⟨_,rfl,_,rfl,_,rfl,fl,_,_,.ref fas[k],rfl,rfl,SqL.of ((s5.trans (sm.trans s67)) _ _ hF),atI_nat hfk,v.2.2.1,fas[k],_,_,rfl,SqL.of (s67 _ _ fv.le),SqL.of ((s5.trans (sm.trans s67)) _ _ hgk),λr8 H8 s8 h8 n8=>?_⟩;refine⟨szl,λe9 he9=>?_⟩;have s9:=aP he9 (.tup [.ref r7,.ref r8]);have s69:=s67.trans (s8.trans s9);refine⟨⟨its2++[(e9,r7,r8,v.2.2.2++[(k:Int)])],by rw[bC];rfl,λq hq=>?_,by rw[bC,g3,e,au c,bC];rfl⟩,sm.trans s69,_,_,rfl⟩;rcases lM.mp hq with z|z
     ·exact(g2 q z).same s69
     ·rw[fV.mp z];refine⟨SqT.of aH,s9.tup (s8.tup ?_),by rw[K8];exact s9 _ _ h8⟩;rw[bC];exact h7
    ·exact⟨⟨its2,rfl,g2,by rw[g3,e,ao c,tL]⟩,sm,_,_,rfl⟩
  ·intro p1 hp1;obtain⟨⟨its2,rfl,g2,g3⟩,sm,o1,o2,rfl⟩:=p;have hle:(its.map λq=>V.ref q.1).length=(bZ ts w k).length:=by rw[aF,<-f3,aF]
   rw[hle,qw]at g3;have s6:=aP hp1 (.lst (its2.map λq=>V.ref q.1));have l2:its2.length<=1024:=by
    have a:=gR cw g3;rw[aF,aF]at a;have b:=sO (λs=>goB ts w s (k:Int)) (bZ ts w k);rw[<-f3,aF]at b;rw[<-f3]at a;omega
   refine⟨_,rfl,_,rfl,fd,p1,_,_,rfl,rfl,(sm.trans s6) _ _ f1,aH,by rw[aF,aF,eZ];omega,λp2 hp2=>?_⟩;have s7:=aP hp2 (.lst ((its.map λq=>V.ref q.1)++(its2.map λq=>V.ref q.1)));refine⟨s5.trans (sm.trans (s6.trans s7)),p2,_,_,⟨its++its2,by rw[aH,bC],λq hq=>?_,by rw[bC,f3,g3];rfl⟩,rfl⟩;rcases lM.mp hq with z|z
   ·exact(f2 q z).same (sm.trans (s6.trans s7))
   ·exact(g2 q z).same (s6.trans s7)
 ·obtain⟨s5,fd,b2,b3,⟨its,f1,f2,f3⟩,rfl⟩:=p;refine⟨_,rfl,fd,_,rfl,SqL.of f1,λhzf=>?_⟩;let R3:Nat->List V->St->Hp->Prop:=λi acc σ yj=>(∃its2:List (af×ζ),acc=its2.map (λq=>V.ref q.1)/\(∀q∈its2,SqT K H' q.1 (q.2.map V.int))/\its2.map (λq=>q.2)=((bZ ts w n).take i).filter (pY ts w n))/\Same H' yj/\∃o1 o2,σ=[o1,o2];refine Eb (xs:=its.map λq=>V.ref q.1) R3 ⟨⟨[],rfl,λq hq=>(nomatch hq),rfl⟩,Same.refl _,_,_,rfl⟩ (λi acc σ yj _ p=>p.2.1.seq (SqL.of f1)) (λi acc σ yj hi p=>?_) hzf (λi x acc σ yj hx p=>?_) (λacc σ yj p=>?_)
  ·obtain⟨⟨its2,rfl,g2,g3⟩,_⟩:=p;have a:=gR cw g3;rw[aF]at a;rw[aF,a];exact bR (sO _ _) (by rw[rQ];exact yq _ _)
  ·obtain⟨⟨its2,rfl,g2,g3⟩,sm,o1,o2,rfl⟩:=p;rw[cV]at hx;cases ex:its[i]? with
   |none=>rw[ex]at hx;cases hx
   |some v=>
    rw[ex]at hx;cases hx;have fv:=f2 v (nu ex);have hsv:(bZ ts w n)[i]? =some v.2.2.2:=by rw[<-f3,cV,ex];rfl
    obtain⟨hi,esv⟩:=oR.mp hsv;have e:=zbr (p:=pY ts w n) hi;rw[esv]at e;refine⟨v.1,_,rfl,sm.tup fv.pr,rfl,_,_,rfl,_,_,rfl,rfl,?_⟩;refine⟨_,rfl,_,.inl ⟨_,SqL.of (sm _ _ fv.le),rfl⟩,?_⟩;have eb:(!!((jL ts w n v.2.2.2).map V.int).isEmpty)=pY ts w n v.2.2.2:=by
     rw[Bool.not_not,<-K9];cases jL ts w n v.2.2.2<;>rfl
    dsimp only;rw[eb];refine ite2 (λc=>?_) (λc=>?_)
    ·refine⟨_,rfl,⟨its2++[(v.2.1,v.2.2.2)],by rw[bC];rfl,λq hq=>?_,by rw[bC,g3,e,au c];rfl⟩,sm,_,_,rfl⟩;rcases lM.mp hq with z|z
     ·exact g2 q z
     ·rw[fV.mp z];exact fv.so
    ·exact⟨⟨its2,rfl,g2,by rw[g3,e,ao c,tL]⟩,sm,_,_,rfl⟩
  ·intro p1 hp1;obtain⟨⟨its2,rfl,g2,g3⟩,sm,_⟩:=p;have hle:(its.map λq=>V.ref q.1).length=(bZ ts w n).length:=by rw[aF,<-f3,aF]
   rw[hle,qw]at g3;have g4:its2.map (λq=>q.2)=jM ts w n:=g3;have hl2:its2.length=(jM ts w n).length:=by rw[<-g4,aF]
   have h36:=xW (ts:=ts) (w:=w) h10;have s6:=aP hp1 (.lst (its2.map λq=>V.ref q.1));refine⟨p1,its2,rfl,SqL.of aH,λp hp=>⟨(sm.trans s6).tup (g2 p hp),λh2=>?_⟩,by omega,λl its' hl hpm hpw=>?_⟩
   ·exact VJ (ts:=ts) (w:=w) (n:=n) (by omega) p.2 (by rw[<-g4];exact dF.mpr ⟨p,hp,rfl⟩)
   ·have s7:=aP hl (.lst (its'.map λq=>V.ref q.1));have s57:=s5.trans (sm.trans (s6.trans s7));refine q l (its'.map λq=>q.2) _ s57 ⟨its',aH,λp hp=>(sm.trans (s6.trans s7)).tup (g2 p (hpm.mem_iff.mp hp)),rfl⟩ ⟨?_,?_⟩ ((s5.trans (sm.trans s6)).free hl)
    ·rw[<-g4];exact hpm.map _
    ·rw[J4];exact hpw
inductive j4(K:ag)(vs:List V)(H:Hp)(Q:VK)(E_:XK):Prop
 |mk(a:af)(n:Int)(ts:L0)(_:vs=[.ref a])(_:aR K H a n ts)(_:∀r ss H',Same H H'->RX K H' r ss->cH ss ts false n.toNat->H r=none->Q (.ref r) H')
theorem yX{f:af}{fd:ψ}
  (F:Fun K "full_apart" "full_apart" jB f fd)(D1:Dp P w K mg base 7 "need_web" SJ ["thing"] (cN K))(D2:Dp P w K mg base 2 "full_sets" j9 ["friends"] (nJ K))(D3:Dp P w K mg base 2 "places_by_tie" zdj ["web","place","tied"] (yN K))(aG:mg "range"=none):
  FnOk P w K mg base CX0 8 f fd ["web"] (j4 K):=by
 refine F.eG ["web"] λH Q hr h=>?_;obtain⟨a,n,ts,rfl,hA,q⟩:=h;refine⟨_,(aO (wz (pd D1 hr (aj (pv 0) aA))) (aZ (cu (pd D2 hr (aj (pK ["place"] ["web"] [0] (Ec rfl aG (aj (bB fU (pv 0) aM) aA)) (pG 0) m9 (pd D3 hr (aj (pv 1) (aj (pv 0) (aj pe_bl aA))))) aA))))),?_⟩;have h0:=hA.h0;have h10:=hA.h1;refine⟨_,rfl,_,_,rfl,hA.web.dv.dx,hA.ok,λH1 s1=>?_⟩;have hA1:=hA.same s1;obtain⟨ta,ra,a1,a2,a3⟩:=id hA1.web;refine⟨_,rfl,a,_,_,.int n,rfl,rfl,a1,rfl,n,rfl,by omega,by omega,?_⟩;refine Mt (n:=n.toNat) (λk acc σ H'=>(∃fas:η,acc=fas.map V.ref/\fas.length=k/\∀(i:Nat) f,fas[i]? =some f->H' f=some (.lst ((pZ ts false n.toNat (i:Int)).map V.int)))/\Same H1 H'/\∃o,σ=[o,some (.ref a)]) ⟨⟨[],rfl,rfl,λi f h=>by simp at h⟩,Same.refl _,_,rfl⟩ (λk acc σ H' hk p=>?_) (by rw[eZ];omega) (λk acc σ H' hk p=>?_) (λacc σ H' p=>?_)
 ·obtain⟨⟨fas,rfl,hl,_⟩,_⟩:=p;rw[aF];omega
 ·obtain⟨⟨fas,rfl,hl,hf⟩,sm,o,rfl⟩:=p;have ek:(0+(k:Int))=(k:Int):=by omega
  rw[ek];refine⟨_,rfl,_,rfl,a,n,_,ts,false,rfl,hA1.same sm,λr H5 s5 h5 n5=>⟨⟨fas++[r],by rw[bC];rfl,by rw[oO,hl];rfl,λi f hi=>?_⟩,sm.trans s5,_,rfl⟩⟩;by_cases c:i<fas.length
  ·rw[ydw c]at hi;exact s5 _ _ (hf i f hi)
  ·have hb:i<(fas++[r]).length:=(oR.mp hi).1;rw[oO]at hb;have e:i=fas.length:=by have:[r].length=1:=rfl;omega
   rw[e,yda (aQ _),wfz]at hi;cases hi;rw[e,hl];exact h5
 ·intro p1 hp1;obtain⟨⟨fas,rfl,hl,hf⟩,sm,_⟩:=p;have s6:=aP hp1 (.lst (fas.map V.ref));exact⟨p1,fas,ts,false,n.toNat,rfl,aH,hl,by omega,λi f hi=>s6 _ _ (hf i f hi),λr ss H7 s7 h7 h8 n7=>q r ss H7 (s1.trans (sm.trans (s6.trans s7))) h7 h8 ((s1.trans (sm.trans s6)).free n7)⟩
end
end Hs
namespace L2
open PySem PySem.Spec PyProof.Rows
theorem RK(h:n<=10^200):n<2^700:=HW h (by decide+kernel)
section
variable{X:Cx}
theorem pJ:OpR X (cA .FloorDiv) (rI (λ_ j=>0<j/\j.natAbs<=10^200) λi j=>.int (i/j)):=opI λi j _ _ _ _ _ hc q=>by
 have h1:(0:Int)<j:=hc.1;refine floordiv_int (by omega) ?_ (gV (wes ?_))
 ·rw[weg _ (by omega)];exact q
 ·have h3:j.natAbs≠0:=by omega
  have h4:=(Nat.log2_lt h3).mpr (RK hc.2);omega
end
end L2
namespace Hs
open PySem L2 oF
theorem Q8(m n:Nat):ay n (m %n)=ay m n:=by
 rw[Nat.gcd_comm m n,Nat.gcd_rec n m,Nat.gcd_comm]
structure Low(a:Int)(b:Nat)(u:Int)(v:Nat):Prop where
 pos:0<v
 cop:ay u.natAbs v=1
 eq:u*(b:Int)=a*(v:Int)
 lu:u.natAbs<=a.natAbs
 lv:v<=b
 nn:0<=a->0<=u
theorem Gh(a)(b)(hb:0<b):Low a b (a/((ay a.natAbs b:Nat):Int)) (b/ay a.natAbs b):=by
 have hg:0<ay a.natAbs b:=wex _ hb;obtain⟨x,hx⟩:((ay a.natAbs b:Nat):Int)∣a:=Int.natAbs_dvd_natAbs.mp (by rw[wem];exact wfm _ _);obtain⟨y,hy⟩:=Xw a.natAbs b;generalize hgg:ay a.natAbs b=g at *;have e1:a/(g:Int)=x:=by rw[hx];exact weu _ (by omega)
 have e2:b/g=y:=by rw[hy];exact Mu _ hg
 rw[e1,e2];have hna:a.natAbs=g*x.natAbs:=by rw[hx,yfl];rfl
 have hy0:0<y:=by
  rcases ydv y with h|h
  ·subst h;simp at hy;omega
  ·exact h
 refine⟨hy0,?_,?_,?_,?_,λh=>?_⟩
 ·have h2:ay (g*x.natAbs) (g*y)=g:=by rw[<-hna,<-hy];exact hgg
  rw[Nat.gcd_mul_left]at h2;have h3:g*ay x.natAbs y=g*1:=by omega
  exact Nat.eq_of_mul_eq_mul_left hg h3
 ·rw[hx];have:(b:Int)=(g:Int)*(y:Int):=by rw[hy];exact Nf _ _
  rw[this,M9 (g:Int) x,Xo]
 ·rw[hna];exact yeo _ hg
 ·rw[hy];exact yeo _ hg
 ·rw[<-e1];exact wga h (by omega)
theorem abs_eq(i):(if i<0 then -i else i)=((i.natAbs:Nat):Int):=by split<;>omega
theorem Zj(a:Int)(b:Nat)(hb:0<b):ay a.natAbs b<=b:=Wg hb (Xw _ _)
section
variable{P:χ}{w:ω}{K:ag}{mg:L5}{base:bv}
inductive Od(K:ag)(vs:List V)(H:Hp)(Q:VK)(E_:XK):Prop
 |mk(m n:Nat)(_:vs=[.int m,.int n])(_:Q (.int ((ay m n:Nat):Int)) H)
theorem aas{f:af}{fd:ψ}
  (F:Fun K "greatest_divisor" "greatest_divisor" zbf f fd):FnOk P w K mg base CX0 1 f fd ["one","other"] (Od K):=by
 refine F.eG ["one","other","rest"] λH Q hr h=>?_;obtain⟨m,n,rfl,q⟩:=h;refine⟨_,aO (ps_while wX (pt_truth (pv 1) (λ_=>rfl)) (aO (pS 2 (bW op_mod (pv 0) (pv 1))) (aO (pS 0 (pv 1)) (aZ (pS 1 (pv 2)))))) (aZ (cu (pv 0))),?_⟩;refine⟨λk σ H'=>H'=H/\∃(m':Nat) (r:Option V),σ=[some (.int (m':Int)),some (.int (k:Int)),r]/\ay m' k=ay m n,⟨n,rfl,m,_,rfl,rfl⟩,?_⟩;rintro k σ H' ⟨rfl,m',r,rfl,hg⟩;refine⟨_,rfl,_,rfl,?_⟩;refine ite2 (λc=>?_) (λc=>?_)
 ·have hk:0<k:=by
   rcases ydv k with h|h
   ·subst h;exact absurd c (by decide)
   ·exact h
  refine⟨λσ' H2=>H2=H'/\∃r',σ'=[some (.int (k:Int)),some (.int ((m' %k:Nat):Int)),r'],λσ' H2 ⟨e1,r',e2⟩=>⟨m' %k,Nat.mod_lt _ hk,e1,k,r',e2,?_⟩,?_⟩
  ·rw[Q8];exact hg
  ·exact⟨_,rfl,_,rfl,_,_,rfl,rfl,Z9.mpr hk,_,rfl,_,rfl,rfl,_,rfl⟩
 ·have hk:k=0:=by
   rcases ydv k with h|h
   ·exact h
   ·exfalso;apply c;show((k:Int) !=0)=true;simp;omega
  subst hk;rw[Nat.gcd_zero_right]at hg;refine⟨_,rfl,?_⟩;rw[hg];exact q
inductive xq(K:ag)(vs:List V)(H:Hp)(Q:VK)(E_:XK):Prop
 |mk(a:Int)(b:Nat)(_:vs=[.int a,.int b])(_:0<b)(_:b<=10^200)(_:∀p H' u v,Same H H'->H' p=some (.tup [.int u,.int ((v:Nat):Int)])->Low a b u v->Q (.ref p) H')
theorem Ve{b:Nat}(hp:H p=none):(upd H p (.tup [.int (a/((ay a.natAbs b:Nat):Int)),.int ((b:Int)/((ay a.natAbs b:Nat):Int))])) p=some (.tup [.int (a/((ay a.natAbs b:Nat):Int)),.int (((b/ay a.natAbs b:Nat)):Int)]):=by
 rw[aH,yfe]
theorem YG{f:af}{fd:ψ}
  (F:Fun K "lowest" "lowest" jd f fd)(D1:Dp P w K mg base 1 "greatest_divisor" zbf ["one","other"] (Od K))(mA:mg "abs"=none):
  FnOk P w K mg base CX0 2 f fd ["a","b"] (xq K):=by
 refine F.eG ["a","b","by"] λH Q hr h=>?_;obtain⟨a,b,rfl,hb,hB,q⟩:=h;refine⟨_,aO (pS 2 (pd D1 hr (aj (pB call_abs mA (aj (pv 0) aA)) (aj (pv 1) aA)))) (aZ (cu (lY (aj (bW pJ (pv 0) (pv 2)) (aj (bW pJ (pv 1) (pv 2)) aA))))),?_⟩;refine⟨_,rfl,a,rfl,_,rfl,a.natAbs,b,?_,?_⟩
 ·rw[abs_eq];rfl
 have hg:0<ay a.natAbs b:=wex _ hb;have hg2:(((ay a.natAbs b:Nat):Int)).natAbs<=10^200:=bR (Zj a b hb) hB;refine⟨_,rfl,_,rfl,_,_,rfl,rfl,⟨Z9.mpr hg,hg2⟩,_,rfl,_,rfl,_,_,rfl,rfl,⟨Z9.mpr hg,hg2⟩,szl,λp hp=>?_⟩;exact q p _ _ _ (aP hp _) (Ve hp) (Gh a b hb)
noncomputable def bf(n:Nat)(X:Nat->Int):List V:=((ai (n+1)).map X).map V.int
noncomputable def cD(n:Nat)(c:Nat->Nat):ζ:=(ai n).map λk=>((c k:Nat):Int)
noncomputable def flds(cl co ro:af)(o:Int):List (bg×V):=[("cells",.ref cl),("over",.int o),("columns",.ref co),("rows",.ref ro)]
structure cR(K:ag)(C:af)(H0 H:Hp)(o dx cl co ro:af)(rws:η)(n m:Nat)(T:Sx.Tab):Prop where
 same:Same H0 H
 o0:H0 o=none
 ZM:H0 cl=none
 Xh:H0 co=none
 WX:H0 ro=none
 ne:co≠ro
 nc:co∉rws
 nr:ro∉rws
 at_:H o=some (.ins C dx (flds cl co ro T.over))
 cells:H cl=some (.lst (rws.map V.ref))
 len:rws.length=m+1
 row:∀r a,rws[r]? =some a->H a=some (.lst (bf n (T.cell r)))
 cols:H co=some (.lst ((cD n T.col).map V.int))
 rows:H ro=some (.lst ((cD m T.row).map V.int))
noncomputable def lD(K:ag)(C:af)(H0 H:Hp)(o:af)(n m:Nat)(T:Sx.Tab):Prop:=∃dx cl co ro rws,cR K C H0 H o dx cl co ro rws n m T
theorem cR.sm(h:cR K C H0 H o dx cl co ro rws n m T)(s:Same H H'):cR K C H0 H' o dx cl co ro rws n m T:=
 ⟨h.same.trans s,h.o0,h.ZM,h.Xh,h.WX,h.ne,h.nc,h.nr,s _ _ h.at_,s _ _ h.cells,h.len,λr a e=>s _ _ (h.row r a e),s _ _ h.cols,s _ _ h.rows⟩
theorem lD.sm(h:lD K C H0 H o n m T)(s:Same H H'):lD K C H0 H' o n m T:=by
 obtain⟨dx,cl,co,ro,rws,h⟩:=h;exact⟨dx,cl,co,ro,rws,h.sm s⟩
structure TG(n m:Nat)(S:Nat->Nat->Bool)(wt:Nat->Int)(T:Sx.Tab):Prop where
 good:Sx.Good n m S wt T
 n10:n<=10
 m40:m<=40
 wb:∀p,p<n->0<=wt p/\wt p<=99
 cov:∀p,p<n->∃k,k<m/\S k p=true
theorem TG.cell(h:TG n m S wt T)(hr:r<=m)(hc:c<=n): -4000000000<=T.cell r c/\T.cell r c<=4000000000:=by
 have a:=h.good.RG h.wb hr hc;have b:=Sx.Rr (k:=n+1) (by have:=h.n10;omega);omega
theorem TG.over(h:TG n m S wt T):0<T.over/\T.over<=39916800:=by
 have a:=h.good.Ur;have b:=Sx.Rr (k:=n+1) (by have:=h.n10;omega);exact⟨h.good.pos,by omega⟩
theorem JT(n)(X:Nat->Int):(bf n X).length=n+1:=by unfold bf;rw[aF,aF,yu]
theorem pD(X:Nat->Int)(h:c<=n):(bf n X)[c]? =some (.int (X c)):=by
 unfold bf;rw[cV,cV,ydr (by omega)];rfl
theorem eY(X:Nat->Int)(h:c<=n):atI (bf n X) (c:Int)=some (.int (X c)):=atI_nat (pD X h)
theorem atI_last{v:V}(h:xs[xs.length-1]? =some v)(h0:0<xs.length):atI xs (-1)=some v:=by
 have e:ixN xs.length (-1)=some (xs.length-1):=by
  unfold ixN;rw[ao (by decide),au (by omega)];congr 1;omega
 unfold atI;rw[e];exact h
theorem qN(n)(X:Nat->Int):atI (bf n X) (-1)=some (.int (X n)):=atI_last (by rw[JT];exact pD X (aQ n)) (by rw[JT];omega)
theorem JV(n)(c:Nat->Nat):(cD n c).length=n:=by unfold cD;rw[aF,yu]
theorem HB(c:Nat->Nat)(h:k<n):(cD n c)[k]? =some ((c k:Nat):Int):=by
 unfold cD;rw[cV,ydr h];rfl
theorem pO(c:Nat->Nat)(h:k<n):atI ((cD n c).map V.int) (k:Int)=some (.int ((c k:Nat):Int)):=atI_nat (by rw[cV,HB c h];rfl)
theorem xO(c:Nat->Nat)(v:Nat)(h:k<n):(cD n c).set k (v:Int)=cD n (λi=>if i=k then v else c i):=by
 refine yeu λi=>?_;rw[wde];by_cases hi:i<n
 ·rw[HB _ hi,HB _ hi,JV];by_cases e:k=i
  ·rw[au e,au h,au e.symm]
  ·rw[ao e,ao (mQ e)]
 ·rw[TQ (by rw[JV];omega),TQ (by rw[JV];omega),ao (by omega)]
theorem cR.Kh(h:cR K C H0 H o dx cl co ro rws n m T)(hr:r<=m):∃a,rws[r]? =some a/\atI (rws.map V.ref) (r:Int)=some (.ref a)/\H a=some (.lst (bf n (T.cell r))):=by
 have hl:=h.len;have e:rws[r]? =some rws[r]:=eN (by omega);exact⟨rws[r],e,atI_nat (by rw[cV,e];rfl),h.row r _ e⟩
theorem cR.aam(h:cR K C H0 H o dx cl co ro rws n m T):∃a,rws[m]? =some a/\atI (rws.map V.ref) (-1)=some (.ref a)/\H a=some (.lst (bf n (T.cell m))):=by
 obtain⟨a,e,_,f⟩:=h.Kh (aQ m);exact⟨a,e,atI_last (by rw[aF,h.len,cV,ng,e];rfl) (by rw[aF,h.len];omega),f⟩
inductive Io(K:ag)(C:af)(vs:List V)(H:Hp)(Q:VK)(E_:XK):Prop
 |mk(o:af)(H0:Hp)(n m:Nat)(S:Nat->Nat->Bool)(wt:Nat->Int)(T:Sx.Tab)(_:vs=[.ref o])(_:lD K C H0 H o n m T)(_:TG n m S wt T)(_:(∀c,c<n->0<=T.cell m c)->∀H',Same H H'->Q .non H')(_:∀(q:Nat) H',q<n->T.cell m q<0->(∀c,c<n->T.cell m c<0->T.col q<=T.col c)->Same H H'->Q (.int (q:Int)) H')
theorem YB{f C:af}{fd:ψ}
  (F:Fun K "next_column" "Tableau.next_column" zbx f fd)
  (Cc:Cls K C)(bh:NoAttr K C "cells")(dR:NoAttr K C "over")(aX:NoAttr K C "columns")(cQ:NoAttr K C "rows")(bV:mg "enumerate"=none)(iJ:mg "min"=none):
  FnOk P w K mg base CX0 1 f fd ["self"] (Io K C):=by
 refine F.eG ["self","worth","names"] λH Q hr h=>?_;obtain⟨o,H0,n,m,S,wt,T,rfl,⟨dx,cl,co,ro,rws,hT⟩,hG,q1,q2⟩:=h;refine cg ?_;intro Y;refine⟨_,(aO (pS 1 (bB jV (oM (pv 0) rfl) (pe_un un_neg aM))) (aO (pX 2 ["k","name"] ["worth"] [1] (pH rfl bV (aj (oM (pv 0) rfl) aA)) (dY K (n:=2) rfl (jO (pG 0) (jO (pG 1) Al))) (JR (iM op_lt (bB (gK K) (pv 2) (pv 0)) aM)) (pv 1)) (aZ (cu (pe_ifExp (pt_truth (pv 2) (λ_=>rfl)) (pe_bm Te wcr wcs qR (oM (pv 0) rfl) (aj (pB (yc rfl) iJ (aj (pv 2) aA)) aA)) pe_non))))),?_⟩;refine lg ?_;intro c3 c2;obtain⟨za,ze,zi,zr⟩:=hT.aam;refine⟨_,rfl,o,C,dx,_,_,rfl,hT.at_,Cc,bh,rfl,_,rfl,cl,_,_,_,rfl,rfl,SqL.of hT.cells,zi,?_⟩;refine⟨_,rfl,o,C,dx,_,_,rfl,hT.at_,Cc,aX,rfl,false,co,_,rfl,SqL.of hT.cols,λhz=>?_⟩;let mH:Nat->List V->St->Hp->Prop:=λi acc σ H'=>acc=(((ai i).filter λc=>decide (T.cell m c<0)).map λc=>((T.col c:Nat):Int)).map V.int/\Same H H'/\∃o1 o2,σ=[o1,o2,some (.ref za)];refine jj (K:=K) (b:=false) (a:=co) (xs:=(cD n T.col).map V.int) mH ⟨rfl,Same.refl _,_,_,rfl⟩ (λi acc σ H' _ p=>p.2.1.seq (SqL.of hT.cols)) (λi acc σ H' _ p=>?_) hz (λi v t acc σ H' hv p ht=>?_) (λacc σ H' p=>?_)
 ·rw[p.1,aF,aF];exact bR (sO _ _) (by rw[yu];exact aQ _)
 ·obtain⟨rfl,sm,o1,o2,rfl⟩:=p;have hi:i<n:=by
   have:=(oR.mp hv).1;rw[aF,JV]at this;exact this
  rw[cV,HB _ hi]at hv;cases hv;have s1:=aP ht (.tup [.int (i:Int),.int ((T.col i:Nat):Int)]);refine⟨t,_,rfl,SqT.of aH,rfl,_,_,rfl,_,_,rfl,rfl,?_⟩;refine⟨_,rfl,_,rfl,za,_,_,_,rfl,rfl,SqL.of ((sm.trans s1) _ _ zr),eY _ (dN hi),_,_,rfl,rfl,_,rfl,?_⟩;have go:((ai (i+1)).filter λc=>decide (T.cell m c<0))=((ai i).filter λc=>decide (T.cell m c<0))++(if decide (T.cell m i<0)=true then[i]else[]):=by
   rw[yt,J5];congr 1;rw[Ao];split<;>rfl
  refine ite2 (λc=>?_) (λc=>?_)
  ·exact⟨_,rfl,by rw[go,au c,bC,bC];rfl,sm.trans s1,_,_,rfl⟩
  ·exact⟨by rw[go,ao c,tL],sm.trans s1,_,_,rfl⟩
 ·intro p1 hp1;obtain⟨rfl,sm,_⟩:=p;rw[aF,JV];have s1:=aP hp1 (.lst ((((ai n).filter λc=>decide (T.cell m c<0)).map λc=>((T.col c:Nat):Int)).map V.int));have e1:(upd H' p1 (.lst ((((ai n).filter λc=>decide (T.cell m c<0)).map λc=>((T.col c:Nat):Int)).map V.int))) p1=some (.lst ((((ai n).filter λc=>decide (T.cell m c<0)).map λc=>((T.col c:Nat):Int)).map V.int)):=aH;have s2:=sm.trans s1;generalize (upd H' p1 (.lst ((((ai n).filter λc=>decide (T.cell m c<0)).map λc=>((T.col c:Nat):Int)).map V.int)))=H1 at *;have hT1:=hT.sm s2;refine⟨_,rfl,_,.inl ⟨_,SqL.of e1,rfl⟩,?_⟩;cases hl:(ai n).filter λc=>decide (T.cell m c<0)with
  |nil=>
   apply iteF;refine q1 (λc hc=>Int.not_lt.mp λhn=>?_) _ s2;have:c∈(ai n).filter λc=>decide (T.cell m c<0):=fD.mpr ⟨qC.mpr hc,bY hn⟩;rw[hl]at this;cases this
  |cons c0 rest=>
   rw[hl]at e1;apply iteT;refine⟨_,rfl,o,C,dx,_,_,rfl,hT1.at_,Cc,aX,rfl,.inl ⟨rfl,_,SqL.of hT1.cols⟩,_,rfl,p1,_,rfl,SqL.of e1,(λe=>nomatch e),λmn hmn hle=>?_⟩;rw[<-hl]at hmn hle;obtain⟨c,hc,rfl⟩:=dF.mp hmn;obtain⟨hc1,hc2⟩:=fD.mp hc;have hcn:=qC.mp hc1;refine⟨co,cD n T.col,_,c,rfl,rfl,hT1.cols,HB _ hcn,λi hi e=>?_,by rw[JV];have:=hG.n10;omega,?_⟩
   ·rw[HB _ (by omega)]at e;have:T.col i=T.col c:=wdu (ux e);have:=hG.good.GJ i c (by omega) hcn this;omega
   ·refine q2 c _ hcn (fW hc2) (λc' hc' hn=>?_) s2;have:=hle _ (dF.mpr ⟨c',fD.mpr ⟨qC.mpr hc',bY hn⟩,rfl⟩);omega
noncomputable def tiB(n q:Nat)(T:Sx.Tab)(r t:Nat):Bool:=decide (T.cell r n*T.cell t q<T.cell t n*T.cell r q)||(decide (T.cell r n*T.cell t q=T.cell t n*T.cell r q)&&decide (T.row r<T.row t))
inductive N8(K:ag)(C:af)(vs:List V)(H:Hp)(Q:VK)(E_:XK):Prop
 |mk(o:af)(H0:Hp)(n m q r t:Nat)(S:Nat->Nat->Bool)(wt:Nat->Int)(T:Sx.Tab)(_:vs=[.ref o,.int (q:Int),.int (r:Int),.int (t:Int)])(_:lD K C H0 H o n m T)(_:TG n m S wt T)(_:q<n)(_:r<m)(_:t<m)(_:Q (.bl (tiB n q T r t)) H)
theorem Yu{f C:af}{fd:ψ}
  (F:Fun K "is_tighter" "Tableau.is_tighter" zcc f fd)
  (Cc:Cls K C)(bh:NoAttr K C "cells")(dR:NoAttr K C "over")(aX:NoAttr K C "columns")(cQ:NoAttr K C "rows"):
  FnOk P w K mg base CX0 1 f fd ["self","column","row","other"] (N8 K C):=by
 refine F.eG ["self","column","row","other","one","two"] λH Q hr h=>?_;obtain⟨o,H0,n,m,q,r,t,S,wt,T,rfl,⟨dx,cl,co,ro,rws,hT⟩,hG,hq,hr0,ht,qq⟩:=h;refine cg ?_;intro Y;refine⟨_,(aO (pS 4 (bW wk (bB jV (bB jV (oM (pv 0) rfl) (pv 2)) (pe_un un_neg aM)) (bB jV (bB jV (oM (pv 0) rfl) (pv 3)) (pv 1)))) (aO (pS 5 (bW wk (bB jV (bB jV (oM (pv 0) rfl) (pv 3)) (pe_un un_neg aM)) (bB jV (bB jV (oM (pv 0) rfl) (pv 2)) (pv 1)))) (aZ (cu (pe_or (Hx op_lt (pv 4) (pv 5)) (pe_one (pe_and (Hx op_eq (pv 4) (pv 5)) (pe_one (Hx op_lt (bB jV (oM (pv 0) rfl) (pv 2)) (bB jV (oM (pv 0) rfl) (pv 3))))))))))),?_⟩;refine lg ?_;intro c3 c2;obtain⟨ra,re,ri,rr⟩:=hT.Kh (dN hr0);obtain⟨ta,te,ti,tr⟩:=hT.Kh (dN ht);have b1:=hG.cell (dN hr0) (aQ n);have b2:=hG.cell (dN ht) (aQ n);refine⟨_,rfl,o,C,dx,_,_,rfl,hT.at_,Cc,bh,rfl,_,rfl,cl,_,_,_,rfl,rfl,SqL.of hT.cells,ri,_,rfl,ra,_,_,_,rfl,rfl,SqL.of rr,qN _ _,?_⟩;refine⟨_,rfl,o,C,dx,_,_,rfl,hT.at_,Cc,bh,rfl,_,rfl,cl,_,_,_,rfl,rfl,SqL.of hT.cells,ti,_,rfl,ta,_,_,_,rfl,rfl,SqL.of tr,eY _ (dN hq),_,_,rfl,rfl,.inl ⟨by omega,by omega⟩,?_⟩;refine⟨_,rfl,o,C,dx,_,_,rfl,hT.at_,Cc,bh,rfl,_,rfl,cl,_,_,_,rfl,rfl,SqL.of hT.cells,ti,_,rfl,ta,_,_,_,rfl,rfl,SqL.of tr,qN _ _,?_⟩;refine⟨_,rfl,o,C,dx,_,_,rfl,hT.at_,Cc,bh,rfl,_,rfl,cl,_,_,_,rfl,rfl,SqL.of hT.cells,ri,_,rfl,ra,_,_,_,rfl,rfl,SqL.of rr,eY _ (dN hq),_,_,rfl,rfl,.inl ⟨by omega,by omega⟩,?_⟩;refine⟨_,rfl,_,rfl,_,_,rfl,rfl,_,rfl,?_⟩;unfold tiB at qq;refine ite2 (λc=>?_) (λc=>?_)
 ·rw[c,Bool.true_or]at qq;exact qq
 ·rw[eq_false_of_ne_true c,wgo]at qq;refine⟨_,rfl,_,rfl,rfl,_,rfl,?_⟩;refine ite2 (λc2=>?_) (λc2=>?_)
  ·have c2':decide (T.cell r n*T.cell t q=T.cell t n*T.cell r q)=true:=bY (V.int.inj (fW c2));rw[c2',wgq]at qq;refine⟨_,rfl,o,C,dx,_,_,rfl,hT.at_,Cc,cQ,rfl,_,rfl,ro,_,_,_,rfl,rfl,SqL.of hT.rows,pO _ hr0,?_⟩;refine⟨_,rfl,o,C,dx,_,_,rfl,hT.at_,Cc,cQ,rfl,_,rfl,ro,_,_,_,rfl,rfl,SqL.of hT.rows,pO _ ht,_,_,rfl,rfl,?_⟩;rw[<-show decide (((T.row r:Nat):Int)<((T.row t:Nat):Int))=decide (T.row r<T.row t)from decide_eq_decide.mpr Z9]at qq;exact qq
  ·have c2':decide (T.cell r n*T.cell t q=T.cell t n*T.cell r q)=false:=gj λe=>c2 (bY (gR V.int e));rw[c2',wgh]at qq;exact qq
noncomputable def Xj(n q:Nat)(T:Sx.Tab)(p r:Nat):Prop:=T.cell p n*T.cell r q<T.cell r n*T.cell p q\/(T.cell p n*T.cell r q=T.cell r n*T.cell p q/\T.row p<=T.row r)
theorem K7(ha:0<T.cell a q)(hb:0<T.cell b q)(hc:0<T.cell c q)(h1:Xj n q T a b)(h2:Xj n q T b c):Xj n q T a c:=by
 have cm:∀x y:Nat,T.cell x n*T.cell y q=T.cell y q*T.cell x n:=λx y=>M9 _ _;have cn:∀x y:Nat,T.cell y n*T.cell x q=T.cell x q*T.cell y n:=λx y=>M9 _ _;unfold Xj at *;rw[cm a b,cn a b]at h1;rw[cm b c,cn b c]at h2;rw[cm a c,cn a c];rcases h1 with h1|⟨h1,l1⟩
 ·rcases h2 with h2|⟨h2,_⟩
  ·exact .inl (Sx.zH hb ha hc (Ek h1) h2)
  ·exact .inl (Sx.Dc hb ha hc h1 (Xn h2))
 ·rcases h2 with h2|⟨h2,l2⟩
  ·exact .inl (Sx.zH hb ha hc (Xn h1) h2)
  ·exact .inr ⟨wgb (Sx.zJ hb ha hc (Xn h1) (Xn h2)) (Sx.zJ hb hc ha (by rw[<-h2];exact tK _) (by rw[<-h1];exact tK _)),bR l1 l2⟩
theorem X3(h:tiB n q T r t=true):Xj n q T r t:=by
 unfold tiB at h;rw[Bool.or_eq_true,fH]at h;rcases h with h|⟨h1,h2⟩
 ·exact .inl (fW h)
 ·exact .inr ⟨fW h1,dN (fW h2)⟩
theorem aah(h:tiB n q T r t=false):Xj n q T t r:=by
 unfold tiB at h;rw[kC,Bool.and_eq_false_iff]at h;have h1:=wbv h.1;by_cases c:T.cell r n*T.cell t q=T.cell t n*T.cell r q
 ·refine .inr ⟨c.symm,?_⟩;rcases h.2 with z|z
  ·exact absurd c (wbv z)
  ·exact Nat.not_lt.mp (wbv z)
 ·exact .inl (by omega)
inductive Ob(K:ag)(C:af)(vs:List V)(H:Hp)(Q:VK)(E_:XK):Prop
 |mk(o:af)(H0:Hp)(n m q:Nat)(S:Nat->Nat->Bool)(wt:Nat->Int)(T:Sx.Tab)(_:vs=[.ref o,.int (q:Int)])(_:lD K C H0 H o n m T)(_:TG n m S wt T)(_:q<n)(_:∀p:Nat,p<m->0<T.cell p q->(∀r,r<m->0<T.cell r q->Xj n q T p r)->Q (.int (p:Int)) H)
theorem Yz{f f1 C:af}
  {fd d1:ψ}
  (F:Fun K "next_row" "Tableau.next_row" zcp f fd)
  (Cc:Cls K C)(bh:NoAttr K C "cells")(dR:NoAttr K C "over")(aX:NoAttr K C "columns")(cQ:NoAttr K C "rows")(D1:sH K C "is_tighter" "Tableau.is_tighter" zcc ["self","column","row","other"] f1 d1)(G1:FnOk P w K mg base CX0 1 f1 d1 ["self","column","row","other"] (N8 K C))(aG:mg "range"=none)(bU:mg "len"=none):
  FnOk P w K mg base CX0 2 f fd ["self","column"] (Ob K C):=by
 refine F.eG ["self","column","tightest","row"] λH Q hr h=>?_;obtain⟨o,H0,n,m,q,S,wt,T,rfl,⟨dx,cl,co,ro,rws,hT⟩,hG,hq,qq⟩:=h;refine⟨_,(aO (pS 2 pe_non) (aO (Ay wX rfl (Ec rfl aG (aj (pB yp bU (aj (oM (pv 0) rfl) aA)) aA)) (pG 3) (aZ (jq (PW.pt (pw_and (iM op_gt (bB jV (bB jV (oM (pv 0) rfl) (pv 3)) (pv 1)) aM) (pw_and1 (PW.pt (pw_or (iM op_isN (pv 2) pe_non) (pw_or1 (qz (Hy (pv 0) Cc D1.m G1 hr D1.b .nil pass0 (aj (pv 1) (aj (pv 3) (aj (pv 2) aA))))))))))) (aZ (pS 2 (pv 3))) jN))) (aZ (cu (pv 2))))),?_⟩;refine⟨_,rfl,o,C,dx,_,_,rfl,hT.at_,Cc,cQ,rfl,ro,_,rfl,.inl (SqL.of hT.rows),λ_=>?_⟩;rw[aF,JV];refine⟨_,rfl,by have:=hG.m40;omega,by have:=hG.m40;omega,?_⟩;refine Tt (n:=m) (λi σ H'=>H'=H/\∃(x:V) (o3:Option V),σ=[some (.ref o),some (.int (q:Int)),some x,o3]/\((x=.non/\∀r,r<i->T.cell r q<=0)\/∃p:Nat,p<i/\x=.int (p:Int)/\0<T.cell p q/\∀r,r<i->0<T.cell r q->Xj n q T p r)) ⟨rfl,_,_,rfl,.inl ⟨rfl,λr hr=>absurd hr (Xr r)⟩⟩ (λi σ H' hi p=>?_) (λσ H' p=>?_)
 ·obtain⟨rfl,x,o3,rfl,hx⟩:=p;rw[Wd];obtain⟨ra,re,ri,rr⟩:=hT.Kh (dN hi);refine⟨_,rfl,o,C,dx,_,_,rfl,hT.at_,Cc,bh,rfl,_,rfl,cl,_,_,_,rfl,rfl,SqL.of hT.cells,ri,_,rfl,ra,_,_,_,rfl,rfl,SqL.of rr,eY _ (dN hq),_,_,rfl,rfl,_,rfl,?_⟩;refine ite2 (λc=>?_) (λc=>?_)
  ·have c':0<T.cell i q:=fW c;rcases hx with⟨rfl,hx⟩|⟨p,hp,rfl,hp0,hlev⟩
   ·refine⟨_,rfl,rfl,_,rfl,?_⟩;apply iteT;apply iteT;refine⟨_,rfl,rfl,_,_,rfl,.inr ⟨i,wA i,rfl,c',λr hr h0=>?_⟩⟩;by_cases e:r=i
    ·subst e;exact .inr ⟨rfl,aQ _⟩
    ·have:=hx r (by omega);omega
   ·refine⟨_,rfl,rfl,_,rfl,?_⟩;apply iteF;refine⟨_,rfl,o,dx,_,rfl,hT.at_,rfl,_,rfl,_,rfl,_,rfl,o,H0,n,m,q,i,p,S,wt,T,rfl,⟨dx,cl,co,ro,rws,hT⟩,hG,hq,hi,by omega,_,rfl,?_⟩;refine ite2 (λz=>?_) (λz=>?_)
    ·refine⟨_,rfl,rfl,_,_,rfl,.inr ⟨i,wA i,rfl,c',λr hr h0=>?_⟩⟩;by_cases e:r=i
     ·subst e;exact .inr ⟨rfl,aQ _⟩
     ·exact K7 c' hp0 h0 (X3 z) (hlev r (by omega) h0)
    ·refine⟨rfl,_,_,rfl,.inr ⟨p,by omega,rfl,hp0,λr hr h0=>?_⟩⟩;by_cases e:r=i
     ·subst e;exact aah (eq_false_of_ne_true z)
     ·exact hlev r (by omega) h0
  ·apply iteF;have c':T.cell i q<=0:=Int.not_lt.mp λh=>c (bY h);refine⟨rfl,_,_,rfl,?_⟩;rcases hx with⟨rfl,hx⟩|⟨p,hp,rfl,hp0,hlev⟩
   ·refine .inl ⟨rfl,λr hr=>?_⟩;by_cases e:r=i
    ·subst e;exact c'
    ·exact hx r (by omega)
   ·refine .inr ⟨p,by omega,rfl,hp0,λr hr h0=>?_⟩;by_cases e:r=i
    ·subst e;omega
    ·exact hlev r (by omega) h0
 ·obtain⟨rfl,x,o3,rfl,hx⟩:=p;rcases hx with⟨rfl,hx⟩|⟨p,hp,rfl,hp0,hlev⟩
  ·obtain⟨r,hr0,h0⟩:=hG.good.bounded hG.cov hq;have:=hx r hr0;omega
  ·exact⟨_,rfl,qq p hp hp0 hlev⟩
noncomputable def tdF(ov:Int)(X Y:Nat->Int)(q c:Nat):Int:=if c=q then -X q else(X c*Y q-X q*Y c)/ov
theorem Br(X:Nat->Int)(v)(h:q<=n):(bf n X).set q (.int v)=bf n λc=>if c=q then v else X c:=by
 refine yeu λi=>?_;rw[wde];by_cases hi:i<=n
 ·rw[pD _ hi,pD _ hi,JT];by_cases e:q=i
  ·rw[au e,au (by omega),au e.symm]
  ·rw[ao e,ao (mQ e)]
 ·rw[TQ (by rw[JT];omega),TQ (by rw[JT];omega),ao (by omega)]
theorem nU(h:∀c,c<=n->X c=Y c):bf n X=bf n Y:=by
 unfold bf;rw[SX λc hc=>h c (by have:=qC.mp hc;omega)]
inductive Oa(K:ag)(C:af)(vs:List V)(H:Hp)(Q:VK)(E_:XK):Prop
 |mk(o xa ya:af)(H0:Hp)(n m q:Nat)(X Y:Nat->Int)(T:Sx.Tab)(_:vs=[.ref o,.ref xa,.ref ya,.int (q:Int)])(_:lD K C H0 H o n m T)(_:n<=10)(_:0<T.over/\T.over<=39916800)(_:q<=n)(_:H xa=some (.lst (bf n X)))(_:H ya=some (.lst (bf n Y)))(_:∀c,c<=n->(-4000000000<=X c/\X c<=4000000000)/\(-4000000000<=Y c/\Y c<=4000000000))(_:∀r H',Same H H'->H r=none->H' r=some (.lst (bf n (tdF T.over X Y q)))->Q (.ref r) H')
theorem Yv{f C:af}{fd:ψ}
  (F:Fun K "turned" "Tableau.turned" zde f fd)
  (Cc:Cls K C)(bh:NoAttr K C "cells")(dR:NoAttr K C "over")(aX:NoAttr K C "columns")(cQ:NoAttr K C "rows")(bV:mg "enumerate"=none):
  FnOk P w K mg base CX0 1 f fd ["self","cells","pivots","column"] (Oa K C):=by
 refine F.eG ["self","cells","pivots","column","by","fresh"] λH Q hr h=>?_;obtain⟨o,xa,ya,H0,n,m,q,X,Y,T,rfl,⟨dx,cl,co,ro,rws,hT⟩,hn,⟨ho0,ho1⟩,hq,hX,hY,hb,qq⟩:=h;refine⟨_,(aO (pS 4 (bB jV (pv 2) (pv 3))) (aO (pX 5 ["k","cell"] ["by","cells","column","pivots","self"] [4,1,3,2,0] (pH rfl bV (aj (pv 1) aA)) (dY K (n:=2) rfl (jO (pG 0) (jO (pG 1) Al))) m9 (bW pL (bW op_sub (bW wk (pv 1) (pv 2)) (bW wk (bB (gK K) (pv 3) (pv 4)) (bB (gK K) (pv 5) (pv 0)))) (Jc K (pv 6) rfl))) (aO (ps_asg (pe_un un_neg (bB jV (pv 1) (pv 3))) (pg_sub (pv 5) (pv 3) set_list)) (aZ (cu (pv 5)))))),?_⟩;refine⟨_,rfl,_,rfl,ya,_,_,_,rfl,rfl,SqL.of hY,eY _ hq,?_⟩;refine⟨_,rfl,false,xa,_,rfl,SqL.of hX,λhz=>?_⟩;refine jj (K:=K) (b:=false) (a:=xa) (xs:=bf n X) (λi acc σ H'=>acc=((ai i).map λc=>(X c*Y q-X q*Y c)/T.over).map V.int/\Same H H'/\∃o1 o2,σ=[o1,o2,some (.int (Y q)),some (.ref xa),some (.int (q:Int)),some (.ref ya),some (.ref o)]) ⟨rfl,Same.refl _,_,_,rfl⟩ (λi acc σ H' _ p=>p.2.1.seq (SqL.of hX)) (λi acc σ H' _ p=>?_) hz (λi v t acc σ H' hv p ht=>?_) (λacc σ H' p=>?_)
 ·rw[p.1,aF,aF,yu];exact aQ _
 ·obtain⟨rfl,sm,o1,o2,rfl⟩:=p;have hi:i<=n:=by
   have:=(oR.mp hv).1;rw[JT]at this;omega
  rw[pD _ hi]at hv;cases hv;have s1:=aP ht (.tup [.int (i:Int),.int (X i)]);have s2:=sm.trans s1;have bi:=(hb i hi).1;have bq:=(hb q hq).1;refine⟨t,_,rfl,SqT.of aH,rfl,_,_,rfl,_,_,rfl,rfl,?_⟩;refine⟨_,rfl,_,rfl,_,_,rfl,rfl,.inl ⟨by omega,by omega⟩,?_⟩;refine⟨_,rfl,_,rfl,xa,_,_,_,rfl,rfl,SqL.of (s2 _ _ hX),eY _ hq,_,rfl,_,rfl,ya,_,_,_,rfl,rfl,SqL.of (s2 _ _ hY),eY _ hi,_,_,rfl,rfl,.inl ⟨by omega,by omega⟩,_,_,rfl,rfl,?_⟩;refine⟨_,rfl,o,C,dx,_,_,rfl,s2 _ _ hT.at_,Cc,dR,rfl,_,_,rfl,rfl,⟨ho0,by omega⟩,?_⟩;exact⟨by rw[yt,bC,bC];rfl,s2,_,_,rfl⟩
 ·intro p1 hp1;obtain⟨rfl,sm,_⟩:=p;rw[JT];have s1:=aP hp1 (.lst (bf n λc=>(X c*Y q-X q*Y c)/T.over));have s2:=sm.trans s1;have h0:H p1=none:=by
   cases e:H p1 with
   |none=>rfl
   |some u=>rw[sm _ _ e]at hp1;cases hp1
  refine⟨_,rfl,_,rfl,xa,_,_,_,rfl,rfl,SqL.of (s2 _ _ hX),eY _ hq,_,rfl,?_⟩;refine⟨_,rfl,_,rfl,p1,_,_,q,rfl,rfl,aH,?_,?_⟩
  ·have e:ixN (bf n λc=>(X c*Y q-X q*Y c)/T.over).length (q:Int)=some q:=by
    rw[JT];unfold ixN;rw[au (by omega),au (by omega)];rfl
   exact e
  ·refine⟨_,rfl,qq p1 _ (λb u hb=>?_) h0 ?_⟩
   ·have nb:b≠p1:=λe=>by rw[e,h0]at hb;cases hb
    rw[cW nb];exact s2 _ _ hb
   ·rw[aH];have e:=Br (λc=>(X c*Y q-X q*Y c)/T.over) (-X q) hq;exact gR (λl=>some (HO.lst l)) e
theorem V2{k:Nat}(hk:k<=xs.length):cutV xs none (some (k:Int))=xs.take k:=by
 unfold cutV;rw[HT.sIx_nat,HT.sIx_none,Nat.min_eq_left hk,List.drop_zero,Nat.sub_zero]
theorem LC{k:Nat}(hk:k<=xs.length):cutV xs (some (k:Int)) none=xs.drop k:=by
 unfold cutV;rw[HT.sIx_nat,HT.sIx_none,Nat.min_eq_left hk,XC (by rw[wdk];omega)]
theorem _root_.L2.Same.wH(s:Same H0 H)(h:H0 a=none):Same H0 (upd H a u):=λb o hb=>by
 have nb:b≠a:=λe=>by rw[e,h]at hb;cases hb
 rw[cW nb];exact s _ _ hb
theorem _root_.L2.Same.none(s:Same H0 H)(h:H a=none):H0 a=none:=by
 cases e:H0 a with
 |none=>rfl
 |some u=>rw[s _ _ e]at h;cases h
section
variable{C:af}{H0 H:Hp}{o dx cl co ro:af}{rws:η}{n m:Nat}{T:Sx.Tab}
theorem cR.ocl(h:cR K C H0 H o dx cl co ro rws n m T):o≠cl:=ne_of h.at_ h.cells λe=>nomatch e
theorem cR.oco(h:cR K C H0 H o dx cl co ro rws n m T):o≠co:=ne_of h.at_ h.cols λe=>nomatch e
theorem cR.oro(h:cR K C H0 H o dx cl co ro rws n m T):o≠ro:=ne_of h.at_ h.rows λe=>nomatch e
theorem lR{xs:ζ}(h:0<rws.length)(e:rws.map V.ref=xs.map V.int):False:=by
 cases rws with
 |nil=>exact absurd h (uw 0)
 |cons a r=>
  cases xs with
  |nil=>cases e
  |cons x xs=>injection e with e1 _;cases e1
theorem cR.aa3(h:cR K C H0 H o dx cl co ro rws n m T):cl≠co:=λe=>by
 have z:=h.cols;rw[<-e,h.cells]at z;exact lR (by rw[h.len];omega) (HO.lst.inj (ux z))
theorem cR.aa2(h:cR K C H0 H o dx cl co ro rws n m T):cl≠ro:=λe=>by
 have z:=h.rows;rw[<-e,h.cells]at z;exact lR (by rw[h.len];omega) (HO.lst.inj (ux z))
theorem cR.aa1(h:cR K C H0 H o dx cl co ro rws n m T){r:Nat}(e:rws[r]? =some a):a≠cl:=λz=>by
 have y:=h.row r a e;rw[z,h.cells]at y;exact lR (by rw[h.len];omega) (HO.lst.inj (ux y))
theorem cR.orow(h:cR K C H0 H o dx cl co ro rws n m T){r:Nat}(e:rws[r]? =some a):a≠o:=λz=>by
 have y:=h.row r a e;rw[z,h.at_]at y;cases y
theorem cR.Pg(h:cR K C H0 H o dx cl co ro rws n m T)(h0:H0 cl'=none)(hc:H cl'=some (.lst (Kg.map V.ref)))(hl:Kg.length=m+1)(hr:∀r a,Kg[r]? =some a->H a=some (.lst (bf n (X r))))(n1:co∉Kg)(n2:ro∉Kg):
  cR K C H0 (upd H o (.ins C dx (putF "cells" (.ref cl') (flds cl co ro T.over)))) o dx cl' co ro Kg n m {T with cell:=X}:=by
 have k:∀b,b≠o->∀u,H b=some u->(upd H o (.ins C dx (putF "cells" (.ref cl') (flds cl co ro T.over)))) b=some u:=λb hb u e=>by rw[cW hb];exact e
 refine⟨h.same.wH h.o0,h.o0,h0,h.Xh,h.WX,h.ne,n1,n2,aH,k _ (λe=>?_) _ hc,hl,λr a e=>k _ (λz=>?_) _ (hr r a e),k _ h.oco.symm _ h.cols,k _ h.oro.symm _ h.rows⟩
 ·rw[e,h.at_]at hc;cases hc
 ·have y:=hr r a e;rw[z,h.at_]at y;cases y
theorem cR.Yc(h:cR K C H0 H o dx cl co ro rws n m T)(hp:p<=m)(ha:H a=some (.lst (bf n X)))(n1:co≠a)(n2:ro≠a):
  cR K C H0 (upd H cl (.lst ((rws.map V.ref).set p (.ref a)))) o dx cl co ro (rws.set p a) n m {T with cell:=λr c=>if r=p then X c else T.cell r c}:=by
 have k:∀b,b≠cl->∀u,H b=some u->(upd H cl (.lst ((rws.map V.ref).set p (.ref a)))) b=some u:=λb hb u e=>by rw[cW hb];exact e
 have hac:a≠cl:=λz=>by
  rw[z,h.cells]at ha;exact lR (by rw[h.len];omega) (HO.lst.inj (ux ha))
 refine⟨h.same.wH h.ZM,h.o0,h.ZM,h.Xh,h.WX,h.ne,λz=>?_,λz=>?_,k _ h.ocl _ h.at_,by rw[aH,wgc],by rw[wdy];exact h.len,λr b e=>?_,k _ h.aa3.symm _ h.cols,k _ h.aa2.symm _ h.rows⟩
 ·rcases weq z with z|z
  ·exact h.nc z
  ·exact n1 z
 ·rcases weq z with z|z
  ·exact h.nr z
  ·exact n2 z
 ·rw[wde]at e;by_cases c:p=r
  ·rw[au c,au (by rw[h.len];omega)]at e;cases e;rw[k _ hac _ ha];exact gR (λl=>some (HO.lst l)) (nU λc' _=>by show X c'=if r=p then X c' else T.cell r c';rw[au c.symm])
  ·rw[ao c]at e;rw[k _ (h.aa1 e) _ (h.row r b e)];exact gR (λl=>some (HO.lst l)) (nU λc' _=>by show T.cell r c'=if r=p then X c' else T.cell r c';rw[ao (mQ c)])
theorem cR.setOver(h:cR K C H0 H o dx cl co ro rws n m T)(v):cR K C H0 (upd H o (.ins C dx (putF "over" (.int v) (flds cl co ro T.over)))) o dx cl co ro rws n m {T with over:=v}:=by
 have k:∀b,b≠o->∀u,H b=some u->(upd H o (.ins C dx (putF "over" (.int v) (flds cl co ro T.over)))) b=some u:=λb hb u e=>by rw[cW hb];exact e
 exact⟨h.same.wH h.o0,h.o0,h.ZM,h.Xh,h.WX,h.ne,h.nc,h.nr,aH,k _ h.ocl.symm _ h.cells,h.len,λr a e=>k _ (h.orow e) _ (h.row r a e),k _ h.oco.symm _ h.cols,k _ h.oro.symm _ h.rows⟩
theorem cR.Ud(h:cR K C H0 H o dx cl co ro rws n m T)(v:Nat)(hp:p<m):cR K C H0 (upd H ro (.lst (((cD m T.row).map V.int).set p (.int (v:Int))))) o dx cl co ro rws n m {T with row:=λr=>if r=p then v else T.row r}:=by
 have k:∀b,b≠ro->∀u,H b=some u->(upd H ro (.lst (((cD m T.row).map V.int).set p (.int (v:Int))))) b=some u:=λb hb u e=>by rw[cW hb];exact e
 refine⟨h.same.wH h.WX,h.o0,h.ZM,h.Xh,h.WX,h.ne,h.nc,h.nr,k _ h.oro _ h.at_,k _ h.aa2 _ h.cells,h.len,λr a e=>k _ (λz=>h.nr (z▸nu e)) _ (h.row r a e),k _ h.ne _ h.cols,?_⟩;rw[aH,<-wgc,xO _ _ hp]
theorem cR.Ue(h:cR K C H0 H o dx cl co ro rws n m T)(v:Nat)(hq:q<n):cR K C H0 (upd H co (.lst (((cD n T.col).map V.int).set q (.int (v:Int))))) o dx cl co ro rws n m {T with col:=λc=>if c=q then v else T.col c}:=by
 have k:∀b,b≠co->∀u,H b=some u->(upd H co (.lst (((cD n T.col).map V.int).set q (.int (v:Int))))) b=some u:=λb hb u e=>by rw[cW hb];exact e
 refine⟨h.same.wH h.Xh,h.o0,h.ZM,h.Xh,h.WX,h.ne,h.nc,h.nr,k _ h.oco _ h.at_,k _ h.aa3 _ h.cells,h.len,λr a e=>k _ (λz=>h.nc (z▸nu e)) _ (h.row r a e),?_,k _ h.ne.symm _ h.rows⟩;rw[aH,<-wgc,xO _ _ hq]
end
theorem Pn(X:Nat->Int)(v)(h:q<=n):((bf n X).take q++[.int v])++(bf n X).drop (q+1)=bf n λc=>if c=q then v else X c:=by
 rw[<-Br X v h,List.set_eq_take_append_cons_drop,au (by rw[JT];omega),Xx];rfl
inductive N7(K:ag)(C:af)(vs:List V)(H:Hp)(Q:VK)(E_:XK):Prop
 |mk(o:af)(H0:Hp)(n m p q:Nat)(S:Nat->Nat->Bool)(wt:Nat->Int)(T:Sx.Tab)(_:vs=[.ref o,.int (p:Int),.int (q:Int)])(_:lD K C H0 H o n m T)(_:TG n m S wt T)(_:p<m)(_:q<n)(_:∀H',lD K C H0 H' o n m (Sx.turn T p q)->Q .non H')
theorem Yt{f f1 C:af}
  {fd d1:ψ}
  (F:Fun K "turn" "Tableau.turn" gD f fd)
  (Cc:Cls K C)(bh:NoAttr K C "cells")(dR:NoAttr K C "over")(aX:NoAttr K C "columns")(cQ:NoAttr K C "rows")(D1:sH K C "turned" "Tableau.turned" zde ["self","cells","pivots","column"] f1 d1)(G1:FnOk P w K mg base CX0 1 f1 d1 ["self","cells","pivots","column"] (Oa K C)):
  FnOk P w K mg base CX0 2 f fd ["self","row","column"] (N7 K C):=by
 refine F.eG ["self","row","column","pivots","by","name"] λH Q hr h=>?_;obtain⟨o,H0,n,m,p,q,S,wt,T,rfl,⟨dx,cl,co,ro,rws,hT⟩,hG,hp,hq,qq⟩:=h;refine cg ?_;intro Y;refine⟨_,(aO (pS 3 (bB jV (oM (pv 0) rfl) (pv 1))) (aO (pS 4 (bB jV (pv 3) (pv 2))) (aO (ps_fld (pv 0) (pK ["cells"] ["self","pivots","column"] [0,3,2] (wV (oM (pv 0) rfl)) (pG 0) m9 (Hy (pv 1) Cc D1.m G1 hr D1.b .nil pass0 (aj (pv 0) (aj (pv 2) (aj (pv 3) aA))))) rfl) (aO (ps_asg (bW op_cat (bW op_cat (pe_slice sl_list (pv 3) po_none (po_some (pv 2))) (pe_lst (aj (oM (pv 0) rfl) aA))) (pe_slice sl_list (pv 3) (po_some (bW sI (pv 2) aM)) po_none)) (pg_sub (oM (pv 0) rfl) (pv 1) set_list)) (aO (ps_fld (pv 0) (pv 4) rfl) (aO (pS 5 (bB jV (oM (pv 0) rfl) (pv 1))) (aO (ps_asg (bB jV (oM (pv 0) rfl) (pv 2)) (pg_sub (oM (pv 0) rfl) (pv 1) set_list)) (aZ (ps_asg (pv 5) (pg_sub (oM (pv 0) rfl) (pv 2) set_list)))))))))),?_⟩;refine abW ?_;intro c8 c7 c6 c5 c4 c3 c2;obtain⟨pa,pe,pi,pr⟩:=hT.Kh (dN hp);refine⟨_,rfl,o,C,dx,_,_,rfl,hT.at_,Cc,bh,rfl,_,rfl,cl,_,_,_,rfl,rfl,SqL.of hT.cells,pi,?_⟩;refine⟨_,rfl,_,rfl,pa,_,_,_,rfl,rfl,SqL.of pr,eY _ (dN hq),?_⟩;refine⟨_,rfl,o,C,dx,_,_,rfl,hT.at_,Cc,bh,rfl,cl,_,rfl,SqL.of hT.cells,λhz=>?_⟩;let mH:Nat->List V->St->Hp->Prop:=λi acc σ H'=>∃as:η,acc=as.map V.ref/\as.length=i/\Same H H'/\(∀r a,as[r]? =some a->H a=none/\H' a=some (.lst (bf n (tdF T.over (T.cell r) (T.cell p) q))))/\∃o1,σ=[o1,some (.ref o),some (.ref pa),some (.int (q:Int))];refine Eb (xs:=rws.map V.ref) mH ⟨[],rfl,rfl,Same.refl _,λr a e=>(nomatch e),_,rfl⟩ (λi acc σ H' _ x=>?_) (λi acc σ H' _ x=>?_) hz (λi v acc σ H' hv x=>?_) (λacc σ H' x=>?_)
 ·obtain⟨_,_,_,sm,_⟩:=x;exact sm.seq (SqL.of hT.cells)
 ·obtain⟨as,rfl,hl,_⟩:=x;rw[aF,hl];exact aQ _
 ·obtain⟨as,rfl,hl,sm,has,o1,rfl⟩:=x;rw[cV]at hv;cases er:rws[i]? with
  |none=>rw[er]at hv;cases hv
  |some ra=>
   rw[er]at hv;cases hv;have him:i<=m:=by have:=(oR.mp er).1;rw[hT.len]at this;omega
   refine⟨_,rfl,o,dx,_,rfl,sm _ _ hT.at_,rfl,_,rfl,_,rfl,_,rfl,o,ra,pa,H0,n,m,q,T.cell i,T.cell p,T,rfl,⟨dx,cl,co,ro,rws,hT.sm sm⟩,hG.n10,hG.over,dN hq,sm _ _ (hT.row i ra er),sm _ _ pr,λc hc=>⟨hG.cell him hc,hG.cell (dN hp) hc⟩,λr1 H1 s1 h1 e1=>?_⟩;refine⟨as++[r1],by rw[bC];rfl,by rw[oO,hl];rfl,sm.trans s1,λr a e=>?_,_,rfl⟩;rw[ydl]at e;by_cases c:r<as.length
   ·rw[au c]at e;exact⟨(has r a e).1,s1 _ _ (has r a e).2⟩
   ·rw[ao c]at e;have er':r-as.length=0:=by
     have:=(oR.mp e).1;have:r-as.length<1:=this;omega
    rw[er']at e;cases e;have:r=i:=by omega
    subst this;exact⟨sm.none h1,e1⟩
 ·intro p1 hp1;obtain⟨as,rfl,hl,sm,has,_⟩:=x;rw[aF,hT.len]at hl;have s1:=aP hp1 (.lst (as.map V.ref));have hT1:=hT.sm (sm.trans s1);have h10:H0 p1=none:=hT.same.none (sm.none hp1);have nas:∀b u,H b=some u->b∉as:=λb u hb hm=>by
   obtain⟨r,hr1,rfl⟩:=Ed hm;have:=(has r _ (eN hr1)).1;rw[hb]at this;cases this
  have hT2:=hT1.Pg (cl':=p1) (Kg:=as) (X:=λr=>tdF T.over (T.cell r) (T.cell p) q) h10 aH hl (λr a e=>s1 _ _ (has r a e).2) (nas _ _ hT.cols) (nas _ _ hT.rows);refine⟨_,rfl,o,C,dx,_,rfl,hT1.at_,Cc,bh,(by show 4<1000;decide),?_⟩;have npo:pa≠o:=hT.orow pe;have pr2:=(sm.trans s1) _ _ pr;have pr3:(upd (upd H' p1 (.lst (as.map V.ref))) o (.ins C dx (putF "cells" (.ref p1) (flds cl co ro T.over)))) pa=some (.lst (bf n (T.cell p))):=by rw[cW npo];exact pr2
  generalize (upd (upd H' p1 (.lst (as.map V.ref))) o (.ins C dx (putF "cells" (.ref p1) (flds cl co ro T.over))))=H2 at *
  refine⟨_,rfl,_,rfl,_,rfl,pa,_,rfl,SqL.of pr3,λl1 hl1=>?_⟩;have t1:=aP hl1 (.lst (cutV (bf n (T.cell p)) none (some (q:Int))));have f1:(upd H2 l1 (.lst (cutV (bf n (T.cell p)) none (some (q:Int))))) l1=some (.lst (cutV (bf n (T.cell p)) none (some (q:Int)))):=aH;generalize (upd H2 l1 (.lst (cutV (bf n (T.cell p)) none (some (q:Int)))))=H3 at *;refine⟨_,rfl,o,C,dx,_,_,rfl,t1 _ _ hT2.at_,Cc,dR,rfl,szl,λl2 hl2=>?_⟩;have t2:=aP hl2 (.lst [.int T.over]);have f2:(upd H3 l2 (.lst [.int T.over])) l2=some (.lst [.int T.over]):=aH;have f1':=t2 _ _ f1;refine⟨l1,l2,_,_,rfl,rfl,f1',f2,?_,λl3 hl3=>?_⟩
  ·have:=cutV_length (bf n (T.cell p)) none (some (q:Int));rw[JT]at this;have:=hG.n10;rw[eZ];show _+1<=_;omega
  have t3:=aP hl3 (.lst (cutV (bf n (T.cell p)) none (some (q:Int))++[.int T.over]));have f3:(upd (upd H3 l2 (.lst [.int T.over])) l3 (.lst (cutV (bf n (T.cell p)) none (some (q:Int))++[.int T.over]))) l3=some (.lst (cutV (bf n (T.cell p)) none (some (q:Int))++[.int T.over])):=aH;have t13:=t1.trans (t2.trans t3);generalize (upd (upd H3 l2 (.lst [.int T.over])) l3 (.lst (cutV (bf n (T.cell p)) none (some (q:Int))++[.int T.over])))=H5 at *;refine⟨_,rfl,_,rfl,_,_,rfl,rfl,_,rfl,pa,_,rfl,SqL.of (t13 _ _ pr3),λl4 Zc=>?_⟩;have t4:=aP Zc (.lst (cutV (bf n (T.cell p)) (some ((q:Int)+1)) none));refine⟨l3,l4,_,_,rfl,rfl,t4 _ _ f3,aH,?_,λl5 hl5=>?_⟩
  ·have a1:=cutV_length (bf n (T.cell p)) none (some (q:Int));have a2:=cutV_length (bf n (T.cell p)) (some ((q:Int)+1)) none;rw[JT]at a1 a2;have:=hG.n10;rw[oO,eZ];show _+1+_<=_;omega
  have t5:=aP hl5 (.lst ((cutV (bf n (T.cell p)) none (some (q:Int))++[.int T.over])++cutV (bf n (T.cell p)) (some ((q:Int)+1)) none));have abF:(cutV (bf n (T.cell p)) none (some (q:Int))++[.int T.over])++cutV (bf n (T.cell p)) (some ((q:Int)+1)) none=bf n λc=>if c=q then T.over else T.cell p c:=by
   rw[V2 (by rw[JT];omega),show(q:Int)+1=((q+1:Nat):Int)from by omega,LC (by rw[JT];omega)];exact Pn _ _ (dN hq)
  rw[abF]at t5⊢;have hT3:=hT2.sm (t13.trans (t4.trans t5));have f5:(upd (upd H5 l4 (.lst (cutV (bf n (T.cell p)) (some ((q:Int)+1)) none))) l5 (.lst (bf n λc=>if c=q then T.over else T.cell p c))) l5=some (.lst (bf n λc=>if c=q then T.over else T.cell p c)):=aH;have g1:co≠l5:=jr ((t13.trans t4) _ _ hT2.cols) hl5;have g2:ro≠l5:=jr ((t13.trans t4) _ _ hT2.rows) hl5;generalize (upd (upd H5 l4 (.lst (cutV (bf n (T.cell p)) (some ((q:Int)+1)) none))) l5 (.lst (bf n λc=>if c=q then T.over else T.cell p c)))=H6 at *;have hT4:=hT3.Yc (p:=p) (dN hp) f5 g1 g2;refine⟨_,rfl,o,C,dx,_,_,rfl,hT3.at_,Cc,bh,rfl,_,rfl,p1,_,_,p,rfl,rfl,hT3.cells,?_,?_⟩
  ·have e:ixN (as.map V.ref).length (p:Int)=some p:=by
    rw[aF,hl];unfold ixN;rw[au (by omega),au (by omega)];rfl
   exact e
  generalize (upd H6 p1 (.lst ((as.map V.ref).set p (.ref l5))))=H7 at *;have hT5:=hT4.setOver (T.cell p q);refine⟨_,rfl,_,rfl,o,C,dx,_,rfl,hT4.at_,Cc,dR,(by show 4<1000;decide),?_⟩;generalize (upd H7 o (.ins C dx (putF "over" (.int (T.cell p q)) (flds p1 co ro T.over))))=H8 at *;refine⟨_,rfl,o,C,dx,_,_,rfl,hT5.at_,Cc,cQ,rfl,_,rfl,ro,_,_,_,rfl,rfl,SqL.of hT5.rows,pO _ hp,?_⟩;refine⟨_,rfl,o,C,dx,_,_,rfl,hT5.at_,Cc,aX,rfl,_,rfl,co,_,_,_,rfl,rfl,SqL.of hT5.cols,pO _ hq,?_⟩;have hT6:=hT5.Ud (p:=p) (T.col q) hp;refine⟨_,rfl,o,C,dx,_,_,rfl,hT5.at_,Cc,cQ,rfl,_,rfl,ro,_,_,p,rfl,rfl,hT5.rows,?_,?_⟩
  ·have e:ixN ((cD m T.row).map V.int).length (p:Int)=some p:=by
    rw[aF,JV];unfold ixN;rw[au (by omega),au (by omega)];rfl
   exact e
  generalize (upd H8 ro (.lst (((cD m T.row).map V.int).set p (.int ((T.col q:Nat):Int)))))=H9 at *;have CG:=hT6.Ue (q:=q) (T.row p) hq;refine⟨_,rfl,_,rfl,o,C,dx,_,_,rfl,hT6.at_,Cc,aX,rfl,_,rfl,co,_,_,q,rfl,rfl,hT6.cols,?_,?_⟩
  ·have e:ixN ((cD n T.col).map V.int).length (q:Int)=some q:=by
    rw[aF,JV];unfold ixN;rw[au (by omega),au (by omega)];rfl
   exact e
  refine qq _ ⟨dx,p1,co,ro,_,CG.same,CG.o0,CG.ZM,CG.Xh,CG.WX,CG.ne,CG.nc,CG.nr,CG.at_,CG.cells,CG.len,λr a e=>?_,CG.cols,CG.rows⟩;rw[CG.row r a e];refine gR (λl=>some (HO.lst l)) (nU λc _=>?_);show(if r=p then(if c=q then T.over else T.cell p c)else tdF T.over (T.cell r) (T.cell p) q c)=_;rfl
theorem Pk(R:Sx.Run n m S wt Ts ps qs L)(s:Sx.Step n m (Ts L) p q):
  Sx.Run n m S wt (λt=>if t<=L then Ts t else Sx.turn (Ts L) p q) (λt=>if t<L then ps t else p) (λt=>if t<L then qs t else q) (L+1):=by
 refine⟨by rw[au (dX L)];exact R.first,λt ht=>?_,λt ht=>?_⟩
 ·by_cases c:t<L
  ·rw[au (dN c),au c,au c];exact R.step t c
  ·have e:t=L:=by omega
   subst e;rw[au (aQ t),ao c,ao c];exact s
 ·by_cases c:t<L
  ·rw[au (show t+1<=L from c),au (dN c),au c,au c];exact R.next t c
  ·have e:t=L:=by omega
   subst e;rw[ao (by omega),au (aQ t),ao c,ao c]
structure Sta(n m:Nat)(S:Nat->Nat->Bool)(wt:Nat->Int):Prop where
 n10:n<=10
 m40:m<=40
 wb:∀p,p<n->0<=wt p/\wt p<=99
 cov:∀p,p<n->∃k,k<m/\S k p=true
theorem Sta.tg(h:Sta n m S wt)(g:Sx.Good n m S wt T):TG n m S wt T:=⟨g,h.n10,h.m40,h.wb,h.cov⟩
noncomputable def NcV(n m:Nat)(T:Sx.Tab)(x:V):Prop:=(x=.non/\∀c,c<n->0<=T.cell m c)\/∃q:Nat,x=.int (q:Int)/\q<n/\T.cell m q<0/\∀c,c<n->T.cell m c<0->T.col q<=T.col c
noncomputable def RV(K:ag)(C o:af)(H0:Hp)(n m:Nat)(S:Nat->Nat->Bool)(wt:Nat->Int)(k:Nat)(σ:St)(H:Hp):Prop:=
 ∃(Ts:Nat->Sx.Tab) (ps qs:Nat->Nat) (L:Nat) (x:V),Sx.Run n m S wt Ts ps qs L/\L+k=2^(n+m)/\lD K C H0 H o n m (Ts L)/\σ=[some (.ref o),some x]/\NcV n m (Ts L) x
inductive Ik(K:ag)(C:af)(vs:List V)(H:Hp)(Q:VK)(E_:XK):Prop
 |mk(o:af)(H0:Hp)(n m:Nat)(S:Nat->Nat->Bool)(wt:Nat->Int)(T:Sx.Tab)(_:vs=[.ref o])(_:lD K C H0 H o n m T)(_:Sta n m S wt)(_:Sx.Good n m S wt T)(_:∀T' H',lD K C H0 H' o n m T'->Sx.Good n m S wt T'->(∀c,c<n->0<=T'.cell m c)->Q .non H')
theorem Yw{f f1 f2 f3 C:af}
  {fd d1 d2 d3:ψ}
  (F:Fun K "solve" "Tableau.solve" fL f fd)
  (Cc:Cls K C)(bh:NoAttr K C "cells")(dR:NoAttr K C "over")(aX:NoAttr K C "columns")(cQ:NoAttr K C "rows")(D1:sH K C "next_column" "Tableau.next_column" zbx ["self"] f1 d1)(G1':FnOk P w K mg base CX0 1 f1 d1 ["self"] (Io K C))(D2:sH K C "turn" "Tableau.turn" gD ["self","row","column"] f2 d2)(G2:FnOk P w K mg base CX0 2 f2 d2 ["self","row","column"] (N7 K C))(D3:sH K C "next_row" "Tableau.next_row" zcp ["self","column"] f3 d3)(G3:FnOk P w K mg base CX0 2 f3 d3 ["self","column"] (Ob K C)):
  FnOk P w K mg base CX0 3 f fd ["self"] (Ik K C):=by
 have G1:FnOk P w K mg base CX0 2 f1 d1 ["self"] (Io K C):=G1'.mono (by decide);refine F.eG ["self","column"] λH Q hr h=>?_;obtain⟨o,H0,n,m,S,wt,T,rfl,hT,hS,hg,qq⟩:=h;refine cg ?_;intro Y;refine⟨_,(aO (pS 1 (pe_meth0 (pv 0) Cc D1.m G1 hr D1.b .nil pass0)) (aZ (ps_while wX (iM op_notN (pv 1) pe_non) (aO (wz (Hy (pv 0) Cc D2.m G2 hr D2.b .nil pass0 (aj (Hy (pv 0) Cc D3.m G3 hr D3.b .nil pass0 (aj (pv 1) aA)) (aj (pv 1) aA)))) (aZ (pS 1 (pe_meth0 (pv 0) Cc D1.m G1 hr D1.b .nil pass0))))))),?_⟩;refine Cz ?_;intro c2;have key:∀(x:V) (H1:Hp),lD K C H0 H1 o n m T->NcV n m T x->∃k,RV K C o H0 n m S wt k [some (.ref o),some x] H1:=λx H1 h1 h2=>
  ⟨2^(n+m),λ_=>T,λ_=>0,λ_=>0,0,x,⟨hg,λt ht=>absurd ht (Xr t),λt ht=>absurd ht (Xr t)⟩,wfw _,h1,rfl,h2⟩
 obtain⟨dx,cl,co,ro,rws,hA0⟩:=id hT;refine⟨_,rfl,o,dx,_,rfl,hA0.at_,rfl,o,H0,n,m,S,wt,T,rfl,hT,hS.tg hg,?a,?b⟩
 case' a=>
  intro h H1 s1;have w0:=key _ _ (hT.sm s1) (.inl ⟨rfl,h⟩);refine⟨RV K C o H0 n m S wt,w0,?_⟩;clear w0 s1 h
 case' b=>
  intro q H1 hq hn he s1;have w0:=key _ _ (hT.sm s1) (.inr ⟨q,rfl,hq,hn,he⟩);refine⟨RV K C o H0 n m S wt,w0,?_⟩;clear w0 s1 he hn hq q
 all_goals
  clear H1;intro k σ H1 h;obtain⟨Ts,ps,qs,L,x,R,hk,⟨dx',cl,co,ro,rws,hA⟩,rfl,hx⟩:=h;have hgL:=R.good L (aQ L);have hG:=hS.tg hgL;have hsh:=R.short;rcases hx with⟨rfl,hx⟩|⟨q,rfl,hq,hn,he⟩
  ·refine⟨_,rfl,rfl,_,rfl,?_⟩;apply iteF;exact qq (Ts L) H1 ⟨dx',cl,co,ro,rws,hA⟩ hgL hx
  ·refine⟨_,rfl,rfl,_,rfl,?_⟩;apply iteT;refine⟨RV K C o H0 n m S wt (k-1),λσ' H' z=>⟨k-1,by omega,z⟩,?_⟩;refine⟨_,rfl,o,dx',_,rfl,hA.at_,rfl,_,rfl,o,dx',_,rfl,hA.at_,rfl,_,rfl,o,H0,n,m,q,S,wt,Ts L,rfl,⟨dx',cl,co,ro,rws,hA⟩,hG,hq,λp hp h0 hlev=>?_⟩;have st:Sx.Step n m (Ts L) p q:=⟨hp,hq,hn,he,h0,hlev⟩;refine⟨_,rfl,o,H0,n,m,p,q,S,wt,Ts L,rfl,⟨dx',cl,co,ro,rws,hA⟩,hG,hp,hq,λH2 hT2=>?_⟩;have R2:=Pk R st;have g2:=st.good hgL;obtain⟨dx2,cl2,co2,ro2,ab1,hA2⟩:=id hT2;have fin:∀(x:V) (H3:Hp),Same H2 H3->NcV n m (Sx.turn (Ts L) p q) x->RV K C o H0 n m S wt (k-1) [some (.ref o),some x] H3:=λx H3 s3 hx=>by
    refine⟨_,_,_,L+1,x,R2,by omega,?_,rfl,?_⟩
    ·rw[ao (by omega)];exact hT2.sm s3
    ·rw[ao (by omega)];exact hx
   exact⟨_,rfl,o,dx2,_,rfl,hA2.at_,rfl,o,H0,n,m,S,wt,_,rfl,hT2,hS.tg g2,λh H3 s3=>fin _ H3 s3 (.inl ⟨rfl,h⟩),λq' H3 hq' hn' he' s3=>fin _ H3 s3 (.inr ⟨q',rfl,hq',hn',he'⟩)⟩
noncomputable def aa8(k:Nat)(i:Int)(r:Nat):Prop:=(i=(r:Int)/\r<=k)\/(i=-1/\r=k)
inductive xg(K:ag)(C:af)(vs:List V)(H:Hp)(Q:VK)(E_:XK):Prop
 |mk(o:af)(H0:Hp)(n m r c:Nat)(i j:Int)(S:Nat->Nat->Bool)(wt:Nat->Int)(T:Sx.Tab)(_:vs=[.ref o,.int i,.int j])(_:lD K C H0 H o n m T)(_:TG n m S wt T)(_:aa8 m i r)(_:aa8 n j c)(_:∀p H' u v,Same H H'->H' p=some (.tup [.int u,.int ((v:Nat):Int)])->Low (T.cell r c) T.over.toNat u v->Q (.ref p) H')
theorem YC{f C:af}{fd:ψ}
  (F:Fun K "fraction_at" "Tableau.fraction_at" zav f fd)
  (Cc:Cls K C)(bh:NoAttr K C "cells")(dR:NoAttr K C "over")(aX:NoAttr K C "columns")(cQ:NoAttr K C "rows")(D1:Dp P w K mg base 2 "lowest" jd ["a","b"] (xq K)):
  FnOk P w K mg base CX0 3 f fd ["self","row","column"] (xg K C):=by
 refine F.U4 ["self","row","column"] λcdv A outer s H vs Q E hr h=>?_;obtain⟨o,H0,n,m,r,c,i,j,S,wt,T,rfl,⟨dx,cl,co,ro,rws,hT⟩,hG,hi,hj,qq⟩:=h;refine⟨_,(aZ (cu (pd D1 hr (aj (bB jV (bB jV (oM (pv 0) rfl) (pv 1)) (pv 2)) (aj (oM (pv 0) rfl) aA))))),?_⟩;have hri:∃a,atI (rws.map V.ref) i=some (.ref a)/\H a=some (.lst (bf n (T.cell r))):=by
  rcases hi with⟨rfl,h⟩|⟨rfl,rfl⟩
  ·obtain⟨a,_,h1,h2⟩:=hT.Kh h;exact⟨a,h1,h2⟩
  ·obtain⟨a,_,h1,h2⟩:=hT.aam;exact⟨a,h1,h2⟩
 have hcj:atI (bf n (T.cell r)) j=some (.int (T.cell r c)):=by
  rcases hj with⟨rfl,h⟩|⟨rfl,rfl⟩
  ·exact eY _ h
  ·exact qN _ _
 obtain⟨a,h1,h2⟩:=hri;have ho:=hG.over;refine⟨_,rfl,o,C,dx,_,_,rfl,hT.at_,Cc,bh,rfl,_,rfl,cl,_,_,_,rfl,rfl,SqL.of hT.cells,h1,_,rfl,a,_,_,_,rfl,rfl,SqL.of h2,hcj,?_⟩;refine⟨_,rfl,o,C,dx,_,_,rfl,hT.at_,Cc,dR,rfl,T.cell r c,T.over.toNat,?_,by omega,bR (show T.over.toNat<=39916800 by omega) (by decide),λp H' u v s e l=>qq p H' u v s e l⟩;rw[show((T.over.toNat:Nat):Int)=T.over by omega];rfl
theorem Cd(hb:0<b)(h:Low 0 1 u v):Low 0 b u v:=by
 have e:=h.eq;have hu:u=0:=by omega
 subst hu;have c:=h.cop;rw[show(0:Int).natAbs=0 from rfl,Nat.gcd_zero_left]at c;subst c;exact⟨by decide,rfl,by omega,aQ _,hb,λ_=>tK _⟩
inductive Im(K:ag)(C:af)(vs:List V)(H:Hp)(Q:VK)(E_:XK):Prop
 |mk(o:af)(H0:Hp)(n m a:Nat)(S:Nat->Nat->Bool)(wt:Nat->Int)(T:Sx.Tab)(_:vs=[.ref o,.int (a:Int)])(_:lD K C H0 H o n m T)(_:TG n m S wt T)(_:∀p H' u v,Same H H'->H' p=some (.tup [.int u,.int ((v:Nat):Int)])->Low (Sx.Xs n m T a) T.over.toNat u v->Q (.ref p) H')
theorem Yy{f f2 C:af}
  {fd d2:ψ}
  (F:Fun K "price_of" "Tableau.price_of" zco f fd)
  (Cc:Cls K C)(bh:NoAttr K C "cells")(dR:NoAttr K C "over")(aX:NoAttr K C "columns")(cQ:NoAttr K C "rows")(D1:Dp P w K mg base 2 "lowest" jd ["a","b"] (xq K))(D2:sH K C "fraction_at" "Tableau.fraction_at" zav ["self","row","column"] f2 d2)(G2:FnOk P w K mg base CX0 3 f2 d2 ["self","row","column"] (xg K C)):
  FnOk P w K mg base CX0 4 f fd ["self","name"] (Im K C):=by
 refine F.U4 ["self","name"] λcdv A outer s H vs Q E hr h=>?_;obtain⟨o,H0,n,m,a,S,wt,T,rfl,⟨dx,cl,co,ro,rws,hT⟩,hG,qq⟩:=h;refine cg ?_;intro Y;refine⟨_,(aO (jq (iM (qO hr.units) (pv 1) (oM (pv 0) rfl) (by with_unfolding_all rfl)) (aZ (cu (pd D1 hr (aj aM (aj aM aA))))) jN) (aZ (cu (Hy (pv 0) Cc D2.m G2 hr D2.b .nil pass0 (aj (pe_bm Te wcr wcs qR (oM (pv 0) rfl) (aj (pv 1) aA)) (aj (pe_un un_neg aM) aA)))))),?_⟩;refine Cz ?_;intro c2;have ho:=hG.over;refine⟨_,rfl,_,rfl,o,C,dx,_,_,rfl,hT.at_,Cc,cQ,rfl,ro,_,_,.int (a:Int),rfl,.inl (SqL.of hT.rows),cF.ints _,.int _,Hz _,rfl,(by show 0<=60;decide),_,rfl,?_⟩;rw[Ml];refine ite2 (λc=>?_) (λc=>?_)
 ·have c':((a:Nat):Int)∉cD m T.row:=by
   intro hm;rw[bY hm]at c;cases c
  refine⟨0,1,rfl,by decide,by decide,λp H' u v s e l=>qq p H' u v s e ?_⟩;rw[Sx.Wn λr hr z=>c' (by
   have:=HB T.row hr;rw[z]at this;exact nu this)]
  exact Cd (by omega) l
 ·have c':((a:Nat):Int)∈cD m T.row:=by
   refine WD λhm=>c ?_;rw[gj hm];rfl
  obtain⟨r,hr1,er⟩:=Ed c';have hr0:r<m:=by rw[JV]at hr1;exact hr1
  have e0:=eN hr1;rw[er]at e0;have ea:T.row r=a:=by
   rw[HB _ hr0]at e0;exact wdu (ux e0)
  subst ea;refine⟨_,rfl,o,dx,_,rfl,hT.at_,rfl,_,rfl,o,C,dx,_,_,rfl,hT.at_,Cc,cQ,rfl,.inl ⟨rfl,_,SqL.of hT.rows⟩,_,rfl,ro,cD m T.row,_,r,rfl,rfl,hT.rows,HB _ hr0,λi hi e=>?_,by rw[JV];have:=hG.m40;omega,?_⟩
  ·rw[HB _ (by omega)]at e;have:=hG.good.Pr i r (by omega) hr0 (wdu (ux e));omega
  ·refine⟨_,rfl,o,H0,n,m,r,n,_,_,S,wt,T,rfl,⟨dx,cl,co,ro,rws,hT⟩,hG,.inl ⟨rfl,dN hr0⟩,.inr ⟨rfl,rfl⟩,λp H' u v s e l=>qq p H' u v s e ?_⟩;rw[hG.good.Ws hr0];exact l
inductive Il(K:ag)(C:af)(vs:List V)(H:Hp)(Q:VK)(E_:XK):Prop
 |mk(o:af)(H0:Hp)(n m a:Nat)(S:Nat->Nat->Bool)(wt:Nat->Int)(T:Sx.Tab)(_:vs=[.ref o,.int (a:Int)])(_:lD K C H0 H o n m T)(_:TG n m S wt T)(_:∀p H' u v,Same H H'->H' p=some (.tup [.int u,.int ((v:Nat):Int)])->Low (Sx.Ys n m T a) T.over.toNat u v->Q (.ref p) H')
theorem Yx{f f2 C:af}
  {fd d2:ψ}
  (F:Fun K "share_of" "Tableau.share_of" zcn f fd)
  (Cc:Cls K C)(bh:NoAttr K C "cells")(dR:NoAttr K C "over")(aX:NoAttr K C "columns")(cQ:NoAttr K C "rows")(D1:Dp P w K mg base 2 "lowest" jd ["a","b"] (xq K))(D2:sH K C "fraction_at" "Tableau.fraction_at" zav ["self","row","column"] f2 d2)(G2:FnOk P w K mg base CX0 3 f2 d2 ["self","row","column"] (xg K C)):
  FnOk P w K mg base CX0 4 f fd ["self","name"] (Il K C):=by
 refine F.U4 ["self","name"] λcdv A outer s H vs Q E hr h=>?_;obtain⟨o,H0,n,m,a,S,wt,T,rfl,⟨dx,cl,co,ro,rws,hT⟩,hG,qq⟩:=h;refine cg ?_;intro Y;refine⟨_,(aO (jq (iM (qO hr.units) (pv 1) (oM (pv 0) rfl) (by with_unfolding_all rfl)) (aZ (cu (pd D1 hr (aj aM (aj aM aA))))) jN) (aZ (cu (Hy (pv 0) Cc D2.m G2 hr D2.b .nil pass0 (aj (pe_un un_neg aM) (aj (pe_bm Te wcr wcs qR (oM (pv 0) rfl) (aj (pv 1) aA)) aA)))))),?_⟩;refine Cz ?_;intro c2;have ho:=hG.over;refine⟨_,rfl,_,rfl,o,C,dx,_,_,rfl,hT.at_,Cc,aX,rfl,co,_,_,.int (a:Int),rfl,.inl (SqL.of hT.cols),cF.ints _,.int _,Hz _,rfl,(by show 0<=60;decide),_,rfl,?_⟩;rw[Ml];refine ite2 (λc=>?_) (λc=>?_)
 ·have c':((a:Nat):Int)∉cD n T.col:=by
   intro hm;rw[bY hm]at c;cases c
  refine⟨0,1,rfl,by decide,by decide,λp H' u v s e l=>qq p H' u v s e ?_⟩;rw[Sx.aad λr hr z=>c' (by
   have:=HB T.col hr;rw[z]at this;exact nu this)]
  exact Cd (by omega) l
 ·have c':((a:Nat):Int)∈cD n T.col:=by
   refine WD λhm=>c ?_;rw[gj hm];rfl
  obtain⟨r,hr1,er⟩:=Ed c';have hr0:r<n:=by rw[JV]at hr1;exact hr1
  have e0:=eN hr1;rw[er]at e0;have ea:T.col r=a:=by
   rw[HB _ hr0]at e0;exact wdu (ux e0)
  subst ea;refine⟨_,rfl,o,dx,_,rfl,hT.at_,rfl,_,rfl,_,rfl,o,C,dx,_,_,rfl,hT.at_,Cc,aX,rfl,.inl ⟨rfl,_,SqL.of hT.cols⟩,_,rfl,co,cD n T.col,_,r,rfl,rfl,hT.cols,HB _ hr0,λi hi e=>?_,by rw[JV];have:=hG.n10;omega,?_⟩
  ·rw[HB _ (by omega)]at e;have:=hG.good.GJ i r (by omega) hr0 (wdu (ux e));omega
  ·refine⟨o,H0,n,m,m,r,_,_,S,wt,T,rfl,⟨dx,cl,co,ro,rws,hT⟩,hG,.inr ⟨rfl,rfl⟩,.inl ⟨rfl,dN hr0⟩,λp H' u v s e l=>qq p H' u v s e ?_⟩;rw[hG.good.aae hr0];exact l
noncomputable def gU(L:List ζ)(k p:Nat):Bool:=decide (((p:Nat):Int)∈L.getD k [])
noncomputable def wD(wl:ζ)(p:Nat):Int:=wl.getD p 0
theorem Yi(hr:r<m):((ai n).map λ(p:Nat)=>if decide (((p:Nat):Int)∈L.getD r [])=true then(1:Int)else 0).map V.int++[.int 1]=bf n ((Sx.start n m (gU L) wt).cell r):=by
 unfold bf;rw[yt,bC,bC];congr 1
 ·refine gR _ (SX λc hc=>?_);have hc':=qC.mp hc;show _=if r=m then _ else if c=n then(1:Int)else if gU L r c=true then 1 else 0
  rw[ao (show¬r=m by omega),ao (show¬c=n by omega)];rfl
 ·show[V.int 1]=[V.int (if r=m then _ else if n=n then(1:Int)else _)];rw[ao (by omega),au rfl]
theorem Uj:(wl.map λx=> -x).map V.int++[.int 0]=bf wl.length ((Sx.start wl.length m (gU L) (wD wl)).cell m):=by
 unfold bf;rw[yt,bC,bC];congr 1
 ·refine gR _ (yeu λi=>?_);rw[cV,cV];by_cases hi:i<wl.length
  ·rw[eN hi,ydr hi];show some (-wl[i])=some (if m=m then(if i=wl.length then(0:Int)else -(wl.getD i 0))else _);rw[au rfl,ao (by omega),gQ,eN hi];rfl
  ·rw[TQ (by omega),TQ (by rw[yu];omega)];rfl
 ·show[V.int 0]=[V.int (if m=m then(if wl.length=wl.length then(0:Int)else _)else _)];rw[au rfl,au rfl]
theorem _root_.L2.SqT.abb(hO:H o=some (.ins C dx fs))(h:SqT K H a xs):SqT K (upd H o u) a xs:=by
 rcases h with(h|⟨ob,h⟩)|h
 ·exact .inl (.inl (by rw[cW (ne_of h hO λe=>nomatch e)];exact h))
 ·exact .inl (.inr ⟨ob,by rw[cW (ne_of h hO λe=>nomatch e)];exact h⟩)
 ·exact .inr h
inductive yF(K:ag)(C:af)(vs:List V)(H:Hp)(Q:VK)(E_:XK):Prop
 |mk(o dx sl wa:af)(H0:Hp)(its:List (af×ζ))(wl:ζ)(_:vs=[.ref o,.ref sl,.ref wa])(_:H o=some (.ins C dx []))(_:Same H0 H)(_:H0 o=none)(_:H sl=some (.lst (its.map λp=>V.ref p.1)))(_:∀p∈its,SqT K H p.1 (p.2.map V.int))(_:SqT K H wa (wl.map V.int))(_:wl.length<=10)(_:its.length<=40)(_:∀H',lD K C H0 H' o wl.length its.length (Sx.start wl.length its.length (gU (its.map (·.2))) (wD wl))->Q .non H')
theorem Uw{f C:af}{fd:ψ}
  (F:Fun K "__init__" "Tableau.__init__" gF f fd)
  (Cc:Cls K C)(bh:NoAttr K C "cells")(dR:NoAttr K C "over")(aX:NoAttr K C "columns")(cQ:NoAttr K C "rows")(bU:mg "len"=none)(aG:mg "range"=none)(qW:mg "list"=none):
  FnOk P w K mg base CX0 1 f fd ["self","sets","wants"] (yF K C):=by
 refine F.eG ["self","sets","wants","n"] λH Q hr h=>?_;obtain⟨o,dx,sl,wa,H0,its,wl,rfl,hO,hS0,h0,hS,hP,hW,hn,hm,qq⟩:=h;refine cg ?_;intro Y;refine⟨_,(aO (pS 3 (pB yp bU (aj (pv 2) aA))) (aO (ps_fld (pv 0) (pK ["some"] ["n"] [3] (wV (pv 1)) (pG 0) m9 (bW op_cat (pK ["place"] ["some"] [0] (Ec rfl aG (aj (pv 1) aA)) (pG 0) m9 (pe_ifExp (iM (iD K hr.units) (pv 0) (pv 1) (by with_unfolding_all rfl)) aM aM)) (pe_lst (aj aM aA)))) rfl) (aO (wz (pe_bm Te wbe wbf mt_append (oM (pv 0) rfl) (aj (bW op_cat (pK ["want"] [] [] (Ei (pv 2)) (pG 0) m9 (pe_un un_neg (pv 0))) (pe_lst (aj aM aA))) aA))) (aO (ps_fld (pv 0) aM rfl) (aO (ps_fld (pv 0) (su rfl rfl qW rfl aG (aj (pv 3) aA)) rfl) (aZ (ps_fld (pv 0) (yQ rfl rfl qW rfl aG (aj (pv 3) (aj (bW sI (pv 3) (pB yp bU (aj (pv 1) aA))) aA))) rfl))))))),?_⟩;refine abX ?_;intro c6 c5 c4 c3 c2;refine⟨_,rfl,wa,_,rfl,.inr hW,λ_=>?_⟩;rw[aF];refine⟨_,rfl,sl,_,rfl,SqL.of hS,λhz=>?_⟩;let mH:Nat->List V->St->Hp->Prop:=λi acc σ H'=>∃as:η,acc=as.map V.ref/\as.length=i/\Same H H'/\(∀r a,as[r]? =some a->H' a=some (.lst (bf wl.length ((Sx.start wl.length its.length (gU (its.map (·.2))) (wD wl)).cell r))))/\∃o1,σ=[o1,some (.int (wl.length:Int))];refine Eb (xs:=its.map λp=>V.ref p.1) mH ⟨[],rfl,rfl,Same.refl _,λr a e=>(nomatch e),_,rfl⟩ (λi acc σ H' _ x=>?_) (λi acc σ H' _ x=>?_) hz (λi v acc σ H1 hv x=>?_) (λacc σ H1 x=>?_)
 ·obtain⟨_,_,_,sm,_⟩:=x;exact sm.seq (SqL.of hS)
 ·obtain⟨as,rfl,hl,_⟩:=x;rw[aF,hl];exact aQ _
 ·obtain⟨as,rfl,hl,sm,has,o1,rfl⟩:=x;rw[cV]at hv;cases ev:its[i]? with
  |none=>rw[ev]at hv;cases hv
  |some it=>
   rw[ev]at hv;cases hv;have him:i<its.length:=(oR.mp ev).1;have hit:=hP it (nu ev);have eg:(its.map (·.2)).getD i []=it.2:=by rw[gQ,cV,ev];rfl
   refine⟨_,rfl,_,rfl,by omega,by omega,?_⟩;let Ad:Nat->List V->St->Hp->Prop:=λc acc σ H'=>acc=((ai c).map λ(p:Nat)=>if decide (((p:Nat):Int)∈it.2)=true then(1:Int)else 0).map V.int/\H'=H1/\∃o2,σ=[o2,some (.ref it.1)];refine Mt (n:=wl.length) Ad ⟨rfl,rfl,_,rfl⟩ (λc acc σ H' hc y=>?_) (by rw[eZ];omega) (λc acc σ H' hc y=>?_) (λacc σ H' y=>?_)
   ·rw[y.1,aF,aF,yu];exact aQ _
   ·obtain⟨rfl,rfl,o2,rfl⟩:=y;refine⟨_,rfl,_,rfl,it.1,_,_,.int (0+(c:Int)),rfl,.inr (sm.tup hit),cF.ints _,.int _,Hz _,rfl,(by show 0<=60;decide),_,rfl,?_⟩;rw[Ml,Wd];refine ite2 (λz=>?_) (λz=>?_)
    ·exact⟨by rw[yt,bC,bC];show _=_++[V.int (if _ then _ else _)];rw[au z],rfl,_,rfl⟩
    ·exact⟨by rw[yt,bC,bC];show _=_++[V.int (if _ then _ else _)];rw[ao z],rfl,_,rfl⟩
   ·intro p1 hp1;obtain⟨rfl,rfl,_⟩:=y;have s1:=aP hp1 (.lst (((ai wl.length).map λ(p:Nat)=>if decide (((p:Nat):Int)∈it.2)=true then(1:Int)else 0).map V.int));refine⟨szl,λp2 hp2=>?_⟩;have s2:=aP hp2 (.lst [.int 1]);refine⟨p1,p2,_,_,rfl,rfl,s2 _ _ aH,aH,(by rw[aF,aF,yu,eZ];show _+1<=_;omega),λp3 hp3=>?_⟩;have s3:=aP hp3 (.lst (((ai wl.length).map λ(p:Nat)=>if decide (((p:Nat):Int)∈it.2)=true then(1:Int)else 0).map V.int++[.int 1]));have tW:=s1.trans (s2.trans s3);refine⟨as++[p3],by rw[bC];rfl,by rw[oO,hl];rfl,sm.trans tW,λr a e=>?_,_,rfl⟩;rw[ydl]at e;by_cases c:r<as.length
    ·rw[au c]at e;exact tW _ _ (has r a e)
    ·rw[ao c]at e;have er':r-as.length=0:=by
      have:=(oR.mp e).1;have:r-as.length<1:=this;omega
     rw[er']at e;cases e;have:r=i:=by omega
     subst this;rw[aH,<-Yi (wt:=wD wl) him,eg]
 ·intro p1 hp1;obtain⟨as,rfl,hl,sm,has,_⟩:=x;rw[aF]at hl;have s1:=aP hp1 (.lst (as.map V.ref));have Zh:=(sm.trans s1) _ _ hO;refine⟨_,rfl,o,C,dx,_,rfl,Zh,Cc,bh,(by show 0<1000;decide),?_⟩
  have np:p1≠o:=(jr (sm _ _ hO) hp1).symm;have h10:H p1=none:=sm.none hp1;have RN:∀r a,as[r]? =some a->a≠o/\a≠p1:=λr a e=>⟨λz=>(by have y:=has r a e;rw[z,sm _ _ hO]at y;cases y),λz=>(by have y:=has r a e;rw[z,hp1]at y;cases y)⟩;have W2:SqT K (upd (upd H1 p1 (.lst (as.map V.ref))) o (.ins C dx (putF "cells" (.ref p1) []))) wa (wl.map V.int):=((sm.trans s1).tup hW).abb Zh;have S2:(upd (upd H1 p1 (.lst (as.map V.ref))) o (.ins C dx (putF "cells" (.ref p1) []))) sl=some (.lst (its.map λp=>V.ref p.1)):=by
   rw[cW (ne_of ((sm.trans s1) _ _ hS) Zh λe=>nomatch e)];exact(sm.trans s1) _ _ hS
  have A2:∀r a,as[r]? =some a->(upd (upd H1 p1 (.lst (as.map V.ref))) o (.ins C dx (putF "cells" (.ref p1) []))) a=some (.lst (bf wl.length ((Sx.start wl.length its.length (gU (its.map (·.2))) (wD wl)).cell r))):=λr a e=>by
   rw[cW (RN r a e).1];exact s1 _ _ (has r a e)
  have P2:(upd (upd H1 p1 (.lst (as.map V.ref))) o (.ins C dx (putF "cells" (.ref p1) []))) p1=some (.lst (as.map V.ref)):=by rw[cW np,aH]
  have O2:(upd (upd H1 p1 (.lst (as.map V.ref))) o (.ins C dx (putF "cells" (.ref p1) []))) o=some (.ins C dx [("cells",.ref p1)]):=aH;have Z2:Same H0 (upd (upd H1 p1 (.lst (as.map V.ref))) o (.ins C dx (putF "cells" (.ref p1) []))):=Same.wH (hS0.trans (sm.trans s1)) h0;generalize (upd (upd H1 p1 (.lst (as.map V.ref))) o (.ins C dx (putF "cells" (.ref p1) [])))=H2 at *;refine⟨_,rfl,o,C,dx,_,_,rfl,O2,Cc,bh,rfl,.inl ⟨rfl,_,SqL.of P2⟩,_,rfl,wa,_,rfl,W2,λhz2=>?_⟩;let R3:Nat->List V->St->Hp->Prop:=λi acc σ H'=>acc=((wl.take i).map λx=> -x).map V.int/\H'=H2/\∃o2,σ=[o2];refine M7 (xs:=wl.map V.int) R3 ⟨rfl,rfl,_,rfl⟩ (λi acc σ H' _ y=>by rw[y.2.1];exact W2) (λi acc σ H' _ y=>?_) hz2 (λi v acc σ H' hv y=>?_) (λacc σ H' y=>?_)
  ·rw[y.1,aF,aF,rQ];exact yq _ _
  ·obtain⟨rfl,rfl,o2,rfl⟩:=y;rw[cV]at hv;cases ev:wl[i]? with
   |none=>rw[ev]at hv;cases hv
   |some x=>
    rw[ev]at hv;cases hv;exact⟨_,rfl,_,rfl,by rw[qx,ev,bC,bC];rfl,rfl,_,rfl⟩
  intro p2 hp2;obtain⟨rfl,rfl,_⟩:=y;rw[aF,qw];have s2:=aP hp2 (.lst ((wl.map λx=> -x).map V.int));refine⟨szl,λp3 hp3=>?_⟩;have s3:=aP hp3 (.lst [.int 0]);refine⟨p2,p3,_,_,rfl,rfl,s3 _ _ aH,aH,(by rw[aF,aF,eZ];show _+1<=_;omega),λp4 hp4=>?_⟩;have s4:=aP hp4 (.lst ((wl.map λx=> -x).map V.int++[.int 0]));have Mz:=s2.trans (s3.trans s4);rw[Uj (m:=its.length) (L:=its.map (·.2))]at Mz s4⊢;have e4:(upd (upd (upd H' p2 (.lst ((wl.map λx=> -x).map V.int))) p3 (.lst [.int 0])) p4 (.lst (bf wl.length ((Sx.start wl.length its.length (gU (its.map (·.2))) (wD wl)).cell its.length)))) p4=some (.lst (bf wl.length ((Sx.start wl.length its.length (gU (its.map (·.2))) (wD wl)).cell its.length))):=aH;have n4:p4≠p1:=(jr (s3 _ _ (s2 _ _ P2)) hp4).symm;have n4o:p4≠o:=(jr (s3 _ _ (s2 _ _ O2)) hp4).symm;have P3:=Mz _ _ P2;have O3:=Mz _ _ O2;have S3:=Mz _ _ S2;have Z3:=Z2.trans Mz;have A3:∀r a,as[r]? =some a->_:=λr a e=>Mz _ _ (A2 r a e);generalize (upd (upd (upd H' p2 (.lst ((wl.map λx=> -x).map V.int))) p3 (.lst [.int 0])) p4 (.lst (bf wl.length ((Sx.start wl.length its.length (gU (its.map (·.2))) (wD wl)).cell its.length))))=H3 at *;refine⟨p1,_,_,rfl,rfl,P3,(by rw[aF,eZ];omega),?_⟩
  have h1n:H0 p1=none:=hS0.none h10;have Ti:o≠p1:=np.symm;have nsl:sl≠p1:=(jr hS h10);have C4:(upd H3 p1 (.lst (as.map V.ref++[.ref p4]))) p1=some (.lst ((as++[p4]).map V.ref)):=by rw[aH,bC];rfl
  have O4:(upd H3 p1 (.lst (as.map V.ref++[.ref p4]))) o=some (.ins C dx [("cells",.ref p1)]):=by rw[cW Ti];exact O3
  have S4:(upd H3 p1 (.lst (as.map V.ref++[.ref p4]))) sl=some (.lst (its.map λp=>V.ref p.1)):=by rw[cW nsl];exact S3
  have Z4:Same H0 (upd H3 p1 (.lst (as.map V.ref++[.ref p4]))):=Same.wH Z3 h1n;have R4:∀r a,(as++[p4])[r]? =some a->(upd H3 p1 (.lst (as.map V.ref++[.ref p4]))) a=some (.lst (bf wl.length ((Sx.start wl.length its.length (gU (its.map (·.2))) (wD wl)).cell r)))/\a≠o:=λr a e=>by
   rw[ydl]at e;by_cases c:r<as.length
   ·rw[au c]at e;refine⟨?_,(RN r a e).1⟩;rw[cW (RN r a e).2];exact A3 r a e
   ·rw[ao c]at e;have er':r-as.length=0:=by
     have:=(oR.mp e).1;have:r-as.length<1:=this;omega
    rw[er']at e;cases e;have:r=its.length:=by omega
    subst this;refine⟨?_,n4o⟩;rw[cW n4];exact e4
  generalize (upd H3 p1 (.lst (as.map V.ref++[.ref p4])))=H4 at *;refine⟨_,rfl,o,C,dx,_,rfl,O4,Cc,dR,(by show 1<1000;decide),?_⟩;have O5:(upd H4 o (.ins C dx (putF "over" (.int 1) [("cells",.ref p1)]))) o=some (.ins C dx [("cells",.ref p1),("over",.int 1)]):=aH;have k5:∀b u,b≠o->H4 b=some u->(upd H4 o (.ins C dx (putF "over" (.int 1) [("cells",.ref p1)]))) b=some u:=λb u hb e=>by rw[cW hb];exact e
  have nso:sl≠o:=ne_of S4 O4 λe=>nomatch e
  have C5:=k5 _ _ np C4;have S5:=k5 _ _ nso S4;have Z5:Same H0 (upd H4 o (.ins C dx (putF "over" (.int 1) [("cells",.ref p1)]))):=Same.wH Z4 h0;have R5:∀r a,(as++[p4])[r]? =some a->_:=λr a e=>k5 _ _ (R4 r a e).2 (R4 r a e).1;generalize (upd H4 o (.ins C dx (putF "over" (.int 1) [("cells",.ref p1)])))=H5 at *;refine⟨_,rfl,(wl.length:Int),rfl,by omega,by omega,λco hco=>?_⟩;have s6:=aP hco (.lst (dG (wl.length:Int).toNat));have O6:=s6 _ _ O5;refine⟨_,rfl,o,C,dx,_,rfl,O6,Cc,aX,(by show 2<1000;decide),?_⟩;have nco:co≠o:=(jr O5 hco).symm;have k7:∀b u,b≠o->(upd H5 co (.lst (dG (wl.length:Int).toNat))) b=some u->(upd (upd H5 co (.lst (dG (wl.length:Int).toNat))) o (.ins C dx (putF "columns" (.ref co) [("cells",.ref p1),("over",.int 1)]))) b=some u:=λb u hb e=>by rw[cW hb];exact e
  have O7:(upd (upd H5 co (.lst (dG (wl.length:Int).toNat))) o (.ins C dx (putF "columns" (.ref co) [("cells",.ref p1),("over",.int 1)]))) o=some (.ins C dx [("cells",.ref p1),("over",.int 1),("columns",.ref co)]):=aH;have C7:=k7 _ _ np (s6 _ _ C5);have S7:=k7 _ _ nso (s6 _ _ S5);have L7:=k7 _ _ nco aH;have R7:∀r a,(as++[p4])[r]? =some a->_:=λr a e=>k7 _ _ (R4 r a e).2 (s6 _ _ (R5 r a e));have Z7:Same H0 (upd (upd H5 co (.lst (dG (wl.length:Int).toNat))) o (.ins C dx (putF "columns" (.ref co) [("cells",.ref p1),("over",.int 1)]))):=Same.wH (Z5.trans s6) h0;have c0:H0 co=none:=Z5.none hco;have ncr:co∉as++[p4]:=λhm=>by
   obtain⟨r,hr1,e⟩:=Ed hm;have:=R5 r _ (eN hr1);rw[e,hco]at this;cases this
  generalize (upd (upd H5 co (.lst (dG (wl.length:Int).toNat))) o (.ins C dx (putF "columns" (.ref co) [("cells",.ref p1),("over",.int 1)])))=H7 at *;refine⟨_,rfl,_,rfl,_,rfl,sl,_,rfl,.inl (SqL.of S7),λ_=>⟨_,_,rfl,rfl,_,_,rfl,by omega,?_,?_,λro hro=>?_⟩⟩
  ·rw[aF];omega
  ·rw[aF];omega
  rw[aF];have s8:=aP hro (.lst ((pF (wl.length:Int) ((wl.length:Int)+(its.length:Int)-(wl.length:Int)).toNat).map V.int));have O8:=s8 _ _ O7;refine⟨_,rfl,o,C,dx,_,rfl,O8,Cc,cQ,(by show 3<1000;decide),?_⟩;have nro:ro≠o:=(jr O7 hro).symm;have k9:∀b u,b≠o->(upd H7 ro (.lst ((pF (wl.length:Int) ((wl.length:Int)+(its.length:Int)-(wl.length:Int)).toNat).map V.int))) b=some u->(upd (upd H7 ro (.lst ((pF (wl.length:Int) ((wl.length:Int)+(its.length:Int)-(wl.length:Int)).toNat).map V.int))) o (.ins C dx (putF "rows" (.ref ro) [("cells",.ref p1),("over",.int 1),("columns",.ref co)]))) b=some u:=λb u hb e=>by rw[cW hb];exact e
  refine qq _ ⟨dx,p1,co,ro,as++[p4],Same.wH (Z7.trans s8) h0,h0,h1n,c0,Z7.none hro,jr L7 hro,ncr,λhm=>?_,aH,k9 _ _ np (s8 _ _ C7),by rw[oO,hl];rfl,λr a e=>k9 _ _ (R4 r a e).2 (s8 _ _ (R7 r a e)),?_,?_⟩
  ·obtain⟨r,hr1,e⟩:=Ed hm;have:=R7 r _ (eN hr1);rw[e,hro]at this;cases this
  ·rw[k9 _ _ nco (s8 _ _ L7)];congr 2;unfold dG cD;rw[oN,show(wl.length:Int).toNat=wl.length by omega];rfl
  ·rw[k9 _ _ nro aH];congr 2;unfold pF cD;rw[show((wl.length:Int)+(its.length:Int)-(wl.length:Int)).toNat=its.length by omega];refine gR _ (SX λk _=>?_);show(wl.length:Int)+(k:Int)=((wl.length+k:Nat):Int);omega
end
noncomputable def bw(a:Int)(b:Nat):Int×Nat:=(a/((ay a.natAbs b:Nat):Int),b/ay a.natAbs b)
theorem Ej(a)(hb:0<b):Low a b (bw a b).1 (bw a b).2:=Gh a b hb
theorem QF(hb:0<b)(h:Low a b u v)(h':Low a b u' v'):u=u'/\v=v':=by
 have e1:=h.eq;have e2:=h'.eq;have bi:(0:Int)<(b:Int):=by omega
 have cr:u*(v':Int)=u'*(v:Int):=by
  refine yfc (a:=(b:Int)) (by omega) ?_;have x:(b:Int)*(u*(v':Int))=u*(b:Int)*(v':Int):=by grind
  have y:(b:Int)*(u'*(v:Int))=u'*(b:Int)*(v:Int):=by grind
  rw[x,y,e1,e2];grind
 have cn:u.natAbs*v'=u'.natAbs*v:=by
  have:=gR Int.natAbs cr
  rwa [yfl,yfl,wem,wem]at this
 have d1:v∣v':=by
  have:v∣u.natAbs*v':=by rw[cn];exact Nat.dvd_mul_left _ _
  exact(Nat.Coprime.symm h.cop).dvd_of_dvd_mul_left this
 have d2:v'∣v:=by
  have:v'∣u'.natAbs*v:=by rw[<-cn];exact Nat.dvd_mul_left _ _
  exact(Nat.Coprime.symm h'.cop).dvd_of_dvd_mul_left this
 have ev:=Nat.dvd_antisymm d1 d2;subst ev;refine⟨?_,rfl⟩;have hv:=h.pos;exact yey (a:=(v:Int)) (by omega) cr
theorem Gi(hb:0<b)(h:Low a b u v):(u,v)=bw a b:=by
 obtain⟨e1,e2⟩:=QF hb h (Ej a hb);rw[e1,e2]
theorem uV{x y:Int}(h:0<x*y)(hy:0<y):0<x:=by
 refine Int.not_le.mp λhn=>?_;have:=HS (a:= -x) (b:=y) (by omega) (by omega)
 grind
theorem Ce(hb:0<b):0<(bw a b).1↔0<a:=by
 have l:=Ej a hb;have e:=l.eq;have hv:(0:Int)<((bw a b).2:Int):=by have:=l.pos;omega
 have bi:(0:Int)<(b:Int):=by omega
 constructor
 ·intro h;have:0<(bw a b).1*(b:Int):=Wc h bi;rw[e]at this;exact uV this hv
 ·intro h;have:0<a*((bw a b).2:Int):=Wc h hv;rw[<-e]at this;exact uV this bi
structure Sh(n:Nat)(L:List ζ)(wl:ζ)(ov:Nat)(Z:Int)(Y X:Nat->Int):Prop where
 pos:0<ov
 big:ov<=39916800
 yn:∀k,0<=Y k
 xn:∀p,0<=X p
 tot:Sx.sm L.length Y=Z
 eno:∀p,p<n->(ov:Int)*wD wl p<=Sx.sm L.length λk=>if gU L k p=true then Y k else 0
 lig:∀k,k<L.length->(Sx.sm n λp=>if gU L k p=true then X p else 0)<=(ov:Int)
 wor:(Sx.sm n λp=>wD wl p*X p)=Z
theorem aal(hg:TG n L.length (gU L) (wD wl) T)(hz:∀c,c<n->0<=T.cell L.length c):
  Sh n L wl T.over.toNat (T.cell L.length n) (λk=>Sx.Ys n L.length T (n+k)) (λp=>Sx.Xs n L.length T p):=by
 have ho:=hg.over;have eo:((T.over.toNat:Nat):Int)=T.over:=by omega
 refine⟨by omega,by omega,λk=>Sx.Wb hz _,λp=>hg.good.Wq _,hg.good.total,λp hp=>?_,λk hk=>?_,hg.good.prices⟩
 ·rw[eo,hg.good.enough hp];have:=Sx.Wb hz p;omega
 ·rw[eo];exact hg.good.light hk
theorem ZK(h:cH ss ts false n)(hp:p<n):∃k,k<ss.length/\gU ss k p=true:=by
 have sk:oE ts false n [(p:Int)]:=⟨ycx _ _,λx hx=>by rw[fV.mp hx];omega,λx hx y hy hn=>absurd ((fV.mp hx).trans (fV.mp hy).symm) hn⟩;obtain⟨t,ht,hx⟩:=Dg sk;have ht':=h.1.mem_iff.mpr ht;obtain⟨k,hk,rfl⟩:=Ed ht';refine⟨k,hk,?_⟩;unfold gU;rw[gQ,eN hk];exact bY (hx _ cC)
theorem uK(h:cH ss ts false n)(hn:n<=10):ss.length<=36:=by rw[h.1.length_eq];exact xW hn
noncomputable def dw(ss:List ζ)(ov:Nat)(Y:Nat->Int):List (ζ×(Int×Nat)):=((ai ss.length).filter λk=>decide (0<Y k)).map λk=>(ss.getD k [],bw (Y k) ov)
noncomputable def aaq(n ov:Nat)(X:Nat->Int):List (Int×Nat):=(ai n).map λp=>bw (X p) ov
section
variable{K:ag}
noncomputable def JN(K:ag)(H:Hp)(a:af)(f:Int×Nat):Prop:=SqT K H a [.int f.1,.int ((f.2:Nat):Int)]
noncomputable def RW(K:ag)(H:Hp)(v:V)(q:ζ×(Int×Nat)):Prop:=∃t sa fa,v=.ref t/\SqT K H t [.ref sa,.ref fa]/\SqT K H sa (q.1.map V.int)/\JN K H fa q.2
noncomputable def gZ(K:ag)(H:Hp):List V->List (ζ×(Int×Nat))->Prop:=bI (RW K H)
noncomputable def rG(K:ag)(H:Hp):List V->List (Int×Nat)->Prop:=bI λv f=>∃a,v=.ref a/\JN K H a f
theorem RW.same(h:RW K H v q)(s:Same H H'):RW K H' v q:=by
 obtain⟨t,sa,fa,e,h1,h2,h3⟩:=h;exact⟨t,sa,fa,e,s.tup h1,s.tup h2,s.tup h3⟩
theorem gZ.same(h:gZ K H vs l)(s:Same H H'):gZ K H' vs l:=Paired.mapP h λ_ _ z=>z.same s
theorem rG.same(h:rG K H vs l)(s:Same H H'):rG K H' vs l:=Paired.mapP h λ_ _ ⟨a,e,z⟩=>⟨a,e,s.tup z⟩
theorem Paired.snoc{α β:Type}{R:α->β->Prop}:∀{l:List α}{m:List β}{a:α}{b:β},bI R l m->R a b->bI R (l++[a]) (m++[b])
 |_,_,_,_,.nil,h=>.cons h .nil
 |_,_,_,_,.cons r t,h=>.cons r (Paired.snoc t h)
theorem Paired.at_{α β:Type}{R:α->β->Prop}:∀{l:List α}{m:List β}{i:Nat}{a:α},bI R l m->l[i]? =some a->∃b,m[i]? =some b/\R a b
 |_,_,_,_,.nil,e=>by simp at e
 |_,_,0,_,.cons r _,e=>by simp at e;subst e;exact⟨_,rfl,r⟩
 |_,_,i+1,a,.cons _ t,e=>by
  obtain⟨b,h1,h2⟩:=Paired.at_ (i:=i) (a:=a) t (by simpa using e);exact⟨b,by simpa using h1,h2⟩
theorem Paired.jh{α β:Type}{R:α->β->Prop}:∀{l:List α}{m:List β},bI R l m->l.length=m.length
 |_,_,.nil=>rfl
 |_,_,.cons _ t=>by simp[Paired.jh t]
end
section
variable{P:χ}{w:ω}{K:ag}{mg:L5}{base:bv}
noncomputable def Ac(n:Int)(wl:ζ):Prop:=(wl.length:Int)=n/\∀x∈wl,0<=x/\x<=99
theorem all_true(k):(al k true).all id=true:=by
 rw[iW];intro b hb;rw[(List.mem_replicate.mp hb).2];rfl
inductive iw(K:ag)(vs:List V)(H:Hp)(Q:VK)(E_:XK):Prop
 |mk(a wa:af)(n:Int)(t:V)(wl:ζ)(_:vs=[.ref a,.ref wa])(_:SqT K H a [.int n,t])(_:SqT K H wa (wl.map V.int))(_:Ac n wl)(_:∀H',Same H H'->Q .non H')
theorem yV{f:af}{fd:ψ}{tk0:Tok}
  (F:Fun K "need_wants" "need_wants" fY f fd)(D1:Dp P w K mg base 1 "is_whole" ZX ["thing"] (lQ K))(bU:mg "len"=none)(bH:mg "isinstance"=none)(aL:mg "tuple"=none)(kW:mg "all"=none)(Ca:mg "MOST_WANT"=some (.int 99 tk0)):
  FnOk P w K mg base CX0 2 f fd ["web","thing"] (iw K):=by
 refine F.eG ["web","thing"] λH Q hr h=>?_;obtain⟨a,wa,n,t,wl,rfl,hA,hW,⟨hl,hb⟩,qq⟩:=h;refine cg ?_;intro Y;refine⟨_,(aO (jq (PW.pt (pw_or (sJ (qz (pB Ss bH (aj (pv 1) (aj (pN "tuple" aL) aA))))) (pw_or1 (iM op_ne (pB yp bU (aj (pv 1) aA)) (bB fU (pv 0) aM))))) pss_never jN) (aZ (jq (sJ (qz (pB (Tr rfl) kW (aj (pK ["want"] [] [] (Ei (pv 1)) (pG 0) m9 (pe_and (pd D1 hr (aj (pv 0) aA)) (pe_one (pe_chain op_le op_le aM (pv 0) (pe_glob rfl Ca (v:=.int 99) ⟨_,rfl⟩))))) aA)))) pss_never jN))),?_⟩;refine Cz ?_;intro c2;refine⟨_,rfl,.ref wa,"tuple",_,rfl,.inl ⟨rfl,_,hW⟩,.inr (.inr (.inl rfl)),_,rfl,?_⟩;apply iteF;refine⟨_,rfl,wa,_,rfl,.inr hW,λhz=>⟨_,rfl,a,_,_,.int n,rfl,rfl,hA,rfl,rfl,_,rfl,?_⟩⟩;have e1:(!decide (V.int (((wl.map V.int).length:Nat):Int)=V.int n))=false:=by rw[aF,hl];simp
 rw[e1];apply iteF;refine⟨_,rfl,wa,_,rfl,hW,λhz=>?_⟩;let mH:Nat->List V->St->Hp->Prop:=λi acc σ H'=>acc=(al i true).map V.bl/\H'=H/\∃o,σ=[o];refine M7 (xs:=wl.map V.int) mH ⟨rfl,rfl,_,rfl⟩ (λi acc σ H' _ p=>by rw[p.2.1];exact hW) (λi acc σ H' _ p=>by rw[p.1,aF,ydh];exact aQ _) hz (λi x acc σ H' hx p=>?_) (λacc σ H' p=>?_)
 ·obtain⟨rfl,rfl,o,rfl⟩:=p;rw[cV]at hx;cases ex:wl[i]? with
  |none=>rw[ex]at hx;cases hx
  |some y=>
   rw[ex]at hx;cases hx;have hy:=hb y (nu ex);refine⟨_,rfl,.int y,.int y,rfl,.int _,_,rfl,iteT ?_⟩;refine⟨_,rfl,_,_,rfl,rfl,_,rfl,?_⟩;rw[bY hy.1];apply iteT;refine⟨_,_,rfl,rfl,?_,rfl,_,rfl⟩;show _++[V.bl (decide (y<=99))]=_;rw[bY hy.2,List.replicate_succ',bC];rfl
 ·intro p1 hp1;obtain⟨rfl,rfl,_⟩:=p;refine⟨p1,_,rfl,SqL.of aH,_,rfl,?_⟩;rw[all_true];exact iteF (qq _ (aP hp1 _))
inductive jY(K:ag)(vs:List V)(H:Hp)(Q:VK)(E_:XK):Prop
 |mk(a wa:af)(n:Int)(ts:L0)(wl:ζ)(_:vs=[.ref a,.ref wa])(_:aR K H a n ts)(_:SqT K H wa (wl.map V.int))(_:Ac n wl)(_:∀(r va la pa:af) (lrefs Bw:List V) (ss:List ζ) (ov:Nat) (Z:Int) (Y X:Nat->Int) H',Same H H'->H' r=some (.tup [.ref va,.ref la,.ref pa])->JN K H' va (bw Z ov)->H' la=some (.lst lrefs)->gZ K H' lrefs (dw ss ov Y)->H' pa=some (.lst Bw)->rG K H' Bw (aaq n.toNat ov X)->
  cH ss ts false n.toNat->Sh n.toNat ss wl ov Z Y X->H la=none->H pa=none->la≠pa->Q (.ref r) H')
theorem KC{f f4 f5 f6 f7 f8 C:af}
  {fd d4 d5 d6 d7 d8:ψ}
  (F:Fun K "shares" "shares" j6 f fd)
  (Cc:Cls K C)(bh:NoAttr K C "cells")(dR:NoAttr K C "over")(aX:NoAttr K C "columns")(cQ:NoAttr K C "rows")(qX:mg "Tableau"=some (.ref C))(D1:Dp P w K mg base 7 "need_web" SJ ["thing"] (cN K))(D2:Dp P w K mg base 2 "need_wants" fY ["web","thing"] (iw K))(D3:Dp P w K mg base 8 "full_apart" jB ["web"] (j4 K))(D4:sH K C "__init__" "Tableau.__init__" gF ["self","sets","wants"] f4 d4)
  (Mk4:Mk K C f4)(abP:FnOk P w K mg base CX0 1 f4 d4 ["self","sets","wants"] (yF K C))(D5:sH K C "solve" "Tableau.solve" fL ["self"] f5 d5)(G5':FnOk P w K mg base CX0 3 f5 d5 ["self"] (Ik K C))(D6:sH K C "share_of" "Tableau.share_of" zcn ["self","name"] f6 d6)(G6':FnOk P w K mg base CX0 4 f6 d6 ["self","name"] (Il K C))(D7:sH K C "price_of" "Tableau.price_of" zco ["self","name"] f7 d7)(G7':FnOk P w K mg base CX0 4 f7 d7 ["self","name"] (Im K C))(D8:sH K C "fraction_at" "Tableau.fraction_at" zav ["self","row","column"] f8 d8)(G8':FnOk P w K mg base CX0 3 f8 d8 ["self","row","column"] (xg K C))(bV:mg "enumerate"=none)(aG:mg "range"=none):
  FnOk P w K mg base CX0 9 f fd ["web","wants"] (jY K):=by
 have G4m:FnOk P w K mg base CX0 7 f4 d4 ["self","sets","wants"] (yF K C):=abP.mono (by decide);have G5:FnOk P w K mg base CX0 8 f5 d5 ["self"] (Ik K C):=G5'.mono (by decide);have G6:FnOk P w K mg base CX0 8 f6 d6 ["self","name"] (Il K C):=G6'.mono (by decide);have G7:FnOk P w K mg base CX0 8 f7 d7 ["self","name"] (Im K C):=G7'.mono (by decide);have G8:FnOk P w K mg base CX0 8 f8 d8 ["self","row","column"] (xg K C):=G8'.mono (by decide);refine F.eG ["web","wants","n","sets","tableau","given","laying","prices"] λH Q hr h=>?_;obtain⟨a,wa,n,ts,wl,rfl,hA,hW,hwl,qq⟩:=h;refine cg ?_;intro Y;refine⟨_,(aO (wz (pd D1 hr (aj (pv 0) aA))) (aO (wz (pd D2 hr (aj (pv 0) (aj (pv 1) aA)))) (aO (pS 2 (bB fU (pv 0) aM)) (aO (pS 3 (pd D3 hr (aj (pv 0) aA))) (aO (pS 4 (pe_make Mk4 G4m hr rfl qX D4.b .nil pass0 (aj (pv 3) (aj (pv 1) aA)))) (aO (wz (pe_meth0 (pv 4) Cc D5.m G5 hr D5.b .nil pass0)) (aO (pX 5 ["k","some"] ["tableau","n"] [4,2] (pH rfl bV (aj (pv 3) aA)) (dY K (n:=2) rfl (jO (pG 0) (jO (pG 1) Al))) m9 (lY (aj (pv 1) (aj (Hy (pv 2) Cc D6.m G6 hr D6.b .nil pass0 (aj (bW sI (pv 3) (pv 0)) aA)) aA)))) (aO (pX 6 ["share"] [] [] (wV (pv 5)) (pG 0) (JR (iM op_gt (bB (Ea K) (bB (Ea K) (pv 0) aM) aM) aM)) (pv 0)) (aO (pX 7 ["place"] ["tableau"] [4] (Ec rfl aG (aj (pv 2) aA)) (pG 0) m9 (Hy (pv 1) Cc D7.m G7 hr D7.b .nil pass0 (aj (pv 0) aA))) (aZ (cu (lY (aj (Hy (pv 4) Cc D8.m G8 hr D8.b .nil pass0 (aj (pe_un un_neg aM) (aj (pe_un un_neg aM) aA))) (aj (pv 6) (aj (pv 7) aA))))))))))))))),?_⟩;refine abB ?_;intro c10 c9 c8 c7 c6 c5 c4 c3 c2;have h0:=hA.h0;have h10:=hA.h1;refine⟨_,rfl,.ref a,_,rfl,hA.web.dv.dx,hA.ok,λH1 s1=>?_⟩;obtain⟨tt1,rr1,w1,w2,w3⟩:=id (hA.same s1).web;refine⟨_,rfl,_,rfl,a,wa,n,_,wl,rfl,w1,s1.tup hW,hwl,λH2 s2=>?_⟩;have s12:=s1.trans s2;have hA2:=hA.same s12;obtain⟨tt2,rr2,x1,x2,x3⟩:=id hA2.web;refine⟨_,rfl,a,_,_,.int n,rfl,rfl,x1,rfl,?_⟩;refine⟨_,rfl,a,n,ts,rfl,hA2,λsl ss H3 s3 abD CJ hsl=>?_⟩;obtain⟨its,hS,hP,hss⟩:=abD;have tW:=s12.trans s3;have hm:its.length=ss.length:=by rw[<-hss,aF]
 have acj:=uK CJ (by omega);have hwn:wl.length=n.toNat:=by have:=hwl.1;omega
 refine⟨_,rfl,_,rfl,λo dx ho hdx hne=>?_⟩;have sM:Same H3 (upd (upd H3 dx (.own o)) o (.ins C dx [])):=(aP hdx _).trans (aP (by rw[cW (mQ hne)];exact ho) _);refine⟨o,dx,sl,wa,H3,its,wl,rfl,aH,sM,ho,sM _ _ hS,λp hp=>sM.tup (hP p hp),sM.tup (tW.tup hW),by omega,by omega,λH4 hT4=>⟨rfl,?_⟩⟩;rw[hss,hm,hwn]at hT4;have aaI:Sta n.toNat ss.length (gU ss) (wD wl):=by
  refine⟨by omega,by omega,λp hp=>?_,λp hp=>ZK CJ hp⟩;unfold wD;rw[gQ,eN (by omega)];exact hwl.2 _ (Bb _)
 obtain⟨dx4,cl4,co4,ro4,rw4,hA4⟩:=id hT4;refine⟨_,rfl,o,dx4,_,rfl,hA4.at_,rfl,o,H3,n.toNat,ss.length,gU ss,wD wl,_,rfl,hT4,aaI,Sx.Er,λT H5 hT5 hg5 hz5=>?_⟩;have hG:=aaI.tg hg5;have hSh:=aal hG hz5;obtain⟨dx5,cl5,co5,ro5,rw5,hA5⟩:=id hT5;have Ph:=hA5.same;have ovp:=hSh.pos;generalize hY:(λk=>Sx.Ys n.toNat ss.length T (n.toNat+k))=Y at *;generalize hX:(λp=>Sx.Xs n.toNat ss.length T p)=X at *
 refine⟨_,rfl,false,sl,_,rfl,SqL.of (Ph _ _ hS),λhz=>?_⟩;let Ad:Nat->List V->St->Hp->Prop:=λi acc σ H'=>gZ K H' acc ((ai i).map λk=>(ss.getD k [],bw (Y k) T.over.toNat))/\Same H5 H'/\∃o1 o2,σ=[o1,o2,some (.ref o),some (.int n)];refine jj (K:=K) (b:=false) (a:=sl) (xs:=its.map λp=>V.ref p.1) Ad ⟨.nil,Same.refl _,_,_,rfl⟩ (λi acc σ H' _ p=>p.2.1.seq (SqL.of (Ph _ _ hS))) (λi acc σ H' _ p=>?_) hz (λi v t acc σ H' hv p ht=>?_) (λacc σ H' p=>?_)
 ·rw[Paired.jh p.1,aF,yu];exact aQ _
 ·obtain⟨hl,sm,o1,o2,rfl⟩:=p;rw[cV]at hv;cases ev:its[i]? with
  |none=>rw[ev]at hv;cases hv
  |some it=>
   rw[ev]at hv;cases hv;have eg:ss.getD i []=it.2:=by rw[<-hss,gQ,cV,ev];rfl
   have t1:=aP ht (.tup [.int (i:Int),.ref it.1]);have hT6:=hT5.sm (sm.trans t1);obtain⟨dx6,cl6,co6,ro6,rw6,hA6⟩:=id hT6;refine⟨t,_,rfl,SqT.of aH,rfl,_,_,rfl,_,_,rfl,rfl,?_⟩;refine⟨_,rfl,_,rfl,o,dx6,_,rfl,hA6.at_,rfl,_,rfl,_,rfl,_,_,rfl,rfl,o,H3,n.toNat,ss.length,n.toNat+i,gU ss,wD wl,T,?_,hT6,hG,λfa H7 u v' s7 e7 l7=>?_⟩
   ·rw[show(((n.toNat+i:Nat)):Int)=n+(i:Int) by omega];rfl
   ·refine⟨szl,λtp htp=>?_⟩;have s8:=aP htp (.tup [.ref it.1,.ref fa]);have s68:=t1.trans (s7.trans s8);have hlow:(u,v')=bw (Y i) T.over.toNat:=by rw[<-hY];exact Gi ovp l7
    refine⟨?_,sm.trans s68,_,_,rfl⟩;rw[yt,bC];refine Paired.snoc (gZ.same hl s68) ⟨tp,it.1,fa,rfl,SqT.of aH,?_,?_⟩
    ·show SqT K _ it.1 ((ss.getD i []).map V.int);rw[eg];exact(Ph.trans (sm.trans s68)).tup (hP it (nu ev))
    ·show JN K _ fa (bw (Y i) T.over.toNat);rw[<-hlow];exact s8.tup (SqT.of e7)
 intro gl hgl;obtain⟨hl,sm5,_⟩:=p;rw[aF,hm]at hl;have g1:=aP hgl (.lst acc);have s6:=sm5.trans g1;have eg1:(upd H' gl (.lst acc)) gl=some (.lst acc):=aH;have hl6:=gZ.same hl g1;generalize (upd H' gl (.lst acc))=H6 at *
 refine⟨_,rfl,gl,_,rfl,SqL.of eg1,λhz=>?_⟩;let R3:Nat->List V->St->Hp->Prop:=λi acc' σ H'=>H'=H6/\gZ K H6 acc' (((ai i).filter λk=>decide (0<Y k)).map λk=>(ss.getD k [],bw (Y k) T.over.toNat))/\∃o1,σ=[o1];refine Eb (xs:=acc) R3 ⟨rfl,.nil,_,rfl⟩ (λi acc' σ H' _ p=>by rw[p.1];exact SqL.of eg1) (λi acc' σ H' _ p=>?_) hz (λi v acc' σ H' hv p=>?_) (λacc' σ H' p=>?_)
 ·rw[Paired.jh p.2.1,aF];exact bR (sO _ _) (by rw[yu];exact aQ _)
 ·obtain⟨rfl,hl',o1,rfl⟩:=p;obtain⟨qv,eq1,hv1⟩:=Paired.at_ hl6 hv;have hi:i<ss.length:=by
   have:=(oR.mp hv).1;rw[Paired.jh hl6,aF,yu]at this;exact this
  rw[cV,ydr hi]at eq1;have eq2:qv=(ss.getD i [],bw (Y i) T.over.toNat):=(ux eq1).symm;obtain⟨t,sa,fa,rfl,h1,h2,h3⟩:=id hv1;have h3':JN K H' fa (bw (Y i) T.over.toNat):=by rw[eq2]at h3;exact h3
  refine⟨_,rfl,t,_,_,.ref fa,rfl,rfl,h1,rfl,fa,_,_,.int (bw (Y i) T.over.toNat).1,rfl,rfl,h3',rfl,_,_,rfl,rfl,_,rfl,?_⟩;have go:((ai (i+1)).filter λk=>decide (0<Y k))=((ai i).filter λk=>decide (0<Y k))++(if decide (0<Y i)=true then[i]else[]):=by
   rw[yt,J5];congr 1;rw[Ao];split<;>rfl
  have ed:decide (0<(bw (Y i) T.over.toNat).1)=decide (0<Y i):=decide_eq_decide.mpr (Ce ovp);refine ite2 (λc=>?_) (λc=>?_)
  ·have c':decide (0<Y i)=true:=by rw[<-ed];exact c
   refine⟨_,rfl,rfl,?_,_,rfl⟩;rw[go,au c',bC];refine Paired.snoc hl' ?_;rw[eq2]at hv1;exact hv1
  ·have c':¬decide (0<Y i)=true:=by rw[<-ed];exact c
   refine⟨rfl,?_,_,rfl⟩;rw[go,ao c',tL];exact hl'
 intro la hla;obtain⟨rfl,hlay,_⟩:=p;rw[Paired.jh hl6,aF,yu]at hlay;have g2:=aP hla (.lst acc');have s7:=s6.trans g2;have ela:(upd H' la (.lst acc')) la=some (.lst acc'):=aH;have aaF:=gZ.same hlay g2;have CG:=hT5.sm s7;generalize (upd H' la (.lst acc'))=H7 at *
 refine⟨_,rfl,n,rfl,by omega,by omega,?_⟩;let Pv4:Nat->List V->St->Hp->Prop:=λi Ab σ H2=>rG K H2 Ab ((ai i).map λp=>bw (X p) T.over.toNat)/\Same H7 H2/\∃o1,σ=[o1,some (.ref o)];refine Mt (n:=n.toNat) Pv4 ⟨.nil,Same.refl _,_,rfl⟩ (λi Ab σ H2 hi p=>?_) (by rw[eZ];omega) (λi Ab σ H2 hi p=>?_) (λAb σ H2 p=>?_)
 ·rw[Paired.jh p.1,aF,yu];exact aQ _
 ·obtain⟨hf,sm,o1,rfl⟩:=p;have hT8:=CG.sm sm;obtain⟨dx8,cl8,co8,ro8,rw8,hA8⟩:=id hT8;refine⟨_,rfl,o,dx8,_,rfl,hA8.at_,rfl,_,rfl,o,H3,n.toNat,ss.length,i,gU ss,wD wl,T,by rw[Wd];rfl,hT8,hG,λfa H9 u v' s9 e9 l9=>?_⟩;have hlow:(u,v')=bw (X i) T.over.toNat:=by rw[<-hX];exact Gi ovp l9
  refine⟨?_,sm.trans s9,_,rfl⟩;rw[yt,bC];refine Paired.snoc (rG.same hf s9) ⟨fa,rfl,?_⟩;show JN K H9 fa (bw (X i) T.over.toNat);rw[<-hlow];exact SqT.of e9
 intro pa hpa;obtain⟨hf,sm7,_⟩:=p;have g3:=aP hpa (.lst Ab);have s8:=sm7.trans g3;have epa:(upd H2 pa (.lst Ab)) pa=some (.lst Ab):=aH;have hf8:=rG.same hf g3;have hT8:=CG.sm s8;have nlp:la≠pa:=jr (sm7 _ _ ela) hpa;generalize (upd H2 pa (.lst Ab))=H8 at *;obtain⟨dx8,cl8,co8,ro8,rw8,hA8⟩:=id hT8;refine⟨_,rfl,o,dx8,_,rfl,hA8.at_,rfl,_,rfl,_,rfl,o,H3,n.toNat,ss.length,ss.length,n.toNat,_,_,gU ss,wD wl,T,rfl,hT8,hG,.inr ⟨rfl,rfl⟩,.inr ⟨rfl,rfl⟩,λva H9 u v' s9 e9 l9=>?_⟩;refine⟨_,rfl,_,rfl,szl,λr hr'=>?_⟩;have Ar:=aP hr' (.tup [.ref va,.ref la,.ref pa]);have wJ:=s9.trans Ar;have hlow:(u,v')=bw (T.cell ss.length n.toNat) T.over.toNat:=Gi ovp l9;refine qq r va la pa acc' Ab ss T.over.toNat (T.cell ss.length n.toNat) Y X _ (tW.trans (Ph.trans (s7.trans (s8.trans wJ)))) aH ?_ ((s8.trans wJ) _ _ ela) (gZ.same aaF (s8.trans wJ)) (wJ _ _ epa) (rG.same hf8 wJ) CJ hSh ?_ ?_ nlp
 ·rw[<-hlow];exact Ar.tup (SqT.of e9)
 ·exact(tW.trans (Ph.trans s6)).none hla
 ·exact(tW.trans (Ph.trans (s7.trans sm7))).none hpa
theorem X6(h:V6 K b H a xs):SqL K H a xs\/SqT K H a xs:=by
 cases b with
 |false=>exact .inl h
 |true=>exact .inr h
inductive yM(K:ag)(vs:List V)(H:Hp)(Q:VK)(E_:XK):Prop
 |mk(b:Bool)(a l:af)(n:Int)(ts:L0)(xs:ζ)(_:vs=[.ref a,.ref l])(_:aR K H a n ts)(_:V6 K b H l (xs.map V.int))(_:∀H',Same H H'->Q (.int ((ts.filter (inB xs)).length:Int)) H')
theorem Qm{f:af}{fd:ψ}
  (F:Fun K "count_ties_in" "count_ties_in" fK f fd)(bU:mg "len"=none):
  FnOk P w K mg base CX0 1 f fd ["web","some"] (yM K):=by
 refine F.eG ["web","some"] λH Q hr h=>?_;obtain⟨b,a,l,n,ts,xs,rfl,hA,hL,q⟩:=h;refine⟨_,(aZ (cu (pB yp bU (aj (pK ["tie"] ["some"] [1] (Ei (bB fU (pv 0) aM)) (pG 0) (JR (PW.pt (pw_and (iM (iD K hr.units) (bB (Ea K) (pv 0) aM) (pv 1) (by with_unfolding_all rfl)) (pw_and1 (iM (iD K hr.units) (bB (Ea K) (pv 0) aM) (pv 1) (by with_unfolding_all rfl)))))) (pv 0)) aA)))),?_⟩;obtain⟨ta,ra,a1,a2,a3⟩:=id hA.web;have hra:=a3.len;rw[aF]at hra;have h45:=hA.len;refine⟨_,rfl,a,_,_,.ref ta,rfl,rfl,a1,rfl,ta,ra,rfl,a2,λhz=>?_⟩;refine M7 (xs:=ra) (λi acc σ H'=>acc.length=((ts.take i).filter (inB xs)).length/\Same H H'/\∃o,σ=[o,some (.ref l)]) ⟨rfl,Same.refl _,_,rfl⟩ (λi acc σ H' _ p=>p.2.1.tup a2) (λi acc σ H' hi p=>?_) hz (λi x acc σ H' hx p=>?_) (λacc σ H' p=>?_)
 ·rw[p.1];exact bR (sO _ _) (by rw[rQ];exact yq _ _)
 ·obtain⟨ea,sm,o,rfl⟩:=p;obtain⟨t,hi,rfl,ht⟩:=Jd a3 hx;have hl:=X6 (hL.same sm);have e:∀(acc':List V) (c:Bool),c=inB xs ts[i]->acc'.length=acc.length+(if c=true then 1 else 0)->acc'.length=((ts.take (i+1)).filter (inB xs)).length:=λacc' c hc hl=>by
   rw[zbr hi,oO,<-ea,hl,<-hc];cases c<;>rfl
  refine⟨_,rfl,t,_,_,.int (ts[i]).1,rfl,rfl,sm.tup ht,rfl,_,rfl,l,_,_,.int (ts[i]).1,rfl,hl,cF.ints xs,.int _,Hz xs,rfl,(by show 0<=60;decide),_,rfl,?_⟩;rw[Ml];refine ite2 (λc=>?_) (λc=>?_)
  ·refine⟨_,rfl,t,_,_,.int (ts[i]).2,rfl,rfl,sm.tup ht,rfl,_,rfl,l,_,_,.int (ts[i]).2,rfl,hl,cF.ints xs,.int _,Hz xs,rfl,(by show 0<=60;decide),_,rfl,?_⟩;rw[Ml];refine ite2 (λc2=>?_) (λc2=>?_)
   ·exact⟨_,rfl,e _ true (by unfold inB;rw[c,c2];rfl) (by rw[oO];rfl),sm,_,rfl⟩
   ·exact⟨e _ false (by unfold inB;rw[c,Bool.eq_false_iff.mpr c2];rfl) rfl,sm,_,rfl⟩
  ·exact⟨e _ false (by unfold inB;rw[Bool.eq_false_iff.mpr c];rfl) rfl,sm,_,rfl⟩
 ·intro p1 hp1;obtain⟨ea,sm,_⟩:=p;refine⟨p1,acc,rfl,.inl (SqL.of aH),λ_=>?_⟩;rw[ea,hra,qw];exact q _ (sm.trans (aP hp1 (.lst acc)))
theorem u5(h:(!b)=true):b=false:=by cases b<;>first |rfl|cases h
theorem u6(h:¬(!b)=true):b=true:=by cases b<;>first |rfl|exact absurd rfl h
noncomputable def frB:υ->Bool
 | .tuple [x,y]=>gA x&&(gA y&&(decide (0<=intD x)&&(decide (1<=intD y)&&decide (intD y<=1000000000))))
 |_=>false
theorem lN:∀{d:υ},gA d=true->∃i,d=.int i
 | .int i,_=>⟨i,rfl⟩
theorem Rk(h:frB d=true):∃(u:Int) (v:Nat),d=.tuple [.int u,.int ((v:Nat):Int)]/\0<=u/\0<v/\v<=1000000000:=by
 unfold frB at h;split at h
 ·rename_i x y;simp only[fH,was]at h;obtain⟨h1,h2,h3,h4,h5⟩:=h;obtain⟨u,rfl⟩:=lN h1;obtain⟨v,rfl⟩:=lN h2;have h4':1<=v:=h4;have h5':v<=1000000000:=h5;refine⟨u,v.toNat,?_,h3,by omega,by omega⟩;rw[show((v.toNat:Nat):Int)=v by omega]
 ·cases h
theorem _root_.L2.DX.ints(h:DX K H x (.int i)):x=.int i:=by cases h;rfl
theorem Nu(hx:DX K H x d):(∃a x0 x1 d0 d1,x=.ref a/\d=.tuple [d0,d1]/\SqT K H a [x0,x1]/\DX K H x0 d0/\DX K H x1 d1)\/(∃a xs ds,x=.ref a/\d=.tuple ds/\SqT K H a xs/\xs.length=ds.length/\ds.length≠2)\/kZ d≠"tuple":=by
 cases hx with
 | @tup a xs ds h t=>
  have hl:=t.len;by_cases e:ds.length=2
  ·cases t with
   |nil=>simp at e
   |cons h0 t0=>
    cases t0 with
    |nil=>simp at e
    |cons h1 t1=>
     cases t1 with
     |cons _ _=>simp at e
     |nil=>exact .inl ⟨a,_,_,_,_,rfl,rfl,h,h0,h1⟩
  ·exact .inr (.inl ⟨a,xs,ds,rfl,rfl,h,by omega,e⟩)
 |_=>exact .inr (.inr (by simp[kZ]))
theorem VP(h:ds.length≠2):frB (.tuple ds)=false:=by
 match ds,h with
 |[],_=>rfl
 |[_],_=>rfl
 |[_,_],h=>exact absurd rfl h
 |_::_::_::_,_=>rfl
theorem Rm(h:kZ d≠"tuple"):frB d=false:=by
 cases d<;>first |rfl|exact absurd rfl h
inductive Oe(K:ag)(vs:List V)(H:Hp)(Q:VK)(E_:XK):Prop
 |mk(x:V)(d:υ)(_:vs=[x])(_:DX K H x d)(_:Q (.bl (frB d)) H)
theorem UJ{f:af}{fd:ψ}{tk0:Tok}
  (F:Fun K "is_fraction" "is_fraction" iR f fd)(D1:Dp P w K mg base 1 "is_whole" ZX ["thing"] (lQ K))(bU:mg "len"=none)(bH:mg "isinstance"=none)(aL:mg "tuple"=none)(wL:mg "MOST_BOTTOM"=some (.int 1000000000 tk0)):
  FnOk P w K mg base CX0 2 f fd ["thing"] (Oe K):=by
 refine F.eG ["thing"] λH Q hr h=>?_;obtain⟨x,d,rfl,hx,q⟩:=h;refine cg ?_;intro Y;refine⟨_,(aO (jq (PW.pt (pw_or (sJ (qz (pB Ss bH (aj (pv 0) (aj (pN "tuple" aL) aA))))) (pw_or (iM op_ne (pB yp bU (aj (pv 0) aA)) aM) (pw_or (sJ (qz (pd D1 hr (aj (bB fU (pv 0) aM) aA)))) (pw_or1 (sJ (qz (pd D1 hr (aj (bB fU (pv 0) aM) aA))))))))) (aZ (cu pe_bl)) jN) (aZ (cu (pe_and (Hx op_ge (bB fU (pv 0) aM) aM) (pe_one (pe_chain op_le op_le aM (bB fU (pv 0) aM) (pe_glob rfl wL (v:=.int 1000000000) ⟨_,rfl⟩))))))),?_⟩;refine Cz ?_;intro c2;have no:frB d=false->Q (.bl false) H:=λe=>by rw[e]at q;exact q
 refine⟨_,rfl,x,_,_,rfl,hx.kind,.inr (.inr (.inl rfl)),_,rfl,?_⟩;rcases Nu hx with⟨a,x0,x1,d0,d1,rfl,rfl,h,h0,h1⟩|⟨a,xs,ds,rfl,rfl,h,el,hn⟩|hk
 ·apply iteF;refine⟨_,rfl,a,_,rfl,.inr h,λhz=>⟨rfl,_,rfl,?_⟩⟩;apply iteF;refine⟨_,rfl,a,_,_,x0,rfl,rfl,h,rfl,x0,d0,rfl,h0,_,rfl,?_⟩;refine ite2 (λc=>?_) (λc=>?_)
  ·exact no (by show(gA d0&&_)=false;rw[u5 c];rfl)
  have c:=u6 c;refine⟨_,rfl,a,_,_,x1,rfl,rfl,h,rfl,x1,d1,rfl,h1,_,rfl,?_⟩;refine ite2 (λc2=>?_) (λc2=>?_)
  ·exact no (by show(gA d0&&(gA d1&&_))=false;rw[c,u5 c2];rfl)
  have c2:=u6 c2;obtain⟨u,rfl⟩:=lN c;obtain⟨v,rfl⟩:=lN c2;obtain rfl:=h0.ints;obtain rfl:=h1.ints;have e:frB (.tuple [.int u,.int v])=(decide (0<=u)&&(decide (1<=v)&&decide (v<=1000000000))):=rfl;rw[e]at q no;refine⟨_,rfl,a,_,_,.int u,rfl,rfl,h,rfl,_,_,rfl,rfl,_,rfl,?_⟩;refine ite2 (λc3=>?_) (λc3=>?_)
  ·have c3:0<=u:=fW c3;rw[bY c3]at q no;refine⟨_,rfl,a,_,_,.int v,rfl,rfl,h,rfl,_,_,rfl,rfl,_,rfl,?_⟩;refine ite2 (λc4=>?_) (λc4=>?_)
   ·have c4:1<=v:=fW c4;rw[bY c4]at q;exact⟨_,_,rfl,rfl,q⟩
   ·exact no (by rw[Bool.eq_false_iff.mpr c4];rfl)
  ·exact no (by rw[gj (λz=>c3 (bY z))];rfl)
 ·apply iteF;refine⟨_,rfl,a,_,rfl,.inr h,λhz=>⟨rfl,_,rfl,?_⟩⟩;refine ite2 (λc=>no (VP hn)) (λc=>?_);exfalso;have c:¬(!decide (V.int (xs.length:Int)=V.int 2))=true:=c;simp at c;omega
 ·refine ite2 (λc=>no (Rm hk)) (λc=>?_);exfalso;cases d<;>first |exact hk rfl|(simp[zB,kZ]at c;done)
inductive Ey(K:ag)(vs:List V)(H:Hp)(Q:VK)(E_:XK):Prop
 |mk(a:af)(xs:List V)(ls:List ζ)(_:vs=[.ref a])(_:SqL K H a xs)(_:bI (λv l=>∃p,v=.ref p/\SqT K H p (l.map V.int)) xs ls)(_:∀H',Same H H'->Q (.bl (gG ls)) H')
theorem Fy{f:af}{fd:ψ}
  (F:Fun K "is_rising" "is_rising" Z0 f fd)(kW:mg "all"=none)(aG:mg "range"=none)(bU:mg "len"=none):
  FnOk P w K mg base CX0 1 f fd ["things"] (Ey K):=by
 refine F.eG ["things"] λH Q hr h=>?_;obtain⟨a,xs,ls,rfl,hS,hP,q⟩:=h;refine⟨_,(aZ (cu (pB (Tr rfl) kW (aj (pK ["k"] ["things"] [0] (pi_range2 rfl aG (aj aM (aj (pB yp bU (aj (pv 0) aA)) aA))) (pG 0) m9 (Hx (Je K hr.units0) (bB (gK K) (pv 1) (bW op_sub (pv 0) aM)) (bB (gK K) (pv 1) (pv 0)))) aA)))),?_⟩;have hl:=Paired.jh hP;refine⟨_,rfl,a,xs,rfl,.inl hS,λhz=>⟨1,_,rfl,⟨by omega,by omega,by omega,by omega⟩,?_⟩⟩;have en:((xs.length:Int)-1).toNat=ls.length-1:=by omega
 rw[en];let mH:Nat->List V->St->Hp->Prop:=λi acc σ H'=>acc=((ai i).map λk=>HT.lexLt (ls.getD k []) (ls.getD (k+1) [])).map V.bl/\Same H H'/\∃o,σ=[o,some (.ref a)];refine Mt mH ⟨rfl,Same.refl _,_,rfl⟩ (λi acc σ H' hi p=>by rw[p.1];simp) (by rw[eZ];omega) (λi acc σ H' hi p=>?_) (λacc σ H' p=>?_)
 ·obtain⟨rfl,sm,o,rfl⟩:=p;have e1:(1+(i:Int))-1=((i:Nat):Int):=by omega
  have e2:(1+(i:Int))=((i+1:Nat):Int):=by omega
  have x1:xs[i]? =some xs[i]:=eN (by omega);have x2:xs[i+1]? =some xs[i+1]:=eN (by omega);obtain⟨l1,m1,p1,q1,t1⟩:=Paired.at_ hP x1;obtain⟨l2,m2,p2,q2,t2⟩:=Paired.at_ hP x2;have a1:atI xs (1+(i:Int)-1)=some (.ref p1):=by rw[e1,<-q1];exact atI_nat x1
  have a2:atI xs (1+(i:Int))=some (.ref p2):=by rw[e2,<-q2];exact atI_nat x2
  refine⟨_,rfl,_,rfl,_,_,rfl,rfl,a,xs,_,_,rfl,rfl,sm.seq hS,a1,_,rfl,_,rfl,a,xs,_,_,rfl,rfl,sm.seq hS,a2,?_⟩;refine⟨p1,p2,l1,l2,rfl,rfl,sm.tup t1,sm.tup t2,?_,sm,_,rfl⟩;show _++[V.bl (HT.lexLt l1 l2)]=_;rw[yt,bC,bC,yfk,yfk,show ls.getD i []=l1 by rw[gQ,m1];rfl,show ls.getD (i+1) []=l2 by rw[gQ,m2];rfl]
 ·intro p1 hp1;obtain⟨rfl,sm,_⟩:=p;refine⟨p1,_,rfl,SqL.of aH,?_⟩;rw[gO];exact q _ (sm.trans (aP hp1 _))
noncomputable def Fj(n:Int)(ts:L0):υ->Bool
 | .tuple [s,f]=>ju n s&&(frB f&&(decide (ts.filter (inB ((kids s).map intD))=[])&&decide (0<intD ((kids f).headD .none))))
 |_=>false
theorem Ua(h:ds.length≠2):Fj n ts (.tuple ds)=false:=by
 match ds,h with
 |[],_=>rfl
 |[_],_=>rfl
 |[_,_],h=>exact absurd rfl h
 |_::_::_::_,_=>rfl
theorem Ox(h:kZ d≠"tuple"):Fj n ts d=false:=by
 cases d<;>first |rfl|exact absurd rfl h
theorem uW:∀{ds:θ},ds.all (bO n)=true->ds=(ds.map intD).map am/\∀x∈ds.map intD,0<=x/\x<n
 |[],_=>⟨rfl,λx hx=>(nomatch hx)⟩
 |d::ds,h=>by
  rw[wgp,fH]at h;obtain⟨i,rfl,h0,h1⟩:=uX h.1;obtain⟨e,f⟩:=uW h.2;refine⟨by rw[iQ,iQ,<-e];rfl,λx hx=>?_⟩;rcases cX.mp hx with rfl|hx
  ·exact⟨h0,h1⟩
  ·exact f x hx
theorem Oz(h:ju n s=true):∃xs:ζ,s=.tuple (xs.map am)/\(∀x∈xs,0<=x/\x<n)/\fO xs=true/\(kids s).map intD=xs:=by
 cases s with
 |tuple ds=>
  have h:(ds.all (bO n)&&fO (ds.map intD))=true:=h;rw[fH]at h;obtain⟨e,f⟩:=uW h.1;exact⟨ds.map intD,by rw[<-e],f,h.2,rfl⟩
 |_=>cases h
theorem Di:∀{xs:ζ}{vs:List V},qu K H vs (xs.map am)->vs=xs.map V.int
 |[],_,h=>by cases h;rfl
 |x::xs,_,h=>by
  cases h with
  |cons h t=>rw[DX.ints h,Di t];rfl
theorem _root_.L2.DX.tupI{xs:ζ}(h:DX K H x (.tuple (xs.map am))):∃a,x=.ref a/\SqT K H a (xs.map V.int):=by
 cases h with
 |tup h t=>exact⟨_,rfl,by rw[<-Di t];exact h⟩
theorem _root_.L2.DX.fr(h:DX K H x (.tuple [.int u,.int ((v:Nat):Int)])):∃a,x=.ref a/\JN K H a (u,v):=DX.tupI (xs:=[u,((v:Nat):Int)]) h
inductive Oc(K:ag)(vs:List V)(H:Hp)(Q:VK)(E_:XK):Prop
 |mk(a:af)(n:Int)(ts:L0)(x:V)(d:υ)(_:vs=[.ref a,x])(_:aR K H a n ts)(_:DX K H x d)(_:∀H',Same H H'->Q (.bl (Fj n ts d)) H')
theorem FN{f:af}{fd:ψ}
  (F:Fun K "is_share" "is_share" nQ f fd)(D1:Dp P w K mg base 2 "is_fraction" iR ["thing"] (Oe K))(D2:Dp P w K mg base 4 "is_set" pC ["n","thing"] (Ip K))(D3:Dp P w K mg base 1 "count_ties_in" fK ["web","some"] (yM K))(bU:mg "len"=none)(bH:mg "isinstance"=none)(aL:mg "tuple"=none):
  FnOk P w K mg base CX0 5 f fd ["web","thing"] (Oc K):=by
 refine F.eG ["web","thing"] λH Q hr h=>?_;obtain⟨a,n,ts,x,d,rfl,hA,hx,q⟩:=h;refine cg ?_;intro Y;refine⟨_,(aO (jq (PW.pt (pw_or (sJ (qz (pB Ss bH (aj (pv 1) (aj (pN "tuple" aL) aA))))) (pw_or1 (iM op_ne (pB yp bU (aj (pv 1) aA)) aM)))) (aZ (cu pe_bl)) jN) (aO (jq (PW.pt (pw_or (sJ (qz (pd D2 hr (aj (bB fU (pv 0) aM) (aj (bB fU (pv 1) aM) aA))))) (pw_or1 (sJ (qz (pd D1 hr (aj (bB fU (pv 1) aM) aA))))))) (aZ (cu pe_bl)) jN) (aZ (cu (pe_and (Hx op_eq (pd D3 hr (aj (pv 0) (aj (bB fU (pv 1) aM) aA))) aM) (pe_one (Hx op_gt (bB fU (bB fU (pv 1) aM) aM) aM))))))),?_⟩;refine lg ?_;intro c3 c2;have no:Fj n ts d=false->∀H',Same H H'->Q (.bl false) H':=λe H' sm=>by have:=q H' sm;rw[e]at this;exact this
 obtain⟨tt1,rr1,w1,w2,w3⟩:=id hA.web;refine⟨_,rfl,x,_,_,rfl,hx.kind,.inr (.inr (.inl rfl)),_,rfl,?_⟩;rcases Nu hx with⟨t,x0,x1,d0,d1,rfl,rfl,h,h0,h1⟩|⟨t,xs,ds,rfl,rfl,h,el,hn⟩|hk
 ·apply iteF;refine⟨_,rfl,t,_,rfl,.inr h,λhz=>⟨rfl,_,rfl,?_⟩⟩;apply iteF;refine⟨_,rfl,a,_,_,.int n,rfl,rfl,w1,rfl,_,rfl,t,_,_,x0,rfl,rfl,h,rfl,n,x0,d0,rfl,h0,λH1 s1=>⟨_,rfl,?_⟩⟩;refine ite2 (λc=>?_) (λc=>?_)
  ·exact no (by show(ju n d0&&_)=false;rw[u5 c];rfl) _ s1
  have c:=u6 c;refine⟨_,rfl,t,_,_,x1,rfl,rfl,s1.tup h,rfl,x1,d1,rfl,h1.same s1,_,rfl,?_⟩;refine ite2 (λc2=>?_) (λc2=>?_)
  ·exact no (by show(ju n d0&&(frB d1&&_))=false;rw[c,u5 c2];rfl) _ s1
  have c2:=u6 c2;have e:Fj n ts (.tuple [d0,d1])=(decide (ts.filter (inB ((kids d0).map intD))=[])&&decide (0<intD ((kids d1).headD .none))):=by
   show(ju n d0&&(frB d1&&_))=_;rw[c,c2];rfl
  rw[e]at no;rw[e]at q;obtain⟨xs,rfl,hlt,hri,ek⟩:=Oz c;obtain⟨u,v,rfl,hu,hv,hvb⟩:=Rk c2;rw[ek]at no q;obtain⟨sa,rfl,h2⟩:=h0.tupI;obtain⟨fa,rfl,h3⟩:=h1.fr;refine⟨_,rfl,_,rfl,t,_,_,.ref sa,rfl,rfl,s1.tup h,rfl,true,a,sa,n,ts,xs,rfl,hA.same s1,s1.tup h2,λH2 s2=>?_⟩;have s12:=s1.trans s2;refine⟨rfl,_,rfl,?_⟩;by_cases hc:ts.filter (inB xs)=[]
  ·rw[hc];apply iteT;rw[bY hc]at q;refine⟨_,rfl,t,_,_,.ref fa,rfl,rfl,s12.tup h,rfl,fa,_,_,.int u,rfl,rfl,s12.tup h3,rfl,_,_,rfl,rfl,?_⟩;exact q _ s12
  ·refine ite2 (λc3=>?_) (λc3=>?_)
   ·exfalso;have c3:decide (V.int ((ts.filter (inB xs)).length:Int)=V.int 0)=true:=c3;simp at c3;exact hc (ydb.mpr λp hp=>by have:=c3 p.1 p.2 hp;simpa using this)
   ·have:=no (by rw[gj hc];rfl) _ s12;exact this
 ·apply iteF;refine⟨_,rfl,t,_,rfl,.inr h,λhz=>⟨rfl,_,rfl,?_⟩⟩;refine ite2 (λc=>no (Ua hn) _ (Same.refl _)) (λc=>?_);exfalso;have c:¬(!decide (V.int (xs.length:Int)=V.int 2))=true:=c;simp at c;omega
 ·refine ite2 (λc=>no (Ox hk) _ (Same.refl _)) (λc=>?_);exfalso;cases d<;>first |exact hk rfl|(simp[zB,kZ]at c;done)
structure ShG(n:Int)(ts:L0)(q:ζ×(Int×Nat)):Prop where
 rise:fO q.1=true
 lt:∀x∈q.1,0<=x/\x<n
 no:ts.filter (inB q.1)=[]
 pos:0<q.2.1
 bot:0<q.2.2
 big:q.2.2<=1000000000
noncomputable def mV(q:ζ×(Int×Nat)):υ:=.tuple [.tuple (q.1.map am),.tuple [.int q.2.1,.int ((q.2.2:Nat):Int)]]
noncomputable def setOf(d:υ):ζ:=(kids ((kids d).headD .none)).map intD
theorem xG(q):setOf (mV q)=q.1:=by
 show((q.1.map am).map intD)=q.1;rw[oN];exact wgd q.1
theorem X8(h:Fj n ts d=true):∃q,d=mV q/\ShG n ts q:=by
 unfold Fj at h;split at h
 ·rename_i s f;simp only[fH]at h;obtain⟨h1,h2,h3,h4⟩:=h;obtain⟨xs,rfl,hlt,hri,ek⟩:=Oz h1;obtain⟨u,v,rfl,hu,hv,hvb⟩:=Rk h2;rw[ek]at h3;exact⟨(xs,(u,v)),rfl,hri,hlt,fW h3,fW h4,hv,hvb⟩
 ·cases h
theorem _root_.L2.DX.sh(h:DX K H x (mV q)):RW K H x q:=by
 unfold mV at h;cases h with
 |tup h t=>
  cases t with
  |cons h0 t0=>
   cases t0 with
   |cons h1 t1=>
    cases t1 with
    |nil=>
     obtain⟨sa,rfl,h2⟩:=h0.tupI;obtain⟨fa,rfl,h3⟩:=h1.fr;exact⟨_,sa,fa,rfl,h,h2,h3⟩
theorem lay_of:∀{rs:List V}{ds:θ},qu K H rs ds->ds.all (Fj n ts)=true->∃l,ds=l.map mV/\gZ K H rs l/\∀q∈l,ShG n ts q
 |[],_,h,_=>by cases h;exact⟨[],rfl,.nil,λq hq=>(nomatch hq)⟩
 |_::_,_,h,ha=>by
  cases h with
  |cons h t=>
   rw[wgp,fH]at ha;obtain⟨q,rfl,hq⟩:=X8 ha.1;obtain⟨l,rfl,hl,hg⟩:=lay_of t ha.2;refine⟨q::l,rfl,.cons h.sh hl,λp hp=>?_⟩;rcases cX.mp hp with rfl|hp
   ·exact hq
   ·exact hg p hp
noncomputable def layB(n:Int)(ts:L0)(ds:θ):Bool:=ds.all (Fj n ts)&&gG (ds.map setOf)
theorem Bo(l:List (ζ×(Int×Nat))):(l.map mV).map setOf=l.map (·.1):=by
 rw[oN];exact SX λq _=>xG q
inductive Ez(K:ag)(vs:List V)(H:Hp)(Q:VK)(E_:XK):Prop
 |mk(a la:af)(n:Int)(ts:L0)(rs:List V)(ds:θ)(_:vs=[.ref a,.ref la])(_:aR K H a n ts)(_:SqL K H la rs)(_:qu K H rs ds)(_:∀H',Same H H'->Q (.bl (layB n ts ds)) H')
theorem BJ{f:af}{fd:ψ}
  (F:Fun K "is_laying" "is_laying" j7 f fd)(D1:Dp P w K mg base 5 "is_share" nQ ["web","thing"] (Oc K))(D2:Dp P w K mg base 1 "is_rising" Z0 ["things"] (Ey K))(kW:mg "all"=none)(bH:mg "isinstance"=none)(qW:mg "list"=none):
  FnOk P w K mg base CX0 6 f fd ["web","thing"] (Ez K):=by
 refine F.eG ["web","thing"] λH Q hr h=>?_;obtain⟨a,la,n,ts,rs,ds,rfl,hA,hL,hd,q⟩:=h;refine cg ?_;intro Y;refine⟨_,(aO (jq (PW.pt (pw_or (sJ (qz (pB Ss bH (aj (pv 1) (aj (pN "list" qW) aA))))) (pw_or1 (sJ (qz (pB (Tr rfl) kW (aj (pK ["share"] ["web"] [0] (wV (pv 1)) (pG 0) m9 (pd D1 hr (aj (pv 1) (aj (pv 0) aA)))) aA))))))) (aZ (cu pe_bl)) jN) (aZ (cu (pd D2 hr (aj (pK ["share"] [] [] (wV (pv 1)) (pG 0) m9 (bB (Ea K) (pv 0) aM)) aA))))),?_⟩;refine Cz ?_;intro c2;have ad:=hd.len;refine⟨_,rfl,.ref la,"list",_,rfl,.inr (.inl ⟨rfl,_,hL⟩),.inr (.inr (.inr rfl)),_,rfl,?_⟩;apply iteF;refine⟨_,rfl,la,rs,rfl,hL,λhz=>?_⟩;let Ad:Nat->List V->St->Hp->Prop:=λi acc σ H'=>acc=((ds.take i).map (Fj n ts)).map V.bl/\Same H H'/\∃o,σ=[o,some (.ref a)];refine Eb (xs:=rs) Ad ⟨rfl,Same.refl _,_,rfl⟩ (λi acc σ H' _ p=>p.2.1.seq hL) (λi acc σ H' hi p=>?_) hz (λi x acc σ H' hx p=>?_) (λacc σ H' p=>?_)
 ·rw[p.1];simp;omega
 ·obtain⟨rfl,sm,o,rfl⟩:=p;obtain⟨d,e1,e2⟩:=hd.get hx;refine⟨_,rfl,_,rfl,a,n,ts,x,d,rfl,hA.same sm,DX.same sm e2,λH2 s2=>⟨?_,sm.trans s2,_,rfl⟩⟩;rw[qx,e1];simp
 intro p1 hp1;obtain⟨rfl,sm,_⟩:=p;have s1:=sm.trans (aP hp1 (.lst (((ds.take rs.length).map (Fj n ts)).map V.bl)));refine⟨p1,ds.map (Fj n ts),rfl,SqL.of (by rw[aH,ad,qw]),_,rfl,?_⟩;rw[gO];refine ite2 (λc=>?_) (λc=>?_)
 ·have:=q _ s1;unfold layB at this;rw[u5 c]at this;exact this
 have c:=u6 c;generalize upd H' p1 (.lst (((ds.take rs.length).map (Fj n ts)).map V.bl))=H1 at *;obtain⟨l,rfl,hv,hg⟩:=lay_of hd c;have hv1:=gZ.same hv s1;have hll:=Paired.jh hv;refine⟨_,rfl,la,rs,rfl,s1.seq hL,λhz=>?_⟩;let R3:Nat->List V->St->Hp->Prop:=λi acc σ H'=>H'=H1/\bI (λv l=>∃p,v=.ref p/\SqT K H1 p (l.map V.int)) acc ((l.take i).map (·.1))/\∃o,σ=[o];refine Eb (xs:=rs) R3 ⟨rfl,.nil,_,rfl⟩ (λi acc σ H' _ p=>by rw[p.1];exact s1.seq hL) (λi acc σ H' _ p=>?_) hz (λi x acc σ H' hx p=>?_) (λacc σ H' p=>?_)
 ·rw[Paired.jh p.2.1,aF,rQ];exact yq _ _
 ·obtain⟨rfl,hp,o,rfl⟩:=p;obtain⟨q,hq,t,sa,fa,rfl,h1,h2,h3⟩:=Paired.at_ hv1 hx;refine⟨_,rfl,t,_,_,.ref sa,rfl,rfl,h1,rfl,rfl,?_,_,rfl⟩;obtain⟨hi,rfl⟩:=oR.mp hq;rw[ycz hi,bC];exact Paired.snoc hp ⟨sa,rfl,h2⟩
 intro p2 hp2;obtain⟨rfl,hp,_⟩:=p;have s2:=aP hp2 (.lst acc);rw[XC (by omega)]at hp;refine⟨p2,acc,l.map (·.1),rfl,SqL.of aH,Paired.mapP hp λ_ _ ⟨p,e,z⟩=>⟨p,e,s2.tup z⟩,λH3 s3=>?_⟩;have:=q _ (s1.trans (s2.trans s3));unfold layB at this;rw[c,Bo]at this;exact this
noncomputable def oU(D:Nat):List (Int×Nat)->Int
 |[]=>0
 |f::fs=>f.1*((D/f.2:Nat):Int)+oU D fs
theorem um(D):∀(l m:List (Int×Nat)),oU D (l++m)=oU D l+oU D m
 |[],m=>by simp[oU]
 |f::l,m=>by simp[oU,um D l m,Int.add_assoc]
theorem zK(D)(f):oU D [f]=f.1*((D/f.2:Nat):Int):=by simp[oU]
structure Xl(D:Nat)(fs:List (Int×Nat)):Prop where
 pos:0<D
 le:D<=1000000000000000000
 all:∀f∈fs,0<=f.1/\0<f.2/\f.2∣D
structure mZ(D:Nat)(S:Int)(a:Int)(b:Nat):Prop where
 pos:0<b
 dvd:b∣D
 eq:a*((D/b:Nat):Int)=S
theorem mZ.le(h:mZ D S a b)(hD:0<D):b<=D:=Wg hD h.dvd
theorem N5(hD:0<D)(h:mZ D S a b)(hv:0<v)(dv:v∣D):
  mZ D (S+u*((D/v:Nat):Int)) (a*((v/ay b v:Nat):Int)+u*((b*(v/ay b v)/v:Nat):Int)) (b*(v/ay b v)):=by
 obtain⟨hb,db,he⟩:=h;have hg:0<ay b v:=yek _ hb;obtain⟨b1,eb⟩:=wfm b v;obtain⟨v1,ev⟩:=Xw b v;have dl:Nat.lcm b v∣D:=Nat.lcm_dvd db dv;have e1:v/ay b v=v1:=by
  conv=>lhs;arg 1;rw[ev]
  exact Mu _ hg
 have el:Nat.lcm b v=b*v1:=by
  unfold Nat.lcm;rw[Nat.mul_div_assoc _ (Xw b v),e1]
 rw[el]at dl;rw[e1];obtain⟨e,eD⟩:=dl;have hv1:0<v1:=Nat.pos_of_ne_zero λz=>by rw[z,wgu]at ev;omega
 have hbv:0<b*v1:=kS hb hv1;have c1:b*v1=v*b1:=by
  have:b*v1*ay b v=v*b1*ay b v:=by
   have h1:b*v1*ay b v=b*(ay b v*v1):=by rw[Nb,HF v1]
   have h2:v*b1*ay b v=v*(ay b v*b1):=by rw[Nb,HF b1]
   rw[h1,h2,<-ev,<-eb,HF]
  exact Nat.eq_of_mul_eq_mul_right hg this
 have c2:b*v1/v=b1:=by rw[c1];exact Mu _ hv
 have c3:D/(b*v1)=e:=by rw[eD];exact Mu _ hbv
 have c4:D/b=v1*e:=by rw[eD,Nb];exact Mu _ hb
 have c5:D/v=b1*e:=by rw[eD,c1,Nb];exact Mu _ hv
 refine⟨hbv,⟨e,eD⟩,?_⟩;rw[c2,c3,c5,<-he,c4]
 push_cast
 grind
inductive uG(K:ag)(vs:List V)(H:Hp)(Q:VK)(E_:XK):Prop
 |mk(p p':af)(u u':Int)(v v':Nat)(_:vs=[.ref p,.ref p'])(_:SqT K H p [.int u,.int ((v:Nat):Int)])(_:SqT K H p' [.int u',.int ((v':Nat):Int)])(_:v<=1000000000000000000)(_:v'<=1000000000000000000)(_:Q (.bl (decide (u*(v':Int)<u'*(v:Int)))) H)
theorem UG{f:af}{fd:ψ}
  (F:Fun K "is_less" "is_less" je f fd):
  FnOk P w K mg base CX0 1 f fd ["one","other"] (uG K):=by
 refine F.eG ["one","other"] λH Q hr h=>?_;obtain⟨p,p1,u,u1,v,v1,rfl,h1,h2,b1,b2,q⟩:=h;refine⟨_,(aZ (cu (Hx op_lt (bW wk (bB fU (pv 0) aM) (bB fU (pv 1) aM)) (bW wk (bB fU (pv 1) aM) (bB fU (pv 0) aM))))),?_⟩;exact⟨_,rfl,p,_,_,.int u,rfl,rfl,h1,rfl,_,rfl,p1,_,_,.int v1,rfl,rfl,h2,rfl,_,_,rfl,rfl,.inr ⟨by omega,by omega⟩,_,rfl,p1,_,_,.int u1,rfl,rfl,h2,rfl,_,rfl,p,_,_,.int v,rfl,rfl,h1,rfl,_,_,rfl,rfl,.inr ⟨by omega,by omega⟩,_,_,rfl,rfl,q⟩
theorem Qu(h:k<=1000000000000000000)(x):CMul x ((k:Nat):Int):=.inr ⟨by omega,by omega⟩
inductive tQ(K:ag)(vs:List V)(H:Hp)(Q:VK)(E_:XK):Prop
 |mk(la:af)(rs:List V)(fs:List (Int×Nat))(D:Nat)(_:vs=[.ref la])(_:SqL K H la rs)(_:rG K H rs fs)(_:Xl D fs)(_:rs.length<=1000)(_:∀(p:af) (a:Int) (b:Nat) H',Same H H'->H' p=some (.tup [.int a,.int ((b:Nat):Int)])->mZ D (oU D fs) a b->Q (.ref p) H')
theorem Qe{f:af}{fd:ψ}
  (F:Fun K "sum_of" "sum_of" jc f fd)(D1:Dp P w K mg base 1 "greatest_divisor" zbf ["one","other"] (Od K)):
  FnOk P w K mg base CX0 2 f fd ["fractions"] (tQ K):=by
 refine F.eG ["fractions","a","b","top","bottom","by"] λH Q hr h=>?_;obtain⟨la,rs,fs,D,rfl,hL,hF,hD,ad,q⟩:=h;refine cg ?_;intro Y;refine⟨_,(aO (pS 1 aM) (aO (pS 2 aM) (aO (Ay wX rfl (wV (pv 0)) (pg_tup rfl (jO (pG 3) (jO (pG 4) Al))) (aO (pS 5 (bW pL (pv 4) (pd D1 hr (aj (pv 2) (aj (pv 4) aA))))) (aO (pS 1 (bW sI (bW wk (pv 1) (pv 5)) (bW wk (pv 3) (bW pL (bW wk (pv 2) (pv 5)) (pv 4))))) (aZ (pS 2 (bW wk (pv 2) (pv 5))))))) (aZ (cu (lY (aj (pv 1) (aj (pv 2) aA)))))))),?_⟩;refine W8 ?_;intro c4 c3 c2;have hl:=Paired.jh hF;have hD0:=hD.pos;have hD1:=hD.le;refine⟨_,rfl,la,rs,rfl,hL,λhz=>?_⟩;let mH:Nat->St->Hp->Prop:=λi σ H'=>H'=H/\∃(a:Int) (b:Nat) (o1 o2 o3:Option V),mZ D (oU D (fs.take i)) a b/\σ=[some (.ref la),some (.int a),some (.int ((b:Nat):Int)),o1,o2,o3];refine for_list (xs:=rs) mH ⟨rfl,0,1,_,_,_,⟨by omega,Nat.one_dvd _,by simp[oU]⟩,rfl⟩ (λi σ H' _ p=>by rw[p.1];exact hL) (λi x σ H' hx p=>?_) (λσ H' p=>?_)
 ·obtain⟨rfl,a,b,o1,o2,o3,hs,rfl⟩:=p;obtain⟨f,hf,t,rfl,ht⟩:=Paired.at_ hF hx;obtain⟨f0,f1,f2⟩:=hD.all f (nu hf);have hb:=hs.pos;have hbD:=hs.le hD0;have hfD:=Wg hD0 f2;have st:=N5 (u:=f.1) hD0 hs f1 f2;have hg:0<ay b f.2:=yek _ hb;have hg2:ay b f.2<=b:=Nat.gcd_le_left _ hb;have hby:f.2/ay b f.2<=f.2:=Nat.div_le_self _ _;have hbb:=st.le hD0;refine⟨t,_,rfl,ht,rfl,_,_,rfl,_,_,rfl,rfl,?_⟩;refine⟨_,rfl,_,rfl,_,rfl,b,f.2,rfl,_,_,rfl,rfl,⟨by omega,by omega⟩,?_⟩;have eby:((f.2:Nat):Int)/((ay b f.2:Nat):Int)=((f.2/ay b f.2:Nat):Int):=(yfe _ _).symm;have eb2:((b:Nat):Int)*((f.2/ay b f.2:Nat):Int)=((b*(f.2/ay b f.2):Nat):Int):=(Nf _ _).symm;have eb3:((b*(f.2/ay b f.2):Nat):Int)/((f.2:Nat):Int)=((b*(f.2/ay b f.2)/f.2:Nat):Int):=(yfe _ _).symm;have hq:b*(f.2/ay b f.2)/f.2<=b*(f.2/ay b f.2):=Nat.div_le_self _ _;have c1:∀x:Int,CMul x (((f.2:Nat):Int)/((ay b f.2:Nat):Int)):=λx=>by rw[eby];exact Qu (bR hby (bR hfD hD1)) x
  have c2:∀x:Int,CMul x (((b:Nat):Int)*(((f.2:Nat):Int)/((ay b f.2:Nat):Int))/((f.2:Nat):Int)):=λx=>by rw[eby,eb2,eb3];exact Qu (bR hq (bR hbb hD1)) x
  refine⟨_,rfl,_,rfl,_,_,rfl,rfl,c1 _,_,rfl,_,rfl,_,rfl,_,_,rfl,rfl,c1 _,_,rfl,_,_,rfl,rfl,⟨by omega,by omega⟩,_,_,rfl,rfl,c2 _,_,_,rfl,rfl,?_⟩;refine⟨_,rfl,_,rfl,_,_,rfl,rfl,c1 _,?_⟩;refine⟨rfl,a*((f.2/ay b f.2:Nat):Int)+f.1*((b*(f.2/ay b f.2)/f.2:Nat):Int),b*(f.2/ay b f.2),some (.int f.1),some (.int ((f.2:Nat):Int)),some (.int ((f.2/ay b f.2:Nat):Int)),?_,?_⟩
  rotate_left
  ·show[some (V.ref la),some (.int (a*(((f.2:Nat):Int)/((ay b f.2:Nat):Int))+f.1*(((b:Nat):Int)*(((f.2:Nat):Int)/((ay b f.2:Nat):Int))/((f.2:Nat):Int)))),some (.int (((b:Nat):Int)*(((f.2:Nat):Int)/((ay b f.2:Nat):Int)))),some (.int f.1),some (.int ((f.2:Nat):Int)),some (.int (((f.2:Nat):Int)/((ay b f.2:Nat):Int)))]=_;rw[eby,eb2,eb3]
  obtain⟨hi,rfl⟩:=oR.mp hf;rw[ycz hi,um,zK];exact st
 ·obtain⟨rfl,a,b,o1,o2,o3,hs,rfl⟩:=p;refine⟨_,rfl,_,rfl,szl,λr hr'=>?_⟩;refine q r a b _ (aP hr' _) aH ?_;rw[XC (by omega)]at hs;exact hs
theorem xX{α:Type}{l:List α}(h:i<l.length)(g:α->Bool):(l.take (i+1)).filter g=(l.take i).filter g++(if g l[i]=true then[l[i]]else[]):=by
 rw[ycz h,J5,Ao];split<;>rfl
theorem Bm(hv:gZ K H rs l)(hx:rs[i]? =some x):∃(hi:i<l.length) (t sa fa:af),x=.ref t/\SqT K H t [.ref sa,.ref fa]/\SqT K H sa (l[i].1.map V.int)/\JN K H fa l[i].2:=by
 obtain⟨q,hq,t,sa,fa,e,h1,h2,h3⟩:=Paired.at_ hv hx;obtain⟨hi,rfl⟩:=oR.mp hq;exact⟨hi,t,sa,fa,e,h1,h2,h3⟩
theorem mZ.cmp{v:Nat}(h:mZ D S a b)(hD:0<D):a*(v:Int)<=u*(b:Int)↔S*(v:Int)<=u*(D:Int):=by
 obtain⟨hb,⟨k,rfl⟩,rfl⟩:=h;have hk:0<k:=by
  rcases ydv k with z|z
  ·rw[z,wgu]at hD;cases hD
  ·exact z
 rw[Mu _ hb,Int.mul_right_comm a (k:Int) (v:Int),Nf,<-Xo];exact⟨λh=>ydi h (by omega),λh=>yez h (by omega)⟩
theorem mZ.abL(h:mZ D S a b)(hD:0<D):x*(b:Int)<=a↔x*(D:Int)<=S:=by
 obtain⟨hb,⟨k,rfl⟩,rfl⟩:=h;have hk:0<k:=by
  rcases ydv k with z|z
  ·rw[z,wgu]at hD;cases hD
  ·exact z
 rw[Mu _ hb,Nf,<-Xo];exact⟨λh=>ydi h (by omega),λh=>yez h (by omega)⟩
theorem dec_not{a b:Int}:(!decide (a<b))=decide (b<=a):=by
 by_cases h:a<b
 ·rw[bY h,gj (by omega)];rfl
 ·rw[gj h,bY (by omega)];rfl
theorem Xl.sub(h:Xl D fs)(s:∀f∈gs,f∈fs):Xl D gs:=⟨h.pos,h.le,λf hf=>h.all f (s f hf)⟩
noncomputable def Lk(D:Nat)(l:List (ζ×(Int×Nat)))(p w:Int):Bool:=decide (w*(D:Int)<=oU D ((l.filter λq=>decide (p∈q.1)).map (·.2)))
inductive yK(K:ag)(vs:List V)(H:Hp)(Q:VK)(E_:XK):Prop
 |mk(la:af)(p w:Int)(rs:List V)(l:List (ζ×(Int×Nat)))(D:Nat)(_:vs=[.ref la,.int p,.int w])(_:SqL K H la rs)(_:gZ K H rs l)(_:l.length<=1000)(_:Xl D (l.map (·.2)))(_:∀H',Same H H'->Q (.bl (Lk D l p w)) H')
theorem UW{f:af}{fd:ψ}
  (F:Fun K "gets" "gets" Fo f fd)(D1:Dp P w K mg base 1 "is_less" je ["one","other"] (uG K))(D2:Dp P w K mg base 2 "sum_of" jc ["fractions"] (tQ K)):
  FnOk P w K mg base CX0 3 f fd ["laying","place","want"] (yK K):=by
 refine F.eG ["laying","place","want"] λH Q hr h=>?_;obtain⟨la,p,w,rs,l,D,rfl,hL,hv,h1k,hD,qq⟩:=h;refine⟨_,(aZ (cu (pe_not (pd D1 hr (aj (pd D2 hr (aj (pK ["share"] ["place"] [1] (wV (pv 0)) (pG 0) (JR (iM (iD K hr.units) (pv 1) (bB (Ea K) (pv 0) aM) (by with_unfolding_all rfl))) (bB (Ea K) (pv 0) aM)) aA)) (aj (lY (aj (pv 2) (aj aM aA))) aA)))))),?_⟩;have ad:=Paired.jh hv;refine⟨_,rfl,la,rs,rfl,hL,λhz=>?_⟩;let Ad:Nat->List V->St->Hp->Prop:=λi acc σ H'=>H'=H/\rG K H acc (((l.take i).filter λq=>decide (p∈q.1)).map (·.2))/\∃o,σ=[o,some (.int p)];refine Eb (xs:=rs) Ad ⟨rfl,.nil,_,rfl⟩ (λi acc σ H' _ p=>by rw[p.1];exact hL) (λi acc σ H' _ p=>?_) hz (λi x acc σ H' hx p'=>?_) (λacc σ H' p'=>?_)
 ·rw[Paired.jh p.2.1,aF];exact bR (sO _ _) (by rw[rQ];exact yq _ _)
 ·obtain⟨rfl,hf,o,rfl⟩:=p';obtain⟨hi,t,sa,fa,rfl,h1,h2,h3⟩:=Bm hv hx;refine⟨_,rfl,_,rfl,t,_,_,.ref sa,rfl,rfl,h1,rfl,sa,_,_,.int p,rfl,.inr h2,cF.ints _,.int _,Hz _,rfl,(by show 0<=60;decide),_,rfl,?_⟩;rw[Ml];refine ite2 (λc=>?_) (λc=>?_)
  ·refine⟨_,rfl,t,_,_,.ref fa,rfl,rfl,h1,rfl,rfl,?_,_,rfl⟩;rw[xX hi,au c,bC];exact Paired.snoc hf ⟨fa,rfl,h3⟩
  ·refine⟨rfl,?_,_,rfl⟩;rw[xX hi,ao c,tL];exact hf
 intro p1 hp1;obtain⟨rfl,hf,_⟩:=p';rw[XC (by omega)]at hf;have s1:=aP hp1 (.lst acc);have hal:acc.length<=1000:=by
  rw[Paired.jh hf,aF];exact bR (sO _ _) h1k
 have hDf:Xl D ((l.filter λq=>decide (p∈q.1)).map (·.2)):=hD.sub λf hf=>by
  obtain⟨q,hq,rfl⟩:=dF.mp hf;exact ydt (fD.mp hq).1
 refine⟨p1,acc,_,D,rfl,SqL.of aH,rG.same hf s1,hDf,by omega,λr a b H2 s2 hr2 hs=>?_⟩;refine⟨_,rfl,szl,λr2 hr3=>?_⟩;have s3:=aP hr3 (.tup [.int w,.int 1]);have hbD:=hs.le hD.pos;have hD1:=hD.le;refine⟨r,r2,a,w,b,1,rfl,s3.tup (SqT.of hr2),SqT.of aH,by omega,by omega,_,rfl,?_⟩;have e:=hs.abL hD.pos (x:=w);show Q (.bl (!decide (a*((1:Nat):Int)<w*(b:Int)))) _;rw[dec_not,show a*((1:Nat):Int)=a by rw[show((1:Nat):Int)=1 from rfl,wdw],decide_eq_decide.mpr e];exact qq _ (s1.trans (s2.trans s3))
noncomputable def Ka(d:υ):ζ×(Int×Nat):=(setOf d,(intD ((kids ((kids d).getD 1 .none)).getD 0 .none),(intD ((kids ((kids d).getD 1 .none)).getD 1 .none)).toNat))
theorem Nr(q):Ka (mV q)=q:=by
 show(setOf (mV q),(q.2.1,(((q.2.2:Nat):Int)).toNat))=q;rw[xG,wC]
theorem jX(l:List (ζ×(Int×Nat))):(l.map mV).map Ka=l:=by
 rw[oN];exact(SX λq _=>Nr q).trans (wgd l)
noncomputable def hasB(D:Nat)(wl:ζ)(l:List (ζ×(Int×Nat))):Bool:=(ai wl.length).all λi=>Lk D l ((i:Nat):Int) (wl.getD i 0)
noncomputable def Rt(n:Int)(ts:L0)(wl:ζ)(D:Nat)(ds:θ)(u:Int)(v:Nat):Bool:=layB n ts ds&&(hasB D wl (ds.map Ka)&&decide (oU D ((ds.map Ka).map (·.2))*(v:Int)<=u*(D:Int)))
inductive Fb(K:ag)(vs:List V)(H:Hp)(Q:VK)(E_:XK):Prop
 |mk(a wa la na:af)(n:Int)(ts:L0)(wl:ζ)(rs:List V)(ds:θ)(D:Nat)(u:Int)(v:Nat)(_:vs=[.ref a,.ref wa,.ref la,.ref na])(_:aR K H a n ts)(_:SqT K H wa (wl.map V.int))(_:Ac n wl)(_:SqL K H la rs)(_:qu K H rs ds)(_:rs.length<=1000)(_:JN K H na (u,v))(_:v<=1000000000000000000)(_:layB n ts ds=true->Xl D ((ds.map Ka).map (·.2)))(_:∀H',Same H H'->Q (.bl (Rt n ts wl D ds u v)) H')
theorem BK{f:af}{fd:ψ}
  (F:Fun K "is_enough" "is_enough" j8 f fd)(D1:Dp P w K mg base 7 "need_web" SJ ["thing"] (cN K))(D2:Dp P w K mg base 2 "need_wants" fY ["web","thing"] (iw K))(D3:Dp P w K mg base 6 "is_laying" j7 ["web","thing"] (Ez K))(D4:Dp P w K mg base 3 "gets" Fo ["laying","place","want"] (yK K))(D5:Dp P w K mg base 1 "is_less" je ["one","other"] (uG K))(D6:Dp P w K mg base 2 "sum_of" jc ["fractions"] (tQ K))(kW:mg "all"=none)(bV:mg "enumerate"=none):
  FnOk P w K mg base CX0 8 f fd ["web","wants","laying","number"] (Fb K):=by
 refine F.eG ["web","wants","laying","number"] λH Q hr h=>?_;obtain⟨a,wa,la,na,n,ts,wl,rs,ds,D,u,v,rfl,hA,hW,hwl,hL,hd,hrs,hN,abw,hD,q⟩:=h;refine cg ?_;intro Y;refine⟨_,(aO (wz (pd D1 hr (aj (pv 0) aA))) (aO (wz (pd D2 hr (aj (pv 0) (aj (pv 1) aA)))) (aO (jq (sJ (qz (pd D3 hr (aj (pv 0) (aj (pv 2) aA))))) (aZ (cu pe_bl)) jN) (aO (jq (sJ (qz (pB (Tr rfl) kW (aj (pK ["place","want"] ["laying"] [2] (pH rfl bV (aj (pv 1) aA)) (dY K (n:=2) rfl (jO (pG 0) (jO (pG 1) Al))) m9 (pd D4 hr (aj (pv 2) (aj (pv 0) (aj (pv 1) aA))))) aA)))) (aZ (cu pe_bl)) jN) (aZ (cu (pe_not (pd D5 hr (aj (pv 3) (aj (pd D6 hr (aj (pK ["share"] [] [] (wV (pv 2)) (pG 0) m9 (bB (Ea K) (pv 0) aM)) aA)) aA)))))))))),?_⟩;refine Jr ?_;intro c5 c4 c3 c2;have no:(layB n ts ds&&hasB D wl (ds.map Ka))=false->∀H',Same H H'->Q (.bl false) H':=λe H' sm=>by
  have:=q H' sm;unfold Rt at this;rw[<-Bool.and_assoc,e]at this;exact this
 have h0:=hA.h0;have h10:=hA.h1;have hwn:wl.length=n.toNat:=by have:=hwl.1;omega
 refine⟨_,rfl,.ref a,_,rfl,hA.web.dv.dx,hA.ok,λH1 s1=>?_⟩;obtain⟨tt1,rr1,w1,w2,w3⟩:=id (hA.same s1).web;refine⟨_,rfl,_,rfl,a,wa,n,_,wl,rfl,w1,s1.tup hW,hwl,λH2 s2=>?_⟩;have s12:=s1.trans s2;refine⟨_,rfl,_,rfl,a,la,n,ts,rs,ds,rfl,hA.same s12,s12.seq hL,qu.same s12 hd,λH3 s3=>⟨_,rfl,?_⟩⟩;have tW:=s12.trans s3;refine ite2 (λc=>no (by rw[u5 c];rfl) _ tW) (λc=>?_);have c:=u6 c;have hD:=hD c;have ca:ds.all (Fj n ts)=true:=by
  have c':=c;unfold layB at c';exact(Bool.and_eq_true_iff.mp c').1
 obtain⟨l,rfl,hv,hg⟩:=lay_of hd ca;unfold Rt at q;rw[c]at no q;rw[jX]at no q hD;have ad:=Paired.jh hv;refine⟨_,rfl,true,wa,_,rfl,tW.tup hW,λhz=>?_⟩;let R3:Nat->List V->St->Hp->Prop:=λi acc σ H'=>acc=((ai i).map λi=>Lk D l ((i:Nat):Int) (wl.getD i 0)).map V.bl/\Same H3 H'/\∃o1 o2,σ=[o1,o2,some (.ref la)];refine jj (K:=K) (b:=true) (a:=wa) (xs:=wl.map V.int) R3 ⟨rfl,Same.refl _,_,_,rfl⟩ (λi acc σ H' _ p=>(tW.trans p.2.1).tup hW) (λi acc σ H' _ p=>by rw[p.1,aF,aF,yu];exact aQ _) hz (λi v' t acc σ H' hv' p ht=>?_) (λacc σ H' p=>?_)
 ·obtain⟨rfl,sm,o1,o2,rfl⟩:=p;rw[cV]at hv';cases ev:wl[i]? with
  |none=>rw[ev]at hv';cases hv'
  |some y=>
   rw[ev]at hv';cases hv';have t1:=aP ht (.tup [.int (i:Int),.int y]);have st:=tW.trans (sm.trans t1);have hwy:wl.getD i 0=y:=by rw[gQ,ev];rfl
   refine⟨t,_,rfl,SqT.of aH,rfl,_,_,rfl,_,_,rfl,rfl,?_⟩;refine⟨_,rfl,_,rfl,_,rfl,la,(i:Int),y,rs,l,D,rfl,st.seq hL,gZ.same hv st,by omega,hD,λH5 s5=>⟨?_,sm.trans (t1.trans s5),_,_,rfl⟩⟩;rw[yt,bC,bC,yfk,yfk,hwy]
 intro p1 hp1;obtain⟨rfl,sm,_⟩:=p;rw[aF]at *;have WT:=tW.trans (sm.trans (aP hp1 (.lst (((ai wl.length).map λi=>Lk D l ((i:Nat):Int) (wl.getD i 0)).map V.bl))));refine⟨p1,_,rfl,SqL.of aH,_,rfl,?_⟩;rw[gO];refine ite2 (λc2=>no (by show hasB D wl l=false;exact u5 c2) _ WT) (λc2=>?_);have c2:hasB D wl l=true:=u6 c2;rw[c2]at q;generalize upd H' p1 (.lst (((ai wl.length).map λi=>Lk D l ((i:Nat):Int) (wl.getD i 0)).map V.bl))=H4 at *;have hv4:=gZ.same hv WT;refine⟨_,rfl,_,rfl,la,rs,rfl,WT.seq hL,λhz=>?_⟩;let Pv4:Nat->List V->St->Hp->Prop:=λi acc σ H'=>H'=H4/\rG K H4 acc ((l.take i).map (·.2))/\∃o,σ=[o];refine Eb (xs:=rs) Pv4 ⟨rfl,.nil,_,rfl⟩ (λi acc σ H' _ p=>by rw[p.1];exact WT.seq hL) (λi acc σ H' _ p=>?_) hz (λi x acc σ H' hx p=>?_) (λacc σ H' p=>?_)
 ·rw[Paired.jh p.2.1,aF,rQ];exact yq _ _
 ·obtain⟨rfl,hp,o,rfl⟩:=p;obtain⟨hi,t,sa,fa,rfl,h1,h2,h3⟩:=Bm hv4 hx;refine⟨_,rfl,t,_,_,.ref fa,rfl,rfl,h1,rfl,rfl,?_,_,rfl⟩;rw[ycz hi,bC];exact Paired.snoc hp ⟨fa,rfl,h3⟩
 intro p2 hp2;obtain⟨rfl,hp,_⟩:=p;rw[XC (by omega)]at hp;have s2':=aP hp2 (.lst acc);have hal:acc.length<=1000:=by rw[Paired.jh hp,aF];omega
 refine⟨p2,acc,_,D,rfl,SqL.of aH,rG.same hp s2',hD,hal,λr a' b' H5 s5 hr5 hs=>?_⟩;have hbD:=hs.le hD.pos;have hD1:=hD.le;refine⟨na,r,u,a',v,b',rfl,(WT.trans (s2'.trans s5)).tup hN,SqT.of hr5,abw,by omega,_,rfl,?_⟩;have e:=hs.cmp hD.pos (u:=u) (v:=v);show Q (.bl (!decide (u*((b':Nat):Int)<a'*((v:Nat):Int)))) _;rw[dec_not,decide_eq_decide.mpr e];exact q _ (WT.trans (s2'.trans s5))
end
end Hs
namespace L2
open PySem
theorem Same.x(h:Same H H')(t):aB t H H':=λb o _ e=>h b o e
theorem aB.upd{t:af}{H H':Hp}{o:HO}(h:aB t H H'):aB t H (upd H' t o):=λb u n e=>by rw[cW n];exact h b u n e
theorem mD.sq(h:mD K H cO ns):SqL K H cO (ns.map V.int):=by
 rcases h with⟨o,h⟩|h
 ·exact .inl (.inr ⟨o,h⟩)
 ·exact .inr h
theorem mD.cJ(h:mD K H cO ns)(e:aB t H H')(n:H t=some (.lst zs)):mD K H' cO ns:=by
 rcases h with⟨o,h⟩|h
 ·exact .inl ⟨o,e _ _ (ne_of h n (by intro z;cases z)) h⟩
 ·exact .inr h
structure qb(K:ag)(H:Hp)(tp cO:af)(ns:ζ):Prop where
 at_:∃(i r:Int),H tp=some (.lst [.ref cO,.int i,.int r])/\0<=i/\0<=r
 ab0:mD K H cO ns
 len:ns.length<=63
theorem qb.same(h:qb K H tp cO ns)(e:Same H H'):qb K H' tp cO ns:=by
 obtain⟨⟨i,r,h1,h2,h3⟩,h4,h5⟩:=h;exact⟨⟨i,r,e _ _ h1,h2,h3⟩,h4.same e,h5⟩
theorem qb.other(h:qb K H tp cO ns)(e:aB c H H')(hc:H c=some (.lst zs))(n:tp≠c):qb K H' tp cO ns:=by
 obtain⟨⟨i,r,h1,h2,h3⟩,h4,h5⟩:=h;exact⟨⟨i,r,e _ _ n h1,h2,h3⟩,h4.cJ e hc,h5⟩
structure dI(K:ag)(H:Hp)(tp cO:af)(ns:ζ)(b:Int):Prop where
 tv:qb K H tp cO ns
 le:∃(i r:Int),H tp=some (.lst [.ref cO,.int i,.int r])/\i<=b
theorem dI.same(h:dI K H tp cO ns b)(e:Same H H'):dI K H' tp cO ns b:=by
 obtain⟨i,r,h1,h2⟩:=h.le;exact⟨h.tv.same e,i,r,e _ _ h1,h2⟩
theorem dI.mono(h:dI K H tp cO ns b)(e:b<=c):dI K H tp cO ns c:=by
 obtain⟨i,r,h1,h2⟩:=h.le;exact⟨h.tv,i,r,h1,by omega⟩
theorem dI.other(h:dI K H tp cO ns b)(e:aB c H H')(hc:H c=some (.lst zs))(n:tp≠c):dI K H' tp cO ns b:=by
 obtain⟨i,r,h1,h2⟩:=h.le;exact⟨h.tv.other e hc n,i,r,e _ _ n h1,h2⟩
theorem dI.lst(h:dI K H tp cO ns b):∃zs,H tp=some (.lst zs):=by
 obtain⟨i,r,h1,_⟩:=h.le;exact⟨_,h1⟩
theorem BR{H:Hp}(h:H a=some o)(n:H b=none):b≠a:=λe=>by rw[e,h]at n;cases n
end L2
namespace Hs
open PySem L2 oF
section
variable{P:χ}{w:ω}{K:ag}{mg:L5}{base:bv}
theorem qT(a:Int)(h:0<b):0<=a %b:=Int.emod_nonneg _ (by omega)
theorem mod_lt(a:Int)(h:0<b):a %b<b:=Int.emod_lt_of_pos _ h
theorem JL{ns:ζ}(h0:0<=k)(h1:k<(ns.length:Int)):∃v:Int,atI (ns.map V.int) k=some (.int v)/\ns[k.toNat]? =some v:=by
 have hk:k.toNat<ns.length:=by omega
 have ek:((k.toNat:Nat):Int)=k:=by omega
 have q:atI (ns.map V.int) ((k.toNat:Nat):Int)=some (.int ns[k.toNat]):=atI_nat (by rw[cV,eN hk];rfl);rw[ek]at q;exact⟨_,q,eN hk⟩
inductive yL(K:ag)(vs:List V)(H:Hp)(Q:VK)(E_:XK):Prop
 |mk(c i:Int)(_:vs=[.int c,.int i])(_:0<=i)(_:i<=1000000000)(_:∀r,0<=r->Q (.int r) H)
theorem Ql{f:af}{fd:ψ}
  (F:Fun K "_law_e_stir" "_law_e_stir" jz f fd):
  FnOk P w K mg base CX0 1 f fd ["cell","at"] (yL K):=by
 refine F.U4 ["cell","at","one","two","three"] λcdv A outer s H vs Q E hr h=>?_;obtain⟨c,i,rfl,hi0,hi1,q⟩:=h;refine⟨_,(aO (jq (iM op_ge (pv 0) (bW op_pow aM aM)) (aZ (cu (pv 0))) jN) (aO (pS 2 (bW op_mod (bW sI (bW sI (bW wk (bW op_mod (pv 0) aM) aM) (bW wk (pv 1) aM)) aM) aM)) (aO (pS 3 (bW op_mod (bW sI (bW sI (bW sI (bW wk (pv 2) (pv 2)) (bW wk (bW wk aM (pv 1)) (pv 1))) (bW wk aM (pv 2))) aM) aM)) (aO (pS 4 (bW op_mod (bW sI (bW sI (bW sI (bW wk (pv 3) (pv 3)) (bW wk aM (pv 3))) (pv 2)) (pv 1)) aM)) (aZ (cu (bW sI (bW wk (pv 3) aM) (pv 4)))))))),?_⟩;refine⟨_,rfl,_,_,rfl,rfl,⟨by decide,by decide,by decide⟩,_,_,rfl,rfl,_,rfl,?_⟩;refine ite2 (λc1=>?_) (λc1=>?_)
 ·have c2:(10:Int)^(18:Int).toNat<=c:=fW c1;have c3:(0:Int)<=10^(18:Int).toNat:=by decide
  exact⟨_,rfl,q c (by omega)⟩
 ·refine⟨_,rfl,_,_,rfl,rfl,(by show(0:Int)<2147483549;decide),_,_,rfl,rfl,.inr ⟨by decide,by decide⟩,_,rfl,_,_,rfl,rfl,.inr ⟨by decide,by decide⟩,_,_,rfl,rfl,_,_,rfl,rfl,_,_,rfl,rfl,(by show(0:Int)<2147483543;decide),?_⟩;generalize hfirst:(V.int (_ %2147483543):V)=vf;obtain⟨a1,e1,a2,a3⟩:∃a:Int,vf=.int a/\0<=a/\a<2147483543:=⟨_,hfirst.symm,qT _ (by decide),mod_lt _ (by decide)⟩;rw[e1];refine⟨_,rfl,_,rfl,_,_,rfl,rfl,.inl ⟨by omega,by omega⟩,_,rfl,_,_,rfl,rfl,.inl ⟨by decide,by decide⟩,_,rfl,_,_,rfl,rfl,.inr ⟨by omega,by omega⟩,_,_,rfl,rfl,_,rfl,_,_,rfl,rfl,.inl ⟨by decide,by decide⟩,_,_,rfl,rfl,_,_,rfl,rfl,_,_,rfl,rfl,(by show(0:Int)<2147483497;decide),?_⟩;generalize abz:(V.int (_ %2147483497):V)=vs;obtain⟨b1,f1,b2,b3⟩:∃a:Int,vs=.int a/\0<=a/\a<2147483497:=⟨_,abz.symm,qT _ (by decide),mod_lt _ (by decide)⟩;rw[f1];refine⟨_,rfl,_,rfl,_,_,rfl,rfl,.inl ⟨by omega,by omega⟩,_,rfl,_,_,rfl,rfl,.inl ⟨by decide,by decide⟩,_,_,rfl,rfl,_,rfl,_,_,rfl,rfl,_,rfl,_,_,rfl,rfl,_,_,rfl,rfl,(by show(0:Int)<2147483489;decide),?_⟩;generalize abx:(V.int (_ %2147483489):V)=vt;obtain⟨c1',g1,c2,c3⟩:∃a:Int,vt=.int a/\0<=a/\a<2147483489:=⟨_,abx.symm,qT _ (by decide),mod_lt _ (by decide)⟩;rw[g1];refine⟨_,rfl,_,_,rfl,rfl,.inr ⟨by decide,by decide⟩,_,rfl,_,_,rfl,rfl,q _ ?_⟩;have:=HS b2 (show(0:Int)<=2147483489 by decide);omega
inductive Bh(K:ag)(vs:List V)(H:Hp)(Q:VK)(E_:XK):Prop
 |mk(tp cO:af)(ns:ζ)(m b:Int)(_:vs=[.ref tp,.int m])(_:dI K H tp cO ns b)(_:b<=1000000000)(_:0<m)(_:m<1000000000000000000000000000000)(_:∀r H',0<=r->r<m->aB tp H H'->dI K H' tp cO ns (b+1)->Q (.int r) H')
theorem YL{f:af}{fd:ψ}
  (F:Fun K "_law_e_dip" "_law_e_dip" zdl f fd)(D1:Dp P w K mg base 1 "_law_e_stir" jz ["cell","at"] (yL K))(bU:mg "len"=none):
  FnOk P w K mg base CX0 2 f fd ["cup","many"] (Bh K):=by
 refine F.eG ["cup","many","at","cell","found"] λH Q hr h=>?_;obtain⟨tp,cO,ns,m,b,rfl,hC,hb,hm0,hm1,q⟩:=h;refine⟨_,(aO (jq (iM op_lt (bB jV (pv 0) aM) (pv 1)) (aO (pS 2 (bB jV (pv 0) aM)) (aO (pS 3 (bW sI (bW wk aM (pv 2)) aM)) (aO (jq (iM op_lt (pv 2) (pB yp bU (aj (bB jV (pv 0) aM) aA))) (aZ (pS 3 (bB jV (bB jV (pv 0) aM) (pv 2)))) (aZ (jq (iM op_gt (pB yp bU (aj (bB jV (pv 0) aM) aA)) aM) (aZ (pS 3 (bW sI (bW op_mod (bB jV (bB jV (pv 0) aM) (bW op_mod (bW sI (bW wk aM (pv 2)) aM) (pB yp bU (aj (bB jV (pv 0) aM) aA)))) aM) (bW wk (pv 2) aM)))) jN))) (aO (ps_asg (bW sI (pv 2) aM) (pg_sub (pv 0) aM set_list)) (aZ (ps_asg (pd D1 hr (aj (pv 3) (aj (pv 2) aA))) (pg_sub (pv 0) aM set_list))))))) jN) (aO (pS 4 (bW op_mod (bB jV (pv 0) aM) (pv 1))) (aO (ps_asg (bW pL (bB jV (pv 0) aM) (pv 1)) (pg_sub (pv 0) aM set_list)) (aZ (cu (pv 4)))))),?_⟩;obtain⟨⟨⟨i,r,hH,hi,hr0⟩,hS0,h63⟩,i',r',hH',hle⟩:=hC;have ei:i'=i/\r'=r:=by
  rw[hH]at hH';injection hH' with e1
  injection e1 with e2
  injection e2 with _ e3
  injection e3 with e4 e5
  injection e5 with e6 _
  injection e4 with e4
  injection e6 with e6
  exact⟨e4.symm,e6.symm⟩
 obtain⟨rfl,rfl⟩:=ei;have hS:=hS0.sq;refine⟨_,rfl,tp,_,_,.int r',rfl,rfl,SqL.of hH,rfl,_,rfl,_,_,rfl,rfl,_,rfl,?_⟩;refine ite2 (λc=>?_) (λc=>?_)
 ·refine⟨_,rfl,tp,_,_,.int i',rfl,rfl,SqL.of hH,rfl,?_⟩;refine⟨_,rfl,_,_,rfl,rfl,.inl ⟨by decide,by decide⟩,_,_,rfl,rfl,?_⟩;refine⟨_,rfl,_,rfl,tp,_,_,.ref cO,rfl,rfl,SqL.of hH,rfl,cO,_,rfl,.inl hS,λhz=>⟨_,_,rfl,rfl,_,rfl,?_⟩⟩;have go:∀r2,0<=r2->∀q',q'=r2/m->
    ((0:Int)<=r2 %m/\r2 %m<m)/\aB tp H (upd (upd (upd H tp (.lst [.ref cO,.int (i'+1),.int r'])) tp (.lst [.ref cO,.int (i'+1),.int r2])) tp (.lst [.ref cO,.int (i'+1),.int q']))/\
    dI K (upd (upd (upd H tp (.lst [.ref cO,.int (i'+1),.int r'])) tp (.lst [.ref cO,.int (i'+1),.int r2])) tp (.lst [.ref cO,.int (i'+1),.int q'])) tp cO ns (b+1):=λr2 h0 q' hq=>by
   have sx:aB tp H (upd (upd (upd H tp (.lst [.ref cO,.int (i'+1),.int r'])) tp (.lst [.ref cO,.int (i'+1),.int r2])) tp (.lst [.ref cO,.int (i'+1),.int q'])):=(aB.refl _ _).upd.upd.upd;have hq0:0<=q':=by rw[hq];exact wga h0 (by omega)
   exact⟨⟨qT _ hm0,mod_lt _ hm0⟩,sx,⟨⟨i'+1,q',aH,by omega,hq0⟩,hS0.cJ sx hH,h63⟩,i'+1,q',aH,by omega⟩
  refine ite2 (λc2=>?_) (λc2=>?_)
  ·have c3:i'<((ns.map V.int).length:Int):=fW c2;rw[aF]at c3;obtain⟨v,hx,_⟩:=JL hi c3;refine⟨_,rfl,tp,_,_,.ref cO,rfl,rfl,SqL.of hH,rfl,_,rfl,cO,_,_,_,rfl,rfl,hS,hx,?_⟩;refine⟨_,rfl,_,_,rfl,rfl,_,rfl,tp,_,_,1,rfl,rfl,hH,rfl,?_⟩;refine⟨_,rfl,_,rfl,_,_,rfl,hi,by omega,λr2 h0=>⟨_,rfl,tp,_,_,2,rfl,rfl,aH,rfl,?_⟩⟩;obtain⟨⟨g1,g2⟩,g3,g4⟩:=go r2 h0 _ rfl;refine⟨_,rfl,tp,_,_,.int r2,rfl,rfl,SqL.of aH,rfl,_,rfl,_,_,rfl,rfl,hm0,?_⟩;refine⟨_,rfl,tp,_,_,.int r2,rfl,rfl,SqL.of aH,rfl,_,rfl,_,_,rfl,rfl,⟨hm0,hm1⟩,_,rfl,tp,_,_,2,rfl,rfl,aH,rfl,?_⟩;exact⟨_,rfl,q _ _ g1 g2 g3 g4⟩
  ·refine⟨_,rfl,tp,_,_,.ref cO,rfl,rfl,SqL.of hH,rfl,cO,_,rfl,.inl hS,λhz2=>⟨_,_,rfl,rfl,_,rfl,?_⟩⟩;refine ite2 (λc4=>?_) (λc4=>?_)
   ·have e3:(0:Int)<((ns.map V.int).length:Int):=fW c4;have hk1:=qT (5*i'+2) e3;have hk2:=mod_lt (5*i'+2) e3;rw[aF]at hk1 hk2;obtain⟨v,hx,_⟩:=JL hk1 hk2;rw[<-aF (f:=V.int)]at hx;refine⟨_,rfl,tp,_,_,.ref cO,rfl,rfl,SqL.of hH,rfl,_,rfl,_,_,rfl,rfl,.inl ⟨by decide,by decide⟩,_,_,rfl,rfl,_,rfl,tp,_,_,.ref cO,rfl,rfl,SqL.of hH,rfl,cO,_,rfl,.inl hS,λhz2=>⟨_,_,rfl,rfl,e3,cO,_,_,_,rfl,rfl,hS,hx,?_⟩⟩;refine⟨_,_,rfl,rfl,(by show(0:Int)<777777769;decide),_,rfl,_,_,rfl,rfl,.inr ⟨by decide,by decide⟩,_,_,rfl,rfl,?_⟩;refine⟨_,rfl,_,_,rfl,rfl,_,rfl,tp,_,_,1,rfl,rfl,hH,rfl,?_⟩;refine⟨_,rfl,_,rfl,_,_,rfl,hi,by omega,λr2 h0=>⟨_,rfl,tp,_,_,2,rfl,rfl,aH,rfl,?_⟩⟩;obtain⟨⟨g1,g2⟩,g3,g4⟩:=go r2 h0 _ rfl;refine⟨_,rfl,tp,_,_,.int r2,rfl,rfl,SqL.of aH,rfl,_,rfl,_,_,rfl,rfl,hm0,?_⟩;refine⟨_,rfl,tp,_,_,.int r2,rfl,rfl,SqL.of aH,rfl,_,rfl,_,_,rfl,rfl,⟨hm0,hm1⟩,_,rfl,tp,_,_,2,rfl,rfl,aH,rfl,?_⟩;exact⟨_,rfl,q _ _ g1 g2 g3 g4⟩
   ·refine⟨_,rfl,_,_,rfl,rfl,_,rfl,tp,_,_,1,rfl,rfl,hH,rfl,?_⟩;refine⟨_,rfl,_,rfl,_,_,rfl,hi,by omega,λr2 h0=>⟨_,rfl,tp,_,_,2,rfl,rfl,aH,rfl,?_⟩⟩;obtain⟨⟨g1,g2⟩,g3,g4⟩:=go r2 h0 _ rfl;refine⟨_,rfl,tp,_,_,.int r2,rfl,rfl,SqL.of aH,rfl,_,rfl,_,_,rfl,rfl,hm0,?_⟩;refine⟨_,rfl,tp,_,_,.int r2,rfl,rfl,SqL.of aH,rfl,_,rfl,_,_,rfl,rfl,⟨hm0,hm1⟩,_,rfl,tp,_,_,2,rfl,rfl,aH,rfl,?_⟩;exact⟨_,rfl,q _ _ g1 g2 g3 g4⟩
 ·refine⟨_,rfl,tp,_,_,.int r',rfl,rfl,SqL.of hH,rfl,_,rfl,_,_,rfl,rfl,hm0,?_⟩;refine⟨_,rfl,tp,_,_,.int r',rfl,rfl,SqL.of hH,rfl,_,rfl,_,_,rfl,rfl,⟨hm0,hm1⟩,_,rfl,tp,_,_,2,rfl,rfl,hH,rfl,?_⟩;have sx:aB tp H (upd H tp (.lst [.ref cO,.int i',.int (r'/m)])):=(aB.refl _ _).upd;have hq0:0<=r'/m:=wga hr0 (by omega);exact⟨_,rfl,q _ _ (qT _ hm0) (mod_lt _ hm0) sx ⟨⟨⟨i',r'/m,aH,hi,hq0⟩,hS0.cJ sx hH,h63⟩,i',r'/m,aH,by omega⟩⟩
end
end Hs
namespace oF
open PySem L2
theorem lC.cJ(h:lC K H a n ts)(e:aB t H H')(hn:H t=some (.lst zs)):lC K H' a n ts:=by
 obtain⟨u,rs,h1,h2,h3⟩:=h;exact⟨u,rs,e.tup hn h1,e.tup hn h2,iC e hn h3⟩
theorem Ym(h:pl p=pl q):p=q:=by
 obtain⟨a,b⟩:=p;obtain⟨c,d⟩:=q;unfold pl at h;simp at h;rw[h.1,h.2]
theorem QK(h:HT.lexLt b a=false)(ne:a≠b):HT.lexLt a b=true:=by
 rw[HT.bQ]at h⊢;have h1:¬b<a:=wbv h;have h2:a<=b:=List.not_lt.mp h1;apply bY;rcases Classical.em (a<b)with h3|h3
 ·exact h3
 ·exact absurd (List.le_antisymm h2 (List.not_lt.mp h3)) ne
theorem NP(h0:0<=p.1)(h1:p.1<p.2)(h2:p.2<n):nH n (pairD p)=true:=by
 show((bO n (.int p.1)&&(bO n (.int p.2)&&true))&&fO [p.1,p.2]&&decide (([am p.1,am p.2]).length=2))=true;have e1:bO n (.int p.1)=true:=by
  show(decide (0<=p.1)&&decide (p.1<n))=true;rw[bY h0,bY (by omega)];rfl
 have e2:bO n (.int p.2)=true:=by
  show(decide (0<=p.2)&&decide (p.2<n))=true;rw[bY (by omega),bY h2];rfl
 have e3:fO [p.1,p.2]=true:=by
  show(decide (p.1<p.2)&&true)=true;rw[bY h1];rfl
 rw[e1,e2,e3];rfl
theorem XJ(hn0:0<=n)(hn1:n<=10)(h:aY n ts)(hs:ts.Pairwise λp q=>HT.lexLt (pl q) (pl p)=false):yx (yw n ts)=true:=by
 show(true&&(decide (0<=n)&&decide (n<=10))&&((ts.map pairD).all (nH n)&&gG ((ts.map pairD).map λt=>(kids t).map intD)))=true;have e1:(ts.map pairD).all (nH n)=true:=by
  rw[SN,iW];intro p hp;obtain⟨h0,h1,h2⟩:=h.lt p hp;exact NP h0 h1 h2
 have e2:(ts.map pairD).map (λt=>(kids t).map intD)=ts.map pl:=by rw[oN];rfl
 have e3:gG (ts.map pl)=true:=by
  unfold gG;rw[iW];intro k hk;have hk':k<ts.length-1:=by simpa using hk
  have g1:(ts.map pl).getD k []=pl ts[k]:=by rw[gQ,cV,eN (by omega)];rfl
  have g2:(ts.map pl).getD (k+1) []=pl ts[k+1]:=by rw[gQ,cV,eN (by omega)];rfl
  rw[g1,g2];refine QK (Wm.mp hs k (k+1) (by omega) (by omega) (by omega)) λe=>?_;have:=(List.getElem_inj h.nd).mp (Ym e);omega
 rw[bY hn0,bY hn1,e1,e2,e3];rfl
end oF
namespace Hs
open PySem L2 oF
theorem Av.Y9(a:Av p p):False:=by
 unfold Av at a;omega
theorem uP(so:Int->Int->Bool)(i)(k):row so i (k+1)=row so i k++(if so i (i+1+(k:Int))=true then[(i,i+1+(k:Int))]else[]):=by
 unfold row;rw[yt,bC,J5];congr 1;show kD _ [(i,i+1+(k:Int))]=_;rw[Ao];rfl
theorem jf(so:Int->Int->Bool)(m)(i):rows so m (i+1)=rows so m i++row so (0+(i:Int)) (m-(0+(i:Int)+1)).toNat:=by
 unfold rows;rw[yt,bC,List.flatten_append];simp
theorem ug:p∈row so i k↔p.1=i/\i<p.2/\p.2<i+1+(k:Int)/\so p.1 p.2=true:=by
 unfold row;rw[fD,dF];constructor
 ·rintro⟨⟨t,ht,rfl⟩,h⟩;rw[qC]at ht;exact⟨rfl,by show i<i+1+(t:Int);omega,by show i+1+(t:Int)<_;omega,h⟩
 ·rintro⟨h1,h2,h3,h4⟩;refine⟨⟨(p.2-i-1).toNat,by rw[qC];omega,?_⟩,h4⟩;apply Wv
  ·exact h1.symm
  ·show i+1+(((p.2-i-1).toNat:Nat):Int)=p.2;omega
theorem gJ:∀{i:Nat}{p:Int×Int},p∈rows so m i↔0<=p.1/\p.1<(i:Int)/\p.1<p.2/\p.2<m/\so p.1 p.2=true
 |0,p=>by
  constructor
  ·intro h;simp[rows]at h
  ·intro h;omega
 |i+1,p=>by
  rw[jf,lM,gJ (i:=i),ug];constructor
  ·rintro(h|h)
   ·exact⟨h.1,by omega,h.2.2⟩
   ·exact⟨by omega,by omega,by omega,by omega,h.2.2.2⟩
  ·rintro⟨h1,h2,h3,h4,h5⟩;by_cases e:p.1<(i:Int)
   ·exact .inl ⟨h1,e,h3,h4,h5⟩
   ·exact .inr ⟨by omega,by omega,by omega,h5⟩
theorem uQ(so:Int->Int->Bool)(i)(k):(row so i k).Pairwise Av:=by
 unfold row;refine wdp _ ?_;rw[J4];exact ydc.imp λh=>.inr ⟨rfl,by show i+1+_<i+1+_;omega⟩
theorem iz(so:Int->Int->Bool)(m):∀i:Nat,(rows so m i).Pairwise Av
 |0=>by unfold rows;exact ez
 |i+1=>by
  rw[jf,ydk];refine⟨iz so m i,uQ so _ _,λp hp q hq=>?_⟩;rw[gJ]at hp;rw[ug]at hq;exact .inl (by omega)
theorem IW:aY m (rows so m i):=
 ⟨(iz so m i).imp λh e=>by subst e;exact Av.Y9 h,λp hp=>by rw[gJ]at hp;exact⟨hp.1,hp.2.2.1,hp.2.2.2.1⟩⟩
theorem xM{l:L0}(h:l.Pairwise Av):l.Nodup:=h.imp λh e=>by subst e;exact Av.Y9 h
theorem aR.cJ(h:aR K H a n ts)(e:aB t H H')(hn:H t=some (.lst zs)):aR K H' a n ts:=⟨h.web.cJ e hn,h.h0,h.h1,h.pk,h.ok⟩
noncomputable def tt(_ _:Int):Bool:=true
theorem Vc(h:Av p q):HT.lexLt (pl q) (pl p)=false:=by
 rw[HT.bQ];refine gj λz=>?_;have:Av q p:=Vi (by rw[HT.bQ];exact bY z);exact Av.Y9 (h.trans this)
theorem nF(h0:0<=n)(h1:n<=10)(h:ts.Sublist (rows tt n i)):aY n ts/\RP n ts:=by
 have hs:ts.Pairwise Av:=(iz tt n i).sublist h;have ho:aY n ts:=⟨xM hs,λp hp=>(IW (so:=tt) (m:=n) (i:=i)).lt p (h.subset hp)⟩;exact⟨ho,XJ h0 h1 ho (hs.imp Vc)⟩
theorem dM.push{P:Int×Int->Prop}{ts:L0}(h1:H l=some (.lst rs))(h2:cF K H rs (ts.map pairD))(h3:ts.Sublist R)(h4:∀p∈ts,P p)(hp:SqT K H p [.int i,.int j])(hP:P (i,j)):dM K (upd H l (.lst (rs++[.ref p]))) l (R++[(i,j)]) P:=by
 have x:aB l H (upd H l (.lst (rs++[.ref p]))):=(aB.refl _ _).upd;refine⟨_,ts++[(i,j)],aH,?_,h3.append (wcb _),λq hq=>?_⟩
 ·rw[bC];exact(iC x h1 h2).append (.cons (.tup (x.tup h1 hp) (.cons (.int _) (.cons (.int _) .nil))) .nil)
 ·rcases lM.mp hq with q'|q'
  ·exact h4 q q'
  ·rw[fV.mp q'];exact hP
theorem sub_len{ts:L0}{i k:Nat}(h1:n<=10)(hk:0+(i:Int)+1+(k:Int)<=n)(h:ts.Sublist (rows tt n i++row tt (0+(i:Int)) k)):ts.length<=45:=by
 refine pairs_len (n:=n) ⟨?_,λp hp=>?_⟩ h1
 ·refine xM (List.Pairwise.sublist h ?_);rw[ydk];refine⟨iz _ _ _,uQ _ _ _,λp hp q hq=>?_⟩;rw[gJ]at hp;rw[ug]at hq;exact .inl (by omega)
 ·rcases lM.mp (h.subset hp)with q|q
  ·rw[gJ]at q;exact⟨q.1,q.2.2.1,q.2.2.2.1⟩
  ·rw[ug]at q;exact⟨by omega,by omega,by omega⟩
section
variable{P:χ}{w:ω}{K:ag}{mg:L5}{base:bv}
inductive yE(K:ag)(vs:List V)(H:Hp)(Q:VK)(E_:XK):Prop
 |mk(cp cO:af)(ns:ζ)(n b:Int)(_:vs=[.ref cp,.int n])(_:dI K H cp cO ns b)(_:b<=900000000)(_:0<=n)(_:n<=10)(_:∀r ts H',aB cp H H'->dI K H' cp cO ns (b+120)->aR K H' r n ts->Q (.ref r) H')
theorem Qc{f:af}{fd:ψ}
  (F:Fun K "_law_e_web_of" "_law_e_web_of" gC f fd)(D1:Dp P w K mg base 2 "_law_e_dip" zdl ["cup","many"] (Bh K))(aG:mg "range"=none)(aL:mg "tuple"=none):
  FnOk P w K mg base CX0 3 f fd ["cup","n"] (yE K):=by
 refine F.eG ["cup","n","often","ties","i","j"] λH Q hr h=>?_;obtain⟨cp,cO,ns,n,b,rfl,hC,hb,hn0,hn1,q⟩:=h;refine⟨_,(aO (pS 2 (pd D1 hr (aj (pv 0) (aj aM aA)))) (aO (pS 3 (pe_lst aA)) (aO (Ay wX rfl (Ec rfl aG (aj (pv 1) aA)) (pG 4) (aZ (Ay wX rfl (pi_range2 rfl aG (aj (bW sI (pv 4) aM) (aj (pv 1) aA))) (pG 5) (aZ (jq (iM op_lt (pd D1 hr (aj (pv 0) (aj aM aA))) (pv 2)) (aZ (wz (pe_bm Te wbe wbf mt_append (pv 3) (aj (lY (aj (pv 4) (aj (pv 5) aA))) aA)))) jN))))) (aZ (cu (lY (aj (pv 1) (aj (pT JW aL (aj (pv 3) aA)) aA)))))))),?_⟩;refine⟨_,rfl,cp,cO,ns,7,b,rfl,hC,by omega,by decide,by decide,λo H1 ho0 ho1 x1 c1=>?_⟩;refine⟨szl,λtl htl=>?_⟩;obtain⟨zs,hz⟩:=c1.lst;have s2:=aP htl (.lst []);have YT:tl≠cp:=BR hz htl;have tl0:H tl=none:=x1.free YT htl;refine⟨_,rfl,n,rfl,by omega,by omega,?_⟩;refine Tt (n:=n.toNat) (λi σ H'=>aB cp H H'/\dI K H' cp cO ns (b+1+10*(i:Int))/\dM K H' tl (rows tt n i) (λ_=>True)/\∃a4 a5,σ=[some (.ref cp),some (.int n),some (.int o),some (.ref tl),a4,a5])
  ⟨x1.trans (s2.x _),(c1.same s2).mono (by omega),dM.nil aH,_,_,rfl⟩ (λi σ H' hi p=>?_) (λσ H' p=>?_)
 ·obtain⟨x,c,tl1,a4,a5,rfl⟩:=p;refine⟨_,rfl,_,_,rfl,rfl,_,rfl,_,_,rfl,⟨by omega,by omega,by omega,by omega⟩,?_⟩;refine Tt (n:=(n-(0+(i:Int)+1)).toNat) (λk σ H'=>aB cp H H'/\dI K H' cp cO ns (b+1+10*(i:Int)+(k:Int))/\dM K H' tl (rows tt n i++row tt (0+(i:Int)) k) (λ_=>True)/\∃a5,σ=[some (.ref cp),some (.int n),some (.int o),some (.ref tl),some (.int (0+(i:Int))),a5])
   ⟨x,c.mono (by omega),by rw[show row tt (0+(i:Int)) 0=[]from rfl,tL];exact tl1,_,rfl⟩ (λk σ H' hk p=>?_) (λσ H' p=>?_)
  ·obtain⟨x,c,tl1,a5,rfl⟩:=p;refine⟨_,rfl,cp,cO,ns,6,_,rfl,c,by omega,by decide,by decide,λd H2 hd0 hd1 x2 c2=>⟨_,rfl,_,_,rfl,rfl,_,rfl,?_⟩⟩;obtain⟨zs,hz⟩:=c.lst;have tl2:=tl1.step x2 hz YT;have er:rows tt n i++row tt (0+(i:Int)) (k+1)=(rows tt n i++row tt (0+(i:Int)) k)++[(0+(i:Int),0+(i:Int)+1+(k:Int))]:=by rw[uP,au (show tt _ _=true from rfl),Xx]
   have ec:b+1+10*(i:Int)+((k+1:Nat):Int)=b+1+10*(i:Int)+(k:Int)+1:=by omega
   rw[er,ec];refine ite2 (λcc=>?_) (λcc=>?_)
   ·obtain⟨rs,ts,h1,h2,h3,h4⟩:=tl2;have hl:=sub_len hn1 (by omega) h3;have hrl:=h2.len;rw[aF]at hrl;refine⟨_,rfl,.inl ⟨rfl,_,SqL.of h1⟩,_,rfl,_,rfl,szl,λp hp=>?_⟩;have s3:=aP hp (.tup [.int (0+(i:Int)),.int (0+(i:Int)+1+(k:Int))]);refine⟨tl,rs,_,rfl,rfl,s3 _ _ h1,(by rw[eZ];omega),?_⟩;have xw:aB tl (upd H2 p (.tup [.int (0+(i:Int)),.int (0+(i:Int)+1+(k:Int))])) (upd (upd H2 p (.tup [.int (0+(i:Int)),.int (0+(i:Int)+1+(k:Int))])) tl (.lst (rs++[.ref p]))):=(aB.refl _ _).upd;refine⟨λq o hq e=>?_,(c2.same s3).other xw (s3 _ _ h1) YT.symm,dM.push (s3 _ _ h1) (h2.same s3) h3 h4 (SqT.of aH) trivial,_,rfl⟩;have nq:q≠tl:=λz=>by rw[z,tl0]at e;cases e
    exact xw _ _ nq (s3 _ _ (x2 _ _ hq (x _ _ hq e)))
   ·exact⟨x.trans x2,c2,tl2.mono (yee _ _),_,rfl⟩
  ·obtain⟨x,c,tl1,a5,rfl⟩:=p;rw[<-jf]at tl1;exact⟨x,c.mono (by omega),tl1,_,_,rfl⟩
 ·obtain⟨x,c,⟨rs,ts,h1,h2,h3,h4⟩,a4,a5,rfl⟩:=p;refine⟨_,rfl,_,rfl,tl,rs,rfl,.inl ⟨SqL.of h1,λt ht=>⟨szl,λwb hwb=>?_⟩⟩⟩;have s3:=aP ht (.tup rs);have s4:=aP hwb (.tup [.int n,.ref t]);have uO:=s3.trans s4;obtain⟨g1,g2⟩:=nF hn0 hn1 h3;exact q wb ts _ (x.trans (uO.x _)) ((c.same uO).mono (by omega)) ⟨⟨t,rs,SqT.of aH,SqT.of (s4 _ _ aH),h2.same uO⟩,hn0,hn1,g1,g2⟩
end
noncomputable def iB(n:Nat):ζ:=(ai n).map λ(t:Nat)=>(t:Int)
theorem lV:x∈iB n↔0<=x/\x<(n:Int):=by
 unfold iB;rw[dF];constructor
 ·rintro⟨t,ht,rfl⟩;have:=qC.mp ht;omega
 ·intro h;exact⟨x.toNat,qC.mpr (by omega),by omega⟩
theorem Uk(n):(iB n).length=n:=by unfold iB;rw[aF,yu]
theorem Pu(n):iB (n+1)=iB n++[(n:Int)]:=by unfold iB;rw[yt,bC];rfl
noncomputable def dD:Nat->List ζ
 |0=>[[]]
 |k+1=>dD k++(dD k).map λs=>s++[(k:Int)]
theorem lB:∀k,(dD k).length=2^k
 |0=>rfl
 |k+1=>by
  show(dD k++(dD k).map λs=>s++[(k:Int)]).length=_;rw[oO,aF,lB k,yfn];omega
theorem p8:∀k,∀s∈dD k,s.length<=k
 |0,s,h=>by rw[fV.mp h];exact aQ _
 |k+1,s,h=>by
  rcases lM.mp h with z|z
  ·exact wey (p8 k s z)
  ·obtain⟨t,ht,rfl⟩:=dF.mp z;have:=p8 k t ht;rw[oO];show t.length+1<=k+1;omega
theorem BZ:∀{l:ζ},l.Sublist [a]->l=[]\/l=[a]
 |[],_=>.inl rfl
 |_::_,h=>by
  cases h with
  |cons _ h=>cases h
  |cons_cons _ h=>cases h;exact .inr rfl
theorem fu:∀(n:Nat) (ys:ζ),ys∈dD n↔ys.Sublist (iB n)
 |0,ys=>by
  show ys∈[[]]↔ys.Sublist [];rw[fV,List.sublist_nil]
 |n+1,ys=>by
  show ys∈dD n++(dD n).map (λs=>s++[(n:Int)])↔_;rw[Pu,lM,dF,List.sublist_append_iff,fu n ys];constructor
  ·rintro(h|⟨s,hs,rfl⟩)
   ·exact⟨ys,[],(tL _).symm,h,List.nil_sublist _⟩
   ·exact⟨s,[(n:Int)],rfl,(fu n s).mp hs,wcb _⟩
  ·rintro⟨l1,l2,rfl,h1,h2⟩;rcases BZ h2 with rfl|rfl
   ·rw[tL];exact .inl h1
   ·exact .inr ⟨l1,(fu n l1).mpr h1,rfl⟩
theorem oA:∀n,(dD n).Nodup
 |0=>by show lI [[]];simp
 |n+1=>by
  show(dD n++(dD n).map (λs=>s++[(n:Int)])).Nodup;refine List.nodup_append.mpr ⟨oA n,?_,λa ha b hb e=>?_⟩
  ·unfold lI;rw[J4];exact(oA n).imp λ{x y} h z=>h (wew z)
  ·subst e;obtain⟨s,_,rfl⟩:=dF.mp hb;have:=lV.mp (((fu n _).mp ha).subset (ig _ (wct _)));omega
theorem rE:∀(n i:Nat) (xs ys:ζ),(dD n)[i]? =some xs->ys.Sublist xs->ys≠xs->ys∈(dD n).take i
 |0,i,xs,ys,h,hs,hn=>by
  have h':([[]]:List ζ)[i]? =some xs:=h;cases i with
  |zero=>
   simp at h';subst h';exact absurd (List.sublist_nil.mp hs) hn
  |succ i=>simp at h'
 |n+1,i,xs,ys,h,hs,hn=>by
  show ys∈(dD n++(dD n).map (λs=>s++[(n:Int)])).take i;have h':(dD n++(dD n).map (λs=>s++[(n:Int)]))[i]? =some xs:=h;by_cases hi:i<(dD n).length
  ·rw[ydw hi]at h';rw[List.take_append_of_le_length (dN hi)];exact rE n i xs ys h' hs hn
  ·have hi:=Nat.not_lt.mp hi;rw[yda hi,cV]at h';cases e:(dD n)[i-(dD n).length]? with
   |none=>rw[e]at h';cases h'
   |some zs=>
    rw[e]at h';cases h';rw[List.take_append,lM,XC hi];obtain⟨l1,l2,rfl,h1,h2⟩:=List.sublist_append_iff.mp hs;have mz:zs.Sublist (iB n):=(fu n zs).mp (nu e);rcases BZ h2 with rfl|rfl
    ·rw[tL];exact .inl ((fu n _).mpr (h1.trans mz))
    ·refine .inr ?_;rw[<-List.map_take];exact dF.mpr ⟨l1,rE n _ zs l1 e h1 (λz=>hn (by rw[z])),rfl⟩
noncomputable def wo(xs p:ζ):ζ:=xs.filter λo=> !decide (o∈p)
theorem nA(xs p):(wo xs p).Sublist xs:=yds
theorem vo:x∈wo xs p↔x∈xs/\x∉p:=by
 unfold wo;rw[fD];simp
theorem Nj(h:x∈p):wo (x::r) p≠x::r:=λe=>by
 have:x∈wo (x::r) p:=by rw[e];exact cC
 exact(vo.mp this).2 h
theorem aaf(h:x∈p):(wo (x::r) p).length<(x::r).length:=
 SQ (nA _ _).length_le λe=>Nj h ((nA _ _).eq_of_length e)
noncomputable abbrev St1:=ζ->Int->Bool
noncomputable def iV(st:St1)(found:List ζ)(x:Int):List ζ:=found++(found.filter λp=>st p x).map λp=>p++[x]
noncomputable def jQ(st:St1)(xs:ζ)(k:Nat):List ζ:=((xs.drop 1).take k).foldl (iV st) [xs.take 1]
noncomputable def fpG(st:St1)(xs:ζ):List ζ:=(xs.drop 1).foldl (iV st) [xs.take 1]
theorem Df(st)(xs):jQ st xs (xs.drop 1).length=fpG st xs:=by unfold jQ fpG;rw[qw]
theorem rm(h:(xs.drop 1)[k]? =some y):jQ st xs (k+1)=iV st (jQ st xs k) y:=by
 unfold jQ;rw[qx (l:=xs.drop 1),h,wez];rfl
theorem Dd(st)(xs):∀k,(jQ st xs k).length<=2^k
 |0=>by show([xs.take 1]:List ζ).length<=1;simp
 |k+1=>by
  have ih:=Dd st xs k;cases e:(xs.drop 1)[k]? with
  |none=>
   have:jQ st xs (k+1)=jQ st xs k:=by unfold jQ;rw[qx (l:=xs.drop 1),e];simp
   rw[this];exact bR ih (Xz (by decide) (HD k))
  |some y=>
   rw[rm e];unfold iV;rw[oO,aF];have:=sO (λp=>st p y) (jQ st xs k);rw[yfn];omega
theorem ji:∀(k:Nat),∀p∈jQ st (x::r) k,p.Sublist (x::r.take k)/\x∈p
 |0,p,h=>by
  have h':p∈[[x]]:=h;rw[fV.mp h'];exact⟨by simp,wct _⟩
 |k+1,p,h=>by
  cases e:r[k]? with
  |none=>
   have e1:jQ st (x::r) (k+1)=jQ st (x::r) k:=by unfold jQ;show((r.take (k+1)).foldl _ _)=((r.take k).foldl _ _);rw[qx (l:=r),e];simp
   rw[e1]at h;obtain⟨h1,h2⟩:=ji k p h;exact⟨h1.trans (by rw[qx,e];simp),h2⟩
  |some y=>
   rw[rm (xs:=x::r) (show((x::r).drop 1)[k]? =some y from e)]at h;have et:x::r.take (k+1)=(x::r.take k)++[y]:=by rw[qx,e];rfl
   rw[et];rcases lM.mp h with z|z
   ·obtain⟨h1,h2⟩:=ji k p z;exact⟨h1.trans (yee _ _),h2⟩
   ·obtain⟨q,hq,rfl⟩:=dF.mp z;obtain⟨h1,h2⟩:=ji k q (fD.mp hq).1;exact⟨h1.append (wcb _),S6 _ h2⟩
theorem lq(h:p∈fpG st (x::r)):p.Sublist (x::r)/\x∈p:=by
 rw[<-Df]at h;have:=ji _ p h;have e:r.take ((x::r).drop 1).length=r:=qw;rw[e]at this;exact this
theorem Gw(st)(xs):fpG st xs≠[]:=by
 have key:∀(l:ζ) (f:List ζ),f≠[]->l.foldl (iV st) f≠[]:=λl=>by
  induction l with
  |nil=>intro f h;exact h
  |cons a l ih=>intro f h;exact ih _ (by unfold iV;intro z;exact h (List.append_eq_nil_iff.mp z).1)
 exact key _ _ (by simp)
noncomputable def cZ(ts:L0):St1:=λpart x=> !(part.any λo=>aq ts o x)
noncomputable abbrev fparts(ts:L0):ζ->List ζ:=fpG (cZ ts)
theorem zL(h:p∈fparts ts xs):p.Pairwise λa b=>aq ts a b=false:=by
 have key:∀(l:ζ) (f:List ζ),(∀p∈f,p.Pairwise λa b=>aq ts a b=false)->∀p∈l.foldl (iV (cZ ts)) f,p.Pairwise λa b=>aq ts a b=false:=λl=>by
  induction l with
  |nil=>intro f h;exact h
  |cons a l ih=>
   intro f h;refine ih _ λp hp=>?_;rcases lM.mp hp with z|z
   ·exact h p z
   ·obtain⟨q,hq,rfl⟩:=dF.mp z;obtain⟨h1,h2⟩:=fD.mp hq;rw[ydk];refine⟨h q h1,ycx _ _,λo ho y hy=>?_⟩;rw[fV.mp hy];unfold cZ at h2;rw[wca,ydy]at h2;have:=h2 o ho;simpa using this
 refine key _ _ (λp hp=>?_) p h;rw[fV.mp hp];cases xs with
 |nil=>exact ez
 |cons x r=>exact ycx _ _
noncomputable def Qy:ζ->Int
 |[]=>0
 |[a]=>a
 |a::b::l=>if a<=Qy (b::l)then a else Qy (b::l)
theorem Ge:∀{ns:ζ},ns≠[]->Qy ns∈ns/\∀n∈ns,Qy ns<=n
 |[],h=>absurd rfl h
 |[a],_=>⟨wct _,λn hn=>by rw[fV.mp hn];exact tK _⟩
 |a::b::l,_=>by
  obtain⟨h1,h2⟩:=Ge (ns:=b::l) (by simp);show(if a<=Qy (b::l)then a else Qy (b::l))∈_/\∀n∈_,(if a<=Qy (b::l)then a else Qy (b::l))<=n;by_cases c:a<=Qy (b::l)
  ·rw[au c];refine⟨cC,λn hn=>?_⟩;rcases cX.mp hn with z|z
   ·rw[z];exact tK _
   ·exact yet c (h2 n z)
  ·rw[ao c];refine⟨cY _ h1,λn hn=>?_⟩;rcases cX.mp hn with z|z
   ·rw[z];omega
   ·exact h2 n z
theorem mnL_eq(h1:m∈ns)(h2:∀n∈ns,m<=n):m=Qy ns:=by
 have hn:ns≠[]:=λe=>by rw[e]at h1;cases h1
 obtain⟨a,b⟩:=Ge hn;exact wgb (h2 _ a) (b _ h1)
noncomputable def MJ(g:ζ->Int)(ts:L0)(xs:ζ):Int:=if xs=[]then 0 else 1+Qy ((fparts ts xs).map λp=>g (wo xs p))
theorem xU(h:∀ys:ζ,ys.Sublist xs->ys≠xs->g ys=g' ys):MJ g ts xs=MJ g' ts xs:=by
 unfold MJ;cases xs with
 |nil=>rfl
 |cons x r=>
  rw[ao (by simp),ao (by simp)];congr 2;exact SX λp hp=>h _ (nA _ _) (Nj (lq hp).2)
noncomputable def Gx(ts:L0):Nat->ζ->Int
 |0,_=>0
 |k+1,xs=>MJ (Gx ts k) ts xs
theorem vP(ts):∀(k j:Nat) (xs:ζ),xs.length<=k->xs.length<=j->Gx ts k xs=Gx ts j xs
 |0,j,xs,h,_=>by
  have e:xs=[]:=List.length_eq_zero_iff.mp (Nat.le_zero.mp h);subst e;cases j with
  |zero=>rfl
  |succ j=>rfl
 |k+1,0,xs,_,h=>by
  have e:xs=[]:=List.length_eq_zero_iff.mp (Nat.le_zero.mp h);subst e;rfl
 |k+1,j+1,xs,h1,h2=>by
  show MJ (Gx ts k) ts xs=MJ (Gx ts j) ts xs;refine xU λys hs hn=>?_;have:ys.length<xs.length:=SQ hs.length_le λe=>hn (hs.eq_of_length e);exact vP ts k j ys (by omega) (by omega)
noncomputable def iY(ts:L0)(xs:ζ):Int:=Gx ts xs.length xs
theorem flo_eq(ts)(xs):iY ts xs=MJ (iY ts) ts xs:=by
 unfold iY;rw[vP ts xs.length (xs.length+1) xs (aQ _) (HD _)];refine xU (g:=Gx ts xs.length) λys hs hn=>?_;exact vP ts _ _ ys hs.length_le (aQ _)
theorem JC(ts):iY ts []=0:=rfl
theorem Zz(hx:xs≠[])(hp:p∈fparts ts xs):iY ts xs<=1+iY ts (wo xs p):=by
 rw[flo_eq,MJ,ao hx];have:=(Ge (ns:=(fparts ts xs).map λp=>iY ts (wo xs p)) (λz=>Gw _ _ (List.map_eq_nil_iff.mp z))).2 _ (dF.mpr ⟨p,hp,rfl⟩);omega
theorem Ro(hx:xs≠[])(hp:p∈fparts ts xs)(hb:∀q∈fparts ts xs,iY ts (wo xs p)<=iY ts (wo xs q)):iY ts xs=1+iY ts (wo xs p):=by
 rw[flo_eq,MJ,ao hx];rw[<-mnL_eq (m:=iY ts (wo xs p)) (dF.mpr ⟨p,hp,rfl⟩) λn hn=>?_];obtain⟨q,hq,rfl⟩:=dF.mp hn;exact hb q hq
noncomputable def sU(f:ζ->Int)(l:List ζ):List (List Key×V):=l.map λs=>(s.map bc,V.int (f s))
theorem Cv:∀{a b:ζ},(a.map (bc (β:=bg))=b.map bc)->a=b
 |[],[],_=>rfl
 |[],_::_,h=>by cases h
 |_::_,[],h=>by cases h
 |a::l,b::m,h=>by
  rw[iQ,iQ]at h;injection h with h1 h2
  injection h1 with h1
  rw[h1,Cv h2]
theorem jW(f:ζ->Int)(k):∀l:List ζ,valV (sU f l) (k.map bc)=if k∈l then some (.int (f k))else none
 |[]=>rfl
 |s::l=>by
  show valV ((s.map bc,V.int (f s))::sU f l) (k.map bc)=_;by_cases e:s=k
  ·subst e;rw[Mr rfl,au cC]
  ·rw[Mq (λz=>e (Cv z)),jW f k l];by_cases c:k∈l
   ·rw[au c,au (cY _ c)]
   ·rw[ao c,ao λz=>(cX.mp z).elim (λy=>e y.symm) c]
theorem OJ(h:s∉l):putK (sU f l) (s.map bc) (.int (f s))=sU f (l++[s]):=by
 rw[putK_new _ (by rw[jW,ao h])];unfold sU;rw[bC];rfl
theorem O9(f:ζ->Int)(l):(sU f l).length=l.length:=aF _
noncomputable def yO(hs:ζ)(p:ζ)(h:Int):ζ:=p.foldl (λl q=>l.set q.toNat h) hs
theorem uL(h):∀(p hs:ζ),(yO hs p h).length=hs.length
 |[],_=>rfl
 |q::p,hs=>by
  show(yO (hs.set q.toNat h) p h).length=_;rw[uL h p,wdy]
theorem Q7{hs:ζ}(hb:b<hs.length):(hs.set a h).getD b 0=if a=b then h else hs.getD b 0:=by
 rw[gQ,wde];by_cases e:a=b
 ·subst e;rw[au rfl,au hb,au rfl];rfl
 ·rw[ao e,ao e,gQ]
theorem xV(h):∀(p hs:ζ),b<hs.length->(∀q∈p,0<=q)->(yO hs p h).getD b 0=if(b:Int)∈p then h else hs.getD b 0
 |[],hs,_,_=>by rw[ao (by simp)];rfl
 |q::p,hs,hb,hp=>by
  show(yO (hs.set q.toNat h) p h).getD b 0=_;rw[xV h p _ (by rw[wdy];exact hb) λz hz=>hp z (cY _ hz),Q7 hb];have hq:=hp q cC;by_cases c:(b:Int)∈p
  ·rw[au c,au (cY _ c)]
  ·rw[ao c];by_cases e:q.toNat=b
   ·rw[au e,au (by rw[show(b:Int)=q by omega];exact cC)]
   ·rw[ao e,ao λz=>(cX.mp z).elim (λy=>e (by omega)) c]
structure wR(ts:L0)(n:Nat)(k:Int)(xs:ζ)(h:Int)(hs:ζ):Prop where
 len:hs.length=n
 sub:xs.Sublist (iB n)
 h0:0<=h
 sum:h+iY ts xs=k
 out:∀p:Nat,p<n->(p:Int)∉xs->0<=hs.getD p 0/\hs.getD p 0<h
 all:∀c,0<=c->c<h->∃p:Nat,p<n/\(p:Int)∉xs/\hs.getD p 0=c
 ok:∀a b:Nat,a<n->b<n->(a:Int)∉xs->(b:Int)∉xs->aq ts (a:Int) (b:Int)=true->hs.getD a 0≠hs.getD b 0
theorem wR.start(ts)(n):wR ts n (iY ts (iB n)) (iB n) 0 (al n 0):=by
 have no:∀p:Nat,p<n->(p:Int)∉iB n->False:=λp hp h=>h (lV.mpr ⟨by omega,by omega⟩);exact⟨ydh,wcb _,tK _,by omega,λp hp h=>(no p hp h).elim,λc h1 h2=>by omega,λa b ha hb h=>(no a ha h).elim⟩
theorem NQ(ts)(a b):aq ts a b=aq ts b a:=by
 unfold aq;rcases yew a b with c|c|c
 ·rw[ao (show¬b<a by omega),au (show b>a by omega),au (show a<b by omega),ao (show¬a>b by omega)]
 ·rw[c]
 ·rw[au (show b<a by omega),ao (show¬b>a by omega),ao (show¬a<b by omega),au (show a>b by omega)]
theorem yR(hp:aY n ts):∀{p:ζ},(p.Pairwise λa b=>aq ts a b=false)->∀a∈p,∀b∈p,aq ts a b=false
 |_,h,a,ha,b,hb=>by
  by_cases e:a=b
  ·subst e;rw[tied_eq hp];unfold bN;have:(a,a)∉ts:=λz=>by have:=(hp.lt _ z).2.1;dsimp only at this;omega
   simp[this]
  ·obtain⟨i,hi,rfl⟩:=Ed ha;obtain⟨j,hj,rfl⟩:=Ed hb;have hij:i≠j:=λz=>e (by subst z;rfl);rcases Nat.lt_or_gt_of_ne hij with c|c
   ·exact Wm.mp h i j hi hj c
   ·rw[NQ];exact Wm.mp h j i hj hi c
theorem wR.step(I:wR ts n k xs h hs)(hok:aY (n:Int) ts)(hx:xs≠[])(hp:p∈fparts ts xs)(hb:∀q∈fparts ts xs,iY ts (wo xs p)<=iY ts (wo xs q)):wR ts n k (wo xs p) (h+1) (yO hs p h):=by
 obtain⟨x,r,rfl⟩:∃x r,xs=x::r:=by cases xs with |nil=>exact absurd rfl hx|cons x r=>exact⟨x,r,rfl⟩
 obtain⟨ps,px⟩:=lq hp;have pr:∀q∈p,0<=q/\q<(n:Int):=λq hq=>lV.mp (I.sub.subset (ps.subset hq));have p0:∀q∈p,0<=q:=λq hq=>(pr q hq).1;have ap:=yR hok (zL hp);have gv:∀b:Nat,b<n->(yO hs p h).getD b 0=if(b:Int)∈p then h else hs.getD b 0:=λb hb=>xV h p hs (by rw[I.len];exact hb) p0
 have nx:∀b:Nat,(b:Int)∉wo (x::r) p->(b:Int)∉p->(b:Int)∉x::r:=λb h1 h2 h3=>h1 (vo.mpr ⟨h3,h2⟩);refine⟨by rw[uL];exact I.len,(nA _ _).trans I.sub,by have:=I.h0;omega,?_,λb hb hn=>?_,λc h1 h2=>?_,λa b ha hb na nb ht=>?_⟩
 ·have:=Ro hx hp hb;have:=I.sum;omega
 ·rw[gv b hb];by_cases c:(b:Int)∈p
  ·rw[au c];have:=I.h0;omega
  ·rw[ao c];have:=I.out b hb (nx b hn c);omega
 ·by_cases e:c=h
  ·have:=pr x px;refine⟨x.toNat,by omega,λz=>?_,?_⟩
   ·rw[show((x.toNat:Nat):Int)=x by omega]at z;exact(vo.mp z).2 px
   ·rw[gv _ (by omega),au (by rw[show((x.toNat:Nat):Int)=x by omega];exact px),e]
  ·obtain⟨b,b1,b2,b3⟩:=I.all c h1 (by omega);refine⟨b,b1,λz=>b2 (vo.mp z).1,?_⟩;rw[gv b b1,ao λz=>b2 (ps.subset z)];exact b3
 ·rw[gv a ha,gv b hb];by_cases ca:(a:Int)∈p
  ·by_cases cb:(b:Int)∈p
   ·rw[ap _ ca _ cb]at ht;cases ht
   ·rw[au ca,ao cb];have:=I.out b hb (nx b nb cb);omega
  ·by_cases cb:(b:Int)∈p
   ·rw[ao ca,au cb];have:=I.out a ha (nx a na ca);omega
   ·rw[ao ca,ao cb];exact I.ok a b ha hb (nx a na ca) (nx b nb cb) ht
structure vY(ts:L0)(n:Nat)(k:Int)(hs:ζ):Prop where
 len:hs.length=n
 k0:0<=k
 rg:∀p:Nat,p<n->0<=hs.getD p 0/\hs.getD p 0<k
 all:∀c,0<=c->c<k->∃p:Nat,p<n/\hs.getD p 0=c
 ok:∀a b:Nat,a<n->b<n->aq ts (a:Int) (b:Int)=true->hs.getD a 0≠hs.getD b 0
theorem wR.done(I:wR ts n k [] h hs):vY ts n k hs:=by
 have e:h=k:=by have:=I.sum;rw[JC]at this;omega
 subst e;exact⟨I.len,I.h0,λp hp=>I.out p hp (by simp),λc h1 h2=>by obtain⟨p,h3,_,h4⟩:=I.all c h1 h2;exact⟨p,h3,h4⟩,λa b ha hb ht=>I.ok a b ha hb (by simp) (by simp) ht⟩
section
variable{P:χ}{w:ω}{K:ag}{mg:L5}{base:bv}
theorem aaY{α:Type}(p:α->Bool)(a):[a].filter p=if p a=true then[a]else[]:=by
 by_cases c:p a=true
 ·rw[au c,Wk c];rfl
 ·rw[ao c,Wj c];rfl
theorem Bf(n):dG n=(iB n).map V.int:=by unfold dG iB;rw[oN];rfl
theorem keyV(xs:ζ):(xs.map (bc (β:=bg))).map kV=xs.map V.int:=by rw[oN];rfl
noncomputable abbrev KnS(H:Hp)(its:List (af×ζ)):Prop:=∀p∈its,H p.1=some (.tup (p.2.map V.int))
inductive qL(K:ag)(vs:List V)(H:Hp)(Q:VK)(E_:XK):Prop
 |mk(n:Int)(_:vs=[.int n])(_:0<=n)(_:n<=10)(_:∀(r:af) (its:List (af×ζ)) H',Same H H'->H' r=some (.lst (its.map λp=>V.ref p.1))->KnS H' its->its.map (·.2)=dD n.toNat->Q (.ref r) H')
theorem FQ{f:af}{fd:ψ}
  (F:Fun K "all_sets" "all_sets" nT f fd)(aG:mg "range"=none):
  FnOk P w K mg base CX0 1 f fd ["n"] (qL K):=by
 refine F.U4 ["n","found","place"] λcdv A outer s H vs Q E hr h=>?_;obtain⟨n,rfl,h0,h1,q⟩:=h;refine⟨_,(aO (pS 1 (pe_lst (aj (lY aA) aA))) (aO (Ay wX rfl (Ec rfl aG (aj (pv 0) aA)) (pG 2) (aZ (pS 1 (bW op_cat (pv 1) (pK ["some"] ["place"] [2] (wV (pv 1)) (pG 0) m9 (bW Us (pv 0) (lY (aj (pv 1) aA)))))))) (aZ (cu (pv 1))))),?_⟩;refine⟨szl,λp0 hp0=>?_⟩;have s0:=aP hp0 (.tup []);refine⟨szl,λl0 hl0=>?_⟩;have s1:=aP hl0 (.lst [.ref p0]);refine⟨_,rfl,n,rfl,by omega,by omega,?_⟩;refine Tt (n:=n.toNat) (λk σ H'=>∃(l:af) (its:List (af×ζ)) (b2:Option V),σ=[some (.int n),some (.ref l),b2]/\Same H H'/\H' l=some (.lst (its.map λp=>V.ref p.1))/\KnS H' its/\its.map (·.2)=dD k) ⟨l0,[(p0,[])],_,rfl,s0.trans s1,aH,λp hp=>by rw[fV.mp hp];exact s1 _ _ aH,rfl⟩ (λk σ H1 hk p=>?_) (λσ H1 p=>?_)
 ·obtain⟨l,its,b2,rfl,sm,hl,hT,hm⟩:=p;have ad:its.length=2^k:=by rw[<-lB k,<-hm,aF]
  have acn:2^k<=512:=Xz (n:=2) (by decide) (show k<=9 by omega);refine⟨_,rfl,_,rfl,l,_,rfl,SqL.of hl,λhz=>?_⟩;refine Eb (xs:=its.map λp=>V.ref p.1) (λi acc σ H2=>∃jts:List (af×ζ),acc=jts.map (λp=>V.ref p.1)/\jts.map (·.2)=((its.take i).map (·.2)).map (λs=>s++[(k:Int)])/\KnS H2 jts/\Same H1 H2/\∃o,σ=[o,some (.int (0+(k:Int)))]) ⟨[],rfl,rfl,λp hp=>(nomatch hp),Same.refl _,_,rfl⟩ (λi acc σ H2 _ p=>?_) (λi acc σ H2 hi p=>?_) hz (λi x acc σ H2 hx p=>?_) (λacc σ H2 p=>?_)
  ·obtain⟨_,_,_,_,s2,_⟩:=p;exact s2.seq (SqL.of hl)
  ·obtain⟨jts,rfl,hj,_⟩:=p;have:=gR cw hj;simp only[aF,rQ]at this;rw[aF,this];exact yq _ _
  ·obtain⟨jts,rfl,hj,hJ,s2,o,rfl⟩:=p;rw[cV]at hx;cases ex:its[i]? with
   |none=>rw[ex]at hx;cases hx
   |some v=>
    rw[ex]at hx;cases hx;have mv:=nu ex;have lv:v.2.length<=10:=by
     have:=p8 k v.2 (by rw[<-hm];exact ydt mv);omega
    refine⟨_,rfl,_,rfl,szl,λp1 hp1=>?_⟩;have s3:=aP hp1 (.tup [.int (0+(k:Int))]);refine⟨v.1,p1,_,_,rfl,rfl,(s2.trans s3) _ _ (hT v mv),aH,(by rw[aF,eZ];show _+1<=_;omega),λr H4 s4 h4=>?_⟩;have ek:(0+(k:Int))=(k:Int):=by omega
    have uO:=s3.trans s4;refine⟨jts++[(r,v.2++[(k:Int)])],by rw[bC];rfl,?_,λp hp=>?_,s2.trans uO,_,rfl⟩
    ·rw[bC,hj,qx,ex,bC,bC];rfl
    ·rcases lM.mp hp with z|z
     ·exact uO _ _ (hJ p z)
     ·rw[fV.mp z];show H4 r=some (.tup ((v.2++[(k:Int)]).map V.int));rw[bC,<-ek];exact h4
  ·intro p1 hp1;obtain⟨jts,rfl,hj,hJ,s2,o,rfl⟩:=p;rw[aF,qw,hm]at hj;have hjl:jts.length=2^k:=by
    have:=gR cw hj;rw[aF,aF,lB]at this;exact this
   have s3:=aP hp1 (.lst (jts.map λp=>V.ref p.1));refine⟨l,p1,_,_,rfl,rfl,s3 _ _ (s2 _ _ hl),aH,(by rw[aF,aF,hjl,ad,eZ];omega),λl2 hl2=>?_⟩;have s4:=aP hl2 (.lst (its.map (λp=>V.ref p.1)++jts.map λp=>V.ref p.1));have uO:=s3.trans s4;refine⟨l2,its++jts,_,rfl,sm.trans (s2.trans uO),by rw[aH,bC],λp hp=>?_,?_⟩
   ·rcases lM.mp hp with z|z
    ·exact(s2.trans uO) _ _ (hT p z)
    ·exact uO _ _ (hJ p z)
   ·rw[bC,hm,hj];rfl
 ·obtain⟨l,its,b2,rfl,sm,hl,hT,hm⟩:=p;exact⟨_,rfl,q l its H1 sm hl hT hm⟩
inductive gk(K:ag)(vs:List V)(H:Hp)(Q:VK)(E_:XK):Prop
 |mk(a b:af)(xs ys:ζ)(_:vs=[.ref a,.ref b])(_:SqT K H a (xs.map V.int))(_:SqT K H b (ys.map V.int))(_:∀r H',Same H H'->H' r=some (.tup ((wo xs ys).map V.int))->Q (.ref r) H')
theorem Fw{f:af}{fd:ψ}
  (F:Fun K "without" "without" iZ f fd)(aL:mg "tuple"=none):
  FnOk P w K mg base CX0 1 f fd ["some","part"] (gk K):=by
 refine F.eG ["some","part"] λH Q hr h=>?_;obtain⟨a,b,xs,ys,rfl,hA,hB,q⟩:=h;refine⟨_,(aZ (cu (pT JW aL (aj (pK ["place"] ["part"] [1] (Ei (pv 0)) (pG 0) (JR (iM (Fv K hr.units) (pv 0) (pv 1) (by with_unfolding_all rfl))) (pv 0)) aA)))),?_⟩;refine⟨_,rfl,a,_,rfl,hA,λhz=>?_⟩;refine M7 (xs:=xs.map V.int) (λk acc σ H'=>acc=((xs.take k).filter λo=> !decide (o∈ys)).map V.int/\Same H H'/\∃o,σ=[o,some (.ref b)]) ⟨rfl,Same.refl _,_,rfl⟩ (λk acc σ H' _ p=>p.2.1.tup hA) (λk acc σ H' hk p=>?_) hz (λk x acc σ H' hx pp=>?_) (λacc σ H' p=>?_)
 ·rw[p.1,aF];exact bR (sO _ _) (by rw[rQ];exact yq _ _)
 ·obtain⟨rfl,sm,o,rfl⟩:=pp;rw[cV]at hx;cases ex:xs[k]? with
  |none=>rw[ex]at hx;cases hx
  |some y=>
   rw[ex]at hx;cases hx;obtain⟨hk,ey⟩:=oR.mp ex;have e:=zbr (p:=λo=> !decide (o∈ys)) hk;rw[ey]at e;refine⟨_,rfl,_,rfl,b,_,_,.int y,rfl,.inr (sm.tup hB),cF.ints ys,.int _,Hz ys,rfl,(by show 0<=60;decide),_,rfl,?_⟩;rw[Ml];refine ite2 (λc=>?_) (λc=>?_)
   ·exact⟨_,rfl,by rw[e,au c,bC];rfl,sm,_,rfl⟩
   ·exact⟨by rw[e,ao c,tL],sm,_,rfl⟩
 ·intro p1 hp1;obtain⟨rfl,sm,_⟩:=p;refine⟨p1,_,rfl,.inl ⟨SqL.of aH,λl hl=>?_⟩⟩;exact q l _ (sm.trans ((aP hp1 _).trans (aP hl _))) (by rw[aH,aF,qw];rfl)
inductive yG(K:ag)(vs:List V)(H:Hp)(Q:VK)(E_:XK):Prop
 |mk(a b:af)(n x:Int)(ts:L0)(ps:ζ)(_:vs=[.ref a,.ref b,.int x])(_:lC K H a n ts)(_:SqT K H b (ps.map V.int))(_:∀H',Same H H'->Q (.bl (cZ ts ps x)) H')
theorem Qf{f:af}{fd:ψ}
  (F:Fun K "can_stand_with" "can_stand_with" zdd f fd)(D1:Dp P w K mg base 1 "has_tie" gq ["web","one","other"] (rR K))(aay:mg "any"=none):
  FnOk P w K mg base CX0 2 f fd ["web","part","place"] (yG K):=by
 refine F.eG ["web","part","place"] λH Q hr h=>?_;obtain⟨a,b,n,x,ts,ps,rfl,hW,hB,q⟩:=h;refine⟨_,(aZ (cu (pe_not (pB (RJ rfl) aay (aj (pK ["other"] ["web","place"] [0,2] (Ei (pv 1)) (pG 0) m9 (pd D1 hr (aj (pv 1) (aj (pv 0) (aj (pv 2) aA))))) aA))))),?_⟩;refine⟨_,rfl,b,_,rfl,hB,λhz=>?_⟩;refine M7 (xs:=ps.map V.int) (λk acc σ H'=>acc=(((ps.take k).map λo=>aq ts o x)).map V.bl/\Same H H'/\∃o,σ=[o,some (.ref a),some (.int x)]) ⟨rfl,Same.refl _,_,rfl⟩ (λk acc σ H' _ p=>p.2.1.tup hB) (λk acc σ H' hk p=>?_) hz (λk v acc σ H' hx pp=>?_) (λacc σ H' p=>?_)
 ·rw[p.1,aF,aF,rQ];exact yq _ _
 ·obtain⟨rfl,sm,o,rfl⟩:=pp;rw[cV]at hx;cases ex:ps[k]? with
  |none=>rw[ex]at hx;cases hx
  |some y=>
   rw[ex]at hx;cases hx;refine⟨_,rfl,_,rfl,_,rfl,a,n,y,x,ts,rfl,hW.same sm,λH2 s2=>⟨?_,sm.trans s2,_,rfl⟩⟩;rw[qx,ex,bC,bC];rfl
 ·intro p1 hp1;obtain⟨rfl,sm,_⟩:=p;refine⟨p1,_,rfl,SqL.of aH,_,rfl,?_⟩;have e:(!(((ps.take (ps.map V.int).length).map λo=>aq ts o x).any id))=cZ ts ps x:=by
   rw[aF,qw,List.any_map];rfl
  rw[e];exact q _ (sm.trans (aP hp1 _))
noncomputable abbrev yh(K:ag)(H:Hp)(its:List (af×ζ)):Prop:=∀p∈its,SqT K H p.1 (p.2.map V.int)
theorem yh.same(h:yh K H its)(e:Same H H'):yh K H' its:=λp hp=>e.tup (h p hp)
theorem abJ(xs:ζ):cutV (xs.map V.int) none (some 1)=(xs.take 1).map V.int:=by
 cases xs with
 |nil=>rfl
 |cons x r=>
  unfold cutV HT.sIx;simp
  try omega
theorem abI(xs:ζ):cutV (xs.map V.int) (some 1) none=(xs.drop 1).map V.int:=by
 cases xs with
 |nil=>rfl
 |cons x r=>
  unfold cutV HT.sIx;simp;rw[XC (by rw[aF];exact aQ _)]
inductive oY(K:ag)(vs:List V)(H:Hp)(Q:VK)(E_:XK):Prop
 |mk(a b:af)(n:Int)(ts:L0)(xs:ζ)(_:vs=[.ref a,.ref b])(_:lC K H a n ts)(_:SqT K H b (xs.map V.int))(_:xs.length<=10)(_:∀(r:af) (its:List (af×ζ)) H',Same H H'->H' r=some (.lst (its.map λp=>V.ref p.1))->yh K H' its->its.map (·.2)=fparts ts xs->H r=none->Q (.ref r) H')
theorem KY{f:af}{fd:ψ}
  (F:Fun K "first_parts" "first_parts" zdf f fd)(D1:Dp P w K mg base 2 "can_stand_with" zdd ["web","part","place"] (yG K)):
  FnOk P w K mg base CX0 3 f fd ["web","some"] (oY K):=by
 refine F.U4 ["web","some","found","place"] λcdv A outer s H vs Q E hr h=>?_;obtain⟨a,b,n,ts,xs,rfl,hW,hB,ad,q⟩:=h;refine⟨_,(aO (pS 2 (pe_lst (aj (pe_slice Iz (pv 1) po_none (po_some aM)) aA))) (aO (Ay wX rfl (Ei (pe_slice Iz (pv 1) (po_some aM) po_none)) (pG 3) (aZ (pS 2 (bW op_cat (pv 2) (pK ["part"] ["web","place"] [0,3] (wV (pv 2)) (pG 0) (JR (qz (pd D1 hr (aj (pv 1) (aj (pv 0) (aj (pv 2) aA)))))) (bW (Bx K) (pv 0) (lY (aj (pv 2) aA)))))))) (aZ (cu (pv 2))))),?_⟩;refine⟨_,rfl,_,rfl,b,_,rfl,hB,λr0 H0 s0 h0=>?_⟩;rw[abJ]at h0;refine⟨szl,λl0 hl0=>?_⟩;have s1:=aP hl0 (.lst [.ref r0]);refine⟨_,rfl,_,rfl,b,_,rfl,(s0.trans s1).tup hB,λr1 H1 s2 h1=>?_⟩;rw[abI]at h1;refine⟨r1,_,rfl,h1,λhz=>?_⟩;refine for_tup (K:=K) (a:=r1) (xs:=(xs.drop 1).map V.int) (λk σ H'=>∃(l:af) (its:List (af×ζ)) (o3:Option V),σ=[some (.ref a),some (.ref b),some (.ref l),o3]/\Same H H'/\Same H1 H'/\H' l=some (.lst (its.map λp=>V.ref p.1))/\yh K H' its/\its.map (·.2)=jQ (cZ ts) xs k/\H l=none)
  ⟨l0,[(r0,xs.take 1)],_,rfl,s0.trans (s1.trans s2),Same.refl _,s2 _ _ aH,λp hp=>by rw[fV.mp hp];exact(s1.trans s2).tup h0,rfl,s0.free hl0⟩ (λk σ H' _ p=>?_) (λk x σ H2 hx p=>?_) (λσ H2 p=>?_)
 ·obtain⟨_,_,_,_,_,s3,_⟩:=p;exact s3.tup h1
 ·obtain⟨l,its,o3,rfl,sm,s3,hl,hT,hm,Y7⟩:=p;rw[cV]at hx;cases ek:(xs.drop 1)[k]? with
  |none=>rw[ek]at hx;cases hx
  |some y=>
   rw[ek]at hx;cases hx;have hk:k<=9:=by
    have:=(oR.mp ek).1;rw[wdk]at this;omega
   have hlen2:its.length<=512:=by
    have h1:its.length=(jQ (cZ ts) xs k).length:=by rw[<-hm,aF]
    rw[h1];exact bR (Dd _ _ _) (Xz (n:=2) (by decide) hk)
   have abh:∀p∈its,p.2.length<=10:=λp hp=>by
    have hm':p.2∈jQ (cZ ts) xs k:=by rw[<-hm];exact ydt hp
    cases xs with
    |nil=>simp at ek
    |cons x r=>
     have:=(ji k _ hm').1.length_le;rw[wB,rQ]at this;rw[wB]at ad;omega
   refine⟨_,rfl,_,rfl,l,_,rfl,SqL.of hl,λhz=>?_⟩;refine Eb (xs:=its.map λp=>V.ref p.1) (λi acc σ H'=>∃jts:List (af×ζ),acc=jts.map (λp=>V.ref p.1)/\jts.map (·.2)=(((its.take i).map (·.2)).filter λp=>cZ ts p y).map (λs=>s++[y])/\yh K H' jts/\Same H2 H'/\∃o,σ=[o,some (.ref a),some (.int y)]) ⟨[],rfl,rfl,λp hp=>(nomatch hp),Same.refl _,_,rfl⟩ (λi acc σ H' _ p=>?_) (λi acc σ H' hi p=>?_) hz (λi x acc σ H4 hx p=>?_) (λacc σ H4 p=>?_)
   ·obtain⟨_,_,_,_,s2,_⟩:=p;exact s2.seq (SqL.of hl)
   ·obtain⟨jts,rfl,hj,_⟩:=p;have:=gR cw hj;rw[aF,aF]at this;rw[aF,this];refine bR (sO _ _) ?_;rw[aF,rQ];exact yq _ _
   ·obtain⟨jts,rfl,hj,hJ,s4,o,rfl⟩:=p;rw[cV]at hx;cases ex:its[i]? with
    |none=>rw[ex]at hx;cases hx
    |some v=>
     rw[ex]at hx;cases hx;have mv:=nu ex;have et:(((its.take (i+1)).map (·.2)).filter λp=>cZ ts p y)=(((its.take i).map (·.2)).filter λp=>cZ ts p y)++(if cZ ts v.2 y=true then[v.2]else[]):=by
      rw[qx,ex,bC,J5];congr 1;exact aaY _ _
     refine⟨_,rfl,_,rfl,_,rfl,a,v.1,n,y,ts,v.2,rfl,hW.same (sm.trans s4),s4.tup (hT v mv),λH5 s5=>⟨_,rfl,?_⟩⟩;refine ite2 (λc=>?_) (λc=>?_)
     ·refine⟨_,rfl,_,rfl,szl,λp1 hp1=>?_⟩;have s6:=aP hp1 (.tup [.int y]);refine⟨v.1,p1,_,_,rfl,rfl,(s4.trans (s5.trans s6)).tup (hT v mv),SqT.of aH,(by have:=abh v mv;rw[aF,eZ];show _+1<=_;omega),λr H7 s7 h7=>?_⟩;have s57:=s5.trans (s6.trans s7);refine⟨jts++[(r,v.2++[y])],by rw[bC];rfl,?_,λp hp=>?_,s4.trans s57,_,rfl⟩
      ·rw[bC,hj,et,au c,bC];rfl
      ·rcases lM.mp hp with z|z
       ·exact s57.tup (hJ p z)
       ·rw[fV.mp z];show SqT K H7 r ((v.2++[y]).map V.int);rw[bC];exact h7
     ·refine⟨jts,rfl,?_,hJ.same s5,s4.trans s5,_,rfl⟩;rw[hj,et,ao c,tL]
   ·intro p1 hp1;obtain⟨jts,rfl,hj,hJ,s4,o,rfl⟩:=p;rw[aF,qw,hm]at hj;have hjl:jts.length<=its.length:=by
     have:=gR cw hj;rw[aF,aF]at this;have e2:its.length=(jQ (cZ ts) xs k).length:=by rw[<-hm,aF]
     rw[this,e2];exact sO _ _
    have s5:=aP hp1 (.lst (jts.map λp=>V.ref p.1));refine⟨l,p1,_,_,rfl,rfl,s5 _ _ (s4 _ _ hl),aH,(by rw[aF,aF,eZ];omega),λl2 hl2=>?_⟩;have s6:=aP hl2 (.lst (its.map (λp=>V.ref p.1)++jts.map λp=>V.ref p.1));have s56:=s5.trans s6;refine⟨l2,its++jts,_,rfl,sm.trans (s4.trans s56),s3.trans (s4.trans s56),by rw[aH,bC],λp hp=>?_,?_,(sm.trans (s4.trans s5)).free hl2⟩
    ·rcases lM.mp hp with z|z
     ·exact(s4.trans s56).tup (hT p z)
     ·exact s56.tup (hJ p z)
    ·rw[bC,hm,hj,rm ek];rfl
 ·obtain⟨l,its,o3,rfl,sm,s3,hl,hT,hm,Y7⟩:=p;rw[aF,Df]at hm;exact⟨_,rfl,q l its H2 sm hl hT hm Y7⟩
theorem Same.over(s:Same H0 H)(n:H0 d=none)(e:aB d H H'):Same H0 H':=λb u h=>e _ _ (λz=>by rw[z,n]at h;cases h) (s _ _ h)
theorem jt{H:Hp}(h:H T=some (.tbl ps))(e:H a=some o)(n:∀ps,o≠.tbl ps):a≠T:=λz=>by rw[z,h]at e;cases e;exact n _ rfl
theorem wI(e:aB T H H')(h:H T=some (.tbl ps))(hx:SqT K H a xs):SqT K H' a xs:=by
 rcases hx with(q|⟨o,q⟩)|q
 ·exact .inl (.inl (e _ _ (jt h q λ_ z=>nomatch z) q))
 ·exact .inl (.inr ⟨o,e _ _ (jt h q λ_ z=>nomatch z) q⟩)
 ·exact .inr q
theorem abq(e:aB T H H')(h:H T=some (.tbl ps))(hx:SqL K H a xs):SqL K H' a xs:=by
 rcases hx with(q|⟨o,q⟩)|q
 ·exact .inl (.inl (e _ _ (jt h q λ_ z=>nomatch z) q))
 ·exact .inl (.inr ⟨o,e _ _ (jt h q λ_ z=>nomatch z) q⟩)
 ·exact .inr q
theorem Yn(e:aB T H H')(n:H T=some (.tbl tb)){ps:L0}(h:cF K H rs (ps.map pairD)):cF K H' rs (ps.map pairD):=by
 induction ps generalizing rs with
 |nil=>cases h;exact .nil
 |cons p ps ih=>
  cases h with
  |cons h tl=>
   refine .cons ?_ (ih tl);cases h with
   |tup h hd=>
    cases hd with
    |cons a1 t1=>
     cases a1;cases t1 with
     |cons a2 t2=>
      cases a2;cases t2;exact .tup (wI e n h) (.cons (.int _) (.cons (.int _) .nil))
theorem aag(h:lC K H a n ts)(e:aB T H H')(hn:H T=some (.tbl tb)):lC K H' a n ts:=by
 obtain⟨u,rs,h1,h2,h3⟩:=h;exact⟨u,rs,wI e hn h1,wI e hn h2,Yn e hn h3⟩
theorem aR.tbl(h:aR K H a n ts)(e:aB T H H')(hn:H T=some (.tbl tb)):aR K H' a n ts:=⟨aag h.web e hn,h.h0,h.h1,h.pk,h.ok⟩
theorem _root_.L2.jm.at(h:jm H T p q):∃tb,H T=some (.tbl tb):=by
 rcases h with h|⟨_,_,_,_,h,_⟩
 ·exact⟨_,h⟩
 ·exact⟨_,h⟩
theorem _root_.L2.jm.same(h:jm H T p q)(e:Same H H'):jm H' T p q:=by
 rcases h with h|⟨c,oc,vs,tq,h,h1,h2⟩
 ·exact .inl (e _ _ h)
 ·exact .inr ⟨c,oc,vs,tq,e _ _ h,e _ _ h1,h2⟩
theorem _root_.L2.jm.cJ(h:jm H T p q)(e:aB l H H')(hl:H l=some (.lst zs)):jm H' T p q:=by
 rcases h with h|⟨c,oc,vs,tq,h,h1,h2⟩
 ·exact .inl (e _ _ (ne_of h hl (λz=>nomatch z)) h)
 ·exact .inr ⟨c,oc,vs,tq,e _ _ (ne_of h hl (λz=>nomatch z)) h,e _ _ (ne_of h1 hl (λz=>nomatch z)) h1,h2⟩
noncomputable def Y5:Pos:=match defBody Tv with
 |[.Return (some (.Call _ _ [⟨_,.Lambda _ _ _ p,_⟩] _)) _]=>p
 |_=>⟨0,0,0,0⟩
noncomputable def abu:Str:=("best_part":bg)++".<locals>."++"<lambda>"
noncomputable abbrev Dw(H:Hp)(T:af):Prop:=jm H T Y5 abu
theorem YW(c:(!(!((xs.map V.int).isEmpty)))=true):xs=[]:=by
 cases xs with
 |nil=>rfl
 |cons x r=>exact absurd c (by show¬(!(!false))=true;decide)
theorem aaB(c:¬(!(!((xs.map V.int).isEmpty)))=true):xs≠[]:=λe=>by subst e;exact c rfl
inductive EY(K:ag)(vs:List V)(H:Hp)(Q:VK)(E_:XK):Prop
 |mk(a d b:af)(n:Int)(ts:L0)(xs:ζ)(kvs:List (List Key×V))(g:ζ->Int)(_:vs=[.ref a,.ref d,.ref b])(_:lC K H a n ts)(_:H d=some (.dT kvs))(_:SqT K H b (xs.map V.int))(_:xs.length<=10)(_:xs≠[]->∀p∈fparts ts xs,valV kvs ((wo xs p).map bc)=some (.int (g (wo xs p))))(_:∀H',Same H H'->Q (.int (MJ g ts xs)) H')
theorem UL{f:af}{fd:ψ}
  (F:Fun K "highest_floor" "highest_floor" fJ f fd)(D1:Dp P w K mg base 3 "first_parts" zdf ["web","some"] (oY K))(D2:Dp P w K mg base 1 "without" iZ ["some","part"] (gk K))(iJ:mg "min"=none):
  FnOk P w K mg base CX0 4 f fd ["web","floors","some"] (EY K):=by
 refine F.eG ["web","floors","some"] λH Q hr h=>?_;obtain⟨a,d,b,n,ts,xs,kvs,g,rfl,hW,hD,hB,ad,hv,q⟩:=h;refine⟨_,(aO (jq (sJ (pt_truth (pv 2) (λ_=>rfl))) (aZ (cu aM)) jN) (aZ (cu (bW sI aM (pB (yc rfl) iJ (aj (pK ["part"] ["floors","some"] [1,2] (wV (pd D1 hr (aj (pv 0) (aj (pv 2) aA)))) (pG 0) m9 (pe_dget (hu_of hr) (pv 1) (pd D2 hr (aj (pv 2) (aj (pv 0) aA))) (λ_ _=>rfl))) aA)))))),?_⟩;refine⟨_,rfl,!((xs.map V.int).isEmpty),.inr (.inl ⟨_,hB,rfl⟩),?_⟩;refine ite2 (λc=>?_) (λc=>?_)
 ·have e:=YW c;subst e;exact q H (Same.refl _)
 ·have hx:=aaB c;have hv:=hv hx;refine⟨_,rfl,_,rfl,a,b,n,ts,xs,rfl,hW,hB,ad,λr its H1 s1 hr1 hT hm hr0=>⟨r,_,rfl,SqL.of hr1,λhz=>?_⟩⟩;refine Eb (xs:=its.map λp=>V.ref p.1) (λi acc σ H'=>acc=((its.take i).map λp=>g (wo xs p.2)).map V.int/\Same H1 H'/\∃o,σ=[o,some (.ref d),some (.ref b)]) ⟨rfl,Same.refl _,_,rfl⟩ (λi acc σ H' _ p=>p.2.1.seq (SqL.of hr1)) (λi acc σ H' _ p=>?_) hz (λi x acc σ H' hx p=>?_) (λacc σ H' p=>?_)
  ·rw[p.1,aF,aF,rQ];exact yq _ _
  ·obtain⟨rfl,sm,o,rfl⟩:=p;rw[cV]at hx;cases ex:its[i]? with
   |none=>rw[ex]at hx;cases hx
   |some v=>
    rw[ex]at hx;cases hx;have mv:=nu ex;have mp:v.2∈fparts ts xs:=by rw[<-hm];exact ydt mv
    refine⟨_,rfl,_,rfl,_,rfl,b,v.1,xs,v.2,rfl,(s1.trans sm).tup hB,sm.tup (hT v mv),λrr H2 s2 h2=>?_⟩;have G:=DGet.t (k:=(wo xs v.2).map bc) ((s1.trans (sm.trans s2)) _ _ hD) (by rw[keyV];exact h2);rw[hv _ mp]at G;refine⟨d,_,rfl,G,?_,sm.trans s2,_,rfl⟩;rw[qx,ex,bC,bC];rfl
  ·intro p1 hp1;obtain⟨rfl,sm,_⟩:=p;have e:(its.take (its.map λp=>V.ref p.1).length).map (λp=>g (wo xs p.2))=(fparts ts xs).map λp=>g (wo xs p):=by
    rw[aF,qw,<-hm,oN];rfl
   rw[e];refine⟨p1,_,rfl,SqL.of aH,λz=>Gw _ _ (List.map_eq_nil_iff.mp z),λm h1 h2=>⟨_,_,rfl,rfl,?_⟩⟩;have e2:MJ g ts xs=1+m:=by rw[mnL_eq h1 h2,MJ,ao hx]
   show Q (.int (1+m)) _;rw[<-e2];exact q _ (s1.trans (sm.trans (aP hp1 _)))
inductive yJ(K:ag)(vs:List V)(H:Hp)(Q:VK)(E_:XK):Prop
 |mk(a:af)(n:Int)(ts:L0)(_:vs=[.ref a])(_:aR K H a n ts)(_:∀d H',Same H H'->H' d=some (.dT (sU (iY ts) (dD n.toNat)))->H d=none->Q (.ref d) H')
theorem Qj{f:af}{fd:ψ}
  (F:Fun K "highest_floors" "highest_floors" zdc f fd)(D1:Dp P w K mg base 1 "all_sets" nT ["n"] (qL K))(D2:Dp P w K mg base 4 "highest_floor" fJ ["web","floors","some"] (EY K)):
  FnOk P w K mg base CX0 5 f fd ["web"] (yJ K):=by
 refine F.eG ["web","floors","some"] λH Q hr h=>?_;obtain⟨a,n,ts,rfl,hA,q⟩:=h;refine⟨_,(aO (pS 1 pe_dnewT) (aO (Ay wX rfl (wV (pd D1 hr (aj (bB fU (pv 0) aM) aA))) (pG 2) (aZ (ps_dput (hu_of hr) (pv 1) (pv 2) (pd D2 hr (aj (pv 0) (aj (pv 1) (aj (pv 2) aA)))) rfl))) (aZ (cu (pv 1))))),?_⟩;intro d hd;have s0:=aP hd (.dT []);have h0:(upd H d (.dT [])) d=some (.dT (sU (iY ts) ((dD n.toNat).take 0))):=aH;generalize upd H d (.dT [])=H0 at *;obtain⟨t,rs,w1,w2,w3⟩:=id (hA.web.same s0);refine⟨_,rfl,a,_,_,.int n,rfl,rfl,w1,rfl,n,rfl,hA.h0,hA.h1,λr its H1 s1 hr1 hT hm=>⟨r,_,rfl,SqL.of hr1,λhz=>?_⟩⟩;have h1:=s1 _ _ h0;have nrd:r≠d:=ne_of hr1 h1 (λz=>nomatch z);have ad:its.length<=1024:=by
  have:its.length=2^n.toNat:=by rw[<-lB,<-hm,aF]
  rw[this];exact Xz (n:=2) (by decide) (show n.toNat<=10 by have:=hA.h1;omega)
 refine for_list (K:=K) (a:=r) (xs:=its.map λp=>V.ref p.1) (λi σ H'=>Same H H'/\H' r=some (.lst (its.map λp=>V.ref p.1))/\KnS H' its/\H' d=some (.dT (sU (iY ts) ((dD n.toNat).take i)))/\∃o,σ=[some (.ref a),some (.ref d),o])
  ⟨s0.trans s1,hr1,hT,h1,_,rfl⟩ (λi σ H' _ p=>SqL.of p.2.1) (λi x σ H' hx p=>?_) (λσ H' p=>?_)
 ·obtain⟨sm,hr2,hT2,hd2,o,rfl⟩:=p;rw[cV]at hx;cases ex:its[i]? with
  |none=>rw[ex]at hx;cases hx
  |some v=>
   rw[ex]at hx;cases hx;have mv:=nu ex;have es:(dD n.toNat)[i]? =some v.2:=by rw[<-hm,cV,ex];rfl
   have lv:v.2.length<=10:=by
    have:=p8 n.toNat v.2 (nu es);have:=hA.h1;omega
   have nv:v.2∉(dD n.toNat).take i:=λz=>by
    obtain⟨j,hj,ej⟩:=Ed z;rw[rQ]at hj;rw[List.getElem_take]at ej;have h2:=oR.mp es;obtain⟨hi,ei⟩:=h2;have:=Wm.mp (oA n.toNat) j i (by omega) hi (by omega);exact this (ej.trans ei.symm)
   refine⟨_,rfl,_,rfl,_,rfl,a,d,v.1,n,ts,v.2,_,iY ts,rfl,hA.web.same sm,hd2,SqT.of (hT2 v mv),lv,λhx p hp=>?_,λH3 s3=>?_⟩
   ·rw[jW,au];obtain⟨y,yr,ey⟩:∃y yr,v.2=y::yr:=by
     cases hv:v.2 with
     |nil=>exact absurd hv hx
     |cons y yr=>exact⟨y,yr,rfl⟩
    rw[ey]at hp es⊢;exact rE n.toNat i _ _ es (nA _ _) (Nj (lq hp).2)
   ·rw[<-flo_eq];refine⟨_,rfl,_,rfl,d,_,rfl,DPut.t (k:=v.2.map bc) (s3 _ _ hd2) (by rw[keyV];exact s3 _ _ (hT2 v mv)) ?_,?_⟩
    ·rw[O9,rQ,lB,eZ];have:2^n.toNat<=1024:=Xz (n:=2) (by decide) (show n.toNat<=10 by have:=hA.h1;omega);omega
    ·rw[OJ nv];have xd:aB d H3 (upd H3 d (.dT (sU (iY ts) ((dD n.toNat).take i++[v.2])))):=(aB.refl _ _).upd;refine⟨Same.over (sm.trans s3) hd xd,xd _ _ nrd (s3 _ _ hr2),λp hp=>xd _ _ (ne_of (s3 _ _ (hT2 p hp)) (s3 _ _ hd2) (λz=>nomatch z)) (s3 _ _ (hT2 p hp)),?_,_,rfl⟩;rw[aH,qx,es];rfl
 ·obtain⟨sm,hr2,hT2,hd2,o,rfl⟩:=p;have e:(dD n.toNat).take (its.map λp=>V.ref p.1).length=dD n.toNat:=by
   rw[aF,show its.length=(dD n.toNat).length by rw[<-hm,aF],qw]
  rw[e]at hd2;exact⟨_,rfl,q d H' sm hd2 hd⟩
inductive Fe(K:ag)(T:af)(vs:List V)(H:Hp)(Q:VK)(E_:XK):Prop
 |mk(a d b:af)(n:Int)(ts:L0)(xs:ζ)(kvs:List (List Key×V))(g:ζ->Int)(_:vs=[.ref a,.ref d,.ref b])(_:lC K H a n ts)(_:H d=some (.dT kvs))(_:SqT K H b (xs.map V.int))(_:xs≠[])(_:xs.length<=10)(_:∀p∈fparts ts xs,valV kvs ((wo xs p).map bc)=some (.int (g (wo xs p))))(_:Dw H T)(_:∀r p H',aB T H H'->Dw H' T->SqT K H' r (p.map V.int)->p∈fparts ts xs->(∀q∈fparts ts xs,g (wo xs p)<=g (wo xs q))->Q (.ref r) H')
theorem Ug:FnScope ["web","floors","some"] ["web","floors","some"] (defScope Tv):=fsc
theorem U3{f f2 c T:af}
  {fd d2:ψ}
  (F:Fun K "best_part" "best_part" Tv f fd)(hcd:fd.code=.ref c)
  (LB:Dv base mg c T)(D1:Dp P w K mg base 3 "first_parts" zdf ["web","some"] (oY K))(D2:Eh K mg "without" iZ ["some","part"] f2 d2)(G2':FnOk P w K mg base CX0 1 f2 d2 ["some","part"] (gk K))(iJ:mg "min"=none):
  FnOk P w K mg base CX0 5 f fd ["web","floors","some"] (Fe K T):=by
 have G2:FnOk P w K mg base CX0 2 f2 d2 ["some","part"] (gk K):=G2'.mono (by decide);refine F.okC hcd Ug (λvs H Q E h=>?_) (λA outer s H vs Q E hr h=>?_)
 ·obtain⟨a,d,b,n,ts,xs,kvs,g,rfl,_⟩:=h;rfl
 obtain⟨a,d,b,n,ts,xs,kvs,g,rfl,hW,hD,hB,hx,ad,hv,hL,q⟩:=h;refine⟨_,(aZ (cu (Ks (k:=2) (y:="part") (caps:=["floors","some"]) (ix:=[1,2]) LB rfl rfl hr rfl iJ (aj (pd D1 hr (aj (pv 0) (aj (pv 2) aA))) aA)
   (.cons rfl rfl (.cons rfl rfl .nil)) (λ_ _ _ _ hl=>pe_dget (hu_of hl) (pv 1) (pe_call G2 hl rfl D2.m D2.F.kp D2.b .nil pass0 (aj (pv 2) (aj (pv 0) aA))) (λ_ _=>rfl))))),?_⟩
 refine⟨_,rfl,_,rfl,a,b,n,ts,xs,rfl,hW,hB,ad,λr its H1 s1 hr1 hT hm hr0=>?_⟩;have hL1:=hL.same s1;obtain⟨tb,ht⟩:=hL1.at;have hne:its≠[]:=λz=>Gw (cZ ts) xs (by rw[<-show its.map (·.2)=fpG (cZ ts) xs from hm,z];rfl);refine⟨r,its,rfl,SqL.of hr1,hne,hL1,λj=>g (wo xs (its.getD j (0,[])).2),λ_ H'=>aB T H1 H'/\Dw H' T,λH2 e l=>⟨e,l⟩,λj H' e=>abq e.1 ht (SqL.of hr1),λj p H' hp e=>?_,λi p H' hp hb e=>?_⟩
 ·have mp:=nu hp;have mf:p.2∈fparts ts xs:=by rw[<-hm];exact ydt mp
  have ed:its.getD j (0,[])=p:=by rw[gQ,hp];rfl
  refine⟨_,rfl,_,rfl,_,rfl,b,p.1,xs,p.2,rfl,wI e.1 ht (s1.tup hB),wI e.1 ht (hT p mp),λrr H2 s2 h2=>?_⟩;have hd2:=e.1 _ _ (jt ht (s1 _ _ hD) λ_ z=>nomatch z) (s1 _ _ hD);have G:=DGet.t (k:=(wo xs p.2).map bc) (s2 _ _ hd2) (by rw[keyV];exact h2);rw[hv _ mf]at G;refine⟨d,_,rfl,G,(by show V.int _=V.int (g (wo xs (its.getD j (0,[])).2));rw[ed]),λc o n e'=>s2 _ _ (e.1 c o n e'),e.2.same s2⟩
 ·have mp:=nu hp;have ed:its.getD i (0,[])=p:=by rw[gQ,hp];rfl
  refine q p.1 p.2 H' (λc o n e'=>e.1 c o n (s1 _ _ e')) e.2 (wI e.1 ht (hT p mp)) (by rw[<-hm];exact ydt mp) λz hz=>?_;rw[<-hm]at hz;obtain⟨y,hy,rfl⟩:=dF.mp hz;obtain⟨j,hj,ej⟩:=Ed hy;have:=(hb j hj).1;have ey:its.getD j (0,[])=y:=by rw[gQ,eN hj,ej];rfl
  dsimp only at this;rw[ed,ey]at this;exact this
inductive Oh(K:ag)(T:af)(vs:List V)(H:Hp)(Q:VK)(E_:XK):Prop
 |mk(a d:af)(n:Int)(ts:L0)(_:vs=[.ref a,.ref d])(_:aR K H a n ts)(_:H d=some (.dT (sU (iY ts) (dD n.toNat))))(_:Dw H T)(_:∀r hs H',aB T H H'->Dw H' T->H' r=some (.tup (hs.map V.int))->vY ts n.toNat (iY ts (iB n.toNat)) hs->Q (.ref r) H')
theorem OD{hs:ζ}:(hs.map V.int).set i (.int x)=(hs.set i x).map V.int:=by rw[wgc]
theorem Yd:FnScope ["web","floors","hues","left","hue","part","place"] ["web","floors"] (defScope zcj):=fsc
theorem YQ{f T:af}{fd:ψ}
  (F:Fun K "hues_by_floors" "hues_by_floors" zcj f fd)(D1:Dp P w K mg base 5 "best_part" Tv ["web","floors","some"] (Fe K T))(D2:Dp P w K mg base 1 "without" iZ ["some","part"] (gk K))(aL:mg "tuple"=none)(aG:mg "range"=none):
  FnOk P w K mg base CX0 6 f fd ["web","floors"] (Oh K T):=by
 refine F.eG ["web","floors","hues","left","hue","part","place"] λH Q hr h=>?_;obtain⟨a,d,n,ts,rfl,hA,hD,hL,q⟩:=h;refine cg ?_;intro Y;refine⟨_,(aO (pS 2 (bW op_rep (pe_lst (aj aM aA)) (bB fU (pv 0) aM))) (aO (pS 3 (kI rfl rfl aL rfl aG (aj (bB fU (pv 0) aM) aA))) (aO (pS 4 aM) (aO (ps_while wX (pt_truth (pv 3) (λ_=>rfl)) (aO (pS 5 (pd D1 hr (aj (pv 0) (aj (pv 1) (aj (pv 3) aA))))) (aO (Ay wX rfl (Ei (pv 5)) (pG 6) (aZ (ps_asg (pv 4) (pg_sub (pv 2) (pv 6) set_list)))) (aO (pS 3 (pd D2 hr (aj (pv 3) (aj (pv 5) aA)))) (aZ (ps_aug (i:=4) Yd.nd rfl (gV rfl) aM ip_add)))))) (aZ (cu (pT JW aL (aj (pv 2) aA)))))))),?_⟩;refine Jr ?_;intro c5 c4 c3 c2;obtain⟨t,rs,w1,w2,w3⟩:=id hA.web;have hn0:=hA.h0;have hn1:=hA.h1;refine⟨szl,λl0 hl0=>?_⟩;have s0:=aP hl0 (.lst [.int 0]);refine⟨_,rfl,a,_,_,.int n,rfl,rfl,s0.tup w1,rfl,l0,n,_,rfl,rfl,aH,by omega,by omega,by rw[eZ];show 1*n.toNat<=_;omega,λl hl=>?_⟩;have s1:=s0.trans (aP hl (.lst (al n.toNat [V.int 0]).flatten));have e0:(al n.toNat [V.int 0]).flatten=(al n.toNat 0).map V.int:=by
  rw[List.map_replicate]
  induction n.toNat with
  |zero=>rfl
  |succ k ih=>rw[J6,TF,ih,J6];rfl
 have hl1:(upd (upd H l0 (.lst [.int 0])) l (.lst (al n.toNat [V.int 0]).flatten)) l=some (.lst ((al n.toNat (0:Int)).map V.int)):=by rw[aH,e0]
 have Y7:H l=none:=s0.free hl;dsimp only at s1 hl1⊢;generalize upd (upd H l0 (.lst [.int 0])) l (.lst (al n.toNat [V.int 0]).flatten)=H1 at *;refine⟨_,rfl,a,_,_,.int n,rfl,rfl,s1.tup w1,rfl,n,rfl,hn0,by omega,λlf hlf=>?_⟩;have s2:=aP hlf (.tup (dG n.toNat));have aaE:(upd H1 lf (.tup (dG n.toNat))) lf=some (.tup ((iB n.toNat).map V.int)):=by rw[aH,Bf]
 have hl2:=s2 _ _ hl1;have s12:=s1.trans s2;dsimp only at s12 aaE hl2⊢;generalize upd H1 lf (.tup (dG n.toNat))=H2 at *;refine⟨λm σ H'=>∃(xs hs:ζ) (h:Int) (b:af) (o5 o6:Option V),m=xs.length/\σ=[some (.ref a),some (.ref d),some (.ref l),some (.ref b),some (.int h),o5,o6]/\aB T H H'/\Dw H' T/\H' l=some (.lst (hs.map V.int))/\SqT K H' b (xs.map V.int)/\wR ts n.toNat (iY ts (iB n.toNat)) xs h hs,
  ⟨_,iB n.toNat,_,0,lf,_,_,rfl,rfl,s12.x T,hL.same s12,hl2,SqT.of aaE,wR.start ts n.toNat⟩,?_⟩
 rintro m σ H' ⟨xs,hs,h,b,o5,o6,rfl,rfl,sx,Gn,hl3,hB,HI⟩;refine⟨_,rfl,!((xs.map V.int).isEmpty),.inr (.inl ⟨_,hB,rfl⟩),?_⟩;obtain⟨tb0,ht0⟩:=hL.at;obtain⟨tb,ht⟩:=Gn.at;have nlT:l≠T:=jt ht hl3 λ_ z=>nomatch z
 refine ite2 (λc=>?_) (λc=>?_)
 ·have hx:xs≠[]:=λe=>by subst e;exact absurd c (by decide)
  have xl:xs.length<=10:=by
   have:=HI.sub.length_le;rw[Uk]at this;omega
  have hA':=hA.tbl sx ht0;have hD':=sx _ _ (jt ht0 hD λ_ z=>nomatch z) hD;refine⟨λσ' yj=>∃m',m'<xs.length/\∃(xs hs:ζ) (h:Int) (b:af) (o5 o6:Option V),m'=xs.length/\σ'=[some (.ref a),some (.ref d),some (.ref l),some (.ref b),some (.int h),o5,o6]/\aB T H yj/\Dw yj T/\yj l=some (.lst (hs.map V.int))/\SqT K yj b (xs.map V.int)/\wR ts n.toNat (iY ts (iB n.toNat)) xs h hs,λσ' yj z=>z,?_⟩;refine⟨_,rfl,_,rfl,_,rfl,a,d,b,n,ts,xs,_,iY ts,rfl,hA'.web,hD',hB,hx,xl,λp hp=>?_,Gn,λr p H3 s3 hL3 hr hp hb=>?_⟩
  ·rw[jW,au ((fu _ _).mpr ((nA _ _).trans HI.sub))]
  ·have Zc:=s3 _ _ nlT hl3;have hB3:=wI s3 ht hB;have pin:∀z∈p,0<=z/\z<(n.toNat:Int):=λz hz=>by
    obtain⟨y,yr,rfl⟩:∃y yr,xs=y::yr:=by
     cases xs with
     |nil=>exact absurd rfl hx
     |cons y yr=>exact⟨y,yr,rfl⟩
    exact lV.mp (HI.sub.subset ((lq hp).1.subset hz))
   refine⟨_,rfl,r,_,rfl,hr,λhz=>?_⟩;let mH:Nat->St->Hp->Prop:=λi σ H'=>∃o6,σ=[some (.ref a),some (.ref d),some (.ref l),some (.ref b),some (.int h),some (.ref r),o6]/\aB l H3 H'/\H' l=some (.lst ((yO hs (p.take i) h).map V.int));refine for_tup (K:=K) (a:=r) (xs:=p.map V.int) mH
    ⟨_,rfl,aB.refl _ _,Zc⟩ (λi σ H' _ z=>?_) (λi x σ H4 hx4 z=>?_) (λσ H4 z=>?_)
   ·obtain⟨_,_,z,_⟩:=z;exact z.tup Zc hr
   ·obtain⟨o6,rfl,x4,h4⟩:=z;rw[cV]at hx4;cases ex:p[i]? with
    |none=>rw[ex]at hx4;cases hx4
    |some y=>
     rw[ex]at hx4;cases hx4;have hy:=pin y (nu ex);refine⟨_,rfl,_,rfl,_,rfl,l,_,y,y.toNat,rfl,rfl,h4,?_,_,rfl,x4.upd,?_⟩
     ·unfold ixN;rw[au hy.1,au (by rw[aF,uL,HI.len];omega)]
     ·rw[aH,OD,qx,ex];unfold yO;rw[wez];rfl
   ·obtain⟨o6,rfl,x4,h4⟩:=z;rw[aF,qw]at h4;refine⟨_,rfl,_,rfl,b,r,xs,p,rfl,x4.tup Zc hB3,x4.tup Zc hr,λb2 H5 s5 h5=>?_⟩;refine⟨_,rfl,_,_,rfl,rfl,?_⟩;have xl2:aB l H3 H5:=x4.trans (s5.x l);have hL5:=(hL3.cJ x4 Zc).same s5;refine⟨_,?_,wo xs p,yO hs p h,h+1,b2,_,_,rfl,rfl,λc o nc e=>?_,hL5,s5 _ _ h4,SqT.of h5,HI.step (by rw[show((n.toNat:Nat):Int)=n by omega];exact hA.pk) hx hp hb⟩
    ·obtain⟨y,yr,rfl⟩:∃y yr,xs=y::yr:=by
      cases xs with
      |nil=>exact absurd rfl hx
      |cons y yr=>exact⟨y,yr,rfl⟩
     exact aaf (lq hp).2
    ·exact xl2 _ _ (λz=>by rw[z,Y7]at e;cases e) (s3 _ _ nc (sx _ _ nc e))
 ·have hx:xs=[]:=by
   cases xs with
   |nil=>rfl
   |cons y yr=>exact absurd rfl c
  subst hx;refine⟨_,rfl,l,_,rfl,.inl ⟨SqL.of hl3,λr hr=>?_⟩⟩;exact q r hs _ (sx.trans ((aP hr _).x T)) (Gn.same (aP hr _)) aH HI.done
inductive Og(K:ag)(T:af)(vs:List V)(H:Hp)(Q:VK)(E_:XK):Prop
 |mk(a:af)(n:Int)(ts:L0)(_:vs=[.ref a])(_:aR K H a n ts)(_:Dw H T)(_:∀r h d hs H',aB T H H'->Dw H' T->H' r=some (.tup [.int (iY ts (iB n.toNat)),.ref h,.ref d])->H' h=some (.tup (hs.map V.int))->vY ts n.toNat (iY ts (iB n.toNat)) hs->H' d=some (.dT (sU (iY ts) (dD n.toNat)))->H d=none->Q (.ref r) H')
theorem YK{f T:af}{fd:ψ}
  (F:Fun K "fewest" "fewest" uN f fd)(D1:Dp P w K mg base 7 "need_web" SJ ["thing"] (cN K))(D2:Dp P w K mg base 5 "highest_floors" zdc ["web"] (yJ K))(D3:Dp P w K mg base 6 "hues_by_floors" zcj ["web","floors"] (Oh K T))(aL:mg "tuple"=none)(aG:mg "range"=none):
  FnOk P w K mg base CX0 8 f fd ["web"] (Og K T):=by
 refine F.eG ["web","floors"] λH Q hr h=>?_;obtain⟨a,n,ts,rfl,hA,hL,q⟩:=h;refine cg ?_;intro Y;refine⟨_,(aO (wz (pd D1 hr (aj (pv 0) aA))) (aO (pS 1 (pd D2 hr (aj (pv 0) aA))) (aZ (cu (lY (aj (pe_dget (hu_of hr) (pv 1) (kI rfl rfl aL rfl aG (aj (bB fU (pv 0) aM) aA)) (λ_ _=>rfl)) (aj (pd D3 hr (aj (pv 0) (aj (pv 1) aA))) (aj (pv 1) aA)))))))),?_⟩;refine lg ?_;intro c3 c2;refine⟨_,rfl,_,yw n ts,rfl,hA.web.dv.dx,hA.ok,λH0 s0=>?_⟩;refine⟨_,rfl,a,n,ts,rfl,hA.same s0,λd H1 s1 hd1 hd0=>?_⟩;have s01:=s0.trans s1;obtain⟨t,rs,w1,w2,w3⟩:=id (hA.web.same s01);have hn0:=hA.h0;have hn1:=hA.h1;refine⟨_,rfl,_,rfl,a,_,_,.int n,rfl,rfl,w1,rfl,n,rfl,hn0,by omega,λl hl=>?_⟩;have s2:=aP hl (.tup (dG n.toNat));have hl2:(upd H1 l (.tup (dG n.toNat))) l=some (.tup ((iB n.toNat).map V.int)):=by rw[aH,Bf]
 have Pj:=s01.trans s2;have hd2:=s2 _ _ hd1;dsimp only at Pj hl2 hd2⊢;generalize upd H1 l (.tup (dG n.toNat))=H2 at *;have G:=DGet.t (k:=(iB n.toNat).map bc) hd2 (by rw[keyV];exact hl2);rw[jW,au ((fu _ _).mpr (wcb _))]at G;refine⟨d,_,rfl,G,_,rfl,_,rfl,a,d,n,ts,rfl,hA.same Pj,hd2,hL.same Pj,λh hs H3 s3 hL3 hh HO=>?_⟩;obtain⟨tb,ht⟩:=(hL.same Pj).at;have hd3:=s3 _ _ (jt ht hd2 λ_ z=>nomatch z) hd2;refine⟨_,rfl,szl,λr hr=>?_⟩;have s4:=aP hr (.tup [.int (iY ts (iB n.toNat)),.ref h,.ref d]);exact q r h d hs _ (((Pj.x T).trans s3).trans (s4.x T)) (hL3.same s4) aH (s4 _ _ hh) HO (s4 _ _ hd3) (s0.free hd0)
noncomputable def fQ(n:Nat):ζ:=al n 1
inductive tO(K:ag)(vs:List V)(H:Hp)(Q:VK)(E_:XK):Prop
 |mk(a:af)(n:Int)(ts:L0)(_:vs=[.ref a])(_:aR K H a n ts)(_:∀(va:af) (ss:List ζ) (ov:Nat) (Z:Int) (Y X:Nat->Int) H',Same H H'->JN K H' va (bw Z ov)->cH ss ts false n.toNat->Sh n.toNat ss (fQ n.toNat) ov Z Y X->Q (.ref va) H')
theorem Qd{f:af}{fd:ψ}
  (F:Fun K "value" "value" tV f fd)(D1:Dp P w K mg base 7 "need_web" SJ ["thing"] (cN K))(D2:Dp P w K mg base 9 "shares" j6 ["web","wants"] (jY K)):
  FnOk P w K mg base CX0 10 f fd ["web"] (tO K):=by
 refine F.eG ["web"] λH Q hr h=>?_;obtain⟨a,n,ts,rfl,hA,qq⟩:=h;refine⟨_,(aO (wz (pd D1 hr (aj (pv 0) aA))) (aZ (cu (bB fU (pd D2 hr (aj (pv 0) (aj (bW tZ (lY (aj aM aA)) (bB fU (pv 0) aM)) aA))) aM)))),?_⟩;have h0:=hA.h0;have h10:=hA.h1;refine⟨_,rfl,.ref a,_,rfl,hA.web.dv.dx,hA.ok,λH1 s1=>?_⟩;obtain⟨tt1,rr1,w1,w2,w3⟩:=id (hA.same s1).web;refine⟨_,rfl,szl,λp1 hp1=>?_⟩;have s2:=aP hp1 (.tup [.int 1]);refine⟨_,rfl,a,_,_,.int n,rfl,rfl,s2.tup w1,rfl,p1,n,_,rfl,rfl,SqT.of aH,(λe=>nomatch e),by omega,by omega,?_,λwa H3 s3 h3=>?_⟩
 ·show 1*n.toNat<=1000;omega
 have ew:(al n.toNat [V.int 1]).flatten=(fQ n.toNat).map V.int:=by
  unfold fQ;generalize n.toNat=k
  induction k with
  |zero=>rfl
  |succ k ih=>rw[J6,TF,ih,J6];rfl
 rw[ew]at h3;have tW:=s1.trans (s2.trans s3);refine⟨a,wa,n,ts,fQ n.toNat,rfl,hA.same tW,h3,⟨by unfold fQ;rw[ydh];omega,λx hx=>?_⟩,λr va la pa lrefs Bw ss ov Z Y X H4 s4 e1 e2 e3 e4 e5 e6 CJ hSh _ _ _=>?_⟩
 ·rw[(List.mem_replicate.mp hx).2];decide
 exact⟨r,_,_,.ref va,rfl,rfl,SqT.of e1,rfl,qq va ss ov Z Y X H4 (tW.trans s4) e2 CJ hSh⟩
end
section
variable{w:ω}{K:ag}
theorem Gv:∀(l:ζ) (f:List ζ) (q p:ζ),q∈f->p.Sublist l->(∀(a b:ζ) (x:Int),p=a++x::b->st (q++a) x=true)->q++p∈l.foldl (iV st) f
 |[],f,q,p,hq,hp,_=>by
  have:p=[]:=List.sublist_nil.mp hp;subst this;rw[tL];exact hq
 |y::l,f,q,p,hq,hp,hst=>by
  show q++p∈l.foldl (iV st) (iV st f y);cases hp with
  |cons _ h=>exact Gv l _ q p (S6 _ hq) h hst
  |cons_cons _ h=>
   rename_i p';have e:q++y::p'=(q++[y])++p':=by rw[Xx];rfl
   rw[e];refine Gv l _ (q++[y]) p' (ig _ (dF.mpr ⟨q,fD.mpr ⟨hq,?_⟩,rfl⟩)) h λa b x eb=>?_
   ·have:=hst [] p' y rfl
    rwa [tL]at this
   ·have:=hst (y::a) b x (by rw[eb];rfl);rw[Xx];exact this
theorem zM(col:Int->Int):∀(k:Nat) (xs cs:ζ),cs.length=k->(∀x∈xs,col x∈cs)->xs.Pairwise (λx y=>aq ts x y=true->col x≠col y)->iY ts xs<=(k:Int)
 |k,[],_,_,_,_=>by rw[JC];exact wen k
 |0,x::r,cs,hk,hc,_=>by
  have:cs=[]:=List.length_eq_zero_iff.mp hk;subst this;exact absurd (hc x cC) (by simp)
 |k+1,x::r,cs,hk,hc,hp=>by
  have hx:=hc x cC;have hr:=yfj.mp hp;have mp:x::r.filter (λy=>decide (col y=col x))∈fparts ts (x::r):=by
   have:=Gv (st:=cZ ts) r [[x]] [x] (r.filter λy=>decide (col y=col x)) cC yds (λa b y e=>by
    unfold cZ;rw[wca,ydy];intro o ho;have my:y∈r.filter λy=>decide (col y=col x):=by rw[e];simp
    have cy:=fW (fD.mp my).2;have ry:=(fD.mp my).1;intro t;rcases lM.mp ho with z|z
    ·rw[fV.mp z]at t;exact hr.1 y ry t cy.symm
    ·have pf:(r.filter λy=>decide (col y=col x)).Pairwise (λx y=>aq ts x y=true->col x≠col y):=hr.2.filter _;rw[e]at pf;have:=(ydk.mp pf).2.2 o z y cC t;have mo:o∈r.filter λy=>decide (col y=col x):=by rw[e];exact S6 _ z
     exact this ((fW (fD.mp mo).2).trans cy.symm))
   exact this
  have l:=Zz (by simp) mp;have ih:=zM (ts:=ts) col k (wo (x::r) (x::r.filter λy=>decide (col y=col x))) (cs.erase (col x)) (by rw[wev hx];omega) (λy hy=>by
   obtain⟨m1,m2⟩:=vo.mp hy;have ny:col y≠col x:=λz=>m2 (by
    rcases cX.mp m1 with w|w
    ·rw[w];exact cC
    ·exact cY _ (fD.mpr ⟨w,bY z⟩))
   exact(kB ny).mpr (hc y m1)) (hp.sublist (nA _ _))
  have e:((k+1:Nat):Int)=(k:Int)+1:=by omega
  omega
theorem mD.tbl(h:mD K H cO ns)(e:aB T H H')(hn:H T=some (.tbl tb)):mD K H' cO ns:=by
 rcases h with⟨o,h⟩|h
 ·exact .inl ⟨o,e _ _ (jt hn h λ_ z=>nomatch z) h⟩
 ·exact .inr h
theorem xT(h:Dw H T)(e:aB tp H H')(ht:H tp=some (.lst zs)):Dw H' T:=by
 rcases h with h|⟨c',oc,vs,tq,h1,h2,h3,h4⟩
 ·exact .inl (e _ _ (λz=>by rw[z,ht]at h;cases h) h)
 ·exact .inr ⟨c',oc,vs,tq,e _ _ (λz=>by rw[z,ht]at h1;cases h1) h1,e _ _ (λz=>by rw[z,ht]at h2;cases h2) h2,h3,h4⟩
theorem dI.tbl(h:dI K H tp cO ns b)(e:aB T H H')(hn:H T=some (.tbl tb)):dI K H' tp cO ns b:=by
 obtain⟨⟨⟨i0,r0,h1,h2,h3⟩,h4,h5⟩,i,r,h6,h7⟩:=h;have ne:tp≠T:=λz=>by rw[z,hn]at h1;cases h1
 exact⟨⟨⟨i0,r0,e _ _ ne h1,h2,h3⟩,mD.tbl h4 e hn,h5⟩,i,r,e _ _ ne h6,h7⟩
end
theorem Dt{xs:ζ}(h0:0<=i)(h1:i<(xs.length:Int)):atI (xs.map V.int) i=some (.int (xs.getD i.toNat 0)):=by
 have hk:i.toNat<xs.length:=by omega
 have ek:((i.toNat:Nat):Int)=i:=by omega
 have q:atI (xs.map V.int) ((i.toNat:Nat):Int)=some (.int (xs.getD i.toNat 0)):=atI_nat (by rw[cV,eN hk,gQ,eN hk];rfl);rw[ek]at q;exact q
section
variable{P:χ}{w:ω}{K:ag}{mg:L5}{base:bv}
theorem Qk{f:af}{fd:ψ}
  (F:Fun K "_law_e_tied" "_law_e_tied" jy f fd)(iJ:mg "min"=none)(aax:mg "max"=none):
  FnOk P w K mg base CX0 1 f fd ["web","one","other"] (rR K):=by
 refine F.eG ["web","one","other"] λH Q hr h=>?_;obtain⟨a,n,i,j,ts,rfl,hW,q⟩:=h;refine⟨_,(aZ (cu (Hx (yU hr.units) (lY (aj (pB (call_min2 rfl) iJ (aj (pv 1) (aj (pv 2) aA))) (aj (pB (call_max2 rfl) aax (aj (pv 1) (aj (pv 2) aA))) aA))) (bB fU (pv 0) aM) (by with_unfolding_all rfl)))),?_⟩;refine⟨_,rfl,_,rfl,_,_,rfl,_,rfl,_,rfl,_,_,rfl,szl,λp hp=>?_⟩;have sm:=aP hp (.tup [.int (if j<i then j else i),.int (if j>i then j else i)]);obtain⟨t,rs,h1,h2,h3⟩:=hW.same sm;refine⟨_,rfl,a,_,_,.ref t,rfl,rfl,h1,rfl,t,rs,_,pairD (if j<i then j else i,if j>i then j else i),rfl,.inr h2,h3,.tup (SqT.of aH) (.cons (.int _) (.cons (.int _) .nil)),qY ts,rfl,(by show max 0 (max 0 0)+1<=60;decide),?_⟩;rw[Du];exact q _ sm
end
end Hs
namespace oF
open PySem L2
noncomputable def jK(n:Int)(ts:L0)(i:Int):ζ:=((ai n.toNat).map λk=>(0+(k:Nat):Int)).filter λj=>aq ts i j
end oF
namespace Hs
open PySem L2 oF
section
variable{P:χ}{w:ω}{K:ag}{mg:L5}{base:bv}
inductive jZ(K:ag)(vs:List V)(H:Hp)(Q:VK)(E_:XK):Prop
 |mk(a:af)(n i:Int)(t:V)(_:vs=[.ref a,.int i])(_:SqT K H a [.int n,t])(_:0<=i)(_:i<n)(_:Q .non H)
theorem yW{f:af}{fd:ψ}
  (F:Fun K "need_place" "need_place" jx f fd)(D1:Dp P w K mg base 2 "is_place" jA ["n","thing"] (tR K)):FnOk P w K mg base CX0 3 f fd ["web","thing"] (jZ K):=by
 refine F.eG ["web","thing"] λH Q hr h=>?_;obtain⟨a,n,i,t,rfl,hS,h0,h1,q⟩:=h;refine⟨_,aZ (jq (sJ (qz (pd D1 hr (aj (bB fU (pv 0) aM) (aj (pv 1) aA))))) pss_never jN),?_⟩;refine⟨_,rfl,a,_,_,.int n,rfl,rfl,hS,rfl,_,rfl,n,.int i,.int i,rfl,.int i,_,rfl,?_⟩;have e:bO n (.int i)=true:=by show(decide (0<=i)&&decide (i<n))=true;rw[bY h0,bY h1];rfl
 rw[e];exact iteF q
inductive yI(K:ag)(vs:List V)(H:Hp)(Q:VK)(E_:XK):Prop
 |mk(a:af)(n i:Int)(ts:L0)(_:vs=[.ref a,.int i])(_:lC K H a n ts)(_:RP n ts)(_:0<=i/\i<n)(_:n<=10)(_:∀r H',Same H H'->H' r=some (.tup ((jK n ts i).map V.int))->Q (.ref r) H')
theorem Qi{f:af}{fd:ψ}
  (F:Fun K "neighbours" "neighbours" jw f fd)(D1:Dp P w K mg base 7 "need_web" SJ ["thing"] (cN K))(D2:Dp P w K mg base 3 "need_place" jx ["web","thing"] (jZ K))(D3:Dp P w K mg base 1 "has_tie" gq ["web","one","other"] (rR K))(mT:mg "tuple"=none)(mR:mg "range"=none):FnOk P w K mg base CX0 8 f fd ["web","place"] (yI K):=by
 refine F.eG ["web","place"] λH Q hr h=>?_;obtain⟨a,n,i,ts,rfl,hW,hok,hi,hn,q⟩:=h;refine⟨_,aO (wz (pd D1 hr (aj (pv 0) aA))) (aO (wz (pd D2 hr (aj (pv 0) (aj (pv 1) aA)))) (aZ (cu (pT JW mT (aj (pK ["other"] ["web","place"] [0,1] (Ec rfl mR (aj (bB fU (pv 0) aM) aA)) (pG 0) (JR (qz (pd D3 hr (aj (pv 1) (aj (pv 2) (aj (pv 0) aA)))))) (pv 0)) aA))))),?_⟩;refine⟨_,rfl,_,_,rfl,hW.dv.dx,hok,λH1 s1=>?_⟩;obtain⟨t,rs,h1,h2,h3⟩:=hW.same s1;refine⟨_,rfl,_,rfl,a,n,i,_,rfl,h1,hi.1,hi.2,?_⟩;refine⟨_,rfl,a,_,_,.int n,rfl,rfl,h1,rfl,n,rfl,by omega,by omega,?_⟩;refine Mt (λk acc σ H'=>acc=(((ai k).map λk=>(0+(k:Nat):Int)).filter λj=>aq ts i j).map V.int/\Same H1 H'/\∃o,σ=[o,some (.ref a),some (.int i)]) ⟨rfl,Same.refl _,_,rfl⟩ (λk acc σ H' hk p=>?_) (by rw[eZ];omega) (λk acc σ H' hk p=>?_) (λacc σ H' p=>?_)
 ·rw[p.1,aF];refine bR (sO _ _) ?_;simp
 ·obtain⟨rfl,sm,o,rfl⟩:=p;refine⟨_,rfl,_,rfl,_,rfl,a,n,i,_,ts,rfl,hW.same (s1.trans sm),λH2 s2=>⟨_,rfl,?_⟩⟩;have ea:((ai (k+1)).map λk=>(0+(k:Nat):Int)).filter (λj=>aq ts i j)=((ai k).map λk=>(0+(k:Nat):Int)).filter (λj=>aq ts i j)++(if aq ts i (0+(k:Int))=true then[0+(k:Int)]else[]):=by
   rw[yt,bC,J5];congr 1;show kD _ [0+(k:Int)]=_;rw[Ao];rfl
  rw[ea];refine ite2 (λc=>?_) (λc=>?_)
  ·refine⟨_,rfl,?_,sm.trans s2,_,rfl⟩;rw[au c,bC];rfl
  ·refine⟨?_,sm.trans s2,_,rfl⟩;rw[ao c,tL]
 ·intro p1 hp1;obtain⟨rfl,sm,_⟩:=p;refine⟨p1,_,rfl,.inl ⟨SqL.of aH,λl hl=>?_⟩⟩;exact q l _ (s1.trans (sm.trans ((aP hp1 _).trans (aP hl _)))) aH
end
theorem wK{α β γ:Type}{f:α->β}{g:β->γ}{l:List α}(hi:i<l.length):((l.take i).map f).map g++[g (f l[i])]=((l.take (i+1)).map f).map g:=by
 rw[qx,eN hi,bC,bC];rfl
section
variable{P:χ}{w:ω}{K:ag}{mg:L5}{base:bv}
noncomputable def aN(n no:Int)(ts aU:L0)(ys:ζ):Bool:=decide ((ys.length:Int)=n)&&(ys.all (λy=>decide (0<=y)&&decide (y<no))&&ts.all λp=>aq aU (ys.getD p.1.toNat 0) (ys.getD p.2.toNat 0))
inductive Ij(K:ag)(vs:List V)(H:Hp)(Q:VK)(E_:XK):Prop
 |mk(a o sm:af)(n no:Int)(ts aU:L0)(ys:ζ)(_:vs=[.ref a,.ref o,.ref sm])(_:aR K H a n ts)(_:aR K H o no aU)(_:SqT K H sm (ys.map V.int))(_:∀H',Same H H'->Q (.bl (aN n no ts aU ys)) H')
theorem Hj(no)(ys:ζ):(ys.map am).all (bO no)=ys.all (λy=>decide (0<=y)&&decide (y<no)):=by rw[SN];rfl
theorem Vj(ys:ζ):(V.int ((ys.map V.int).length:Int))=V.int (ys.length:Int):=by rw[aF]
theorem QX:(!decide (V.int a=V.int b))= !decide (a=b):=by
 by_cases e:a=b
 ·subst e;simp
 ·rw[gj e,gj (by intro z;injection z with z;exact e z)]
theorem Yr{f:af}{fd:ψ}
  (F:Fun K "is_way" "is_way" pA f fd)(D1:Dp P w K mg base 7 "need_web" SJ ["thing"] (cN K))(D2:Dp P w K mg base 3 "are_places" fZ ["n","things"] (oX K))(D3:Dp P w K mg base 1 "has_tie" gq ["web","one","other"] (rR K))(bU:mg "len"=none)(bH:mg "isinstance"=none)(aL:mg "tuple"=none)(kW:mg "all"=none):
  FnOk P w K mg base CX0 8 f fd ["web","other","some"] (Ij K):=by
 refine F.eG ["web","other","some"] λH Q hr h=>?_;obtain⟨a,o,sm,n,no,ts,aU,ys,rfl,hA,hO,hY,q⟩:=h;refine cg ?_;intro Y;refine⟨_,(aO (wz (pd D1 hr (aj (pv 0) aA))) (aO (wz (pd D1 hr (aj (pv 1) aA))) (aO (jq (PW.pt (pw_or (sJ (qz (pB Ss bH (aj (pv 2) (aj (pN "tuple" aL) aA))))) (pw_or (iM op_ne (pB yp bU (aj (pv 2) aA)) (bB fU (pv 0) aM)) (pw_or1 (sJ (qz (pd D2 hr (aj (bB fU (pv 1) aM) (aj (pv 2) aA))))))))) (aZ (cu pe_bl)) jN) (aZ (cu (pB (Tr rfl) kW (aj (pK ["i","j"] ["other","some"] [1,2] (Ei (bB fU (pv 0) aM)) (dY K (n:=2) rfl (jO (pG 0) (jO (pG 1) Al))) m9 (pd D3 hr (aj (pv 2) (aj (bB (Ea K) (pv 3) (pv 0)) (aj (bB (Ea K) (pv 3) (pv 1)) aA))))) aA))))))),?_⟩;refine W8 ?_;intro c4 c3 c2;refine⟨_,rfl,_,_,rfl,hA.web.dv.dx,hA.ok,λH1 s1=>?_⟩;refine⟨_,rfl,_,_,rfl,(hO.same s1).web.dv.dx,hO.ok,λH2 s2=>?_⟩;have s12:=s1.trans s2;obtain⟨ta,ra,a1,a2,a3⟩:=id (hA.same s12).web;obtain⟨to,ro,o1,o2,o3⟩:=id (hO.same s12).web;have hY2:=s12.tup hY;refine⟨_,rfl,.ref sm,"tuple",_,rfl,.inl ⟨rfl,_,hY2⟩,.inr (.inr (.inl rfl)),_,rfl,?_⟩;apply iteF;refine⟨_,rfl,sm,_,rfl,.inr hY2,λhz=>⟨_,rfl,a,_,_,.int n,rfl,rfl,a1,rfl,rfl,_,rfl,?_⟩⟩;rw[Vj,QX];refine ite2 (λc=>?_) (λc=>?_)
 ·have e:aN n no ts aU ys=false:=by unfold aN;rw[gj (by simpa using c)];rfl
  have:=q H2 s12;rw[e]at this;exact this
 have ad:(ys.length:Int)=n:=by simpa using c
 refine⟨_,rfl,o,_,_,.int no,rfl,rfl,o1,rfl,_,rfl,no,sm,_,_,rfl,hY2,cF.dx (cF.ints ys),λH3 s3=>⟨_,rfl,?_⟩⟩;rw[Hj];refine ite2 (λc2=>?_) (λc2=>?_)
 ·have e:aN n no ts aU ys=false:=by unfold aN;rw[show ys.all (λy=>decide (0<=y)&&decide (y<no))=false by simpa using c2];simp
  have:=q H3 (s12.trans s3);rw[e]at this;exact this
 have hall:ys.all (λy=>decide (0<=y)&&decide (y<no))=true:=by simpa using c2
 refine⟨_,rfl,a,_,_,.ref ta,rfl,rfl,s3.tup a1,rfl,ta,ra,rfl,s3.tup a2,λhz2=>?_⟩;have h45:=hA.len;have hra:=a3.len;rw[aF]at hra;let mH:Nat->List V->St->Hp->Prop:=λi acc σ H'=>acc=((ts.take i).map λp=>aq aU (ys.getD p.1.toNat 0) (ys.getD p.2.toNat 0)).map V.bl/\Same H3 H'/\∃o1 o2,σ=[o1,o2,some (.ref o),some (.ref sm)];refine M7 (xs:=ra) mH ⟨rfl,Same.refl _,_,_,rfl⟩ (λi acc σ H' _ p=>p.2.1.tup (s3.tup a2)) (λi acc σ H' hi p=>?_) hz2 (λi x acc σ H' hx p=>?_) (λacc σ H' p=>?_)
 ·rw[p.1];simp;omega
 ·obtain⟨rfl,sm',b1,b2,rfl⟩:=p;obtain⟨t,hi,rfl,ht⟩:=Jd a3 hx;have uO:=s3.trans sm';have hp:=hA.pk.lt ts[i] (Bb _);have hO':=(hO.same (s12.trans uO)).web;refine⟨t,_,rfl,uO.tup ht,rfl,_,_,rfl,_,_,rfl,rfl,?_⟩;refine⟨_,rfl,_,rfl,_,rfl,sm,_,_,_,rfl,rfl,uO.tup hY2,Dt hp.1 (by omega),_,rfl,_,rfl,sm,_,_,_,rfl,rfl,uO.tup hY2,Dt (by omega) (by omega),?_⟩;refine⟨o,no,_,_,aU,rfl,hO',λH5 s5=>⟨?_,sm'.trans s5,_,_,rfl⟩⟩;exact wK (f:=λp:Int×Int=>aq aU (ys.getD p.1.toNat 0) (ys.getD p.2.toNat 0)) hi
 ·intro p1 hp1;obtain⟨rfl,sm',_⟩:=p;refine⟨p1,(ts.map λp=>aq aU (ys.getD p.1.toNat 0) (ys.getD p.2.toNat 0)),rfl,SqL.of (by rw[aH,hra,qw]),?_⟩;have:=q _ (s12.trans (s3.trans (sm'.trans (aP hp1 (.lst (((ts.take ra.length).map λp=>aq aU (ys.getD p.1.toNat 0) (ys.getD p.2.toNat 0)).map V.bl))))));rw[gO];have e:aN n no ts aU ys=ts.all λp=>aq aU (ys.getD p.1.toNat 0) (ys.getD p.2.toNat 0):=by unfold aN;rw[bY ad,hall];rfl
  rw[e]at this;exact this
noncomputable def zx(aU:L0)(xs:ζ)(p:Int×Int):Prop:=aq aU (xs.getD p.1.toNat 0) (xs.getD p.2.toNat 0)=true
inductive qJ(K:ag)(vs:List V)(H:Hp)(Q:VK)(E_:XK):Prop
 |mk(cp cO o:af)(ns:ζ)(n no b:Int)(aU:L0)(_:vs=[.ref cp,.ref o,.int n])(_:dI K H cp cO ns b)(_:b<=900000000)(_:aR K H o no aU)(_:0<no)(_:0<=n)(_:n<=10)(_:∀r wb sm ts xs H',aB cp H H'->dI K H' cp cO ns (b+140)->SqT K H' r [.ref wb,.ref sm]->aR K H' wb n ts->SqT K H' sm (xs.map V.int)->(xs.length:Int)=n->(∀x∈xs,0<=x/\x<no)->(∀p∈ts,zx aU xs p)->Q (.ref r) H')
theorem Fz{f:af}{fd:ψ}
  (F:Fun K "_law_e_planted" "_law_e_planted" zdk f fd)(D1:Dp P w K mg base 2 "_law_e_dip" zdl ["cup","many"] (Bh K))(D2:Dp P w K mg base 1 "_law_e_tied" jy ["web","one","other"] (rR K))(aL:mg "tuple"=none)(aG:mg "range"=none):
  FnOk P w K mg base CX0 3 f fd ["cup","other","n"] (qJ K):=by
 refine F.eG ["cup","other","n","some","often","ties","i","j"] λH Q hr h=>?_;obtain⟨cp,cO,o,ns,n,no,b,aU,rfl,hC,hb,hO,hno,hn0,hn1,q⟩:=h;refine⟨_,(aO (pS 3 (pT JW aL (aj (pK ["place"] ["cup","other"] [0,1] (Ec rfl aG (aj (pv 2) aA)) (pG 0) m9 (pd D1 hr (aj (pv 1) (aj (bB (Ea K) (pv 2) aM) aA)))) aA))) (aO (pS 4 (bW sI aM (pd D1 hr (aj (pv 0) (aj aM aA))))) (aO (pS 5 (pe_lst aA)) (aO (Ay wX rfl (Ec rfl aG (aj (pv 2) aA)) (pG 6) (aZ (Ay wX rfl (pi_range2 rfl aG (aj (bW sI (pv 6) aM) (aj (pv 2) aA))) (pG 7) (aZ (jq (PW.pt (pw_and (qz (pd D2 hr (aj (pv 1) (aj (bB fU (pv 3) (pv 6)) (aj (bB fU (pv 3) (pv 7)) aA))))) (pw_and1 (iM op_lt (pd D1 hr (aj (pv 0) (aj aM aA))) (pv 4))))) (aZ (wz (pe_bm Te wbe wbf mt_append (pv 5) (aj (lY (aj (pv 6) (aj (pv 7) aA))) aA)))) jN))))) (aZ (cu (lY (aj (lY (aj (pv 2) (aj (pT JW aL (aj (pv 5) aA)) aA))) (aj (pv 3) aA))))))))),?_⟩;have Zh:=hO.h1;obtain⟨z0,hz0⟩:=hC.lst;refine⟨_,rfl,n,rfl,by omega,by omega,?_⟩;refine Mt (n:=n.toNat) (λi acc σ H'=>(∃xs:ζ,acc=xs.map V.int/\xs.length=i/\∀x∈xs,0<=x/\x<no)/\aB cp H H'/\dI K H' cp cO ns (b+(i:Int))/\∃o1,σ=[o1,some (.ref cp),some (.ref o)]) ⟨⟨[],rfl,rfl,λx h=>(nomatch h)⟩,aB.refl _ _,hC.mono (by omega),_,rfl⟩ (λi acc σ H' hi p=>?_) (by rw[eZ];omega) (λi acc σ H' hi p=>?_) (λacc σ H' p=>?_)
 ·obtain⟨⟨xs,rfl,h1,_⟩,_⟩:=p;rw[aF];omega
 ·obtain⟨⟨xs,rfl,h1,h2⟩,x,c,o1,rfl⟩:=p;obtain⟨to,ro,w1,w2,w3⟩:=id (hO.cJ x hz0).web;refine⟨_,rfl,_,rfl,o,_,_,.int no,rfl,rfl,w1,rfl,cp,cO,ns,no,_,rfl,c,by omega,hno,by omega,λd H2 hd0 hd1 x2 c2=>⟨⟨xs++[d],by rw[bC];rfl,by simp[h1],λy hy=>?_⟩,x.trans x2,by rw[show b+((i+1:Nat):Int)=b+(i:Int)+1 by omega];exact c2,_,rfl⟩⟩;rcases lM.mp hy with hy|hy
  ·exact h2 y hy
  ·rw[fV.mp hy];exact⟨hd0,hd1⟩
 ·intro p1 hp1;obtain⟨⟨xs,rfl,h1,h2⟩,x1,c1,_⟩:=p;have s2:=aP hp1 (.lst (xs.map V.int));refine⟨p1,_,rfl,.inl ⟨SqL.of aH,λsm hsm=>?_⟩⟩;have s3:=aP hsm (.tup (xs.map V.int));have s23:=s2.trans s3;have hX:SqT K (upd (upd H' p1 (.lst (xs.map V.int))) sm (.tup (xs.map V.int))) sm (xs.map V.int):=SqT.of aH;have x3:=x1.trans (s23.x cp);have c3:=c1.same s23;generalize (upd (upd H' p1 (.lst (xs.map V.int))) sm (.tup (xs.map V.int)))=H3 at *;refine⟨_,rfl,cp,cO,ns,6,_,rfl,c3,by omega,by decide,by decide,λof H4 ho0 ho1 x4 c4=>⟨_,_,rfl,rfl,?_⟩⟩;obtain⟨z3,hz3⟩:=c3.lst;obtain⟨z4,Vq⟩:=c4.lst;have hX4:=x4.tup hz3 hX;have x04:=x3.trans x4;refine⟨szl,λtl htl=>?_⟩;have s5:=aP htl (.lst []);have YT:tl≠cp:=BR Vq htl;have tl0:H tl=none:=x04.free YT htl;have x05:=x04.trans (s5.x cp);have c5:=c4.same s5;have hX5:=s5.tup hX4;have hT5:(upd H4 tl (.lst [])) tl=some (.lst []):=aH;generalize (upd H4 tl (.lst []))=H5 at *;refine⟨_,rfl,n,rfl,by omega,by omega,?_⟩;refine Tt (n:=n.toNat) (λi σ H'=>aB cp H H'/\dI K H' cp cO ns (b+11+10*(i:Int))/\SqT K H' sm (xs.map V.int)/\dM K H' tl (rows tt n i) (zx aU xs)/\∃a6 a7,σ=[some (.ref cp),some (.ref o),some (.int n),some (.ref sm),some (.int (1+of)),some (.ref tl),a6,a7])
   ⟨x05,c5.mono (by omega),hX5,dM.nil hT5,_,_,rfl⟩ (λi σ H' hi p=>?_) (λσ H' p=>?_)
  ·obtain⟨x,c,Tn,tl1,a6,a7,rfl⟩:=p;refine⟨_,rfl,_,_,rfl,rfl,_,rfl,_,_,rfl,⟨by omega,by omega,by omega,by omega⟩,?_⟩;refine Tt (n:=(n-(0+(i:Int)+1)).toNat) (λk σ H'=>aB cp H H'/\dI K H' cp cO ns (b+11+10*(i:Int)+(k:Int))/\SqT K H' sm (xs.map V.int)/\dM K H' tl (rows tt n i++row tt (0+(i:Int)) k) (zx aU xs)/\∃a7,σ=[some (.ref cp),some (.ref o),some (.int n),some (.ref sm),some (.int (1+of)),some (.ref tl),some (.int (0+(i:Int))),a7])
    ⟨x,c.mono (by omega),Tn,by rw[show row tt (0+(i:Int)) 0=[]from rfl,tL];exact tl1,_,rfl⟩ (λk σ H' hk p=>?_) (λσ H' p=>?_)
   ·obtain⟨x,c,Tn,tl1,a7,rfl⟩:=p;obtain⟨zs,hz⟩:=c.lst;have hOx:=(hO.cJ x hz0).web;have er:rows tt n i++row tt (0+(i:Int)) (k+1)=(rows tt n i++row tt (0+(i:Int)) k)++[(0+(i:Int),0+(i:Int)+1+(k:Int))]:=by rw[uP,au (show tt _ _=true from rfl),Xx]
    have ec:b+11+10*(i:Int)+((k+1:Nat):Int)=b+11+10*(i:Int)+(k:Int)+1:=by omega
    rw[er,ec];refine⟨_,rfl,_,rfl,_,rfl,sm,_,_,_,rfl,rfl,Tn,Dt (by omega) (by omega),_,rfl,_,rfl,sm,_,_,_,rfl,rfl,Tn,Dt (by omega) (by omega),o,no,_,_,aU,rfl,hOx,λH2 s2=>⟨_,rfl,?_⟩⟩;refine ite2 (λcc=>?_) (λcc=>?_)
    ·refine⟨_,rfl,cp,cO,ns,6,_,rfl,c.same s2,by omega,by decide,by decide,λd H3 hd0 hd1 x3 c3=>⟨_,rfl,_,_,rfl,rfl,_,rfl,?_⟩⟩;have tl3:=(tl1.same s2).step x3 (s2 _ _ hz) YT;have hX3:=x3.tup (s2 _ _ hz) (s2.tup Tn);refine ite2 (λc2=>?_) (λc2=>?_)
     ·obtain⟨rs,ts,h1,h2,h3,h4⟩:=tl3;have hl:=sub_len hn1 (by omega) h3;have hrl:=h2.len;rw[aF]at hrl;refine⟨_,rfl,.inl ⟨rfl,_,SqL.of h1⟩,_,rfl,_,rfl,szl,λp hp=>?_⟩;have s4:=aP hp (.tup [.int (0+(i:Int)),.int (0+(i:Int)+1+(k:Int))]);refine⟨tl,rs,_,rfl,rfl,s4 _ _ h1,(by rw[eZ];omega),?_⟩;have xw:aB tl (upd H3 p (.tup [.int (0+(i:Int)),.int (0+(i:Int)+1+(k:Int))])) (upd (upd H3 p (.tup [.int (0+(i:Int)),.int (0+(i:Int)+1+(k:Int))])) tl (.lst (rs++[.ref p]))):=(aB.refl _ _).upd;refine⟨λq o hq e=>?_,(c3.same s4).other xw (s4 _ _ h1) YT.symm,xw.tup (s4 _ _ h1) (s4.tup hX3),dM.push (s4 _ _ h1) (h2.same s4) h3 h4 (SqT.of aH) cc,_,rfl⟩;have nq:q≠tl:=λz=>by rw[z,tl0]at e;cases e
      exact xw _ _ nq (s4 _ _ (x3 _ _ hq (s2 _ _ (x _ _ hq e))))
     ·exact⟨(x.trans (s2.x _)).trans x3,c3,hX3,tl3.mono (yee _ _),_,rfl⟩
    ·exact⟨x.trans (s2.x _),(c.same s2).mono (by omega),s2.tup Tn,(tl1.same s2).mono (yee _ _),_,rfl⟩
   ·obtain⟨x,c,Tn,tl1,a7,rfl⟩:=p;rw[<-jf]at tl1;exact⟨x,c.mono (by omega),Tn,tl1,_,_,rfl⟩
  ·obtain⟨x,c,Tn,⟨rs,ts,h1',h2',h3,h4⟩,a6,a7,rfl⟩:=p;refine⟨_,rfl,_,rfl,tl,rs,rfl,.inl ⟨SqL.of h1',λt ht=>⟨szl,λwb hwb=>⟨_,rfl,szl,λr hr'=>?_⟩⟩⟩⟩;have s3:=aP ht (.tup rs);have s4:=aP hwb (.tup [.int n,.ref t]);have s5:=aP hr' (.tup [.ref wb,.ref sm]);have Ph:=s3.trans (s4.trans s5);obtain⟨g1,g2⟩:=nF hn0 hn1 h3;exact q r wb sm ts xs _ (x.trans (Ph.x _)) ((c.same Ph).mono (by omega)) (SqT.of aH) ⟨⟨t,rs,SqT.of (s5 _ _ aH),SqT.of ((s4.trans s5) _ _ aH),h2'.same Ph⟩,hn0,hn1,g1,g2⟩ (Ph.tup Tn) (by omega) h2 h4
theorem xQ:z∈jK n ts y↔(0<=z/\z<n)/\aq ts y z=true:=by
 unfold jK;rw[fD,dF];constructor
 ·rintro⟨⟨k,hk,rfl⟩,h⟩;have:=qC.mp hk;exact⟨⟨by omega,by omega⟩,h⟩
 ·rintro⟨⟨a,b⟩,h⟩;exact⟨⟨z.toNat,qC.mpr (by omega),by omega⟩,h⟩
theorem iK(ts)(i j):aq ts i j=aq ts j i:=by
 unfold aq;congr 2;rcases yew i j with c|c|c
 ·rw[ao (by omega),au (show j>i by omega),au c,ao (show¬i>j by omega)]
 ·subst c;rfl
 ·rw[au c,ao (show¬j>i by omega),ao (by omega),au (show i>j by omega)]
theorem Dj:∀{l:ζ}{xs:List V},cF K H xs (l.map am)->xs=l.map V.int
 |[],_,h=>by cases h;rfl
 |i::l,_,h=>by
  cases h with
  |cons a t=>rw[Dj t];cases a;rfl
noncomputable def RT(K:ag)(H:Hp):List (af×af)->NK.SK->Prop:=bI λi p=>SqT K H i.1 [.int p.1,.ref i.2]/\SqT K H i.2 (p.2.map V.int)
theorem Ig(h:DV K H (.ref b) (NK.toD k)):∃its:List (af×af),SqT K H b (its.map λi=>V.ref i.1)/\RT K H its k:=by
 have go:∀{k:NK.SK}{xs:List V},cF K H xs (k.map NK.xJ)->∃its:List (af×af),xs=its.map (λi=>V.ref i.1)/\RT K H its k:=λ{k}=>by
  induction k with
  |nil=>intro xs h;cases h;exact⟨[],rfl,.nil⟩
  |cons p k ih=>
   intro xs h;cases h with
   |cons a t=>
    obtain⟨its,rfl,r⟩:=ih t;unfold NK.xJ at a;cases a with
    | @tup a ys _ hs ht=>
     cases ht with
     |cons h1 t1=>
      cases h1;cases t1 with
      |cons h2 t2=>
       cases t2;cases h2 with
       | @tup q zs _ hq hz=>
        have:=Dj hz;subst this;exact⟨(a,q)::its,rfl,.cons ⟨hs,hq⟩ r⟩
 unfold NK.toD at h;cases h with
 | @tup a xs _ hs ht=>
  obtain⟨its,rfl,r⟩:=go ht;exact⟨its,hs,r⟩
theorem W4(h:SqT K H b (its.map λi=>V.ref i.1))(r:RT K H its k):DV K H (.ref b) (NK.toD k):=by
 refine .tup h ?_;clear h
 induction r with
 |nil=>exact .nil
 |cons a _ ih=>exact .cons (.tup a.1 (.cons (.int _) (.cons (.tup a.2 (cF.ints _)) .nil))) ih
theorem RT.same(h:RT K H its k)(e:Same H H'):RT K H' its k:=Paired.mapP h λ_ _ z=>⟨e.tup z.1,e.tup z.2⟩
theorem RT.cJ(h:RT K H its k)(e:aB t H H')(hn:H t=some (.lst zs)):RT K H' its k:=Paired.mapP h λ_ _ z=>⟨e.tup hn z.1,e.tup hn z.2⟩
noncomputable def Rp(ln lf d:af):List (bg×V):=[("near",.ref ln),("far",.ref lf),("led_nowhere",.ref d)]
structure SeA(K:ag)(C:af)(H:Hp)(o dx ln lf d:af)(nn ff:η)(n no:Int)(ts aU:L0):Prop where
 at_:H o=some (.ins C dx (Rp ln lf d))
 near:SqL K H ln (nn.map V.ref)
 nlen:(nn.length:Int)=n
 ntup:∀(i:Nat) a,nn[i]? =some a->SqT K H a ((jK n ts (i:Int)).map V.int)
 far:SqL K H lf (ff.map V.ref)
 ZC:(ff.length:Int)=no
 Zy:∀(i:Nat) a,ff[i]? =some a->SqT K H a ((jK no aU (i:Int)).map V.int)
noncomputable def Tq(K:ag)(C:af)(H:Hp)(o d:af)(n no:Int)(ts aU:L0):Prop:=∃dx ln lf nn ff,SeA K C H o dx ln lf d nn ff n no ts aU
theorem Tq.same(h:Tq K C H o d n no ts aU)(e:Same H H'):Tq K C H' o d n no ts aU:=by
 obtain⟨dx,ln,lf,nn,ff,h⟩:=h;exact⟨dx,ln,lf,nn,ff,e _ _ h.at_,e.seq h.near,h.nlen,λi a z=>e.tup (h.ntup i a z),e.seq h.far,h.ZC,λi a z=>e.tup (h.Zy i a z)⟩
theorem Ii{φ:bv->Prop}(ha:H a=some (.ext φ))(e:∀c o,c≠a->H c=some o->H' c=some o)(h:SqL K H b xs):SqL K H' b xs:=by
 rcases h with(q|⟨o,q⟩)|q
 ·exact .inl (.inl (e _ _ (λz=>by rw[z,ha]at q;cases q) q))
 ·exact .inl (.inr ⟨o,e _ _ (λz=>by rw[z,ha]at q;cases q) q⟩)
 ·exact .inr q
theorem Tq.but{φ:bv->Prop}(h:Tq K C H o d n no ts aU)(ha:H d=some (.ext φ))(e:∀c o,c≠d->H c=some o->H' c=some o):Tq K C H' o d n no ts aU:=by
 obtain⟨dx,ln,lf,nn,ff,h⟩:=h;exact⟨dx,ln,lf,nn,ff,e _ _ (λz=>by have:=h.at_;rw[z,ha]at this;cases this) h.at_,Ii ha e h.near,h.nlen,λi a z=>lO ha e (h.ntup i a z),Ii ha e h.far,h.ZC,λi a z=>lO ha e (h.Zy i a z)⟩
theorem RM{as:η}(h0:0<=i)(h1:i<(as.length:Int)):∃a,as[i.toNat]? =some a/\atI (as.map V.ref) i=some (.ref a):=by
 have hi:i.toNat<as.length:=by omega
 refine⟨as[i.toNat],eN hi,?_⟩;have z:atI (as.map V.ref) ((i.toNat:Nat):Int)=some (.ref as[i.toNat]):=atI_nat (by rw[cV,eN hi];rfl)
 rwa [show((i.toNat:Nat):Int)=i by omega]at z
inductive xr(K:ag)(vs:List V)(H:Hp)(Q:VK)(E_:XK):Prop
 |mk(b:af)(k:NK.SK)(_:vs=[.ref b])(_:DV K H (.ref b) (NK.toD k))(_:k.length<=10)(_:∀H',Same H H'->Q (.bl (k.all λp=> !p.2.isEmpty)) H')
theorem YS{f:af}{fd:ψ}
  (F:Fun K "are_left_open" "are_left_open" zbw f fd)(kW:mg "all"=none)(bU:mg "len"=none):
  FnOk P w K mg base CX0 1 f fd ["state"] (xr K):=by
 refine F.eG ["state"] λH Q hr h=>?_;obtain⟨b,k,rfl,hk,hl,qq⟩:=h;refine⟨_,(aZ (cu (pB (Tr rfl) kW (aj (pK ["place","images"] [] [] (Ei (pv 0)) (dY K (n:=2) rfl (jO (pG 0) (jO (pG 1) Al))) m9 (Hx op_gt (pB (yd K) bU (aj (pv 1) aA)) aM)) aA)))),?_⟩;obtain⟨its,h1,h2⟩:=Ig hk;have ad:=Paired.jh h2;refine⟨_,rfl,b,_,rfl,h1,λhz=>?_⟩;refine M7 (xs:=its.map λi=>V.ref i.1) (λi acc σ H'=>acc=((k.take i).map λp=> !p.2.isEmpty).map V.bl/\H'=H/\∃o1 o2,σ=[o1,o2]) ⟨rfl,rfl,_,_,rfl⟩ (λi acc σ H' _ p=>by rw[p.2.1];exact h1) (λi acc σ H' hi p=>by rw[p.1,aF,aF,rQ];exact yq _ _) hz (λi x acc σ H' hx p=>?_) (λacc σ H' p=>?_)
 ·obtain⟨rfl,rfl,o1,o2,rfl⟩:=p;rw[cV]at hx;cases ex:its[i]? with
  |none=>rw[ex]at hx;cases hx
  |some y=>
   rw[ex]at hx;cases hx;obtain⟨p,hp,r1,r2⟩:=Paired.at_ h2 ex;refine⟨y.1,_,rfl,r1,rfl,_,_,rfl,_,_,rfl,rfl,?_⟩;refine⟨_,rfl,y.2,_,rfl,.inr r2,λ_=>?_⟩;refine⟨_,_,rfl,rfl,?_,rfl,_,_,rfl⟩;have eb:decide ((0:Int)<(((p.2.map V.int).length:Nat):Int))= !p.2.isEmpty:=by
    rw[aF];cases p.2 with
    |nil=>rfl
    |cons z zs=>exact bY (by simp only[wB];omega)
   show _++[V.bl (decide ((0:Int)<(((p.2.map V.int).length:Nat):Int)))]=_;rw[eb,qx,hp,bC,bC];rfl
 ·intro p1 hp1;obtain⟨rfl,rfl,_⟩:=p;rw[aF,ad,qw];refine⟨p1,_,rfl,SqL.of aH,?_⟩;have e:(k.map λp=> !p.2.isEmpty).all id=k.all λp=> !p.2.isEmpty:=by rw[SN];rfl
  rw[e];exact qq _ (aP hp1 _)
inductive Bj(K:ag)(vs:List V)(H:Hp)(Q:VK)(E_:XK):Prop
 |mk(p q:af)(i:Int)(l:ζ)(_:vs=[.ref p])(_:SqT K H p [.int i,.ref q])(_:SqT K H q (l.map V.int))(_:Q (.int (l.length:Int)) H)
theorem YM{f:af}{fd:ψ}
  (F:Fun K "count_images" "count_images" zcg f fd)(bU:mg "len"=none):
  FnOk P w K mg base CX0 1 f fd ["open_place"] (Bj K):=by
 refine F.eG ["open_place"] λH Q hr h=>?_;obtain⟨p,q,i,l,rfl,hp,hq,qq⟩:=h;refine⟨_,(aZ (cu (pB yp bU (aj (bB fU (pv 0) aM) aA)))),?_⟩;refine⟨_,rfl,p,_,_,.ref q,rfl,rfl,hp,rfl,q,_,rfl,.inr hq,λ_=>?_⟩;rw[aF];exact qq
inductive Ew(K:ag)(C:af)(vs:List V)(H:Hp)(Q:VK)(E_:XK):Prop
 |mk(o d q:af)(n no img:Int)(ts aU:L0)(l:ζ)(_:vs=[.ref o,.ref q,.int img])(_:Tq K C H o d n no ts aU)(_:SqT K H q (l.map V.int))(_:0<=img)(_:img<no)(_:∀y∈l,0<=y/\y<no)(_:∀r H',Same H H'->H' r=some (.tup ((l.filter λy=>aq aU img y).map V.int))->Q (.ref r) H')
theorem Uy{f C:af}{fd:ψ}
  (F:Fun K "images_left" "Search.images_left" zcd f fd)
  (Cc:Cls K C)(eF:NoAttr K C "near")(iG:NoAttr K C "far")(aK:NoAttr K C "led_nowhere")(aL:mg "tuple"=none):
  FnOk P w K mg base CX0 1 f fd ["self","images","image"] (Ew K C):=by
 refine F.eG ["self","images","image"] λH Q hr h=>?_;obtain⟨o,d,q,n,no,img,ts,aU,l,rfl,⟨dx,ln,lf,nn,ff,hS⟩,hq,i0,i1,hl,qq⟩:=h;refine⟨_,(aZ (cu (pT JW aL (aj (pK ["other"] ["self","image"] [0,2] (Ei (pv 1)) (pG 0) (JR (iM (iD K hr.units) (pv 0) (bB (gK K) (Jc K (pv 1) rfl) (pv 2)) (by with_unfolding_all rfl))) (pv 0)) aA)))),?_⟩;have fl:=hS.ZC;obtain⟨fa,f1,f2⟩:=RM i0 (show img<(ff.length:Int) by omega);have ft:=hS.Zy _ _ f1;rw[show((img.toNat:Nat):Int)=img by omega]at ft;refine⟨_,rfl,q,_,rfl,hq,λhz=>?_⟩;refine M7 (xs:=l.map V.int) (λi acc σ H'=>acc=((l.take i).filter λy=>aq aU img y).map V.int/\H'=H/\∃o1,σ=[o1,some (.ref o),some (.int img)]) ⟨rfl,rfl,_,rfl⟩ (λi acc σ H' _ p=>by rw[p.2.1];exact hq) (λi acc σ H' hi p=>?_) hz (λi x acc σ H' hx p=>?_) (λacc σ H' p=>?_)
 ·rw[p.1,aF];exact bR (sO _ _) (by rw[rQ];exact yq _ _)
 ·obtain⟨rfl,rfl,o1,rfl⟩:=p;rw[cV]at hx;cases ex:l[i]? with
  |none=>rw[ex]at hx;cases hx
  |some y=>
   rw[ex]at hx;cases hx;have hy:=hl y (nu ex);refine⟨_,rfl,_,rfl,o,C,dx,_,_,rfl,hS.at_,Cc,iG,rfl,_,rfl,lf,_,_,.ref fa,rfl,rfl,hS.far,f2,fa,_,_,.int y,rfl,.inr ft,cF.ints _,.int _,Hz _,rfl,(by show 0<=60;decide),_,rfl,?_⟩;have em:((jK no aU img).map am).any (λd=>ar d (.int y))=aq aU img y:=by
    rw[Ml,sS,was,xQ];exact⟨λz=>z.2,λz=>⟨hy,z⟩⟩
   rw[em];have go:(l.take (i+1)).filter (λy=>aq aU img y)=(l.take i).filter (λy=>aq aU img y)++(if aq aU img y=true then[y]else[]):=by
    rw[qx,ex,J5];congr 1;show kD _ [y]=_;rw[Ao];rfl
   refine ite2 (λc=>?_) (λc=>?_)
   ·exact⟨_,rfl,by rw[go,au c,bC];rfl,rfl,_,rfl⟩
   ·exact⟨by rw[go,ao c,tL],rfl,_,rfl⟩
 ·intro p1 hp1;obtain⟨rfl,rfl,_⟩:=p;rw[aF,qw];refine⟨p1,_,rfl,.inl ⟨SqL.of aH,λr hr'=>?_⟩⟩;exact qq r _ ((aP hp1 _).trans (aP hr' _)) aH
theorem RL{k:NK.SK}(h:k[i]? =some p):Sw.sG T U (k.take (i+1)) l img=Sw.sG T U (k.take i) l img++(if T l p.1=true then[(p.1,p.2.filter λy=>U img y)]else if p.1=l then[]else[p]):=by
 unfold Sw.sG;rw[qx,h,List.filterMap_append];congr 1;show List.filterMap _ [p]=_;rw[yeg];by_cases c:T l p.1=true
 ·rw[au c,au c];rfl
 ·rw[ao c,ao c];by_cases c2:p.1=l
  ·rw[au c2,au c2];rfl
  ·rw[ao c2,ao c2];rfl
inductive qI(K:ag)(C:af)(vs:List V)(H:Hp)(Q:VK)(E_:XK):Prop
 |mk(o d b:af)(n no l img:Int)(ts aU:L0)(k:NK.SK)(_:vs=[.ref o,.ref b,.int l,.int img])(_:Tq K C H o d n no ts aU)(_:DV K H (.ref b) (NK.toD k))(_:k.length<=10)(_:0<=l/\l<n)(_:0<=img/\img<no)(_:Sw.SOk n no k)(_:∀r H',Same H H'->DV K H' (.ref r) (NK.toD (Sw.sG (aq ts) (aq aU) k l img))->Q (.ref r) H')
theorem Uz{f f1 C:af}
  {fd d1:ψ}
  (F:Fun K "state_behind" "Search.state_behind" zaw f fd)
  (Cc:Cls K C)(eF:NoAttr K C "near")(iG:NoAttr K C "far")(aK:NoAttr K C "led_nowhere")(D1:sH K C "images_left" "Search.images_left" zcd ["self","images","image"] f1 d1)(G1:FnOk P w K mg base CX0 1 f1 d1 ["self","images","image"] (Ew K C))(aL:mg "tuple"=none):
  FnOk P w K mg base CX0 2 f fd ["self","state","led","image"] (qI K C):=by
 refine F.eG ["self","state","led","image","rest","place","images"] λH Q hr h=>?_;obtain⟨o,d,b,n,no,l,img,ts,aU,k,rfl,hSV,hk,Zd,hl,hi,hO,qq⟩:=h;refine cg ?_;intro Y;refine⟨_,(aO (pS 4 (pe_lst aA)) (aO (Ay wX rfl (Ei (pv 1)) (pg_tup rfl (jO (pG 5) (jO (pG 6) Al))) (aZ (jq (iM (yU hr.units) (pv 5) (bB jV (oM (pv 0) rfl) (pv 2)) (by with_unfolding_all rfl)) (aZ (wz (pe_bm Te wbe wbf mt_append (pv 4) (aj (lY (aj (pv 5) (aj (Hy (pv 0) Cc D1.m G1 hr D1.b .nil pass0 (aj (pv 6) (aj (pv 3) aA))) aA))) aA)))) (aZ (jq (iM op_ne (pv 5) (pv 2)) (aZ (wz (pe_bm Te wbe wbf mt_append (pv 4) (aj (lY (aj (pv 5) (aj (pv 6) aA))) aA)))) jN))))) (aZ (cu (pT JW aL (aj (pv 4) aA)))))),?_⟩;refine lg ?_;intro c3 c2;obtain⟨its,h1,h2⟩:=Ig hk;have ad:=Paired.jh h2;refine⟨szl,λrl hrl=>?_⟩;have s1:=aP hrl (.lst []);have e1:(upd H rl (.lst [])) rl=some (.lst []):=aH;generalize (upd H rl (.lst []))=H1 at *;refine⟨_,rfl,b,_,rfl,s1.tup h1,λhz=>?_⟩;let mH:Nat->St->Hp->Prop:=λi σ H'=>∃(its':List (af×af)) (o5 o6:Option V),σ=[some (.ref o),some (.ref b),some (.int l),some (.int img),some (.ref rl),o5,o6]/\Same H H'/\H' rl=some (.lst (its'.map λi=>V.ref i.1))/\RT K H' its' (Sw.sG (aq ts) (aq aU) (k.take i) l img)/\its'.length<=i;refine for_tup (K:=K) (a:=b) (xs:=its.map λi=>V.ref i.1) mH
  ⟨[],_,_,rfl,s1,e1,.nil,aQ _⟩ (λi σ H' _ p=>?_) (λi x σ H' hx p=>?_) (λσ H' p=>?_)
 ·obtain⟨_,_,_,_,xx,_⟩:=p;exact xx.tup h1
 ·obtain⟨its',o5,o6,rfl,xx,er,hst,hil⟩:=p;rw[cV]at hx;cases ex:its[i]? with
  |none=>rw[ex]at hx;cases hx
  |some y=>
   rw[ex]at hx;cases hx;obtain⟨p,hp,r1,r2⟩:=Paired.at_ h2 ex;have abC:i<its.length:=(oR.mp ex).1;have pm:=nu hp;have pl:=hO.pl p pm;have r1':=xx.tup r1;have r2':=xx.tup r2;have hS':=hSV.same xx;obtain⟨dx,ln,lf,nn,ff,hS⟩:=id hS';have nl:=hS.nlen;obtain⟨na,f1,f2⟩:=RM hl.1 (show l<(nn.length:Int) by omega);have nt:=hS.ntup _ _ f1;rw[show((l.toNat:Nat):Int)=l by omega]at nt;have sz2:its'.length<sizeLine:=by rw[eZ];omega
   have step:=RL (T:=aq ts) (U:=aq aU) (l:=l) (img:=img) hp;refine⟨y.1,_,rfl,r1',rfl,_,_,rfl,_,_,rfl,rfl,?_⟩;refine⟨_,rfl,_,rfl,o,C,dx,_,_,rfl,hS.at_,Cc,eF,rfl,_,rfl,ln,_,_,.ref na,rfl,rfl,hS.near,f2,na,_,_,.int p.1,rfl,.inr nt,cF.ints _,.int _,Hz _,rfl,(by show 0<=60;decide),_,rfl,?_⟩;have em:((jK n ts l).map am).any (λd=>ar d (.int p.1))=aq ts l p.1:=by
    rw[Ml,sS,was,xQ];exact⟨λz=>z.2,λz=>⟨pl,z⟩⟩
   rw[em];refine ite2 (λc=>?_) (λc=>?_)
   ·rw[au c]at step;refine⟨_,rfl,.inl ⟨rfl,_,SqL.of er⟩,_,rfl,_,rfl,o,dx,_,rfl,hS.at_,rfl,_,rfl,_,rfl,o,d,y.2,n,no,img,ts,aU,p.2,rfl,hS',r2',hi.1,hi.2,(hO.im p pm).1,λr H2 s2 e2=>⟨szl,λpn hpn=>?_⟩⟩;have s3:=aP hpn (.tup [.int p.1,.ref r]);have V0:=s3 _ _ (s2 _ _ er);refine⟨rl,_,_,rfl,rfl,V0,(by rw[aF];exact sz2),?_⟩;have x4:aB rl (upd H2 pn (.tup [.int p.1,.ref r])) (upd (upd H2 pn (.tup [.int p.1,.ref r])) rl (.lst (its'.map (λi=>V.ref i.1)++[.ref pn]))):=(aB.refl _ _).upd;refine⟨its'++[(pn,r)],_,_,rfl,λc q z=>x4 c q (jr z hrl) (s3 _ _ (s2 _ _ (xx _ _ z))),by rw[bC];exact aH,?_,by rw[oO];show its'.length+1<=i+1;omega⟩;rw[step];have t1:SqT K (upd H2 pn (.tup [.int p.1,.ref r])) pn [.int p.1,.ref r]:=SqT.of aH;have t2:SqT K (upd H2 pn (.tup [.int p.1,.ref r])) r ((p.2.filter λy=>aq aU img y).map V.int):=s3.tup (SqT.of e2);exact Paired.snoc (((hst.same s2).same s3).cJ x4 V0) ⟨x4.tup V0 t1,x4.tup V0 t2⟩
   ·rw[ao c]at step;refine⟨_,rfl,_,rfl,rfl,_,rfl,?_⟩;by_cases c2:p.1=l
    ·rw[au c2]at step;have eb:(!decide (V.int p.1=V.int l))=false:=by rw[c2,bY rfl];rfl
     rw[eb];apply iteF;exact⟨its',_,_,rfl,xx,er,by rw[step,tL];exact hst,by omega⟩
    ·rw[ao c2]at step;have eb:(!decide (V.int p.1=V.int l))=true:=by rw[gj λz=>c2 (V.int.inj z)];rfl
     rw[eb];apply iteT;refine⟨_,rfl,.inl ⟨rfl,_,SqL.of er⟩,_,rfl,_,rfl,szl,λpn hpn=>?_⟩;have s3:=aP hpn (.tup [.int p.1,.ref y.2]);have V0:=s3 _ _ er;refine⟨rl,_,_,rfl,rfl,V0,(by rw[aF];exact sz2),?_⟩;have x4:aB rl (upd H' pn (.tup [.int p.1,.ref y.2])) (upd (upd H' pn (.tup [.int p.1,.ref y.2])) rl (.lst (its'.map (λi=>V.ref i.1)++[.ref pn]))):=(aB.refl _ _).upd;refine⟨its'++[(pn,y.2)],_,_,rfl,λc q z=>x4 c q (jr z hrl) (s3 _ _ (xx _ _ z)),by rw[bC];exact aH,?_,by rw[oO];show its'.length+1<=i+1;omega⟩;rw[step];have t1:SqT K (upd H' pn (.tup [.int p.1,.ref y.2])) pn [.int p.1,.ref y.2]:=SqT.of aH;exact Paired.snoc ((hst.same s3).cJ x4 V0) ⟨x4.tup V0 t1,x4.tup V0 (s3.tup r2')⟩
 ·obtain⟨its',o5,o6,rfl,xx,er,hst,hil⟩:=p;rw[aF,ad,qw]at hst;refine⟨_,rfl,rl,_,rfl,.inl ⟨SqL.of er,λr hr'=>?_⟩⟩;have s5:=aP hr' (.tup (its'.map λi=>V.ref i.1));exact qq r _ (xx.trans s5) (W4 (SqT.of aH) (hst.same s5))
theorem Es(ha:H a=some (.ins C dx fs))(e:∀c o,c≠a->H c=some o->H' c=some o)(h:SqT K H b xs):SqT K H' b xs:=by
 rcases h with(q|⟨o,q⟩)|q
 ·exact .inl (.inl (e _ _ (λz=>by rw[z,ha]at q;cases q) q))
 ·exact .inl (.inr ⟨o,e _ _ (λz=>by rw[z,ha]at q;cases q) q⟩)
 ·exact .inr q
theorem ZG(ha:H a=some (.ins C dx fs))(e:∀c o,c≠a->H c=some o->H' c=some o)(h:cF K H xs ds)(hn:NK.gW ds=true):cF K H' xs ds:=
 cF.rec (motive_1:=λx d _=>NK.BP d=true->DV K H' x d) (motive_2:=λxs ds _=>NK.gW ds=true->cF K H' xs ds)
  (λ_=>.non) (λb _=>.bl b) (λi _=>.int i) (λx _=>.str x) (λh _ t hn=>.tup (Es ha e h) (t hn)) (λ_ _ _ hn=>by cases hn) (λ_ hn=>by cases hn) (λ_ _ hn=>by cases hn) (λ_=>.nil)
  (λ_ _ i1 i2 hn=>by
   have hn':(NK.BP _&&NK.gW _)=true:=hn;rw[fH]at hn';exact .cons (i1 hn'.1) (i2 hn'.2)) h hn
theorem xK:∀ts:L0,NK.gW (ts.map pairD)=true
 |[]=>rfl
 |p::ts=>by show(true&&NK.gW (ts.map pairD))=true;rw[xK ts];rfl
theorem XM(ha:H a=some (.ins C dx fs))(e:∀c o,c≠a->H c=some o->H' c=some o)(h:aR K H b n ts):aR K H' b n ts:=by
 obtain⟨⟨t,rs,h1,h2,h3⟩,x0,x1,x2,x3⟩:=h;exact⟨⟨t,rs,Es ha e h1,Es ha e h2,ZG ha e h3 (xK ts)⟩,x0,x1,x2,x3⟩
inductive yH(K:ag)(C:af)(vs:List V)(H:Hp)(Q:VK)(E_:XK):Prop
 |mk(o dx a b:af)(n no:Int)(ts aU:L0)(_:vs=[.ref o,.ref a,.ref b])(_:H o=some (.ins C dx []))(_:aR K H a n ts)(_:aR K H b no aU)(_:∀d H',(∀c q,c≠o->H c=some q->H' c=some q)->Tq K C H' o d n no ts aU->DN K H' d []->H d=none->Q .non H')
theorem Ux{f f1 C:af}
  {fd d1:ψ}
  (F:Fun K "__init__" "Search.__init__" iT f fd)
  (Cc:Cls K C)(eF:NoAttr K C "near")(iG:NoAttr K C "far")(aK:NoAttr K C "led_nowhere")(D1:Eh K mg "neighbours" jw ["web","place"] f1 d1)(G1:FnOk P w K mg base CX0 8 f1 d1 ["web","place"] (yI K))(aG:mg "range"=none):
  FnOk P w K mg base CX0 9 f fd ["self","web","other"] (yH K C):=by
 refine F.eG ["self","web","other"] λH Q hr h=>?_;obtain⟨o,dx,a,b,n,no,ts,aU,rfl,Zh,hA,hB,qq⟩:=h;refine cg ?_;intro Y;refine⟨_,(aO (ps_fld (pv 0) (pK ["place"] ["web"] [1] (Ec rfl aG (aj (bB fU (pv 1) aM) aA)) (pG 0) m9 (pc G1 hr D1 (aj (pv 1) (aj (pv 0) aA)))) rfl) (aO (ps_fld (pv 0) (pK ["place"] ["other"] [2] (Ec rfl aG (aj (bB fU (pv 2) aM) aA)) (pG 0) m9 (pc G1 hr D1 (aj (pv 1) (aj (pv 0) aA)))) rfl) (aZ (ps_fld (pv 0) PN rfl)))),?_⟩;refine lg ?_;intro c3 c2;have kk0:∀c q,c≠o->H c=some q->H c=some q:=λc q _ z=>z;generalize hG:H=G1 at kk0 Zh hA hB⊢;have kk0:∀c q,c≠o->H c=some q->G1 c=some q:=λc q _ z=>by rw[<-hG];exact z
 obtain⟨tt1,rr1,w1,_,_⟩:=id hA.web;refine⟨_,rfl,a,_,_,.int n,rfl,rfl,w1,rfl,n,rfl,by have:=hA.h0;omega,by have:=hA.h1;omega,?_⟩;let mH:Nat->List V->St->Hp->Prop:=λi acc σ H'=>∃as:η,acc=as.map V.ref/\as.length=i/\Same G1 H'/\(∀(j:Nat) x,as[j]? =some x->H' x=some (.tup ((jK n ts (j:Int)).map V.int)))/\∃o1,σ=[o1,some (.ref a)];refine Mt (n:=n.toNat) mH ⟨[],rfl,rfl,Same.refl _,(λj x z=>by cases z),_,rfl⟩ (λi acc σ H' hi p=>?_) (by rw[eZ];have:=hA.h1;omega) (λi acc σ H' hi p=>?_) (λacc σ H' p=>?_)
 ·obtain⟨as,rfl,hl,_⟩:=p;rw[aF];omega
 ·obtain⟨as,rfl,hl,sm,hh,o1,rfl⟩:=p;have hW:=hA.same sm;refine⟨_,rfl,_,rfl,a,n,0+(i:Int),ts,rfl,hW.web,hW.ok,⟨by omega,by omega⟩,hW.h1,λr H2 s2 e2=>?_⟩;refine⟨as++[r],by rw[bC];rfl,by rw[oO,hl];rfl,sm.trans s2,λj x z=>?_,_,rfl⟩;rw[ydl]at z;by_cases c:j<as.length
  ·rw[au c]at z;exact s2 _ _ (hh j x z)
  ·rw[ao c]at z;have ej:j=as.length:=by
    rcases wgv (j-as.length) 1 with q|q
    ·omega
    ·rw[TQ (by show 1<=_;exact q)]at z;cases z
   rw[ej,wfz]at z;cases z;rw[ej,hl,show((i:Nat):Int)=0+(i:Int) by omega];exact e2
 intro l1 hl1;obtain⟨as1,rfl,len1,sm1,hh1,_⟩:=p;have t1:=aP hl1 (.lst (as1.map V.ref));have el1:(upd H' l1 (.lst (as1.map V.ref))) l1=some (.lst (as1.map V.ref)):=aH;generalize (upd H' l1 (.lst (as1.map V.ref)))=J1 at *;have u1:=sm1.trans t1;have O1:=u1 _ _ Zh;refine⟨_,rfl,o,C,dx,_,rfl,O1,Cc,eF,(by show 0<1000;decide),?_⟩;rw[show putF "near" (V.ref l1) ([]:List (bg×V))=([("near",.ref l1)]:List (bg×V))from rfl];have k1:∀c q,c≠o->J1 c=some q->(upd J1 o (.ins C dx ([("near",.ref l1)]))) c=some q:=λc q ne z=>by rw[cW ne];exact z
 have hO2:(upd J1 o (.ins C dx ([("near",.ref l1)]))) o=some (.ins C dx ([("near",.ref l1)])):=aH;have kk1:∀c q,c≠o->H c=some q->(upd J1 o (.ins C dx ([("near",.ref l1)]))) c=some q:=λc q ne z=>k1 c q ne (u1 _ _ (kk0 c q ne z));have nl1:l1≠o:=λz=>by rw[z,O1]at el1;cases el1
 have at1:∀(j:Nat) x,as1[j]? =some x->(upd J1 o (.ins C dx ([("near",.ref l1)]))) x=some (.tup ((jK n ts (j:Int)).map V.int)):=λj x z=>by
  have e:=t1 _ _ (hh1 j x z);exact k1 _ _ (λq=>by rw[q,O1]at e;cases e) e
 have ls1:=k1 _ _ nl1 el1;have hB2:=XM O1 k1 (hB.same u1);generalize (upd J1 o (.ins C dx ([("near",.ref l1)])))=G2 at *;obtain⟨tt2,rr2,w2,_,_⟩:=id hB2.web;refine⟨_,rfl,b,_,_,.int no,rfl,rfl,w2,rfl,no,rfl,by have:=hB2.h0;omega,by have:=hB2.h1;omega,?_⟩;let Ad:Nat->List V->St->Hp->Prop:=λi acc σ H'=>∃as:η,acc=as.map V.ref/\as.length=i/\Same G2 H'/\(∀(j:Nat) x,as[j]? =some x->H' x=some (.tup ((jK no aU (j:Int)).map V.int)))/\∃o1,σ=[o1,some (.ref b)];refine Mt (n:=no.toNat) Ad ⟨[],rfl,rfl,Same.refl _,(λj x z=>by cases z),_,rfl⟩ (λi acc σ H' hi p=>?_) (by rw[eZ];have:=hB2.h1;omega) (λi acc σ H' hi p=>?_) (λacc σ H' p=>?_)
 ·obtain⟨as,rfl,hl,_⟩:=p;rw[aF];omega
 ·obtain⟨as,rfl,hl,sm,hh,o1,rfl⟩:=p;have hW:=hB2.same sm;refine⟨_,rfl,_,rfl,b,no,0+(i:Int),aU,rfl,hW.web,hW.ok,⟨by omega,by omega⟩,hW.h1,λr H2 s2 e2=>?_⟩;refine⟨as++[r],by rw[bC];rfl,by rw[oO,hl];rfl,sm.trans s2,λj x z=>?_,_,rfl⟩;rw[ydl]at z;by_cases c:j<as.length
  ·rw[au c]at z;exact s2 _ _ (hh j x z)
  ·rw[ao c]at z;have ej:j=as.length:=by
    rcases wgv (j-as.length) 1 with q|q
    ·omega
    ·rw[TQ (by show 1<=_;exact q)]at z;cases z
   rw[ej,wfz]at z;cases z;rw[ej,hl,show((i:Nat):Int)=0+(i:Int) by omega];exact e2
 intro l2 hl2;obtain⟨as2,rfl,len2,sm2,hh2,_⟩:=p;have t2:=aP hl2 (.lst (as2.map V.ref));have el2:(upd H' l2 (.lst (as2.map V.ref))) l2=some (.lst (as2.map V.ref)):=aH;generalize (upd H' l2 (.lst (as2.map V.ref)))=J2 at *;have u2:=sm2.trans t2;have O2:=u2 _ _ hO2;refine⟨_,rfl,o,C,dx,_,rfl,O2,Cc,iG,(by show 1<1000;decide),?_⟩;rw[show putF "far" (V.ref l2) ([("near",.ref l1)]:List (bg×V))=([("near",.ref l1),("far",.ref l2)]:List (bg×V))from rfl];have k2:∀c q,c≠o->J2 c=some q->(upd J2 o (.ins C dx ([("near",.ref l1),("far",.ref l2)]))) c=some q:=λc q ne z=>by rw[cW ne];exact z
 have hO3:(upd J2 o (.ins C dx ([("near",.ref l1),("far",.ref l2)]))) o=some (.ins C dx ([("near",.ref l1),("far",.ref l2)])):=aH;have kk2:∀c q,c≠o->H c=some q->(upd J2 o (.ins C dx ([("near",.ref l1),("far",.ref l2)]))) c=some q:=λc q ne z=>k2 c q ne (u2 _ _ (kk1 c q ne z));have nl2:l2≠o:=λz=>by rw[z,O2]at el2;cases el2
 have at2:∀(j:Nat) x,as2[j]? =some x->(upd J2 o (.ins C dx ([("near",.ref l1),("far",.ref l2)]))) x=some (.tup ((jK no aU (j:Int)).map V.int)):=λj x z=>by
  have e:=t2 _ _ (hh2 j x z);exact k2 _ _ (λq=>by rw[q,O2]at e;cases e) e
 have ls2:=k2 _ _ nl2 el2;have lsA:=k2 _ _ nl1 (u2 _ _ ls1);have atA:∀(j:Nat) x,as1[j]? =some x->(upd J2 o (.ins C dx ([("near",.ref l1),("far",.ref l2)]))) x=some (.tup ((jK n ts (j:Int)).map V.int)):=λj x z=>by
  have e:=u2 _ _ (at1 j x z);exact k2 _ _ (λq=>by rw[q,O2]at e;cases e) e
 generalize (upd J2 o (.ins C dx ([("near",.ref l1),("far",.ref l2)])))=G3 at *;intro d H4 s4 hd hN;refine⟨_,rfl,o,C,dx,_,rfl,s4 _ _ hO3,Cc,aK,(by show 2<1000;decide),?_⟩;rw[show putF "led_nowhere" (V.ref d) ([("near",.ref l1),("far",.ref l2)]:List (bg×V))=Rp l1 l2 d from rfl];have O4:=s4 _ _ hO3;have k4:∀c q,c≠o->H4 c=some q->(upd H4 o (.ins C dx (Rp l1 l2 d))) c=some q:=λc q ne z=>by rw[cW ne];exact z
 have nd:d≠o:=λz=>by rw[z,hO3]at hd;cases hd
 have tu:∀x xs,G3 x=some (.tup xs)->SqT K (upd H4 o (.ins C dx (Rp l1 l2 d))) x xs:=λx xs e=>SqT.of (k4 _ _ (λq=>by rw[q,hO3]at e;cases e) (s4 _ _ e));have h0:=hA.h0;have h0':=hB2.h0;refine qq d (upd H4 o (.ins C dx (Rp l1 l2 d))) (λc q ne z=>k4 c q ne (s4 _ _ (kk2 c q ne z))) ⟨dx,l1,l2,as1,as2,aH,SqL.of (k4 _ _ nl1 (s4 _ _ lsA)),by omega,λi x z=>tu _ _ (atA i x z),SqL.of (k4 _ _ nl2 (s4 _ _ ls2)),by omega,λi x z=>tu _ _ (at2 i x z)⟩ ?_ ?_
 ·obtain⟨xs,n1,n2,n3⟩:=hN;have:xs=[]:=List.map_eq_nil_iff.mp n2;subst this;exact⟨[],k4 _ _ nd n1,rfl,λx hx=>(nomatch hx)⟩
 ·cases e:H d with
  |none=>rfl
  |some q=>rw[kk2 d q nd e]at hd;cases hd
noncomputable abbrev V5(ts aU:L0)(k:NK.SK):Prop:=∃g,Sw.MN (aq ts) (aq aU) k g
noncomputable def abO(K:ag)(H:Hp)(l:af)(r:L0):Prop:=∃its:List (af×ζ),H l=some (.lst (its.map λp=>V.ref p.1))/\(∀p∈its,SqT K H p.1 (p.2.map V.int))/\its.map (·.2)=r.map λe=>[e.1,e.2]
noncomputable def ur(ri:Bool)(c:Nat):Nat:=if ri=true then 0 else c
theorem zZ(h:a<=b):ur ri a<=ur ri b:=by unfold ur;split<;>omega
structure LdP(K:ag)(C:af)(H:Hp)(o b d:af)(n no:Int)(ts aU:L0)(ks:List NK.SK)(k:NK.SK)(ri:Bool):Prop where
 se:Tq K C H o d n no ts aU
 dn:DN K H d ks
 un:∀j∈ks,¬V5 ts aU j
 st:DV K H (.ref b) (NK.toD k)
 so:Sw.SOk n no k
 ok:Sw.Ok (aq ts) (aq aU)
 n10:n<=10
 n1:k.length<=10
 ri:ri=true->Sw.V7 (aq aU) no k
structure LdQ(K:ag)(H H':Hp)(d:af)(ts aU:L0)(ks ks':List NK.SK)(c m:Nat):Prop where
 keep:∀x q,x≠d->H x=some q->H' x=some q
 dn:DN K H' d ks'
 un:∀j∈ks',¬V5 ts aU j
 ln:ks'.length<=ks.length+c
 nw:∀j∈ks',j∈ks\/j.length<m
noncomputable def RsV(K:ag)(H:Hp)(ts aU:L0)(k:NK.SK)(v:V):Prop:=(v=.non/\¬V5 ts aU k)\/∃l r,v=.ref l/\abO K H l r/\Sw.Res (aq ts) (aq aU) k r/\r.length<=10
inductive Bg(K:ag)(C:af)(m:Nat)(vs:List V)(H:Hp)(Q:VK)(E_:XK):Prop
 |mk(o b d:af)(n no:Int)(ts aU:L0)(ks:List NK.SK)(k:NK.SK)(ri:Bool)(_:vs=[.ref o,.ref b])(_:LdP K C H o b d n no ts aU ks k ri)(_:k.length=m)(_:ks.length+ur ri (Sw.cst no.toNat m)<=16000000)(_:∀v H' ks',LdQ K H H' d ts aU ks ks' (ur ri (Sw.cst no.toNat m)) (m+1)->RsV K H' ts aU k v->Q v H')
noncomputable def WQ(K:ag)(C:af):Nat->Sp
 |0=>λ_ _ _ _=>False
 |m+1=>λvs H Q _=>∃(o b d:af) (n no:Int) (ts aU:L0) (ks:List NK.SK) (k:NK.SK) (ri:Bool),vs=[.ref o,.ref b]/\LdP K C H o b d n no ts aU ks k ri/\k.length=m+1/\ks.length+ur ri (no.toNat*Sw.cst no.toNat m)<=16000000/\
  ∀v H' ks',LdQ K H H' d ts aU ks ks' (ur ri (no.toNat*Sw.cst no.toNat m)) (m+1)->RsV K H' ts aU k v->Q v H'
theorem DN.ext(h:DN K H d ks):∃φ,H d=some (.ext φ):=by
 obtain⟨xs,h1,_⟩:=h;exact⟨_,h1⟩
theorem YF{f f1 f2 f3 C:af}
  {fd d1 d2 d3:ψ}
  {m lv:Nat}
  (F:Fun K "lead_first" "Search.lead_first" Xm f fd)
  (Cc:Cls K C)(eF:NoAttr K C "near")(iG:NoAttr K C "far")(aK:NoAttr K C "led_nowhere")(D1:sH K C "lead" "Search.lead" Wa ["self","state"] f1 d1)(G1:FnOk P w K mg base CX0 lv f1 d1 ["self","state"] (Bg K C m))(D2:sH K C "state_behind" "Search.state_behind" zaw ["self","state","led","image"] f2 d2)(G2':FnOk P w K mg base CX0 2 f2 d2 ["self","state","led","image"] (qI K C))(D3:Eh K mg "count_images" zcg ["open_place"] f3 d3)(G3:FnOk P w K mg base CX0 1 f3 d3 ["open_place"] (Bj K))(iJ:mg "min"=none)(hlv:2<=lv):
  FnOk P w K mg base CX0 (lv+1) f fd ["self","state"] (WQ K C (m+1)):=by
 have G2:FnOk P w K mg base CX0 lv f2 d2 ["self","state","led","image"] (qI K C):=G2'.mono hlv;refine F.eG ["self","state","first","image","led"] λH Q hr h=>?_;obtain⟨o,b,d,n,no,ts,aU,ks,k,ri,rfl,hP,hm,hb,qq⟩:=h;refine cg ?_;intro Y;refine⟨_,(aO (pS 2 (Uq G3 rfl (hr.mono hlv) rfl iJ rfl D3.m D3.F.kp D3.b (aj (pv 1) aA))) (aO (Ay wX rfl (Ei (bB fU (pv 2) aM)) (pG 3) (aO (pS 4 (Hy (pv 0) Cc D1.m G1 hr D1.b .nil pass0 (aj (Hy (pv 0) Cc D2.m G2 hr D2.b .nil pass0 (aj (pv 1) (aj (bB fU (pv 2) aM) (aj (pv 3) aA)))) aA))) (aZ (jq (iM op_notN (pv 4) pe_non) (aZ (cu (bW op_cat (pv 4) (pe_lst (aj (lY (aj (bB fU (pv 2) aM) (aj (pv 3) aA))) aA))))) jN)))) (aZ (cu pe_non)))),?_⟩;refine lg ?_;intro c3 c2;obtain⟨its,h1,h2⟩:=Ig hP.st;have ad:=Paired.jh h2;obtain⟨φ,hφ⟩:=DN.ext hP.dn;refine⟨_,rfl,b,its.map (·.1),λj=>((k.getD j (0,[])).2.length:Int),rfl,by rw[oN];exact h1,λz=>?_,λj p hj=>?_,λi p hi _=>?_⟩
 ·have:=gR cw z;rw[aF]at this;simp at this;rw[this]at ad;simp at ad;omega
 ·rw[cV]at hj;cases ex:its[j]? with
  |none=>rw[ex]at hj;cases hj
  |some y=>
   rw[ex]at hj;cases hj;obtain⟨p,hp,r1,r2⟩:=Paired.at_ h2 ex;refine⟨y.1,y.2,p.1,p.2,rfl,r1,r2,?_,rfl⟩;show _=V.int ((k.getD j (0,[])).2.length:Int);rw[gQ,hp];rfl
 rw[cV]at hi;cases ey:its[i]? with
 |none=>rw[ey]at hi;cases hi
 |some y=>
 rw[ey]at hi;cases hi;obtain⟨pp,hpp,r1,r2⟩:=Paired.at_ h2 ey;have pm:=nu hpp;have pl:=hP.so.pl pp pm;obtain⟨pi1,pi2⟩:=hP.so.im pp pm;refine⟨_,rfl,y.1,_,_,.ref y.2,rfl,rfl,r1,rfl,y.2,_,rfl,r2,λhz=>?_⟩;let mH:Nat->St->Hp->Prop:=λi σ H'=>∃(ks':List NK.SK) (o3 o4:Option V),σ=[some (.ref o),some (.ref b),some (.ref y.1),o3,o4]/\LdQ K H H' d ts aU ks ks' (ur ri (i*Sw.cst no.toNat m)) (m+1)/\(∀z∈pp.2.take i,¬V5 ts aU (Sw.sG (aq ts) (aq aU) k pp.1 z))/\(ri=true->i=0);refine for_tup (K:=K) (a:=y.2) (xs:=pp.2.map V.int) mH
  ⟨ks,_,_,rfl,⟨λx q _ z=>z,hP.dn,hP.un,yfd _ _,λj hj=>.inl hj⟩,λz hz=>(nomatch hz),λ_=>rfl⟩ (λi σ H' _ p=>?_) (λi x σ H' hx p=>?_) (λσ H' p=>?_)
 ·obtain⟨_,_,_,_,q,_⟩:=p;exact lO hφ q.keep r2
 ·obtain⟨ks',o3,o4,rfl,LQ,hno,hri⟩:=p;rw[cV]at hx;cases ex:pp.2[i]? with
  |none=>rw[ex]at hx;cases hx
  |some z=>
   rw[ex]at hx;cases hx;have abC:i<pp.2.length:=(oR.mp ex).1;have zm:=nu ex;have zi:=pi1 z zm;have hSV:=hP.se.but hφ LQ.keep;obtain⟨dx,ln,lf,nn,ff,hS⟩:=id hSV;have r1':=lO hφ LQ.keep r1;have st':=zO hφ LQ.keep hP.st (NK.toD_nst k);refine⟨_,rfl,o,dx,_,rfl,hS.at_,rfl,_,rfl,o,dx,_,rfl,hS.at_,rfl,_,rfl,_,rfl,y.1,_,_,.int pp.1,rfl,rfl,r1',rfl,_,rfl,o,d,b,n,no,pp.1,z,ts,aU,k,rfl,hSV,st',hP.n1,pl,zi,hP.so,λrb H2 s2 db=>?_⟩;have ppm:(pp.1,pp.2)∈k:=pm;have bl:=Sw.Aa (img:=z) hP.ok hP.so.nd ppm;have LP:LdP K C H2 o rb d n no ts aU ks' (Sw.sG (aq ts) (aq aU) k pp.1 z) ri:=⟨hSV.same s2,LQ.dn.same s2,LQ.un,db,hP.so.sG hP.ok,hP.ok,hP.n10,by have:=hP.n1;omega,λr=>Sw.Bs hP.ok hP.so.nd ppm zm (hP.ri r)⟩;have bb:ks'.length+ur ri (Sw.cst no.toNat m)<=16000000/\ur ri (i*Sw.cst no.toNat m)+ur ri (Sw.cst no.toNat m)=ur ri ((i+1)*Sw.cst no.toNat m):=by
    have l1:=LQ.ln;unfold ur at *;split
    ·rename_i c;rw[au c]at l1 hb;exact⟨by omega,rfl⟩
    ·rename_i c;rw[ao c]at l1 hb;have:(i+1)*Sw.cst no.toNat m<=no.toNat*Sw.cst no.toNat m:=wdq _ (by omega);rw[wgt]at this⊢;exact⟨by omega,by omega⟩
   refine⟨o,rb,d,n,no,ts,aU,ks',_,ri,rfl,LP,by omega,bb.1,λv H3 QV V9 RS=>?_⟩;have ZS:LdQ K H H3 d ts aU ks QV (ur ri ((i+1)*Sw.cst no.toNat m)) (m+1):=by
    refine⟨λx q ne e=>V9.keep x q ne (s2 _ _ (LQ.keep x q ne e)),V9.dn,V9.un,?_,λj hj=>?_⟩
    ·have a1:=LQ.ln;have a2:=V9.ln;have a3:=bb.2;omega
    ·rcases V9.nw j hj with q|q
     ·exact LQ.nw j q
     ·exact .inr q
   refine⟨_,rfl,rfl,_,rfl,?_⟩;rcases RS with⟨rfl,Ti⟩|⟨l,r,rfl,⟨jts,j1,j2,j3⟩,hres,rl⟩
   ·have eb:(!decide (V.non=V.non))=false:=rfl;rw[eb];apply iteF;refine⟨QV,_,_,rfl,ZS,λx hx=>?_,λr=>?_⟩
    ·rw[qx,ex]at hx;rcases lM.mp hx with q|q
     ·exact hno x q
     ·have:x=z:=by simpa using q
      rw[this];exact Ti
    ·exact absurd (Sw.uR hP.ok _ rfl (Sw.Hi hP.ok hP.so.nd) (LP.ri r)) Ti
   ·have eb:(!decide (V.ref l=V.non))=true:=by rw[gj (λz=>by cases z)];rfl
    rw[eb];apply iteT;have abf:=lO hφ ZS.keep r1;refine⟨_,rfl,_,rfl,y.1,_,_,.int pp.1,rfl,rfl,abf,rfl,_,rfl,szl,λpt hpt=>⟨szl,λpl' hpl=>?_⟩⟩;have g1:=aP hpt (.tup [.int pp.1,.int z]);have g2:=aP hpl (.lst [.ref pt]);have ept:(upd H3 pt (.tup [.int pp.1,.int z])) pt=some (.tup [.int pp.1,.int z]):=aH;have Y4:(r++[(pp.1,z)]).length<=10:=by
     have hh:=(Sw.Px hP.ok hP.so.nd ppm zm hres).1.length_eq;rw[aF,aF]at hh;rw[hh];exact hP.n1
    have jl:jts.length=r.length:=by have:=gR cw j3;rwa [aF,aF]at this
    refine⟨l,pl',_,_,rfl,rfl,g2 _ _ (g1 _ _ j1),aH,by rw[aF,jl,eZ];rw[oO]at Y4;show r.length+1<=_;have:r.length+1<=10:=Y4;omega,λpr hpr=>?_⟩;have g3:=aP hpr (.lst (jts.map (λp=>V.ref p.1)++[.ref pt]));have g:=g1.trans (g2.trans g3);refine qq _ _ QV ⟨λx q ne e=>g _ _ (ZS.keep x q ne e),ZS.dn.same g,ZS.un,bR ZS.ln (yff (zZ (wdq _ (by omega))) _),ZS.nw⟩ (.inr ⟨pr,r++[(pp.1,z)],rfl,⟨jts++[(pt,[pp.1,z])],by rw[bC];exact aH,λq hq=>?_,by rw[bC,bC,j3];rfl⟩,Sw.Px hP.ok hP.so.nd ppm zm hres,Y4⟩);rcases lM.mp hq with w'|w'
    ·exact g.tup (j2 q w')
    ·rw[fV.mp w'];exact(g2.trans g3).tup (SqT.of ept)
 ·obtain⟨ks',o3,o4,rfl,LQ,hno,hri⟩:=p;rw[aF]at LQ hri;rw[aF,qw]at hno;refine qq _ _ ks' ⟨LQ.keep,LQ.dn,LQ.un,bR LQ.ln (yff (zZ (wdq _ (by omega))) _),LQ.nw⟩ (.inl ⟨rfl,Sw.X7 hP.ok (show(pp.1,pp.2)∈k from pm) hno⟩)
theorem Qg{f f1 f2 C:af}
  {fd d1 d2:ψ}
  {m lv:Nat}
  (F:Fun K "lead" "Search.lead" Wa f fd)
  (Cc:Cls K C)(eF:NoAttr K C "near")(iG:NoAttr K C "far")(aK:NoAttr K C "led_nowhere")(D1:Eh K mg "are_left_open" zbw ["state"] f1 d1)(G1':FnOk P w K mg base CX0 1 f1 d1 ["state"] (xr K))(D2:sH K C "lead_first" "Search.lead_first" Xm ["self","state"] f2 d2)(G2:FnOk P w K mg base CX0 lv f2 d2 ["self","state"] (WQ K C m))(hlv:1<=lv):
  FnOk P w K mg base CX0 (lv+1) f fd ["self","state"] (Bg K C m):=by
 have G1:FnOk P w K mg base CX0 lv f1 d1 ["state"] (xr K):=G1'.mono hlv;refine F.eG ["self","state","led"] λH Q hr h=>?_;obtain⟨o,b,d,n,no,ts,aU,ks,k,ri,rfl,hP,hm,hb,qq⟩:=h;refine cg ?_;intro Y;refine⟨_,(aO (jq (sJ (pt_truth (pv 1) (λ_=>rfl))) (aZ (cu (pe_lst aA))) jN) (aO (jq (PW.pt (pw_or (iM (Yp hr.units) (pv 1) (oM (pv 0) rfl) (by with_unfolding_all rfl)) (pw_or1 (sJ (qz (pc G1 hr D1 (aj (pv 1) aA))))))) (aZ (cu pe_non)) jN) (aO (pS 2 (Hy (pv 0) Cc D2.m G2 hr D2.b .nil pass0 (aj (pv 1) aA))) (aO (jq (iM op_isN (pv 2) pe_non) (aZ (PL hr.units (oM (pv 0) rfl) (pv 1) pe_bl)) jN) (aZ (cu (pv 2))))))),?_⟩;refine Jr ?_;intro c5 c4 c3 c2;obtain⟨its,h1,h2⟩:=Ig hP.st;have ad:=Paired.jh h2;refine⟨_,rfl,_,.inr (.inl ⟨_,h1,rfl⟩),?_⟩;cases k with
 |nil=>
  cases its with
  |cons y ys=>cases ad
  |nil=>
   apply iteT;refine⟨szl,λl hl=>?_⟩;have g:=aP hl (.lst []);exact qq _ _ ks ⟨λx q _ e=>g _ _ e,hP.dn.same g,hP.un,yfd _ _,λj hj=>.inl hj⟩ (.inr ⟨l,[],rfl,⟨[],aH,λq hq=>(nomatch hq),rfl⟩,Sw.Ul,dX _⟩)
 |cons k0 kr=>
 cases its with
 |nil=>cases ad
 |cons y0 yr=>
 apply iteF;generalize hK:(k0::kr)=k at *;obtain⟨m',rfl⟩:∃m',m=m'+1:=⟨kr.length,by rw[<-hm,<-hK];rfl⟩;obtain⟨dx,ln,lf,nn,ff,hS⟩:=id hP.se;refine⟨_,rfl,_,rfl,o,C,dx,_,_,rfl,hS.at_,Cc,aK,rfl,d,b,ks,k,rfl,rfl,hP.dn,hP.st,_,rfl,?_⟩;have id0:∀H',Same H H'->LdQ K H H' d ts aU ks ks (ur ri (Sw.cst no.toNat (m'+1))) (m'+1+1):=λH' g=>⟨λx q _ e=>g _ _ e,hP.dn.same g,hP.un,yfd _ _,λj hj=>.inl hj⟩;by_cases cin:k∈ks
 ·rw[bY cin];refine iteT (iteT ?_);exact qq _ _ ks (id0 H (Same.refl _)) (.inl ⟨rfl,hP.un k cin⟩)
 rw[gj cin];apply iteF;refine⟨_,rfl,b,k,rfl,hP.st,hP.n1,λH1 s1=>⟨_,rfl,?_⟩⟩;cases hop:k.all λp=> !p.2.isEmpty with
 |false=>
  apply iteT;refine qq _ _ ks (id0 H1 s1) (.inl ⟨rfl,?_⟩);have:∃p∈k,p.2=[]:=by
   rw[Bool.eq_false_iff]at hop;refine WD λc=>hop (iW.mpr λp hp=>?_);cases e:p.2 with
   |nil=>exact absurd ⟨p,hp,e⟩ c
   |cons z zs=>rfl
  obtain⟨p,hp,e⟩:=this;exact Sw.Oj hp e
 |true=>
 apply iteF;have hc:ur ri (Sw.cst no.toNat (m'+1))=ur ri (1+no.toNat*Sw.cst no.toNat m'):=rfl;have hb':ks.length+ur ri (no.toNat*Sw.cst no.toNat m')<=16000000:=by
  have:ur ri (no.toNat*Sw.cst no.toNat m')<=ur ri (1+no.toNat*Sw.cst no.toNat m'):=zZ (by omega);rw[hc]at hb;omega
 refine⟨_,rfl,o,dx,_,rfl,s1 _ _ hS.at_,rfl,_,rfl,o,b,d,n,no,ts,aU,ks,k,ri,rfl,⟨hP.se.same s1,hP.dn.same s1,hP.un,hP.st.same s1,hP.so,hP.ok,hP.n10,hP.n1,hP.ri⟩,hm,hb',λv H2 QV LQ RS=>?_⟩;obtain⟨φ,hφ⟩:=DN.ext (hP.dn.same s1);refine⟨_,rfl,rfl,_,rfl,?_⟩;have V9:LdQ K H H2 d ts aU ks QV (ur ri (Sw.cst no.toNat (m'+1))) (m'+1+1):=⟨λx q ne e=>LQ.keep x q ne (s1 _ _ e),LQ.dn,LQ.un,bR LQ.ln (yff (by rw[hc];exact zZ (by omega)) _),λj hj=>(LQ.nw j hj).imp id λz=>by omega⟩;rcases id RS with⟨rfl,Ti⟩|⟨l,r,rfl,_⟩
 ·have eb:decide (V.non=V.non)=true:=rfl;rw[eb];apply iteT;have rf:ri=false:=by
   cases hri:ri with
   |false=>rfl
   |true=>exact absurd (Sw.uR hP.ok _ rfl hP.so.nd (hP.ri hri)) Ti
  subst rf;have nk:k∉QV:=λz=>by
   rcases LQ.nw k z with q|q
   ·exact cin q
   ·omega
  have l2:QV.length<=ks.length+no.toNat*Sw.cst no.toNat m':=LQ.ln;have hb2:ks.length+no.toNat*Sw.cst no.toNat m'<=16000000:=hb';obtain⟨dx2,ln2,Vh,nn2,ff2,hS2⟩:=id ((hP.se.same s1).but hφ LQ.keep);refine⟨_,rfl,o,C,dx2,_,_,rfl,hS2.at_,Cc,aK,rfl,_,rfl,d,b,QV,k,rfl,rfl,rfl,LQ.dn,zO hφ LQ.keep (hP.st.same s1) (NK.toD_nst k),nk,by rw[eZ];omega,λH4 aaA D4=>?_⟩;refine⟨_,rfl,qq _ _ (QV++[k]) ⟨λx q ne e=>aaA x q ne (V9.keep x q ne e),D4,λj hj=>?_,?_,λj hj=>?_⟩ (.inl ⟨rfl,Ti⟩)⟩
  ·rcases lM.mp hj with q|q
   ·exact LQ.un j q
   ·rw[fV.mp q];exact Ti
  ·rw[oO];show QV.length+1<=ks.length+(1+no.toNat*Sw.cst no.toNat m');omega
  ·rcases lM.mp hj with q|q
   ·exact V9.nw j q
   ·rw[fV.mp q];exact .inr (by omega)
 ·have eb:decide (V.ref l=V.non)=false:=gj λz=>by cases z
  rw[eb];apply iteF;exact⟨_,rfl,qq _ _ QV V9 RS⟩
theorem Rn:FnOk P w K mg base CX0 k f fd ps (λ_ _ _ _=>False):=⟨λ_ _ _ _ h=>h.elim,λ_ _ _ _ _ _ _ _ _ _ _ _ _ h=>h.elim⟩
theorem W3{f f1 f2 f3 f4 C:af}
  {fd d1 d2 d3 d4:ψ}
  (F:Fun K "lead" "Search.lead" Wa f fd)
  (F4:Fun K "lead_first" "Search.lead_first" Xm f4 d4)
  (Cc:Cls K C)(eF:NoAttr K C "near")(iG:NoAttr K C "far")(aK:NoAttr K C "led_nowhere")
  (D:sH K C "lead" "Search.lead" Wa ["self","state"] f fd)(D4:sH K C "lead_first" "Search.lead_first" Xm ["self","state"] f4 d4)(D1:Eh K mg "are_left_open" zbw ["state"] f1 d1)(G1:FnOk P w K mg base CX0 1 f1 d1 ["state"] (xr K))(D2:sH K C "state_behind" "Search.state_behind" zaw ["self","state","led","image"] f2 d2)(G2:FnOk P w K mg base CX0 2 f2 d2 ["self","state","led","image"] (qI K C))(D3:Eh K mg "count_images" zcg ["open_place"] f3 d3)(G3:FnOk P w K mg base CX0 1 f3 d3 ["open_place"] (Bj K))(iJ:mg "min"=none):∀m:Nat,FnOk P w K mg base CX0 (2*m+4) f fd ["self","state"] (Bg K C m)
 |0=>Qg F Cc eF iG aK D1 G1 D4 (lv:=3) Rn (by decide)
 |m+1=>Qg F Cc eF iG aK D1 G1 D4 (lv:=2*m+5) (YF F4 Cc eF iG aK D (W3 F F4 Cc eF iG aK D D4 D1 G1 D2 G2 D3 G3 iJ m) D2 G2 D3 G3 iJ (by omega)) (by omega)
inductive Eu(K:ag)(C:af)(vs:List V)(H:Hp)(Q:VK)(E:XK):Prop
 |mk(m)(_:m<=10)(_:Bg K C m vs H Q E)
theorem YH{f f1 f2 f3 f4 C:af}
  {fd d1 d2 d3 d4:ψ}
  (F:Fun K "lead" "Search.lead" Wa f fd)
  (F4:Fun K "lead_first" "Search.lead_first" Xm f4 d4)
  (Cc:Cls K C)(eF:NoAttr K C "near")(iG:NoAttr K C "far")(aK:NoAttr K C "led_nowhere")
  (D:sH K C "lead" "Search.lead" Wa ["self","state"] f fd)(D4:sH K C "lead_first" "Search.lead_first" Xm ["self","state"] f4 d4)(D1:Eh K mg "are_left_open" zbw ["state"] f1 d1)(G1:FnOk P w K mg base CX0 1 f1 d1 ["state"] (xr K))(D2:sH K C "state_behind" "Search.state_behind" zaw ["self","state","led","image"] f2 d2)(G2:FnOk P w K mg base CX0 2 f2 d2 ["self","state","led","image"] (qI K C))(D3:Eh K mg "count_images" zcg ["open_place"] f3 d3)(G3:FnOk P w K mg base CX0 1 f3 d3 ["open_place"] (Bj K))(iJ:mg "min"=none):FnOk P w K mg base CX0 24 f fd ["self","state"] (Eu K C):=by
 have all:=W3 F F4 Cc eF iG aK D D4 D1 G1 D2 G2 D3 G3 iJ;refine⟨λvs H Q E h=>?_,λA outer s H args us vs Q E hr he hb hv h=>?_⟩
 ·obtain⟨m,hm,h⟩:=h;exact(all m).len vs H Q E h
 ·obtain⟨m,hm,h⟩:=h;exact((all m).mono (by omega)).run A outer s H args us vs Q E hr he hb hv h
noncomputable def up(n:Nat):ζ:=(ai n).map λk=>((k:Nat):Int)
theorem Ia(n):(up n).Pairwise (· < ·):=by
 unfold up;rw[J4];exact ydc.imp λ{a b} h=>by omega
theorem jD:x∈up n↔0<=x/\x<(n:Int):=by
 unfold up;refine⟨λh=>?_,λh=>dF.mpr ⟨x.toNat,qC.mpr (by omega),by omega⟩⟩;obtain⟨k,hk,rfl⟩:=dF.mp h;have:=qC.mp hk;omega
theorem tM(n):(up n).length=n:=by unfold up;simp
theorem T8(n):dG n=(up n).map V.int:=by unfold dG up;rw[oN];rfl
noncomputable def st0(n no:Int):NK.SK:=(up n.toNat).map λp=>(p,up no.toNat)
theorem Ih(n no):(st0 n no).map (·.1)=up n.toNat:=by
 unfold st0;rw[oN];exact List.map_id _
theorem jE:p∈st0 n no↔(0<=p.1/\p.1<(n.toNat:Int))/\p.2=up no.toNat:=by
 unfold st0;rw[dF];refine⟨λ⟨q,hq,e⟩=>?_,λ⟨h1,h2⟩=>⟨p.1,jD.mpr h1,Wv rfl h2.symm⟩⟩;rw[<-e];exact⟨jD.mp hq,rfl⟩
theorem X5(h0:0<=n)(h1:0<=no):Sw.SOk n no (st0 n no):=by
 refine⟨?_,λp hp=>?_,λp hp=>?_⟩
 ·unfold Sw.Nd;rw[Ih];exact(Ia _).imp λh e=>by omega
 ·have:=(jE.mp hp).1;omega
 ·rw[(jE.mp hp).2];refine⟨λy hy=>?_,by rw[tM];omega⟩;have:=jD.mp hy;omega
theorem Js(h:i<j):aq ts i j=decide ((i,j)∈ts):=by
 unfold aq;rw[ao (by omega),au (by omega)]
theorem WL(h:aY n ts):Sw.Ok (aq ts) (aq aU):=by
 refine⟨λx=>?_,iK ts,iK aU⟩;rw[tied_eq h];unfold bN;rw[gj λz=>by have:=h.lt _ z;dsimp only at this;omega];rfl
theorem Kf(h0:0<=n)(h1:0<=no)(hp:aY n ts)(h:Sw.MN (aq ts) (aq aU) (st0 n no) g):aN n no ts aU ((up n.toNat).map g)=true:=by
 have im:∀x:Int,0<=x->x<n->0<=g x/\g x<no:=λx a b=>by
  have:g x∈up no.toNat:=h.im (x,up no.toNat) (jE.mpr ⟨⟨a,by show x<(n.toNat:Int);omega⟩,rfl⟩);have:=jD.mp this;omega
 have gt:∀x:Int,0<=x->x<n->((up n.toNat).map g).getD x.toNat 0=g x:=λx a b=>by
  rw[gQ,cV];unfold up;rw[cV,ydr (by omega)];show g ((x.toNat:Nat):Int)=g x;rw[show((x.toNat:Nat):Int)=x by omega]
 unfold aN;rw[fH,fH];refine⟨bY (by rw[aF,tM];omega),iW.mpr λy hy=>?_,iW.mpr λp hm=>?_⟩
 ·obtain⟨x,hx,rfl⟩:=dF.mp hy;have:=jD.mp hx;have:=im x (by omega) (by omega);rw[fH];exact⟨bY this.1,bY this.2⟩
 ·have l:=hp.lt p hm;rw[gt p.1 (by omega) (by omega),gt p.2 (by omega) (by omega)];refine h.ti (p.1,up no.toNat) (jE.mpr ⟨⟨by show 0<=p.1;omega,by show p.1<(n.toNat:Int);omega⟩,rfl⟩) (p.2,up no.toNat) (jE.mpr ⟨⟨by show 0<=p.2;omega,by show p.2<(n.toNat:Int);omega⟩,rfl⟩) ?_;show aq ts p.1 p.2=true;rw[Js l.2.1];exact bY hm
theorem Ld(h0:0<=n)(h1:0<=no)(hp:aY n ts)(h:aN n no ts aU ys=true):Sw.MN (aq ts) (aq aU) (st0 n no) λx=>ys.getD x.toNat 0:=by
 unfold aN at h;rw[fH,fH]at h;obtain⟨e1,e2,e3⟩:=h;have e1:=fW e1;have ti:∀x y:Int,x<y->aq ts x y=true->aq aU (ys.getD x.toNat 0) (ys.getD y.toNat 0)=true:=λx y l t=>by
  rw[Js l]at t;exact iW.mp e3 _ (fW t)
 refine⟨λp hm=>?_,λp hm q hq t=>?_⟩
 ·obtain⟨a,b⟩:=jE.mp hm;rw[b];have hl:p.1.toNat<ys.length:=by omega
  have:=iW.mp e2 _ (Bb hl);rw[fH]at this;show ys.getD p.1.toNat 0∈up no.toNat;rw[gQ,eN hl];refine jD.mpr ⟨fW this.1,?_⟩;have:=fW this.2;show ys[p.1.toNat]<_;omega
 ·rcases yew p.1 q.1 with c|c|c
  ·exact ti _ _ c t
  ·rw[c,(WL (aU:=aU) hp).Y9]at t;cases t
  ·rw[iK aU];rw[iK ts]at t;exact ti _ _ c t
theorem Y0(h:HT.lexLt [c,d] [a,b]=false):a<=c:=by
 rw[HT.bQ,wcd]at h;refine WD λz=>h ?_;exact List.Lex.rel (by omega)
theorem Fg{L:List ζ}{r:L0}(h:L.Perm (r.map λe=>[e.1,e.2]))(hs:L.Pairwise λa b=>HT.lexLt b a=false)(hp:(r.map (·.1)).Perm (up n))(hg:∀e∈r,g e.1=e.2):L.map (λl=>l.getD 1 0)=(up n).map g:=by
 have sh:∀l∈L,l=[l.getD 0 0,g (l.getD 0 0)]:=λl hl=>by
  obtain⟨e,he,rfl⟩:=dF.mp (h.mem_iff.mp hl);show[e.1,e.2]=[e.1,g e.1];rw[hg e he]
 have fp:(L.map λl=>l.getD 0 0).Perm (up n):=by
  refine(h.map _).trans ?_;rw[oN];exact hp
 have nd:(L.map λl=>l.getD 0 0).Nodup:=fp.nodup_iff.mpr ((Ia n).imp λh e=>by omega);have le:(L.map λl=>l.getD 0 0).Pairwise (· <= ·):=by
  rw[J4];refine List.Pairwise.imp_of_mem (λ{a b} ha hb z=>?_) hs;rw[sh a ha,sh b hb]at z;exact Y0 z
 have e:(L.map λl=>l.getD 0 0)=up n:=Sw.qG fp (List.Pairwise.imp₂ (λa b x y=>by omega) le nd) (Ia n);rw[<-e,oN];refine SX λl hl=>?_;have:=sh l hl;rw[this];rfl
inductive qH(K:ag)(vs:List V)(H:Hp)(Q:VK)(E_:XK):Prop
 |mk(a b:af)(n no:Int)(ts aU:L0)(ri:Bool)(_:vs=[.ref a,.ref b])(_:aR K H a n ts)(_:aR K H b no aU)(_:ri=true->n<=no/\∀x y,0<=x->x<no->0<=y->y<no->x≠y->aq aU x y=true)(_:ur ri (Sw.cst no.toNat n.toNat)<=16000000)(_:∀v H',Same H H'->((v=.non/\¬∃ys,aN n no ts aU ys=true)\/∃r ys,v=.ref r/\SqT K H' r (ys.map V.int)/\aN n no ts aU ys=true)->Q v H')
theorem Fx{f f2 f3 C:af}
  {fd d2 d3:ψ}
  (F:Fun K "way_into" "way_into" nO f fd)
  (Cc:Cls K C)(eF:NoAttr K C "near")(iG:NoAttr K C "far")(aK:NoAttr K C "led_nowhere")(vq:mg "Search"=some (.ref C))(D1:Dp P w K mg base 7 "need_web" SJ ["thing"] (cN K))(D2:sH K C "__init__" "Search.__init__" iT ["self","web","other"] f2 d2)
  (Mk2:Mk K C f2)(abQ:FnOk P w K mg base CX0 9 f2 d2 ["self","web","other"] (yH K C))(D3:sH K C "lead" "Search.lead" Wa ["self","state"] f3 d3)(G3:FnOk P w K mg base CX0 24 f3 d3 ["self","state"] (Eu K C))(aL:mg "tuple"=none)(aG:mg "range"=none)(kO:mg "sorted"=none):
  FnOk P w K mg base CX0 25 f fd ["web","other"] (qH K):=by
 have G2m:FnOk P w K mg base CX0 23 f2 d2 ["self","web","other"] (yH K C):=abQ.mono (by decide);refine F.eG ["web","other","every","led"] λH Q hr h=>?_;obtain⟨a,b,n,no,ts,aU,ri,rfl,hA,hB,hri,hbu,qq⟩:=h;refine cg ?_;intro Y;refine⟨_,(aO (wz (pd D1 hr (aj (pv 0) aA))) (aO (wz (pd D1 hr (aj (pv 1) aA))) (aO (pS 2 (kI rfl rfl aL rfl aG (aj (bB fU (pv 1) aM) aA))) (aO (pS 3 (Hy (pe_make Mk2 G2m hr rfl vq D2.b .nil pass0 (aj (pv 0) (aj (pv 1) aA))) Cc D3.m G3 hr D3.b .nil pass0 (aj (pT JW aL (aj (pK ["place"] ["every"] [2] (Ec rfl aG (aj (bB fU (pv 0) aM) aA)) (pG 0) m9 (lY (aj (pv 0) (aj (pv 1) aA)))) aA)) aA))) (aZ (cu (pe_ifExp (iM op_isN (pv 3) pe_non) pe_non (pT JW aL (aj (pK ["place","image"] [] [] (wV (pB zW kO (aj (pv 3) aA))) (dY K (n:=2) rfl (jO (pG 0) (jO (pG 1) Al))) m9 (pv 1)) aA))))))))),?_⟩;refine Jr ?_;intro c5 c4 c3 c2;have h0:=hA.h0;have h10:=hA.h1;have h0':=hB.h0;have acp:=hB.h1;refine⟨_,rfl,.ref a,_,rfl,hA.web.dv.dx,hA.ok,λH1 s1=>?_⟩;refine⟨_,rfl,.ref b,_,rfl,(hB.same s1).web.dv.dx,hB.ok,λH2 s2=>?_⟩;have s02:=s1.trans s2;have hA2:=hA.same s02;have hB2:=hB.same s02;obtain⟨tt1,rr1,w1,_,_⟩:=id hA2.web;obtain⟨tt2,rr2,y1,_,_⟩:=id hB2.web;refine⟨_,rfl,b,_,_,.int no,rfl,rfl,y1,rfl,no,rfl,h0',by omega,λev hev=>?_⟩;rw[T8];have s3:=aP hev (.tup ((up no.toNat).map V.int));have eev:(upd H2 ev (.tup ((up no.toNat).map V.int))) ev=some (.tup ((up no.toNat).map V.int)):=aH;generalize (upd H2 ev (.tup ((up no.toNat).map V.int)))=H3 at *;have s03:=s02.trans s3;refine⟨_,rfl,_,rfl,λx dx hx hdx ne=>?_⟩;have s4:Same H3 (upd (upd H3 dx (.own x)) x (.ins C dx [])):=λc q z=>by rw[cW (jr z hx),cW (jr z hdx)];exact z
 have ex:(upd (upd H3 dx (.own x)) x (.ins C dx [])) x=some (.ins C dx []):=aH;generalize (upd (upd H3 dx (.own x)) x (.ins C dx []))=H4 at *;refine⟨x,dx,a,b,n,no,ts,aU,rfl,ex,(hA.same s03).same s4,(hB.same s03).same s4,λd H5 keep SV DN0 hd=>⟨rfl,?_⟩⟩;have s5:Same H3 H5:=λc q z=>keep c q (jr z hx) (s4 _ _ z);have s05:=s03.trans s5;have hA5:=hA.same s05;obtain⟨tt5,rr5,w5,_,_⟩:=id hA5.web;obtain⟨dx5,ln,lf,nn,ff,hS⟩:=id SV;refine⟨x,dx5,_,rfl,hS.at_,rfl,?_⟩;refine⟨_,rfl,a,_,_,.int n,rfl,rfl,w5,rfl,n,rfl,by omega,by omega,?_⟩;have abG:=s5 _ _ eev;let mH:Nat->List V->St->Hp->Prop:=λi acc σ H'=>∃as:η,acc=as.map V.ref/\as.length=i/\Same H5 H'/\(∀(j:Nat) p,as[j]? =some p->H' p=some (.tup [.int (j:Int),.ref ev]))/\∃o1,σ=[o1,some (.ref ev)];refine Mt (n:=n.toNat) mH ⟨[],rfl,rfl,Same.refl _,(λj p z=>by cases z),_,rfl⟩ (λi acc σ H' hi p=>?_) (by rw[eZ];omega) (λi acc σ H' hi p=>?_) (λacc σ H' p=>?_)
 ·obtain⟨as,rfl,hl,_⟩:=p;rw[aF];omega
 ·obtain⟨as,rfl,hl,sm,hh,o1,rfl⟩:=p;refine⟨_,rfl,_,rfl,szl,λpn hpn=>?_⟩;have sn:=aP hpn (.tup [.int (0+(i:Int)),.ref ev]);refine⟨as++[pn],by rw[bC];rfl,by rw[oO,hl];rfl,sm.trans sn,λj x z=>?_,_,rfl⟩;rw[ydl]at z;by_cases c:j<as.length
  ·rw[au c]at z;exact sn _ _ (hh j x z)
  ·rw[ao c]at z;have ej:j=as.length:=by
    rcases wgv (j-as.length) 1 with q|q
    ·omega
    ·rw[TQ (by show 1<=_;exact q)]at z;cases z
   rw[ej,wfz]at z;cases z;rw[ej,hl,aH,Wd]
 intro pl hpl;obtain⟨as,rfl,hl,sm,hh,_⟩:=p;refine⟨pl,_,rfl,.inl ⟨SqL.of aH,λpt hpt=>?_⟩⟩;have s6:=sm.trans ((aP hpl (.lst (as.map V.ref))).trans (aP hpt (.tup (as.map V.ref))));have g6:=(aP hpl (.lst (as.map V.ref))).trans (aP hpt (.tup (as.map V.ref)));have ept:(upd (upd H' pl (.lst (as.map V.ref))) pt (.tup (as.map V.ref))) pt=some (.tup (as.map V.ref)):=aH;generalize (upd (upd H' pl (.lst (as.map V.ref))) pt (.tup (as.map V.ref)))=H6 at *;have hst:DV K H6 (.ref pt) (NK.toD (st0 n no)):=by
  refine W4 (its:=as.map λp=>(p,ev)) (by rw[oN];exact SqT.of ept) ?_;have go:∀(bs:η) (j0:Nat),(∀(j:Nat) p,bs[j]? =some p->H6 p=some (.tup [.int ((j0+j:Nat):Int),.ref ev]))->RT K H6 (bs.map λp=>(p,ev)) ((ko j0 bs.length).map λk=>(((k:Nat):Int),up no.toNat)):=λbs=>by
   induction bs with
   |nil=>exactλ_ _=>.nil
   |cons p bs ih=>
    intro j0 hj;refine .cons ⟨SqT.of (hj 0 p rfl),SqT.of (s6 _ _ abG)⟩ (ih (j0+1) λj q z=>?_);have:=hj (j+1) q z
    rwa [show j0+(j+1)=j0+1+j by omega]at this
  have:=go as 0 λj p z=>by rw[wfw];exact g6 _ _ (hh j p z)
  rw[hl,<-wdo]at this;unfold st0 up;rw[oN];exact this
 have kl:(st0 n no).length=n.toNat:=by unfold st0;rw[aF,tM]
 have hok:=WL (aU:=aU) hA.pk;refine⟨n.toNat,by omega,x,pt,d,n,no,ts,aU,[],st0 n no,ri,rfl,⟨SV.same s6,DN0.same s6,λj hj=>(nomatch hj),hst,X5 h0 h0',hok,h10,by rw[kl];omega,λr=>?_⟩,kl,by show 0+_<=_;omega,λv H7 ks' LQ RS=>?_⟩
 ·obtain⟨q1,q2⟩:=hri r;refine⟨q2,λp hp=>?_⟩;rw[(jE.mp hp).2,kl,tM];refine⟨(Ia _).imp λh e=>by omega,λy hy=>?_,by omega⟩;have:=jD.mp hy;omega
 have hd0:H d=none:=by
  cases e:H d with
  |none=>rfl
  |some q=>rw[s4 _ _ (s03 _ _ e)]at hd;cases hd
 have s07:Same H H7:=λc q z=>LQ.keep c q (jr z hd0) (s6 _ _ (s05 _ _ z));rcases RS with⟨rfl,Ti⟩|⟨l,r,rfl,⟨jts,j1,j2,j3⟩,⟨hperm,g,hg,he⟩,rl⟩
 ·refine⟨_,rfl,rfl,_,rfl,?_⟩;have eb:decide (V.non=V.non)=true:=rfl;rw[eb];apply iteT;exact qq _ _ s07 (.inl ⟨rfl,λ⟨ys,hy⟩=>Ti ⟨_,Ld h0 h0' hA.pk hy⟩⟩)
 ·refine⟨_,rfl,rfl,_,rfl,?_⟩;have eb:decide (V.ref l=V.non)=false:=gj λz=>by cases z
  rw[eb];apply iteF;have jl:jts.length=r.length:=by have:=gR cw j3;rwa [aF,aF]at this
  have j2':∀p∈jts,SqT K H7 p.1 (p.2.map V.int)/\p.2≠[]:=λp hp=>⟨j2 p hp,λz=>by
   have m:p.2∈r.map λe=>[e.1,e.2]:=by rw[<-j3];exact dF.mpr ⟨p,hp,rfl⟩
   obtain⟨e,_,q⟩:=dF.mp m;rw[z]at q;cases q⟩
  refine⟨_,rfl,l,jts,rfl,SqL.of j1,j2',by omega,λl' its' hl' hpm hpw=>?_⟩;have s8:=aP hl' (.lst (its'.map λp=>V.ref p.1));have el':(upd H7 l' (.lst (its'.map λp=>V.ref p.1))) l'=some (.lst (its'.map λp=>V.ref p.1)):=aH;generalize (upd H7 l' (.lst (its'.map λp=>V.ref p.1)))=H8 at *;refine⟨l',_,rfl,SqL.of el',λhz=>?_⟩;let Ad:Nat->List V->St->Hp->Prop:=λi acc σ H'=>acc=((its'.take i).map λp=>p.2.getD 1 0).map V.int/\H'=H8/\∃o1 o2,σ=[o1,o2];refine Eb (xs:=its'.map λp=>V.ref p.1) Ad ⟨rfl,rfl,_,_,rfl⟩ (λi acc σ H' _ p=>by rw[p.2.1];exact SqL.of el') (λi acc σ H' hi p=>by rw[p.1,aF,aF,rQ];exact yq _ _) hz (λi u acc σ H' hu p=>?_) (λacc σ H' p=>?_)
  ·obtain⟨rfl,rfl,o1,o2,rfl⟩:=p;rw[cV]at hu;cases ei:its'[i]? with
   |none=>rw[ei]at hu;cases hu
   |some q=>
    rw[ei]at hu;cases hu;have qm:=hpm.mem_iff.mp (nu ei);have m:q.2∈r.map λe=>[e.1,e.2]:=by rw[<-j3];exact dF.mpr ⟨q,qm,rfl⟩
    obtain⟨e,_,eq⟩:=dF.mp m;have tq:=s8.tup (j2 q qm);rw[<-eq]at tq;refine⟨q.1,_,rfl,tq,rfl,_,_,rfl,_,_,rfl,rfl,?_⟩;refine⟨_,rfl,?_,rfl,_,_,rfl⟩;rw[qx,ei,bC,bC];show _=_++[V.int (q.2.getD 1 0)];rw[<-eq];rfl
  ·intro pz hpz;obtain⟨rfl,rfl,_⟩:=p;rw[aF,qw];refine⟨pz,_,rfl,.inl ⟨SqL.of aH,λpw abA=>?_⟩⟩;have s9:=(aP hpz (.lst ((its'.map λp=>p.2.getD 1 0).map V.int))).trans (aP abA (.tup ((its'.map λp=>p.2.getD 1 0).map V.int)));rw[Ih]at hperm;have sw:=Fg (L:=its'.map (·.2)) (by rw[<-j3];exact hpm.map _) (by rw[J4];exact hpw) hperm he;rw[oN]at sw;refine qq _ _ (s07.trans (s8.trans s9)) (.inr ⟨pw,(up n.toNat).map g,rfl,SqT.of ?_,Kf h0 h0' hA.pk hg⟩);rw[<-sw];exact aH
inductive Fd(K:ag)(vs:List V)(H:Hp)(Q:VK)(E_:XK):Prop
 |mk(n:Int)(_:vs=[.int n])(_:0<=n)(_:n<=10)(_:∀r H',Same H H'->aR K H' r n (rows tt n n.toNat)->Q (.ref r) H')
theorem U0{f:af}{fd:ψ}
  (F:Fun K "_law_e_all_tied" "_law_e_all_tied" zdb f fd)(aG:mg "range"=none)(aL:mg "tuple"=none):
  FnOk P w K mg base CX0 1 f fd ["n"] (Fd K):=by
 refine F.eG ["n","ties","i"] λH Q hr h=>?_;obtain⟨n,rfl,hn0,hn1,q⟩:=h;refine cg ?_;intro Y;refine⟨_,(aO (pS 1 (pe_lst aA)) (aO (Ay wX rfl (Ec rfl aG (aj (pv 0) aA)) (pG 2) (aZ (wz (pe_bm Te jb PySem.F.type_list_extend mt_extend (pv 1) (aj (pK ["j"] ["i"] [2] (pi_range2 rfl aG (aj (bW sI (pv 2) aM) (aj (pv 0) aA))) (pG 0) m9 (lY (aj (pv 1) (aj (pv 0) aA)))) aA))))) (aZ (cu (lY (aj (pv 0) (aj (pT JW aL (aj (pv 1) aA)) aA))))))),?_⟩;refine lg ?_;intro c3 c2;refine⟨szl,λl hl=>?_⟩;refine⟨_,rfl,n,rfl,by omega,by omega,?_⟩;let mH:Nat->St->Hp->Prop:=λi σ H'=>Same H H'/\(∃rs,H' l=some (.lst rs)/\cF K H' rs ((rows tt n i).map pairD))/\∃o,σ=[some (.int n),some (.ref l),o];refine Tt (n:=n.toNat) mH ⟨aP hl _,⟨[],aH,.nil⟩,_,rfl⟩ (λi σ H' hi p=>?_) (λσ H' p=>?_)
 ·obtain⟨sm,⟨rs,hr1,hr2⟩,o,rfl⟩:=p;have ad:=hr2.len;rw[aF]at ad;have h45:=pairs_len (IW (so:=tt) (m:=n) (i:=i)) hn1;refine⟨_,rfl,.inl ⟨rfl,_,SqL.of hr1⟩,_,rfl,_,_,rfl,rfl,_,rfl,_,_,rfl,⟨by omega,by omega,by omega,by omega⟩,?_⟩;let Ad:Nat->List V->St->Hp->Prop:=λk acc σ H2=>Same H' H2/\acc.length=k/\cF K H2 acc ((row tt (0+(i:Int)) k).map pairD)/\∃o1,σ=[o1,some (.int (0+(i:Int)))];refine Mt (n:=(n-(0+(i:Int)+1)).toNat) Ad ⟨Same.refl _,rfl,.nil,_,rfl⟩ (λk acc σ H2 hk p=>by rw[p.2.1];exact aQ _) (by rw[eZ];omega) (λk acc σ H2 hk p=>?_) (λacc σ H2 p=>?_)
  ·obtain⟨s2,hl2,hd,o1,rfl⟩:=p;refine⟨_,rfl,_,rfl,szl,λp hp=>?_⟩;have s3:=aP hp (.tup [.int (0+(i:Int)),.int (0+(i:Int)+1+(k:Int))]);refine⟨s2.trans s3,by rw[oO,hl2];rfl,?_,_,rfl⟩;rw[uP,bC,au (show tt (0+(i:Int)) (0+(i:Int)+1+(k:Int))=true from rfl)];exact(hd.same s3).append (.cons (.tup (SqT.of aH) (.cons (.int _) (.cons (.int _) .nil))) .nil)
  ·intro p1 hp1;obtain⟨s2,hl2,hd,_⟩:=p;have s3:=aP hp1 (.lst acc);have hr3:=s3 _ _ (s2 _ _ hr1);refine⟨l,p1,rs,acc,rfl,rfl,hr3,aH,?_,?_⟩
   ·rw[eZ];omega
   ·have x4:aB l (upd H2 p1 (.lst acc)) (upd (upd H2 p1 (.lst acc)) l (.lst (rs++acc))):=(aB.refl _ _).upd;refine⟨?_,⟨_,aH,?_⟩,_,rfl⟩
    ·intro b o hb;have nb:b≠l:=λe=>by rw[e,hl]at hb;cases hb
     exact x4 _ _ nb (s3 _ _ (s2 _ _ (sm _ _ hb)))
    ·rw[jf];exact iC x4 hr3 (by rw[bC];exact((hr2.same s2).same s3).append (hd.same s3))
 ·obtain⟨sm,⟨rs,hr1,hr2⟩,o,rfl⟩:=p;refine⟨_,rfl,_,rfl,l,rs,rfl,.inl ⟨SqL.of hr1,λt ht=>⟨szl,λwb hwb=>?_⟩⟩⟩;have s3:=aP ht (.tup rs);have s4:=aP hwb (.tup [.int n,.ref t]);have uO:=s3.trans s4;obtain⟨g1,g2⟩:=nF hn0 hn1 (wcb (rows tt n n.toNat));exact q wb _ (sm.trans uO) ⟨⟨t,rs,SqT.of aH,SqT.of (s4 _ _ aH),hr2.same uO⟩,hn0,hn1,g1,g2⟩
end
theorem vB(hD:0<D):(bw a D).2∣D:=⟨ay a.natAbs D,(Nat.div_mul_cancel (Xw _ _)).symm⟩
theorem vA(hD:0<D):(bw a D).1*((D/(bw a D).2:Nat):Int)=a:=by
 have l:=Ej a hD;have e:=l.eq;have hv:=l.pos;obtain⟨c,hc⟩:=vB (a:=a) hD;generalize (bw a D).1=u at *;generalize (bw a D).2=v at *;have:D/v=c:=by rw[hc];exact Mu _ hv
 rw[this];rw[hc]at e
 push_cast at e
 refine yey (a:=(v:Int)) (by omega) ?_
 grind
theorem Vg(hD:0<D)(ha:0<=a):0<=(bw a D).1:=(Ej a hD).nn ha
theorem Vf(hD:0<D)(ha:0<=a):0<=(bw a D).1/\0<(bw a D).2/\(bw a D).2∣D:=⟨Vg hD ha,(Ej a hD).pos,vB hD⟩
theorem Jo{ss:List ζ}{Y:Nat->Int}(hD:0<D)(hY:∀k,0<=Y k)(g:ζ->Bool):∀m,oU D (((((ai m).filter λk=>decide (0<Y k)).map λk=>(ss.getD k [],bw (Y k) D)).filter λq=>g q.1).map (·.2))=Sx.sm m λk=>if g (ss.getD k [])=true then Y k else 0
 |0=>rfl
 |m+1=>by
  have ih:=Jo (ss:=ss) hD hY g m;rw[yt,J5,bC,J5,bC,um,ih];show _=Sx.sm m _+(if g (ss.getD m [])=true then Y m else 0);congr 1;by_cases hy:0<Y m
  ·rw[Wk (by simpa using hy)];by_cases hg:g (ss.getD m [])=true
   ·rw[List.filter_nil,iQ,yfm,Wk (by exact hg),au hg];exact(zK D _).trans (vA hD)
   ·rw[List.filter_nil,iQ,yfm,Wj (by exact hg),ao hg];rfl
  ·rw[Wj (by simpa using hy)];have:Y m=0:=by have:=hY m;omega
   rw[this];show(0:Int)=_;split<;>rfl
theorem Oq:∀k,(∀i,i<k->f i<=g i)->Sx.sm k f<=Sx.sm k g
 |0,_=>tK _
 |k+1,h=>Int.add_le_add (Oq k λi hi=>h i (by omega)) (h k (by omega))
structure ZP(n:Int)(ts:L0)(q:ζ×(Int×Nat)):Prop where
 up:q.1.Pairwise (· < ·)
 lt:∀x∈q.1,0<=x/\x<n
 no:ts.filter (inB q.1)=[]
 pos:0<q.2.1
 bot:0<q.2.2
 big:q.2.2<=39916800
 low:ay q.2.1.natAbs q.2.2=1
structure aa7(n:Int)(ts:L0)(l:List (ζ×(Int×Nat))):Prop where
 all:∀q∈l,ZP n ts q
 rise:(l.map (·.1)).Pairwise λp q=>HT.lexLt p q=true
 len:l.length<=36
theorem Uc(hS:cH ss ts false n)(h:s∈ss):oE ts false n s:=nM n s (fD.mp (hS.1.mem_iff.mp h)).1
theorem U5(hp:aY n ts)(h:oE ts false k s):ts.filter (inB s)=[]:=by
 refine ydb.mpr λp hp1 hc=>?_;unfold inB at hc;rw[fH]at hc;have m1:=fW hc.1;have m2:=fW hc.2;have hlt:=hp.2 p hp1;have hz:=h.all p.1 m1 p.2 m2 (by omega);unfold bN at hz;rw[bY (show(p.1,p.2)∈ts from hp1)]at hz;cases hz
theorem QS{n:Nat}(hp:aY (n:Int) ts)(hn:n<=10)(hS:cH ss ts false n)(h:Sh n ss wl ov Z Y X):aa7 (n:Int) ts (dw ss ov Y):=by
 have nd:ss.Nodup:=hS.1.nodup_iff.mpr ((gB n).filter _);have up:ss.Pairwise λp q=>HT.lexLt p q=true:=(hS.2.and nd).imp λ⟨a,b⟩=>QK a b;have m36:=uK hS hn;refine⟨λq hq=>?_,?_,?_⟩
 ·obtain⟨k,hk,rfl⟩:=dF.mp hq;obtain⟨hk1,hk2⟩:=fD.mp hk;have hk3:=qC.mp hk1;have e:ss.getD k []=ss[k]:=by rw[gQ,eN hk3];rfl
  have K1:=Uc hS (Bb hk3);have hy:=fW hk2;have l:=Ej (Y k) h.pos;refine⟨by rw[e];exact K1.up,by rw[e];exact K1.lt,by rw[e];exact U5 hp K1,(Ce h.pos).mpr hy,l.pos,bR l.lv h.big,l.cop⟩
 ·unfold dw;rw[oN];have:((ai ss.length).filter λk=>decide (0<Y k)).Pairwise (· < ·):=ydc.filter _;refine J4.mpr (this.imp_of_mem λ{a b} ha hb hab=>?_);have hb3:=qC.mp (fD.mp hb).1;have e:∀k,(hk:k<ss.length)->ss.getD k []=ss[k]:=λk hk=>by rw[gQ,eN hk];rfl
  show HT.lexLt (ss.getD a []) (ss.getD b [])=true;rw[e a (by omega),e b hb3];exact Wm.mp up a b (by omega) hb3 hab
 ·unfold dw;rw[aF];exact bR (sO _ _) (by rw[yu];exact m36)
theorem yg(hS:cH ss ts false n)(h:Sh n ss wl ov Z Y X)(hk:oE ts false n xs):
  (Sx.sm n λp=>if decide (((p:Nat):Int)∈xs)=true then X p else 0)<=(ov:Int):=by
 obtain⟨t,ht,hx⟩:=Dg hk;obtain⟨k,hk',rfl⟩:=Ed (hS.1.mem_iff.mpr ht);refine yet (Oq n λp hp=>?_) (h.lig k hk');have hxn:=h.xn p;by_cases c:decide (((p:Nat):Int)∈xs)=true
 ·rw[au c,au]
  ·exact tK _
  ·unfold gU;rw[gQ,eN hk'];exact bY (hx _ (fW c))
 ·rw[ao c];split
  ·exact hxn
  ·exact tK _
theorem El(hp:p<n):wD (fQ n) p=1:=by
 unfold wD fQ;rw[gQ,List.getElem?_replicate_of_lt hp];rfl
theorem RZ.ju(h:RZ n xs):oF.ju n (.tuple (xs.map am))=true:=by
 unfold oF.ju;rw[fH];refine⟨?_,?_⟩
 ·rw[SN,iW];intro x hx;have:=h.lt x hx;show(decide (0<=x)&&decide (x<n))=true;rw[bY this.1,bY this.2];rfl
 ·rw[oN];have e:xs.map (intD∘am)=xs:=(SX λx _=>rfl).trans (List.map_id xs);rw[e];unfold fO;rw[iW];intro k hk;rw[qC]at hk;have h2:=Wm.mp h.WM k (k+1) (by omega) (by omega) (by omega);have g:∀j,(hj:j<xs.length)->xs.getD j 0=xs[j]:=λj hj=>by rw[gQ,eN hj];rfl
  rw[g k (by omega),g (k+1) (by omega)];exact bY h2
theorem qF(h:0<=n):Ac n (fQ n.toNat):=⟨by unfold fQ;rw[ydh];omega,λx hx=>by unfold fQ at hx;rw[(List.mem_replicate.mp hx).2];decide⟩
theorem Ow(h:ZP n ts q):Fj n ts (mV q)=true:=by
 show(ju n (.tuple (q.1.map am))&&((true&&(true&&(decide (0<=q.2.1)&&(decide (1<=((q.2.2:Nat):Int))&&decide (((q.2.2:Nat):Int)<=1000000000)))))&&(decide (ts.filter (inB ((q.1.map am).map intD))=[])&&decide (0<q.2.1))))=true;have e:(q.1.map am).map intD=q.1:=by rw[oN];exact wgd q.1
 have a:=h.pos;have b:=h.bot;have c:=h.big;rw[RZ.ju ⟨h.up,h.lt⟩,e,bY h.no,bY (show(0:Int)<=q.2.1 by omega),bY (show(1:Int)<=((q.2.2:Nat):Int) by omega),bY (show((q.2.2:Nat):Int)<=1000000000 by omega),bY a];rfl
theorem Uu(h:p<n):(fQ n).getD p 0=1:=by
 unfold fQ;rw[gQ,wfc,au h];rfl
section
variable{K:ag}
noncomputable def Tp(f:Int×Nat):υ:=.tuple ([f.1,((f.2:Nat):Int)].map am)
theorem JN.dv(h:JN K H a f):DV K H (.ref a) (Tp f):=.tup (xs:=[f.1,((f.2:Nat):Int)].map V.int) h (cF.ints _)
theorem Xd(i):ar (.int i) (.int i)=true:=by show(i==i)=true;simp
theorem frD_eq(f):ar (Tp f) (Tp f)=true:=by
 show(ar (.int f.1) (.int f.1)&&(ar (.int ((f.2:Nat):Int)) (.int ((f.2:Nat):Int))&&aS [] []))=true;rw[Xd,Xd];simp[aS]
theorem VN(f g):min (Tp f).depth (Tp g).depth<=64:=by
 show min (max 0 (max 0 0)+1) (max 0 (max 0 0)+1)<=64;decide
theorem JB(f):(Tp f).canLay0=true:=rfl
theorem NZ(hS:mD K H a ns)(h63:ns.length<=63)(hp:H p=none):qb K (upd H p (.lst [.ref a,.int 0,.int 0])) p a ns:=
 ⟨⟨0,0,aH,tK _,tK _⟩,hS.same (aP hp _),h63⟩
noncomputable def abe(K:ag):List V->Hp->VK->Prop:=λxs H Q=>∃p ys,xs=[.ref p]/\(SqL K H p ys\/SqT K H p ys)/\(ys.length<=16777216->Q (.int ys.length) H)
theorem NT{r:St}{Q:Bool->Hp->Prop}(tv:qb K H tp cO ns)(hQ:∀b,Q b H):
  tAnd (tTest (tOp (rI0 λi j=>.bl (decide (j<i))) (tVar 2) (tC (.int 1)))) (tTest (tOp (rI0 λi j=>.bl (decide (j<=i))) (tOp (rIxL K) (tVar 1) (tC (.int 1))) (tCB (abe K) (tCons (tVar 0) tNil)))) (some (.ref cO)::some (.ref tp)::some (.int k)::r) H Q:=by
 obtain⟨⟨i,rr,hH,_,_⟩,hS,_⟩:=tv;refine⟨_,rfl,_,_,rfl,rfl,_,rfl,?_⟩;refine ite2 (λc=>?_) (λc=>hQ _);exact⟨_,rfl,tp,_,_,.int i,rfl,rfl,SqL.of hH,rfl,_,rfl,cO,_,rfl,.inl hS.sq,λ_=>⟨_,_,rfl,rfl,_,rfl,hQ _⟩⟩
theorem V3(hS:mD K H a ns)(h63:ns.length<=63)(hp:H p=none):dI K (upd H p (.lst [.ref a,.int 0,.int 0])) p a ns 0:=
 ⟨NZ hS h63 hp,0,0,aH,tK _⟩
end
theorem Lw(xs ys:ζ):ar (.tuple (xs.map am)) (.tuple (ys.map am))=decide (xs=ys):=by
 have:∀(xs ys:ζ),aS (xs.map am) (ys.map am)=decide (xs=ys):=by
  intro xs
  induction xs with
  |nil=>intro ys;cases ys<;>simp[aS]
  |cons x xs ih=>intro ys;cases ys with
   |nil=>simp[aS]
   |cons y ys=>
    have e:(x==y)=decide (x=y):=by rw[sS];simp
    simp[aS,ar,ih,e]
 simp[ar,this]
theorem Gz(l:ζ):bj (l.map am)<=0:=by
 induction l with
 |nil=>exact aQ _
 |cons x l ih=>show max 0 (bj (l.map am))<=0;omega
noncomputable def tI(s:ζ):υ:=.tuple (s.map am)
noncomputable def Lj(p:Int)(l:List (ζ×(Int×Nat))):List (Int×Nat):=(l.filter λq=>decide (p∈q.1)).map (·.2)
theorem Jt(hS:cH ss ts false n)(h:Sh n ss wl ov Z Y X):∀{l:List (ζ×(Int×Nat))},(∀q∈l,oE ts false n q.1/\0<=q.2.1)->(Sx.sm n λp=>X p*oU D (Lj ((p:Nat):Int) l))<=oU D (l.map (·.2))*(ov:Int)
 |[],_=>by
  rw[Sx.dO n λi _=>by show X i*0=0;rw[Az]];show(0:Int)<=0*(ov:Int);rw[M8];exact tK _
 |q::l,hq=>by
  have ih:=Jt (D:=D) hS h (l:=l) λq' h'=>hq q' (cY _ h');obtain⟨k,q0⟩:=hq q cC;have a:=yg hS h k;have w0:0<=q.2.1*((D/q.2.2:Nat):Int):=HS q0 (wen _);have e:(Sx.sm n λp=>X p*oU D (Lj ((p:Nat):Int) (q::l)))=(Sx.sm n λp=>(q.2.1*((D/q.2.2:Nat):Int))*(if decide (((p:Nat):Int)∈q.1)=true then X p else 0))+Sx.sm n λp=>X p*oU D (Lj ((p:Nat):Int) l):=by
   rw[<-Sx.j5];refine Sx.bA n λp _=>?_;unfold Lj;by_cases c:decide (((p:Nat):Int)∈q.1)=true
   ·rw[Wk (by exact c),au c,iQ];show X p*(q.2.1*((D/q.2.2:Nat):Int)+_)=_
    grind
   ·rw[Wj (by exact c),ao c]
    grind
  rw[e,Sx.eV];have m:=XF a w0;show _<=(q.2.1*((D/q.2.2:Nat):Int)+oU D (l.map (·.2)))*(ov:Int);rw[wgm];exact Int.add_le_add m ih
theorem ZD(q):ar (mV q) (mV q)=true:=by
 show(ar (tI q.1) (tI q.1)&&(ar (Tp q.2) (Tp q.2)&&aS [] []))=true;rw[show ar (tI q.1) (tI q.1)=decide (q.1=q.1)from Lw q.1 q.1,bY rfl,frD_eq];simp[aS]
theorem JD:∀l:List (ζ×(Int×Nat)),aS (l.map mV) (l.map mV)=true
 |[]=>by simp[aS]
 |q::l=>by
  show(ar (mV q) (mV q)&&aS (l.map mV) (l.map mV))=true;rw[ZD,JD l];rfl
theorem zy:∀l:List (ζ×(Int×Nat)),aE (l.map mV)=true
 |[]=>rfl
 |q::l=>by
  show((mV q).canLay0&&aE (l.map mV))=true;rw[zy l];show((aE (q.1.map am)&&true)&&true)=true;rw[Hz];rfl
theorem JG:∀l:List (ζ×(Int×Nat)),bj (l.map mV)<=2
 |[]=>dX _
 |q::l=>by
  have:=JG l;have d:=Gz q.1;show max (max (bj (q.1.map am)+1) (max (max 0 (max 0 0)+1) 0)+1) (bj (l.map mV))<=2;omega
end Hs
namespace L2
open PySem PySem.Spec PyProof.Rows
theorem Dq(h:i.natAbs<=10^200):Builtin.Int.intBits i<=2^20:=by
 refine bR (intBits_le_iff.mpr (RK h)) (by decide+kernel)
section
variable{X:Cx}
theorem ud:OpR X (cA .Mult) (rI (λi j=>i.natAbs<=10^200/\j.natAbs<=10^200) λi j=>.int (i*j)):=
 opI λi j _ _ _ _ _ hc q=>mul_int q (IntMulOk.of_bits (Dq hc.1) (Dq hc.2))
end
end L2
namespace Hs
open PySem L2 oF
theorem Dr{a:Nat}(h:a<=10^100):(a:Int).natAbs<=10^200:=bR (show a<=10^100 from h) (by decide+kernel)
theorem zq(h:Low a b u v)(h':Low c d u' v')(hb:0<b)(hd:0<d)(e:a*(d:Int)=c*(b:Int)):u=u'/\v=v':=by
 have x:u*(v':Int)=u'*(v:Int):=by
  have hbd:((b:Int)*(d:Int))≠0:=by
   have:(0:Int)<(b:Int)*(d:Int):=Wc (by omega) (by omega);omega
  refine yfc hbd ?_
  calc ((b:Int)*(d:Int))*(u*(v':Int))=(u*(b:Int))*((d:Int)*(v':Int)):=by ac_rfl
   _=(a*(v:Int))*((d:Int)*(v':Int)):=by rw[h.eq]
   _=(a*(d:Int))*((v:Int)*(v':Int)):=by ac_rfl
   _=(c*(b:Int))*((v:Int)*(v':Int)):=by rw[e]
   _=(c*(v':Int))*((b:Int)*(v:Int)):=by ac_rfl
   _=(u'*(d:Int))*((b:Int)*(v:Int)):=by rw[h'.eq]
   _=((b:Int)*(d:Int))*(u'*(v:Int)):=by ac_rfl
 have y:u.natAbs*v'=u'.natAbs*v:=by
  have:=gR Int.natAbs x;rw[yfl,yfl]at this;exact this
 have d1:v∣v':=wdf (k:=v) (m:=u.natAbs) (by rw[Nat.coprime_comm];exact h.cop) ⟨u'.natAbs,by rw[y,HF]⟩;have d2:v'∣v:=wdf (k:=v') (m:=u'.natAbs) (by rw[Nat.coprime_comm];exact h'.cop) ⟨u.natAbs,by rw[<-y,HF]⟩;have ev:=Nat.dvd_antisymm d1 d2;refine⟨?_,ev⟩;rw[ev]at x;exact yey (by have:=h'.pos;omega) x
noncomputable def Xc(p q:Nat×Nat):Nat×Nat:=(p.1*q.2+q.1*p.2,p.2*q.2)
noncomputable def fsum(fs:List (Nat×Nat)):Nat×Nat:=fs.foldl Xc (0,1)
theorem q9(fs)(q):fsum (fs++[q])=Xc (fsum fs) q:=by unfold fsum;rw[wez];rfl
noncomputable def FrB(q:Nat×Nat):Prop:=(0<q.1/\q.1<=10^9)/\(0<q.2/\q.2<=10^9)
noncomputable def Dy(fs:List (Nat×Nat)):Prop:=∀q∈fs,FrB q
theorem zG:∀fs:List (Nat×Nat),Dy fs->0<(fsum fs).2/\(fsum fs).2<=(10^9)^fs.length/\(fsum fs).1<=fs.length*(10^9)^fs.length:=by
 intro fs;refine wdn (P:=λfs=>Dy fs->0<(fsum fs).2/\(fsum fs).2<=(10^9)^fs.length/\(fsum fs).1<=fs.length*(10^9)^fs.length) (λ_=>⟨by decide,by decide,by decide⟩) (λl q ih h=>?_) fs;obtain⟨h1,h2,h3⟩:=ih λp hp=>h p (S6 _ hp);obtain⟨⟨q1,q2⟩,q3,q4⟩:=h q (ig _ (fV.mpr rfl));rw[q9,oO,wfv,yfn];generalize (10^9)^l.length=M at *;generalize hN:10^9=N at *;refine⟨kS h1 q3,Xp h2 q4,?_⟩;show(fsum l).1*q.2+q.1*(fsum l).2<=(l.length+1)*(M*N);have a1:(fsum l).1*q.2<=l.length*M*N:=Xp h3 q4;have a2:q.1*(fsum l).2<=N*M:=Xp q2 h2;rw[wgn,Nat.one_mul,<-Nb,HF M N];omega
theorem aar(h:k<=10):(10^9)^k<=10^90:=bR (Xz (by decide) h) (by decide)
structure Rep(fs:List (Nat×Nat))(a b:Nat):Prop where
 pos:0<b
 eq:a*(fsum fs).2=(fsum fs).1*b
theorem Py{a b c d:Nat}(h:Rep fs a b)(hd:0<d):Rep (fs++[(c,d)]) (a*(d/ay b d)+c*(b*(d/ay b d)/d)) (b*(d/ay b d))/\d/ay b d<=d/\b*(d/ay b d)/d<=b:=by
 have hg:0<ay b d:=yek _ h.pos;obtain⟨b1,hb⟩:=wfm b d;obtain⟨c1,hc⟩:=Xw b d;generalize ay b d=g at *;have e1:d/g=c1:=by rw[hc];exact Mu _ hg
 have e2:b*c1=d*b1:=by rw[hb,hc,Nb,HF b1 c1,Nb]
 have e3:b*c1/d=b1:=by rw[e2];exact Mu _ hd
 have c0:0<c1:=by
  rcases ydv c1 with q|q
  ·rw[q]at hc;simp at hc;omega
  ·exact q
 have cl:c1<=d:=by rw[hc];exact yeo _ hg
 have bl:b1<=b:=by rw[hb];exact yeo _ hg
 rw[e1,e3];refine⟨⟨kS h.pos c0,?_⟩,cl,bl⟩;rw[q9];show(a*c1+c*b1)*((fsum fs).2*d)=((fsum fs).1*d+c*(fsum fs).2)*(b*c1);have q:=h.eq;generalize (fsum fs).1=A at *;generalize (fsum fs).2=B at *;have x1:a*c1*(B*d)=A*d*(b*c1):=by
  calc a*c1*(B*d)=(a*B)*(c1*d):=by simp only[Nb,wfa,HF]
   _=(A*b)*(c1*d):=by rw[q]
   _=A*d*(b*c1):=by simp only[Nb,wfa,HF]
 have x2:c*b1*(B*d)=c*B*(b*c1):=by
  calc c*b1*(B*d)=c*B*(d*b1):=by simp only[Nb,wfa,HF]
   _=c*B*(b*c1):=by rw[e2]
 rw[wgn,wgn,x1,x2]
noncomputable def vC(fs:List (Nat×Nat)):Int×Nat:=(((fsum fs).1:Int)/((ay ((fsum fs).1:Int).natAbs (fsum fs).2:Nat):Int),(fsum fs).2/ay ((fsum fs).1:Int).natAbs (fsum fs).2)
theorem xR(h:Dy fs):Low ((fsum fs).1:Int) (fsum fs).2 (vC fs).1 (vC fs).2:=Gh _ _ (zG fs h).1
theorem Vd(h:Dy fs)(R:Rep fs a b)(L:Low (a:Int) b u v):u=(vC fs).1/\v=(vC fs).2:=by
 refine zq L (xR h) R.pos (zG fs h).1 ?_;have:=R.eq;rw[<-Nf,<-Nf,this]
noncomputable abbrev Row:=ζ×(Nat×Nat)
noncomputable def gH(xs far:ζ)(i:Nat):ζ:=((ai i).filter λ(t:Nat)=>decide (xs.getD t 0∈far)).map λ(t:Nat)=>(t:Int)
noncomputable def ak(xs far:ζ):ζ:=gH xs far xs.length
theorem sy(xs far)(i):gH xs far (i+1)=if decide (xs.getD i 0∈far)=true then gH xs far i++[(i:Int)]else gH xs far i:=by
 unfold gH;rw[yt,J5,bC];by_cases h:decide (xs.getD i 0∈far)=true
 ·rw[au h,Ao,au h];rfl
 ·rw[ao h,Ao,ao h];simp
theorem Ga(xs far)(i):(gH xs far i).length<=i:=by
 unfold gH;rw[aF];exact bR (sO _ _) (by rw[yu];exact aQ _)
noncomputable def shs(xs:ζ)(rows:List Row)(k:ζ):List (Nat×Nat):=(rows.filter λr=>decide (ak xs r.1=k)).map (·.2)
theorem Bl(xs)(rows)(r)(k):shs xs (rows++[r]) k=if ak xs r.1=k then shs xs rows k++[r.2]else shs xs rows k:=by
 unfold shs;rw[J5,bC];by_cases h:ak xs r.1=k
 ·rw[au h,Ao,au (bY h)];rfl
 ·rw[ao h,Ao,ao (λz=>h (fW z))];simp
theorem IV(xs)(rows)(k):(shs xs rows k).length<=rows.length:=by unfold shs;rw[aF];exact sO _ _
theorem Ov{rows:List Row}(h:∀r∈rows,FrB r.2):Dy (shs xs rows k):=λq hq=>by
 obtain⟨r,hr,rfl⟩:=dF.mp hq;exact h r (fD.mp hr).1
structure Keys(xs:ζ)(rows:List Row)(ks:List ζ):Prop where
 WM:ks.Pairwise λp q=>HT.lexLt p q=true
 mem:∀k,k∈ks↔k≠[]/\shs xs rows k≠[]
theorem zu(h:HT.lexLt a a=true):False:=by rw[vG a a h]at h;cases h
theorem uJ:∀{l m:List ζ},(l.Pairwise λp q=>HT.lexLt p q=true)->(m.Pairwise λp q=>HT.lexLt p q=true)->(∀k,k∈l↔k∈m)->l=m
 |[],[],_,_,_=>rfl
 |[],b::m,_,_,h=>nomatch (h b).mpr cC
 |a::l,[],_,_,h=>nomatch (h a).mp cC
 |a::l,b::m,hl,hm,h=>by
  rw[yfj]at hl hm;have e:a=b:=by
   rcases cX.mp ((h a).mp cC)with e|e
   ·exact e
   ·rcases cX.mp ((h b).mpr cC)with e2|e2
    ·exact e2.symm
    ·have:=vG b a (hm.1 a e);rw[hl.1 b e2]at this;cases this
  subst e;rw[uJ hl.2 hm.2 λk=>?_];constructor
  ·intro hk;rcases cX.mp ((h k).mp (cY _ hk))with e|e
   ·subst e;exact(zu (hl.1 k hk)).elim
   ·exact e
  ·intro hk;rcases cX.mp ((h k).mpr (cY _ hk))with e|e
   ·subst e;exact(zu (hm.1 k hk)).elim
   ·exact e
section
variable{P:χ}{w:ω}{K:ag}{mg:L5}{base:bv}
noncomputable def Aw(K:ag)(H:Hp):List V->List (Nat×Nat)->Prop:=bI λv q=>∃r:af,v=.ref r/\SqT K H r [.int (q.1:Int),.int (q.2:Int)]
theorem Aw.len(h:Aw K H vs fs):vs.length=fs.length:=S9 h
theorem Aw.get:∀{vs:List V}{fs:List (Nat×Nat)}{i:Nat}{x:V},Aw K H vs fs->vs[i]? =some x->∃(q:Nat×Nat) (r:af),fs[i]? =some q/\x=.ref r/\SqT K H r [.int (q.1:Int),.int (q.2:Int)]
 |_,_,i,x,.nil,hx=>by simp at hx
 |_,_,0,x,.cons h t,hx=>by
  obtain⟨r,e,hr⟩:=h;simp only[wcu,wdd]at hx;subst hx;exact⟨_,r,rfl,e,hr⟩
 |_,_,i+1,x,.cons h t,hx=>by
  rw[XD]at hx;obtain⟨q,r,h1,h2⟩:=Aw.get t hx;exact⟨q,r,by rw[XD];exact h1,h2⟩
inductive uE(K:ag)(vs:List V)(H:Hp)(Q:VK)(E_:XK):Prop
 |mk(l:af)(ws:List V)(fs:List (Nat×Nat))(_:vs=[.ref l])(_:SqL K H l ws)(_:Aw K H ws fs)(_:Dy fs)(_:fs.length<=10)(_:∀p H' a b,Same H H'->SqT K H' p [.int ((a:Nat):Int),.int ((b:Nat):Int)]->Rep fs a b->b<=10^100->Q (.ref p) H')
theorem Kz{f:af}{fd:ψ}
  (F:Fun K "sum_of" "sum_of" jc f fd)(D1:Dp P w K mg base 1 "greatest_divisor" zbf ["one","other"] (Od K)):
  FnOk P w K mg base CX0 2 f fd ["fractions"] (uE K):=by
 refine F.eG ["fractions","a","b","top","bottom","by"] λH Q hr h=>?_;obtain⟨l,ws,fs,rfl,hL,hF,hok,Zd,q⟩:=h;refine cg ?_;intro Y;refine⟨_,(aO (pS 1 aM) (aO (pS 2 aM) (aO (Ay wX rfl (wV (pv 0)) (pg_tup rfl (jO (pG 3) (jO (pG 4) Al))) (aO (pS 5 (bW pJ (pv 4) (pd D1 hr (aj (pv 2) (aj (pv 4) aA))))) (aO (pS 1 (bW sI (bW ud (pv 1) (pv 5)) (bW ud (pv 3) (bW pJ (bW ud (pv 2) (pv 5)) (pv 4))))) (aZ (pS 2 (bW ud (pv 2) (pv 5))))))) (aZ (cu (lY (aj (pv 1) (aj (pv 2) aA)))))))),?_⟩;refine W8 ?_;intro c4 c3 c2;have ad:=hF.len;refine⟨_,rfl,l,_,rfl,hL,λ_=>?_⟩;let mH:Nat->St->Hp->Prop:=λi σ H'=>H'=H/\∃(a b:Nat) (c d e:Option V),Rep (fs.take i) a b/\b<=(10^9)^i/\a<=i*(10^9)^i/\σ=[some (.ref l),some (.int (a:Int)),some (.int (b:Int)),c,d,e];refine for_list (K:=K) (a:=l) (xs:=ws) mH ⟨rfl,0,1,_,_,_,⟨by decide,rfl⟩,by decide,by decide,rfl⟩ (λi σ H' _ p=>by rw[p.1];exact hL) (λi x σ H' hx p=>?_) (λσ H' p=>?_)
 ·obtain⟨rfl,a,b,c,d,e,R,lb,la,rfl⟩:=p;obtain⟨⟨c',d'⟩,y,ef,rfl,hy⟩:=hF.get hx;have hi:i<10:=by have:=(oR.mp ef).1;omega
  obtain⟨⟨c1,c2⟩,d1,d2⟩:=hok _ (nu ef);dsimp only at c1 c2 d1 d2 hy;have M0:=aar (dN hi);have M1:(10^9)^(i+1)=(10^9)^i*10^9:=yfn _ _;generalize hM:(10^9)^i=M at *;obtain⟨R',g1,g2⟩:=Py (c:=c') R d1;have hg:0<ay b d':=yek _ R.pos;have hgl:ay b d'<=d':=Wg d1 (Xw _ _);have e1:((d':Nat):Int)/((ay b d':Nat):Int)=((d'/ay b d':Nat):Int):=(yfe _ _).symm;generalize hB:d'/ay b d'=by' at *;have lb0:b<=10^100:=bR (bR lb M0) (by decide);have la0:a<=10^100:=bR la (bR (Xp (dN hi) M0) (by decide));have abt:by'<=10^100:=bR (bR g1 d2) (by decide);have lby:(by':Int).natAbs<=10^200:=Dr abt;have l2:b*by'<=M*10^9:=Xp lb (bR g1 d2);have e2:((b:Int)*(by':Int))/((d':Nat):Int)=((b*by'/d':Nat):Int):=by rw[<-Nf];exact(yfe _ _).symm
  have l3:((b*by'/d':Nat):Int).natAbs<=10^200:=Dr (bR g2 lb0);refine⟨y,_,rfl,hy,rfl,_,_,rfl,_,_,rfl,rfl,?_⟩;refine⟨_,rfl,_,rfl,_,rfl,b,d',rfl,_,_,rfl,rfl,⟨Z9.mpr hg,Dr (bR (bR hgl d2) (by decide))⟩,?_⟩;dsimp only;rw[e1];refine⟨_,rfl,_,rfl,_,_,rfl,rfl,⟨Dr la0,lby⟩,_,rfl,_,rfl,_,rfl,_,_,rfl,rfl,⟨Dr lb0,lby⟩,_,rfl,_,_,rfl,rfl,⟨Z9.mpr d1,Dr (bR d2 (by decide))⟩,?_⟩;dsimp only;rw[e2];refine⟨_,_,rfl,rfl,⟨Dr (bR c2 (by decide)),l3⟩,_,_,rfl,rfl,?_⟩;refine⟨_,rfl,_,rfl,_,_,rfl,rfl,⟨Dr lb0,lby⟩,rfl,a*by'+c'*(b*by'/d'),b*by',some (.int (c':Int)),some (.int (d':Int)),some (.int (by':Int)),?_,?_,?_,?_⟩
  ·rw[qx,ef];exact R'
  ·rw[M1];exact l2
  ·rw[M1];have a1:a*by'<=i*M*10^9:=Xp la (bR g1 d2);have a2:c'*(b*by'/d')<=10^9*M:=Xp c2 (bR g2 lb);rw[wgn,Nat.one_mul,<-Nb,HF M (10^9)];omega
  ·have z1:((a:Int)*(by':Int)+(c':Int)*((b*by'/d':Nat):Int))=((a*by'+c'*(b*by'/d'):Nat):Int):=by rw[Int.natCast_add,Nf,Nf]
   have z2:(b:Int)*(by':Int)=((b*by':Nat):Int):=(Nf _ _).symm;rw[<-z1,<-z2];rfl
 ·obtain⟨rfl,a,b,c,d,e,R,lb,la,rfl⟩:=p;rw[ad]at lb;rw[ad,qw]at R;exact⟨_,rfl,_,rfl,szl,λr hr'=>q r _ a b (aP hr' _) (SqT.of aH) R (bR (bR lb (aar Zd)) (by decide))⟩
noncomputable def ZQ(K:ag)(H:Hp)(v:V)(r:Row):Prop:=∃t f s:af,v=.ref t/\SqT K H t [.ref f,.ref s]/\SqT K H f (r.1.map V.int)/\SqT K H s [.int (r.2.1:Int),.int (r.2.2:Int)]
noncomputable def vX(K:ag)(H:Hp):List V->List Row->Prop:=bI (ZQ K H)
theorem vX.len{rows:List Row}(h:vX K H vs rows):vs.length=rows.length:=S9 h
theorem vX.get:∀{vs:List V}{rows:List Row}{i:Nat}{x:V},vX K H vs rows->vs[i]? =some x->∃r:Row,rows[i]? =some r/\ZQ K H x r
 |_,_,i,x,.nil,hx=>by simp at hx
 |_,_,0,x,.cons h t,hx=>by
  simp only[wcu,wdd]at hx;subst hx;exact⟨_,rfl,h⟩
 |_,_,i+1,x,.cons h t,hx=>by
  rw[XD]at hx;obtain⟨r,h1,h2⟩:=vX.get t hx;exact⟨r,by rw[XD];exact h1,h2⟩
noncomputable def R0(rows:List Row):Prop:=rows.length<=10/\∀r∈rows,FrB r.2
theorem QC{k:List Key}(h:kv∈putK kvs k v):kv∈kvs\/(kv.1=k/\kv.2=v):=by
 unfold putK at h;split at h
 ·obtain⟨x,hx,e⟩:=dF.mp h;by_cases c:x.1=k
  ·rw[au c]at e;subst e;exact .inr ⟨c,rfl⟩
  ·rw[ao c]at e;subst e;exact .inl hx
 ·rcases lM.mp h with z|z
  ·exact .inl z
  ·rw[fV.mp z];exact .inr ⟨rfl,rfl⟩
theorem Cj(k:ζ):(k.map (bc (β:=bg))).map kV=k.map V.int:=by rw[oN];rfl
theorem aB.wI(e:aB t H H')(n:H t=some (.dT kvs))(h:SqT K H a xs):SqT K H' a xs:=by
 rcases h with(h|⟨o,h⟩)|h
 ·exact .inl (.inl (e _ _ (ne_of h n (λz=>nomatch z)) h))
 ·exact .inl (.inr ⟨o,e _ _ (ne_of h n (λz=>nomatch z)) h⟩)
 ·exact .inr h
noncomputable def aan(k:ζ)(q:Int×Nat):υ:=.tuple [.tuple (k.map am),.tuple [.int q.1,.int (q.2:Int)]]
noncomputable def outD(xs:ζ)(rows:List Row)(k:ζ):υ:=aan k (vC (shs xs rows k))
theorem gn{rows:List Row}(er:rows[i]? =some r)(h:ak xs r.1≠k):shs xs (rows.take (i+1)) k=shs xs (rows.take i) k:=by
 rw[qx,er];show shs xs (rows.take i++[r]) k=_;rw[Bl,ao h]
theorem oZ{rows:List Row}(er:rows[i]? =some r):shs xs (rows.take (i+1)) (ak xs r.1)=shs xs (rows.take i) (ak xs r.1)++[r.2]:=by
 rw[qx,er];show shs xs (rows.take i++[r]) _=_;rw[Bl,au rfl]
theorem pW{a b:ζ}(h:a.map (bc (β:=bg))=b.map bc):a=b:=by
 have:=gR MF h
 rwa [pU,pU]at this
theorem Aw.same(h:Aw K H vs fs)(e:Same H H'):Aw K H' vs fs:=Paired.mapP h λ_ _ ⟨r,h1,h2⟩=>⟨r,h1,e.tup h2⟩
theorem Aw.cJ(h:Aw K H vs fs)(e:aB l H H')(n:H l=some (.lst zs)):Aw K H' vs fs:=Paired.mapP h λ_ _ ⟨r,h1,h2⟩=>⟨r,h1,e.tup n h2⟩
theorem Aw.Ye(h:Aw K H vs fs)(e:aB l H H')(n:H l=some (.dT kvs)):Aw K H' vs fs:=Paired.mapP h λ_ _ ⟨r,h1,h2⟩=>⟨r,h1,aB.wI e n h2⟩
structure mJ(K:ag)(H0 H:Hp)(d:af)(i:Nat)(xs:ζ)(rows:List Row)(kvs:List (List Key×V)):Prop where
 at_:H d=some (.dT kvs)
 len:kvs.length<=i
 ik:∀kv∈kvs,Ae kv.1
 yes:∀k,k≠[]->shs xs (rows.take i) k≠[]->∃l vs,valV kvs (k.map bc)=some (.ref l)/\H l=some (.lst vs)/\Aw K H vs (shs xs (rows.take i) k)/\H0 l=none
 no:∀k,k=[]\/shs xs (rows.take i) k=[]->valV kvs (k.map bc)=none
 inj:∀(k k':ζ) l,valV kvs (k.map bc)=some (.ref l)->valV kvs (k'.map bc)=some (.ref l)->k=k'
section
variable{H0 H H':Hp}{d:af}{i:Nat}{xs:ζ}{rows:List Row}{kvs:List (List Key×V)}{row:Row}
theorem mJ.stay(h:mJ K H0 H d i xs rows kvs)(e:Same H H'):mJ K H0 H' d i xs rows kvs:=
 ⟨e _ _ h.at_,h.len,h.ik,λk h1 h2=>let⟨l,vs,y1,y2,y3,y4⟩:=h.yes k h1 h2;⟨l,vs,y1,e _ _ y2,y3.same e,y4⟩,h.no,h.inj⟩
theorem mJ.is(h:mJ K H0 H d i xs rows kvs)(hv:valV kvs (k.map bc)=some v):k≠[]/\shs xs (rows.take i) k≠[]:=
 ⟨λz=>(by rw[h.no k (.inl z)]at hv;cases hv),λz=>(by rw[h.no k (.inr z)]at hv;cases hv)⟩
theorem mJ.skip(h:mJ K H0 H d i xs rows kvs)(er:rows[i]? =some row)(hn:ak xs row.1=[]):mJ K H0 H d (i+1) xs rows kvs:=by
 refine⟨h.at_,wey h.len,h.ik,λk k1 k2=>?_,λk hk=>?_,h.inj⟩
 ·have e:ak xs row.1≠k:=λz=>k1 (z.symm.trans hn);rw[gn er e]at k2⊢;exact h.yes k k1 k2
 ·by_cases k1:k=[]
  ·exact h.no k (.inl k1)
  ·have e:ak xs row.1≠k:=λz=>k1 (z.symm.trans hn);rw[gn er e]at hk;exact h.no k hk
theorem mJ.app(h:mJ K H0 H d i xs rows kvs)(er:rows[i]? =some row)(hn:ak xs row.1≠[])(hv:valV kvs ((ak xs row.1).map bc)=some (.ref l))(hl:H l=some (.lst vs))(hF:Aw K H vs (shs xs (rows.take i) (ak xs row.1)))(h0:H0 l=none)(hs:SqT K H s [.int (row.2.1:Int),.int (row.2.2:Int)]):mJ K H0 (upd H l (.lst (vs++[.ref s]))) d (i+1) xs rows kvs:=by
 have x:aB l H (upd H l (.lst (vs++[.ref s]))):=(aB.refl _ _).upd;have nd:d≠l:=ne_of h.at_ hl (λz=>nomatch z);refine⟨x _ _ nd h.at_,wey h.len,h.ik,λk k1 k2=>?_,λk hk=>?_,h.inj⟩
 ·by_cases e:k=ak xs row.1
  ·subst e;rw[oZ er];exact⟨l,_,hv,aH,Paired.snoc (hF.cJ x hl) ⟨s,rfl,x.tup hl hs⟩,h0⟩
  ·rw[gn er λz=>e z.symm]at k2⊢;obtain⟨l',vs',y1,y2,y3,y4⟩:=h.yes k k1 k2;have nl:l'≠l:=λz=>e (h.inj _ _ l (by rw[<-z];exact y1) hv);exact⟨l',vs',y1,x _ _ nl y2,y3.cJ x hl,y4⟩
 ·by_cases e:k=ak xs row.1
  ·subst e;rcases hk with z|z
   ·exact absurd z hn
   ·rw[oZ er]at z;simp at z
  ·rw[gn er λz=>e z.symm]at hk;exact h.no k hk
theorem mJ.new(h:mJ K H0 H d i xs rows kvs)(er:rows[i]? =some row)(hn:ak xs row.1≠[])(hl:H l=none)(hv:valV kvs ((ak xs row.1).map bc)=none)(h0:H0 l=none)(hs:SqT K H s [.int (row.2.1:Int),.int (row.2.2:Int)]):mJ K H0 (upd (upd (upd H l (.lst [])) d (.dT (putK kvs ((ak xs row.1).map bc) (.ref l)))) l (.lst [.ref s])) d (i+1) xs rows (putK kvs ((ak xs row.1).map bc) (.ref l)):=by
 have nd:d≠l:=λz=>by rw[<-z,h.at_]at hl;cases hl
 have s1:=aP hl (.lst []);have d1:=s1 _ _ h.at_;have x2:aB d (upd H l (.lst [])) (upd (upd H l (.lst [])) d (.dT (putK kvs ((ak xs row.1).map bc) (.ref l)))):=(aB.refl _ _).upd;have l2:(upd (upd H l (.lst [])) d (.dT (putK kvs ((ak xs row.1).map bc) (.ref l)))) l=some (.lst []):=x2 _ _ nd.symm aH;have x3:aB l (upd (upd H l (.lst [])) d (.dT (putK kvs ((ak xs row.1).map bc) (.ref l)))) (upd (upd (upd H l (.lst [])) d (.dT (putK kvs ((ak xs row.1).map bc) (.ref l)))) l (.lst [.ref s])):=(aB.refl _ _).upd;have old:∀k,shs xs (rows.take i) k≠[]->k≠[]->∃l' vs',valV kvs (k.map bc)=some (.ref l')/\l'≠l/\l'≠d/\H l'=some (.lst vs')/\Aw K H vs' (shs xs (rows.take i) k)/\H0 l'=none:=λk k2 k1=>by
  obtain⟨l',vs',y1,y2,y3,y4⟩:=h.yes k k1 k2;exact⟨l',vs',y1,λz=>(by rw[z,hl]at y2;cases y2),ne_of y2 h.at_ (λz=>nomatch z),y2,y3,y4⟩
 have e0:shs xs (rows.take i) (ak xs row.1)=[]:=by
  cases hsh:shs xs (rows.take i) (ak xs row.1)with
  |nil=>rfl
  |cons q qs=>
   obtain⟨l',_,y1,_⟩:=h.yes _ hn (by rw[hsh];exactλz=>nomatch z);rw[hv]at y1;cases y1
 have hs3:=x3.tup l2 (aB.wI x2 d1 (s1.tup hs));refine⟨x3 _ _ nd aH,bR (length_putK _ _ _) (Nat.succ_le_succ h.len),λkv hkv=>?_,λk k1 k2=>?_,λk hk=>?_,λk k' lx a b=>?_⟩
 ·rcases QC hkv with z|⟨z1,_⟩
  ·exact h.ik kv z
  ·rw[z1];exact Ae.of _
 ·rw[valV_put];by_cases e:k=ak xs row.1
  ·subst e;rw[au rfl,oZ er,e0];exact⟨l,_,rfl,aH,.cons ⟨s,rfl,hs3⟩ .nil,h0⟩
  ·rw[ao λz=>e (pW z)];rw[gn er λz=>e z.symm]at k2⊢;obtain⟨l',vs',y1,n1,n2,y2,y3,y4⟩:=old k k2 k1;exact⟨l',vs',y1,x3 _ _ n1 (x2 _ _ n2 (s1 _ _ y2)),((y3.same s1).Ye x2 d1).cJ x3 l2,y4⟩
 ·rw[valV_put];by_cases e:k=ak xs row.1
  ·subst e;rcases hk with z|z
   ·exact absurd z hn
   ·rw[oZ er]at z;simp at z
  ·rw[ao λz=>e (pW z)];rw[gn er λz=>e z.symm]at hk;exact h.no k hk
 ·rw[valV_put]at a b;have noL:∀k:ζ,valV kvs (k.map bc)=some (.ref l)->False:=λk z=>by
   obtain⟨k1,k2⟩:=h.is z;obtain⟨l',vs',y1,n1,_⟩:=old k k2 k1;rw[y1]at z;injection z with z
   injection z with z
   exact n1 z
  by_cases e:k=ak xs row.1
  ·by_cases e':k'=ak xs row.1
   ·rw[e,e']
   ·rw[au (by rw[e])]at a;rw[ao λz=>e' (pW z)]at b;injection a with a
    injection a with a
    rw[<-a]at b;exact(noL k' b).elim
  ·rw[ao λz=>e (pW z)]at a;by_cases e':k'=ak xs row.1
   ·rw[au (by rw[e'])]at b;injection b with b
    injection b with b
    rw[<-b]at a;exact(noL k a).elim
   ·rw[ao λz=>e' (pW z)]at b;exact h.inj k k' lx a b
end
noncomputable def RQ(K:ag)(H:Hp)(xs:ζ)(rows:List Row)(v:V)(k:ζ):Prop:=∃(t b s:af) (x y:Nat),v=.ref t/\SqT K H t [.ref b,.ref s]/\SqT K H b (k.map V.int)/\SqT K H s [.int (x:Int),.int (y:Int)]/\Rep (shs xs rows k) x y/\y<=10^100
theorem RQ.same{rows:List Row}(h:RQ K H xs rows v k)(e:Same H H'):RQ K H' xs rows v k:=by
 obtain⟨t,b,s,x,y,h0,h1,h2,h3,h4⟩:=h;exact⟨t,b,s,x,y,h0,e.tup h1,e.tup h2,e.tup h3,h4⟩
theorem uZ{α β:Type}{R:α->β->Prop}:∀{l:List α}{m:List β}{i:Nat}{x:α},bI R l m->l[i]? =some x->∃y,m[i]? =some y/\R x y
 |_,_,i,x,.nil,hx=>by simp at hx
 |_,_,0,x,.cons h t,hx=>by
  simp only[wcu,wdd]at hx;subst hx;exact⟨_,rfl,h⟩
 |_,_,i+1,x,.cons h t,hx=>by
  rw[XD]at hx;obtain⟨r,h1,h2⟩:=uZ t hx;exact⟨r,by rw[XD];exact h1,h2⟩
inductive oW(K:ag)(vs:List V)(H:Hp)(Q:VK)(E_:XK):Prop
 |mk(a o sm l:af)(n no:Int)(ts aU:L0)(xs:ζ)(ws:List V)(rows:List Row)(_:vs=[.ref a,.ref o,.ref sm,.ref l])(_:aR K H a n ts)(_:aR K H o no aU)(_:SqT K H sm (xs.map V.int))(_:aN n no ts aU xs=true)(_:SqL K H l ws)(_:vX K H ws rows)(_:R0 rows)(_:∀r ks us H',Same H H'->H' r=some (.lst us)->cF K H' us (ks.map (outD xs rows))->Keys xs rows ks->H r=none->us.length<=10->Q (.ref r) H')
theorem KH{f f3:af}
  {fd d3:ψ}
  (F:Fun K "pulled" "pulled" pq f fd)(D1:Dp P w K mg base 8 "is_way" pA ["web","other","some"] (Ij K))(D2:Dp P w K mg base 2 "sum_of" jc ["fractions"] (uE K))(D3:Eh K mg "lowest" jd ["a","b"] f3 d3)(G3:FnOk P w K mg base CX0 2 f3 d3 ["a","b"] (xq K))(aL:mg "tuple"=none)(bV:mg "enumerate"=none)(kO:mg "sorted"=none):
  FnOk P w K mg base CX0 9 f fd ["web","other","some","laying"] (oW K):=by
 refine F.U4 ["web","other","some","laying","shares_of","far","share","near","totals"] λcdv A outer s H vs Q E hr h=>?_;obtain⟨a,o,sm,l,n,no,ts,aU,xs,ws,rows,rfl,hA,hO,hX,Cy,hL,hR,hok,q⟩:=h;refine cg ?_;intro Y;refine⟨_,(aO (jq (sJ (qz (pd D1 hr (aj (pv 0) (aj (pv 1) (aj (pv 2) aA)))))) pss_never jN) (aO (pS 4 pe_dnewT) (aO (Ay wX rfl (wV (pv 3)) (pg_tup rfl (jO (pG 5) (jO (pG 6) Al))) (aO (pS 7 (pT JW aL (aj (pK ["place","image"] ["far"] [5] (pH rfl bV (aj (pv 2) aA)) (dY K (n:=2) rfl (jO (pG 0) (jO (pG 1) Al))) (JR (iM (iD K hr.units) (pv 1) (pv 2) (by with_unfolding_all rfl))) (pv 0)) aA))) (aZ (jq (pt_truth (pv 7) (λ_=>rfl)) (aZ (wz (pe_bm Te wbe wbf mt_append (pe_bm PySem.F.plainAttrs_dict wds PySem.F.type_dict_setdefault (Gd hr.units) (pv 4) (aj (pv 7) (aj (pe_lst aA) aA))) (aj (pv 6) aA)))) jN)))) (aO (pX 8 ["near"] ["shares_of"] [4] (wV (pB (zY rfl hr.units) kO (aj (pv 4) aA))) (pG 0) m9 (lY (aj (pv 0) (aj (pd D2 hr (aj (pe_dget (hu_of hr) (pv 1) (pv 0) (λ_ _=>rfl)) aA)) aA)))) (aZ (cu (pK ["near","total"] [] [] (wV (pv 8)) (dY K (n:=2) rfl (jO (pG 0) (jO (pG 1) Al))) m9 (lY (aj (pv 0) (aj (pc G3 hr D3 (aj (bB (Ea K) (pv 1) aM) (aj (bB (Ea K) (pv 1) aM) aA))) aA)))))))))),?_⟩;refine Jr ?_;intro c5 c4 c3 c2;have ad:=hR.len;refine⟨_,rfl,_,rfl,_,rfl,a,o,sm,n,no,ts,aU,xs,rfl,hA,hO,hX,λH0 s0=>⟨_,rfl,?_⟩⟩;rw[Cy];apply iteF;refineλd hd=>?_;have s1:=s0.trans (aP hd (.dT []));have d0:H d=none:=s0.free hd;have D0:mJ K H (upd H0 d (.dT [])) d 0 xs rows []:=⟨aH,aQ _,λkv h=>(nomatch h),λk _ h2=>absurd rfl h2,λk _=>rfl,λk k' l h=>nomatch h⟩;dsimp only at s1 D0⊢;generalize upd H0 d (.dT [])=H1 at *;refine⟨_,rfl,l,_,rfl,s1.seq hL,λhz=>?_⟩;let mH:Nat->St->Hp->Prop:=λi σ H'=>Same H H'/\(∃kvs,mJ K H H' d i xs rows kvs)/\∃o5 o6 o7 o8,σ=[some (.ref a),some (.ref o),some (.ref sm),some (.ref l),some (.ref d),o5,o6,o7,o8];refine for_list (K:=K) (a:=l) (xs:=ws) mH
  ⟨s1,⟨_,D0⟩,_,_,_,_,rfl⟩ (λi σ H' _ p=>p.1.seq hL) (λi x σ H2 hx p=>?_) (λσ H2 p=>?_)
 ·obtain⟨s2,⟨kvs,D⟩,o5,o6,o7,o8,rfl⟩:=p;obtain⟨⟨far,c',d'⟩,er,t,f,s,rfl,ht,hf,hs⟩:=hR.get hx;dsimp only at hf hs;have ht:=s2.tup ht;have hf:=s2.tup hf;have hs:=s2.tup hs;have hX2:=s2.tup hX;refine⟨t,_,rfl,ht,rfl,_,_,rfl,_,_,rfl,rfl,?_⟩;refine⟨_,rfl,true,sm,_,rfl,hX2,λhzx=>?_⟩;let Ad:Nat->List V->St->Hp->Prop:=λk acc σ H'=>acc=(gH xs far k).map V.int/\Same H2 H'/\∃o1 o2,σ=[o1,o2,some (.ref f)];refine jj (K:=K) (b:=true) (a:=sm) (xs:=xs.map V.int) Ad ⟨rfl,Same.refl _,_,_,rfl⟩ (λk acc σ H' _ p=>p.2.1.tup hX2) (λk acc σ H' _ p=>by rw[p.1,aF];exact Ga _ _ _) hzx (λk v tt acc σ H' hv p htt=>?_) (λacc σ H' p=>?_)
  ·obtain⟨rfl,sm',o1,o2,rfl⟩:=p;rw[cV]at hv;cases ek:xs[k]? with
   |none=>rw[ek]at hv;cases hv
   |some y=>
    rw[ek]at hv;cases hv;have ey:xs.getD k 0=y:=by rw[gQ,ek];rfl
    have s3:=sm'.trans (aP htt (.tup [.int (k:Int),.int y]));refine⟨tt,_,rfl,SqT.of aH,rfl,_,_,rfl,_,_,rfl,rfl,?_⟩;refine⟨_,rfl,_,rfl,f,_,far.map am,.int y,rfl,.inr (s3.tup hf),cF.ints far,.int _,Hz far,rfl,(by show 0<=60;decide),_,rfl,?_⟩;rw[Ml];refine ite2 (λc=>?_) (λc=>?_)
    ·refine⟨_,rfl,?_,s3,_,_,rfl⟩;rw[sy,au (by rw[ey];exact c),bC];rfl
    ·refine⟨?_,s3,_,_,rfl⟩;rw[sy,ao (by rw[ey];exact c)]
  ·obtain⟨rfl,sm',_⟩:=p;intro p1 hp1;have en:gH xs far (xs.map V.int).length=ak xs far:=by rw[aF];rfl
   rw[en];have s3:=aP hp1 (.lst ((ak xs far).map V.int));refine⟨p1,_,rfl,.inl ⟨SqL.of aH,λbk hbk=>?_⟩⟩;have s4:=aP hbk (.tup ((ak xs far).map V.int));have eb:(upd (upd H' p1 (.lst ((ak xs far).map V.int))) bk (.tup ((ak xs far).map V.int))) bk=some (.tup ((ak xs far).map V.int)):=aH;have uO:=sm'.trans (s3.trans s4);have D4:=D.stay uO;have hs4:=uO.tup hs;have Mz:=s2.trans uO;dsimp only at uO eb D4 hs4 Mz⊢;generalize upd (upd H' p1 (.lst ((ak xs far).map V.int))) bk (.tup ((ak xs far).map V.int))=H4 at *;have kb:H4 bk=some (.tup (((ak xs far).map (bc (β:=bg))).map kV)):=by rw[Cj];exact eb
   have hl9:kvs.length<sizeLine:=by
    have:=D4.len;have:=(oR.mp er).1;have:=hok.1;rw[eZ];omega
   refine⟨_,rfl,!(((ak xs far).map V.int).isEmpty),.inr (.inl ⟨_,SqT.of eb,rfl⟩),?_⟩;refine ite2 (λc=>?_) (λc=>?_)
   ·have k1:ak xs far≠[]:=λz=>by rw[z]at c;exact absurd c (by decide)
    refine⟨_,rfl,.inr (.inr (.inl ⟨rfl,.inr ⟨_,D4.at_⟩⟩)),_,rfl,szl,λl0 hl0=>?_⟩;have s5:=aP hl0 (.lst []);have D5:=D4.stay s5;have Y7:H l0=none:=Mz.free hl0;refine⟨d,bk,kvs,(ak xs far).map bc,.ref l0,rfl,rfl,D5.at_,s5 _ _ kb,hl9,λv hv=>?_,λhn=>?_⟩
    ·obtain⟨_,k2⟩:=D4.is hv;obtain⟨lx,vs,y1,y2,y3,y4⟩:=D5.yes _ k1 k2;rw[hv]at y1;injection y1 with y1
     subst y1;have hF:=y3.len;have hsl:=IV xs (rows.take i) (ak xs far);rw[rQ]at hsl;have:=hok.1;refine⟨.inl ⟨rfl,_,SqL.of y2⟩,_,rfl,lx,_,_,rfl,rfl,y2,by rw[eZ];omega,?_⟩;exact⟨Same.over (Mz.trans s5) y4 ((aB.refl lx _).upd),⟨_,D5.app er k1 hv y2 y3 y4 (s5.tup hs4)⟩,_,_,_,_,rfl⟩
    ·have nd:d≠l0:=λz=>by rw[<-z,D4.at_]at hl0;cases hl0
     have x6:aB d (upd H4 l0 (.lst [])) (upd (upd H4 l0 (.lst [])) d (.dT (putK kvs ((ak xs far).map bc) (.ref l0)))):=(aB.refl _ _).upd;have l6:(upd (upd H4 l0 (.lst [])) d (.dT (putK kvs ((ak xs far).map bc) (.ref l0)))) l0=some (.lst []):=x6 _ _ nd.symm aH;refine⟨.inl ⟨rfl,_,SqL.of l6⟩,_,rfl,l0,_,_,rfl,rfl,l6,(by show 0<sizeLine;decide),?_⟩;exact⟨Same.over (Same.over (Mz.trans s5) d0 x6) Y7 ((aB.refl l0 _).upd),⟨_,D4.new er k1 hl0 hn Y7 hs4⟩,_,_,_,_,rfl⟩
   ·have k1:ak xs far=[]:=by
     cases hN:ak xs far with
     |nil=>rfl
     |cons y ys=>rw[hN]at c;exact absurd rfl c
    exact⟨Mz,⟨_,D4.skip er k1⟩,_,_,_,_,rfl⟩
 ·obtain⟨s2,⟨kvs,D⟩,o5,o6,o7,o8,rfl⟩:=p;rw[ad]at D;have et:rows.take rows.length=rows:=qw;have Zd:=D.len;have:=hok.1;refine⟨_,rfl,d,kvs,rfl,D.at_,by omega,D.ik,λlo its hlo t1 t2 t3 t4=>?_⟩;have s3:=aP hlo (.lst (its.map λp=>V.ref p.1));have l3:(upd H2 lo (.lst (its.map λp=>V.ref p.1))) lo=some (.lst (its.map λp=>V.ref p.1)):=aH;have D3:=D.stay s3;generalize upd H2 lo (.lst (its.map λp=>V.ref p.1))=H3 at *;have KS:Keys xs rows (its.map (·.2)):=⟨t4,λk=>by
   rw[t3];constructor
   ·intro h;obtain⟨vv,hv⟩:=Option.isSome_iff_exists.mp h;obtain⟨k1,k2⟩:=D.is hv;rw[et]at k2;exact⟨k1,k2⟩
   ·rintro⟨k1,k2⟩;obtain⟨s,_,y1,_⟩:=D.yes k k1 (by rw[et];exact k2);rw[y1];rfl⟩
  refine⟨lo,_,rfl,SqL.of l3,λhz=>?_⟩;let R3:Nat->List V->St->Hp->Prop:=λj acc σ H'=>Same H3 H'/\bI (RQ K H' xs rows) acc ((its.take j).map (·.2))/\∃o,σ=[o,some (.ref d)];refine Eb (xs:=its.map λp=>V.ref p.1) R3 ⟨Same.refl _,.nil,_,rfl⟩ (λj acc σ H' _ p=>p.1.seq (SqL.of l3)) (λj acc σ H' _ p=>?_) hz (λj x acc σ H6 hx p=>?_) (λacc σ H6 p=>?_)
  ·have:=S9 p.2.1;rw[this,aF,rQ];exact yq _ _
  ·obtain⟨s6,dv,oo,rfl⟩:=p;rw[cV]at hx;cases ej:its[j]? with
   |none=>rw[ej]at hx;cases hx
   |some pr=>
    rw[ej]at hx;cases hx;have mp:=nu ej;have kp6:=s6 _ _ (s3 _ _ (t1 pr mp));obtain⟨k1,k2⟩:=(KS.mem pr.2).mp (dF.mpr ⟨pr,mp,rfl⟩);have D6:=D3.stay s6;obtain⟨lx,vs,y1,y2,y3,_⟩:=D6.yes pr.2 k1 (by rw[et];exact k2);rw[et]at y3;have G:=DGet.t (k:=pr.2.map bc) D6.at_ (by rw[Cj];exact kp6);rw[y1]at G;refine⟨_,rfl,_,rfl,_,rfl,d,_,rfl,G,lx,vs,_,rfl,SqL.of y2,y3,Ov hok.2,bR (IV _ _ _) hok.1,λs H7 x y s7 h7 R hy=>⟨szl,λt ht=>?_⟩⟩;have s8:=aP ht (.tup [.ref pr.1,.ref s]);refine⟨s6.trans (s7.trans s8),?_,_,rfl⟩;rw[qx,ej,bC];exact Paired.snoc (Paired.mapP dv λ_ _ z=>z.same (s7.trans s8)) ⟨t,pr.1,s,x,y,rfl,SqT.of aH,(s7.trans s8).tup (SqT.of kp6),s8.tup h7,R,hy⟩
  ·obtain⟨s6,dv,_⟩:=p;intro p1 hp1;have s7:=aP hp1 (.lst acc);have e7:(upd H6 p1 (.lst acc)) p1=some (.lst acc):=aH;rw[aF,qw]at dv;have dv7:bI (RQ K (upd H6 p1 (.lst acc)) xs rows) acc (its.map (·.2)):=Paired.mapP dv λ_ _ z=>z.same s7;have sH7:=s2.trans (s3.trans (s6.trans s7));dsimp only at e7 dv7 sH7⊢;generalize upd H6 p1 (.lst acc)=H7 at *;refine⟨_,rfl,p1,_,rfl,SqL.of e7,λhz7=>?_⟩;let Pv4:Nat->List V->St->Hp->Prop:=λj ac σ H'=>Same H7 H'/\cF K H' ac (((its.map (·.2)).take j).map (outD xs rows))/\∃o1 o2,σ=[o1,o2];refine Eb (xs:=acc) Pv4 ⟨Same.refl _,.nil,_,_,rfl⟩ (λj ac σ H' _ p=>p.1.seq (SqL.of e7)) (λj ac σ H' _ p=>?_) hz7 (λj x ac σ H8 hx p=>?_) (λac σ H8 p=>?_)
   ·have:=p.2.1.len;rw[this,aF,rQ];exact yq _ _
   ·obtain⟨s8,dv8,o1,o2,rfl⟩:=p;obtain⟨k,ek,t,b,s,x',y',rfl,h1,h2,h3,R,hy⟩:=uZ dv7 hx;have h1:=s8.tup h1;have h2:=s8.tup h2;have h3:=s8.tup h3;refine⟨t,_,rfl,h1,rfl,_,_,rfl,_,_,rfl,rfl,?_⟩;refine⟨_,rfl,_,rfl,s,_,_,.int (x':Int),rfl,rfl,h3,rfl,_,rfl,s,_,_,.int (y':Int),rfl,rfl,h3,rfl,(x':Int),y',rfl,R.pos,bR hy (by decide+kernel),λp H9 u v s9 h9 L=>⟨szl,λr hr=>?_⟩⟩;obtain⟨eu,ev⟩:=Vd (Ov hok.2) R L;rw[eu,ev]at h9;have Ar:=aP hr (.tup [.ref b,.ref p]);refine⟨s8.trans (s9.trans Ar),?_,_,_,rfl⟩;rw[qx,ek,bC];exact((dv8.same s9).same Ar).append (.cons (.tup (SqT.of aH) (.cons (.tup ((s9.trans Ar).tup h2) (cF.ints _)) (.cons (.tup (Ar.tup (SqT.of h9)) (.cons (.int _) (.cons (.int _) .nil))) .nil))) .nil)
   ·obtain⟨s8,dv8,_⟩:=p;intro p2 hp2;have s9:=aP hp2 (.lst ac);have ea:acc.length=(its.map (·.2)).length:=S9 dv7;rw[ea,qw]at dv8;exact q p2 _ ac _ (sH7.trans (s8.trans s9)) aH (dv8.same s9) KS ((sH7.trans s8).free hp2) (by have z:=dv8.len;rw[aF,aF]at z;omega)
end
noncomputable def ms(D:Nat)(g:ζ->Bool):List (ζ×(Int×Nat))->Int
 |[]=>0
 |q::l=>(if g q.1=true then q.2.1*((D/q.2.2:Nat):Int)else 0)+ms D g l
theorem BX(D)(g:ζ->Bool):∀l,ms D g l=oU D ((l.filter λq=>g q.1).map (·.2))
 |[]=>rfl
 |q::l=>by
  show _+ms D g l=_;rw[BX D g l];by_cases c:g q.1=true
  ·rw[au c,Wk (by exact c),iQ];rfl
  ·rw[ao c,Wj (by exact c),Wd]
theorem vh:∀{l:List (ζ×(Int×Nat))},(∀q∈l,g q.1=h q.1)->ms D g l=ms D h l
 |[],_=>rfl
 |q::l,e=>by
  show _+ms D g l=_+ms D h l;rw[e q cC,vh λq' hq=>e q' (cY _ hq)]
theorem Wu{q:ζ×(Int×Nat)}(h:0<=q.2.1):0<=q.2.1*((D/q.2.2:Nat):Int):=HS h (wen _)
theorem BW:∀{l:List (ζ×(Int×Nat))},(∀q∈l,0<=q.2.1)->(∀q∈l,g q.1=true->h q.1=true)->ms D g l<=ms D h l
 |[],_,_=>tK _
 |q::l,p,e=>by
  have ih:=BW (D:=D) (λq' hq=>p q' (cY _ hq)) λq' hq=>e q' (cY _ hq);have w:=Wu (D:=D) (p q cC);show _+ms D g l<=_+ms D h l;by_cases c:g q.1=true
  ·rw[au c,au (e q cC c)];exact Int.add_le_add_left ih _
  ·rw[ao c];by_cases c2:h q.1=true
   ·rw[au c2];omega
   ·rw[ao c2];omega
theorem W6(p:∀q∈l,0<=q.2.1):0<=ms D g l:=by
 have:=BW (D:=D) (g:=λ_=>false) (h:=g) p λq _ z=>nomatch z
 have e:∀l,ms D (λ_=>false) l=0:=λl=>by
  induction l with
  |nil=>rfl
  |cons q l ih=>show(if false=true then _ else(0:Int))+ms D _ l=0;rw[ih];rfl
 rw[e]at this;exact this
theorem Qv:∀{l:List (ζ×(Int×Nat))},(∀q∈l,0<q.2.1/\0<q.2.2/\q.2.2∣D)->0<D->(∃q∈l,g q.1=true)->0<ms D g l
 |[],_,_,⟨_,h,_⟩=>nomatch h
 |q::l,p,hD,⟨q',hq,c⟩=>by
  obtain⟨p1,p2,p3⟩:=p q cC;have nn:=W6 (D:=D) (g:=g) (l:=l) λx hx=>Ek (p x (cY _ hx)).1;have wp:0<q.2.1*((D/q.2.2:Nat):Int):=Wc p1 (by have:=Nat.div_pos (Wg hD p3) p2;omega);show 0<_+ms D g l;rcases cX.mp hq with rfl|hq'
  ·rw[au c];omega
  ·have ih:=Qv (g:=g) (λx hx=>p x (cY _ hx)) hD ⟨q',hq',c⟩;by_cases c2:g q.1=true
   ·rw[au c2];omega
   ·rw[ao c2];omega
noncomputable def nZ(f:ζ->Int):List ζ->Int
 |[]=>0
 |k::ks=>f k+nZ f ks
theorem Cm(f g:ζ->Int):∀ks,nZ (λk=>f k+g k) ks=nZ f ks+nZ g ks
 |[]=>rfl
 |k::ks=>by show f k+g k+nZ _ ks=f k+nZ f ks+(g k+nZ g ks);rw[Cm f g ks];omega
theorem vJ:∀{ks:List ζ},(∀k∈ks,f k=g k)->nZ f ks=nZ g ks
 |[],_=>rfl
 |k::ks,e=>by show f k+_=g k+_;rw[e k cC,vJ λk' h=>e k' (cY _ h)]
theorem Ck{h:ζ->Bool}(a)(x):∀{ks:List ζ},ks.Nodup->nZ (λk=>if h k=true then(if decide (a=k)=true then x else 0)else 0) ks=if(decide (a∈ks)&&h a)=true then x else 0
 |[],_=>rfl
 |k::ks,nd=>by
  obtain⟨n1,n2⟩:=JZ.mp nd;show(if h k=true then(if decide (a=k)=true then x else 0)else 0)+nZ _ ks=_;rw[Ck a x n2];by_cases e:a=k
  ·subst e;rw[bY (show a=a from rfl),gj n1,bY (show a∈a::ks from cC),wgh,wgq,au rfl,ao (show¬(false=true)from nG),Int.add_zero]
  ·rw[gj e,ao (show¬(false=true)from nG),ite_self,Wd];have:decide (a∈k::ks)=decide (a∈ks):=by
    rw[sS,wbw,wbw,cX];exact⟨λz=>z.resolve_left e,.inr⟩
   rw[this]
theorem Jq{near:ζ->ζ}{h:ζ->Bool}(nd:ks.Nodup):∀l:List (ζ×(Int×Nat)),nZ (λk=>if h k=true then ms D (λs=>decide (near s=k)) l else 0) ks=ms D (λs=>decide (near s∈ks)&&h (near s)) l
 |[]=>by
  show nZ (λk=>if h k=true then(0:Int)else 0) ks=0;clear nd
  induction ks with
  |nil=>rfl
  |cons k ks ih=>show(if h k=true then(0:Int)else 0)+nZ _ ks=0;rw[ih,ite_self];rfl
 |q::l=>by
  show _=_+ms D _ l;rw[<-Jq nd l,<-Ck (near q.1) (q.2.1*((D/q.2.2:Nat):Int)) nd,<-Cm];refine vJ λk _=>?_;by_cases c:h k=true
  ·rw[au c,au c,au c];rfl
  ·rw[ao c,ao c,ao c];rfl
noncomputable def dH(D:Nat)(near:ζ->ζ)(ks:List ζ)(l:List (ζ×(Int×Nat))):List (ζ×(Int×Nat)):=ks.map λk=>(k,bw (ms D (λs=>decide (near s=k)) l) D)
theorem Jh(hD:0<D):∀ks:List ζ,ms D h (dH D near ks l)=nZ (λk=>if h k=true then ms D (λs=>decide (near s=k)) l else 0) ks
 |[]=>rfl
 |k::ks=>by
  show(if h k=true then(bw (ms D (λs=>decide (near s=k)) l) D).1*((D/(bw (ms D (λs=>decide (near s=k)) l) D).2:Nat):Int)else 0)+ms D h (dH D near ks l)=_+_;rw[vA hD,Jh hD ks]
structure PK(near:ζ->ζ)(ks:List ζ)(l:List (ζ×(Int×Nat))):Prop where
 WM:ks.Pairwise λp q=>HT.lexLt p q=true
 mem:∀k,k∈ks↔k≠[]/\∃q∈l,near q.1=k
theorem PK.nd(h:PK near ks l):ks.Nodup:=h.WM.imp λ{a b} z e=>by subst e;exact zu z
theorem zf(hD:0<D)(P:PK near ks l):ms D h (dH D near ks l)=ms D (λs=> !decide (near s=[])&&h (near s)) l:=by
 rw[Jh hD,Jq P.nd];refine vh λq hq=>?_;congr 1;rw[sS,wbw,wca,wcd,P.mem];exact⟨λz=>z.1,λz=>⟨z,q,hq,rfl⟩⟩
theorem vp(h:q∈dH D near ks l):q.1∈ks/\q.2=bw (ms D (λs=>decide (near s=q.1)) l) D:=by
 obtain⟨k,hk,rfl⟩:=dF.mp h;exact⟨hk,rfl⟩
theorem Lh:(dH D near ks l).map (·.1)=ks:=by
 unfold dH;rw[oN];exact wgd ks
theorem Um(hD:0<D)(Pa:PK na ka l)(Pb:PK nb kb (dH D na ka l))(Pc:PK nc kc l)(e:∀q∈l,nc q.1=nb (na q.1))(e0:nb []=[]):dH D nb kb (dH D na ka l)=dH D nc kc l:=by
 have ek:kb=kc:=uJ Pb.WM Pc.WM λk=>by
  rw[Pb.mem,Pc.mem];refine wef λhk=>⟨λ⟨q,hq,z⟩=>?_,λ⟨q,hq,z⟩=>?_⟩
  ·obtain⟨q1,_⟩:=vp hq;obtain⟨_,q',hq',z'⟩:=(Pa.mem _).mp q1;exact⟨q',hq',by rw[e q' hq',z'];exact z⟩
  ·have z2:nb (na q.1)=k:=by rw[<-e q hq];exact z
   have nn:na q.1≠[]:=λw=>hk (by rw[<-z2,w,e0]);have mk:na q.1∈ka:=(Pa.mem _).mpr ⟨nn,q,hq,rfl⟩;exact⟨_,dF.mpr ⟨na q.1,mk,rfl⟩,z2⟩
 subst ek;unfold dH;refine SX λk hk=>?_;have hk':=((Pc.mem k).mp hk).1;have:=zf hD (h:=λs=>decide (nb s=k)) Pa;unfold dH at this;rw[this];congr 2;refine vh λq hq=>?_;rw[e q hq,sS,fH,wca,wcd,wbw];exact⟨λz=>z.2,λz=>⟨λw=>hk' (by rw[<-z,w,e0]),z⟩⟩
theorem Mp:x∈ak xs far↔∃t:Nat,t<xs.length/\x=(t:Int)/\xs.getD t 0∈far:=by
 unfold ak gH;rw[dF];constructor
 ·rintro⟨t,ht,rfl⟩;obtain⟨h1,h2⟩:=fD.mp ht;exact⟨t,qC.mp h1,rfl,fW h2⟩
 ·rintro⟨t,h1,rfl,h2⟩;exact⟨t,fD.mpr ⟨qC.mpr h1,bY h2⟩,rfl⟩
theorem uf(xs far):(ak xs far).Pairwise (· < ·):=by
 unfold ak gH;rw[J4];exact(ydc.sublist yds).imp λh=>by omega
theorem Qq(xs):ak xs []=[]:=by
 refine List.eq_nil_iff_forall_not_mem.mpr λx hx=>?_;obtain⟨t,_,_,h⟩:=Mp.mp hx;exact nomatch h
theorem Qp(hl:zs.length=xs.length)(hz:∀t,t<xs.length->0<=xs.getD t 0/\xs.getD t 0<(ys.length:Int)/\zs.getD t 0=ys.getD (xs.getD t 0).toNat 0):ak zs far=ak xs (ak ys far):=by
 refine yC (uf _ _) (uf _ _) λx=>?_;rw[Mp,Mp,hl];refine exists_congr λt=>wef λht=>wef λ_=>?_;obtain⟨h0,h1,h2⟩:=hz t ht;rw[Mp,h2];constructor
 ·intro h;exact⟨(xs.getD t 0).toNat,by omega,by omega,h⟩
 ·rintro⟨u,_,e,h⟩;rw[e,wC];exact h
noncomputable def cI(q:Nat×Nat):Int×Nat:=((q.1:Int),q.2)
theorem Rh:∀fs:List (Nat×Nat),(∀q∈fs,0<q.2/\q.2∣D)->((fsum fs).1:Int)*(D:Int)=oU D (fs.map cI)*((fsum fs).2:Int):=by
 intro fs;refine wdn (P:=λfs=>(∀q∈fs,0<q.2/\q.2∣D)->((fsum fs).1:Int)*(D:Int)=oU D (fs.map cI)*((fsum fs).2:Int)) (λ_=>by show(0:Int)*_=0*_;rw[M8,M8]) (λl q ih h=>?_) fs;have ih:=ih λp hp=>h p (S6 _ hp);obtain⟨q0,c,hc⟩:=h q (ig _ (fV.mpr rfl));rw[q9,bC,um];show(((fsum l).1*q.2+q.1*(fsum l).2:Nat):Int)*(D:Int)=(oU D (l.map cI)+oU D [cI q])*(((fsum l).2*q.2:Nat):Int);rw[zK];show _=(oU D (l.map cI)+(q.1:Int)*((D/q.2:Nat):Int))*_;have e:D/q.2=c:=by rw[hc];exact Mu _ q0
 rw[e];have eD:(D:Int)=(q.2:Int)*(c:Int):=by rw[hc];push_cast;rfl
 push_cast
 have x1:((fsum l).1:Int)*(q.2:Int)*(D:Int)=(((fsum l).1:Int)*(D:Int))*(q.2:Int):=by grind
 rw[wgm,x1,ih,eD]
 grind
theorem lowFI_eq(hD:0<D)(h:Dy fs)(hd:∀q∈fs,q.2∣D):vC fs=bw (oU D (fs.map cI)) D:=by
 have:=zq (xR h) (Ej _ hD) (zG fs h).1 hD (Rh fs λq hq=>⟨(h q hq).2.1,hd q hq⟩);exact Wv this.1 this.2
noncomputable def toR(q:ζ×(Int×Nat)):Row:=(q.1,(q.2.1.toNat,q.2.2))
theorem IK:∀{l:List (ζ×(Int×Nat))},(∀q∈l,0<=q.2.1)->(shs xs (l.map toR) k).map cI=(l.filter λq=>decide (ak xs q.1=k)).map (·.2)
 |[],_=>rfl
 |q::l,h=>by
  have ih:=IK (xs:=xs) (k:=k) (l:=l) λq' hq=>h q' (cY _ hq);have q0:=h q cC;unfold shs at ih⊢;rw[iQ];by_cases c:ak xs q.1=k
  ·rw[Wk (by exact bY c),Wk (by exact bY c),iQ,iQ,iQ,ih];congr 1;show(((q.2.1.toNat:Nat):Int),q.2.2)=q.2;rw[Xy q0]
  ·have c':¬decide (ak xs q.1=k)=true:=λz=>c (fW z);rw[Wj (by exact c'),Wj (by exact c'),ih]
structure Ly(D:Nat)(l:List (ζ×(Int×Nat))):Prop where
 pos:0<D
 big:D<=39916800
 all:∀q∈l,0<q.2.1/\0<q.2.2/\q.2.2∣D
 tot:ms D (λ_=>true) l<=1000000000
 len:l.length<=10
theorem Ly.nn(h:Ly D l):∀q∈l,0<=q.2.1:=λq hq=>Ek (h.all q hq).1
theorem Ly.dok(h:Ly D l):Xl D (l.map (·.2)):=⟨h.pos,bR h.big (by decide),λf hf=>by
 obtain⟨q,hq,rfl⟩:=dF.mp hf;obtain⟨a,b,c⟩:=h.all q hq;exact⟨Ek a,b,c⟩⟩
theorem Qw:∀{l:List (ζ×(Int×Nat))},(∀q∈l,0<=q.2.1)->q∈l->q.2.1*((D/q.2.2:Nat):Int)<=ms D (λ_=>true) l
 |p::l,h,hq=>by
  have w:=Wu (D:=D) (h p cC);have nn:=W6 (D:=D) (g:=λ_=>true) λx hx=>h x (cY p hx);show _<=(if true=true then p.2.1*((D/p.2.2:Nat):Int)else 0)+ms D _ l;rw[au rfl];rcases cX.mp hq with rfl|hq'
  ·omega
  ·have:=Qw (D:=D) (λx hx=>h x (cY p hx)) hq';omega
theorem Ly.rows(h:Ly D l):R0 (l.map toR):=by
 refine⟨by rw[aF];exact h.len,λr hr=>?_⟩;obtain⟨q,hq,rfl⟩:=dF.mp hr;obtain⟨a,b,c⟩:=h.all q hq;have one:=yet (Qw h.nn hq) h.tot;have k:1<=D/q.2.2:=Nat.div_pos (Wg h.pos c) b;have m:=XF (show(1:Int)<=((D/q.2.2:Nat):Int) by omega) (Ek a);have dl:=bR (Wg h.pos c) h.big;refine⟨⟨?_,?_⟩,?_,?_⟩
 ·show 0<q.2.1.toNat;omega
 ·show q.2.1.toNat<=1000000000;omega
 ·exact b
 ·show q.2.2<=1000000000;omega
theorem Keys.pk(h:Keys xs (l.map toR) ks):PK (ak xs) ks l:=by
 refine⟨h.WM,λk=>?_⟩;rw[h.mem];refine wef λ_=>?_;unfold shs;constructor
 ·intro z;obtain⟨p,hp⟩:=List.exists_mem_of_ne_nil _ z;obtain⟨r,hr,rfl⟩:=dF.mp hp;obtain⟨h1,h2⟩:=fD.mp hr;obtain⟨q,hq,rfl⟩:=dF.mp h1;exact⟨q,hq,fW h2⟩
 ·rintro⟨q,hq,e⟩ z;have:(toR q).2∈((l.map toR).filter λr=>decide (ak xs r.1=k)).map (·.2):=dF.mpr ⟨toR q,fD.mpr ⟨dF.mpr ⟨q,hq,rfl⟩,bY e⟩,rfl⟩;rw[z]at this;exact nomatch this
theorem out_eq(h:Ly D l)(xs k):outD xs (l.map toR) k=mV (k,bw (ms D (λs=>decide (ak xs s=k)) l) D):=by
 have ok:Dy (shs xs (l.map toR) k):=λf hf=>by
  obtain⟨r,hr,rfl⟩:=dF.mp hf;exact h.rows.2 r (fD.mp hr).1
 have dv:∀f∈shs xs (l.map toR) k,f.2∣D:=λf hf=>by
  obtain⟨r,hr,rfl⟩:=dF.mp hf;obtain⟨q,hq,rfl⟩:=dF.mp (fD.mp hr).1;exact(h.all q hq).2.2
 show aan k (vC (shs xs (l.map toR) k))=_;rw[lowFI_eq h.pos ok dv,IK h.nn,BX];rfl
theorem tY(h:Ly D l)(xs)(ks):ks.map (outD xs (l.map toR))=(dH D (ak xs) ks l).map mV:=by
 unfold dH;rw[oN];exact SX λk _=>out_eq h xs k
theorem Ly.pul(h:Ly D l)(P:PK near ks l)(hl:ks.length<=10):Ly D (dH D near ks l):=by
 refine⟨h.pos,h.big,λq hq=>?_,?_,by unfold dH;rw[aF];exact hl⟩
 ·obtain⟨hk,e⟩:=vp hq;obtain⟨_,q',hq',z⟩:=(P.mem _).mp hk;have mp:0<ms D (λs=>decide (near s=q.1)) l:=Qv h.all h.pos ⟨q',hq',bY z⟩;have l2:=Vf h.pos (Ek mp);have e2:=vA (a:=ms D (λs=>decide (near s=q.1)) l) h.pos;rw[e];refine⟨?_,l2.2.1,l2.2.2⟩;rcases Int.lt_or_eq_of_le l2.1 with z|z
  ·exact z
  ·rw[<-z,M8]at e2;omega
 ·rw[zf h.pos P];exact yet (BW h.nn λ_ _ _=>rfl) h.tot
theorem Ms(h:aN n no ts aU xs=true):(xs.length:Int)=n/\(∀y∈xs,0<=y/\y<no)/\∀p∈ts,aq aU (xs.getD p.1.toNat 0) (xs.getD p.2.toNat 0)=true:=by
 unfold aN at h;rw[fH,fH,iW,iW]at h;refine⟨fW h.1,λy hy=>?_,h.2.2⟩;have:=h.2.1 y hy;rw[fH]at this;exact⟨fW this.1,fW this.2⟩
theorem zc(hl:aN n no ts aU xs=true)(hp:aY n ts)(L:Ly D l)(hs:∀q∈l,aU.filter (inB q.1)=[])(P:PK (ak xs) ks l)(hk:ks.length<=10):
  ∀q∈dH D (ak xs) ks l,ZP n ts q:=λq hq=>by
 obtain⟨e1,e2,e3⟩:=Ms hl;obtain⟨a,b,c⟩:=(L.pul P hk).all q hq;obtain⟨hk,ef⟩:=vp hq;obtain⟨_,q',hq',z⟩:=(P.mem _).mp hk;refine⟨by rw[<-z];exact uf _ _,λx hx=>?_,ydb.mpr λp hp' hc=>?_,a,b,bR (Wg L.pos c) L.big,by rw[ef];exact(Ej _ L.pos).cop⟩
 ·rw[<-z]at hx;obtain⟨t,ht,rfl,_⟩:=Mp.mp hx;omega
 ·unfold inB at hc;rw[fH]at hc;have m1:=fW hc.1;have m2:=fW hc.2;rw[<-z]at m1 m2;obtain⟨t1,_,d1,f1⟩:=Mp.mp m1;obtain⟨t2,_,d2,f2⟩:=Mp.mp m2;have tie:=e3 p hp';rw[d1,d2,wC,wC]at tie;unfold aq at tie;have no:=ydb.mp (hs q' hq') _ (fW tie);apply no;unfold inB;rw[fH];constructor
  ·apply bY;show(if _ then _ else _)∈_;split
   ·exact f2
   ·exact f1
  ·apply bY;show(if _ then _ else _)∈_;split
   ·exact f2
   ·exact f1
theorem Qs(hl:aN n no ts aU xs=true)(L:Ly D l)(hs:∀y:Int,0<=y->y<no->(D:Int)<=ms D (λs=>decide (y∈s)) l)(P:PK (ak xs) ks l):
  hasB D (fQ n.toNat) (dH D (ak xs) ks l)=true:=by
 obtain⟨e1,e2,e3⟩:=Ms hl;unfold hasB;rw[show(fQ n.toNat).length=n.toNat from ydh,iW];intro p hp;have hp':=qC.mp hp;unfold Lk;rw[Uu hp',JX,<-BX D λs=>decide (((p:Nat):Int)∈s),zf L.pos P];apply bY;have hlt:p<xs.length:=by omega
 obtain⟨y0,y1⟩:=e2 _ (Bb hlt);refine yet (hs _ y0 y1) (BW L.nn λq _ c=>?_);have m:((p:Nat):Int)∈ak xs q.1:=Mp.mpr ⟨p,hlt,rfl,by rw[gQ,eN hlt];exact fW c⟩;rw[bY m,gj (λz=>by rw[z]at m;exact nomatch m)];rfl
theorem Qt{v:Nat}(hl:aN n no ts aU xs=true)(hp:aY n ts)(L:Ly D l)(hs:∀q∈l,aU.filter (inB q.1)=[])(hc:∀y:Int,0<=y->y<no->(D:Int)<=ms D (λs=>decide (y∈s)) l)(P:PK (ak xs) ks l)(hk:ks.length<=10)(hu:ms D (λ_=>true) l*(v:Int)<=u*(D:Int)):Rt n ts (fQ n.toNat) D ((dH D (ak xs) ks l).map mV) u v=true:=by
 have sh:=zc hl hp L hs P hk;unfold Rt;rw[jX,Qs hl L hc P,wgq,fH];refine⟨?_,bY ?_⟩
 ·unfold layB;rw[Bo,Lh,fH,SN,iW];refine⟨λq hq=>Ow (sh q hq),?_⟩;unfold gG;refine iW.mpr λk hk=>?_;have hk':=qC.mp hk;rw[gQ,gQ,eN (show k<ks.length by omega),eN (show k+1<ks.length by omega)];exact Wm.mp P.WM k (k+1) _ _ (by omega)
 ·have e:oU D ((dH D (ak xs) ks l).map (·.2))=ms D (λ_=>true) (dH D (ak xs) ks l):=by
   rw[BX,yei.mpr λ_ _=>rfl]
  rw[e,zf L.pos P];exact yet (ydi (BW L.nn λ_ _ _=>rfl) (by omega)) hu
theorem K3{n:Nat}(hl:aN (n:Int) no ts aU xs=true)(hs:aU.filter (inB s)=[]):oE ts false n (ak xs s):=by
 obtain⟨e1,e2,e3⟩:=Ms hl;have key:∀{a b:Int},a∈ak xs s->b∈ak xs s->(a,b)∉ts:=λ{a b} ma mb z=>by
  obtain⟨t1,_,d1,f1⟩:=Mp.mp ma;obtain⟨t2,_,d2,f2⟩:=Mp.mp mb;have tie:=e3 _ z;rw[show(a,b).1=a from rfl,show(a,b).2=b from rfl,d1,d2,wC,wC]at tie;unfold aq at tie;have no:=ydb.mp hs _ (fW tie);apply no;unfold inB;rw[fH];constructor
  ·apply bY;show(if _ then _ else _)∈_;split
   ·exact f2
   ·exact f1
  ·apply bY;show(if _ then _ else _)∈_;split
   ·exact f2
   ·exact f1
 refine⟨uf _ _,λx hx=>?_,λx hx y hy _=>?_⟩
 ·obtain⟨t,ht,rfl,_⟩:=Mp.mp hx;omega
 ·unfold bN;rw[gj (key hx hy),gj (key hy hx)];rfl
theorem CK(hp:p<xs.length):∀l:List (ζ×(Int×Nat)),oU D (Lj ((p:Nat):Int) (l.map λq=>(ak xs q.1,q.2)))=ms D (λs=>decide (xs.getD p 0∈s)) l
 |[]=>rfl
 |q::l=>by
  have ih:=CK (D:=D) hp l;unfold Lj at ih⊢;rw[iQ];show _=_+ms D _ l;rw[<-ih];have e:decide (((p:Nat):Int)∈ak xs q.1)=decide (xs.getD p 0∈q.1):=by
   rw[sS,wbw,wbw,Mp];exact⟨λ⟨t,_,e,h⟩=>by rw[show p=t by omega];exact h,λh=>⟨p,hp,rfl,h⟩⟩
  by_cases c:decide (xs.getD p 0∈q.1)=true
  ·rw[au c,Wk (by exact e.trans c),iQ];rfl
  ·rw[ao c,Wj (by rw[show(decide (((p:Nat):Int)∈(ak xs q.1,q.2).1))=_ from e];exact c),Wd]
theorem Rj{f:ζ->ζ}:∀l:List (ζ×(Int×Nat)),oU D ((l.map λq=>(f q.1,q.2)).map (·.2))=ms D (λ_=>true) l
 |[]=>rfl
 |q::l=>by
  show _+oU D _=(if true=true then _ else(0:Int))+ms D _ l;rw[au rfl,Rj l]
theorem Em{n:Nat}(hl:aN (n:Int) no ts aU xs=true)(hS:cH ss ts false n)(h:Sh n ss (fQ n) ov Z Y X)(L:Ly D l)(hs:∀q∈l,aU.filter (inB q.1)=[])(hc:∀y:Int,0<=y->y<no->(D:Int)<=ms D (λs=>decide (y∈s)) l):Z*(D:Int)<=ms D (λ_=>true) l*(ov:Int):=by
 obtain⟨e1,e2,e3⟩:=Ms hl;have g:=Jt (D:=D) hS h (l:=l.map λq=>(ak xs q.1,q.2)) λq hq=>by
  obtain⟨q',hq',rfl⟩:=dF.mp hq;exact⟨K3 hl (hs q' hq'),L.nn q' hq'⟩
 rw[Rj]at g;refine yet ?_ g;rw[<-h.wor,M9,<-Sx.eV];refine Oq n λp hp=>?_;rw[El hp,JX,M9 (D:Int)];refine XF ?_ (h.xn p);have hlt:p<xs.length:=by omega
 rw[CK hlt];obtain⟨y0,y1⟩:=e2 _ (Bb hlt);have:=hc _ y0 y1;rw[gQ,eN hlt];exact this
theorem WR:∀k,(∀i,i<k->f i<=c)->Sx.sm k f<=(k:Int)*c
 |0,_=>by rw[show((0:Nat):Int)=0 from rfl,M8];exact tK _
 |k+1,h=>by
  have:=WR k λi hi=>h i (wW hi);have h2:=h k (wA _);show Sx.sm k f+f k<=_
  push_cast
  rw[wgm,JX];omega
theorem aa'(hS:cH ss ts false n)(h:Sh n ss (fQ n) ov Z Y X):Z<=(n:Int)*(ov:Int):=by
 rw[<-h.wor];refine WR _ λp hp=>?_;rw[El hp,JX];have sk:oE ts false n [(p:Int)]:=⟨ycx _ _,λx hx=>by rw[fV.mp hx];omega,λx hx y hy hn=>absurd ((fV.mp hx).trans (fV.mp hy).symm) hn⟩;have:=yg hS h sk;rw[Sx.eU (j:=p) _ hp λi _ hi=>ao (by simp;omega),au (by simp)]at this;exact this
theorem Vl(hn:n<=5)(hS:cH ss ts false n):(dw ss ov Y).length<=10:=by
 have h:=vO (r:=λi j=> !(bN ts i j==false)) (λi j=>by rw[Sy]) n (rng n) (by unfold rng;simp) (by omega) (jM ts false n) ((gB n).filter _) (λs hs=>zF hs);have h2:=uo n 5 hn (by decide);have e:=hS.1.length_eq;unfold dw;rw[aF];refine bR (sO _ _) ?_;rw[yu,e];exact bR h (bR h2 (by decide))
theorem Qx(hD:0<D)(hY:∀k,0<=Y k)(g:ζ->Bool):ms D g (dw ss D Y)=Sx.sm ss.length λk=>if g (ss.getD k [])=true then Y k else 0:=by
 rw[BX];exact Jo hD hY g _
theorem zA{n:Nat}(hp:aY (n:Int) ts)(hn:n<=5)(hS:cH ss ts false n)(h:Sh n ss (fQ n) ov Z Y X):
  Ly ov (dw ss ov Y)/\ms ov (λ_=>true) (dw ss ov Y)=Z/\(∀q∈dw ss ov Y,ts.filter (inB q.1)=[])/\(∀y:Int,0<=y->y<(n:Int)->(ov:Int)<=ms ov (λs=>decide (y∈s)) (dw ss ov Y)):=by
 have ok:=QS hp (by omega) hS h;have tot:ms ov (λ_=>true) (dw ss ov Y)=Z:=by
  rw[Qx h.pos h.yn,<-h.tot];exact Sx.bA _ λk _=>au rfl
 have zb:=aa' hS h;have big:=h.big;refine⟨⟨h.pos,h.big,λq hq=>?_,?_,Vl hn hS⟩,tot,λq hq=>(ok.all q hq).no,λy y0 y1=>?_⟩
 ·obtain⟨k,_,e⟩:=dF.mp hq;have o:=ok.all q hq;refine⟨o.pos,o.bot,?_⟩;rw[<-e];exact vB h.pos
 ·rw[tot];have:(n:Int)*(ov:Int)<=5*39916800:=Int.mul_le_mul (by omega) (by omega) (by omega) (by decide);omega
 ·have e:=h.eno y.toNat (by omega);rw[show wD (fQ n) y.toNat=1 from El (by omega),wdw]at e;rw[Qx h.pos h.yn];refine yet e (Xn (Sx.bA _ λk _=>?_));unfold gU;rw[Xy y0]
theorem QG{D D':Nat}(h:0<D)(h':0<D')(e:Z*(D':Int)<=Z'*(D:Int)):(bw Z D).1*((bw Z' D').2:Int)<=(bw Z' D').1*((bw Z D).2:Int):=by
 have l:=Ej Z h;have l':=Ej Z' h';have e1:=l.eq;have e2:=l'.eq;have p1:=l.pos;have p2:=l'.pos;generalize (bw Z D).1=u at *;generalize (bw Z D).2=v at *;generalize (bw Z' D').1=u' at *;generalize (bw Z' D').2=v' at *;refine yez (a:=(D:Int)*(D':Int)) ?_ (Wc (by omega) (by omega));have x1:u*(v':Int)*((D:Int)*(D':Int))=(Z*(D':Int))*((v:Int)*(v':Int)):=by
  have:u*(v':Int)*((D:Int)*(D':Int))=(u*(D:Int))*(v':Int)*(D':Int):=by grind
  rw[this,e1];grind
 have x2:u'*(v:Int)*((D:Int)*(D':Int))=(Z'*(D:Int))*((v:Int)*(v':Int)):=by
  have:u'*(v:Int)*((D:Int)*(D':Int))=(u'*(D':Int))*(v:Int)*(D:Int):=by grind
  rw[this,e2];grind
 rw[x1,x2];exact ydi e (HS (by omega) (by omega))
theorem K6{D D':Nat}(h:0<D)(h':0<D')(e:Z*(D':Int)=Z'*(D:Int)):bw Z D=bw Z' D':=by
 obtain⟨a,b⟩:=zq (Ej Z h) (Ej Z' h') h h' e;exact Wv a b
theorem Nz(h0:0<=x)(h1:x<m)(g0:0<=y)(g1:y<m)(ne:x≠y):aq (rows tt m m.toNat) x y=true:=by
 unfold aq;refine bY (gJ.mpr ?_);by_cases c:y<x
 ·rw[au c,ao (by omega)];exact⟨by show 0<=y;omega,by show y<_;omega,by show y<x;omega,by show x<m;omega,rfl⟩
 ·rw[ao c,au (show y>x by omega)];exact⟨by show 0<=x;omega,by show x<_;omega,by show x<y;omega,by show y<m;omega,rfl⟩
theorem QZ(h0:0<=n)(hp:aY n ts)(h:vY ts n.toNat m hs):aN n m ts (rows tt m m.toNat) hs=true:=by
 unfold aN;rw[fH,fH,iW,iW];have hl:=h.len;refine⟨bY (by omega),λy hy=>?_,λp hp'=>?_⟩
 ·obtain⟨i,hi,rfl⟩:=Ed hy;obtain⟨a,b⟩:=h.rg i (by omega);rw[gQ,eN hi]at a b;rw[fH];exact⟨bY a,bY b⟩
 ·obtain⟨p0,p1,p2⟩:=hp.lt p hp';obtain⟨a0,a1⟩:=h.rg p.1.toNat (by omega);obtain⟨b0,b1⟩:=h.rg p.2.toNat (by omega);refine Nz a0 a1 b0 b1 (h.ok _ _ (by omega) (by omega) ?_);rw[Xy (by omega),Xy (by omega)];unfold aq;rw[ao (by omega),au (by omega)];exact bY hp'
theorem Nk(h0:0<=n)(m0:0<=m)(hp:aY n ts)(h:aN n m ts (rows tt m m.toNat) ys=true):iY ts (iB n.toNat)<=m:=by
 obtain⟨e1,e2,e3⟩:=Ms h;have:=zM (ts:=ts) (λx=>ys.getD x.toNat 0) m.toNat (iB n.toNat) (iB m.toNat) (by unfold iB;simp) (λx hx=>?_) (?_)
 ·rw[Xy m0]at this;exact this
 ·have hx':=lV.mp hx;have hlt:x.toNat<ys.length:=by omega
  have y2:=e2 _ (Bb hlt);rw[gQ,eN hlt];exact lV.mpr ⟨y2.1,by have:=y2.2;show ys[x.toNat]<_;omega⟩
 ·refine(List.pairwise_of_forall λx y=>?_);intro ht e;have self:∀v:Int,aq (rows tt m m.toNat) v v=false:=λv=>by
   unfold aq;rw[ao (wdt v)];refine gj λz=>?_;have:=(gJ.mp z).2.2.1;exact absurd this (wdt _)
  unfold aq at ht;have t:=e3 _ (fW ht);have e':ys.getD x.toNat 0=ys.getD y.toNat 0:=e;by_cases c:y<x
  ·rw[au c,ao (show¬y>x by omega)]at t;rw[show(y,x).1=y from rfl,show(y,x).2=x from rfl,e',self]at t;exact nomatch t
  ·by_cases c2:y>x
   ·rw[ao c,au c2]at t;rw[show(x,y).1=x from rfl,show(x,y).2=y from rfl,e',self]at t;exact nomatch t
   ·rw[ao c,ao c2]at t;rw[show(x,x).1=x from rfl,show(x,x).2=x from rfl,self]at t;exact nomatch t
theorem aaX(h0:0<=n)(hp:aY n ts):iY ts (iB n.toNat)<=n:=by
 have:=zM (ts:=ts) (λx=>x) n.toNat (iB n.toNat) (iB n.toNat) (by unfold iB;simp) (λx hx=>hx) (by
  have:(iB n.toNat).Pairwise (· < ·):=by
   unfold iB;rw[J4];exact ydc.imp λh=>by omega
  exact this.imp λh _ e=>by omega)
 omega
theorem rB(ha:a<=5)(hb:b<=5):ur false (Sw.cst a b)<=16000000:=by
 have h:∀a:Fin 6,∀b:Fin 6,ur false (Sw.cst a.val b.val)<=16000000:=by decide
 exact h ⟨a,by omega⟩ ⟨b,by omega⟩
theorem Lb(h0:0<=m)(hp:aY n ts)(hu:aY m us)(h:aN n m ts us xs=true)(h':aN m k us vs ys=true):aN n k ts vs (xs.map λx=>ys.getD x.toNat 0)=true:=by
 obtain⟨a1,a2,a3⟩:=Ms h;obtain⟨b1,b2,b3⟩:=Ms h';have gz:∀t,t<xs.length->(xs.map λx=>ys.getD x.toNat 0).getD t 0=ys.getD (xs.getD t 0).toNat 0:=λt ht=>by
  rw[gQ,cV,eN ht,gQ (l:=xs),eN ht];rfl
 unfold aN;rw[fH,fH,iW,iW];refine⟨bY (by rw[aF];exact a1),λy hy=>?_,λp hp'=>?_⟩
 ·obtain⟨x,hx,rfl⟩:=dF.mp hy;have:=a2 x hx;have hlt:x.toNat<ys.length:=by omega
  have y2:=b2 _ (Bb hlt);rw[gQ,eN hlt,fH];exact⟨bY y2.1,bY y2.2⟩
 ·obtain⟨p0,p1,p2⟩:=hp.lt p hp';rw[gz _ (by omega),gz _ (by omega)];have t:=a3 p hp';unfold aq at t;have t2:=b3 _ (fW t);generalize xs.getD p.1.toNat 0=x at *;generalize xs.getD p.2.toNat 0=y at *;have sym:∀u v:Int,aq vs u v=aq vs v u:=λu v=>by
   unfold aq;rcases yew u v with c|c|c
   ·rw[ao (show¬v<u by omega),au (show v>u by omega),au c,ao (show¬u>v by omega)]
   ·subst c;rfl
   ·rw[au (show v<u by omega),ao (show¬v>u by omega),ao (show¬u<v by omega),au (show u>v by omega)]
  by_cases c:y<x
  ·rw[au c,ao (show¬y>x by omega)]at t2;rw[sym];exact t2
  ·by_cases c2:y>x
   ·rw[ao c,au c2]at t2;exact t2
   ·rw[ao c,ao c2]at t2;have e:y=x:=by omega
    rw[e];exact t2
theorem K4(h:aN n m ts us xs=true)(h':aN m k us vs ys=true)(far):ak (xs.map λx=>ys.getD x.toNat 0) far=ak xs (ak ys far):=by
 obtain⟨a1,a2,a3⟩:=Ms h;obtain⟨b1,_,_⟩:=Ms h';refine Qp (by rw[aF]) λt ht=>?_;have y:=a2 _ (Bb ht);have e:xs.getD t 0=xs[t]:=by rw[gQ,eN ht];rfl
 rw[e];refine⟨y.1,by omega,?_⟩;rw[gQ,cV,eN ht];rfl
section
variable{P:χ}{w:ω}{K:ag}{mg:L5}{base:bv}
theorem qP(k):(al k [V.int 1]).flatten=(fQ k).map V.int:=by
 unfold fQ
 induction k with
 |zero=>rfl
 |succ k ih=>rw[J6,TF,ih,J6];rfl
theorem kY:∀{vs:List V}{l:List (ζ×(Int×Nat))},(∀q∈l,0<=q.2.1)->gZ K H vs l->vX K H vs (l.map toR)
 |_,_,_,.nil=>.nil
 |_::_,q::l,h,.cons hd r=>by
  obtain⟨t,sa,fa,e,h1,h2,h3⟩:=hd;have q0:=h q cC;have h3':SqT K H fa [.int ((q.2.1.toNat:Nat):Int),.int ((q.2.2:Nat):Int)]:=by rw[Xy q0];exact h3
  exact Paired.cons (show ZQ K H _ (toR q)from⟨t,sa,fa,e,h1,h2,h3'⟩) (kY (λq' hq=>h q' (cY _ hq)) r)
inductive uF(K:ag)(vs:List V)(H:Hp)(Q:VK)(E_:XK):Prop
 |mk(a o sm:af)(n no:Int)(ts aU:L0)(xs:ζ)(_:vs=[.ref a,.ref o,.ref sm])(_:aR K H a n ts)(_:aR K H o no aU)(_:no<=5)(_:SqT K H sm (xs.map V.int))(_:aN n no ts aU xs=true)(_:∀H',Same H H'->Q (.bl true) H')
theorem KJ{f:af}{fd:ψ}
  (F:Fun K "_law_e_pulled_right" "_law_e_pulled_right" zcb f fd)(D1:Dp P w K mg base 9 "shares" j6 ["web","wants"] (jY K))(D2:Dp P w K mg base 1 "is_less" je ["one","other"] (uG K))(D3:Dp P w K mg base 10 "value" tV ["web"] (tO K))(D4:Dp P w K mg base 8 "is_enough" j8 ["web","wants","laying","number"] (Fb K))(D5:Dp P w K mg base 9 "pulled" pq ["web","other","some","laying"] (oW K)):
  FnOk P w K mg base CX0 11 f fd ["web","other","some"] (uF K):=by
 refine F.eG ["web","other","some","worth","laying","costs"] λH Q hr h=>?_;obtain⟨a,o,sm,n,no,ts,aU,xs,rfl,hA,hO,h5,hX,Cy,qq⟩:=h;refine cg ?_;intro Y;refine⟨_,(aO (ps_asg (pd D1 hr (aj (pv 1) (aj (bW tZ (lY (aj aM aA)) (bB fU (pv 1) aM)) aA))) (pg_tup rfl (jO (pG 3) (jO (pG 4) (jO (pG 5) Al))))) (aO (jq (qz (pd D2 hr (aj (pv 3) (aj (pd D3 hr (aj (pv 0) aA)) aA)))) (aZ (cu pe_bl)) jN) (aZ (cu (Hx Yo (pd D4 hr (aj (pv 0) (aj (bW tZ (lY (aj aM aA)) (bB fU (pv 0) aM)) (aj (pd D5 hr (aj (pv 0) (aj (pv 1) (aj (pv 2) (aj (pv 4) aA))))) (aj (pv 3) aA))))) pe_bl))))),?_⟩;refine lg ?_;intro c3 c2;obtain⟨k,rfl⟩:=yel hA.h0;obtain⟨m,rfl⟩:=yel hO.h0;have h10:=hA.h1;obtain⟨tta,rra,a1,a2,a3⟩:=id hA.web;obtain⟨tto,rro,o1,o2,o3⟩:=id hO.web;refine⟨_,rfl,szl,λp1 hp1=>?_⟩;have s1:=aP hp1 (.tup [.int 1]);refine⟨_,rfl,o,_,_,.int m,rfl,rfl,s1.tup o1,rfl,p1,m,_,rfl,rfl,SqT.of aH,(λe=>nomatch e),by omega,by omega,by show 1*((m:Nat):Int).toNat<=1000;omega,λwa H2 s2 h2=>?_⟩;rw[qP]at h2;have s12:=s1.trans s2;refine⟨o,wa,m,aU,fQ ((m:Nat):Int).toNat,rfl,hO.same s12,h2,qF hO.h0,λr va la pa lrefs Bw ss ov Z Y X H3 s3 e1 e2 e3 e4 e5 e6 hS hSh _ _ _=>?_⟩;rw[wC]at hS hSh;refine⟨r,_,rfl,SqT.of e1,rfl,_,_,rfl,_,_,rfl,_,_,rfl,rfl,?_⟩;obtain⟨L,tot,hno,hcov⟩:=zA hO.pk (by omega) hS hSh;have tW:=s12.trans s3;refine⟨_,rfl,_,rfl,a,k,ts,rfl,hA.same tW,λvw ss' ov' Z' Y' X' H4 s4 hv hS' Q5=>?_⟩;rw[wC]at hS' Q5;have cmp:=Em Cy hS' Q5 L hno hcov;rw[tot]at cmp;have lc:=QG Q5.pos hSh.pos cmp;have b1:=(Ej Z hSh.pos).lv;have b2:=(Ej Z' Q5.pos).lv;have g1:=hSh.big;have g2:=Q5.big;have le:=(Ej Z hSh.pos).eq;refine⟨va,vw,(bw Z ov).1,(bw Z' ov').1,(bw Z ov).2,(bw Z' ov').2,rfl,s4.tup e2,hv,by omega,by omega,_,rfl,?_⟩;rw[gj (by omega)];apply iteF;refine⟨_,rfl,szl,λp2 hp2=>?_⟩;have s5:=aP hp2 (.tup [.int 1]);have s45:=(tW.trans s4).trans s5;refine⟨_,rfl,a,_,_,.int k,rfl,rfl,s45.tup a1,rfl,p2,k,_,rfl,rfl,SqT.of aH,(λe=>nomatch e),by omega,by omega,by show 1*((k:Nat):Int).toNat<=1000;omega,λwb H6 s6 h6=>?_⟩;rw[qP]at h6;have s06:=s45.trans s6;have s36:=(s4.trans s5).trans s6;refine⟨_,rfl,_,rfl,_,rfl,_,rfl,a,o,sm,la,k,m,ts,aU,xs,lrefs,(dw ss ov Y).map toR,rfl,hA.same s06,hO.same s06,s06.tup hX,Cy,SqL.of (s36 _ _ e3),kY L.nn (gZ.same e4 s36),L.rows,λr2 ks us H7 s7 e7 d7 hK _ hus=>?_⟩;have P:=hK.pk;have ad:=d7.len;rw[aF]at ad;have aaG:ks.length<=10:=by omega
 rw[tY L]at d7;have eno:=Qt (u:=(bw Z ov).1) (v:=(bw Z ov).2) Cy hA.pk L hno hcov P aaG (by rw[tot];exact Xn le.symm);refine⟨_,rfl,a,wb,r2,va,k,ts,fQ ((k:Nat):Int).toNat,us,(dH ov (ak xs) ks (dw ss ov Y)).map mV,ov,(bw Z ov).1,(bw Z ov).2,rfl,hA.same (s06.trans s7),s7.tup h6,qF hA.h0,SqL.of e7,cF.dx d7,by omega,(s36.trans s7).tup e2,by omega,λ_=>?_,λH8 s8=>?_⟩
 ·rw[jX];exact(L.pul P aaG).dok
 rw[eno];exact⟨_,_,rfl,rfl,qq H8 (s06.trans (s7.trans s8))⟩
inductive qK(T:af)(K:ag)(vs:List V)(H:Hp)(Q:VK)(E_:XK):Prop
 |mk(a:af)(ns:ζ)(_:vs=[.ref a])(_:mD K H a ns)(_:ns.length<=63)(_:Dw H T)(_:∀H',Q (.bl true) H')
theorem Kd{ns:ζ}(hl:ns.length<=63)(hO:JM T H)(hS:SqL K H a (ns.map V.int)):qK T K [.ref a] H (λv _=>v=.bl true) λ_ _ _=>False:=by
 refine⟨a,ns,rfl,?_,hl,.inl hO.1,λ_=>rfl⟩;have na:∀xs,H a≠some (.lst xs):=λxs h=>by
  by_cases e:a=T
  ·rw[e,hO.1]at h;cases h
  ·rcases hO.2 a e with q|⟨o,ys,q⟩
   ·rw[q]at h;cases h
   ·rw[q]at h;cases h
 rcases hS with(h|⟨o,h⟩)|h
 ·exact absurd h (na _)
 ·exact .inl ⟨o,h⟩
 ·exact .inr h
structure Wy(K:ag)(T:af)(H:Hp)(wa oa ta s1 s2:af)(n m k:Int)(ts us vs:L0)(xs ys:ζ):Prop where
 lam:Dw H T
 w:aR K H wa n ts
 o:aR K H oa m us
 t:aR K H ta k vs
 x:SqT K H s1 (xs.map V.int)
 y:SqT K H s2 (ys.map V.int)
theorem Wy.same(h:Wy K T H wa oa ta s1 s2 n m k ts us vs xs ys)(s:Same H H'):Wy K T H' wa oa ta s1 s2 n m k ts us vs xs ys:=⟨h.lam.same s,h.w.same s,h.o.same s,h.t.same s,s.tup h.x,s.tup h.y⟩
structure Wf(n m k:Int)(ts us vs:L0)(xs ys:ζ):Prop where
 n5:n<=5
 m1:1<=m
 m5:m<=5
 k5:k<=5
 l1:aN n m ts us xs=true
 l2:aN m k us vs ys=true
theorem Jm(hl:(xs.length:Int)=n)(hx:∀x∈xs,0<=x/\x<m)(hp:∀p∈ts,zx us xs p):aN n m ts us xs=true:=by
 unfold aN;rw[fH,fH];refine⟨bY hl,iW.mpr λy hy=>?_,iW.mpr λp' hp'=>hp p' hp'⟩;have:=hx y hy;rw[bY this.1,bY this.2];rfl
theorem PB(hl:aN n no ts aU xs=true)(hp:aY n ts)(L:Ly D l)(hs:∀q∈l,aU.filter (inB q.1)=[])(P:PK (ak xs) ks l)(hk:ks.length<=10)(d:cF K H us ((dH D (ak xs) ks l).map mV)):gZ K H us (dH D (ak xs) ks l):=by
 have sh:=zc hl hp L hs P hk;obtain⟨l',e,h,_⟩:=lay_of (n:=n) (ts:=ts) (cF.dx d) (by rw[SN,iW];exactλq hq=>Ow (sh q hq));have:dH D (ak xs) ks l=l':=by rw[<-jX (dH D (ak xs) ks l),e,jX]
 rw[this];exact h
theorem PJ(hl:aN n no ts aU xs=true)(hp:aY n ts)(L:Ly D l)(hs:∀q∈l,aU.filter (inB q.1)=[])(P:PK (ak xs) ks l)(hk:ks.length<=10):∀q∈dH D (ak xs) ks l,ts.filter (inB q.1)=[]:=λq hq=>(zc hl hp L hs P hk q hq).no
theorem ok_law{f f1:af}
  {T:af}
  {fd d1:ψ}
  (F:Fun K "law" "law" rT f fd)(D1:Eh K mg "_law_e_web_of" gC ["cup","n"] f1 d1)(G1:FnOk P w K mg base CX0 3 f1 d1 ["cup","n"] (yE K))(D2:Dp P w K mg base 2 "_law_e_dip" zdl ["cup","many"] (Bh K))(D3:Dp P w K mg base 3 "_law_e_planted" zdk ["cup","other","n"] (qJ K))(D4:Dp P w K mg base 11 "_law_e_pulled_right" zcb ["web","other","some"] (uF K))(D5:Dp P w K mg base 9 "shares" j6 ["web","wants"] (jY K))(D6:Dp P w K mg base 8 "is_way" pA ["web","other","some"] (Ij K))(D7:Dp P w K mg base 9 "pulled" pq ["web","other","some","laying"] (oW K))(D8:Dp P w K mg base 10 "value" tV ["web"] (tO K))(D9:Dp P w K mg base 25 "way_into" nO ["web","other"] (qH K))(D10:Dp P w K mg base 8 "fewest" uN ["web"] (Og K T))(D11:Dp P w K mg base 1 "_law_e_all_tied" zdb ["n"] (Fd K))(aG:mg "range"=none)(bU:mg "len"=none)(aL:mg "tuple"=none):
  FnOk P w K mg base CX0 26 f fd ["script"] (qK T K):=by
 refine F.U4 ["script","cup","k","third","other","onward","web","some","both","laying","many"] λcdv A outer s H vs Q E hr h=>?_;obtain⟨a,ns,rfl,hS,h63,hL,q⟩:=h;refine cg ?_;intro Y;refine⟨_,(aO (pS 1 (pe_lst (aj (pv 0) (aj aM (aj aM aA))))) (aO (Ay wX rfl (Ec rfl aG (aj aM aA)) (pG 2) (aO (jq (PW.pt (pw_and (iM op_gt (pv 2) aM) (pw_and1 (iM op_ge (bB jV (pv 1) aM) (pB yp bU (aj (pv 0) aA)))))) (aZ ps_break) jN) (aO (pS 3 (pc G1 hr D1 (aj (pv 1) (aj (bW sI aM (pd D2 hr (aj (pv 1) (aj aM aA)))) aA)))) (aO (ps_asg (pd D3 hr (aj (pv 1) (aj (pv 3) (aj (bW sI aM (pd D2 hr (aj (pv 1) (aj aM aA)))) aA)))) (pg_tup rfl (jO (pG 4) (jO (pG 5) Al)))) (aO (ps_asg (pd D3 hr (aj (pv 1) (aj (pv 4) (aj (pd D2 hr (aj (pv 1) (aj aM aA))) aA)))) (pg_tup rfl (jO (pG 6) (jO (pG 7) Al)))) (aO (jq (PW.pt (pw_or (sJ (qz (pd D4 hr (aj (pv 6) (aj (pv 4) (aj (pv 7) aA)))))) (pw_or1 (sJ (qz (pd D4 hr (aj (pv 4) (aj (pv 3) (aj (pv 5) aA))))))))) (aZ (cu pe_bl)) jN) (aO (pS 8 (pT JW aL (aj (pK ["there"] ["onward"] [5] (Ei (pv 7)) (pG 0) m9 (bB (Ea K) (pv 1) (pv 0))) aA))) (aO (pS 9 (bB fU (pd D5 hr (aj (pv 3) (aj (bW tZ (lY (aj aM aA)) (bB fU (pv 3) aM)) aA))) aM)) (aO (jq (iM Kw (pd D6 hr (aj (pv 6) (aj (pv 3) (aj (pv 8) aA)))) pe_bl) (aZ (cu pe_bl)) jN) (aO (jq (iM (P0 hr.units) (pd D7 hr (aj (pv 6) (aj (pv 4) (aj (pv 7) (aj (pd D7 hr (aj (pv 4) (aj (pv 3) (aj (pv 5) (aj (pv 9) aA))))) aA))))) (pd D7 hr (aj (pv 6) (aj (pv 3) (aj (pv 8) (aj (pv 9) aA)))))) (aZ (cu pe_bl)) jN) (aO (jq (PW.pt (pw_and (iM op_notN (pd D9 hr (aj (pv 3) (aj (pv 4) aA))) pe_non) (pw_and1 (iM (P0 hr.units) (pd D8 hr (aj (pv 3) aA)) (pd D8 hr (aj (pv 4) aA)))))) (aZ (cu pe_bl)) jN) (aO (pS 10 (bB fU (pd D10 hr (aj (pv 4) aA)) aM)) (aO (jq (iM op_isN (pd D9 hr (aj (pv 4) (aj (pd D11 hr (aj (pv 10) aA)) aA))) pe_non) (aZ (cu pe_bl)) jN) (aZ (jq (iM op_notN (pd D9 hr (aj (pv 4) (aj (pd D11 hr (aj (bW op_sub (pv 10) aM) aA)) aA))) pe_non) (aZ (cu pe_bl)) jN))))))))))))))) (aZ (cu pe_bl)))),?_⟩;refine lg ?_;intro c3 c2;refine⟨_,rfl,szl,λcp hcp=>?_⟩;have c0:=V3 hS h63 hcp;have hL0:=hL.same (aP hcp (.lst [.ref a,.int 0,.int 0]));dsimp only;generalize (upd H cp (.lst [.ref a,.int 0,.int 0]))=H0 at *;refine⟨3,rfl,by decide,by decide,?_⟩;let mH:Nat->St->Hp->Prop:=λi σ H'=>dI K H' cp a ns (1000*(i:Int))/\Dw H' T/\∃b2 b3 b4 b5 b6 b7 b8 b9 b10,σ=[some (.ref a),some (.ref cp),b2,b3,b4,b5,b6,b7,b8,b9,b10];refine Tt (n:=3) mH ⟨c0.mono (by omega),hL0,_,_,_,_,_,_,_,_,_,rfl⟩ (λi σ H' hi p=>?_) (λσ H' p=>q H');clear c0 hL0;obtain⟨c,Gn,b2,b3,b4,b5,b6,b7,b8,b9,b10,rfl⟩:=p;refine NT (K:=K) (r:=[b3,b4,b5,b6,b7,b8,b9,b10]) c.tv (λb=>?_);cases b with
 |true=>exact q H'
 |false=>
  apply iteF;dsimp only[tNext];refine M5 (λσ' H2=>∃(ta:af) (k:Int) (vs:L0),σ'=[some (.ref a),some (.ref cp),some (.int (0+(i:Int))),some (.ref ta),b4,b5,b6,b7,b8,b9,b10]/\dI K H2 cp a ns (1000*(i:Int)+121)/\Dw H2 T/\aR K H2 ta k vs/\1<=k/\k<=5) (λN hN=>?_) ?_
  ·obtain⟨z1,hz1⟩:=c.lst;refine⟨_,rfl,_,rfl,cp,a,ns,5,_,rfl,c,by omega,by decide,by decide,λd H2 hd0 hd1 x2 c2=>⟨_,_,rfl,rfl,cp,a,ns,1+d,_,rfl,c2,by omega,by omega,by omega,λta vs H3 x3 c3 hO=>?_⟩⟩;obtain⟨z2,hz2⟩:=c2.lst;exact hN _ _ ⟨ta,1+d,vs,rfl,c3.mono (by omega),xT (xT Gn x2 hz1) x3 hz2,hO,by omega,by omega⟩
  clear c Gn;rintro σ' H2 ⟨ta,k,vs,rfl,c,Gn,Wt,k1,k5⟩
  try dsimp only
  refine M5 (λσ' H2=>∃(oa s2:af) (m:Int) (us:L0) (ys:ζ),σ'=[some (.ref a),some (.ref cp),some (.int (0+(i:Int))),some (.ref ta),some (.ref oa),some (.ref s2),b6,b7,b8,b9,b10]/\dI K H2 cp a ns (1000*(i:Int)+262)/\Dw H2 T/\aR K H2 ta k vs/\aR K H2 oa m us/\SqT K H2 s2 (ys.map V.int)/\1<=m/\m<=5/\aN m k us vs ys=true) (λN hN=>?_) ?_
  ·obtain⟨z1,hz1⟩:=c.lst;refine⟨_,rfl,_,rfl,_,rfl,cp,a,ns,5,_,rfl,c,by omega,by decide,by decide,λe H4 he0 Ze x4 c4=>⟨_,_,rfl,rfl,cp,a,ta,ns,1+e,k,_,vs,rfl,c4,by omega,Wt.cJ x4 hz1,by omega,by omega,by omega,λr oa s2 us ys H5 x5 c5 hr' hW hX hl hx hp=>?_⟩⟩;obtain⟨z4,Vq⟩:=c4.lst;refine⟨r,_,rfl,hr',rfl,_,_,rfl,_,_,rfl,rfl,?_⟩;exact hN _ _ ⟨oa,s2,1+e,us,ys,rfl,c5.mono (by omega),xT (xT Gn x4 hz1) x5 Vq,(Wt.cJ x4 hz1).cJ x5 Vq,hW,hX,by omega,by omega,Jm hl hx hp⟩
  clear c Gn Wt;rintro σ' H3 ⟨oa,s2,m,us,ys,rfl,c,Gn,Wt,Wo,Y2,m1,m5,l2⟩
  try dsimp only
  refine M5 (λσ' H2=>∃(wa s1:af) (n:Int) (ts:L0) (xs:ζ),σ'=[some (.ref a),some (.ref cp),some (.int (0+(i:Int))),some (.ref ta),some (.ref oa),some (.ref s2),some (.ref wa),some (.ref s1),b8,b9,b10]/\dI K H2 cp a ns (1000*(i:Int)+403)/\Wy K T H2 wa oa ta s1 s2 n m k ts us vs xs ys/\Wf n m k ts us vs xs ys) (λN hN=>?_) ?_
  ·obtain⟨z1,hz1⟩:=c.lst;refine⟨_,rfl,_,rfl,_,rfl,cp,a,ns,6,_,rfl,c,by omega,by decide,by decide,λe H4 he0 Ze x4 c4=>⟨cp,a,oa,ns,e,m,_,us,rfl,c4,by omega,Wo.cJ x4 hz1,by omega,by omega,by omega,λr wa s1 ts xs H5 x5 c5 hr' hW hX hl hx hp=>?_⟩⟩;obtain⟨z4,Vq⟩:=c4.lst;refine⟨r,_,rfl,hr',rfl,_,_,rfl,_,_,rfl,rfl,?_⟩;exact hN _ _ ⟨wa,s1,e,ts,xs,rfl,c5.mono (by omega),⟨xT (xT Gn x4 hz1) x5 Vq,hW,(Wo.cJ x4 hz1).cJ x5 Vq,(Wt.cJ x4 hz1).cJ x5 Vq,hX,x5.tup Vq (x4.tup hz1 Y2)⟩,by omega,m1,m5,k5,Jm hl hx hp,l2⟩
  clear c Gn Wt Wo Y2 l2;rintro σ' H4 ⟨wa,s1,n,ts,xs,rfl,c,I,F5⟩
  try dsimp only
  have lf1:=F5.l1;have Vh:=F5.l2;have n5:=F5.n5;refine M5 (λσ' H'=>σ'=[some (.ref a),some (.ref cp),some (.int (0+(i:Int))),some (.ref ta),some (.ref oa),some (.ref s2),some (.ref wa),some (.ref s1),b8,b9,b10]/\Same H4 H') (λN hN=>?_) ?_
  ·refine⟨_,rfl,_,rfl,_,rfl,wa,oa,s1,n,m,ts,us,xs,rfl,I.w,I.o,m5,I.x,lf1,λH5 s5=>⟨_,rfl,?_⟩⟩;apply iteF;have I5:=I.same s5;refine⟨_,rfl,_,rfl,_,rfl,oa,ta,s2,m,k,us,vs,ys,rfl,I5.o,I5.t,k5,I5.y,Vh,λH6 s6=>⟨_,rfl,?_⟩⟩;exact iteF (hN _ _ ⟨rfl,s5.trans s6⟩)
  rintro σ' H5 ⟨rfl,s5⟩;have I5:=I.same s5;have c5:=c.same s5;clear I c s5
  try dsimp only
  have xl:=(Ms lf1).1;have xb:=(Ms lf1).2.1;have yl:=(Ms Vh).1;refine M5 (λσ' H'=>∃s3:af,σ'=[some (.ref a),some (.ref cp),some (.int (0+(i:Int))),some (.ref ta),some (.ref oa),some (.ref s2),some (.ref wa),some (.ref s1),some (.ref s3),b9,b10]/\Same H5 H'/\SqT K H' s3 ((xs.map λx=>ys.getD x.toNat 0).map V.int)) (λN hN=>?_) ?_
  ·refine⟨_,rfl,s1,_,rfl,I5.x,λhz=>?_⟩;let Ad:Nat->List V->St->Hp->Prop:=λj acc σ H'=>acc=((xs.take j).map λx=>ys.getD x.toNat 0).map V.int/\H'=H5/\∃o1,σ=[o1,some (.ref s2)];refine M7 (xs:=xs.map V.int) Ad ⟨rfl,rfl,_,rfl⟩ (λi acc σ H' _ p=>by rw[p.2.1];exact I5.x) (λj acc σ H' hj p=>by rw[p.1,aF,aF,rQ];exact yq _ _) hz (λj x acc σ H' hx p=>?_) (λacc σ H' p=>?_)
   ·obtain⟨rfl,rfl,o1,rfl⟩:=p;rw[cV]at hx;cases ex:xs[j]? with
    |none=>rw[ex]at hx;cases hx
    |some x0=>
     rw[ex]at hx;cases hx;have hb:=xb x0 (nu ex);refine⟨_,rfl,_,rfl,s2,_,_,.int (ys.getD x0.toNat 0),rfl,rfl,I5.y,Dt hb.1 (by omega),?_⟩;exact⟨by rw[qx,ex,bC,bC];rfl,rfl,_,rfl⟩
   ·intro p1 hp1;obtain⟨rfl,rfl,_⟩:=p;rw[aF,qw];have n1:=aP hp1 (.lst ((xs.map λx=>ys.getD x.toNat 0).map V.int));refine⟨p1,_,rfl,.inl ⟨SqL.of aH,λt ht=>?_⟩⟩;exact hN _ _ ⟨t,rfl,n1.trans (aP ht _),SqT.of aH⟩
  rintro σ' H6 ⟨s3,rfl,s6,Z6⟩;have I6:=I5.same s6;have c6:=c5.same s6;clear I5 c5 s6;have lf3:=Lb (by omega) I6.w.pk I6.o.pk lf1 Vh;have cmp:=K4 lf1 Vh;generalize (xs.map λx=>ys.getD x.toNat 0)=zs at *
  try dsimp only
  obtain⟨kk,rfl⟩:=yel I6.t.h0;refine M5 (λσ' H'=>∃(la:af) (lr:List V) (ss:List ζ) (ov:Nat) (Z:Int) (Y X:Nat->Int),σ'=[some (.ref a),some (.ref cp),some (.int (0+(i:Int))),some (.ref ta),some (.ref oa),some (.ref s2),some (.ref wa),some (.ref s1),some (.ref s3),some (.ref la),b10]/\Same H6 H'/\H' la=some (.lst lr)/\gZ K H' lr (dw ss ov Y)/\cH ss vs false kk/\Sh kk ss (fQ kk) ov Z Y X) (λN hN=>?_) ?_
  ·obtain⟨ttt,rrt,t1,t2,t3⟩:=id I6.t.web;refine⟨_,rfl,szl,λp1 hp1=>?_⟩;have s1':=aP hp1 (.tup [.int 1]);refine⟨_,rfl,ta,_,_,.int kk,rfl,rfl,s1'.tup t1,rfl,p1,kk,_,rfl,rfl,SqT.of aH,(λe=>nomatch e),by omega,by omega,by show 1*((kk:Nat):Int).toNat<=1000;omega,λwb H7 s7 h7=>?_⟩;rw[qP]at h7;have s17:=s1'.trans s7;refine⟨ta,wb,kk,vs,fQ ((kk:Nat):Int).toNat,rfl,I6.t.same s17,h7,qF I6.t.h0,λr va la pa lrefs Bw ss ov Z Y X H8 s8 e1 e2 e3 e4 e5 e6 hSo hSh _ _ _=>?_⟩;rw[wC]at hSo hSh;exact⟨r,_,_,.ref la,rfl,rfl,SqT.of e1,rfl,hN _ _ ⟨la,lrefs,ss,ov,Z,Y,X,rfl,s17.trans s8,e3,e4,hSo,hSh⟩⟩
  rintro σ' H7 ⟨la,lr,ss,ov,Z,Y,X,rfl,s7,eL,vL,hSo,hSh⟩;have I7:=I6.same s7;have c7:=c6.same s7;have Z7:=s7.tup Z6;clear I6 c6 Z6 s7
  try dsimp only
  obtain⟨L,tot,hno,hcov⟩:=zA I7.t.pk (by omega) hSo hSh
  refine M5 (λσ' H'=>σ'=[some (.ref a),some (.ref cp),some (.int (0+(i:Int))),some (.ref ta),some (.ref oa),some (.ref s2),some (.ref wa),some (.ref s1),some (.ref s3),some (.ref la),b10]/\Same H7 H') (λN hN=>?_) ?_
  ·refine⟨_,rfl,_,rfl,_,rfl,wa,ta,s3,n,kk,ts,vs,zs,rfl,I7.w,I7.t,Z7,λH8 s8=>?_⟩;rw[lf3];exact⟨_,_,rfl,rfl,_,rfl,iteF (hN _ _ ⟨rfl,s8⟩)⟩
  rintro σ' H8 ⟨rfl,s8⟩;have I8:=I7.same s8;have c8:=c7.same s8;have Z8:=s8.tup Z7;have eL8:=s8 _ _ eL;have vL8:=gZ.same vL s8;clear I7 c7 Z7 s8 eL vL
  try dsimp only
  refine M5 (λσ' H'=>σ'=[some (.ref a),some (.ref cp),some (.int (0+(i:Int))),some (.ref ta),some (.ref oa),some (.ref s2),some (.ref wa),some (.ref s1),some (.ref s3),some (.ref la),b10]/\Same H8 H') (λN hN=>?_) ?_
  ·refine⟨_,rfl,_,rfl,_,rfl,_,rfl,_,rfl,_,rfl,_,rfl,oa,ta,s2,la,m,kk,us,vs,ys,lr,(dw ss ov Y).map toR,rfl,I8.o,I8.t,I8.y,Vh,SqL.of eL8,kY L.nn vL8,L.rows,λr1 ka ua H9 s9 e9 d9 hKa _ hua=>?_⟩;have Pa:=hKa.pk;have Y6:ka.length<=10:=by have:=d9.len;rw[aF]at this;omega
   rw[tY L]at d9;have La:=L.pul Pa Y6;have va:=PB Vh I8.o.pk L hno Pa Y6 d9;have noa:=PJ Vh I8.o.pk L hno Pa Y6;have I9:=I8.same s9;refine⟨wa,oa,s1,r1,n,m,ts,us,xs,ua,(dH ov (ak ys) ka (dw ss ov Y)).map toR,rfl,I9.w,I9.o,I9.x,lf1,SqL.of e9,kY La.nn va,La.rows,λr2 kb ub H10 Ar e10 d10 hKb _ hub=>?_⟩;have Pb:=hKb.pk;rw[tY La]at d10;have wJ:=s9.trans Ar;have MP:=I9.same Ar;refine⟨_,rfl,_,rfl,_,rfl,_,rfl,wa,ta,s3,la,n,kk,ts,vs,zs,lr,(dw ss ov Y).map toR,rfl,MP.w,MP.t,wJ.tup Z8,lf3,SqL.of (wJ _ _ eL8),kY L.nn (gZ.same vL8 wJ),L.rows,λr3 kc uc H11 s11 e11 d11 hKc _ huc=>?_⟩;have Pc:=hKc.pk;rw[tY L]at d11;have eq:=Um L.pos Pa Pb Pc (λq _=>cmp q.1) (Qq xs);rw[eq]at d10;refine⟨.list ((dH ov (ak zs) kc (dw ss ov Y)).map mV),.list ((dH ov (ak zs) kc (dw ss ov Y)).map mV),.lst (SqL.of (s11 _ _ e10)) (cF.same s11 d10),.lst (SqL.of e11) d11,zy _,zy _,?_,?_⟩
   ·have:=JG (dH ov (ak zs) kc (dw ss ov Y));show min (_+1) _<=64;omega
   ·have:ar (.list ((dH ov (ak zs) kc (dw ss ov Y)).map mV)) (.list ((dH ov (ak zs) kc (dw ss ov Y)).map mV))=true:=JD _;rw[this];exact⟨_,rfl,iteF (hN _ _ ⟨rfl,wJ.trans s11⟩)⟩
  rintro σ' H9 ⟨rfl,s9⟩;have I9:=I8.same s9;have c9:=c8.same s9;clear I8 c8 s9 Z8 eL8 vL8
  try dsimp only
  obtain⟨mm,rfl⟩:=yel I9.o.h0
  refine M5 (λσ' H'=>σ'=[some (.ref a),some (.ref cp),some (.int (0+(i:Int))),some (.ref ta),some (.ref oa),some (.ref s2),some (.ref wa),some (.ref s1),some (.ref s3),some (.ref la),b10]/\Same H9 H') (λN hN=>?_) ?_
  ·refine⟨_,rfl,_,rfl,ta,oa,kk,mm,vs,us,false,rfl,I9.t,I9.o,(λz=>nomatch z),rB (by omega) (by omega),λv H10 Ar hv=>?_⟩;rcases hv with⟨rfl,_⟩|⟨r,ws,rfl,hr,hlw⟩
   ·exact⟨rfl,_,rfl,iteF (iteF (hN _ _ ⟨rfl,Ar⟩))⟩
   ·refine⟨rfl,_,rfl,iteT ?_⟩;have MP:=I9.same Ar;refine⟨_,rfl,ta,kk,vs,rfl,MP.t,λva ss1 ov1 Z1 Y1 X1 H11 s11 hv1 hS1 Vt=>⟨_,rfl,oa,mm,us,rfl,MP.o.same s11,λvb ss2 ov2 Z2 Y2 X2 H12 s12 hv2 hS2 Vs=>⟨Tp (bw Z1 ov1),Tp (bw Z2 ov2),JN.dv (s12.tup hv1),JN.dv hv2,JB _,JB _,VN _ _,?_⟩⟩⟩;rw[wC]at hS1 Vt hS2 Vs;obtain⟨L1,t1,hn1,hc1⟩:=zA I9.t.pk (by omega) hS1 Vt;obtain⟨L2,t2,hn2,hc2⟩:=zA I9.o.pk (by omega) hS2 Vs;have w1:=Em hlw hS1 Vt L2 hn2 hc2;have w2:=Em Vh hS2 Vs L1 hn1 hc1;rw[t2]at w1;rw[t1]at w2;rw[K6 Vt.pos Vs.pos (wgb w1 w2),frD_eq];exact⟨_,rfl,iteF (hN _ _ ⟨rfl,Ar.trans (s11.trans s12)⟩)⟩
  rintro σ' H10 ⟨rfl,Ar⟩;have MP:=I9.same Ar;have c10:=c9.same Ar;clear I9 c9 Ar
  try dsimp only
  refine M5 (λσ' H'=>∃hs:ζ,σ'=[some (.ref a),some (.ref cp),some (.int (0+(i:Int))),some (.ref ta),some (.ref oa),some (.ref s2),some (.ref wa),some (.ref s1),some (.ref s3),some (.ref la),some (.int (iY us (iB mm)))]/\dI K H' cp a ns (1000*(i:Int)+403)/\Dw H' T/\aR K H' oa mm us/\vY us mm (iY us (iB mm)) hs) (λN hN=>?_) ?_
  ·obtain⟨tb,htb⟩:=MP.lam.at;refine⟨_,rfl,oa,mm,us,rfl,MP.o,MP.lam,λr h d hs H' x' hL' e1 e2 hHu e3 _=>?_⟩;rw[wC]at e1 hHu;exact⟨r,_,_,.int (iY us (iB mm)),rfl,rfl,SqT.of e1,rfl,hN _ _ ⟨hs,rfl,Hs.dI.tbl c10 x' htb,hL',MP.o.tbl x' htb,hHu⟩⟩
  have o5:=MP.o.pk;clear MP c10;rintro σ' H11 ⟨hs,rfl,c,Gn,Wo,hHu⟩;have f1:=aaX (n:=((mm:Nat):Int)) (ts:=us) (by omega) o5;rw[wC]at f1;have f0:1<=iY us (iB mm):=by
   have:=hHu.rg 0 (by omega);omega
  have hw:=QZ (n:=((mm:Nat):Int)) (m:=iY us (iB mm)) (by omega) o5 (by rw[wC];exact hHu);have nw:¬∃ys,aN ((mm:Nat):Int) (iY us (iB mm)-1) us (rows tt (iY us (iB mm)-1) (iY us (iB mm)-1).toNat) ys=true:=λ⟨ys',h⟩=>by
   have:=Nk (by omega) (by omega) o5 h;rw[wC]at this;omega
  generalize iY us (iB mm)=fl at *
  try dsimp only
  refine M5 (λσ' H'=>σ'=[some (.ref a),some (.ref cp),some (.int (0+(i:Int))),some (.ref ta),some (.ref oa),some (.ref s2),some (.ref wa),some (.ref s1),some (.ref s3),some (.ref la),some (.int fl)]/\Same H11 H') (λN hN=>?_) ?_
  ·refine⟨_,rfl,_,rfl,fl,rfl,by omega,by omega,λr H12 s12 Wr=>?_⟩;refine⟨oa,r,mm,fl,us,rows tt fl fl.toNat,false,rfl,Wo.same s12,Wr,(λz=>nomatch z),rB (by omega) (by omega),λv H13 tW hv=>?_⟩;rcases hv with⟨_,hno⟩|⟨r,ws,rfl,_,_⟩
   ·exact absurd ⟨_,hw⟩ hno
   ·exact⟨rfl,_,rfl,iteF (hN _ _ ⟨rfl,s12.trans tW⟩)⟩
  rintro σ' H12 ⟨rfl,s12⟩;have c12:=c.same s12;have L12:=Gn.same s12;have W12:=Wo.same s12;clear c Gn Wo s12
  try dsimp only
  refine⟨_,rfl,_,rfl,_,_,rfl,rfl,fl-1,rfl,by omega,by omega,λr H13 tW Wr=>?_⟩;refine⟨oa,r,mm,fl-1,us,rows tt (fl-1) (fl-1).toNat,false,rfl,W12.same tW,Wr,(λz=>nomatch z),rB (by omega) (by omega),λv H14 WT hv=>?_⟩;rcases hv with⟨rfl,_⟩|⟨r,ws,rfl,_,hl⟩
  ·have WW:=tW.trans WT;exact⟨rfl,_,rfl,iteF ⟨(c12.same WW).mono (by omega),L12.same WW,_,_,_,_,_,_,_,_,_,rfl⟩⟩
  ·exact absurd ⟨_,hl⟩ nw
end
end Hs
namespace L2
open PySem
section
variable{K:ag}{x y:bg}{st:eW}{f C:af}{fd:ψ}{oc:ρ}{od an:Option af}{osl:Array (Option ρ)}{kV doc pm cdv ct:ρ}{mg:L5}{h:bv}
noncomputable def DA(K:ag)(x:bg)(st:eW)(f:af):Prop:=∃fd,Fun K x x st f fd/\de K ax x=some (some (.ref f))
theorem DA.of(a:de K ax x=some (some (.ref f)):=by k_is)(l:K.lookup f=some ⟨oc,od,.func (eM x x (defArgs st) (defBody st) (defScope st) .none kV doc pm an cdv ct),osl⟩:=by k_is)(c:fP K cdv x=true:=by k_is)(k:dr K (.ref f)=true:=by k_is):DA K x st f:=⟨_,fun_mk l c k,a⟩
noncomputable def MA(K:ag)(C:af)(x y:bg)(st:eW)(f:af):Prop:=∃fd,Fun K x y st f fd/\ce K (.ref C) x=some (some (.ref f))/\kH K (.ref f)=true/\dr K (.ref f)=true
theorem MA.of(a:ce K (.ref C) x=some (some (.ref f)):=by k_is)(l:K.lookup f=some ⟨oc,od,.func (eM x y (defArgs st) (defBody st) (defScope st) .none kV doc pm an cdv ct),osl⟩:=by k_is)(c:fP K cdv y=true:=by k_is)(k:dr K (.ref f)=true:=by k_is)(i:kH K (.ref f)=true:=by k_is):MA K C x y st f:=⟨_,fun_mk l c k,a,i,k⟩
theorem MA.d(F:Fun K x y st f fd)(a:ce K (.ref C) x=some (some (.ref f))/\kH K (.ref f)=true/\dr K (.ref f)=true)(b:∀(kV doc pm:ρ) (an:Option af) (cdv ct:ρ) (us:List ρ),us.length=ps.length->gf (eM x y (defArgs st) (defBody st) (defScope st) .none kV doc pm an cdv ct) ⟨us,[]⟩=pure (ps.zip us)):sH K C x y st ps f fd:=⟨F,F.binds b,⟨a.1,a.2.1,a.2.2⟩⟩
theorem bn1{p1:bg}{P:List ρ->Prop}(h:∀a,P [a])(us)(hl:us.length=[p1].length):P us:=by
 match us,hl with
 |[a],_=>exact h a
theorem bn2{p1 p2:bg}{P:List ρ->Prop}(h:∀a b,P [a,b])(us)(hl:us.length=[p1,p2].length):P us:=by
 match us,hl with
 |[a,b],_=>exact h a b
theorem bn3{p1 p2 p3:bg}{P:List ρ->Prop}(h:∀a b c,P [a,b,c])(us)(hl:us.length=[p1,p2,p3].length):P us:=by
 match us,hl with
 |[a,b,c],_=>exact h a b c
theorem bn4{p1 p2 p3 p4:bg}{P:List ρ->Prop}(h:∀a b c d,P [a,b,c,d])(us)(hl:us.length=[p1,p2,p3,p4].length):P us:=by
 match us,hl with
 |[a,b,c,d],_=>exact h a b c d
theorem DA.q(a:DA K x st f)(X:K.In h)(G:h.Ns ax mg)(ps:List bg)(b:∀(kV doc pm:ρ) (an:Option af) (cdv ct:ρ) (us:List ρ),us.length=ps.length->gf (eM x x (defArgs st) (defBody st) (defScope st) .none kV doc pm an cdv ct) ⟨us,[]⟩=pure (ps.zip us):=by first |exactλ_ _ _ _ _ _=>bn1 λ_=>rfl|exactλ_ _ _ _ _ _=>bn2 λ_ _=>rfl|exactλ_ _ _ _ _ _=>bn3 λ_ _ _=>rfl|exactλ_ _ _ _ _ _=>bn4 λ_ _ _ _=>rfl):∃d,Fun K x x st f d/\Eh K mg x st ps f d:=by
 obtain⟨d,F,a⟩:=a;exact⟨d,F,F,F.binds b,W.mg_of X G a⟩
theorem MA.q(a:MA K C x y st f)(ps:List bg)(b:∀(kV doc pm:ρ) (an:Option af) (cdv ct:ρ) (us:List ρ),us.length=ps.length->gf (eM x y (defArgs st) (defBody st) (defScope st) .none kV doc pm an cdv ct) ⟨us,[]⟩=pure (ps.zip us):=by first |exactλ_ _ _ _ _ _=>bn1 λ_=>rfl|exactλ_ _ _ _ _ _=>bn2 λ_ _=>rfl|exactλ_ _ _ _ _ _=>bn3 λ_ _ _=>rfl|exactλ_ _ _ _ _ _=>bn4 λ_ _ _ _=>rfl):∃d,Fun K x y st f d/\sH K C x y st ps f d:=by
 obtain⟨d,F,a⟩:=a;exact⟨d,F,F,F.binds b,a.1,a.2.1,a.2.2⟩
end
end L2
namespace Hs
open PySem L2 oF
theorem len_3{α:Type}:∀{us:List α},us.length=3->∃a b c,us=[a,b,c]
 |[a,b,c],_=>⟨a,b,c,rfl⟩
theorem all_mk{l:gX}(X:K.In h)(G:h.Ns ax mg)(hfa:mg "law"=some (.ref fa))(a0:DA K "is_whole" ZX f0)(a1:DA K "is_place" jA f1)(a2:DA K "are_places" fZ f2)(a3:DA K "is_rising" Z0 f3)(a4:DA K "is_set" pC f4)(a5:DA K "are_ties" nR f5)(a6:DA K "is_web" uM f6)(a7:DA K "need_web" SJ f7)(a8:DA K "need_place" jx f8)(a9:DA K "all_sets" nT f9)(a10:DA K "without" iZ f10)(a11:DA K "has_tie" gq f11)(a12:DA K "neighbours" jw f12)(a13:DA K "greatest_divisor" zbf f13)(a14:DA K "lowest" jd f14)(a15:DA K "is_less" je f15)(a16:DA K "is_fraction" iR f16)(a17:DA K "sum_of" jc f17)(a18:DA K "are_left_open" zbw f18)(a19:DA K "count_images" zcg f19)(a20:DA K "way_into" nO f20)(a21:DA K "is_way" pA f21)(a22:DA K "pulled" pq f22)(a23:DA K "can_stand_with" zdd f23)(a24:DA K "first_parts" zdf f24)(a25:DA K "highest_floor" fJ f25)(a26:DA K "highest_floors" zdc f26)(a27:de K ax "best_part"=some (some (.ref f27)))(l27:K.lookup f27=some ⟨ab6,ab4,.func (eM "best_part" "best_part" (defArgs Tv) (defBody Tv) (defScope Tv) .none aci acq ab2 acs (.ref cL) acr),abZ⟩)(c27:fP K (.ref cL) "best_part"=true)(k27:dr K (.ref f27)=true)(a28:DA K "hues_by_floors" zcj f28)(a29:DA K "fewest" uN f29)(a30:DA K "count_ties_in" fK f30)(a31:DA K "places_by_tie" zdj f31)(a32:DA K "in_both" qM f32)(a33:DA K "full_sets" j9 f33)(a34:DA K "full_apart" jB f34)(a35:DA K "need_wants" fY f35)(a36:DA K "shares" j6 f36)(a37:DA K "value" tV f37)(a38:DA K "is_share" nQ f38)(a39:DA K "is_laying" j7 f39)(a40:DA K "gets" Fo f40)(a41:DA K "is_enough" j8 f41)(a42:DA K "_law_e_stir" jz f42)(a43:DA K "_law_e_dip" zdl f43)(a44:DA K "_law_e_web_of" gC f44)(a45:DA K "_law_e_tied" jy f45)(a46:DA K "_law_e_planted" zdk f46)(a47:DA K "_law_e_all_tied" zdb f47)(a48:DA K "_law_e_pulled_right" zcb f48)(a49:de K ax "law"=some (some (.ref f49)))(l49:K.lookup f49=some ⟨ab5,ab3,.func (eM "law" "law" (defArgs rT) (defBody rT) (defScope rT) .none abv abH abg abM aa4 abK),abY⟩)(c49:fP K aa4 "law"=true)(k49:dr K (.ref f49)=true)(x0:de K ax "MOST_PLACES"=some (some (.int 10 tk0)))(x1:de K ax "MOST_BOTTOM"=some (some (.int 1000000000 tk1)))(x2:de K ax "MOST_WANT"=some (some (.int 99 tk2)))(z0:de K ax "abs"=some none)(z1:de K ax "all"=some none)(z2:de K ax "any"=some none)(z3:de K ax "bool"=some none)(z4:de K ax "enumerate"=some none)(z5:de K ax "int"=some none)(z6:de K ax "isinstance"=some none)(z7:de K ax "len"=some none)(z8:de K ax "list"=some none)(z9:de K ax "max"=some none)(z10:de K ax "min"=some none)(z11:de K ax "range"=some none)(z12:de K ax "sorted"=some none)(z13:de K ax "tuple"=some none)(y0:de K ax "Tableau"=some (some (.ref aJ)))(y1:de K ax "Search"=some (some (.ref bx)))(ma0:MA K aJ "__init__" "Tableau.__init__" gF mf0)(ma1:MA K aJ "next_column" "Tableau.next_column" zbx mf1)(ma2:MA K aJ "is_tighter" "Tableau.is_tighter" zcc mf2)(ma3:MA K aJ "next_row" "Tableau.next_row" zcp mf3)(ma4:MA K aJ "turned" "Tableau.turned" zde mf4)(ma5:MA K aJ "turn" "Tableau.turn" gD mf5)(ma6:MA K aJ "solve" "Tableau.solve" fL mf6)(ma7:MA K aJ "fraction_at" "Tableau.fraction_at" zav mf7)(ma8:MA K aJ "price_of" "Tableau.price_of" zco mf8)(ma9:MA K aJ "share_of" "Tableau.share_of" zcn mf9)(QD:MA K bx "__init__" "Search.__init__" iT abl)(abp:MA K bx "images_left" "Search.images_left" zcd ab')(abo:MA K bx "state_behind" "Search.state_behind" zaw ab9)(abn:MA K bx "lead_first" "Search.lead_first" Xm ab8)(abm:MA K bx "lead" "Search.lead" Wa ab7)(Hh:fA K aJ Str.empty=true)(Hg:fN K aJ=true)(G9:i6 K aJ=true)(G4:ce K (.ref aJ) "__setattr__"=some (some (.builtin "object.__setattr__")))(GZ:km K aJ=true)(GX:dr K (.ref aJ)=true)(rD:ce K (.ref aJ) "cells"=some none)(sX:ce K (.ref aJ) "over"=some none)(ou:ce K (.ref aJ) "columns"=some none)(sW:ce K (.ref aJ) "rows"=some none)(Mh:fA K bx Str.empty=true)(Mg:fN K bx=true)(Mf:i6 K bx=true)(Ma:ce K (.ref bx) "__setattr__"=some (some (.builtin "object.__setattr__")))(LR:km K bx=true)(LK:dr K (.ref bx)=true)(vU:ce K (.ref bx) "near"=some none)(wO:ce K (.ref bx) "far"=some none)(jR:ce K (.ref bx) "led_nowhere"=some none):
  ∃fd:ψ,(∀(s:τ) (v:ρ),iF s fd ⟨[v],[]⟩ [("script",v)])/\∀base:bv,K.In base->base.Ns ax mg->Dv base mg cL T->FnOk l.prog w K mg base CX0 26 fa fd ["script"] (qK T K):=by
 have e:=hfa.symm.trans (XH X G a49);cases e;obtain⟨d0,F0,jJ⟩:=a0.q X G ["thing"];obtain⟨d1,F1,v9⟩:=a1.q X G ["n","thing"];obtain⟨d2,F2,qp⟩:=a2.q X G ["n","things"];obtain⟨d3,F3,lH⟩:=a3.q X G ["things"];obtain⟨d4,F4,DK⟩:=a4.q X G ["n","thing"];obtain⟨d5,F5,Hv⟩:=a5.q X G ["n","thing"];obtain⟨d6,F6,Sg⟩:=a6.q X G ["thing"];obtain⟨d7,F7,dB⟩:=a7.q X G ["thing"];obtain⟨d8,F8,Ah⟩:=a8.q X G ["web","thing"];obtain⟨d9,F9,Hw⟩:=a9.q X G ["n"];obtain⟨d10,F10,rH⟩:=a10.q X G ["some","part"];obtain⟨d11,F11,lX⟩:=a11.q X G ["web","one","other"];obtain⟨d12,F12,Ag⟩:=a12.q X G ["web","place"];obtain⟨d13,F13,dU⟩:=a13.q X G ["one","other"];obtain⟨d14,F14,ql⟩:=a14.q X G ["a","b"];obtain⟨d15,F15,rK⟩:=a15.q X G ["one","other"];obtain⟨d16,F16,wU⟩:=a16.q X G ["thing"];obtain⟨d17,F17,vZ⟩:=a17.q X G ["fractions"];obtain⟨d18,F18,tG⟩:=a18.q X G ["state"];obtain⟨d19,F19,wg⟩:=a19.q X G ["open_place"];obtain⟨d20,F20,Ht⟩:=a20.q X G ["web","other"];obtain⟨d21,F21,DG⟩:=a21.q X G ["web","other","some"];obtain⟨d22,F22,Dz⟩:=a22.q X G ["web","other","some","laying"];obtain⟨d23,F23,rO⟩:=a23.q X G ["web","part","place"];obtain⟨d24,F24,m6⟩:=a24.q X G ["web","some"];obtain⟨d25,F25,tD⟩:=a25.q X G ["web","floors","some"];obtain⟨d26,F26,rN⟩:=a26.q X G ["web"];have F27:=fun_mk (st:=Tv) l27 c27 k27;have DW:Eh K mg "best_part" Tv ["web","floors","some"] f27 _:=⟨F27,F27.binds (ps:=["web","floors","some"]) (λ_ _ _ _ _ _ us hl=>by obtain⟨u0,u1,u2,rfl⟩:=Hs.len_3 hl;rfl),XH X G a27⟩;obtain⟨d28,F28,rM⟩:=a28.q X G ["web","floors"];obtain⟨d29,F29,Sq⟩:=a29.q X G ["web"];obtain⟨d30,F30,tE⟩:=a30.q X G ["web","some"];obtain⟨d31,F31,sY⟩:=a31.q X G ["web","place","tied"];obtain⟨d32,F32,Mj⟩:=a32.q X G ["ones","others"];obtain⟨d33,F33,DR⟩:=a33.q X G ["friends"];obtain⟨d34,F34,Ak⟩:=a34.q X G ["web"];obtain⟨d35,F35,qj⟩:=a35.q X G ["web","thing"];obtain⟨d36,F36,v7⟩:=a36.q X G ["web","wants"];obtain⟨d37,F37,JQ⟩:=a37.q X G ["web"];obtain⟨d38,F38,Hu⟩:=a38.q X G ["web","thing"];obtain⟨d39,F39,DP⟩:=a39.q X G ["web","thing"];obtain⟨d40,F40,ZV⟩:=a40.q X G ["laying","place","want"];obtain⟨d41,F41,DQ⟩:=a41.q X G ["web","wants","laying","number"];obtain⟨d42,F42,Aj⟩:=a42.q X G ["cell","at"];obtain⟨d43,F43,lG⟩:=a43.q X G ["cup","many"];obtain⟨d44,F44,v8⟩:=a44.q X G ["cup","n"];obtain⟨d45,F45,Ai⟩:=a45.q X G ["web","one","other"];obtain⟨d46,F46,sZ⟩:=a46.q X G ["cup","other","n"];obtain⟨d47,F47,rJ⟩:=a47.q X G ["n"];obtain⟨d48,F48,lF⟩:=a48.q X G ["web","other","some"];have F49:=fun_mk (st:=rT) l49 c49 k49;have wF:=XH X G x0;have wG:=XH X G x1;have Bd:=XH X G x2;have aaw:=HX X G z0;have pR:=HX X G z1;have aav:=HX X G z2;have YX:=HX X G z3;have fj:=HX X G z4;have aau:=HX X G z5;have bF:=HX X G z6;have fX:=HX X G z7;have Gb:=HX X G z8;have W5:=HX X G z9;have xP:=HX X G z10;have bL:=HX X G z11;have vg:=HX X G z12;have bD:=HX X G z13;have qX:=XH X G y0;have vq:=XH X G y1;obtain⟨md0,FM0,ma0⟩:=ma0;have oK:=MA.d (ps:=["self","sets","wants"]) FM0 ma0 (λ_ _ _ _ _ _=>bn3 λ_ _ _=>rfl);obtain⟨md1,FM1,jT⟩:=ma1.q ["self"];obtain⟨md2,FM2,lJ⟩:=ma2.q ["self","column","row","other"];obtain⟨md3,FM3,oJ⟩:=ma3.q ["self","column"];obtain⟨md4,FM4,rP⟩:=ma4.q ["self","cells","pivots","column"];obtain⟨md5,FM5,wj⟩:=ma5.q ["self","row","column"];obtain⟨md6,FM6,tH⟩:=ma6.q ["self"];obtain⟨md7,FM7,cU⟩:=ma7.q ["self","row","column"];obtain⟨md8,FM8,oH⟩:=ma8.q ["self","name"];obtain⟨md9,FM9,oG⟩:=ma9.q ["self","name"];obtain⟨ach,aa9,QD⟩:=QD;have qt:=MA.d (ps:=["self","web","other"]) aa9 QD (λ_ _ _ _ _ _=>bn3 λ_ _ _=>rfl);obtain⟨acg,abU,lK⟩:=abp.q ["self","images","image"];obtain⟨acf,abT,jU⟩:=abo.q ["self","state","led","image"];obtain⟨ace,abS,mK⟩:=abn.q ["self","state"];obtain⟨acd,abR,m7⟩:=abm.q ["self","state"];have bK:Cls K aJ:=⟨Hh,Hg,G9,G4⟩;have dh:NoAttr K aJ "cells":=rD;have eE:NoAttr K aJ "over":=sX;have bJ:NoAttr K aJ "columns":=ou;have dZ:NoAttr K aJ "rows":=sW;have mk_Tableau:Mk K aJ mf0:=⟨GZ,ma0.1,ma0.2.1,GX⟩;have jk:Cls K bx:=⟨Mh,Mg,Mf,Ma⟩;have pQ:NoAttr K bx "near":=vU;have vd:NoAttr K bx "far":=wO;have dg:NoAttr K bx "led_nowhere":=jR;have mk_Search:Mk K bx abl:=⟨LR,QD.1,QD.2.1,LK⟩;refine⟨eM "law" "law" (defArgs rT) (defBody rT) (defScope rT) .none abv abH abg abM aa4 abK,λs v=>.of_eq rfl,λbase _ _ LB=>?_⟩;have VF:=Ql (P:=l.prog) (w:=w) (mg:=mg) (base:=base) F42;have Rg:=YL F43 ⟨Aj,VF⟩ fX;have Vx:=Qc F44 ⟨lG,Rg⟩ bL bD;have VD:=Qk (P:=l.prog) (w:=w) (mg:=mg) (base:=base) F45 xP W5;have Lq:=Fz F46 ⟨lG,Rg⟩ ⟨Ai,VD⟩ bD bL;have uh:=Qa (P:=l.prog) (w:=w) (base:=base) F0 bF aau YX;have Jw:=Qh F1 jJ uh;have CT:=KQ F2 v9 Jw pR;have CP:=KD (P:=l.prog) (w:=w) (mg:=mg) (base:=base) F3 pR bL fX;have Xb:=YD F4 ⟨qp,CT⟩ ⟨lH,CP⟩ bF bD;have Zk:=Uv F5 ⟨DK,Xb⟩ ⟨lH,CP⟩ bF bD pR fX;have aaJ:=Yq F6 ⟨jJ,uh⟩ ⟨Hv,Zk⟩ bF bD fX wF;have dW:=FJ F7 ⟨Sg,aaJ⟩;have sE:=yV F35 ⟨jJ,uh⟩ fX bF bD pR Bd;have Rf:=KR (P:=l.prog) (w:=w) (mg:=mg) (base:=base) F32;have Gu:=BL F33 ⟨Mj,Rf⟩ Gb bL fX vg;have Jy:=YJ (P:=l.prog) (w:=w) (mg:=mg) (base:=base) F11 xP W5;have VH:=Qn F31 ⟨lX,Jy⟩ bL;have CW:=yX F34 ⟨dB,dW⟩ ⟨DR,Gu⟩ ⟨sY,VH⟩ bL;have Zm:=Uw (P:=l.prog) (w:=w) (mg:=mg) (base:=base) FM0 bK dh eE bJ dZ fX bL Gb;have aaR:=YB (P:=l.prog) (w:=w) (mg:=mg) (base:=base) FM1 bK dh eE bJ dZ fj xP;have aaM:=Yv (P:=l.prog) (w:=w) (mg:=mg) (base:=base) FM4 bK dh eE bJ dZ fj;have aaK:=Yt FM5 bK dh eE bJ dZ rP aaM;have aaL:=Yu (P:=l.prog) (w:=w) (mg:=mg) (base:=base) FM2 bK dh eE bJ dZ;have aaQ:=Yz FM3 bK dh eE bJ dZ lJ aaL bL fX;have aaN:=Yw FM6 bK dh eE bJ dZ jT aaR wj aaK oJ aaQ;have Zv:=aas (P:=l.prog) (w:=w) (mg:=mg) (base:=base) F13;have Jx:=YG F14 ⟨dU,Zv⟩ aaw;have Q9:=YC FM7 bK dh eE bJ dZ ⟨ql,Jx⟩;have aaO:=Yx FM9 bK dh eE bJ dZ ⟨ql,Jx⟩ cU Q9;have aaP:=Yy FM8 bK dh eE bJ dZ ⟨ql,Jx⟩ cU Q9;have vN:=KC F36 bK dh eE bJ dZ qX ⟨dB,dW⟩ ⟨qj,sE⟩ ⟨Ak,CW⟩ oK mk_Tableau Zm tH aaN oG aaO oH aaP cU Q9 fj bL;have Gp:=UG (P:=l.prog) (w:=w) (mg:=mg) (base:=base) F15;have Ju:=Qd F37 ⟨dB,dW⟩ ⟨v7,vN⟩;have Zr:=UJ F16 ⟨jJ,uh⟩ fX bF bD wG;have VG:=Qm (P:=l.prog) (w:=w) (mg:=mg) (base:=base) F30 fX;have Lr:=FN F38 ⟨wU,Zr⟩ ⟨DK,Xb⟩ ⟨tE,VG⟩ fX bF bD;have Lp:=Fy (P:=l.prog) (w:=w) (mg:=mg) (base:=base) F3 pR bL fX;have Gq:=BJ F39 ⟨Hu,Lr⟩ ⟨lH,Lp⟩ pR bF Gb;have Jv:=Qe F17 ⟨dU,Zv⟩;have Zu:=UW F40 ⟨rK,Gp⟩ ⟨vZ,Jv⟩;have Gs:=BK F41 ⟨dB,dW⟩ ⟨qj,sE⟩ ⟨DP,Gq⟩ ⟨ZV,Zu⟩ ⟨rK,Gp⟩ ⟨vZ,Jv⟩ pR fj;have Xa:=Yr F21 ⟨dB,dW⟩ ⟨qp,CT⟩ ⟨lX,Jy⟩ fX bF bD pR;have Ra:=Kz F17 ⟨dU,Zv⟩;have CQ:=KH F22 ⟨DG,Xa⟩ ⟨vZ,Ra⟩ ql Jx bD fj vg;have Rb:=KJ F48 ⟨v7,vN⟩ ⟨rK,Gp⟩ ⟨JQ,Ju⟩ ⟨DQ,Gs⟩ ⟨Dz,CQ⟩;have CV:=yW F8 ⟨v9,Jw⟩;have Vz:=Qi F12 ⟨dB,dW⟩ ⟨Ah,CV⟩ ⟨lX,Jy⟩ bD bL;have Zn:=Ux aa9 jk pQ vd dg Ag Vz bL;have aaW:=YS (P:=l.prog) (w:=w) (mg:=mg) (base:=base) F18 pR fX;have Zo:=Uy (P:=l.prog) (w:=w) (mg:=mg) (base:=base) abU jk pQ vd dg bD;have Zq:=Uz abT jk pQ vd dg lK Zo bD;have aaU:=YM (P:=l.prog) (w:=w) (mg:=mg) (base:=base) F19 fX;have aaS:=YH abR abS jk pQ vd dg m7 mK tG aaW jU Zq wg aaU xP;have Ln:=Fx F20 jk pQ vd dg vq ⟨dB,dW⟩ qt mk_Search Zn m7 aaS bD bL vg;have Ls:=FQ (P:=l.prog) (w:=w) (mg:=mg) (base:=base) F9 bL;have Vy:=Qf F23 ⟨lX,Jy⟩ aav;have CZ:=KY F24 ⟨rO,Vy⟩;have qZ:=Fw (P:=l.prog) (w:=w) (mg:=mg) (base:=base) F10 bD;have Zt:=UL F25 ⟨m6,CZ⟩ ⟨rH,qZ⟩ xP;have VB:=Qj F26 ⟨Hw,Ls⟩ ⟨tD,Zt⟩;have Zx:=U3 F27 rfl LB ⟨m6,CZ⟩ rH qZ xP;have aaV:=YQ F28 ⟨DW,Zx⟩ ⟨rH,qZ⟩ bD bL;have aaT:=YK F29 ⟨dB,dW⟩ ⟨rN,VB⟩ ⟨rM,aaV⟩ bD bL;have Zw:=U0 (P:=l.prog) (w:=w) (mg:=mg) (base:=base) F47 bL bD;exact ok_law F49 v8 Vx ⟨lG,Rg⟩ ⟨sZ,Lq⟩ ⟨lF,Rb⟩ ⟨v7,vN⟩ ⟨DG,Xa⟩ ⟨Dz,CQ⟩ ⟨JQ,Ju⟩ ⟨Ht,Ln⟩ ⟨Sq,aaT⟩ ⟨rJ,Zw⟩ bL fX bD
theorem walk{l:gX}{q:χ}{loose:List bg}{XP:(L5)->bv->Prop}{YP:ω->bv->Prop}{d:DefRec}{K:Params->ag}{cL T:af}(hn:l.most=some 63)(hdf:d.params.defaults=[])(hY:∀(w:ω) (h:bv),YP w h->(K w.params).In h/\h.get? T=some (gN #[]))
  (F:∀(w:ω) (mg:L5) (fa:af) (h:bv),(K w.params).In h->h.Ns ax mg->mg d.name=some (.ref fa)->
   ∃fd:ψ,(∀(s:τ) (u:ρ),iF s fd ⟨[u],[]⟩ [("script",u)])/\∀base:bv,(K w.params).In base->base.Ns ax mg->Dv base mg cL T->FnOk l.prog w (K w.params) mg base CX0 26 fa fd ["script"] (qK T (K w.params)))(hc:∀w:ω,W.codeHdIn (K w.params) cL T=true)(hKT:∀w:ω,(K w.params).lookup T=none):
  W.WalkO q loose XP YP l.row.toRowW d [] (λf vs=>kL f vs):=
 L2.Np (n:=63) (k:=26) (x:="script") (CX:=CX0) (sp:=qK) hn (by decide) hdf ⟨rfl,by decide,by decide,rfl⟩ hY hc hKT F (λ_ _ a ns hl hO hS=>Kd hl hO hS) λ_ _ _ _ z=>z
end Hs
open PySem PySem.W PyProof.Rows
set_option maxRecDepth 100000 in
set_option maxHeartbeats 0 in
theorem PySem.Challenge.cw_hueshare_k46_whole_shares_go_with_ways_holds : PySem.Challenge.rw_hueshare_k46_whole_shares_go_with_ways.Holds := by
 apply Hd.early.2;unfold Hd.early;dsimp only
 k_fill
 refine' Hs.walk (l:=PySem.Challenge.rw_hueshare_k46_whole_shares_go_with_ways) rfl rfl (λw h Y=>⟨W.km_in_of Y,W.km_tabs_of Y _ cC⟩) ?F ?C ?D
 case F=>
  intro w mg fa h KX G hmg
  refine' Hs.all_mk KX G hmg .of .of .of .of .of .of .of .of .of .of .of .of .of .of .of .of .of .of .of .of .of .of .of .of .of .of .of (by k_is) (by k_is) (by k_is) (by k_is) .of .of .of .of .of .of .of .of .of .of .of .of .of .of .of .of .of .of .of .of .of (by k_is) (by k_is) (by k_is) (by k_is) (by k_is) (by k_is) (by k_is) (by k_is) (by k_is) (by k_is) (by k_is) (by k_is) (by k_is) (by k_is) (by k_is) (by k_is) (by k_is) (by k_is) (by k_is) (by k_is) (by k_is) (by k_is) (by k_is) .of .of .of .of .of .of .of .of .of .of .of .of .of .of .of (by k_is) (by k_is) (by k_is) (by k_is) (by k_is) (by k_is) (by k_is) (by k_is) (by k_is) (by k_is) (by k_is) (by k_is) (by k_is) (by k_is) (by k_is) (by k_is) (by k_is) (by k_is) (by k_is)
 case C=>intro w;kernel_rfl
 case D=>intro w;kernel_rfl
