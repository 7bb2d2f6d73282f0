import PyProof.Rows.All
import Wide.All
import OpenK.AllK
import Wide.FinOn
import Lean
import PyProof.EqAt
import PyProof.EqKinds
import PyProof.TupleCall
import PyProof.ListRange
import PyProof.TupleOfSeq
import PyProof.Draws
import PyProof.EnumMake
import PyProof.TupleIter
import PyProof.Rows.SetFrom
import PyProof.SetRoads
import PyProof.WalksMore
import PyProof.Rows.SortShell
import KE.KMinBuiltin
import PyProof.Rows.CallKwBuiltin
import KE.KRevIter
import PyProof.Rows.Tup
import PyProof.Rows.Range3
import PyProof.DictWalks
import PyProof.DictTruth
import PyProof.TupleKey
import PyProof.Rows.SeqMore2
import PyProof.FString
import PyProof.StrWalks
import PyProof.StrBlockH
import PyProof.StrCalls2
import PyProof.SliceStr2
import KE.KIntText
import PyProof.StrLawsTight
import KE.KDictList
import PyProof.DictRoadsH
import KE.KLam
import KE.KNestM
import PyProof.DictItems
import PyProof.IsiHeapPairs
import KE.KPairComp
import PyProof.MinMaxWalk
import PyProof.MeetsSeq
import PyProof.Rows.ZipGen
import PyProof.Tail
import PyProof.AutoSeq1
import PyProof.ListOps
import PySem.Challenge.RW_hueshare_k34_arguments_by_their_names
set_option compiler.extract_closed false
set_option Elab.async false
set_option linter.all false
set_option maxRecDepth 100000

open Array renaming mk->i7,getD->lL,size_append->nz,toList_push->nB
open Bool renaming rec->kU,or_eq_false_iff->lm
open False renaming elim->bS
open ForInStep renaming yield->dn
open List renaming replicate->ah,range->am,toArray->bg,length->df,lookup->dA,foldl->fw,set->gy,range_eq_range'->lb,length_eraseIdx->lh,mem_erase_of_ne->ll,filter->ln,map_id->lp,flatten_append->mh,zip_nil_right->mP,zip_nil_left->oo,reverse_cons->ot,foldl_append->pM,getElem_take->pP
open List.Pairwise renaming nil->eT,filter->iL
open Nat renaming gcd->az,mul_le_mul_right->ml,mod_lt->pb,add_sub_cancel->pE
open Option renaming isSome_some->lc,getD_none->n9
open Or renaming inl->ii,inr->kc
open PUnit renaming unit->g6
open PyProof.Rows renaming seqObj->b9,IntsAre->bP,firstMet->cz,AllBare->fI,SortKind->j0,envOfC->j1,KeyOrd->jS,IsTup->kD,Call_->kE,step_dedup->kQ,subscriptTail->lz,firstMet_succ->lP,subscriptTail_builtinR->oq,bubble->oy,listItems_at->oB
open PyProof.Rows.KeyOrd renaming kle_antisymm->kK,kle_refl->nK,kle_of_klt->nL,kle_trans->nN
open PySem renaming Addr->ag,wpAny->ai,model->ar,mainGlobals->av,starEach->ax,Str->be,Heap->bn,compareOp->bo,Expr->bp,bootBuiltins->br,Around->bt,scanBound->bG,eval->bQ,intKind->bT,PyData->bX,Paired->ce,cellsFrom->cf,binaryOp->cw,NameKind->cy,rawInt->cK,sysModules->de,backTo->dC,Scope->dQ,holding->eu,keywordEach->eB,Pos->eJ,foldedSetIterable->eL,codeAny->eM,IsPair->eS,assignEach->fb,pyNext->fc,IsItemIter->fe,bindArgs->fi,sliceBounds->fm,importedModules->fy,Stmt->fz,ReadsAll->fR,cLine->gf,getItem->gh,relabel->gi,Reads->gm,attributeBase->gp,swapsWith->gt,backToKw->gu,builtinsNs->gz,IsPart->i8,firstArgMember->i9,SetTable->ia,OsState->ib,tupleKind->ie,DictEntry->ik,behindInMarks->ip,IsZip->iq,standAt->iS,callerA->iX,valueAt->j2,relayAll->j3,setAddHashed->jb,assign->jI,Meets->kd,subscripted->ke,Obj->ki,Within->kl,letOwnedTupleGo->km,BindsTo->kx,wpAny_newTuple->kM,wpAny_setField->kN,wpAny_letOwnedTupleGo_enum->kP,newFunctionEnv->kR,atKey->kS,wpAny_binaryOp_repeat_ref->kX,Env->lw,call->lI,wpAny_comprehension_free->lS,IsItemIterOut->md,wpAny_onRaise->me,setWalkUnseen->mo,small_one->mw,getMethod->mE,bindL->mG,bindC->mN,list_append->ng,field->nk,pushCells->ny,isTrue->nV,pyIter->nX,call_range_1->oa,Keyword->on,ItemsOf->oM,callType_new->oP,ElemsOf->pf
open PySem.Around renaming under->fT,frames_deeper->ky,under_plain->li
open PySem.Builtin.Dict_items renaming ownsTuple->dP,ownedTupleFields->fA,ownedTupleIsFree->fD,pairFromOwner->fP
open PySem.Builtin.Frozenset renaming unchanged->dm,isAnySet->dS,intersection->g9,updateFrom->gr,sizeOf->gL,slot1->gX
open PySem.Builtin.List renaming listTooLong->dy,listExtendWith->eC
open PySem.Builtin.Range renaming rangeSize->bE,small->fS
open PySem.Builtin.Slice renaming slicePlaces->dq,sliceAdjust->eQ,sliceApplied->i3
open PySem.Builtin.SmallTypes renaming nextOf->bu,ownedTupleIsFree->cp,ownedTupleHandOut->fx
open PySem.Builtin.Tuple renaming tupleExact->bv,tupleItemsOf->i4,tupleIsExact->i5
open PySem.Calls renaming Name_function_global->iP,callWith_builtin->ko
open PySem.Code renaming isGuard->kr,isFrame->ku
open PySem.Data renaming fields->fN,seq->ij,cell->kn
open PySem.Expr renaming Call->gI
open PySem.F renaming slot_list_append->gE,slot_list_extend->kC,slot_list_index->kT,slot_dict_items_iter->lT,args_list_append_2->ox,args_object_init_2->oQ
open PySem.Heap renaming SameBut->bc
open PySem.NameKind renaming free->aw,cell->bd
open PySem.Obj renaming mapSeq->ay,data_mapFields->oS,putSet->ph
open PySem.PyData renaming int->aC,eqv->aE,canLayAll0->bz,eqvAll->gN,tuple->i6,depthAll->ir
open PySem.SeqAt renaming EqAt->i0,eqAt_reads->oC
open PySem.SetTable renaming below->bj,grown->du,insertAt->gV,has->jv,slot->oT,laid->p9
open PySem.SetTable.below renaming go->dE
open PySem.SetTable.probe renaming go->eR
open PySem.Shared renaming TypeIs->fF,heap->kB
open PySem.Str renaming ofString->bO
open PySem.Value renaming ref->aI,none->ba,int->bI,type->cx,bool->hU,str->ka,notImplemented->kF
open PySem.W renaming Frag->af,nsIn->cE,boot_heap->cM,findIn->cS,keepIn->dL,emptyDict->ez,fnOf->eW,SharedT->fh,instObj->fE,codeIn->hZ,plainGet->io,boot_drawn->iA,tabObj->iE,OpenLaw->iO,kla_obj->jn,hasDictIn->jp,kas_rev->kA,kas_desc->kH,isFn->ly,boot_toks->mr,kas_place->nh,methodObj->nS,lookIn->og,plainOver->om,kas_descPart->oz
open Sum renaming inl->bW,inr->im
open True renaming intro->fq
noncomputable abbrev ρ:=PySem.Value
noncomputable abbrev τ:=PySem.Shared
noncomputable abbrev υ:=PySem.Program
noncomputable abbrev χ:=PySem.FuncData
noncomputable abbrev ψ:=PySem.World
noncomputable abbrev ζ:=List Int
noncomputable abbrev η:=List ag
noncomputable abbrev θ:=List bX
noncomputable abbrev ξ:=Array Nat
noncomputable abbrev D0:=be->Option ρ
noncomputable abbrev S0:=ρ->τ->Prop
noncomputable abbrev O0:=List (ag×ki)
noncomputable abbrev L0:=List (Int×Int)
def ao:=@PySem.wpAny_bind
def aM:=@PySem.wpAny_pure
def cI:=@decide_eq_true
def aq:=@if_neg
def au:=@if_pos
def gY:=@decide_eq_false
def lA:=@of_decide_eq_true
def gF:=@PySem.sizeLine_eq
def ux:=@Bool.false_ne_true
def KD:=@PyProof.Rows.callWith_type1
def uw:=@Option.some.inj
def vo:=@Bool.and_eq_true
def Fy:=@PySem.mem_of_lookup
def jQ:=@congrArg
def Je:=@PySem.wpAny_newObj_type
def M5:=@PySem.Heap.SameBut.update
def yX:=@PySem.wpAny_holding
def KC:=@decide_eq_true_eq
def Fx:=@Bool.eq_iff_iff
def Tw:=@PySem.wpAny_callSpecial?_slot
def Fw:=@PySem.PassesOwn.never
def M4:=@PySem.wpAny_truthy_bool
def MP:=@PySem.wpAny_call_entry
def BL:=@PySem.W.mg_none_of
def yW:=@PySem.wpAny_field
def S9:=@PySem.wpAny_Call_Name_kw
def S8:=@PySem.wpAny_setField_rec
def MN:=@PySem.codeAny_builtin
def Ws:=@PySem.Around.under_plainId
def XC:=@PySem.F.plain_min_loop
def Ny:=@PySem.wpAny_ite_split
def E4:=@Classical.byContradiction
def oV:=@Ne.symm
def E3:=@PySem.F.plainAttrs_list
def MK:=@Bool.true_and
def Wr:=@decide_eq_true_iff
def Lu:=@PyProof.Rows.slot_tuple_getitem
def Wq:=@List.Sublist.refl
def S6:=@PySem.wpAny_seqItems
def Tv:=@nK
def Lo:=@PySem.wpAny_typeNameOfWhole_itemiter
def Lm:=@PySem.F.slot_dict_itemiterator_next
def NO:=@PyProof.Rows.F.plain_set_update_loop
def Jd:=@PySem.wpAny_mono
def Xz:=@PySem.wpAny_pyIter_list
def Wo:=@Bool.or_eq_true
def Ll:=@PySem.F.slot_tuple_iterator_next
def SX:=@PySem.codeAny_mono
def E2:=@PySem.wpAny_pyIter_tuple
def E1:=@of_decide_eq_false
def Lc:=@PySem.wpAny_typeNameOf_itemiter
def Xy:=@PySem.wpAny_passesOwn
def K2:=@PySem.F.args_tuple_add_2
def Xx:=@PyProof.Rows.get?_update_seq
def EZ:=@PySem.Heap.SameBut.refl
def K0:=@PySem.F.entry_tuple_add
def KW:=@PySem.F.slot_tuple_add
def GG:=@PySem.Calls.spliced_cons
def Go:=@PySem.Calls.spliced_nil
def Gc:=@nL
def SQ:=@PySem.wpAny_rule
def Xw:=@PySem.plainId_quiet
def NN:=@PySem.Calls.call_function_entry
def PY:=@PyProof.Rows.F.entry_set_update_loop
def EX:=@PySem.wpAny_tryCatch
def FY:=@PySem.wpAny_isInstance
def Wn:=@PySem.wpAny_letGo
def NM:=@Int.mul_ediv_cancel_left
def EW:=@PySem.Paired.length
def Fv:=@if_true
def FX:=@PySem.W.KasT.kasWp_bind
def KU:=@Bool.false_eq_true
def NL:=@List.getElem?_cons_succ
def NJ:=@List.mem_singleton_self
def NI:=@kT
def NH:=@PySem.F.type_list_index
def NG:=@PySem.Heap.get?_update_other
def NF:=@PySem.F.entry_min_loop
def NE:=@PySem.wpAny_isOneOf_itemiter
def KS:=@PySem.Value.isInt_shape
def KP:=@List.append_assoc
def Wm:=@PySem.call_meets
def KO:=@PySem.Heap.get?_push_ne
def KM:=@List.ext_getElem?
def KL:=@PySem.wpAny_pyIter_enum
def KI:=@PySem.wpAny_setState_of
def KG:=@PySem.wpAny_dictEntries
def PV:=@PySem.F.args_dict_itemiterator_next_1
def KF:=@Bool.not_eq_true'
def KB:=@List.getElem?_set
def PU:=@PyProof.Rows.callWith_builtin1
def PR:=@PySem.F.entry_dict_itemiterator_next
def KA:=@PySem.noFill_tuple_add
def Ky:=@nN
def PQ:=@List.eq_nil_of_length_eq_zero
def Kx:=@Nat.dvd_mul_left
def Kt:=@Nat.Coprime.symm
def ND:=@List.getElem?_append
def FV:=@PySem.wpAny_newList
def PP:=@PySem.F.args_tuple_iterator_next_1
def FU:=@Nat.le_of_dvd
def FT:=@Int.ofNat.inj
def FS:=@Nat.mul_assoc
def NC:=@List.filterMap_cons
def Kn:=@PySem.wpAny_execs_nil
def NB:=@PySem.W.plainGet_of
def Kk:=@List.length_set
def Kj:=@PySem.F.slot_int_rmul
def NA:=@Nat.add_sub_cancel'
def PM:=@PySem.F.entry_tuple_iterator_next
def Ki:=@PySem.pushCells_keeps
def Kb:=@PySem.F.slot_zip_next
def JY:=@Int.le_antisymm
def JU:=@Nat.min_eq_left
def PH:=@Int.fdiv_eq_ediv_of_nonneg
def PF:=@Int.mul_lt_mul_of_pos_left
def Nw:=@PySem.W.callWith_K
def No:=@List.zip_cons_cons
def FP:=@PySem.concat_meets
def FO:=@PySem.wpAny_typeOf
def Nl:=@PySem.Code.quiet_builtin
def Nd:=@Nat.eq_zero_or_pos
def Nc:=@Int.emod_lt_of_pos
def JS:=@PySem.wpAny_runValue
def PD:=@Array.getElem?_eq_getElem
def PC:=@Int.eq_of_mul_eq_mul_left
def Pw:=@Int.lt_of_mul_lt_mul_left
def Pt:=@List.mem_or_eq_of_mem_set
def EV:=@PySem.wpAny_call
def Ps:=@List.getElem?_take_of_lt
def Na:=@List.take_sublist
def M3:=@Nat.le_of_succ_le
def M2:=@bne_self_eq_false
def EU:=@PySem.Walks.list
def Pp:=@PyProof.noPylong_of_log2
def M1:=@PySem.wpAny_storeSet_of
def M0:=@PySem.fits_of_scanBound
def Po:=@List.length_erase_of_mem
def Pm:=@List.append_cancel_right
def Pl:=@List.sublist_append_left
def Pf:=@Nat.gcd_pos_of_pos_right
def MZ:=@Nat.mul_div_assoc
def Pe:=@kC
def Pd:=@PySem.F.type_list_extend
def JP:=@PySem.wpAny_standAt
def FM:=@Int.mul_one
def JO:=@PySem.rangeSize_one
def JJ:=@PySem.seq_tuple_add
def Wk:=@if_false
def JE:=@PyProof.Rows.listUpdate_at
def Pc:=@decide_eq_false_iff_not
def JA:=@Bool.false_or
def OZ:=@PySem.F.entry_type_call
def Wj:=@or_false
def Jn:=@PySem.wpAny_attempt
def OY:=@PySem.F.slot_dict_items
def IZ:=@Int.lt_irrefl
def OX:=@Nat.gcd_pos_of_pos_left
def MY:=@Option.getD_some
def MX:=@PySem.AutoSeq1.idx_int
def MW:=@PySem.wpAny_askSetting
def MV:=@List.any_eq_true
def MU:=@Nat.gcd_dvd_left
def MT:=@Int.natCast_ediv
def OW:=@List.getElem?_set_self
def OV:=@PySem.W.cellsFrom_some
def OU:=@Array.getElem?_eq_none
def OT:=@Nat.le_mul_of_pos_left
def OS:=@PySem.W.methodCall_KW
def MS:=@List.of_mem_zip
def ET:=@PyProof.Rows.IsTup.new
def MR:=@List.forIn_cons
def MQ:=@Int.natCast_mul
def IY:=@Bool.true_or
def MO:=@PySem.codeAny_of_tree
def OR:=@PySem.F.plain_set_new
def IX:=@PySem.sub_set_self
def MM:=@PySem.wpAny_updateSeq
def ML:=@PySem.wpAny_dictEpoch
def IU:=@Nat.pow_succ
def IT:=@List.map_set
def IS:=@Nat.mul_zero
def MI:=@Nat.div_le_self
def OQ:=@Int.mul_ediv_add_emod
def MH:=@Int.emod_nonneg
def MG:=@List.filter_nil
def FL:=@PyProof.Rows.boot_range
def FK:=@PySem.typeIs_int
def ME:=@Bool.false_and
def MD:=@Bool.and_false
def MC:=@List.forIn_nil
def MB:=@List.Perm.refl
def IR:=@PySem.IsRange.new
def IQ:=@PySem.wpAny_of_eq
def IP:=@Nat.mul_pos
def ES:=@Prod.ext
def My:=@List.map_take
def IN:=@Nat.sub_le
def Xu:=@PySem.W.mg_of
def Mo:=@List.any_map
def Mn:=@Int.lt_trans
def aD:=@List.length_map
def cU:=@List.getElem?_eq_getElem
def cR:=@PySem.Heap.get?_push_of_some
def dY:=@List.getD_eq_getElem?_getD
def aP:=@Nat.le_refl
def bR:=@List.map_append
def fB:=@List.mem_cons_of_mem
def dI:=@List.getElem?_map
def dZ:=@List.mem_cons_self
def cZ:=@List.mem_cons
def iQ:=@PySem.Heap.get?_push_size
def oG:=@List.getElem?_eq_some_iff
def gM:=@List.size_toArray
def lR:=@List.mem_append_right
def jw:=@List.mem_singleton
def jA:=@Nat.lt_of_lt_of_le
def dH:=@Nat.le_trans
def dJ:=@PySem.Heap.lt_size
def dW:=@Nat.le_of_lt
def oF:=@List.mem_of_getElem?
def lN:=@List.length_append
def iU:=@List.mem_filter
def fu:=@Nat.ne_of_lt
def dX:=@Nat.zero_le
def lM:=@List.all_eq_true
def nR:=@List.length_take
def vf:=@List.length_filter_le
def rF:=@List.take_add_one
def oE:=@List.mem_append
def nu:=@List.mem_range
def BK:=@List.pairwise_iff_getElem
def tU:=@Nat.lt_succ_of_lt
def rE:=@List.take_length
def jP:=@List.mem_map
def uM:=@List.length_range
def uL:=@List.length_cons
def Bs:=@List.getElem_of_mem
def wY:=@Nat.lt_succ_self
def Fq:=@List.take_of_length_le
def u9:=@Nat.min_le_left
def Kz:=@Nat.mul_div_cancel_left
def Fg:=@Array.length_toList
def xr:=@List.append_nil
def xq:=@List.range_succ
def yS:=@List.getElem_mem
def wX:=@PySem.Heap.size_push
def Fe:=@List.filter_append
def Kw:=@List.length_replicate
def u6:=@Nat.lt_irrefl
def BJ:=@Nat.succ_ne_zero
def Jb:=@Nat.lt_of_le_of_lt
def Kv:=@List.replicate_succ
def Wf:=@Int.mul_le_mul_of_nonneg_left
def Br:=@Int.mul_nonneg
def yR:=@List.map_cons
def xg:=@Nat.ne_of_gt
def u5:=@Int.le_refl
def ER:=@List.take_succ_eq_append_getElem
def SN:=@List.mem_append_left
def Ku:=@List.lookup_cons
def Ks:=@List.filter_cons
def Nt:=@Nat.lt_of_le_of_ne
def Bq:=@Nat.succ_pos
def Bp:=@Int.mul_zero
def Bo:=@Int.mul_comm
def Xr:=@Int.eq_of_mul_eq_mul_right
def Kr:=@List.nodup_cons
def Wd:=@List.pairwise_lt_range
def Tt:=@List.getElem?_range
def Tr:=@List.mem_map_of_mem
def SM:=@Int.toNat_natCast
def EQ:=@List.getElem?_append_right
def Bx:=@Nat.le_succ
def Wc:=@Int.toNat_of_nonneg
def Wb:=@List.filter_eq_self
def Ja:=@Nat.le_of_eq
def Tq:=@List.flatten_cons
def Tp:=@List.pairwise_map
def Xq:=@List.getElem?_eq_none
def SJ:=@List.length_nil
def Xp:=@Nat.pow_le_pow_right
def Xo:=@List.replicate_succ'
def Kq:=@List.map_map
def Wa:=@Nat.le_of_lt_succ
def I9:=@Int.one_mul
def Xn:=@List.filter_sublist
def Xm:=@List.map_congr_left
def FI:=@List.getElem?_append_left
def Tn:=@Nat.not_lt_zero
def V9:=@List.not_mem_nil
def FH:=@List.pairwise_singleton
def FG:=@List.filter_cons_of_pos
def FF:=@List.filter_cons_of_neg
def Nr:=@Nat.lt_trans
def Nq:=@Int.le_of_lt
def Xl:=@List.any_eq_false
def FE:=@List.length_pos_of_mem
def Xk:=@Nat.le_add_right
def EO:=@List.pairwise_cons
def Sy:=@List.all_map
def FD:=@Nat.sub_one_lt_of_le
def FC:=@List.pairwise_append
def Xj:=@Nat.le_antisymm
def IM:=@Nat.succ_add_eq_add_succ
def EN:=@Nat.gcd_dvd_right
def Mm:=@Int.mul_le_mul_of_nonneg_right
def V8:=@List.any_cons
def EM:=@List.length_drop
def FB:=@Nat.pos_of_ne_zero
def FA:=@Int.natAbs_natCast
def Fu:=@List.mem_replicate
def IL:=@List.cons_lt_cons_iff
def EL:=@List.find?_cons
def IJ:=@Array.getElem?_toList
def Xi:=@Int.mul_assoc
def Me:=@Array.perm_iff_toList_perm
def Md:=@Int.le_of_mul_le_mul_right
def II:=@Nat.le_sub_one_of_lt
def IH:=@List.mem_of_mem_take
def Xh:=@Nat.mul_comm
def Xg:=@Int.le_trans
def V7:=@Nat.not_lt
def De:=@Int.mul_pos
def Fs:=@Int.natAbs_mul
def EK:=@List.map_nil
def EJ:=@Int.zero_add
def EI:=@Int.zero_mul
def EH:=@Int.le_of_eq
theorem rV{n:Nat}(h:Nat.ble n 99=true:=by rfl):n<=PySem.sizeLine:=dH (Nat.le_of_ble_eq_true h) (by decide)
namespace Hd
open PySem PySem.W PySem.Calls PyProof.Rows
noncomputable def Yh(tb:String->Option Builtin)(p:υ)(w:ψ)(m:Nat)(ann:Option ρ)(n:Nat):fh->Thread->Option SharedT:=
 @Nat.rec (λ_=>fh->Thread->Option fh) (λ_ _=>none)
  (λ_ ih s t=> @kU (λ_=>Option fh)
   (@kU (λ_=>Option fh) none
    (@Option.rec (fh×Thread) (λ_=>Option fh) none (λr=>ih r.1 r.2) (stepT (denote tb) p w s t)) (stepOk m ann t))
   (some s) (through t)) n
theorem T9:∀(n:Nat) (s s':fh) (t:Thread),
  Yh tb p w m ann n s t=some s'->topRun tb p w m ann n s.abs t=some s'.abs:=by
 intro n
 induction n with
 |zero=>intro s s' t h;exact absurd h (by intro h;cases h)
 |succ n ih=>
  intro s s' t h;have h1: @kU (λ_=>Option fh) (@kU (λ_=>Option fh) none
    (@Option.rec (fh×Thread) (λ_=>Option fh) none (λr=>Yh tb p w m ann n r.1 r.2) (stepT (denote tb) p w s t)) (stepOk m ann t))
    (some s) (through t)=some s':=h
  unfold topRun;cases e1:through t with
  |true=>rw[e1]at h1;injection h1 with h1;rw[h1]
  |false=>
   rw[e1]at h1;cases e2:stepOk m ann t with
   |false=>rw[e2]at h1;cases h1
   |true=>
    rw[e2]at h1;cases e3:stepT (denote tb) p w s t with
    |none=>rw[e3]at h1;cases h1
    |some r=>
     rw[e3]at h1;have e4:=stepT_spec (s':=r.1) (t':=r.2) e3;show(match step (denote tb) p w s.abs t with | .go a b=>topRun tb p w m ann n a b| .halt _ _=>none)=_;rw[e4];exact ih _ _ _ h1
noncomputable def ym(l:List ki):BT:=(l.foldl (λx o=>(x.1.ins x.2 o,x.2+1)) ((BT.nil,0):BT×Nat)).1
noncomputable def DF(p:υ)(N:Nat)(w:ψ)(os:ib):Option SharedT:=
 Yh treeTable p w 11 (some (.ref 6)) N ⟨ym (cM w.params).objs.toList,11,{},i7 [],iA,mr,os⟩ (topStub p)
noncomputable def BN(p q:υ)(loose:List be)(Xt:τ->Bool)(g0:Bool)(h:bn)(s:τ):=
 ((staticsOk (fy p.main.body) h s.heap&&namesBound p s.heap&&gensDone s&&laidKept h s.heap),openSeen q loose (fy p.main.body) Xt g0 s)
noncomputable def tH(p q:υ)(loose:List be)(Xt:τ->Bool)(g0:Bool)(N:Nat):Prop:=
 ∀(w:ψ) (os:ib),(DF p N w os).map (λs=>BN p q loose Xt g0 (cM w.params) s.abs)=some (true,openGood q loose)
theorem Va{α:Type}{Yf:τ->α}{Ya:ψ->α}(r:tH p q loose Xt g0 N)(e:opening p=plainProg p.main.scope.names)(hN:Nat.ble 600 N=true)(f:∀s,fenceModules? p s=some s)(y:∀(w:ψ) (os:ib),(DF p N w os).map (λs=>Yf s.abs)=some (Ya w)):
  LeftO p q loose Xt Yf Ya N g0:=λw=>by
 have b:((cM w.params).isNs av&&(i7 []:Array GenState).size==0,(cM w.params).objs.size,(cM w.params).nsMap av "__annotations__")=(true,11,some (.ref 6)):=by kernel_rfl
 have c:absHeap (ym (cM w.params).objs.toList) 11 {}=cM w.params:=by kernel_rfl
 obtain⟨⟨h,gs',d',k',os⟩,e1,e'⟩:=Option.map_eq_some_iff.mp (boot_open e hN f w);obtain⟨rfl,rfl,rfl,rfl⟩:h=cM w.params/\gs'=i7 []/\d'=iA/\k'=boot_toks:=by simpa using e'
 obtain⟨b1,b2,b3⟩:_/\_/\_:=by simpa only[Prod.mk.injEq]using b
 obtain⟨s,r1,r2⟩:=Option.map_eq_some_iff.mp (r w os);obtain⟨s',y1,y2⟩:=Option.map_eq_some_iff.mp (y w os);have es:s'=s:=by rw[r1]at y1;injection y1 with y1;exact y1.symm
 subst es;obtain⟨l1,l2⟩:_/\_:=by simpa only[BN,Prod.mk.injEq]using r2
 have t1:=T9 N _ _ _ r1;have ab:SharedT.abs ⟨ym (cM w.params).objs.toList,11,{},i7 [],iA,mr,os⟩=⟨cM w.params,i7 [],iA,mr,os⟩:=by unfold SharedT.abs;rw[c]
 rw[ab]at t1;have t:topFrom treeTable p w N ⟨cM w.params,i7 [],iA,mr,os⟩=some s'.abs:=by
  unfold topFrom;dsimp only;rw[b1,b2,b3,t1];show(match staticsOk (fy p.main.body) (cM w.params) s'.abs.heap&&namesBound p s'.abs.heap&&gensDone s'.abs&&laidKept (cM w.params) s'.abs.heap with |true=>_|false=>_)=_;rw[l1]
 unfold openEnds;rw[e1];show(topFrom treeTable p w N _).map _=_;rw[t];show some (_,_)=_;rw[l2,y2]
theorem two{α β γ:Type}{o:Option α}{f:α->β}{g:α->γ}{a:β}{b:γ}(h:o.map f=some a)(h':o.map g=some b):o.map (λs=>(f s,g s))=some (a,b):=by
 cases o with
 |none=>cases h
 |some s=>
  injection h with h
  injection h' with h'
  show some (f s,g s)=_;rw[h,h']
theorem NP{α β γ:Type}{o:Option α}{f:α->β}{g:α->γ}{a:β}{b:γ}(h:o.map (λs=>(f s,g s))=some (a,b)):o.map f=some a/\o.map g=some b:=by
 cases o with
 |none=>cases h
 |some s=>
  injection h with h
  injection h with h h'
  exact⟨jQ some h,jQ some h'⟩
theorem A0{α:Type}{o:Option α}{f g:α->Bool}(h:o.map f=some true)(h':o.map g=some true):o.map (λs=>f s&&g s)=some true:=by
 cases o with
 |none=>cases h
 |some s=>
  injection h with h
  injection h' with h'
  show some (f s&&g s)=_;rw[h,h'];rfl
section
variable(p q:υ)(Xt:τ->Bool)(N:Nat)
noncomputable abbrev GA:Prop:=∀(w:ψ) (os:ib),(DF p N w os).map (λs=>(seen ((recsOf q).map (·.name)) (ownsOf q) [] {s.abs with gens:=#[]},s.abs.heap.bltView,s.abs.heap.isNs av,s.abs.heap.isNs gz,tablesOk q s.abs.heap,s.abs.gens.size==0))=some (expectedOf q,bltViewBooted,true,true,true,true)
noncomputable abbrev GB:Prop:=∀(w:ψ) (os:ib),(DF p N w os).map (λs=>(s.abs.heap.keysOk (looseW q []) ((recsOf q).map (·.name)) ((litsOf q).map (·.1)) ((clssOf q (looseW q [])).map (·.name)),(staticsOk (fy p.main.body) (cM w.params) s.abs.heap&&namesBound p s.abs.heap&&gensDone s.abs&&laidKept (cM w.params) s.abs.heap),s.abs.heap.accountedOkI (fy p.main.body),Xt s.abs,plainSeenD q [] s.abs))=some (true,true,true,true,plainGoodD q [])
noncomputable abbrev GC:Prop:=∀(w:ψ) (os:ib),(DF p N w os).map (λs=>(tabsOk q s.abs,pinSeenD q (drecsOf q) s.abs))=some (true,pinGoodD (drecsOf q))
noncomputable abbrev GD:Prop:=∀(w:ψ) (os:ib),(DF p N w os).map (λs=>plainSeenE q (looseW q []) s.abs)=some (plainGoodE q (looseW q []))
noncomputable abbrev GE:Prop:=∀(w:ψ) (os:ib),(DF p N w os).map (λs=>(wideSeen q s.abs,clsSeenW q [] s.abs))=some (wideGood q,clsGoodW q [])
end
theorem Qw(ga:GA p q N)(gb:GB p q Xt N)(gc:GC p q N)(gd:GD p q N)(ge:GE p q N):tH p q [] Xt true N:=λw os=>by
 obtain⟨h1,a2⟩:=NP (ga w os);obtain⟨h2,a3⟩:=NP a2;obtain⟨h5,a4⟩:=NP a3;obtain⟨h6,a5⟩:=NP a4;obtain⟨h7,h9⟩:=NP a5;obtain⟨h3,b2⟩:=NP (gb w os);obtain⟨h0,b3⟩:=NP b2;obtain⟨h4,b4⟩:=NP b3;obtain⟨h8,k4⟩:=NP b4;obtain⟨k1,k2⟩:=NP (gc w os);obtain⟨k5,k6⟩:=NP (ge w os);exact two h0 (two h1 (two h2 (two (A0 (A0 (A0 (A0 (A0 (A0 h3 h4) h5) h6) h7) h8) h9) (two k1 (two k2 (two (gd w os) (two k4 (two k5 k6))))))))
end Hd
section
open PySem PySem.W PyProof.Rows
namespace Hd
noncomputable abbrev L:=PySem.Challenge.rw_hueshare_k34_arguments_by_their_names
noncomputable def Q:υ:=view L.row.toRowW.prog [1,2,3,4,5,6,8,9,10,11,12,13,14,15,16,17,18,19,20,21,22,23,25,26,27,28,29,31,32,33,34,35,36,37,38,40,41,42,43,44,45,46,47,48,49,50,52,53,54,55,56,57,58,59,60,61,63,64,65,67,68,69,70,71,72,73,74,76,77,78,79,80,82,83,84,85,86]
noncomputable abbrev X:τ->Bool:=λs=>xlAt Q [] s&&recOk (RowW.records L.row.toRowW) s
set_option maxRecDepth 100000 in
theorem g0:GA L.row.toRowW.prog Q 7652:=λw os=>by kernel_rfl
set_option maxRecDepth 100000 in
theorem g1:GB L.row.toRowW.prog Q X 7652:=λw os=>by kernel_rfl
set_option maxRecDepth 100000 in
theorem g2:GC L.row.toRowW.prog Q 7652:=λw os=>by kernel_rfl
set_option maxRecDepth 100000 in
theorem g3:GD L.row.toRowW.prog Q 7652:=λw os=>by kernel_rfl
set_option maxRecDepth 100000 in
theorem g4:GE L.row.toRowW.prog Q 7652:=λw os=>by kernel_rfl
theorem looks:tH L.row.toRowW.prog Q [] X true 7652:=Qw g0 g1 g2 g3 g4
end Hd
local macro_rules
 |`(tactic|o_head $H)=>`(tactic|
  refine holds_open (q:=Hd.Q) (loose:=[]) (N:=7652) (Xt:=Hd.X) (XP:=XL Hd.Q [])
   (Yf:=Hook.obs $H) (Ya:=Hook.val $H) (YP:=Hook.says $H)
   (Hd.Va Hd.looks (by kernel_rfl) rfl (λ_=>by kernel_rfl) (λ_ _=>by kernel_rfl))
   (Hook.of $H) (Hook.keeps $H) (λs e=>xl_of s (Bool.and_eq_true_iff.mp e).1) XL.keeps
   (by rfl) (by rfl) (by rfl) (λs e=>recFacts_of (Bool.and_eq_true_iff.mp e).2) (by rfl)
   (by first |assumption|decide+kernel) (by decide+kernel) ⟨rfl,rfl,rfl,rfl,rfl,by decide+kernel⟩ ?hw ?hc)
set_option maxRecDepth 100000 in
theorem Hd.ws:OpenLaw.wellSaid PySem.Challenge.rw_hueshare_k34_arguments_by_their_names=true:=by kernel_rfl
set_option maxRecDepth 100000 in
set_option maxHeartbeats 0 in
noncomputable def Hd.early:PSigma λP:Prop=>P->PySem.Challenge.rw_hueshare_k34_arguments_by_their_names.Holds:=by
 refine⟨?P,λW=>?_⟩
 rotate_left
 w_on;refine holds_law Hd.ws λ_=>?_;k_head;(case hw=>w_witness2)
 exact W
end
namespace L2
open PySem PySem.Spec PyProof.Rows
noncomputable abbrev tJ:=Sum Int be
noncomputable def vE:tJ->ρ->Bool
 | .inl k,v=>Value.isInt k v
 | .inr x,v=>Value.isStrOf x v
noncomputable def Oy(w:ψ):tJ->Int
 | .inl k=>hashInt k
 | .inr x=>hashStr w x
theorem Sq:∀{k:tJ}{v:ρ},vE k v=true->(∃i t,k=bW i/\v=bI i t)\/(∃x t,k=im x/\v=ka x t)
 | .inl i,v,h=>by
  obtain⟨t,e⟩:=KS (k:=i) (v:=v) h;exact .inl ⟨i,t,rfl,e⟩
 | .inr x,v,h=>by
  obtain⟨t,e⟩:=Value.isStrOf_shape (x:=x) (v:=v) h;exact .inr ⟨x,t,rfl,e⟩
theorem AO(i)(t):vE (.inl i) (.int i t)=true:=by simp[vE,Value.isInt]
theorem AN(x)(t):vE (.inr x) (.str x t)=true:=by simp[vE,Value.isStrOf]
theorem Ee(a b):decide ((bW a:tJ)=bW b)=(a==b):=by
 by_cases e:a=b
 ·subst e;simp
 ·have h:¬(bW a:tJ)=bW b:=λq=>e (Sum.inl.inj q);rw[gY h];exact(beq_eq_false_iff_ne.mpr e).symm
theorem DT(a b):decide ((im a:tJ)=im b)=decide (a=b):=by
 by_cases e:a=b
 ·subst e;simp
 ·have h:¬(im a:tJ)=im b:=λq=>e (Sum.inr.inj q);rw[gY h,gY e]
theorem DZ(a)(b):decide ((bW a:tJ)=im b)=false:=gY (λq=>nomatch q)
theorem DU(a)(b):decide ((im a:tJ)=bW b)=false:=gY (λq=>nomatch q)
noncomputable def qh(prog:υ)(w:ψ):PySem.KeyKind prog w tJ where
 is:=vE
 hash:=Oy w
 inj:=λv a b ha hb=>by
  rcases Sq ha with⟨i,t,rfl,rfl⟩|⟨x,t,rfl,rfl⟩
  ·rcases Sq hb with⟨j,u,rfl,e⟩|⟨y,u,rfl,e⟩
   ·injection e with e1 _;rw[e1]
   ·exact nomatch e
  ·rcases Sq hb with⟨j,u,rfl,e⟩|⟨y,u,rfl,e⟩
   ·exact nomatch e
   ·injection e with e1 _;rw[e1]
 byValue:=λk v h=>by
  rcases Sq h with⟨i,t,rfl,rfl⟩|⟨x,t,rfl,rfl⟩<;>rfl
 pyHash:=λhv h=>by
  rcases Sq hv with⟨i,t,rfl,rfl⟩|⟨x,t,rfl,rfl⟩
  ·exact wpAny_pyHash_int h
  ·exact wpAny_pyHash_str h
 eqBool:=λhu hv h=>by
  rcases Sq hu with⟨i,t,rfl,rfl⟩|⟨x,t,rfl,rfl⟩
  ·rcases Sq hv with⟨j,u,rfl,rfl⟩|⟨y,u,rfl,rfl⟩
   ·rw[Ee]at h;exact wpAny_eqBool_int h
   ·rw[DZ]at h;exact SeqAt.EqAt.int_str i t y u _ _ _ _ h
  ·rcases Sq hv with⟨j,u,rfl,rfl⟩|⟨y,u,rfl,rfl⟩
   ·rw[DU]at h;exact SeqAt.EqAt.str_int x t j u _ _ _ _ h
   ·rw[DT]at h;exact wpAny_eqBool_str h
 «strs»:=λk x t v h=>by
  rcases Sq h with⟨i,u,rfl,e⟩|⟨y,u,rfl,e⟩
  ·exact nomatch e
  ·injection e with e1 _
   subst e1;cases v<;>rfl
theorem xI(prog)(w)(i)(t):(qh prog w).is (.inl i) (.int i t)=true:=AO i t
theorem xF(prog)(w)(x)(t):(qh prog w).is (.inr x) (.str x t)=true:=AN x t
inductive V where
 |non|bl (b:Bool)|int (i:Int)|str (x:be)|byt (b:Array UInt8)|flt (b:UInt64)|ref (a:ag)|ty (n:String)
 deriving DecidableEq
noncomputable def RelV:V->ρ->Prop
 | .non,u=>u=ba
 | .bl b,u=>u=hU b
 | .int i,u=>∃t,u=bI i t
 | .str x,u=>∃t,u=ka x t
 | .byt b,u=>∃t,u=Value.bytes b t
 | .flt b,u=>∃t,u=Value.float b t
 | .ref a,u=>u=aI a
 | .ty n,u=>u=cx n
noncomputable abbrev iN:List V->List ρ->Prop:=ce RelV
theorem iN.length(r:iN xs us):xs.length=us.length:=EW r
theorem iN.get:∀{xs:List V}{us:List ρ}{i:Nat}{x:V},iN xs us->xs[i]? =some x->∃u,us[i]? =some u/\RelV x u
 |_,_,_,_,.nil,e=>by simp at e
 |_,_,0,_,.cons r _,e=>by simp at e;subst e;exact⟨_,rfl,r⟩
 |_,_,i+1,x,.cons _ t,e=>by
  obtain⟨u,h1,h2⟩:=iN.get (i:=i) (x:=x) t (by simpa using e);exact⟨u,by simpa using h1,h2⟩
theorem iN.set(r:RelV x u):∀{xs:List V}{us:List ρ} (i:Nat),iN xs us->iN (xs.set i x) (us.set i u)
 |_,_,_,.nil=>.nil
 |_,_,0,.cons _ t=>.cons r t
 |_,_,i+1,.cons q t=>.cons q (iN.set r i t)
theorem iN.append:∀{xs ys:List V}{us ws:List ρ},iN xs us->iN ys ws->iN (xs++ys) (us++ws)
 |_,_,_,_,.nil,s=>s
 |_,_,_,_,.cons r t,s=>.cons r (iN.append t s)
theorem iN.take:∀{xs:List V}{us:List ρ} (n:Nat),iN xs us->iN (xs.take n) (us.take n)
 |_,_,0,_=>.nil
 |_,_,_+1,.nil=>.nil
 |_,_,n+1,.cons r t=>.cons r (iN.take n t)
theorem iN.drop:∀{xs:List V}{us:List ρ} (n:Nat),iN xs us->iN (xs.drop n) (us.drop n)
 |_,_,0,r=>r
 |_,_,_+1,.nil=>.nil
 |_,_,n+1,.cons _ t=>iN.drop n t
noncomputable def tI:Option V->Option ρ->Prop
 |some v,some u=>RelV v u
 |none,none=>True
 |_,_=>False
noncomputable def KV{κ:Type}:List (κ×V)->List (κ×ρ)->Prop:=ce λ(p:κ×V) (q:κ×ρ)=>p.1=q.1/\RelV p.2 q.2
noncomputable def kV:tJ->V
 | .inl i=>.int i
 | .inr x=>.str x
inductive HO where
 |lst (xs:List V)
 |tup (xs:List V)
 |dK (kvs:List (tJ×V))|dT (kvs:List (List tJ×V))
 |set (S:Int->Bool) (n:Nat)
 |ins (C dx:ag) (fs:List (be×V))
 |own (x:ag)
 |xd (fs:List (be×V))
 |met (f x:ag)
 |rng (lo hi:Int)
 |frz (o:ki) (u:HO)
 |tbl (ps:Array ρ)
 |ext (φ:bn->Prop)
noncomputable abbrev Hp:=ag->Option HO
noncomputable def upd(H:Hp)(a:ag)(o:HO):Hp:=λb=>if b=a then some o else H b
theorem aK:upd H a o a=some o:=by unfold upd;rw[au rfl]
theorem cF(h:b≠a):upd H a o b=H b:=by unfold upd;rw[aq h]
theorem rX{H:Hp}(h:H a=some o)(h':H b=some u)(d:o≠u):a≠b:=by
 intro e;subst e;rw[h]at h';exact d (uw h')
theorem oA{H:Hp}(h:H a=some o)(h':H b=none):a≠b:=by
 intro e;subst e;rw[h]at h';cases h'
section
variable(P:υ)(w:ψ)
noncomputable def qr(H:Hp)(h:bn)(a:ag):HO->Prop
 | .lst xs=>xs.length<=sizeLine/\∃(ae:List ρ) (n:Nat),iN xs ae/\h.get? a=some {cls:=.type "list",data:=.seq ae.toArray n}
 | .tup xs=>xs.length<=sizeLine/\∃ae:List ρ,iN xs ae/\kD h a ae.toArray
 | .dK kvs=>kvs.length<=sizeLine/\(a==de)=false/\∃vs,KV kvs vs/\h.DictOf (qh P w) a vs
 | .dT kvs=>kvs.length<=sizeLine/\(a==de)=false/\∃xs:List (List tJ×ag×ρ),
   ce (λ(p:List tJ×V) (q:List tJ×ag×ρ)=>p.1=q.1/\H q.2.1=some (.tup (p.1.map kV))/\RelV p.2 q.2.2) kvs xs/\
   ∃o es ep,h.get? a=some o/\o.ExactDict/\o.data=.dict es ep/\es.toList=xs.map (entryOfKey (ie (qh P w)))/\(xs.map (·.1)).Nodup
 | .set S n=>h.SetOf (bT P w) a S n
 | .ins C dx fs=>H dx=some (.own a)/\fs.length<=1000/\dx≠a/\h.get? a=some (fE C dx)/\
   ∃mA,h.Ns1 dx mA/\(∀f,tI (fs.lookup f) (mA f))/\kl mA (fs.map (·.1))
 | .own _=>∃o,h.get? a=some o
 | .xd fs=>∃mA,h.Ns1 a mA/\∀f,tI (fs.lookup f) (mA f)
 | .rng lo hi=>∃t u v,h.get? a=some {cls:=.type "range",data:=.fields #[.int lo t,.int hi u,.int 1 v]}
 | .frz o u=>h.get? a=some o/\qr H h a u
 | .tbl ps=>h.get? a=some {cls:=.none,data:=.fields ps}
 | .met f x=>h.get? a=some (nS (.ref f) (.ref x))
 | .ext φ=>φ h/\(∃o,h.get? a=some o)/\∀h1 h2:bn,φ h1->(∀o,h1.get? a=some o->h2.get? a=some o)->φ h2
noncomputable def tx(H:Hp)(h:bn):Prop:=∀a o,H a=some o->qr P w H h a o
end
section
variable{P:υ}{w:ψ}{H H':Hp}{h h':bn}{a:ag}{o:HO}
theorem qr.lt(x:qr P w H h a o):a<h.objs.size:=by
 cases o with
 |lst xs=>obtain⟨_,_,_,_,e⟩:=x;exact dJ e
 |tup xs=>obtain⟨_,_,_,p⟩:=x;exact p.lt
 |dK kvs=>obtain⟨_,_,_,_,o,_,_,e,_⟩:=x;exact dJ e
 |dT kvs=>obtain⟨_,_,_,_,o,_,_,e,_⟩:=x;exact dJ e
 |set S n=>obtain⟨o,_,_,_,e,_⟩:=x;exact dJ e
 |ins C dx fs=>obtain⟨_,_,_,e,_⟩:=x;exact dJ e
 |own y=>obtain⟨_,e⟩:=x;exact dJ e
 |xd fs=>obtain⟨_,⟨_,_,_,e,_⟩,_⟩:=x;exact dJ e
 |rng lo hi=>obtain⟨_,_,_,e⟩:=x;exact dJ e
 |frz ob u=>obtain⟨e,_⟩:=x;exact dJ e
 |tbl ps=>exact dJ (show h.get? a=some _ from x)
 |met f y=>exact dJ (show h.get? a=some _ from x)
 |ext φ=>obtain⟨_,⟨_,e⟩,_⟩:=x;exact dJ e
theorem Paired.mapP{α β:Type}{F G:α->β->Prop}:∀{l₁:List α}{l₂:List β},ce F l₁ l₂->(∀a b,F a b->G a b)->ce G l₁ l₂
 |_,_,.nil,_=>.nil
 |_,_,.cons r t,f=>.cons (f _ _ r) (Paired.mapP t f)
theorem qr.stay(x:qr P w H h a o)(k:∀b u,(b=a\/H b=some (.own a))->h.get? b=some u->h'.get? b=some u)(ho:∀b,H b=some (.own a)->H' b=some (.own a))(ht:∀b xs,H b=some (.tup xs)->H' b=some (.tup xs)):qr P w H' h' a o:=by
 induction o with
 |lst xs=>obtain⟨z,ae,n,r,e⟩:=x;exact⟨z,ae,n,r,k _ _ (.inl rfl) e⟩
 |tup xs=>obtain⟨z,ae,r,ob,e,c⟩:=x;exact⟨z,ae,r,ob,k _ _ (.inl rfl) e,c⟩
 |dK kvs=>obtain⟨z,y,vs,r,ob,es,ep,e,c⟩:=x;exact⟨z,y,vs,r,ob,es,ep,k _ _ (.inl rfl) e,c⟩
 |dT kvs=>
  obtain⟨z,y,xs,r,ob,es,ep,e,c⟩:=x;exact⟨z,y,xs,Paired.mapP r λp q z=>⟨z.1,ht _ _ z.2.1,z.2.2⟩,ob,es,ep,k _ _ (.inl rfl) e,c⟩
 |set S n=>obtain⟨ob,es,ep,t,e,c⟩:=x;exact⟨ob,es,ep,t,k _ _ (.inl rfl) e,c⟩
 |ins C dx fs=>
  obtain⟨d,z,ne,e,mA,⟨od,es,ep,e2,c⟩,r⟩:=x;exact⟨ho _ d,z,ne,k _ _ (.inl rfl) e,mA,⟨od,es,ep,k _ _ (.inr d) e2,c⟩,r⟩
 |own y=>obtain⟨ob,e⟩:=x;exact⟨ob,k _ _ (.inl rfl) e⟩
 |xd fs=>obtain⟨mA,⟨od,es,ep,e,c⟩,r⟩:=x;exact⟨mA,⟨od,es,ep,k _ _ (.inl rfl) e,c⟩,r⟩
 |rng lo hi=>obtain⟨t,u,v,e⟩:=x;exact⟨t,u,v,k _ _ (.inl rfl) e⟩
 |frz ob u ih=>obtain⟨e,q⟩:=x;exact⟨k _ _ (.inl rfl) e,ih q⟩
 |tbl ps=>
  have e:h.get? a=some {cls:=.none,data:=.fields ps}:=x;show h'.get? a=some {cls:=.none,data:=.fields ps};exact k a _ (.inl rfl) e
 |met f y=>
  have e:h.get? a=some (nS (.ref f) (.ref y)):=x;show h'.get? a=some (nS (.ref f) (.ref y));exact k a _ (.inl rfl) e
 |ext φ=>obtain⟨p,⟨o,e⟩,st⟩:=x;exact⟨st _ _ p λo q=>k _ _ (.inl rfl) q,⟨o,k _ _ (.inl rfl) e⟩,st⟩
theorem tx.lt(x:tx P w H h)(e:H a=some o):a<h.objs.size:=(x a o e).lt
theorem tx.fresh(x:tx P w H h)(e:h.objs.size<=a):H a=none:=by
 cases q:H a with
 |none=>rfl
 |some u=>exact absurd (jA (x.lt q) e) (u6 _)
theorem tx.kept(x:tx P w H h)(k:∀b u,h.get? b=some u->h'.get? b=some u):tx P w H h':=λa o e=>
 (x a o e).stay (λb u _ q=>k b u q) (λ_ q=>q) λ_ _ q=>q
theorem tx.laid(x:tx P w H h)(k:∀b u,h.get? b=some u->h'.get? b=some u)(hp:h.objs.size<=a)(new:qr P w (upd H a o) h' a o):tx P w (upd H a o) h':=λb u e=>by
 have hn:=x.fresh hp;by_cases hb:b=a
 ·subst hb;rw[aK]at e;cases e;exact new
 ·rw[cF hb]at e;exact(x b u e).stay (λc v _ q=>k c v q) (λc q=>by rw[cF (oA q hn)];exact q) λc xs q=>by rw[cF (oA q hn)];exact q
end
noncomputable def Rd(H:Hp)(a:ag)(u:HO):Prop:=H a=some u\/∃o,H a=some (.frz o u)
theorem Rd.ok(r:Rd H a u)(x:tx P w H h):qr P w H h a u:=by
 rcases r with r|⟨o,r⟩
 ·exact x a u r
 ·obtain⟨_,q⟩:=x a _ r;exact q
noncomputable def Ix:Option HO->Prop
 |some (.lst _)=>True
 |some (.dK _)=>True
 |some (.dT _)=>True
 |some (.set _ _)=>True
 |some (.ins _ _ _)=>True
 |some (.ext _)=>True
 |_=>False
section
variable{P:υ}{w:ψ}{H:Hp}{h h':bn}{x e:ag}{o':HO}
theorem tx.write(ok:tx P w H h)(mu:Ix (H x))(he:e=x\/H e=some (.own x))(k:∀b u,b≠e->h.get? b=some u->h'.get? b=some u)(heo:∃u,h'.get? e=some u)(new:qr P w (upd H x o') h' x o'):tx P w (upd H x o') h':=λb u q=>by
 have nown:∀c y,H c=some (.own y)->c≠x:=λc y r z=>by subst z;rw[r]at mu;exact mu
 have ntup:∀c xs,H c=some (.tup xs)->c≠x:=λc xs r z=>by subst z;rw[r]at mu;exact mu
 by_cases hb:b=x
 ·subst hb;rw[aK]at q;cases q;exact new
 ·rw[cF hb]at q;by_cases hbe:b=e
  ·have q':H b=some (.own x):=by
    rcases he with z|z
    ·exact absurd (hbe.trans z) hb
    ·rw[hbe];exact z
   rw[q]at q';cases q';obtain⟨v,hv⟩:=heo;exact⟨v,by rw[hbe];exact hv⟩
  ·refine(ok b u q).stay (λc v hc r=>k c v ?_ r) (λc r=>by rw[cF (nown c b r)];exact r) λc xs r=>by rw[cF (ntup c xs r)];exact r
   rcases hc with rfl|hc
   ·exact hbe
   ·rintro rfl;rcases he with z|z
    ·exact nown c b hc z
    ·rw[hc]at z;cases z;exact hb rfl
end
structure Un(fs ex:η)(H H':Hp)(h h':bn):Prop where
 keep:∀b o,h.get? b=some o->H b=none->b∉fs->b∉ex->h'.get? b=some o
 slot:∀b o,h.get? b=some o->H b=none->b∈fs->b∉ex->∃sl,h'.get? b=some {o with slots:=sl}
 free:∀b o,h.get? b=some o->H b=none->b∉ex->H' b=none
 there:∀b o,h.get? b=some o->b∉ex->∃o',h'.get? b=some o'
 tups:∀b xs,H b=some (.tup xs)->H' b=some (.tup xs)
 frzs:∀b o u,H b=some (.frz o u)->H' b=some (.frz o u)
 tbls:∀b ps,H b=some (.tbl ps)->∃more,H' b=some (.tbl (ps++more))
section
variable{fs ex:η}{H H1:Hp}{h h1 h':bn}{a x e:ag}{o:HO}
theorem Un.any(u:Un fs ex H H1 h h1)(q:h.get? b=some ob)(n:H b=none)(hx:b∉ex):∃sl,h1.get? b=some {ob with slots:=sl}:=by
 by_cases hb:b∈fs
 ·exact u.slot b ob q n hb hx
 ·exact⟨ob.slots,u.keep b ob q n hb hx⟩
theorem Un.kept(k:∀b u,h.get? b=some u->h'.get? b=some u):Un fs ex H H h h':=
 ⟨λb ob q _ _ _=>k b ob q,λb ob q _ _ _=>⟨ob.slots,k b ob q⟩,λ_ _ _ n _=>n,λb ob q _=>⟨ob,k b ob q⟩,λ_ _ q=>q,λ_ _ _ q=>q,λ_ ps q=>⟨#[],by rw[q];simp⟩⟩
theorem Un.refl:Un fs ex H H h h:=Un.kept λ_ _ q=>q
theorem Un.laid(k:∀b u,h.get? b=some u->h'.get? b=some u)(hp:h.objs.size<=a)(hn:H a=none):Un fs ex H (upd H a o) h h' where
 keep:=λb u q _ _ _=>k b u q
 slot:=λb u q _ _ _=>⟨u.slots,k b u q⟩
 free:=λb u q n _=>by rw[cF (fu (jA (dJ q) hp))];exact n
 there:=λb u q _=>⟨u,k b u q⟩
 tups:=λb xs q=>by rw[cF (oA q hn)];exact q
 frzs:=λb u xs q=>by rw[cF (oA q hn)];exact q
 tbls:=λb ps q=>⟨#[],by rw[cF (oA q hn),q];simp⟩
theorem Un.write(mu:Ix (H x))(he:e=x\/H e=some (.own x))(k:∀b u,b≠e->h.get? b=some u->h'.get? b=some u)(heo:∃u,h'.get? e=some u):Un fs ex H (upd H x o) h h':=by
 have hx:∀b,H b=none->b≠x:=λb n z=>by subst z;rw[n]at mu;exact mu
 have hb:∀b,H b=none->b≠e:=λb n z=>by
  subst z;rcases he with r|r
  ·exact hx b n r
  ·rw[n]at r;cases r
 have hm:∀b u,H b=some u->¬Ix (some u)->b≠x:=λb u q nm z=>by subst z;rw[q]at mu;exact nm mu
 refine⟨λb u q n _ _=>k b u (hb b n) q,λb u q n _ _=>⟨u.slots,k b u (hb b n) q⟩,λb u q n _=>by rw[cF (hx b n)];exact n,λb u q _=>?_,
  λb xs q=>by rw[cF (hm b _ q λz=>z)];exact q,λb u xs q=>by rw[cF (hm b _ q λz=>z)];exact q,λb ps q=>⟨#[],by rw[cF (hm b _ q λz=>z),q];simp⟩⟩
 by_cases hbe:b=e
 ·subst hbe;exact heo
 ·exact⟨u,k b u hbe q⟩
end
noncomputable def Lv(h:bn)(H:Hp):η:=(am h.objs.size).filter λa=>(H a).isSome
noncomputable def wc(h:bn)(H:Hp):Heap:=W.hideAll h (Lv h H)
theorem AR(h)(H):(wc h H).objs.size=h.objs.size:=W.hideAll_size _ _
theorem BS(e:h.get? b=some o)(n:H b=none):(wc h H).get? b=some o:=
 W.hideAll_get _ e λhm=>by
  have q:(H b).isSome=true:=(iU.mp hm).2;rw[n]at q;simp at q
theorem CF(e:(wc h H).get? b=some o):h.get? b=some o/\H b=none:=by
 have e':h.get? b=some o:=W.of_hideAll (Lv h H) e;refine⟨e',?_⟩;cases q:H b with
 |none=>rfl
 |some x=>
  have hm:b∈Lv h H:=iU.mpr ⟨nu.mpr (dJ e'),by simp[q]⟩;have z:(wc h H).get? b=none:=W.hideAll_none (Lv h H) hm;rw[z]at e;cases e
structure Mod(K:af)(mg:D0)(base:bn):Prop where
 kin:K.In base
 glob:base.Ns av mg
 blt:∃mb,base.Ns gz mb/\∀x:be,x≠"__name__"->mb x=br x
 nolimit:base.NoLimit
structure Cx where
 prog:υ
 w:ψ
 K:af
 mg:be->Option ρ
 base:bn
 A:bt
 N:List be
 s₀:τ
 H₀:Hp
 env:lw
 outer:List lw
 stack:List lw
 ex:η
 fn:be->Bool
 calm:Bool
 pn:O0
 xe:ρ->τ->Prop
noncomputable def AU(l:List lw):η:=l.filterMap (·.frame)
noncomputable abbrev Cx.fs(X:Cx):η:=AU X.outer
noncomputable def LH(sc:dQ)(x:be):Prop:=sc.names.lookup x=some .local\/sc.names.lookup x=some .cell\/sc.names.lookup x=some .free
noncomputable def Loc(sc:dQ)(x:be):Prop:=sc.names.lookup x=some .local\/sc.names.lookup x=some .cell
noncomputable def Look(env:lw)(h:bn)(m:D0)(x:be)(u:ρ):Prop:=
 (env.kindOf x=some .local/\m x=some u)\/((env.kindOf x=some .cell\/env.kindOf x=some .free)/\∃c,env.cells.lookup x=some c/\h.IsCell c (some u))
structure Cx.Ok(X:Cx):Prop where
 mod:Mod X.K X.mg X.base
 kind:X.env.scope.kind=.function
 glob:X.env.globals=av
 blt:X.env.builtins=gz
 above:X.s₀.heap.objs.size<=X.env.locals
 inj:∀x y c,X.env.cells.lookup x=some c->X.env.cells.lookup y=some c->x=y
 has:∀x,(X.env.kindOf x=some .cell\/X.env.kindOf x=some .free)->∃c,X.env.cells.lookup x=some c
 cab:∀x c,X.fn x=true->X.env.cells.lookup x=some c->X.s₀.heap.objs.size<=c
 hd:X.calm=true->X.A.handled=none
 frames:X.A.frames=some X.stack
 stk:X.stack=X.outer\/(X.stack=X.env::X.outer/\X.env.frame=some X.env.locals)
 exf:∀b∈X.ex,b≠X.env.locals/\∀x c,X.env.cells.lookup x=some c->c≠b
 bs:∀b o,X.base.get? b=some o->X.s₀.heap.get? b=some o/\X.H₀ b=none
 bsz:X.base.objs.size<=X.s₀.heap.objs.size
 noex:∀b o,X.base.get? b=some o->b∉X.ex
 exfs:∀b∈X.ex,b∉X.fs
 funs:X.s₀.heap.FunFrames X.base X.outer
 frf:∀b∈X.fs,X.H₀ b=none
structure Inv(X:Cx)(aa:O0)(σ:List (Option V))(H:Hp)(s:τ):Prop where
 ok:X.Ok
 os:s.os=X.s₀.os
 bare:fI s.gens
 base:Un X.fs X.ex X.H₀ H X.s₀.heap s.heap
 loc:∃m,s.heap.Ns X.env.locals m/\∀(i:Nat) (x:be) (v:V),X.N[i]? =some x->σ[i]? =some (some v)->LH X.env.scope x->∃u,RelV v u/\Look X.env s.heap m x u
 cell:∀x c,X.env.cells.lookup x=some c->∃v,s.heap.IsCell c v
 free:H X.env.locals=none
 freeC:∀x c,X.env.cells.lookup x=some c->H c=none
 pin:∀p∈X.pn++aa,s.heap.get? p.1=some p.2/\H p.1=none/\p.1≠X.env.locals/\p.1∉X.fs/\∀v,p.2.data≠.cell v
 hok:tx X.prog X.w H s.heap
 len:σ.length=X.N.length
section
variable{X:Cx}{aa:O0}{σ:List (Option V)}{H H':Hp}{s:τ}{h':bn}
theorem Cx.Ok.nofr(ok:X.Ok)(e:X.base.get? b=some o):b∉X.fs:=λhb=>by
 have:=(ok.funs.mem hb).1;rw[e]at this;cases this
theorem Inv.bs(I:Inv X aa σ H s):∀b o,X.base.get? b=some o->s.heap.get? b=some o/\H b=none:=λb o e=>
 ⟨I.base.keep b o (I.ok.bs b o e).1 (I.ok.bs b o e).2 (I.ok.nofr e) (I.ok.noex b o e),I.base.free b o (I.ok.bs b o e).1 (I.ok.bs b o e).2 (I.ok.noex b o e)⟩
theorem Inv.bk(I:Inv X aa σ H s):∀b o,X.base.get? b=some o->s.heap.get? b=some o:=λb o e=>(I.bs b o e).1
theorem Inv.mod(I:Inv X aa σ H s):Mod X.K X.mg X.base:=I.ok.mod
theorem Inv.kIn(I:Inv X aa σ H s):X.K.In s.heap:=I.ok.mod.kin.keeps I.bk
theorem Inv.nolimit(I:Inv X aa σ H s):s.heap.NoLimit:=I.ok.mod.nolimit.keeps I.bk
theorem Inv.lt(I:Inv X aa σ H s):X.env.locals<s.heap.objs.size:=let⟨_,hn,_⟩:=I.loc;hn.lt
theorem Inv.sz(I:Inv X aa σ H s):X.s₀.heap.objs.size<=s.heap.objs.size:=dH I.ok.above (dW I.lt)
theorem Inv.nofs(I:Inv X aa σ H s){a:ag}(h:s.heap.objs.size<=a):a∉X.fs:=λhb=>by
 obtain⟨_,o,ho,_⟩:=I.ok.funs.mem hb;exact absurd (jA (dJ ho) (dH I.sz h)) (u6 _)
theorem Inv.cne(I:Inv X aa σ H s):∀x c,X.env.cells.lookup x=some c->c≠X.env.locals:=λx c e z=>by
 obtain⟨v,o,ho,hd⟩:=I.cell x c e;obtain⟨m,⟨o',es,ep,ho',hd',_⟩,_⟩:=I.loc;rw[z,ho']at ho;cases ho;rw[hd']at hd;cases hd
theorem Inv.funs(I:Inv X aa σ H s):s.heap.FunFrames X.base X.outer:=by
 have all:∀(l:List lw),(∀b∈AU l,b∈X.fs)->X.s₀.heap.FunFrames X.base l->s.heap.FunFrames X.base l:=by
  intro l
  induction l with
  |nil=>intro _ _;trivial
  |cons env r ih=>
   intro hs hl;obtain⟨hk,⟨L,o,hf,hn,ho,hd⟩,hr⟩:=hl;have hL:L∈X.fs:=hs L (by unfold AU;rw[NC,hf];exact dZ);obtain⟨sl,e⟩:=I.base.slot L o ho (I.ok.frf L hL) hL λz=>I.ok.exfs L z hL;exact⟨hk,⟨L,_,hf,hn,e,hd⟩,ih (λb hb=>hs b (by unfold AU;rw[NC,hf];exact fB _ hb)) hr⟩
 exact all X.outer (λ_ hb=>hb) I.ok.funs
theorem Inv.stack(I:Inv X aa σ H s):s.heap.FunFrames X.base X.stack:=by
 rcases I.ok.stk with e|⟨e,hf⟩
 ·rw[e];exact I.funs
 ·rw[e];obtain⟨m,hn,_⟩:=I.loc;refine .cons (by rw[I.ok.kind];decide) hf hn ?_ I.funs;exact Heap.get?_none_of_le (dH I.ok.bsz I.ok.above)
theorem Inv.stkSub(I:Inv X aa σ H s):∀b∈AU X.stack,b∈X.env.locals::X.fs:=λb hb=>by
 rcases I.ok.stk with e|⟨e,hf⟩
 ·rw[e]at hb;exact fB _ hb
 ·rw[e]at hb;unfold AU at hb;rw[NC,hf]at hb;exact hb
theorem Inv.stkFree(I:Inv X aa σ H s):∀b∈AU X.stack,H b=none:=λb hb=>by
 rcases cZ.mp (I.stkSub b hb)with e|hb
 ·rw[e];exact I.free
 ·obtain⟨_,o,ho,_⟩:=I.ok.funs.mem hb;exact I.base.free b o ho (I.ok.frf b hb) λz=>I.ok.exfs b z hb
theorem Inv.step{ch:η}(I:Inv X aa σ H s)(hch:∀b∈ch,(b∈X.ex\/X.s₀.heap.objs.size<=b)/\b≠X.env.locals/\(∀x c,X.env.cells.lookup x=some c->c≠b)/\∀p∈X.pn++aa,p.1≠b)(keep:∀b o,b≠X.env.locals->b∉X.fs->b∉ch->s.heap.get? b=some o->H b=none->h'.get? b=some o)(slot:∀b o,b≠X.env.locals->b∈X.fs->b∉ch->s.heap.get? b=some o->H b=none->∃sl,h'.get? b=some {o with slots:=sl})(free:∀b o,b∉ch->s.heap.get? b=some o->H b=none->H' b=none)(there:∀b o,b∉ch->s.heap.get? b=some o->∃o',h'.get? b=some o')(tups:∀b xs,H b=some (.tup xs)->H' b=some (.tup xs))(frzs:∀b o u,H b=some (.frz o u)->H' b=some (.frz o u))(tbls:∀b ps,H b=some (.tbl ps)->∃more,H' b=some (.tbl (ps++more)))(ns:∀m,s.heap.Ns X.env.locals m->h'.Ns X.env.locals m)(hok:tx X.prog X.w H' h')(hg:fI g'):
  Inv X aa σ H' {s with heap:=h',gens:=g',drawn:=d',toks:=t'}:=by
 have neL:∀b o,X.s₀.heap.get? b=some o->b≠X.env.locals:=λb o e=>fu (jA (dJ e) I.ok.above);have neC:∀b o,X.s₀.heap.get? b=some o->b∉X.ex->b∉ch:=λb o e hx hb=>by
  rcases(hch b hb).1 with z|z
  ·exact hx z
  ·exact absurd (jA (dJ e) z) (u6 _)
 have cellK:∀x c,X.env.cells.lookup x=some c->∀v,s.heap.IsCell c v->h'.IsCell c v:=λx c e v ⟨o,ho,hd⟩=>by
  have nch:c∉ch:=λz=>(hch c z).2.2.1 x c e rfl;by_cases hc:c∈X.fs
  ·obtain⟨sl,q⟩:=slot c o (I.cne x c e) hc nch ho (I.freeC x c e);exact⟨_,q,hd⟩
  ·exact⟨o,keep c o (I.cne x c e) hc nch ho (I.freeC x c e),hd⟩
 refine⟨I.ok,I.os,hg,⟨λb o e n hb hx=>?_,λb o e n hb hx=>?_,λb o e n hx=>?_,λb o e hx=>?_,λb xs e=>tups b xs (I.base.tups b xs e),λb o xs e=>frzs b o xs (I.base.frzs b o xs e),λb ps e=>?_⟩,?_,λx c e=>?_,?_,λx c e=>?_,λp hp=>?_,hok,I.len⟩
 ·exact keep b o (neL b o e) hb (neC b o e hx) (I.base.keep b o e n hb hx) (I.base.free b o e n hx)
 ·obtain⟨sl,e1⟩:=I.base.slot b o e n hb hx;obtain⟨sl',e2⟩:=slot b _ (neL b o e) hb (neC b o e hx) e1 (I.base.free b o e n hx);exact⟨sl',e2⟩
 ·obtain⟨o',e1⟩:=I.base.there b o e hx;exact free b o' (neC b o e hx) e1 (I.base.free b o e n hx)
 ·obtain⟨o',e1⟩:=I.base.there b o e hx;exact there b o' (neC b o e hx) e1
 ·obtain⟨m1,e1⟩:=I.base.tbls b ps e;obtain⟨m2,e2⟩:=tbls b _ e1;exact⟨m1++m2,by rw[e2,Array.append_assoc]⟩
 ·obtain⟨m,hn,hl⟩:=I.loc;refine⟨m,ns m hn,λi x v e1 e2 e3=>?_⟩;obtain⟨u,r,l⟩:=hl i x v e1 e2 e3;refine⟨u,r,?_⟩;rcases l with l|⟨k,c,e,z⟩
  ·exact .inl l
  ·exact .inr ⟨k,c,e,cellK x c e _ z⟩
 ·obtain⟨v,z⟩:=I.cell x c e;exact⟨v,cellK x c e v z⟩
 ·obtain⟨m,⟨o,_,_,ho,_⟩,_⟩:=I.loc;exact free _ o (λz=>(hch _ z).2.1 rfl) ho I.free
 ·obtain⟨v,o,ho,hd⟩:=I.cell x c e;exact free c o (λz=>(hch c z).2.2.1 x c e rfl) ho (I.freeC x c e)
 ·obtain⟨e,n,ne,nf,d⟩:=I.pin p hp;have nch:p.1∉ch:=λz=>(hch p.1 z).2.2.2 p hp rfl;exact⟨keep p.1 p.2 ne nf nch e n,free p.1 p.2 nch e n,ne,nf,d⟩
theorem Inv.un(I:Inv X aa σ H s)(u:Un X.fs [] H H' s.heap h')(hok:tx X.prog X.w H' h'):Inv X aa σ H' {s with heap:=h',toks:=t'}:=by
 obtain⟨m,⟨o,es,ep,ho,r⟩,_⟩:=id I.loc;obtain⟨sl,hL⟩:=u.any ho I.free (by simp);exact I.step (g':=s.gens) (d':=s.drawn) (ch:=[]) (λ_ z=>nomatch z) (λb o _ hb _ e n=>u.keep b o e n hb (by simp)) (λb o _ hb _ e n=>u.slot b o e n hb (by simp)) (λb o _ e n=>u.free b o e n (by simp)) (λb o _ e=>u.there b o e (by simp)) u.tups u.frzs u.tbls (λm' hm=>by
  obtain⟨o',es',ep',ho',r'⟩:=hm;rw[ho]at ho';cases ho';exact⟨_,es',ep',hL,r'⟩) hok I.bare
theorem Inv.call(I:Inv X aa σ H s)(u:Un (AU X.stack) ch H H' s.heap h')(hok:tx X.prog X.w H' h')(hg:fI g')(hch:∀b∈ch,(b∈X.ex\/X.s₀.heap.objs.size<=b)/\b≠X.env.locals/\(∀x c,X.env.cells.lookup x=some c->c≠b)/\∀p∈X.pn++aa,p.1≠b):
  Inv X aa σ H' {s with heap:=h',gens:=g',drawn:=d',toks:=t'}:=by
 obtain⟨m,⟨o,es,ep,ho,r⟩,_⟩:=id I.loc;obtain⟨sl,hL⟩:=u.any ho I.free λz=>(hch _ z).2.1 rfl;exact I.step (ch:=ch) hch (λb o hL hb hc e n=>u.keep b o e n (λz=>(cZ.mp (I.stkSub b z)).elim hL hb) hc) (λb o _ _ hc e n=>u.any e n hc) (λb o hc e n=>u.free b o e n hc) (λb o hc e=>u.there b o e hc) u.tups u.frzs u.tbls (λm' hm=>by
  obtain⟨o',es',ep',ho',r'⟩:=hm;rw[ho]at ho';cases ho';exact⟨_,es',ep',hL,r'⟩) hok hg
theorem Inv.turned(I:Inv X aa σ H s)(k:∀b o,b≠it->s.heap.get? b=some o->h'.get? b=some o)(hn:H it=none)(hL:it≠X.env.locals)(h1:it∈X.ex\/X.s₀.heap.objs.size<=it)(h2:∀x c,X.env.cells.lookup x=some c->c≠it)(h3:∀p∈X.pn++aa,p.1≠it):Inv X aa σ H {s with heap:=h',toks:=t'}:=by
 have nit:∀b u,H b=some u->b≠it:=λb u e z=>by rw[z,hn]at e;cases e
 refine I.step (g':=s.gens) (d':=s.drawn) (ch:=[it]) (λb hb=>?_) (λb o _ _ hc e _=>k b o (λz=>hc (by simp[z])) e) (λb o _ _ hc e _=>⟨o.slots,k b o (λz=>hc (by simp[z])) e⟩) (λ_ _ _ _ n=>n)
  (λb o hc e=>⟨o,k b o (λz=>hc (by simp[z])) e⟩) (λ_ _ e=>e) (λ_ _ _ e=>e) (λb ps e=>⟨#[],by rw[e];simp⟩) (λm hm=>?_) (λb u e=>?_) I.bare
 ·have e:b=it:=by simpa using hb
  subst e;exact⟨h1,hL,h2,h3⟩
 ·obtain⟨o,es,ep,ho,r⟩:=hm;exact⟨o,es,ep,k _ o (oV hL) ho,r⟩
 ·refine(I.hok b u e).stay (λc v hc q=>k c v ?_ q) (λ_ q=>q) λ_ _ q=>q;rcases hc with z|z
  ·rw[z];exact nit b u e
  ·exact nit c _ z
theorem Inv.tok(I:Inv X aa σ H s)(t):Inv X aa σ H {s with toks:=t}:=I.un (h':=s.heap) (t':=t) Un.refl I.hok
theorem Inv.kept(I:Inv X aa σ H s)(k:∀b u,s.heap.get? b=some u->h'.get? b=some u):Inv X aa σ H {s with heap:=h',toks:=t'}:=I.un (Un.kept k) (I.hok.kept k)
theorem Inv.laid{a:ag}(I:Inv X aa σ H s)(k:∀b u,s.heap.get? b=some u->h'.get? b=some u)(hp:s.heap.objs.size<=a)(new:qr X.prog X.w (upd H a o) h' a o):
  Inv X aa σ (upd H a o) {s with heap:=h',toks:=t'}:=I.un (Un.laid k hp (I.hok.fresh hp)) (I.hok.laid k hp new)
theorem Inv.write(I:Inv X aa σ H s)(mu:Ix (H x))(he:e=x\/H e=some (.own x))(k:∀b u,b≠e->s.heap.get? b=some u->h'.get? b=some u)(heo:∃u,h'.get? e=some u)(new:qr X.prog X.w (upd H x o) h' x o):Inv X aa σ (upd H x o) {s with heap:=h',toks:=t'}:=I.un (Un.write mu he k heo) (I.hok.write mu he k heo new)
theorem Inv.pins_of(I:Inv X aa σ H s)(h:∀p∈pins',s.heap.get? p.1=some p.2/\H p.1=none/\p.1≠X.env.locals/\p.1∉X.fs/\∀v,p.2.data≠.cell v):Inv X pins' σ H s:=
 ⟨I.ok,I.os,I.bare,I.base,I.loc,I.cell,I.free,I.freeC,λp hp=>(oE.mp hp).elim (λz=>I.pin p (SN _ z)) (h p),I.hok,I.len⟩
theorem xE{N:List be}(hN:N.Nodup){i j:Nat}(a:N[i]? =some x)(b:N[j]? =some x):i=j:=by
 obtain⟨h1,e1⟩:=oG.mp a;obtain⟨h2,e2⟩:=oG.mp b;exact(List.getElem_inj hN).mp (e1.trans e2.symm)
theorem wq{M:Model}{A:bt}{E:S0}{i:Nat}{x:be}{v:V}{u:ρ}{Q:Unit->τ->Prop}(I:Inv X aa σ H s)(hN:X.N.Nodup)(hi:X.N[i]? =some x)(hx:Loc X.env.scope x)(r:RelV v u)(h:∀s',Inv X aa (σ.set i (some v)) H s'->(∃a,bc a s.heap s'.heap/\(a=X.env.locals\/X.env.cells.lookup x=some a))->Q () s')(hf:X.fn x=true\/X.env.scope.names.lookup x=some .local:=by first |exact .inl rfl|exact .inr rfl|assumption):ai M A (storeName X.env x u) Q E s:=by
 obtain⟨m,hn,hl⟩:=id I.loc;have hcls:(X.env.scope.kind==.class||(X.env.scope.kind==.module&&X.env.locals !=X.env.globals))=false:=by rw[I.ok.kind];rfl
 have hiσ:i<σ.length:=by rw[I.len];exact(oG.mp hi).1
 have cne:=I.cne;have tracked:∀{a:ag}{h':bn},(∃o,s.heap.get? a=some o/\H a=none)->bc a s.heap h'->tx X.prog X.w H h':=λ{a h'} ha hs b ob e=>by
  obtain⟨_,_,hfree⟩:=ha;refine(I.hok b ob e).stay (λc w' hc q=>(hs.2 c ?_).trans q) (λ_ q=>q) λ_ _ q=>q;rintro rfl;rcases hc with rfl|hc
  ·rw[hfree]at e;cases e
  ·rw[hfree]at hc;cases hc
 rcases hx with hk|hk
 ·refine wpAny_storeName_local hk hn (λh' hn' hs=>?_) hcls;obtain⟨oL,_,_,hoL,_⟩:=id hn;refine h _ ⟨I.ok,I.os,I.bare,⟨λb o e n hb hx=>?_,λb o e n hb hx=>?_,I.base.free,λb o e hx=>?_,I.base.tups,I.base.frzs,I.base.tbls⟩,⟨_,hn',λj y v' e1 e2 e3=>?_⟩,λy c e=>?_,I.free,I.freeC,λp hp=>?_,tracked ⟨oL,hoL,I.free⟩ hs,by simpa using I.len⟩ ⟨_,hs,.inl rfl⟩
  ·exact(hs.2 b (fu (jA (dJ e) I.ok.above))).trans (I.base.keep b o e n hb hx)
  ·obtain⟨sl,e1⟩:=I.base.slot b o e n hb hx;exact⟨sl,(hs.2 b (fu (jA (dJ e) I.ok.above))).trans e1⟩
  ·obtain⟨o',e1⟩:=I.base.there b o e hx;exact⟨o',(hs.2 b (fu (jA (dJ e) I.ok.above))).trans e1⟩
  ·by_cases hj:j=i
   ·subst hj;rw[hi]at e1;cases e1;rw[OW hiσ]at e2;cases e2;exact⟨u,r,.inl ⟨hk,by simp⟩⟩
   ·rw[List.getElem?_set_ne (oV hj)]at e2;obtain⟨u',r',q⟩:=hl j y v' e1 e2 e3;refine⟨u',r',?_⟩;rcases q with⟨k,e⟩|⟨k,c,e,z⟩
    ·refine .inl ⟨k,?_⟩;have:y≠x:=λe=>hj (xE hN e1 (e▸hi));simp[this,e]
    ·exact .inr ⟨k,c,e,z.sameBut hs (cne y c e)⟩
  ·obtain⟨w',z⟩:=I.cell y c e;exact⟨w',z.sameBut hs (cne y c e)⟩
  ·obtain⟨e,n,ne,nf,d⟩:=I.pin p hp;exact⟨(hs.2 p.1 ne).trans e,n,ne,nf,d⟩
 ·have hfn:X.fn x=true:=by
   rcases hf with z|z
   ·exact z
   ·rw[z]at hk;cases hk
  obtain⟨c,hc⟩:=I.ok.has x (.inl hk);obtain⟨w',z⟩:=I.cell x c hc;refine wpAny_storeName_cell I.ok.kind hk hc z (λh' hc' hs=>?_);obtain⟨oc,hoc,hocd⟩:=id z;refine h {s with heap:=h'} ⟨I.ok,I.os,I.bare,⟨λb o e n hb hx=>?_,λb o e n hb hx=>?_,I.base.free,λb o e hx=>?_,I.base.tups,I.base.frzs,I.base.tbls⟩,⟨m,hn.sameBut hs (oV (cne x c hc)),λj y v' e1 e2 e3=>?_⟩,λy c' e=>?_,I.free,I.freeC,λp hp=>?_,tracked ⟨oc,hoc,I.freeC x c hc⟩ hs,by simpa using I.len⟩ ⟨c,hs,.inr hc⟩
  ·exact(hs.2 b (fu (jA (dJ e) (I.ok.cab x c hfn hc)))).trans (I.base.keep b o e n hb hx)
  ·obtain⟨sl,e1⟩:=I.base.slot b o e n hb hx;exact⟨sl,(hs.2 b (fu (jA (dJ e) (I.ok.cab x c hfn hc)))).trans e1⟩
  ·obtain⟨o',e1⟩:=I.base.there b o e hx;exact⟨o',(hs.2 b (fu (jA (dJ e) (I.ok.cab x c hfn hc)))).trans e1⟩
  ·by_cases hj:j=i
   ·subst hj;rw[hi]at e1;cases e1;rw[OW hiσ]at e2;cases e2;exact⟨u,r,.inr ⟨.inl hk,c,hc,hc'⟩⟩
   ·rw[List.getElem?_set_ne (oV hj)]at e2;obtain⟨u',r',q⟩:=hl j y v' e1 e2 e3;refine⟨u',r',?_⟩;rcases q with q|⟨k,c',e,z'⟩
    ·exact .inl q
    ·refine .inr ⟨k,c',e,z'.sameBut hs ?_⟩;rintro rfl;exact hj (xE hN e1 (I.ok.inj _ _ _ e hc▸hi))
  ·by_cases hcc:c'=c
   ·subst hcc;exact⟨_,hc'⟩
   ·obtain⟨w2,z2⟩:=I.cell y c' e;exact⟨w2,z2.sameBut hs hcc⟩
  ·obtain⟨e,n,ne,nf,d⟩:=I.pin p hp;refine⟨(hs.2 p.1 ?_).trans e,n,ne,nf,d⟩;intro q;rw[q,hoc]at e;have q':oc=p.2:=uw e;exact d w' (by rw[<-q'];exact hocd)
theorem vn{M:Model}{A:bt}{E:S0}{i:Nat}{x:be}{v:V}{u:ρ}{Q:Unit->τ->Prop}(I:Inv X aa σ H s)(hN:X.N.Nodup)(hi:X.N[i]? =some x)(hx:Loc X.env.scope x)(r:RelV v u)(h:∀s',Inv X aa (σ.set i (some v)) H s'->Q () s')(hf:X.fn x=true\/X.env.scope.names.lookup x=some .local:=by first |exact .inl rfl|exact .inr rfl|assumption):ai M A (storeName X.env x u) Q E s:=
 wq I hN hi hx r (λs' I' _=>h s' I') hf
theorem Inv.call'(I:Inv X aa σ H s)(ho:s'.os=s.os)(u:Un (AU X.stack) ch H H' s.heap s'.heap)(hok:tx X.prog X.w H' s'.heap)(hg:fI s'.gens)(hch:∀b∈ch,(b∈X.ex\/X.s₀.heap.objs.size<=b)/\b≠X.env.locals/\(∀x c,X.env.cells.lookup x=some c->c≠b)/\∀p∈X.pn++aa,p.1≠b):Inv X aa σ H' s':=by
 obtain⟨h',g',d',t',o'⟩:=s';have e:o'=s.os:=ho;subst e;exact I.call (g':=g') (t':=t') (d':=d') u hok hg hch
end
noncomputable abbrev XK:=ρ->Option ag->Hp->Prop
noncomputable abbrev St:=List (Option V)
noncomputable abbrev VK:=V->Hp->Prop
noncomputable abbrev TE:=St->Hp->VK->Prop
noncomputable abbrev TT:=St->Hp->(Bool->Hp->Prop)->Prop
noncomputable abbrev TA:=St->Hp->(List V->Hp->Prop)->Prop
structure zt where
 nx:St->Hp->Prop
 rt:VK
 bk:St->Hp->Prop:=λ_ _=>False
 ct:St->Hp->Prop:=λ_ _=>False
noncomputable abbrev TS:=zt->St->Hp->Prop
noncomputable def EP(X:Cx)(aa:O0)(σ:St)(Q:VK)(u:ρ)(s':τ):Prop:=∃v H',Inv X aa σ H' s'/\RelV v u/\Q v H'
noncomputable def TP(X:Cx)(aa:O0)(σ:St)(Q:Bool->Hp->Prop)(b:Bool)(s':τ):Prop:=∃H',Inv X aa σ H' s'/\Q b H'
noncomputable def AP(X:Cx)(aa:O0)(σ:St)(Q:List V->Hp->Prop)(us:List ρ)(s':τ):Prop:=∃vs H',Inv X aa σ H' s'/\iN vs us/\Q vs H'
noncomputable def SP(X:Cx)(aa:O0)(D:zt)(f:Flow)(s':τ):Prop:=
 match f with
 | .next=>∃σ' H',Inv X aa σ' H' s'/\D.nx σ' H'
 | .brk=>∃σ' H',Inv X aa σ' H' s'/\D.bk σ' H'
 | .cont=>∃σ' H',Inv X aa σ' H' s'/\D.ct σ' H'
 | .ret u=>∃v σ' H',Inv X aa σ' H' s'/\RelV v u/\D.rt v H'
noncomputable def PE(X:Cx)(e:bp)(t:TE):Prop:=
 ∀(aa:O0) (s:τ) (σ:St) (H:Hp) (Q:VK),Inv X aa σ H s->t σ H Q->ai (ar X.prog X.w) X.A (bQ e X.env) (EP X aa σ Q) X.xe s
noncomputable def PT(X:Cx)(e:bp)(t:TT):Prop:=
 ∀(aa:O0) (s:τ) (σ:St) (H:Hp) (Q:Bool->Hp->Prop),Inv X aa σ H s->t σ H Q->ai (ar X.prog X.w) X.A (nV e X.env (bQ e X.env)) (TP X aa σ Q) X.xe s
noncomputable def PW(X:Cx)(e:bp)(t:TT):Prop:=
 ∀(whole:Sem ρ) (aa:O0) (s:τ) (σ:St) (H:Hp) (Q:Bool->Hp->Prop),Inv X aa σ H s->t σ H Q->ai (ar X.prog X.w) X.A (nV e X.env whole) (TP X aa σ Q) X.xe s
theorem PW.pt(h:PW X e t):PT X e t:=h _
noncomputable def PA(X:Cx)(es:List bp)(t:TA):Prop:=
 ∀(pos:eJ) (aa:O0) (s:τ) (σ:St) (H:Hp) (Q:List V->Hp->Prop),Inv X aa σ H s->t σ H Q->ai (ar X.prog X.w) X.A (spliced (dC pos (ax es X.env))) (AP X aa σ Q) X.xe s
noncomputable def PS(X:Cx)(st:fz)(t:TS):Prop:=
 ∀(aa:O0) (s:τ) (σ:St) (H:Hp) (D:zt),Inv X aa σ H s->t D σ H->ai (ar X.prog X.w) X.A (exec st X.env) (SP X aa D) X.xe s
noncomputable def xx(X:Cx)(st:List fz)(t:TS):Prop:=
 ∀(aa:O0) (s:τ) (σ:St) (H:Hp) (D:zt),Inv X aa σ H s->t D σ H->ai (ar X.prog X.w) X.A (execs st X.env) (SP X aa D) X.xe s
theorem pw{α:Type}{t:Sem α}{Q Q':α->τ->Prop}{E:S0}(h:ai M A t Q E s)(hQ:∀a s,Q a s->Q' a s):ai M A t Q' E s:=Jd h hQ λ_ _ x=>x
section
variable{X:Cx}
inductive GH(i:Nat)(σ:St)(H:Hp)(Q:VK):Prop
 |mk(v)(_:σ[i]? =some (some v))(_:Q v H)
noncomputable def tC(v:V):TE:=λ_ H Q=>Q v H
theorem DL{i:Nat}{x:be}{pos:eJ}(hN:X.N[i]? =some x)(hv:LH X.env.scope x)(hd:(x==("__debug__":be))=false:=by decide)(hcd:(x==("__classdict__":be))=false:=by decide):PE X (.Name x pos) (GH i):=by
 intro aa s σ H Q I h;obtain⟨v,e,h⟩:=h;obtain⟨m,hn,hl⟩:=I.loc;obtain⟨u,r,l⟩:=hl i x v hN e hv;have fin:EP X aa σ Q u s:=⟨v,H,I,r,h⟩;rcases l with⟨hk,hm⟩|⟨hk,c,hc,hcell⟩
 ·exact wpAny_Name (wpAny_loadName_local I.ok.kind hk hn hm fin) hd
 ·rcases hk with hk|hk
  ·exact wpAny_Name (wpAny_loadName_cell I.ok.kind hk hc hcell fin) hd
  ·exact wpAny_Name (wpAny_loadName_free I.ok.kind hk hc hcell fin hcd) hd
theorem aL{i j pos}:PE X (.Constant (.int i) j pos) (tC (.int i)):=λ_ _ _ H _ I h=>wpAny_Constant_int ⟨.int i,H,I.tok _,⟨_,rfl⟩,h⟩
theorem jl{b j pos}:PE X (.Constant (.bool b) j pos) (tC (.bl b)):=λ_ _ _ H _ I h=>Constant_bool ⟨.bl b,H,I,rfl,h⟩
theorem xf{j pos}:PE X (.Constant .none j pos) (tC .non):=λ_ _ _ H _ I h=>Constant_none ⟨.non,H,I,rfl,h⟩
noncomputable def Gl(X:Cx)(x:be):Prop:=X.env.kindOf x=some .globalImplicit
theorem vj{E:S0}{aa:O0}{s:τ}{σ:St}{H:Hp}{x:be}{u:ρ}{pos:eJ}{Q:S0}(I:Inv X aa σ H s)(hg:Gl X x)(hm:X.mg x=some u)(h:Q u s)(hd:(x==("__debug__":be))=false:=by decide):ai (ar X.prog X.w) X.A (bQ (.Name x pos) X.env) Q E s:=
 iP I.ok.kind hg (Calls.loadGlobal_global (by rw[I.ok.glob];exact I.mod.glob.keeps I.bk) hm h) hd
theorem Bv{E:S0}{aa:O0}{s:τ}{σ:St}{H:Hp}{x:be}{u:ρ}{pos:eJ}{Q:S0}(I:Inv X aa σ H s)(hg:Gl X x)(hm:X.mg x=none)(hv:br x=some u)(h:Q u s)(hn:x≠"__name__":=by decide)(hd:(x==("__debug__":be))=false:=by decide):ai (ar X.prog X.w) X.A (bQ (.Name x pos) X.env) Q E s:=by
 obtain⟨mb,h1,h2⟩:=I.mod.blt;exact iP I.ok.kind hg (Calls.loadGlobal_builtin (by rw[I.ok.glob];exact I.mod.glob.keeps I.bk) hm (by rw[I.ok.blt];exact h1.keeps I.bk) ((h2 x hn).trans hv) h) hd
theorem ue{x:be}{v:V}{u:ρ}{pos:eJ}(hg:Gl X x)(hm:X.mg x=some u)(r:RelV v u)(hd:(x==("__debug__":be))=false:=by decide):PE X (.Name x pos) (tC v):=
 λ_ _ _ H _ I h=>vj I hg hm ⟨v,H,I,r,h⟩ hd
theorem CB{x:be}{v:V}{u:ρ}{pos:eJ}(hg:Gl X x)(hm:X.mg x=none)(hv:br x=some u)(r:RelV v u)(hn:x≠"__name__":=by decide)(hd:(x==("__debug__":be))=false:=by decide):PE X (.Name x pos) (tC v):=
 λ_ _ _ H _ I h=>Bv I hg hm hv ⟨v,H,I,r,h⟩ hn hd
theorem pN{x:be}{pos:eJ}(T:String)(hm:X.mg x=none)(hv:br x=some (.type T):=by decide+kernel)(hg:Gl X x:=by rfl)(hn:x≠"__name__":=by decide)(hd:(x==("__debug__":be))=false:=by decide):PE X (.Name x pos) (tC (.ty T)):=CB hg hm hv rfl hn hd
variable{a b:bp}{ta tb:TE}{pos:eJ}
noncomputable def tB(t:TE):TT:=λσ H Q=>t σ H λx H1=>∃c,x=.bl c/\Q c H1
theorem iT{e:bp}{t:TE}(h:PE X e t)(he:∀whole,nV e X.env whole=(do let v<-whole;iS e.pos;eu [v] (truthy v)):=by intro _;rfl):PT X e (tB t):=by
 intro aa s σ H Q I hw;refine isTrue_plain (pw (h aa s σ H _ I hw) λv s1 ⟨x,H1,I1,r1,q1⟩=>?_) (he _);obtain⟨d,rfl,q⟩:=q1;cases r1;exact M4 ⟨H1,I1,q⟩
variable{tA tB':TT}{rest:List bp}
noncomputable def N2(t u:TT):TT:=λσ H Q=>t σ H λc H1=>if c=true then u σ H1 Q else Q false H1
noncomputable def QR(t u:TT):TT:=λσ H Q=>t σ H λc H1=>if c=true then Q true H1 else u σ H1 Q
noncomputable def NW(t:TT):TT:=λσ H Q=>t σ H λc H1=>Q (!c) H1
theorem xc(ha:PT X a tA):PW X (.BoolOp .And [a] pos) tA:=by
 intro wh aa s σ H Q I h;refine isTrue_and (pw (ha aa s σ H Q I h) λc s1 e=>?_);cases c with
 |true=>exact isTrue_and_nil e
 |false=>exact e
theorem uY(ha:PT X a tA):PW X (.BoolOp .Or [a] pos) tA:=by
 intro wh aa s σ H Q I h;refine isTrue_or (pw (ha aa s σ H Q I h) λc s1 e=>?_);cases c with
 |false=>exact isTrue_or_nil e
 |true=>exact e
theorem yy(ha:PT X a tA)(hb:PW X (.BoolOp .And (b::rest) pos) tB'):PW X (.BoolOp .And (a::b::rest) pos) (N2 tA tB'):=by
 intro wh aa s σ H Q I h;refine isTrue_and (pw (ha aa s σ H _ I h) λc s1 ⟨H1,I1,q1⟩=>?_);cases c with
 |true=>exact hb wh aa s1 σ H1 Q I1 q1
 |false=>exact⟨H1,I1,q1⟩
theorem rH(ha:PT X a tA)(hb:PW X (.BoolOp .Or (b::rest) pos) tB'):PW X (.BoolOp .Or (a::b::rest) pos) (QR tA tB'):=by
 intro wh aa s σ H Q I h;refine isTrue_or (pw (ha aa s σ H _ I h) λc s1 ⟨H1,I1,q1⟩=>?_);cases c with
 |true=>exact⟨H1,I1,q1⟩
 |false=>exact hb wh aa s1 σ H1 Q I1 q1
theorem jy(ha:PT X a tA):PT X (.UnaryOp .Not a pos) (NW tA):=by
 intro aa s σ H Q I h;exact isTrue_not (ha aa s σ H (λc H1=>Q (!c) H1) I h)
noncomputable def GU(ta tb:TE):TE:=λσ H Q=>ta σ H λx H1=>∃c,x=.bl c/\if c=true then tb σ H1 Q else Q (.bl false) H1
noncomputable def NV(ta tb:TE):TE:=λσ H Q=>ta σ H λx H1=>∃c,x=.bl c/\if c=true then Q (.bl true) H1 else tb σ H1 Q
noncomputable def GL(ta:TE):TE:=λσ H Q=>ta σ H λx H1=>∃c,x=.bl c/\Q (.bl (!c)) H1
theorem qE{op}(h:PE X a t):PE X (.BoolOp op [a] pos) t:=λaa s σ H Q I hw=>BoolOp_one (h aa s σ H Q I hw)
theorem Bw(ha:PE X a ta)(hb:PE X (.BoolOp .And (b::rest) pos) tb):PE X (.BoolOp .And (a::b::rest) pos) (GU ta tb):=by
 intro aa s σ H Q I h;refine BoolOp_and (pw (ha aa s σ H _ I h) λv s1 ⟨x,H1,I1,r1,q1⟩=>?_);obtain⟨c,rfl,q1⟩:=q1;cases r1;apply M4;cases c with
 |true=>exact hb aa s1 σ H1 Q I1 q1
 |false=>exact⟨.bl false,H1,I1,rfl,q1⟩
theorem HC(ha:PE X a ta)(hb:PE X (.BoolOp .Or (b::rest) pos) tb):PE X (.BoolOp .Or (a::b::rest) pos) (NV ta tb):=by
 intro aa s σ H Q I h;refine BoolOp_or (pw (ha aa s σ H _ I h) λv s1 ⟨x,H1,I1,r1,q1⟩=>?_);obtain⟨c,rfl,q1⟩:=q1;cases r1;apply M4;cases c with
 |false=>exact hb aa s1 σ H1 Q I1 q1
 |true=>exact⟨.bl true,H1,I1,rfl,q1⟩
theorem uv(ha:PE X a ta):PE X (.UnaryOp .Not a pos) (GL ta):=by
 intro aa s σ H Q I h;refine UnaryOp_ (pw (ha aa s σ H _ I h) λv s1 ⟨x,H1,I1,r1,q1⟩=>?_);obtain⟨c,rfl,q1⟩:=q1;cases r1;exact not_of (M4 ⟨.bl (!c),H1,I1,rfl,q1⟩)
noncomputable def QU(t:TT)(ta tb:TE):TE:=λσ H Q=>t σ H λc H1=>if c=true then ta σ H1 Q else tb σ H1 Q
theorem xA(hc:PT X c tA)(ha:PE X a ta)(hb:PE X b tb):PE X (.IfExp c a b pos) (QU tA ta tb):=by
 intro aa s σ H Q I h;refine wpAny_IfExp (pw (hc aa s σ H _ I h) λd s1 ⟨H1,I1,q1⟩=>?_);cases d with
 |true=>exact ha aa s1 σ H1 Q I1 q1
 |false=>exact hb aa s1 σ H1 Q I1 q1
end
noncomputable def ja(K:af)(H:Hp)(a:ag)(xs:List V):Prop:=
 Rd H a (.lst xs)\/
  ∃(o:ki) (ae:Array ρ) (n:Nat),K.lookup a=some o/\o.cls=.type "list"/\o.dict=none/\o.data=.seq ae n/\ae.size<=sizeLine/\iN xs ae.toList
noncomputable def SqT(K:af)(H:Hp)(a:ag)(xs:List V):Prop:=
 Rd H a (.tup xs)\/
  ∃(o:ki) (ae:Array ρ) (n:Nat),K.lookup a=some o/\o.cls=.type "tuple"/\o.data=.seq ae n/\ae.size<=sizeLine/\iN xs ae.toList
noncomputable def OH:ρ->Option V
 | .none=>some .non
 | .bool b=>some (.bl b)
 | .int i _=>some (.int i)
 | .str x _=>some (.str x)
 | .bytes b _=>some (.byt b)
 | .float b _=>some (.flt b)
 | .ref a=>some (.ref a)
 | .type n=>some (.ty n)
 |_=>none
theorem RelV.abs(r:RelV x u):OH u=some x:=by
 cases x with
 |non=>cases r;rfl
 |bl _=>cases r;rfl
 |int _=>obtain⟨t,rfl⟩:=r;rfl
 |str _=>obtain⟨t,rfl⟩:=r;rfl
 |byt _=>obtain⟨t,rfl⟩:=r;rfl
 |flt _=>obtain⟨t,rfl⟩:=r;rfl
 |ref _=>cases r;rfl
 |ty _=>cases r;rfl
theorem RelV.inj(r:RelV x u)(q:RelV y u):x=y:=uw (r.abs.symm.trans q.abs)
theorem iN.inj(h:iN xs us)(h':iN ys us):xs=ys:=by
 induction h generalizing ys with
 |nil=>cases h';rfl
 |cons r _ ih=>cases h' with |cons r' t'=>rw[r.inj r',ih t']
section
variable{X:Cx}{aa:O0}{σ:St}{H:Hp}{s:τ}{a:ag}{xs ys:List V}
theorem ja.of{K:af}(h:H a=some (.lst xs)):ja K H a xs:=.inl (.inl h)
theorem SqT.of{K:af}(h:H a=some (.tup xs)):SqT K H a xs:=.inl (.inl h)
theorem Inv.list(I:Inv X aa σ H s)(h:ja X.K H a xs):∃ae:List ρ,iN xs ae/\PlainL s.heap a ae.toArray/\xs.length<=sizeLine:=by
 rcases h with h|⟨o,ae,n,hk,hc,hd,hs,hz,r⟩
 ·obtain⟨z,ae,n,r,e⟩:=h.ok I.hok;exact⟨ae,r,⟨_,n,e,rfl,rfl,rfl⟩,z⟩
 ·refine⟨ae.toList,r,⟨o,n,I.kIn a o hk,hc,hd,by simpa using hs⟩,?_⟩;have e:=r.length;simp only[Fg]at e;omega
theorem Inv.tuple(I:Inv X aa σ H s)(h:SqT X.K H a xs):∃ae:List ρ,iN xs ae/\kD s.heap a ae.toArray/\xs.length<=sizeLine:=by
 rcases h with h|⟨o,ae,n,hk,hc,hs,hz,r⟩
 ·obtain⟨z,ae,r,p⟩:=h.ok I.hok;exact⟨ae,r,p,z⟩
 ·refine⟨ae.toList,r,⟨o,I.kIn a o hk,hc,n,by simpa using hs⟩,?_⟩;have e:=r.length;simp only[Fg]at e;omega
theorem Inv.list_inj(I:Inv X aa σ H s)(h:ja X.K H a xs)(h':ja X.K H a ys):xs=ys:=by
 obtain⟨ae,r,⟨o,n,e,_,_,d⟩,_⟩:=I.list h;obtain⟨its',r',⟨o',n',e',_,_,d'⟩,_⟩:=I.list h';rw[e]at e';cases e';rw[d]at d';injection d' with d1 _
 have:ae=its':=by simpa using jQ Array.toList d1
 subst this;exact r.inj r'
theorem Inv.tuple_inj(I:Inv X aa σ H s)(h:SqT X.K H a xs)(h':SqT X.K H a ys):xs=ys:=by
 obtain⟨ae,r,⟨o,e,_,n,d⟩,_⟩:=I.tuple h;obtain⟨its',r',⟨o',e',_,n',d'⟩,_⟩:=I.tuple h';rw[e]at e';cases e';rw[d]at d';injection d' with d1 _
 have:ae=its':=by simpa using jQ Array.toList d1
 subst this;exact r.inj r'
end
noncomputable abbrev Cx.wish(X:Cx)(E:S0):Cx:={X with xe:=E}
noncomputable abbrev Cx.nox(X:Cx):Cx:=X.wish λ_ _=>False
theorem Cx.Ok.wish{X:Cx}(ok:X.Ok)(E:S0):(X.wish E).Ok:=
 ⟨ok.mod,ok.kind,ok.glob,ok.blt,ok.above,ok.inj,ok.has,ok.cab,ok.hd,ok.frames,ok.stk,ok.exf,ok.bs,ok.bsz,ok.noex,ok.exfs,ok.funs,ok.frf⟩
theorem Cx.Ok.unwish{X:Cx}{E:S0}(ok:(X.wish E).Ok):X.Ok:=
 ⟨ok.mod,ok.kind,ok.glob,ok.blt,ok.above,ok.inj,ok.has,ok.cab,ok.hd,ok.frames,ok.stk,ok.exf,ok.bs,ok.bsz,ok.noex,ok.exfs,ok.funs,ok.frf⟩
section
variable{X:Cx}{aa:O0}{σ:St}{H:Hp}{s:τ}{E:S0}
theorem Inv.wish(I:Inv X aa σ H s)(E:S0):Inv (X.wish E) aa σ H s:=⟨I.ok.wish E,I.os,I.bare,I.base,I.loc,I.cell,I.free,I.freeC,I.pin,I.hok,I.len⟩
theorem Inv.unwish(I:Inv (X.wish E) aa σ H s):Inv X aa σ H s:=⟨I.ok.unwish,I.os,I.bare,I.base,I.loc,I.cell,I.free,I.freeC,I.pin,I.hok,I.len⟩
theorem SP.unwish(h:SP (X.wish E) aa D f s'):SP X aa D f s':=by
 cases f with
 |next=>obtain⟨σ',H',I,q⟩:=h;exact⟨σ',H',I.unwish,q⟩
 |brk=>obtain⟨σ',H',I,q⟩:=h;exact⟨σ',H',I.unwish,q⟩
 |cont=>obtain⟨σ',H',I,q⟩:=h;exact⟨σ',H',I.unwish,q⟩
 |ret u=>obtain⟨v,σ',H',I,r,q⟩:=h;exact⟨v,σ',H',I.unwish,r,q⟩
theorem xx.nox{st:List fz}(h:xx X.nox st t):xx X st t:=λaa s σ H D I hw=>
 Jd (h aa s σ H D (I.wish _) hw) (λ_ _ q=>q.unwish) λ_ _ z=>bS z
end
section
variable{X:Cx}{st:fz}{rest:List fz}{t u:TS}{e:bp}{te:TE}{pos:eJ}
noncomputable def GM:TS:=λD σ H=>D.nx σ H
noncomputable def kg(t u:TS):TS:=λD σ H=>t {D with nx:=u D} σ H
theorem iM:xx X [] GM:=λ_ _ σ H _ I h=>Kn ⟨σ,H,I,h⟩
theorem aN(h1:PS X st t)(h2:xx X rest u):xx X (st::rest) (kg t u):=by
 intro aa s σ H D I h;refine wpAny_execs_cons (pw (h1 aa s σ H {D with nx:=u D} I h) λf s1 q=>?_);cases f with
 |next=>
  obtain⟨σ',H',I',q⟩:=q;exact h2 aa s1 σ' H' D I' q
 |ret v=>exact q
 |brk=>exact q
 |cont=>exact q
theorem aY(h1:PS X st t):xx X [st] t:=by
 intro aa s σ H D I h;refine wpAny_execs_cons (pw (h1 aa s σ H D I h) λf s1 q=>?_);cases f with
 |next=>exact Kn q
 |ret v=>exact q
 |brk=>exact q
 |cont=>exact q
theorem Inv.quiet{σ:St}(I:Inv X aa σ H s):interactive X.env=false:=by simp[interactive,I.ok.kind]
noncomputable def GP(te:TE):TS:=λD σ H=>te σ H λ_ H1=>D.nx σ H1
theorem oR(he:PE X e te)(hs:gt e none pos.line X.env=pure false:=by rfl):PS X (.Expr e pos) (GP te):=by
 intro aa s σ H D I h;exact wpAny_Expr_any (pw (he aa s σ H _ I h) λv s1 ⟨x,H1,I1,r1,q1⟩=>⟨σ,H1,I1,q1⟩) I.quiet hs
noncomputable def NU(te:TE):TS:=λD σ H=>te σ H D.rt
theorem bK(he:PE X e te):PS X (.Return (some e) pos) (NU te):=by
 intro aa s σ H D I h;exact wpAny_Return_some (pw (he aa s σ H _ I h) λv s1 ⟨x,H1,I1,r1,q1⟩=>⟨x,σ,H1,I1,r1,q1⟩)
noncomputable def NY(c:TT)(t u:TS):TS:=λD σ H=>c σ H λb H1=>if b=true then t D σ H1 else u D σ H1
theorem iK(hc:PT X c tc)(ha:xx X a t)(hb:xx X b u):PS X (.If c a b pos) (NY tc t u):=by
 intro aa s σ H D I h;refine wpAny_If (pw (hc aa s σ H _ I h) λd s1 ⟨H1,I1,q1⟩=>?_);cases d with
 |true=>exact ha aa s1 σ H1 D I1 q1
 |false=>exact hb aa s1 σ H1 D I1 q1
noncomputable def DB:TS:=λ_ _ _=>False
theorem Sd:xx X sts DB:=λ_ _ _ _ _ _ h=>h.elim
end
noncomputable abbrev TG:=V->St->Hp->(St->Hp->Prop)->Prop
noncomputable abbrev Da:=List V->St->Hp->(St->Hp->Prop)->Prop
noncomputable def PG(X:Cx)(target:bp)(t:TG):Prop:=
 ∀(aa:O0) (s:τ) (σ:St) (H:Hp) (v:V) (u:ρ) (Q:St->Hp->Prop),Inv X aa σ H s->RelV v u->t v σ H Q->
  ai (ar X.prog X.w) X.A (jI target X.env u) (λ_ s'=>∃σ' H',Inv X aa σ' H' s'/\Q σ' H') X.xe s
noncomputable def Ic(X:Cx)(ts:List bp)(t:Da):Prop:=
 ∀(aa:O0) (s:τ) (σ:St) (H:Hp) (vs:List V) (us:List ρ) (Q:St->Hp->Prop),Inv X aa σ H s->iN vs us->t vs σ H Q->
  ai (ar X.prog X.w) X.A (assignInOrder ((fb ts X.env).map (·.2)) us) (λ_ s'=>∃σ' H',Inv X aa σ' H' s'/\Q σ' H') X.xe s
noncomputable abbrev EE:=V->V->V->Hp->(Hp->Prop)->Prop
noncomputable def HZ(X:Cx)(t:EE):Prop:=
 ∀(aa:O0) (s:τ) (σ:St) (H:Hp) (o i v:V) (ov iv u:ρ) (Q:Hp->Prop),Inv X aa σ H s->RelV o ov->RelV i iv->RelV v u->t o i v H Q->
  ai (ar X.prog X.w) X.A (setItem ov iv u) (λ_ s'=>∃H',Inv X aa σ H' s'/\Q H') X.xe s
noncomputable abbrev LI:=V->V->Hp->VK->Prop
noncomputable def QI(X:Cx)(op:Operator)(t:LI):Prop:=
 ∀(aa:O0) (s:τ) (σ:St) (H:Hp) (x y:V) (v u:ρ) (Q:VK),Inv X aa σ H s->RelV x v->RelV y u->t x y H Q->
  ai (ar X.prog X.w) X.A (inplaceOp op v u) (EP X aa σ Q) X.xe s
section
variable{X:Cx}{pos:eJ}
noncomputable def sL(i:Nat):TG:=λv σ H Q=>Q (σ.set i (some v)) H
theorem Ct{i:Nat}{x:be}(hN:X.N.Nodup)(hi:X.N[i]? =some x)(hx:Loc X.env.scope x)(hf:X.fn x=true\/X.env.scope.names.lookup x=some .local:=by first |exact .inl rfl|exact .inr rfl|assumption):PG X (.Name x pos) (sL i):=by
 intro aa s σ H v u Q I r h;exact wpAny_assign_Name (vn I hN hi hx r (λs' I'=>⟨_,H,I',h⟩) hf)
theorem pG{X:Cx}{x:be}{pos:eJ}(i:Nat)(hN:decide X.N.Nodup=true:=by kernel_rfl)(hi:X.N[i]? =some x:=by rfl)(hx:Loc X.env.scope x:=by first |exact ii rfl|exact kc rfl)(hf:X.fn x=true\/X.env.scope.names.lookup x=some .local:=by first |exact .inl rfl|exact .inr rfl|assumption):PG X (.Name x pos) (sL i):=Ct (lA hN) hi hx hf
noncomputable def OC:Da:=λvs σ H Q=>vs=[]/\Q σ H
noncomputable def HP(t:TG)(u:Da):Da:=λvs σ H Q=>∃v r,vs=v::r/\t v σ H λσ' H'=>u r σ' H' Q
theorem yO:Ic X [] OC:=by
 intro aa s σ H vs us Q I r h;obtain⟨e,h⟩:=h;subst e;cases r;exact assignInOrder_nil ⟨σ,H,I,h⟩
theorem jz{e:bp}{es:List bp}{t:TG}{u:Da}(h1:PG X e t)(h2:Ic X es u)(hs:(fb (e::es) X.env).map (·.2)=jI e X.env::(fb es X.env).map (·.2):=by rfl):Ic X (e::es) (HP t u):=by
 intro aa s σ H vs us Q I r h;obtain⟨v,vr,e1,h⟩:=h;subst e1;cases r with
 |cons r rr=>
  rw[hs];refine assignInOrder_cons (pw (h1 aa s σ H _ _ _ I r h) λ_ s1 ⟨σ1,H1,I1,q1⟩=>?_);exact h2 aa s1 σ1 H1 _ _ Q I1 rr q1
inductive HM(K:af)(n:Nat)(t:Da)(v:V)(σ:St)(H:Hp)(Q:St->Hp->Prop):Prop
 |mk(a xs)(_:v=.ref a)(_:SqT K H a xs)(_:xs.length=n)(_:t xs σ H Q)
theorem tS{es:List bp}{k:Nat}{t:Da}{n:Nat}(hc:X.calm=true)(h:Ic X es t)(hn:(fb es X.env).length=n:=by rfl)(hst:(fb es X.env).findIdx? (·.1)=none:=by rfl):PG X (.Tuple es k pos) (HM X.K n t):=by
 intro aa s σ H v u Q I r hw;obtain⟨a,xs,e1,hq,hl,hw⟩:=hw;subst e1;cases r;obtain⟨ae,rv,ht,hz⟩:=I.tuple hq;refine assign_Tuple_tuple (I.ok.hd hc) ht (by simp[hn,<-hl,rv.length]) hst λh' hx=>?_;have I1:Inv X aa σ H {s with heap:=h'}:=I.kept (t':=s.toks) λb o e=>hx b o (fu (dJ e)) e;exact h aa _ σ H xs _ Q I1 (by simpa using rv) hw
noncomputable def OB(to ti:TE)(t:EE):TG:=λv σ H Q=>to σ H λo H1=>ti σ H1 λi H2=>t o i v H2 λH3=>Q σ H3
theorem uu{o i:bp}{to ti:TE}{t:EE}(ho:PE X o to)(hi:PE X i ti)(hs:HZ X t)(ha:∀v,jI (.Subscript o i pos) X.env v=(do
   let ov<-eu [v] (bQ o X.env);let iv<-eu [v,ov] (bQ i X.env)
   iS pos
   eu [v,ov,iv] (setItem ov iv v)
   release [v,ov,iv] []):=by intro _;rfl):PG X (.Subscript o i pos) (OB to ti t):=by
 intro aa s σ H v u Q I r h;rw[ha];refine ao (yX (pw (ho aa s σ H _ I h) λov s1 ⟨x,H1,I1,r1,q1⟩=>?_));refine ao (yX (pw (hi aa s1 σ H1 _ I1 q1) λiv s2 ⟨y,H2,I2,r2,q2⟩=>?_));refine ao (JP (ao (yX (pw (hs aa s2 σ H2 x y v ov iv u _ I2 r1 r2 r q2) λ_ s3 ⟨H3,I3,q3⟩=>?_))));exact wpAny_release ⟨σ,H3,I3,q3⟩
noncomputable def Bi(te:TE)(g:TG):TS:=λD σ H=>te σ H λx H1=>g x σ H1 D.nx
theorem sw{tg e:bp}{te:TE}{g:TG}(he:PE X e te)(hg:PG X tg g)(hs:swapsWithSole [tg] e pos.line X.env=pure false:=by rfl)(hw:swappedStores [tg] e X.env=pure none:=by rfl)(h1:(fb [tg] X.env).map (·.2)=[jI tg X.env]:=by rfl):PS X (.Assign [tg] e pos) (Bi te g):=by
 intro aa s σ H D I h;refine wpAny_Assign_stores (pw (he aa s σ H _ I h) λv s1 ⟨x,H1,I1,r1,q1⟩=>?_) hs hw;rw[h1];exact pw (hg aa s1 σ H1 x v _ I1 r1 q1) λ_ s2 q=>q
theorem DI{i:Nat}{x:be}{e:bp}{te:TE}{pos':eJ}(hN:X.N.Nodup)(hi:X.N[i]? =some x)(hx:Loc X.env.scope x)(he:PE X e te)(hs:gt e (some (.Name x pos')) pos.line X.env=pure false:=by rfl)(hf:X.fn x=true\/X.env.scope.names.lookup x=some .local:=by first |exact .inl rfl|exact .inr rfl|assumption):
  PS X (.Assign [.Name x pos'] e pos) (Bi te (sL i)):=by
 intro aa s σ H D I h;refine wpAny_Assign_Name (pw (he aa s σ H _ I h) λv s1 ⟨y,H1,I1,r1,q1⟩=>?_) hs;exact vn I1 hN hi hx r1 (λs2 I2=>⟨_,H1,I2,q1⟩) hf
theorem pS{X:Cx}{x:be}{e:bp}{te:TE}{pos pos':eJ}(i:Nat)(he:PE X e te)(hN:decide X.N.Nodup=true:=by kernel_rfl)(hi:X.N[i]? =some x:=by rfl)(hx:Loc X.env.scope x:=by first |exact ii rfl|exact kc rfl)(hs:gt e (some (.Name x pos')) pos.line X.env=pure false:=by rfl)(hf:X.fn x=true\/X.env.scope.names.lookup x=some .local:=by first |exact .inl rfl|exact .inr rfl|assumption):PS X (.Assign [.Name x pos'] e pos) (Bi te (sL i)):=DI (lA hN) hi hx he hs hf
noncomputable def N1(i:Nat)(te:TE)(ti:LI):TS:=λD σ H=>∃x,σ[i]? =some (some x)/\te σ H λy H1=>ti x y H1 λz H2=>D.nx (σ.set i (some z)) H2
theorem DJ{i:Nat}{x:be}{e:bp}{te:TE}{op:Operator}{ti:LI}{pos':eJ}(hN:X.N.Nodup)(hi:X.N[i]? =some x)(hx:Loc X.env.scope x)(he:PE X e te)(ho:QI X op ti)(hf:X.fn x=true\/X.env.scope.names.lookup x=some .local:=by first |exact .inl rfl|exact .inr rfl|assumption):
  PS X (.AugAssign (.Name x pos') op e pos) (N1 i te ti):=by
 intro aa s σ H D I h;obtain⟨v,e1,h⟩:=h;obtain⟨m,hn,hl⟩:=I.loc;have vis:LH X.env.scope x:=by rcases hx with k|k;exact .inl k;exact .inr (.inl k)
 obtain⟨u,r,l⟩:=hl i x v hi e1 vis;apply wpAny_AugAssign_Name;have go:ai (ar X.prog X.w) X.A (bQ e X.env) (λw s₂=>ai (ar X.prog X.w) X.A (inplaceOp op u w) (λr s₃=>ai (ar X.prog X.w) X.A (storeName X.env x r) (λ_=>SP X aa D .next) X.xe s₃) X.xe s₂) X.xe s:=by
  refine pw (he aa s σ H _ I h) λw s1 ⟨y,H1,I1,r1,q1⟩=>?_;refine pw (ho aa s1 σ H1 v y u w _ I1 r r1 q1) λz s2 ⟨zv,H2,I2,r2,q2⟩=>?_;exact vn I2 hN hi hx r2 (λs3 I3=>⟨_,H2,I3,q2⟩) hf
 rcases l with⟨hk,hm⟩|⟨hk,c,hc,hcell⟩
 ·exact wpAny_loadName_local I.ok.kind hk hn hm go
 ·rcases hk with hk|hk
  ·exact wpAny_loadName_cell I.ok.kind hk hc hcell go
  ·rcases hx with k|k
   ·have:X.env.scope.names.lookup x=some .free:=hk;rw[k]at this;cases this
   ·have:X.env.scope.names.lookup x=some .free:=hk;rw[k]at this;cases this
noncomputable def Rc(f:Int->Int->Int):LI:=λx y H Q=>∃i j,x=.int i/\y=.int j/\Q (.int (f i j)) H
theorem Eg:QI X .Add (Rc λi j=>i+j):=by
 intro aa s σ H x y v u Q I r1 r2 h;obtain⟨i,j,e1,e2,q⟩:=h;subst e1;subst e2;obtain⟨t,rfl⟩:=r1;obtain⟨t',rfl⟩:=r2;exact iadd_int ⟨.int _,H,I.tok _,⟨_,rfl⟩,q⟩
noncomputable def Dx(c:TT)(tb:TS):TS:=λD σ H=>∃W:Nat->St->Hp->Prop,(∃m,W m σ H)/\∀m σ H,W m σ H->
 c σ H λb H1=>if b=true then∃N:St->Hp->Prop,(∀σ' H',N σ' H'->∃m',m'<m/\W m' σ' H')/\tb {D with nx:=N,ct:=N,bk:=D.nx} σ H1 else D.nx σ H1
theorem vw(hp:PassesOwn (ar X.prog X.w) X.A X.env X.xe)(hc:PT X c tc)(hb:xx X body tb):PS X (.While c body [] pos) (Dx tc tb):=by
 intro aa s σ H D I h;obtain⟨W,⟨m0,w0⟩,turn⟩:=h;refine wpAny_While (codeAny_whileLoop (λn s'=>∃σ' H',Inv X aa σ' H' s'/\W n σ' H') ?_ m0 ⟨σ,H,I,w0⟩);rintro n s1 ⟨σ1,H1,I1,w1⟩;refine Xy hp (pw (hc aa s1 σ1 H1 _ I1 (turn n σ1 H1 w1)) λb s2 ⟨H2,I2,q2⟩=>?_);cases b with
 |true=>
  obtain⟨N,hN,q2⟩:=q2;rw[au rfl];refine Xy hp (pw (hb aa s2 σ1 H2 _ I2 q2) λf s3 q3=>?_);cases f with
  |next=>
   obtain⟨σ3,H3,I3,n3⟩:=q3;obtain⟨m',hm,w3⟩:=hN σ3 H3 n3;exact⟨m',hm,σ3,H3,I3,w3⟩
  |cont=>
   obtain⟨σ3,H3,I3,n3⟩:=q3;obtain⟨m',hm,w3⟩:=hN σ3 H3 n3;exact⟨m',hm,σ3,H3,I3,w3⟩
  |brk=>exact q3
  |ret v=>exact q3
 |false=>
  rw[aq ux];exact Kn ⟨σ1,H2,I2,q2⟩
end
structure It where
 go:Nat->Hp->Prop
 yld:Nat->Hp->V->Hp->Prop
 stop:Nat->Hp->Prop
noncomputable def vc(X:Cx)(aa:O0)(H:Hp)(b:ag):Prop:=
 H b=none/\b≠X.env.locals/\b∉X.fs/\(b∈X.ex\/X.s₀.heap.objs.size<=b)/\(∀x c,X.env.cells.lookup x=some c->c≠b)/\∀p∈X.pn++aa,p.1≠b
theorem Inv.fpOk{σ:St}{b:ag}(I:Inv X aa σ H s)(hb:s.heap.objs.size<=b)(hn:H' b=none):vc X aa H' b:=by
 refine⟨hn,xg (jA I.lt hb),I.nofs hb,.inr (dH I.sz hb),λx c e z=>?_,λp hp z=>?_⟩
 ·obtain⟨v,q⟩:=I.cell x c e;exact absurd (jA q.lt (by rw[z];exact hb)) (u6 _)
 ·exact absurd (jA (dJ (I.pin p hp).1) (by rw[z];exact hb)) (u6 _)
structure xw(P:υ)(w:ψ)(K:af)(tg:bp)(J:It)(fp:η)(it:ag)(tn:Nat->bn->Prop):Prop where
 mem:it∈fp
 obj:∀i h,tn i h->∀b∈fp,∃o,h.get? b=some o/\∀v,o.data≠.cell v
 keep:∀i h h',tn i h->(∀b∈fp,∀o,h.get? b=some o->h'.get? b=some o)->tn i h'
 item:∀(X:Cx),X.prog=P->X.w=w->X.K=K->X.calm=true->∀(i:Nat) (aa:O0) (s:τ) (σ:St) (H:Hp) (E:S0),Inv X aa σ H s->(∀b∈fp,vc X aa H b)->tn i s.heap->J.go i H->
  ai (ar P w) X.A (fc (.ref it)) (λr s1=>∃u,r=some u/\
   ai (ar P w) X.A (km tg (.ref it) u) (λ_ s2=>∃x H',Inv X aa σ H' s2/\RelV x u/\J.yld i H x H'/\tn (i+1) s2.heap/\∀b∈fp,H' b=none) E s1) E s
 done:∀(X:Cx),X.prog=P->X.w=w->X.K=K->X.calm=true->∀(i:Nat) (aa:O0) (s:τ) (σ:St) (H:Hp) (E:S0),Inv X aa σ H s->(∀b∈fp,vc X aa H b)->tn i s.heap->J.stop i H->
  ai (ar P w) X.A (fc (.ref it)) (λr s1=>r=none/\Inv X aa σ H s1) E s
 self:∀(A:bt) (i:Nat) (s:τ) (Q:S0) (E:S0),tn i s.heap->Q (.ref it) s->ai (ar P w) A (nX (.ref it)) Q E s
noncomputable abbrev TI:=St->Hp->(It->Hp->Prop)->Prop
noncomputable def QN(X:Cx)(aa:O0)(σ:St)(tg:bp)(R:It->Hp->Prop)(itv:ρ)(s2:τ):Prop:=
 ∃(it:ag) (fp:η) (tn:Nat->bn->Prop) (J:It) (H':Hp),itv=.ref it/\Inv X aa σ H' s2/\xw X.prog X.w X.K tg J fp it tn/\tn 0 s2.heap/\(∀b∈fp,vc X aa H' b)/\R J H'
noncomputable def PI(X:Cx)(tg iter:bp)(wi:TI):Prop:=
 ∀(aa:O0) (s:τ) (σ:St) (H:Hp) (R:It->Hp->Prop),Inv X aa σ H s->wi σ H R->
  ai (ar X.prog X.w) X.A (bQ iter X.env) (λv s1=>ai (ar X.prog X.w) X.A (nX v) (QN X aa σ tg R) X.xe s1) X.xe s
theorem BU{E:S0}{Q:Unit->τ->Prop}(ho:s.heap.get? it=some o)(hc:o.cls=.type n)(hd:o.data=.fields vs)(hn:["enumerate","zip","dict_itemiterator","dict_reverseitemiterator","odict_iterator","itertools.zip_longest","itertools.pairwise"].contains n=false)(hQ:Q () s):ai M A (km tg (.ref it) u) Q E s:=by
 unfold km;cases tg<;>first
  |exact aM hQ
  |(cases u<;>first
    |exact aM hQ
    |(refine ao (wpAny_load ho ?_)
      rw[hc,hd];show ai M A (if(["enumerate","zip","dict_itemiterator","dict_reverseitemiterator","odict_iterator","itertools.zip_longest","itertools.pairwise"].contains n&&vs[0]? ==some (cK _))=true then _ else _) Q E s;rw[aq (by intro h;rw[hn,ME]at h;cases h)];exact aM hQ))
noncomputable def E9(K:af)(a:ag):It:=
 ⟨λi H=>∃xs x,ja K H a xs/\xs[i]? =some x,λi H x H'=>H'=H/\∀xs,ja K H a xs->xs[i]? =some x,λi H=>∃xs,ja K H a xs/\xs.length<=i⟩
noncomputable def E8(K:af)(a:ag):It:=
 ⟨λi H=>∃xs x,SqT K H a xs/\xs[i]? =some x,λi H x H'=>H'=H/\∀xs,SqT K H a xs->xs[i]? =some x,λi H=>∃xs,SqT K H a xs/\xs.length<=i⟩
noncomputable def Db(lo:Int)(n:Nat):It:=⟨λi _=>i<n,λi H x H'=>H'=H/\x=.int (lo+i),λi _=>n<=i⟩
theorem AE{P:υ}{w:ψ}{K:af}{tg:bp}(a it:ag):xw P w K tg (E9 K a) [it] it (λi h=>h.IsListIter it a i) where
 mem:=by simp
 obj:=λi h st b hb=>by
  have e:b=it:=by simpa using hb
  subst e;obtain⟨o,e,c,d⟩:=st;exact⟨o,e,λv z=>by rw[d]at z;cases z⟩
 keep:=λi h h' st k=>st.at λo e=>k it (by simp) o e
 item:=by
  intro X hP hw hK hc i aa s σ H E I hf st hg;subst hP hw hK;obtain⟨xs,x,hq,hx⟩:=hg;obtain⟨ae,rv,p,hz⟩:=I.list hq;obtain⟨u,hu,ru⟩:=rv.get hx;obtain⟨f0,f1,f2,f3,f4,f5⟩:=hf it (by simp);refine wpAny_pyNext_list_item st p.isList (x:=u) (by simpa using hu) λh' st' sb=>?_;have I1:Inv X aa σ H {s with heap:=h'}:=I.turned (t':=s.toks) (λb o hb e=>(sb.2 b hb).trans e) f0 f1 f3 f4 f5;obtain⟨o,e,c,d⟩:=id st';exact⟨u,rfl,BU (s:={s with heap:=h'}) e c d (by decide) ⟨x,H,I1,ru,⟨rfl,λys hy=>by rw[I.list_inj hy hq];exact hx⟩,st',λb hb=>(hf b hb).1⟩⟩
 done:=by
  intro X hP hw hK hc i aa s σ H E I hf st hg;subst hP hw hK;obtain⟨xs,hq,hx⟩:=hg;obtain⟨ae,rv,p,hz⟩:=I.list hq;obtain⟨f0,f1,f2,f3,f4,f5⟩:=hf it (by simp);have hl:=rv.length;exact wpAny_pyNext_list_end (I.ok.hd hc) st p.isList (by simp;omega) λh' eb=>⟨rfl,I.turned (t':=s.toks) (λb o hb e=>eb b o hb e) f0 f1 f3 f4 f5⟩
 self:=λ_ _ _ _ _ st h=>wpAny_pyIter_listiter st h
theorem yk{P:υ}{w:ψ}{K:af}{tg:bp}(a it:ag):xw P w K tg (E8 K a) [it] it (λi h=>h.IsTupleIter it a i) where
 mem:=by simp
 obj:=λi h st b hb=>by
  have e:b=it:=by simpa using hb
  subst e;obtain⟨o,e,c,d⟩:=st;exact⟨o,e,λv z=>by rw[d]at z;cases z⟩
 keep:=λi h h' st k=>st.at λo e=>k it (by simp) o e
 item:=by
  intro X hP hw hK hc i aa s σ H E I hf st hg;subst hP hw hK;obtain⟨xs,x,hq,hx⟩:=hg;obtain⟨ae,rv,p,hz⟩:=I.tuple hq;obtain⟨u,hu,ru⟩:=rv.get hx;obtain⟨f0,f1,f2,f3,f4,f5⟩:=hf it (by simp);refine wpAny_pyNext_tuple_item st (show s.heap.IsTuple a ae.toArray from p) (x:=u) (by simpa using hu) λh' st' sb=>?_;have I1:Inv X aa σ H {s with heap:=h'}:=I.turned (t':=s.toks) (λb o hb e=>(sb.2 b hb).trans e) f0 f1 f3 f4 f5;obtain⟨o,e,c,d⟩:=id st';exact⟨u,rfl,BU (s:={s with heap:=h'}) e c d (by decide) ⟨x,H,I1,ru,⟨rfl,λys hy=>by rw[I.tuple_inj hy hq];exact hx⟩,st',λb hb=>(hf b hb).1⟩⟩
 done:=by
  intro X hP hw hK hc i aa s σ H E I hf st hg;subst hP hw hK;obtain⟨xs,hq,hx⟩:=hg;obtain⟨ae,rv,p,hz⟩:=I.tuple hq;obtain⟨f0,f1,f2,f3,f4,f5⟩:=hf it (by simp);have hl:=rv.length;exact wpAny_pyNext_tuple_end (I.ok.hd hc) st (show s.heap.IsTuple a ae.toArray from p) (by simp;omega) λh' eb=>⟨rfl,I.turned (t':=s.toks) (λb o hb e=>eb b o hb e) f0 f1 f3 f4 f5⟩
 self:=λ_ _ _ _ _ st h=>wpAny_pyIter_tupleiter st h
theorem yl{P:υ}{w:ψ}{K:af}{tg:bp}(it:ag)(lo:Int)(n:Nat):xw P w K tg (Db lo n) [it] it (λi h=>IsRangeIter h it (lo+(i:Nat)*1) ((n:Int)-(i:Nat)) 1) where
 mem:=by simp
 obj:=λi h st b hb=>by
  have e:b=it:=by simpa using hb
  subst e;exact⟨_,st,λv z=>by
   have z':fN _=kn v:=z;cases z'⟩
 keep:=λi h h' st k=>k it (by simp) _ st
 item:=by
  intro X hP hw hK hc i aa s σ H E I hf st hg;subst hP hw hK;obtain⟨f0,f1,f2,f3,f4,f5⟩:=hf it (by simp);have W:=Walks.range (prog:=X.prog) (w:=X.w) (I.ok.hd hc) it lo 1 n;refine W.item i s _ _ hg st λv h' tk hv st' kk=>?_;obtain⟨t,rfl⟩:=hv;have I1:Inv X aa σ H {s with heap:=h',toks:=tk}:=I.turned (λb o hb e=>kk b o (by simpa using hb) e) f0 f1 f3 f4 f5;refine⟨_,rfl,BU (s:={s with heap:=h',toks:=tk}) (n:="range_iterator") st' rfl rfl (by decide) ⟨.int (lo+i),H,I1,⟨t,?_⟩,⟨rfl,rfl⟩,st',λb hb=>(hf b hb).1⟩⟩;rw[FM]
 done:=by
  intro X hP hw hK hc i aa s σ H E I hf st hg;subst hP hw hK;obtain⟨f0,f1,f2,f3,f4,f5⟩:=hf it (by simp);exact wpAny_pyNext_range_end (I.ok.hd hc) st (by have:n<=i:=hg;omega) λh' eb=>⟨rfl,I.turned (t':=s.toks) (λb o hb e=>eb b o hb e) f0 f1 f3 f4 f5⟩
 self:=λ_ _ _ _ _ st h=>wpAny_pyIter_rangeiter st h
section
variable{X:Cx}{tg:bp}
theorem xz{σ:St}{R:It->Hp->Prop}{E:S0}{lo hi:Int}(I:Inv X aa σ H s)(h1: -(2^62)<=lo)(h2:lo<2^62)(h3: -(2^62)<=hi)(h4:hi<2^62)(q:R (Db lo (hi-lo).toNat) H):ai (ar X.prog X.w) X.A (nX (.ref s.heap.objs.size)) (QN X aa σ tg R) E {s with heap:=s.heap.push {cls:=.type "range",data:=.fields #[.int lo t,.int hi u,.int 1 v]},toks:=tk}:=by
 refine wpAny_pyIter_range (IR ..) (mw h1 h2 h3 h4) ?_;have I1:Inv X aa σ H {s with heap:=s.heap.push {cls:=.type "range",data:=.fields #[.int lo t,.int hi u,.int 1 v]},toks:=tk}:=I.kept λb o e=>cR _ e;refine⟨(s.heap.push {cls:=.type "range",data:=.fields #[.int lo t,.int hi u,.int 1 v]}).objs.size,[(s.heap.push {cls:=.type "range",data:=.fields #[.int lo t,.int hi u,.int 1 v]}).objs.size],_,_,H,rfl,
  I1.kept (t':=tk) λb o e=>cR _ e,yl _ lo (hi-lo).toNat,?_,λb hb=>?_,q⟩
 ·have e1:lo+((0:Nat):Int)*1=lo:=by simp
  have e2:(((hi-lo).toNat:Nat):Int)-((0:Nat):Int)=bE lo hi 1:=by rw[JO];split<;>omega
  show IsRangeIter _ _ (lo+((0:Nat):Int)*1) ((((hi-lo).toNat:Nat):Int)-((0:Nat):Int)) 1;rw[e1,e2];exact iQ _ rfl
 ·have e:b=(s.heap.push {cls:=.type "range",data:=.fields #[.int lo t,.int hi u,.int 1 v]}).objs.size:=by simpa using hb
  subst e;exact I1.fpOk (aP _) (I1.hok.fresh (aP _))
noncomputable def HK(ta:TA):TI:=λσ H R=>ta σ H λvs H1=>∃j:Int,vs=[.int j]/\ -(2^62)<=j/\j<2^62/\R (Db 0 j.toNat) H1
noncomputable def HH(ta:TA):TI:=λσ H R=>ta σ H λvs H1=>∃i j:Int,vs=[.int i,.int j]/\(-(2^62)<=i/\i<2^62/\ -(2^62)<=j/\j<2^62)/\R (Db i (j-i).toNat) H1
theorem Kp{a:bp}{ta:TA}{p pos:eJ}(hg:Gl X "range")(hm:X.mg "range"=none)(ha:PA X [a] ta)(hs:ax [a] X.env=[(false,bQ a X.env)]:=by rfl):PI X tg (.Call (.Name "range" p) [a] [] pos) (HK ta):=by
 intro aa s σ H R I h;refine kE (Bv I hg hm FL (KD (pw (ha pos aa s σ H _ I h) λus s1 ⟨vs,H1,I1,r1,q1⟩=>?_) hs rfl));obtain⟨j,e,q1,q2,q⟩:=q1;subst e;cases r1 with
 |cons r rr=>
  cases rr;obtain⟨t,rfl⟩:=r;exact oa (xz I1 (by omega) (by omega) q1 q2 (by simpa using q))
theorem tw{a b:bp}{ta:TA}{p pos:eJ}(hg:Gl X "range")(hm:X.mg "range"=none)(ha:PA X [a,b] ta)(hs:ax [a,b] X.env=[(false,bQ a X.env),(false,bQ b X.env)]:=by rfl)(hs2:ax [b] X.env=[(false,bQ b X.env)]:=by rfl):
  PI X tg (.Call (.Name "range" p) [a,b] [] pos) (HH ta):=by
 intro aa s σ H R I h;refine kE (Bv I hg hm FL (KD (pw (ha pos aa s σ H _ I h) λus s1 ⟨vs,H1,I1,r1,q1⟩=>?_) (by rw[hs,hs2]) (by rw[hs2];rfl)));obtain⟨i,j,e,⟨q1,q2,q3,q4⟩,q⟩:=q1;subst e;cases r1 with
 |cons r rr=>
  cases rr with
  |cons r' rr=>
   cases rr;obtain⟨t,rfl⟩:=r;obtain⟨t',rfl⟩:=r';exact call_range_2 (xz I1 q1 q2 q3 q4 q)
noncomputable def N0(wi:TI)(g:TG)(tb:TS):TS:=λD σ H=>wi σ H λJ H1=>∃W:Nat->Nat->St->Hp->Prop,(∃m,W 0 m σ H1)/\∀i m σ H,W i m σ H->
 (J.stop i H/\D.nx σ H)\/(J.go i H/\∃N:St->Hp->Prop,(∀σ' H',N σ' H'->∃m',m'<m/\W (i+1) m' σ' H')/\∀x H',J.yld i H x H'->g x σ H' λσ2 H2=>tb {D with nx:=N,ct:=N,bk:=D.nx} σ2 H2)
noncomputable def vx(fp:η)(h:bn):O0:=fp.filterMap λb=>(h.get? b).map λo=>(b,o)
theorem sP(hb:b∈fp)(e:h.get? b=some o):(b,o)∈vx fp h:=List.mem_filterMap.mpr ⟨b,hb,by rw[e];rfl⟩
theorem AK(hp:p∈vx fp h):p.1∈fp/\h.get? p.1=some p.2:=by
 obtain⟨b,hb,e⟩:=List.mem_filterMap.mp hp;cases q:h.get? b with
 |none=>rw[q]at e;cases e
 |some o=>
  rw[q]at e;have e':(b,o)=p:=uw e;subst e';exact⟨hb,q⟩
theorem Inv.pinned{σ:St}(I:Inv X aa σ H s)(hf:∀b∈fp,vc X aa H b)(ho:∀b∈fp,∃o,s.heap.get? b=some o/\∀v,o.data≠.cell v):Inv X (aa++vx fp s.heap) σ H s:=
 I.pins_of λp hp=>(oE.mp hp).elim (λz=>I.pin p (lR _ z)) λz=>by
  obtain⟨hb,e⟩:=AK z;obtain⟨f0,f1,f2,_⟩:=hf p.1 hb;obtain⟨o,e',d⟩:=ho p.1 hb;rw[e]at e';cases e';exact⟨e,f0,f1,f2,d⟩
theorem Inv.unpinned{σ:St}(I:Inv X (aa++pl) σ H s):Inv X aa σ H s:=I.pins_of λp hp=>I.pin p (lR _ (SN _ hp))
theorem rS{iter:bp}{body:List fz}{wi:TI}{g:TG}{tb:TS}{pos:eJ}(hp:PassesOwn (ar X.prog X.w) X.A X.env X.xe)(hc:X.calm=true)(hi:PI X tg iter wi)(hg:PG X tg g)(hb:xx X body tb)(hs:∀x,eL iter X.env x=pure x:=by intro _;rfl):PS X (.For tg iter body [] pos) (N0 wi g tb):=by
 intro aa s σ H D I h;refine wpAny_For (pw (hi aa s σ H _ I h) λv s1 h1=>pw h1 λitv s2 h2=>?_) hs;obtain⟨it,fp,tn,J,H2,e,I2,T,st2,f2,W,⟨m0,w0⟩,turn⟩:=h2;subst e
 have stat:∀{H':Hp},(∀b∈fp,H' b=none)->∀b∈fp,vc X aa H' b:=λhn b hb=>⟨hn b hb,(f2 b hb).2⟩;refine codeAny_forLoop_any (λn s'=>∃i σ' H',Inv X aa σ' H' s'/\tn i s'.heap/\(∀b∈fp,H' b=none)/\W i n σ' H') ?_ m0 ⟨0,σ,H2,I2,st2,λb hb=>(f2 b hb).1,w0⟩;rintro n s3 ⟨i,σ3,H3,I3,st3,fr3,w3⟩;rcases turn i n σ3 H3 w3 with⟨stop,qn⟩|⟨go,N,hN,step⟩
 ·refine Xy hp (pw (T.done X rfl rfl rfl hc i aa s3 σ3 H3 X.xe I3 (stat fr3) st3 stop) λr s4 ⟨hr,I4⟩=>?_);subst hr;exact Kn ⟨σ3,H3,I4,qn⟩
 ·refine Xy hp (pw (T.item X rfl rfl rfl hc i aa s3 σ3 H3 X.xe I3 (stat fr3) st3 go) λr s4 ⟨u,hr,h4⟩=>?_);subst hr;refine Xy hp (pw h4 λ_ s5 ⟨x,H5,I5,r5,y5,st5,fr5⟩=>?_);have I5':=I5.pinned (stat fr5) (T.obj _ _ st5);refine Xy hp (pw (hg _ s5 σ3 H5 x u _ I5' r5 (step x H5 y5)) λ_ s6 ⟨σ6,H6,I6,q6⟩=>?_);refine Xy hp (pw (hb _ s6 σ6 H6 _ I6 q6) λf s7 q7=>?_);have again:∀{σ7:St}{H7:Hp},Inv X (aa++vx fp s5.heap) σ7 H7 s7->N σ7 H7->∃m,m<n/\∃i σ' H',Inv X aa σ' H' s7/\tn i s7.heap/\(∀b∈fp,H' b=none)/\W i m σ' H':=λ{σ7 H7} I7 n7=>by
   obtain⟨m',hm,w7⟩:=hN σ7 H7 n7;refine⟨m',hm,i+1,σ7,H7,I7.unpinned,T.keep _ _ _ st5 λb hb o e=>(I7.pin (b,o) (lR _ (lR _ (sP hb e)))).1,λb hb=>?_,w7⟩;obtain⟨o,e,d⟩:=T.obj _ _ st5 b hb;exact(I7.pin (b,o) (lR _ (lR _ (sP hb e)))).2.1
  cases f with
  |next=>obtain⟨σ7,H7,I7,n7⟩:=q7;exact again I7 n7
  |cont=>obtain⟨σ7,H7,I7,n7⟩:=q7;exact again I7 n7
  |brk=>obtain⟨σ7,H7,I7,q7⟩:=q7;exact⟨σ7,H7,I7.unpinned,q7⟩
  |ret v=>obtain⟨x7,σ7,H7,I7,r7,q7⟩:=q7;exact⟨x7,σ7,H7,I7.unpinned,r7,q7⟩
end
theorem ul{K:af}{g:TG}{tb:TS}{D:zt}(Pv:Nat->St->Hp->Prop)(h0:Pv 0 σ H)(hl:∀i σ H,i<=xs.length->Pv i σ H->ja K H a xs)(hs:∀i x σ H,xs[i]? =some x->Pv i σ H->g x σ H λσ2 H2=>tb {D with nx:=Pv (i+1),ct:=Pv (i+1),bk:=D.nx} σ2 H2)(hd:∀σ H,Pv xs.length σ H->D.nx σ H):
  ∃W:Nat->Nat->St->Hp->Prop,(∃m,W 0 m σ H)/\∀i m σ H,W i m σ H->
   ((E9 K a).stop i H/\D.nx σ H)\/((E9 K a).go i H/\∃N:St->Hp->Prop,(∀σ' H',N σ' H'->∃m',m'<m/\W (i+1) m' σ' H')/\∀x H',(E9 K a).yld i H x H'->g x σ H' λσ2 H2=>tb {D with nx:=N,ct:=N,bk:=D.nx} σ2 H2):=by
 refine⟨λi m σ H=>m=xs.length-i/\i<=xs.length/\Pv i σ H,⟨xs.length,by simp,dX _,h0⟩,?_⟩;rintro i m σ H ⟨rfl,hi,p⟩;have q:=hl i σ H hi p;by_cases hlt:i<xs.length
 ·refine .inr ⟨⟨xs,xs[i],q,by simp[hlt]⟩,Pv (i+1),λσ' H' p'=>⟨xs.length-(i+1),by omega,rfl,hlt,p'⟩,λx H' y=>?_⟩;obtain⟨e,y⟩:=y;subst e;exact hs i x σ _ (y xs q) p
 ·have e:i=xs.length:=by omega
  subst e;exact .inl ⟨⟨xs,q,aP _⟩,hd σ H p⟩
theorem Ap{K:af}{g:TG}{tb:TS}{D:zt}(Pv:Nat->St->Hp->Prop)(h0:Pv 0 σ H)(hl:∀i σ H,i<=xs.length->Pv i σ H->SqT K H a xs)(hs:∀i x σ H,xs[i]? =some x->Pv i σ H->g x σ H λσ2 H2=>tb {D with nx:=Pv (i+1),ct:=Pv (i+1),bk:=D.nx} σ2 H2)(hd:∀σ H,Pv xs.length σ H->D.nx σ H):
  ∃W:Nat->Nat->St->Hp->Prop,(∃m,W 0 m σ H)/\∀i m σ H,W i m σ H->
   ((E8 K a).stop i H/\D.nx σ H)\/((E8 K a).go i H/\∃N:St->Hp->Prop,(∀σ' H',N σ' H'->∃m',m'<m/\W (i+1) m' σ' H')/\∀x H',(E8 K a).yld i H x H'->g x σ H' λσ2 H2=>tb {D with nx:=N,ct:=N,bk:=D.nx} σ2 H2):=by
 refine⟨λi m σ H=>m=xs.length-i/\i<=xs.length/\Pv i σ H,⟨xs.length,by simp,dX _,h0⟩,?_⟩;rintro i m σ H ⟨rfl,hi,p⟩;have q:=hl i σ H hi p;by_cases hlt:i<xs.length
 ·refine .inr ⟨⟨xs,xs[i],q,by simp[hlt]⟩,Pv (i+1),λσ' H' p'=>⟨xs.length-(i+1),by omega,rfl,hlt,p'⟩,λx H' y=>?_⟩;obtain⟨e,y⟩:=y;subst e;exact hs i x σ _ (y xs q) p
 ·have e:i=xs.length:=by omega
  subst e;exact .inl ⟨⟨xs,q,aP _⟩,hd σ H p⟩
theorem sf{lo:Int}{g:TG}{tb:TS}{D:zt}(Pv:Nat->St->Hp->Prop)(h0:Pv 0 σ H)(hs:∀i σ H,i<n->Pv i σ H->g (.int (lo+i)) σ H λσ2 H2=>tb {D with nx:=Pv (i+1),ct:=Pv (i+1),bk:=D.nx} σ2 H2)(hd:∀σ H,Pv n σ H->D.nx σ H):
  ∃W:Nat->Nat->St->Hp->Prop,(∃m,W 0 m σ H)/\∀i m σ H,W i m σ H->
   ((Db lo n).stop i H/\D.nx σ H)\/((Db lo n).go i H/\∃N:St->Hp->Prop,(∀σ' H',N σ' H'->∃m',m'<m/\W (i+1) m' σ' H')/\∀x H',(Db lo n).yld i H x H'->g x σ H' λσ2 H2=>tb {D with nx:=N,ct:=N,bk:=D.nx} σ2 H2):=by
 refine⟨λi m σ H=>m=n-i/\i<=n/\Pv i σ H,⟨n,by simp,dX _,h0⟩,?_⟩;rintro i m σ H ⟨rfl,hi,p⟩;by_cases hlt:i<n
 ·refine .inr ⟨hlt,Pv (i+1),λσ' H' p'=>⟨n-(i+1),by omega,rfl,hlt,p'⟩,λx H' y=>?_⟩;obtain⟨e,y⟩:=y;subst e y;exact hs i σ _ hlt p
 ·have e:i=n:=by omega
  subst e;exact .inl ⟨aP _,hd σ H p⟩
noncomputable abbrev R2:=V->V->Hp->VK->Prop
noncomputable def sj(X:Cx)(f:ρ->ρ->Sem ρ)(r:R2):Prop:=
 ∀(aa:O0) (s:τ) (σ:St) (H:Hp) (x y:V) (v u:ρ) (Q:VK),Inv X aa σ H s->RelV x v->RelV y u->r x y H Q->
  ai (ar X.prog X.w) X.A (f v u) (EP X aa σ Q) X.xe s
noncomputable def OI(X:Cx)(f:ρ->Sem ρ)(r:V->Hp->VK->Prop):Prop:=
 ∀(aa:O0) (s:τ) (σ:St) (H:Hp) (x:V) (v:ρ) (Q:VK),Inv X aa σ H s->RelV x v->r x H Q->
  ai (ar X.prog X.w) X.A (f v) (EP X aa σ Q) X.xe s
noncomputable def qV(X:Cx)(f:ρ)(r:List V->Hp->VK->Prop):Prop:=
 ∀(aa:O0) (s:τ) (σ:St) (H:Hp) (xs:List V) (us:List ρ) (Q:VK),Inv X aa σ H s->iN xs us->r xs H Q->
  ai (ar X.prog X.w) X.A (call f us) (EP X aa σ Q) X.xe s
noncomputable def OK(X:Cx)(r:V->Hp->(Bool->Hp->Prop)->Prop):Prop:=
 ∀(aa:O0) (s:τ) (σ:St) (H:Hp) (x:V) (v:ρ) (Q:Bool->Hp->Prop),Inv X aa σ H s->RelV x v->r x H Q->
  ai (ar X.prog X.w) X.A (truthy v) (TP X aa σ Q) X.xe s
noncomputable def LD(r:R2)(ta tb:TE):TE:=λσ H Q=>ta σ H λx H1=>tb σ H1 λy H2=>r x y H2 Q
noncomputable def QP(r:V->Hp->VK->Prop)(ta:TE):TE:=λσ H Q=>ta σ H λx H1=>r x H1 Q
inductive rI(C:Int->Int->Prop)(g:Int->Int->V)(x:V)(y:V)(H:Hp)(Q:VK):Prop
 |mk(i j)(_:x=.int i)(_:y=.int j)(_:C i j)(_:Q (g i j) H)
inductive C6(g:Int->Int->V)(x:V)(y:V)(H:Hp)(Q:VK):Prop
 |mk(i j)(_:x=.int i)(_:y=.int j)(_:Q (g i j) H)
inductive rU(g:Int->V)(x:V)(H:Hp)(Q:VK):Prop
 |mk(i)(_:x=.int i)(_:Q (g i) H)
section
variable{X:Cx}{a b:bp}{ta tb:TE}{pos:eJ}
theorem EB(ha:PE X a ta)(hb:PE X b tb){σ:St}{R:V->V->Hp->Prop}(I:Inv X aa σ H s)(h:ta σ H λx H1=>tb σ H1 λy H2=>R x y H2){Q:S0}{f:ρ->ρ->Sem ρ}(hf:∀v u s2 x y H2,Inv X aa σ H2 s2->RelV x v->RelV y u->R x y H2->ai (ar X.prog X.w) X.A (f v u) Q X.xe s2):
  ai (ar X.prog X.w) X.A (bQ a X.env) (λv s₁=>ai (ar X.prog X.w) X.A (bQ b X.env) (λu s₂=>ai (ar X.prog X.w) X.A (f v u) Q X.xe s₂) X.xe s₁) X.xe s:=by
 refine pw (ha aa s σ H _ I h) λv s1 ⟨x,H1,I1,r1,q1⟩=>?_;refine pw (hb aa s1 σ H1 _ I1 q1) λu s2 ⟨y,H2,I2,r2,q2⟩=>?_;exact hf v u s2 x y H2 I2 r1 r2 q2
theorem dF(ho:sj X (cw op) r)(ha:PE X a ta)(hb:PE X b tb):PE X (.BinOp a op b pos) (LD r ta tb):=by
 intro aa s σ H Q I h;exact wpAny_BinOp (EB ha hb I h λv u s2 x y H2 I2 rx ry q=>ho aa s2 σ H2 x y v u Q I2 rx ry q)
theorem tN{r:V->Hp->VK->Prop}(ho:OI X (unaryOp op) r)(ha:PE X a ta):PE X (.UnaryOp op a pos) (QP r ta):=by
 intro aa s σ H Q I h;exact UnaryOp_ (pw (ha aa s σ H _ I h) λv s1 ⟨x,H1,I1,r1,q1⟩=>ho aa s1 σ H1 x v Q I1 r1 q1)
theorem HG{C:Int->Int->Prop}{g:Int->Int->Int}(rule:∀(i j:Int) (t u:Tok) (s:τ) (Q:S0) (E:S0),C i j->Q (.int (g i j) s.toks) {s with toks:=s.toks+1}->ai (ar X.prog X.w) X.A (f (.int i t) (.int j u)) Q E s):
  sj X f (rI C λi j=>.int (g i j)):=by
 intro aa s σ H x y v u Q I rx ry h;obtain⟨i,j,rfl,rfl,hc,q⟩:=h;obtain⟨t,rfl⟩:=rx;obtain⟨t',rfl⟩:=ry;exact rule i j t t' s _ _ hc ⟨.int (g i j),H,I.tok _,⟨_,rfl⟩,q⟩
theorem HE{g:Int->Int->Int}(rule:∀(i j:Int) (t u:Tok) (s:τ) (Q:S0) (E:S0),Q (.int (g i j) s.toks) {s with toks:=s.toks+1}->ai (ar X.prog X.w) X.A (f (.int i t) (.int j u)) Q E s):
  sj X f (C6 λi j=>.int (g i j)):=by
 intro aa s σ H x y v u Q I rx ry h;obtain⟨i,j,rfl,rfl,q⟩:=h;obtain⟨t,rfl⟩:=rx;obtain⟨t',rfl⟩:=ry;exact rule i j t t' s _ _ ⟨.int (g i j),H,I.tok _,⟨_,rfl⟩,q⟩
theorem CD{g:Int->Int->Bool}(rule:∀(i j:Int) (t u:Tok) (s:τ) (Q:S0) (E:S0),Q (.bool (g i j)) s->ai (ar X.prog X.w) X.A (f (.int i t) (.int j u)) Q E s):
  sj X f (C6 λi j=>.bl (g i j)):=by
 intro aa s σ H x y v u Q I rx ry h;obtain⟨i,j,rfl,rfl,q⟩:=h;obtain⟨t,rfl⟩:=rx;obtain⟨t',rfl⟩:=ry;exact rule i j t t' s _ _ ⟨.bl (g i j),H,I,rfl,q⟩
noncomputable def A5(i j:Int):Prop:=(-(2^64)<i/\i<2^64)\/(-(2^64)<j/\j<2^64)
theorem A5.ok(h:A5 i j):IntMulOk i j:=by
 rcases h with⟨h1,h2⟩|⟨h1,h2⟩
 ·exact .of_left (intBits_le_64 h1 h2)
 ·exact .of_right (intBits_le_64 h1 h2)
theorem rk:sj X (cw .Add) (C6 λi j=>.int (i+j)):=HE λ_ _ _ _ _ _ _ q=>add_int q
theorem yA:sj X (cw .Sub) (C6 λi j=>.int (i-j)):=HE λ_ _ _ _ _ _ _ q=>sub_int q
theorem qS:sj X (cw .Mult) (rI A5 λi j=>.int (i*j)):=HG λ_ _ _ _ _ _ _ hc q=>mul_int q hc.ok
theorem xh:sj X (cw .Mod) (rI (λ_ j=>0<j) λi j=>.int (i %j)):=HG λi j _ _ _ _ _ hc q=>by
 have h1:(0:Int)<j:=hc;exact mod_int' (by omega) (by rw[Int.fmod_eq_emod_of_nonneg i (by omega)];exact q)
theorem QO{g:Int->Int}(rule:∀(i:Int) (t:Tok) (s:τ) (Q:S0) (E:S0),Q (.int (g i) s.toks) {s with toks:=s.toks+1}->ai (ar X.prog X.w) X.A (f (.int i t)) Q E s):
  OI X f (rU λi=>.int (g i)):=by
 intro aa s σ H x v Q I rx h;obtain⟨i,rfl,q⟩:=h;obtain⟨t,rfl⟩:=rx;exact rule i t s _ _ ⟨.int (g i),H,I.tok _,⟨_,rfl⟩,q⟩
theorem sv:OI X (unaryOp .USub) (rU λi=>.int (-i)):=QO λ_ _ _ _ _ q=>neg_int q
end
noncomputable def GV:V->V->Bool
 | .non,.non=>true| .non,.int _=>true| .int _,.non=>true| .non,.bl _=>true| .bl _,.non=>true| .non,.str _=>true| .str _,.non=>true
 | .int _,.int _=>true| .bl _,.bl _=>true| .str _,.str _=>true| .byt _,.byt _=>true
 | .int _,.str _=>true| .str _,.int _=>true| .bl _,.str _=>true| .str _,.bl _=>true
 |_,_=>false
noncomputable def Q2:R2:=λx y H Q=>GV x y=true/\Q (.bl (decide (x=y))) H
noncomputable def Q1:R2:=λx y H Q=>GV x y=true/\Q (.bl (!decide (x=y))) H
theorem Au:decide (V.int i=V.int j)=(i==j):=by
 rw[Fx];simp
theorem B3:decide (V.bl i=V.bl j)=(i==j):=by
 rw[Fx];simp
theorem As:decide (V.str i=V.str j)=(i==j):=by
 rw[Fx];simp
theorem AA:decide (V.byt i=V.byt j)=(i.toList==j.toList):=by
 rw[Fx];cases i;cases j;simp
section
variable{X:Cx}{a b c:bp}{ta tb tc:TE}{pos:eJ}
theorem oh{σ:St}(I:Inv X aa σ H s)(q:Q (.bl k) H)(e:k=k'):EP X aa σ Q (.bool k') s:=by
 subst e;exact⟨.bl k,H,I,rfl,q⟩
theorem xC:sj X (bo .Eq) Q2:=by
 intro aa s σ H x y v u Q I rx ry h;obtain⟨hs,q⟩:=h;cases x with
 |non=>
  cases rx;cases y with
  |non=>cases ry;exact PySem.EqNone.eq_none_none (oh I q (by simp))
  |bl j=>cases ry;exact PySem.EqNone.eq_none_bool (oh I q (by simp))
  |int j=>obtain⟨t',rfl⟩:=ry;exact PySem.EqNone.eq_none_int (oh I q (by simp))
  |str j=>obtain⟨t',rfl⟩:=ry;exact PySem.EqNone.eq_none_str (oh I q (by simp))
  |_=>exact absurd (show false=true from hs) ux
 |bl i=>
  cases rx;cases y with
  |non=>cases ry;exact PySem.EqNone.eq_bool_none (oh I q (by simp))
  |bl j=>cases ry;exact eq_bool (oh I q B3)
  |str j=>obtain⟨t',rfl⟩:=ry;exact PySem.EqMixed.eq_bool_str (oh I q (by simp))
  |_=>exact absurd (show false=true from hs) ux
 |int i=>
  obtain⟨t,rfl⟩:=rx;cases y with
  |non=>cases ry;exact PySem.EqNone.eq_int_none (oh I q (by simp))
  |int j=>obtain⟨t',rfl⟩:=ry;exact eq_int (oh I q Au)
  |str j=>obtain⟨t',rfl⟩:=ry;exact PySem.EqMixed.eq_int_str (oh I q (by simp))
  |_=>exact absurd (show false=true from hs) ux
 |str i=>
  obtain⟨t,rfl⟩:=rx;cases y with
  |non=>cases ry;exact PySem.EqNone.eq_str_none (oh I q (by simp))
  |bl j=>cases ry;exact PySem.EqMixed.eq_str_bool (oh I q (by simp))
  |int j=>obtain⟨t',rfl⟩:=ry;exact PySem.EqMixed.eq_str_int (oh I q (by simp))
  |str j=>obtain⟨t',rfl⟩:=ry;exact eq_str (oh I q As)
  |_=>exact absurd (show false=true from hs) ux
 |byt i=>
  obtain⟨t,rfl⟩:=rx;cases y with
  |byt j=>obtain⟨t',rfl⟩:=ry;exact W.eq_bytes (oh I q AA)
  |_=>exact absurd (show false=true from hs) ux
 |_=>cases y<;>exact absurd (show false=true from hs) ux
theorem sq:sj X (bo .NotEq) Q1:=by
 intro aa s σ H x y v u Q I rx ry h;obtain⟨hs,q⟩:=h;cases x with
 |non=>
  cases rx;cases y with
  |non=>cases ry;exact PySem.EqNone.ne_none_none (oh I q (by simp))
  |bl j=>cases ry;exact PySem.EqNone.ne_none_bool (oh I q (by simp))
  |int j=>obtain⟨t',rfl⟩:=ry;exact PySem.EqNone.ne_none_int (oh I q (by simp))
  |str j=>obtain⟨t',rfl⟩:=ry;exact PySem.EqNone.ne_none_str (oh I q (by simp))
  |_=>exact absurd (show false=true from hs) ux
 |bl i=>
  cases rx;cases y with
  |non=>cases ry;exact PySem.EqNone.ne_bool_none (oh I q (by simp))
  |bl j=>cases ry;exact ne_bool (oh I q (jQ not B3))
  |str j=>obtain⟨t',rfl⟩:=ry;exact PySem.EqMixed.ne_bool_str (oh I q (by simp))
  |_=>exact absurd (show false=true from hs) ux
 |int i=>
  obtain⟨t,rfl⟩:=rx;cases y with
  |non=>cases ry;exact PySem.EqNone.ne_int_none (oh I q (by simp))
  |int j=>obtain⟨t',rfl⟩:=ry;exact ne_int (oh I q (jQ not Au))
  |str j=>obtain⟨t',rfl⟩:=ry;exact PySem.EqMixed.ne_int_str (oh I q (by simp))
  |_=>exact absurd (show false=true from hs) ux
 |str i=>
  obtain⟨t,rfl⟩:=rx;cases y with
  |non=>cases ry;exact PySem.EqNone.ne_str_none (oh I q (by simp))
  |bl j=>cases ry;exact PySem.EqMixed.ne_str_bool (oh I q (by simp))
  |int j=>obtain⟨t',rfl⟩:=ry;exact PySem.EqMixed.ne_str_int (oh I q (by simp))
  |str j=>obtain⟨t',rfl⟩:=ry;exact ne_str (oh I q (jQ not As))
  |_=>exact absurd (show false=true from hs) ux
 |byt i=>
  obtain⟨t,rfl⟩:=rx;cases y with
  |byt j=>obtain⟨t',rfl⟩:=ry;exact W.ne_bytes (oh I q (jQ not AA))
  |_=>exact absurd (show false=true from hs) ux
 |_=>cases y<;>exact absurd (show false=true from hs) ux
theorem uk:sj X (bo .Lt) (C6 λi j=>.bl (decide (i<j))):=CD λ_ _ _ _ _ _ _ q=>lt_int q
theorem tP:sj X (bo .LtE) (C6 λi j=>.bl (decide (i<=j))):=CD λ_ _ _ _ _ _ _ q=>le_int q
theorem xB:sj X (bo .Gt) (C6 λi j=>.bl (decide (j<i))):=CD λ_ _ _ _ _ _ _ q=>gt_int q
theorem zC:sj X (bo .GtE) (C6 λi j=>.bl (decide (j<=i))):=CD λ_ _ _ _ _ _ _ q=>ge_int q
theorem DO:sj X (bo .Is) (λx y H Q=>y=.non/\Q (.bl (decide (x=.non))) H):=by
 intro aa s σ H x y v u Q I rx ry h;obtain⟨rfl,q⟩:=h;cases ry;refine is_none_gen (oh I q ?_);cases x<;>first
  |(cases rx;rfl)
  |(obtain⟨t,rfl⟩:=rx;rfl)
theorem CC:sj X (bo .IsNot) (λx y H Q=>y=.non/\Q (.bl (!decide (x=.non))) H):=by
 intro aa s σ H x y v u Q I rx ry h;obtain⟨rfl,q⟩:=h;cases ry;refine isnot_none_gen (oh I q ?_);cases x<;>first
  |(cases rx;rfl)
  |(obtain⟨t,rfl⟩:=rx;rfl)
theorem sj.or(h:sj X f r)(h':sj X f r'):sj X f (λx y H Q=>r x y H Q\/r' x y H Q):=by
 intro aa s σ H x y v u Q I rx ry q;rcases q with q|q
 ·exact h aa s σ H x y v u Q I rx ry q
 ·exact h' aa s σ H x y v u Q I rx ry q
theorem BG(b:bp){op:CmpOp}(h:op≠.In:=by decide)(h2:op≠.NotIn:=by decide):ip op b=false:=by
 have e1:(op==CmpOp.In)=false:=by cases op<;>first |rfl|exact absurd rfl h
 have e2:(op==CmpOp.NotIn)=false:=by cases op<;>first |rfl|exact absurd rfl h2
 cases b<;>simp[ip,e1,e2]
theorem uZ{op:CmpOp}{r:R2}(ho:sj X (bo op) r)(ha:PE X a ta)(hb:PE X b tb)(hm:ip op b=false:=by exact BG _):PE X (.Compare a [op] [b] pos) (LD r ta tb):=by
 intro aa s σ H Q I h;exact wpAny_Compare1 (EB ha hb I h λv u s2 x y H2 I2 rx ry q=>ho aa s2 σ H2 x y v u Q I2 rx ry q) hm
noncomputable def C0(t:TE):TT:=λσ H Q=>t σ H λx H'=>∃k,x=.bl k/\Q k H'
theorem gU{op:CmpOp}{r:R2}(ho:sj X (bo op) r)(ha:PE X a ta)(hb:PE X b tb)(hm:ip op b=false:=by exact BG _):PT X (.Compare a [op] [b] pos) (C0 (LD r ta tb)):=by
 intro aa s σ H Q I h;refine wpAny_isTrue_Compare1 (pw (ha aa s σ H _ I h) λv s1 ⟨x,H1,I1,r1,q1⟩=>pw (hb aa s1 σ H1 _ I1 q1) λu s2 ⟨y,H2,I2,r2,q2⟩=>
  pw (ho aa s2 σ H2 x y v u _ I2 r1 r2 q2) λc s3 ⟨z,H3,I3,r3,k,e,q3⟩=>?_) hm
 subst e;cases r3;exact M4 ⟨H3,I3,q3⟩
noncomputable def A9(r r':R2)(ta tb tc:TE):TE:=λσ H Q=>ta σ H λx H1=>tb σ H1 λy H2=>r x y H2 λz H3=>∃k,z=.bl k/\
 (if k=true then tc σ H3 λw' H4=>r' y w' H4 Q else Q (.bl false) H3)
theorem uj{op op':CmpOp}{r r':R2}(ho:sj X (bo op) r)(ho':sj X (bo op') r')(ha:PE X a ta)(hb:PE X b tb)(hc:PE X c tc)(hm:lastMarks [op,op'] [b,c]=false:=by with_unfolding_all rfl):PE X (.Compare a [op,op'] [b,c] pos) (A9 r r' ta tb tc):=by
 intro aa s σ H Q I h;refine Compare_chain (pw (ha aa s σ H _ I h) λv s1 ⟨x,H1,I1,r1,q1⟩=>chain_link (pw (hb aa s1 σ H1 _ I1 q1) λu s2 ⟨y,H2,I2,r2,q2⟩=>
  pw (ho aa s2 σ H2 x y v u _ I2 r1 r2 q2) λd s3 ⟨z,H3,I3,r3,k,e,q3⟩=>?_)) hm
 subst e;cases r3;apply M4;cases k with
 |false=>exact ite_ff ⟨.bl false,H3,I3,rfl,q3⟩
 |true=>exact ite_tt (chain_last (pw (hc aa s3 σ H3 _ I3 q3) λw' s4 ⟨z',H4,I4,r4,q4⟩=>ho' aa s4 σ H4 y z' u w' Q I4 r2 r4 q4))
theorem BB{op op':CmpOp}{r r':R2}(ho:sj X (bo op) r)(ho':sj X (bo op') r')(ha:PE X a ta)(hb:PE X b tb)(hc:PE X c tc)(hm:lastMarks [op,op'] [b,c]=false:=by with_unfolding_all rfl):PT X (.Compare a [op,op'] [b,c] pos) (C0 (A9 r r' ta tb tc)):=by
 intro aa s σ H Q I h;refine isTrue_chain (pw (ha aa s σ H _ I h) λv s1 ⟨x,H1,I1,r1,q1⟩=>test_link (pw (hb aa s1 σ H1 _ I1 q1) λu s2 ⟨y,H2,I2,r2,q2⟩=>
  pw (ho aa s2 σ H2 x y v u _ I2 r1 r2 q2) λd s3 ⟨z,H3,I3,r3,k,e,q3⟩=>?_)) hm
 subst e;cases r3;apply M4;cases k with
 |false=>
  obtain⟨k',e',q'⟩:=q3;cases e';exact ite_ff ⟨H3,I3,q'⟩
 |true=>
  refine ite_tt (test_last (pw (hc aa s3 σ H3 _ I3 q3) λw' s4 ⟨z',H4,I4,r4,q4⟩=>pw (ho' aa s4 σ H4 y z' u w' _ I4 r2 r4 q4) λd' s5 ⟨z2,H5,I5,r5,k2,e2,q5⟩=>?_));subst e2;cases r5;exact M4 ⟨H5,I5,q5⟩
noncomputable def ED(K:af)(x:V)(H:Hp)(k:Bool):Prop:=
 match x with
 | .non=>k=false
 | .bl b=>k=b
 | .int i=>k=(i !=0)
 | .str y=>y.length<=sizeLine/\k=((y.length:Int) !=0)
 | .byt y=>y.size<=sizeLine/\k=((y.size:Int) !=0)
 | .ref p=>(∃xs,ja K H p xs/\k= !xs.isEmpty)\/(∃xs,SqT K H p xs/\k= !xs.isEmpty)\/∃kvs,H p=some (.dK kvs)/\k= !kvs.isEmpty
 |_=>False
theorem zg{κ:Type}{kvs:List (κ×V)}{vs:List (κ×ρ)}(r:KV kvs vs):(!vs.isEmpty)= !kvs.isEmpty:=by
 cases r<;>rfl
theorem vF(r:iN xs ae):(!ae.toArray.isEmpty)= !xs.isEmpty:=by
 cases r<;>simp
theorem vz:(sizeLine:Nat)<2^63:=by rw[gF];decide
theorem Do:OK X (λx H Q=>∃k,ED X.K x H k/\Q k H):=by
 intro aa s σ H x v Q I rx h;obtain⟨k,e,q⟩:=h;have hl:=vz;have hs:sizeLine=16777216:=gF;cases x with
 |non=>
  cases rx;have e':k=false:=e;subst e';exact truthy_none ⟨H,I,q⟩
 |bl b=>
  cases rx;have e':k=b:=e;subst e';exact M4 ⟨H,I,q⟩
 |int i=>
  obtain⟨t,rfl⟩:=rx;have e':k=(i !=0):=e;subst e';exact PySem.P.truthy_int ⟨H,I,q⟩
 |str y=>
  obtain⟨t,rfl⟩:=rx;obtain⟨hy,e'⟩:y.length<=sizeLine/\k=((y.length:Int) !=0):=e;subst e';exact PySem.P.truthy_str (by omega) ⟨H,I.tok _,q⟩
 |byt y=>
  obtain⟨t,rfl⟩:=rx;obtain⟨hy,e'⟩:y.size<=sizeLine/\k=((y.size:Int) !=0):=e;subst e';exact W.truthy_bytes (by omega) ⟨H,I.tok _,q⟩
 |ref p=>
  cases rx;have e':(∃xs,ja X.K H p xs/\k= !xs.isEmpty)\/(∃xs,SqT X.K H p xs/\k= !xs.isEmpty)\/∃kvs,H p=some (.dK kvs)/\k= !kvs.isEmpty:=e;rcases e' with⟨xs,hx,e'⟩|⟨xs,hx,e'⟩|⟨kvs,hx,e'⟩
  ·subst e';obtain⟨ae,r,pl,hz⟩:=I.list hx;have ac:=r.length;exact wpAny_truthy_list pl.isList (by simp only[gM];omega) ⟨H,I.tok _,by rw[vF r];exact q⟩
  ·subst e';obtain⟨ae,r,pl,hz⟩:=I.tuple hx;have ac:=r.length;exact truthy_tuple pl (by simp only[gM];omega) ⟨H,I.tok _,by rw[vF r];exact q⟩
  ·subst e';obtain⟨hz,hS,vs,r,m⟩:kvs.length<=sizeLine/\(p==de)=false/\∃vs,KV kvs vs/\s.heap.DictOf (qh X.prog X.w) p vs:=I.hok p _ hx;have ac:kvs.length=vs.length:=EW r;exact wpAny_truthy_dict hS m (by omega) ⟨H,I.tok _,by rw[zg r];exact q⟩
 |_=>exact(show False from e).elim
theorem sR(ha:PE X a ta)(he:∀whole,nV a X.env whole=(do let v<-whole;iS a.pos;eu [v] (truthy v))):
  PT X a (λσ H Q=>ta σ H λx H'=>∃k,ED X.K x H' k/\Q k H'):=by
 intro aa s σ H Q I h;exact isTrue_plain (pw (ha aa s σ H _ I h) λv s1 ⟨x,H1,I1,r1,q1⟩=>Do aa s1 σ H1 x v Q I1 r1 q1) (he _)
theorem vals1(r:iN [x] us):∃u,us=[u]/\RelV x u:=by
 cases r with
 |cons r1 r2=>cases r2;exact⟨_,rfl,r1⟩
theorem vals2(r:iN [x,y] us):∃u w',us=[u,w']/\RelV x u/\RelV y w':=by
 cases r with
 |cons r1 r2=>
  cases r2 with
  |cons r3 r4=>cases r4;exact⟨_,_,rfl,r1,r3⟩
theorem ye:qV X (.builtin "abs") (λxs H Q=>∃i,xs=[.int i]/\Q (.int (if i<0 then -i else i)) H):=by
 intro aa s σ H xs us Q I r h;obtain⟨i,rfl,q⟩:=h;obtain⟨u,rfl,t,rfl⟩:=vals1 r;exact call_abs_int λu tk=>⟨.int (if i<0 then -i else i),H,I.tok _,⟨_,rfl⟩,q⟩
theorem AZ(hc:X.calm=true):qV X (.builtin "max") (λxs H Q=>∃i j,xs=[.int i,.int j]/\Q (.int (if j>i then j else i)) H):=by
 intro aa s σ H xs us Q I r h;obtain⟨i,j,rfl,q⟩:=h;obtain⟨u,w',rfl,⟨t,rfl⟩,⟨t',rfl⟩⟩:=vals2 r;refine max_two_ints (I.ok.hd hc) λh' tk k=>⟨_,H,I.kept k,?_,q⟩;by_cases hj:j>i
 ·rw[au hj,au hj];exact⟨_,rfl⟩
 ·rw[aq hj,aq hj];exact⟨_,rfl⟩
theorem AY(hc:X.calm=true):qV X (.builtin "min") (λxs H Q=>∃i j,xs=[.int i,.int j]/\Q (.int (if j<i then j else i)) H):=by
 intro aa s σ H xs us Q I r h;obtain⟨i,j,rfl,q⟩:=h;obtain⟨u,w',rfl,⟨t,rfl⟩,⟨t',rfl⟩⟩:=vals2 r;refine min_two_ints (I.ok.hd hc) λh' tk k=>⟨_,H,I.kept k,?_,q⟩;by_cases hj:j<i
 ·rw[au hj,au hj];exact⟨_,rfl⟩
 ·rw[aq hj,aq hj];exact⟨_,rfl⟩
end
structure zo(h:bn)(x dx C:ag)(mA:D0):Prop where
 obj:h.get? x=some (fE C dx)
 ns:h.Ns1 dx mA
 ne:dx≠x
theorem AM{h:bn}(n:h.Ns1 dx mA):∃od,h.get? dx=some od/\∀name,og name od=some (mA name):=by
 obtain⟨o,es,ep,ho,hd,hk,_,hm⟩:=n;refine⟨o,ho,λname=>?_⟩;have e:=hm name;unfold nsFind findBy at e;rw[<-Array.find?_toList]at e;unfold og;rw[hd];dsimp only;split
 ·rename_i y q;rw[q]at e;exact jQ some e
 ·rename_i q;rw[q]at e;have a:es.toList.any (·.refKey)=false:=by
   rw[Xl];intro y hy;obtain⟨z,t,hkey⟩:=hk y (Array.mem_toList_iff.mp hy);simp[DictEntry.refKey,hkey]
  have a':¬es.toList.any (·.refKey)=true:=by rw[a];exact ux
  rw[aq a'];exact jQ some e
theorem zo.look(I:zo h x dx C mA):∃od,W.InstAt h x (fE C dx) C (some od)/\∀name,og name od=some (mA name):=
 let⟨od,ho,hl⟩:=AM I.ns
 ⟨od,⟨I.obj,rfl,rfl,ho⟩,hl⟩
section
variable{prog:υ}{w:ψ}{A:bt}{E:S0}{s:τ}{K:af}{x dx C f:ag}{mA:D0}{name:be}{v:ρ}
theorem CM{Q:S0}(X:K.In s.heap)(I:zo s.heap x dx C mA)(hg:io K C name=true)(hh:jp K C=true)(ha:cS K (.ref C) name=some none)(hv:mA name=some v)(hv':W.handedIn v=true)(h:Q v {s with toks:=s.toks+1}):
  ai (ar prog w) A (getAttr (.ref x) name expr) Q E s:=by
 obtain⟨od,J,hl⟩:=I.look;exact W.get_value X J (NB hg).1 (W.findObj_own hh ha rfl (by rw[hl,hv])) hv' h
theorem BV{Q:ρ×List ρ->τ->Prop}(X:K.In s.heap)(I:zo s.heap x dx C mA)(hg:io K C name=true)(hf:cS K (.ref C) name=some (some (.ref f)))(ht:ly K (.ref f)=true)(hv:mA name=none)(h:Q (.ref f,[.ref x]) s):
  ai (ar prog w) A (mE (.ref x) name pl) Q E s:=by
 obtain⟨od,J,hl⟩:=I.look;exact W.method_fn X J (NB hg).1 (NB hg).2 hf (beq_iff_eq.mp ht) (by show(og name od).map (·.isSome)=some false;rw[hl,hv];rfl) h
theorem Cf{Q:Unit->τ->Prop}(X:K.In s.heap)(I:zo s.heap x dx C mA)(hs:cS K (.ref C) "__setattr__"=some (some (.builtin "object.__setattr__")))(hp:om K C=true)(ht:W.takerIn K C name=some none)(hh:jp K C=true)(hw:kl mA ns)(hsz:ns.length<=sizeLine)(h:∀h',zo h' x dx C (λy=>if y=name then some v else mA y)->bc dx s.heap h'->Q () {s with heap:=h',toks:=s.toks+2}):
  ai (ar prog w) A (setAttr (.ref x) name v) Q E s:=by
 obtain⟨od,J,hl⟩:=I.look;refine W.set_plain X J hs (W.osa_open (s:={s with toks:=s.toks+1}) (r:=none) X J hp ht λb=>?_);obtain⟨cd,hc,hd'⟩:=W.any_some hh;have hx:s.heap.get? x=some ⟨.ref C,some dx,.plain,#[]⟩:=I.obj;refine ao (aM (ao (ao (wpAny_loadPart hx (ao (W.Looks.here (s:={s with toks:=s.toks+1}) (W.looks_clsIn X hc) ?_))))));rw[hd'];refine aM (a:=some dx) (ao (aM (ao ?_)));refine wpAny_nsSet1 (s:={s with toks:=s.toks+1}) I.ns λh' hn2 hs2=>?_;obtain⟨oD,esD,epD,hoD,hdD,hcD⟩:=hn2.count (PySem.Within.cons name v hw);refine ao (wpAny_lookBehind hoD (by rw[hdD];exact pastItsLine_dict (dH hcD (by rw[uL];omega))) ?_);exact aM (h _ ⟨(hs2.2 _ (oV I.ne)).trans I.obj,hn2,I.ne⟩ hs2)
theorem BM{R:Result->τ->Prop}{vs:List ρ}{kw:List (be×ρ)}(X:K.In s.heap)(hm:W.makesIn K C=true)(hi:cS K (.ref C) "__init__"=some (some (.ref f)))(hf:W.typeIn K (.ref f)=some (.type "function"))(h:eM (ar prog w) (A.under (.builtin "type.__call__" ⟨.ref C::vs,kw⟩)) (.call (.ref f) ⟨.ref (s.heap.objs.size+1)::vs,kw⟩) (W.InitBack (s.heap.objs.size+1) R)
   {s with heap:=(s.heap.push ez).push (fE C s.heap.objs.size)}):
  eM (ar prog w) A (.call (.ref C) ⟨vs,kw⟩) R s:=by
 obtain⟨hh,g,d,t,os⟩:=s;exact W.make_core (W.makes_of X hm) (W.looks_findIn X hi) (λself=>W.bind_fn X self hf) (.inl rfl) h
end
noncomputable def qk(f:be)(v:V):List (be×V)->List (be×V)
 |[]=>[(f,v)]
 |(g,x)::r=>if g=f then(g,v)::r else(g,x)::qk f v r
theorem uC(f g)(v):∀fs:List (be×V),(qk f v fs).lookup g=if g=f then some v else fs.lookup g
 |[]=>by
  show dA g [(f,v)]=_;by_cases h:g=f
  ·have hb:(g==f)=true:=beq_iff_eq.mpr h;simp only[dA,hb,au h]
  ·have hb:(g==f)=false:=beq_eq_false_iff_ne.mpr h;simp only[dA,hb,aq h]
 |(k,x)::r=>by
  have ih:=uC f g v r;rw[show qk f v ((k,x)::r)=(if k=f then(k,v)::r else(k,x)::qk f v r)from rfl];by_cases hk:k=f
  ·rw[au hk];by_cases h:g=k
   ·have hb:(g==k)=true:=beq_iff_eq.mpr h;simp only[dA,hb,au (h.trans hk)]
   ·have hb:(g==k)=false:=beq_eq_false_iff_ne.mpr h;simp only[dA,hb,aq (λe:g=f=>h (e.trans hk.symm))]
  ·rw[aq hk];by_cases h:g=k
   ·have hb:(g==k)=true:=beq_iff_eq.mpr h;simp only[dA,hb,aq (λe:g=f=>hk (h.symm.trans e))]
   ·have hb:(g==k)=false:=beq_eq_false_iff_ne.mpr h;simp only[dA,hb];exact ih
theorem uA(f)(v):∀fs:List (be×V),f∈(qk f v fs).map (·.1)/\∀g,g∈fs.map (·.1)->g∈(qk f v fs).map (·.1)
 |[]=>⟨by simp[qk],λg h=>by simp at h⟩
 |(k,x)::r=>by
  obtain⟨i1,i2⟩:=uA f v r;rw[show qk f v ((k,x)::r)=(if k=f then(k,v)::r else(k,x)::qk f v r)from rfl];by_cases hk:k=f
  ·rw[au hk];subst hk;exact⟨by simp,λg h=>by simpa using h⟩
  ·rw[aq hk];refine⟨?_,λg h=>?_⟩
   ·rw[yR];exact fB _ i1
   ·rw[yR]at h⊢;rcases cZ.mp h with e|e
    ·exact cZ.mpr (.inl e)
    ·exact fB _ (i2 g e)
theorem u7(f)(v):∀fs:List (be×V),(qk f v fs).length<=fs.length+1
 |[]=>by simp[qk]
 |(k,x)::r=>by
  have ih:=u7 f v r;rw[show qk f v ((k,x)::r)=(if k=f then(k,v)::r else(k,x)::qk f v r)from rfl];by_cases hk:k=f
  ·rw[au hk,uL,uL];omega
  ·rw[aq hk,uL,uL];omega
theorem tI.some_of(r:tI (some v) o):∃u,o=some u/\RelV v u:=by
 cases o with
 |none=>exact(show False from r).elim
 |some u=>exact⟨u,rfl,r⟩
theorem tI.none_of(r:tI none o):o=none:=by
 cases o with
 |none=>rfl
 |some u=>exact(show False from r).elim
theorem AS(r:RelV v u):W.handedIn u=true:=by
 cases v with
 |non=>cases(show u=ba from r);rfl
 |bl b=>cases(show u=hU b from r);rfl
 |int i=>obtain⟨t,e⟩:=(show∃t,u=bI i t from r);cases e;rfl
 |str x=>obtain⟨t,e⟩:=(show∃t,u=ka x t from r);cases e;rfl
 |byt b=>obtain⟨t,e⟩:=(show∃t,u=Value.bytes b t from r);cases e;rfl
 |flt b=>obtain⟨t,e⟩:=(show∃t,u=Value.float b t from r);cases e;rfl
 |ref a=>cases(show u=aI a from r);rfl
 |ty n=>cases(show u=cx n from r);rfl
section
variable{P:υ}{w:ψ}{H:Hp}{h:bn}{a C dx:ag}{fs:List (be×V)}
theorem xm(hok:tx P w H h)(e:H a=some (.ins C dx fs)):∃mA,zo h a dx C mA/\(∀f,tI (fs.lookup f) (mA f))/\kl mA (fs.map (·.1))/\fs.length<=1000/\H dx=some (.own a):=by
 obtain⟨d,z,ne,ob,mA,n,r,q⟩:=(show qr P w H h a (.ins C dx fs)from hok a _ e);exact⟨mA,⟨ob,n,ne⟩,r,q,z,d⟩
end
structure wm(K:af)(C:ag):Prop where
 pg:io K C Str.empty=true
 hd:jp K C=true
 po:om K C=true
 sa:cS K (.ref C) "__setattr__"=some (some (.builtin "object.__setattr__"))
theorem wm.get{K:af}(c:wm K C)(f):io K C f=true:=c.pg
noncomputable def iF(K:af)(C:ag)(f:be):Prop:=cS K (.ref C) f=some none
theorem iF.taker{K:af}(n:iF K C f):W.takerIn K C f=some none:=by
 unfold W.takerIn;rw[show cS K (.ref C) f=some none from n];rfl
structure CY(K:af)(C:ag)(m:be)(f:ag):Prop where
 at_:cS K (.ref C) m=some (some (.ref f))
 fn:ly K (.ref f)=true
 kp:dL K (.ref f)=true
section
variable{X:Cx}{aa:O0}{σ:St}{H:Hp}{s:τ}{a C dx:ag}{fs:List (be×V)}{f:be}{v:V}{A:bt}{E:S0}
theorem zh{Q:S0}(I:Inv X aa σ H s)(e:H a=some (.ins C dx fs))(c:wm X.K C)(n:iF X.K C f)(l:fs.lookup f=some v)(h:∀u s',Inv X aa σ H s'->RelV v u->Q u s'):ai (ar X.prog X.w) A (getAttr (.ref a) f b) Q E s:=by
 obtain⟨mA,O,r,_,_,_⟩:=xm I.hok e;obtain⟨u,hu,ru⟩:=tI.some_of (v:=v) (o:=mA f) (by rw[<-l];exact r f);exact CM I.kIn O (c.get f) c.hd n hu (AS ru) (h u _ (I.tok _) ru)
theorem vS{Q:ρ×List ρ->τ->Prop}(I:Inv X aa σ H s)(e:H a=some (.ins C dx fs))(c:wm X.K C)(k:CY X.K C m g)(l:fs.lookup m=none)(h:Q (.ref g,[.ref a]) s):ai (ar X.prog X.w) A (mE (.ref a) m pl) Q E s:=by
 obtain⟨mA,O,r,_,_,_⟩:=xm I.hok e;have hn:mA m=none:=tI.none_of (by rw[<-l];exact r m);exact BV I.kIn O (c.get m) k.at_ k.fn hn h
theorem yo{Q:Unit->τ->Prop}(I:Inv X aa σ H s)(e:H a=some (.ins C dx fs))(c:wm X.K C)(n:iF X.K C f)(hl:fs.length<1000)(ry:RelV y u)(h:∀s',Inv X aa σ (upd H a (.ins C dx (qk f y fs))) s'->Q () s'):ai (ar X.prog X.w) A (setAttr (.ref a) f u) Q E s:=by
 obtain⟨mA,O,r,wi,_,ho⟩:=xm I.hok e;have hz:(fs.map (·.1)).length<=sizeLine:=by rw[aD,gF];omega
 refine Cf I.kIn O c.sa c.po n.taker c.hd wi hz λh' O' sb=>h _ ?_;have hd:∃o,h'.get? dx=some o:=let⟨o,_,_,e',_⟩:=O'.ns;⟨o,e'⟩;refine I.write (x:=a) (e:=dx) (by rw[e];exact fq) (.inr ho) (λb q hb z=>(sb.2 b hb).trans z) hd ?_;refine⟨by rw[cF O.ne];exact ho,?_,O.ne,O'.obj,_,O'.ns,λg=>?_,λg hg=>?_⟩
 ·have:=u7 f y fs;omega
 ·show tI ((qk f y fs).lookup g) (if g=f then some u else mA g);rw[uC];by_cases q:g=f
  ·rw[au q,au q];exact ry
  ·rw[aq q,aq q];exact r g
 ·by_cases q:g=f
  ·rw[q];exact(uA f y fs).1
  ·refine(uA f y fs).2 g (wi g λz=>hg ?_);show(if g=f then some u else mA g)=none;rw[aq q];exact z
theorem Inv.made(I:Inv X aa σ H s):Inv X aa σ (upd (upd H s.heap.objs.size (.own (s.heap.objs.size+1))) (s.heap.objs.size+1) (.ins C s.heap.objs.size []))
  {s with heap:=(s.heap.push ez).push (fE C s.heap.objs.size)}:=by
 have e1:(s.heap.push ez).get? s.heap.objs.size=some W.emptyDict:=iQ s.heap rfl;have e2:((s.heap.push ez).push (fE C s.heap.objs.size)).get? (s.heap.objs.size+1)=some (fE C s.heap.objs.size):=by
  have:=iQ (s.heap.push ez) (o:=fE C s.heap.objs.size) rfl
  rwa [wX]at this
 have e3:(s.heap.push ez).Ns s.heap.objs.size (λ_=>none):=⟨ez,#[],_,e1,rfl,(λe he=>absurd he (by simp)),λ_=>rfl⟩;have I1:=I.laid (a:=s.heap.objs.size) (o:=.own (s.heap.objs.size+1)) (h':=s.heap.push ez) (t':=s.toks) (λb u q=>cR _ q) (aP _) ⟨_,e1⟩;refine I1.laid (a:=s.heap.objs.size+1) (o:=.ins C s.heap.objs.size []) (t':=s.toks) (λb u q=>cR _ q) (Ja (wX _ _)) ?_;have ne:s.heap.objs.size≠s.heap.objs.size+1:=fu (wY _);refine⟨by rw[cF ne,aK],dX _,ne,e2,λ_=>none,(Heap.Ns1.of_empty e3).at λo q=>cR _ q,λ_=>fq,λy hy=>absurd rfl hy⟩
theorem CS{Q:S0}(hb:gp e f env (bQ e env)=bQ e env)(h:ai (ar prog w) A (bQ e env) (λo s₁=>ai (ar prog w) A (getAttr o f true) Q E s₁) E s):ai (ar prog w) A (bQ (.Attribute e f pos) env) Q E s:=
 Attribute_any_ h (by rw[arm_eval_Attribute,hb])
end
noncomputable def GO(K:af)(ta:TE)(f:be):TE:=λσ H Q=>ta σ H λx H1=>∃a C dx fs v,x=.ref a/\H1 a=some (.ins C dx fs)/\wm K C/\iF K C f/\fs.lookup f=some v/\Q v H1
noncomputable def N4(K:af)(ta tv:TE)(f:be):TS:=λD σ H=>tv σ H λy H1=>ta σ H1 λx H2=>∃a C dx fs,x=.ref a/\H2 a=some (.ins C dx fs)/\wm K C/\iF K C f/\fs.length<1000/\
 D.nx σ (upd H2 a (.ins C dx (qk f y fs)))
section
variable{X:Cx}{o e value:bp}{f:be}{pos pos':eJ}{ta tv:TE}
theorem rJ(he:PE X e ta)(hb:gp e f X.env (bQ e X.env)=bQ e X.env):PE X (.Attribute e f pos) (GO X.K ta f):=by
 intro aa s σ H Q I h;refine CS hb (pw (he aa s σ H _ I h) λu s1 ⟨x,H1,I1,rx,a,C,dx,fs,v,ex,ea,c,n,l,q⟩=>?_);subst ex;obtain rfl:u=aI a:=rx;exact zh I1 ea c n l λu' s2 I2 ru=>⟨v,H1,I2,ru,q⟩
theorem ut(ha:PE X o ta)(hv:PE X value tv)(hs:gt value (some (.Attribute o f pos')) pos.line X.env=pure false):PS X (.Assign [.Attribute o f pos'] value pos) (N4 X.K ta tv f):=by
 intro aa s σ H D I h;refine plainObj_wpAny_Assign_Attribute (pw (hv aa s σ H _ I h) λu s1 ⟨y,H1,I1,ry,q⟩=>pw (ha aa s1 σ H1 _ I1 q) λov s2 ⟨x,H2,I2,rx,a,C,dx,fs,ex,ea,c,n,l,q2⟩=>?_) hs;subst ex;obtain rfl:ov=aI a:=rx;exact yo I2 ea c n l ry λs3 I3=>⟨σ,_,I3,q2⟩
end
structure qo(k:Nat)(A:bt):Prop where
 hd:A.handled=none
 dp:A.depth+3*k+5<recursionLimit
 un:A.units+16*k+200<gf
 gd:A.guards=some []
theorem qo.mono(r:qo k A)(h:j<=k):qo j A:=⟨r.hd,by have:=r.dp;omega,by have:=r.un;omega,r.gd⟩
theorem qo.deeper(r:qo (k+1) A)(env):qo k (A.deeper env):=
 ⟨r.hd,by have:=r.dp;show A.depth+1+3*k+5<_;omega,by have:=r.un;show A.units+3+16*k+200<_;omega,r.gd⟩
theorem qo.in1(r:qo (k+1) A):qo k A.in1:=
 ⟨r.hd,by have:=r.dp;show A.depth+3*k+5<_;omega,by have:=r.un;show A.units+1+16*k+200<_;omega,r.gd⟩
theorem y4{A:bt}:(A.under (.builtin "type.__call__" ⟨.ref C::us,kw⟩)).depth=A.depth+1:=by
 first |rfl|simp[fT,Code.weight,Code.isCreation,kr,Code.isCaller,Code.frames,ku,guardIds]
theorem yY{A:bt}:(A.under (.builtin "type.__call__" ⟨.ref C::us,kw⟩)).units=A.units+1:=by
 first |rfl|simp[fT,Code.cUnits,Code.frames,ku]
theorem qo.make(r:qo (k+1) A)(C)(us)(kw):qo k (A.under (.builtin "type.__call__" ⟨.ref C::us,kw⟩)):=
 ⟨r.hd,by have:=r.dp;rw[y4];omega,by have:=r.un;rw[yY];omega,by
  have q:=r.gd
  first |exact q|(simp[fT,kr,guardIds];exact q)|(unfold fT;simp[kr,guardIds,q])⟩
theorem qo.depth(r:qo k A):A.depth<recursionLimit:=by have:=r.dp;omega
theorem qo.units(r:qo k A):A.units+64<cLine:=by have:=r.un;omega
theorem qo.units0(r:qo k A):A.units<cLine:=by have:=r.un;omega
noncomputable def Dz:TA:=λ_ H Q=>Q [] H
noncomputable def C2(ta:TE)(tr:TA):TA:=λσ H Q=>ta σ H λx H1=>tr σ H1 λxs H2=>Q (x::xs) H2
section
variable{X:Cx}{e:bp}{es:List bp}{te:TE}{t:TA}{pos:eJ}
theorem ak:PA X [] Dz:=λ_ _ _ _ H Q I h=>Go ⟨[],H,I,.nil,h⟩
theorem aj(ha:PE X e te)(hr:PA X es t)(hs:ax (e::es) X.env=(false,bQ e X.env)::ax es X.env:=by rfl):PA X (e::es) (C2 te t):=by
 intro pos aa s σ H Q I h;rw[hs];show ai _ _ (spliced ((false,bQ e X.env)::dC pos (ax es X.env))) _ _ s;refine GG (pw (ha aa s σ H _ I h) λu s1 ⟨x,H1,I1,r1,q1⟩=>?_);exact pw (hr pos aa s1 σ H1 _ I1 q1) λus s2 ⟨xs,H2,I2,r2,q2⟩=>⟨x::xs,H2,I2,.cons r1 r2,q2⟩
noncomputable def NS(t:TA):TE:=λσ H Q=>t σ H λxs H1=>xs.length<=sizeLine/\∀p,H1 p=none->Q (.ref p) (upd H1 p (.tup xs))
noncomputable def NX(t:TA):TE:=λσ H Q=>t σ H λxs H1=>xs.length<=sizeLine/\∀p,H1 p=none->Q (.ref p) (upd H1 p (.lst xs))
theorem ou{x1}(h:PA X es t):PE X (.Tuple es x1 pos) (NS t):=by
 intro aa s σ H Q I hq;refine wpAny_Tuple_spliced (pw (h pos aa s σ H _ I hq) λus s1 ⟨xs,H1,I1,r,z,q⟩=>⟨by rw[<-r.length];exact z,?_⟩);have hf:H1 s1.heap.objs.size=none:=I1.hok.fresh (aP _);refine⟨.ref s1.heap.objs.size,upd H1 s1.heap.objs.size (.tup xs),I1.laid (t':=s1.toks) (λb u e=>cR _ e) (aP _) ?_,rfl,q _ hf⟩;exact⟨z,us,r,⟨_,iQ _ rfl,rfl,_,rfl⟩⟩
theorem rd(h:PA X es t):PE X (.List es pos) (NX t):=by
 intro aa s σ H Q I hq;refine wpAny_List_spliced (pw (h pos aa s σ H _ I hq) λus s1 ⟨xs,H1,I1,r,z,q⟩=>⟨by rw[<-r.length];exact z,?_⟩);have hf:H1 s1.heap.objs.size=none:=I1.hok.fresh (aP _);refine⟨.ref s1.heap.objs.size,upd H1 s1.heap.objs.size (.lst xs),I1.laid (t':=s1.toks) (λb u e=>cR _ e) (aP _) ?_,rfl,q _ hf⟩;exact⟨z,us,0,r,iQ _ rfl⟩
end
noncomputable abbrev Sp:=List V->Hp->VK->XK->Prop
noncomputable abbrev B7:=List lw->Hp->τ->XK->ρ->τ->Prop
structure we(P:υ)(w:ψ)(K:af)(mg:D0)(base:bn)(A:bt)(outer:List lw)(s:τ)(H:Hp):Prop where
 frames:A.frames=some outer
 mod:Mod K mg base
 bs:∀b o,base.get? b=some o->s.heap.get? b=some o/\H b=none
 bsz:base.objs.size<=s.heap.objs.size
 funs:s.heap.FunFrames base outer
 frf:∀b∈AU outer,H b=none
 hok:tx P w H s.heap
 bare:fI s.gens
noncomputable def CE(outer:List lw)(P:υ)(w:ψ)(H:Hp)(s:τ)(Q:VK)(u:ρ)(s':τ):Prop:=
 ∃v H',s'.os=s.os/\fI s'.gens/\Un (AU outer) [] H H' s.heap s'.heap/\tx P w H' s'.heap/\RelV v u/\Q v H'
noncomputable def CR(CX:B7)(outer:List lw)(P:υ)(w:ψ)(H:Hp)(s:τ)(Q:VK)(E:XK)(r:Result)(s':τ):Prop:=
 match r with
 | .ok (.ret u)=>CE outer P w H s Q u s'
 | .ok _=>False
 | .error e=>CX outer H s E e s'
structure gx(P:υ)(w:ψ)(K:af)(mg:D0)(base:bn)(CX:B7)(k:Nat)(f:ag)(fd:χ)(ps:List be)(sp:Sp):Prop where
 len:∀vs H Q E,sp vs H Q E->vs.length=ps.length
 run:∀(A:bt) (outer:List lw) (s:τ) (H:Hp) (args:Args) (us:List ρ) (vs:List V) (Q:VK) (E:XK),qo k A->we P w K mg base A outer s H->kx s fd args (ps.zip us)->iN vs us->sp vs H Q E->
  eM (ar P w) A (.call (.ref f) args) (CR CX outer P w H s Q E) s
theorem gx.mono{K:af}(F:gx P w K mg base CX j f fd ps sp)(h:j<=k):
  gx P w K mg base CX k f fd ps sp:=⟨F.len,λA outer s H args us vs Q E hr=>F.run A outer s H args us vs Q E (hr.mono h)⟩
theorem we.make{K:af}(e:we P w K mg base A outer s H)(C)(us)(kw):
  we P w K mg base (A.under (.builtin "type.__call__" ⟨.ref C::us,kw⟩)) outer s H:=⟨by first |exact e.frames|(simpa[fT,Code.envs,ku,pushEnvs]using e.frames),e.mod,e.bs,e.bsz,e.funs,e.frf,e.hok,e.bare⟩
theorem we.in1{K:af}(e:we P w K mg base A outer s H):
  we P w K mg base A.in1 outer s H:=⟨e.frames,e.mod,e.bs,e.bsz,e.funs,e.frf,e.hok,e.bare⟩
section
variable{X:Cx}{aa:O0}{σ:St}{H:Hp}{s s':τ}
theorem Inv.env0(I:Inv X aa σ H s):we X.prog X.w X.K X.mg X.base X.A X.stack s H:=
 ⟨I.ok.frames,I.ok.mod,I.bs,dH I.ok.bsz I.sz,I.stack,I.stkFree,I.hok,I.bare⟩
theorem Inv.after(I:Inv X aa σ H s)(h:CE X.stack X.prog X.w H s Q u s'):EP X aa σ Q u s':=by
 obtain⟨v,H',os,bare,un,hok,r,q⟩:=h;obtain⟨hh,g,d,t,os'⟩:=s';obtain rfl:os'=s.os:=os;exact⟨v,H',I.call (h':=hh) (g':=g) (d':=d) (t':=t) (ch:=[]) un hok bare (λb z=>absurd z (by simp)),r,q⟩
end
noncomputable def Be(sp:Sp)(dvs:List V)(E:XK)(t:TA):TE:=λσ H Q=>t σ H λvs H1=>sp (vs++dvs) H1 Q E
noncomputable def C1(C:ag)(m:be)(sp:Sp)(dvs:List V)(E:XK)(ta:TE)(t:TA):TE:=λσ H Q=>ta σ H λx H1=>∃a dx fs,x=.ref a/\H1 a=some (.ins C dx fs)/\fs.lookup m=none/\
 t σ H1 λvs H2=>sp (x::(vs++dvs)) H2 Q E
noncomputable def GN(C:ag)(sp:Sp)(dvs:List V)(E:XK)(t:TA):TE:=λσ H Q=>t σ H λvs H1=>∀x dx,H1 x=none->H1 dx=none->dx≠x->
 sp (.ref x::(vs++dvs)) (upd (upd H1 dx (.own x)) x (.ins C dx [])) (λv H2=>v=.non/\Q (.ref x) H2) E
noncomputable def Binds(K:af)(fd:χ)(ps:List be)(ds:List ρ):Prop:=
 ∀(s:τ) (us:List ρ),K.In s.heap->(us++ds).length=ps.length->kx s fd ⟨us,[]⟩ (ps.zip (us++ds))
theorem Binds.all{K:af}(h:∀us:List ρ,us.length=ps.length->fi fd ⟨us,[]⟩=pure (ps.zip us)):Binds K fd ps []:=λs us _ hl=>by
 rw[xr]at hl⊢;exact .of_eq (h us hl)
noncomputable def sB(CX:B7)(X:Cx)(E:XK):Prop:=∀(aa:O0) (σ:St) (H:Hp) (s:τ) (e:ρ) (s':τ),Inv X aa σ H s->CX X.stack H s E e s'->X.xe e s'
section
variable{X:Cx}{CX:B7}{k:Nat}{f C:ag}{fd:χ}{ps:List be}{sp:Sp}{dvs:List V}{ds:List ρ}{E:XK}{x m:be}{p pos apos:eJ}{e o:bp}{es:List bp}{ta:TE}{t:TA}
theorem yv{aa:O0}{σ:St}{H:Hp}{s:τ}{Q:VK}{us:List ρ}{vs:List V}(F:gx X.prog X.w X.K X.mg X.base CX k f fd ps sp)(hr:qo k X.A)(hb:Binds X.K fd ps ds)(hd:iN dvs ds)(hx:sB CX X E)
  (I:Inv X aa σ H s)(r:iN vs us)(h:sp (vs++dvs) H Q E):ai (ar X.prog X.w) X.A (call (.ref f) us) (EP X aa σ Q) X.xe s:=by
 have r2:iN (vs++dvs) (us++ds):=r.append hd;have hl:(us++ds).length=ps.length:=by rw[<-r2.length];exact F.len _ _ _ _ h
 refine EV (SX (F.run X.A X.stack s H ⟨us,[]⟩ (us++ds) (vs++dvs) Q E hr I.env0 (hb s us I.kIn hl) r2 h) λr s' hq=>?_);cases r with
 |error e=>exact hx aa σ H s e s' I hq
 |ok fl=>
  cases fl with
  |ret u=>exact I.after hq
  |next=>exact bS hq
  |brk=>exact bS hq
  |cont=>exact bS hq
theorem vi(F:gx X.prog X.w X.K X.mg X.base CX k f fd ps sp)(hr:qo k X.A)(hg:Gl X x)(hm:X.mg x=some (.ref f))(hk:dL X.K (.ref f)=true)(hb:Binds X.K fd ps ds)(hd:iN dvs ds)(hx:sB CX X E)(ha:PA X (e::es) t)(hdb:(x==("__debug__":be))=false:=by decide)(he:ax (e::es) X.env=(false,bQ e X.env)::ax es X.env:=by rfl)(hpl:(dC pos (ax es X.env)).any (·.1)=false:=by rfl):
  PE X (.Call (.Name x p) (e::es) [] pos) (Be sp dvs E t):=by
 intro aa s σ H Q I h;refine S9 (vj I hg hm ?_ hdb);refine Nw (h₀:=X.base) I.ok.mod.kin hk (pw (ha pos aa s σ H _ I h) λus s1 ⟨vs,H1,I1,r,q⟩=>⟨I1.kIn,?_⟩) he hpl;exact yv F hr hb hd hx I1 r q
theorem r9{pl:Sem Bool}(he:PE X o ta)(c:wm X.K C)(hm:CY X.K C m f)(F:gx X.prog X.w X.K X.mg X.base CX k f fd ps sp)(hr:qo k X.A)(hb:Binds X.K fd ps ds)(hd:iN dvs ds)(hx:sB CX X E)(ha:PA X (e::es) t)(hst:ax (e::es) X.env=(false,bQ e X.env)::ax es X.env:=by rfl)(hpl:(dC pos (ax es X.env)).any (·.1)=false:=by rfl)(ht:bQ (.Call (.Attribute o m apos) (e::es) [] pos) X.env=(do
   let ov<-bQ o X.env
   iS apos.atName
   let(f,first)<-eu [ov] (mE ov m pl)
   callWith pos f first (dC pos (ax (e::es) X.env)) (gu pos (eB [] X.env))):=by rfl):
  PE X (.Call (.Attribute o m apos) (e::es) [] pos) (C1 C m sp dvs E ta t):=by
 intro aa s σ H Q I h;refine OS (pl:=pl) (pw (he aa s σ H _ I h) λu s1 ⟨x,H1,I1,rx,a,dx,fs,ex,ea,l,q⟩=>?_) ht;subst ex;obtain rfl:u=aI a:=rx;refine vS I1 ea c hm l ?_;refine Nw (first:=[.ref a]) (h₀:=X.base) I.ok.mod.kin hm.kp (pw (ha pos aa s1 σ H1 _ I1 q) λus s2 ⟨vs,H2,I2,r,q2⟩=>⟨I2.kIn,?_⟩) hst hpl;exact yv (us:=.ref a::us) (vs:=.ref a::vs) F hr hb hd hx I2 (.cons rfl r) q2
theorem vy{pl:Sem Bool}(he:PE X o ta)(c:wm X.K C)(hm:CY X.K C m f)(F:gx X.prog X.w X.K X.mg X.base CX k f fd ps sp)(hr:qo k X.A)(hb:Binds X.K fd ps ds)(hd:iN dvs ds)(hx:sB CX X E)(ht:bQ (.Call (.Attribute o m apos) [] [] pos) X.env=(do
   let ov<-bQ o X.env
   iS apos.atName
   let(f,first)<-eu [ov] (mE ov m pl)
   callWith pos f first (dC pos (ax [] X.env)) (gu pos (eB [] X.env))):=by rfl):
  PE X (.Call (.Attribute o m apos) [] [] pos) (C1 C m sp dvs E ta Dz):=by
 intro aa s σ H Q I h;refine OS (pl:=pl) (pw (he aa s σ H _ I h) λu s1 ⟨x,H1,I1,rx,a,dx,fs,ex,ea,l,q⟩=>?_) ht;subst ex;obtain rfl:u=aI a:=rx;refine vS I1 ea c hm l ?_;exact W.callWith_K0 (first:=[.ref a]) I1.kIn hm.kp (yv (us:=[.ref a]) (vs:=[.ref a]) F hr hb hd hx I1 (.cons rfl .nil) q)
structure Mk(K:af)(C f:ag):Prop where
 makes:W.makesIn K C=true
 init:cS K (.ref C) "__init__"=some (some (.ref f))
 fn:ly K (.ref f)=true
 kp:dL K (.ref C)=true
theorem By{σ:St}(M:Mk X.K C f)(F:gx X.prog X.w X.K X.mg X.base CX k f fd ps sp)(hr:qo (k+1) X.A)(hb:Binds X.K fd ps ds)(hd:iN dvs ds)(hx:sB CX X E)(I:Inv X aa σ H s)(r:iN vs us)(h:∀x dx,H x=none->H dx=none->dx≠x->sp (.ref x::(vs++dvs)) (upd (upd H dx (.own x)) x (.ins C dx [])) (λv H2=>v=.non/\Q (.ref x) H2) E):
  ai (ar X.prog X.w) X.A (call (.ref C) us) (EP X aa σ Q) X.xe s:=by
 have hq:=h (s.heap.objs.size+1) s.heap.objs.size (I.hok.fresh (Bx _)) (I.hok.fresh (aP _)) (fu (wY _));have I2:=Inv.made (C:=C) I;have r2:iN (V.ref (s.heap.objs.size+1)::(vs++dvs)) (aI (s.heap.objs.size+1)::(us++ds)):=.cons rfl (r.append hd);have hl:(aI (s.heap.objs.size+1)::us++ds).length=ps.length:=by
  have e:=r2.length;rw[F.len _ _ _ _ hq]at e;exact e.symm
 refine EV (BM (f:=f) I.kIn M.makes M.init (beq_iff_eq.mp M.fn) (SX (F.run _ X.stack _ _ ⟨aI (s.heap.objs.size+1)::us,[]⟩ (aI (s.heap.objs.size+1)::(us++ds)) _ _ E (hr.make C us [])
  (I2.env0.make C us []) (hb _ (aI (s.heap.objs.size+1)::us) I2.kIn hl) r2 hq) λr s' hq'=>?_))
 cases r with
 |error e=>exact hx aa σ _ _ e s' I2 hq'
 |ok fl=>
  cases fl with
  |ret u=>
   obtain⟨v,H',I3,rv,ev,q3⟩:=I2.after hq';subst ev;exact⟨rv,⟨V.ref (s.heap.objs.size+1),H',I3,rfl,q3⟩⟩
  |next=>exact bS hq'
  |brk=>exact bS hq'
  |cont=>exact bS hq'
theorem CA(M:Mk X.K C f)(F:gx X.prog X.w X.K X.mg X.base CX k f fd ps sp)(hr:qo (k+1) X.A)(hg:Gl X x)(hm:X.mg x=some (.ref C))(hb:Binds X.K fd ps ds)(hd:iN dvs ds)(hx:sB CX X E)(ha:PA X (e::es) t)(hdb:(x==("__debug__":be))=false:=by decide)(he:ax (e::es) X.env=(false,bQ e X.env)::ax es X.env:=by rfl)(hpl:(dC pos (ax es X.env)).any (·.1)=false:=by rfl):
  PE X (.Call (.Name x p) (e::es) [] pos) (GN C sp dvs E t):=by
 intro aa s σ H Q I h;refine S9 (vj I hg hm ?_ hdb);refine Nw (h₀:=X.base) I.ok.mod.kin M.kp (pw (ha pos aa s σ H _ I h) λus s1 ⟨vs,H1,I1,r,q⟩=>⟨I1.kIn,?_⟩) he hpl;exact By M F hr hb hd hx I1 r q
end
noncomputable def PK(X:Cx)(kws:List on)(t:TA):Prop:=
 ∀(pos:eJ) (aa:O0) (s:τ) (σ:St) (H:Hp) (Q:List V->Hp->Prop),Inv X aa σ H s->t σ H Q->ai (ar X.prog X.w) X.A (evalAll ((gu pos (eB kws X.env)).map (·.2))) (AP X aa σ Q) X.xe s
section
variable{X:Cx}{x:be}{pos kpos:eJ}{e:bp}{kws:List on}{te:TE}{t:TA}{nm:Option be}
theorem yN:PK X [] Dz:=λ_ _ _ _ H Q I h=>wpAny_evalAll_nil ⟨[],H,I,.nil,h⟩
theorem ju(ha:PE X e te)(hr:PK X kws t):PK X (⟨nm,e,kpos⟩::kws) (C2 te t):=by
 intro pos aa s σ H Q I h;show ai _ _ (evalAll ((do let v<-bQ e X.env;iS pos;pure v)::(gu pos (eB kws X.env)).map (·.2))) _ _ s;refine wpAny_evalAll_cons (ao (pw (ha aa s σ H _ I h) λu s1 ⟨x,H1,I1,r1,q1⟩=>ao (JP (aM ?_))));exact pw (hr pos aa s1 σ H1 _ I1 q1) λus s2 ⟨xs,H2,I2,r2,q2⟩=>⟨x::xs,H2,I2,.cons r1 r2,q2⟩
end
structure se(N P:List be)(sc:dQ):Prop where
 kind:sc.kind=.function
 co:sc.isCoroutine=false
 gen:sc.isGenerator=false
 nd:N.Nodup
 pre:N.take P.length=P
 par:∀x∈P,sc.names.lookup x=some .local\/sc.names.lookup x=some .cell
 nofree:∀y∈sc.names,y.2≠.free
theorem wP{kindOf:be->Option cy}:∀{binds:List (be×ρ)}{m:D0},(∀v,(x,v)∉binds)->mG kindOf binds m x=m x
 |[],_,_=>rfl
 |(n,v)::r,m,h=>by
  unfold mG;rw[wP λw hw=>h w (fB _ hw)];split
  ·have:x≠n:=by rintro rfl;exact h v dZ
   simp[this]
  ·rfl
theorem wT{kindOf:be->Option cy}:∀{binds:List (be×ρ)}{m:D0},(∀v,(x,v)∉binds)->mN kindOf binds m x=m x
 |[],_,_=>rfl
 |(n,v)::r,m,h=>by
  unfold mN;rw[wT λw hw=>h w (fB _ hw)];split
  ·rfl
  ·have:x≠n:=by rintro rfl;exact h v dZ
   simp[this]
theorem wS{kindOf:be->Option cy}:∀{P:List be}{vs:List ρ}{i:Nat}{m:D0},P.Nodup->P[i]? =some x->vs[i]? =some v->kindOf x=some .local->
  mG kindOf (P.zip vs) m x=some v
 |[],_,_,_,_,h,_,_=>by simp at h
 |_::_,[],_,_,_,_,h,_=>by simp at h
 |p::P,w::vs,0,m,nd,h1,h2,hk=>by
  simp at h1 h2;subst h1;subst h2;show mG kindOf ((p,w)::P.zip vs) m p=_;unfold mG;rw[wP λv hv=>(Kr.mp nd).1 (MS hv).1,au hk];simp
 |p::P,w::vs,i+1,m,nd,h1,h2,hk=>by
  show mG kindOf ((p,w)::P.zip vs) m x=_;unfold mG;exact wS (i:=i) (Kr.mp nd).2 (by simpa using h1) (by simpa using h2) hk
theorem w9{kindOf:be->Option cy}:∀{P:List be}{vs:List ρ}{i:Nat}{m:D0},P.Nodup->P[i]? =some x->vs[i]? =some v->kindOf x≠some .local->
  mN kindOf (P.zip vs) m x=some v
 |[],_,_,_,_,h,_,_=>by simp at h
 |_::_,[],_,_,_,_,h,_=>by simp at h
 |p::P,w::vs,0,m,nd,h1,h2,hk=>by
  simp at h1 h2;subst h1;subst h2;show mN kindOf ((p,w)::P.zip vs) m p=_;unfold mN;rw[wT λv hv=>(Kr.mp nd).1 (MS hv).1,aq hk];simp
 |p::P,w::vs,i+1,m,nd,h1,h2,hk=>by
  show mN kindOf ((p,w)::P.zip vs) m x=_;unfold mN;exact w9 (i:=i) (Kr.mp nd).2 (by simpa using h1) (by simpa using h2) hk
noncomputable def start(N:List be)(vs:List V):St:=vs.map some++ah (N.length-vs.length) none
noncomputable def xp(CX:B7)(P:υ)(w:ψ)(K:af)(mg:D0)(base:bn)(N:List be)(qual:be)(scope:dQ)(f:ag)(cd:ρ)(A:bt)(outer:List lw)(s:τ)(H:Hp)(E:XK):Cx where
 prog:=P
 w:=w
 K:=K
 mg:=mg
 base:=base
 A:=A.deeper (envOfC qual scope s.heap.objs.size f cd)
 N:=N
 s₀:=s
 H₀:=H
 env:=envOfC qual scope s.heap.objs.size f cd
 outer:=outer
 stack:=envOfC qual scope s.heap.objs.size f cd::outer
 ex:=[]
 calm:=true
 fn:=λ_=>true
 pn:=[]
 xe:=λe s'=>ai (ar P w) (A.deeper (envOfC qual scope s.heap.objs.size f cd)) (leaving (envOfC qual scope s.heap.objs.size f cd) e) (λ_ s''=>CX outer H s E e s'') (λe' s''=>CX outer H s E e' s'') s'
theorem yb{sc:dQ}(h:sc.names.lookup x=some .cell):∃c,(cf n sc.names []).lookup x=some c:=by
 have q:=OV sc.names n [] (.inl h);exact Option.isSome_iff_exists.mp q
theorem AQ{CX:B7}{P:υ}{w:ψ}{K:af}{mg:D0}{base:bn}{N ps:List be}{qual:be}{scope:dQ}{f:ag}{cd:ρ}{A:bt}{outer:List lw}{s s1:τ}{H:Hp}{E:XK}{us:List ρ}{vs:List V}
  (S:se N ps scope)(hd:A.handled=none)(e0:we P w K mg base A outer s H)(hl:vs.length=ps.length)(r:iN vs us)(x:InCallC s s.heap.objs.size (mG (envOfC qual scope s.heap.objs.size f cd).kindOf (ps.zip us) λ_=>none) (cf (s.heap.objs.size+1) scope.names []) (mN (envOfC qual scope s.heap.objs.size f cd).kindOf (ps.zip us) λ_=>none) s1):
  Inv (xp CX P w K mg base N qual scope f cd A outer s H E) [] (start N vs) H s1:=by
 have hpl:ps.length<=N.length:=by have:=jQ df S.pre;rw[nR]at this;omega
 obtain⟨h1,tk,rfl,hk⟩:=x.done;have noA:∀b:ag,b∉(xp CX P w K mg base N qual scope f cd A outer s H E).ex:=λb z=>absurd (show b∈([]:η)from z) (by simp);refine⟨⟨e0.mod,S.kind,rfl,rfl,aP _,λy z c h1 h2=>?_,λy hy=>?_,λy c _ h=>?_,λ_=>hd,ky e0.frames,.inr ⟨rfl,rfl⟩,λb z=>absurd z (noA b),e0.bs,e0.bsz,λb _ _=>noA b,λb z=>absurd z (noA b),e0.funs,e0.frf⟩,
  rfl,e0.bare,Un.kept hk,⟨_,x.toInCall.ns,λi y v h1 h2 h3=>?_⟩,λy c h=>⟨_,x.cell y c h⟩,e0.hok.fresh (aP _),λy c h=>?_,λp hp=>absurd (show p∈([]:O0)from hp) (by simp),e0.hok.kept hk,?_⟩
 ·exact name_of_addr x.apart (Fy h1) (Fy h2)
 ·have hy:scope.names.lookup y=some .cell\/scope.names.lookup y=some .free:=hy;rcases hy with hy|hy
  ·exact yb hy
  ·exact absurd rfl (S.nofree _ (Fy hy))
 ·exact dW (x.above y c (Fy h))
 ·have hi:i<vs.length:=by
   unfold start at h2;by_cases hi:i<vs.length
   ·exact hi
   ·rw[EQ (by simpa using hi)]at h2;rw[List.getElem?_replicate]at h2;split at h2<;>cases h2
  have ha:vs[i]? =some v:=by
   unfold start at h2;rw[FI (by simpa using hi),dI]at h2;cases e:vs[i]? with
   |none=>rw[e]at h2;cases h2
   |some a=>rw[e]at h2;cases h2;rfl
  obtain⟨u,hu,rv⟩:=r.get ha;have hp:ps[i]? =some y:=by
   rw[<-S.pre,Ps (by omega)];exact h1
  have ndP:ps.Nodup:=by rw[<-S.pre];exact S.nd.sublist (Na _ _)
  refine⟨u,rv,?_⟩;rcases S.par y (oF hp)with k|k
  ·exact .inl ⟨k,wS ndP hp hu k⟩
  ·obtain⟨c,e⟩:=yb (n:=s.heap.objs.size+1) k;refine .inr ⟨.inl k,c,e,?_⟩;have q:=x.cell y c e;rw[w9 ndP hp hu (by show scope.names.lookup y≠_;rw[k];decide)]at q;exact q
 ·exact e0.hok.fresh (dW (x.above y c (Fy h)))
 ·unfold start;show _=N.length;rw[lN,aD,Kw];omega
theorem C8{CX:B7}{P:υ}{w:ψ}{K:af}{mg:D0}{base:bn}{k:Nat}{f:ag}{name qual:be}{params:Arguments}{body:List fz}{scope:dQ}{dV kV doc pm cdv ct oc:ρ}{an od:Option ag}{osl:Array (Option ρ)}{N ps:List be}{sp:Sp}(lk:K.lookup f=some ⟨oc,od,.func (eW name qual params body scope dV kV doc pm an cdv ct),osl⟩)(hcd:hZ K cdv qual=true)(S:se N ps scope)(len:∀vs H Q E,sp vs H Q E->vs.length=ps.length)(hbody:∀(A:bt) (outer:List lw) (s:τ) (H:Hp) (vs:List V) (Q:VK) (E:XK),qo k (A.deeper (envOfC qual scope s.heap.objs.size f cdv))->sp vs H Q E->
   ∃t,xx (xp CX P w K mg base N qual scope f cdv A outer s H E) body t/\t {nx:=λ_ H'=>Q .non H',rt:=Q} (start N vs) H):
  gx P w K mg base CX (k+1) f (eW name qual params body scope dV kV doc pm an cdv ct) ps sp:=by
 refine⟨len,λA outer s H args us vs Q E hr e0 hb r hsp=>?_⟩;have hl:=len _ _ _ _ hsp;have KX:K.In s.heap:=e0.mod.kin.keeps λb o e=>(e0.bs b o e).1;have lim:s.heap.NoLimit:=e0.mod.nolimit.keeps λb o e=>(e0.bs b o e).1;have hkind:∀y∈ps.zip us,scope.names.lookup y.1=some .local\/(scope.names.lookup y.1=some .cell/\((cf (s.heap.objs.size+1) scope.names []).lookup y.1).isSome=true):=λ⟨n,v⟩ hy=>by
  rcases S.par n (MS hy).1 with q|q
  ·exact .inl q
  ·exact .inr ⟨q,OV _ _ _ (.inl q)⟩
 refine codeAny_call_function hr.depth (KX _ _ lk) rfl S.co S.gen rfl (W.codeRec_of KX hcd) (hb _ _ _ _ ?_);refine wpAny_newFunctionEnv_cells S.kind hkind λenv he s1 x=>?_;subst he;refine⟨lim.keeps x.toInCall.keep,codeAny_func ?_⟩;obtain⟨t,ht,hq⟩:=hbody A outer s H vs Q E (hr.deeper _) hsp;have I:Inv (xp CX P w K mg base N qual scope f cdv A outer s H E) [] (start N vs) H s1:=AQ S hr.hd e0 hl r x;refine Jd (ht [] s1 (start N vs) H _ I hq) (λfl s' hs=>?_) λe s' hs=>hs;have fin:∀{σ':St}{H':Hp}{v:V}{u:ρ},Inv (xp CX P w K mg base N qual scope f cdv A outer s H E) [] σ' H' s'->RelV v u->Q v H'->CE outer P w H s Q u s':=
  λ{σ' H' v u} J rv q=>⟨v,H',J.os,J.bare,J.base,J.hok,rv,q⟩
 cases fl with
 |ret u=>
  obtain⟨v,σ',H',J,rv,q⟩:=hs;exact fin J rv q
 |next=>
  obtain⟨σ',H',J,q⟩:=hs;exact fin (v:=V.non) (u:=ba) J rfl q
 |brk=>
  obtain⟨_,_,_,q⟩:=hs;exact bS q
 |cont=>
  obtain⟨_,_,_,q⟩:=hs;exact bS q
section
variable{X:Cx}{x:be}{p pos:eJ}{e:bp}{es:List bp}{t:TA}{id T:String}{r:List V->Hp->VK->Prop}
noncomputable def LF(r:List V->Hp->VK->Prop)(t:TA):TE:=λσ H Q=>t σ H λvs H1=>r vs H1 Q
theorem BE(hc:qV X (.builtin id) r)(hg:Gl X x)(hm:X.mg x=none)(hv:br x=some (.builtin id))(ha:PA X (e::es) t)(hn:x≠"__name__":=by decide)(hdb:(x==("__debug__":be))=false:=by decide)(he:ax (e::es) X.env=(false,bQ e X.env)::ax es X.env:=by rfl)(hpl:(dC pos (ax es X.env)).any (·.1)=false:=by rfl):PE X (.Call (.Name x p) (e::es) [] pos) (LF r t):=by
 intro aa s σ H Q I h;refine S9 (Bv I hg hm hv ?_ hn hdb);exact PU (pw (ha pos aa s σ H _ I h) λus s1 ⟨vs,H1,I1,r1,q1⟩=>hc aa s1 σ H1 vs us Q I1 r1 q1) he hpl
theorem pB{X:Cx}{x:be}{id:String}{r:List V->Hp->VK->Prop}{e:bp}{es:List bp}{t:TA}{p pos:eJ}(hc:qV X (.builtin id) r)(hm:X.mg x=none)(ha:PA X (e::es) t)(hg:Gl X x:=by rfl)(hv:br x=some (.builtin id):=by decide+kernel)(hn:x≠"__name__":=by decide)(hdb:(x==("__debug__":be))=false:=by decide)(he:ax (e::es) X.env=(false,bQ e X.env)::ax es X.env:=by rfl)(hpl:(dC pos (ax es X.env)).any (·.1)=false:=by rfl):PE X (.Call (.Name x p) (e::es) [] pos) (LF r t):=BE hc hg hm hv ha hn hdb he hpl
theorem AJ(hc:qV X (.type T) r)(hg:Gl X x)(hm:X.mg x=none)(hv:br x=some (.type T))(ha:PA X (e::es) t)(hn:x≠"__name__":=by decide)(hdb:(x==("__debug__":be))=false:=by decide)(he:ax (e::es) X.env=(false,bQ e X.env)::ax es X.env:=by rfl)(hpl:(dC pos (ax es X.env)).any (·.1)=false:=by rfl):PE X (.Call (.Name x p) (e::es) [] pos) (LF r t):=by
 intro aa s σ H Q I h;refine S9 (Bv I hg hm hv ?_ hn hdb);exact KD (pw (ha pos aa s σ H _ I h) λus s1 ⟨vs,H1,I1,r1,q1⟩=>hc aa s1 σ H1 vs us Q I1 r1 q1) he hpl
theorem pT{X:Cx}{x:be}{T:String}{r:List V->Hp->VK->Prop}{e:bp}{es:List bp}{t:TA}{p pos:eJ}(hc:qV X (.type T) r)(hm:X.mg x=none)(ha:PA X (e::es) t)(hg:Gl X x:=by rfl)(hv:br x=some (.type T):=by decide+kernel)(hn:x≠"__name__":=by decide)(hdb:(x==("__debug__":be))=false:=by decide)(he:ax (e::es) X.env=(false,bQ e X.env)::ax es X.env:=by rfl)(hpl:(dC pos (ax es X.env)).any (·.1)=false:=by rfl):PE X (.Call (.Name x p) (e::es) [] pos) (LF r t):=AJ hc hg hm hv ha hn hdb he hpl
end
end L2
namespace HT
open PySem PyProof.Rows
noncomputable def lexLt:ζ->ζ->Bool
 |[],[]=>false
 |[],_::_=>true
 |_::_,[]=>false
 |x::xs,y::ys=>if x=y then lexLt xs ys else decide (x<y)
theorem lexLt_cons(x y)(xs ys):lexLt (x::xs) (y::ys)=if x=y then lexLt xs ys else decide (x<y):=rfl
theorem lexLt_nil_nil:lexLt [] []=false:=rfl
theorem lexLt_nil_cons(y)(ys):lexLt [] (y::ys)=true:=rfl
theorem lexLt_cons_nil(x)(xs):lexLt (x::xs) []=false:=rfl
theorem BY(A)(s)(a)(t)(c)(u):∃e,i0 A s (.int a t) (.int c u) e/\(e=true↔a=c):=
 ⟨(a==c),SeqAt.EqAt.int_int a t c u,by simp⟩
theorem Bz(A)(s)(a)(t)(c)(u)(prog)(w)(E:S0)(Q:S0)(h:Q (.bool (decide (a<c))) s):
  ai (ar prog w) A (richCompare .Lt (.int a t) (.int c u)) Q E s:=
 (PyProof.Rows.lt_int h:ai (ar prog w) A (bo .Lt (.int a t) (.int c u)) Q E s)
section
open PySem.SeqAt
open PySem.AutoSeq1 (wpAny_loadPart')
open PySem.MeetsSeq PySem.MeetsSeq2 PySem.MeetsSeq3
theorem v5(l b)(items items2)(n n2)(dd dd2)(sl sl2)(ns ms)(hi:bP items.toList ns)(hj:bP items2.toList ms):
  kd (Builtin.«tuple.__lt__» ⟨[.ref l,.ref b],[]⟩)
   (λ_ R s=>s.heap.get? l=some {cls:=.type "tuple",dict:=dd,data:=.seq items n,slots:=sl}/\s.heap.get? b=some {cls:=.type "tuple",dict:=dd2,data:=.seq items2 n2,slots:=sl2}/\
    R (.ok (.ret (.bool (lexLt ns ms)))) s):=
 .of_wp λprog w A R s h=>by
  obtain⟨hp,g,d,tk,os⟩:=s;obtain⟨hl,hb,h⟩:=h;have f2:=AutoSeq1.sub_tuple_tuple;have z1:items.size=ns.length:=by rw[<-hi.length];simp
  have z2:items2.size=ms.length:=by rw[<-hj.length];simp
  wp_walk using wpAny_loadPart' hl,wpAny_loadPart' hb,wpAny_forIn_list _ (λrest b s'=>b.1=none/\s'=⟨hp,g,d,tk,os⟩/\∃(vs ws:List ρ) (ns' ms':ζ),rest=vs.zip ws/\
   bP vs ns'/\bP ws ms'/\ns'.length+items2.size=ms'.length+items.size/\R (.ok (.ret (.bool (lexLt ns' ms')))) ⟨hp,g,d,tk,os⟩) _
  case turn=>
   rintro⟨y,x⟩ rest b s' ⟨hb',rfl,vs,ws,ns',ms',hz,hvi,hwi,ac,hR⟩;cases hvi with
   |nil=>rw[oo]at hz;cases hz
   |cons a t hvi'=>
    cases hwi with
    |nil=>rw[mP]at hz;cases hz
    |cons c u hwi'=>
     rw[No]at hz;injection hz with hyx hrest
     injection hyx with hy hx
     subst hy hx;rw[lexLt_cons]at hR;simp only[uL]at ac;obtain⟨e,he,hiff⟩:=BY A.in1 ⟨hp,g,d,tk,os⟩ a t c u;refine ao (he prog w _ _ ?_);cases e with
     |true=>
      rw[au (hiff.mp rfl)]at hR
      wp_walk
      exact⟨rfl,rfl,_,_,_,_,hrest,hvi',hwi',by omega,hR⟩
     |false=>
      rw[aq (λq=>absurd (hiff.mpr q) ux)]at hR;have hri:=Bz A.in1 ⟨hp,g,d,tk,os⟩ a t c u prog w
      wp_walk using hri
      exact⟨_,rfl,by simpa using hR⟩
  case fin=>
   rintro⟨b1,b2⟩ s' ⟨hb',rfl,vs,ws,ns',ms',hz,hvi,hwi,ac,hR⟩;simp only at hb';subst hb';have hv:lexLt ns' ms'=decide (items.size<items2.size):=by
    cases hvi with
    |nil=>
     cases hwi with
     |nil=>
      simp only[SJ]at ac;rw[lexLt_nil_nil];exact(gY (by omega)).symm
     |cons c u hw=>
      simp only[SJ,uL]at ac;rw[lexLt_nil_cons];exact(cI (by omega)).symm
    |cons a t hv=>
     cases hwi with
     |nil=>
      simp only[SJ,uL]at ac;rw[lexLt_cons_nil];exact(gY (by omega)).symm
     |cons c u hw=>
      rw[No]at hz;cases hz
   rw[hv]at hR
   wp_walk
   exact⟨_,rfl,by simpa[Builtin.Tuple.tupleCompareSizes]using hR⟩
  case h=>
   exact⟨rfl,rfl,items.toList,items2.toList,ns,ms,rfl,hi,hj,by omega,h⟩
end
section
variable{prog:υ}{w:ψ}{A:bt}{E:S0}{s:τ}
theorem lt_tupInts{Q:S0}(hl:kD s.heap l items)(hb:kD s.heap b items2)(hi:bP items.toList ns)(hj:bP items2.toList ms)(hu:A.units<gf)(h:Q (.bool (lexLt ns ms)) s):ai (ar prog w) A (bo .Lt (.ref l) (.ref b)) Q E s:=by
 obtain⟨⟨cls,dd,data,sl⟩,ho,hc,n,hd⟩:=id hl;obtain⟨⟨cls2,dd2,data2,sl2⟩,ho2,hc2,n2,hd2⟩:=id hb;simp only at hc hd hc2 hd2;subst hc hd hc2 hd2;exact richCompare_meets_room (op:=.Lt) ⟨_,ho,rfl⟩ ⟨_,ho2,rfl⟩ PySem.F.slot_tuple_lt PySem.F.entry_tuple_lt (PySem.F.args_tuple_lt_2 _ _) (v5 l b items items2 n n2 dd dd2 sl sl2 ns ms hi hj)
  ⟨ho,ho2,show hU (lexLt ns ms)≠kF/\Q (.bool (lexLt ns ms)) s from⟨(λx=>nomatch x),h⟩⟩ hu
theorem cat_tup{Q:S0}(ht:kD s.heap t vs.toArray)(hb:kD s.heap b ws.toArray)(hv:vs≠[])(h1:ws=[]->Q (.ref t) s)(h2:ws≠[]->Q (.ref s.heap.objs.size) {s with heap:=s.heap.push {cls:=.type "tuple",data:=.seq (vs++ws).toArray}})(hsz:vs.length+ws.length<=sizeLine):ai (ar prog w) A (cw .Add (.ref t) (.ref b)) Q E s:=by
 obtain⟨⟨cls,dd,data,sl⟩,ho,hc,n,hd⟩:=id ht;obtain⟨⟨cls2,dd2,data2,sl2⟩,ho2,hc2,n2,hd2⟩:=id hb;simp only at hc hd hc2 hd2;subst hc hd hc2 hd2;have e:vs.toArray++ws.toArray=(vs++ws).toArray:=by simp
 by_cases hw:ws=[]
 ·exact FP ⟨_,ho,rfl⟩ ⟨_,ho2,rfl⟩ KA JJ KW K0 (K2 _ _)
   (tuple_addW1 t b vs.toArray ws.toArray n n2 dd dd2 sl sl2 (by simpa using hv) (by simp[hw])) ⟨ho,ho2,h1 hw⟩
 ·refine FP ⟨_,ho,rfl⟩ ⟨_,ho2,rfl⟩ KA JJ KW K0 (K2 _ _)
   (tuple_addW2 t b vs.toArray ws.toArray n n2 dd dd2 sl sl2 (by simpa using hv) (by simpa using hw) (by rw[gM,gM];exact hsz)) ⟨ho,ho2,?_⟩
  rw[e];exact h2 hw
noncomputable def sIx(n d:Nat):Option Int->Nat
 |none=>d
 |some v=>if v<0 then(v+(n:Int)).toNat else min v.toNat n
theorem sIx_none(n d):sIx n d none=d:=rfl
theorem sIx_nat(n d k:Nat):sIx n d (some (k:Int))=min k n:=by
 show(if(k:Int)<0 then((k:Int)+(n:Int)).toNat else min (k:Int).toNat n)=min k n;rw[aq (by omega),SM]
theorem DE(n d)(hd:d<=n)(o):sIx n d o<=n:=by
 cases o with
 |none=>exact hd
 |some v=>
  show(if v<0 then(v+(n:Int)).toNat else min v.toNat n)<=n;by_cases hv:v<0
  ·rw[au hv];omega
  ·rw[aq hv];exact Nat.min_le_right _ _
theorem AC(v)(n d:Nat):(if v<0 then max (v+(n:Int)) 0 else min v (n:Int))=((sIx n d (some v):Nat):Int):=by
 show(if v<0 then max (v+(n:Int)) 0 else min v (n:Int))=(((if v<0 then(v+(n:Int)).toNat else min v.toNat n):Nat):Int);by_cases hv:v<0
 ·simp only[au hv];omega
 ·simp only[aq hv];omega
theorem zn(lo hi)(n:Nat):eQ lo hi 1 (n:Int)=(((sIx n 0 lo:Nat):Int),((sIx n n hi:Nat):Int)):=by
 have h1:¬((1:Int)<0):=by omega
 unfold eQ;simp only[h1,Wk];refine ES ?_ ?_
 ·cases lo with
  |none=>rfl
  |some v=>exact AC v n 0
 ·cases hi with
  |none=>rfl
  |some v=>exact AC v n n
theorem yz(i j:Nat):dq (i:Int) (j:Int) 1=j-i:=by
 unfold dq;have h1:(1:Int)>0:=by omega
 simp only[h1,Fv,Int.ediv_one];split<;>omega
theorem vt{Q:Option Int->τ->Prop}(p:i8 v o)(h:Q o s):ai (ar prog w) A (Builtin.Slice.slicePartIndex v) Q E s:=by
 cases p with
 |none=>exact slicePart_none h
 |int i t=>exact slicePart_int h
theorem sC{lo hi:Option Int}{Q:Int×Int×Nat->τ->Prop}(hs:s.heap.IsSliceOf sl vl vu .none)(pl:i8 vl lo)(pu:i8 vu hi)(h:Q (((sIx n 0 lo:Nat):Int),1,sIx n n hi-sIx n 0 lo) s):ai (ar prog w) A (i3 (.ref sl) (pure (n:Int))) Q E s:=by
 obtain⟨os,hos,hcs,hds⟩:=id hs;unfold i3 Builtin.Slice.sliceFields;refine ao (ao (yW hos hds (x:=vl) rfl (ao (yW hos hds (x:=vu) rfl (ao (yW hos hds (x:=.none) rfl (aM ?_)))))));refine ao (slicePart_none ?_);show ai _ _ (if((1:Int)==0)=true then _ else _) _ _ s;rw[aq (by decide)];refine ao (vt pl (ao (vt pu (ao (aM ?_)))));show ai _ _ (match eQ lo hi 1 (n:Int)with |(lo,hi)=>pure (lo,(1:Int),dq lo hi 1)) _ _ s;rw[zn lo hi n];show ai _ _ (pure (((sIx n 0 lo:Nat):Int),(1:Int),dq ((sIx n 0 lo:Nat):Int) ((sIx n n hi:Nat):Int) 1)) _ _ s;rw[yz];exact aM h
theorem BC(xs:Array ρ)(i k:Nat):((am k).filterMap λ(m:Nat)=>xs[((i:Int)+(m:Int)*1).toNat]?).toArray=((xs.toList.drop i).take k).toArray:=by
 have e:(λ(m:Nat)=>xs[((i:Int)+(m:Int)*1).toNat]?)=λm=>xs[i+m]? :=by
  funext m;have:((i:Int)+(m:Int)*1).toNat=i+m:=by omega
  rw[this]
 rw[e];have:=pick_run xs i k;rw[List.filterMap_map]at this;have e2:((λx=>xs[x]?)∘λx=>i+x)=λm=>xs[i+m]? :=rfl;rw[e2]at this;rw[this]
theorem getItem_tuple_cut{lo hi:Option Int}{Q:S0}(ht:kD s.heap t items)(hs:s.heap.IsSliceOf sl vl vu .none)(pl:i8 vl lo)(pu:i8 vu hi)(hw:¬(sIx items.size 0 lo=0/\sIx items.size items.size hi=items.size))(h:Q (.ref s.heap.objs.size) {s with heap:=s.heap.push {cls:=.type "tuple",data:=.seq ((items.toList.drop (sIx items.size 0 lo)).take (sIx items.size items.size hi-sIx items.size 0 lo)).toArray}})(hsz:items.size<=sizeLine):ai (ar prog w) A (gh (.ref t) (.ref sl)) Q E s:=by
 have htake:sizeOk (.seq ((items.toList.drop (sIx items.size 0 lo)).take (sIx items.size items.size hi-sIx items.size 0 lo)).toArray):=by
  show((items.toList.drop (sIx items.size 0 lo)).take (sIx items.size items.size hi-sIx items.size 0 lo)).toArray.size<=sizeLine;rw[gM,nR,EM,Fg];omega
 have hj:sIx items.size items.size hi<=items.size:=DE _ _ (aP _) hi;obtain⟨os,hos,hcs,hds⟩:=id hs;have hTs:s.TypeIs (.ref sl) "slice":=⟨os,hos,hcs⟩;unfold gh
 try with_reducible apply yX
 first |refine ao (aM ?_)|skip
 refine ao (wpAny_sequenceKey ht.typeIs (by decide) ?_);refine ao (Tw (name:=bO "__getitem__") ht.typeIs Lu
  (MP Lu ht.typeIs entry_tuple_getitem ?_ (args_tuple_getitem _ _)))
 show ai _ _ (i4 (.ref t)>>=_) _ _ s;refine ao (tupleItemsOf_ ht ?_);refine ao (FO hTs ?_);rw[au (by decide)];refine ao (sC hs pl pu ?_);have hno:¬((((sIx items.size 0 lo:Nat):Int)==0&&(1:Int)==1&&(sIx items.size items.size hi-sIx items.size 0 lo)==items.size)=true):=by
  intro q;rw[vo,vo]at q;have q1:((sIx items.size 0 lo:Nat):Int)=0:=eq_of_beq q.1.1;have q2:sIx items.size items.size hi-sIx items.size 0 lo=items.size:=eq_of_beq q.2;exact hw ⟨by omega,by omega⟩
 show ai _ _ (if(((sIx items.size 0 lo:Nat):Int)==0&&(1:Int)==1&&(sIx items.size items.size hi-sIx items.size 0 lo)==items.size)=true then _ else _) _ _ s;rw[aq hno,BC]
 first
  |exact ao (m:=bv _) (Je (aM ⟨_,rfl,aM h⟩) htake)
  |exact ao (m:=bv _) (Je (ao (aM (aM ⟨_,rfl,aM h⟩))) htake)
  |exact ao (ao (m:=bv _) (Je (aM (aM ⟨_,rfl,aM h⟩)) htake))
  |exact ao (ao (m:=bv _) (Je (aM ⟨_,rfl,aM h⟩) htake))
end
end HT
namespace L2
open PySem PySem.Spec PyProof.Rows
noncomputable abbrev TO:=St->Hp->(Option Int->Hp->Prop)->Prop
noncomputable def PO(X:Cx)(e:Option bp)(t:TO):Prop:=
 ∀(aa:O0) (s:τ) (σ:St) (H:Hp) (Q:Option Int->Hp->Prop),Inv X aa σ H s->t σ H Q->
  ai (ar X.prog X.w) X.A (evalPart e X.env) (λu s'=>∃o H',Inv X aa σ H' s'/\i8 u o/\Q o H') X.xe s
noncomputable def B9:TO:=λ_ H Q=>Q none H
noncomputable def GI(t:TE):TO:=λσ H Q=>t σ H λx H1=>∃i,x=.int i/\Q (some i) H1
theorem Xe:∀{us:List ρ},iN (ns.map V.int) us->bP us ns:=by
 induction ns with
 |nil=>intro us r;rw[EK]at r;cases r;exact .nil
 |cons n ns ih=>
  intro us r;rw[yR]at r;cases r with
  |cons r1 r2=>
   obtain⟨t,e⟩:=r1;subst e;exact .cons n t (ih r2)
section
variable{X:Cx}{e:bp}{te:TE}{lo hi:Option bp}{tl th:TO}{pos p2:eJ}
theorem tm:PO X none B9:=by
 intro aa s σ H Q I h;rw[evalPart_none];exact aM ⟨none,H,I,.none,h⟩
theorem sn(h:PE X e te):PO X (some e) (GI te):=by
 intro aa s σ H Q I hw;rw[evalPart_some];refine pw (h aa s σ H _ I hw) λu s1 ⟨x,H1,I1,r1,q1⟩=>?_;obtain⟨i,rfl,q⟩:=q1;obtain⟨t,rfl⟩:=r1;exact⟨some i,H1,I1,.int i t,q⟩
noncomputable def E7(X:Cx)(r:V->Option Int->Option Int->Hp->VK->Prop):Prop:=
 ∀(aa:O0) (s:τ) (σ:St) (H:Hp) (x:V) (v vl vu:ρ) (lo hi:Option Int) (sl:ag) (Q:VK),Inv X aa σ H s->RelV x v->s.heap.IsSliceOf sl vl vu .none->i8 vl lo->i8 vu hi->r x lo hi H Q->
  ∃T id,typeLookup (.type T) "__getitem__"=pure (some (.builtin id))/\s.TypeIs v T/\ai (ar X.prog X.w) X.A (gh v (.ref sl)) (EP X aa σ Q) X.xe s
noncomputable def QQ(r:V->Option Int->Option Int->Hp->VK->Prop)(te:TE)(tl th:TO):TE:=λσ H Q=>te σ H λx H1=>tl σ H1 λl H2=>th σ H2 λu H3=>r x l u H3 Q
theorem sh{r:V->Option Int->Option Int->Hp->VK->Prop}(hr:E7 X r)(he:PE X e te)(hl:PO X lo tl)(hu:PO X hi th):PE X (.Subscript e (.Slice lo hi none p2) pos) (QQ r te tl th):=by
 intro aa s σ H Q I h;refine Subscript_ (pw (he aa s σ H _ I h) λv s1 ⟨x,H1,I1,r1,q1⟩=>?_);refine wpAny_Slice (pw (hl aa s1 σ H1 _ I1 q1) λvl s2 ⟨l,H2,I2,pl,q2⟩=>pw (hu aa s2 σ H2 _ I2 q2) λvu s3 ⟨u,H3,I3,pu,q3⟩=>?_);rw[evalPart_none];apply aM;have I4:Inv X aa σ H3 {s3 with heap:=s3.heap.push {cls:=.type "slice",data:=.fields #[vl,vu,.none]}}:=I3.kept (t':=s3.toks) λb ob q=>cR _ q;obtain⟨T,id,hT,ht,hg⟩:=hr aa {s3 with heap:=s3.heap.push {cls:=.type "slice",data:=.fields #[vl,vu,.none]}} σ H3 x v vl vu l u s3.heap.objs.size Q I4 r1 (Heap.IsSliceOf.new ..) pl pu q3;show ai (ar X.prog X.w) X.A (lz e (.Slice lo hi none p2) v (.ref s3.heap.objs.size)) (EP X aa σ Q) X.xe {s3 with heap:=s3.heap.push {cls:=.type "slice",data:=.fields #[vl,vu,.none]}};exact tail_any (ops:=[.ref s3.heap.objs.size,v]) ht hT hg (by with_unfolding_all rfl)
noncomputable def qa(xs:List V)(lo hi:Option Int):List V:=(xs.drop (HT.sIx xs.length 0 lo)).take (HT.sIx xs.length xs.length hi-HT.sIx xs.length 0 lo)
theorem rL(xs)(lo hi):(qa xs lo hi).length<=xs.length:=by
 unfold qa;rw[nR,EM];omega
noncomputable def On(K:af):V->Option Int->Option Int->Hp->VK->Prop:=λx lo hi H Q=>∃a xs,x=.ref a/\SqT K H a xs/\
 ¬(HT.sIx xs.length 0 lo=0/\HT.sIx xs.length xs.length hi=xs.length)/\∀p,H p=none->Q (.ref p) (upd H p (.tup (qa xs lo hi)))
theorem DD:E7 X (On X.K):=by
 intro aa s σ H x v vl vu lo hi sl Q I rx hs pl pu h;obtain⟨a,xs,rfl,hx,hw,q⟩:=h;cases rx;obtain⟨ae,r,ht,hz⟩:=I.tuple hx;have ac:ae.toArray.size=xs.length:=by rw[gM];exact r.length.symm
 refine⟨"tuple",_,PyProof.Rows.slot_tuple_getitem.lookup,ht.typeIs,?_⟩;refine HT.getItem_tuple_cut ht hs pl pu (by rw[ac];exact hw) ?_ (by rw[ac];exact hz);rw[ac];refine⟨.ref s.heap.objs.size,_,I.laid (t':=s.toks) (o:=.tup (qa xs lo hi)) (λb ob q=>cR _ q) (aP _) ?_,rfl,q _ (I.hok.fresh (aP _))⟩;exact⟨dH (rL xs lo hi) hz,_,(r.drop (HT.sIx xs.length 0 lo)).take (HT.sIx xs.length xs.length hi-HT.sIx xs.length 0 lo),ET _ _⟩
inductive Hk(K:af)(x:V)(y:V)(H:Hp)(Q:VK):Prop
 |mk(a b ns ms)(_:x=.ref a)(_:y=.ref b)(_:SqT K H a (ns.map V.int))(_:SqT K H b (ms.map V.int))(_:Q (.bl (HT.lexLt ns ms)) H)
theorem DM(hu:X.A.units<gf):sj X (bo .Lt) (Hk X.K):=by
 intro aa s σ H x y v u Q I rx ry h;obtain⟨a,b,ns,ms,rfl,rfl,ha,hb,q⟩:=h;cases rx;cases ry;obtain⟨ae,r1,p1,_⟩:=I.tuple ha;obtain⟨its2,r2,p2,_⟩:=I.tuple hb;have i1:bP ae.toArray.toList ns:=Xe r1;have i2:bP its2.toArray.toList ms:=Xe r2;exact HT.lt_tupInts p1 p2 i1 i2 hu ⟨.bl (HT.lexLt ns ms),H,I,rfl,q⟩
inductive HA(K:af)(x:V)(y:V)(H:Hp)(Q:VK):Prop
 |mk(a b xs ys)(_:x=.ref a)(_:y=.ref b)(_:SqT K H a xs)(_:SqT K H b ys)(_:xs≠[])(_:xs.length+ys.length<=sizeLine)(_:ys=[]->Q (.ref a) H)(_:ys≠[]->∀p,H p=none->Q (.ref p) (upd H p (.tup (xs++ys))))
theorem iN.nil_iff(r:iN xs us):us=[]↔xs=[]:=by
 cases r with
 |nil=>simp
 |cons _ _=>simp
theorem zD:sj X (cw .Add) (HA X.K):=by
 intro aa s σ H x y v u Q I rx ry h;obtain⟨a,b,xs,ys,rfl,rfl,ha,hb,hx,hz,q1,q2⟩:=h;cases rx;cases ry;obtain⟨ae,r1,p1,_⟩:=I.tuple ha;obtain⟨its2,r2,p2,_⟩:=I.tuple hb;refine HT.cat_tup p1 p2 (λz=>hx (r1.nil_iff.mp z)) (λz=>⟨.ref a,H,I,rfl,q1 (r2.nil_iff.mp z)⟩) (λz=>?_) (by rw[<-r1.length,<-r2.length];exact hz);refine⟨.ref s.heap.objs.size,_,I.laid (t':=s.toks) (o:=.tup (xs++ys)) (λb ob q=>cR _ q) (aP _) ?_,rfl,q2 (λw=>z (r2.nil_iff.mpr w)) _ (I.hok.fresh (aP _))⟩;exact⟨by rw[lN];exact hz,_,r1.append r2,ET _ _⟩
end
noncomputable def xy(n:Nat)(i:Int):Option Nat:=if 0<=i then(if i<n then some i.toNat else none)else if -(n:Int)<=i then some (i+n).toNat else none
noncomputable def vT{α:Type}(xs:List α)(i:Int):Option α:=(xy xs.length i).bind λj=>xs[j]?
theorem zI(h:xy n i=some j):seqIndex? i n=some j/\j<n/\ -(n:Int)<=i/\i<n:=by
 unfold xy at h;by_cases h0:0<=i
 ·rw[au h0]at h;by_cases h1:i<n
  ·rw[au h1]at h;have e:i.toNat=j:=uw h;exact⟨by rw[seqIndex_of h0 h1,e],by omega,by omega,h1⟩
  ·rw[aq h1]at h;cases h
 ·rw[aq h0]at h;by_cases h1: -(n:Int)<=i
  ·rw[au h1]at h;have e:(i+n).toNat=j:=uw h;exact⟨by rw[seqIndex_neg (by omega) h1,e],by omega,h1,by omega⟩
  ·rw[aq h1]at h;cases h
theorem AD{α:Type}{xs:List α}{v:α}(h:vT xs i=some v):∃j,seqIndex? i xs.length=some j/\xs[j]? =some v/\j<xs.length/\ -(xs.length:Int)<=i/\i<xs.length:=by
 unfold vT at h;cases e:xy xs.length i with
 |none=>rw[e]at h;cases h
 |some j=>
  rw[e]at h;obtain⟨h1,h2,h3,h4⟩:=zI e;exact⟨j,h1,h,h2,h3,h4⟩
theorem rj{α:Type}{xs:List α}{j:Nat}{v:α}(h:xs[j]? =some v):vT xs (j:Int)=some v:=by
 have hj:j<xs.length:=(oG.mp h).1;have e:xy xs.length (j:Int)=some j:=by
  unfold xy;rw[au (by omega),au (by omega)];simp
 unfold vT;rw[e];exact h
noncomputable def CU(b:bp):Prop:=∀o i,ke b false o i=operate [o,i] (gh o i)
noncomputable def Iy(X:Cx)(r:R2):Prop:=
 ∀(value slice:bp) (aa:O0) (s:τ) (σ:St) (H:Hp) (x y:V) (v u:ρ) (Q:VK),Inv X aa σ H s->RelV x v->RelV y u->r x y H Q->
  ke slice false v u=operate [v,u] (gh v u)->ai (ar X.prog X.w) X.A (lz value slice v u) (EP X aa σ Q) X.xe s
noncomputable def SF(X:Cx)(id:String)(r:V->List V->Hp->VK->Prop):Prop:=
 ∀(aa:O0) (s:τ) (σ:St) (H:Hp) (x:V) (xs:List V) (v:ρ) (us:List ρ) (Q:VK),Inv X aa σ H s->RelV x v->iN xs us->r x xs H Q->
  ai (ar X.prog X.w) X.A (call (.builtin id) (v::us)) (EP X aa σ Q) X.xe s
section
variable{X:Cx}{a b:bp}{ta tb:TE}{pos:eJ}
theorem bw{r:R2}(hr:Iy X r)(ha:PE X a ta)(hb:PE X b tb)(hs:CU b:=by exactλ_ _=>rfl):PE X (.Subscript a b pos) (LD r ta tb):=by
 intro aa s σ H Q I h;exact Subscript_ (EB ha hb I h λv u s2 x y H2 I2 rx ry q=>hr a b aa s2 σ H2 x y v u Q I2 rx ry q (hs _ _))
inductive Hn(K:af)(x:V)(y:V)(H:Hp)(Q:VK):Prop
 |mk(p xs i v)(_:x=.ref p)(_:y=.int i)(_:ja K H p xs)(_:vT xs i=some v)(_:Q v H)
inductive Hm(K:af)(x:V)(y:V)(H:Hp)(Q:VK):Prop
 |mk(p xs i v)(_:x=.ref p)(_:y=.int i)(_:SqT K H p xs)(_:vT xs i=some v)(_:Q v H)
theorem uK:Iy X (Hn X.K):=by
 intro value slice aa s σ H x y v u Q I rx ry h hs;obtain⟨p,xs,i,z,rfl,rfl,hq,he,q⟩:=h;cases rx;obtain⟨t,rfl⟩:=ry;obtain⟨ae,r,pl,hz⟩:=I.list hq;obtain⟨j,h1,h2,h3,h4,h5⟩:=AD he;obtain⟨w,ew,rw'⟩:=r.get h2;have hl:=r.length;have hn:=vz;have fin:EP X aa σ Q w s:=⟨z,H,I,rw',q⟩;by_cases h0:0<=i
 ·have hj:i.toNat=j:=by
   rw[seqIndex_of h0 h5]at h1;exact uw h1
  exact item_listR pl.isList h0 (by omega) (by rw[hj];simpa using ew) fin hs
 ·have hj:(i+(ae.toArray.size:Int)).toNat=j:=by
   rw[seqIndex_neg (by omega) h4]at h1;rw[gM,<-hl];exact uw h1
  exact oq (x:=w) pl.isList.typeIs slot_list_getitem.lookup
   (wpAny_getItem_list_neg (Q:=λr s'=>r=w/\EP X aa σ Q r s') pl.isList (by omega) (by rw[gM]<;>omega) (by omega) (by rw[hj];simpa using ew) ⟨rfl,fin⟩) hs
theorem cH:Iy X (Hm X.K):=by
 intro value slice aa s σ H x y v u Q I rx ry h hs;obtain⟨p,xs,i,z,rfl,rfl,hq,he,q⟩:=h;cases rx;obtain⟨t,rfl⟩:=ry;obtain⟨ae,r,pl,hz⟩:=I.tuple hq;obtain⟨j,h1,h2,h3,h4,h5⟩:=AD he;obtain⟨w,ew,rw'⟩:=r.get h2;have hl:=r.length;have hn:=vz;have fin:EP X aa σ Q w s:=⟨z,H,I,rw',q⟩;exact oq (x:=w) pl.typeIs slot_tuple_getitem.lookup
  (getItem_tuple (j:=j) (Q:=λr s'=>r=w/\EP X aa σ Q r s') pl (by omega) (by omega) (by rw[gM,<-hl];exact h1) (by simpa using ew) ⟨rfl,fin⟩) hs
theorem yT(ae:List ρ)(n j)(u):ay (·.setIfInBounds j u) {cls:=.type "list",data:=.seq ae.toArray n}={cls:=.type "list",data:=.seq (ae.set j u).toArray n}:=by
 simp[ay]
theorem Inv.lst{σ:St}(I:Inv X aa σ H s)(h:H p=some (.lst xs)):
  ∃(ae:List ρ) (n:Nat),iN xs ae/\s.heap.get? p=some {cls:=.type "list",data:=.seq ae.toArray n}/\xs.length<=sizeLine:=by
 obtain⟨z,ae,n,r,e⟩:=I.hok p _ h;exact⟨ae,n,r,e,z⟩
theorem Inv.lstUpd{σ:St}{ae its':List ρ}(I:Inv X aa σ H s)(h:H p=some (.lst xs))(ho:s.heap.get? p=some {cls:=.type "list",data:=.seq ae.toArray n})(hf:f {cls:=.type "list",data:=.seq ae.toArray n}={cls:=.type "list",data:=.seq its'.toArray n'})(r:iN ys its')(hz:ys.length<=sizeLine)(t):
  Inv X aa σ (upd H p (.lst ys)) {s with heap:=s.heap.update p f,toks:=t}:=by
 have e:(s.heap.update p f).get? p=some {cls:=.type "list",data:=.seq its'.toArray n'}:=by
  rw[Heap.get?_update_self f ho (by rw[hf]<;>rfl),hf]
 refine I.write (x:=p) (e:=p) (by rw[h];trivial) (.inl rfl) (λb u hb q=>(NG _ _ (oV hb)).trans q) ⟨_,e⟩ ?_;exact⟨hz,its',n',r,e⟩
noncomputable def He:V->V->V->Hp->(Hp->Prop)->Prop:=λo i v H Q=>∃p xs k j,o=.ref p/\i=.int k/\H p=some (.lst xs)/\xy xs.length k=some j/\Q (upd H p (.lst (xs.set j v)))
theorem sF:HZ X He:=by
 intro aa s σ H o i v ov iv u Q I ro ri rv h;obtain⟨p,xs,k,j,rfl,rfl,hp,hj,q⟩:=h;cases ro;obtain⟨t,rfl⟩:=ri;obtain⟨ae,n,r,ho,hz⟩:=I.lst hp;obtain⟨h1,h2,h3,h4⟩:=zI hj;have hl:=r.length;have hn:=vz;have I':Inv X aa σ (upd H p (.lst (xs.set j v))) {s with heap:=s.heap.update p (ay (·.setIfInBounds j u))}:=
  I.lstUpd hp ho (yT ae n j u) (r.set rv j) (by rw[Kk];exact hz) s.toks
 by_cases h0:0<=k
 ·have hk:k.toNat=j:=by
   rw[seqIndex_of h0 h4]at h1;exact uw h1
  exact W.ki_setAt ho h0 (by omega) (by rw[gM,<-hl];exact h4) (by rw[hk];exact⟨_,I',q⟩)
 ·have hk:(k+(ae.toArray.size:Int)).toNat=j:=by
   rw[seqIndex_neg (by omega) h3]at h1;rw[gM,<-hl];exact uw h1
  exact W.ki_setBack ho (by omega) (by rw[gM,<-hl];exact h3) (by omega) (by rw[hk];exact⟨_,I',q⟩)
theorem xb(lo hi)(n):(fm lo hi none n).1=((HT.sIx n 0 lo:Nat):Int)/\(fm lo hi none n).2.1=((HT.sIx n n hi:Nat):Int)/\(fm lo hi none n).2.2=1:=by
 refine⟨?_,?_,rfl⟩
 ·cases lo with
  |none=>simp[fm,HT.sIx]
  |some i=>
   simp only[fm,HT.sIx,n9,show(1:Int)>0 by decide,Fv];by_cases h:i<0
   ·simp only[h,Fv]<;>omega
   ·simp only[h,Wk]<;>omega
 ·cases hi with
  |none=>simp[fm,HT.sIx]
  |some i=>
   simp only[fm,HT.sIx,n9,show(1:Int)>0 by decide,Fv];by_cases h:i<0
   ·simp only[h,Fv]<;>omega
   ·simp only[h,Wk]<;>omega
theorem v6(ae:List ρ)(lo hi):slicePick ae.toArray lo hi none=((ae.drop (HT.sIx ae.length 0 lo)).take (HT.sIx ae.length ae.length hi-HT.sIx ae.length 0 lo)).toArray:=by
 obtain⟨h1,h2,h3⟩:=xb lo hi ae.toArray.size;unfold slicePick;rw[h1,h2,h3];simp only[sliceRange_one,pick_run,gM]<;>rfl
noncomputable def G0(K:af):V->Option Int->Option Int->Hp->VK->Prop:=λx lo hi H Q=>∃a xs,x=.ref a/\ja K H a xs/\∀p,H p=none->Q (.ref p) (upd H p (.lst (qa xs lo hi)))
theorem ve:E7 X (G0 X.K):=by
 intro aa s σ H x v vl vu lo hi sl Q I rx hs pl pu h;obtain⟨a,xs,rfl,hx,q⟩:=h;cases rx;obtain⟨ae,r,ht,hz⟩:=I.list hx;have ac:=r.length;refine⟨"list",_,slot_list_getitem.lookup,ht.isList.typeIs,?_⟩;refine wpAny_getItem_list_slice ht.isList hs pl pu .none (by simp) ?_ (by rw[gM]<;>omega);rw[v6,<-ac];refine⟨.ref s.heap.objs.size,_,I.laid (t':=s.toks) (o:=.lst (qa xs lo hi)) (λb ob q=>cR _ q) (aP _) ?_,rfl,q _ (I.hok.fresh (aP _))⟩;exact⟨dH (rL xs lo hi) hz,_,0,(r.drop (HT.sIx xs.length 0 lo)).take (HT.sIx xs.length xs.length hi-HT.sIx xs.length 0 lo),iQ _ rfl⟩
theorem xt:qV X (.builtin "len") (λxs H Q=>∃p ys,xs=[.ref p]/\(ja X.K H p ys\/SqT X.K H p ys)/\Q (.int ys.length) H):=by
 intro aa s σ H xs us Q I r h;obtain⟨p,ys,rfl,hq,q⟩:=h;obtain⟨u,rfl,rx⟩:=vals1 r;cases rx;have hn:=vz;rcases hq with hq|hq
 ·obtain⟨ae,r',pl,hz⟩:=I.list hq;have ac:=r'.length;exact Calls.call_len_list pl.isList (by simp only[gM]<;>omega) ⟨.int ys.length,H,I.tok _,⟨s.toks+1,by rw[gM,ac]⟩,q⟩
 ·obtain⟨ae,r',pl,hz⟩:=I.tuple hq;have ac:=r'.length;exact len_tuple pl (by simp only[gM]<;>omega) ⟨.int ys.length,H,I.tok _,⟨s.toks+1,by rw[gM,ac]⟩,q⟩
theorem Ss:qV X (.type "tuple") (λxs H Q=>∃p ys,xs=[.ref p]/\((ja X.K H p ys/\∀l,H l=none->Q (.ref l) (upd H l (.tup ys)))\/(SqT X.K H p ys/\Q (.ref p) H))):=by
 intro aa s σ H xs us Q I r h;obtain⟨p,ys,rfl,h⟩:=h;obtain⟨u,rfl,rx⟩:=vals1 r;cases rx;rcases h with⟨hq,q⟩|⟨hq,q⟩
 ·obtain⟨ae,r',pl,hz⟩:=I.list hq;have ac:=r'.length;refine call_tuple_list pl.isList (λh' kp=>?_) (by simp only[gM]<;>omega);have I1:Inv X aa σ H {s with heap:=h'}:=I.kept (t':=s.toks) kp;have I2:Inv X aa σ (upd H h'.objs.size (.tup ys)) {s with heap:=h'.push {cls:=.type "tuple",data:=.seq ae.toArray}}:=
   I1.laid (t':=s.toks) (λb o e=>cR _ e) (aP _) (show qr X.prog X.w _ _ _ (.tup ys)from⟨hz,ae,r',ET _ _⟩)
  exact⟨.ref h'.objs.size,_,I2,rfl,q _ (I1.hok.fresh (aP _))⟩
 ·obtain⟨ae,r',pl,hz⟩:=I.tuple hq;exact call_tuple_same pl ⟨.ref p,H,I,rfl,q⟩
noncomputable def NR(K:af)(T:String)(x:V)(H:Hp):Prop:=match x with
 | .str _=>T="str"
 | .int _=>T="int"
 | .ref p=>(T="list"/\∃xs,ja K H p xs)\/(T="tuple"/\∃o,K.lookup p=some o/\o.cls=.type "tuple"/\o.dict=none)\/
   (T="dict"/\((∃kvs,H p=some (.dK kvs))\/∃kvs,H p=some (.dT kvs)))\/(T="set"/\∃S n,H p=some (.set S n))
 |_=>False
theorem A8{σ:St}(I:Inv X aa σ H s)(r:RelV x v)(ty:NR X.K T x H):
  s.TypeIs v T/\∀a,v=.ref a->∃ob,s.heap.get? a=some ob/\ob.dict=none:=by
 cases x with
 |str z=>
  obtain⟨t,rfl⟩:=r;cases(show T="str" from ty);exact⟨typeIs_str s z t,λ_ e=>nomatch e⟩
 |int i=>
  obtain⟨t,rfl⟩:=r;cases(show T="int" from ty);exact⟨FK s i t,λ_ e=>nomatch e⟩
 |ref p=>
  cases r;rcases ty with⟨rfl,xs,hq⟩|⟨rfl,o,hk,hc,hd⟩|⟨rfl,hk⟩|⟨rfl,S,n,hk⟩
  ·obtain⟨ae,_,pl,_⟩:=I.list hq;refine⟨pl.isList.typeIs,λa e=>?_⟩;cases e;obtain⟨o,n,e,c,hd,_⟩:=pl;exact⟨o,e,hd⟩
  ·refine⟨⟨o,I.kIn p o hk,hc⟩,λa e=>?_⟩;cases e;exact⟨o,I.kIn _ o hk,hd⟩
  ·have z:∃o,s.heap.get? p=some o/\o.ExactDict:=by
    rcases hk with⟨kvs,hk⟩|⟨kvs,hk⟩
    ·obtain⟨_,_,_,_,o,_,_,e,ex,_⟩:=I.hok p _ hk;exact⟨o,e,ex⟩
    ·obtain⟨_,_,_,_,o,_,_,e,ex,_⟩:=I.hok p _ hk;exact⟨o,e,ex⟩
   obtain⟨o,e,ex⟩:=z;refine⟨⟨o,e,ex.1⟩,λa e2=>?_⟩;cases e2;exact⟨o,e,ex.2.1⟩
  ·obtain⟨o,_,_,_,e,ex,_⟩:=I.hok p _ hk;refine⟨⟨o,e,ex.1⟩,λa e2=>?_⟩;cases e2;exact⟨o,e,ex.2.1⟩
 |_=>exact bS ty
noncomputable def QY(K:af)(T:String)(r:V->List V->Hp->VK->Prop)(to:TE)(t:TA):TE:=λσ H Q=>to σ H λx H1=>NR K T x H1/\t σ H1 λxs H2=>r x xs H2 Q
variable{o e:bp}{es:List bp}{to:TE}{t:TA}{name:be}{apos cpos:eJ}{T id:String}{r:V->List V->Hp->VK->Prop}
theorem ww(pa:PlainAttrs T)(slot:Slot T name id)(hty:typeOf (.builtin id)=pure (.type "method_descriptor"))(hm:SF X id r)(ho:PE X o to)(ha:PA X (e::es) t)(hbase:gp o name X.env (bQ o X.env)=bQ o X.env:=by rfl)(hfew:((dC cpos (ax (e::es) X.env)).all (λx=> !x.1)&&(gu cpos (eB [] X.env)).all (λx=>x.1.isSome)
   &&decide ((e::es).length+([]:List on).length+(if([]:List on).isEmpty then 0 else 1)<30))=true:=by rfl)(hline:(apos.endLine==cpos.line)=true:=by rfl)(hs:ax (e::es) X.env=(false,bQ e X.env)::ax es X.env:=by rfl)(hplain:(dC cpos (ax es X.env)).any (·.1)=false:=by rfl):
  PE X (.Call (.Attribute o name apos) (e::es) [] cpos) (QY X.K T r to t):=by
 intro aa s σ H Q I h;refine wpAny_Call_method_late hbase hfew hline rfl (pw (ho aa s σ H _ I h) λv s1 ⟨x,H1,I1,r1,ty,q1⟩=>?_);obtain⟨h1,h2⟩:=A8 I1 r1 ty;refine⟨T,id,pa,slot,hty,h1,h2,?_⟩;have hA:=ha cpos aa s1 σ H1 _ I1 q1;rw[hs]at hA⊢;refine ko (by show(false||(dC cpos (ax es X.env)).any (·.1))=false;rw[hplain]<;>rfl) (Calls.evalArgs_plain ?_);exact pw hA λus s2 ⟨vs,H2,I2,r2,q2⟩=>hm aa s2 σ H2 x vs v us Q I2 r1 r2 q2
end
noncomputable def OM(X:Cx)(id:String)(r:V->List V->Hp->VK->Prop):Prop:=
 ∀(aa:O0) (s:τ) (σ:St) (H:Hp) (x:V) (xs:List V) (v:ρ) (us:List ρ) (Q:VK),Inv X aa σ H s->RelV x v->iN xs us->r x xs H Q->
  ai (ar X.prog X.w) X.A (call (.builtin id) (v::us)) (EP X aa σ Q) X.xe s
theorem iN.one(h:iN [x] us):∃u,us=[u]/\RelV x u:=by
 cases h with
 |cons r h=>cases h;exact⟨_,rfl,r⟩
theorem iN.two(h:iN [x,y] us):∃u v,us=[u,v]/\RelV x u/\RelV y v:=by
 cases h with
 |cons r h=>obtain⟨v,rfl,q⟩:=iN.one h;exact⟨_,_,rfl,r,q⟩
theorem iN.reverse(h:iN xs us):iN xs.reverse us.reverse:=by
 induction h with
 |nil=>exact .nil
 |cons r t ih=>rw[ot,ot];exact iN.append ih (.cons r .nil)
theorem iN.rep(h:iN xs us):∀k:Nat,iN (ah k xs).flatten (ah k us).flatten
 |0=>.nil
 |k+1=>by
  rw[Kv,Kv,Tq,Tq];exact iN.append h (iN.rep h k)
theorem foldl_rep(ae):∀(k:Nat) (acc:List ρ),
  fw (λx1 x2=>x1++x2) acc.toArray (ah k ae.toArray)=(acc++(ah k ae).flatten).toArray
 |0,acc=>by simp
 |k+1,acc=>by
  have e:acc.toArray++ae.toArray=(acc++ae).toArray:=by simp
  have e2:(acc++ae)++(ah k ae).flatten=acc++(ah (k+1) ae).flatten:=by
   rw[Kv,Tq,KP]
  rw[<-e2,<-foldl_rep ae k (acc++ae),<-e,Kv,List.foldl_cons]
section
variable{X:Cx}{aa:O0}{σ:St}{H:Hp}{s:τ}{l:ag}{xs ys:List V}
theorem Inv.lset{ae its':List ρ}(I:Inv X aa σ H s)(hH:H l=some (.lst xs))(e:s.heap.get? l=some {cls:=.type "list",data:=.seq ae.toArray n})(hf:f ae.toArray=its'.toArray)(hv:iN ys its')(hz:ys.length<=sizeLine):
  Inv X aa σ (upd H l (.lst ys)) {s with heap:=s.heap.update l (ay f),toks:=t'}:=by
 have q:=PySem.IsL.update e f;rw[hf]at q;refine I.write (x:=l) (e:=l) (by rw[hH];exact trivial) (.inl rfl) (λb' u hb hu=>(NG s.heap (ay f) (oV hb)).trans hu) ⟨_,q⟩ ?_;exact⟨hz,its',_,hv,q⟩
theorem Inv.lnew(I:Inv X aa σ H s)(hv:iN ys ae)(hz:ys.length<=sizeLine):
  Inv X aa σ (upd H s.heap.objs.size (.lst ys)) {s with heap:=s.heap.push {cls:=.type "list",data:=.seq ae.toArray},toks:=t'}:=
 I.laid (λ_ _ q=>cR _ q) (aP _) ⟨hz,ae,0,hv,iQ _ rfl⟩
theorem Inv.fresh(I:Inv X aa σ H s):H s.heap.objs.size=none:=I.hok.fresh (aP _)
theorem Inv.lstM(I:Inv X aa σ H s)(hH:H l=some (.lst xs)):xs.length<=sizeLine/\∃(ae:List ρ) (n:Nat),iN xs ae/\xs.length=ae.length/\s.heap.get? l=some {cls:=.type "list",data:=.seq ae.toArray n}:=by
 obtain⟨z,ae,n,r,e⟩:=I.hok l _ hH;exact⟨z,ae,n,r,r.length,e⟩
theorem xD(h:n<=sizeLine):dy n=false:=by
 unfold dy;exact gY (by omega)
end
section
variable{X:Cx}
inductive Co(x:V)(vs:List V)(H:Hp)(Q:VK):Prop
 |mk(l xs y)(_:x=.ref l)(_:vs=[y])(_:H l=some (.lst xs))(_:xs.length<sizeLine)(_:Q .non (upd H l (.lst (xs++[y]))))
theorem AL:OM X "list.append" Co:=by
 intro aa s σ H x vs v us Q I rx rv h;obtain⟨l,xs,y,rfl,rfl,hH,hz,q⟩:=h;cases rx;obtain⟨u,rfl,ru⟩:=rv.one;obtain⟨z,ae,n,r,hl,e⟩:=I.lstM hH;refine Wm gE ⟨_,e,rfl⟩ F.entry_list_append (ox _ _) (ng l ae.toArray n u (by rw[gM];omega)) ⟨e,?_⟩;refine⟨.non,_,I.lset (its':=ae++[u]) hH e (by simp) (r.append (.cons ru .nil)) ?_,rfl,q⟩;rw[lN,List.length_singleton];omega
inductive Cn(x:V)(vs:List V)(H:Hp)(Q:VK):Prop
 |mk(l b xs zs)(_:x=.ref l)(_:vs=[.ref b])(_:H l=some (.lst xs))(_:H b=some (.lst zs))(_:xs.length+zs.length<=sizeLine)(_:Q .non (upd H l (.lst (xs++zs))))
theorem wx:OM X "list.extend" Cn:=by
 intro aa s σ H x vs v us Q I rx rv h;obtain⟨l,b,xs,zs,rfl,rfl,hH,hB,hz,q⟩:=h;cases rx;obtain⟨u,rfl,ru⟩:=rv.one;cases ru;obtain⟨z,ae,n,r,hl,e⟩:=I.lstM hH;obtain⟨z2,its2,n2,r2,hl2,e2⟩:=I.lstM hB;have hsz:ae.toArray.size+its2.toArray.size<=sizeLine:=by rw[gM,gM];omega
 have hlong:¬(!ae.toArray.isEmpty&&dy (ae.toArray.size+its2.toArray.size))=true:=by
  rw[xD hsz,MD];exact ux
 refine Wm kC ⟨_,e,rfl⟩ F.entry_list_extend (F.args_list_extend_2 _ _)
  (AutoSeq1.list_extend_list_list_0 l ae.toArray n b its2.toArray n2 hlong (by rw[gM];omega) (by omega)) ⟨e,e2,?_⟩
 refine⟨.non,_,I.lset (its':=ae++its2) hH e (by simp) (r.append r2) ?_,rfl,q⟩;rw[lN];omega
inductive Os(x:V)(y:V)(H:Hp)(Q:VK):Prop
 |mk(l b xs zs)(_:x=.ref l)(_:y=.ref b)(_:H l=some (.lst xs))(_:H b=some (.lst zs))(_:xs.length+zs.length<=sizeLine)(_:∀p,H p=none->Q (.ref p) (upd H p (.lst (xs++zs))))
theorem sT:sj X (cw .Add) Os:=by
 intro aa s σ H x y v u Q I rx ry h;obtain⟨l,b,xs,zs,rfl,rfl,hH,hB,hz,q⟩:=h;cases rx;cases ry;obtain⟨z,ae,n,r,hl,e⟩:=I.lstM hH;obtain⟨z2,its2,n2,r2,hl2,e2⟩:=I.lstM hB;refine PySem.P.add_list e e2 ?_ (by rw[gM,gM];omega);have ea:ae.toArray++its2.toArray=(ae++its2).toArray:=by simp
 rw[ea];exact⟨.ref _,_,I.lnew (t':=s.toks) (r.append r2) (by rw[lN];omega),rfl,q _ I.fresh⟩
inductive Op(x:V)(y:V)(H:Hp)(Q:VK):Prop
 |mk(l k xs)(_:x=.ref l)(_:y=.int k)(_:H l=some (.lst xs))(_:-(2^63)<=k)(_:k<2^63)(_:xs.length*k.toNat<=sizeLine)(_:∀p,H p=none->Q (.ref p) (upd H p (.lst (ah k.toNat xs).flatten)))
theorem xk{α:Type}(xs:List α)(k):(ah k xs).flatten.length=k*xs.length:=by
 induction k with
 |zero=>simp
 |succ k ih=>rw[Kv,Tq,lN,ih,Nat.succ_mul,Nat.add_comm]
theorem BF:sj X (cw .Mult) Op:=by
 intro aa s σ H x y v u Q I rx ry h;obtain⟨l,k,xs,rfl,rfl,hH,h1,h2,hz,q⟩:=h;cases rx;obtain⟨t,rfl⟩:=ry;obtain⟨z,ae,n,r,hl,e⟩:=I.lstM hH;have ac:ae.toArray.size*k.toNat<=sizeLine:=by rw[gM,<-hl];exact hz
 have hcap:¬ae.toArray.size*k.toNat>(2^63-1)/8:=by
  have:(sizeLine:Nat)<=(2^63-1)/8:=by decide
  omega
 have hfit:¬(!Builtin.List.listFitsIndex k)=true:=by
  rw[fitsIndex_both h1 h2];exact ux
 have hlong:¬dy (ae.toArray.size*k.toNat)=true:=by
  rw[xD ac];exact ux
 have hnew:fw (λx1 x2=>x1++x2) #[] (ah (if ae.toArray.isEmpty=true then 0 else k.toNat) ae.toArray)=(ah k.toNat ae).flatten.toArray:=by
  have f0:∀m:Nat,fw (λx1 x2=>x1++x2) #[] (ah m ae.toArray)=(ah m ae).flatten.toArray:=λm=>by
   have:=foldl_rep ae m [];rw[List.nil_append]at this;exact this
  rw[f0];cases ae with
  |nil=>simp
  |cons a r'=>rw[aq (by simp)]
 refine kX (T:="list") (U:="int") (by decide) ⟨_,e,rfl⟩ (λs'=>FK s' k t) noFill_list_mul F.fills_int_mul Kj repeat_list F.slot_int_index.lookup
  (Wm Kj (FK s k t) F.entry_int_rmul (F.args_int_rmul_2 _ _) (int___rmul___int_list k t l ae.toArray n)
   ⟨e,rfl,⟨_,e,rfl⟩,Wm F.slot_list_mul ⟨_,e,rfl⟩ F.entry_list_mul (F.args_list_mul_2 _ _) (AutoListH.list___mul___list_int_3 l ae.toArray n k t hfit hcap hlong) ⟨e,?_⟩⟩)
 rw[hnew];exact⟨.ref _,_,I.lnew (t':=s.toks) (r.rep k.toNat) (by rw[xk,Xh];exact hz),rfl,q _ I.fresh⟩
end
end L2
namespace Att
open PySem PySem.W PySem.Calls PyProof.Rows
theorem u8:∀(ns:ζ) (vs:List ρ),WellAll P h vs (ns.map WData.int)->bP vs ns:=by
 intro ns
 induction ns with
 |nil=>
  intro vs w;rw[EK]at w;cases w;exact .nil
 |cons n ns ih=>
  intro vs w;rw[yR]at w;cases w with
  |cons a b=>
   cases a;exact .cons _ _ (ih _ b)
theorem AH{l:iO}(hn:l.most=some n)(hpre:l.row.toRowW.claim.pre args=true)(hwl:WellAll P h vals args):
  ∃a vs ns,vals=[aI a]/\args=[WData.list (ns.map WData.int)]/\h.get? a=some {cls:=.type "list",data:=.seq vs.toArray}/\bP vs ns/\ns.length<=n:=by
 have hsh:WShape.hasAll [] args [.list .int]=true:=(pre_splitW hpre).1;have hc:l.pre.holds [] {args:=args}=true:=(pre_splitW hpre).2;obtain⟨d,r,rfl,h1,h2⟩:=hasAllW_cons hsh;obtain rfl:=hasAllW_nil h2;obtain⟨xs,rfl,h3⟩:=hasW_list h1;obtain⟨ns,rfl⟩:=items_int h3;have ac:ns.length<=n:=by
  unfold OpenLaw.pre at hc;have h4:(WTm.not (.lt (.lit (.int (n:Int))) (.len (.arg 0)))).holds [] {args:=[.list (ns.map .int)]}=true:=by
   have h4:=(holds_andW hc).1;rw[hn]at h4;exact h4
  have h5:=condW_of h4 (w_not (w_lt w_lit (w_len_list (w_arg rfl))));rw[aD]at h5;refine Nat.le_of_not_lt λq=>?_;have q':(n:Int)<((ns.length:Nat):Int):=by omega
  first
   |(rw[cI q']at h5;exact absurd h5 (by decide))
   |(simp at h5;omega)
 cases hwl with
 |cons w1 w2=>
  cases w2;cases w1 with
  |list ho hall=>exact⟨_,_,ns,rfl,rfl,ho,u8 ns _ hall,ac⟩
theorem AI(l:iO)(args):l.row.toRowW.claim.post args (.bool true) args=true:=
 postW_of (r:=l.row.toRowW) (X:=(true==true))
  (show WShape.has [] (.bool true) .bool=true by first |rfl|decide|simp[WShape.has,WShape.arms,WShape.armsAll])
  (show(WTm.eq .res (.lit (.bool true))).value [] {args:=args,res:=some (.bool true),after:=args}=some (.bool (true==true))from w_eq_bool (w_res rfl) w_lit) rfl
theorem attach_call{l:iO}{n:Nat}{q:υ}{loose:List be}{XP:(D0)->bn->Prop}{YP:ψ->bn->Prop}{d:DefRec}(hn:l.most=some n)(hdf:d.params.defaults=[])(call:∀(w:ψ) (s₀ s₁:τ) (mg mb:D0) (fa:ag) (o:ki) (pm cd doc:ρ) (a:ag) (vs:List ρ) (ns:ζ),
   Ground q loose [] XP w s₀ mg mb s₁.heap->YP w s₁.heap->
   s₁.heap.get? fa=some o->o.data=.func (docDef d.name d.params d.body d.scope pm cd doc)->s₁.heap.CodeRec cd d.name->mg d.name=some (.ref fa)->
   s₁.heap.get? a=some {cls:=.type "list",data:=.seq vs.toArray}->bP vs ns->ns.length<=n->s₁.gens=#[]->
   eM (ar l.prog w) iX (.call (.ref fa) ⟨[.ref a],[]⟩) (λr s'=>r=.ok (.ret (.bool true))/\OldK s₁.heap s'.heap/\s'.os=s₁.os/\fI s'.gens) s₁):
  WalkO q loose XP YP l.row.toRowW d [] (λf vs=>lI f vs):=by
 intro w s₀ s₁ mg mb G Y fa o pm cd doc dV kV ho hd hcd hD hmg hg args vals as hpre hlay hrd hwl hlo;obtain rfl:dV=.none:=Dflts.none hD hdf;obtain rfl:kV=.none:=Dflts.noKw hD;obtain⟨a,vs,ns,rfl,rfl,hobj,hints,ac⟩:=AH hn hpre hwl;refine enter_call (SX (call w s₀ s₁ mg mb fa o pm cd doc a vs ns G Y ho (fd_plain hd) hcd hmg hobj hints ac hg) λr s' hq=>?_);obtain⟨rfl,h2,h3,h4⟩:=hq;exact⟨.inl ⟨.bool true,.bool true,[],rfl,λ_=>rfl,.bool true,AI l _,λ_=>⟨eT,λ_ hm=>(nomatch hm)⟩⟩,h2,h3,h4⟩
end Att
namespace L2
open PySem PySem.Spec PyProof.Rows
theorem wn:∀{vs:List ρ}{ns:ζ},bP vs ns->iN (ns.map V.int) vs
 |_,_,.nil=>.nil
 |_,_,.cons n t h=>.cons ⟨t,rfl⟩ (wn h)
noncomputable def rn(s:fz)(j:Nat):Stmt:=match s with
 | .ClassDef _ _ _ body _ _ _ _ _ _ _=>body.getD j (.Pass ⟨0,0,0,0⟩)
 |_=>.Pass ⟨0,0,0,0⟩
noncomputable def qB(s:fz):Arguments:=match s with
 | .FunctionDef _ a _ _ _ _ _ _ _ _=>a
 |_=>{posonlyargs:=[],args:=[],vararg:=none,kwonlyargs:=[],kw_defaults:=[],kwarg:=none,defaults:=[]}
noncomputable def qf(s:fz):List Stmt:=match s with
 | .FunctionDef _ _ b _ _ _ _ _ _ _=>b
 |_=>[]
noncomputable def kq(s:fz):Scope:=match s with
 | .FunctionDef _ _ _ _ _ _ sc _ _ _=>sc
 |_=>{kind:=.function,names:=[],isGenerator:=false,isCoroutine:=false}
noncomputable abbrev kG:B7:=λ_ _ _ _ _ _=>False
noncomputable abbrev E0:XK:=λ_ _ _=>False
theorem k8:sB kG X E0:=λ_ _ _ _ _ _ _ h=>h.elim
structure pV(K:af)(x qual:be)(st:fz)(f:ag)(fd:χ):Prop where
 ex:∃(oc:ρ) (od:Option ag) (kV doc pm:ρ) (an:Option ag) (cdv ct:ρ) (osl:Array (Option ρ)),
  fd=eW x qual (qB st) (qf st) (kq st) .none kV doc pm an cdv ct/\K.lookup f=some ⟨oc,od,.func fd,osl⟩/\hZ K cdv qual=true
 kp:dL K (.ref f)=true
section
variable{P:υ}{w:ψ}{K:af}{mg:D0}{base:bn}
theorem pV.ok{x qual:be}{st:fz}{f:ag}{fd:χ}{N ps:List be}{k:Nat}{sp:Sp}(F:pV K x qual st f fd)(S:se N ps (kq st))(len:∀vs H Q E,sp vs H Q E->vs.length=ps.length)(hbody:∀(cdv:ρ) (A:bt) (outer:List lw) (s:τ) (H:Hp) (vs:List V) (Q:VK) (E:XK),qo k (A.deeper (envOfC qual (kq st) s.heap.objs.size f cdv))->sp vs H Q E->
   ∃t,xx (xp kG P w K mg base N qual (kq st) f cdv A outer s H E).nox (qf st) t/\t {nx:=λ_ H'=>Q .non H',rt:=Q} (start N vs) H):gx P w K mg base kG (k+1) f fd ps sp:=by
 obtain⟨oc,od,kV,doc,pm,an,cdv,ct,osl,rfl,lk,hcd⟩:=F.ex;refine C8 lk hcd S len λA outer s H vs Q E hr hsp=>?_;obtain⟨t,h,q⟩:=hbody cdv A outer s H vs Q E hr hsp;exact⟨t,h.nox,q⟩
theorem pV.binds{st:fz}(F:pV K x qual st f fd)(h:∀(kV doc pm:ρ) (an:Option ag) (cdv ct:ρ) (us:List ρ),us.length=ps.length->fi (eW x qual (qB st) (qf st) (kq st) .none kV doc pm an cdv ct) ⟨us,[]⟩=pure (ps.zip us)):Binds K fd ps []:=by
 obtain⟨oc,od,kV,doc,pm,an,cdv,ct,osl,rfl,lk,hcd⟩:=F.ex;exact .all (h kV doc pm an cdv ct)
theorem xo{st:fz}{kV doc pm cdv ct:ρ}(l:K.lookup f=some ⟨oc,od,.func (eW x qual (qB st) (qf st) (kq st) .none kV doc pm an cdv ct),osl⟩)(c:hZ K cdv qual=true)(k:dL K (.ref f)=true):pV K x qual st f (eW x qual (qB st) (qf st) (kq st) .none kV doc pm an cdv ct):=⟨⟨oc,od,kV,doc,pm,an,cdv,ct,osl,rfl,l,c⟩,k⟩
end
theorem wE(hr:qo k A):A.units+1<cLine:=Jb (Nat.add_le_add_left (by decide:1<=64) _) hr.units
theorem wv(h:n<=1000):n<sizeLine:=Jb h (by decide)
section
variable{X:Cx}
theorem pv(i:Nat){x:be}{pos:eJ}(hN:X.N[i]? =some x:=by rfl)(hv:LH X.env.scope x:=by first |exact ii rfl|exact kc (ii rfl)|exact kc (kc rfl))(hd:(x==("__debug__":be))=false:=by decide)(hcd:(x==("__classdict__":be))=false:=by decide):PE X (.Name x pos) (GH i):=DL hN hv hd hcd
end
theorem kL{A B:Prop}(h:B):if false=true then A else B:=by
 rw[aq ux];exact h
theorem si{A B:Prop}(h:A):if true=true then A else B:=by
 rw[au rfl];exact h
theorem nE{c A B:Prop} [Decidable c](h1:c->A)(h2:¬c->B):if c then A else B:=by
 by_cases h:c
 ·rw[au h];exact h1 h
 ·rw[aq h];exact h2 h
noncomputable def Same(H H':Hp):Prop:=∀b o,H b=some o->H' b=some o
theorem Same.refl(H):Same H H:=λ_ _ h=>h
theorem Same.trans(a:Same H H1)(b:Same H1 H2):Same H H2:=λc o h=>b c o (a c o h)
theorem Same.free(e:Same H H')(h:H' l=Option.none):H l=Option.none:=by
 cases q:H l with
 |none=>rfl
 |some o=>
  rw[e l o q]at h;cases h
theorem Same.seq{K:af}(e:Same H H')(h:ja K H a xs):ja K H' a xs:=by
 rcases h with(h|⟨o,h⟩)|h
 ·exact .inl (.inl (e _ _ h))
 ·exact .inl (.inr ⟨o,e _ _ h⟩)
 ·exact .inr h
end L2
set_option maxHeartbeats 4000000
namespace L2
open PySem PySem.Spec PyProof.Rows
noncomputable def fZ(cells:List (be×ag)):List (be×cy)->List (be×ag)->List (be×ag)
 |[],acc=>acc
 |p::r,acc=>fZ cells r (if(p.2==aw)=true then(p.1,(cells.lookup p.1).getD 0)::acc else acc)
theorem mX:∀{names:List (be×cy)}{acc:List (be×ag)}{x:be}{c:ag},(x,c)∈fZ cells names acc->(x,c)∈acc\/c=(cells.lookup x).getD 0/\(x,aw)∈names
 |[],_,_,_,h=>.inl h
 |(n,k)::r,acc,x,c,h=>by
  rcases mX (names:=r) h with q|⟨q,m⟩
  ·dsimp only at q;split at q
   ·rename_i hk;rcases cZ.mp q with e|e
    ·cases e;have:k=NameKind.free:=by simpa using hk
     subst this;exact .inr ⟨rfl,dZ⟩
    ·exact .inl e
   ·exact .inl q
  ·exact .inr ⟨q,fB _ m⟩
theorem Ek:∀{names:List (be×cy)}{acc:List (be×ag)}{p:be×ag},p∈acc->p∈fZ cells names acc
 |[],_,_,h=>h
 |(n,k)::r,acc,p,h=>by
  refine Ek (names:=r) ?_;split
  ·exact fB _ h
  ·exact h
theorem wI:∀{names:List (be×cy)}{acc:List (be×ag)}{x:be},(x,aw)∈names->∃c,(x,c)∈fZ cells names acc
 |(n,k)::r,acc,x,h=>by
  rcases cZ.mp h with e|e
  ·cases e;refine⟨(cells.lookup n).getD 0,Ek (names:=r) ?_⟩;rw[au (show(aw==aw)=true from rfl)];exact dZ
  ·exact wI (names:=r) e
theorem Fh{β:Type}:∀{l:List (be×β)}{x:be}{c:β},(x,c)∈l->∃d,l.lookup x=some d/\(x,d)∈l
 |(n,k)::r,x,c,h=>by
  cases hx:x==n with
  |true=>
   have e:x=n:=by simpa using hx
   subst e;exact⟨k,by simp[Ku],dZ⟩
  |false=>
   rcases cZ.mp h with e|e
   ·cases e;simp at hx
   ·obtain⟨d,h1,h2⟩:=Fh e;exact⟨d,by simp only[Ku,hx];exact h1,fB _ h2⟩
noncomputable def fL(sc scope:dQ):Bool:=scope.names.all λp=>(p.2 !=bd)&&(p.2 !=NameKind.local||scope.names.lookup p.1==some NameKind.local)&&
 (p.2 !=aw||sc.names.lookup p.1==some bd||sc.names.lookup p.1==some aw)
section
variable{sc scope:dQ}
theorem fL.cell(h:fL sc scope=true):∀y∈scope.names,y.2≠.cell:=λy hy e=>by
 have q:=lM.mp h y hy;simp[e]at q
theorem fL.free(h:fL sc scope=true)(hy:(x,aw)∈scope.names):sc.names.lookup x=some .cell\/sc.names.lookup x=some .free:=by
 have q:=lM.mp h _ hy;simpa using q
end
theorem p8(h:∀x,(x,aw)∈scope.names->∃c,env.cells.lookup x=some c):closureFor scope env=pure (fZ env.cells scope.names []):=by
 have key:∀(names:List (be×cy)) (acc:List (be×ag)),(∀x,(x,aw)∈names->∃c,env.cells.lookup x=some c)->
   (forIn names acc λ(x:be×cy) (cs:List (be×ag))=>if(x.2==aw)=true then(do let y<-cellOf env x.1;pure (dn ((x.1,y)::cs)))else pure (dn cs):Sem (List (be×ag)))=pure (fZ env.cells names acc):=by
  intro names
  induction names with
  |nil=>intro acc _;rfl
  |cons p r ih=>
   intro acc hh;obtain⟨n,k⟩:=p;rw[MR];dsimp only;by_cases hk:(k==aw)=true
   ·have e:k=NameKind.free:=by simpa using hk
    subst e;obtain⟨c,hc⟩:=hh n dZ;rw[au hk];unfold cellOf;rw[hc];simp only[pure_bind];refine Eq.trans (ih _ λx hx=>hh x (fB _ hx)) ?_;show _=pure (fZ env.cells r (if(aw==aw)=true then(n,(env.cells.lookup n).getD 0)::acc else acc));rw[au hk,hc];rfl
   ·rw[aq hk];simp only[pure_bind];refine Eq.trans (ih _ λx hx=>hh x (fB _ hx)) ?_;show _=pure (fZ env.cells r (if(k==aw)=true then(n,(env.cells.lookup n).getD 0)::acc else acc));rw[aq hk]
 have q:=key scope.names [] h;unfold closureFor;simp only[bind_pure];exact q
theorem pO{env:lw}:∀{names:List (be×cy)}{x:be}{k:cy},names.lookup x=some k->
  (names.map λ(n,k)=>if(k==aw&&env.scope.kind==.function&&env.kindOf n==some .cell)then(n,bd)else(n,k)).lookup x=some (if(k==aw&&env.scope.kind==.function&&env.kindOf x==some .cell)=true then .cell else k)
 |[],_,_,h=>by simp at h
 |(n,k)::r,x,k',h=>by
  have ih:= @pO env r x k';show dA x ((if(k==aw&&env.scope.kind==.function&&env.kindOf n==some .cell)=true then(n,bd)else(n,k))::_)=_;cases hx:x==n with
  |true=>
   have e:x=n:=by simpa using hx
   subst e;simp only[Ku,hx]at h;cases h;by_cases hc:(k==aw&&env.scope.kind==.function&&env.kindOf x==some .cell)=true
   ·rw[au hc,au hc];simp[Ku]
   ·rw[aq hc,aq hc];simp[Ku]
  |false=>
   simp only[Ku,hx]at h;by_cases hc:(k==aw&&env.scope.kind==.function&&env.kindOf n==some .cell)=true
   ·rw[au hc];simp only[Ku,hx];exact ih h
   ·rw[aq hc];simp only[Ku,hx];exact ih h
theorem vV{env:lw}:∀{names:List (be×cy)}{x:be},names.lookup x=none->
  (names.map λ(n,k)=>if(k==aw&&env.scope.kind==.function&&env.kindOf n==some .cell)then(n,bd)else(n,k)).lookup x=none
 |[],_,_=>rfl
 |(n,k)::r,x,h=>by
  have ih:= @vV env r x;show dA x ((if(k==aw&&env.scope.kind==.function&&env.kindOf n==some .cell)=true then(n,bd)else(n,k))::_)=_;cases hx:x==n with
  |true=>simp only[Ku,hx]at h;cases h
  |false=>
   simp only[Ku,hx]at h;by_cases hc:(k==aw&&env.scope.kind==.function&&env.kindOf n==some .cell)=true
   ·rw[au hc];simp only[Ku,hx];exact ih h
   ·rw[aq hc];simp only[Ku,hx];exact ih h
theorem Gx(h:scope.names.lookup x=some .free):(gi scope env).names.lookup x=some .cell\/(gi scope env).names.lookup x=some .free:=by
 have q:=pO (env:=env) h;by_cases hc:((aw==aw)&&env.scope.kind==.function&&env.kindOf x==some .cell)=true
 ·rw[au hc]at q;exact .inl q
 ·rw[aq hc]at q;exact .inr q
inductive iR(X:Cx)(scope:dQ):List be->List Nat->Prop
 |nil:iR X scope [] []
 |cons {x:be}{j:Nat}{xs:List be}{js:List Nat} (hN:X.N[j]? =some x) (hf:scope.names.lookup x=some .free) (t:iR X scope xs js):iR X scope (x::xs) (j::js)
theorem iR.get:∀{xs:List be}{js:List Nat}{k:Nat}{x:be},iR X scope xs js->xs[k]? =some x->∃j,js[k]? =some j/\X.N[j]? =some x/\scope.names.lookup x=some .free
 |_,_,k,x,.nil,h=>by simp at h
 |_,_,0,x,.cons h1 h2 _,h=>by simp at h;subst h;exact⟨_,rfl,h1,h2⟩
 |_,_,k+1,x,.cons _ _ t,h=>by
  obtain⟨j,a,b⟩:=iR.get (k:=k) t (by simpa using h);exact⟨j,by simpa using a,b⟩
theorem iR.len:∀{xs:List be}{js:List Nat},iR X scope xs js->xs.length=js.length
 |_,_,.nil=>rfl
 |_,_,.cons _ _ t=>by simp[iR.len t]
noncomputable def Du(own:List be)(ix:List Nat)(σ:St):St:=own.map (λ_=>none)++ix.map λj=>(σ[j]?).join
noncomputable def Xb(X:Cx)(ifs:List bp)(t:TT):Prop:=
 ∀(aa:O0) (s:τ) (σ:St) (H:Hp) (Q:Bool->Hp->Prop),Inv X aa σ H s->t σ H Q->
  ai (ar X.prog X.w) X.A (forIn ifs true λc r=>if r=true then do let ok<-nV c X.env (bQ c X.env);pure (dn ok)else pure (dn r)) (TP X aa σ Q) X.xe s
theorem lF:Xb X [] (λ_ H Q=>Q true H):=λ_ _ _ H _ I h=>wpAny_tests_nil ⟨H,I,h⟩
theorem Fb(h:PT X c t):Xb X [c] t:=λaa s σ H Q I hq=>wpAny_tests_one (h aa s σ H Q I hq)
theorem tx.add(x:tx P w H h)(hn:H a=none)(new:qr P w (upd H a o) h a o):tx P w (upd H a o) h:=λb u e=>by
 by_cases hb:b=a
 ·subst hb;rw[aK]at e;cases e;exact new
 ·rw[cF hb]at e;exact(x b u e).stay (λc v _ q=>q) (λc q=>by rw[cF (oA q hn)];exact q) λc xs q=>by rw[cF (oA q hn)];exact q
theorem Un.add{fs ex:η}{H H':Hp}{h h':bn}{a:ag}{o:HO}(u:Un fs ex H H' h h')(ha:h.objs.size<=a)(hn:H' a=none):Un fs ex H (upd H' a o) h h' where
 keep:=u.keep
 slot:=u.slot
 free:=λb ob q n hx=>by rw[cF (fu (jA (dJ q) ha))];exact u.free b ob q n hx
 there:=u.there
 tups:=λb xs q=>by have:=u.tups b xs q;rw[cF (oA this hn)];exact this
 frzs:=λb ob xs q=>by have:=u.frzs b ob xs q;rw[cF (oA this hn)];exact this
 tbls:=λb ps q=>by obtain⟨m,e⟩:=u.tbls b ps q;exact⟨m,by rw[cF (oA e hn)];exact e⟩
noncomputable def wW(J:It)(ini:St)(H:Hp)(g:TG)(tc:TT)(te:TE)(Fin:List V->Hp->Prop):Prop:=
 ∃W:Nat->Nat->List V->St->Hp->Prop,(∃m,W 0 m [] ini H)/\∀i m acc σ H,W i m acc σ H->
  (J.stop i H/\acc.length<=sizeLine/\Fin acc H)\/(J.go i H/\acc.length<sizeLine/\∃N:List V->St->Hp->Prop,(∀acc' σ' H',N acc' σ' H'->∃m',m'<m/\W (i+1) m' acc' σ' H')/\∀x H',J.yld i H x H'->g x σ H' λσ2 H2=>tc σ2 H2 λb H3=>
   if b=true then te σ2 H3 λv H4=>N (acc++[v]) σ2 H4 else N acc σ2 H3)
noncomputable def Jl(wi:TI)(own:List be)(ix:List Nat)(g:TG)(tc:TT)(te:TE):TE:=λσ H Q=>wi σ H λJ H1=>
 wW J (Du own ix σ) H1 g tc te λacc H'=>∀p,H' p=none->Q (.ref p) (upd H' p (.lst acc))
section
variable{K:af}{a:ag}{xs:List V}{g:TG}{tc:TT}{te:TE}{Fin:List V->Hp->Prop}{ini:St}{H:Hp}
theorem w6(Pv:Nat->List V->St->Hp->Prop)(h0:Pv 0 [] ini H)(hl:∀(i:Nat) acc σ H,i<=xs.length->Pv i acc σ H->ja K H a xs)(hz:∀(i:Nat) acc σ H,i<=xs.length->Pv i acc σ H->acc.length<=i)(hx:xs.length<=sizeLine)(hs:∀(i:Nat) x acc σ H,xs[i]? =some x->Pv i acc σ H->g x σ H λσ2 H2=>tc σ2 H2 λb H3=>if b=true then te σ2 H3 λv H4=>Pv (i+1) (acc++[v]) σ2 H4 else Pv (i+1) acc σ2 H3)(hd:∀acc σ H,Pv xs.length acc σ H->Fin acc H):wW (E9 K a) ini H g tc te Fin:=by
 refine⟨λi m acc σ H=>m=xs.length-i/\i<=xs.length/\Pv i acc σ H,⟨xs.length,by simp,dX _,h0⟩,?_⟩;rintro i m acc σ H ⟨rfl,hi,p⟩;have q:=hl i acc σ H hi p;have z:=hz i acc σ H hi p;by_cases hlt:i<xs.length
 ·refine .inr ⟨⟨xs,xs[i],q,by simp[hlt]⟩,by omega,λacc σ H=>Pv (i+1) acc σ H,λacc' σ' H' r=>⟨_,by omega,rfl,hlt,r⟩,λx H' y=>?_⟩;obtain⟨e,y⟩:=y;subst e;exact hs i x acc σ _ (y xs q) p
 ·have e:i=xs.length:=by omega
  subst e;exact .inl ⟨⟨xs,q,aP _⟩,by omega,hd acc σ H p⟩
theorem IV(Pv:Nat->List V->St->Hp->Prop)(h0:Pv 0 [] ini H)(hl:∀(i:Nat) acc σ H,i<=xs.length->Pv i acc σ H->SqT K H a xs)(hz:∀(i:Nat) acc σ H,i<=xs.length->Pv i acc σ H->acc.length<=i)(hx:xs.length<=sizeLine)(hs:∀(i:Nat) x acc σ H,xs[i]? =some x->Pv i acc σ H->g x σ H λσ2 H2=>tc σ2 H2 λb H3=>if b=true then te σ2 H3 λv H4=>Pv (i+1) (acc++[v]) σ2 H4 else Pv (i+1) acc σ2 H3)(hd:∀acc σ H,Pv xs.length acc σ H->Fin acc H):wW (E8 K a) ini H g tc te Fin:=by
 refine⟨λi m acc σ H=>m=xs.length-i/\i<=xs.length/\Pv i acc σ H,⟨xs.length,by simp,dX _,h0⟩,?_⟩;rintro i m acc σ H ⟨rfl,hi,p⟩;have q:=hl i acc σ H hi p;have z:=hz i acc σ H hi p;by_cases hlt:i<xs.length
 ·refine .inr ⟨⟨xs,xs[i],q,by simp[hlt]⟩,by omega,λacc σ H=>Pv (i+1) acc σ H,λacc' σ' H' r=>⟨_,by omega,rfl,hlt,r⟩,λx H' y=>?_⟩;obtain⟨e,y⟩:=y;subst e;exact hs i x acc σ _ (y xs q) p
 ·have e:i=xs.length:=by omega
  subst e;exact .inl ⟨⟨xs,q,aP _⟩,by omega,hd acc σ H p⟩
theorem Nm{lo:Int}(Pv:Nat->List V->St->Hp->Prop)(h0:Pv 0 [] ini H)(hz:∀(i:Nat) acc σ H,i<=n->Pv i acc σ H->acc.length<=i)(hx:n<=sizeLine)(hs:∀(i:Nat) acc σ H,i<n->Pv i acc σ H->g (.int (lo+i)) σ H λσ2 H2=>tc σ2 H2 λb H3=>if b=true then te σ2 H3 λv H4=>Pv (i+1) (acc++[v]) σ2 H4 else Pv (i+1) acc σ2 H3)(hd:∀acc σ H,Pv n acc σ H->Fin acc H):wW (Db lo n) ini H g tc te Fin:=by
 refine⟨λi m acc σ H=>m=n-i/\i<=n/\Pv i acc σ H,⟨n,by simp,dX _,h0⟩,?_⟩;rintro i m acc σ H ⟨rfl,hi,p⟩;have z:=hz i acc σ H hi p;by_cases hlt:i<n
 ·refine .inr ⟨hlt,by omega,λacc σ H=>Pv (i+1) acc σ H,λacc' σ' H' r=>⟨_,by omega,rfl,hlt,r⟩,λx H' y=>?_⟩;obtain⟨e,y⟩:=y;subst e y;exact hs i acc σ _ hlt p
 ·have e:i=n:=by omega
  subst e;exact .inl ⟨aP _,by omega,hd acc σ H p⟩
end
end L2
namespace uW
open PySem PySem.W PyProof.Rows
section
variable{O:jS}{key:Nat->O.α}{N:Nat}{cmp:Nat->Nat->(Bool->τ->Prop)->τ->Prop}{s:τ}
noncomputable def lE(O:jS)(key:Nat->O.α)(N:Nat)(cmp:Nat->Nat->(Bool->τ->Prop)->τ->Prop)(s:τ):Prop:=
 ∀i j (C:Bool->τ->Prop),i<N->j<N->C (O.blt (key i) (key j)) s->cmp i j C s
noncomputable def KN(key:Nat->O.α)(p:ξ)(i:Nat):O.α:=key (p.getD i 0)
noncomputable def So(key:Nat->O.α)(p:ξ)(k:Nat):Prop:=∀i j,i<=j->j<k->O.kle (KN key p i) (KN key p j)
noncomputable def Ni(key:Nat->O.α)(p:ξ)(k:Nat):Prop:=∀i j,i<=j->j<k->O.kle (KN key p j) (KN key p i)
structure Ord(N:Nat)(p:ξ):Prop where
 perm:p.Perm (bg (am N))
theorem Ord.size(h:Ord N p):p.size=N:=by have:=h.perm.size_eq;simpa using this
theorem Ord.lt(h:Ord N p)(hi:i<N):p.getD i 0<N:=by
 have hi':i<p.size:=by rw[h.size];exact hi
 have e:p.getD i 0=p[i]:=by simp[lL,hi']
 rw[e];have m:p[i]∈p.toList:=by simp
 have:=(Me.mp h.perm).mem_iff.mp m;simpa using this
theorem Ord.rev(h:Ord N p)(i j):Ord N (kA p i j):=⟨(mirror_perm _ _ _ _).trans h.perm⟩
theorem Ord.bub(h:Ord N p)(i j):Ord N (oy p i j):=⟨(bubble_perm _ _ _).trans h.perm⟩
theorem wk(p:ξ)(i):p.getD i 0=(p[i]?).getD 0:=by simp
theorem Ip(hj:j<=p.size)(k):KN key (kA p i j) k=if i<=k/\k<j then KN key p (i+j-1-k)else KN key p k:=by
 have e:=getElem?_mirror_all (i:=i) hj k;unfold KN kA;rw[wk,e];split
 ·rw[wk]
 ·rw[wk]
theorem Fa(hj:j<=p.size)(heq:∀k,i<=k->k<j->KN key p k=KN key p (j-1))(k):KN key (kA p i j) k=KN key p k:=by
 rw[Ip hj];split
 ·rename_i h;rw[heq k h.1 h.2,heq _ (by omega) (by omega)]
 ·rfl
theorem RT(hs:src<p.size)(hd:d<=src)(k):KN key (oy p src d) k=if k=src-d then KN key p src else if src-d<k/\k<=src then KN key p (k-1)else KN key p k:=by
 have e:=getElem?_bubble hs d hd k;have q:KN key (oy p src d) k=key (((oy p src d)[k]?).getD 0):=jQ key (wk _ _);have q2:∀i,KN key p i=key ((p[i]?).getD 0):=λi=>jQ key (wk _ _);rw[q,e,q2,q2,q2];by_cases h1:k=src-d
 ·rw[au h1,au h1]
 ·rw[aq h1,aq h1];by_cases h2:src-d<k/\k<=src
  ·rw[au h2,au h2]
  ·rw[aq h2,aq h2]
theorem JN(h:i<=j)(hn:¬i=j):i<=j-1:=II (Nt h hn)
theorem HN(h:j<n+1)(hn:¬j<n):j=n:=Xj (Wa h) (V7.mp hn)
theorem mJ(h:1<=x)(hk:x<=k):x-1<k:=FD h hk
theorem Ho(h:x+(f+1)<=N):x<N:=jA (Nat.lt_add_of_pos_right (Bq f)) h
theorem yZ(h:x+(f+1)<=N):x+1+f<=N:=dH (Ja (IM x f)) h
theorem Wu(h:m<=x+1+f):m<=x+(f+1):=dH h (Ja (IM x f))
theorem Yl(h:i<=j):0+n-1-j<=0+n-1-i:=Nat.sub_le_sub_left h _
theorem Yk(h:i<n):0+n-1-i<n:=by
 rw[Nat.zero_add];exact Jb (IN _ _) (FD (Jb (dX _) h) (aP _))
theorem OG(ok:lE O key N cmp s)(hp:Ord N p){Q:Nat->τ->Prop}:∀(f n:Nat),1<=n->n+f<=N->So key p n->(∀m,n<=m->m<=n+f->So key p m->(m=n+f\/O.klt (KN key p m) (KN key p (m-1)))->Q m s)->(kas_asc p f n).kasWp cmp Q s
 |0,n,_,_,hs,h=>h n (aP _) (aP _) hs (.inl rfl)
 |f+1,n,h1,hn,hs,h=>by
  have Zf:n<N:=Ho hn;refine ok _ _ _ (hp.lt Zf) (hp.lt (mJ h1 (dW Zf))) ?_;cases hless:O.blt (key (p.getD n 0)) (key (p.getD (n-1) 0))with
  |true=>
   show Q n s;exact h n (aP _) (Xk _ _) hs (.inr hless)
  |false=>
   show(kas_asc p f (n+1)).kasWp cmp Q s;refine OG ok hp f (n+1) (Bq _) (yZ hn) (λi j hij hj=>?_) λm a b c d=>h m (M3 a) (Wu b) c (d.imp (λz=>z.trans (IM n f)) id);by_cases hjn:j<n
   ·exact hs i j hij hjn
   ·have hj':j=n:=HN hj hjn;subst hj';by_cases hi':i=j
    ·subst hi';exact Tv _
    ·exact Ky (hs i (j-1) (JN hij hi') (mJ h1 (aP _))) hless
theorem tail3(ok:lE O key N cmp s)(hp:Ord N p){Q:Nat×ξ->τ->Prop}(h1:1<=n)(hn:n<=N)(hs:Ni key p n)(h:∀m p',Ord N p'->1<=m->m<=N->So key p' m->Q (m,p') s):(kas_tail3 n N p).kasWp cmp Q s:=by
 unfold kas_tail3;rw[FX];have hsz:n<=p.size:=by rw[hp.size];exact hn
 have hN:n+(N-n)=N:=NA hn;refine OG ok (hp.rev 0 n) (N-n) n h1 (Ja hN) (λi j hij hj=>?_) λm a b c _=>h m _ (hp.rev 0 n) (dH h1 a) (dH b (Ja hN)) c;rw[Ip hsz,Ip hsz,au ⟨dX _,Jb hij hj⟩,au ⟨dX _,hj⟩];exact hs _ _ (Yl hij) (Yk (Jb hij hj))
theorem Rn(h1:1<=x)(hs:Ni key p x)(hless:O.kle (KN key p x) (KN key p (x-1)))(hk:∀k,KN key p' k=KN key p k):Ni key p' (x+1):=by
 intro i j hij hj;rw[hk,hk];by_cases hjx:j<x
 ·exact hs i j hij hjx
 ·have hj':j=x:=HN hj hjx;subst hj';by_cases hi':i=j
  ·subst hi';exact Tv _
  ·exact Ky hless (hs i (j-1) (JN hij hi') (mJ h1 (aP _)))
theorem yB(h1:x+1-(0+1)<=i)(h2:i<x+1):KN key p i=KN key p (x+1-1):=jQ _ (Xj (Wa h2) h1)
theorem CO(ok:lE O key N cmp s){Q:ξ×Nat×Nat->τ->Prop}:∀(f:Nat) (p:ξ) (x neq:Nat),Ord N p->1<=x->x+f<=N->Ni key p x->neq+1<=x->(∀i,x-(neq+1)<=i->i<x->KN key p i=KN key p (x-1))->
  (∀p' m q,Ord N p'->x<=m->m<=x+f->Ni key p' m->q+1<=m->(∀i,m-(q+1)<=i->i<m->KN key p' i=KN key p' (m-1))->Q (p',m,q) s)->(kH f p x neq).kasWp cmp Q s
 |0,p,x,neq,hp,_,_,hs,hq,he,h=>h p x neq hp (aP _) (aP _) hs hq he
 |f+1,p,x,neq,hp,h1,hn,hs,hq,he,h=>by
  have hxN:x<N:=Ho hn;have hsz:x<=p.size:=by rw[hp.size];exact dW hxN
  have hx1:x-1<N:=mJ h1 (dW hxN);have hh:∀p' m q,Ord N p'->x+1<=m->m<=x+1+f->Ni key p' m->q+1<=m->(∀i,m-(q+1)<=i->i<m->KN key p' i=KN key p' (m-1))->Q (p',m,q) s:=λp' m q a b c d e g=>h p' m q a (M3 b) (Wu c) d e g;refine ok _ _ _ (hp.lt hxN) (hp.lt hx1) ?_;cases hless:O.blt (key (p.getD x 0)) (key (p.getD (x-1) 0))with
  |true=>
   show(if neq>0 then kH f (kA p (x-(neq+1)) x) (x+1) 0 else kH f p (x+1) 0).kasWp cmp Q s;by_cases hneq:neq>0
   ·rw[au hneq];exact CO ok f _ (x+1) 0 (hp.rev _ _) (Bq _) (yZ hn) (Rn h1 hs (Gc hless) (Fa hsz he)) (Bq _) (λi h1 h2=>yB h1 h2) hh
   ·rw[aq hneq];exact CO ok f _ (x+1) 0 hp (Bq _) (yZ hn) (Rn h1 hs (Gc hless) λ_=>rfl) (Bq _) (λi h1 h2=>yB h1 h2) hh
  |false=>
   show(KasT.ask (p.getD (x-1) 0) (p.getD x 0) λd=>if d=true then KasT.ret (p,x,neq)else kH f p (x+1) (neq+1)).kasWp cmp Q s;refine ok _ _ _ (hp.lt hx1) (hp.lt hxN) ?_;cases hl:O.blt (key (p.getD (x-1) 0)) (key (p.getD x 0))with
   |true=>exact h p x neq hp (aP _) (Xk _ _) hs hq he
   |false=>
    show(kH f p (x+1) (neq+1)).kasWp cmp Q s;have heqx:KN key p x=KN key p (x-1):=kK hl hless;refine CO ok f _ (x+1) (neq+1) hp (Bq _) (yZ hn) (Rn h1 hs (by rw[heqx];exact Tv _) λ_=>rfl) (Nat.succ_le_succ hq) (λi h1 h2=>?_) hh;show KN key p i=KN key p x;by_cases hix:i=x
    ·subst hix;rfl
    ·rw[heqx];exact he i (dH (Ja (Nat.succ_sub_succ x (neq+1)).symm) h1) (Nt (Wa h2) hix)
theorem descPart(ok:lE O key N cmp s)(hp:Ord N p){Q:Nat×ξ->τ->Prop}(hn:n+1<=N)(hs:Ni key p (n+1))(h:∀m p',Ord N p'->1<=m->m<=N->So key p' m->Q (m,p') s):(oz n N p).kasWp cmp Q s:=by
 unfold oz;rw[FX];have hN:n+1+(N-(n+1))<=N:=Ja (NA hn);refine CO ok _ _ _ _ hp (Bq _) hN hs (Bq _) (λi h1 h2=>yB h1 h2) λp' m q a b c d e g=>?_;have hm:m<=N:=dH c hN;have hm1:1<=m:=dH (Bq _) b;have hsz:m<=p'.size:=by rw[a.size];exact hm
 dsimp only;by_cases hq:q>0
 ·rw[au hq];refine tail3 ok (a.rev _ _) hm1 hm (λi j hij hj=>?_) h;rw[Fa hsz g,Fa hsz g];exact d i j hij hj
 ·rw[aq hq];exact tail3 ok a hm1 hm d h
theorem count(ok:lE O key N cmp s)(hp:Ord N p){Q:Nat×ξ->τ->Prop}(h1:1<=N)(h:∀m p',Ord N p'->1<=m->m<=N->So key p' m->Q (m,p') s):(kas_count N p).kasWp cmp Q s:=by
 unfold kas_count;rw[FX];have hN:1+(N-1)=N:=NA h1;refine OG ok hp (N-1) 1 (aP _) (Ja hN) (λi j hij hj=>by
  have hj0:j=0:=Nat.lt_one_iff.mp hj;subst hj0;have hi0:i=0:=Nat.le_zero.mp hij;subst hi0;exact Tv _) λn a b hsn hor=>?_
 have Zf:n<=N:=dH b (Ja hN);by_cases hnn:n=N
 ·rw[au (by simpa using hnn)];exact h n p hp a Zf hsn
 ·rw[aq (by simpa using hnn)];have hlt:O.klt (KN key p n) (KN key p (n-1)):=hor.resolve_left λz=>hnn (z.trans hN);have Zg:n<N:=Nt Zf hnn;by_cases hgt:n>1
  ·rw[au hgt];have hn1:n-1<n:=mJ a (aP _);refine ok _ _ _ (hp.lt h1) (hp.lt (Nr hn1 Zg)) ?_;cases hrose:O.blt (key (p.getD 0 0)) (key (p.getD (n-1) 0))with
   |true=>exact h n p hp a Zf hsn
   |false=>
    show(oz n N (kA p 0 n)).kasWp cmp Q s;have hsz:n<=p.size:=by rw[hp.size];exact Zf
    have hall:∀k,0<=k->k<n->KN key p k=KN key p (n-1):=λk _ hk=>
     kK (hsn k (n-1) (II hk) hn1) (Ky hrose (hsn 0 k (dX _) hk))
    refine descPart ok (hp.rev 0 n) Zg (λi j hij hj=>?_) h;rw[Fa hsz hall,Fa hsz hall];by_cases hjn:j<n
    ·rw[hall i (dX _) (Jb hij hjn),hall j (dX _) hjn];exact Tv _
    ·have hj':j=n:=HN hj hjn;subst hj';by_cases hi':i=j
     ·subst hi';exact Tv _
     ·rw[hall i (dX _) (Nt hij hi')];exact Gc hlt
  ·rw[aq hgt];have hn1':n=1:=Xj (V7.mp hgt) a;subst hn1';refine descPart ok hp Zg (λi j hij hj=>?_) h;by_cases hi':i=j
   ·subst hi';exact Tv _
   ·have hij':i<j:=Nt hij hi';have hj1:j=1:=Xj (Wa hj) (Jb (dX i) hij');subst hj1;have hi0:i=0:=Nat.lt_one_iff.mp hij';subst hi0;exact Gc hlt
theorem CI(h:l<r):(l+r)/2<r:=by omega
theorem Vk(h:l<r):l<=(l+r)/2:=by omega
theorem place(ok:lE O key N cmp s)(hp:Ord N p){Q:Nat->τ->Prop}(hk:k<N)(hs:So key p k):∀(f l r:Nat),l<=r->r<=k->r-l<=f->(∀i,i<l->O.kle (KN key p i) (KN key p k))->(∀i,r<=i->i<k->O.klt (KN key p k) (KN key p i))->
  (∀l,l<=k->(∀i,i<l->O.kle (KN key p i) (KN key p k))->(∀i,l<=i->i<k->O.klt (KN key p k) (KN key p i))->Q l s)->(nh p k f l r).kasWp cmp Q s
 |0,l,r,hlr,hrk,hm,hlo,hhi,h=>by
  have e:l=r:=Xj hlr (Nat.sub_eq_zero_iff_le.mp (Nat.le_zero.mp hm));subst e;exact h l hrk hlo hhi
 |f+1,l,r,hlr,hrk,hm,hlo,hhi,h=>by
  show(if l≥r then KasT.ret l else KasT.ask (p.getD k 0) (p.getD ((l+r)/2) 0) λc=>if c=true then nh p k f l ((l+r)/2)else nh p k f ((l+r)/2+1) r).kasWp cmp Q s;by_cases hge:l≥r
  ·rw[au hge];have e:l=r:=Xj hlr hge;subst e;exact h l hrk hlo hhi
  ·rw[aq hge];have hc:(l+r)/2<r:=CI (Nat.not_le.mp hge);have hd:l<=(l+r)/2:=Vk (Nat.not_le.mp hge);generalize (l+r)/2=c at hc hd⊢;refine ok _ _ _ (hp.lt hk) (hp.lt (Nr (jA hc hrk) hk)) ?_;cases hless:O.blt (key (p.getD k 0)) (key (p.getD c 0))with
   |true=>
    refine place ok hp hk hs f l c hd (dW (jA hc hrk)) (Wa (jA (Nat.sub_lt_sub_right hd hc) hm)) hlo (λi h1 h2=>?_) h;by_cases hi:i=c
    ·subst hi;exact hless
    ·exact KeyOrd.klt_of_klt_of_kle hless (hs c i h1 h2)
   |false=>
    refine place ok hp hk hs f (c+1) r hc hrk (Wa (jA (Nat.sub_lt_sub_left (Jb hd hc) (Nat.lt_succ_of_le hd)) hm)) (λi h1=>?_) hhi h;by_cases hi:i=c
    ·subst hi;exact hless
    ·exact Ky (hs i c (Wa h1) (jA hc hrk)) hless
theorem RE(hs:So key p k)(hl:l<=k)(hsz:k<p.size)(hlo:∀i,i<l->O.kle (KN key p i) (KN key p k))(hhi:∀i,l<=i->i<k->O.klt (KN key p k) (KN key p i)):So key (oy p k (k-l)) (k+1):=by
 intro i j hij hj;have e:k-(k-l)=l:=Nat.sub_sub_self hl;rw[RT hsz (IN _ _),RT hsz (IN _ _),e];have hjk:j<=k:=Wa hj;by_cases hi1:i=l
 ·rw[au hi1];by_cases hj1:j=l
  ·rw[au hj1];exact Tv _
  ·have lj:l<j:=Nt (hi1▸hij) (oV hj1);rw[aq hj1,au ⟨lj,hjk⟩];exact Gc (hhi (j-1) (II lj) (FD (Jb (dX _) lj) hjk))
 ·rw[aq hi1];by_cases hi2:l<i/\i<=k
  ·have lj:l<j:=jA hi2.1 hij;rw[au hi2,aq (oV (fu lj)),au ⟨lj,hjk⟩];exact hs _ _ (Nat.sub_le_sub_right hij 1) (FD (Jb (dX _) lj) hjk)
  ·rw[aq hi2];have il:i<l:=Nt (V7.mp λz=>hi2 ⟨z,dH hij hjk⟩) hi1;by_cases hj1:j=l
   ·rw[au hj1];exact hlo i il
   ·rw[aq hj1];by_cases hj2:l<j/\j<=k
    ·rw[au hj2];exact hs _ _ (II (Nr il hj2.1)) (FD (Jb (dX _) hj2.1) hjk)
    ·rw[aq hj2];exact hs _ _ hij (jA (Nt (V7.mp λz=>hj2 ⟨z,hjk⟩) hj1) hl)
theorem HV(ok:lE O key N cmp s){Q:ξ->τ->Prop}:∀(f:Nat) (p:ξ) (k:Nat),Ord N p->1<=k->k+f=N->So key p k->(∀p',Ord N p'->So key p' N->Q p' s)->(kas_bin f p k).kasWp cmp Q s
 |0,p,k,hp,_,hf,hs,h=>h p hp ((show k=N from hf)▸hs)
 |f+1,p,k,hp,h1,hf,hs,h=>by
  show((nh p k k 0 k).bind λl=>kas_bin f (oy p k (k-l)) (k+1)).kasWp cmp Q s;rw[FX];have hk:k<N:=Ho (Ja hf);have hsz:k<p.size:=by rw[hp.size];exact hk
  refine place ok hp hk hs k 0 k (dX _) (aP _) (IN _ _) (λi hi=>absurd hi (Tn _)) (λi h1 h2=>absurd h2 (V7.mpr h1)) λl hl hlo hhi=>?_;exact HV ok f _ (k+1) (hp.bub _ _) (Bq _) ((IM k f).trans hf) (RE hs hl hsz hlo hhi) h
theorem N3(ok:lE O key N cmp s){Q:ξ->τ->Prop}(h1:1<=N)(h:∀p',Ord N p'->So key p' N->Q p' s):(kas_sort N).kasWp cmp Q s:=by
 unfold kas_sort;rw[FX];refine count ok ⟨Array.Perm.refl _⟩ h1 λm p' hp hm1 hm2 hs=>?_;dsimp only;by_cases hlt:m<N
 ·rw[au hlt];have e:max m 1=m:=by omega
  rw[e];exact HV ok _ _ _ hp hm1 (by omega) hs h
 ·rw[aq hlt];have e:m=N:=by omega
  subst e;exact h p' hp hs
end
end uW
namespace uW
open PySem PySem.W PyProof.Rows PySem.Calls
noncomputable def Mv{O:jS}(key:Nat->O.α)(vs out:List ρ):Prop:=∃p:ξ,Ord vs.length p/\So key p vs.length/\out=p.toList.map λi=>vs.getD i ba
section
variable{prog:υ}{w:ψ}{A:bt}{E:S0}{s:τ}{O:jS}{key:Nat->O.α}{κ:j0}{vs:List ρ}
theorem GF(h2:vs.length<2):Mv key vs vs:=by
 refine⟨bg (am vs.length),⟨Array.Perm.refl _⟩,λi j hij hj=>?_,?_⟩
 ·have e:i=j:=by omega
  subst e;exact Tv _
 ·match vs,h2 with
  |[],_=>rfl
  |[v],_=>rfl
  |_::_::_,h=>simp at h;omega
theorem oK{P:PySem.Fin->τ->Prop}(ho:s.heap.get? a=some (b9 "list" vs.toArray n))(h64:vs.length<64)(hkind:2<=vs.length->∀h',(∀b o,b≠a->s.heap.get? b=some o->h'.get? b=some o)->∀Q:j0->τ->Prop,Q κ {s with heap:=h'}->ai (ar prog w) A (keyKind' vs.toArray) Q E {s with heap:=h'})(QK:2<=vs.length->∀h',(∀b o,b≠a->s.heap.get? b=some o->h'.get? b=some o)->lE O key vs.length (kas_ask prog w A κ vs) {s with heap:=h'})(h:∀h' out c,Mv key vs out->(∀b o,b≠a->s.heap.get? b=some o->h'.get? b=some o)->h'.get? a=some (b9 "list" (bg out) c)->P (.done (.ret .none)) {s with heap:=h'}):
  ai (ar prog w) A (Builtin.«list.sort» ⟨[.ref a],[]⟩) P E s:=by
 have ha:a<s.heap.objs.size:=dJ ho;have s1:=M5 s.heap a (ay λ_=>(#[]:Array ρ));obtain⟨e1,ho1⟩:∃e1,(s.heap.update a (ay λ_=>(#[]:Array ρ))).get? a=some (b9 "list" #[] e1):=⟨_,Xx ho λ_=>#[]⟩;have keep:∀b o,b≠a->s.heap.get? b=some o->(((s.heap.update a (ay λ_=>(#[]:Array ρ))).push (b9 "tuple" vs.toArray 0)).push (b9 "list" #[] 0)).get? b=some o:=λb o hb e=>
  cR _ (cR _ ((s1.2 b hb).trans e))
 have ho6:(((s.heap.update a (ay λ_=>(#[]:Array ρ))).push (b9 "tuple" vs.toArray 0)).push (b9 "list" #[] 0)).get? a=some (b9 "list" #[] e1):=cR _ (cR _ ho1);rw[list_sort_plain];refine ao (oB ho rfl ?_);refine ao (JE ho rfl ?_ (by rw[gM,gF];omega) (dX _));refine ao (seqEpoch_at ho1 rfl ?_);refine ao (kM ?_ (by show vs.length<=_;rw[gF];omega));refine ao (FV ?_ (dX _));apply yX;show ai (ar prog w) A _ P E {s with heap:=((s.heap.update a (ay λ_=>(#[]:Array ρ))).push (b9 "tuple" vs.toArray 0)).push (b9 "list" #[] 0)};dsimp only;by_cases h2:vs.toArray.size<2
 ·have h2':vs.length<2:=by simpa using h2
  rw[au h2,au h2];refine ao (aM ?_);rw[StateT.run_pure];refine ao (aM ?_);dsimp only;refine ao (seqEpoch_at ho6 rfl ?_);refine ao (JE ho6 rfl ?_ (dX _) (by rw[Array.size_map];show(pairsOf vs).size<=_;rw[pairsOf_size,gF];omega));simp only[M2,KU,Wk];apply aM;have eo:(vs.toArray.zip vs.toArray).map (·.2)=bg vs:=by
   apply Array.toList_inj.mp;simp[List.map_snd_zip]
  have s2:=M5 (((s.heap.update a (ay λ_=>(#[]:Array ρ))).push (b9 "tuple" vs.toArray 0)).push (b9 "list" #[] 0)) a (ay λ_=>bg vs);obtain⟨c2,hc2⟩:∃c2,((((s.heap.update a (ay λ_=>(#[]:Array ρ))).push (b9 "tuple" vs.toArray 0)).push (b9 "list" #[] 0)).update a (ay λ_=>bg vs)).get? a=some (b9 "list" (bg vs) c2):=⟨_,Xx ho6 λ_=>bg vs⟩;have fin:=h _ vs c2 (GF h2') (λb o hb e=>(s2.2 b hb).trans (keep b o hb e)) hc2
  first
   |exact fin
   |(rw[<-eo]at fin;exact fin)
   |(show P _ {s with heap:=Heap.update _ a (ay λ_=>(vs.toArray.zip vs.toArray).map (·.2))};rw[eo];exact fin)
 ·have h2':2<=vs.length:=by rw[gM]at h2;omega
  rw[aq h2,aq h2];refine ao (hkind h2' _ keep _ ?_);refine ao (Jd (kat_run (Q:=λst' s'=>s'={s with heap:=((s.heap.update a (ay λ_=>(#[]:Array ρ))).push (b9 "tuple" vs.toArray 0)).push (b9 "list" #[] 0)}/\∃p:ξ,p.size=vs.length/\arrOf st'=p.map (kas_item (vs.toArray.zip vs.toArray))/\failedOf st'=none/\Ord vs.length p/\So key p vs.length)
   (G:=λp s'=>s'={s with heap:=((s.heap.update a (ay λ_=>(#[]:Array ρ))).push (b9 "tuple" vs.toArray 0)).push (b9 "list" #[] 0)}/\Ord vs.length p/\So key p vs.length)
   rfl h2' h64 (λp' st' s' a1 a2 a3 a4=>⟨a4.1,p',a1,a2,a3,a4.2.1,a4.2.2⟩) (N3 (QK h2' _ keep) (by omega) λp' hp hs=>⟨rfl,hp,hs⟩)) ?_ λ_ _ e=>e)
  rintro⟨⟨⟩,st'⟩ s' ⟨rfl,p,hp,har,hf,hor,hso⟩;dsimp only;have hout:=kat_snds rfl har;have hsz:(bg (p.toList.map λi=>vs.getD i ba)).size=vs.length:=by rw[gM,aD,Fg,hp]
  rw[hout];refine ao (seqEpoch_at ho6 rfl ?_);refine ao (JE ho6 rfl ?_ (dX _) (dH (Ja hsz) (by rw[gF];omega)));rw[hf];simp only[M2,KU,Wk];have s2:=M5 (((s.heap.update a (ay λ_=>(#[]:Array ρ))).push (b9 "tuple" vs.toArray 0)).push (b9 "list" #[] 0)) a (ay λ_=>bg (p.toList.map λi=>vs.getD i ba));obtain⟨c2,hc2⟩:∃c2,((((s.heap.update a (ay λ_=>(#[]:Array ρ))).push (b9 "tuple" vs.toArray 0)).push (b9 "list" #[] 0)).update a (ay λ_=>bg (p.toList.map λi=>vs.getD i ba))).get? a=some (b9 "list" (bg (p.toList.map λi=>vs.getD i ba)) c2):=⟨_,Xx ho6 λ_=>_⟩;exact aM (h _ _ c2 ⟨p,hor,hso,rfl⟩ (λb o hb e=>(s2.2 b hb).trans (keep b o hb e)) hc2)
theorem vK{Q:S0}(hl:s.heap.IsList l vs.toArray)(h64:vs.length<64)(hkind:2<=vs.length->∀h',(∀b o,s.heap.get? b=some o->h'.get? b=some o)->∀(E:S0) (Q:j0->τ->Prop),Q κ {s with heap:=h'}->ai (ar prog w) A.in1.in1 (keyKind' vs.toArray) Q E {s with heap:=h'})(QK:2<=vs.length->∀h',(∀b o,s.heap.get? b=some o->h'.get? b=some o)->lE O key vs.length (kas_ask prog w A.in1.in1 κ vs) {s with heap:=h'})(h:∀D h' out c,Mv key vs out->s.heap.objs.size<=D->(∀b o,s.heap.get? b=some o->h'.get? b=some o)->h'.get? D=some (b9 "list" (bg out) c)->Q (.ref D) {s with heap:=h'}):
  ai (ar prog w) A (call (.builtin "sorted") [.ref l]) Q E s:=by
 refine NN kind_sorted plain_sorted entry_sorted (args_sorted1 _) ?_;unfold Builtin.«sorted»;refine ao (m:=checkCount "sorted" 1 1 _) (aM ?_);refine ao (collect_list hl ?_ (by rw[gF];omega));refine ao (FV ?_ (by rw[gF];omega));have hsz:((s.heap.push (b9 "list" #[] 0)).update s.heap.objs.size (ay (· ++vs.toArray))).objs.size=s.heap.objs.size+1:=by
  rw[Heap.size_update,size_push']
 have hoL:(((s.heap.push (b9 "list" #[] 0)).update s.heap.objs.size (ay (· ++vs.toArray))).push (b9 "list" vs.toArray 0)).get? (s.heap.objs.size+1)=some (b9 "list" vs.toArray 0):=by
  rw[<-hsz];exact iQ _ rfl
 have keep:∀b o,s.heap.get? b=some o->(((s.heap.push (b9 "list" #[] 0)).update s.heap.objs.size (ay (· ++vs.toArray))).push (b9 "list" vs.toArray 0)).get? b=some o:=λb o q=>by
  have hlt:b<s.heap.objs.size:=dJ q;rw[KO _ _ _ (by rw[hsz];exact fu (tU hlt)),Heap.get?_update_ne _ _ _ _ (fu hlt),KO _ _ _ (fu hlt)];exact q
 have ne:∀b o,s.heap.get? b=some o->b≠s.heap.objs.size+1:=λb o q=>fu (tU (dJ q));show ai _ _ _ _ _ {s with heap:=((s.heap.push (b9 "list" #[] 0)).update s.heap.objs.size (ay (· ++vs.toArray))).push (b9 "list" vs.toArray 0)};rw[hsz];refine ao (yX (MP slot_list_sort ⟨_,hoL,rfl⟩ entry_list_sort ?body (args_list_sort _)))
 case body=>
  refine oK (key:=key) (κ:=κ) (s:={s with heap:=((s.heap.push (b9 "list" #[] 0)).update s.heap.objs.size (ay (· ++vs.toArray))).push (b9 "list" vs.toArray 0)}) hoL h64
   (λh2 h' k Q hq=>hkind h2 h' (λb o q=>k b o (ne b o q) (keep b o q)) _ Q hq) (λh2 h' k=>QK h2 h' λb o q=>k b o (ne b o q) (keep b o q)) λh' out c ho k hc=>?_
  exact⟨_,rfl,aM ⟨_,rfl,h _ h' out c ho (Bx _) (λb o q=>k b o (ne b o q) (keep b o q)) hc⟩⟩
end
end uW
namespace HT
open PySem PyProof.Rows
theorem fK:∀(a b:ζ),lexLt a b=decide (a<b)
 |[],[]=>by simp[lexLt]
 |[],_::_=>by simp[lexLt]
 |_::_,[]=>by simp[lexLt]
 |x::xs,y::ys=>by
  rw[lexLt_cons,fK xs ys];by_cases e:x=y
  ·subst e;simp
  ·rw[aq e];by_cases l:x<y
   ·simp[l,IL]
   ·have:¬(x::xs<y::ys):=by rw[IL];simp[l,e]
    simp[l,this]
end HT
namespace uW
open PySem PySem.W PyProof.Rows PySem.Calls
noncomputable def lexOrd:jS where
 α:=ζ
 blt a b:=decide (a<b)
 irrefl a:=by simpa using List.lt_irrefl a
 trans a b c h1 h2:=by simp only[KC]at *;exact List.lt_trans h1 h2
 negTrans a b c h:=by
  simp only[KC]at *;by_cases hab:a<b
  ·exact .inl hab
  ·exact .inr (List.lt_of_le_of_lt (List.not_lt.mp hab) h)
 total a b h1 h2:=by simp only[Pc]at *;exact List.le_antisymm (List.not_lt.mp h2) (List.not_lt.mp h1)
noncomputable def Ai:jS where
 α:=Int
 blt a b:=decide (a<b)
 irrefl a:=by simp
 trans a b c h1 h2:=by simp only[KC]at *;omega
 negTrans a b c h:=by simp only[KC]at *;omega
 total a b h1 h2:=by simp only[Pc]at *;omega
section
variable{prog:υ}{w:ψ}{A:bt}{s:τ}{Q:Bool->τ->Prop}
theorem Qz(i)(hx:bP xs ns)(hy:bP ys ms)(hl:ns.length+nb=ms.length+na)(h:Q (HT.lexLt ns ms) s):KatLex prog w A true (decide (na<nb)) Q (xs.zip ys) i s:=by
 induction hx generalizing ys ms i with
 |nil=>
  rw[oo];apply kat_nil;cases hy with
  |nil=>
   rw[HT.lexLt_nil_nil]at h;rw[gY (by simp only[SJ]at hl;omega)];exact h
  |cons c u hw=>
   rw[HT.lexLt_nil_cons]at h;rw[cI (by simp only[SJ,uL]at hl;omega)];exact h
 |cons a t hv ih=>
  cases hy with
  |nil=>
   rw[mP];apply kat_nil;rw[HT.lexLt_cons_nil]at h;rw[gY (by simp only[SJ,uL]at hl;omega)];exact h
  |cons c u hw=>
   rw[No];rw[HT.lexLt_cons]at h;refine kat_cons (wpAny_eqBool_int ?_);refine kat_go (λe=>?_) λe=>?_
   ·have e':a=c:=by simpa using e
    rw[au e']at h;exact kat_yes (ih (i+1) hw (by simp only[uL]at hl;omega) h)
   ·have e':a≠c:=by simpa using e
    rw[aq e']at h;apply kat_no;cases i with
    |zero=>exact oneLt_int h
    |succ i=>exact kat_one _ _ (lt_int (show W.BoolBack Q (.bool (decide (a<c))) s from h))
end
theorem JC{O:jS}{key:Nat->O.α}{α:Type}{ae:List α}{d:α}{f:α->O.α}{R:α->ρ->Prop}(hR:ce R ae vs)(hk:∀i (hi:i<ae.length),key i=f ae[i])(h:Mv key vs out):
  ∃its':List α,its'.Perm ae/\ce R its' out/\its'.Pairwise λx y=>O.kle (f x) (f y):=by
 obtain⟨p,hp,hs,rfl⟩:=h;have hl:=hR.length;have get:∀{l₁:List α}{l₂:List ρ}{i:Nat},ce R l₁ l₂->(h:i<l₁.length)->∃v,l₂[i]? =some v/\R l₁[i] v:=by
  intro l₁ l₂ i q
  induction q generalizing i with
  |nil=>intro h;simp at h
  |cons r t ih=>
   intro h;cases i with
   |zero=>exact⟨_,rfl,r⟩
   |succ i=>
    obtain⟨v,e,rv⟩:=ih (i:=i) (by simpa using h);exact⟨v,by simpa using e,by simpa using rv⟩
 have hlt:∀i∈p.toList,i<ae.length:=λi hi=>by
  have:=(Me.mp hp.perm).mem_iff.mp hi;rw[hl];simpa using this
 refine⟨p.toList.map λi=>ae.getD i d,?_,?_,?_⟩
 ·have q:=(Me.mp hp.perm).map (λi=>ae.getD i d);apply q.trans;have e:(bg (am vs.length)).toList.map (λi=>ae.getD i d)=ae:=by
   rw[<-hl];apply KM;intro i;simp only[dI];by_cases hi:i<ae.length
   ·simp[hi]
   ·simp[hi]
  rw[e]
 ·have mk:∀l:List Nat,(∀i∈l,i<ae.length)->ce R (l.map λi=>ae.getD i d) (l.map λi=>vs.getD i ba):=by
   intro l
   induction l with
   |nil=>intro _;exact .nil
   |cons i l ih=>
    intro hb;refine .cons ?_ (ih λj hj=>hb j (fB _ hj));have hi:=hb i dZ;obtain⟨v,e,r⟩:=get hR hi;have e1:ae.getD i d=ae[i]:=by simp[hi]
    have e2:vs.getD i ba=v:=by rw[dY,e];rfl
    show R (ae.getD i d) (vs.getD i ba);rw[e1,e2];exact r
  exact mk _ hlt
 ·rw[BK];intro i j hi hj hij;simp only[aD,Fg]at hi hj;simp only[List.getElem_map];have hsz:=hp.size;have q:=hs i j (by omega) (by omega);have e:∀k (hk':k<p.size),KN key p k=f (ae.getD p.toList[k] d):=λk hk'=>by
   have e1:p.getD k 0=p.toList[k]:=by simp[lL,hk']
   have hb:=hlt p.toList[k] (yS _);have e2:ae.getD p.toList[k] d=ae[p.toList[k]]:=by simp only[dY,cU hb,MY]
   unfold KN;rw[e1,e2];exact hk _ hb
  rw[e i hi,e j hj]at q;exact q
end uW
namespace L2
open PySem PySem.Spec PyProof.Rows
section
variable{X:Cx}
theorem wK:∀{bs:List Bool}{us:List ρ},iN (bs.map V.bl) us->us=bs.map hU
 |[],_,h=>by cases h;rfl
 |b::bs,_,h=>by
  cases h with
  |cons r t=>rw[yR,wK t];exact jQ (· ::_) r
theorem Fl(hc:X.calm=true):qV X (.builtin "all") (λxs H Q=>∃(a:ag) (bs:List Bool),xs=[.ref a]/\ja X.K H a (bs.map V.bl)/\Q (.bl (bs.all id)) H):=by
 intro aa s σ H xs us Q I r h;obtain⟨a,bs,rfl,hS,q⟩:=h;obtain⟨u,rfl,ru⟩:=r.one;cases ru;obtain⟨vs,rv,pl,hz⟩:=I.list hS;have hv:=wK rv;have hl:=pl.isList;have hlt:a<s.heap.objs.size:=by obtain⟨_,e,_⟩:=hl;exact dJ e
 refine call_all_walk (Xz hl ?_);refine⟨s.heap.objs.size,[s.heap.objs.size,a],[s.heap.objs.size],vs.toArray.size,_,_,λi=>(bs[i]?).getD true,rfl,EU (A:=X.A.in1) (I.ok.hd hc) _ a (fu hlt) vs.toArray,
  ⟨⟨_,iQ _ rfl,rfl,rfl⟩,hl.push _⟩,λi v s' Q' E' hP hQ=>?_,λh' tk hk=>?_⟩
 ·have hP':vs[i]? =some v:=by simpa using hP
  rw[hv,dI]at hP';cases e:bs[i]? with
  |none=>rw[e]at hP';cases hP'
  |some b=>
   rw[e]at hP';cases hP';simp only[e,MY]at hQ;exact M4 hQ
 ·have e:((am vs.toArray.size).all λi=>(bs[i]?).getD true)=bs.all id:=by
   rw[gM,hv,aD];exact LSm.range_all bs
  rw[e];exact⟨.bl _,H,I.kept (LSm.kept_iter hk),rfl,q⟩
theorem wJ(hc:X.calm=true):qV X (.builtin "any") (λxs H Q=>∃(a:ag) (bs:List Bool),xs=[.ref a]/\ja X.K H a (bs.map V.bl)/\Q (.bl (bs.any id)) H):=by
 intro aa s σ H xs us Q I r h;obtain⟨a,bs,rfl,hS,q⟩:=h;obtain⟨u,rfl,ru⟩:=r.one;cases ru;obtain⟨vs,rv,pl,hz⟩:=I.list hS;have hv:=wK rv;have hl:=pl.isList;have hlt:a<s.heap.objs.size:=by obtain⟨_,e,_⟩:=hl;exact dJ e
 refine call_any_walk (Xz hl ?_);refine⟨s.heap.objs.size,[s.heap.objs.size,a],[s.heap.objs.size],vs.toArray.size,_,_,λi=>(bs[i]?).getD false,rfl,EU (A:=X.A.in1) (I.ok.hd hc) _ a (fu hlt) vs.toArray,
  ⟨⟨_,iQ _ rfl,rfl,rfl⟩,hl.push _⟩,λi v s' Q' E' hP hQ=>?_,λh' tk hk=>?_⟩
 ·have hP':vs[i]? =some v:=by simpa using hP
  rw[hv,dI]at hP';cases e:bs[i]? with
  |none=>rw[e]at hP';cases hP'
  |some b=>
   rw[e]at hP';cases hP';simp only[e,MY]at hQ;exact M4 hQ
 ·have e:((am vs.toArray.size).any λi=>(bs[i]?).getD false)=bs.any id:=by
   rw[gM,hv,aD];exact LSm.range_any bs
  rw[e];exact⟨.bl _,H,I.kept (LSm.kept_iter hk),rfl,q⟩
noncomputable def Xd(K:af)(H:Hp):V->String->Prop
 | .non,T=>T="NoneType"
 | .bl _,T=>T="bool"
 | .int _,T=>T="int"
 | .str _,T=>T="str"
 | .ref a,T=>(T="tuple"/\∃xs,SqT K H a xs)\/(T="list"/\∃xs,ja K H a xs)\/(T="dict"/\∃kvs,H a=some (.dK kvs))
 |_,_=>False
noncomputable def Hr(T C:String):Bool:=T==C||(T=="bool"&&C=="int")
theorem Fo:qV X (.builtin "isinstance") (λxs H Q=>∃(x:V) (T C:String),xs=[x,.ty C]/\Xd X.K H x T/\(C="int"\/C="bool"\/C="tuple"\/C="list")/\Q (.bl (Hr T C)) H):=by
 intro aa s σ H xs us Q I r h;obtain⟨x,T,C,rfl,hk,hC,q⟩:=h;obtain⟨u,v,rfl,ru,rv⟩:=r.two;cases rv;have Ra:∀b,b=Hr T C->EP X aa σ Q (.bool b) s:=λb e=>⟨.bl b,H,I,rfl,by rw[e];exact q⟩;have iH:∀b,b=Hr T C->EP X aa σ Q (.bool b) {s with toks:=s.toks+1}:=λb e=>⟨.bl b,H,I.tok _,rfl,by rw[e];exact q⟩;cases x with
 |non=>
  cases ru;cases hk;rcases hC with rfl|rfl|rfl|rfl
  ·exact IsiPair.NoneType_int (iH _ rfl)
  ·exact IsiPair.NoneType_bool (iH _ rfl)
  ·exact IsiPair.NoneType_tuple (iH _ rfl)
  ·exact IsiPair.NoneType_list (iH _ rfl)
 |bl b=>
  cases ru;cases hk;rcases hC with rfl|rfl|rfl|rfl
  ·exact IsiPair.bool_int (Ra _ rfl)
  ·exact IsiPair.bool_bool (Ra _ rfl)
  ·exact IsiPair.bool_tuple (iH _ rfl)
  ·exact IsiPair.bool_list (iH _ rfl)
 |int i=>
  obtain⟨t,rfl⟩:=ru;cases hk;rcases hC with rfl|rfl|rfl|rfl
  ·exact IsiPair.int_int (Ra _ rfl)
  ·exact IsiPair.int_bool (iH _ rfl)
  ·exact IsiPair.int_tuple (iH _ rfl)
  ·exact IsiPair.int_list (iH _ rfl)
 |str z=>
  obtain⟨t,rfl⟩:=ru;cases hk;rcases hC with rfl|rfl|rfl|rfl
  ·exact IsiPair.str_int (iH _ rfl)
  ·exact IsiPair.str_bool (iH _ rfl)
  ·exact IsiPair.str_tuple (iH _ rfl)
  ·exact IsiPair.str_list (iH _ rfl)
 |ref a=>
  cases ru;rcases hk with⟨rfl,xs,hS⟩|⟨rfl,xs,hS⟩|⟨rfl,kvs,hS⟩
  ·obtain⟨ae,_,⟨o,e,c,n,d⟩,_⟩:=I.tuple hS;rcases hC with rfl|rfl|rfl|rfl
   ·exact IsiPair.tuple_int e c (iH _ rfl)
   ·exact IsiPair.tuple_bool e c (iH _ rfl)
   ·exact IsiPair.tuple_tuple e c (Ra _ rfl)
   ·exact IsiPair.tuple_list e c (iH _ rfl)
  ·obtain⟨ae,_,⟨o,n,e,c,d,_⟩,_⟩:=I.list hS;rcases hC with rfl|rfl|rfl|rfl
   ·exact IsiPair.list_int e c (iH _ rfl)
   ·exact IsiPair.list_bool e c (iH _ rfl)
   ·exact IsiPair.list_tuple e c (iH _ rfl)
   ·exact IsiPair.list_list e c (Ra _ rfl)
  ·obtain⟨_,_,vs,_,o,es,ep,e,c,_⟩:=I.hok a _ hS;have c':o.cls=.type "dict":=c.1;rcases hC with rfl|rfl|rfl|rfl
   ·exact IsiPair.dict_int e c' (iH _ rfl)
   ·exact IsiPair.dict_bool e c' (iH _ rfl)
   ·exact IsiPair.dict_tuple e c' (iH _ rfl)
   ·exact IsiPair.dict_list e c' (iH _ rfl)
 |_=>exact hk.elim
end
mutual
inductive DV(K:af)(H:Hp):V->bX->Prop
 |non:DV K H .non .none
 |bl (b:Bool):DV K H (.bl b) (.bool b)
 |int (i:Int):DV K H (.int i) (.int i)
 |str (x:be):DV K H (.str x) (.str x)
 |tup {a:ag}{xs:List V}{ds:θ} (h:SqT K H a xs) (t:cY K H xs ds):DV K H (.ref a) (.tuple ds)
 |lst {a:ag}{xs:List V}{ds:θ} (h:ja K H a xs) (t:cY K H xs ds):DV K H (.ref a) (.list ds)
 |dc0 {a:ag} (h:H a=some (.dK [])):DV K H (.ref a) (.dict [])
 |dc1 {a b:ag}{i:Int} (h:H a=some (.dK [(bW i,.ref b)])) (t:SqT K H b []):DV K H (.ref a) (.dict [(.int i,.tuple [])])
inductive cY(K:af)(H:Hp):List V->θ->Prop
 |nil:cY K H [] []
 |cons {x:V}{d:bX}{xs:List V}{ds:θ} (h:DV K H x d) (t:cY K H xs ds):cY K H (x::xs) (d::ds)
end
theorem Same.tup{K:af}{H H':Hp}{a:ag}{xs:List V}(e:Same H H')(h:SqT K H a xs):SqT K H' a xs:=by
 rcases h with(h|⟨o,h⟩)|h
 ·exact .inl (.inl (e _ _ h))
 ·exact .inl (.inr ⟨o,e _ _ h⟩)
 ·exact .inr h
theorem cY.same{K:af}(e:Same H H')(h:cY K H xs ds):cY K H' xs ds:=
 cY.rec (motive_1:=λx d _=>DV K H' x d) (motive_2:=λxs ds _=>cY K H' xs ds) .non (λb=>.bl b) (λi=>.int i) (λx=>.str x) (λh _ t=>.tup (e.tup h) t) (λh _ t=>.lst (e.seq h) t) (λh=>.dc0 (e _ _ h)) (λh t=>.dc1 (e _ _ h) (e.tup t)) .nil (λ_ _ h t=>.cons h t) h
theorem Lf(h:Pairs (qh P w) es []):es=[]:=by
 cases h;rfl
theorem Le(h:Pairs (qh P w) es [(k,u)]):∃e,es=[e]/\vE k e.key=true/\e.val=u:=by
 cases h with
 |cons h1 h2 h3=>
  cases h3;exact⟨_,rfl,h1,h2⟩
section
variable{X:Cx}{aa:O0}{σ:St}{H:Hp}{s:τ}
theorem Mp(I:Inv X aa σ H s)(h:H a=some (.dK [])):gm s.heap (.ref a) (.dict []) (a::[]++[])/\(a==de)=false:=by
 obtain⟨_,hne,vs,r0,o,es,ep,e,c,d,_,pr,_⟩:=I.hok _ _ h;cases r0;have hes:es.toList=[]:=Lf pr;refine⟨.dict (kvs:=[]) (as:=[]) (bs:=[]) e c.1 d ?_ ?_,hne⟩
 ·rw[hes];exact .nil
 ·rw[hes];exact .nil
theorem Ml(I:Inv X aa σ H s)(h:H a=some (.dK [(bW i,.ref b)]))(t:SqT X.K H b []):gm s.heap (.ref a) (.dict [(.int i,.tuple [])]) (a::([]++[])++([]++[]))/\(a==de)=false:=by
 obtain⟨_,hne,vs,r0,o,es,ep,e,c,d,_,pr,_⟩:=I.hok _ _ h;obtain⟨ae,rv,⟨o2,e2,c2,n2,d2⟩,_⟩:=I.tuple t;cases rv;cases r0 with
 | @cons p q ps qs hq tl=>
  cases tl;obtain⟨en,he,hk,hv⟩:=Le pr;obtain⟨k,u⟩:=q;dsimp only at hq;obtain⟨hk1,hu1⟩:=hq;subst hk1;cases hu1;obtain⟨tk,ek⟩:∃tk,en.key=bI i tk:=by
   rcases Sq hk with⟨i',t',e3,e4⟩|⟨x,t',e3,e4⟩
   ·cases e3;exact⟨t',e4⟩
   ·cases e3
  refine⟨.dict (kvs:=[(.int i,.tuple [])]) (as:=[]++[]) (bs:=[]++[]) e c.1 d ?_ ?_,hne⟩
  ·rw[he];show fR s.heap [en.key] [aC i] _;rw[ek];exact .cons (.int i tk) .nil
  ·rw[he];show fR s.heap [en.val] [i6 []] _;rw[hv];exact .cons (.tuple e2 c2 d2 .nil) .nil
theorem K7(I:Inv X aa σ H s)(h:SqT X.K H a xs)(t:∀{us:List ρ},iN xs us->∃as,fR s.heap us ds as)(r:RelV (.ref a) u):∃as,gm s.heap u (.tuple ds) as:=by
 cases r;obtain⟨ae,rv,⟨o,e,c,n,d⟩,_⟩:=I.tuple h;obtain⟨as,ra⟩:=t rv;exact⟨_,.tuple e c d (by simpa using ra)⟩
theorem K8(I:Inv X aa σ H s)(h:ja X.K H a xs)(t:∀{us:List ρ},iN xs us->∃as,fR s.heap us ds as)(r:RelV (.ref a) u):∃as,gm s.heap u (.list ds) as:=by
 cases r;obtain⟨ae,rv,⟨o,n,e,c,_,d⟩,_⟩:=I.list h;obtain⟨as,ra⟩:=t rv;exact⟨_,.list e c d (by simpa using ra)⟩
theorem DV.reads(I:Inv X aa σ H s)(h:DV X.K H x d)(r:RelV x u):∃as,gm s.heap u d as:=
 DV.rec (motive_1:=λx d _=>∀{u:ρ},RelV x u->∃as,gm s.heap u d as) (motive_2:=λxs ds _=>∀{us:List ρ},iN xs us->∃as,fR s.heap us ds as)
  (λr=>by cases r;exact⟨_,.none⟩) (λb _ r=>by cases r;exact⟨_,.bool b⟩) (λi _ r=>by obtain⟨t,rfl⟩:=r;exact⟨_,.int i t⟩) (λx _ r=>by obtain⟨t,rfl⟩:=r;exact⟨_,.str x t⟩)
  (λh _ t _ r=>K7 I h t r) (λh _ t _ r=>K8 I h t r) (λh _ r=>by cases r;exact⟨_,(Mp I h).1⟩) (λh t _ r=>by cases r;exact⟨_,(Ml I h t).1⟩)
  (λr=>by cases r;exact⟨_,.nil⟩) (λ_ _ h t _ r=>by
   cases r with
   |cons r rr=>
    obtain⟨as,ra⟩:=h r;obtain⟨bs,rb⟩:=t rr;exact⟨_,.cons ra rb⟩) h r
theorem cY.reads(I:Inv X aa σ H s)(h:cY X.K H xs ds)(r:iN xs us):∃as,fR s.heap us ds as:=
 cY.rec (motive_1:=λ_ _ _=>True) (motive_2:=λxs ds _=>∀{us:List ρ},iN xs us->∃as,fR s.heap us ds as) trivial (λ_=>trivial) (λ_=>trivial) (λ_=>trivial) (λ_ _ _=>trivial) (λ_ _ _=>trivial) (λ_=>trivial) (λ_ _=>trivial)
  (λr=>by cases r;exact⟨_,.nil⟩) (λh _ _ t _ r=>by
   cases r with
   |cons r rr=>
    obtain⟨as,ra⟩:=DV.reads I h r;obtain⟨bs,rb⟩:=t rr;exact⟨_,.cons ra rb⟩) h r
end
mutual
def Q3:bX->Bool
 | .list _=>false
 | .tuple ds=>Qb ds
 |_=>true
def Qb:θ->Bool
 |[]=>true
 |d::ds=>Q3 d&&Qb ds
end
theorem cY.ints{K:af}:∀(ns:ζ),cY K H (ns.map V.int) (ns.map aC)
 |[]=>.nil
 |n::ns=>.cons (.int n) (cY.ints ns)
theorem cY.len{K:af}(h:cY K H xs ds):xs.length=ds.length:=
 cY.rec (motive_1:=λ_ _ _=>True) (motive_2:=λxs ds _=>xs.length=ds.length) trivial (λ_=>trivial) (λ_=>trivial) (λ_=>trivial) (λ_ _ _=>trivial) (λ_ _ _=>trivial) (λ_=>trivial) (λ_ _=>trivial) rfl (λ_ _ _ t=>jQ Nat.succ t) h
section
variable{X:Cx}
theorem zU(hu:X.A.units+64<gf):sj X (bo .Eq) (λx y H Q=>∃da db,DV X.K H x da/\DV X.K H y db/\da.canLay0=true/\db.canLay0=true/\min da.depth db.depth<=64/\Q (.bl (aE da db)) H):=by
 intro aa s σ H x y v u Q I rx ry h;obtain⟨da,db,hx,hy,ca,cb,hd,q⟩:=h;obtain⟨as,ra⟩:=DV.reads I hx rx;obtain⟨bs,rb⟩:=DV.reads I hy ry;exact SeqAt.rcAt_reads ra rb ca cb (by omega) _ _ _ _ ⟨.bl _,H,I,rfl,q⟩
theorem su(hu:X.A.units+64<gf):sj X (bo .NotEq) (λx y H Q=>∃da db,DV X.K H x da/\DV X.K H y db/\da.canLay0=true/\db.canLay0=true/\min da.depth db.depth<=64/\Q (.bl (!aE da db)) H):=by
 intro aa s σ H x y v u Q I rx ry h;obtain⟨da,db,hx,hy,ca,cb,hd,q⟩:=h;obtain⟨as,ra⟩:=DV.reads I hx rx;obtain⟨bs,rb⟩:=DV.reads I hy ry;exact SeqAt.rcNeAt_reads ra rb ca cb (by omega) _ _ _ _ ⟨.bl _,H,I,rfl,q⟩
theorem Il:∀{ds:θ},bz ds=true->∀d∈ds,d.canLay0=true
 |[],_,d,h=>nomatch h
 |e::ds,h,d,hd=>by
  have h':(e.canLay0&&bz ds)=true:=h;rw[vo]at h';rcases cZ.mp hd with rfl|hd
  ·exact h'.1
  ·exact Il h'.2 d hd
open Classical in
theorem PL(hu:X.A.units+64<gf):sj X (bo .In) (λx y H Q=>∃(p:ag) (xs:List V) (ds:θ) (dx:bX),y=.ref p/\(ja X.K H p xs\/SqT X.K H p xs)/\cY X.K H xs ds/\DV X.K H x dx/\bz ds=true/\dx.canLay0=true/\dx.depth<=60/\
  Q (.bl (ds.any λd=>aE d dx)) H):=by
 intro aa s σ H x y v u Q I rx ry h;obtain⟨p,xs,ds,dx,rfl,hq,hds,hx,ca,cb,hd,q⟩:=h;cases ry;obtain⟨bs,rb⟩:=DV.reads I hx rx;have key:∀{ae:List ρ},iN xs ae->(∀y∈ae,i0 X.A.in1 s y v (decide (∃d as,gm s.heap y d as/\d∈ds/\aE d dx=true)))/\(ae.any λy=>decide (∃d as,gm s.heap y d as/\d∈ds/\aE d dx=true))=ds.any λd=>aE d dx:=by
  intro ae rv;obtain⟨as,ra⟩:=cY.reads I hds rv;have each:∀{us:List ρ}{es:θ}{as:η},fR s.heap us es as->(∀e∈es,e∈ds)->(∀y∈us,i0 X.A.in1 s y v (decide (∃d as,gm s.heap y d as/\d∈ds/\aE d dx=true)))/\(us.any λy=>decide (∃d as,gm s.heap y d as/\d∈ds/\aE d dx=true))=es.any λd=>aE d dx:=by
   intro us
   induction us with
   |nil=>intro es as h _;cases h;exact⟨(λy hy=>(nomatch hy)),rfl⟩
   |cons y us ih=>
    intro es as h hs;cases h with
    | @cons _ _ d ds' as' bs' r rr=>
     obtain⟨i1,i2⟩:=ih rr λe he=>hs e (fB _ he);have cl:=Il ca d (hs d dZ);have e:decide (∃d as,gm s.heap y d as/\d∈ds/\aE d dx=true)=aE d dx:=by
      rw[Fx,KC];constructor
      ·rintro⟨d',as'',r',_,q'⟩;obtain⟨rfl,_⟩:=(PySem.Reads.unique r _ _ r');exact q'
      ·intro q';exact⟨d,_,r,hs d dZ,q'⟩
     refine⟨λz hz=>?_,?_⟩
     ·rcases cZ.mp hz with rfl|hz
      ·rw[e];exact oC d dx _ s _ _ _ _ r rb cl cb (by show X.A.units+1+min d.depth dx.depth<gf;omega)
      ·exact i1 z hz
     ·rw[V8,V8,i2,e]
  exact each ra λe he=>he
 rcases hq with hq|hq
 ·obtain⟨ae,r,pl,hz⟩:=I.list hq;obtain⟨k1,k2⟩:=key r;refine SeqAt.in_listAt _ pl.isList (λw hw=>k1 w (by simpa using hw)) ⟨.bl _,H,I,rfl,?_⟩;rw[show∀f:ρ->Bool,ae.toArray.any f=ae.any f fromλf=>by simp,k2];exact q
 ·obtain⟨ae,r,pl,hz⟩:=I.tuple hq;obtain⟨k1,k2⟩:=key r;refine SeqAt.in_tupleAt _ pl (λw hw=>k1 w (by simpa using hw)) ⟨.bl _,H,I,rfl,?_⟩;rw[show∀f:ρ->Bool,ae.toArray.any f=ae.any f fromλf=>by simp,k2];exact q
end
end L2
namespace HT
open PySem PyProof.Rows
section
variable{prog:υ}{w:ψ}{A:bt}{E:S0}{s:τ}
theorem nY{lo hi:Option Int}{Q:S0}(ht:kD s.heap t items)(hs:s.heap.IsSliceOf sl vl vu .none)(pl:i8 vl lo)(pu:i8 vu hi)(hw:sIx items.size 0 lo=0/\sIx items.size items.size hi=items.size)(h:Q (.ref t) s):ai (ar prog w) A (gh (.ref t) (.ref sl)) Q E s:=by
 obtain⟨os,hos,hcs,hds⟩:=id hs;have hTs:s.TypeIs (.ref sl) "slice":=⟨os,hos,hcs⟩;unfold gh
 try with_reducible apply yX
 first |refine ao (aM ?_)|skip
 refine ao (wpAny_sequenceKey ht.typeIs (by decide) ?_);refine ao (Tw (name:=bO "__getitem__") ht.typeIs Lu
  (MP Lu ht.typeIs entry_tuple_getitem ?_ (args_tuple_getitem _ _)))
 show ai _ _ (i4 (.ref t)>>=_) _ _ s;refine ao (tupleItemsOf_ ht ?_);refine ao (FO hTs ?_);rw[au (by decide)];refine ao (sC hs pl pu ?_);have hyes:((((sIx items.size 0 lo:Nat):Int)==0&&(1:Int)==1&&(sIx items.size items.size hi-sIx items.size 0 lo)==items.size)=true):=by
  rw[hw.1,hw.2];simp
 show ai _ _ (if(((sIx items.size 0 lo:Nat):Int)==0&&(1:Int)==1&&(sIx items.size items.size hi-sIx items.size 0 lo)==items.size)=true then _ else _) _ _ s;rw[au hyes];obtain⟨o,ho,hc,n,hd⟩:=id ht;apply ao;show ai _ _ (i5 (.ref t)) _ _ s;unfold i5;refine ao (FO ht.typeIs ?_);apply aM;rw[au (by decide)]
 first
  |exact ao (SQ (ao (aM ⟨_,rfl,aM h⟩)))
  |exact ao (SQ (aM ⟨_,rfl,aM h⟩))
  |exact ao (SQ (ao (aM (aM ⟨_,rfl,aM h⟩))))
  |(trace_state;exact ao (ao (SQ (aM ⟨_,rfl,aM h⟩))))
end
end HT
namespace L2
open PySem PySem.Spec PyProof.Rows
section
variable{X:Cx}
theorem PJ:sj X (bo .Is) (λx y H Q=>∃a b,x=.bl a/\y=.bl b/\Q (.bl (a==b)) H):=by
 intro aa s σ H x y v u Q I rx ry h;obtain⟨a,b,rfl,rfl,q⟩:=h;cases rx;cases ry;exact is_bool ⟨.bl _,H,I,rfl,q⟩
theorem gQ:sj X (bo .IsNot) (λx y H Q=>∃a b,x=.bl a/\y=.bl b/\Q (.bl (a !=b)) H):=by
 intro aa s σ H x y v u Q I rx ry h;obtain⟨a,b,rfl,rfl,q⟩:=h;cases rx;cases ry;exact isnot_bool ⟨.bl _,H,I,rfl,q⟩
theorem iD:sj X (cw .FloorDiv) (rI (λ_ j=>0<j/\j<1000000000000000000000000000000) λi j=>.int (i/j)):=HG λi j _ _ _ _ _ hc q=>by
 have h1:(0:Int)<j:=hc.1;have h2:j<1000000000000000000000000000000:=hc.2;refine floordiv_int (by omega) ?_ (ii (Pp ?_))
 ·rw[PH _ (by omega)];exact q
 ·have h3:j.natAbs≠0:=by omega
  have h4:j.natAbs<2^100:=by
   have:(2:Nat)^100=1267650600228229401496703205376:=by decide
   omega
  have:=(Nat.log2_lt h3).mpr h4;omega
inductive Pu(K:af)(x:V)(y:V)(H:Hp)(Q:VK):Prop
 |mk(a b xs ys)(_:x=.ref a)(_:y=.ref b)(_:SqT K H a xs)(_:SqT K H b ys)(_:xs.length+ys.length<=sizeLine)(_:∀r H',Same H H'->SqT K H' r (xs++ys)->Q (.ref r) H')
theorem Ul:sj X (cw .Add) (Pu X.K):=by
 intro aa s σ H x y v u Q I rx ry h;obtain⟨a,b,xs,ys,rfl,rfl,ha,hb,hz,q⟩:=h;by_cases hx:xs=[]
 ·subst hx;cases rx;cases ry;obtain⟨ae,r1,p1,_⟩:=I.tuple ha;obtain⟨its2,r2,p2,_⟩:=I.tuple hb;cases r1;obtain⟨⟨cls,dd,data,sl⟩,ho,hc,n,hd⟩:=id p1;obtain⟨⟨cls2,dd2,data2,sl2⟩,ho2,hc2,n2,hd2⟩:=id p2;simp only at hc hd hc2 hd2;subst hc hd hc2 hd2;exact FP ⟨_,ho,rfl⟩ ⟨_,ho2,rfl⟩ KA JJ KW K0 (K2 _ _)
   (tuple_addW0 a b _ _ n n2 dd dd2 sl sl2 (by simp)) ⟨ho,ho2,⟨.ref b,H,I,rfl,q b H (Same.refl _) hb⟩⟩
 ·refine zD aa s σ H _ _ v u Q I rx ry ⟨a,b,xs,ys,rfl,rfl,ha,hb,hx,hz,λe=>?_,λe p hp=>?_⟩
  ·subst e;exact q a H (Same.refl _) (by rw[xr];exact ha)
  ·exact q p _ (λc o e=>by rw[cF (oA e hp)];exact e) (SqT.of aK)
noncomputable def Qr(K:af):V->Option Int->Option Int->Hp->VK->Prop:=λx lo hi H Q=>∃a xs,x=.ref a/\SqT K H a xs/\∀r H',Same H H'->SqT K H' r (qa xs lo hi)->Q (.ref r) H'
theorem zJ:E7 X (Qr X.K):=by
 intro aa s σ H x v vl vu lo hi sl Q I rx hs pl pu h;obtain⟨a,xs,rfl,hx,q⟩:=h;by_cases hw:HT.sIx xs.length 0 lo=0/\HT.sIx xs.length xs.length hi=xs.length
 ·cases rx;obtain⟨ae,r,ht,hz⟩:=I.tuple hx;have ac:ae.toArray.size=xs.length:=by rw[gM];exact r.length.symm
  refine⟨"tuple",_,PyProof.Rows.slot_tuple_getitem.lookup,ht.typeIs,?_⟩;refine HT.nY ht hs pl pu (by rw[ac];exact hw) ⟨.ref a,H,I,rfl,q a H (Same.refl _) ?_⟩;have e:qa xs lo hi=xs:=by
   unfold qa;rw[hw.1,hw.2];simp
  rw[e];exact hx
 ·exact DD aa s σ H _ v vl vu lo hi sl Q I rx hs pl pu ⟨a,xs,rfl,hx,hw,λp hp=>q p _ (λc o e=>by rw[cF (oA e hp)];exact e) (SqT.of aK)⟩
end
section
variable{X:Cx}{tg:bp}
noncomputable def Za(K:af)(tl:TE):TI:=λσ H R=>tl σ H λx H1=>∃a xs,x=.ref a/\ja K H1 a xs/\(xs.length<=sizeLine->R (E9 K a) H1)
noncomputable def SC(K:af)(tl:TE):TI:=λσ H R=>tl σ H λx H1=>∃a xs,x=.ref a/\SqT K H1 a xs/\(xs.length<=sizeLine->R (E8 K a) H1)
theorem ur(hl:PE X l tl):PI X tg l (Za X.K tl):=by
 intro aa s σ H R I h;refine pw (hl aa s σ H _ I h) λv s1 ⟨x,H1,I1,r1,q1⟩=>?_;obtain⟨a,xs,e,hq,q⟩:=q1;subst e;cases r1;obtain⟨ae,rv,p,hz⟩:=I1.list hq;refine Xz p.isList ?_;refine⟨s1.heap.objs.size,[s1.heap.objs.size],_,_,H1,rfl,I1.kept (t':=s1.toks) λb o e=>cR _ e,AE a _,⟨_,iQ _ rfl,rfl,rfl⟩,λb hb=>?_,q hz⟩;have e:b=s1.heap.objs.size:=by simpa using hb
 subst e;exact I1.fpOk (aP _) (I1.hok.fresh (aP _))
theorem EY(hl:PE X l tl):PI X tg l (SC X.K tl):=by
 intro aa s σ H R I h;refine pw (hl aa s σ H _ I h) λv s1 ⟨x,H1,I1,r1,q1⟩=>?_;obtain⟨a,xs,e,hq,q⟩:=q1;subst e;cases r1;obtain⟨ae,rv,p,hz⟩:=I1.tuple hq;refine E2 (show s1.heap.IsTuple a ae.toArray from p) ?_;refine⟨s1.heap.objs.size,[s1.heap.objs.size],_,_,H1,rfl,I1.kept (t':=s1.toks) λb o e=>cR _ e,yk a _,⟨_,iQ _ rfl,rfl,rfl⟩,λb hb=>?_,q hz⟩;have e:b=s1.heap.objs.size:=by simpa using hb
 subst e;exact I1.fpOk (aP _) (I1.hok.fresh (aP _))
theorem wZ:qV X (.builtin "len") (λxs H Q=>∃p ys,xs=[.ref p]/\(ja X.K H p ys\/SqT X.K H p ys)/\(ys.length<=16777216->Q (.int ys.length) H)):=by
 intro aa s σ H xs us Q I r h;obtain⟨p,ys,rfl,hq,q⟩:=h;have hz:ys.length<=16777216:=by
  rw[<-gF];rcases hq with hq|hq
  ·exact(I.list hq).choose_spec.2.2
  ·exact(I.tuple hq).choose_spec.2.2
 exact xt aa s σ H _ us Q I r ⟨p,ys,rfl,hq,q hz⟩
end
mutual
inductive DX(K:af)(H:Hp):V->bX->Prop
 |non:DX K H .non .none
 |bl (b:Bool):DX K H (.bl b) (.bool b)
 |int (i:Int):DX K H (.int i) (.int i)
 |str (x:be):DX K H (.str x) (.str x)
 |tup {a:ag}{xs:List V}{ds:θ} (h:SqT K H a xs) (t:uX K H xs ds):DX K H (.ref a) (.tuple ds)
 |lst {a:ag}{xs:List V}{ds:θ} (h:ja K H a xs) (t:uX K H xs ds):DX K H (.ref a) (.list ds)
 |dct {a:ag}{kvs:List (tJ×V)} (ds:List (bX×bX)) (h:H a=some (.dK kvs)):DX K H (.ref a) (.dict ds)
inductive uX(K:af)(H:Hp):List V->θ->Prop
 |nil:uX K H [] []
 |cons {x:V}{d:bX}{xs:List V}{ds:θ} (h:DX K H x d) (t:uX K H xs ds):uX K H (x::xs) (d::ds)
end
theorem DX.same{K:af}(e:Same H H')(h:DX K H x d):DX K H' x d:=
 DX.rec (motive_1:=λx d _=>DX K H' x d) (motive_2:=λxs ds _=>uX K H' xs ds) .non (λb=>.bl b) (λi=>.int i) (λx=>.str x) (λh _ t=>.tup (e.tup h) t) (λh _ t=>.lst (e.seq h) t) (λds h=>.dct ds (e _ _ h)) .nil (λ_ _ h t=>.cons h t) h
theorem uX.same{K:af}(e:Same H H')(h:uX K H xs ds):uX K H' xs ds:=
 uX.rec (motive_1:=λx d _=>DX K H' x d) (motive_2:=λxs ds _=>uX K H' xs ds) .non (λb=>.bl b) (λi=>.int i) (λx=>.str x) (λh _ t=>.tup (e.tup h) t) (λh _ t=>.lst (e.seq h) t) (λds h=>.dct ds (e _ _ h)) .nil (λ_ _ h t=>.cons h t) h
theorem DV.dx{K:af}(h:DV K H x d):DX K H x d:=
 DV.rec (motive_1:=λx d _=>DX K H x d) (motive_2:=λxs ds _=>uX K H xs ds) .non (λb=>.bl b) (λi=>.int i) (λx=>.str x) (λh _ t=>.tup h t) (λh _ t=>.lst h t) (λh=>.dct [] h) (λh _=>.dct _ h) .nil (λ_ _ h t=>.cons h t) h
theorem cY.dx{K:af}(h:cY K H xs ds):uX K H xs ds:=
 cY.rec (motive_1:=λ_ _ _=>True) (motive_2:=λxs ds _=>uX K H xs ds) trivial (λ_=>trivial) (λ_=>trivial) (λ_=>trivial) (λ_ _ _=>trivial) (λ_ _ _=>trivial) (λ_=>trivial) (λ_ _=>trivial) .nil (λh _ _ t=>.cons h.dx t) h
noncomputable def Dq:bX->String
 | .none=>"NoneType"
 | .bool _=>"bool"
 | .int _=>"int"
 | .str _=>"str"
 | .list _=>"list"
 | .tuple _=>"tuple"
 | .dict _=>"dict"
theorem DX.kind{K:af}:∀{x:V}{d:bX},DX K H x d->Xd K H x (Dq d)
 |_,_,.non=>rfl
 |_,_,.bl _=>rfl
 |_,_,.int _=>rfl
 |_,_,.str _=>rfl
 |_,_,.tup h _=>.inl ⟨rfl,_,h⟩
 |_,_,.lst h _=>.inr (.inl ⟨rfl,_,h⟩)
 |_,_,.dct _ h=>.inr (.inr ⟨rfl,_,h⟩)
theorem uX.len{K:af}(h:uX K H xs ds):xs.length=ds.length:=
 uX.rec (motive_1:=λ_ _ _=>True) (motive_2:=λxs ds _=>xs.length=ds.length) trivial (λ_=>trivial) (λ_=>trivial) (λ_=>trivial) (λ_ _ _=>trivial) (λ_ _ _=>trivial) (λ_ _=>trivial) rfl (λ_ _ _ t=>jQ Nat.succ t) h
theorem uX.get{K:af}:∀{xs:List V}{ds:θ}{i:Nat}{x:V},uX K H xs ds->xs[i]? =some x->∃d,ds[i]? =some d/\DX K H x d
 |_,_,_,_,.nil,e=>by simp at e
 |_,_,0,_,.cons h _,e=>by simp at e;subst e;exact⟨_,rfl,h⟩
 |_,_,i+1,x,.cons _ t,e=>by
  obtain⟨d,h1,h2⟩:=uX.get (i:=i) t (by simpa using e);exact⟨d,by simpa using h1,h2⟩
structure tR(K:af)(mg:D0)(x:be)(st:fz)(ps:List be)(f:ag)(fd:χ):Prop where
 F:pV K x x st f fd
 b:Binds K fd ps []
 m:mg x=some (.ref f)
theorem pc{X:Cx}{x:be}{st:fz}{ps:List be}{f:ag}{fd:χ}{j k:Nat}{sp:Sp}{E:XK}{e:bp}{es:List bp}{t:TA}{p pos:eJ}(F:gx X.prog X.w X.K X.mg X.base kG j f fd ps sp)(hr:qo k X.A)(D:tR X.K X.mg x st ps f fd)(ha:PA X (e::es) t)(hj:j<=k:=by first |decide|omega)(hg:Gl X x:=by rfl)(hx:sB kG X E:=by exact k8)(hdb:(x==("__debug__":be))=false:=by decide)(he:ax (e::es) X.env=(false,bQ e X.env)::ax es X.env:=by rfl)(hpl:(dC pos (ax es X.env)).any (·.1)=false:=by rfl):PE X (.Call (.Name x p) (e::es) [] pos) (Be sp [] E t):=vi (F.mono hj) hr hg D.m D.F.kp D.b .nil hx ha hdb he hpl
inductive Dp(P:υ)(w:ψ)(K:af)(mg:D0)(base:bn)(j:Nat)(x:be)(st:fz)(ps:List be)(sp:Sp):Prop
 |mk {f fd} (D:tR K mg x st ps f fd) (G:gx P w K mg base kG j f fd ps sp)
theorem pd{X:Cx}{x:be}{st:fz}{ps:List be}{j k:Nat}{sp:Sp}{E:XK}{e:bp}{es:List bp}{t:TA}{p pos:eJ}(D:Dp X.prog X.w X.K X.mg X.base j x st ps sp)(hr:qo k X.A)(ha:PA X (e::es) t)(hj:j<=k:=by first |decide|omega)(hg:Gl X x:=by rfl)(hx:sB kG X E:=by exact k8)(hdb:(x==("__debug__":be))=false:=by decide)(he:ax (e::es) X.env=(false,bQ e X.env)::ax es X.env:=by rfl)(hpl:(dC pos (ax es X.env)).any (·.1)=false:=by rfl):PE X (.Call (.Name x p) (e::es) [] pos) (Be sp [] E t):=by
 obtain⟨D,G⟩:=D;exact pc G hr D ha hj hg hx hdb he hpl
theorem LG{N P:List be}{sc:dQ}(a:sc.kind=.function:=by rfl)(b:sc.isCoroutine=false:=by rfl)(c:sc.isGenerator=false:=by rfl)(d:N.Nodup:=by decide+kernel)(e:N.take P.length=P:=by rfl)(f:∀x∈P,sc.names.lookup x=some .local\/sc.names.lookup x=some .cell:=by decide+kernel)(g:∀y∈sc.names,y.2≠.free:=by decide+kernel):se N P sc:=⟨a,b,c,d,e,f,g⟩
theorem pV.M7{P:υ}{w:ψ}{K:af}{mg:D0}{base:bn}{x qual:be}{st:fz}{f:ag}{fd:χ}{ps:List be}{k:Nat}{sp:Sp}(F:pV K x qual st f fd)(N:List be)(hb:∀(cdv:ρ) (A:bt) (outer:List lw) (s:τ) (H:Hp) (vs:List V) (Q:VK) (E:XK),qo k (A.deeper (j1 qual (kq st) s.heap.objs.size f cdv))->sp vs H Q E->
   ∃t,xx (xp kG P w K mg base N qual (kq st) f cdv A outer s H E).nox (qf st) t/\t {nx:=λ_ H'=>Q .non H',rt:=Q} (start N vs) H)(S:se N ps (kq st):=by exact LG)(len:∀vs H Q E,sp vs H Q E->vs.length=ps.length:=by intro _ _ _ _ h;first |(cases h;subst_vars;rfl)|repeat(first |(obtain⟨rfl,_⟩:=h;rfl)|obtain⟨_,h⟩:=h)):gx P w K mg base kG (k+1) f fd ps sp:=F.ok S len hb
theorem pV.dD{P:υ}{w:ψ}{K:af}{mg:D0}{base:bn}{x qual:be}{st:fz}{f:ag}{fd:χ}{ps:List be}{k:Nat}{sp:Sp}(F:pV K x qual st f fd)(N:List be)(hb:∀{cdv:ρ}{A:bt}{outer:List lw}{s:τ}{vs:List V}{E:XK} (H:Hp) (Q:VK),qo k (A.deeper (j1 qual (kq st) s.heap.objs.size f cdv))->sp vs H Q E->
   ∃t,xx (xp kG P w K mg base N qual (kq st) f cdv A outer s H E).nox (qf st) t/\t {nx:=λ_ H'=>Q .non H',rt:=Q} (start N vs) H)(S:se N ps (kq st):=by exact LG)(len:∀vs H Q E,sp vs H Q E->vs.length=ps.length:=by intro _ _ _ _ h;first |(cases h;subst_vars;rfl)|repeat(first |(obtain⟨rfl,_⟩:=h;rfl)|obtain⟨_,h⟩:=h)):gx P w K mg base kG (k+1) f fd ps sp:=F.ok S len λ_ _ _ _ H _ Q _=>hb H Q
theorem aR(h:H p=none)(o):Same H (upd H p o):=λb u q=>by rw[cF (oA q h)];exact q
end L2
namespace lQ
open PySem L2
noncomputable def vg:bX->Bool
 | .int _=>true
 |_=>false
noncomputable def cG(n:Int):bX->Bool
 | .int i=>decide (0<=i)&&decide (i<n)
 |_=>false
noncomputable def intD:bX->Int
 | .int i=>i
 |_=>0
noncomputable def sK:bX->θ
 | .tuple ds=>ds
 |_=>[]
noncomputable def fJ(ns:ζ):Bool:=(am (ns.length-1)).all λk=>decide (ns.getD k 0<ns.getD (k+1) 0)
noncomputable def kh(ts:List ζ):Bool:=(am (ts.length-1)).all λk=>HT.lexLt (ts.getD k []) (ts.getD (k+1) [])
noncomputable def dB(n:Int):bX->Bool
 | .tuple ds=>ds.all (cG n)&&fJ (ds.map intD)
 |_=>false
noncomputable def oX(n:Int)(d:bX):Bool:=dB n d&&decide ((sK d).length=2)
noncomputable def qx(n:Int):bX->Bool
 | .tuple ds=>ds.all (oX n)&&kh (ds.map λt=>(sK t).map intD)
 |_=>false
noncomputable def xG:bX->Bool
 | .tuple [n,t]=>vg n&&(decide (0<=intD n)&&decide (intD n<=10))&&qx (intD n) t
 |_=>false
theorem Gz:∀{d:bX},cG n d=true->∃i,d=.int i/\0<=i/\i<n
 | .int i,h=>⟨i,rfl,by simpa[cG]using h⟩
end lQ
namespace L2
open PySem PySem.Spec PyProof.Rows
section
variable{X:Cx}
theorem Ez(K:af)(h:X.K=K:=by rfl):Iy X (Hm K):=by subst h;exact cH
theorem eV(K:af)(h:X.K=K:=by rfl):Iy X (Hn K):=by subst h;exact uK
theorem Ms(K:af)(h:X.K=K:=by rfl):qV X (.builtin "len") (λxs H Q=>∃p ys,xs=[.ref p]/\(ja K H p ys\/SqT K H p ys)/\(ys.length<=16777216->Q (.int ys.length) H)):=by subst h;exact wZ
theorem JF(K:af)(hu:X.A.units<gf)(h:X.K=K:=by rfl):sj X (bo .Lt) (Hk K):=by subst h;exact DM hu
theorem kI(K:af)(hu:X.A.units+64<gf)(h:X.K=K:=by rfl):sj X (bo .In) (λx y H Q=>∃(p:ag) (xs:List V) (ds:θ) (dx:bX),y=.ref p/\(ja K H p xs\/SqT K H p xs)/\cY K H xs ds/\DV K H x dx/\bz ds=true/\dx.canLay0=true/\dx.depth<=60/\
  Q (.bl (ds.any λd=>aE d dx)) H):=by subst h;exact PL hu
theorem Kl(K:af){es:List bp}{k:Nat}{t:Da}{n:Nat}{pos:eJ}(hc:X.calm=true)(h:Ic X es t)(hn:(fb es X.env).length=n:=by rfl)(hst:(fb es X.env).findIdx? (·.1)=none:=by rfl)(hK:X.K=K:=by rfl):PG X (.Tuple es k pos) (HM K n t):=by subst hK;exact tS hc h hn hst
end
end L2
namespace PySem
open Sem (wp)
open AutoSeq1 (wpAny_loadPart')
section
variable{prog:υ}{w:ψ}{A:bt}{E:S0}{s:τ}
theorem nU{Q:List ρ->τ->Prop}{n:Nat}(hh:A.handled=none)(hr:IsRange s.heap r a b c t u v)(hsmall:fS a b c=true)(hn:bE a b c=n)(ac:n<=2^24)(hQ:∀h' tk acc,(∀b o',s.heap.get? b=some o'->h'.get? b=some o')->oM (λi v=>∃t,v=.int (a+i*c) t) acc n->Q acc.toList {s with heap:=h',toks:=tk}):
  ai (ar prog w) A (collect (.ref r)) Q E s:=by
 unfold collect;refine ao (JS (MN F.entry_proto_collect ?_));rw[Ws F.plain_proto_collect _];show ai _ A.in1 (newList []>>=λl=>again (.builtin "list.__iadd__" ⟨[l,.ref r],[]⟩)) _ _ s;refine ao (Je ?_);refine aM ⟨Xw F.plain_list_iadd _,MN F.entry_list_iadd ?_⟩;rw[Ws F.plain_list_iadd _];show ai _ A.in1 (eC (.ref s.heap.objs.size) (.ref r) (.ref s.heap.objs.size)) _ _ _;have hS:(s.heap.push {cls:=.type "list",data:=.seq ([]:List ρ).toArray}).get? s.heap.objs.size=some {cls:=.type "list",data:=.seq #[] 0}:=iQ _ rfl;have fin':∀h' tk acc' c',(∀b o,b≠s.heap.objs.size->(s.heap.push {cls:=.type "list",data:=.seq ([]:List ρ).toArray}).get? b=some o->h'.get? b=some o)->
   h'.get? s.heap.objs.size=some {cls:=.type "list",dict:=none,data:=.seq acc' c',slots:=#[]}->oM (λi v=>∃t,v=.int (a+i*c) t) acc' n->ai (ar prog w) A (match aI s.heap.objs.size with
   |aI a=>do
    match(<-load a).data with
     |ij xs _=>pure xs.toList
     |_=>unsupported "internal:collect"
   |_=>unsupported "internal:collect") Q E {s with heap:=h',toks:=tk}:=λh' tk acc' c' hk hS' hacc=>by
  show ai _ A (load s.heap.objs.size>>=_) _ _ _;refine ao (wpAny_load hS' ?_);apply aM;exact hQ h' tk acc' (λb o e=>hk b o (fu (dJ e)) (cR _ e)) hacc
 refine Jd (wpAny_extend_range (A:=A) (R:=λr s'=>r=.ok (.ret (.ref s.heap.objs.size))/\∃h' tk acc' c',s'={s with heap:=h',toks:=tk}/\(∀b o,b≠s.heap.objs.size->(s.heap.push {cls:=.type "list",data:=.seq ([]:List ρ).toArray}).get? b=some o->h'.get? b=some o)/\
   h'.get? s.heap.objs.size=some {cls:=.type "list",dict:=none,data:=.seq acc' c',slots:=#[]}/\oM (λi v=>∃t,v=.int (a+i*c) t) acc' n) (s:={s with heap:=s.heap.push {cls:=.type "list",data:=.seq ([]:List ρ).toArray}}) hh (cR _ hr) hsmall hn ac s.heap.objs.size (.ref s.heap.objs.size) 0 hS (λh' tk acc' c' hk hS' hacc=>⟨rfl,h',tk,acc',c',rfl,hk,hS',hacc⟩)) (λfin s' h=>?_) (λe s' h=>?_)
 ·cases fin with
  |done f=>
   obtain⟨e,h',tk,acc',c',rfl,h1,h2,h3⟩:=h;cases e;exact fin' h' tk acc' c' h1 h2 h3
  |again c'=>exact⟨h.1,SX h.2 λr s'' hr=>by obtain⟨rfl,h',tk,acc',c',rfl,h1,h2,h3⟩:=hr;exact fin' h' tk acc' c' h1 h2 h3⟩
 ·exact absurd h.1 (by simp)
end
theorem lG(r)(a b c)(t u v)(n:Nat)(hsmall:fS a b c=true)(hn:bE a b c=n)(ac:n<=2^24):
  kd (Builtin.«tuple.__new__» ⟨[.type "tuple",.ref r],[]⟩)
   (λA R s=>A.handled=none/\IsRange s.heap r a b c t u v/\∀(h':bn) tk acc,(∀b o',s.heap.get? b=some o'->h'.get? b=some o')->oM (λi v=>∃t,v=.int (a+i*c) t) acc n->R (.ok (.ret (.ref h'.objs.size))) {s with heap:=h'.push {cls:=.type "tuple",data:=.seq acc},toks:=tk}):=
 .of_wp λprog w A R s h=>by
  obtain⟨hp,g,d,tk,os⟩:=s;obtain⟨hh,ht,h⟩:=h;have hsub:=sub_tuple_self;have hinit:=init_tuple_lookup;have hmh:=madeHere_tuple;have hT:fF ⟨hp,g,d,tk,os⟩ (.ref r) "range":=⟨_,ht,rfl⟩
  wp_walk using wpAny_loadPart' ht,FO hT,nU (A:=A.in1) hh ht hsmall hn ac
  intro h' tk' acc hk hacc;show ai _ _ (bv acc.toList.toArray>>=λv=>ret v) _ _ _;unfold bv;refine ao (Je ?_ (by show acc.toList.toArray.size<=sizeLine;rw[gF];simp;rw[hacc.1];omega));refine aM ⟨_,rfl,?_⟩;have e:acc.toList.toArray=acc:=by simp
  rw[e];exact h h' tk' acc hk hacc
section
variable{prog:υ}{w:ψ}{A:bt}{E:S0}{s:τ}
theorem sZ{Q:S0}{n:Nat}(hh:A.handled=none)(hr:IsRange s.heap r a b c t u v)(hsmall:fS a b c=true)(hn:bE a b c=n)(ac:n<=2^24)(h:∀(h':bn) tk acc,(∀b o',s.heap.get? b=some o'->h'.get? b=some o')->oM (λi v=>∃t,v=.int (a+i*c) t) acc n->Q (.ref h'.objs.size) {s with heap:=h'.push {cls:=.type "tuple",data:=.seq acc},toks:=tk}):
  ai (ar prog w) A (call (.type "tuple") [.ref r]) Q E s:=
 oP F.called_tuple (by decide) (F.typeCall_tuple_1 _) (F.newCall_tuple_1 _) (λobj=>oQ obj _) F.entry_tuple_new
  (lG r a b c t u v n hsmall hn ac) ⟨hh,hr,λh' tk acc hk hacc=>⟨⟨_,iQ _ rfl,rfl⟩,h h' tk acc hk hacc⟩⟩
end
end PySem
namespace L2
open PySem PySem.Spec PyProof.Rows
section
variable{X:Cx}{p p' pos pos':eJ}{a:bp}{ta:TA}
noncomputable def dh(n:Nat):List V:=(am n).map λ(k:Nat)=>V.int (k:Int)
noncomputable def Si(ta:TA):TE:=λσ H Q=>ta σ H λvs H1=>∃j:Int,vs=[.int j]/\0<=j/\j<=16777216/\∀l,H1 l=none->Q (.ref l) (upd H1 l (.tup (dh j.toNat)))
theorem vp:∀{n:Nat}{us:List ρ},us.length=n->(∀(j:Nat) (u:ρ),us[j]? =some u->∃t:Tok,u=bI (0+((j:Nat):Int)*1) t)->iN (dh n) us:=by
 intro n us hl hi;have go:∀(us:List ρ) (k:Nat),(∀(j:Nat) (u:ρ),us[j]? =some u->∃t:Tok,u=bI (0+((j+k:Nat):Int)*1) t)->iN ((List.range' k us.length).map λ(k:Nat)=>V.int (k:Int)) us:=by
  intro us
  induction us with
  |nil=>intro k _;exact .nil
  |cons u us ih=>
   intro k h;obtain⟨t,e⟩:=h 0 u rfl;refine .cons ⟨t,?_⟩ (ih (k+1) λj u' hj=>?_)
   ·rw[e];congr 1;omega
   ·obtain⟨t',e'⟩:=h (j+1) u' (by simpa using hj);refine⟨t',?_⟩;rw[e'];congr 1;omega
 have:=go us 0 (λj u hj=>by obtain⟨t,e⟩:=hi j u hj;exact⟨t,by rw[e];rfl⟩);unfold dh;rw[lb,<-hl];exact this
theorem fX(hc:X.calm=true)(hgT:Gl X "tuple")(hmT:X.mg "tuple"=none)(hg:Gl X "range")(hm:X.mg "range"=none)(ha:PA X [a] ta)(hs:ax [a] X.env=[(false,bQ a X.env)]:=by rfl)(hs2:ax [gI (.Name "range" p') [a] [] pos'] X.env=[(false,bQ (gI (.Name "range" p') [a] [] pos') X.env)]:=by rfl):
  PE X (.Call (.Name "tuple" p) [.Call (.Name "range" p') [a] [] pos'] [] pos) (Si ta):=by
 intro aa s σ H Q I h;refine S9 (Bv I hgT hmT (show br "tuple"=some (.type "tuple")from by decide+kernel) ?_ (by decide) (by decide));refine KD ?_ hs2 rfl;rw[hs2];apply GG;refine kE (Bv I hg hm FL (KD (pw (ha pos' aa s σ H _ I h) λus s1 ⟨vs,H1,I1,r1,q1⟩=>?_) hs rfl));obtain⟨j,e,q1,q2,q⟩:=q1;subst e;cases r1 with
 |cons r rr=>
  cases rr;obtain⟨t,rfl⟩:=r;apply oa;apply Go;have hn:bE 0 j 1=((j.toNat:Nat):Int):=by rw[JO];split<;>omega
  refine sZ (I.ok.hd hc) (IR ..) (mw (by decide) (by decide) (by omega) (by omega)) hn (by omega) λh' tk acc hk hacc=>?_;have I2:Inv X aa σ H1 {s1 with heap:=h',toks:=tk}:=I1.kept λb o e=>hk b o (cR _ e);have hv:iN (dh j.toNat) acc.toList:=vp (by rw[Fg];exact hacc.1) (λi u hu=>hacc.2 i u (by simpa using hu));have hz:(dh j.toNat).length<=sizeLine:=by unfold dh;rw[gF];simp;omega
  have I3:Inv X aa σ (upd H1 h'.objs.size (.tup (dh j.toNat))) {s1 with heap:=h'.push {cls:=.type "tuple",data:=.seq acc},toks:=tk}:=
   I2.laid (t':=tk) (λb o e=>cR _ e) (aP _) (show qr X.prog X.w _ _ _ (.tup (dh j.toNat))from⟨hz,acc.toList,hv,by rw[show acc=acc.toList.toArray by simp];exact ET _ _⟩)
  exact⟨.ref h'.objs.size,_,I3,rfl,q _ (I2.hok.fresh (aP _))⟩
open Classical in
theorem rZ(hu:X.A.units+64<gf):sj X (bo .NotIn) (λx y H Q=>∃(p:ag) (xs:List V) (ds:θ) (dx:bX),y=.ref p/\(ja X.K H p xs\/SqT X.K H p xs)/\cY X.K H xs ds/\DV X.K H x dx/\bz ds=true/\dx.canLay0=true/\dx.depth<=60/\
  Q (.bl (!(ds.any λd=>aE d dx))) H):=by
 intro aa s σ H x y v u Q I rx ry h;obtain⟨p,xs,ds,dx,rfl,hq,hds,hx,ca,cb,hd,q⟩:=h;cases ry;obtain⟨bs,rb⟩:=DV.reads I hx rx;have key:∀{ae:List ρ},iN xs ae->(∀y∈ae,i0 X.A.in1 s y v (decide (∃d as,gm s.heap y d as/\d∈ds/\aE d dx=true)))/\(ae.any λy=>decide (∃d as,gm s.heap y d as/\d∈ds/\aE d dx=true))=ds.any λd=>aE d dx:=by
  intro ae rv;obtain⟨as,ra⟩:=cY.reads I hds rv;have each:∀{us:List ρ}{es:θ}{as:η},fR s.heap us es as->(∀e∈es,e∈ds)->(∀y∈us,i0 X.A.in1 s y v (decide (∃d as,gm s.heap y d as/\d∈ds/\aE d dx=true)))/\(us.any λy=>decide (∃d as,gm s.heap y d as/\d∈ds/\aE d dx=true))=es.any λd=>aE d dx:=by
   intro us
   induction us with
   |nil=>intro es as h _;cases h;exact⟨(λy hy=>(nomatch hy)),rfl⟩
   |cons y us ih=>
    intro es as h hs;cases h with
    | @cons _ _ d ds' as' bs' r rr=>
     obtain⟨i1,i2⟩:=ih rr λe he=>hs e (fB _ he);have cl:=Il ca d (hs d dZ);have e:decide (∃d as,gm s.heap y d as/\d∈ds/\aE d dx=true)=aE d dx:=by
      rw[Fx,KC];constructor
      ·rintro⟨d',as'',r',_,q'⟩;obtain⟨rfl,_⟩:=(PySem.Reads.unique r _ _ r');exact q'
      ·intro q';exact⟨d,_,r,hs d dZ,q'⟩
     refine⟨λz hz=>?_,?_⟩
     ·rcases cZ.mp hz with rfl|hz
      ·rw[e];exact oC d dx _ s _ _ _ _ r rb cl cb (by show X.A.units+1+min d.depth dx.depth<gf;omega)
      ·exact i1 z hz
     ·rw[V8,V8,i2,e]
  exact each ra λe he=>he
 rcases hq with hq|hq
 ·obtain⟨ae,r,pl,hz⟩:=I.list hq;obtain⟨k1,k2⟩:=key r;refine SeqAt.notIn_listAt _ pl.isList (λw hw=>k1 w (by simpa using hw)) ⟨.bl _,H,I,rfl,?_⟩;rw[show∀f:ρ->Bool,ae.toArray.any f=ae.any f fromλf=>by simp,k2];exact q
 ·obtain⟨ae,r,pl,hz⟩:=I.tuple hq;obtain⟨k1,k2⟩:=key r;refine SeqAt.notIn_tupleAt _ pl (λw hw=>k1 w (by simpa using hw)) ⟨.bl _,H,I,rfl,?_⟩;rw[show∀f:ρ->Bool,ae.toArray.any f=ae.any f fromλf=>by simp,k2];exact q
theorem vY(K:af)(hu:X.A.units+64<gf)(h:X.K=K:=by rfl):sj X (bo .NotIn) (λx y H Q=>∃(p:ag) (xs:List V) (ds:θ) (dx:bX),y=.ref p/\(ja K H p xs\/SqT K H p xs)/\cY K H xs ds/\DV K H x dx/\bz ds=true/\dx.canLay0=true/\dx.depth<=60/\
  Q (.bl (!(ds.any λd=>aE d dx))) H):=by subst h;exact rZ hu
end
end L2
namespace PySem
open Sem (wp)
open Builtin
open AutoSeq1 (wpAny_loadPart')
theorem sy:fillsNumberSlot (.type "tuple") "mul"=pure false:=
 fillsNumberSlot_seq (id:="tuple.__mul__") (r:=some (.builtin "tuple.__rmul__")) F.slot_tuple_mul.lookup (by decide+kernel) F.slot_tuple_rmul.lookup (by decide+kernel)
theorem zQ:seqRepeat? (.type "tuple")=pure (some (.builtin "tuple.__mul__")):=by
 unfold seqRepeat?;rw[seqSlot_of (T:="tuple") (name:="__mul__") (id:="tuple.__mul__") F.slot_tuple_mul.lookup (by decide+kernel),seqSlot_of (T:="tuple") (name:="__rmul__") (id:="tuple.__rmul__") F.slot_tuple_rmul.lookup (by decide+kernel)];rfl
theorem Ah(a)(t)(l)(items)(n)(d)(sl):
  kd (Builtin.«int.__rmul__» ⟨[.int a t,.ref l],[]⟩) (λ_ R s=>s.heap.get? l=some {cls:=.type "tuple",dict:=d,data:=.seq items n,slots:=sl}/\R (.ok (.ret kF)) s):=
 .of_wp λprog w A R s h=>by obtain⟨hp,g,d,tk,os⟩:=s;obtain⟨hl,h⟩:=h;wp_walk;exact⟨_,rfl,h⟩
theorem AF(l)(items)(n)(d)(sl)(x)(u)(hx:x=1):
  kd (Builtin.«tuple.__mul__» ⟨[.ref l,.int x u],[]⟩) (λ_ R s=>s.heap.get? l=some {cls:=.type "tuple",dict:=d,data:=.seq items n,slots:=sl}/\R (.ok (.ret (aI l))) s):=
 .of_wp λprog w A R s h=>by
  subst hx;obtain⟨hp,g,d,tk,os⟩:=s;obtain⟨hl,h⟩:=h;have f1:=MX
  wp_walk using wpAny_loadPart' hl;exact⟨_,rfl,h⟩
theorem AG(l)(items)(n)(d)(sl)(x)(u)(hx:x<=0)(hlo: -(2^63)<=x)(hne:items.isEmpty=false):
  kd (Builtin.«tuple.__mul__» ⟨[.ref l,.int x u],[]⟩) (λ_ R s=>s.heap.get? l=some {cls:=.type "tuple",dict:=d,data:=.seq items n,slots:=sl}/\R (.ok (.ret (aI s.heap.objs.size))) {s with heap:=s.heap.push {cls:=cx "tuple",data:=ij #[]},toks:=s.toks}):=
 .of_wp λprog w A R s h=>by
  obtain⟨hp,g,d,tk,os⟩:=s;obtain⟨hl,h⟩:=h;have f1:=MX;have c1:¬((decide (x< -(2^63))||decide (x≥2^63))=true):=by simp;omega
  have c2:¬((items.isEmpty||x==1)=true):=by rw[hne];simp;omega
  have c3:(decide (x<=0)||items.isEmpty)=true:=by rw[hne];simp;omega
  wp_walk using wpAny_loadPart' hl;rw[aq c1];wp_walk using wpAny_loadPart' hl;rw[aq c2];wp_walk using wpAny_loadPart' hl;exact⟨_,rfl,h⟩
theorem KQ(l)(items)(n)(d)(sl)(x)(u)(hx:1<x)(hhi:x<2^63)(hne:items.isEmpty=false)(hsz:items.size*x.toNat<=1000):
  kd (Builtin.«tuple.__mul__» ⟨[.ref l,.int x u],[]⟩) (λ_ R s=>s.heap.get? l=some {cls:=.type "tuple",dict:=d,data:=.seq items n,slots:=sl}/\R (.ok (.ret (aI s.heap.objs.size))) {s with heap:=s.heap.push {cls:=cx "tuple",data:=ij (fw (λx1 x2=>x1++x2) #[] (ah x.toNat items))},toks:=s.toks}):=
 .of_wp λprog w A R s h=>by
  obtain⟨hp,g,d,tk,os⟩:=s;obtain⟨hl,h⟩:=h;have f1:=MX;have c1:¬((decide (x< -(2^63))||decide (x≥2^63))=true):=by simp;omega
  have c2:¬((items.isEmpty||x==1)=true):=by rw[hne];simp;omega
  have c3:¬((decide (x<=0)||items.isEmpty)=true):=by rw[hne];simp;omega
  have hxs:(items.size:Int)*x=((items.size*x.toNat:Nat):Int):=by rw[MQ,Wc (by omega)]
  have c4:¬((items.size:Int)*x>(2^63-1)/8):=by rw[hxs];omega
  have c5:¬(Builtin.Tuple.tupleTooMany ((items.size:Int)*x)=true):=by
   rw[hxs];intro z;have z':((items.size*x.toNat:Nat):Int)>(sizeLine:Int):=lA z;have:=gF;generalize items.size*x.toNat=m at *;omega
  have htake:(fw (λx1 x2=>x1++x2) #[] (ah x.toNat items)).size<=sizeLine:=by
   have e:fw (λx1 x2=>x1++x2) #[] (ah x.toNat items)=(ah x.toNat items.toList).flatten.toArray:=by
    have:=PyProof.Rows.listMul_foldl_if items x.toNat;rw[aq (by rw[hne];simp)]at this;exact this
   rw[e,gM];have:(ah x.toNat items.toList).flatten.length=x.toNat*items.size:=by simp
   rw[this,Xh,gF];omega
  wp_walk using wpAny_loadPart' hl;rw[aq c1];wp_walk using wpAny_loadPart' hl;rw[aq c2];wp_walk using wpAny_loadPart' hl;rw[aq c3]
  try dsimp only
  rw[aq c4]
  try dsimp only
  rw[aq c5]
  try dsimp only
  unfold bv;refine ao (Je (aM ?_) htake);exact⟨_,rfl,h⟩
end PySem
namespace L2
open PySem PySem.Spec PyProof.Rows
section
variable{X:Cx}{p p' pos pos':eJ}{a:bp}{ta:TA}
theorem iN.aar(h:iN xs us):∀k:Nat,iN (ah k xs).flatten (ah k us).flatten
 |0=>.nil
 |k+1=>by rw[Kv,Kv,Tq,Tq];exact h.append (iN.aar h k)
inductive WK(K:af)(x:V)(y:V)(H:Hp)(Q:VK):Prop
 |mk(a k xs)(_:x=.ref a)(_:y=.int k)(_:SqT K H a xs)(_:xs≠[])(_:-(2^63)<=k)(_:k<2^63)(_:xs.length*k.toNat<=1000)(_:∀r H',Same H H'->SqT K H' r (ah k.toNat xs).flatten->Q (.ref r) H')
theorem JD:sj X (cw .Mult) (WK X.K):=by
 intro aa s σ H x y v u Q I rx ry h;obtain⟨a,k,xs,rfl,rfl,ha,hne,h1,h2,hz,q⟩:=h;cases rx;obtain⟨t,rfl⟩:=ry;obtain⟨ae,r1,p1,_⟩:=I.tuple ha;obtain⟨⟨cls,dd,data,sl⟩,ho,hc,n,hd⟩:=id p1;simp only at hc hd;subst hc hd;have ac:=r1.length;have hem:ae.toArray.isEmpty=false:=by
  cases ae with
  |nil=>cases r1;exact absurd rfl hne
  |cons _ _=>rfl
 have road:∀{S:PySem.Spec},kd (Builtin.«tuple.__mul__» ⟨[.ref a,.int k t],[]⟩) S->S X.A (wants (EP X aa σ Q) X.xe) s->ai (ar X.prog X.w) X.A (cw .Mult (.ref a) (.int k t)) (EP X aa σ Q) X.xe s:=λM hS=>
  kX (T:="tuple") (U:="int") (by decide) ⟨_,ho,rfl⟩ (λs'=>FK s' k t) sy F.fills_int_mul Kj zQ F.slot_int_index.lookup
   (Wm Kj (FK s k t) F.entry_int_rmul (F.args_int_rmul_2 _ _) (Ah k t a ae.toArray n dd sl)
    ⟨ho,rfl,⟨_,ho,rfl⟩,Wm F.slot_tuple_mul ⟨_,ho,rfl⟩ F.entry_tuple_mul (F.args_tuple_mul_2 _ _) M hS⟩)
 by_cases c1:k=1
 ·refine road (AF a ae.toArray n dd sl k t c1) ⟨ho,⟨.ref a,H,I,rfl,q a H (Same.refl _) ?_⟩⟩;subst c1;have:(ah (1:Int).toNat xs).flatten=xs:=by simp
  rw[this];exact ha
 by_cases c0:k<=0
 ·refine road (AG a ae.toArray n dd sl k t c0 h1 hem) ⟨ho,?_⟩;have e0:k.toNat=0:=by omega
  refine⟨.ref s.heap.objs.size,_,I.laid (t':=s.toks) (o:=.tup []) (λb ob q=>cR _ q) (aP _) ⟨dX _,[],.nil,ET _ _⟩,rfl,q _ _ (λc o e=>by rw[cF (oA e (I.hok.fresh (aP _)))];exact e) ?_⟩;rw[e0];exact SqT.of aK
 ·have hsz:ae.toArray.size*k.toNat<=1000:=by rw[gM,<-ac];exact hz
  refine road (KQ a ae.toArray n dd sl k t (by omega) h2 hem hsz) ⟨ho,?_⟩;have hnew:fw (λx1 x2=>x1++x2) #[] (ah k.toNat ae.toArray)=(ah k.toNat ae).flatten.toArray:=by
   have:=foldl_rep ae k.toNat [];rw[List.nil_append]at this;exact this
  rw[hnew];have hz':(ah k.toNat xs).flatten.length<=sizeLine:=by
   rw[xk,Xh];exact dH hz (by rw[gF];decide)
  refine⟨.ref s.heap.objs.size,_,I.laid (t':=s.toks) (o:=.tup (ah k.toNat xs).flatten) (λb ob q=>cR _ q) (aP _) ⟨hz',_,iN.aar r1 k.toNat,ET _ _⟩,rfl,q _ _ (λc o e=>by rw[cF (oA e (I.hok.fresh (aP _)))];exact e) (SqT.of aK)⟩
noncomputable def Sf(ta:TA):TE:=λσ H Q=>ta σ H λvs H1=>∃j:Int,vs=[.int j]/\0<=j/\j<=16777216/\∀l,H1 l=none->Q (.ref l) (upd H1 l (.lst (dh j.toNat)))
theorem ud(hc:X.calm=true)(hgT:Gl X "list")(hmT:X.mg "list"=none)(hg:Gl X "range")(hm:X.mg "range"=none)(ha:PA X [a] ta)(hs:ax [a] X.env=[(false,bQ a X.env)]:=by rfl)(hs2:ax [gI (.Name "range" p') [a] [] pos'] X.env=[(false,bQ (gI (.Name "range" p') [a] [] pos') X.env)]:=by rfl):
  PE X (.Call (.Name "list" p) [.Call (.Name "range" p') [a] [] pos'] [] pos) (Sf ta):=by
 intro aa s σ H Q I h;refine S9 (Bv I hgT hmT (show br "list"=some (.type "list")from by decide+kernel) ?_ (by decide) (by decide));refine KD ?_ hs2 rfl;rw[hs2];apply GG;refine kE (Bv I hg hm FL (KD (pw (ha pos' aa s σ H _ I h) λus s1 ⟨vs,H1,I1,r1,q1⟩=>?_) hs rfl));obtain⟨j,e,q1,q2,q⟩:=q1;subst e;cases r1 with
 |cons r rr=>
  cases rr;obtain⟨t,rfl⟩:=r;apply oa;apply Go;have hn:bE 0 j 1=((j.toNat:Nat):Int):=by rw[JO];split<;>omega
  refine call_list_range (I.ok.hd hc) (IR ..) (mw (by decide) (by decide) (by omega) (by omega)) hn (by omega) λh' tk acc c hk hS hacc=>?_;have hv:iN (dh j.toNat) acc.toList:=vp (by rw[Fg];exact hacc.1) (λi u hu=>hacc.2 i u (by simpa using hu));have hz:(dh j.toNat).length<=sizeLine:=by unfold dh;rw[gF];simp;omega
  have I2:Inv X aa σ H1 {s1 with heap:=s1.heap.push {cls:=cx "range",data:=fN #[bI 0 s1.toks,bI j t,bI 1 (s1.toks+1)]},toks:=s1.toks+1+1}:=I1.kept λb o e=>cR _ e;exact⟨.ref _,_,I2.laid (t':=tk) (o:=.lst (dh j.toNat)) hk (aP _) ⟨hz,acc.toList,c,hv,by simpa using hS⟩,rfl,q _ (I2.hok.fresh (aP _))⟩
end
end L2
namespace PySem
open Sem (wp)
open AutoSeq1 (wpAny_loadPart')
theorem Av(l)(items)(n)(dct)(sl):
  kd (Builtin.«enumerate.__new__» ⟨[.type "enumerate",.ref l],[]⟩) (λ_ R s=>s.heap.get? l=some {cls:=.type "tuple",dict:=dct,data:=.seq items n,slots:=sl}/\
   R (.ok (.ret (.ref (s.heap.push {cls:=.type "tuple_iterator",data:=.fields #[.ref l,.int 0 0]}).objs.size)))
    {s with heap:=(s.heap.push {cls:=.type "tuple_iterator",data:=.fields #[.ref l,.int 0 0]}).push {cls:=.type "enumerate",data:=.fields #[.none,.bool false,.ref s.heap.objs.size,cK 0,.none,.none]}}):=
 .of_wp λprog w A R s h=>by
  obtain⟨hp,g,d,tk,os⟩:=s;obtain⟨hl,h⟩:=h;have hsub:=sub_enumerate;have hL:Heap.IsTuple (kB ⟨hp,g,d,tk,os⟩) l items:=⟨_,hl,rfl,n,rfl⟩
  wp_walk using wpAny_loadPart' hl
  refine wpAny_stack_any λst=>aM ?_;split
  ·rename_i c _ _ _ _ _;cases(c==cx "enumerate")
   ·wp_walk using wpAny_loadPart' hl,E2 hL;exact⟨_,rfl,h⟩
   ·wp_walk using wpAny_loadPart' hl,E2 hL;exact⟨_,rfl,h⟩
  ·wp_walk using wpAny_loadPart' hl,E2 hL;exact⟨_,rfl,h⟩
section
variable{prog:υ}{w:ψ}{A:bt}{E:S0}{s:τ}
theorem vZ{Q:S0}(hit:s.heap.IsTupleIter it t i)(ht:s.heap.IsTuple t items)(hx:items[i]? =some x)(hQ:∀h',h'.IsTupleIter it t (i+1)->bc it s.heap h'->Q x {s with heap:=h'}):ai (ar prog w) A (bu (.ref it)) Q E s:=by
 obtain⟨o,ho,hc,hd⟩:=id hit;obtain⟨ol,hol,_,nl,hdl⟩:=ht;unfold bu;refine ao (Tw (name:=bO "__next__") hit.typeIs Ll (MP Ll hit.typeIs PM ?_ (PP _)));show ai _ _ (nk (.ref it) 0>>=_) _ _ s;refine ao (yW ho hd (x:=.ref t) rfl ?_);show ai _ _ (if(aI t==ba)=true then _ else _) _ _ s;rw[aq (show¬((aI t==ba)=true)from ux)];show ai _ _ (nk (.ref it) 1>>=_) _ _ s;refine ao (yW ho hd (x:=.int i 0) rfl ?_);show ai _ _ (seqItems? (.ref t)>>=_) _ _ s;refine ao (S6 hol hdl ?_);simp only[SM,hx];refine ao (kN ho hd (by simp) (aM ⟨x,rfl,aM (hQ _ ?_ (M5 ..))⟩));exact⟨_,Heap.get?_update_self _ ho (Obj.isFreed_of_fields (oS hd _)),(Obj.cls_mapFields ..).trans hc,by rw[oS hd];simp[cK]⟩
theorem mK{Q:S0}(hh:A.handled=none)(hit:s.heap.IsTupleIter it t i)(ht:s.heap.IsTuple t items)(hx:items[i]? =none)(hE:∀h' e,Heap.ExtBut it s.heap h'->(∃o,h'.get? e=some o/\o.cls=.type "StopIteration")->E (.ref e) {s with heap:=h'}):ai (ar prog w) A (bu (.ref it)) Q E s:=by
 obtain⟨o,ho,hc,hd⟩:=id hit;obtain⟨ol,hol,_,nl,hdl⟩:=ht;unfold bu;refine ao (Tw (name:=bO "__next__") hit.typeIs Ll (MP Ll hit.typeIs PM ?_ (PP _)));show ai _ _ (nk (.ref it) 0>>=_) _ _ s;refine ao (yW ho hd (x:=.ref t) rfl ?_);show ai _ _ (if(aI t==ba)=true then _ else _) _ _ s;rw[aq (show¬((aI t==ba)=true)from ux)];show ai _ _ (nk (.ref it) 1>>=_) _ _ s;refine ao (yW ho hd (x:=.int i 0) rfl ?_);show ai _ _ (seqItems? (.ref t)>>=_) _ _ s;refine ao (S6 hol hdl ?_);simp only[SM,hx];refine ao (SQ (ao (kN ho hd (by simp) ?_)));show ai _ _ (newExc (.type "StopIteration") []>>=_) _ _ _;apply ao;simp only[newExc,newTuple];refine ao (Je ?_ (by size_fits));refine ao (m:=i9 _ _) (IQ (a:=ba) (by first |rfl|(simp only[i9];rfl)) ?_);refine Je ?_ (by size_fits);simp only[raiseNew];refine ao (wpAny_handled ?_);first |rw[show A.in1.handled=none from hh]|rw[hh]
 refine ao (aM (wpAny_throw ?_));exact hE _ _ (((M5 ..).extBut.push _).push _) ⟨_,iQ _ rfl,rfl⟩
end
theorem Draws.tup{prog:υ}{w:ψ}{A:bt}(hh:A.handled=none)(it l:ag)(hne:l≠it)(items:Array ρ):
  Draws prog w A it [it,l] items.size (λi v=>items[i]? =some v) (λi h=>h.IsTupleIter it l i/\h.IsTuple l items) where
 live:=λi h st=>by obtain⟨⟨o,e,_⟩,_⟩:=st;exact⟨o,e⟩
 frame:=λi h h' st k=>⟨st.1.at λo e=>k it (by simp) o e,st.2.at λo e=>k l (by simp) o e⟩
 item:=λi s Q E hi st hQ=>by
  have hx:items[i]? =some items[i]:=PD hi;exact vZ st.1 st.2 hx λh' hit' hs=>hQ _ h' s.toks hx ⟨hit',st.2.at λo e=>(hs.2 l hne).trans e⟩ hs
 done:=λs Q E st hE=>mK hh st.1 st.2 (OU (aP _)) hE
section
variable{prog:υ}{w:ψ}{A:bt}{E:S0}{s:τ}
theorem xT{Q:S0}(hL:s.heap.IsTuple l items)(h:∀h',IsEnum h' (s.heap.objs.size+1) s.heap.objs.size 0 .none->h'.IsTupleIter s.heap.objs.size l 0->h'.objs.size=s.heap.objs.size+2->(∀b o,s.heap.get? b=some o->h'.get? b=some o)->Q (.ref (s.heap.objs.size+1)) {s with heap:=h'}):
  ai (ar prog w) A (call (.type "enumerate") [.ref l]) Q E s:=by
 obtain⟨⟨c,dct,dt,sl⟩,hl,hc,n,hd⟩:=hL;replace hc:c=.type "tuple":=hc;replace hd:dt=.seq items n:=hd;subst hc hd;refine oP F.called_enumerate (by decide) (F.typeCall_enumerate_1 _) (F.newCall_enumerate_1 _) (λobj=>oQ obj _) F.entry_enumerate_new (Av l items n dct sl) ⟨hl,?_⟩;have hz:(s.heap.push {cls:=.type "tuple_iterator",data:=.fields #[.ref l,.int 0 0]}).objs.size=s.heap.objs.size+1:=wX ..;show _/\_;rw[hz];have he:IsEnum ((s.heap.push {cls:=.type "tuple_iterator",data:=.fields #[.ref l,.int 0 0]}).push {cls:=.type "enumerate",data:=.fields #[.none,.bool false,.ref s.heap.objs.size,cK 0,.none,.none]}) (s.heap.objs.size+1) s.heap.objs.size 0 .none:=by
  have:=iQ (s.heap.push {cls:=.type "tuple_iterator",data:=.fields #[.ref l,.int 0 0]}) (o:={cls:=.type "enumerate",data:=.fields #[.none,.bool false,.ref s.heap.objs.size,cK 0,.none,.none]}) rfl;rw[hz]at this;exact this
 exact⟨⟨_,he,rfl⟩,h _ he ⟨_,cR _ (iQ _ rfl),rfl,rfl⟩ (by rw[wX,hz]) λb o x=>cR _ (cR _ x)⟩
end
end PySem
namespace L2
open PySem PySem.Spec PyProof.Rows
section
variable{X:Cx}{aa:O0}{σ:St}{H:Hp}{s:τ}{h':bn}
theorem Inv.nA{fp:η}{T:ag}(I:Inv X aa σ H s)(k:∀b o,b∉fp->s.heap.get? b=some o->h'.get? b=some o)(hf:∀b∈fp,vc X aa H b)(hT:s.heap.objs.size<=T)(new:qr X.prog X.w (upd H T o) h' T o):
  Inv X aa σ (upd H T o) {s with heap:=h',toks:=t'}:=by
 have hTn:H T=none:=I.hok.fresh hT;have nfp:∀b u,H b=some u->b∉fp:=λb u e z=>by rw[(hf b z).1]at e;cases e
 have neT:∀b o,s.heap.get? b=some o->b≠T:=λb o e=>fu (jA (dJ e) hT);have neU:∀b u,H b=some u->b≠T:=λb u e z=>by rw[z,hTn]at e;cases e
 refine I.step (g':=s.gens) (d':=s.drawn) (ch:=fp) (λb hb=>?_) (λb o _ _ hc e _=>k b o hc e) (λb o _ _ hc e _=>⟨o.slots,k b o hc e⟩) (λb o _ e n=>by rw[cF (neT b o e)];exact n)
  (λb o hc e=>⟨o,k b o hc e⟩) (λb xs e=>by rw[cF (neU b _ e)];exact e) (λb o u e=>by rw[cF (neU b _ e)];exact e) (λb ps e=>⟨#[],by rw[cF (neU b _ e),e];simp⟩) (λm hm=>?_) (λb u e=>?_) I.bare
 ·obtain⟨f0,f1,f2,f3,f4,f5⟩:=hf b hb;exact⟨f3,f1,f4,f5⟩
 ·obtain⟨o,es,ep,ho,r⟩:=hm;exact⟨o,es,ep,k _ o (λz=>(hf _ z).2.1 rfl) ho,r⟩
 ·by_cases hb:b=T
  ·subst hb;rw[aK]at e;cases e;exact new
  ·rw[cF hb]at e;refine(I.hok b u e).stay (λc v hc q=>k c v ?_ q) (λc q=>by rw[cF (neU c _ q)];exact q) λc xs q=>by rw[cF (neU c _ q)];exact q
   rcases hc with z|z
   ·rw[z];exact nfp b u e
   ·exact nfp c _ z
theorem Inv.turns{fp:η}(I:Inv X aa σ H s)(k:∀b o,b∉fp->s.heap.get? b=some o->h'.get? b=some o)(hf:∀b∈fp,vc X aa H b):Inv X aa σ H {s with heap:=h',toks:=t'}:=by
 have nfp:∀b u,H b=some u->b∉fp:=λb u e z=>by rw[(hf b z).1]at e;cases e
 refine I.step (g':=s.gens) (d':=s.drawn) (ch:=fp) (λb hb=>?_) (λb o _ _ hc e _=>k b o hc e) (λb o _ _ hc e _=>⟨o.slots,k b o hc e⟩) (λb o _ e n=>n)
  (λb o hc e=>⟨o,k b o hc e⟩) (λb xs e=>e) (λb o u e=>e) (λb ps e=>⟨#[],by rw[e];simp⟩) (λm hm=>?_) (λb u e=>?_) I.bare
 ·obtain⟨f0,f1,f2,f3,f4,f5⟩:=hf b hb;exact⟨f3,f1,f4,f5⟩
 ·obtain⟨o,es,ep,ho,r⟩:=hm;exact⟨o,es,ep,k _ o (λz=>(hf _ z).2.1 rfl) ho,r⟩
 ·refine(I.hok b u e).stay (λc v hc q=>k c v ?_ q) (λc q=>q) λc xs q=>q;rcases hc with z|z
  ·rw[z];exact nfp b u e
  ·exact nfp c _ z
end
noncomputable def Kc(K:af)(b:Bool)(H:Hp)(a:ag)(xs:List V):Prop:=match b with
 |false=>ja K H a xs
 |true=>SqT K H a xs
noncomputable def LO(K:af)(b:Bool)(a:ag)(xs:List V):It:=
 ⟨λi H=>Kc K b H a xs/\i<xs.length,λi H x H'=>∃t v,x=.ref t/\H t=none/\H'=upd H t (.tup [.int (i:Int),v])/\xs[i]? =some v,λi H=>Kc K b H a xs/\i=xs.length⟩
theorem FN{P:υ}{w:ψ}{K:af}{es:List bp}{k:Nat}{pos:eJ}(a e it:ag)(xs:List V)(hne:e≠it):
  xw P w K (.Tuple es k pos) (LO K false a xs) [e,it] e (λi h=>(∃old,IsEnum h e it (i:Int) old)/\h.IsListIter it a i) where
 mem:=by simp
 obj:=λi h st b hb=>by
  obtain⟨⟨old,he⟩,o,e1,c,d⟩:=st;rcases cZ.mp hb with z|hb
  ·subst z;exact⟨_,he,λv z=>by cases z⟩
  ·have z:b=it:=by simpa using hb
   subst z;exact⟨o,e1,λv z=>by rw[d]at z;cases z⟩
 keep:=λi h h' st k=>⟨st.1.imp λold he=>k e (by simp) _ he,st.2.at λo e=>k it (by simp) o e⟩
 item:=by
  intro X hP hw hK hc i aa s σ H E I hf st hg;subst hP hw hK;obtain⟨hq0,hi⟩:=hg;have hq:ja X.K H a xs:=hq0;obtain⟨ae,rv,p,hz⟩:=I.list hq;have hx:xs[i]? =some xs[i]:=cU hi;obtain⟨u,hu,ru⟩:=rv.get hx;obtain⟨⟨old,he⟩,hit⟩:=st;refine wpAny_pyNext_enum_item he hit p.isList (x:=u) (by simpa using hu) hne λh1 ho hit1 hT hsz hk=>⟨_,rfl,?_⟩;refine kP ho λh2 he2 hs2=>?_;have mO:bc e h1 h2:=hs2;have nTe:s.heap.objs.size≠e:=λz=>absurd (dJ he) (by rw[<-z];exact u6 _);have keep:∀b o,b∉[e,it]->s.heap.get? b=some o->h2.get? b=some o:=λb o hb q=>(mO.2 b λz=>hb (by simp[z])).trans (hk b o (λz=>hb (by simp[z])) (λz=>hb (by simp[z])) q);have hT2:h2.get? s.heap.objs.size=some {cls:=.type "tuple",data:=.seq #[.int i s.toks,u]}:=(mO.2 _ nTe).trans hT;have I2:=I.nA (h':=h2) (t':=s.toks+1) (o:=.tup [.int (i:Int),xs[i]]) keep hf (aP _) ⟨rV,[.int i s.toks,u],.cons ⟨_,rfl⟩ (.cons ru .nil),_,hT2,rfl,_,rfl⟩;exact⟨.ref s.heap.objs.size,_,I2,rfl,⟨_,_,rfl,I.hok.fresh (aP _),rfl,hx⟩,⟨⟨_,by simpa using he2⟩,hit1.at λo q=>(mO.2 it hne.symm).trans q⟩,λb hb=>by
   rw[cF (λz=>?_)]
   ·exact(hf b hb).1
   ·obtain⟨_,q1,_⟩:=hit;rcases cZ.mp hb with y|y
    ·exact nTe (z.symm.trans y)
    ·have y:b=it:=by simpa using y
     rw[<-y,z]at q1;exact absurd (dJ q1) (u6 _)⟩
 done:=by
  intro X hP hw hK hc i aa s σ H E I hf st hg;subst hP hw hK;obtain⟨hq0,hi⟩:=hg;have hq:ja X.K H a xs:=hq0;obtain⟨ae,rv,p,hz⟩:=I.list hq;have hl:=rv.length;obtain⟨⟨old,he⟩,hit⟩:=st;exact wpAny_pyNext_enum_end (I.ok.hd hc) he hit p.isList (by simp;omega) λh' eb=>⟨rfl,I.turns (t':=s.toks) (fp:=[e,it]) (λb o hb q=>eb b o (λz=>hb (by simp[z])) q) hf⟩
 self:=λ_ _ _ _ _ st h=>by
  obtain⟨⟨old,he⟩,_⟩:=st;exact KL he h
theorem FJ{P:υ}{w:ψ}{K:af}{es:List bp}{k:Nat}{pos:eJ}(a e it:ag)(xs:List V)(hne:e≠it)(hat:a≠it)(hae:a≠e):
  xw P w K (.Tuple es k pos) (LO K true a xs) [e,it] e (λi h=>(∃old,IsEnum h e it (i:Int) old)/\h.IsTupleIter it a i) where
 mem:=by simp
 obj:=λi h st b hb=>by
  obtain⟨⟨old,he⟩,o,e1,c,d⟩:=st;rcases cZ.mp hb with z|hb
  ·subst z;exact⟨_,he,λv z=>by cases z⟩
  ·have z:b=it:=by simpa using hb
   subst z;exact⟨o,e1,λv z=>by rw[d]at z;cases z⟩
 keep:=λi h h' st k=>⟨st.1.imp λold he=>k e (by simp) _ he,st.2.at λo e=>k it (by simp) o e⟩
 item:=by
  intro X hP hw hK hc i aa s σ H E I hf st hg;subst hP hw hK;obtain⟨hq0,hi⟩:=hg;have hq:SqT X.K H a xs:=hq0;obtain⟨ae,rv,p,hz⟩:=I.tuple hq;have hx:xs[i]? =some xs[i]:=cU hi;obtain⟨u,hu,ru⟩:=rv.get hx;obtain⟨⟨old,he⟩,hit⟩:=st;have hl:=rv.length;have pt:s.heap.IsTuple a ae.toArray:=p;have D:=Draws.tup (prog:=X.prog) (w:=X.w) (A:=X.A.in1) (I.ok.hd hc) it a hat ae.toArray;refine wpAny_pyNext_enum_itemD D he ⟨hit,pt⟩ (by simp;omega) hne (by simp;exact⟨hne,λz=>hae z.symm⟩) λy h1 tk hy ho abE hT hsz hk=>⟨_,rfl,?_⟩;have ey:y=u:=by
   have hu':ae.toArray[i]? =some u:=by simpa using hu
   rw[hu']at hy;exact(uw hy).symm
  subst ey;refine kP ho λh2 he2 hs2=>?_;have mO:bc e h1 h2:=hs2;have nTe:s.heap.objs.size≠e:=λz=>absurd (dJ he) (by rw[<-z];exact u6 _);have keep:∀b o,b∉[e,it]->s.heap.get? b=some o->h2.get? b=some o:=λb o hb q=>(mO.2 b λz=>hb (by simp[z])).trans (hk b o (λz=>hb (by simp[z])) (λz=>hb (by simp[z])) q);have hT2:h2.get? s.heap.objs.size=some {cls:=.type "tuple",data:=.seq #[.int i tk,y]}:=(mO.2 _ nTe).trans hT;have I2:=I.nA (h':=h2) (t':=tk+1) (o:=.tup [.int (i:Int),xs[i]]) keep hf (aP _) ⟨rV,[.int i tk,y],.cons ⟨_,rfl⟩ (.cons ru .nil),_,hT2,rfl,_,rfl⟩;exact⟨.ref s.heap.objs.size,_,I2,rfl,⟨_,_,rfl,I.hok.fresh (aP _),rfl,hx⟩,⟨⟨_,by simpa using he2⟩,abE.1.at λo q=>(mO.2 it hne.symm).trans q⟩,λb hb=>by
   rw[cF (λz=>?_)]
   ·exact(hf b hb).1
   ·obtain⟨_,q1,_⟩:=hit;rcases cZ.mp hb with y|y
    ·exact nTe (z.symm.trans y)
    ·have y:b=it:=by simpa using y
     rw[<-y,z]at q1;exact absurd (dJ q1) (u6 _)⟩
 done:=by
  intro X hP hw hK hc i aa s σ H E I hf st hg;subst hP hw hK;obtain⟨hq0,hi⟩:=hg;have hq:SqT X.K H a xs:=hq0;obtain⟨ae,rv,p,hz⟩:=I.tuple hq;have hl:=rv.length;obtain⟨⟨old,he⟩,hit⟩:=st;have pt:s.heap.IsTuple a ae.toArray:=p;have ei:i=ae.toArray.size:=by rw[gM];omega
  subst ei;have D:=Draws.tup (prog:=X.prog) (w:=X.w) (A:=X.A.in1) (I.ok.hd hc) it a hat ae.toArray;exact wpAny_pyNext_enum_endD D he ⟨hit,pt⟩ λh' eb=>⟨rfl,I.turns (t':=s.toks) (fp:=[e,it]) (λb o hb q=>eb b o (λz=>hb (by simp[z])) q) hf⟩
 self:=λ_ _ _ _ _ st h=>by
  obtain⟨⟨old,he⟩,_⟩:=st;exact KL he h
section
variable{X:Cx}{es:List bp}{k:Nat}{Cw:eJ}
noncomputable def SB(K:af)(ta:TA):TI:=λσ H R=>ta σ H λvs H1=>∃(b:Bool) (a:ag) (xs:List V),vs=[.ref a]/\Kc K b H1 a xs/\(xs.length<=sizeLine->R (LO K b a xs) H1)
theorem qL{a:bp}{ta:TA}{p pos:eJ}(hg:Gl X "enumerate")(hm:X.mg "enumerate"=none)(ha:PA X [a] ta)(hs:ax [a] X.env=[(false,bQ a X.env)]:=by rfl):
  PI X (.Tuple es k Cw) (.Call (.Name "enumerate" p) [a] [] pos) (SB X.K ta):=by
 intro aa s σ H R I h;refine kE (Bv I hg hm (show br "enumerate"=some (.type "enumerate")from by decide+kernel) (KD (pw (ha pos aa s σ H _ I h) λus s1 ⟨vs,H1,I1,r1,q1⟩=>?_) hs rfl));obtain⟨b,l,xs,e,hq,q⟩:=q1;subst e;cases r1 with
 |cons r rr=>
  cases rr;cases r;cases b with
  |false=>
   obtain⟨ae,rv,pl,hz⟩:=I1.list (show ja X.K H1 l xs from hq);refine call_enumerate_list pl.isList λh' he hit hsz hk=>?_;refine KL he ?_;have I2:Inv X aa σ H1 {s1 with heap:=h'}:=I1.kept (t':=s1.toks) hk;have hne:s1.heap.objs.size+1≠s1.heap.objs.size:=Nat.succ_ne_self _;refine⟨s1.heap.objs.size+1,[s1.heap.objs.size+1,s1.heap.objs.size],_,_,H1,rfl,I2,FN l _ _ xs hne,⟨⟨_,he⟩,hit⟩,λc hc=>?_,q hz⟩;rcases cZ.mp hc with z|z
   ·subst z;exact I1.fpOk (Bx _) (I1.hok.fresh (Bx _))
   ·have z:c=s1.heap.objs.size:=by simpa using z
    subst z;exact I1.fpOk (aP _) (I1.hok.fresh (aP _))
  |true=>
   obtain⟨ae,rv,pl,hz⟩:=I1.tuple (show SqT X.K H1 l xs from hq);have pt:s1.heap.IsTuple l ae.toArray:=pl;have hlt:l<s1.heap.objs.size:=by obtain⟨_,e,_⟩:=id pt;exact dJ e
   refine xT pt λh' he hit hsz hk=>?_;refine KL he ?_;have I2:Inv X aa σ H1 {s1 with heap:=h'}:=I1.kept (t':=s1.toks) hk;have hne:s1.heap.objs.size+1≠s1.heap.objs.size:=Nat.succ_ne_self _;refine⟨s1.heap.objs.size+1,[s1.heap.objs.size+1,s1.heap.objs.size],_,_,H1,rfl,I2,FJ l _ _ xs hne (fu hlt) (fu (tU hlt)),⟨⟨_,he⟩,hit⟩,λc hc=>?_,q hz⟩;rcases cZ.mp hc with z|z
   ·subst z;exact I1.fpOk (Bx _) (I1.hok.fresh (Bx _))
   ·have z:c=s1.heap.objs.size:=by simpa using z
    subst z;exact I1.fpOk (aP _) (I1.hok.fresh (aP _))
end
section
variable{ini:St}{H:Hp}{g:TG}{tc:TT}{te:TE}{Fin:List V->Hp->Prop}{K:af}{b:Bool}{a:ag}{xs:List V}
theorem jH(Pv:Nat->List V->St->Hp->Prop)(h0:Pv 0 [] ini H)(hl:∀(i:Nat) acc σ H,i<=xs.length->Pv i acc σ H->Kc K b H a xs)(hz:∀(i:Nat) acc σ H,i<=xs.length->Pv i acc σ H->acc.length<=i)(hx:xs.length<=sizeLine)(hs:∀(i:Nat) v t acc σ H,xs[i]? =some v->Pv i acc σ H->H t=none->g (.ref t) σ (upd H t (.tup [.int (i:Int),v])) λσ2 H2=>tc σ2 H2 λb H3=>if b=true then te σ2 H3 λv H4=>Pv (i+1) (acc++[v]) σ2 H4 else Pv (i+1) acc σ2 H3)(hd:∀acc σ H,Pv xs.length acc σ H->Fin acc H):wW (LO K b a xs) ini H g tc te Fin:=by
 refine⟨λi m acc σ H=>m=xs.length-i/\i<=xs.length/\Pv i acc σ H,⟨xs.length,by simp,dX _,h0⟩,?_⟩;rintro i m acc σ H ⟨rfl,hi,p⟩;have q:=hl i acc σ H hi p;have z:=hz i acc σ H hi p;by_cases hlt:i<xs.length
 ·refine .inr ⟨⟨q,hlt⟩,by omega,λacc σ H=>Pv (i+1) acc σ H,λacc' σ' H' r=>⟨_,by omega,rfl,hlt,r⟩,λx H' y=>?_⟩;obtain⟨t,v,rfl,ht,rfl,hv⟩:=y;exact hs i v t acc σ H hv p ht
 ·have e:i=xs.length:=by omega
  subst e;exact .inl ⟨⟨q,rfl⟩,by omega,hd acc σ H p⟩
end
section
variable{X:Cx}
theorem TX{k:Int}(h:k∈l):kQ l k=l:=by unfold kQ;simp[h]
theorem Oa{k:Int}(h:¬k∈l):kQ l k=l++[k]:=by unfold kQ;simp[h]
theorem kW(ns:ζ):∀(i:Nat),i<=ns.length->∀k,k∈cz (λi=>ns.getD i 0) i↔k∈ns.take i
 |0,_,k=>by rw[firstMet_zero,List.take_zero]
 |i+1,h,k=>by
  have ih:=kW ns i (by omega) k;have e1:ns.getD i 0=ns[i]:=by simp[show i<ns.length by omega]
  rw[lP,rF,cU (by omega),oE,<-ih]
  try dsimp only
  rw[e1];by_cases hm:ns[i]∈cz (λi=>ns.getD i 0) i
  ·rw[TX hm];constructor
   ·exact .inl
   ·rintro(z|z)
    ·exact z
    ·have:k=ns[i]:=by simpa using z
     rw[this];exact hm
  ·rw[Oa hm,oE];simp
theorem Ou(K:af)(h:X.K=K:=by rfl):E7 X (G0 K):=by subst h;exact ve
theorem Ot(K:af)(h:X.K=K:=by rfl):E7 X (Qr K):=by subst h;exact zJ
theorem Cz(K:af)(h:X.K=K:=by rfl):sj X (cw .Add) (Pu K):=by subst h;exact Ul
end
theorem Kc.same{K:af}(h:Kc K b H a xs)(e:Same H H'):Kc K b H' a xs:=by
 cases b with
 |false=>exact e.seq (show ja K H a xs from h)
 |true=>exact e.tup (show SqT K H a xs from h)
theorem HY:∀(names:List (be×cy)) (n:Nat) (acc:List (be×ag)) {x:be}{c:ag},(x,c)∈cf n names acc->(x,c)∈acc\/((x,bd)∈names/\n<=c)
 |[],_,_,_,_,h=>.inl h
 |(nm,k)::r,n,acc,x,c,h=>by
  unfold cf at h;split at h
  ·rename_i hk;have ek:k=NameKind.cell:=by simpa using hk
   rcases HY r _ _ h with q|⟨q,m⟩
   ·rcases cZ.mp q with e|e
    ·cases e;subst ek;exact .inr ⟨dZ,aP _⟩
    ·exact .inl e
   ·exact .inr ⟨fB _ q,by omega⟩
  ·rcases HY r _ _ h with q|⟨q,m⟩
   ·exact .inl q
   ·exact .inr ⟨fB _ q,m⟩
theorem Ba:∀(names:List (be×cy)) (n:Nat) (acc:List (be×ag)) {p:be×ag},p∈acc->p∈cf n names acc
 |[],_,_,_,h=>h
 |(nm,k)::r,n,acc,p,h=>by
  unfold cf;split
  ·exact Ba r _ _ (fB _ h)
  ·exact Ba r _ _ h
theorem Ib:∀(names:List (be×cy)) (n:Nat) (acc:List (be×ag)) {x:be},(x,bd)∈names->∃c,(x,c)∈cf n names acc
 |(nm,k)::r,n,acc,x,h=>by
  unfold cf;rcases cZ.mp h with e|e
  ·cases e;rw[au (show(bd==bd)=true from rfl)];exact⟨n,Ba r _ _ dZ⟩
  ·split
   ·exact Ib r _ _ e
   ·exact Ib r _ _ e
theorem Ia:∀(names:List (be×cy)) (n:Nat) (acc:List (be×ag)),n0<=n->(∀x y c,(x,c)∈acc->(y,c)∈acc->n0<=c->x=y)->(∀x c,(x,c)∈acc->c<n)->∀x y c,(x,c)∈cf n names acc->(y,c)∈cf n names acc->n0<=c->x=y
 |[],_,_,_,h,_=>h
 |(nm,k)::r,n,acc,hn,h,hl=>by
  unfold cf;split
  ·refine Ia r (n+1) ((nm,n)::acc) (by omega) (λx y c hx hy hc=>?_) (λx c hx=>?_)
   ·rcases cZ.mp hx with e1|e1<;>rcases cZ.mp hy with e2|e2
    ·cases e1;cases e2;rfl
    ·cases e1;exact absurd (hl _ _ e2) (u6 _)
    ·cases e2;exact absurd (hl _ _ e1) (u6 _)
    ·exact h x y c e1 e2 hc
   ·rcases cZ.mp hx with e1|e1
    ·cases e1;exact wY _
    ·exact tU (hl _ _ e1)
  ·exact Ia r n acc hn h hl
theorem Az:∀(names:List (be×cy)) (h:bn) (acc:List (be×ag)) {x:be}{c:ag},(x,c)∈cf h.objs.size names acc->(x,c)∈acc\/(ny h names).IsCell c none
 |[],_,_,_,_,h=>.inl h
 |(nm,k)::r,h,acc,x,c,hm=>by
  unfold cf at hm;unfold ny;split at hm
  ·rename_i hk;rw[au hk];have hm':(x,c)∈cf (h.push {cls:=.type "cell",data:=.cell none}).objs.size r ((nm,h.objs.size)::acc):=by rw[wX];exact hm
   rcases Az r (h.push {cls:=.type "cell",data:=.cell none}) _ hm' with q|q
   ·rcases cZ.mp q with e|e
    ·cases e;exact .inr ⟨_,Ki _ _ _ _ (iQ _ rfl),rfl⟩
    ·exact .inl e
   ·exact .inr q
  ·rename_i hk;rw[aq hk];exact Az r h acc hm
theorem U3{E:S0}{Q:lw->τ->Prop}(hQ:Q (newEnv scope s.heap.objs.size globals (cf (s.heap.objs.size+1) scope.names closure) qual none ba (some env) 0) {s with heap:=ny (s.heap.push {cls:=.type "dict",data:=.dict #[]}) scope.names}):
  ai M A (kR scope globals closure [] qual none .none (some env)) Q E s:=by
 simp only[kR,lc,Fv];refine ao (wpAny_alloc ?_);refine ao (wpAny_layCells _ (λname kind cells=>by cases hkc:kind==bd<;>simp[hkc]) _ _ _ _ ?_);rw[MC];refine ao (aM (aM ?_));rw[show({s with heap:=s.heap.push {cls:=.type "dict",data:=.dict #[]}}:τ).heap.objs.size=s.heap.objs.size+1 from wX ..];exact hQ
noncomputable def bf(sc scope:dQ):Bool:=scope.names.all λp=>(p.2 !=bd||scope.names.lookup p.1==some bd)&&(p.2 !=NameKind.local||scope.names.lookup p.1==some NameKind.local)&&
 (p.2 !=aw||(scope.names.lookup p.1==some aw&&(sc.names.lookup p.1==some bd||sc.names.lookup p.1==some aw)))
section
variable{sc scope:dQ}
theorem bf.cell(h:bf sc scope=true)(hy:(x,bd)∈scope.names):scope.names.lookup x=some .cell:=by
 have q:=lM.mp h _ hy;simpa using q
theorem bf.names(h:bf sc scope=true):∀y∈scope.names,y.2=.local->scope.names.lookup y.1=some .local:=λy hy e=>by
 have q:=lM.mp h y hy;simpa[e]using q
theorem bf.free(h:bf sc scope=true)(hy:(x,aw)∈scope.names):scope.names.lookup x=some .free/\(sc.names.lookup x=some .cell\/sc.names.lookup x=some .free):=by
 have q:=lM.mp h _ hy;simpa using q
end
theorem Cr(h:(gi scope env).names.lookup x=some .cell\/(gi scope env).names.lookup x=some .free):(x,aw)∈scope.names\/(x,bd)∈scope.names:=by
 cases e:scope.names.lookup x with
 |none=>
  have q:=vV (env:=env) e;rcases h with h|h
  ·rw[show(gi scope env).names.lookup x=none from q]at h;cases h
  ·rw[show(gi scope env).names.lookup x=none from q]at h;cases h
 |some k=>
  have q:=pO (env:=env) e;have m:=Fy e;by_cases hk:k=.free
  ·subst hk;exact .inl m
  ·have q':(gi scope env).names.lookup x=some k:=by
    refine Eq.trans q ?_;have:(k==aw)=false:=by simpa using hk
    simp[this]
   rw[q']at h;rcases h with h|h
   ·cases h;exact .inr m
   ·cases h;exact absurd rfl hk
noncomputable def cg(X:Cx)(scope:dQ)(N:List be)(s:τ)(H:Hp)(cl:List (be×ag))(C:ag)(ex:η):Cx:=
 {X with N:=N,s₀:=s,H₀:=H,env:=compEnvC scope cl C X.env,outer:=X.stack,ex:=ex,fn:=λx=>scope.names.lookup x==some bd,pn:=[],xe:=λ_ _=>False}
section
variable{X:Cx}{tg iter elt:bp}{ifs:List bp}{scope:dQ}{pos:eJ}{own caps:List be}{ix:List Nat}{g:TG}{tc:TT}{te:TE}
noncomputable abbrev Nb(X:Cx)(scope:dQ)(C:ag):List (be×ag):=cf (C+1) scope.names (fZ X.env.cells scope.names [])
theorem Ay{σ:St}(ck:bf X.env.scope scope=true)(I:Inv X aa σ H s)(e:(Nb X scope C).lookup x=some c):
  (X.env.cells.lookup x=some c/\(x,aw)∈scope.names)\/((x,bd)∈scope.names/\C<c/\(x,c)∉fZ X.env.cells scope.names []):=by
 have old:(x,c)∈fZ X.env.cells scope.names []->X.env.cells.lookup x=some c/\(x,aw)∈scope.names:=λq=>by
  rcases mX q with q|⟨q,mm⟩
  ·cases q
  ·obtain⟨d,hd⟩:=I.ok.has x (bf.free ck mm).2;rw[hd]at q;have q:c=d:=q;rw[q];exact⟨hd,mm⟩
 rcases HY _ _ _ (Fy e)with q|⟨q,m⟩
 ·exact .inl (old q)
 ·refine .inr ⟨q,m,λz=>?_⟩;have h1:=bf.cell ck q;have h2:=(bf.free ck (old z).2).1;rw[h1]at h2;cases h2
theorem Ef{aa:O0}{s s':τ}{σ:St}{H:Hp}{fp:η}{C:ag}{m:D0}(ck:bf X.env.scope scope=true)(hkind:scope.kind=.function)(hcap:iR X scope caps ix)
  (I:Inv X aa σ H s)(f2:∀b∈fp,vc X aa H b)(hlt:∀b∈fp,b<s.heap.objs.size)(hC:s.heap.objs.size<=C)(hos:s'.os=s.os)(hg:fI s'.gens)(hk:∀b o,s.heap.get? b=some o->s'.heap.get? b=some o)(hn:s'.heap.Ns C m)(hcl:∀x c,(Nb X scope C).lookup x=some c->(x,c)∉fZ X.env.cells scope.names []->s'.heap.IsCell c none):
  Inv (cg X scope (own++caps) s H (Nb X scope C) C fp) [] (Du own ix σ) H s':=by
 have cl1:=λx c e=>Ay (C:=C) (x:=x) (c:=c) ck I e;have JG:∀x c,X.env.cells.lookup x=some c->c<s.heap.objs.size:=λx c e=>by
  obtain⟨v,o,ho,_⟩:=I.cell x c e;exact dJ ho
 have cl2:∀x,(x,aw)∈scope.names\/(x,bd)∈scope.names->∃c,(Nb X scope C).lookup x=some c:=λx mm=>by
  rcases mm with mm|mm
  ·obtain⟨c,hc⟩:=wI (cells:=X.env.cells) (acc:=[]) mm;obtain⟨d,hd,_⟩:=Fh (Ba scope.names (C+1) _ hc);exact⟨d,hd⟩
  ·obtain⟨c,hc⟩:=Ib scope.names (C+1) (fZ X.env.cells scope.names []) mm;obtain⟨d,hd,_⟩:=Fh hc;exact⟨d,hd⟩
 have inj:∀x y c,(Nb X scope C).lookup x=some c->(Nb X scope C).lookup y=some c->x=y:=λx y c h1 h2=>by
  rcases cl1 x c h1 with⟨q1,_⟩|⟨q1,m1,_⟩<;>rcases cl1 y c h2 with⟨q2,_⟩|⟨q2,m2,_⟩
  ·exact I.ok.inj x y c q1 q2
  ·exact absurd (Nr (jA (JG x c q1) hC) m2) (u6 _)
  ·exact absurd (Nr (jA (JG y c q2) hC) m1) (u6 _)
  ·refine Ia (n0:=C+1) scope.names (C+1) _ (aP _) (λx y c hx hy hc=>?_) (λx c hx=>?_) x y c (Fy h1) (Fy h2) m1
   ·obtain⟨d,hd,_⟩:=Fh hx;rcases mX hx with q|⟨q,mm⟩
    ·cases q
    ·obtain⟨d,hd⟩:=I.ok.has x (bf.free ck mm).2;rw[hd]at q;have q:c=d:=q;subst q;exact absurd (jA (jA (JG x c hd) hC) (dW hc)) (u6 _)
   ·rcases mX hx with q|⟨q,mm⟩
    ·cases q
    ·obtain⟨d,hd⟩:=I.ok.has x (bf.free ck mm).2;rw[hd]at q;have q:c=d:=q;subst q;exact tU (jA (JG x c hd) hC)
 have bsz:X.base.objs.size<=s.heap.objs.size:=dH I.ok.bsz I.sz;refine⟨⟨I.ok.mod,hkind,I.ok.glob,I.ok.blt,hC,inj,λx hx=>cl2 x (Cr hx),λx c h e=>?cab,I.ok.hd,I.ok.frames,.inl rfl,λb hb=>⟨fu (jA (hlt b hb) hC),λx c e=>?exf⟩,I.bs,bsz,
  λb o e hb=>?_,λb hb hz=>?_,I.stack,I.stkFree⟩,?_,hg,Un.kept hk,⟨m,hn,λi x v h1 h2 h3=>?_⟩,λx c e=>?_,I.hok.fresh hC,λx c e=>?W8,λp hp=>absurd (show p∈([]:O0)from hp) (by simp),I.hok.kept hk,?_⟩
 case cab=>
  rcases cl1 x c e with⟨_,q⟩|⟨_,q,_⟩
  ·have y1:=(bf.free ck q).1;have y2:(scope.names.lookup x==some bd)=true:=h;rw[y1]at y2;exact absurd y2 (by decide)
  ·exact dH hC (dW q)
 case exf=>
  rcases cl1 x c e with⟨q,_⟩|⟨_,q,_⟩
  ·exact(f2 b hb).2.2.2.2.1 x c q
  ·exact oV (fu (Nr (jA (hlt b hb) hC) q))
 case W8=>
  rcases cl1 x c e with⟨q,_⟩|⟨_,q,_⟩
  ·exact I.freeC x c q
  ·exact I.hok.fresh (dH hC (dW q))
 ·rcases(f2 b hb).2.2.2.1 with z|z
  ·exact I.ok.noex b o e z
  ·exact absurd (jA (dJ e) (dH I.ok.bsz z)) (u6 _)
 ·rcases cZ.mp (I.stkSub b hz)with z|z
  ·exact(f2 b hb).2.1 z
  ·exact(f2 b hb).2.2.1 z
 ·exact hos
 ·have h1:(own++caps)[i]? =some x:=h1;have h2:(own.map (λ_=>(none:Option V))++ix.map λj=>(σ[j]?).join)[i]? =some (some v):=h2;by_cases hi:i<own.length
  ·rw[FI (by simpa using hi),dI]at h2;cases e:own[i]? <;>rw[e]at h2<;>simp at h2
  ·rw[EQ (by simpa using hi)]at h2;rw[EQ (by omega)]at h1;rw[aD]at h2;obtain⟨j,e1,e2,e3⟩:=hcap.get h1;rw[dI,e1]at h2;have h2':(σ[j]?).join=some v:=by simpa using h2
   have h4:σ[j]? =some (some v):=by
    cases q:σ[j]? with
    |none=>rw[q]at h2';cases h2'
    |some w=>rw[q]at h2';exact jQ some h2'
   obtain⟨m0,hn0,hl0⟩:=I.loc;have mm:=Fy e3;have vis:=(bf.free ck mm).2;obtain⟨u,r,l⟩:=hl0 j x v e2 h4 (.inr vis);refine⟨u,r,.inr ?_⟩;rcases l with⟨k,_⟩|⟨k,c,e,z⟩
   ·rcases vis with q|q
    ·rw[show X.env.kindOf x=some .cell from q]at k;cases k
    ·rw[show X.env.kindOf x=some .free from q]at k;cases k
   ·obtain⟨d,hd⟩:=cl2 x (.inl mm);rcases cl1 x d hd with⟨this,_⟩|⟨qc,_⟩
    ·rw[e]at this;cases this;exact⟨Gx e3,c,hd,z.keeps hk⟩
    ·have y1:=bf.cell ck qc;rw[e3]at y1;cases y1
 ·rcases cl1 x c e with⟨q,_⟩|⟨_,_,q⟩
  ·obtain⟨v,z⟩:=I.cell x c q;exact⟨v,z.keeps hk⟩
  ·exact⟨none,hcl x c e q⟩
 ·show(own.map (λ_=>(none:Option V))++ix.map λj=>(σ[j]?).join).length=(own++caps).length;simp[hcap.len]
theorem wH(ck:bf X.env.scope scope=true)(hkind:scope.kind=.function)(hcap:iR X scope caps ix)(hc:X.calm=true)(hg:∀s H cl C ex,PG (cg X scope (own++caps) s H cl C ex) tg g)(ht:∀s H cl C ex,Xb (cg X scope (own++caps) s H cl C ex) ifs tc)(he:∀s H cl C ex,PE (cg X scope (own++caps) s H cl C ex) elt te){aa:O0}{s2:τ}{σ:St}{H2:Hp}{E:S0}(I2:Inv X aa σ H2 s2){it:ag}{fp:η}{tn:Nat->bn->Prop}{J:It}(T:xw X.prog X.w X.K tg J fp it tn)(st2:tn 0 s2.heap)(f2:∀b∈fp,vc X aa H2 b)
  {W:Nat->Nat->List V->St->Hp->Prop}{m0:Nat}(w0:W 0 m0 [] (Du own ix σ) H2){Fin:List V->Hp->Prop}(turn:∀i m acc σ H,W i m acc σ H->(J.stop i H/\acc.length<=sizeLine/\Fin acc H)\/(J.go i H/\acc.length<sizeLine/\∃N:List V->St->Hp->Prop,(∀acc' σ' H',N acc' σ' H'->∃m',m'<m/\W (i+1) m' acc' σ' H')/\∀x H',J.yld i H x H'->g x σ H' λσ2 H2=>tc σ2 H2 λb H3=>
   if b=true then te σ2 H3 λv H4=>N (acc++[v]) σ2 H4 else N acc σ2 H3))
  {RR:ρ->ag->Result->τ->Prop}(hRR:∀D C s' acc Hf m,Inv X aa σ (upd Hf D (.lst acc)) s'->Hf D=none->s'.heap.Ns C m->vc X aa (upd Hf D (.lst acc)) C->Fin acc Hf->RR (.ref D) C (.ok .next) s'):
  ai (ar X.prog X.w) X.A (newList []) (λacc s₃=>ai (ar X.prog X.w) X.A (kR scope X.env.globals (fZ X.env.cells scope.names []) [] X.env.qual none .none (some X.env)) (λcenv s₄=>
   eM (ar X.prog X.w) X.A (.compStart (.ListComp elt [⟨tg,iter,ifs,0⟩] scope pos) 0 (.ref it) acc {cenv with scope:=gi scope X.env}) (RR acc cenv.locals) s₄) E s₃) E s2:=by
 refine Je (U3 ?_);generalize hP:s2.heap.push {cls:=.type "list",dict:=none,data:=.seq ([]:List ρ).toArray}=P1;have hC:P1.objs.size=s2.heap.objs.size+1:=by rw[<-hP,wX]
 have hlt:∀b∈fp,b<s2.heap.objs.size:=λb hb=>by
  obtain⟨o,e,_⟩:=T.obj _ _ st2 b hb;exact dJ e
 generalize hh1:ny (P1.push {cls:=.type "dict",data:=.dict #[]}) scope.names=h₁;have hns₁:h₁.Ns P1.objs.size (λ_=>none):=by rw[<-hh1];exact(Heap.Ns.new P1 (.type "dict")).keeps (Ki _ _)
 have old:∀b o,s2.heap.get? b=some o->h₁.get? b=some o:=λb o e=>by
  rw[<-hh1];exact Ki _ _ b o (cR _ (hP▸cR _ e))
 have hD1:h₁.get? s2.heap.objs.size=some {cls:=.type "list",data:=.seq ([]:List ρ).toArray 0}:=by
  rw[<-hh1];exact Ki _ _ _ _ (cR _ (hP▸iQ _ rfl))
 have aaS:∀x c,(Nb X scope P1.objs.size).lookup x=some c->(x,c)∉fZ X.env.cells scope.names []->h₁.IsCell c none:=λx c e n=>by
  have e':(x,c)∈cf (P1.objs.size+1) scope.names (fZ X.env.cells scope.names []):=Fy e;rw[show P1.objs.size+1=(P1.push {cls:=.type "dict",data:=.dict #[]}).objs.size from(wX ..).symm]at e';rcases Az _ _ _ e' with q|q
  ·exact absurd q n
  ·rw[<-hh1];exact q
 show eM (ar X.prog X.w) X.A (.compStart (.ListComp elt [⟨tg,iter,ifs,0⟩] scope pos) 0 (.ref it) (.ref s2.heap.objs.size) {newEnv scope P1.objs.size X.env.globals (Nb X scope P1.objs.size) X.env.qual none ba (some X.env) 0 with scope:=gi scope X.env}) (RR (.ref s2.heap.objs.size) P1.objs.size) {s2 with heap:=h₁};generalize Vm:s2.heap.objs.size=D at *;rw[hC]at hns₁ aaS⊢;have entry:Inv (cg X scope (own++caps) s2 H2 (Nb X scope (D+1)) (D+1) fp) [] (Du own ix σ) H2 {s2 with heap:=h₁}:=
  Ef ck hkind hcap I2 f2 (by rw[Vm];exact hlt) (by rw[Vm];exact Bx _) rfl I2.bare old hns₁ aaS
 generalize hX':cg X scope (own++caps) s2 H2 (Nb X scope (D+1)) (D+1) fp=X' at entry;have eP:X'.prog=X.prog:=by rw[<-hX'];rfl
 have ew:X'.w=X.w:=by rw[<-hX'];rfl
 have eK:X'.K=X.K:=by rw[<-hX'];rfl
 have eA:X'.A=X.A:=by rw[<-hX'];rfl
 have W9:X'.calm=true:=by rw[<-hX'];exact hc
 have efs:X'.fs=AU X.stack:=by rw[<-hX'];rfl
 have eex:X'.ex=fp:=by rw[<-hX'];rfl
 have epn:X'.pn=[]:=by rw[<-hX'];rfl
 have es0:X'.s₀=s2:=by rw[<-hX'];rfl
 have eH0:X'.H₀=H2:=by rw[<-hX'];rfl
 have exe:X'.xe=λ_ _=>False:=by rw[<-hX'];rfl
 have VF:X'.env=compEnvC scope (Nb X scope (D+1)) (D+1) X.env:=by rw[<-hX'];rfl
 have Rh:X'.env.locals=D+1:=by rw[VF];rfl
 have hg':PG X' tg g:=by rw[<-hX'];exact hg _ _ _ _ _
 have ht':Xb X' ifs tc:=by rw[<-hX'];exact ht _ _ _ _ _
 have he':PE X' elt te:=by rw[<-hX'];exact he _ _ _ _ _
 have ecl:∀x c,X'.env.cells.lookup x=some c->c≠D:=λx c e=>by
  rw[VF]at e;rcases Ay (C:=D+1) ck I2 e with⟨q,_⟩|⟨_,q,_⟩
  ·obtain⟨v',o',ho',_⟩:=I2.cell x c q;exact fu (by rw[<-Vm];exact dJ ho')
  ·exact oV (fu (Nr (wY D) q))
 have dfs:D∉AU X.stack:=λhb=>by
  rcases cZ.mp (I2.stkSub D hb)with z|z
  ·exact absurd (Nat.lt_of_lt_of_eq I2.lt Vm) (by rw[z];exact u6 _)
  ·exact I2.nofs (Ja Vm) z
 have fpn:∀{H':Hp}{o:ki},(∀b∈fp,H' b=none)->∀b∈fp,vc X' [(D,o)] H' b:=λ{H' o} hn b hb=>by
  have hbl:=hlt b hb;refine⟨hn b hb,by rw[Rh];exact fu (tU hbl),?_,.inl (by rw[eex];exact hb),λx c e=>?_,λp hp=>?_⟩
  ·rw[efs];intro z;rcases cZ.mp (I2.stkSub b z)with z|z
   ·exact(f2 b hb).2.1 z
   ·exact(f2 b hb).2.2.1 z
  ·rw[VF]at e;rcases Ay (C:=D+1) ck I2 e with⟨q,_⟩|⟨_,q,_⟩
   ·exact(f2 b hb).2.2.2.2.1 x c q
   ·exact oV (fu (Nr (tU hbl) q))
  ·rw[epn]at hp;have:p=(D,o):=by simpa using hp
   rw[this];exact xg hbl
 have Yn:∀{σ':St}{H':Hp}{s':τ}{o:ki},Inv X' [] σ' H' s'->s'.heap.get? D=some o->H' D=none->(∀v,o.data≠.cell v)->Inv X' [(D,o)] σ' H' s':=λ{σ' H' s' o} I e n d=>
  I.pins_of λp hp=>by
   have:p=(D,o):=by simpa using hp
   subst this;exact⟨e,n,by rw[Rh];exact fu (wY D),by rw[efs];exact dfs,d⟩
 have loop:∀s₃:τ,s₃={s2 with heap:=h₁}->
   eM (ar X.prog X.w) X.A (.compLoop (.ListComp elt [⟨tg,iter,ifs,0⟩] scope pos) 0 (.ref it) (.ref D) X'.env) (RR (.ref D) (D+1)) s₃:=by
  intro s₃ hs₃;refine codeAny_loop rfl (λn s'=>∃i acc ae k σ' H',Inv X' [] σ' H' s'/\tn i s'.heap/\(∀b∈fp,H' b=none)/\s'.heap.get? D=some {cls:=.type "list",data:=.seq (bg ae) k}/\iN acc ae/\H' D=none/\W i n acc σ' H') ?_ m0
   ⟨0,[],[],0,Du own ix σ,H2,by rw[hs₃];exact entry,by rw[hs₃];exact T.keep _ _ _ st2 λb _ o e=>old b o e,λb hb=>(f2 b hb).1,by rw[hs₃];exact hD1,.nil,I2.hok.fresh (Ja Vm),w0⟩
  rintro n s3 ⟨i,acc,ae,k,σ3,H3,I3,st3,fr3,eD,rv,nD,w3⟩;show ai _ X.A ((compTurn (.ListComp elt [⟨tg,iter,ifs,0⟩] scope pos) 0 (.ref it) (.ref D) X'.env).onRaise (λx=>do noteFrame x X'.env;theTreesLotGoes x)) _ _ s3;apply wpAny_noted;rw[compTurn_list];have noE:∀{α:Type}{t:Sem α}{Q:α->τ->Prop}{E':S0}{s:τ},ai (ar X'.prog X'.w) X'.A t Q X'.xe s->ai (ar X.prog X.w) X.A t Q E' s:=λ{α t Q E' s} h=>by
   rw[eP,ew,eA,exe]at h;exact Jd h (λ_ _ q=>q) λ_ _ z=>z.elim
  have I3':=Yn (o:={cls:=.type "list",data:=.seq (bg ae) k}) I3 eD nD (λv z=>by
   have z':ij (bg ae) k=kn v:=z;cases z')
  refine ao (JP (ao ?_));rcases turn i n acc σ3 H3 w3 with⟨stop,hz,fin⟩|⟨go,hz,Nn,hN,step⟩
  ·have q:=T.done X' eP ew eK W9 i [(D,_)] s3 σ3 H3 (notedBy (ar X.prog X.w) X.A X'.env λe s'=>RR (.ref D) (D+1) (.error e) s') I3' (fpn fr3) st3 stop;rw[eA]at q;refine pw q λr s4 ⟨hr,I4⟩=>?_;subst hr;apply aM;obtain⟨e4,_⟩:=I4.pin (D,_) (lR _ dZ);obtain⟨mC,hnC,_⟩:=I4.loc;have u4:=I4.base;rw[efs,eex,eH0,es0]at u4;have ok4:=I4.hok;rw[eP,ew]at ok4;have nC:H3 (D+1)=none:=by have:=I4.free;rw[Rh]at this;exact this
   have hok:tx X.prog X.w (upd H3 D (.lst acc)) s4.heap:=ok4.add nD ⟨hz,ae,k,rv,e4⟩;refine hRR D (D+1) s4 acc H3 mC ?_ nD (by rw[Rh]at hnC;exact hnC) ?_ fin
   ·refine I2.call' (s':=s4) (ch:=fp) ?_ (u4.add (by rw[Vm];exact aP _) nD) hok I4.bare λb hb=>?_
    ·have:=I4.os;rw[es0]at this;exact this
    ·obtain⟨f0,f1,f3,f4,f5,f6⟩:=f2 b hb;exact⟨f4,f1,f5,f6⟩
   ·refine I2.fpOk (by rw[Vm];exact Bx _) ?_;rw[cF (xg (wY D))];exact nC
  ·have q:=T.item X' eP ew eK W9 i [(D,_)] s3 σ3 H3 (notedBy (ar X.prog X.w) X.A X'.env λe s'=>RR (.ref D) (D+1) (.error e) s') I3' (fpn fr3) st3 go;rw[eA]at q;refine pw q λr s4 ⟨u,hr,h4⟩=>?_;subst hr;dsimp only;refine ao (pw h4 λ_ s5 ⟨x,H5,I5,r5,y5,st5,fr5⟩=>?_);have I5':=I5.pinned (fpn fr5) (T.obj _ _ st5);have again:∀{σ7:St}{H7:Hp}{s7:τ},Inv X' ([(D,{cls:=.type "list",data:=.seq (bg ae) k})]++vx fp s5.heap) σ7 H7 s7->tn (i+1) s7.heap/\(∀b∈fp,H7 b=none)/\s7.heap.get? D=some {cls:=.type "list",data:=.seq (bg ae) k}/\H7 D=none:=λ{σ7 H7 s7} I7=>by
    refine⟨T.keep _ _ _ st5 λb hb o e=>(I7.pin (b,o) (lR _ (lR _ (sP hb e)))).1,λb hb=>?_,?_⟩
    ·obtain⟨o,e,d⟩:=T.obj _ _ st5 b hb;exact(I7.pin (b,o) (lR _ (lR _ (sP hb e)))).2.1
    ·have:=I7.pin (D,_) (lR _ (SN _ dZ));exact⟨this.1,this.2.1⟩
   refine ao (pw (noE (hg' _ s5 σ3 H5 x u _ I5' r5 (step x H5 y5))) λ_ s6 ⟨σ6,H6,I6,q6⟩=>?_);refine ao (pw (noE (ht' _ s6 σ6 H6 _ I6 q6)) λok s7 ⟨H7,I7,q7⟩=>?_);cases ok with
   |false=>
    rw[aq ux]at q7;obtain⟨m',hm,w7⟩:=hN _ _ _ q7;obtain⟨a1,a2,a3,a4⟩:=again I7;exact aM ⟨rfl,m',hm,i+1,acc,ae,k,σ6,H7,I7.pins_of (λp hp=>nomatch hp),a1,a2,a3,rv,a4,w7⟩
   |true=>
    rw[au rfl]at q7;refine ao (ao (pw (noE (he' _ s7 σ6 H7 _ I7 q7)) λv s8 ⟨y,H8,I8,r8,q8⟩=>?_));obtain⟨m',hm,w8⟩:=hN _ _ _ q8;obtain⟨a1,a2,a3,a4⟩:=again I8;have hl:=rv.length;refine ao (Wm gE ⟨_,a3,rfl⟩ F.entry_list_append (ox _ _) (ng D ae.toArray k v (by rw[gM];omega)) ⟨a3,?_⟩);refine aM (aM ⟨rfl,m',hm,i+1,acc++[y],ae++[v],?_⟩);have qD:=PySem.IsL.update a3 (λa:Array ρ=>a.push v);rw[List.push_toArray]at qD;have kp:∀b o,b≠D->s8.heap.get? b=some o->(s8.heap.update D (ay λa=>a.push v)).get? b=some o:=λb o hb e=>(NG s8.heap _ (oV hb)).trans e;have I8':Inv X' [] σ6 H8 {s8 with heap:=s8.heap.update D (ay λa=>a.push v)}:=by
     refine(I8.pins_of (pins':=[]) (λp hp=>nomatch hp)).turned (t':=s8.toks) (it:=D) kp a4 (by rw[Rh];exact fu (wY D)) (.inr (by rw[es0,Vm];exact aP _)) (λx c e=>ecl x c e) (λp hp=>?_);rw[epn]at hp;exact nomatch hp
    exact⟨_,σ6,H8,I8',T.keep _ _ _ a1 λb hb o e=>kp b o (fu (hlt b hb)) e,a2,qD,rv.append (.cons r8 .nil),a4,w8⟩
 have aa':({newEnv scope (D+1) X.env.globals (Nb X scope (D+1)) X.env.qual none ba (some X.env) 0 with scope:=gi scope X.env}:lw)=X'.env:=by rw[VF];rfl
 have L:=loop _ rfl;rw[<-aa']at L;exact codeAny_compStart_list L (T.self X.A 0 _ _ _ (T.keep _ _ _ st2 λb _ o e=>old b o e) L)
end
section
variable{X:Cx}{tg iter elt:bp}{ifs:List bp}{scope:dQ}{pos:eJ}{own caps:List be}{ix:List Nat}{wi:TI}{g:TG}{tc:TT}{te:TE}
theorem PB(hc:X.calm=true)(hi:PI X tg iter wi)(ck:bf X.env.scope scope=true)(hkind:scope.kind=.function)(hcap:iR X scope caps ix)(hg:∀s H cl C ex,PG (cg X scope (own++caps) s H cl C ex) tg g)(ht:∀s H cl C ex,Xb (cg X scope (own++caps) s H cl C ex) ifs tc)(he:∀s H cl C ex,PE (cg X scope (own++caps) s H cl C ex) elt te)(hs:∀x,eL iter X.env x=pure x:=by intro _;rfl):PE X (.ListComp elt [⟨tg,iter,ifs,0⟩] scope pos) (Jl wi own ix g tc te):=by
 intro aa s σ H Q I h;rw[eval_ListComp];refine lS (use:=none) rfl hs (p8 λx hx=>I.ok.has x ((bf.free ck hx).2)) hkind (bf.names ck) (pw (hi aa s σ H _ I h) λxv s1 h1=>pw h1 λitv s2 h2=>?_);obtain⟨it,fp,tn,J,H2,e,I2,T,st2,f2,W,⟨m0,w0⟩,turn⟩:=h2;subst e;refine wH (RR:=λacc C=>compPost (ar X.prog X.w) X.A X.xe none (EP X aa σ Q) acc C) ck hkind hcap hc hg ht he I2 T st2 f2 w0 turn ?_;intro D C s' acc Hf m I' nD hn fC fin;refine⟨m,hn,λh' sb=>?_⟩;obtain⟨f0,f1,f3,f4,f5,f6⟩:=fC;exact⟨.ref D,_,I'.turned (t':=s'.toks) (it:=C) (λb o hb e=>(sb.2 b hb).trans e) f0 f1 f4 f5 f6,rfl,fin D nD⟩
theorem pK{X:Cx}{tg iter elt:bp}{ifs:List bp}{scope:dQ}{pos:eJ}{wi:TI}{g:TG}{tc:TT}{te:TE}(own caps:List be)(ix:List Nat)(hi:PI X tg iter wi)(hg:∀{s H cl C ex},PG (cg X scope (own++caps) s H cl C ex) tg g)(ht:∀{s H cl C ex},Xb (cg X scope (own++caps) s H cl C ex) ifs tc)(he:∀{s H cl C ex},PE (cg X scope (own++caps) s H cl C ex) elt te)(hcap:iR X scope caps ix:=by repeat(first |exact iR.nil|refine iR.cons rfl rfl ?_))(hc:X.calm=true:=by rfl)(ck:bf X.env.scope scope=true:=by rfl)(hkind:scope.kind=.function:=by rfl)(hs:∀x,eL iter X.env x=pure x:=by intro _;rfl):PE X (.ListComp elt [⟨tg,iter,ifs,0⟩] scope pos) (Jl wi own ix g tc te):=PB hc hi ck hkind hcap (λ_ _ _ _ _=>hg) (λ_ _ _ _ _=>ht) (λ_ _ _ _ _=>he) hs
theorem Cu{i:Nat}{y:be}{py spos:eJ}(hN:X.N.Nodup)(hiN:X.N[i]? =some y)(hx:Loc X.env.scope y)(hc:X.calm=true)(hi:PI X tg iter wi)(ck:bf X.env.scope scope=true)(hkind:scope.kind=.function)(hcap:iR X scope caps ix)(hg:∀s H cl C ex,PG (cg X scope (own++caps) s H cl C ex) tg g)(ht:∀s H cl C ex,Xb (cg X scope (own++caps) s H cl C ex) ifs tc)(he:∀s H cl C ex,PE (cg X scope (own++caps) s H cl C ex) elt te)(hsw:gt (.ListComp elt [⟨tg,iter,ifs,0⟩] scope pos) (some (.Name y py)) spos.line X.env=pure true:=by rfl)(hf:X.fn y=true\/X.env.scope.names.lookup y=some .local:=by first |exact .inl rfl|exact .inr rfl|assumption)(hs:∀x,eL iter X.env x=pure x:=by intro _;rfl):PS X (.Assign [.Name y py] (.ListComp elt [⟨tg,iter,ifs,0⟩] scope pos) spos) (Bi (Jl wi own ix g tc te) (sL i)):=by
 intro aa s σ H Dn I h;rw[exec_Assign_Name_used _ _ _ _ hsw];refine ao (JP (ao ?_));show ai _ X.A (do let _<-comprehension (.ListComp elt [⟨tg,iter,ifs,0⟩] scope pos) scope X.env _ (newList []) false (bQ iter X.env) (some (jI (.Name y py) X.env))) _ _ s;refine ao (Jd (lS (use:=some (jI (.Name y py) X.env)) (Q:=λ_ s'=>SP X aa Dn .next s') rfl hs (p8 λx hx=>I.ok.has x ((bf.free ck hx).2)) hkind (bf.names ck)
  (pw (hi aa s σ H _ I h) λxv s1 h1=>pw h1 λitv s2 h2=>?_)) (λ_ s' hq=>aM (aM hq)) λ_ _ e=>e)
 obtain⟨it,fp,tn,J,H2,e,I2,T,st2,f2,W,⟨m0,w0⟩,turn⟩:=h2;subst e;refine wH (RR:=λacc C=>compPost (ar X.prog X.w) X.A X.xe (some (jI (.Name y py) X.env)) (λ_ s'=>SP X aa Dn .next s') acc C) ck hkind hcap hc hg ht he I2 T st2 f2 w0 turn ?_;intro D C s' acc Hf m I' nD hn fC fin;obtain⟨f0,f1,f3,f4,f5,f6⟩:=fC;show ai _ X.A (jI (.Name y py) X.env (.ref D)) _ _ _;refine wpAny_assign_Name (wq I' hN hiN hx (show RelV (.ref D) (.ref D)from rfl) (λs'' I'' ⟨a,sb,ha⟩=>?_) hf);have hCa:C≠a:=by
  rcases ha with ha|ha
  ·rw[ha];exact f1
  ·exactλz=>f5 y a ha z.symm
 refine⟨m,hn.sameBut sb hCa,λh' sb'=>?_⟩;exact⟨_,_,I''.turned (t':=s''.toks) (it:=C) (λb o hb e=>(sb'.2 b hb).trans e) f0 f1 f4 f5 f6,fin D nD⟩
theorem pX{X:Cx}{tg iter elt:bp}{ifs:List bp}{scope:dQ}{pos:eJ}{wi:TI}{g:TG}{tc:TT}{te:TE}{y:be}{py spos:eJ}(i:Nat)(own caps:List be)(ix:List Nat)(hi:PI X tg iter wi)(hg:∀{s H cl C ex},PG (cg X scope (own++caps) s H cl C ex) tg g)(ht:∀{s H cl C ex},Xb (cg X scope (own++caps) s H cl C ex) ifs tc)(he:∀{s H cl C ex},PE (cg X scope (own++caps) s H cl C ex) elt te)(hcap:iR X scope caps ix:=by repeat(first |exact iR.nil|refine iR.cons rfl rfl ?_))(hc:X.calm=true:=by rfl)(ck:bf X.env.scope scope=true:=by rfl)(hkind:scope.kind=.function:=by rfl)(hN:decide X.N.Nodup=true:=by kernel_rfl)(hi_:X.N[i]? =some y:=by rfl)(hx:Loc X.env.scope y:=by first |exact ii rfl|exact kc rfl)(hsw:gt (.ListComp elt [⟨tg,iter,ifs,0⟩] scope pos) (some (.Name y py)) spos.line X.env=pure true:=by rfl)(hf:X.fn y=true\/X.env.scope.names.lookup y=some .local:=by first |exact .inl rfl|exact .inr rfl|assumption)(hs:∀x,eL iter X.env x=pure x:=by intro _;rfl):PS X (.Assign [.Name y py] (.ListComp elt [⟨tg,iter,ifs,0⟩] scope pos) spos) (Bi (Jl wi own ix g tc te) (sL i)):=Cu (lA hN) hi_ hx hc hi ck hkind hcap (λ_ _ _ _ _=>hg) (λ_ _ _ _ _=>ht) (λ_ _ _ _ _=>he) hsw hf hs
end
end L2
namespace uW
open PySem PySem.W PyProof.Rows PySem.Calls
section
variable{prog:υ}{w:ψ}{A:bt}{E:S0}{s:τ}{O:jS}{key:Nat->O.α}{κ:j0}{vs:List ρ}
theorem Ei{Q:List ρ->τ->Prop}(ht:s.heap.IsTuple t vs.toArray)(h:Q vs {s with heap:=(s.heap.push (b9 "list" #[] 0)).update s.heap.objs.size (ay (· ++vs.toArray))})(hz:vs.length<=sizeLine):
  ai (ar prog w) A (collect (.ref t)) Q E s:=by
 obtain⟨o,ho,hc,n,hd⟩:=id ht;unfold collect;refine ao (JS (MN entry_proto_collect' ?_));show ai _ _ (do again (.builtin "list.__iadd__" ⟨[<-newList [],.ref t],[]⟩)) _ _ s;refine ao (FV (aM ⟨Nl _ (by decide+kernel),MN entry_list_iadd' ?_⟩));show ai _ _ (eC (.ref s.heap.objs.size) (.ref t) (.ref s.heap.objs.size)) _ _ {s with heap:=s.heap.push (b9 "list" #[] 0)};unfold eC;have h1:(s.heap.push (b9 "list" #[] 0)).get? t=some o:=cR _ ho;have h2:(cx "tuple"==cx "tuple")=true:=by rfl
 refine ao (FO (T:="tuple") ⟨o,h1,hc⟩ ?_);rw[au (by rw[h2];simp)];refine ao (oB h1 hd (ao (oB (xs:=#[]) (n:=0) (iQ _ rfl) rfl ?_)));rw[aq (by simp)];refine ao (JE (xs:=#[]) (n:=0) (iQ _ rfl) rfl (aM ?_) (dX _) (by show(#[]++vs.toArray).size<=sizeLine+1;simp only[nz,gM,SJ];omega));show ai (ar prog w) A (load s.heap.objs.size>>=_) Q E {s with heap:=(s.heap.push (b9 "list" #[] 0)).update s.heap.objs.size (ay (· ++vs.toArray))};refine ao (wpAny_load (Xx (iQ _ rfl) _) ?_);show ai _ _ (pure ((#[]:Array ρ)++vs.toArray).toList) Q E _;have e:((#[]:Array ρ)++vs.toArray).toList=vs:=by simp
 rw[e];exact aM h
theorem Gj{Q:S0}(hl:s.heap.IsTuple l vs.toArray)(h64:vs.length<64)(hkind:2<=vs.length->∀h',(∀b o,s.heap.get? b=some o->h'.get? b=some o)->∀(E:S0) (Q:j0->τ->Prop),Q κ {s with heap:=h'}->ai (ar prog w) A.in1.in1 (keyKind' vs.toArray) Q E {s with heap:=h'})(QK:2<=vs.length->∀h',(∀b o,s.heap.get? b=some o->h'.get? b=some o)->lE O key vs.length (kas_ask prog w A.in1.in1 κ vs) {s with heap:=h'})(h:∀D h' out c,Mv key vs out->s.heap.objs.size<=D->(∀b o,s.heap.get? b=some o->h'.get? b=some o)->h'.get? D=some (b9 "list" (bg out) c)->Q (.ref D) {s with heap:=h'}):
  ai (ar prog w) A (call (.builtin "sorted") [.ref l]) Q E s:=by
 refine NN kind_sorted plain_sorted entry_sorted (args_sorted1 _) ?_;unfold Builtin.«sorted»;refine ao (m:=checkCount "sorted" 1 1 _) (aM (ao (Ei hl (ao (FV ?_ (by rw[gF];omega))) (by rw[gF];omega))));have hsz:((s.heap.push (b9 "list" #[] 0)).update s.heap.objs.size (ay (· ++vs.toArray))).objs.size=s.heap.objs.size+1:=by
  rw[Heap.size_update,size_push']
 have hoL:(((s.heap.push (b9 "list" #[] 0)).update s.heap.objs.size (ay (· ++vs.toArray))).push (b9 "list" vs.toArray 0)).get? (s.heap.objs.size+1)=some (b9 "list" vs.toArray 0):=by
  rw[<-hsz];exact iQ _ rfl
 have keep:∀b o,s.heap.get? b=some o->(((s.heap.push (b9 "list" #[] 0)).update s.heap.objs.size (ay (· ++vs.toArray))).push (b9 "list" vs.toArray 0)).get? b=some o:=λb o q=>by
  have hlt:b<s.heap.objs.size:=dJ q;rw[KO _ _ _ (by rw[hsz];exact fu (tU hlt)),Heap.get?_update_ne _ _ _ _ (fu hlt),KO _ _ _ (fu hlt)];exact q
 have ne:∀b o,s.heap.get? b=some o->b≠s.heap.objs.size+1:=λb o q=>fu (tU (dJ q));show ai _ _ _ _ _ {s with heap:=((s.heap.push (b9 "list" #[] 0)).update s.heap.objs.size (ay (· ++vs.toArray))).push (b9 "list" vs.toArray 0)};rw[hsz];refine ao (yX (MP slot_list_sort ⟨_,hoL,rfl⟩ entry_list_sort ?body (args_list_sort _)))
 case body=>
  refine oK (key:=key) (κ:=κ) (s:={s with heap:=((s.heap.push (b9 "list" #[] 0)).update s.heap.objs.size (ay (· ++vs.toArray))).push (b9 "list" vs.toArray 0)}) hoL h64
   (λh2 h' k Q hq=>hkind h2 h' (λb o q=>k b o (ne b o q) (keep b o q)) _ Q hq) (λh2 h' k=>QK h2 h' λb o q=>k b o (ne b o q) (keep b o q)) λh' out c ho k hc=>?_
  exact⟨_,rfl,aM ⟨_,rfl,h _ h' out c ho (Bx _) (λb o q=>k b o (ne b o q) (keep b o q)) hc⟩⟩
end
end uW
namespace L2
open PySem PySem.Spec PyProof.Rows
section
variable{X:Cx}
theorem tV:∀{xs:ζ}{us:List ρ},iN (xs.map V.int) us->ce (λ(i:Int) (v:ρ)=>∃t,v=.int i t) xs us
 |[],_,h=>by cases h;exact .nil
 |_::_,_,h=>by
  cases h with
  |cons r t=>exact .cons r (tV t)
theorem uf:∀{xs:ζ}{us:List ρ},ce (λ(i:Int) (v:ρ)=>∃t,v=.int i t) xs us->iN (xs.map V.int) us
 |_,_,.nil=>.nil
 |_,_,.cons r t=>.cons r (uf t)
theorem JT(h:ce (λ(i:Int) (v:ρ)=>∃t,v=.int i t) xs us):∀i (hi:i<xs.length),∃t,us.getD i ba=.int xs[i] t:=by
 induction h with
 |nil=>intro i hi;simp at hi
 |cons r t ih=>
  intro i hi;cases i with
  |zero=>exact r
  |succ i=>simpa using ih i (by simpa using hi)
theorem Bb:qV X (.builtin "sorted") (λvs H Q=>∃(b:Bool) (a:ag) (xs:ζ),vs=[.ref a]/\Kc X.K b H a (xs.map V.int)/\xs.length<64/\
  ∀(l:ag) (ys:ζ),H l=none->ys.Perm xs->ys.Pairwise (· <= ·)->Q (.ref l) (upd H l (.lst (ys.map V.int)))):=by
 intro aa s σ H xs us Q I r h;obtain⟨b,a,ns,rfl,hS,h64,q⟩:=h;obtain⟨u,rfl,ru⟩:=r.one;cases ru;have main:∀vs:List ρ,iN (ns.map V.int) vs->(b=false/\s.heap.IsList a vs.toArray\/b=true/\s.heap.IsTuple a vs.toArray)->ai (ar X.prog X.w) X.A (call (.builtin "sorted") [.ref a]) (EP X aa σ Q) X.xe s:=by
  intro vs rv hb;have ac:ns.length=vs.length:=by have:=rv.length;simpa using this
  have pr:=tV rv;have hi:bP vs ns:=Xe rv;have p1:2<=vs.length->∀h',(∀b o,s.heap.get? b=some o->h'.get? b=some o)->∀(E:S0) (Q:j0->τ->Prop),Q oneType' {s with heap:=h'}->ai (ar X.prog X.w) X.A.in1.in1 (keyKind' vs.toArray) Q E {s with heap:=h'}:=λh2 h' k E' Q' hq=>by
   rw[ksk_kind (kz:=ns) (by simpa using hi) (by simpa using h2)];exact aM hq
  have p2:2<=vs.length->∀h',(∀b o,s.heap.get? b=some o->h'.get? b=some o)->uW.lE uW.Ai (λi=>ns.getD i 0) vs.length (W.kas_ask X.prog X.w X.A.in1.in1 oneType' vs) {s with heap:=h'}:=λh2 h' k=>by
   intro i j C hi hj hC;rw[<-ac]at hi hj;unfold W.kas_ask;obtain⟨t1,e1⟩:=JT pr i hi;obtain⟨t2,e2⟩:=JT pr j hj;rw[e1,e2];apply W.kat_lt_int;have hC':C (decide (ns.getD i 0<ns.getD j 0)) {s with heap:=h'}:=hC;have e3:ns.getD i 0=ns[i]:=by simp[hi]
   have e4:ns.getD j 0=ns[j]:=by simp[hj]
   rw[e3,e4]at hC';exact hC'
  have p3:∀D h' out c,uW.Mv (O:=uW.Ai) (λi=>ns.getD i 0) vs out->s.heap.objs.size<=D->(∀b o,s.heap.get? b=some o->h'.get? b=some o)->h'.get? D=some (b9 "list" (bg out) c)->EP X aa σ Q (.ref D) {s with heap:=h'}:=λD h' out c ho hD k hc=>by
   obtain⟨ys,hp,hr,hw⟩:=uW.JC (d:=(0:Int)) (f:=λp=>p) pr (λi hi=>by show ns.getD i 0=_;simp[hi]) ho;have zl:(ys.map V.int).length<=sizeLine:=by
    have:=hp.length_eq;rw[aD];exact dW (wv (by omega))
   have J:Inv X aa σ (upd H D (.lst (ys.map V.int))) {s with heap:=h',toks:=s.toks}:=I.laid k hD ⟨zl,out,c,uf hr,hc⟩;refine⟨.ref D,_,J,rfl,q D ys (I.hok.fresh hD) hp (hw.imp λ{x y} hxy=>?_)⟩;have:decide (y<x)=false:=hxy;have:=E1 this;omega
  rcases hb with⟨_,hb⟩|⟨_,hb⟩
  ·exact uW.vK (O:=uW.Ai) (key:=λi=>ns.getD i 0) (κ:=oneType') hb (by omega) p1 p2 p3
  ·exact uW.Gj (O:=uW.Ai) (key:=λi=>ns.getD i 0) (κ:=oneType') hb (by omega) p1 p2 p3
 cases b with
 |false=>
  obtain⟨vs,rv,pl,hz⟩:=I.list (show ja X.K H a (ns.map V.int)from hS);exact main vs rv (.inl ⟨rfl,pl.isList⟩)
 |true=>
  obtain⟨vs,rv,pl,hz⟩:=I.tuple (show SqT X.K H a (ns.map V.int)from hS);exact main vs rv (.inr ⟨rfl,pl⟩)
end
end L2
namespace L2
open PySem PySem.W PySem.Spec PyProof.Rows
section
variable{X:Cx}
theorem Bc:qV X (.builtin "sorted") (λxs H Q=>∃(a:ag) (ae:List (ag×ζ)),xs=[.ref a]/\ja X.K H a (ae.map λp=>V.ref p.1)/\(∀p∈ae,SqT X.K H p.1 (p.2.map V.int)/\(2<=ae.length->p.2≠[]))/\ae.length<64/\
  ∀(l:ag) (its':List (ag×ζ)),H l=none->its'.Perm ae->its'.Pairwise (λp q=>HT.lexLt q.2 p.2=false)->Q (.ref l) (upd H l (.lst (its'.map λp=>V.ref p.1)))):=by
 intro aa s σ H xs us Q I r h;obtain⟨a,ae,rfl,hS,hT,h64,q⟩:=h;obtain⟨u,rfl,ru⟩:=r.one;cases ru;obtain⟨vs,rv,pl,hz⟩:=I.list hS;have ac:ae.length=vs.length:=by have:=rv.length;simpa using this
 have pr:ce (λ(p:ag×ζ) (v:ρ)=>v=.ref p.1) ae vs:=by
  have go:∀(l:List (ag×ζ)) (us:List ρ),iN (l.map λp=>V.ref p.1) us->ce (λ(p:ag×ζ) (v:ρ)=>v=.ref p.1) l us:=by
   intro l
   induction l with
   |nil=>intro us h;cases h;exact .nil
   |cons p l ih=>
    intro us h;cases h with
    |cons r t=>exact .cons r (ih _ t)
  exact go ae vs rv
 have tup:∀p∈ae,∃(items:List ρ),bP items p.2/\kD s.heap p.1 items.toArray:=λp hp=>by
  obtain⟨its',r',t',_⟩:=I.tuple (hT p hp).1;exact⟨its',Xe r',t'⟩
 refine uW.vK (O:=uW.lexOrd) (key:=λi=>(ae.getD i (0,[])).2) (κ:=tuples' true) (s:=s) pl.isList (by omega) (λh2 h' k E' Q' hq=>?_) (λh2 h' k=>?_) (λD h' out c ho hD k hc=>?_)
 ·have kt:∀(l:List (ag×ζ)) (us:List ρ),ce (λ(p:ag×ζ) (v:ρ)=>v=.ref p.1) l us->(∀p∈l,p∈ae)->∃fs:List ρ,KatTups h' us fs/\fs.length=us.length/\∀v∈fs,∃i t,v=bI i t:=by
   intro l us h
   induction h with
   |nil=>intro _;exact⟨[],trivial,rfl,λ_ hv=>nomatch hv⟩
   | @cons p v l us r t ih=>
    intro hs;obtain⟨fs,k1,k2,k3⟩:=ih λp hp=>hs p (fB _ hp);obtain⟨items,hi,o,e,hc,n,hd⟩:=tup p (hs p dZ);have hne:=(hT p (hs p dZ)).2 (by omega);obtain⟨pa,pn⟩:=p;dsimp only at hi hne e r;cases hi with
    |nil=>exact absurd rfl hne
    |cons i t hi'=>
     rw[r];refine⟨bI i t::fs,KatTups.cons (k _ _ e) hc hd (by simp) k1,by simp[k2],λv hv=>?_⟩;rcases cZ.mp hv with e|e
     ·exact⟨i,t,e⟩
     ·exact k3 v e
  obtain⟨fs,k1,k2,k3⟩:=kt ae vs pr λ_ hp=>hp;refine kat_kind (s:={s with heap:=h'}) (T:=.type "int") k1 (by omega) (λv hv=>?_) (by rfl) hq;obtain⟨i,t,rfl⟩:=k3 v hv;exactλA Q E s _ q=>aM q
 ·intro i j C hi hj hC;rw[<-ac]at hi hj;have get:∀i (hi:i<ae.length),vs.getD i ba=.ref ae[i].1:=by
   have go:∀(l:List (ag×ζ)) (us:List ρ),ce (λ(p:ag×ζ) (v:ρ)=>v=.ref p.1) l us->∀i (hi:i<l.length),us.getD i ba=.ref l[i].1:=by
    intro l us h
    induction h with
    |nil=>intro i hi;simp at hi
    |cons r t ih=>
     intro i hi;cases i with
     |zero=>exact r
     |succ i=>simpa using ih i (by simpa using hi)
   exact go ae vs pr
  unfold kas_ask;rw[get i hi,get j hj];obtain⟨xi,hxi,oi,ei,ci,ni,di⟩:=tup ae[i] (yS _);obtain⟨xj,hxj,oj,ej,cj,nj,dj⟩:=tup ae[j] (yS _);refine kat_lt (s:={s with heap:=h'}) (k _ _ ei) di (k _ _ ej) dj ?_;refine uW.Qz 0 hxi hxj ?_ ?_
  ·have:=hxi.length;have:=hxj.length;simp only[gM];omega
  ·rw[HT.fK];have e1:ae.getD i (0,[])=ae[i]:=by simp[hi]
   have e2:ae.getD j (0,[])=ae[j]:=by simp[hj]
   have hC':C (decide ((ae.getD i (0,[])).2<(ae.getD j (0,[])).2)) {s with heap:=h'}:=hC;rw[e1,e2]at hC';exact hC'
 ·obtain⟨its',hp,hr,hw⟩:=uW.JC (d:=((0,[]):ag×ζ)) (f:=λp=>p.2) pr (λi hi=>by show(ae.getD i (0,[])).2=_;simp[hi]) ho;have hn:H D=none:=I.hok.fresh hD;have rv':iN (its'.map λp=>V.ref p.1) out:=by
   have go:∀(l:List (ag×ζ)) (us:List ρ),ce (λ(p:ag×ζ) (v:ρ)=>v=.ref p.1) l us->iN (l.map λp=>V.ref p.1) us:=by
    intro l us h
    induction h with
    |nil=>exact .nil
    |cons r t ih=>exact .cons r ih
   exact go its' out hr
  have zl:(its'.map λp=>V.ref p.1).length<=sizeLine:=by
   have:=hp.length_eq;rw[aD];exact dW (wv (by omega))
  have J:Inv X aa σ (upd H D (.lst (its'.map λp=>V.ref p.1))) {s with heap:=h',toks:=s.toks}:=I.laid k hD ⟨zl,out,c,rv',hc⟩;refine⟨.ref D,_,J,rfl,q D its' hn hp (hw.imp λ{x y} hxy=>?_)⟩;rw[HT.fK];exact hxy
theorem K9(K:af){a:bp}{ta:TE}(ha:PE X a ta)(he:∀whole,nV a X.env whole=(do let v<-whole;iS a.pos;eu [v] (truthy v)))(h:X.K=K:=by rfl):
  PT X a (λσ H Q=>ta σ H λx H'=>∃k,ED K x H' k/\Q k H'):=by subst h;exact sR ha he
end
end L2
namespace L2
open PySem PySem.Spec PyProof.Rows
mutual
def Rl:Nat->bp->Option bX
 |0,_=>none
 |n+1,e=>match e with
  | .Constant (.int i) _ _=>some (.int i)
  | .Constant (.bool b) _ _=>some (.bool b)
  | .Constant .none _ _=>some .none
  | .Constant (.str x) _ _=>some (.str x)
  | .UnaryOp .USub (.Constant (.int i) _ _) _=>some (.int (-i))
  | .Tuple es _ _=>(Qx n es).map .tuple
  | .List es _=>(Qx n es).map .list
  | .Dict [] [] _=>some (.dict [])
  |_=>none
def Qx:Nat->List bp->Option θ
 |0,_=>none
 |_+1,[]=>some []
 |n+1,e::es=>match Rl n e,Qx n es with
  |some d,some ds=>some (d::ds)
  |_,_=>none
end
section
variable{κ:Type} [DecidableEq κ]
noncomputable def tz(kvs:List (κ×V))(k:κ):Option V:=(kvs.find? λkv=>decide (kv.1=k)).map (·.2)
noncomputable def ub(kvs:List (κ×V))(k:κ)(v:V):List (κ×V):=
 if(kvs.any λkv=>decide (kv.1=k))=true then kvs.map (λkv=>if kv.1=k then(kv.1,v)else kv)else kvs++[(k,v)]
theorem tT{k:κ}(e:p.1=k):tz (p::r) k=some p.2:=by simp[tz,EL,e]
theorem ua{k:κ}(e:¬p.1=k):tz (p::r) k=tz r k:=by simp[tz,EL,e]
theorem vk(k):∀kvs:List (κ×V),(kvs.any λkv=>decide (kv.1=k))=(tz kvs k).isSome
 |[]=>rfl
 |p::r=>by
  rw[V8];by_cases e:p.1=k
  ·simp only[tT e,cI e,IY,lc]
  ·rw[ua e,gY e,JA];exact vk k r
theorem uS(kvs)(k:κ)(v):(ub kvs k v).length<=kvs.length+1:=by
 unfold ub;split
 ·rw[aD];omega
 ·rw[lN,uL,SJ];omega
theorem BA{k:κ}(v)(h:tz kvs k=none):ub kvs k v=kvs++[(k,v)]:=by
 unfold ub;rw[vk,h];exact aq (by decide)
theorem tI.isSome_eq(r:tI o u):o.isSome=u.isSome:=by
 cases o with
 |none=>cases u with
  |none=>rfl
  |some _=>exact(show False from r).elim
 |some _=>cases u with
  |none=>exact(show False from r).elim
  |some _=>rfl
theorem KV.val(r:KV kvs vs)(k:κ):tI (tz kvs k) (j2 vs k):=by
 unfold KV at r
 induction r with
 |nil=>exact fq
 | @cons p q ps qs h t ih=>
  obtain⟨h1,h2⟩:=h;by_cases e:p.1=k
  ·have e':q.1=k:=h1.symm.trans e;have b:j2 (q::qs) k=some q.2:=by simp[j2,EL,e']
   rw[tT e,b];exact h2
  ·have e':¬q.1=k:=λz=>e (h1.trans z);have b:j2 (q::qs) k=j2 qs k:=by simp[j2,EL,e']
   rw[ua e,b];exact ih
theorem KV.any(r:KV kvs vs)(k:κ):(kvs.any λkv=>decide (kv.1=k))=vs.any λkv=>decide (kv.1=k):=by
 unfold KV at r
 induction r with
 |nil=>rfl
 |cons h t ih=>rw[V8,V8,ih,h.1]
theorem KV.repl(r:KV kvs vs)(k:κ)(ry:RelV y u):
  KV (kvs.map λkv=>if kv.1=k then(kv.1,y)else kv) (vs.map λkv=>if kv.1=k then(kv.1,u)else kv):=by
 unfold KV at r⊢
 induction r with
 |nil=>exact .nil
 | @cons p q ps qs h t ih=>
  rw[yR,yR];refine .cons ?_ ih;obtain⟨h1,h2⟩:=h;by_cases e:p.1=k
  ·rw[au e,au (h1.symm.trans e)];exact⟨h1,ry⟩
  ·rw[aq e,aq (λz=>e (h1.trans z))];exact⟨h1,h2⟩
theorem KV.put(r:KV kvs vs)(k:κ)(ry:RelV y u):KV (ub kvs k y) (stored vs k u):=by
 unfold ub stored;rw[r.any k];by_cases e:(vs.any λkv=>decide (kv.1=k))=true
 ·rw[au e,au e];exact r.repl k ry
 ·rw[aq e,aq e];exact Paired.snoc r ⟨rfl,ry⟩
theorem KV.length{kvs:List (κ×V)}(r:KV kvs vs):kvs.length=vs.length:=EW r
end
theorem BO(r:RelV (kV k) u):(qh P w).is k u=true:=by
 cases k with
 |inl i=>obtain⟨t,e⟩:=(show∃t,u=bI i t from r);subst e;exact xI P w i t
 |inr x=>obtain⟨t,e⟩:=(show∃t,u=ka x t from r);subst e;exact xF P w x t
theorem wy:∀{ks:List tJ}{us:List ρ},iN (ks.map kV) us->ItemsAre (qh P w) ks us
 |[],_,r=>by rw[EK]at r;cases r;exact .nil
 |k::ks,_,r=>by
  rw[yR]at r;cases r with
  |cons h t=>exact .cons (BO h) (wy t)
noncomputable abbrev KT(H:Hp):List (List tJ×V)->List (List tJ×ag×ρ)->Prop:=ce λp q=>p.1=q.1/\H q.2.1=some (.tup (p.1.map kV))/\RelV p.2 q.2.2
theorem KT.val(r:KT H kvs xs)(k):tI (tz kvs k) ((kS xs k).map (·.2)):=by
 induction r with
 |nil=>exact fq
 | @cons p q ps qs h t ih=>
  obtain⟨h1,_,h2⟩:=h;by_cases e:p.1=k
  ·have e':q.1=k:=h1.symm.trans e;have b:kS (q::qs) k=some q.2:=by simp[kS,EL,e']
   rw[tT e,b];exact h2
  ·have e':¬q.1=k:=λz=>e (h1.trans z);have b:kS (q::qs) k=kS qs k:=by simp[kS,EL,e']
   rw[ua e,b];exact ih
theorem KT.repl(r:KT H kvs xs)(k)(ry:RelV y u):
  KT H (kvs.map λkv=>if kv.1=k then(kv.1,y)else kv) (xs.map (putAt k u)):=by
 induction r with
 |nil=>exact .nil
 | @cons p q ps qs h t ih=>
  rw[yR,yR];refine .cons ?_ ih;obtain⟨h1,h2,h3⟩:=h;unfold putAt;by_cases e:p.1=k
  ·rw[au e,au (h1.symm.trans e)];exact⟨h1,h2,ry⟩
  ·rw[aq e,aq (λz=>e (h1.trans z))];exact⟨h1,h2,h3⟩
theorem KT.put(r:KT H kvs xs)(k)(hb:H b=some (.tup (k.map kV)))(ry:RelV y u):
  KT H (ub kvs k y) (storedH xs k b u):=by
 have e:(kvs.any λkv=>decide (kv.1=k))=(kS xs k).isSome:=by
  rw[vk,(r.val k).isSome_eq,Option.isSome_map]
 unfold ub storedH;rw[e];by_cases q:(kS xs k).isSome=true
 ·rw[au q,au q];exact r.repl k ry
 ·rw[aq q,aq q];exact Paired.snoc r ⟨rfl,hb,ry⟩
theorem KT.keeps(r:KT H kvs xs)(ht:∀b ys,H b=some (.tup ys)->H' b=some (.tup ys)):KT H' kvs xs:=
 Paired.mapP r λ_ _ z=>⟨z.1,ht _ _ z.2.1,z.2.2⟩
section
variable{P:υ}{w:ψ}{H:Hp}{h:bn}{a:ag}
theorem C3(ok:tx P w H h)(e:Rd H a u):qr P w H h a u:=e.ok ok
theorem B2(ok:tx P w H h)(e:Rd H a (.dK kvs)):kvs.length<=sizeLine/\(a==de)=false/\∃vs,KV kvs vs/\h.DictOf (qh P w) a vs:=
 show qr P w H h a (.dK kvs)from C3 ok e
theorem HR(ok:tx P w H h)(e:H a=some (.dK kvs)):kvs.length<=sizeLine/\(a==de)=false/\∃vs,KV kvs vs/\h.DictOf (qh P w) a vs:=B2 ok (.inl e)
theorem y9(ok:tx P w H h)(e:H a=some (.tup (ks.map kV))):(ie (qh P w)).is h ks a:=by
 obtain⟨_,ae,r,o,h1,h2,n,h3⟩:=(show qr P w H h a (.tup (ks.map kV))from ok a _ e);exact⟨o,ae.toArray,n,h1,h2,h3,by simpa using wy r⟩
theorem B0(ok:tx P w H h)(e:Rd H a (.dT kvs)):kvs.length<=sizeLine/\(a==de)=false/\
  ∃xs,KT H kvs xs/\h.DictOfH (ie (qh P w)) a xs:=by
 obtain⟨z,y,xs,r,o,es,ep,h1,h2,h3,h4,h5⟩:=(show qr P w H h a (.dT kvs)from C3 ok e);refine⟨z,y,xs,r,o,es,ep,h1,h2,h3,h4,λx hx=>?_,h5⟩;have all:∀{l:List (List tJ×V)}{m:List (List tJ×ag×ρ)},KT H l m->∀x∈m,(ie (qh P w)).is h x.1 x.2.1:=by
  intro l m q
  induction q with
  |nil=>intro x hx;exact nomatch hx
  | @cons p q ps qs hq t ih=>
   intro x hx;rcases cZ.mp hx with e|hx
   ·subst e;exact y9 ok (by rw[<-hq.1];exact hq.2.1)
   ·exact ih x hx
 exact all r x hx
theorem HQ(ok:tx P w H h)(e:H a=some (.dT kvs)):kvs.length<=sizeLine/\(a==de)=false/\
  ∃xs,KT H kvs xs/\h.DictOfH (ie (qh P w)) a xs:=B0 ok (.inl e)
end
noncomputable def wf(H:Hp)(a:ag)(y:V)(r:Option V):Prop:=
 (∃kvs k,Rd H a (.dK kvs)/\y=kV k/\r=tz kvs k)\/∃kvs k b,Rd H a (.dT kvs)/\y=.ref b/\H b=some (.tup (k.map kV))/\r=tz kvs k
noncomputable def B6(H:Hp)(a:ag)(y v:V)(H':Hp):Prop:=
 (∃kvs k,H a=some (.dK kvs)/\y=kV k/\kvs.length<sizeLine/\H'=upd H a (.dK (ub kvs k v)))\/
 ∃kvs k b,H a=some (.dT kvs)/\y=.ref b/\H b=some (.tup (k.map kV))/\kvs.length<sizeLine/\H'=upd H a (.dT (ub kvs k v))
theorem wf.t{k:List tJ}(e:H a=some (.dT kvs))(eb:H b=some (.tup (k.map kV))):wf H a (.ref b) (tz kvs k):=.inr ⟨kvs,k,b,.inl e,rfl,eb,rfl⟩
theorem B6.t{k:List tJ}(e:H a=some (.dT kvs))(eb:H b=some (.tup (k.map kV)))(hl:kvs.length<sizeLine):
  B6 H a (.ref b) v (upd H a (.dT (ub kvs k v))):=.inr ⟨kvs,k,b,e,rfl,eb,hl,rfl⟩
section
variable{X:Cx}{aa:O0}{σ:St}{H:Hp}{s:τ}{a:ag}{y v:V}{u r:ρ}{o:Option V}{A:bt}{E:S0}
theorem Inv.big(I:Inv X aa σ H s):de<s.heap.objs.size:=by
 have h:av<s.heap.objs.size:=(I.mod.glob.keeps I.bk).lt;exact Nr (by decide) h
theorem AX{Q:S0}(hu:A.units+1<gf)(I:Inv X aa σ H s)(g:wf H a y (some v))(ry:RelV y u)(h:∀w' s',Inv X aa σ H s'->RelV v w'->Q w' s'):
  ai (ar X.prog X.w) A (gh (.ref a) u) Q E s:=by
 rcases g with⟨kvs,k,e,ey,l⟩|⟨kvs,k,b,e,ey,eb,l⟩
 ·subst ey;obtain⟨z,hd,vs,rel,dd⟩:=B2 I.hok e;obtain⟨w',hw,rw'⟩:=tI.some_of (v:=v) (o:=j2 vs k) (by rw[l];exact rel.val k);exact wpAny_getItem_of (BO ry) dd.mapOf hw (h w' _ (I.tok _) rw')
 ·subst ey;cases(show u=aI b from ry);obtain⟨z,hd,xs,rel,dd⟩:=B0 I.hok e;obtain⟨w',hw,rw'⟩:=tI.some_of (v:=v) (o:=(kS xs k).map (·.2)) (by rw[l];exact rel.val k);obtain⟨p,hp,hp2⟩:=Option.map_eq_some_iff.mp hw;refine wpAny_getItem_heap (tupleKind_room_in1 hu) (y9 I.hok eb) dd hp ?_;rw[hp2];exact h w' _ (I.tok _) rw'
theorem AB(I:Inv X aa σ H s)(mu:Ix (H a))(hs:bc a s.heap h')(he:∃q,h'.get? a=some q)(new:qr X.prog X.w (upd H a ob) h' a ob):
  Inv X aa σ (upd H a ob) {s with heap:=h',toks:=t'}:=
 I.write (x:=a) (e:=a) mu (.inl rfl) (λb q hb z=>(hs.2 b hb).trans z) he new
theorem Ev(z:kvs.length<=sizeLine)(hd:(a==de)=false)(rel:KV kvs vs)(dd:h'.DictOf (qh P w) a vs):
  qr P w H' h' a (.dK kvs):=⟨z,hd,vs,rel,dd⟩
theorem AW{Q:Unit->τ->Prop}(hu:A.units+1<gf)(I:Inv X aa σ H s)(g:B6 H a y v H')(ry:RelV y u)(rv:RelV v r)(h:∀s',Inv X aa σ H' s'->Q () s'):
  ai (ar X.prog X.w) A (setItem (.ref a) u r) Q E s:=by
 rcases g with⟨kvs,k,e,ey,l,eH⟩|⟨kvs,k,b,e,ey,eb,l,eH⟩
 ·subst ey eH;obtain⟨z,hd,vs,rel,dd⟩:=HR I.hok e;have hz:vs.length<=sizeLine:=by rw[<-rel.length];exact z
  have hl:(ub kvs k v).length<=sizeLine:=by have:=uS kvs k v;omega
  refine wpAny_setItem_pairs (hsz:=hz) (BO ry) dd λh' dd' hs=>h _ ?_;have he:∃q,h'.get? a=some q:=let⟨q,_,_,hq,_⟩:=dd';⟨q,hq⟩;exact AB I (by rw[e];exact fq) hs he (Ev hl hd (rel.put k rv) dd')
 ·subst ey eH;cases(show u=aI b from ry);obtain⟨z,hd,xs,rel,dd⟩:=HQ I.hok e;have hz:xs.length<=sizeLine:=by rw[<-EW rel];exact z
  have hl:(ub kvs k v).length<=sizeLine:=by have:=uS kvs k v;omega
  refine wpAny_setItem_heap (hsz:=hz) (tupleKind_room_in1 hu) (y9 I.hok eb) dd λh' dd' hs=>h _ ?_;obtain⟨q,es,ep,hq,h2,h3,h4,_,h5⟩:=dd';refine AB I (by rw[e];exact fq) hs ⟨q,hq⟩ ⟨hl,hd,_,(rel.put k eb rv).keeps λc ys ec=>?_,q,es,ep,hq,h2,h3,h4,h5⟩;rw[cF (rX ec e (λz=>nomatch z))];exact ec
end
noncomputable def Iq(i:bp):Prop:=∀ov iv,ke i false ov iv=operate [ov,iv] (gh ov iv)
theorem Cb{E:S0}{T id:String}{Q:S0}(hl:typeLookup (.type T) "__getitem__"=pure (some (.builtin id)))(hs:Iq slice)(h:ai (ar prog w) A (bQ value env) (λo s₁=>ai (ar prog w) A (bQ slice env) (λi s₂=>s₂.TypeIs o T/\ai (ar prog w) A (gh o i) Q E s₂) E s₁) E s):
  ai (ar prog w) A (bQ (.Subscript value slice pos) env) Q E s:=by
 refine Subscript_ (Jd h (λo s₁ h₁=>Jd h₁ (λi s₂ h₂=>?_) λ_ _ x=>x) λ_ _ x=>x);obtain⟨hT,h₂⟩:=h₂;unfold lz;apply ao;rw[getitemInPython_of_ne hT.not_modules];refine ao (wpAny_specialOf hT hl ?_);have fin:ai (ar prog w) A (ke slice false o i) (λr s₃=>ai (ar prog w) A (letTemporaryGo value o r>>=λ_=>pure r) Q E s₃) E s₂:=by
  rw[hs o i];exact wpAny_operating (Jd h₂ (λr s₃ h₃=>ao (wpAny_letTemporaryGo (aM h₃))) λ_ _ x=>x)
 first
  |exact aM (ao fin)
  |exact ao (aM (ao fin))
  |exact ao fin
theorem xS{σ:St}(I:Inv X aa σ H s)(g:wf H a y o):s.TypeIs (.ref a) "dict":=by
 rcases g with⟨kvs,k,e,_,_⟩|⟨kvs,k,b,e,_,_,_⟩
 ·obtain⟨_,_,vs,_,dd⟩:=B2 I.hok e;exact dd.typeIs
 ·obtain⟨_,_,xs,_,dd⟩:=B0 I.hok e;exact dd.typeIs
noncomputable def GS(td ty:TE):TE:=λσ H Q=>td σ H λx H1=>ty σ H1 λy H2=>∃a v,x=.ref a/\wf H2 a y (some v)/\Q v H2
noncomputable def GW(td ty tv:TE):TS:=λD σ H=>tv σ H λv H1=>td σ H1 λx H2=>ty σ H2 λy H3=>∃a H4,x=.ref a/\B6 H3 a y v H4/\D.nx σ H4
section
variable{X:Cx}{o i value:bp}{pos pos':eJ}{td ty tv:TE}
theorem ui(hu:X.A.units+1<gf)(ho:PE X o td)(hi:PE X i ty)(hs:Iq i):PE X (.Subscript o i pos) (GS td ty):=by
 intro aa s σ H Q I h;refine Cb PySem.F.slot_dict_getitem.lookup hs (pw (ho aa s σ H _ I h) λu s1 ⟨x,H1,I1,rx,q1⟩=>pw (hi aa s1 σ H1 _ I1 q1) λiv s2 ⟨y,H2,I2,ry,a,v,ex,g,q2⟩=>?_);subst ex;obtain rfl:u=aI a:=rx;exact⟨xS I2 g,AX hu I2 g ry λw' s3 I3 rw'=>⟨v,H2,I3,rw',q2⟩⟩
theorem Cs(hu:X.A.units+1<gf)(ho:PE X o td)(hi:PE X i ty)(hv:PE X value tv)(hs:gt value (some (.Subscript o i pos')) pos.line X.env=pure false):
  PS X (.Assign [.Subscript o i pos'] value pos) (GW td ty tv):=by
 intro aa s σ H D I h;refine wpAny_Assign_Subscript (pw (hv aa s σ H _ I h) λr s1 ⟨v,H1,I1,rv,q1⟩=>pw (ho aa s1 σ H1 _ I1 q1) λu s2 ⟨x,H2,I2,rx,q2⟩=>pw (hi aa s2 σ H2 _ I2 q2) λiv s3 ⟨y,H3,I3,ry,a,H4,ex,g,q3⟩=>?_) hs;subst ex;obtain rfl:u=aI a:=rx;exact AW hu I3 g ry rv λs4 I4=>⟨σ,H4,I4,q3⟩
end
theorem B1(h:bn)(hb:de<h.objs.size):qr P w H (h.push {cls:=.type "dict",data:=.dict #[]}) h.objs.size (.dT []):=
 ⟨dX _,beq_eq_false_iff_ne.mpr (oV (fu hb)),[],.nil,_,#[],0,iQ _ rfl,⟨rfl,rfl,rfl⟩,rfl,rfl,List.nodup_nil⟩
noncomputable def DC:TE:=λ_ H Q=>∀p,H p=none->Q (.ref p) (upd H p (.dT []))
section
variable{X:Cx}{pos:eJ}
theorem BD:PE X (.Dict [] [] pos) DC:=λaa s σ H Q I h=>
 wpAny_Dict_empty ⟨.ref s.heap.objs.size,_,I.laid (a:=s.heap.objs.size) (o:=.dT []) (t':=s.toks) (λ_ _ q=>cR _ q) (aP _) (B1 s.heap I.big),rfl,h _ (I.hok.fresh (aP _))⟩
end
section
variable{X:Cx}
theorem yI(hc:X.calm=true):qV X (.builtin "min") (λxs H Q=>∃(a:ag) (ns:ζ),xs=[.ref a]/\ja X.K H a (ns.map V.int)/\ns≠[]/\∀m∈ns,(∀n∈ns,m<=n)->Q (.int m) H):=by
 intro aa s σ H xs us Q I r h;obtain⟨a,ns,rfl,hS,hne,q⟩:=h;obtain⟨u,rfl,ru⟩:=r.one;cases ru;obtain⟨vs,rv,pl,hz⟩:=I.list hS;have hl:=pl.isList;have hlt:a<s.heap.objs.size:=by obtain⟨_,e,_⟩:=hl;exact dJ e
 have ac:=rv.length;rw[aD]at ac;have hI:∀(i:Nat) (v:ρ),vs.toArray[i]? =some v->∃t,v=.int (ns.getD i 0) t:=λi v hv=>by
  have hv':vs[i]? =some v:=by simpa using hv
  have hi:i<ns.length:=by have:=(oG.mp hv').1;omega
  have hn:(ns.map V.int)[i]? =some (.int (ns.getD i 0)):=by rw[dI,cU hi,dY,cU hi];rfl
  obtain⟨u,hu,ru⟩:=rv.get hn;rw[hv']at hu;cases hu;obtain⟨t,rfl⟩:=ru;exact⟨t,rfl⟩
 refine call_min_walk (Xz hl ?_);refine⟨s.heap.objs.size,[s.heap.objs.size,a],[s.heap.objs.size],vs.toArray.size,_,_,_,rfl,EU (A:=X.A.in1) (I.ok.hd hc) _ a (fu hlt) vs.toArray,
  ⟨⟨_,iQ _ rfl,rfl,rfl⟩,hl.push _⟩,?_,?_,CmpOf.ints_lt (λi=>ns.getD i 0) hI,λv h' tk hP hk=>?_⟩
 ·intro b hb;show b<(s.heap.push _).objs.size;rw[wX];rcases cZ.mp hb with rfl|hb
  ·exact wY _
  ·rw[jw.mp hb];exact tU hlt
 ·rw[gM,<-ac];exact List.length_pos_iff.mpr hne
 ·obtain⟨t,rfl⟩:=hI _ v hP;obtain⟨h1,h2⟩:=argBest_lt (λi=>ns.getD i 0) (vs.toArray.size-1);have hn0:0<ns.length:=List.length_pos_iff.mpr hne;have hb:argBest (λi j=>decide (ns.getD i 0<ns.getD j 0)) (vs.toArray.size-1)<ns.length:=by
   have:vs.toArray.size=ns.length:=by rw[gM];omega
   omega
  refine⟨.int _,H,I.kept (LSm.kept_iter hk),⟨t,rfl⟩,q _ ?_ λn hn=>?_⟩
  ·rw[dY,cU hb];exact yS hb
  ·obtain⟨j,hj,rfl⟩:=Bs hn;have:=h2 j (by rw[gM];omega);rw[dY (i:=j),cU hj]at this;exact this
end
end L2
namespace L2
open PySem
noncomputable def qZ(xs:ξ):Prop:=xs.toList.Pairwise (· < ·)
theorem qZ.at(h:qZ xs){i k:Nat}(hk:k<xs.size)(hik:i<k):xs.toList[i]'(by simp;omega)<xs.toList[k]'(by simpa using hk):=BK.mp h i k _ _ hik
theorem getD_at{xs:ξ}(h:i<xs.size):xs.getD i d=xs.toList[i]'(by simpa using h):=by
 rw[Array.getElem_toList];simp[lL,h]
theorem wL(hx:qZ xs)(j):∀(fuel lo hi:Nat),lo<=hi->hi<=xs.size->hi-lo<=fuel->(∀i (h:i<xs.size),i<lo->xs.toList[i]'(by simpa using h)<j)->(∀i (h:i<xs.size),hi<=i->j<=xs.toList[i]'(by simpa using h))->
  dE xs j fuel lo hi<=xs.size/\(∀i (h:i<xs.size),i<dE xs j fuel lo hi->xs.toList[i]'(by simpa using h)<j)/\(∀i (h:i<xs.size),dE xs j fuel lo hi<=i->j<=xs.toList[i]'(by simpa using h))
 |0,lo,hi,h1,h2,h3,a,b=>by
  have e:lo=hi:=by omega
  subst e;unfold dE;exact⟨h2,a,b⟩
 |fuel+1,lo,hi,h1,h2,h3,a,b=>by
  unfold dE;by_cases c:lo<hi
  ·rw[au c];have hm:(lo+hi)/2<xs.size:=by omega
   dsimp only;rw[getD_at hm];by_cases q:xs.toList[(lo+hi)/2]'(by simpa using hm)<j
   ·rw[au q];refine wL hx j fuel _ hi (by omega) h2 (by omega) (λi hi' hlt=>?_) b;by_cases e:i=(lo+hi)/2
    ·subst e;exact q
    ·exact Nr (hx.at hm (by omega)) q
   ·rw[aq q];refine wL hx j fuel lo _ (by omega) (by omega) (by omega) a (λi hi' hle=>?_);by_cases e:i=(lo+hi)/2
    ·subst e;omega
    ·have:=hx.at hi' (show(lo+hi)/2<i by omega);omega
  ·rw[aq c];have e:lo=hi:=by omega
   subst e;exact⟨h2,a,b⟩
theorem Ry(hx:qZ xs)(j):bj xs j<=xs.size/\(∀i (h:i<xs.size),i<bj xs j->xs.toList[i]'(by simpa using h)<j)/\(∀i (h:i<xs.size),bj xs j<=i->j<=xs.toList[i]'(by simpa using h)):=
 wL hx j xs.size 0 xs.size (dX _) (aP _) (aP _) (λi _ h=>absurd h (Tn _)) (λi h h'=>absurd h (V7.mpr h'))
theorem Ds{α:Type}(xs)(p)(x:α):(gV xs p x).toList=xs.toList.take p++x::xs.toList.drop p:=by
 unfold gV;simp;exact Fq (by simp)
theorem Dr(hx:qZ xs)(hn:xs[bj xs j]? ≠some j):qZ (gV xs (bj xs j) j):=by
 obtain⟨b1,b2,b3⟩:=Ry hx j;unfold qZ;rw[Ds,FC];have lt1:∀a∈xs.toList.take (bj xs j),a<j:=λa ha=>by
  obtain⟨i,hi,e⟩:=List.mem_take_iff_getElem.mp ha;rw[<-e];exact b2 i (by simp at hi;omega) (by omega)
 have lO:∀a∈xs.toList.drop (bj xs j),j<a:=λa ha=>by
  obtain⟨i,hi,e⟩:=List.mem_drop_iff_getElem.mp ha;have hs0:i+bj xs j<xs.size:=by simpa using hi
  have hs:bj xs j+i<xs.size:=by omega
  have z:=b3 (bj xs j+i) hs (Xk _ _);have e':xs.toList[bj xs j+i]'(by simpa using hs)=a:=by rw[<-e]
  rw[e']at z;by_cases c:i=0
  ·subst c;refine Nt z λej=>hn ?_;rw[<-IJ,cU (by simpa using hs)];exact jQ some (e'.trans ej.symm)
  ·have hs0:bj xs j<xs.size:=by omega
   have z0:=b3 (bj xs j) hs0 (aP _);have:=hx.at hs (show bj xs j<bj xs j+i by omega);rw[e']at this;omega
 refine⟨hx.sublist (Na _ _),EO.mpr ⟨lO,hx.sublist (List.drop_sublist _ _)⟩,λa ha b hb=>?_⟩;rcases cZ.mp hb with e|e
 ·rw[e];exact lt1 a ha
 ·exact Nr (lt1 a ha) (lO b e)
structure rc(b:Bool)(t:ia):Prop where
 rise:qZ t.place
 nod:t.dummies=#[]
 led:t.led=b
theorem has_none(j):jv #[] j=false:=by
 unfold jv;simp
theorem Gk{t:ia}(h:t.slot j=.empty):t.place[bj t.place j]? ≠some j:=λe=>by
 unfold oT at h;dsimp only at h;rw[e]at h;simp at h
theorem Cv(ht:t.dummies=#[])(ha:Nat->Int)(h):∀(fuel:Nat) (p:SetTable.Probe) (j:Nat) (d:Option Nat),p.dummy=none->eR t ha h fuel p=some (.empty j d)->d=none/\t.slot j=.empty
 |0,p,j,d,_,e=>by unfold eR at e;cases e
 |fuel+1,p,j,d,hp,e=>by
  unfold eR at e;have adv:(t.advance p).dummy=none:=by
   unfold SetTable.advance;split
   ·exact hp
   ·exact hp
  cases z:t.slot p.j with
  |empty=>
   rw[z]at e;cases e;exact⟨hp,z⟩
  |dummy=>
   exfalso;unfold oT at z;dsimp only at z;rw[ht,has_none]at z;split at z
   ·cases z
   ·simp at z
  |live i=>
   rw[z]at e;dsimp only at e;split at e
   ·cases e
   ·exact Cv ht ha h fuel _ j d adv e
theorem Gy(n):qZ (Array.range n):=by
 unfold qZ;rw[Array.toList_range];exact Wd
theorem jV(h:rc b t)(n):rc b (t.standIn n):=⟨Gy n,rfl,h.led⟩
theorem Af(h:rc b t)(es)(hh)(x):rc b (layNew t es hh x).2.1:=by
 unfold layNew;cases z:t.freeSlot hh with
 |none=>exact jV h _
 |some q=>
  obtain⟨slot,was⟩:=q;have emp:t.slot slot=.empty:=by
   unfold SetTable.freeSlot SetTable.probe at z;cases y:eR t (λ_=>hh+1) hh (10*SetTable.turns t.mask) (t.probeStart hh)with
   |none=>rw[y]at z;cases z
   |some m=>
    rw[y]at z;cases m with
    |candidate _ _ _=>cases z
    |empty j d=>
     obtain⟨rfl,e⟩:=Cv h.nod _ _ _ _ _ _ rfl y;cases z;exact e
  have Py:rc b (t.put slot).1:=by
   refine⟨Dr h.rise (Gk emp),?_,h.led⟩;show(if jv t.dummies slot then _ else t.dummies)=#[];rw[h.nod,has_none];rfl
  dsimp only;unfold SetTable.orStandIn;split
  ·exact Py
  ·exact jV Py _
theorem Vf{b plain:Bool}(e:p9 mask finger moves b plain hs=some (t',order)):rc b t':=by
 unfold p9 at e;cases z:SetTable.layClean mask hs with
 |none=>rw[z]at e;cases e
 |some owner=>
  rw[z]at e;cases e;refine⟨?_,rfl,rfl⟩;unfold qZ;show(((am (mask+1)).filterMap λj=>(owner.getD j none).map (j, ·)).map (·.1)).Pairwise (· < ·);rw[List.map_filterMap];refine List.Pairwise.filterMap _ (R:=(· < ·)) (λa a' ace c hc c' hc'=>?_) Wd;cases y:owner.getD a none with
  |none=>simp[y]at hc
  |some k=>
   cases y':owner.getD a' none with
   |none=>simp[y']at hc'
   |some k'=>
    simp[y]at hc;simp[y']at hc';omega
theorem Cq(h:rc b t)(es)(wanted):rc b (j3 t es wanted).2.1:=by
 unfold j3;cases z:t.relaid (es.map (·.1)) wanted with
 |none=>exact jV h _
 |some q=>
  obtain⟨t',order⟩:=q;dsimp only;split
  ·unfold SetTable.relaid at z;have:=Vf z;rw[h.led]at this;exact this
  ·exact jV h _
theorem qX(b):rc b (.fresh 0 0 b):=⟨.nil,rfl,rfl⟩
theorem oW(h:rc b t):rc b {t with plain:=false}:=⟨h.rise,h.nod,h.led⟩
end L2
namespace PySem
open L2 (rc qZ)
theorem pY{α:Type}:∀(l:List α) (i:Nat) (x:α),l[i]? =some x->(x::l.eraseIdx i).Perm l
 |[],i,x,h=>by cases i<;>cases h
 |y::l,0,x,h=>by cases h;exact .refl _
 |y::l,i+1,x,h=>(List.Perm.swap y x _).trans ((pY l i x h).cons y)
theorem JB{α:Type}(next:Nat->Nat):∀(fuel k:Nat) (left:List α) (out:Array α),left.length=fuel->(pickOrder.go next fuel k left out).toList.Perm (out.toList++left)
 |0,k,left,out,h=>by
  rw[PQ h];unfold pickOrder.go;rw[xr]
 |fuel+1,k,left,out,h=>by
  unfold pickOrder.go;have lt:next k %left.length<left.length:=pb _ (by omega)
  rw[cU lt];dsimp only;refine(JB next fuel (k+1) _ _ (by rw[lh,au lt];omega)).trans ?_;rw[nB,KP];exact List.Perm.append_left _ (pY left _ _ (cU lt))
theorem La{α:Type}(next:Nat->Nat)(xs:Array α):(pickOrder next xs).toList.Perm xs.toList:=by
 unfold pickOrder;have:=JB next xs.size 0 xs.toList #[] (by simp)
 simpa using this
section
variable{prog:υ}{w:ψ}{A:bt}{E:S0}{s:τ}
theorem yV{Q:Nat->τ->Prop}(hn:n≠0)(h:∀i d,i<n->Q i {s with drawn:=d}):ai (ar prog w) A (choose src n) Q E s:=λΓ p _=>by
 unfold choose;rw[Sem.wp_choose];refine⟨hn,?_⟩;rw[Sem.wp_pure];exact h _ _ (pb _ (FB hn))
theorem lq{α:Type}:∀(n:Nat) (xs:List α) {s:τ}{Q:List α->τ->Prop},xs.length=n->(∀ys d,ys.Perm xs->Q ys {s with drawn:=d})->ai (ar prog w) A (drawOrder n xs) Q E s
 |0,xs,s,Q,h,q=>by
  have:=q [] s.drawn (by rw[PQ h]);unfold drawOrder;exact aM this
 |n+1,[],s,Q,h,q=>by cases h
 |n+1,x::xs,s,Q,h,q=>by
  unfold drawOrder;refine ao (yV (by simp) λi d hi=>?_);rw[cU hi];dsimp only;refine ao (lq n ((x::xs).eraseIdx i) (by rw[lh,au hi];omega) λys d' hp=>aM ?_);exact q _ d' ((hp.cons _).trans (pY _ i _ (cU hi)))
structure iI(w:ψ)(h:bn)(d:ag)(es:Array (Int×ρ))(ep:Nat)(t:ia):Prop where
 ob:∃o,h.get? d=some o/\o.ExactSet/\o.data=.set es ep t
 fits:t.fits es.size=true
 tab:rc (!w.params.followText "set-order") t
theorem iI.at(S:iI w h d es ep t)(e:∀o,h.get? d=some o->h'.get? d=some o):iI w h' d es ep t:=
 let⟨o,ho,r⟩:=S.ob;⟨⟨o,e _ ho,r⟩,S.fits,S.tab⟩
theorem iI.typeIs(S:iI w s.heap d es ep t):s.TypeIs (.ref d) "set":=let⟨o,ho,hx,_⟩:=S.ob;⟨o,ho,hx.1⟩
theorem iI.state{Q:(Array (Int×ρ)×Nat×ia)->τ->Prop}(S:iI w s.heap d es ep t)(q:Q (es,ep,t) s):ai (ar prog w) A (setState d) Q E s:=let⟨o,ho,hx,hd⟩:=S.ob;KI ho hd S.fits q
theorem jU{Q:Bool->τ->Prop}(q:Q (w.params.followText "set-order") s):ai (ar prog w) A setsByText Q E s:=by
 unfold setsByText;exact ao (MW (aM q))
end
end PySem
namespace PySem
open L2 (rc qZ Af Cq oW)
section
variable{prog:υ}{w:ψ}{A:bt}{E:S0}{s:τ}
noncomputable def bM(prog:υ)(w:ψ)(h:bn)(d:ag)(S:Int->Bool)(n:Nat):Prop:=
 ∃o es ep t,h.get? d=some o/\o.ExactSet/\o.data=.set es ep t/\pf (bT prog w) es.toList/\(∀k,S k=true↔∃e∈es.toList,(bT prog w).is k e.2=true)/\es.size<bG/\t.fits es.size=true/\es.size=n/\rc (!w.params.followText "set-order") t
theorem bM.at(g:bM prog w h d S n)(e:∀o,h.get? d=some o->h'.get? d=some o):bM prog w h' d S n:=let⟨o,es,ep,t,ho,r⟩:=g;⟨o,es,ep,t,e _ ho,r⟩
theorem bM.congr(g:bM prog w h d S n)(e:∀k,S k=S' k)(en:n=n'):bM prog w h d S' n':=by
 have:S=S':=funext e;subst this;subst en;exact g
theorem bM.store{h:bn}{d:ag}{o:ki}{es:Array (Int×ρ)}{ep:Nat}{t:ia}(ho:h.get? d=some o)(hx:o.ExactSet)(hd:o.data=.set es ep t)
  {es':Array (Int×ρ)}{t':ia}{S:Int->Bool}(el:pf (bT prog w) es'.toList)(mem:∀k,S k=true↔∃e∈es'.toList,(bT prog w).is k e.2=true)(lt:es'.size<bG)(ft:t'.fits es'.size=true)(tb:rc (!w.params.followText "set-order") t'):
  (h.update d (ph es' t')).get? d=some {o with data:=.set es' (ep+1) t'}/\bM prog w (h.update d (ph es' t')) d S es'.size:=by
 obtain⟨g,_⟩:=SetOf_store (knd:=bT prog w) ho hx hd el mem lt ft;exact⟨g,_,es',ep+1,t',g,hx,rfl,el,mem,lt,ft,rfl,tb⟩
theorem Jj{gw:Bool->Sem Unit}(hg:∀(b:Bool) (s₁:τ) (Q':Unit->τ->Prop),Q' () s₁->ai (ar prog w) A (gw b) Q' E s₁)(ho:s.heap.get? d=some o)(hx:o.ExactSet)(hd:o.data=.set es ep t)(el:pf (bT prog w) es1.toList)(mem:∀k,S k=true↔∃e∈es1.toList,(bT prog w).is k e.2=true)(lt:es1.size<bG)(ft:t1.fits es1.size=true)(tb:rc (!w.params.followText "set-order") t1){R:Option Bool->τ->Prop}(q:∀h',bc d s.heap h'->bM prog w h' d S es1.size->R (some true) {s with heap:=h'}):
  ai (ar prog w) A (do
    storeSet d es1 t1
    if(!was&&t1.tooFull)=true then do
      gw (j3 t1 es1 (du es1.size)).2.2
      storeSet d (j3 t1 es1 (du es1.size)).1 (j3 t1 es1 (du es1.size)).2.1
      pure (some true)
     else pure (some true)) R E s:=by
 refine ao (M1 ho hd ?_ (M0 lt));obtain⟨g1,G1⟩:=bM.store (prog:=prog) (w:=w) ho hx hd el mem lt ft tb;have b1:=M5 s.heap d (ph es1 t1);refine Ny (λ_=>?_) λ_=>aM (q _ b1 G1);have pm:=relayAll_perm t1 es1 (du es1.size);have ff:=relayAll_fits t1 es1 (du es1.size);have tt:=Cq tb es1 (du es1.size);generalize j3 t1 es1 (du es1.size)=r at pm ff tt⊢;obtain⟨es2,t2,gv⟩:=r;dsimp only at pm ff tt⊢;have sz:es2.size=es1.size:=by rw[<-Fg,pm.length_eq,Fg]
 refine ao (hg _ _ _ (ao (M1 g1 rfl ?_ (M0 (by rw[sz];exact lt)))));obtain⟨_,G2⟩:=bM.store (prog:=prog) (w:=w) (S:=S) g1 hx rfl (el.perm pm) (λk=>(mem k).trans ⟨λ⟨e,he,z⟩=>⟨e,pm.mem_iff.mpr he,z⟩,λ⟨e,he,z⟩=>⟨e,pm.mem_iff.mp he,z⟩⟩) (by rw[sz];exact lt) ff tt;rw[sz]at G2;exact aM (q _ (b1.trans (M5 _ d _)) G2)
theorem RK{Q:Bool->τ->Prop}(hk:(bT prog w).is k x=true)(hs:x.scannable=true)(G:bM prog w s.heap d S n)(room:n+1<bG)(q:∀h' b,bc d s.heap h'->bM prog w h' d (λk'=>S k'||decide (k'=k)) (if S k then n else n+1)->Q b {s with heap:=h'}):ai (ar prog w) A (jb d x ((bT prog w).hash k)) Q E s:=by
 obtain⟨o,es,ep,t,ho,hx,hd,el,mem,lt,ft,en,tb⟩:=G;unfold jb setAddHashedIn;refine yX (ao (KI ho hd ft ?_));dsimp only;rw[byScan_of hs lt el];simp only[↓reduceIte];unfold setAddByScan;refine ao (ao (SQ (ao (wpAny_setScan_of hk ho hd ft el ?_))));cases z:List.findIdx? (λe=>(bT prog w).is k e.2) es.toList with
 |some j=>
  obtain⟨hj,pj,_⟩:=List.findIdx?_eq_some_iff_getElem.mp z;have yes:S k=true:=(mem k).mpr ⟨es.toList[j],yS hj,pj⟩;refine aM (aM ?_);have r:=q s.heap false (EZ d s.heap) ⟨o,es,ep,t,ho,hx,hd,el,λk'=>by
   rw[Wo,KC,<-mem k'];exact⟨λy=>y.elim id λe=>e▸yes,.inl⟩,lt,ft,by rw[yes];exact en,tb⟩
  exact r
 |none=>
  dsimp only;have no:S k=false:=by
   cases y:S k with
   |false=>rfl
   |true=>
    obtain⟨e,he,p⟩:=(mem k).mp y;have:=List.findIdx?_eq_none_iff.mp z e he;rw[p]at this;cases this
  have gwk:∀(b:Bool) (s₁:τ) (Q':Unit->τ->Prop),Q' () s₁->ai (ar prog w) A (match b with |true=>rule "set.scan.the-table-gave-way"|false=>pure ()) Q' E s₁:=λb s₁ Q' y=>by cases b<;>first |exact aM y|exact SQ y
  have pm:=layNew_perm t es ((bT prog w).hash k) x;have ff:=layNew_fits t es ((bT prog w).hash k) x;have tt:=Af tb es ((bT prog w).hash k) x;generalize layNew t es ((bT prog w).hash k) x=r at pm ff tt⊢;obtain⟨es1,t1,was,gv⟩:=r;dsimp only at pm ff tt⊢;rw[nB]at pm;have el1:pf (bT prog w) es1.toList:=(el.push hk hs).perm pm;have Y5:=mem_push_iff (knd:=bT prog w) hk mem pm;have sz:es1.size=n+1:=by rw[<-Fg,pm.length_eq,lN,Fg,en];rfl
  have lt1:es1.size<scanBound:=by rw[sz];exact room
  refine ao (gwk _ _ _ ?_);have fin:∀h',bc d s.heap h'->bM prog w h' d (λk'=>S k'||decide (k'=k)) es1.size->ai (ar prog w) A (match some true with |some added=>pure added|none=>setAddHashedIn d x ((bT prog w).hash k) 99999) Q E {s with heap:=h'}:=λh' sb g=>by
   have r:=q h' true sb (by rw[no];rw[sz]at g;exact g);exact aM r
  split
  ·apply ao;rw[hashByValue_scannable 8 hs];refine aM (Jj gwk ho hx hd el1 Y5 lt1 ?_ ?_ fin)
   ·split
    ·exact ff
    ·exact SetTable.fits_plain_off ff
   ·split
    ·exact tt
    ·exact oW tt
  ·refine ao (aM ?_);simp only[↓reduceIte];exact Jj gwk ho hx hd el1 Y5 lt1 ff tt fin
end
end PySem
namespace L2
open PySem PySem.Spec PyProof.Rows
section
variable{prog:υ}{w:ψ}{A:bt}{E:S0}{s:τ}
theorem oN(a){Q₁:S0}(h:Q₁ (.ref s.heap.objs.size) {s with heap:=s.heap.push {cls:=.type "set",dict:=none,data:=.set #[] 0 (.fresh 0 0 (!w.params.followText "set-order"))}}):
  eM (ar prog w) A (.call (.builtin "set.__new__") ⟨[.type "set",a],[]⟩) (wants Q₁ E) s:=by
 apply MO;show ai _ A.in1 (do checkBuiltinCall "set.__new__" ⟨[.type "set",a],[]⟩;again (.builtin "set.__new__" ⟨[.type "set",a],[]⟩)) _ _ s;refine ao (IQ (PySem.F.newCall_set_1 a) (aM ⟨Xw OR _,MN PySem.F.entry_set_new ?_⟩));rw[Ws OR _];unfold Builtin.«set.__new__» Builtin.Frozenset.newClass;have hsub:=IX;obtain⟨hp,g,d,tk,os⟩:=s;dsimp only
 wp_walk
 refine MW (aM ?_);dsimp only;simp only[newObj];refine ao (wpAny_alloc (aM ?_));exact aM h
end
section
variable{prog:υ}{w:ψ}{A:bt}{R:Result->τ->Prop}{I:ag}{fp wr:η}{G:Array GenState->Array GenState->Prop}{n:Nat}{P:Nat->ρ->Prop}{St:Nat->τ->Prop}
theorem WT(W:WalksS prog w A.in1 I fp wr G n P St)(D)(hD:D∉fp)(val:Nat->Int)(hv:∀i v,P i v->∃t,v=.int (val i) t)(hb:n+1<bG):
  ∀(k i:Nat) (s:τ),n-i=k->i<=n->St i s->bM prog w s.heap D (λk'=>(cz val i).any (· ==k')) (cz val i).length->
   (∀s',Moved (D::wr) G s s'->bM prog w s'.heap D (λk'=>(cz val n).any (· ==k')) (cz val n).length->R (.ok (.ret .none)) s')->
   eM (ar prog w) A (.builtin "set.update.loop" ⟨[.ref D,.ref I],[]⟩) R s:=by
 have hw:D∉wr:=λh=>hD (W.sub _ h);have sub:∀b∈wr,b∈D::wr:=λb hb=>fB _ hb;intro k
 induction k with
 |zero=>
  intro i s hk hi st g hR;obtain rfl:i=n:=by omega
  refine MN PY ?_;rw[Ws NO _];show ai _ A.in1 (fc (.ref I)>>=_) _ _ s;refine ao (W.done s _ _ st λs' hm=>?_);show ai _ A.in1 (ret ba) _ _ s';exact aM (hR s' (hm.mono sub) (g.at λo e=>hm.heap D _ hw e))
 |succ k ih=>
  intro i s hk hi st g hR;have lt:i<n:=by omega
  refine MN PY ?_;rw[Ws NO _];show ai _ A.in1 (fc (.ref I)>>=_) _ _ s;refine ao (W.item i s _ _ lt st λv s' hP st' hm=>?_);obtain⟨t,rfl⟩:=hv i v hP;have g':=g.at (h':=s'.heap) λo e=>hm.heap D _ hw e;show ai _ A.in1 (eu [bI (val i) t] (setAdd D (.int (val i) t))>>=_) _ _ s';refine ao (yX ?_);unfold setAdd;refine yX (ao ((bT prog w).pyHash (k:=val i) (intKind_is _ _ _ _) ?_));refine RK (s:={s' with toks:=s'.toks+1}) (intKind_is _ _ _ _) rfl g' (by have:=firstMet_length_le val i;omega) λh' _ sb g2=>?_;refine aM ⟨Xw NO _,ih (i+1) _ (by omega) lt (W.frame _ s' _ _ st' (Bx _) λb hb o e=>?_) (g2.congr (λk'=>by rw[lP,step_any]) (by rw[lP,step_length])) λs'' hm'' g3=>?_⟩
  ·rw[sb.2 b (λh:b=D=>hD (by rw[<-h];exact hb))];exact e
  ·refine hR s'' (Moved.trans W.gtrans ((hm.mono sub).then_heap (Bx _) λb o hb e=>?_) hm'') g3;rw[sb.2 b (λh:b=D=>hb (by rw[h];exact dZ))];exact e
end
section
variable{prog:υ}{w:ψ}{A:bt}{E:S0}{s:τ}
theorem Gn{Q:S0}(hA:A.handled=none)(ht:s.heap.IsTuple t ae)(hI:bP ae.toList ns)(hz:ae.size+1<bG)(fin:∀(g:bn) (tk:Nat),bM prog w g s.heap.objs.size (λk'=>(cz (λi=>ns.getD i 0) ae.size).any (· ==k')) (cz (λi=>ns.getD i 0) ae.size).length->(∀b o,b<s.heap.objs.size->s.heap.get? b=some o->g.get? b=some o)->Q (.ref s.heap.objs.size) {s with heap:=g,toks:=tk}):
  ai (ar prog w) A (call (.type "set") [.ref t]) Q E s:=by
 obtain⟨c,tl,q1⟩:=F.called_set.mro;have q2:=F.called_set.made;have q3:=F.called_set.sub;refine EV (MO ?_);show ai _ _ (callAny (.type "set") _) _ _ _;refine aM ⟨Nl _ (by decide+kernel),MN OZ ?_⟩;rw[li (weight_type_call_type "set" [.ref t] []) rfl];have q4:=F.called_set.notType;have q5:=F.called_set.canCreate;have q6:=F.typeCall_set_1 (.ref t)
 repeat(any_goals(first |assumption|wp_step))
 refine SX (oN (.ref t) (E:=E) (Q₁:=λob u=>ob=.ref s.heap.objs.size/\u={s with heap:=s.heap.push {cls:=.type "set",dict:=none,data:=.set #[] 0 (.fresh 0 0 (!w.params.followText "set-order"))}}) ⟨rfl,rfl⟩) λr u hr=>?_;cases r with
 |error e=>exact hr
 |ok fl=>
  cases fl with
  |ret obj=>
   obtain⟨rfl,rfl⟩:=hr;generalize Zh:(!w.params.followText "set-order")=led at *;have g0:(s.heap.push {cls:=.type "set",dict:=none,data:=.set #[] 0 (.fresh 0 0 led)}).get? s.heap.objs.size=some {cls:=.type "set",dict:=none,data:=.set #[] 0 (.fresh 0 0 led)}:=iQ _ rfl;have g1:fF {s with heap:=s.heap.push {cls:=.type "set",dict:=none,data:=.set #[] 0 (.fresh 0 0 led)}} (.ref s.heap.objs.size) "set":=⟨_,g0,rfl⟩;have q7:=F.called_set.init.lookup;have q8:=F.called_set.init.bind (.ref s.heap.objs.size)
   repeat(any_goals(first |assumption|wp_step))
   refine SX (codeAny_call_builtin (R:=wants (λr s₂=>r=.none/\∃g tk,s₂={s with heap:=g,toks:=tk}/\bM prog w g s.heap.objs.size (λk'=>(cz (λi=>ns.getD i 0) ae.size).any (· ==k')) (cz (λi=>ns.getD i 0) ae.size).length/\(∀b o,b<s.heap.objs.size->s.heap.get? b=some o->g.get? b=some o)) E) F.called_set.init.plain F.entry_set_init (check_set_init_1 g1 ?_)) λr₂ s₂ hr₂=>?_
   ·obtain⟨⟨oc,od,oda,os⟩,ho,hc,nl,hd⟩:=ht;simp only at hc hd;subst hc hd;have ho':(s.heap.push {cls:=.type "set",dict:=none,data:=.set #[] 0 (.fresh 0 0 led)}).get? t=some {cls:=.type "tuple",dict:=od,data:=.seq ae nl,slots:=os}:=cR _ ho;have b1:=PySem.F.sub_tuple_set;have b2:=PySem.F.sub_tuple_frozenset;have b3:(cx "tuple"==cx "dict")=false:=by decide
    have ht1:(s.heap.push {cls:=.type "set",dict:=none,data:=.set #[] 0 (.fresh 0 0 led)}).IsTuple t ae:=⟨_,ho',rfl,nl,rfl⟩;unfold Builtin.«set.__init__» noKeywords gr;generalize hPI:nX=PI
    wp_walk
    subst hPI;refine E2 ht1 (ao (JS ?_));have lt:t<s.heap.objs.size:=dJ ho;have hA3:A.in1.in1.in1.handled=none:=by simp[hA]
    have nI:t≠(s.heap.push {cls:=.type "set",dict:=none,data:=.set #[] 0 (.fresh 0 0 led)}).objs.size:=by rw[wX];exact fu (tU lt)
    have nf:s.heap.objs.size∉[(s.heap.push {cls:=.type "set",dict:=none,data:=.set #[] 0 (.fresh 0 0 led)}).objs.size,t]:=by
     rw[wX];simp only[cZ,jw,V9,Wj,not_or];exact⟨fu (wY _),xg lt⟩
    refine WT ((Walks.tuple hA3 _ t nI ae).toS) s.heap.objs.size nf (λi=>ns.getD i 0) (λi v hv=>IntsAre.int_at hI i v (by rw[IJ];exact hv)) hz (ae.size-0) 0 _ (by omega) (dX _)
     ⟨⟨_,iQ _ rfl,rfl,rfl⟩,ht1.at λo e=>cR _ e⟩ ?hS0 ?hR
    case hS0=>exact⟨_,#[],0,_,cR _ g0,⟨rfl,rfl,rfl⟩,rfl,λe he=>by simp at he,λk=>by simp[cz],by unfold bG;simp,rfl,rfl,by rw[Zh];exact qX led⟩
    case hR=>
     intro s' hm hS';obtain⟨g,g',d',tk',os'⟩:=s';obtain⟨rfl,rfl,rfl⟩:g'=s.gens/\d'=s.drawn/\os'=s.os:=⟨hm.gens,hm.drawn,hm.os⟩;show ai _ _ _ _ _ _;apply aM;show ai _ _ (ret ba) _ _ _;refine aM ⟨rfl,g,tk',rfl,hS',λb o hb e=>hm.heap b o ?_ (cR _ (cR _ e))⟩;have n1:b≠s.heap.objs.size:=fu hb;have n2:b≠(s.heap.push {cls:=.type "set",dict:=none,data:=.set #[] 0 (.fresh 0 0 led)}).objs.size:=by rw[wX];exact fu (tU hb)
     simp only[cZ,jw,V9,Wj,not_or];exact⟨n1,n2⟩
   ·cases r₂ with
    |error e=>exact hr₂
    |ok fl₂=>
     cases fl₂ with
     |ret r=>
      obtain⟨rfl,g,tk,rfl,hS',hk'⟩:=hr₂
      repeat(any_goals(first |assumption|wp_step))
      exact fin _ _ hS' hk'
     |_=>exact hr₂.elim
  |_=>exact hr.elim
theorem KZ{Q:S0}(hA:A.handled=none)(ht:s.heap.IsList t ae)(hI:bP ae.toList ns)(hz:ae.size+1<bG)(fin:∀(g:bn) (tk:Nat),bM prog w g s.heap.objs.size (λk'=>(cz (λi=>ns.getD i 0) ae.size).any (· ==k')) (cz (λi=>ns.getD i 0) ae.size).length->(∀b o,b<s.heap.objs.size->s.heap.get? b=some o->g.get? b=some o)->Q (.ref s.heap.objs.size) {s with heap:=g,toks:=tk}):
  ai (ar prog w) A (call (.type "set") [.ref t]) Q E s:=by
 obtain⟨c,tl,q1⟩:=F.called_set.mro;have q2:=F.called_set.made;have q3:=F.called_set.sub;refine EV (MO ?_);show ai _ _ (callAny (.type "set") _) _ _ _;refine aM ⟨Nl _ (by decide+kernel),MN OZ ?_⟩;rw[li (weight_type_call_type "set" [.ref t] []) rfl];have q4:=F.called_set.notType;have q5:=F.called_set.canCreate;have q6:=F.typeCall_set_1 (.ref t)
 repeat(any_goals(first |assumption|wp_step))
 refine SX (oN (.ref t) (E:=E) (Q₁:=λob u=>ob=.ref s.heap.objs.size/\u={s with heap:=s.heap.push {cls:=.type "set",dict:=none,data:=.set #[] 0 (.fresh 0 0 (!w.params.followText "set-order"))}}) ⟨rfl,rfl⟩) λr u hr=>?_;cases r with
 |error e=>exact hr
 |ok fl=>
  cases fl with
  |ret obj=>
   obtain⟨rfl,rfl⟩:=hr;generalize Zh:(!w.params.followText "set-order")=led at *;have g0:(s.heap.push {cls:=.type "set",dict:=none,data:=.set #[] 0 (.fresh 0 0 led)}).get? s.heap.objs.size=some {cls:=.type "set",dict:=none,data:=.set #[] 0 (.fresh 0 0 led)}:=iQ _ rfl;have g1:fF {s with heap:=s.heap.push {cls:=.type "set",dict:=none,data:=.set #[] 0 (.fresh 0 0 led)}} (.ref s.heap.objs.size) "set":=⟨_,g0,rfl⟩;have q7:=F.called_set.init.lookup;have q8:=F.called_set.init.bind (.ref s.heap.objs.size)
   repeat(any_goals(first |assumption|wp_step))
   refine SX (codeAny_call_builtin (R:=wants (λr s₂=>r=.none/\∃g tk,s₂={s with heap:=g,toks:=tk}/\bM prog w g s.heap.objs.size (λk'=>(cz (λi=>ns.getD i 0) ae.size).any (· ==k')) (cz (λi=>ns.getD i 0) ae.size).length/\(∀b o,b<s.heap.objs.size->s.heap.get? b=some o->g.get? b=some o)) E) F.called_set.init.plain F.entry_set_init (check_set_init_1 g1 ?_)) λr₂ s₂ hr₂=>?_
   ·obtain⟨⟨oc,od,oda,os⟩,ho,hc,nl,hd⟩:=ht;simp only at hc hd;subst hc hd;have ho':(s.heap.push {cls:=.type "set",dict:=none,data:=.set #[] 0 (.fresh 0 0 led)}).get? t=some {cls:=.type "list",dict:=od,data:=.seq ae nl,slots:=os}:=cR _ ho;have b1:=PySem.F.sub_list_set;have b2:=PySem.F.sub_list_frozenset;have b3:(cx "list"==cx "dict")=false:=by decide
    have ht1:(s.heap.push {cls:=.type "set",dict:=none,data:=.set #[] 0 (.fresh 0 0 led)}).IsList t ae:=⟨_,ho',rfl,nl,rfl⟩;unfold Builtin.«set.__init__» noKeywords gr;generalize hPI:nX=PI
    wp_walk
    subst hPI;refine Xz ht1 (ao (JS ?_));have lt:t<s.heap.objs.size:=dJ ho;have hA3:A.in1.in1.in1.handled=none:=by simp[hA]
    have nI:t≠(s.heap.push {cls:=.type "set",dict:=none,data:=.set #[] 0 (.fresh 0 0 led)}).objs.size:=by rw[wX];exact fu (tU lt)
    have nf:s.heap.objs.size∉[(s.heap.push {cls:=.type "set",dict:=none,data:=.set #[] 0 (.fresh 0 0 led)}).objs.size,t]:=by
     rw[wX];simp only[cZ,jw,V9,Wj,not_or];exact⟨fu (wY _),xg lt⟩
    refine WT ((EU hA3 _ t nI ae).toS) s.heap.objs.size nf (λi=>ns.getD i 0) (λi v hv=>IntsAre.int_at hI i v (by rw[IJ];exact hv)) hz (ae.size-0) 0 _ (by omega) (dX _)
     ⟨⟨_,iQ _ rfl,rfl,rfl⟩,ht1.push _⟩ ?hS0 ?hR
    case hS0=>exact⟨_,#[],0,_,cR _ g0,⟨rfl,rfl,rfl⟩,rfl,λe he=>by simp at he,λk=>by simp[cz],by unfold bG;simp,rfl,rfl,by rw[Zh];exact qX led⟩
    case hR=>
     intro s' hm hS';obtain⟨g,g',d',tk',os'⟩:=s';obtain⟨rfl,rfl,rfl⟩:g'=s.gens/\d'=s.drawn/\os'=s.os:=⟨hm.gens,hm.drawn,hm.os⟩;show ai _ _ _ _ _ _;apply aM;show ai _ _ (ret ba) _ _ _;refine aM ⟨rfl,g,tk',rfl,hS',λb o hb e=>hm.heap b o ?_ (cR _ (cR _ e))⟩;have n1:b≠s.heap.objs.size:=fu hb;have n2:b≠(s.heap.push {cls:=.type "set",dict:=none,data:=.set #[] 0 (.fresh 0 0 led)}).objs.size:=by rw[wX];exact fu (tU hb)
     simp only[cZ,jw,V9,Wj,not_or];exact⟨n1,n2⟩
   ·cases r₂ with
    |error e=>exact hr₂
    |ok fl₂=>
     cases fl₂ with
     |ret r=>
      obtain⟨rfl,g,tk,rfl,hS',hk'⟩:=hr₂
      repeat(any_goals(first |assumption|wp_step))
      exact fin _ _ hS' hk'
     |_=>exact hr₂.elim
  |_=>exact hr.elim
end
end L2
namespace DH
open PySem PySem.W PyProof.Rows PySem.Calls
noncomputable def uE(h:bn)(d:ag)(es:Array ik)(ep:Nat):Prop:=∃o,h.get? d=some o/\o.ExactDict/\o.data=.dict es ep
section
variable{s:τ}{d:ag}{es:Array ik}{ep:Nat}
theorem uE.typeIs(h:uE s.heap d es ep):s.TypeIs (.ref d) "dict":=let⟨o,ho,hc,_⟩:=h;⟨o,ho,hc.1⟩
theorem uE.at'(x:uE h d es ep)(k:∀o,h.get? d=some o->h'.get? d=some o):uE h' d es ep:=let⟨o,ho,r⟩:=x;⟨o,k o ho,r⟩
end
end DH
namespace L2
open PySem PySem.Spec PyProof.Rows
section
variable{X:Cx}
inductive WM(x:V)(y:V)(H:Hp)(Q:VK):Prop
 |mk(a b xs ys)(_:x=.ref a)(_:y=.ref b)(_:H a=some (.tup xs))(_:H b=some (.tup ys))(_:xs.length+ys.length<=sizeLine)(_:∀r H',Same H H'->H' r=some (.tup (xs++ys))->Q (.ref r) H')
theorem Uk:sj X (cw .Add) WM:=by
 intro aa s σ H x y v u Q I rx ry h;obtain⟨a,b,xs,ys,rfl,rfl,ha,hb,hz,q⟩:=h;by_cases hx:xs=[]
 ·subst hx;cases rx;cases ry;obtain⟨ae,r1,p1,_⟩:=I.tuple (SqT.of (K:=X.K) ha);obtain⟨its2,r2,p2,_⟩:=I.tuple (SqT.of (K:=X.K) hb);cases r1;obtain⟨⟨cls,dd,data,sl⟩,ho,hc,n,hd⟩:=id p1;obtain⟨⟨cls2,dd2,data2,sl2⟩,ho2,hc2,n2,hd2⟩:=id p2;simp only at hc hd hc2 hd2;subst hc hd hc2 hd2;exact FP ⟨_,ho,rfl⟩ ⟨_,ho2,rfl⟩ KA JJ KW K0 (K2 _ _)
   (tuple_addW0 a b _ _ n n2 dd dd2 sl sl2 (by simp)) ⟨ho,ho2,⟨.ref b,H,I,rfl,q b H (Same.refl _) hb⟩⟩
 ·refine zD aa s σ H _ _ v u Q I rx ry ⟨a,b,xs,ys,rfl,rfl,SqT.of ha,SqT.of hb,hx,hz,λe=>?_,λe p hp=>?_⟩
  ·subst e;exact q a H (Same.refl _) (by rw[xr];exact ha)
  ·exact q p _ (λc o e=>by rw[cF (oA e hp)];exact e) aK
end
noncomputable def v9(X:Cx)(scope:dQ)(s:τ)(f:ag)(cdv:ρ):Env:=W.envX (X.env.qual++"<lambda>") scope s.heap.objs.size f cdv (fZ X.env.cells scope.names [])
noncomputable def JR(X:Cx)(A:bt)(N:List be)(s:τ)(H:Hp)(env:lw):Cx:=
 {X with A:=A.deeper env,N:=N,s₀:=s,H₀:=H,env:=env,outer:=X.stack,stack:=env::X.stack,ex:=[],fn:=λ_=>false,calm:=true,pn:=[],xe:=λ_ _=>False}
noncomputable def Hq(ix:List Nat)(σ:St)(v:V):St:=some v::ix.map λj=>(σ[j]?).join
section
variable{X:Cx}{scope:dQ}{caps:List be}{ix:List Nat}{y:be}{A:bt}{aa:O0}{σ:St}{H:Hp}{s:τ}{f:ag}{cdv:ρ}{v:V}{u:ρ}
theorem LR{s':τ}(ck:fL X.env.scope scope=true)(hkind:scope.kind=.function)(hcap:iR X scope caps ix)(hy:scope.names.lookup y=some .local)(hhd:A.handled=none)(hfr:A.frames=some X.stack)
  (I:Inv X aa σ H s)(rv:RelV v u)(hos:s'.os=s.os)(hg:fI s'.gens)(hk:∀b o,s.heap.get? b=some o->s'.heap.get? b=some o)(hn:s'.heap.Ns s.heap.objs.size (λx=>[(y,u)].reverse.lookup x)):
  Inv (JR X A (y::caps) s H (v9 X scope s f cdv)) [] (Hq ix σ v) H s':=by
 have cl1:∀x c,(fZ X.env.cells scope.names []).lookup x=some c->X.env.cells.lookup x=some c:=λx c e=>by
  rcases mX (Fy e)with q|⟨q,mm⟩
  ·cases q
  ·obtain⟨d,hd⟩:=I.ok.has x (fL.free ck mm);rw[hd]at q;rw[hd,q];rfl
 have cl2:∀x,(x,aw)∈scope.names->∃c,(fZ X.env.cells scope.names []).lookup x=some c:=λx mm=>by
  obtain⟨c,hc⟩:=wI (cells:=X.env.cells) (acc:=[]) mm;obtain⟨d,hd,_⟩:=Fh hc;exact⟨d,hd⟩
 have bsz:X.base.objs.size<=s.heap.objs.size:=dH I.ok.bsz I.sz;refine⟨⟨I.ok.mod,hkind,rfl,rfl,aP _,λx y c h1 h2=>I.ok.inj x y c (cl1 x c h1) (cl1 y c h2),λx hx=>?_,λx c h=>(nomatch h),λ_=>hhd,ky hfr,.inr ⟨rfl,rfl⟩,λb hb=>(nomatch hb),I.bs,bsz,
  λb o e hb=>(nomatch hb),λb hb=>(nomatch hb),I.stack,I.stkFree⟩,hos,hg,Un.kept hk,⟨_,hn,λi x w h1 h2 h3=>?_⟩,λx c e=>?_,I.hok.fresh (aP _),λx c e=>I.freeC x c (cl1 x c e),λp hp=>absurd (show p∈([]:O0)from hp) (by simp),I.hok.kept hk,?_⟩
 ·have hx:scope.names.lookup x=some .cell\/scope.names.lookup x=some .free:=hx;rcases hx with q|q
  ·exact absurd rfl (fL.cell ck _ (Fy q))
  ·exact cl2 x (Fy q)
 ·have h1:(y::caps)[i]? =some x:=h1;have h2:(some v::ix.map λj=>(σ[j]?).join)[i]? =some (some w):=h2;cases i with
  |zero=>
   have h1:some y=some x:=h1;have h2:some (some v)=some (some w):=h2;cases h1;cases h2;exact⟨u,rv,.inl ⟨hy,by simp[Ku]⟩⟩
  |succ i=>
   rw[NL]at h1 h2;obtain⟨j,e1,e2,e3⟩:=hcap.get h1;rw[dI,e1]at h2;have h2':(σ[j]?).join=some w:=by simpa using h2
   have h4:σ[j]? =some (some w):=by
    cases q:σ[j]? with
    |none=>rw[q]at h2';cases h2'
    |some w=>rw[q]at h2';exact jQ some h2'
   obtain⟨m0,hn0,hl0⟩:=I.loc;have mm:=Fy e3;have vis:=fL.free ck mm;obtain⟨u,r,l⟩:=hl0 j x w e2 h4 (.inr vis);refine⟨u,r,.inr ?_⟩;rcases l with⟨k,_⟩|⟨k,c,e,z⟩
   ·rcases vis with q|q
    ·rw[show X.env.kindOf x=some .cell from q]at k;cases k
    ·rw[show X.env.kindOf x=some .free from q]at k;cases k
   ·obtain⟨d,hd⟩:=cl2 x mm;have:=cl1 x d hd;rw[e]at this;cases this;exact⟨.inr e3,c,hd,z.keeps hk⟩
 ·obtain⟨v,z⟩:=I.cell x c (cl1 x c e);exact⟨v,z.keeps hk⟩
 ·show(some v::ix.map λj=>(σ[j]?).join).length=(y::caps).length;simp[hcap.len]
theorem Ve(ck:fL X.env.scope scope=true)(hkind:scope.kind=.function)(hcap:iR X scope caps ix)(hy:scope.names.lookup y=some .local)(hco:scope.isCoroutine=false)(hgen:scope.isGenerator=false)(hr:qo (k+1) A)(hfr:A.frames=some X.stack)(he:PE (JR X A (y::caps) s H (v9 X scope s f (.ref c'))) body te)(I:Inv X aa σ H s)(rv:RelV v u)(ho:s.heap.get? f=some (jn "<lambda>" (X.env.qual++"<lambda>") params body scope (fZ X.env.cells scope.names []) pm c' ctv))(hcd:s.heap.CodeRec (.ref c') (X.env.qual++"<lambda>"))(hbind:∀(q:be) (cl:List (be×ag)) (pm cd ct u:ρ),fi (W.kla_fn "<lambda>" q params body scope cl pm cd ct) ⟨[u],[]⟩=pure [(y,u)])(hq:te (Hq ix σ v) H Q):
  ai (ar X.prog X.w) A (call (.ref f) [u]) (EP X aa σ λv H'=>Q v H'/\∀b o u,H b=some (.frz o u)->H' b=some (.frz o u)) (λ_ _=>False) s:=by
 refine EV (W.kla_callFunE hr.depth ho rfl hco hgen rfl hcd ?_);rw[hbind];refine aM (wpAny_newFunctionEnv (fL.cell ck) (λz hz=>by rw[jw.mp hz];exact hy) (λh₁ hns hsb=>⟨I.nolimit.fresh _ hsb,?_⟩) hkind);have hk₁:∀b o,s.heap.get? b=some o->h₁.get? b=some o:=λb o e=>hsb.extBut b o (fu (dJ e)) (cR _ e);show eM _ _ (.expr body (v9 X scope s f (.ref c'))) _ _;have I':=LR (A:=A) (f:=f) (cdv:=.ref c') (s':={s with heap:=h₁,toks:=s.toks+[(y,u)].length}) ck hkind hcap hy hr.hd hfr I rv rfl I.bare hk₁ hns;refine W.kla_codeExpr (Jd (he [] _ _ _ _ I' hq) (λv' s' z=>?_) λ_ _ z=>z.elim);obtain⟨x,H',J,r,q⟩:=z;exact I.after ⟨x,H',J.os,J.bare,J.base,J.hok,r,q,J.base.frzs⟩
end
noncomputable def jK(H:Hp)(P:ag)(pos:eJ)(qual:be):Prop:=H P=some (.tbl #[])\/∃(c':ag) (oc:ki) (vs:Array ρ) (tq:Tok),H P=some (.tbl #[cK pos.line,cK pos.col,.ref c'])/\H c'=some (.frz oc (.own 0))/\oc.data=.fields vs/\vs[1]? =some (.str qual tq)
structure Eo(base:bn)(mg:D0)(c P:ag):Prop where
 hd:W.CodeHd base c P
 blt:base.BuiltinsAt mg P
 ne:av≠P
theorem BuiltinsAt.keeps{h h':bn}(x:h.BuiltinsAt mg P)(k:∀b o,h.get? b=some o->h'.get? b=some o):h'.BuiltinsAt mg P:=
 let⟨bm,o,a,b,c,d,e,r⟩:=x;⟨bm,o,a,b,c,d,k _ _ e,r⟩
section
variable{X:Cx}{scope:dQ}{aa:O0}{σ:St}{H:Hp}{s:τ}{c P:ag}{pos:eJ}{params:Arguments}{body:bp}{A:bt}{E:S0}{Q:S0}
theorem QC(I:Inv X aa σ H s)(L:Eo X.base X.mg c P)(hcode:X.env.code=.ref c)(hT:jK H P pos (X.env.qual++"<lambda>"))(ck:fL X.env.scope scope=true)(hdef:defaultsOf params X.env=([],[]))(h:∀(f c':ag) (pm ctv:ρ) (H':Hp) (s':τ),Inv X aa σ H' s'->(∀b o,b≠P->H b=some o->H' b=some o)->jK H' P pos (X.env.qual++"<lambda>")->s'.heap.get? f=some (jn "<lambda>" (X.env.qual++"<lambda>") params body scope (fZ X.env.cells scope.names []) pm c' ctv)->
   H' f=none->s.heap.objs.size<=f->(∃(oc:ki) (vs:Array ρ) (tq:Tok),H' c'=some (.frz oc (.own 0))/\oc.data=.fields vs/\vs[1]? =some (.str (X.env.qual++"<lambda>") tq))->Q (.ref f) s'):
  ai (ar X.prog X.w) A (bQ (.Lambda params body scope pos) X.env) Q E s:=by
 refine W.kla_eval hdef ?_;have hcl:closureFor scope X.env=pure (fZ X.env.cells scope.names []):=p8 λx hx=>I.ok.has x (fL.free ck hx);have hg:s.heap.Ns av X.mg:=I.mod.glob.keeps I.bk;have C:=L.hd.keeps I.bk;have B:=BuiltinsAt.keeps L.blt I.bk;rcases hT with hT|⟨c',oc,vs,tq,hT,hC,hd,hv⟩
 ·have hP:s.heap.get? P=some (iE #[]):=I.hok P _ hT;refine W.kla_makeFunction (ps:=#[]) hcl I.ok.glob hg hcode C hP trivial rfl L.ne B λc' ctv h' tk hx hge hlt hrec htb=>?_;obtain⟨c₂,oc,vs,tq,e2,hoc,hd,hv⟩:=id hrec;cases e2;have cP:c'≠P:=xg (jA (dJ hP) hge);have old:∀b o,s.heap.get? b=some o->b≠c':=λb o e=>fu (jA (dJ e) hge);have hc0:H c'=none:=I.hok.fresh hge;have kp:∀b o,b≠P->s.heap.get? b=some o->(h'.push (jn "<lambda>" (X.env.qual++"<lambda>") params body scope (fZ X.env.cells scope.names []) ((X.mg "__name__").getD .none) c' ctv)).get? b=some o:=λb o hb e=>cR _ (hx b o hb e);have nP:∀b o,H b=some o->o≠.tbl #[]->b≠P:=λb o e n z=>by rw[z,hT]at e;cases e;exact n rfl
  have eH:∀b,b≠P->b≠c'->upd (upd H P (.tbl (#[]++#[cK pos.line,cK pos.col,.ref c']))) c' (.frz oc (.own 0)) b=H b:=λb h1 h2=>by rw[cF h2,cF h1]
  have eP:upd (upd H P (.tbl (#[]++#[cK pos.line,cK pos.col,.ref c']))) c' (.frz oc (.own 0)) P=some (.tbl (#[]++#[cK pos.line,cK pos.col,.ref c'])):=by rw[cF cP.symm,aK]
  have J:Inv X aa σ (upd (upd H P (.tbl (#[]++#[cK pos.line,cK pos.col,.ref c']))) c' (.frz oc (.own 0))) {s with heap:=h'.push (jn "<lambda>" (X.env.qual++"<lambda>") params body scope (fZ X.env.cells scope.names []) ((X.mg "__name__").getD .none) c' ctv),toks:=tk}:=by
   refine I.un (h':=h'.push _) (t':=tk) ⟨λb o e n hb he=>kp b o (λz=>by rw[z,hT]at n;cases n) e,λb o e n hb he=>⟨o.slots,kp b o (λz=>by rw[z,hT]at n;cases n) e⟩,λb o e n he=>?_,λb o e he=>?_,λb xs e=>?_,λb o u e=>?_,λb ps e=>?_⟩ λb u e=>?_
   ·rw[eH b (λz=>by rw[z,hT]at n;cases n) (old b o e)];exact n
   ·by_cases hb:b=P
    ·subst hb;exact⟨_,cR _ htb⟩
    ·exact⟨o,kp b o hb e⟩
   ·rw[eH b (nP b _ e (λz=>nomatch z)) (oA e hc0)];exact e
   ·rw[eH b (nP b _ e (λz=>nomatch z)) (oA e hc0)];exact e
   ·by_cases hb:b=P
    ·subst hb;rw[hT]at e;cases e;exact⟨_,eP⟩
    ·exact⟨#[],by rw[eH b hb (oA e hc0),e];simp⟩
   ·by_cases hb:b=P
    ·subst hb;rw[eP]at e;cases e;exact cR _ htb
    ·by_cases hb2:b=c'
     ·subst hb2;rw[aK]at e;cases e;exact⟨cR _ hoc,⟨_,cR _ hoc⟩⟩
     ·rw[eH b hb hb2]at e;have ow:∀z,H z=some (.own b)->z≠P/\z≠c':=λz e=>⟨nP z _ e (λq=>nomatch q),oA e hc0⟩;refine(I.hok b u e).stay (λz o hz q=>kp z o ?_ q) (λz q=>by rw[eH z (ow z q).1 (ow z q).2];exact q) λz xs q=>by rw[eH z (nP z _ q (λq=>nomatch q)) (oA q hc0)];exact q
      rcases hz with hz|hz
      ·rw[hz];exact hb
      ·exact(ow z hz).1
  have hsz:s.heap.objs.size<=h'.objs.size:=dW (Jb hge hlt);refine h h'.objs.size c' _ ctv _ _ J (λb o hb e=>by rw[eH b hb (oA e hc0)];exact e) (.inr ⟨c',oc,vs,tq,by rw[eP];simp,aK,hd,hv⟩) (iQ _ rfl) ?_ hsz ⟨oc,vs,tq,aK,hd,hv⟩;rw[eH _ (xg (jA (dJ hP) hsz)) (xg hlt)];exact I.hok.fresh hsz
 ·have hP:s.heap.get? P=some (iE #[cK pos.line,cK pos.col,.ref c']):=I.hok P _ hT;have hc:s.heap.get? c'=some oc:=(I.hok c' _ hC).1;refine W.kla_makeFunctionHit (ps:=#[cK pos.line,cK pos.col,.ref c']) (cv:=.ref c') hcl I.ok.glob hg hcode C hP trivial (by simp[codeAmong,cK]) B λctv h' tk hk hsz=>?_;have kp:∀b o,s.heap.get? b=some o->(h'.push {cls:=.type "function",data:=.func (W.kla_fn "<lambda>" (X.env.qual++"<lambda>") params body scope (fZ X.env.cells scope.names []) ((X.mg "__name__").getD .none) (.ref c') ctv)}).get? b=some o:=λb o e=>cR _ (hk b o e);exact h h'.objs.size c' _ ctv H _ (I.kept (h':=h'.push _) (t':=tk) kp) (λb o _ e=>e) (.inr ⟨c',oc,vs,tq,hT,hC,hd,hv⟩) (iQ _ rfl) (I.hok.fresh hsz) hsz ⟨oc,vs,tq,hC,hd,hv⟩
end
structure tG(X:Cx)(aa:O0)(I:ag):Prop where
 lo:X.s₀.heap.objs.size<=I
 loc:I≠X.env.locals
 fs:I∉X.fs
 cl:∀x c,X.env.cells.lookup x=some c->c≠I
 pn:∀p∈X.pn++aa,p.1≠I
section
variable{X:Cx}{σ:St}{H:Hp}{s:τ}{aa:O0}
theorem tG.new{I:ag}(J:Inv X aa σ H s)(h:s.heap.objs.size<=I):tG X aa I:=by
 refine⟨dH J.sz h,xg (jA J.lt h),J.nofs h,λx c e=>?_,λp hp=>fu (jA (dJ (J.pin p hp).1) h)⟩;obtain⟨v,o,ho,_⟩:=J.cell x c e;exact fu (jA (dJ ho) h)
theorem Inv.tW(J:Inv X (p::aa) σ H s):Inv X aa σ H s:=J.pins_of λq hq=>J.pin q (lR _ (fB _ hq))
theorem Inv.Cp(J:Inv X ((I,o)::aa) σ H s)(m:tG X aa I)(k:∀b x,b≠I->s.heap.get? b=some x->h'.get? b=some x)(e:h'.get? I=some o')(d:∀v,o'.data≠.cell v):
  Inv X ((I,o')::aa) σ H {s with heap:=h',toks:=tk}:=by
 have hI:=J.pin (I,o) (lR _ dZ);have K:=(J.tW).turned (t':=tk) (it:=I) k hI.2.1 m.loc (.inr m.lo) m.cl m.pn;refine K.pins_of λq hq=>?_;rcases cZ.mp hq with z|z
 ·subst z;exact⟨e,hI.2.1,m.loc,m.fs,d⟩
 ·exact K.pin q (lR _ z)
theorem Inv.swap(J:Inv X (p::q::aa) σ H s):Inv X (q::p::aa) σ H s:=J.pins_of λr hr=>J.pin r (lR _ (by
 rcases cZ.mp hr with z|z
 ·rw[z];exact fB _ dZ
 ·rcases cZ.mp z with z|z
  ·rw[z];exact dZ
  ·exact fB _ (fB _ z)))
theorem tG.under(m:tG X aa I)(n:p.1≠I):tG X (p::aa) I:=⟨m.lo,m.loc,m.fs,m.cl,λq hq=>by
 rcases oE.mp hq with z|z
 ·exact m.pn q (SN _ z)
 ·rcases cZ.mp z with z|z
  ·rw[z];exact n
  ·exact m.pn q (lR _ z)⟩
theorem Ab(T):∀v,(b9 T a k).data≠.cell v:=λv z=>by
 have z':ij a k=kn v:=z;cases z'
variable{I S f l:ag}{fo:ki}{vs:List ρ}{RR:Result->τ->Prop}
theorem U4(kf:Nat->Int)(R:Nat->Hp->Prop)(hA:X.A.handled=none)(mI:tG X ((f,fo)::aa) I)(mS:tG X ((f,fo)::aa) S)(nSI:S≠I)(nlI:l≠I)(hl:∀j H s,Inv X ((f,fo)::aa) σ H s->R j H->s.heap.IsList l vs.toArray)(turn:∀j v (ps:O0) H s,vs[j]? =some v->Inv X ps σ H s->(f,fo)∈ps->R j H->ai (ar X.prog X.w) X.A.in1 (call (.ref f) [v]) (λu s'=>∃H' t,u=.int (kf j) t/\Inv X ps σ H' s'/\R (j+1) H') (λ_ _=>False) s)(hR:∀i v H' s',vs[i]? =some v->(∀j,j<vs.length->kf i<=kf j/\(j<i->kf i<kf j))->Inv X aa σ H' s'->R vs.length H'->RR (.ok (.ret v)) s'):
  ∀(r j i:Nat) (H:Hp) (s:τ) (vb:ρ) (tb:Tok) (c:Nat) (oI:ki),vs.length-(j+1)=r->j+1<=vs.length->Inv X ((I,oI)::(S,b9 "list" #[vb,.int (kf i) tb] c)::(f,fo)::aa) σ H s->R (j+1) H->s.heap.IsListIter I l (j+1)->vs[i]? =some vb->i<=j->(∀j',j'<=j->kf i<=kf j'/\(j'<i->kf i<kf j'))->
   eM (ar X.prog X.w) X.A (.builtin "min.loop" ⟨[.ref I,.ref f,.ref S],[]⟩) RR s:=by
 have nm:(toString "min"++toString ".loop":String)="min.loop":=by decide
 have W:=EU (prog:=X.prog) (w:=X.w) (A:=X.A.in1) hA I l nlI vs.toArray;have zs:vs.toArray.size=vs.length:=gM ..;have m2:∀o,tG X ((S,o)::(f,fo)::aa) I:=λo=>mI.under (p:=(S,o)) nSI;have m3:∀o,tG X ((I,o)::(f,fo)::aa) S:=λo=>mS.under (p:=(I,o)) nSI.symm;intro r
 induction r with
 |zero=>
  intro j i H s vb tb c oI hr hj J hRj hit hvb hij hbest;have pS:=(J.pin _ (lR _ (fB _ dZ))).1;refine MN NF (by
   rw[Ws XC _];show ai _ X.A.in1 (seqItems? (.ref S)>>=_) _ _ _;refine ao (S6 pS rfl (?_));show ai _ X.A.in1 (tryCatch (fc (.ref I)) _>>=_) _ _ _;refine ao (EX (W.done _ _ _ ⟨by rw[zs,<-show j+1=vs.length by omega];exact hit,hl (j+1) H s J.tW.tW hRj⟩ λh' tk' hk'=>?_));have k1:∀b x,b≠I->s.heap.get? b=some x->h'.get? b=some x:=λb x hb e=>hk' b x (λz=>hb (jw.mp z)) e;have pI:=J.pin (I,oI) (lR _ dZ);have J1:Inv X ((S,b9 "list" #[vb,.int (kf i) tb] c)::(f,fo)::aa) σ H {s with heap:=h',toks:=tk'}:=J.tW.turned (t':=tk') (it:=I) k1 pI.2.1 mI.loc (.inr mI.lo) mI.cl (m2 _).pn;have g:=(J1.pin _ (lR _ dZ)).1;show ai _ X.A.in1 (updateSeq S (λ_=>#[])>>=_) _ _ _;refine ao (MM g rfl (ao (Wn (aM ?_))));have sb:=M5 h' S (ay λ_=>(#[]:Array ρ));have J2:=(J1.Cp (o':=b9 "list" #[] _) (tk:=tk') mS (λb x hb e=>(sb.2 b hb).trans e) (Xx g λ_=>#[]) (Ab _));exact hR i vb H _ hvb (λj' hj'=>hbest j' (by omega)) J2.tW.tW (by rw[<-show j+1=vs.length by omega];exact hRj))
 |succ r ih=>
  intro j i H s vb tb c oI hr hj J hRj hit hvb hij hbest;have hlt:j+1<vs.length:=by omega
  have pS:=(J.pin _ (lR _ (fB _ dZ))).1;refine MN NF (by
   rw[Ws XC _];show ai _ X.A.in1 (seqItems? (.ref S)>>=_) _ _ _;refine ao (S6 pS rfl (?_));show ai _ X.A.in1 (tryCatch (fc (.ref I)) _>>=_) _ _ _;refine ao (EX (W.item (j+1) _ _ _ (by rw[zs];exact hlt) ⟨hit,hl (j+1) H s J.tW.tW hRj⟩ λv h' tk' hP hst' hk'=>?_));have hv:vs[j+1]? =some v:=(by simpa using hP);have k1:∀b x,b≠I->s.heap.get? b=some x->h'.get? b=some x:=λb x hb e=>hk' b x (λz=>hb (jw.mp z)) e;obtain⟨oI',hoI,hoc,hod⟩:=id hst'.1;have J1:=J.Cp (o':=oI') (tk:=tk') (m2 _) k1 hoI (λv z=>by rw[hod]at z;cases z);show ai _ X.A.in1 (tryCatch (eu [v] (call (.ref f) [v])) _>>=_) _ _ _;refine ao (EX (yX (Jd (turn (j+1) v _ H _ hv J1 (fB _ (fB _ dZ)) hRj) (λu s2 z=>?_) λ_ _ z=>z.elim)));obtain⟨H2,t2,rfl,J2,hR2⟩:=z;have hit2:s2.heap.IsListIter I l (j+1+1):=⟨oI',(J2.pin _ (lR _ dZ)).1,hoc,hod⟩;have g:=(J2.pin _ (lR _ (fB _ dZ))).1;show ai _ X.A.in1 (tryCatch (eu [v,.int (kf (j+1)) t2] (richCompare .Lt (.int (kf (j+1)) t2) (.int (kf i) tb)>>=_)) _>>=_) _ _ _;refine ao (EX (yX (ao (CmpOf.ints_lt (prog:=X.prog) (w:=X.w) (A:=X.A.in1) (P:=λi v=>∃t,v=.int (kf i) t) kf (λi v h=>h) (j+1) i _ _ _ _ _ ⟨t2,rfl⟩ ⟨tb,rfl⟩ (ao (yX (M4 (ao (Wn (aM ?_))))))))));by_cases hb:kf (j+1)<kf i
   ·have sb:=M5 s2.heap S (ay λ_=>#[v,.int (kf (j+1)) t2]);simp only[hb,decide_true,Fv];refine ao (MM g rfl (ao (Wn ?_)));rw[nm];have J3:=(J2.swap.Cp (o':=b9 "list" #[v,.int (kf (j+1)) t2] _) (tk:=s2.toks) (m3 _) (λb x hb e=>(sb.2 b hb).trans e) (Xx g λ_=>#[v,.int (kf (j+1)) t2]) (Ab _)).swap;refine aM ⟨Xw XC _,ih (j+1) (j+1) H2 _ v t2 _ oI' (by omega) hlt J3 hR2 ⟨oI',(J3.pin _ (lR _ dZ)).1,hoc,hod⟩ hv (aP _) λj' hj'=>?_⟩;by_cases e:j'=j+1
    ·subst e;exact⟨u5 _,λz=>absurd z (u6 _)⟩
    ·have q:=(hbest j' (by omega)).1;exact⟨by omega,λ_=>by omega⟩
   ·simp only[hb,decide_false,KU,Wk];refine ao (Wn (?_));rw[nm];refine aM ⟨Xw XC _,ih (j+1) i H2 _ vb tb c oI' (by omega) hlt J2 hR2 hit2 hvb (by omega) λj' hj'=>?_⟩;by_cases e:j'=j+1
    ·subst e;exact⟨by omega,λz=>by omega⟩
    ·exact hbest j' (by omega))
theorem Qs{Q:S0}{E:S0}(kf:Nat->Int)(R:Nat->Hp->Prop)(hA:X.A.handled=none)(hne:0<vs.length)(J:Inv X ((f,fo)::aa) σ H s)(hR0:R 0 H)(hl:∀j H s,Inv X ((f,fo)::aa) σ H s->R j H->s.heap.IsList l vs.toArray)(turn:∀j v (ps:O0) H s,vs[j]? =some v->Inv X ps σ H s->(f,fo)∈ps->R j H->ai (ar X.prog X.w) X.A.in1 (call (.ref f) [v]) (λu s'=>∃H' t,u=.int (kf j) t/\Inv X ps σ H' s'/\R (j+1) H') (λ_ _=>False) s)(hQ:∀i v H' s',vs[i]? =some v->(∀j,j<vs.length->kf i<=kf j/\(j<i->kf i<kf j))->Inv X aa σ H' s'->R vs.length H'->Q v s'):
  ai (ar X.prog X.w) X.A (call (.builtin "min") [.ref l] [(bO "key",.ref f)]) Q E s:=by
 have nm:(toString "min"++toString ".loop":String)="min.loop":=by decide
 have hls:=hl 0 H s J hR0;obtain⟨ol,hol,_⟩:=id hls;have nlI:l≠s.heap.objs.size:=fu (dJ hol);refine kmb_tree PySem.F.kind_min PySem.F.plain_min PySem.F.entry_min (kmb_min_key _ _) (by
  show ai _ X.A.in1 (Builtin.Builtins.bindParams "min" ["key","default"] 0 ⟨[],[(bO "key",.ref f)]⟩>>=_) _ _ s;refine ao (IQ (show Builtin.Builtins.bindParams "min" ["key","default"] 0 ⟨[],[(bO "key",.ref f)]⟩=pure [some (.ref f),none]from rfl) (ao (aM (ao (Xz hls (ao (FV ?_ (dX _))))))));rw[nm];have zS:(s.heap.push {cls:=.type "list_iterator",data:=.fields #[.ref l,.int 0 0]}).objs.size=s.heap.objs.size+1:=size_push' ..;rw[zS];have k0:∀b o,s.heap.get? b=some o->((s.heap.push {cls:=.type "list_iterator",data:=.fields #[.ref l,.int 0 0]}).push (b9 "list" #[] 0)).get? b=some o:=λb o e=>cR _ (cR _ e);have gI0:((s.heap.push {cls:=.type "list_iterator",data:=.fields #[.ref l,.int 0 0]}).push (b9 "list" #[] 0)).get? s.heap.objs.size=some {cls:=.type "list_iterator",data:=.fields #[.ref l,.int 0 0]}:=cR _ (iQ _ rfl);have gS:((s.heap.push {cls:=.type "list_iterator",data:=.fields #[.ref l,.int 0 0]}).push (b9 "list" #[] 0)).get? (s.heap.objs.size+1)=some (b9 "list" #[] 0):=by rw[<-zS];exact iQ _ rfl
  have mI:=tG.new J (aP _);have mS:=tG.new J (Bx s.heap.objs.size);have nSI:s.heap.objs.size+1≠s.heap.objs.size:=xg (wY _);have Jk:Inv X ((f,fo)::aa) σ H {s with heap:=(s.heap.push {cls:=.type "list_iterator",data:=.fields #[.ref l,.int 0 0]}).push (b9 "list" #[] 0),toks:=s.toks}:=J.kept k0;have JI:Inv X ((s.heap.objs.size,{cls:=.type "list_iterator",data:=.fields #[.ref l,.int 0 0]})::(s.heap.objs.size+1,b9 "list" #[] 0)::(f,fo)::aa) σ H {s with heap:=(s.heap.push {cls:=.type "list_iterator",data:=.fields #[.ref l,.int 0 0]}).push (b9 "list" #[] 0),toks:=s.toks}:=Jk.pins_of λq hq=>by
   rcases cZ.mp hq with z|z
   ·subst z;exact⟨gI0,J.hok.fresh (aP _),mI.loc,mI.fs,λv z=>by have z':fN #[aI l,.int 0 0]=kn v:=z;cases z'⟩
   ·rcases cZ.mp z with z|z
    ·subst z;exact⟨gS,J.hok.fresh (Bx _),mS.loc,mS.fs,Ab _⟩
    ·exact Jk.pin q (lR _ z)
  have W:=EU (prog:=X.prog) (w:=X.w) (A:=X.A.in1) hA s.heap.objs.size l nlI vs.toArray;refine aM ⟨Xw XC _,MN NF ?_⟩;rw[Ws XC _];show ai _ X.A.in1 (seqItems? (.ref (s.heap.objs.size+1))>>=_) _ _ _;refine ao (S6 gS rfl (?_));show ai _ X.A.in1 (tryCatch (fc (.ref s.heap.objs.size)) _>>=_) _ _ _;refine ao (EX (W.item 0 _ _ _ (by rw[gM];exact hne) ⟨⟨_,gI0,rfl,rfl⟩,hl 0 H _ Jk hR0⟩ λv h' tk' hP hst' hk'=>?_));have hv:vs[0]? =some v:=(by simpa using hP);obtain⟨oI',hoI,hoc,hod⟩:=id hst'.1;have J1:=JI.Cp (o':=oI') (tk:=tk') (mI.under (p:=(s.heap.objs.size+1,b9 "list" #[] 0)) nSI) (λb x hb e=>hk' b x (λz=>hb (jw.mp z)) e) hoI (λv z=>by rw[hod]at z;cases z);show ai _ X.A.in1 (tryCatch (eu [v] (call (.ref f) [v])) _>>=_) _ _ _;refine ao (EX (yX (Jd (turn 0 v _ H _ hv J1 (fB _ (fB _ dZ)) hR0) (λu s2 z=>?_) λ_ _ z=>z.elim)));obtain⟨H2,t2,rfl,J2,hR2⟩:=z;have g:=(J2.pin _ (lR _ (fB _ dZ))).1;have sb:=M5 s2.heap (s.heap.objs.size+1) (ay λ_=>#[v,.int (kf 0) t2]);show ai _ X.A.in1 (updateSeq (s.heap.objs.size+1) (λ_=>#[v,.int (kf 0) t2])>>=_) _ _ _;refine ao (MM g rfl ?_);rw[nm];have J3:=(J2.swap.Cp (o':=b9 "list" #[v,.int (kf 0) t2] _) (tk:=s2.toks) (mS.under (p:=(s.heap.objs.size,oI')) nSI.symm) (λb x hb e=>(sb.2 b hb).trans e) (Xx g λ_=>#[v,.int (kf 0) t2]) (Ab _)).swap;exact aM ⟨Xw XC _,U4 kf R hA mI mS nSI nlI hl turn hQ _ 0 0 H2 _ v t2 _ oI' rfl hne J3 hR2 ⟨oI',(J3.pin _ (lR _ dZ)).1,hoc,hod⟩ hv (aP _) λj' hj'=>by
   have e:j'=0:=by omega
   subst e;exact⟨u5 _,λz=>absurd z (u6 _)⟩⟩)
end
noncomputable def TQ(K:af)(P:ag)(pos:eJ)(qual:be)(ix:List Nat)(ta:TA)(te:TE):TE:=λσ H Q=>ta σ H λvs H1=>∃(l:ag) (ae:List (ag×ζ)),vs=[.ref l]/\ja K H1 l (ae.map λp=>V.ref p.1)/\ae≠[]/\jK H1 P pos qual/\
 ∃(kf:Nat->Int) (R:Nat->Hp->Prop),(∀H2,(∀b o,b≠P->H1 b=some o->H2 b=some o)->jK H2 P pos qual->R 0 H2)/\(∀j H,R j H->ja K H l (ae.map λp=>V.ref p.1))/\
  (∀j p H,ae[j]? =some p->R j H->te (Hq ix σ (.ref p.1)) H λv H'=>v=.int (kf j)/\R (j+1) H')/\
  ∀i p H,ae[i]? =some p->(∀j,j<ae.length->kf i<=kf j/\(j<i->kf i<kf j))->R ae.length H->Q (.ref p.1) H
theorem xY:∀{ae:List (ag×ζ)}{us:List ρ},iN (ae.map λp=>V.ref p.1) us->us=ae.map λp=>aI p.1
 |[],_,h=>by cases h;rfl
 |p::ae,_,h=>by
  cases h with
  |cons r t=>rw[xY t];cases r;rfl
section
variable{X:Cx}{a body:bp}{ta:TA}{te:TE}{p kp pos aaG:eJ}{k:Nat}{scope:dQ}{caps:List be}{ix:List Nat}{y:be}{params:Arguments}{c P:ag}
theorem Lb(L:Eo X.base X.mg c P)(hcode:X.env.code=.ref c)(hc:X.calm=true)(hr:qo (k+2) X.A)(hg:Gl X "min")(hm:X.mg "min"=none)(ha:PA X [a] ta)(hcap:iR X scope caps ix)(he:∀s H f cd,qo k (JR X X.A.in1 (y::caps) s H (v9 X scope s f cd)).A->PE (JR X X.A.in1 (y::caps) s H (v9 X scope s f cd)) body te)(ck:fL X.env.scope scope=true:=by rfl)(hkind:scope.kind=.function:=by rfl)(hy:scope.names.lookup y=some .local:=by rfl)(hco:scope.isCoroutine=false:=by rfl)(hgen:scope.isGenerator=false:=by rfl)(hdef:defaultsOf params X.env=([],[]):=by rfl)(hbind:∀(q:be) (cl:List (be×ag)) (pm cd ct u:ρ),fi (W.kla_fn "<lambda>" q params body scope cl pm cd ct) ⟨[u],[]⟩=pure [(y,u)]:=by intros;rfl)(he1:dC pos (ax [a] X.env)=(false,bQ a X.env)::dC pos (ax [] X.env):=by rfl)(hp:(dC pos (ax [a] X.env)).any (·.1)=false:=by rfl):PE X (.Call (.Name "min" p) [a] [⟨some "key",.Lambda params body scope aaG,kp⟩] pos) (TQ X.K P aaG (X.env.qual++"<lambda>") ix ta te):=by
 intro aa s σ H Q I h;refine S9 (Bv I hg hm (show br "min"=some (.builtin "min")from by decide+kernel) ?_ (by decide) (by decide));refine PyProof.Rows.callWith_kw (pw (ha pos aa s σ H _ I h) λus s1 ⟨vs,H1,I1,r1,q1⟩=>kws_cons ?_) he1 hp;obtain⟨l,ae,e,hq,hne,hL,kf,R,hR0,hRl,hturn,q⟩:=q1;subst e;cases r1 with
 |cons r rr=>
  cases rr;cases r;refine QC (params:=params) (body:=body) I1 L hcode hL ck hdef λf c' pm ctv H2 s2 I2 hS hL2 ho hf hge hrec=>kws_nil ?_;have mF:=tG.new I1 hge;have J:Inv X ((f,jn "<lambda>" (X.env.qual++"<lambda>") params body scope (fZ X.env.cells scope.names []) pm c' ctv)::aa) σ H2 s2:=I2.pins_of λz hz=>by
   rcases cZ.mp hz with z|z
   ·subst z;exact⟨ho,hf,mF.loc,mF.fs,λv z=>nomatch z⟩
   ·exact I2.pin _ (lR _ z)
  obtain⟨oc,ocv,tq,hC,hd,hv⟩:=hrec;have aaH:(ae.map λp=>aI p.1).length=ae.length:=aD _;show ai (ar X.prog X.w) X.A (call (.builtin "min") [.ref l] [(bO "key",.ref f)]) (EP X aa σ Q) X.xe s2;refine Qs (vs:=ae.map λp=>aI p.1) kf (λj H=>R j H/\H c'=some (.frz oc (.own 0))) (I.ok.hd hc) (by rw[aaH];exact List.length_pos_iff.mpr hne) J ⟨hR0 H2 hS hL2,hC⟩ (λj H s J hj=>?_) (λj v ps H s hv' J hm hj=>?_) λi v H' s' hv' hb J hj=>?_
  ·obtain⟨ws,rv,pl,hz⟩:=J.list (hRl j H hj.1);rw[xY rv]at pl;exact pl.isList
  ·rw[dI]at hv';cases ej:ae[j]? with
   |none=>rw[ej]at hv';cases hv'
   |some p=>
    rw[ej]at hv';cases hv';have hf:=(J.pin _ (lR _ hm)).1;have hcd:s.heap.CodeRec (.ref c') (X.env.qual++"<lambda>"):=⟨c',oc,ocv,tq,rfl,(J.hok c' _ hj.2).1,hd,hv⟩;refine Jd (Ve (A:=X.A.in1) (v:=.ref p.1) ck hkind hcap hy hco hgen hr.in1 J.env0.in1.frames (he _ _ _ _ (hr.in1.deeper _)) J rfl hf hcd hbind (hturn j p H ej hj.1)) (λu s' z=>?_) λ_ _ z=>z.elim;obtain⟨w,H',J',rw',⟨rfl,hR'⟩,hfz⟩:=z;obtain⟨t,rfl⟩:=rw';exact⟨H',t,rfl,J',hR',hfz _ _ _ hj.2⟩
  ·rw[dI]at hv';cases ei:ae[i]? with
   |none=>rw[ei]at hv';cases hv'
   |some p=>
    rw[ei]at hv';cases hv';rw[aaH]at hb hj;exact⟨.ref p.1,H',J,rfl,q i p H' ei hb hj.1⟩
end
noncomputable def Kd(T:ag)(H:Hp):Prop:=H T=some (.tbl #[])/\∀b,b≠T->H b=none\/∃o xs,H b=some (.frz o (.lst xs))
theorem LQ{P:υ}{w:ψ}{K:af}{mg mb:D0}{CX:B7}{k:Nat}{fa a c T:ag}{fd:χ}{x:be}{sp:Sp}{s₁:τ}{vs:List ρ}{ns:ζ}
  (KX:K.In s₁.heap)(hT:W.CodeHd s₁.heap c T)(hT0:s₁.heap.get? T=some (iE #[]))(hKT:K.lookup T=none)(hbm:∃bm ob,mg "__builtins__"=some (.ref bm)/\bm≠gz/\s₁.heap.get? bm=some ob/\ob.cls=.type "module"/\ob.dict=some gz/\ob.data=.plain)(hns:s₁.heap.Ns av mg)(hb:s₁.heap.Ns gz mb)(hbb:∀x:be,x≠"__name__"->mb x=br x)(hlim:s₁.heap.NoLimit)(hg:s₁.gens=#[])(ha:s₁.heap.get? a=some {cls:=.type "list",data:=.seq vs.toArray})(hi:bP vs ns)(hl:ns.length<=sizeLine)(hr:qo k iX)
  (F:∀base:bn,K.In base->base.Ns av mg->Eo base mg c T->gx P w K mg base CX k fa fd [x] sp)(hbind:∀(s:τ) (u:ρ),kx s fd ⟨[u],[]⟩ [(x,u)])(hsp:∀H:Hp,Kd T H->ja K H a (ns.map V.int)->sp [.ref a] H (λv _=>v=.bl true) λ_ _ _=>False)(hCX:∀H e s',CX [] H s₁ (λ_ _ _=>False) e s'->False):
  eM (ar P w) iX (.call (.ref fa) ⟨[.ref a],[]⟩) (λr s'=>r=.ok (.ret (.bool true))/\OldK s₁.heap s'.heap/\s'.os=s₁.os/\fI s'.gens) s₁:=by
 have rv:=wn hi;have lenV:=hi.length;have aT:a≠T:=λe=>by rw[e,hT0]at ha;cases ha
 have core:∀H:Hp,Kd T H->ja K H a (ns.map V.int)->tx P w H s₁.heap->(∀b,H b≠none->b=a\/b=T)->(H a≠none->K.lookup a=none)->
   eM (ar P w) iX (.call (.ref fa) ⟨[.ref a],[]⟩) (λr s'=>r=.ok (.ret (.bool true))/\OldK s₁.heap s'.heap/\s'.os=s₁.os/\fI s'.gens) s₁:=by
  intro H hO hS hok hA hK;have base_of:∀{b:ag}{o:ki},s₁.heap.get? b=some o->H b=none->(wc s₁.heap H).get? b=some o:=λe n=>BS e n;have noA:∀{b:ag}{o:ki},s₁.heap.get? b=some o->(∀vs n,o.data≠.seq vs n)->o.cls≠.none->H b=none:=λ{b o} e d d2=>by
   cases q:H b with
   |none=>rfl
   |some u=>
    rcases hA b (by rw[q];simp)with e'|e'
    ·subst e';rw[ha]at e;cases e;exact absurd rfl (d _ _)
    ·subst e';rw[hT0]at e;cases e;exact absurd rfl d2
  have noD:∀{b:ag}{o:ki}{es:Array ik}{ep:Nat},s₁.heap.get? b=some o->o.data=.dict es ep->H b=none:=λ{b o es ep} e d=>by
   cases q:H b with
   |none=>rfl
   |some u=>
    rcases hA b (by rw[q];simp)with e'|e'
    ·subst e';rw[ha]at e;cases e;have d':ij vs.toArray _=Data.dict es ep:=d;cases d'
    ·subst e';rw[hT0]at e;cases e;have d':fN (#[]:Array ρ)=Data.dict es ep:=d;cases d'
  have nsK:∀{b:ag}{m:D0},s₁.heap.Ns b m->(wc s₁.heap H).Ns b m:=λ{b m} ⟨o,es,ep,e,d,r⟩=>⟨o,es,ep,base_of e (noD e d),d,r⟩;have hKb:K.In (wc s₁.heap H):=λb o e=>base_of (KX b o e) (by
   cases q:H b with
   |none=>rfl
   |some u=>
    rcases hA b (by rw[q];simp)with e'|e'
    ·subst e';rw[hK (by rw[q];simp)]at e;cases e
    ·subst e';rw[hKT]at e;cases e)
  have gT:av≠T:=λz=>by
   obtain⟨o,es,ep,e,d,_⟩:=hns;rw[z,hT0]at e;cases e;have d':fN (#[]:Array ρ)=Data.dict es ep:=d;cases d'
  have hM:Mod K mg (wc s₁.heap H):=⟨hKb,nsK hns,⟨mb,nsK hb,hbb⟩,let⟨mc,h1,h2⟩:=hlim;⟨mc,nsK h1,h2⟩⟩;have hLB:Eo (wc s₁.heap H) mg c T:=by
   refine⟨?_,?_,gT⟩
   ·obtain⟨o,vs,file,tf,flags,tg,inF,text,tt,e1,r1,r2,r⟩:=hT;exact⟨o,vs,file,tf,flags,tg,inF,text,tt,base_of e1 (noA e1 (λvs n z=>by rw[r2]at z;cases z) (by rw[r1];exactλz=>nomatch z)),r1,r2,r⟩
   ·obtain⟨bm,ob,b1,b2,b3,b4,b5,b6⟩:=hbm;refine⟨bm,ob,b1,b2,λz=>?_,λz=>?_,base_of b3 (noA b3 (λvs n z=>by rw[b6]at z;cases z) (by rw[b4];exactλz=>nomatch z)),b4,b5,b6⟩
    ·obtain⟨o,es,ep,e,d,_⟩:=hns;rw[<-z,b3]at e;cases e;rw[b6]at d;cases d
    ·rw[z,hT0]at b3;cases b3;cases b4
  have e0:we P w K mg (wc s₁.heap H) iX [] s₁ H:=⟨rfl,hM,λb o e=>CF e,Ja (AR _ _),trivial,λb hb=>absurd (show b∈([]:η)from hb) (by simp),hok,.of_eq hg⟩;refine SX ((F _ hKb (nsK hns) hLB).run iX [] s₁ H ⟨[.ref a],[]⟩ [.ref a] [.ref a] _ _ hr e0 (hbind s₁ (.ref a)) (.cons rfl .nil) (hsp H hO hS)) λr s' h=>?_;cases r with
  |error e=>exact(hCX H e s' h).elim
  |ok fl=>
   cases fl with
   |next=>exact bS h
   |brk=>exact bS h
   |cont=>exact bS h
   |ret u=>
    obtain⟨v,H',os,bare,un,hok',r',q⟩:=h;have q':v=.bl true:=q;subst q';obtain rfl:u=hU true:=r';refine⟨rfl,⟨λb o e=>?_,λb o e=>un.there b o e (by simp)⟩,os,bare⟩;by_cases hbT:b=T
    ·subst hbT;obtain⟨more,z⟩:=un.tbls b _ hO.1;have z2:s'.heap.get? b=some (iE (#[]++more)):=hok' b _ z;rw[hT0]at e;cases e;exact .inr (.inl ⟨(hT.tab hT0).isCodeTable,rfl,#[],more,rfl,z2⟩)
    ·refine .inl ?_;cases q:H b with
     |none=>exact un.keep b o e q (by intro z;exact absurd (show b∈([]:η)from z) (by simp)) (by simp)
     |some u=>
      rcases hO.2 b hbT with z|⟨ob,xs,z⟩
      ·rw[q]at z;cases z
      ·have z2:=un.frzs b ob _ z;obtain⟨e1,_⟩:=hok b _ z;obtain⟨e2,_⟩:=hok' b _ z2;rw[e]at e1;cases e1;exact e2
 cases hk:K.lookup a with
 |some o=>
  have e:=KX a o hk;rw[ha]at e;cases e;refine core (λb=>if b=T then some (.tbl #[])else none) ⟨au rfl,λb hb=>.inl (aq hb)⟩ (.inr ⟨_,vs.toArray,_,hk,rfl,rfl,rfl,by rw[gM,lenV];exact hl,by simpa using rv⟩) (λb u z=>?_) (λb z=>?_) λz=>absurd (aq aT) z
  ·by_cases hb:b=T
   ·have z':=(au hb).symm.trans z;cases z';subst hb;exact hT0
   ·have z':=(aq hb).symm.trans z;cases z'
  ·by_cases hb:b=T
   ·exact .inr hb
   ·exact absurd (aq hb) z
 |none=>
  refine core (λb=>if b=T then some (.tbl #[])else if b=a then some (.frz {cls:=.type "list",data:=.seq vs.toArray} (.lst (ns.map V.int)))else none) ⟨au rfl,λb hb=>?_⟩ (.inl (.inr ⟨{cls:=.type "list",data:=.seq vs.toArray},(aq aT).trans (au rfl)⟩)) (λb u z=>?_) (λb z=>?_) λ_=>hk
  ·by_cases hba:b=a
   ·exact .inr ⟨_,_,(aq hb).trans (au hba)⟩
   ·exact .inl ((aq hb).trans (aq hba))
  ·by_cases hb:b=T
   ·have z':=(au hb).symm.trans z;cases z';subst hb;exact hT0
   ·by_cases hba:b=a
    ·have z':=((aq hb).trans (au hba)).symm.trans z;cases z';subst hba;exact⟨ha,by rw[aD];exact hl,vs,_,rv,ha⟩
    ·have z':=((aq hb).trans (aq hba)).symm.trans z;cases z'
  ·by_cases hb:b=T
   ·exact .inr hb
   ·by_cases hba:b=a
    ·exact .inl hba
    ·exact absurd ((aq hb).trans (aq hba)) z
theorem Nz{l:iO}{n k:Nat}{q:υ}{loose:List be}{XP:(D0)->bn->Prop}{YP:ψ->bn->Prop}{d:DefRec}{K:Params->af}{CX:B7}{sp:ag->af->Sp}{x:be}{c T:ag}(hn:l.most=some n)(hn2:n<=sizeLine)(hdf:d.params.defaults=[])(hr:qo k iX)(hY:∀(w:ψ) (h:bn),YP w h->(K w.params).In h/\h.get? T=some (iE #[]))(hc:∀w:ψ,W.codeHdIn (K w.params) c T=true)(hKT:∀w:ψ,(K w.params).lookup T=none)
  (F:∀(w:ψ) (mg:D0) (fa:ag) (h:bn),(K w.params).In h->h.Ns av mg->mg d.name=some (.ref fa)->
   ∃fd:χ,(∀(s:τ) (u:ρ),kx s fd ⟨[u],[]⟩ [(x,u)])/\
    ∀base:bn,(K w.params).In base->base.Ns av mg->Eo base mg c T->gx l.prog w (K w.params) mg base CX k fa fd [x] (sp T (K w.params)))(hsp:∀(K:af) (H:Hp) (a:ag) (ns:ζ),ns.length<=n->Kd T H->ja K H a (ns.map V.int)->sp T K [.ref a] H (λv _=>v=.bl true) λ_ _ _=>False)(hCX:∀(H:Hp) (s:τ) (e:ρ) (s':τ),CX [] H s (λ_ _ _=>False) e s'->False):
  W.WalkO q loose XP YP l.row.toRowW d [] (λf vs=>lI f vs):=by
 refine Att.attach_call hn hdf λw s₀ s₁ mg mb fa o pm cd doc a vs ns G Y ho hd hcd hmg hobj hints ac hg=>?_;obtain⟨KX,hT0⟩:=hY w _ Y;obtain⟨fd,hb,hF⟩:=F w mg fa _ KX G.T.g hmg;exact LQ KX (W.codeHd_of_K KX (hc w)) hT0 (hKT w) G.T.bmain G.T.g G.T.b G.T.builtins G.T.nolimit hg hobj hints (dH ac hn2) hr hF hb (λH hO hS=>hsp (K w.params) H a ns ac hO hS) λH e s'=>hCX H s₁ e s'
theorem pV.okC{P:υ}{w:ψ}{K:af}{mg:D0}{base:bn}{x qual:be}{st:fz}{f c:ag}{fd:χ}{N ps:List be}{k:Nat}{sp:Sp}(F:pV K x qual st f fd)(hcd:fd.code=.ref c)(S:se N ps (kq st))(len:∀vs H Q E,sp vs H Q E->vs.length=ps.length)(hbody:∀(A:bt) (outer:List lw) (s:τ) (H:Hp) (vs:List V) (Q:VK) (E:XK),qo k (A.deeper (envOfC qual (kq st) s.heap.objs.size f (.ref c)))->sp vs H Q E->
   ∃t,xx (xp kG P w K mg base N qual (kq st) f (.ref c) A outer s H E).nox (qf st) t/\t {nx:=λ_ H'=>Q .non H',rt:=Q} (start N vs) H):gx P w K mg base kG (k+1) f fd ps sp:=by
 obtain⟨oc,od,kV,doc,pm,an,cdv,ct,osl,rfl,lk,hcd'⟩:=F.ex;have e:cdv=.ref c:=hcd;subst e;refine C8 lk hcd' S len λA outer s H vs Q E hr hsp=>?_;obtain⟨t,h,q⟩:=hbody A outer s H vs Q E hr hsp;exact⟨t,h.nox,q⟩
end L2
namespace DH
open PySem PySem.W PyProof.Rows PySem.Calls
section
variable{prog:υ}{w:ψ}{A:bt}{E:S0}{s:τ}{d it v:ag}{es:Array ik}{ep i:Nat}
theorem Dd(d)(hd:(d==de)=false):
  MeetsIn prog w (Builtin.«dict.items» ⟨[.ref d],[]⟩) (λ_ R s=>(∃es ep,uE s.heap d es ep)/\
   R (.ok (.ret (.ref s.heap.objs.size))) {s with heap:=s.heap.push {cls:=.type "dict_items",data:=.fields #[.ref d]}}):=
 .of_wp λA R s ⟨⟨es,ep,hm⟩,h⟩=>by
  unfold Builtin.«dict.items»;apply ao;unfold Builtin.Dict.noArgs;refine ao (wpAny_notOrdered_dict hm.typeIs ?_);show ai _ _ (pure d) _ _ s;apply aM;show ai _ _ (Builtin.Dict.showsAll d>>=_) _ _ s;unfold Builtin.Dict.showsAll;rw[aq (by rw[hd];exact ux)];refine ao (aM ?_);exact ao (Je (aM ⟨_,rfl,h⟩))
theorem QF{Q:S0}(hv:s.heap.IsItemsView v d)(hm:uE s.heap d es ep)(hQ:Q (.ref s.heap.objs.size) {s with heap:=s.heap.push {cls:=.type "dict_itemiterator",data:=.fields #[.none,.bool false,.ref d,.int 0 0,.int es.size 0,.int ep 0,.none,.none]}}):
  ai (ar prog w) A (nX (.ref v)) Q E s:=by
 obtain⟨ov,hov,hcv,hdv⟩:=id hv;obtain⟨o,ho,hc,hdat⟩:=id hm;refine wpAny_pyIter_slot hv.typeIs lT (MP lT hv.typeIs F.entry_dict_items_iter ?_ (F.args_dict_items_iter_1 _));unfold Builtin.«dict_items.__iter__»;refine ao (aM ?_);apply ao;unfold Builtin.Dict_items.dictOf;refine ao (yW hov hdv (x:=.ref d) rfl (aM ?_));apply ao;unfold Builtin.Dict_items.newIterator;refine ao (KG ho hdat ?_);refine ao (ML ho hdat ?_);have hown:dP "dict_itemiterator"=true:=by decide
 simp only[hown,Fv];refine Je (aM ⟨_,rfl,"dict_itemiterator",_,⟨_,iQ _ rfl,rfl⟩,F.slot_dict_itemiterator_next.lookup,?_⟩)
  (by simp only[sizeOk,fA,gM,lN,uL,SJ,gF];omega)
 simpa[cK,fA]using hQ
theorem Ql{ok ov:ρ}{e:ik}{Q:Option ρ->τ->Prop}(hit:fe s.heap it d i es.size ep ok ov)(hm:uE s.heap d es ep)(hx:es[i]? =some e)(hQ:∀h',md h' it d (i+1) es.size ep e.key e.val s.heap.objs.size->h'.get? s.heap.objs.size=some {cls:=.type "tuple",data:=.seq #[e.key,e.val]}->
   (∀b o,b≠it->s.heap.get? b=some o->h'.get? b=some o)->Q (some (.ref s.heap.objs.size)) {s with heap:=h'}):
  ai (ar prog w) A (fc (.ref it)) Q E s:=by
 obtain⟨hp,g,dr,tk,os⟩:=s;obtain⟨od,hod,hcd,hdd⟩:=id hm;have hT:fF ⟨hp,g,dr,tk,os⟩ (.ref it) "dict_itemiterator":=⟨_,hit,rfl⟩;unfold fc;refine ao (Jn (Tw (name:=bO "__next__") hT Lm
  (MP Lm hT PR ?_ (PV _))))
 refine ao (aM ?_);apply ao;apply ao
 first |refine ao (Lo hT (aM ?_))|refine ao (Lc hT (aM ?_))
 refine ao (wpAny_fieldsOf hit rfl ?_);have hown:dP "dict_itemiterator"=true:=by decide
 simp only[hown,Fv];show ai _ _ (if(aI d==ba)=true then _ else _) _ _ _;rw[aq (show¬((aI d==ba)=true)from ux)];refine ao (aM ?_);refine ao (KG hod hdd ?_);rw[aq (by simp)];refine ao (aM ?_);refine ao (ML hod hdd ?_);rw[aq (by simp)];apply aM;obtain⟨hlt',hei⟩:=Array.getElem?_eq_some_iff.mp hx;simp only[show¬((i:Int)<0)from by omega,Wk,SM,PD hlt',hei];apply ao
 first |refine ao (Lo hT (aM ?_))|refine ao (Lc hT (aM ?_))
 refine ao (NE hT ?_);show ai _ _ (setField (.ref it) 3 (cK ((i:Int)+1))>>=_) _ _ ⟨hp,g,dr,tk,os⟩;refine ao (S8 hit (by simp) λh₁ he₁ hs₁=>?_);replace hs₁:bc it hp h₁:=hs₁;replace he₁:fe h₁ it d (i+1) es.size ep ok ov:=by
  have e:((i+1:Nat):Int)=(i:Int)+1:=by omega
  unfold fe;rw[e];simpa[cK]using he₁
 have hT₁:fF ⟨h₁,g,dr,tk,os⟩ (.ref it) "dict_itemiterator":=⟨_,he₁,rfl⟩;refine ao (yX ?_);refine ao (NE hT₁ ?_);refine ao (NE hT₁ ?_);show ai _ _ (fP (.ref it) 6 e.key e.val) _ _ ⟨h₁,g,dr,tk,os⟩;unfold fP;refine ao (kM ?_);have he₂:fe (h₁.push {cls:=.type "tuple",data:=.seq #[e.key,e.val]}) it d (i+1) es.size ep ok ov:=cR _ he₁;generalize hh₂:h₁.push {cls:=.type "tuple",data:=.seq #[e.key,e.val]}=h₂ at he₂;have hz₁:h₁.objs.size=hp.objs.size:=hs₁.1;have hil:it<hp.objs.size:=dJ hit;have ht₂:h₂.get? hp.objs.size=some {cls:=.type "tuple",data:=.seq #[e.key,e.val]}:=by rw[<-hh₂,<-hz₁];exact iQ _ rfl
 have hk₂:∀b o,b≠it->hp.get? b=some o->h₂.get? b=some o:=λb o hb e=>by rw[<-hh₂];exact cR _ (hs₁.extBut b o hb e)
 show ai _ _ (fD (.ref it)>>=_) _ _ ⟨h₂,g,dr,tk,os⟩;rw[hz₁];clear hh₂ he₁ hs₁ hT₁ hz₁ h₁;apply ao;unfold fD;refine ao (yW he₂ rfl (x:=.none) rfl (aM ?_));simp only[Fv];refine ao (yW he₂ rfl (x:=ok) rfl ?_);refine ao (yW he₂ rfl (x:=ov) rfl ?_);refine ao (S8 he₂ (by simp) λh₃ he₃ hs₃=>?_);replace hs₃:bc it h₂ h₃:=hs₃;replace he₃:fe h₃ it d (i+1) es.size ep e.key ov:=he₃;refine ao (S8 he₃ (by simp) λh₄ he₄ hs₄=>?_);replace hs₄:bc it h₃ h₄:=hs₄;replace he₄:fe h₄ it d (i+1) es.size ep e.key e.val:=he₄;refine ao (S8 he₄ (by simp) λh₅ he₅ hs₅=>?_);replace hs₅:bc it h₄ h₅:=hs₅;replace he₅:md h₅ it d (i+1) es.size ep e.key e.val hp.objs.size:=he₅;refine ao (S8 he₅ (by simp) λh₆ he₆ hs₆=>?_);replace hs₆:bc it h₅ h₆:=hs₆;replace he₆:md h₆ it d (i+1) es.size ep e.key e.val hp.objs.size:=he₆;refine ao (Wn (aM (aM ⟨_,rfl,aM (hQ h₆ he₆ ?_ ?_)⟩)))
 ·exact hs₆.extBut _ _ (xg hil) (hs₅.extBut _ _ (xg hil) (hs₄.extBut _ _ (xg hil) (hs₃.extBut _ _ (xg hil) ht₂)))
 ·exactλb o hb e=>hs₆.extBut b o hb (hs₅.extBut b o hb (hs₄.extBut b o hb (hs₃.extBut b o hb (hk₂ b o hb e))))
theorem VD{Q:Option ρ->τ->Prop}(hh:A.handled=none)(hit:fe s.heap it d i es.size ep ok ov)(hm:uE s.heap d es ep)(hge:es.size<=i)(hQ:∀h',Heap.ExtBut it s.heap h'->Q none {s with heap:=h'}):ai (ar prog w) A (fc (.ref it)) Q E s:=by
 obtain⟨od,hod,hcd,hdd⟩:=id hm;have hT:s.TypeIs (.ref it) "dict_itemiterator":=⟨_,hit,rfl⟩;unfold fc;refine ao (Jn (Tw (name:=bO "__next__") hT Lm
  (MP Lm hT PR ?_ (PV _))))
 refine ao (aM ?_);apply ao;apply ao
 first |refine ao (Lo hT (aM ?_))|refine ao (Lc hT (aM ?_))
 refine ao (wpAny_fieldsOf hit rfl ?_);have hown:dP "dict_itemiterator"=true:=by decide
 simp only[hown,Fv];show ai _ _ (if(aI d==ba)=true then _ else _) _ _ s;rw[aq (show¬((aI d==ba)=true)from ux)];refine ao (aM ?_);refine ao (KG hod hdd ?_);rw[aq (by simp)];refine ao (aM ?_);refine ao (ML hod hdd ?_);rw[aq (by simp)];apply aM;simp only[show¬((i:Int)<0)from by omega,Wk,SM,OU hge];apply ao
 first |refine ao (Lo hT (aM ?_))|refine ao (Lc hT (aM ?_))
 show ai _ _ (setField (.ref it) 2 .none>>=_) _ _ s;refine ao (kN hit rfl (by simp) ?_);show ai _ _ (newExc (.type "StopIteration") []>>=_) _ _ _;apply ao;simp only[newExc,newTuple];refine ao (Je ?_ (by size_fits));refine ao (m:=i9 _ _) (IQ (a:=ba) (by first |rfl|(simp only[i9];rfl)) ?_);refine Je ?_ (by size_fits);simp only[raiseNew];refine ao (wpAny_handled ?_);rw[show A.in1.handled=none from hh];refine ao (aM (wpAny_throw ?_));refine ao (FY (T:="StopIteration") (b:=true) ⟨_,iQ _ rfl,rfl⟩ isSubtype_stop ?_);exact aM (hQ _ (((M5 ..).extBut.push _).push _))
end
end DH
namespace L2
open PySem PySem.Spec PyProof.Rows
section
variable{X:Cx}{aa aau:O0}{σ σ0:St}{H H0:Hp}{s s0:τ}{d:ag}{kvs:List (List tJ×V)}{o:ki}
theorem Inv.freeze(I:Inv X aa σ H s)(e:H d=some (.dT kvs))(ho:s.heap.get? d=some o):Inv X aa σ (upd H d (.frz o (.dT kvs))) s:=by
 refine I.write (s:=s) (h':=s.heap) (t':=s.toks) (x:=d) (e:=d) (by rw[e];exact fq) (.inl rfl) (λb u _ q=>q) ⟨o,ho⟩ ⟨ho,?_⟩;obtain⟨z,y,xs,r,c⟩:=I.hok d _ e;exact⟨z,y,xs,Paired.mapP r λp q z=>⟨z.1,by rw[cF (rX z.2.1 e (λq=>nomatch q))];exact z.2.1,z.2.2⟩,c⟩
theorem Inv.abr(I0:Inv X aau σ0 H0 s0)(e0:H0 d=some (.dT kvs))(I:Inv X aa σ H s)(e:H d=some (.frz o (.dT kvs))):Inv X aa σ (upd H d (.dT kvs)) s:=by
 have n:∀b,H b=none->b≠d:=λb h z=>by rw[z,e]at h;cases h
 have nt:∀b u,H b=some u->u≠.frz o (.dT kvs)->b≠d:=λb u h q z=>by rw[z,e]at h;cases h;exact q rfl
 refine⟨I.ok,I.os,I.bare,⟨I.base.keep,I.base.slot,λb ob q h hx=>?_,I.base.there,λb xs q=>?_,λb ob u q=>?_,λb ps q=>?_⟩,I.loc,I.cell,by rw[cF (n _ I.free)];exact I.free,λx c q=>by rw[cF (n _ (I.freeC x c q))];exact I.freeC x c q,λp hp=>?_,λb u q=>?_,I.len⟩
 ·have:=I.base.free b ob q h hx;rw[cF (n b this)];exact this
 ·have:=I.base.tups b xs q;rw[cF (nt b _ this (λz=>nomatch z))];exact this
 ·have h2:=I0.base.frzs b ob u q;have h1:=I.base.frzs b ob u q;rw[cF (λz=>by rw[z,e0]at h2;cases h2)];exact h1
 ·obtain⟨m,h1⟩:=I.base.tbls b ps q;exact⟨m,by rw[cF (nt b _ h1 (λz=>nomatch z))];exact h1⟩
 ·obtain⟨h1,h2,h3⟩:=I.pin p hp;exact⟨h1,by rw[cF (n _ h2)];exact h2,h3⟩
 ·have ht:∀b xs,H b=some (.tup xs)->upd H d (.dT kvs) b=some (.tup xs):=λb xs h=>by rw[cF (nt b _ h (λz=>nomatch z))];exact h
  have how:∀a b,H b=some (.own a)->upd H d (.dT kvs) b=some (.own a):=λa b h=>by rw[cF (nt b _ h (λz=>nomatch z))];exact h
  by_cases hb:b=d
  ·subst hb;rw[aK]at q;cases q;obtain⟨_,w⟩:=I.hok b _ e;exact qr.stay w (λ_ _ _ q=>q) (how b) ht
  ·rw[cF hb]at q;exact(I.hok b u q).stay (λ_ _ _ q=>q) (how b) ht
inductive Wv(t:TE)(σ:St)(H:Hp)(Q:VK):Prop
 |mk(y z)(_:H y=some (.dT z))(_:t σ H λv H'=>∃o,H' y=some (.frz o (.dT z))/\Q v (upd H' y (.dT z)))
theorem Ug(h:PE X e t):PE X e (Wv t):=by
 intro aa s σ H Q I q;obtain⟨d,kvs,hd,q⟩:=q;refine pw (h aa s σ H _ I q) λv s1 ⟨x,H1,I1,r1,o,e1,q1⟩=>⟨x,_,I.abr hd I1 e1,r1,q1⟩
noncomputable def OO(d:ag)(o:ki)(kvs:List (List tJ×V)):It:=
 ⟨λi H=>i<kvs.length/\H d=some (.frz o (.dT kvs)),λi H x H'=>∃t b k v,kvs[i]? =some (k,v)/\x=.ref t/\H t=none/\H b=some (.tup (k.map kV))/\H'=upd H t (.tup [.ref b,v]),λi H=>i=kvs.length/\H d=some (.frz o (.dT kvs))⟩
theorem yj{α β:Type}{R:α->β->Prop}:∀{l:List α}{m:List β}{i:Nat}{x:α},ce R l m->l[i]? =some x->∃y,m[i]? =some y/\R x y
 |_,_,i,x,.nil,hx=>by simp at hx
 |_,_,0,x,.cons h t,hx=>by
  simp only[List.getElem?_cons_zero,Option.some.injEq]at hx;subst hx;exact⟨_,rfl,h⟩
 |_,_,i+1,x,.cons h t,hx=>by
  rw[NL]at hx;obtain⟨r,h1,h2⟩:=yj t hx;exact⟨r,by rw[NL];exact h1,h2⟩
theorem Fz{P:υ}{w:ψ}{K:af}{els:List bp}{k:Nat}{pos:eJ}(it:ag)(d:ag)(o:ki)(kvs:List (List tJ×V))(es:Array ik)(ep:Nat)(hod:o.data=.dict es ep)(hx:o.ExactDict)(hsz:es.size=kvs.length)(hne:d≠it):
  xw P w K (.Tuple els k pos) (OO d o kvs) [it] it (λi h=>∃ok ov,fe h it d i es.size ep ok ov) where
 mem:=by simp
 obj:=λi h st b hb=>by
  obtain⟨ok,ov,he⟩:=st;have z:b=it:=by simpa using hb
  subst z;exact⟨_,he,λv z=>by cases z⟩
 keep:=λi h h' st k=>let⟨ok,ov,he⟩:=st;⟨ok,ov,k it (by simp) _ he⟩
 item:=by
  intro X hP hw hK hc i aa s σ H E I hf st hg;subst hP hw hK;obtain⟨hi,hd⟩:=hg;obtain⟨ok,ov,he⟩:=st;obtain⟨ho,z,y,xs,r,o',es',ep',ho',hx',hd',hes,hn⟩:=I.hok d _ hd;rw[ho]at ho';cases ho';rw[hod]at hd';cases hd';obtain⟨p,hp⟩:∃p,kvs[i]? =some p:=⟨kvs[i],by simp[hi]⟩;obtain⟨q,hq,e1,e2,e3⟩:=yj r hp;have hei:es[i]? =some (entryOfKey (ie (qh X.prog X.w)) q):=by
   rw[<-IJ,hes,dI,hq];rfl
  refine DH.Ql he ⟨o,ho,hx,hod⟩ hei λh1 ho1 hT hk=>⟨_,rfl,?_⟩;refine wpAny_letOwnedTupleGo_items ho1 λh2 he2 hs2=>?_;have mO:bc it h1 h2:=hs2;have nT:s.heap.objs.size≠it:=λz=>absurd (dJ he) (by rw[<-z];exact u6 _);have keep:∀b o,b∉[it]->s.heap.get? b=some o->h2.get? b=some o:=λb o hb q=>(mO.2 b λz=>hb (by simp[z])).trans (hk b o (λz=>hb (by simp[z])) q);have hT2:=(mO.2 _ nT).trans hT;have I2:=I.nA (h':=h2) (t':=s.toks) (o:=.tup [.ref q.2.1,p.2]) keep hf (aP _) ⟨rV,[.ref q.2.1,q.2.2],.cons rfl (.cons e3 .nil),_,hT2,rfl,_,rfl⟩;exact⟨.ref s.heap.objs.size,_,I2,rfl,⟨_,_,_,_,hp,rfl,I.hok.fresh (aP _),e2,rfl⟩,⟨_,_,he2⟩,λb hb=>by
   have z:b=it:=by simpa using hb
   rw[cF (by rw[z];exact nT.symm)];exact(hf b hb).1⟩
 done:=by
  intro X hP hw hK hc i aa s σ H E I hf st hg;subst hP hw hK;obtain⟨hi,hd⟩:=hg;obtain⟨ok,ov,he⟩:=st;obtain⟨ho,_⟩:=I.hok d _ hd;exact DH.VD (I.ok.hd hc) he ⟨o,ho,hx,hod⟩ (by omega) λh' eb=>⟨rfl,I.turns (t':=s.toks) (fp:=[it]) (λb o hb q=>eb b o (λz=>hb (by simp[z])) q) hf⟩
 self:=λA i s Q E st h=>by
  obtain⟨ok,ov,he⟩:=st;exact W.kcp_self he h
noncomputable def Zb(to:TE):TI:=λσ H R=>to σ H λx H1=>∃d kvs,x=.ref d/\H1 d=some (.dT kvs)/\(kvs.length<=sizeLine->∀o,R (OO d o kvs) (upd H1 d (.frz o (.dT kvs))))
theorem Pz{els:List bp}{k:Nat}{Cw:eJ}{e:bp}{to:TE}{apos cpos:eJ}(ho:PE X e to)(hbase:gp e "items" X.env (bQ e X.env)=bQ e X.env:=by rfl)(hline:(apos.endLine==cpos.line)=true:=by rfl):
  PI X (.Tuple els k Cw) (.Call (.Attribute e "items" apos) [] [] cpos) (Zb to):=by
 intro aa s σ H R I h;refine wpAny_Call_method0_late hbase hline (pw (ho aa s σ H _ I h) λv s1 ⟨x,H1,I1,r1,d,kvs,ex,hd,q⟩=>?_);subst ex;obtain rfl:v=aI d:=r1;obtain⟨h1,h2⟩:=A8 I1 (show RelV (.ref d) (.ref d)from rfl) (show NR X.K "dict" (.ref d) H1 from .inr (.inr (.inl ⟨rfl,.inr ⟨_,hd⟩⟩)));refine⟨"dict","dict.items",PySem.F.plainAttrs_dict,OY,PySem.F.type_dict_items,h1,h2,ko rfl (PySem.evalArgs_none ?_)⟩;obtain⟨z,y,xs,r,o,es,ep,ho',hx',hd',hes,hn⟩:=I1.hok d _ hd;have hsz:es.size=kvs.length:=by rw[<-Fg,hes,aD,<-EW r]
 have hE:DH.uE s1.heap d es ep:=⟨o,ho',hx',hd'⟩;refine call_meetsIn OY h1 PySem.F.entry_dict_items (PySem.F.args_dict_items_1 _) (DH.Dd d y) ⟨⟨es,ep,hE⟩,?_⟩;have hv:(s1.heap.push {cls:=.type "dict_items",data:=.fields #[.ref d]}).IsItemsView s1.heap.objs.size d:=⟨_,iQ _ rfl,rfl,rfl⟩;have hE2:DH.uE (s1.heap.push {cls:=.type "dict_items",data:=.fields #[.ref d]}) d es ep:=hE.at' λo e=>cR _ e;refine DH.QF (s:={s1 with heap:=_}) hv hE2 ?_;generalize hP:s1.heap.push {cls:=.type "dict_items",data:=.fields #[.ref d]}=hp at *;have zp:hp.objs.size=s1.heap.objs.size+1:=by rw[<-hP,wX]
 have kp:∀b o,s1.heap.get? b=some o->(hp.push {cls:=.type "dict_itemiterator",data:=.fields #[.none,.bool false,.ref d,.int 0 0,.int es.size 0,.int ep 0,.none,.none]}).get? b=some o:=λb o e=>cR _ (by rw[<-hP];exact cR _ e);have I2:Inv X aa σ H1 {s1 with heap:=hp.push {cls:=.type "dict_itemiterator",data:=.fields #[.none,.bool false,.ref d,.int 0 0,.int es.size 0,.int ep 0,.none,.none]},toks:=s1.toks}:=I1.kept kp;have I3:=I2.freeze hd (kp _ _ ho');have dlt:d<s1.heap.objs.size:=dJ ho';have nd:d≠hp.objs.size:=by rw[zp];exact fu (tU dlt)
 refine⟨hp.objs.size,[hp.objs.size],_,_,_,rfl,I3,Fz hp.objs.size d o kvs es ep hd' hx' hsz nd,⟨_,_,iQ _ rfl⟩,λb hb=>?_,q z o⟩;have zb:b=hp.objs.size:=by simpa using hb
 subst zb;refine I1.fpOk (by rw[zp];exact Bx _) ?_;rw[cF (oV nd)];exact I1.hok.fresh (by rw[zp];exact Bx _)
theorem Mr(hc:X.calm=true):qV X (.builtin "len") (λxs H Q=>∃(a:ag) (kvs:List (List tJ×V)),xs=[.ref a]/\Rd H a (.dT kvs)/\Q (.int kvs.length) H):=by
 intro aa s σ H xs us Q I r h;obtain⟨a,kvs,rfl,e,q⟩:=h;obtain⟨u,rfl,ru⟩:=r.one;cases ru;obtain⟨z,y,xs,rel,o,es,ep,ho',hx',hd',hes,hn⟩:=e.ok I.hok;have hsz:es.size=kvs.length:=by rw[<-Fg,hes,aD,<-EW rel]
 have hT:s.TypeIs (.ref a) "dict":=⟨o,ho',hx'.1⟩;refine NN kind_len plain_len entry_len (args_len1 _) ?_;unfold Builtin.«len»;refine ao (m:=oneArg "len" _) (aM ?_);have M:MeetsIn X.prog X.w (Builtin.«dict.__len__» ⟨[.ref a],[]⟩) (λ_ R s=>(∃es ep,DH.uE s.heap a es ep/\es.size=kvs.length)/\R (.ok (.ret (.int kvs.length s.toks))) {s with toks:=s.toks+1}):=
  .of_wp λA R s ⟨⟨es,ep,hm,he⟩,h⟩=>by
   obtain⟨o,ho,hc,hdat⟩:=hm;show ai _ _ (dictSize a>>=_) _ _ s;unfold dictSize;refine ao (ao (KG ho hdat (aM ?_)));show ai _ _ (Builtin.Dict.pendingCount a>>=_) _ _ s;refine ao (wpAny_pendingCount_other y ?_);apply wpAny_ret_mkInt;rw[Nat.add_zero,he];exact h
 refine ao (m:=callSpecial? (.ref a) (bO "__len__")) (Tw (name:=bO "__len__") hT F.slot_dict_len
  (call_meetsIn F.slot_dict_len hT F.entry_dict_len (F.args_dict_len_1 _) M ⟨⟨es,ep,⟨o,ho',hx',hd'⟩,hsz⟩,?_⟩))
 show ai _ _ _ _ _ {s with toks:=s.toks+1};refine ao (yX (aM ?_));refine ao (Wn ?_);show ai _ _ (if((kvs.length:Nat):Int)<0 then _ else _) _ _ _;rw[aq (by omega)];show ai _ _ (if((kvs.length:Nat):Int)≥2^63 then _ else _) _ _ _;rw[aq (by rw[gF]at z;omega)];exact ao (wpAny_mkInt (aM ⟨_,rfl,⟨.int kvs.length,H,I.tok _,⟨_,rfl⟩,q⟩⟩))
theorem Bd:qV X (.builtin "isinstance") (λxs H Q=>∃(a:ag) (kvs:List (List tJ×V)),xs=[.ref a,.ty "dict"]/\H a=some (.dT kvs)/\Q (.bl true) H):=by
 intro aa s σ H xs us Q I r h;obtain⟨a,kvs,rfl,e,q⟩:=h;obtain⟨u,v,rfl,ru,rv⟩:=r.two;cases rv;cases ru;obtain⟨z,y,xs,rel,o,es,ep,ho',hx',_⟩:=I.hok a _ e;exact IsiPair.dict_dict ho' hx'.1 ⟨.bl true,H,I,rfl,q⟩
end
section
variable{d:ag}{o:ki}{kvs:List (List tJ×V)}{g:TG}{tc:TT}{te:TE}{Fin:List V->Hp->Prop}{ini:St}{H:Hp}
theorem HW(Pv:Nat->List V->St->Hp->Prop)(h0:Pv 0 [] ini H)(hl:∀(i:Nat) acc σ H,i<=kvs.length->Pv i acc σ H->H d=some (.frz o (.dT kvs)))(hz:∀(i:Nat) acc σ H,i<=kvs.length->Pv i acc σ H->acc.length<=i)(hx:kvs.length<=sizeLine)(hs:∀(i:Nat) t b k v acc σ H,kvs[i]? =some (k,v)->Pv i acc σ H->H t=none->H b=some (.tup (k.map kV))->g (.ref t) σ (upd H t (.tup [.ref b,v])) λσ2 H2=>tc σ2 H2 λb H3=>if b=true then te σ2 H3 λv H4=>Pv (i+1) (acc++[v]) σ2 H4 else Pv (i+1) acc σ2 H3)(hd:∀acc σ H,Pv kvs.length acc σ H->Fin acc H):wW (OO d o kvs) ini H g tc te Fin:=by
 refine⟨λi m acc σ H=>m=kvs.length-i/\i<=kvs.length/\Pv i acc σ H,⟨kvs.length,by simp,dX _,h0⟩,?_⟩;rintro i m acc σ H ⟨rfl,hi,p⟩;have q:=hl i acc σ H hi p;have z:=hz i acc σ H hi p;by_cases hlt:i<kvs.length
 ·refine .inr ⟨⟨hlt,q⟩,by omega,λacc σ H=>Pv (i+1) acc σ H,λacc' σ' H' r=>⟨_,by omega,rfl,hlt,r⟩,λx H' y=>?_⟩;obtain⟨t,b,k,v,hv,rfl,ht,hb,rfl⟩:=y;exact hs i t b k v acc σ H hv p ht hb
 ·have e:i=kvs.length:=by omega
  subst e;exact .inl ⟨⟨rfl,q⟩,by omega,hd acc σ H p⟩
end
noncomputable def OA(k:Int):ρ->Bool
 | .int i _=>i==k
 |_=>false
theorem KH:∀{n:Nat}{us:List ρ},us.length=n->(∀(j:Nat) (u:ρ),us[j]? =some u->∃t:Tok,u=bI (i+((j:Nat):Int)*1) t)->iN (((am n).map λ(k:Nat)=>i+(k:Int)).map V.int) us:=by
 intro n us hl hi;have go:∀(us:List ρ) (k:Nat),(∀(j:Nat) (u:ρ),us[j]? =some u->∃t:Tok,u=bI (i+((j+k:Nat):Int)*1) t)->iN (((List.range' k us.length).map λ(k:Nat)=>i+(k:Int)).map V.int) us:=by
  intro us
  induction us with
  |nil=>intro k _;exact .nil
  |cons u us ih=>
   intro k h;obtain⟨t,e⟩:=h 0 u rfl;refine .cons ⟨t,?_⟩ ?_
   ·rw[e];show bI (i+((0+k:Nat):Int)*1) t=bI (i+(k:Int)) t;congr 1;omega
   ·refine ih (k+1) λj u hu=>?_;obtain⟨t,e⟩:=h (j+1) u (by simpa using hu);exact⟨t,by rw[e];congr 1;omega⟩
 have:=go us 0 λj u hu=>hi j u hu;rw[hl,<-lb]at this;exact this
section
variable{X:Cx}{e:bp}{ta:TE}{f:be}{pos:eJ}
theorem Uh(K:af)(he:PE X e ta)(hb:gp e f X.env (bQ e X.env)=bQ e X.env)(h:X.K=K:=by rfl):PE X (.Attribute e f pos) (GO K ta f):=by subst h;exact rJ he hb
theorem sG:OM X "list.index" (λx vs H Q=>∃(l:ag) (ns:ζ) (k:Int) (j:Nat),x=.ref l/\vs=[.int k]/\H l=some (.lst (ns.map V.int))/\ns[j]? =some k/\(∀i,i<j->ns[i]? ≠some k)/\ns.length<=1000/\Q (.int (j:Nat)) H):=by
 intro aa s σ H x vs v us Q I rx rv h;obtain⟨l,ns,k,j,rfl,rfl,hH,hj,hno,hb,q⟩:=h;cases rx;obtain⟨u,rfl,ru⟩:=rv.one;obtain⟨t,rfl⟩:=ru;obtain⟨z,ae,n,r,hl,e⟩:=I.lstM hH;rw[aD]at z hl;have hI:∀(i:Nat) (v:ρ),ae[i]? =some v->∃t,v=.int (ns.getD i 0) t/\ns[i]? =some (ns.getD i 0):=λi v hv=>by
  have hi:i<ns.length:=by have:=(oG.mp hv).1;omega
  have e0:ns[i]? =some (ns.getD i 0):=by rw[dY,cU hi];rfl
  obtain⟨u,hu,ru⟩:=r.get (show(ns.map V.int)[i]? =some (.int (ns.getD i 0)) by rw[dI,e0];rfl);rw[hv]at hu;cases hu;obtain⟨t,rfl⟩:=ru;exact⟨t,rfl,e0⟩
 have hj':j<ae.length:=by have:=(oG.mp hj).1;omega
 refine Wm kT ⟨_,e,rfl⟩ F.entry_list_index (F.args_list_index_2 _ _)
  (MeetsSeq.list_index l ae.toArray n (.int k t) (OA k) (λy hy=>?_) j (by simpa using hj') (by omega) ?_ (λi hi hlt=>?_)) ⟨e,?_⟩
 ·obtain⟨i,hi,rfl⟩:=Bs (show y∈ae by simpa using hy);obtain⟨t',e',_⟩:=hI i ae[i] (cU hi);rw[e'];exact MeetsSeq.EqGives.int _ _ _ _
 ·obtain⟨t',e',e0⟩:=hI j ae[j] (cU hj');show OA k ae[j]=true;rw[e'];rw[hj]at e0;have:k=ns.getD j 0:=uw e0;show(ns.getD j 0==k)=true;rw[<-this];exact beq_self_eq_true _
 ·have hi':i<ae.length:=by simpa using hi
  obtain⟨t',e',e0⟩:=hI i ae[i] (cU hi');show OA k ae[i]=false;rw[e'];show(ns.getD i 0==k)=false;refine beq_eq_false_iff_ne.mpr λz=>hno i hlt ?_;rw[e0,z]
 ·exact⟨.int (j:Nat),H,I.tok _,⟨s.toks,rfl⟩,q⟩
end
section
variable{X:Cx}{a b:bp}{ta:TA}{p pos p' pos':eJ}
noncomputable def qK(i:Int)(n:Nat):ζ:=(am n).map λ(k:Nat)=>i+(k:Int)
noncomputable def XM(ta:TA):TE:=λσ H Q=>ta σ H λvs H1=>∃i j:Int,vs=[.int i,.int j]/\0<=i/\i<=j/\j<=1000000/\∀l,H1 l=none->Q (.ref l) (upd H1 l (.lst ((qK i (j-i).toNat).map V.int)))
theorem zR(hc:X.calm=true)(hgT:Gl X "list")(hmT:X.mg "list"=none)(hg:Gl X "range")(hm:X.mg "range"=none)(ha:PA X [a,b] ta)(hs:ax [a,b] X.env=[(false,bQ a X.env),(false,bQ b X.env)]:=by rfl)(hs':ax [b] X.env=[(false,bQ b X.env)]:=by rfl)(hs2:ax [gI (.Name "range" p') [a,b] [] pos'] X.env=[(false,bQ (gI (.Name "range" p') [a,b] [] pos') X.env)]:=by rfl):
  PE X (.Call (.Name "list" p) [.Call (.Name "range" p') [a,b] [] pos'] [] pos) (XM ta):=by
 intro aa s σ H Q I h;refine S9 (Bv I hgT hmT (show br "list"=some (.type "list")from by decide+kernel) ?_ (by decide) (by decide));refine KD ?_ hs2 rfl;rw[hs2];apply GG;refine kE (Bv I hg hm FL (KD (pw (ha pos' aa s σ H _ I h) λus s1 ⟨vs,H1,I1,r1,q1⟩=>?_) (by rw[hs,hs']) (by rw[hs'];rfl)));obtain⟨i,j,e,q0,q1,q2,q⟩:=q1;subst e;cases r1 with
 |cons r rr=>
  cases rr with
  |cons r' rr=>
   cases rr;obtain⟨t,rfl⟩:=r;obtain⟨t',rfl⟩:=r';apply call_range_2;apply Go;have hn:bE i j 1=(((j-i).toNat:Nat):Int):=by rw[JO];split<;>omega
   refine call_list_range (I.ok.hd hc) (IR ..) (mw (by omega) (by omega) (by omega) (by omega)) hn (by omega) λh' tk acc c hk hS hacc=>?_;have hv:iN ((qK i (j-i).toNat).map V.int) acc.toList:=KH (by rw[Fg];exact hacc.1) (λk u hu=>hacc.2 k u (by simpa using hu));have hz:((qK i (j-i).toNat).map V.int).length<=sizeLine:=by unfold qK;rw[gF];simp;omega
   have I2:Inv X aa σ H1 {s1 with heap:=s1.heap.push {cls:=cx "range",data:=fN #[bI i t,bI j t',bI 1 s1.toks]},toks:=s1.toks+1}:=I1.kept λb o e=>cR _ e;exact⟨.ref _,_,I2.laid (t':=tk) (o:=.lst ((qK i (j-i).toNat).map V.int)) hk (aP _) ⟨hz,acc.toList,c,hv,by simpa using hS⟩,rfl,q _ (I2.hok.fresh (aP _))⟩
end
structure Ke(K:af)(C:ag)(x qual:be)(st:fz)(ps:List be)(f:ag)(fd:χ):Prop where
 F:pV K x qual st f fd
 b:Binds K fd ps []
 m:CY K C x f
end L2
namespace Sx
noncomputable abbrev B4:=Nat->Int
noncomputable abbrev Fj:=Nat->B4
noncomputable def sm:Nat->(Nat->Int)->Int
 |0,_=>0
 |k+1,f=>sm k f+f k
theorem bx:∀k,(∀i,i<k->f i=g i)->sm k f=sm k g
 |0,_=>rfl
 |k+1,h=>by
  show sm k f+f k=sm k g+g k;rw[bx k λi hi=>h i (tU hi),h k (wY k)]
theorem lX(f g:Nat->Int):∀k,sm k (λi=>f i+g i)=sm k f+sm k g
 |0=>rfl
 |k+1=>by
  show sm k (λi=>f i+g i)+(f k+g k)=sm k f+f k+(sm k g+g k);rw[lX f g k];omega
theorem cN(a)(f:Nat->Int):∀k,sm k (λi=>a*f i)=a*sm k f
 |0=>by show(0:Int)=a*0;rw[Bp]
 |k+1=>by
  show sm k (λi=>a*f i)+a*f k=a*(sm k f+f k);rw[cN a f k,Int.mul_add]
theorem dN:∀k,(∀i,i<k->f i=0)->sm k f=0
 |0,_=>rfl
 |k+1,h=>by
  show sm k f+f k=0;rw[dN k λi hi=>h i (tU hi),h k (wY k)];rfl
theorem eF:∀k,j<k->(∀i,i<k->i≠j->f i=0)->sm k f=f j
 |k+1,hj,h=>by
  show sm k f+f k=f j;by_cases e:j=k
  ·subst e;rw[dN j λi hi=>h i (tU hi) (fu hi),EJ]
  ·rw[eF k (by omega) λi hi=>h i (tU hi),h k (wY k) (oV e),Int.add_zero]
theorem Oo:∀k,j+1<k->(∀i,i<k->i≠j->i≠j+1->f i=0)->f j+f (j+1)=0->sm k f=0
 |k+1,hj,h,z=>by
  show sm k f+f k=0;by_cases e:j+1=k
  ·subst e;rw[eF (j:=j) (j+1) (wY _) λi hi hn=>h i (tU hi) hn (fu hi)];exact z
  ·rw[Oo k (by omega) (λi hi=>h i (tU hi)) z,h k (wY k) (by omega) (oV e)];rfl
theorem uO(f:Nat->Nat->Int)(m):∀k,sm k (λi=>sm m (λj=>f i j))=sm m (λj=>sm k (λi=>f i j))
 |0=>by show(0:Int)=sm m λ_=>0;rw[dN m λ_ _=>rfl]
 |k+1=>by
  show sm k (λi=>sm m (λj=>f i j))+sm m (λj=>f k j)=sm m (λj=>sm k (λi=>f i j)+f k j);rw[uO f m k,lX]
theorem yg:∀k,(∀i,i<k->0<=f i)->0<=sm k f
 |0,_=>u5 _
 |k+1,h=>Int.add_nonneg (yg k λi hi=>h i (tU hi)) (h k (wY k))
theorem Oq:∀k,sm k f<0->∃i,i<k/\f i<0
 |0,h=>absurd h (IZ 0)
 |k+1,h=>by
  by_cases c:f k<0
  ·exact⟨k,wY k,c⟩
  ·have h':sm k f+f k<0:=h;obtain⟨i,hi,hf⟩:=Oq k (f:=f) (by omega);exact⟨i,tU hi,hf⟩
theorem Jv:∀k,(∀i,i<k->0<=f i)->sm k f<=0->∀i,i<k->f i=0
 |0,_,_,i,hi=>absurd hi (Tn i)
 |k+1,h,z,i,hi=>by
  have h1:=yg k λi hi=>h i (tU hi);have h2:=h k (wY k);have z':sm k f+f k<=0:=z;by_cases e:i=k
  ·subst e;omega
  ·exact Jv k (λi hi=>h i (tU hi)) (by omega) i (by omega)
noncomputable def sg(i:Nat):Int:=if i %2=0 then 1 else -1
theorem T5(i):sg (i+1)= -sg i:=by
 unfold sg;rcases Nat.mod_two_eq_zero_or_one i with h|h
 ·rw[au h,aq (by omega)]
 ·rw[au (by omega),aq (by omega)];rfl
theorem Ow(i):sg i=1\/sg i=-1:=by unfold sg;split;exact .inl rfl;exact .inr rfl
noncomputable def jm(i r:Nat):Nat:=if r<i then r else r+1
noncomputable def Tc(i r:Nat):Nat:=if r<i then r else r-1
theorem Ov(i r):jm i r≠i:=by unfold jm;split<;>omega
theorem uP(h:j≠i):jm i r=j↔r=Tc i j:=by unfold jm Tc;split<;>split<;>omega
theorem zK(hi:i<k+1)(hr:r<k):jm i r<k+1:=by unfold jm;split<;>omega
theorem XF(h:j≠i)(hi:i<k+1)(hj:j<k+1):Tc i j<k:=by unfold Tc;split<;>omega
noncomputable def oJ(M:Fj)(i:Nat):Fj:=λr c=>M (jm i r) (c+1)
noncomputable def sN:Nat->Fj->Int
 |0,_=>1
 |k+1,M=>sm (k+1) λi=>sg i*M i 0*sN k (oJ M i)
noncomputable def put(M:Fj)(r:Nat)(v:B4):Fj:=λi=>if i=r then v else M i
theorem rq(M)(r)(v):put M r v r=v:=by unfold put;rw[au rfl]
theorem jq(M)(v)(h:i≠r):put M r v i=M i:=by unfold put;rw[aq h]
theorem vW(M)(r):put M r (M r)=M:=by funext i;unfold put;split;rename_i h;rw[h];rfl
theorem jE(M)(u v)(h:r≠t):put (put M r u) t v=put (put M t v) r u:=by
 funext i;unfold put;by_cases h1:i=t
 ·by_cases h2:i=r
  ·exact absurd (h2.symm.trans h1) h
  ·rw[au h1,aq h2,au h1]
 ·rw[aq h1];by_cases h2:i=r
  ·rw[au h2,au h2]
  ·rw[aq h2,aq h2,aq h1]
theorem kJ(M)(i)(v):oJ (put M i v) i=oJ M i:=by
 funext r c;unfold oJ;rw[jq _ _ (Ov i r)]
theorem Ad(M)(v)(h:j≠i):oJ (put M j v) i=put (oJ M i) (Tc i j) (λc=>v (c+1)):=by
 funext r c;unfold oJ put;by_cases e:r=Tc i j
 ·rw[au e,au ((uP h).mpr e)]
 ·rw[aq e,aq λz=>e ((uP h).mp z)]
theorem sX:∀k {M N:Fj},(∀i,i<k->∀j,j<k->M i j=N i j)->sN k M=sN k N
 |0,_,_,_=>rfl
 |k+1,M,N,h=>bx (k+1) λi hi=>by
  rw[h i hi 0 (Bq k),sX k (M:=oJ M i) (N:=oJ N i) λr hr c hc=>h _ (zK hi hr) _ (Nat.succ_lt_succ hc)]
theorem uU:∀k (M:Fj) (r:Nat) (a b:Int) (u v:B4),r<k->sN k (put M r λc=>a*u c+b*v c)=a*sN k (put M r u)+b*sN k (put M r v)
 |k+1,M,r,a,b,u,v,hr=>by
  unfold sN;rw[<-cN,<-cN,<-lX];refine bx (k+1) λi hi=>?_;by_cases e:r=i
  ·subst e;rw[kJ,kJ,kJ,rq,rq,rq]
   grind
  ·rw[Ad _ _ e,Ad _ _ e,Ad _ _ e,jq _ _ (oV e),jq _ _ (oV e),jq _ _ (oV e),uU k (oJ M i) (Tc i r) a b (λc=>u (c+1)) (λc=>v (c+1)) (XF e hi hr)]
   grind
theorem uV:∀k (M:Fj) (r:Nat),r+1<k->M r=M (r+1)->sN k M=0
 |k+1,M,r,hr,e=>by
  unfold sN;refine Oo (j:=r) (k+1) hr (λi hi h1 h2=>?_) ?_
  ·have z:sN k (oJ M i)=0:=by
    by_cases c:i<r
    ·refine uV k (oJ M i) (r-1) (by omega) ?_;funext x;unfold oJ jm;rw[aq (by omega),aq (by omega),show r-1+1=r by omega,e]
    ·refine uV k (oJ M i) r (by omega) ?_;funext x;unfold oJ jm;rw[au (by omega),au (by omega),e]
   rw[z,Bp]
  ·have z:oJ M r=oJ M (r+1):=by
    funext x c;unfold oJ jm;by_cases h1:x<r
    ·rw[au h1,au (by omega)]
    ·rw[aq h1];by_cases h2:x=r
     ·subst h2;rw[au (by omega),e]
     ·rw[aq (by omega)]
   rw[z,e,T5]
   grind
theorem Rm(k)(M)(t)(u v)(h:t+1<k):sN k (put (put M t u) (t+1) v)= -sN k (put (put M t v) (t+1) u):=by
 have n1:t≠t+1:=by omega
 have z:∀w:B4,sN k (put (put M t w) (t+1) w)=0:=λw=>uV k _ t h (by rw[jq _ _ n1,rq,rq]);have Y7:∀(N:Fj) (r:Nat) (a b:B4),r<k->sN k (put N r λc=>a c+b c)=sN k (put N r a)+sN k (put N r b):=λN r a b hr=>by
  have:=uU k N r 1 1 a b hr;simp only[I9]at this;exact this
 have z1:=z λc=>u c+v c;rw[Y7 _ (t+1) u v h,jE M _ _ n1,jE M _ _ n1,Y7 _ t u v (by omega),Y7 _ t u v (by omega),<-jE M _ _ n1,<-jE M _ _ n1,<-jE M _ _ n1,<-jE M _ _ n1,z u,z v]at z1;omega
theorem sY:∀(d k:Nat) (M:Fj) (r:Nat),r+d+1<k->M r=M (r+d+1)->sN k M=0
 |0,k,M,r,h,e=>uV k M r h e
 |d+1,k,M,r,h,e=>by
  have f:=Rm k M (r+d+1) (M (r+d+1)) (M (r+d+1+1)) h;rw[vW,vW]at f;rw[f,sY d k _ r (by omega) (by rw[jq _ _ (by omega),jq _ _ (by omega),jq _ _ (by omega),rq,e];rfl)];rfl
theorem Rj(hr:r<k)(ht:t<k)(h:r≠t)(e:M r=M t):sN k M=0:=by
 by_cases c:r<t
 ·exact sY (t-r-1) k M r (by omega) (by rw[e];congr 1;omega)
 ·exact sY (r-t-1) k M t (by omega) (by rw[<-e];congr 1;omega)
theorem Ed:∀k (M:Fj),(∀i,i<k->∀j,j<k->M i j=if i=j then 1 else 0)->sN k M=1
 |0,_,_=>rfl
 |k+1,M,h=>by
  unfold sN;rw[eF (j:=0) (k+1) (Bq k) λi hi hn=>by rw[h i hi 0 (Bq k),aq hn];grind];rw[h 0 (Bq k) 0 (Bq k),au rfl,Ed k (oJ M 0) λi hi j hj=>?_]
  ·rfl
  ·unfold oJ jm;rw[aq (by omega),h _ (by omega) _ (by omega)];by_cases e:i=j
   ·rw[au e,au (by omega)]
   ·rw[aq e,aq (by omega)]
noncomputable def AV:Nat->Int
 |0=>1
 |k+1=>(k+1:Int)*AV k
theorem zH{f:Nat->Int}:∀k,(∀i,i<k-> -b<=f i/\f i<=b)-> -((k:Int)*b)<=sm k f/\sm k f<=(k:Int)*b
 |0,_=>by
  show -((0:Int)*b)<=0/\(0:Int)<=0*b;omega
 |k+1,h=>by
  have ih:=zH k λi hi=>h i (tU hi);have hk:=h k (wY k);show -((k+1:Nat)*b)<=sm k f+f k/\sm k f+f k<=(k+1:Nat)*b;rw[show(((k+1:Nat):Int))*b=(k:Int)*b+b by rw[Int.natCast_succ,Int.add_mul,I9]];omega
theorem Ac(hx: -a<=x/\x<=a)(hy: -b<=y/\y<=b): -(a*b)<=x*y/\x*y<=a*b:=by
 have h1:0<=(a-x)*(b-y):=Br (by omega) (by omega);have h2:0<=(a+x)*(b+y):=Br (by omega) (by omega);have h3:0<=(a-x)*(b+y):=Br (by omega) (by omega);have h4:0<=(a+x)*(b-y):=Br (by omega) (by omega);constructor<;>grind
theorem Ax:∀k (M:Fj) (c:Nat) (B:Int),1<=B->(∀i,i<k->∀j,j<k->i≠c-> -1<=M i j/\M i j<=1)->(∀j,j<k->c<k-> -B<=M c j/\M c j<=B)-> -(AV k*B)<=sN k M/\sN k M<=AV k*B
 |0,M,c,B,hB,_,_=>by
  show -(1*B)<=1/\(1:Int)<=1*B;omega
 |k+1,M,c,B,hB,h1,h2=>by
  unfold sN;have e:AV (k+1)*B=((k+1:Nat):Int)*(AV k*B):=by show((k:Int)+1)*AV k*B=_;rw[Xi];rfl
  rw[e];refine zH (k+1) λi hi=>?_;have hs:∀x y:Int, -y<=x/\x<=y-> -y<=sg i*x/\sg i*x<=y:=λx y h=>by
   rcases Ow i with s|s
   ·rw[s,I9];exact h
   ·rw[s];omega
  rw[Xi];refine hs _ _ ?_;by_cases ci:i=c
  ·subst ci;have a:=Ax k (oJ M i) k 1 (by decide) (λr hr x hx _=>h1 _ (zK hi hr) _ (by omega) (Ov i r)) (λx hx hk=>absurd hk (u6 k));have b:=h2 0 (Bq k) hi;rw[FM]at a;have:=Ac b a;rw[Bo (AV k) B];exact this
  ·have a:=Ax k (oJ M i) (Tc i c) B hB (λr hr x hx hn=>h1 _ (zK hi hr) _ (by omega) λz=>hn ((uP (oV ci)).mp z)) (λx hx hk=>by
    have hc:jm i (Tc i c)=c:=(uP (oV ci)).mpr rfl;have hlt:c<k+1:=by unfold Tc at hk;split at hk<;>omega
    have:=h2 (x+1) (by omega) hlt;unfold oJ;rw[hc];exact this)
   have b:=h1 i hi 0 (Bq k) ci;have:=Ac b a;rw[I9]at this;exact this
structure Tab where
 col:Nat->Nat
 row:Nat->Nat
 cell:Nat->Nat->Int
 over:Int
 s:Int
noncomputable def one:B4:=λj=>if j=0 then 1 else 0
section
variable(n m:Nat)(S:Nat->Nat->Bool)(w:Nat->Int)
noncomputable def nv(a:Nat):B4:=λj=>if a<n then(if j=a+1 then 1 else 0)else(if j=0 then 1 else if S (a-n) (j-1)=true then -1 else 0)
noncomputable def zv:B4:=λj=>if j=0 then 0 else w (j-1)
noncomputable def rv(T:Tab)(r:Nat):B4:=if r<m then nv n S (T.row r)else zv w
noncomputable def tD(T:Tab):Fj:=λi=>if i=0 then one else nv n S (T.col (i-1))
noncomputable def Fn(T:Tab)(c:Nat)(v:B4):Int:=T.s*sN (n+1) (put (tD n S T) c v)
structure Good(T:Tab):Prop where
 pos:0<T.over
 eq:∀r,r<=m->∀j,j<=n->T.over*rv n m S w T r j=T.cell r n*one j-sm n (λc=>T.cell r c*nv n S (T.col c) j)
 sg:T.s=1\/T.s=-1
 dt:T.over=T.s*sN (n+1) (tD n S T)
 HX:∀c c',c<n->c'<n->T.col c=T.col c'->c=c'
 Pq:∀r r',r<m->r'<m->T.row r=T.row r'->r=r'
 dis:∀c r,c<n->r<m->T.col c≠T.row r
 V0:∀c,c<n->T.col c<n+m
 rlt:∀r,r<m->T.row r<n+m
 all:∀a,a<n+m->(∃c,c<n/\T.col c=a)\/∃r,r<m/\T.row r=a
 fea:∀r,r<m->0<=T.cell r n
end
section
variable{n m:Nat}{S:Nat->Nat->Bool}{w:Nat->Int}{T:Tab}
theorem gC(h:r<m):rv n m S w T r=nv n S (T.row r):=au h
theorem jd:rv n m S w T m=zv w:=aq (u6 m)
theorem Em:tD n S T 0=one:=rfl
theorem Bf(c):tD n S T (c+1)=nv n S (T.col c):=by unfold tD;rw[aq (BJ c)];rfl
theorem Bh(hc:c<=n)(a b)(u v):Fn n S T c (λj=>a*u j+b*v j)=a*Fn n S T c u+b*Fn n S T c v:=by
 unfold Fn;rw[uU (n+1) (tD n S T) c a b u v (by omega)];grind
theorem Nj(h:∀j,j<=n->u j=v j):Fn n S T c u=Fn n S T c v:=by
 unfold Fn;rw[sX (n+1) (M:=put (tD n S T) c u) (N:=put (tD n S T) c v) λi _ j hj=>?_];unfold put;split
 ·exact h j (by omega)
 ·rfl
theorem kZ(hc:c<=n)(x)(a)(y:Nat->Int)(W:Nat->B4):∀k,Fn n S T c (λj=>x*a j-sm k (λi=>y i*W i j))=x*Fn n S T c a-sm k (λi=>y i*Fn n S T c (W i))
 |0=>by
  have h:=Bh (T:=T) (S:=S) hc x 0 a a;rw[Nj (v:=λj=>x*a j+0*a j) λj _=>by show x*a j-0=_;omega,h];show _=_-0;omega
 |k+1=>by
  have h:=Bh (T:=T) (S:=S) hc 1 (-(y k)) (λj=>x*a j-sm k (λi=>y i*W i j)) (W k);rw[Nj (v:=λj=>1*(x*a j-sm k (λi=>y i*W i j))+ -(y k)*W k j) λj _=>by show x*a j-(sm k _+y k*W k j)=_;grind,h,kZ hc x a y W k];show _=x*Fn n S T c a-(sm k _+y k*Fn n S T c (W k))
  grind
theorem rA(hc:c<=n)(a)(u):Fn n S T c (λj=>a*u j)=a*Fn n S T c u:=by
 have h:=Bh (T:=T) (S:=S) hc a 0 u u;rw[Nj (v:=λj=>a*u j+0*u j) λj _=>by omega,h];omega
theorem RW(g:T.over=T.s*sN (n+1) (tD n S T))(hc:c<=n)(hi:i<=n):Fn n S T c (tD n S T i)=if i=c then T.over else 0:=by
 unfold Fn;by_cases e:i=c
 ·subst e;rw[au rfl,vW,<-g]
 ·rw[aq e,Rj (r:=c) (t:=i) (by omega) (by omega) (oV e) (by rw[rq,jq _ _ e]),Bp]
theorem m8(g:T.over=T.s*sN (n+1) (tD n S T))(hc:c<=n):Fn n S T c one=if c=0 then T.over else 0:=by
 have:=RW g hc (dX n);rw[Em]at this;rw[this];by_cases e:c=0
 ·rw[au e,au e.symm]
 ·rw[aq e,aq (oV e)]
theorem Bu(g:T.over=T.s*sN (n+1) (tD n S T))(hc:c<=n)(hi:i<n):Fn n S T c (nv n S (T.col i))=if i+1=c then T.over else 0:=by
 have:=RW g hc (show i+1<=n by omega);rw[Bf]at this;exact this
theorem Ff{a x y:Int}(h:0<a)(e:a*x=a*y):x=y:=PC (by omega) e
theorem Good.base(G:Good n m S w T)(hr:r<=m):Fn n S T 0 (rv n m S w T r)=T.cell r n:=by
 have h1:=rA (T:=T) (S:=S) (c:=0) (dX n) T.over (rv n m S w T r);rw[Nj λj hj=>G.eq r hr j hj,kZ (dX n) _ _ (T.cell r) (λc=>nv n S (T.col c)),m8 G.dt (dX n),au rfl,dN n λc hc=>by rw[Bu G.dt (dX n) hc,aq (BJ c),Bp]]at h1;refine Ff G.pos ?_;rw[<-h1,Bo];omega
theorem Good.dir(G:Good n m S w T)(hr:r<=m)(hc:c<n):Fn n S T (c+1) (rv n m S w T r)= -T.cell r c:=by
 have h1:=rA (T:=T) (S:=S) (c:=c+1) hc T.over (rv n m S w T r);rw[Nj λj hj=>G.eq r hr j hj,kZ hc _ _ (T.cell r) (λc=>nv n S (T.col c)),m8 G.dt hc,aq (BJ c),eF (j:=c) n hc λi hi hn=>by rw[Bu G.dt hc hi,aq (by omega),Bp],Bu G.dt hc hc,au rfl]at h1;refine Ff G.pos ?_;rw[<-h1];grind
noncomputable def turn(T:Tab)(p q:Nat):Tab where
 col:=λc=>if c=q then T.row p else T.col c
 row:=λr=>if r=p then T.col q else T.row r
 over:=T.cell p q
 s:= -T.s
 cell:=λr c=>if r=p then(if c=q then T.over else T.cell p c)else if c=q then -T.cell r q else(T.cell r c*T.cell p q-T.cell r q*T.cell p c)/T.over
theorem NZ:tD n S (turn T p q)=put (tD n S T) (q+1) (nv n S (T.row p)):=by
 funext i;unfold tD put turn;dsimp only;by_cases h0:i=0
 ·rw[au h0,aq (by omega),au h0]
 ·rw[aq h0];by_cases h1:i=q+1
  ·rw[au h1,au (by omega)]
  ·rw[aq h1,aq (by omega),aq h0]
theorem TJ(h:r≠p):rv n m S w (turn T p q) r=rv n m S w T r:=by
 unfold rv turn;dsimp only;rw[aq h]
theorem Good.xZ(G:Good n m S w T)(hp:p<m)(hq:q<n):(turn T p q).over=(turn T p q).s*sN (n+1) (tD n S (turn T p q)):=by
 have h:=G.dir (r:=p) (dW hp) hq;rw[gC hp]at h;unfold Fn at h;rw[NZ];show T.cell p q= -T.s*_
 grind
theorem Good.exact(G:Good n m S w T)(hp:p<m)(hq:q<n)(hb:0<T.cell p q)(hr:r<=m)(hrp:r≠p)(hc:c<=n)(Zm:c≠q):
  T.over*(turn T p q).cell r c=T.cell r c*T.cell p q-T.cell r q*T.cell p c:=by
 have g':=G.xZ hp hq;have abw:∀j,j<=n->T.cell p q*T.over*rv n m S w T r j=(T.cell r n*T.cell p q-T.cell r q*T.cell p n)*one j-sm n (λc=>(T.cell r c*T.cell p q-T.cell r q*T.cell p c)*nv n S (T.col c) j)+T.over*T.cell r q*nv n S (T.row p) j:=λj hj=>by
  have e1:=G.eq r hr j hj;have e2:=G.eq p (dW hp) j hj;rw[gC hp]at e2;have e3:sm n (λc=>(T.cell r c*T.cell p q-T.cell r q*T.cell p c)*nv n S (T.col c) j)=T.cell p q*sm n (λc=>T.cell r c*nv n S (T.col c) j)+ -(T.cell r q)*sm n (λc=>T.cell p c*nv n S (T.col c) j):=by
   rw[<-cN,<-cN,<-lX];exact bx n λc _=>by grind
  rw[e3];generalize sm n (λc=>T.cell r c*nv n S (T.col c) j)=A at *;generalize sm n (λc=>T.cell p c*nv n S (T.col c) j)=B at *
  grind
 have app:∀d,d<=n->T.cell p q*T.over*Fn n S (turn T p q) d (rv n m S w T r)=(T.cell r n*T.cell p q-T.cell r q*T.cell p n)*Fn n S (turn T p q) d one-sm n (λc=>(T.cell r c*T.cell p q-T.cell r q*T.cell p c)*Fn n S (turn T p q) d (nv n S (T.col c)))+T.over*T.cell r q*Fn n S (turn T p q) d (nv n S (T.row p)):=λd hd=>by
  rw[<-rA hd,Nj abw,<-kZ hd _ _ (λc=>T.cell r c*T.cell p q-T.cell r q*T.cell p c) (λc=>nv n S (T.col c))];have h:=Bh (T:=turn T p q) (S:=S) hd 1 (T.over*T.cell r q) (λj=>(T.cell r n*T.cell p q-T.cell r q*T.cell p n)*one j-sm n (λc=>(T.cell r c*T.cell p q-T.cell r q*T.cell p c)*nv n S (T.col c) j)) (nv n S (T.row p));simp only[I9]at h;exact h
 have abe:nv n S ((turn T p q).col q)=nv n S (T.row p):=by unfold turn;dsimp only;rw[au rfl]
 have ZR:∀c,c≠q->nv n S ((turn T p q).col c)=nv n S (T.col c):=λc h=>by unfold turn;dsimp only;rw[aq h]
 have ov:(turn T p q).over=T.cell p q:=rfl;have key:∃x,T.cell r c*T.cell p q-T.cell r q*T.cell p c=T.over*x:=by
  by_cases hl:c=n
  ·subst hl;have h:=app 0 (dX _);have f1:=m8 g' (dX c);have f2:=Bu g' (dX c) hq;rw[au rfl,ov]at f1;rw[abe,aq (BJ q)]at f2;rw[f1,f2,dN c λi hi=>?_]at h
   ·refine⟨Fn c S (turn T p q) 0 (rv c m S w T r),Ff hb ?_⟩
    grind
   ·by_cases hiq:i=q
    ·subst hiq;rw[Int.sub_self,EI]
    ·have f3:=Bu g' (dX c) hi;rw[ZR i hiq,aq (BJ i)]at f3;rw[f3,Bp]
  ·have hc':c<n:=by omega
   have h:=app (c+1) hc';have f1:=m8 g' (show c+1<=n from hc');have f2:=Bu g' (show c+1<=n from hc') hq;have f3:=Bu g' (show c+1<=n from hc') hc';rw[aq (BJ c)]at f1;rw[abe,aq (by omega)]at f2;rw[ZR c Zm,au rfl,ov]at f3;rw[f1,f2,eF (j:=c) n hc' λi hi hn=>?_,f3]at h
   ·refine⟨-Fn n S (turn T p q) (c+1) (rv n m S w T r),Ff hb ?_⟩
    grind
   ·by_cases hiq:i=q
    ·subst hiq;rw[Int.sub_self,EI]
    ·have f4:=Bu g' (show c+1<=n from hc') hi;rw[ZR i hiq,aq (by omega)]at f4;rw[f4,Bp]
 obtain⟨x,hx⟩:=key;show T.over*(if r=p then _ else if c=q then _ else(T.cell r c*T.cell p q-T.cell r q*T.cell p c)/T.over)=_;rw[aq hrp,aq Zm,hx,NM _ (Int.ne_of_gt G.pos)]
theorem Good.turn(G:Good n m S w T){p q:Nat}(hp:p<m)(hq:q<n)(hb:0<T.cell p q)(ra:∀r,r<m->0<T.cell r q->T.cell p n*T.cell r q<=T.cell r n*T.cell p q):Good n m S w (turn T p q):=by
 have hqn:n≠q:=by omega
 have c1:∀r,r≠p->(Sx.turn T p q).cell r q= -T.cell r q:=λr h=>by unfold Sx.turn;dsimp only;rw[aq h,au rfl]
 have c2:(Sx.turn T p q).cell p q=T.over:=by unfold Sx.turn;dsimp only;rw[au rfl,au rfl]
 have c3:∀c,c≠q->(Sx.turn T p q).cell p c=T.cell p c:=λc h=>by unfold Sx.turn;dsimp only;rw[au rfl,aq h]
 have k1:(Sx.turn T p q).col q=T.row p:=by unfold Sx.turn;dsimp only;rw[au rfl]
 have k2:∀c,c≠q->(Sx.turn T p q).col c=T.col c:=λc h=>by unfold Sx.turn;dsimp only;rw[aq h]
 have r1:(Sx.turn T p q).row p=T.col q:=by unfold Sx.turn;dsimp only;rw[au rfl]
 have r2:∀r,r≠p->(Sx.turn T p q).row r=T.row r:=λr h=>by unfold Sx.turn;dsimp only;rw[aq h]
 refine⟨hb,λr hr j hj=>?_,?_,G.xZ hp hq,λc c' hc hc' e=>?_,λr r' hr hr' e=>?_,λc r hc hr e=>?_,λc hc=>?_,λr hr=>?_,λa ha=>?_,λr hr=>?_⟩
 ·have e2:=G.eq p (dW hp) j hj;rw[gC hp]at e2;by_cases h:r=p
  ·subst h;rw[gC hp,r1,c3 n hqn];have e3:sm n (λc=>(Sx.turn T r q).cell r c*nv n S ((Sx.turn T r q).col c) j)=sm n (λc=>T.cell r c*nv n S (T.col c) j)+(T.over*nv n S (T.row r) j-T.cell r q*nv n S (T.col q) j):=by
    have:sm n (λc=>if c=q then T.over*nv n S (T.row r) j-T.cell r q*nv n S (T.col q) j else 0)=T.over*nv n S (T.row r) j-T.cell r q*nv n S (T.col q) j:=by
     rw[eF (j:=q) n hq λi _ hn=>aq hn,au rfl]
    rw[<-this,<-lX];refine bx n λc _=>?_;by_cases hc:c=q
    ·subst hc;rw[c2,k1,au rfl];omega
    ·rw[c3 c hc,k2 c hc,aq hc];omega
   rw[e3];show T.cell r q*nv n S (T.col q) j=_;omega
  ·rw[TJ h];have e1:=G.eq r hr j hj;have e3:T.over*sm n (λc=>(Sx.turn T p q).cell r c*nv n S ((Sx.turn T p q).col c) j)=T.cell p q*sm n (λc=>T.cell r c*nv n S (T.col c) j)+ -(T.cell r q)*sm n (λc=>T.cell p c*nv n S (T.col c) j)+ -(T.over*T.cell r q*nv n S (T.row p) j):=by
    have:sm n (λc=>if c=q then -(T.over*T.cell r q*nv n S (T.row p) j)else 0)=-(T.over*T.cell r q*nv n S (T.row p) j):=by
     rw[eF (j:=q) n hq λi _ hn=>aq hn,au rfl]
    rw[<-this,<-cN,<-cN,<-cN,<-lX,<-lX];refine bx n λc hc=>?_;by_cases Zm:c=q
    ·subst Zm;rw[c1 r h,k1,au rfl];grind
    ·have:=G.exact hp hq hb hr h (dW hc) Zm;rw[k2 c Zm,aq Zm,<-Xi,this];grind
   have e4:=G.exact hp hq hb hr h (aP n) hqn;refine Ff G.pos ?_;show T.over*(T.cell p q*rv n m S w T r j)=_;rw[Int.mul_sub,e3,<-Xi T.over ((Sx.turn T p q).cell r n),e4];generalize sm n (λc=>T.cell r c*nv n S (T.col c) j)=A at *;generalize sm n (λc=>T.cell p c*nv n S (T.col c) j)=B at *
   grind
 ·rcases G.sg with e|e
  ·exact .inr (by show -T.s=-1;rw[e])
  ·exact .inl (by show -T.s=1;rw[e];rfl)
 ·by_cases h1:c=q
  ·by_cases h2:c'=q
   ·rw[h1,h2]
   ·rw[h1,k1,k2 c' h2]at e;exact absurd e.symm (G.dis c' p hc' hp)
  ·by_cases h2:c'=q
   ·rw[h2,k1,k2 c h1]at e;exact absurd e (G.dis c p hc hp)
   ·rw[k2 c h1,k2 c' h2]at e;exact G.HX c c' hc hc' e
 ·by_cases h1:r=p
  ·by_cases h2:r'=p
   ·rw[h1,h2]
   ·rw[h1,r1,r2 r' h2]at e;exact absurd e (G.dis q r' hq hr')
  ·by_cases h2:r'=p
   ·rw[h2,r1,r2 r h1]at e;exact absurd e.symm (G.dis q r hq hr)
   ·rw[r2 r h1,r2 r' h2]at e;exact G.Pq r r' hr hr' e
 ·by_cases h1:c=q
  ·by_cases h2:r=p
   ·rw[h1,h2,k1,r1]at e;exact G.dis q p hq hp e.symm
   ·rw[h1,k1,r2 r h2]at e;exact h2 (G.Pq p r hp hr e).symm
  ·by_cases h2:r=p
   ·rw[h2,k2 c h1,r1]at e;exact h1 (G.HX c q hc hq e)
   ·rw[k2 c h1,r2 r h2]at e;exact G.dis c r hc hr e
 ·by_cases h1:c=q
  ·rw[h1,k1];exact G.rlt p hp
  ·rw[k2 c h1];exact G.V0 c hc
 ·by_cases h1:r=p
  ·rw[h1,r1];exact G.V0 q hq
  ·rw[r2 r h1];exact G.rlt r hr
 ·rcases G.all a ha with⟨c,hc,e⟩|⟨r,hr,e⟩
  ·by_cases h1:c=q
   ·exact .inr ⟨p,hp,by rw[r1,<-h1,e]⟩
   ·exact .inl ⟨c,hc,by rw[k2 c h1,e]⟩
  ·by_cases h1:r=p
   ·exact .inl ⟨q,hq,by rw[k1,<-h1,e]⟩
   ·exact .inr ⟨r,hr,by rw[r2 r h1,e]⟩
 ·by_cases h1:r=p
  ·rw[h1,c3 n hqn];exact G.fea p hp
  ·have e:=G.exact hp hq hb (dW hr) h1 (aP n) hqn;have f1:=G.fea r hr;have f2:=G.fea p hp;have z:0<=T.cell r n*T.cell p q-T.cell r q*T.cell p n:=by
    by_cases hc:0<T.cell r q
    ·have:=ra r hr hc;rw[Bo (T.cell r q)];omega
    ·have a1:0<=T.cell r n*T.cell p q:=Br f1 (by omega);have a2:0<=-(T.cell r q)*T.cell p n:=Br (by omega) f2
     grind
   rw[<-e]at z;have:=G.pos;refine Int.not_lt.mp λhn=>?_;have:T.over*(Sx.turn T p q).cell r n<0:=Int.mul_neg_of_pos_of_neg G.pos hn;omega
end
structure Step(n m:Nat)(T:Tab)(p q:Nat):Prop where
 hp:p<m
 hq:q<n
 neg:T.cell m q<0
 ent:∀c,c<n->T.cell m c<0->T.col q<=T.col c
 by_:0<T.cell p q
 lev:∀r,r<m->0<T.cell r q->T.cell p n*T.cell r q<T.cell r n*T.cell p q\/(T.cell p n*T.cell r q=T.cell r n*T.cell p q/\T.row p<=T.row r)
noncomputable def tF(n:Nat)(T:Tab)(a:Nat):Prop:=∃c,c<n/\T.col c=a
section
variable{n m:Nat}{S:Nat->Nat->Bool}{w:Nat->Int}
theorem Step.good(s:Step n m T p q)(G:Good n m S w T):Good n m S w (turn T p q):=
 G.turn s.hp s.hq s.by_ λr hr h=>(s.lev r hr h).elim Nq λe=>EH e.1
theorem Step.worth(s:Step n m T p q)(G:Good n m S w T):T.over*(turn T p q).cell m n-(turn T p q).over*T.cell m n=-(T.cell m q)*T.cell p n:=by
 have h:=G.exact s.hp s.hq s.by_ (aP m) (xg s.hp) (aP n) (xg s.hq);rw[h];show _-T.cell p q*_=_
 grind
theorem Step.le(s:Step n m T p q)(G:Good n m S w T):(turn T p q).over*T.cell m n<=T.over*(turn T p q).cell m n:=by
 have h:=s.worth G;have:=Br (a:=-(T.cell m q)) (b:=T.cell p n) (by have:=s.neg;omega) (G.fea p s.hp);omega
theorem Al{a b c d e f:Int}(hd:0<d)(hb:0<b)(hf:0<f)(h1:d*a<=b*c)(h2:f*c<=d*e):f*a<=b*e:=by
 have x:=Wf h1 (Nq hf);have y:=Wf h2 (Nq hb);refine Int.le_of_mul_le_mul_left (a:=d) ?_ hd
 grind
theorem Ak{a b c d e f:Int}(hd:0<d)(hb:0<b)(hf:0<f)(h1:d*a<=b*c)(h2:f*c<d*e):f*a<b*e:=by
 have x:=Wf h1 (Nq hf);have y:=PF h2 hb;refine Pw (a:=d) ?_ (Nq hd)
 grind
theorem DW{a b c d e f:Int}(hd:0<d)(hb:0<b)(hf:0<f)(h1:d*a<b*c)(h2:f*c<=d*e):f*a<b*e:=by
 have x:=PF h1 hf;have y:=Wf h2 (Nq hb);refine Pw (a:=d) ?_ (Nq hd)
 grind
theorem HL{P:Nat->Prop}:∀d,P s->¬P (s+d)->∃t,s<=t/\t<s+d/\P t/\¬P (t+1)
 |0,h,h'=>absurd h h'
 |d+1,h,h'=>by
  by_cases c:P (s+d)
  ·exact⟨s+d,by omega,by omega,c,h'⟩
  ·obtain⟨t,a,b,x⟩:=HL d h c;exact⟨t,a,by omega,x⟩
theorem DG{P:Nat->Prop}(hse:s<=e)(h:P s)(h':¬P e):∃t,s<=t/\t<e/\P t/\¬P (t+1):=by
 obtain⟨t,a,b,x⟩:=HL (s:=s) (e-s) h (by rw[show s+(e-s)=e by omega];exact h');exact⟨t,a,by omega,x⟩
theorem most{P:Nat->Prop}:∀N,(∃a,P a)->(∀a,P a->a<N)->∃a,P a/\∀b,P b->b<=a
 |0,⟨a,h⟩,hb=>absurd (hb a h) (Tn a)
 |N+1,h,hb=>by
  by_cases c:P N
  ·exact⟨N,c,λb hP=>by have:=hb b hP;omega⟩
  ·exact most N h λa hP=>by
    have:=hb a hP;have:a≠N:=λe=>c (e▸hP);omega
structure Run(n m:Nat)(S:Nat->Nat->Bool)(w:Nat->Int)(T:Nat->Tab)(p q:Nat->Nat)(L:Nat):Prop where
 first:Good n m S w (T 0)
 step:∀t,t<L->Step n m (T t) (p t) (q t)
 next:∀t,t<L->T (t+1)=turn (T t) (p t) (q t)
variable{T:Nat->Tab}{p q:Nat->Nat}{L:Nat}
theorem Run.good(R:Run n m S w T p q L):∀t,t<=L->Good n m S w (T t)
 |0,_=>R.first
 |t+1,h=>by rw[R.next t h];exact(R.step t h).good (R.good t (M3 h))
theorem Run.worth(R:Run n m S w T p q L):∀d,i+d<=L->(T (i+d)).over*(T i).cell m n<=(T i).over*(T (i+d)).cell m n
 |0,_=>u5 _
 |d+1,h=>by
  have ih:=R.worth d (i:=i) (by omega);have g1:=R.good (i+d) (by omega);have st:=(R.step (i+d) (by omega)).le g1;rw[<-R.next (i+d) (by omega)]at st;exact Al g1.pos (R.good i (by omega)).pos (R.good (i+d+1) h).pos ih st
theorem Run.Nv(R:Run n m S w T p q L)(hij:i<=j)(hj:j<=L):(T j).over*(T i).cell m n<=(T i).over*(T j).cell m n:=by
 have:=R.worth (i:=i) (j-i) (by omega)
 rwa [show i+(j-i)=j by omega]at this
theorem Gq(GA:Good n m S w A)(GB:Good n m S w B)(h:∀a,tF n B a->tF n A a):B.over*A.cell m n=A.over*B.cell m n:=by
 have h1:=rA (T:=A) (S:=S) (c:=0) (dX n) B.over (zv w);have e:=GB.eq m (aP m);rw[jd]at e;have b:=GA.base (aP m);rw[jd]at b;rw[Nj e,kZ (dX n) _ _ (B.cell m) (λc=>nv n S (B.col c)),m8 GA.dt (dX n),au rfl,dN n λc hc=>?_,b]at h1
 ·rw[<-h1,Bo];omega
 ·obtain⟨c',hc',e'⟩:=h _ ⟨c,hc,rfl⟩;rw[<-e',Bu GA.dt (dX n) hc',aq (BJ c'),Bp]
theorem NT{T:Tab}{p q:Nat}(G:Good n m S w T)(hp:p<m)(hq:q<n)(a):tF n (turn T p q) a↔(tF n T a/\a≠T.col q)\/a=T.row p:=by
 constructor
 ·rintro⟨c,hc,e⟩;have e':(if c=q then T.row p else T.col c)=a:=e;by_cases h:c=q
  ·rw[au h]at e';exact .inr e'.symm
  ·rw[aq h]at e';exact .inl ⟨⟨c,hc,e'⟩,λz=>h (G.HX c q hc hq (e'.trans z))⟩
 ·rintro(⟨⟨c,hc,e⟩,hn⟩|e)
  ·have h:c≠q:=λz=>hn (by rw[<-e,z]);exact⟨c,hc,by show(if c=q then _ else _)=a;rw[aq h];exact e⟩
  ·exact⟨q,hq,by show(if q=q then _ else _)=a;rw[au rfl];exact e.symm⟩
theorem OE{T:Tab}{p q:Nat}(G:Good n m S w T)(G':Good n m S w (turn T p q))(s:Step n m T p q)(h0:T.cell p n=0)(ha:a<n+m):Fn n S (turn T p q) 0 (nv n S a)=0↔Fn n S T 0 (nv n S a)=0:=by
 have z0:=dX n;rcases G'.all a ha with⟨c,hc,e⟩|⟨r,hr,e⟩
 ·have f1:=Bu G'.dt z0 hc;rw[e,aq (BJ c)]at f1;refine⟨λ_=>?_,λ_=>f1⟩;have e':(if c=q then T.row p else T.col c)=a:=e;by_cases h:c=q
  ·rw[au h]at e';have:=G.base (dW s.hp);rw[gC s.hp,e']at this;rw[this,h0]
  ·rw[aq h]at e';have:=Bu G.dt z0 hc;rw[e',aq (BJ c)]at this;exact this
 ·have f1:=G'.base (dW hr);rw[gC hr,e]at f1;have e':(if r=p then T.col q else T.row r)=a:=e;rw[f1];by_cases h:r=p
  ·rw[au h]at e';have f2:=Bu G.dt z0 s.hq;rw[e',aq (BJ q)]at f2;have f3:(turn T p q).cell r n=T.cell p n:=by
    show(if r=p then(if n=q then _ else _)else _)=_;rw[au h,aq (xg s.hq)]
   rw[f3,h0];exact⟨λ_=>f2,λ_=>rfl⟩
  ·rw[aq h]at e';have f2:=G.base (dW hr);rw[gC hr,e']at f2;rw[f2];have x:=G.exact s.hp s.hq s.by_ (dW hr) h (aP n) (xg s.hq);rw[h0,Bp,Int.sub_zero]at x;constructor
   ·intro z;rw[z,Bp]at x;rcases Int.mul_eq_zero.mp x.symm with y|y
    ·exact y
    ·have:=s.by_;omega
   ·intro z;rw[z,EI]at x;rcases Int.mul_eq_zero.mp x with y|y
    ·have:=G.pos;omega
    ·exact y
theorem Run.Lx(R:Run n m S w T p q L)(hij:i<j)(hj:j<=L):¬∀a,tF n (T i) a↔tF n (T j) a:=by
 intro same;have Gt:∀t,i<=t->t<=j->Good n m S w (T t):=λt _ h=>R.good t (dH h hj);have D:=Gq (Gt i (aP i) (dW hij)) (Gt j (dW hij) (aP j)) λa=>(same a).mpr;have St:∀t,t<j->Step n m (T t) (p t) (q t):=λt h=>R.step t (jA h hj);have nx:∀t,t<j->T (t+1)=turn (T t) (p t) (q t):=λt h=>R.next t (jA h hj)
 have fl:∀t,i<=t->t<j->(T t).cell (p t) n=0:=λt hi ht=>by
  have g:=Gt t hi (dW ht);have W:=(St t ht).worth g;have F:=g.fea (p t) (St t ht).hp;have N:=(St t ht).neg;by_cases z:(T t).cell (p t) n=0
  ·exact z
  ·exfalso;have B:(turn (T t) (p t) (q t)).over*(T t).cell m n<(T t).over*(turn (T t) (p t) (q t)).cell m n:=by
    have:=De (a:=-((T t).cell m (q t))) (b:=(T t).cell (p t) n) (by omega) (by omega);omega
   rw[<-nx t ht]at B;have A:=R.Nv (i:=i) (j:=t) hi (by omega);have C:=R.Nv (i:=t+1) (j:=j) ht hj;have o1:=(Gt i (aP i) (dW hij)).pos;have o2:=g.pos;have o3:=(Gt (t+1) (by omega) ht).pos;have o4:=(Gt j (dW hij) (aP j)).pos;have x:=Ak o2 o1 o3 A B;have y:=DW o3 o1 o4 x C;omega
 have ic:∀t,t<j->i<=t->∀a,tF n (T (t+1)) a↔(tF n (T t) a/\a≠(T t).col (q t))\/a=(T t).row (p t):=λt ht hi a=>by
  rw[nx t ht];exact NT (Gt t hi (dW ht)) (St t ht).hp (St t ht).hq a
 have zeros:∀{a:Nat},a<n+m->∀d s,i<=s->s+d<=j->(Fn n S (T (s+d)) 0 (nv n S a)=0↔Fn n S (T s) 0 (nv n S a)=0):=λ{a} ha d=>by
  induction d with
  |zero=>intro s _ _;exact Iff.rfl
  |succ d ih=>
   intro s hs hd;have f:=OE (Gt (s+d) (by omega) (by omega)) (by rw[<-nx (s+d) (by omega)];exact Gt (s+d+1) (by omega) hd) (St (s+d) (by omega)) (fl (s+d) (by omega) (by omega)) ha;rw[<-nx (s+d) (by omega)]at f;exact f.trans (ih s hs (by omega))
 have aac:∀{a s t:Nat},a<n+m->i<=s->s<=j->i<=t->t<=j->Fn n S (T s) 0 (nv n S a)=0->Fn n S (T t) 0 (nv n S a)=0:=λ{a s t} ha h1 h2 h3 h4 z=>by
  by_cases c:s<=t
  ·have:=zeros ha (t-s) s h1 (by omega);rw[show s+(t-s)=t by omega]at this;exact this.mpr z
  ·have:=zeros ha (s-t) t h3 (by omega);rw[show t+(s-t)=s by omega]at this;exact this.mp z
 let Fk:Nat->Prop:=λa=>∃t,i<=t/\t<j/\((tF n (T t) a/\¬tF n (T (t+1)) a)\/(¬tF n (T t) a/\tF n (T (t+1)) a));have fkc:∀t,i<=t->t<j->Fk ((T t).col (q t)):=λt hi ht=>by
  have g:=Gt t hi (dW ht);refine⟨t,hi,ht,.inl ⟨⟨q t,(St t ht).hq,rfl⟩,λz=>?_⟩⟩;rcases(ic t ht hi _).mp z with⟨_,z⟩|z
  ·exact z rfl
  ·exact g.dis (q t) (p t) (St t ht).hq (St t ht).hp z
 have lt:∀a,Fk a->a<n+m:=λa h=>by
  obtain⟨t,hi,ht,(⟨⟨c,hc,e⟩,_⟩|⟨_,⟨c,hc,e⟩⟩)⟩:=h
  ·rw[<-e];exact(Gt t hi (dW ht)).V0 c hc
  ·rw[<-e];exact(Gt (t+1) (by omega) ht).V0 c hc
 obtain⟨tt,hF,hmax⟩:=most (n+m) ⟨_,fkc i (aP i) hij⟩ lt;have diff:∀{a s e:Nat},i<=s->s<=j->i<=e->e<=j->tF n (T s) a->¬tF n (T e) a->Fk a:=λ{a s e} h1 h2 h3 h4 x y=>by
  by_cases c:s<=e
  ·obtain⟨t,a1,a2,a3,a4⟩:=DG (P:=λt=>tF n (T t) a) c x y;exact⟨t,by omega,by omega,.inl ⟨a3,a4⟩⟩
  ·obtain⟨t,a1,a2,a3,a4⟩:=DG (P:=λt=>¬tF n (T t) a) (s:=e) (e:=s) (by omega) y (λz=>z x);exact⟨t,by omega,by omega,.inr ⟨a3,Classical.not_not.mp a4⟩⟩
 obtain⟨t1,h1i,h1j,h1a,h1b⟩:∃t,i<=t/\t<j/\tF n (T t) tt/\¬tF n (T (t+1)) tt:=by
  obtain⟨t,hi,ht,(⟨x,y⟩|⟨x,y⟩)⟩:=hF
  ·exact⟨t,hi,ht,x,y⟩
  ·by_cases c:tF n (T j) tt
   ·obtain⟨u,a1,a2,a3,a4⟩:=DG (P:=λt=>tF n (T t) tt) hi ((same tt).mpr c) x;exact⟨u,a1,by omega,a3,a4⟩
   ·obtain⟨u,a1,a2,a3,a4⟩:=DG (P:=λt=>tF n (T t) tt) (s:=t+1) (e:=j) ht y c;exact⟨u,by omega,a2,a3,a4⟩
 obtain⟨t2,h2i,Zr,h2a,h2b⟩:∃t,i<=t/\t<j/\¬tF n (T t) tt/\tF n (T (t+1)) tt:=by
  have up:∀s e,i<=s->s<=e->e<=j->¬tF n (T s) tt->tF n (T e) tt->∃t,i<=t/\t<j/\¬tF n (T t) tt/\tF n (T (t+1)) tt:=λs e a b c x y=>by
   obtain⟨u,a1,a2,a3,a4⟩:=DG (P:=λt=>¬tF n (T t) tt) b x (λz=>z y);exact⟨u,by omega,by omega,a3,Classical.not_not.mp a4⟩
  by_cases c:tF n (T j) tt
  ·exact up (t1+1) j (by omega) h1j (aP j) h1b c
  ·exact up i t1 (aP i) h1i (by omega) (λz=>c ((same tt).mp z)) h1a
 have e1:tt=(T t1).col (q t1):=by
  refine E4 λhn=>h1b ((ic t1 h1j h1i tt).mpr (.inl ⟨h1a,hn⟩))
 have e2:tt=(T t2).row (p t2):=by
  rcases(ic t2 Zr h2i tt).mp h2b with⟨z,_⟩|z
  ·exact absurd z h2a
  ·exact z
 have G1:=Gt t1 h1i (dW h1j);have G2:=Gt t2 h2i (dW Zr);have S1:=St t1 h1j;have S2:=St t2 Zr
 have hq2:q t2+1<=n:=S2.hq;have dz:=G2.dir (aP m) S2.hq;rw[jd]at dz;have sum:=rA (T:=T t2) (S:=S) hq2 (T t1).over (zv w);have eq1:=G1.eq m (aP m);rw[jd]at eq1;rw[Nj eq1,kZ hq2 _ _ ((T t1).cell m) (λc=>nv n S ((T t1).col c)),m8 G2.dt hq2,aq (BJ _),dz]at sum;have neg:sm n (λc=>(T t1).cell m c*Fn n S (T t2) (q t2+1) (nv n S ((T t1).col c)))<0:=by
  have:=De G1.pos (b:=-((T t2).cell m (q t2))) (by have:=S2.neg;omega);omega
 obtain⟨c,hc,hlt⟩:=Oq n neg;have hnm:=G1.V0 c hc;rcases G2.all _ hnm with⟨c0,hc0,e0⟩|⟨r0,hr0,e0⟩
 ·have f:=Bu G2.dt hq2 hc0;rw[e0]at f;by_cases z:c0=q t2
  ·rw[au (by omega)]at f;rw[f]at hlt;have cn:(T t1).cell m c<0:=by
    refine Int.not_le.mp λh=>?_;have:=Br h (Nq G2.pos);omega
   have a:=S1.ent c hc cn;rw[<-e1,<-e0,z]at a;have b:=hmax _ (fkc t2 h2i Zr);have:tt=(T t2).col (q t2):=Xj a b;exact G2.dis (q t2) (p t2) S2.hq S2.hp (this.symm.trans e2)
  ·rw[aq (by omega)]at f;rw[f,Bp]at hlt;exact absurd hlt (IZ 0)
 ·have f:=G2.dir (dW hr0) S2.hq;rw[gC hr0,e0]at f;rw[f]at hlt;have fk:Fk ((T t1).col c):=diff h1i (dW h1j) h2i (dW Zr) ⟨c,hc,rfl⟩ (λ⟨c',hc',e'⟩=>G2.dis c' r0 hc' hr0 (e'.trans e0.symm));have le:=hmax _ fk;by_cases z:(T t1).col c=tt
  ·have cq:c=q t1:=G1.HX c (q t1) hc S1.hq (z.trans e1);have rp:r0=p t2:=G2.Pq r0 (p t2) hr0 S2.hp (e0.trans (z.trans e2));subst cq rp;have a:=S1.neg;have b:=S2.by_;have:=De (a:=-((T t1).cell m (q t1))) (b:=(T t2).cell (p t2) (q t2)) (by omega) b
   grind
  ·have cn:¬(T t1).cell m c<0:=λh=>by
    have:=S1.ent c hc h;omega
   have Cw:0<(T t2).cell r0 (q t2):=by
    refine Int.not_le.mp λh=>?_;have:=Br (a:=(T t1).cell m c) (b:=-((T t2).cell r0 (q t2))) (by omega) (by omega);omega
   have v1:Fn n S (T t1) 0 (nv n S ((T t1).col c))=0:=by rw[Bu G1.dt (dX n) hc,aq (BJ c)]
   have v2:=aac hnm h1i (dW h1j) h2i (dW Zr) v1;have b:=G2.base (dW hr0);rw[gC hr0,e0,v2]at b;have k:=fl t2 h2i Zr;rcases S2.lev r0 hr0 Cw with h|⟨_,h⟩
   ·rw[k,<-b,EI,EI]at h;exact absurd h (IZ 0)
   ·rw[<-e2,e0]at h;omega
noncomputable def C9:List Bool->Nat
 |[]=>0
 |b::l=>(if b=true then 1 else 0)+2*C9 l
theorem Rg:∀l:List Bool,C9 l<2^l.length
 |[]=>by decide
 |b::l=>by
  have:=Rg l;show(if b=true then 1 else 0)+2*C9 l<2^(l.length+1);rw[IU];split<;>omega
theorem JZ:∀{l l':List Bool},l.length=l'.length->C9 l=C9 l'->l=l'
 |[],[],_,_=>rfl
 |b::l,b'::l',h,e=>by
  have e':(if b=true then 1 else 0)+2*C9 l=(if b'=true then 1 else 0)+2*C9 l':=e;have hb:b=b':=by cases b<;>cases b'<;>simp at e'⊢<;>omega
  subst hb;rw[JZ (l:=l) (l':=l') (by simpa using h) (by omega)]
theorem few:∀(K:Nat) (l:List Nat),l.Nodup->(∀x∈l,x<K)->l.length<=K
 |0,[],_,_=>aP 0
 |0,x::_,_,h=>absurd (h x dZ) (Tn x)
 |K+1,l,nd,h=>by
  have a:=few K (l.filter λx=>decide (x≠K)) (nd.filter _) λx hx=>by
   obtain⟨h1,h2⟩:=iU.mp hx;have:=h x h1;have:=lA h2;omega
  have b:l.length<=(l.filter λx=>decide (x≠K)).length+1:=by
   clear a h
   induction l with
   |nil=>exact dX _
   |cons y l ih=>
    have nd':=Kr.mp nd;rw[Ks];by_cases c:y=K
    ·subst c;rw[aq (by simp)];have:l.filter (λx=>decide (x≠y))=l:=Wb.mpr λx hx=>cI λe=>nd'.1 (e▸hx);rw[this];exact aP _
    ·rw[au (cI c)];have:=ih nd'.2;simp only[uL];omega
  omega
open Classical in
noncomputable def code(n m:Nat)(T:Tab):Nat:=C9 ((am (n+m)).map λa=>decide (tF n T a))
theorem Run.short(R:Run n m S w T p q L):L<2^(n+m):=by
 have inj:∀i j,i<=L->j<=L->code n m (T i)=code n m (T j)->i=j:=by
  have one:∀i j,i<j->j<=L->code n m (T i)≠code n m (T j):=λi j hij hj e=>by
   have l:=JZ (by simp) e;refine R.Lx hij hj λa=>?_;by_cases ha:a<n+m
   ·have:=jQ (λl:List Bool=>l[a]?) l;simp only[dI,Tt ha,Option.map_some,Option.some.injEq,decide_eq_decide]at this;exact this
   ·exact⟨λ⟨c,hc,e⟩=>absurd ((R.good i (by omega)).V0 c hc) (by omega),λ⟨c,hc,e⟩=>absurd ((R.good j hj).V0 c hc) (by omega)⟩
  intro i j hi hj e;rcases Nat.lt_trichotomy i j with h|h|h
  ·exact absurd e (one i j h hj)
  ·exact h
  ·exact absurd e.symm (one j i h hi)
 have nd:((am (L+1)).map λt=>code n m (T t)).Nodup:=by
  refine Tp.mpr (List.nodup_range.imp_of_mem λ{a b} ha hb hab e=>hab (inj a b ?_ ?_ e))
  ·have:=nu.mp ha;omega
  ·have:=nu.mp hb;omega
 have:=few (2^(n+m)) _ nd λx hx=>by
  obtain⟨t,_,rfl⟩:=jP.mp hx;have:=Rg ((am (n+m)).map λa=> @decide (tF n (T t) a) (Classical.propDecidable _));rw[aD,uM]at this;exact this
 rw[aD,uM]at this;omega
end
section
variable{n m:Nat}{S:Nat->Nat->Bool}{w:Nat->Int}{T:Tab}
theorem pQ(h:a<n):nv n S a j=if j=a+1 then 1 else 0:=au h
theorem Aa:nv n S (n+k) j=if j=0 then 1 else if S k (j-1)=true then -1 else 0:=by
 unfold nv;rw[aq (by omega),show n+k-n=k by omega]
theorem Ju{y:Nat->Int}(hj:j<=n):sm n (λc=>y c*nv n S c j)=if j=0 then 0 else y (j-1):=by
 by_cases h:j=0
 ·rw[au h];exact dN n λc hc=>by rw[pQ hc,aq (by omega),Bp]
 ·rw[aq h,eF (j:=j-1) n (by omega) λc hc hn=>by rw[pQ hc,aq (by omega),Bp],pQ (by omega),au (by omega),FM]
theorem Hj(hj:j<=n):nv n S (n+k) j=1*one j-sm n (λc=>(if S k c=true then 1 else 0)*nv n S c j):=by
 rw[Aa,Ju hj];unfold one;by_cases h:j=0
 ·rw[au h,au h,au h];rfl
 ·rw[aq h,aq h,aq h];split<;>rfl
theorem Nf(hj:j<=n):zv w j=0*one j-sm n (λc=> -(w c)*nv n S c j):=by
 rw[Ju hj];unfold zv;by_cases h:j=0
 ·rw[au h,au h];omega
 ·rw[aq h,aq h];omega
noncomputable def start(n m:Nat)(S:Nat->Nat->Bool)(w:Nat->Int):Tab where
 col:=λc=>c
 row:=λr=>n+r
 cell:=λr c=>if r=m then(if c=n then 0 else -(w c))else if c=n then 1 else if S r c=true then 1 else 0
 over:=1
 s:=1
theorem FQ:Good n m S w (start n m S w):=by
 refine⟨Int.one_pos,λr hr j hj=>?_,.inl rfl,?_,λc c' _ _ e=>e,λr r' _ _ e=>by have:n+r=n+r':=e;omega,λc r hc _ e=>by have:c=n+r:=e;omega,λc hc=>by show c<n+m;omega,λr hr=>by show n+r<n+m;omega,λa ha=>?_,λr hr=>?_⟩
 ·show 1*rv n m S w (start n m S w) r j=(start n m S w).cell r n*one j-sm n (λc=>(start n m S w).cell r c*nv n S c j);by_cases h:r<m
  ·rw[gC h];show 1*nv n S (n+r) j=_;rw[I9,Hj hj];have e1:(start n m S w).cell r n=1:=by show(if r=m then _ else if n=n then(1:Int)else _)=1;rw[aq (by omega),au rfl]
   rw[e1,bx n λc hc=>?_];show _=(if r=m then _ else if c=n then(1:Int)else if S r c=true then 1 else 0)*_;rw[aq (show¬r=m by omega),aq (show¬c=n by omega)]
  ·have e:r=m:=by omega
   subst e;rw[jd,I9,Nf (n:=n) (S:=S) hj];have e1:(start n r S w).cell r n=0:=by show(if r=r then(if n=n then(0:Int)else _)else _)=0;rw[au rfl,au rfl]
   rw[e1,bx n λc hc=>?_];show _=(if r=r then(if c=n then(0:Int)else -(w c))else _)*_;rw[au rfl,aq (show¬c=n by omega)]
 ·show(1:Int)=1*sN (n+1) _;rw[Ed (n+1) _ λi hi j hj=>?_]; · rfl
  by_cases h:i=0
  ·subst h;rw[Em];unfold one;by_cases e:j=0
   ·rw[au e,au e.symm]
   ·rw[aq e,aq (oV e)]
  ·obtain⟨c,rfl⟩:∃c,i=c+1:=⟨i-1,by omega⟩;rw[Bf];show nv n S c j=_;rw[pQ (by omega)];by_cases e:j=c+1
   ·rw[au e,au e.symm]
   ·rw[aq e,aq (oV e)]
 ·by_cases h:a<n
  ·exact .inl ⟨a,h,rfl⟩
  ·exact .inr ⟨a-n,by omega,by show n+(a-n)=a;omega⟩
 ·show 0<=(if r=m then _ else if n=n then(1:Int)else _);rw[aq (by omega),au rfl];decide
theorem Good.bounded(G:Good n m S w T)(cov:∀p,p<n->∃k,k<m/\S k p=true)(hq:q<n):∃r,r<m/\0<T.cell r q:=by
 refine E4 λno=>?_;have no':∀r,r<m->T.cell r q<=0:=λr hr=>Int.not_lt.mp λh=>no ⟨r,hr,h⟩;have hq':q+1<=n:=hq;have nn:∀a,a<n+m->0<=Fn n S T (q+1) (nv n S a):=λa ha=>by
  rcases G.all a ha with⟨c,hc,e⟩|⟨r,hr,e⟩
  ·rw[<-e,Bu G.dt hq' hc];split
   ·exact Nq G.pos
   ·exact u5 0
  ·have:=G.dir (dW hr) hq;rw[gC hr,e]at this;rw[this];have:=no' r hr;omega
 have set:∀k,Fn n S T (q+1) (nv n S (n+k))= -sm n (λp=>(if S k p=true then 1 else 0)*Fn n S T (q+1) (nv n S p)):=λk=>by
  rw[Nj λj hj=>Hj hj,kZ hq' _ _ (λc=>if S k c=true then 1 else 0) (λc=>nv n S c),m8 G.dt hq',aq (BJ q)];omega
 have low:∀p,p<n->Fn n S T (q+1) (nv n S p)=0:=λp hp=>by
  obtain⟨k,hk,hs⟩:=cov p hp;have a:=nn (n+k) (by omega);rw[set k]at a;have:=Jv n (f:=λp=>(if S k p=true then 1 else 0)*Fn n S T (q+1) (nv n S p)) (λi hi=>?_) (by omega) p hp
  ·rw[au hs,I9]at this;exact this
  ·have:=nn i (by omega);split<;>omega
 have z:Fn n S T (q+1) (nv n S (T.col q))=0:=by
  have hc:=G.V0 q hq;by_cases h:T.col q<n
  ·exact low _ h
  ·have e:T.col q=n+(T.col q-n):=by omega
   rw[e,set,dN n λp hp=>by rw[low p hp,Bp]];rfl
 rw[Bu G.dt hq' hq,au rfl]at z;have:=G.pos;omega
theorem Qk(a j): -1<=nv n S a j/\nv n S a j<=1:=by
 unfold nv;split
 ·split<;>decide
 ·split
  ·decide
  ·split<;>decide
theorem J7(i j): -1<=tD n S T i j/\tD n S T i j<=1:=by
 unfold tD;split
 ·unfold one;split<;>decide
 ·exact Qk _ _
theorem Ir(G:Good n m S w T)(hB:1<=B)(h:∀j,j<=n-> -B<=v j/\v j<=B): -(AV (n+1)*B)<=Fn n S T c v/\Fn n S T c v<=AV (n+1)*B:=by
 have d:=Ax (n+1) (put (tD n S T) c v) c B hB (λi _ j _ hn=>by rw[jq _ _ hn];exact J7 i j) (λj hj _=>by rw[rq];exact h j (by omega));unfold Fn;rcases G.sg with s|s
 ·rw[s,I9];exact d
 ·rw[s];omega
theorem Good.Ui(G:Good n m S w T):T.over<=AV (n+1):=by
 have d:=Ir G (c:=0) (v:=tD n S T 0) (B:=1) (by decide) λj _=>J7 0 j;rw[RW G.dt (dX n) (dX n),au rfl]at d;omega
theorem Good.Rv(G:Good n m S w T)(hw:∀p,p<n->0<=w p/\w p<=99)(hr:r<=m)(hc:c<=n): -(AV (n+1)*99)<=T.cell r c/\T.cell r c<=AV (n+1)*99:=by
 have hv:∀j,j<=n-> -99<=rv n m S w T r j/\rv n m S w T r j<=99:=λj hj=>by
  unfold rv;split
  ·have:=Qk (n:=n) (S:=S) (T.row r) j;omega
  ·unfold zv;split
   ·decide
   ·have:=hw (j-1) (by omega);omega
 by_cases h:c=n
 ·subst h;have d:=Ir G (c:=0) (B:=99) (by decide) hv;rw[G.base hr]at d;exact d
 ·have d:=Ir G (c:=c+1) (B:=99) (by decide) hv;rw[G.dir hr (by omega)]at d;omega
theorem Rf:∀{k:Nat},k<=11->AV k<=39916800
 |0,_|1,_|2,_|3,_|4,_|5,_|6,_|7,_|8,_|9,_|10,_|11,_=>by decide
noncomputable def Ys(n m:Nat)(T:Tab)(a:Nat):Int:=sm n λc=>if T.col c=a then T.cell m c else 0
noncomputable def Xs(n m:Nat)(T:Tab)(a:Nat):Int:=sm m λr=>if T.row r=a then T.cell r n else 0
theorem Good.aae(G:Good n m S w T)(hc:c<n):Ys n m T (T.col c)=T.cell m c:=by
 unfold Ys;rw[eF (j:=c) n hc λi hi hn=>aq λe=>hn (G.HX i c hi hc e),au rfl]
theorem aad(h:∀c,c<n->T.col c≠a):Ys n m T a=0:=dN n λc hc=>aq (h c hc)
theorem Good.Wi(G:Good n m S w T)(hr:r<m):Xs n m T (T.row r)=T.cell r n:=by
 unfold Xs;rw[eF (j:=r) m hr λi hi hn=>aq λe=>hn (G.Pq i r hi hr e),au rfl]
theorem Wg(h:∀r,r<m->T.row r≠a):Xs n m T a=0:=dN m λr hr=>aq (h r hr)
theorem Good.Nu(G:Good n m S w T)(ha:a<n+m):Fn n S T 0 (nv n S a)=Xs n m T a:=by
 rcases G.all a ha with⟨c,hc,e⟩|⟨r,hr,e⟩
 ·rw[<-e,Bu G.dt (dX n) hc,aq (BJ c),Wg λr hr z=>G.dis c r hc hr z.symm]
 ·rw[<-e,G.Wi hr];have:=G.base (dW hr);rw[gC hr]at this;exact this
theorem Good.Wh(G:Good n m S w T)(a):0<=Xs n m T a:=yg m λr hr=>by
 have:=G.fea r hr;split
 ·exact this
 ·exact u5 0
theorem V6(h:∀c,c<n->0<=T.cell m c)(a):0<=Ys n m T a:=yg n λc hc=>by
 have:=h c hc;split
 ·exact this
 ·exact u5 0
theorem Ca(f:Nat->Int)(a):∀b,sm (a+b) f=sm a f+sm b λk=>f (a+k)
 |0=>by show sm a f=sm a f+0;omega
 |b+1=>by
  show sm (a+b) f+f (a+b)=_;rw[Ca f a b];show _=sm a f+(sm b (λk=>f (a+k))+f (a+b));omega
theorem Good.aas(G:Good n m S w T)(g:Nat->Int):sm n (λc=>T.cell m c*g (T.col c))=sm n (λa=>Ys n m T a*g a)+sm m (λk=>Ys n m T (n+k)*g (n+k)):=by
 rw[<-Ca (λa=>Ys n m T a*g a)];have e:∀a,Ys n m T a*g a=sm n λc=>(if T.col c=a then T.cell m c else 0)*g a:=λa=>by
  unfold Ys;rw[Bo,<-cN];exact bx n λc _=>Bo _ _
 rw[bx (n+m) λa _=>e a,uO (λa c=>(if T.col c=a then T.cell m c else 0)*g a)];refine bx n λc hc=>?_;rw[eF (j:=T.col c) (n+m) (G.V0 c hc) λa _ hn=>by rw[aq (oV hn),EI],au rfl]
theorem Good.total(G:Good n m S w T):sm m (λk=>Ys n m T (n+k))=T.cell m n:=by
 have e:=G.eq m (aP m) 0 (dX n);rw[jd,G.aas (λa=>nv n S a 0),dN n λa ha=>by rw[pQ ha,aq (by omega),Bp]]at e;have z:zv w 0=0:=rfl;have o:one 0=1:=rfl;rw[z,o,bx m λk _=>show Ys n m T (n+k)*nv n S (n+k) 0=Ys n m T (n+k) by rw[Aa,au rfl,FM]]at e;omega
theorem Good.enough(G:Good n m S w T)(hp:p<n):sm m (λk=>if S k p=true then Ys n m T (n+k)else 0)=T.over*w p+Ys n m T p:=by
 have e:=G.eq m (aP m) (p+1) hp;rw[jd,G.aas (λa=>nv n S a (p+1)),eF (j:=p) n hp λa ha hn=>by rw[pQ ha,aq (by omega),Bp],pQ hp,au rfl]at e;have z:zv w (p+1)=w p:=by unfold zv;rw[aq (BJ p)];rfl
 have o:one (p+1)=0:=aq (BJ p);rw[z,o,bx m λk _=>show Ys n m T (n+k)*nv n S (n+k) (p+1)=-1*(if S k p=true then Ys n m T (n+k)else 0) by
  rw[Aa,aq (BJ p),pE];split<;>omega,cN]at e
 omega
theorem Good.light(G:Good n m S w T)(hk:k<m):sm n (λp=>if S k p=true then Xs n m T p else 0)<=T.over:=by
 have h:Fn n S T 0 (nv n S (n+k))=1*Fn n S T 0 one-sm n (λp=>(if S k p=true then 1 else 0)*Fn n S T 0 (nv n S p)):=by
  rw[Nj λj hj=>Hj hj,kZ (dX n) _ _ (λc=>if S k c=true then 1 else 0) (λc=>nv n S c)]
 rw[m8 G.dt (dX n),au rfl,G.Nu (by omega),bx n λp hp=>show(if S k p=true then(1:Int)else 0)*Fn n S T 0 (nv n S p)=if S k p=true then Xs n m T p else 0 by
  rw[G.Nu (by omega)];split<;>omega]at h
 have:=G.Wh (n+k);omega
theorem Good.prices(G:Good n m S w T):sm n (λp=>w p*Xs n m T p)=T.cell m n:=by
 have h:=G.base (aP m);rw[jd,Nj λj hj=>Nf (n:=n) (S:=S) hj,kZ (dX n) _ _ (λc=> -(w c)) (λc=>nv n S c),bx n λp hp=>show -(w p)*Fn n S T 0 (nv n S p)=-1*(w p*Xs n m T p) by rw[G.Nu (by omega)];grind,cN]at h;omega
end
end Sx
namespace PySem
open Sem (wp)
section
variable{prog:υ}{w:ψ}{A:bt}{E:S0}{s:τ}
theorem Ng{z TI TO i1 i2 l1 l2:ag}{k:Nat}{xs ys:Array ρ}{x y a b:ρ}{Q:Option ρ->τ->Prop}(D:ZipApart z TI TO i1 i2 l1 l2)(hz:iq s.heap z TI TO .none)(hTI:eS s.heap TI (.ref i1) (.ref i2))(hTO:eS s.heap TO a b)(h1:s.heap.IsTupleIter i1 l1 k)(h2:s.heap.IsListIter i2 l2 k)(hl1:s.heap.IsTuple l1 xs)(hl2:s.heap.IsList l2 ys)(hx:xs[k]? =some x)(hy:ys[k]? =some y)(hQ:∀h',iq h' z TI TO (cK s.heap.objs.size)->eS h' TO x y->h'.IsTupleIter i1 l1 (k+1)->h'.IsListIter i2 l2 (k+1)->eS h' s.heap.objs.size x y->h'.objs.size=s.heap.objs.size+1->
   (∀c o,c≠z->c≠TO->c≠i1->c≠i2->s.heap.get? c=some o->h'.get? c=some o)->Q (some (.ref s.heap.objs.size)) {s with heap:=h'}):
  ai (ar prog w) A (fc (.ref z)) Q E s:=by
 have hT:s.TypeIs (.ref z) "zip":=⟨_,hz,rfl⟩;unfold fc;refine ao (Jn (Tw (name:=bO "__next__") hT Kb (MP Kb hT F.entry_zip_next ?_ (F.args_zip_next_1 _))));show ai _ _ (nk (.ref z) 2>>=_) _ _ _;refine ao (yW hz rfl (x:=.bool false) rfl ?_);show ai _ _ (nk (.ref z) 3>>=_) _ _ _;refine ao (yW hz rfl (x:=.ref TI) rfl ?_);refine ao (S6 hTI rfl ?_);show ai _ _ (cp (.ref z)>>=_) _ _ _;apply ao;unfold cp;refine ao (yW hz rfl (x:=.none) rfl (aM ?_));simp only[Fv];refine ao (SQ ?_);refine ao (yW hz rfl (x:=.ref TO) rfl ?_);refine ao (S8 hz (by simp) λg1 hz1 r1=>?_);replace hz1:iq g1 z TI TO .ellipsis:=hz1;apply ao;simp only[List.zipIdx_cons,List.zipIdx_nil,MR,MC];refine ao (ao (me ?_));show ai _ _ (bu (.ref i1)>>=_) _ _ _;refine ao (vZ (h1.at λo e=>r1.extBut _ _ D.i1z e) (hl1.at λo e=>r1.extBut _ _ D.l1z e) hx λg2 h12 r2=>aM ?_);have o2:eS g2 TO a b:=r2.extBut _ _ D.TOi1 (r1.extBut _ _ D.TOz hTO);refine ao (S6 o2 rfl ?_);refine ao (wpAny_updateSeq_pair o2 λg3 o3 r3=>?_);replace o3:eS g3 TO x b:=o3;refine ao (Wn (aM ?_));refine ao (ao (me ?_));show ai _ _ (bu (.ref i2)>>=_) _ _ _;refine ao (wpAny_nextOf_list_item (((h2.extBut r1.extBut D.i2z).extBut r2.extBut D.i12.symm).extBut r3.extBut D.TOi2.symm)
  (((hl2.extBut r1.extBut D.l2z).extBut r2.extBut D.l2i1).extBut r3.extBut D.l2TO) hy λg4 h24 r4=>aM ?_)
 have o4:eS g4 TO x b:=r4.extBut _ _ D.TOi2 o3;refine ao (S6 o4 rfl ?_);refine ao (wpAny_updateSeq_pair o4 λg5 o5 r5=>?_);replace o5:eS g5 TO x y:=o5;refine ao (Wn (aM (aM ?_)));refine ao (S6 o5 rfl ?_);refine ao (kM ?_);have hsz:g5.objs.size=s.heap.objs.size:=by rw[r5.1,r4.1,r3.1,r2.1,r1.1]
 have hz5:iq g5 z TI TO .ellipsis:=r5.extBut _ _ D.TOz.symm (r4.extBut _ _ D.i2z.symm (r3.extBut _ _ D.TOz.symm (r2.extBut _ _ D.i1z.symm hz1)));have hk5:∀c o,c≠z->c≠TO->c≠i1->c≠i2->s.heap.get? c=some o->g5.get? c=some o:=λc o c1 c2 c3 c4 e=>
  r5.extBut _ _ c2 (r4.extBut _ _ c4 (r3.extBut _ _ c2 (r2.extBut _ _ c3 (r1.extBut _ _ c1 e))))
 have h15:g5.IsTupleIter i1 l1 (k+1):=h12.at λo e=>r5.extBut _ _ D.TOi1.symm (r4.extBut _ _ D.i12 (r3.extBut _ _ D.TOi1.symm e));have h25:g5.IsListIter i2 l2 (k+1):=h24.extBut r5.extBut D.TOi2.symm;have hzlt:z<g5.objs.size:=dJ hz5;show ai _ _ (fx (.ref z) (.ref g5.objs.size)>>=_) _ _ _;apply ao;unfold fx;have hz6:iq (g5.push {cls:=.type "tuple",data:=.seq #[x,y]}) z TI TO .ellipsis:=cR _ hz5;refine ao (S8 hz6 (by simp) λg7 hz7 r7=>?_);replace hz7:iq g7 z TI TO (cK g5.objs.size):=hz7;refine S8 hz7 (by simp) λg8 hz8 r8=>?_;replace hz8:iq g8 z TI TO (cK g5.objs.size):=hz8;have up:∀c o,c≠z->g5.get? c=some o->g8.get? c=some o:=λc o c1 e=>r8.extBut _ _ c1 (r7.extBut _ _ c1 (cR _ e));have hT8:eS g8 g5.objs.size x y:=r8.extBut _ _ (xg hzlt) (r7.extBut _ _ (xg hzlt) (iQ _ rfl));have hs8:g8.objs.size=g5.objs.size+1:=by rw[r8.1,r7.1,wX]
 rw[hsz]at hz8 hT8 hs8;refine aM ⟨_,rfl,aM ?_⟩;show Q (some (.ref g5.objs.size)) _;rw[hsz];exact hQ g8 hz8 (up _ _ D.TOz o5) (h15.at λo e=>up _ o D.i1z e) (h25.at λo e=>up _ o D.i2z e) hT8 hs8 λc o c1 c2 c3 c4 e=>up c o c1 (hk5 c o c1 c2 c3 c4 e)
theorem Tg{Q:Option ρ->τ->Prop}(hh:A.handled=none)(D:ZipApart z TI TO i1 i2 l1 l2)(hz:iq s.heap z TI TO .none)(hTI:eS s.heap TI (.ref i1) (.ref i2))(hTO:eS s.heap TO a b)(h1:s.heap.IsTupleIter i1 l1 k)(hl1:s.heap.IsTuple l1 xs)(hx:xs[k]? =none)(hQ:∀h',(∀c o,c≠z->c≠TO->c≠i1->c≠i2->s.heap.get? c=some o->h'.get? c=some o)->Q none {s with heap:=h'}):ai (ar prog w) A (fc (.ref z)) Q E s:=by
 have hT:s.TypeIs (.ref z) "zip":=⟨_,hz,rfl⟩;unfold fc;refine ao (Jn (Tw (name:=bO "__next__") hT Kb (MP Kb hT F.entry_zip_next ?_ (F.args_zip_next_1 _))));show ai _ _ (nk (.ref z) 2>>=_) _ _ _;refine ao (yW hz rfl (x:=.bool false) rfl ?_);show ai _ _ (nk (.ref z) 3>>=_) _ _ _;refine ao (yW hz rfl (x:=.ref TI) rfl ?_);refine ao (S6 hTI rfl ?_);show ai _ _ (cp (.ref z)>>=_) _ _ _;apply ao;unfold cp;refine ao (yW hz rfl (x:=.none) rfl (aM ?_));simp only[Fv];refine ao (SQ ?_);refine ao (yW hz rfl (x:=.ref TO) rfl ?_);refine ao (S8 hz (by simp) λg1 hz1 r1=>?_);replace hz1:iq g1 z TI TO .ellipsis:=hz1;apply ao;simp only[List.zipIdx_cons,List.zipIdx_nil,MR,MC];refine ao (ao (me ?_));show ai _ _ (bu (.ref i1)>>=_) _ _ _;refine ao (mK hh (h1.at λo e=>r1.extBut _ _ D.i1z e) (hl1.at λo e=>r1.extBut _ _ D.l1z e) hx λg2 e r2 he=>?_);obtain⟨oe,hoe,hce⟩:=he;have hz2:iq g2 z TI TO .ellipsis:=r2 _ _ D.i1z.symm hz1;have hez:e≠z:=λq=>by subst q;rw[hz2]at hoe;cases hoe;simp at hce
 refine S8 hz2 (by simp) λg3 _ r3=>?_;refine ao (FY (T:="StopIteration") (b:=true) ⟨oe,r3.extBut _ _ hez hoe,hce⟩ isSubtype_stop ?_);exact aM (hQ _ λc o c1 _ c3 _ q=>r3.extBut _ _ c1 (r2 _ _ c3 (r1.extBut _ _ c1 q)))
end
noncomputable def Nh(h:bn)(l1:ag):Heap:=h.push {cls:=.type "tuple_iterator",data:=.fields #[.ref l1,.int 0 0]}
noncomputable def Kh(h:bn)(l1 l2:ag):Heap:=(Nh h l1).push {cls:=.type "list_iterator",data:=.fields #[.ref l2,.int 0 0]}
noncomputable def Kg(h:bn)(l1 l2:ag):Heap:=(Kh h l1 l2).push {cls:=.type "tuple",data:=.seq #[.ref h.objs.size,.ref (Nh h l1).objs.size]}
noncomputable def Kf(h:bn)(l1 l2:ag):Heap:=(Kg h l1 l2).push {cls:=.type "tuple",data:=.seq #[.none,.none]}
noncomputable def yM(h:bn)(l1 l2:ag):Heap:=(Kf h l1 l2).push {cls:=.type "zip",data:=.fields #[.none,.bool false,.bool false,.ref (Kh h l1 l2).objs.size,.ref (Kg h l1 l2).objs.size]}
theorem xM(l1 l2)(xs ys):
  kd (Builtin.«zip.__new__» ⟨[.type "zip",.ref l1,.ref l2],[]⟩) (λ_ R s=>s.heap.IsTuple l1 xs/\s.heap.IsList l2 ys/\
   R (.ok (.ret (.ref (Kf s.heap l1 l2).objs.size))) {s with heap:=yM s.heap l1 l2}):=
 .of_wp λprog w A R s h=>by
  obtain⟨hp,g,d,tk,os⟩:=s;obtain⟨hl1,hl2,h⟩:=h;have hsub:=sub_zip;have hL1:Heap.IsTuple (kB ⟨hp,g,d,tk,os⟩) l1 xs:=hl1;have hL2:Heap.IsList (kB ⟨hp.push {cls:=.type "tuple_iterator",data:=.fields #[.ref l1,.int 0 0]},g,d,tk,os⟩) l2 ys:=Heap.IsList.push hl2 _;unfold yM Kf Kg Kh Nh at h
  wp_walk using E2 hL1,Xz hL2
  exact⟨_,rfl,h⟩
section
variable{prog:υ}{w:ψ}{A:bt}{E:S0}{s:τ}
theorem Rw{l1 l2:ag}{xs ys:Array ρ}{Q:S0}(hl1:s.heap.IsTuple l1 xs)(hl2:s.heap.IsList l2 ys)(h:∀h',iq h' (s.heap.objs.size+4) (s.heap.objs.size+2) (s.heap.objs.size+3) .none->eS h' (s.heap.objs.size+2) (.ref s.heap.objs.size) (.ref (s.heap.objs.size+1))->
   eS h' (s.heap.objs.size+3) .none .none->h'.IsTupleIter s.heap.objs.size l1 0->h'.IsListIter (s.heap.objs.size+1) l2 0->h'.objs.size=s.heap.objs.size+5->
   (∀c o,s.heap.get? c=some o->h'.get? c=some o)->Q (.ref (s.heap.objs.size+4)) {s with heap:=h'}):
  ai (ar prog w) A (call (.type "zip") [.ref l1,.ref l2]) Q E s:=by
 refine oP F.called_zip (by decide) (F.typeCall_zip_2 _ _) (F.newCall_zip_2 _ _) (λobj=>F.args_object_init_3 obj _ _) F.entry_zip_new (xM l1 l2 xs ys) ⟨hl1,hl2,?_⟩;have z1:(Nh s.heap l1).objs.size=s.heap.objs.size+1:=wX ..;have z2:(Kh s.heap l1 l2).objs.size=s.heap.objs.size+2:=by rw[Kh,wX,z1]
 have z3:(Kg s.heap l1 l2).objs.size=s.heap.objs.size+3:=by rw[Kg,wX,z2]
 have z4:(Kf s.heap l1 l2).objs.size=s.heap.objs.size+4:=by rw[Kf,wX,z3]
 have z5:(yM s.heap l1 l2).objs.size=s.heap.objs.size+5:=by rw[yM,wX,z4]
 have g5:(yM s.heap l1 l2).get? (Kf s.heap l1 l2).objs.size=some _:=iQ _ rfl;have g4:(yM s.heap l1 l2).get? (Kg s.heap l1 l2).objs.size=some _:=cR _ (iQ _ rfl);have g3:(yM s.heap l1 l2).get? (Kh s.heap l1 l2).objs.size=some _:=cR _ (cR _ (iQ _ rfl));have g2:(yM s.heap l1 l2).get? (Nh s.heap l1).objs.size=some _:=cR _ (cR _ (cR _ (iQ _ rfl)));have g1:(yM s.heap l1 l2).get? s.heap.objs.size=some _:=cR _ (cR _ (cR _ (cR _ (iQ _ rfl))));show _/\_;rw[z2,z3,z4]at g5;rw[z1,z2]at g3;rw[z3]at g4;rw[z1]at g2;rw[z4];exact⟨⟨_,g5,rfl⟩,h _ g5 g3 g4 ⟨_,g1,rfl,rfl⟩ ⟨_,g2,rfl,rfl⟩ z5 λc o x=>
  cR _ (cR _ (cR _ (cR _ (cR _ x))))⟩
end
end PySem
namespace L2
open PySem PySem.Spec PyProof.Rows
noncomputable def ON(K:af)(a b:ag)(xs ys:List V):It:=
 ⟨λi H=>(SqT K H a xs/\ja K H b ys)/\i<xs.length,λi H x H'=>∃t v u,x=.ref t/\H t=none/\H'=upd H t (.tup [v,u])/\xs[i]? =some v/\ys[i]? =some u,λi H=>(SqT K H a xs/\ja K H b ys)/\i=xs.length⟩
theorem NQ{P:υ}{w:ψ}{K:af}{es:List bp}{k:Nat}{pos:eJ}(a b z TI TO i1 i2:ag)(xs ys:List V)(D:ZipApart z TI TO i1 i2 a b)(ac:xs.length=ys.length):
  xw P w K (.Tuple es k pos) (ON K a b xs ys) [z,TI,TO,i1,i2] z (λi h=>iq h z TI TO .none/\eS h TI (.ref i1) (.ref i2)/\(∃p q,eS h TO p q)/\h.IsTupleIter i1 a i/\h.IsListIter i2 b i) where
 mem:=by simp
 obj:=λi h st c hc=>by
  obtain⟨s1,s2,⟨p,q,s3⟩,⟨o4,e4,c4,d4⟩,⟨o5,e5,c5,d5⟩⟩:=st;simp only[cZ,V9,Wj]at hc;rcases hc with rfl|rfl|rfl|rfl|rfl
  ·exact⟨_,s1,λv y=>by cases y⟩
  ·exact⟨_,s2,λv y=>by cases y⟩
  ·exact⟨_,s3,λv y=>by cases y⟩
  ·exact⟨o4,e4,λv y=>by rw[d4]at y;cases y⟩
  ·exact⟨o5,e5,λv y=>by rw[d5]at y;cases y⟩
 keep:=λi h h' st k=>by
  obtain⟨s1,s2,⟨p,q,s3⟩,s4,s5⟩:=st;exact⟨k z (by simp) _ s1,k TI (by simp) _ s2,⟨p,q,k TO (by simp) _ s3⟩,s4.at λo e=>k i1 (by simp) o e,s5.at λo e=>k i2 (by simp) o e⟩
 item:=by
  intro X hP hw hK hc i aa s σ H E I hf st hg;subst hP hw hK;obtain⟨⟨hq1,hq2⟩,hi⟩:=hg;obtain⟨QD,rv1,p1,hz1⟩:=I.tuple hq1;obtain⟨its2,rv2,p2,hz2⟩:=I.list hq2;have hx:xs[i]? =some xs[i]:=cU hi;have hi2:i<ys.length:=by omega
  have hy:ys[i]? =some ys[i]:=cU hi2;obtain⟨u1,hu1,ru1⟩:=rv1.get hx;obtain⟨u2,hu2,ru2⟩:=rv2.get hy;obtain⟨s1,s2,⟨p,q,s3⟩,s4,s5⟩:=st;have pt:s.heap.IsTuple a QD.toArray:=p1;refine Ng D s1 s2 s3 s4 s5 pt p2.isList (x:=u1) (y:=u2) (by simpa using hu1) (by simpa using hu2) λh1 ho hTO hit1 hit2 hT hsz hk=>⟨_,rfl,?_⟩;refine wpAny_letOwnedTupleGo_zip ho λh2 abC hs2=>?_;have mO:bc z h1 h2:=hs2;have nT:∀c o,s.heap.get? c=some o->s.heap.objs.size≠c:=λc o e y=>absurd (dJ e) (by rw[<-y];exact u6 _);obtain⟨o4,e4,_⟩:=id s4;obtain⟨o5,e5,_⟩:=id s5;have keep:∀c o,c∉[z,TI,TO,i1,i2]->s.heap.get? c=some o->h2.get? c=some o:=λc o hc q=>(mO.2 c λy=>hc (by simp[y])).trans (hk c o (λy=>hc (by simp[y])) (λy=>hc (by simp[y])) (λy=>hc (by simp[y])) (λy=>hc (by simp[y])) q);have hT2:h2.get? s.heap.objs.size=some {cls:=.type "tuple",data:=.seq #[u1,u2]}:=(mO.2 _ (nT _ _ s1)).trans hT;have I2:=I.nA (h':=h2) (t':=s.toks) (o:=.tup [xs[i],ys[i]]) keep hf (aP _) ⟨rV,[u1,u2],.cons ru1 (.cons ru2 .nil),_,hT2,rfl,_,rfl⟩;have k2:eS h2 TI (.ref i1) (.ref i2):=(mO.2 TI D.TIz).trans (hk TI _ D.TIz D.TITO D.TIi1 D.TIi2 s2);refine⟨.ref s.heap.objs.size,_,I2,rfl,⟨_,_,_,rfl,I.hok.fresh (aP _),rfl,hx,hy⟩,⟨abC,k2,⟨_,_,(mO.2 TO D.TOz).trans hTO⟩,hit1.at λo q=>(mO.2 i1 D.i1z).trans q,hit2.at λo q=>(mO.2 i2 D.i2z).trans q⟩,λc hc=>?_⟩;rw[cF (λy=>?_)]
  ·exact(hf c hc).1
  ·simp only[cZ,V9,Wj]at hc;rcases hc with h|h|h|h|h
   ·exact nT _ _ s1 (y.symm.trans h)
   ·exact nT _ _ s2 (y.symm.trans h)
   ·exact nT _ _ s3 (y.symm.trans h)
   ·exact nT _ _ e4 (y.symm.trans h)
   ·exact nT _ _ e5 (y.symm.trans h)
 done:=by
  intro X hP hw hK hc i aa s σ H E I hf st hg;subst hP hw hK;obtain⟨⟨hq1,hq2⟩,hi⟩:=hg;obtain⟨QD,rv1,p1,hz1⟩:=I.tuple hq1;have hl:=rv1.length;obtain⟨s1,s2,⟨p,q,s3⟩,s4,s5⟩:=st;have pt:s.heap.IsTuple a QD.toArray:=p1;exact Tg (I.ok.hd hc) D s1 s2 s3 s4 pt (by simp;omega) λh' eb=>⟨rfl,I.turns (t':=s.toks) (fp:=[z,TI,TO,i1,i2]) (λc o hc q=>eb c o (λy=>hc (by simp[y])) (λy=>hc (by simp[y])) (λy=>hc (by simp[y])) (λy=>hc (by simp[y])) q) hf⟩
 self:=λ_ _ _ _ _ st h=>wpAny_pyIter_zip st.1 h
section
variable{X:Cx}{es:List bp}{k:Nat}{Cw:eJ}
noncomputable def RU(K:af)(ta:TA):TI:=λσ H R=>ta σ H λvs H1=>∃(a b:ag) (xs ys:List V),vs=[.ref a,.ref b]/\SqT K H1 a xs/\ja K H1 b ys/\xs.length=ys.length/\(xs.length<=sizeLine->R (ON K a b xs ys) H1)
theorem Yo{a b:bp}{ta:TA}{p pos:eJ}(hg:Gl X "zip")(hm:X.mg "zip"=none)(ha:PA X [a,b] ta)(hs:ax [a,b] X.env=[(false,bQ a X.env),(false,bQ b X.env)]:=by rfl)(hs3:ax [b] X.env=[(false,bQ b X.env)]:=by rfl):
  PI X (.Tuple es k Cw) (.Call (.Name "zip" p) [a,b] [] pos) (RU X.K ta):=by
 intro aa s σ H R I h;refine kE (Bv I hg hm (show br "zip"=some (.type "zip")from by decide+kernel) (KD (pw (ha pos aa s σ H _ I h) λus s1 ⟨vs,H1,I1,r1,q1⟩=>?_) (by rw[hs,hs3]) (by rw[hs3];rfl)));obtain⟨l1,l2,xs,ys,e,hq1,hq2,ac,q⟩:=q1;subst e;cases r1 with
 |cons r rr=>
  cases rr with
  |cons r' rr'=>
  cases rr';cases r;cases r';obtain⟨QD,rv1,p1,hz1⟩:=I1.tuple hq1;obtain⟨its2,rv2,p2,hz2⟩:=I1.list hq2;have pt:s1.heap.IsTuple l1 QD.toArray:=p1;have a1:l1<s1.heap.objs.size:=by obtain⟨_,e,_⟩:=id pt;exact dJ e
  have a2:l2<s1.heap.objs.size:=by obtain⟨_,e,_⟩:=id p2.isList;exact dJ e
  refine Rw pt p2.isList λh' hz hTI hTO hi1 hi2 hsz hk=>?_;refine wpAny_pyIter_zip hz ?_;have I2:Inv X aa σ H1 {s1 with heap:=h'}:=I1.kept (t':=s1.toks) hk;refine⟨s1.heap.objs.size+4,[s1.heap.objs.size+4,s1.heap.objs.size+2,s1.heap.objs.size+3,s1.heap.objs.size,s1.heap.objs.size+1],_,_,H1,rfl,I2,NQ l1 l2 _ _ _ _ _ xs ys (zipApart_new a1 a2) ac,⟨hz,hTI,⟨_,_,hTO⟩,hi1,hi2⟩,λc hc=>?_,q hz1⟩;have hle:s1.heap.objs.size<=c:=by
   simp only[cZ,V9,Wj]at hc;rcases hc with h|h|h|h|h
   ·rw[h];exact Xk _ _
   ·rw[h];exact Xk _ _
   ·rw[h];exact Xk _ _
   ·rw[h];exact aP _
   ·rw[h];exact Xk _ _
  exact I1.fpOk hle (I1.hok.fresh hle)
end
section
variable{ini:St}{H:Hp}{g:TG}{tc:TT}{te:TE}{Fin:List V->Hp->Prop}{K:af}{a b:ag}{xs ys:List V}
theorem Ru(Pv:Nat->List V->St->Hp->Prop)(h0:Pv 0 [] ini H)(hl:∀(i:Nat) acc σ H,i<=xs.length->Pv i acc σ H->SqT K H a xs/\ja K H b ys)(ac:xs.length=ys.length)(hz:∀(i:Nat) acc σ H,i<=xs.length->Pv i acc σ H->acc.length<=i)(hx:xs.length<=sizeLine)(hs:∀(i:Nat) v u t acc σ H,xs[i]? =some v->ys[i]? =some u->Pv i acc σ H->H t=none->g (.ref t) σ (upd H t (.tup [v,u])) λσ2 H2=>tc σ2 H2 λb H3=>if b=true then te σ2 H3 λv H4=>Pv (i+1) (acc++[v]) σ2 H4 else Pv (i+1) acc σ2 H3)(hd:∀acc σ H,Pv xs.length acc σ H->Fin acc H):wW (ON K a b xs ys) ini H g tc te Fin:=by
 refine⟨λi m acc σ H=>m=xs.length-i/\i<=xs.length/\Pv i acc σ H,⟨xs.length,by simp,dX _,h0⟩,?_⟩;rintro i m acc σ H ⟨rfl,hi,p⟩;have q:=hl i acc σ H hi p;have z:=hz i acc σ H hi p;by_cases hlt:i<xs.length
 ·refine .inr ⟨⟨q,hlt⟩,by omega,λacc σ H=>Pv (i+1) acc σ H,λacc' σ' H' r=>⟨_,by omega,rfl,hlt,r⟩,λx H' y=>?_⟩;obtain⟨t,v,u,rfl,ht,rfl,hv,hu⟩:=y;exact hs i v u t acc σ H hv hu p ht
 ·have e:i=xs.length:=by omega
  subst e;exact .inl ⟨⟨q,rfl⟩,by omega,hd acc σ H p⟩
end
end L2
namespace Hs
open PySem L2 lQ
noncomputable def qA(i:Nat):Stmt:=PySem.Challenge.pw_hueshare_k34_arguments_by_their_names.main.body.getD i (.Pass ⟨0,0,0,0⟩)
noncomputable abbrev Np:Stmt:=qA 9
noncomputable abbrev pD:Stmt:=qA 10
noncomputable abbrev j8:Stmt:=qA 11
noncomputable abbrev Xf:Stmt:=qA 12
noncomputable abbrev fV:Stmt:=qA 13
noncomputable abbrev pF:Stmt:=qA 14
noncomputable abbrev vR:Stmt:=qA 15
noncomputable abbrev yQ:Stmt:=qA 16
noncomputable abbrev pC:Stmt:=qA 17
noncomputable abbrev ig:Stmt:=qA 18
noncomputable abbrev j6:Stmt:=qA 19
noncomputable abbrev qG:Stmt:=qA 20
noncomputable abbrev iz:Stmt:=qA 21
noncomputable abbrev V5:Stmt:=qA 22
noncomputable abbrev gP:Stmt:=qA 23
noncomputable abbrev gA:Stmt:=qA 25
noncomputable abbrev gk:Stmt:=qA 26
noncomputable abbrev rR:Stmt:=qA 27
noncomputable abbrev mH:Stmt:=qA 28
noncomputable abbrev gH:Stmt:=qA 29
noncomputable abbrev IG:Stmt:=qA 32
noncomputable abbrev fU:Stmt:=qA 33
noncomputable abbrev Gs:Stmt:=qA 34
noncomputable abbrev zN:Stmt:=qA 35
noncomputable abbrev Ti:Stmt:=qA 36
noncomputable abbrev Fc:Stmt:=qA 37
noncomputable abbrev gZ:Stmt:=qA 38
noncomputable abbrev iC:Stmt:=rn (qA 41) 0
noncomputable abbrev Mb:Stmt:=rn (qA 41) 1
noncomputable abbrev LZ:Stmt:=rn (qA 41) 2
noncomputable abbrev LV:Stmt:=rn (qA 41) 3
noncomputable abbrev fH:Stmt:=rn (qA 41) 4
noncomputable abbrev iB:Stmt:=rn (qA 41) 5
noncomputable abbrev gB:Stmt:=rn (qA 41) 6
noncomputable abbrev Fm:Stmt:=rn (qA 41) 7
noncomputable abbrev LW:Stmt:=rn (qA 41) 8
noncomputable abbrev LX:Stmt:=rn (qA 41) 9
noncomputable abbrev EF:Stmt:=qA 42
noncomputable abbrev lZ:Stmt:=qA 43
noncomputable abbrev j5:Stmt:=qA 44
noncomputable abbrev iu:Stmt:=qA 45
noncomputable abbrev fW:Stmt:=qA 46
noncomputable abbrev Gu:Stmt:=qA 47
noncomputable abbrev jc:Stmt:=qA 48
noncomputable abbrev mj:Stmt:=qA 49
noncomputable abbrev j7:Stmt:=qA 50
noncomputable abbrev fG:Stmt:=qA 52
noncomputable abbrev fM:Stmt:=qA 53
noncomputable abbrev ID:Stmt:=qA 54
noncomputable abbrev LS:Stmt:=qA 55
noncomputable abbrev Tj:Stmt:=qA 56
noncomputable abbrev IF:Stmt:=qA 57
noncomputable abbrev qH:Stmt:=qA 58
noncomputable abbrev pJ:Stmt:=qA 59
noncomputable abbrev gq:Stmt:=qA 60
noncomputable abbrev j9:Stmt:=qA 61
noncomputable abbrev gn:Stmt:=qA 63
noncomputable abbrev vO:Stmt:=qA 64
noncomputable abbrev iy:Stmt:=qA 65
noncomputable abbrev iw:Stmt:=qA 68
noncomputable abbrev vU:Stmt:=qA 69
noncomputable abbrev LP:Stmt:=qA 70
noncomputable abbrev pH:Stmt:=qA 71
noncomputable abbrev jo:Stmt:=qA 72
noncomputable abbrev rT:Stmt:=qA 73
noncomputable abbrev vP:Stmt:=qA 74
noncomputable abbrev IE:Stmt:=qA 76
noncomputable abbrev iZ:Stmt:=qA 77
noncomputable abbrev vQ:Stmt:=qA 78
noncomputable abbrev mD:Stmt:=qA 79
noncomputable abbrev rQ:Stmt:=qA 80
noncomputable abbrev mq:Stmt:=qA 82
noncomputable abbrev LU:Stmt:=qA 83
noncomputable abbrev LY:Stmt:=qA 84
noncomputable abbrev Mc:Stmt:=qA 85
noncomputable abbrev tY:Stmt:=qA 86
end Hs
namespace Hs
open PySem L2
theorem eX{R:TS->Prop}(h:let Y:=X;∃t,xx Y b t/\R t):∃t,xx X b t/\R t:=h
theorem JV(h:let c2:=t2;kg t1 c2 D σ H):(kg t1 t2) D σ H:=h
theorem Dw(h:let c3:=t3;let c2:=kg t2 c3;kg t1 c2 D σ H):(kg t1 (kg t2 t3)) D σ H:=h
theorem QJ(h:let c4:=t4;let c3:=kg t3 c4;let c2:=kg t2 c3;kg t1 c2 D σ H):(kg t1 (kg t2 (kg t3 t4))) D σ H:=h
theorem Sn(h:let c5:=t5;let c4:=kg t4 c5;let c3:=kg t3 c4;let c2:=kg t2 c3;kg t1 c2 D σ H):(kg t1 (kg t2 (kg t3 (kg t4 t5)))) D σ H:=h
theorem Su(h:let c6:=t6;let c5:=kg t5 c6;let c4:=kg t4 c5;let c3:=kg t3 c4;let c2:=kg t2 c3;kg t1 c2 D σ H):(kg t1 (kg t2 (kg t3 (kg t4 (kg t5 t6))))) D σ H:=h
theorem WY(h:let c7:=t7;let c6:=kg t6 c7;let c5:=kg t5 c6;let c4:=kg t4 c5;let c3:=kg t3 c4;let c2:=kg t2 c3;kg t1 c2 D σ H):(kg t1 (kg t2 (kg t3 (kg t4 (kg t5 (kg t6 t7)))))) D σ H:=h
theorem Sz(h:let c8:=t8;let c7:=kg t7 c8;let c6:=kg t6 c7;let c5:=kg t5 c6;let c4:=kg t4 c5;let c3:=kg t3 c4;let c2:=kg t2 c3;kg t1 c2 D σ H):(kg t1 (kg t2 (kg t3 (kg t4 (kg t5 (kg t6 (kg t7 t8))))))) D σ H:=h
theorem SA(h:let c9:=t9;let c8:=kg t8 c9;let c7:=kg t7 c8;let c6:=kg t6 c7;let c5:=kg t5 c6;let c4:=kg t4 c5;let c3:=kg t3 c4;let c2:=kg t2 c3;kg t1 c2 D σ H):(kg t1 (kg t2 (kg t3 (kg t4 (kg t5 (kg t6 (kg t7 (kg t8 t9)))))))) D σ H:=h
theorem Zk(h:let c10:=t10;let c9:=kg t9 c10;let c8:=kg t8 c9;let c7:=kg t7 c8;let c6:=kg t6 c7;let c5:=kg t5 c6;let c4:=kg t4 c5;let c3:=kg t3 c4;let c2:=kg t2 c3;kg t1 c2 D σ H):(kg t1 (kg t2 (kg t3 (kg t4 (kg t5 (kg t6 (kg t7 (kg t8 (kg t9 t10))))))))) D σ H:=h
end Hs
namespace L2
open PySem PySem.Spec PyProof.Rows
section
variable{X:Cx}
noncomputable def XQ(sp:Sp)(E:XK)(tk:TA):TE:=λσ H Q=>tk σ H λzs H1=>sp zs.reverse H1 Q E
theorem yP{CX:B7}{k:Nat}{f:ag}{fd:χ}{ps:List be}{sp:Sp}{E:XK}{x:be}{p pos:eJ}{kws:List on}{tk:TA}(F:gx X.prog X.w X.K X.mg X.base CX k f fd ps sp)(hr:qo k X.A)(hg:Gl X x)(hm:X.mg x=some (.ref f))(hk:dL X.K (.ref f)=true)(hb:∀ws:List ρ,ws.length=ps.length->fi fd ⟨[],ps.reverse.zip ws⟩=pure (ps.zip ws.reverse))(hx:sB CX X E)(hkw:PK X kws tk)(hall:(gu pos (eB kws X.env)).all (·.1.isSome)=true:=by rfl)(hks:(gu pos (eB kws X.env)).filterMap (·.1)=ps.reverse:=by rfl)(hdb:(x==("__debug__":be))=false:=by decide)(hpl:((dC pos (ax [] X.env)).any (·.1)||(gu pos (eB kws X.env)).any (·.1.isNone))=false:=by rfl):
  PE X (.Call (.Name x p) [] kws pos) (XQ sp E tk):=by
 intro aa s σ H Q I h;refine S9 (vj I hg hm ?_ hdb);refine W.callWith_KW0 (h₀:=X.base) I.ok.mod.kin hk hall (pw (hkw pos aa s σ H _ I h) λws s2 ⟨zs,H2,I2,rz,q2⟩=>⟨I2.kIn,?_⟩) hpl;rw[hks];have r2:=rz.reverse;have hl:ws.length=ps.length:=by rw[<-List.length_reverse (as:=ws),<-r2.length];exact F.len _ _ _ _ q2
 refine EV (SX (F.run X.A X.stack s2 H2 ⟨[],ps.reverse.zip ws⟩ ws.reverse zs.reverse Q E hr I2.env0 (.of_eq (hb ws hl)) r2 q2) λr s' hq=>?_);cases r with
 |error e=>exact hx aa σ H2 s2 e s' I2 hq
 |ok fl=>
  cases fl with
  |ret u=>exact I2.after hq
  |next=>exact bS hq
  |brk=>exact bS hq
  |cont=>exact bS hq
end
section
variable{K:af}{mg:D0}{x:be}{st:fz}{ps:List be}{f:ag}{fd:χ}
theorem tR.kb(D:tR K mg x st ps f fd)(h:∀(kV doc pm:ρ) (an:Option ag) (cdv ct:ρ) (ws:List ρ),ws.length=ps.length->fi (eW x x (qB st) (qf st) (kq st) .none kV doc pm an cdv ct) ⟨[],ps.reverse.zip ws⟩=pure (ps.zip ws.reverse)):
  ∀ws:List ρ,ws.length=ps.length->fi fd ⟨[],ps.reverse.zip ws⟩=pure (ps.zip ws.reverse):=by
 obtain⟨oc,od,kV,doc,pm,an,cdv,ct,osl,rfl,lk,hcd⟩:=D.F.ex;exact h kV doc pm an cdv ct
theorem GY{p1:be}{P:List ρ->Prop}(h:∀a,P [a])(us)(hl:us.length=[p1].length):P us:=by
 match us,hl with
 |[a],_=>exact h a
theorem WD{p1 p2:be}{P:List ρ->Prop}(h:∀a b,P [a,b])(us)(hl:us.length=[p1,p2].length):P us:=by
 match us,hl with
 |[a,b],_=>exact h a b
theorem Of{p1 p2 p3:be}{P:List ρ->Prop}(h:∀a b c,P [a,b,c])(us)(hl:us.length=[p1,p2,p3].length):P us:=by
 match us,hl with
 |[a,b,c],_=>exact h a b c
end
end L2
namespace Sx
noncomputable def hb:Nat->Int
 |0=>1
 |1=>1
 |2=>1
 |3=>2
 |k+4=>(k+4:Int)*hb (k+3)
noncomputable def bi(b:Bool):Int:=if b=true then 1 else 0
theorem d3:∀a b c d e f g h i:Bool, -2<=bi a*(bi e*bi i-bi h*bi f)-bi d*(bi b*bi i-bi h*bi c)+bi g*(bi b*bi f-bi e*bi c)/\bi a*(bi e*bi i-bi h*bi f)-bi d*(bi b*bi i-bi h*bi c)+bi g*(bi b*bi f-bi e*bi c)<=2:=by decide+kernel
theorem qY(h:x=0\/x=s):∃b,x=s*bi b:=by
 rcases h with h|h
 ·exact⟨false,by rw[h];show 0=s*0;omega⟩
 ·exact⟨true,by rw[h];show s=s*1;omega⟩
noncomputable def Im(k:Nat)(M:Fj):Prop:=∀i,i<k->∃s:Int,(s=1\/s=-1)/\∀j,j<k->M i j=0\/M i j=s
theorem Im.oJ{k:Nat}{M:Fj}(h:Im (k+1) M){i:Nat}(hi:i<k+1):Im k (oJ M i):=λr hr=>by
 obtain⟨s,hs,z⟩:=h (jm i r) (zK hi hr);exact⟨s,hs,λj hj=>z (j+1) (by omega)⟩
theorem Im.one(h:Im k M)(hi:i<k)(hj:j<k): -1<=M i j/\M i j<=1:=by
 obtain⟨s,hs,z⟩:=h i hi;rcases z j hj with e|e<;>rcases hs with d|d<;>omega
theorem X5(i)(h: -y<=x/\x<=y): -y<=sg i*x/\sg i*x<=y:=by
 rcases Ow i with s|s
 ·rw[s,I9];exact h
 ·rw[s];omega
theorem J6:∀k {M:Fj},Im k M-> -hb k<=sN k M/\sN k M<=hb k
 |0,_,_=>by show -1<=(1:Int)/\(1:Int)<=1;decide
 |1,M,h=>by
  have a:=h.one (i:=0) (j:=0) (by decide) (by decide);have e:sN 1 M=M 0 0:=by
   show(0+sg 0*M 0 0*1)=_;rw[show sg 0=1 from rfl];omega
  rw[e];exact a
 |2,M,h=>by
  have e:sN 2 M=M 0 0*M 1 1-M 1 0*M 0 1:=by
   show(0+sg 0*M 0 0*(0+sg 0*M (jm 0 0) 1*1)+sg 1*M 1 0*(0+sg 0*M (jm 1 0) 1*1))=_;rw[show sg 0=1 from rfl,show sg 1=-1 from rfl,show jm 0 0=1 from rfl,show jm 1 0=0 from rfl]
   grind
  rw[e];show -1<=_/\_<=(1:Int);obtain⟨s,hs,z⟩:=h 0 (by decide);obtain⟨t,ht,y⟩:=h 1 (by decide);rcases z 0 (by decide)with a|a<;>rcases z 1 (by decide)with b|b<;>rcases y 0 (by decide)with c|c<;>rcases y 1 (by decide)with d|d<;>rcases hs with e|e<;>rcases ht with f|f<;>rw[a,b,c,d]<;>(try rw[e])<;>(try rw[f])<;>decide
 |3,M,h=>by
  have e:sN 3 M=M 0 0*(M 1 1*M 2 2-M 2 1*M 1 2)-M 1 0*(M 0 1*M 2 2-M 2 1*M 0 2)+M 2 0*(M 0 1*M 1 2-M 1 1*M 0 2):=by
   show(0+sg 0*M 0 0*(0+sg 0*M (jm 0 0) 1*(0+sg 0*M (jm 0 (jm 0 0)) 2*1)+sg 1*M (jm 0 1) 1*(0+sg 0*M (jm 0 (jm 1 0)) 2*1))+sg 1*M 1 0*(0+sg 0*M (jm 1 0) 1*(0+sg 0*M (jm 1 (jm 0 0)) 2*1)+sg 1*M (jm 1 1) 1*(0+sg 0*M (jm 1 (jm 1 0)) 2*1))+sg 2*M 2 0*(0+sg 0*M (jm 2 0) 1*(0+sg 0*M (jm 2 (jm 0 0)) 2*1)+sg 1*M (jm 2 1) 1*(0+sg 0*M (jm 2 (jm 1 0)) 2*1)))=_;simp only[show sg 0=1 from rfl,show sg 1=-1 from rfl,show sg 2=1 from rfl,show jm 0 0=1 from rfl,show jm 1 0=0 from rfl,show jm 0 1=2 from rfl,show jm 1 1=2 from rfl,show jm 2 0=0 from rfl,show jm 2 1=1 from rfl]
   grind
  rw[e];show -2<=_/\_<=(2:Int);obtain⟨s,hs,z⟩:=h 0 (by decide);obtain⟨t,ht,y⟩:=h 1 (by decide);obtain⟨u,hu,x⟩:=h 2 (by decide);obtain⟨a,ea⟩:=qY (z 0 (by decide));obtain⟨b,eb⟩:=qY (z 1 (by decide));obtain⟨c,ec⟩:=qY (z 2 (by decide));obtain⟨d,ed⟩:=qY (y 0 (by decide));obtain⟨e',ee⟩:=qY (y 1 (by decide));obtain⟨f,ef⟩:=qY (y 2 (by decide));obtain⟨g,eg⟩:=qY (x 0 (by decide));obtain⟨h',eh⟩:=qY (x 1 (by decide));obtain⟨i,ei⟩:=qY (x 2 (by decide));have k:=d3 a b c d e' f g h' i;rw[ea,eb,ec,ed,ee,ef,eg,eh,ei];generalize bi a=a at *;generalize bi b=b at *;generalize bi c=c at *;generalize bi d=d at *;generalize bi e'=e' at *;generalize bi f=f at *;generalize bi g=g at *;generalize bi h'=h' at *;generalize bi i=i at *;have r:s*a*(t*e'*(u*i)-u*h'*(t*f))-t*d*(s*b*(u*i)-u*h'*(s*c))+u*g*(s*b*(t*f)-t*e'*(s*c))=(s*t*u)*(a*(e'*i-h'*f)-d*(b*i-h'*c)+g*(b*f-e'*c)):=by grind
  rw[r];have q:s*t*u=1\/s*t*u=-1:=by rcases hs with rfl|rfl<;>rcases ht with rfl|rfl<;>rcases hu with rfl|rfl<;>decide
  rcases q with q|q<;>rw[q]<;>omega
 |k+4,M,h=>by
  show -((k+4:Int)*hb (k+3))<=sm (k+4) _/\sm (k+4) _<=(k+4:Int)*hb (k+3);have e:((k+4:Nat):Int)=(k+4:Int):=by omega
  rw[<-e];refine zH (k+4) λi hi=>?_;rw[Xi];refine X5 i ?_;have a:=J6 (k+3) (h.oJ hi);have b:=Ac (h.one hi (show 0<k+4 by omega)) a;rw[I9]at b;exact b
theorem Rk(hr:r<k)(h:∀j,j<k->M r j=0):sN k M=0:=by
 have e:sN k M=sN k (put M r λc=>0*one c+0*one c):=sX k λi hi j hj=>by
  unfold put;split
  ·rename_i z;rw[z,h j hj];simp
  ·rfl
 rw[e,uU k M r 0 0 one one hr];omega
section
variable{n m:Nat}{S:Nat->Nat->Bool}{w:Nat->Int}{T:Tab}
theorem VJ(T):sN (n+1) (tD n S T)=sN n (oJ (tD n S T) 0):=by
 show sm (n+1) _=_;rw[eF (j:=0) (n+1) (by omega) λi hi hn=>?_]
 ·rw[show sg 0=1 from rfl,show tD n S T 0 0=1 from rfl];omega
 ·have z:sN n (oJ (tD n S T) i)=0:=Rk (r:=0) (by omega) λj hj=>by
   unfold oJ jm;rw[au (by omega)];show one (j+1)=0;unfold one;rw[aq (by omega)]
  rw[z,Bp]
theorem Rz(T):Im n (oJ (tD n S T) 0):=λi hi=>by
 have e:∀j,oJ (tD n S T) 0 i j=nv n S (T.col i) (j+1):=λj=>by
  unfold oJ jm;rw[aq (by omega)];rw[Bf]
 by_cases hc:T.col i<n
 ·refine⟨1,.inl rfl,λj hj=>?_⟩;rw[e];unfold nv;rw[au hc];split
  ·exact .inr rfl
  ·exact .inl rfl
 ·refine⟨-1,.inr rfl,λj hj=>?_⟩;rw[e];unfold nv;rw[aq hc,aq (by omega)];split
  ·exact .inr rfl
  ·exact .inl rfl
theorem Good.Yq(G:Good n m S w T)(h:n<=5):T.over<=40:=by
 have d:=J6 n (Rz (S:=S) T);rw[<-VJ]at d;have b:hb n<=40:=by
  have:n=0\/n=1\/n=2\/n=3\/n=4\/n=5:=by omega
  rcases this with z|z|z|z|z|z<;>subst z<;>decide
 rw[G.dt];rcases G.sg with s|s<;>rw[s]<;>omega
end
end Sx
namespace Hs
open PySem L2 lQ
section
variable{P:υ}{w:ψ}{K:af}{mg:D0}{base:bn}
inductive eE(K:af)(vs:List V)(H:Hp)(Q:VK)(E_:XK):Prop
 |mk(x d)(_:vs=[x])(_:DX K H x d)(_:Q (.bl (vg d)) H)
theorem PN{f:ag}{fd:χ}
  (F:pV K "is_whole" "is_whole" Np f fd)(mi:mg "isinstance"=none)(mI:mg "int"=none)(mB:mg "bool"=none):gx P w K mg base kG 1 f fd ["thing"] (eE K):=by
 refine F.dD ["thing"] λH Q hr h=>?_;obtain⟨x,d,rfl,hx,q⟩:=h;refine⟨_,aY (bK (Bw (pB Fo mi (aj (pv 0) (aj (pN "int" mI) ak)))
  (qE (uv (pB Fo mi (aj (pv 0) (aj (pN "bool" mB) ak))))))),?_⟩
 refine⟨_,rfl,x,_,_,rfl,hx.kind,.inl rfl,_,rfl,?_⟩;refine nE (λc=>?_) (λc=>?_)
 ·refine⟨_,rfl,x,_,_,rfl,hx.kind,.inr (.inl rfl),_,rfl,?_⟩;cases d<;>first |exact q|(simp[Hr,Dq]at c;done)
 ·cases d<;>first |exact q|(exfalso;exact c rfl)
inductive zq(K:af)(vs:List V)(H:Hp)(Q:VK)(E_:XK):Prop
 |mk(n:Int)(x:V)(d:bX)(_:vs=[.int n,x])(_:DX K H x d)(_:Q (.bl (cG n d)) H)
theorem Qe{f g:ag}
  {fd gd:χ}
  (F:pV K "is_place" "is_place" pD f fd)
  (D:tR K mg "is_whole" Np ["thing"] g gd)
  (G:gx P w K mg base kG 1 g gd ["thing"] (eE K)):gx P w K mg base kG 2 f fd ["n","thing"] (zq K):=by
 refine F.dD ["n","thing"] λH Q hr h=>?_;obtain⟨n,x,d,rfl,hx,q⟩:=h;refine⟨_,aY (bK (Bw (vi G hr rfl D.m D.F.kp D.b .nil k8 (aj (pv 1) ak)) (qE (uj tP uk aL (pv 1) (pv 0))))),?_⟩;refine⟨_,rfl,x,d,rfl,hx,_,rfl,?_⟩;refine nE (λc=>?_) (λc=>?_)
 ·cases hx with
  |int i=>
   refine⟨_,rfl,_,_,rfl,rfl,_,rfl,?_⟩;refine nE (λc2=>?_) (λc2=>?_)
   ·refine⟨_,rfl,_,_,rfl,rfl,?_⟩;have e:cG n (.int i)=decide (i<n):=by show(decide (0<=i)&&decide (i<n))=_;rw[c2];rfl
    rw[e]at q;exact q
   ·have e:cG n (.int i)=false:=by show(decide (0<=i)&&decide (i<n))=_;rw[Bool.eq_false_iff.mpr c2];rfl
    rw[e]at q;exact q
  |_=>simp[vg]at c
 ·have e:cG n d=false:=by
   cases d<;>first |rfl|(exfalso;exact c rfl)
  rw[e]at q;exact q
inductive vB(K:af)(vs:List V)(H:Hp)(Q:VK)(E_:XK):Prop
 |mk(n:Int)(a:ag)(xs:List V)(ds:θ)(_:vs=[.int n,.ref a])(_:SqT K H a xs)(_:uX K H xs ds)(_:∀H',Same H H'->Q (.bl (ds.all (cG n))) H')
theorem wM{α:Type}(ds:List α)(p:α->Bool):(ds.map p).all id=ds.all p:=by rw[Sy];rfl
theorem Lk{f g:ag}
  {fd gd:χ}
  (F:pV K "are_places" "are_places" j8 f fd)
  (D:tR K mg "is_place" pD ["n","thing"] g gd)
  (G:gx P w K mg base kG 2 g gd ["n","thing"] (zq K))(mA:mg "all"=none):gx P w K mg base kG 3 f fd ["n","things"] (vB K):=by
 refine F.dD ["n","things"] λH Q hr h=>?_;obtain⟨n,a,xs,ds,rfl,hS,hd,q⟩:=h;refine⟨_,aY (bK (pB (Fl rfl) mA (aj (pK ["thing"] ["n"] [0] (EY (pv 1)) (pG 0) lF (vi G hr rfl D.m D.F.kp D.b .nil k8 (aj (pv 1) (aj (pv 0) ak)))) ak))),?_⟩;refine⟨_,rfl,a,xs,rfl,hS,λhz=>?_⟩;have hl:=hd.len;refine IV (xs:=xs) (λi acc σ H'=>acc=((ds.take i).map (cG n)).map V.bl/\Same H H'/\∃o,σ=[o,some (.int n)]) ⟨rfl,Same.refl _,_,rfl⟩ (λi acc σ H' _ p=>p.2.1.tup hS) (λi acc σ H' hi p=>?_) hz (λi x acc σ H' hx p=>?_) (λacc σ H' p=>?_)
 ·rw[p.1];simp;omega
 ·obtain⟨rfl,sm,o,rfl⟩:=p;obtain⟨d,e1,e2⟩:=hd.get hx;refine⟨_,rfl,_,rfl,n,x,d,rfl,DX.same sm e2,?_,sm,_,rfl⟩;rw[rF,e1];simp
 ·intro p1 hp1;obtain⟨rfl,sm,_⟩:=p;refine⟨p1,(ds.map (cG n)),rfl,ja.of (by rw[aK,hl,rE]),?_⟩;rw[wM];exact q _ (sm.trans (aR hp1 _))
noncomputable def Z0(K:af)(H:Hp)(x y:V)(b:Bool):Prop:=(∃i j,x=.int i/\y=.int j/\b=decide (i<j))\/(∃p q ns ms,x=.ref p/\y=.ref q/\SqT K H p (ns.map V.int)/\SqT K H q (ms.map V.int)/\b=HT.lexLt ns ms)
inductive lV(K:af)(vs:List V)(H:Hp)(Q:VK)(E_:XK):Prop
 |mk(a:ag)(xs:List V)(bs:Nat->Bool)(_:vs=[.ref a])(_:SqT K H a xs)(_:∀k,k+1<xs.length->∃x y,xs[k]? =some x/\xs[k+1]? =some y/\Z0 K H x y (bs k))(_:∀H',Same H H'->Q (.bl ((am (xs.length-1)).all bs)) H')
theorem Lj{f:ag}{fd:χ}
  (F:pV K "is_rising" "is_rising" Xf f fd)(mA:mg "all"=none)(mR:mg "range"=none)(mL:mg "len"=none):gx P w K mg base kG 1 f fd ["things"] (lV K):=by
 refine F.dD ["things"] λH Q hr h=>?_;obtain⟨a,xs,bs,rfl,hS,hb,q⟩:=h;refine⟨_,aY (bK (pB (Fl rfl) mA (aj (pK ["k"] ["things"] [0] (tw rfl mR (aj aL (aj (pB wZ mL (aj (pv 0) ak)) ak))) (pG 0) lF (uZ (uk.or (JF K hr.units0)) (bw (Ez K) (pv 1) (dF yA (pv 0) aL)) (bw (Ez K) (pv 1) (pv 0)))) ak))),?_⟩;refine⟨_,rfl,a,xs,rfl,.inr hS,λhz=>⟨1,_,rfl,⟨by omega,by omega,by omega,by omega⟩,?_⟩⟩;have en:((xs.length:Int)-1).toNat=xs.length-1:=by omega
 rw[en];refine Nm (λi acc σ H'=>acc=((am i).map bs).map V.bl/\Same H H'/\∃o,σ=[o,some (.ref a)]) ⟨rfl,Same.refl _,_,rfl⟩ (λi acc σ H' hi p=>by rw[p.1];simp) (by rw[gF];omega) (λi acc σ H' hi p=>?_) (λacc σ H' p=>?_)
 ·obtain⟨rfl,sm,o,rfl⟩:=p;obtain⟨x,y,hx,hy,hxy⟩:=hb i (by omega);have e1:(1+(i:Int))-1=((i:Nat):Int):=by omega
  have e2:(1+(i:Int))=((i+1:Nat):Int):=by omega
  have a1:vT xs (1+(i:Int)-1)=some x:=by rw[e1];exact rj hx
  have a2:vT xs (1+(i:Int))=some y:=by rw[e2];exact rj hy
  refine⟨_,rfl,_,rfl,_,_,rfl,rfl,a,xs,_,x,rfl,rfl,sm.tup hS,a1,_,rfl,_,rfl,a,xs,_,y,rfl,rfl,sm.tup hS,a2,?_⟩;have ea:((am i).map bs).map V.bl++[V.bl (bs i)]=((am (i+1)).map bs).map V.bl:=by rw[xq];simp
  rcases hxy with⟨u,v,rfl,rfl,e⟩|⟨p,p',ns,ms,rfl,rfl,h1,h2,e⟩
  ·refine .inl ⟨u,v,rfl,rfl,?_,sm,_,rfl⟩;show _++[V.bl (decide (u<v))]=_;rw[<-e];exact ea
  ·refine .inr ⟨p,p',ns,ms,rfl,rfl,sm.tup h1,sm.tup h2,?_,sm,_,rfl⟩;show _++[V.bl (HT.lexLt ns ms)]=_;rw[<-e];exact ea
 ·intro p1 hp1;obtain⟨rfl,sm,_⟩:=p;refine⟨p1,(am (xs.length-1)).map bs,rfl,ja.of aK,?_⟩;rw[wM];exact q _ (sm.trans (aR hp1 _))
theorem An(h:uX K H xs ds)(hp:ds.all (cG n)=true):xs=(ds.map intD).map V.int:=by
 induction ds generalizing xs with
 |nil=>cases h;rfl
 |cons d ds ih=>
  rw[List.all_cons,vo]at hp;cases h with
  |cons h t=>
   obtain⟨i,rfl,_⟩:=Gz hp.1;cases h;rw[yR,yR,<-ih t hp.2];rfl
theorem yh(ns:ζ):∀k,k+1<(ns.map V.int).length->∃x y,(ns.map V.int)[k]? =some x/\(ns.map V.int)[k+1]? =some y/\Z0 K H x y (decide (ns.getD k 0<ns.getD (k+1) 0)):=λk hk=>by
 rw[aD]at hk;have h1:k<ns.length:=by omega
 refine⟨.int (ns.getD k 0),.int (ns.getD (k+1) 0),by simp[h1],by simp[hk],.inl ⟨_,_,rfl,rfl,rfl⟩⟩
inductive tX(K:af)(vs:List V)(H:Hp)(Q:VK)(E_:XK):Prop
 |mk(n:Int)(x:V)(d:bX)(_:vs=[.int n,x])(_:DX K H x d)(_:∀H',Same H H'->Q (.bl (dB n d)) H')
theorem YF{f:ag}{fd:χ}
  (F:pV K "is_set" "is_set" fV f fd)(D1:Dp P w K mg base 3 "are_places" j8 ["n","things"] (vB K))(D2:Dp P w K mg base 1 "is_rising" Xf ["things"] (lV K))(mi:mg "isinstance"=none)(mT:mg "tuple"=none):gx P w K mg base kG 4 f fd ["n","thing"] (tX K):=by
 refine F.dD ["n","thing"] λH Q hr h=>?_;obtain⟨n,x,d,rfl,hx,q⟩:=h;refine⟨_,aY (bK (Bw (pB Fo mi (aj (pv 1) (aj (pN "tuple" mT) ak)))
  (Bw (pd D1 hr (aj (pv 0) (aj (pv 1) ak))) (qE (pd D2 hr (aj (pv 1) ak)))))),?_⟩
 refine⟨_,rfl,x,_,_,rfl,hx.kind,.inr (.inr (.inl rfl)),_,rfl,?_⟩;refine nE (λc=>?_) (λc=>?_)
 ·cases hx with
  | @tup a xs ds h t=>
   refine⟨_,rfl,_,rfl,n,a,xs,ds,rfl,h,t,λH1 sm=>⟨_,rfl,?_⟩⟩;refine nE (λc2=>?_) (λc2=>?_)
   ·have ex:=An t c2;refine⟨_,rfl,a,xs,λk=>decide ((ds.map intD).getD k 0<(ds.map intD).getD (k+1) 0),rfl,sm.tup h,?_,λH2 sm2=>?_⟩
    ·rw[ex];exact yh _
    ·have e:dB n (.tuple ds)=(am (xs.length-1)).all λk=>decide ((ds.map intD).getD k 0<(ds.map intD).getD (k+1) 0):=by
      show(ds.all (cG n)&&fJ (ds.map intD))=_;rw[c2,t.len];show fJ (ds.map intD)=_;unfold fJ;rw[aD]
     have:=q H2 (sm.trans sm2);rw[e]at this;exact this
   ·have e:dB n (.tuple ds)=false:=by
     show(ds.all (cG n)&&fJ (ds.map intD))=_;rw[Bool.eq_false_iff.mpr c2];rfl
    have:=q H1 sm;rw[e]at this;exact this
  |_=>simp[Hr,Dq]at c
 ·have e:dB n d=false:=by
   cases d<;>first |rfl|(exfalso;exact c rfl)
  have:=q H (Same.refl _);rw[e]at this;exact this
inductive FW(K:af)(vs:List V)(H:Hp)(Q:VK)(E_:XK):Prop
 |mk(n:Int)(x:V)(d:bX)(_:vs=[.int n,x])(_:DX K H x d)(_:∀H',Same H H'->Q (.bl (qx n d)) H')
theorem Ji(h:DX K H x d)(ht:oX n d=true):∃p,x=.ref p/\SqT K H p (((sK d).map intD).map V.int):=by
 cases h with
 | @tup a xs ds h t=>
  have q:(ds.all (cG n)&&fJ (ds.map intD)&&decide (ds.length=2))=true:=ht;rw[vo,vo]at q;exact⟨a,rfl,by rw[An t q.1.1]at h;exact h⟩
 |_=>simp[oX,dB]at ht
theorem K6(t:uX K H xs ds)(ha:ds.all (oX n)=true):∀k,k+1<xs.length->∃x y,xs[k]? =some x/\xs[k+1]? =some y/\
  Z0 K H x y (HT.lexLt ((ds.map λt=>(sK t).map intD).getD k []) ((ds.map λt=>(sK t).map intD).getD (k+1) [])):=λk hk=>by
 have hl:=t.len;have h1:k<xs.length:=by omega
 obtain⟨d1,e1,x1⟩:=t.get (i:=k) (x:=xs[k]) (by simp[h1]);obtain⟨d2,e2,x2⟩:=t.get (i:=k+1) (x:=xs[k+1]) (by simp[hk]);have m1:=lM.mp ha d1 (oF e1);have m2:=lM.mp ha d2 (oF e2);obtain⟨p1,q1,s1⟩:=Ji x1 m1;obtain⟨p2,q2,s2⟩:=Ji x2 m2;refine⟨xs[k],xs[k+1],by simp[h1],by simp[hk],.inr ⟨p1,p2,_,_,q1,q2,s1,s2,?_⟩⟩;have g1:(ds.map λt=>(sK t).map intD).getD k []=(sK d1).map intD:=by rw[dY,dI,e1];rfl
 have g2:(ds.map λt=>(sK t).map intD).getD (k+1) []=(sK d2).map intD:=by rw[dY,dI,e2];rfl
 rw[g1,g2]
theorem Um{f:ag}{fd:χ}
  (F:pV K "are_ties" "are_ties" pF f fd)(D1:Dp P w K mg base 4 "is_set" fV ["n","thing"] (tX K))(D2:Dp P w K mg base 1 "is_rising" Xf ["things"] (lV K))(mi:mg "isinstance"=none)(mT:mg "tuple"=none)(mA:mg "all"=none)(mL:mg "len"=none):gx P w K mg base kG 5 f fd ["n","thing"] (FW K):=by
 refine F.dD ["n","thing"] λH Q hr h=>?_;obtain⟨n,x,d,rfl,hx,q⟩:=h;refine⟨_,aN (iK (jy (iT (pB Fo mi (aj (pv 1) (aj (pN "tuple" mT) ak))))) (aY (bK jl)) iM) (aY (bK (Bw (pB (Fl rfl) mA (aj (pK ["tie"] ["n"] [0] (EY (pv 1)) (pG 0) lF (Bw (pd D1 hr (aj (pv 1) (aj (pv 0) ak))) (qE (uZ xC (pB (Ms K) mL (aj (pv 0) ak)) aL)))) ak))
  (qE (pd D2 hr (aj (pv 1) ak)))))),?_⟩
 refine⟨_,rfl,x,_,_,rfl,hx.kind,.inr (.inr (.inl rfl)),_,rfl,?_⟩;refine nE (λc=>?_) (λc=>?_)
 ·have e:qx n d=false:=by
   cases d<;>first |rfl|(exfalso;simp[Hr,Dq]at c;done)
  have:=q H (Same.refl _);rw[e]at this;exact this
 ·cases hx with
  | @tup a xs ds h t=>
   refine⟨_,rfl,a,xs,rfl,h,λhz=>?_⟩;have hl:=t.len;refine IV (xs:=xs) (λi acc σ H'=>acc=((ds.take i).map (oX n)).map V.bl/\Same H H'/\∃o,σ=[o,some (.int n)]) ⟨rfl,Same.refl _,_,rfl⟩ (λi acc σ H' _ p=>p.2.1.tup h) (λi acc σ H' hi p=>?_) hz (λi x acc σ H' hx p=>?_) (λacc σ H' p=>?_)
   ·rw[p.1];simp;omega
   ·obtain⟨rfl,sm,o,rfl⟩:=p;obtain⟨d,e1,e2⟩:=t.get hx;refine⟨_,rfl,_,rfl,n,x,d,rfl,DX.same sm e2,λH1 sm1=>⟨_,rfl,?_⟩⟩;have ea:∀b,b=oX n d->((ds.take i).map (oX n)).map V.bl++[V.bl b]=((ds.take (i+1)).map (oX n)).map V.bl:=λb hb=>by
     rw[rF,e1,hb];simp
    refine nE (λc2=>?_) (λc2=>?_)
    ·cases e2 with
     | @tup a2 xs2 ds2 h2 t2=>
      refine⟨_,rfl,a2,xs2,rfl,.inr (sm1.tup (sm.tup h2)),λhz2=>⟨rfl,ea _ ?_,sm.trans sm1,_,rfl⟩⟩;show decide (V.int (xs2.length:Int)=V.int 2)=(dB n (.tuple ds2)&&decide (ds2.length=2));rw[c2,t2.len];by_cases e3:ds2.length=2
      ·rw[e3];rfl
      ·rw[gY e3,gY (by intro z;injection z with z;exact e3 (by omega))];rfl
     |_=>simp[dB]at c2
    ·refine⟨ea _ ?_,sm.trans sm1,_,rfl⟩;show false=(dB n d&&decide ((sK d).length=2));rw[Bool.eq_false_iff.mpr c2];rfl
   ·intro p1 hp1;obtain⟨rfl,sm,_⟩:=p;have sm':Same H (upd H' p1 (.lst (((ds.take xs.length).map (oX n)).map V.bl))):=sm.trans (aR hp1 _);refine⟨p1,(ds.map (oX n)),rfl,ja.of (by rw[aK,hl,rE]),_,rfl,?_⟩;rw[wM];refine nE (λc2=>?_) (λc2=>?_)
    ·refine⟨_,rfl,a,xs,λk=>HT.lexLt ((ds.map λt=>(sK t).map intD).getD k []) ((ds.map λt=>(sK t).map intD).getD (k+1) []),rfl,sm'.tup h,?_,λH2 sm2=>?_⟩
     ·exact K6 (uX.same sm' t) c2
     ·have e:qx n (.tuple ds)=(am (xs.length-1)).all λk=>HT.lexLt ((ds.map λt=>(sK t).map intD).getD k []) ((ds.map λt=>(sK t).map intD).getD (k+1) []):=by
       show(ds.all (oX n)&&kh (ds.map λt=>(sK t).map intD))=_;rw[c2,hl];show kh (ds.map λt=>(sK t).map intD)=_;unfold kh;rw[aD]
      have:=q H2 (sm'.trans sm2);rw[e]at this;exact this
    ·have e:qx n (.tuple ds)=false:=by
      show(ds.all (oX n)&&kh (ds.map λt=>(sK t).map intD))=_;rw[Bool.eq_false_iff.mpr c2];rfl
     have:=q _ sm';rw[e]at this;exact this
  |_=>exfalso;exact c rfl
end
end Hs
namespace lQ
open PySem L2
noncomputable def pairD(p:Int×Int):PyData:=.tuple [.int p.1,.int p.2]
noncomputable def vh(n:Int)(ts:L0):PyData:=.tuple [.int n,.tuple (ts.map pairD)]
noncomputable def lJ(K:af)(H:Hp)(a:ag)(n:Int)(ts:L0):Prop:=∃t rs,SqT K H a [.int n,.ref t]/\SqT K H t rs/\cY K H rs (ts.map pairD)
theorem lJ.dv(h:lJ K H a n ts):DV K H (.ref a) (vh n ts):=by
 obtain⟨t,rs,h1,h2,h3⟩:=h;exact .tup h1 (.cons (.int n) (.cons (.tup h2 h3) .nil))
theorem lJ.same(h:lJ K H a n ts)(e:Same H H'):lJ K H' a n ts:=by
 obtain⟨t,rs,h1,h2,h3⟩:=h;exact⟨t,rs,e.tup h1,e.tup h2,cY.same e h3⟩
noncomputable def bN(ts:L0)(i j:Int):Bool:=decide ((if j<i then j else i,if j>i then j else i)∈ts)
theorem Eb(p q):aE (pairD p) (pairD q)=decide (p=q):=by
 obtain⟨a,b⟩:=p;obtain⟨c,d⟩:=q;show((a==c)&&((b==d)&&true))=_;rw[Fx];simp
theorem yq:∀ts:L0,bz (ts.map pairD)=true
 |[]=>rfl
 |p::ts=>by
  show(PyData.canLay0 (pairD p)&&bz (ts.map pairD))=true;rw[yq ts];rfl
theorem RG(ts:L0)(q):((ts.map pairD).any λd=>aE d (pairD q))=decide (q∈ts):=by
 rw[Mo,Fx,MV];constructor
 ·rintro⟨p,hp,h⟩;have h':aE (pairD p) (pairD q)=true:=h;rw[Eb]at h';have e:p=q:=lA h';subst e;exact cI hp
 ·intro h;refine⟨q,lA h,?_⟩;show aE (pairD q) (pairD q)=true;rw[Eb];exact cI rfl
end lQ
namespace Hs
open PySem L2 lQ
section
variable{P:υ}{w:ψ}{K:af}{mg:D0}{base:bn}
inductive Ob(K:af)(vs:List V)(H:Hp)(Q:VK)(E_:XK):Prop
 |mk(x:V)(d:bX)(_:vs=[x])(_:DX K H x d)(_:∀H',Same H H'->Q (.bl (xG d)) H')
theorem Yr{f:ag}{fd:χ}{tk:Tok}
  (F:pV K "is_web" "is_web" vR f fd)(D1:Dp P w K mg base 1 "is_whole" Np ["thing"] (eE K))(D2:Dp P w K mg base 5 "are_ties" pF ["n","thing"] (FW K))(mi:mg "isinstance"=none)(mT:mg "tuple"=none)(mL:mg "len"=none)(mM:mg "MOST_PLACES"=some (.int 10 tk)):gx P w K mg base kG 6 f fd ["thing"] (Ob K):=by
 refine F.dD ["thing","n"] λH Q hr h=>?_;obtain⟨x,d,rfl,hx,q⟩:=h;refine⟨_,aN (iK (PW.pt (rH (jy (iT (pB Fo mi (aj (pv 0) (aj (pN "tuple" mT) ak)))))
   (uY (gU sq (pB wZ mL (aj (pv 0) ak)) aL)))) (aY (bK jl)) iM) (aN (pS 1 (bw cH (pv 0) aL)) (aY (bK (Bw (pd D1 hr (aj (pv 1) ak)) (Bw (uj tP tP aL (pv 1) (ue rfl mM (v:=.int 10) ⟨_,rfl⟩))
   (qE (pd D2 hr (aj (pv 1) (aj (bw cH (pv 0) aL) ak))))))))),?_⟩
 refine⟨_,rfl,x,_,_,rfl,hx.kind,.inr (.inr (.inl rfl)),_,rfl,?_⟩;refine nE (λc=>?_) (λc=>?_)
 ·have e:xG d=false:=by
   cases d<;>first |rfl|(exfalso;simp[Hr,Dq]at c;done)
  have:=q H (Same.refl _);rw[e]at this;exact this
 ·cases hx with
  | @tup a xs ds h t=>
   have hl:=t.len;refine⟨_,rfl,a,xs,rfl,.inr h,λhz=>⟨rfl,_,rfl,?_⟩⟩;refine nE (λc2=>?_) (λc2=>?_)
   ·have e:xG (.tuple ds)=false:=by
     match ds,hl with
     |[],_=>rfl
     |[_],_=>rfl
     |[_,_],hl=>
      exfalso;have e2:(!decide (V.int (xs.length:Int)=V.int 2))=true:=c2;rw[hl]at e2;simp at e2
     |_::_::_::_,_=>rfl
    have:=q H (Same.refl _);rw[e]at this;exact this
   ·have e2:xs.length=2:=by
     have e2:¬(!decide (V.int (xs.length:Int)=V.int 2))=true:=c2;simp at e2;omega
    cases t with
    |nil=>simp at e2
    |cons h0 t0=>
     cases t0 with
     |nil=>simp at e2
     | @cons x1 dd1 xs1 ds1 h1 t1=>
      cases t1 with
      |cons _ _=>simp at e2
      |nil=>
       rename_i x0 dd0;refine⟨_,rfl,a,_,_,x0,rfl,rfl,h,by rfl,?_⟩;refine⟨_,rfl,x0,dd0,rfl,h0,_,rfl,?_⟩;refine nE (λc3=>?_) (λc3=>?_)
       ·cases h0 with
        |int n=>
         refine⟨_,rfl,_,_,rfl,rfl,_,rfl,?_⟩;have fin:∀b,b=xG (.tuple [.int n,dd1])->∀H',Same H H'->Q (.bl b) H':=λb hb H' sm=>by rw[hb];exact q H' sm
         have wd:xG (.tuple [.int n,dd1])=((decide (0<=n)&&decide (n<=10))&&qx n dd1):=rfl;refine nE (λc4=>?_) (λc4=>?_)
         ·refine⟨_,_,rfl,rfl,_,rfl,?_⟩;refine nE (λc5=>?_) (λc5=>?_)
          ·refine⟨_,rfl,_,rfl,a,_,_,x1,rfl,rfl,h,by rfl,n,x1,dd1,rfl,h1,λH' sm=>fin _ ?_ H' sm⟩;rw[wd,c4,c5];rfl
          ·refine fin _ ?_ H (Same.refl _);rw[wd,Bool.eq_false_iff.mpr c5,MD];rfl
         ·refine⟨_,rfl,?_⟩;refine kL (fin _ ?_ H (Same.refl _));rw[wd,Bool.eq_false_iff.mpr c4];rfl
        |_=>simp[vg]at c3
       ·have e:xG (.tuple [dd0,dd1])=false:=by
         show(vg dd0&&(decide (0<=intD dd0)&&decide (intD dd0<=10))&&qx (intD dd0) dd1)=false;rw[Bool.eq_false_iff.mpr c3];rfl
        have:=q H (Same.refl _);rw[e]at this;exact this
  |_=>exfalso;exact c rfl
inductive aU(K:af)(vs:List V)(H:Hp)(Q:VK)(E_:XK):Prop
 |mk(x:V)(d:bX)(_:vs=[x])(_:DX K H x d)(_:xG d=true)(_:∀H',Same H H'->Q .non H')
theorem GQ{f:ag}{fd:χ}
  (F:pV K "need_web" "need_web" yQ f fd)(D1:Dp P w K mg base 6 "is_web" vR ["thing"] (Ob K)):gx P w K mg base kG 7 f fd ["thing"] (aU K):=by
 refine F.dD ["thing"] λH Q hr h=>?_;obtain⟨x,d,rfl,hx,hw,q⟩:=h;refine⟨_,aY (iK (jy (iT (pd D1 hr (aj (pv 0) ak)))) Sd iM),?_⟩;refine⟨_,rfl,x,d,rfl,hx,λH' sm=>⟨_,rfl,?_⟩⟩;rw[hw];exact kL (q H' sm)
inductive yd(K:af)(vs:List V)(H:Hp)(Q:VK)(E_:XK):Prop
 |mk(a:ag)(n i j:Int)(ts:L0)(_:vs=[.ref a,.int i,.int j])(_:lJ K H a n ts)(_:∀H',Same H H'->Q (.bl (bN ts i j)) H')
theorem YQ{f:ag}{fd:χ}
  (F:pV K "has_tie" "has_tie" gP f fd)(mi:mg "min"=none)(ma:mg "max"=none):gx P w K mg base kG 1 f fd ["web","one","other"] (yd K):=by
 refine F.dD ["web","one","other"] λH Q hr h=>?_;obtain⟨a,n,i,j,ts,rfl,hW,q⟩:=h;refine⟨_,aY (bK (uZ (PL hr.units) (ou (aj (pB (AY rfl) mi (aj (pv 1) (aj (pv 2) ak))) (aj (pB (AZ rfl) ma (aj (pv 1) (aj (pv 2) ak))) ak)))
  (bw cH (pv 0) aL) (by with_unfolding_all rfl))),?_⟩
 refine⟨_,rfl,_,rfl,_,_,rfl,_,rfl,_,rfl,_,_,rfl,rV,λp hp=>?_⟩;have sm:=aR hp (.tup [.int (if j<i then j else i),.int (if j>i then j else i)]);obtain⟨t,rs,h1,h2,h3⟩:=hW.same sm;refine⟨_,rfl,a,_,_,.ref t,rfl,rfl,h1,rfl,t,rs,_,pairD (if j<i then j else i,if j>i then j else i),rfl,.inr h2,h3,.tup (SqT.of aK) (.cons (.int _) (.cons (.int _) .nil)),yq ts,rfl,(by show max 0 (max 0 0)+1<=60;decide),?_⟩;rw[RG];exact q _ sm
end
noncomputable def yJ(n:Int)(ts:L0):Prop:=xG (vh n ts)=true
section
variable{P:υ}{w:ψ}{K:af}{mg:D0}{base:bn}
theorem ZW{A B:Prop}(h:b=true)(hA:A):if b=true then A else B:=by rw[h];exact si hA
theorem ZV{A B:Prop}(h:b=false)(hB:B):if b=true then A else B:=by rw[h];exact kL hB
inductive vH(K:af)(vs:List V)(H:Hp)(Q:VK)(E_:XK):Prop
 |mk(a b i:Int)(_:vs=[.int a,.int b,.int i])(_:a<=i)(_:i<=b)(_:Q .non H)
theorem Lq{f:ag}{fd:χ}
  (F:pV K "need_from_to" "need_from_to" ig f fd)(D1:Dp P w K mg base 1 "is_whole" Np ["thing"] (eE K)):
  gx P w K mg base kG 2 f fd ["least","most","thing"] (vH K):=by
 refine F.dD ["least","most","thing"] λH Q hr h=>?_;obtain⟨a,b,i,rfl,h0,h1,q⟩:=h;refine⟨_,aY (iK (PW.pt (rH (jy (iT (pd D1 hr (aj (pv 2) ak)))) (uY (jy (BB tP tP (pv 0) (pv 2) (pv 1)))))) Sd iM),?_⟩;refine⟨_,rfl,.int i,.int i,rfl,.int i,_,rfl,?_⟩;apply kL;refine⟨_,rfl,_,rfl,_,_,rfl,rfl,_,rfl,?_⟩;refine ZW (cI h0) ?_;refine⟨_,rfl,_,_,rfl,rfl,_,rfl,?_⟩;refine ZV (by rw[cI h1];rfl) q
end
end Hs
namespace L2
open PySem
noncomputable def aW(t:ag)(H H':Hp):Prop:=∀b o,b≠t->H b=some o->H' b=some o
theorem aW.refl(t)(H):aW t H H:=λ_ _ _ h=>h
theorem aW.trans(a:aW t H H1)(b:aW t H1 H2):aW t H H2:=λc o n h=>b c o n (a c o n h)
theorem Fd:∀ns:ζ,bz (ns.map aC)=true
 |[]=>rfl
 |n::ns=>by
  show(true&&bz (ns.map aC))=true;rw[Fd ns];rfl
theorem aW.free(e:aW t H H')(n:a≠t)(h:H' a=none):H a=none:=by
 cases q:H a with
 |none=>rfl
 |some o=>rw[e a o n q]at h;cases h
theorem cY.append(h:cY K H xs ds)(h':cY K H ys es):cY K H (xs++ys) (ds++es):=
 cY.rec (motive_1:=λ_ _ _=>True) (motive_2:=λxs ds _=>cY K H (xs++ys) (ds++es)) trivial (λ_=>trivial) (λ_=>trivial) (λ_=>trivial) (λ_ _ _=>trivial) (λ_ _ _=>trivial) (λ_=>trivial) (λ_ _=>trivial) h' (λh _ _ t=>.cons h t) h
theorem aW.tup{K:af}{t:ag}{H H':Hp}{a:ag}{xs zs:List V}(e:aW t H H')(n:H t=some (.lst zs))(h:SqT K H a xs):SqT K H' a xs:=by
 rcases h with(h|⟨o,h⟩)|h
 ·exact .inl (.inl (e _ _ (rX h n (by intro z;cases z)) h))
 ·exact .inl (.inr ⟨o,e _ _ (rX h n (by intro z;cases z)) h⟩)
 ·exact .inr h
end L2
namespace lQ
open PySem L2
theorem jf(e:aW t H H')(n:H t=some (.lst zs)){ps:L0}(h:cY K H rs (ps.map pairD)):cY K H' rs (ps.map pairD):=by
 induction ps generalizing rs with
 |nil=>cases h;exact .nil
 |cons p ps ih=>
  cases h with
  |cons h tl=>
   refine .cons ?_ (ih tl);cases h with
   |tup h hd=>
    cases hd with
    |cons a1 t1=>
     cases a1;cases t1 with
     |cons a2 t2=>
      cases a2;cases t2;exact .tup (e.tup n h) (.cons (.int _) (.cons (.int _) .nil))
structure Sub(j:Nat)(l:ζ):Prop where
 nd:l.Nodup
 lt:∀i∈l,0<=i/\i<(j:Int)
theorem jF{α:Type} [DecidableEq α]:∀{l m:List α},l.Nodup->(∀a∈l,a∈m)->l.length<=m.length
 |[],m,_,_=>dX _
 |a::l,m,nd,h=>by
  have ha:=h a dZ;have nd':=Kr.mp nd;have q:∀b∈l,b∈m.erase a:=λb hb=>by
   have hne:b≠a:=λe=>nd'.1 (e▸hb);exact(ll hne).mpr (h b (fB _ hb))
  have:=jF nd'.2 q;have e:=Po ha;have:0<m.length:=FE ha;simp only[uL];omega
theorem Sub.len(h:Sub j l):l.length<=j:=by
 have q:=jF (m:=(am j).map λ(k:Nat)=>(k:Int)) h.nd λi hi=>by
  have:=h.lt i hi;exact jP.mpr ⟨i.toNat,nu.mpr (by omega),by omega⟩
 simpa using q
structure bJ(n:Int)(ps:L0):Prop where
 nd:ps.Nodup
 lt:∀p∈ps,0<=p.1/\p.1<p.2/\p.2<n
noncomputable def P9(n:Nat):L0:=((am n).map λ(j:Nat)=>(am j).map λ(i:Nat)=>((i:Int),(j:Int))).flatten
theorem pairs_len(h:bJ n ps)(hn:n<=10):ps.length<=45:=by
 have q:=jF (m:=P9 10) h.nd λp hp=>by
  obtain⟨h0,h1,h2⟩:=h.lt p hp;obtain⟨a,b⟩:=p;dsimp only at h0 h1 h2;refine List.mem_flatten.mpr ⟨(am b.toNat).map λ(i:Nat)=>((i:Int),((b.toNat:Nat):Int)),jP.mpr ⟨b.toNat,nu.mpr (by omega),rfl⟩,jP.mpr ⟨a.toNat,nu.mpr (by omega),?_⟩⟩;have e1:((a.toNat:Nat):Int)=a:=by omega
  have e2:((b.toNat:Nat):Int)=b:=by omega
  rw[e1,e2]
 have e:(P9 10).length=45:=by decide
 omega
noncomputable def pl(p:Int×Int):ζ:=[p.1,p.2]
noncomputable def aQ(ts:L0)(i j:Int):Bool:=decide ((i,j)∈ts)||decide ((j,i)∈ts)
theorem zw(h:bJ n ts)(i j):bN ts i j=aQ ts i j:=by
 unfold bN aQ;have no:∀{a b:Int},b<=a->decide ((a,b)∈ts)=false:=λ{a b} hab=>gY λhm=>by
  have:=(h.lt _ hm).2.1;dsimp only at this;omega
 rcases Int.lt_trichotomy i j with c|c|c
 ·rw[aq (show¬j<i by omega),au (show j>i by omega),no (show i<=j by omega),Bool.or_false]
 ·subst c;rw[aq (show¬i<i by omega),Bool.or_self]
  try rw[aq (show¬i>i by omega)]
 ·rw[au (show j<i by omega),aq (show¬j>i by omega),no (show j<=i by omega),JA]
end lQ
namespace Hs
open PySem L2 lQ
noncomputable def lO(p q:Int×Int):Prop:=p.1<q.1\/(p.1=q.1/\p.2<q.2)
theorem lO.trans(a:lO p q)(b:lO q r):lO p r:=by
 unfold lO at *;omega
theorem JQ(h:HT.lexLt (pl p) (pl q)=true):lO p q:=by
 rw[HT.fK]at h;have:=lA h;unfold pl at this;rw[IL]at this;rcases this with a|⟨a,b⟩
 ·exact .inl a
 ·rw[IL]at b;rcases b with b|⟨_,b⟩
  ·exact .inr ⟨a,b⟩
  ·exact absurd b (by simp)
theorem uy{l:L0}(h:∀k,(hk:k+1<l.length)->lO l[k] l[k+1]):l.Pairwise lO:=by
 rw[BK];intro i j hi hj hij;have go:∀d:Nat,(hd:i+1+d<l.length)->lO l[i] l[i+1+d]:=by
  intro d
  induction d with
  |zero=>intro hd;exact h i hd
  |succ d ih=>intro hd;exact(ih (by omega)).trans (h (i+1+d) hd)
 have e:j=i+1+(j-i-1):=by omega
 have:=go (j-i-1) (by omega);simpa[<-e]using this
theorem Ft(h:yJ n ts):ts.Pairwise lO:=by
 have h1:qx n (.tuple (ts.map pairD))=true:=by
  unfold yJ vh xG at h;rw[vo]at h;exact h.2
 unfold qx at h1;rw[vo]at h1;have h2:=h1.2;unfold kh at h2;rw[lM]at h2;refine uy λk hk=>?_;have e:(List.map (λt=>(sK t).map intD) (ts.map pairD))=ts.map pl:=by
  rw[Kq];rfl
 rw[e,aD]at h2;have h3:=h2 k (by rw[nu];omega);have g:∀j,(hj:j<ts.length)->(ts.map pl).getD j []=pl ts[j]:=λj hj=>by
  rw[dY,dI,cU hj];rfl
 rw[g k (by omega),g (k+1) hk]at h3;exact JQ h3
noncomputable def row(so:Int->Int->Bool)(i:Int)(k:Nat):L0:=((am k).map λ(t:Nat)=>(i,i+1+(t:Int))).filter λp=>so p.1 p.2
noncomputable def rows(so:Int->Int->Bool)(m:Int)(i:Nat):L0:=((am i).map λ(t:Nat)=>row so (0+(t:Int)) (m-(0+(t:Int)+1)).toNat).flatten
structure aZ(K:af)(H:Hp)(a:ag)(n:Int)(ts:L0):Prop where
 web:lJ K H a n ts
 h0:0<=n
 h1:n<=10
 pk:bJ n ts
 ok:yJ n ts
theorem aZ.same(h:aZ K H a n ts)(e:Same H H'):aZ K H' a n ts:=⟨h.web.same e,h.h0,h.h1,h.pk,h.ok⟩
theorem aZ.len(h:aZ K H a n ts):ts.length<=45:=pairs_len h.pk h.h1
theorem aZ.Td(h:aZ K H a n ts):ts.Pairwise lO:=Ft h.ok
noncomputable def Ka(K:af)(H:Hp)(l:ag)(R:L0)(P:Int×Int->Prop):Prop:=∃(rs:List V) (ts:L0),H l=some (.lst rs)/\cY K H rs (ts.map pairD)/\ts.Sublist R/\∀p∈ts,P p
theorem Ka.nil{P:Int×Int->Prop}(h:H l=some (.lst [])):Ka K H l R P:=⟨[],[],h,.nil,List.nil_sublist _,λp hp=>(nomatch hp)⟩
section
variable{K:af}
structure RI(K:af)(H:Hp)(l:ag)(ps:L0):Prop where
 ex:∃rs,H l=some (.lst rs)/\cY K H rs (ps.map pairD)
end
structure cT(n:Int)(xs:ζ):Prop where
 Td:xs.Pairwise (· < ·)
 lt:∀x∈xs,0<=x/\x<n
theorem cT.len(h:cT n xs)(hn:n<=10):xs.length<=10:=by
 have h1:Sub n.toNat xs:=⟨h.Td.imp λh e=>by omega,λi hi=>by have:=h.lt i hi;omega⟩;have:=h1.len;omega
end Hs
namespace Hs
noncomputable def ff:Nat->Nat
 |0=>1
 |1=>1
 |2=>2
 |3=>3
 |4=>4
 |5=>6
 |6=>9
 |7=>12
 |8=>18
 |9=>27
 |_=>36
theorem Ar:∀m n:Nat,m<=n->n<=10->ff m<=ff n:=by
 have h:∀n:Fin 11,∀m:Fin 11,m.val<=n.val->ff m.val<=ff n.val:=by decide
 intro m n hm hn;exact h ⟨n,by omega⟩ ⟨m,by omega⟩ hm
theorem VB:∀n d:Nat,0<d->d<=n->n<=10->d*ff (n-d)<=ff n:=by
 have h:∀n:Fin 11,∀d:Fin 11,0<d.val->d.val<=n.val->d.val*ff (n.val-d.val)<=ff n.val:=by decide
 intro n d h0 hd hn;exact h ⟨n,by omega⟩ ⟨d,by omega⟩ h0 hd
structure B5(r:Int->Int->Bool)(V:ζ)(s:ζ):Prop where
 up:s.Pairwise (· < ·)
 sub:∀x∈s,x∈V
 ind:∀x∈s,∀y∈s,x≠y->r x y=false
 max:∀v∈V,v∉s->∃x∈s,r x v=true
theorem Dm(g:Int->Nat):∀V:ζ,V≠[]->∃v∈V,∀u∈V,g v<=g u
 |[],h=>absurd rfl h
 |[x],_=>⟨x,by simp,λu hu=>by rw[jw.mp hu];exact aP _⟩
 |x::y::V,_=>by
  obtain⟨v,hv,hm⟩:=Dm g (y::V) (by simp);by_cases c:g x<=g v
  ·refine⟨x,by simp,λu hu=>?_⟩;rcases cZ.mp hu with e|e
   ·rw[e];exact aP _
   ·exact dH c (hm u e)
  ·refine⟨v,fB _ hv,λu hu=>?_⟩;rcases cZ.mp hu with e|e
   ·rw[e];omega
   ·exact hm u e
theorem pW{α:Type}(p:α->Bool):∀l:List α,(l.filter p).length+(l.filter λx=> !p x).length=l.length
 |[]=>rfl
 |x::l=>by
  have ih:=pW p l;rw[Ks,Ks];cases p x<;>simp <;>omega
theorem yH{α β:Type}(p:β->α->Bool)(m):∀(us:List β) (fs:List α),(∀s∈fs,∃u∈us,p u s=true)->(∀u∈us,∀gs:List α,gs.Sublist fs->(∀s∈gs,p u s=true)->gs.length<=m)->fs.length<=us.length*m
 |[],fs,h,_=>by
  cases fs with
  |nil=>simp
  |cons s fs=>obtain⟨u,hu,_⟩:=h s (by simp);cases hu
 |u::us,fs,h,hm=>by
  have e:=pW (p u) fs;have a:=hm u (by simp) (fs.filter (p u)) Xn (λs hs=>(iU.mp hs).2);have b:=yH p m us (fs.filter λx=> !p u x) (λs hs=>by
   obtain⟨h1,h2⟩:=iU.mp hs;obtain⟨w,hw,hp⟩:=h s h1;rcases cZ.mp hw with z|z
   ·rw[z]at hp;rw[hp]at h2;cases h2
   ·exact⟨w,z,hp⟩) (λw hw gs hg hp=>hm w (fB _ hw) gs (hg.trans Xn) hp)
  rw[uL,Nat.succ_mul];omega
theorem Jg:∀{xs ys:ζ},xs.Pairwise (· < ·)->ys.Pairwise (· < ·)->(∀k,k∈xs↔k∈ys)->xs=ys
 |[],[],_,_,_=>rfl
 |[],y::ys,_,_,h=>by have:=(h y).mpr (by simp);simp at this
 |x::xs,[],_,_,h=>by have:=(h x).mp (by simp);simp at this
 |x::xs,y::ys,hx,hy,h=>by
  rw[EO]at hx hy;have e:x=y:=by
   have a:=(h x).mp (by simp);have b:=(h y).mpr (by simp);rcases cZ.mp a with a|a
   ·exact a
   ·rcases cZ.mp b with b|b
    ·exact b.symm
    ·have:=hy.1 x a;have:=hx.1 y b;omega
  subst e;rw[Jg hx.2 hy.2 λk=>?_];constructor
  ·intro hk;rcases cZ.mp ((h k).mp (fB _ hk))with a|a
   ·have:=hx.1 k hk;omega
   ·exact a
  ·intro hk;rcases cZ.mp ((h k).mpr (fB _ hk))with a|a
   ·have:=hy.1 k hk;omega
   ·exact a
theorem sI{α β:Type}{g:α->β}:∀{l:List α},l.Nodup->(∀a∈l,∀b∈l,g a=g b->a=b)->(l.map g).Nodup
 |[],_,_=>List.nodup_nil
 |a::l,h,hi=>by
  rw[Kr]at h;rw[yR,Kr];refine⟨λhm=>?_,sI h.2 λx hx y hy=>hi x (fB _ hx) y (fB _ hy)⟩;obtain⟨b,hb,e⟩:=jP.mp hm;have:=hi b (fB _ hb) a (by simp) e;rw[this]at hb;exact h.1 hb
noncomputable def cO(r:Int->Int->Bool)(v u:Int):Bool:=decide (u=v)||r u v
theorem HD(sym:∀i j,r i j=r j i):∀(n:Nat) (V:ζ),V.length=n->n<=10->∀fs:List ζ,fs.Nodup->(∀s∈fs,B5 r V s)->fs.length<=ff n:=by
 intro n
 induction n using Nat.strongRecOn with
 |ind n ih=>
  intro V hV hn fs nd hf;by_cases hz:V=[]
  ·have e:∀s∈fs,s=[]:=λs hs=>by
    cases s with
    |nil=>rfl
    |cons x s=>have:=(hf _ hs).sub x (by simp);rw[hz]at this;cases this
   have l1:fs.length<=1:=by
    match fs,nd,e with
    |[],_,_=>simp
    |[_],_,_=>simp
    |a::b::fs,nd,e=>
     exfalso;rw[Kr]at nd;apply nd.1;rw[e a (by simp),e b (by simp)];simp
   have:1<=ff n:=by
    have:=Ar 0 n (dX _) hn;exact this
   omega
  obtain⟨v,hv,hmin⟩:=Dm (λu=>(V.filter (cO r u)).length) V hz;have key:=yH (λ(u:Int) (s:ζ)=>decide (u∈s)) (ff (n-(V.filter (cO r v)).length)) (V.filter (cO r v)) fs (λs hs=>?_) (λu hu gs hg hp=>?_)
  ·have hle:(V.filter (cO r v)).length<=n:=by rw[<-hV];exact vf _ _
   have hpos:0<(V.filter (cO r v)).length:=FE (iU.mpr ⟨hv,by unfold cO;simp⟩);exact dH key (VB n _ hpos hle hn)
  ·by_cases c:v∈s
   ·exact⟨v,iU.mpr ⟨hv,by unfold cO;simp⟩,cI c⟩
   ·obtain⟨x,hx,hr⟩:=(hf s hs).max v hv c;exact⟨x,iU.mpr ⟨(hf s hs).sub x hx,by unfold cO;rw[hr];simp⟩,cI hx⟩
  ·have huV:u∈V:=(iU.mp hu).1;have fg:∀s∈gs,B5 r V s/\u∈s:=λs hs=>⟨hf s (hg.subset hs),lA (hp s hs)⟩;have hle:(V.filter (cO r u)).length<=n:=by rw[<-hV];exact vf _ _
   have hge:=hmin u huV;have hpos:0<(V.filter (cO r u)).length:=FE (iU.mpr ⟨huV,by unfold cO;simp⟩);have hV2:(V.filter λx=> !cO r u x).length=n-(V.filter (cO r u)).length:=by have:=pW (cO r u) V;omega
   have Hl:∀(s:ζ) (x:Int),x∈s.filter (λx=> !decide (x=u))↔x∈s/\x≠u:=λs x=>by rw[iU];simp
   have h1:=ih (n-(V.filter (cO r u)).length) (by omega) (V.filter λx=> !cO r u x) hV2 (by omega) (gs.map λs=>s.filter λx=> !decide (x=u)) (sI (nd.sublist hg) λs hs t ht e=>?_) (λt ht=>?_)
   ·rw[aD]at h1;exact dH h1 (Ar _ _ (by omega) (by omega))
   ·obtain⟨a1,a2⟩:=fg s hs;obtain⟨b1,b2⟩:=fg t ht;refine Jg a1.up b1.up λk=>?_;have hk:k∈s.filter (λx=> !decide (x=u))↔k∈t.filter (λx=> !decide (x=u)):=by rw[show s.filter (λx=> !decide (x=u))=t.filter (λx=> !decide (x=u))from e]
    rw[Hl,Hl]at hk;by_cases c:k=u
    ·rw[c];exact⟨λ_=>b2,λ_=>a2⟩
    ·exact⟨λz=>(hk.mp ⟨z,c⟩).1,λz=>(hk.mpr ⟨z,c⟩).1⟩
   ·obtain⟨s,hs,rfl⟩:=jP.mp ht;obtain⟨a1,a2⟩:=fg s hs;refine⟨a1.up.sublist Xn,λx hx=>?_,λx hx y hy=>?_,λw hw hn=>?_⟩
    ·obtain⟨x1,x2⟩:=(Hl s x).mp hx;refine iU.mpr ⟨a1.sub x x1,?_⟩;unfold cO;rw[a1.ind x x1 u a2 x2,gY x2];rfl
    ·exact a1.ind x ((Hl s x).mp hx).1 y ((Hl s y).mp hy).1
    ·obtain⟨w1,w2⟩:=iU.mp hw;have w3:cO r u w=false:=by simpa using w2
     unfold cO at w3;rw[lm]at w3;have wu:w≠u:=E1 w3.1;have ws:w∉s:=λz=>hn ((Hl s w).mpr ⟨z,wu⟩);obtain⟨x,hx,hr⟩:=a1.max w w1 ws;have xu:x≠u:=λz=>by rw[z,sym u w,w3.2]at hr;cases hr
     exact⟨x,(Hl s x).mpr ⟨hx,xu⟩,hr⟩
end Hs
namespace Hs
open PySem lQ
noncomputable def rng(n:Nat):ζ:=(am n).map λk=>((k:Nat):Int)
theorem jh:x∈rng n↔0<=x/\x<(n:Int):=by
 unfold rng;rw[jP];constructor
 ·rintro⟨k,hk,rfl⟩;have:=nu.mp hk;omega
 ·rintro⟨h0,h1⟩;exact⟨x.toNat,nu.mpr (by omega),by omega⟩
theorem Sg(ts)(i j):aQ ts i j=aQ ts j i:=by unfold aQ;rw[Bool.or_comm]
noncomputable def xL(ts:L0)(w:Bool)(s:ζ)(p:Int):Bool:=s.all λq=>aQ ts p q==w
noncomputable def cD(ts:L0)(w:Bool):Nat->List ζ
 |0=>[[]]
 |k+1=>cD ts w k++((cD ts w k).filter λs=>xL ts w s (k:Int)).map λs=>s++[(k:Int)]
noncomputable def qU(ts:L0)(w:Bool)(n:Nat)(s:ζ):Bool:= !((rng n).any λp=> !decide (p∈s)&&xL ts w s p)
noncomputable def mQ(ts:L0)(w:Bool)(n:Nat):List ζ:=(cD ts w n).filter (qU ts w n)
structure m7(ts:L0)(w:Bool)(k:Nat)(s:ζ):Prop where
 up:s.Pairwise (· < ·)
 lt:∀x∈s,0<=x/\x<(k:Int)
 all:∀x∈s,∀y∈s,x≠y->(aQ ts x y==w)=true
theorem pA:∀(k:Nat) (s:ζ),s∈cD ts w k->m7 ts w k s
 |0,s,h=>by
  rw[jw.mp (show s∈[[]]from h)];exact⟨eT,λx hx=>(nomatch hx),λx hx=>(nomatch hx)⟩
 |k+1,s,h=>by
  rcases oE.mp (show s∈cD ts w k++((cD ts w k).filter λs=>xL ts w s (k:Int)).map λs=>s++[(k:Int)]from h)with q|q
  ·have S:=pA k s q;exact⟨S.up,λx hx=>by have:=S.lt x hx;omega,S.all⟩
  ·obtain⟨t,ht,rfl⟩:=jP.mp q;obtain⟨t1,t2⟩:=iU.mp ht;have S:=pA k t t1;have g:∀y∈t,(aQ ts (k:Int) y==w)=true:=λy hy=>lM.mp t2 y hy;refine⟨?_,λx hx=>?_,λx hx y hy hne=>?_⟩
   ·rw[FC];refine⟨S.up,FH _ _,λx hx y hy=>?_⟩;rw[jw.mp hy];exact(S.lt x hx).2
   ·rcases oE.mp hx with z|z
    ·have:=S.lt x z;omega
    ·rw[jw.mp z];omega
   ·rcases oE.mp hx with z|z
    ·rcases oE.mp hy with z'|z'
     ·exact S.all x z y z' hne
     ·rw[jw.mp z',Sg];exact g x z
    ·rw[jw.mp z]at hne⊢;rcases oE.mp hy with z'|z'
     ·exact g y z'
     ·exact absurd (jw.mp z').symm hne
theorem j4:∀k:Nat,(cD ts w k).Nodup
 |0=>by show([[]]:List ζ).Nodup;simp
 |k+1=>by
  show(cD ts w k++((cD ts w k).filter λs=>xL ts w s (k:Int)).map λs=>s++[(k:Int)]).Nodup;refine List.nodup_append.mpr ⟨j4 k,sI ((j4 k).filter _) (λa _ b _ e=>Pm e),λa ha b hb e=>?_⟩;obtain⟨t,_,rfl⟩:=jP.mp hb;have:=(pA k a ha).lt (k:Int) (by rw[e];simp);omega
theorem Cg:∀k:Nat,(cD ts w k).length<=2^k
 |0=>aP _
 |k+1=>by
  show(cD ts w k++((cD ts w k).filter λs=>xL ts w s (k:Int)).map λs=>s++[(k:Int)]).length<=2^(k+1);rw[lN,aD,IU];have a:=Cg (ts:=ts) (w:=w) k;have b:=vf (λs=>xL ts w s (k:Int)) (cD ts w k);omega
theorem JX(h:s∈mQ ts w n):B5 (λi j=> !(aQ ts i j==w)) (rng n) s:=by
 obtain⟨h1,h2⟩:=iU.mp h;have S:=pA n s h1;refine⟨S.up,λx hx=>jh.mpr (S.lt x hx),λx hx y hy hne=>by rw[S.all x hx y hy hne];rfl,λv hv hn=>?_⟩;unfold qU at h2;apply E4;intro hc;have h3:((rng n).any λp=> !decide (p∈s)&&xL ts w s p)=false:=by simpa using h2
 rw[Xl]at h3;apply h3 v hv;rw[gY hn];show xL ts w s v=true;unfold xL;rw[lM];intro q hq;cases e:(aQ ts v q==w)with
 |true=>rfl
 |false=>exact absurd ⟨q,hq,by show(!(aQ ts q v==w))=true;rw[Sg,e];rfl⟩ hc
theorem yD(hn:n<=10):(mQ ts w n).length<=36:=by
 have h:=HD (r:=λi j=> !(aQ ts i j==w)) (λi j=>by rw[Sg]) n (rng n) (by unfold rng;simp) hn (mQ ts w n) ((j4 n).filter _) (λs hs=>JX hs);have:=Ar n 10 hn (aP _);exact dH h this
noncomputable def lB(ts:L0)(w:Bool)(n:Nat)(s:ζ):ζ:=(rng n).filter λp=>s.all λq=> !decide (p=q)&&(aQ ts q p==w)
noncomputable def qW(ts:L0)(w:Bool)(n:Nat)(q:Int):ζ:=(rng n).filter λp=> !decide (p=q)&&(aQ ts q p==w)
theorem QB(ts)(w)(n):lB ts w n []=rng n:=by unfold lB;exact Wb.mpr λ_ _=>rfl
theorem LC(ts)(w)(n)(s)(k):lB ts w n (s++[k])=(lB ts w n s).filter λp=>decide (p∈qW ts w n k):=by
 unfold lB;rw[List.filter_filter];refine List.filter_congr λp hp=>?_;rw[List.all_append,Bool.and_comm];congr 1;unfold qW;rw[Fx,KC,iU];simp[hp]
theorem Vi(hs:m7 ts w k s)(hk:k<n):decide ((k:Int)∈lB ts w n s)=xL ts w s (k:Int):=by
 unfold lB xL;rw[Fx,KC,iU,lM,lM];constructor
 ·rintro⟨_,h⟩ q hq;have:=h q hq;rw[vo]at this;rw[Sg];exact this.2
 ·intro h;refine⟨jh.mpr ⟨by omega,by omega⟩,λq hq=>?_⟩;have:=(hs.lt q hq).2;rw[vo];refine⟨?_,by rw[Sg];exact h q hq⟩;rw[gY (by omega)];rfl
theorem LK(ts)(w)(n)(s):decide (lB ts w n s=[])=qU ts w n s:=by
 unfold lB qU;rw[Fx,KC,List.filter_eq_nil_iff,KF,Xl];constructor
 ·intro h p hp hc;rw[vo]at hc;apply h p hp;rw[lM];intro q hq;have h1:p∉s:=by simpa using hc.1
  have h2:=lM.mp hc.2 q hq;rw[vo];refine⟨?_,by rw[Sg];exact h2⟩;have ne:¬p=q:=λe=>h1 (by rw[e];exact hq);rw[gY ne];rfl
 ·intro h p hp hc;apply h p hp;rw[lM]at hc;rw[vo];refine⟨?_,?_⟩
  ·have:p∉s:=λz=>by
    have:=hc p z;simp at this
   rw[gY this];rfl
  ·unfold xL;rw[lM];intro q hq;have:=hc q hq;rw[vo]at this;rw[Sg];exact this.2
theorem tZ:∀{xs ys:ζ},xs.Pairwise (· < ·)->ys.Pairwise (· < ·)->(∀k,k∈xs↔k∈ys)->xs=ys
 |[],[],_,_,_=>rfl
 |[],y::ys,_,_,h=>by have:=(h y).mpr (by simp);simp at this
 |x::xs,[],_,_,h=>by have:=(h x).mp (by simp);simp at this
 |x::xs,y::ys,hx,hy,h=>by
  rw[EO]at hx hy;have e:x=y:=by
   have a:=(h x).mp (by simp);have b:=(h y).mpr (by simp);rcases cZ.mp a with a|a
   ·exact a
   ·rcases cZ.mp b with b|b
    ·exact b.symm
    ·have:=hy.1 x a;have:=hx.1 y b;omega
  subst e;rw[tZ hx.2 hy.2 λk=>?_];constructor
  ·intro hk;rcases cZ.mp ((h k).mp (fB _ hk))with a|a
   ·have:=hx.1 k hk;omega
   ·exact a
  ·intro hk;rcases cZ.mp ((h k).mpr (fB _ hk))with a|a
   ·have:=hy.1 k hk;omega
   ·exact a
theorem qF:∀(k:Nat) (s:ζ),m7 ts w k s->s∈cD ts w k
 |0,s,h=>by
  cases s with
  |nil=>show([]:ζ)∈[[]];simp
  |cons x s=>have:=h.lt x (by simp);omega
 |k+1,s,h=>by
  show s∈cD ts w k++((cD ts w k).filter λs=>xL ts w s (k:Int)).map λs=>s++[(k:Int)];by_cases c:(k:Int)∈s
  ·have hm:∀x,x∈s.filter (λx=> !decide (x=(k:Int)))↔x∈s/\x≠(k:Int):=λx=>by rw[iU];simp
   refine lR _ (jP.mpr ⟨s.filter (λx=> !decide (x=(k:Int))),iU.mpr ⟨qF k _ ⟨h.up.filter _,λx hx=>?_,λx hx y hy hne=>?_⟩,?_⟩,?_⟩)
   ·have a:=(hm x).mp hx;have b:=h.lt x a.1;have:=a.2;omega
   ·exact h.all x ((hm x).mp hx).1 y ((hm y).mp hy).1 hne
   ·unfold xL;rw[lM];intro q hq;have a:=(hm q).mp hq;exact h.all _ c q a.1 (λe=>a.2 e.symm)
   ·refine tZ ?_ h.up λx=>?_
    ·rw[FC];refine⟨h.up.filter _,FH _ _,λx hx y hy=>?_⟩;rw[jw.mp hy];have a:=(hm x).mp hx;have b:=h.lt x a.1;have:=a.2;omega
    ·rw[oE,hm,jw];constructor
     ·rintro(a|a)
      ·exact a.1
      ·rw[a];exact c
     ·intro a;by_cases e:x=(k:Int)
      ·exact .inr e
      ·exact .inl ⟨a,e⟩
  ·refine SN _ (qF k s ⟨h.up,λx hx=>?_,h.all⟩);have b:=h.lt x hx;have:x≠(k:Int):=λe=>c (by rw[<-e];exact hx);omega
theorem m7.of(F:B5 (λi j=> !(aQ ts i j==w)) (rng n) s):m7 ts w n s:=
 ⟨F.up,λx hx=>jh.mp (F.sub x hx),λx hx y hy hne=>by
  have:=F.ind x hx y hy hne
  try dsimp only at this
  cases e:(aQ ts x y==w)with
  |true=>rfl
  |false=>rw[e]at this;cases this⟩
theorem Vy(F:B5 (λi j=> !(aQ ts i j==w)) (rng n) s):s∈mQ ts w n:=by
 refine iU.mpr ⟨qF n s (m7.of F),?_⟩;unfold qU;rw[KF,Xl];intro p hp hc;rw[vo]at hc;have hn:p∉s:=by simpa using hc.1
 obtain⟨x,hx,hr⟩:=F.max p hp hn;have:=lM.mp hc.2 x hx
 try dsimp only at hr this
 rw[Sg,this]at hr;cases hr
theorem JK{α:Type}(g:α->Nat):∀V:List α,V≠[]->∃v∈V,∀u∈V,g u<=g v
 |[],h=>absurd rfl h
 |[x],_=>⟨x,by simp,λu hu=>by rw[jw.mp hu];exact aP _⟩
 |x::y::V,_=>by
  obtain⟨v,hv,hm⟩:=JK g (y::V) (by simp);by_cases c:g v<=g x
  ·refine⟨x,by simp,λu hu=>?_⟩;rcases cZ.mp hu with e|e
   ·rw[e];exact aP _
   ·exact dH (hm u e) c
  ·refine⟨v,fB _ hv,λu hu=>?_⟩;rcases cZ.mp hu with e|e
   ·rw[e];omega
   ·exact hm u e
theorem wF(hs:m7 ts w n s):∃t∈mQ ts w n,∀x∈s,x∈t:=by
 let C:=(cD ts w n).filter λt=>s.all λx=>decide (x∈t);have mC:∀t,t∈C↔t∈cD ts w n/\∀x∈s,x∈t:=λt=>by
  show t∈(cD ts w n).filter _↔_;rw[iU,lM];simp
 have hne:C≠[]:=λe=>by
  have:s∈C:=(mC s).mpr ⟨qF n s hs,λx hx=>hx⟩;rw[e]at this;cases this
 obtain⟨t,ht,hm⟩:=JK df C hne;obtain⟨h1,h2⟩:=(mC t).mp ht;have T:=pA n t h1;refine⟨t,Vy ⟨T.up,λx hx=>jh.mpr (T.lt x hx),λx hx y hy hne=>?_,λv hv hn=>?_⟩,h2⟩
 ·show(!(aQ ts x y==w))=false;rw[T.all x hx y hy hne];rfl
 ·apply E4;intro hc;have go:∀x∈t,(aQ ts x v==w)=true:=λx hx=>by
   cases e:(aQ ts x v==w)with
   |true=>rfl
   |false=>exact absurd ⟨x,hx,by show(!(aQ ts x v==w))=true;rw[e];rfl⟩ hc
  have mU:∀x,x∈(rng n).filter (λx=>decide (x∈t)||decide (x=v))↔x∈t\/x=v:=λx=>by
   rw[iU,Wo,KC,KC];constructor
   ·exactλz=>z.2
   ·rintro(z|z)
    ·exact⟨jh.mpr (T.lt x z),.inl z⟩
    ·exact⟨by rw[z];exact hv,.inr z⟩
  have up:((rng n).filter (λx=>decide (x∈t)||decide (x=v))).Pairwise (· < ·):=by
   refine iL _ ?_;unfold rng;rw[Tp];exact Wd.imp λ{a b} h=>by omega
  have U:m7 ts w n ((rng n).filter (λx=>decide (x∈t)||decide (x=v))):=⟨up,λx hx=>jh.mp (iU.mp hx).1,λx hx y hy hne=>by
   rcases(mU x).mp hx with a|a
   ·rcases(mU y).mp hy with b|b
    ·exact T.all x a y b hne
    ·rw[b];exact go x a
   ·rcases(mU y).mp hy with b|b
    ·rw[a,Sg];exact go y b
    ·exact absurd (a.trans b.symm) hne⟩
  have tF:=(mC _).mpr ⟨qF n _ U,λx hx=>(mU x).mpr (.inl (h2 x hx))⟩;have l1:=hm _ tF;have l2:=jF (l:=v::t) (m:=(rng n).filter (λx=>decide (x∈t)||decide (x=v))) (Kr.mpr ⟨hn,T.up.imp λ{a b} h=>by omega⟩) (λx hx=>by
   rcases cZ.mp hx with z|z
   ·exact(mU x).mpr (.inr z)
   ·exact(mU x).mpr (.inl z))
  rw[uL]at l2;omega
end Hs
namespace Hs
open PySem L2 lQ
section
variable{P:υ}{w:ψ}{K:af}{mg:D0}{base:bn}
theorem EA(a b):decide (V.bl a=V.bl b)=(a==b):=by cases a<;>cases b<;>rfl
theorem CH(a b):decide (V.int a=V.int b)=decide (a=b):=by
 by_cases e:a=b
 ·subst e;simp
 ·rw[gY e,gY (by intro z;injection z with z;exact e z)]
theorem Vg:(!decide (V.int a=V.int b))= !decide (a=b):=by rw[CH]
theorem Nk(xs:ζ)(k):((xs.map aC).any λd=>aE d (.int k))=decide (k∈xs):=by
 induction xs with
 |nil=>simp
 |cons x xs ih=>
  rw[yR,V8,ih];have e:aE (.int x) (.int k)=decide (k=x):=by
   show(x==k)=_;rw[Fx];simp;exact⟨λh=>h.symm,λh=>h.symm⟩
  rw[e,Fx];simp
theorem EG{α:Type}{p:α->Bool}{l:List α}(hi:i<l.length):(l.take (i+1)).filter p=(l.take i).filter p++(if p l[i]=true then[l[i]]else[]):=by
 rw[rF,cU hi,Fe];congr 1;show[l[i]].filter p=_;rw[Ks];rfl
theorem Ph(k):rng (k+1)=rng k++[(k:Int)]:=by unfold rng;rw[xq,bR];rfl
theorem N5(n):dh n=(rng n).map V.int:=by unfold dh rng;rw[Kq];rfl
inductive vG(K:af)(vs:List V)(H:Hp)(Q:VK)(E_:XK):Prop
 |mk(l m:ag)(xs ys:ζ)(_:vs=[.ref l,.ref m])(_:ja K H l (xs.map V.int))(_:ja K H m (ys.map V.int))(_:∀r H',Same H H'->H' r=some (.lst ((xs.filter λp=>decide (p∈ys)).map V.int))->H r=none->Q (.ref r) H')
theorem Lp{f:ag}{fd:χ}
  (F:pV K "in_both" "in_both" rR f fd):
  gx P w K mg base kG 1 f fd ["ones","others"] (vG K):=by
 refine F.dD ["ones","others"] λH Q hr h=>?_;obtain⟨l,m,xs,ys,rfl,hL,hM,q⟩:=h;refine⟨_,(aY (bK (pK ["place"] ["others"] [1] (ur (pv 0)) (pG 0) (Fb (gU (kI K hr.units) (pv 0) (pv 1) (by with_unfolding_all rfl))) (pv 0)))),?_⟩;refine⟨_,rfl,l,_,rfl,hL,λhz=>?_⟩;refine w6 (xs:=xs.map V.int) (λk acc σ H'=>acc=((xs.take k).filter λp=>decide (p∈ys)).map V.int/\Same H H'/\∃o,σ=[o,some (.ref m)]) ⟨rfl,Same.refl _,_,rfl⟩ (λk acc σ H' _ p=>p.2.1.seq hL) (λk acc σ H' hk p=>?_) hz (λk x acc σ H' hx p=>?_) (λacc σ H' p=>?_)
 ·rw[p.1,aD];exact dH (vf _ _) (by rw[nR];exact u9 _ _)
 ·obtain⟨rfl,sm,o,rfl⟩:=p;rw[dI]at hx;cases ex:xs[k]? with
  |none=>rw[ex]at hx;cases hx
  |some y=>
   rw[ex]at hx;cases hx;obtain⟨hk,ey⟩:=oG.mp ex;have e:=EG (p:=λp=>decide (p∈ys)) hk;rw[ey]at e;refine⟨_,rfl,_,rfl,m,_,_,.int y,rfl,.inl (sm.seq hM),cY.ints ys,.int _,Fd ys,rfl,(by show 0<=60;decide),_,rfl,?_⟩;rw[Nk];refine nE (λc=>?_) (λc=>?_)
   ·exact⟨_,rfl,by rw[e,au c,bR];rfl,sm,_,rfl⟩
   ·exact⟨by rw[e,aq c,xr],sm,_,rfl⟩
 ·intro p1 hp1;obtain⟨rfl,sm,_⟩:=p;rw[aD,rE];exact q p1 _ (sm.trans (aR hp1 _)) aK (sm.free hp1)
inductive zB(K:af)(vs:List V)(H:Hp)(Q:VK)(E_:XK):Prop
 |mk(a:ag)(n i:Int)(ts:L0)(w:Bool)(_:vs=[.ref a,.int i,.bl w])(_:aZ K H a n ts)(_:∀r H',Same H H'->H' r=some (.lst ((qW ts w n.toNat i).map V.int))->H r=none->Q (.ref r) H')
theorem Qi{f:ag}{fd:χ}
  (F:pV K "places_by_tie" "places_by_tie" gk f fd)(D1:Dp P w K mg base 1 "has_tie" gP ["web","one","other"] (yd K))(aF:mg "range"=none):
  gx P w K mg base kG 2 f fd ["web","place","tied"] (zB K):=by
 refine F.dD ["web","place","tied"] λH Q hr h=>?_;obtain⟨a,n,i,ts,w,rfl,hA,q⟩:=h;refine⟨_,(aY (bK (pK ["other"] ["place","web","tied"] [1,0,2] (Kp rfl aF (aj (bw cH (pv 0) aL) ak)) (pG 0) (Fb (PW.pt (yy (gU sq (pv 0) (pv 1)) (xc (gU xC (pd D1 hr (aj (pv 2) (aj (pv 1) (aj (pv 0) ak)))) (pv 3)))))) (pv 0)))),?_⟩;have h0:=hA.h0;have h10:=hA.h1;obtain⟨ta,ra,a1,a2,a3⟩:=id hA.web;refine⟨_,rfl,a,_,_,.int n,rfl,rfl,a1,rfl,n,rfl,by omega,by omega,?_⟩;refine Nm (n:=n.toNat) (λk acc σ H'=>acc=((rng k).filter λp=> !decide (p=i)&&(aQ ts i p==w)).map V.int/\Same H H'/\∃o,σ=[o,some (.int i),some (.ref a),some (.bl w)]) ⟨rfl,Same.refl _,_,rfl⟩ (λk acc σ H' hk p=>?_) (by rw[gF];omega) (λk acc σ H' hk p=>?_) (λacc σ H' p=>?_)
 ·rw[p.1,aD];exact dH (vf _ _) (by unfold rng;simp)
 ·obtain⟨rfl,sm,o,rfl⟩:=p;have ek:(0+(k:Int))=(k:Int):=by omega
  rw[ek];have e:∀b,b=(!decide ((k:Int)=i)&&(aQ ts i (k:Int)==w))->((rng (k+1)).filter λp=> !decide (p=i)&&(aQ ts i p==w))=((rng k).filter λp=> !decide (p=i)&&(aQ ts i p==w))++(if b=true then[(k:Int)]else[]):=λb hb=>by
   rw[Ph,Fe,Ks,hb];rfl
  refine⟨_,rfl,_,rfl,rfl,_,rfl,?_⟩;rw[Vg];refine nE (λc=>?_) (λc=>?_)
  ·refine⟨_,rfl,_,rfl,_,rfl,a,n,_,_,ts,rfl,(hA.same sm).web,λH5 s5=>⟨_,rfl,rfl,_,rfl,?_⟩⟩;rw[EA,zw hA.pk];refine nE (λc2=>?_) (λc2=>?_)
   ·exact⟨_,rfl,by rw[e true (by rw[c,c2];rfl),bR];rfl,sm.trans s5,_,rfl⟩
   ·exact⟨by rw[e false (by rw[c,Bool.eq_false_iff.mpr c2];rfl)];simp,sm.trans s5,_,rfl⟩
  ·exact⟨by rw[e false (by rw[Bool.eq_false_iff.mpr c];rfl)];simp,sm,_,rfl⟩
 ·intro p1 hp1;obtain⟨rfl,sm,_⟩:=p;exact q p1 _ (sm.trans (aR hp1 _)) aK (sm.free hp1)
noncomputable def RN(K:af)(H:Hp)(r:ag)(ss:List ζ):Prop:=∃ae:List (ag×ζ),H r=some (.lst (ae.map λp=>V.ref p.1))/\(∀p∈ae,SqT K H p.1 (p.2.map V.int))/\ae.map (λp=>p.2)=ss
noncomputable def bH(ss:List ζ)(ts:L0)(w:Bool)(n:Nat):Prop:=ss.Perm (mQ ts w n)/\ss.Pairwise λa b=>HT.lexLt b a=false
theorem Vx{w:Bool}(h2:2<=(mQ ts w n).length):∀s∈mQ ts w n,s≠[]:=by
 intro s hs e;subst e;have F:=JX hs;cases n with
 |zero=>
  have:(mQ ts w 0).length<=1:=by
   show(([[]]:List ζ).filter (qU ts w 0)).length<=1;exact vf _ _
  omega
 |succ n=>
  obtain⟨x,hx,_⟩:=F.max 0 (jh.mpr ⟨by omega,by omega⟩) (by simp);cases hx
structure IA(K:af)(H:Hp)(ts:L0)(w:Bool)(n:Nat)(q:ag×ag×ag×ζ):Prop where
 pr:SqT K H q.1 [.ref q.2.1,.ref q.2.2.1]
 so:SqT K H q.2.1 (q.2.2.2.map V.int)
 le:H q.2.2.1=some (.lst ((lB ts w n q.2.2.2).map V.int))
theorem IA.same{w:Bool}(h:IA K H ts w n q)(e:Same H H'):IA K H' ts w n q:=⟨e.tup h.pr,e.tup h.so,e _ _ h.le⟩
noncomputable def RV(K:af)(H:Hp)(fd:ag)(ts:L0)(w:Bool)(n:Nat)(ss:List ζ):Prop:=∃ae:List (ag×ag×ag×ζ),H fd=some (.lst (ae.map λq=>V.ref q.1))/\(∀q∈ae,IA K H ts w n q)/\ae.map (λq=>q.2.2.2)=ss
inductive o8(K:af)(vs:List V)(H:Hp)(Q:VK)(E_:XK):Prop
 |mk(fl:ag)(fas:η)(ts:L0)(w:Bool)(n:Nat)(_:vs=[.ref fl])(_:H fl=some (.lst (fas.map V.ref)))(_:fas.length=n)(_:n<=10)(_:∀(i:Nat) f,fas[i]? =some f->H f=some (.lst ((qW ts w n (i:Int)).map V.int)))(_:∀r ss H',Same H H'->RN K H' r ss->bH ss ts w n->H r=none->Q (.ref r) H')
theorem CP{f:ag}{fd:χ}
  (F:pV K "full_sets" "full_sets" mH f fd)(D1:Dp P w K mg base 1 "in_both" rR ["ones","others"] (vG K))(gD:mg "list"=none)(aF:mg "range"=none)(bU:mg "len"=none)(v7:mg "sorted"=none):
  gx P w K mg base kG 2 f fd ["friends"] (o8 K):=by
 refine F.M7 ["friends","found","place","wider"] λcdv A outer s H vs Q E hr h=>?_;obtain⟨fl,fas,ts,w,n,rfl,hF,hn,h10,hfr,q⟩:=h;refine eX ?_;intro Y;refine⟨_,(aN (pS 1 (rd (aj (ou (aj (ou ak) (aj (ud rfl rfl gD rfl aF (aj (pB wZ bU (aj (pv 0) ak)) ak)) ak))) ak))) (aN (rS Fw rfl (Kp rfl aF (aj (pB wZ bU (aj (pv 0) ak)) ak)) (pG 2) (aN (pX 3 ["some","left"] ["place","friends"] [2,0] (ur (pv 1)) (Kl K (n:=2) rfl (jz (pG 0) (jz (pG 1) yO))) (Fb (gU (kI K hr.units) (pv 2) (pv 1) (by with_unfolding_all rfl))) (ou (aj (dF (Cz K) (pv 0) (ou (aj (pv 2) ak))) (aj (pd D1 hr (aj (pv 1) (aj (bw (eV K) (pv 3) (pv 2)) ak))) ak)))) (aY (pS 1 (dF sT (pv 1) (pv 3)))))) (aY (bK (pB Bc v7 (aj (pK ["some","left"] [] [] (ur (pv 1)) (Kl K (n:=2) rfl (jz (pG 0) (jz (pG 1) yO))) (Fb (jy (K9 K (pv 1) (λ_=>rfl)))) (pv 0)) ak)))))),?_⟩;refine Dw ?_;intro c3 c2;have el:((fas.map V.ref).length:Int)=(n:Int):=by rw[aD,hn]
 refine⟨rV,λe1 he1=>?_⟩;have s1:=aR he1 (.tup []);have t1:SqT K (upd H e1 (.tup [])) e1 []:=SqT.of aK;generalize (upd H e1 (.tup []))=H1 at *;refine⟨_,rfl,fl,_,rfl,.inl (ja.of (s1 _ _ hF)),λ_=>⟨_,rfl,by omega,by rw[el];omega,λrl hrl=>?_⟩⟩;have er:dh ((fas.map V.ref).length:Int).toNat=(rng n).map V.int:=by rw[el,SM,N5]
 rw[er];have s2:=aR hrl (.lst ((rng n).map V.int));have t2:(upd H1 rl (.lst ((rng n).map V.int))) rl=some (.lst ((rng n).map V.int)):=aK;generalize (upd H1 rl (.lst ((rng n).map V.int)))=H2 at *;refine⟨rV,λe3 he3=>?_⟩;have s3:=aR he3 (.tup [.ref e1,.ref rl]);have t3:SqT K (upd H2 e3 (.tup [.ref e1,.ref rl])) e3 [.ref e1,.ref rl]:=SqT.of aK;generalize (upd H2 e3 (.tup [.ref e1,.ref rl]))=H3 at *;refine⟨rV,λfd hfd=>?_⟩;have s4:=aR hfd (.lst [.ref e3]);have F4:RV K (upd H3 fd (.lst [.ref e3])) fd ts w n (cD ts w 0):=by
  refine⟨[(e3,e1,rl,[])],aK,λq hq=>?_,rfl⟩;rw[jw.mp hq];exact⟨s4.tup t3,s4.tup (s3.tup (s2.tup t1)),by rw[QB];exact s4 _ _ (s3 _ _ t2)⟩
 have s04:=s1.trans (s2.trans (s3.trans s4));generalize (upd H3 fd (.lst [.ref e3]))=H4 at *;refine⟨_,rfl,fl,_,rfl,.inl (ja.of (s04 _ _ hF)),λ_=>⟨_,rfl,by omega,by rw[el];omega,?_⟩⟩;have en:((fas.map V.ref).length:Int).toNat=n:=by rw[el,SM]
 rw[en];let xV:Nat->St->Hp->Prop:=λk σ H'=>Same H H'/\∃fd b2 b3,RV K H' fd ts w n (cD ts w k)/\σ=[some (.ref fl),some (.ref fd),b2,b3];refine sf (n:=n) xV ⟨s04,fd,_,_,F4,rfl⟩ (λk σ H' hk p=>?_) (λσ H' p=>?_)
 ·obtain⟨s5,fd,b2,b3,F5,rfl⟩:=p;have ek:(0+(k:Int))=(k:Int):=by omega
  rw[ek];obtain⟨ae,f1,f2,f3⟩:=F5;have ac:ae.length<=1024:=by
   have a:=Cg (ts:=ts) (w:=w) k;rw[<-f3,aD]at a;have b:2^k<=2^10:=Xp (by decide) (by omega);have c:2^10=1024:=by decide
   omega
  have hkf:k<fas.length:=by omega
  have hfk:(fas.map V.ref)[k]? =some (.ref fas[k]):=by rw[dI,cU hkf];rfl
  have hgk:=hfr k fas[k] (cU hkf);refine⟨_,rfl,fd,_,rfl,ja.of f1,λhzf=>?_⟩;let Mu:Nat->List V->St->Hp->Prop:=λi acc σ yL=>(∃its2:List (ag×ag×ag×ζ),acc=its2.map (λq=>V.ref q.1)/\(∀q∈its2,IA K yL ts w n q)/\its2.map (λq=>q.2.2.2)=(((cD ts w k).take i).filter λs=>xL ts w s (k:Int)).map λs=>s++[(k:Int)])/\Same H' yL/\∃o1 o2,σ=[o1,o2,some (.int (k:Int)),some (.ref fl)];refine w6 (xs:=ae.map λq=>V.ref q.1) Mu ⟨⟨[],rfl,λq hq=>(nomatch hq),rfl⟩,Same.refl _,_,_,rfl⟩ (λi acc σ yL _ p=>p.2.1.seq (ja.of f1)) (λi acc σ yL hi p=>?_) hzf (λi x acc σ yL hx p=>?_) (λacc σ yL p=>?_)
  ·obtain⟨⟨its2,rfl,g2,g3⟩,_⟩:=p;have a:=jQ df g3;rw[aD,aD]at a;rw[aD,a];exact dH (vf _ _) (by rw[nR];exact u9 _ _)
  ·obtain⟨⟨its2,rfl,g2,g3⟩,sm,o1,o2,rfl⟩:=p;rw[dI]at hx;cases ex:ae[i]? with
   |none=>rw[ex]at hx;cases hx
   |some v=>
    rw[ex]at hx;cases hx;have fv:=(f2 v (oF ex)).same sm;have hsv:(cD ts w k)[i]? =some v.2.2.2:=by rw[<-f3,dI,ex];rfl
    obtain⟨hi,esv⟩:=oG.mp hsv;have Sv:=pA k v.2.2.2 (oF hsv);have e:=EG (p:=λs=>xL ts w s (k:Int)) hi;rw[esv]at e;refine⟨v.1,_,rfl,fv.pr,rfl,_,_,rfl,_,_,rfl,rfl,?_⟩;refine⟨_,rfl,_,rfl,v.2.2.1,_,_,.int (k:Int),rfl,.inl (ja.of fv.le),cY.ints _,.int _,Fd _,rfl,(by show 0<=60;decide),_,rfl,?_⟩;rw[Nk,Vi Sv hk];refine nE (λc=>?_) (λc=>?_)
    ·refine⟨_,rfl,_,rfl,rV,λe5 he5=>?_⟩;have s6:=aR he5 (.tup [.int (k:Int)]);have t6:SqT K (upd yL e5 (.tup [.int (k:Int)])) e5 [.int (k:Int)]:=SqT.of aK;generalize (upd yL e5 (.tup [.int (k:Int)]))=H6 at *;have hvl:v.2.2.2.length<=10:=by
      have a:=jF (l:=v.2.2.2) (m:=rng n) (Sv.up.imp λ{x y} h=>by omega) (λx hx=>jh.mpr (by have:=Sv.lt x hx;omega));have b:(rng n).length=n:=by unfold rng;simp
      omega
     refine⟨v.2.1,e5,_,_,rfl,rfl,s6.tup fv.so,t6,(by rw[aD,gF];show v.2.2.2.length+1<=_;omega),λr7 H7 s7 h7=>?_⟩;have Wy:=s6.trans s7;refine⟨_,rfl,_,rfl,_,rfl,fl,_,_,.ref fas[k],rfl,rfl,ja.of ((s5.trans (sm.trans Wy)) _ _ hF),rj hfk,v.2.2.1,fas[k],_,_,rfl,ja.of (Wy _ _ fv.le),ja.of ((s5.trans (sm.trans Wy)) _ _ hgk),λr8 H8 s8 h8 n8=>?_⟩;refine⟨rV,λe9 he9=>?_⟩;have s9:=aR he9 (.tup [.ref r7,.ref r8]);have s69:=Wy.trans (s8.trans s9);refine⟨⟨its2++[(e9,r7,r8,v.2.2.2++[(k:Int)])],by rw[bR];rfl,λq hq=>?_,by rw[bR,g3,e,au c,bR];rfl⟩,sm.trans s69,_,_,rfl⟩;rcases oE.mp hq with z|z
     ·exact(g2 q z).same s69
     ·rw[jw.mp z];refine⟨SqT.of aK,s9.tup (s8.tup ?_),by rw[LC];exact s9 _ _ h8⟩;rw[bR];exact h7
    ·exact⟨⟨its2,rfl,g2,by rw[g3,e,aq c,xr]⟩,sm,_,_,rfl⟩
  ·intro p1 hp1;obtain⟨⟨its2,rfl,g2,g3⟩,sm,o1,o2,rfl⟩:=p;have hle:(ae.map λq=>V.ref q.1).length=(cD ts w k).length:=by rw[aD,<-f3,aD]
   rw[hle,rE]at g3;have s6:=aR hp1 (.lst (its2.map λq=>V.ref q.1));have l2:its2.length<=1024:=by
    have a:=jQ df g3;rw[aD,aD]at a;have b:=vf (λs=>xL ts w s (k:Int)) (cD ts w k);rw[<-f3,aD]at b;rw[<-f3]at a;omega
   refine⟨_,rfl,_,rfl,fd,p1,_,_,rfl,rfl,(sm.trans s6) _ _ f1,aK,by rw[aD,aD,gF];omega,λp2 hp2=>?_⟩;have s7:=aR hp2 (.lst ((ae.map λq=>V.ref q.1)++(its2.map λq=>V.ref q.1)));refine⟨s5.trans (sm.trans (s6.trans s7)),p2,_,_,⟨ae++its2,by rw[aK,bR],λq hq=>?_,by rw[bR,f3,g3];rfl⟩,rfl⟩;rcases oE.mp hq with z|z
   ·exact(f2 q z).same (sm.trans (s6.trans s7))
   ·exact(g2 q z).same (s6.trans s7)
 ·obtain⟨s5,fd,b2,b3,⟨ae,f1,f2,f3⟩,rfl⟩:=p;refine⟨_,rfl,fd,_,rfl,ja.of f1,λhzf=>?_⟩;let V2:Nat->List V->St->Hp->Prop:=λi acc σ yL=>(∃its2:List (ag×ζ),acc=its2.map (λq=>V.ref q.1)/\(∀q∈its2,SqT K H' q.1 (q.2.map V.int))/\its2.map (λq=>q.2)=((cD ts w n).take i).filter (qU ts w n))/\Same H' yL/\∃o1 o2,σ=[o1,o2];refine w6 (xs:=ae.map λq=>V.ref q.1) V2 ⟨⟨[],rfl,λq hq=>(nomatch hq),rfl⟩,Same.refl _,_,_,rfl⟩ (λi acc σ yL _ p=>p.2.1.seq (ja.of f1)) (λi acc σ yL hi p=>?_) hzf (λi x acc σ yL hx p=>?_) (λacc σ yL p=>?_)
  ·obtain⟨⟨its2,rfl,g2,g3⟩,_⟩:=p;have a:=jQ df g3;rw[aD]at a;rw[aD,a];exact dH (vf _ _) (by rw[nR];exact u9 _ _)
  ·obtain⟨⟨its2,rfl,g2,g3⟩,sm,o1,o2,rfl⟩:=p;rw[dI]at hx;cases ex:ae[i]? with
   |none=>rw[ex]at hx;cases hx
   |some v=>
    rw[ex]at hx;cases hx;have fv:=f2 v (oF ex);have hsv:(cD ts w n)[i]? =some v.2.2.2:=by rw[<-f3,dI,ex];rfl
    obtain⟨hi,esv⟩:=oG.mp hsv;have e:=EG (p:=qU ts w n) hi;rw[esv]at e;refine⟨v.1,_,rfl,sm.tup fv.pr,rfl,_,_,rfl,_,_,rfl,rfl,?_⟩;refine⟨_,rfl,_,.inl ⟨_,ja.of (sm _ _ fv.le),rfl⟩,?_⟩;have eb:(!!((lB ts w n v.2.2.2).map V.int).isEmpty)=qU ts w n v.2.2.2:=by
     rw[Bool.not_not,<-LK];cases lB ts w n v.2.2.2<;>rfl
    dsimp only;rw[eb];refine nE (λc=>?_) (λc=>?_)
    ·refine⟨_,rfl,⟨its2++[(v.2.1,v.2.2.2)],by rw[bR];rfl,λq hq=>?_,by rw[bR,g3,e,au c];rfl⟩,sm,_,_,rfl⟩;rcases oE.mp hq with z|z
     ·exact g2 q z
     ·rw[jw.mp z];exact fv.so
    ·exact⟨⟨its2,rfl,g2,by rw[g3,e,aq c,xr]⟩,sm,_,_,rfl⟩
  ·intro p1 hp1;obtain⟨⟨its2,rfl,g2,g3⟩,sm,_⟩:=p;have hle:(ae.map λq=>V.ref q.1).length=(cD ts w n).length:=by rw[aD,<-f3,aD]
   rw[hle,rE]at g3;have g4:its2.map (λq=>q.2)=mQ ts w n:=g3;have hl2:its2.length=(mQ ts w n).length:=by rw[<-g4,aD]
   have h36:=yD (ts:=ts) (w:=w) h10;have s6:=aR hp1 (.lst (its2.map λq=>V.ref q.1));refine⟨p1,its2,rfl,ja.of aK,λp hp=>⟨(sm.trans s6).tup (g2 p hp),λh2=>?_⟩,by omega,λl its' hl hpm hpw=>?_⟩
   ·exact Vx (ts:=ts) (w:=w) (n:=n) (by omega) p.2 (by rw[<-g4];exact jP.mpr ⟨p,hp,rfl⟩)
   ·have s7:=aR hl (.lst (its'.map λq=>V.ref q.1));have Ye:=s5.trans (sm.trans (s6.trans s7));refine q l (its'.map λq=>q.2) _ Ye ⟨its',aK,λp hp=>(sm.trans (s6.trans s7)).tup (g2 p (hpm.mem_iff.mp hp)),rfl⟩ ⟨?_,?_⟩ ((s5.trans (sm.trans s6)).free hl)
    ·rw[<-g4];exact hpm.map _
    ·rw[Tp];exact hpw
inductive iW(K:af)(vs:List V)(H:Hp)(Q:VK)(E_:XK):Prop
 |mk(a:ag)(n:Int)(ts:L0)(_:vs=[.ref a])(_:aZ K H a n ts)(_:∀r ss H',Same H H'->RN K H' r ss->bH ss ts false n.toNat->H r=none->Q (.ref r) H')
theorem zY{f:ag}{fd:χ}
  (F:pV K "full_apart" "full_apart" gH f fd)(D1:Dp P w K mg base 7 "need_web" yQ ["thing"] (aU K))(D2:Dp P w K mg base 2 "full_sets" mH ["friends"] (o8 K))(D3:Dp P w K mg base 2 "places_by_tie" gk ["web","place","tied"] (zB K))(aF:mg "range"=none):
  gx P w K mg base kG 8 f fd ["web"] (iW K):=by
 refine F.dD ["web"] λH Q hr h=>?_;obtain⟨a,n,ts,rfl,hA,q⟩:=h;refine⟨_,(aN (oR (pd D1 hr (aj (pv 0) ak))) (aY (bK (pd D2 hr (aj (pK ["place"] ["web"] [0] (Kp rfl aF (aj (bw cH (pv 0) aL) ak)) (pG 0) lF (pd D3 hr (aj (pv 1) (aj (pv 0) (aj jl ak))))) ak))))),?_⟩;have h0:=hA.h0;have h10:=hA.h1;refine⟨_,rfl,_,_,rfl,hA.web.dv.dx,hA.ok,λH1 s1=>?_⟩;have M9:=hA.same s1;obtain⟨ta,ra,a1,a2,a3⟩:=id M9.web;refine⟨_,rfl,a,_,_,.int n,rfl,rfl,a1,rfl,n,rfl,by omega,by omega,?_⟩;refine Nm (n:=n.toNat) (λk acc σ H'=>(∃fas:η,acc=fas.map V.ref/\fas.length=k/\∀(i:Nat) f,fas[i]? =some f->H' f=some (.lst ((qW ts false n.toNat (i:Int)).map V.int)))/\Same H1 H'/\∃o,σ=[o,some (.ref a)]) ⟨⟨[],rfl,rfl,λi f h=>by simp at h⟩,Same.refl _,_,rfl⟩ (λk acc σ H' hk p=>?_) (by rw[gF];omega) (λk acc σ H' hk p=>?_) (λacc σ H' p=>?_)
 ·obtain⟨⟨fas,rfl,hl,_⟩,_⟩:=p;rw[aD];omega
 ·obtain⟨⟨fas,rfl,hl,hf⟩,sm,o,rfl⟩:=p;have ek:(0+(k:Int))=(k:Int):=by omega
  rw[ek];refine⟨_,rfl,_,rfl,a,n,_,ts,false,rfl,M9.same sm,λr H5 s5 h5 n5=>⟨⟨fas++[r],by rw[bR];rfl,by rw[lN,hl];rfl,λi f hi=>?_⟩,sm.trans s5,_,rfl⟩⟩;by_cases c:i<fas.length
  ·rw[FI c]at hi;exact s5 _ _ (hf i f hi)
  ·have hb:i<(fas++[r]).length:=(oG.mp hi).1;rw[lN]at hb;have e:i=fas.length:=by have:[r].length=1:=rfl;omega
   rw[e,EQ (aP _),Nat.sub_self]at hi;cases hi;rw[e,hl];exact h5
 ·intro p1 hp1;obtain⟨⟨fas,rfl,hl,hf⟩,sm,_⟩:=p;have s6:=aR hp1 (.lst (fas.map V.ref));exact⟨p1,fas,ts,false,n.toNat,rfl,aK,hl,by omega,λi f hi=>s6 _ _ (hf i f hi),λr ss H7 s7 h7 h8 n7=>q r ss H7 (s1.trans (sm.trans (s6.trans s7))) h7 h8 ((s1.trans (sm.trans s6)).free n7)⟩
end
noncomputable def jD(n:Nat):ζ:=(am n).map λ(t:Nat)=>(t:Int)
theorem nM:x∈jD n↔0<=x/\x<(n:Int):=by
 unfold jD;rw[jP];constructor
 ·rintro⟨t,ht,rfl⟩;have:=nu.mp ht;omega
 ·intro h;exact⟨x.toNat,nu.mpr (by omega),by omega⟩
noncomputable def wo(xs p:ζ):ζ:=xs.filter λo=> !decide (o∈p)
theorem oU(xs p):(wo xs p).Sublist xs:=Xn
theorem Ae:x∈wo xs p↔x∈xs/\x∉p:=by
 unfold wo;rw[iU];simp
theorem Nx(h:x∈p):wo (x::r) p≠x::r:=λe=>by
 have:x∈wo (x::r) p:=by rw[e];exact dZ
 exact(Ae.mp this).2 h
noncomputable abbrev LL:=ζ->Int->Bool
noncomputable def pU(st:LL)(found:List ζ)(x:Int):List ζ:=found++(found.filter λp=>st p x).map λp=>p++[x]
noncomputable def lH(st:LL)(xs:ζ)(k:Nat):List ζ:=((xs.drop 1).take k).foldl (pU st) [xs.take 1]
noncomputable def E6(st:LL)(xs:ζ):List ζ:=(xs.drop 1).foldl (pU st) [xs.take 1]
theorem Ea(st)(xs):lH st xs (xs.drop 1).length=E6 st xs:=by unfold lH E6;rw[rE]
theorem sV(h:(xs.drop 1)[k]? =some y):lH st xs (k+1)=pU st (lH st xs k) y:=by
 unfold lH;rw[rF (l:=xs.drop 1),h,pM];rfl
theorem jG:∀(k:Nat),∀p∈lH st (x::r) k,p.Sublist (x::r.take k)/\x∈p
 |0,p,h=>by
  have h':p∈[[x]]:=h;rw[jw.mp h'];exact⟨by simp,NJ _⟩
 |k+1,p,h=>by
  cases e:r[k]? with
  |none=>
   have e1:lH st (x::r) (k+1)=lH st (x::r) k:=by unfold lH;show((r.take (k+1)).foldl _ _)=((r.take k).foldl _ _);rw[rF (l:=r),e];simp
   rw[e1]at h;obtain⟨h1,h2⟩:=jG k p h;exact⟨h1.trans (by rw[rF,e];simp),h2⟩
  |some y=>
   rw[sV (xs:=x::r) (show((x::r).drop 1)[k]? =some y from e)]at h;have et:x::r.take (k+1)=(x::r.take k)++[y]:=by rw[rF,e];rfl
   rw[et];rcases oE.mp h with z|z
   ·obtain⟨h1,h2⟩:=jG k p z;exact⟨h1.trans (Pl _ _),h2⟩
   ·obtain⟨q,hq,rfl⟩:=jP.mp z;obtain⟨h1,h2⟩:=jG k q (iU.mp hq).1;exact⟨h1.append (Wq _),SN _ h2⟩
theorem mV(h:p∈E6 st (x::r)):p.Sublist (x::r)/\x∈p:=by
 rw[<-Ea]at h;have:=jG _ p h;have e:r.take ((x::r).drop 1).length=r:=rE;rw[e]at this;exact this
noncomputable def dO(ts:L0):LL:=λpart x=> !(part.any λo=>bN ts o x)
noncomputable abbrev rf(ts:L0):ζ->List ζ:=E6 (dO ts)
theorem Ao(h:p∈rf ts xs):p.Pairwise λa b=>bN ts a b=false:=by
 have key:∀(l:ζ) (f:List ζ),(∀p∈f,p.Pairwise λa b=>bN ts a b=false)->∀p∈l.foldl (pU (dO ts)) f,p.Pairwise λa b=>bN ts a b=false:=λl=>by
  induction l with
  |nil=>intro f h;exact h
  |cons a l ih=>
   intro f h;refine ih _ λp hp=>?_;rcases oE.mp hp with z|z
   ·exact h p z
   ·obtain⟨q,hq,rfl⟩:=jP.mp z;obtain⟨h1,h2⟩:=iU.mp hq;rw[FC];refine⟨h q h1,FH _ _,λo ho y hy=>?_⟩;rw[jw.mp hy];unfold dO at h2;rw[KF,Xl]at h2;have:=h2 o ho;simpa using this
 refine key _ _ (λp hp=>?_) p h;rw[jw.mp hp];cases xs with
 |nil=>exact eT
 |cons x r=>exact FH _ _
noncomputable def Qq:ζ->Int
 |[]=>0
 |[a]=>a
 |a::b::l=>if a<=Qq (b::l)then a else Qq (b::l)
theorem Qp:∀{ns:ζ},ns≠[]->Qq ns∈ns/\∀n∈ns,Qq ns<=n
 |[],h=>absurd rfl h
 |[a],_=>⟨NJ _,λn hn=>by rw[jw.mp hn];exact u5 _⟩
 |a::b::l,_=>by
  obtain⟨h1,h2⟩:=Qp (ns:=b::l) (by simp);show(if a<=Qq (b::l)then a else Qq (b::l))∈_/\∀n∈_,(if a<=Qq (b::l)then a else Qq (b::l))<=n;by_cases c:a<=Qq (b::l)
  ·rw[au c];refine⟨dZ,λn hn=>?_⟩;rcases cZ.mp hn with z|z
   ·rw[z];exact u5 _
   ·exact Xg c (h2 n z)
  ·rw[aq c];refine⟨fB _ h1,λn hn=>?_⟩;rcases cZ.mp hn with z|z
   ·rw[z];omega
   ·exact h2 n z
theorem BH(h1:m∈ns)(h2:∀n∈ns,m<=n):m=Qq ns:=by
 have hn:ns≠[]:=λe=>by rw[e]at h1;cases h1
 obtain⟨a,b⟩:=Qp hn;exact JY (h2 _ a) (b _ h1)
noncomputable def uR(g:ζ->Int)(ts:L0)(xs:ζ):Int:=if xs=[]then 0 else 1+Qq ((rf ts xs).map λp=>g (wo xs p))
theorem yt(h:∀ys:ζ,ys.Sublist xs->ys≠xs->g ys=g' ys):uR g ts xs=uR g' ts xs:=by
 unfold uR;cases xs with
 |nil=>rfl
 |cons x r=>
  rw[aq (by simp),aq (by simp)];congr 2;exact Xm λp hp=>h _ (oU _ _) (Nx (mV hp).2)
noncomputable def HJ(ts:L0):Nat->ζ->Int
 |0,_=>0
 |k+1,xs=>uR (HJ ts k) ts xs
theorem wD(ts):∀(k j:Nat) (xs:ζ),xs.length<=k->xs.length<=j->HJ ts k xs=HJ ts j xs
 |0,j,xs,h,_=>by
  have e:xs=[]:=List.length_eq_zero_iff.mp (Nat.le_zero.mp h);subst e;cases j with
  |zero=>rfl
  |succ j=>rfl
 |k+1,0,xs,_,h=>by
  have e:xs=[]:=List.length_eq_zero_iff.mp (Nat.le_zero.mp h);subst e;rfl
 |k+1,j+1,xs,h1,h2=>by
  show uR (HJ ts k) ts xs=uR (HJ ts j) ts xs;refine yt λys hs hn=>?_;have:ys.length<xs.length:=Nt hs.length_le λe=>hn (hs.eq_of_length e);exact wD ts k j ys (by omega) (by omega)
noncomputable def jR(ts:L0)(xs:ζ):Int:=HJ ts xs.length xs
theorem zk(ts)(xs):jR ts xs=uR (jR ts) ts xs:=by
 unfold jR;rw[wD ts xs.length (xs.length+1) xs (aP _) (Bx _)];refine yt (g:=HJ ts xs.length) λys hs hn=>?_;exact wD ts _ _ ys hs.length_le (aP _)
theorem Q9(hx:xs≠[])(hp:p∈rf ts xs)(hb:∀q∈rf ts xs,jR ts (wo xs p)<=jR ts (wo xs q)):jR ts xs=1+jR ts (wo xs p):=by
 rw[zk,uR,aq hx];rw[<-BH (m:=jR ts (wo xs p)) (jP.mpr ⟨p,hp,rfl⟩) λn hn=>?_];obtain⟨q,hq,rfl⟩:=jP.mp hn;exact hb q hq
noncomputable def zL(hs:ζ)(p:ζ)(h:Int):ζ:=p.foldl (λl q=>l.set q.toNat h) hs
theorem vN(h):∀(p hs:ζ),(zL hs p h).length=hs.length
 |[],_=>rfl
 |q::p,hs=>by
  show(zL (hs.set q.toNat h) p h).length=_;rw[vN h p,Kk]
theorem QL{hs:ζ}(hb:b<hs.length):(hs.set a h).getD b 0=if a=b then h else hs.getD b 0:=by
 rw[dY,KB];by_cases e:a=b
 ·subst e;rw[au rfl,au hb,au rfl];rfl
 ·rw[aq e,aq e,dY]
theorem yu(h):∀(p hs:ζ),b<hs.length->(∀q∈p,0<=q)->(zL hs p h).getD b 0=if(b:Int)∈p then h else hs.getD b 0
 |[],hs,_,_=>by rw[aq (by simp)];rfl
 |q::p,hs,hb,hp=>by
  show(zL (hs.set q.toNat h) p h).getD b 0=_;rw[yu h p _ (by rw[Kk];exact hb) λz hz=>hp z (fB _ hz),QL hb];have hq:=hp q dZ;by_cases c:(b:Int)∈p
  ·rw[au c,au (fB _ c)]
  ·rw[aq c];by_cases e:q.toNat=b
   ·rw[au e,au (by rw[show(b:Int)=q by omega];exact dZ)]
   ·rw[aq e,aq λz=>(cZ.mp z).elim (λy=>e (by omega)) c]
structure xW(ts:L0)(n:Nat)(k:Int)(xs:ζ)(h:Int)(hs:ζ):Prop where
 len:hs.length=n
 sub:xs.Sublist (jD n)
 h0:0<=h
 sum:h+jR ts xs=k
 out:∀p:Nat,p<n->(p:Int)∉xs->0<=hs.getD p 0/\hs.getD p 0<h
 all:∀c,0<=c->c<h->∃p:Nat,p<n/\(p:Int)∉xs/\hs.getD p 0=c
 ok:∀a b:Nat,a<n->b<n->(a:Int)∉xs->(b:Int)∉xs->bN ts (a:Int) (b:Int)=true->hs.getD a 0≠hs.getD b 0
theorem xW.start(ts)(n):xW ts n (jR ts (jD n)) (jD n) 0 (ah n 0):=by
 have no:∀p:Nat,p<n->(p:Int)∉jD n->False:=λp hp h=>h (nM.mpr ⟨by omega,by omega⟩);exact⟨Kw,Wq _,u5 _,by omega,λp hp h=>(no p hp h).elim,λc h1 h2=>by omega,λa b ha hb h=>(no a ha h).elim⟩
theorem N7(ts)(a b):bN ts a b=bN ts b a:=by
 unfold bN;rcases Int.lt_trichotomy a b with c|c|c
 ·rw[aq (show¬b<a by omega),au (show b>a by omega),au (show a<b by omega),aq (show¬a>b by omega)]
 ·rw[c]
 ·rw[au (show b<a by omega),aq (show¬b>a by omega),aq (show¬a<b by omega),au (show a>b by omega)]
theorem zT(hp:bJ n ts):∀{p:ζ},(p.Pairwise λa b=>bN ts a b=false)->∀a∈p,∀b∈p,bN ts a b=false
 |_,h,a,ha,b,hb=>by
  by_cases e:a=b
  ·subst e;rw[zw hp];unfold aQ;have:(a,a)∉ts:=λz=>by have:=(hp.lt _ z).2.1;dsimp only at this;omega
   simp[this]
  ·obtain⟨i,hi,rfl⟩:=Bs ha;obtain⟨j,hj,rfl⟩:=Bs hb;have hij:i≠j:=λz=>e (by subst z;rfl);rcases Nat.lt_or_gt_of_ne hij with c|c
   ·exact BK.mp h i j hi hj c
   ·rw[N7];exact BK.mp h j i hj hi c
theorem xW.step(I:xW ts n k xs h hs)(hok:bJ (n:Int) ts)(hx:xs≠[])(hp:p∈rf ts xs)(hb:∀q∈rf ts xs,jR ts (wo xs p)<=jR ts (wo xs q)):xW ts n k (wo xs p) (h+1) (zL hs p h):=by
 obtain⟨x,r,rfl⟩:∃x r,xs=x::r:=by cases xs with |nil=>exact absurd rfl hx|cons x r=>exact⟨x,r,rfl⟩
 obtain⟨ps,px⟩:=mV hp;have pr:∀q∈p,0<=q/\q<(n:Int):=λq hq=>nM.mp (I.sub.subset (ps.subset hq));have p0:∀q∈p,0<=q:=λq hq=>(pr q hq).1;have ap:=zT hok (Ao hp);have gv:∀b:Nat,b<n->(zL hs p h).getD b 0=if(b:Int)∈p then h else hs.getD b 0:=λb hb=>yu h p hs (by rw[I.len];exact hb) p0
 have nx:∀b:Nat,(b:Int)∉wo (x::r) p->(b:Int)∉p->(b:Int)∉x::r:=λb h1 h2 h3=>h1 (Ae.mpr ⟨h3,h2⟩);refine⟨by rw[vN];exact I.len,(oU _ _).trans I.sub,by have:=I.h0;omega,?_,λb hb hn=>?_,λc h1 h2=>?_,λa b ha hb na nb ht=>?_⟩
 ·have:=Q9 hx hp hb;have:=I.sum;omega
 ·rw[gv b hb];by_cases c:(b:Int)∈p
  ·rw[au c];have:=I.h0;omega
  ·rw[aq c];have:=I.out b hb (nx b hn c);omega
 ·by_cases e:c=h
  ·have:=pr x px;refine⟨x.toNat,by omega,λz=>?_,?_⟩
   ·rw[show((x.toNat:Nat):Int)=x by omega]at z;exact(Ae.mp z).2 px
   ·rw[gv _ (by omega),au (by rw[show((x.toNat:Nat):Int)=x by omega];exact px),e]
  ·obtain⟨b,b1,b2,b3⟩:=I.all c h1 (by omega);refine⟨b,b1,λz=>b2 (Ae.mp z).1,?_⟩;rw[gv b b1,aq λz=>b2 (ps.subset z)];exact b3
 ·rw[gv a ha,gv b hb];by_cases ca:(a:Int)∈p
  ·by_cases cb:(b:Int)∈p
   ·rw[ap _ ca _ cb]at ht;cases ht
   ·rw[au ca,aq cb];have:=I.out b hb (nx b nb cb);omega
  ·by_cases cb:(b:Int)∈p
   ·rw[aq ca,au cb];have:=I.out a ha (nx a na ca);omega
   ·rw[aq ca,aq cb];exact I.ok a b ha hb (nx a na ca) (nx b nb cb) ht
section
variable{K:af}
noncomputable abbrev yK(K:af)(H:Hp)(ae:List (ag×ζ)):Prop:=∀p∈ae,SqT K H p.1 (p.2.map V.int)
theorem yK.same(h:yK K H ae)(e:Same H H'):yK K H' ae:=λp hp=>e.tup (h p hp)
theorem Same.over(s:Same H0 H)(n:H0 d=none)(e:aW d H H'):Same H0 H':=λb u h=>e _ _ (λz=>by rw[z,n]at h;cases h) (s _ _ h)
theorem _root_.L2.jK.same(h:jK H T p q)(e:Same H H'):jK H' T p q:=by
 rcases h with h|⟨c,oc,vs,tq,h,h1,h2⟩
 ·exact .inl (e _ _ h)
 ·exact .inr ⟨c,oc,vs,tq,e _ _ h,e _ _ h1,h2⟩
end
end Hs
namespace L2
open PySem PySem.Spec PyProof.Rows
theorem Rx(h:n<=10^200):n<2^700:=Jb h (by decide+kernel)
section
variable{X:Cx}
theorem Cy:sj X (cw .FloorDiv) (rI (λ_ j=>0<j/\j.natAbs<=10^200) λi j=>.int (i/j)):=HG λi j _ _ _ _ _ hc q=>by
 have h1:(0:Int)<j:=hc.1;refine floordiv_int (by omega) ?_ (ii (Pp ?_))
 ·rw[PH _ (by omega)];exact q
 ·have h3:j.natAbs≠0:=by omega
  have h4:=(Nat.log2_lt h3).mpr (Rx hc.2);omega
end
end L2
namespace Hs
open PySem L2 lQ
theorem QM(m n:Nat):az n (m %n)=az m n:=by
 rw[Nat.gcd_comm m n,Nat.gcd_rec n m,Nat.gcd_comm]
structure yi(a:Int)(b:Nat)(u:Int)(v:Nat):Prop where
 pos:0<v
 cop:az u.natAbs v=1
 eq:u*(b:Int)=a*(v:Int)
 lu:u.natAbs<=a.natAbs
 lv:v<=b
 nn:0<=a->0<=u
theorem Qv(a)(b)(hb:0<b):yi a b (a/((az a.natAbs b:Nat):Int)) (b/az a.natAbs b):=by
 have hg:0<az a.natAbs b:=Pf _ hb;obtain⟨x,hx⟩:((az a.natAbs b:Nat):Int)∣a:=Int.natAbs_dvd_natAbs.mp (by rw[FA];exact MU _ _);obtain⟨y,hy⟩:=EN a.natAbs b;generalize hgg:az a.natAbs b=g at *;have e1:a/(g:Int)=x:=by rw[hx];exact NM _ (by omega)
 have e2:b/g=y:=by rw[hy];exact Kz _ hg
 rw[e1,e2];have hna:a.natAbs=g*x.natAbs:=by rw[hx,Fs];rfl
 have hy0:0<y:=by
  rcases Nd y with h|h
  ·subst h;simp at hy;omega
  ·exact h
 refine⟨hy0,?_,?_,?_,?_,λh=>?_⟩
 ·have h2:az (g*x.natAbs) (g*y)=g:=by rw[<-hna,<-hy];exact hgg
  rw[Nat.gcd_mul_left]at h2;have h3:g*az x.natAbs y=g*1:=by omega
  exact Nat.eq_of_mul_eq_mul_left hg h3
 ·rw[hx];have:(b:Int)=(g:Int)*(y:Int):=by rw[hy];exact MQ _ _
  rw[this,Bo (g:Int) x,Xi]
 ·rw[hna];exact OT _ hg
 ·rw[hy];exact OT _ hg
 ·rw[<-e1];exact Int.ediv_nonneg h (by omega)
theorem EC(i):(if i<0 then -i else i)=((i.natAbs:Nat):Int):=by split<;>omega
theorem Zu(a:Int)(b:Nat)(hb:0<b):az a.natAbs b<=b:=FU hb (EN _ _)
section
variable{P:υ}{w:ψ}{K:af}{mg:D0}{base:bn}
inductive T3(K:af)(vs:List V)(H:Hp)(Q:VK)(E_:XK):Prop
 |mk(m n:Nat)(_:vs=[.int m,.int n])(_:Q (.int ((az m n:Nat):Int)) H)
theorem RY{f:ag}{fd:χ}
  (F:pV K "greatest_divisor" "greatest_divisor" IG f fd):gx P w K mg base kG 1 f fd ["one","other"] (T3 K):=by
 refine F.dD ["one","other","rest"] λH Q hr h=>?_;obtain⟨m,n,rfl,q⟩:=h;refine⟨_,aN (vw Fw (sR (pv 1) (λ_=>rfl)) (aN (pS 2 (dF xh (pv 0) (pv 1))) (aN (pS 0 (pv 1)) (aY (pS 1 (pv 2)))))) (aY (bK (pv 0))),?_⟩;refine⟨λk σ H'=>H'=H/\∃(m':Nat) (r:Option V),σ=[some (.int (m':Int)),some (.int (k:Int)),r]/\az m' k=az m n,⟨n,rfl,m,_,rfl,rfl⟩,?_⟩;rintro k σ H' ⟨rfl,m',r,rfl,hg⟩;refine⟨_,rfl,_,rfl,?_⟩;refine nE (λc=>?_) (λc=>?_)
 ·have hk:0<k:=by
   rcases Nd k with h|h
   ·subst h;exact absurd c (by decide)
   ·exact h
  refine⟨λσ' H2=>H2=H'/\∃r',σ'=[some (.int (k:Int)),some (.int ((m' %k:Nat):Int)),r'],λσ' H2 ⟨e1,r',e2⟩=>⟨m' %k,pb _ hk,e1,k,r',e2,?_⟩,?_⟩
  ·rw[QM];exact hg
  ·exact⟨_,rfl,_,rfl,_,_,rfl,rfl,Int.ofNat_lt.mpr hk,_,rfl,_,rfl,rfl,_,rfl⟩
 ·have hk:k=0:=by
   rcases Nd k with h|h
   ·exact h
   ·exfalso;apply c;show((k:Int) !=0)=true;simp;omega
  subst hk;rw[Nat.gcd_zero_right]at hg;refine⟨_,rfl,?_⟩;rw[hg];exact q
inductive qz(K:af)(vs:List V)(H:Hp)(Q:VK)(E_:XK):Prop
 |mk(a:Int)(b:Nat)(_:vs=[.int a,.int b])(_:0<b)(_:b<=10^200)(_:∀p H' u v,Same H H'->H' p=some (.tup [.int u,.int ((v:Nat):Int)])->yi a b u v->Q (.ref p) H')
theorem U6{b:Nat}(hp:H p=none):(upd H p (.tup [.int (a/((az a.natAbs b:Nat):Int)),.int ((b:Int)/((az a.natAbs b:Nat):Int))])) p=some (.tup [.int (a/((az a.natAbs b:Nat):Int)),.int (((b/az a.natAbs b:Nat)):Int)]):=by
 rw[aK,MT]
theorem YK{f:ag}{fd:χ}
  (F:pV K "lowest" "lowest" fU f fd)(D1:Dp P w K mg base 1 "greatest_divisor" IG ["one","other"] (T3 K))(mA:mg "abs"=none):
  gx P w K mg base kG 2 f fd ["a","b"] (qz K):=by
 refine F.dD ["a","b","by"] λH Q hr h=>?_;obtain⟨a,b,rfl,hb,hB,q⟩:=h;refine⟨_,aN (pS 2 (pd D1 hr (aj (pB ye mA (aj (pv 0) ak)) (aj (pv 1) ak)))) (aY (bK (ou (aj (dF Cy (pv 0) (pv 2)) (aj (dF Cy (pv 1) (pv 2)) ak))))),?_⟩;refine⟨_,rfl,a,rfl,_,rfl,a.natAbs,b,?_,?_⟩
 ·rw[EC];rfl
 have hg:0<az a.natAbs b:=Pf _ hb;have hg2:(((az a.natAbs b:Nat):Int)).natAbs<=10^200:=dH (Zu a b hb) hB;refine⟨_,rfl,_,rfl,_,_,rfl,rfl,⟨Int.ofNat_lt.mpr hg,hg2⟩,_,rfl,_,rfl,_,_,rfl,rfl,⟨Int.ofNat_lt.mpr hg,hg2⟩,rV,λp hp=>?_⟩;exact q p _ _ _ (aR hp _) (U6 hp) (Qv a b hb)
noncomputable def bC(n:Nat)(X:Nat->Int):List V:=((am (n+1)).map X).map V.int
noncomputable def cJ(n:Nat)(c:Nat->Nat):ζ:=(am n).map λk=>((c k:Nat):Int)
noncomputable def xN(cl co ro:ag)(o:Int):List (be×V):=[("cells",.ref cl),("over",.int o),("columns",.ref co),("rows",.ref ro)]
structure cW(K:af)(C:ag)(H0 H:Hp)(o dx cl co ro:ag)(rws:η)(n m:Nat)(T:Sx.Tab):Prop where
 same:Same H0 H
 o0:H0 o=none
 ZS:H0 cl=none
 Xa:H0 co=none
 Wz:H0 ro=none
 ne:co≠ro
 nc:co∉rws
 nr:ro∉rws
 at_:H o=some (.ins C dx (xN cl co ro T.over))
 cells:H cl=some (.lst (rws.map V.ref))
 len:rws.length=m+1
 row:∀r a,rws[r]? =some a->H a=some (.lst (bC n (T.cell r)))
 cols:H co=some (.lst ((cJ n T.col).map V.int))
 rows:H ro=some (.lst ((cJ m T.row).map V.int))
noncomputable def m6(K:af)(C:ag)(H0 H:Hp)(o:ag)(n m:Nat)(T:Sx.Tab):Prop:=∃dx cl co ro rws,cW K C H0 H o dx cl co ro rws n m T
theorem cW.sm(h:cW K C H0 H o dx cl co ro rws n m T)(s:Same H H'):cW K C H0 H' o dx cl co ro rws n m T:=
 ⟨h.same.trans s,h.o0,h.ZS,h.Xa,h.Wz,h.ne,h.nc,h.nr,s _ _ h.at_,s _ _ h.cells,h.len,λr a e=>s _ _ (h.row r a e),s _ _ h.cols,s _ _ h.rows⟩
theorem m6.sm(h:m6 K C H0 H o n m T)(s:Same H H'):m6 K C H0 H' o n m T:=by
 obtain⟨dx,cl,co,ro,rws,h⟩:=h;exact⟨dx,cl,co,ro,rws,h.sm s⟩
structure TG(n m:Nat)(S:Nat->Nat->Bool)(wt:Nat->Int)(T:Sx.Tab):Prop where
 good:Sx.Good n m S wt T
 n10:n<=10
 m40:m<=40
 wb:∀p,p<n->0<=wt p/\wt p<=99
 cov:∀p,p<n->∃k,k<m/\S k p=true
theorem TG.cell(h:TG n m S wt T)(hr:r<=m)(hc:c<=n): -4000000000<=T.cell r c/\T.cell r c<=4000000000:=by
 have a:=h.good.Rv h.wb hr hc;have b:=Sx.Rf (k:=n+1) (by have:=h.n10;omega);omega
theorem TG.over(h:TG n m S wt T):0<T.over/\T.over<=39916800:=by
 have a:=h.good.Ui;have b:=Sx.Rf (k:=n+1) (by have:=h.n10;omega);exact⟨h.good.pos,by omega⟩
theorem Km(n)(X:Nat->Int):(bC n X).length=n+1:=by unfold bC;rw[aD,aD,uM]
theorem qJ(X:Nat->Int)(h:c<=n):(bC n X)[c]? =some (.int (X c)):=by
 unfold bC;rw[dI,dI,Tt (by omega)];rfl
theorem fO(X:Nat->Int)(h:c<=n):vT (bC n X) (c:Int)=some (.int (X c)):=rj (qJ X h)
theorem yf{v:V}(h:xs[xs.length-1]? =some v)(h0:0<xs.length):vT xs (-1)=some v:=by
 have e:xy xs.length (-1)=some (xs.length-1):=by
  unfold xy;rw[aq (by decide),au (by omega)];congr 1;omega
 unfold vT;rw[e];exact h
theorem rW(n)(X:Nat->Int):vT (bC n X) (-1)=some (.int (X n)):=yf (by rw[Km];exact qJ X (aP n)) (by rw[Km];omega)
theorem Ko(n)(c:Nat->Nat):(cJ n c).length=n:=by unfold cJ;rw[aD,uM]
theorem IW(c:Nat->Nat)(h:k<n):(cJ n c)[k]? =some ((c k:Nat):Int):=by
 unfold cJ;rw[dI,Tt h];rfl
theorem qO(c:Nat->Nat)(h:k<n):vT ((cJ n c).map V.int) (k:Int)=some (.int ((c k:Nat):Int)):=rj (by rw[dI,IW c h];rfl)
theorem yp(c:Nat->Nat)(v:Nat)(h:k<n):(cJ n c).set k (v:Int)=cJ n (λi=>if i=k then v else c i):=by
 refine KM λi=>?_;rw[KB];by_cases hi:i<n
 ·rw[IW _ hi,IW _ hi,Ko];by_cases e:k=i
  ·rw[au e,au h,au e.symm]
  ·rw[aq e,aq (oV e)]
 ·rw[Xq (by rw[Ko];omega),Xq (by rw[Ko];omega),aq (by omega)]
theorem cW.K5(h:cW K C H0 H o dx cl co ro rws n m T)(hr:r<=m):∃a,rws[r]? =some a/\vT (rws.map V.ref) (r:Int)=some (.ref a)/\H a=some (.lst (bC n (T.cell r))):=by
 have hl:=h.len;have e:rws[r]? =some rws[r]:=cU (by omega);exact⟨rws[r],e,rj (by rw[dI,e];rfl),h.row r _ e⟩
theorem cW.aap(h:cW K C H0 H o dx cl co ro rws n m T):∃a,rws[m]? =some a/\vT (rws.map V.ref) (-1)=some (.ref a)/\H a=some (.lst (bC n (T.cell m))):=by
 obtain⟨a,e,_,f⟩:=h.K5 (aP m);exact⟨a,e,yf (by rw[aD,h.len,dI,pE,e];rfl) (by rw[aD,h.len];omega),f⟩
inductive Jr(K:af)(C:ag)(vs:List V)(H:Hp)(Q:VK)(E_:XK):Prop
 |mk(o:ag)(H0:Hp)(n m:Nat)(S:Nat->Nat->Bool)(wt:Nat->Int)(T:Sx.Tab)(_:vs=[.ref o])(_:m6 K C H0 H o n m T)(_:TG n m S wt T)(_:(∀c,c<n->0<=T.cell m c)->∀H',Same H H'->Q .non H')(_:∀(q:Nat) H',q<n->T.cell m q<0->(∀c,c<n->T.cell m c<0->T.col q<=T.col c)->Same H H'->Q (.int (q:Int)) H')
theorem YC{f C:ag}{fd:χ}
  (F:pV K "next_column" "Tableau.next_column" Mb f fd)
  (Cc:wm K C)(bD:iF K C "cells")(dR:iF K C "over")(bA:iF K C "columns")(cV:iF K C "rows")(cA:mg "enumerate"=none)(Df:mg "min"=none):
  gx P w K mg base kG 1 f fd ["self"] (Jr K C):=by
 refine F.dD ["self","worth","names"] λH Q hr h=>?_;obtain⟨o,H0,n,m,S,wt,T,rfl,⟨dx,cl,co,ro,rws,hT⟩,hG,q1,q2⟩:=h;refine⟨_,(aN (pS 1 (bw uK (rJ (pv 0) rfl) (tN sv aL))) (aN (pX 2 ["k","name"] ["worth"] [1] (qL rfl cA (aj (rJ (pv 0) rfl) ak)) (Kl K (n:=2) rfl (jz (pG 0) (jz (pG 1) yO))) (Fb (gU uk (bw (eV K) (pv 2) (pv 0)) aL)) (pv 1)) (aY (bK (xA (sR (pv 2) (λ_=>rfl)) (ww E3 NI NH sG (rJ (pv 0) rfl) (aj (pB (yI rfl) Df (aj (pv 2) ak)) ak)) xf))))),?_⟩;obtain⟨za,ze,zi,zr⟩:=hT.aap;refine⟨_,rfl,o,C,dx,_,_,rfl,hT.at_,Cc,bD,rfl,_,rfl,cl,_,_,_,rfl,rfl,ja.of hT.cells,zi,?_⟩;refine⟨_,rfl,o,C,dx,_,_,rfl,hT.at_,Cc,bA,rfl,false,co,_,rfl,ja.of hT.cols,λhz=>?_⟩;refine jH (K:=K) (b:=false) (a:=co) (xs:=(cJ n T.col).map V.int) (λi acc σ H'=>acc=(((am i).filter λc=>decide (T.cell m c<0)).map λc=>((T.col c:Nat):Int)).map V.int/\Same H H'/\∃o1 o2,σ=[o1,o2,some (.ref za)]) ⟨rfl,Same.refl _,_,_,rfl⟩ (λi acc σ H' _ p=>p.2.1.seq (ja.of hT.cols)) (λi acc σ H' _ p=>?_) hz (λi v t acc σ H' hv p ht=>?_) (λacc σ H' p=>?_)
 ·rw[p.1,aD,aD];exact dH (vf _ _) (by rw[uM];exact aP _)
 ·obtain⟨rfl,sm,o1,o2,rfl⟩:=p;have hi:i<n:=by
   have:=(oG.mp hv).1;rw[aD,Ko]at this;exact this
  rw[dI,IW _ hi]at hv;cases hv;have s1:=aR ht (.tup [.int (i:Int),.int ((T.col i:Nat):Int)]);refine⟨t,_,rfl,SqT.of aK,rfl,_,_,rfl,_,_,rfl,rfl,?_⟩;refine⟨_,rfl,_,rfl,za,_,_,_,rfl,rfl,ja.of ((sm.trans s1) _ _ zr),fO _ (dW hi),_,_,rfl,rfl,_,rfl,?_⟩;have go:((am (i+1)).filter λc=>decide (T.cell m c<0))=((am i).filter λc=>decide (T.cell m c<0))++(if decide (T.cell m i<0)=true then[i]else[]):=by
   rw[xq,Fe];congr 1;rw[Ks];split<;>rfl
  refine nE (λc=>?_) (λc=>?_)
  ·exact⟨_,rfl,by rw[go,au c,bR,bR];rfl,sm.trans s1,_,_,rfl⟩
  ·exact⟨by rw[go,aq c,xr],sm.trans s1,_,_,rfl⟩
 ·intro p1 hp1;obtain⟨rfl,sm,_⟩:=p;rw[aD,Ko];have s1:=aR hp1 (.lst ((((am n).filter λc=>decide (T.cell m c<0)).map λc=>((T.col c:Nat):Int)).map V.int));have e1:(upd H' p1 (.lst ((((am n).filter λc=>decide (T.cell m c<0)).map λc=>((T.col c:Nat):Int)).map V.int))) p1=some (.lst ((((am n).filter λc=>decide (T.cell m c<0)).map λc=>((T.col c:Nat):Int)).map V.int)):=aK;have s2:=sm.trans s1;generalize (upd H' p1 (.lst ((((am n).filter λc=>decide (T.cell m c<0)).map λc=>((T.col c:Nat):Int)).map V.int)))=H1 at *;have hT1:=hT.sm s2;refine⟨_,rfl,_,.inl ⟨_,ja.of e1,rfl⟩,?_⟩;cases hl:(am n).filter λc=>decide (T.cell m c<0)with
  |nil=>
   apply kL;refine q1 (λc hc=>Int.not_lt.mp λhn=>?_) _ s2;have:c∈(am n).filter λc=>decide (T.cell m c<0):=iU.mpr ⟨nu.mpr hc,cI hn⟩;rw[hl]at this;cases this
  |cons c0 rest=>
   rw[hl]at e1;apply si;refine⟨_,rfl,o,C,dx,_,_,rfl,hT1.at_,Cc,bA,rfl,.inl ⟨rfl,_,ja.of hT1.cols⟩,_,rfl,p1,_,rfl,ja.of e1,(λe=>nomatch e),λmn hmn hle=>?_⟩;rw[<-hl]at hmn hle;obtain⟨c,hc,rfl⟩:=jP.mp hmn;obtain⟨hc1,hc2⟩:=iU.mp hc;have hcn:=nu.mp hc1;refine⟨co,cJ n T.col,_,c,rfl,rfl,hT1.cols,IW _ hcn,λi hi e=>?_,by rw[Ko];have:=hG.n10;omega,?_⟩
   ·rw[IW _ (by omega)]at e;have:T.col i=T.col c:=FT (uw e);have:=hG.good.HX i c (by omega) hcn this;omega
   ·refine q2 c _ hcn (lA hc2) (λc' hc' hn=>?_) s2;have:=hle _ (jP.mpr ⟨c',iU.mpr ⟨nu.mpr hc',cI hn⟩,rfl⟩);omega
noncomputable def E5(n q:Nat)(T:Sx.Tab)(r t:Nat):Bool:=decide (T.cell r n*T.cell t q<T.cell t n*T.cell r q)||(decide (T.cell r n*T.cell t q=T.cell t n*T.cell r q)&&decide (T.row r<T.row t))
inductive Od(K:af)(C:ag)(vs:List V)(H:Hp)(Q:VK)(E_:XK):Prop
 |mk(o:ag)(H0:Hp)(n m q r t:Nat)(S:Nat->Nat->Bool)(wt:Nat->Int)(T:Sx.Tab)(_:vs=[.ref o,.int (q:Int),.int (r:Int),.int (t:Int)])(_:m6 K C H0 H o n m T)(_:TG n m S wt T)(_:q<n)(_:r<m)(_:t<m)(_:Q (.bl (E5 n q T r t)) H)
theorem Yv{f C:ag}{fd:χ}
  (F:pV K "is_tighter" "Tableau.is_tighter" LZ f fd)
  (Cc:wm K C)(bD:iF K C "cells")(dR:iF K C "over")(bA:iF K C "columns")(cV:iF K C "rows"):
  gx P w K mg base kG 1 f fd ["self","column","row","other"] (Od K C):=by
 refine F.dD ["self","column","row","other","one","two"] λH Q hr h=>?_;obtain⟨o,H0,n,m,q,r,t,S,wt,T,rfl,⟨dx,cl,co,ro,rws,hT⟩,hG,hq,hr0,ht,qq⟩:=h;refine⟨_,(aN (pS 4 (dF qS (bw uK (bw uK (rJ (pv 0) rfl) (pv 2)) (tN sv aL)) (bw uK (bw uK (rJ (pv 0) rfl) (pv 3)) (pv 1)))) (aN (pS 5 (dF qS (bw uK (bw uK (rJ (pv 0) rfl) (pv 3)) (tN sv aL)) (bw uK (bw uK (rJ (pv 0) rfl) (pv 2)) (pv 1)))) (aY (bK (HC (uZ uk (pv 4) (pv 5)) (qE (Bw (uZ xC (pv 4) (pv 5)) (qE (uZ uk (bw uK (rJ (pv 0) rfl) (pv 2)) (bw uK (rJ (pv 0) rfl) (pv 3))))))))))),?_⟩;obtain⟨ra,re,ri,rr⟩:=hT.K5 (dW hr0);obtain⟨ta,te,ti,tr⟩:=hT.K5 (dW ht);have b1:=hG.cell (dW hr0) (aP n);have b2:=hG.cell (dW ht) (aP n);refine⟨_,rfl,o,C,dx,_,_,rfl,hT.at_,Cc,bD,rfl,_,rfl,cl,_,_,_,rfl,rfl,ja.of hT.cells,ri,_,rfl,ra,_,_,_,rfl,rfl,ja.of rr,rW _ _,?_⟩;refine⟨_,rfl,o,C,dx,_,_,rfl,hT.at_,Cc,bD,rfl,_,rfl,cl,_,_,_,rfl,rfl,ja.of hT.cells,ti,_,rfl,ta,_,_,_,rfl,rfl,ja.of tr,fO _ (dW hq),_,_,rfl,rfl,.inl ⟨by omega,by omega⟩,?_⟩;refine⟨_,rfl,o,C,dx,_,_,rfl,hT.at_,Cc,bD,rfl,_,rfl,cl,_,_,_,rfl,rfl,ja.of hT.cells,ti,_,rfl,ta,_,_,_,rfl,rfl,ja.of tr,rW _ _,?_⟩;refine⟨_,rfl,o,C,dx,_,_,rfl,hT.at_,Cc,bD,rfl,_,rfl,cl,_,_,_,rfl,rfl,ja.of hT.cells,ri,_,rfl,ra,_,_,_,rfl,rfl,ja.of rr,fO _ (dW hq),_,_,rfl,rfl,.inl ⟨by omega,by omega⟩,?_⟩;refine⟨_,rfl,_,rfl,_,_,rfl,rfl,_,rfl,?_⟩;unfold E5 at qq;refine nE (λc=>?_) (λc=>?_)
 ·rw[c,IY]at qq;exact qq
 ·rw[eq_false_of_ne_true c,JA]at qq;refine⟨_,rfl,_,rfl,rfl,_,rfl,?_⟩;refine nE (λc2=>?_) (λc2=>?_)
  ·have c2':decide (T.cell r n*T.cell t q=T.cell t n*T.cell r q)=true:=cI (V.int.inj (lA c2));rw[c2',MK]at qq;refine⟨_,rfl,o,C,dx,_,_,rfl,hT.at_,Cc,cV,rfl,_,rfl,ro,_,_,_,rfl,rfl,ja.of hT.rows,qO _ hr0,?_⟩;refine⟨_,rfl,o,C,dx,_,_,rfl,hT.at_,Cc,cV,rfl,_,rfl,ro,_,_,_,rfl,rfl,ja.of hT.rows,qO _ ht,_,_,rfl,rfl,?_⟩;rw[<-show decide (((T.row r:Nat):Int)<((T.row t:Nat):Int))=decide (T.row r<T.row t)from decide_eq_decide.mpr Int.ofNat_lt]at qq;exact qq
  ·have c2':decide (T.cell r n*T.cell t q=T.cell t n*T.cell r q)=false:=gY λe=>c2 (cI (jQ V.int e));rw[c2',ME]at qq;exact qq
noncomputable def Xc(n q:Nat)(T:Sx.Tab)(p r:Nat):Prop:=T.cell p n*T.cell r q<T.cell r n*T.cell p q\/(T.cell p n*T.cell r q=T.cell r n*T.cell p q/\T.row p<=T.row r)
theorem Lz(ha:0<T.cell a q)(hb:0<T.cell b q)(hc:0<T.cell c q)(h1:Xc n q T a b)(h2:Xc n q T b c):Xc n q T a c:=by
 have cm:∀x y:Nat,T.cell x n*T.cell y q=T.cell y q*T.cell x n:=λx y=>Bo _ _;have cn:∀x y:Nat,T.cell y n*T.cell x q=T.cell x q*T.cell y n:=λx y=>Bo _ _;unfold Xc at *;rw[cm a b,cn a b]at h1;rw[cm b c,cn b c]at h2;rw[cm a c,cn a c];rcases h1 with h1|⟨h1,l1⟩
 ·rcases h2 with h2|⟨h2,_⟩
  ·exact .inl (Sx.Ak hb ha hc (Nq h1) h2)
  ·exact .inl (Sx.DW hb ha hc h1 (EH h2))
 ·rcases h2 with h2|⟨h2,l2⟩
  ·exact .inl (Sx.Ak hb ha hc (EH h1) h2)
  ·exact .inr ⟨JY (Sx.Al hb ha hc (EH h1) (EH h2)) (Sx.Al hb hc ha (by rw[<-h2];exact u5 _) (by rw[<-h1];exact u5 _)),dH l1 l2⟩
theorem XJ(h:E5 n q T r t=true):Xc n q T r t:=by
 unfold E5 at h;rw[Wo,vo]at h;rcases h with h|⟨h1,h2⟩
 ·exact .inl (lA h)
 ·exact .inr ⟨lA h1,dW (lA h2)⟩
theorem Sj(h:E5 n q T r t=false):Xc n q T t r:=by
 unfold E5 at h;rw[lm,Bool.and_eq_false_iff]at h;have h1:=E1 h.1;by_cases c:T.cell r n*T.cell t q=T.cell t n*T.cell r q
 ·refine .inr ⟨c.symm,?_⟩;rcases h.2 with z|z
  ·exact absurd c (E1 z)
  ·exact V7.mp (E1 z)
 ·exact .inl (by omega)
inductive Og(K:af)(C:ag)(vs:List V)(H:Hp)(Q:VK)(E_:XK):Prop
 |mk(o:ag)(H0:Hp)(n m q:Nat)(S:Nat->Nat->Bool)(wt:Nat->Int)(T:Sx.Tab)(_:vs=[.ref o,.int (q:Int)])(_:m6 K C H0 H o n m T)(_:TG n m S wt T)(_:q<n)(_:∀p:Nat,p<m->0<T.cell p q->(∀r,r<m->0<T.cell r q->Xc n q T p r)->Q (.int (p:Int)) H)
theorem YB{f f1 C:ag}
  {fd d1:χ}
  (F:pV K "next_row" "Tableau.next_row" LV f fd)
  (Cc:wm K C)(bD:iF K C "cells")(dR:iF K C "over")(bA:iF K C "columns")(cV:iF K C "rows")(D1:Ke K C "is_tighter" "Tableau.is_tighter" LZ ["self","column","row","other"] f1 d1)(G1:gx P w K mg base kG 1 f1 d1 ["self","column","row","other"] (Od K C))(aF:mg "range"=none)(bU:mg "len"=none):
  gx P w K mg base kG 2 f fd ["self","column"] (Og K C):=by
 refine F.dD ["self","column","tightest","row"] λH Q hr h=>?_;obtain⟨o,H0,n,m,q,S,wt,T,rfl,⟨dx,cl,co,ro,rws,hT⟩,hG,hq,qq⟩:=h;refine⟨_,(aN (pS 2 xf) (aN (rS Fw rfl (Kp rfl aF (aj (pB wZ bU (aj (rJ (pv 0) rfl) ak)) ak)) (pG 3) (aY (iK (PW.pt (yy (gU xB (bw uK (bw uK (rJ (pv 0) rfl) (pv 3)) (pv 1)) aL) (xc (PW.pt (rH (gU DO (pv 2) xf) (uY (iT (r9 (pv 0) Cc D1.m G1 hr D1.b .nil k8 (aj (pv 1) (aj (pv 3) (aj (pv 2) ak))))))))))) (aY (pS 2 (pv 3))) iM))) (aY (bK (pv 2))))),?_⟩;refine⟨_,rfl,o,C,dx,_,_,rfl,hT.at_,Cc,cV,rfl,ro,_,rfl,.inl (ja.of hT.rows),λ_=>?_⟩;rw[aD,Ko];refine⟨_,rfl,by have:=hG.m40;omega,by have:=hG.m40;omega,?_⟩;refine sf (n:=m) (λi σ H'=>H'=H/\∃(x:V) (o3:Option V),σ=[some (.ref o),some (.int (q:Int)),some x,o3]/\((x=.non/\∀r,r<i->T.cell r q<=0)\/∃p:Nat,p<i/\x=.int (p:Int)/\0<T.cell p q/\∀r,r<i->0<T.cell r q->Xc n q T p r)) ⟨rfl,_,_,rfl,.inl ⟨rfl,λr hr=>absurd hr (Tn r)⟩⟩ (λi σ H' hi p=>?_) (λσ H' p=>?_)
 ·obtain⟨rfl,x,o3,rfl,hx⟩:=p;rw[EJ];obtain⟨ra,re,ri,rr⟩:=hT.K5 (dW hi);refine⟨_,rfl,o,C,dx,_,_,rfl,hT.at_,Cc,bD,rfl,_,rfl,cl,_,_,_,rfl,rfl,ja.of hT.cells,ri,_,rfl,ra,_,_,_,rfl,rfl,ja.of rr,fO _ (dW hq),_,_,rfl,rfl,_,rfl,?_⟩;refine nE (λc=>?_) (λc=>?_)
  ·have c':0<T.cell i q:=lA c;rcases hx with⟨rfl,hx⟩|⟨p,hp,rfl,hp0,hlev⟩
   ·refine⟨_,rfl,rfl,_,rfl,?_⟩;apply si;apply si;refine⟨_,rfl,rfl,_,_,rfl,.inr ⟨i,wY i,rfl,c',λr hr h0=>?_⟩⟩;by_cases e:r=i
    ·subst e;exact .inr ⟨rfl,aP _⟩
    ·have:=hx r (by omega);omega
   ·refine⟨_,rfl,rfl,_,rfl,?_⟩;apply kL;refine⟨_,rfl,o,dx,_,rfl,hT.at_,rfl,_,rfl,_,rfl,_,rfl,o,H0,n,m,q,i,p,S,wt,T,rfl,⟨dx,cl,co,ro,rws,hT⟩,hG,hq,hi,by omega,_,rfl,?_⟩;refine nE (λz=>?_) (λz=>?_)
    ·refine⟨_,rfl,rfl,_,_,rfl,.inr ⟨i,wY i,rfl,c',λr hr h0=>?_⟩⟩;by_cases e:r=i
     ·subst e;exact .inr ⟨rfl,aP _⟩
     ·exact Lz c' hp0 h0 (XJ z) (hlev r (by omega) h0)
    ·refine⟨rfl,_,_,rfl,.inr ⟨p,by omega,rfl,hp0,λr hr h0=>?_⟩⟩;by_cases e:r=i
     ·subst e;exact Sj (eq_false_of_ne_true z)
     ·exact hlev r (by omega) h0
  ·apply kL;have c':T.cell i q<=0:=Int.not_lt.mp λh=>c (cI h);refine⟨rfl,_,_,rfl,?_⟩;rcases hx with⟨rfl,hx⟩|⟨p,hp,rfl,hp0,hlev⟩
   ·refine .inl ⟨rfl,λr hr=>?_⟩;by_cases e:r=i
    ·subst e;exact c'
    ·exact hx r (by omega)
   ·refine .inr ⟨p,by omega,rfl,hp0,λr hr h0=>?_⟩;by_cases e:r=i
    ·subst e;omega
    ·exact hlev r (by omega) h0
 ·obtain⟨rfl,x,o3,rfl,hx⟩:=p;rcases hx with⟨rfl,hx⟩|⟨p,hp,rfl,hp0,hlev⟩
  ·obtain⟨r,hr0,h0⟩:=hG.good.bounded hG.cov hq;have:=hx r hr0;omega
  ·exact⟨_,rfl,qq p hp hp0 hlev⟩
noncomputable def LA(ov:Int)(X Y:Nat->Int)(q c:Nat):Int:=if c=q then -X q else(X c*Y q-X q*Y c)/ov
theorem Cm(X:Nat->Int)(v)(h:q<=n):(bC n X).set q (.int v)=bC n λc=>if c=q then v else X c:=by
 refine KM λi=>?_;rw[KB];by_cases hi:i<=n
 ·rw[qJ _ hi,qJ _ hi,Km];by_cases e:q=i
  ·rw[au e,au (by omega),au e.symm]
  ·rw[aq e,aq (oV e)]
 ·rw[Xq (by rw[Km];omega),Xq (by rw[Km];omega),aq (by omega)]
theorem pL(h:∀c,c<=n->X c=Y c):bC n X=bC n Y:=by
 unfold bC;rw[Xm λc hc=>h c (by have:=nu.mp hc;omega)]
inductive Oe(K:af)(C:ag)(vs:List V)(H:Hp)(Q:VK)(E_:XK):Prop
 |mk(o xa ya:ag)(H0:Hp)(n m q:Nat)(X Y:Nat->Int)(T:Sx.Tab)(_:vs=[.ref o,.ref xa,.ref ya,.int (q:Int)])(_:m6 K C H0 H o n m T)(_:n<=10)(_:0<T.over/\T.over<=39916800)(_:q<=n)(_:H xa=some (.lst (bC n X)))(_:H ya=some (.lst (bC n Y)))(_:∀c,c<=n->(-4000000000<=X c/\X c<=4000000000)/\(-4000000000<=Y c/\Y c<=4000000000))(_:∀r H',Same H H'->H r=none->H' r=some (.lst (bC n (LA T.over X Y q)))->Q (.ref r) H')
theorem Yw{f C:ag}{fd:χ}
  (F:pV K "turned" "Tableau.turned" fH f fd)
  (Cc:wm K C)(bD:iF K C "cells")(dR:iF K C "over")(bA:iF K C "columns")(cV:iF K C "rows")(cA:mg "enumerate"=none):
  gx P w K mg base kG 1 f fd ["self","cells","pivots","column"] (Oe K C):=by
 refine F.dD ["self","cells","pivots","column","by","fresh"] λH Q hr h=>?_;obtain⟨o,xa,ya,H0,n,m,q,X,Y,T,rfl,⟨dx,cl,co,ro,rws,hT⟩,hn,⟨ho0,ho1⟩,hq,hX,hY,hb,qq⟩:=h;refine⟨_,(aN (pS 4 (bw uK (pv 2) (pv 3))) (aN (pX 5 ["k","cell"] ["by","cells","column","pivots","self"] [4,1,3,2,0] (qL rfl cA (aj (pv 1) ak)) (Kl K (n:=2) rfl (jz (pG 0) (jz (pG 1) yO))) lF (dF iD (dF yA (dF qS (pv 1) (pv 2)) (dF qS (bw (eV K) (pv 3) (pv 4)) (bw (eV K) (pv 5) (pv 0)))) (Uh K (pv 6) rfl))) (aN (sw (tN sv (bw uK (pv 1) (pv 3))) (uu (pv 5) (pv 3) sF)) (aY (bK (pv 5)))))),?_⟩;refine⟨_,rfl,_,rfl,ya,_,_,_,rfl,rfl,ja.of hY,fO _ hq,?_⟩;refine⟨_,rfl,false,xa,_,rfl,ja.of hX,λhz=>?_⟩;refine jH (K:=K) (b:=false) (a:=xa) (xs:=bC n X) (λi acc σ H'=>acc=((am i).map λc=>(X c*Y q-X q*Y c)/T.over).map V.int/\Same H H'/\∃o1 o2,σ=[o1,o2,some (.int (Y q)),some (.ref xa),some (.int (q:Int)),some (.ref ya),some (.ref o)]) ⟨rfl,Same.refl _,_,_,rfl⟩ (λi acc σ H' _ p=>p.2.1.seq (ja.of hX)) (λi acc σ H' _ p=>?_) hz (λi v t acc σ H' hv p ht=>?_) (λacc σ H' p=>?_)
 ·rw[p.1,aD,aD,uM];exact aP _
 ·obtain⟨rfl,sm,o1,o2,rfl⟩:=p;have hi:i<=n:=by
   have:=(oG.mp hv).1;rw[Km]at this;omega
  rw[qJ _ hi]at hv;cases hv;have s1:=aR ht (.tup [.int (i:Int),.int (X i)]);have s2:=sm.trans s1;have bi:=(hb i hi).1;have bq:=(hb q hq).1;refine⟨t,_,rfl,SqT.of aK,rfl,_,_,rfl,_,_,rfl,rfl,?_⟩;refine⟨_,rfl,_,rfl,_,_,rfl,rfl,.inl ⟨by omega,by omega⟩,?_⟩;refine⟨_,rfl,_,rfl,xa,_,_,_,rfl,rfl,ja.of (s2 _ _ hX),fO _ hq,_,rfl,_,rfl,ya,_,_,_,rfl,rfl,ja.of (s2 _ _ hY),fO _ hi,_,_,rfl,rfl,.inl ⟨by omega,by omega⟩,_,_,rfl,rfl,?_⟩;refine⟨_,rfl,o,C,dx,_,_,rfl,s2 _ _ hT.at_,Cc,dR,rfl,_,_,rfl,rfl,⟨ho0,by omega⟩,?_⟩;exact⟨by rw[xq,bR,bR];rfl,s2,_,_,rfl⟩
 ·intro p1 hp1;obtain⟨rfl,sm,_⟩:=p;rw[Km];have s1:=aR hp1 (.lst (bC n λc=>(X c*Y q-X q*Y c)/T.over));have s2:=sm.trans s1;have h0:H p1=none:=by
   cases e:H p1 with
   |none=>rfl
   |some u=>rw[sm _ _ e]at hp1;cases hp1
  refine⟨_,rfl,_,rfl,xa,_,_,_,rfl,rfl,ja.of (s2 _ _ hX),fO _ hq,_,rfl,?_⟩;refine⟨_,rfl,_,rfl,p1,_,_,q,rfl,rfl,aK,?_,?_⟩
  ·have e:xy (bC n λc=>(X c*Y q-X q*Y c)/T.over).length (q:Int)=some q:=by
    rw[Km];unfold xy;rw[au (by omega),au (by omega)];rfl
   exact e
  ·refine⟨_,rfl,qq p1 _ (λb u hb=>?_) h0 ?_⟩
   ·have nb:b≠p1:=λe=>by rw[e,h0]at hb;cases hb
    rw[cF nb];exact s2 _ _ hb
   ·rw[aK];have e:=Cm (λc=>(X c*Y q-X q*Y c)/T.over) (-X q) hq;exact jQ (λl=>some (HO.lst l)) e
theorem VR{k:Nat}(hk:k<=xs.length):qa xs none (some (k:Int))=xs.take k:=by
 unfold qa;rw[HT.sIx_nat,HT.sIx_none,JU hk,List.drop_zero,Nat.sub_zero]
theorem Mq{k:Nat}(hk:k<=xs.length):qa xs (some (k:Int)) none=xs.drop k:=by
 unfold qa;rw[HT.sIx_nat,HT.sIx_none,JU hk,Fq (by rw[EM];omega)]
theorem _root_.L2.Same.xJ(s:Same H0 H)(h:H0 a=none):Same H0 (upd H a u):=λb o hb=>by
 have nb:b≠a:=λe=>by rw[e,h]at hb;cases hb
 rw[cF nb];exact s _ _ hb
theorem _root_.L2.Same.none(s:Same H0 H)(h:H a=none):H0 a=none:=by
 cases e:H0 a with
 |none=>rfl
 |some u=>rw[s _ _ e]at h;cases h
section
variable{C:ag}{H0 H:Hp}{o dx cl co ro:ag}{rws:η}{n m:Nat}{T:Sx.Tab}
theorem cW.ocl(h:cW K C H0 H o dx cl co ro rws n m T):o≠cl:=rX h.at_ h.cells λe=>nomatch e
theorem cW.oco(h:cW K C H0 H o dx cl co ro rws n m T):o≠co:=rX h.at_ h.cols λe=>nomatch e
theorem cW.oro(h:cW K C H0 H o dx cl co ro rws n m T):o≠ro:=rX h.at_ h.rows λe=>nomatch e
theorem nJ{xs:ζ}(h:0<rws.length)(e:rws.map V.ref=xs.map V.int):False:=by
 cases rws with
 |nil=>exact absurd h (u6 0)
 |cons a r=>
  cases xs with
  |nil=>cases e
  |cons x xs=>injection e with e1 _;cases e1
theorem cW.abh(h:cW K C H0 H o dx cl co ro rws n m T):cl≠co:=λe=>by
 have z:=h.cols;rw[<-e,h.cells]at z;exact nJ (by rw[h.len];omega) (HO.lst.inj (uw z))
theorem cW.abg(h:cW K C H0 H o dx cl co ro rws n m T):cl≠ro:=λe=>by
 have z:=h.rows;rw[<-e,h.cells]at z;exact nJ (by rw[h.len];omega) (HO.lst.inj (uw z))
theorem cW.abf(h:cW K C H0 H o dx cl co ro rws n m T){r:Nat}(e:rws[r]? =some a):a≠cl:=λz=>by
 have y:=h.row r a e;rw[z,h.cells]at y;exact nJ (by rw[h.len];omega) (HO.lst.inj (uw y))
theorem cW.orow(h:cW K C H0 H o dx cl co ro rws n m T){r:Nat}(e:rws[r]? =some a):a≠o:=λz=>by
 have y:=h.row r a e;rw[z,h.at_]at y;cases y
theorem cW.OD(h:cW K C H0 H o dx cl co ro rws n m T)(h0:H0 cl'=none)(hc:H cl'=some (.lst (K4.map V.ref)))(hl:K4.length=m+1)(hr:∀r a,K4[r]? =some a->H a=some (.lst (bC n (X r))))(n1:co∉K4)(n2:ro∉K4):
  cW K C H0 (upd H o (.ins C dx (qk "cells" (.ref cl') (xN cl co ro T.over)))) o dx cl' co ro K4 n m {T with cell:=X}:=by
 have k:∀b,b≠o->∀u,H b=some u->(upd H o (.ins C dx (qk "cells" (.ref cl') (xN cl co ro T.over)))) b=some u:=λb hb u e=>by rw[cF hb];exact e
 refine⟨h.same.xJ h.o0,h.o0,h0,h.Xa,h.Wz,h.ne,n1,n2,aK,k _ (λe=>?_) _ hc,hl,λr a e=>k _ (λz=>?_) _ (hr r a e),k _ h.oco.symm _ h.cols,k _ h.oro.symm _ h.rows⟩
 ·rw[e,h.at_]at hc;cases hc
 ·have y:=hr r a e;rw[z,h.at_]at y;cases y
theorem cW.X7(h:cW K C H0 H o dx cl co ro rws n m T)(hp:p<=m)(ha:H a=some (.lst (bC n X)))(n1:co≠a)(n2:ro≠a):
  cW K C H0 (upd H cl (.lst ((rws.map V.ref).set p (.ref a)))) o dx cl co ro (rws.set p a) n m {T with cell:=λr c=>if r=p then X c else T.cell r c}:=by
 have k:∀b,b≠cl->∀u,H b=some u->(upd H cl (.lst ((rws.map V.ref).set p (.ref a)))) b=some u:=λb hb u e=>by rw[cF hb];exact e
 have hac:a≠cl:=λz=>by
  rw[z,h.cells]at ha;exact nJ (by rw[h.len];omega) (HO.lst.inj (uw ha))
 refine⟨h.same.xJ h.ZS,h.o0,h.ZS,h.Xa,h.Wz,h.ne,λz=>?_,λz=>?_,k _ h.ocl _ h.at_,by rw[aK,IT],by rw[Kk];exact h.len,λr b e=>?_,k _ h.abh.symm _ h.cols,k _ h.abg.symm _ h.rows⟩
 ·rcases Pt z with z|z
  ·exact h.nc z
  ·exact n1 z
 ·rcases Pt z with z|z
  ·exact h.nr z
  ·exact n2 z
 ·rw[KB]at e;by_cases c:p=r
  ·rw[au c,au (by rw[h.len];omega)]at e;cases e;rw[k _ hac _ ha];exact jQ (λl=>some (HO.lst l)) (pL λc' _=>by show X c'=if r=p then X c' else T.cell r c';rw[au c.symm])
  ·rw[aq c]at e;rw[k _ (h.abf e) _ (h.row r b e)];exact jQ (λl=>some (HO.lst l)) (pL λc' _=>by show T.cell r c'=if r=p then X c' else T.cell r c';rw[aq (oV c)])
theorem cW.setOver(h:cW K C H0 H o dx cl co ro rws n m T)(v):cW K C H0 (upd H o (.ins C dx (qk "over" (.int v) (xN cl co ro T.over)))) o dx cl co ro rws n m {T with over:=v}:=by
 have k:∀b,b≠o->∀u,H b=some u->(upd H o (.ins C dx (qk "over" (.int v) (xN cl co ro T.over)))) b=some u:=λb hb u e=>by rw[cF hb];exact e
 exact⟨h.same.xJ h.o0,h.o0,h.ZS,h.Xa,h.Wz,h.ne,h.nc,h.nr,aK,k _ h.ocl.symm _ h.cells,h.len,λr a e=>k _ (h.orow e) _ (h.row r a e),k _ h.oco.symm _ h.cols,k _ h.oro.symm _ h.rows⟩
theorem cW.T6(h:cW K C H0 H o dx cl co ro rws n m T)(v:Nat)(hp:p<m):cW K C H0 (upd H ro (.lst (((cJ m T.row).map V.int).set p (.int (v:Int))))) o dx cl co ro rws n m {T with row:=λr=>if r=p then v else T.row r}:=by
 have k:∀b,b≠ro->∀u,H b=some u->(upd H ro (.lst (((cJ m T.row).map V.int).set p (.int (v:Int))))) b=some u:=λb hb u e=>by rw[cF hb];exact e
 refine⟨h.same.xJ h.Wz,h.o0,h.ZS,h.Xa,h.Wz,h.ne,h.nc,h.nr,k _ h.oro _ h.at_,k _ h.abg _ h.cells,h.len,λr a e=>k _ (λz=>h.nr (z▸oF e)) _ (h.row r a e),k _ h.ne _ h.cols,?_⟩;rw[aK,<-IT,yp _ _ hp]
theorem cW.T7(h:cW K C H0 H o dx cl co ro rws n m T)(v:Nat)(hq:q<n):cW K C H0 (upd H co (.lst (((cJ n T.col).map V.int).set q (.int (v:Int))))) o dx cl co ro rws n m {T with col:=λc=>if c=q then v else T.col c}:=by
 have k:∀b,b≠co->∀u,H b=some u->(upd H co (.lst (((cJ n T.col).map V.int).set q (.int (v:Int))))) b=some u:=λb hb u e=>by rw[cF hb];exact e
 refine⟨h.same.xJ h.Xa,h.o0,h.ZS,h.Xa,h.Wz,h.ne,h.nc,h.nr,k _ h.oco _ h.at_,k _ h.abh _ h.cells,h.len,λr a e=>k _ (λz=>h.nc (z▸oF e)) _ (h.row r a e),?_,k _ h.ne.symm _ h.rows⟩;rw[aK,<-IT,yp _ _ hq]
end
theorem Pg(X:Nat->Int)(v)(h:q<=n):((bC n X).take q++[.int v])++(bC n X).drop (q+1)=bC n λc=>if c=q then v else X c:=by
 rw[<-Cm X v h,List.set_eq_take_append_cons_drop,au (by rw[Km];omega),KP];rfl
inductive Oc(K:af)(C:ag)(vs:List V)(H:Hp)(Q:VK)(E_:XK):Prop
 |mk(o:ag)(H0:Hp)(n m p q:Nat)(S:Nat->Nat->Bool)(wt:Nat->Int)(T:Sx.Tab)(_:vs=[.ref o,.int (p:Int),.int (q:Int)])(_:m6 K C H0 H o n m T)(_:TG n m S wt T)(_:p<m)(_:q<n)(_:∀H',m6 K C H0 H' o n m (Sx.turn T p q)->Q .non H')
theorem Yu{f f1 C:ag}
  {fd d1:χ}
  (F:pV K "turn" "Tableau.turn" iB f fd)
  (Cc:wm K C)(bD:iF K C "cells")(dR:iF K C "over")(bA:iF K C "columns")(cV:iF K C "rows")(D1:Ke K C "turned" "Tableau.turned" fH ["self","cells","pivots","column"] f1 d1)(G1:gx P w K mg base kG 1 f1 d1 ["self","cells","pivots","column"] (Oe K C)):
  gx P w K mg base kG 2 f fd ["self","row","column"] (Oc K C):=by
 refine F.dD ["self","row","column","pivots","by","name"] λH Q hr h=>?_;obtain⟨o,H0,n,m,p,q,S,wt,T,rfl,⟨dx,cl,co,ro,rws,hT⟩,hG,hp,hq,qq⟩:=h;refine eX ?_;intro Y;refine⟨_,(aN (pS 3 (bw uK (rJ (pv 0) rfl) (pv 1))) (aN (pS 4 (bw uK (pv 3) (pv 2))) (aN (ut (pv 0) (pK ["cells"] ["self","pivots","column"] [0,3,2] (ur (rJ (pv 0) rfl)) (pG 0) lF (r9 (pv 1) Cc D1.m G1 hr D1.b .nil k8 (aj (pv 0) (aj (pv 2) (aj (pv 3) ak))))) rfl) (aN (sw (dF sT (dF sT (sh ve (pv 3) tm (sn (pv 2))) (rd (aj (rJ (pv 0) rfl) ak))) (sh ve (pv 3) (sn (dF rk (pv 2) aL)) tm)) (uu (rJ (pv 0) rfl) (pv 1) sF)) (aN (ut (pv 0) (pv 4) rfl) (aN (pS 5 (bw uK (rJ (pv 0) rfl) (pv 1))) (aN (sw (bw uK (rJ (pv 0) rfl) (pv 2)) (uu (rJ (pv 0) rfl) (pv 1) sF)) (aY (sw (pv 5) (uu (rJ (pv 0) rfl) (pv 2) sF)))))))))),?_⟩;refine Sz ?_;intro c8 c7 c6 c5 c4 c3 c2;obtain⟨pa,pe,pi,pr⟩:=hT.K5 (dW hp);refine⟨_,rfl,o,C,dx,_,_,rfl,hT.at_,Cc,bD,rfl,_,rfl,cl,_,_,_,rfl,rfl,ja.of hT.cells,pi,?_⟩;refine⟨_,rfl,_,rfl,pa,_,_,_,rfl,rfl,ja.of pr,fO _ (dW hq),?_⟩;refine⟨_,rfl,o,C,dx,_,_,rfl,hT.at_,Cc,bD,rfl,cl,_,rfl,ja.of hT.cells,λhz=>?_⟩;let xV:Nat->List V->St->Hp->Prop:=λi acc σ H'=>∃as:η,acc=as.map V.ref/\as.length=i/\Same H H'/\(∀r a,as[r]? =some a->H a=none/\H' a=some (.lst (bC n (LA T.over (T.cell r) (T.cell p) q))))/\∃o1,σ=[o1,some (.ref o),some (.ref pa),some (.int (q:Int))];refine w6 (xs:=rws.map V.ref) xV ⟨[],rfl,rfl,Same.refl _,λr a e=>(nomatch e),_,rfl⟩ (λi acc σ H' _ x=>?_) (λi acc σ H' _ x=>?_) hz (λi v acc σ H' hv x=>?_) (λacc σ H' x=>?_)
 ·obtain⟨_,_,_,sm,_⟩:=x;exact sm.seq (ja.of hT.cells)
 ·obtain⟨as,rfl,hl,_⟩:=x;rw[aD,hl];exact aP _
 ·obtain⟨as,rfl,hl,sm,has,o1,rfl⟩:=x;rw[dI]at hv;cases er:rws[i]? with
  |none=>rw[er]at hv;cases hv
  |some ra=>
   rw[er]at hv;cases hv;have him:i<=m:=by have:=(oG.mp er).1;rw[hT.len]at this;omega
   refine⟨_,rfl,o,dx,_,rfl,sm _ _ hT.at_,rfl,_,rfl,_,rfl,_,rfl,o,ra,pa,H0,n,m,q,T.cell i,T.cell p,T,rfl,⟨dx,cl,co,ro,rws,hT.sm sm⟩,hG.n10,hG.over,dW hq,sm _ _ (hT.row i ra er),sm _ _ pr,λc hc=>⟨hG.cell him hc,hG.cell (dW hp) hc⟩,λr1 H1 s1 h1 e1=>?_⟩;refine⟨as++[r1],by rw[bR];rfl,by rw[lN,hl];rfl,sm.trans s1,λr a e=>?_,_,rfl⟩;rw[ND]at e;by_cases c:r<as.length
   ·rw[au c]at e;exact⟨(has r a e).1,s1 _ _ (has r a e).2⟩
   ·rw[aq c]at e;have er':r-as.length=0:=by
     have:=(oG.mp e).1;have:r-as.length<1:=this;omega
    rw[er']at e;cases e;have:r=i:=by omega
    subst this;exact⟨sm.none h1,e1⟩
 ·intro p1 hp1;obtain⟨as,rfl,hl,sm,has,_⟩:=x;rw[aD,hT.len]at hl;have s1:=aR hp1 (.lst (as.map V.ref));have hT1:=hT.sm (sm.trans s1);have h10:H0 p1=none:=hT.same.none (sm.none hp1);have nas:∀b u,H b=some u->b∉as:=λb u hb hm=>by
   obtain⟨r,hr1,rfl⟩:=Bs hm;have:=(has r _ (cU hr1)).1;rw[hb]at this;cases this
  have hT2:=hT1.OD (cl':=p1) (K4:=as) (X:=λr=>LA T.over (T.cell r) (T.cell p) q) h10 aK hl (λr a e=>s1 _ _ (has r a e).2) (nas _ _ hT.cols) (nas _ _ hT.rows);refine⟨_,rfl,o,C,dx,_,rfl,hT1.at_,Cc,bD,(by show 4<1000;decide),?_⟩;have npo:pa≠o:=hT.orow pe;have pr2:=(sm.trans s1) _ _ pr;have pr3:(upd (upd H' p1 (.lst (as.map V.ref))) o (.ins C dx (qk "cells" (.ref p1) (xN cl co ro T.over)))) pa=some (.lst (bC n (T.cell p))):=by rw[cF npo];exact pr2
  generalize (upd (upd H' p1 (.lst (as.map V.ref))) o (.ins C dx (qk "cells" (.ref p1) (xN cl co ro T.over))))=H2 at *
  refine⟨_,rfl,_,rfl,_,rfl,pa,_,rfl,ja.of pr3,λl1 hl1=>?_⟩;have t1:=aR hl1 (.lst (qa (bC n (T.cell p)) none (some (q:Int))));have f1:(upd H2 l1 (.lst (qa (bC n (T.cell p)) none (some (q:Int))))) l1=some (.lst (qa (bC n (T.cell p)) none (some (q:Int)))):=aK;generalize (upd H2 l1 (.lst (qa (bC n (T.cell p)) none (some (q:Int)))))=H3 at *;refine⟨_,rfl,o,C,dx,_,_,rfl,t1 _ _ hT2.at_,Cc,dR,rfl,rV,λl2 hl2=>?_⟩;have t2:=aR hl2 (.lst [.int T.over]);have f2:(upd H3 l2 (.lst [.int T.over])) l2=some (.lst [.int T.over]):=aK;have f1':=t2 _ _ f1;refine⟨l1,l2,_,_,rfl,rfl,f1',f2,?_,λl3 hl3=>?_⟩
  ·have:=rL (bC n (T.cell p)) none (some (q:Int));rw[Km]at this;have:=hG.n10;rw[gF];show _+1<=_;omega
  have t3:=aR hl3 (.lst (qa (bC n (T.cell p)) none (some (q:Int))++[.int T.over]));have f3:(upd (upd H3 l2 (.lst [.int T.over])) l3 (.lst (qa (bC n (T.cell p)) none (some (q:Int))++[.int T.over]))) l3=some (.lst (qa (bC n (T.cell p)) none (some (q:Int))++[.int T.over])):=aK;have t13:=t1.trans (t2.trans t3);generalize (upd (upd H3 l2 (.lst [.int T.over])) l3 (.lst (qa (bC n (T.cell p)) none (some (q:Int))++[.int T.over])))=H5 at *;refine⟨_,rfl,_,rfl,_,_,rfl,rfl,_,rfl,pa,_,rfl,ja.of (t13 _ _ pr3),λl4 Zj=>?_⟩;have t4:=aR Zj (.lst (qa (bC n (T.cell p)) (some ((q:Int)+1)) none));refine⟨l3,l4,_,_,rfl,rfl,t4 _ _ f3,aK,?_,λl5 Zi=>?_⟩
  ·have a1:=rL (bC n (T.cell p)) none (some (q:Int));have a2:=rL (bC n (T.cell p)) (some ((q:Int)+1)) none;rw[Km]at a1 a2;have:=hG.n10;rw[lN,gF];show _+1+_<=_;omega
  have t5:=aR Zi (.lst ((qa (bC n (T.cell p)) none (some (q:Int))++[.int T.over])++qa (bC n (T.cell p)) (some ((q:Int)+1)) none));have abO:(qa (bC n (T.cell p)) none (some (q:Int))++[.int T.over])++qa (bC n (T.cell p)) (some ((q:Int)+1)) none=bC n λc=>if c=q then T.over else T.cell p c:=by
   rw[VR (by rw[Km];omega),show(q:Int)+1=((q+1:Nat):Int)from by omega,Mq (by rw[Km];omega)];exact Pg _ _ (dW hq)
  rw[abO]at t5⊢;have hT3:=hT2.sm (t13.trans (t4.trans t5));have f5:(upd (upd H5 l4 (.lst (qa (bC n (T.cell p)) (some ((q:Int)+1)) none))) l5 (.lst (bC n λc=>if c=q then T.over else T.cell p c))) l5=some (.lst (bC n λc=>if c=q then T.over else T.cell p c)):=aK;have g1:co≠l5:=oA ((t13.trans t4) _ _ hT2.cols) Zi;have g2:ro≠l5:=oA ((t13.trans t4) _ _ hT2.rows) Zi;generalize (upd (upd H5 l4 (.lst (qa (bC n (T.cell p)) (some ((q:Int)+1)) none))) l5 (.lst (bC n λc=>if c=q then T.over else T.cell p c)))=H6 at *;have W0:=hT3.X7 (p:=p) (dW hp) f5 g1 g2;refine⟨_,rfl,o,C,dx,_,_,rfl,hT3.at_,Cc,bD,rfl,_,rfl,p1,_,_,p,rfl,rfl,hT3.cells,?_,?_⟩
  ·have e:xy (as.map V.ref).length (p:Int)=some p:=by
    rw[aD,hl];unfold xy;rw[au (by omega),au (by omega)];rfl
   exact e
  generalize (upd H6 p1 (.lst ((as.map V.ref).set p (.ref l5))))=H7 at *;have hT5:=W0.setOver (T.cell p q);refine⟨_,rfl,_,rfl,o,C,dx,_,rfl,W0.at_,Cc,dR,(by show 4<1000;decide),?_⟩;generalize (upd H7 o (.ins C dx (qk "over" (.int (T.cell p q)) (xN p1 co ro T.over))))=H8 at *;refine⟨_,rfl,o,C,dx,_,_,rfl,hT5.at_,Cc,cV,rfl,_,rfl,ro,_,_,_,rfl,rfl,ja.of hT5.rows,qO _ hp,?_⟩;refine⟨_,rfl,o,C,dx,_,_,rfl,hT5.at_,Cc,bA,rfl,_,rfl,co,_,_,_,rfl,rfl,ja.of hT5.cols,qO _ hq,?_⟩;have hT6:=hT5.T6 (p:=p) (T.col q) hp;refine⟨_,rfl,o,C,dx,_,_,rfl,hT5.at_,Cc,cV,rfl,_,rfl,ro,_,_,p,rfl,rfl,hT5.rows,?_,?_⟩
  ·have e:xy ((cJ m T.row).map V.int).length (p:Int)=some p:=by
    rw[aD,Ko];unfold xy;rw[au (by omega),au (by omega)];rfl
   exact e
  generalize (upd H8 ro (.lst (((cJ m T.row).map V.int).set p (.int ((T.col q:Nat):Int)))))=H9 at *;have Dy:=hT6.T7 (q:=q) (T.row p) hq;refine⟨_,rfl,_,rfl,o,C,dx,_,_,rfl,hT6.at_,Cc,bA,rfl,_,rfl,co,_,_,q,rfl,rfl,hT6.cols,?_,?_⟩
  ·have e:xy ((cJ n T.col).map V.int).length (q:Int)=some q:=by
    rw[aD,Ko];unfold xy;rw[au (by omega),au (by omega)];rfl
   exact e
  refine qq _ ⟨dx,p1,co,ro,_,Dy.same,Dy.o0,Dy.ZS,Dy.Xa,Dy.Wz,Dy.ne,Dy.nc,Dy.nr,Dy.at_,Dy.cells,Dy.len,λr a e=>?_,Dy.cols,Dy.rows⟩;rw[Dy.row r a e];refine jQ (λl=>some (HO.lst l)) (pL λc _=>?_);show(if r=p then(if c=q then T.over else T.cell p c)else LA T.over (T.cell r) (T.cell p) q c)=_;rfl
theorem Pb(R:Sx.Run n m S wt Ts ps qs L)(s:Sx.Step n m (Ts L) p q):
  Sx.Run n m S wt (λt=>if t<=L then Ts t else Sx.turn (Ts L) p q) (λt=>if t<L then ps t else p) (λt=>if t<L then qs t else q) (L+1):=by
 refine⟨by rw[au (dX L)];exact R.first,λt ht=>?_,λt ht=>?_⟩
 ·by_cases c:t<L
  ·rw[au (dW c),au c,au c];exact R.step t c
  ·have e:t=L:=by omega
   subst e;rw[au (aP t),aq c,aq c];exact s
 ·by_cases c:t<L
  ·rw[au (show t+1<=L from c),au (dW c),au c,au c];exact R.next t c
  ·have e:t=L:=by omega
   subst e;rw[aq (by omega),au (aP t),aq c,aq c]
structure LJ(n m:Nat)(S:Nat->Nat->Bool)(wt:Nat->Int):Prop where
 n10:n<=10
 m40:m<=40
 wb:∀p,p<n->0<=wt p/\wt p<=99
 cov:∀p,p<n->∃k,k<m/\S k p=true
theorem LJ.tg(h:LJ n m S wt)(g:Sx.Good n m S wt T):TG n m S wt T:=⟨g,h.n10,h.m40,h.wb,h.cov⟩
noncomputable def OL(n m:Nat)(T:Sx.Tab)(x:V):Prop:=(x=.non/\∀c,c<n->0<=T.cell m c)\/∃q:Nat,x=.int (q:Int)/\q<n/\T.cell m q<0/\∀c,c<n->T.cell m c<0->T.col q<=T.col c
noncomputable def RL(K:af)(C o:ag)(H0:Hp)(n m:Nat)(S:Nat->Nat->Bool)(wt:Nat->Int)(k:Nat)(σ:St)(H:Hp):Prop:=
 ∃(Ts:Nat->Sx.Tab) (ps qs:Nat->Nat) (L:Nat) (x:V),Sx.Run n m S wt Ts ps qs L/\L+k=2^(n+m)/\m6 K C H0 H o n m (Ts L)/\σ=[some (.ref o),some x]/\OL n m (Ts L) x
inductive Jo(K:af)(C:ag)(vs:List V)(H:Hp)(Q:VK)(E_:XK):Prop
 |mk(o:ag)(H0:Hp)(n m:Nat)(S:Nat->Nat->Bool)(wt:Nat->Int)(T:Sx.Tab)(_:vs=[.ref o])(_:m6 K C H0 H o n m T)(_:LJ n m S wt)(_:Sx.Good n m S wt T)(_:∀T' H',m6 K C H0 H' o n m T'->Sx.Good n m S wt T'->(∀c,c<n->0<=T'.cell m c)->Q .non H')
theorem Yx{f f1 f2 f3 C:ag}
  {fd d1 d2 d3:χ}
  (F:pV K "solve" "Tableau.solve" gB f fd)
  (Cc:wm K C)(bD:iF K C "cells")(dR:iF K C "over")(bA:iF K C "columns")(cV:iF K C "rows")(D1:Ke K C "next_column" "Tableau.next_column" Mb ["self"] f1 d1)(V3:gx P w K mg base kG 1 f1 d1 ["self"] (Jr K C))(D2:Ke K C "turn" "Tableau.turn" iB ["self","row","column"] f2 d2)(G2:gx P w K mg base kG 2 f2 d2 ["self","row","column"] (Oc K C))(D3:Ke K C "next_row" "Tableau.next_row" LV ["self","column"] f3 d3)(G3:gx P w K mg base kG 2 f3 d3 ["self","column"] (Og K C)):
  gx P w K mg base kG 3 f fd ["self"] (Jo K C):=by
 have G1:gx P w K mg base kG 2 f1 d1 ["self"] (Jr K C):=V3.mono (by decide);refine F.dD ["self","column"] λH Q hr h=>?_;obtain⟨o,H0,n,m,S,wt,T,rfl,hT,hS,hg,qq⟩:=h;refine⟨_,(aN (pS 1 (vy (pv 0) Cc D1.m G1 hr D1.b .nil k8)) (aY (vw Fw (gU CC (pv 1) xf) (aN (oR (r9 (pv 0) Cc D2.m G2 hr D2.b .nil k8 (aj (r9 (pv 0) Cc D3.m G3 hr D3.b .nil k8 (aj (pv 1) ak)) (aj (pv 1) ak)))) (aY (pS 1 (vy (pv 0) Cc D1.m G1 hr D1.b .nil k8))))))),?_⟩;have key:∀(x:V) (H1:Hp),m6 K C H0 H1 o n m T->OL n m T x->∃k,RL K C o H0 n m S wt k [some (.ref o),some x] H1:=λx H1 h1 h2=>
  ⟨2^(n+m),λ_=>T,λ_=>0,λ_=>0,0,x,⟨hg,λt ht=>absurd ht (Tn t),λt ht=>absurd ht (Tn t)⟩,Nat.zero_add _,h1,rfl,h2⟩
 obtain⟨dx,cl,co,ro,rws,hA0⟩:=id hT;refine⟨_,rfl,o,dx,_,rfl,hA0.at_,rfl,o,H0,n,m,S,wt,T,rfl,hT,hS.tg hg,?a,?b⟩
 case' a=>
  intro h H1 s1;have w0:=key _ _ (hT.sm s1) (.inl ⟨rfl,h⟩);refine⟨RL K C o H0 n m S wt,w0,?_⟩;clear w0 s1 h
 case' b=>
  intro q H1 hq hn he s1;have w0:=key _ _ (hT.sm s1) (.inr ⟨q,rfl,hq,hn,he⟩);refine⟨RL K C o H0 n m S wt,w0,?_⟩;clear w0 s1 he hn hq q
 all_goals
  clear H1;intro k σ H1 h;obtain⟨Ts,ps,qs,L,x,R,hk,⟨dx',cl,co,ro,rws,hA⟩,rfl,hx⟩:=h;have hgL:=R.good L (aP L);have hG:=hS.tg hgL;have hsh:=R.short;rcases hx with⟨rfl,hx⟩|⟨q,rfl,hq,hn,he⟩
  ·refine⟨_,rfl,rfl,_,rfl,?_⟩;apply kL;exact qq (Ts L) H1 ⟨dx',cl,co,ro,rws,hA⟩ hgL hx
  ·refine⟨_,rfl,rfl,_,rfl,?_⟩;apply si;refine⟨RL K C o H0 n m S wt (k-1),λσ' H' z=>⟨k-1,by omega,z⟩,?_⟩;refine⟨_,rfl,o,dx',_,rfl,hA.at_,rfl,_,rfl,o,dx',_,rfl,hA.at_,rfl,_,rfl,o,H0,n,m,q,S,wt,Ts L,rfl,⟨dx',cl,co,ro,rws,hA⟩,hG,hq,λp hp h0 hlev=>?_⟩;have st:Sx.Step n m (Ts L) p q:=⟨hp,hq,hn,he,h0,hlev⟩;refine⟨_,rfl,o,H0,n,m,p,q,S,wt,Ts L,rfl,⟨dx',cl,co,ro,rws,hA⟩,hG,hp,hq,λH2 hT2=>?_⟩;have R2:=Pb R st;have g2:=st.good hgL;obtain⟨dx2,cl2,co2,ro2,ab0,W4⟩:=id hT2;have fin:∀(x:V) (H3:Hp),Same H2 H3->OL n m (Sx.turn (Ts L) p q) x->RL K C o H0 n m S wt (k-1) [some (.ref o),some x] H3:=λx H3 s3 hx=>by
    refine⟨_,_,_,L+1,x,R2,by omega,?_,rfl,?_⟩
    ·rw[aq (by omega)];exact hT2.sm s3
    ·rw[aq (by omega)];exact hx
   exact⟨_,rfl,o,dx2,_,rfl,W4.at_,rfl,o,H0,n,m,S,wt,_,rfl,hT2,hS.tg g2,λh H3 s3=>fin _ H3 s3 (.inl ⟨rfl,h⟩),λq' H3 hq' hn' he' s3=>fin _ H3 s3 (.inr ⟨q',rfl,hq',hn',he'⟩)⟩
noncomputable def P7(k:Nat)(i:Int)(r:Nat):Prop:=(i=(r:Int)/\r<=k)\/(i=-1/\r=k)
inductive yc(K:af)(C:ag)(vs:List V)(H:Hp)(Q:VK)(E_:XK):Prop
 |mk(o:ag)(H0:Hp)(n m r c:Nat)(i j:Int)(S:Nat->Nat->Bool)(wt:Nat->Int)(T:Sx.Tab)(_:vs=[.ref o,.int i,.int j])(_:m6 K C H0 H o n m T)(_:TG n m S wt T)(_:P7 m i r)(_:P7 n j c)(_:∀p H' u v,Same H H'->H' p=some (.tup [.int u,.int ((v:Nat):Int)])->yi (T.cell r c) T.over.toNat u v->Q (.ref p) H')
theorem YD{f C:ag}{fd:χ}
  (F:pV K "fraction_at" "Tableau.fraction_at" Fm f fd)
  (Cc:wm K C)(bD:iF K C "cells")(dR:iF K C "over")(bA:iF K C "columns")(cV:iF K C "rows")(D1:Dp P w K mg base 2 "lowest" fU ["a","b"] (qz K)):
  gx P w K mg base kG 3 f fd ["self","row","column"] (yc K C):=by
 refine F.M7 ["self","row","column"] λcdv A outer s H vs Q E hr h=>?_;obtain⟨o,H0,n,m,r,c,i,j,S,wt,T,rfl,⟨dx,cl,co,ro,rws,hT⟩,hG,hi,hj,qq⟩:=h;refine⟨_,(aY (bK (pd D1 hr (aj (bw uK (bw uK (rJ (pv 0) rfl) (pv 1)) (pv 2)) (aj (rJ (pv 0) rfl) ak))))),?_⟩;have hri:∃a,vT (rws.map V.ref) i=some (.ref a)/\H a=some (.lst (bC n (T.cell r))):=by
  rcases hi with⟨rfl,h⟩|⟨rfl,rfl⟩
  ·obtain⟨a,_,h1,h2⟩:=hT.K5 h;exact⟨a,h1,h2⟩
  ·obtain⟨a,_,h1,h2⟩:=hT.aap;exact⟨a,h1,h2⟩
 have hcj:vT (bC n (T.cell r)) j=some (.int (T.cell r c)):=by
  rcases hj with⟨rfl,h⟩|⟨rfl,rfl⟩
  ·exact fO _ h
  ·exact rW _ _
 obtain⟨a,h1,h2⟩:=hri;have ho:=hG.over;refine⟨_,rfl,o,C,dx,_,_,rfl,hT.at_,Cc,bD,rfl,_,rfl,cl,_,_,_,rfl,rfl,ja.of hT.cells,h1,_,rfl,a,_,_,_,rfl,rfl,ja.of h2,hcj,?_⟩;refine⟨_,rfl,o,C,dx,_,_,rfl,hT.at_,Cc,dR,rfl,T.cell r c,T.over.toNat,?_,by omega,dH (show T.over.toNat<=39916800 by omega) (by decide),λp H' u v s e l=>qq p H' u v s e l⟩;rw[show((T.over.toNat:Nat):Int)=T.over by omega];rfl
theorem Dj(hb:0<b)(h:yi 0 1 u v):yi 0 b u v:=by
 have e:=h.eq;have hu:u=0:=by omega
 subst hu;have c:=h.cop;rw[show(0:Int).natAbs=0 from rfl,Nat.gcd_zero_left]at c;subst c;exact⟨by decide,rfl,by omega,aP _,hb,λ_=>u5 _⟩
inductive Jq(K:af)(C:ag)(vs:List V)(H:Hp)(Q:VK)(E_:XK):Prop
 |mk(o:ag)(H0:Hp)(n m a:Nat)(S:Nat->Nat->Bool)(wt:Nat->Int)(T:Sx.Tab)(_:vs=[.ref o,.int (a:Int)])(_:m6 K C H0 H o n m T)(_:TG n m S wt T)(_:∀p H' u v,Same H H'->H' p=some (.tup [.int u,.int ((v:Nat):Int)])->yi (Sx.Xs n m T a) T.over.toNat u v->Q (.ref p) H')
theorem Yz{f f2 C:ag}
  {fd d2:χ}
  (F:pV K "price_of" "Tableau.price_of" LW f fd)
  (Cc:wm K C)(bD:iF K C "cells")(dR:iF K C "over")(bA:iF K C "columns")(cV:iF K C "rows")(D1:Dp P w K mg base 2 "lowest" fU ["a","b"] (qz K))(D2:Ke K C "fraction_at" "Tableau.fraction_at" Fm ["self","row","column"] f2 d2)(G2:gx P w K mg base kG 3 f2 d2 ["self","row","column"] (yc K C)):
  gx P w K mg base kG 4 f fd ["self","name"] (Jq K C):=by
 refine F.M7 ["self","name"] λcdv A outer s H vs Q E hr h=>?_;obtain⟨o,H0,n,m,a,S,wt,T,rfl,⟨dx,cl,co,ro,rws,hT⟩,hG,qq⟩:=h;refine⟨_,(aN (iK (gU (rZ hr.units) (pv 1) (rJ (pv 0) rfl) (by with_unfolding_all rfl)) (aY (bK (pd D1 hr (aj aL (aj aL ak))))) iM) (aY (bK (r9 (pv 0) Cc D2.m G2 hr D2.b .nil k8 (aj (ww E3 NI NH sG (rJ (pv 0) rfl) (aj (pv 1) ak)) (aj (tN sv aL) ak)))))),?_⟩;have ho:=hG.over;refine⟨_,rfl,_,rfl,o,C,dx,_,_,rfl,hT.at_,Cc,cV,rfl,ro,_,_,.int (a:Int),rfl,.inl (ja.of hT.rows),cY.ints _,.int _,Fd _,rfl,(by show 0<=60;decide),_,rfl,?_⟩;rw[Nk];refine nE (λc=>?_) (λc=>?_)
 ·have c':((a:Nat):Int)∉cJ m T.row:=by
   intro hm;rw[cI hm]at c;cases c
  refine⟨0,1,rfl,by decide,by decide,λp H' u v s e l=>qq p H' u v s e ?_⟩;rw[Sx.Wg λr hr z=>c' (by
   have:=IW T.row hr;rw[z]at this;exact oF this)]
  exact Dj (by omega) l
 ·have c':((a:Nat):Int)∈cJ m T.row:=by
   refine E4 λhm=>c ?_;rw[gY hm];rfl
  obtain⟨r,hr1,er⟩:=Bs c';have hr0:r<m:=by rw[Ko]at hr1;exact hr1
  have e0:=cU hr1;rw[er]at e0;have ea:T.row r=a:=by
   rw[IW _ hr0]at e0;exact FT (uw e0)
  subst ea;refine⟨_,rfl,o,dx,_,rfl,hT.at_,rfl,_,rfl,o,C,dx,_,_,rfl,hT.at_,Cc,cV,rfl,.inl ⟨rfl,_,ja.of hT.rows⟩,_,rfl,ro,cJ m T.row,_,r,rfl,rfl,hT.rows,IW _ hr0,λi hi e=>?_,by rw[Ko];have:=hG.m40;omega,?_⟩
  ·rw[IW _ (by omega)]at e;have:=hG.good.Pq i r (by omega) hr0 (FT (uw e));omega
  ·refine⟨_,rfl,o,H0,n,m,r,n,_,_,S,wt,T,rfl,⟨dx,cl,co,ro,rws,hT⟩,hG,.inl ⟨rfl,dW hr0⟩,.inr ⟨rfl,rfl⟩,λp H' u v s e l=>qq p H' u v s e ?_⟩;rw[hG.good.Wi hr0];exact l
inductive Jp(K:af)(C:ag)(vs:List V)(H:Hp)(Q:VK)(E_:XK):Prop
 |mk(o:ag)(H0:Hp)(n m a:Nat)(S:Nat->Nat->Bool)(wt:Nat->Int)(T:Sx.Tab)(_:vs=[.ref o,.int (a:Int)])(_:m6 K C H0 H o n m T)(_:TG n m S wt T)(_:∀p H' u v,Same H H'->H' p=some (.tup [.int u,.int ((v:Nat):Int)])->yi (Sx.Ys n m T a) T.over.toNat u v->Q (.ref p) H')
theorem Yy{f f2 C:ag}
  {fd d2:χ}
  (F:pV K "share_of" "Tableau.share_of" LX f fd)
  (Cc:wm K C)(bD:iF K C "cells")(dR:iF K C "over")(bA:iF K C "columns")(cV:iF K C "rows")(D1:Dp P w K mg base 2 "lowest" fU ["a","b"] (qz K))(D2:Ke K C "fraction_at" "Tableau.fraction_at" Fm ["self","row","column"] f2 d2)(G2:gx P w K mg base kG 3 f2 d2 ["self","row","column"] (yc K C)):
  gx P w K mg base kG 4 f fd ["self","name"] (Jp K C):=by
 refine F.M7 ["self","name"] λcdv A outer s H vs Q E hr h=>?_;obtain⟨o,H0,n,m,a,S,wt,T,rfl,⟨dx,cl,co,ro,rws,hT⟩,hG,qq⟩:=h;refine⟨_,(aN (iK (gU (rZ hr.units) (pv 1) (rJ (pv 0) rfl) (by with_unfolding_all rfl)) (aY (bK (pd D1 hr (aj aL (aj aL ak))))) iM) (aY (bK (r9 (pv 0) Cc D2.m G2 hr D2.b .nil k8 (aj (tN sv aL) (aj (ww E3 NI NH sG (rJ (pv 0) rfl) (aj (pv 1) ak)) ak)))))),?_⟩;have ho:=hG.over;refine⟨_,rfl,_,rfl,o,C,dx,_,_,rfl,hT.at_,Cc,bA,rfl,co,_,_,.int (a:Int),rfl,.inl (ja.of hT.cols),cY.ints _,.int _,Fd _,rfl,(by show 0<=60;decide),_,rfl,?_⟩;rw[Nk];refine nE (λc=>?_) (λc=>?_)
 ·have c':((a:Nat):Int)∉cJ n T.col:=by
   intro hm;rw[cI hm]at c;cases c
  refine⟨0,1,rfl,by decide,by decide,λp H' u v s e l=>qq p H' u v s e ?_⟩;rw[Sx.aad λr hr z=>c' (by
   have:=IW T.col hr;rw[z]at this;exact oF this)]
  exact Dj (by omega) l
 ·have c':((a:Nat):Int)∈cJ n T.col:=by
   refine E4 λhm=>c ?_;rw[gY hm];rfl
  obtain⟨r,hr1,er⟩:=Bs c';have hr0:r<n:=by rw[Ko]at hr1;exact hr1
  have e0:=cU hr1;rw[er]at e0;have ea:T.col r=a:=by
   rw[IW _ hr0]at e0;exact FT (uw e0)
  subst ea;refine⟨_,rfl,o,dx,_,rfl,hT.at_,rfl,_,rfl,_,rfl,o,C,dx,_,_,rfl,hT.at_,Cc,bA,rfl,.inl ⟨rfl,_,ja.of hT.cols⟩,_,rfl,co,cJ n T.col,_,r,rfl,rfl,hT.cols,IW _ hr0,λi hi e=>?_,by rw[Ko];have:=hG.n10;omega,?_⟩
  ·rw[IW _ (by omega)]at e;have:=hG.good.HX i r (by omega) hr0 (FT (uw e));omega
  ·refine⟨o,H0,n,m,m,r,_,_,S,wt,T,rfl,⟨dx,cl,co,ro,rws,hT⟩,hG,.inr ⟨rfl,rfl⟩,.inl ⟨rfl,dW hr0⟩,λp H' u v s e l=>qq p H' u v s e ?_⟩;rw[hG.good.aae hr0];exact l
noncomputable def cC(L:List ζ)(k p:Nat):Bool:=decide (((p:Nat):Int)∈L.getD k [])
noncomputable def jT(wl:ζ)(p:Nat):Int:=wl.getD p 0
theorem Yj(hr:r<m):((am n).map λ(p:Nat)=>if decide (((p:Nat):Int)∈L.getD r [])=true then(1:Int)else 0).map V.int++[.int 1]=bC n ((Sx.start n m (cC L) wt).cell r):=by
 unfold bC;rw[xq,bR,bR];congr 1
 ·refine jQ _ (Xm λc hc=>?_);have hc':=nu.mp hc;show _=if r=m then _ else if c=n then(1:Int)else if cC L r c=true then 1 else 0
  rw[aq (show¬r=m by omega),aq (show¬c=n by omega)];rfl
 ·show[V.int 1]=[V.int (if r=m then _ else if n=n then(1:Int)else _)];rw[aq (by omega),au rfl]
theorem Uc:(wl.map λx=> -x).map V.int++[.int 0]=bC wl.length ((Sx.start wl.length m (cC L) (jT wl)).cell m):=by
 unfold bC;rw[xq,bR,bR];congr 1
 ·refine jQ _ (KM λi=>?_);rw[dI,dI];by_cases hi:i<wl.length
  ·rw[cU hi,Tt hi];show some (-wl[i])=some (if m=m then(if i=wl.length then(0:Int)else -(wl.getD i 0))else _);rw[au rfl,aq (by omega),dY,cU hi];rfl
  ·rw[Xq (by omega),Xq (by rw[uM];omega)];rfl
 ·show[V.int 0]=[V.int (if m=m then(if wl.length=wl.length then(0:Int)else _)else _)];rw[au rfl,au rfl]
theorem _root_.L2.SqT.abq(hO:H o=some (.ins C dx fs))(h:SqT K H a xs):SqT K (upd H o u) a xs:=by
 rcases h with(h|⟨ob,h⟩)|h
 ·exact .inl (.inl (by rw[cF (rX h hO λe=>nomatch e)];exact h))
 ·exact .inl (.inr ⟨ob,by rw[cF (rX h hO λe=>nomatch e)];exact h⟩)
 ·exact .inr h
inductive zj(K:af)(C:ag)(vs:List V)(H:Hp)(Q:VK)(E_:XK):Prop
 |mk(o dx sl wa:ag)(H0:Hp)(ae:List (ag×ζ))(wl:ζ)(_:vs=[.ref o,.ref sl,.ref wa])(_:H o=some (.ins C dx []))(_:Same H0 H)(_:H0 o=none)(_:H sl=some (.lst (ae.map λp=>V.ref p.1)))(_:∀p∈ae,SqT K H p.1 (p.2.map V.int))(_:SqT K H wa (wl.map V.int))(_:wl.length<=10)(_:ae.length<=40)(_:∀H',m6 K C H0 H' o wl.length ae.length (Sx.start wl.length ae.length (cC (ae.map (·.2))) (jT wl))->Q .non H')
theorem Uo{f C:ag}{fd:χ}
  (F:pV K "__init__" "Tableau.__init__" iC f fd)
  (Cc:wm K C)(bD:iF K C "cells")(dR:iF K C "over")(bA:iF K C "columns")(cV:iF K C "rows")(bU:mg "len"=none)(aF:mg "range"=none)(gD:mg "list"=none):
  gx P w K mg base kG 1 f fd ["self","sets","wants"] (zj K C):=by
 refine F.dD ["self","sets","wants","n"] λH Q hr h=>?_;obtain⟨o,dx,sl,wa,H0,ae,wl,rfl,hO,hS0,h0,hS,hP,hW,hn,hm,qq⟩:=h;refine eX ?_;intro Y;refine⟨_,(aN (pS 3 (pB wZ bU (aj (pv 2) ak))) (aN (ut (pv 0) (pK ["some"] ["n"] [3] (ur (pv 1)) (pG 0) lF (dF sT (pK ["place"] ["some"] [0] (Kp rfl aF (aj (pv 1) ak)) (pG 0) lF (xA (gU (kI K hr.units) (pv 0) (pv 1) (by with_unfolding_all rfl)) aL aL)) (rd (aj aL ak)))) rfl) (aN (oR (ww E3 gE PySem.F.type_list_append AL (rJ (pv 0) rfl) (aj (dF sT (pK ["want"] [] [] (EY (pv 2)) (pG 0) lF (tN sv (pv 0))) (rd (aj aL ak))) ak))) (aN (ut (pv 0) aL rfl) (aN (ut (pv 0) (ud rfl rfl gD rfl aF (aj (pv 3) ak)) rfl) (aY (ut (pv 0) (zR rfl rfl gD rfl aF (aj (pv 3) (aj (dF rk (pv 3) (pB wZ bU (aj (pv 1) ak))) ak))) rfl))))))),?_⟩;refine Su ?_;intro c6 c5 c4 c3 c2;refine⟨_,rfl,wa,_,rfl,.inr hW,λ_=>?_⟩;rw[aD];refine⟨_,rfl,sl,_,rfl,ja.of hS,λhz=>?_⟩;let xV:Nat->List V->St->Hp->Prop:=λi acc σ H'=>∃as:η,acc=as.map V.ref/\as.length=i/\Same H H'/\(∀r a,as[r]? =some a->H' a=some (.lst (bC wl.length ((Sx.start wl.length ae.length (cC (ae.map (·.2))) (jT wl)).cell r))))/\∃o1,σ=[o1,some (.int (wl.length:Int))];refine w6 (xs:=ae.map λp=>V.ref p.1) xV ⟨[],rfl,rfl,Same.refl _,λr a e=>(nomatch e),_,rfl⟩ (λi acc σ H' _ x=>?_) (λi acc σ H' _ x=>?_) hz (λi v acc σ H1 hv x=>?_) (λacc σ H1 x=>?_)
 ·obtain⟨_,_,_,sm,_⟩:=x;exact sm.seq (ja.of hS)
 ·obtain⟨as,rfl,hl,_⟩:=x;rw[aD,hl];exact aP _
 ·obtain⟨as,rfl,hl,sm,has,o1,rfl⟩:=x;rw[dI]at hv;cases ev:ae[i]? with
  |none=>rw[ev]at hv;cases hv
  |some it=>
   rw[ev]at hv;cases hv;have him:i<ae.length:=(oG.mp ev).1;have hit:=hP it (oF ev);have eg:(ae.map (·.2)).getD i []=it.2:=by rw[dY,dI,ev];rfl
   refine⟨_,rfl,_,rfl,by omega,by omega,?_⟩;let Mu:Nat->List V->St->Hp->Prop:=λc acc σ H'=>acc=((am c).map λ(p:Nat)=>if decide (((p:Nat):Int)∈it.2)=true then(1:Int)else 0).map V.int/\H'=H1/\∃o2,σ=[o2,some (.ref it.1)];refine Nm (n:=wl.length) Mu ⟨rfl,rfl,_,rfl⟩ (λc acc σ H' hc y=>?_) (by rw[gF];omega) (λc acc σ H' hc y=>?_) (λacc σ H' y=>?_)
   ·rw[y.1,aD,aD,uM];exact aP _
   ·obtain⟨rfl,rfl,o2,rfl⟩:=y;refine⟨_,rfl,_,rfl,it.1,_,_,.int (0+(c:Int)),rfl,.inr (sm.tup hit),cY.ints _,.int _,Fd _,rfl,(by show 0<=60;decide),_,rfl,?_⟩;rw[Nk,EJ];refine nE (λz=>?_) (λz=>?_)
    ·exact⟨by rw[xq,bR,bR];show _=_++[V.int (if _ then _ else _)];rw[au z],rfl,_,rfl⟩
    ·exact⟨by rw[xq,bR,bR];show _=_++[V.int (if _ then _ else _)];rw[aq z],rfl,_,rfl⟩
   ·intro p1 hp1;obtain⟨rfl,rfl,_⟩:=y;have s1:=aR hp1 (.lst (((am wl.length).map λ(p:Nat)=>if decide (((p:Nat):Int)∈it.2)=true then(1:Int)else 0).map V.int));refine⟨rV,λp2 hp2=>?_⟩;have s2:=aR hp2 (.lst [.int 1]);refine⟨p1,p2,_,_,rfl,rfl,s2 _ _ aK,aK,(by rw[aD,aD,uM,gF];show _+1<=_;omega),λp3 hp3=>?_⟩;have s3:=aR hp3 (.lst (((am wl.length).map λ(p:Nat)=>if decide (((p:Nat):Int)∈it.2)=true then(1:Int)else 0).map V.int++[.int 1]));have jx:=s1.trans (s2.trans s3);refine⟨as++[p3],by rw[bR];rfl,by rw[lN,hl];rfl,sm.trans jx,λr a e=>?_,_,rfl⟩;rw[ND]at e;by_cases c:r<as.length
    ·rw[au c]at e;exact jx _ _ (has r a e)
    ·rw[aq c]at e;have er':r-as.length=0:=by
      have:=(oG.mp e).1;have:r-as.length<1:=this;omega
     rw[er']at e;cases e;have:r=i:=by omega
     subst this;rw[aK,<-Yj (wt:=jT wl) him,eg]
 ·intro p1 hp1;obtain⟨as,rfl,hl,sm,has,_⟩:=x;rw[aD]at hl;have s1:=aR hp1 (.lst (as.map V.ref));have hO1:=(sm.trans s1) _ _ hO;refine⟨_,rfl,o,C,dx,_,rfl,hO1,Cc,bD,(by show 0<1000;decide),?_⟩
  have np:p1≠o:=(oA (sm _ _ hO) hp1).symm;have h10:H p1=none:=sm.none hp1;have RD:∀r a,as[r]? =some a->a≠o/\a≠p1:=λr a e=>⟨λz=>(by have y:=has r a e;rw[z,sm _ _ hO]at y;cases y),λz=>(by have y:=has r a e;rw[z,hp1]at y;cases y)⟩;have W2:SqT K (upd (upd H1 p1 (.lst (as.map V.ref))) o (.ins C dx (qk "cells" (.ref p1) []))) wa (wl.map V.int):=((sm.trans s1).tup hW).abq hO1;have S2:(upd (upd H1 p1 (.lst (as.map V.ref))) o (.ins C dx (qk "cells" (.ref p1) []))) sl=some (.lst (ae.map λp=>V.ref p.1)):=by
   rw[cF (rX ((sm.trans s1) _ _ hS) hO1 λe=>nomatch e)];exact(sm.trans s1) _ _ hS
  have A2:∀r a,as[r]? =some a->(upd (upd H1 p1 (.lst (as.map V.ref))) o (.ins C dx (qk "cells" (.ref p1) []))) a=some (.lst (bC wl.length ((Sx.start wl.length ae.length (cC (ae.map (·.2))) (jT wl)).cell r))):=λr a e=>by
   rw[cF (RD r a e).1];exact s1 _ _ (has r a e)
  have P2:(upd (upd H1 p1 (.lst (as.map V.ref))) o (.ins C dx (qk "cells" (.ref p1) []))) p1=some (.lst (as.map V.ref)):=by rw[cF np,aK]
  have O2:(upd (upd H1 p1 (.lst (as.map V.ref))) o (.ins C dx (qk "cells" (.ref p1) []))) o=some (.ins C dx [("cells",.ref p1)]):=aK;have Z2:Same H0 (upd (upd H1 p1 (.lst (as.map V.ref))) o (.ins C dx (qk "cells" (.ref p1) []))):=Same.xJ (hS0.trans (sm.trans s1)) h0;generalize (upd (upd H1 p1 (.lst (as.map V.ref))) o (.ins C dx (qk "cells" (.ref p1) [])))=H2 at *;refine⟨_,rfl,o,C,dx,_,_,rfl,O2,Cc,bD,rfl,.inl ⟨rfl,_,ja.of P2⟩,_,rfl,wa,_,rfl,W2,λhz2=>?_⟩;let V2:Nat->List V->St->Hp->Prop:=λi acc σ H'=>acc=((wl.take i).map λx=> -x).map V.int/\H'=H2/\∃o2,σ=[o2];refine IV (xs:=wl.map V.int) V2 ⟨rfl,rfl,_,rfl⟩ (λi acc σ H' _ y=>by rw[y.2.1];exact W2) (λi acc σ H' _ y=>?_) hz2 (λi v acc σ H' hv y=>?_) (λacc σ H' y=>?_)
  ·rw[y.1,aD,aD,nR];exact u9 _ _
  ·obtain⟨rfl,rfl,o2,rfl⟩:=y;rw[dI]at hv;cases ev:wl[i]? with
   |none=>rw[ev]at hv;cases hv
   |some x=>
    rw[ev]at hv;cases hv;exact⟨_,rfl,_,rfl,by rw[rF,ev,bR,bR];rfl,rfl,_,rfl⟩
  intro p2 hp2;obtain⟨rfl,rfl,_⟩:=y;rw[aD,rE];have s2:=aR hp2 (.lst ((wl.map λx=> -x).map V.int));refine⟨rV,λp3 hp3=>?_⟩;have s3:=aR hp3 (.lst [.int 0]);refine⟨p2,p3,_,_,rfl,rfl,s3 _ _ aK,aK,(by rw[aD,aD,gF];show _+1<=_;omega),λp4 hp4=>?_⟩;have s4:=aR hp4 (.lst ((wl.map λx=> -x).map V.int++[.int 0]));have zO:=s2.trans (s3.trans s4);rw[Uc (m:=ae.length) (L:=ae.map (·.2))]at zO s4⊢;have e4:(upd (upd (upd H' p2 (.lst ((wl.map λx=> -x).map V.int))) p3 (.lst [.int 0])) p4 (.lst (bC wl.length ((Sx.start wl.length ae.length (cC (ae.map (·.2))) (jT wl)).cell ae.length)))) p4=some (.lst (bC wl.length ((Sx.start wl.length ae.length (cC (ae.map (·.2))) (jT wl)).cell ae.length))):=aK;have n4:p4≠p1:=(oA (s3 _ _ (s2 _ _ P2)) hp4).symm;have n4o:p4≠o:=(oA (s3 _ _ (s2 _ _ O2)) hp4).symm;have P3:=zO _ _ P2;have O3:=zO _ _ O2;have S3:=zO _ _ S2;have Z3:=Z2.trans zO;have A3:∀r a,as[r]? =some a->_:=λr a e=>zO _ _ (A2 r a e);generalize (upd (upd (upd H' p2 (.lst ((wl.map λx=> -x).map V.int))) p3 (.lst [.int 0])) p4 (.lst (bC wl.length ((Sx.start wl.length ae.length (cC (ae.map (·.2))) (jT wl)).cell ae.length))))=H3 at *;refine⟨p1,_,_,rfl,rfl,P3,(by rw[aD,gF];omega),?_⟩
  have h1n:H0 p1=none:=hS0.none h10;have nos:o≠p1:=np.symm;have nsl:sl≠p1:=(oA hS h10);have C4:(upd H3 p1 (.lst (as.map V.ref++[.ref p4]))) p1=some (.lst ((as++[p4]).map V.ref)):=by rw[aK,bR];rfl
  have O4:(upd H3 p1 (.lst (as.map V.ref++[.ref p4]))) o=some (.ins C dx [("cells",.ref p1)]):=by rw[cF nos];exact O3
  have S4:(upd H3 p1 (.lst (as.map V.ref++[.ref p4]))) sl=some (.lst (ae.map λp=>V.ref p.1)):=by rw[cF nsl];exact S3
  have Z4:Same H0 (upd H3 p1 (.lst (as.map V.ref++[.ref p4]))):=Same.xJ Z3 h1n;have R4:∀r a,(as++[p4])[r]? =some a->(upd H3 p1 (.lst (as.map V.ref++[.ref p4]))) a=some (.lst (bC wl.length ((Sx.start wl.length ae.length (cC (ae.map (·.2))) (jT wl)).cell r)))/\a≠o:=λr a e=>by
   rw[ND]at e;by_cases c:r<as.length
   ·rw[au c]at e;refine⟨?_,(RD r a e).1⟩;rw[cF (RD r a e).2];exact A3 r a e
   ·rw[aq c]at e;have er':r-as.length=0:=by
     have:=(oG.mp e).1;have:r-as.length<1:=this;omega
    rw[er']at e;cases e;have:r=ae.length:=by omega
    subst this;refine⟨?_,n4o⟩;rw[cF n4];exact e4
  generalize (upd H3 p1 (.lst (as.map V.ref++[.ref p4])))=H4 at *;refine⟨_,rfl,o,C,dx,_,rfl,O4,Cc,dR,(by show 1<1000;decide),?_⟩;have O5:(upd H4 o (.ins C dx (qk "over" (.int 1) [("cells",.ref p1)]))) o=some (.ins C dx [("cells",.ref p1),("over",.int 1)]):=aK;have k5:∀b u,b≠o->H4 b=some u->(upd H4 o (.ins C dx (qk "over" (.int 1) [("cells",.ref p1)]))) b=some u:=λb u hb e=>by rw[cF hb];exact e
  have nso:sl≠o:=rX S4 O4 λe=>nomatch e
  have C5:=k5 _ _ np C4;have S5:=k5 _ _ nso S4;have Z5:Same H0 (upd H4 o (.ins C dx (qk "over" (.int 1) [("cells",.ref p1)]))):=Same.xJ Z4 h0;have R5:∀r a,(as++[p4])[r]? =some a->_:=λr a e=>k5 _ _ (R4 r a e).2 (R4 r a e).1;generalize (upd H4 o (.ins C dx (qk "over" (.int 1) [("cells",.ref p1)])))=H5 at *;refine⟨_,rfl,(wl.length:Int),rfl,by omega,by omega,λco hco=>?_⟩;have s6:=aR hco (.lst (dh (wl.length:Int).toNat));have O6:=s6 _ _ O5;refine⟨_,rfl,o,C,dx,_,rfl,O6,Cc,bA,(by show 2<1000;decide),?_⟩;have nco:co≠o:=(oA O5 hco).symm;have k7:∀b u,b≠o->(upd H5 co (.lst (dh (wl.length:Int).toNat))) b=some u->(upd (upd H5 co (.lst (dh (wl.length:Int).toNat))) o (.ins C dx (qk "columns" (.ref co) [("cells",.ref p1),("over",.int 1)]))) b=some u:=λb u hb e=>by rw[cF hb];exact e
  have O7:(upd (upd H5 co (.lst (dh (wl.length:Int).toNat))) o (.ins C dx (qk "columns" (.ref co) [("cells",.ref p1),("over",.int 1)]))) o=some (.ins C dx [("cells",.ref p1),("over",.int 1),("columns",.ref co)]):=aK;have C7:=k7 _ _ np (s6 _ _ C5);have S7:=k7 _ _ nso (s6 _ _ S5);have L7:=k7 _ _ nco aK;have R7:∀r a,(as++[p4])[r]? =some a->_:=λr a e=>k7 _ _ (R4 r a e).2 (s6 _ _ (R5 r a e));have Z7:Same H0 (upd (upd H5 co (.lst (dh (wl.length:Int).toNat))) o (.ins C dx (qk "columns" (.ref co) [("cells",.ref p1),("over",.int 1)]))):=Same.xJ (Z5.trans s6) h0;have c0:H0 co=none:=Z5.none hco;have ncr:co∉as++[p4]:=λhm=>by
   obtain⟨r,hr1,e⟩:=Bs hm;have:=R5 r _ (cU hr1);rw[e,hco]at this;cases this
  generalize (upd (upd H5 co (.lst (dh (wl.length:Int).toNat))) o (.ins C dx (qk "columns" (.ref co) [("cells",.ref p1),("over",.int 1)])))=H7 at *;refine⟨_,rfl,_,rfl,_,rfl,sl,_,rfl,.inl (ja.of S7),λ_=>⟨_,_,rfl,rfl,_,_,rfl,by omega,?_,?_,λro hro=>?_⟩⟩
  ·rw[aD];omega
  ·rw[aD];omega
  rw[aD];have s8:=aR hro (.lst ((qK (wl.length:Int) ((wl.length:Int)+(ae.length:Int)-(wl.length:Int)).toNat).map V.int));have O8:=s8 _ _ O7;refine⟨_,rfl,o,C,dx,_,rfl,O8,Cc,cV,(by show 3<1000;decide),?_⟩;have nro:ro≠o:=(oA O7 hro).symm;have k9:∀b u,b≠o->(upd H7 ro (.lst ((qK (wl.length:Int) ((wl.length:Int)+(ae.length:Int)-(wl.length:Int)).toNat).map V.int))) b=some u->(upd (upd H7 ro (.lst ((qK (wl.length:Int) ((wl.length:Int)+(ae.length:Int)-(wl.length:Int)).toNat).map V.int))) o (.ins C dx (qk "rows" (.ref ro) [("cells",.ref p1),("over",.int 1),("columns",.ref co)]))) b=some u:=λb u hb e=>by rw[cF hb];exact e
  refine qq _ ⟨dx,p1,co,ro,as++[p4],Same.xJ (Z7.trans s8) h0,h0,h1n,c0,Z7.none hro,oA L7 hro,ncr,λhm=>?_,aK,k9 _ _ np (s8 _ _ C7),by rw[lN,hl];rfl,λr a e=>k9 _ _ (R4 r a e).2 (s8 _ _ (R7 r a e)),?_,?_⟩
  ·obtain⟨r,hr1,e⟩:=Bs hm;have:=R7 r _ (cU hr1);rw[e,hro]at this;cases this
  ·rw[k9 _ _ nco (s8 _ _ L7)];congr 2;unfold dh cJ;rw[Kq,show(wl.length:Int).toNat=wl.length by omega];rfl
  ·rw[k9 _ _ nro aK];congr 2;unfold qK cJ;rw[show((wl.length:Int)+(ae.length:Int)-(wl.length:Int)).toNat=ae.length by omega];refine jQ _ (Xm λk _=>?_);show(wl.length:Int)+(k:Int)=((wl.length+k:Nat):Int);omega
end
noncomputable def aH(a:Int)(b:Nat):Int×Nat:=(a/((az a.natAbs b:Nat):Int),b/az a.natAbs b)
theorem Fp(a)(hb:0<b):yi a b (aH a b).1 (aH a b).2:=Qv a b hb
theorem Qu(hb:0<b)(h:yi a b u v)(h':yi a b u' v'):u=u'/\v=v':=by
 have e1:=h.eq;have e2:=h'.eq;have bi:(0:Int)<(b:Int):=by omega
 have cr:u*(v':Int)=u'*(v:Int):=by
  refine PC (a:=(b:Int)) (by omega) ?_;have x:(b:Int)*(u*(v':Int))=u*(b:Int)*(v':Int):=by grind
  have y:(b:Int)*(u'*(v:Int))=u'*(b:Int)*(v:Int):=by grind
  rw[x,y,e1,e2];grind
 have cn:u.natAbs*v'=u'.natAbs*v:=by
  have:=jQ Int.natAbs cr
  rwa [Fs,Fs,FA,FA]at this
 have d1:v∣v':=by
  have:v∣u.natAbs*v':=by rw[cn];exact Kx _ _
  exact(Kt h.cop).dvd_of_dvd_mul_left this
 have d2:v'∣v:=by
  have:v'∣u'.natAbs*v:=by rw[<-cn];exact Kx _ _
  exact(Kt h'.cop).dvd_of_dvd_mul_left this
 have ev:=Nat.dvd_antisymm d1 d2;subst ev;refine⟨?_,rfl⟩;have hv:=h.pos;exact Xr (a:=(v:Int)) (by omega) cr
theorem kO(hb:0<b)(h:yi a b u v):(u,v)=aH a b:=by
 obtain⟨e1,e2⟩:=Qu hb h (Fp a hb);rw[e1,e2]
theorem vX{x y:Int}(h:0<x*y)(hy:0<y):0<x:=by
 refine Int.not_le.mp λhn=>?_;have:=Br (a:= -x) (b:=y) (by omega) (by omega)
 grind
theorem Dk(hb:0<b):0<(aH a b).1↔0<a:=by
 have l:=Fp a hb;have e:=l.eq;have hv:(0:Int)<((aH a b).2:Int):=by have:=l.pos;omega
 have bi:(0:Int)<(b:Int):=by omega
 constructor
 ·intro h;have:0<(aH a b).1*(b:Int):=De h bi;rw[e]at this;exact vX this hv
 ·intro h;have:0<a*((aH a b).2:Int):=De h hv;rw[<-e]at this;exact vX this bi
structure Sh(n:Nat)(L:List ζ)(wl:ζ)(ov:Nat)(Z:Int)(Y X:Nat->Int):Prop where
 pos:0<ov
 big:ov<=39916800
 yn:∀k,0<=Y k
 xn:∀p,0<=X p
 tot:Sx.sm L.length Y=Z
 eno:∀p,p<n->(ov:Int)*jT wl p<=Sx.sm L.length λk=>if cC L k p=true then Y k else 0
 lig:∀k,k<L.length->(Sx.sm n λp=>if cC L k p=true then X p else 0)<=(ov:Int)
 wor:(Sx.sm n λp=>jT wl p*X p)=Z
 few:n<=5->ov<=40
theorem Sc(hg:TG n L.length (cC L) (jT wl) T)(hz:∀c,c<n->0<=T.cell L.length c):
  Sh n L wl T.over.toNat (T.cell L.length n) (λk=>Sx.Ys n L.length T (n+k)) (λp=>Sx.Xs n L.length T p):=by
 have ho:=hg.over;have eo:((T.over.toNat:Nat):Int)=T.over:=by omega
 refine⟨by omega,by omega,λk=>Sx.V6 hz _,λp=>hg.good.Wh _,hg.good.total,λp hp=>?_,λk hk=>?_,hg.good.prices,λh5=>by have:=hg.good.Yq h5;omega⟩
 ·rw[eo,hg.good.enough hp];have:=Sx.V6 hz p;omega
 ·rw[eo];exact hg.good.light hk
theorem Rt(h:bH ss ts false n)(hp:p<n):∃k,k<ss.length/\cC ss k p=true:=by
 have sk:m7 ts false n [(p:Int)]:=⟨FH _ _,λx hx=>by rw[jw.mp hx];omega,λx hx y hy hn=>absurd ((jw.mp hx).trans (jw.mp hy).symm) hn⟩;obtain⟨t,ht,hx⟩:=wF sk;have ht':=h.1.mem_iff.mpr ht;obtain⟨k,hk,rfl⟩:=Bs ht';refine⟨k,hk,?_⟩;unfold cC;rw[dY,cU hk];exact cI (hx _ dZ)
theorem pq(h:bH ss ts false n)(hn:n<=10):ss.length<=36:=by rw[h.1.length_eq];exact yD hn
noncomputable def bh(ss:List ζ)(ov:Nat)(Y:Nat->Int):List (ζ×(Int×Nat)):=((am ss.length).filter λk=>decide (0<Y k)).map λk=>(ss.getD k [],aH (Y k) ov)
noncomputable def uc(n ov:Nat)(X:Nat->Int):List (Int×Nat):=(am n).map λp=>aH (X p) ov
section
variable{K:af}
noncomputable def rm(K:af)(H:Hp)(a:ag)(f:Int×Nat):Prop:=SqT K H a [.int f.1,.int ((f.2:Nat):Int)]
noncomputable def RM(K:af)(H:Hp)(v:V)(q:ζ×(Int×Nat)):Prop:=∃t sa fa,v=.ref t/\SqT K H t [.ref sa,.ref fa]/\SqT K H sa (q.1.map V.int)/\rm K H fa q.2
noncomputable def jJ(K:af)(H:Hp):List V->List (ζ×(Int×Nat))->Prop:=ce (RM K H)
noncomputable def gj(K:af)(H:Hp):List V->List (Int×Nat)->Prop:=ce λv f=>∃a,v=.ref a/\rm K H a f
theorem RM.same(h:RM K H v q)(s:Same H H'):RM K H' v q:=by
 obtain⟨t,sa,fa,e,h1,h2,h3⟩:=h;exact⟨t,sa,fa,e,s.tup h1,s.tup h2,s.tup h3⟩
theorem jJ.same(h:jJ K H vs l)(s:Same H H'):jJ K H' vs l:=Paired.mapP h λ_ _ z=>z.same s
theorem gj.same(h:gj K H vs l)(s:Same H H'):gj K H' vs l:=Paired.mapP h λ_ _ ⟨a,e,z⟩=>⟨a,e,s.tup z⟩
theorem Paired.snoc{α β:Type}{R:α->β->Prop}:∀{l:List α}{m:List β}{a:α}{b:β},ce R l m->R a b->ce R (l++[a]) (m++[b])
 |_,_,_,_,.nil,h=>.cons h .nil
 |_,_,_,_,.cons r t,h=>.cons r (Paired.snoc t h)
theorem Paired.at_{α β:Type}{R:α->β->Prop}:∀{l:List α}{m:List β}{i:Nat}{a:α},ce R l m->l[i]? =some a->∃b,m[i]? =some b/\R a b
 |_,_,_,_,.nil,e=>by simp at e
 |_,_,0,_,.cons r _,e=>by simp at e;subst e;exact⟨_,rfl,r⟩
 |_,_,i+1,a,.cons _ t,e=>by
  obtain⟨b,h1,h2⟩:=Paired.at_ (i:=i) (a:=a) t (by simpa using e);exact⟨b,by simpa using h1,h2⟩
theorem Paired.dM{α β:Type}{R:α->β->Prop}:∀{l:List α}{m:List β},ce R l m->l.length=m.length
 |_,_,.nil=>rfl
 |_,_,.cons _ t=>by simp[Paired.dM t]
end
section
variable{P:υ}{w:ψ}{K:af}{mg:D0}{base:bn}
noncomputable def qd(n:Int)(wl:ζ):Prop:=(wl.length:Int)=n/\∀x∈wl,0<=x/\x<=99
theorem tj(k):(ah k true).all id=true:=by
 rw[lM];intro b hb;rw[(Fu.mp hb).2];rfl
inductive dU(K:af)(vs:List V)(H:Hp)(Q:VK)(E_:XK):Prop
 |mk(a wa:ag)(n:Int)(t:V)(wl:ζ)(_:vs=[.ref a,.ref wa])(_:SqT K H a [.int n,t])(_:SqT K H wa (wl.map V.int))(_:qd n wl)(_:∀H',Same H H'->Q .non H')
theorem zV{f:ag}{fd:χ}{tk0:Tok}
  (F:pV K "need_wants" "need_wants" EF f fd)(D1:Dp P w K mg base 1 "is_whole" Np ["thing"] (eE K))(bU:mg "len"=none)(aB:mg "isinstance"=none)(aJ:mg "tuple"=none)(dG:mg "all"=none)(Dh:mg "MOST_WANT"=some (.int 99 tk0)):
  gx P w K mg base kG 2 f fd ["web","thing"] (dU K):=by
 refine F.dD ["web","thing"] λH Q hr h=>?_;obtain⟨a,wa,n,t,wl,rfl,hA,hW,⟨hl,hb⟩,qq⟩:=h;refine eX ?_;intro Y;refine⟨_,(aN (iK (PW.pt (rH (jy (iT (pB Fo aB (aj (pv 1) (aj (pN "tuple" aJ) ak))))) (uY (gU sq (pB wZ bU (aj (pv 1) ak)) (bw cH (pv 0) aL))))) Sd iM) (aY (iK (jy (iT (pB (Fl rfl) dG (aj (pK ["want"] [] [] (EY (pv 1)) (pG 0) lF (Bw (pd D1 hr (aj (pv 0) ak)) (qE (uj tP tP aL (pv 0) (ue rfl Dh (v:=.int 99) ⟨_,rfl⟩))))) ak)))) Sd iM))),?_⟩;refine JV ?_;intro c2;refine⟨_,rfl,.ref wa,"tuple",_,rfl,.inl ⟨rfl,_,hW⟩,.inr (.inr (.inl rfl)),_,rfl,?_⟩;apply kL;refine⟨_,rfl,wa,_,rfl,.inr hW,λhz=>⟨_,rfl,a,_,_,.int n,rfl,rfl,hA,rfl,rfl,_,rfl,?_⟩⟩;have e1:(!decide (V.int (((wl.map V.int).length:Nat):Int)=V.int n))=false:=by rw[aD,hl];simp
 rw[e1];apply kL;refine⟨_,rfl,wa,_,rfl,hW,λhz=>?_⟩;let xV:Nat->List V->St->Hp->Prop:=λi acc σ H'=>acc=(ah i true).map V.bl/\H'=H/\∃o,σ=[o];refine IV (xs:=wl.map V.int) xV ⟨rfl,rfl,_,rfl⟩ (λi acc σ H' _ p=>by rw[p.2.1];exact hW) (λi acc σ H' _ p=>by rw[p.1,aD,Kw];exact aP _) hz (λi x acc σ H' hx p=>?_) (λacc σ H' p=>?_)
 ·obtain⟨rfl,rfl,o,rfl⟩:=p;rw[dI]at hx;cases ex:wl[i]? with
  |none=>rw[ex]at hx;cases hx
  |some y=>
   rw[ex]at hx;cases hx;have hy:=hb y (oF ex);refine⟨_,rfl,.int y,.int y,rfl,.int _,_,rfl,si ?_⟩;refine⟨_,rfl,_,_,rfl,rfl,_,rfl,?_⟩;rw[cI hy.1];apply si;refine⟨_,_,rfl,rfl,?_,rfl,_,rfl⟩;show _++[V.bl (decide (y<=99))]=_;rw[cI hy.2,Xo,bR];rfl
 ·intro p1 hp1;obtain⟨rfl,rfl,_⟩:=p;refine⟨p1,_,rfl,ja.of aK,_,rfl,?_⟩;rw[tj];exact kL (qq _ (aR hp1 _))
inductive jB(K:af)(vs:List V)(H:Hp)(Q:VK)(E_:XK):Prop
 |mk(a wa:ag)(n:Int)(ts:L0)(wl:ζ)(_:vs=[.ref a,.ref wa])(_:aZ K H a n ts)(_:SqT K H wa (wl.map V.int))(_:qd n wl)(_:∀(r va la pa:ag) (lrefs cu:List V) (ss:List ζ) (ov:Nat) (Z:Int) (Y X:Nat->Int) H',Same H H'->H' r=some (.tup [.ref va,.ref la,.ref pa])->rm K H' va (aH Z ov)->H' la=some (.lst lrefs)->jJ K H' lrefs (bh ss ov Y)->H' pa=some (.lst cu)->gj K H' cu (uc n.toNat ov X)->
  bH ss ts false n.toNat->Sh n.toNat ss wl ov Z Y X->H la=none->H pa=none->la≠pa->Q (.ref r) H')
theorem Li{f f4 f5 f6 f7 f8 C:ag}
  {fd d4 d5 d6 d7 d8:χ}
  (F:pV K "shares" "shares" lZ f fd)
  (Cc:wm K C)(bD:iF K C "cells")(dR:iF K C "over")(bA:iF K C "columns")(cV:iF K C "rows")(sJ:mg "Tableau"=some (.ref C))(D1:Dp P w K mg base 7 "need_web" yQ ["thing"] (aU K))(D2:Dp P w K mg base 2 "need_wants" EF ["web","thing"] (dU K))(D3:Dp P w K mg base 8 "full_apart" gH ["web"] (iW K))(D4:Ke K C "__init__" "Tableau.__init__" iC ["self","sets","wants"] f4 d4)
  (Mk4:Mk K C f4)(abW:gx P w K mg base kG 1 f4 d4 ["self","sets","wants"] (zj K C))(D5:Ke K C "solve" "Tableau.solve" gB ["self"] f5 d5)(G5':gx P w K mg base kG 3 f5 d5 ["self"] (Jo K C))(D6:Ke K C "share_of" "Tableau.share_of" LX ["self","name"] f6 d6)(G6':gx P w K mg base kG 4 f6 d6 ["self","name"] (Jp K C))(D7:Ke K C "price_of" "Tableau.price_of" LW ["self","name"] f7 d7)(G7':gx P w K mg base kG 4 f7 d7 ["self","name"] (Jq K C))(D8:Ke K C "fraction_at" "Tableau.fraction_at" Fm ["self","row","column"] f8 d8)(G8':gx P w K mg base kG 3 f8 d8 ["self","row","column"] (yc K C))(cA:mg "enumerate"=none)(aF:mg "range"=none):
  gx P w K mg base kG 9 f fd ["web","wants"] (jB K):=by
 have G4m:gx P w K mg base kG 7 f4 d4 ["self","sets","wants"] (zj K C):=abW.mono (by decide);have G5:gx P w K mg base kG 8 f5 d5 ["self"] (Jo K C):=G5'.mono (by decide);have G6:gx P w K mg base kG 8 f6 d6 ["self","name"] (Jp K C):=G6'.mono (by decide);have G7:gx P w K mg base kG 8 f7 d7 ["self","name"] (Jq K C):=G7'.mono (by decide);have G8:gx P w K mg base kG 8 f8 d8 ["self","row","column"] (yc K C):=G8'.mono (by decide);refine F.dD ["web","wants","n","sets","tableau","given","laying","prices"] λH Q hr h=>?_;obtain⟨a,wa,n,ts,wl,rfl,hA,hW,hwl,qq⟩:=h;refine eX ?_;intro Y;refine⟨_,(aN (oR (pd D1 hr (aj (pv 0) ak))) (aN (oR (pd D2 hr (aj (pv 0) (aj (pv 1) ak)))) (aN (pS 2 (bw cH (pv 0) aL)) (aN (pS 3 (pd D3 hr (aj (pv 0) ak))) (aN (pS 4 (CA Mk4 G4m hr rfl sJ D4.b .nil k8 (aj (pv 3) (aj (pv 1) ak)))) (aN (oR (vy (pv 4) Cc D5.m G5 hr D5.b .nil k8)) (aN (pX 5 ["k","some"] ["tableau","n"] [4,2] (qL rfl cA (aj (pv 3) ak)) (Kl K (n:=2) rfl (jz (pG 0) (jz (pG 1) yO))) lF (ou (aj (pv 1) (aj (r9 (pv 2) Cc D6.m G6 hr D6.b .nil k8 (aj (dF rk (pv 3) (pv 0)) ak)) ak)))) (aN (pX 6 ["share"] [] [] (ur (pv 5)) (pG 0) (Fb (gU xB (bw (Ez K) (bw (Ez K) (pv 0) aL) aL) aL)) (pv 0)) (aN (pX 7 ["place"] ["tableau"] [4] (Kp rfl aF (aj (pv 2) ak)) (pG 0) lF (r9 (pv 1) Cc D7.m G7 hr D7.b .nil k8 (aj (pv 0) ak))) (aY (bK (ou (aj (r9 (pv 4) Cc D8.m G8 hr D8.b .nil k8 (aj (tN sv aL) (aj (tN sv aL) ak))) (aj (pv 6) (aj (pv 7) ak))))))))))))))),?_⟩;refine Zk ?_;intro c10 c9 c8 c7 c6 c5 c4 c3 c2;have h0:=hA.h0;have h10:=hA.h1;refine⟨_,rfl,.ref a,_,rfl,hA.web.dv.dx,hA.ok,λH1 s1=>?_⟩;obtain⟨Jh,Jw,w1,w2,w3⟩:=id (hA.same s1).web;refine⟨_,rfl,_,rfl,a,wa,n,_,wl,rfl,w1,s1.tup hW,hwl,λH2 s2=>?_⟩;have s12:=s1.trans s2;have W4:=hA.same s12;obtain⟨tt2,rr2,x1,x2,x3⟩:=id W4.web;refine⟨_,rfl,a,_,_,.int n,rfl,rfl,x1,rfl,?_⟩;refine⟨_,rfl,a,n,ts,rfl,W4,λsl ss H3 s3 Zq eY hsl=>?_⟩;obtain⟨ae,hS,hP,hss⟩:=Zq;have jx:=s12.trans s3;have hm:ae.length=ss.length:=by rw[<-hss,aD]
 have ab9:=pq eY (by omega);have hwn:wl.length=n.toNat:=by have:=hwl.1;omega
 refine⟨_,rfl,_,rfl,λo dx ho hdx hne=>?_⟩;have sM:Same H3 (upd (upd H3 dx (.own o)) o (.ins C dx [])):=(aR hdx _).trans (aR (by rw[cF (oV hne)];exact ho) _);refine⟨o,dx,sl,wa,H3,ae,wl,rfl,aK,sM,ho,sM _ _ hS,λp hp=>sM.tup (hP p hp),sM.tup (jx.tup hW),by omega,by omega,λH4 W0=>⟨rfl,?_⟩⟩;rw[hss,hm,hwn]at W0;have aaT:LJ n.toNat ss.length (cC ss) (jT wl):=by
  refine⟨by omega,by omega,λp hp=>?_,λp hp=>Rt eY hp⟩;unfold jT;rw[dY,cU (by omega)];exact hwl.2 _ (yS _)
 obtain⟨dx4,cl4,co4,ro4,rw4,hA4⟩:=id W0;refine⟨_,rfl,o,dx4,_,rfl,hA4.at_,rfl,o,H3,n.toNat,ss.length,cC ss,jT wl,_,rfl,W0,aaT,Sx.FQ,λT H5 hT5 hg5 hz5=>?_⟩;have hG:=aaT.tg hg5;have hSh:=Sc hG hz5;obtain⟨dx5,cl5,co5,ro5,rw5,hA5⟩:=id hT5;have s35:=hA5.same;have rG:=hSh.pos;generalize hY:(λk=>Sx.Ys n.toNat ss.length T (n.toNat+k))=Y at *;generalize hX:(λp=>Sx.Xs n.toNat ss.length T p)=X at *
 refine⟨_,rfl,false,sl,_,rfl,ja.of (s35 _ _ hS),λhz=>?_⟩;let Mu:Nat->List V->St->Hp->Prop:=λi acc σ H'=>jJ K H' acc ((am i).map λk=>(ss.getD k [],aH (Y k) T.over.toNat))/\Same H5 H'/\∃o1 o2,σ=[o1,o2,some (.ref o),some (.int n)];refine jH (K:=K) (b:=false) (a:=sl) (xs:=ae.map λp=>V.ref p.1) Mu ⟨.nil,Same.refl _,_,_,rfl⟩ (λi acc σ H' _ p=>p.2.1.seq (ja.of (s35 _ _ hS))) (λi acc σ H' _ p=>?_) hz (λi v t acc σ H' hv p ht=>?_) (λacc σ H' p=>?_)
 ·rw[Paired.dM p.1,aD,uM];exact aP _
 ·obtain⟨hl,sm,o1,o2,rfl⟩:=p;rw[dI]at hv;cases ev:ae[i]? with
  |none=>rw[ev]at hv;cases hv
  |some it=>
   rw[ev]at hv;cases hv;have eg:ss.getD i []=it.2:=by rw[<-hss,dY,dI,ev];rfl
   have t1:=aR ht (.tup [.int (i:Int),.ref it.1]);have hT6:=hT5.sm (sm.trans t1);obtain⟨dx6,cl6,co6,ro6,rw6,hA6⟩:=id hT6;refine⟨t,_,rfl,SqT.of aK,rfl,_,_,rfl,_,_,rfl,rfl,?_⟩;refine⟨_,rfl,_,rfl,o,dx6,_,rfl,hA6.at_,rfl,_,rfl,_,rfl,_,_,rfl,rfl,o,H3,n.toNat,ss.length,n.toNat+i,cC ss,jT wl,T,?_,hT6,hG,λfa H7 u v' s7 e7 l7=>?_⟩
   ·rw[show(((n.toNat+i:Nat)):Int)=n+(i:Int) by omega];rfl
   ·refine⟨rV,λtp htp=>?_⟩;have s8:=aR htp (.tup [.ref it.1,.ref fa]);have s68:=t1.trans (s7.trans s8);have hlow:(u,v')=aH (Y i) T.over.toNat:=by rw[<-hY];exact kO rG l7
    refine⟨?_,sm.trans s68,_,_,rfl⟩;rw[xq,bR];refine Paired.snoc (jJ.same hl s68) ⟨tp,it.1,fa,rfl,SqT.of aK,?_,?_⟩
    ·show SqT K _ it.1 ((ss.getD i []).map V.int);rw[eg];exact(s35.trans (sm.trans s68)).tup (hP it (oF ev))
    ·show rm K _ fa (aH (Y i) T.over.toNat);rw[<-hlow];exact s8.tup (SqT.of e7)
 intro gl hgl;obtain⟨hl,sm5,_⟩:=p;rw[aD,hm]at hl;have g1:=aR hgl (.lst acc);have s6:=sm5.trans g1;have eg1:(upd H' gl (.lst acc)) gl=some (.lst acc):=aK;have hl6:=jJ.same hl g1;generalize (upd H' gl (.lst acc))=H6 at *
 refine⟨_,rfl,gl,_,rfl,ja.of eg1,λhz=>?_⟩;let V2:Nat->List V->St->Hp->Prop:=λi acc' σ H'=>H'=H6/\jJ K H6 acc' (((am i).filter λk=>decide (0<Y k)).map λk=>(ss.getD k [],aH (Y k) T.over.toNat))/\∃o1,σ=[o1];refine w6 (xs:=acc) V2 ⟨rfl,.nil,_,rfl⟩ (λi acc' σ H' _ p=>by rw[p.1];exact ja.of eg1) (λi acc' σ H' _ p=>?_) hz (λi v acc' σ H' hv p=>?_) (λacc' σ H' p=>?_)
 ·rw[Paired.dM p.2.1,aD];exact dH (vf _ _) (by rw[uM];exact aP _)
 ·obtain⟨rfl,hl',o1,rfl⟩:=p;obtain⟨qv,eq1,hv1⟩:=Paired.at_ hl6 hv;have hi:i<ss.length:=by
   have:=(oG.mp hv).1;rw[Paired.dM hl6,aD,uM]at this;exact this
  rw[dI,Tt hi]at eq1;have eq2:qv=(ss.getD i [],aH (Y i) T.over.toNat):=(uw eq1).symm;obtain⟨t,sa,fa,rfl,h1,h2,h3⟩:=id hv1;have h3':rm K H' fa (aH (Y i) T.over.toNat):=by rw[eq2]at h3;exact h3
  refine⟨_,rfl,t,_,_,.ref fa,rfl,rfl,h1,rfl,fa,_,_,.int (aH (Y i) T.over.toNat).1,rfl,rfl,h3',rfl,_,_,rfl,rfl,_,rfl,?_⟩;have go:((am (i+1)).filter λk=>decide (0<Y k))=((am i).filter λk=>decide (0<Y k))++(if decide (0<Y i)=true then[i]else[]):=by
   rw[xq,Fe];congr 1;rw[Ks];split<;>rfl
  have ed:decide (0<(aH (Y i) T.over.toNat).1)=decide (0<Y i):=decide_eq_decide.mpr (Dk rG);refine nE (λc=>?_) (λc=>?_)
  ·have c':decide (0<Y i)=true:=by rw[<-ed];exact c
   refine⟨_,rfl,rfl,?_,_,rfl⟩;rw[go,au c',bR];refine Paired.snoc hl' ?_;rw[eq2]at hv1;exact hv1
  ·have c':¬decide (0<Y i)=true:=by rw[<-ed];exact c
   refine⟨rfl,?_,_,rfl⟩;rw[go,aq c',xr];exact hl'
 intro la hla;obtain⟨rfl,hlay,_⟩:=p;rw[Paired.dM hl6,aD,uM]at hlay;have g2:=aR hla (.lst acc');have s7:=s6.trans g2;have ela:(upd H' la (.lst acc')) la=some (.lst acc'):=aK;have aaN:=jJ.same hlay g2;have Dy:=hT5.sm s7;generalize (upd H' la (.lst acc'))=H7 at *
 refine⟨_,rfl,n,rfl,by omega,by omega,?_⟩;let Pv4:Nat->List V->St->Hp->Prop:=λi Bg σ H2=>gj K H2 Bg ((am i).map λp=>aH (X p) T.over.toNat)/\Same H7 H2/\∃o1,σ=[o1,some (.ref o)];refine Nm (n:=n.toNat) Pv4 ⟨.nil,Same.refl _,_,rfl⟩ (λi Bg σ H2 hi p=>?_) (by rw[gF];omega) (λi Bg σ H2 hi p=>?_) (λBg σ H2 p=>?_)
 ·rw[Paired.dM p.1,aD,uM];exact aP _
 ·obtain⟨hf,sm,o1,rfl⟩:=p;have hT8:=Dy.sm sm;obtain⟨dx8,cl8,co8,ro8,rw8,hA8⟩:=id hT8;refine⟨_,rfl,o,dx8,_,rfl,hA8.at_,rfl,_,rfl,o,H3,n.toNat,ss.length,i,cC ss,jT wl,T,by rw[EJ];rfl,hT8,hG,λfa H9 u v' s9 e9 l9=>?_⟩;have hlow:(u,v')=aH (X i) T.over.toNat:=by rw[<-hX];exact kO rG l9
  refine⟨?_,sm.trans s9,_,rfl⟩;rw[xq,bR];refine Paired.snoc (gj.same hf s9) ⟨fa,rfl,?_⟩;show rm K H9 fa (aH (X i) T.over.toNat);rw[<-hlow];exact SqT.of e9
 intro pa hpa;obtain⟨hf,sm7,_⟩:=p;have g3:=aR hpa (.lst Bg);have s8:=sm7.trans g3;have epa:(upd H2 pa (.lst Bg)) pa=some (.lst Bg):=aK;have hf8:=gj.same hf g3;have hT8:=Dy.sm s8;have nlp:la≠pa:=oA (sm7 _ _ ela) hpa;generalize (upd H2 pa (.lst Bg))=H8 at *;obtain⟨dx8,cl8,co8,ro8,rw8,hA8⟩:=id hT8;refine⟨_,rfl,o,dx8,_,rfl,hA8.at_,rfl,_,rfl,_,rfl,o,H3,n.toNat,ss.length,ss.length,n.toNat,_,_,cC ss,jT wl,T,rfl,hT8,hG,.inr ⟨rfl,rfl⟩,.inr ⟨rfl,rfl⟩,λva H9 u v' s9 e9 l9=>?_⟩;refine⟨_,rfl,_,rfl,rV,λr hr'=>?_⟩;have s10:=aR hr' (.tup [.ref va,.ref la,.ref pa]);have O9:=s9.trans s10;have hlow:(u,v')=aH (T.cell ss.length n.toNat) T.over.toNat:=kO rG l9;refine qq r va la pa acc' Bg ss T.over.toNat (T.cell ss.length n.toNat) Y X _ (jx.trans (s35.trans (s7.trans (s8.trans O9)))) aK ?_ ((s8.trans O9) _ _ ela) (jJ.same aaN (s8.trans O9)) (O9 _ _ epa) (gj.same hf8 O9) eY hSh ?_ ?_ nlp
 ·rw[<-hlow];exact s10.tup (SqT.of e9)
 ·exact(jx.trans (s35.trans s6)).none hla
 ·exact(jx.trans (s35.trans (s7.trans sm7))).none hpa
noncomputable def nZ(D:Nat):List (Int×Nat)->Int
 |[]=>0
 |f::fs=>f.1*((D/f.2:Nat):Int)+nZ D fs
theorem uT(D):∀(l m:List (Int×Nat)),nZ D (l++m)=nZ D l+nZ D m
 |[],m=>by simp[nZ]
 |f::l,m=>by simp[nZ,uT D l m,Int.add_assoc]
theorem Am(D)(f):nZ D [f]=f.1*((D/f.2:Nat):Int):=by simp[nZ]
structure jj(D:Nat)(S:Int)(a:Int)(b:Nat):Prop where
 pos:0<b
 dvd:b∣D
 eq:a*((D/b:Nat):Int)=S
theorem jj.le(h:jj D S a b)(hD:0<D):b<=D:=FU hD h.dvd
theorem N8(hD:0<D)(h:jj D S a b)(hv:0<v)(dv:v∣D):
  jj D (S+u*((D/v:Nat):Int)) (a*((v/az b v:Nat):Int)+u*((b*(v/az b v)/v:Nat):Int)) (b*(v/az b v)):=by
 obtain⟨hb,db,he⟩:=h;have hg:0<az b v:=OX _ hb;obtain⟨b1,eb⟩:=MU b v;obtain⟨v1,ev⟩:=EN b v;have dl:Nat.lcm b v∣D:=Nat.lcm_dvd db dv;have e1:v/az b v=v1:=by
  conv=>lhs;arg 1;rw[ev]
  exact Kz _ hg
 have el:Nat.lcm b v=b*v1:=by
  unfold Nat.lcm;rw[MZ _ (EN b v),e1]
 rw[el]at dl;rw[e1];obtain⟨e,eD⟩:=dl;have hv1:0<v1:=FB λz=>by rw[z,IS]at ev;omega
 have hbv:0<b*v1:=IP hb hv1;have c1:b*v1=v*b1:=by
  have:b*v1*az b v=v*b1*az b v:=by
   have h1:b*v1*az b v=b*(az b v*v1):=by rw[FS,Xh v1]
   have h2:v*b1*az b v=v*(az b v*b1):=by rw[FS,Xh b1]
   rw[h1,h2,<-ev,<-eb,Xh]
  exact Nat.eq_of_mul_eq_mul_right hg this
 have c2:b*v1/v=b1:=by rw[c1];exact Kz _ hv
 have c3:D/(b*v1)=e:=by rw[eD];exact Kz _ hbv
 have c4:D/b=v1*e:=by rw[eD,FS];exact Kz _ hb
 have c5:D/v=b1*e:=by rw[eD,c1,FS];exact Kz _ hv
 refine⟨hbv,⟨e,eD⟩,?_⟩;rw[c2,c3,c5,<-he,c4]
 push_cast
 grind
structure IB(D:Nat)(fs:List (Int×Nat)):Prop where
 pos:0<D
 le:D<=39916800
 all:∀f∈fs,0<=f.1/\0<f.2/\f.2∣D
theorem Qn(h:k<=39916800)(x):A5 x ((k:Nat):Int):=.inr ⟨by omega,by omega⟩
inductive jY(K:af)(vs:List V)(H:Hp)(Q:VK)(E_:XK):Prop
 |mk(la:ag)(rs:List V)(fs:List (Int×Nat))(D:Nat)(_:vs=[.ref la])(_:ja K H la rs)(_:gj K H rs fs)(_:IB D fs)(_:rs.length<=1000)(_:∀(p:ag) (a:Int) (b:Nat) H',Same H H'->H' p=some (.tup [.int a,.int ((b:Nat):Int)])->jj D (nZ D fs) a b->(∀f∈fs,f.2∣b)->Q (.ref p) H')
theorem Qc{f:ag}{fd:χ}
  (F:pV K "sum_of" "sum_of" gZ f fd)(D1:Dp P w K mg base 1 "greatest_divisor" IG ["one","other"] (T3 K)):
  gx P w K mg base kG 2 f fd ["fractions"] (jY K):=by
 refine F.dD ["fractions","a","b","top","bottom","by"] λH Q hr h=>?_;obtain⟨la,rs,fs,D,rfl,hL,hF,hD,ac,q⟩:=h;refine⟨_,(aN (pS 1 aL) (aN (pS 2 aL) (aN (rS Fw rfl (ur (pv 0)) (tS rfl (jz (pG 3) (jz (pG 4) yO))) (aN (pS 5 (dF iD (pv 4) (pd D1 hr (aj (pv 2) (aj (pv 4) ak))))) (aN (pS 1 (dF rk (dF qS (pv 1) (pv 5)) (dF qS (pv 3) (dF iD (dF qS (pv 2) (pv 5)) (pv 4))))) (aY (pS 2 (dF qS (pv 2) (pv 5))))))) (aY (bK (ou (aj (pv 1) (aj (pv 2) ak)))))))),?_⟩;have hl:=Paired.dM hF;have hD0:=hD.pos;have hD1:=hD.le;refine⟨_,rfl,la,rs,rfl,hL,λhz=>?_⟩;refine ul (xs:=rs) (λi σ H'=>H'=H/\∃(a:Int) (b:Nat) (o1 o2 o3:Option V),(jj D (nZ D (fs.take i)) a b/\∀f∈fs.take i,f.2∣b)/\σ=[some (.ref la),some (.int a),some (.int ((b:Nat):Int)),o1,o2,o3]) ⟨rfl,0,1,_,_,_,⟨⟨by omega,Nat.one_dvd _,by simp[nZ]⟩,λf hf=>by simp at hf⟩,rfl⟩ (λi σ H' _ p=>by rw[p.1];exact hL) (λi x σ H' hx p=>?_) (λσ H' p=>?_)
 ·obtain⟨rfl,a,b,o1,o2,o3,⟨hs,hdv⟩,rfl⟩:=p;obtain⟨f,hf,t,rfl,ht⟩:=Paired.at_ hF hx;obtain⟨f0,f1,f2⟩:=hD.all f (oF hf);have hb:=hs.pos;have hbD:=hs.le hD0;have hfD:=FU hD0 f2;have st:=N8 (u:=f.1) hD0 hs f1 f2;have hg:0<az b f.2:=OX _ hb;have hg2:az b f.2<=b:=Nat.gcd_le_left _ hb;have hby:f.2/az b f.2<=f.2:=MI _ _;have hbb:=st.le hD0;refine⟨t,_,rfl,ht,rfl,_,_,rfl,_,_,rfl,rfl,?_⟩;refine⟨_,rfl,_,rfl,_,rfl,b,f.2,rfl,_,_,rfl,rfl,⟨by omega,by omega⟩,?_⟩;have eby:((f.2:Nat):Int)/((az b f.2:Nat):Int)=((f.2/az b f.2:Nat):Int):=(MT _ _).symm;have eb2:((b:Nat):Int)*((f.2/az b f.2:Nat):Int)=((b*(f.2/az b f.2):Nat):Int):=(MQ _ _).symm;have eb3:((b*(f.2/az b f.2):Nat):Int)/((f.2:Nat):Int)=((b*(f.2/az b f.2)/f.2:Nat):Int):=(MT _ _).symm;have hq:b*(f.2/az b f.2)/f.2<=b*(f.2/az b f.2):=MI _ _;have c1:∀x:Int,A5 x (((f.2:Nat):Int)/((az b f.2:Nat):Int)):=λx=>by rw[eby];exact Qn (dH hby (dH hfD hD1)) x
  have c2:∀x:Int,A5 x (((b:Nat):Int)*(((f.2:Nat):Int)/((az b f.2:Nat):Int))/((f.2:Nat):Int)):=λx=>by rw[eby,eb2,eb3];exact Qn (dH hq (dH hbb hD1)) x
  refine⟨_,rfl,_,rfl,_,_,rfl,rfl,c1 _,_,rfl,_,rfl,_,rfl,_,_,rfl,rfl,c1 _,_,rfl,_,_,rfl,rfl,⟨by omega,by omega⟩,_,_,rfl,rfl,c2 _,_,_,rfl,rfl,?_⟩;refine⟨_,rfl,_,rfl,_,_,rfl,rfl,c1 _,?_⟩;refine⟨rfl,a*((f.2/az b f.2:Nat):Int)+f.1*((b*(f.2/az b f.2)/f.2:Nat):Int),b*(f.2/az b f.2),some (.int f.1),some (.int ((f.2:Nat):Int)),some (.int ((f.2/az b f.2:Nat):Int)),?_,?_⟩
  rotate_left
  ·show[some (V.ref la),some (.int (a*(((f.2:Nat):Int)/((az b f.2:Nat):Int))+f.1*(((b:Nat):Int)*(((f.2:Nat):Int)/((az b f.2:Nat):Int))/((f.2:Nat):Int)))),some (.int (((b:Nat):Int)*(((f.2:Nat):Int)/((az b f.2:Nat):Int)))),some (.int f.1),some (.int ((f.2:Nat):Int)),some (.int (((f.2:Nat):Int)/((az b f.2:Nat):Int)))]=_;rw[eby,eb2,eb3]
  obtain⟨hi,rfl⟩:=oG.mp hf;rw[ER hi,uT,Am];refine⟨st,λf hf'=>?_⟩;rcases oE.mp hf' with z|z
  ·exact Nat.dvd_trans (hdv f z) (Nat.dvd_mul_right _ _)
  ·rw[jw.mp z,<-MZ _ (EN _ _),Xh,MZ _ (MU _ _)];exact Nat.dvd_mul_right _ _
 ·obtain⟨rfl,a,b,o1,o2,o3,⟨hs,hdv⟩,rfl⟩:=p;refine⟨_,rfl,_,rfl,rV,λr hr'=>?_⟩;rw[Fq (by omega)]at hs hdv;exact q r a b _ (aR hr' _) aK hs hdv
inductive nF(K:af)(vs:List V)(H:Hp)(Q:VK)(E_:XK):Prop
 |mk(n:Int)(_:vs=[.int n])(_:n<=10)(_:Q .non H)
theorem GX{f:ag}{fd:χ}{tk:Tok}
  (F:pV K "need_few" "need_few" j6 f fd)(mM:mg "MOST_PLACES"=some (.int 10 tk)):gx P w K mg base kG 1 f fd ["n"] (nF K):=by
 refine F.dD ["n"] λH Q hr h=>?_;obtain⟨n,rfl,hn,q⟩:=h;refine⟨_,aY (iK (gU xB (pv 0) (ue rfl mM (v:=.int 10) ⟨_,rfl⟩)) Sd iM),?_⟩;refine⟨_,rfl,_,_,rfl,rfl,_,rfl,?_⟩;rw[gY (show¬(10:Int)<n by omega)];exact kL q
end
end Hs
namespace L2
open PySem
theorem Same.x(h:Same H H')(t):aW t H H':=λb o _ e=>h b o e
theorem aW.upd{t:ag}{H H':Hp}{o:HO}(h:aW t H H'):aW t H (upd H' t o):=λb u n e=>by rw[cF n];exact h b u n e
end L2
namespace lQ
open PySem L2
theorem Ym(h:pl p=pl q):p=q:=by
 obtain⟨a,b⟩:=p;obtain⟨c,d⟩:=q;unfold pl at h;simp at h;rw[h.1,h.2]
theorem Qy(h:HT.lexLt b a=false)(ne:a≠b):HT.lexLt a b=true:=by
 rw[HT.fK]at h⊢;have h1:¬b<a:=E1 h;have h2:a<=b:=List.not_lt.mp h1;apply cI;rcases Classical.em (a<b)with h3|h3
 ·exact h3
 ·exact absurd (List.le_antisymm h2 (List.not_lt.mp h3)) ne
theorem N6(h0:0<=p.1)(h1:p.1<p.2)(h2:p.2<n):oX n (pairD p)=true:=by
 show((cG n (.int p.1)&&(cG n (.int p.2)&&true))&&fJ [p.1,p.2]&&decide (([aC p.1,aC p.2]).length=2))=true;have e1:cG n (.int p.1)=true:=by
  show(decide (0<=p.1)&&decide (p.1<n))=true;rw[cI h0,cI (by omega)];rfl
 have e2:cG n (.int p.2)=true:=by
  show(decide (0<=p.2)&&decide (p.2<n))=true;rw[cI (by omega),cI h2];rfl
 have e3:fJ [p.1,p.2]=true:=by
  show(decide (p.1<p.2)&&true)=true;rw[cI h1];rfl
 rw[e1,e2,e3];rfl
theorem Xv(hn0:0<=n)(hn1:n<=10)(h:bJ n ts)(hs:ts.Pairwise λp q=>HT.lexLt (pl q) (pl p)=false):xG (vh n ts)=true:=by
 show(true&&(decide (0<=n)&&decide (n<=10))&&((ts.map pairD).all (oX n)&&kh ((ts.map pairD).map λt=>(sK t).map intD)))=true;have e1:(ts.map pairD).all (oX n)=true:=by
  rw[Sy,lM];intro p hp;obtain⟨h0,h1,h2⟩:=h.lt p hp;exact N6 h0 h1 h2
 have e2:(ts.map pairD).map (λt=>(sK t).map intD)=ts.map pl:=by rw[Kq];rfl
 have e3:kh (ts.map pl)=true:=by
  unfold kh;rw[lM];intro k hk;have hk':k<ts.length-1:=by simpa using hk
  have g1:(ts.map pl).getD k []=pl ts[k]:=by rw[dY,dI,cU (by omega)];rfl
  have g2:(ts.map pl).getD (k+1) []=pl ts[k+1]:=by rw[dY,dI,cU (by omega)];rfl
  rw[g1,g2];refine Qy (BK.mp hs k (k+1) (by omega) (by omega) (by omega)) λe=>?_;have:=(List.getElem_inj h.nd).mp (Ym e);omega
 rw[cI hn0,cI hn1,e1,e2,e3];rfl
end lQ
namespace Hs
open PySem L2 lQ
theorem lO.M8(a:lO p p):False:=by
 unfold lO at a;omega
theorem sQ:∀{l m:L0},l.Pairwise lO->m.Pairwise lO->(∀p,p∈l↔p∈m)->l=m
 |[],[],_,_,_=>rfl
 |[],q::m,_,_,h=>absurd ((h q).mpr (dZ ..)) (by simp)
 |p::l,[],_,_,h=>absurd ((h p).mp (dZ ..)) (by simp)
 |p::l,q::m,hl,hm,h=>by
  rw[EO]at hl hm;have e:p=q:=by
   rcases cZ.mp ((h p).mp (dZ ..))with e|e
   ·exact e
   rcases cZ.mp ((h q).mpr (dZ ..))with e'|e'
   ·exact e'.symm
   exact(lO.M8 ((hl.1 _ e').trans (hm.1 _ e))).elim
  subst e;have:l=m:=sQ hl.2 hm.2 (λr=>by
   have hr:=h r;rw[cZ,cZ]at hr;constructor
   ·intro hi;rcases hr.mp (.inr hi)with e|e
    ·subst e;exact(lO.M8 (hl.1 _ hi)).elim
    ·exact e
   ·intro hi;rcases hr.mpr (.inr hi)with e|e
    ·subst e;exact(lO.M8 (hm.1 _ hi)).elim
    ·exact e)
  rw[this]
theorem Ck(so:Int->Int->Bool)(i)(k):row so i (k+1)=row so i k++(if so i (i+1+(k:Int))=true then[(i,i+1+(k:Int))]else[]):=by
 unfold row;rw[xq,bR,Fe];congr 1;show ln _ [(i,i+1+(k:Int))]=_;rw[Ks];rfl
theorem nH(so:Int->Int->Bool)(m)(i):rows so m (i+1)=rows so m i++row so (0+(i:Int)) (m-(0+(i:Int)+1)).toNat:=by
 unfold rows;rw[xq,bR,mh];simp
theorem JM:p∈row so i k↔p.1=i/\i<p.2/\p.2<i+1+(k:Int)/\so p.1 p.2=true:=by
 unfold row;rw[iU,jP];constructor
 ·rintro⟨⟨t,ht,rfl⟩,h⟩;rw[nu]at ht;exact⟨rfl,by show i<i+1+(t:Int);omega,by show i+1+(t:Int)<_;omega,h⟩
 ·rintro⟨h1,h2,h3,h4⟩;refine⟨⟨(p.2-i-1).toNat,by rw[nu];omega,?_⟩,h4⟩;apply ES
  ·exact h1.symm
  ·show i+1+(((p.2-i-1).toNat:Nat):Int)=p.2;omega
theorem MJ:∀{i:Nat}{p:Int×Int},p∈rows so m i↔0<=p.1/\p.1<(i:Int)/\p.1<p.2/\p.2<m/\so p.1 p.2=true
 |0,p=>by
  constructor
  ·intro h;simp[rows]at h
  ·intro h;omega
 |i+1,p=>by
  rw[nH,oE,MJ (i:=i),JM];constructor
  ·rintro(h|h)
   ·exact⟨h.1,by omega,h.2.2⟩
   ·exact⟨by omega,by omega,by omega,by omega,h.2.2.2⟩
  ·rintro⟨h1,h2,h3,h4,h5⟩;by_cases e:p.1<(i:Int)
   ·exact .inl ⟨h1,e,h3,h4,h5⟩
   ·exact .inr ⟨by omega,by omega,by omega,h5⟩
theorem Gv(so:Int->Int->Bool)(i)(k):(row so i k).Pairwise lO:=by
 unfold row;refine iL _ ?_;rw[Tp];exact Wd.imp λh=>.inr ⟨rfl,by show i+1+_<i+1+_;omega⟩
theorem Z9(so:Int->Int->Bool)(m):∀i:Nat,(rows so m i).Pairwise lO
 |0=>by unfold rows;exact eT
 |i+1=>by
  rw[nH,FC];refine⟨Z9 so m i,Gv so _ _,λp hp q hq=>?_⟩;rw[MJ]at hp;rw[JM]at hq;exact .inl (by omega)
theorem Jx:bJ m (rows so m i):=
 ⟨(Z9 so m i).imp λh e=>by subst e;exact lO.M8 h,λp hp=>by rw[MJ]at hp;exact⟨hp.1,hp.2.2.1,hp.2.2.2.1⟩⟩
theorem Lw{l:L0}(h:l.Pairwise lO):l.Nodup:=h.imp λh e=>by subst e;exact lO.M8 h
end Hs
namespace L2
open PySem
theorem cY.get':∀{xs:List V}{ds:θ}{i:Nat},cY K H xs ds->i<ds.length->∃x d,xs[i]? =some x/\ds[i]? =some d/\DV K H x d
 |_,_,i,.nil,h=>by simp at h
 |_,_,0,.cons h _,_=>⟨_,_,rfl,rfl,h⟩
 |_,_,i+1,.cons _ t,h=>by
  obtain⟨x,d,h1,h2,h3⟩:=cY.get' (i:=i) t (by simpa using h);exact⟨x,d,by simpa using h1,by simpa using h2,h3⟩
end L2
namespace Hs
open PySem L2 lQ
noncomputable def tt(_ _:Int):Bool:=true
theorem U5(h:lO p q):HT.lexLt (pl q) (pl p)=false:=by
 rw[HT.fK];refine gY λz=>?_;have:lO q p:=JQ (by rw[HT.fK];exact cI z);exact lO.M8 (h.trans this)
theorem gW(h0:0<=n)(h1:n<=10)(h:ts.Sublist (rows tt n i)):bJ n ts/\yJ n ts:=by
 have hs:ts.Pairwise lO:=(Z9 tt n i).sublist h;have ho:bJ n ts:=⟨Lw hs,λp hp=>(Jx (so:=tt) (m:=n) (i:=i)).lt p (h.subset hp)⟩;exact⟨ho,Xv h0 h1 ho (hs.imp U5)⟩
theorem qN{ps:L0}(h:cY K H rs (ps.map pairD))(hx:rs[i]? =some x):∃(t:ag) (hi:i<ps.length),x=.ref t/\SqT K H t [.int (ps[i]).1,.int (ps[i]).2]:=by
 have ac:=h.len;rw[aD]at ac;have hi:i<ps.length:=by rw[<-ac];exact(oG.mp hx).1
 obtain⟨x',d,e1,e2,e3⟩:=cY.get' (i:=i) h (by rw[aD];exact hi);rw[hx]at e1;cases e1;rw[dI,cU hi]at e2;cases e2;cases e3 with
 |tup hp tp=>
  cases tp with
  |cons ta tb=>
   cases tb with
   |cons tc td=>
    cases td;cases ta;cases tc;exact⟨_,hi,rfl,hp⟩
theorem je:(rows tt m i).filter (λp=>so p.1 p.2)=rows so m i:=by
 refine sQ ((Z9 _ _ _).filter _) (Z9 _ _ _) λp=>?_;rw[iU,MJ,MJ];constructor
 ·rintro⟨⟨a,b,c,d,_⟩,e⟩;exact⟨a,b,c,d,e⟩
 ·rintro⟨a,b,c,d,e⟩;exact⟨⟨a,b,c,d,rfl⟩,e⟩
section
variable{P:υ}{w:ψ}{K:af}{mg:D0}{base:bn}
inductive vI(K:af)(vs:List V)(H:Hp)(Q:VK)(E_:XK):Prop
 |mk(n:Int)(_:vs=[.int n])(_:0<=n)(_:n<=10)(_:∀l H',Same H H'->RI K H' l (rows tt n n.toNat)->Q (.ref l) H')
theorem UL{f:ag}{fd:χ}
  (F:pV K "pairs" "pairs" qG f fd)(mR:mg "range"=none):gx P w K mg base kG 1 f fd ["n"] (vI K):=by
 refine F.dD ["n","found","one"] λH Q hr h=>?_;obtain⟨n,rfl,hn0,hn1,q⟩:=h;refine⟨_,aN (pS 1 (rd ak)) (aN (rS Fw rfl (Kp rfl mR (aj (pv 0) ak)) (pG 2) (aY (oR (ww E3 Pe Pd wx (pv 1) (aj
    (pK ["other"] ["one"] [2] (tw rfl mR (aj (dF rk (pv 2) aL) (aj (pv 0) ak))) (pG 0) lF (ou (aj (pv 1) (aj (pv 0) ak)))) ak))))) (aY (bK (pv 1)))),?_⟩
 refine⟨rV,λl hl=>?_⟩;refine⟨_,rfl,n,rfl,by omega,by omega,?_⟩;refine sf (n:=n.toNat) (λi σ H'=>Same H H'/\(∃rs,H' l=some (.lst rs)/\cY K H' rs ((rows tt n i).map pairD))/\∃o,σ=[some (.int n),some (.ref l),o]) ⟨aR hl _,⟨[],aK,.nil⟩,_,rfl⟩ (λi σ H' hi p=>?_) (λσ H' p=>?_)
 ·obtain⟨sm,⟨rs,hr1,hr2⟩,o,rfl⟩:=p;have ac:=hr2.len;rw[aD]at ac;have h45:=pairs_len (Jx (so:=tt) (m:=n) (i:=i)) hn1;refine⟨_,rfl,.inl ⟨rfl,_,ja.of hr1⟩,_,rfl,_,_,rfl,rfl,_,rfl,_,_,rfl,⟨by omega,by omega,by omega,by omega⟩,?_⟩;refine Nm (n:=(n-(0+(i:Int)+1)).toNat) (λk acc σ H2=>Same H' H2/\acc.length=k/\cY K H2 acc ((row tt (0+(i:Int)) k).map pairD)/\∃o1,σ=[o1,some (.int (0+(i:Int)))]) ⟨Same.refl _,rfl,.nil,_,rfl⟩ (λk acc σ H2 hk p=>by rw[p.2.1];exact aP _) (by rw[gF];omega) (λk acc σ H2 hk p=>?_) (λacc σ H2 p=>?_)
  ·obtain⟨s2,hl2,hd,o1,rfl⟩:=p;refine⟨_,rfl,_,rfl,rV,λp hp=>?_⟩;have s3:=aR hp (.tup [.int (0+(i:Int)),.int (0+(i:Int)+1+(k:Int))]);refine⟨s2.trans s3,by rw[lN,hl2];rfl,?_,_,rfl⟩;rw[Ck,bR,au (show tt (0+(i:Int)) (0+(i:Int)+1+(k:Int))=true from rfl)];exact(hd.same s3).append (.cons (.tup (SqT.of aK) (.cons (.int _) (.cons (.int _) .nil))) .nil)
  ·intro p1 hp1;obtain⟨s2,hl2,hd,_⟩:=p;have s3:=aR hp1 (.lst acc);have Zd:=s3 _ _ (s2 _ _ hr1);refine⟨l,p1,rs,acc,rfl,rfl,Zd,aK,?_,?_⟩
   ·rw[gF];omega
   ·have x4:aW l (upd H2 p1 (.lst acc)) (upd (upd H2 p1 (.lst acc)) l (.lst (rs++acc))):=(aW.refl _ _).upd;refine⟨?_,⟨_,aK,?_⟩,_,rfl⟩
    ·intro b o hb;have nb:b≠l:=λe=>by rw[e,hl]at hb;cases hb
     exact x4 _ _ nb (s3 _ _ (s2 _ _ (sm _ _ hb)))
    ·rw[nH];exact jf x4 Zd (by rw[bR];exact((hr2.same s2).same s3).append (hd.same s3))
 ·obtain⟨sm,⟨rs,hr1,hr2⟩,o,rfl⟩:=p;exact⟨_,rfl,q l _ sm ⟨rs,hr1,hr2⟩⟩
theorem uh{ps:L0}(hi:i<ps.length):(ps.take (i+1)).filter so=(ps.take i).filter so++(if so ps[i]=true then[ps[i]]else[]):=by
 rw[rF,cU hi,Fe];congr 1;show ln so [ps[i]]=_;rw[Ks];rfl
noncomputable def Om(m:Int)(t1 t2:L0)(i j:Int):Bool:=if i/m=j/m then bN t2 (i %m) (j %m)else bN t1 (i/m) (j/m)
inductive zf(K:af)(vs:List V)(H:Hp)(Q:VK)(E_:XK):Prop
 |mk(a b t:ag)(n1 n2 i j:Int)(t1 t2:L0)(_:vs=[.ref a,.ref b,.ref t])(_:lJ K H a n1 t1)(_:lJ K H b n2 t2)(_:0<n2)(_:n2<=10)(_:SqT K H t [.int i,.int j])(_:∀H',Same H H'->Q (.bl (Om n2 t1 t2 i j)) H')
theorem Qa{f:ag}{fd:χ}
  (F:pV K "is_tie_within" "is_tie_within" gn f fd)(D1:Dp P w K mg base 1 "has_tie" gP ["web","one","other"] (yd K)):
  gx P w K mg base kG 2 f fd ["one","other","tie"] (zf K):=by
 refine F.dD ["one","other","tie","m","i","j"] λH Q hr h=>?_;obtain⟨a,b,t,n1,n2,i,j,t1,t2,rfl,hA,hB,hn,hn',ht,q⟩:=h;refine⟨_,aN (pS 3 (bw cH (pv 1) aL)) (aN (pS 4 (dF iD (bw cH (pv 2) aL) (pv 3))) (aN (pS 5 (dF iD (bw cH (pv 2) aL) (pv 3))) (aN (iK (gU xC (pv 4) (pv 5)) (aY (bK (pd D1 hr (aj (pv 1) (aj (dF xh (bw cH (pv 2) aL) (pv 3)) (aj (dF xh (bw cH (pv 2) aL) (pv 3)) ak)))))) iM) (aY (bK (pd D1 hr (aj (pv 0) (aj (pv 4) (aj (pv 5) ak))))))))),?_⟩;obtain⟨tb,rb,b1,b2,b3⟩:=id hB;refine⟨_,rfl,b,_,_,.int n2,rfl,rfl,b1,rfl,?_⟩;refine⟨_,rfl,t,_,_,.int i,rfl,rfl,ht,rfl,_,rfl,_,_,rfl,rfl,⟨hn,by omega⟩,?_⟩;refine⟨_,rfl,t,_,_,.int j,rfl,rfl,ht,rfl,_,rfl,_,_,rfl,rfl,⟨hn,by omega⟩,?_⟩;refine⟨_,rfl,_,rfl,rfl,_,rfl,?_⟩;refine nE (λc=>?_) (λc=>?_)
 ·have e:i/n2=j/n2:=by have:=lA c;injection this
  refine⟨_,rfl,_,rfl,t,_,_,.int i,rfl,rfl,ht,rfl,_,rfl,_,_,rfl,rfl,hn,_,rfl,t,_,_,.int j,rfl,rfl,ht,rfl,_,rfl,_,_,rfl,rfl,hn,?_⟩;refine⟨b,n2,_,_,t2,rfl,hB,λH' sm=>?_⟩;have:=q H' sm;unfold Om at this;rw[au e]at this;exact this
 ·have e:¬(i/n2=j/n2):=λz=>c (cI (jQ V.int z));refine⟨_,rfl,_,rfl,_,rfl,a,n1,_,_,t1,rfl,hA,λH' sm=>?_⟩;have:=q H' sm;unfold Om at this;rw[aq e]at this;exact this
inductive vA(K:af)(vs:List V)(H:Hp)(Q:VK)(E_:XK):Prop
 |mk(a b:ag)(n1 n2:Int)(t1 t2:L0)(_:vs=[.ref a,.ref b])(_:aZ K H a n1 t1)(_:aZ K H b n2 t2)(_:n1*n2<=10)(_:∀r H',Same H H'->lJ K H' r (n1*n2) (rows (Om n2 t1 t2) (n1*n2) (n1*n2).toNat)->Q (.ref r) H')
theorem Lg{f:ag}{fd:χ}
  (F:pV K "within" "within" vO f fd)(D1:Dp P w K mg base 7 "need_web" yQ ["thing"] (aU K))(D2:Dp P w K mg base 1 "need_few" j6 ["n"] (nF K))(D3:Dp P w K mg base 1 "pairs" qG ["n"] (vI K))(D4:Dp P w K mg base 2 "is_tie_within" gn ["one","other","tie"] (zf K))(mT:mg "tuple"=none):
  gx P w K mg base kG 8 f fd ["one","other"] (vA K):=by
 refine F.dD ["one","other","n"] λH Q hr h=>?_;obtain⟨a,b,n1,n2,t1,t2,rfl,hA,hB,hn,q⟩:=h;refine⟨_,aN (oR (pd D1 hr (aj (pv 0) ak))) (aN (oR (pd D1 hr (aj (pv 1) ak))) (aN (pS 2 (dF qS (bw cH (pv 0) aL) (bw cH (pv 1) aL))) (aN (oR (pd D2 hr (aj (pv 2) ak))) (aY (bK (ou (aj (pv 2) (aj (pT Ss mT (aj
   (pK ["tie"] ["one","other"] [0,1] (ur (pd D3 hr (aj (pv 2) ak))) (pG 0) (Fb (iT (pd D4 hr (aj (pv 1) (aj (pv 2) (aj (pv 0) ak)))))) (pv 0)) ak)) ak)))))))),?_⟩
 refine⟨_,rfl,_,_,rfl,hA.web.dv.dx,hA.ok,λH1 s1=>?_⟩;refine⟨_,rfl,_,_,rfl,(hB.same s1).web.dv.dx,hB.ok,λH2 s2=>?_⟩;have s12:=s1.trans s2;obtain⟨ta,ra,a1,a2,a3⟩:=id (hA.same s12).web;obtain⟨tb,rb,b1,b2,b3⟩:=id (hB.same s12).web;have hA0:=hA.h0;have M9:=hA.h1;have hB0:=hB.h0;have hB1:=hB.h1;have hm0:0<=n1*n2:=Br hA0 hB0;refine⟨_,rfl,a,_,_,.int n1,rfl,rfl,a1,rfl,_,rfl,b,_,_,.int n2,rfl,rfl,b1,rfl,_,_,rfl,rfl,.inl ⟨by omega,by omega⟩,?_⟩;generalize hmm:(V.int (_*_):V)=vm;obtain⟨m,em,hm⟩:∃m:Int,vm=.int m/\n1*n2=m:=⟨_,hmm.symm,rfl⟩;subst em;simp only[hm]at hn q hm0;refine⟨_,rfl,m,rfl,hn,?_⟩;refine⟨_,rfl,_,rfl,m,rfl,hm0,hn,λl H3 s3 p1=>?_⟩;obtain⟨rs,e1,v1⟩:=p1.ex;refine⟨l,rs,rfl,ja.of e1,λhz=>?_⟩;have ac:=v1.len;rw[aD]at ac;have hpos:∀i:Nat,(h:i<(rows tt m m.toNat).length)->0<n2:=λi h=>by
  have hmem:=yS h;rw[MJ]at hmem;have hmp:0<m:=by omega
  rcases Int.lt_or_le 0 n2 with c|c
  ·exact c
  ·have:n2=0:=by omega
   rw[this,Bp]at hm;omega
 have Yg:=s12.trans s3;refine w6 (xs:=rs) (λi acc σ H'=>Same H3 H'/\acc.length<=i/\cY K H' acc (((rows tt m m.toNat).take i).filter (λp=>Om n2 t1 t2 p.1 p.2)|>.map pairD)/\∃o,σ=[o,some (.ref a),some (.ref b)]) ⟨Same.refl _,aP _,.nil,_,rfl⟩ (λi acc σ H' _ p=>p.1.seq (ja.of e1)) (λi acc σ H' hi p=>p.2.1) hz (λi x acc σ H' hx p=>?_) (λacc σ H' p=>?_)
 ·obtain⟨sm,hl,hd,o,rfl⟩:=p;obtain⟨t,hi,rfl,ht⟩:=qN v1 hx;refine⟨_,rfl,_,rfl,_,rfl,a,b,t,n1,n2,_,_,t1,t2,rfl,(hA.same (Yg.trans sm)).web,(hB.same (Yg.trans sm)).web,hpos i hi,hB1,sm.tup ht,λH5 s5=>⟨_,rfl,?_⟩⟩;rw[uh hi];refine nE (λc=>?_) (λc=>?_)
  ·refine⟨_,rfl,sm.trans s5,by rw[lN];show acc.length+1<=i+1;omega,?_,_,rfl⟩;rw[au c,bR];exact(hd.same s5).append (.cons (.tup ((sm.trans s5).tup ht) (.cons (.int _) (.cons (.int _) .nil))) .nil)
  ·refine⟨sm.trans s5,by omega,?_,_,rfl⟩;rw[aq c,xr];exact hd.same s5
 ·intro p1 hp1;obtain⟨sm,hl,hd,_⟩:=p;rw[ac,rE,je]at hd;have s5:=aR hp1 (.lst acc);refine⟨p1,_,rfl,.inl ⟨ja.of aK,λt ht=>?_⟩⟩;have s6:=aR ht (.tup acc);refine⟨rV,λr hr'=>?_⟩;have s7:=aR hr' (.tup [.int m,.ref t]);exact q r _ (Yg.trans (sm.trans (s5.trans (s6.trans s7)))) ⟨t,acc,SqT.of aK,SqT.of (s7 _ _ aK),hd.same (s5.trans (s6.trans s7))⟩
end
theorem Ud(n):(jD n).length=n:=by unfold jD;rw[aD,uM]
theorem Pr(n):jD (n+1)=jD n++[(n:Int)]:=by unfold jD;rw[xq,bR];rfl
noncomputable def bL:Nat->List ζ
 |0=>[[]]
 |k+1=>bL k++(bL k).map λs=>s++[(k:Int)]
theorem eZ:∀k,(bL k).length=2^k
 |0=>rfl
 |k+1=>by
  show(bL k++(bL k).map λs=>s++[(k:Int)]).length=_;rw[lN,aD,eZ k,IU];omega
theorem m5:∀k,∀s∈bL k,s.length<=k
 |0,s,h=>by rw[jw.mp h];exact aP _
 |k+1,s,h=>by
  rcases oE.mp h with z|z
  ·exact Nat.le_succ_of_le (m5 k s z)
  ·obtain⟨t,ht,rfl⟩:=jP.mp z;have:=m5 k t ht;rw[lN];show t.length+1<=k+1;omega
theorem Dc:∀{l:ζ},l.Sublist [a]->l=[]\/l=[a]
 |[],_=>.inl rfl
 |_::_,h=>by
  cases h with
  |cons _ h=>cases h
  |cons_cons _ h=>cases h;exact .inr rfl
theorem MF:∀(n:Nat) (ys:ζ),ys∈bL n↔ys.Sublist (jD n)
 |0,ys=>by
  show ys∈[[]]↔ys.Sublist [];rw[jw,List.sublist_nil]
 |n+1,ys=>by
  show ys∈bL n++(bL n).map (λs=>s++[(n:Int)])↔_;rw[Pr,oE,jP,List.sublist_append_iff,MF n ys];constructor
  ·rintro(h|⟨s,hs,rfl⟩)
   ·exact⟨ys,[],(xr _).symm,h,List.nil_sublist _⟩
   ·exact⟨s,[(n:Int)],rfl,(MF n s).mp hs,Wq _⟩
  ·rintro⟨l1,l2,rfl,h1,h2⟩;rcases Dc h2 with rfl|rfl
   ·rw[xr];exact .inl h1
   ·exact .inr ⟨l1,(MF n l1).mpr h1,rfl⟩
theorem kY:∀n,(bL n).Nodup
 |0=>by show List.Nodup [[]];simp
 |n+1=>by
  show(bL n++(bL n).map (λs=>s++[(n:Int)])).Nodup;refine List.nodup_append.mpr ⟨kY n,?_,λa ha b hb e=>?_⟩
  ·unfold List.Nodup;rw[Tp];exact(kY n).imp λ{x y} h z=>h (Pm z)
  ·subst e;obtain⟨s,_,rfl⟩:=jP.mp hb;have:=nM.mp (((MF n _).mp ha).subset (lR _ (NJ _)));omega
theorem tE:∀(n i:Nat) (xs ys:ζ),(bL n)[i]? =some xs->ys.Sublist xs->ys≠xs->ys∈(bL n).take i
 |0,i,xs,ys,h,hs,hn=>by
  have h':([[]]:List ζ)[i]? =some xs:=h;cases i with
  |zero=>
   simp at h';subst h';exact absurd (List.sublist_nil.mp hs) hn
  |succ i=>simp at h'
 |n+1,i,xs,ys,h,hs,hn=>by
  show ys∈(bL n++(bL n).map (λs=>s++[(n:Int)])).take i;have h':(bL n++(bL n).map (λs=>s++[(n:Int)]))[i]? =some xs:=h;by_cases hi:i<(bL n).length
  ·rw[FI hi]at h';rw[List.take_append_of_le_length (dW hi)];exact tE n i xs ys h' hs hn
  ·have hi:=V7.mp hi;rw[EQ hi,dI]at h';cases e:(bL n)[i-(bL n).length]? with
   |none=>rw[e]at h';cases h'
   |some zs=>
    rw[e]at h';cases h';rw[List.take_append,oE,Fq hi];obtain⟨l1,l2,rfl,h1,h2⟩:=List.sublist_append_iff.mp hs;have mz:zs.Sublist (jD n):=(MF n zs).mp (oF e);rcases Dc h2 with rfl|rfl
    ·rw[xr];exact .inl ((MF n _).mpr (h1.trans mz))
    ·refine .inr ?_;rw[<-My];exact jP.mpr ⟨l1,tE n _ zs l1 e h1 (λz=>hn (by rw[z])),rfl⟩
theorem Sm(h:x∈p):(wo (x::r) p).length<(x::r).length:=
 Nt (oU _ _).length_le λe=>Nx h ((oU _ _).eq_of_length e)
theorem DY(st)(xs):∀k,(lH st xs k).length<=2^k
 |0=>by show([xs.take 1]:List ζ).length<=1;simp
 |k+1=>by
  have ih:=DY st xs k;cases e:(xs.drop 1)[k]? with
  |none=>
   have:lH st xs (k+1)=lH st xs k:=by unfold lH;rw[rF (l:=xs.drop 1),e];simp
   rw[this];exact dH ih (Xp (by decide) (Bx k))
  |some y=>
   rw[sV e];unfold pU;rw[lN,aD];have:=vf (λp=>st p y) (lH st xs k);rw[IU];omega
theorem Q8(st)(xs):E6 st xs≠[]:=by
 have key:∀(l:ζ) (f:List ζ),f≠[]->l.foldl (pU st) f≠[]:=λl=>by
  induction l with
  |nil=>intro f h;exact h
  |cons a l ih=>intro f h;exact ih _ (by unfold pU;intro z;exact h (List.append_eq_nil_iff.mp z).1)
 exact key _ _ (by simp)
theorem Vz(ts):jR ts []=0:=rfl
noncomputable def lY(f:ζ->Int)(l:List ζ):List (List tJ×V):=l.map λs=>(s.map bW,V.int (f s))
theorem Dt:∀{a b:ζ},(a.map (bW (β:=be))=b.map bW)->a=b
 |[],[],_=>rfl
 |[],_::_,h=>by cases h
 |_::_,[],h=>by cases h
 |a::l,b::m,h=>by
  rw[yR,yR]at h;injection h with h1 h2
  injection h1 with h1
  rw[h1,Dt h2]
theorem fQ(f:ζ->Int)(k):∀l:List ζ,tz (lY f l) (k.map bW)=if k∈l then some (.int (f k))else none
 |[]=>rfl
 |s::l=>by
  show tz ((s.map bW,V.int (f s))::lY f l) (k.map bW)=_;by_cases e:s=k
  ·subst e;rw[tT rfl,au dZ]
  ·rw[ua (λz=>e (Dt z)),fQ f k l];by_cases c:k∈l
   ·rw[au c,au (fB _ c)]
   ·rw[aq c,aq λz=>(cZ.mp z).elim (λy=>e y.symm) c]
theorem Oz(h:s∉l):ub (lY f l) (s.map bW) (.int (f s))=lY f (l++[s]):=by
 rw[BA _ (by rw[fQ,aq h])];unfold lY;rw[bR];rfl
theorem vM(f:ζ->Int)(l):(lY f l).length=l.length:=aD _
structure jr(ts:L0)(n:Nat)(k:Int)(hs:ζ):Prop where
 len:hs.length=n
 k0:0<=k
 rg:∀p:Nat,p<n->0<=hs.getD p 0/\hs.getD p 0<k
 all:∀c,0<=c->c<k->∃p:Nat,p<n/\hs.getD p 0=c
 ok:∀a b:Nat,a<n->b<n->bN ts (a:Int) (b:Int)=true->hs.getD a 0≠hs.getD b 0
theorem xW.done(I:xW ts n k [] h hs):jr ts n k hs:=by
 have e:h=k:=by have:=I.sum;rw[Vz]at this;omega
 subst e;exact⟨I.len,I.h0,λp hp=>I.out p hp (by simp),λc h1 h2=>by obtain⟨p,h3,_,h4⟩:=I.all c h1 h2;exact⟨p,h3,h4⟩,λa b ha hb ht=>I.ok a b ha hb (by simp) (by simp) ht⟩
section
variable{P:υ}{w:ψ}{K:af}{mg:D0}{base:bn}
theorem SE{α:Type}(p:α->Bool)(a):[a].filter p=if p a=true then[a]else[]:=by
 by_cases c:p a=true
 ·rw[au c,FG c];rfl
 ·rw[aq c,FF c];rfl
theorem vq(n):dh n=(jD n).map V.int:=by unfold dh jD;rw[Kq];rfl
theorem zd(xs:ζ):(xs.map (bW (β:=be))).map kV=xs.map V.int:=by rw[Kq];rfl
noncomputable abbrev LN(H:Hp)(ae:List (ag×ζ)):Prop:=∀p∈ae,H p.1=some (.tup (p.2.map V.int))
inductive jC(K:af)(vs:List V)(H:Hp)(Q:VK)(E_:XK):Prop
 |mk(n:Int)(_:vs=[.int n])(_:0<=n)(_:n<=10)(_:∀(r:ag) (ae:List (ag×ζ)) H',Same H H'->H' r=some (.lst (ae.map λp=>V.ref p.1))->LN H' ae->ae.map (·.2)=bL n.toNat->Q (.ref r) H')
theorem Hi{f:ag}{fd:χ}
  (F:pV K "all_sets" "all_sets" iz f fd)(aF:mg "range"=none):
  gx P w K mg base kG 1 f fd ["n"] (jC K):=by
 refine F.M7 ["n","found","place"] λcdv A outer s H vs Q E hr h=>?_;obtain⟨n,rfl,h0,h1,q⟩:=h;refine eX ?_;intro Y;refine⟨_,(aN (pS 1 (rd (aj (ou ak) ak))) (aN (rS Fw rfl (Kp rfl aF (aj (pv 0) ak)) (pG 2) (aY (pS 1 (dF sT (pv 1) (pK ["some"] ["place"] [2] (ur (pv 1)) (pG 0) lF (dF Uk (pv 0) (ou (aj (pv 1) ak)))))))) (aY (bK (pv 1))))),?_⟩;refine Dw ?_;intro c3 c2;refine⟨rV,λp0 hp0=>?_⟩;have s0:=aR hp0 (.tup []);refine⟨rV,λl0 hl0=>?_⟩;have s1:=aR hl0 (.lst [.ref p0]);refine⟨_,rfl,n,rfl,by omega,by omega,?_⟩;let xV:Nat->St->Hp->Prop:=λk σ H'=>∃(l:ag) (ae:List (ag×ζ)) (b2:Option V),σ=[some (.int n),some (.ref l),b2]/\Same H H'/\H' l=some (.lst (ae.map λp=>V.ref p.1))/\LN H' ae/\ae.map (·.2)=bL k;refine sf (n:=n.toNat) xV ⟨l0,[(p0,[])],_,rfl,s0.trans s1,aK,λp hp=>by rw[jw.mp hp];exact s1 _ _ aK,rfl⟩ (λk σ H1 hk p=>?_) (λσ H1 p=>?_)
 ·obtain⟨l,ae,b2,rfl,sm,hl,hT,hm⟩:=p;have ac:ae.length=2^k:=by rw[<-eZ k,<-hm,aD]
  have acf:2^k<=512:=Xp (n:=2) (by decide) (show k<=9 by omega);refine⟨_,rfl,_,rfl,l,_,rfl,ja.of hl,λhz=>?_⟩;let Mu:Nat->List V->St->Hp->Prop:=λi acc σ H2=>∃jts:List (ag×ζ),acc=jts.map (λp=>V.ref p.1)/\jts.map (·.2)=((ae.take i).map (·.2)).map (λs=>s++[(k:Int)])/\LN H2 jts/\Same H1 H2/\∃o,σ=[o,some (.int (0+(k:Int)))];refine w6 (xs:=ae.map λp=>V.ref p.1) Mu ⟨[],rfl,rfl,λp hp=>(nomatch hp),Same.refl _,_,rfl⟩ (λi acc σ H2 _ p=>?_) (λi acc σ H2 hi p=>?_) hz (λi x acc σ H2 hx p=>?_) (λacc σ H2 p=>?_)
  ·obtain⟨_,_,_,_,s2,_⟩:=p;exact s2.seq (ja.of hl)
  ·obtain⟨jts,rfl,hj,_⟩:=p;have:=jQ df hj;simp only[aD,nR]at this;rw[aD,this];exact u9 _ _
  ·obtain⟨jts,rfl,hj,hJ,s2,o,rfl⟩:=p;rw[dI]at hx;cases ex:ae[i]? with
   |none=>rw[ex]at hx;cases hx
   |some v=>
    rw[ex]at hx;cases hx;have mv:=oF ex;have lv:v.2.length<=10:=by
     have:=m5 k v.2 (by rw[<-hm];exact Tr mv);omega
    refine⟨_,rfl,_,rfl,rV,λp1 hp1=>?_⟩;have s3:=aR hp1 (.tup [.int (0+(k:Int))]);refine⟨v.1,p1,_,_,rfl,rfl,(s2.trans s3) _ _ (hT v mv),aK,(by rw[aD,gF];show _+1<=_;omega),λr H4 s4 h4=>?_⟩;have ek:(0+(k:Int))=(k:Int):=by omega
    have Tf:=s3.trans s4;refine⟨jts++[(r,v.2++[(k:Int)])],by rw[bR];rfl,?_,λp hp=>?_,s2.trans Tf,_,rfl⟩
    ·rw[bR,hj,rF,ex,bR,bR];rfl
    ·rcases oE.mp hp with z|z
     ·exact Tf _ _ (hJ p z)
     ·rw[jw.mp z];show H4 r=some (.tup ((v.2++[(k:Int)]).map V.int));rw[bR,<-ek];exact h4
  ·intro p1 hp1;obtain⟨jts,rfl,hj,hJ,s2,o,rfl⟩:=p;rw[aD,rE,hm]at hj;have hjl:jts.length=2^k:=by
    have:=jQ df hj;rw[aD,aD,eZ]at this;exact this
   have s3:=aR hp1 (.lst (jts.map λp=>V.ref p.1));refine⟨l,p1,_,_,rfl,rfl,s3 _ _ (s2 _ _ hl),aK,(by rw[aD,aD,hjl,ac,gF];omega),λl2 hl2=>?_⟩;have s4:=aR hl2 (.lst (ae.map (λp=>V.ref p.1)++jts.map λp=>V.ref p.1));have Tf:=s3.trans s4;refine⟨l2,ae++jts,_,rfl,sm.trans (s2.trans Tf),by rw[aK,bR],λp hp=>?_,?_⟩
   ·rcases oE.mp hp with z|z
    ·exact(s2.trans Tf) _ _ (hT p z)
    ·exact Tf _ _ (hJ p z)
   ·rw[bR,hm,hj];rfl
 ·obtain⟨l,ae,b2,rfl,sm,hl,hT,hm⟩:=p;exact⟨_,rfl,q l ae H1 sm hl hT hm⟩
inductive gO(K:af)(vs:List V)(H:Hp)(Q:VK)(E_:XK):Prop
 |mk(a b:ag)(xs ys:ζ)(_:vs=[.ref a,.ref b])(_:SqT K H a (xs.map V.int))(_:SqT K H b (ys.map V.int))(_:∀r H',Same H H'->H' r=some (.tup ((wo xs ys).map V.int))->Q (.ref r) H')
theorem GJ{f:ag}{fd:χ}
  (F:pV K "without" "without" V5 f fd)(aJ:mg "tuple"=none):
  gx P w K mg base kG 1 f fd ["some","part"] (gO K):=by
 refine F.dD ["some","part"] λH Q hr h=>?_;obtain⟨a,b,xs,ys,rfl,hA,hB,q⟩:=h;refine⟨_,(aY (bK (pT Ss aJ (aj (pK ["place"] ["part"] [1] (EY (pv 0)) (pG 0) (Fb (gU (vY K hr.units) (pv 0) (pv 1) (by with_unfolding_all rfl))) (pv 0)) ak)))),?_⟩;refine⟨_,rfl,a,_,rfl,hA,λhz=>?_⟩;let V2:Nat->List V->St->Hp->Prop:=λk acc σ H'=>acc=((xs.take k).filter λo=> !decide (o∈ys)).map V.int/\Same H H'/\∃o,σ=[o,some (.ref b)];refine IV (xs:=xs.map V.int) V2 ⟨rfl,Same.refl _,_,rfl⟩ (λk acc σ H' _ p=>p.2.1.tup hA) (λk acc σ H' hk p=>?_) hz (λk x acc σ H' hx pp=>?_) (λacc σ H' p=>?_)
 ·rw[p.1,aD];exact dH (vf _ _) (by rw[nR];exact u9 _ _)
 ·obtain⟨rfl,sm,o,rfl⟩:=pp;rw[dI]at hx;cases ex:xs[k]? with
  |none=>rw[ex]at hx;cases hx
  |some y=>
   rw[ex]at hx;cases hx;obtain⟨hk,ey⟩:=oG.mp ex;have e:=EG (p:=λo=> !decide (o∈ys)) hk;rw[ey]at e;refine⟨_,rfl,_,rfl,b,_,_,.int y,rfl,.inr (sm.tup hB),cY.ints ys,.int _,Fd ys,rfl,(by show 0<=60;decide),_,rfl,?_⟩;rw[Nk];refine nE (λc=>?_) (λc=>?_)
   ·exact⟨_,rfl,by rw[e,au c,bR];rfl,sm,_,rfl⟩
   ·exact⟨by rw[e,aq c,xr],sm,_,rfl⟩
 ·intro p1 hp1;obtain⟨rfl,sm,_⟩:=p;refine⟨p1,_,rfl,.inl ⟨ja.of aK,λl hl=>?_⟩⟩;exact q l _ (sm.trans ((aR hp1 _).trans (aR hl _))) (by rw[aK,aD,rE];rfl)
inductive zm(K:af)(vs:List V)(H:Hp)(Q:VK)(E_:XK):Prop
 |mk(a b:ag)(n x:Int)(ts:L0)(ps:ζ)(_:vs=[.ref a,.ref b,.int x])(_:lJ K H a n ts)(_:SqT K H b (ps.map V.int))(_:∀H',Same H H'->Q (.bl (dO ts ps x)) H')
theorem Qd{f:ag}{fd:χ}
  (F:pV K "can_stand_with" "can_stand_with" fG f fd)(D1:Dp P w K mg base 1 "has_tie" gP ["web","one","other"] (yd K))(Dg:mg "any"=none):
  gx P w K mg base kG 2 f fd ["web","part","place"] (zm K):=by
 refine F.dD ["web","part","place"] λH Q hr h=>?_;obtain⟨a,b,n,x,ts,ps,rfl,hW,hB,q⟩:=h;refine⟨_,(aY (bK (uv (pB (wJ rfl) Dg (aj (pK ["other"] ["web","place"] [0,2] (EY (pv 1)) (pG 0) lF (pd D1 hr (aj (pv 1) (aj (pv 0) (aj (pv 2) ak))))) ak))))),?_⟩;refine⟨_,rfl,b,_,rfl,hB,λhz=>?_⟩;let Pv4:Nat->List V->St->Hp->Prop:=λk acc σ H'=>acc=(((ps.take k).map λo=>bN ts o x)).map V.bl/\Same H H'/\∃o,σ=[o,some (.ref a),some (.int x)];refine IV (xs:=ps.map V.int) Pv4 ⟨rfl,Same.refl _,_,rfl⟩ (λk acc σ H' _ p=>p.2.1.tup hB) (λk acc σ H' hk p=>?_) hz (λk v acc σ H' hx pp=>?_) (λacc σ H' p=>?_)
 ·rw[p.1,aD,aD,nR];exact u9 _ _
 ·obtain⟨rfl,sm,o,rfl⟩:=pp;rw[dI]at hx;cases ex:ps[k]? with
  |none=>rw[ex]at hx;cases hx
  |some y=>
   rw[ex]at hx;cases hx;refine⟨_,rfl,_,rfl,_,rfl,a,n,y,x,ts,rfl,hW.same sm,λH2 s2=>⟨?_,sm.trans s2,_,rfl⟩⟩;rw[rF,ex,bR,bR];rfl
 ·intro p1 hp1;obtain⟨rfl,sm,_⟩:=p;refine⟨p1,_,rfl,ja.of aK,_,rfl,?_⟩;have e:(!(((ps.take (ps.map V.int).length).map λo=>bN ts o x).any id))=dO ts ps x:=by
   rw[aD,rE,Mo];rfl
  rw[e];exact q _ (sm.trans (aR hp1 _))
theorem RO(xs:ζ):qa (xs.map V.int) none (some 1)=(xs.take 1).map V.int:=by
 cases xs with
 |nil=>rfl
 |cons x r=>
  unfold qa HT.sIx;simp
  try omega
theorem RS(xs:ζ):qa (xs.map V.int) (some 1) none=(xs.drop 1).map V.int:=by
 cases xs with
 |nil=>rfl
 |cons x r=>
  unfold qa HT.sIx;simp;rw[Fq (by rw[aD];exact aP _)]
inductive qC(K:af)(vs:List V)(H:Hp)(Q:VK)(E_:XK):Prop
 |mk(a b:ag)(n:Int)(ts:L0)(xs:ζ)(_:vs=[.ref a,.ref b])(_:lJ K H a n ts)(_:SqT K H b (xs.map V.int))(_:xs.length<=10)(_:∀(r:ag) (ae:List (ag×ζ)) H',Same H H'->H' r=some (.lst (ae.map λp=>V.ref p.1))->yK K H' ae->ae.map (·.2)=rf ts xs->H r=none->Q (.ref r) H')
theorem Lr{f:ag}{fd:χ}
  (F:pV K "first_parts" "first_parts" fM f fd)(D1:Dp P w K mg base 2 "can_stand_with" fG ["web","part","place"] (zm K)):
  gx P w K mg base kG 3 f fd ["web","some"] (qC K):=by
 refine F.M7 ["web","some","found","place"] λcdv A outer s H vs Q E hr h=>?_;obtain⟨a,b,n,ts,xs,rfl,hW,hB,ac,q⟩:=h;refine eX ?_;intro Y;refine⟨_,(aN (pS 2 (rd (aj (sh zJ (pv 1) tm (sn aL)) ak))) (aN (rS Fw rfl (EY (sh zJ (pv 1) (sn aL) tm)) (pG 3) (aY (pS 2 (dF sT (pv 2) (pK ["part"] ["web","place"] [0,3] (ur (pv 2)) (pG 0) (Fb (iT (pd D1 hr (aj (pv 1) (aj (pv 0) (aj (pv 2) ak)))))) (dF (Cz K) (pv 0) (ou (aj (pv 2) ak)))))))) (aY (bK (pv 2))))),?_⟩;refine Dw ?_;intro c3 c2;refine⟨_,rfl,_,rfl,b,_,rfl,hB,λr0 H0 s0 h0=>?_⟩;rw[RO]at h0;refine⟨rV,λl0 hl0=>?_⟩;have s1:=aR hl0 (.lst [.ref r0]);refine⟨_,rfl,_,rfl,b,_,rfl,(s0.trans s1).tup hB,λr1 H1 s2 h1=>?_⟩;rw[RS]at h1;refine⟨r1,_,rfl,h1,λhz=>?_⟩;let Pv5:Nat->St->Hp->Prop:=λk σ H'=>∃(l:ag) (ae:List (ag×ζ)) (o3:Option V),σ=[some (.ref a),some (.ref b),some (.ref l),o3]/\Same H H'/\Same H1 H'/\H' l=some (.lst (ae.map λp=>V.ref p.1))/\yK K H' ae/\ae.map (·.2)=lH (dO ts) xs k/\H l=none;refine Ap (K:=K) (a:=r1) (xs:=(xs.drop 1).map V.int) Pv5
  ⟨l0,[(r0,xs.take 1)],_,rfl,s0.trans (s1.trans s2),Same.refl _,s2 _ _ aK,λp hp=>by rw[jw.mp hp];exact(s1.trans s2).tup h0,rfl,s0.free hl0⟩ (λk σ H' _ p=>?_) (λk x σ H2 hx p=>?_) (λσ H2 p=>?_)
 ·obtain⟨_,_,_,_,_,s3,_⟩:=p;exact s3.tup h1
 ·obtain⟨l,ae,o3,rfl,sm,s3,hl,hT,hm,l00⟩:=p;rw[dI]at hx;cases ek:(xs.drop 1)[k]? with
  |none=>rw[ek]at hx;cases hx
  |some y=>
   rw[ek]at hx;cases hx;have hk:k<=9:=by
    have:=(oG.mp ek).1;rw[EM]at this;omega
   have hlen2:ae.length<=512:=by
    have h1:ae.length=(lH (dO ts) xs k).length:=by rw[<-hm,aD]
    rw[h1];exact dH (DY _ _ _) (Xp (n:=2) (by decide) hk)
   have abv:∀p∈ae,p.2.length<=10:=λp hp=>by
    have hm':p.2∈lH (dO ts) xs k:=by rw[<-hm];exact Tr hp
    cases xs with
    |nil=>simp at ek
    |cons x r=>
     have:=(jG k _ hm').1.length_le;rw[uL,nR]at this;rw[uL]at ac;omega
   refine⟨_,rfl,_,rfl,l,_,rfl,ja.of hl,λhz=>?_⟩;let Pv6:Nat->List V->St->Hp->Prop:=λi acc σ H'=>∃jts:List (ag×ζ),acc=jts.map (λp=>V.ref p.1)/\jts.map (·.2)=(((ae.take i).map (·.2)).filter λp=>dO ts p y).map (λs=>s++[y])/\yK K H' jts/\Same H2 H'/\∃o,σ=[o,some (.ref a),some (.int y)];refine w6 (xs:=ae.map λp=>V.ref p.1) Pv6 ⟨[],rfl,rfl,λp hp=>(nomatch hp),Same.refl _,_,rfl⟩ (λi acc σ H' _ p=>?_) (λi acc σ H' hi p=>?_) hz (λi x acc σ H4 hx p=>?_) (λacc σ H4 p=>?_)
   ·obtain⟨_,_,_,_,s2,_⟩:=p;exact s2.seq (ja.of hl)
   ·obtain⟨jts,rfl,hj,_⟩:=p;have:=jQ df hj;rw[aD,aD]at this;rw[aD,this];refine dH (vf _ _) ?_;rw[aD,nR];exact u9 _ _
   ·obtain⟨jts,rfl,hj,hJ,s4,o,rfl⟩:=p;rw[dI]at hx;cases ex:ae[i]? with
    |none=>rw[ex]at hx;cases hx
    |some v=>
     rw[ex]at hx;cases hx;have mv:=oF ex;have et:(((ae.take (i+1)).map (·.2)).filter λp=>dO ts p y)=(((ae.take i).map (·.2)).filter λp=>dO ts p y)++(if dO ts v.2 y=true then[v.2]else[]):=by
      rw[rF,ex,bR,Fe];congr 1;exact SE _ _
     refine⟨_,rfl,_,rfl,_,rfl,a,v.1,n,y,ts,v.2,rfl,hW.same (sm.trans s4),s4.tup (hT v mv),λH5 s5=>⟨_,rfl,?_⟩⟩;refine nE (λc=>?_) (λc=>?_)
     ·refine⟨_,rfl,_,rfl,rV,λp1 hp1=>?_⟩;have s6:=aR hp1 (.tup [.int y]);refine⟨v.1,p1,_,_,rfl,rfl,(s4.trans (s5.trans s6)).tup (hT v mv),SqT.of aK,(by have:=abv v mv;rw[aD,gF];show _+1<=_;omega),λr H7 s7 h7=>?_⟩;have Ye:=s5.trans (s6.trans s7);refine⟨jts++[(r,v.2++[y])],by rw[bR];rfl,?_,λp hp=>?_,s4.trans Ye,_,rfl⟩
      ·rw[bR,hj,et,au c,bR];rfl
      ·rcases oE.mp hp with z|z
       ·exact Ye.tup (hJ p z)
       ·rw[jw.mp z];show SqT K H7 r ((v.2++[y]).map V.int);rw[bR];exact h7
     ·refine⟨jts,rfl,?_,hJ.same s5,s4.trans s5,_,rfl⟩;rw[hj,et,aq c,xr]
   ·intro p1 hp1;obtain⟨jts,rfl,hj,hJ,s4,o,rfl⟩:=p;rw[aD,rE,hm]at hj;have hjl:jts.length<=ae.length:=by
     have:=jQ df hj;rw[aD,aD]at this;have e2:ae.length=(lH (dO ts) xs k).length:=by rw[<-hm,aD]
     rw[this,e2];exact vf _ _
    have s5:=aR hp1 (.lst (jts.map λp=>V.ref p.1));refine⟨l,p1,_,_,rfl,rfl,s5 _ _ (s4 _ _ hl),aK,(by rw[aD,aD,gF];omega),λl2 hl2=>?_⟩;have s6:=aR hl2 (.lst (ae.map (λp=>V.ref p.1)++jts.map λp=>V.ref p.1));have Te:=s5.trans s6;refine⟨l2,ae++jts,_,rfl,sm.trans (s4.trans Te),s3.trans (s4.trans Te),by rw[aK,bR],λp hp=>?_,?_,(sm.trans (s4.trans s5)).free hl2⟩
    ·rcases oE.mp hp with z|z
     ·exact(s4.trans Te).tup (hT p z)
     ·exact Te.tup (hJ p z)
    ·rw[bR,hm,hj,sV ek];rfl
 ·obtain⟨l,ae,o3,rfl,sm,s3,hl,hT,hm,l00⟩:=p;rw[aD,Ea]at hm;exact⟨_,rfl,q l ae H2 sm hl hT hm l00⟩
theorem lU{H:Hp}(h:H T=some (.tbl ps))(e:H a=some o)(n:∀ps,o≠.tbl ps):a≠T:=λz=>by rw[z,h]at e;cases e;exact n _ rfl
theorem xK(e:aW T H H')(h:H T=some (.tbl ps))(hx:SqT K H a xs):SqT K H' a xs:=by
 rcases hx with(q|⟨o,q⟩)|q
 ·exact .inl (.inl (e _ _ (lU h q λ_ z=>nomatch z) q))
 ·exact .inl (.inr ⟨o,e _ _ (lU h q λ_ z=>nomatch z) q⟩)
 ·exact .inr q
theorem Rs(e:aW T H H')(h:H T=some (.tbl ps))(hx:ja K H a xs):ja K H' a xs:=by
 rcases hx with(q|⟨o,q⟩)|q
 ·exact .inl (.inl (e _ _ (lU h q λ_ z=>nomatch z) q))
 ·exact .inl (.inr ⟨o,e _ _ (lU h q λ_ z=>nomatch z) q⟩)
 ·exact .inr q
theorem Yp(e:aW T H H')(n:H T=some (.tbl tb)){ps:L0}(h:cY K H rs (ps.map pairD)):cY K H' rs (ps.map pairD):=by
 induction ps generalizing rs with
 |nil=>cases h;exact .nil
 |cons p ps ih=>
  cases h with
  |cons h tl=>
   refine .cons ?_ (ih tl);cases h with
   |tup h hd=>
    cases hd with
    |cons a1 t1=>
     cases a1;cases t1 with
     |cons a2 t2=>
      cases a2;cases t2;exact .tup (xK e n h) (.cons (.int _) (.cons (.int _) .nil))
theorem Sl(h:lJ K H a n ts)(e:aW T H H')(hn:H T=some (.tbl tb)):lJ K H' a n ts:=by
 obtain⟨u,rs,h1,h2,h3⟩:=h;exact⟨u,rs,xK e hn h1,xK e hn h2,Yp e hn h3⟩
theorem aZ.tbl(h:aZ K H a n ts)(e:aW T H H')(hn:H T=some (.tbl tb)):aZ K H' a n ts:=⟨Sl h.web e hn,h.h0,h.h1,h.pk,h.ok⟩
theorem _root_.L2.jK.at(h:jK H T p q):∃tb,H T=some (.tbl tb):=by
 rcases h with h|⟨_,_,_,_,h,_⟩
 ·exact⟨_,h⟩
 ·exact⟨_,h⟩
theorem _root_.L2.jK.Wx(h:jK H T p q)(e:aW l H H')(hl:H l=some (.lst zs)):jK H' T p q:=by
 rcases h with h|⟨c,oc,vs,tq,h,h1,h2⟩
 ·exact .inl (e _ _ (rX h hl (λz=>nomatch z)) h)
 ·exact .inr ⟨c,oc,vs,tq,e _ _ (rX h hl (λz=>nomatch z)) h,e _ _ (rX h1 hl (λz=>nomatch z)) h1,h2⟩
noncomputable def Y9:Pos:=match qf Tj with
 |[.Return (some (.Call _ _ [⟨_,.Lambda _ _ _ p,_⟩] _)) _]=>p
 |_=>⟨0,0,0,0⟩
noncomputable def Re:Str:=("best_part":be)++".<locals>."++"<lambda>"
noncomputable abbrev Io(H:Hp)(T:ag):Prop:=jK H T Y9 Re
theorem YX(c:(!(!((xs.map V.int).isEmpty)))=true):xs=[]:=by
 cases xs with
 |nil=>rfl
 |cons x r=>exact absurd c (by show¬(!(!false))=true;decide)
theorem SD(c:¬(!(!((xs.map V.int).isEmpty)))=true):xs≠[]:=λe=>by subst e;exact c rfl
inductive zx(K:af)(vs:List V)(H:Hp)(Q:VK)(E_:XK):Prop
 |mk(a d b:ag)(n:Int)(ts:L0)(xs:ζ)(kvs:List (List tJ×V))(g:ζ->Int)(_:vs=[.ref a,.ref d,.ref b])(_:lJ K H a n ts)(_:H d=some (.dT kvs))(_:SqT K H b (xs.map V.int))(_:xs.length<=10)(_:xs≠[]->∀p∈rf ts xs,tz kvs ((wo xs p).map bW)=some (.int (g (wo xs p))))(_:∀H',Same H H'->Q (.int (uR g ts xs)) H')
theorem Uv{f:ag}{fd:χ}
  (F:pV K "highest_floor" "highest_floor" ID f fd)(D1:Dp P w K mg base 3 "first_parts" fM ["web","some"] (qC K))(D2:Dp P w K mg base 1 "without" V5 ["some","part"] (gO K))(Df:mg "min"=none):
  gx P w K mg base kG 4 f fd ["web","floors","some"] (zx K):=by
 refine F.dD ["web","floors","some"] λH Q hr h=>?_;obtain⟨a,d,b,n,ts,xs,kvs,g,rfl,hW,hD,hB,ac,hv,q⟩:=h;refine⟨_,(aN (iK (jy (sR (pv 2) (λ_=>rfl))) (aY (bK aL)) iM) (aY (bK (dF rk aL (pB (yI rfl) Df (aj (pK ["part"] ["floors","some"] [1,2] (ur (pd D1 hr (aj (pv 0) (aj (pv 2) ak)))) (pG 0) lF (ui (wE hr) (pv 1) (pd D2 hr (aj (pv 2) (aj (pv 0) ak))) (λ_ _=>rfl))) ak)))))),?_⟩;refine⟨_,rfl,!((xs.map V.int).isEmpty),.inr (.inl ⟨_,hB,rfl⟩),?_⟩;refine nE (λc=>?_) (λc=>?_)
 ·have e:=YX c;subst e;exact q H (Same.refl _)
 ·have hx:=SD c;have hv:=hv hx;refine⟨_,rfl,_,rfl,a,b,n,ts,xs,rfl,hW,hB,ac,λr ae H1 s1 hr1 hT hm hr0=>⟨r,_,rfl,ja.of hr1,λhz=>?_⟩⟩;refine w6 (xs:=ae.map λp=>V.ref p.1) (λi acc σ H'=>acc=((ae.take i).map λp=>g (wo xs p.2)).map V.int/\Same H1 H'/\∃o,σ=[o,some (.ref d),some (.ref b)]) ⟨rfl,Same.refl _,_,rfl⟩ (λi acc σ H' _ p=>p.2.1.seq (ja.of hr1)) (λi acc σ H' _ p=>?_) hz (λi x acc σ H' hx p=>?_) (λacc σ H' p=>?_)
  ·rw[p.1,aD,aD,nR];exact u9 _ _
  ·obtain⟨rfl,sm,o,rfl⟩:=p;rw[dI]at hx;cases ex:ae[i]? with
   |none=>rw[ex]at hx;cases hx
   |some v=>
    rw[ex]at hx;cases hx;have mv:=oF ex;have mp:v.2∈rf ts xs:=by rw[<-hm];exact Tr mv
    refine⟨_,rfl,_,rfl,_,rfl,b,v.1,xs,v.2,rfl,(s1.trans sm).tup hB,sm.tup (hT v mv),λrr H2 s2 h2=>?_⟩;have G:=wf.t (k:=(wo xs v.2).map bW) ((s1.trans (sm.trans s2)) _ _ hD) (by rw[zd];exact h2);rw[hv _ mp]at G;refine⟨d,_,rfl,G,?_,sm.trans s2,_,rfl⟩;rw[rF,ex,bR,bR];rfl
  ·intro p1 hp1;obtain⟨rfl,sm,_⟩:=p;have e:(ae.take (ae.map λp=>V.ref p.1).length).map (λp=>g (wo xs p.2))=(rf ts xs).map λp=>g (wo xs p):=by
    rw[aD,rE,<-hm,Kq];rfl
   rw[e];refine⟨p1,_,rfl,ja.of aK,λz=>Q8 _ _ (List.map_eq_nil_iff.mp z),λm h1 h2=>⟨_,_,rfl,rfl,?_⟩⟩;have e2:uR g ts xs=1+m:=by rw[BH h1 h2,uR,aq hx]
   show Q (.int (1+m)) _;rw[<-e2];exact q _ (s1.trans (sm.trans (aR hp1 _)))
inductive zu(K:af)(vs:List V)(H:Hp)(Q:VK)(E_:XK):Prop
 |mk(a:ag)(n:Int)(ts:L0)(_:vs=[.ref a])(_:aZ K H a n ts)(_:∀d H',Same H H'->H' d=some (.dT (lY (jR ts) (bL n.toNat)))->H d=none->Q (.ref d) H')
theorem Qg{f:ag}{fd:χ}
  (F:pV K "highest_floors" "highest_floors" LS f fd)(D1:Dp P w K mg base 1 "all_sets" iz ["n"] (jC K))(D2:Dp P w K mg base 4 "highest_floor" ID ["web","floors","some"] (zx K)):
  gx P w K mg base kG 5 f fd ["web"] (zu K):=by
 refine F.dD ["web","floors","some"] λH Q hr h=>?_;obtain⟨a,n,ts,rfl,hA,q⟩:=h;refine⟨_,(aN (pS 1 BD) (aN (rS Fw rfl (ur (pd D1 hr (aj (bw cH (pv 0) aL) ak))) (pG 2) (aY (Cs (wE hr) (pv 1) (pv 2) (pd D2 hr (aj (pv 0) (aj (pv 1) (aj (pv 2) ak)))) rfl))) (aY (bK (pv 1))))),?_⟩;intro d hd;have s0:=aR hd (.dT []);have h0:(upd H d (.dT [])) d=some (.dT (lY (jR ts) ((bL n.toNat).take 0))):=aK;generalize upd H d (.dT [])=H0 at *;obtain⟨t,rs,w1,w2,w3⟩:=id (hA.web.same s0);refine⟨_,rfl,a,_,_,.int n,rfl,rfl,w1,rfl,n,rfl,hA.h0,hA.h1,λr ae H1 s1 hr1 hT hm=>⟨r,_,rfl,ja.of hr1,λhz=>?_⟩⟩;have h1:=s1 _ _ h0;have nrd:r≠d:=rX hr1 h1 (λz=>nomatch z);have ac:ae.length<=1024:=by
  have:ae.length=2^n.toNat:=by rw[<-eZ,<-hm,aD]
  rw[this];exact Xp (n:=2) (by decide) (show n.toNat<=10 by have:=hA.h1;omega)
 refine ul (K:=K) (a:=r) (xs:=ae.map λp=>V.ref p.1) (λi σ H'=>Same H H'/\H' r=some (.lst (ae.map λp=>V.ref p.1))/\LN H' ae/\H' d=some (.dT (lY (jR ts) ((bL n.toNat).take i)))/\∃o,σ=[some (.ref a),some (.ref d),o])
  ⟨s0.trans s1,hr1,hT,h1,_,rfl⟩ (λi σ H' _ p=>ja.of p.2.1) (λi x σ H' hx p=>?_) (λσ H' p=>?_)
 ·obtain⟨sm,hr2,hT2,hd2,o,rfl⟩:=p;rw[dI]at hx;cases ex:ae[i]? with
  |none=>rw[ex]at hx;cases hx
  |some v=>
   rw[ex]at hx;cases hx;have mv:=oF ex;have es:(bL n.toNat)[i]? =some v.2:=by rw[<-hm,dI,ex];rfl
   have lv:v.2.length<=10:=by
    have:=m5 n.toNat v.2 (oF es);have:=hA.h1;omega
   have nv:v.2∉(bL n.toNat).take i:=λz=>by
    obtain⟨j,hj,ej⟩:=Bs z;rw[nR]at hj;rw[pP]at ej;have h2:=oG.mp es;obtain⟨hi,ei⟩:=h2;have:=BK.mp (kY n.toNat) j i (by omega) hi (by omega);exact this (ej.trans ei.symm)
   refine⟨_,rfl,_,rfl,_,rfl,a,d,v.1,n,ts,v.2,_,jR ts,rfl,hA.web.same sm,hd2,SqT.of (hT2 v mv),lv,λhx p hp=>?_,λH3 s3=>?_⟩
   ·rw[fQ,au];obtain⟨y,yr,ey⟩:∃y yr,v.2=y::yr:=by
     cases hv:v.2 with
     |nil=>exact absurd hv hx
     |cons y yr=>exact⟨y,yr,rfl⟩
    rw[ey]at hp es⊢;exact tE n.toNat i _ _ es (oU _ _) (Nx (mV hp).2)
   ·rw[<-zk];refine⟨_,rfl,_,rfl,d,_,rfl,B6.t (k:=v.2.map bW) (s3 _ _ hd2) (by rw[zd];exact s3 _ _ (hT2 v mv)) ?_,?_⟩
    ·rw[vM,nR,eZ,gF];have:2^n.toNat<=1024:=Xp (n:=2) (by decide) (show n.toNat<=10 by have:=hA.h1;omega);omega
    ·rw[Oz nv];have xd:aW d H3 (upd H3 d (.dT (lY (jR ts) ((bL n.toNat).take i++[v.2])))):=(aW.refl _ _).upd;refine⟨Same.over (sm.trans s3) hd xd,xd _ _ nrd (s3 _ _ hr2),λp hp=>xd _ _ (rX (s3 _ _ (hT2 p hp)) (s3 _ _ hd2) (λz=>nomatch z)) (s3 _ _ (hT2 p hp)),?_,_,rfl⟩;rw[aK,rF,es];rfl
 ·obtain⟨sm,hr2,hT2,hd2,o,rfl⟩:=p;have e:(bL n.toNat).take (ae.map λp=>V.ref p.1).length=bL n.toNat:=by
   rw[aD,show ae.length=(bL n.toNat).length by rw[<-hm,aD],rE]
  rw[e]at hd2;exact⟨_,rfl,q d H' sm hd2 hd⟩
inductive Gh(K:af)(T:ag)(vs:List V)(H:Hp)(Q:VK)(E_:XK):Prop
 |mk(a d b:ag)(n:Int)(ts:L0)(xs:ζ)(kvs:List (List tJ×V))(g:ζ->Int)(_:vs=[.ref a,.ref d,.ref b])(_:lJ K H a n ts)(_:H d=some (.dT kvs))(_:SqT K H b (xs.map V.int))(_:xs≠[])(_:xs.length<=10)(_:∀p∈rf ts xs,tz kvs ((wo xs p).map bW)=some (.int (g (wo xs p))))(_:Io H T)(_:∀r p H',aW T H H'->Io H' T->SqT K H' r (p.map V.int)->p∈rf ts xs->(∀q∈rf ts xs,g (wo xs p)<=g (wo xs q))->Q (.ref r) H')
theorem T8:se ["web","floors","some"] ["web","floors","some"] (kq Tj):=LG
theorem Uz{f f2 c T:ag}
  {fd d2:χ}
  (F:pV K "best_part" "best_part" Tj f fd)(hcd:fd.code=.ref c)
  (LB:Eo base mg c T)(D1:Dp P w K mg base 3 "first_parts" fM ["web","some"] (qC K))(D2:tR K mg "without" V5 ["some","part"] f2 d2)(G2':gx P w K mg base kG 1 f2 d2 ["some","part"] (gO K))(Df:mg "min"=none):
  gx P w K mg base kG 5 f fd ["web","floors","some"] (Gh K T):=by
 have G2:gx P w K mg base kG 2 f2 d2 ["some","part"] (gO K):=G2'.mono (by decide);refine F.okC hcd T8 (λvs H Q E h=>?_) (λA outer s H vs Q E hr h=>?_)
 ·obtain⟨a,d,b,n,ts,xs,kvs,g,rfl,_⟩:=h;rfl
 obtain⟨a,d,b,n,ts,xs,kvs,g,rfl,hW,hD,hB,hx,ac,hv,hL,q⟩:=h;refine⟨_,(aY (bK (Lb (k:=2) (y:="part") (caps:=["floors","some"]) (ix:=[1,2]) LB rfl rfl hr rfl Df (aj (pd D1 hr (aj (pv 0) (aj (pv 2) ak))) ak)
   (.cons rfl rfl (.cons rfl rfl .nil)) (λ_ _ _ _ hl=>ui (wE hl) (pv 1) (vi G2 hl rfl D2.m D2.F.kp D2.b .nil k8 (aj (pv 2) (aj (pv 0) ak))) (λ_ _=>rfl))))),?_⟩
 refine⟨_,rfl,_,rfl,a,b,n,ts,xs,rfl,hW,hB,ac,λr ae H1 s1 hr1 hT hm hr0=>?_⟩;have hL1:=hL.same s1;obtain⟨tb,ht⟩:=hL1.at;have hne:ae≠[]:=λz=>Q8 (dO ts) xs (by rw[<-show ae.map (·.2)=E6 (dO ts) xs from hm,z];rfl);refine⟨r,ae,rfl,ja.of hr1,hne,hL1,λj=>g (wo xs (ae.getD j (0,[])).2),λ_ H'=>aW T H1 H'/\Io H' T,λH2 e l=>⟨e,l⟩,λj H' e=>Rs e.1 ht (ja.of hr1),λj p H' hp e=>?_,λi p H' hp hb e=>?_⟩
 ·have mp:=oF hp;have mf:p.2∈rf ts xs:=by rw[<-hm];exact Tr mp
  have ed:ae.getD j (0,[])=p:=by rw[dY,hp];rfl
  refine⟨_,rfl,_,rfl,_,rfl,b,p.1,xs,p.2,rfl,xK e.1 ht (s1.tup hB),xK e.1 ht (hT p mp),λrr H2 s2 h2=>?_⟩;have hd2:=e.1 _ _ (lU ht (s1 _ _ hD) λ_ z=>nomatch z) (s1 _ _ hD);have G:=wf.t (k:=(wo xs p.2).map bW) (s2 _ _ hd2) (by rw[zd];exact h2);rw[hv _ mf]at G;refine⟨d,_,rfl,G,(by show V.int _=V.int (g (wo xs (ae.getD j (0,[])).2));rw[ed]),λc o n e'=>s2 _ _ (e.1 c o n e'),e.2.same s2⟩
 ·have mp:=oF hp;have ed:ae.getD i (0,[])=p:=by rw[dY,hp];rfl
  refine q p.1 p.2 H' (λc o n e'=>e.1 c o n (s1 _ _ e')) e.2 (xK e.1 ht (hT p mp)) (by rw[<-hm];exact Tr mp) λz hz=>?_;rw[<-hm]at hz;obtain⟨y,hy,rfl⟩:=jP.mp hz;obtain⟨j,hj,ej⟩:=Bs hy;have:=(hb j hj).1;have ey:ae.getD j (0,[])=y:=by rw[dY,cU hj,ej];rfl
  dsimp only at this;rw[ed,ey]at this;exact this
inductive Ol(K:af)(T:ag)(vs:List V)(H:Hp)(Q:VK)(E_:XK):Prop
 |mk(a d:ag)(n:Int)(ts:L0)(_:vs=[.ref a,.ref d])(_:aZ K H a n ts)(_:H d=some (.dT (lY (jR ts) (bL n.toNat))))(_:Io H T)(_:∀r hs H',aW T H H'->Io H' T->H' r=some (.tup (hs.map V.int))->jr ts n.toNat (jR ts (jD n.toNat)) hs->Q (.ref r) H')
theorem Ox{hs:ζ}:(hs.map V.int).set i (.int x)=(hs.set i x).map V.int:=by rw[IT]
theorem Yb:se ["web","floors","hues","left","hue","part","place"] ["web","floors"] (kq IF):=LG
theorem YW{f T:ag}{fd:χ}
  (F:pV K "hues_by_floors" "hues_by_floors" IF f fd)(D1:Dp P w K mg base 5 "best_part" Tj ["web","floors","some"] (Gh K T))(D2:Dp P w K mg base 1 "without" V5 ["some","part"] (gO K))(aJ:mg "tuple"=none)(aF:mg "range"=none):
  gx P w K mg base kG 6 f fd ["web","floors"] (Ol K T):=by
 refine F.dD ["web","floors","hues","left","hue","part","place"] λH Q hr h=>?_;obtain⟨a,d,n,ts,rfl,hA,hD,hL,q⟩:=h;refine eX ?_;intro Y;refine⟨_,(aN (pS 2 (dF BF (rd (aj aL ak)) (bw cH (pv 0) aL))) (aN (pS 3 (fX rfl rfl aJ rfl aF (aj (bw cH (pv 0) aL) ak))) (aN (pS 4 aL) (aN (vw Fw (sR (pv 3) (λ_=>rfl)) (aN (pS 5 (pd D1 hr (aj (pv 0) (aj (pv 1) (aj (pv 3) ak))))) (aN (rS Fw rfl (EY (pv 5)) (pG 6) (aY (sw (pv 4) (uu (pv 2) (pv 6) sF)))) (aN (pS 3 (pd D2 hr (aj (pv 3) (aj (pv 5) ak)))) (aY (DJ (i:=4) Yb.nd rfl (ii rfl) aL Eg)))))) (aY (bK (pT Ss aJ (aj (pv 2) ak)))))))),?_⟩;refine Sn ?_;intro c5 c4 c3 c2;obtain⟨t,rs,w1,w2,w3⟩:=id hA.web;have hn0:=hA.h0;have hn1:=hA.h1;refine⟨rV,λl0 hl0=>?_⟩;have s0:=aR hl0 (.lst [.int 0]);refine⟨_,rfl,a,_,_,.int n,rfl,rfl,s0.tup w1,rfl,l0,n,_,rfl,rfl,aK,by omega,by omega,by rw[gF];show 1*n.toNat<=_;omega,λl hl=>?_⟩;have s1:=s0.trans (aR hl (.lst (ah n.toNat [V.int 0]).flatten));have e0:(ah n.toNat [V.int 0]).flatten=(ah n.toNat 0).map V.int:=by
  rw[List.map_replicate]
  induction n.toNat with
  |zero=>rfl
  |succ k ih=>rw[Kv,Tq,ih,Kv];rfl
 have hl1:(upd (upd H l0 (.lst [.int 0])) l (.lst (ah n.toNat [V.int 0]).flatten)) l=some (.lst ((ah n.toNat (0:Int)).map V.int)):=by rw[aK,e0]
 have l00:H l=none:=s0.free hl;dsimp only at s1 hl1⊢;generalize upd (upd H l0 (.lst [.int 0])) l (.lst (ah n.toNat [V.int 0]).flatten)=H1 at *;refine⟨_,rfl,a,_,_,.int n,rfl,rfl,s1.tup w1,rfl,n,rfl,hn0,by omega,λlf hlf=>?_⟩;have s2:=aR hlf (.tup (dh n.toNat));have aaM:(upd H1 lf (.tup (dh n.toNat))) lf=some (.tup ((jD n.toNat).map V.int)):=by rw[aK,vq]
 have hl2:=s2 _ _ hl1;have s12:=s1.trans s2;dsimp only at s12 aaM hl2⊢;generalize upd H1 lf (.tup (dh n.toNat))=H2 at *;refine⟨λm σ H'=>∃(xs hs:ζ) (h:Int) (b:ag) (o5 o6:Option V),m=xs.length/\σ=[some (.ref a),some (.ref d),some (.ref l),some (.ref b),some (.int h),o5,o6]/\aW T H H'/\Io H' T/\H' l=some (.lst (hs.map V.int))/\SqT K H' b (xs.map V.int)/\xW ts n.toNat (jR ts (jD n.toNat)) xs h hs,
  ⟨_,jD n.toNat,_,0,lf,_,_,rfl,rfl,s12.x T,hL.same s12,hl2,SqT.of aaM,xW.start ts n.toNat⟩,?_⟩
 rintro m σ H' ⟨xs,hs,h,b,o5,o6,rfl,rfl,sx,hLm,hl3,hB,HI⟩;refine⟨_,rfl,!((xs.map V.int).isEmpty),.inr (.inl ⟨_,hB,rfl⟩),?_⟩;obtain⟨tb0,ht0⟩:=hL.at;obtain⟨tb,ht⟩:=hLm.at;have nlT:l≠T:=lU ht hl3 λ_ z=>nomatch z
 refine nE (λc=>?_) (λc=>?_)
 ·have hx:xs≠[]:=λe=>by subst e;exact absurd c (by decide)
  have xl:xs.length<=10:=by
   have:=HI.sub.length_le;rw[Ud]at this;omega
  have hA':=hA.tbl sx ht0;have hD':=sx _ _ (lU ht0 hD λ_ z=>nomatch z) hD;refine⟨λσ' yL=>∃m',m'<xs.length/\∃(xs hs:ζ) (h:Int) (b:ag) (o5 o6:Option V),m'=xs.length/\σ'=[some (.ref a),some (.ref d),some (.ref l),some (.ref b),some (.int h),o5,o6]/\aW T H yL/\Io yL T/\yL l=some (.lst (hs.map V.int))/\SqT K yL b (xs.map V.int)/\xW ts n.toNat (jR ts (jD n.toNat)) xs h hs,λσ' yL z=>z,?_⟩;refine⟨_,rfl,_,rfl,_,rfl,a,d,b,n,ts,xs,_,jR ts,rfl,hA'.web,hD',hB,hx,xl,λp hp=>?_,hLm,λr p H3 s3 hL3 hr hp hb=>?_⟩
  ·rw[fQ,au ((MF _ _).mpr ((oU _ _).trans HI.sub))]
  ·have Zj:=s3 _ _ nlT hl3;have hB3:=xK s3 ht hB;have pin:∀z∈p,0<=z/\z<(n.toNat:Int):=λz hz=>by
    obtain⟨y,yr,rfl⟩:∃y yr,xs=y::yr:=by
     cases xs with
     |nil=>exact absurd rfl hx
     |cons y yr=>exact⟨y,yr,rfl⟩
    exact nM.mp (HI.sub.subset ((mV hp).1.subset hz))
   refine⟨_,rfl,r,_,rfl,hr,λhz=>?_⟩;let xV:Nat->St->Hp->Prop:=λi σ H'=>∃o6,σ=[some (.ref a),some (.ref d),some (.ref l),some (.ref b),some (.int h),some (.ref r),o6]/\aW l H3 H'/\H' l=some (.lst ((zL hs (p.take i) h).map V.int));refine Ap (K:=K) (a:=r) (xs:=p.map V.int) xV
    ⟨_,rfl,aW.refl _ _,Zj⟩ (λi σ H' _ z=>?_) (λi x σ H4 Zc z=>?_) (λσ H4 z=>?_)
   ·obtain⟨_,_,z,_⟩:=z;exact z.tup Zj hr
   ·obtain⟨o6,rfl,x4,h4⟩:=z;rw[dI]at Zc;cases ex:p[i]? with
    |none=>rw[ex]at Zc;cases Zc
    |some y=>
     rw[ex]at Zc;cases Zc;have hy:=pin y (oF ex);refine⟨_,rfl,_,rfl,_,rfl,l,_,y,y.toNat,rfl,rfl,h4,?_,_,rfl,x4.upd,?_⟩
     ·unfold xy;rw[au hy.1,au (by rw[aD,vN,HI.len];omega)]
     ·rw[aK,Ox,rF,ex];unfold zL;rw[pM];rfl
   ·obtain⟨o6,rfl,x4,h4⟩:=z;rw[aD,rE]at h4;refine⟨_,rfl,_,rfl,b,r,xs,p,rfl,x4.tup Zj hB3,x4.tup Zj hr,λb2 H5 s5 h5=>?_⟩;refine⟨_,rfl,_,_,rfl,rfl,?_⟩;have xl2:aW l H3 H5:=x4.trans (s5.x l);have hL5:=(hL3.Wx x4 Zj).same s5;refine⟨_,?_,wo xs p,zL hs p h,h+1,b2,_,_,rfl,rfl,λc o nc e=>?_,hL5,s5 _ _ h4,SqT.of h5,HI.step (by rw[show((n.toNat:Nat):Int)=n by omega];exact hA.pk) hx hp hb⟩
    ·obtain⟨y,yr,rfl⟩:∃y yr,xs=y::yr:=by
      cases xs with
      |nil=>exact absurd rfl hx
      |cons y yr=>exact⟨y,yr,rfl⟩
     exact Sm (mV hp).2
    ·exact xl2 _ _ (λz=>by rw[z,l00]at e;cases e) (s3 _ _ nc (sx _ _ nc e))
 ·have hx:xs=[]:=by
   cases xs with
   |nil=>rfl
   |cons y yr=>exact absurd rfl c
  subst hx;refine⟨_,rfl,l,_,rfl,.inl ⟨ja.of hl3,λr hr=>?_⟩⟩;exact q r hs _ (sx.trans ((aR hr _).x T)) (hLm.same (aR hr _)) aK HI.done
inductive BX(K:af)(T:ag)(vs:List V)(H:Hp)(Q:VK)(E_:XK):Prop
 |mk(a:ag)(n:Int)(ts:L0)(_:vs=[.ref a])(_:aZ K H a n ts)(_:Io H T)(_:∀r h d hs H',aW T H H'->Io H' T->H' r=some (.tup [.int (jR ts (jD n.toNat)),.ref h,.ref d])->H' h=some (.tup (hs.map V.int))->jr ts n.toNat (jR ts (jD n.toNat)) hs->H' d=some (.dT (lY (jR ts) (bL n.toNat)))->H d=none->Q (.ref r) H')
theorem YS{f T:ag}{fd:χ}
  (F:pV K "fewest" "fewest" qH f fd)(D1:Dp P w K mg base 7 "need_web" yQ ["thing"] (aU K))(D2:Dp P w K mg base 5 "highest_floors" LS ["web"] (zu K))(D3:Dp P w K mg base 6 "hues_by_floors" IF ["web","floors"] (Ol K T))(aJ:mg "tuple"=none)(aF:mg "range"=none):
  gx P w K mg base kG 8 f fd ["web"] (BX K T):=by
 refine F.dD ["web","floors"] λH Q hr h=>?_;obtain⟨a,n,ts,rfl,hA,hL,q⟩:=h;refine eX ?_;intro Y;refine⟨_,(aN (oR (pd D1 hr (aj (pv 0) ak))) (aN (pS 1 (pd D2 hr (aj (pv 0) ak))) (aY (bK (ou (aj (ui (wE hr) (pv 1) (fX rfl rfl aJ rfl aF (aj (bw cH (pv 0) aL) ak)) (λ_ _=>rfl)) (aj (pd D3 hr (aj (pv 0) (aj (pv 1) ak))) (aj (pv 1) ak)))))))),?_⟩;refine Dw ?_;intro c3 c2;refine⟨_,rfl,_,vh n ts,rfl,hA.web.dv.dx,hA.ok,λH0 s0=>?_⟩;refine⟨_,rfl,a,n,ts,rfl,hA.same s0,λd H1 s1 hd1 hd0=>?_⟩;have s01:=s0.trans s1;obtain⟨t,rs,w1,w2,w3⟩:=id (hA.web.same s01);have hn0:=hA.h0;have hn1:=hA.h1;refine⟨_,rfl,_,rfl,a,_,_,.int n,rfl,rfl,w1,rfl,n,rfl,hn0,by omega,λl hl=>?_⟩;have s2:=aR hl (.tup (dh n.toNat));have hl2:(upd H1 l (.tup (dh n.toNat))) l=some (.tup ((jD n.toNat).map V.int)):=by rw[aK,vq]
 have Pa:=s01.trans s2;have hd2:=s2 _ _ hd1;dsimp only at Pa hl2 hd2⊢;generalize upd H1 l (.tup (dh n.toNat))=H2 at *;have G:=wf.t (k:=(jD n.toNat).map bW) hd2 (by rw[zd];exact hl2);rw[fQ,au ((MF _ _).mpr (Wq _))]at G;refine⟨d,_,rfl,G,_,rfl,_,rfl,a,d,n,ts,rfl,hA.same Pa,hd2,hL.same Pa,λh hs H3 s3 hL3 hh HO=>?_⟩;obtain⟨tb,ht⟩:=(hL.same Pa).at;have hd3:=s3 _ _ (lU ht hd2 λ_ z=>nomatch z) hd2;refine⟨_,rfl,rV,λr hr=>?_⟩;have s4:=aR hr (.tup [.int (jR ts (jD n.toNat)),.ref h,.ref d]);exact q r h d hs _ (((Pa.x T).trans s3).trans (s4.x T)) (hL3.same s4) aK (s4 _ _ hh) HO (s4 _ _ hd3) (s0.free hd0)
end
noncomputable def Fi(n b:Int)(ts:L0):L0:=rows (Om b ts (rows tt b b.toNat)) (n*b) (n*b).toNat
noncomputable def HU(b:Int)(ts:L0)(i j:Int):Bool:=decide (i/b=j/b)||decide ((i/b,j/b)∈ts)
theorem RH(hb:0<b)(hp:bJ n ts)(h0:0<=i)(hij:i<j):Om b ts (rows tt b b.toNat) i j=HU b ts i j:=by
 unfold Om HU;have e1:=OQ i b;have e2:=OQ j b;have m1:=MH i (show b≠0 by omega);have m2:=Nc i hb;have m3:=MH j (show b≠0 by omega);have m4:=Nc j hb;by_cases c:i/b=j/b
 ·rw[au c,cI c,IY];rw[c]at e1;have lt:i %b<j %b:=by omega
  unfold bN;rw[aq (by omega),au (by omega)];apply cI;rw[MJ];exact⟨m1,by show i %b<_;omega,lt,m4,rfl⟩
 ·rw[aq c,gY c,JA];have le:i/b<=j/b:=Int.ediv_le_ediv hb (by omega);unfold bN;rw[aq (by omega),au (by omega)]
theorem ZQ(hb:0<b)(hp:bJ n ts)(h0:0<=i)(h1:i<n*b)(g0:0<=j)(g1:j<n*b)(hne:i≠j):bN (Fi n b ts) i j=true↔(i/b=j/b\/aQ ts (i/b) (j/b)=true):=by
 have key:∀{i j:Int},0<=i->i<j->j<n*b->((i,j)∈Fi n b ts↔(i/b=j/b\/aQ ts (i/b) (j/b)=true)):=λ{i j} h0 hij h1=>by
  unfold Fi;rw[MJ];have hs:Om b ts (rows tt b b.toNat) i j=HU b ts i j:=RH hb hp h0 hij;have ht:aQ ts (i/b) (j/b)=true↔(i/b,j/b)∈ts:=by
   unfold aQ;rw[Wo,Wr,Wr];refine⟨λz=>z.elim id λz=>?_,.inl⟩;have:=(hp.lt _ z).2.1;have le:i/b<=j/b:=Int.ediv_le_ediv hb (by omega);have:j/b<i/b:=this;omega
  rw[ht];constructor
  ·rintro⟨_,_,_,_,z⟩;have z:Om b ts (rows tt b b.toNat) i j=true:=z;rw[hs]at z;unfold HU at z;rw[Wo,Wr,Wr]at z;exact z
  ·intro z;refine⟨h0,by show i<_;omega,hij,h1,?_⟩;show Om b ts (rows tt b b.toNat) i j=true;rw[hs];unfold HU;rw[Wo,Wr,Wr];exact z
 unfold bN;rw[Wr];by_cases c:i<j
 ·rw[aq (by omega),au (by omega)];exact key h0 c g1
 ·rw[au (by omega),aq (by omega),key g0 (by omega) h1];have:aQ ts (j/b) (i/b)=aQ ts (i/b) (j/b):=Sg _ _ _;rw[this];exact⟨λz=>z.imp Eq.symm id,λz=>z.imp Eq.symm id⟩
theorem RF(h0:0<=n*b)(h1:n*b<=10):bJ (n*b) (Fi n b ts)/\yJ (n*b) (Fi n b ts):=by
 refine gW (i:=(n*b).toNat) h0 h1 ?_;unfold Fi;rw[<-je];exact Xn
theorem RA{b p t:Int}(hb:0<b)(t0:0<=t)(t1:t<b):(p*b+t)/b=p/\(p*b+t) %b=t:=by
 have e:p*b+t=t+b*p:=by rw[Bo];omega
 rw[e];refine⟨?_,?_⟩
 ·rw[Int.add_mul_ediv_left _ _ (by omega),Int.ediv_eq_zero_of_lt t0 t1];omega
 ·rw[Int.add_mul_emod_self_left,Int.emod_eq_of_lt t0 t1]
theorem RC{n b p t:Int}(hb:0<b)(p0:0<=p)(p1:p<n)(t0:0<=t)(t1:t<b):0<=p*b+t/\p*b+t<n*b:=by
 have a:=Br p0 (show 0<=b by omega);have c:(p+1)*b<=n*b:=Mm (by omega) (by omega);have d:(p+1)*b=p*b+b:=by grind
 omega
structure RP(n b k:Int)(ts:L0)(R:List ζ):Prop where
 len:R.length=n.toNat
 up:∀r∈R,r.Pairwise (· < ·)/\(r.length:Int)=b/\∀h∈r,0<=h/\h<k
 no:∀p∈ts,∀h,h∈R.getD p.1.toNat []->h∈R.getD p.2.toNat []->False
theorem sH{hs:ζ}(m:h∈(hs.drop i).take c):∃t,t<c/\i+t<hs.length/\h=hs.getD (i+t) 0:=by
 obtain⟨t,ht,rfl⟩:=Bs m;rw[nR,EM]at ht;refine⟨t,by omega,by omega,?_⟩;rw[pP,List.getElem_drop,dY,cU (by omega)];rfl
theorem Cd{hs:ζ}(ht:t<c)(hl:i+t<hs.length):((hs.drop i).take c)[t]? =some (hs.getD (i+t) 0):=by
 rw[Ps ht,List.getElem?_drop,dY,cU hl];rfl
theorem Ua(hn:0<=n)(hb:0<b)(hp:bJ n ts)(H:jr (Fi n b ts) (n*b).toNat k hs)(hl:R.length=n.toNat)(hR:∀p:Nat,p<n.toNat->(R.getD p []).Perm ((hs.drop (p*b.toNat)).take b.toNat)/\(R.getD p []).Pairwise (· <= ·)):RP n b k ts R:=by
 have nb:0<=n*b:=Br hn (by omega);have eb:((b.toNat:Nat):Int)=b:=by omega
 have en:((n.toNat:Nat):Int)=n:=by omega
 have eN:(n*b).toNat=n.toNat*b.toNat:=by
  have:((n.toNat*b.toNat:Nat):Int)=n*b:=by push_cast;rw[eb,en]
  omega
 have ix:∀(p t:Nat),p<n.toNat->t<b.toNat->p*b.toNat+t<(n*b).toNat/\(((p*b.toNat+t:Nat):Int)/b=(p:Int)/\((p*b.toNat+t:Nat):Int) %b=(t:Int))/\0<=((p*b.toNat+t:Nat):Int)/\((p*b.toNat+t:Nat):Int)<n*b:=λp t h1 h2=>by
  have c:((p*b.toNat+t:Nat):Int)=(p:Int)*b+(t:Int):=by push_cast;rw[eb]
  have d:=RC (n:=n) (b:=b) (p:=p) (t:=t) hb (by omega) (by omega) (by omega) (by omega);have e:=RA (b:=b) (p:=p) (t:=t) hb (by omega) (by omega);rw[c];exact⟨by omega,e,d.1,d.2⟩
 have neq:∀(p q t u:Nat),p<n.toNat->q<n.toNat->t<b.toNat->u<b.toNat->(p≠q\/t≠u)->(p=q\/aQ ts (p:Int) (q:Int)=true)->hs.getD (p*b.toNat+t) 0≠hs.getD (q*b.toNat+u) 0:=λp q t u h1 h2 h3 h4 hne ht=>by
  obtain⟨a1,⟨a2,a3⟩,a4,a5⟩:=ix p t h1 h3;obtain⟨b1,⟨b2,b3⟩,b4,b5⟩:=ix q u h2 h4;refine H.ok _ _ a1 b1 ((ZQ hb hp a4 a5 b4 b5 λz=>?_).mpr ?_)
  ·rw[z]at a2 a3;rcases hne with w|w
   ·exact w (by omega)
   ·exact w (by omega)
  ·rw[a2,b2];rcases ht with w|w
   ·exact .inl (by omega)
   ·exact .inr w
 have hsl:hs.length=n.toNat*b.toNat:=by rw[H.len,eN]
 have inb:∀p t:Nat,p<n.toNat->t<b.toNat->p*b.toNat+t<hs.length:=λp t h1 h2=>by
  have:=(ix p t h1 h2).1;omega
 refine⟨hl,λr hr=>?_,λp hp' h m1 m2=>?_⟩
 ·obtain⟨i,hi,rfl⟩:=Bs hr;have hin:i<n.toNat:=by omega
  obtain⟨pm,le⟩:=hR i hin;have eg:R.getD i []=R[i]:=by rw[dY,cU hi];rfl
  rw[eg]at pm le;have ac:((hs.drop (i*b.toNat)).take b.toNat).length=b.toNat:=by
   rw[nR,EM];have:(i+1)*b.toNat<=n.toNat*b.toNat:=ml _ hin;have:(i+1)*b.toNat=i*b.toNat+b.toNat:=by rw[Nat.add_mul,Nat.one_mul]
   omega
  refine⟨?_,by rw[pm.length_eq,ac];exact eb,λh hh=>?_⟩
  ·have nd:R[i].Nodup:=pm.nodup_iff.mpr (BK.mpr λt u ht hu htu=>by
    rw[ac]at ht hu;have e1:=Cd (hs:=hs) (i:=i*b.toNat) ht (inb i t hin ht);have e2:=Cd (hs:=hs) (i:=i*b.toNat) hu (inb i u hin hu);rw[cU (by omega)]at e1 e2;rw[uw e1,uw e2];exact neq i i t u hin hin ht hu (.inr (by omega)) (.inl rfl))
   exact(le.and nd).imp λ{x y} h=>by have:=h.1;have:=h.2;omega
  ·obtain⟨t,ht,hl',rfl⟩:=sH (pm.mem_iff.mp hh);exact H.rg _ (by rw[<-H.len];exact hl')
 ·obtain⟨q0,q1,q2⟩:=hp.lt p hp';have i1:p.1.toNat<n.toNat:=by omega
  have i2:p.2.toNat<n.toNat:=by omega
  obtain⟨t,ht,_,e1⟩:=sH ((hR p.1.toNat i1).1.mem_iff.mp m1);obtain⟨u,hu,_,e2⟩:=sH ((hR p.2.toNat i2).1.mem_iff.mp m2);refine neq p.1.toNat p.2.toNat t u i1 i2 ht hu (.inl (by omega)) (.inr ?_) (e1.symm.trans e2);unfold aQ;rw[Wc q0,Wc (by omega),cI (show(p.1,p.2)∈ts from hp'),IY]
section
variable{P:υ}{w:ψ}{K:af}{mg:D0}{base:bn}
theorem mY{X:Cx}(K:af)(h:X.K=K:=by rfl):qV X (.type "tuple") (λxs H Q=>∃p ys,xs=[.ref p]/\((ja K H p ys/\∀l,H l=none->Q (.ref l) (upd H l (.tup ys)))\/(SqT K H p ys/\Q (.ref p) H))):=by subst h;exact Ss
theorem xR{X:Cx}(K:af)(h:X.K=K:=by rfl):qV X (.builtin "sorted") (λvs H Q=>∃(b:Bool) (a:ag) (xs:ζ),vs=[.ref a]/\Kc K b H a (xs.map V.int)/\xs.length<64/\
  ∀(l:ag) (ys:ζ),H l=none->ys.Perm xs->ys.Pairwise (· <= ·)->Q (.ref l) (upd H l (.lst (ys.map V.int)))):=by subst h;exact Bb
theorem VL{i c:Nat}(h:i+c<=xs.length):qa xs (some (i:Int)) (some ((i:Int)+(c:Int)))=(xs.drop i).take c:=by
 unfold qa HT.sIx;simp only;rw[aq (by omega),aq (by omega),JU (by omega),JU (by omega)];congr 1;omega
noncomputable def fj(K:af)(H:Hp):List V->List ζ->Prop:=ce λv r=>∃p,v=.ref p/\SqT K H p (r.map V.int)
theorem fj.same(h:fj K H rs R)(s:Same H H'):fj K H' rs R:=Paired.mapP h λ_ _ ⟨p,e,z⟩=>⟨p,e,s.tup z⟩
theorem AT{r:ζ}:(R++[r]).getD p []=if p<R.length then R.getD p []else if p=R.length then r else[]:=by
 rw[dY,dY];by_cases c:p<R.length
 ·rw[au c,FI c]
 ·rw[aq c];by_cases d:p=R.length
  ·rw[au d,d,EQ (aP _),Nat.sub_self];rfl
  ·rw[aq d,Xq (by rw[lN];show R.length+1<=p;omega)];rfl
inductive zy(K:af)(T:ag)(vs:List V)(H:Hp)(Q:VK)(E_:XK):Prop
 |mk(a:ag)(n b:Int)(ts:L0)(_:vs=[.ref a,.int b])(_:aZ K H a n ts)(_:1<=b)(_:b<=5)(_:n*b<=10)(_:Io H T)(_:∀r l rs R hs H',aW T H H'->Io H' T->H' r=some (.tup [.int (jR (Fi n b ts) (jD (n*b).toNat)),.ref l])->H' l=some (.lst rs)->fj K H' rs R->jr (Fi n b ts) (n*b).toNat (jR (Fi n b ts) (jD (n*b).toNat)) hs->RP n b (jR (Fi n b ts) (jD (n*b).toNat)) ts R->H l=none->Q (.ref r) H')
theorem Uy{f f1:ag}
  {fd d1:χ}{tk0:Tok}
  (F:pV K "each_so_many" "each_so_many" iw f fd)(D1:tR K mg "need_web" yQ ["thing"] f1 d1)(V3:gx P w K mg base kG 7 f1 d1 ["thing"] (aU K))(D2:Dp P w K mg base 2 "need_from_to" ig ["least","most","thing"] (vH K))(D3:Dp P w K mg base 1 "need_few" j6 ["n"] (nF K))(D4:Dp P w K mg base 8 "fewest" qH ["web"] (BX K T))(D5:Dp P w K mg base 8 "within" vO ["one","other"] (vA K))(D6:Dp P w K mg base 1 "pairs" qG ["n"] (vI K))(aJ:mg "tuple"=none)(aF:mg "range"=none)(v7:mg "sorted"=none)(Di:mg "MOST_EACH"=some (.int 5 tk0)):
  gx P w K mg base kG 9 f fd ["web","b"] (zy K T):=by
 have G1:gx P w K mg base kG 8 f1 d1 ["thing"] (aU K):=V3.mono (by decide);refine F.dD ["web","b","crowded","hues","rows"] λH Q hr h=>?_;obtain⟨a,n,b,ts,rfl,hA,b0,b1,hnb,hL,qq⟩:=h;refine eX ?_;intro Y;refine⟨_,(aN (oR (pc G1 hr D1 (aj (pv 0) ak))) (aN (oR (pd D2 hr (aj aL (aj (ue rfl Di (v:=.int 5) ⟨_,rfl⟩) (aj (pv 1) ak))))) (aN (oR (pd D3 hr (aj (dF qS (bw cH (pv 0) aL) (pv 1)) ak))) (aN (pS 2 (pd D4 hr (aj (pd D5 hr (aj (pv 0) (aj (ou (aj (pv 1) (aj (pT Ss aJ (aj (pd D6 hr (aj (pv 1) ak)) ak)) ak))) ak))) ak))) (aN (pS 3 (bw cH (pv 2) aL)) (aN (pX 4 ["place"] ["hues","b"] [3,1] (Kp rfl aF (aj (bw cH (pv 0) aL) ak)) (pG 0) lF (pT (mY K) aJ (aj (pB (xR K) v7 (aj (sh (Ot K) (pv 1) (sn (dF qS (pv 0) (pv 2))) (sn (dF rk (dF qS (pv 0) (pv 2)) (pv 2)))) ak)) ak))) (aY (bK (ou (aj (bw cH (pv 2) aL) (aj (pv 4) ak))))))))))),?_⟩;refine WY ?_;intro c7 c6 c5 c4 c3 c2;have h0:=hA.h0;have h10:=hA.h1;have nb0:0<=n*b:=Br h0 (by omega);refine⟨_,rfl,.ref a,_,rfl,hA.web.dv.dx,hA.ok,λH1 s1=>?_⟩;obtain⟨Jh,Jw,w1,_,_⟩:=id (hA.same s1).web;refine⟨_,rfl,1,5,b,rfl,b0,b1,?_⟩;refine⟨_,rfl,a,_,_,.int n,rfl,rfl,w1,rfl,_,rfl,_,_,rfl,rfl,.inl ⟨by omega,by omega⟩,n*b,rfl,hnb,?_⟩;refine⟨_,rfl,_,rfl,_,rfl,b,rfl,by omega,by omega,λl2 H2 s2 p2=>?_⟩;obtain⟨rs2,e2,v2⟩:=p2.ex;refine⟨l2,rs2,rfl,.inl ⟨ja.of e2,λt2 ht2=>?_⟩⟩;have s3:=aR ht2 (.tup rs2);refine⟨rV,λwb hwb=>?_⟩;have s4:=aR hwb (.tup [.int b,.ref t2]);have zO:=s2.trans (s3.trans s4);have okb:=gW (n:=b) (i:=b.toNat) (ts:=rows tt b b.toNat) (by omega) (by omega) (Wq _);refine⟨a,wb,n,b,ts,rows tt b b.toNat,rfl,hA.same (s1.trans zO),⟨⟨t2,rs2,SqT.of aK,SqT.of (s4 _ _ aK),v2.same (s3.trans s4)⟩,by omega,by omega,okb.1,okb.2⟩,hnb,λr3 H3 s5 W3=>?_⟩;have ok3:=RF (n:=n) (b:=b) (ts:=ts) nb0 hnb;have Bt:=s1.trans (zO.trans s5);have hL3:=hL.same Bt;obtain⟨tb3,ht3⟩:=hL3.at;refine⟨r3,n*b,Fi n b ts,rfl,⟨W3,nb0,hnb,ok3.1,ok3.2⟩,hL3,λr4 h4 d4 hs H4 x4 hL4 e4 eh hH _ _=>?_⟩;refine⟨_,rfl,r4,_,_,.ref h4,rfl,rfl,SqT.of e4,rfl,?_⟩;have hA4:=(hA.same Bt).tbl x4 ht3;obtain⟨tt4,rr4,w4,_,_⟩:=id hA4.web;have ac:=hH.len;have eb:((b.toNat:Nat):Int)=b:=by omega
 have eN:(n*b).toNat=n.toNat*b.toNat:=by
  have:((n.toNat*b.toNat:Nat):Int)=n*b:=by push_cast;rw[eb,Wc h0]
  omega
 refine⟨_,rfl,a,_,_,.int n,rfl,rfl,w4,rfl,n,rfl,by omega,by omega,?_⟩;let xV:Nat->List V->St->Hp->Prop:=λi acc σ H'=>(∃R:List ζ,fj K H' acc R/\R.length=i/\∀p:Nat,p<i->(R.getD p []).Perm ((hs.drop (p*b.toNat)).take b.toNat)/\(R.getD p []).Pairwise (· <= ·))/\Same H4 H'/\∃o,σ=[o,some (.ref h4),some (.int b)];refine Nm (n:=n.toNat) xV ⟨⟨[],.nil,rfl,λp hp=>absurd hp (Tn p)⟩,Same.refl _,_,rfl⟩ (λi acc σ H' hi p=>?_) (by rw[gF];omega) (λi acc σ H' hi p=>?_) (λacc σ H' p=>?_)
 ·obtain⟨⟨R,hR,hl,_⟩,_⟩:=p;rw[Paired.dM hR];omega
 ·obtain⟨⟨R,hR,hl,hall⟩,sm,o,rfl⟩:=p;have hin:(i+1)*b.toNat<=n.toNat*b.toNat:=ml _ hi;have acd:(i+1)*b.toNat=i*b.toNat+b.toNat:=by rw[Nat.add_mul,Nat.one_mul]
  have e0:(0+(i:Int))*b=((i*b.toNat:Nat):Int):=by push_cast;rw[eb,EJ]
  refine⟨_,rfl,_,rfl,_,rfl,_,_,rfl,rfl,.inl ⟨by omega,by omega⟩,_,rfl,_,rfl,_,rfl,_,_,rfl,rfl,.inl ⟨by omega,by omega⟩,_,rfl,_,_,rfl,rfl,_,rfl,h4,_,rfl,sm.tup (SqT.of eh),λq1 G1 g1 c1=>?_⟩;have ec:qa (hs.map V.int) (some ((0+(i:Int))*b)) (some ((0+(i:Int))*b+b))=((hs.drop (i*b.toNat)).take b.toNat).map V.int:=by
   have cm:=VL (xs:=hs.map V.int) (i:=i*b.toNat) (c:=b.toNat) (by rw[aD];omega);rw[eb]at cm;rw[e0,cm,My,List.map_drop]
  rw[ec]at c1;have sl:((hs.drop (i*b.toNat)).take b.toNat).length<=5:=by rw[nR];omega
  refine⟨true,q1,_,rfl,c1,by omega,λl ys hl' pm le=>?_⟩;have g2:=aR hl' (.lst (ys.map V.int));refine⟨l,_,rfl,.inl ⟨ja.of aK,λt ht=>?_⟩⟩;have g3:=aR ht (.tup (ys.map V.int));have g13:=g1.trans (g2.trans g3);refine⟨⟨R++[ys],Paired.snoc (hR.same g13) ⟨t,rfl,SqT.of aK⟩,by rw[lN,hl];rfl,λp hp=>?_⟩,sm.trans g13,_,rfl⟩;rw[AT,hl];by_cases c:p<i
  ·rw[au c];exact hall p c
  ·have:p=i:=by omega
   subst this;rw[aq c,au rfl];exact⟨pm,le⟩
 ·intro l hl;obtain⟨⟨R,hR,hRl,hall⟩,sm,_⟩:=p;have g1:=aR hl (.lst acc);have gl:(upd H' l (.lst acc)) l=some (.lst acc):=aK;have hR1:=hR.same g1;have e41:=(sm.trans g1) _ _ e4;generalize (upd H' l (.lst acc))=H5 at *;refine⟨_,rfl,r4,_,_,.int (jR (Fi n b ts) (jD (n*b).toNat)),rfl,rfl,SqT.of e41,rfl,_,rfl,rV,λr hr'=>?_⟩;have g2:=aR hr' (.tup [.int (jR (Fi n b ts) (jD (n*b).toNat)),.ref l]);refine qq r l acc R hs _ ((Bt.x T).trans (x4.trans ((sm.trans (g1.trans g2)).x T))) (hL4.same (sm.trans (g1.trans g2))) aK (g2 _ _ gl) (hR1.same g2) hH (Ua h0 (by omega) hA.pk hH hRl hall) ?_;have nlT:l≠T:=λz=>by
   obtain⟨tb4,ht4⟩:=hL4.at;rw[z,sm _ _ ht4]at hl;cases hl
  exact Bt.none ((x4.trans (sm.x T)).free nlT hl)
end
end Hs
namespace PySem
open L2 (rc qZ oW qX)
open PyProof.Rows
section
variable{prog:υ}{w:ψ}{A:bt}{E:S0}{s:τ}
theorem bM.of(g:bM prog w h d S n):h.SetOf (bT prog w) d S n:=let⟨o,es,ep,t,ho,hx,hd,el,mem,lt,ft,en,_⟩:=g;⟨o,es,ep,t,ho,hx,hd,el,mem,lt,ft,en⟩
theorem bM.typeIs(g:bM prog w s.heap d S n):s.TypeIs (.ref d) "set":=g.of.typeIs
theorem wG{Q:Array (Int×ρ)->τ->Prop}(ho:s.heap.get? d=some o)(hd:o.data=.set es ep t)(hf:t.fits es.size=true)(q:Q es s):ai (ar prog w) A (setEntries d) Q E s:=by
 unfold setEntries;exact ao (KI ho hd hf (aM q))
theorem Px{Q:Bool->τ->Prop}(l)(hl:∀a∈l,∃S n,bM prog w s.heap a S n)(q:Q true s):ai (ar prog w) A (setsQuiet l) Q E s:=by
 unfold setsQuiet;refine ao (wpAny_forIn_list _ (λrest r s'=>r.1=none/\s'=s/\∀a∈rest,∃S n,bM prog w s.heap a S n) _ (λa rest b s' hI=>?_) (λb s' hI=>?_) _ _ ⟨rfl,rfl,hl⟩)
 ·obtain⟨hb,rfl,hr⟩:=hI;obtain⟨S,n,o,es,ep,t,ho,hx,hd,el,mem,lt,ft,en,tb⟩:=hr a dZ;refine ao (wG ho hd ft ?_);refine ao (wpAny_forIn_array' _ (λrest r s''=>r.1=none/\s''=s'/\∀e∈rest,e∈es.toList) _ (λe rest' b' s'' hI=>?_) (λb' s'' hI=>?_) _ _ ⟨rfl,rfl,λe he=>he⟩)
  ·obtain⟨hb',rfl,hr'⟩:=hI;obtain⟨⟨k,hk,_⟩,_⟩:=el e (hr' e dZ);obtain⟨tk,ev⟩:=KS (k:=k) (v:=e.2) hk;obtain⟨e1,e2⟩:=e;dsimp only at ev;subst ev;exact aM ⟨rfl,rfl,λe he=>hr' e (fB _ he)⟩
  ·obtain⟨hb',rfl,_⟩:=hI;dsimp only;rw[hb'];exact aM ⟨rfl,rfl,λa ha=>hr a (fB _ ha)⟩
 ·obtain⟨hb,rfl,_⟩:=hI;dsimp only;rw[hb];exact aM q
theorem Tz{Q:Array (Int×ρ)->τ->Prop}(S:iI w s.heap d es ep t)(q:∀(es':Array (Int×ρ)) dr,es'.toList.Perm es.toList->Q es' {s with drawn:=dr}):ai (ar prog w) A (setWalk d) Q E s:=by
 have q0:Q es s:=q es s.drawn (MB _);unfold setWalk;refine ao (S.state (ao (jU ?_)));refine Ny (λhb=>?_) λhb=>?_
 ·refine ao (MW ?_);exact aM (q _ s.drawn (La _ es))
 ·have led:t.led=true:=by rw[S.tab.led];simpa using hb
  refine Ny (λhd=>?_) λhd=>?_
  ·refine ao (lq es.size es.toList (by simp) λys d' hp=>aM (q _ d' ?_));simpa using hp
  ·apply ao;show ai _ _ (if(!t.led&&decide (es.size>1))=true then _ else _) _ _ _;rw[led];refine Ny (λhab=>absurd hab (by simp)) λ_=>aM (aM q0)
theorem OJ(ho:h.get? d=some o)(hx:o.ExactSet)(hd:o.data=.set es ep t)(ft:t.fits es.size=true)(tb:rc (!w.params.followText "set-order") t):iI w h d es ep t:=⟨⟨o,ho,hx,hd⟩,ft,tb⟩
theorem Sk{Q:Array (Int×ρ)->τ->Prop}(S:iI w s.heap d es ep t)(Gd:∃S n,bM prog w s.heap d S n)(Ga:∃S n,bM prog w s.heap da S n)(Gr:bM prog w s.heap r (λ_=>false) 0)(q:∀(es':Array (Int×ρ)) dr h',es'.toList.Perm es.toList->bc r s.heap h'->bM prog w h' r (λ_=>false) 0->Q es' {s with heap:=h',drawn:=dr}):ai (ar prog w) A (mo d [da,r] (some r)) Q E s:=by
 unfold mo;refine ao (S.state (ao (jU ?_)));refine Ny (λhb=>?_) λhb=>?_
 ·exact Tz S λes' dr hp=>q es' dr s.heap hp (EZ _ _) Gr
 ·refine ao (Px [d,da,r] (λa ha=>?_) ?_)
  ·simp only[cZ,V9,Wj]at ha;rcases ha with rfl|rfl|rfl
   ·exact Gd
   ·exact Ga
   ·exact⟨_,_,Gr⟩
  ·refine Ny (λh=>absurd h (by simp)) λ_=>?_;refine ao (SQ ?_);obtain⟨o,er,epr,tr,ho,hx,hd,el,mem,lt,ft,en,tb⟩:=id Gr;dsimp only;refine ao (KI ho hd ft ?_);refine Ny (λ_=>?_) λ_=>aM (q es s.drawn s.heap (MB _) (EZ _ _) Gr);refine ao (M1 ho hd ?_ (M0 lt));have tb':rc (!w.params.followText "set-order") {tr with led:=tr.led&&t.led,plain:=tr.plain&&t.plain}:=⟨tb.rise,tb.nod,by show(tr.led&&t.led)=_;rw[tb.led,S.tab.led,Bool.and_self]⟩;obtain⟨_,G'⟩:=bM.store (prog:=prog) (w:=w) (S:=λ_=>false) ho hx hd el mem lt (t':={tr with led:=tr.led&&t.led,plain:=tr.plain&&t.plain}) ft tb';rw[en]at G';exact aM (q es s.drawn _ (MB _) (M5 s.heap r _) G')
theorem Ly{Q:S0}(q:Q (.ref s.heap.objs.size) {s with heap:=s.heap.push {cls:=.type "set",dict:=none,data:=.set #[] 0 (.fresh 0 0 (!w.params.followText "set-order"))}}):ai (ar prog w) A (newSet (.type "set")) Q E s:=by
 unfold newSet;refine ao (jU ?_);simp only[newObj];exact ao (wpAny_alloc (aM q))
theorem Mj(h:bn):bM prog w (h.push {cls:=.type "set",dict:=none,data:=.set #[] 0 (.fresh 0 0 (!w.params.followText "set-order"))}) h.objs.size (λ_=>false) 0:=
 ⟨_,#[],0,_,iQ _ rfl,⟨rfl,rfl,rfl⟩,rfl,λe he=>(by simp at he),λk=>⟨λz=>(nomatch z),λ⟨e,he,_⟩=>(by simp at he)⟩,by unfold bG;simp,rfl,rfl,qX _⟩
theorem Ec{Q:Nat->τ->Prop}(S:iI w s.heap d es ep t)(q:Q ep s):ai (ar prog w) A (setEpoch d) Q E s:=by
 unfold setEpoch;exact ao (S.state (aM q))
theorem Ht{es es':Array (Int×ρ)}{Q:τ->Prop}(S:iI w s.heap dw es ep t)(el:pf (bT prog w) es.toList)(Ga:bM prog w s.heap da Sa na)(Gr:bM prog w s.heap r (λ_=>false) 0)(nw:dw≠r)(na':da≠r)(hp:es'.toList.Perm es.toList)(hb:es.size+1<bG)(q:∀h' Sr m,bc r s.heap h'->bM prog w h' r Sr m->(∀k,Sr k=true↔(∃e∈es.toList,(bT prog w).is k e.2=true)/\Sa k=true)->Q {s with heap:=h'}):
  ai (ar prog w) A (forIn es' g6 λ(x:Int×ρ) (_:PUnit)=>(do
   eu [x.2] (do
    if(<-setFind da x.2 x.1).isSome then
     let _<-jb r x.2 x.1)
   dm nm dw ep
   pure (dn g6):Sem (ForInStep PUnit))) (λ_=>Q) E s:=by
 refine wpAny_forIn_array' _ (λrest _ s'=>∃(h':bn) (pre:List (Int×ρ)) (Sr:Int->Bool) (m:Nat),s'={s with heap:=h'}/\es'.toList=pre++rest/\bc r s.heap h'/\bM prog w h' r Sr m/\m<=pre.length/\∀k,Sr k=true↔(∃e∈pre,(bT prog w).is k e.2=true)/\Sa k=true) _ (λx rest b s' hI=>?_) (λb s' hI=>?_) _ _ ⟨s.heap,[],λ_=>false,0,rfl,rfl,EZ _ _,Gr,aP _,λk=>⟨λz=>(nomatch z),λ⟨⟨e,he,_⟩,_⟩=>(nomatch he)⟩⟩
 ·obtain⟨h',pre,Sr,m,rfl,ep',sb,G,hm,hS⟩:=hI;have mx:x∈es.toList:=hp.mem_iff.mp (by rw[ep'];simp);obtain⟨⟨k,hk,hh⟩,hsc⟩:=el x mx;have len:pre.length+1<=es.size:=by
   have h1:=hp.length_eq;have h2:es.toList.length=es.size:=Fg;rw[ep',lN,uL]at h1;omega
  have Ga':bM prog w h' da Sa na:=Ga.at λo e=>(sb.2 da na').trans e;have S':iI w h' dw es ep t:=S.at λo e=>(sb.2 dw nw).trans e;have step:∀(R:ForInStep PUnit->τ->Prop) h2,bc r h' h2->R (.yield g6) {s with heap:=h2}->ai (ar prog w) A (do dm nm dw ep;pure (dn g6)) R E {s with heap:=h2}:=λR h2 Ww hR=>by
   unfold dm;have S2:iI w h2 dw es ep t:=S'.at λo e=>(Ww.2 dw nw).trans e;refine ao (ao (Ec (s:={s with heap:=h2}) S2 ?_));exact Ny (λz=>absurd z (by simp)) λ_=>aM (aM hR)
  have fin:∀h2 (Sr2:Int->Bool) m2,bc r h' h2->bM prog w h2 r Sr2 m2->m2<=pre.length+1->(∀k',Sr2 k'=true↔(∃e∈pre++[x],(bT prog w).is k' e.2=true)/\Sa k'=true)->
    ∃(h':bn) (pre:List (Int×ρ)) (Sr:Int->Bool) (m:Nat),({s with heap:=h2}:τ)={s with heap:=h'}/\es'.toList=pre++rest/\bc r s.heap h'/\bM prog w h' r Sr m/\m<=pre.length/\∀k,Sr k=true↔(∃e∈pre,(bT prog w).is k e.2=true)/\Sa k=true:=λh2 Sr2 m2 Ww G2 hm2 hS2=>
   ⟨h2,pre++[x],Sr2,m2,rfl,by rw[ep',KP];rfl,sb.trans Ww,G2,by rw[lN];exact hm2,hS2⟩
  refine ao (yX ?_);rw[hh];refine ao (wpAny_setFind_of (s:={s with heap:=h'}) hk hsc Ga'.of λo ho=>?_);have uniq:∀k',(bT prog w).is k' x.2=true->k'=k:=λk' h'=>by
   obtain⟨t1,e1⟩:=KS (k:=k) (v:=x.2) hk;obtain⟨t2,e2⟩:=KS (k:=k') (v:=x.2) h';rw[e1]at e2;injection e2 with e3
   exact e3.symm
  refine Ny (λz=>?_) λz=>?_
  ·rw[ho]at z;refine ao (RK (s:={s with heap:=h'}) hk hsc G (by omega) λh2 b2 Ww G2=>aM ?_);refine step _ h2 Ww (fin h2 _ _ Ww G2 (by split<;>omega) λk'=>?_);rw[Wo,KC,hS k'];constructor
   ·rintro(⟨⟨e,he,z1⟩,z2⟩|rfl)
    ·exact⟨⟨e,SN _ he,z1⟩,z2⟩
    ·exact⟨⟨x,lR _ dZ,hk⟩,z⟩
   ·rintro⟨⟨e,he,z1⟩,z2⟩;rcases oE.mp he with y|y
    ·exact .inl ⟨⟨e,y,z1⟩,z2⟩
    ·rw[jw.mp y]at z1;exact .inr (uniq k' z1)
  ·rw[ho]at z;apply aM;refine step _ h' (EZ _ _) (fin h' Sr m (EZ _ _) G (by omega) λk'=>?_);rw[hS k'];constructor
   ·rintro⟨⟨e,he,z1⟩,z2⟩;exact⟨⟨e,SN _ he,z1⟩,z2⟩
   ·rintro⟨⟨e,he,z1⟩,z2⟩;rcases oE.mp he with y|y
    ·exact⟨⟨e,y,z1⟩,z2⟩
    ·rw[jw.mp y]at z1;rw[uniq k' z1]at z2;exact absurd z2 z
 ·obtain⟨h',pre,Sr,m,rfl,ep',sb,G,hm,hS⟩:=hI;rw[xr]at ep';refine q h' Sr m sb G λk=>?_;rw[hS k,<-ep'];exact⟨λ⟨⟨e,he,z1⟩,z2⟩=>⟨⟨e,hp.mem_iff.mp he,z1⟩,z2⟩,λ⟨⟨e,he,z1⟩,z2⟩=>⟨⟨e,hp.mem_iff.mpr he,z1⟩,z2⟩⟩
theorem QG{Q:S0}(hne:d1≠d2)(G1:bM prog w s.heap d1 S1 n1)(G2:bM prog w s.heap d2 S2 n2)(b1:n1+1<bG)(b2:n2+1<bG)(q:∀h' dr Sr m,(∀b o,s.heap.get? b=some o->h'.get? b=some o)->bM prog w h' s.heap.objs.size Sr m->(∀k,Sr k=true↔S1 k=true/\S2 k=true)->Q (.ref s.heap.objs.size) {s with heap:=h',drawn:=dr}):
  ai (ar prog w) A (g9 nm d1 (.ref d2)) Q E s:=by
 have l1:d1<s.heap.objs.size:=by obtain⟨o,es,ep,t,ho,_⟩:=id G1;exact dJ ho
 have l2:d2<s.heap.objs.size:=by obtain⟨o,es,ep,t,ho,_⟩:=id G2;exact dJ ho
 unfold g9;have hne':(aI d2==aI d1)=false:=by
  rw[beq_eq_false_iff_ne];intro z;injection z with z
  exact hne z.symm
 refine Ny (λz=>absurd z (by rw[hne'];decide)) λ_=>?_;unfold Builtin.Frozenset.baseOf;refine ao (ao (FY (T:="set") (b:=true) G1.typeIs IX (aM ?_)));refine ao (Ly ?_);have keep:∀b o,s.heap.get? b=some o->(s.heap.push {cls:=.type "set",dict:=none,data:=.set #[] 0 (.fresh 0 0 (!w.params.followText "set-order"))}).get? b=some o:=λb o e=>cR _ e;have Gr:=Mj (prog:=prog) (w:=w) s.heap;have F1:=G1.at λo e=>keep d1 o e;have F2:=G2.at λo e=>keep d2 o e;generalize (s.heap.push {cls:=.type "set",dict:=none,data:=.set #[] 0 (.fresh 0 0 (!w.params.followText "set-order"))})=g at *;have n1r:d1≠s.heap.objs.size:=fu l1;have n2r:d2≠s.heap.objs.size:=fu l2;have T2:({s with heap:=g}:τ).TypeIs (.ref d2) "set":=bM.typeIs (s:={s with heap:=g}) F2;refine ao (aM ?_);refine ao (yX ?_);unfold dS;apply ao;refine ao (FY (s:={s with heap:=g}) (T:="set") (b:=true) T2 IX ?_);apply aM;dsimp only;rw[au rfl];refine ao (aM ?_);obtain⟨o1,es1,ep1,t1,ho1,hx1,hd1,el1,Y5,lt1,ft1,en1,tb1⟩:=id F1;obtain⟨o2,es2,ep2,t2,ho2,hx2,hd2,el2,ab6,lO,ft2,en2,tb2⟩:=id F2;have go:∀(da dw:ag) (Sa Sw:Int->Bool) (na nw:Nat),bM prog w g da Sa na->bM prog w g dw Sw nw->da≠s.heap.objs.size->dw≠s.heap.objs.size->nw+1<bG->(∀k,(Sw k=true/\Sa k=true)↔(S1 k=true/\S2 k=true))->
   ai (ar prog w) A (do
    let was<-setEpoch dw;let es<-mo dw [da,s.heap.objs.size] (some s.heap.objs.size)
    forIn es g6 λ(x:Int×ρ) (_:PUnit)=>(do
     eu [x.2] (do
      if(<-setFind da x.2 x.1).isSome then
       let _<-jb s.heap.objs.size x.2 x.1)
     dm nm dw was
     pure (dn g6):Sem (ForInStep PUnit))
    pure ()) (λ_ s'=>ai (ar prog w) A (pure (aI s.heap.objs.size)) Q E s') E {s with heap:=g}:=λda dw Sa Sw na nw Ga Gw nar nwr hb hk=>by
  obtain⟨o,es,ep,t,ho,hx,hd,el,mem,lt,ft,en,tb⟩:=id Gw;have S:iI w g dw es ep t:=OJ ho hx hd ft tb;refine ao (Ec (s:={s with heap:=g}) S ?_);refine ao (Sk (s:={s with heap:=g}) S ⟨_,_,Gw⟩ ⟨_,_,Ga⟩ Gr λes' dr h' hp sb Gr'=>?_);refine ao (Ht (s:={s with heap:=h',drawn:=dr}) (S.at λo e=>(sb.2 dw nwr).trans e) el (Ga.at λo e=>(sb.2 da nar).trans e) Gr' nwr nar hp (by omega) λh2 Sr m Ww G2 hS=>?_);refine aM (aM ?_);refine q h2 dr Sr m (λb o e=>?_) G2 λk=>?_
  ·have nb:b≠s.heap.objs.size:=fu (dJ e);exact((Ww.2 b nb).trans ((sb.2 b nb).trans (keep b o e)))
  ·rw[hS k,<-mem k];exact hk k
 have sz:∀{d:ag}{o:ki}{es:Array (Int×ρ)}{ep:Nat}{t:ia}{R:Nat->τ->Prop},g.get? d=some o->o.data=.set es ep t->t.fits es.size=true->R es.size {s with heap:=g}->ai (ar prog w) A (gL d) R E {s with heap:=g}:=λho hd hf hR=>by
  unfold gL;exact ao (wG (s:={s with heap:=g}) ho hd hf (aM hR))
 refine ao (sz ho2 hd2 ft2 (ao (sz ho1 hd1 ft1 ?_)));by_cases c:es2.size>es1.size
 ·simp only[au c];exact go d2 d1 S2 S1 n2 n1 F2 F1 n2r n1r b1 λk=>Iff.rfl
 ·simp only[aq c];exact go d1 d2 S1 S2 n1 n2 F1 F2 n1r n2r b2 λk=>And.comm
theorem RJ{Q:S0}(hne:d1≠d2)(G1:bM prog w s.heap d1 S1 n1)(G2:bM prog w s.heap d2 S2 n2)(b1:n1+1<bG)(b2:n2+1<bG)(q:∀h' dr Sr m,(∀b o,s.heap.get? b=some o->h'.get? b=some o)->bM prog w h' s.heap.objs.size Sr m->(∀k,Sr k=true↔S1 k=true/\S2 k=true)->Q (.ref s.heap.objs.size) {s with heap:=h',drawn:=dr}):
  ai (ar prog w) A (cw .BitAnd (.ref d1) (.ref d2)) Q E s:=by
 have entry:entryFor table "set.__and__"=some Builtin.«frozenset.__and__»:=entryFor_alias (id':="frozenset.__and__") (by kernel_rfl) rfl (by decide+kernel) (by kernel_rfl);refine wpAny_binaryOp_same (op:=.BitAnd) (T:="set") G1.typeIs G2.typeIs F.fills_set_and F.slot_set_and (MP F.slot_set_and G1.typeIs entry ?_ (F.args_set_and_2 _ _));unfold Builtin.«frozenset.__and__»;refine ao (m:=gX "__and__" ⟨[.ref d1,.ref d2],[]⟩) ?_;unfold gX slotArgs;simp only[List.isEmpty_nil,Bool.not_true,KU,↓reduceIte,bind_assoc,SJ,uL,M2];refine ao (aM (aM ?_));have any:∀{d:ag}{S:Int->Bool}{n:Nat}{R:Bool->τ->Prop},bM prog w s.heap d S n->R true s->ai (ar prog w) A.in1 (dS (.ref d)) R E s:=λG h=>by
  unfold dS;exact ao (FY (T:="set") (b:=true) G.typeIs IX (aM h))
 refine ao (ao (any G1 (any G2 ?_)));refine Ny (λz=>absurd z (by simp)) λ_=>?_;refine ao (aM ?_);refine ao (QG hne G1 G2 b1 b2 λh' dr Sr m k G hS=>?_);exact aM ⟨_,rfl,by simp,q h' dr Sr m k G hS⟩
end
end PySem
namespace L2
open PySem PySem.Spec PyProof.Rows
section
variable{X:Cx}{a b:bp}{ta tb:TA}{p p' pos pos' q' pos'' posB:eJ}
theorem Inv.Yn{σ:St}{d:ag}(I0:Inv X aa σ H s1)(hd:s1.heap.objs.size<=d)(I:Inv X aa σ H s)(e:s.heap.get? d=some o)(hc:∀v,o.data≠.cell v):Inv X ((d,o)::aa) σ H s:=by
 have hl:d≠X.env.locals:=xg (jA I0.lt hd);refine⟨I.ok,I.os,I.bare,I.base,I.loc,I.cell,I.free,I.freeC,λx hx=>?_,I.hok,I.len⟩;rcases oE.mp hx with z|z
 ·exact I.pin x (SN _ z)
 ·rcases cZ.mp z with z|z
  ·rw[z];exact⟨e,I0.hok.fresh hd,hl,I0.nofs hd,hc⟩
  ·exact I.pin x (lR _ z)
theorem Inv.XH{σ:St}(I:Inv X (x::aa) σ H s):Inv X aa σ H s:=
 ⟨I.ok,I.os,I.bare,I.base,I.loc,I.cell,I.free,I.freeC,λy hy=>I.pin y (by
  rcases oE.mp hy with z|z
  ·exact SN _ z
  ·exact lR _ (fB _ z)),I.hok,I.len⟩
theorem BI{σ:St}{ns:ζ}{Q:S0}(hc:X.calm=true)(I1:Inv X aa σ H1 s1)(hq:Kc X.K bb H1 l (ns.map V.int))(hz:ns.length<60)(h:∀(g:bn) (tk:Nat) (S:Int->Bool) (n:Nat),bM X.prog X.w g s1.heap.objs.size S n->(∀k,S k=true↔k∈ns)->n<60->(∀b o,s1.heap.get? b=some o->g.get? b=some o)->Q (.ref s1.heap.objs.size) {s1 with heap:=g,toks:=tk}):
  ai (ar X.prog X.w) X.A (call (.type "set") [.ref l]) Q X.xe s1:=by
 have main:∀ae:List ρ,iN (ns.map V.int) ae->∀(g:bn) (tk:Nat),bM X.prog X.w g s1.heap.objs.size (λk'=>(cz (λi=>ns.getD i 0) ae.toArray.size).any (· ==k')) (cz (λi=>ns.getD i 0) ae.toArray.size).length->(∀b o,b<s1.heap.objs.size->s1.heap.get? b=some o->g.get? b=some o)->Q (.ref s1.heap.objs.size) {s1 with heap:=g,toks:=tk}:=by
  intro ae rv g tk G keep;have Zg:ae.toArray.size=ns.length:=by rw[gM];exact IntsAre.length (Xe rv)
  have hle:=firstMet_length_le (λi=>ns.getD i 0) ae.toArray.size;refine h g tk _ _ G (λk=>?_) (by omega) λb o e=>keep b o (dJ e) e;rw[Zg,MV];constructor
  ·rintro⟨x,hx,e⟩;rw[<-beq_iff_eq.mp e];rw[kW _ _ (aP _),rE]at hx;exact hx
  ·intro hk;exact⟨k,by rw[kW _ _ (aP _),rE];exact hk,by simp⟩
 cases bb with
 |true=>
  obtain⟨ae,rv,pl,_⟩:=I1.tuple (show SqT X.K H1 l (ns.map V.int)from hq);have hi:bP ae ns:=Xe rv;have Zg:ae.length=ns.length:=IntsAre.length hi;exact Gn (ns:=ns) (I1.ok.hd hc) (show s1.heap.IsTuple l ae.toArray from pl) (by simpa using hi) (by unfold bG;simp;omega) λg tk G keep=>main ae rv g tk G keep
 |false=>
  obtain⟨ae,rv,pl,_⟩:=I1.list (show ja X.K H1 l (ns.map V.int)from hq);have hi:bP ae ns:=Xe rv;have Zg:ae.length=ns.length:=IntsAre.length hi;exact KZ (ns:=ns) (I1.ok.hd hc) pl.isList (by simpa using hi) (by unfold bG;simp;omega) λg tk G keep=>main ae rv g tk G keep
noncomputable def TV(K:af)(ta tb:TA):TE:=λσ H Q=>ta σ H λvs H1=>∃(c:Bool) (l:ag) (ns:ζ),vs=[.ref l]/\Kc K c H1 l (ns.map V.int)/\ns.length<60/\
 tb σ H1 λus H2=>∃(d:Bool) (k:ag) (ms:ζ),us=[.ref k]/\Kc K d H2 k (ms.map V.int)/\ms.length<60/\∀m:Nat,(0<m↔∃k,k∈ns/\k∈ms)->Q (.int (m:Int)) H2
theorem Ld(hc:X.calm=true)(hgL:Gl X "len")(hmL:X.mg "len"=none)(hg:Gl X "set")(hm:X.mg "set"=none)(ha:PA X [a] ta)(hb:PA X [b] tb)(hs:ax [a] X.env=[(false,bQ a X.env)]:=by rfl)(hs':ax [b] X.env=[(false,bQ b X.env)]:=by rfl)(hs2:ax [Expr.BinOp (.Call (.Name "set" p') [a] [] pos') .BitAnd (.Call (.Name "set" q') [b] [] pos'') posB] X.env=[(false,bQ (Expr.BinOp (.Call (.Name "set" p') [a] [] pos') .BitAnd (.Call (.Name "set" q') [b] [] pos'') posB) X.env)]:=by rfl):
  PE X (.Call (.Name "len" p) [.BinOp (.Call (.Name "set" p') [a] [] pos') .BitAnd (.Call (.Name "set" q') [b] [] pos'') posB] [] pos) (TV X.K ta tb):=by
 intro aa s σ H Q I h;refine S9 (Bv I hgL hmL PySem.boot_len ?_ (by decide) (by decide));refine PU ?_ hs2 rfl;rw[hs2];apply GG;apply wpAny_BinOp;refine kE (Bv I hg hm (show br "set"=some (.type "set")from by decide+kernel) (KD (pw (ha pos' aa s σ H _ I h) λus s1 ⟨vs,H1,I1,r1,q1⟩=>?_) hs rfl));obtain⟨c,l,ns,e,hq,hz,q⟩:=q1;subst e;cases r1 with
 |cons r rr=>
 cases rr;cases r;refine BI hc I1 hq hz λg tk S n G hS hn keep=>?_;have J1:Inv X aa σ H1 {s1 with heap:=g,toks:=tk}:=I1.kept keep;obtain⟨o,es,ep,t,ho,hx,hd,el,mem,lt,ft,en,tb'⟩:=id G;have J2:=Inv.Yn I1 (aP _) J1 ho (λv z=>by rw[hd]at z;cases z);refine kE (Bv J2 hg hm (show br "set"=some (.type "set")from by decide+kernel) (KD (pw (hb pos'' _ _ σ H1 _ J2 q) λus2 s2 ⟨vs2,H2,I2,r2,q2⟩=>?_) hs' rfl));obtain⟨c2,l2,ms,e2,hq2,hz2,qq⟩:=q2;subst e2;cases r2 with
 |cons r rr=>
 cases rr;cases r;have ho2:s2.heap.get? s1.heap.objs.size=some o:=(I2.pin _ (lR _ dZ)).1;have G2:bM X.prog X.w s2.heap s1.heap.objs.size S n:=⟨o,es,ep,t,ho2,hx,hd,el,mem,lt,ft,en,tb'⟩;refine BI hc I2 hq2 hz2 λg2 tk2 S2 n2 G3 hS2 hn2 WX=>?_;have J3:=(I2.kept (t':=tk2) WX).XH;have ne:s1.heap.objs.size≠s2.heap.objs.size:=fu (dJ ho2);refine RJ (s:={s2 with heap:=g2,toks:=tk2}) ne (G2.at λo e=>WX _ o e) G3 (by unfold bG;omega) (by unfold bG;omega) λg3 dr Sr m aaI G4 hS4=>?_;apply Go;obtain⟨o4,es4,ep4,t4,ho4,Zc,hd4,el4,aaB,lt4,ft4,en4,tb4⟩:=id G4;refine call_len_set (s:={s2 with heap:=g3,toks:=tk2,drawn:=dr}) ho4 Zc hd4 ft4 (by unfold bG at lt4;omega) ?_;have J4:Inv X aa σ H2 {s2 with heap:=g3,toks:=tk2+1+1}:=J3.kept (t':=tk2+1+1) aaI;have J5:Inv X aa σ H2 {s2 with heap:=g3,toks:=tk2+1+1,drawn:=dr}:=⟨J4.ok,J4.os,J4.bare,J4.base,J4.loc,J4.cell,J4.free,J4.freeC,J4.pin,J4.hok,J4.len⟩;refine⟨.int (es4.size:Int),H2,J5,⟨_,rfl⟩,qq es4.size ?_⟩;constructor
 ·intro hp;obtain⟨⟨k,hk,_⟩,_⟩:=el4 es4[0] (by simp);obtain⟨z1,z2⟩:=(hS4 k).mp ((aaB k).mpr ⟨es4[0],by simp,hk⟩);exact⟨k,(hS k).mp z1,(hS2 k).mp z2⟩
 ·rintro⟨k,z1,z2⟩;obtain⟨e,he,_⟩:=(aaB k).mp ((hS4 k).mpr ⟨(hS k).mpr z1,(hS2 k).mpr z2⟩);have:=FE he
  rwa [Fg]at this
end
end L2
namespace Hs
open PySem L2 lQ
section
variable{P:υ}{w:ψ}{K:af}{mg:D0}{base:bn}
theorem fj.at(h:fj K H rs R)(h0:0<=i)(h1:i.toNat<R.length):∃p,vT rs i=some (.ref p)/\SqT K H p ((R.getD i.toNat []).map V.int):=by
 have hl:=Paired.dM h;have hi:i.toNat<rs.length:=by omega
 obtain⟨r,hr,p,e,hp⟩:=Paired.at_ h (cU hi);refine⟨p,?_,?_⟩
 ·have:=rj (xs:=rs) (j:=i.toNat) (v:=V.ref p) (by rw[cU hi,e])
  rwa [Wc h0]at this
 ·rw[dY,hr];exact hp
noncomputable def Pn(r:ζ):Bool:=(am (r.length-1)).all λk=>decide (r.getD k 0<r.getD (k+1) 0)
noncomputable def rY(b:Int)(r:ζ):Bool:=decide ((r.length:Int)=b)&&(r.all (λh=>decide (0<=h))&&Pn r)
noncomputable def Eh(x y:ζ):Bool:=x.any λh=>decide (h∈y)
noncomputable def Aw(n:Int)(ts:L0)(b:Int)(R:List ζ):Bool:=decide ((R.length:Int)=n)&&(R.all (rY b)&& !(ts.any λp=>Eh (R.getD p.1.toNat []) (R.getD p.2.toNat [])))
inductive vC(K:af)(vs:List V)(H:Hp)(Q:VK)(E_:XK):Prop
 |mk(p:ag)(b:Int)(row:ζ)(_:vs=[.int b,.ref p])(_:SqT K H p (row.map V.int))(_:∀H',Same H H'->Q (.bl (rY b row)) H')
theorem Ln{f:ag}{fd:χ}
  (F:pV K "is_row" "is_row" vU f fd)(D1:Dp P w K mg base 1 "is_rising" Xf ["things"] (lV K))(D2:Dp P w K mg base 1 "is_whole" Np ["thing"] (eE K))(bU:mg "len"=none)(aB:mg "isinstance"=none)(aJ:mg "tuple"=none)(dG:mg "all"=none):
  gx P w K mg base kG 2 f fd ["b","thing"] (vC K):=by
 refine F.dD ["b","thing"] λH Q hr h=>?_;obtain⟨p,b,row,rfl,hp,qq⟩:=h;refine⟨_,(aN (iK (PW.pt (rH (jy (iT (pB Fo aB (aj (pv 1) (aj (pN "tuple" aJ) ak))))) (uY (gU sq (pB wZ bU (aj (pv 1) ak)) (pv 0))))) (aY (bK jl)) iM) (aY (bK (Bw (pB (Fl rfl) dG (aj (pK ["hue"] [] [] (EY (pv 1)) (pG 0) lF (Bw (pd D2 hr (aj (pv 0) ak)) (qE (uZ zC (pv 0) aL)))) ak)) (qE (pd D1 hr (aj (pv 1) ak))))))),?_⟩;refine⟨_,rfl,.ref p,"tuple",_,rfl,.inl ⟨rfl,_,hp⟩,.inr (.inr (.inl rfl)),_,rfl,?_⟩;apply kL;refine⟨_,rfl,p,_,rfl,.inr hp,λhz=>⟨_,rfl,rfl,_,rfl,?_⟩⟩;unfold rY at qq;by_cases hl:(row.length:Int)=b
 ·have e1:(!decide (V.int (((row.map V.int).length:Nat):Int)=V.int b))=false:=by rw[aD,hl];simp
  rw[e1];apply kL;rw[cI hl,MK]at qq;refine⟨_,rfl,p,_,rfl,hp,λhz=>?_⟩;refine IV (xs:=row.map V.int) (λi acc σ H'=>acc=((row.take i).map λh=>decide (0<=h)).map V.bl/\H'=H/\∃o,σ=[o]) ⟨rfl,rfl,_,rfl⟩ (λi acc σ H' _ p=>by rw[p.2.1];exact hp) (λi acc σ H' _ p=>by rw[p.1,aD,aD,nR];exact u9 _ _) hz (λi x acc σ H' hx p=>?_) (λacc σ H' p=>?_)
  ·obtain⟨rfl,rfl,o,rfl⟩:=p;rw[dI]at hx;cases ex:row[i]? with
   |none=>rw[ex]at hx;cases hx
   |some y=>
    rw[ex]at hx;cases hx;refine⟨_,rfl,.int y,.int y,rfl,.int _,_,rfl,si ?_⟩;refine⟨_,rfl,_,_,rfl,rfl,?_,rfl,_,rfl⟩;show _++[V.bl (decide (0<=y))]=_;rw[rF,ex,bR,bR];rfl
  intro p1 hp1;obtain⟨rfl,rfl,_⟩:=p;rw[Fq (by rw[aD];exact aP _)];have s1:=aR hp1 (.lst ((row.map λh=>decide (0<=h)).map V.bl));refine⟨p1,_,rfl,ja.of aK,_,rfl,?_⟩;have ea:(row.map λh=>decide (0<=h)).all id=row.all λh=>decide (0<=h):=by rw[Sy];rfl
  rw[ea];refine nE (λc=>?_) (λc=>?_)
  ·rw[c,MK]at qq;refine⟨_,rfl,p,_,_,rfl,s1.tup hp,yh row,λH2 s2=>?_⟩;rw[aD];exact qq H2 (s1.trans s2)
  ·rw[Bool.eq_false_iff.mpr c]at qq;exact qq _ s1
 ·have e1:(!decide (V.int (((row.map V.int).length:Nat):Int)=V.int b))=true:=by
   rw[aD];rw[gY (λz=>hl (V.int.inj z))];rfl
  rw[e1];apply si;rw[gY hl]at qq;exact qq H (Same.refl _)
inductive Gf(K:af)(vs:List V)(H:Hp)(Q:VK)(E_:XK):Prop
 |mk(p q:ag)(xs ys:ζ)(_:vs=[.ref p,.ref q])(_:SqT K H p (xs.map V.int))(_:SqT K H q (ys.map V.int))(_:xs.length<60)(_:ys.length<60)(_:Q (.bl (Eh xs ys)) H)
theorem Uw{f:ag}{fd:χ}
  (F:pV K "have_in_common" "have_in_common" LP f fd)(bU:mg "len"=none)(aaD:mg "set"=none):
  gx P w K mg base kG 1 f fd ["one","other"] (Gf K):=by
 refine F.dD ["one","other"] λH Q hr h=>?_;obtain⟨p,q,xs,ys,rfl,hp,hq,l1,l2,qq⟩:=h;refine⟨_,(aY (bK (uZ xB (Ld rfl rfl bU rfl aaD (aj (pv 0) ak) (aj (pv 1) ak)) aL))),?_⟩;refine⟨_,rfl,true,p,xs,rfl,hp,l1,_,rfl,true,q,ys,rfl,hq,l2,λm hm=>⟨_,_,rfl,rfl,?_⟩⟩;show Q (.bl (decide ((0:Int)<(m:Int)))) H;have e:decide ((0:Int)<(m:Int))=Eh xs ys:=by
  unfold Eh;rw[Fx,Wr,MV];constructor
  ·intro z;obtain⟨k,k1,k2⟩:=hm.mp (by omega);exact⟨k,k1,cI k2⟩
  ·rintro⟨k,k1,k2⟩;have:=hm.mpr ⟨k,k1,lA k2⟩;omega
 rw[e];exact qq
theorem VH(h:¬(R.length:Int)=n):Aw n ts b R=false:=by unfold Aw;rw[gY h];rfl
theorem VG(h:R.all (rY b)=false):Aw n ts b R=false:=by unfold Aw;rw[h,ME,MD]
theorem J0(h:(R.length:Int)=n)(h':R.all (rY b)=true):Aw n ts b R= !(ts.any λp=>Eh (R.getD p.1.toNat []) (R.getD p.2.toNat [])):=by unfold Aw;rw[cI h,h',MK,MK]
theorem QA{R:List ζ}(hi:i<R.length):R.getD i []∈R:=by
 rw[dY,cU hi];exact yS hi
inductive nG(K:af)(vs:List V)(H:Hp)(Q:VK)(E_:XK):Prop
 |mk(a l:ag)(n b:Int)(ts:L0)(rs:List V)(R:List ζ)(_:vs=[.ref a,.int b,.ref l])(_:aZ K H a n ts)(_:1<=b)(_:ja K H l rs)(_:fj K H rs R)(_:∀r∈R,r.length<=40)(_:∀H',Same H H'->Q (.bl (Aw n ts b R)) H')
theorem Hh{f:ag}{fd:χ}
  (F:pV K "are_rows" "are_rows" pH f fd)(D1:Dp P w K mg base 7 "need_web" yQ ["thing"] (aU K))(D2:Dp P w K mg base 1 "is_whole" Np ["thing"] (eE K))(D3:Dp P w K mg base 2 "is_row" vU ["b","thing"] (vC K))(D4:Dp P w K mg base 1 "have_in_common" LP ["one","other"] (Gf K))(dG:mg "all"=none)(bU:mg "len"=none)(aB:mg "isinstance"=none)(gD:mg "list"=none)(Dg:mg "any"=none):
  gx P w K mg base kG 8 f fd ["web","b","rows"] (nG K):=by
 refine F.dD ["web","b","rows"] λH Q hr h=>?_;obtain⟨a,l,n,b,ts,rs,R,rfl,hA,b0,hl,hR,h40,qq⟩:=h;refine eX ?_;intro Y;refine⟨_,(aN (oR (pd D1 hr (aj (pv 0) ak))) (aN (iK (PW.pt (rH (jy (iT (pd D2 hr (aj (pv 1) ak)))) (uY (gU uk (pv 1) aL)))) Sd iM) (aN (iK (PW.pt (rH (jy (iT (pB Fo aB (aj (pv 2) (aj (pN "list" gD) ak))))) (rH (gU sq (pB wZ bU (aj (pv 2) ak)) (bw cH (pv 0) aL)) (uY (jy (iT (pB (Fl rfl) dG (aj (pK ["row"] ["b"] [1] (ur (pv 2)) (pG 0) lF (pd D3 hr (aj (pv 1) (aj (pv 0) ak)))) ak)))))))) (aY (bK jl)) iM) (aY (bK (uv (pB (wJ rfl) Dg (aj (pK ["one","other"] ["rows"] [2] (EY (bw cH (pv 0) aL)) (Kl K (n:=2) rfl (jz (pG 0) (jz (pG 1) yO))) lF (pd D4 hr (aj (bw (eV K) (pv 2) (pv 0)) (aj (bw (eV K) (pv 2) (pv 1)) ak)))) ak)))))))),?_⟩;refine QJ ?_;intro c4 c3 c2;have h0:=hA.h0;have hRl:=Paired.dM hR;refine⟨_,rfl,.ref a,_,rfl,hA.web.dv.dx,hA.ok,λH1 s1=>?_⟩;have M9:=hA.same s1;obtain⟨Jh,Jw,w1,w2,w3⟩:=id M9.web;refine⟨_,rfl,.int b,.int b,rfl,.int b,_,rfl,?_⟩;apply kL;refine⟨_,rfl,_,_,rfl,rfl,_,rfl,?_⟩;rw[gY (show¬b<1 by omega)];apply kL;have hl1:=s1.seq hl;have hR1:=hR.same s1;refine⟨_,rfl,.ref l,"list",_,rfl,.inr (.inl ⟨rfl,_,hl1⟩),.inr (.inr (.inr rfl)),_,rfl,?_⟩;apply kL;refine⟨_,rfl,l,_,rfl,.inl hl1,λhz=>⟨_,rfl,a,_,_,.int n,rfl,rfl,w1,rfl,rfl,_,rfl,?_⟩⟩;by_cases hn:(R.length:Int)=n
 ·have e1:(!decide (V.int ((rs.length:Nat):Int)=V.int n))=false:=by
   have:((rs.length:Nat):Int)=n:=by omega
   rw[this,cI rfl];rfl
  rw[e1];apply kL;refine⟨_,rfl,l,_,rfl,hl1,λhz=>?_⟩;let xV:Nat->List V->St->Hp->Prop:=λi acc σ H'=>acc=((R.take i).map (rY b)).map V.bl/\Same H1 H'/\∃o,σ=[o,some (.int b)];refine w6 (xs:=rs) xV ⟨rfl,Same.refl _,_,rfl⟩ (λi acc σ H' _ p=>p.2.1.seq hl1) (λi acc σ H' _ p=>by rw[p.1,aD,aD,nR];exact u9 _ _) hz (λi x acc σ H' hx p=>?_) (λacc σ H' p=>?_)
  ·obtain⟨rfl,sm,o,rfl⟩:=p;obtain⟨row,hrow,pp,rfl,hpp⟩:=Paired.at_ hR1 hx;refine⟨_,rfl,_,rfl,pp,b,row,rfl,sm.tup hpp,λH2 s2=>⟨?_,sm.trans s2,_,rfl⟩⟩;rw[rF,hrow,bR,bR];rfl
  intro p1 hp1;obtain⟨rfl,sm,_⟩:=p;rw[Fq (by omega)]at *;have g1:=aR hp1 (.lst ((R.map (rY b)).map V.bl));refine⟨p1,_,rfl,ja.of aK,_,rfl,?_⟩;have ea:(R.map (rY b)).all id=R.all (rY b):=by rw[Sy];rfl
  rw[ea];have jx:=sm.trans g1;generalize (upd H' p1 (.lst ((R.map (rY b)).map V.bl)))=H3 at *;cases hal:R.all (rY b)with
  |false=>
   apply si;have:=qq H3 (s1.trans jx);rw[VG hal]at this;exact this
  |true=>
   apply kL;have hl3:=jx.seq hl1;have hR3:=hR1.same jx;refine⟨_,rfl,a,_,_,.ref Jh,rfl,rfl,jx.tup w1,rfl,Jh,_,rfl,jx.tup w2,λhz=>?_⟩;have w33:=w3.same jx;have lr:Jw.length=ts.length:=by have:=w3.len;rwa [aD]at this
   let Mu:Nat->List V->St->Hp->Prop:=λi acc σ H'=>acc=((ts.take i).map λp=>Eh (R.getD p.1.toNat []) (R.getD p.2.toNat [])).map V.bl/\H'=H3/\∃o1 o2,σ=[o1,o2,some (.ref l)];refine IV (xs:=Jw) Mu ⟨rfl,rfl,_,_,rfl⟩ (λi acc σ H' _ p=>by rw[p.2.1];exact jx.tup w2) (λi acc σ H' _ p=>by rw[p.1,aD,aD,nR];exact u9 _ _) hz (λi x acc σ H' hx p=>?_) (λacc σ H' p=>?_)
   ·obtain⟨rfl,rfl,o1,o2,rfl⟩:=p;obtain⟨t,hi,rfl,ht⟩:=qN w33 hx;obtain⟨q0,q1,q2⟩:=hA.pk.lt _ (yS hi);have i1:(ts[i]).1.toNat<R.length:=by omega
    have i2:(ts[i]).2.toNat<R.length:=by omega
    obtain⟨p1,a1,v1⟩:=fj.at hR3 q0 i1;obtain⟨p2,a2,v2⟩:=fj.at hR3 (i:=(ts[i]).2) (by omega) i2;have l1:=h40 _ (QA i1);have l2:=h40 _ (QA i2);refine⟨t,_,rfl,ht,rfl,_,_,rfl,_,_,rfl,rfl,?_⟩;refine⟨_,rfl,_,rfl,l,_,_,.ref p1,rfl,rfl,hl3,a1,_,rfl,_,rfl,l,_,_,.ref p2,rfl,rfl,hl3,a2,?_⟩;refine⟨p1,p2,_,_,rfl,v1,v2,by omega,by omega,?_,rfl,_,_,rfl⟩;rw[rF,cU hi,bR,bR];rfl
   intro p2 hp2;obtain⟨rfl,rfl,_⟩:=p;rw[Fq (by omega)]at *;have g2:=aR hp2 (.lst ((ts.map λp=>Eh (R.getD p.1.toNat []) (R.getD p.2.toNat [])).map V.bl));refine⟨p2,_,rfl,ja.of aK,_,rfl,?_⟩;have:=qq _ (s1.trans (jx.trans g2));rw[J0 hn hal]at this;rw[Mo];exact this
 ·have e1:(!decide (V.int ((rs.length:Nat):Int)=V.int n))=true:=by
   rw[gY (λz=>hn (by have:=V.int.inj z;omega))];rfl
  rw[e1];apply si;have:=qq H1 s1;rw[VH hn]at this;exact this
noncomputable def iG(n:Nat):ζ:=ah n 1
end
theorem yU(hp:p<n):jT (iG n) p=1:=by
 unfold jT iG;rw[dY,List.getElem?_replicate_of_lt hp];rfl
section
variable{K:af}
theorem Dl(hD:0<D):(aH a D).2∣D:=⟨az a.natAbs D,(Nat.div_mul_cancel (EN _ _)).symm⟩
theorem v8(hD:0<D):(aH a D).1*((D/(aH a D).2:Nat):Int)=a:=by
 have l:=Fp a hD;have e:=l.eq;have hv:=l.pos;obtain⟨c,hc⟩:=Dl (a:=a) hD;generalize (aH a D).1=u at *;generalize (aH a D).2=v at *;have:D/v=c:=by rw[hc];exact Kz _ hv
 rw[this];rw[hc]at e
 push_cast at e
 refine Xr (a:=(v:Int)) (by omega) ?_
 grind
theorem U7(hD:0<D)(ha:0<=a):0<=(aH a D).1:=(Fp a hD).nn ha
theorem qP(hD:0<D)(ha:0<=a):0<=(aH a D).1/\0<(aH a D).2/\(aH a D).2∣D:=⟨U7 hD ha,(Fp a hD).pos,Dl hD⟩
theorem Ag(h:Sh n ss wl ov Z Y X)(g:ζ->Bool):IB ov (((bh ss ov Y).filter λq=>g q.1).map (·.2)):=by
 refine⟨h.pos,h.big,λf hf=>?_⟩;obtain⟨q,hq,rfl⟩:=jP.mp hf;obtain⟨k,hk,rfl⟩:=jP.mp (iU.mp hq).1;exact qP h.pos (h.yn k)
theorem uQ(hS:bH ss ts false n)(h:s∈ss):m7 ts false n s:=pA n s (iU.mp (hS.1.mem_iff.mp h)).1
theorem Pk(r):Pn r=true↔r.Pairwise (· < ·):=by
 have gg:∀j,(hj:j<r.length)->r.getD j 0=r[j]:=λj hj=>by rw[dY,cU hj];rfl
 unfold Pn;rw[lM];constructor
 ·intro h;have st:∀d i,(hd:i+d+1<r.length)->r[i]'(by omega)<r[i+d+1]:=by
   intro d
   induction d with
   |zero=>
    intro i hd;have:=lA (h i (nu.mpr (by omega)))
    rwa [gg i (by omega),gg (i+1) (by omega)]at this
   |succ d ih=>
    intro i hd;have a:=ih i (by omega);have b:=lA (h (i+d+1) (nu.mpr (by omega)));rw[gg (i+d+1) (by omega),gg (i+d+1+1) (by omega)]at b;exact Mn a b
  rw[BK];intro i j hi hj hij;have:=st (j-i-1) i (by omega);have e:i+(j-i-1)+1=j:=by omega
  simp only[e]at this;exact this
 ·intro h k hk;rw[nu]at hk;rw[gg k (by omega),gg (k+1) (by omega)];exact cI (BK.mp h k (k+1) (by omega) (by omega) (by omega))
theorem jj.CV(hD:0<D)(h:jj D S a b)(hx:x*(D:Int)<=S):x*(b:Int)<=a:=by
 obtain⟨hb,⟨e,eD⟩,he⟩:=h;have ee:D/b=e:=by rw[eD];exact Kz _ hb
 have ep:0<e:=FB λz=>by rw[z,IS]at eD;omega
 rw[ee]at he;rw[eD,<-he]at hx
 push_cast at hx
 refine Md (a:=(e:Int)) ?_ (by omega);have:x*(b:Int)*(e:Int)=x*((b:Int)*(e:Int)):=by grind
 omega
theorem jj.CT(hD:0<D)(h:jj D S a b)(hx:S<=x*(D:Int)):a<=x*(b:Int):=by
 have:=jj.CV (a:= -a) (S:= -S) (x:= -x) hD ⟨h.pos,h.dvd,by have:=h.eq;grind⟩ (by grind)
 grind
theorem jj.zM(hD:0<D)(h:jj D S a b)(l:yi Z D u v)(hz:S=Z):a*(v:Int)=u*(b:Int):=by
 obtain⟨hb,⟨e,eD⟩,he⟩:=h;have ee:D/b=e:=by rw[eD];exact Kz _ hb
 have ep:0<e:=FB λz=>by rw[z,IS]at eD;omega
 rw[ee]at he;have e2:=l.eq;rw[<-hz,<-he,eD]at e2
 push_cast at e2
 refine Xr (a:=(e:Int)) (by omega) ?_
 grind
theorem qQ{ss:List ζ}{Y:Nat->Int}(hD:0<D)(hY:∀k,0<=Y k)(g:ζ->Bool):∀m,nZ D (((((am m).filter λk=>decide (0<Y k)).map λk=>(ss.getD k [],aH (Y k) D)).filter λq=>g q.1).map (·.2))=Sx.sm m λk=>if g (ss.getD k [])=true then Y k else 0
 |0=>rfl
 |m+1=>by
  have ih:=qQ (ss:=ss) hD hY g m;rw[xq,Fe,bR,Fe,bR,uT,ih];show _=Sx.sm m _+(if g (ss.getD m [])=true then Y m else 0);congr 1;by_cases hy:0<Y m
  ·rw[FG (by simpa using hy)];by_cases hg:g (ss.getD m [])=true
   ·rw[MG,yR,EK,FG (by exact hg),au hg];exact(Am D _).trans (v8 hD)
   ·rw[MG,yR,EK,FF (by exact hg),aq hg];rfl
  ·rw[FF (by simpa using hy)];have:Y m=0:=by have:=hY m;omega
   rw[this];show(0:Int)=_;split<;>rfl
theorem sO{v v':Nat}(hv:0<v)(c1:az u.natAbs v=1)(c2:az u'.natAbs v'=1)(cr:u*(v':Int)=u'*(v:Int)):u=u'/\v=v':=by
 have cn:u.natAbs*v'=u'.natAbs*v:=by
  have:=jQ Int.natAbs cr
  rwa [Fs,Fs,FA,FA]at this
 have d1:v∣v':=(Kt c1).dvd_of_dvd_mul_left (by rw[cn];exact Kx _ _);have d2:v'∣v:=(Kt c2).dvd_of_dvd_mul_left (by rw[<-cn];exact Kx _ _);have ev:=Nat.dvd_antisymm d1 d2;subst ev;exact⟨Xr (a:=(v:Int)) (by omega) cr,rfl⟩
noncomputable def HF(f:Int×Nat):PyData:=.tuple [.int f.1,.int ((f.2:Nat):Int)]
theorem rm.dv(h:rm K H a f):DV K H (.ref a) (HF f):=.tup h (.cons (.int _) (.cons (.int _) .nil))
theorem Se:∀k,j<k->(∀i,i<k->0<=f i)->Sx.sm k f<=g->f j<=g:=λk hj hn h=>by
 have:f j<=Sx.sm k f:=by
  induction k with
  |zero=>omega
  |succ k ih=>
   show f j<=Sx.sm k f+f k;have hk:=hn k (by omega);have hs:=Sx.yg k λi hi=>hn i (by omega);by_cases c:j=k
   ·subst c;omega
   ·have:=ih (by omega) (λi hi=>hn i (by omega)) (by show Sx.sm k f<=g;have:Sx.sm (k+1) f=Sx.sm k f+f k:=rfl;omega);omega
 omega
theorem Vd(h:q∈bh ss ov Y):∃k,k<ss.length/\0<Y k/\q.2=aH (Y k) ov:=by
 unfold bh at h;obtain⟨k,hk,rfl⟩:=jP.mp h;rw[iU,nu]at hk;exact⟨k,hk.1,lA hk.2,rfl⟩
end
noncomputable def Ej(b:Nat)(q:ζ×(Int×Nat)):Nat:=(q.2.1*(b:Int)/(q.2.2:Int)).toNat
noncomputable def nW(b:Nat)(L:List (ζ×(Int×Nat))):List ζ:=(L.map λq=>ah (Ej b q) q.1).flatten
noncomputable def pR(S:List ζ)(p:Int):ζ:=((am S.length).filter λk=>decide (p∈S.getD k [])).map λk:Nat=>(k:Int)
noncomputable def LM(b:Nat)(L:List (ζ×(Int×Nat))):Prop:=∀q∈L,0<=q.2.1/\0<q.2.2/\q.2.2∣b
theorem Ex{b:Nat}(h0:0<=q.2.1)(hv:0<q.2.2)(hd:q.2.2∣b):q.2.1*(b:Int)/(q.2.2:Int)=q.2.1*((b/q.2.2:Nat):Int)/\((Ej b q:Nat):Int)=q.2.1*((b/q.2.2:Nat):Int):=by
 have e:q.2.1*(b:Int)/(q.2.2:Int)=q.2.1*((b/q.2.2:Nat):Int):=by
  obtain⟨c,rfl⟩:=hd;rw[Kz _ hv]
  push_cast
  rw[show q.2.1*((q.2.2:Int)*(c:Int))=(q.2.2:Int)*(q.2.1*(c:Int)) by grind];exact NM _ (by omega)
 refine⟨e,?_⟩;unfold Ej;rw[e];exact Wc (Br h0 (Int.natCast_nonneg _))
theorem Gp(g:ζ->Bool):∀{L:List (ζ×(Int×Nat))},LM b L->((((nW b L).filter g).length:Nat):Int)=nZ b ((L.filter λq=>g q.1).map (·.2))
 |[],_=>rfl
 |q::L,h=>by
  have ih:=Gp g (L:=L) λr hr=>h r (fB _ hr);obtain⟨h0,hv,hd⟩:=h q dZ;have e:=(Ex h0 hv hd).2;show((((ah (Ej b q) q.1++nW b L).filter g).length:Nat):Int)=_;rw[Fe,lN,List.filter_replicate];by_cases c:g q.1=true
  ·rw[au c,Kw,FG (by exact c)];show _=q.2.1*((b/q.2.2:Nat):Int)+nZ b _;rw[<-ih,<-e];push_cast;rfl
  ·rw[aq c,FF (by exact c),<-ih];simp
theorem Yd(h:s∈nW b L):∃q∈L,q.1=s:=by
 obtain⟨l,hl,hs⟩:=List.mem_flatten.mp h;obtain⟨q,hq,rfl⟩:=jP.mp hl;exact⟨q,hq,(Fu.mp hs).2.symm⟩
theorem yE(hb:0<b):∀{fs:List (Int×Nat)},(∀f∈fs,0<f.2/\f.2∣b)->nZ (b*e) fs=nZ b fs*(e:Int)
 |[],_=>by simp[nZ]
 |f::fs,h=>by
  obtain⟨hv,c,hc⟩:=h f dZ;have ih:=yE (e:=e) hb (fs:=fs) λg hg=>h g (fB _ hg);show f.1*((b*e/f.2:Nat):Int)+nZ (b*e) fs=(f.1*((b/f.2:Nat):Int)+nZ b fs)*(e:Int);have e1:b/f.2=c:=by rw[hc];exact Kz _ hv
  have e2:b*e/f.2=c*e:=by rw[hc,FS];exact Kz _ hv
  rw[ih,e1,e2]
  push_cast
  grind
theorem Vj(S)(p):(pR S p).length=(S.filter λs=>decide (p∈s)).length:=by
 have go:∀m,m<=S.length->((am m).filter λk=>decide (p∈S.getD k [])).length=((S.take m).filter λs=>decide (p∈s)).length:=by
  intro m
  induction m with
  |zero=>intro _;rfl
  |succ m ih=>
   intro hm;have hm':m<S.length:=hm;rw[xq,Fe,lN,ih (by omega),ER hm',Fe,lN];congr 1;rw[Ks,Ks,dY,cU hm'];show df (if decide (p∈S[m])=true then[m]else[])=df (if decide (p∈S[m])=true then[S[m]]else[]);split<;>rfl
 unfold pR;rw[aD,go S.length (aP _),rE]
theorem Ze(S)(p):(pR S p).Pairwise (· < ·):=by
 unfold pR;exact Tp.mpr ((Wd.filter _).imp λh=>by omega)
theorem Aj(hm:h∈pR S p):0<=h/\h<(S.length:Int)/\p∈S.getD h.toNat []:=by
 obtain⟨k,hk,rfl⟩:=jP.mp hm;obtain⟨h1,h2⟩:=iU.mp hk;have:=nu.mp h1;exact⟨by omega,by omega,lA h2⟩
structure V1(n:Int)(ts:L0)(a:Int)(b:Nat)(R:List ζ):Prop where
 len:R.length=n.toNat
 each:∀r∈R,r.length=b/\r.Pairwise (· < ·)/\∀h∈r,0<=h/\h<a
 dis:∀p∈ts,∀h∈R.getD p.1.toNat [],h∉R.getD p.2.toNat []
noncomputable def qI(n b:Nat)(S:List ζ):List ζ:=(am n).map λp:Nat=>(pR S (p:Int)).take b
theorem Ub(h:p<n):(qI n b S).getD p []=(pR S (p:Int)).take b:=by
 unfold qI;rw[dY,dI,Tt h];rfl
theorem Sb(hS:bH ss ts false n)(h:Sh n ss (iG n) ov Z Y X):Z<=(n:Int)*(ov:Int):=by
 have hx:∀p,p<n->X p<=(ov:Int):=λp hp=>by
  obtain⟨j,hj,e⟩:=Rt hS hp;have:=Se (f:=λp=>if cC ss j p=true then X p else 0) (j:=p) n hp (λi _=>by show 0<=(if cC ss j i=true then X i else 0);split;exact h.xn i;exact u5 0) (h.lig j hj);simp only[e,Fv]at this;exact this
 rw[<-h.wor];exact(Sx.zH (f:=λp=>jT (iG n) p*X p) (b:=(ov:Int)) n λp hp=>by
  show -(ov:Int)<=jT (iG n) p*X p/\jT (iG n) p*X p<=(ov:Int);rw[yU hp,I9];have:=h.xn p;have:=hx p hp;omega).2
section
variable{n:Nat}{ts:L0}{ss:List ζ}{ov:Nat}{Z:Int}{Y X:Nat->Int}{a:Int}{b:Nat}
theorem Vc(h:Sh n ss (iG n) ov Z Y X):nZ ov ((bh ss ov Y).map (·.2))=Z:=by
 have:=qQ (ss:=ss) h.pos h.yn (λ_=>true) ss.length;simp only[Fv]at this;rw[h.tot]at this;rw[show((((am ss.length).filter λk=>decide (0<Y k)).map λk=>(ss.getD k [],aH (Y k) ov)).filter λq=>(λ_=>true) q.1)=bh ss ov Y from Wb.mpr λ_ _=>rfl]at this;exact this
theorem KR(hp:bJ (n:Int) ts)(hS:bH ss ts false n)(h:Sh n ss (iG n) ov Z Y X)(hs:jj ov (nZ ov ((bh ss ov Y).map (·.2))) a b)(hd:∀f∈(bh ss ov Y).map (·.2),f.2∣b):
  LM b (bh ss ov Y)/\((nW b (bh ss ov Y)).length:Int)=a/\a<=(n:Int)*(b:Int)/\aH a b=aH Z ov/\V1 (n:Int) ts a b (qI n b (nW b (bh ss ov Y))):=by
 have rG:=h.pos;have hb:=hs.pos;have hQ:LM b (bh ss ov Y):=λq hq=>by
  obtain⟨k,hk,hy,e⟩:=Vd hq;have ok:=qP (a:=Y k) rG (h.yn k);rw[<-e]at ok;exact⟨ok.1,ok.2.1,hd _ (Tr hq)⟩
 obtain⟨_,⟨e,eD⟩,he⟩:=id hs;have ee:ov/b=e:=by rw[eD];exact Kz _ hb
 have ep:0<e:=FB λz=>by rw[z,IS]at eD;omega
 have eI:(ov:Int)=(b:Int)*(e:Int):=by have:=jQ (λz:Nat=>(z:Int)) eD;simpa using this
 have sc0:∀fs:List (Int×Nat),(∀f∈fs,0<f.2/\f.2∣b)->nZ ov fs=nZ b fs*(e:Int):=λfs h=>by rw[eD];exact yE hb h
 have sc:∀g:ζ->Bool,nZ ov (((bh ss ov Y).filter λq=>g q.1).map (·.2))=nZ b (((bh ss ov Y).filter λq=>g q.1).map (·.2))*(e:Int):=λg=>by
  refine sc0 _ λf hf=>?_;obtain⟨q,hq,rfl⟩:=jP.mp hf;exact(hQ q (iU.mp hq).1).2
 have all:∀l:List (ζ×(Int×Nat)),(l.filter λq=>(λ_:ζ=>true) q.1)=l:=λl=>Wb.mpr λ_ _=>rfl;have ac:((nW b (bh ss ov Y)).length:Int)=a:=by
  have c:=Gp (λ_=>true) hQ;rw[all,show(nW b (bh ss ov Y)).filter (λ_=>true)=nW b (bh ss ov Y)from Wb.mpr λ_ _=>rfl]at c;have d:=sc λ_=>true;rw[all]at d;rw[ee,d]at he;rw[c];exact(Xr (a:=(e:Int)) (by omega) he).symm
 have tot:=Vc h;refine⟨hQ,ac,hs.CT rG (by rw[tot];exact Sb hS h),?_,?_⟩
 ·have l:=Fp Z rG;have l':=Fp a hb;have cr:=hs.zM rG l tot;have e1:=l'.eq;obtain⟨x,y⟩:=sO l'.pos l'.cop l.cop (by
   refine Xr (a:=(b:Int)) (by omega) ?_;have x1:(aH a b).1*((aH Z ov).2:Int)*(b:Int)=(aH a b).1*(b:Int)*((aH Z ov).2:Int):=by grind
   have x2:(aH Z ov).1*((aH a b).2:Int)*(b:Int)=(aH Z ov).1*(b:Int)*((aH a b).2:Int):=by grind
   rw[x1,x2,e1,<-cr];grind)
  exact ES x y
 have eno:∀p,p<n->b<=(pR (nW b (bh ss ov Y)) (p:Int)).length:=λp hp'=>by
  rw[Vj];have c:=Gp (λs=>decide ((p:Int)∈s)) hQ;have d:=sc λs=>decide ((p:Int)∈s);have f:=qQ (ss:=ss) rG h.yn (λs=>decide ((p:Int)∈s)) ss.length;have g:=h.eno p hp';rw[yU hp']at g;have k:(Sx.sm ss.length λk=>if decide ((p:Int)∈ss.getD k [])=true then Y k else 0)=Sx.sm ss.length λk=>if cC ss k p=true then Y k else 0:=rfl
  have f':nZ ov (((bh ss ov Y).filter λq=>(λs:ζ=>decide ((p:Int)∈s)) q.1).map (·.2))=Sx.sm ss.length λk=>if cC ss k p=true then Y k else 0:=f
  rw[d]at f';rw[<-f',<-c,eI]at g;have:(b:Int)*(e:Int)<=(((nW b (bh ss ov Y)).filter λs=>decide ((p:Int)∈s)).length:Int)*(e:Int):=by omega
  have:=Md this (by omega);omega
 refine⟨by unfold qI;rw[aD,uM];omega,λr hr=>?_,λp hp' x hx hx2=>?_⟩
 ·obtain⟨p,hp',rfl⟩:=jP.mp hr;have hp2:=nu.mp hp';refine⟨by rw[nR];have:=eno p hp2;omega,(Ze _ _).sublist (Na _ _),λx hx=>?_⟩;have m:=Aj (IH hx);rw[ac]at m;exact⟨m.1,m.2.1⟩
 ·have hlt:=hp.2 p hp';rw[Ub (by omega)]at hx hx2;have m1:=Aj (IH hx);have m2:=Aj (IH hx2);rw[show((p.1.toNat:Nat):Int)=p.1 by omega]at m1;rw[show((p.2.toNat:Nat):Int)=p.2 by omega]at m2;have hxl:x.toNat<(nW b (bh ss ov Y)).length:=by omega
  obtain⟨q,hq,eq⟩:=Yd (b:=b) (L:=bh ss ov Y) (s:=(nW b (bh ss ov Y)).getD x.toNat []) (by
   rw[dY,cU hxl];exact yS hxl)
  obtain⟨k,hk,rfl⟩:=jP.mp hq;have hk3:=nu.mp (iU.mp hk).1;have K1:=uQ hS (s:=ss.getD k []) (by rw[dY,cU hk3];exact yS hk3);rw[<-eq]at m1 m2;have hz:=K1.all p.1 m1.2.2 p.2 m2.2.2 (by omega);unfold aQ at hz;rw[cI (show(p.1,p.2)∈ts from hp')]at hz;cases hz
end
section
variable{P:υ}{w:ψ}{K:af}{mg:D0}{base:bn}
theorem Paired.app{α β:Type}{R:α->β->Prop}:∀{l l':List α}{m m':List β},ce R l m->ce R l' m'->ce R (l++l') (m++m')
 |[],_,_,_,.nil,h=>h
 |_::_,_,_,_,.cons a t,h=>.cons a (Paired.app t h)
theorem Cj(h:∃p,x=.ref p/\SqT K H p (s.map V.int)):∀k,fj K H (ah k [x]).flatten (ah k s)
 |0=>.nil
 |k+1=>.cons h (Cj h k)
theorem O1(b)(l m):nW b (l++m)=nW b l++nW b m:=by unfold nW;rw[bR,mh]
theorem Yc(b)(q):nW b [q]=ah (Ej b q) q.1:=by simp[nW]
theorem R1(b)(L)(i):(nW b (L.take i)).length<=(nW b L).length:=by
 conv=>rhs;rw[<-List.take_append_drop i L,O1,lN]
 omega
inductive Oh(K:af)(vs:List V)(H:Hp)(Q:VK)(E_:XK):Prop
 |mk(la:ag)(b:Nat)(rs:List V)(L:List (ζ×(Int×Nat)))(_:vs=[.ref la,.int (b:Int)])(_:ja K H la rs)(_:jJ K H rs L)(_:LM b L)(_:0<b)(_:b<=521)(_:(nW b L).length<=5210)(_:∀r xs H',Same H H'->H' r=some (.lst xs)->H r=none->fj K H' xs (nW b L)->Q (.ref r) H')
theorem YG{f:ag}{fd:χ}
  (F:pV K "sets_by_hue" "sets_by_hue" jo f fd):
  gx P w K mg base kG 1 f fd ["laying","b"] (Oh K):=by
 refine F.dD ["laying","b","sets","some","share"] λH Q hr h=>?_;obtain⟨la,b,rs,L,rfl,hL,hv,hQ,b0,aci,hsz,q⟩:=h;refine⟨_,(aN (pS 2 (rd ak)) (aN (rS Fw rfl (ur (pv 0)) (tS rfl (jz (pG 3) (jz (pG 4) yO))) (aY (oR (ww E3 Pe Pd wx (pv 2) (aj (dF BF (rd (aj (pv 3) ak)) (dF iD (dF qS (bw cH (pv 4) aL) (pv 1)) (bw cH (pv 4) aL))) ak))))) (aY (bK (pv 2))))),?_⟩;have ac:=Paired.dM hv;refine⟨rV,λf hf=>?_⟩;have s0:=aR hf (.lst []);have e0:(upd H f (.lst [])) f=some (.lst []):=aK;generalize (upd H f (.lst []))=H0 at *;dsimp only[sL,gy];refine⟨_,rfl,la,rs,rfl,s0.seq hL,λhz=>?_⟩;refine ul (xs:=rs) (λi σ H'=>Same H H'/\(∃xs,H' f=some (.lst xs)/\fj K H xs (nW b (L.take i)))/\∃o3 o4,σ=[some (.ref la),some (.int (b:Int)),some (.ref f),o3,o4]) ⟨s0,⟨[],e0,.nil⟩,_,_,rfl⟩ (λi σ H' _ p=>p.1.seq hL) (λi x σ H' hx p=>?_) (λσ H' p=>?_)
 ·obtain⟨sm,⟨xs,ex,hxs⟩,o3,o4,rfl⟩:=p;obtain⟨qv,eq1,t,sa,fa,rfl,h1,h2,h3⟩:=Paired.at_ hv hx;obtain⟨u0,v0,vd⟩:=hQ qv (oF eq1);have vb:=FU b0 vd;have tk:L.take (i+1)=L.take i++[qv]:=by rw[rF,eq1];rfl
  have le1:=R1 b L (i+1);have hxl:=Paired.dM hxs;have e4:nW b (L.take (i+1))=nW b (L.take i)++ah (Ej b qv) qv.1:=by rw[tk,O1,Yc]
  rw[e4,lN,Kw]at le1;refine⟨t,_,rfl,sm.tup h1,rfl,_,_,rfl,_,_,rfl,rfl,?_⟩;have c0:0<=qv.2.1*(b:Int)/(qv.2.2:Int):=Int.ediv_nonneg (Br u0 (by omega)) (by omega);have ec:Ej b qv=(qv.2.1*(b:Int)/(qv.2.2:Int)).toNat:=rfl;refine⟨_,rfl,.inl ⟨rfl,_,ja.of ex⟩,_,rfl,rV,λp1 hp1=>?_⟩;have z1:=aR hp1 (.lst [.ref sa]);have h3':=(sm.trans z1).tup h3;refine⟨_,rfl,fa,_,_,.int qv.2.1,rfl,rfl,h3',rfl,_,rfl,_,_,rfl,rfl,.inr ⟨by omega,by omega⟩,_,rfl,fa,_,_,.int (qv.2.2:Int),rfl,rfl,h3',rfl,_,_,rfl,rfl,⟨by omega,by omega⟩,?_⟩;refine⟨p1,_,[.ref sa],rfl,rfl,aK,by omega,by omega,by rw[gF];show 1*_<=_;omega,λp2 hp2=>?_⟩;rw[<-ec]at *;generalize Ej b qv=k at *;have z2:=aR hp2 (.lst (ah k [V.ref sa]).flatten);have e2:=(z1.trans z2) _ _ ex;have hlr:(ah k [V.ref sa]).flatten.length=k:=by rw[xk];show k*1=k;omega
  refine⟨f,p2,xs,_,rfl,rfl,e2,aK,by rw[hlr,gF];omega,?_⟩;refine⟨λa o ha=>?_,⟨xs++(ah k [V.ref sa]).flatten,aK,?_⟩,_,_,rfl⟩
  ·have na:a≠f:=λz=>by rw[z,hf]at ha;cases ha
   rw[cF na];exact(z1.trans z2) _ _ (sm _ _ ha)
  ·rw[e4];exact Paired.app hxs (Cj ⟨sa,rfl,h2⟩ k)
 ·obtain⟨sm,⟨xs,ex,hxs⟩,o3,o4,rfl⟩:=p;rw[Fq (by omega)]at hxs;exact⟨_,rfl,q f xs H' sm ex hf (hxs.same sm)⟩
inductive Oj(K:af)(vs:List V)(H:Hp)(Q:VK)(E_:XK):Prop
 |mk(f:ag)(p:Int)(xs:List V)(S:List ζ)(_:vs=[.ref f,.int p])(_:ja K H f xs)(_:fj K H xs S)(_:∀r H',Same H H'->H' r=some (.lst ((pR S p).map V.int))->H r=none->Q (.ref r) H')
theorem YM{f:ag}{fd:χ}
  (F:pV K "hues_of" "hues_of" rT f fd)(cA:mg "enumerate"=none):
  gx P w K mg base kG 1 f fd ["sets","place"] (Oj K):=by
 refine F.M7 ["sets","place"] λcdv A outer s H vs Q E hr h=>?_;obtain⟨f,p,xs,S,rfl,hf,hR,q⟩:=h;refine⟨_,(aY (bK (pK ["hue","some"] ["place"] [1] (qL rfl cA (aj (pv 0) ak)) (Kl K (n:=2) rfl (jz (pG 0) (jz (pG 1) yO))) (Fb (gU (kI K hr.units) (pv 2) (pv 1) (by with_unfolding_all rfl))) (pv 0)))),?_⟩;have ac:=Paired.dM hR;refine⟨_,rfl,false,f,xs,rfl,hf,λhz=>?_⟩;refine jH (K:=K) (b:=false) (a:=f) (xs:=xs) (λi acc σ H'=>acc=(((am i).filter λk=>decide (p∈S.getD k [])).map λk:Nat=>(k:Int)).map V.int/\Same H H'/\∃o1 o2,σ=[o1,o2,some (.int p)]) ⟨rfl,Same.refl _,_,_,rfl⟩ (λi acc σ H' _ pp=>pp.2.1.seq hf) (λi acc σ H' _ pp=>?_) hz (λi v t acc σ H' hv pp ht'=>?_) (λacc σ H' pp=>?_)
 ·rw[pp.1,aD,aD];exact dH (vf _ _) (by rw[uM];exact aP _)
 ·obtain⟨rfl,sm,o1,o2,rfl⟩:=pp;obtain⟨s,es,pa,rfl,hs⟩:=Paired.at_ hR hv;have z1:=aR ht' (.tup [.int (i:Int),.ref pa]);have eg:S.getD i []=s:=by rw[dY,es];rfl
  refine⟨t,_,rfl,SqT.of aK,rfl,_,_,rfl,_,_,rfl,rfl,?_⟩;refine⟨_,rfl,_,rfl,pa,_,_,.int p,rfl,.inr ((sm.trans z1).tup hs),cY.ints _,.int _,Fd _,rfl,(by show 0<=60;decide),_,rfl,?_⟩;rw[Nk];refine nE (λc=>?_) (λc=>?_)
  ·refine⟨_,rfl,?_,sm.trans z1,_,_,rfl⟩;rw[xq,Fe,FG (by rw[eg];exact c),bR,bR];rfl
  ·refine⟨?_,sm.trans z1,_,_,rfl⟩;rw[xq,Fe,FF (by rw[eg];exact c),MG,xr]
 ·intro r hr';obtain⟨rfl,sm,_⟩:=pp;have e:(((am xs.length).filter λk=>decide (p∈S.getD k [])).map λk:Nat=>(k:Int))=pR S p:=by rw[ac];rfl
  rw[e];refine q r _ (sm.trans (aR hr' _)) aK ?_;cases e:H r with
  |none=>rfl
  |some o=>rw[sm _ _ e]at hr';cases hr'
theorem Rp(ys:ζ)(b:Nat):qa (ys.map V.int) none (some (b:Int))=(ys.take b).map V.int:=by
 unfold qa HT.sIx;simp only;rw[aq (by omega),aD,<-List.map_drop,<-My];congr 1;show(ys.drop 0).take _=_;rw[List.drop_zero];rcases Nat.le_total b ys.length with h|h
 ·congr 1;omega
 ·rw[Fq (by omega),Fq h]
inductive qy(K:af)(vs:List V)(H:Hp)(Q:VK)(E_:XK):Prop
 |mk(a:ag)(n:Int)(ts:L0)(_:vs=[.ref a])(_:aZ K H a n ts)(_:n<=5)(_:∀r l (x:Int) (c:Nat) rs R ss ov Z Y X H',Same H H'->H' r=some (.tup [.int x,.int (c:Int),.ref l])->0<c->c<=40->0<=x->H' l=some (.lst rs)->fj K H' rs R->V1 n ts x c R->bH ss ts false n.toNat->Sh n.toNat ss (iG n.toNat) ov Z Y X->aH x c=aH Z ov->H l=none->Q (.ref r) H')
theorem Lh{f:ag}{fd:χ}
  (F:pV K "spread" "spread" vP f fd)(D1:Dp P w K mg base 7 "need_web" yQ ["thing"] (aU K))(D2:Dp P w K mg base 9 "shares" lZ ["web","wants"] (jB K))(D3:Dp P w K mg base 2 "sum_of" gZ ["fractions"] (jY K))(D4:Dp P w K mg base 1 "sets_by_hue" jo ["laying","b"] (Oh K))(D5:Dp P w K mg base 1 "hues_of" rT ["sets","place"] (Oj K))(aF:mg "range"=none)(aJ:mg "tuple"=none):
  gx P w K mg base kG 10 f fd ["web"] (qy K):=by
 refine F.dD ["web","laying","total","b","sets","rows"] λH Q hr h=>?_;obtain⟨a,n,ts,rfl,hA,n5,q⟩:=h;refine eX ?_;intro Y;refine⟨_,(aN (oR (pd D1 hr (aj (pv 0) ak))) (aN (pS 1 (bw cH (pd D2 hr (aj (pv 0) (aj (dF JD (ou (aj aL ak)) (bw cH (pv 0) aL)) ak))) aL)) (aN (pS 2 (pd D3 hr (aj (pK ["some","share"] [] [] (ur (pv 1)) (Kl K (n:=2) rfl (jz (pG 0) (jz (pG 1) yO))) lF (pv 1)) ak))) (aN (pS 3 (bw cH (pv 2) aL)) (aN (pS 4 (pd D4 hr (aj (pv 1) (aj (pv 3) ak)))) (aN (pX 5 ["place"] ["sets","b"] [4,3] (Kp rfl aF (aj (bw cH (pv 0) aL) ak)) (pG 0) lF (pT (mY K) aJ (aj (sh (Ou K) (pd D5 hr (aj (pv 1) (aj (pv 0) ak))) tm (sn (pv 2))) ak))) (aY (bK (ou (aj (bw cH (pv 2) aL) (aj (pv 3) (aj (pv 5) ak)))))))))))),?_⟩;refine WY ?_;intro c7 c6 c5 c4 c3 c2;have h0:=hA.h0;have h10:=hA.h1;refine⟨_,rfl,.ref a,_,rfl,hA.web.dv.dx,hA.ok,λH1 s1=>?_⟩;obtain⟨Jh,Jw,w1,_,_⟩:=id (hA.same s1).web;refine⟨_,rfl,rV,λp1 hp1=>?_⟩;have s2:=aR hp1 (.tup [.int 1]);refine⟨_,rfl,a,_,_,.int n,rfl,rfl,s2.tup w1,rfl,p1,n,_,rfl,rfl,SqT.of aK,(λe=>nomatch e),by omega,by omega,?_,λwa H3 s3 h3=>?_⟩
 ·show 1*n.toNat<=1000;omega
 have ew:(ah n.toNat [V.int 1]).flatten=(iG n.toNat).map V.int:=by
  unfold iG;generalize n.toNat=k
  induction k with
  |zero=>rfl
  |succ k ih=>rw[Kv,Tq,ih,Kv];rfl
 rw[ew]at h3;have jx:=s1.trans (s2.trans s3);refine⟨a,wa,n,ts,iG n.toNat,rfl,hA.same jx,h3,⟨by unfold iG;rw[Kw];omega,λx hx=>?_⟩,λr0 va la pa lrefs cu ss ov Z Y X H4 s4 e1 e2 e3 e4 e5 e6 eY hSh _ _ _=>⟨r0,_,_,.ref la,rfl,rfl,SqT.of e1,rfl,?_⟩⟩
 ·rw[(Fu.mp hx).2];decide
 have abX:=hSh.few (by omega);have rG:=hSh.pos;have ac:=Paired.dM e4;have l36:(bh ss ov Y).length<=36:=by
  unfold bh;rw[aD];have:=vf (λk=>decide (0<Y k)) (am ss.length);rw[uM]at this;have:=pq eY (by omega);omega
 have hD:IB ov ((bh ss ov Y).map (·.2)):=by
  have:=Ag hSh (λ_=>true)
  rwa [show((bh ss ov Y).filter λq=>(λ_=>true) q.1)=bh ss ov Y from Wb.mpr λ_ _=>rfl]at this
 have hpk:bJ ((n.toNat:Nat):Int) ts:=by rw[show((n.toNat:Nat):Int)=n by omega];exact hA.pk
 have big:=λ(a:Int) (b:Nat)=>KR (a:=a) (b:=b) hpk eY hSh;generalize bh ss ov Y=L at *;dsimp only[sL,gy];refine⟨_,rfl,la,lrefs,rfl,ja.of e3,λhz=>?_⟩;let xV:Nat->List V->St->Hp->Prop:=λi acc σ H'=>H'=H4/\gj K H4 acc ((L.take i).map (·.2))/\∃o1 o2,σ=[o1,o2];refine w6 (xs:=lrefs) xV ⟨rfl,.nil,_,_,rfl⟩ (λi acc σ H' _ p=>by rw[p.1];exact ja.of e3) (λi acc σ H' _ p=>?_) hz (λi x acc σ H' hx p=>?_) (λacc σ H' p=>?_)
 ·rw[Paired.dM p.2.1,aD,nR];exact u9 _ _
 ·obtain⟨rfl,hf,o1,o2,rfl⟩:=p;obtain⟨qv,eq1,t,sa,fa,rfl,h1,h2,h3'⟩:=Paired.at_ e4 hx;refine⟨t,_,rfl,h1,rfl,_,_,rfl,_,_,rfl,rfl,?_⟩;refine⟨_,rfl,rfl,?_,_,_,rfl⟩;rw[rF,eq1,bR];exact Paired.snoc hf ⟨fa,rfl,h3'⟩
 intro p5 hp5;obtain⟨rfl,hf,_⟩:=p;rw[Fq (by omega)]at hf;have s5:=aR hp5 (.lst acc);have hal:acc.length<=36:=by rw[Paired.dM hf,aD];exact l36
 refine⟨p5,acc,_,ov,rfl,ja.of aK,gj.same hf s5,hD,by omega,λp6 ta b H6 s6 e7 hs hdv=>?_⟩;have hb:=hs.le hD.pos;have hb0:0<b:=hs.pos;obtain⟨hQ,htl,hta,hlow,hSp⟩:=big ta b hs hdv;have ab8:ta<=5210:=by
  have h1:((n.toNat:Nat):Int)*(b:Int)<=10*(b:Int):=Mm (by omega) (by omega);omega
 have Te:=s5.trans s6;have A6:=hA.same (jx.trans (s4.trans Te));dsimp only[sL,gy];refine⟨_,rfl,p6,_,_,.int (b:Int),rfl,rfl,SqT.of e7,rfl,?_⟩;refine⟨_,rfl,_,rfl,la,b,lrefs,L,rfl,Te.seq (ja.of e3),jJ.same e4 Te,hQ,hb0,by omega,by omega,λf xs H7 s7 e8 _ hR7=>?_⟩;have A7:=A6.same s7;obtain⟨tt7,rr7,w7,_,_⟩:=id A7.web;dsimp only[sL,gy];refine⟨_,rfl,a,_,_,.int n,rfl,rfl,w7,rfl,n,rfl,by omega,by omega,?_⟩;let Mu:Nat->List V->St->Hp->Prop:=λi acc σ H'=>fj K H' acc (qI i b (nW b L))/\Same H7 H'/\∃o,σ=[o,some (.ref f),some (.int (b:Int))];refine Nm (n:=n.toNat) Mu ⟨.nil,Same.refl _,_,rfl⟩ (λi acc σ H' hi p=>?_) (by rw[gF];omega) (λi acc σ H' hi p=>?_) (λacc σ H' p=>?_)
 ·rw[Paired.dM p.1];unfold qI;rw[aD,uM];exact aP _
 ·obtain⟨hR,sm,o,rfl⟩:=p;refine⟨_,rfl,_,rfl,f,_,xs,_,rfl,sm.seq (ja.of e8),hR7.same sm,λr1 H8 s8 e9 _=>?_⟩;refine⟨_,rfl,_,rfl,r1,_,rfl,ja.of e9,λp2 hp2=>⟨p2,_,rfl,.inl ⟨ja.of aK,λt ht'=>?_⟩⟩⟩;have z1:=aR hp2 (.lst (qa ((pR (nW b L) (0+(i:Int))).map V.int) none (some (b:Int))));have z2:=aR ht' (.tup (qa ((pR (nW b L) (0+(i:Int))).map V.int) none (some (b:Int))));have zz:=s8.trans (z1.trans z2);refine⟨?_,sm.trans zz,_,rfl⟩;have er:qI (i+1) b (nW b L)=qI i b (nW b L)++[(pR (nW b L) (i:Int)).take b]:=by unfold qI;rw[xq,bR];rfl
  rw[er];refine Paired.snoc (hR.same zz) ⟨t,rfl,?_⟩;have ht1:=SqT.of (K:=K) (aK (H:=upd H8 p2 (.lst (qa ((pR (nW b L) (0+(i:Int))).map V.int) none (some (b:Int))))) (a:=t) (o:=.tup (qa ((pR (nW b L) (0+(i:Int))).map V.int) none (some (b:Int)))));rw[<-Rp];simp only[EJ]at ht1⊢;exact ht1
 ·intro l hl';obtain⟨hR,sm,_⟩:=p;have g1:=aR hl' (.lst acc);have gl:(upd H' l (.lst acc)) l=some (.lst acc):=aK;have e71:=(s7.trans (sm.trans g1)) _ _ e7;have hR1:=hR.same g1;have sA:=(jx.trans (s4.trans Te)).trans (s7.trans (sm.trans g1));have nl:H l=none:=by
   cases e:H l with
   |none=>rfl
   |some o=>rw[((jx.trans (s4.trans Te)).trans (s7.trans sm)) _ _ e]at hl';cases hl'
  generalize (upd H' l (.lst acc))=H9 at *;dsimp only[sL,gy];refine⟨_,rfl,p6,_,_,.int ta,rfl,rfl,SqT.of e71,rfl,_,rfl,_,rfl,rV,λr hr'=>?_⟩;have g2:=aR hr' (.tup [.int ta,.int (b:Int),.ref l]);rw[show((n.toNat:Nat):Int)=n by omega]at hSp;exact q r l ta b acc _ ss ov Z Y X _ (sA.trans g2) aK hb0 (by omega) (by omega) (g2 _ _ gl) (hR1.same g2) hSp eY hSh hlow nl
theorem Yi{b:Nat}(h:r.length=b/\r.Pairwise (· < ·)/\∀h∈r,0<=h/\h<a):rY (b:Int) r=true:=by
 obtain⟨h1,h2,h3⟩:=h;unfold rY;rw[h1,cI rfl,(Pk r).mpr h2,lM.mpr λx hx=>cI (h3 x hx).1];rfl
theorem Ri(h0:0<=n)(h:V1 n ts a b R):Aw n ts (b:Int) R=true:=by
 have hl:(R.length:Int)=n:=by rw[h.len];omega
 rw[J0 hl (lM.mpr λr hr=>Yi (h.each r hr))];rw[KF,Xl];intro p hp hc;unfold Eh at hc;obtain⟨x,hx,hx2⟩:=List.any_eq_true.mp hc;exact h.dis p hp x hx (lA hx2)
inductive rM(K:af)(vs:List V)(H:Hp)(Q:VK)(E_:XK):Prop
 |mk(a:ag)(n:Int)(t x:V)(d:bX)(_:vs=[.ref a,x])(_:SqT K H a [.int n,t])(_:DX K H x d)(_:dB n d=true)(_:∀H',Same H H'->Q .non H')
theorem GR{f:ag}{fd:χ}
  (F:pV K "need_set" "need_set" pC f fd)(D1:Dp P w K mg base 4 "is_set" fV ["n","thing"] (tX K)):gx P w K mg base kG 5 f fd ["web","thing"] (rM K):=by
 refine F.dD ["web","thing"] λH Q hr h=>?_;obtain⟨a,n,t,x,d,rfl,ha,hx,hd,q⟩:=h;refine⟨_,aY (iK (jy (iT (pd D1 hr (aj (bw cH (pv 0) aL) (aj (pv 1) ak))))) Sd iM),?_⟩;refine⟨_,rfl,a,_,_,.int n,rfl,rfl,ha,rfl,_,rfl,n,x,d,rfl,hx,λH' sm=>⟨_,rfl,?_⟩⟩;rw[hd];exact kL (q H' sm)
end
theorem Ch(hm:0<=m)(hs:l.Pairwise lO)(h:∀p:Int×Int,p∈l↔0<=p.1/\p.1<p.2/\p.2<m/\so p.1 p.2=true):l=rows so m m.toNat:=by
 refine sQ hs (Z9 so m _) λp=>?_;rw[h,MJ];constructor
 ·rintro⟨a,b,c,d⟩;exact⟨a,by omega,b,c,d⟩
 ·rintro⟨a,b,c,d,e⟩;exact⟨a,c,d,e⟩
theorem J8{xs:ζ}(h0:0<=i)(h1:i<(xs.length:Int)):vT (xs.map V.int) i=some (.int (xs.getD i.toNat 0)):=by
 have hk:i.toNat<xs.length:=by omega
 have ek:((i.toNat:Nat):Int)=i:=by omega
 have q:vT (xs.map V.int) ((i.toNat:Nat):Int)=some (.int (xs.getD i.toNat 0)):=rj (by rw[dI,cU hk,dY,cU hk];rfl);rw[ek]at q;exact q
theorem cT.dB(h:cT n xs):lQ.dB n (.tuple (xs.map aC))=true:=by
 unfold lQ.dB;rw[vo];refine⟨?_,?_⟩
 ·rw[Sy,lM];intro x hx;have:=h.lt x hx;show(decide (0<=x)&&decide (x<n))=true;rw[cI this.1,cI this.2];rfl
 ·rw[Kq];have e:xs.map (intD∘aC)=xs:=(Xm λx _=>rfl).trans (lp xs);rw[e];unfold fJ;rw[lM];intro k hk;rw[nu]at hk;have h2:=BK.mp h.Td k (k+1) (by omega) (by omega) (by omega);have g:∀j,(hj:j<xs.length)->xs.getD j 0=xs[j]:=λj hj=>by rw[dY,cU hj];rfl
  rw[g k (by omega),g (k+1) (by omega)];exact cI h2
noncomputable def M6(xs:ζ)(ts:L0)(i j:Int):Bool:=bN ts (xs.getD i.toNat 0) (xs.getD j.toNat 0)
noncomputable def T4(xs:ζ)(ts:L0)(i j:Int):Bool:=decide ((xs.getD i.toNat 0,xs.getD j.toNat 0)∈ts)
theorem Bn(h:cT n xs)(h0:0<=i)(h1:i<j)(h2:j<(xs.length:Int)):M6 xs ts i j=T4 xs ts i j:=by
 have g:∀j,(hj:j<xs.length)->xs.getD j 0=xs[j]:=λj hj=>by rw[dY,cU hj];rfl
 have hl:=BK.mp h.Td i.toNat j.toNat (by omega) (by omega) (by omega);rw[<-g i.toNat (by omega),<-g j.toNat (by omega)]at hl;unfold M6 T4 bN;generalize xs.getD i.toNat 0=x at *;generalize xs.getD j.toNat 0=y at *;rw[aq (by omega),au (by omega)]
noncomputable def qi(n:Nat):ζ:=(am n).map λ(k:Nat)=>(k:Int)
theorem gG(n):cT n (qi n.toNat):=by
 unfold qi;refine⟨?_,λx hx=>?_⟩
 ·rw[Tp];exact Wd.imp λh=>by omega
 ·obtain⟨k,hk,rfl⟩:=jP.mp hx;rw[nu]at hk;omega
theorem qu(n):(qi n).length=n:=by unfold qi;simp
theorem qw{n:Nat}(h0:0<=i)(h1:i<(n:Int)):(qi n).getD i.toNat 0=i:=by
 unfold qi;rw[dY,dI,Tt (by omega)];show((i.toNat:Nat):Int)=i;omega
theorem KJ(hn:0<=n)(h:bJ n ts)(hs:ts.Pairwise lO):rows (M6 (qi n.toNat) ts) n n.toNat=ts:=by
 refine(Ch hn hs λp=>?_).symm;constructor
 ·intro hp;have a:=h.lt p hp;refine⟨a.1,a.2.1,a.2.2,?_⟩;rw[Bn (gG n) a.1 a.2.1 (by rw[qu];omega)];unfold T4;rw[qw a.1 (by omega),qw (by omega) (by omega)];exact cI hp
 ·rintro⟨a,b,c,d⟩;rw[Bn (gG n) a b (by rw[qu];omega)]at d;unfold T4 at d;rw[qw a (by omega),qw (by omega) (by omega)]at d;exact lA d
section
variable{P:υ}{w:ψ}{K:af}{mg:D0}{base:bn}
inductive jX(K:af)(vs:List V)(H:Hp)(Q:VK)(E_:XK):Prop
 |mk(a:ag)(n:Int)(ts:L0)(_:vs=[.ref a])(_:aZ K H a n ts)(_:∀(va:ag) (ss:List ζ) (ov:Nat) (Z:Int) (Y X:Nat->Int) H',Same H H'->rm K H' va (aH Z ov)->bH ss ts false n.toNat->Sh n.toNat ss (iG n.toNat) ov Z Y X->Q (.ref va) H')
theorem PX{f:ag}{fd:χ}
  (F:pV K "value" "value" j5 f fd)(D1:Dp P w K mg base 7 "need_web" yQ ["thing"] (aU K))(D2:Dp P w K mg base 9 "shares" lZ ["web","wants"] (jB K)):
  gx P w K mg base kG 10 f fd ["web"] (jX K):=by
 refine F.dD ["web"] λH Q hr h=>?_;obtain⟨a,n,ts,rfl,hA,qq⟩:=h;refine⟨_,(aN (oR (pd D1 hr (aj (pv 0) ak))) (aY (bK (bw cH (pd D2 hr (aj (pv 0) (aj (dF JD (ou (aj aL ak)) (bw cH (pv 0) aL)) ak))) aL)))),?_⟩;have h0:=hA.h0;have h10:=hA.h1;refine⟨_,rfl,.ref a,_,rfl,hA.web.dv.dx,hA.ok,λH1 s1=>?_⟩;obtain⟨Jh,Jw,w1,w2,w3⟩:=id (hA.same s1).web;refine⟨_,rfl,rV,λp1 hp1=>?_⟩;have s2:=aR hp1 (.tup [.int 1]);refine⟨_,rfl,a,_,_,.int n,rfl,rfl,s2.tup w1,rfl,p1,n,_,rfl,rfl,SqT.of aK,(λe=>nomatch e),by omega,by omega,?_,λwa H3 s3 h3=>?_⟩
 ·show 1*n.toNat<=1000;omega
 have ew:(ah n.toNat [V.int 1]).flatten=(iG n.toNat).map V.int:=by
  unfold iG;generalize n.toNat=k
  induction k with
  |zero=>rfl
  |succ k ih=>rw[Kv,Tq,ih,Kv];rfl
 rw[ew]at h3;have jx:=s1.trans (s2.trans s3);refine⟨a,wa,n,ts,iG n.toNat,rfl,hA.same jx,h3,⟨by unfold iG;rw[Kw];omega,λx hx=>?_⟩,λr va la pa lrefs cu ss ov Z Y X H4 s4 e1 e2 e3 e4 e5 e6 eY hSh _ _ _=>?_⟩
 ·rw[(Fu.mp hx).2];decide
 exact⟨r,_,_,.ref va,rfl,rfl,SqT.of e1,rfl,qq va ss ov Z Y X H4 (jx.trans s4) e2 eY hSh⟩
inductive BZ(K:af)(vs:List V)(H:Hp)(Q:VK)(E_:XK):Prop
 |mk(a sm:ag)(n:Int)(ts:L0)(xs:ζ)(_:vs=[.ref a,.ref sm])(_:aZ K H a n ts)(_:SqT K H sm (xs.map V.int))(_:cT n xs)(_:∀r H',Same H H'->lJ K H' r (xs.length:Int) (rows (M6 xs ts) (xs.length:Int) (xs.length:Int).toNat)->Q (.ref r) H')
theorem YT{f:ag}{fd:χ}
  (F:pV K "cut_down" "cut_down" iy f fd)(D1:Dp P w K mg base 7 "need_web" yQ ["thing"] (aU K))(D2:Dp P w K mg base 5 "need_set" pC ["web","thing"] (rM K))(D3:Dp P w K mg base 1 "pairs" qG ["n"] (vI K))(D4:Dp P w K mg base 1 "has_tie" gP ["web","one","other"] (yd K))(mT:mg "tuple"=none)(mL:mg "len"=none):
  gx P w K mg base kG 8 f fd ["web","some"] (BZ K):=by
 refine F.dD ["web","some","kept"] λH Q hr h=>?_;obtain⟨a,sm,n,ts,xs,rfl,hA,hX,hok,q⟩:=h;refine⟨_,aN (oR (pd D1 hr (aj (pv 0) ak))) (aN (oR (pd D2 hr (aj (pv 0) (aj (pv 1) ak)))) (aN (pX 2 ["i","j"] ["web","some"] [0,1] (ur (pd D3 hr (aj (pB wZ mL (aj (pv 1) ak)) ak))) (Kl K (n:=2) rfl (jz (pG 0) (jz (pG 1) yO))) (Fb (iT (pd D4 hr (aj (pv 2) (aj (bw (Ez K) (pv 3) (pv 0)) (aj (bw (Ez K) (pv 3) (pv 1)) ak)))))) (ou (aj (pv 0) (aj (pv 1) ak)))) (aY (bK (ou (aj (pB wZ mL (aj (pv 1) ak)) (aj (pT Ss mT (aj (pv 2) ak)) ak))))))),?_⟩;have M9:=hA.h1;have h10:=hok.len M9;refine⟨_,rfl,_,_,rfl,hA.web.dv.dx,hA.ok,λH1 s1=>?_⟩;obtain⟨ta,ra,a1,a2,a3⟩:=id (hA.same s1).web;have hDX:DX K H1 (.ref sm) (.tuple (xs.map aC)):=(DV.tup (s1.tup hX) (cY.ints xs)).dx;refine⟨_,rfl,_,rfl,a,n,_,_,_,rfl,a1,hDX,hok.dB,λH2 s2=>?_⟩;have s12:=s1.trans s2;refine⟨_,rfl,sm,_,rfl,.inr (s12.tup hX),λ_=>⟨_,rfl,by omega,by rw[aD];omega,λl H3 s3 p1=>?_⟩⟩;rw[aD]at p1;obtain⟨rs,e1,v1⟩:=p1.ex;refine⟨l,rs,rfl,ja.of e1,λhz=>?_⟩;have ac:=v1.len;rw[aD]at ac;have jx:=s12.trans s3;generalize hR:rows tt (xs.length:Int) (xs.length:Int).toNat=R at *;have hR':∀p∈R,0<=p.1/\p.1<p.2/\p.2<(xs.length:Int):=λp hp=>by rw[<-hR,MJ]at hp;exact⟨hp.1,hp.2.2.1,hp.2.2.2.1⟩
 refine w6 (xs:=rs) (λi acc σ H'=>Same H3 H'/\acc.length<=i/\cY K H' acc ((R.take i).filter (λp=>M6 xs ts p.1 p.2)|>.map pairD)/\∃o1 o2,σ=[o1,o2,some (.ref a),some (.ref sm)]) ⟨Same.refl _,aP _,.nil,_,_,rfl⟩ (λi acc σ H' _ p=>p.1.seq (ja.of e1)) (λi acc σ H' hi p=>p.2.1) hz (λi x acc σ H' hx p=>?_) (λacc σ H' p=>?_)
 ·obtain⟨sm',hl,hd,o1,o2,rfl⟩:=p;obtain⟨t,hi,rfl,ht⟩:=qN v1 hx;have sA:=jx.trans sm';have hb:=hR' _ (yS hi);refine⟨t,_,rfl,sm'.tup ht,rfl,_,_,rfl,_,_,rfl,rfl,?_⟩;refine⟨_,rfl,_,rfl,_,rfl,sm,_,_,_,rfl,rfl,sA.tup hX,J8 hb.1 (by omega),_,rfl,_,rfl,sm,_,_,_,rfl,rfl,sA.tup hX,J8 (by omega) hb.2.2,?_⟩;refine⟨a,n,_,_,ts,rfl,(hA.same sA).web,λH5 s5=>⟨_,rfl,?_⟩⟩;rw[uh hi];refine nE (λc=>?_) (λc=>?_)
  ·refine⟨_,rfl,_,rfl,rV,λp hp=>?_⟩;have s6:=aR hp (.tup [.int (R[i]).1,.int (R[i]).2]);refine⟨sm'.trans (s5.trans s6),by rw[lN];show acc.length+1<=i+1;omega,?_,_,_,rfl⟩;rw[au (show M6 xs ts _ _=true from c),bR];exact(hd.same (s5.trans s6)).append (.cons (.tup (SqT.of aK) (.cons (.int _) (.cons (.int _) .nil))) .nil)
  ·refine⟨sm'.trans s5,by omega,?_,_,_,rfl⟩;rw[aq (show¬M6 xs ts _ _=true from c),xr];exact hd.same s5
 ·intro p1 hp1;obtain⟨sm',hl,hd,_⟩:=p;rw[ac,rE,<-hR,je]at hd;have s5:=aR hp1 (.lst acc);have sA:=jx.trans (sm'.trans s5);refine⟨_,rfl,sm,_,rfl,.inr (sA.tup hX),λ_=>⟨_,rfl,p1,_,rfl,.inl ⟨ja.of aK,λt ht=>?_⟩⟩⟩;have s6:=aR ht (.tup acc);refine⟨rV,λr hr'=>?_⟩;rw[aD];have s7:=aR hr' (.tup [.int (xs.length:Int),.ref t]);exact q r _ (sA.trans (s6.trans s7)) ⟨t,acc,SqT.of aK,SqT.of (s7 _ _ aK),hd.same (s5.trans (s6.trans s7))⟩
inductive jW(K:af)(vs:List V)(H:Hp)(Q:VK)(E_:XK):Prop
 |mk(a b:ag)(xs ys:ζ)(_:vs=[.ref a,.ref b])(_:SqT K H a (xs.map V.int))(_:SqT K H b (ys.map V.int))(_:∀r H',Same H H'->H' r=some (.tup ((xs.filter λo=> !decide (o∈ys)).map V.int))->Q (.ref r) H')
theorem CG{f:ag}{fd:χ}
  (F:pV K "without" "without" V5 f fd)(aJ:mg "tuple"=none):
  gx P w K mg base kG 1 f fd ["some","part"] (jW K):=by
 refine F.dD ["some","part"] λH Q hr h=>?_;obtain⟨a,b,xs,ys,rfl,hA,hB,q⟩:=h;refine⟨_,(aY (bK (pT Ss aJ (aj (pK ["place"] ["part"] [1] (EY (pv 0)) (pG 0) (Fb (gU (vY K hr.units) (pv 0) (pv 1) (by with_unfolding_all rfl))) (pv 0)) ak)))),?_⟩;refine⟨_,rfl,a,_,rfl,hA,λhz=>?_⟩;refine IV (xs:=xs.map V.int) (λk acc σ H'=>acc=((xs.take k).filter λo=> !decide (o∈ys)).map V.int/\Same H H'/\∃o,σ=[o,some (.ref b)]) ⟨rfl,Same.refl _,_,rfl⟩ (λk acc σ H' _ p=>p.2.1.tup hA) (λk acc σ H' hk p=>?_) hz (λk x acc σ H' hx pp=>?_) (λacc σ H' p=>?_)
 ·rw[p.1,aD];exact dH (vf _ _) (by rw[nR];exact u9 _ _)
 ·obtain⟨rfl,sm,o,rfl⟩:=pp;rw[dI]at hx;cases ex:xs[k]? with
  |none=>rw[ex]at hx;cases hx
  |some y=>
   rw[ex]at hx;cases hx;obtain⟨hk,ey⟩:=oG.mp ex;have e:=EG (p:=λo=> !decide (o∈ys)) hk;rw[ey]at e;refine⟨_,rfl,_,rfl,b,_,_,.int y,rfl,.inr (sm.tup hB),cY.ints ys,.int _,Fd ys,rfl,(by show 0<=60;decide),_,rfl,?_⟩;rw[Nk];refine nE (λc=>?_) (λc=>?_)
   ·exact⟨_,rfl,by rw[e,au c,bR];rfl,sm,_,rfl⟩
   ·exact⟨by rw[e,aq c,xr],sm,_,rfl⟩
 ·intro p1 hp1;obtain⟨rfl,sm,_⟩:=p;refine⟨p1,_,rfl,.inl ⟨ja.of aK,λl hl=>?_⟩⟩;exact q l _ (sm.trans ((aR hp1 _).trans (aR hl _))) (by rw[aK,aD,rE])
inductive oY(K:af)(vs:List V)(H:Hp)(Q:VK)(E_:XK):Prop
 |mk(p p':ag)(u u':Int)(v v':Nat)(_:vs=[.ref p,.ref p'])(_:SqT K H p [.int u,.int ((v:Nat):Int)])(_:SqT K H p' [.int u',.int ((v':Nat):Int)])(_:v<=39916800)(_:v'<=39916800)(_:Q (.bl (decide (u*(v':Int)<u'*(v:Int)))) H)
theorem Us{f:ag}{fd:χ}
  (F:pV K "is_less" "is_less" Ti f fd):
  gx P w K mg base kG 1 f fd ["one","other"] (oY K):=by
 refine F.dD ["one","other"] λH Q hr h=>?_;obtain⟨p,p1,u,u1,v,v1,rfl,h1,h2,b1,b2,q⟩:=h;refine⟨_,(aY (bK (uZ uk (dF qS (bw cH (pv 0) aL) (bw cH (pv 1) aL)) (dF qS (bw cH (pv 1) aL) (bw cH (pv 0) aL))))),?_⟩;exact⟨_,rfl,p,_,_,.int u,rfl,rfl,h1,rfl,_,rfl,p1,_,_,.int v1,rfl,rfl,h2,rfl,_,_,rfl,rfl,.inr ⟨by omega,by omega⟩,_,rfl,p1,_,_,.int u1,rfl,rfl,h2,rfl,_,rfl,p,_,_,.int v,rfl,rfl,h1,rfl,_,_,rfl,rfl,.inr ⟨by omega,by omega⟩,_,_,rfl,rfl,q⟩
end
theorem vL:∀k,(∀i,i<k->f i<=g i)->Sx.sm k f<=Sx.sm k g
 |0,_=>u5 _
 |k+1,h=>Int.add_le_add (vL k λi hi=>h i (by omega)) (h k (by omega))
theorem FR(hS:bH ss ts false n)(hS':bH ss' ts false n)(h:Sh n ss wl ov Z Y X)(h':Sh n ss' wl ov' Z' Y' X'):Z*(ov':Int)<=Z'*(ov:Int):=by
 have lig:∀k,k<ss'.length->(Sx.sm n λp=>if cC ss' k p=true then X p else 0)<=(ov:Int):=λk hk=>by
  have m:ss'[k]∈ss:=hS.1.mem_iff.mpr (hS'.1.mem_iff.mp (yS hk));obtain⟨j,hj,ej⟩:=Bs m;have e:=h.lig j hj;have:∀p,cC ss' k p=cC ss j p:=λp=>by
   unfold cC;rw[dY,dY,cU hk,cU hj,ej]
  simp only[this];exact e
 have a1:Z*(ov':Int)=Sx.sm n λp=>(ov':Int)*(jT wl p*X p):=by rw[Sx.cN,h.wor,Bo]
 have a2:(Sx.sm n λp=>(ov':Int)*(jT wl p*X p))<=Sx.sm n λp=>Sx.sm ss'.length λk=>X p*(if cC ss' k p=true then Y' k else 0):=by
  refine vL n λp hp=>?_;rw[Sx.cN];have:=Wf (h'.eno p hp) (h.xn p);have x:(ov':Int)*(jT wl p*X p)=X p*((ov':Int)*jT wl p):=by grind
  rw[x];exact this
 have a3:=Sx.uO (λp k=>X p*(if cC ss' k p=true then Y' k else 0)) ss'.length n;have a4:(Sx.sm ss'.length λk=>Sx.sm n λp=>X p*(if cC ss' k p=true then Y' k else 0))<=Sx.sm ss'.length λk=>(ov:Int)*Y' k:=by
  refine vL _ λk hk=>?_;have e:(Sx.sm n λp=>X p*(if cC ss' k p=true then Y' k else 0))=Sx.sm n λp=>Y' k*(if cC ss' k p=true then X p else 0):=Sx.bx n λp _=>by split<;>grind
  rw[e,Sx.cN];have:=Wf (lig k hk) (h'.yn k);rw[Bo (ov:Int)];exact this
 have a5:(Sx.sm ss'.length λk=>(ov:Int)*Y' k)=Z'*(ov:Int):=by rw[Sx.cN,h'.tot,Bo]
 rw[a1];refine Xg a2 ?_;rw[a3];refine Xg a4 ?_;rw[a5];exact u5 _
theorem Gm(hS:bH ss ts false n)(hS':bH ss' ts false n)(h:Sh n ss wl ov Z Y X)(h':Sh n ss' wl ov' Z' Y' X'):aH Z ov=aH Z' ov':=by
 have e:=JY (FR hS hS' h h') (FR hS' hS h' h);have l:=Fp Z h.pos;have l':=Fp Z' h'.pos;have p1:=h.pos;have p2:=h'.pos;have e1:=l.eq;have e2:=l'.eq;obtain⟨x,y⟩:=sO l.pos l.cop l'.cop (by
  refine Xr (a:=(ov:Int)*(ov':Int)) ?_ ?_
  ·have:=De (a:=(ov:Int)) (b:=(ov':Int)) (by omega) (by omega);omega
  ·generalize (aH Z ov).1=u at *;generalize (aH Z ov).2=v at *;generalize (aH Z' ov').1=u' at *;generalize (aH Z' ov').2=v' at *;have x1:u*(v':Int)*((ov:Int)*(ov':Int))=(u*(ov:Int))*((v':Int)*(ov':Int)):=by grind
   have x2:u'*(v:Int)*((ov:Int)*(ov':Int))=(u'*(ov':Int))*((v:Int)*(ov:Int)):=by grind
   rw[x1,x2,e1,e2];have x3:Z*(v:Int)*((v':Int)*(ov':Int))=(Z*(ov':Int))*((v:Int)*(v':Int)):=by grind
   rw[x3,e];grind)
 exact ES x y
theorem Mt(hS:bH ss ts false n)(h:Sh n ss wl ov Z Y X)(hk:m7 ts false n xs):
  (Sx.sm n λp=>if decide (((p:Nat):Int)∈xs)=true then X p else 0)<=(ov:Int):=by
 obtain⟨t,ht,hx⟩:=wF hk;obtain⟨k,hk',rfl⟩:=Bs (hS.1.mem_iff.mpr ht);refine Xg (vL n λp hp=>?_) (h.lig k hk');have hxn:=h.xn p;by_cases c:decide (((p:Nat):Int)∈xs)=true
 ·rw[au c,au]
  ·exact u5 _
  ·unfold cC;rw[dY,cU hk'];exact cI (hx _ (lA c))
 ·rw[aq c];split
  ·exact hxn
  ·exact u5 _
theorem RB(φ:Nat->Nat)(M8:∀i,aQ ts i i=false)(hom:∀i j:Nat,i<n'->j<n'->aQ ts' i j=true->aQ ts (φ i) (φ j)=true)(hs:m7 ts false n s):m7 ts' false n' ((qi n').filter λq=>decide (((φ q.toNat:Nat):Int)∈s)):=by
 have mu:∀x∈((qi n').filter λq=>decide (((φ q.toNat:Nat):Int)∈s)),(0<=x/\x<(n':Int))/\((φ x.toNat:Nat):Int)∈s:=λx hx=>by
  obtain⟨h1,h2⟩:=iU.mp hx;have:=(gG (n':Int)).lt x h1;exact⟨this,lA h2⟩
 refine⟨(gG (n':Int)).Td.filter _,λx hx=>(mu x hx).1,λx hx y hy hne=>?_⟩;obtain⟨⟨x0,x1⟩,mx⟩:=mu x hx;obtain⟨⟨y0,y1⟩,my⟩:=mu y hy;cases c:aQ ts' x y with
 |false=>rfl
 |true=>
  have c':aQ ts' ((x.toNat:Nat):Int) ((y.toNat:Nat):Int)=true:=by rw[Wc x0,Wc y0];exact c
  have t:=hom x.toNat y.toNat (by omega) (by omega) c';by_cases e:((φ x.toNat:Nat):Int)=((φ y.toNat:Nat):Int)
  ·rw[e,M8]at t;cases t
  ·have:=hs.all _ mx _ my e;rw[t]at this;cases this
theorem TF(φ:Nat->Nat)(hφ:∀q,q<n'->φ q<n)(M8:∀i,aQ ts i i=false)(hom:∀i j:Nat,i<n'->j<n'->aQ ts' i j=true->aQ ts (φ i) (φ j)=true)(hS:bH ss ts false n)(hS':bH ss' ts' false n')(h:Sh n ss (iG n) ov Z Y X)(h':Sh n' ss' (iG n') ov' Z' Y' X'):Z'*(ov:Int)<=Z*(ov':Int):=by
 have a1:Z'*(ov:Int)=Sx.sm n' λq=>(ov:Int)*(jT (iG n') q*X' q):=by rw[Sx.cN,h'.wor,Bo]
 have a2:(Sx.sm n' λq=>(ov:Int)*(jT (iG n') q*X' q))<=Sx.sm n' λq=>Sx.sm ss.length λk=>X' q*(if cC ss k (φ q)=true then Y k else 0):=by
  refine vL n' λq hq=>?_;rw[Sx.cN,yU hq,I9];have:=Wf (h.eno (φ q) (hφ q hq)) (h'.xn q);rw[yU (hφ q hq),FM]at this;rw[Bo];exact this
 have a3:=Sx.uO (λq k=>X' q*(if cC ss k (φ q)=true then Y k else 0)) ss.length n';have a4:(Sx.sm ss.length λk=>Sx.sm n' λq=>X' q*(if cC ss k (φ q)=true then Y k else 0))<=Sx.sm ss.length λk=>(ov':Int)*Y k:=by
  refine vL _ λk hk=>?_;have e:(Sx.sm n' λq=>X' q*(if cC ss k (φ q)=true then Y k else 0))=Sx.sm n' λq=>Y k*(if cC ss k (φ q)=true then X' q else 0):=Sx.bx n' λq _=>by split<;>grind
  rw[e,Sx.cN];have sk:m7 ts false n (ss.getD k []):=uQ hS (by rw[dY,cU hk];exact yS hk);have al:=Mt hS' h' (RB φ M8 hom sk);have e2:(Sx.sm n' λq=>if cC ss k (φ q)=true then X' q else 0)=Sx.sm n' λp=>if decide (((p:Nat):Int)∈(qi n').filter λq=>decide (((φ q.toNat:Nat):Int)∈ss.getD k []))=true then X' p else 0:=by
   refine Sx.bx n' λq hq=>?_;have:decide (((q:Nat):Int)∈(qi n').filter λq=>decide (((φ q.toNat:Nat):Int)∈ss.getD k []))=cC ss k (φ q):=by
    unfold cC;apply decide_eq_decide.mpr;rw[iU];refine⟨λz=>lA z.2,λz=>⟨?_,cI z⟩⟩;unfold qi;exact jP.mpr ⟨q,nu.mpr hq,rfl⟩
   rw[this]
  rw[e2];have:=Wf al (h.yn k);rw[Bo (ov':Int)];exact this
 have a5:(Sx.sm ss.length λk=>(ov':Int)*Y k)=Z*(ov':Int):=by rw[Sx.cN,h.tot,Bo]
 rw[a1];refine Xg a2 ?_;rw[a3];refine Xg a4 ?_;rw[a5];exact u5 _
noncomputable def jL(n:Int)(ts:L0)(f:Int×Nat):Prop:=∃(ss:List ζ) (ov:Nat) (Z:Int) (Y X:Nat->Int),bH ss ts false n.toNat/\Sh n.toNat ss (iG n.toNat) ov Z Y X/\f=aH Z ov
theorem jL.one(h:jL n ts f)(h':jL n ts g):f=g:=by
 obtain⟨ss,ov,Z,Y,X,a,b,rfl⟩:=h;obtain⟨ss',ov',Z',Y',X',a',b',rfl⟩:=h';exact Gm a a' b b'
noncomputable def Vb(f g:Int×Nat):Prop:=f.1*(g.2:Int)<=g.1*(f.2:Int)
structure OP(f:Int×Nat):Prop where
 pos:0<f.2
 cop:az f.1.natAbs f.2=1
 nn:0<=f.1
 big:f.2<=39916800
theorem Vb.anti(h:Vb f g)(h':Vb g f)(a:OP f)(b:OP g):f=g:=by
 obtain⟨x,y⟩:=sO a.pos a.cop b.cop (JY h h');exact ES x y
theorem jL.W8(h:jL n ts f):OP f:=by
 obtain⟨ss,ov,Z,Y,X,a,b,rfl⟩:=h;have l:=Fp Z b.pos;refine⟨l.pos,l.cop,l.nn ?_,dH (MI _ _) b.big⟩;rw[<-b.tot];exact Sx.yg _ λk _=>b.yn k
theorem XD(φ:Nat->Nat)(hφ:∀q,q<n'.toNat->φ q<n.toNat)(M8:∀i,aQ ts i i=false)(hom:∀i j:Nat,i<n'.toNat->j<n'.toNat->aQ ts' i j=true->aQ ts (φ i) (φ j)=true)(h:jL n ts f)(h':jL n' ts' f'):Vb f' f:=by
 obtain⟨ss,ov,Z,Y,X,a,b,rfl⟩:=h;obtain⟨ss',ov',Z',Y',X',a',b',rfl⟩:=h';have k:=TF φ hφ M8 hom a a' b b';have l:=Fp Z b.pos;have l':=Fp Z' b'.pos;have p1:=b.pos;have p2:=b'.pos;have e1:=l.eq;have e2:=l'.eq;have v1:=l.pos;have v2:=l'.pos;unfold Vb;generalize (aH Z ov).1=u at *;generalize (aH Z ov).2=v at *;generalize (aH Z' ov').1=u' at *;generalize (aH Z' ov').2=v' at *;refine Md (a:=(ov:Int)*(ov':Int)) ?_ (De (by omega) (by omega));have x1:u'*(v:Int)*((ov:Int)*(ov':Int))=(u'*(ov':Int))*((v:Int)*(ov:Int)):=by grind
 have x2:u*(v':Int)*((ov:Int)*(ov':Int))=(u*(ov:Int))*((v':Int)*(ov':Int)):=by grind
 rw[x1,x2,e1,e2];have x3:Z'*(v':Int)*((v:Int)*(ov:Int))=(Z'*(ov:Int))*((v:Int)*(v':Int)):=by grind
 have x4:Z*(v:Int)*((v':Int)*(ov':Int))=(Z*(ov':Int))*((v:Int)*(v':Int)):=by grind
 rw[x3,x4];exact Mm k (Br (by omega) (by omega))
noncomputable def mW(xs:ζ)(ts:L0):L0:=rows (M6 xs ts) (xs.length:Int) (xs.length:Int).toNat
theorem VN(xs)(ts)(i):aQ (mW xs ts) i i=false:=by
 unfold aQ mW;have:¬(i,i)∈rows (M6 xs ts) (xs.length:Int) (xs.length:Int).toNat:=λh=>by
  rw[MJ]at h;have:i<i:=h.2.2.1;omega
 rw[gY this];rfl
theorem ZP(xs)(ts)(h:xs.length<=10):bJ (xs.length:Int) (mW xs ts)/\yJ (xs.length:Int) (mW xs ts):=by
 refine gW (i:=(xs.length:Int).toNat) (by omega) (by omega) ?_;unfold mW;rw[<-je];exact Xn
theorem CL{xs:ζ}(h:i<xs.length):xs.getD i 0∈xs:=by
 rw[dY,cU h];exact yS h
theorem Wt{xs:ζ}(hs:xs.Pairwise (· < ·))(hj:j<xs.length)(hij:i<j):xs.getD i 0<xs.getD j 0:=by
 rw[dY,dY,cU hj,cU (show i<xs.length by omega)];exact BK.mp hs i j (by omega) hj hij
theorem Rq(hx:cT n xs)(hy:cT n ys)(sub:∀p∈ys,p∈xs)(hf:jL (xs.length:Int) (mW xs ts) f)(hg:jL (ys.length:Int) (mW ys ts) g):Vb g f:=by
 have ix:∀q,q<ys.length->xs.idxOf (ys.getD q 0)<xs.length/\xs.getD (xs.idxOf (ys.getD q 0)) 0=ys.getD q 0:=λq hq=>by
  have m:=sub _ (CL hq);have l:=List.idxOf_lt_length_of_mem m;refine⟨l,?_⟩;rw[dY,cU l];exact List.getElem_idxOf l
 have key:∀i j:Nat,((i:Int),(j:Int))∈mW ys ts->(((xs.idxOf (ys.getD i 0):Nat):Int),((xs.idxOf (ys.getD j 0):Nat):Int))∈mW xs ts:=λi j h=>by
  unfold mW at h⊢;rw[MJ]at h⊢;obtain⟨_,_,h3,h4,h5⟩:=h;have h3':(i:Int)<(j:Int):=h3;have h4':(j:Int)<(ys.length:Int):=h4;obtain⟨l1,e1⟩:=ix i (by omega);obtain⟨l2,e2⟩:=ix j (by omega);have lt:=Wt hy.Td (i:=i) (j:=j) (by omega) (by omega);have lx:xs.idxOf (ys.getD i 0)<xs.idxOf (ys.getD j 0):=by
   refine Nat.lt_of_not_le λz=>?_;rcases Nat.eq_or_lt_of_le z with z|z
   ·rw[z,e1]at e2;omega
   ·have:=Wt hx.Td l1 z;omega
  refine⟨Int.natCast_nonneg _,?_,?_,?_,?_⟩
  ·show((xs.idxOf (ys.getD i 0):Nat):Int)<(((xs.length:Int).toNat:Nat):Int);omega
  ·show((xs.idxOf (ys.getD i 0):Nat):Int)<((xs.idxOf (ys.getD j 0):Nat):Int);omega
  ·show((xs.idxOf (ys.getD j 0):Nat):Int)<(xs.length:Int);omega
  ·show M6 xs ts ((xs.idxOf (ys.getD i 0):Nat):Int) ((xs.idxOf (ys.getD j 0):Nat):Int)=true;have h5':M6 ys ts ((i:Nat):Int) ((j:Nat):Int)=true:=h5;unfold M6 at h5'⊢;rw[SM,SM]at h5'⊢;rw[e1,e2];exact h5'
 refine XD (λq=>xs.idxOf (ys.getD q 0)) (λq hq=>?_) (VN xs ts) (λi j hi hj t=>?_) hf hg
 ·rw[SM]at hq⊢;exact(ix q hq).1
 ·unfold aQ at t⊢;rw[Wo]at t⊢;rcases t with t|t
  ·exact .inl (cI (key i j (lA t)))
  ·exact .inr (cI (key j i (lA t)))
theorem VP(hn:0<=n)(hp:bJ n ts)(hs:ts.Pairwise lO):mW (qi n.toNat) ts=ts:=by
 have e:((qi n.toNat).length:Int)=n:=by rw[qu];omega
 unfold mW;rw[e];exact KJ hn hp hs
noncomputable def At(ts:L0)(xs:ζ):Prop:=∃f,jL (xs.length:Int) (mW xs ts) f
open Classical in
noncomputable def vl(ts:L0)(xs:ζ):Int×Nat:=if h:At ts xs then h.choose else(0,1)
theorem qt(h:At ts xs):jL (xs.length:Int) (mW xs ts) (vl ts xs):=by
 unfold vl;rw[dif_pos h];exact h.choose_spec
theorem J9(h:jL (xs.length:Int) (mW xs ts) f):At ts xs/\f=vl ts xs:=⟨⟨f,h⟩,h.one (qt ⟨f,h⟩)⟩
theorem NK(hx:cT n xs)(hy:cT n ys)(sub:∀p∈ys,p∈xs)(a:At ts xs)(b:At ts ys):Vb (vl ts ys) (vl ts xs):=Rq hx hy sub (qt a) (qt b)
noncomputable def uB(xs:ζ)(p:Int):ζ:=xs.filter λo=> !decide (o=p)
theorem Ro(xs)(p):(xs.filter λo=> !decide (o∈[p]))=uB xs p:=by
 unfold uB;congr 1;funext o;rw[decide_eq_decide.mpr (jw (a:=o) (b:=p))]
theorem p7(h:cT n xs)(p):cT n (uB xs p):=⟨h.Td.filter _,λx hx=>h.lt x (iU.mp hx).1⟩
theorem nO:x∈uB xs p↔x∈xs/\x≠p:=by
 unfold uB;rw[iU];simp
noncomputable def WW(f g:Int×Nat):Bool:=decide (f.1*(g.2:Int)<g.1*(f.2:Int))
noncomputable def WQ(ts:L0)(xs:ζ)(p:Int):Bool:= !decide (vl ts (uB xs p)=vl ts xs)
theorem U8(hx:cT n xs)(a:At ts xs)(b:At ts (uB xs p)):WW (vl ts (uB xs p)) (vl ts xs)=WQ ts xs p:=by
 have l:=NK hx (p7 hx p) (λx hx=>(nO.mp hx).1) a b;unfold WW WQ;by_cases e:vl ts (uB xs p)=vl ts xs
 ·rw[e,cI rfl];exact gY (IZ _)
 ·rw[gY e];refine cI (Int.lt_iff_le_and_ne.mpr ⟨l,λz=>e ?_⟩);exact Vb.anti l (EH z.symm) (qt b).W8 (qt a).W8
noncomputable def need(ts:L0)(xs:ζ):ζ:=xs.filter (WQ ts xs)
structure IC(ts:L0)(xs:ζ):Prop where
 all:At ts xs
 each:∀p∈xs,At ts (uB xs p)
structure A4(n:Int)(ts:L0)(told:ζ):Prop where
 ok:cT n told
 aA:At ts (qi n.toNat)
 aT:At ts told
 eq:vl ts told=vl ts (qi n.toNat)
 why:∀p∈told,∃S,cT n S/\(∀x∈told,x∈S)/\At ts (uB S p)/\vl ts (uB S p)≠vl ts (qi n.toNat)
theorem Qt:x∈qi n.toNat↔0<=x/\x<n:=by
 refine⟨λh=>(gG n).lt x h,λh=>?_⟩;unfold qi;exact jP.mpr ⟨x.toNat,nu.mpr (by omega),by omega⟩
theorem A4.need{n:Int}{ts:L0}{told:ζ}(h:A4 n ts told)(a:IC ts told):need ts told=told:=by
 refine Wb.mpr λp hp=>?_;unfold WQ;have:vl ts (uB told p)≠vl ts told:=λe=>by
  obtain⟨S,hS,sub,aS,ne⟩:=h.why p hp;have l1:=NK (p7 hS p) (p7 h.ok p) (λx hx=>nO.mpr ⟨sub x (nO.mp hx).1,(nO.mp hx).2⟩) aS (a.each p hp);have l2:=NK (gG n) (p7 hS p) (λx hx=>Qt.mpr ((p7 hS p).lt x hx)) h.aA aS;rw[e,h.eq]at l1;exact ne (Vb.anti l2 l1 (qt aS).W8 (qt h.aA).W8)
 rw[gY this];rfl
noncomputable def qM(n:Int)(ts:L0)(xs:ζ):Bool:=lQ.dB n (.tuple (xs.map aC))&&(decide (vl ts xs=vl ts (qi n.toNat))&&decide (Hs.need ts xs=xs))
theorem A4.part(h:A4 n ts told)(a:IC ts told):qM n ts told=true:=by
 unfold qM;rw[h.ok.dB,cI h.eq,cI (h.need a)];rfl
section
variable{P:υ}{w:ψ}{K:af}{mg:D0}{base:bn}
theorem yG:∀l:ζ,ir (l.map aC)<=1
 |[]=>by decide
 |x::l=>by
  have:=yG l;show max _ (ir (l.map aC))<=1;exact Nat.max_le.mpr ⟨by show 0<=1;decide,this⟩
theorem sW(xs ys:ζ):aE (.tuple (xs.map aC)) (.tuple (ys.map aC))=decide (xs=ys):=by
 have:∀(xs ys:ζ),gN (xs.map aC) (ys.map aC)=decide (xs=ys):=by
  intro xs
  induction xs with
  |nil=>intro ys;cases ys<;>simp[gN]
  |cons x xs ih=>intro ys;cases ys with
   |nil=>simp[gN]
   |cons y ys=>
    have e:(x==y)=decide (x=y):=by rw[Fx];simp
    simp[gN,aE,ih,e]
 simp[aE,this]
theorem um(l m:ζ):min (i6 (l.map aC)).depth (i6 (m.map aC)).depth<=64:=by
 have:=yG l;have e:(i6 (l.map aC)).depth=ir (l.map aC)+1:=rfl;rw[e];omega
theorem pZ(f g):aE (HF f) (HF g)=decide (f=g):=by
 have h:=sW [f.1,((f.2:Nat):Int)] [g.1,((g.2:Nat):Int)];refine(show aE (HF f) (HF g)=_ from h).trans (decide_eq_decide.mpr ⟨λe=>?_,λe=>by rw[e]⟩);obtain⟨e1,e2⟩:=List.cons.inj e;obtain⟨e3,_⟩:=List.cons.inj e2;exact ES e1 (by omega)
theorem BW(n):dh n=(qi n).map V.int:=by unfold dh qi;rw[Kq];rfl
theorem HS(h:lJ K H r (xs.length:Int) (mW xs ts))(hx:cT n xs)(hn:n<=10):aZ K H r (xs.length:Int) (mW xs ts):=by
 have l:=hx.len hn;have c:=ZP xs ts l;exact⟨h,by omega,by omega,c.1,c.2⟩
theorem X6(h:lQ.dB n (.tuple (xs.map aC))=true):cT n xs:=by
 unfold lQ.dB at h;rw[vo]at h;obtain⟨h1,h2⟩:=h;rw[Sy,lM]at h1;rw[Kq]at h2;have e:xs.map (intD∘aC)=xs:=(Xm λx _=>rfl).trans (lp xs);rw[e]at h2;refine⟨?_,λx hx=>?_⟩
 ·unfold fJ at h2;rw[lM]at h2;have g:∀j,(hj:j<xs.length)->xs.getD j 0=xs[j]:=λj hj=>by rw[dY,cU hj];rfl
  have step:∀k,(hk:k+1<xs.length)->xs[k]<xs[k+1]:=λk hk=>by
   have:=lA (h2 k (nu.mpr (by omega)));rw[g k (by omega),g (k+1) hk]at this;exact this
  have far:∀d i,(h:i+d+1<xs.length)->xs[i]<xs[i+d+1]:=λd=>by
   induction d with
   |zero=>exactλi h=>step i h
   |succ d ih=>exactλi h=>Mn (ih i (by omega)) (step (i+d+1) h)
  refine BK.mpr λi j hi hj hij=>?_;have:=far (j-i-1) i (by omega);have e:i+(j-i-1)+1=j:=by omega
  simp only[e]at this;exact this
 ·have:=h1 x hx;have this:(decide (0<=x)&&decide (x<n))=true:=this;rw[vo]at this;exact⟨lA this.1,lA this.2⟩
inductive Jm(K:af)(vs:List V)(H:Hp)(Q:VK)(E_:XK):Prop
 |mk(a sm:ag)(n:Int)(ts:L0)(xs:ζ)(p:Int)(_:vs=[.ref a,.ref sm,.int p])(_:aZ K H a n ts)(_:SqT K H sm (xs.map V.int))(_:cT n xs)(_:∀va H',Same H H'->rm K H' va (vl ts (uB xs p))->At ts (uB xs p)->Q (.ref va) H')
theorem Yt{f:ag}{fd:χ}
  (F:pV K "value_without" "value_without" IE f fd)(D1:Dp P w K mg base 10 "value" j5 ["web"] (jX K))(D2:Dp P w K mg base 8 "cut_down" iy ["web","some"] (BZ K))(D3:Dp P w K mg base 1 "without" V5 ["some","part"] (jW K)):
  gx P w K mg base kG 11 f fd ["web","some","place"] (Jm K):=by
 refine F.dD ["web","some","place"] λH Q hr h=>?_;obtain⟨a,sm,n,ts,xs,p,rfl,hA,hX,hok,qq⟩:=h;refine⟨_,(aY (bK (pd D1 hr (aj (pd D2 hr (aj (pv 0) (aj (pd D3 hr (aj (pv 1) (aj (ou (aj (pv 2) ak)) ak))) ak))) ak)))),?_⟩;refine⟨_,rfl,_,rfl,_,rfl,rV,λp1 hp1=>?_⟩;have s1:=aR hp1 (.tup [.int p]);refine⟨sm,p1,xs,[p],rfl,s1.tup hX,SqT.of aK,λr H2 s2 h2=>?_⟩;rw[Ro]at h2;have dk:=p7 hok p;refine⟨a,r,n,ts,_,rfl,hA.same (s1.trans s2),SqT.of h2,dk,λr3 H3 s3 W3=>?_⟩;refine⟨r3,_,_,rfl,HS W3 dk hA.h1,λva ss ov Z Y X H4 s4 e4 eY hSh=>?_⟩;obtain⟨aX,ev⟩:=J9 (xs:=uB xs p) (ts:=ts) (f:=aH Z ov) ⟨ss,ov,Z,Y,X,eY,hSh,rfl⟩;rw[ev]at e4;exact qq va H4 (s1.trans (s2.trans (s3.trans s4))) e4 aX
theorem Rb{xs:ζ}(ex:xs[i]? =some y):(xs.take (i+1)).filter p=(xs.take i).filter p++(if p y=true then[y]else[]):=by
 rw[rF,ex,Fe];congr 1;show ln p [y]=_;rw[Ks];rfl
inductive Js(K:af)(vs:List V)(H:Hp)(Q:VK)(E_:XK):Prop
 |mk(a sm:ag)(n:Int)(ts:L0)(xs:ζ)(_:vs=[.ref a,.ref sm])(_:aZ K H a n ts)(_:SqT K H sm (xs.map V.int))(_:cT n xs)(_:∀r H',Same H H'->H' r=some (.tup ((Hs.need ts xs).map V.int))->IC ts xs->Q (.ref r) H')
theorem YH{f:ag}{fd:χ}
  (F:pV K "needed_in" "needed_in" iZ f fd)(D1:Dp P w K mg base 10 "value" j5 ["web"] (jX K))(D2:Dp P w K mg base 8 "cut_down" iy ["web","some"] (BZ K))(D3:Dp P w K mg base 1 "is_less" Ti ["one","other"] (oY K))(D4:Dp P w K mg base 11 "value_without" IE ["web","some","place"] (Jm K))(aJ:mg "tuple"=none):
  gx P w K mg base kG 12 f fd ["web","some"] (Js K):=by
 refine F.dD ["web","some","held"] λH Q hr h=>?_;obtain⟨a,sm,n,ts,xs,rfl,hA,hX,hok,qq⟩:=h;refine eX ?_;intro Y;refine⟨_,(aN (pS 2 (pd D1 hr (aj (pd D2 hr (aj (pv 0) (aj (pv 1) ak))) ak))) (aY (bK (pT Ss aJ (aj (pK ["place"] ["web","some","held"] [0,1,2] (EY (pv 1)) (pG 0) (Fb (iT (pd D3 hr (aj (pd D4 hr (aj (pv 1) (aj (pv 2) (aj (pv 0) ak)))) (aj (pv 3) ak))))) (pv 0)) ak))))),?_⟩;refine JV ?_;intro c2;refine⟨_,rfl,_,rfl,a,sm,n,ts,xs,rfl,hA,hX,hok,λr1 H1 s1 W1=>?_⟩;refine⟨r1,_,_,rfl,HS W1 hok hA.h1,λva ss ov Z Y X H2 s2 e2 eY hSh=>?_⟩;obtain⟨aX,ev⟩:=J9 (xs:=xs) (ts:=ts) (f:=aH Z ov) ⟨ss,ov,Z,Y,X,eY,hSh,rfl⟩;rw[ev]at e2;have s12:=s1.trans s2;refine⟨_,rfl,sm,_,rfl,s12.tup hX,λhz=>?_⟩;let xV:Nat->List V->St->Hp->Prop:=λi acc σ H'=>acc=((xs.take i).filter (WQ ts xs)).map V.int/\Same H2 H'/\(∀p∈xs.take i,At ts (uB xs p))/\∃o,σ=[o,some (.ref a),some (.ref sm),some (.ref va)];refine IV (xs:=xs.map V.int) xV ⟨rfl,Same.refl _,λp hp=>(nomatch hp),_,rfl⟩ (λi acc σ H' _ p=>(s12.trans p.2.1).tup hX) (λi acc σ H' hi p=>?_) hz (λi x acc σ H' hx p=>?_) (λacc σ H' p=>?_)
 ·rw[p.1,aD];exact dH (vf _ _) (by rw[nR];exact u9 _ _)
 ·obtain⟨rfl,sm',hat,o,rfl⟩:=p;rw[dI]at hx;cases ex:xs[i]? with
  |none=>rw[ex]at hx;cases hx
  |some y=>
   rw[ex]at hx;cases hx;have s2':=s12.trans sm';refine⟨_,rfl,_,rfl,_,rfl,a,sm,n,ts,xs,y,rfl,hA.same s2',s2'.tup hX,hok,λvb H5 s5 e5 a5=>?_⟩;refine⟨_,rfl,vb,va,_,_,_,_,rfl,e5,(sm'.trans s5).tup e2,(qt a5).W8.big,(qt aX).W8.big,_,rfl,?_⟩;have el:decide ((vl ts (uB xs y)).1*((vl ts xs).2:Int)<(vl ts xs).1*((vl ts (uB xs y)).2:Int))=WQ ts xs y:=U8 hok aX a5;rw[el];have go:=Rb (p:=WQ ts xs) ex;have hat':∀p∈xs.take (i+1),At ts (uB xs p):=λp hp=>by
    rw[rF,ex]at hp;rcases oE.mp hp with z|z
    ·exact hat p z
    ·have:p=y:=by simpa using z
     rw[this];exact a5
   refine nE (λc=>?_) (λc=>?_)
   ·exact⟨_,rfl,by rw[go,au c,bR];rfl,sm'.trans s5,hat',_,rfl⟩
   ·exact⟨by rw[go,aq c,xr],sm'.trans s5,hat',_,rfl⟩
 ·intro p1 hp1;obtain⟨rfl,sm',hat,_⟩:=p;rw[aD,rE]at *;have t1:=aR hp1 (.lst ((xs.filter (WQ ts xs)).map V.int));refine⟨p1,_,rfl,.inl ⟨ja.of aK,λl hl=>?_⟩⟩;exact qq l _ (s12.trans (sm'.trans (t1.trans (aR hl _)))) aK ⟨aX,hat⟩
inductive Oi(K:af)(vs:List V)(H:Hp)(Q:VK)(E_:XK):Prop
 |mk(a:ag)(n:Int)(ts:L0)(_:vs=[.ref a])(_:aZ K H a n ts)(_:∀r H',Same H H'->H' r=some (.tup ((Hs.need ts (qi n.toNat)).map V.int))->IC ts (qi n.toNat)->Q (.ref r) H')
theorem YJ{f:ag}{fd:χ}
  (F:pV K "needed" "needed" vQ f fd)(D1:Dp P w K mg base 7 "need_web" yQ ["thing"] (aU K))(D2:Dp P w K mg base 12 "needed_in" iZ ["web","some"] (Js K))(aJ:mg "tuple"=none)(aF:mg "range"=none):
  gx P w K mg base kG 13 f fd ["web"] (Oi K):=by
 refine F.dD ["web"] λH Q hr h=>?_;obtain⟨a,n,ts,rfl,hA,qq⟩:=h;refine eX ?_;intro Y;refine⟨_,(aN (oR (pd D1 hr (aj (pv 0) ak))) (aY (bK (pd D2 hr (aj (pv 0) (aj (fX rfl rfl aJ rfl aF (aj (bw cH (pv 0) aL) ak)) ak)))))),?_⟩;refine JV ?_;intro c2;have h0:=hA.h0;have h10:=hA.h1;refine⟨_,rfl,.ref a,_,rfl,hA.web.dv.dx,hA.ok,λH1 s1=>?_⟩;obtain⟨Jh,Jw,w1,w2,w3⟩:=id (hA.same s1).web;refine⟨_,rfl,_,rfl,a,_,_,.int n,rfl,rfl,w1,rfl,n,rfl,h0,by omega,λl hl=>?_⟩;rw[BW];have s2:=aR hl (.tup ((qi n.toNat).map V.int));exact⟨a,l,n,ts,qi n.toNat,rfl,hA.same (s1.trans s2),SqT.of aK,gG n,λr H3 s3 h3 a3=>qq r H3 (s1.trans (s2.trans s3)) h3 a3⟩
theorem Jf(hn:0<=n)(hp:bJ n ts)(hs:ts.Pairwise lO)(h:jL n ts f):At ts (qi n.toNat)/\f=vl ts (qi n.toNat):=by
 apply J9;rw[VP hn hp hs,qu,show((n.toNat:Nat):Int)=n by omega];exact h
inductive Ge(K:af)(vs:List V)(H:Hp)(Q:VK)(E_:XK):Prop
 |mk(a sm:ag)(n:Int)(ts:L0)(xs:ζ)(_:vs=[.ref a,.ref sm])(_:aZ K H a n ts)(_:SqT K H sm (xs.map V.int))(_:∀H',Same H H'->(cT n xs->vl ts xs=vl ts (qi n.toNat)->IC ts xs)->Q (.bl (qM n ts xs)) H')
theorem Ut{f:ag}{fd:χ}
  (F:pV K "is_part" "is_part" rQ f fd)(D1:Dp P w K mg base 7 "need_web" yQ ["thing"] (aU K))(D2:Dp P w K mg base 10 "value" j5 ["web"] (jX K))(D3:Dp P w K mg base 8 "cut_down" iy ["web","some"] (BZ K))(D4:Dp P w K mg base 4 "is_set" fV ["n","thing"] (tX K))(D5:Dp P w K mg base 12 "needed_in" iZ ["web","some"] (Js K)):
  gx P w K mg base kG 13 f fd ["web","some"] (Ge K):=by
 refine F.dD ["web","some"] λH Q hr h=>?_;obtain⟨a,sm,n,ts,xs,rfl,hA,hX,qq⟩:=h;refine eX ?_;intro Y;refine⟨_,(aN (oR (pd D1 hr (aj (pv 0) ak))) (aN (iK (PW.pt (rH (jy (iT (pd D4 hr (aj (bw cH (pv 0) aL) (aj (pv 1) ak))))) (uY (gU (su hr.units) (pd D2 hr (aj (pd D3 hr (aj (pv 0) (aj (pv 1) ak))) ak)) (pd D2 hr (aj (pv 0) ak)))))) (aY (bK jl)) iM) (aY (bK (uZ (zU hr.units) (pd D5 hr (aj (pv 0) (aj (pv 1) ak))) (pv 1)))))),?_⟩;refine Dw ?_;intro c3 c2;have h0:=hA.h0;have h10:=hA.h1;refine⟨_,rfl,.ref a,_,rfl,hA.web.dv.dx,hA.ok,λH1 s1=>?_⟩;obtain⟨Jh,Jw,w1,w2,w3⟩:=id (hA.same s1).web;have hDX:DX K H1 (.ref sm) (.tuple (xs.map aC)):=(DV.tup (s1.tup hX) (cY.ints xs)).dx;refine⟨_,rfl,a,_,_,.int n,rfl,rfl,w1,rfl,_,rfl,n,.ref sm,_,rfl,hDX,λH2 s2=>⟨_,rfl,?_⟩⟩;have s12:=s1.trans s2;cases hd:lQ.dB n (.tuple (xs.map aC))with
 |false=>
  refine si (si ?_);have e:qM n ts xs=false:=by unfold qM;rw[hd];rfl
  rw[<-e];exact qq H2 s12 (λok _=>by rw[ok.dB]at hd;cases hd)
 |true=>
  have hok:=X6 hd;apply kL;refine⟨_,rfl,_,rfl,a,sm,n,ts,xs,rfl,hA.same s12,s12.tup hX,hok,λr3 H3 s3 W3=>?_⟩;refine⟨r3,_,_,rfl,HS W3 hok h10,λva ss ov Z Y X H4 s4 e4 eY hSh=>?_⟩;obtain⟨aX,ev⟩:=J9 (xs:=xs) (ts:=ts) (f:=aH Z ov) ⟨ss,ov,Z,Y,X,eY,hSh,rfl⟩;rw[ev]at e4;have zP:=s12.trans (s3.trans s4);refine⟨_,rfl,a,n,ts,rfl,hA.same zP,λvb ss' ov' Z' Y' X' H5 s5 e5 Zn abM=>?_⟩;obtain⟨aA,ev'⟩:=Jf h0 hA.pk hA.Td (f:=aH Z' ov') ⟨ss',ov',Z',Y',X',Zn,abM,rfl⟩;rw[ev']at e5;refine⟨_,_,rm.dv (s5.tup e4),rm.dv e5,rfl,rfl,(by show min 1 1<=64;decide),_,rfl,?_⟩;rw[pZ];have Bt:=zP.trans s5;by_cases c:vl ts xs=vl ts (qi n.toNat)
  ·rw[cI c];apply kL;refine⟨_,rfl,_,rfl,a,sm,n,ts,xs,rfl,hA.same Bt,Bt.tup hX,hok,λr6 H6 s6 h6 a6=>?_⟩;refine⟨_,rfl,.tuple ((Hs.need ts xs).map aC),.tuple (xs.map aC),.tup (SqT.of h6) (cY.ints _),.tup ((Bt.trans s6).tup hX) (cY.ints _),Fd _,Fd _,um _ _,?_⟩;rw[sW];have e:qM n ts xs=decide (Hs.need ts xs=xs):=by unfold qM;rw[hd,cI c];rfl
   rw[<-e];exact qq H6 (Bt.trans s6) (λ_ _=>a6)
  ·rw[gY c];apply si;have e:qM n ts xs=false:=by unfold qM;rw[hd,gY c];rfl
   rw[<-e];exact qq H5 Bt (λ_ e=>absurd e c)
structure q9(n:Int)(ts:L0)(i:Nat)(S:ζ):Prop where
 ok:cT n S
 aT:At ts S
 eq:vl ts S=vl ts (qi n.toNat)
 why:∀p∈S,p<(i:Int)->∃S',cT n S'/\(∀x∈S,x∈S')/\At ts (uB S' p)/\vl ts (uB S' p)≠vl ts (qi n.toNat)
theorem q9.go(h:q9 n ts i S)(a:At ts (uB S (0+(i:Int))))(e:vl ts (uB S (0+(i:Int)))=vl ts (qi n.toNat)):q9 n ts (i+1) (uB S (0+(i:Int))):=by
 refine⟨p7 h.ok _,a,e,λp hp hi=>?_⟩;obtain⟨m1,m2⟩:=nO.mp hp;obtain⟨S',a1,a2,a3,a4⟩:=h.why p m1 (by omega);exact⟨S',a1,λx hx=>a2 x (nO.mp hx).1,a3,a4⟩
theorem q9.stay(h:q9 n ts i S)(a:At ts (uB S (0+(i:Int))))(e:vl ts (uB S (0+(i:Int)))≠vl ts (qi n.toNat)):q9 n ts (i+1) S:=by
 refine⟨h.ok,h.aT,h.eq,λp hp hi=>?_⟩;by_cases c:p=0+(i:Int)
 ·rw[c];exact⟨S,h.ok,λx hx=>hx,a,e⟩
 ·exact h.why p hp (by omega)
theorem q9.fin(h:q9 n ts n.toNat S)(a:At ts (qi n.toNat)):A4 n ts S:=⟨h.ok,a,h.aT,h.eq,λp hp=>h.why p hp (by have:=h.ok.lt p hp;omega)⟩
inductive Jt(K:af)(vs:List V)(H:Hp)(Q:VK)(E_:XK):Prop
 |mk(a:ag)(n:Int)(ts:L0)(_:vs=[.ref a])(_:aZ K H a n ts)(_:∀r told H',Same H H'->H' r=some (.tup (told.map V.int))->A4 n ts told->Q (.ref r) H')
theorem YL{f:ag}{fd:χ}
  (F:pV K "held_part" "held_part" mD f fd)(D1:Dp P w K mg base 7 "need_web" yQ ["thing"] (aU K))(D2:Dp P w K mg base 10 "value" j5 ["web"] (jX K))(D3:Dp P w K mg base 11 "value_without" IE ["web","some","place"] (Jm K))(D4:Dp P w K mg base 1 "without" V5 ["some","part"] (jW K))(aJ:mg "tuple"=none)(aF:mg "range"=none):
  gx P w K mg base kG 12 f fd ["web"] (Jt K):=by
 refine F.dD ["web","held","some","place"] λH Q hr h=>?_;obtain⟨a,n,ts,rfl,hA,qq⟩:=h;refine⟨_,(aN (oR (pd D1 hr (aj (pv 0) ak))) (aN (pS 1 (pd D2 hr (aj (pv 0) ak))) (aN (pS 2 (fX rfl rfl aJ rfl aF (aj (bw cH (pv 0) aL) ak))) (aN (rS Fw rfl (Kp rfl aF (aj (bw cH (pv 0) aL) ak)) (pG 3) (aY (iK (gU (zU hr.units) (pd D3 hr (aj (pv 0) (aj (pv 2) (aj (pv 3) ak)))) (pv 1)) (aY (pS 2 (pd D4 hr (aj (pv 2) (aj (ou (aj (pv 3) ak)) ak))))) iM))) (aY (bK (pv 2))))))),?_⟩;have h0:=hA.h0;have h10:=hA.h1;refine⟨_,rfl,.ref a,_,rfl,hA.web.dv.dx,hA.ok,λH1 s1=>?_⟩;refine⟨_,rfl,a,n,ts,rfl,hA.same s1,λva ss ov Z Y X H2 s2 e2 eY hSh=>?_⟩;obtain⟨aA,ev⟩:=Jf h0 hA.pk hA.Td (f:=aH Z ov) ⟨ss,ov,Z,Y,X,eY,hSh,rfl⟩;rw[ev]at e2;have s12:=s1.trans s2;obtain⟨Jh,Jw,w1,w2,w3⟩:=id (hA.same s12).web;refine⟨_,rfl,a,_,_,.int n,rfl,rfl,w1,rfl,n,rfl,h0,by omega,λl hl=>?_⟩;rw[BW];have s3:=aR hl (.tup ((qi n.toNat).map V.int));have h3:(upd H2 l (.tup ((qi n.toNat).map V.int))) l=some (.tup ((qi n.toNat).map V.int)):=aK;generalize (upd H2 l (.tup ((qi n.toNat).map V.int)))=H3 at *;have jx:=s12.trans s3;refine⟨_,rfl,a,_,_,.int n,rfl,rfl,s3.tup w1,rfl,n,rfl,by omega,by omega,?_⟩;refine sf (n:=n.toNat) (λi σ H'=>∃(sr:ag) (S:ζ) (o:Option V),σ=[some (.ref a),some (.ref va),some (.ref sr),o]/\Same H3 H'/\H' sr=some (.tup (S.map V.int))/\q9 n ts i S) ⟨l,_,_,rfl,Same.refl _,h3,gG n,aA,rfl,λp hp hi=>?_⟩ (λi σ H' hi p=>?_) (λσ H' p=>?_)
 ·have:=(gG n).lt p hp;omega
 ·obtain⟨sr,S,o,rfl,sm,hsr,hI⟩:=p;have abt:=jx.trans sm;refine⟨_,rfl,_,rfl,_,rfl,a,sr,n,ts,S,_,rfl,hA.same abt,SqT.of hsr,hI.ok,λvb H5 s5 e5 a5=>?_⟩;refine⟨_,rfl,_,_,rm.dv e5,rm.dv ((s3.trans (sm.trans s5)).tup e2),rfl,rfl,(by show min 1 1<=64;decide),_,rfl,?_⟩;rw[pZ];refine nE (λc=>?_) (λc=>?_)
  ·refine⟨_,rfl,_,rfl,rV,λp1 hp1=>?_⟩;have t1:=aR hp1 (.tup [.int (0+(i:Int))]);refine⟨sr,p1,S,[0+(i:Int)],rfl,SqT.of ((s5.trans t1) _ _ hsr),SqT.of aK,λr H7 s7 h7=>?_⟩;rw[Ro]at h7;exact⟨r,_,_,rfl,sm.trans (s5.trans (t1.trans s7)),h7,hI.go a5 (lA c)⟩
  ·exact⟨sr,S,_,rfl,sm.trans s5,s5 _ _ hsr,hI.stay a5 (λz=>c (cI z))⟩
 ·obtain⟨sr,S,o,rfl,sm,hsr,hI⟩:=p;exact⟨_,rfl,qq sr S H' (jx.trans sm) hsr (hI.fin aA)⟩
end
theorem xO{α β γ:Type}{f:α->β}{g:β->γ}{l:List α}(hi:i<l.length):((l.take i).map f).map g++[g (f l[i])]=((l.take (i+1)).map f).map g:=by
 rw[rF,cU hi,bR,bR];rfl
section
variable{P:υ}{w:ψ}{K:af}{mg:D0}{base:bn}
theorem U9(ys:ζ):(V.int ((ys.map V.int).length:Int))=V.int (ys.length:Int):=by rw[aD]
theorem wg:(!decide (V.int a=V.int b))= !decide (a=b):=by
 by_cases e:a=b
 ·subst e;simp
 ·rw[gY e,gY (by intro z;injection z with z;exact e z)]
theorem Pj(h:fJ ns=true):ns.Pairwise (· < ·):=by
 unfold fJ at h;rw[lM]at h;have adj:∀k,(hk:k+1<ns.length)->ns[k]<ns[k+1]:=λk hk=>by
  have z:=lA (h k (nu.mpr (by omega)));rw[dY,dY,cU (by omega),cU hk]at z;exact z
 rw[BK];intro i j hi hj hij;have go:∀d:Nat,(hd:i+1+d<ns.length)->ns[i]<ns[i+1+d]:=by
  intro d
  induction d with
  |zero=>intro hd;exact adj i hd
  |succ d ih=>intro hd;exact Mn (ih (by omega)) (adj (i+1+d) hd)
 have e:i+1+(j-i-1)=j:=by omega
 have z:=go (j-i-1) (by omega);simp only[e]at z;exact z
theorem Jy(n):(jD n).Pairwise (· < ·):=by
 unfold jD;rw[Tp];exact Wd.imp λ{a b} h=>by omega
theorem BQ:∀{a b:ζ},a.Pairwise (· < ·)->b.Pairwise (· < ·)->(∀x,x∈a↔x∈b)->a=b
 |[],[],_,_,_=>rfl
 |[],y::b,_,_,h=>by have:=(h y).mpr dZ;cases this
 |x::a,[],_,_,h=>by have:=(h x).mp dZ;cases this
 |x::a,y::b,ha,hb,h=>by
  rw[EO]at ha hb;have e:x=y:=by
   have h1:=(h x).mp dZ;have h2:=(h y).mpr dZ;rcases cZ.mp h1 with z|z
   ·exact z
   ·rcases cZ.mp h2 with z2|z2
    ·exact z2.symm
    ·have:=hb.1 x z;have:=ha.1 y z2;omega
  subst e;rw[BQ ha.2 hb.2 λz=>⟨λhz=>?_,λhz=>?_⟩]
  ·rcases cZ.mp ((h z).mp (fB _ hz))with q|q
   ·have:=ha.1 z hz;omega
   ·exact q
  ·rcases cZ.mp ((h z).mpr (fB _ hz))with q|q
   ·have:=hb.1 z hz;omega
   ·exact q
noncomputable def xQ(s:ζ):PyData:=.tuple (s.map aC)
theorem Ci{n:Nat}:dB (n:Int) (xQ s)=true↔s∈bL n:=by
 rw[MF];constructor
 ·intro h;have h':((s.map aC).all (cG (n:Int))&&fJ ((s.map aC).map intD))=true:=h;rw[vo]at h';have e:(s.map aC).map intD=s:=by rw[Kq];exact lp _
  rw[e]at h';have hs:=Pj h'.2;have hr:∀x∈s,0<=x/\x<(n:Int):=λx hx=>by
   have:=lM.mp h'.1 (.int x) (Tr hx);simpa[cG]using this
  have es:s=(jD n).filter λx=>decide (x∈s):=BQ hs ((Jy n).filter _) λx=>by
   rw[iU,nM];constructor
   ·intro h;exact⟨hr x h,by simpa using h⟩
   ·intro h;simpa using h.2
  rw[es];exact Xn
 ·intro h;exact cT.dB (n:=(n:Int)) ⟨(Jy n).sublist h,λx hx=>nM.mp (h.subset hx)⟩
noncomputable def cB(n:Nat)(l:List ζ):Bool:=decide (l.length=2^n)&&l.all λs=>dB (n:Int) (xQ s)
theorem Qm{α:Type} [DecidableEq α]:∀{c t:List α},c.Nodup->(∀x∈c,x∈t)->c.length<=t.length
 |[],_,_,_=>dX _
 |x::c,t,nd,h=>by
  have hx:=h x dZ;rw[Kr]at nd;have z:=Qm (c:=c) (t:=t.erase x) nd.2 λy hy=>(ll (λe:y=x=>nd.1 (e▸hy))).mpr (h y (fB _ hy));rw[Po hx]at z;have p:0<t.length:=FE hx;rw[uL];omega
theorem mZ(h:cB n l=true)(nd:l.Nodup)(hs:s∈bL n):s∈l:=by
 unfold cB at h;rw[vo]at h;have h1:l.length=2^n:=lA h.1;by_cases c:s∈l
 ·exact c
 ·have:=Qm (c:=s::l) (t:=bL n) (Kr.mpr ⟨c,nd⟩) λx hx=>by
   rcases cZ.mp hx with z|z
   ·rw[z];exact hs
   ·exact Ci.mp (lM.mp h.2 x z)
  rw[uL,eZ]at this;omega
theorem xU(n):cB n (bL n)=true:=by
 unfold cB;rw[cI (eZ n),MK,lM];exactλs hs=>Ci.mpr hs
theorem K3(e:Same (upd H d (.frz o (.dT kvs))) H')(h:H d=some (.dT kvs)):Same H (upd H' d (.dT kvs)):=λb u hb=>by
 by_cases z:b=d
 ·subst z;rw[aK,<-h];exact hb
 ·rw[cF z];exact e _ _ (by rw[cF z];exact hb)
noncomputable def wj(n:Int)(ts:L0)(hs:ζ):Bool:=decide ((hs.length:Int)=n)&&(hs.all (λh=>decide (0<=h))&&ts.all λt=> !decide (hs.getD t.1.toNat 0=hs.getD t.2.toNat 0))
inductive zE(K:af)(vs:List V)(H:Hp)(Q:VK)(E_:XK):Prop
 |mk(a h:ag)(n:Int)(ts:L0)(hs:ζ)(_:vs=[.ref a,.ref h])(_:aZ K H a n ts)(_:SqT K H h (hs.map V.int))(_:∀H',Same H H'->Q (.bl (wj n ts hs)) H')
theorem UG{f:ag}{fd:χ}
  (F:pV K "are_hues" "are_hues" pJ f fd)(D1:Dp P w K mg base 7 "need_web" yQ ["thing"] (aU K))(D2:Dp P w K mg base 1 "is_whole" Np ["thing"] (eE K))(bU:mg "len"=none)(aB:mg "isinstance"=none)(aJ:mg "tuple"=none)(dG:mg "all"=none):
  gx P w K mg base kG 8 f fd ["web","hues"] (zE K):=by
 refine F.dD ["web","hues"] λH Q hr h=>?_;obtain⟨a,h,n,ts,hs,rfl,hA,hH,q⟩:=h;refine eX ?_;intro Y;refine⟨_,(aN (oR (pd D1 hr (aj (pv 0) ak))) (aN (iK (PW.pt (rH (jy (iT (pB Fo aB (aj (pv 1) (aj (pN "tuple" aJ) ak))))) (uY (gU sq (pB wZ bU (aj (pv 1) ak)) (bw cH (pv 0) aL))))) (aY (bK jl)) iM) (aN (iK (jy (iT (pB (Fl rfl) dG (aj (pK ["hue"] [] [] (EY (pv 1)) (pG 0) lF (Bw (pd D2 hr (aj (pv 0) ak)) (qE (uZ zC (pv 0) aL)))) ak)))) (aY (bK jl)) iM) (aY (bK (pB (Fl rfl) dG (aj (pK ["one","other"] ["hues"] [1] (EY (bw cH (pv 0) aL)) (Kl K (n:=2) rfl (jz (pG 0) (jz (pG 1) yO))) lF (uZ sq (bw (Ez K) (pv 2) (pv 0)) (bw (Ez K) (pv 2) (pv 1)))) ak))))))),?_⟩;refine QJ ?_;intro c4 c3 c2;refine⟨_,rfl,_,_,rfl,hA.web.dv.dx,hA.ok,λH1 s1=>?_⟩;obtain⟨ta,ra,a1,a2,a3⟩:=id (hA.same s1).web;have hH1:=s1.tup hH;refine⟨_,rfl,.ref h,"tuple",_,rfl,.inl ⟨rfl,_,hH1⟩,.inr (.inr (.inl rfl)),_,rfl,?_⟩;apply kL;refine⟨_,rfl,h,_,rfl,.inr hH1,λhz=>⟨_,rfl,a,_,_,.int n,rfl,rfl,a1,rfl,rfl,_,rfl,?_⟩⟩;rw[U9,wg];refine nE (λc=>?_) (λc=>?_)
 ·have e:wj n ts hs=false:=by unfold wj;rw[gY (by simpa using c)];rfl
  have:=q H1 s1;rw[e]at this;exact this
 have ac:(hs.length:Int)=n:=by simpa using c
 refine⟨_,rfl,h,_,rfl,hH1,λhz1=>?_⟩;let xV:Nat->List V->St->Hp->Prop:=λi acc σ H'=>acc=((hs.take i).map λx=>decide (0<=x)).map V.bl/\Same H1 H'/\∃o1,σ=[o1];refine IV (xs:=hs.map V.int) xV ⟨rfl,Same.refl _,_,rfl⟩ (λi acc σ H' _ p=>p.2.1.tup hH1) (λi acc σ H' hi p=>?_) hz1 (λi x acc σ H' hx p=>?_) (λacc σ H' p=>?_)
 ·rw[p.1,aD,aD,nR];exact u9 _ _
 ·obtain⟨rfl,sm,o1,rfl⟩:=p;rw[dI]at hx;cases ex:hs[i]? with
  |none=>rw[ex]at hx;cases hx
  |some y=>
   rw[ex]at hx;cases hx;refine⟨_,rfl,_,_,rfl,.int y,_,rfl,si ?_⟩;refine⟨_,rfl,_,_,rfl,rfl,?_,sm,_,rfl⟩;rw[rF,ex,bR,bR];rfl
 intro p1 hp1;obtain⟨rfl,sm,_⟩:=p;rw[aD,rE];have s2:=sm.trans (aR hp1 (.lst ((hs.map λx=>decide (0<=x)).map V.bl)));refine⟨p1,_,rfl,ja.of aK,_,rfl,?_⟩;rw[Sy];dsimp only at s2⊢;generalize upd H' p1 (.lst ((hs.map λx=>decide (0<=x)).map V.bl))=H2 at *;refine nE (λc2=>?_) (λc2=>?_)
 ·have c3:hs.all (λh=>decide (0<=h))=false:=by
   cases z:hs.all (λh=>decide (0<=h))with
   |false=>rfl
   |true=>exact absurd c2 (by show¬(!(hs.all λh=>decide (0<=h)))=true;rw[z];decide)
  have e:wj n ts hs=false:=by unfold wj;rw[c3];simp
  have:=q H2 (s1.trans s2);rw[e]at this;exact this
 have hall:hs.all (λh=>decide (0<=h))=true:=by
  cases z:hs.all (λh=>decide (0<=h))with
  |true=>rfl
  |false=>exact absurd (show(!(hs.all λh=>decide (0<=h)))=true by rw[z];rfl) c2
 refine⟨_,rfl,a,_,_,.ref ta,rfl,rfl,s2.tup a1,rfl,ta,ra,rfl,s2.tup a2,λhz2=>?_⟩;have h45:=hA.len;have hra:=a3.len;rw[aD]at hra;let Mu:Nat->List V->St->Hp->Prop:=λi acc σ H'=>acc=((ts.take i).map λp=> !decide (hs.getD p.1.toNat 0=hs.getD p.2.toNat 0)).map V.bl/\Same H2 H'/\∃o1 o2,σ=[o1,o2,some (.ref h)];refine IV (xs:=ra) Mu ⟨rfl,Same.refl _,_,_,rfl⟩ (λi acc σ H' _ p=>p.2.1.tup (s2.tup a2)) (λi acc σ H' hi p=>?_) hz2 (λi x acc σ H' hx p=>?_) (λacc σ H' p=>?_)
 ·rw[p.1];simp;omega
 ·obtain⟨rfl,sm',b1,b2,rfl⟩:=p;obtain⟨t,hi,rfl,ht⟩:=qN a3 hx;have Tf:=s2.trans sm';have hp:=hA.pk.lt ts[i] (yS _);refine⟨t,_,rfl,Tf.tup ht,rfl,_,_,rfl,_,_,rfl,rfl,?_⟩;refine⟨_,rfl,_,rfl,h,_,_,_,rfl,rfl,Tf.tup hH1,J8 hp.1 (by omega),_,rfl,_,rfl,h,_,_,_,rfl,rfl,Tf.tup hH1,J8 (by omega) (by omega),rfl,?_,sm',_,_,rfl⟩;rw[wg];exact xO (f:=λp=> !decide (hs.getD p.1.toNat 0=hs.getD p.2.toNat 0)) (g:=V.bl) hi
 ·intro p2 hp2;obtain⟨rfl,sm',_⟩:=p;refine⟨p2,_,rfl,ja.of aK,?_⟩;have e:((ts.take ra.length).map λp=> !decide (hs.getD p.1.toNat 0=hs.getD p.2.toNat 0)).all id=wj n ts hs:=by
   rw[hra,rE,Sy];unfold wj;rw[cI ac,hall,MK,MK];rfl
  rw[e];exact q _ (s1.trans (s2.trans (sm'.trans (aR hp2 _))))
inductive rP(K:af)(vs:List V)(H:Hp)(Q:VK)(E_:XK):Prop
 |mk(n:Int)(d:ag)(l:List ζ)(f:ζ->Int)(_:vs=[.int n,.ref d])(_:0<=n)(_:n<=10)(_:H d=some (.dT (lY f l)))(_:∀H',Same H H'->Q (.bl (cB n.toNat l)) H')
theorem Hg{f:ag}{fd:χ}
  (F:pV K "have_all_sets" "have_all_sets" gq f fd)(D1:Dp P w K mg base 1 "all_sets" iz ["n"] (jC K))(D2:Dp P w K mg base 1 "is_whole" Np ["thing"] (eE K))(D3:Dp P w K mg base 4 "is_set" fV ["n","thing"] (tX K))(bU:mg "len"=none)(Y6:mg "dict"=none)(dG:mg "all"=none)(aB:mg "isinstance"=none):
  gx P w K mg base kG 5 f fd ["n","floors"] (rP K):=by
 refine F.M7 ["n","floors"] λcdv A outer s H vs Q E hr h=>?_;obtain⟨n,d,l,f,rfl,h0,h1,hD,q⟩:=h;refine eX ?_;intro Y;refine⟨_,(aN (iK (PW.pt (rH (jy (iT (pB Bd aB (aj (pv 1) (aj (pN "dict" Y6) ak))))) (uY (gU sq (pB (Mr rfl) bU (aj (pv 1) ak)) (pB wZ bU (aj (pd D1 hr (aj (pv 0) ak)) ak)))))) (aY (bK jl)) iM) (aY (bK (pB (Fl rfl) dG (aj (Ug (pK ["some","floor"] ["n"] [0] (Pz (pv 1)) (Kl K (n:=2) rfl (jz (pG 0) (jz (pG 1) yO))) lF (Bw (pd D3 hr (aj (pv 2) (aj (pv 0) ak))) (qE (pd D2 hr (aj (pv 1) ak)))))) ak))))),?_⟩;refine JV ?_;intro c2;refine⟨_,rfl,d,_,rfl,hD,_,rfl,?_⟩;apply kL;refine⟨_,rfl,d,_,rfl,.inl hD,_,rfl,n,rfl,h0,h1,λr ae H1 s1 hr1 hT hm=>⟨r,_,rfl,.inl (ja.of hr1),λhz=>⟨rfl,_,rfl,?_⟩⟩⟩;rw[wg];have el:(ae.map λp=>V.ref p.1).length=2^n.toNat:=by rw[aD,<-eZ,<-hm,aD]
 rw[el,vM];refine nE (λc=>?_) (λc=>?_)
 ·have e:cB n.toNat l=false:=by
   unfold cB;rw[gY (λz=>by rw[z]at c;simp at c)];rfl
  have:=q H1 s1;rw[e]at this;exact this
 have hll:l.length=2^n.toNat:=by
  have:((l.length:Nat):Int)=((2^n.toNat:Nat):Int):=by simpa using c
  omega
 have hD1:=s1 _ _ hD;refine⟨d,_,hD1,_,rfl,d,_,rfl,hD1,λhz2 o=>?_⟩;have en:((n.toNat:Nat):Int)=n:=by omega
 refine HW (d:=d) (o:=o) (kvs:=lY f l) (λi acc σ H'=>acc=((l.take i).map λs=>dB (n.toNat:Int) (xQ s)).map V.bl/\Same (upd H1 d (.frz o (.dT (lY f l)))) H'/\∃o1 o2,σ=[o1,o2,some (.int n)]) ⟨rfl,Same.refl _,_,_,rfl⟩ (λi acc σ H' _ p=>p.2.1 _ _ aK) (λi acc σ H' _ p=>?_) hz2 (λi t b k v acc σ H' hk p ht hb=>?_) (λacc σ H' p=>?_)
 ·rw[p.1,aD,aD,nR];exact u9 _ _
 ·obtain⟨rfl,sm,o1,o2,rfl⟩:=p;unfold lY at hk;rw[dI]at hk;cases es:l[i]? with
  |none=>rw[es]at hk;cases hk
  |some s=>
   rw[es]at hk;cases hk;rw[zd]at hb;have s2:=sm.trans (aR ht (.tup [.ref b,.int (f s)]));have hb2:=aR ht (.tup [.ref b,.int (f s)]) _ _ hb;have ht2:(upd H' t (.tup [.ref b,.int (f s)])) t=some (.tup [.ref b,.int (f s)]):=aK;dsimp only at s2 hb2 ht2⊢;generalize upd H' t (.tup [.ref b,.int (f s)])=H2 at *;refine⟨t,_,rfl,SqT.of ht2,rfl,_,_,rfl,_,_,rfl,rfl,?_⟩;refine⟨_,rfl,_,rfl,n,.ref b,xQ s,rfl,.tup (SqT.of hb2) (cY.dx (cY.ints s)),λH3 s3=>⟨_,rfl,?_⟩⟩;have et:((l.take (i+1)).map λs=>dB (n.toNat:Int) (xQ s)).map V.bl=((l.take i).map λs=>dB (n.toNat:Int) (xQ s)).map V.bl++[V.bl (dB n (xQ s))]:=by
    rw[rF,es,bR,bR,en];rfl
   refine nE (λc2=>?_) (λc2=>?_)
   ·refine⟨_,rfl,_,_,rfl,.int (f s),?_,s2.trans s3,_,_,rfl⟩;rw[et,c2];rfl
   ·refine⟨?_,s2.trans s3,_,_,rfl⟩;rw[et];cases z:dB n (xQ s)with
    |true=>exact absurd z c2
    |false=>rfl
 ·intro p1 hp1;obtain⟨rfl,sm,_⟩:=p;rw[vM,rE];have np:d≠p1:=λz=>by rw[<-z,sm _ _ aK]at hp1;cases hp1
  have s2:=K3 (sm.trans (aR hp1 (.lst ((l.map λs=>dB (n.toNat:Int) (xQ s)).map V.bl)))) hD1;refine⟨o,by rw[cF np];exact sm _ _ aK,?_⟩;refine⟨p1,_,rfl,ja.of (by rw[cF np.symm,aK]),?_⟩;have e:(l.map λs=>dB (n.toNat:Int) (xQ s)).all id=cB n.toNat l:=by
   unfold cB;rw[cI hll,MK,Sy];rfl
  rw[e];exact q _ (s1.trans s2)
noncomputable def Aq(n:Nat)(ts:L0)(l:List ζ)(f:ζ->Int)(num:Int):Bool:=cB n l&&((bL n).all (λs=>decide (f s<=uR f ts s))&&decide (num<=f (jD n)))
inductive zF(K:af)(vs:List V)(H:Hp)(Q:VK)(E_:XK):Prop
 |mk(a d:ag)(n num:Int)(ts:L0)(l:List ζ)(f:ζ->Int)(_:vs=[.ref a,.ref d,.int num])(_:aZ K H a n ts)(_:H d=some (.dT (lY f l)))(_:l.Nodup)(_:∀H',Same H H'->Q (.bl (Aq n.toNat ts l f num)) H')
theorem UJ{f:ag}{fd:χ}
  (F:pV K "are_floors" "are_floors" j9 f fd)(D1:Dp P w K mg base 7 "need_web" yQ ["thing"] (aU K))(D2:Dp P w K mg base 5 "have_all_sets" gq ["n","floors"] (rP K))(D3:Dp P w K mg base 1 "all_sets" iz ["n"] (jC K))(D4:Dp P w K mg base 4 "highest_floor" ID ["web","floors","some"] (zx K))(dG:mg "all"=none)(aJ:mg "tuple"=none)(aF:mg "range"=none):
  gx P w K mg base kG 8 f fd ["web","floors","number"] (zF K):=by
 refine F.M7 ["web","floors","number"] λcdv A outer s H vs Q E hr h=>?_;obtain⟨a,d,n,num,ts,l,f,rfl,hA,hD,hnd,q⟩:=h;refine eX ?_;intro Y;refine⟨_,(aN (oR (pd D1 hr (aj (pv 0) ak))) (aN (iK (jy (iT (pd D2 hr (aj (bw cH (pv 0) aL) (aj (pv 1) ak))))) (aY (bK jl)) iM) (aN (iK (jy (iT (pB (Fl rfl) dG (aj (pK ["some"] ["floors","web"] [1,0] (ur (pd D3 hr (aj (bw cH (pv 0) aL) ak))) (pG 0) lF (uZ tP (ui (wE hr) (pv 1) (pv 0) (λ_ _=>rfl)) (pd D4 hr (aj (pv 2) (aj (pv 1) (aj (pv 0) ak)))))) ak)))) (aY (bK jl)) iM) (aY (bK (uZ zC (ui (wE hr) (pv 1) (fX rfl rfl aJ rfl aF (aj (bw cH (pv 0) aL) ak)) (λ_ _=>rfl)) (pv 2))))))),?_⟩;refine QJ ?_;intro c4 c3 c2;have hn0:=hA.h0;have hn1:=hA.h1;refine⟨_,rfl,_,_,rfl,hA.web.dv.dx,hA.ok,λH1 s1=>?_⟩;obtain⟨ta,ra,a1,a2,a3⟩:=id (hA.same s1).web;refine⟨_,rfl,a,_,_,.int n,rfl,rfl,a1,rfl,_,rfl,n,d,l,f,rfl,hn0,hn1,s1 _ _ hD,λH2 s2=>⟨_,rfl,?_⟩⟩;have s12:=s1.trans s2;refine nE (λc=>?_) (λc=>?_)
 ·have z:cB n.toNat l=false:=by
   cases y:cB n.toNat l with
   |false=>rfl
   |true=>rw[y]at c;exact absurd c (by decide)
  have e:Aq n.toNat ts l f num=false:=by unfold Aq;rw[z];rfl
  have:=q H2 s12;rw[e]at this;exact this
 have hB:cB n.toNat l=true:=by
  cases y:cB n.toNat l with
  |true=>rfl
  |false=>rw[y]at c;exact absurd rfl c
 refine⟨_,rfl,a,_,_,.int n,rfl,rfl,s2.tup a1,rfl,n,rfl,hn0,hn1,λr ae H3 s3 Zd hT hm=>⟨r,_,rfl,ja.of Zd,λhz=>?_⟩⟩;have jx:=s12.trans s3;have ac:ae.length<=1024:=by
  have:ae.length=2^n.toNat:=by rw[<-eZ,<-hm,aD]
  rw[this];exact Xp (n:=2) (by decide) (show n.toNat<=10 by omega)
 let V2:Nat->List V->St->Hp->Prop:=λi acc σ H'=>acc=((ae.take i).map λp=>decide (f p.2<=uR f ts p.2)).map V.bl/\Same H3 H'/\∃o,σ=[o,some (.ref d),some (.ref a)];refine w6 (xs:=ae.map λp=>V.ref p.1) V2 ⟨rfl,Same.refl _,_,rfl⟩ (λi acc σ H' _ p=>p.2.1.seq (ja.of Zd)) (λi acc σ H' _ p=>?_) hz (λi x acc σ H' hx p=>?_) (λacc σ H' p=>?_)
 ·rw[p.1,aD,aD,nR];exact u9 _ _
 ·obtain⟨rfl,sm,o,rfl⟩:=p;rw[dI]at hx;cases ex:ae[i]? with
  |none=>rw[ex]at hx;cases hx
  |some v=>
   rw[ex]at hx;cases hx;have mv:=oF ex;have ms:v.2∈bL n.toNat:=by rw[<-hm];exact Tr mv
   have lv:v.2.length<=10:=by
    have:=m5 n.toNat v.2 ms;omega
   have hD':=(jx.trans sm) _ _ hD;have G:=wf.t (k:=v.2.map bW) hD' (by rw[zd];exact sm _ _ (hT v mv));rw[fQ,au (mZ hB hnd ms)]at G;refine⟨_,rfl,_,rfl,d,_,rfl,G,_,rfl,_,rfl,_,rfl,a,d,v.1,n,ts,v.2,_,f,rfl,(hA.same (jx.trans sm)).web,hD',sm.tup (SqT.of (hT v mv)),lv,λ_ p _=>?_,λH4 s4=>?_⟩
   ·rw[fQ,au (mZ hB hnd ((MF _ _).mpr ((oU _ _).trans ((MF _ _).mp ms))))]
   ·refine⟨_,_,rfl,rfl,?_,sm.trans s4,_,rfl⟩;rw[rF,ex,bR,bR];rfl
 ·intro p1 hp1;obtain⟨rfl,sm,_⟩:=p;have e1:(ae.take (ae.map λp=>V.ref p.1).length).map (λp=>decide (f p.2<=uR f ts p.2))=(bL n.toNat).map λs=>decide (f s<=uR f ts s):=by
   rw[aD,rE,<-hm,Kq];rfl
  rw[e1];have s4:=sm.trans (aR hp1 (.lst (((bL n.toNat).map λs=>decide (f s<=uR f ts s)).map V.bl)));refine⟨p1,_,rfl,ja.of aK,_,rfl,?_⟩;rw[Sy];dsimp only at s4⊢;generalize upd H' p1 (.lst (((bL n.toNat).map λs=>decide (f s<=uR f ts s)).map V.bl))=H4 at *;have zP:=jx.trans s4;refine nE (λc2=>?_) (λc2=>?_)
  ·have z:(bL n.toNat).all (λs=>decide (f s<=uR f ts s))=false:=by
    cases y:(bL n.toNat).all (λs=>decide (f s<=uR f ts s))with
    |false=>rfl
    |true=>exact absurd c2 (by show¬(!((bL n.toNat).all λs=>decide (f s<=uR f ts s)))=true;rw[y];decide)
   have e:Aq n.toNat ts l f num=false:=by unfold Aq;rw[z];simp
   have:=q H4 zP;rw[e]at this;exact this
  have hall:(bL n.toNat).all (λs=>decide (f s<=uR f ts s))=true:=by
   cases y:(bL n.toNat).all (λs=>decide (f s<=uR f ts s))with
   |true=>rfl
   |false=>exact absurd (show(!((bL n.toNat).all λs=>decide (f s<=uR f ts s)))=true by rw[y];rfl) c2
  obtain⟨tb,rb,b1,b2,b3⟩:=id (hA.same zP).web;refine⟨_,rfl,_,rfl,a,_,_,.int n,rfl,rfl,b1,rfl,n,rfl,hn0,by omega,λt ht=>?_⟩;have s5:=aR ht (.tup (dh n.toNat));have G:=wf.t (k:=(jD n.toNat).map bW) ((zP.trans s5) _ _ hD) (by rw[zd,aK,vq]);rw[fQ,au (mZ hB hnd ((MF _ _).mpr (Wq _)))]at G;refine⟨d,_,rfl,G,_,rfl,_,_,rfl,rfl,?_⟩;have e:Aq n.toNat ts l f num=decide (num<=f (jD n.toNat)):=by unfold Aq;rw[hB,hall];rfl
  show Q (.bl (decide (num<=f (jD n.toNat)))) _;rw[<-e];exact q _ (zP.trans s5)
theorem jr.mem(h:jr ts n k hs)(c):c∈hs↔0<=c/\c<k:=by
 constructor
 ·intro hc;obtain⟨p,hp,rfl⟩:=Bs hc;have:=h.rg p (by rw[<-h.len];exact hp);rw[dY,cU hp]at this;exact this
 ·rintro⟨h0,h1⟩;obtain⟨p,hp,e⟩:=h.all c h0 h1;have hp':p<hs.length:=by rw[h.len];exact hp
  rw[dY,cU hp']at e;rw[<-e];exact yS hp'
theorem jr.wj{ts:L0}{n:Int}{k:Int}{hs:ζ}(h0:0<=n)(hp:bJ n ts)(h:jr ts n.toNat k hs):wj n ts hs=true:=by
 unfold Hs.wj;rw[cI (by rw[h.len];omega),MK,vo,lM,lM];refine⟨λx hx=>cI ((h.mem x).mp hx).1,λt ht=>?_⟩;have:=hp.lt t ht;have e1:((t.1.toNat:Nat):Int)=t.1:=by omega
 have e2:((t.2.toNat:Nat):Int)=t.2:=by omega
 have z:=h.ok t.1.toNat t.2.toNat (by omega) (by omega) (by
  rw[e1,e2];unfold bN;rw[aq (show¬t.2<t.1 by omega),au (show t.2>t.1 by omega)];exact cI ht)
 rw[gY z];rfl
theorem ZM(num):Aq n ts (bL n) (jR ts) num=decide (num<=jR ts (jD n)):=by
 unfold Aq;rw[xU,MK];have:(bL n).all (λs=>decide (jR ts s<=uR (jR ts) ts s))=true:=lM.mpr λs _=>cI (by rw[<-zk];exact u5 _);rw[this,MK]
end
end Hs
namespace Hs
open lQ
noncomputable def B8(xs:ζ)(p:Int×Int):Bool:=decide (p.1∈xs)&&decide (p.2∈xs)
end Hs
namespace Hs
open PySem L2 lQ
theorem Jz{X:Nat->Int}(hD:0<D):∀xs:ζ,nZ D (xs.map λx=>aH (X x.toNat) D)=(xs.map λx=>X x.toNat).sum
 |[]=>rfl
 |x::xs=>by
  show _*_+nZ D (xs.map _)=_;rw[Jz hD xs,v8 hD];rfl
theorem JL{n:Nat}{X:Nat->Int}:∀{xs:ζ},xs.Nodup->(∀x∈xs,0<=x/\x<(n:Int))->(xs.map λx=>X x.toNat).sum=Sx.sm n λp=>if decide (((p:Nat):Int)∈xs)=true then X p else 0
 |[],_,_=>(Sx.dN n λi _=>by simp).symm
 |x::xs,nd,hb=>by
  obtain⟨nx,nd'⟩:=Kr.mp nd;have hx:=hb x dZ;have ih:=JL (X:=X) nd' λy hy=>hb y (fB _ hy);show X x.toNat+(xs.map λx=>X x.toNat).sum=_;rw[ih];have e1:Sx.sm n (λp=>if p=x.toNat then X p else 0)=X x.toNat:=by
   rw[Sx.eF (j:=x.toNat) n (by omega) λi _ hi=>aq hi,au rfl]
  rw[<-e1,<-Sx.lX];refine Sx.bx n λp hp=>?_;by_cases h:p=x.toNat
  ·have h1:((p:Nat):Int)=x:=by omega
   rw[au h,aq (by rw[h1];simpa using nx),au (by rw[h1];simp)];omega
  ·have h1:((p:Nat):Int)≠x:=by omega
   rw[aq h];have:decide (((p:Nat):Int)∈x::xs)=decide (((p:Nat):Int)∈xs):=by
    refine decide_eq_decide.mpr ⟨λz=>?_,fB _⟩;rcases cZ.mp z with z|z
    ·exact absurd z h1
    ·exact z
   rw[this];omega
theorem Jc{X:Nat->Int}(hD:0<D):∀n,nZ D ((am n).map λp=>(jT wl p*(aH (X p) D).1,(aH (X p) D).2))=Sx.sm n λp=>jT wl p*X p
 |0=>rfl
 |n+1=>by
  rw[xq,bR,uT,Jc hD n];show _=Sx.sm n _+_;congr 1;rw[yR,EK,Am];show jT wl n*(aH (X n) D).1*_=_;rw[Xi,v8 hD]
theorem En(hS:bH ss ts false n)(h:Sh n ss wl ov Z Y X)(hk:m7 ts false n xs):
  nZ ov (xs.map λx=>aH (X x.toNat) ov)<=1*(ov:Int):=by
 have nd:xs.Nodup:=hk.up.imp λh e=>by omega
 rw[Jz h.pos,JL nd hk.lt,I9];obtain⟨t,ht,hx⟩:=wF hk;obtain⟨k,hk',rfl⟩:=Bs (hS.1.mem_iff.mpr ht);refine Xg (vL n λp hp=>?_) (h.lig k hk');have hxn:=h.xn p;by_cases c:decide (((p:Nat):Int)∈xs)=true
 ·rw[au c,au]
  ·exact u5 _
  ·unfold cC;rw[dY,cU hk'];exact cI (hx _ (lA c))
 ·rw[aq c];split
  ·exact hxn
  ·exact u5 _
structure P8(n:Int)(ts:L0)(q:ζ×(Int×Nat)):Prop where
 up:q.1.Pairwise (· < ·)
 lt:∀x∈q.1,0<=x/\x<n
 no:ts.filter (B8 q.1)=[]
 pos:0<q.2.1
 bot:0<q.2.2
 big:q.2.2<=39916800
 low:az q.2.1.natAbs q.2.2=1
structure RQ(n:Int)(ts:L0)(l:List (ζ×(Int×Nat))):Prop where
 all:∀q∈l,P8 n ts q
 rise:(l.map (·.1)).Pairwise λp q=>HT.lexLt p q=true
 len:l.length<=36
theorem U0(hp:bJ n ts)(h:m7 ts false k s):ts.filter (B8 s)=[]:=by
 refine List.filter_eq_nil_iff.mpr λp hp1 hc=>?_;unfold B8 at hc;rw[vo]at hc;have m1:=lA hc.1;have m2:=lA hc.2;have hlt:=hp.2 p hp1;have hz:=h.all p.1 m1 p.2 m2 (by omega);unfold aQ at hz;rw[cI (show(p.1,p.2)∈ts from hp1)]at hz;cases hz
theorem Af{n:Nat}(hp:bJ (n:Int) ts)(hn:n<=10)(hS:bH ss ts false n)(h:Sh n ss wl ov Z Y X):RQ (n:Int) ts (bh ss ov Y):=by
 have nd:ss.Nodup:=hS.1.nodup_iff.mpr ((j4 n).filter _);have up:ss.Pairwise λp q=>HT.lexLt p q=true:=(hS.2.and nd).imp λ⟨a,b⟩=>Qy a b;have m36:=pq hS hn;refine⟨λq hq=>?_,?_,?_⟩
 ·obtain⟨k,hk,rfl⟩:=jP.mp hq;obtain⟨hk1,hk2⟩:=iU.mp hk;have hk3:=nu.mp hk1;have e:ss.getD k []=ss[k]:=by rw[dY,cU hk3];rfl
  have K1:=uQ hS (yS hk3);have hy:=lA hk2;have l:=Fp (Y k) h.pos;refine⟨by rw[e];exact K1.up,by rw[e];exact K1.lt,by rw[e];exact U0 hp K1,(Dk h.pos).mpr hy,l.pos,dH l.lv h.big,l.cop⟩
 ·unfold bh;rw[Kq];have:((am ss.length).filter λk=>decide (0<Y k)).Pairwise (· < ·):=Wd.filter _;refine Tp.mpr (this.imp_of_mem λ{a b} ha hb hab=>?_);have hb3:=nu.mp (iU.mp hb).1;have e:∀k,(hk:k<ss.length)->ss.getD k []=ss[k]:=λk hk=>by rw[dY,cU hk];rfl
  show HT.lexLt (ss.getD a []) (ss.getD b [])=true;rw[e a (by omega),e b hb3];exact BK.mp up a b (by omega) hb3 hab
 ·unfold bh;rw[aD];exact dH (vf _ _) (by rw[uM];exact m36)
section
variable{P:υ}{w:ψ}{K:af}{mg:D0}{base:bn}
theorem XR(h:Kc K b H a xs):ja K H a xs\/SqT K H a xs:=by
 cases b with
 |false=>exact .inl h
 |true=>exact .inr h
inductive zA(K:af)(vs:List V)(H:Hp)(Q:VK)(E_:XK):Prop
 |mk(b:Bool)(a l:ag)(n:Int)(ts:L0)(xs:ζ)(_:vs=[.ref a,.ref l])(_:aZ K H a n ts)(_:Kc K b H l (xs.map V.int))(_:∀H',Same H H'->Q (.int ((ts.filter (B8 xs)).length:Int)) H')
theorem Qh{f:ag}{fd:χ}
  (F:pV K "count_ties_in" "count_ties_in" gA f fd)(bU:mg "len"=none):
  gx P w K mg base kG 1 f fd ["web","some"] (zA K):=by
 refine F.dD ["web","some"] λH Q hr h=>?_;obtain⟨b,a,l,n,ts,xs,rfl,hA,hL,q⟩:=h;refine⟨_,(aY (bK (pB wZ bU (aj (pK ["tie"] ["some"] [1] (EY (bw cH (pv 0) aL)) (pG 0) (Fb (PW.pt (yy (gU (kI K hr.units) (bw (Ez K) (pv 0) aL) (pv 1) (by with_unfolding_all rfl)) (xc (gU (kI K hr.units) (bw (Ez K) (pv 0) aL) (pv 1) (by with_unfolding_all rfl)))))) (pv 0)) ak)))),?_⟩;obtain⟨ta,ra,a1,a2,a3⟩:=id hA.web;have hra:=a3.len;rw[aD]at hra;have h45:=hA.len;refine⟨_,rfl,a,_,_,.ref ta,rfl,rfl,a1,rfl,ta,ra,rfl,a2,λhz=>?_⟩;refine IV (xs:=ra) (λi acc σ H'=>acc.length=((ts.take i).filter (B8 xs)).length/\Same H H'/\∃o,σ=[o,some (.ref l)]) ⟨rfl,Same.refl _,_,rfl⟩ (λi acc σ H' _ p=>p.2.1.tup a2) (λi acc σ H' hi p=>?_) hz (λi x acc σ H' hx p=>?_) (λacc σ H' p=>?_)
 ·rw[p.1];exact dH (vf _ _) (by rw[nR];exact u9 _ _)
 ·obtain⟨ea,sm,o,rfl⟩:=p;obtain⟨t,hi,rfl,ht⟩:=qN a3 hx;have hl:=XR (hL.same sm);have e:∀(acc':List V) (c:Bool),c=B8 xs ts[i]->acc'.length=acc.length+(if c=true then 1 else 0)->acc'.length=((ts.take (i+1)).filter (B8 xs)).length:=λacc' c hc hl=>by
   rw[EG hi,lN,<-ea,hl,<-hc];cases c<;>rfl
  refine⟨_,rfl,t,_,_,.int (ts[i]).1,rfl,rfl,sm.tup ht,rfl,_,rfl,l,_,_,.int (ts[i]).1,rfl,hl,cY.ints xs,.int _,Fd xs,rfl,(by show 0<=60;decide),_,rfl,?_⟩;rw[Nk];refine nE (λc=>?_) (λc=>?_)
  ·refine⟨_,rfl,t,_,_,.int (ts[i]).2,rfl,rfl,sm.tup ht,rfl,_,rfl,l,_,_,.int (ts[i]).2,rfl,hl,cY.ints xs,.int _,Fd xs,rfl,(by show 0<=60;decide),_,rfl,?_⟩;rw[Nk];refine nE (λc2=>?_) (λc2=>?_)
   ·exact⟨_,rfl,e _ true (by unfold B8;rw[c,c2];rfl) (by rw[lN];rfl),sm,_,rfl⟩
   ·exact⟨e _ false (by unfold B8;rw[c,Bool.eq_false_iff.mpr c2];rfl) rfl,sm,_,rfl⟩
  ·exact⟨e _ false (by unfold B8;rw[Bool.eq_false_iff.mpr c];rfl) rfl,sm,_,rfl⟩
 ·intro p1 hp1;obtain⟨ea,sm,_⟩:=p;refine⟨p1,acc,rfl,.inl (ja.of aK),λ_=>?_⟩;rw[ea,hra,rE];exact q _ (sm.trans (aR hp1 (.lst acc)))
inductive rK(K:af)(vs:List V)(H:Hp)(Q:VK)(E_:XK):Prop
 |mk(a:ag)(xs:List V)(ls:List ζ)(_:vs=[.ref a])(_:ja K H a xs)(_:ce (λv l=>∃p,v=.ref p/\SqT K H p (l.map V.int)) xs ls)(_:ls.Pairwise λp q=>HT.lexLt p q=true)(_:∀H',Same H H'->Q (.bl true) H')
theorem GK{f:ag}{fd:χ}
  (F:pV K "is_rising" "is_rising" Xf f fd)(dG:mg "all"=none)(aF:mg "range"=none)(bU:mg "len"=none):
  gx P w K mg base kG 1 f fd ["things"] (rK K):=by
 refine F.dD ["things"] λH Q hr h=>?_;obtain⟨a,xs,ls,rfl,hS,hP,hrr,q⟩:=h;refine⟨_,(aY (bK (pB (Fl rfl) dG (aj (pK ["k"] ["things"] [0] (tw rfl aF (aj aL (aj (pB wZ bU (aj (pv 0) ak)) ak))) (pG 0) lF (uZ (JF K hr.units0) (bw (eV K) (pv 1) (dF yA (pv 0) aL)) (bw (eV K) (pv 1) (pv 0)))) ak)))),?_⟩;have hl:=Paired.dM hP;refine⟨_,rfl,a,xs,rfl,.inl hS,λhz=>⟨1,_,rfl,⟨by omega,by omega,by omega,by omega⟩,?_⟩⟩;have en:((xs.length:Int)-1).toNat=xs.length-1:=by omega
 rw[en];refine Nm (λi acc σ H'=>acc=(ah i true).map V.bl/\Same H H'/\∃o,σ=[o,some (.ref a)]) ⟨rfl,Same.refl _,_,rfl⟩ (λi acc σ H' hi p=>by rw[p.1,aD,Kw];exact aP _) (by rw[gF];omega) (λi acc σ H' hi p=>?_) (λacc σ H' p=>?_)
 ·obtain⟨rfl,sm,o,rfl⟩:=p;have e1:(1+(i:Int))-1=((i:Nat):Int):=by omega
  have e2:(1+(i:Int))=((i+1:Nat):Int):=by omega
  have x1:xs[i]? =some xs[i]:=cU (by omega);have x2:xs[i+1]? =some xs[i+1]:=cU (by omega);obtain⟨l1,m1,p1,q1,t1⟩:=Paired.at_ hP x1;obtain⟨l2,m2,p2,q2,t2⟩:=Paired.at_ hP x2;have a1:vT xs (1+(i:Int)-1)=some (.ref p1):=by rw[e1,<-q1];exact rj x1
  have a2:vT xs (1+(i:Int))=some (.ref p2):=by rw[e2,<-q2];exact rj x2
  have abF:HT.lexLt l1 l2=true:=by
   obtain⟨h1,rfl⟩:=oG.mp m1;obtain⟨h2,rfl⟩:=oG.mp m2;exact BK.mp hrr i (i+1) h1 h2 (by omega)
  refine⟨_,rfl,_,rfl,_,_,rfl,rfl,a,xs,_,_,rfl,rfl,sm.seq hS,a1,_,rfl,_,rfl,a,xs,_,_,rfl,rfl,sm.seq hS,a2,?_⟩;refine⟨p1,p2,l1,l2,rfl,rfl,sm.tup t1,sm.tup t2,?_,sm,_,rfl⟩;show _++[V.bl (HT.lexLt l1 l2)]=_;rw[abF,Xo,bR];rfl
 ·intro p1 hp1;obtain⟨rfl,sm,_⟩:=p;refine⟨p1,_,rfl,ja.of aK,?_⟩;rw[tj];exact q _ (sm.trans (aR hp1 _))
inductive vD(K:af)(vs:List V)(H:Hp)(Q:VK)(E_:XK):Prop
 |mk(p:ag)(u:Int)(v:Nat)(_:vs=[.ref p])(_:SqT K H p [.int u,.int ((v:Nat):Int)])(_:0<=u)(_:0<v)(_:v<=39916800)(_:Q (.bl true) H)
theorem Uu{f:ag}{fd:χ}{tk0:Tok}
  (F:pV K "is_fraction" "is_fraction" Fc f fd)(D1:Dp P w K mg base 1 "is_whole" Np ["thing"] (eE K))(bU:mg "len"=none)(aB:mg "isinstance"=none)(aJ:mg "tuple"=none)(xP:mg "MOST_BOTTOM"=some (.int 1000000000 tk0)):
  gx P w K mg base kG 2 f fd ["thing"] (vD K):=by
 refine F.dD ["thing"] λH Q hr h=>?_;obtain⟨p,u,v,rfl,hp,h0,hv,hb,q⟩:=h;refine⟨_,(aN (iK (PW.pt (rH (jy (iT (pB Fo aB (aj (pv 0) (aj (pN "tuple" aJ) ak))))) (rH (gU sq (pB wZ bU (aj (pv 0) ak)) aL) (rH (jy (iT (pd D1 hr (aj (bw cH (pv 0) aL) ak)))) (uY (jy (iT (pd D1 hr (aj (bw cH (pv 0) aL) ak))))))))) (aY (bK jl)) iM) (aY (bK (Bw (uZ zC (bw cH (pv 0) aL) aL) (qE (uj tP tP aL (bw cH (pv 0) aL) (ue rfl xP (v:=.int 1000000000) ⟨_,rfl⟩))))))),?_⟩;refine⟨_,rfl,.ref p,"tuple",_,rfl,.inl ⟨rfl,_,hp⟩,.inr (.inr (.inl rfl)),_,rfl,?_⟩;apply kL;refine⟨_,rfl,p,_,rfl,.inr hp,λhz=>⟨rfl,_,rfl,?_⟩⟩;apply kL;refine⟨_,rfl,p,_,_,.int u,rfl,rfl,hp,rfl,.int u,.int u,rfl,.int _,_,rfl,?_⟩;apply kL;refine⟨_,rfl,p,_,_,.int v,rfl,rfl,hp,rfl,.int v,.int v,rfl,.int _,_,rfl,?_⟩;apply kL;refine⟨_,rfl,p,_,_,.int u,rfl,rfl,hp,rfl,_,_,rfl,rfl,_,rfl,?_⟩;rw[cI h0];apply si;refine⟨_,rfl,p,_,_,.int v,rfl,rfl,hp,rfl,_,_,rfl,rfl,_,rfl,?_⟩;rw[cI (show(1:Int)<=(v:Int) by omega)];apply si;refine⟨_,_,rfl,rfl,?_⟩;show Q (.bl (decide ((v:Int)<=1000000000))) H;rw[cI (show(v:Int)<=1000000000 by omega)];exact q
theorem yF{α:Type}{l:List α}(h:i<l.length)(g:α->Bool):(l.take (i+1)).filter g=(l.take i).filter g++(if g l[i]=true then[l[i]]else[]):=by
 rw[ER h,Fe,Ks];split<;>rfl
inductive rO(K:af)(vs:List V)(H:Hp)(Q:VK)(E_:XK):Prop
 |mk(a:ag)(n:Int)(ts:L0)(v:V)(q:ζ×(Int×Nat))(_:vs=[.ref a,v])(_:aZ K H a n ts)(_:RM K H v q)(_:P8 n ts q)(_:∀H',Same H H'->Q (.bl true) H')
theorem GZ{f:ag}{fd:χ}
  (F:pV K "is_share" "is_share" iu f fd)(D1:Dp P w K mg base 2 "is_fraction" Fc ["thing"] (vD K))(D2:Dp P w K mg base 4 "is_set" fV ["n","thing"] (tX K))(D3:Dp P w K mg base 1 "count_ties_in" gA ["web","some"] (zA K))(bU:mg "len"=none)(aB:mg "isinstance"=none)(aJ:mg "tuple"=none):
  gx P w K mg base kG 5 f fd ["web","thing"] (rO K):=by
 refine F.dD ["web","thing"] λH Q hr h=>?_;obtain⟨a,n,ts,v,q,rfl,hA,hv,hq,qq⟩:=h;refine⟨_,(aN (iK (PW.pt (rH (jy (iT (pB Fo aB (aj (pv 1) (aj (pN "tuple" aJ) ak))))) (uY (gU sq (pB wZ bU (aj (pv 1) ak)) aL)))) (aY (bK jl)) iM) (aN (iK (PW.pt (rH (jy (iT (pd D2 hr (aj (bw cH (pv 0) aL) (aj (bw cH (pv 1) aL) ak))))) (uY (jy (iT (pd D1 hr (aj (bw cH (pv 1) aL) ak))))))) (aY (bK jl)) iM) (aY (bK (Bw (uZ xC (pd D3 hr (aj (pv 0) (aj (bw cH (pv 1) aL) ak))) aL) (qE (uZ xB (bw cH (bw cH (pv 1) aL) aL) aL))))))),?_⟩;obtain⟨t,sa,fa,rfl,h1,h2,h3⟩:=hv;obtain⟨Jh,Jw,w1,w2,w3⟩:=id hA.web;refine⟨_,rfl,.ref t,"tuple",_,rfl,.inl ⟨rfl,_,h1⟩,.inr (.inr (.inl rfl)),_,rfl,?_⟩;apply kL;refine⟨_,rfl,t,_,rfl,.inr h1,λhz=>⟨rfl,_,rfl,?_⟩⟩;apply kL;refine⟨_,rfl,a,_,_,.int n,rfl,rfl,w1,rfl,_,rfl,t,_,_,.ref sa,rfl,rfl,h1,rfl,n,.ref sa,_,rfl,.tup h2 (cY.ints q.1).dx,λH1 s1=>⟨_,rfl,?_⟩⟩;rw[(cT.mk hq.up hq.lt).dB];apply kL;have hbig:=hq.big;refine⟨_,rfl,t,_,_,.ref fa,rfl,rfl,s1.tup h1,rfl,fa,q.2.1,q.2.2,rfl,s1.tup h3,Nq hq.pos,hq.bot,hbig,_,rfl,?_⟩;apply kL;refine⟨_,rfl,_,rfl,t,_,_,.ref sa,rfl,rfl,s1.tup h1,rfl,true,a,sa,n,ts,q.1,rfl,hA.same s1,s1.tup h2,λH2 s2=>?_⟩;have s12:=s1.trans s2;refine⟨rfl,_,rfl,?_⟩;rw[hq.no];apply si;refine⟨_,rfl,t,_,_,.ref fa,rfl,rfl,s12.tup h1,rfl,fa,_,_,.int q.2.1,rfl,rfl,s12.tup h3,rfl,_,_,rfl,rfl,?_⟩;show Q (.bl (decide (0<q.2.1))) H2;rw[cI hq.pos];exact qq _ s12
inductive o7(K:af)(vs:List V)(H:Hp)(Q:VK)(E_:XK):Prop
 |mk(a la:ag)(n:Int)(ts:L0)(rs:List V)(l:List (ζ×(Int×Nat)))(_:vs=[.ref a,.ref la])(_:aZ K H a n ts)(_:ja K H la rs)(_:jJ K H rs l)(_:RQ n ts l)(_:∀H',Same H H'->Q (.bl true) H')
theorem CK{f:ag}{fd:χ}
  (F:pV K "is_laying" "is_laying" fW f fd)(D1:Dp P w K mg base 5 "is_share" iu ["web","thing"] (rO K))(D2:Dp P w K mg base 1 "is_rising" Xf ["things"] (rK K))(dG:mg "all"=none)(aB:mg "isinstance"=none)(gD:mg "list"=none):
  gx P w K mg base kG 6 f fd ["web","thing"] (o7 K):=by
 refine F.dD ["web","thing"] λH Q hr h=>?_;obtain⟨a,la,n,ts,rs,l,rfl,hA,hL,hv,hl,qq⟩:=h;refine⟨_,(aN (iK (PW.pt (rH (jy (iT (pB Fo aB (aj (pv 1) (aj (pN "list" gD) ak))))) (uY (jy (iT (pB (Fl rfl) dG (aj (pK ["share"] ["web"] [0] (ur (pv 1)) (pG 0) lF (pd D1 hr (aj (pv 1) (aj (pv 0) ak)))) ak))))))) (aY (bK jl)) iM) (aY (bK (pd D2 hr (aj (pK ["share"] [] [] (ur (pv 1)) (pG 0) lF (bw (Ez K) (pv 0) aL)) ak))))),?_⟩;have ac:=Paired.dM hv;have h36:=hl.len;refine⟨_,rfl,.ref la,"list",_,rfl,.inr (.inl ⟨rfl,_,hL⟩),.inr (.inr (.inr rfl)),_,rfl,?_⟩;apply kL;refine⟨_,rfl,la,rs,rfl,hL,λhz=>?_⟩;refine w6 (xs:=rs) (λi acc σ H'=>acc=(ah i true).map V.bl/\Same H H'/\∃o,σ=[o,some (.ref a)]) ⟨rfl,Same.refl _,_,rfl⟩ (λi acc σ H' _ p=>p.2.1.seq hL) (λi acc σ H' _ p=>by rw[p.1,aD,Kw];exact aP _) hz (λi x acc σ H' hx p=>?_) (λacc σ H' p=>?_)
 ·obtain⟨rfl,sm,o,rfl⟩:=p;obtain⟨q,hq,hvq⟩:=Paired.at_ hv hx;refine⟨_,rfl,_,rfl,a,n,ts,x,q,rfl,hA.same sm,hvq.same sm,hl.all q (oF hq),λH2 s2=>⟨?_,sm.trans s2,_,rfl⟩⟩;rw[Xo,bR];rfl
 intro p1 hp1;obtain⟨rfl,sm,_⟩:=p;have s1:=sm.trans (aR hp1 (.lst ((ah rs.length true).map V.bl)));refine⟨p1,_,rfl,ja.of aK,_,rfl,?_⟩;rw[tj];apply kL;generalize upd H' p1 (.lst ((ah rs.length true).map V.bl))=H1 at *;have hv1:=jJ.same hv s1;refine⟨_,rfl,la,rs,rfl,s1.seq hL,λhz=>?_⟩;refine w6 (xs:=rs) (λi acc σ H'=>H'=H1/\ce (λv l=>∃p,v=.ref p/\SqT K H1 p (l.map V.int)) acc ((l.take i).map (·.1))/\∃o,σ=[o]) ⟨rfl,.nil,_,rfl⟩ (λi acc σ H' _ p=>by rw[p.1];exact s1.seq hL) (λi acc σ H' _ p=>?_) hz (λi x acc σ H' hx p=>?_) (λacc σ H' p=>?_)
 ·rw[Paired.dM p.2.1,aD,nR];exact u9 _ _
 ·obtain⟨rfl,hp,o,rfl⟩:=p;obtain⟨q,hq,t,sa,fa,rfl,h1,h2,h3⟩:=Paired.at_ hv1 hx;refine⟨_,rfl,t,_,_,.ref sa,rfl,rfl,h1,rfl,rfl,?_,_,rfl⟩;obtain⟨hi,rfl⟩:=oG.mp hq;rw[ER hi,bR];exact Paired.snoc hp ⟨sa,rfl,h2⟩
 intro p2 hp2;obtain⟨rfl,hp,_⟩:=p;have s2:=aR hp2 (.lst acc);rw[Fq (by omega)]at hp;refine⟨p2,acc,l.map (·.1),rfl,ja.of aK,Paired.mapP hp λ_ _ ⟨p,e,z⟩=>⟨p,e,s2.tup z⟩,hl.rise,λH3 s3=>qq _ (s1.trans (s2.trans s3))⟩
theorem Ce(hv:jJ K H rs l)(hx:rs[i]? =some x):∃(hi:i<l.length) (t sa fa:ag),x=.ref t/\SqT K H t [.ref sa,.ref fa]/\SqT K H sa (l[i].1.map V.int)/\rm K H fa l[i].2:=by
 obtain⟨q,hq,t,sa,fa,e,h1,h2,h3⟩:=Paired.at_ hv hx;obtain⟨hi,rfl⟩:=oG.mp hq;exact⟨hi,t,sa,fa,e,h1,h2,h3⟩
inductive Gg(K:af)(vs:List V)(H:Hp)(Q:VK)(E_:XK):Prop
 |mk(la:ag)(p w:Int)(rs:List V)(l:List (ζ×(Int×Nat)))(D:Nat)(_:vs=[.ref la,.int p,.int w])(_:ja K H la rs)(_:jJ K H rs l)(_:l.length<=36)(_:IB D ((l.filter λq=>decide (p∈q.1)).map (·.2)))(_:w*(D:Int)<=nZ D ((l.filter λq=>decide (p∈q.1)).map (·.2)))(_:∀H',Same H H'->Q (.bl true) H')
theorem Ux{f:ag}{fd:χ}
  (F:pV K "gets" "gets" Gu f fd)(D1:Dp P w K mg base 1 "is_less" Ti ["one","other"] (oY K))(D2:Dp P w K mg base 2 "sum_of" gZ ["fractions"] (jY K)):
  gx P w K mg base kG 3 f fd ["laying","place","want"] (Gg K):=by
 refine F.dD ["laying","place","want"] λH Q hr h=>?_;obtain⟨la,p,w,rs,l,D,rfl,hL,hv,h36,hD,hw,qq⟩:=h;refine⟨_,(aY (bK (uv (pd D1 hr (aj (pd D2 hr (aj (pK ["share"] ["place"] [1] (ur (pv 0)) (pG 0) (Fb (gU (kI K hr.units) (pv 1) (bw (Ez K) (pv 0) aL) (by with_unfolding_all rfl))) (bw (Ez K) (pv 0) aL)) ak)) (aj (ou (aj (pv 2) (aj aL ak))) ak)))))),?_⟩;have ac:=Paired.dM hv;refine⟨_,rfl,la,rs,rfl,hL,λhz=>?_⟩;refine w6 (xs:=rs) (λi acc σ H'=>H'=H/\gj K H acc (((l.take i).filter λq=>decide (p∈q.1)).map (·.2))/\∃o,σ=[o,some (.int p)]) ⟨rfl,.nil,_,rfl⟩ (λi acc σ H' _ p=>by rw[p.1];exact hL) (λi acc σ H' _ p=>?_) hz (λi x acc σ H' hx p'=>?_) (λacc σ H' p'=>?_)
 ·rw[Paired.dM p.2.1,aD];exact dH (vf _ _) (by rw[nR];exact u9 _ _)
 ·obtain⟨rfl,hf,o,rfl⟩:=p';obtain⟨hi,t,sa,fa,rfl,h1,h2,h3⟩:=Ce hv hx;refine⟨_,rfl,_,rfl,t,_,_,.ref sa,rfl,rfl,h1,rfl,sa,_,_,.int p,rfl,.inr h2,cY.ints _,.int _,Fd _,rfl,(by show 0<=60;decide),_,rfl,?_⟩;rw[Nk];refine nE (λc=>?_) (λc=>?_)
  ·refine⟨_,rfl,t,_,_,.ref fa,rfl,rfl,h1,rfl,rfl,?_,_,rfl⟩;rw[yF hi,au c,bR];exact Paired.snoc hf ⟨fa,rfl,h3⟩
  ·refine⟨rfl,?_,_,rfl⟩;rw[yF hi,aq c,xr];exact hf
 intro p1 hp1;obtain⟨rfl,hf,_⟩:=p';rw[Fq (by omega)]at hf;have s1:=aR hp1 (.lst acc);have hal:acc.length<=36:=by
  rw[Paired.dM hf,aD];exact dH (vf _ _) h36
 refine⟨p1,acc,_,D,rfl,ja.of aK,gj.same hf s1,hD,by omega,λr a b H2 s2 hr2 hs _=>?_⟩;refine⟨_,rfl,rV,λr2 Zd=>?_⟩;have s3:=aR Zd (.tup [.int w,.int 1]);have hbD:=hs.le hD.pos;have hD1:=hD.le;refine⟨r,r2,a,w,b,1,rfl,s3.tup (SqT.of hr2),SqT.of aK,by omega,by omega,_,rfl,?_⟩;have:=hs.CV hD.pos hw;show Q (.bl (!decide (a*((1:Nat):Int)<w*(b:Int)))) _;rw[gY (by omega)];exact qq _ (s1.trans (s2.trans s3))
inductive Gb(K:af)(vs:List V)(H:Hp)(Q:VK)(E_:XK):Prop
 |mk(sa pa:ag)(xs:ζ)(cu:List V)(n:Nat)(fs:List (Int×Nat))(D:Nat)(_:vs=[.ref sa,.ref pa])(_:SqT K H sa (xs.map V.int))(_:ja K H pa cu)(_:gj K H cu fs)(_:fs.length=n)(_:∀x∈xs,0<=x/\x<(n:Int))(_:xs.length<=1000)(_:IB D (xs.map λx=>fs.getD x.toNat (0,1)))(_:nZ D (xs.map λx=>fs.getD x.toNat (0,1))<=1*(D:Int))(_:∀H',Same H H'->Q (.bl false) H')
theorem Ur{f:ag}{fd:χ}
  (F:pV K "outweighs" "outweighs" mj f fd)(D1:Dp P w K mg base 1 "is_less" Ti ["one","other"] (oY K))(D2:Dp P w K mg base 2 "sum_of" gZ ["fractions"] (jY K)):
  gx P w K mg base kG 3 f fd ["some","prices"] (Gb K):=by
 refine F.dD ["some","prices"] λH Q hr h=>?_;obtain⟨sa,pa,xs,cu,n,fs,D,rfl,hS,hP,hf,hn,hx,h1k,hD,hw,qq⟩:=h;refine⟨_,(aY (bK (pd D1 hr (aj (ou (aj aL (aj aL ak))) (aj (pd D2 hr (aj (pK ["place"] ["prices"] [1] (EY (pv 0)) (pG 0) lF (bw (eV K) (pv 1) (pv 0))) ak)) ak))))),?_⟩;have ac:=Paired.dM hf;refine⟨rV,λr1 hr1=>?_⟩;have s1:=aR hr1 (.tup [.int 1,.int 1]);have er:(upd H r1 (.tup [.int 1,.int 1])) r1=some (.tup [.int 1,.int 1]):=aK;have hf1:=gj.same hf s1;have hS1:=s1.tup hS;have hP1:=s1.seq hP;generalize (upd H r1 (.tup [.int 1,.int 1]))=H1 at *;refine⟨_,rfl,sa,_,rfl,hS1,λhz=>?_⟩;refine IV (xs:=xs.map V.int) (λi acc σ H'=>H'=H1/\gj K H1 acc ((xs.take i).map λx=>fs.getD x.toNat (0,1))/\∃o,σ=[o,some (.ref pa)]) ⟨rfl,.nil,_,rfl⟩ (λi acc σ H' _ p=>by rw[p.1];exact hS1) (λi acc σ H' _ p=>?_) hz (λi x acc σ H' hx' p=>?_) (λacc σ H' p=>?_)
 ·rw[Paired.dM p.2.1,aD,nR];exact u9 _ _
 ·obtain⟨rfl,hp,o,rfl⟩:=p;rw[dI]at hx';cases ex:xs[i]? with
  |none=>rw[ex]at hx';cases hx'
  |some y=>
   rw[ex]at hx';cases hx';have hy:=hx y (oF ex);have hk:y.toNat<cu.length:=by omega
   have hv:cu[y.toNat]? =some cu[y.toNat]:=cU hk;obtain⟨g,hg,fa,e,h3⟩:=Paired.at_ hf1 hv;have ha:vT cu y=some (.ref fa):=by
    have:y=((y.toNat:Nat):Int):=by omega
    rw[this,<-e];exact rj hv
   refine⟨_,rfl,_,rfl,pa,cu,_,_,rfl,rfl,hP1,ha,rfl,?_,_,rfl⟩;obtain⟨hi,rfl⟩:=oG.mp ex;rw[ER hi,bR];refine Paired.snoc hp ⟨fa,rfl,?_⟩;show rm K H' fa (fs.getD xs[i].toNat (0,1));rw[dY,hg];exact h3
 intro p1 hp1;obtain⟨rfl,hp,_⟩:=p;rw[aD,rE]at hp;have s2:=aR hp1 (.lst acc);have hal:acc.length<=1000:=by rw[Paired.dM hp,aD];exact h1k
 refine⟨p1,acc,_,D,rfl,ja.of aK,gj.same hp s2,hD,hal,λr a b H2 s3 hr2 hs _=>?_⟩;have hbD:=hs.le hD.pos;have hD1:=hD.le;refine⟨r1,r,1,a,1,b,rfl,(s2.trans s3).tup (SqT.of er),SqT.of hr2,by omega,by omega,?_⟩;have:=hs.CT hD.pos hw;show Q (.bl (decide (1*((b:Nat):Int)<a*((1:Nat):Int)))) _;rw[gY (by omega)];exact qq _ (s1.trans (s2.trans s3))
inductive jZ(K:af)(vs:List V)(H:Hp)(Q:VK)(E_:XK):Prop
 |mk(a wa la na:ag)(n:Int)(ts:L0)(wl:ζ)(lrefs:List V)(ss:List ζ)(ov:Nat)(Z:Int)(Y X:Nat->Int)(_:vs=[.ref a,.ref wa,.ref la,.ref na])(_:aZ K H a n ts)(_:SqT K H wa (wl.map V.int))(_:qd n wl)(_:ja K H la lrefs)(_:jJ K H lrefs (bh ss ov Y))(_:rm K H na (aH Z ov))(_:bH ss ts false n.toNat)(_:Sh n.toNat ss wl ov Z Y X)(_:∀H',Same H H'->Q (.bl true) H')
theorem CN{f:ag}{fd:χ}
  (F:pV K "is_enough" "is_enough" jc f fd)(D1:Dp P w K mg base 7 "need_web" yQ ["thing"] (aU K))(D2:Dp P w K mg base 2 "need_wants" EF ["web","thing"] (dU K))(D3:Dp P w K mg base 6 "is_laying" fW ["web","thing"] (o7 K))(D4:Dp P w K mg base 3 "gets" Gu ["laying","place","want"] (Gg K))(D5:Dp P w K mg base 1 "is_less" Ti ["one","other"] (oY K))(D6:Dp P w K mg base 2 "sum_of" gZ ["fractions"] (jY K))(dG:mg "all"=none)(cA:mg "enumerate"=none):
  gx P w K mg base kG 8 f fd ["web","wants","laying","number"] (jZ K):=by
 refine F.M7 ["web","wants","laying","number"] λcdv A outer s H vs Q E hr h=>?_;obtain⟨a,wa,la,na,n,ts,wl,lrefs,ss,ov,Z,Y,X,rfl,hA,hW,hwl,hL,hv,hN,Zo,hSh,qq⟩:=h;refine⟨_,(aN (oR (pd D1 hr (aj (pv 0) ak))) (aN (oR (pd D2 hr (aj (pv 0) (aj (pv 1) ak)))) (aN (iK (jy (iT (pd D3 hr (aj (pv 0) (aj (pv 2) ak))))) (aY (bK jl)) iM) (aN (iK (jy (iT (pB (Fl rfl) dG (aj (pK ["place","want"] ["laying"] [2] (qL rfl cA (aj (pv 1) ak)) (Kl K (n:=2) rfl (jz (pG 0) (jz (pG 1) yO))) lF (pd D4 hr (aj (pv 2) (aj (pv 0) (aj (pv 1) ak))))) ak)))) (aY (bK jl)) iM) (aY (bK (uv (pd D5 hr (aj (pv 3) (aj (pd D6 hr (aj (pK ["share"] [] [] (ur (pv 2)) (pG 0) lF (bw (Ez K) (pv 0) aL)) ak)) ak)))))))))),?_⟩;have h0:=hA.h0;have h10:=hA.h1;have en:((n.toNat:Nat):Int)=n:=by omega
 have hwn:wl.length=n.toNat:=by have:=hwl.1;omega
 have hok:RQ n ts (bh ss ov Y):=by
  have:=Af (n:=n.toNat) (by rw[en];exact hA.pk) (by omega) Zo hSh
  rwa [en]at this
 have rG:=hSh.pos;have h36:=hok.len;refine⟨_,rfl,.ref a,_,rfl,hA.web.dv.dx,hA.ok,λH1 s1=>?_⟩;obtain⟨Jh,Jw,w1,w2,w3⟩:=id (hA.same s1).web;refine⟨_,rfl,_,rfl,a,wa,n,_,wl,rfl,w1,s1.tup hW,hwl,λH2 s2=>?_⟩;have s12:=s1.trans s2;refine⟨_,rfl,_,rfl,a,la,n,ts,lrefs,bh ss ov Y,rfl,hA.same s12,s12.seq hL,jJ.same hv s12,hok,λH3 s3=>⟨_,rfl,?_⟩⟩;apply kL;have jx:=s12.trans s3;refine⟨_,rfl,true,wa,_,rfl,jx.tup hW,λhz=>?_⟩;refine jH (K:=K) (b:=true) (a:=wa) (xs:=wl.map V.int) (λi acc σ H'=>acc=(ah i true).map V.bl/\Same H3 H'/\∃o1 o2,σ=[o1,o2,some (.ref la)]) ⟨rfl,Same.refl _,_,_,rfl⟩ (λi acc σ H' _ p=>(jx.trans p.2.1).tup hW) (λi acc σ H' _ p=>by rw[p.1,aD,Kw];exact aP _) hz (λi v t acc σ H' hv' p ht=>?_) (λacc σ H' p=>?_)
 ·obtain⟨rfl,sm,o1,o2,rfl⟩:=p;rw[dI]at hv';cases ev:wl[i]? with
  |none=>rw[ev]at hv';cases hv'
  |some y=>
   rw[ev]at hv';cases hv';have hi:i<n.toNat:=by have:=(oG.mp ev).1;omega
   have t1:=aR ht (.tup [.int (i:Int),.int y]);have st:=jx.trans (sm.trans t1);have hwy:jT wl i=y:=by unfold jT;rw[dY,ev];rfl
   refine⟨t,_,rfl,SqT.of aK,rfl,_,_,rfl,_,_,rfl,rfl,?_⟩;refine⟨_,rfl,_,rfl,_,rfl,la,(i:Int),y,lrefs,bh ss ov Y,ov,rfl,st.seq hL,jJ.same hv st,h36,Ag hSh (λs=>decide ((i:Int)∈s)),?_,λH5 s5=>⟨?_,sm.trans (t1.trans s5),_,_,rfl⟩⟩
   ·have e:=qQ (ss:=ss) rG hSh.yn (λs=>decide ((i:Int)∈s)) ss.length;have e2:=hSh.eno i hi;rw[hwy]at e2;unfold bh;rw[e];have:y*(ov:Int)=(ov:Int)*y:=Bo _ _;rw[this];exact e2
   ·rw[Xo,bR];rfl
 intro p1 hp1;obtain⟨rfl,sm,_⟩:=p;have zP:=jx.trans (sm.trans (aR hp1 (.lst ((ah (wl.map V.int).length true).map V.bl))));refine⟨p1,_,rfl,ja.of aK,_,rfl,?_⟩;rw[tj];apply kL;generalize upd H' p1 (.lst ((ah (wl.map V.int).length true).map V.bl))=H4 at *;have hv4:=jJ.same hv zP;refine⟨_,rfl,_,rfl,la,lrefs,rfl,zP.seq hL,λhz=>?_⟩;refine w6 (xs:=lrefs) (λi acc σ H'=>H'=H4/\gj K H4 acc (((bh ss ov Y).take i).map (·.2))/\∃o,σ=[o]) ⟨rfl,.nil,_,rfl⟩ (λi acc σ H' _ p=>by rw[p.1];exact zP.seq hL) (λi acc σ H' _ p=>?_) hz (λi x acc σ H' hx p=>?_) (λacc σ H' p=>?_)
 ·rw[Paired.dM p.2.1,aD,nR];exact u9 _ _
 ·obtain⟨rfl,hp,o,rfl⟩:=p;obtain⟨hi,t,sa,fa,rfl,h1,h2,h3⟩:=Ce hv4 hx;refine⟨_,rfl,t,_,_,.ref fa,rfl,rfl,h1,rfl,rfl,?_,_,rfl⟩;rw[ER hi,bR];exact Paired.snoc hp ⟨fa,rfl,h3⟩
 intro p2 hp2;obtain⟨rfl,hp,_⟩:=p;have ac:=Paired.dM hv;rw[Fq (by omega)]at hp;have s2':=aR hp2 (.lst acc);have hal:acc.length<=36:=by rw[Paired.dM hp,aD];exact h36
 have hdk:=Ag hSh (λ_=>true);have ef:((bh ss ov Y).filter λ_=>true)=bh ss ov Y:=Wb.mpr λ_ _=>rfl;rw[ef]at hdk;refine⟨p2,acc,_,ov,rfl,ja.of aK,gj.same hp s2',hdk,by omega,λr a' b' H5 s5 hr5 hs _=>?_⟩;have hbD:=hs.le rG;have hD1:=hSh.big;have l:=Fp Z rG;have lv:=l.lv;refine⟨na,r,(aH Z ov).1,a',(aH Z ov).2,b',rfl,(zP.trans (s2'.trans s5)).tup hN,SqT.of hr5,by omega,by omega,_,rfl,?_⟩;have e:=qQ (ss:=ss) rG hSh.yn (λ_=>true) ss.length;have e2:nZ ov ((bh ss ov Y).map (·.2))=Z:=by
  rw[<-ef];unfold bh;rw[e,<-hSh.tot];exact Sx.bx _ λk _=>au rfl
 have:=hs.zM rG l e2;show Q (.bl (!decide ((aH Z ov).1*((b':Nat):Int)<a'*(((aH Z ov).2:Nat):Int)))) _;rw[gY (by omega)];exact qq _ (zP.trans (s2'.trans s5))
theorem Dv:∀{xs:ζ}{m:Int},xs.Pairwise (· < ·)->(∀x∈xs,m<=x/\x<n)->m<=n->m+(xs.length:Int)<=n
 |[],m,_,_,h=>by simpa using h
 |x::xs,m,hp,hb,_=>by
  obtain⟨h1,h2⟩:=EO.mp hp;have hx:=hb x dZ;have:=Dv (m:=m+1) h2 (λy hy=>⟨by have:=h1 y hy;omega,(hb y (fB _ hy)).2⟩) (by omega);rw[uL];omega
theorem Vh{n:Nat}{xs:ζ}(h:xs.Pairwise (· < ·))(hb:∀x∈xs,0<=x/\x<(n:Int)):xs.length<=n:=by
 have:=Dv (m:=0) h hb (by omega);omega
theorem A1(k):(ah k false).any id=false:=by
 rw[Xl];intro b hb;rw[(Fu.mp hb).2];decide
theorem Ue{n ov:Nat}{xs:ζ}(hx:∀x∈xs,0<=x/\x<(n:Int)):(xs.map λx=>(uc n ov X).getD x.toNat (0,1))=xs.map λx=>aH (X x.toNat) ov:=by
 refine Xm λx h=>?_;have:=hx x h;unfold uc;rw[dY,dI,Tt (by omega)];rfl
inductive iY(K:af)(vs:List V)(H:Hp)(Q:VK)(E_:XK):Prop
 |mk(a wa pa na:ag)(n:Int)(ts:L0)(wl:ζ)(cu:List V)(ss:List ζ)(ov:Nat)(Z:Int)(Y X:Nat->Int)(_:vs=[.ref a,.ref wa,.ref pa,.ref na])(_:aZ K H a n ts)(_:SqT K H wa (wl.map V.int))(_:qd n wl)(_:ja K H pa cu)(_:gj K H cu (uc n.toNat ov X))(_:rm K H na (aH Z ov))(_:bH ss ts false n.toNat)(_:Sh n.toNat ss wl ov Z Y X)(_:∀H',Same H H'->Q (.bl true) H')
theorem zZ{f:ag}{fd:χ}
  (F:pV K "are_prices" "are_prices" j7 f fd)(D1:Dp P w K mg base 7 "need_web" yQ ["thing"] (aU K))(D2:Dp P w K mg base 2 "need_wants" EF ["web","thing"] (dU K))(D3:Dp P w K mg base 2 "is_fraction" Fc ["thing"] (vD K))(D4:Dp P w K mg base 8 "full_apart" gH ["web"] (iW K))(D5:Dp P w K mg base 3 "outweighs" mj ["some","prices"] (Gb K))(D6:Dp P w K mg base 2 "sum_of" gZ ["fractions"] (jY K))(D7:Dp P w K mg base 1 "is_less" Ti ["one","other"] (oY K))(dG:mg "all"=none)(bU:mg "len"=none)(aB:mg "isinstance"=none)(gD:mg "list"=none)(Dg:mg "any"=none)(aaC:mg "zip"=none):
  gx P w K mg base kG 9 f fd ["web","wants","prices","number"] (iY K):=by
 refine F.dD ["web","wants","prices","number","worth"] λH Q hr h=>?_;obtain⟨a,wa,pa,na,n,ts,wl,cu,ss,ov,Z,Y,X,rfl,hA,hW,hwl,Vl,hf,hN,Zo,hSh,qq⟩:=h;refine⟨_,(aN (oR (pd D1 hr (aj (pv 0) ak))) (aN (oR (pd D2 hr (aj (pv 0) (aj (pv 1) ak)))) (aN (iK (PW.pt (rH (jy (iT (pB Fo aB (aj (pv 2) (aj (pN "list" gD) ak))))) (rH (gU sq (pB wZ bU (aj (pv 2) ak)) (bw cH (pv 0) aL)) (uY (jy (iT (pB (Fl rfl) dG (aj (pK ["price"] [] [] (ur (pv 2)) (pG 0) lF (pd D3 hr (aj (pv 0) ak))) ak)))))))) (aY (bK jl)) iM) (aN (iK (iT (pB (wJ rfl) Dg (aj (pK ["some"] ["prices"] [2] (ur (pd D4 hr (aj (pv 0) ak))) (pG 0) lF (pd D5 hr (aj (pv 0) (aj (pv 1) ak)))) ak))) (aY (bK jl)) iM) (aN (pS 4 (pd D6 hr (aj (pK ["want","price"] [] [] (Yo rfl aaC (aj (pv 1) (aj (pv 2) ak))) (Kl K (n:=2) rfl (jz (pG 0) (jz (pG 1) yO))) lF (ou (aj (dF qS (pv 0) (bw (Ez K) (pv 1) aL)) (aj (bw (Ez K) (pv 1) aL) ak)))) ak))) (aY (bK (uv (pd D7 hr (aj (pv 4) (aj (pv 3) ak))))))))))),?_⟩;have h0:=hA.h0;have h10:=hA.h1;have en:((n.toNat:Nat):Int)=n:=by omega
 have hwn:wl.length=n.toNat:=by have:=hwl.1;omega
 have rG:=hSh.pos;have ovb:=hSh.big;have hpl:cu.length=n.toNat:=by rw[Paired.dM hf];unfold uc;rw[aD,uM]
 refine⟨_,rfl,.ref a,_,rfl,hA.web.dv.dx,hA.ok,λH1 s1=>?_⟩;obtain⟨Jh,Jw,w1,w2,w3⟩:=id (hA.same s1).web;refine⟨_,rfl,_,rfl,a,wa,n,_,wl,rfl,w1,s1.tup hW,hwl,λH2 s2=>?_⟩;have s12:=s1.trans s2;obtain⟨tt2,rr2,x1,x2,x3⟩:=id (hA.same s12).web;refine⟨_,rfl,.ref pa,"list",_,rfl,.inr (.inl ⟨rfl,_,s12.seq Vl⟩),.inr (.inr (.inr rfl)),_,rfl,?_⟩;apply kL;refine⟨_,rfl,pa,cu,rfl,.inl (s12.seq Vl),λhz=>⟨_,rfl,a,_,_,.int n,rfl,rfl,x1,rfl,rfl,_,rfl,?_⟩⟩;have e1:(!decide (V.int ((cu.length:Nat):Int)=V.int n))=false:=by rw[hpl,en];simp
 rw[e1];apply kL;refine⟨_,rfl,pa,cu,rfl,s12.seq Vl,λhz=>?_⟩;have hf2:=gj.same hf s12;refine w6 (xs:=cu) (λi acc σ H'=>acc=(ah i true).map V.bl/\H'=H2/\∃o,σ=[o]) ⟨rfl,rfl,_,rfl⟩ (λi acc σ H' _ p=>by rw[p.2.1];exact s12.seq Vl) (λi acc σ H' _ p=>by rw[p.1,aD,Kw];exact aP _) hz (λi x acc σ H' hx p=>?_) (λacc σ H' p=>?_)
 ·obtain⟨rfl,rfl,o,rfl⟩:=p;obtain⟨g,hg,fa,rfl,h3⟩:=Paired.at_ hf2 hx;have hg2:∃p,g=aH (X p) ov:=by
   obtain⟨p,_,e⟩:=jP.mp (oF hg);exact⟨p,e.symm⟩
  obtain⟨p,rfl⟩:=hg2;obtain⟨g1,g2,g3⟩:=qP rG (hSh.xn p);refine⟨_,rfl,fa,_,_,rfl,h3,g1,g2,dH (FU rG g3) ovb,?_,rfl,_,rfl⟩;rw[Xo,bR];rfl
 intro p1 hp1;obtain⟨rfl,rfl,_⟩:=p;have jx:=s12.trans (aR hp1 (.lst ((ah cu.length true).map V.bl)));refine⟨p1,_,rfl,ja.of aK,_,rfl,?_⟩;rw[tj];apply kL;generalize upd H' p1 (.lst ((ah cu.length true).map V.bl))=H3 at *
 refine⟨_,rfl,a,n,ts,rfl,hA.same jx,λsl ss' H4 s4 Zq eY hsl=>?_⟩;obtain⟨ae,hS,hP,hss⟩:=Zq;have zP:=jx.trans s4;refine⟨sl,_,rfl,ja.of hS,λhz=>?_⟩;refine w6 (xs:=ae.map λp=>V.ref p.1) (λi acc σ H'=>acc=(ah i false).map V.bl/\Same H4 H'/\∃o,σ=[o,some (.ref pa)]) ⟨rfl,Same.refl _,_,rfl⟩ (λi acc σ H' _ p=>p.2.1.seq (ja.of hS)) (λi acc σ H' _ p=>by rw[p.1,aD,Kw];exact aP _) hz (λi x acc σ H' hx p=>?_) (λacc σ H' p=>?_)
 ·obtain⟨rfl,sm,o,rfl⟩:=p;rw[dI]at hx;cases ev:ae[i]? with
  |none=>rw[ev]at hx;cases hx
  |some it=>
   rw[ev]at hx;cases hx;have st:=zP.trans sm;have hit:=oF ev;have hK:m7 ts false n.toNat it.2:=uQ eY (by rw[<-hss];exact Tr hit);have hg:=Ue (ov:=ov) (X:=X) hK.lt;have abN:it.2.length<=1000:=by
    have:=Vh hK.up hK.lt;omega
   refine⟨_,rfl,_,rfl,it.1,pa,it.2,cu,n.toNat,uc n.toNat ov X,ov,rfl,sm.tup (hP it hit),st.seq Vl,gj.same hf st,by unfold uc;rw[aD,uM],hK.lt,abN,?_,?_,λH5 s5=>⟨?_,sm.trans s5,_,rfl⟩⟩
   ·rw[hg];refine⟨rG,ovb,λf hf'=>?_⟩;obtain⟨y,_,rfl⟩:=jP.mp hf';exact qP rG (hSh.xn _)
   ·rw[hg];exact En Zo hSh hK
   ·rw[Xo,bR];rfl
 intro p2 hp2;obtain⟨rfl,sm,_⟩:=p;have Bt:=zP.trans (sm.trans (aR hp2 (.lst ((ah (ae.map λp=>V.ref p.1).length false).map V.bl))));refine⟨p2,_,rfl,ja.of aK,_,rfl,?_⟩;rw[A1];apply kL;generalize upd H' p2 (.lst ((ah (ae.map λp=>V.ref p.1).length false).map V.bl))=H5 at *;have hf5:=gj.same hf Bt
 refine⟨_,rfl,_,rfl,wa,pa,wl.map V.int,cu,rfl,Bt.tup hW,Bt.seq Vl,by rw[aD];omega,λhz=>?_⟩;refine Ru (K:=K) (a:=wa) (b:=pa) (xs:=wl.map V.int) (ys:=cu) (λi acc σ H'=>gj K H' acc ((am i).map λp=>(jT wl p*(aH (X p) ov).1,(aH (X p) ov).2))/\Same H5 H'/\∃o1 o2,σ=[o1,o2]) ⟨.nil,Same.refl _,_,_,rfl⟩ (λi acc σ H' _ p=>⟨(Bt.trans p.2.1).tup hW,(Bt.trans p.2.1).seq Vl⟩) (by rw[aD];omega) (λi acc σ H' _ p=>by rw[Paired.dM p.1,aD,uM];exact aP _) hz (λi v x t acc σ H' hv hx p ht=>?_) (λacc σ H' p=>?_)
 ·obtain⟨hp,sm,o1,o2,rfl⟩:=p;rw[dI]at hv;cases ev:wl[i]? with
  |none=>rw[ev]at hv;cases hv
  |some y=>
   rw[ev]at hv;cases hv;have hi:i<n.toNat:=by have:=(oG.mp ev).1;omega
   have hwy:jT wl i=y:=by unfold jT;rw[dY,ev];rfl
   have hy:=hwl.2 y (oF ev);obtain⟨g,hg,fa,rfl,h3⟩:=Paired.at_ hf5 hx;have hg2:g=aH (X i) ov:=by
    unfold uc at hg;rw[dI,Tt hi]at hg;exact(uw hg).symm
   subst hg2;have t1:=aR ht (.tup [.int y,.ref fa]);have h3':=(sm.trans t1).tup h3;refine⟨t,_,rfl,SqT.of aK,rfl,_,_,rfl,_,_,rfl,rfl,?_⟩;refine⟨_,rfl,_,rfl,fa,_,_,.int (aH (X i) ov).1,rfl,rfl,h3',rfl,_,_,rfl,rfl,.inl ⟨by omega,by omega⟩,_,rfl,fa,_,_,.int (((aH (X i) ov).2:Nat):Int),rfl,rfl,h3',rfl,rV,λr hr'=>?_⟩;have t2:=aR hr' (.tup [.int (y*(aH (X i) ov).1),.int (((aH (X i) ov).2:Nat):Int)]);refine⟨?_,sm.trans (t1.trans t2),_,_,rfl⟩;rw[xq,bR];refine Paired.snoc (gj.same hp (t1.trans t2)) ⟨r,rfl,?_⟩;show rm K _ r (jT wl i*(aH (X i) ov).1,(aH (X i) ov).2);rw[hwy];exact SqT.of aK
 intro p3 hp3;obtain⟨hp,sm',_⟩:=p;rw[aD,hwn]at hp;have s6:=aR hp3 (.lst acc);have hal:acc.length<=1000:=by rw[Paired.dM hp,aD,uM];omega
 refine⟨p3,acc,_,ov,rfl,ja.of aK,gj.same hp s6,⟨rG,ovb,λf hf'=>?_⟩,hal,λr a' b' H7 s7 hr7 hs _=>?_⟩
 ·obtain⟨p,hp',rfl⟩:=jP.mp hf';obtain⟨g1,g2,g3⟩:=qP rG (hSh.xn p);refine⟨Br ?_ g1,g2,g3⟩;unfold jT;rw[dY,cU (by have:=nu.mp hp';omega)];exact(hwl.2 _ (yS _)).1
 have Ye:=Bt.trans (sm'.trans (s6.trans s7));have hbD:=hs.le rG;have l:=Fp Z rG;have lv:=l.lv;refine⟨_,rfl,_,rfl,r,na,a',(aH Z ov).1,b',(aH Z ov).2,rfl,SqT.of hr7,Ye.tup hN,by omega,by omega,_,rfl,?_⟩;have:=hs.zM rG l ((Jc rG n.toNat).trans hSh.wor);show Q (.bl (!decide (a'*(((aH Z ov).2:Nat):Int)<(aH Z ov).1*((b':Nat):Int)))) _;rw[gY (by omega)];exact qq _ Ye
end
end Hs
namespace L2
open PySem PySem.Spec PyProof.Rows
theorem El(h:i.natAbs<=10^200):Builtin.Int.intBits i<=2^20:=by
 refine dH (intBits_le_iff.mpr (Rx h)) (by decide+kernel)
section
variable{X:Cx}
theorem kj:sj X (cw .Mult) (rI (λi j=>i.natAbs<=10^200/\j.natAbs<=10^200) λi j=>.int (i*j)):=
 HG λi j _ _ _ _ _ hc q=>mul_int q (IntMulOk.of_bits (El hc.1) (El hc.2))
end
end L2
namespace Hs
open PySem L2 lQ
section
variable{P:υ}{w:ψ}{K:af}{mg:D0}{base:bn}
structure Fr(K:af)(H:Hp)(p:ag)(u:Int)(v:Nat):Prop where
 at_:H p=some (.tup [.int u,.int (v:Int)])
 pos:0<v
 lu:u.natAbs<=10^41
 lv:v<=10^41
theorem PZ:10^41<=10^200:=by decide+kernel
theorem Q4:10^41*10^41<=10^82:=by decide+kernel
theorem QE:10^82<=10^200:=by decide+kernel
theorem Fr.u{u:Int}(h:Fr K H p u v):u.natAbs<=10^200:=dH h.lu PZ
theorem Fr.v{u:Int}{v:Nat}(h:Fr K H p u v):((v:Int)).natAbs<=10^200:=dH h.lv PZ
theorem Fr.vv{u u':Int}{v v':Nat}(h:Fr K H p u v)(h':Fr K H' p' u' v'):v*v'<=10^82:=dH (Nat.mul_le_mul h.lv h'.lv) Q4
inductive uN(K:af)(vs:List V)(H:Hp)(Q:VK)(E_:XK):Prop
 |mk(p p':ag)(u u':Int)(v v':Nat)(_:vs=[.ref p,.ref p'])(_:Fr K H p u v)(_:Fr K H p' u' v')(_:Q (.bl (decide (u*(v':Int)<u'*(v:Int)))) H)
theorem Qf{f:ag}{fd:χ}
  (F:pV K "is_less" "is_less" Ti f fd):gx P w K mg base kG 1 f fd ["one","other"] (uN K):=by
 refine F.dD ["one","other"] λH Q hr h=>?_;obtain⟨p,p',u,u',v,v',rfl,h1,h2,q⟩:=h;refine⟨_,aY (bK (uZ uk (dF kj (bw cH (pv 0) aL) (bw cH (pv 1) aL)) (dF kj (bw cH (pv 1) aL) (bw cH (pv 0) aL)))),?_⟩;have q1:=SqT.of (K:=K) h1.at_;have q2:=SqT.of (K:=K) h2.at_;exact⟨_,rfl,p,_,_,.int u,rfl,rfl,q1,rfl,_,rfl,p',_,_,.int v',rfl,rfl,q2,rfl,_,_,rfl,rfl,⟨h1.u,h2.v⟩,_,rfl,p',_,_,.int u',rfl,rfl,q2,rfl,_,rfl,p,_,_,.int v,rfl,rfl,q1,rfl,_,_,rfl,rfl,⟨h2.u,h1.v⟩,_,_,rfl,rfl,q⟩
inductive FZ(K:af)(vs:List V)(H:Hp)(Q:VK)(E_:XK):Prop
 |mk(p p':ag)(u u':Int)(v v':Nat)(_:vs=[.ref p,.ref p'])(_:Fr K H p u v)(_:Fr K H p' u' v')(_:∀r H' x y,Same H H'->H' r=some (.tup [.int x,.int ((y:Nat):Int)])->yi (u*(v':Int)+u'*(v:Int)) (v*v') x y->Q (.ref r) H')
theorem Uq{f:ag}{fd:χ}
  (F:pV K "plus" "plus" Gs f fd)(D1:Dp P w K mg base 2 "lowest" fU ["a","b"] (qz K)):gx P w K mg base kG 3 f fd ["one","other"] (FZ K):=by
 refine F.dD ["one","other"] λH Q hr h=>?_;obtain⟨p,p',u,u',v,v',rfl,h1,h2,q⟩:=h;refine⟨_,aY (bK (pd D1 hr (aj (dF rk (dF kj (bw cH (pv 0) aL) (bw cH (pv 1) aL)) (dF kj (bw cH (pv 1) aL) (bw cH (pv 0) aL)))
  (aj (dF kj (bw cH (pv 0) aL) (bw cH (pv 1) aL)) ak)))),?_⟩
 have q1:=SqT.of (K:=K) h1.at_;have q2:=SqT.of (K:=K) h2.at_;refine⟨_,rfl,p,_,_,.int u,rfl,rfl,q1,rfl,_,rfl,p',_,_,.int v',rfl,rfl,q2,rfl,_,_,rfl,rfl,⟨h1.u,h2.v⟩,_,rfl,p',_,_,.int u',rfl,rfl,q2,rfl,_,rfl,p,_,_,.int v,rfl,rfl,q1,rfl,_,_,rfl,rfl,⟨h2.u,h1.v⟩,_,_,rfl,rfl,?_⟩;refine⟨_,rfl,p,_,_,.int v,rfl,rfl,q1,rfl,_,rfl,p',_,_,.int v',rfl,rfl,q2,rfl,_,_,rfl,rfl,⟨h1.v,h2.v⟩,?_⟩;exact⟨_,v*v',rfl,IP h1.pos h2.pos,dH (h1.vv h2) QE,q⟩
inductive zc(K:af)(vs:List V)(H:Hp)(Q:VK)(E_:XK):Prop
 |mk(p p':ag)(u u':Int)(v v':Nat)(_:vs=[.ref p,.ref p'])(_:Fr K H p u v)(_:Fr K H p' u' v')(_:∀r H' x y,Same H H'->H' r=some (.tup [.int x,.int ((y:Nat):Int)])->yi (u*u') (v*v') x y->Q (.ref r) H')
theorem P0{f:ag}{fd:χ}
  (F:pV K "times" "times" zN f fd)(D1:Dp P w K mg base 2 "lowest" fU ["a","b"] (qz K)):gx P w K mg base kG 3 f fd ["one","other"] (zc K):=by
 refine F.dD ["one","other"] λH Q hr h=>?_;obtain⟨p,p',u,u',v,v',rfl,h1,h2,q⟩:=h;refine⟨_,aY (bK (pd D1 hr (aj (dF kj (bw cH (pv 0) aL) (bw cH (pv 1) aL))
  (aj (dF kj (bw cH (pv 0) aL) (bw cH (pv 1) aL)) ak)))),?_⟩
 have q1:=SqT.of (K:=K) h1.at_;have q2:=SqT.of (K:=K) h2.at_;refine⟨_,rfl,p,_,_,.int u,rfl,rfl,q1,rfl,_,rfl,p',_,_,.int u',rfl,rfl,q2,rfl,_,_,rfl,rfl,⟨h1.u,h2.u⟩,?_⟩;refine⟨_,rfl,p,_,_,.int v,rfl,rfl,q1,rfl,_,rfl,p',_,_,.int v',rfl,rfl,q2,rfl,_,_,rfl,rfl,⟨h1.v,h2.v⟩,?_⟩;exact⟨_,v*v',rfl,IP h1.pos h2.pos,dH (h1.vv h2) QE,q⟩
end
end Hs
namespace L2
open PySem PySem.AutoSeq1
theorem ZX(l)(items)(b)(its2)(n2)(hc:items.size+its2.size<=sizeLine):
  kd (Builtin.«list.__add__» ⟨[.ref l,.ref b],[]⟩) (λ_ R s=>PlainL s.heap l items/\s.heap.get? b=some {cls:=.type "list",dict:=none,data:=.seq its2 n2,slots:=#[]}/\R (.ok (.ret (.ref s.heap.objs.size))) {s with heap:=s.heap.push {cls:=.type "list",data:=.seq (items++its2)}}):=
 .of_wp λprog w A R s h=>by
  obtain⟨hp,g,d,tk,os⟩:=s;obtain⟨⟨⟨c,dc,dt,sl⟩,n,hl,h1,h2,h3⟩,hb,h⟩:=h;cases h1;cases h2;cases h3;have f2:=sub_tuple_tuple;have f3:=sub_list_list;have f4:=sub_tuple_list;have f5:=sub_list_tuple;have hz:(items++its2).size<=sizeLine:=by rw[nz];exact hc
  wp_walk using wpAny_loadPart' hl,wpAny_loadPart' hb
  all_goals first |exact⟨_,rfl,h⟩|exact h|assumption
variable{X:Cx}
inductive WL(K:af)(x:V)(y:V)(H:Hp)(Q:VK):Prop
 |mk(l b xs zs)(_:x=.ref l)(_:y=.ref b)(_:ja K H l xs)(_:H b=some (.lst zs))(_:xs.length+zs.length<=sizeLine)(_:∀p,H p=none->Q (.ref p) (upd H p (.lst (xs++zs))))
theorem Uj:sj X (cw .Add) (WL X.K):=by
 intro aa s σ H x y v u Q I rx ry h;obtain⟨l,b,xs,zs,rfl,rfl,hH,hB,hz,q⟩:=h;cases rx;cases ry;obtain⟨ae,r,pl,_⟩:=I.list hH;have hl:=r.length;obtain⟨z2,its2,n2,r2,hl2,e2⟩:=I.lstM hB;have ea:ae.toArray++its2.toArray=(ae++its2).toArray:=by simp
 obtain⟨o,n,h0,h1,h2,h3⟩:=id pl;refine FP ⟨o,h0,h1⟩ ⟨_,e2,rfl⟩ noFill_list_add seq_list_add F.slot_list_add F.entry_list_add (F.args_list_add_2 _ _) (ZX l ae.toArray b its2.toArray n2 (by rw[gM,gM];omega)) ⟨pl,e2,?_⟩;rw[ea];exact⟨.ref _,_,I.lnew (t':=s.toks) (r.append r2) (by rw[lN];omega),rfl,q _ I.fresh⟩
end L2
namespace L2
open PySem
noncomputable def XS(sp sp':Sp):Sp:=λvs H Q E=>sp vs H Q E\/sp' vs H Q E
theorem gx.or(F:gx P w K mg base CX k f fd ps sp)(F':gx P w K mg base CX k f fd ps sp'):gx P w K mg base CX k f fd ps (XS sp sp'):=
 ⟨λvs H Q E q=>q.elim (F.len vs H Q E) (F'.len vs H Q E),λA outer s H args us vs Q E hr he hb hv hs=>hs.elim (F.run A outer s H args us vs Q E hr he hb hv) (F'.run A outer s H args us vs Q E hr he hb hv)⟩
end L2
namespace Hs
open PySem L2 lQ
section
variable{P:υ}{w:ψ}{K:af}{mg:D0}{base:bn}
inductive oZ(K:af)(vs:List V)(H:Hp)(Q:VK)(E_:XK):Prop
 |mk(a t sa:ag)(y:V)(n:Int)(ts:L0)(xs:ζ)(_:vs=[.ref a,.ref t])(_:aZ K H a n ts)(_:SqT K H t [.ref sa,y])(_:SqT K H sa (xs.map V.int))(_:lQ.dB n (.tuple (xs.map aC))=false)(_:∀H',Same H H'->Q (.bl false) H')
theorem CJ{f:ag}{fd:χ}
  (F:pV K "is_share" "is_share" iu f fd)(D1:Dp P w K mg base 2 "is_fraction" Fc ["thing"] (vD K))(D2:Dp P w K mg base 4 "is_set" fV ["n","thing"] (tX K))(bU:mg "len"=none)(aB:mg "isinstance"=none)(aJ:mg "tuple"=none):
  gx P w K mg base kG 5 f fd ["web","thing"] (oZ K):=by
 refine F.dD ["web","thing"] λH Q hr h=>?_;obtain⟨a,t,sa,y,n,ts,xs,rfl,hA,h1,h2,hd,qq⟩:=h;refine⟨_,(aN (iK (PW.pt (rH (jy (iT (pB Fo aB (aj (pv 1) (aj (pN "tuple" aJ) ak))))) (uY (gU sq (pB wZ bU (aj (pv 1) ak)) aL)))) (aY (bK jl)) iM) (aN (iK (PW.pt (rH (jy (iT (pd D2 hr (aj (bw cH (pv 0) aL) (aj (bw cH (pv 1) aL) ak))))) (uY (jy (iT (pd D1 hr (aj (bw cH (pv 1) aL) ak))))))) (aY (bK jl)) iM)
    Sd)),?_⟩
 obtain⟨Jh,Jw,w1,w2,w3⟩:=id hA.web;refine⟨_,rfl,.ref t,"tuple",_,rfl,.inl ⟨rfl,_,h1⟩,.inr (.inr (.inl rfl)),_,rfl,?_⟩;apply kL;refine⟨_,rfl,t,_,rfl,.inr h1,λhz=>⟨rfl,_,rfl,?_⟩⟩;apply kL;refine⟨_,rfl,a,_,_,.int n,rfl,rfl,w1,rfl,_,rfl,t,_,_,.ref sa,rfl,rfl,h1,rfl,n,.ref sa,_,rfl,(DV.tup h2 (cY.ints xs)).dx,λH1 s1=>⟨_,rfl,?_⟩⟩;rw[hd];exact si (si (qq _ s1))
inductive lW(K:af)(vs:List V)(H:Hp)(Q:VK)(E_:XK):Prop
 |mk(a la t sa:ag)(y:V)(n:Int)(ts:L0)(xs:ζ)(_:vs=[.ref a,.ref la])(_:aZ K H a n ts)(_:ja K H la [.ref t])(_:SqT K H t [.ref sa,y])(_:SqT K H sa (xs.map V.int))(_:lQ.dB n (.tuple (xs.map aC))=false)(_:∀H',Same H H'->Q (.bl false) H')
theorem zW{f:ag}{fd:χ}
  (F:pV K "is_laying" "is_laying" fW f fd)(D1:Dp P w K mg base 5 "is_share" iu ["web","thing"] (oZ K))(dG:mg "all"=none)(aB:mg "isinstance"=none)(gD:mg "list"=none):
  gx P w K mg base kG 6 f fd ["web","thing"] (lW K):=by
 refine F.dD ["web","thing"] λH Q hr h=>?_;obtain⟨a,la,t,sa,y,n,ts,xs,rfl,hA,hL,h1,h2,hd,qq⟩:=h;refine⟨_,(aN (iK (PW.pt (rH (jy (iT (pB Fo aB (aj (pv 1) (aj (pN "list" gD) ak))))) (uY (jy (iT (pB (Fl rfl) dG (aj (pK ["share"] ["web"] [0] (ur (pv 1)) (pG 0) lF (pd D1 hr (aj (pv 1) (aj (pv 0) ak)))) ak))))))) (aY (bK jl)) iM)
    Sd),?_⟩
 refine⟨_,rfl,.ref la,"list",_,rfl,.inr (.inl ⟨rfl,_,hL⟩),.inr (.inr (.inr rfl)),_,rfl,?_⟩;apply kL;refine⟨_,rfl,la,[.ref t],rfl,hL,λhz=>?_⟩;refine w6 (xs:=[V.ref t]) (λi acc σ H'=>acc=(ah i false).map V.bl/\Same H H'/\∃o,σ=[o,some (.ref a)]) ⟨rfl,Same.refl _,_,rfl⟩ (λi acc σ H' _ p=>p.2.1.seq hL) (λi acc σ H' _ p=>by rw[p.1,aD,Kw];exact aP _) hz (λi x acc σ H' hx p=>?_) (λacc σ H' p=>?_)
 ·obtain⟨rfl,sm,o,rfl⟩:=p;have ex:x=V.ref t:=jw.mp (oF hx);subst ex;refine⟨_,rfl,_,rfl,a,t,sa,y,n,ts,xs,rfl,hA.same sm,sm.tup h1,sm.tup h2,hd,λH2 s2=>⟨?_,sm.trans s2,_,rfl⟩⟩;rw[Xo,bR];rfl
 intro p1 hp1;obtain⟨rfl,sm,_⟩:=p;have s1:=sm.trans (aR hp1 (.lst ((ah 1 false).map V.bl)));refine⟨p1,_,rfl,ja.of aK,_,rfl,?_⟩;exact si (qq _ s1)
inductive iV(K:af)(vs:List V)(H:Hp)(Q:VK)(E_:XK):Prop
 |mk(a wa la t sa:ag)(y z:V)(n:Int)(ts:L0)(wl xs:ζ)(_:vs=[.ref a,.ref wa,.ref la,z])(_:aZ K H a n ts)(_:SqT K H wa (wl.map V.int))(_:qd n wl)(_:ja K H la [.ref t])(_:SqT K H t [.ref sa,y])(_:SqT K H sa (xs.map V.int))(_:lQ.dB n (.tuple (xs.map aC))=false)(_:∀H',Same H H'->Q (.bl false) H')
theorem zX{f:ag}{fd:χ}
  (F:pV K "is_enough" "is_enough" jc f fd)(D1:Dp P w K mg base 7 "need_web" yQ ["thing"] (aU K))(D2:Dp P w K mg base 2 "need_wants" EF ["web","thing"] (dU K))(D3:Dp P w K mg base 6 "is_laying" fW ["web","thing"] (lW K)):
  gx P w K mg base kG 8 f fd ["web","wants","laying","number"] (iV K):=by
 refine F.dD ["web","wants","laying","number"] λH Q hr h=>?_;obtain⟨a,wa,la,t,sa,y,z,n,ts,wl,xs,rfl,hA,hW,hwl,hL,h1,h2,hd,qq⟩:=h;refine⟨_,(aN (oR (pd D1 hr (aj (pv 0) ak))) (aN (oR (pd D2 hr (aj (pv 0) (aj (pv 1) ak)))) (aN (iK (jy (iT (pd D3 hr (aj (pv 0) (aj (pv 2) ak))))) (aY (bK jl)) iM)
    Sd))),?_⟩
 refine⟨_,rfl,.ref a,_,rfl,hA.web.dv.dx,hA.ok,λH1 s1=>?_⟩;obtain⟨Jh,Jw,w1,w2,w3⟩:=id (hA.same s1).web;refine⟨_,rfl,_,rfl,a,wa,n,_,wl,rfl,w1,s1.tup hW,hwl,λH2 s2=>?_⟩;have s12:=s1.trans s2;refine⟨_,rfl,_,rfl,a,la,t,sa,y,n,ts,xs,rfl,hA.same s12,s12.seq hL,s12.tup h1,s12.tup h2,hd,λH3 s3=>⟨_,rfl,?_⟩⟩;exact si (qq _ (s12.trans s3))
theorem yi.fr(e:H p=some (.tup [.int u,.int ((v:Nat):Int)]))(h:yi a b u v)(ha:a.natAbs<=100)(hb:b<=100):Fr K H p u v:=⟨e,h.pos,by have:=h.lu;omega,by have:=h.lv;omega⟩
inductive Gi(K:af)(vs:List V)(H:Hp)(Q:VK)(E_:XK):Prop
 |mk(a b:Int)(_:vs=[.int a,.int b])(_:0<=a)(_:a<50)(_:0<=b)(_:b<50)(_:∀H',Same H H'->Q (.bl true) H')
theorem UW{f f1 f2 f3 f4:ag}
  {fd d1 d2 d3 d4:χ}
  (F:pV K "_law_afractions_right" "_law_afractions_right" Mc f fd)(D1:tR K mg "lowest" fU ["a","b"] f1 d1)(V3:gx P w K mg base kG 2 f1 d1 ["a","b"] (qz K))(D2:tR K mg "times" zN ["one","other"] f2 d2)(G2:gx P w K mg base kG 3 f2 d2 ["one","other"] (zc K))(D3:tR K mg "plus" Gs ["one","other"] f3 d3)(G3:gx P w K mg base kG 3 f3 d3 ["one","other"] (FZ K))(D4:tR K mg "is_less" Ti ["one","other"] f4 d4)(G4':gx P w K mg base kG 1 f4 d4 ["one","other"] (uN K)):
  gx P w K mg base kG 4 f fd ["first","second"] (Gi K):=by
 have G1:gx P w K mg base kG 3 f1 d1 ["a","b"] (qz K):=V3.mono (by decide);have G4:gx P w K mg base kG 3 f4 d4 ["one","other"] (uN K):=G4'.mono (by decide);refine F.M7 ["first","second","mine","yours"] λcdv A outer s H vs Q E hr h=>?_;obtain⟨a,b,rfl,a0,a1,b0,b1,qq⟩:=h;refine⟨_,(aN (iK (gU (su hr.units) (yP G1 hr rfl D1.m D1.F.kp (D1.kb λ_ _ _ _ _ _=>WD λ_ _=>rfl) k8 (ju (dF rk (pv 1) aL) (ju (pv 0) yN))) (pc G1 hr D1 (aj (pv 0) (aj (dF rk (pv 1) aL) ak)))) (aY (bK jl)) iM) (aN (pS 2 (pc G1 hr D1 (aj (pv 0) (aj aL ak)))) (aN (pS 3 (pc G1 hr D1 (aj (pv 1) (aj aL ak)))) (aN (iK (PW.pt (rH (gU (su hr.units) (yP G3 hr rfl D3.m D3.F.kp (D3.kb λ_ _ _ _ _ _=>WD λ_ _=>rfl) k8 (ju (pv 3) (ju (pv 2) yN))) (pc G3 hr D3 (aj (pv 2) (aj (pv 3) ak)))) (uY (gU (su hr.units) (yP G2 hr rfl D2.m D2.F.kp (D2.kb λ_ _ _ _ _ _=>WD λ_ _=>rfl) k8 (ju (pv 3) (ju (pv 2) yN))) (pc G2 hr D2 (aj (pv 2) (aj (pv 3) ak))))))) (aY (bK jl)) iM) (aY (bK (uZ (zU hr.units) (yP G4 hr rfl D4.m D4.F.kp (D4.kb λ_ _ _ _ _ _=>WD λ_ _=>rfl) k8 (ju (pv 3) (ju (pv 2) yN))) (pc G4 hr D4 (aj (pv 2) (aj (pv 3) ak)))))))))),?_⟩;obtain⟨k,rfl⟩:∃k:Nat,b=(k:Int):=⟨b.toNat,by omega⟩;have big:∀m:Nat,m<=100->m<=10^200:=λm h=>dH h (by decide+kernel);refine⟨_,rfl,_,_,rfl,rfl,_,rfl,a,k+1,rfl,by omega,big _ (by omega),λp H1 u v s1 h1 L1=>⟨_,rfl,_,rfl,_,_,rfl,rfl,a,k+1,rfl,by omega,big _ (by omega),λp' H2 u' v' s2 h2 L2=>?_⟩⟩;have e12:=(kO (by omega) L1).trans (kO (by omega) L2).symm;refine⟨HF (u,v),HF (u',v'),rm.dv (SqT.of (s2 _ _ h1)),rm.dv (SqT.of h2),rfl,rfl,(by show min 1 1<=64;decide),_,rfl,?_⟩;rw[pZ,cI e12];apply kL;refine⟨_,rfl,a,7,rfl,by decide,big _ (by decide),λm H3 u3 v3 s3 h3 L3=>⟨_,rfl,k,9,rfl,by decide,big _ (by decide),λy H4 u4 v4 s4 h4 L4=>?_⟩⟩;have F3:∀H',Same H4 H'->Fr K H' m u3 v3:=λH' s=>L3.fr (s _ _ (s4 _ _ h3)) (by omega) (by decide);have F4:∀H',Same H4 H'->Fr K H' y u4 v4:=λH' s=>L4.fr (s _ _ h4) (by omega) (by decide);have z0:=Same.refl H4;have p3:=L3.pos;have p4:=L4.pos;have p34:=IP p3 p4;refine⟨_,rfl,_,rfl,m,y,u3,u4,v3,v4,rfl,F3 _ z0,F4 _ z0,λr5 H5 x5 y5 s5 h5 L5=>⟨_,rfl,_,rfl,m,y,u3,u4,v3,v4,rfl,F3 _ s5,F4 _ s5,λr6 H6 x6 y6 s6 h6 L6=>?_⟩⟩;have e56:=(kO p34 L5).trans (kO p34 L6).symm;refine⟨HF (x5,y5),HF (x6,y6),rm.dv (SqT.of (s6 _ _ h5)),rm.dv (SqT.of h6),rfl,rfl,(by show min 1 1<=64;decide),_,rfl,?_⟩;rw[pZ,cI e56];apply kL;have z6:=s5.trans s6;refine⟨_,rfl,_,rfl,m,y,u3,u4,v3,v4,rfl,F3 _ z6,F4 _ z6,λr7 H7 x7 y7 s7 h7 L7=>⟨_,rfl,_,rfl,m,y,u3,u4,v3,v4,rfl,F3 _ (z6.trans s7),F4 _ (z6.trans s7),λr8 H8 x8 y8 s8 h8 L8=>?_⟩⟩;have e78:=(kO p34 L7).trans (kO p34 L8).symm;refine⟨HF (x7,y7),HF (x8,y8),rm.dv (SqT.of (s8 _ _ h7)),rm.dv (SqT.of h8),rfl,rfl,(by show min 1 1<=64;decide),_,rfl,?_⟩;rw[pZ,cI e78];apply kL;have z8:=z6.trans (s7.trans s8);refine⟨_,rfl,_,rfl,m,y,u3,u4,v3,v4,rfl,F3 _ z8,F4 _ z8,_,rfl,_,rfl,m,y,u3,u4,v3,v4,rfl,F3 _ z8,F4 _ z8,?_⟩;generalize decide (u3*(v4:Int)<u4*(v3:Int))=bb;refine⟨.bool bb,.bool bb,.bl _,.bl _,rfl,rfl,(by show min 0 0<=64;decide),?_⟩;have eb:aE (.bool bb) (.bool bb)=true:=by cases bb<;>rfl
 rw[eb];exact qq _ ((s1.trans s2).trans ((s3.trans s4).trans z8))
theorem N9{p1 p2 p3 p4:be}{P:List ρ->Prop}(h:∀a b c d,P [a,b,c,d])(us)(hl:us.length=[p1,p2,p3,p4].length):P us:=by
 match us,hl with
 |[a,b,c,d],_=>exact h a b c d
inductive o9(K:af)(vs:List V)(H:Hp)(Q:VK)(E_:XK):Prop
 |mk(a wa:ag)(n:Int)(ts:L0)(wl:ζ)(_:vs=[.ref a,.ref wa])(_:aZ K H a n ts)(_:SqT K H wa (wl.map V.int))(_:qd n wl)(_:∀H',Same H H'->Q (.bl true) H')
theorem CQ{f f1 f2 f3 f4:ag}
  {fd d1 d2 d3 d4:χ}
  (F:pV K "_law_ashares_right" "_law_ashares_right" LY f fd)(D1:tR K mg "shares" lZ ["web","wants"] f1 d1)(V3:gx P w K mg base kG 9 f1 d1 ["web","wants"] (jB K))(D2:tR K mg "value" j5 ["web"] f2 d2)(G2:gx P w K mg base kG 10 f2 d2 ["web"] (jX K))(D3:tR K mg "is_enough" jc ["web","wants","laying","number"] f3 d3)(G3':gx P w K mg base kG 8 f3 d3 ["web","wants","laying","number"] (XS (jZ K) (iV K)))(D4:tR K mg "are_prices" j7 ["web","wants","prices","number"] f4 d4)(G4':gx P w K mg base kG 9 f4 d4 ["web","wants","prices","number"] (iY K)):
  gx P w K mg base kG 11 f fd ["net","asks"] (o9 K):=by
 have G1:gx P w K mg base kG 10 f1 d1 ["web","wants"] (jB K):=V3.mono (by decide);have G3:gx P w K mg base kG 10 f3 d3 ["web","wants","laying","number"] (XS (jZ K) (iV K)):=G3'.mono (by decide);have G4:gx P w K mg base kG 10 f4 d4 ["web","wants","prices","number"] (iY K):=G4'.mono (by decide);refine F.dD ["net","asks","total","laid","costs"] λH Q hr h=>?_;obtain⟨a,wa,n,ts,wl,rfl,hA,hW,hwl,qq⟩:=h;refine⟨_,(aN (sw (yP G1 hr rfl D1.m D1.F.kp (D1.kb λ_ _ _ _ _ _=>WD λ_ _=>rfl) k8 (ju (pv 1) (ju (pv 0) yN))) (tS rfl (jz (pG 2) (jz (pG 3) (jz (pG 4) yO))))) (aN (iK (PW.pt (rH (gU (su hr.units) (pv 2) (bw cH (pc G1 hr D1 (aj (pv 0) (aj (pv 1) ak))) aL)) (uY (gU (su hr.units) (yP G2 hr rfl D2.m D2.F.kp (D2.kb λ_ _ _ _ _ _=>GY λ_=>rfl) k8 (ju (pv 0) yN)) (pc G2 hr D2 (aj (pv 0) ak)))))) (aY (bK jl)) iM) (aN (iK (gU gQ (yP G3 hr rfl D3.m D3.F.kp (D3.kb λ_ _ _ _ _ _=>N9 λ_ _ _ _=>rfl) k8 (ju (pv 2) (ju (pv 3) (ju (pv 1) (ju (pv 0) yN))))) jl) (aY (bK jl)) iM) (aN (iK (gU gQ (yP G3 hr rfl D3.m D3.F.kp (D3.kb λ_ _ _ _ _ _=>N9 λ_ _ _ _=>rfl) k8 (ju (pv 2) (ju (rd (aj (ou (aj (ou (aj (tN sv aL) ak)) (aj (ou (aj aL (aj aL ak))) ak))) ak)) (ju (pv 1) (ju (pv 0) yN))))) jl) (aY (bK jl)) iM) (aY (bK (uZ PJ (yP G4 hr rfl D4.m D4.F.kp (D4.kb λ_ _ _ _ _ _=>N9 λ_ _ _ _=>rfl) k8 (ju (pv 2) (ju (pv 4) (ju (pv 1) (ju (pv 0) yN))))) jl))))))),?_⟩;have h0:=hA.h0;refine⟨_,rfl,_,rfl,a,wa,n,ts,wl,rfl,hA,hW,hwl,λr va la pa lrefs cu ss ov Z Y X H1 s1 hr1 hva hla hLay hpa Vl Zo hSh _ _ _=>⟨r,_,rfl,SqT.of hr1,rfl,_,_,rfl,_,_,rfl,_,_,rfl,rfl,?_⟩⟩;have M9:=hA.same s1;have hW1:=s1.tup hW;refine⟨_,rfl,_,rfl,_,rfl,a,wa,n,ts,wl,rfl,M9,hW1,hwl,λr2 va2 la2 pa2 lr2 pr2 ss2 ov2 Z2 Y2 X2 H2 s2 hr2 abD _ _ _ _ abI abL _ _ _=>⟨r2,_,_,.ref va2,rfl,rfl,SqT.of hr2,rfl,?_⟩⟩;have e12:=Gm Zo abI hSh abL;refine⟨HF (aH Z ov),HF (aH Z2 ov2),rm.dv (s2.tup hva),rm.dv abD,rfl,rfl,(by show min 1 1<=64;decide),_,rfl,?_⟩;rw[pZ,cI e12];apply kL;have s12:=s1.trans s2;refine⟨_,rfl,a,n,ts,rfl,hA.same s12,λv3 ss3 ov3 Z3 Y3 X3 H3 s3 hv3 abH abK=>⟨_,rfl,a,n,ts,rfl,hA.same (s12.trans s3),λv4 ss4 ov4 Z4 Y4 X4 H4 s4 hv4 abG abJ=>?_⟩⟩;have e34:=Gm abH abG abK abJ;refine⟨HF (aH Z3 ov3),HF (aH Z4 ov4),rm.dv (s4.tup hv3),rm.dv hv4,rfl,rfl,(by show min 1 1<=64;decide),_,rfl,?_⟩;rw[pZ,cI e34];apply kL;have zO:=s2.trans (s3.trans s4);have zP:=s1.trans zO;refine⟨_,rfl,_,rfl,_,rfl,_,rfl,ii ⟨a,wa,la,va,n,ts,wl,lrefs,ss,ov,Z,Y,X,rfl,hA.same zP,zP.tup hW,hwl,ja.of (zO _ _ hla),hLay.same zO,zO.tup hva,Zo,hSh,λH5 s5=>?_⟩⟩;have s25:=zO.trans s5;have Bt:=s1.trans s25;refine⟨_,_,rfl,rfl,_,rfl,kL ?_⟩;refine⟨_,rfl,_,rfl,rV,λp1 hp1=>⟨rV,λp2 hp2=>⟨rV,λp3 hp3=>⟨rV,λl hl=>?_⟩⟩⟩⟩;have t1:=aR hp1 (.tup [.int (-1)]);have t2:=aR hp2 (.tup [.int 1,.int 1]);have t3:=aR hp3 (.tup [.ref p1,.ref p2]);have t4:=aR hl (.lst [.ref p3]);have t34:=t3.trans t4;have t24:=t2.trans t34;have s29:=s25.trans (t1.trans t24);have s19:=s1.trans s29;refine⟨_,rfl,_,rfl,kc ⟨a,wa,l,p3,p1,.ref p2,.ref va,n,ts,wl,[-1],rfl,hA.same s19,s19.tup hW,hwl,ja.of aK,SqT.of (t4 _ _ aK),SqT.of (t24 _ _ aK),rfl,λH6 s6=>?_⟩⟩;refine⟨_,_,rfl,rfl,_,rfl,kL ?_⟩;have s26:=s29.trans s6;have s16:=s1.trans s26;exact⟨_,rfl,_,rfl,_,rfl,_,rfl,a,wa,pa,va,n,ts,wl,cu,ss,ov,Z,Y,X,rfl,hA.same s16,s16.tup hW,hwl,ja.of (s26 _ _ hpa),Vl.same s26,s26.tup hva,Zo,hSh,λH7 s7=>⟨_,_,rfl,rfl,qq _ (s16.trans s7)⟩⟩
theorem fj.tbl(h:fj K H rs R)(x:aW T H H')(hn:H T=some (.tbl tb)):fj K H' rs R:=Paired.mapP h λ_ _ ⟨p,e,z⟩=>⟨p,e,xK x hn z⟩
inductive vJ(K:af)(T:ag)(vs:List V)(H:Hp)(Q:VK)(E_:XK):Prop
 |mk(a:ag)(n:Int)(ts:L0)(_:vs=[.ref a])(_:aZ K H a n ts)(_:n<=5)(_:Io H T)(_:∀H',aW T H H'->Io H' T->Q (.bl true) H')
theorem Ls{f f1 f2 f3 f4 f5 f6 f7 f8 f9:ag}
  {fd d1 d2 d3 d4 d5 d6 d7 d8 d9:χ}
  (F:pV K "_law_ahues_right" "_law_ahues_right" LU f fd)(D1:tR K mg "fewest" qH ["web"] f1 d1)(V3:gx P w K mg base kG 8 f1 d1 ["web"] (BX K T))(D2:tR K mg "are_hues" pJ ["web","hues"] f2 d2)(G2':gx P w K mg base kG 8 f2 d2 ["web","hues"] (zE K))(D3:tR K mg "are_floors" j9 ["web","floors","number"] f3 d3)(G3':gx P w K mg base kG 8 f3 d3 ["web","floors","number"] (zF K))(D4:tR K mg "each_so_many" iw ["web","b"] f4 d4)(G4':gx P w K mg base kG 9 f4 d4 ["web","b"] (zy K T))(D5:tR K mg "are_rows" pH ["web","b","rows"] f5 d5)(G5':gx P w K mg base kG 8 f5 d5 ["web","b","rows"] (nG K))(D6:tR K mg "spread" vP ["web"] f6 d6)(G6':gx P w K mg base kG 10 f6 d6 ["web"] (qy K))(D7:tR K mg "held_part" mD ["web"] f7 d7)(G7':gx P w K mg base kG 12 f7 d7 ["web"] (Jt K))(D8:tR K mg "needed" vQ ["web"] f8 d8)(G8:gx P w K mg base kG 13 f8 d8 ["web"] (Oi K))(D9:tR K mg "is_part" rQ ["web","some"] f9 d9)(G9:gx P w K mg base kG 13 f9 d9 ["web","some"] (Ge K)):
  gx P w K mg base kG 14 f fd ["net"] (vJ K T):=by
 have G1:gx P w K mg base kG 13 f1 d1 ["web"] (BX K T):=V3.mono (by decide);have G2:gx P w K mg base kG 13 f2 d2 ["web","hues"] (zE K):=G2'.mono (by decide);have G3:gx P w K mg base kG 13 f3 d3 ["web","floors","number"] (zF K):=G3'.mono (by decide);have G4:gx P w K mg base kG 13 f4 d4 ["web","b"] (zy K T):=G4'.mono (by decide);have G5:gx P w K mg base kG 13 f5 d5 ["web","b","rows"] (nG K):=G5'.mono (by decide);have G6:gx P w K mg base kG 13 f6 d6 ["web"] (qy K):=G6'.mono (by decide);have G7:gx P w K mg base kG 13 f7 d7 ["web"] (Jt K):=G7'.mono (by decide);refine F.dD ["net","k","tints","lows","all_told","told","top","below","held"] λH Q hr h=>?_;obtain⟨a,n,ts,rfl,hA,n5,hL,qq⟩:=h;refine eX ?_;intro Y;refine⟨_,(aN (sw (yP G1 hr rfl D1.m D1.F.kp (D1.kb λ_ _ _ _ _ _=>GY λ_=>rfl) k8 (ju (pv 0) yN)) (tS rfl (jz (pG 1) (jz (pG 2) (jz (pG 3) yO))))) (aN (iK (PW.pt (rH (gU sq (pv 1) (bw cH (pc G1 hr D1 (aj (pv 0) ak)) aL)) (uY (gU gQ (yP G2 hr rfl D2.m D2.F.kp (D2.kb λ_ _ _ _ _ _=>WD λ_ _=>rfl) k8 (ju (pv 2) (ju (pv 0) yN))) jl)))) (aY (bK jl)) iM) (aN (iK (gU gQ (yP G3 hr rfl D3.m D3.F.kp (D3.kb λ_ _ _ _ _ _=>Of λ_ _ _=>rfl) k8 (ju (pv 1) (ju (pv 3) (ju (pv 0) yN)))) jl) (aY (bK jl)) iM) (aN (sw (yP G4 hr rfl D4.m D4.F.kp (D4.kb λ_ _ _ _ _ _=>WD λ_ _=>rfl) k8 (ju aL (ju (pv 0) yN))) (tS rfl (jz (pG 4) (jz (pG 5) yO)))) (aN (iK (PW.pt (rH (gU sq (pv 4) (bw cH (pc G4 hr D4 (aj (pv 0) (aj aL ak))) aL)) (uY (gU gQ (yP G5 hr rfl D5.m D5.F.kp (D5.kb λ_ _ _ _ _ _=>Of λ_ _ _=>rfl) k8 (ju (pv 5) (ju aL (ju (pv 0) yN)))) jl)))) (aY (bK jl)) iM) (aN (sw (yP G6 hr rfl D6.m D6.F.kp (D6.kb λ_ _ _ _ _ _=>GY λ_=>rfl) k8 (ju (pv 0) yN)) (tS rfl (jz (pG 6) (jz (pG 7) (jz (pG 5) yO))))) (aN (iK (gU gQ (yP G5 hr rfl D5.m D5.F.kp (D5.kb λ_ _ _ _ _ _=>Of λ_ _ _=>rfl) k8 (ju (pv 5) (ju (pv 7) (ju (pv 0) yN)))) jl) (aY (bK jl)) iM) (aN (pS 8 (yP G7 hr rfl D7.m D7.F.kp (D7.kb λ_ _ _ _ _ _=>GY λ_=>rfl) k8 (ju (pv 0) yN))) (aY (bK (Bw (uZ PJ (yP G9 hr rfl D9.m D9.F.kp (D9.kb λ_ _ _ _ _ _=>WD λ_ _=>rfl) k8 (ju (pv 8) (ju (pv 0) yN))) jl) (qE (uZ (zU hr.units) (yP G8 hr rfl D8.m D8.F.kp (D8.kb λ_ _ _ _ _ _=>GY λ_=>rfl) k8 (ju (pv 0) yN)) (pc G8 hr D8 (aj (pv 0) ak))))))))))))))),?_⟩;refine SA ?_;intro c9 c8 c7 c6 c5 c4 c3 c2;have h0:=hA.h0;have n10:=hA.h1;refine⟨_,rfl,a,n,ts,rfl,hA,hL,λr h d hs H1 x1 L1 hr1 hh hok hd _=>⟨r,_,rfl,SqT.of hr1,rfl,_,_,rfl,_,_,rfl,_,_,rfl,rfl,?_⟩⟩;obtain⟨tb,hT⟩:=hL.at;obtain⟨tb1,hT1⟩:=L1.at;have M9:=hA.tbl x1 hT;refine⟨_,rfl,_,rfl,a,n,ts,rfl,M9,L1,λr2 h2 d2 hs2 H2 x2 L2 hr2 _ _ _ _=>⟨r2,_,_,.int (jR ts (jD n.toNat)),rfl,rfl,SqT.of hr2,rfl,rfl,_,rfl,?_⟩⟩;rw[cI rfl];apply kL;have W4:=M9.tbl x2 hT1;have hh2:=xK (K:=K) x2 hT1 (SqT.of hh);have hd2:=x2 _ _ (λz=>by rw[z,hT1]at hd;cases hd) hd;refine⟨_,rfl,_,rfl,a,h,n,ts,hs,rfl,W4,hh2,λH3 s3=>⟨_,_,rfl,rfl,_,rfl,?_⟩⟩;rw[jr.wj h0 hA.pk hok];apply kL;refine⟨_,rfl,_,rfl,_,rfl,a,d,n,_,ts,bL n.toNat,jR ts,rfl,W4.same s3,s3 _ _ hd2,kY _,λH4 s4=>⟨_,_,rfl,rfl,_,rfl,?_⟩⟩;rw[ZM,cI (u5 _)];apply kL;have zO:=s3.trans s4;have hA4:=W4.same zO;have L4:=L2.same zO;refine⟨_,rfl,a,n,2,ts,rfl,hA4,by decide,by decide,by omega,L4,λr5 l5 rs5 R5 hs5 H5 x5 L5 hr5 Zi hR5 _ QH _=>⟨r5,_,rfl,SqT.of hr5,rfl,_,_,rfl,_,_,rfl,rfl,?_⟩⟩;obtain⟨tb4,W0⟩:=L4.at;obtain⟨tb5,hT5⟩:=L5.at;have hA5:=hA4.tbl x5 W0;refine⟨_,rfl,_,rfl,a,n,2,ts,rfl,hA5,by decide,by decide,by omega,L5,λr6 l6 rs6 R6 hs6 H6 x6 L6 hr6 _ _ _ _ _=>⟨r6,_,_,.int (jR (Fi n 2 ts) (jD (n*2).toNat)),rfl,rfl,SqT.of hr6,rfl,rfl,_,rfl,?_⟩⟩;rw[cI rfl];apply kL;have hA6:=hA5.tbl x6 hT5;have hl6:=x6 _ _ (λz=>by rw[z,hT5]at Zi;cases Zi) Zi;have hR6:=hR5.tbl x6 hT5;have sp5:V1 n ts (jR (Fi n 2 ts) (jD (n*2).toNat)) 2 R5:=⟨QH.len,λr hr=>⟨by have:=(QH.up r hr).2.1;omega,(QH.up r hr).1,(QH.up r hr).2.2⟩,λp hp h m1 m2=>QH.no p hp h m1 m2⟩;refine⟨_,rfl,_,rfl,a,l5,n,2,ts,rs5,R5,rfl,hA6,by decide,ja.of hl6,hR6,λr hr=>by rw[(sp5.each r hr).1];decide,λH7 s7=>⟨_,_,rfl,rfl,_,rfl,?_⟩⟩;rw[show Aw n ts 2 R5=true from Ri h0 sp5];apply kL;have hA7:=hA6.same s7;refine⟨_,rfl,a,n,ts,rfl,hA7,n5,λr8 l8 x8 c8 rs8 R8 ss8 ov8 Z8 Y8 X8 H8 s8 hr8 c0 c40 y0 hl8 hR8 sp8 _ _ _ _=>⟨r8,_,rfl,SqT.of hr8,rfl,_,_,rfl,_,_,rfl,_,_,rfl,rfl,?_⟩⟩;have hA8:=hA7.same s8;refine⟨_,rfl,_,rfl,_,rfl,a,l8,n,(c8:Int),ts,rs8,R8,rfl,hA8,by omega,ja.of hl8,hR8,λr hr=>by rw[(sp8.each r hr).1];exact c40,λH9 s9=>⟨_,_,rfl,rfl,_,rfl,?_⟩⟩;rw[Ri h0 sp8];apply kL;have hA9:=hA8.same s9;refine⟨_,rfl,a,n,ts,rfl,hA9,λrh told Ha sa hrh hhe=>?_⟩;have hAa:=hA9.same sa;have sA:=s7.trans (s8.trans (s9.trans sa));refine⟨_,rfl,_,rfl,a,rh,n,ts,told,rfl,hAa,SqT.of hrh,λHb sb atx=>⟨_,_,rfl,rfl,?_⟩⟩;rw[hhe.part (atx hhe.ok hhe.eq)];refine⟨_,rfl,si ?_⟩;refine⟨_,rfl,a,n,ts,rfl,hAa.same sb,λr1 Hc sc hc _=>⟨_,rfl,a,n,ts,rfl,hAa.same (sb.trans sc),λr2 Hd sd he _=>?_⟩⟩;refine⟨.tuple ((Hs.need ts (qi n.toNat)).map aC),.tuple ((Hs.need ts (qi n.toNat)).map aC),.tup (SqT.of (sd _ _ hc)) (cY.ints _),.tup (SqT.of he) (cY.ints _),Fd _,Fd _,um _ _,?_⟩;rw[sW,cI rfl];have sD:=sA.trans (sb.trans (sc.trans sd));exact qq _ ((((x1.trans x2).trans (zO.x T)).trans x5).trans x6|>.trans (sD.x T)) (L6.same sD)
inductive zG(K:af)(vs:List V)(H:Hp)(Q:VK)(E_:XK):Prop
 |mk(tp:ag)(t m:Int)(_:vs=[.ref tp,.int m])(_:H tp=some (.lst [.int t]))(_:0<m)(_:m<1000000000000000000000000000000)(_:∀r t':Int,0<=r->r<m->Q (.int r) (upd H tp (.lst [.int t'])))
theorem Qj{f:ag}{fd:χ}
  (F:pV K "_law_adraw" "_law_adraw" mq f fd):
  gx P w K mg base kG 1 f fd ["tape","many"] (zG K):=by
 refine F.dD ["tape","many","found"] λH Q hr h=>?_;obtain⟨tp,t,m,rfl,hH,hm0,hm1,q⟩:=h;refine⟨_,(aN (pS 2 (dF xh (bw uK (pv 0) aL) (pv 1))) (aN (sw (dF iD (bw uK (pv 0) aL) (pv 1)) (uu (pv 0) aL sF)) (aY (bK (pv 2))))),?_⟩;refine⟨_,rfl,tp,_,_,.int t,rfl,rfl,ja.of hH,rfl,_,rfl,_,_,rfl,rfl,hm0,?_⟩;refine⟨_,rfl,tp,_,_,.int t,rfl,rfl,ja.of hH,rfl,_,rfl,_,_,rfl,rfl,⟨hm0,hm1⟩,_,rfl,tp,_,_,0,rfl,rfl,hH,rfl,?_⟩;exact⟨_,rfl,q _ _ (MH _ (by omega)) (Nc _ hm0)⟩
inductive rN(T:ag)(K:af)(vs:List V)(H:Hp)(Q:VK)(E_:XK):Prop
 |mk(a:ag)(ns:ζ)(_:vs=[.ref a])(_:ja K H a (ns.map V.int))(_:ns.length<=63)(_:Io H T)(_:∀H',Q (.bl true) H')
theorem KY{ns:ζ}(hl:ns.length<=63)(hO:Kd T H)(hS:ja K H a (ns.map V.int)):rN T K [.ref a] H (λv _=>v=.bl true) λ_ _ _=>False:=⟨a,ns,rfl,hS,hl,.inl hO.1,λ_=>rfl⟩
theorem CW{H:Hp}(h:H a=some o)(n:H b=none):b≠a:=λe=>by rw[e,h]at n;cases n
theorem TY(s:Same H0 H)(n:H0 t=none):Same H0 (upd H t o):=λb u e=>by rw[cF (λz=>by rw[z,n]at e;cases e)];exact s _ _ e
theorem Rr{ns:ζ}(h:x∈qa (ns.map V.int++[V.int 0]) lo hi):∃c:Int,x=.int c:=by
 unfold qa at h;have h2:=List.mem_of_mem_drop (IH h);rcases oE.mp h2 with m|m
 ·obtain⟨c,_,rfl⟩:=jP.mp m;exact⟨c,rfl⟩
 ·exact⟨0,jw.mp m⟩
theorem DS{f:ag}{fd:χ}
  (F:pV K "law" "law" tY f fd)(D1:Dp P w K mg base 1 "_law_adraw" mq ["tape","many"] (zG K))(D2:Dp P w K mg base 11 "_law_ashares_right" LY ["net","asks"] (o9 K))(D3:Dp P w K mg base 14 "_law_ahues_right" LU ["net"] (vJ K T))(D4:Dp P w K mg base 4 "_law_afractions_right" Mc ["first","second"] (Gi K))(aaE:mg "abs"=none)(aF:mg "range"=none)(aJ:mg "tuple"=none):
  gx P w K mg base kG 15 f fd ["script"] (rN T K):=by
 refine F.M7 ["script","cell","tape","wide","often","ties","i","net","asks"] λcdv A outer s H vs Q E hr h=>?_;obtain⟨a,ns,rfl,hS,h63,hL,q⟩:=h;refine⟨_,(aN (rS Fw rfl (ur (sh ve (dF Uj (pv 0) (rd (aj aL ak))) tm (sn aL))) (pG 1) (aN (pS 2 (rd (aj (pB ye aaE (aj (pv 1) ak)) ak))) (aN (pS 3 (dF rk aL (pd D1 hr (aj (pv 2) (aj aL ak))))) (aN (pS 4 (dF rk aL (pd D1 hr (aj (pv 2) (aj aL ak))))) (aN (pS 5 (rd ak)) (aN (rS Fw rfl (Kp rfl aF (aj (pv 3) ak)) (pG 6) (aY (pS 5 (dF sT (pv 5) (pK ["j"] ["tape","often","i"] [2,4,6] (tw rfl aF (aj (dF rk (pv 6) aL) (aj (pv 3) ak))) (pG 0) (Fb (gU uk (pd D1 hr (aj (pv 1) (aj aL ak))) (pv 2))) (ou (aj (pv 3) (aj (pv 0) ak)))))))) (aN (pS 7 (ou (aj (pv 3) (aj (pT Ss aJ (aj (pv 5) ak)) ak)))) (aN (pS 8 (pT Ss aJ (aj (pK ["spot"] ["tape"] [2] (Kp rfl aF (aj (pv 3) ak)) (pG 0) lF (pd D1 hr (aj (pv 1) (aj aL ak)))) ak))) (aN (iK (PW.pt (rH (jy (iT (pd D3 hr (aj (pv 7) ak)))) (uY (jy (iT (pd D2 hr (aj (pv 7) (aj (pv 8) ak)))))))) (aY (bK jl)) iM) (aY (iK (jy (iT (pd D4 hr (aj (pd D1 hr (aj (pv 2) (aj aL ak))) (aj (pd D1 hr (aj (pv 2) (aj aL ak))) ak))))) (aY (bK jl)) iM))))))))))) (aY (bK jl))),?_⟩;refine⟨_,rfl,rV,λpz hpz=>⟨a,pz,_,_,rfl,rfl,(aR hpz _).seq hS,aK,by rw[aD,gF];show ns.length+1<=_;omega,λpc hpc=>⟨2,rfl,pc,_,rfl,ja.of aK,λp1 hp1=>?_⟩⟩⟩;have z1:=aR hpz (.lst [.int 0]);have z2:=aR hpc (.lst (ns.map V.int++[.int 0]));have z3:=aR hp1 (.lst (qa (ns.map V.int++[V.int 0]) none (some 2)));have hL1:=hL.same (z1.trans (z2.trans z3));have hy:∀x∈qa (ns.map V.int++[V.int 0]) none (some 2),∃c:Int,x=.int c:=λx h=>Rr h;refine⟨p1,_,rfl,ja.of aK,λhz=>?_⟩;refine ul (K:=K) (a:=p1) (λi σ H'=>H' p1=some (.lst (qa (ns.map V.int++[V.int 0]) none (some 2)))/\Io H' T/\∃b1 b2 b3 b4 b5 b6 b7 b8,σ=[some (.ref a),b1,b2,b3,b4,b5,b6,b7,b8]) ⟨aK,hL1,_,_,_,_,_,_,_,_,rfl⟩ (λi σ H' _ p=>ja.of p.1) (λi x σ H0 hx p=>?_) (λσ H' p=>?_)
 ·obtain⟨hp,hL0,b1,b2,b3,b4,b5,b6,b7,b8,rfl⟩:=p;obtain⟨c,rfl⟩:=hy x (oF hx);generalize qa (ns.map V.int++[V.int 0]) none (some 2)=ys at *;refine⟨_,rfl,c,rfl,rV,λtp htp=>?_⟩;have t0:=aR htp (.lst [.int (if c<0 then -c else c)]);have np:p1≠tp:=λz=>by rw[z,htp]at hp;cases hp
  refine⟨_,rfl,tp,_,5,rfl,aK,by decide,by decide,λw1 k1 w0 w5=>⟨_,_,rfl,rfl,?_⟩⟩;refine⟨_,rfl,tp,_,4,rfl,aK,by decide,by decide,λo k2 o0 o1=>⟨_,_,rfl,rfl,?_⟩⟩;have S2:=TY (o:=.lst [.int k2]) (TY (o:=.lst [.int k1]) t0 htp) htp;have e2:(upd (upd (upd H0 tp (.lst [.int (if c<0 then -c else c)])) tp (.lst [.int k1])) tp (.lst [.int k2])) tp=some (.lst [.int k2]):=aK;generalize (upd (upd (upd H0 tp (.lst [.int (if c<0 then -c else c)])) tp (.lst [.int k1])) tp (.lst [.int k2]))=H2 at *;have n0:1<=1+w1:=by omega
  have n5:1+w1<=5:=by omega
  generalize 1+w1=n at *;refine⟨rV,λtl htl=>?_⟩;have s3:=aR htl (.lst []);dsimp only[sL,gy];refine⟨_,rfl,n,rfl,by omega,by omega,?_⟩;refine sf (n:=n.toNat) (λi σ H'=>Same H0 H'/\(∃k,H' tp=some (.lst [.int k]))/\∃l b6,l≠tp/\Ka K H' l (rows tt n i) (λ_=>True)/\σ=[some (.ref a),some (.int c),some (.ref tp),some (.int n),some (.int (1+o)),some (.ref l),b6,b7,b8])
   ⟨S2.trans s3,⟨k2,s3 _ _ e2⟩,tl,_,CW e2 htl,Ka.nil aK,rfl⟩ (λi σ H' hi p=>?_) (λσ H' p=>?_)
  ·obtain⟨S,⟨k,e⟩,l,b6,nl,⟨rs,us,h1,h2,h3,h4⟩,rfl⟩:=p;have ab':=pairs_len (gW (by omega) (by omega) h3).1 (by omega);have hrl:rs.length=us.length:=by rw[h2.len,aD]
   refine⟨_,rfl,_,rfl,_,_,rfl,rfl,_,rfl,_,_,rfl,⟨by omega,by omega,by omega,by omega⟩,?_⟩;refine Nm (n:=(n-(0+(i:Int)+1)).toNat) (λm acc σ H'=>Same H0 H'/\H' l=some (.lst rs)/\cY K H' rs (us.map pairD)/\(∃k,H' tp=some (.lst [.int k]))/\(∃vs:L0,cY K H' acc (vs.map pairD)/\vs.length<=m/\vs.Sublist (row tt (0+(i:Int)) m))/\∃o1,σ=[o1,some (.ref tp),some (.int (1+o)),some (.int (0+(i:Int)))])
    ⟨S,h1,h2,⟨_,e⟩,⟨[],.nil,aP _,Wq _⟩,_,rfl⟩ (λm acc σ H' hm p=>?_) (by rw[gF];omega) (λm acc σ H' hm p=>?_) (λacc σ H' p=>?_)
   ·obtain⟨_,_,_,_,⟨vs,ha,hv,_⟩,_⟩:=p;rw[ha.len,aD];exact hv
   ·obtain⟨S',h1',h2',⟨k',e'⟩,⟨vs,ha,hv,hs⟩,o1,rfl⟩:=p;refine⟨_,rfl,tp,k',5,rfl,e',by decide,by decide,λd k'' d0 d1=>⟨_,rfl,_,_,rfl,rfl,_,rfl,?_⟩⟩;have x2:aW tp H' (upd H' tp (.lst [.int k''])):=(aW.refl _ _).upd;have e3:(upd H' tp (.lst [.int k''])) tp=some (.lst [.int k'']):=aK;have S3:Same H0 (upd H' tp (.lst [.int k''])):=TY S' htp;have h13:=x2 _ _ nl h1';have h23:=jf x2 e' h2';have ha3:=jf x2 e' ha;generalize upd H' tp (.lst [.int k''])=H5 at *;have er:row tt (0+(i:Int)) (m+1)=row tt (0+(i:Int)) m++[(0+(i:Int),0+(i:Int)+1+(m:Int))]:=by rw[Ck,au (show tt _ _=true from rfl)]
    refine nE (λcc=>?_) (λcc=>?_)
    ·refine⟨_,rfl,_,rfl,rV,λp hp=>?_⟩;have s:=aR hp (.tup [.int (0+(i:Int)),.int (0+(i:Int)+1+(m:Int))]);refine⟨S3.trans s,s _ _ h13,h23.same s,⟨_,s _ _ e3⟩,⟨vs++[(0+(i:Int),0+(i:Int)+1+(m:Int))],?_,by rw[lN];exact Nat.succ_le_succ hv,by rw[er];exact hs.append (Wq _)⟩,_,rfl⟩;rw[bR];exact(ha3.same s).append (.cons (.tup (SqT.of aK) (.cons (.int _) (.cons (.int _) .nil))) .nil)
    ·exact⟨S3,h13,h23,⟨_,e3⟩,⟨vs,ha3,by omega,by rw[er];exact hs.trans (Pl _ _)⟩,_,rfl⟩
   ·intro pl hpl;obtain⟨S',h1',h2',⟨k',e'⟩,⟨vs,ha,hv,hs⟩,o1,rfl⟩:=p;have s:=aR hpl (.lst acc);have hal:acc.length=vs.length:=by rw[ha.len,aD]
    refine⟨l,pl,rs,acc,rfl,rfl,s _ _ h1',aK,by rw[gF];omega,λpn hpn=>?_⟩;have s':=aR hpn (.lst (rs++acc));have ss:=s.trans s';refine⟨S'.trans ss,⟨_,ss _ _ e'⟩,pn,_,CW (s _ _ e') hpn,⟨_,us++vs,aK,?_,by rw[nH];exact h3.append hs,λ_ _=>trivial⟩,rfl⟩;rw[bR];exact(h2'.same ss).append (ha.same ss)
  obtain⟨S,⟨k,e⟩,l,b6,nl,⟨rs,us,h1,h2,h3,h4⟩,rfl⟩:=p;refine⟨_,rfl,_,rfl,l,rs,rfl,.inl ⟨ja.of h1,λt ht=>⟨rV,λwb hwb=>?_⟩⟩⟩;have s4:=aR ht (.tup rs);have s5:=aR hwb (.tup [.int n,.ref t]);have s45:=s4.trans s5;obtain⟨g1,g2⟩:=gW (by omega) (by omega) h3;have hW:aZ K (upd (upd H' t (.tup rs)) wb (.tup [.int n,.ref t])) wb n us:=⟨⟨t,rs,SqT.of aK,SqT.of (s5 _ _ aK),h2.same s45⟩,by omega,by omega,g1,g2⟩;have e5:=s45 _ _ e;have S5:=S.trans s45;generalize (upd (upd H' t (.tup rs)) wb (.tup [.int n,.ref t]))=H5 at *;refine⟨_,rfl,n,rfl,by omega,by omega,?_⟩;refine Nm (n:=n.toNat) (λm acc σ H'=>Same H0 H'/\aZ K H' wb n us/\(∃k,H' tp=some (.lst [.int k]))/\(∃wl:ζ,acc=wl.map V.int/\wl.length=m/\∀x∈wl,0<=x/\x<=99)/\∃o1,σ=[o1,some (.ref tp)])
   ⟨S5,hW,⟨_,e5⟩,⟨[],rfl,rfl,λx hx=>(nomatch hx)⟩,_,rfl⟩ (λm acc σ H' hm p=>?_) (by rw[gF];omega) (λm acc σ H' hm p=>?_) (λacc σ H' p=>?_)
  ·obtain⟨_,_,_,⟨wl,rfl,hl,_⟩,_⟩:=p;rw[aD];omega
  ·obtain⟨S',hW',⟨k',e'⟩,⟨wl,rfl,hl,hb⟩,o1,rfl⟩:=p;refine⟨_,rfl,tp,k',100,rfl,e',by decide,by decide,λd k'' d0 d1=>?_⟩;have x2:aW tp H' (upd H' tp (.lst [.int k''])):=(aW.refl _ _).upd;obtain⟨u,rs',g3,g4,g5⟩:=id hW'.web;refine⟨TY S' htp,⟨⟨u,rs',x2.tup e' g3,x2.tup e' g4,jf x2 e' g5⟩,hW'.h0,hW'.h1,hW'.pk,hW'.ok⟩,⟨_,aK⟩,⟨wl++[d],by rw[bR];rfl,by rw[lN,hl];rfl,λx hx=>?_⟩,_,rfl⟩;rcases oE.mp hx with m|m
   ·exact hb x m
   ·rw[jw.mp m];omega
  intro pl hpl;obtain⟨S',hW',⟨k',e'⟩,⟨wl,rfl,hl,hb⟩,o1,rfl⟩:=p;have s6:=aR hpl (.lst (wl.map V.int));refine⟨pl,_,rfl,.inl ⟨ja.of aK,λta hta=>?_⟩⟩;have s7:=aR hta (.tup (wl.map V.int));have Wy:=s6.trans s7;have hW7:=hW'.same Wy;have e7:=Wy _ _ e';have S7:=S'.trans Wy;have ea:(upd (upd H' pl (.lst (wl.map V.int))) ta (.tup (wl.map V.int))) ta=some (.tup (wl.map V.int)):=aK;generalize (upd (upd H' pl (.lst (wl.map V.int))) ta (.tup (wl.map V.int)))=H7 at *;have hwl:qd n wl:=⟨by rw[hl];omega,hb⟩;have hL7:=hL0.same S7;obtain⟨tb,hT⟩:=hL7.at;dsimp only[sL,gy];refine⟨_,rfl,wb,n,us,rfl,hW7,n5,hL7,λH8 x8 L8=>⟨_,rfl,kL ?_⟩⟩;have nT:∀b o,H7 b=some (.lst o)->b≠T:=λb o e z=>by rw[z,hT]at e;cases e
  have e8:=x8 _ _ (nT _ _ e7) e7;have hp8:=x8 _ _ (nT _ _ (S7 _ _ hp)) (S7 _ _ hp);refine⟨_,rfl,_,rfl,wb,ta,n,us,wl,rfl,hW7.tbl x8 hT,xK x8 hT (SqT.of ea),hwl,λH9 s9=>⟨_,rfl,kL ?_⟩⟩;have e9:=s9 _ _ e8;have hp9:=s9 _ _ hp8;have L9:=L8.same s9;refine⟨_,rfl,tp,_,50,rfl,e9,by decide,by decide,λd1 q1 y0 y1=>⟨_,rfl,tp,_,50,rfl,aK,by decide,by decide,λd2 q2 y2 y3=>⟨d1,d2,rfl,y0,y1,y2,y3,λH10 s10=>⟨_,rfl,kL ?_⟩⟩⟩⟩;have x9:aW tp H9 (upd (upd H9 tp (.lst [.int q1])) tp (.lst [.int q2])):=((aW.refl _ _).upd).upd;exact⟨s10 _ _ (x9 _ _ np hp9),(L9.Wx x9 e9).same s10,_,_,_,_,_,_,_,_,rfl⟩
 exact q _
end
end Hs
namespace L2
open PySem
section
variable{K:af}{x y:be}{st:fz}{f C:ag}{fd:χ}{oc:ρ}{od an:Option ag}{osl:Array (Option ρ)}{kV doc pm cdv ct:ρ}{mg:D0}{h:bn}
noncomputable def DA(K:af)(x:be)(st:fz)(f:ag):Prop:=∃fd,pV K x x st f fd/\cE K av x=some (some (.ref f))
theorem DA.of(a:cE K av x=some (some (.ref f)):=by k_is)(l:K.lookup f=some ⟨oc,od,.func (eW x x (qB st) (qf st) (kq st) .none kV doc pm an cdv ct),osl⟩:=by k_is)(c:hZ K cdv x=true:=by k_is)(k:dL K (.ref f)=true:=by k_is):DA K x st f:=⟨_,xo l c k,a⟩
noncomputable def MA(K:af)(C:ag)(x y:be)(st:fz)(f:ag):Prop:=∃fd,pV K x y st f fd/\cS K (.ref C) x=some (some (.ref f))/\ly K (.ref f)=true/\dL K (.ref f)=true
theorem MA.of(a:cS K (.ref C) x=some (some (.ref f)):=by k_is)(l:K.lookup f=some ⟨oc,od,.func (eW x y (qB st) (qf st) (kq st) .none kV doc pm an cdv ct),osl⟩:=by k_is)(c:hZ K cdv y=true:=by k_is)(k:dL K (.ref f)=true:=by k_is)(i:ly K (.ref f)=true:=by k_is):MA K C x y st f:=⟨_,xo l c k,a,i,k⟩
theorem MA.d(F:pV K x y st f fd)(a:cS K (.ref C) x=some (some (.ref f))/\ly K (.ref f)=true/\dL K (.ref f)=true)(b:∀(kV doc pm:ρ) (an:Option ag) (cdv ct:ρ) (us:List ρ),us.length=ps.length->fi (eW x y (qB st) (qf st) (kq st) .none kV doc pm an cdv ct) ⟨us,[]⟩=pure (ps.zip us)):Ke K C x y st ps f fd:=⟨F,F.binds b,⟨a.1,a.2.1,a.2.2⟩⟩
theorem P6{p1:be}{P:List ρ->Prop}(h:∀a,P [a])(us)(hl:us.length=[p1].length):P us:=by
 match us,hl with
 |[a],_=>exact h a
theorem P5{p1 p2:be}{P:List ρ->Prop}(h:∀a b,P [a,b])(us)(hl:us.length=[p1,p2].length):P us:=by
 match us,hl with
 |[a,b],_=>exact h a b
theorem OF{p1 p2 p3:be}{P:List ρ->Prop}(h:∀a b c,P [a,b,c])(us)(hl:us.length=[p1,p2,p3].length):P us:=by
 match us,hl with
 |[a,b,c],_=>exact h a b c
theorem P4{p1 p2 p3 p4:be}{P:List ρ->Prop}(h:∀a b c d,P [a,b,c,d])(us)(hl:us.length=[p1,p2,p3,p4].length):P us:=by
 match us,hl with
 |[a,b,c,d],_=>exact h a b c d
theorem DA.q(a:DA K x st f)(X:K.In h)(G:h.Ns av mg)(ps:List be)(b:∀(kV doc pm:ρ) (an:Option ag) (cdv ct:ρ) (us:List ρ),us.length=ps.length->fi (eW x x (qB st) (qf st) (kq st) .none kV doc pm an cdv ct) ⟨us,[]⟩=pure (ps.zip us):=by first |exactλ_ _ _ _ _ _=>P6 λ_=>rfl|exactλ_ _ _ _ _ _=>P5 λ_ _=>rfl|exactλ_ _ _ _ _ _=>OF λ_ _ _=>rfl|exactλ_ _ _ _ _ _=>P4 λ_ _ _ _=>rfl):∃d,pV K x x st f d/\tR K mg x st ps f d:=by
 obtain⟨d,F,a⟩:=a;exact⟨d,F,F,F.binds b,W.mg_of X G a⟩
theorem MA.q(a:MA K C x y st f)(ps:List be)(b:∀(kV doc pm:ρ) (an:Option ag) (cdv ct:ρ) (us:List ρ),us.length=ps.length->fi (eW x y (qB st) (qf st) (kq st) .none kV doc pm an cdv ct) ⟨us,[]⟩=pure (ps.zip us):=by first |exactλ_ _ _ _ _ _=>P6 λ_=>rfl|exactλ_ _ _ _ _ _=>P5 λ_ _=>rfl|exactλ_ _ _ _ _ _=>OF λ_ _ _=>rfl|exactλ_ _ _ _ _ _=>P4 λ_ _ _ _=>rfl):∃d,pV K x y st f d/\Ke K C x y st ps f d:=by
 obtain⟨d,F,a⟩:=a;exact⟨d,F,F,F.binds b,a.1,a.2.1,a.2.2⟩
end
end L2
namespace Hs
open PySem L2 lQ
theorem len_3{α:Type}:∀{us:List α},us.length=3->∃a b c,us=[a,b,c]
 |[a,b,c],_=>⟨a,b,c,rfl⟩
theorem all_mk{l:iO}(X:K.In h)(G:h.Ns av mg)(hfa:mg "law"=some (.ref fa))(a0:DA K "is_whole" Np f0)(a1:DA K "is_place" pD f1)(a2:DA K "are_places" j8 f2)(a3:DA K "is_rising" Xf f3)(a4:DA K "is_set" fV f4)(a5:DA K "are_ties" pF f5)(a6:DA K "is_web" vR f6)(a7:DA K "need_web" yQ f7)(a8:DA K "need_set" pC f8)(a9:DA K "need_from_to" ig f9)(a10:DA K "need_few" j6 f10)(a11:DA K "pairs" qG f11)(a12:DA K "all_sets" iz f12)(a13:DA K "without" V5 f13)(a14:DA K "has_tie" gP f14)(a15:DA K "count_ties_in" gA f15)(a16:DA K "places_by_tie" gk f16)(a17:DA K "in_both" rR f17)(a18:DA K "full_sets" mH f18)(a19:DA K "full_apart" gH f19)(a20:DA K "greatest_divisor" IG f20)(a21:DA K "lowest" fU f21)(a22:DA K "plus" Gs f22)(a23:DA K "times" zN f23)(a24:DA K "is_less" Ti f24)(a25:DA K "is_fraction" Fc f25)(a26:DA K "sum_of" gZ f26)(a27:DA K "need_wants" EF f27)(a28:DA K "shares" lZ f28)(a29:DA K "value" j5 f29)(a30:DA K "is_share" iu f30)(a31:DA K "is_laying" fW f31)(a32:DA K "gets" Gu f32)(a33:DA K "is_enough" jc f33)(a34:DA K "outweighs" mj f34)(a35:DA K "are_prices" j7 f35)(a36:DA K "can_stand_with" fG f36)(a37:DA K "first_parts" fM f37)(a38:DA K "highest_floor" ID f38)(a39:DA K "highest_floors" LS f39)(a40:cE K av "best_part"=some (some (.ref f40)))(l40:K.lookup f40=some ⟨ab5,ab3,.func (eW "best_part" "best_part" (qB Tj) (qf Tj) (kq Tj) .none ab7 acg ab1 acj (.ref cL) ach),abZ⟩)(c40:hZ K (.ref cL) "best_part"=true)(k40:dL K (.ref f40)=true)(a41:DA K "hues_by_floors" IF f41)(a42:DA K "fewest" qH f42)(a43:DA K "are_hues" pJ f43)(a44:DA K "have_all_sets" gq f44)(a45:DA K "are_floors" j9 f45)(a46:DA K "is_tie_within" gn f46)(a47:DA K "within" vO f47)(a48:DA K "cut_down" iy f48)(a49:DA K "each_so_many" iw f49)(a50:DA K "is_row" vU f50)(a51:DA K "have_in_common" LP f51)(a52:DA K "are_rows" pH f52)(a53:DA K "sets_by_hue" jo f53)(a54:DA K "hues_of" rT f54)(a55:DA K "spread" vP f55)(a56:DA K "value_without" IE f56)(a57:DA K "needed_in" iZ f57)(a58:DA K "needed" vQ f58)(a59:DA K "held_part" mD f59)(a60:DA K "is_part" rQ f60)(a61:DA K "_law_adraw" mq f61)(a62:DA K "_law_ahues_right" LU f62)(a63:DA K "_law_ashares_right" LY f63)(a64:DA K "_law_afractions_right" Mc f64)(a65:cE K av "law"=some (some (.ref f65)))(l65:K.lookup f65=some ⟨ab4,ab2,.func (eW "law" "law" (qB tY) (qf tY) (kq tY) .none abA abP abu abT abj abS),abY⟩)(c65:hZ K abj "law"=true)(k65:dL K (.ref f65)=true)(x0:cE K av "MOST_PLACES"=some (some (.int 10 tk0)))(x1:cE K av "MOST_BOTTOM"=some (some (.int 1000000000 tk1)))(x2:cE K av "MOST_WANT"=some (some (.int 99 tk2)))(x3:cE K av "MOST_EACH"=some (some (.int 5 tk3)))(z0:cE K av "abs"=some none)(z1:cE K av "all"=some none)(z2:cE K av "any"=some none)(z3:cE K av "bool"=some none)(z4:cE K av "dict"=some none)(z5:cE K av "enumerate"=some none)(z6:cE K av "int"=some none)(z7:cE K av "isinstance"=some none)(z8:cE K av "len"=some none)(z9:cE K av "list"=some none)(z10:cE K av "max"=some none)(z11:cE K av "min"=some none)(z12:cE K av "range"=some none)(z13:cE K av "set"=some none)(z14:cE K av "sorted"=some none)(z15:cE K av "tuple"=some none)(z16:cE K av "zip"=some none)(y0:cE K av "Tableau"=some (some (.ref aG)))(ma0:MA K aG "__init__" "Tableau.__init__" iC mf0)(ma1:MA K aG "next_column" "Tableau.next_column" Mb mf1)(ma2:MA K aG "is_tighter" "Tableau.is_tighter" LZ mf2)(ma3:MA K aG "next_row" "Tableau.next_row" LV mf3)(ma4:MA K aG "turned" "Tableau.turned" fH mf4)(ma5:MA K aG "turn" "Tableau.turn" iB mf5)(ma6:MA K aG "solve" "Tableau.solve" gB mf6)(ma7:MA K aG "fraction_at" "Tableau.fraction_at" Fm mf7)(ma8:MA K aG "price_of" "Tableau.price_of" LW mf8)(ma9:MA K aG "share_of" "Tableau.share_of" LX mf9)(Ik:io K aG Str.empty=true)(Ij:jp K aG=true)(Ii:om K aG=true)(Ih:cS K (.ref aG) "__setattr__"=some (some (.builtin "object.__setattr__")))(Ig:W.makesIn K aG=true)(Ie:dL K (.ref aG)=true)(tu:cS K (.ref aG) "cells"=some none)(uD:cS K (.ref aG) "over"=some none)(qb:cS K (.ref aG) "columns"=some none)(uz:cS K (.ref aG) "rows"=some none):
  ∃fd:χ,(∀(s:τ) (v:ρ),kx s fd ⟨[v],[]⟩ [("script",v)])/\∀base:bn,K.In base->base.Ns av mg->Eo base mg cL T->gx l.prog w K mg base kG 15 fa fd ["script"] (rN T K):=by
 have e:=hfa.symm.trans (Xu X G a65);cases e;obtain⟨d0,F0,cQ⟩:=a0.q X G ["thing"];obtain⟨d1,F1,Iv⟩:=a1.q X G ["n","thing"];obtain⟨d2,F2,Bl⟩:=a2.q X G ["n","things"];obtain⟨d3,F3,jk⟩:=a3.q X G ["things"];obtain⟨d4,F4,jO⟩:=a4.q X G ["n","thing"];obtain⟨d5,F5,Iw⟩:=a5.q X G ["n","thing"];obtain⟨d6,F6,R3⟩:=a6.q X G ["thing"];obtain⟨d7,F7,aV⟩:=a7.q X G ["thing"];obtain⟨d8,F8,Iu⟩:=a8.q X G ["web","thing"];obtain⟨d9,F9,wO⟩:=a9.q X G ["least","most","thing"];obtain⟨d10,F10,wQ⟩:=a10.q X G ["n"];obtain⟨d11,F11,Bj⟩:=a11.q X G ["n"];obtain⟨d12,F12,qg⟩:=a12.q X G ["n"];obtain⟨d13,F13,jM⟩:=a13.q X G ["some","part"];obtain⟨d14,F14,nQ⟩:=a14.q X G ["web","one","other"];obtain⟨d15,F15,uI⟩:=a15.q X G ["web","some"];obtain⟨d16,F16,uF⟩:=a16.q X G ["web","place","tied"];obtain⟨d17,F17,Mx⟩:=a17.q X G ["ones","others"];obtain⟨d18,F18,Eu⟩:=a18.q X G ["friends"];obtain⟨d19,F19,rD⟩:=a19.q X G ["web"];obtain⟨d20,F20,iJ⟩:=a20.q X G ["one","other"];obtain⟨d21,F21,jN⟩:=a21.q X G ["a","b"];obtain⟨d22,F22,Z1⟩:=a22.q X G ["one","other"];obtain⟨d23,F23,V4⟩:=a23.q X G ["one","other"];obtain⟨d24,F24,gR⟩:=a24.q X G ["one","other"];obtain⟨d25,F25,jt⟩:=a25.q X G ["thing"];obtain⟨d26,F26,m9⟩:=a26.q X G ["fractions"];obtain⟨d27,F27,gK⟩:=a27.q X G ["web","thing"];obtain⟨d28,F28,wN⟩:=a28.q X G ["web","wants"];obtain⟨d29,F29,rB⟩:=a29.q X G ["web"];obtain⟨d30,F30,wR⟩:=a30.q X G ["web","thing"];obtain⟨d31,F31,uq⟩:=a31.q X G ["web","thing"];obtain⟨d32,F32,Z6⟩:=a32.q X G ["laying","place","want"];obtain⟨d33,F33,Es⟩:=a33.q X G ["web","wants","laying","number"];obtain⟨d34,F34,Ep⟩:=a34.q X G ["some","prices"];obtain⟨d35,F35,Bk⟩:=a35.q X G ["web","wants","prices","number"];obtain⟨d36,F36,tO⟩:=a36.q X G ["web","part","place"];obtain⟨d37,F37,oO⟩:=a37.q X G ["web","some"];obtain⟨d38,F38,lD⟩:=a38.q X G ["web","floors","some"];obtain⟨d39,F39,tL⟩:=a39.q X G ["web"];have F40:=xo (st:=Tj) l40 c40 k40;have Ey:tR K mg "best_part" Tj ["web","floors","some"] f40 _:=⟨F40,F40.binds (ps:=["web","floors","some"]) (λ_ _ _ _ _ _ us hl=>by obtain⟨u0,u1,u2,rfl⟩:=Hs.len_3 hl;rfl),Xu X G a40⟩;obtain⟨d41,F41,tK⟩:=a41.q X G ["web","floors"];obtain⟨d42,F42,Ew⟩:=a42.q X G ["web"];obtain⟨d43,F43,IK⟩:=a43.q X G ["web","hues"];obtain⟨d44,F44,uH⟩:=a44.q X G ["n","floors"];obtain⟨d45,F45,Bm⟩:=a45.q X G ["web","floors","number"];obtain⟨d46,F46,uG⟩:=a46.q X G ["one","other","tie"];obtain⟨d47,F47,RX⟩:=a47.q X G ["one","other"];obtain⟨d48,F48,qe⟩:=a48.q X G ["web","some"];obtain⟨d49,F49,wU⟩:=a49.q X G ["web","b"];obtain⟨d50,F50,R9⟩:=a50.q X G ["b","thing"];obtain⟨d51,F51,tM⟩:=a51.q X G ["one","other"];obtain⟨d52,F52,Iz⟩:=a52.q X G ["web","b","rows"];obtain⟨d53,F53,xX⟩:=a53.q X G ["laying","b"];obtain⟨d54,F54,Mz⟩:=a54.q X G ["sets","place"];obtain⟨d55,F55,RZ⟩:=a55.q X G ["web"];obtain⟨d56,F56,lC⟩:=a56.q X G ["web","some","place"];obtain⟨d57,F57,uo⟩:=a57.q X G ["web","some"];obtain⟨d58,F58,R0⟩:=a58.q X G ["web"];obtain⟨d59,F59,Et⟩:=a59.q X G ["web"];obtain⟨d60,F60,Mw⟩:=a60.q X G ["web","some"];obtain⟨d61,F61,Er⟩:=a61.q X G ["tape","many"];obtain⟨d62,F62,rC⟩:=a62.q X G ["net"];obtain⟨d63,F63,n6⟩:=a63.q X G ["net","asks"];obtain⟨d64,F64,lg⟩:=a64.q X G ["first","second"];have F65:=xo (st:=tY) l65 c65 k65;have oH:=Xu X G x0;have xH:=Xu X G x1;have BP:=Xu X G x2;have BR:=Xu X G x3;have WR:=BL X G z0;have jg:=BL X G z1;have Qo:=BL X G z2;have Y0:=BL X G z3;have YZ:=BL X G z4;have fY:=BL X G z5;have aaA:=BL X G z6;have aO:=BL X G z7;have eU:=BL X G z8;have sE:=BL X G z9;have aaz:=BL X G z10;have JH:=BL X G z11;have bZ:=BL X G z12;have aay:=BL X G z13;have CZ:=BL X G z14;have bF:=BL X G z15;have aax:=BL X G z16;have sJ:=Xu X G y0;obtain⟨md0,FM0,ma0⟩:=ma0;have qp:=MA.d (ps:=["self","sets","wants"]) FM0 ma0 (λ_ _ _ _ _ _=>OF λ_ _ _=>rfl);obtain⟨md1,FM1,lK⟩:=ma1.q ["self"];obtain⟨md2,FM2,nq⟩:=ma2.q ["self","column","row","other"];obtain⟨md3,FM3,qm⟩:=ma3.q ["self","column"];obtain⟨md4,FM4,tQ⟩:=ma4.q ["self","cells","pivots","column"];obtain⟨md5,FM5,wV⟩:=ma5.q ["self","row","column"];obtain⟨md6,FM6,uJ⟩:=ma6.q ["self"];obtain⟨md7,FM7,cX⟩:=ma7.q ["self","row","column"];obtain⟨md8,FM8,ql⟩:=ma8.q ["self","name"];obtain⟨md9,FM9,qj⟩:=ma9.q ["self","name"];have bY:wm K aG:=⟨Ik,Ij,Ii,Ih⟩;have dg:iF K aG "cells":=tu;have eO:iF K aG "over":=uD;have bV:iF K aG "columns":=qb;have eG:iF K aG "rows":=uz;have mk_Tableau:Mk K aG mf0:=⟨Ig,ma0.1,ma0.2.1,Ie⟩;refine⟨eW "law" "law" (qB tY) (qf tY) (kq tY) .none abA abP abu abT abj abS,λs v=>.of_eq rfl,λbase _ _ LB=>?_⟩;have Vw:=Qj (P:=l.prog) (w:=w) (mg:=mg) (base:=base) F61;have gJ:=PN (P:=l.prog) (w:=w) (base:=base) F0 aO aaA Y0;have Vr:=Qe F1 cQ gJ;have QW:=Lk F2 Iv Vr jg;have wB:=Lj (P:=l.prog) (w:=w) (mg:=mg) (base:=base) F3 jg bZ eU;have yw:=YF F4 ⟨Bl,QW⟩ ⟨jk,wB⟩ aO bF;have Zv:=Um F5 ⟨jO,yw⟩ ⟨jk,wB⟩ aO bF jg eU;have aaU:=Yr F6 ⟨cQ,gJ⟩ ⟨Iw,Zv⟩ aO bF eU oH;have bB:=GQ F7 ⟨R3,aaU⟩;have ji:=zV F27 ⟨cQ,gJ⟩ eU aO bF jg BP;have QZ:=Lp (P:=l.prog) (w:=w) (mg:=mg) (base:=base) F17;have Hy:=CP F18 ⟨Mx,QZ⟩ sE bZ eU CZ;have JW:=YQ (P:=l.prog) (w:=w) (mg:=mg) (base:=base) F14 JH aaz;have Vv:=Qi F16 ⟨nQ,JW⟩ bZ;have ug:=zY F19 ⟨aV,bB⟩ ⟨Eu,Hy⟩ ⟨uF,Vv⟩ bZ;have Zw:=Uo (P:=l.prog) (w:=w) (mg:=mg) (base:=base) FM0 bY dg eO bV eG eU bZ sE;have aa2:=YC (P:=l.prog) (w:=w) (mg:=mg) (base:=base) FM1 bY dg eO bV eG fY JH;have aaX:=Yw (P:=l.prog) (w:=w) (mg:=mg) (base:=base) FM4 bY dg eO bV eG fY;have aaV:=Yu FM5 bY dg eO bV eG tQ aaX;have aaW:=Yv (P:=l.prog) (w:=w) (mg:=mg) (base:=base) FM2 bY dg eO bV eG;have aa1:=YB FM3 bY dg eO bV eG nq aaW bZ eU;have aaY:=Yx FM6 bY dg eO bV eG lK aa2 wV aaV qm aa1;have aa7:=RY (P:=l.prog) (w:=w) (mg:=mg) (base:=base) F20;have yC:=YK F21 ⟨iJ,aa7⟩ WR;have QT:=YD FM7 bY dg eO bV eG ⟨jN,yC⟩;have aaZ:=Yy FM9 bY dg eO bV eG ⟨jN,yC⟩ cX QT;have aa0:=Yz FM8 bY dg eO bV eG ⟨jN,yC⟩ cX QT;have wA:=Li F28 bY dg eO bV eG sJ ⟨aV,bB⟩ ⟨gK,ji⟩ ⟨rD,ug⟩ qp mk_Tableau Zw uJ aaY qj aaZ ql aa0 cX QT fY bZ;have qR:=PX F29 ⟨aV,bB⟩ ⟨wN,wA⟩;have Hw:=Uu F25 ⟨cQ,gJ⟩ eU aO bF xH;have Vu:=Qh (P:=l.prog) (w:=w) (mg:=mg) (base:=base) F15 eU;have Mg:=GZ F30 ⟨jt,Hw⟩ ⟨jO,yw⟩ ⟨uI,Vu⟩ eU aO bF;have Ma:=GK (P:=l.prog) (w:=w) (mg:=mg) (base:=base) F3 jg bZ eU;have Hv:=CK F31 ⟨wR,Mg⟩ ⟨jk,Ma⟩ jg aO sE;have wC:=Us (P:=l.prog) (w:=w) (mg:=mg) (base:=base) F24;have qT:=Qc F26 ⟨iJ,aa7⟩;have ZD:=Ux F32 ⟨gR,wC⟩ ⟨m9,qT⟩;have Hx:=CN F33 ⟨aV,bB⟩ ⟨gK,ji⟩ ⟨uq,Hv⟩ ⟨Z6,ZD⟩ ⟨gR,wC⟩ ⟨m9,qT⟩ jg fY;have Hu:=CJ F30 ⟨jt,Hw⟩ ⟨jO,yw⟩ eU aO bF;have DK:=zW F31 ⟨wR,Hu⟩ jg aO sE;have DP:=zX F33 ⟨aV,bB⟩ ⟨gK,ji⟩ ⟨uq,DK⟩;have DN:=Hx.or DP;have Zy:=Ur F34 ⟨gR,wC⟩ ⟨m9,qT⟩;have DR:=zZ F35 ⟨aV,bB⟩ ⟨gK,ji⟩ ⟨jt,Hw⟩ ⟨rD,ug⟩ ⟨Ep,Zy⟩ ⟨m9,qT⟩ ⟨gR,wC⟩ jg eU aO sE Qo aax;have Hz:=CQ F63 wN wA rB qR Es DN Bk DR;have sU:=Hi (P:=l.prog) (w:=w) (mg:=mg) (base:=base) F12 bZ;have Vq:=Qd F36 ⟨nQ,JW⟩ Qo;have DQ:=Lr F37 ⟨tO,Vq⟩;have sS:=GJ (P:=l.prog) (w:=w) (mg:=mg) (base:=base) F13 bF;have Q0:=Uv F38 ⟨oO,DQ⟩ ⟨jM,sS⟩ JH;have Vt:=Qg F39 ⟨qg,sU⟩ ⟨lD,Q0⟩;have ZG:=Uz F40 rfl LB ⟨oO,DQ⟩ jM sS JH;have aa8:=YW F41 ⟨Ey,ZG⟩ ⟨jM,sS⟩ bF bZ;have W7:=YS F42 ⟨aV,bB⟩ ⟨tL,Vt⟩ ⟨tK,aa8⟩ bF bZ;have ZJ:=UG F43 ⟨aV,bB⟩ ⟨cQ,gJ⟩ eU aO bF jg;have Mh:=Hg F44 ⟨qg,sU⟩ ⟨cQ,gJ⟩ ⟨jO,yw⟩ eU YZ jg aO;have ZK:=UJ F45 ⟨aV,bB⟩ ⟨uH,Mh⟩ ⟨qg,sU⟩ ⟨lD,Q0⟩ jg bF bZ;have Q5:=Lq F9 ⟨cQ,gJ⟩;have yx:=GX (P:=l.prog) (w:=w) (base:=base) F10 oH;have HB:=UL (P:=l.prog) (w:=w) (base:=base) F11 bZ;have Vp:=Qa F46 ⟨nQ,JW⟩;have QS:=Lg F47 ⟨aV,bB⟩ ⟨wQ,yx⟩ ⟨Bj,HB⟩ ⟨uG,Vp⟩ bF;have ZF:=Uy F49 aV bB ⟨wO,Q5⟩ ⟨wQ,yx⟩ ⟨Ew,W7⟩ ⟨RX,QS⟩ ⟨Bj,HB⟩ bF bZ CZ BR;have QX:=Ln F50 ⟨jk,wB⟩ ⟨cQ,gJ⟩ eU aO bF jg;have ZC:=Uw (P:=l.prog) (w:=w) (mg:=mg) (base:=base) F51 eU aay;have Mi:=Hh F52 ⟨aV,bB⟩ ⟨cQ,gJ⟩ ⟨R9,QX⟩ ⟨tM,ZC⟩ jg eU aO sE Qo;have aa3:=YG (P:=l.prog) (w:=w) (mg:=mg) (base:=base) F53;have aa6:=YM (P:=l.prog) (w:=w) (mg:=mg) (base:=base) F54 fY;have QV:=Lh F55 ⟨aV,bB⟩ ⟨wN,wA⟩ ⟨m9,qT⟩ ⟨xX,aa3⟩ ⟨Mz,aa6⟩ bZ bF;have Mf:=GR F8 ⟨jO,yw⟩;have Q6:=YT F48 ⟨aV,bB⟩ ⟨Iu,Mf⟩ ⟨Bj,HB⟩ ⟨nQ,JW⟩ bF eU;have wz:=CG (P:=l.prog) (w:=w) (mg:=mg) (base:=base) F13 bF;have W5:=Yt F56 ⟨rB,qR⟩ ⟨qe,Q6⟩ ⟨jM,wz⟩;have aa5:=YL F59 ⟨aV,bB⟩ ⟨rB,qR⟩ ⟨lC,W5⟩ ⟨jM,wz⟩ bF bZ;have W6:=YH F57 ⟨rB,qR⟩ ⟨qe,Q6⟩ ⟨gR,wC⟩ ⟨lC,W5⟩ bF;have aa4:=YJ F58 ⟨aV,bB⟩ ⟨uo,W6⟩ bF bZ;have Zz:=Ut F60 ⟨aV,bB⟩ ⟨rB,qR⟩ ⟨qe,Q6⟩ ⟨jO,yw⟩ ⟨uo,W6⟩;have Q7:=Ls F62 Ew W7 IK ZJ Bm ZK wU ZF Iz Mi RZ QV Et aa5 R0 aa4 Mw Zz;have Vo:=P0 F23 ⟨jN,yC⟩;have Zx:=Uq F22 ⟨jN,yC⟩;have Vs:=Qf (P:=l.prog) (w:=w) (mg:=mg) (base:=base) F24;have ZL:=UW F64 jN yC V4 Vo Z1 Zx gR Vs;exact DS F65 ⟨Er,Vw⟩ ⟨n6,Hz⟩ ⟨rC,Q7⟩ ⟨lg,ZL⟩ WR bZ bF
theorem walk{l:iO}{q:υ}{loose:List be}{XP:(D0)->bn->Prop}{YP:ψ->bn->Prop}{d:DefRec}{K:Params->af}{cL T:ag}(hn:l.most=some 63)(hdf:d.params.defaults=[])(hY:∀(w:ψ) (h:bn),YP w h->(K w.params).In h/\h.get? T=some (iE #[]))
  (F:∀(w:ψ) (mg:D0) (fa:ag) (h:bn),(K w.params).In h->h.Ns av mg->mg d.name=some (.ref fa)->
   ∃fd:χ,(∀(s:τ) (u:ρ),kx s fd ⟨[u],[]⟩ [("script",u)])/\∀base:bn,(K w.params).In base->base.Ns av mg->Eo base mg cL T->gx l.prog w (K w.params) mg base kG 15 fa fd ["script"] (rN T (K w.params)))(hc:∀w:ψ,W.codeHdIn (K w.params) cL T=true)(hKT:∀w:ψ,(K w.params).lookup T=none):
  W.WalkO q loose XP YP l.row.toRowW d [] (λf vs=>lI f vs):=
 L2.Nz (n:=63) (k:=15) (x:="script") (CX:=kG) (sp:=rN) hn (by decide) hdf ⟨rfl,by decide,by decide,rfl⟩ hY hc hKT F (λ_ _ a ns hl hO hS=>KY hl hO hS) λ_ _ _ _ z=>z
end Hs
open PySem PySem.W PyProof.Rows
set_option maxRecDepth 100000 in
set_option maxHeartbeats 0 in
theorem PySem.Challenge.cw_hueshare_k34_arguments_by_their_names_holds : PySem.Challenge.rw_hueshare_k34_arguments_by_their_names.Holds := by
 apply Hd.early.2;unfold Hd.early;dsimp only
 k_fill
 refine' Hs.walk (l:=PySem.Challenge.rw_hueshare_k34_arguments_by_their_names) rfl rfl (λw h Y=>⟨W.km_in_of Y,W.km_tabs_of Y _ dZ⟩) ?F ?C ?D
 case F=>
  intro w mg fa h KX G hmg
  refine' Hs.all_mk KX G hmg .of .of .of .of .of .of .of .of .of .of .of .of .of .of .of .of .of .of .of .of .of .of .of .of .of .of .of .of .of .of .of .of .of .of .of .of .of .of .of .of (by k_is) (by k_is) (by k_is) (by k_is) .of .of .of .of .of .of .of .of .of .of .of .of .of .of .of .of .of .of .of .of .of .of .of .of (by k_is) (by k_is) (by k_is) (by k_is) (by k_is) (by k_is) (by k_is) (by k_is) (by k_is) (by k_is) (by k_is) (by k_is) (by k_is) (by k_is) (by k_is) (by k_is) (by k_is) (by k_is) (by k_is) (by k_is) (by k_is) (by k_is) (by k_is) (by k_is) (by k_is) (by k_is) .of .of .of .of .of .of .of .of .of .of (by k_is) (by k_is) (by k_is) (by k_is) (by k_is) (by k_is) (by k_is) (by k_is) (by k_is) (by k_is)
 case C=>intro w;kernel_rfl
 case D=>intro w;kernel_rfl
